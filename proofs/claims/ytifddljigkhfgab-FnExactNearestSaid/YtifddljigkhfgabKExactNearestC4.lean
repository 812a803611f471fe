/- The functions compute what their models say. -/
import Derived.Test.YtifddljigkhfgabKExactNearestC3
set_option linter.unusedVariables false
set_option linter.unusedSimpArgs false
set_option maxRecDepth 20000
namespace Go.Vs
open Go Go.Proofs
attribute [local irreducible] Code.wp Code.wpIn wpList wpListIn wpQuiet Calls CallsIn

theorem c_slices_reverseRangeCmpFunc_impl_Hit__impl_compareHits {data_0 : List (Int × Int)} {a_1 : Int} {b_2 : Int} {adata_0 : Option Addr} {cdata_0 : Nat} {r : (List (Int × Int))} (h : M.slices_reverseRangeCmpFunc_impl_Hit__impl_compareHits data_0 a_1 b_2 = some r) :
    Cal2 Try.prog 147 [(Sl adata_0 data_0 cdata_0), (I a_1), (I b_2), (.func (.func 101) #[] #[])] [Ch.own 0 0 (Sl adata_0 data_0 cdata_0) data_0] (fun n0 v L => v = (.tuple #[]) ∧ L = [Ch.own 0 0 (Sl adata_0 r cdata_0) r] ∧ r.length = data_0.length) := by
 refine cal2 (n := 34) Try.func147 rfl rfl rfl rfl ?_
 intro S0 σ0 n0 hn0 H
 unfold M.slices_reverseRangeCmpFunc_impl_Hit__impl_compareHits at h
 refine c_seq ?_
 refine rg ?_
 refine st (v := (I a_1)) (rv_move rfl) ?_
 refine st (v := (I a_1)) (rv_assign rfl) ?_
 refine w_end ?_
 refine q_then ?_
 refine c_seq ?_
 refine rg ?_
 refine st (v := (I b_2)) (rv_move rfl) ?_
 refine st (v := (I (w64 (b_2 - 1)))) (rv_sub (a := b_2) (b := 1) rfl rfl) ?_
 refine st (v := (I (w64 (b_2 - 1)))) (rv_assign rfl) ?_
 refine w_end ?_
 refine q_then ?_
 obtain ⟨o1, hj, h'⟩ := bind_some h
 clear h
 refine c_cut (fun e a w => e = .normal ∧ ∃ (ρ : Nat → Value) (σ : St), a = fr 34 (updL ρ [(0, (Sl adata_0 o1 cdata_0))]) ∧ w = σ.w ∧ Hp S0 σ0 σ [Ch.own 0 0 (Sl adata_0 o1 cdata_0) o1] ∧ o1.length = data_0.length) ?_ ?_
 ·clear h'
  rename _ = some o1 => h
  refine c_blk ?_
  refine wp_loopM _ h (fun s2 a w => ∃ (ρ : Nat → Value) (σ : St), a = fr 34 (updL ρ [(0, (Sl adata_0 s2.1 cdata_0)), (8, (I s2.2.1)), (9, (I s2.2.2))]) ∧ w = σ.w ∧ Hp S0 σ0 σ [Ch.own 0 0 (Sl adata_0 s2.1 cdata_0) s2.1] ∧ s2.1.length = data_0.length) ⟨_, σ0, fr_join ⟨rfl, rfl, rfl, trivial⟩, rfl, H.sel' [0] rfl rfl, rfl⟩ ?_
  clear h H
  rintro s2 a w o ⟨ρ, σ3, rfl, rfl, H, hn4⟩ h hres
  refine c_seq ?_
  refine c_seq ?_
  refine rg ?_
  refine st (v := (I s2.2.1)) (rv_move rfl) ?_
  refine st (v := (I s2.2.2)) (rv_move rfl) ?_
  refine st (v := (B (decide (s2.2.1 < s2.2.2)))) (rv_lss (a := s2.2.1) (b := s2.2.2) rfl rfl) ?_
  refine w_end ?_
  refine q_then ?_
  refine cd_cond (decide (s2.2.1 < s2.2.2)) rfl (fun hb5 => ?_) (fun hb5 => ?_)
  ·replace h := bif_t hb5 h
   refine c_skip ?_
   refine q_then ?_
   refine c_blk ?_
   refine c_seq ?_
   obtain ⟨x6, hx7, h'⟩ := bind_some h
   clear h
   have h := h'; clear h'
   obtain ⟨b9, o10, hi8, -⟩ := (H.own 0 rfl).ix hx7
   obtain ⟨_, ⟨_, _, rfl, rfl, rfl⟩, hl11, hc12⟩ := ((H.own 0 rfl).at hx7 hi8).cells
   obtain ⟨x13, hx14, h'⟩ := bind_some h
   clear h
   have h := h'; clear h'
   obtain ⟨b16, o17, hi15, -⟩ := (H.own 0 rfl).ix hx14
   obtain ⟨_, ⟨_, _, rfl, rfl, rfl⟩, hl18, hc19⟩ := ((H.own 0 rfl).at hx14 hi15).cells
   obtain ⟨x20, hx21, h'⟩ := bind_some h
   clear h
   have h := h'; clear h'
   obtain ⟨b23, o24, hi22, -⟩ := (H.own 0 rfl).ix hx21
   have Hs := H
   refine rg2 (σ := σ3) (Nm := Unit) 14 [13] [[false], [true]] [[(0, 0)], [(0, 0)], [(0, 0), (1, 1)], [(0, 0), (1, 1)], [(0, 0)], [(0, 0)], [(0, 0)], [(0, 0)], [(0, 0)], [(0, 0)], [(0, 0)], [(0, 0)], [(0, 0)], [(0, 1)]] 1 [fun (_nm : Unit) => fun σm => Hp S0 σ0 σm [Ch.own 0 0 (Sl adata_0 s2.1 cdata_0) s2.1] ∧ Md (cov []) σ3 σm, fun (_nm : Unit) => fun σm => Hp S0 σ0 σm [Ch.own 0 0 (Sl adata_0 s2.1 cdata_0) (s2.1.set s2.2.1.toNat (x6.1, x6.2))] ∧ Md (fun i => (cov []) i ∨ (fun b => blk (Sl adata_0 s2.1 cdata_0) = some b) i) σ3 σm] [fun (_nm : Unit) => (Sl adata_0 s2.1 cdata_0), fun (_nm : Unit) => (I s2.2.1), fun (_nm : Unit) => (Sl adata_0 s2.1 cdata_0), fun (_nm : Unit) => (I s2.2.2), fun (_nm : Unit) => (Sl adata_0 s2.1 cdata_0), fun (_nm : Unit) => (I s2.2.2), fun (_nm : Unit) => (pt b9 o10), fun (_nm : Unit) => (.agg #[(I x6.1), (I x6.2)]), fun (_nm : Unit) => (Sl adata_0 s2.1 cdata_0), fun (_nm : Unit) => (I s2.2.1), fun (_nm : Unit) => (pt b16 o17), fun (_nm : Unit) => (.agg #[(I x13.1), (I x13.2)]), fun (_nm : Unit) => (pt b23 o24), fun (_nm : Unit) => undef] () (by kernel_rfl) (by kernel_rfl) ?_ ?_ ?_
   ·intro σm m0
    exact ⟨H.grow (m0.mono fun _ h => h.elim), m0⟩
   ·refine all_cons (obs_v rfl (by
      intro k; intro _nm ρ σm hJ hoff hdep
      have e0 : look 34 ρ 0 = (Sl adata_0 s2.1 cdata_0) := look_off (hoff 0 rfl) rfl
      exact dp_v (v := (Sl adata_0 s2.1 cdata_0)) (wanted_none _ rfl _) (rv_move e0) rfl hJ)) ?_
    refine all_cons (obs_v rfl (by
      intro k; intro _nm ρ σm hJ hoff hdep
      have e8 : look 34 ρ 8 = (I s2.2.1) := look_off (hoff 8 rfl) rfl
      exact dp_v (v := (I s2.2.1)) (wanted_none _ rfl _) (rv_move e8) rfl hJ)) ?_
    refine all_cons (obs_v rfl (by
      intro k; intro _nm ρ σm hJ hoff hdep
      have e0 : look 34 ρ 0 = (Sl adata_0 s2.1 cdata_0) := look_off (hoff 0 rfl) rfl
      exact dp_v (v := (Sl adata_0 s2.1 cdata_0)) (wanted_none _ rfl _) (rv_move e0) rfl hJ)) ?_
    refine all_cons (obs_v rfl (by
      intro k; intro _nm ρ σm hJ hoff hdep
      have e9 : look 34 ρ 9 = (I s2.2.2) := look_off (hoff 9 rfl) rfl
      exact dp_v (v := (I s2.2.2)) (wanted_none _ rfl _) (rv_move e9) rfl hJ)) ?_
    refine all_cons (obs_v rfl (by
      intro k; intro _nm ρ σm hJ hoff hdep
      have e0 : look 34 ρ 0 = (Sl adata_0 s2.1 cdata_0) := look_off (hoff 0 rfl) rfl
      exact dp_v (v := (Sl adata_0 s2.1 cdata_0)) (wanted_none _ rfl _) (rv_move e0) rfl hJ)) ?_
    refine all_cons (obs_v rfl (by
      intro k; intro _nm ρ σm hJ hoff hdep
      have e9 : look 34 ρ 9 = (I s2.2.2) := look_off (hoff 9 rfl) rfl
      exact dp_v (v := (I s2.2.2)) (wanted_none _ rfl _) (rv_move e9) rfl hJ)) ?_
    refine all_cons (obs_v rfl (by
      intro k; intro _nm ρ σm hJ hoff hdep
      have e20 : look 34 ρ 20 = (Sl adata_0 s2.1 cdata_0) := hdep 4 rfl rfl 20 rfl
      have e21 : look 34 ρ 21 = (I s2.2.2) := hdep 5 rfl rfl 21 rfl
      exact dp_v (v := (pt b9 o10)) (wanted_none _ rfl _) (rv_ix Try.underlying27 ti64 e20 e21 hi8) rfl hJ)) ?_
    refine all_cons (by
      refine ⟨?_, ?_⟩
      ·intro _nm ρ σm hJ hoff hdep
       have e22 : look 34 ρ 22 = (pt b9 o10) := hdep 6 rfl rfl 22 rfl
       obtain ⟨H, m⟩ := id hJ
       obtain ⟨_, ⟨_, _, rfl, rfl, rfl⟩, hl11, hc12⟩ := ((H.own 0 rfl).at hx7 hi8).cells
       exact dp_v (v := (.agg #[(I x6.1), (I x6.2)])) (wanted_none _ rfl _) (rv_load Try.underlying64 rfl ti64 e22 hl11 hc12) rfl hJ
      trivial) ?_
    refine all_cons (obs_v rfl (by
      intro k; intro _nm ρ σm hJ hoff hdep
      have e0 : look 34 ρ 0 = (Sl adata_0 s2.1 cdata_0) := look_off (hoff 0 rfl) rfl
      exact dp_v (v := (Sl adata_0 s2.1 cdata_0)) (wanted_none _ rfl _) (rv_move e0) rfl hJ)) ?_
    refine all_cons (obs_v rfl (by
      intro k; intro _nm ρ σm hJ hoff hdep
      have e8 : look 34 ρ 8 = (I s2.2.1) := look_off (hoff 8 rfl) rfl
      exact dp_v (v := (I s2.2.1)) (wanted_none _ rfl _) (rv_move e8) rfl hJ)) ?_
    refine all_cons (obs_v rfl (by
      intro k; intro _nm ρ σm hJ hoff hdep
      have e24 : look 34 ρ 24 = (Sl adata_0 s2.1 cdata_0) := hdep 8 rfl rfl 24 rfl
      have e25 : look 34 ρ 25 = (I s2.2.1) := hdep 9 rfl rfl 25 rfl
      exact dp_v (v := (pt b16 o17)) (wanted_none _ rfl _) (rv_ix Try.underlying27 ti64 e24 e25 hi15) rfl hJ)) ?_
    refine all_cons (by
      refine ⟨?_, ?_⟩
      ·intro _nm ρ σm hJ hoff hdep
       have e26 : look 34 ρ 26 = (pt b16 o17) := hdep 10 rfl rfl 26 rfl
       obtain ⟨H, m⟩ := id hJ
       obtain ⟨_, ⟨_, _, rfl, rfl, rfl⟩, hl18, hc19⟩ := ((H.own 0 rfl).at hx14 hi15).cells
       exact dp_v (v := (.agg #[(I x13.1), (I x13.2)])) (wanted_none _ rfl _) (rv_load Try.underlying64 rfl ti64 e26 hl18 hc19) rfl hJ
      trivial) ?_
    refine all_cons (obs_v rfl (by
      intro k; intro _nm ρ σm hJ hoff hdep
      have e16 : look 34 ρ 16 = (Sl adata_0 s2.1 cdata_0) := hdep 0 rfl rfl 16 rfl
      have e17 : look 34 ρ 17 = (I s2.2.1) := hdep 1 rfl rfl 17 rfl
      exact dp_v (v := (pt b23 o24)) (wanted_none _ rfl _) (rv_ix Try.underlying27 ti64 e16 e17 hi22) rfl hJ)) ?_
    refine all_cons (by
      refine ⟨?_, ?_⟩
      ·intro _nm ρ σm hJ hoff hdep
       have e28 : look 34 ρ 28 = (pt b23 o24) := hdep 12 rfl rfl 28 rfl
       have e23 : look 34 ρ 23 = (.agg #[(I x6.1), (I x6.2)]) := hdep 7 rfl rfl 23 rfl
       obtain ⟨H, m⟩ := id hJ
       refine dp_exS (wanted_none _ rfl _) rfl (ex_store_own (e' := (x6.1, x6.2)) (vs := [(I x6.1), (I x6.2)]) (k := 0) H (i := 0) rfl ti64 hx21 hi22 e28 rfl e23 rfl rfl (Nat.le_of_ble_eq_true rfl) (by simp [plain]) (by rintro _ ⟨_, _, rfl, rfl, rfl⟩; exact ⟨[(I x6.1)], [(I x6.2)], rfl, rfl, rfl⟩)) ?_
       rintro σq ⟨H2, m2⟩
       exact ⟨_, (), rfl, ⟨H2.sel' [0] rfl rfl, m.comp m2⟩, stab [0, 1, 2, 3, 4, 5, 6, 7, 8, 9, 10, 11, 12] (by kernel_rfl) ⟨rfl, rfl, rfl, rfl, rfl, rfl, rfl, rfl, rfl, rfl, rfl, rfl, rfl, trivial⟩⟩
      trivial) ?_
    exact all_nil
   ·intro _nm ρ σ25 hJ hoff hrel
    have e0 : look 34 ρ 0 = (Sl adata_0 s2.1 cdata_0) := look_off (hoff 0 rfl) rfl
    have e8 : look 34 ρ 8 = (I s2.2.1) := look_off (hoff 8 rfl) rfl
    have e9 : look 34 ρ 9 = (I s2.2.2) := look_off (hoff 9 rfl) rfl
    have e18 : look 34 ρ 18 = (Sl adata_0 s2.1 cdata_0) := hrel 2 rfl 18 rfl
    have e19 : look 34 ρ 19 = (I s2.2.2) := hrel 3 rfl 19 rfl
    have e27 : look 34 ρ 27 = (.agg #[(I x13.1), (I x13.2)]) := hrel 11 rfl 27 rfl
    obtain ⟨H, -⟩ := (show Hp S0 σ0 σ25 [Ch.own 0 0 (Sl adata_0 s2.1 cdata_0) (s2.1.set s2.2.1.toNat (x6.1, x6.2))] ∧ Md (fun i => (cov []) i ∨ (fun b => blk (Sl adata_0 s2.1 cdata_0) = some b) i) σ3 σ25 from hJ)
    clear hJ Hs
    rw [fr_lookL (L := [(0, (Sl adata_0 s2.1 cdata_0)), (8, (I s2.2.1)), (9, (I s2.2.2)), (18, (Sl adata_0 s2.1 cdata_0)), (19, (I s2.2.2)), (27, (.agg #[(I x13.1), (I x13.2)]))]) ⟨e0, e8, e9, e18, e19, e27, trivial⟩]
    clear hoff hrel e0 e8 e9 e18 e19 e27
    have hsl : (Sl adata_0 s2.1 cdata_0) = (Sl adata_0 (s2.1.set s2.2.1.toNat (x6.1, x6.2)) cdata_0) := sl_len (by simp)
    rw [hsl]; rw [hsl] at H; clear hsl
    obtain ⟨x26, hx27, h'⟩ := bind_some h
    clear h
    have h := h'; clear h'
    obtain ⟨b29, o30, hi28, -⟩ := (H.own 0 rfl).ix hx27
    refine st (v := (pt b29 o30)) (rv_ix Try.underlying27 ti64 rfl rfl hi28) ?_
    refine st_exS (ex_store_own (e' := (x13.1, x13.2)) (vs := [(I x13.1), (I x13.2)]) (k := 0) H (i := 0) rfl ti64 hx27 hi28 rfl rfl rfl rfl rfl (Nat.le_of_ble_eq_true rfl) (by simp [plain]) (by rintro _ ⟨_, _, rfl, rfl, rfl⟩; exact ⟨[(I x13.1)], [(I x13.2)], rfl, rfl, rfl⟩)) (wanted_none _ rfl _) ?_
    rintro σ31 ⟨H, -⟩
    have hsl : (Sl adata_0 (s2.1.set s2.2.1.toNat (x6.1, x6.2)) cdata_0) = (Sl adata_0 ((s2.1.set s2.2.1.toNat (x6.1, x6.2)).set s2.2.2.toNat (x13.1, x13.2)) cdata_0) := sl_len List.length_set.symm
    rw [hsl]; rw [hsl] at H; clear hsl
    refine w_end ?_
    refine q_then ?_
    refine c_seq ?_
    refine rg ?_
    refine st (v := (I s2.2.1)) (rv_move rfl) ?_
    refine st (v := (I (w64 (s2.2.1 + 1)))) (rv_add (a := s2.2.1) (b := 1) rfl rfl) ?_
    refine st (v := (I (w64 (s2.2.1 + 1)))) (rv_assign rfl) ?_
    refine w_end ?_
    refine q_then ?_
    refine rg ?_
    refine st (v := (I s2.2.2)) (rv_move rfl) ?_
    refine st (v := (I (w64 (s2.2.2 - 1)))) (rv_sub (a := s2.2.2) (b := 1) rfl rfl) ?_
    refine st (v := (I (w64 (s2.2.2 - 1)))) (rv_assign rfl) ?_
    refine w_end ?_
    refine q_blk ?_
    refine q_then ?_
    obtain rfl := Option.some.inj h
    exact ⟨_, rfl, _, σ31, fr_join ⟨rfl, rfl, rfl, trivial⟩, rfl, H.sel' [0] rfl rfl, (List.length_set.trans (List.length_set.trans hn4))⟩
  ·replace h := bif_f hb5 h
   refine c_exit ?_
   refine q_then_x ?_
   refine q_then_x ?_
   refine q_blk_hit ?_
   obtain rfl := Option.some.inj h
   obtain rfl := hres _ rfl
   exact ⟨rfl, _, σ3, fr_join ⟨rfl, trivial⟩, rfl, H.sel' [0] rfl rfl, hn4⟩
 ·clear hj
  have h := h'
  clear h' H
  rintro e a w ⟨rfl, ρ, σ32, rfl, rfl, H, hn33⟩
  obtain rfl := Option.some.inj h
  exact fin_end (v := (.tuple #[])) (results_ok Try.results147 res_nil rfl) ⟨rfl, rfl, hn33⟩ (H.sel' [0] rfl rfl)

theorem c_slices_partialInsertionSortCmpFunc_impl_Hit__impl_compareHits {data_0 : List (Int × Int)} {a_1 : Int} {b_2 : Int} {adata_0 : Option Addr} {cdata_0 : Nat} {r : Bool × (List (Int × Int))} (h : M.slices_partialInsertionSortCmpFunc_impl_Hit__impl_compareHits data_0 a_1 b_2 = some r) :
    Cal2 Try.prog 148 [(Sl adata_0 data_0 cdata_0), (I a_1), (I b_2), (.func (.func 101) #[] #[])] [Ch.own 0 0 (Sl adata_0 data_0 cdata_0) data_0] (fun n0 v L => v = (B r.1) ∧ L = [Ch.own 0 0 (Sl adata_0 r.2 cdata_0) r.2] ∧ r.2.length = data_0.length) := by
 refine cal2 (n := 141) Try.func148 rfl rfl rfl rfl ?_
 intro S0 σ0 n0 hn0 H
 unfold M.slices_partialInsertionSortCmpFunc_impl_Hit__impl_compareHits at h
 refine c_seq ?_
 refine rg ?_
 refine st (v := (B false)) (rv_assign rfl) ?_
 refine w_end ?_
 refine q_then ?_
 refine c_seq ?_
 refine rg ?_
 refine st (v := (I a_1)) (rv_move rfl) ?_
 refine st (v := (I (w64 (a_1 + 1)))) (rv_add (a := a_1) (b := 1) rfl rfl) ?_
 refine st (v := (I (w64 (a_1 + 1)))) (rv_assign rfl) ?_
 refine w_end ?_
 refine q_then ?_
 refine c_seq ?_
 refine c_seq ?_
 refine rg ?_
 refine st (v := (I 0)) (rv_assign rfl) ?_
 refine w_end ?_
 refine q_then ?_
 obtain ⟨o1, hj, h'⟩ := bind_some h
 clear h
 refine c_cut (fun e a w => (∃ t, o1 = (.inl t) ∧ e = .normal ∧ ∃ (ρ : Nat → Value) (σ : St), a = fr 141 (updL ρ [(0, (Sl adata_0 t cdata_0))]) ∧ w = σ.w ∧ Hp S0 σ0 σ [Ch.own 0 0 (Sl adata_0 t cdata_0) t] ∧ t.length = data_0.length) ∨ (∃ t, o1 = (.inr t) ∧ e = .ret ∧ ∃ (ρ : Nat → Value) (σ : St), a = fr 141 (updL ρ [(0, (Sl adata_0 t.1 cdata_0)), (8, (B t.2))]) ∧ w = σ.w ∧ Hp S0 σ0 σ [Ch.own 0 0 (Sl adata_0 t.1 cdata_0) t.1] ∧ t.1.length = data_0.length)) ?_ ?_
 ·clear h'
  rename _ = some o1 => h
  refine c_blk ?_
  refine wp_loopM _ h (fun s2 a w => ∃ (ρ : Nat → Value) (σ : St), a = fr 141 (updL ρ [(0, (Sl adata_0 s2.1 cdata_0)), (1, (I a_1)), (2, (I b_2)), (3, (.func (.func 101) #[] #[])), (9, (I s2.2.1)), (10, (I s2.2.2))]) ∧ w = σ.w ∧ Hp S0 σ0 σ [Ch.own 0 0 (Sl adata_0 s2.1 cdata_0) s2.1] ∧ s2.1.length = data_0.length) ⟨_, σ0, fr_join ⟨rfl, rfl, rfl, rfl, rfl, rfl, trivial⟩, rfl, H.sel' [0] rfl rfl, rfl⟩ ?_
  clear h H
  rintro s2 a w o ⟨ρ, σ3, rfl, rfl, H, hn4⟩ h hres
  refine c_seq ?_
  refine c_seq ?_
  refine rg ?_
  refine st (v := (I s2.2.2)) (rv_move rfl) ?_
  refine st (v := (B (decide (s2.2.2 < 5)))) (rv_lss (a := s2.2.2) (b := 5) rfl rfl) ?_
  refine w_end ?_
  refine q_then ?_
  refine cd_cond (decide (s2.2.2 < 5)) rfl (fun hb5 => ?_) (fun hb5 => ?_)
  ·replace h := bif_t hb5 h
   refine c_skip ?_
   refine q_then ?_
   refine c_seq ?_
   obtain ⟨o6, hj, h'⟩ := bind_some h
   clear h
   refine c_cut (fun e a w => (∃ t, o6 = (.inl t) ∧ e = .normal ∧ ∃ (ρ : Nat → Value) (σ : St), a = fr 141 (updL ρ [(0, (Sl adata_0 t.1 cdata_0)), (1, (I a_1)), (2, (I b_2)), (3, (.func (.func 101) #[] #[])), (9, (I t.2)), (10, (I s2.2.2))]) ∧ w = σ.w ∧ Hp S0 σ0 σ [Ch.own 0 0 (Sl adata_0 t.1 cdata_0) t.1] ∧ t.1.length = s2.1.length) ∨ (∃ t, o6 = (.inr t) ∧ e = .ret ∧ ∃ (ρ : Nat → Value) (σ : St), a = fr 141 (updL ρ [(0, (Sl adata_0 t.1 cdata_0)), (8, (B t.2))]) ∧ w = σ.w ∧ Hp S0 σ0 σ [Ch.own 0 0 (Sl adata_0 t.1 cdata_0) t.1] ∧ t.1.length = s2.1.length)) ?_ ?_
   ·clear h'
    rename _ = some o6 => h
    refine c_blk ?_
    refine c_seq ?_
    obtain ⟨o7, hj, h'⟩ := bind_some h
    clear h
    refine c_cut (fun e a w => e = .normal ∧ ∃ (ρ : Nat → Value) (σ : St), a = fr 141 (updL ρ [(0, (Sl adata_0 s2.1 cdata_0)), (1, (I a_1)), (2, (I b_2)), (3, (.func (.func 101) #[] #[])), (9, (I o7)), (10, (I s2.2.2))]) ∧ w = σ.w ∧ Hp S0 σ0 σ [Ch.own 0 0 (Sl adata_0 s2.1 cdata_0) s2.1]) ?_ ?_
    ·clear h'
     rename _ = some o7 => h
     refine c_blk ?_
     refine wp_loopM _ h (fun s8 a w => ∃ (ρ : Nat → Value) (σ : St), a = fr 141 (updL ρ [(0, (Sl adata_0 s2.1 cdata_0)), (1, (I a_1)), (2, (I b_2)), (3, (.func (.func 101) #[] #[])), (9, (I s8)), (10, (I s2.2.2))]) ∧ w = σ.w ∧ Hp S0 σ0 σ [Ch.own 0 0 (Sl adata_0 s2.1 cdata_0) s2.1]) ⟨_, σ3, fr_join ⟨rfl, rfl, rfl, rfl, rfl, rfl, trivial⟩, rfl, H.sel' [0] rfl rfl⟩ ?_
     clear h H
     rintro s8 a w o ⟨ρ, σ9, rfl, rfl, H⟩ h hres
     refine c_seq ?_
     refine c_seq ?_
     obtain ⟨o10, hj, h'⟩ := bind_some h
     clear h
     refine c_cut (fun e a w => e = .normal ∧ ∃ (ρ : Nat → Value) (σ : St), a = fr 141 (updL ρ [(0, (Sl adata_0 s2.1 cdata_0)), (1, (I a_1)), (2, (I b_2)), (3, (.func (.func 101) #[] #[])), (9, (I s8)), (10, (I s2.2.2)), (36, (B o10))]) ∧ w = σ.w ∧ Hp S0 σ0 σ [Ch.own 0 0 (Sl adata_0 s2.1 cdata_0) s2.1]) ?_ ?_
     ·clear h'
      rename _ = some o10 => h
      refine rgP (σ := σ9) 14 (by kernel_rfl) (by kernel_rfl) (by kernel_rfl) ?_
      refine sq (v := (I s8)) (rv_move rfl) ?_
      refine sq (v := (I b_2)) (rv_move rfl) ?_
      refine sq (v := (B (decide (s8 < b_2)))) (rv_lss (a := s8) (b := b_2) rfl rfl) ?_
      refine sq (v := (B (decide (s8 < b_2)))) (rv_move rfl) ?_
      rcases Bool.eq_false_or_eq_true (decide (s8 < b_2)) with hb11 | hb11
      ·replace h := bif_t hb11 h
       refine sq_g (v := (.func (.func 101) #[] #[])) (congrArg some hb11) (rv_move rfl) ?_
       refine sq_g (v := (Sl adata_0 s2.1 cdata_0)) (congrArg some hb11) (rv_move rfl) ?_
       refine sq_g (v := (I s8)) (congrArg some hb11) (rv_move rfl) ?_
       obtain ⟨x12, hx13, h'⟩ := bind_some h
       clear h
       have h := h'; clear h'
       obtain ⟨b15, o16, hi14, -⟩ := (H.own 0 rfl).ix hx13
       refine sq_g (v := (pt b15 o16)) (congrArg some hb11) (rv_ix Try.underlying27 ti64 rfl rfl hi14) ?_
       obtain ⟨_, ⟨_, _, rfl, rfl, rfl⟩, hl17, hc18⟩ := ((H.own 0 rfl).at hx13 hi14).cells
       refine sq_g (v := (.agg #[(I x12.1), (I x12.2)])) (congrArg some hb11) (rv_load Try.underlying64 rfl ti64 rfl hl17 hc18) ?_
       refine sq_g (v := (Sl adata_0 s2.1 cdata_0)) (congrArg some hb11) (rv_move rfl) ?_
       refine sq_g (v := (I s8)) (congrArg some hb11) (rv_move rfl) ?_
       refine sq_g (v := (I (w64 (s8 - 1)))) (congrArg some hb11) (rv_sub (a := s8) (b := 1) rfl rfl) ?_
       obtain ⟨x19, hx20, h'⟩ := bind_some h
       clear h
       have h := h'; clear h'
       obtain ⟨b22, o23, hi21, -⟩ := (H.own 0 rfl).ix hx20
       refine sq_g (v := (pt b22 o23)) (congrArg some hb11) (rv_ix Try.underlying27 ti64 rfl rfl hi21) ?_
       obtain ⟨_, ⟨_, _, rfl, rfl, rfl⟩, hl24, hc25⟩ := ((H.own 0 rfl).at hx20 hi21).cells
       refine sq_g (v := (.agg #[(I x19.1), (I x19.2)])) (congrArg some hb11) (rv_load Try.underlying64 rfl ti64 rfl hl24 hc25) ?_
       refine sq_end ?_
       intro σ26 hm27
       replace H := H.grow (hm27.mono fun _ h => h); clear hm27
       obtain ⟨r28, hx29, h'⟩ := bind_some h
       clear h
       have h := h'; clear h'
       have hc30 := c_impl_compareHits hx29
       refine st_call (cx_call hc30 (ent_v (cap := []) hc30.fn rfl rfl) hn0 (show Hp S0 σ0 _ ([] ++ [Ch.own 0 0 (Sl adata_0 s2.1 cdata_0) s2.1]) from (H.sel' [0] rfl rfl))) (wanted_yes rfl (by exact (congrArg some hb11))) ?_
       rintro _ σ31 ⟨_, ⟨rfl, rfl⟩, H, -⟩
       replace H : Hp S0 σ0 σ31 [Ch.own 0 0 (Sl adata_0 s2.1 cdata_0) s2.1] := H
       refine st_g (v := (B (decide (r28 < 0)))) (congrArg some hb11) (rv_lss (a := r28) (b := 0) rfl rfl) ?_
       refine st_g (v := (B (!(decide (r28 < 0))))) (congrArg some hb11) (rv_not rfl) ?_
       refine st (v := (B (!(decide (r28 < 0))))) (rv_pick_t (congrArg B hb11) rfl) ?_
       refine w_end ?_
       obtain rfl := Option.some.inj h
       exact ⟨rfl, _, σ31, fr_join ⟨rfl, rfl, rfl, rfl, rfl, rfl, rfl, trivial⟩, rfl, H.sel' [0] rfl rfl⟩
      ·replace h := bif_f hb11 h
       refine sq_skip (congrArg some hb11) ?_
       refine sq_skip (congrArg some hb11) ?_
       refine sq_skip (congrArg some hb11) ?_
       refine sq_skip (congrArg some hb11) ?_
       refine sq_skip (congrArg some hb11) ?_
       refine sq_skip (congrArg some hb11) ?_
       refine sq_skip (congrArg some hb11) ?_
       refine sq_skip (congrArg some hb11) ?_
       refine sq_skip (congrArg some hb11) ?_
       refine sq_skip (congrArg some hb11) ?_
       refine sq_end ?_
       intro σ32 hm33
       replace H := H.grow (hm33.mono fun _ h => h); clear hm33
       refine st_skip (congrArg some hb11) ?_
       refine st_skip (congrArg some hb11) ?_
       refine st_skip (congrArg some hb11) ?_
       refine st (v := (B false)) (rv_pick_f (congrArg B hb11) rfl) ?_
       refine w_end ?_
       obtain rfl := Option.some.inj h
       exact ⟨rfl, _, σ32, fr_join ⟨rfl, rfl, rfl, rfl, rfl, rfl, rfl, trivial⟩, rfl, H.sel' [0] rfl rfl⟩
     ·clear hj
      have h := h'
      clear h' H
      rintro e a w ⟨rfl, ρ, σ34, rfl, rfl, H⟩
      refine q_then ?_
      refine cd_cond o10 rfl (fun hb35 => ?_) (fun hb35 => ?_)
      ·replace h := bif_t hb35 h
       refine c_skip ?_
       refine q_then ?_
       refine c_blk ?_
       refine rg ?_
       refine st (v := (I s8)) (rv_move rfl) ?_
       refine st (v := (I (w64 (s8 + 1)))) (rv_add (a := s8) (b := 1) rfl rfl) ?_
       refine st (v := (I (w64 (s8 + 1)))) (rv_assign rfl) ?_
       refine w_end ?_
       refine q_blk ?_
       refine q_then ?_
       obtain rfl := Option.some.inj h
       exact ⟨_, rfl, _, σ34, fr_join ⟨rfl, rfl, rfl, rfl, rfl, rfl, trivial⟩, rfl, H.sel' [0] rfl rfl⟩
      ·replace h := bif_f hb35 h
       refine c_exit ?_
       refine q_then_x ?_
       refine q_then_x ?_
       refine q_blk_hit ?_
       obtain rfl := Option.some.inj h
       obtain rfl := hres _ rfl
       exact ⟨rfl, _, σ34, fr_join ⟨rfl, rfl, rfl, rfl, rfl, rfl, trivial⟩, rfl, H.sel' [0] rfl rfl⟩
    ·clear hj
     have h := h'
     clear h' H
     rintro e a w ⟨rfl, ρ, σ36, rfl, rfl, H⟩
     refine q_then ?_
     refine c_seq ?_
     refine c_seq ?_
     refine rg ?_
     refine st (v := (I o7)) (rv_move rfl) ?_
     refine st (v := (I b_2)) (rv_move rfl) ?_
     refine st (v := (B (o7 == b_2))) (rv_eql (a := o7) (b := b_2) rfl rfl) ?_
     refine w_end ?_
     refine q_then ?_
     refine cd_cond (o7 == b_2) rfl (fun hb37 => ?_) (fun hb37 => ?_)
     ·replace h := bif_t hb37 h
      refine c_seq ?_
      refine rg ?_
      refine st (v := (B true)) (rv_assign rfl) ?_
      refine w_end ?_
      refine q_then ?_
      refine c_ret ?_
      refine q_then_r ?_
      refine q_blk_r ?_
      obtain rfl := Option.some.inj h
      exact .inr (⟨_, rfl, rfl, _, σ36, fr_join ⟨rfl, rfl, trivial⟩, rfl, H.sel' [0] rfl rfl, rfl⟩)
     ·replace h := bif_f hb37 h
      refine c_skip ?_
      refine q_then ?_
      refine c_seq ?_
      refine c_seq ?_
      refine rg ?_
      refine st (v := (I b_2)) (rv_move rfl) ?_
      refine st (v := (I a_1)) (rv_move rfl) ?_
      refine st (v := (I (w64 (b_2 - a_1)))) (rv_sub (a := b_2) (b := a_1) rfl rfl) ?_
      refine st (v := (B (decide ((w64 (b_2 - a_1)) < 50)))) (rv_lss (a := (w64 (b_2 - a_1))) (b := 50) rfl rfl) ?_
      refine w_end ?_
      refine q_then ?_
      refine cd_cond (decide ((w64 (b_2 - a_1)) < 50)) rfl (fun hb38 => ?_) (fun hb38 => ?_)
      ·replace h := bif_t hb38 h
       refine c_seq ?_
       refine rg ?_
       refine st (v := (B false)) (rv_assign rfl) ?_
       refine w_end ?_
       refine q_then ?_
       refine c_ret ?_
       refine q_then_r ?_
       refine q_blk_r ?_
       obtain rfl := Option.some.inj h
       exact .inr (⟨_, rfl, rfl, _, σ36, fr_join ⟨rfl, rfl, trivial⟩, rfl, H.sel' [0] rfl rfl, rfl⟩)
      ·replace h := bif_f hb38 h
       refine c_skip ?_
       refine q_then ?_
       refine c_seq ?_
       obtain ⟨x39, hx40, h'⟩ := bind_some h
       clear h
       have h := h'; clear h'
       obtain ⟨b42, o43, hi41, -⟩ := (H.own 0 rfl).ix hx40
       obtain ⟨_, ⟨_, _, rfl, rfl, rfl⟩, hl44, hc45⟩ := ((H.own 0 rfl).at hx40 hi41).cells
       obtain ⟨x46, hx47, h'⟩ := bind_some h
       clear h
       have h := h'; clear h'
       obtain ⟨b49, o50, hi48, -⟩ := (H.own 0 rfl).ix hx47
       obtain ⟨_, ⟨_, _, rfl, rfl, rfl⟩, hl51, hc52⟩ := ((H.own 0 rfl).at hx47 hi48).cells
       obtain ⟨x53, hx54, h'⟩ := bind_some h
       clear h
       have h := h'; clear h'
       obtain ⟨b56, o57, hi55, -⟩ := (H.own 0 rfl).ix hx54
       have Hs := H
       refine rg2 (σ := σ36) (Nm := Unit) 16 [15] [[false], [true]] [[(0, 0)], [(0, 0)], [(0, 0), (1, 1)], [(0, 0), (1, 1)], [(0, 0), (1, 1)], [(0, 0)], [(0, 0)], [(0, 0)], [(0, 0)], [(0, 0)], [(0, 0)], [(0, 0)], [(0, 0)], [(0, 0)], [(0, 0)], [(0, 1)]] 1 [fun (_nm : Unit) => fun σm => Hp S0 σ0 σm [Ch.own 0 0 (Sl adata_0 s2.1 cdata_0) s2.1] ∧ Md (cov []) σ36 σm, fun (_nm : Unit) => fun σm => Hp S0 σ0 σm [Ch.own 0 0 (Sl adata_0 s2.1 cdata_0) (s2.1.set o7.toNat (x39.1, x39.2))] ∧ Md (fun i => (cov []) i ∨ (fun b => blk (Sl adata_0 s2.1 cdata_0) = some b) i) σ36 σm] [fun (_nm : Unit) => (Sl adata_0 s2.1 cdata_0), fun (_nm : Unit) => (I o7), fun (_nm : Unit) => (Sl adata_0 s2.1 cdata_0), fun (_nm : Unit) => (I o7), fun (_nm : Unit) => (I (w64 (o7 - 1))), fun (_nm : Unit) => (Sl adata_0 s2.1 cdata_0), fun (_nm : Unit) => (I o7), fun (_nm : Unit) => (I (w64 (o7 - 1))), fun (_nm : Unit) => (pt b42 o43), fun (_nm : Unit) => (.agg #[(I x39.1), (I x39.2)]), fun (_nm : Unit) => (Sl adata_0 s2.1 cdata_0), fun (_nm : Unit) => (I o7), fun (_nm : Unit) => (pt b49 o50), fun (_nm : Unit) => (.agg #[(I x46.1), (I x46.2)]), fun (_nm : Unit) => (pt b56 o57), fun (_nm : Unit) => undef] () (by kernel_rfl) (by kernel_rfl) ?_ ?_ ?_
       ·intro σm m0
        exact ⟨H.grow (m0.mono fun _ h => h.elim), m0⟩
       ·refine all_cons (obs_v rfl (by
          intro k; intro _nm ρ σm hJ hoff hdep
          have e0 : look 141 ρ 0 = (Sl adata_0 s2.1 cdata_0) := look_off (hoff 0 rfl) rfl
          exact dp_v (v := (Sl adata_0 s2.1 cdata_0)) (wanted_none _ rfl _) (rv_move e0) rfl hJ)) ?_
        refine all_cons (obs_v rfl (by
          intro k; intro _nm ρ σm hJ hoff hdep
          have e9 : look 141 ρ 9 = (I o7) := look_off (hoff 9 rfl) rfl
          exact dp_v (v := (I o7)) (wanted_none _ rfl _) (rv_move e9) rfl hJ)) ?_
        refine all_cons (obs_v rfl (by
          intro k; intro _nm ρ σm hJ hoff hdep
          have e0 : look 141 ρ 0 = (Sl adata_0 s2.1 cdata_0) := look_off (hoff 0 rfl) rfl
          exact dp_v (v := (Sl adata_0 s2.1 cdata_0)) (wanted_none _ rfl _) (rv_move e0) rfl hJ)) ?_
        refine all_cons (obs_v rfl (by
          intro k; intro _nm ρ σm hJ hoff hdep
          have e9 : look 141 ρ 9 = (I o7) := look_off (hoff 9 rfl) rfl
          exact dp_v (v := (I o7)) (wanted_none _ rfl _) (rv_move e9) rfl hJ)) ?_
        refine all_cons (obs_v rfl (by
          intro k; intro _nm ρ σm hJ hoff hdep
          have e49 : look 141 ρ 49 = (I o7) := hdep 3 rfl rfl 49 rfl
          exact dp_v (v := (I (w64 (o7 - 1)))) (wanted_none _ rfl _) (rv_sub (a := o7) (b := 1) e49 rfl) rfl hJ)) ?_
        refine all_cons (obs_v rfl (by
          intro k; intro _nm ρ σm hJ hoff hdep
          have e0 : look 141 ρ 0 = (Sl adata_0 s2.1 cdata_0) := look_off (hoff 0 rfl) rfl
          exact dp_v (v := (Sl adata_0 s2.1 cdata_0)) (wanted_none _ rfl _) (rv_move e0) rfl hJ)) ?_
        refine all_cons (obs_v rfl (by
          intro k; intro _nm ρ σm hJ hoff hdep
          have e9 : look 141 ρ 9 = (I o7) := look_off (hoff 9 rfl) rfl
          exact dp_v (v := (I o7)) (wanted_none _ rfl _) (rv_move e9) rfl hJ)) ?_
        refine all_cons (obs_v rfl (by
          intro k; intro _nm ρ σm hJ hoff hdep
          have e52 : look 141 ρ 52 = (I o7) := hdep 6 rfl rfl 52 rfl
          exact dp_v (v := (I (w64 (o7 - 1)))) (wanted_none _ rfl _) (rv_sub (a := o7) (b := 1) e52 rfl) rfl hJ)) ?_
        refine all_cons (obs_v rfl (by
          intro k; intro _nm ρ σm hJ hoff hdep
          have e51 : look 141 ρ 51 = (Sl adata_0 s2.1 cdata_0) := hdep 5 rfl rfl 51 rfl
          have e53 : look 141 ρ 53 = (I (w64 (o7 - 1))) := hdep 7 rfl rfl 53 rfl
          exact dp_v (v := (pt b42 o43)) (wanted_none _ rfl _) (rv_ix Try.underlying27 ti64 e51 e53 hi41) rfl hJ)) ?_
        refine all_cons (by
          refine ⟨?_, ?_⟩
          ·intro _nm ρ σm hJ hoff hdep
           have e54 : look 141 ρ 54 = (pt b42 o43) := hdep 8 rfl rfl 54 rfl
           obtain ⟨H, m⟩ := id hJ
           obtain ⟨_, ⟨_, _, rfl, rfl, rfl⟩, hl44, hc45⟩ := ((H.own 0 rfl).at hx40 hi41).cells
           exact dp_v (v := (.agg #[(I x39.1), (I x39.2)])) (wanted_none _ rfl _) (rv_load Try.underlying64 rfl ti64 e54 hl44 hc45) rfl hJ
          trivial) ?_
        refine all_cons (obs_v rfl (by
          intro k; intro _nm ρ σm hJ hoff hdep
          have e0 : look 141 ρ 0 = (Sl adata_0 s2.1 cdata_0) := look_off (hoff 0 rfl) rfl
          exact dp_v (v := (Sl adata_0 s2.1 cdata_0)) (wanted_none _ rfl _) (rv_move e0) rfl hJ)) ?_
        refine all_cons (obs_v rfl (by
          intro k; intro _nm ρ σm hJ hoff hdep
          have e9 : look 141 ρ 9 = (I o7) := look_off (hoff 9 rfl) rfl
          exact dp_v (v := (I o7)) (wanted_none _ rfl _) (rv_move e9) rfl hJ)) ?_
        refine all_cons (obs_v rfl (by
          intro k; intro _nm ρ σm hJ hoff hdep
          have e56 : look 141 ρ 56 = (Sl adata_0 s2.1 cdata_0) := hdep 10 rfl rfl 56 rfl
          have e57 : look 141 ρ 57 = (I o7) := hdep 11 rfl rfl 57 rfl
          exact dp_v (v := (pt b49 o50)) (wanted_none _ rfl _) (rv_ix Try.underlying27 ti64 e56 e57 hi48) rfl hJ)) ?_
        refine all_cons (by
          refine ⟨?_, ?_⟩
          ·intro _nm ρ σm hJ hoff hdep
           have e58 : look 141 ρ 58 = (pt b49 o50) := hdep 12 rfl rfl 58 rfl
           obtain ⟨H, m⟩ := id hJ
           obtain ⟨_, ⟨_, _, rfl, rfl, rfl⟩, hl51, hc52⟩ := ((H.own 0 rfl).at hx47 hi48).cells
           exact dp_v (v := (.agg #[(I x46.1), (I x46.2)])) (wanted_none _ rfl _) (rv_load Try.underlying64 rfl ti64 e58 hl51 hc52) rfl hJ
          trivial) ?_
        refine all_cons (obs_v rfl (by
          intro k; intro _nm ρ σm hJ hoff hdep
          have e46 : look 141 ρ 46 = (Sl adata_0 s2.1 cdata_0) := hdep 0 rfl rfl 46 rfl
          have e47 : look 141 ρ 47 = (I o7) := hdep 1 rfl rfl 47 rfl
          exact dp_v (v := (pt b56 o57)) (wanted_none _ rfl _) (rv_ix Try.underlying27 ti64 e46 e47 hi55) rfl hJ)) ?_
        refine all_cons (by
          refine ⟨?_, ?_⟩
          ·intro _nm ρ σm hJ hoff hdep
           have e60 : look 141 ρ 60 = (pt b56 o57) := hdep 14 rfl rfl 60 rfl
           have e55 : look 141 ρ 55 = (.agg #[(I x39.1), (I x39.2)]) := hdep 9 rfl rfl 55 rfl
           obtain ⟨H, m⟩ := id hJ
           refine dp_exS (wanted_none _ rfl _) rfl (ex_store_own (e' := (x39.1, x39.2)) (vs := [(I x39.1), (I x39.2)]) (k := 0) H (i := 0) rfl ti64 hx54 hi55 e60 rfl e55 rfl rfl (Nat.le_of_ble_eq_true rfl) (by simp [plain]) (by rintro _ ⟨_, _, rfl, rfl, rfl⟩; exact ⟨[(I x39.1)], [(I x39.2)], rfl, rfl, rfl⟩)) ?_
           rintro σq ⟨H2, m2⟩
           exact ⟨_, (), rfl, ⟨H2.sel' [0] rfl rfl, m.comp m2⟩, stab [0, 1, 2, 3, 4, 5, 6, 7, 8, 9, 10, 11, 12, 13, 14] (by kernel_rfl) ⟨rfl, rfl, rfl, rfl, rfl, rfl, rfl, rfl, rfl, rfl, rfl, rfl, rfl, rfl, rfl, trivial⟩⟩
          trivial) ?_
        exact all_nil
       ·intro _nm ρ σ58 hJ hoff hrel
        have e0 : look 141 ρ 0 = (Sl adata_0 s2.1 cdata_0) := look_off (hoff 0 rfl) rfl
        have e1 : look 141 ρ 1 = (I a_1) := look_off (hoff 1 rfl) rfl
        have e2 : look 141 ρ 2 = (I b_2) := look_off (hoff 2 rfl) rfl
        have e3 : look 141 ρ 3 = (.func (.func 101) #[] #[]) := look_off (hoff 3 rfl) rfl
        have e9 : look 141 ρ 9 = (I o7) := look_off (hoff 9 rfl) rfl
        have e10 : look 141 ρ 10 = (I s2.2.2) := look_off (hoff 10 rfl) rfl
        have e48 : look 141 ρ 48 = (Sl adata_0 s2.1 cdata_0) := hrel 2 rfl 48 rfl
        have e50 : look 141 ρ 50 = (I (w64 (o7 - 1))) := hrel 4 rfl 50 rfl
        have e59 : look 141 ρ 59 = (.agg #[(I x46.1), (I x46.2)]) := hrel 13 rfl 59 rfl
        obtain ⟨H, -⟩ := (show Hp S0 σ0 σ58 [Ch.own 0 0 (Sl adata_0 s2.1 cdata_0) (s2.1.set o7.toNat (x39.1, x39.2))] ∧ Md (fun i => (cov []) i ∨ (fun b => blk (Sl adata_0 s2.1 cdata_0) = some b) i) σ36 σ58 from hJ)
        clear hJ Hs
        rw [fr_lookL (L := [(0, (Sl adata_0 s2.1 cdata_0)), (1, (I a_1)), (2, (I b_2)), (3, (.func (.func 101) #[] #[])), (9, (I o7)), (10, (I s2.2.2)), (48, (Sl adata_0 s2.1 cdata_0)), (50, (I (w64 (o7 - 1)))), (59, (.agg #[(I x46.1), (I x46.2)]))]) ⟨e0, e1, e2, e3, e9, e10, e48, e50, e59, trivial⟩]
        clear hoff hrel e0 e1 e2 e3 e9 e10 e48 e50 e59
        have hsl : (Sl adata_0 s2.1 cdata_0) = (Sl adata_0 (s2.1.set o7.toNat (x39.1, x39.2)) cdata_0) := sl_len (by simp)
        rw [hsl]; rw [hsl] at H; clear hsl
        obtain ⟨x59, hx60, h'⟩ := bind_some h
        clear h
        have h := h'; clear h'
        obtain ⟨b62, o63, hi61, -⟩ := (H.own 0 rfl).ix hx60
        refine st (v := (pt b62 o63)) (rv_ix Try.underlying27 ti64 rfl rfl hi61) ?_
        refine st_exS (ex_store_own (e' := (x46.1, x46.2)) (vs := [(I x46.1), (I x46.2)]) (k := 0) H (i := 0) rfl ti64 hx60 hi61 rfl rfl rfl rfl rfl (Nat.le_of_ble_eq_true rfl) (by simp [plain]) (by rintro _ ⟨_, _, rfl, rfl, rfl⟩; exact ⟨[(I x46.1)], [(I x46.2)], rfl, rfl, rfl⟩)) (wanted_none _ rfl _) ?_
        rintro σ64 ⟨H, -⟩
        have hsl : (Sl adata_0 (s2.1.set o7.toNat (x39.1, x39.2)) cdata_0) = (Sl adata_0 ((s2.1.set o7.toNat (x39.1, x39.2)).set (w64 (o7 - 1)).toNat (x46.1, x46.2)) cdata_0) := sl_len List.length_set.symm
        rw [hsl]; rw [hsl] at H; clear hsl
        refine w_end ?_
        refine q_then ?_
        refine c_seq ?_
        refine c_seq ?_
        refine rg ?_
        refine st (v := (I o7)) (rv_move rfl) ?_
        refine st (v := (I a_1)) (rv_move rfl) ?_
        refine st (v := (I (w64 (o7 - a_1)))) (rv_sub (a := o7) (b := a_1) rfl rfl) ?_
        refine st (v := (B (decide (2 ≤ (w64 (o7 - a_1)))))) (rv_geq (a := (w64 (o7 - a_1))) (b := 2) rfl rfl) ?_
        refine w_end ?_
        refine q_then ?_
        obtain ⟨o65, hj, h'⟩ := bind_some h
        clear h
        refine c_cut (fun e a w => e = .normal ∧ ∃ (ρ : Nat → Value) (σ : St), a = fr 141 (updL ρ [(0, (Sl adata_0 o65 cdata_0)), (1, (I a_1)), (2, (I b_2)), (3, (.func (.func 101) #[] #[])), (9, (I o7)), (10, (I s2.2.2))]) ∧ w = σ.w ∧ Hp S0 σ0 σ [Ch.own 0 0 (Sl adata_0 o65 cdata_0) o65] ∧ o65.length = ((s2.1.set o7.toNat (x39.1, x39.2)).set (w64 (o7 - 1)).toNat (x46.1, x46.2)).length) ?_ ?_
        ·clear h'
         rename _ = some o65 => h
         refine cd_cond (decide (2 ≤ (w64 (o7 - a_1)))) rfl (fun hb66 => ?_) (fun hb66 => ?_)
         ·replace h := bif_t hb66 h
          refine c_seq ?_
          refine rg ?_
          refine st (v := (I o7)) (rv_move rfl) ?_
          refine st (v := (I (w64 (o7 - 1)))) (rv_sub (a := o7) (b := 1) rfl rfl) ?_
          refine st (v := (I (w64 (o7 - 1)))) (rv_assign rfl) ?_
          refine w_end ?_
          refine q_then ?_
          obtain ⟨o67, hj, h'⟩ := bind_some h
          clear h
          refine c_cut (fun e a w => e = .normal ∧ ∃ (ρ : Nat → Value) (σ : St), a = fr 141 (updL ρ [(0, (Sl adata_0 o67 cdata_0)), (1, (I a_1)), (2, (I b_2)), (3, (.func (.func 101) #[] #[])), (9, (I o7)), (10, (I s2.2.2))]) ∧ w = σ.w ∧ Hp S0 σ0 σ [Ch.own 0 0 (Sl adata_0 o67 cdata_0) o67] ∧ o67.length = ((s2.1.set o7.toNat (x39.1, x39.2)).set (w64 (o7 - 1)).toNat (x46.1, x46.2)).length) ?_ ?_
          ·clear h'
           rename _ = some o67 => h
           refine c_blk ?_
           refine wp_loopM _ h (fun s68 a w => ∃ (ρ : Nat → Value) (σ : St), a = fr 141 (updL ρ [(0, (Sl adata_0 s68.1 cdata_0)), (1, (I a_1)), (2, (I b_2)), (3, (.func (.func 101) #[] #[])), (9, (I o7)), (10, (I s2.2.2)), (11, (I s68.2))]) ∧ w = σ.w ∧ Hp S0 σ0 σ [Ch.own 0 0 (Sl adata_0 s68.1 cdata_0) s68.1] ∧ s68.1.length = ((s2.1.set o7.toNat (x39.1, x39.2)).set (w64 (o7 - 1)).toNat (x46.1, x46.2)).length) ⟨_, σ64, fr_join ⟨rfl, rfl, rfl, rfl, rfl, rfl, rfl, trivial⟩, rfl, H.sel' [0] rfl rfl, rfl⟩ ?_
           clear h H
           rintro s68 a w o ⟨ρ, σ69, rfl, rfl, H, hn70⟩ h hres
           refine c_seq ?_
           refine c_seq ?_
           refine rg ?_
           refine st (v := (I s68.2)) (rv_move rfl) ?_
           refine st (v := (B (decide (1 ≤ s68.2)))) (rv_geq (a := s68.2) (b := 1) rfl rfl) ?_
           refine w_end ?_
           refine q_then ?_
           refine cd_cond (decide (1 ≤ s68.2)) rfl (fun hb71 => ?_) (fun hb71 => ?_)
           ·replace h := bif_t hb71 h
            refine c_skip ?_
            refine q_then ?_
            refine c_seq ?_
            refine c_blk ?_
            refine c_seq ?_
            refine c_seq ?_
            refine rgP (σ := σ69) 10 (by kernel_rfl) (by kernel_rfl) (by kernel_rfl) ?_
            refine sq (v := (.func (.func 101) #[] #[])) (rv_move rfl) ?_
            refine sq (v := (Sl adata_0 s68.1 cdata_0)) (rv_move rfl) ?_
            refine sq (v := (I s68.2)) (rv_move rfl) ?_
            obtain ⟨x72, hx73, h'⟩ := bind_some h
            clear h
            have h := h'; clear h'
            obtain ⟨b75, o76, hi74, -⟩ := (H.own 0 rfl).ix hx73
            refine sq (v := (pt b75 o76)) (rv_ix Try.underlying27 ti64 rfl rfl hi74) ?_
            obtain ⟨_, ⟨_, _, rfl, rfl, rfl⟩, hl77, hc78⟩ := ((H.own 0 rfl).at hx73 hi74).cells
            refine sq (v := (.agg #[(I x72.1), (I x72.2)])) (rv_load Try.underlying64 rfl ti64 rfl hl77 hc78) ?_
            refine sq (v := (Sl adata_0 s68.1 cdata_0)) (rv_move rfl) ?_
            refine sq (v := (I s68.2)) (rv_move rfl) ?_
            refine sq (v := (I (w64 (s68.2 - 1)))) (rv_sub (a := s68.2) (b := 1) rfl rfl) ?_
            obtain ⟨x79, hx80, h'⟩ := bind_some h
            clear h
            have h := h'; clear h'
            obtain ⟨b82, o83, hi81, -⟩ := (H.own 0 rfl).ix hx80
            refine sq (v := (pt b82 o83)) (rv_ix Try.underlying27 ti64 rfl rfl hi81) ?_
            obtain ⟨_, ⟨_, _, rfl, rfl, rfl⟩, hl84, hc85⟩ := ((H.own 0 rfl).at hx80 hi81).cells
            refine sq (v := (.agg #[(I x79.1), (I x79.2)])) (rv_load Try.underlying64 rfl ti64 rfl hl84 hc85) ?_
            refine sq_end ?_
            intro σ86 hm87
            replace H := H.grow (hm87.mono fun _ h => h); clear hm87
            obtain ⟨r88, hx89, h'⟩ := bind_some h
            clear h
            have h := h'; clear h'
            have hc90 := c_impl_compareHits hx89
            refine st_call (cx_call hc90 (ent_v (cap := []) hc90.fn rfl rfl) hn0 (show Hp S0 σ0 _ ([] ++ [Ch.own 0 0 (Sl adata_0 s68.1 cdata_0) s68.1]) from (H.sel' [0] rfl rfl))) (wanted_none _ rfl _) ?_
            rintro _ σ91 ⟨_, ⟨rfl, rfl⟩, H, -⟩
            replace H : Hp S0 σ0 σ91 [Ch.own 0 0 (Sl adata_0 s68.1 cdata_0) s68.1] := H
            refine st (v := (B (decide (r88 < 0)))) (rv_lss (a := r88) (b := 0) rfl rfl) ?_
            refine st (v := (B (!(decide (r88 < 0))))) (rv_not rfl) ?_
            refine w_end ?_
            refine q_then ?_
            refine cd_cond (!(decide (r88 < 0))) rfl (fun hb92 => ?_) (fun hb92 => ?_)
            ·replace h := bif_t hb92 h
             refine c_exit ?_
             refine q_then_x ?_
             refine q_blk_x (by decide) ?_
             refine q_then_x ?_
             refine q_then_x ?_
             refine q_blk_hit ?_
             obtain rfl := Option.some.inj h
             obtain rfl := hres _ rfl
             exact ⟨rfl, _, σ91, fr_join ⟨rfl, rfl, rfl, rfl, rfl, rfl, trivial⟩, rfl, H.sel' [0] rfl rfl, ((hn70.trans (List.length_set.trans (List.length_set.trans hn4))).trans (List.length_set.trans (List.length_set.trans hn4)).symm)⟩
            ·replace h := bif_f hb92 h
             refine c_skip ?_
             refine q_then ?_
             obtain ⟨x93, hx94, h'⟩ := bind_some h
             clear h
             have h := h'; clear h'
             obtain ⟨b96, o97, hi95, -⟩ := (H.own 0 rfl).ix hx94
             obtain ⟨_, ⟨_, _, rfl, rfl, rfl⟩, hl98, hc99⟩ := ((H.own 0 rfl).at hx94 hi95).cells
             obtain ⟨x100, hx101, h'⟩ := bind_some h
             clear h
             have h := h'; clear h'
             obtain ⟨b103, o104, hi102, -⟩ := (H.own 0 rfl).ix hx101
             obtain ⟨_, ⟨_, _, rfl, rfl, rfl⟩, hl105, hc106⟩ := ((H.own 0 rfl).at hx101 hi102).cells
             obtain ⟨x107, hx108, h'⟩ := bind_some h
             clear h
             have h := h'; clear h'
             obtain ⟨b110, o111, hi109, -⟩ := (H.own 0 rfl).ix hx108
             have Hs := H
             refine rg2 (σ := σ91) (Nm := Unit) 16 [15] [[false], [true]] [[(0, 0)], [(0, 0)], [(0, 0), (1, 1)], [(0, 0), (1, 1)], [(0, 0), (1, 1)], [(0, 0)], [(0, 0)], [(0, 0)], [(0, 0)], [(0, 0)], [(0, 0)], [(0, 0)], [(0, 0)], [(0, 0)], [(0, 0)], [(0, 1)]] 1 [fun (_nm : Unit) => fun σm => Hp S0 σ0 σm [Ch.own 0 0 (Sl adata_0 s68.1 cdata_0) s68.1] ∧ Md (cov []) σ91 σm, fun (_nm : Unit) => fun σm => Hp S0 σ0 σm [Ch.own 0 0 (Sl adata_0 s68.1 cdata_0) (s68.1.set s68.2.toNat (x93.1, x93.2))] ∧ Md (fun i => (cov []) i ∨ (fun b => blk (Sl adata_0 s68.1 cdata_0) = some b) i) σ91 σm] [fun (_nm : Unit) => (Sl adata_0 s68.1 cdata_0), fun (_nm : Unit) => (I s68.2), fun (_nm : Unit) => (Sl adata_0 s68.1 cdata_0), fun (_nm : Unit) => (I s68.2), fun (_nm : Unit) => (I (w64 (s68.2 - 1))), fun (_nm : Unit) => (Sl adata_0 s68.1 cdata_0), fun (_nm : Unit) => (I s68.2), fun (_nm : Unit) => (I (w64 (s68.2 - 1))), fun (_nm : Unit) => (pt b96 o97), fun (_nm : Unit) => (.agg #[(I x93.1), (I x93.2)]), fun (_nm : Unit) => (Sl adata_0 s68.1 cdata_0), fun (_nm : Unit) => (I s68.2), fun (_nm : Unit) => (pt b103 o104), fun (_nm : Unit) => (.agg #[(I x100.1), (I x100.2)]), fun (_nm : Unit) => (pt b110 o111), fun (_nm : Unit) => undef] () (by kernel_rfl) (by kernel_rfl) ?_ ?_ ?_
             ·intro σm m0
              exact ⟨H.grow (m0.mono fun _ h => h.elim), m0⟩
             ·refine all_cons (obs_v rfl (by
                intro k; intro _nm ρ σm hJ hoff hdep
                have e0 : look 141 ρ 0 = (Sl adata_0 s68.1 cdata_0) := look_off (hoff 0 rfl) rfl
                exact dp_v (v := (Sl adata_0 s68.1 cdata_0)) (wanted_none _ rfl _) (rv_move e0) rfl hJ)) ?_
              refine all_cons (obs_v rfl (by
                intro k; intro _nm ρ σm hJ hoff hdep
                have e11 : look 141 ρ 11 = (I s68.2) := look_off (hoff 11 rfl) rfl
                exact dp_v (v := (I s68.2)) (wanted_none _ rfl _) (rv_move e11) rfl hJ)) ?_
              refine all_cons (obs_v rfl (by
                intro k; intro _nm ρ σm hJ hoff hdep
                have e0 : look 141 ρ 0 = (Sl adata_0 s68.1 cdata_0) := look_off (hoff 0 rfl) rfl
                exact dp_v (v := (Sl adata_0 s68.1 cdata_0)) (wanted_none _ rfl _) (rv_move e0) rfl hJ)) ?_
              refine all_cons (obs_v rfl (by
                intro k; intro _nm ρ σm hJ hoff hdep
                have e11 : look 141 ρ 11 = (I s68.2) := look_off (hoff 11 rfl) rfl
                exact dp_v (v := (I s68.2)) (wanted_none _ rfl _) (rv_move e11) rfl hJ)) ?_
              refine all_cons (obs_v rfl (by
                intro k; intro _nm ρ σm hJ hoff hdep
                have e88 : look 141 ρ 88 = (I s68.2) := hdep 3 rfl rfl 88 rfl
                exact dp_v (v := (I (w64 (s68.2 - 1)))) (wanted_none _ rfl _) (rv_sub (a := s68.2) (b := 1) e88 rfl) rfl hJ)) ?_
              refine all_cons (obs_v rfl (by
                intro k; intro _nm ρ σm hJ hoff hdep
                have e0 : look 141 ρ 0 = (Sl adata_0 s68.1 cdata_0) := look_off (hoff 0 rfl) rfl
                exact dp_v (v := (Sl adata_0 s68.1 cdata_0)) (wanted_none _ rfl _) (rv_move e0) rfl hJ)) ?_
              refine all_cons (obs_v rfl (by
                intro k; intro _nm ρ σm hJ hoff hdep
                have e11 : look 141 ρ 11 = (I s68.2) := look_off (hoff 11 rfl) rfl
                exact dp_v (v := (I s68.2)) (wanted_none _ rfl _) (rv_move e11) rfl hJ)) ?_
              refine all_cons (obs_v rfl (by
                intro k; intro _nm ρ σm hJ hoff hdep
                have e91 : look 141 ρ 91 = (I s68.2) := hdep 6 rfl rfl 91 rfl
                exact dp_v (v := (I (w64 (s68.2 - 1)))) (wanted_none _ rfl _) (rv_sub (a := s68.2) (b := 1) e91 rfl) rfl hJ)) ?_
              refine all_cons (obs_v rfl (by
                intro k; intro _nm ρ σm hJ hoff hdep
                have e90 : look 141 ρ 90 = (Sl adata_0 s68.1 cdata_0) := hdep 5 rfl rfl 90 rfl
                have e92 : look 141 ρ 92 = (I (w64 (s68.2 - 1))) := hdep 7 rfl rfl 92 rfl
                exact dp_v (v := (pt b96 o97)) (wanted_none _ rfl _) (rv_ix Try.underlying27 ti64 e90 e92 hi95) rfl hJ)) ?_
              refine all_cons (by
                refine ⟨?_, ?_⟩
                ·intro _nm ρ σm hJ hoff hdep
                 have e93 : look 141 ρ 93 = (pt b96 o97) := hdep 8 rfl rfl 93 rfl
                 obtain ⟨H, m⟩ := id hJ
                 obtain ⟨_, ⟨_, _, rfl, rfl, rfl⟩, hl98, hc99⟩ := ((H.own 0 rfl).at hx94 hi95).cells
                 exact dp_v (v := (.agg #[(I x93.1), (I x93.2)])) (wanted_none _ rfl _) (rv_load Try.underlying64 rfl ti64 e93 hl98 hc99) rfl hJ
                trivial) ?_
              refine all_cons (obs_v rfl (by
                intro k; intro _nm ρ σm hJ hoff hdep
                have e0 : look 141 ρ 0 = (Sl adata_0 s68.1 cdata_0) := look_off (hoff 0 rfl) rfl
                exact dp_v (v := (Sl adata_0 s68.1 cdata_0)) (wanted_none _ rfl _) (rv_move e0) rfl hJ)) ?_
              refine all_cons (obs_v rfl (by
                intro k; intro _nm ρ σm hJ hoff hdep
                have e11 : look 141 ρ 11 = (I s68.2) := look_off (hoff 11 rfl) rfl
                exact dp_v (v := (I s68.2)) (wanted_none _ rfl _) (rv_move e11) rfl hJ)) ?_
              refine all_cons (obs_v rfl (by
                intro k; intro _nm ρ σm hJ hoff hdep
                have e95 : look 141 ρ 95 = (Sl adata_0 s68.1 cdata_0) := hdep 10 rfl rfl 95 rfl
                have e96 : look 141 ρ 96 = (I s68.2) := hdep 11 rfl rfl 96 rfl
                exact dp_v (v := (pt b103 o104)) (wanted_none _ rfl _) (rv_ix Try.underlying27 ti64 e95 e96 hi102) rfl hJ)) ?_
              refine all_cons (by
                refine ⟨?_, ?_⟩
                ·intro _nm ρ σm hJ hoff hdep
                 have e97 : look 141 ρ 97 = (pt b103 o104) := hdep 12 rfl rfl 97 rfl
                 obtain ⟨H, m⟩ := id hJ
                 obtain ⟨_, ⟨_, _, rfl, rfl, rfl⟩, hl105, hc106⟩ := ((H.own 0 rfl).at hx101 hi102).cells
                 exact dp_v (v := (.agg #[(I x100.1), (I x100.2)])) (wanted_none _ rfl _) (rv_load Try.underlying64 rfl ti64 e97 hl105 hc106) rfl hJ
                trivial) ?_
              refine all_cons (obs_v rfl (by
                intro k; intro _nm ρ σm hJ hoff hdep
                have e85 : look 141 ρ 85 = (Sl adata_0 s68.1 cdata_0) := hdep 0 rfl rfl 85 rfl
                have e86 : look 141 ρ 86 = (I s68.2) := hdep 1 rfl rfl 86 rfl
                exact dp_v (v := (pt b110 o111)) (wanted_none _ rfl _) (rv_ix Try.underlying27 ti64 e85 e86 hi109) rfl hJ)) ?_
              refine all_cons (by
                refine ⟨?_, ?_⟩
                ·intro _nm ρ σm hJ hoff hdep
                 have e99 : look 141 ρ 99 = (pt b110 o111) := hdep 14 rfl rfl 99 rfl
                 have e94 : look 141 ρ 94 = (.agg #[(I x93.1), (I x93.2)]) := hdep 9 rfl rfl 94 rfl
                 obtain ⟨H, m⟩ := id hJ
                 refine dp_exS (wanted_none _ rfl _) rfl (ex_store_own (e' := (x93.1, x93.2)) (vs := [(I x93.1), (I x93.2)]) (k := 0) H (i := 0) rfl ti64 hx108 hi109 e99 rfl e94 rfl rfl (Nat.le_of_ble_eq_true rfl) (by simp [plain]) (by rintro _ ⟨_, _, rfl, rfl, rfl⟩; exact ⟨[(I x93.1)], [(I x93.2)], rfl, rfl, rfl⟩)) ?_
                 rintro σq ⟨H2, m2⟩
                 exact ⟨_, (), rfl, ⟨H2.sel' [0] rfl rfl, m.comp m2⟩, stab [0, 1, 2, 3, 4, 5, 6, 7, 8, 9, 10, 11, 12, 13, 14] (by kernel_rfl) ⟨rfl, rfl, rfl, rfl, rfl, rfl, rfl, rfl, rfl, rfl, rfl, rfl, rfl, rfl, rfl, trivial⟩⟩
                trivial) ?_
              exact all_nil
             ·intro _nm ρ σ112 hJ hoff hrel
              have e0 : look 141 ρ 0 = (Sl adata_0 s68.1 cdata_0) := look_off (hoff 0 rfl) rfl
              have e1 : look 141 ρ 1 = (I a_1) := look_off (hoff 1 rfl) rfl
              have e2 : look 141 ρ 2 = (I b_2) := look_off (hoff 2 rfl) rfl
              have e3 : look 141 ρ 3 = (.func (.func 101) #[] #[]) := look_off (hoff 3 rfl) rfl
              have e9 : look 141 ρ 9 = (I o7) := look_off (hoff 9 rfl) rfl
              have e10 : look 141 ρ 10 = (I s2.2.2) := look_off (hoff 10 rfl) rfl
              have e11 : look 141 ρ 11 = (I s68.2) := look_off (hoff 11 rfl) rfl
              have e87 : look 141 ρ 87 = (Sl adata_0 s68.1 cdata_0) := hrel 2 rfl 87 rfl
              have e89 : look 141 ρ 89 = (I (w64 (s68.2 - 1))) := hrel 4 rfl 89 rfl
              have e98 : look 141 ρ 98 = (.agg #[(I x100.1), (I x100.2)]) := hrel 13 rfl 98 rfl
              obtain ⟨H, -⟩ := (show Hp S0 σ0 σ112 [Ch.own 0 0 (Sl adata_0 s68.1 cdata_0) (s68.1.set s68.2.toNat (x93.1, x93.2))] ∧ Md (fun i => (cov []) i ∨ (fun b => blk (Sl adata_0 s68.1 cdata_0) = some b) i) σ91 σ112 from hJ)
              clear hJ Hs
              rw [fr_lookL (L := [(0, (Sl adata_0 s68.1 cdata_0)), (1, (I a_1)), (2, (I b_2)), (3, (.func (.func 101) #[] #[])), (9, (I o7)), (10, (I s2.2.2)), (11, (I s68.2)), (87, (Sl adata_0 s68.1 cdata_0)), (89, (I (w64 (s68.2 - 1)))), (98, (.agg #[(I x100.1), (I x100.2)]))]) ⟨e0, e1, e2, e3, e9, e10, e11, e87, e89, e98, trivial⟩]
              clear hoff hrel e0 e1 e2 e3 e9 e10 e11 e87 e89 e98
              have hsl : (Sl adata_0 s68.1 cdata_0) = (Sl adata_0 (s68.1.set s68.2.toNat (x93.1, x93.2)) cdata_0) := sl_len (by simp)
              rw [hsl]; rw [hsl] at H; clear hsl
              obtain ⟨x113, hx114, h'⟩ := bind_some h
              clear h
              have h := h'; clear h'
              obtain ⟨b116, o117, hi115, -⟩ := (H.own 0 rfl).ix hx114
              refine st (v := (pt b116 o117)) (rv_ix Try.underlying27 ti64 rfl rfl hi115) ?_
              refine st_exS (ex_store_own (e' := (x100.1, x100.2)) (vs := [(I x100.1), (I x100.2)]) (k := 0) H (i := 0) rfl ti64 hx114 hi115 rfl rfl rfl rfl rfl (Nat.le_of_ble_eq_true rfl) (by simp [plain]) (by rintro _ ⟨_, _, rfl, rfl, rfl⟩; exact ⟨[(I x100.1)], [(I x100.2)], rfl, rfl, rfl⟩)) (wanted_none _ rfl _) ?_
              rintro σ118 ⟨H, -⟩
              have hsl : (Sl adata_0 (s68.1.set s68.2.toNat (x93.1, x93.2)) cdata_0) = (Sl adata_0 ((s68.1.set s68.2.toNat (x93.1, x93.2)).set (w64 (s68.2 - 1)).toNat (x100.1, x100.2)) cdata_0) := sl_len List.length_set.symm
              rw [hsl]; rw [hsl] at H; clear hsl
              refine w_end ?_
              refine q_blk ?_
              refine q_then ?_
              refine rg ?_
              refine st (v := (I s68.2)) (rv_move rfl) ?_
              refine st (v := (I (w64 (s68.2 - 1)))) (rv_sub (a := s68.2) (b := 1) rfl rfl) ?_
              refine st (v := (I (w64 (s68.2 - 1)))) (rv_assign rfl) ?_
              refine w_end ?_
              refine q_then ?_
              obtain rfl := Option.some.inj h
              exact ⟨_, rfl, _, σ118, fr_join ⟨rfl, rfl, rfl, rfl, rfl, rfl, rfl, trivial⟩, rfl, H.sel' [0] rfl rfl, ((List.length_set.trans (List.length_set.trans (hn70.trans (List.length_set.trans (List.length_set.trans hn4))))).trans (List.length_set.trans (List.length_set.trans hn4)).symm)⟩
           ·replace h := bif_f hb71 h
            refine c_exit ?_
            refine q_then_x ?_
            refine q_then_x ?_
            refine q_blk_hit ?_
            obtain rfl := Option.some.inj h
            obtain rfl := hres _ rfl
            exact ⟨rfl, _, σ69, fr_join ⟨rfl, rfl, rfl, rfl, rfl, rfl, trivial⟩, rfl, H.sel' [0] rfl rfl, ((hn70.trans (List.length_set.trans (List.length_set.trans hn4))).trans (List.length_set.trans (List.length_set.trans hn4)).symm)⟩
          ·clear hj
           have h := h'
           clear h' H
           rintro e a w ⟨rfl, ρ, σ119, rfl, rfl, H, hn120⟩
           obtain rfl := Option.some.inj h
           exact ⟨rfl, _, σ119, fr_join ⟨rfl, rfl, rfl, rfl, rfl, rfl, trivial⟩, rfl, H.sel' [0] rfl rfl, ((hn120.trans (List.length_set.trans (List.length_set.trans hn4))).trans (List.length_set.trans (List.length_set.trans hn4)).symm)⟩
         ·replace h := bif_f hb66 h
          refine c_skip ?_
          obtain rfl := Option.some.inj h
          exact ⟨rfl, _, σ64, fr_join ⟨rfl, rfl, rfl, rfl, rfl, rfl, trivial⟩, rfl, H.sel' [0] rfl rfl, rfl⟩
        ·clear hj
         have h := h'
         clear h' H
         rintro e a w ⟨rfl, ρ, σ121, rfl, rfl, H, hn122⟩
         refine q_then ?_
         refine c_seq ?_
         refine rg ?_
         refine st (v := (I b_2)) (rv_move rfl) ?_
         refine st (v := (I o7)) (rv_move rfl) ?_
         refine st (v := (I (w64 (b_2 - o7)))) (rv_sub (a := b_2) (b := o7) rfl rfl) ?_
         refine st (v := (B (decide (2 ≤ (w64 (b_2 - o7)))))) (rv_geq (a := (w64 (b_2 - o7))) (b := 2) rfl rfl) ?_
         refine w_end ?_
         refine q_then ?_
         refine cd_cond (decide (2 ≤ (w64 (b_2 - o7)))) rfl (fun hb123 => ?_) (fun hb123 => ?_)
         ·replace h := bif_t hb123 h
          refine c_seq ?_
          refine rg ?_
          refine st (v := (I o7)) (rv_move rfl) ?_
          refine st (v := (I (w64 (o7 + 1)))) (rv_add (a := o7) (b := 1) rfl rfl) ?_
          refine st (v := (I (w64 (o7 + 1)))) (rv_assign rfl) ?_
          refine w_end ?_
          refine q_then ?_
          obtain ⟨o124, hj, h'⟩ := bind_some h
          clear h
          refine c_cut (fun e a w => e = .normal ∧ ∃ (ρ : Nat → Value) (σ : St), a = fr 141 (updL ρ [(0, (Sl adata_0 o124 cdata_0)), (1, (I a_1)), (2, (I b_2)), (3, (.func (.func 101) #[] #[])), (9, (I o7)), (10, (I s2.2.2))]) ∧ w = σ.w ∧ Hp S0 σ0 σ [Ch.own 0 0 (Sl adata_0 o124 cdata_0) o124] ∧ o124.length = o65.length) ?_ ?_
          ·clear h'
           rename _ = some o124 => h
           refine c_blk ?_
           refine wp_loopM _ h (fun s125 a w => ∃ (ρ : Nat → Value) (σ : St), a = fr 141 (updL ρ [(0, (Sl adata_0 s125.1 cdata_0)), (1, (I a_1)), (2, (I b_2)), (3, (.func (.func 101) #[] #[])), (9, (I o7)), (10, (I s2.2.2)), (12, (I s125.2))]) ∧ w = σ.w ∧ Hp S0 σ0 σ [Ch.own 0 0 (Sl adata_0 s125.1 cdata_0) s125.1] ∧ s125.1.length = o65.length) ⟨_, σ121, fr_join ⟨rfl, rfl, rfl, rfl, rfl, rfl, rfl, trivial⟩, rfl, H.sel' [0] rfl rfl, rfl⟩ ?_
           clear h H
           rintro s125 a w o ⟨ρ, σ126, rfl, rfl, H, hn127⟩ h hres
           refine c_seq ?_
           refine c_seq ?_
           refine rg ?_
           refine st (v := (I s125.2)) (rv_move rfl) ?_
           refine st (v := (I b_2)) (rv_move rfl) ?_
           refine st (v := (B (decide (s125.2 < b_2)))) (rv_lss (a := s125.2) (b := b_2) rfl rfl) ?_
           refine w_end ?_
           refine q_then ?_
           refine cd_cond (decide (s125.2 < b_2)) rfl (fun hb128 => ?_) (fun hb128 => ?_)
           ·replace h := bif_t hb128 h
            refine c_skip ?_
            refine q_then ?_
            refine c_seq ?_
            refine c_blk ?_
            refine c_seq ?_
            refine c_seq ?_
            refine rgP (σ := σ126) 10 (by kernel_rfl) (by kernel_rfl) (by kernel_rfl) ?_
            refine sq (v := (.func (.func 101) #[] #[])) (rv_move rfl) ?_
            refine sq (v := (Sl adata_0 s125.1 cdata_0)) (rv_move rfl) ?_
            refine sq (v := (I s125.2)) (rv_move rfl) ?_
            obtain ⟨x129, hx130, h'⟩ := bind_some h
            clear h
            have h := h'; clear h'
            obtain ⟨b132, o133, hi131, -⟩ := (H.own 0 rfl).ix hx130
            refine sq (v := (pt b132 o133)) (rv_ix Try.underlying27 ti64 rfl rfl hi131) ?_
            obtain ⟨_, ⟨_, _, rfl, rfl, rfl⟩, hl134, hc135⟩ := ((H.own 0 rfl).at hx130 hi131).cells
            refine sq (v := (.agg #[(I x129.1), (I x129.2)])) (rv_load Try.underlying64 rfl ti64 rfl hl134 hc135) ?_
            refine sq (v := (Sl adata_0 s125.1 cdata_0)) (rv_move rfl) ?_
            refine sq (v := (I s125.2)) (rv_move rfl) ?_
            refine sq (v := (I (w64 (s125.2 - 1)))) (rv_sub (a := s125.2) (b := 1) rfl rfl) ?_
            obtain ⟨x136, hx137, h'⟩ := bind_some h
            clear h
            have h := h'; clear h'
            obtain ⟨b139, o140, hi138, -⟩ := (H.own 0 rfl).ix hx137
            refine sq (v := (pt b139 o140)) (rv_ix Try.underlying27 ti64 rfl rfl hi138) ?_
            obtain ⟨_, ⟨_, _, rfl, rfl, rfl⟩, hl141, hc142⟩ := ((H.own 0 rfl).at hx137 hi138).cells
            refine sq (v := (.agg #[(I x136.1), (I x136.2)])) (rv_load Try.underlying64 rfl ti64 rfl hl141 hc142) ?_
            refine sq_end ?_
            intro σ143 hm144
            replace H := H.grow (hm144.mono fun _ h => h); clear hm144
            obtain ⟨r145, hx146, h'⟩ := bind_some h
            clear h
            have h := h'; clear h'
            have hc147 := c_impl_compareHits hx146
            refine st_call (cx_call hc147 (ent_v (cap := []) hc147.fn rfl rfl) hn0 (show Hp S0 σ0 _ ([] ++ [Ch.own 0 0 (Sl adata_0 s125.1 cdata_0) s125.1]) from (H.sel' [0] rfl rfl))) (wanted_none _ rfl _) ?_
            rintro _ σ148 ⟨_, ⟨rfl, rfl⟩, H, -⟩
            replace H : Hp S0 σ0 σ148 [Ch.own 0 0 (Sl adata_0 s125.1 cdata_0) s125.1] := H
            refine st (v := (B (decide (r145 < 0)))) (rv_lss (a := r145) (b := 0) rfl rfl) ?_
            refine st (v := (B (!(decide (r145 < 0))))) (rv_not rfl) ?_
            refine w_end ?_
            refine q_then ?_
            refine cd_cond (!(decide (r145 < 0))) rfl (fun hb149 => ?_) (fun hb149 => ?_)
            ·replace h := bif_t hb149 h
             refine c_exit ?_
             refine q_then_x ?_
             refine q_blk_x (by decide) ?_
             refine q_then_x ?_
             refine q_then_x ?_
             refine q_blk_hit ?_
             obtain rfl := Option.some.inj h
             obtain rfl := hres _ rfl
             exact ⟨rfl, _, σ148, fr_join ⟨rfl, rfl, rfl, rfl, rfl, rfl, trivial⟩, rfl, H.sel' [0] rfl rfl, ((hn127.trans (hn122.trans (List.length_set.trans (List.length_set.trans hn4)))).trans (hn122.trans (List.length_set.trans (List.length_set.trans hn4))).symm)⟩
            ·replace h := bif_f hb149 h
             refine c_skip ?_
             refine q_then ?_
             obtain ⟨x150, hx151, h'⟩ := bind_some h
             clear h
             have h := h'; clear h'
             obtain ⟨b153, o154, hi152, -⟩ := (H.own 0 rfl).ix hx151
             obtain ⟨_, ⟨_, _, rfl, rfl, rfl⟩, hl155, hc156⟩ := ((H.own 0 rfl).at hx151 hi152).cells
             obtain ⟨x157, hx158, h'⟩ := bind_some h
             clear h
             have h := h'; clear h'
             obtain ⟨b160, o161, hi159, -⟩ := (H.own 0 rfl).ix hx158
             obtain ⟨_, ⟨_, _, rfl, rfl, rfl⟩, hl162, hc163⟩ := ((H.own 0 rfl).at hx158 hi159).cells
             obtain ⟨x164, hx165, h'⟩ := bind_some h
             clear h
             have h := h'; clear h'
             obtain ⟨b167, o168, hi166, -⟩ := (H.own 0 rfl).ix hx165
             have Hs := H
             refine rg2 (σ := σ148) (Nm := Unit) 16 [15] [[false], [true]] [[(0, 0)], [(0, 0)], [(0, 0), (1, 1)], [(0, 0), (1, 1)], [(0, 0), (1, 1)], [(0, 0)], [(0, 0)], [(0, 0)], [(0, 0)], [(0, 0)], [(0, 0)], [(0, 0)], [(0, 0)], [(0, 0)], [(0, 0)], [(0, 1)]] 1 [fun (_nm : Unit) => fun σm => Hp S0 σ0 σm [Ch.own 0 0 (Sl adata_0 s125.1 cdata_0) s125.1] ∧ Md (cov []) σ148 σm, fun (_nm : Unit) => fun σm => Hp S0 σ0 σm [Ch.own 0 0 (Sl adata_0 s125.1 cdata_0) (s125.1.set s125.2.toNat (x150.1, x150.2))] ∧ Md (fun i => (cov []) i ∨ (fun b => blk (Sl adata_0 s125.1 cdata_0) = some b) i) σ148 σm] [fun (_nm : Unit) => (Sl adata_0 s125.1 cdata_0), fun (_nm : Unit) => (I s125.2), fun (_nm : Unit) => (Sl adata_0 s125.1 cdata_0), fun (_nm : Unit) => (I s125.2), fun (_nm : Unit) => (I (w64 (s125.2 - 1))), fun (_nm : Unit) => (Sl adata_0 s125.1 cdata_0), fun (_nm : Unit) => (I s125.2), fun (_nm : Unit) => (I (w64 (s125.2 - 1))), fun (_nm : Unit) => (pt b153 o154), fun (_nm : Unit) => (.agg #[(I x150.1), (I x150.2)]), fun (_nm : Unit) => (Sl adata_0 s125.1 cdata_0), fun (_nm : Unit) => (I s125.2), fun (_nm : Unit) => (pt b160 o161), fun (_nm : Unit) => (.agg #[(I x157.1), (I x157.2)]), fun (_nm : Unit) => (pt b167 o168), fun (_nm : Unit) => undef] () (by kernel_rfl) (by kernel_rfl) ?_ ?_ ?_
             ·intro σm m0
              exact ⟨H.grow (m0.mono fun _ h => h.elim), m0⟩
             ·refine all_cons (obs_v rfl (by
                intro k; intro _nm ρ σm hJ hoff hdep
                have e0 : look 141 ρ 0 = (Sl adata_0 s125.1 cdata_0) := look_off (hoff 0 rfl) rfl
                exact dp_v (v := (Sl adata_0 s125.1 cdata_0)) (wanted_none _ rfl _) (rv_move e0) rfl hJ)) ?_
              refine all_cons (obs_v rfl (by
                intro k; intro _nm ρ σm hJ hoff hdep
                have e12 : look 141 ρ 12 = (I s125.2) := look_off (hoff 12 rfl) rfl
                exact dp_v (v := (I s125.2)) (wanted_none _ rfl _) (rv_move e12) rfl hJ)) ?_
              refine all_cons (obs_v rfl (by
                intro k; intro _nm ρ σm hJ hoff hdep
                have e0 : look 141 ρ 0 = (Sl adata_0 s125.1 cdata_0) := look_off (hoff 0 rfl) rfl
                exact dp_v (v := (Sl adata_0 s125.1 cdata_0)) (wanted_none _ rfl _) (rv_move e0) rfl hJ)) ?_
              refine all_cons (obs_v rfl (by
                intro k; intro _nm ρ σm hJ hoff hdep
                have e12 : look 141 ρ 12 = (I s125.2) := look_off (hoff 12 rfl) rfl
                exact dp_v (v := (I s125.2)) (wanted_none _ rfl _) (rv_move e12) rfl hJ)) ?_
              refine all_cons (obs_v rfl (by
                intro k; intro _nm ρ σm hJ hoff hdep
                have e128 : look 141 ρ 128 = (I s125.2) := hdep 3 rfl rfl 128 rfl
                exact dp_v (v := (I (w64 (s125.2 - 1)))) (wanted_none _ rfl _) (rv_sub (a := s125.2) (b := 1) e128 rfl) rfl hJ)) ?_
              refine all_cons (obs_v rfl (by
                intro k; intro _nm ρ σm hJ hoff hdep
                have e0 : look 141 ρ 0 = (Sl adata_0 s125.1 cdata_0) := look_off (hoff 0 rfl) rfl
                exact dp_v (v := (Sl adata_0 s125.1 cdata_0)) (wanted_none _ rfl _) (rv_move e0) rfl hJ)) ?_
              refine all_cons (obs_v rfl (by
                intro k; intro _nm ρ σm hJ hoff hdep
                have e12 : look 141 ρ 12 = (I s125.2) := look_off (hoff 12 rfl) rfl
                exact dp_v (v := (I s125.2)) (wanted_none _ rfl _) (rv_move e12) rfl hJ)) ?_
              refine all_cons (obs_v rfl (by
                intro k; intro _nm ρ σm hJ hoff hdep
                have e131 : look 141 ρ 131 = (I s125.2) := hdep 6 rfl rfl 131 rfl
                exact dp_v (v := (I (w64 (s125.2 - 1)))) (wanted_none _ rfl _) (rv_sub (a := s125.2) (b := 1) e131 rfl) rfl hJ)) ?_
              refine all_cons (obs_v rfl (by
                intro k; intro _nm ρ σm hJ hoff hdep
                have e130 : look 141 ρ 130 = (Sl adata_0 s125.1 cdata_0) := hdep 5 rfl rfl 130 rfl
                have e132 : look 141 ρ 132 = (I (w64 (s125.2 - 1))) := hdep 7 rfl rfl 132 rfl
                exact dp_v (v := (pt b153 o154)) (wanted_none _ rfl _) (rv_ix Try.underlying27 ti64 e130 e132 hi152) rfl hJ)) ?_
              refine all_cons (by
                refine ⟨?_, ?_⟩
                ·intro _nm ρ σm hJ hoff hdep
                 have e133 : look 141 ρ 133 = (pt b153 o154) := hdep 8 rfl rfl 133 rfl
                 obtain ⟨H, m⟩ := id hJ
                 obtain ⟨_, ⟨_, _, rfl, rfl, rfl⟩, hl155, hc156⟩ := ((H.own 0 rfl).at hx151 hi152).cells
                 exact dp_v (v := (.agg #[(I x150.1), (I x150.2)])) (wanted_none _ rfl _) (rv_load Try.underlying64 rfl ti64 e133 hl155 hc156) rfl hJ
                trivial) ?_
              refine all_cons (obs_v rfl (by
                intro k; intro _nm ρ σm hJ hoff hdep
                have e0 : look 141 ρ 0 = (Sl adata_0 s125.1 cdata_0) := look_off (hoff 0 rfl) rfl
                exact dp_v (v := (Sl adata_0 s125.1 cdata_0)) (wanted_none _ rfl _) (rv_move e0) rfl hJ)) ?_
              refine all_cons (obs_v rfl (by
                intro k; intro _nm ρ σm hJ hoff hdep
                have e12 : look 141 ρ 12 = (I s125.2) := look_off (hoff 12 rfl) rfl
                exact dp_v (v := (I s125.2)) (wanted_none _ rfl _) (rv_move e12) rfl hJ)) ?_
              refine all_cons (obs_v rfl (by
                intro k; intro _nm ρ σm hJ hoff hdep
                have e135 : look 141 ρ 135 = (Sl adata_0 s125.1 cdata_0) := hdep 10 rfl rfl 135 rfl
                have e136 : look 141 ρ 136 = (I s125.2) := hdep 11 rfl rfl 136 rfl
                exact dp_v (v := (pt b160 o161)) (wanted_none _ rfl _) (rv_ix Try.underlying27 ti64 e135 e136 hi159) rfl hJ)) ?_
              refine all_cons (by
                refine ⟨?_, ?_⟩
                ·intro _nm ρ σm hJ hoff hdep
                 have e137 : look 141 ρ 137 = (pt b160 o161) := hdep 12 rfl rfl 137 rfl
                 obtain ⟨H, m⟩ := id hJ
                 obtain ⟨_, ⟨_, _, rfl, rfl, rfl⟩, hl162, hc163⟩ := ((H.own 0 rfl).at hx158 hi159).cells
                 exact dp_v (v := (.agg #[(I x157.1), (I x157.2)])) (wanted_none _ rfl _) (rv_load Try.underlying64 rfl ti64 e137 hl162 hc163) rfl hJ
                trivial) ?_
              refine all_cons (obs_v rfl (by
                intro k; intro _nm ρ σm hJ hoff hdep
                have e125 : look 141 ρ 125 = (Sl adata_0 s125.1 cdata_0) := hdep 0 rfl rfl 125 rfl
                have e126 : look 141 ρ 126 = (I s125.2) := hdep 1 rfl rfl 126 rfl
                exact dp_v (v := (pt b167 o168)) (wanted_none _ rfl _) (rv_ix Try.underlying27 ti64 e125 e126 hi166) rfl hJ)) ?_
              refine all_cons (by
                refine ⟨?_, ?_⟩
                ·intro _nm ρ σm hJ hoff hdep
                 have e139 : look 141 ρ 139 = (pt b167 o168) := hdep 14 rfl rfl 139 rfl
                 have e134 : look 141 ρ 134 = (.agg #[(I x150.1), (I x150.2)]) := hdep 9 rfl rfl 134 rfl
                 obtain ⟨H, m⟩ := id hJ
                 refine dp_exS (wanted_none _ rfl _) rfl (ex_store_own (e' := (x150.1, x150.2)) (vs := [(I x150.1), (I x150.2)]) (k := 0) H (i := 0) rfl ti64 hx165 hi166 e139 rfl e134 rfl rfl (Nat.le_of_ble_eq_true rfl) (by simp [plain]) (by rintro _ ⟨_, _, rfl, rfl, rfl⟩; exact ⟨[(I x150.1)], [(I x150.2)], rfl, rfl, rfl⟩)) ?_
                 rintro σq ⟨H2, m2⟩
                 exact ⟨_, (), rfl, ⟨H2.sel' [0] rfl rfl, m.comp m2⟩, stab [0, 1, 2, 3, 4, 5, 6, 7, 8, 9, 10, 11, 12, 13, 14] (by kernel_rfl) ⟨rfl, rfl, rfl, rfl, rfl, rfl, rfl, rfl, rfl, rfl, rfl, rfl, rfl, rfl, rfl, trivial⟩⟩
                trivial) ?_
              exact all_nil
             ·intro _nm ρ σ169 hJ hoff hrel
              have e0 : look 141 ρ 0 = (Sl adata_0 s125.1 cdata_0) := look_off (hoff 0 rfl) rfl
              have e1 : look 141 ρ 1 = (I a_1) := look_off (hoff 1 rfl) rfl
              have e2 : look 141 ρ 2 = (I b_2) := look_off (hoff 2 rfl) rfl
              have e3 : look 141 ρ 3 = (.func (.func 101) #[] #[]) := look_off (hoff 3 rfl) rfl
              have e9 : look 141 ρ 9 = (I o7) := look_off (hoff 9 rfl) rfl
              have e10 : look 141 ρ 10 = (I s2.2.2) := look_off (hoff 10 rfl) rfl
              have e12 : look 141 ρ 12 = (I s125.2) := look_off (hoff 12 rfl) rfl
              have e127 : look 141 ρ 127 = (Sl adata_0 s125.1 cdata_0) := hrel 2 rfl 127 rfl
              have e129 : look 141 ρ 129 = (I (w64 (s125.2 - 1))) := hrel 4 rfl 129 rfl
              have e138 : look 141 ρ 138 = (.agg #[(I x157.1), (I x157.2)]) := hrel 13 rfl 138 rfl
              obtain ⟨H, -⟩ := (show Hp S0 σ0 σ169 [Ch.own 0 0 (Sl adata_0 s125.1 cdata_0) (s125.1.set s125.2.toNat (x150.1, x150.2))] ∧ Md (fun i => (cov []) i ∨ (fun b => blk (Sl adata_0 s125.1 cdata_0) = some b) i) σ148 σ169 from hJ)
              clear hJ Hs
              rw [fr_lookL (L := [(0, (Sl adata_0 s125.1 cdata_0)), (1, (I a_1)), (2, (I b_2)), (3, (.func (.func 101) #[] #[])), (9, (I o7)), (10, (I s2.2.2)), (12, (I s125.2)), (127, (Sl adata_0 s125.1 cdata_0)), (129, (I (w64 (s125.2 - 1)))), (138, (.agg #[(I x157.1), (I x157.2)]))]) ⟨e0, e1, e2, e3, e9, e10, e12, e127, e129, e138, trivial⟩]
              clear hoff hrel e0 e1 e2 e3 e9 e10 e12 e127 e129 e138
              have hsl : (Sl adata_0 s125.1 cdata_0) = (Sl adata_0 (s125.1.set s125.2.toNat (x150.1, x150.2)) cdata_0) := sl_len (by simp)
              rw [hsl]; rw [hsl] at H; clear hsl
              obtain ⟨x170, hx171, h'⟩ := bind_some h
              clear h
              have h := h'; clear h'
              obtain ⟨b173, o174, hi172, -⟩ := (H.own 0 rfl).ix hx171
              refine st (v := (pt b173 o174)) (rv_ix Try.underlying27 ti64 rfl rfl hi172) ?_
              refine st_exS (ex_store_own (e' := (x157.1, x157.2)) (vs := [(I x157.1), (I x157.2)]) (k := 0) H (i := 0) rfl ti64 hx171 hi172 rfl rfl rfl rfl rfl (Nat.le_of_ble_eq_true rfl) (by simp [plain]) (by rintro _ ⟨_, _, rfl, rfl, rfl⟩; exact ⟨[(I x157.1)], [(I x157.2)], rfl, rfl, rfl⟩)) (wanted_none _ rfl _) ?_
              rintro σ175 ⟨H, -⟩
              have hsl : (Sl adata_0 (s125.1.set s125.2.toNat (x150.1, x150.2)) cdata_0) = (Sl adata_0 ((s125.1.set s125.2.toNat (x150.1, x150.2)).set (w64 (s125.2 - 1)).toNat (x157.1, x157.2)) cdata_0) := sl_len List.length_set.symm
              rw [hsl]; rw [hsl] at H; clear hsl
              refine w_end ?_
              refine q_blk ?_
              refine q_then ?_
              refine rg ?_
              refine st (v := (I s125.2)) (rv_move rfl) ?_
              refine st (v := (I (w64 (s125.2 + 1)))) (rv_add (a := s125.2) (b := 1) rfl rfl) ?_
              refine st (v := (I (w64 (s125.2 + 1)))) (rv_assign rfl) ?_
              refine w_end ?_
              refine q_then ?_
              obtain rfl := Option.some.inj h
              exact ⟨_, rfl, _, σ175, fr_join ⟨rfl, rfl, rfl, rfl, rfl, rfl, rfl, trivial⟩, rfl, H.sel' [0] rfl rfl, ((List.length_set.trans (List.length_set.trans (hn127.trans (hn122.trans (List.length_set.trans (List.length_set.trans hn4)))))).trans (hn122.trans (List.length_set.trans (List.length_set.trans hn4))).symm)⟩
           ·replace h := bif_f hb128 h
            refine c_exit ?_
            refine q_then_x ?_
            refine q_then_x ?_
            refine q_blk_hit ?_
            obtain rfl := Option.some.inj h
            obtain rfl := hres _ rfl
            exact ⟨rfl, _, σ126, fr_join ⟨rfl, rfl, rfl, rfl, rfl, rfl, trivial⟩, rfl, H.sel' [0] rfl rfl, ((hn127.trans (hn122.trans (List.length_set.trans (List.length_set.trans hn4)))).trans (hn122.trans (List.length_set.trans (List.length_set.trans hn4))).symm)⟩
          ·clear hj
           have h := h'
           clear h' H
           rintro e a w ⟨rfl, ρ, σ176, rfl, rfl, H, hn177⟩
           refine q_blk ?_
           obtain rfl := Option.some.inj h
           exact .inl ⟨_, rfl, rfl, _, σ176, fr_join ⟨rfl, rfl, rfl, rfl, rfl, rfl, trivial⟩, rfl, H.sel' [0] rfl rfl, ((hn177.trans (hn122.trans (List.length_set.trans (List.length_set.trans hn4)))).trans hn4.symm)⟩
         ·replace h := bif_f hb123 h
          refine c_skip ?_
          refine q_blk ?_
          obtain rfl := Option.some.inj h
          exact .inl ⟨_, rfl, rfl, _, σ121, fr_join ⟨rfl, rfl, rfl, rfl, rfl, rfl, trivial⟩, rfl, H.sel' [0] rfl rfl, ((hn122.trans (List.length_set.trans (List.length_set.trans hn4))).trans hn4.symm)⟩
   ·clear hj
    have h := h'
    clear h' H
    rintro e a w (⟨t178, rfl, rfl, ρ, σ179, rfl, rfl, H, hn180⟩ | ⟨t181, rfl, rfl, ρ, σ182, rfl, rfl, H, hn183⟩)
    ·replace h := selim_l h
     refine q_then ?_
     refine rg ?_
     refine st (v := (I s2.2.2)) (rv_move rfl) ?_
     refine st (v := (I (w64 (s2.2.2 + 1)))) (rv_add (a := s2.2.2) (b := 1) rfl rfl) ?_
     refine st (v := (I (w64 (s2.2.2 + 1)))) (rv_assign rfl) ?_
     refine w_end ?_
     refine q_then ?_
     obtain rfl := Option.some.inj h
     exact ⟨_, rfl, _, σ179, fr_join ⟨rfl, rfl, rfl, rfl, rfl, rfl, trivial⟩, rfl, H.sel' [0] rfl rfl, (hn180.trans hn4)⟩
    ·replace h := selim_r h
     refine q_then_r ?_
     refine q_then_r ?_
     refine q_blk_r ?_
     obtain rfl := Option.some.inj h
     obtain rfl := hres _ rfl
     exact .inr (⟨_, rfl, rfl, _, σ182, fr_join ⟨rfl, rfl, trivial⟩, rfl, H.sel' [0] rfl rfl, (hn183.trans hn4)⟩)
  ·replace h := bif_f hb5 h
   refine c_exit ?_
   refine q_then_x ?_
   refine q_then_x ?_
   refine q_blk_hit ?_
   obtain rfl := Option.some.inj h
   obtain rfl := hres _ rfl
   exact .inl ⟨_, rfl, rfl, _, σ3, fr_join ⟨rfl, trivial⟩, rfl, H.sel' [0] rfl rfl, hn4⟩
 ·clear hj
  have h := h'
  clear h' H
  rintro e a w (⟨t184, rfl, rfl, ρ, σ185, rfl, rfl, H, hn186⟩ | ⟨t187, rfl, rfl, ρ, σ188, rfl, rfl, H, hn189⟩)
  ·replace h := selim_l h
   refine q_then ?_
   refine c_seq ?_
   refine rg ?_
   refine st (v := (B false)) (rv_assign rfl) ?_
   refine w_end ?_
   refine q_then ?_
   refine c_ret ?_
   obtain rfl := Option.some.inj h
   exact fin_ret (v := (B false)) (results_ok Try.results148 (res_tmp (v := (B false)) rfl res_nil) rfl) ⟨rfl, rfl, hn186⟩ (H.sel' [0] rfl rfl)
  ·replace h := selim_r h
   refine q_then_r ?_
   obtain rfl := Option.some.inj h
   exact fin_ret (v := (B t187.2)) (results_ok Try.results148 (res_tmp (v := (B t187.2)) rfl res_nil) rfl) ⟨rfl, rfl, hn189⟩ (H.sel' [0] rfl rfl)

theorem c_slices_partitionEqualCmpFunc_impl_Hit__impl_compareHits {data_0 : List (Int × Int)} {a_1 : Int} {b_2 : Int} {pivot_3 : Int} {adata_0 : Option Addr} {cdata_0 : Nat} {r : Int × (List (Int × Int))} (h : M.slices_partitionEqualCmpFunc_impl_Hit__impl_compareHits data_0 a_1 b_2 pivot_3 = some r) :
    Cal2 Try.prog 149 [(Sl adata_0 data_0 cdata_0), (I a_1), (I b_2), (I pivot_3), (.func (.func 101) #[] #[])] [Ch.own 0 0 (Sl adata_0 data_0 cdata_0) data_0] (fun n0 v L => v = (I r.1) ∧ L = [Ch.own 0 0 (Sl adata_0 r.2 cdata_0) r.2] ∧ r.2.length = data_0.length) := by
 refine cal2 (n := 90) Try.func149 rfl rfl rfl rfl ?_
 intro S0 σ0 n0 hn0 H
 unfold M.slices_partitionEqualCmpFunc_impl_Hit__impl_compareHits at h
 refine c_seq ?_
 refine rg ?_
 refine st (v := (I 0)) (rv_assign rfl) ?_
 refine w_end ?_
 refine q_then ?_
 refine c_seq ?_
 obtain ⟨x1, hx2, h'⟩ := bind_some h
 clear h
 have h := h'; clear h'
 obtain ⟨b4, o5, hi3, -⟩ := (H.own 0 rfl).ix hx2
 obtain ⟨_, ⟨_, _, rfl, rfl, rfl⟩, hl6, hc7⟩ := ((H.own 0 rfl).at hx2 hi3).cells
 obtain ⟨x8, hx9, h'⟩ := bind_some h
 clear h
 have h := h'; clear h'
 obtain ⟨b11, o12, hi10, -⟩ := (H.own 0 rfl).ix hx9
 obtain ⟨_, ⟨_, _, rfl, rfl, rfl⟩, hl13, hc14⟩ := ((H.own 0 rfl).at hx9 hi10).cells
 obtain ⟨x15, hx16, h'⟩ := bind_some h
 clear h
 have h := h'; clear h'
 obtain ⟨b18, o19, hi17, -⟩ := (H.own 0 rfl).ix hx16
 have Hs := H
 refine rg2 (σ := σ0) (Nm := Unit) 14 [13] [[false], [true]] [[(0, 0)], [(0, 0)], [(0, 0), (1, 1)], [(0, 0), (1, 1)], [(0, 0)], [(0, 0)], [(0, 0)], [(0, 0)], [(0, 0)], [(0, 0)], [(0, 0)], [(0, 0)], [(0, 0)], [(0, 1)]] 1 [fun (_nm : Unit) => fun σm => Hp S0 σ0 σm [Ch.own 0 0 (Sl adata_0 data_0 cdata_0) data_0] ∧ Md (cov []) σ0 σm, fun (_nm : Unit) => fun σm => Hp S0 σ0 σm [Ch.own 0 0 (Sl adata_0 data_0 cdata_0) (data_0.set a_1.toNat (x1.1, x1.2))] ∧ Md (fun i => (cov []) i ∨ (fun b => blk (Sl adata_0 data_0 cdata_0) = some b) i) σ0 σm] [fun (_nm : Unit) => (Sl adata_0 data_0 cdata_0), fun (_nm : Unit) => (I a_1), fun (_nm : Unit) => (Sl adata_0 data_0 cdata_0), fun (_nm : Unit) => (I pivot_3), fun (_nm : Unit) => (Sl adata_0 data_0 cdata_0), fun (_nm : Unit) => (I pivot_3), fun (_nm : Unit) => (pt b4 o5), fun (_nm : Unit) => (.agg #[(I x1.1), (I x1.2)]), fun (_nm : Unit) => (Sl adata_0 data_0 cdata_0), fun (_nm : Unit) => (I a_1), fun (_nm : Unit) => (pt b11 o12), fun (_nm : Unit) => (.agg #[(I x8.1), (I x8.2)]), fun (_nm : Unit) => (pt b18 o19), fun (_nm : Unit) => undef] () (by kernel_rfl) (by kernel_rfl) ?_ ?_ ?_
 ·intro σm m0
  exact ⟨H.grow (m0.mono fun _ h => h.elim), m0⟩
 ·refine all_cons (obs_v rfl (by
    intro k; intro _nm ρ σm hJ hoff hdep
    have e0 : look 90 ρ 0 = (Sl adata_0 data_0 cdata_0) := look_off (hoff 0 rfl) rfl
    exact dp_v (v := (Sl adata_0 data_0 cdata_0)) (wanted_none _ rfl _) (rv_move e0) rfl hJ)) ?_
  refine all_cons (obs_v rfl (by
    intro k; intro _nm ρ σm hJ hoff hdep
    have e1 : look 90 ρ 1 = (I a_1) := look_off (hoff 1 rfl) rfl
    exact dp_v (v := (I a_1)) (wanted_none _ rfl _) (rv_move e1) rfl hJ)) ?_
  refine all_cons (obs_v rfl (by
    intro k; intro _nm ρ σm hJ hoff hdep
    have e0 : look 90 ρ 0 = (Sl adata_0 data_0 cdata_0) := look_off (hoff 0 rfl) rfl
    exact dp_v (v := (Sl adata_0 data_0 cdata_0)) (wanted_none _ rfl _) (rv_move e0) rfl hJ)) ?_
  refine all_cons (obs_v rfl (by
    intro k; intro _nm ρ σm hJ hoff hdep
    have e3 : look 90 ρ 3 = (I pivot_3) := look_off (hoff 3 rfl) rfl
    exact dp_v (v := (I pivot_3)) (wanted_none _ rfl _) (rv_move e3) rfl hJ)) ?_
  refine all_cons (obs_v rfl (by
    intro k; intro _nm ρ σm hJ hoff hdep
    have e0 : look 90 ρ 0 = (Sl adata_0 data_0 cdata_0) := look_off (hoff 0 rfl) rfl
    exact dp_v (v := (Sl adata_0 data_0 cdata_0)) (wanted_none _ rfl _) (rv_move e0) rfl hJ)) ?_
  refine all_cons (obs_v rfl (by
    intro k; intro _nm ρ σm hJ hoff hdep
    have e3 : look 90 ρ 3 = (I pivot_3) := look_off (hoff 3 rfl) rfl
    exact dp_v (v := (I pivot_3)) (wanted_none _ rfl _) (rv_move e3) rfl hJ)) ?_
  refine all_cons (obs_v rfl (by
    intro k; intro _nm ρ σm hJ hoff hdep
    have e17 : look 90 ρ 17 = (Sl adata_0 data_0 cdata_0) := hdep 4 rfl rfl 17 rfl
    have e18 : look 90 ρ 18 = (I pivot_3) := hdep 5 rfl rfl 18 rfl
    exact dp_v (v := (pt b4 o5)) (wanted_none _ rfl _) (rv_ix Try.underlying27 ti64 e17 e18 hi3) rfl hJ)) ?_
  refine all_cons (by
    refine ⟨?_, ?_⟩
    ·intro _nm ρ σm hJ hoff hdep
     have e19 : look 90 ρ 19 = (pt b4 o5) := hdep 6 rfl rfl 19 rfl
     obtain ⟨H, m⟩ := id hJ
     obtain ⟨_, ⟨_, _, rfl, rfl, rfl⟩, hl6, hc7⟩ := ((H.own 0 rfl).at hx2 hi3).cells
     exact dp_v (v := (.agg #[(I x1.1), (I x1.2)])) (wanted_none _ rfl _) (rv_load Try.underlying64 rfl ti64 e19 hl6 hc7) rfl hJ
    trivial) ?_
  refine all_cons (obs_v rfl (by
    intro k; intro _nm ρ σm hJ hoff hdep
    have e0 : look 90 ρ 0 = (Sl adata_0 data_0 cdata_0) := look_off (hoff 0 rfl) rfl
    exact dp_v (v := (Sl adata_0 data_0 cdata_0)) (wanted_none _ rfl _) (rv_move e0) rfl hJ)) ?_
  refine all_cons (obs_v rfl (by
    intro k; intro _nm ρ σm hJ hoff hdep
    have e1 : look 90 ρ 1 = (I a_1) := look_off (hoff 1 rfl) rfl
    exact dp_v (v := (I a_1)) (wanted_none _ rfl _) (rv_move e1) rfl hJ)) ?_
  refine all_cons (obs_v rfl (by
    intro k; intro _nm ρ σm hJ hoff hdep
    have e21 : look 90 ρ 21 = (Sl adata_0 data_0 cdata_0) := hdep 8 rfl rfl 21 rfl
    have e22 : look 90 ρ 22 = (I a_1) := hdep 9 rfl rfl 22 rfl
    exact dp_v (v := (pt b11 o12)) (wanted_none _ rfl _) (rv_ix Try.underlying27 ti64 e21 e22 hi10) rfl hJ)) ?_
  refine all_cons (by
    refine ⟨?_, ?_⟩
    ·intro _nm ρ σm hJ hoff hdep
     have e23 : look 90 ρ 23 = (pt b11 o12) := hdep 10 rfl rfl 23 rfl
     obtain ⟨H, m⟩ := id hJ
     obtain ⟨_, ⟨_, _, rfl, rfl, rfl⟩, hl13, hc14⟩ := ((H.own 0 rfl).at hx9 hi10).cells
     exact dp_v (v := (.agg #[(I x8.1), (I x8.2)])) (wanted_none _ rfl _) (rv_load Try.underlying64 rfl ti64 e23 hl13 hc14) rfl hJ
    trivial) ?_
  refine all_cons (obs_v rfl (by
    intro k; intro _nm ρ σm hJ hoff hdep
    have e13 : look 90 ρ 13 = (Sl adata_0 data_0 cdata_0) := hdep 0 rfl rfl 13 rfl
    have e14 : look 90 ρ 14 = (I a_1) := hdep 1 rfl rfl 14 rfl
    exact dp_v (v := (pt b18 o19)) (wanted_none _ rfl _) (rv_ix Try.underlying27 ti64 e13 e14 hi17) rfl hJ)) ?_
  refine all_cons (by
    refine ⟨?_, ?_⟩
    ·intro _nm ρ σm hJ hoff hdep
     have e25 : look 90 ρ 25 = (pt b18 o19) := hdep 12 rfl rfl 25 rfl
     have e20 : look 90 ρ 20 = (.agg #[(I x1.1), (I x1.2)]) := hdep 7 rfl rfl 20 rfl
     obtain ⟨H, m⟩ := id hJ
     refine dp_exS (wanted_none _ rfl _) rfl (ex_store_own (e' := (x1.1, x1.2)) (vs := [(I x1.1), (I x1.2)]) (k := 0) H (i := 0) rfl ti64 hx16 hi17 e25 rfl e20 rfl rfl (Nat.le_of_ble_eq_true rfl) (by simp [plain]) (by rintro _ ⟨_, _, rfl, rfl, rfl⟩; exact ⟨[(I x1.1)], [(I x1.2)], rfl, rfl, rfl⟩)) ?_
     rintro σq ⟨H2, m2⟩
     exact ⟨_, (), rfl, ⟨H2.sel' [0] rfl rfl, m.comp m2⟩, stab [0, 1, 2, 3, 4, 5, 6, 7, 8, 9, 10, 11, 12] (by kernel_rfl) ⟨rfl, rfl, rfl, rfl, rfl, rfl, rfl, rfl, rfl, rfl, rfl, rfl, rfl, trivial⟩⟩
    trivial) ?_
  exact all_nil
 ·intro _nm ρ σ20 hJ hoff hrel
  have e0 : look 90 ρ 0 = (Sl adata_0 data_0 cdata_0) := look_off (hoff 0 rfl) rfl
  have e1 : look 90 ρ 1 = (I a_1) := look_off (hoff 1 rfl) rfl
  have e2 : look 90 ρ 2 = (I b_2) := look_off (hoff 2 rfl) rfl
  have e4 : look 90 ρ 4 = (.func (.func 101) #[] #[]) := look_off (hoff 4 rfl) rfl
  have e15 : look 90 ρ 15 = (Sl adata_0 data_0 cdata_0) := hrel 2 rfl 15 rfl
  have e16 : look 90 ρ 16 = (I pivot_3) := hrel 3 rfl 16 rfl
  have e24 : look 90 ρ 24 = (.agg #[(I x8.1), (I x8.2)]) := hrel 11 rfl 24 rfl
  obtain ⟨H, -⟩ := (show Hp S0 σ0 σ20 [Ch.own 0 0 (Sl adata_0 data_0 cdata_0) (data_0.set a_1.toNat (x1.1, x1.2))] ∧ Md (fun i => (cov []) i ∨ (fun b => blk (Sl adata_0 data_0 cdata_0) = some b) i) σ0 σ20 from hJ)
  clear hJ Hs
  rw [fr_lookL (L := [(0, (Sl adata_0 data_0 cdata_0)), (1, (I a_1)), (2, (I b_2)), (4, (.func (.func 101) #[] #[])), (15, (Sl adata_0 data_0 cdata_0)), (16, (I pivot_3)), (24, (.agg #[(I x8.1), (I x8.2)]))]) ⟨e0, e1, e2, e4, e15, e16, e24, trivial⟩]
  clear hoff hrel e0 e1 e2 e4 e15 e16 e24
  have hsl : (Sl adata_0 data_0 cdata_0) = (Sl adata_0 (data_0.set a_1.toNat (x1.1, x1.2)) cdata_0) := sl_len (by simp)
  rw [hsl]; rw [hsl] at H; clear hsl
  obtain ⟨x21, hx22, h'⟩ := bind_some h
  clear h
  have h := h'; clear h'
  obtain ⟨b24, o25, hi23, -⟩ := (H.own 0 rfl).ix hx22
  refine st (v := (pt b24 o25)) (rv_ix Try.underlying27 ti64 rfl rfl hi23) ?_
  refine st_exS (ex_store_own (e' := (x8.1, x8.2)) (vs := [(I x8.1), (I x8.2)]) (k := 0) H (i := 0) rfl ti64 hx22 hi23 rfl rfl rfl rfl rfl (Nat.le_of_ble_eq_true rfl) (by simp [plain]) (by rintro _ ⟨_, _, rfl, rfl, rfl⟩; exact ⟨[(I x8.1)], [(I x8.2)], rfl, rfl, rfl⟩)) (wanted_none _ rfl _) ?_
  rintro σ26 ⟨H, -⟩
  have hsl : (Sl adata_0 (data_0.set a_1.toNat (x1.1, x1.2)) cdata_0) = (Sl adata_0 ((data_0.set a_1.toNat (x1.1, x1.2)).set pivot_3.toNat (x8.1, x8.2)) cdata_0) := sl_len List.length_set.symm
  rw [hsl]; rw [hsl] at H; clear hsl
  refine w_end ?_
  refine q_then ?_
  refine c_seq ?_
  refine rg ?_
  refine st (v := (I a_1)) (rv_move rfl) ?_
  refine st (v := (I (w64 (a_1 + 1)))) (rv_add (a := a_1) (b := 1) rfl rfl) ?_
  refine st (v := (I b_2)) (rv_move rfl) ?_
  refine st (v := (I (w64 (b_2 - 1)))) (rv_sub (a := b_2) (b := 1) rfl rfl) ?_
  refine st (v := (I (w64 (a_1 + 1)))) (rv_assign rfl) ?_
  refine st (v := (I (w64 (b_2 - 1)))) (rv_assign rfl) ?_
  refine w_end ?_
  refine q_then ?_
  refine c_seq ?_
  obtain ⟨o27, hj, h'⟩ := bind_some h
  clear h
  refine c_cut (fun e a w => e = .normal ∧ ∃ (ρ : Nat → Value) (σ : St), a = fr 90 (updL ρ [(0, (Sl adata_0 o27.1 cdata_0)), (11, (I o27.2))]) ∧ w = σ.w ∧ Hp S0 σ0 σ [Ch.own 0 0 (Sl adata_0 o27.1 cdata_0) o27.1] ∧ o27.1.length = ((data_0.set a_1.toNat (x1.1, x1.2)).set pivot_3.toNat (x8.1, x8.2)).length) ?_ ?_
  ·clear h'
   rename _ = some o27 => h
   refine c_blk ?_
   refine wp_loopM _ h (fun s28 a w => ∃ (ρ : Nat → Value) (σ : St), a = fr 90 (updL ρ [(0, (Sl adata_0 s28.1 cdata_0)), (1, (I a_1)), (4, (.func (.func 101) #[] #[])), (11, (I s28.2.1)), (12, (I s28.2.2))]) ∧ w = σ.w ∧ Hp S0 σ0 σ [Ch.own 0 0 (Sl adata_0 s28.1 cdata_0) s28.1] ∧ s28.1.length = ((data_0.set a_1.toNat (x1.1, x1.2)).set pivot_3.toNat (x8.1, x8.2)).length) ⟨_, σ26, fr_join ⟨rfl, rfl, rfl, rfl, rfl, trivial⟩, rfl, H.sel' [0] rfl rfl, rfl⟩ ?_
   clear h H
   rintro s28 a w o ⟨ρ, σ29, rfl, rfl, H, hn30⟩ h hres
   refine c_blk ?_
   refine c_seq ?_
   obtain ⟨o31, hj, h'⟩ := bind_some h
   clear h
   refine c_cut (fun e a w => e = .normal ∧ ∃ (ρ : Nat → Value) (σ : St), a = fr 90 (updL ρ [(0, (Sl adata_0 s28.1 cdata_0)), (1, (I a_1)), (4, (.func (.func 101) #[] #[])), (11, (I o31)), (12, (I s28.2.2))]) ∧ w = σ.w ∧ Hp S0 σ0 σ [Ch.own 0 0 (Sl adata_0 s28.1 cdata_0) s28.1]) ?_ ?_
   ·clear h'
    rename _ = some o31 => h
    refine c_blk ?_
    refine wp_loopM _ h (fun s32 a w => ∃ (ρ : Nat → Value) (σ : St), a = fr 90 (updL ρ [(0, (Sl adata_0 s28.1 cdata_0)), (1, (I a_1)), (4, (.func (.func 101) #[] #[])), (11, (I s32)), (12, (I s28.2.2))]) ∧ w = σ.w ∧ Hp S0 σ0 σ [Ch.own 0 0 (Sl adata_0 s28.1 cdata_0) s28.1]) ⟨_, σ29, fr_join ⟨rfl, rfl, rfl, rfl, rfl, trivial⟩, rfl, H.sel' [0] rfl rfl⟩ ?_
    clear h H
    rintro s32 a w o ⟨ρ, σ33, rfl, rfl, H⟩ h hres
    refine c_seq ?_
    refine c_seq ?_
    obtain ⟨o34, hj, h'⟩ := bind_some h
    clear h
    refine c_cut (fun e a w => e = .normal ∧ ∃ (ρ : Nat → Value) (σ : St), a = fr 90 (updL ρ [(0, (Sl adata_0 s28.1 cdata_0)), (1, (I a_1)), (4, (.func (.func 101) #[] #[])), (11, (I s32)), (12, (I s28.2.2)), (47, (B o34))]) ∧ w = σ.w ∧ Hp S0 σ0 σ [Ch.own 0 0 (Sl adata_0 s28.1 cdata_0) s28.1]) ?_ ?_
    ·clear h'
     rename _ = some o34 => h
     refine rgP (σ := σ33) 13 (by kernel_rfl) (by kernel_rfl) (by kernel_rfl) ?_
     refine sq (v := (I s32)) (rv_move rfl) ?_
     refine sq (v := (I s28.2.2)) (rv_move rfl) ?_
     refine sq (v := (B (decide (s32 ≤ s28.2.2)))) (rv_leq (a := s32) (b := s28.2.2) rfl rfl) ?_
     refine sq (v := (B (decide (s32 ≤ s28.2.2)))) (rv_move rfl) ?_
     rcases Bool.eq_false_or_eq_true (decide (s32 ≤ s28.2.2)) with hb35 | hb35
     ·replace h := bif_t hb35 h
      refine sq_g (v := (.func (.func 101) #[] #[])) (congrArg some hb35) (rv_move rfl) ?_
      refine sq_g (v := (Sl adata_0 s28.1 cdata_0)) (congrArg some hb35) (rv_move rfl) ?_
      refine sq_g (v := (I a_1)) (congrArg some hb35) (rv_move rfl) ?_
      obtain ⟨x36, hx37, h'⟩ := bind_some h
      clear h
      have h := h'; clear h'
      obtain ⟨b39, o40, hi38, -⟩ := (H.own 0 rfl).ix hx37
      refine sq_g (v := (pt b39 o40)) (congrArg some hb35) (rv_ix Try.underlying27 ti64 rfl rfl hi38) ?_
      obtain ⟨_, ⟨_, _, rfl, rfl, rfl⟩, hl41, hc42⟩ := ((H.own 0 rfl).at hx37 hi38).cells
      refine sq_g (v := (.agg #[(I x36.1), (I x36.2)])) (congrArg some hb35) (rv_load Try.underlying64 rfl ti64 rfl hl41 hc42) ?_
      refine sq_g (v := (Sl adata_0 s28.1 cdata_0)) (congrArg some hb35) (rv_move rfl) ?_
      refine sq_g (v := (I s32)) (congrArg some hb35) (rv_move rfl) ?_
      obtain ⟨x43, hx44, h'⟩ := bind_some h
      clear h
      have h := h'; clear h'
      obtain ⟨b46, o47, hi45, -⟩ := (H.own 0 rfl).ix hx44
      refine sq_g (v := (pt b46 o47)) (congrArg some hb35) (rv_ix Try.underlying27 ti64 rfl rfl hi45) ?_
      obtain ⟨_, ⟨_, _, rfl, rfl, rfl⟩, hl48, hc49⟩ := ((H.own 0 rfl).at hx44 hi45).cells
      refine sq_g (v := (.agg #[(I x43.1), (I x43.2)])) (congrArg some hb35) (rv_load Try.underlying64 rfl ti64 rfl hl48 hc49) ?_
      refine sq_end ?_
      intro σ50 hm51
      replace H := H.grow (hm51.mono fun _ h => h); clear hm51
      obtain ⟨r52, hx53, h'⟩ := bind_some h
      clear h
      have h := h'; clear h'
      have hc54 := c_impl_compareHits hx53
      refine st_call (cx_call hc54 (ent_v (cap := []) hc54.fn rfl rfl) hn0 (show Hp S0 σ0 _ ([] ++ [Ch.own 0 0 (Sl adata_0 s28.1 cdata_0) s28.1]) from (H.sel' [0] rfl rfl))) (wanted_yes rfl (by exact (congrArg some hb35))) ?_
      rintro _ σ55 ⟨_, ⟨rfl, rfl⟩, H, -⟩
      replace H : Hp S0 σ0 σ55 [Ch.own 0 0 (Sl adata_0 s28.1 cdata_0) s28.1] := H
      refine st_g (v := (B (decide (r52 < 0)))) (congrArg some hb35) (rv_lss (a := r52) (b := 0) rfl rfl) ?_
      refine st_g (v := (B (!(decide (r52 < 0))))) (congrArg some hb35) (rv_not rfl) ?_
      refine st (v := (B (!(decide (r52 < 0))))) (rv_pick_t (congrArg B hb35) rfl) ?_
      refine w_end ?_
      obtain rfl := Option.some.inj h
      exact ⟨rfl, _, σ55, fr_join ⟨rfl, rfl, rfl, rfl, rfl, rfl, trivial⟩, rfl, H.sel' [0] rfl rfl⟩
     ·replace h := bif_f hb35 h
      refine sq_skip (congrArg some hb35) ?_
      refine sq_skip (congrArg some hb35) ?_
      refine sq_skip (congrArg some hb35) ?_
      refine sq_skip (congrArg some hb35) ?_
      refine sq_skip (congrArg some hb35) ?_
      refine sq_skip (congrArg some hb35) ?_
      refine sq_skip (congrArg some hb35) ?_
      refine sq_skip (congrArg some hb35) ?_
      refine sq_skip (congrArg some hb35) ?_
      refine sq_end ?_
      intro σ56 hm57
      replace H := H.grow (hm57.mono fun _ h => h); clear hm57
      refine st_skip (congrArg some hb35) ?_
      refine st_skip (congrArg some hb35) ?_
      refine st_skip (congrArg some hb35) ?_
      refine st (v := (B false)) (rv_pick_f (congrArg B hb35) rfl) ?_
      refine w_end ?_
      obtain rfl := Option.some.inj h
      exact ⟨rfl, _, σ56, fr_join ⟨rfl, rfl, rfl, rfl, rfl, rfl, trivial⟩, rfl, H.sel' [0] rfl rfl⟩
    ·clear hj
     have h := h'
     clear h' H
     rintro e a w ⟨rfl, ρ, σ58, rfl, rfl, H⟩
     refine q_then ?_
     refine cd_cond o34 rfl (fun hb59 => ?_) (fun hb59 => ?_)
     ·replace h := bif_t hb59 h
      refine c_skip ?_
      refine q_then ?_
      refine c_blk ?_
      refine rg ?_
      refine st (v := (I s32)) (rv_move rfl) ?_
      refine st (v := (I (w64 (s32 + 1)))) (rv_add (a := s32) (b := 1) rfl rfl) ?_
      refine st (v := (I (w64 (s32 + 1)))) (rv_assign rfl) ?_
      refine w_end ?_
      refine q_blk ?_
      refine q_then ?_
      obtain rfl := Option.some.inj h
      exact ⟨_, rfl, _, σ58, fr_join ⟨rfl, rfl, rfl, rfl, rfl, trivial⟩, rfl, H.sel' [0] rfl rfl⟩
     ·replace h := bif_f hb59 h
      refine c_exit ?_
      refine q_then_x ?_
      refine q_then_x ?_
      refine q_blk_hit ?_
      obtain rfl := Option.some.inj h
      obtain rfl := hres _ rfl
      exact ⟨rfl, _, σ58, fr_join ⟨rfl, rfl, rfl, rfl, rfl, trivial⟩, rfl, H.sel' [0] rfl rfl⟩
   ·clear hj
    have h := h'
    clear h' H
    rintro e a w ⟨rfl, ρ, σ60, rfl, rfl, H⟩
    refine q_then ?_
    refine c_seq ?_
    obtain ⟨o61, hj, h'⟩ := bind_some h
    clear h
    refine c_cut (fun e a w => e = .normal ∧ ∃ (ρ : Nat → Value) (σ : St), a = fr 90 (updL ρ [(0, (Sl adata_0 s28.1 cdata_0)), (1, (I a_1)), (4, (.func (.func 101) #[] #[])), (11, (I o31)), (12, (I o61))]) ∧ w = σ.w ∧ Hp S0 σ0 σ [Ch.own 0 0 (Sl adata_0 s28.1 cdata_0) s28.1]) ?_ ?_
    ·clear h'
     rename _ = some o61 => h
     refine c_blk ?_
     refine wp_loopM _ h (fun s62 a w => ∃ (ρ : Nat → Value) (σ : St), a = fr 90 (updL ρ [(0, (Sl adata_0 s28.1 cdata_0)), (1, (I a_1)), (4, (.func (.func 101) #[] #[])), (11, (I o31)), (12, (I s62))]) ∧ w = σ.w ∧ Hp S0 σ0 σ [Ch.own 0 0 (Sl adata_0 s28.1 cdata_0) s28.1]) ⟨_, σ60, fr_join ⟨rfl, rfl, rfl, rfl, rfl, trivial⟩, rfl, H.sel' [0] rfl rfl⟩ ?_
     clear h H
     rintro s62 a w o ⟨ρ, σ63, rfl, rfl, H⟩ h hres
     refine c_seq ?_
     refine c_seq ?_
     obtain ⟨o64, hj, h'⟩ := bind_some h
     clear h
     refine c_cut (fun e a w => e = .normal ∧ ∃ (ρ : Nat → Value) (σ : St), a = fr 90 (updL ρ [(0, (Sl adata_0 s28.1 cdata_0)), (1, (I a_1)), (4, (.func (.func 101) #[] #[])), (11, (I o31)), (12, (I s62)), (65, (B o64))]) ∧ w = σ.w ∧ Hp S0 σ0 σ [Ch.own 0 0 (Sl adata_0 s28.1 cdata_0) s28.1]) ?_ ?_
     ·clear h'
      rename _ = some o64 => h
      refine rgP (σ := σ63) 13 (by kernel_rfl) (by kernel_rfl) (by kernel_rfl) ?_
      refine sq (v := (I o31)) (rv_move rfl) ?_
      refine sq (v := (I s62)) (rv_move rfl) ?_
      refine sq (v := (B (decide (o31 ≤ s62)))) (rv_leq (a := o31) (b := s62) rfl rfl) ?_
      refine sq (v := (B (decide (o31 ≤ s62)))) (rv_move rfl) ?_
      rcases Bool.eq_false_or_eq_true (decide (o31 ≤ s62)) with hb65 | hb65
      ·replace h := bif_t hb65 h
       refine sq_g (v := (.func (.func 101) #[] #[])) (congrArg some hb65) (rv_move rfl) ?_
       refine sq_g (v := (Sl adata_0 s28.1 cdata_0)) (congrArg some hb65) (rv_move rfl) ?_
       refine sq_g (v := (I a_1)) (congrArg some hb65) (rv_move rfl) ?_
       obtain ⟨x66, hx67, h'⟩ := bind_some h
       clear h
       have h := h'; clear h'
       obtain ⟨b69, o70, hi68, -⟩ := (H.own 0 rfl).ix hx67
       refine sq_g (v := (pt b69 o70)) (congrArg some hb65) (rv_ix Try.underlying27 ti64 rfl rfl hi68) ?_
       obtain ⟨_, ⟨_, _, rfl, rfl, rfl⟩, hl71, hc72⟩ := ((H.own 0 rfl).at hx67 hi68).cells
       refine sq_g (v := (.agg #[(I x66.1), (I x66.2)])) (congrArg some hb65) (rv_load Try.underlying64 rfl ti64 rfl hl71 hc72) ?_
       refine sq_g (v := (Sl adata_0 s28.1 cdata_0)) (congrArg some hb65) (rv_move rfl) ?_
       refine sq_g (v := (I s62)) (congrArg some hb65) (rv_move rfl) ?_
       obtain ⟨x73, hx74, h'⟩ := bind_some h
       clear h
       have h := h'; clear h'
       obtain ⟨b76, o77, hi75, -⟩ := (H.own 0 rfl).ix hx74
       refine sq_g (v := (pt b76 o77)) (congrArg some hb65) (rv_ix Try.underlying27 ti64 rfl rfl hi75) ?_
       obtain ⟨_, ⟨_, _, rfl, rfl, rfl⟩, hl78, hc79⟩ := ((H.own 0 rfl).at hx74 hi75).cells
       refine sq_g (v := (.agg #[(I x73.1), (I x73.2)])) (congrArg some hb65) (rv_load Try.underlying64 rfl ti64 rfl hl78 hc79) ?_
       refine sq_end ?_
       intro σ80 hm81
       replace H := H.grow (hm81.mono fun _ h => h); clear hm81
       obtain ⟨r82, hx83, h'⟩ := bind_some h
       clear h
       have h := h'; clear h'
       have hc84 := c_impl_compareHits hx83
       refine st_call (cx_call hc84 (ent_v (cap := []) hc84.fn rfl rfl) hn0 (show Hp S0 σ0 _ ([] ++ [Ch.own 0 0 (Sl adata_0 s28.1 cdata_0) s28.1]) from (H.sel' [0] rfl rfl))) (wanted_yes rfl (by exact (congrArg some hb65))) ?_
       rintro _ σ85 ⟨_, ⟨rfl, rfl⟩, H, -⟩
       replace H : Hp S0 σ0 σ85 [Ch.own 0 0 (Sl adata_0 s28.1 cdata_0) s28.1] := H
       refine st_g (v := (B (decide (r82 < 0)))) (congrArg some hb65) (rv_lss (a := r82) (b := 0) rfl rfl) ?_
       refine st (v := (B (decide (r82 < 0)))) (rv_pick_t (congrArg B hb65) rfl) ?_
       refine w_end ?_
       obtain rfl := Option.some.inj h
       exact ⟨rfl, _, σ85, fr_join ⟨rfl, rfl, rfl, rfl, rfl, rfl, trivial⟩, rfl, H.sel' [0] rfl rfl⟩
      ·replace h := bif_f hb65 h
       refine sq_skip (congrArg some hb65) ?_
       refine sq_skip (congrArg some hb65) ?_
       refine sq_skip (congrArg some hb65) ?_
       refine sq_skip (congrArg some hb65) ?_
       refine sq_skip (congrArg some hb65) ?_
       refine sq_skip (congrArg some hb65) ?_
       refine sq_skip (congrArg some hb65) ?_
       refine sq_skip (congrArg some hb65) ?_
       refine sq_skip (congrArg some hb65) ?_
       refine sq_end ?_
       intro σ86 hm87
       replace H := H.grow (hm87.mono fun _ h => h); clear hm87
       refine st_skip (congrArg some hb65) ?_
       refine st_skip (congrArg some hb65) ?_
       refine st (v := (B false)) (rv_pick_f (congrArg B hb65) rfl) ?_
       refine w_end ?_
       obtain rfl := Option.some.inj h
       exact ⟨rfl, _, σ86, fr_join ⟨rfl, rfl, rfl, rfl, rfl, rfl, trivial⟩, rfl, H.sel' [0] rfl rfl⟩
     ·clear hj
      have h := h'
      clear h' H
      rintro e a w ⟨rfl, ρ, σ88, rfl, rfl, H⟩
      refine q_then ?_
      refine cd_cond o64 rfl (fun hb89 => ?_) (fun hb89 => ?_)
      ·replace h := bif_t hb89 h
       refine c_skip ?_
       refine q_then ?_
       refine c_blk ?_
       refine rg ?_
       refine st (v := (I s62)) (rv_move rfl) ?_
       refine st (v := (I (w64 (s62 - 1)))) (rv_sub (a := s62) (b := 1) rfl rfl) ?_
       refine st (v := (I (w64 (s62 - 1)))) (rv_assign rfl) ?_
       refine w_end ?_
       refine q_blk ?_
       refine q_then ?_
       obtain rfl := Option.some.inj h
       exact ⟨_, rfl, _, σ88, fr_join ⟨rfl, rfl, rfl, rfl, rfl, trivial⟩, rfl, H.sel' [0] rfl rfl⟩
      ·replace h := bif_f hb89 h
       refine c_exit ?_
       refine q_then_x ?_
       refine q_then_x ?_
       refine q_blk_hit ?_
       obtain rfl := Option.some.inj h
       obtain rfl := hres _ rfl
       exact ⟨rfl, _, σ88, fr_join ⟨rfl, rfl, rfl, rfl, rfl, trivial⟩, rfl, H.sel' [0] rfl rfl⟩
    ·clear hj
     have h := h'
     clear h' H
     rintro e a w ⟨rfl, ρ, σ90, rfl, rfl, H⟩
     refine q_then ?_
     refine c_seq ?_
     refine c_seq ?_
     refine rg ?_
     refine st (v := (I o31)) (rv_move rfl) ?_
     refine st (v := (I o61)) (rv_move rfl) ?_
     refine st (v := (B (decide (o61 < o31)))) (rv_gtr (a := o31) (b := o61) rfl rfl) ?_
     refine w_end ?_
     refine q_then ?_
     refine cd_cond (decide (o61 < o31)) rfl (fun hb91 => ?_) (fun hb91 => ?_)
     ·replace h := bif_t hb91 h
      refine c_exit ?_
      refine q_then_x ?_
      refine q_blk_x (by decide) ?_
      refine q_then_x ?_
      refine q_blk_hit ?_
      obtain rfl := Option.some.inj h
      obtain rfl := hres _ rfl
      exact ⟨rfl, _, σ90, fr_join ⟨rfl, rfl, trivial⟩, rfl, H.sel' [0] rfl rfl, ((hn30.trans (List.length_set.trans List.length_set)).trans (List.length_set.trans List.length_set).symm)⟩
     ·replace h := bif_f hb91 h
      refine c_skip ?_
      refine q_then ?_
      refine c_seq ?_
      obtain ⟨x92, hx93, h'⟩ := bind_some h
      clear h
      have h := h'; clear h'
      obtain ⟨b95, o96, hi94, -⟩ := (H.own 0 rfl).ix hx93
      obtain ⟨_, ⟨_, _, rfl, rfl, rfl⟩, hl97, hc98⟩ := ((H.own 0 rfl).at hx93 hi94).cells
      obtain ⟨x99, hx100, h'⟩ := bind_some h
      clear h
      have h := h'; clear h'
      obtain ⟨b102, o103, hi101, -⟩ := (H.own 0 rfl).ix hx100
      obtain ⟨_, ⟨_, _, rfl, rfl, rfl⟩, hl104, hc105⟩ := ((H.own 0 rfl).at hx100 hi101).cells
      obtain ⟨x106, hx107, h'⟩ := bind_some h
      clear h
      have h := h'; clear h'
      obtain ⟨b109, o110, hi108, -⟩ := (H.own 0 rfl).ix hx107
      have Hs := H
      refine rg2 (σ := σ90) (Nm := Unit) 14 [13] [[false], [true]] [[(0, 0)], [(0, 0)], [(0, 0), (1, 1)], [(0, 0), (1, 1)], [(0, 0)], [(0, 0)], [(0, 0)], [(0, 0)], [(0, 0)], [(0, 0)], [(0, 0)], [(0, 0)], [(0, 0)], [(0, 1)]] 1 [fun (_nm : Unit) => fun σm => Hp S0 σ0 σm [Ch.own 0 0 (Sl adata_0 s28.1 cdata_0) s28.1] ∧ Md (cov []) σ90 σm, fun (_nm : Unit) => fun σm => Hp S0 σ0 σm [Ch.own 0 0 (Sl adata_0 s28.1 cdata_0) (s28.1.set o31.toNat (x92.1, x92.2))] ∧ Md (fun i => (cov []) i ∨ (fun b => blk (Sl adata_0 s28.1 cdata_0) = some b) i) σ90 σm] [fun (_nm : Unit) => (Sl adata_0 s28.1 cdata_0), fun (_nm : Unit) => (I o31), fun (_nm : Unit) => (Sl adata_0 s28.1 cdata_0), fun (_nm : Unit) => (I o61), fun (_nm : Unit) => (Sl adata_0 s28.1 cdata_0), fun (_nm : Unit) => (I o61), fun (_nm : Unit) => (pt b95 o96), fun (_nm : Unit) => (.agg #[(I x92.1), (I x92.2)]), fun (_nm : Unit) => (Sl adata_0 s28.1 cdata_0), fun (_nm : Unit) => (I o31), fun (_nm : Unit) => (pt b102 o103), fun (_nm : Unit) => (.agg #[(I x99.1), (I x99.2)]), fun (_nm : Unit) => (pt b109 o110), fun (_nm : Unit) => undef] () (by kernel_rfl) (by kernel_rfl) ?_ ?_ ?_
      ·intro σm m0
       exact ⟨H.grow (m0.mono fun _ h => h.elim), m0⟩
      ·refine all_cons (obs_v rfl (by
         intro k; intro _nm ρ σm hJ hoff hdep
         have e0 : look 90 ρ 0 = (Sl adata_0 s28.1 cdata_0) := look_off (hoff 0 rfl) rfl
         exact dp_v (v := (Sl adata_0 s28.1 cdata_0)) (wanted_none _ rfl _) (rv_move e0) rfl hJ)) ?_
       refine all_cons (obs_v rfl (by
         intro k; intro _nm ρ σm hJ hoff hdep
         have e11 : look 90 ρ 11 = (I o31) := look_off (hoff 11 rfl) rfl
         exact dp_v (v := (I o31)) (wanted_none _ rfl _) (rv_move e11) rfl hJ)) ?_
       refine all_cons (obs_v rfl (by
         intro k; intro _nm ρ σm hJ hoff hdep
         have e0 : look 90 ρ 0 = (Sl adata_0 s28.1 cdata_0) := look_off (hoff 0 rfl) rfl
         exact dp_v (v := (Sl adata_0 s28.1 cdata_0)) (wanted_none _ rfl _) (rv_move e0) rfl hJ)) ?_
       refine all_cons (obs_v rfl (by
         intro k; intro _nm ρ σm hJ hoff hdep
         have e12 : look 90 ρ 12 = (I o61) := look_off (hoff 12 rfl) rfl
         exact dp_v (v := (I o61)) (wanted_none _ rfl _) (rv_move e12) rfl hJ)) ?_
       refine all_cons (obs_v rfl (by
         intro k; intro _nm ρ σm hJ hoff hdep
         have e0 : look 90 ρ 0 = (Sl adata_0 s28.1 cdata_0) := look_off (hoff 0 rfl) rfl
         exact dp_v (v := (Sl adata_0 s28.1 cdata_0)) (wanted_none _ rfl _) (rv_move e0) rfl hJ)) ?_
       refine all_cons (obs_v rfl (by
         intro k; intro _nm ρ σm hJ hoff hdep
         have e12 : look 90 ρ 12 = (I o61) := look_off (hoff 12 rfl) rfl
         exact dp_v (v := (I o61)) (wanted_none _ rfl _) (rv_move e12) rfl hJ)) ?_
       refine all_cons (obs_v rfl (by
         intro k; intro _nm ρ σm hJ hoff hdep
         have e75 : look 90 ρ 75 = (Sl adata_0 s28.1 cdata_0) := hdep 4 rfl rfl 75 rfl
         have e76 : look 90 ρ 76 = (I o61) := hdep 5 rfl rfl 76 rfl
         exact dp_v (v := (pt b95 o96)) (wanted_none _ rfl _) (rv_ix Try.underlying27 ti64 e75 e76 hi94) rfl hJ)) ?_
       refine all_cons (by
         refine ⟨?_, ?_⟩
         ·intro _nm ρ σm hJ hoff hdep
          have e77 : look 90 ρ 77 = (pt b95 o96) := hdep 6 rfl rfl 77 rfl
          obtain ⟨H, m⟩ := id hJ
          obtain ⟨_, ⟨_, _, rfl, rfl, rfl⟩, hl97, hc98⟩ := ((H.own 0 rfl).at hx93 hi94).cells
          exact dp_v (v := (.agg #[(I x92.1), (I x92.2)])) (wanted_none _ rfl _) (rv_load Try.underlying64 rfl ti64 e77 hl97 hc98) rfl hJ
         trivial) ?_
       refine all_cons (obs_v rfl (by
         intro k; intro _nm ρ σm hJ hoff hdep
         have e0 : look 90 ρ 0 = (Sl adata_0 s28.1 cdata_0) := look_off (hoff 0 rfl) rfl
         exact dp_v (v := (Sl adata_0 s28.1 cdata_0)) (wanted_none _ rfl _) (rv_move e0) rfl hJ)) ?_
       refine all_cons (obs_v rfl (by
         intro k; intro _nm ρ σm hJ hoff hdep
         have e11 : look 90 ρ 11 = (I o31) := look_off (hoff 11 rfl) rfl
         exact dp_v (v := (I o31)) (wanted_none _ rfl _) (rv_move e11) rfl hJ)) ?_
       refine all_cons (obs_v rfl (by
         intro k; intro _nm ρ σm hJ hoff hdep
         have e79 : look 90 ρ 79 = (Sl adata_0 s28.1 cdata_0) := hdep 8 rfl rfl 79 rfl
         have e80 : look 90 ρ 80 = (I o31) := hdep 9 rfl rfl 80 rfl
         exact dp_v (v := (pt b102 o103)) (wanted_none _ rfl _) (rv_ix Try.underlying27 ti64 e79 e80 hi101) rfl hJ)) ?_
       refine all_cons (by
         refine ⟨?_, ?_⟩
         ·intro _nm ρ σm hJ hoff hdep
          have e81 : look 90 ρ 81 = (pt b102 o103) := hdep 10 rfl rfl 81 rfl
          obtain ⟨H, m⟩ := id hJ
          obtain ⟨_, ⟨_, _, rfl, rfl, rfl⟩, hl104, hc105⟩ := ((H.own 0 rfl).at hx100 hi101).cells
          exact dp_v (v := (.agg #[(I x99.1), (I x99.2)])) (wanted_none _ rfl _) (rv_load Try.underlying64 rfl ti64 e81 hl104 hc105) rfl hJ
         trivial) ?_
       refine all_cons (obs_v rfl (by
         intro k; intro _nm ρ σm hJ hoff hdep
         have e71 : look 90 ρ 71 = (Sl adata_0 s28.1 cdata_0) := hdep 0 rfl rfl 71 rfl
         have e72 : look 90 ρ 72 = (I o31) := hdep 1 rfl rfl 72 rfl
         exact dp_v (v := (pt b109 o110)) (wanted_none _ rfl _) (rv_ix Try.underlying27 ti64 e71 e72 hi108) rfl hJ)) ?_
       refine all_cons (by
         refine ⟨?_, ?_⟩
         ·intro _nm ρ σm hJ hoff hdep
          have e83 : look 90 ρ 83 = (pt b109 o110) := hdep 12 rfl rfl 83 rfl
          have e78 : look 90 ρ 78 = (.agg #[(I x92.1), (I x92.2)]) := hdep 7 rfl rfl 78 rfl
          obtain ⟨H, m⟩ := id hJ
          refine dp_exS (wanted_none _ rfl _) rfl (ex_store_own (e' := (x92.1, x92.2)) (vs := [(I x92.1), (I x92.2)]) (k := 0) H (i := 0) rfl ti64 hx107 hi108 e83 rfl e78 rfl rfl (Nat.le_of_ble_eq_true rfl) (by simp [plain]) (by rintro _ ⟨_, _, rfl, rfl, rfl⟩; exact ⟨[(I x92.1)], [(I x92.2)], rfl, rfl, rfl⟩)) ?_
          rintro σq ⟨H2, m2⟩
          exact ⟨_, (), rfl, ⟨H2.sel' [0] rfl rfl, m.comp m2⟩, stab [0, 1, 2, 3, 4, 5, 6, 7, 8, 9, 10, 11, 12] (by kernel_rfl) ⟨rfl, rfl, rfl, rfl, rfl, rfl, rfl, rfl, rfl, rfl, rfl, rfl, rfl, trivial⟩⟩
         trivial) ?_
       exact all_nil
      ·intro _nm ρ σ111 hJ hoff hrel
       have e0 : look 90 ρ 0 = (Sl adata_0 s28.1 cdata_0) := look_off (hoff 0 rfl) rfl
       have e1 : look 90 ρ 1 = (I a_1) := look_off (hoff 1 rfl) rfl
       have e4 : look 90 ρ 4 = (.func (.func 101) #[] #[]) := look_off (hoff 4 rfl) rfl
       have e11 : look 90 ρ 11 = (I o31) := look_off (hoff 11 rfl) rfl
       have e12 : look 90 ρ 12 = (I o61) := look_off (hoff 12 rfl) rfl
       have e73 : look 90 ρ 73 = (Sl adata_0 s28.1 cdata_0) := hrel 2 rfl 73 rfl
       have e74 : look 90 ρ 74 = (I o61) := hrel 3 rfl 74 rfl
       have e82 : look 90 ρ 82 = (.agg #[(I x99.1), (I x99.2)]) := hrel 11 rfl 82 rfl
       obtain ⟨H, -⟩ := (show Hp S0 σ0 σ111 [Ch.own 0 0 (Sl adata_0 s28.1 cdata_0) (s28.1.set o31.toNat (x92.1, x92.2))] ∧ Md (fun i => (cov []) i ∨ (fun b => blk (Sl adata_0 s28.1 cdata_0) = some b) i) σ90 σ111 from hJ)
       clear hJ Hs
       rw [fr_lookL (L := [(0, (Sl adata_0 s28.1 cdata_0)), (1, (I a_1)), (4, (.func (.func 101) #[] #[])), (11, (I o31)), (12, (I o61)), (73, (Sl adata_0 s28.1 cdata_0)), (74, (I o61)), (82, (.agg #[(I x99.1), (I x99.2)]))]) ⟨e0, e1, e4, e11, e12, e73, e74, e82, trivial⟩]
       clear hoff hrel e0 e1 e4 e11 e12 e73 e74 e82
       have hsl : (Sl adata_0 s28.1 cdata_0) = (Sl adata_0 (s28.1.set o31.toNat (x92.1, x92.2)) cdata_0) := sl_len (by simp)
       rw [hsl]; rw [hsl] at H; clear hsl
       obtain ⟨x112, hx113, h'⟩ := bind_some h
       clear h
       have h := h'; clear h'
       obtain ⟨b115, o116, hi114, -⟩ := (H.own 0 rfl).ix hx113
       refine st (v := (pt b115 o116)) (rv_ix Try.underlying27 ti64 rfl rfl hi114) ?_
       refine st_exS (ex_store_own (e' := (x99.1, x99.2)) (vs := [(I x99.1), (I x99.2)]) (k := 0) H (i := 0) rfl ti64 hx113 hi114 rfl rfl rfl rfl rfl (Nat.le_of_ble_eq_true rfl) (by simp [plain]) (by rintro _ ⟨_, _, rfl, rfl, rfl⟩; exact ⟨[(I x99.1)], [(I x99.2)], rfl, rfl, rfl⟩)) (wanted_none _ rfl _) ?_
       rintro σ117 ⟨H, -⟩
       have hsl : (Sl adata_0 (s28.1.set o31.toNat (x92.1, x92.2)) cdata_0) = (Sl adata_0 ((s28.1.set o31.toNat (x92.1, x92.2)).set o61.toNat (x99.1, x99.2)) cdata_0) := sl_len List.length_set.symm
       rw [hsl]; rw [hsl] at H; clear hsl
       refine w_end ?_
       refine q_then ?_
       refine c_seq ?_
       refine rg ?_
       refine st (v := (I o31)) (rv_move rfl) ?_
       refine st (v := (I (w64 (o31 + 1)))) (rv_add (a := o31) (b := 1) rfl rfl) ?_
       refine st (v := (I (w64 (o31 + 1)))) (rv_assign rfl) ?_
       refine w_end ?_
       refine q_then ?_
       refine rg ?_
       refine st (v := (I o61)) (rv_move rfl) ?_
       refine st (v := (I (w64 (o61 - 1)))) (rv_sub (a := o61) (b := 1) rfl rfl) ?_
       refine st (v := (I (w64 (o61 - 1)))) (rv_assign rfl) ?_
       refine w_end ?_
       refine q_blk ?_
       refine q_then ?_
       obtain rfl := Option.some.inj h
       exact ⟨_, rfl, _, σ117, fr_join ⟨rfl, rfl, rfl, rfl, rfl, trivial⟩, rfl, H.sel' [0] rfl rfl, ((List.length_set.trans (List.length_set.trans (hn30.trans (List.length_set.trans List.length_set)))).trans (List.length_set.trans List.length_set).symm)⟩
  ·clear hj
   have h := h'
   clear h' H
   rintro e a w ⟨rfl, ρ, σ118, rfl, rfl, H, hn119⟩
   refine q_then ?_
   refine c_seq ?_
   refine rg ?_
   refine st (v := (I o27.2)) (rv_move rfl) ?_
   refine st (v := (I o27.2)) (rv_assign rfl) ?_
   refine w_end ?_
   refine q_then ?_
   refine c_ret ?_
   obtain rfl := Option.some.inj h
   exact fin_ret (v := (I o27.2)) (results_ok Try.results149 (res_tmp (v := (I o27.2)) rfl res_nil) rfl) ⟨rfl, rfl, (hn119.trans (List.length_set.trans List.length_set))⟩ (H.sel' [0] rfl rfl)

end Go.Vs
