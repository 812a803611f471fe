/- The functions compute what their models say. -/
import Derived.Test.YtcgkbgidfilodaaKNearestMoreC3
set_option linter.unusedVariables false
set_option linter.unusedSimpArgs false
set_option maxRecDepth 20000
namespace Go.Vs
open Go Go.Proofs
attribute [local irreducible] Code.wp Code.wpIn wpList wpListIn wpQuiet Calls CallsIn

theorem c_slices_heapSortCmpFunc_impl_Hit__impl_compareHits {data_0 : List (Int × Int)} {a_1 : Int} {b_2 : Int} {adata_0 : Option Addr} {cdata_0 : Nat} {r : (List (Int × Int))} (h : M.slices_heapSortCmpFunc_impl_Hit__impl_compareHits data_0 a_1 b_2 = some r) :
    Cal2 Try.prog 137 [(Sl adata_0 data_0 cdata_0), (I a_1), (I b_2), (.func (.func 108) #[] #[])] [Ch.own 0 0 (Sl adata_0 data_0 cdata_0) data_0] (fun n0 v L => v = (.tuple #[]) ∧ L = [Ch.own 0 0 (Sl adata_0 r cdata_0) r] ∧ r.length = data_0.length) := by
 refine cal2 (n := 60) Try.func137 rfl rfl rfl rfl ?_
 intro S0 σ0 n0 hn0 H
 unfold M.slices_heapSortCmpFunc_impl_Hit__impl_compareHits at h
 refine c_seq ?_
 refine rg ?_
 refine st (v := (I a_1)) (rv_move rfl) ?_
 refine st (v := (I a_1)) (rv_assign rfl) ?_
 refine w_end ?_
 refine q_then ?_
 refine c_seq ?_
 refine rg ?_
 refine st (v := (I 0)) (rv_assign rfl) ?_
 refine w_end ?_
 refine q_then ?_
 refine c_seq ?_
 refine rg ?_
 refine st (v := (I b_2)) (rv_move rfl) ?_
 refine st (v := (I a_1)) (rv_move rfl) ?_
 refine st (v := (I (w64 (b_2 - a_1)))) (rv_sub (a := b_2) (b := a_1) rfl rfl) ?_
 refine st (v := (I (w64 (b_2 - a_1)))) (rv_assign rfl) ?_
 refine w_end ?_
 refine q_then ?_
 refine c_seq ?_
 refine c_seq ?_
 refine rg ?_
 refine st (v := (I (w64 (b_2 - a_1)))) (rv_move rfl) ?_
 refine st (v := (I (w64 ((w64 (b_2 - a_1)) - 1)))) (rv_sub (a := (w64 (b_2 - a_1))) (b := 1) rfl rfl) ?_
 refine st (v := (I (w64 ((w64 ((w64 (b_2 - a_1)) - 1)).tdiv 2)))) (rv_quo (a := (w64 ((w64 (b_2 - a_1)) - 1))) (b := 2) rfl rfl (by decide)) ?_
 refine st (v := (I (w64 ((w64 ((w64 (b_2 - a_1)) - 1)).tdiv 2)))) (rv_assign rfl) ?_
 refine w_end ?_
 refine q_then ?_
 obtain ⟨o1, hj, h'⟩ := bind_some h
 clear h
 refine c_cut (fun e a w => e = .normal ∧ ∃ (ρ : Nat → Value) (σ : St), a = fr 60 (updL ρ [(0, (Sl adata_0 o1 cdata_0)), (3, (.func (.func 108) #[] #[])), (8, (I a_1)), (9, (I 0)), (10, (I (w64 (b_2 - a_1))))]) ∧ w = σ.w ∧ Hp S0 σ0 σ [Ch.own 0 0 (Sl adata_0 o1 cdata_0) o1] ∧ o1.length = data_0.length) ?_ ?_
 ·clear h'
  rename _ = some o1 => h
  refine c_blk ?_
  refine wp_loopM _ h (fun s2 a w => ∃ (ρ : Nat → Value) (σ : St), a = fr 60 (updL ρ [(0, (Sl adata_0 s2.1 cdata_0)), (3, (.func (.func 108) #[] #[])), (8, (I a_1)), (9, (I 0)), (10, (I (w64 (b_2 - a_1)))), (11, (I s2.2))]) ∧ w = σ.w ∧ Hp S0 σ0 σ [Ch.own 0 0 (Sl adata_0 s2.1 cdata_0) s2.1] ∧ s2.1.length = data_0.length) ⟨_, σ0, fr_join ⟨rfl, rfl, rfl, rfl, rfl, rfl, trivial⟩, rfl, H.sel' [0] rfl rfl, rfl⟩ ?_
  clear h H
  rintro s2 a w o ⟨ρ, σ3, rfl, rfl, H, hn4⟩ h hres
  refine c_seq ?_
  refine c_seq ?_
  refine rg ?_
  refine st (v := (I s2.2)) (rv_move rfl) ?_
  refine st (v := (B (decide (0 ≤ s2.2)))) (rv_geq (a := s2.2) (b := 0) rfl rfl) ?_
  refine w_end ?_
  refine q_then ?_
  refine cd_cond (decide (0 ≤ s2.2)) rfl (fun hb5 => ?_) (fun hb5 => ?_)
  ·replace h := bif_t hb5 h
   refine c_skip ?_
   refine q_then ?_
   refine c_seq ?_
   refine c_blk ?_
   refine rg ?_
   refine st (v := (Sl adata_0 s2.1 cdata_0)) (rv_move rfl) ?_
   refine st (v := (I s2.2)) (rv_move rfl) ?_
   refine st (v := (I (w64 (b_2 - a_1)))) (rv_move rfl) ?_
   refine st (v := (I a_1)) (rv_move rfl) ?_
   refine st (v := (.func (.func 108) #[] #[])) (rv_move rfl) ?_
   obtain ⟨r6, hx7, h'⟩ := bind_some h
   clear h
   have h := h'; clear h'
   have hc8 := c_slices_siftDownCmpFunc_impl_Hit__impl_compareHits (adata_0 := adata_0) (cdata_0 := cdata_0) hx7
   refine st_call (cx_call hc8 (ent_f hc8.fn rfl) hn0 (show Hp S0 σ0 _ ([Ch.own 0 0 (Sl adata_0 s2.1 cdata_0) s2.1] ++ []) from (H.sel' [0] rfl rfl))) (wanted_none _ rfl _) ?_
   rintro _ σ10 ⟨_, ⟨rfl, rfl, hn9⟩, H, -⟩
   replace H : Hp S0 σ0 σ10 [Ch.own 0 0 (Sl adata_0 r6 cdata_0) r6] := H
   have hsl : (Sl adata_0 s2.1 cdata_0) = (Sl adata_0 r6 cdata_0) := sl_len hn9.symm
   try rw [hsl]
   try rw [hsl] at H
   clear hsl
   refine w_end ?_
   refine q_blk ?_
   refine q_then ?_
   refine rg ?_
   refine st (v := (I s2.2)) (rv_move rfl) ?_
   refine st (v := (I (w64 (s2.2 - 1)))) (rv_sub (a := s2.2) (b := 1) rfl rfl) ?_
   refine st (v := (I (w64 (s2.2 - 1)))) (rv_assign rfl) ?_
   refine w_end ?_
   refine q_then ?_
   obtain rfl := Option.some.inj h
   exact ⟨_, rfl, _, σ10, fr_join ⟨rfl, rfl, rfl, rfl, rfl, rfl, trivial⟩, rfl, H.sel' [0] rfl rfl, (hn9.trans hn4)⟩
  ·replace h := bif_f hb5 h
   refine c_exit ?_
   refine q_then_x ?_
   refine q_then_x ?_
   refine q_blk_hit ?_
   obtain rfl := Option.some.inj h
   obtain rfl := hres _ rfl
   exact ⟨rfl, _, σ3, fr_join ⟨rfl, rfl, rfl, rfl, rfl, trivial⟩, rfl, H.sel' [0] rfl rfl, hn4⟩
 ·clear hj
  have h := h'
  clear h' H
  rintro e a w ⟨rfl, ρ, σ11, rfl, rfl, H, hn12⟩
  refine q_then ?_
  refine c_seq ?_
  refine rg ?_
  refine st (v := (I (w64 (b_2 - a_1)))) (rv_move rfl) ?_
  refine st (v := (I (w64 ((w64 (b_2 - a_1)) - 1)))) (rv_sub (a := (w64 (b_2 - a_1))) (b := 1) rfl rfl) ?_
  refine st (v := (I (w64 ((w64 (b_2 - a_1)) - 1)))) (rv_assign rfl) ?_
  refine w_end ?_
  refine q_then ?_
  obtain ⟨o13, hj, h'⟩ := bind_some h
  clear h
  refine c_cut (fun e a w => e = .normal ∧ ∃ (ρ : Nat → Value) (σ : St), a = fr 60 (updL ρ [(0, (Sl adata_0 o13 cdata_0))]) ∧ w = σ.w ∧ Hp S0 σ0 σ [Ch.own 0 0 (Sl adata_0 o13 cdata_0) o13] ∧ o13.length = o1.length) ?_ ?_
  ·clear h'
   rename _ = some o13 => h
   refine c_blk ?_
   refine wp_loopM _ h (fun s14 a w => ∃ (ρ : Nat → Value) (σ : St), a = fr 60 (updL ρ [(0, (Sl adata_0 s14.1 cdata_0)), (3, (.func (.func 108) #[] #[])), (8, (I a_1)), (9, (I 0)), (12, (I s14.2))]) ∧ w = σ.w ∧ Hp S0 σ0 σ [Ch.own 0 0 (Sl adata_0 s14.1 cdata_0) s14.1] ∧ s14.1.length = o1.length) ⟨_, σ11, fr_join ⟨rfl, rfl, rfl, rfl, rfl, trivial⟩, rfl, H.sel' [0] rfl rfl, rfl⟩ ?_
   clear h H
   rintro s14 a w o ⟨ρ, σ15, rfl, rfl, H, hn16⟩ h hres
   refine c_seq ?_
   refine c_seq ?_
   refine rg ?_
   refine st (v := (I s14.2)) (rv_move rfl) ?_
   refine st (v := (B (decide (0 ≤ s14.2)))) (rv_geq (a := s14.2) (b := 0) rfl rfl) ?_
   refine w_end ?_
   refine q_then ?_
   refine cd_cond (decide (0 ≤ s14.2)) rfl (fun hb17 => ?_) (fun hb17 => ?_)
   ·replace h := bif_t hb17 h
    refine c_skip ?_
    refine q_then ?_
    refine c_seq ?_
    refine c_blk ?_
    refine c_seq ?_
    obtain ⟨x18, hx19, h'⟩ := bind_some h
    clear h
    have h := h'; clear h'
    obtain ⟨b21, o22, hi20, -⟩ := (H.own 0 rfl).ix hx19
    obtain ⟨_, ⟨_, _, rfl, rfl, rfl⟩, hl23, hc24⟩ := ((H.own 0 rfl).at hx19 hi20).cells
    obtain ⟨x25, hx26, h'⟩ := bind_some h
    clear h
    have h := h'; clear h'
    obtain ⟨b28, o29, hi27, -⟩ := (H.own 0 rfl).ix hx26
    obtain ⟨_, ⟨_, _, rfl, rfl, rfl⟩, hl30, hc31⟩ := ((H.own 0 rfl).at hx26 hi27).cells
    obtain ⟨x32, hx33, h'⟩ := bind_some h
    clear h
    have h := h'; clear h'
    obtain ⟨b35, o36, hi34, -⟩ := (H.own 0 rfl).ix hx33
    have Hs := H
    refine rg2 (σ := σ15) (Nm := Unit) 18 [17] [[false], [true]] [[(0, 0)], [(0, 0)], [(0, 0), (1, 1)], [(0, 0), (1, 1)], [(0, 0), (1, 1)], [(0, 0), (1, 1)], [(0, 0)], [(0, 0)], [(0, 0)], [(0, 0)], [(0, 0)], [(0, 0)], [(0, 0)], [(0, 0)], [(0, 0)], [(0, 0)], [(0, 0)], [(0, 1)]] 1 [fun (_nm : Unit) => fun σm => Hp S0 σ0 σm [Ch.own 0 0 (Sl adata_0 s14.1 cdata_0) s14.1] ∧ Md (cov []) σ15 σm, fun (_nm : Unit) => fun σm => Hp S0 σ0 σm [Ch.own 0 0 (Sl adata_0 s14.1 cdata_0) (s14.1.set a_1.toNat (x18.1, x18.2))] ∧ Md (fun i => (cov []) i ∨ (fun b => blk (Sl adata_0 s14.1 cdata_0) = some b) i) σ15 σm] [fun (_nm : Unit) => (Sl adata_0 s14.1 cdata_0), fun (_nm : Unit) => (I a_1), fun (_nm : Unit) => (Sl adata_0 s14.1 cdata_0), fun (_nm : Unit) => (I a_1), fun (_nm : Unit) => (I s14.2), fun (_nm : Unit) => (I (w64 (a_1 + s14.2))), fun (_nm : Unit) => (Sl adata_0 s14.1 cdata_0), fun (_nm : Unit) => (I a_1), fun (_nm : Unit) => (I s14.2), fun (_nm : Unit) => (I (w64 (a_1 + s14.2))), fun (_nm : Unit) => (pt b21 o22), fun (_nm : Unit) => (.agg #[(I x18.1), (I x18.2)]), fun (_nm : Unit) => (Sl adata_0 s14.1 cdata_0), fun (_nm : Unit) => (I a_1), fun (_nm : Unit) => (pt b28 o29), fun (_nm : Unit) => (.agg #[(I x25.1), (I x25.2)]), fun (_nm : Unit) => (pt b35 o36), fun (_nm : Unit) => undef] () (by kernel_rfl) (by kernel_rfl) ?_ ?_ ?_
    ·intro σm m0
     exact ⟨H.grow (m0.mono fun _ h => h.elim), m0⟩
    ·refine all_cons (obs_v rfl (by
       intro k; intro _nm ρ σm hJ hoff hdep
       have e0 : look 60 ρ 0 = (Sl adata_0 s14.1 cdata_0) := look_off (hoff 0 rfl) rfl
       exact dp_v (v := (Sl adata_0 s14.1 cdata_0)) (wanted_none _ rfl _) (rv_move e0) rfl hJ)) ?_
     refine all_cons (obs_v rfl (by
       intro k; intro _nm ρ σm hJ hoff hdep
       have e8 : look 60 ρ 8 = (I a_1) := look_off (hoff 8 rfl) rfl
       exact dp_v (v := (I a_1)) (wanted_none _ rfl _) (rv_move e8) rfl hJ)) ?_
     refine all_cons (obs_v rfl (by
       intro k; intro _nm ρ σm hJ hoff hdep
       have e0 : look 60 ρ 0 = (Sl adata_0 s14.1 cdata_0) := look_off (hoff 0 rfl) rfl
       exact dp_v (v := (Sl adata_0 s14.1 cdata_0)) (wanted_none _ rfl _) (rv_move e0) rfl hJ)) ?_
     refine all_cons (obs_v rfl (by
       intro k; intro _nm ρ σm hJ hoff hdep
       have e8 : look 60 ρ 8 = (I a_1) := look_off (hoff 8 rfl) rfl
       exact dp_v (v := (I a_1)) (wanted_none _ rfl _) (rv_move e8) rfl hJ)) ?_
     refine all_cons (obs_v rfl (by
       intro k; intro _nm ρ σm hJ hoff hdep
       have e12 : look 60 ρ 12 = (I s14.2) := look_off (hoff 12 rfl) rfl
       exact dp_v (v := (I s14.2)) (wanted_none _ rfl _) (rv_move e12) rfl hJ)) ?_
     refine all_cons (obs_v rfl (by
       intro k; intro _nm ρ σm hJ hoff hdep
       have e39 : look 60 ρ 39 = (I a_1) := hdep 3 rfl rfl 39 rfl
       have e40 : look 60 ρ 40 = (I s14.2) := hdep 4 rfl rfl 40 rfl
       exact dp_v (v := (I (w64 (a_1 + s14.2)))) (wanted_none _ rfl _) (rv_add (a := a_1) (b := s14.2) e39 e40) rfl hJ)) ?_
     refine all_cons (obs_v rfl (by
       intro k; intro _nm ρ σm hJ hoff hdep
       have e0 : look 60 ρ 0 = (Sl adata_0 s14.1 cdata_0) := look_off (hoff 0 rfl) rfl
       exact dp_v (v := (Sl adata_0 s14.1 cdata_0)) (wanted_none _ rfl _) (rv_move e0) rfl hJ)) ?_
     refine all_cons (obs_v rfl (by
       intro k; intro _nm ρ σm hJ hoff hdep
       have e8 : look 60 ρ 8 = (I a_1) := look_off (hoff 8 rfl) rfl
       exact dp_v (v := (I a_1)) (wanted_none _ rfl _) (rv_move e8) rfl hJ)) ?_
     refine all_cons (obs_v rfl (by
       intro k; intro _nm ρ σm hJ hoff hdep
       have e12 : look 60 ρ 12 = (I s14.2) := look_off (hoff 12 rfl) rfl
       exact dp_v (v := (I s14.2)) (wanted_none _ rfl _) (rv_move e12) rfl hJ)) ?_
     refine all_cons (obs_v rfl (by
       intro k; intro _nm ρ σm hJ hoff hdep
       have e43 : look 60 ρ 43 = (I a_1) := hdep 7 rfl rfl 43 rfl
       have e44 : look 60 ρ 44 = (I s14.2) := hdep 8 rfl rfl 44 rfl
       exact dp_v (v := (I (w64 (a_1 + s14.2)))) (wanted_none _ rfl _) (rv_add (a := a_1) (b := s14.2) e43 e44) rfl hJ)) ?_
     refine all_cons (obs_v rfl (by
       intro k; intro _nm ρ σm hJ hoff hdep
       have e42 : look 60 ρ 42 = (Sl adata_0 s14.1 cdata_0) := hdep 6 rfl rfl 42 rfl
       have e45 : look 60 ρ 45 = (I (w64 (a_1 + s14.2))) := hdep 9 rfl rfl 45 rfl
       exact dp_v (v := (pt b21 o22)) (wanted_none _ rfl _) (rv_ix Try.underlying27 ti35 e42 e45 hi20) rfl hJ)) ?_
     refine all_cons (by
       refine ⟨?_, ?_⟩
       ·intro _nm ρ σm hJ hoff hdep
        have e46 : look 60 ρ 46 = (pt b21 o22) := hdep 10 rfl rfl 46 rfl
        obtain ⟨H, m⟩ := id hJ
        obtain ⟨_, ⟨_, _, rfl, rfl, rfl⟩, hl23, hc24⟩ := ((H.own 0 rfl).at hx19 hi20).cells
        exact dp_v (v := (.agg #[(I x18.1), (I x18.2)])) (wanted_none _ rfl _) (rv_load Try.underlying35 rfl ti35 e46 hl23 hc24) rfl hJ
       trivial) ?_
     refine all_cons (obs_v rfl (by
       intro k; intro _nm ρ σm hJ hoff hdep
       have e0 : look 60 ρ 0 = (Sl adata_0 s14.1 cdata_0) := look_off (hoff 0 rfl) rfl
       exact dp_v (v := (Sl adata_0 s14.1 cdata_0)) (wanted_none _ rfl _) (rv_move e0) rfl hJ)) ?_
     refine all_cons (obs_v rfl (by
       intro k; intro _nm ρ σm hJ hoff hdep
       have e8 : look 60 ρ 8 = (I a_1) := look_off (hoff 8 rfl) rfl
       exact dp_v (v := (I a_1)) (wanted_none _ rfl _) (rv_move e8) rfl hJ)) ?_
     refine all_cons (obs_v rfl (by
       intro k; intro _nm ρ σm hJ hoff hdep
       have e48 : look 60 ρ 48 = (Sl adata_0 s14.1 cdata_0) := hdep 12 rfl rfl 48 rfl
       have e49 : look 60 ρ 49 = (I a_1) := hdep 13 rfl rfl 49 rfl
       exact dp_v (v := (pt b28 o29)) (wanted_none _ rfl _) (rv_ix Try.underlying27 ti35 e48 e49 hi27) rfl hJ)) ?_
     refine all_cons (by
       refine ⟨?_, ?_⟩
       ·intro _nm ρ σm hJ hoff hdep
        have e50 : look 60 ρ 50 = (pt b28 o29) := hdep 14 rfl rfl 50 rfl
        obtain ⟨H, m⟩ := id hJ
        obtain ⟨_, ⟨_, _, rfl, rfl, rfl⟩, hl30, hc31⟩ := ((H.own 0 rfl).at hx26 hi27).cells
        exact dp_v (v := (.agg #[(I x25.1), (I x25.2)])) (wanted_none _ rfl _) (rv_load Try.underlying35 rfl ti35 e50 hl30 hc31) rfl hJ
       trivial) ?_
     refine all_cons (obs_v rfl (by
       intro k; intro _nm ρ σm hJ hoff hdep
       have e36 : look 60 ρ 36 = (Sl adata_0 s14.1 cdata_0) := hdep 0 rfl rfl 36 rfl
       have e37 : look 60 ρ 37 = (I a_1) := hdep 1 rfl rfl 37 rfl
       exact dp_v (v := (pt b35 o36)) (wanted_none _ rfl _) (rv_ix Try.underlying27 ti35 e36 e37 hi34) rfl hJ)) ?_
     refine all_cons (by
       refine ⟨?_, ?_⟩
       ·intro _nm ρ σm hJ hoff hdep
        have e52 : look 60 ρ 52 = (pt b35 o36) := hdep 16 rfl rfl 52 rfl
        have e47 : look 60 ρ 47 = (.agg #[(I x18.1), (I x18.2)]) := hdep 11 rfl rfl 47 rfl
        obtain ⟨H, m⟩ := id hJ
        refine dp_exS (wanted_none _ rfl _) rfl (ex_store_own (e' := (x18.1, x18.2)) (vs := [(I x18.1), (I x18.2)]) (k := 0) H (i := 0) rfl ti35 hx33 hi34 e52 rfl e47 rfl rfl (Nat.le_of_ble_eq_true rfl) (by simp [plain]) (by rintro _ ⟨_, _, rfl, rfl, rfl⟩; exact ⟨[(I x18.1)], [(I x18.2)], rfl, rfl, rfl⟩)) ?_
        rintro σq ⟨H2, m2⟩
        exact ⟨_, (), rfl, ⟨H2.sel' [0] rfl rfl, m.comp m2⟩, stab [0, 1, 2, 3, 4, 5, 6, 7, 8, 9, 10, 11, 12, 13, 14, 15, 16] (by kernel_rfl) ⟨rfl, rfl, rfl, rfl, rfl, rfl, rfl, rfl, rfl, rfl, rfl, rfl, rfl, rfl, rfl, rfl, rfl, trivial⟩⟩
       trivial) ?_
     exact all_nil
    ·intro _nm ρ σ37 hJ hoff hrel
     have e0 : look 60 ρ 0 = (Sl adata_0 s14.1 cdata_0) := look_off (hoff 0 rfl) rfl
     have e3 : look 60 ρ 3 = (.func (.func 108) #[] #[]) := look_off (hoff 3 rfl) rfl
     have e8 : look 60 ρ 8 = (I a_1) := look_off (hoff 8 rfl) rfl
     have e9 : look 60 ρ 9 = (I 0) := look_off (hoff 9 rfl) rfl
     have e12 : look 60 ρ 12 = (I s14.2) := look_off (hoff 12 rfl) rfl
     have e38 : look 60 ρ 38 = (Sl adata_0 s14.1 cdata_0) := hrel 2 rfl 38 rfl
     have e41 : look 60 ρ 41 = (I (w64 (a_1 + s14.2))) := hrel 5 rfl 41 rfl
     have e51 : look 60 ρ 51 = (.agg #[(I x25.1), (I x25.2)]) := hrel 15 rfl 51 rfl
     obtain ⟨H, -⟩ := (show Hp S0 σ0 σ37 [Ch.own 0 0 (Sl adata_0 s14.1 cdata_0) (s14.1.set a_1.toNat (x18.1, x18.2))] ∧ Md (fun i => (cov []) i ∨ (fun b => blk (Sl adata_0 s14.1 cdata_0) = some b) i) σ15 σ37 from hJ)
     clear hJ Hs
     rw [fr_lookL (L := [(0, (Sl adata_0 s14.1 cdata_0)), (3, (.func (.func 108) #[] #[])), (8, (I a_1)), (9, (I 0)), (12, (I s14.2)), (38, (Sl adata_0 s14.1 cdata_0)), (41, (I (w64 (a_1 + s14.2)))), (51, (.agg #[(I x25.1), (I x25.2)]))]) ⟨e0, e3, e8, e9, e12, e38, e41, e51, trivial⟩]
     clear hoff hrel e0 e3 e8 e9 e12 e38 e41 e51
     have hsl : (Sl adata_0 s14.1 cdata_0) = (Sl adata_0 (s14.1.set a_1.toNat (x18.1, x18.2)) cdata_0) := sl_len (by simp)
     rw [hsl]; rw [hsl] at H; clear hsl
     obtain ⟨x38, hx39, h'⟩ := bind_some h
     clear h
     have h := h'; clear h'
     obtain ⟨b41, o42, hi40, -⟩ := (H.own 0 rfl).ix hx39
     refine st (v := (pt b41 o42)) (rv_ix Try.underlying27 ti35 rfl rfl hi40) ?_
     refine st_exS (ex_store_own (e' := (x25.1, x25.2)) (vs := [(I x25.1), (I x25.2)]) (k := 0) H (i := 0) rfl ti35 hx39 hi40 rfl rfl rfl rfl rfl (Nat.le_of_ble_eq_true rfl) (by simp [plain]) (by rintro _ ⟨_, _, rfl, rfl, rfl⟩; exact ⟨[(I x25.1)], [(I x25.2)], rfl, rfl, rfl⟩)) (wanted_none _ rfl _) ?_
     rintro σ43 ⟨H, -⟩
     have hsl : (Sl adata_0 (s14.1.set a_1.toNat (x18.1, x18.2)) cdata_0) = (Sl adata_0 ((s14.1.set a_1.toNat (x18.1, x18.2)).set (w64 (a_1 + s14.2)).toNat (x25.1, x25.2)) cdata_0) := sl_len List.length_set.symm
     rw [hsl]; rw [hsl] at H; clear hsl
     refine w_end ?_
     refine q_then ?_
     refine rg ?_
     refine st (v := (Sl adata_0 ((s14.1.set a_1.toNat (x18.1, x18.2)).set (w64 (a_1 + s14.2)).toNat (x25.1, x25.2)) cdata_0)) (rv_move rfl) ?_
     refine st (v := (I 0)) (rv_move rfl) ?_
     refine st (v := (I s14.2)) (rv_move rfl) ?_
     refine st (v := (I a_1)) (rv_move rfl) ?_
     refine st (v := (.func (.func 108) #[] #[])) (rv_move rfl) ?_
     obtain ⟨r44, hx45, h'⟩ := bind_some h
     clear h
     have h := h'; clear h'
     have hc46 := c_slices_siftDownCmpFunc_impl_Hit__impl_compareHits (adata_0 := adata_0) (cdata_0 := cdata_0) hx45
     refine st_call (cx_call hc46 (ent_f hc46.fn rfl) hn0 (show Hp S0 σ0 _ ([Ch.own 0 0 (Sl adata_0 ((s14.1.set a_1.toNat (x18.1, x18.2)).set (w64 (a_1 + s14.2)).toNat (x25.1, x25.2)) cdata_0) ((s14.1.set a_1.toNat (x18.1, x18.2)).set (w64 (a_1 + s14.2)).toNat (x25.1, x25.2))] ++ []) from (H.sel' [0] rfl rfl))) (wanted_none _ rfl _) ?_
     rintro _ σ48 ⟨_, ⟨rfl, rfl, hn47⟩, H, -⟩
     replace H : Hp S0 σ0 σ48 [Ch.own 0 0 (Sl adata_0 r44 cdata_0) r44] := H
     have hsl : (Sl adata_0 ((s14.1.set a_1.toNat (x18.1, x18.2)).set (w64 (a_1 + s14.2)).toNat (x25.1, x25.2)) cdata_0) = (Sl adata_0 r44 cdata_0) := sl_len hn47.symm
     try rw [hsl]
     try rw [hsl] at H
     clear hsl
     refine w_end ?_
     refine q_blk ?_
     refine q_then ?_
     refine rg ?_
     refine st (v := (I s14.2)) (rv_move rfl) ?_
     refine st (v := (I (w64 (s14.2 - 1)))) (rv_sub (a := s14.2) (b := 1) rfl rfl) ?_
     refine st (v := (I (w64 (s14.2 - 1)))) (rv_assign rfl) ?_
     refine w_end ?_
     refine q_then ?_
     obtain rfl := Option.some.inj h
     exact ⟨_, rfl, _, σ48, fr_join ⟨rfl, rfl, rfl, rfl, rfl, trivial⟩, rfl, H.sel' [0] rfl rfl, ((hn47.trans (List.length_set.trans (List.length_set.trans (hn16.trans hn12)))).trans hn12.symm)⟩
   ·replace h := bif_f hb17 h
    refine c_exit ?_
    refine q_then_x ?_
    refine q_then_x ?_
    refine q_blk_hit ?_
    obtain rfl := Option.some.inj h
    obtain rfl := hres _ rfl
    exact ⟨rfl, _, σ15, fr_join ⟨rfl, trivial⟩, rfl, H.sel' [0] rfl rfl, ((hn16.trans hn12).trans hn12.symm)⟩
  ·clear hj
   have h := h'
   clear h' H
   rintro e a w ⟨rfl, ρ, σ49, rfl, rfl, H, hn50⟩
   obtain rfl := Option.some.inj h
   exact fin_end (v := (.tuple #[])) (results_ok Try.results137 res_nil rfl) ⟨rfl, rfl, (hn50.trans hn12)⟩ (H.sel' [0] rfl rfl)

theorem c_slices_breakPatternsCmpFunc_impl_Hit__impl_compareHits {data_0 : List (Int × Int)} {a_1 : Int} {b_2 : Int} {adata_0 : Option Addr} {cdata_0 : Nat} {r : (List (Int × Int))} (h : M.slices_breakPatternsCmpFunc_impl_Hit__impl_compareHits data_0 a_1 b_2 = some r) :
    Cal2 Try.prog 138 [(Sl adata_0 data_0 cdata_0), (I a_1), (I b_2), (.func (.func 108) #[] #[])] [Ch.own 0 0 (Sl adata_0 data_0 cdata_0) data_0] (fun n0 v L => v = (.tuple #[]) ∧ L = [Ch.own 0 0 (Sl adata_0 r cdata_0) r] ∧ r.length = data_0.length) := by
 refine cal2 (n := 67) Try.func138 rfl rfl rfl rfl ?_
 intro S0 σ0 n0 hn0 H
 unfold M.slices_breakPatternsCmpFunc_impl_Hit__impl_compareHits at h
 refine c_seq ?_
 refine rg ?_
 refine st (v := (I b_2)) (rv_move rfl) ?_
 refine st (v := (I a_1)) (rv_move rfl) ?_
 refine st (v := (I (w64 (b_2 - a_1)))) (rv_sub (a := b_2) (b := a_1) rfl rfl) ?_
 refine st (v := (I (w64 (b_2 - a_1)))) (rv_assign rfl) ?_
 refine w_end ?_
 refine q_then ?_
 refine c_seq ?_
 refine rg ?_
 refine st (v := (I (w64 (b_2 - a_1)))) (rv_move rfl) ?_
 refine st (v := (B (decide (8 ≤ (w64 (b_2 - a_1)))))) (rv_geq (a := (w64 (b_2 - a_1))) (b := 8) rfl rfl) ?_
 refine w_end ?_
 refine q_then ?_
 refine cd_cond (decide (8 ≤ (w64 (b_2 - a_1)))) rfl (fun hb1 => ?_) (fun hb1 => ?_)
 ·replace h := bif_t hb1 h
  refine c_seq ?_
  refine rg ?_
  refine st (v := (I (w64 (b_2 - a_1)))) (rv_move rfl) ?_
  refine st (v := (.int .u64 (wk .u64 (w64 (b_2 - a_1))))) (rvk_conv (k := .i64) (k' := .u64) (a := (w64 (b_2 - a_1))) Try.underlying3 Try.underlying159 rfl) ?_
  refine st_ex (ex_alloc (cs := [(.int .u64 0)]) H hn0 ti159 rfl) (wanted_none _ rfl _) ?_
  rintro _ σ3 ⟨b2, rfl, H, -⟩
  refine st_exS (ex_store_box (k := 0) (cs := [(.int .u64 0)]) (vs := [(.int .u64 (wk .u64 (w64 (b_2 - a_1))))]) (cs' := [(.int .u64 (wk .u64 (w64 (b_2 - a_1))))]) H (i := 0) rfl ti159 rfl rfl rfl rfl rfl (Nat.le_of_ble_eq_true rfl) (by simp [plain]) rfl) (wanted_none _ rfl _) ?_
  rintro σ4 ⟨H, -⟩
  refine w_end ?_
  refine q_then ?_
  refine c_seq ?_
  refine rg ?_
  refine st (v := (I (w64 (b_2 - a_1)))) (rv_move rfl) ?_
  obtain ⟨r5, hx6, h'⟩ := bind_some h
  clear h
  have h := h'; clear h'
  have hc7 := c_slices_nextPowerOfTwo hx6
  refine st_call (cx_call hc7 (ent_f hc7.fn rfl) hn0 (show Hp S0 σ0 _ ([] ++ [Ch.bx n0 b2 0 [(.int .u64 (wk .u64 (w64 (b_2 - a_1))))] [] [], Ch.own 0 0 (Sl adata_0 data_0 cdata_0) data_0]) from (H.sel' [0, 1] rfl rfl))) (wanted_none _ rfl _) ?_
  rintro _ σ8 ⟨_, ⟨rfl, rfl⟩, H, -⟩
  replace H : Hp S0 σ0 σ8 [Ch.bx n0 b2 0 [(.int .u64 (wk .u64 (w64 (b_2 - a_1))))] [] [], Ch.own 0 0 (Sl adata_0 data_0 cdata_0) data_0] := H
  refine st (v := (.int .u64 r5)) (rv_assign rfl) ?_
  refine w_end ?_
  refine q_then ?_
  refine c_seq ?_
  refine rg ?_
  refine st (v := (I a_1)) (rv_move rfl) ?_
  refine st (v := (I (w64 (b_2 - a_1)))) (rv_move rfl) ?_
  refine st (v := (I (w64 ((w64 (b_2 - a_1)).tdiv 4)))) (rv_quo (a := (w64 (b_2 - a_1))) (b := 4) rfl rfl (by decide)) ?_
  refine st (v := (I (w64 ((w64 ((w64 (b_2 - a_1)).tdiv 4)) * 2)))) (rv_mul (a := (w64 ((w64 (b_2 - a_1)).tdiv 4))) (b := 2) rfl rfl) ?_
  refine st (v := (I (w64 (a_1 + (w64 ((w64 ((w64 (b_2 - a_1)).tdiv 4)) * 2)))))) (rv_add (a := a_1) (b := (w64 ((w64 ((w64 (b_2 - a_1)).tdiv 4)) * 2))) rfl rfl) ?_
  refine st (v := (I (w64 ((w64 (a_1 + (w64 ((w64 ((w64 (b_2 - a_1)).tdiv 4)) * 2)))) - 1)))) (rv_sub (a := (w64 (a_1 + (w64 ((w64 ((w64 (b_2 - a_1)).tdiv 4)) * 2))))) (b := 1) rfl rfl) ?_
  refine st (v := (I (w64 ((w64 (a_1 + (w64 ((w64 ((w64 (b_2 - a_1)).tdiv 4)) * 2)))) - 1)))) (rv_assign rfl) ?_
  refine w_end ?_
  refine q_then ?_
  obtain ⟨o9, hj, h'⟩ := bind_some h
  clear h
  refine c_cut (fun e a w => e = .normal ∧ ∃ (ρ : Nat → Value) (σ : St), a = fr 67 (updL ρ [(0, (Sl adata_0 o9 cdata_0))]) ∧ w = σ.w ∧ Hp S0 σ0 σ [Ch.own 0 0 (Sl adata_0 o9 cdata_0) o9] ∧ o9.length = data_0.length) ?_ ?_
  ·clear h'
   rename _ = some o9 => h
   refine c_blk ?_
   refine wp_loopM _ h (fun s10 a w => ∃ (ρ : Nat → Value) (σ : St), a = fr 67 (updL ρ [(0, (Sl adata_0 s10.1 cdata_0)), (1, (I a_1)), (8, (I (w64 (b_2 - a_1)))), (9, (pt b2 0)), (10, (.int .u64 r5)), (11, (I s10.2.2))]) ∧ w = σ.w ∧ Hp S0 σ0 σ [Ch.bx n0 b2 0 [(.int .u64 s10.2.1)] [] [], Ch.own 0 0 (Sl adata_0 s10.1 cdata_0) s10.1] ∧ s10.1.length = data_0.length) ⟨_, σ8, fr_join ⟨rfl, rfl, rfl, rfl, rfl, rfl, trivial⟩, rfl, H.sel' [0, 1] rfl rfl, rfl⟩ ?_
   clear h H
   rintro s10 a w o ⟨ρ, σ11, rfl, rfl, H, hn12⟩ h hres
   refine c_seq ?_
   refine c_seq ?_
   refine rg ?_
   refine st (v := (I s10.2.2)) (rv_move rfl) ?_
   refine st (v := (I a_1)) (rv_move rfl) ?_
   refine st (v := (I (w64 (b_2 - a_1)))) (rv_move rfl) ?_
   refine st (v := (I (w64 ((w64 (b_2 - a_1)).tdiv 4)))) (rv_quo (a := (w64 (b_2 - a_1))) (b := 4) rfl rfl (by decide)) ?_
   refine st (v := (I (w64 ((w64 ((w64 (b_2 - a_1)).tdiv 4)) * 2)))) (rv_mul (a := (w64 ((w64 (b_2 - a_1)).tdiv 4))) (b := 2) rfl rfl) ?_
   refine st (v := (I (w64 (a_1 + (w64 ((w64 ((w64 (b_2 - a_1)).tdiv 4)) * 2)))))) (rv_add (a := a_1) (b := (w64 ((w64 ((w64 (b_2 - a_1)).tdiv 4)) * 2))) rfl rfl) ?_
   refine st (v := (I (w64 ((w64 (a_1 + (w64 ((w64 ((w64 (b_2 - a_1)).tdiv 4)) * 2)))) + 1)))) (rv_add (a := (w64 (a_1 + (w64 ((w64 ((w64 (b_2 - a_1)).tdiv 4)) * 2))))) (b := 1) rfl rfl) ?_
   refine st (v := (B (decide (s10.2.2 ≤ (w64 ((w64 (a_1 + (w64 ((w64 ((w64 (b_2 - a_1)).tdiv 4)) * 2)))) + 1)))))) (rv_leq (a := s10.2.2) (b := (w64 ((w64 (a_1 + (w64 ((w64 ((w64 (b_2 - a_1)).tdiv 4)) * 2)))) + 1))) rfl rfl) ?_
   refine w_end ?_
   refine q_then ?_
   refine cd_cond (decide (s10.2.2 ≤ (w64 ((w64 (a_1 + (w64 ((w64 ((w64 (b_2 - a_1)).tdiv 4)) * 2)))) + 1)))) rfl (fun hb13 => ?_) (fun hb13 => ?_)
   ·replace h := bif_t hb13 h
    refine c_skip ?_
    refine q_then ?_
    refine c_seq ?_
    refine c_blk ?_
    refine c_seq ?_
    refine rg ?_
    obtain ⟨r14, hx15, h'⟩ := bind_some h
    clear h
    have h := h'; clear h'
    have hc16 := c_slices_xorshift_Next (lor_0 := n0) (br_0 := b2) (or_0 := 0) (prer_0 := []) (sufr_0 := []) hx15
    refine st_call (cx_call hc16 (ent_f hc16.fn rfl) hn0 (show Hp S0 σ0 _ ([Ch.bx n0 b2 0 [(.int .u64 s10.2.1)] [] []] ++ [Ch.own 0 0 (Sl adata_0 s10.1 cdata_0) s10.1]) from (H.sel' [0, 1] rfl rfl))) (wanted_none _ rfl _) ?_
    rintro _ σ17 ⟨_, ⟨rfl, rfl⟩, H, -⟩
    replace H : Hp S0 σ0 σ17 [Ch.bx n0 b2 0 [(.int .u64 r14.2)] [] [], Ch.own 0 0 (Sl adata_0 s10.1 cdata_0) s10.1] := H
    refine st (v := (.int .u64 r5)) (rv_move rfl) ?_
    refine st (v := (.int .u64 (wk .u64 (r5 - 1)))) (rvk_sub (k := .u64) (a := r5) (b := 1) rfl rfl) ?_
    refine st (v := (.int .u64 (gandk .u64 r14.1 (wk .u64 (r5 - 1))))) (rvk_and (k := .u64) (a := r14.1) (b := (wk .u64 (r5 - 1))) rfl rfl) ?_
    refine st (v := (I (wk .i64 (gandk .u64 r14.1 (wk .u64 (r5 - 1)))))) (rvk_conv (k := .u64) (k' := .i64) (a := (gandk .u64 r14.1 (wk .u64 (r5 - 1)))) Try.underlying142 Try.underlying3 rfl) ?_
    refine st (v := (I (wk .i64 (gandk .u64 r14.1 (wk .u64 (r5 - 1)))))) (rv_assign rfl) ?_
    refine w_end ?_
    refine q_then ?_
    refine c_seq ?_
    refine c_seq ?_
    refine rg ?_
    refine st (v := (I (wk .i64 (gandk .u64 r14.1 (wk .u64 (r5 - 1)))))) (rv_move rfl) ?_
    refine st (v := (I (w64 (b_2 - a_1)))) (rv_move rfl) ?_
    refine st (v := (B (decide ((w64 (b_2 - a_1)) ≤ (wk .i64 (gandk .u64 r14.1 (wk .u64 (r5 - 1)))))))) (rv_geq (a := (wk .i64 (gandk .u64 r14.1 (wk .u64 (r5 - 1))))) (b := (w64 (b_2 - a_1))) rfl rfl) ?_
    refine w_end ?_
    refine q_then ?_
    obtain ⟨o18, hj, h'⟩ := bind_some h
    clear h
    refine c_cut (fun e a w => e = .normal ∧ ∃ (ρ : Nat → Value) (σ : St), a = fr 67 (updL ρ [(0, (Sl adata_0 s10.1 cdata_0)), (1, (I a_1)), (8, (I (w64 (b_2 - a_1)))), (9, (pt b2 0)), (10, (.int .u64 r5)), (11, (I s10.2.2)), (12, (I o18))]) ∧ w = σ.w ∧ Hp S0 σ0 σ [Ch.own 0 0 (Sl adata_0 s10.1 cdata_0) s10.1, Ch.bx n0 b2 0 [(.int .u64 r14.2)] [] []]) ?_ ?_
    ·clear h'
     rename _ = some o18 => h
     refine cd_cond (decide ((w64 (b_2 - a_1)) ≤ (wk .i64 (gandk .u64 r14.1 (wk .u64 (r5 - 1)))))) rfl (fun hb19 => ?_) (fun hb19 => ?_)
     ·replace h := bif_t hb19 h
      refine rg ?_
      refine st (v := (I (wk .i64 (gandk .u64 r14.1 (wk .u64 (r5 - 1)))))) (rv_move rfl) ?_
      refine st (v := (I (w64 (b_2 - a_1)))) (rv_move rfl) ?_
      refine st (v := (I (w64 ((wk .i64 (gandk .u64 r14.1 (wk .u64 (r5 - 1)))) - (w64 (b_2 - a_1)))))) (rv_sub (a := (wk .i64 (gandk .u64 r14.1 (wk .u64 (r5 - 1))))) (b := (w64 (b_2 - a_1))) rfl rfl) ?_
      refine st (v := (I (w64 ((wk .i64 (gandk .u64 r14.1 (wk .u64 (r5 - 1)))) - (w64 (b_2 - a_1)))))) (rv_assign rfl) ?_
      refine w_end ?_
      obtain rfl := Option.some.inj h
      exact ⟨rfl, _, σ17, fr_join ⟨rfl, rfl, rfl, rfl, rfl, rfl, rfl, trivial⟩, rfl, H.sel' [1, 0] rfl rfl⟩
     ·replace h := bif_f hb19 h
      refine c_skip ?_
      obtain rfl := Option.some.inj h
      exact ⟨rfl, _, σ17, fr_join ⟨rfl, rfl, rfl, rfl, rfl, rfl, rfl, trivial⟩, rfl, H.sel' [1, 0] rfl rfl⟩
    ·clear hj
     have h := h'
     clear h' H
     rintro e a w ⟨rfl, ρ, σ20, rfl, rfl, H⟩
     refine q_then ?_
     obtain ⟨x21, hx22, h'⟩ := bind_some h
     clear h
     have h := h'; clear h'
     obtain ⟨b24, o25, hi23, -⟩ := (H.own 0 rfl).ix hx22
     obtain ⟨_, ⟨_, _, rfl, rfl, rfl⟩, hl26, hc27⟩ := ((H.own 0 rfl).at hx22 hi23).cells
     obtain ⟨x28, hx29, h'⟩ := bind_some h
     clear h
     have h := h'; clear h'
     obtain ⟨b31, o32, hi30, -⟩ := (H.own 0 rfl).ix hx29
     obtain ⟨_, ⟨_, _, rfl, rfl, rfl⟩, hl33, hc34⟩ := ((H.own 0 rfl).at hx29 hi30).cells
     obtain ⟨x35, hx36, h'⟩ := bind_some h
     clear h
     have h := h'; clear h'
     obtain ⟨b38, o39, hi37, -⟩ := (H.own 0 rfl).ix hx36
     have Hs := H
     refine rg2 (σ := σ20) (Nm := Unit) 18 [17] [[false], [true]] [[(0, 0)], [(0, 0)], [(0, 0), (1, 1)], [(0, 0), (1, 1)], [(0, 0), (1, 1)], [(0, 0), (1, 1)], [(0, 0)], [(0, 0)], [(0, 0)], [(0, 0)], [(0, 0)], [(0, 0)], [(0, 0)], [(0, 0)], [(0, 0)], [(0, 0)], [(0, 0)], [(0, 1)]] 1 [fun (_nm : Unit) => fun σm => Hp S0 σ0 σm [Ch.own 0 0 (Sl adata_0 s10.1 cdata_0) s10.1, Ch.bx n0 b2 0 [(.int .u64 r14.2)] [] []] ∧ Md (cov []) σ20 σm, fun (_nm : Unit) => fun σm => Hp S0 σ0 σm [Ch.own 0 0 (Sl adata_0 s10.1 cdata_0) (s10.1.set s10.2.2.toNat (x21.1, x21.2)), Ch.bx n0 b2 0 [(.int .u64 r14.2)] [] []] ∧ Md (fun i => (cov []) i ∨ (fun b => blk (Sl adata_0 s10.1 cdata_0) = some b) i) σ20 σm] [fun (_nm : Unit) => (Sl adata_0 s10.1 cdata_0), fun (_nm : Unit) => (I s10.2.2), fun (_nm : Unit) => (Sl adata_0 s10.1 cdata_0), fun (_nm : Unit) => (I a_1), fun (_nm : Unit) => (I o18), fun (_nm : Unit) => (I (w64 (a_1 + o18))), fun (_nm : Unit) => (Sl adata_0 s10.1 cdata_0), fun (_nm : Unit) => (I a_1), fun (_nm : Unit) => (I o18), fun (_nm : Unit) => (I (w64 (a_1 + o18))), fun (_nm : Unit) => (pt b24 o25), fun (_nm : Unit) => (.agg #[(I x21.1), (I x21.2)]), fun (_nm : Unit) => (Sl adata_0 s10.1 cdata_0), fun (_nm : Unit) => (I s10.2.2), fun (_nm : Unit) => (pt b31 o32), fun (_nm : Unit) => (.agg #[(I x28.1), (I x28.2)]), fun (_nm : Unit) => (pt b38 o39), fun (_nm : Unit) => undef] () (by kernel_rfl) (by kernel_rfl) ?_ ?_ ?_
     ·intro σm m0
      exact ⟨H.grow (m0.mono fun _ h => h.elim), m0⟩
     ·refine all_cons (obs_v rfl (by
        intro k; intro _nm ρ σm hJ hoff hdep
        have e0 : look 67 ρ 0 = (Sl adata_0 s10.1 cdata_0) := look_off (hoff 0 rfl) rfl
        exact dp_v (v := (Sl adata_0 s10.1 cdata_0)) (wanted_none _ rfl _) (rv_move e0) rfl hJ)) ?_
      refine all_cons (obs_v rfl (by
        intro k; intro _nm ρ σm hJ hoff hdep
        have e11 : look 67 ρ 11 = (I s10.2.2) := look_off (hoff 11 rfl) rfl
        exact dp_v (v := (I s10.2.2)) (wanted_none _ rfl _) (rv_move e11) rfl hJ)) ?_
      refine all_cons (obs_v rfl (by
        intro k; intro _nm ρ σm hJ hoff hdep
        have e0 : look 67 ρ 0 = (Sl adata_0 s10.1 cdata_0) := look_off (hoff 0 rfl) rfl
        exact dp_v (v := (Sl adata_0 s10.1 cdata_0)) (wanted_none _ rfl _) (rv_move e0) rfl hJ)) ?_
      refine all_cons (obs_v rfl (by
        intro k; intro _nm ρ σm hJ hoff hdep
        have e1 : look 67 ρ 1 = (I a_1) := look_off (hoff 1 rfl) rfl
        exact dp_v (v := (I a_1)) (wanted_none _ rfl _) (rv_move e1) rfl hJ)) ?_
      refine all_cons (obs_v rfl (by
        intro k; intro _nm ρ σm hJ hoff hdep
        have e12 : look 67 ρ 12 = (I o18) := look_off (hoff 12 rfl) rfl
        exact dp_v (v := (I o18)) (wanted_none _ rfl _) (rv_move e12) rfl hJ)) ?_
      refine all_cons (obs_v rfl (by
        intro k; intro _nm ρ σm hJ hoff hdep
        have e52 : look 67 ρ 52 = (I a_1) := hdep 3 rfl rfl 52 rfl
        have e53 : look 67 ρ 53 = (I o18) := hdep 4 rfl rfl 53 rfl
        exact dp_v (v := (I (w64 (a_1 + o18)))) (wanted_none _ rfl _) (rv_add (a := a_1) (b := o18) e52 e53) rfl hJ)) ?_
      refine all_cons (obs_v rfl (by
        intro k; intro _nm ρ σm hJ hoff hdep
        have e0 : look 67 ρ 0 = (Sl adata_0 s10.1 cdata_0) := look_off (hoff 0 rfl) rfl
        exact dp_v (v := (Sl adata_0 s10.1 cdata_0)) (wanted_none _ rfl _) (rv_move e0) rfl hJ)) ?_
      refine all_cons (obs_v rfl (by
        intro k; intro _nm ρ σm hJ hoff hdep
        have e1 : look 67 ρ 1 = (I a_1) := look_off (hoff 1 rfl) rfl
        exact dp_v (v := (I a_1)) (wanted_none _ rfl _) (rv_move e1) rfl hJ)) ?_
      refine all_cons (obs_v rfl (by
        intro k; intro _nm ρ σm hJ hoff hdep
        have e12 : look 67 ρ 12 = (I o18) := look_off (hoff 12 rfl) rfl
        exact dp_v (v := (I o18)) (wanted_none _ rfl _) (rv_move e12) rfl hJ)) ?_
      refine all_cons (obs_v rfl (by
        intro k; intro _nm ρ σm hJ hoff hdep
        have e56 : look 67 ρ 56 = (I a_1) := hdep 7 rfl rfl 56 rfl
        have e57 : look 67 ρ 57 = (I o18) := hdep 8 rfl rfl 57 rfl
        exact dp_v (v := (I (w64 (a_1 + o18)))) (wanted_none _ rfl _) (rv_add (a := a_1) (b := o18) e56 e57) rfl hJ)) ?_
      refine all_cons (obs_v rfl (by
        intro k; intro _nm ρ σm hJ hoff hdep
        have e55 : look 67 ρ 55 = (Sl adata_0 s10.1 cdata_0) := hdep 6 rfl rfl 55 rfl
        have e58 : look 67 ρ 58 = (I (w64 (a_1 + o18))) := hdep 9 rfl rfl 58 rfl
        exact dp_v (v := (pt b24 o25)) (wanted_none _ rfl _) (rv_ix Try.underlying27 ti35 e55 e58 hi23) rfl hJ)) ?_
      refine all_cons (by
        refine ⟨?_, ?_⟩
        ·intro _nm ρ σm hJ hoff hdep
         have e59 : look 67 ρ 59 = (pt b24 o25) := hdep 10 rfl rfl 59 rfl
         obtain ⟨H, m⟩ := id hJ
         obtain ⟨_, ⟨_, _, rfl, rfl, rfl⟩, hl26, hc27⟩ := ((H.own 0 rfl).at hx22 hi23).cells
         exact dp_v (v := (.agg #[(I x21.1), (I x21.2)])) (wanted_none _ rfl _) (rv_load Try.underlying35 rfl ti35 e59 hl26 hc27) rfl hJ
        trivial) ?_
      refine all_cons (obs_v rfl (by
        intro k; intro _nm ρ σm hJ hoff hdep
        have e0 : look 67 ρ 0 = (Sl adata_0 s10.1 cdata_0) := look_off (hoff 0 rfl) rfl
        exact dp_v (v := (Sl adata_0 s10.1 cdata_0)) (wanted_none _ rfl _) (rv_move e0) rfl hJ)) ?_
      refine all_cons (obs_v rfl (by
        intro k; intro _nm ρ σm hJ hoff hdep
        have e11 : look 67 ρ 11 = (I s10.2.2) := look_off (hoff 11 rfl) rfl
        exact dp_v (v := (I s10.2.2)) (wanted_none _ rfl _) (rv_move e11) rfl hJ)) ?_
      refine all_cons (obs_v rfl (by
        intro k; intro _nm ρ σm hJ hoff hdep
        have e61 : look 67 ρ 61 = (Sl adata_0 s10.1 cdata_0) := hdep 12 rfl rfl 61 rfl
        have e62 : look 67 ρ 62 = (I s10.2.2) := hdep 13 rfl rfl 62 rfl
        exact dp_v (v := (pt b31 o32)) (wanted_none _ rfl _) (rv_ix Try.underlying27 ti35 e61 e62 hi30) rfl hJ)) ?_
      refine all_cons (by
        refine ⟨?_, ?_⟩
        ·intro _nm ρ σm hJ hoff hdep
         have e63 : look 67 ρ 63 = (pt b31 o32) := hdep 14 rfl rfl 63 rfl
         obtain ⟨H, m⟩ := id hJ
         obtain ⟨_, ⟨_, _, rfl, rfl, rfl⟩, hl33, hc34⟩ := ((H.own 0 rfl).at hx29 hi30).cells
         exact dp_v (v := (.agg #[(I x28.1), (I x28.2)])) (wanted_none _ rfl _) (rv_load Try.underlying35 rfl ti35 e63 hl33 hc34) rfl hJ
        trivial) ?_
      refine all_cons (obs_v rfl (by
        intro k; intro _nm ρ σm hJ hoff hdep
        have e49 : look 67 ρ 49 = (Sl adata_0 s10.1 cdata_0) := hdep 0 rfl rfl 49 rfl
        have e50 : look 67 ρ 50 = (I s10.2.2) := hdep 1 rfl rfl 50 rfl
        exact dp_v (v := (pt b38 o39)) (wanted_none _ rfl _) (rv_ix Try.underlying27 ti35 e49 e50 hi37) rfl hJ)) ?_
      refine all_cons (by
        refine ⟨?_, ?_⟩
        ·intro _nm ρ σm hJ hoff hdep
         have e65 : look 67 ρ 65 = (pt b38 o39) := hdep 16 rfl rfl 65 rfl
         have e60 : look 67 ρ 60 = (.agg #[(I x21.1), (I x21.2)]) := hdep 11 rfl rfl 60 rfl
         obtain ⟨H, m⟩ := id hJ
         refine dp_exS (wanted_none _ rfl _) rfl (ex_store_own (e' := (x21.1, x21.2)) (vs := [(I x21.1), (I x21.2)]) (k := 0) H (i := 0) rfl ti35 hx36 hi37 e65 rfl e60 rfl rfl (Nat.le_of_ble_eq_true rfl) (by simp [plain]) (by rintro _ ⟨_, _, rfl, rfl, rfl⟩; exact ⟨[(I x21.1)], [(I x21.2)], rfl, rfl, rfl⟩)) ?_
         rintro σq ⟨H2, m2⟩
         exact ⟨_, (), rfl, ⟨H2.sel' [0, 1] rfl rfl, m.comp m2⟩, stab [0, 1, 2, 3, 4, 5, 6, 7, 8, 9, 10, 11, 12, 13, 14, 15, 16] (by kernel_rfl) ⟨rfl, rfl, rfl, rfl, rfl, rfl, rfl, rfl, rfl, rfl, rfl, rfl, rfl, rfl, rfl, rfl, rfl, trivial⟩⟩
        trivial) ?_
      exact all_nil
     ·intro _nm ρ σ40 hJ hoff hrel
      have e0 : look 67 ρ 0 = (Sl adata_0 s10.1 cdata_0) := look_off (hoff 0 rfl) rfl
      have e1 : look 67 ρ 1 = (I a_1) := look_off (hoff 1 rfl) rfl
      have e8 : look 67 ρ 8 = (I (w64 (b_2 - a_1))) := look_off (hoff 8 rfl) rfl
      have e9 : look 67 ρ 9 = (pt b2 0) := look_off (hoff 9 rfl) rfl
      have e10 : look 67 ρ 10 = (.int .u64 r5) := look_off (hoff 10 rfl) rfl
      have e11 : look 67 ρ 11 = (I s10.2.2) := look_off (hoff 11 rfl) rfl
      have e51 : look 67 ρ 51 = (Sl adata_0 s10.1 cdata_0) := hrel 2 rfl 51 rfl
      have e54 : look 67 ρ 54 = (I (w64 (a_1 + o18))) := hrel 5 rfl 54 rfl
      have e64 : look 67 ρ 64 = (.agg #[(I x28.1), (I x28.2)]) := hrel 15 rfl 64 rfl
      obtain ⟨H, -⟩ := (show Hp S0 σ0 σ40 [Ch.own 0 0 (Sl adata_0 s10.1 cdata_0) (s10.1.set s10.2.2.toNat (x21.1, x21.2)), Ch.bx n0 b2 0 [(.int .u64 r14.2)] [] []] ∧ Md (fun i => (cov []) i ∨ (fun b => blk (Sl adata_0 s10.1 cdata_0) = some b) i) σ20 σ40 from hJ)
      clear hJ Hs
      rw [fr_lookL (L := [(0, (Sl adata_0 s10.1 cdata_0)), (1, (I a_1)), (8, (I (w64 (b_2 - a_1)))), (9, (pt b2 0)), (10, (.int .u64 r5)), (11, (I s10.2.2)), (51, (Sl adata_0 s10.1 cdata_0)), (54, (I (w64 (a_1 + o18)))), (64, (.agg #[(I x28.1), (I x28.2)]))]) ⟨e0, e1, e8, e9, e10, e11, e51, e54, e64, trivial⟩]
      clear hoff hrel e0 e1 e8 e9 e10 e11 e51 e54 e64
      have hsl : (Sl adata_0 s10.1 cdata_0) = (Sl adata_0 (s10.1.set s10.2.2.toNat (x21.1, x21.2)) cdata_0) := sl_len (by simp)
      rw [hsl]; rw [hsl] at H; clear hsl
      obtain ⟨x41, hx42, h'⟩ := bind_some h
      clear h
      have h := h'; clear h'
      obtain ⟨b44, o45, hi43, -⟩ := (H.own 0 rfl).ix hx42
      refine st (v := (pt b44 o45)) (rv_ix Try.underlying27 ti35 rfl rfl hi43) ?_
      refine st_exS (ex_store_own (e' := (x28.1, x28.2)) (vs := [(I x28.1), (I x28.2)]) (k := 0) H (i := 0) rfl ti35 hx42 hi43 rfl rfl rfl rfl rfl (Nat.le_of_ble_eq_true rfl) (by simp [plain]) (by rintro _ ⟨_, _, rfl, rfl, rfl⟩; exact ⟨[(I x28.1)], [(I x28.2)], rfl, rfl, rfl⟩)) (wanted_none _ rfl _) ?_
      rintro σ46 ⟨H, -⟩
      have hsl : (Sl adata_0 (s10.1.set s10.2.2.toNat (x21.1, x21.2)) cdata_0) = (Sl adata_0 ((s10.1.set s10.2.2.toNat (x21.1, x21.2)).set (w64 (a_1 + o18)).toNat (x28.1, x28.2)) cdata_0) := sl_len List.length_set.symm
      rw [hsl]; rw [hsl] at H; clear hsl
      refine w_end ?_
      refine q_blk ?_
      refine q_then ?_
      refine rg ?_
      refine st (v := (I s10.2.2)) (rv_move rfl) ?_
      refine st (v := (I (w64 (s10.2.2 + 1)))) (rv_add (a := s10.2.2) (b := 1) rfl rfl) ?_
      refine st (v := (I (w64 (s10.2.2 + 1)))) (rv_assign rfl) ?_
      refine w_end ?_
      refine q_then ?_
      obtain rfl := Option.some.inj h
      exact ⟨_, rfl, _, σ46, fr_join ⟨rfl, rfl, rfl, rfl, rfl, rfl, trivial⟩, rfl, H.sel' [1, 0] rfl rfl, (List.length_set.trans (List.length_set.trans hn12))⟩
   ·replace h := bif_f hb13 h
    refine c_exit ?_
    refine q_then_x ?_
    refine q_then_x ?_
    refine q_blk_hit ?_
    obtain rfl := Option.some.inj h
    obtain rfl := hres _ rfl
    exact ⟨rfl, _, σ11, fr_join ⟨rfl, trivial⟩, rfl, H.sel' [1] rfl rfl, hn12⟩
  ·clear hj
   have h := h'
   clear h' H
   rintro e a w ⟨rfl, ρ, σ47, rfl, rfl, H, hn48⟩
   obtain rfl := Option.some.inj h
   exact fin_end (v := (.tuple #[])) (results_ok Try.results138 res_nil rfl) ⟨rfl, rfl, hn48⟩ (H.sel' [0] rfl rfl)
 ·replace h := bif_f hb1 h
  refine c_skip ?_
  obtain rfl := Option.some.inj h
  exact fin_end (v := (.tuple #[])) (results_ok Try.results138 res_nil rfl) ⟨rfl, rfl, rfl⟩ (H.sel' [0] rfl rfl)

theorem c_slices_order2CmpFunc_impl_Hit__impl_compareHits {data_0 : List (Int × Int)} {a_1 : Int} {b_2 : Int} {swaps_3 : Int} {adata_0 : Option Addr} {cdata_0 : Nat} {loswaps_3 bswaps_3 oswaps_3 : Nat} {preswaps_3 sufswaps_3 : List Value} {r : Int × Int × Int} (h : M.slices_order2CmpFunc_impl_Hit__impl_compareHits data_0 a_1 b_2 swaps_3 = some r) :
    Cal2 Try.prog 151 [(Sl adata_0 data_0 cdata_0), (I a_1), (I b_2), (pt bswaps_3 oswaps_3), (.func (.func 108) #[] #[])] [Ch.ro 0 (Sl adata_0 data_0 cdata_0) data_0, Ch.bx loswaps_3 bswaps_3 oswaps_3 [(I swaps_3)] preswaps_3 sufswaps_3] (fun n0 v L => v = (.tuple #[(I r.1), (I r.2.1)]) ∧ L = [Ch.bx loswaps_3 bswaps_3 oswaps_3 [(I r.2.2)] preswaps_3 sufswaps_3]) := by
 refine cal2 (n := 32) Try.func151 rfl rfl rfl rfl ?_
 intro S0 σ0 n0 hn0 H
 unfold M.slices_order2CmpFunc_impl_Hit__impl_compareHits at h
 refine c_seq ?_
 refine rg ?_
 refine st (v := (I 0)) (rv_assign rfl) ?_
 refine st (v := (I 0)) (rv_assign rfl) ?_
 refine w_end ?_
 refine q_then ?_
 refine c_seq ?_
 refine c_seq ?_
 refine rgP (σ := σ0) 9 (by kernel_rfl) (by kernel_rfl) (by kernel_rfl) ?_
 refine sq (v := (.func (.func 108) #[] #[])) (rv_move rfl) ?_
 refine sq (v := (Sl adata_0 data_0 cdata_0)) (rv_move rfl) ?_
 refine sq (v := (I b_2)) (rv_move rfl) ?_
 obtain ⟨x1, hx2, h'⟩ := bind_some h
 clear h
 have h := h'; clear h'
 obtain ⟨b4, o5, hi3, -⟩ := (H.ro 0 rfl).ix hx2
 refine sq (v := (pt b4 o5)) (rv_ix Try.underlying27 ti35 rfl rfl hi3) ?_
 obtain ⟨_, ⟨_, _, rfl, rfl, rfl⟩, hl6, hc7⟩ := ((H.ro 0 rfl).at hx2 hi3).cells
 refine sq (v := (.agg #[(I x1.1), (I x1.2)])) (rv_load Try.underlying35 rfl ti35 rfl hl6 hc7) ?_
 refine sq (v := (Sl adata_0 data_0 cdata_0)) (rv_move rfl) ?_
 refine sq (v := (I a_1)) (rv_move rfl) ?_
 obtain ⟨x8, hx9, h'⟩ := bind_some h
 clear h
 have h := h'; clear h'
 obtain ⟨b11, o12, hi10, -⟩ := (H.ro 0 rfl).ix hx9
 refine sq (v := (pt b11 o12)) (rv_ix Try.underlying27 ti35 rfl rfl hi10) ?_
 obtain ⟨_, ⟨_, _, rfl, rfl, rfl⟩, hl13, hc14⟩ := ((H.ro 0 rfl).at hx9 hi10).cells
 refine sq (v := (.agg #[(I x8.1), (I x8.2)])) (rv_load Try.underlying35 rfl ti35 rfl hl13 hc14) ?_
 refine sq_end ?_
 intro σ15 hm16
 replace H := H.grow (hm16.mono fun _ h => h); clear hm16
 obtain ⟨r17, hx18, h'⟩ := bind_some h
 clear h
 have h := h'; clear h'
 have hc19 := c_impl_compareHits hx18
 refine st_call (cx_call hc19 (ent_v (cap := []) hc19.fn rfl rfl) hn0 (show Hp S0 σ0 _ ([] ++ [Ch.ro 0 (Sl adata_0 data_0 cdata_0) data_0, Ch.bx loswaps_3 bswaps_3 oswaps_3 [(I swaps_3)] preswaps_3 sufswaps_3]) from (H.sel' [0, 1] rfl rfl))) (wanted_none _ rfl _) ?_
 rintro _ σ20 ⟨_, ⟨rfl, rfl⟩, H, -⟩
 replace H : Hp S0 σ0 σ20 [Ch.ro 0 (Sl adata_0 data_0 cdata_0) data_0, Ch.bx loswaps_3 bswaps_3 oswaps_3 [(I swaps_3)] preswaps_3 sufswaps_3] := H
 refine st (v := (B (decide (r17 < 0)))) (rv_lss (a := r17) (b := 0) rfl rfl) ?_
 refine w_end ?_
 refine q_then ?_
 refine cd_cond (decide (r17 < 0)) rfl (fun hb21 => ?_) (fun hb21 => ?_)
 ·replace h := bif_t hb21 h
  refine c_seq ?_
  refine rg ?_
  refine st (v := (pt bswaps_3 oswaps_3)) (rv_move rfl) ?_
  refine st (v := (pt bswaps_3 oswaps_3)) (rv_nilCheck rfl) ?_
  have hc22 := H.cell (u := (I swaps_3)) (o' := oswaps_3) 1 0 rfl rfl rfl
  refine st (v := (I swaps_3)) (rv_load1 Try.underlying3 rfl rfl hc22) ?_
  refine st (v := (I (w64 (swaps_3 + 1)))) (rv_add (a := swaps_3) (b := 1) rfl rfl) ?_
  refine st (v := (pt bswaps_3 oswaps_3)) (rv_nilCheck rfl) ?_
  refine st_exS (ex_store_box (k := 0) (cs := [(I swaps_3)]) (vs := [(I (w64 (swaps_3 + 1)))]) (cs' := [(I (w64 (swaps_3 + 1)))]) H (i := 1) rfl ti3 rfl rfl rfl rfl rfl (Nat.le_of_ble_eq_true rfl) (by simp [plain]) rfl) (wanted_none _ rfl _) ?_
  rintro σ23 ⟨H, -⟩
  refine w_end ?_
  refine q_then ?_
  refine c_seq ?_
  refine rg ?_
  refine st (v := (I b_2)) (rv_move rfl) ?_
  refine st (v := (I a_1)) (rv_move rfl) ?_
  refine st (v := (I b_2)) (rv_assign rfl) ?_
  refine st (v := (I a_1)) (rv_assign rfl) ?_
  refine w_end ?_
  refine q_then ?_
  refine c_ret ?_
  refine q_then_r ?_
  obtain rfl := Option.some.inj h
  exact fin_ret (v := (.tuple #[(I b_2), (I a_1)])) (results_ok Try.results151 (res_tmp (v := (I b_2)) rfl (res_tmp (v := (I a_1)) rfl res_nil)) rfl) ⟨rfl, rfl⟩ (H.sel' [0] rfl rfl)
 ·replace h := bif_f hb21 h
  refine c_skip ?_
  refine q_then ?_
  refine c_seq ?_
  refine rg ?_
  refine st (v := (I a_1)) (rv_move rfl) ?_
  refine st (v := (I b_2)) (rv_move rfl) ?_
  refine st (v := (I a_1)) (rv_assign rfl) ?_
  refine st (v := (I b_2)) (rv_assign rfl) ?_
  refine w_end ?_
  refine q_then ?_
  refine c_ret ?_
  obtain rfl := Option.some.inj h
  exact fin_ret (v := (.tuple #[(I a_1), (I b_2)])) (results_ok Try.results151 (res_tmp (v := (I a_1)) rfl (res_tmp (v := (I b_2)) rfl res_nil)) rfl) ⟨rfl, rfl⟩ (H.sel' [1] rfl rfl)

theorem c_slices_medianCmpFunc_impl_Hit__impl_compareHits {data_0 : List (Int × Int)} {a_1 : Int} {b_2 : Int} {c_3 : Int} {swaps_4 : Int} {adata_0 : Option Addr} {cdata_0 : Nat} {loswaps_4 bswaps_4 oswaps_4 : Nat} {preswaps_4 sufswaps_4 : List Value} {r : Int × Int} (h : M.slices_medianCmpFunc_impl_Hit__impl_compareHits data_0 a_1 b_2 c_3 swaps_4 = some r) :
    Cal2 Try.prog 150 [(Sl adata_0 data_0 cdata_0), (I a_1), (I b_2), (I c_3), (pt bswaps_4 oswaps_4), (.func (.func 108) #[] #[])] [Ch.ro 0 (Sl adata_0 data_0 cdata_0) data_0, Ch.bx loswaps_4 bswaps_4 oswaps_4 [(I swaps_4)] preswaps_4 sufswaps_4] (fun n0 v L => v = (I r.1) ∧ L = [Ch.bx loswaps_4 bswaps_4 oswaps_4 [(I r.2)] preswaps_4 sufswaps_4]) := by
 refine cal2 (n := 41) Try.func150 rfl rfl rfl rfl ?_
 intro S0 σ0 n0 hn0 H
 unfold M.slices_medianCmpFunc_impl_Hit__impl_compareHits at h
 refine c_seq ?_
 refine rg ?_
 refine st (v := (I 0)) (rv_assign rfl) ?_
 refine w_end ?_
 refine q_then ?_
 refine c_seq ?_
 refine rg ?_
 refine st (v := (Sl adata_0 data_0 cdata_0)) (rv_move rfl) ?_
 refine st (v := (I a_1)) (rv_move rfl) ?_
 refine st (v := (I b_2)) (rv_move rfl) ?_
 refine st (v := (pt bswaps_4 oswaps_4)) (rv_move rfl) ?_
 refine st (v := (.func (.func 108) #[] #[])) (rv_move rfl) ?_
 obtain ⟨r1, hx2, h'⟩ := bind_some h
 clear h
 have h := h'; clear h'
 have hc3 := c_slices_order2CmpFunc_impl_Hit__impl_compareHits (adata_0 := adata_0) (cdata_0 := cdata_0) (loswaps_3 := loswaps_4) (bswaps_3 := bswaps_4) (oswaps_3 := oswaps_4) (preswaps_3 := preswaps_4) (sufswaps_3 := sufswaps_4) hx2
 refine st_call (cx_call hc3 (ent_f hc3.fn rfl) hn0 (show Hp S0 σ0 _ ([Ch.ro 0 (Sl adata_0 data_0 cdata_0) data_0, Ch.bx loswaps_4 bswaps_4 oswaps_4 [(I swaps_4)] preswaps_4 sufswaps_4] ++ [Ch.ro 0 (Sl adata_0 data_0 cdata_0) data_0]) from (H.sel' [0, 1, 0] rfl rfl))) (wanted_none _ rfl _) ?_
 rintro _ σ4 ⟨_, ⟨rfl, rfl⟩, H, -⟩
 replace H : Hp S0 σ0 σ4 [Ch.bx loswaps_4 bswaps_4 oswaps_4 [(I r1.2.2)] preswaps_4 sufswaps_4, Ch.ro 0 (Sl adata_0 data_0 cdata_0) data_0] := H
 refine st (v := (.tuple #[(I r1.1), (I r1.2.1)])) (rv_move rfl) ?_
 refine st (v := (I r1.1)) (rv_extract rfl rfl) ?_
 refine st (v := (I r1.2.1)) (rv_extract rfl rfl) ?_
 refine st (v := (I r1.1)) (rv_assign rfl) ?_
 refine st (v := (I r1.2.1)) (rv_assign rfl) ?_
 refine w_end ?_
 refine q_then ?_
 refine c_seq ?_
 refine rg ?_
 refine st (v := (Sl adata_0 data_0 cdata_0)) (rv_move rfl) ?_
 refine st (v := (I r1.2.1)) (rv_move rfl) ?_
 refine st (v := (I c_3)) (rv_move rfl) ?_
 refine st (v := (pt bswaps_4 oswaps_4)) (rv_move rfl) ?_
 refine st (v := (.func (.func 108) #[] #[])) (rv_move rfl) ?_
 obtain ⟨r5, hx6, h'⟩ := bind_some h
 clear h
 have h := h'; clear h'
 have hc7 := c_slices_order2CmpFunc_impl_Hit__impl_compareHits (adata_0 := adata_0) (cdata_0 := cdata_0) (loswaps_3 := loswaps_4) (bswaps_3 := bswaps_4) (oswaps_3 := oswaps_4) (preswaps_3 := preswaps_4) (sufswaps_3 := sufswaps_4) hx6
 refine st_call (cx_call hc7 (ent_f hc7.fn rfl) hn0 (show Hp S0 σ0 _ ([Ch.ro 0 (Sl adata_0 data_0 cdata_0) data_0, Ch.bx loswaps_4 bswaps_4 oswaps_4 [(I r1.2.2)] preswaps_4 sufswaps_4] ++ [Ch.ro 0 (Sl adata_0 data_0 cdata_0) data_0]) from (H.sel' [1, 0, 1] rfl rfl))) (wanted_none _ rfl _) ?_
 rintro _ σ8 ⟨_, ⟨rfl, rfl⟩, H, -⟩
 replace H : Hp S0 σ0 σ8 [Ch.bx loswaps_4 bswaps_4 oswaps_4 [(I r5.2.2)] preswaps_4 sufswaps_4, Ch.ro 0 (Sl adata_0 data_0 cdata_0) data_0] := H
 refine st (v := (.tuple #[(I r5.1), (I r5.2.1)])) (rv_move rfl) ?_
 refine st (v := (I r5.1)) (rv_extract rfl rfl) ?_
 refine st (v := (I r5.2.1)) (rv_extract rfl rfl) ?_
 refine st (v := (I r5.1)) (rv_assign rfl) ?_
 refine st (v := (I r5.2.1)) (rv_assign rfl) ?_
 refine w_end ?_
 refine q_then ?_
 refine c_seq ?_
 refine rg ?_
 refine st (v := (Sl adata_0 data_0 cdata_0)) (rv_move rfl) ?_
 refine st (v := (I r1.1)) (rv_move rfl) ?_
 refine st (v := (I r5.1)) (rv_move rfl) ?_
 refine st (v := (pt bswaps_4 oswaps_4)) (rv_move rfl) ?_
 refine st (v := (.func (.func 108) #[] #[])) (rv_move rfl) ?_
 obtain ⟨r9, hx10, h'⟩ := bind_some h
 clear h
 have h := h'; clear h'
 have hc11 := c_slices_order2CmpFunc_impl_Hit__impl_compareHits (adata_0 := adata_0) (cdata_0 := cdata_0) (loswaps_3 := loswaps_4) (bswaps_3 := bswaps_4) (oswaps_3 := oswaps_4) (preswaps_3 := preswaps_4) (sufswaps_3 := sufswaps_4) hx10
 refine st_call (cx_call hc11 (ent_f hc11.fn rfl) hn0 (show Hp S0 σ0 _ ([Ch.ro 0 (Sl adata_0 data_0 cdata_0) data_0, Ch.bx loswaps_4 bswaps_4 oswaps_4 [(I r5.2.2)] preswaps_4 sufswaps_4] ++ [Ch.ro 0 (Sl adata_0 data_0 cdata_0) data_0]) from (H.sel' [1, 0, 1] rfl rfl))) (wanted_none _ rfl _) ?_
 rintro _ σ12 ⟨_, ⟨rfl, rfl⟩, H, -⟩
 replace H : Hp S0 σ0 σ12 [Ch.bx loswaps_4 bswaps_4 oswaps_4 [(I r9.2.2)] preswaps_4 sufswaps_4, Ch.ro 0 (Sl adata_0 data_0 cdata_0) data_0] := H
 refine st (v := (.tuple #[(I r9.1), (I r9.2.1)])) (rv_move rfl) ?_
 refine st (v := (I r9.1)) (rv_extract rfl rfl) ?_
 refine st (v := (I r9.2.1)) (rv_extract rfl rfl) ?_
 refine st (v := (I r9.1)) (rv_assign rfl) ?_
 refine st (v := (I r9.2.1)) (rv_assign rfl) ?_
 refine w_end ?_
 refine q_then ?_
 refine c_seq ?_
 refine rg ?_
 refine st (v := (I r9.2.1)) (rv_move rfl) ?_
 refine st (v := (I r9.2.1)) (rv_assign rfl) ?_
 refine w_end ?_
 refine q_then ?_
 refine c_ret ?_
 obtain rfl := Option.some.inj h
 exact fin_ret (v := (I r9.2.1)) (results_ok Try.results150 (res_tmp (v := (I r9.2.1)) rfl res_nil) rfl) ⟨rfl, rfl⟩ (H.sel' [0] rfl rfl)

theorem c_slices_medianAdjacentCmpFunc_impl_Hit__impl_compareHits {data_0 : List (Int × Int)} {a_1 : Int} {swaps_2 : Int} {adata_0 : Option Addr} {cdata_0 : Nat} {loswaps_2 bswaps_2 oswaps_2 : Nat} {preswaps_2 sufswaps_2 : List Value} {r : Int × Int} (h : M.slices_medianAdjacentCmpFunc_impl_Hit__impl_compareHits data_0 a_1 swaps_2 = some r) :
    Cal2 Try.prog 149 [(Sl adata_0 data_0 cdata_0), (I a_1), (pt bswaps_2 oswaps_2), (.func (.func 108) #[] #[])] [Ch.ro 0 (Sl adata_0 data_0 cdata_0) data_0, Ch.bx loswaps_2 bswaps_2 oswaps_2 [(I swaps_2)] preswaps_2 sufswaps_2] (fun n0 v L => v = (I r.1) ∧ L = [Ch.bx loswaps_2 bswaps_2 oswaps_2 [(I r.2)] preswaps_2 sufswaps_2]) := by
 refine cal2 (n := 18) Try.func149 rfl rfl rfl rfl ?_
 intro S0 σ0 n0 hn0 H
 unfold M.slices_medianAdjacentCmpFunc_impl_Hit__impl_compareHits at h
 refine c_seq ?_
 refine rg ?_
 refine st (v := (I 0)) (rv_assign rfl) ?_
 refine w_end ?_
 refine q_then ?_
 refine c_seq ?_
 refine rg ?_
 refine st (v := (Sl adata_0 data_0 cdata_0)) (rv_move rfl) ?_
 refine st (v := (I a_1)) (rv_move rfl) ?_
 refine st (v := (I (w64 (a_1 - 1)))) (rv_sub (a := a_1) (b := 1) rfl rfl) ?_
 refine st (v := (I a_1)) (rv_move rfl) ?_
 refine st (v := (I a_1)) (rv_move rfl) ?_
 refine st (v := (I (w64 (a_1 + 1)))) (rv_add (a := a_1) (b := 1) rfl rfl) ?_
 refine st (v := (pt bswaps_2 oswaps_2)) (rv_move rfl) ?_
 refine st (v := (.func (.func 108) #[] #[])) (rv_move rfl) ?_
 obtain ⟨r1, hx2, h'⟩ := bind_some h
 clear h
 have h := h'; clear h'
 have hc3 := c_slices_medianCmpFunc_impl_Hit__impl_compareHits (adata_0 := adata_0) (cdata_0 := cdata_0) (loswaps_4 := loswaps_2) (bswaps_4 := bswaps_2) (oswaps_4 := oswaps_2) (preswaps_4 := preswaps_2) (sufswaps_4 := sufswaps_2) hx2
 refine st_call (cx_call hc3 (ent_f hc3.fn rfl) hn0 (show Hp S0 σ0 _ ([Ch.ro 0 (Sl adata_0 data_0 cdata_0) data_0, Ch.bx loswaps_2 bswaps_2 oswaps_2 [(I swaps_2)] preswaps_2 sufswaps_2] ++ [Ch.ro 0 (Sl adata_0 data_0 cdata_0) data_0]) from (H.sel' [0, 1, 0] rfl rfl))) (wanted_none _ rfl _) ?_
 rintro _ σ4 ⟨_, ⟨rfl, rfl⟩, H, -⟩
 replace H : Hp S0 σ0 σ4 [Ch.bx loswaps_2 bswaps_2 oswaps_2 [(I r1.2)] preswaps_2 sufswaps_2, Ch.ro 0 (Sl adata_0 data_0 cdata_0) data_0] := H
 refine st (v := (I r1.1)) (rv_assign rfl) ?_
 refine w_end ?_
 refine q_then ?_
 refine c_ret ?_
 obtain rfl := Option.some.inj h
 exact fin_ret (v := (I r1.1)) (results_ok Try.results149 (res_tmp (v := (I r1.1)) rfl res_nil) rfl) ⟨rfl, rfl⟩ (H.sel' [0] rfl rfl)

theorem c_slices_choosePivotCmpFunc_impl_Hit__impl_compareHits {data_0 : List (Int × Int)} {a_1 : Int} {b_2 : Int} {adata_0 : Option Addr} {cdata_0 : Nat} {r : Int × Int} (h : M.slices_choosePivotCmpFunc_impl_Hit__impl_compareHits data_0 a_1 b_2 = some r) :
    Cal2 Try.prog 139 [(Sl adata_0 data_0 cdata_0), (I a_1), (I b_2), (.func (.func 108) #[] #[])] [Ch.ro 0 (Sl adata_0 data_0 cdata_0) data_0] (fun n0 v L => v = (.tuple #[(I r.1), (I r.2)]) ∧ L = []) := by
 refine cal2 (n := 63) Try.func139 rfl rfl rfl rfl ?_
 intro S0 σ0 n0 hn0 H
 unfold M.slices_choosePivotCmpFunc_impl_Hit__impl_compareHits at h
 refine c_seq ?_
 refine rg ?_
 refine st (v := (I 0)) (rv_assign rfl) ?_
 refine st (v := (I 0)) (rv_assign rfl) ?_
 refine w_end ?_
 refine q_then ?_
 refine c_seq ?_
 refine rg ?_
 refine st (v := (I b_2)) (rv_move rfl) ?_
 refine st (v := (I a_1)) (rv_move rfl) ?_
 refine st (v := (I (w64 (b_2 - a_1)))) (rv_sub (a := b_2) (b := a_1) rfl rfl) ?_
 refine st (v := (I (w64 (b_2 - a_1)))) (rv_assign rfl) ?_
 refine w_end ?_
 refine q_then ?_
 refine c_seq ?_
 refine rg ?_
 refine st_ex (ex_alloc (cs := [(I 0)]) H hn0 ti3 rfl) (wanted_none _ rfl _) ?_
 rintro _ σ2 ⟨b1, rfl, H, -⟩
 refine w_end ?_
 refine q_then ?_
 refine c_seq ?_
 refine rg ?_
 refine st (v := (I a_1)) (rv_move rfl) ?_
 refine st (v := (I (w64 (b_2 - a_1)))) (rv_move rfl) ?_
 refine st (v := (I (w64 ((w64 (b_2 - a_1)).tdiv 4)))) (rv_quo (a := (w64 (b_2 - a_1))) (b := 4) rfl rfl (by decide)) ?_
 refine st (v := (I (w64 ((w64 ((w64 (b_2 - a_1)).tdiv 4)) * 1)))) (rv_mul (a := (w64 ((w64 (b_2 - a_1)).tdiv 4))) (b := 1) rfl rfl) ?_
 refine st (v := (I (w64 (a_1 + (w64 ((w64 ((w64 (b_2 - a_1)).tdiv 4)) * 1)))))) (rv_add (a := a_1) (b := (w64 ((w64 ((w64 (b_2 - a_1)).tdiv 4)) * 1))) rfl rfl) ?_
 refine st (v := (I (w64 (a_1 + (w64 ((w64 ((w64 (b_2 - a_1)).tdiv 4)) * 1)))))) (rv_assign rfl) ?_
 refine w_end ?_
 refine q_then ?_
 refine c_seq ?_
 refine rg ?_
 refine st (v := (I a_1)) (rv_move rfl) ?_
 refine st (v := (I (w64 (b_2 - a_1)))) (rv_move rfl) ?_
 refine st (v := (I (w64 ((w64 (b_2 - a_1)).tdiv 4)))) (rv_quo (a := (w64 (b_2 - a_1))) (b := 4) rfl rfl (by decide)) ?_
 refine st (v := (I (w64 ((w64 ((w64 (b_2 - a_1)).tdiv 4)) * 2)))) (rv_mul (a := (w64 ((w64 (b_2 - a_1)).tdiv 4))) (b := 2) rfl rfl) ?_
 refine st (v := (I (w64 (a_1 + (w64 ((w64 ((w64 (b_2 - a_1)).tdiv 4)) * 2)))))) (rv_add (a := a_1) (b := (w64 ((w64 ((w64 (b_2 - a_1)).tdiv 4)) * 2))) rfl rfl) ?_
 refine st (v := (I (w64 (a_1 + (w64 ((w64 ((w64 (b_2 - a_1)).tdiv 4)) * 2)))))) (rv_assign rfl) ?_
 refine w_end ?_
 refine q_then ?_
 refine c_seq ?_
 refine rg ?_
 refine st (v := (I a_1)) (rv_move rfl) ?_
 refine st (v := (I (w64 (b_2 - a_1)))) (rv_move rfl) ?_
 refine st (v := (I (w64 ((w64 (b_2 - a_1)).tdiv 4)))) (rv_quo (a := (w64 (b_2 - a_1))) (b := 4) rfl rfl (by decide)) ?_
 refine st (v := (I (w64 ((w64 ((w64 (b_2 - a_1)).tdiv 4)) * 3)))) (rv_mul (a := (w64 ((w64 (b_2 - a_1)).tdiv 4))) (b := 3) rfl rfl) ?_
 refine st (v := (I (w64 (a_1 + (w64 ((w64 ((w64 (b_2 - a_1)).tdiv 4)) * 3)))))) (rv_add (a := a_1) (b := (w64 ((w64 ((w64 (b_2 - a_1)).tdiv 4)) * 3))) rfl rfl) ?_
 refine st (v := (I (w64 (a_1 + (w64 ((w64 ((w64 (b_2 - a_1)).tdiv 4)) * 3)))))) (rv_assign rfl) ?_
 refine w_end ?_
 refine q_then ?_
 refine c_seq ?_
 refine c_seq ?_
 refine rg ?_
 refine st (v := (I (w64 (b_2 - a_1)))) (rv_move rfl) ?_
 refine st (v := (B (decide (8 ≤ (w64 (b_2 - a_1)))))) (rv_geq (a := (w64 (b_2 - a_1))) (b := 8) rfl rfl) ?_
 refine w_end ?_
 refine q_then ?_
 obtain ⟨o3, hj, h'⟩ := bind_some h
 clear h
 refine c_cut (fun e a w => e = .normal ∧ ∃ (ρ : Nat → Value) (σ : St), a = fr 63 (updL ρ [(11, (pt b1 0)), (13, (I o3.2))]) ∧ w = σ.w ∧ Hp S0 σ0 σ [Ch.bx n0 b1 0 [(I o3.1)] [] []]) ?_ ?_
 ·clear h'
  rename _ = some o3 => h
  refine cd_cond (decide (8 ≤ (w64 (b_2 - a_1)))) rfl (fun hb4 => ?_) (fun hb4 => ?_)
  ·replace h := bif_t hb4 h
   refine c_seq ?_
   refine c_seq ?_
   refine rg ?_
   refine st (v := (I (w64 (b_2 - a_1)))) (rv_move rfl) ?_
   refine st (v := (B (decide (50 ≤ (w64 (b_2 - a_1)))))) (rv_geq (a := (w64 (b_2 - a_1))) (b := 50) rfl rfl) ?_
   refine w_end ?_
   refine q_then ?_
   obtain ⟨o5, hj, h'⟩ := bind_some h
   clear h
   refine c_cut (fun e a w => e = .normal ∧ ∃ (ρ : Nat → Value) (σ : St), a = fr 63 (updL ρ [(0, (Sl adata_0 data_0 cdata_0)), (3, (.func (.func 108) #[] #[])), (11, (pt b1 0)), (12, (I o5.2.1)), (13, (I o5.2.2.1)), (14, (I o5.2.2.2))]) ∧ w = σ.w ∧ Hp S0 σ0 σ [Ch.bx n0 b1 0 [(I o5.1)] [] [], Ch.ro 0 (Sl adata_0 data_0 cdata_0) data_0]) ?_ ?_
   ·clear h'
    rename _ = some o5 => h
    refine cd_cond (decide (50 ≤ (w64 (b_2 - a_1)))) rfl (fun hb6 => ?_) (fun hb6 => ?_)
    ·replace h := bif_t hb6 h
     refine c_seq ?_
     refine rg ?_
     refine st (v := (Sl adata_0 data_0 cdata_0)) (rv_move rfl) ?_
     refine st (v := (I (w64 (a_1 + (w64 ((w64 ((w64 (b_2 - a_1)).tdiv 4)) * 1)))))) (rv_move rfl) ?_
     refine st (v := (.func (.func 108) #[] #[])) (rv_move rfl) ?_
     obtain ⟨r7, hx8, h'⟩ := bind_some h
     clear h
     have h := h'; clear h'
     have hc9 := c_slices_medianAdjacentCmpFunc_impl_Hit__impl_compareHits (adata_0 := adata_0) (cdata_0 := cdata_0) (loswaps_2 := n0) (bswaps_2 := b1) (oswaps_2 := 0) (preswaps_2 := []) (sufswaps_2 := []) hx8
     refine st_call (cx_call hc9 (ent_f hc9.fn rfl) hn0 (show Hp S0 σ0 _ ([Ch.ro 0 (Sl adata_0 data_0 cdata_0) data_0, Ch.bx n0 b1 0 [(I 0)] [] []] ++ [Ch.ro 0 (Sl adata_0 data_0 cdata_0) data_0]) from (H.sel' [1, 0, 1] rfl rfl))) (wanted_none _ rfl _) ?_
     rintro _ σ10 ⟨_, ⟨rfl, rfl⟩, H, -⟩
     replace H : Hp S0 σ0 σ10 [Ch.bx n0 b1 0 [(I r7.2)] [] [], Ch.ro 0 (Sl adata_0 data_0 cdata_0) data_0] := H
     refine st (v := (I r7.1)) (rv_assign rfl) ?_
     refine w_end ?_
     refine q_then ?_
     refine c_seq ?_
     refine rg ?_
     refine st (v := (Sl adata_0 data_0 cdata_0)) (rv_move rfl) ?_
     refine st (v := (I (w64 (a_1 + (w64 ((w64 ((w64 (b_2 - a_1)).tdiv 4)) * 2)))))) (rv_move rfl) ?_
     refine st (v := (.func (.func 108) #[] #[])) (rv_move rfl) ?_
     obtain ⟨r11, hx12, h'⟩ := bind_some h
     clear h
     have h := h'; clear h'
     have hc13 := c_slices_medianAdjacentCmpFunc_impl_Hit__impl_compareHits (adata_0 := adata_0) (cdata_0 := cdata_0) (loswaps_2 := n0) (bswaps_2 := b1) (oswaps_2 := 0) (preswaps_2 := []) (sufswaps_2 := []) hx12
     refine st_call (cx_call hc13 (ent_f hc13.fn rfl) hn0 (show Hp S0 σ0 _ ([Ch.ro 0 (Sl adata_0 data_0 cdata_0) data_0, Ch.bx n0 b1 0 [(I r7.2)] [] []] ++ [Ch.ro 0 (Sl adata_0 data_0 cdata_0) data_0]) from (H.sel' [1, 0, 1] rfl rfl))) (wanted_none _ rfl _) ?_
     rintro _ σ14 ⟨_, ⟨rfl, rfl⟩, H, -⟩
     replace H : Hp S0 σ0 σ14 [Ch.bx n0 b1 0 [(I r11.2)] [] [], Ch.ro 0 (Sl adata_0 data_0 cdata_0) data_0] := H
     refine st (v := (I r11.1)) (rv_assign rfl) ?_
     refine w_end ?_
     refine q_then ?_
     refine rg ?_
     refine st (v := (Sl adata_0 data_0 cdata_0)) (rv_move rfl) ?_
     refine st (v := (I (w64 (a_1 + (w64 ((w64 ((w64 (b_2 - a_1)).tdiv 4)) * 3)))))) (rv_move rfl) ?_
     refine st (v := (.func (.func 108) #[] #[])) (rv_move rfl) ?_
     obtain ⟨r15, hx16, h'⟩ := bind_some h
     clear h
     have h := h'; clear h'
     have hc17 := c_slices_medianAdjacentCmpFunc_impl_Hit__impl_compareHits (adata_0 := adata_0) (cdata_0 := cdata_0) (loswaps_2 := n0) (bswaps_2 := b1) (oswaps_2 := 0) (preswaps_2 := []) (sufswaps_2 := []) hx16
     refine st_call (cx_call hc17 (ent_f hc17.fn rfl) hn0 (show Hp S0 σ0 _ ([Ch.ro 0 (Sl adata_0 data_0 cdata_0) data_0, Ch.bx n0 b1 0 [(I r11.2)] [] []] ++ [Ch.ro 0 (Sl adata_0 data_0 cdata_0) data_0]) from (H.sel' [1, 0, 1] rfl rfl))) (wanted_none _ rfl _) ?_
     rintro _ σ18 ⟨_, ⟨rfl, rfl⟩, H, -⟩
     replace H : Hp S0 σ0 σ18 [Ch.bx n0 b1 0 [(I r15.2)] [] [], Ch.ro 0 (Sl adata_0 data_0 cdata_0) data_0] := H
     refine st (v := (I r15.1)) (rv_assign rfl) ?_
     refine w_end ?_
     obtain rfl := Option.some.inj h
     exact ⟨rfl, _, σ18, fr_join ⟨rfl, rfl, rfl, rfl, rfl, rfl, trivial⟩, rfl, H.sel' [0, 1] rfl rfl⟩
    ·replace h := bif_f hb6 h
     refine c_skip ?_
     obtain rfl := Option.some.inj h
     exact ⟨rfl, _, σ2, fr_join ⟨rfl, rfl, rfl, rfl, rfl, rfl, trivial⟩, rfl, H.sel' [0, 1] rfl rfl⟩
   ·clear hj
    have h := h'
    clear h' H
    rintro e a w ⟨rfl, ρ, σ19, rfl, rfl, H⟩
    refine q_then ?_
    refine rg ?_
    refine st (v := (Sl adata_0 data_0 cdata_0)) (rv_move rfl) ?_
    refine st (v := (I o5.2.1)) (rv_move rfl) ?_
    refine st (v := (I o5.2.2.1)) (rv_move rfl) ?_
    refine st (v := (I o5.2.2.2)) (rv_move rfl) ?_
    refine st (v := (.func (.func 108) #[] #[])) (rv_move rfl) ?_
    obtain ⟨r20, hx21, h'⟩ := bind_some h
    clear h
    have h := h'; clear h'
    have hc22 := c_slices_medianCmpFunc_impl_Hit__impl_compareHits (adata_0 := adata_0) (cdata_0 := cdata_0) (loswaps_4 := n0) (bswaps_4 := b1) (oswaps_4 := 0) (preswaps_4 := []) (sufswaps_4 := []) hx21
    refine st_call (cx_call hc22 (ent_f hc22.fn rfl) hn0 (show Hp S0 σ0 _ ([Ch.ro 0 (Sl adata_0 data_0 cdata_0) data_0, Ch.bx n0 b1 0 [(I o5.1)] [] []] ++ [Ch.ro 0 (Sl adata_0 data_0 cdata_0) data_0]) from (H.sel' [1, 0, 1] rfl rfl))) (wanted_none _ rfl _) ?_
    rintro _ σ23 ⟨_, ⟨rfl, rfl⟩, H, -⟩
    replace H : Hp S0 σ0 σ23 [Ch.bx n0 b1 0 [(I r20.2)] [] [], Ch.ro 0 (Sl adata_0 data_0 cdata_0) data_0] := H
    refine st (v := (I r20.1)) (rv_assign rfl) ?_
    refine w_end ?_
    obtain rfl := Option.some.inj h
    exact ⟨rfl, _, σ23, fr_join ⟨rfl, rfl, trivial⟩, rfl, H.sel' [0] rfl rfl⟩
  ·replace h := bif_f hb4 h
   refine c_skip ?_
   obtain rfl := Option.some.inj h
   exact ⟨rfl, _, σ2, fr_join ⟨rfl, rfl, trivial⟩, rfl, H.sel' [0] rfl rfl⟩
 ·clear hj
  have h := h'
  clear h' H
  rintro e a w ⟨rfl, ρ, σ24, rfl, rfl, H⟩
  refine q_then ?_
  refine c_seq ?_
  refine rg ?_
  have hc25 := H.cell (u := (I o3.1)) (o' := 0) 0 0 rfl rfl rfl
  refine st (v := (I o3.1)) (rv_load1 Try.underlying3 rfl rfl hc25) ?_
  refine w_end ?_
  refine q_then ?_
  refine c_blk ?_
  refine c_seq ?_
  refine rg ?_
  refine st (v := (B (o3.1 == 0))) (rv_eql (a := o3.1) (b := 0) rfl rfl) ?_
  refine st (v := (B (o3.1 == 0))) (rv_assign rfl) ?_
  refine w_end ?_
  refine q_then ?_
  refine cd_cond (o3.1 == 0) rfl (fun hb26 => ?_) (fun hb26 => ?_)
  ·replace h := bif_t hb26 h
   refine c_seq ?_
   refine rg ?_
   refine st (v := (I o3.2)) (rv_move rfl) ?_
   refine st (v := (I o3.2)) (rv_assign rfl) ?_
   refine st (v := (I 1)) (rv_assign rfl) ?_
   refine w_end ?_
   refine q_then ?_
   refine c_ret ?_
   refine q_blk_r ?_
   obtain rfl := Option.some.inj h
   exact fin_ret (v := (.tuple #[(I o3.2), (I 1)])) (results_ok Try.results139 (res_tmp (v := (I o3.2)) rfl (res_tmp (v := (I 1)) rfl res_nil)) rfl) ⟨rfl, rfl⟩ (H.sel' [] rfl rfl)
  ·replace h := bif_f hb26 h
   refine c_seq ?_
   refine rg ?_
   refine st (v := (B (o3.1 == 12))) (rv_eql (a := o3.1) (b := 12) rfl rfl) ?_
   refine st (v := (B (o3.1 == 12))) (rv_assign rfl) ?_
   refine w_end ?_
   refine q_then ?_
   refine cd_cond (o3.1 == 12) rfl (fun hb27 => ?_) (fun hb27 => ?_)
   ·replace h := bif_t hb27 h
    refine c_seq ?_
    refine rg ?_
    refine st (v := (I o3.2)) (rv_move rfl) ?_
    refine st (v := (I o3.2)) (rv_assign rfl) ?_
    refine st (v := (I 2)) (rv_assign rfl) ?_
    refine w_end ?_
    refine q_then ?_
    refine c_ret ?_
    refine q_blk_r ?_
    obtain rfl := Option.some.inj h
    exact fin_ret (v := (.tuple #[(I o3.2), (I 2)])) (results_ok Try.results139 (res_tmp (v := (I o3.2)) rfl (res_tmp (v := (I 2)) rfl res_nil)) rfl) ⟨rfl, rfl⟩ (H.sel' [] rfl rfl)
   ·replace h := bif_f hb27 h
    refine c_seq ?_
    refine rg ?_
    refine st (v := (I o3.2)) (rv_move rfl) ?_
    refine st (v := (I o3.2)) (rv_assign rfl) ?_
    refine st (v := (I 0)) (rv_assign rfl) ?_
    refine w_end ?_
    refine q_then ?_
    refine c_ret ?_
    refine q_blk_r ?_
    obtain rfl := Option.some.inj h
    exact fin_ret (v := (.tuple #[(I o3.2), (I 0)])) (results_ok Try.results139 (res_tmp (v := (I o3.2)) rfl (res_tmp (v := (I 0)) rfl res_nil)) rfl) ⟨rfl, rfl⟩ (H.sel' [] rfl rfl)

theorem c_slices_reverseRangeCmpFunc_impl_Hit__impl_compareHits {data_0 : List (Int × Int)} {a_1 : Int} {b_2 : Int} {adata_0 : Option Addr} {cdata_0 : Nat} {r : (List (Int × Int))} (h : M.slices_reverseRangeCmpFunc_impl_Hit__impl_compareHits data_0 a_1 b_2 = some r) :
    Cal2 Try.prog 140 [(Sl adata_0 data_0 cdata_0), (I a_1), (I b_2), (.func (.func 108) #[] #[])] [Ch.own 0 0 (Sl adata_0 data_0 cdata_0) data_0] (fun n0 v L => v = (.tuple #[]) ∧ L = [Ch.own 0 0 (Sl adata_0 r cdata_0) r] ∧ r.length = data_0.length) := by
 refine cal2 (n := 34) Try.func140 rfl rfl rfl rfl ?_
 intro S0 σ0 n0 hn0 H
 unfold M.slices_reverseRangeCmpFunc_impl_Hit__impl_compareHits at h
 refine c_seq ?_
 refine rg ?_
 refine st (v := (I a_1)) (rv_move rfl) ?_
 refine st (v := (I a_1)) (rv_assign rfl) ?_
 refine w_end ?_
 refine q_then ?_
 refine c_seq ?_
 refine rg ?_
 refine st (v := (I b_2)) (rv_move rfl) ?_
 refine st (v := (I (w64 (b_2 - 1)))) (rv_sub (a := b_2) (b := 1) rfl rfl) ?_
 refine st (v := (I (w64 (b_2 - 1)))) (rv_assign rfl) ?_
 refine w_end ?_
 refine q_then ?_
 obtain ⟨o1, hj, h'⟩ := bind_some h
 clear h
 refine c_cut (fun e a w => e = .normal ∧ ∃ (ρ : Nat → Value) (σ : St), a = fr 34 (updL ρ [(0, (Sl adata_0 o1 cdata_0))]) ∧ w = σ.w ∧ Hp S0 σ0 σ [Ch.own 0 0 (Sl adata_0 o1 cdata_0) o1] ∧ o1.length = data_0.length) ?_ ?_
 ·clear h'
  rename _ = some o1 => h
  refine c_blk ?_
  refine wp_loopM _ h (fun s2 a w => ∃ (ρ : Nat → Value) (σ : St), a = fr 34 (updL ρ [(0, (Sl adata_0 s2.1 cdata_0)), (8, (I s2.2.1)), (9, (I s2.2.2))]) ∧ w = σ.w ∧ Hp S0 σ0 σ [Ch.own 0 0 (Sl adata_0 s2.1 cdata_0) s2.1] ∧ s2.1.length = data_0.length) ⟨_, σ0, fr_join ⟨rfl, rfl, rfl, trivial⟩, rfl, H.sel' [0] rfl rfl, rfl⟩ ?_
  clear h H
  rintro s2 a w o ⟨ρ, σ3, rfl, rfl, H, hn4⟩ h hres
  refine c_seq ?_
  refine c_seq ?_
  refine rg ?_
  refine st (v := (I s2.2.1)) (rv_move rfl) ?_
  refine st (v := (I s2.2.2)) (rv_move rfl) ?_
  refine st (v := (B (decide (s2.2.1 < s2.2.2)))) (rv_lss (a := s2.2.1) (b := s2.2.2) rfl rfl) ?_
  refine w_end ?_
  refine q_then ?_
  refine cd_cond (decide (s2.2.1 < s2.2.2)) rfl (fun hb5 => ?_) (fun hb5 => ?_)
  ·replace h := bif_t hb5 h
   refine c_skip ?_
   refine q_then ?_
   refine c_blk ?_
   refine c_seq ?_
   obtain ⟨x6, hx7, h'⟩ := bind_some h
   clear h
   have h := h'; clear h'
   obtain ⟨b9, o10, hi8, -⟩ := (H.own 0 rfl).ix hx7
   obtain ⟨_, ⟨_, _, rfl, rfl, rfl⟩, hl11, hc12⟩ := ((H.own 0 rfl).at hx7 hi8).cells
   obtain ⟨x13, hx14, h'⟩ := bind_some h
   clear h
   have h := h'; clear h'
   obtain ⟨b16, o17, hi15, -⟩ := (H.own 0 rfl).ix hx14
   obtain ⟨_, ⟨_, _, rfl, rfl, rfl⟩, hl18, hc19⟩ := ((H.own 0 rfl).at hx14 hi15).cells
   obtain ⟨x20, hx21, h'⟩ := bind_some h
   clear h
   have h := h'; clear h'
   obtain ⟨b23, o24, hi22, -⟩ := (H.own 0 rfl).ix hx21
   have Hs := H
   refine rg2 (σ := σ3) (Nm := Unit) 14 [13] [[false], [true]] [[(0, 0)], [(0, 0)], [(0, 0), (1, 1)], [(0, 0), (1, 1)], [(0, 0)], [(0, 0)], [(0, 0)], [(0, 0)], [(0, 0)], [(0, 0)], [(0, 0)], [(0, 0)], [(0, 0)], [(0, 1)]] 1 [fun (_nm : Unit) => fun σm => Hp S0 σ0 σm [Ch.own 0 0 (Sl adata_0 s2.1 cdata_0) s2.1] ∧ Md (cov []) σ3 σm, fun (_nm : Unit) => fun σm => Hp S0 σ0 σm [Ch.own 0 0 (Sl adata_0 s2.1 cdata_0) (s2.1.set s2.2.1.toNat (x6.1, x6.2))] ∧ Md (fun i => (cov []) i ∨ (fun b => blk (Sl adata_0 s2.1 cdata_0) = some b) i) σ3 σm] [fun (_nm : Unit) => (Sl adata_0 s2.1 cdata_0), fun (_nm : Unit) => (I s2.2.1), fun (_nm : Unit) => (Sl adata_0 s2.1 cdata_0), fun (_nm : Unit) => (I s2.2.2), fun (_nm : Unit) => (Sl adata_0 s2.1 cdata_0), fun (_nm : Unit) => (I s2.2.2), fun (_nm : Unit) => (pt b9 o10), fun (_nm : Unit) => (.agg #[(I x6.1), (I x6.2)]), fun (_nm : Unit) => (Sl adata_0 s2.1 cdata_0), fun (_nm : Unit) => (I s2.2.1), fun (_nm : Unit) => (pt b16 o17), fun (_nm : Unit) => (.agg #[(I x13.1), (I x13.2)]), fun (_nm : Unit) => (pt b23 o24), fun (_nm : Unit) => undef] () (by kernel_rfl) (by kernel_rfl) ?_ ?_ ?_
   ·intro σm m0
    exact ⟨H.grow (m0.mono fun _ h => h.elim), m0⟩
   ·refine all_cons (obs_v rfl (by
      intro k; intro _nm ρ σm hJ hoff hdep
      have e0 : look 34 ρ 0 = (Sl adata_0 s2.1 cdata_0) := look_off (hoff 0 rfl) rfl
      exact dp_v (v := (Sl adata_0 s2.1 cdata_0)) (wanted_none _ rfl _) (rv_move e0) rfl hJ)) ?_
    refine all_cons (obs_v rfl (by
      intro k; intro _nm ρ σm hJ hoff hdep
      have e8 : look 34 ρ 8 = (I s2.2.1) := look_off (hoff 8 rfl) rfl
      exact dp_v (v := (I s2.2.1)) (wanted_none _ rfl _) (rv_move e8) rfl hJ)) ?_
    refine all_cons (obs_v rfl (by
      intro k; intro _nm ρ σm hJ hoff hdep
      have e0 : look 34 ρ 0 = (Sl adata_0 s2.1 cdata_0) := look_off (hoff 0 rfl) rfl
      exact dp_v (v := (Sl adata_0 s2.1 cdata_0)) (wanted_none _ rfl _) (rv_move e0) rfl hJ)) ?_
    refine all_cons (obs_v rfl (by
      intro k; intro _nm ρ σm hJ hoff hdep
      have e9 : look 34 ρ 9 = (I s2.2.2) := look_off (hoff 9 rfl) rfl
      exact dp_v (v := (I s2.2.2)) (wanted_none _ rfl _) (rv_move e9) rfl hJ)) ?_
    refine all_cons (obs_v rfl (by
      intro k; intro _nm ρ σm hJ hoff hdep
      have e0 : look 34 ρ 0 = (Sl adata_0 s2.1 cdata_0) := look_off (hoff 0 rfl) rfl
      exact dp_v (v := (Sl adata_0 s2.1 cdata_0)) (wanted_none _ rfl _) (rv_move e0) rfl hJ)) ?_
    refine all_cons (obs_v rfl (by
      intro k; intro _nm ρ σm hJ hoff hdep
      have e9 : look 34 ρ 9 = (I s2.2.2) := look_off (hoff 9 rfl) rfl
      exact dp_v (v := (I s2.2.2)) (wanted_none _ rfl _) (rv_move e9) rfl hJ)) ?_
    refine all_cons (obs_v rfl (by
      intro k; intro _nm ρ σm hJ hoff hdep
      have e20 : look 34 ρ 20 = (Sl adata_0 s2.1 cdata_0) := hdep 4 rfl rfl 20 rfl
      have e21 : look 34 ρ 21 = (I s2.2.2) := hdep 5 rfl rfl 21 rfl
      exact dp_v (v := (pt b9 o10)) (wanted_none _ rfl _) (rv_ix Try.underlying27 ti35 e20 e21 hi8) rfl hJ)) ?_
    refine all_cons (by
      refine ⟨?_, ?_⟩
      ·intro _nm ρ σm hJ hoff hdep
       have e22 : look 34 ρ 22 = (pt b9 o10) := hdep 6 rfl rfl 22 rfl
       obtain ⟨H, m⟩ := id hJ
       obtain ⟨_, ⟨_, _, rfl, rfl, rfl⟩, hl11, hc12⟩ := ((H.own 0 rfl).at hx7 hi8).cells
       exact dp_v (v := (.agg #[(I x6.1), (I x6.2)])) (wanted_none _ rfl _) (rv_load Try.underlying35 rfl ti35 e22 hl11 hc12) rfl hJ
      trivial) ?_
    refine all_cons (obs_v rfl (by
      intro k; intro _nm ρ σm hJ hoff hdep
      have e0 : look 34 ρ 0 = (Sl adata_0 s2.1 cdata_0) := look_off (hoff 0 rfl) rfl
      exact dp_v (v := (Sl adata_0 s2.1 cdata_0)) (wanted_none _ rfl _) (rv_move e0) rfl hJ)) ?_
    refine all_cons (obs_v rfl (by
      intro k; intro _nm ρ σm hJ hoff hdep
      have e8 : look 34 ρ 8 = (I s2.2.1) := look_off (hoff 8 rfl) rfl
      exact dp_v (v := (I s2.2.1)) (wanted_none _ rfl _) (rv_move e8) rfl hJ)) ?_
    refine all_cons (obs_v rfl (by
      intro k; intro _nm ρ σm hJ hoff hdep
      have e24 : look 34 ρ 24 = (Sl adata_0 s2.1 cdata_0) := hdep 8 rfl rfl 24 rfl
      have e25 : look 34 ρ 25 = (I s2.2.1) := hdep 9 rfl rfl 25 rfl
      exact dp_v (v := (pt b16 o17)) (wanted_none _ rfl _) (rv_ix Try.underlying27 ti35 e24 e25 hi15) rfl hJ)) ?_
    refine all_cons (by
      refine ⟨?_, ?_⟩
      ·intro _nm ρ σm hJ hoff hdep
       have e26 : look 34 ρ 26 = (pt b16 o17) := hdep 10 rfl rfl 26 rfl
       obtain ⟨H, m⟩ := id hJ
       obtain ⟨_, ⟨_, _, rfl, rfl, rfl⟩, hl18, hc19⟩ := ((H.own 0 rfl).at hx14 hi15).cells
       exact dp_v (v := (.agg #[(I x13.1), (I x13.2)])) (wanted_none _ rfl _) (rv_load Try.underlying35 rfl ti35 e26 hl18 hc19) rfl hJ
      trivial) ?_
    refine all_cons (obs_v rfl (by
      intro k; intro _nm ρ σm hJ hoff hdep
      have e16 : look 34 ρ 16 = (Sl adata_0 s2.1 cdata_0) := hdep 0 rfl rfl 16 rfl
      have e17 : look 34 ρ 17 = (I s2.2.1) := hdep 1 rfl rfl 17 rfl
      exact dp_v (v := (pt b23 o24)) (wanted_none _ rfl _) (rv_ix Try.underlying27 ti35 e16 e17 hi22) rfl hJ)) ?_
    refine all_cons (by
      refine ⟨?_, ?_⟩
      ·intro _nm ρ σm hJ hoff hdep
       have e28 : look 34 ρ 28 = (pt b23 o24) := hdep 12 rfl rfl 28 rfl
       have e23 : look 34 ρ 23 = (.agg #[(I x6.1), (I x6.2)]) := hdep 7 rfl rfl 23 rfl
       obtain ⟨H, m⟩ := id hJ
       refine dp_exS (wanted_none _ rfl _) rfl (ex_store_own (e' := (x6.1, x6.2)) (vs := [(I x6.1), (I x6.2)]) (k := 0) H (i := 0) rfl ti35 hx21 hi22 e28 rfl e23 rfl rfl (Nat.le_of_ble_eq_true rfl) (by simp [plain]) (by rintro _ ⟨_, _, rfl, rfl, rfl⟩; exact ⟨[(I x6.1)], [(I x6.2)], rfl, rfl, rfl⟩)) ?_
       rintro σq ⟨H2, m2⟩
       exact ⟨_, (), rfl, ⟨H2.sel' [0] rfl rfl, m.comp m2⟩, stab [0, 1, 2, 3, 4, 5, 6, 7, 8, 9, 10, 11, 12] (by kernel_rfl) ⟨rfl, rfl, rfl, rfl, rfl, rfl, rfl, rfl, rfl, rfl, rfl, rfl, rfl, trivial⟩⟩
      trivial) ?_
    exact all_nil
   ·intro _nm ρ σ25 hJ hoff hrel
    have e0 : look 34 ρ 0 = (Sl adata_0 s2.1 cdata_0) := look_off (hoff 0 rfl) rfl
    have e8 : look 34 ρ 8 = (I s2.2.1) := look_off (hoff 8 rfl) rfl
    have e9 : look 34 ρ 9 = (I s2.2.2) := look_off (hoff 9 rfl) rfl
    have e18 : look 34 ρ 18 = (Sl adata_0 s2.1 cdata_0) := hrel 2 rfl 18 rfl
    have e19 : look 34 ρ 19 = (I s2.2.2) := hrel 3 rfl 19 rfl
    have e27 : look 34 ρ 27 = (.agg #[(I x13.1), (I x13.2)]) := hrel 11 rfl 27 rfl
    obtain ⟨H, -⟩ := (show Hp S0 σ0 σ25 [Ch.own 0 0 (Sl adata_0 s2.1 cdata_0) (s2.1.set s2.2.1.toNat (x6.1, x6.2))] ∧ Md (fun i => (cov []) i ∨ (fun b => blk (Sl adata_0 s2.1 cdata_0) = some b) i) σ3 σ25 from hJ)
    clear hJ Hs
    rw [fr_lookL (L := [(0, (Sl adata_0 s2.1 cdata_0)), (8, (I s2.2.1)), (9, (I s2.2.2)), (18, (Sl adata_0 s2.1 cdata_0)), (19, (I s2.2.2)), (27, (.agg #[(I x13.1), (I x13.2)]))]) ⟨e0, e8, e9, e18, e19, e27, trivial⟩]
    clear hoff hrel e0 e8 e9 e18 e19 e27
    have hsl : (Sl adata_0 s2.1 cdata_0) = (Sl adata_0 (s2.1.set s2.2.1.toNat (x6.1, x6.2)) cdata_0) := sl_len (by simp)
    rw [hsl]; rw [hsl] at H; clear hsl
    obtain ⟨x26, hx27, h'⟩ := bind_some h
    clear h
    have h := h'; clear h'
    obtain ⟨b29, o30, hi28, -⟩ := (H.own 0 rfl).ix hx27
    refine st (v := (pt b29 o30)) (rv_ix Try.underlying27 ti35 rfl rfl hi28) ?_
    refine st_exS (ex_store_own (e' := (x13.1, x13.2)) (vs := [(I x13.1), (I x13.2)]) (k := 0) H (i := 0) rfl ti35 hx27 hi28 rfl rfl rfl rfl rfl (Nat.le_of_ble_eq_true rfl) (by simp [plain]) (by rintro _ ⟨_, _, rfl, rfl, rfl⟩; exact ⟨[(I x13.1)], [(I x13.2)], rfl, rfl, rfl⟩)) (wanted_none _ rfl _) ?_
    rintro σ31 ⟨H, -⟩
    have hsl : (Sl adata_0 (s2.1.set s2.2.1.toNat (x6.1, x6.2)) cdata_0) = (Sl adata_0 ((s2.1.set s2.2.1.toNat (x6.1, x6.2)).set s2.2.2.toNat (x13.1, x13.2)) cdata_0) := sl_len List.length_set.symm
    rw [hsl]; rw [hsl] at H; clear hsl
    refine w_end ?_
    refine q_then ?_
    refine c_seq ?_
    refine rg ?_
    refine st (v := (I s2.2.1)) (rv_move rfl) ?_
    refine st (v := (I (w64 (s2.2.1 + 1)))) (rv_add (a := s2.2.1) (b := 1) rfl rfl) ?_
    refine st (v := (I (w64 (s2.2.1 + 1)))) (rv_assign rfl) ?_
    refine w_end ?_
    refine q_then ?_
    refine rg ?_
    refine st (v := (I s2.2.2)) (rv_move rfl) ?_
    refine st (v := (I (w64 (s2.2.2 - 1)))) (rv_sub (a := s2.2.2) (b := 1) rfl rfl) ?_
    refine st (v := (I (w64 (s2.2.2 - 1)))) (rv_assign rfl) ?_
    refine w_end ?_
    refine q_blk ?_
    refine q_then ?_
    obtain rfl := Option.some.inj h
    exact ⟨_, rfl, _, σ31, fr_join ⟨rfl, rfl, rfl, trivial⟩, rfl, H.sel' [0] rfl rfl, (List.length_set.trans (List.length_set.trans hn4))⟩
  ·replace h := bif_f hb5 h
   refine c_exit ?_
   refine q_then_x ?_
   refine q_then_x ?_
   refine q_blk_hit ?_
   obtain rfl := Option.some.inj h
   obtain rfl := hres _ rfl
   exact ⟨rfl, _, σ3, fr_join ⟨rfl, trivial⟩, rfl, H.sel' [0] rfl rfl, hn4⟩
 ·clear hj
  have h := h'
  clear h' H
  rintro e a w ⟨rfl, ρ, σ32, rfl, rfl, H, hn33⟩
  obtain rfl := Option.some.inj h
  exact fin_end (v := (.tuple #[])) (results_ok Try.results140 res_nil rfl) ⟨rfl, rfl, hn33⟩ (H.sel' [0] rfl rfl)

theorem c_slices_partialInsertionSortCmpFunc_impl_Hit__impl_compareHits {data_0 : List (Int × Int)} {a_1 : Int} {b_2 : Int} {adata_0 : Option Addr} {cdata_0 : Nat} {r : Bool × (List (Int × Int))} (h : M.slices_partialInsertionSortCmpFunc_impl_Hit__impl_compareHits data_0 a_1 b_2 = some r) :
    Cal2 Try.prog 141 [(Sl adata_0 data_0 cdata_0), (I a_1), (I b_2), (.func (.func 108) #[] #[])] [Ch.own 0 0 (Sl adata_0 data_0 cdata_0) data_0] (fun n0 v L => v = (B r.1) ∧ L = [Ch.own 0 0 (Sl adata_0 r.2 cdata_0) r.2] ∧ r.2.length = data_0.length) := by
 refine cal2 (n := 141) Try.func141 rfl rfl rfl rfl ?_
 intro S0 σ0 n0 hn0 H
 unfold M.slices_partialInsertionSortCmpFunc_impl_Hit__impl_compareHits at h
 refine c_seq ?_
 refine rg ?_
 refine st (v := (B false)) (rv_assign rfl) ?_
 refine w_end ?_
 refine q_then ?_
 refine c_seq ?_
 refine rg ?_
 refine st (v := (I a_1)) (rv_move rfl) ?_
 refine st (v := (I (w64 (a_1 + 1)))) (rv_add (a := a_1) (b := 1) rfl rfl) ?_
 refine st (v := (I (w64 (a_1 + 1)))) (rv_assign rfl) ?_
 refine w_end ?_
 refine q_then ?_
 refine c_seq ?_
 refine c_seq ?_
 refine rg ?_
 refine st (v := (I 0)) (rv_assign rfl) ?_
 refine w_end ?_
 refine q_then ?_
 obtain ⟨o1, hj, h'⟩ := bind_some h
 clear h
 refine c_cut (fun e a w => (∃ t, o1 = (.inl t) ∧ e = .normal ∧ ∃ (ρ : Nat → Value) (σ : St), a = fr 141 (updL ρ [(0, (Sl adata_0 t cdata_0))]) ∧ w = σ.w ∧ Hp S0 σ0 σ [Ch.own 0 0 (Sl adata_0 t cdata_0) t] ∧ t.length = data_0.length) ∨ (∃ t, o1 = (.inr t) ∧ e = .ret ∧ ∃ (ρ : Nat → Value) (σ : St), a = fr 141 (updL ρ [(0, (Sl adata_0 t.1 cdata_0)), (8, (B t.2))]) ∧ w = σ.w ∧ Hp S0 σ0 σ [Ch.own 0 0 (Sl adata_0 t.1 cdata_0) t.1] ∧ t.1.length = data_0.length)) ?_ ?_
 ·clear h'
  rename _ = some o1 => h
  refine c_blk ?_
  refine wp_loopM _ h (fun s2 a w => ∃ (ρ : Nat → Value) (σ : St), a = fr 141 (updL ρ [(0, (Sl adata_0 s2.1 cdata_0)), (1, (I a_1)), (2, (I b_2)), (3, (.func (.func 108) #[] #[])), (9, (I s2.2.1)), (10, (I s2.2.2))]) ∧ w = σ.w ∧ Hp S0 σ0 σ [Ch.own 0 0 (Sl adata_0 s2.1 cdata_0) s2.1] ∧ s2.1.length = data_0.length) ⟨_, σ0, fr_join ⟨rfl, rfl, rfl, rfl, rfl, rfl, trivial⟩, rfl, H.sel' [0] rfl rfl, rfl⟩ ?_
  clear h H
  rintro s2 a w o ⟨ρ, σ3, rfl, rfl, H, hn4⟩ h hres
  refine c_seq ?_
  refine c_seq ?_
  refine rg ?_
  refine st (v := (I s2.2.2)) (rv_move rfl) ?_
  refine st (v := (B (decide (s2.2.2 < 5)))) (rv_lss (a := s2.2.2) (b := 5) rfl rfl) ?_
  refine w_end ?_
  refine q_then ?_
  refine cd_cond (decide (s2.2.2 < 5)) rfl (fun hb5 => ?_) (fun hb5 => ?_)
  ·replace h := bif_t hb5 h
   refine c_skip ?_
   refine q_then ?_
   refine c_seq ?_
   obtain ⟨o6, hj, h'⟩ := bind_some h
   clear h
   refine c_cut (fun e a w => (∃ t, o6 = (.inl t) ∧ e = .normal ∧ ∃ (ρ : Nat → Value) (σ : St), a = fr 141 (updL ρ [(0, (Sl adata_0 t.1 cdata_0)), (1, (I a_1)), (2, (I b_2)), (3, (.func (.func 108) #[] #[])), (9, (I t.2)), (10, (I s2.2.2))]) ∧ w = σ.w ∧ Hp S0 σ0 σ [Ch.own 0 0 (Sl adata_0 t.1 cdata_0) t.1] ∧ t.1.length = s2.1.length) ∨ (∃ t, o6 = (.inr t) ∧ e = .ret ∧ ∃ (ρ : Nat → Value) (σ : St), a = fr 141 (updL ρ [(0, (Sl adata_0 t.1 cdata_0)), (8, (B t.2))]) ∧ w = σ.w ∧ Hp S0 σ0 σ [Ch.own 0 0 (Sl adata_0 t.1 cdata_0) t.1] ∧ t.1.length = s2.1.length)) ?_ ?_
   ·clear h'
    rename _ = some o6 => h
    refine c_blk ?_
    refine c_seq ?_
    obtain ⟨o7, hj, h'⟩ := bind_some h
    clear h
    refine c_cut (fun e a w => e = .normal ∧ ∃ (ρ : Nat → Value) (σ : St), a = fr 141 (updL ρ [(0, (Sl adata_0 s2.1 cdata_0)), (1, (I a_1)), (2, (I b_2)), (3, (.func (.func 108) #[] #[])), (9, (I o7)), (10, (I s2.2.2))]) ∧ w = σ.w ∧ Hp S0 σ0 σ [Ch.own 0 0 (Sl adata_0 s2.1 cdata_0) s2.1]) ?_ ?_
    ·clear h'
     rename _ = some o7 => h
     refine c_blk ?_
     refine wp_loopM _ h (fun s8 a w => ∃ (ρ : Nat → Value) (σ : St), a = fr 141 (updL ρ [(0, (Sl adata_0 s2.1 cdata_0)), (1, (I a_1)), (2, (I b_2)), (3, (.func (.func 108) #[] #[])), (9, (I s8)), (10, (I s2.2.2))]) ∧ w = σ.w ∧ Hp S0 σ0 σ [Ch.own 0 0 (Sl adata_0 s2.1 cdata_0) s2.1]) ⟨_, σ3, fr_join ⟨rfl, rfl, rfl, rfl, rfl, rfl, trivial⟩, rfl, H.sel' [0] rfl rfl⟩ ?_
     clear h H
     rintro s8 a w o ⟨ρ, σ9, rfl, rfl, H⟩ h hres
     refine c_seq ?_
     refine c_seq ?_
     obtain ⟨o10, hj, h'⟩ := bind_some h
     clear h
     refine c_cut (fun e a w => e = .normal ∧ ∃ (ρ : Nat → Value) (σ : St), a = fr 141 (updL ρ [(0, (Sl adata_0 s2.1 cdata_0)), (1, (I a_1)), (2, (I b_2)), (3, (.func (.func 108) #[] #[])), (9, (I s8)), (10, (I s2.2.2)), (36, (B o10))]) ∧ w = σ.w ∧ Hp S0 σ0 σ [Ch.own 0 0 (Sl adata_0 s2.1 cdata_0) s2.1]) ?_ ?_
     ·clear h'
      rename _ = some o10 => h
      refine rgP (σ := σ9) 14 (by kernel_rfl) (by kernel_rfl) (by kernel_rfl) ?_
      refine sq (v := (I s8)) (rv_move rfl) ?_
      refine sq (v := (I b_2)) (rv_move rfl) ?_
      refine sq (v := (B (decide (s8 < b_2)))) (rv_lss (a := s8) (b := b_2) rfl rfl) ?_
      refine sq (v := (B (decide (s8 < b_2)))) (rv_move rfl) ?_
      rcases Bool.eq_false_or_eq_true (decide (s8 < b_2)) with hb11 | hb11
      ·replace h := bif_t hb11 h
       refine sq_g (v := (.func (.func 108) #[] #[])) (congrArg some hb11) (rv_move rfl) ?_
       refine sq_g (v := (Sl adata_0 s2.1 cdata_0)) (congrArg some hb11) (rv_move rfl) ?_
       refine sq_g (v := (I s8)) (congrArg some hb11) (rv_move rfl) ?_
       obtain ⟨x12, hx13, h'⟩ := bind_some h
       clear h
       have h := h'; clear h'
       obtain ⟨b15, o16, hi14, -⟩ := (H.own 0 rfl).ix hx13
       refine sq_g (v := (pt b15 o16)) (congrArg some hb11) (rv_ix Try.underlying27 ti35 rfl rfl hi14) ?_
       obtain ⟨_, ⟨_, _, rfl, rfl, rfl⟩, hl17, hc18⟩ := ((H.own 0 rfl).at hx13 hi14).cells
       refine sq_g (v := (.agg #[(I x12.1), (I x12.2)])) (congrArg some hb11) (rv_load Try.underlying35 rfl ti35 rfl hl17 hc18) ?_
       refine sq_g (v := (Sl adata_0 s2.1 cdata_0)) (congrArg some hb11) (rv_move rfl) ?_
       refine sq_g (v := (I s8)) (congrArg some hb11) (rv_move rfl) ?_
       refine sq_g (v := (I (w64 (s8 - 1)))) (congrArg some hb11) (rv_sub (a := s8) (b := 1) rfl rfl) ?_
       obtain ⟨x19, hx20, h'⟩ := bind_some h
       clear h
       have h := h'; clear h'
       obtain ⟨b22, o23, hi21, -⟩ := (H.own 0 rfl).ix hx20
       refine sq_g (v := (pt b22 o23)) (congrArg some hb11) (rv_ix Try.underlying27 ti35 rfl rfl hi21) ?_
       obtain ⟨_, ⟨_, _, rfl, rfl, rfl⟩, hl24, hc25⟩ := ((H.own 0 rfl).at hx20 hi21).cells
       refine sq_g (v := (.agg #[(I x19.1), (I x19.2)])) (congrArg some hb11) (rv_load Try.underlying35 rfl ti35 rfl hl24 hc25) ?_
       refine sq_end ?_
       intro σ26 hm27
       replace H := H.grow (hm27.mono fun _ h => h); clear hm27
       obtain ⟨r28, hx29, h'⟩ := bind_some h
       clear h
       have h := h'; clear h'
       have hc30 := c_impl_compareHits hx29
       refine st_call (cx_call hc30 (ent_v (cap := []) hc30.fn rfl rfl) hn0 (show Hp S0 σ0 _ ([] ++ [Ch.own 0 0 (Sl adata_0 s2.1 cdata_0) s2.1]) from (H.sel' [0] rfl rfl))) (wanted_yes rfl (by exact (congrArg some hb11))) ?_
       rintro _ σ31 ⟨_, ⟨rfl, rfl⟩, H, -⟩
       replace H : Hp S0 σ0 σ31 [Ch.own 0 0 (Sl adata_0 s2.1 cdata_0) s2.1] := H
       refine st_g (v := (B (decide (r28 < 0)))) (congrArg some hb11) (rv_lss (a := r28) (b := 0) rfl rfl) ?_
       refine st_g (v := (B (!(decide (r28 < 0))))) (congrArg some hb11) (rv_not rfl) ?_
       refine st (v := (B (!(decide (r28 < 0))))) (rv_pick_t (congrArg B hb11) rfl) ?_
       refine w_end ?_
       obtain rfl := Option.some.inj h
       exact ⟨rfl, _, σ31, fr_join ⟨rfl, rfl, rfl, rfl, rfl, rfl, rfl, trivial⟩, rfl, H.sel' [0] rfl rfl⟩
      ·replace h := bif_f hb11 h
       refine sq_skip (congrArg some hb11) ?_
       refine sq_skip (congrArg some hb11) ?_
       refine sq_skip (congrArg some hb11) ?_
       refine sq_skip (congrArg some hb11) ?_
       refine sq_skip (congrArg some hb11) ?_
       refine sq_skip (congrArg some hb11) ?_
       refine sq_skip (congrArg some hb11) ?_
       refine sq_skip (congrArg some hb11) ?_
       refine sq_skip (congrArg some hb11) ?_
       refine sq_skip (congrArg some hb11) ?_
       refine sq_end ?_
       intro σ32 hm33
       replace H := H.grow (hm33.mono fun _ h => h); clear hm33
       refine st_skip (congrArg some hb11) ?_
       refine st_skip (congrArg some hb11) ?_
       refine st_skip (congrArg some hb11) ?_
       refine st (v := (B false)) (rv_pick_f (congrArg B hb11) rfl) ?_
       refine w_end ?_
       obtain rfl := Option.some.inj h
       exact ⟨rfl, _, σ32, fr_join ⟨rfl, rfl, rfl, rfl, rfl, rfl, rfl, trivial⟩, rfl, H.sel' [0] rfl rfl⟩
     ·clear hj
      have h := h'
      clear h' H
      rintro e a w ⟨rfl, ρ, σ34, rfl, rfl, H⟩
      refine q_then ?_
      refine cd_cond o10 rfl (fun hb35 => ?_) (fun hb35 => ?_)
      ·replace h := bif_t hb35 h
       refine c_skip ?_
       refine q_then ?_
       refine c_blk ?_
       refine rg ?_
       refine st (v := (I s8)) (rv_move rfl) ?_
       refine st (v := (I (w64 (s8 + 1)))) (rv_add (a := s8) (b := 1) rfl rfl) ?_
       refine st (v := (I (w64 (s8 + 1)))) (rv_assign rfl) ?_
       refine w_end ?_
       refine q_blk ?_
       refine q_then ?_
       obtain rfl := Option.some.inj h
       exact ⟨_, rfl, _, σ34, fr_join ⟨rfl, rfl, rfl, rfl, rfl, rfl, trivial⟩, rfl, H.sel' [0] rfl rfl⟩
      ·replace h := bif_f hb35 h
       refine c_exit ?_
       refine q_then_x ?_
       refine q_then_x ?_
       refine q_blk_hit ?_
       obtain rfl := Option.some.inj h
       obtain rfl := hres _ rfl
       exact ⟨rfl, _, σ34, fr_join ⟨rfl, rfl, rfl, rfl, rfl, rfl, trivial⟩, rfl, H.sel' [0] rfl rfl⟩
    ·clear hj
     have h := h'
     clear h' H
     rintro e a w ⟨rfl, ρ, σ36, rfl, rfl, H⟩
     refine q_then ?_
     refine c_seq ?_
     refine c_seq ?_
     refine rg ?_
     refine st (v := (I o7)) (rv_move rfl) ?_
     refine st (v := (I b_2)) (rv_move rfl) ?_
     refine st (v := (B (o7 == b_2))) (rv_eql (a := o7) (b := b_2) rfl rfl) ?_
     refine w_end ?_
     refine q_then ?_
     refine cd_cond (o7 == b_2) rfl (fun hb37 => ?_) (fun hb37 => ?_)
     ·replace h := bif_t hb37 h
      refine c_seq ?_
      refine rg ?_
      refine st (v := (B true)) (rv_assign rfl) ?_
      refine w_end ?_
      refine q_then ?_
      refine c_ret ?_
      refine q_then_r ?_
      refine q_blk_r ?_
      obtain rfl := Option.some.inj h
      exact .inr (⟨_, rfl, rfl, _, σ36, fr_join ⟨rfl, rfl, trivial⟩, rfl, H.sel' [0] rfl rfl, rfl⟩)
     ·replace h := bif_f hb37 h
      refine c_skip ?_
      refine q_then ?_
      refine c_seq ?_
      refine c_seq ?_
      refine rg ?_
      refine st (v := (I b_2)) (rv_move rfl) ?_
      refine st (v := (I a_1)) (rv_move rfl) ?_
      refine st (v := (I (w64 (b_2 - a_1)))) (rv_sub (a := b_2) (b := a_1) rfl rfl) ?_
      refine st (v := (B (decide ((w64 (b_2 - a_1)) < 50)))) (rv_lss (a := (w64 (b_2 - a_1))) (b := 50) rfl rfl) ?_
      refine w_end ?_
      refine q_then ?_
      refine cd_cond (decide ((w64 (b_2 - a_1)) < 50)) rfl (fun hb38 => ?_) (fun hb38 => ?_)
      ·replace h := bif_t hb38 h
       refine c_seq ?_
       refine rg ?_
       refine st (v := (B false)) (rv_assign rfl) ?_
       refine w_end ?_
       refine q_then ?_
       refine c_ret ?_
       refine q_then_r ?_
       refine q_blk_r ?_
       obtain rfl := Option.some.inj h
       exact .inr (⟨_, rfl, rfl, _, σ36, fr_join ⟨rfl, rfl, trivial⟩, rfl, H.sel' [0] rfl rfl, rfl⟩)
      ·replace h := bif_f hb38 h
       refine c_skip ?_
       refine q_then ?_
       refine c_seq ?_
       obtain ⟨x39, hx40, h'⟩ := bind_some h
       clear h
       have h := h'; clear h'
       obtain ⟨b42, o43, hi41, -⟩ := (H.own 0 rfl).ix hx40
       obtain ⟨_, ⟨_, _, rfl, rfl, rfl⟩, hl44, hc45⟩ := ((H.own 0 rfl).at hx40 hi41).cells
       obtain ⟨x46, hx47, h'⟩ := bind_some h
       clear h
       have h := h'; clear h'
       obtain ⟨b49, o50, hi48, -⟩ := (H.own 0 rfl).ix hx47
       obtain ⟨_, ⟨_, _, rfl, rfl, rfl⟩, hl51, hc52⟩ := ((H.own 0 rfl).at hx47 hi48).cells
       obtain ⟨x53, hx54, h'⟩ := bind_some h
       clear h
       have h := h'; clear h'
       obtain ⟨b56, o57, hi55, -⟩ := (H.own 0 rfl).ix hx54
       have Hs := H
       refine rg2 (σ := σ36) (Nm := Unit) 16 [15] [[false], [true]] [[(0, 0)], [(0, 0)], [(0, 0), (1, 1)], [(0, 0), (1, 1)], [(0, 0), (1, 1)], [(0, 0)], [(0, 0)], [(0, 0)], [(0, 0)], [(0, 0)], [(0, 0)], [(0, 0)], [(0, 0)], [(0, 0)], [(0, 0)], [(0, 1)]] 1 [fun (_nm : Unit) => fun σm => Hp S0 σ0 σm [Ch.own 0 0 (Sl adata_0 s2.1 cdata_0) s2.1] ∧ Md (cov []) σ36 σm, fun (_nm : Unit) => fun σm => Hp S0 σ0 σm [Ch.own 0 0 (Sl adata_0 s2.1 cdata_0) (s2.1.set o7.toNat (x39.1, x39.2))] ∧ Md (fun i => (cov []) i ∨ (fun b => blk (Sl adata_0 s2.1 cdata_0) = some b) i) σ36 σm] [fun (_nm : Unit) => (Sl adata_0 s2.1 cdata_0), fun (_nm : Unit) => (I o7), fun (_nm : Unit) => (Sl adata_0 s2.1 cdata_0), fun (_nm : Unit) => (I o7), fun (_nm : Unit) => (I (w64 (o7 - 1))), fun (_nm : Unit) => (Sl adata_0 s2.1 cdata_0), fun (_nm : Unit) => (I o7), fun (_nm : Unit) => (I (w64 (o7 - 1))), fun (_nm : Unit) => (pt b42 o43), fun (_nm : Unit) => (.agg #[(I x39.1), (I x39.2)]), fun (_nm : Unit) => (Sl adata_0 s2.1 cdata_0), fun (_nm : Unit) => (I o7), fun (_nm : Unit) => (pt b49 o50), fun (_nm : Unit) => (.agg #[(I x46.1), (I x46.2)]), fun (_nm : Unit) => (pt b56 o57), fun (_nm : Unit) => undef] () (by kernel_rfl) (by kernel_rfl) ?_ ?_ ?_
       ·intro σm m0
        exact ⟨H.grow (m0.mono fun _ h => h.elim), m0⟩
       ·refine all_cons (obs_v rfl (by
          intro k; intro _nm ρ σm hJ hoff hdep
          have e0 : look 141 ρ 0 = (Sl adata_0 s2.1 cdata_0) := look_off (hoff 0 rfl) rfl
          exact dp_v (v := (Sl adata_0 s2.1 cdata_0)) (wanted_none _ rfl _) (rv_move e0) rfl hJ)) ?_
        refine all_cons (obs_v rfl (by
          intro k; intro _nm ρ σm hJ hoff hdep
          have e9 : look 141 ρ 9 = (I o7) := look_off (hoff 9 rfl) rfl
          exact dp_v (v := (I o7)) (wanted_none _ rfl _) (rv_move e9) rfl hJ)) ?_
        refine all_cons (obs_v rfl (by
          intro k; intro _nm ρ σm hJ hoff hdep
          have e0 : look 141 ρ 0 = (Sl adata_0 s2.1 cdata_0) := look_off (hoff 0 rfl) rfl
          exact dp_v (v := (Sl adata_0 s2.1 cdata_0)) (wanted_none _ rfl _) (rv_move e0) rfl hJ)) ?_
        refine all_cons (obs_v rfl (by
          intro k; intro _nm ρ σm hJ hoff hdep
          have e9 : look 141 ρ 9 = (I o7) := look_off (hoff 9 rfl) rfl
          exact dp_v (v := (I o7)) (wanted_none _ rfl _) (rv_move e9) rfl hJ)) ?_
        refine all_cons (obs_v rfl (by
          intro k; intro _nm ρ σm hJ hoff hdep
          have e49 : look 141 ρ 49 = (I o7) := hdep 3 rfl rfl 49 rfl
          exact dp_v (v := (I (w64 (o7 - 1)))) (wanted_none _ rfl _) (rv_sub (a := o7) (b := 1) e49 rfl) rfl hJ)) ?_
        refine all_cons (obs_v rfl (by
          intro k; intro _nm ρ σm hJ hoff hdep
          have e0 : look 141 ρ 0 = (Sl adata_0 s2.1 cdata_0) := look_off (hoff 0 rfl) rfl
          exact dp_v (v := (Sl adata_0 s2.1 cdata_0)) (wanted_none _ rfl _) (rv_move e0) rfl hJ)) ?_
        refine all_cons (obs_v rfl (by
          intro k; intro _nm ρ σm hJ hoff hdep
          have e9 : look 141 ρ 9 = (I o7) := look_off (hoff 9 rfl) rfl
          exact dp_v (v := (I o7)) (wanted_none _ rfl _) (rv_move e9) rfl hJ)) ?_
        refine all_cons (obs_v rfl (by
          intro k; intro _nm ρ σm hJ hoff hdep
          have e52 : look 141 ρ 52 = (I o7) := hdep 6 rfl rfl 52 rfl
          exact dp_v (v := (I (w64 (o7 - 1)))) (wanted_none _ rfl _) (rv_sub (a := o7) (b := 1) e52 rfl) rfl hJ)) ?_
        refine all_cons (obs_v rfl (by
          intro k; intro _nm ρ σm hJ hoff hdep
          have e51 : look 141 ρ 51 = (Sl adata_0 s2.1 cdata_0) := hdep 5 rfl rfl 51 rfl
          have e53 : look 141 ρ 53 = (I (w64 (o7 - 1))) := hdep 7 rfl rfl 53 rfl
          exact dp_v (v := (pt b42 o43)) (wanted_none _ rfl _) (rv_ix Try.underlying27 ti35 e51 e53 hi41) rfl hJ)) ?_
        refine all_cons (by
          refine ⟨?_, ?_⟩
          ·intro _nm ρ σm hJ hoff hdep
           have e54 : look 141 ρ 54 = (pt b42 o43) := hdep 8 rfl rfl 54 rfl
           obtain ⟨H, m⟩ := id hJ
           obtain ⟨_, ⟨_, _, rfl, rfl, rfl⟩, hl44, hc45⟩ := ((H.own 0 rfl).at hx40 hi41).cells
           exact dp_v (v := (.agg #[(I x39.1), (I x39.2)])) (wanted_none _ rfl _) (rv_load Try.underlying35 rfl ti35 e54 hl44 hc45) rfl hJ
          trivial) ?_
        refine all_cons (obs_v rfl (by
          intro k; intro _nm ρ σm hJ hoff hdep
          have e0 : look 141 ρ 0 = (Sl adata_0 s2.1 cdata_0) := look_off (hoff 0 rfl) rfl
          exact dp_v (v := (Sl adata_0 s2.1 cdata_0)) (wanted_none _ rfl _) (rv_move e0) rfl hJ)) ?_
        refine all_cons (obs_v rfl (by
          intro k; intro _nm ρ σm hJ hoff hdep
          have e9 : look 141 ρ 9 = (I o7) := look_off (hoff 9 rfl) rfl
          exact dp_v (v := (I o7)) (wanted_none _ rfl _) (rv_move e9) rfl hJ)) ?_
        refine all_cons (obs_v rfl (by
          intro k; intro _nm ρ σm hJ hoff hdep
          have e56 : look 141 ρ 56 = (Sl adata_0 s2.1 cdata_0) := hdep 10 rfl rfl 56 rfl
          have e57 : look 141 ρ 57 = (I o7) := hdep 11 rfl rfl 57 rfl
          exact dp_v (v := (pt b49 o50)) (wanted_none _ rfl _) (rv_ix Try.underlying27 ti35 e56 e57 hi48) rfl hJ)) ?_
        refine all_cons (by
          refine ⟨?_, ?_⟩
          ·intro _nm ρ σm hJ hoff hdep
           have e58 : look 141 ρ 58 = (pt b49 o50) := hdep 12 rfl rfl 58 rfl
           obtain ⟨H, m⟩ := id hJ
           obtain ⟨_, ⟨_, _, rfl, rfl, rfl⟩, hl51, hc52⟩ := ((H.own 0 rfl).at hx47 hi48).cells
           exact dp_v (v := (.agg #[(I x46.1), (I x46.2)])) (wanted_none _ rfl _) (rv_load Try.underlying35 rfl ti35 e58 hl51 hc52) rfl hJ
          trivial) ?_
        refine all_cons (obs_v rfl (by
          intro k; intro _nm ρ σm hJ hoff hdep
          have e46 : look 141 ρ 46 = (Sl adata_0 s2.1 cdata_0) := hdep 0 rfl rfl 46 rfl
          have e47 : look 141 ρ 47 = (I o7) := hdep 1 rfl rfl 47 rfl
          exact dp_v (v := (pt b56 o57)) (wanted_none _ rfl _) (rv_ix Try.underlying27 ti35 e46 e47 hi55) rfl hJ)) ?_
        refine all_cons (by
          refine ⟨?_, ?_⟩
          ·intro _nm ρ σm hJ hoff hdep
           have e60 : look 141 ρ 60 = (pt b56 o57) := hdep 14 rfl rfl 60 rfl
           have e55 : look 141 ρ 55 = (.agg #[(I x39.1), (I x39.2)]) := hdep 9 rfl rfl 55 rfl
           obtain ⟨H, m⟩ := id hJ
           refine dp_exS (wanted_none _ rfl _) rfl (ex_store_own (e' := (x39.1, x39.2)) (vs := [(I x39.1), (I x39.2)]) (k := 0) H (i := 0) rfl ti35 hx54 hi55 e60 rfl e55 rfl rfl (Nat.le_of_ble_eq_true rfl) (by simp [plain]) (by rintro _ ⟨_, _, rfl, rfl, rfl⟩; exact ⟨[(I x39.1)], [(I x39.2)], rfl, rfl, rfl⟩)) ?_
           rintro σq ⟨H2, m2⟩
           exact ⟨_, (), rfl, ⟨H2.sel' [0] rfl rfl, m.comp m2⟩, stab [0, 1, 2, 3, 4, 5, 6, 7, 8, 9, 10, 11, 12, 13, 14] (by kernel_rfl) ⟨rfl, rfl, rfl, rfl, rfl, rfl, rfl, rfl, rfl, rfl, rfl, rfl, rfl, rfl, rfl, trivial⟩⟩
          trivial) ?_
        exact all_nil
       ·intro _nm ρ σ58 hJ hoff hrel
        have e0 : look 141 ρ 0 = (Sl adata_0 s2.1 cdata_0) := look_off (hoff 0 rfl) rfl
        have e1 : look 141 ρ 1 = (I a_1) := look_off (hoff 1 rfl) rfl
        have e2 : look 141 ρ 2 = (I b_2) := look_off (hoff 2 rfl) rfl
        have e3 : look 141 ρ 3 = (.func (.func 108) #[] #[]) := look_off (hoff 3 rfl) rfl
        have e9 : look 141 ρ 9 = (I o7) := look_off (hoff 9 rfl) rfl
        have e10 : look 141 ρ 10 = (I s2.2.2) := look_off (hoff 10 rfl) rfl
        have e48 : look 141 ρ 48 = (Sl adata_0 s2.1 cdata_0) := hrel 2 rfl 48 rfl
        have e50 : look 141 ρ 50 = (I (w64 (o7 - 1))) := hrel 4 rfl 50 rfl
        have e59 : look 141 ρ 59 = (.agg #[(I x46.1), (I x46.2)]) := hrel 13 rfl 59 rfl
        obtain ⟨H, -⟩ := (show Hp S0 σ0 σ58 [Ch.own 0 0 (Sl adata_0 s2.1 cdata_0) (s2.1.set o7.toNat (x39.1, x39.2))] ∧ Md (fun i => (cov []) i ∨ (fun b => blk (Sl adata_0 s2.1 cdata_0) = some b) i) σ36 σ58 from hJ)
        clear hJ Hs
        rw [fr_lookL (L := [(0, (Sl adata_0 s2.1 cdata_0)), (1, (I a_1)), (2, (I b_2)), (3, (.func (.func 108) #[] #[])), (9, (I o7)), (10, (I s2.2.2)), (48, (Sl adata_0 s2.1 cdata_0)), (50, (I (w64 (o7 - 1)))), (59, (.agg #[(I x46.1), (I x46.2)]))]) ⟨e0, e1, e2, e3, e9, e10, e48, e50, e59, trivial⟩]
        clear hoff hrel e0 e1 e2 e3 e9 e10 e48 e50 e59
        have hsl : (Sl adata_0 s2.1 cdata_0) = (Sl adata_0 (s2.1.set o7.toNat (x39.1, x39.2)) cdata_0) := sl_len (by simp)
        rw [hsl]; rw [hsl] at H; clear hsl
        obtain ⟨x59, hx60, h'⟩ := bind_some h
        clear h
        have h := h'; clear h'
        obtain ⟨b62, o63, hi61, -⟩ := (H.own 0 rfl).ix hx60
        refine st (v := (pt b62 o63)) (rv_ix Try.underlying27 ti35 rfl rfl hi61) ?_
        refine st_exS (ex_store_own (e' := (x46.1, x46.2)) (vs := [(I x46.1), (I x46.2)]) (k := 0) H (i := 0) rfl ti35 hx60 hi61 rfl rfl rfl rfl rfl (Nat.le_of_ble_eq_true rfl) (by simp [plain]) (by rintro _ ⟨_, _, rfl, rfl, rfl⟩; exact ⟨[(I x46.1)], [(I x46.2)], rfl, rfl, rfl⟩)) (wanted_none _ rfl _) ?_
        rintro σ64 ⟨H, -⟩
        have hsl : (Sl adata_0 (s2.1.set o7.toNat (x39.1, x39.2)) cdata_0) = (Sl adata_0 ((s2.1.set o7.toNat (x39.1, x39.2)).set (w64 (o7 - 1)).toNat (x46.1, x46.2)) cdata_0) := sl_len List.length_set.symm
        rw [hsl]; rw [hsl] at H; clear hsl
        refine w_end ?_
        refine q_then ?_
        refine c_seq ?_
        refine c_seq ?_
        refine rg ?_
        refine st (v := (I o7)) (rv_move rfl) ?_
        refine st (v := (I a_1)) (rv_move rfl) ?_
        refine st (v := (I (w64 (o7 - a_1)))) (rv_sub (a := o7) (b := a_1) rfl rfl) ?_
        refine st (v := (B (decide (2 ≤ (w64 (o7 - a_1)))))) (rv_geq (a := (w64 (o7 - a_1))) (b := 2) rfl rfl) ?_
        refine w_end ?_
        refine q_then ?_
        obtain ⟨o65, hj, h'⟩ := bind_some h
        clear h
        refine c_cut (fun e a w => e = .normal ∧ ∃ (ρ : Nat → Value) (σ : St), a = fr 141 (updL ρ [(0, (Sl adata_0 o65 cdata_0)), (1, (I a_1)), (2, (I b_2)), (3, (.func (.func 108) #[] #[])), (9, (I o7)), (10, (I s2.2.2))]) ∧ w = σ.w ∧ Hp S0 σ0 σ [Ch.own 0 0 (Sl adata_0 o65 cdata_0) o65] ∧ o65.length = ((s2.1.set o7.toNat (x39.1, x39.2)).set (w64 (o7 - 1)).toNat (x46.1, x46.2)).length) ?_ ?_
        ·clear h'
         rename _ = some o65 => h
         refine cd_cond (decide (2 ≤ (w64 (o7 - a_1)))) rfl (fun hb66 => ?_) (fun hb66 => ?_)
         ·replace h := bif_t hb66 h
          refine c_seq ?_
          refine rg ?_
          refine st (v := (I o7)) (rv_move rfl) ?_
          refine st (v := (I (w64 (o7 - 1)))) (rv_sub (a := o7) (b := 1) rfl rfl) ?_
          refine st (v := (I (w64 (o7 - 1)))) (rv_assign rfl) ?_
          refine w_end ?_
          refine q_then ?_
          obtain ⟨o67, hj, h'⟩ := bind_some h
          clear h
          refine c_cut (fun e a w => e = .normal ∧ ∃ (ρ : Nat → Value) (σ : St), a = fr 141 (updL ρ [(0, (Sl adata_0 o67 cdata_0)), (1, (I a_1)), (2, (I b_2)), (3, (.func (.func 108) #[] #[])), (9, (I o7)), (10, (I s2.2.2))]) ∧ w = σ.w ∧ Hp S0 σ0 σ [Ch.own 0 0 (Sl adata_0 o67 cdata_0) o67] ∧ o67.length = ((s2.1.set o7.toNat (x39.1, x39.2)).set (w64 (o7 - 1)).toNat (x46.1, x46.2)).length) ?_ ?_
          ·clear h'
           rename _ = some o67 => h
           refine c_blk ?_
           refine wp_loopM _ h (fun s68 a w => ∃ (ρ : Nat → Value) (σ : St), a = fr 141 (updL ρ [(0, (Sl adata_0 s68.1 cdata_0)), (1, (I a_1)), (2, (I b_2)), (3, (.func (.func 108) #[] #[])), (9, (I o7)), (10, (I s2.2.2)), (11, (I s68.2))]) ∧ w = σ.w ∧ Hp S0 σ0 σ [Ch.own 0 0 (Sl adata_0 s68.1 cdata_0) s68.1] ∧ s68.1.length = ((s2.1.set o7.toNat (x39.1, x39.2)).set (w64 (o7 - 1)).toNat (x46.1, x46.2)).length) ⟨_, σ64, fr_join ⟨rfl, rfl, rfl, rfl, rfl, rfl, rfl, trivial⟩, rfl, H.sel' [0] rfl rfl, rfl⟩ ?_
           clear h H
           rintro s68 a w o ⟨ρ, σ69, rfl, rfl, H, hn70⟩ h hres
           refine c_seq ?_
           refine c_seq ?_
           refine rg ?_
           refine st (v := (I s68.2)) (rv_move rfl) ?_
           refine st (v := (B (decide (1 ≤ s68.2)))) (rv_geq (a := s68.2) (b := 1) rfl rfl) ?_
           refine w_end ?_
           refine q_then ?_
           refine cd_cond (decide (1 ≤ s68.2)) rfl (fun hb71 => ?_) (fun hb71 => ?_)
           ·replace h := bif_t hb71 h
            refine c_skip ?_
            refine q_then ?_
            refine c_seq ?_
            refine c_blk ?_
            refine c_seq ?_
            refine c_seq ?_
            refine rgP (σ := σ69) 10 (by kernel_rfl) (by kernel_rfl) (by kernel_rfl) ?_
            refine sq (v := (.func (.func 108) #[] #[])) (rv_move rfl) ?_
            refine sq (v := (Sl adata_0 s68.1 cdata_0)) (rv_move rfl) ?_
            refine sq (v := (I s68.2)) (rv_move rfl) ?_
            obtain ⟨x72, hx73, h'⟩ := bind_some h
            clear h
            have h := h'; clear h'
            obtain ⟨b75, o76, hi74, -⟩ := (H.own 0 rfl).ix hx73
            refine sq (v := (pt b75 o76)) (rv_ix Try.underlying27 ti35 rfl rfl hi74) ?_
            obtain ⟨_, ⟨_, _, rfl, rfl, rfl⟩, hl77, hc78⟩ := ((H.own 0 rfl).at hx73 hi74).cells
            refine sq (v := (.agg #[(I x72.1), (I x72.2)])) (rv_load Try.underlying35 rfl ti35 rfl hl77 hc78) ?_
            refine sq (v := (Sl adata_0 s68.1 cdata_0)) (rv_move rfl) ?_
            refine sq (v := (I s68.2)) (rv_move rfl) ?_
            refine sq (v := (I (w64 (s68.2 - 1)))) (rv_sub (a := s68.2) (b := 1) rfl rfl) ?_
            obtain ⟨x79, hx80, h'⟩ := bind_some h
            clear h
            have h := h'; clear h'
            obtain ⟨b82, o83, hi81, -⟩ := (H.own 0 rfl).ix hx80
            refine sq (v := (pt b82 o83)) (rv_ix Try.underlying27 ti35 rfl rfl hi81) ?_
            obtain ⟨_, ⟨_, _, rfl, rfl, rfl⟩, hl84, hc85⟩ := ((H.own 0 rfl).at hx80 hi81).cells
            refine sq (v := (.agg #[(I x79.1), (I x79.2)])) (rv_load Try.underlying35 rfl ti35 rfl hl84 hc85) ?_
            refine sq_end ?_
            intro σ86 hm87
            replace H := H.grow (hm87.mono fun _ h => h); clear hm87
            obtain ⟨r88, hx89, h'⟩ := bind_some h
            clear h
            have h := h'; clear h'
            have hc90 := c_impl_compareHits hx89
            refine st_call (cx_call hc90 (ent_v (cap := []) hc90.fn rfl rfl) hn0 (show Hp S0 σ0 _ ([] ++ [Ch.own 0 0 (Sl adata_0 s68.1 cdata_0) s68.1]) from (H.sel' [0] rfl rfl))) (wanted_none _ rfl _) ?_
            rintro _ σ91 ⟨_, ⟨rfl, rfl⟩, H, -⟩
            replace H : Hp S0 σ0 σ91 [Ch.own 0 0 (Sl adata_0 s68.1 cdata_0) s68.1] := H
            refine st (v := (B (decide (r88 < 0)))) (rv_lss (a := r88) (b := 0) rfl rfl) ?_
            refine st (v := (B (!(decide (r88 < 0))))) (rv_not rfl) ?_
            refine w_end ?_
            refine q_then ?_
            refine cd_cond (!(decide (r88 < 0))) rfl (fun hb92 => ?_) (fun hb92 => ?_)
            ·replace h := bif_t hb92 h
             refine c_exit ?_
             refine q_then_x ?_
             refine q_blk_x (by decide) ?_
             refine q_then_x ?_
             refine q_then_x ?_
             refine q_blk_hit ?_
             obtain rfl := Option.some.inj h
             obtain rfl := hres _ rfl
             exact ⟨rfl, _, σ91, fr_join ⟨rfl, rfl, rfl, rfl, rfl, rfl, trivial⟩, rfl, H.sel' [0] rfl rfl, ((hn70.trans (List.length_set.trans (List.length_set.trans hn4))).trans (List.length_set.trans (List.length_set.trans hn4)).symm)⟩
            ·replace h := bif_f hb92 h
             refine c_skip ?_
             refine q_then ?_
             obtain ⟨x93, hx94, h'⟩ := bind_some h
             clear h
             have h := h'; clear h'
             obtain ⟨b96, o97, hi95, -⟩ := (H.own 0 rfl).ix hx94
             obtain ⟨_, ⟨_, _, rfl, rfl, rfl⟩, hl98, hc99⟩ := ((H.own 0 rfl).at hx94 hi95).cells
             obtain ⟨x100, hx101, h'⟩ := bind_some h
             clear h
             have h := h'; clear h'
             obtain ⟨b103, o104, hi102, -⟩ := (H.own 0 rfl).ix hx101
             obtain ⟨_, ⟨_, _, rfl, rfl, rfl⟩, hl105, hc106⟩ := ((H.own 0 rfl).at hx101 hi102).cells
             obtain ⟨x107, hx108, h'⟩ := bind_some h
             clear h
             have h := h'; clear h'
             obtain ⟨b110, o111, hi109, -⟩ := (H.own 0 rfl).ix hx108
             have Hs := H
             refine rg2 (σ := σ91) (Nm := Unit) 16 [15] [[false], [true]] [[(0, 0)], [(0, 0)], [(0, 0), (1, 1)], [(0, 0), (1, 1)], [(0, 0), (1, 1)], [(0, 0)], [(0, 0)], [(0, 0)], [(0, 0)], [(0, 0)], [(0, 0)], [(0, 0)], [(0, 0)], [(0, 0)], [(0, 0)], [(0, 1)]] 1 [fun (_nm : Unit) => fun σm => Hp S0 σ0 σm [Ch.own 0 0 (Sl adata_0 s68.1 cdata_0) s68.1] ∧ Md (cov []) σ91 σm, fun (_nm : Unit) => fun σm => Hp S0 σ0 σm [Ch.own 0 0 (Sl adata_0 s68.1 cdata_0) (s68.1.set s68.2.toNat (x93.1, x93.2))] ∧ Md (fun i => (cov []) i ∨ (fun b => blk (Sl adata_0 s68.1 cdata_0) = some b) i) σ91 σm] [fun (_nm : Unit) => (Sl adata_0 s68.1 cdata_0), fun (_nm : Unit) => (I s68.2), fun (_nm : Unit) => (Sl adata_0 s68.1 cdata_0), fun (_nm : Unit) => (I s68.2), fun (_nm : Unit) => (I (w64 (s68.2 - 1))), fun (_nm : Unit) => (Sl adata_0 s68.1 cdata_0), fun (_nm : Unit) => (I s68.2), fun (_nm : Unit) => (I (w64 (s68.2 - 1))), fun (_nm : Unit) => (pt b96 o97), fun (_nm : Unit) => (.agg #[(I x93.1), (I x93.2)]), fun (_nm : Unit) => (Sl adata_0 s68.1 cdata_0), fun (_nm : Unit) => (I s68.2), fun (_nm : Unit) => (pt b103 o104), fun (_nm : Unit) => (.agg #[(I x100.1), (I x100.2)]), fun (_nm : Unit) => (pt b110 o111), fun (_nm : Unit) => undef] () (by kernel_rfl) (by kernel_rfl) ?_ ?_ ?_
             ·intro σm m0
              exact ⟨H.grow (m0.mono fun _ h => h.elim), m0⟩
             ·refine all_cons (obs_v rfl (by
                intro k; intro _nm ρ σm hJ hoff hdep
                have e0 : look 141 ρ 0 = (Sl adata_0 s68.1 cdata_0) := look_off (hoff 0 rfl) rfl
                exact dp_v (v := (Sl adata_0 s68.1 cdata_0)) (wanted_none _ rfl _) (rv_move e0) rfl hJ)) ?_
              refine all_cons (obs_v rfl (by
                intro k; intro _nm ρ σm hJ hoff hdep
                have e11 : look 141 ρ 11 = (I s68.2) := look_off (hoff 11 rfl) rfl
                exact dp_v (v := (I s68.2)) (wanted_none _ rfl _) (rv_move e11) rfl hJ)) ?_
              refine all_cons (obs_v rfl (by
                intro k; intro _nm ρ σm hJ hoff hdep
                have e0 : look 141 ρ 0 = (Sl adata_0 s68.1 cdata_0) := look_off (hoff 0 rfl) rfl
                exact dp_v (v := (Sl adata_0 s68.1 cdata_0)) (wanted_none _ rfl _) (rv_move e0) rfl hJ)) ?_
              refine all_cons (obs_v rfl (by
                intro k; intro _nm ρ σm hJ hoff hdep
                have e11 : look 141 ρ 11 = (I s68.2) := look_off (hoff 11 rfl) rfl
                exact dp_v (v := (I s68.2)) (wanted_none _ rfl _) (rv_move e11) rfl hJ)) ?_
              refine all_cons (obs_v rfl (by
                intro k; intro _nm ρ σm hJ hoff hdep
                have e88 : look 141 ρ 88 = (I s68.2) := hdep 3 rfl rfl 88 rfl
                exact dp_v (v := (I (w64 (s68.2 - 1)))) (wanted_none _ rfl _) (rv_sub (a := s68.2) (b := 1) e88 rfl) rfl hJ)) ?_
              refine all_cons (obs_v rfl (by
                intro k; intro _nm ρ σm hJ hoff hdep
                have e0 : look 141 ρ 0 = (Sl adata_0 s68.1 cdata_0) := look_off (hoff 0 rfl) rfl
                exact dp_v (v := (Sl adata_0 s68.1 cdata_0)) (wanted_none _ rfl _) (rv_move e0) rfl hJ)) ?_
              refine all_cons (obs_v rfl (by
                intro k; intro _nm ρ σm hJ hoff hdep
                have e11 : look 141 ρ 11 = (I s68.2) := look_off (hoff 11 rfl) rfl
                exact dp_v (v := (I s68.2)) (wanted_none _ rfl _) (rv_move e11) rfl hJ)) ?_
              refine all_cons (obs_v rfl (by
                intro k; intro _nm ρ σm hJ hoff hdep
                have e91 : look 141 ρ 91 = (I s68.2) := hdep 6 rfl rfl 91 rfl
                exact dp_v (v := (I (w64 (s68.2 - 1)))) (wanted_none _ rfl _) (rv_sub (a := s68.2) (b := 1) e91 rfl) rfl hJ)) ?_
              refine all_cons (obs_v rfl (by
                intro k; intro _nm ρ σm hJ hoff hdep
                have e90 : look 141 ρ 90 = (Sl adata_0 s68.1 cdata_0) := hdep 5 rfl rfl 90 rfl
                have e92 : look 141 ρ 92 = (I (w64 (s68.2 - 1))) := hdep 7 rfl rfl 92 rfl
                exact dp_v (v := (pt b96 o97)) (wanted_none _ rfl _) (rv_ix Try.underlying27 ti35 e90 e92 hi95) rfl hJ)) ?_
              refine all_cons (by
                refine ⟨?_, ?_⟩
                ·intro _nm ρ σm hJ hoff hdep
                 have e93 : look 141 ρ 93 = (pt b96 o97) := hdep 8 rfl rfl 93 rfl
                 obtain ⟨H, m⟩ := id hJ
                 obtain ⟨_, ⟨_, _, rfl, rfl, rfl⟩, hl98, hc99⟩ := ((H.own 0 rfl).at hx94 hi95).cells
                 exact dp_v (v := (.agg #[(I x93.1), (I x93.2)])) (wanted_none _ rfl _) (rv_load Try.underlying35 rfl ti35 e93 hl98 hc99) rfl hJ
                trivial) ?_
              refine all_cons (obs_v rfl (by
                intro k; intro _nm ρ σm hJ hoff hdep
                have e0 : look 141 ρ 0 = (Sl adata_0 s68.1 cdata_0) := look_off (hoff 0 rfl) rfl
                exact dp_v (v := (Sl adata_0 s68.1 cdata_0)) (wanted_none _ rfl _) (rv_move e0) rfl hJ)) ?_
              refine all_cons (obs_v rfl (by
                intro k; intro _nm ρ σm hJ hoff hdep
                have e11 : look 141 ρ 11 = (I s68.2) := look_off (hoff 11 rfl) rfl
                exact dp_v (v := (I s68.2)) (wanted_none _ rfl _) (rv_move e11) rfl hJ)) ?_
              refine all_cons (obs_v rfl (by
                intro k; intro _nm ρ σm hJ hoff hdep
                have e95 : look 141 ρ 95 = (Sl adata_0 s68.1 cdata_0) := hdep 10 rfl rfl 95 rfl
                have e96 : look 141 ρ 96 = (I s68.2) := hdep 11 rfl rfl 96 rfl
                exact dp_v (v := (pt b103 o104)) (wanted_none _ rfl _) (rv_ix Try.underlying27 ti35 e95 e96 hi102) rfl hJ)) ?_
              refine all_cons (by
                refine ⟨?_, ?_⟩
                ·intro _nm ρ σm hJ hoff hdep
                 have e97 : look 141 ρ 97 = (pt b103 o104) := hdep 12 rfl rfl 97 rfl
                 obtain ⟨H, m⟩ := id hJ
                 obtain ⟨_, ⟨_, _, rfl, rfl, rfl⟩, hl105, hc106⟩ := ((H.own 0 rfl).at hx101 hi102).cells
                 exact dp_v (v := (.agg #[(I x100.1), (I x100.2)])) (wanted_none _ rfl _) (rv_load Try.underlying35 rfl ti35 e97 hl105 hc106) rfl hJ
                trivial) ?_
              refine all_cons (obs_v rfl (by
                intro k; intro _nm ρ σm hJ hoff hdep
                have e85 : look 141 ρ 85 = (Sl adata_0 s68.1 cdata_0) := hdep 0 rfl rfl 85 rfl
                have e86 : look 141 ρ 86 = (I s68.2) := hdep 1 rfl rfl 86 rfl
                exact dp_v (v := (pt b110 o111)) (wanted_none _ rfl _) (rv_ix Try.underlying27 ti35 e85 e86 hi109) rfl hJ)) ?_
              refine all_cons (by
                refine ⟨?_, ?_⟩
                ·intro _nm ρ σm hJ hoff hdep
                 have e99 : look 141 ρ 99 = (pt b110 o111) := hdep 14 rfl rfl 99 rfl
                 have e94 : look 141 ρ 94 = (.agg #[(I x93.1), (I x93.2)]) := hdep 9 rfl rfl 94 rfl
                 obtain ⟨H, m⟩ := id hJ
                 refine dp_exS (wanted_none _ rfl _) rfl (ex_store_own (e' := (x93.1, x93.2)) (vs := [(I x93.1), (I x93.2)]) (k := 0) H (i := 0) rfl ti35 hx108 hi109 e99 rfl e94 rfl rfl (Nat.le_of_ble_eq_true rfl) (by simp [plain]) (by rintro _ ⟨_, _, rfl, rfl, rfl⟩; exact ⟨[(I x93.1)], [(I x93.2)], rfl, rfl, rfl⟩)) ?_
                 rintro σq ⟨H2, m2⟩
                 exact ⟨_, (), rfl, ⟨H2.sel' [0] rfl rfl, m.comp m2⟩, stab [0, 1, 2, 3, 4, 5, 6, 7, 8, 9, 10, 11, 12, 13, 14] (by kernel_rfl) ⟨rfl, rfl, rfl, rfl, rfl, rfl, rfl, rfl, rfl, rfl, rfl, rfl, rfl, rfl, rfl, trivial⟩⟩
                trivial) ?_
              exact all_nil
             ·intro _nm ρ σ112 hJ hoff hrel
              have e0 : look 141 ρ 0 = (Sl adata_0 s68.1 cdata_0) := look_off (hoff 0 rfl) rfl
              have e1 : look 141 ρ 1 = (I a_1) := look_off (hoff 1 rfl) rfl
              have e2 : look 141 ρ 2 = (I b_2) := look_off (hoff 2 rfl) rfl
              have e3 : look 141 ρ 3 = (.func (.func 108) #[] #[]) := look_off (hoff 3 rfl) rfl
              have e9 : look 141 ρ 9 = (I o7) := look_off (hoff 9 rfl) rfl
              have e10 : look 141 ρ 10 = (I s2.2.2) := look_off (hoff 10 rfl) rfl
              have e11 : look 141 ρ 11 = (I s68.2) := look_off (hoff 11 rfl) rfl
              have e87 : look 141 ρ 87 = (Sl adata_0 s68.1 cdata_0) := hrel 2 rfl 87 rfl
              have e89 : look 141 ρ 89 = (I (w64 (s68.2 - 1))) := hrel 4 rfl 89 rfl
              have e98 : look 141 ρ 98 = (.agg #[(I x100.1), (I x100.2)]) := hrel 13 rfl 98 rfl
              obtain ⟨H, -⟩ := (show Hp S0 σ0 σ112 [Ch.own 0 0 (Sl adata_0 s68.1 cdata_0) (s68.1.set s68.2.toNat (x93.1, x93.2))] ∧ Md (fun i => (cov []) i ∨ (fun b => blk (Sl adata_0 s68.1 cdata_0) = some b) i) σ91 σ112 from hJ)
              clear hJ Hs
              rw [fr_lookL (L := [(0, (Sl adata_0 s68.1 cdata_0)), (1, (I a_1)), (2, (I b_2)), (3, (.func (.func 108) #[] #[])), (9, (I o7)), (10, (I s2.2.2)), (11, (I s68.2)), (87, (Sl adata_0 s68.1 cdata_0)), (89, (I (w64 (s68.2 - 1)))), (98, (.agg #[(I x100.1), (I x100.2)]))]) ⟨e0, e1, e2, e3, e9, e10, e11, e87, e89, e98, trivial⟩]
              clear hoff hrel e0 e1 e2 e3 e9 e10 e11 e87 e89 e98
              have hsl : (Sl adata_0 s68.1 cdata_0) = (Sl adata_0 (s68.1.set s68.2.toNat (x93.1, x93.2)) cdata_0) := sl_len (by simp)
              rw [hsl]; rw [hsl] at H; clear hsl
              obtain ⟨x113, hx114, h'⟩ := bind_some h
              clear h
              have h := h'; clear h'
              obtain ⟨b116, o117, hi115, -⟩ := (H.own 0 rfl).ix hx114
              refine st (v := (pt b116 o117)) (rv_ix Try.underlying27 ti35 rfl rfl hi115) ?_
              refine st_exS (ex_store_own (e' := (x100.1, x100.2)) (vs := [(I x100.1), (I x100.2)]) (k := 0) H (i := 0) rfl ti35 hx114 hi115 rfl rfl rfl rfl rfl (Nat.le_of_ble_eq_true rfl) (by simp [plain]) (by rintro _ ⟨_, _, rfl, rfl, rfl⟩; exact ⟨[(I x100.1)], [(I x100.2)], rfl, rfl, rfl⟩)) (wanted_none _ rfl _) ?_
              rintro σ118 ⟨H, -⟩
              have hsl : (Sl adata_0 (s68.1.set s68.2.toNat (x93.1, x93.2)) cdata_0) = (Sl adata_0 ((s68.1.set s68.2.toNat (x93.1, x93.2)).set (w64 (s68.2 - 1)).toNat (x100.1, x100.2)) cdata_0) := sl_len List.length_set.symm
              rw [hsl]; rw [hsl] at H; clear hsl
              refine w_end ?_
              refine q_blk ?_
              refine q_then ?_
              refine rg ?_
              refine st (v := (I s68.2)) (rv_move rfl) ?_
              refine st (v := (I (w64 (s68.2 - 1)))) (rv_sub (a := s68.2) (b := 1) rfl rfl) ?_
              refine st (v := (I (w64 (s68.2 - 1)))) (rv_assign rfl) ?_
              refine w_end ?_
              refine q_then ?_
              obtain rfl := Option.some.inj h
              exact ⟨_, rfl, _, σ118, fr_join ⟨rfl, rfl, rfl, rfl, rfl, rfl, rfl, trivial⟩, rfl, H.sel' [0] rfl rfl, ((List.length_set.trans (List.length_set.trans (hn70.trans (List.length_set.trans (List.length_set.trans hn4))))).trans (List.length_set.trans (List.length_set.trans hn4)).symm)⟩
           ·replace h := bif_f hb71 h
            refine c_exit ?_
            refine q_then_x ?_
            refine q_then_x ?_
            refine q_blk_hit ?_
            obtain rfl := Option.some.inj h
            obtain rfl := hres _ rfl
            exact ⟨rfl, _, σ69, fr_join ⟨rfl, rfl, rfl, rfl, rfl, rfl, trivial⟩, rfl, H.sel' [0] rfl rfl, ((hn70.trans (List.length_set.trans (List.length_set.trans hn4))).trans (List.length_set.trans (List.length_set.trans hn4)).symm)⟩
          ·clear hj
           have h := h'
           clear h' H
           rintro e a w ⟨rfl, ρ, σ119, rfl, rfl, H, hn120⟩
           obtain rfl := Option.some.inj h
           exact ⟨rfl, _, σ119, fr_join ⟨rfl, rfl, rfl, rfl, rfl, rfl, trivial⟩, rfl, H.sel' [0] rfl rfl, ((hn120.trans (List.length_set.trans (List.length_set.trans hn4))).trans (List.length_set.trans (List.length_set.trans hn4)).symm)⟩
         ·replace h := bif_f hb66 h
          refine c_skip ?_
          obtain rfl := Option.some.inj h
          exact ⟨rfl, _, σ64, fr_join ⟨rfl, rfl, rfl, rfl, rfl, rfl, trivial⟩, rfl, H.sel' [0] rfl rfl, rfl⟩
        ·clear hj
         have h := h'
         clear h' H
         rintro e a w ⟨rfl, ρ, σ121, rfl, rfl, H, hn122⟩
         refine q_then ?_
         refine c_seq ?_
         refine rg ?_
         refine st (v := (I b_2)) (rv_move rfl) ?_
         refine st (v := (I o7)) (rv_move rfl) ?_
         refine st (v := (I (w64 (b_2 - o7)))) (rv_sub (a := b_2) (b := o7) rfl rfl) ?_
         refine st (v := (B (decide (2 ≤ (w64 (b_2 - o7)))))) (rv_geq (a := (w64 (b_2 - o7))) (b := 2) rfl rfl) ?_
         refine w_end ?_
         refine q_then ?_
         refine cd_cond (decide (2 ≤ (w64 (b_2 - o7)))) rfl (fun hb123 => ?_) (fun hb123 => ?_)
         ·replace h := bif_t hb123 h
          refine c_seq ?_
          refine rg ?_
          refine st (v := (I o7)) (rv_move rfl) ?_
          refine st (v := (I (w64 (o7 + 1)))) (rv_add (a := o7) (b := 1) rfl rfl) ?_
          refine st (v := (I (w64 (o7 + 1)))) (rv_assign rfl) ?_
          refine w_end ?_
          refine q_then ?_
          obtain ⟨o124, hj, h'⟩ := bind_some h
          clear h
          refine c_cut (fun e a w => e = .normal ∧ ∃ (ρ : Nat → Value) (σ : St), a = fr 141 (updL ρ [(0, (Sl adata_0 o124 cdata_0)), (1, (I a_1)), (2, (I b_2)), (3, (.func (.func 108) #[] #[])), (9, (I o7)), (10, (I s2.2.2))]) ∧ w = σ.w ∧ Hp S0 σ0 σ [Ch.own 0 0 (Sl adata_0 o124 cdata_0) o124] ∧ o124.length = o65.length) ?_ ?_
          ·clear h'
           rename _ = some o124 => h
           refine c_blk ?_
           refine wp_loopM _ h (fun s125 a w => ∃ (ρ : Nat → Value) (σ : St), a = fr 141 (updL ρ [(0, (Sl adata_0 s125.1 cdata_0)), (1, (I a_1)), (2, (I b_2)), (3, (.func (.func 108) #[] #[])), (9, (I o7)), (10, (I s2.2.2)), (12, (I s125.2))]) ∧ w = σ.w ∧ Hp S0 σ0 σ [Ch.own 0 0 (Sl adata_0 s125.1 cdata_0) s125.1] ∧ s125.1.length = o65.length) ⟨_, σ121, fr_join ⟨rfl, rfl, rfl, rfl, rfl, rfl, rfl, trivial⟩, rfl, H.sel' [0] rfl rfl, rfl⟩ ?_
           clear h H
           rintro s125 a w o ⟨ρ, σ126, rfl, rfl, H, hn127⟩ h hres
           refine c_seq ?_
           refine c_seq ?_
           refine rg ?_
           refine st (v := (I s125.2)) (rv_move rfl) ?_
           refine st (v := (I b_2)) (rv_move rfl) ?_
           refine st (v := (B (decide (s125.2 < b_2)))) (rv_lss (a := s125.2) (b := b_2) rfl rfl) ?_
           refine w_end ?_
           refine q_then ?_
           refine cd_cond (decide (s125.2 < b_2)) rfl (fun hb128 => ?_) (fun hb128 => ?_)
           ·replace h := bif_t hb128 h
            refine c_skip ?_
            refine q_then ?_
            refine c_seq ?_
            refine c_blk ?_
            refine c_seq ?_
            refine c_seq ?_
            refine rgP (σ := σ126) 10 (by kernel_rfl) (by kernel_rfl) (by kernel_rfl) ?_
            refine sq (v := (.func (.func 108) #[] #[])) (rv_move rfl) ?_
            refine sq (v := (Sl adata_0 s125.1 cdata_0)) (rv_move rfl) ?_
            refine sq (v := (I s125.2)) (rv_move rfl) ?_
            obtain ⟨x129, hx130, h'⟩ := bind_some h
            clear h
            have h := h'; clear h'
            obtain ⟨b132, o133, hi131, -⟩ := (H.own 0 rfl).ix hx130
            refine sq (v := (pt b132 o133)) (rv_ix Try.underlying27 ti35 rfl rfl hi131) ?_
            obtain ⟨_, ⟨_, _, rfl, rfl, rfl⟩, hl134, hc135⟩ := ((H.own 0 rfl).at hx130 hi131).cells
            refine sq (v := (.agg #[(I x129.1), (I x129.2)])) (rv_load Try.underlying35 rfl ti35 rfl hl134 hc135) ?_
            refine sq (v := (Sl adata_0 s125.1 cdata_0)) (rv_move rfl) ?_
            refine sq (v := (I s125.2)) (rv_move rfl) ?_
            refine sq (v := (I (w64 (s125.2 - 1)))) (rv_sub (a := s125.2) (b := 1) rfl rfl) ?_
            obtain ⟨x136, hx137, h'⟩ := bind_some h
            clear h
            have h := h'; clear h'
            obtain ⟨b139, o140, hi138, -⟩ := (H.own 0 rfl).ix hx137
            refine sq (v := (pt b139 o140)) (rv_ix Try.underlying27 ti35 rfl rfl hi138) ?_
            obtain ⟨_, ⟨_, _, rfl, rfl, rfl⟩, hl141, hc142⟩ := ((H.own 0 rfl).at hx137 hi138).cells
            refine sq (v := (.agg #[(I x136.1), (I x136.2)])) (rv_load Try.underlying35 rfl ti35 rfl hl141 hc142) ?_
            refine sq_end ?_
            intro σ143 hm144
            replace H := H.grow (hm144.mono fun _ h => h); clear hm144
            obtain ⟨r145, hx146, h'⟩ := bind_some h
            clear h
            have h := h'; clear h'
            have hc147 := c_impl_compareHits hx146
            refine st_call (cx_call hc147 (ent_v (cap := []) hc147.fn rfl rfl) hn0 (show Hp S0 σ0 _ ([] ++ [Ch.own 0 0 (Sl adata_0 s125.1 cdata_0) s125.1]) from (H.sel' [0] rfl rfl))) (wanted_none _ rfl _) ?_
            rintro _ σ148 ⟨_, ⟨rfl, rfl⟩, H, -⟩
            replace H : Hp S0 σ0 σ148 [Ch.own 0 0 (Sl adata_0 s125.1 cdata_0) s125.1] := H
            refine st (v := (B (decide (r145 < 0)))) (rv_lss (a := r145) (b := 0) rfl rfl) ?_
            refine st (v := (B (!(decide (r145 < 0))))) (rv_not rfl) ?_
            refine w_end ?_
            refine q_then ?_
            refine cd_cond (!(decide (r145 < 0))) rfl (fun hb149 => ?_) (fun hb149 => ?_)
            ·replace h := bif_t hb149 h
             refine c_exit ?_
             refine q_then_x ?_
             refine q_blk_x (by decide) ?_
             refine q_then_x ?_
             refine q_then_x ?_
             refine q_blk_hit ?_
             obtain rfl := Option.some.inj h
             obtain rfl := hres _ rfl
             exact ⟨rfl, _, σ148, fr_join ⟨rfl, rfl, rfl, rfl, rfl, rfl, trivial⟩, rfl, H.sel' [0] rfl rfl, ((hn127.trans (hn122.trans (List.length_set.trans (List.length_set.trans hn4)))).trans (hn122.trans (List.length_set.trans (List.length_set.trans hn4))).symm)⟩
            ·replace h := bif_f hb149 h
             refine c_skip ?_
             refine q_then ?_
             obtain ⟨x150, hx151, h'⟩ := bind_some h
             clear h
             have h := h'; clear h'
             obtain ⟨b153, o154, hi152, -⟩ := (H.own 0 rfl).ix hx151
             obtain ⟨_, ⟨_, _, rfl, rfl, rfl⟩, hl155, hc156⟩ := ((H.own 0 rfl).at hx151 hi152).cells
             obtain ⟨x157, hx158, h'⟩ := bind_some h
             clear h
             have h := h'; clear h'
             obtain ⟨b160, o161, hi159, -⟩ := (H.own 0 rfl).ix hx158
             obtain ⟨_, ⟨_, _, rfl, rfl, rfl⟩, hl162, hc163⟩ := ((H.own 0 rfl).at hx158 hi159).cells
             obtain ⟨x164, hx165, h'⟩ := bind_some h
             clear h
             have h := h'; clear h'
             obtain ⟨b167, o168, hi166, -⟩ := (H.own 0 rfl).ix hx165
             have Hs := H
             refine rg2 (σ := σ148) (Nm := Unit) 16 [15] [[false], [true]] [[(0, 0)], [(0, 0)], [(0, 0), (1, 1)], [(0, 0), (1, 1)], [(0, 0), (1, 1)], [(0, 0)], [(0, 0)], [(0, 0)], [(0, 0)], [(0, 0)], [(0, 0)], [(0, 0)], [(0, 0)], [(0, 0)], [(0, 0)], [(0, 1)]] 1 [fun (_nm : Unit) => fun σm => Hp S0 σ0 σm [Ch.own 0 0 (Sl adata_0 s125.1 cdata_0) s125.1] ∧ Md (cov []) σ148 σm, fun (_nm : Unit) => fun σm => Hp S0 σ0 σm [Ch.own 0 0 (Sl adata_0 s125.1 cdata_0) (s125.1.set s125.2.toNat (x150.1, x150.2))] ∧ Md (fun i => (cov []) i ∨ (fun b => blk (Sl adata_0 s125.1 cdata_0) = some b) i) σ148 σm] [fun (_nm : Unit) => (Sl adata_0 s125.1 cdata_0), fun (_nm : Unit) => (I s125.2), fun (_nm : Unit) => (Sl adata_0 s125.1 cdata_0), fun (_nm : Unit) => (I s125.2), fun (_nm : Unit) => (I (w64 (s125.2 - 1))), fun (_nm : Unit) => (Sl adata_0 s125.1 cdata_0), fun (_nm : Unit) => (I s125.2), fun (_nm : Unit) => (I (w64 (s125.2 - 1))), fun (_nm : Unit) => (pt b153 o154), fun (_nm : Unit) => (.agg #[(I x150.1), (I x150.2)]), fun (_nm : Unit) => (Sl adata_0 s125.1 cdata_0), fun (_nm : Unit) => (I s125.2), fun (_nm : Unit) => (pt b160 o161), fun (_nm : Unit) => (.agg #[(I x157.1), (I x157.2)]), fun (_nm : Unit) => (pt b167 o168), fun (_nm : Unit) => undef] () (by kernel_rfl) (by kernel_rfl) ?_ ?_ ?_
             ·intro σm m0
              exact ⟨H.grow (m0.mono fun _ h => h.elim), m0⟩
             ·refine all_cons (obs_v rfl (by
                intro k; intro _nm ρ σm hJ hoff hdep
                have e0 : look 141 ρ 0 = (Sl adata_0 s125.1 cdata_0) := look_off (hoff 0 rfl) rfl
                exact dp_v (v := (Sl adata_0 s125.1 cdata_0)) (wanted_none _ rfl _) (rv_move e0) rfl hJ)) ?_
              refine all_cons (obs_v rfl (by
                intro k; intro _nm ρ σm hJ hoff hdep
                have e12 : look 141 ρ 12 = (I s125.2) := look_off (hoff 12 rfl) rfl
                exact dp_v (v := (I s125.2)) (wanted_none _ rfl _) (rv_move e12) rfl hJ)) ?_
              refine all_cons (obs_v rfl (by
                intro k; intro _nm ρ σm hJ hoff hdep
                have e0 : look 141 ρ 0 = (Sl adata_0 s125.1 cdata_0) := look_off (hoff 0 rfl) rfl
                exact dp_v (v := (Sl adata_0 s125.1 cdata_0)) (wanted_none _ rfl _) (rv_move e0) rfl hJ)) ?_
              refine all_cons (obs_v rfl (by
                intro k; intro _nm ρ σm hJ hoff hdep
                have e12 : look 141 ρ 12 = (I s125.2) := look_off (hoff 12 rfl) rfl
                exact dp_v (v := (I s125.2)) (wanted_none _ rfl _) (rv_move e12) rfl hJ)) ?_
              refine all_cons (obs_v rfl (by
                intro k; intro _nm ρ σm hJ hoff hdep
                have e128 : look 141 ρ 128 = (I s125.2) := hdep 3 rfl rfl 128 rfl
                exact dp_v (v := (I (w64 (s125.2 - 1)))) (wanted_none _ rfl _) (rv_sub (a := s125.2) (b := 1) e128 rfl) rfl hJ)) ?_
              refine all_cons (obs_v rfl (by
                intro k; intro _nm ρ σm hJ hoff hdep
                have e0 : look 141 ρ 0 = (Sl adata_0 s125.1 cdata_0) := look_off (hoff 0 rfl) rfl
                exact dp_v (v := (Sl adata_0 s125.1 cdata_0)) (wanted_none _ rfl _) (rv_move e0) rfl hJ)) ?_
              refine all_cons (obs_v rfl (by
                intro k; intro _nm ρ σm hJ hoff hdep
                have e12 : look 141 ρ 12 = (I s125.2) := look_off (hoff 12 rfl) rfl
                exact dp_v (v := (I s125.2)) (wanted_none _ rfl _) (rv_move e12) rfl hJ)) ?_
              refine all_cons (obs_v rfl (by
                intro k; intro _nm ρ σm hJ hoff hdep
                have e131 : look 141 ρ 131 = (I s125.2) := hdep 6 rfl rfl 131 rfl
                exact dp_v (v := (I (w64 (s125.2 - 1)))) (wanted_none _ rfl _) (rv_sub (a := s125.2) (b := 1) e131 rfl) rfl hJ)) ?_
              refine all_cons (obs_v rfl (by
                intro k; intro _nm ρ σm hJ hoff hdep
                have e130 : look 141 ρ 130 = (Sl adata_0 s125.1 cdata_0) := hdep 5 rfl rfl 130 rfl
                have e132 : look 141 ρ 132 = (I (w64 (s125.2 - 1))) := hdep 7 rfl rfl 132 rfl
                exact dp_v (v := (pt b153 o154)) (wanted_none _ rfl _) (rv_ix Try.underlying27 ti35 e130 e132 hi152) rfl hJ)) ?_
              refine all_cons (by
                refine ⟨?_, ?_⟩
                ·intro _nm ρ σm hJ hoff hdep
                 have e133 : look 141 ρ 133 = (pt b153 o154) := hdep 8 rfl rfl 133 rfl
                 obtain ⟨H, m⟩ := id hJ
                 obtain ⟨_, ⟨_, _, rfl, rfl, rfl⟩, hl155, hc156⟩ := ((H.own 0 rfl).at hx151 hi152).cells
                 exact dp_v (v := (.agg #[(I x150.1), (I x150.2)])) (wanted_none _ rfl _) (rv_load Try.underlying35 rfl ti35 e133 hl155 hc156) rfl hJ
                trivial) ?_
              refine all_cons (obs_v rfl (by
                intro k; intro _nm ρ σm hJ hoff hdep
                have e0 : look 141 ρ 0 = (Sl adata_0 s125.1 cdata_0) := look_off (hoff 0 rfl) rfl
                exact dp_v (v := (Sl adata_0 s125.1 cdata_0)) (wanted_none _ rfl _) (rv_move e0) rfl hJ)) ?_
              refine all_cons (obs_v rfl (by
                intro k; intro _nm ρ σm hJ hoff hdep
                have e12 : look 141 ρ 12 = (I s125.2) := look_off (hoff 12 rfl) rfl
                exact dp_v (v := (I s125.2)) (wanted_none _ rfl _) (rv_move e12) rfl hJ)) ?_
              refine all_cons (obs_v rfl (by
                intro k; intro _nm ρ σm hJ hoff hdep
                have e135 : look 141 ρ 135 = (Sl adata_0 s125.1 cdata_0) := hdep 10 rfl rfl 135 rfl
                have e136 : look 141 ρ 136 = (I s125.2) := hdep 11 rfl rfl 136 rfl
                exact dp_v (v := (pt b160 o161)) (wanted_none _ rfl _) (rv_ix Try.underlying27 ti35 e135 e136 hi159) rfl hJ)) ?_
              refine all_cons (by
                refine ⟨?_, ?_⟩
                ·intro _nm ρ σm hJ hoff hdep
                 have e137 : look 141 ρ 137 = (pt b160 o161) := hdep 12 rfl rfl 137 rfl
                 obtain ⟨H, m⟩ := id hJ
                 obtain ⟨_, ⟨_, _, rfl, rfl, rfl⟩, hl162, hc163⟩ := ((H.own 0 rfl).at hx158 hi159).cells
                 exact dp_v (v := (.agg #[(I x157.1), (I x157.2)])) (wanted_none _ rfl _) (rv_load Try.underlying35 rfl ti35 e137 hl162 hc163) rfl hJ
                trivial) ?_
              refine all_cons (obs_v rfl (by
                intro k; intro _nm ρ σm hJ hoff hdep
                have e125 : look 141 ρ 125 = (Sl adata_0 s125.1 cdata_0) := hdep 0 rfl rfl 125 rfl
                have e126 : look 141 ρ 126 = (I s125.2) := hdep 1 rfl rfl 126 rfl
                exact dp_v (v := (pt b167 o168)) (wanted_none _ rfl _) (rv_ix Try.underlying27 ti35 e125 e126 hi166) rfl hJ)) ?_
              refine all_cons (by
                refine ⟨?_, ?_⟩
                ·intro _nm ρ σm hJ hoff hdep
                 have e139 : look 141 ρ 139 = (pt b167 o168) := hdep 14 rfl rfl 139 rfl
                 have e134 : look 141 ρ 134 = (.agg #[(I x150.1), (I x150.2)]) := hdep 9 rfl rfl 134 rfl
                 obtain ⟨H, m⟩ := id hJ
                 refine dp_exS (wanted_none _ rfl _) rfl (ex_store_own (e' := (x150.1, x150.2)) (vs := [(I x150.1), (I x150.2)]) (k := 0) H (i := 0) rfl ti35 hx165 hi166 e139 rfl e134 rfl rfl (Nat.le_of_ble_eq_true rfl) (by simp [plain]) (by rintro _ ⟨_, _, rfl, rfl, rfl⟩; exact ⟨[(I x150.1)], [(I x150.2)], rfl, rfl, rfl⟩)) ?_
                 rintro σq ⟨H2, m2⟩
                 exact ⟨_, (), rfl, ⟨H2.sel' [0] rfl rfl, m.comp m2⟩, stab [0, 1, 2, 3, 4, 5, 6, 7, 8, 9, 10, 11, 12, 13, 14] (by kernel_rfl) ⟨rfl, rfl, rfl, rfl, rfl, rfl, rfl, rfl, rfl, rfl, rfl, rfl, rfl, rfl, rfl, trivial⟩⟩
                trivial) ?_
              exact all_nil
             ·intro _nm ρ σ169 hJ hoff hrel
              have e0 : look 141 ρ 0 = (Sl adata_0 s125.1 cdata_0) := look_off (hoff 0 rfl) rfl
              have e1 : look 141 ρ 1 = (I a_1) := look_off (hoff 1 rfl) rfl
              have e2 : look 141 ρ 2 = (I b_2) := look_off (hoff 2 rfl) rfl
              have e3 : look 141 ρ 3 = (.func (.func 108) #[] #[]) := look_off (hoff 3 rfl) rfl
              have e9 : look 141 ρ 9 = (I o7) := look_off (hoff 9 rfl) rfl
              have e10 : look 141 ρ 10 = (I s2.2.2) := look_off (hoff 10 rfl) rfl
              have e12 : look 141 ρ 12 = (I s125.2) := look_off (hoff 12 rfl) rfl
              have e127 : look 141 ρ 127 = (Sl adata_0 s125.1 cdata_0) := hrel 2 rfl 127 rfl
              have e129 : look 141 ρ 129 = (I (w64 (s125.2 - 1))) := hrel 4 rfl 129 rfl
              have e138 : look 141 ρ 138 = (.agg #[(I x157.1), (I x157.2)]) := hrel 13 rfl 138 rfl
              obtain ⟨H, -⟩ := (show Hp S0 σ0 σ169 [Ch.own 0 0 (Sl adata_0 s125.1 cdata_0) (s125.1.set s125.2.toNat (x150.1, x150.2))] ∧ Md (fun i => (cov []) i ∨ (fun b => blk (Sl adata_0 s125.1 cdata_0) = some b) i) σ148 σ169 from hJ)
              clear hJ Hs
              rw [fr_lookL (L := [(0, (Sl adata_0 s125.1 cdata_0)), (1, (I a_1)), (2, (I b_2)), (3, (.func (.func 108) #[] #[])), (9, (I o7)), (10, (I s2.2.2)), (12, (I s125.2)), (127, (Sl adata_0 s125.1 cdata_0)), (129, (I (w64 (s125.2 - 1)))), (138, (.agg #[(I x157.1), (I x157.2)]))]) ⟨e0, e1, e2, e3, e9, e10, e12, e127, e129, e138, trivial⟩]
              clear hoff hrel e0 e1 e2 e3 e9 e10 e12 e127 e129 e138
              have hsl : (Sl adata_0 s125.1 cdata_0) = (Sl adata_0 (s125.1.set s125.2.toNat (x150.1, x150.2)) cdata_0) := sl_len (by simp)
              rw [hsl]; rw [hsl] at H; clear hsl
              obtain ⟨x170, hx171, h'⟩ := bind_some h
              clear h
              have h := h'; clear h'
              obtain ⟨b173, o174, hi172, -⟩ := (H.own 0 rfl).ix hx171
              refine st (v := (pt b173 o174)) (rv_ix Try.underlying27 ti35 rfl rfl hi172) ?_
              refine st_exS (ex_store_own (e' := (x157.1, x157.2)) (vs := [(I x157.1), (I x157.2)]) (k := 0) H (i := 0) rfl ti35 hx171 hi172 rfl rfl rfl rfl rfl (Nat.le_of_ble_eq_true rfl) (by simp [plain]) (by rintro _ ⟨_, _, rfl, rfl, rfl⟩; exact ⟨[(I x157.1)], [(I x157.2)], rfl, rfl, rfl⟩)) (wanted_none _ rfl _) ?_
              rintro σ175 ⟨H, -⟩
              have hsl : (Sl adata_0 (s125.1.set s125.2.toNat (x150.1, x150.2)) cdata_0) = (Sl adata_0 ((s125.1.set s125.2.toNat (x150.1, x150.2)).set (w64 (s125.2 - 1)).toNat (x157.1, x157.2)) cdata_0) := sl_len List.length_set.symm
              rw [hsl]; rw [hsl] at H; clear hsl
              refine w_end ?_
              refine q_blk ?_
              refine q_then ?_
              refine rg ?_
              refine st (v := (I s125.2)) (rv_move rfl) ?_
              refine st (v := (I (w64 (s125.2 + 1)))) (rv_add (a := s125.2) (b := 1) rfl rfl) ?_
              refine st (v := (I (w64 (s125.2 + 1)))) (rv_assign rfl) ?_
              refine w_end ?_
              refine q_then ?_
              obtain rfl := Option.some.inj h
              exact ⟨_, rfl, _, σ175, fr_join ⟨rfl, rfl, rfl, rfl, rfl, rfl, rfl, trivial⟩, rfl, H.sel' [0] rfl rfl, ((List.length_set.trans (List.length_set.trans (hn127.trans (hn122.trans (List.length_set.trans (List.length_set.trans hn4)))))).trans (hn122.trans (List.length_set.trans (List.length_set.trans hn4))).symm)⟩
           ·replace h := bif_f hb128 h
            refine c_exit ?_
            refine q_then_x ?_
            refine q_then_x ?_
            refine q_blk_hit ?_
            obtain rfl := Option.some.inj h
            obtain rfl := hres _ rfl
            exact ⟨rfl, _, σ126, fr_join ⟨rfl, rfl, rfl, rfl, rfl, rfl, trivial⟩, rfl, H.sel' [0] rfl rfl, ((hn127.trans (hn122.trans (List.length_set.trans (List.length_set.trans hn4)))).trans (hn122.trans (List.length_set.trans (List.length_set.trans hn4))).symm)⟩
          ·clear hj
           have h := h'
           clear h' H
           rintro e a w ⟨rfl, ρ, σ176, rfl, rfl, H, hn177⟩
           refine q_blk ?_
           obtain rfl := Option.some.inj h
           exact .inl ⟨_, rfl, rfl, _, σ176, fr_join ⟨rfl, rfl, rfl, rfl, rfl, rfl, trivial⟩, rfl, H.sel' [0] rfl rfl, ((hn177.trans (hn122.trans (List.length_set.trans (List.length_set.trans hn4)))).trans hn4.symm)⟩
         ·replace h := bif_f hb123 h
          refine c_skip ?_
          refine q_blk ?_
          obtain rfl := Option.some.inj h
          exact .inl ⟨_, rfl, rfl, _, σ121, fr_join ⟨rfl, rfl, rfl, rfl, rfl, rfl, trivial⟩, rfl, H.sel' [0] rfl rfl, ((hn122.trans (List.length_set.trans (List.length_set.trans hn4))).trans hn4.symm)⟩
   ·clear hj
    have h := h'
    clear h' H
    rintro e a w (⟨t178, rfl, rfl, ρ, σ179, rfl, rfl, H, hn180⟩ | ⟨t181, rfl, rfl, ρ, σ182, rfl, rfl, H, hn183⟩)
    ·replace h := selim_l h
     refine q_then ?_
     refine rg ?_
     refine st (v := (I s2.2.2)) (rv_move rfl) ?_
     refine st (v := (I (w64 (s2.2.2 + 1)))) (rv_add (a := s2.2.2) (b := 1) rfl rfl) ?_
     refine st (v := (I (w64 (s2.2.2 + 1)))) (rv_assign rfl) ?_
     refine w_end ?_
     refine q_then ?_
     obtain rfl := Option.some.inj h
     exact ⟨_, rfl, _, σ179, fr_join ⟨rfl, rfl, rfl, rfl, rfl, rfl, trivial⟩, rfl, H.sel' [0] rfl rfl, (hn180.trans hn4)⟩
    ·replace h := selim_r h
     refine q_then_r ?_
     refine q_then_r ?_
     refine q_blk_r ?_
     obtain rfl := Option.some.inj h
     obtain rfl := hres _ rfl
     exact .inr (⟨_, rfl, rfl, _, σ182, fr_join ⟨rfl, rfl, trivial⟩, rfl, H.sel' [0] rfl rfl, (hn183.trans hn4)⟩)
  ·replace h := bif_f hb5 h
   refine c_exit ?_
   refine q_then_x ?_
   refine q_then_x ?_
   refine q_blk_hit ?_
   obtain rfl := Option.some.inj h
   obtain rfl := hres _ rfl
   exact .inl ⟨_, rfl, rfl, _, σ3, fr_join ⟨rfl, trivial⟩, rfl, H.sel' [0] rfl rfl, hn4⟩
 ·clear hj
  have h := h'
  clear h' H
  rintro e a w (⟨t184, rfl, rfl, ρ, σ185, rfl, rfl, H, hn186⟩ | ⟨t187, rfl, rfl, ρ, σ188, rfl, rfl, H, hn189⟩)
  ·replace h := selim_l h
   refine q_then ?_
   refine c_seq ?_
   refine rg ?_
   refine st (v := (B false)) (rv_assign rfl) ?_
   refine w_end ?_
   refine q_then ?_
   refine c_ret ?_
   obtain rfl := Option.some.inj h
   exact fin_ret (v := (B false)) (results_ok Try.results141 (res_tmp (v := (B false)) rfl res_nil) rfl) ⟨rfl, rfl, hn186⟩ (H.sel' [0] rfl rfl)
  ·replace h := selim_r h
   refine q_then_r ?_
   obtain rfl := Option.some.inj h
   exact fin_ret (v := (B t187.2)) (results_ok Try.results141 (res_tmp (v := (B t187.2)) rfl res_nil) rfl) ⟨rfl, rfl, hn189⟩ (H.sel' [0] rfl rfl)

end Go.Vs
