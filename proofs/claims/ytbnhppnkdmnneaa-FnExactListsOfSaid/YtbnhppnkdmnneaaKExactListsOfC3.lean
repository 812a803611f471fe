/- The functions compute what their models say. -/
import Derived.Test.YtbnhppnkdmnneaaKExactListsOfC2
set_option linter.unusedVariables false
set_option linter.unusedSimpArgs false
set_option maxRecDepth 20000
namespace Go.Vs
open Go Go.Proofs
attribute [local irreducible] Code.wp Code.wpIn wpList wpListIn wpQuiet Calls CallsIn

theorem c_impl_itemsByCentre {centres_0 : List (List Int)} {list_1 : List (Int × (List Int) × Int)} {acentres_0 : Option Addr} {ccentres_0 : Nat} {alist_1 : Option Addr} {clist_1 : Nat} {r : (List (Int × (List (Int × (List Int) × Int))))} (h : M.impl_itemsByCentre centres_0 list_1 = some r) :
    Cal2 Try.prog 72 [(Sl acentres_0 centres_0 ccentres_0), (Sl alist_1 list_1 clist_1)] [Ch.ro 0 (Sl acentres_0 centres_0 ccentres_0) centres_0, Ch.ro 0 (Sl alist_1 list_1 clist_1) list_1] (fun n0 v L => ∃ (bz1 : Nat), ∃ (Kz2 : List Ch), v = (.map (some bz1)) ∧ L = [Ch.big Kz2] ∧ Mp 0 0 bz1 r Kz2) := by
 refine cal2 (n := 31) Try.func72 rfl rfl rfl rfl ?_
 intro S0 σ0 n0 hn0 H
 unfold M.impl_itemsByCentre at h
 refine c_seq ?_
 refine rg ?_
 refine st (v := (.map none)) (rv_assign rfl) ?_
 refine w_end ?_
 refine q_then ?_
 refine c_seq ?_
 refine rg ?_
 refine st_ex (ex_makeMap (lo := 0) (Int × (List Int) × Int) 0 H (Nat.zero_le _)) wn ?_
 rintro _ σ4 ⟨b1, K2, rfl, hK3, H, -⟩
 refine st (v := (.map (some b1))) (rv_assign rfl) ?_
 refine w_end ?_
 refine q_then ?_
 refine c_seq ?_
 refine c_seq ?_
 refine rg ?_
 refine st (v := (Sl acentres_0 centres_0 ccentres_0)) (rv_move rfl) ?_
 refine st (v := (Sl alist_1 list_1 clist_1)) (rv_move rfl) ?_
 obtain ⟨r5, hx6, h'⟩ := bind_some h
 clear h
 have h := h'; clear h'
 have hc7 := c_impl_AssignItems (acentres_0 := acentres_0) (ccentres_0 := ccentres_0) (alist_1 := alist_1) (clist_1 := clist_1) hx6
 refine st_call (cx_call hc7 (ent_f hc7.fn rfl) hn0 (show Hp S0 σ0 _ ([Ch.ro 0 (Sl acentres_0 centres_0 ccentres_0) centres_0, Ch.ro 0 (Sl alist_1 list_1 clist_1) list_1] ++ [Ch.big K2, Ch.ro 0 (Sl acentres_0 centres_0 ccentres_0) centres_0, Ch.ro 0 (Sl alist_1 list_1 clist_1) list_1]) from (H.sel' [1, 2, 0, 1, 2] rfl rfl))) wn ?_
 rintro _ σ11 ⟨_, ⟨a8, c9, rfl, rfl, ht10⟩, H, -⟩
 replace H : Hp S0 σ0 σ11 [Ch.own n0 n0 (Sl a8 r5 c9) r5, Ch.big K2, Ch.ro 0 (Sl acentres_0 centres_0 ccentres_0) centres_0, Ch.ro 0 (Sl alist_1 list_1 clist_1) list_1] := H
 refine st (v := (I (r5.length : Int))) (rv_len Try.underlying24 rfl) ?_
 refine st (v := (I 0)) (rv_move rfl) ?_
 refine w_end ?_
 refine q_then ?_
 obtain ⟨o12, hj, h'⟩ := bind_some h
 clear h
 refine c_cut (fun e a w => e = .normal ∧ ∃ (ρ : Nat → Value) (σ : St) (bj1 : Nat) (Kj2 : List Ch), a = fr 31 (updL ρ [(5, (.map (some bj1)))]) ∧ w = σ.w ∧ Hp S0 σ0 σ [Ch.big Kj2] ∧ Mp 0 0 bj1 o12 Kj2) ?_ ?_
 ·clear h'
  rename _ = some o12 => h
  refine c_blk ?_
  refine wp_loopM _ h (fun s13 a w => ∃ (ρ : Nat → Value) (σ : St) (bj1 : Nat) (Kj2 : List Ch), a = fr 31 (updL ρ [(1, (Sl alist_1 list_1 clist_1)), (5, (.map (some bj1))), (11, (Sl a8 r5 c9)), (12, (I (r5.length : Int))), (13, (I s13.2))]) ∧ w = σ.w ∧ Hp S0 σ0 σ [Ch.ro 0 (Sl alist_1 list_1 clist_1) list_1, Ch.big Kj2, Ch.own n0 n0 (Sl a8 r5 c9) r5] ∧ Mp 0 0 bj1 s13.1 Kj2) ⟨_, σ11, b1, K2, fr_join ⟨rfl, rfl, rfl, rfl, rfl, trivial⟩, rfl, H.sel' [3, 1, 0] rfl rfl, hK3⟩ ?_
  clear h H
  rintro s13 a w o ⟨ρ, σ14, b15, K16, rfl, rfl, H, hK17⟩ h hres
  refine c_seq ?_
  refine rg ?_
  refine st (v := (B (decide (s13.2 < (r5.length : Int))))) (rv_lss (a := s13.2) (b := (r5.length : Int)) rfl rfl) ?_
  refine w_end ?_
  refine q_then ?_
  refine c_seq ?_
  refine cd_cond (decide (s13.2 < (r5.length : Int))) rfl (fun hb18 => ?_) (fun hb18 => ?_)
  ·replace h := bif_t hb18 h
   refine c_skip ?_
   refine q_then ?_
   refine c_seq ?_
   refine c_blk ?_
   refine c_seq ?_
   refine rg ?_
   refine st (v := (I s13.2)) (rv_move rfl) ?_
   obtain ⟨x19, hx20, h'⟩ := bind_some h
   clear h
   have h := h'; clear h'
   obtain ⟨b22, o23, hi21, -⟩ := (H.own 2 rfl).ix hx20
   refine st (v := (pt b22 o23)) (rv_ix Try.underlying24 ti3 rfl rfl hi21) ?_
   have hc24 := ((H.own 2 rfl).at hx20 hi21).int
   refine st (v := (I x19)) (rv_load1 Try.underlying3 rfl rfl hc24) ?_
   refine st (v := (I s13.2)) (rv_assign rfl) ?_
   refine st (v := (I x19)) (rv_assign rfl) ?_
   refine w_end ?_
   refine q_then ?_
   obtain ⟨v28, K29, H, hK30⟩ := H.mpOut x19 1 rfl hK17
   obtain ⟨a25, c26, rfl⟩ := (H.own 0 rfl).isSl
   have hL27 := hK30.look H 1 rfl
   obtain ⟨x31, hx32, h'⟩ := bind_some h
   clear h
   have h := h'; clear h'
   obtain ⟨b34, o35, hi33, -⟩ := (H.ro 2 rfl).ix hx32
   obtain ⟨_, ⟨_, _, rfl, rfl, ⟨_, _, rfl, ⟨_, rfl, hR40⟩, rfl⟩⟩, hl36, hc37⟩ := ((H.ro 2 rfl).at hx32 hi33).cells
   obtain ⟨a38, c39, rfl⟩ := hR40.isSl
   replace H := H.add (d := Ch.ro 0 (Sl a38 x31.2.1 c39) x31.2.1) hR40 (fun _ h => h)
   clear hR40
   obtain ⟨xs42, hx43, h'⟩ := bind_some h
   clear h
   have h := h'; clear h'
   have Hs := H
   refine rg2 (σ := σ14) (Nm := (Nat) × (Option Addr) × (Nat)) 11 [9, 10] [[false, false], [true, false], [true, true]] [[(0, 0), (1, 1), (2, 2)], [(0, 0), (1, 1), (2, 2)], [(0, 0), (1, 1)], [(0, 0), (1, 1)], [(0, 0), (1, 1)], [(0, 0)], [(0, 0)], [(0, 0)], [(0, 0)], [(0, 1)], [(1, 2)]] 2 [fun ((b41, a44, c45) : (Nat) × (Option Addr) × (Nat)) => fun σm => Hp S0 σ0 σm [Ch.ro 0 (Sl a38 x31.2.1 c39) x31.2.1, Ch.own 0 0 (Sl a25 (mget s13.1 x19) c26) (mget s13.1 x19), Ch.big K29, Ch.ro 0 (Sl alist_1 list_1 clist_1) list_1, Ch.own n0 n0 (Sl a8 r5 c9) r5] ∧ Md (cov []) σ14 σm, fun ((b41, a44, c45) : (Nat) × (Option Addr) × (Nat)) => fun σm => Hp S0 σ0 σm [Ch.own n0 0 (Sl (some ⟨b41, 0, none⟩) ([(x31.1, x31.2.1, x31.2.2)] : List (Int × (List Int) × Int)) 1) ([(x31.1, x31.2.1, x31.2.2)] : List (Int × (List Int) × Int)), Ch.ro 0 (Sl a38 x31.2.1 c39) x31.2.1, Ch.own 0 0 (Sl a25 (mget s13.1 x19) c26) (mget s13.1 x19), Ch.big K29, Ch.ro 0 (Sl alist_1 list_1 clist_1) list_1, Ch.own n0 n0 (Sl a8 r5 c9) r5] ∧ Md (cov []) σ14 σm, fun ((b41, a44, c45) : (Nat) × (Option Addr) × (Nat)) => fun σm => Hp S0 σ0 σm [Ch.own 0 0 (Sl a44 xs42 c45) xs42, Ch.own n0 0 (Sl (some ⟨b41, 0, none⟩) ([(x31.1, x31.2.1, x31.2.2)] : List (Int × (List Int) × Int)) 1) ([(x31.1, x31.2.1, x31.2.2)] : List (Int × (List Int) × Int)), Ch.ro 0 (Sl a38 x31.2.1 c39) x31.2.1, Ch.big K29, Ch.ro 0 (Sl alist_1 list_1 clist_1) list_1, Ch.own n0 n0 (Sl a8 r5 c9) r5] ∧ Md (fun i => (cov []) i ∨ (fun b => blk (Sl a25 (mget s13.1 x19) c26) = some b) i) σ14 σm] [fun ((b41, a44, c45) : (Nat) × (Option Addr) × (Nat)) => (.map (some b15)), fun ((b41, a44, c45) : (Nat) × (Option Addr) × (Nat)) => (I x19), fun ((b41, a44, c45) : (Nat) × (Option Addr) × (Nat)) => (.map (some b15)), fun ((b41, a44, c45) : (Nat) × (Option Addr) × (Nat)) => (I x19), fun ((b41, a44, c45) : (Nat) × (Option Addr) × (Nat)) => (Sl a25 (mget s13.1 x19) c26), fun ((b41, a44, c45) : (Nat) × (Option Addr) × (Nat)) => (Sl alist_1 list_1 clist_1), fun ((b41, a44, c45) : (Nat) × (Option Addr) × (Nat)) => (I s13.2), fun ((b41, a44, c45) : (Nat) × (Option Addr) × (Nat)) => (pt b34 o35), fun ((b41, a44, c45) : (Nat) × (Option Addr) × (Nat)) => (.agg #[(I x31.1), (Sl a38 x31.2.1 c39), (I x31.2.2)]), fun ((b41, a44, c45) : (Nat) × (Option Addr) × (Nat)) => (Sl (some ⟨b41, 0, none⟩) ([(x31.1, x31.2.1, x31.2.2)] : List (Int × (List Int) × Int)) 1), fun ((b41, a44, c45) : (Nat) × (Option Addr) × (Nat)) => (Sl a44 xs42 c45)] (0, none, 0) (by kernel_rfl) (by kernel_rfl) ?_ ?_ ?_
   ·intro σm m0
    exact ⟨H.grow (m0.mono fun _ h => h.elim), m0⟩
   ·refine ac rfl (by
      intro k; rintro ⟨b41, a44, c45⟩ ρ σm hJ hoff hdep
      have e5 := look_off (N := 31) (hoff 5 rfl) rfl
      exact dp_v (v := (.map (some b15))) wn (rv_move e5) rfl hJ) ?_
    refine ac rfl (by
      intro k; rintro ⟨b41, a44, c45⟩ ρ σm hJ hoff hdep
      have e7 := look_off (N := 31) (hoff 7 rfl) rfl
      exact dp_v (v := (I x19)) wn (rv_move e7) rfl hJ) ?_
    refine ac rfl (by
      intro k; rintro ⟨b41, a44, c45⟩ ρ σm hJ hoff hdep
      have e5 := look_off (N := 31) (hoff 5 rfl) rfl
      exact dp_v (v := (.map (some b15))) wn (rv_move e5) rfl hJ) ?_
    refine ac rfl (by
      intro k; rintro ⟨b41, a44, c45⟩ ρ σm hJ hoff hdep
      have e7 := look_off (N := 31) (hoff 7 rfl) rfl
      exact dp_v (v := (I x19)) wn (rv_move e7) rfl hJ) ?_
    refine all_cons (by
      refine ⟨?_, ?_⟩
      ·rintro ⟨b41, a44, c45⟩ ρ σm hJ hoff hdep
       have e20 := hdep 2 rfl rfl 20 rfl
       have e21 := hdep 3 rfl rfl 21 rfl
       obtain ⟨H, m⟩ := id hJ
       have hL27 := hK30.look H 2 rfl
       exact dp_v (v := (Sl a25 (mget s13.1 x19) c26)) wn (rv_lookup Try.underlying74 Try.underlying3 ti37 e20 e21 hL27) rfl hJ
      refine ⟨?_, ?_⟩
      ·rintro ⟨b41, a44, c45⟩ ρ σm hJ hoff hdep
       have e20 := hdep 2 rfl rfl 20 rfl
       have e21 := hdep 3 rfl rfl 21 rfl
       obtain ⟨H, m⟩ := id hJ
       have hL27 := hK30.look H 3 rfl
       exact dp_v (v := (Sl a25 (mget s13.1 x19) c26)) wn (rv_lookup Try.underlying74 Try.underlying3 ti37 e20 e21 hL27) rfl hJ
      trivial) ?_
    refine ac rfl (by
      intro k; rintro ⟨b41, a44, c45⟩ ρ σm hJ hoff hdep
      have e1 := look_off (N := 31) (hoff 1 rfl) rfl
      exact dp_v (v := (Sl alist_1 list_1 clist_1)) wn (rv_move e1) rfl hJ) ?_
    refine ac rfl (by
      intro k; rintro ⟨b41, a44, c45⟩ ρ σm hJ hoff hdep
      have e6 := look_off (N := 31) (hoff 6 rfl) rfl
      exact dp_v (v := (I s13.2)) wn (rv_move e6) rfl hJ) ?_
    refine ac rfl (by
      intro k; rintro ⟨b41, a44, c45⟩ ρ σm hJ hoff hdep
      have e23 := hdep 5 rfl rfl 23 rfl
      have e24 := hdep 6 rfl rfl 24 rfl
      exact dp_v (v := (pt b34 o35)) wn (rv_ix Try.underlying37 ti63 e23 e24 hi33) rfl hJ) ?_
    refine all_cons (by
      refine ⟨?_, ?_⟩
      ·rintro ⟨b41, a44, c45⟩ ρ σm hJ hoff hdep
       have e25 := hdep 7 rfl rfl 25 rfl
       obtain ⟨H, m⟩ := id hJ
       replace hc37 := fun j hj => (Hs.ro 3 rfl).hmd hx32 hi33 (k := j) (Nat.lt_of_lt_of_eq hj hl36) (hc37 j hj) m
       exact dp_v (v := (.agg #[(I x31.1), (Sl a38 x31.2.1 c39), (I x31.2.2)])) wn (rv_load Try.underlying63 rfl ti63 e25 hl36 hc37) rfl hJ
      trivial) ?_
    refine all_cons (by
      refine ⟨?_, ?_⟩
      ·rintro ⟨b41, a44, c45⟩ ρ σm hJ hoff hdep
       have e26 : look 31 ρ 26 = (.agg #[(I x31.1), (Sl a38 x31.2.1 c39), (I x31.2.2)]) := hdep 8 rfl rfl 26 rfl
       obtain ⟨H, m⟩ := id hJ
       refine dp_ex wn (ex_buildSlice (el := 0) (xs := ([(x31.1, x31.2.1, x31.2.2)] : List (Int × (List Int) × Int))) (ps := [(0, (.agg #[(I x31.1), (Sl a38 x31.2.1 c39), (I x31.2.2)]))]) (cs := [(I x31.1), (Sl a38 x31.2.1 c39), (I x31.2.2)]) H hn0 Try.underlying37 ti63 rfl (by show [(0, look 31 ρ 26)] = _; rw [e26]) (by kernel_rfl) (.cons (c := [(I x31.1), (Sl a38 x31.2.1 c39), (I x31.2.2)]) ⟨[(I x31.1)], [(Sl a38 x31.2.1 c39), (I x31.2.2)], rfl, rfl, ⟨[(Sl a38 x31.2.1 c39)], [(I x31.2.2)], rfl, ⟨_, rfl, (H.ro 0 rfl)⟩, rfl⟩⟩ (.nil)) rfl) ?_
       rintro _ σq ⟨b41x, rfl, H2, m2⟩
       exact ⟨_, (b41x, a44, c45), rfl, rfl, ⟨H2.sel' [0, 1, 2, 3, 4, 5] rfl rfl, m.comp0 m2⟩, stab [0, 1, 2, 3, 4, 5, 6, 7, 8] (by kernel_rfl) ⟨rfl, rfl, rfl, rfl, rfl, rfl, rfl, rfl, rfl, trivial⟩⟩
      trivial) ?_
    refine all_cons (by
      refine ⟨?_, ?_⟩
      ·rintro ⟨b41, a44, c45⟩ ρ σm hJ hoff hdep
       have e22 := hdep 4 rfl rfl 22 rfl
       have e27 := hdep 9 rfl rfl 27 rfl
       obtain ⟨H, m⟩ := id hJ
       refine dp_ex wn (ex_append H (i := 2) rfl Try.underlying37 Try.underlying37 ti63 rfl rfl (by decide) (H.own 0 rfl).rd hx43 (Nat.zero_le _) e22 e27) ?_
       rintro _ σq ⟨a44x, c45x, rfl, H2, m2⟩
       exact ⟨_, (b41, a44x, c45x), rfl, rfl, ⟨H2.sel' [0, 1, 2, 3, 4, 5] rfl rfl, m.comp m2⟩, stab [0, 1, 2, 3, 4, 5, 6, 7, 8, 9] (by kernel_rfl) ⟨rfl, rfl, rfl, rfl, rfl, rfl, rfl, rfl, rfl, rfl, trivial⟩⟩
      trivial) ?_
    exact all_nil
   ·rintro ⟨b41, a44, c45⟩ ρ σ46 hJ hoff hrel
    have e1 := look_off (N := 31) (hoff 1 rfl) rfl
    have e5 := look_off (N := 31) (hoff 5 rfl) rfl
    have e11 := look_off (N := 31) (hoff 11 rfl) rfl
    have e12 := look_off (N := 31) (hoff 12 rfl) rfl
    have e13 := look_off (N := 31) (hoff 13 rfl) rfl
    have e18 := hrel 0 rfl 18 rfl
    have e19 := hrel 1 rfl 19 rfl
    have e28 := hrel 10 rfl 28 rfl
    obtain ⟨H, -⟩ := (show Hp S0 σ0 σ46 [Ch.own 0 0 (Sl a44 xs42 c45) xs42, Ch.own n0 0 (Sl (some ⟨b41, 0, none⟩) ([(x31.1, x31.2.1, x31.2.2)] : List (Int × (List Int) × Int)) 1) ([(x31.1, x31.2.1, x31.2.2)] : List (Int × (List Int) × Int)), Ch.ro 0 (Sl a38 x31.2.1 c39) x31.2.1, Ch.big K29, Ch.ro 0 (Sl alist_1 list_1 clist_1) list_1, Ch.own n0 n0 (Sl a8 r5 c9) r5] ∧ Md (fun i => (cov []) i ∨ (fun b => blk (Sl a25 (mget s13.1 x19) c26) = some b) i) σ14 σ46 from hJ)
    clear hJ Hs
    rw [fr_lookL (L := [(1, (Sl alist_1 list_1 clist_1)), (5, (.map (some b15))), (11, (Sl a8 r5 c9)), (12, (I (r5.length : Int))), (13, (I s13.2)), (18, (.map (some b15))), (19, (I x19)), (28, (Sl a44 xs42 c45))]) ⟨e1, e5, e11, e12, e13, e18, e19, e28, trivial⟩]
    clear hoff hrel e1 e5 e11 e12 e13 e18 e19 e28
    replace H := H.sel' [3, 0, 1, 2, 4, 5] rfl rfl
    obtain ⟨K47, hK48, he49⟩ := hK30.put (Sl a44 xs42 c45) xs42
    refine st_exS (he49 (ty := _) H Try.underlying74 Try.underlying3 rfl rfl rfl) wn ?_
    rintro σ50 ⟨H, -⟩
    refine w_end ?_
    refine q_blk ?_
    refine q_then ?_
    refine rg ?_
    refine st (v := (I (w64 (s13.2 + 1)))) (rv_add (a := s13.2) (b := 1) rfl rfl) ?_
    refine st (v := (I (w64 (s13.2 + 1)))) (rv_move rfl) ?_
    refine w_end ?_
    refine q_then ?_
    obtain rfl := Option.some.inj h
    exact ⟨_, rfl, _, σ50, b15, K47, fr_join ⟨rfl, rfl, rfl, rfl, rfl, trivial⟩, rfl, H.sel' [3, 0, 4] rfl rfl, hK48⟩
  ·replace h := bif_f hb18 h
   refine c_exit ?_
   refine q_then_x ?_
   refine q_then_x ?_
   refine q_blk_hit ?_
   obtain rfl := Option.some.inj h
   obtain rfl := hres _ rfl
   exact ⟨rfl, _, σ14, b15, K16, fr_join ⟨rfl, trivial⟩, rfl, H.sel' [1] rfl rfl, hK17⟩
 ·clear hj
  have h := h'
  clear h' H
  rintro e a w ⟨rfl, ρ, σ51, b52, K53, rfl, rfl, H, hK54⟩
  refine q_then ?_
  refine c_seq ?_
  refine rg ?_
  refine st (v := (.map (some b52))) (rv_move rfl) ?_
  refine st (v := (.map (some b52))) (rv_assign rfl) ?_
  refine w_end ?_
  refine q_then ?_
  refine c_ret ?_
  obtain rfl := Option.some.inj h
  exact fin_ret (v := (.map (some b52))) (results_ok Try.results72 (res_tmp (v := (.map (some b52))) rfl res_nil) rfl) ⟨b52, K53, rfl, rfl, hK54⟩ (H.sel' [0] rfl rfl)

theorem c_impl_ListsOf {centres_0 : List (List Int)} {list_1 : List (Int × (List Int) × Int)} {acentres_0 : Option Addr} {ccentres_0 : Nat} {alist_1 : Option Addr} {clist_1 : Nat} {r : (List (List Int))} (h : M.impl_ListsOf centres_0 list_1 = some r) :
    Cal2 Try.prog 43 [(Sl acentres_0 centres_0 ccentres_0), (Sl alist_1 list_1 clist_1)] [Ch.ro 0 (Sl acentres_0 centres_0 ccentres_0) centres_0, Ch.ro 0 (Sl alist_1 list_1 clist_1) list_1] (fun n0 v L => ∃ (az1 : Option Addr), ∃ (cz2 : Nat), ∃ (Kz3 : List Ch), v = (Sl az1 r cz2) ∧ L = [Ch.big Kz3] ∧ Dp 0 (Sl az1 r cz2) r Kz3 ∧ cz2 = r.length) := by
 refine cal2 (n := 32) Try.func43 rfl rfl rfl rfl ?_
 intro S0 σ0 n0 hn0 H
 unfold M.impl_ListsOf at h
 refine c_seq ?_
 refine rg ?_
 refine st (v := (.slice none 0 0)) (rv_assign rfl) ?_
 refine w_end ?_
 refine q_then ?_
 refine c_seq ?_
 refine c_seq ?_
 refine rg ?_
 refine st (v := (Sl acentres_0 centres_0 ccentres_0)) (rv_move rfl) ?_
 refine st (v := (Sl alist_1 list_1 clist_1)) (rv_move rfl) ?_
 obtain ⟨r1, hx2, h'⟩ := bind_some h
 clear h
 have h := h'; clear h'
 have hc3 := c_impl_validClusters (acentres_0 := acentres_0) (ccentres_0 := ccentres_0) (alist_1 := alist_1) (clist_1 := clist_1) hx2
 refine st_call (cx_call hc3 (ent_f hc3.fn rfl) hn0 (show Hp S0 σ0 _ ([Ch.ro 0 (Sl acentres_0 centres_0 ccentres_0) centres_0, Ch.ro 0 (Sl alist_1 list_1 clist_1) list_1] ++ [Ch.ro 0 (Sl acentres_0 centres_0 ccentres_0) centres_0, Ch.ro 0 (Sl alist_1 list_1 clist_1) list_1]) from (H.sel' [0, 1, 0, 1] rfl rfl))) wn ?_
 rintro _ σ4 ⟨_, ⟨rfl, rfl⟩, H, -⟩
 replace H : Hp S0 σ0 σ4 [Ch.ro 0 (Sl acentres_0 centres_0 ccentres_0) centres_0, Ch.ro 0 (Sl alist_1 list_1 clist_1) list_1] := H
 refine st (v := (B (!r1))) (rv_not rfl) ?_
 refine w_end ?_
 refine q_then ?_
 refine cd_cond (!r1) rfl (fun hb5 => ?_) (fun hb5 => ?_)
 ·replace h := bif_t hb5 h
  refine c_seq ?_
  refine rg ?_
  refine st (v := (.slice none 0 0)) (rv_assign rfl) ?_
  refine w_end ?_
  refine q_then ?_
  refine c_ret ?_
  refine q_then_r ?_
  obtain ⟨K6, hK7, H⟩ := H.nilDp (List Int) 0
  obtain rfl := Option.some.inj h
  exact fin_ret (v := (.slice none 0 0)) (results_ok Try.results43 (res_tmp (v := (.slice none 0 0)) rfl res_nil) rfl) ⟨none, 0, K6, rfl, rfl, hK7, rfl⟩ (H.sel' [0] rfl rfl)
 ·replace h := bif_f hb5 h
  refine c_skip ?_
  refine q_then ?_
  refine c_seq ?_
  refine rg ?_
  refine st (v := (Sl acentres_0 centres_0 ccentres_0)) (rv_move rfl) ?_
  refine st (v := (Sl alist_1 list_1 clist_1)) (rv_move rfl) ?_
  obtain ⟨r8, hx9, h'⟩ := bind_some h
  clear h
  have h := h'; clear h'
  have hc10 := c_impl_itemsByCentre (acentres_0 := acentres_0) (ccentres_0 := ccentres_0) (alist_1 := alist_1) (clist_1 := clist_1) hx9
  refine st_call (cx_call hc10 (ent_f hc10.fn rfl) hn0 (show Hp S0 σ0 _ ([Ch.ro 0 (Sl acentres_0 centres_0 ccentres_0) centres_0, Ch.ro 0 (Sl alist_1 list_1 clist_1) list_1] ++ [Ch.ro 0 (Sl acentres_0 centres_0 ccentres_0) centres_0, Ch.ro 0 (Sl alist_1 list_1 clist_1) list_1]) from (H.sel' [0, 1, 0, 1] rfl rfl))) wn ?_
  rintro _ σ14 ⟨_, ⟨b11, K12, rfl, rfl, hK13⟩, H, -⟩
  replace H : Hp S0 σ0 σ14 [Ch.big K12, Ch.ro 0 (Sl acentres_0 centres_0 ccentres_0) centres_0, Ch.ro 0 (Sl alist_1 list_1 clist_1) list_1] := H
  refine st (v := (.map (some b11))) (rv_assign rfl) ?_
  refine w_end ?_
  refine q_then ?_
  refine c_seq ?_
  refine rg ?_
  refine st (v := (Sl acentres_0 centres_0 ccentres_0)) (rv_move rfl) ?_
  refine st (v := (I (centres_0.length : Int))) (rv_len Try.underlying22 rfl) ?_
  obtain ⟨xs15, hx16, h'⟩ := bind_some h
  clear h
  have h := h'; clear h'
  obtain ⟨k21, he22, hv23⟩ := gmake_dp (zv := (.slice none 0 0 : Value)) hx16
  refine st_ex (ex_make (el := n0) (z0 := (.slice none 0 0 : Value)) (zs := [(.slice none 0 0)]) H hn0 Try.underlying22 ti24 rfl rfl (⟨rfl, rfl⟩) (by decide) hv23 rfl rfl) wn ?_
  rintro _ σ27 ⟨b17, c18, rfl, ht19, H, -⟩
  have hs26 : (Sl (some ⟨b17, 0, none⟩) (List.replicate k21 (.slice none 0 0 : Value)) c18) = (Sl (some ⟨b17, 0, none⟩) xs15 c18) := sl_len (by rw [he22]; simp)
  rw [hs26] at H ⊢
  obtain ⟨K24, hK25, H⟩ := H.dpMake (z := ([] : List Int)) rfl rfl
  rw [← he22] at hK25; clear he22 hv23 hs26
  replace ht19 := ht19.trans (gmake_len hx16).symm
  refine st (v := (Sl (some ⟨b17, 0, none⟩) xs15 c18)) (rv_assign rfl) ?_
  refine w_end ?_
  refine q_then ?_
  refine c_seq ?_
  refine c_seq ?_
  refine rg ?_
  refine st (v := (Sl (some ⟨b17, 0, none⟩) xs15 c18)) (rv_move rfl) ?_
  refine st (v := (I (xs15.length : Int))) (rv_len Try.underlying22 rfl) ?_
  refine st (v := (I 0)) (rv_move rfl) ?_
  refine w_end ?_
  refine q_then ?_
  obtain ⟨o28, hj, h'⟩ := bind_some h
  clear h
  refine c_cut (fun e a w => e = .normal ∧ ∃ (ρ : Nat → Value) (σ : St) (Kj1 : List Ch), a = fr 32 (updL ρ [(6, (Sl (some ⟨b17, 0, none⟩) o28 c18))]) ∧ w = σ.w ∧ Hp S0 σ0 σ [Ch.big Kj1] ∧ Dp n0 (Sl (some ⟨b17, 0, none⟩) o28 c18) o28 Kj1 ∧ c18 = o28.length ∧ o28.length = xs15.length) ?_ ?_
  ·clear h'
   rename _ = some o28 => h
   refine c_blk ?_
   obtain ⟨σ30, hw31, H, -⟩ := H.mpPub 1 rfl hK13
   rw [← hw31]; clear hw31
   refine wp_loopM _ h (fun s29 a w => ∃ (ρ : Nat → Value) (σ : St) (Kj1 : List Ch), a = fr 32 (updL ρ [(5, (.map (some b11))), (6, (Sl (some ⟨b17, 0, none⟩) s29.1 c18)), (19, (I (xs15.length : Int))), (20, (I s29.2))]) ∧ w = σ.w ∧ Hp S0 σ0 σ [Ch.mr b11 r8, Ch.big Kj1] ∧ Dp n0 (Sl (some ⟨b17, 0, none⟩) s29.1 c18) s29.1 Kj1 ∧ c18 = s29.1.length ∧ s29.1.length = xs15.length) ⟨_, σ30, K24, fr_join ⟨rfl, rfl, rfl, rfl, trivial⟩, rfl, H.sel' [0, 1] rfl rfl, hK25, ht19, rfl⟩ ?_
   clear h H
   rintro s29 a w o ⟨ρ, σ32, K33, rfl, rfl, H, hK34, ht35, hn36⟩ h hres
   refine c_seq ?_
   refine rg ?_
   refine st (v := (B (decide (s29.2 < (xs15.length : Int))))) (rv_lss (a := s29.2) (b := (xs15.length : Int)) rfl rfl) ?_
   refine w_end ?_
   refine q_then ?_
   refine c_seq ?_
   refine cd_cond (decide (s29.2 < (xs15.length : Int))) rfl (fun hb37 => ?_) (fun hb37 => ?_)
   ·replace h := bif_t hb37 h
    refine c_skip ?_
    refine q_then ?_
    refine c_seq ?_
    refine c_blk ?_
    refine c_seq ?_
    refine rg ?_
    refine st (v := (I s29.2)) (rv_move rfl) ?_
    refine st (v := (I s29.2)) (rv_assign rfl) ?_
    refine w_end ?_
    refine q_then ?_
    refine rg ?_
    refine st (v := (Sl (some ⟨b17, 0, none⟩) s29.1 c18)) (rv_move rfl) ?_
    refine st (v := (I s29.2)) (rv_move rfl) ?_
    refine st (v := (.map (some b11))) (rv_move rfl) ?_
    refine st (v := (I s29.2)) (rv_move rfl) ?_
    obtain ⟨v41, hL40, hR42⟩ := mrGet (H.mr 0 rfl) s29.2
    obtain ⟨a38, c39, rfl⟩ := hR42.isSl
    replace H := H.add (d := Ch.ro 0 (Sl a38 (mget r8 s29.2) c39) (mget r8 s29.2)) hR42 (fun _ h => h)
    clear hR42
    refine st (v := (Sl a38 (mget r8 s29.2) c39)) (rv_lookup Try.underlying74 Try.underlying3 ti37 rfl rfl hL40) ?_
    obtain ⟨r43, hx44, h'⟩ := bind_some h
    clear h
    have h := h'; clear h'
    have hc45 := c_impl_keysOf (alist_0 := a38) (clist_0 := c39) hx44
    refine st_call (cx_call hc45 (ent_f hc45.fn rfl) hn0 (show Hp S0 σ0 _ ([Ch.ro 0 (Sl a38 (mget r8 s29.2) c39) (mget r8 s29.2)] ++ [Ch.ro 0 (Sl a38 (mget r8 s29.2) c39) (mget r8 s29.2), Ch.mr b11 r8, Ch.big K33]) from (H.sel' [0, 0, 1, 2] rfl rfl))) wn ?_
    rintro _ σ49 ⟨_, ⟨a46, c47, rfl, rfl, ht48⟩, H, -⟩
    replace H : Hp S0 σ0 σ49 [Ch.own n0 n0 (Sl a46 r43 c47) r43, Ch.ro 0 (Sl a38 (mget r8 s29.2) c39) (mget r8 s29.2), Ch.mr b11 r8, Ch.big K33] := H
    obtain ⟨x50, hx51, h'⟩ := bind_some h
    clear h
    have h := h'; clear h'
    obtain ⟨b53, o54, hi52⟩ := H.dpIx 3 rfl hK34 hx51
    refine st (v := (pt b53 o54)) (rv_ix Try.underlying22 ti24 rfl rfl hi52) ?_
    obtain ⟨v55, K56, H, hK57⟩ := H.dpOut 3 rfl hK34 hx51
    replace H := H.tail
    replace H := H.sel' [0, 1, 2, 3] rfl rfl
    obtain ⟨K58, hK59, he60⟩ := hK57.put (r43 : List Int) (Sl a46 r43 c47)
    refine st_exS (he60 (ty := _) (k := 0) (vs := [(Sl a46 r43 c47)]) H ti24 hi52 rfl rfl rfl rfl rfl (Nat.le_of_ble_eq_true rfl) (by simp [plain]) (by rintro _ _ ⟨rfl, _⟩; exact ⟨rfl, rfl⟩)) wn ?_
    rintro σ61 ⟨H, -⟩
    have hsl : (Sl (some ⟨b17, 0, none⟩) s29.1 c18) = (Sl (some ⟨b17, 0, none⟩) (s29.1.set s29.2.toNat r43) c18) := sl_len List.length_set.symm
    rw [hsl]; rw [hsl] at hK59; clear hsl
    refine w_end ?_
    refine q_blk ?_
    refine q_then ?_
    refine rg ?_
    refine st (v := (I (w64 (s29.2 + 1)))) (rv_add (a := s29.2) (b := 1) rfl rfl) ?_
    refine st (v := (I (w64 (s29.2 + 1)))) (rv_move rfl) ?_
    refine w_end ?_
    refine q_then ?_
    obtain rfl := Option.some.inj h
    exact ⟨_, rfl, _, σ61, K58, fr_join ⟨rfl, rfl, rfl, rfl, trivial⟩, rfl, H.sel' [2, 0] rfl rfl, hK59, (ht35.trans List.length_set.symm), (List.length_set.trans hn36)⟩
   ·replace h := bif_f hb37 h
    refine c_exit ?_
    refine q_then_x ?_
    refine q_then_x ?_
    refine q_blk_hit ?_
    obtain rfl := Option.some.inj h
    obtain rfl := hres _ rfl
    exact ⟨rfl, _, σ32, K33, fr_join ⟨rfl, trivial⟩, rfl, H.sel' [1] rfl rfl, hK34, ht35, hn36⟩
  ·clear hj
   have h := h'
   clear h' H
   rintro e a w ⟨rfl, ρ, σ62, K63, rfl, rfl, H, hK64, ht65, hn66⟩
   refine q_then ?_
   refine c_seq ?_
   refine rg ?_
   refine st (v := (Sl (some ⟨b17, 0, none⟩) o28 c18)) (rv_move rfl) ?_
   refine st (v := (Sl (some ⟨b17, 0, none⟩) o28 c18)) (rv_assign rfl) ?_
   refine w_end ?_
   refine q_then ?_
   refine c_ret ?_
   obtain ⟨K67, hK68, H⟩ := H.dpLow (lo' := 0) 0 rfl hK64 (Nat.zero_le _)
   obtain rfl := Option.some.inj h
   exact fin_ret (v := (Sl (some ⟨b17, 0, none⟩) o28 c18)) (results_ok Try.results43 (res_tmp (v := (Sl (some ⟨b17, 0, none⟩) o28 c18)) rfl res_nil) rfl) ⟨(some ⟨b17, 0, none⟩), c18, K67, rfl, rfl, hK68, ht65⟩ (H.sel' [0] rfl rfl)

theorem c_laws_FnExactListsOf {aCentres_0 : List (List Int)} {aList_1 : List (Int × (List Int) × Int)} {aaCentres_0 : Option Addr} {caCentres_0 : Nat} {aaList_1 : Option Addr} {caList_1 : Nat} {r : Bool} (h : M.laws_FnExactListsOf aCentres_0 aList_1 = some r) :
    Cal2 Try.prog 11 [(Sl aaCentres_0 aCentres_0 caCentres_0), (Sl aaList_1 aList_1 caList_1)] [Ch.ro 0 (Sl aaCentres_0 aCentres_0 caCentres_0) aCentres_0, Ch.ro 0 (Sl aaList_1 aList_1 caList_1) aList_1] (fun n0 v L => v = (B r) ∧ L = []) := by
 refine cal2 (n := 92) Try.func11 rfl rfl rfl rfl ?_
 intro S0 σ0 n0 hn0 H
 unfold M.laws_FnExactListsOf at h
 refine c_seq ?_
 refine rg ?_
 refine st (v := (B false)) (rv_assign rfl) ?_
 refine w_end ?_
 refine q_then ?_
 refine c_seq ?_
 refine rg ?_
 refine st (v := (I 1048576)) (rv_assign rfl) ?_
 refine w_end ?_
 refine q_then ?_
 refine c_seq ?_
 refine rg ?_
 refine st (v := (Sl aaCentres_0 aCentres_0 caCentres_0)) (rv_move rfl) ?_
 refine st (v := (I 1048576)) (rv_move rfl) ?_
 obtain ⟨r1, hx2, h'⟩ := bind_some h
 clear h
 have h := h'; clear h'
 have hc3 := c_laws_szIntSS (aa_0 := aaCentres_0) (ca_0 := caCentres_0) hx2
 refine st_call (cx_call hc3 (ent_f hc3.fn rfl) hn0 (show Hp S0 σ0 _ ([Ch.ro 0 (Sl aaCentres_0 aCentres_0 caCentres_0) aCentres_0] ++ [Ch.ro 0 (Sl aaCentres_0 aCentres_0 caCentres_0) aCentres_0, Ch.ro 0 (Sl aaList_1 aList_1 caList_1) aList_1]) from (H.sel' [0, 0, 1] rfl rfl))) wn ?_
 rintro _ σ4 ⟨_, ⟨rfl, rfl⟩, H, -⟩
 replace H : Hp S0 σ0 σ4 [Ch.ro 0 (Sl aaCentres_0 aCentres_0 caCentres_0) aCentres_0, Ch.ro 0 (Sl aaList_1 aList_1 caList_1) aList_1] := H
 refine st (v := (I r1)) (rv_assign rfl) ?_
 refine w_end ?_
 refine q_then ?_
 refine c_seq ?_
 refine c_seq ?_
 refine rg ?_
 refine st (v := (I r1)) (rv_move rfl) ?_
 refine st (v := (B (decide (r1 < 0)))) (rv_lss (a := r1) (b := 0) rfl rfl) ?_
 refine w_end ?_
 refine q_then ?_
 refine cd_cond (decide (r1 < 0)) rfl (fun hb5 => ?_) (fun hb5 => ?_)
 ·replace h := bif_t hb5 h
  refine c_seq ?_
  refine rg ?_
  refine st (v := (B true)) (rv_assign rfl) ?_
  refine w_end ?_
  refine q_then ?_
  refine c_ret ?_
  refine q_then_r ?_
  obtain rfl := Option.some.inj h
  exact fin_ret (v := (B true)) (results_ok Try.results11 (res_tmp (v := (B true)) rfl res_nil) rfl) ⟨rfl, rfl⟩ (H.sel' [] rfl rfl)
 ·replace h := bif_f hb5 h
  refine c_skip ?_
  refine q_then ?_
  refine c_seq ?_
  refine rg ?_
  refine st (v := (Sl aaList_1 aList_1 caList_1)) (rv_move rfl) ?_
  refine st (v := (I r1)) (rv_move rfl) ?_
  obtain ⟨r6, hx7, h'⟩ := bind_some h
  clear h
  have h := h'; clear h'
  have hc8 := c_laws_szItemS (aa_0 := aaList_1) (ca_0 := caList_1) hx7
  refine st_call (cx_call hc8 (ent_f hc8.fn rfl) hn0 (show Hp S0 σ0 _ ([Ch.ro 0 (Sl aaList_1 aList_1 caList_1) aList_1] ++ [Ch.ro 0 (Sl aaCentres_0 aCentres_0 caCentres_0) aCentres_0, Ch.ro 0 (Sl aaList_1 aList_1 caList_1) aList_1]) from (H.sel' [1, 0, 1] rfl rfl))) wn ?_
  rintro _ σ9 ⟨_, ⟨rfl, rfl⟩, H, -⟩
  replace H : Hp S0 σ0 σ9 [Ch.ro 0 (Sl aaCentres_0 aCentres_0 caCentres_0) aCentres_0, Ch.ro 0 (Sl aaList_1 aList_1 caList_1) aList_1] := H
  refine st (v := (I r6)) (rv_assign rfl) ?_
  refine w_end ?_
  refine q_then ?_
  refine c_seq ?_
  refine c_seq ?_
  refine rg ?_
  refine st (v := (I r6)) (rv_move rfl) ?_
  refine st (v := (B (decide (r6 < 0)))) (rv_lss (a := r6) (b := 0) rfl rfl) ?_
  refine w_end ?_
  refine q_then ?_
  refine cd_cond (decide (r6 < 0)) rfl (fun hb10 => ?_) (fun hb10 => ?_)
  ·replace h := bif_t hb10 h
   refine c_seq ?_
   refine rg ?_
   refine st (v := (B true)) (rv_assign rfl) ?_
   refine w_end ?_
   refine q_then ?_
   refine c_ret ?_
   refine q_then_r ?_
   obtain rfl := Option.some.inj h
   exact fin_ret (v := (B true)) (results_ok Try.results11 (res_tmp (v := (B true)) rfl res_nil) rfl) ⟨rfl, rfl⟩ (H.sel' [] rfl rfl)
  ·replace h := bif_f hb10 h
   refine c_skip ?_
   refine q_then ?_
   refine c_seq ?_
   refine rg ?_
   refine st (v := (Sl aaCentres_0 aCentres_0 caCentres_0)) (rv_move rfl) ?_
   obtain ⟨r11, hx12, h'⟩ := bind_some h
   clear h
   have h := h'; clear h'
   have hc13 := c_laws_toIntSS (aa_0 := aaCentres_0) (ca_0 := caCentres_0) hx12
   refine st_call (cx_call hc13 (ent_f hc13.fn rfl) hn0 (show Hp S0 σ0 _ ([Ch.ro 0 (Sl aaCentres_0 aCentres_0 caCentres_0) aCentres_0] ++ [Ch.ro 0 (Sl aaCentres_0 aCentres_0 caCentres_0) aCentres_0, Ch.ro 0 (Sl aaList_1 aList_1 caList_1) aList_1]) from (H.sel' [0, 0, 1] rfl rfl))) wn ?_
   rintro _ σ18 ⟨_, ⟨a14, c15, K16, rfl, rfl, hK17⟩, H, -⟩
   replace H : Hp S0 σ0 σ18 [Ch.big K16, Ch.ro 0 (Sl aaCentres_0 aCentres_0 caCentres_0) aCentres_0, Ch.ro 0 (Sl aaList_1 aList_1 caList_1) aList_1] := H
   refine st (v := (Sl aaList_1 aList_1 caList_1)) (rv_move rfl) ?_
   obtain ⟨r19, hx20, h'⟩ := bind_some h
   clear h
   have h := h'; clear h'
   have hc21 := c_laws_toItemS (aa_0 := aaList_1) (ca_0 := caList_1) hx20
   refine st_call (cx_call hc21 (ent_f hc21.fn rfl) hn0 (show Hp S0 σ0 _ ([Ch.ro 0 (Sl aaList_1 aList_1 caList_1) aList_1] ++ [Ch.big K16, Ch.ro 0 (Sl aaCentres_0 aCentres_0 caCentres_0) aCentres_0, Ch.ro 0 (Sl aaList_1 aList_1 caList_1) aList_1]) from (H.sel' [2, 0, 1, 2] rfl rfl))) wn ?_
   rintro _ σ26 ⟨_, ⟨a22, c23, K24, rfl, rfl, hK25⟩, H, -⟩
   replace H : Hp S0 σ0 σ26 [Ch.big K24, Ch.big K16, Ch.ro 0 (Sl aaCentres_0 aCentres_0 caCentres_0) aCentres_0, Ch.ro 0 (Sl aaList_1 aList_1 caList_1) aList_1] := H
   obtain ⟨r27, hx28, h'⟩ := bind_some h
   clear h
   have h := h'; clear h'
   have hc29 := c_spec_ListsOf (acentres_0 := a14) (ccentres_0 := c15) (alist_1 := a22) (clist_1 := c23) hx28
   have hle := Nat.le_trans hn0 H.size
   refine st_call (cx_lend (Loan.lendB hK17.lends (Loan.lendB hK25.lends Loan.nil)) hc29 (ent_f hc29.fn rfl) (show Hp S0 σ0 _ ([Ch.big K16, Ch.big K24] ++ ([] ++ [Ch.ro 0 (Sl aaCentres_0 aCentres_0 caCentres_0) aCentres_0, Ch.ro 0 (Sl aaList_1 aList_1 caList_1) aList_1])) from (H.sel' [1, 0, 2, 3] rfl rfl)) (by rintro _ _ _ ⟨_, _, rfl, rfl⟩; exact ⟨Ab.own (Nat.le_refl _), trivial⟩)) wn ?_
   rintro _ σ32 ⟨_, ⟨a30, c31, rfl, rfl⟩, H, -, -⟩
   replace H : Hp S0 σ0 σ32 [Ch.own σ26.size σ26.size (Sl a30 r27 c31) r27, Ch.big K16, Ch.big K24, Ch.ro 0 (Sl aaCentres_0 aCentres_0 caCentres_0) aCentres_0, Ch.ro 0 (Sl aaList_1 aList_1 caList_1) aList_1] := H
   replace H := H.ownLow 0 n0 n0 rfl hle hle
   clear hle
   replace H : Hp S0 σ0 σ32 [Ch.own n0 n0 (Sl a30 r27 c31) r27, Ch.big K16, Ch.big K24, Ch.ro 0 (Sl aaCentres_0 aCentres_0 caCentres_0) aCentres_0, Ch.ro 0 (Sl aaList_1 aList_1 caList_1) aList_1] := H
   refine st (v := (Sl a30 r27 c31)) (rv_assign rfl) ?_
   refine w_end ?_
   refine q_then ?_
   refine c_seq ?_
   refine rg ?_
   refine st (v := (Sl aaCentres_0 aCentres_0 caCentres_0)) (rv_move rfl) ?_
   obtain ⟨r33, hx34, h'⟩ := bind_some h
   clear h
   have h := h'; clear h'
   have hc35 := c_laws_toIntSS (aa_0 := aaCentres_0) (ca_0 := caCentres_0) hx34
   refine st_call (cx_call hc35 (ent_f hc35.fn rfl) hn0 (show Hp S0 σ0 _ ([Ch.ro 0 (Sl aaCentres_0 aCentres_0 caCentres_0) aCentres_0] ++ [Ch.own n0 n0 (Sl a30 r27 c31) r27, Ch.big K16, Ch.big K24, Ch.ro 0 (Sl aaCentres_0 aCentres_0 caCentres_0) aCentres_0, Ch.ro 0 (Sl aaList_1 aList_1 caList_1) aList_1]) from (H.sel' [3, 0, 1, 2, 3, 4] rfl rfl))) wn ?_
   rintro _ σ40 ⟨_, ⟨a36, c37, K38, rfl, rfl, hK39⟩, H, -⟩
   replace H : Hp S0 σ0 σ40 [Ch.big K38, Ch.own n0 n0 (Sl a30 r27 c31) r27, Ch.big K16, Ch.big K24, Ch.ro 0 (Sl aaCentres_0 aCentres_0 caCentres_0) aCentres_0, Ch.ro 0 (Sl aaList_1 aList_1 caList_1) aList_1] := H
   refine st (v := (Sl a36 r33 c37)) (rv_assign rfl) ?_
   refine w_end ?_
   refine q_then ?_
   refine c_seq ?_
   refine rg ?_
   refine st (v := (Sl aaList_1 aList_1 caList_1)) (rv_move rfl) ?_
   obtain ⟨r41, hx42, h'⟩ := bind_some h
   clear h
   have h := h'; clear h'
   have hc43 := c_laws_toItemS (aa_0 := aaList_1) (ca_0 := caList_1) hx42
   refine st_call (cx_call hc43 (ent_f hc43.fn rfl) hn0 (show Hp S0 σ0 _ ([Ch.ro 0 (Sl aaList_1 aList_1 caList_1) aList_1] ++ [Ch.big K38, Ch.own n0 n0 (Sl a30 r27 c31) r27, Ch.big K16, Ch.big K24, Ch.ro 0 (Sl aaCentres_0 aCentres_0 caCentres_0) aCentres_0, Ch.ro 0 (Sl aaList_1 aList_1 caList_1) aList_1]) from (H.sel' [5, 0, 1, 2, 3, 4, 5] rfl rfl))) wn ?_
   rintro _ σ48 ⟨_, ⟨a44, c45, K46, rfl, rfl, hK47⟩, H, -⟩
   replace H : Hp S0 σ0 σ48 [Ch.big K46, Ch.big K38, Ch.own n0 n0 (Sl a30 r27 c31) r27, Ch.big K16, Ch.big K24, Ch.ro 0 (Sl aaCentres_0 aCentres_0 caCentres_0) aCentres_0, Ch.ro 0 (Sl aaList_1 aList_1 caList_1) aList_1] := H
   refine st (v := (Sl a44 r41 c45)) (rv_assign rfl) ?_
   refine w_end ?_
   refine q_then ?_
   refine c_seq ?_
   refine rg ?_
   refine st (v := (Sl a36 r33 c37)) (rv_move rfl) ?_
   refine st (v := (Sl a44 r41 c45)) (rv_move rfl) ?_
   obtain ⟨r49, hx50, h'⟩ := bind_some h
   clear h
   have h := h'; clear h'
   have hc51 := c_impl_ListsOf (acentres_0 := a36) (ccentres_0 := c37) (alist_1 := a44) (clist_1 := c45) hx50
   have hle := Nat.le_trans hn0 H.size
   refine st_call (cx_lend (Loan.lendB hK39.lends (Loan.lendB hK47.lends Loan.nil)) hc51 (ent_f hc51.fn rfl) (show Hp S0 σ0 _ ([Ch.big K38, Ch.big K46] ++ ([] ++ [Ch.own n0 n0 (Sl a30 r27 c31) r27, Ch.big K16, Ch.big K24, Ch.ro 0 (Sl aaCentres_0 aCentres_0 caCentres_0) aCentres_0, Ch.ro 0 (Sl aaList_1 aList_1 caList_1) aList_1])) from (H.sel' [1, 0, 2, 3, 4, 5, 6] rfl rfl)) (by rintro _ _ _ ⟨_, _, _, rfl, rfl, hK55, _⟩; exact ⟨Dp.abSc hK55, trivial⟩)) wn ?_
   rintro _ σ57 ⟨_, ⟨a52, c53, K54, rfl, rfl, hK55, ht56⟩, H, -, -⟩
   replace H : Hp S0 σ0 σ57 [Ch.big K54, Ch.big K38, Ch.big K46, Ch.own n0 n0 (Sl a30 r27 c31) r27, Ch.big K16, Ch.big K24, Ch.ro 0 (Sl aaCentres_0 aCentres_0 caCentres_0) aCentres_0, Ch.ro 0 (Sl aaList_1 aList_1 caList_1) aList_1] := H
   clear hle
   replace H : Hp S0 σ0 σ57 [Ch.big K54, Ch.big K38, Ch.big K46, Ch.own n0 n0 (Sl a30 r27 c31) r27, Ch.big K16, Ch.big K24, Ch.ro 0 (Sl aaCentres_0 aCentres_0 caCentres_0) aCentres_0, Ch.ro 0 (Sl aaList_1 aList_1 caList_1) aList_1] := H
   replace H : Hp S0 σ0 σ57 [Ch.big K54, Ch.big K38, Ch.big K46, Ch.own n0 n0 (Sl a30 r27 c31) r27, Ch.ro 0 (Sl aaCentres_0 aCentres_0 caCentres_0) aCentres_0, Ch.ro 0 (Sl aaList_1 aList_1 caList_1) aList_1] := H.sel' [0, 1, 2, 3, 6, 7] rfl rfl
   refine st (v := (Sl a52 r49 c53)) (rv_assign rfl) ?_
   refine w_end ?_
   refine q_then ?_
   refine c_seq ?_
   refine c_seq ?_
   refine rg ?_
   refine st (v := (Sl a52 r49 c53)) (rv_move rfl) ?_
   refine st (v := (Sl a30 r27 c31)) (rv_move rfl) ?_
   obtain ⟨r58, hx59, h'⟩ := bind_some h
   clear h
   have h := h'; clear h'
   have hc60 := c_laws_eqIntSS (aa_0 := a52) (ca_0 := c53) (ab_1 := a30) (cb_1 := c31) hx59
   have hle := Nat.le_trans hn0 H.size
   refine st_call (cx_lend (Loan.lendB hK55.lends (Loan.lend Loan.nil)) hc60 (ent_f hc60.fn rfl) (show Hp S0 σ0 _ ([Ch.big K54, Ch.own n0 n0 (Sl a30 r27 c31) r27] ++ ([] ++ [Ch.big K38, Ch.big K46, Ch.ro 0 (Sl aaCentres_0 aCentres_0 caCentres_0) aCentres_0, Ch.ro 0 (Sl aaList_1 aList_1 caList_1) aList_1])) from (H.sel' [0, 3, 1, 2, 4, 5] rfl rfl)) (by rintro _ _ _ ⟨rfl, rfl⟩; exact trivial)) wn ?_
   rintro _ σ61 ⟨_, ⟨rfl, rfl⟩, H, -, -⟩
   replace H : Hp S0 σ0 σ61 [Ch.big K54, Ch.own n0 n0 (Sl a30 r27 c31) r27, Ch.big K38, Ch.big K46, Ch.ro 0 (Sl aaCentres_0 aCentres_0 caCentres_0) aCentres_0, Ch.ro 0 (Sl aaList_1 aList_1 caList_1) aList_1] := H
   clear hle
   replace H : Hp S0 σ0 σ61 [Ch.big K54, Ch.own n0 n0 (Sl a30 r27 c31) r27, Ch.big K38, Ch.big K46, Ch.ro 0 (Sl aaCentres_0 aCentres_0 caCentres_0) aCentres_0, Ch.ro 0 (Sl aaList_1 aList_1 caList_1) aList_1] := H
   refine st (v := (B (!r58))) (rv_not rfl) ?_
   refine w_end ?_
   refine q_then ?_
   refine cd_cond (!r58) rfl (fun hb62 => ?_) (fun hb62 => ?_)
   ·replace h := bif_t hb62 h
    refine c_seq ?_
    refine rg ?_
    refine st (v := (B false)) (rv_assign rfl) ?_
    refine w_end ?_
    refine q_then ?_
    refine c_ret ?_
    refine q_then_r ?_
    obtain rfl := Option.some.inj h
    exact fin_ret (v := (B false)) (results_ok Try.results11 (res_tmp (v := (B false)) rfl res_nil) rfl) ⟨rfl, rfl⟩ (H.sel' [] rfl rfl)
   ·replace h := bif_f hb62 h
    refine c_skip ?_
    refine q_then ?_
    refine c_seq ?_
    refine c_seq ?_
    refine rg ?_
    refine st (v := (Sl a36 r33 c37)) (rv_move rfl) ?_
    refine st (v := (Sl aaCentres_0 aCentres_0 caCentres_0)) (rv_move rfl) ?_
    obtain ⟨r63, hx64, h'⟩ := bind_some h
    clear h
    have h := h'; clear h'
    have hc65 := c_laws_toIntSS (aa_0 := aaCentres_0) (ca_0 := caCentres_0) hx64
    refine st_call (cx_call hc65 (ent_f hc65.fn rfl) hn0 (show Hp S0 σ0 _ ([Ch.ro 0 (Sl aaCentres_0 aCentres_0 caCentres_0) aCentres_0] ++ [Ch.big K54, Ch.own n0 n0 (Sl a30 r27 c31) r27, Ch.big K38, Ch.big K46, Ch.ro 0 (Sl aaCentres_0 aCentres_0 caCentres_0) aCentres_0, Ch.ro 0 (Sl aaList_1 aList_1 caList_1) aList_1]) from (H.sel' [4, 0, 1, 2, 3, 4, 5] rfl rfl))) wn ?_
    rintro _ σ70 ⟨_, ⟨a66, c67, K68, rfl, rfl, hK69⟩, H, -⟩
    replace H : Hp S0 σ0 σ70 [Ch.big K68, Ch.big K54, Ch.own n0 n0 (Sl a30 r27 c31) r27, Ch.big K38, Ch.big K46, Ch.ro 0 (Sl aaCentres_0 aCentres_0 caCentres_0) aCentres_0, Ch.ro 0 (Sl aaList_1 aList_1 caList_1) aList_1] := H
    obtain ⟨r71, hx72, h'⟩ := bind_some h
    clear h
    have h := h'; clear h'
    have hc73 := c_laws_eqIntSS (aa_0 := a36) (ca_0 := c37) (ab_1 := a66) (cb_1 := c67) hx72
    have hle := Nat.le_trans hn0 H.size
    refine st_call (cx_lend (Loan.lendB hK39.lends (Loan.lendB hK69.lends Loan.nil)) hc73 (ent_f hc73.fn rfl) (show Hp S0 σ0 _ ([Ch.big K38, Ch.big K68] ++ ([] ++ [Ch.big K54, Ch.own n0 n0 (Sl a30 r27 c31) r27, Ch.big K46, Ch.ro 0 (Sl aaCentres_0 aCentres_0 caCentres_0) aCentres_0, Ch.ro 0 (Sl aaList_1 aList_1 caList_1) aList_1])) from (H.sel' [3, 0, 1, 2, 4, 5, 6] rfl rfl)) (by rintro _ _ _ ⟨rfl, rfl⟩; exact trivial)) wn ?_
    rintro _ σ74 ⟨_, ⟨rfl, rfl⟩, H, -, -⟩
    replace H : Hp S0 σ0 σ74 [Ch.big K38, Ch.big K68, Ch.big K54, Ch.own n0 n0 (Sl a30 r27 c31) r27, Ch.big K46, Ch.ro 0 (Sl aaCentres_0 aCentres_0 caCentres_0) aCentres_0, Ch.ro 0 (Sl aaList_1 aList_1 caList_1) aList_1] := H
    clear hle
    replace H : Hp S0 σ0 σ74 [Ch.big K38, Ch.big K68, Ch.big K54, Ch.own n0 n0 (Sl a30 r27 c31) r27, Ch.big K46, Ch.ro 0 (Sl aaCentres_0 aCentres_0 caCentres_0) aCentres_0, Ch.ro 0 (Sl aaList_1 aList_1 caList_1) aList_1] := H
    refine st (v := (B (!r71))) (rv_not rfl) ?_
    refine w_end ?_
    refine q_then ?_
    refine cd_cond (!r71) rfl (fun hb75 => ?_) (fun hb75 => ?_)
    ·replace h := bif_t hb75 h
     refine c_seq ?_
     refine rg ?_
     refine st (v := (B false)) (rv_assign rfl) ?_
     refine w_end ?_
     refine q_then ?_
     refine c_ret ?_
     refine q_then_r ?_
     obtain rfl := Option.some.inj h
     exact fin_ret (v := (B false)) (results_ok Try.results11 (res_tmp (v := (B false)) rfl res_nil) rfl) ⟨rfl, rfl⟩ (H.sel' [] rfl rfl)
    ·replace h := bif_f hb75 h
     refine c_skip ?_
     refine q_then ?_
     refine c_seq ?_
     refine c_seq ?_
     refine rg ?_
     refine st (v := (Sl a44 r41 c45)) (rv_move rfl) ?_
     refine st (v := (Sl aaList_1 aList_1 caList_1)) (rv_move rfl) ?_
     obtain ⟨r76, hx77, h'⟩ := bind_some h
     clear h
     have h := h'; clear h'
     have hc78 := c_laws_toItemS (aa_0 := aaList_1) (ca_0 := caList_1) hx77
     refine st_call (cx_call hc78 (ent_f hc78.fn rfl) hn0 (show Hp S0 σ0 _ ([Ch.ro 0 (Sl aaList_1 aList_1 caList_1) aList_1] ++ [Ch.big K38, Ch.big K68, Ch.big K54, Ch.own n0 n0 (Sl a30 r27 c31) r27, Ch.big K46, Ch.ro 0 (Sl aaCentres_0 aCentres_0 caCentres_0) aCentres_0, Ch.ro 0 (Sl aaList_1 aList_1 caList_1) aList_1]) from (H.sel' [6, 0, 1, 2, 3, 4, 5, 6] rfl rfl))) wn ?_
     rintro _ σ83 ⟨_, ⟨a79, c80, K81, rfl, rfl, hK82⟩, H, -⟩
     replace H : Hp S0 σ0 σ83 [Ch.big K81, Ch.big K38, Ch.big K68, Ch.big K54, Ch.own n0 n0 (Sl a30 r27 c31) r27, Ch.big K46, Ch.ro 0 (Sl aaCentres_0 aCentres_0 caCentres_0) aCentres_0, Ch.ro 0 (Sl aaList_1 aList_1 caList_1) aList_1] := H
     replace H : Hp S0 σ0 σ83 [Ch.big K81, Ch.big K38, Ch.big K54, Ch.own n0 n0 (Sl a30 r27 c31) r27, Ch.big K46, Ch.ro 0 (Sl aaCentres_0 aCentres_0 caCentres_0) aCentres_0, Ch.ro 0 (Sl aaList_1 aList_1 caList_1) aList_1] := H.sel' [0, 1, 3, 4, 5, 6, 7] rfl rfl
     obtain ⟨r84, hx85, h'⟩ := bind_some h
     clear h
     have h := h'; clear h'
     have hc86 := c_laws_eqItemS (aa_0 := a44) (ca_0 := c45) (ab_1 := a79) (cb_1 := c80) hx85
     have hle := Nat.le_trans hn0 H.size
     refine st_call (cx_lend (Loan.lendB hK47.lends (Loan.lendB hK82.lends Loan.nil)) hc86 (ent_f hc86.fn rfl) (show Hp S0 σ0 _ ([Ch.big K46, Ch.big K81] ++ ([] ++ [Ch.big K38, Ch.big K54, Ch.own n0 n0 (Sl a30 r27 c31) r27, Ch.ro 0 (Sl aaCentres_0 aCentres_0 caCentres_0) aCentres_0, Ch.ro 0 (Sl aaList_1 aList_1 caList_1) aList_1])) from (H.sel' [4, 0, 1, 2, 3, 5, 6] rfl rfl)) (by rintro _ _ _ ⟨rfl, rfl⟩; exact trivial)) wn ?_
     rintro _ σ87 ⟨_, ⟨rfl, rfl⟩, H, -, -⟩
     replace H : Hp S0 σ0 σ87 [Ch.big K46, Ch.big K81, Ch.big K38, Ch.big K54, Ch.own n0 n0 (Sl a30 r27 c31) r27, Ch.ro 0 (Sl aaCentres_0 aCentres_0 caCentres_0) aCentres_0, Ch.ro 0 (Sl aaList_1 aList_1 caList_1) aList_1] := H
     clear hle
     replace H : Hp S0 σ0 σ87 [Ch.big K46, Ch.big K81, Ch.big K38, Ch.big K54, Ch.own n0 n0 (Sl a30 r27 c31) r27, Ch.ro 0 (Sl aaCentres_0 aCentres_0 caCentres_0) aCentres_0, Ch.ro 0 (Sl aaList_1 aList_1 caList_1) aList_1] := H
     refine st (v := (B (!r84))) (rv_not rfl) ?_
     refine w_end ?_
     refine q_then ?_
     refine cd_cond (!r84) rfl (fun hb88 => ?_) (fun hb88 => ?_)
     ·replace h := bif_t hb88 h
      refine c_seq ?_
      refine rg ?_
      refine st (v := (B false)) (rv_assign rfl) ?_
      refine w_end ?_
      refine q_then ?_
      refine c_ret ?_
      refine q_then_r ?_
      obtain rfl := Option.some.inj h
      exact fin_ret (v := (B false)) (results_ok Try.results11 (res_tmp (v := (B false)) rfl res_nil) rfl) ⟨rfl, rfl⟩ (H.sel' [] rfl rfl)
     ·replace h := bif_f hb88 h
      refine c_skip ?_
      refine q_then ?_
      refine c_seq ?_
      refine rg ?_
      refine st (v := (I 1)) (rv_assign rfl) ?_
      refine w_end ?_
      refine q_then ?_
      refine c_seq ?_
      refine rg ?_
      refine st (v := (Sl a36 r33 c37)) (rv_move rfl) ?_
      refine st (v := (I 1)) (rv_move rfl) ?_
      obtain ⟨r89, hx90, h'⟩ := bind_some h
      clear h
      have h := h'; clear h'
      have hc91 := c_laws_markIntSS (aa_0 := a36) (ca_0 := c37) (hK := hK39) hx90
      refine st_call (cx_call hc91 (ent_f hc91.fn rfl) hn0 (show Hp S0 σ0 _ ([Ch.big K38] ++ [Ch.big K46, Ch.big K81, Ch.big K54, Ch.own n0 n0 (Sl a30 r27 c31) r27, Ch.ro 0 (Sl aaCentres_0 aCentres_0 caCentres_0) aCentres_0, Ch.ro 0 (Sl aaList_1 aList_1 caList_1) aList_1]) from (H.sel' [2, 0, 1, 3, 4, 5, 6] rfl rfl))) wn ?_
      rintro _ σ93 ⟨_, ⟨rfl, rfl, hn92⟩, H, -⟩
      replace H : Hp S0 σ0 σ93 [Ch.ro 0 (Sl a36 r89.2 c37) r89.2, Ch.big K46, Ch.big K81, Ch.big K54, Ch.own n0 n0 (Sl a30 r27 c31) r27, Ch.ro 0 (Sl aaCentres_0 aCentres_0 caCentres_0) aCentres_0, Ch.ro 0 (Sl aaList_1 aList_1 caList_1) aList_1] := H
      have hsl : (Sl a36 r33 c37) = (Sl a36 r89.2 c37) := sl_len hn92.symm
      try rw [hsl]
      try rw [hsl] at H
      clear hsl
      refine st (v := (I r89.1)) (rv_assign rfl) ?_
      refine w_end ?_
      refine q_then ?_
      refine c_seq ?_
      refine rg ?_
      refine st (v := (Sl a44 r41 c45)) (rv_move rfl) ?_
      refine st (v := (I r89.1)) (rv_move rfl) ?_
      obtain ⟨r94, hx95, h'⟩ := bind_some h
      clear h
      have h := h'; clear h'
      have hc96 := c_laws_markItemS (aa_0 := a44) (ca_0 := c45) (hK := hK47) hx95
      refine st_call (cx_call hc96 (ent_f hc96.fn rfl) hn0 (show Hp S0 σ0 _ ([Ch.big K46] ++ [Ch.ro 0 (Sl a36 r89.2 c37) r89.2, Ch.big K81, Ch.big K54, Ch.own n0 n0 (Sl a30 r27 c31) r27, Ch.ro 0 (Sl aaCentres_0 aCentres_0 caCentres_0) aCentres_0, Ch.ro 0 (Sl aaList_1 aList_1 caList_1) aList_1]) from (H.sel' [1, 0, 2, 3, 4, 5, 6] rfl rfl))) wn ?_
      rintro _ σ97 ⟨_, ⟨rfl, rfl⟩, H, -⟩
      replace H : Hp S0 σ0 σ97 [Ch.ro 0 (Sl a36 r89.2 c37) r89.2, Ch.big K81, Ch.big K54, Ch.own n0 n0 (Sl a30 r27 c31) r27, Ch.ro 0 (Sl aaCentres_0 aCentres_0 caCentres_0) aCentres_0, Ch.ro 0 (Sl aaList_1 aList_1 caList_1) aList_1] := H
      refine st (v := (I r94)) (rv_assign rfl) ?_
      refine w_end ?_
      refine q_then ?_
      refine c_seq ?_
      refine c_seq ?_
      obtain ⟨o98, hj, h'⟩ := bind_some h
      clear h
      refine c_cut (fun e a w => e = .normal ∧ ∃ (ρ : Nat → Value) (σ : St), a = fr 92 (updL ρ [(0, (Sl aaCentres_0 aCentres_0 caCentres_0)), (1, (Sl aaList_1 aList_1 caList_1)), (6, (Sl a30 r27 c31)), (9, (Sl a52 r49 c53)), (63, (B o98))]) ∧ w = σ.w ∧ Hp S0 σ0 σ [Ch.ro 0 (Sl aaCentres_0 aCentres_0 caCentres_0) aCentres_0, Ch.ro 0 (Sl aaList_1 aList_1 caList_1) aList_1, Ch.own n0 n0 (Sl a30 r27 c31) r27, Ch.big K54]) ?_ ?_
      ·clear h'
       rename _ = some o98 => h
       refine rg ?_
       refine st (v := (I r94)) (rv_move rfl) ?_
       refine st (v := (B (decide (r94 < 0)))) (rv_lss (a := r94) (b := 0) rfl rfl) ?_
       refine st (v := (B (decide (r94 < 0)))) (rv_move rfl) ?_
       rcases Bool.eq_false_or_eq_true (decide (r94 < 0)) with hb99 | hb99
       ·replace h := bif_t hb99 h
        refine st_skip (congrArg some hb99) ?_
        refine st_skip (congrArg some hb99) ?_
        refine st_skip (congrArg some hb99) ?_
        refine st_skip (congrArg some hb99) ?_
        refine st (v := (B true)) (rv_pick_t (congrArg B hb99) rfl) ?_
        refine w_end ?_
        obtain rfl := Option.some.inj h
        exact ⟨rfl, _, σ97, fr_join ⟨rfl, rfl, rfl, rfl, rfl, trivial⟩, rfl, H.sel' [4, 5, 3, 2] rfl rfl⟩
       ·replace h := bif_f hb99 h
        refine st_g (v := (Sl a52 r49 c53)) (congrArg some hb99) (rv_move rfl) ?_
        refine st_g (v := (Sl a30 r27 c31)) (congrArg some hb99) (rv_move rfl) ?_
        obtain ⟨r100, hx101, h'⟩ := bind_some h
        clear h
        have h := h'; clear h'
        have hc102 := c_laws_eqIntSS (aa_0 := a52) (ca_0 := c53) (ab_1 := a30) (cb_1 := c31) hx101
        have hle := Nat.le_trans hn0 H.size
        refine st_call (cx_lend (Loan.lendB hK55.lends (Loan.lend Loan.nil)) hc102 (ent_f hc102.fn rfl) (show Hp S0 σ0 _ ([Ch.big K54, Ch.own n0 n0 (Sl a30 r27 c31) r27] ++ ([] ++ [Ch.ro 0 (Sl a36 r89.2 c37) r89.2, Ch.big K81, Ch.ro 0 (Sl aaCentres_0 aCentres_0 caCentres_0) aCentres_0, Ch.ro 0 (Sl aaList_1 aList_1 caList_1) aList_1])) from (H.sel' [2, 3, 0, 1, 4, 5] rfl rfl)) (by rintro _ _ _ ⟨rfl, rfl⟩; exact trivial)) (wanted_yes rfl (by exact (congrArg some hb99))) ?_
        rintro _ σ103 ⟨_, ⟨rfl, rfl⟩, H, -, -⟩
        replace H : Hp S0 σ0 σ103 [Ch.big K54, Ch.own n0 n0 (Sl a30 r27 c31) r27, Ch.ro 0 (Sl a36 r89.2 c37) r89.2, Ch.big K81, Ch.ro 0 (Sl aaCentres_0 aCentres_0 caCentres_0) aCentres_0, Ch.ro 0 (Sl aaList_1 aList_1 caList_1) aList_1] := H
        clear hle
        replace H : Hp S0 σ0 σ103 [Ch.big K54, Ch.own n0 n0 (Sl a30 r27 c31) r27, Ch.ro 0 (Sl a36 r89.2 c37) r89.2, Ch.big K81, Ch.ro 0 (Sl aaCentres_0 aCentres_0 caCentres_0) aCentres_0, Ch.ro 0 (Sl aaList_1 aList_1 caList_1) aList_1] := H
        refine st_g (v := (B (!r100))) (congrArg some hb99) (rv_not rfl) ?_
        refine st (v := (B (!r100))) (rv_pick_f (congrArg B hb99) rfl) ?_
        refine w_end ?_
        obtain rfl := Option.some.inj h
        exact ⟨rfl, _, σ103, fr_join ⟨rfl, rfl, rfl, rfl, rfl, trivial⟩, rfl, H.sel' [4, 5, 1, 0] rfl rfl⟩
      ·clear hj
       have h := h'
       clear h' H
       rintro e a w ⟨rfl, ρ, σ104, rfl, rfl, H⟩
       refine q_then ?_
       refine cd_cond o98 rfl (fun hb105 => ?_) (fun hb105 => ?_)
       ·replace h := bif_t hb105 h
        refine c_seq ?_
        refine rg ?_
        refine st (v := (B false)) (rv_assign rfl) ?_
        refine w_end ?_
        refine q_then ?_
        refine c_ret ?_
        refine q_then_r ?_
        obtain rfl := Option.some.inj h
        exact fin_ret (v := (B false)) (results_ok Try.results11 (res_tmp (v := (B false)) rfl res_nil) rfl) ⟨rfl, rfl⟩ (H.sel' [] rfl rfl)
       ·replace h := bif_f hb105 h
        refine c_skip ?_
        refine q_then ?_
        refine c_seq ?_
        refine rg ?_
        refine st (v := (I 1)) (rv_assign rfl) ?_
        refine w_end ?_
        refine q_then ?_
        refine c_seq ?_
        refine rg ?_
        refine st (v := (Sl a52 r49 c53)) (rv_move rfl) ?_
        refine st (v := (I 1)) (rv_move rfl) ?_
        obtain ⟨r106, hx107, h'⟩ := bind_some h
        clear h
        have h := h'; clear h'
        have hc108 := c_laws_markIntSS (aa_0 := a52) (ca_0 := c53) (hK := hK55) hx107
        refine st_call (cx_call hc108 (ent_f hc108.fn rfl) hn0 (show Hp S0 σ0 _ ([Ch.big K54] ++ [Ch.ro 0 (Sl aaCentres_0 aCentres_0 caCentres_0) aCentres_0, Ch.ro 0 (Sl aaList_1 aList_1 caList_1) aList_1, Ch.own n0 n0 (Sl a30 r27 c31) r27]) from (H.sel' [3, 0, 1, 2] rfl rfl))) wn ?_
        rintro _ σ110 ⟨_, ⟨rfl, rfl, hn109⟩, H, -⟩
        replace H : Hp S0 σ0 σ110 [Ch.ro 0 (Sl a52 r106.2 c53) r106.2, Ch.ro 0 (Sl aaCentres_0 aCentres_0 caCentres_0) aCentres_0, Ch.ro 0 (Sl aaList_1 aList_1 caList_1) aList_1, Ch.own n0 n0 (Sl a30 r27 c31) r27] := H
        have hsl : (Sl a52 r49 c53) = (Sl a52 r106.2 c53) := sl_len hn109.symm
        try rw [hsl]
        try rw [hsl] at H
        clear hsl
        refine st (v := (I r106.1)) (rv_assign rfl) ?_
        refine w_end ?_
        refine q_then ?_
        refine c_seq ?_
        refine rg ?_
        refine st (v := (I 1)) (rv_assign rfl) ?_
        refine w_end ?_
        refine q_then ?_
        refine c_seq ?_
        refine rg ?_
        refine st (v := (Sl a52 r106.2 c53)) (rv_move rfl) ?_
        refine st (v := (I 1)) (rv_move rfl) ?_
        obtain ⟨r111, hx112, h'⟩ := bind_some h
        clear h
        have h := h'; clear h'
        have hc113 := c_laws_heldIntSS (aa_0 := a52) (ca_0 := c53) hx112
        refine st_call (cx_call hc113 (ent_f hc113.fn rfl) hn0 (show Hp S0 σ0 _ ([Ch.ro 0 (Sl a52 r106.2 c53) r106.2] ++ [Ch.ro 0 (Sl a52 r106.2 c53) r106.2, Ch.ro 0 (Sl aaCentres_0 aCentres_0 caCentres_0) aCentres_0, Ch.ro 0 (Sl aaList_1 aList_1 caList_1) aList_1, Ch.own n0 n0 (Sl a30 r27 c31) r27]) from (H.sel' [0, 0, 1, 2, 3] rfl rfl))) wn ?_
        rintro _ σ114 ⟨_, ⟨rfl, rfl⟩, H, -⟩
        replace H : Hp S0 σ0 σ114 [Ch.ro 0 (Sl a52 r106.2 c53) r106.2, Ch.ro 0 (Sl aaCentres_0 aCentres_0 caCentres_0) aCentres_0, Ch.ro 0 (Sl aaList_1 aList_1 caList_1) aList_1, Ch.own n0 n0 (Sl a30 r27 c31) r27] := H
        refine st (v := (I r111)) (rv_assign rfl) ?_
        refine w_end ?_
        refine q_then ?_
        refine c_seq ?_
        refine c_seq ?_
        refine rg ?_
        refine st (v := (I r111)) (rv_move rfl) ?_
        refine st (v := (B (decide (r111 < 0)))) (rv_lss (a := r111) (b := 0) rfl rfl) ?_
        refine w_end ?_
        refine q_then ?_
        refine cd_cond (decide (r111 < 0)) rfl (fun hb115 => ?_) (fun hb115 => ?_)
        ·replace h := bif_t hb115 h
         refine c_seq ?_
         refine rg ?_
         refine st (v := (B false)) (rv_assign rfl) ?_
         refine w_end ?_
         refine q_then ?_
         refine c_ret ?_
         refine q_then_r ?_
         obtain rfl := Option.some.inj h
         exact fin_ret (v := (B false)) (results_ok Try.results11 (res_tmp (v := (B false)) rfl res_nil) rfl) ⟨rfl, rfl⟩ (H.sel' [] rfl rfl)
        ·replace h := bif_f hb115 h
         refine c_skip ?_
         refine q_then ?_
         refine c_seq ?_
         refine c_seq ?_
         refine rg ?_
         refine st (v := (I r111)) (rv_move rfl) ?_
         refine st (v := (I r106.1)) (rv_move rfl) ?_
         refine st (v := (B (r111 != r106.1))) (rv_neq (a := r111) (b := r106.1) rfl rfl) ?_
         refine w_end ?_
         refine q_then ?_
         refine cd_cond (r111 != r106.1) rfl (fun hb116 => ?_) (fun hb116 => ?_)
         ·replace h := bif_t hb116 h
          refine c_seq ?_
          refine rg ?_
          refine st (v := (B false)) (rv_assign rfl) ?_
          refine w_end ?_
          refine q_then ?_
          refine c_ret ?_
          refine q_then_r ?_
          obtain rfl := Option.some.inj h
          exact fin_ret (v := (B false)) (results_ok Try.results11 (res_tmp (v := (B false)) rfl res_nil) rfl) ⟨rfl, rfl⟩ (H.sel' [] rfl rfl)
         ·replace h := bif_f hb116 h
          refine c_skip ?_
          refine q_then ?_
          refine c_seq ?_
          refine rg ?_
          refine st (v := (Sl aaCentres_0 aCentres_0 caCentres_0)) (rv_move rfl) ?_
          obtain ⟨r117, hx118, h'⟩ := bind_some h
          clear h
          have h := h'; clear h'
          have hc119 := c_laws_toIntSS (aa_0 := aaCentres_0) (ca_0 := caCentres_0) hx118
          refine st_call (cx_call hc119 (ent_f hc119.fn rfl) hn0 (show Hp S0 σ0 _ ([Ch.ro 0 (Sl aaCentres_0 aCentres_0 caCentres_0) aCentres_0] ++ [Ch.ro 0 (Sl a52 r106.2 c53) r106.2, Ch.ro 0 (Sl aaCentres_0 aCentres_0 caCentres_0) aCentres_0, Ch.ro 0 (Sl aaList_1 aList_1 caList_1) aList_1, Ch.own n0 n0 (Sl a30 r27 c31) r27]) from (H.sel' [1, 0, 1, 2, 3] rfl rfl))) wn ?_
          rintro _ σ124 ⟨_, ⟨a120, c121, K122, rfl, rfl, hK123⟩, H, -⟩
          replace H : Hp S0 σ0 σ124 [Ch.big K122, Ch.ro 0 (Sl a52 r106.2 c53) r106.2, Ch.ro 0 (Sl aaCentres_0 aCentres_0 caCentres_0) aCentres_0, Ch.ro 0 (Sl aaList_1 aList_1 caList_1) aList_1, Ch.own n0 n0 (Sl a30 r27 c31) r27] := H
          refine st (v := (Sl aaList_1 aList_1 caList_1)) (rv_move rfl) ?_
          obtain ⟨r125, hx126, h'⟩ := bind_some h
          clear h
          have h := h'; clear h'
          have hc127 := c_laws_toItemS (aa_0 := aaList_1) (ca_0 := caList_1) hx126
          refine st_call (cx_call hc127 (ent_f hc127.fn rfl) hn0 (show Hp S0 σ0 _ ([Ch.ro 0 (Sl aaList_1 aList_1 caList_1) aList_1] ++ [Ch.big K122, Ch.ro 0 (Sl a52 r106.2 c53) r106.2, Ch.ro 0 (Sl aaCentres_0 aCentres_0 caCentres_0) aCentres_0, Ch.ro 0 (Sl aaList_1 aList_1 caList_1) aList_1, Ch.own n0 n0 (Sl a30 r27 c31) r27]) from (H.sel' [3, 0, 1, 2, 3, 4] rfl rfl))) wn ?_
          rintro _ σ132 ⟨_, ⟨a128, c129, K130, rfl, rfl, hK131⟩, H, -⟩
          replace H : Hp S0 σ0 σ132 [Ch.big K130, Ch.big K122, Ch.ro 0 (Sl a52 r106.2 c53) r106.2, Ch.ro 0 (Sl aaCentres_0 aCentres_0 caCentres_0) aCentres_0, Ch.ro 0 (Sl aaList_1 aList_1 caList_1) aList_1, Ch.own n0 n0 (Sl a30 r27 c31) r27] := H
          obtain ⟨r133, hx134, h'⟩ := bind_some h
          clear h
          have h := h'; clear h'
          have hc135 := c_impl_ListsOf (acentres_0 := a120) (ccentres_0 := c121) (alist_1 := a128) (clist_1 := c129) hx134
          have hle := Nat.le_trans hn0 H.size
          refine st_call (cx_lend (Loan.lendB hK123.lends (Loan.lendB hK131.lends Loan.nil)) hc135 (ent_f hc135.fn rfl) (show Hp S0 σ0 _ ([Ch.big K122, Ch.big K130] ++ ([] ++ [Ch.ro 0 (Sl a52 r106.2 c53) r106.2, Ch.ro 0 (Sl aaCentres_0 aCentres_0 caCentres_0) aCentres_0, Ch.ro 0 (Sl aaList_1 aList_1 caList_1) aList_1, Ch.own n0 n0 (Sl a30 r27 c31) r27])) from (H.sel' [1, 0, 2, 3, 4, 5] rfl rfl)) (by rintro _ _ _ ⟨_, _, _, rfl, rfl, hK139, _⟩; exact ⟨Dp.abSc hK139, trivial⟩)) wn ?_
          rintro _ σ141 ⟨_, ⟨a136, c137, K138, rfl, rfl, hK139, ht140⟩, H, -, -⟩
          replace H : Hp S0 σ0 σ141 [Ch.big K138, Ch.big K122, Ch.big K130, Ch.ro 0 (Sl a52 r106.2 c53) r106.2, Ch.ro 0 (Sl aaCentres_0 aCentres_0 caCentres_0) aCentres_0, Ch.ro 0 (Sl aaList_1 aList_1 caList_1) aList_1, Ch.own n0 n0 (Sl a30 r27 c31) r27] := H
          clear hle
          replace H : Hp S0 σ0 σ141 [Ch.big K138, Ch.big K122, Ch.big K130, Ch.ro 0 (Sl a52 r106.2 c53) r106.2, Ch.ro 0 (Sl aaCentres_0 aCentres_0 caCentres_0) aCentres_0, Ch.ro 0 (Sl aaList_1 aList_1 caList_1) aList_1, Ch.own n0 n0 (Sl a30 r27 c31) r27] := H
          refine st (v := (Sl a136 r133 c137)) (rv_assign rfl) ?_
          refine w_end ?_
          refine q_then ?_
          refine c_seq ?_
          refine c_seq ?_
          refine rg ?_
          refine st (v := (Sl a136 r133 c137)) (rv_move rfl) ?_
          refine st (v := (Sl a30 r27 c31)) (rv_move rfl) ?_
          obtain ⟨σ142, hw143, H, -⟩ := H.pub 6 rfl (Nat.le_refl _)
          rw [← hw143]; clear hw143
          replace H := H.roLow 0 0 rfl (Nat.zero_le _)
          obtain ⟨r144, hx145, h'⟩ := bind_some h
          clear h
          have h := h'; clear h'
          have hc146 := c_laws_eqIntSS (aa_0 := a136) (ca_0 := c137) (ab_1 := a30) (cb_1 := c31) hx145
          have hle := Nat.le_trans hn0 H.size
          refine st_call (cx_lend (Loan.lendB hK139.lends (Loan.same Loan.nil)) hc146 (ent_f hc146.fn rfl) (show Hp S0 σ0 _ ([Ch.big K138] ++ ([Ch.ro 0 (Sl a30 r27 c31) r27] ++ [Ch.ro 0 (Sl a30 r27 c31) r27, Ch.ro n0 (Sl a30 r27 c31) r27, Ch.big K122, Ch.big K130, Ch.ro 0 (Sl a52 r106.2 c53) r106.2, Ch.ro 0 (Sl aaCentres_0 aCentres_0 caCentres_0) aCentres_0, Ch.ro 0 (Sl aaList_1 aList_1 caList_1) aList_1])) from (H.sel' [2, 0, 0, 1, 3, 4, 5, 6, 7] rfl rfl)) (by rintro _ _ _ ⟨rfl, rfl⟩; exact trivial)) wn ?_
          rintro _ σ147 ⟨_, ⟨rfl, rfl⟩, H, -, -⟩
          replace H : Hp S0 σ0 σ147 [Ch.big K138, Ch.ro 0 (Sl a30 r27 c31) r27, Ch.ro n0 (Sl a30 r27 c31) r27, Ch.big K122, Ch.big K130, Ch.ro 0 (Sl a52 r106.2 c53) r106.2, Ch.ro 0 (Sl aaCentres_0 aCentres_0 caCentres_0) aCentres_0, Ch.ro 0 (Sl aaList_1 aList_1 caList_1) aList_1] := H
          clear hle
          replace H : Hp S0 σ0 σ147 [Ch.big K138, Ch.ro 0 (Sl a30 r27 c31) r27, Ch.ro n0 (Sl a30 r27 c31) r27, Ch.big K122, Ch.big K130, Ch.ro 0 (Sl a52 r106.2 c53) r106.2, Ch.ro 0 (Sl aaCentres_0 aCentres_0 caCentres_0) aCentres_0, Ch.ro 0 (Sl aaList_1 aList_1 caList_1) aList_1] := H
          replace H : Hp S0 σ0 σ147 [Ch.ro 0 (Sl a52 r106.2 c53) r106.2] := H.sel' [5] rfl rfl
          refine st (v := (B (!r144))) (rv_not rfl) ?_
          refine w_end ?_
          refine q_then ?_
          refine cd_cond (!r144) rfl (fun hb148 => ?_) (fun hb148 => ?_)
          ·replace h := bif_t hb148 h
           refine c_seq ?_
           refine rg ?_
           refine st (v := (B false)) (rv_assign rfl) ?_
           refine w_end ?_
           refine q_then ?_
           refine c_ret ?_
           refine q_then_r ?_
           obtain rfl := Option.some.inj h
           exact fin_ret (v := (B false)) (results_ok Try.results11 (res_tmp (v := (B false)) rfl res_nil) rfl) ⟨rfl, rfl⟩ (H.sel' [] rfl rfl)
          ·replace h := bif_f hb148 h
           refine c_skip ?_
           refine q_then ?_
           refine c_seq ?_
           refine rg ?_
           refine st (v := (I 1)) (rv_assign rfl) ?_
           refine w_end ?_
           refine q_then ?_
           refine c_seq ?_
           refine rg ?_
           refine st (v := (Sl a52 r106.2 c53)) (rv_move rfl) ?_
           refine st (v := (I 1)) (rv_move rfl) ?_
           obtain ⟨r149, hx150, h'⟩ := bind_some h
           clear h
           have h := h'; clear h'
           have hc151 := c_laws_heldIntSS (aa_0 := a52) (ca_0 := c53) hx150
           refine st_call (cx_call hc151 (ent_f hc151.fn rfl) hn0 (show Hp S0 σ0 _ ([Ch.ro 0 (Sl a52 r106.2 c53) r106.2] ++ [Ch.ro 0 (Sl a52 r106.2 c53) r106.2]) from (H.sel' [0, 0] rfl rfl))) wn ?_
           rintro _ σ152 ⟨_, ⟨rfl, rfl⟩, H, -⟩
           replace H : Hp S0 σ0 σ152 [Ch.ro 0 (Sl a52 r106.2 c53) r106.2] := H
           refine st (v := (I r149)) (rv_assign rfl) ?_
           refine w_end ?_
           refine q_then ?_
           refine c_seq ?_
           refine c_seq ?_
           refine rg ?_
           refine st (v := (I r149)) (rv_move rfl) ?_
           refine st (v := (B (decide (r149 < 0)))) (rv_lss (a := r149) (b := 0) rfl rfl) ?_
           refine w_end ?_
           refine q_then ?_
           refine cd_cond (decide (r149 < 0)) rfl (fun hb153 => ?_) (fun hb153 => ?_)
           ·replace h := bif_t hb153 h
            refine c_seq ?_
            refine rg ?_
            refine st (v := (B false)) (rv_assign rfl) ?_
            refine w_end ?_
            refine q_then ?_
            refine c_ret ?_
            refine q_then_r ?_
            obtain rfl := Option.some.inj h
            exact fin_ret (v := (B false)) (results_ok Try.results11 (res_tmp (v := (B false)) rfl res_nil) rfl) ⟨rfl, rfl⟩ (H.sel' [] rfl rfl)
           ·replace h := bif_f hb153 h
            refine c_skip ?_
            refine q_then ?_
            refine c_seq ?_
            refine c_seq ?_
            refine rg ?_
            refine st (v := (I r149)) (rv_move rfl) ?_
            refine st (v := (I r106.1)) (rv_move rfl) ?_
            refine st (v := (B (r149 != r106.1))) (rv_neq (a := r149) (b := r106.1) rfl rfl) ?_
            refine w_end ?_
            refine q_then ?_
            refine cd_cond (r149 != r106.1) rfl (fun hb154 => ?_) (fun hb154 => ?_)
            ·replace h := bif_t hb154 h
             refine c_seq ?_
             refine rg ?_
             refine st (v := (B false)) (rv_assign rfl) ?_
             refine w_end ?_
             refine q_then ?_
             refine c_ret ?_
             refine q_then_r ?_
             obtain rfl := Option.some.inj h
             exact fin_ret (v := (B false)) (results_ok Try.results11 (res_tmp (v := (B false)) rfl res_nil) rfl) ⟨rfl, rfl⟩ (H.sel' [] rfl rfl)
            ·replace h := bif_f hb154 h
             refine c_skip ?_
             refine q_then ?_
             refine c_seq ?_
             refine rg ?_
             refine st (v := (B true)) (rv_assign rfl) ?_
             refine w_end ?_
             refine q_then ?_
             refine c_ret ?_
             obtain rfl := Option.some.inj h
             exact fin_ret (v := (B true)) (results_ok Try.results11 (res_tmp (v := (B true)) rfl res_nil) rfl) ⟨rfl, rfl⟩ (H.sel' [] rfl rfl)

end Go.Vs
