/- The functions compute what their models say. -/
import Derived.Test.YtmknhacpomhdmaaKBoundsOfC2
set_option linter.unusedVariables false
set_option linter.unusedSimpArgs false
set_option maxRecDepth 20000
namespace Go.Vs
open Go Go.Proofs
attribute [local irreducible] Code.wp wpList wpQuiet Calls

theorem c_impl_BoundsOf {list_0 : List (Int × (List Int) × Int)} {alist_0 : Option Addr} {clist_0 : Nat} {r : (List Int) × (List Int) × Bool} (h : M.impl_BoundsOf list_0 = some r) :
    Cal2 Try.prog 16 [(Sl alist_0 list_0 clist_0)] [Ch.ro 0 (Sl alist_0 list_0 clist_0) list_0] (fun n0 v L => ∃ (az1 : Option Addr), ∃ (cz2 : Nat), ∃ (az4 : Option Addr), ∃ (cz5 : Nat), v = (.tuple #[(Sl az1 r.1 cz2), (Sl az4 r.2.1 cz5), (B r.2.2)]) ∧ L = [Ch.own n0 n0 (Sl az1 r.1 cz2) r.1, Ch.own n0 n0 (Sl az4 r.2.1 cz5) r.2.1] ∧ cz2 = r.1.length ∧ cz5 = r.2.1.length) := by
  refine cal2 (n := 64) Try.func16 rfl rfl rfl rfl ?_
  intro S0 σ0 n0 hn0 H
  unfold M.impl_BoundsOf at h
  refine c_seq ?_
  refine rg ?_
  refine st (v := (.slice none 0 0)) (rv_assign rfl) ?_
  refine st (v := (.slice none 0 0)) (rv_assign rfl) ?_
  refine st (v := (B false)) (rv_assign rfl) ?_
  refine w_end ?_
  refine q_then ?_
  refine c_seq ?_
  refine c_seq ?_
  obtain ⟨o1, hj, h'⟩ := bind_some h
  clear h
  refine c_cut (fun e a w => e = .normal ∧ ∃ (ρ : Nat → Value) (σ : St), a = fr 64 (updL ρ [(0, (Sl alist_0 list_0 clist_0)), (18, (B o1))]) ∧ w = σ.w ∧ Hp S0 σ0 σ [Ch.ro 0 (Sl alist_0 list_0 clist_0) list_0]) ?_ ?_
  · clear h'
    rename _ = some o1 => h
    refine rg ?_
    refine st (v := (Sl alist_0 list_0 clist_0)) (rv_move rfl) ?_
    obtain ⟨r2, hx3, h'⟩ := bind_some h
    clear h
    have h := h'; clear h'
    have hc4 := c_impl_ValidStore (alist_0 := alist_0) (clist_0 := clist_0) hx3
    refine st_call (cx_call hc4 (ent_f hc4.fn rfl) hn0 (show Hp S0 σ0 _ ([Ch.ro 0 (Sl alist_0 list_0 clist_0) list_0] ++ [Ch.ro 0 (Sl alist_0 list_0 clist_0) list_0]) from (H.sel' [0, 0] rfl rfl))) (wanted_none _ rfl _) ?_
    rintro _ σ5 ⟨_, ⟨rfl, rfl⟩, H, -⟩
    replace H : Hp S0 σ0 σ5 [Ch.ro 0 (Sl alist_0 list_0 clist_0) list_0] := H
    refine st (v := (B (!r2))) (rv_not rfl) ?_
    refine st (v := (B (!r2))) (rv_move rfl) ?_
    rcases Bool.eq_false_or_eq_true (!r2) with hb6 | hb6
    · replace h := bif_t hb6 h
      refine st_skip (congrArg some hb6) ?_
      refine st_skip (congrArg some hb6) ?_
      refine st_skip (congrArg some hb6) ?_
      refine st (v := (B true)) (rv_pick_t (congrArg B hb6) rfl) ?_
      refine w_end ?_
      obtain rfl := Option.some.inj h
      exact ⟨rfl, _, σ5, fr_join ⟨rfl, rfl, trivial⟩, rfl, H.sel' [0] rfl rfl⟩
    · replace h := bif_f hb6 h
      refine st_g (v := (Sl alist_0 list_0 clist_0)) (congrArg some hb6) (rv_move rfl) ?_
      refine st_g (v := (I (list_0.length : Int))) (congrArg some hb6) (rv_len Try.underlying23 rfl) ?_
      refine st_g (v := (B ((list_0.length : Int) == 0))) (congrArg some hb6) (rv_eql (a := (list_0.length : Int)) (b := 0) rfl rfl) ?_
      refine st (v := (B ((list_0.length : Int) == 0))) (rv_pick_f (congrArg B hb6) rfl) ?_
      refine w_end ?_
      obtain rfl := Option.some.inj h
      exact ⟨rfl, _, σ5, fr_join ⟨rfl, rfl, trivial⟩, rfl, H.sel' [0] rfl rfl⟩
  · clear hj
    have h := h'
    clear h' H
    rintro e a w ⟨rfl, ρ, σ7, rfl, rfl, H⟩
    refine q_then ?_
    refine cd_cond o1 rfl (fun hb8 => ?_) (fun hb8 => ?_)
    · replace h := bif_t hb8 h
      refine c_seq ?_
      refine rg ?_
      refine st (v := (.slice none 0 0)) (rv_assign rfl) ?_
      refine st (v := (.slice none 0 0)) (rv_assign rfl) ?_
      refine st (v := (B false)) (rv_assign rfl) ?_
      refine w_end ?_
      refine q_then ?_
      refine c_ret ?_
      refine q_then_r ?_
      replace H := H.nilOwn Int n0 n0
      replace H := H.nilOwn Int n0 n0
      obtain rfl := Option.some.inj h
      exact fin_ret (v := (.tuple #[(.slice none 0 0), (.slice none 0 0), (B false)])) (results_ok Try.results16 (res_tmp (v := (.slice none 0 0)) rfl (res_tmp (v := (.slice none 0 0)) rfl (res_tmp (v := (B false)) rfl res_nil))) rfl) ⟨none, 0, none, 0, rfl, rfl, rfl, rfl⟩ (H.sel' [1, 0] rfl rfl)
    · replace h := bif_f hb8 h
      refine c_skip ?_
      refine q_then ?_
      refine c_seq ?_
      obtain ⟨x9, hx10, h'⟩ := bind_some h
      clear h
      have h := h'; clear h'
      obtain ⟨b12, o13, hi11, -⟩ := (H.ro 0 rfl).ix hx10
      obtain ⟨v17, hc18, hR16⟩ := ((H.ro 0 rfl).at hx10 hi11).snd.fst.slice
      obtain ⟨a14, c15, rfl⟩ := hR16.isSl
      replace H := H.add (d := Ch.ro 0 (Sl a14 x9.2.1 c15) x9.2.1) hR16 (fun _ h => h)
      clear hR16
      obtain ⟨xs19, hx20, h'⟩ := bind_some h
      clear h
      have h := h'; clear h'
      obtain ⟨hl24, hq25⟩ := garr_some hx20
      clear hx20 hq25
      obtain ⟨b21, o22, rfl, hc23⟩ := (H.ro 0 rfl).arr (Nat.lt_of_lt_of_le (by decide) hl24)
      obtain ⟨x26, hx27, h'⟩ := bind_some h
      clear h
      have h := h'; clear h'
      obtain ⟨b29, o30, hi28, -⟩ := (H.ro 1 rfl).ix hx27
      obtain ⟨v34, hc35, hR33⟩ := ((H.ro 1 rfl).at hx27 hi28).snd.fst.slice
      obtain ⟨a31, c32, rfl⟩ := hR33.isSl
      replace H := H.add (d := Ch.ro 0 (Sl a31 x26.2.1 c32) x26.2.1) hR33 (fun _ h => h)
      clear hR33
      obtain ⟨xs36, hx37, h'⟩ := bind_some h
      clear h
      have h := h'; clear h'
      obtain ⟨hl41, hq42⟩ := garr_some hx37
      clear hx37 hq42
      obtain ⟨b38, o39, rfl, hc40⟩ := (H.ro 0 rfl).arr (Nat.lt_of_lt_of_le (by decide) hl41)
      have Hs := H
      refine rg2 (σ := σ7) (Nm := (Nat) × (Nat)) 14 [12, 13] [[false, false], [true, false], [false, true], [true, true]] [[(0, 0), (1, 1), (2, 2), (3, 3)], [(0, 0), (1, 1), (2, 2), (3, 3)], [(0, 0), (1, 1), (2, 2), (3, 3)], [(0, 0), (1, 1), (2, 2), (3, 3)], [(0, 0), (1, 1), (2, 2), (3, 3)], [(0, 0), (1, 1), (2, 2), (3, 3)], [(0, 0), (1, 1), (2, 2), (3, 3)], [(0, 0), (1, 1), (2, 2), (3, 3)], [(0, 0), (1, 1), (2, 2), (3, 3)], [(0, 0), (1, 1), (2, 2), (3, 3)], [(0, 0), (1, 1), (2, 2), (3, 3)], [(0, 0), (1, 1), (2, 2), (3, 3)], [(0, 1), (2, 3)], [(0, 2), (1, 3)]] 3 [fun ((b43, b44) : (Nat) × (Nat)) => fun σm => Hp S0 σ0 σm [Ch.ro 0 (Sl (some ⟨b38, o39, none⟩) x26.2.1 c32) x26.2.1, Ch.ro 0 (Sl (some ⟨b21, o22, none⟩) x9.2.1 c15) x9.2.1, Ch.ro 0 (Sl alist_0 list_0 clist_0) list_0] ∧ Md (cov []) σ7 σm, fun ((b43, b44) : (Nat) × (Nat)) => fun σm => Hp S0 σ0 σm [Ch.bx n0 b43 0 (List.map I (List.replicate 4 0)) [] [], Ch.ro 0 (Sl (some ⟨b38, o39, none⟩) x26.2.1 c32) x26.2.1, Ch.ro 0 (Sl (some ⟨b21, o22, none⟩) x9.2.1 c15) x9.2.1, Ch.ro 0 (Sl alist_0 list_0 clist_0) list_0] ∧ Md (cov []) σ7 σm, fun ((b43, b44) : (Nat) × (Nat)) => fun σm => Hp S0 σ0 σm [Ch.bx n0 b44 0 (List.map I (List.replicate 4 0)) [] [], Ch.ro 0 (Sl (some ⟨b38, o39, none⟩) x26.2.1 c32) x26.2.1, Ch.ro 0 (Sl (some ⟨b21, o22, none⟩) x9.2.1 c15) x9.2.1, Ch.ro 0 (Sl alist_0 list_0 clist_0) list_0] ∧ Md (cov []) σ7 σm, fun ((b43, b44) : (Nat) × (Nat)) => fun σm => Hp S0 σ0 σm [Ch.bx n0 b44 0 (List.map I (List.replicate 4 0)) [] [], Ch.bx n0 b43 0 (List.map I (List.replicate 4 0)) [] [], Ch.ro 0 (Sl (some ⟨b38, o39, none⟩) x26.2.1 c32) x26.2.1, Ch.ro 0 (Sl (some ⟨b21, o22, none⟩) x9.2.1 c15) x9.2.1, Ch.ro 0 (Sl alist_0 list_0 clist_0) list_0] ∧ Md (cov []) σ7 σm] [fun ((b43, b44) : (Nat) × (Nat)) => (Sl alist_0 list_0 clist_0), fun ((b43, b44) : (Nat) × (Nat)) => (pt b12 o13), fun ((b43, b44) : (Nat) × (Nat)) => (pt b12 (o13 + 1)), fun ((b43, b44) : (Nat) × (Nat)) => (Sl (some ⟨b21, o22, none⟩) x9.2.1 c15), fun ((b43, b44) : (Nat) × (Nat)) => (.pointer (some ⟨b21, o22, none⟩)), fun ((b43, b44) : (Nat) × (Nat)) => (.agg (List.map I (List.take 4 x9.2.1)).toArray), fun ((b43, b44) : (Nat) × (Nat)) => (Sl alist_0 list_0 clist_0), fun ((b43, b44) : (Nat) × (Nat)) => (pt b29 o30), fun ((b43, b44) : (Nat) × (Nat)) => (pt b29 (o30 + 1)), fun ((b43, b44) : (Nat) × (Nat)) => (Sl (some ⟨b38, o39, none⟩) x26.2.1 c32), fun ((b43, b44) : (Nat) × (Nat)) => (.pointer (some ⟨b38, o39, none⟩)), fun ((b43, b44) : (Nat) × (Nat)) => (.agg (List.map I (List.take 4 x26.2.1)).toArray), fun ((b43, b44) : (Nat) × (Nat)) => (pt b43 0), fun ((b43, b44) : (Nat) × (Nat)) => (pt b44 0)] (0, 0) (by kernel_rfl) (by kernel_rfl) ?_ ?_ ?_
      · intro σm m0
        exact ⟨H.grow (m0.mono fun _ h => h.elim), m0⟩
      · refine all_cons (obs_v rfl (by
            intro k; rintro ⟨b43, b44⟩ ρ σm hJ hoff hdep
            have e0 : look 64 ρ 0 = (Sl alist_0 list_0 clist_0) := look_off (hoff 0 rfl) rfl
            exact dp_v (v := (Sl alist_0 list_0 clist_0)) (wanted_none _ rfl _) (rv_move e0) rfl hJ)) ?_
        refine all_cons (obs_v rfl (by
            intro k; rintro ⟨b43, b44⟩ ρ σm hJ hoff hdep
            have e19 : look 64 ρ 19 = (Sl alist_0 list_0 clist_0) := hdep 0 rfl rfl 19 rfl
            exact dp_v (v := (pt b12 o13)) (wanted_none _ rfl _) (rv_ix Try.underlying23 ti38 e19 rfl hi11) rfl hJ)) ?_
        refine all_cons (obs_v rfl (by
            intro k; rintro ⟨b43, b44⟩ ρ σm hJ hoff hdep
            have e20 : look 64 ρ 20 = (pt b12 o13) := hdep 1 rfl rfl 20 rfl
            exact dp_v (v := (pt b12 (o13 + 1))) (wanted_none _ rfl _) (rv_fieldAddr (off := 1) (ft := 25) Try.underlying38 rfl ti25 rfl e20) rfl hJ)) ?_
        refine all_cons (by
            refine ⟨?_, ?_⟩
            · rintro ⟨b43, b44⟩ ρ σm hJ hoff hdep
              have e21 : look 64 ρ 21 = (pt b12 (o13 + 1)) := hdep 2 rfl rfl 21 rfl
              obtain ⟨H, m⟩ := (show Hp S0 σ0 σm [Ch.ro 0 (Sl (some ⟨b38, o39, none⟩) x26.2.1 c32) x26.2.1, Ch.ro 0 (Sl (some ⟨b21, o22, none⟩) x9.2.1 c15) x9.2.1, Ch.ro 0 (Sl alist_0 list_0 clist_0) list_0] ∧ Md (cov []) σ7 σm from hJ)
              replace hc18 := (Hs.ro 2 rfl).hmd hx10 hi11 (k := 1) (by decide) hc18 m
              exact dp_v (v := (Sl (some ⟨b21, o22, none⟩) x9.2.1 c15)) (wanted_none _ rfl _) (rv_load1 Try.underlying25 rfl e21 hc18) rfl hJ
            refine ⟨?_, ?_⟩
            · rintro ⟨b43, b44⟩ ρ σm hJ hoff hdep
              have e21 : look 64 ρ 21 = (pt b12 (o13 + 1)) := hdep 2 rfl rfl 21 rfl
              obtain ⟨H, m⟩ := (show Hp S0 σ0 σm [Ch.bx n0 b43 0 (List.map I (List.replicate 4 0)) [] [], Ch.ro 0 (Sl (some ⟨b38, o39, none⟩) x26.2.1 c32) x26.2.1, Ch.ro 0 (Sl (some ⟨b21, o22, none⟩) x9.2.1 c15) x9.2.1, Ch.ro 0 (Sl alist_0 list_0 clist_0) list_0] ∧ Md (cov []) σ7 σm from hJ)
              replace hc18 := (Hs.ro 2 rfl).hmd hx10 hi11 (k := 1) (by decide) hc18 m
              exact dp_v (v := (Sl (some ⟨b21, o22, none⟩) x9.2.1 c15)) (wanted_none _ rfl _) (rv_load1 Try.underlying25 rfl e21 hc18) rfl hJ
            refine ⟨?_, ?_⟩
            · rintro ⟨b43, b44⟩ ρ σm hJ hoff hdep
              have e21 : look 64 ρ 21 = (pt b12 (o13 + 1)) := hdep 2 rfl rfl 21 rfl
              obtain ⟨H, m⟩ := (show Hp S0 σ0 σm [Ch.bx n0 b44 0 (List.map I (List.replicate 4 0)) [] [], Ch.ro 0 (Sl (some ⟨b38, o39, none⟩) x26.2.1 c32) x26.2.1, Ch.ro 0 (Sl (some ⟨b21, o22, none⟩) x9.2.1 c15) x9.2.1, Ch.ro 0 (Sl alist_0 list_0 clist_0) list_0] ∧ Md (cov []) σ7 σm from hJ)
              replace hc18 := (Hs.ro 2 rfl).hmd hx10 hi11 (k := 1) (by decide) hc18 m
              exact dp_v (v := (Sl (some ⟨b21, o22, none⟩) x9.2.1 c15)) (wanted_none _ rfl _) (rv_load1 Try.underlying25 rfl e21 hc18) rfl hJ
            refine ⟨?_, ?_⟩
            · rintro ⟨b43, b44⟩ ρ σm hJ hoff hdep
              have e21 : look 64 ρ 21 = (pt b12 (o13 + 1)) := hdep 2 rfl rfl 21 rfl
              obtain ⟨H, m⟩ := (show Hp S0 σ0 σm [Ch.bx n0 b44 0 (List.map I (List.replicate 4 0)) [] [], Ch.bx n0 b43 0 (List.map I (List.replicate 4 0)) [] [], Ch.ro 0 (Sl (some ⟨b38, o39, none⟩) x26.2.1 c32) x26.2.1, Ch.ro 0 (Sl (some ⟨b21, o22, none⟩) x9.2.1 c15) x9.2.1, Ch.ro 0 (Sl alist_0 list_0 clist_0) list_0] ∧ Md (cov []) σ7 σm from hJ)
              replace hc18 := (Hs.ro 2 rfl).hmd hx10 hi11 (k := 1) (by decide) hc18 m
              exact dp_v (v := (Sl (some ⟨b21, o22, none⟩) x9.2.1 c15)) (wanted_none _ rfl _) (rv_load1 Try.underlying25 rfl e21 hc18) rfl hJ
            trivial) ?_
        refine all_cons (obs_v rfl (by
            intro k; rintro ⟨b43, b44⟩ ρ σm hJ hoff hdep
            have e22 : look 64 ρ 22 = (Sl (some ⟨b21, o22, none⟩) x9.2.1 c15) := hdep 3 rfl rfl 22 rfl
            exact dp_v (v := (.pointer (some ⟨b21, o22, none⟩))) (wanted_none _ rfl _) (rv_arrPtr Try.underlying61 e22 hl24) rfl hJ)) ?_
        refine all_cons (by
            refine ⟨?_, ?_⟩
            · rintro ⟨b43, b44⟩ ρ σm hJ hoff hdep
              have e23 : look 64 ρ 23 = (.pointer (some ⟨b21, o22, none⟩)) := hdep 4 rfl rfl 23 rfl
              obtain ⟨H, m⟩ := (show Hp S0 σ0 σm [Ch.ro 0 (Sl (some ⟨b38, o39, none⟩) x26.2.1 c32) x26.2.1, Ch.ro 0 (Sl (some ⟨b21, o22, none⟩) x9.2.1 c15) x9.2.1, Ch.ro 0 (Sl alist_0 list_0 clist_0) list_0] ∧ Md (cov []) σ7 σm from hJ)
              replace hc23 := (Hs.ro 1 rfl).arr_md hc23 m
              exact dp_v (v := (.agg (List.map I (List.take 4 x9.2.1)).toArray)) (wanted_none _ rfl _) (rv_load (cs := List.map I (List.take 4 x9.2.1)) Try.underlying61 rfl ti61 e23 (by rw [List.length_map, List.length_take]; have := hl24; omega) (arr_take hc23)) rfl hJ
            refine ⟨?_, ?_⟩
            · rintro ⟨b43, b44⟩ ρ σm hJ hoff hdep
              have e23 : look 64 ρ 23 = (.pointer (some ⟨b21, o22, none⟩)) := hdep 4 rfl rfl 23 rfl
              obtain ⟨H, m⟩ := (show Hp S0 σ0 σm [Ch.bx n0 b43 0 (List.map I (List.replicate 4 0)) [] [], Ch.ro 0 (Sl (some ⟨b38, o39, none⟩) x26.2.1 c32) x26.2.1, Ch.ro 0 (Sl (some ⟨b21, o22, none⟩) x9.2.1 c15) x9.2.1, Ch.ro 0 (Sl alist_0 list_0 clist_0) list_0] ∧ Md (cov []) σ7 σm from hJ)
              replace hc23 := (Hs.ro 1 rfl).arr_md hc23 m
              exact dp_v (v := (.agg (List.map I (List.take 4 x9.2.1)).toArray)) (wanted_none _ rfl _) (rv_load (cs := List.map I (List.take 4 x9.2.1)) Try.underlying61 rfl ti61 e23 (by rw [List.length_map, List.length_take]; have := hl24; omega) (arr_take hc23)) rfl hJ
            refine ⟨?_, ?_⟩
            · rintro ⟨b43, b44⟩ ρ σm hJ hoff hdep
              have e23 : look 64 ρ 23 = (.pointer (some ⟨b21, o22, none⟩)) := hdep 4 rfl rfl 23 rfl
              obtain ⟨H, m⟩ := (show Hp S0 σ0 σm [Ch.bx n0 b44 0 (List.map I (List.replicate 4 0)) [] [], Ch.ro 0 (Sl (some ⟨b38, o39, none⟩) x26.2.1 c32) x26.2.1, Ch.ro 0 (Sl (some ⟨b21, o22, none⟩) x9.2.1 c15) x9.2.1, Ch.ro 0 (Sl alist_0 list_0 clist_0) list_0] ∧ Md (cov []) σ7 σm from hJ)
              replace hc23 := (Hs.ro 1 rfl).arr_md hc23 m
              exact dp_v (v := (.agg (List.map I (List.take 4 x9.2.1)).toArray)) (wanted_none _ rfl _) (rv_load (cs := List.map I (List.take 4 x9.2.1)) Try.underlying61 rfl ti61 e23 (by rw [List.length_map, List.length_take]; have := hl24; omega) (arr_take hc23)) rfl hJ
            refine ⟨?_, ?_⟩
            · rintro ⟨b43, b44⟩ ρ σm hJ hoff hdep
              have e23 : look 64 ρ 23 = (.pointer (some ⟨b21, o22, none⟩)) := hdep 4 rfl rfl 23 rfl
              obtain ⟨H, m⟩ := (show Hp S0 σ0 σm [Ch.bx n0 b44 0 (List.map I (List.replicate 4 0)) [] [], Ch.bx n0 b43 0 (List.map I (List.replicate 4 0)) [] [], Ch.ro 0 (Sl (some ⟨b38, o39, none⟩) x26.2.1 c32) x26.2.1, Ch.ro 0 (Sl (some ⟨b21, o22, none⟩) x9.2.1 c15) x9.2.1, Ch.ro 0 (Sl alist_0 list_0 clist_0) list_0] ∧ Md (cov []) σ7 σm from hJ)
              replace hc23 := (Hs.ro 1 rfl).arr_md hc23 m
              exact dp_v (v := (.agg (List.map I (List.take 4 x9.2.1)).toArray)) (wanted_none _ rfl _) (rv_load (cs := List.map I (List.take 4 x9.2.1)) Try.underlying61 rfl ti61 e23 (by rw [List.length_map, List.length_take]; have := hl24; omega) (arr_take hc23)) rfl hJ
            trivial) ?_
        refine all_cons (obs_v rfl (by
            intro k; rintro ⟨b43, b44⟩ ρ σm hJ hoff hdep
            have e0 : look 64 ρ 0 = (Sl alist_0 list_0 clist_0) := look_off (hoff 0 rfl) rfl
            exact dp_v (v := (Sl alist_0 list_0 clist_0)) (wanted_none _ rfl _) (rv_move e0) rfl hJ)) ?_
        refine all_cons (obs_v rfl (by
            intro k; rintro ⟨b43, b44⟩ ρ σm hJ hoff hdep
            have e25 : look 64 ρ 25 = (Sl alist_0 list_0 clist_0) := hdep 6 rfl rfl 25 rfl
            exact dp_v (v := (pt b29 o30)) (wanted_none _ rfl _) (rv_ix Try.underlying23 ti38 e25 rfl hi28) rfl hJ)) ?_
        refine all_cons (obs_v rfl (by
            intro k; rintro ⟨b43, b44⟩ ρ σm hJ hoff hdep
            have e26 : look 64 ρ 26 = (pt b29 o30) := hdep 7 rfl rfl 26 rfl
            exact dp_v (v := (pt b29 (o30 + 1))) (wanted_none _ rfl _) (rv_fieldAddr (off := 1) (ft := 25) Try.underlying38 rfl ti25 rfl e26) rfl hJ)) ?_
        refine all_cons (by
            refine ⟨?_, ?_⟩
            · rintro ⟨b43, b44⟩ ρ σm hJ hoff hdep
              have e27 : look 64 ρ 27 = (pt b29 (o30 + 1)) := hdep 8 rfl rfl 27 rfl
              obtain ⟨H, m⟩ := (show Hp S0 σ0 σm [Ch.ro 0 (Sl (some ⟨b38, o39, none⟩) x26.2.1 c32) x26.2.1, Ch.ro 0 (Sl (some ⟨b21, o22, none⟩) x9.2.1 c15) x9.2.1, Ch.ro 0 (Sl alist_0 list_0 clist_0) list_0] ∧ Md (cov []) σ7 σm from hJ)
              replace hc35 := (Hs.ro 2 rfl).hmd hx27 hi28 (k := 1) (by decide) hc35 m
              exact dp_v (v := (Sl (some ⟨b38, o39, none⟩) x26.2.1 c32)) (wanted_none _ rfl _) (rv_load1 Try.underlying25 rfl e27 hc35) rfl hJ
            refine ⟨?_, ?_⟩
            · rintro ⟨b43, b44⟩ ρ σm hJ hoff hdep
              have e27 : look 64 ρ 27 = (pt b29 (o30 + 1)) := hdep 8 rfl rfl 27 rfl
              obtain ⟨H, m⟩ := (show Hp S0 σ0 σm [Ch.bx n0 b43 0 (List.map I (List.replicate 4 0)) [] [], Ch.ro 0 (Sl (some ⟨b38, o39, none⟩) x26.2.1 c32) x26.2.1, Ch.ro 0 (Sl (some ⟨b21, o22, none⟩) x9.2.1 c15) x9.2.1, Ch.ro 0 (Sl alist_0 list_0 clist_0) list_0] ∧ Md (cov []) σ7 σm from hJ)
              replace hc35 := (Hs.ro 2 rfl).hmd hx27 hi28 (k := 1) (by decide) hc35 m
              exact dp_v (v := (Sl (some ⟨b38, o39, none⟩) x26.2.1 c32)) (wanted_none _ rfl _) (rv_load1 Try.underlying25 rfl e27 hc35) rfl hJ
            refine ⟨?_, ?_⟩
            · rintro ⟨b43, b44⟩ ρ σm hJ hoff hdep
              have e27 : look 64 ρ 27 = (pt b29 (o30 + 1)) := hdep 8 rfl rfl 27 rfl
              obtain ⟨H, m⟩ := (show Hp S0 σ0 σm [Ch.bx n0 b44 0 (List.map I (List.replicate 4 0)) [] [], Ch.ro 0 (Sl (some ⟨b38, o39, none⟩) x26.2.1 c32) x26.2.1, Ch.ro 0 (Sl (some ⟨b21, o22, none⟩) x9.2.1 c15) x9.2.1, Ch.ro 0 (Sl alist_0 list_0 clist_0) list_0] ∧ Md (cov []) σ7 σm from hJ)
              replace hc35 := (Hs.ro 2 rfl).hmd hx27 hi28 (k := 1) (by decide) hc35 m
              exact dp_v (v := (Sl (some ⟨b38, o39, none⟩) x26.2.1 c32)) (wanted_none _ rfl _) (rv_load1 Try.underlying25 rfl e27 hc35) rfl hJ
            refine ⟨?_, ?_⟩
            · rintro ⟨b43, b44⟩ ρ σm hJ hoff hdep
              have e27 : look 64 ρ 27 = (pt b29 (o30 + 1)) := hdep 8 rfl rfl 27 rfl
              obtain ⟨H, m⟩ := (show Hp S0 σ0 σm [Ch.bx n0 b44 0 (List.map I (List.replicate 4 0)) [] [], Ch.bx n0 b43 0 (List.map I (List.replicate 4 0)) [] [], Ch.ro 0 (Sl (some ⟨b38, o39, none⟩) x26.2.1 c32) x26.2.1, Ch.ro 0 (Sl (some ⟨b21, o22, none⟩) x9.2.1 c15) x9.2.1, Ch.ro 0 (Sl alist_0 list_0 clist_0) list_0] ∧ Md (cov []) σ7 σm from hJ)
              replace hc35 := (Hs.ro 2 rfl).hmd hx27 hi28 (k := 1) (by decide) hc35 m
              exact dp_v (v := (Sl (some ⟨b38, o39, none⟩) x26.2.1 c32)) (wanted_none _ rfl _) (rv_load1 Try.underlying25 rfl e27 hc35) rfl hJ
            trivial) ?_
        refine all_cons (obs_v rfl (by
            intro k; rintro ⟨b43, b44⟩ ρ σm hJ hoff hdep
            have e28 : look 64 ρ 28 = (Sl (some ⟨b38, o39, none⟩) x26.2.1 c32) := hdep 9 rfl rfl 28 rfl
            exact dp_v (v := (.pointer (some ⟨b38, o39, none⟩))) (wanted_none _ rfl _) (rv_arrPtr Try.underlying61 e28 hl41) rfl hJ)) ?_
        refine all_cons (by
            refine ⟨?_, ?_⟩
            · rintro ⟨b43, b44⟩ ρ σm hJ hoff hdep
              have e29 : look 64 ρ 29 = (.pointer (some ⟨b38, o39, none⟩)) := hdep 10 rfl rfl 29 rfl
              obtain ⟨H, m⟩ := (show Hp S0 σ0 σm [Ch.ro 0 (Sl (some ⟨b38, o39, none⟩) x26.2.1 c32) x26.2.1, Ch.ro 0 (Sl (some ⟨b21, o22, none⟩) x9.2.1 c15) x9.2.1, Ch.ro 0 (Sl alist_0 list_0 clist_0) list_0] ∧ Md (cov []) σ7 σm from hJ)
              replace hc40 := (Hs.ro 0 rfl).arr_md hc40 m
              exact dp_v (v := (.agg (List.map I (List.take 4 x26.2.1)).toArray)) (wanted_none _ rfl _) (rv_load (cs := List.map I (List.take 4 x26.2.1)) Try.underlying61 rfl ti61 e29 (by rw [List.length_map, List.length_take]; have := hl41; omega) (arr_take hc40)) rfl hJ
            refine ⟨?_, ?_⟩
            · rintro ⟨b43, b44⟩ ρ σm hJ hoff hdep
              have e29 : look 64 ρ 29 = (.pointer (some ⟨b38, o39, none⟩)) := hdep 10 rfl rfl 29 rfl
              obtain ⟨H, m⟩ := (show Hp S0 σ0 σm [Ch.bx n0 b43 0 (List.map I (List.replicate 4 0)) [] [], Ch.ro 0 (Sl (some ⟨b38, o39, none⟩) x26.2.1 c32) x26.2.1, Ch.ro 0 (Sl (some ⟨b21, o22, none⟩) x9.2.1 c15) x9.2.1, Ch.ro 0 (Sl alist_0 list_0 clist_0) list_0] ∧ Md (cov []) σ7 σm from hJ)
              replace hc40 := (Hs.ro 0 rfl).arr_md hc40 m
              exact dp_v (v := (.agg (List.map I (List.take 4 x26.2.1)).toArray)) (wanted_none _ rfl _) (rv_load (cs := List.map I (List.take 4 x26.2.1)) Try.underlying61 rfl ti61 e29 (by rw [List.length_map, List.length_take]; have := hl41; omega) (arr_take hc40)) rfl hJ
            refine ⟨?_, ?_⟩
            · rintro ⟨b43, b44⟩ ρ σm hJ hoff hdep
              have e29 : look 64 ρ 29 = (.pointer (some ⟨b38, o39, none⟩)) := hdep 10 rfl rfl 29 rfl
              obtain ⟨H, m⟩ := (show Hp S0 σ0 σm [Ch.bx n0 b44 0 (List.map I (List.replicate 4 0)) [] [], Ch.ro 0 (Sl (some ⟨b38, o39, none⟩) x26.2.1 c32) x26.2.1, Ch.ro 0 (Sl (some ⟨b21, o22, none⟩) x9.2.1 c15) x9.2.1, Ch.ro 0 (Sl alist_0 list_0 clist_0) list_0] ∧ Md (cov []) σ7 σm from hJ)
              replace hc40 := (Hs.ro 0 rfl).arr_md hc40 m
              exact dp_v (v := (.agg (List.map I (List.take 4 x26.2.1)).toArray)) (wanted_none _ rfl _) (rv_load (cs := List.map I (List.take 4 x26.2.1)) Try.underlying61 rfl ti61 e29 (by rw [List.length_map, List.length_take]; have := hl41; omega) (arr_take hc40)) rfl hJ
            refine ⟨?_, ?_⟩
            · rintro ⟨b43, b44⟩ ρ σm hJ hoff hdep
              have e29 : look 64 ρ 29 = (.pointer (some ⟨b38, o39, none⟩)) := hdep 10 rfl rfl 29 rfl
              obtain ⟨H, m⟩ := (show Hp S0 σ0 σm [Ch.bx n0 b44 0 (List.map I (List.replicate 4 0)) [] [], Ch.bx n0 b43 0 (List.map I (List.replicate 4 0)) [] [], Ch.ro 0 (Sl (some ⟨b38, o39, none⟩) x26.2.1 c32) x26.2.1, Ch.ro 0 (Sl (some ⟨b21, o22, none⟩) x9.2.1 c15) x9.2.1, Ch.ro 0 (Sl alist_0 list_0 clist_0) list_0] ∧ Md (cov []) σ7 σm from hJ)
              replace hc40 := (Hs.ro 0 rfl).arr_md hc40 m
              exact dp_v (v := (.agg (List.map I (List.take 4 x26.2.1)).toArray)) (wanted_none _ rfl _) (rv_load (cs := List.map I (List.take 4 x26.2.1)) Try.underlying61 rfl ti61 e29 (by rw [List.length_map, List.length_take]; have := hl41; omega) (arr_take hc40)) rfl hJ
            trivial) ?_
        refine all_cons (by
            refine ⟨?_, ?_⟩
            · rintro ⟨b43, b44⟩ ρ σm hJ hoff hdep
              obtain ⟨H, m⟩ := (show Hp S0 σ0 σm [Ch.ro 0 (Sl (some ⟨b38, o39, none⟩) x26.2.1 c32) x26.2.1, Ch.ro 0 (Sl (some ⟨b21, o22, none⟩) x9.2.1 c15) x9.2.1, Ch.ro 0 (Sl alist_0 list_0 clist_0) list_0] ∧ Md (cov []) σ7 σm from hJ)
              refine dp_ex (wanted_none _ rfl _) (ex_alloc (cs := (List.map I (List.replicate 4 0))) H hn0 ti61 rfl) ?_
              rintro _ σq ⟨b43x, rfl, H2, m2⟩
              exact ⟨_, (b43x, b44), rfl, rfl, ⟨H2.sel' [0, 1, 2, 3] rfl rfl, m.comp0 m2⟩, stab [0, 1, 2, 3, 4, 5, 6, 7, 8, 9, 10, 11, 13] (by kernel_rfl) ⟨rfl, rfl, rfl, rfl, rfl, rfl, rfl, rfl, rfl, rfl, rfl, rfl, rfl, trivial⟩⟩
            refine ⟨?_, ?_⟩
            · rintro ⟨b43, b44⟩ ρ σm hJ hoff hdep
              obtain ⟨H, m⟩ := (show Hp S0 σ0 σm [Ch.bx n0 b44 0 (List.map I (List.replicate 4 0)) [] [], Ch.ro 0 (Sl (some ⟨b38, o39, none⟩) x26.2.1 c32) x26.2.1, Ch.ro 0 (Sl (some ⟨b21, o22, none⟩) x9.2.1 c15) x9.2.1, Ch.ro 0 (Sl alist_0 list_0 clist_0) list_0] ∧ Md (cov []) σ7 σm from hJ)
              refine dp_ex (wanted_none _ rfl _) (ex_alloc (cs := (List.map I (List.replicate 4 0))) H hn0 ti61 rfl) ?_
              rintro _ σq ⟨b43x, rfl, H2, m2⟩
              exact ⟨_, (b43x, b44), rfl, rfl, ⟨H2.sel' [1, 0, 2, 3, 4] rfl rfl, m.comp0 m2⟩, stab [0, 1, 2, 3, 4, 5, 6, 7, 8, 9, 10, 11, 13] (by kernel_rfl) ⟨rfl, rfl, rfl, rfl, rfl, rfl, rfl, rfl, rfl, rfl, rfl, rfl, rfl, trivial⟩⟩
            trivial) ?_
        refine all_cons (by
            refine ⟨?_, ?_⟩
            · rintro ⟨b43, b44⟩ ρ σm hJ hoff hdep
              obtain ⟨H, m⟩ := (show Hp S0 σ0 σm [Ch.ro 0 (Sl (some ⟨b38, o39, none⟩) x26.2.1 c32) x26.2.1, Ch.ro 0 (Sl (some ⟨b21, o22, none⟩) x9.2.1 c15) x9.2.1, Ch.ro 0 (Sl alist_0 list_0 clist_0) list_0] ∧ Md (cov []) σ7 σm from hJ)
              refine dp_ex (wanted_none _ rfl _) (ex_alloc (cs := (List.map I (List.replicate 4 0))) H hn0 ti61 rfl) ?_
              rintro _ σq ⟨b44x, rfl, H2, m2⟩
              exact ⟨_, (b43, b44x), rfl, rfl, ⟨H2.sel' [0, 1, 2, 3] rfl rfl, m.comp0 m2⟩, stab [0, 1, 2, 3, 4, 5, 6, 7, 8, 9, 10, 11, 12] (by kernel_rfl) ⟨rfl, rfl, rfl, rfl, rfl, rfl, rfl, rfl, rfl, rfl, rfl, rfl, rfl, trivial⟩⟩
            refine ⟨?_, ?_⟩
            · rintro ⟨b43, b44⟩ ρ σm hJ hoff hdep
              obtain ⟨H, m⟩ := (show Hp S0 σ0 σm [Ch.bx n0 b43 0 (List.map I (List.replicate 4 0)) [] [], Ch.ro 0 (Sl (some ⟨b38, o39, none⟩) x26.2.1 c32) x26.2.1, Ch.ro 0 (Sl (some ⟨b21, o22, none⟩) x9.2.1 c15) x9.2.1, Ch.ro 0 (Sl alist_0 list_0 clist_0) list_0] ∧ Md (cov []) σ7 σm from hJ)
              refine dp_ex (wanted_none _ rfl _) (ex_alloc (cs := (List.map I (List.replicate 4 0))) H hn0 ti61 rfl) ?_
              rintro _ σq ⟨b44x, rfl, H2, m2⟩
              exact ⟨_, (b43, b44x), rfl, rfl, ⟨H2.sel' [0, 1, 2, 3, 4] rfl rfl, m.comp0 m2⟩, stab [0, 1, 2, 3, 4, 5, 6, 7, 8, 9, 10, 11, 12] (by kernel_rfl) ⟨rfl, rfl, rfl, rfl, rfl, rfl, rfl, rfl, rfl, rfl, rfl, rfl, rfl, trivial⟩⟩
            trivial) ?_
        exact all_nil
      · rintro ⟨b43, b44⟩ ρ σ45 hJ hoff hrel
        have e0 : look 64 ρ 0 = (Sl alist_0 list_0 clist_0) := look_off (hoff 0 rfl) rfl
        have e5 : look 64 ρ 5 = (pt b43 0) := hrel 12 rfl 5 rfl
        have e6 : look 64 ρ 6 = (pt b44 0) := hrel 13 rfl 6 rfl
        have e24 : look 64 ρ 24 = (.agg (List.map I (List.take 4 x9.2.1)).toArray) := hrel 5 rfl 24 rfl
        have e30 : look 64 ρ 30 = (.agg (List.map I (List.take 4 x26.2.1)).toArray) := hrel 11 rfl 30 rfl
        obtain ⟨H, -⟩ := (show Hp S0 σ0 σ45 [Ch.bx n0 b44 0 (List.map I (List.replicate 4 0)) [] [], Ch.bx n0 b43 0 (List.map I (List.replicate 4 0)) [] [], Ch.ro 0 (Sl (some ⟨b38, o39, none⟩) x26.2.1 c32) x26.2.1, Ch.ro 0 (Sl (some ⟨b21, o22, none⟩) x9.2.1 c15) x9.2.1, Ch.ro 0 (Sl alist_0 list_0 clist_0) list_0] ∧ Md (cov []) σ7 σ45 from hJ)
        clear hJ Hs
        rw [fr_lookL (L := [(0, (Sl alist_0 list_0 clist_0)), (5, (pt b43 0)), (6, (pt b44 0)), (24, (.agg (List.map I (List.take 4 x9.2.1)).toArray)), (30, (.agg (List.map I (List.take 4 x26.2.1)).toArray))]) ⟨e0, e5, e6, e24, e30, trivial⟩]
        clear hoff hrel e0 e5 e6 e24 e30
        refine st_exS (ex_store_box (k := 0) (cs := (List.map I (List.replicate 4 0))) (vs := (List.map I (List.take 4 x9.2.1))) (cs' := (List.map I (List.take 4 x9.2.1))) H (i := 1) rfl ti61 rfl rfl rfl rfl ((List.length_map _).trans (by rw [List.length_take]; have := hl24; omega)) (arr_fits (k := 4) (by rw [List.length_take]; have := hl24; omega) rfl) (plain_ints _) (arr_all (k := 4) (by rw [List.length_take]; have := hl24; omega) rfl)) (wanted_none _ rfl _) ?_
        rintro σ46 ⟨H, -⟩
        refine st_exS (ex_store_box (k := 0) (cs := (List.map I (List.replicate 4 0))) (vs := (List.map I (List.take 4 x26.2.1))) (cs' := (List.map I (List.take 4 x26.2.1))) H (i := 1) rfl ti61 rfl rfl rfl rfl ((List.length_map _).trans (by rw [List.length_take]; have := hl41; omega)) (arr_fits (k := 4) (by rw [List.length_take]; have := hl41; omega) rfl) (plain_ints _) (arr_all (k := 4) (by rw [List.length_take]; have := hl41; omega) rfl)) (wanted_none _ rfl _) ?_
        rintro σ47 ⟨H, -⟩
        refine w_end ?_
        refine q_then ?_
        refine c_seq ?_
        refine c_seq ?_
        refine rg ?_
        refine st (v := (Sl alist_0 list_0 clist_0)) (rv_move rfl) ?_
        obtain ⟨xs48, hx49, h'⟩ := bind_some h
        clear h
        have h := h'; clear h'
        obtain ⟨a50, c51, hs52, hR53⟩ := (H.ro 4 rfl).slice hx49
        replace H := H.add (d := Ch.ro 0 (Sl a50 xs48 c51) xs48) hR53 (fun _ h => h)
        clear hR53
        refine st (v := (Sl a50 xs48 c51)) (rv_slice_l Try.underlying23 ti38 hs52 rfl rfl) ?_
        refine st (v := (I (xs48.length : Int))) (rv_len Try.underlying23 rfl) ?_
        refine st (v := (I 0)) (rv_move rfl) ?_
        refine w_end ?_
        refine q_then ?_
        obtain ⟨o54, hj, h'⟩ := bind_some h
        clear h
        refine c_cut (fun e a w => e = .normal ∧ ∃ (ρ : Nat → Value) (σ : St), a = fr 64 (updL ρ [(5, (pt b43 0)), (6, (pt b44 0))]) ∧ w = σ.w ∧ Hp S0 σ0 σ [Ch.bx n0 b43 0 (List.map I o54.1) [] [], Ch.bx n0 b44 0 (List.map I o54.2) [] []] ∧ o54.1.length = 4 ∧ o54.2.length = 4) ?_ ?_
        · clear h'
          rename _ = some o54 => h
          refine c_blk ?_
          refine wp_loopM _ h (fun s55 a w => ∃ (ρ : Nat → Value) (σ : St), a = fr 64 (updL ρ [(5, (pt b43 0)), (6, (pt b44 0)), (32, (Sl a50 xs48 c51)), (33, (I (xs48.length : Int))), (34, (I s55.2.2))]) ∧ w = σ.w ∧ Hp S0 σ0 σ [Ch.bx n0 b43 0 (List.map I s55.1) [] [], Ch.bx n0 b44 0 (List.map I s55.2.1) [] [], Ch.ro 0 (Sl a50 xs48 c51) xs48] ∧ s55.1.length = 4 ∧ s55.2.1.length = 4) ⟨_, σ47, fr_join ⟨rfl, rfl, rfl, rfl, rfl, trivial⟩, rfl, H.sel' [2, 1, 0] rfl rfl, (by rw [List.length_take]; have := hl24; omega), (by rw [List.length_take]; have := hl41; omega)⟩ ?_
          clear h H
          rintro s55 a w o ⟨ρ, σ56, rfl, rfl, H, hl57, hl58⟩ h hres
          refine c_seq ?_
          refine rg ?_
          refine st (v := (B (decide (s55.2.2 < (xs48.length : Int))))) (rv_lss (a := s55.2.2) (b := (xs48.length : Int)) rfl rfl) ?_
          refine w_end ?_
          refine q_then ?_
          refine c_seq ?_
          refine cd_cond (decide (s55.2.2 < (xs48.length : Int))) rfl (fun hb59 => ?_) (fun hb59 => ?_)
          · replace h := bif_t hb59 h
            refine c_skip ?_
            refine q_then ?_
            refine c_seq ?_
            refine c_blk ?_
            refine c_seq ?_
            refine rg ?_
            obtain ⟨x60, hx61, h'⟩ := bind_some h
            clear h
            have h := h'; clear h'
            obtain ⟨b63, o64, hi62, -⟩ := (H.ro 2 rfl).ix hx61
            refine st (v := (pt b63 o64)) (rv_ix Try.underlying23 ti38 rfl rfl hi62) ?_
            obtain ⟨_, ⟨_, _, rfl, rfl, ⟨_, _, rfl, ⟨_, rfl, hR69⟩, rfl⟩⟩, hl65, hc66⟩ := ((H.ro 2 rfl).at hx61 hi62).cells
            obtain ⟨a67, c68, rfl⟩ := hR69.isSl
            replace H := H.add (d := Ch.ro 0 (Sl a67 x60.2.1 c68) x60.2.1) hR69 (fun _ h => h)
            clear hR69
            refine st (v := (.agg #[(I x60.1), (Sl a67 x60.2.1 c68), (I x60.2.2)])) (rv_load Try.underlying38 rfl ti38 rfl hl65 hc66) ?_
            refine st_ex (ex_alloc (cs := [(I 0), (.slice none 0 0), (I 0)]) H hn0 ti38 rfl) (wanted_none _ rfl _) ?_
            rintro _ σ71 ⟨b70, rfl, H, -⟩
            refine st_exS (ex_store_box (k := 0) (cs := [(I 0), (.slice none 0 0), (I 0)]) (vs := [(I x60.1), (Sl a67 x60.2.1 c68), (I x60.2.2)]) (cs' := [(I x60.1), (Sl a67 x60.2.1 c68), (I x60.2.2)]) H (i := 0) rfl ti38 rfl rfl rfl rfl rfl (Nat.le_of_ble_eq_true rfl) (by simp [plain]) rfl) (wanted_none _ rfl _) ?_
            rintro σ72 ⟨H, -⟩
            refine w_end ?_
            refine q_then ?_
            refine c_seq ?_
            refine rg ?_
            refine st (v := (pt b70 1)) (rv_fieldAddr (off := 1) (ft := 25) Try.underlying38 rfl ti25 rfl rfl) ?_
            have hc73 := H.cell (u := (Sl a67 x60.2.1 c68)) (o' := 1) 0 1 rfl rfl rfl
            refine st (v := (Sl a67 x60.2.1 c68)) (rv_load1 Try.underlying25 rfl rfl hc73) ?_
            refine st (v := (I (x60.2.1.length : Int))) (rv_len Try.underlying25 rfl) ?_
            refine st (v := (I 0)) (rv_move rfl) ?_
            refine w_end ?_
            refine q_then ?_
            obtain ⟨o74, hj, h'⟩ := bind_some h
            clear h
            refine c_cut (fun e a w => e = .normal ∧ ∃ (ρ : Nat → Value) (σ : St), a = fr 64 (updL ρ [(5, (pt b43 0)), (6, (pt b44 0)), (32, (Sl a50 xs48 c51)), (33, (I (xs48.length : Int))), (34, (I s55.2.2))]) ∧ w = σ.w ∧ Hp S0 σ0 σ [Ch.bx n0 b43 0 (List.map I o74.1) [] [], Ch.bx n0 b44 0 (List.map I o74.2) [] [], Ch.ro 0 (Sl a50 xs48 c51) xs48] ∧ o74.1.length = 4 ∧ o74.2.length = 4) ?_ ?_
            · clear h'
              rename _ = some o74 => h
              refine c_blk ?_
              refine wp_loopM _ h (fun s75 a w => ∃ (ρ : Nat → Value) (σ : St), a = fr 64 (updL ρ [(5, (pt b43 0)), (6, (pt b44 0)), (32, (Sl a50 xs48 c51)), (33, (I (xs48.length : Int))), (34, (I s55.2.2)), (39, (Sl a67 x60.2.1 c68)), (40, (I (x60.2.1.length : Int))), (41, (I s75.2.2))]) ∧ w = σ.w ∧ Hp S0 σ0 σ [Ch.bx n0 b43 0 (List.map I s75.1) [] [], Ch.bx n0 b44 0 (List.map I s75.2.1) [] [], Ch.ro 0 (Sl a50 xs48 c51) xs48, Ch.ro 0 (Sl a67 x60.2.1 c68) x60.2.1] ∧ s75.1.length = 4 ∧ s75.2.1.length = 4) ⟨_, σ72, fr_join ⟨rfl, rfl, rfl, rfl, rfl, rfl, rfl, rfl, trivial⟩, rfl, H.sel' [2, 3, 4, 1] rfl rfl, hl57, hl58⟩ ?_
              clear h H
              rintro s75 a w o ⟨ρ, σ76, rfl, rfl, H, hl77, hl78⟩ h hres
              refine c_seq ?_
              refine rg ?_
              refine st (v := (B (decide (s75.2.2 < (x60.2.1.length : Int))))) (rv_lss (a := s75.2.2) (b := (x60.2.1.length : Int)) rfl rfl) ?_
              refine w_end ?_
              refine q_then ?_
              refine c_seq ?_
              refine cd_cond (decide (s75.2.2 < (x60.2.1.length : Int))) rfl (fun hb79 => ?_) (fun hb79 => ?_)
              · replace h := bif_t hb79 h
                refine c_skip ?_
                refine q_then ?_
                refine c_seq ?_
                refine c_blk ?_
                refine c_seq ?_
                refine rg ?_
                refine st (v := (I s75.2.2)) (rv_move rfl) ?_
                obtain ⟨x80, hx81, h'⟩ := bind_some h
                clear h
                have h := h'; clear h'
                obtain ⟨b83, o84, hi82, -⟩ := (H.ro 3 rfl).ix hx81
                refine st (v := (pt b83 o84)) (rv_ix Try.underlying25 ti3 rfl rfl hi82) ?_
                have hc85 := ((H.ro 3 rfl).at hx81 hi82).int
                refine st (v := (I x80)) (rv_load1 Try.underlying3 rfl rfl hc85) ?_
                refine st (v := (I s75.2.2)) (rv_assign rfl) ?_
                refine st (v := (I x80)) (rv_assign rfl) ?_
                refine w_end ?_
                refine q_then ?_
                refine c_seq ?_
                refine rg ?_
                refine st (v := (I s75.2.2)) (rv_move rfl) ?_
                refine st (v := (I s75.2.2)) (rv_move rfl) ?_
                obtain ⟨x86, hx87, h'⟩ := bind_some h
                clear h
                have h := h'; clear h'
                have hl88 := gidx_lt hx87 hl77
                refine st (v := (pt b43 (0 + s75.2.2.toNat * 1))) (rv_indexAddr_array Try.underlying61 ti3 rfl rfl hl88.1 hl88.2) ?_
                have hc89 := Hp.arrCell H 0 rfl hx87
                refine st (v := (I x86)) (rv_load1 Try.underlying3 rfl rfl hc89) ?_
                refine st (v := (I x80)) (rv_move rfl) ?_
                refine st (v := (I (min x86 x80))) (rv_min rfl rfl) ?_
                obtain ⟨x90, hx91, h'⟩ := bind_some h
                clear h
                have h := h'; clear h'
                have hl92 := gidx_lt hx91 hl77
                refine st (v := (pt b43 (0 + s75.2.2.toNat * 1))) (rv_indexAddr_array Try.underlying61 ti3 rfl rfl hl92.1 hl92.2) ?_
                have hl93 := gidx_lt hx91 hl77
                refine st_exS (ex_store_box (k := s75.2.2.toNat * 1) (vs := [(I (min x86 x80))]) (cs' := (List.map I (s75.1.set s75.2.2.toNat (min x86 x80)))) H (i := 0) rfl ti3 rfl rfl rfl rfl rfl (by rw [List.length_map, hl77]; simp; omega) (by simp [plain]) (arr_set' _ _ _)) (wanted_none _ rfl _) ?_
                rintro σ94 ⟨H, -⟩
                refine w_end ?_
                refine q_then ?_
                refine rg ?_
                refine st (v := (I s75.2.2)) (rv_move rfl) ?_
                refine st (v := (I s75.2.2)) (rv_move rfl) ?_
                obtain ⟨x95, hx96, h'⟩ := bind_some h
                clear h
                have h := h'; clear h'
                have hl97 := gidx_lt hx96 hl78
                refine st (v := (pt b44 (0 + s75.2.2.toNat * 1))) (rv_indexAddr_array Try.underlying61 ti3 rfl rfl hl97.1 hl97.2) ?_
                have hc98 := Hp.arrCell H 1 rfl hx96
                refine st (v := (I x95)) (rv_load1 Try.underlying3 rfl rfl hc98) ?_
                refine st (v := (I x80)) (rv_move rfl) ?_
                refine st (v := (I (max x95 x80))) (rv_max rfl rfl) ?_
                obtain ⟨x99, hx100, h'⟩ := bind_some h
                clear h
                have h := h'; clear h'
                have hl101 := gidx_lt hx100 hl78
                refine st (v := (pt b44 (0 + s75.2.2.toNat * 1))) (rv_indexAddr_array Try.underlying61 ti3 rfl rfl hl101.1 hl101.2) ?_
                have hl102 := gidx_lt hx100 hl78
                refine st_exS (ex_store_box (k := s75.2.2.toNat * 1) (vs := [(I (max x95 x80))]) (cs' := (List.map I (s75.2.1.set s75.2.2.toNat (max x95 x80)))) H (i := 1) rfl ti3 rfl rfl rfl rfl rfl (by rw [List.length_map, hl78]; simp; omega) (by simp [plain]) (arr_set' _ _ _)) (wanted_none _ rfl _) ?_
                rintro σ103 ⟨H, -⟩
                refine w_end ?_
                refine q_blk ?_
                refine q_then ?_
                refine rg ?_
                refine st (v := (I (w64 (s75.2.2 + 1)))) (rv_add (a := s75.2.2) (b := 1) rfl rfl) ?_
                refine st (v := (I (w64 (s75.2.2 + 1)))) (rv_move rfl) ?_
                refine w_end ?_
                refine q_then ?_
                obtain rfl := Option.some.inj h
                exact ⟨_, rfl, _, σ103, fr_join ⟨rfl, rfl, rfl, rfl, rfl, rfl, rfl, rfl, trivial⟩, rfl, H.sel' [1, 0, 2, 3] rfl rfl, (set_len hl77), (set_len hl78)⟩
              · replace h := bif_f hb79 h
                refine c_exit ?_
                refine q_then_x ?_
                refine q_then_x ?_
                refine q_blk_hit ?_
                obtain rfl := Option.some.inj h
                obtain rfl := hres _ rfl
                exact ⟨rfl, _, σ76, fr_join ⟨rfl, rfl, rfl, rfl, rfl, trivial⟩, rfl, H.sel' [0, 1, 2] rfl rfl, hl77, hl78⟩
            · clear hj
              have h := h'
              clear h' H
              rintro e a w ⟨rfl, ρ, σ104, rfl, rfl, H, hl105, hl106⟩
              refine q_blk ?_
              refine q_then ?_
              refine rg ?_
              refine st (v := (I (w64 (s55.2.2 + 1)))) (rv_add (a := s55.2.2) (b := 1) rfl rfl) ?_
              refine st (v := (I (w64 (s55.2.2 + 1)))) (rv_move rfl) ?_
              refine w_end ?_
              refine q_then ?_
              obtain rfl := Option.some.inj h
              exact ⟨_, rfl, _, σ104, fr_join ⟨rfl, rfl, rfl, rfl, rfl, trivial⟩, rfl, H.sel' [0, 1, 2] rfl rfl, hl105, hl106⟩
          · replace h := bif_f hb59 h
            refine c_exit ?_
            refine q_then_x ?_
            refine q_then_x ?_
            refine q_blk_hit ?_
            obtain rfl := Option.some.inj h
            obtain rfl := hres _ rfl
            exact ⟨rfl, _, σ56, fr_join ⟨rfl, rfl, trivial⟩, rfl, H.sel' [0, 1] rfl rfl, hl57, hl58⟩
        · clear hj
          have h := h'
          clear h' H
          rintro e a w ⟨rfl, ρ, σ107, rfl, rfl, H, hl108, hl109⟩
          refine q_then ?_
          refine c_seq ?_
          replace H := Hp.arr (el := n0) H (i := 0) rfl hl108
          replace H := Hp.arr (el := n0) H (i := 1) rfl hl109
          have Hs := H
          refine rg2 (σ := σ107) (Nm := Unit) 3 [] [[]] [[(0, 0)], [(0, 0)], [(0, 0)]] 0 [fun (_nm : Unit) => fun σm => Hp S0 σ0 σm [Ch.own n0 n0 (Sl (some ⟨b44, 0, none⟩) o54.2 4) o54.2, Ch.own n0 n0 (Sl (some ⟨b43, 0, none⟩) o54.1 4) o54.1] ∧ Md (cov []) σ107 σm] [fun (_nm : Unit) => (Sl (some ⟨b43, 0, none⟩) o54.1 4), fun (_nm : Unit) => (Sl (some ⟨b44, 0, none⟩) o54.2 4), fun (_nm : Unit) => (Sl (some ⟨b43, 0, none⟩) o54.1 4)] () (by kernel_rfl) (by kernel_rfl) ?_ ?_ ?_
          · intro σm m0
            exact ⟨H.grow (m0.mono fun _ h => h.elim), m0⟩
          · refine all_cons (obs_v rfl (by
                intro k; intro _nm ρ σm hJ hoff hdep
                have e5 : look 64 ρ 5 = (pt b43 0) := look_off (hoff 5 rfl) rfl
                exact dp_v (v := (Sl (some ⟨b43, 0, none⟩) o54.1 4)) (wanted_none _ rfl _) (rv_slice_arrL Try.underlying61 ti3 (by decide) e5 hl108) rfl hJ)) ?_
            refine all_cons (obs_v rfl (by
                intro k; intro _nm ρ σm hJ hoff hdep
                have e6 : look 64 ρ 6 = (pt b44 0) := look_off (hoff 6 rfl) rfl
                exact dp_v (v := (Sl (some ⟨b44, 0, none⟩) o54.2 4)) (wanted_none _ rfl _) (rv_slice_arrL Try.underlying61 ti3 (by decide) e6 hl109) rfl hJ)) ?_
            refine all_cons (obs_v rfl (by
                intro k; intro _nm ρ σm hJ hoff hdep
                have e62 : look 64 ρ 62 = (Sl (some ⟨b43, 0, none⟩) o54.1 4) := hdep 0 rfl rfl 62 rfl
                exact dp_v (v := (Sl (some ⟨b43, 0, none⟩) o54.1 4)) (wanted_none _ rfl _) (rv_assign e62) rfl hJ)) ?_
            exact all_nil
          · intro _nm ρ σ110 hJ hoff hrel
            have e2 : look 64 ρ 2 = (Sl (some ⟨b43, 0, none⟩) o54.1 4) := hrel 2 rfl 2 rfl
            have e63 : look 64 ρ 63 = (Sl (some ⟨b44, 0, none⟩) o54.2 4) := hrel 1 rfl 63 rfl
            obtain ⟨H, -⟩ := (show Hp S0 σ0 σ110 [Ch.own n0 n0 (Sl (some ⟨b44, 0, none⟩) o54.2 4) o54.2, Ch.own n0 n0 (Sl (some ⟨b43, 0, none⟩) o54.1 4) o54.1] ∧ Md (cov []) σ107 σ110 from hJ)
            clear hJ Hs
            rw [fr_lookL (L := [(2, (Sl (some ⟨b43, 0, none⟩) o54.1 4)), (63, (Sl (some ⟨b44, 0, none⟩) o54.2 4))]) ⟨e2, e63, trivial⟩]
            clear hoff hrel e2 e63
            refine st (v := (Sl (some ⟨b44, 0, none⟩) o54.2 4)) (rv_assign rfl) ?_
            refine st (v := (B true)) (rv_assign rfl) ?_
            refine w_end ?_
            refine q_then ?_
            refine c_ret ?_
            obtain rfl := Option.some.inj h
            exact fin_ret (v := (.tuple #[(Sl (some ⟨b43, 0, none⟩) o54.1 4), (Sl (some ⟨b44, 0, none⟩) o54.2 4), (B true)])) (results_ok Try.results16 (res_tmp (v := (Sl (some ⟨b43, 0, none⟩) o54.1 4)) rfl (res_tmp (v := (Sl (some ⟨b44, 0, none⟩) o54.2 4)) rfl (res_tmp (v := (B true)) rfl res_nil))) rfl) ⟨(some ⟨b43, 0, none⟩), 4, (some ⟨b44, 0, none⟩), 4, rfl, rfl, hl108.symm, hl109.symm⟩ (H.sel' [1, 0] rfl rfl)

theorem c_spec_BoundsOf {list_0 : List (Int × (List Int) × Int)} {alist_0 : Option Addr} {clist_0 : Nat} {r : (List Int) × (List Int) × Bool} (h : M.spec_BoundsOf list_0 = some r) :
    Cal2 Try.prog 17 [(Sl alist_0 list_0 clist_0)] [Ch.ro 0 (Sl alist_0 list_0 clist_0) list_0] (fun n0 v L => ∃ (az1 : Option Addr), ∃ (cz2 : Nat), ∃ (az3 : Option Addr), ∃ (cz4 : Nat), v = (.tuple #[(Sl az1 r.1 cz2), (Sl az3 r.2.1 cz4), (B r.2.2)]) ∧ L = [Ch.own n0 n0 (Sl az1 r.1 cz2) r.1, Ch.own n0 n0 (Sl az3 r.2.1 cz4) r.2.1]) := by
  refine cal2 (n := 71) Try.func17 rfl rfl rfl rfl ?_
  intro S0 σ0 n0 hn0 H
  unfold M.spec_BoundsOf at h
  refine c_seq ?_
  refine rg ?_
  refine st (v := (.slice none 0 0)) (rv_assign rfl) ?_
  refine st (v := (.slice none 0 0)) (rv_assign rfl) ?_
  refine st (v := (B false)) (rv_assign rfl) ?_
  refine w_end ?_
  refine q_then ?_
  refine c_seq ?_
  refine c_seq ?_
  obtain ⟨o1, hj, h'⟩ := bind_some h
  clear h
  refine c_cut (fun e a w => e = .normal ∧ ∃ (ρ : Nat → Value) (σ : St), a = fr 71 (updL ρ [(0, (Sl alist_0 list_0 clist_0)), (16, (B o1))]) ∧ w = σ.w ∧ Hp S0 σ0 σ [Ch.ro 0 (Sl alist_0 list_0 clist_0) list_0]) ?_ ?_
  · clear h'
    rename _ = some o1 => h
    refine rg ?_
    refine st (v := (Sl alist_0 list_0 clist_0)) (rv_move rfl) ?_
    obtain ⟨r2, hx3, h'⟩ := bind_some h
    clear h
    have h := h'; clear h'
    have hc4 := c_spec_validStore (alist_0 := alist_0) (clist_0 := clist_0) hx3
    refine st_call (cx_call hc4 (ent_f hc4.fn rfl) hn0 (show Hp S0 σ0 _ ([Ch.ro 0 (Sl alist_0 list_0 clist_0) list_0] ++ [Ch.ro 0 (Sl alist_0 list_0 clist_0) list_0]) from (H.sel' [0, 0] rfl rfl))) (wanted_none _ rfl _) ?_
    rintro _ σ5 ⟨_, ⟨rfl, rfl⟩, H, -⟩
    replace H : Hp S0 σ0 σ5 [Ch.ro 0 (Sl alist_0 list_0 clist_0) list_0] := H
    refine st (v := (B (!r2))) (rv_not rfl) ?_
    refine st (v := (B (!r2))) (rv_move rfl) ?_
    rcases Bool.eq_false_or_eq_true (!r2) with hb6 | hb6
    · replace h := bif_t hb6 h
      refine st_skip (congrArg some hb6) ?_
      refine st_skip (congrArg some hb6) ?_
      refine st_skip (congrArg some hb6) ?_
      refine st (v := (B true)) (rv_pick_t (congrArg B hb6) rfl) ?_
      refine w_end ?_
      obtain rfl := Option.some.inj h
      exact ⟨rfl, _, σ5, fr_join ⟨rfl, rfl, trivial⟩, rfl, H.sel' [0] rfl rfl⟩
    · replace h := bif_f hb6 h
      refine st_g (v := (Sl alist_0 list_0 clist_0)) (congrArg some hb6) (rv_move rfl) ?_
      refine st_g (v := (I (list_0.length : Int))) (congrArg some hb6) (rv_len Try.underlying23 rfl) ?_
      refine st_g (v := (B ((list_0.length : Int) == 0))) (congrArg some hb6) (rv_eql (a := (list_0.length : Int)) (b := 0) rfl rfl) ?_
      refine st (v := (B ((list_0.length : Int) == 0))) (rv_pick_f (congrArg B hb6) rfl) ?_
      refine w_end ?_
      obtain rfl := Option.some.inj h
      exact ⟨rfl, _, σ5, fr_join ⟨rfl, rfl, trivial⟩, rfl, H.sel' [0] rfl rfl⟩
  · clear hj
    have h := h'
    clear h' H
    rintro e a w ⟨rfl, ρ, σ7, rfl, rfl, H⟩
    refine q_then ?_
    refine cd_cond o1 rfl (fun hb8 => ?_) (fun hb8 => ?_)
    · replace h := bif_t hb8 h
      refine c_seq ?_
      refine rg ?_
      refine st (v := (.slice none 0 0)) (rv_assign rfl) ?_
      refine st (v := (.slice none 0 0)) (rv_assign rfl) ?_
      refine st (v := (B false)) (rv_assign rfl) ?_
      refine w_end ?_
      refine q_then ?_
      refine c_ret ?_
      refine q_then_r ?_
      replace H := H.nilOwn Int n0 n0
      replace H := H.nilOwn Int n0 n0
      obtain rfl := Option.some.inj h
      exact fin_ret (v := (.tuple #[(.slice none 0 0), (.slice none 0 0), (B false)])) (results_ok Try.results17 (res_tmp (v := (.slice none 0 0)) rfl (res_tmp (v := (.slice none 0 0)) rfl (res_tmp (v := (B false)) rfl res_nil))) rfl) ⟨none, 0, none, 0, rfl, rfl⟩ (H.sel' [1, 0] rfl rfl)
    · replace h := bif_f hb8 h
      refine c_skip ?_
      refine q_then ?_
      refine c_seq ?_
      refine rg ?_
      refine st (v := (Sl alist_0 list_0 clist_0)) (rv_move rfl) ?_
      obtain ⟨x9, hx10, h'⟩ := bind_some h
      clear h
      have h := h'; clear h'
      obtain ⟨b12, o13, hi11, -⟩ := (H.ro 0 rfl).ix hx10
      refine st (v := (pt b12 o13)) (rv_ix Try.underlying23 ti38 rfl rfl hi11) ?_
      refine st (v := (pt b12 (o13 + 1))) (rv_fieldAddr (off := 1) (ft := 25) Try.underlying38 rfl ti25 rfl rfl) ?_
      obtain ⟨v17, hc18, hR16⟩ := ((H.ro 0 rfl).at hx10 hi11).snd.fst.slice
      obtain ⟨a14, c15, rfl⟩ := hR16.isSl
      replace H := H.add (d := Ch.ro 0 (Sl a14 x9.2.1 c15) x9.2.1) hR16 (fun _ h => h)
      clear hR16
      refine st (v := (Sl a14 x9.2.1 c15)) (rv_load1 Try.underlying25 rfl rfl hc18) ?_
      obtain ⟨r19, hx20, h'⟩ := bind_some h
      clear h
      have h := h'; clear h'
      have hc21 := c_spec_copyInts (alist_0 := a14) (clist_0 := c15) hx20
      refine st_call (cx_call hc21 (ent_f hc21.fn rfl) hn0 (show Hp S0 σ0 _ ([Ch.ro 0 (Sl a14 x9.2.1 c15) x9.2.1] ++ [Ch.ro 0 (Sl a14 x9.2.1 c15) x9.2.1, Ch.ro 0 (Sl alist_0 list_0 clist_0) list_0]) from (H.sel' [0, 0, 1] rfl rfl))) (wanted_none _ rfl _) ?_
      rintro _ σ24 ⟨_, ⟨a22, c23, rfl, rfl⟩, H, -⟩
      replace H : Hp S0 σ0 σ24 [Ch.own n0 n0 (Sl a22 r19 c23) r19, Ch.ro 0 (Sl a14 x9.2.1 c15) x9.2.1, Ch.ro 0 (Sl alist_0 list_0 clist_0) list_0] := H
      refine st (v := (Sl a22 r19 c23)) (rv_assign rfl) ?_
      refine w_end ?_
      refine q_then ?_
      refine c_seq ?_
      refine rg ?_
      refine st (v := (Sl alist_0 list_0 clist_0)) (rv_move rfl) ?_
      obtain ⟨x25, hx26, h'⟩ := bind_some h
      clear h
      have h := h'; clear h'
      obtain ⟨b28, o29, hi27, -⟩ := (H.ro 2 rfl).ix hx26
      refine st (v := (pt b28 o29)) (rv_ix Try.underlying23 ti38 rfl rfl hi27) ?_
      refine st (v := (pt b28 (o29 + 1))) (rv_fieldAddr (off := 1) (ft := 25) Try.underlying38 rfl ti25 rfl rfl) ?_
      obtain ⟨v33, hc34, hR32⟩ := ((H.ro 2 rfl).at hx26 hi27).snd.fst.slice
      obtain ⟨a30, c31, rfl⟩ := hR32.isSl
      replace H := H.add (d := Ch.ro 0 (Sl a30 x25.2.1 c31) x25.2.1) hR32 (fun _ h => h)
      clear hR32
      refine st (v := (Sl a30 x25.2.1 c31)) (rv_load1 Try.underlying25 rfl rfl hc34) ?_
      obtain ⟨r35, hx36, h'⟩ := bind_some h
      clear h
      have h := h'; clear h'
      have hc37 := c_spec_copyInts (alist_0 := a30) (clist_0 := c31) hx36
      refine st_call (cx_call hc37 (ent_f hc37.fn rfl) hn0 (show Hp S0 σ0 _ ([Ch.ro 0 (Sl a30 x25.2.1 c31) x25.2.1] ++ [Ch.ro 0 (Sl a30 x25.2.1 c31) x25.2.1, Ch.own n0 n0 (Sl a22 r19 c23) r19, Ch.ro 0 (Sl a14 x9.2.1 c15) x9.2.1, Ch.ro 0 (Sl alist_0 list_0 clist_0) list_0]) from (H.sel' [0, 0, 1, 2, 3] rfl rfl))) (wanted_none _ rfl _) ?_
      rintro _ σ40 ⟨_, ⟨a38, c39, rfl, rfl⟩, H, -⟩
      replace H : Hp S0 σ0 σ40 [Ch.own n0 n0 (Sl a38 r35 c39) r35, Ch.ro 0 (Sl a30 x25.2.1 c31) x25.2.1, Ch.own n0 n0 (Sl a22 r19 c23) r19, Ch.ro 0 (Sl a14 x9.2.1 c15) x9.2.1, Ch.ro 0 (Sl alist_0 list_0 clist_0) list_0] := H
      refine st (v := (Sl a38 r35 c39)) (rv_assign rfl) ?_
      refine w_end ?_
      refine q_then ?_
      refine c_seq ?_
      refine c_seq ?_
      refine rg ?_
      refine st (v := (I 1)) (rv_assign rfl) ?_
      refine w_end ?_
      refine q_then ?_
      obtain ⟨o41, hj, h'⟩ := bind_some h
      clear h
      refine c_cut (fun e a w => e = .normal ∧ ∃ (ρ : Nat → Value) (σ : St), a = fr 71 (updL ρ [(5, (Sl a22 o41.1 c23)), (6, (Sl a38 o41.2 c39))]) ∧ w = σ.w ∧ Hp S0 σ0 σ [Ch.own n0 n0 (Sl a22 o41.1 c23) o41.1, Ch.own n0 n0 (Sl a38 o41.2 c39) o41.2] ∧ o41.1.length = r19.length ∧ o41.2.length = r35.length) ?_ ?_
      · clear h'
        rename _ = some o41 => h
        refine c_blk ?_
        refine wp_loopM _ h (fun s42 a w => ∃ (ρ : Nat → Value) (σ : St), a = fr 71 (updL ρ [(0, (Sl alist_0 list_0 clist_0)), (5, (Sl a22 s42.1 c23)), (6, (Sl a38 s42.2.1 c39)), (7, (I s42.2.2))]) ∧ w = σ.w ∧ Hp S0 σ0 σ [Ch.ro 0 (Sl alist_0 list_0 clist_0) list_0, Ch.own n0 n0 (Sl a22 s42.1 c23) s42.1, Ch.own n0 n0 (Sl a38 s42.2.1 c39) s42.2.1] ∧ s42.1.length = r19.length ∧ s42.2.1.length = r35.length) ⟨_, σ40, fr_join ⟨rfl, rfl, rfl, rfl, trivial⟩, rfl, H.sel' [4, 2, 0] rfl rfl, rfl, rfl⟩ ?_
        clear h H
        rintro s42 a w o ⟨ρ, σ43, rfl, rfl, H, hn44, hn45⟩ h hres
        refine c_seq ?_
        refine c_seq ?_
        refine rg ?_
        refine st (v := (I s42.2.2)) (rv_move rfl) ?_
        refine st (v := (Sl alist_0 list_0 clist_0)) (rv_move rfl) ?_
        refine st (v := (I (list_0.length : Int))) (rv_len Try.underlying23 rfl) ?_
        refine st (v := (B (decide (s42.2.2 < (list_0.length : Int))))) (rv_lss (a := s42.2.2) (b := (list_0.length : Int)) rfl rfl) ?_
        refine w_end ?_
        refine q_then ?_
        refine cd_cond (decide (s42.2.2 < (list_0.length : Int))) rfl (fun hb46 => ?_) (fun hb46 => ?_)
        · replace h := bif_t hb46 h
          refine c_skip ?_
          refine q_then ?_
          refine c_seq ?_
          refine c_blk ?_
          refine c_seq ?_
          refine rg ?_
          refine st (v := (I 0)) (rv_assign rfl) ?_
          refine w_end ?_
          refine q_then ?_
          obtain ⟨o47, hj, h'⟩ := bind_some h
          clear h
          refine c_cut (fun e a w => e = .normal ∧ ∃ (ρ : Nat → Value) (σ : St), a = fr 71 (updL ρ [(0, (Sl alist_0 list_0 clist_0)), (5, (Sl a22 o47.1 c23)), (6, (Sl a38 o47.2 c39)), (7, (I s42.2.2))]) ∧ w = σ.w ∧ Hp S0 σ0 σ [Ch.ro 0 (Sl alist_0 list_0 clist_0) list_0, Ch.own n0 n0 (Sl a22 o47.1 c23) o47.1, Ch.own n0 n0 (Sl a38 o47.2 c39) o47.2] ∧ o47.1.length = s42.1.length ∧ o47.2.length = s42.2.1.length) ?_ ?_
          · clear h'
            rename _ = some o47 => h
            refine c_blk ?_
            refine wp_loopM _ h (fun s48 a w => ∃ (ρ : Nat → Value) (σ : St), a = fr 71 (updL ρ [(0, (Sl alist_0 list_0 clist_0)), (5, (Sl a22 s48.1 c23)), (6, (Sl a38 s48.2.1 c39)), (7, (I s42.2.2)), (8, (I s48.2.2))]) ∧ w = σ.w ∧ Hp S0 σ0 σ [Ch.ro 0 (Sl alist_0 list_0 clist_0) list_0, Ch.own n0 n0 (Sl a22 s48.1 c23) s48.1, Ch.own n0 n0 (Sl a38 s48.2.1 c39) s48.2.1] ∧ s48.1.length = s42.1.length ∧ s48.2.1.length = s42.2.1.length) ⟨_, σ43, fr_join ⟨rfl, rfl, rfl, rfl, rfl, trivial⟩, rfl, H.sel' [0, 1, 2] rfl rfl, rfl, rfl⟩ ?_
            clear h H
            rintro s48 a w o ⟨ρ, σ49, rfl, rfl, H, hn50, hn51⟩ h hres
            refine c_seq ?_
            refine c_seq ?_
            refine rg ?_
            refine st (v := (I s48.2.2)) (rv_move rfl) ?_
            refine st (v := (B (decide (s48.2.2 < 4)))) (rv_lss (a := s48.2.2) (b := 4) rfl rfl) ?_
            refine w_end ?_
            refine q_then ?_
            refine cd_cond (decide (s48.2.2 < 4)) rfl (fun hb52 => ?_) (fun hb52 => ?_)
            · replace h := bif_t hb52 h
              refine c_skip ?_
              refine q_then ?_
              refine c_seq ?_
              refine c_blk ?_
              refine c_seq ?_
              obtain ⟨x53, hx54, h'⟩ := bind_some h
              clear h
              have h := h'; clear h'
              obtain ⟨b56, o57, hi55, -⟩ := (H.own 1 rfl).ix hx54
              have hc58 := ((H.own 1 rfl).at hx54 hi55).int
              obtain ⟨x59, hx60, h'⟩ := bind_some h
              clear h
              have h := h'; clear h'
              obtain ⟨b62, o63, hi61, -⟩ := (H.ro 0 rfl).ix hx60
              obtain ⟨v67, hc68, hR66⟩ := ((H.ro 0 rfl).at hx60 hi61).snd.fst.slice
              obtain ⟨a64, c65, rfl⟩ := hR66.isSl
              replace H := H.add (d := Ch.ro 0 (Sl a64 x59.2.1 c65) x59.2.1) hR66 (fun _ h => h)
              clear hR66
              obtain ⟨x69, hx70, h'⟩ := bind_some h
              clear h
              have h := h'; clear h'
              obtain ⟨b72, o73, hi71, -⟩ := (H.ro 0 rfl).ix hx70
              have hc74 := ((H.ro 0 rfl).at hx70 hi71).int
              have Hs := H
              refine rg2 (σ := σ49) (Nm := Unit) 15 [] [[]] [[(0, 0)], [(0, 0)], [(0, 0)], [(0, 0)], [(0, 0)], [(0, 0)], [(0, 0)], [(0, 0)], [(0, 0)], [(0, 0)], [(0, 0)], [(0, 0)], [(0, 0)], [(0, 0)], [(0, 0)]] 0 [fun (_nm : Unit) => fun σm => Hp S0 σ0 σm [Ch.ro 0 (Sl a64 x59.2.1 c65) x59.2.1, Ch.ro 0 (Sl alist_0 list_0 clist_0) list_0, Ch.own n0 n0 (Sl a22 s48.1 c23) s48.1, Ch.own n0 n0 (Sl a38 s48.2.1 c39) s48.2.1] ∧ Md (cov []) σ49 σm] [fun (_nm : Unit) => (Sl a22 s48.1 c23), fun (_nm : Unit) => (I s48.2.2), fun (_nm : Unit) => (Sl a22 s48.1 c23), fun (_nm : Unit) => (I s48.2.2), fun (_nm : Unit) => (pt b56 o57), fun (_nm : Unit) => (I x53), fun (_nm : Unit) => (Sl alist_0 list_0 clist_0), fun (_nm : Unit) => (I s42.2.2), fun (_nm : Unit) => (pt b62 o63), fun (_nm : Unit) => (pt b62 (o63 + 1)), fun (_nm : Unit) => (Sl a64 x59.2.1 c65), fun (_nm : Unit) => (I s48.2.2), fun (_nm : Unit) => (pt b72 o73), fun (_nm : Unit) => (I x69), fun (_nm : Unit) => (I (min x53 x69))] () (by kernel_rfl) (by kernel_rfl) ?_ ?_ ?_
              · intro σm m0
                exact ⟨H.grow (m0.mono fun _ h => h.elim), m0⟩
              · refine all_cons (obs_v rfl (by
                    intro k; intro _nm ρ σm hJ hoff hdep
                    have e5 : look 71 ρ 5 = (Sl a22 s48.1 c23) := look_off (hoff 5 rfl) rfl
                    exact dp_v (v := (Sl a22 s48.1 c23)) (wanted_none _ rfl _) (rv_move e5) rfl hJ)) ?_
                refine all_cons (obs_v rfl (by
                    intro k; intro _nm ρ σm hJ hoff hdep
                    have e8 : look 71 ρ 8 = (I s48.2.2) := look_off (hoff 8 rfl) rfl
                    exact dp_v (v := (I s48.2.2)) (wanted_none _ rfl _) (rv_move e8) rfl hJ)) ?_
                refine all_cons (obs_v rfl (by
                    intro k; intro _nm ρ σm hJ hoff hdep
                    have e5 : look 71 ρ 5 = (Sl a22 s48.1 c23) := look_off (hoff 5 rfl) rfl
                    exact dp_v (v := (Sl a22 s48.1 c23)) (wanted_none _ rfl _) (rv_move e5) rfl hJ)) ?_
                refine all_cons (obs_v rfl (by
                    intro k; intro _nm ρ σm hJ hoff hdep
                    have e8 : look 71 ρ 8 = (I s48.2.2) := look_off (hoff 8 rfl) rfl
                    exact dp_v (v := (I s48.2.2)) (wanted_none _ rfl _) (rv_move e8) rfl hJ)) ?_
                refine all_cons (obs_v rfl (by
                    intro k; intro _nm ρ σm hJ hoff hdep
                    have e39 : look 71 ρ 39 = (Sl a22 s48.1 c23) := hdep 2 rfl rfl 39 rfl
                    have e40 : look 71 ρ 40 = (I s48.2.2) := hdep 3 rfl rfl 40 rfl
                    exact dp_v (v := (pt b56 o57)) (wanted_none _ rfl _) (rv_ix Try.underlying25 ti3 e39 e40 hi55) rfl hJ)) ?_
                refine all_cons (by
                    refine ⟨?_, ?_⟩
                    · intro _nm ρ σm hJ hoff hdep
                      have e41 : look 71 ρ 41 = (pt b56 o57) := hdep 4 rfl rfl 41 rfl
                      obtain ⟨H, m⟩ := (show Hp S0 σ0 σm [Ch.ro 0 (Sl a64 x59.2.1 c65) x59.2.1, Ch.ro 0 (Sl alist_0 list_0 clist_0) list_0, Ch.own n0 n0 (Sl a22 s48.1 c23) s48.1, Ch.own n0 n0 (Sl a38 s48.2.1 c39) s48.2.1] ∧ Md (cov []) σ49 σm from hJ)
                      have hc58 := ((H.own 2 rfl).at hx54 hi55).int
                      exact dp_v (v := (I x53)) (wanted_none _ rfl _) (rv_load1 Try.underlying3 rfl e41 hc58) rfl hJ
                    trivial) ?_
                refine all_cons (obs_v rfl (by
                    intro k; intro _nm ρ σm hJ hoff hdep
                    have e0 : look 71 ρ 0 = (Sl alist_0 list_0 clist_0) := look_off (hoff 0 rfl) rfl
                    exact dp_v (v := (Sl alist_0 list_0 clist_0)) (wanted_none _ rfl _) (rv_move e0) rfl hJ)) ?_
                refine all_cons (obs_v rfl (by
                    intro k; intro _nm ρ σm hJ hoff hdep
                    have e7 : look 71 ρ 7 = (I s42.2.2) := look_off (hoff 7 rfl) rfl
                    exact dp_v (v := (I s42.2.2)) (wanted_none _ rfl _) (rv_move e7) rfl hJ)) ?_
                refine all_cons (obs_v rfl (by
                    intro k; intro _nm ρ σm hJ hoff hdep
                    have e43 : look 71 ρ 43 = (Sl alist_0 list_0 clist_0) := hdep 6 rfl rfl 43 rfl
                    have e44 : look 71 ρ 44 = (I s42.2.2) := hdep 7 rfl rfl 44 rfl
                    exact dp_v (v := (pt b62 o63)) (wanted_none _ rfl _) (rv_ix Try.underlying23 ti38 e43 e44 hi61) rfl hJ)) ?_
                refine all_cons (obs_v rfl (by
                    intro k; intro _nm ρ σm hJ hoff hdep
                    have e45 : look 71 ρ 45 = (pt b62 o63) := hdep 8 rfl rfl 45 rfl
                    exact dp_v (v := (pt b62 (o63 + 1))) (wanted_none _ rfl _) (rv_fieldAddr (off := 1) (ft := 25) Try.underlying38 rfl ti25 rfl e45) rfl hJ)) ?_
                refine all_cons (by
                    refine ⟨?_, ?_⟩
                    · intro _nm ρ σm hJ hoff hdep
                      have e46 : look 71 ρ 46 = (pt b62 (o63 + 1)) := hdep 9 rfl rfl 46 rfl
                      obtain ⟨H, m⟩ := (show Hp S0 σ0 σm [Ch.ro 0 (Sl a64 x59.2.1 c65) x59.2.1, Ch.ro 0 (Sl alist_0 list_0 clist_0) list_0, Ch.own n0 n0 (Sl a22 s48.1 c23) s48.1, Ch.own n0 n0 (Sl a38 s48.2.1 c39) s48.2.1] ∧ Md (cov []) σ49 σm from hJ)
                      replace hc68 := (Hs.ro 1 rfl).hmd hx60 hi61 (k := 1) (by decide) hc68 m
                      exact dp_v (v := (Sl a64 x59.2.1 c65)) (wanted_none _ rfl _) (rv_load1 Try.underlying25 rfl e46 hc68) rfl hJ
                    trivial) ?_
                refine all_cons (obs_v rfl (by
                    intro k; intro _nm ρ σm hJ hoff hdep
                    have e8 : look 71 ρ 8 = (I s48.2.2) := look_off (hoff 8 rfl) rfl
                    exact dp_v (v := (I s48.2.2)) (wanted_none _ rfl _) (rv_move e8) rfl hJ)) ?_
                refine all_cons (obs_v rfl (by
                    intro k; intro _nm ρ σm hJ hoff hdep
                    have e47 : look 71 ρ 47 = (Sl a64 x59.2.1 c65) := hdep 10 rfl rfl 47 rfl
                    have e48 : look 71 ρ 48 = (I s48.2.2) := hdep 11 rfl rfl 48 rfl
                    exact dp_v (v := (pt b72 o73)) (wanted_none _ rfl _) (rv_ix Try.underlying25 ti3 e47 e48 hi71) rfl hJ)) ?_
                refine all_cons (by
                    refine ⟨?_, ?_⟩
                    · intro _nm ρ σm hJ hoff hdep
                      have e49 : look 71 ρ 49 = (pt b72 o73) := hdep 12 rfl rfl 49 rfl
                      obtain ⟨H, m⟩ := (show Hp S0 σ0 σm [Ch.ro 0 (Sl a64 x59.2.1 c65) x59.2.1, Ch.ro 0 (Sl alist_0 list_0 clist_0) list_0, Ch.own n0 n0 (Sl a22 s48.1 c23) s48.1, Ch.own n0 n0 (Sl a38 s48.2.1 c39) s48.2.1] ∧ Md (cov []) σ49 σm from hJ)
                      replace hc74 := (Hs.ro 0 rfl).hmd hx70 hi71 (k := 0) (by decide) hc74 m
                      exact dp_v (v := (I x69)) (wanted_none _ rfl _) (rv_load1 Try.underlying3 rfl e49 hc74) rfl hJ
                    trivial) ?_
                refine all_cons (obs_v rfl (by
                    intro k; intro _nm ρ σm hJ hoff hdep
                    have e42 : look 71 ρ 42 = (I x53) := hdep 5 rfl rfl 42 rfl
                    have e50 : look 71 ρ 50 = (I x69) := hdep 13 rfl rfl 50 rfl
                    exact dp_v (v := (I (min x53 x69))) (wanted_none _ rfl _) (rv_min e42 e50) rfl hJ)) ?_
                exact all_nil
              · intro _nm ρ σ75 hJ hoff hrel
                have e0 : look 71 ρ 0 = (Sl alist_0 list_0 clist_0) := look_off (hoff 0 rfl) rfl
                have e5 : look 71 ρ 5 = (Sl a22 s48.1 c23) := look_off (hoff 5 rfl) rfl
                have e6 : look 71 ρ 6 = (Sl a38 s48.2.1 c39) := look_off (hoff 6 rfl) rfl
                have e7 : look 71 ρ 7 = (I s42.2.2) := look_off (hoff 7 rfl) rfl
                have e8 : look 71 ρ 8 = (I s48.2.2) := look_off (hoff 8 rfl) rfl
                have e37 : look 71 ρ 37 = (Sl a22 s48.1 c23) := hrel 0 rfl 37 rfl
                have e38 : look 71 ρ 38 = (I s48.2.2) := hrel 1 rfl 38 rfl
                have e51 : look 71 ρ 51 = (I (min x53 x69)) := hrel 14 rfl 51 rfl
                obtain ⟨H, -⟩ := (show Hp S0 σ0 σ75 [Ch.ro 0 (Sl a64 x59.2.1 c65) x59.2.1, Ch.ro 0 (Sl alist_0 list_0 clist_0) list_0, Ch.own n0 n0 (Sl a22 s48.1 c23) s48.1, Ch.own n0 n0 (Sl a38 s48.2.1 c39) s48.2.1] ∧ Md (cov []) σ49 σ75 from hJ)
                clear hJ Hs
                rw [fr_lookL (L := [(0, (Sl alist_0 list_0 clist_0)), (5, (Sl a22 s48.1 c23)), (6, (Sl a38 s48.2.1 c39)), (7, (I s42.2.2)), (8, (I s48.2.2)), (37, (Sl a22 s48.1 c23)), (38, (I s48.2.2)), (51, (I (min x53 x69)))]) ⟨e0, e5, e6, e7, e8, e37, e38, e51, trivial⟩]
                clear hoff hrel e0 e5 e6 e7 e8 e37 e38 e51
                obtain ⟨x76, hx77, h'⟩ := bind_some h
                clear h
                have h := h'; clear h'
                obtain ⟨b79, o80, hi78, -⟩ := (H.own 2 rfl).ix hx77
                refine st (v := (pt b79 o80)) (rv_ix Try.underlying25 ti3 rfl rfl hi78) ?_
                refine st_exS (ex_store_own (e' := (min x53 x69)) (vs := [(I (min x53 x69))]) (k := 0) H (i := 2) rfl ti3 hx77 hi78 rfl rfl rfl rfl rfl (Nat.le_of_ble_eq_true rfl) (by simp [plain]) (by rintro _ rfl; exact rfl)) (wanted_none _ rfl _) ?_
                rintro σ81 ⟨H, -⟩
                have hsl : (Sl a22 s48.1 c23) = (Sl a22 (s48.1.set s48.2.2.toNat (min x53 x69)) c23) := sl_len List.length_set.symm
                rw [hsl]; rw [hsl] at H; clear hsl
                refine w_end ?_
                refine q_then ?_
                obtain ⟨x82, hx83, h'⟩ := bind_some h
                clear h
                have h := h'; clear h'
                obtain ⟨b85, o86, hi84, -⟩ := (H.own 3 rfl).ix hx83
                have hc87 := ((H.own 3 rfl).at hx83 hi84).int
                obtain ⟨x88, hx89, h'⟩ := bind_some h
                clear h
                have h := h'; clear h'
                obtain ⟨b91, o92, hi90, -⟩ := (H.ro 2 rfl).ix hx89
                obtain ⟨v96, hc97, hR95⟩ := ((H.ro 2 rfl).at hx89 hi90).snd.fst.slice
                obtain ⟨a93, c94, rfl⟩ := hR95.isSl
                replace H := H.add (d := Ch.ro 0 (Sl a93 x88.2.1 c94) x88.2.1) hR95 (fun _ h => h)
                clear hR95
                obtain ⟨x98, hx99, h'⟩ := bind_some h
                clear h
                have h := h'; clear h'
                obtain ⟨b101, o102, hi100, -⟩ := (H.ro 0 rfl).ix hx99
                have hc103 := ((H.ro 0 rfl).at hx99 hi100).int
                have Hs := H
                refine rg2 (σ := σ81) (Nm := Unit) 15 [] [[]] [[(0, 0)], [(0, 0)], [(0, 0)], [(0, 0)], [(0, 0)], [(0, 0)], [(0, 0)], [(0, 0)], [(0, 0)], [(0, 0)], [(0, 0)], [(0, 0)], [(0, 0)], [(0, 0)], [(0, 0)]] 0 [fun (_nm : Unit) => fun σm => Hp S0 σ0 σm [Ch.ro 0 (Sl a93 x88.2.1 c94) x88.2.1, Ch.own n0 n0 (Sl a22 (s48.1.set s48.2.2.toNat (min x53 x69)) c23) (s48.1.set s48.2.2.toNat (min x53 x69)), Ch.ro 0 (Sl a64 x59.2.1 c65) x59.2.1, Ch.ro 0 (Sl alist_0 list_0 clist_0) list_0, Ch.own n0 n0 (Sl a38 s48.2.1 c39) s48.2.1] ∧ Md (cov []) σ81 σm] [fun (_nm : Unit) => (Sl a38 s48.2.1 c39), fun (_nm : Unit) => (I s48.2.2), fun (_nm : Unit) => (Sl a38 s48.2.1 c39), fun (_nm : Unit) => (I s48.2.2), fun (_nm : Unit) => (pt b85 o86), fun (_nm : Unit) => (I x82), fun (_nm : Unit) => (Sl alist_0 list_0 clist_0), fun (_nm : Unit) => (I s42.2.2), fun (_nm : Unit) => (pt b91 o92), fun (_nm : Unit) => (pt b91 (o92 + 1)), fun (_nm : Unit) => (Sl a93 x88.2.1 c94), fun (_nm : Unit) => (I s48.2.2), fun (_nm : Unit) => (pt b101 o102), fun (_nm : Unit) => (I x98), fun (_nm : Unit) => (I (max x82 x98))] () (by kernel_rfl) (by kernel_rfl) ?_ ?_ ?_
                · intro σm m0
                  exact ⟨H.grow (m0.mono fun _ h => h.elim), m0⟩
                · refine all_cons (obs_v rfl (by
                      intro k; intro _nm ρ σm hJ hoff hdep
                      have e6 : look 71 ρ 6 = (Sl a38 s48.2.1 c39) := look_off (hoff 6 rfl) rfl
                      exact dp_v (v := (Sl a38 s48.2.1 c39)) (wanted_none _ rfl _) (rv_move e6) rfl hJ)) ?_
                  refine all_cons (obs_v rfl (by
                      intro k; intro _nm ρ σm hJ hoff hdep
                      have e8 : look 71 ρ 8 = (I s48.2.2) := look_off (hoff 8 rfl) rfl
                      exact dp_v (v := (I s48.2.2)) (wanted_none _ rfl _) (rv_move e8) rfl hJ)) ?_
                  refine all_cons (obs_v rfl (by
                      intro k; intro _nm ρ σm hJ hoff hdep
                      have e6 : look 71 ρ 6 = (Sl a38 s48.2.1 c39) := look_off (hoff 6 rfl) rfl
                      exact dp_v (v := (Sl a38 s48.2.1 c39)) (wanted_none _ rfl _) (rv_move e6) rfl hJ)) ?_
                  refine all_cons (obs_v rfl (by
                      intro k; intro _nm ρ σm hJ hoff hdep
                      have e8 : look 71 ρ 8 = (I s48.2.2) := look_off (hoff 8 rfl) rfl
                      exact dp_v (v := (I s48.2.2)) (wanted_none _ rfl _) (rv_move e8) rfl hJ)) ?_
                  refine all_cons (obs_v rfl (by
                      intro k; intro _nm ρ σm hJ hoff hdep
                      have e55 : look 71 ρ 55 = (Sl a38 s48.2.1 c39) := hdep 2 rfl rfl 55 rfl
                      have e56 : look 71 ρ 56 = (I s48.2.2) := hdep 3 rfl rfl 56 rfl
                      exact dp_v (v := (pt b85 o86)) (wanted_none _ rfl _) (rv_ix Try.underlying25 ti3 e55 e56 hi84) rfl hJ)) ?_
                  refine all_cons (by
                      refine ⟨?_, ?_⟩
                      · intro _nm ρ σm hJ hoff hdep
                        have e57 : look 71 ρ 57 = (pt b85 o86) := hdep 4 rfl rfl 57 rfl
                        obtain ⟨H, m⟩ := (show Hp S0 σ0 σm [Ch.ro 0 (Sl a93 x88.2.1 c94) x88.2.1, Ch.own n0 n0 (Sl a22 (s48.1.set s48.2.2.toNat (min x53 x69)) c23) (s48.1.set s48.2.2.toNat (min x53 x69)), Ch.ro 0 (Sl a64 x59.2.1 c65) x59.2.1, Ch.ro 0 (Sl alist_0 list_0 clist_0) list_0, Ch.own n0 n0 (Sl a38 s48.2.1 c39) s48.2.1] ∧ Md (cov []) σ81 σm from hJ)
                        have hc87 := ((H.own 4 rfl).at hx83 hi84).int
                        exact dp_v (v := (I x82)) (wanted_none _ rfl _) (rv_load1 Try.underlying3 rfl e57 hc87) rfl hJ
                      trivial) ?_
                  refine all_cons (obs_v rfl (by
                      intro k; intro _nm ρ σm hJ hoff hdep
                      have e0 : look 71 ρ 0 = (Sl alist_0 list_0 clist_0) := look_off (hoff 0 rfl) rfl
                      exact dp_v (v := (Sl alist_0 list_0 clist_0)) (wanted_none _ rfl _) (rv_move e0) rfl hJ)) ?_
                  refine all_cons (obs_v rfl (by
                      intro k; intro _nm ρ σm hJ hoff hdep
                      have e7 : look 71 ρ 7 = (I s42.2.2) := look_off (hoff 7 rfl) rfl
                      exact dp_v (v := (I s42.2.2)) (wanted_none _ rfl _) (rv_move e7) rfl hJ)) ?_
                  refine all_cons (obs_v rfl (by
                      intro k; intro _nm ρ σm hJ hoff hdep
                      have e59 : look 71 ρ 59 = (Sl alist_0 list_0 clist_0) := hdep 6 rfl rfl 59 rfl
                      have e60 : look 71 ρ 60 = (I s42.2.2) := hdep 7 rfl rfl 60 rfl
                      exact dp_v (v := (pt b91 o92)) (wanted_none _ rfl _) (rv_ix Try.underlying23 ti38 e59 e60 hi90) rfl hJ)) ?_
                  refine all_cons (obs_v rfl (by
                      intro k; intro _nm ρ σm hJ hoff hdep
                      have e61 : look 71 ρ 61 = (pt b91 o92) := hdep 8 rfl rfl 61 rfl
                      exact dp_v (v := (pt b91 (o92 + 1))) (wanted_none _ rfl _) (rv_fieldAddr (off := 1) (ft := 25) Try.underlying38 rfl ti25 rfl e61) rfl hJ)) ?_
                  refine all_cons (by
                      refine ⟨?_, ?_⟩
                      · intro _nm ρ σm hJ hoff hdep
                        have e62 : look 71 ρ 62 = (pt b91 (o92 + 1)) := hdep 9 rfl rfl 62 rfl
                        obtain ⟨H, m⟩ := (show Hp S0 σ0 σm [Ch.ro 0 (Sl a93 x88.2.1 c94) x88.2.1, Ch.own n0 n0 (Sl a22 (s48.1.set s48.2.2.toNat (min x53 x69)) c23) (s48.1.set s48.2.2.toNat (min x53 x69)), Ch.ro 0 (Sl a64 x59.2.1 c65) x59.2.1, Ch.ro 0 (Sl alist_0 list_0 clist_0) list_0, Ch.own n0 n0 (Sl a38 s48.2.1 c39) s48.2.1] ∧ Md (cov []) σ81 σm from hJ)
                        replace hc97 := (Hs.ro 3 rfl).hmd hx89 hi90 (k := 1) (by decide) hc97 m
                        exact dp_v (v := (Sl a93 x88.2.1 c94)) (wanted_none _ rfl _) (rv_load1 Try.underlying25 rfl e62 hc97) rfl hJ
                      trivial) ?_
                  refine all_cons (obs_v rfl (by
                      intro k; intro _nm ρ σm hJ hoff hdep
                      have e8 : look 71 ρ 8 = (I s48.2.2) := look_off (hoff 8 rfl) rfl
                      exact dp_v (v := (I s48.2.2)) (wanted_none _ rfl _) (rv_move e8) rfl hJ)) ?_
                  refine all_cons (obs_v rfl (by
                      intro k; intro _nm ρ σm hJ hoff hdep
                      have e63 : look 71 ρ 63 = (Sl a93 x88.2.1 c94) := hdep 10 rfl rfl 63 rfl
                      have e64 : look 71 ρ 64 = (I s48.2.2) := hdep 11 rfl rfl 64 rfl
                      exact dp_v (v := (pt b101 o102)) (wanted_none _ rfl _) (rv_ix Try.underlying25 ti3 e63 e64 hi100) rfl hJ)) ?_
                  refine all_cons (by
                      refine ⟨?_, ?_⟩
                      · intro _nm ρ σm hJ hoff hdep
                        have e65 : look 71 ρ 65 = (pt b101 o102) := hdep 12 rfl rfl 65 rfl
                        obtain ⟨H, m⟩ := (show Hp S0 σ0 σm [Ch.ro 0 (Sl a93 x88.2.1 c94) x88.2.1, Ch.own n0 n0 (Sl a22 (s48.1.set s48.2.2.toNat (min x53 x69)) c23) (s48.1.set s48.2.2.toNat (min x53 x69)), Ch.ro 0 (Sl a64 x59.2.1 c65) x59.2.1, Ch.ro 0 (Sl alist_0 list_0 clist_0) list_0, Ch.own n0 n0 (Sl a38 s48.2.1 c39) s48.2.1] ∧ Md (cov []) σ81 σm from hJ)
                        replace hc103 := (Hs.ro 0 rfl).hmd hx99 hi100 (k := 0) (by decide) hc103 m
                        exact dp_v (v := (I x98)) (wanted_none _ rfl _) (rv_load1 Try.underlying3 rfl e65 hc103) rfl hJ
                      trivial) ?_
                  refine all_cons (obs_v rfl (by
                      intro k; intro _nm ρ σm hJ hoff hdep
                      have e58 : look 71 ρ 58 = (I x82) := hdep 5 rfl rfl 58 rfl
                      have e66 : look 71 ρ 66 = (I x98) := hdep 13 rfl rfl 66 rfl
                      exact dp_v (v := (I (max x82 x98))) (wanted_none _ rfl _) (rv_max e58 e66) rfl hJ)) ?_
                  exact all_nil
                · intro _nm ρ σ104 hJ hoff hrel
                  have e0 : look 71 ρ 0 = (Sl alist_0 list_0 clist_0) := look_off (hoff 0 rfl) rfl
                  have e5 : look 71 ρ 5 = (Sl a22 (s48.1.set s48.2.2.toNat (min x53 x69)) c23) := look_off (hoff 5 rfl) rfl
                  have e6 : look 71 ρ 6 = (Sl a38 s48.2.1 c39) := look_off (hoff 6 rfl) rfl
                  have e7 : look 71 ρ 7 = (I s42.2.2) := look_off (hoff 7 rfl) rfl
                  have e8 : look 71 ρ 8 = (I s48.2.2) := look_off (hoff 8 rfl) rfl
                  have e53 : look 71 ρ 53 = (Sl a38 s48.2.1 c39) := hrel 0 rfl 53 rfl
                  have e54 : look 71 ρ 54 = (I s48.2.2) := hrel 1 rfl 54 rfl
                  have e67 : look 71 ρ 67 = (I (max x82 x98)) := hrel 14 rfl 67 rfl
                  obtain ⟨H, -⟩ := (show Hp S0 σ0 σ104 [Ch.ro 0 (Sl a93 x88.2.1 c94) x88.2.1, Ch.own n0 n0 (Sl a22 (s48.1.set s48.2.2.toNat (min x53 x69)) c23) (s48.1.set s48.2.2.toNat (min x53 x69)), Ch.ro 0 (Sl a64 x59.2.1 c65) x59.2.1, Ch.ro 0 (Sl alist_0 list_0 clist_0) list_0, Ch.own n0 n0 (Sl a38 s48.2.1 c39) s48.2.1] ∧ Md (cov []) σ81 σ104 from hJ)
                  clear hJ Hs
                  rw [fr_lookL (L := [(0, (Sl alist_0 list_0 clist_0)), (5, (Sl a22 (s48.1.set s48.2.2.toNat (min x53 x69)) c23)), (6, (Sl a38 s48.2.1 c39)), (7, (I s42.2.2)), (8, (I s48.2.2)), (53, (Sl a38 s48.2.1 c39)), (54, (I s48.2.2)), (67, (I (max x82 x98)))]) ⟨e0, e5, e6, e7, e8, e53, e54, e67, trivial⟩]
                  clear hoff hrel e0 e5 e6 e7 e8 e53 e54 e67
                  obtain ⟨x105, hx106, h'⟩ := bind_some h
                  clear h
                  have h := h'; clear h'
                  obtain ⟨b108, o109, hi107, -⟩ := (H.own 4 rfl).ix hx106
                  refine st (v := (pt b108 o109)) (rv_ix Try.underlying25 ti3 rfl rfl hi107) ?_
                  refine st_exS (ex_store_own (e' := (max x82 x98)) (vs := [(I (max x82 x98))]) (k := 0) H (i := 4) rfl ti3 hx106 hi107 rfl rfl rfl rfl rfl (Nat.le_of_ble_eq_true rfl) (by simp [plain]) (by rintro _ rfl; exact rfl)) (wanted_none _ rfl _) ?_
                  rintro σ110 ⟨H, -⟩
                  have hsl : (Sl a38 s48.2.1 c39) = (Sl a38 (s48.2.1.set s48.2.2.toNat (max x82 x98)) c39) := sl_len List.length_set.symm
                  rw [hsl]; rw [hsl] at H; clear hsl
                  refine w_end ?_
                  refine q_blk ?_
                  refine q_then ?_
                  refine rg ?_
                  refine st (v := (I s48.2.2)) (rv_move rfl) ?_
                  refine st (v := (I (w64 (s48.2.2 + 1)))) (rv_add (a := s48.2.2) (b := 1) rfl rfl) ?_
                  refine st (v := (I (w64 (s48.2.2 + 1)))) (rv_assign rfl) ?_
                  refine w_end ?_
                  refine q_then ?_
                  obtain rfl := Option.some.inj h
                  exact ⟨_, rfl, _, σ110, fr_join ⟨rfl, rfl, rfl, rfl, rfl, trivial⟩, rfl, H.sel' [4, 2, 0] rfl rfl, ((List.length_set.trans (hn50.trans hn44)).trans hn44.symm), ((List.length_set.trans (hn51.trans hn45)).trans hn45.symm)⟩
            · replace h := bif_f hb52 h
              refine c_exit ?_
              refine q_then_x ?_
              refine q_then_x ?_
              refine q_blk_hit ?_
              obtain rfl := Option.some.inj h
              obtain rfl := hres _ rfl
              exact ⟨rfl, _, σ49, fr_join ⟨rfl, rfl, rfl, rfl, trivial⟩, rfl, H.sel' [0, 1, 2] rfl rfl, ((hn50.trans hn44).trans hn44.symm), ((hn51.trans hn45).trans hn45.symm)⟩
          · clear hj
            have h := h'
            clear h' H
            rintro e a w ⟨rfl, ρ, σ111, rfl, rfl, H, hn112, hn113⟩
            refine q_blk ?_
            refine q_then ?_
            refine rg ?_
            refine st (v := (I s42.2.2)) (rv_move rfl) ?_
            refine st (v := (I (w64 (s42.2.2 + 1)))) (rv_add (a := s42.2.2) (b := 1) rfl rfl) ?_
            refine st (v := (I (w64 (s42.2.2 + 1)))) (rv_assign rfl) ?_
            refine w_end ?_
            refine q_then ?_
            obtain rfl := Option.some.inj h
            exact ⟨_, rfl, _, σ111, fr_join ⟨rfl, rfl, rfl, rfl, trivial⟩, rfl, H.sel' [0, 1, 2] rfl rfl, (hn112.trans hn44), (hn113.trans hn45)⟩
        · replace h := bif_f hb46 h
          refine c_exit ?_
          refine q_then_x ?_
          refine q_then_x ?_
          refine q_blk_hit ?_
          obtain rfl := Option.some.inj h
          obtain rfl := hres _ rfl
          exact ⟨rfl, _, σ43, fr_join ⟨rfl, rfl, trivial⟩, rfl, H.sel' [1, 2] rfl rfl, hn44, hn45⟩
      · clear hj
        have h := h'
        clear h' H
        rintro e a w ⟨rfl, ρ, σ114, rfl, rfl, H, hn115, hn116⟩
        refine q_then ?_
        refine c_seq ?_
        refine rg ?_
        refine st (v := (Sl a22 o41.1 c23)) (rv_move rfl) ?_
        refine st (v := (Sl a38 o41.2 c39)) (rv_move rfl) ?_
        refine st (v := (Sl a22 o41.1 c23)) (rv_assign rfl) ?_
        refine st (v := (Sl a38 o41.2 c39)) (rv_assign rfl) ?_
        refine st (v := (B true)) (rv_assign rfl) ?_
        refine w_end ?_
        refine q_then ?_
        refine c_ret ?_
        obtain rfl := Option.some.inj h
        exact fin_ret (v := (.tuple #[(Sl a22 o41.1 c23), (Sl a38 o41.2 c39), (B true)])) (results_ok Try.results17 (res_tmp (v := (Sl a22 o41.1 c23)) rfl (res_tmp (v := (Sl a38 o41.2 c39)) rfl (res_tmp (v := (B true)) rfl res_nil))) rfl) ⟨a22, c23, a38, c39, rfl, rfl⟩ (H.sel' [0, 1] rfl rfl)

theorem c_laws_equalInts {a_0 : List Int} {b_1 : List Int} {aa_0 : Option Addr} {ca_0 : Nat} {ab_1 : Option Addr} {cb_1 : Nat} {r : Bool} (h : M.laws_equalInts a_0 b_1 = some r) :
    Cal2 Try.prog 18 [(Sl aa_0 a_0 ca_0), (Sl ab_1 b_1 cb_1)] [Ch.ro 0 (Sl aa_0 a_0 ca_0) a_0, Ch.ro 0 (Sl ab_1 b_1 cb_1) b_1] (fun n0 v L => v = (B r) ∧ L = []) := by
  refine cal2 (n := 26) Try.func18 rfl rfl rfl rfl ?_
  intro S0 σ0 n0 hn0 H
  unfold M.laws_equalInts at h
  refine c_seq ?_
  refine rg ?_
  refine st (v := (B false)) (rv_assign rfl) ?_
  refine w_end ?_
  refine q_then ?_
  refine c_seq ?_
  refine c_seq ?_
  refine rg ?_
  refine st (v := (Sl aa_0 a_0 ca_0)) (rv_move rfl) ?_
  refine st (v := (I (a_0.length : Int))) (rv_len Try.underlying25 rfl) ?_
  refine st (v := (Sl ab_1 b_1 cb_1)) (rv_move rfl) ?_
  refine st (v := (I (b_1.length : Int))) (rv_len Try.underlying25 rfl) ?_
  refine st (v := (B ((a_0.length : Int) != (b_1.length : Int)))) (rv_neq (a := (a_0.length : Int)) (b := (b_1.length : Int)) rfl rfl) ?_
  refine w_end ?_
  refine q_then ?_
  refine cd_cond ((a_0.length : Int) != (b_1.length : Int)) rfl (fun hb1 => ?_) (fun hb1 => ?_)
  · replace h := bif_t hb1 h
    refine c_seq ?_
    refine rg ?_
    refine st (v := (B false)) (rv_assign rfl) ?_
    refine w_end ?_
    refine q_then ?_
    refine c_ret ?_
    refine q_then_r ?_
    obtain rfl := Option.some.inj h
    exact fin_ret (v := (B false)) (results_ok Try.results18 (res_tmp (v := (B false)) rfl res_nil) rfl) ⟨rfl, rfl⟩ (H.sel' [] rfl rfl)
  · replace h := bif_f hb1 h
    refine c_skip ?_
    refine q_then ?_
    refine c_seq ?_
    refine c_seq ?_
    refine rg ?_
    refine st (v := (I 0)) (rv_assign rfl) ?_
    refine w_end ?_
    refine q_then ?_
    obtain ⟨o2, hj, h'⟩ := bind_some h
    clear h
    refine c_cut (fun e a w => (∃ t, o2 = (.inl t) ∧ e = .normal ∧ ∃ (ρ : Nat → Value) (σ : St), a = fr 26 (updL ρ []) ∧ w = σ.w ∧ Hp S0 σ0 σ []) ∨ (∃ t, o2 = (.inr t) ∧ e = .ret ∧ ∃ (ρ : Nat → Value) (σ : St), a = fr 26 (updL ρ [(4, (B t))]) ∧ w = σ.w ∧ Hp S0 σ0 σ [])) ?_ ?_
    · clear h'
      rename _ = some o2 => h
      refine c_blk ?_
      refine wp_loopM _ h (fun s3 a w => ∃ (ρ : Nat → Value) (σ : St), a = fr 26 (updL ρ [(0, (Sl aa_0 a_0 ca_0)), (1, (Sl ab_1 b_1 cb_1)), (5, (I s3))]) ∧ w = σ.w ∧ Hp S0 σ0 σ [Ch.ro 0 (Sl aa_0 a_0 ca_0) a_0, Ch.ro 0 (Sl ab_1 b_1 cb_1) b_1]) ⟨_, σ0, fr_join ⟨rfl, rfl, rfl, trivial⟩, rfl, H.sel' [0, 1] rfl rfl⟩ ?_
      clear h H
      rintro s3 a w o ⟨ρ, σ4, rfl, rfl, H⟩ h hres
      refine c_seq ?_
      refine c_seq ?_
      refine rg ?_
      refine st (v := (I s3)) (rv_move rfl) ?_
      refine st (v := (Sl aa_0 a_0 ca_0)) (rv_move rfl) ?_
      refine st (v := (I (a_0.length : Int))) (rv_len Try.underlying25 rfl) ?_
      refine st (v := (B (decide (s3 < (a_0.length : Int))))) (rv_lss (a := s3) (b := (a_0.length : Int)) rfl rfl) ?_
      refine w_end ?_
      refine q_then ?_
      refine cd_cond (decide (s3 < (a_0.length : Int))) rfl (fun hb5 => ?_) (fun hb5 => ?_)
      · replace h := bif_t hb5 h
        refine c_skip ?_
        refine q_then ?_
        refine c_seq ?_
        refine c_blk ?_
        refine c_seq ?_
        obtain ⟨x6, hx7, h'⟩ := bind_some h
        clear h
        have h := h'; clear h'
        obtain ⟨b9, o10, hi8, -⟩ := (H.ro 0 rfl).ix hx7
        have hc11 := ((H.ro 0 rfl).at hx7 hi8).int
        obtain ⟨x12, hx13, h'⟩ := bind_some h
        clear h
        have h := h'; clear h'
        obtain ⟨b15, o16, hi14, -⟩ := (H.ro 1 rfl).ix hx13
        have hc17 := ((H.ro 1 rfl).at hx13 hi14).int
        have Hs := H
        refine rg2 (σ := σ4) (Nm := Unit) 8 [] [[]] [[(0, 0)], [(0, 0)], [(0, 0)], [(0, 0)], [(0, 0)], [(0, 0)], [(0, 0)], [(0, 0)]] 0 [fun (_nm : Unit) => fun σm => Hp S0 σ0 σm [Ch.ro 0 (Sl aa_0 a_0 ca_0) a_0, Ch.ro 0 (Sl ab_1 b_1 cb_1) b_1] ∧ Md (cov []) σ4 σm] [fun (_nm : Unit) => (Sl aa_0 a_0 ca_0), fun (_nm : Unit) => (I s3), fun (_nm : Unit) => (pt b9 o10), fun (_nm : Unit) => (I x6), fun (_nm : Unit) => (Sl ab_1 b_1 cb_1), fun (_nm : Unit) => (I s3), fun (_nm : Unit) => (pt b15 o16), fun (_nm : Unit) => (I x12)] () (by kernel_rfl) (by kernel_rfl) ?_ ?_ ?_
        · intro σm m0
          exact ⟨H.grow (m0.mono fun _ h => h.elim), m0⟩
        · refine all_cons (obs_v rfl (by
              intro k; intro _nm ρ σm hJ hoff hdep
              have e0 : look 26 ρ 0 = (Sl aa_0 a_0 ca_0) := look_off (hoff 0 rfl) rfl
              exact dp_v (v := (Sl aa_0 a_0 ca_0)) (wanted_none _ rfl _) (rv_move e0) rfl hJ)) ?_
          refine all_cons (obs_v rfl (by
              intro k; intro _nm ρ σm hJ hoff hdep
              have e5 : look 26 ρ 5 = (I s3) := look_off (hoff 5 rfl) rfl
              exact dp_v (v := (I s3)) (wanted_none _ rfl _) (rv_move e5) rfl hJ)) ?_
          refine all_cons (obs_v rfl (by
              intro k; intro _nm ρ σm hJ hoff hdep
              have e17 : look 26 ρ 17 = (Sl aa_0 a_0 ca_0) := hdep 0 rfl rfl 17 rfl
              have e18 : look 26 ρ 18 = (I s3) := hdep 1 rfl rfl 18 rfl
              exact dp_v (v := (pt b9 o10)) (wanted_none _ rfl _) (rv_ix Try.underlying25 ti3 e17 e18 hi8) rfl hJ)) ?_
          refine all_cons (by
              refine ⟨?_, ?_⟩
              · intro _nm ρ σm hJ hoff hdep
                have e19 : look 26 ρ 19 = (pt b9 o10) := hdep 2 rfl rfl 19 rfl
                obtain ⟨H, m⟩ := (show Hp S0 σ0 σm [Ch.ro 0 (Sl aa_0 a_0 ca_0) a_0, Ch.ro 0 (Sl ab_1 b_1 cb_1) b_1] ∧ Md (cov []) σ4 σm from hJ)
                replace hc11 := (Hs.ro 0 rfl).hmd hx7 hi8 (k := 0) (by decide) hc11 m
                exact dp_v (v := (I x6)) (wanted_none _ rfl _) (rv_load1 Try.underlying3 rfl e19 hc11) rfl hJ
              trivial) ?_
          refine all_cons (obs_v rfl (by
              intro k; intro _nm ρ σm hJ hoff hdep
              have e1 : look 26 ρ 1 = (Sl ab_1 b_1 cb_1) := look_off (hoff 1 rfl) rfl
              exact dp_v (v := (Sl ab_1 b_1 cb_1)) (wanted_none _ rfl _) (rv_move e1) rfl hJ)) ?_
          refine all_cons (obs_v rfl (by
              intro k; intro _nm ρ σm hJ hoff hdep
              have e5 : look 26 ρ 5 = (I s3) := look_off (hoff 5 rfl) rfl
              exact dp_v (v := (I s3)) (wanted_none _ rfl _) (rv_move e5) rfl hJ)) ?_
          refine all_cons (obs_v rfl (by
              intro k; intro _nm ρ σm hJ hoff hdep
              have e21 : look 26 ρ 21 = (Sl ab_1 b_1 cb_1) := hdep 4 rfl rfl 21 rfl
              have e22 : look 26 ρ 22 = (I s3) := hdep 5 rfl rfl 22 rfl
              exact dp_v (v := (pt b15 o16)) (wanted_none _ rfl _) (rv_ix Try.underlying25 ti3 e21 e22 hi14) rfl hJ)) ?_
          refine all_cons (by
              refine ⟨?_, ?_⟩
              · intro _nm ρ σm hJ hoff hdep
                have e23 : look 26 ρ 23 = (pt b15 o16) := hdep 6 rfl rfl 23 rfl
                obtain ⟨H, m⟩ := (show Hp S0 σ0 σm [Ch.ro 0 (Sl aa_0 a_0 ca_0) a_0, Ch.ro 0 (Sl ab_1 b_1 cb_1) b_1] ∧ Md (cov []) σ4 σm from hJ)
                replace hc17 := (Hs.ro 1 rfl).hmd hx13 hi14 (k := 0) (by decide) hc17 m
                exact dp_v (v := (I x12)) (wanted_none _ rfl _) (rv_load1 Try.underlying3 rfl e23 hc17) rfl hJ
              trivial) ?_
          exact all_nil
        · intro _nm ρ σ18 hJ hoff hrel
          have e0 : look 26 ρ 0 = (Sl aa_0 a_0 ca_0) := look_off (hoff 0 rfl) rfl
          have e1 : look 26 ρ 1 = (Sl ab_1 b_1 cb_1) := look_off (hoff 1 rfl) rfl
          have e5 : look 26 ρ 5 = (I s3) := look_off (hoff 5 rfl) rfl
          have e20 : look 26 ρ 20 = (I x6) := hrel 3 rfl 20 rfl
          have e24 : look 26 ρ 24 = (I x12) := hrel 7 rfl 24 rfl
          obtain ⟨H, -⟩ := (show Hp S0 σ0 σ18 [Ch.ro 0 (Sl aa_0 a_0 ca_0) a_0, Ch.ro 0 (Sl ab_1 b_1 cb_1) b_1] ∧ Md (cov []) σ4 σ18 from hJ)
          clear hJ Hs
          rw [fr_lookL (L := [(0, (Sl aa_0 a_0 ca_0)), (1, (Sl ab_1 b_1 cb_1)), (5, (I s3)), (20, (I x6)), (24, (I x12))]) ⟨e0, e1, e5, e20, e24, trivial⟩]
          clear hoff hrel e0 e1 e5 e20 e24
          refine st (v := (B (x6 != x12))) (rv_neq (a := x6) (b := x12) rfl rfl) ?_
          refine w_end ?_
          refine q_then ?_
          refine cd_cond (x6 != x12) rfl (fun hb19 => ?_) (fun hb19 => ?_)
          · replace h := bif_t hb19 h
            refine c_seq ?_
            refine rg ?_
            refine st (v := (B false)) (rv_assign rfl) ?_
            refine w_end ?_
            refine q_then ?_
            refine c_ret ?_
            refine q_blk_r ?_
            refine q_then_r ?_
            refine q_then_r ?_
            refine q_blk_r ?_
            obtain rfl := Option.some.inj h
            obtain rfl := hres _ rfl
            exact .inr (⟨_, rfl, rfl, _, σ18, fr_join ⟨rfl, trivial⟩, rfl, H.sel' [] rfl rfl⟩)
          · replace h := bif_f hb19 h
            refine c_skip ?_
            refine q_blk ?_
            refine q_then ?_
            refine rg ?_
            refine st (v := (I s3)) (rv_move rfl) ?_
            refine st (v := (I (w64 (s3 + 1)))) (rv_add (a := s3) (b := 1) rfl rfl) ?_
            refine st (v := (I (w64 (s3 + 1)))) (rv_assign rfl) ?_
            refine w_end ?_
            refine q_then ?_
            obtain rfl := Option.some.inj h
            exact ⟨_, rfl, _, σ18, fr_join ⟨rfl, rfl, rfl, trivial⟩, rfl, H.sel' [0, 1] rfl rfl⟩
      · replace h := bif_f hb5 h
        refine c_exit ?_
        refine q_then_x ?_
        refine q_then_x ?_
        refine q_blk_hit ?_
        obtain rfl := Option.some.inj h
        obtain rfl := hres _ rfl
        exact .inl ⟨_, rfl, rfl, _, σ4, fr_join trivial, rfl, H.sel' [] rfl rfl⟩
    · clear hj
      have h := h'
      clear h' H
      rintro e a w (⟨t20, rfl, rfl, ρ, σ21, rfl, rfl, H⟩ | ⟨t22, rfl, rfl, ρ, σ23, rfl, rfl, H⟩)
      · replace h := selim_l h
        refine q_then ?_
        refine c_seq ?_
        refine rg ?_
        refine st (v := (B true)) (rv_assign rfl) ?_
        refine w_end ?_
        refine q_then ?_
        refine c_ret ?_
        obtain rfl := Option.some.inj h
        exact fin_ret (v := (B true)) (results_ok Try.results18 (res_tmp (v := (B true)) rfl res_nil) rfl) ⟨rfl, rfl⟩ (H.sel' [] rfl rfl)
      · replace h := selim_r h
        refine q_then_r ?_
        obtain rfl := Option.some.inj h
        exact fin_ret (v := (B t22)) (results_ok Try.results18 (res_tmp (v := (B t22)) rfl res_nil) rfl) ⟨rfl, rfl⟩ (H.sel' [] rfl rfl)

theorem c_impl_insideBox {at_0 : List Int} {low_1 : List Int} {high_2 : List Int} {aat_0 : Option Addr} {cat_0 : Nat} {alow_1 : Option Addr} {clow_1 : Nat} {ahigh_2 : Option Addr} {chigh_2 : Nat} {r : Bool} (h : M.impl_insideBox at_0 low_1 high_2 = some r) :
    Cal2 Try.prog 45 [(Sl aat_0 at_0 cat_0), (Sl alow_1 low_1 clow_1), (Sl ahigh_2 high_2 chigh_2)] [Ch.ro 0 (Sl aat_0 at_0 cat_0) at_0, Ch.ro 0 (Sl alow_1 low_1 clow_1) low_1, Ch.ro 0 (Sl ahigh_2 high_2 chigh_2) high_2] (fun n0 v L => v = (B r) ∧ L = []) := by
  refine cal2 (n := 31) Try.func45 rfl rfl rfl rfl ?_
  intro S0 σ0 n0 hn0 H
  unfold M.impl_insideBox at h
  refine c_seq ?_
  refine rg ?_
  refine st (v := (B false)) (rv_assign rfl) ?_
  refine w_end ?_
  refine q_then ?_
  refine c_seq ?_
  refine c_seq ?_
  refine rg ?_
  refine st (v := (Sl aat_0 at_0 cat_0)) (rv_move rfl) ?_
  refine st (v := (I (at_0.length : Int))) (rv_len Try.underlying25 rfl) ?_
  refine st (v := (I 0)) (rv_move rfl) ?_
  refine w_end ?_
  refine q_then ?_
  obtain ⟨o1, hj, h'⟩ := bind_some h
  clear h
  refine c_cut (fun e a w => (∃ t, o1 = (.inl t) ∧ e = .normal ∧ ∃ (ρ : Nat → Value) (σ : St), a = fr 31 (updL ρ []) ∧ w = σ.w ∧ Hp S0 σ0 σ []) ∨ (∃ t, o1 = (.inr t) ∧ e = .ret ∧ ∃ (ρ : Nat → Value) (σ : St), a = fr 31 (updL ρ [(6, (B t))]) ∧ w = σ.w ∧ Hp S0 σ0 σ [])) ?_ ?_
  · clear h'
    rename _ = some o1 => h
    refine c_blk ?_
    refine wp_loopM _ h (fun s2 a w => ∃ (ρ : Nat → Value) (σ : St), a = fr 31 (updL ρ [(1, (Sl alow_1 low_1 clow_1)), (2, (Sl ahigh_2 high_2 chigh_2)), (9, (Sl aat_0 at_0 cat_0)), (10, (I (at_0.length : Int))), (11, (I s2))]) ∧ w = σ.w ∧ Hp S0 σ0 σ [Ch.ro 0 (Sl alow_1 low_1 clow_1) low_1, Ch.ro 0 (Sl ahigh_2 high_2 chigh_2) high_2, Ch.ro 0 (Sl aat_0 at_0 cat_0) at_0]) ⟨_, σ0, fr_join ⟨rfl, rfl, rfl, rfl, rfl, trivial⟩, rfl, H.sel' [1, 2, 0] rfl rfl⟩ ?_
    clear h H
    rintro s2 a w o ⟨ρ, σ3, rfl, rfl, H⟩ h hres
    refine c_seq ?_
    refine rg ?_
    refine st (v := (B (decide (s2 < (at_0.length : Int))))) (rv_lss (a := s2) (b := (at_0.length : Int)) rfl rfl) ?_
    refine w_end ?_
    refine q_then ?_
    refine c_seq ?_
    refine cd_cond (decide (s2 < (at_0.length : Int))) rfl (fun hb4 => ?_) (fun hb4 => ?_)
    · replace h := bif_t hb4 h
      refine c_skip ?_
      refine q_then ?_
      refine c_seq ?_
      refine c_blk ?_
      refine c_seq ?_
      refine rg ?_
      refine st (v := (I s2)) (rv_move rfl) ?_
      obtain ⟨x5, hx6, h'⟩ := bind_some h
      clear h
      have h := h'; clear h'
      obtain ⟨b8, o9, hi7, -⟩ := (H.ro 2 rfl).ix hx6
      refine st (v := (pt b8 o9)) (rv_ix Try.underlying25 ti3 rfl rfl hi7) ?_
      have hc10 := ((H.ro 2 rfl).at hx6 hi7).int
      refine st (v := (I x5)) (rv_load1 Try.underlying3 rfl rfl hc10) ?_
      refine st (v := (I s2)) (rv_assign rfl) ?_
      refine st (v := (I x5)) (rv_assign rfl) ?_
      refine w_end ?_
      refine q_then ?_
      refine c_seq ?_
      obtain ⟨o11, hj, h'⟩ := bind_some h
      clear h
      refine c_cut (fun e a w => e = .normal ∧ ∃ (ρ : Nat → Value) (σ : St), a = fr 31 (updL ρ [(1, (Sl alow_1 low_1 clow_1)), (2, (Sl ahigh_2 high_2 chigh_2)), (9, (Sl aat_0 at_0 cat_0)), (10, (I (at_0.length : Int))), (11, (I s2)), (29, (B o11))]) ∧ w = σ.w ∧ Hp S0 σ0 σ [Ch.ro 0 (Sl alow_1 low_1 clow_1) low_1, Ch.ro 0 (Sl ahigh_2 high_2 chigh_2) high_2, Ch.ro 0 (Sl aat_0 at_0 cat_0) at_0]) ?_ ?_
      · clear h'
        rename _ = some o11 => h
        refine rg ?_
        refine st (v := (I x5)) (rv_move rfl) ?_
        refine st (v := (Sl alow_1 low_1 clow_1)) (rv_move rfl) ?_
        refine st (v := (I s2)) (rv_move rfl) ?_
        obtain ⟨x12, hx13, h'⟩ := bind_some h
        clear h
        have h := h'; clear h'
        obtain ⟨b15, o16, hi14, -⟩ := (H.ro 0 rfl).ix hx13
        refine st (v := (pt b15 o16)) (rv_ix Try.underlying25 ti3 rfl rfl hi14) ?_
        have hc17 := ((H.ro 0 rfl).at hx13 hi14).int
        refine st (v := (I x12)) (rv_load1 Try.underlying3 rfl rfl hc17) ?_
        refine st (v := (B (decide (x5 < x12)))) (rv_lss (a := x5) (b := x12) rfl rfl) ?_
        refine st (v := (B (decide (x5 < x12)))) (rv_move rfl) ?_
        rcases Bool.eq_false_or_eq_true (decide (x5 < x12)) with hb18 | hb18
        · replace h := bif_t hb18 h
          refine st_skip (congrArg some hb18) ?_
          refine st_skip (congrArg some hb18) ?_
          refine st_skip (congrArg some hb18) ?_
          refine st_skip (congrArg some hb18) ?_
          refine st_skip (congrArg some hb18) ?_
          refine st_skip (congrArg some hb18) ?_
          refine st (v := (B true)) (rv_pick_t (congrArg B hb18) rfl) ?_
          refine w_end ?_
          obtain rfl := Option.some.inj h
          exact ⟨rfl, _, σ3, fr_join ⟨rfl, rfl, rfl, rfl, rfl, rfl, trivial⟩, rfl, H.sel' [0, 1, 2] rfl rfl⟩
        · replace h := bif_f hb18 h
          refine st_g (v := (I x5)) (congrArg some hb18) (rv_move rfl) ?_
          refine st_g (v := (Sl ahigh_2 high_2 chigh_2)) (congrArg some hb18) (rv_move rfl) ?_
          refine st_g (v := (I s2)) (congrArg some hb18) (rv_move rfl) ?_
          obtain ⟨x19, hx20, h'⟩ := bind_some h
          clear h
          have h := h'; clear h'
          obtain ⟨b22, o23, hi21, -⟩ := (H.ro 1 rfl).ix hx20
          refine st_g (v := (pt b22 o23)) (congrArg some hb18) (rv_ix Try.underlying25 ti3 rfl rfl hi21) ?_
          have hc24 := ((H.ro 1 rfl).at hx20 hi21).int
          refine st_g (v := (I x19)) (congrArg some hb18) (rv_load1 Try.underlying3 rfl rfl hc24) ?_
          refine st_g (v := (B (decide (x19 < x5)))) (congrArg some hb18) (rv_gtr (a := x5) (b := x19) rfl rfl) ?_
          refine st (v := (B (decide (x19 < x5)))) (rv_pick_f (congrArg B hb18) rfl) ?_
          refine w_end ?_
          obtain rfl := Option.some.inj h
          exact ⟨rfl, _, σ3, fr_join ⟨rfl, rfl, rfl, rfl, rfl, rfl, trivial⟩, rfl, H.sel' [0, 1, 2] rfl rfl⟩
      · clear hj
        have h := h'
        clear h' H
        rintro e a w ⟨rfl, ρ, σ25, rfl, rfl, H⟩
        refine q_then ?_
        refine cd_cond o11 rfl (fun hb26 => ?_) (fun hb26 => ?_)
        · replace h := bif_t hb26 h
          refine c_seq ?_
          refine rg ?_
          refine st (v := (B false)) (rv_assign rfl) ?_
          refine w_end ?_
          refine q_then ?_
          refine c_ret ?_
          refine q_blk_r ?_
          refine q_then_r ?_
          refine q_then_r ?_
          refine q_blk_r ?_
          obtain rfl := Option.some.inj h
          obtain rfl := hres _ rfl
          exact .inr (⟨_, rfl, rfl, _, σ25, fr_join ⟨rfl, trivial⟩, rfl, H.sel' [] rfl rfl⟩)
        · replace h := bif_f hb26 h
          refine c_skip ?_
          refine q_blk ?_
          refine q_then ?_
          refine rg ?_
          refine st (v := (I (w64 (s2 + 1)))) (rv_add (a := s2) (b := 1) rfl rfl) ?_
          refine st (v := (I (w64 (s2 + 1)))) (rv_move rfl) ?_
          refine w_end ?_
          refine q_then ?_
          obtain rfl := Option.some.inj h
          exact ⟨_, rfl, _, σ25, fr_join ⟨rfl, rfl, rfl, rfl, rfl, trivial⟩, rfl, H.sel' [0, 1, 2] rfl rfl⟩
    · replace h := bif_f hb4 h
      refine c_exit ?_
      refine q_then_x ?_
      refine q_then_x ?_
      refine q_blk_hit ?_
      obtain rfl := Option.some.inj h
      obtain rfl := hres _ rfl
      exact .inl ⟨_, rfl, rfl, _, σ3, fr_join trivial, rfl, H.sel' [] rfl rfl⟩
  · clear hj
    have h := h'
    clear h' H
    rintro e a w (⟨t27, rfl, rfl, ρ, σ28, rfl, rfl, H⟩ | ⟨t29, rfl, rfl, ρ, σ30, rfl, rfl, H⟩)
    · replace h := selim_l h
      refine q_then ?_
      refine c_seq ?_
      refine rg ?_
      refine st (v := (B true)) (rv_assign rfl) ?_
      refine w_end ?_
      refine q_then ?_
      refine c_ret ?_
      obtain rfl := Option.some.inj h
      exact fin_ret (v := (B true)) (results_ok Try.results45 (res_tmp (v := (B true)) rfl res_nil) rfl) ⟨rfl, rfl⟩ (H.sel' [] rfl rfl)
    · replace h := selim_r h
      refine q_then_r ?_
      obtain rfl := Option.some.inj h
      exact fin_ret (v := (B t29)) (results_ok Try.results45 (res_tmp (v := (B t29)) rfl res_nil) rfl) ⟨rfl, rfl⟩ (H.sel' [] rfl rfl)

theorem c_impl_InBox {list_0 : List (Int × (List Int) × Int)} {low_1 : List Int} {high_2 : List Int} {alist_0 : Option Addr} {clist_0 : Nat} {alow_1 : Option Addr} {clow_1 : Nat} {ahigh_2 : Option Addr} {chigh_2 : Nat} {r : (List Int)} (h : M.impl_InBox list_0 low_1 high_2 = some r) :
    Cal2 Try.prog 19 [(Sl alist_0 list_0 clist_0), (Sl alow_1 low_1 clow_1), (Sl ahigh_2 high_2 chigh_2)] [Ch.ro 0 (Sl alist_0 list_0 clist_0) list_0, Ch.ro 0 (Sl alow_1 low_1 clow_1) low_1, Ch.ro 0 (Sl ahigh_2 high_2 chigh_2) high_2] (fun n0 v L => ∃ (az1 : Option Addr), ∃ (cz2 : Nat), v = (Sl az1 r cz2) ∧ L = [Ch.own n0 n0 (Sl az1 r cz2) r]) := by
  refine cal2 (n := 41) Try.func19 rfl rfl rfl rfl ?_
  intro S0 σ0 n0 hn0 H
  unfold M.impl_InBox at h
  refine c_seq ?_
  refine rg ?_
  refine st (v := (.slice none 0 0)) (rv_assign rfl) ?_
  refine w_end ?_
  refine q_then ?_
  refine c_seq ?_
  refine c_seq ?_
  obtain ⟨o1, hj, h'⟩ := bind_some h
  clear h
  refine c_cut (fun e a w => e = .normal ∧ ∃ (ρ : Nat → Value) (σ : St), a = fr 41 (updL ρ [(0, (Sl alist_0 list_0 clist_0)), (1, (Sl alow_1 low_1 clow_1)), (2, (Sl ahigh_2 high_2 chigh_2)), (22, (B o1))]) ∧ w = σ.w ∧ Hp S0 σ0 σ [Ch.ro 0 (Sl alist_0 list_0 clist_0) list_0, Ch.ro 0 (Sl alow_1 low_1 clow_1) low_1, Ch.ro 0 (Sl ahigh_2 high_2 chigh_2) high_2]) ?_ ?_
  · clear h'
    rename _ = some o1 => h
    refine rg ?_
    refine st (v := (Sl alist_0 list_0 clist_0)) (rv_move rfl) ?_
    obtain ⟨r2, hx3, h'⟩ := bind_some h
    clear h
    have h := h'; clear h'
    have hc4 := c_impl_ValidStore (alist_0 := alist_0) (clist_0 := clist_0) hx3
    refine st_call (cx_call hc4 (ent_f hc4.fn rfl) hn0 (show Hp S0 σ0 _ ([Ch.ro 0 (Sl alist_0 list_0 clist_0) list_0] ++ [Ch.ro 0 (Sl alist_0 list_0 clist_0) list_0, Ch.ro 0 (Sl alow_1 low_1 clow_1) low_1, Ch.ro 0 (Sl ahigh_2 high_2 chigh_2) high_2]) from (H.sel' [0, 0, 1, 2] rfl rfl))) (wanted_none _ rfl _) ?_
    rintro _ σ5 ⟨_, ⟨rfl, rfl⟩, H, -⟩
    replace H : Hp S0 σ0 σ5 [Ch.ro 0 (Sl alist_0 list_0 clist_0) list_0, Ch.ro 0 (Sl alow_1 low_1 clow_1) low_1, Ch.ro 0 (Sl ahigh_2 high_2 chigh_2) high_2] := H
    refine st (v := (B (!r2))) (rv_not rfl) ?_
    refine st (v := (B (!r2))) (rv_move rfl) ?_
    rcases Bool.eq_false_or_eq_true (!r2) with hb6 | hb6
    · replace h := bif_t hb6 h
      refine st_skip (congrArg some hb6) ?_
      refine st_skip (congrArg some hb6) ?_
      refine st_skip (congrArg some hb6) ?_
      refine st (v := (B true)) (rv_pick_t (congrArg B hb6) rfl) ?_
      refine st (v := (B true)) (rv_move rfl) ?_
      refine st_skip rfl ?_
      refine st_skip rfl ?_
      refine st_skip rfl ?_
      refine st (v := (B true)) (rv_pick_t rfl rfl) ?_
      refine w_end ?_
      obtain rfl := Option.some.inj h
      exact ⟨rfl, _, σ5, fr_join ⟨rfl, rfl, rfl, rfl, trivial⟩, rfl, H.sel' [0, 1, 2] rfl rfl⟩
    · replace h := bif_f hb6 h
      refine st_g (v := (Sl alow_1 low_1 clow_1)) (congrArg some hb6) (rv_move rfl) ?_
      obtain ⟨r7, hx8, h'⟩ := bind_some h
      clear h
      have h := h'; clear h'
      have hc9 := c_impl_ValidVector (av_0 := alow_1) (cv_0 := clow_1) hx8
      refine st_call (cx_call hc9 (ent_f hc9.fn rfl) hn0 (show Hp S0 σ0 _ ([Ch.ro 0 (Sl alow_1 low_1 clow_1) low_1] ++ [Ch.ro 0 (Sl alist_0 list_0 clist_0) list_0, Ch.ro 0 (Sl alow_1 low_1 clow_1) low_1, Ch.ro 0 (Sl ahigh_2 high_2 chigh_2) high_2]) from (H.sel' [1, 0, 1, 2] rfl rfl))) (wanted_yes rfl (by exact (congrArg some hb6))) ?_
      rintro _ σ10 ⟨_, ⟨rfl, rfl⟩, H, -⟩
      replace H : Hp S0 σ0 σ10 [Ch.ro 0 (Sl alist_0 list_0 clist_0) list_0, Ch.ro 0 (Sl alow_1 low_1 clow_1) low_1, Ch.ro 0 (Sl ahigh_2 high_2 chigh_2) high_2] := H
      refine st_g (v := (B (!r7))) (congrArg some hb6) (rv_not rfl) ?_
      refine st (v := (B (!r7))) (rv_pick_f (congrArg B hb6) rfl) ?_
      refine st (v := (B (!r7))) (rv_move rfl) ?_
      rcases Bool.eq_false_or_eq_true (!r7) with hb11 | hb11
      · replace h := bif_t hb11 h
        refine st_skip (congrArg some hb11) ?_
        refine st_skip (congrArg some hb11) ?_
        refine st_skip (congrArg some hb11) ?_
        refine st (v := (B true)) (rv_pick_t (congrArg B hb11) rfl) ?_
        refine w_end ?_
        obtain rfl := Option.some.inj h
        exact ⟨rfl, _, σ10, fr_join ⟨rfl, rfl, rfl, rfl, trivial⟩, rfl, H.sel' [0, 1, 2] rfl rfl⟩
      · replace h := bif_f hb11 h
        refine st_g (v := (Sl ahigh_2 high_2 chigh_2)) (congrArg some hb11) (rv_move rfl) ?_
        obtain ⟨r12, hx13, h'⟩ := bind_some h
        clear h
        have h := h'; clear h'
        have hc14 := c_impl_ValidVector (av_0 := ahigh_2) (cv_0 := chigh_2) hx13
        refine st_call (cx_call hc14 (ent_f hc14.fn rfl) hn0 (show Hp S0 σ0 _ ([Ch.ro 0 (Sl ahigh_2 high_2 chigh_2) high_2] ++ [Ch.ro 0 (Sl alist_0 list_0 clist_0) list_0, Ch.ro 0 (Sl alow_1 low_1 clow_1) low_1, Ch.ro 0 (Sl ahigh_2 high_2 chigh_2) high_2]) from (H.sel' [2, 0, 1, 2] rfl rfl))) (wanted_yes rfl (by exact (congrArg some hb11))) ?_
        rintro _ σ15 ⟨_, ⟨rfl, rfl⟩, H, -⟩
        replace H : Hp S0 σ0 σ15 [Ch.ro 0 (Sl alist_0 list_0 clist_0) list_0, Ch.ro 0 (Sl alow_1 low_1 clow_1) low_1, Ch.ro 0 (Sl ahigh_2 high_2 chigh_2) high_2] := H
        refine st_g (v := (B (!r12))) (congrArg some hb11) (rv_not rfl) ?_
        refine st (v := (B (!r12))) (rv_pick_f (congrArg B hb11) rfl) ?_
        refine w_end ?_
        obtain rfl := Option.some.inj h
        exact ⟨rfl, _, σ15, fr_join ⟨rfl, rfl, rfl, rfl, trivial⟩, rfl, H.sel' [0, 1, 2] rfl rfl⟩
  · clear hj
    have h := h'
    clear h' H
    rintro e a w ⟨rfl, ρ, σ16, rfl, rfl, H⟩
    refine q_then ?_
    refine cd_cond o1 rfl (fun hb17 => ?_) (fun hb17 => ?_)
    · replace h := bif_t hb17 h
      refine c_seq ?_
      refine rg ?_
      refine st (v := (.slice none 0 0)) (rv_assign rfl) ?_
      refine w_end ?_
      refine q_then ?_
      refine c_ret ?_
      refine q_then_r ?_
      replace H := H.nilOwn Int n0 n0
      obtain rfl := Option.some.inj h
      exact fin_ret (v := (.slice none 0 0)) (results_ok Try.results19 (res_tmp (v := (.slice none 0 0)) rfl res_nil) rfl) ⟨none, 0, rfl, rfl⟩ (H.sel' [0] rfl rfl)
    · replace h := bif_f hb17 h
      refine c_skip ?_
      refine q_then ?_
      refine c_seq ?_
      refine rg ?_
      refine st (v := (.slice none 0 0)) (rv_assign rfl) ?_
      refine w_end ?_
      refine q_then ?_
      refine c_seq ?_
      refine c_seq ?_
      refine rg ?_
      refine st (v := (Sl alist_0 list_0 clist_0)) (rv_move rfl) ?_
      refine st (v := (I (list_0.length : Int))) (rv_len Try.underlying23 rfl) ?_
      refine st (v := (I 0)) (rv_move rfl) ?_
      refine w_end ?_
      refine q_then ?_
      obtain ⟨o18, hj, h'⟩ := bind_some h
      clear h
      refine c_cut (fun e a w => e = .normal ∧ ∃ (ρ : Nat → Value) (σ : St) (aj1 : Option Addr) (cj2 : Nat), a = fr 41 (updL ρ [(7, (Sl aj1 o18 cj2))]) ∧ w = σ.w ∧ Hp S0 σ0 σ [Ch.own n0 n0 (Sl aj1 o18 cj2) o18]) ?_ ?_
      · clear h'
        rename _ = some o18 => h
        refine c_blk ?_
        replace H := H.nilOwn Int n0 n0
        refine wp_loopM _ h (fun s19 a w => ∃ (ρ : Nat → Value) (σ : St) (aj1 : Option Addr) (cj2 : Nat), a = fr 41 (updL ρ [(1, (Sl alow_1 low_1 clow_1)), (2, (Sl ahigh_2 high_2 chigh_2)), (7, (Sl aj1 s19.1 cj2)), (23, (Sl alist_0 list_0 clist_0)), (24, (I (list_0.length : Int))), (25, (I s19.2))]) ∧ w = σ.w ∧ Hp S0 σ0 σ [Ch.ro 0 (Sl alow_1 low_1 clow_1) low_1, Ch.ro 0 (Sl ahigh_2 high_2 chigh_2) high_2, Ch.own n0 n0 (Sl aj1 s19.1 cj2) s19.1, Ch.ro 0 (Sl alist_0 list_0 clist_0) list_0]) ⟨_, σ16, none, 0, fr_join ⟨rfl, rfl, rfl, rfl, rfl, rfl, trivial⟩, rfl, H.sel' [2, 3, 0, 1] rfl rfl⟩ ?_
        clear h H
        rintro s19 a w o ⟨ρ, σ20, a21, c22, rfl, rfl, H⟩ h hres
        refine c_seq ?_
        refine rg ?_
        refine st (v := (B (decide (s19.2 < (list_0.length : Int))))) (rv_lss (a := s19.2) (b := (list_0.length : Int)) rfl rfl) ?_
        refine w_end ?_
        refine q_then ?_
        refine c_seq ?_
        refine cd_cond (decide (s19.2 < (list_0.length : Int))) rfl (fun hb23 => ?_) (fun hb23 => ?_)
        · replace h := bif_t hb23 h
          refine c_skip ?_
          refine q_then ?_
          refine c_seq ?_
          obtain ⟨o24, hj, h'⟩ := bind_some h
          clear h
          refine c_cut (fun e a w => e = .normal ∧ ∃ (ρ : Nat → Value) (σ : St) (aj1 : Option Addr) (cj2 : Nat), a = fr 41 (updL ρ [(1, (Sl alow_1 low_1 clow_1)), (2, (Sl ahigh_2 high_2 chigh_2)), (7, (Sl aj1 o24 cj2)), (23, (Sl alist_0 list_0 clist_0)), (24, (I (list_0.length : Int))), (25, (I s19.2))]) ∧ w = σ.w ∧ Hp S0 σ0 σ [Ch.ro 0 (Sl alow_1 low_1 clow_1) low_1, Ch.ro 0 (Sl ahigh_2 high_2 chigh_2) high_2, Ch.own n0 n0 (Sl aj1 o24 cj2) o24, Ch.ro 0 (Sl alist_0 list_0 clist_0) list_0]) ?_ ?_
          · clear h'
            rename _ = some o24 => h
            refine c_blk ?_
            refine c_seq ?_
            refine rg ?_
            obtain ⟨x25, hx26, h'⟩ := bind_some h
            clear h
            have h := h'; clear h'
            obtain ⟨b28, o29, hi27, -⟩ := (H.ro 3 rfl).ix hx26
            refine st (v := (pt b28 o29)) (rv_ix Try.underlying23 ti38 rfl rfl hi27) ?_
            obtain ⟨_, ⟨_, _, rfl, rfl, ⟨_, _, rfl, ⟨_, rfl, hR34⟩, rfl⟩⟩, hl30, hc31⟩ := ((H.ro 3 rfl).at hx26 hi27).cells
            obtain ⟨a32, c33, rfl⟩ := hR34.isSl
            replace H := H.add (d := Ch.ro 0 (Sl a32 x25.2.1 c33) x25.2.1) hR34 (fun _ h => h)
            clear hR34
            refine st (v := (.agg #[(I x25.1), (Sl a32 x25.2.1 c33), (I x25.2.2)])) (rv_load Try.underlying38 rfl ti38 rfl hl30 hc31) ?_
            refine st_ex (ex_alloc (cs := [(I 0), (.slice none 0 0), (I 0)]) H hn0 ti38 rfl) (wanted_none _ rfl _) ?_
            rintro _ σ36 ⟨b35, rfl, H, -⟩
            refine st_exS (ex_store_box (k := 0) (cs := [(I 0), (.slice none 0 0), (I 0)]) (vs := [(I x25.1), (Sl a32 x25.2.1 c33), (I x25.2.2)]) (cs' := [(I x25.1), (Sl a32 x25.2.1 c33), (I x25.2.2)]) H (i := 0) rfl ti38 rfl rfl rfl rfl rfl (Nat.le_of_ble_eq_true rfl) (by simp [plain]) rfl) (wanted_none _ rfl _) ?_
            rintro σ37 ⟨H, -⟩
            refine w_end ?_
            refine q_then ?_
            refine c_seq ?_
            refine rg ?_
            refine st (v := (pt b35 1)) (rv_fieldAddr (off := 1) (ft := 25) Try.underlying38 rfl ti25 rfl rfl) ?_
            have hc38 := H.cell (u := (Sl a32 x25.2.1 c33)) (o' := 1) 0 1 rfl rfl rfl
            refine st (v := (Sl a32 x25.2.1 c33)) (rv_load1 Try.underlying25 rfl rfl hc38) ?_
            refine st (v := (Sl alow_1 low_1 clow_1)) (rv_move rfl) ?_
            refine st (v := (Sl ahigh_2 high_2 chigh_2)) (rv_move rfl) ?_
            obtain ⟨r39, hx40, h'⟩ := bind_some h
            clear h
            have h := h'; clear h'
            have hc41 := c_impl_insideBox (aat_0 := a32) (cat_0 := c33) (alow_1 := alow_1) (clow_1 := clow_1) (ahigh_2 := ahigh_2) (chigh_2 := chigh_2) hx40
            refine st_call (cx_call hc41 (ent_f hc41.fn rfl) hn0 (show Hp S0 σ0 _ ([Ch.ro 0 (Sl a32 x25.2.1 c33) x25.2.1, Ch.ro 0 (Sl alow_1 low_1 clow_1) low_1, Ch.ro 0 (Sl ahigh_2 high_2 chigh_2) high_2] ++ [Ch.bx n0 b35 0 [(I x25.1), (Sl a32 x25.2.1 c33), (I x25.2.2)] [] [], Ch.ro 0 (Sl a32 x25.2.1 c33) x25.2.1, Ch.ro 0 (Sl alow_1 low_1 clow_1) low_1, Ch.ro 0 (Sl ahigh_2 high_2 chigh_2) high_2, Ch.own n0 n0 (Sl a21 s19.1 c22) s19.1, Ch.ro 0 (Sl alist_0 list_0 clist_0) list_0]) from (H.sel' [1, 2, 3, 0, 1, 2, 3, 4, 5] rfl rfl))) (wanted_none _ rfl _) ?_
            rintro _ σ42 ⟨_, ⟨rfl, rfl⟩, H, -⟩
            replace H : Hp S0 σ0 σ42 [Ch.bx n0 b35 0 [(I x25.1), (Sl a32 x25.2.1 c33), (I x25.2.2)] [] [], Ch.ro 0 (Sl a32 x25.2.1 c33) x25.2.1, Ch.ro 0 (Sl alow_1 low_1 clow_1) low_1, Ch.ro 0 (Sl ahigh_2 high_2 chigh_2) high_2, Ch.own n0 n0 (Sl a21 s19.1 c22) s19.1, Ch.ro 0 (Sl alist_0 list_0 clist_0) list_0] := H
            refine w_end ?_
            refine q_then ?_
            refine cd_cond r39 rfl (fun hb43 => ?_) (fun hb43 => ?_)
            · replace h := bif_t hb43 h
              refine rg ?_
              refine st (v := (Sl a21 s19.1 c22)) (rv_move rfl) ?_
              refine st (v := (pt b35 0)) (rv_fieldAddr (off := 0) (ft := 3) Try.underlying38 rfl ti3 rfl rfl) ?_
              have hc44 := H.cell (u := (I x25.1)) (o' := 0) 0 0 rfl rfl rfl
              refine st (v := (I x25.1)) (rv_load1 Try.underlying3 rfl rfl hc44) ?_
              refine st_ex (ex_buildSlice (el := n0) (xs := ([x25.1] : List Int)) (ps := [(0, (I x25.1))]) (cs := [(I x25.1)]) H hn0 Try.underlying25 ti3 rfl rfl (by kernel_rfl) (.cons (c := [(I x25.1)]) rfl (.nil)) rfl) (wanted_none _ rfl _) ?_
              rintro _ σ46 ⟨b45, rfl, H, -⟩
              obtain ⟨xs47, hx48, h'⟩ := bind_some h
              clear h
              have h := h'; clear h'
              refine st_ex (ex_append H (i := 5) rfl Try.underlying25 Try.underlying25 ti3 rfl rfl (by decide) (H.own 0 rfl).rd hx48 hn0 rfl rfl) (wanted_none _ rfl _) ?_
              rintro _ σ51 ⟨a49, c50, rfl, H, -⟩
              refine st (v := (Sl a49 xs47 c50)) (rv_assign rfl) ?_
              refine w_end ?_
              refine q_blk ?_
              obtain rfl := Option.some.inj h
              exact ⟨rfl, _, σ51, a49, c50, fr_join ⟨rfl, rfl, rfl, rfl, rfl, rfl, trivial⟩, rfl, H.sel' [4, 5, 0, 6] rfl rfl⟩
            · replace h := bif_f hb43 h
              refine c_skip ?_
              refine q_blk ?_
              obtain rfl := Option.some.inj h
              exact ⟨rfl, _, σ42, a21, c22, fr_join ⟨rfl, rfl, rfl, rfl, rfl, rfl, trivial⟩, rfl, H.sel' [2, 3, 4, 5] rfl rfl⟩
          · clear hj
            have h := h'
            clear h' H
            rintro e a w ⟨rfl, ρ, σ52, a53, c54, rfl, rfl, H⟩
            refine q_then ?_
            refine rg ?_
            refine st (v := (I (w64 (s19.2 + 1)))) (rv_add (a := s19.2) (b := 1) rfl rfl) ?_
            refine st (v := (I (w64 (s19.2 + 1)))) (rv_move rfl) ?_
            refine w_end ?_
            refine q_then ?_
            obtain rfl := Option.some.inj h
            exact ⟨_, rfl, _, σ52, a53, c54, fr_join ⟨rfl, rfl, rfl, rfl, rfl, rfl, trivial⟩, rfl, H.sel' [0, 1, 2, 3] rfl rfl⟩
        · replace h := bif_f hb23 h
          refine c_exit ?_
          refine q_then_x ?_
          refine q_then_x ?_
          refine q_blk_hit ?_
          obtain rfl := Option.some.inj h
          obtain rfl := hres _ rfl
          exact ⟨rfl, _, σ20, a21, c22, fr_join ⟨rfl, trivial⟩, rfl, H.sel' [2] rfl rfl⟩
      · clear hj
        have h := h'
        clear h' H
        rintro e a w ⟨rfl, ρ, σ55, a56, c57, rfl, rfl, H⟩
        refine q_then ?_
        refine c_seq ?_
        refine rg ?_
        refine st (v := (Sl a56 o18 c57)) (rv_move rfl) ?_
        refine st (v := (Sl a56 o18 c57)) (rv_assign rfl) ?_
        refine w_end ?_
        refine q_then ?_
        refine c_ret ?_
        obtain rfl := Option.some.inj h
        exact fin_ret (v := (Sl a56 o18 c57)) (results_ok Try.results19 (res_tmp (v := (Sl a56 o18 c57)) rfl res_nil) rfl) ⟨a56, c57, rfl, rfl⟩ (H.sel' [0] rfl rfl)

theorem c_laws_FnBoundsOf {code_0 : List UInt8} {acode_0 : Option Addr} {ccode_0 : Nat} {r : Bool} (h : M.laws_FnBoundsOf code_0 = some r) :
    Cal2 Try.prog 3 [(Sl acode_0 code_0 ccode_0)] [Ch.ro 0 (Sl acode_0 code_0 ccode_0) code_0] (fun n0 v L => v = (B r) ∧ L = []) := by
  refine cal2 (n := 75) Try.func3 rfl rfl rfl rfl ?_
  intro S0 σ0 n0 hn0 H
  unfold M.laws_FnBoundsOf at h
  refine c_seq ?_
  refine rg ?_
  refine st (v := (B false)) (rv_assign rfl) ?_
  refine w_end ?_
  refine q_then ?_
  refine c_seq ?_
  refine c_seq ?_
  refine rg ?_
  refine st (v := (Sl acode_0 code_0 ccode_0)) (rv_move rfl) ?_
  refine st (v := (I (code_0.length : Int))) (rv_len Try.underlying22 rfl) ?_
  refine st (v := (B (decide (1048576 < (code_0.length : Int))))) (rv_gtr (a := (code_0.length : Int)) (b := 1048576) rfl rfl) ?_
  refine w_end ?_
  refine q_then ?_
  refine cd_cond (decide (1048576 < (code_0.length : Int))) rfl (fun hb1 => ?_) (fun hb1 => ?_)
  · replace h := bif_t hb1 h
    refine c_seq ?_
    refine rg ?_
    refine st (v := (B true)) (rv_assign rfl) ?_
    refine w_end ?_
    refine q_then ?_
    refine c_ret ?_
    refine q_then_r ?_
    obtain rfl := Option.some.inj h
    exact fin_ret (v := (B true)) (results_ok Try.results3 (res_tmp (v := (B true)) rfl res_nil) rfl) ⟨rfl, rfl⟩ (H.sel' [] rfl rfl)
  · replace h := bif_f hb1 h
    refine c_skip ?_
    refine q_then ?_
    refine c_seq ?_
    refine rg ?_
    refine st (v := (Sl acode_0 code_0 ccode_0)) (rv_move rfl) ?_
    obtain ⟨r2, hx3, h'⟩ := bind_some h
    clear h
    have h := h'; clear h'
    have hc4 := c_spec_DrawBoundsOf (acode_0 := acode_0) (ccode_0 := ccode_0) hx3
    refine st_call (cx_call hc4 (ent_f hc4.fn rfl) hn0 (show Hp S0 σ0 _ ([Ch.ro 0 (Sl acode_0 code_0 ccode_0) code_0] ++ [Ch.ro 0 (Sl acode_0 code_0 ccode_0) code_0]) from (H.sel' [0, 0] rfl rfl))) (wanted_none _ rfl _) ?_
    rintro _ σ7 ⟨_, ⟨a5, c6, rfl, rfl⟩, H, -⟩
    replace H : Hp S0 σ0 σ7 [Ch.own n0 n0 (Sl a5 r2 c6) r2, Ch.ro 0 (Sl acode_0 code_0 ccode_0) code_0] := H
    refine st (v := (Sl a5 r2 c6)) (rv_assign rfl) ?_
    refine w_end ?_
    refine q_then ?_
    refine c_seq ?_
    refine rg ?_
    refine st (v := (Sl a5 r2 c6)) (rv_move rfl) ?_
    obtain ⟨r8, hx9, h'⟩ := bind_some h
    clear h
    have h := h'; clear h'
    have hc10 := c_impl_BoundsOf (alist_0 := a5) (clist_0 := c6) hx9
    have hle := Nat.le_trans hn0 H.size
    refine st_call (cx_lend (Loan.lend Loan.nil) hc10 (ent_f hc10.fn rfl) (show Hp S0 σ0 _ ([Ch.own n0 n0 (Sl a5 r2 c6) r2] ++ ([] ++ [Ch.ro 0 (Sl acode_0 code_0 ccode_0) code_0])) from (H.sel' [0, 1] rfl rfl)) (by rintro _ _ _ ⟨_, _, _, _, rfl, rfl, _, _⟩; exact ⟨Ab.ownSc, Ab.ownSc, trivial⟩)) (wanted_none _ rfl _) ?_
    rintro _ σ17 ⟨_, ⟨a11, c12, a14, c15, rfl, rfl, ht13, ht16⟩, H, -, -⟩
    replace H : Hp S0 σ0 σ17 [Ch.own σ7.size σ7.size (Sl a11 r8.1 c12) r8.1, Ch.own σ7.size σ7.size (Sl a14 r8.2.1 c15) r8.2.1, Ch.own n0 n0 (Sl a5 r2 c6) r2, Ch.ro 0 (Sl acode_0 code_0 ccode_0) code_0] := H
    replace H := H.ownLow 0 n0 n0 rfl hle hle
    replace H := H.ownLow 1 n0 n0 rfl hle hle
    clear hle
    replace H : Hp S0 σ0 σ17 [Ch.own n0 n0 (Sl a14 r8.2.1 c15) r8.2.1, Ch.own n0 n0 (Sl a11 r8.1 c12) r8.1, Ch.own n0 n0 (Sl a5 r2 c6) r2, Ch.ro 0 (Sl acode_0 code_0 ccode_0) code_0] := H
    refine st (v := (.tuple #[(Sl a11 r8.1 c12), (Sl a14 r8.2.1 c15), (B r8.2.2)])) (rv_move rfl) ?_
    refine st (v := (Sl a11 r8.1 c12)) (rv_extract rfl rfl) ?_
    refine st (v := (Sl a14 r8.2.1 c15)) (rv_extract rfl rfl) ?_
    refine st (v := (B r8.2.2)) (rv_extract rfl rfl) ?_
    refine st (v := (Sl a11 r8.1 c12)) (rv_assign rfl) ?_
    refine st (v := (Sl a14 r8.2.1 c15)) (rv_assign rfl) ?_
    refine st (v := (B r8.2.2)) (rv_assign rfl) ?_
    refine w_end ?_
    refine q_then ?_
    refine c_seq ?_
    refine rg ?_
    refine st (v := (Sl a5 r2 c6)) (rv_move rfl) ?_
    obtain ⟨r18, hx19, h'⟩ := bind_some h
    clear h
    have h := h'; clear h'
    have hc20 := c_spec_BoundsOf (alist_0 := a5) (clist_0 := c6) hx19
    have hle := Nat.le_trans hn0 H.size
    refine st_call (cx_lend (Loan.lend Loan.nil) hc20 (ent_f hc20.fn rfl) (show Hp S0 σ0 _ ([Ch.own n0 n0 (Sl a5 r2 c6) r2] ++ ([] ++ [Ch.own n0 n0 (Sl a14 r8.2.1 c15) r8.2.1, Ch.own n0 n0 (Sl a11 r8.1 c12) r8.1, Ch.ro 0 (Sl acode_0 code_0 ccode_0) code_0])) from (H.sel' [2, 0, 1, 3] rfl rfl)) (by rintro _ _ _ ⟨_, _, _, _, rfl, rfl⟩; exact ⟨Ab.ownSc, Ab.ownSc, trivial⟩)) (wanted_none _ rfl _) ?_
    rintro _ σ25 ⟨_, ⟨a21, c22, a23, c24, rfl, rfl⟩, H, -, -⟩
    replace H : Hp S0 σ0 σ25 [Ch.own σ17.size σ17.size (Sl a21 r18.1 c22) r18.1, Ch.own σ17.size σ17.size (Sl a23 r18.2.1 c24) r18.2.1, Ch.own n0 n0 (Sl a5 r2 c6) r2, Ch.own n0 n0 (Sl a14 r8.2.1 c15) r8.2.1, Ch.own n0 n0 (Sl a11 r8.1 c12) r8.1, Ch.ro 0 (Sl acode_0 code_0 ccode_0) code_0] := H
    replace H := H.ownLow 0 n0 n0 rfl hle hle
    replace H := H.ownLow 1 n0 n0 rfl hle hle
    clear hle
    replace H : Hp S0 σ0 σ25 [Ch.own n0 n0 (Sl a23 r18.2.1 c24) r18.2.1, Ch.own n0 n0 (Sl a21 r18.1 c22) r18.1, Ch.own n0 n0 (Sl a5 r2 c6) r2, Ch.own n0 n0 (Sl a14 r8.2.1 c15) r8.2.1, Ch.own n0 n0 (Sl a11 r8.1 c12) r8.1, Ch.ro 0 (Sl acode_0 code_0 ccode_0) code_0] := H
    refine st (v := (.tuple #[(Sl a21 r18.1 c22), (Sl a23 r18.2.1 c24), (B r18.2.2)])) (rv_move rfl) ?_
    refine st (v := (Sl a21 r18.1 c22)) (rv_extract rfl rfl) ?_
    refine st (v := (Sl a23 r18.2.1 c24)) (rv_extract rfl rfl) ?_
    refine st (v := (B r18.2.2)) (rv_extract rfl rfl) ?_
    refine st (v := (Sl a21 r18.1 c22)) (rv_assign rfl) ?_
    refine st (v := (Sl a23 r18.2.1 c24)) (rv_assign rfl) ?_
    refine st (v := (B r18.2.2)) (rv_assign rfl) ?_
    refine w_end ?_
    refine q_then ?_
    refine c_seq ?_
    refine c_seq ?_
    obtain ⟨o26, hj, h'⟩ := bind_some h
    clear h
    refine c_cut (fun e a w => e = .normal ∧ ∃ (ρ : Nat → Value) (σ : St), a = fr 75 (updL ρ [(3, (Sl a5 r2 c6)), (4, (Sl a11 r8.1 c12)), (5, (Sl a14 r8.2.1 c15)), (6, (B r8.2.2)), (7, (Sl a21 r18.1 c22)), (8, (Sl a23 r18.2.1 c24)), (9, (B r18.2.2)), (45, (B o26))]) ∧ w = σ.w ∧ Hp S0 σ0 σ [Ch.own n0 n0 (Sl a5 r2 c6) r2, Ch.own n0 n0 (Sl a11 r8.1 c12) r8.1, Ch.own n0 n0 (Sl a14 r8.2.1 c15) r8.2.1, Ch.own n0 n0 (Sl a21 r18.1 c22) r18.1, Ch.own n0 n0 (Sl a23 r18.2.1 c24) r18.2.1]) ?_ ?_
    · clear h'
      rename _ = some o26 => h
      refine rg ?_
      refine st (v := (Sl a11 r8.1 c12)) (rv_move rfl) ?_
      refine st (v := (Sl a21 r18.1 c22)) (rv_move rfl) ?_
      obtain ⟨r27, hx28, h'⟩ := bind_some h
      clear h
      have h := h'; clear h'
      have hc29 := c_laws_equalInts (aa_0 := a11) (ca_0 := c12) (ab_1 := a21) (cb_1 := c22) hx28
      have hle := Nat.le_trans hn0 H.size
      refine st_call (cx_lend (Loan.lend (Loan.lend Loan.nil)) hc29 (ent_f hc29.fn rfl) (show Hp S0 σ0 _ ([Ch.own n0 n0 (Sl a11 r8.1 c12) r8.1, Ch.own n0 n0 (Sl a21 r18.1 c22) r18.1] ++ ([] ++ [Ch.own n0 n0 (Sl a23 r18.2.1 c24) r18.2.1, Ch.own n0 n0 (Sl a5 r2 c6) r2, Ch.own n0 n0 (Sl a14 r8.2.1 c15) r8.2.1, Ch.ro 0 (Sl acode_0 code_0 ccode_0) code_0])) from (H.sel' [4, 1, 0, 2, 3, 5] rfl rfl)) (by rintro _ _ _ ⟨rfl, rfl⟩; exact trivial)) (wanted_none _ rfl _) ?_
      rintro _ σ30 ⟨_, ⟨rfl, rfl⟩, H, -, -⟩
      replace H : Hp S0 σ0 σ30 [Ch.own n0 n0 (Sl a11 r8.1 c12) r8.1, Ch.own n0 n0 (Sl a21 r18.1 c22) r18.1, Ch.own n0 n0 (Sl a23 r18.2.1 c24) r18.2.1, Ch.own n0 n0 (Sl a5 r2 c6) r2, Ch.own n0 n0 (Sl a14 r8.2.1 c15) r8.2.1, Ch.ro 0 (Sl acode_0 code_0 ccode_0) code_0] := H
      clear hle
      replace H : Hp S0 σ0 σ30 [Ch.own n0 n0 (Sl a11 r8.1 c12) r8.1, Ch.own n0 n0 (Sl a21 r18.1 c22) r18.1, Ch.own n0 n0 (Sl a23 r18.2.1 c24) r18.2.1, Ch.own n0 n0 (Sl a5 r2 c6) r2, Ch.own n0 n0 (Sl a14 r8.2.1 c15) r8.2.1, Ch.ro 0 (Sl acode_0 code_0 ccode_0) code_0] := H
      refine st (v := (B (!r27))) (rv_not rfl) ?_
      refine st (v := (B (!r27))) (rv_move rfl) ?_
      rcases Bool.eq_false_or_eq_true (!r27) with hb31 | hb31
      · replace h := bif_t hb31 h
        refine st_skip (congrArg some hb31) ?_
        refine st_skip (congrArg some hb31) ?_
        refine st_skip (congrArg some hb31) ?_
        refine st_skip (congrArg some hb31) ?_
        refine st (v := (B true)) (rv_pick_t (congrArg B hb31) rfl) ?_
        refine st (v := (B true)) (rv_move rfl) ?_
        refine st_skip rfl ?_
        refine st_skip rfl ?_
        refine st_skip rfl ?_
        refine st (v := (B true)) (rv_pick_t rfl rfl) ?_
        refine st (v := (B true)) (rv_move rfl) ?_
        refine st_skip rfl ?_
        refine st_skip rfl ?_
        refine st (v := (B true)) (rv_pick_t rfl rfl) ?_
        refine w_end ?_
        obtain rfl := Option.some.inj h
        exact ⟨rfl, _, σ30, fr_join ⟨rfl, rfl, rfl, rfl, rfl, rfl, rfl, rfl, trivial⟩, rfl, H.sel' [3, 0, 4, 1, 2] rfl rfl⟩
      · replace h := bif_f hb31 h
        refine st_g (v := (Sl a14 r8.2.1 c15)) (congrArg some hb31) (rv_move rfl) ?_
        refine st_g (v := (Sl a23 r18.2.1 c24)) (congrArg some hb31) (rv_move rfl) ?_
        obtain ⟨r32, hx33, h'⟩ := bind_some h
        clear h
        have h := h'; clear h'
        have hc34 := c_laws_equalInts (aa_0 := a14) (ca_0 := c15) (ab_1 := a23) (cb_1 := c24) hx33
        have hle := Nat.le_trans hn0 H.size
        refine st_call (cx_lend (Loan.lend (Loan.lend Loan.nil)) hc34 (ent_f hc34.fn rfl) (show Hp S0 σ0 _ ([Ch.own n0 n0 (Sl a14 r8.2.1 c15) r8.2.1, Ch.own n0 n0 (Sl a23 r18.2.1 c24) r18.2.1] ++ ([] ++ [Ch.own n0 n0 (Sl a11 r8.1 c12) r8.1, Ch.own n0 n0 (Sl a21 r18.1 c22) r18.1, Ch.own n0 n0 (Sl a5 r2 c6) r2, Ch.ro 0 (Sl acode_0 code_0 ccode_0) code_0])) from (H.sel' [4, 2, 0, 1, 3, 5] rfl rfl)) (by rintro _ _ _ ⟨rfl, rfl⟩; exact trivial)) (wanted_yes rfl (by exact (congrArg some hb31))) ?_
        rintro _ σ35 ⟨_, ⟨rfl, rfl⟩, H, -, -⟩
        replace H : Hp S0 σ0 σ35 [Ch.own n0 n0 (Sl a14 r8.2.1 c15) r8.2.1, Ch.own n0 n0 (Sl a23 r18.2.1 c24) r18.2.1, Ch.own n0 n0 (Sl a11 r8.1 c12) r8.1, Ch.own n0 n0 (Sl a21 r18.1 c22) r18.1, Ch.own n0 n0 (Sl a5 r2 c6) r2, Ch.ro 0 (Sl acode_0 code_0 ccode_0) code_0] := H
        clear hle
        replace H : Hp S0 σ0 σ35 [Ch.own n0 n0 (Sl a14 r8.2.1 c15) r8.2.1, Ch.own n0 n0 (Sl a23 r18.2.1 c24) r18.2.1, Ch.own n0 n0 (Sl a11 r8.1 c12) r8.1, Ch.own n0 n0 (Sl a21 r18.1 c22) r18.1, Ch.own n0 n0 (Sl a5 r2 c6) r2, Ch.ro 0 (Sl acode_0 code_0 ccode_0) code_0] := H
        refine st_g (v := (B (!r32))) (congrArg some hb31) (rv_not rfl) ?_
        refine st (v := (B (!r32))) (rv_pick_f (congrArg B hb31) rfl) ?_
        refine st (v := (B (!r32))) (rv_move rfl) ?_
        rcases Bool.eq_false_or_eq_true (!r32) with hb36 | hb36
        · replace h := bif_t hb36 h
          refine st_skip (congrArg some hb36) ?_
          refine st_skip (congrArg some hb36) ?_
          refine st_skip (congrArg some hb36) ?_
          refine st (v := (B true)) (rv_pick_t (congrArg B hb36) rfl) ?_
          refine st (v := (B true)) (rv_move rfl) ?_
          refine st_skip rfl ?_
          refine st_skip rfl ?_
          refine st (v := (B true)) (rv_pick_t rfl rfl) ?_
          refine w_end ?_
          obtain rfl := Option.some.inj h
          exact ⟨rfl, _, σ35, fr_join ⟨rfl, rfl, rfl, rfl, rfl, rfl, rfl, rfl, trivial⟩, rfl, H.sel' [4, 2, 0, 3, 1] rfl rfl⟩
        · replace h := bif_f hb36 h
          refine st_g (v := (B r8.2.2)) (congrArg some hb36) (rv_move rfl) ?_
          refine st_g (v := (B r18.2.2)) (congrArg some hb36) (rv_move rfl) ?_
          refine st_g (v := (B (r8.2.2 != r18.2.2))) (congrArg some hb36) (rv_bneq Try.underlying4 rfl rfl) ?_
          refine st (v := (B (r8.2.2 != r18.2.2))) (rv_pick_f (congrArg B hb36) rfl) ?_
          refine st (v := (B (r8.2.2 != r18.2.2))) (rv_move rfl) ?_
          rcases Bool.eq_false_or_eq_true (r8.2.2 != r18.2.2) with hb37 | hb37
          · replace h := bif_t hb37 h
            refine st_skip (congrArg some hb37) ?_
            refine st_skip (congrArg some hb37) ?_
            refine st (v := (B true)) (rv_pick_t (congrArg B hb37) rfl) ?_
            refine w_end ?_
            obtain rfl := Option.some.inj h
            exact ⟨rfl, _, σ35, fr_join ⟨rfl, rfl, rfl, rfl, rfl, rfl, rfl, rfl, trivial⟩, rfl, H.sel' [4, 2, 0, 3, 1] rfl rfl⟩
          · replace h := bif_f hb37 h
            refine st_g (v := (B r8.2.2)) (congrArg some hb37) (rv_move rfl) ?_
            refine st_g (v := (B (!r8.2.2))) (congrArg some hb37) (rv_not rfl) ?_
            refine st (v := (B (!r8.2.2))) (rv_pick_f (congrArg B hb37) rfl) ?_
            refine w_end ?_
            obtain rfl := Option.some.inj h
            exact ⟨rfl, _, σ35, fr_join ⟨rfl, rfl, rfl, rfl, rfl, rfl, rfl, rfl, trivial⟩, rfl, H.sel' [4, 2, 0, 3, 1] rfl rfl⟩
    · clear hj
      have h := h'
      clear h' H
      rintro e a w ⟨rfl, ρ, σ38, rfl, rfl, H⟩
      refine q_then ?_
      refine cd_cond o26 rfl (fun hb39 => ?_) (fun hb39 => ?_)
      · replace h := bif_t hb39 h
        refine c_seq ?_
        refine rg ?_
        refine st (v := (Sl a11 r8.1 c12)) (rv_move rfl) ?_
        refine st (v := (Sl a21 r18.1 c22)) (rv_move rfl) ?_
        obtain ⟨σ40, hw41, H, -⟩ := H.pub 1 rfl (Nat.le_refl _)
        rw [← hw41]; clear hw41
        obtain ⟨σ42, hw43, H, -⟩ := H.pub 3 rfl (Nat.le_refl _)
        rw [← hw43]; clear hw43
        replace H := H.roLow 1 0 rfl (Nat.zero_le _)
        replace H := H.roLow 1 0 rfl (Nat.zero_le _)
        obtain ⟨r44, hx45, h'⟩ := bind_some h
        clear h
        have h := h'; clear h'
        have hc46 := c_laws_equalInts (aa_0 := a11) (ca_0 := c12) (ab_1 := a21) (cb_1 := c22) hx45
        refine st_call (cx_call hc46 (ent_f hc46.fn rfl) hn0 (show Hp S0 σ0 _ ([Ch.ro 0 (Sl a11 r8.1 c12) r8.1, Ch.ro 0 (Sl a21 r18.1 c22) r18.1] ++ [Ch.ro 0 (Sl a21 r18.1 c22) r18.1, Ch.ro 0 (Sl a11 r8.1 c12) r8.1, Ch.ro n0 (Sl a21 r18.1 c22) r18.1, Ch.ro n0 (Sl a11 r8.1 c12) r8.1, Ch.own n0 n0 (Sl a5 r2 c6) r2, Ch.own n0 n0 (Sl a14 r8.2.1 c15) r8.2.1, Ch.own n0 n0 (Sl a23 r18.2.1 c24) r18.2.1]) from (H.sel' [1, 0, 0, 1, 2, 3, 4, 5, 6] rfl rfl))) (wanted_none _ rfl _) ?_
        rintro _ σ47 ⟨_, ⟨rfl, rfl⟩, H, -⟩
        replace H : Hp S0 σ0 σ47 [Ch.ro 0 (Sl a21 r18.1 c22) r18.1, Ch.ro 0 (Sl a11 r8.1 c12) r8.1, Ch.ro n0 (Sl a21 r18.1 c22) r18.1, Ch.ro n0 (Sl a11 r8.1 c12) r8.1, Ch.own n0 n0 (Sl a5 r2 c6) r2, Ch.own n0 n0 (Sl a14 r8.2.1 c15) r8.2.1, Ch.own n0 n0 (Sl a23 r18.2.1 c24) r18.2.1] := H
        refine st (v := (B r44)) (rv_move rfl) ?_
        rcases Bool.eq_false_or_eq_true r44 with hb48 | hb48
        · replace h := bif_t hb48 h
          refine st_g (v := (Sl a14 r8.2.1 c15)) (congrArg some hb48) (rv_move rfl) ?_
          refine st_g (v := (Sl a23 r18.2.1 c24)) (congrArg some hb48) (rv_move rfl) ?_
          obtain ⟨σ49, hw50, H, -⟩ := H.pub 5 rfl (Nat.le_refl _)
          rw [← hw50]; clear hw50
          obtain ⟨σ51, hw52, H, -⟩ := H.pub 6 rfl (Nat.le_refl _)
          rw [← hw52]; clear hw52
          replace H := H.roLow 1 0 rfl (Nat.zero_le _)
          replace H := H.roLow 1 0 rfl (Nat.zero_le _)
          obtain ⟨r53, hx54, h'⟩ := bind_some h
          clear h
          have h := h'; clear h'
          have hc55 := c_laws_equalInts (aa_0 := a14) (ca_0 := c15) (ab_1 := a23) (cb_1 := c24) hx54
          refine st_call (cx_call hc55 (ent_f hc55.fn rfl) hn0 (show Hp S0 σ0 _ ([Ch.ro 0 (Sl a14 r8.2.1 c15) r8.2.1, Ch.ro 0 (Sl a23 r18.2.1 c24) r18.2.1] ++ [Ch.ro 0 (Sl a23 r18.2.1 c24) r18.2.1, Ch.ro 0 (Sl a14 r8.2.1 c15) r8.2.1, Ch.ro n0 (Sl a23 r18.2.1 c24) r18.2.1, Ch.ro n0 (Sl a14 r8.2.1 c15) r8.2.1, Ch.ro 0 (Sl a21 r18.1 c22) r18.1, Ch.ro 0 (Sl a11 r8.1 c12) r8.1, Ch.ro n0 (Sl a21 r18.1 c22) r18.1, Ch.ro n0 (Sl a11 r8.1 c12) r8.1, Ch.own n0 n0 (Sl a5 r2 c6) r2]) from (H.sel' [1, 0, 0, 1, 2, 3, 4, 5, 6, 7, 8] rfl rfl))) (wanted_yes rfl (by exact (congrArg some hb48))) ?_
          rintro _ σ56 ⟨_, ⟨rfl, rfl⟩, H, -⟩
          replace H : Hp S0 σ0 σ56 [Ch.ro 0 (Sl a23 r18.2.1 c24) r18.2.1, Ch.ro 0 (Sl a14 r8.2.1 c15) r8.2.1, Ch.ro n0 (Sl a23 r18.2.1 c24) r18.2.1, Ch.ro n0 (Sl a14 r8.2.1 c15) r8.2.1, Ch.ro 0 (Sl a21 r18.1 c22) r18.1, Ch.ro 0 (Sl a11 r8.1 c12) r8.1, Ch.ro n0 (Sl a21 r18.1 c22) r18.1, Ch.ro n0 (Sl a11 r8.1 c12) r8.1, Ch.own n0 n0 (Sl a5 r2 c6) r2] := H
          replace H : Hp S0 σ0 σ56 [] := H.sel' [] rfl rfl
          refine st (v := (B r53)) (rv_pick_t (congrArg B hb48) rfl) ?_
          refine st (v := (B r53)) (rv_move rfl) ?_
          rcases Bool.eq_false_or_eq_true r53 with hb57 | hb57
          · replace h := bif_t hb57 h
            refine st_g (v := (B r8.2.2)) (congrArg some hb57) (rv_move rfl) ?_
            refine st_g (v := (B r18.2.2)) (congrArg some hb57) (rv_move rfl) ?_
            refine st_g (v := (B (r8.2.2 == r18.2.2))) (congrArg some hb57) (rv_beql Try.underlying4 rfl rfl) ?_
            refine st (v := (B (r8.2.2 == r18.2.2))) (rv_pick_t (congrArg B hb57) rfl) ?_
            refine st (v := (B (r8.2.2 == r18.2.2))) (rv_assign rfl) ?_
            refine w_end ?_
            refine q_then ?_
            refine c_ret ?_
            refine q_then_r ?_
            obtain rfl := Option.some.inj h
            exact fin_ret (v := (B (r8.2.2 == r18.2.2))) (results_ok Try.results3 (res_tmp (v := (B (r8.2.2 == r18.2.2))) rfl res_nil) rfl) ⟨rfl, rfl⟩ (H.sel' [] rfl rfl)
          · replace h := bif_f hb57 h
            refine st_skip (congrArg some hb57) ?_
            refine st_skip (congrArg some hb57) ?_
            refine st_skip (congrArg some hb57) ?_
            refine st (v := (B false)) (rv_pick_f (congrArg B hb57) rfl) ?_
            refine st (v := (B false)) (rv_assign rfl) ?_
            refine w_end ?_
            refine q_then ?_
            refine c_ret ?_
            refine q_then_r ?_
            obtain rfl := Option.some.inj h
            exact fin_ret (v := (B false)) (results_ok Try.results3 (res_tmp (v := (B false)) rfl res_nil) rfl) ⟨rfl, rfl⟩ (H.sel' [] rfl rfl)
        · replace h := bif_f hb48 h
          refine st_skip (congrArg some hb48) ?_
          refine st_skip (congrArg some hb48) ?_
          refine st_skip (congrArg some hb48) ?_
          refine st (v := (B false)) (rv_pick_f (congrArg B hb48) rfl) ?_
          refine st (v := (B false)) (rv_move rfl) ?_
          refine st_skip rfl ?_
          refine st_skip rfl ?_
          refine st_skip rfl ?_
          refine st (v := (B false)) (rv_pick_f rfl rfl) ?_
          refine st (v := (B false)) (rv_assign rfl) ?_
          refine w_end ?_
          refine q_then ?_
          refine c_ret ?_
          refine q_then_r ?_
          obtain rfl := Option.some.inj h
          exact fin_ret (v := (B false)) (results_ok Try.results3 (res_tmp (v := (B false)) rfl res_nil) rfl) ⟨rfl, rfl⟩ (H.sel' [] rfl rfl)
      · replace h := bif_f hb39 h
        refine c_skip ?_
        refine q_then ?_
        refine c_seq ?_
        refine rg ?_
        refine st (v := (Sl a5 r2 c6)) (rv_move rfl) ?_
        refine st (v := (Sl a11 r8.1 c12)) (rv_move rfl) ?_
        refine st (v := (Sl a14 r8.2.1 c15)) (rv_move rfl) ?_
        obtain ⟨r58, hx59, h'⟩ := bind_some h
        clear h
        have h := h'; clear h'
        have hc60 := c_impl_InBox (alist_0 := a5) (clist_0 := c6) (alow_1 := a11) (clow_1 := c12) (ahigh_2 := a14) (chigh_2 := c15) hx59
        have hle := Nat.le_trans hn0 H.size
        refine st_call (cx_lend (Loan.lend (Loan.lend (Loan.lend Loan.nil))) hc60 (ent_f hc60.fn rfl) (show Hp S0 σ0 _ ([Ch.own n0 n0 (Sl a5 r2 c6) r2, Ch.own n0 n0 (Sl a11 r8.1 c12) r8.1, Ch.own n0 n0 (Sl a14 r8.2.1 c15) r8.2.1] ++ ([] ++ [Ch.own n0 n0 (Sl a21 r18.1 c22) r18.1, Ch.own n0 n0 (Sl a23 r18.2.1 c24) r18.2.1])) from (H.sel' [0, 1, 2, 3, 4] rfl rfl)) (by rintro _ _ _ ⟨_, _, rfl, rfl⟩; exact ⟨Ab.ownSc, trivial⟩)) (wanted_none _ rfl _) ?_
        rintro _ σ63 ⟨_, ⟨a61, c62, rfl, rfl⟩, H, -, -⟩
        replace H : Hp S0 σ0 σ63 [Ch.own σ38.size σ38.size (Sl a61 r58 c62) r58, Ch.own n0 n0 (Sl a5 r2 c6) r2, Ch.own n0 n0 (Sl a11 r8.1 c12) r8.1, Ch.own n0 n0 (Sl a14 r8.2.1 c15) r8.2.1, Ch.own n0 n0 (Sl a21 r18.1 c22) r18.1, Ch.own n0 n0 (Sl a23 r18.2.1 c24) r18.2.1] := H
        replace H := H.ownLow 0 n0 n0 rfl hle hle
        clear hle
        replace H : Hp S0 σ0 σ63 [Ch.own n0 n0 (Sl a61 r58 c62) r58, Ch.own n0 n0 (Sl a5 r2 c6) r2, Ch.own n0 n0 (Sl a11 r8.1 c12) r8.1, Ch.own n0 n0 (Sl a14 r8.2.1 c15) r8.2.1, Ch.own n0 n0 (Sl a21 r18.1 c22) r18.1, Ch.own n0 n0 (Sl a23 r18.2.1 c24) r18.2.1] := H
        refine st (v := (I (r58.length : Int))) (rv_len Try.underlying25 rfl) ?_
        refine st (v := (Sl a5 r2 c6)) (rv_move rfl) ?_
        refine st (v := (I (r2.length : Int))) (rv_len Try.underlying23 rfl) ?_
        refine st (v := (B ((r58.length : Int) == (r2.length : Int)))) (rv_eql (a := (r58.length : Int)) (b := (r2.length : Int)) rfl rfl) ?_
        refine st (v := (B ((r58.length : Int) == (r2.length : Int)))) (rv_move rfl) ?_
        rcases Bool.eq_false_or_eq_true ((r58.length : Int) == (r2.length : Int)) with hb64 | hb64
        · replace h := bif_t hb64 h
          refine st_g (v := (Sl a11 r8.1 c12)) (congrArg some hb64) (rv_move rfl) ?_
          obtain ⟨σ65, hw66, H, -⟩ := H.pub 2 rfl (Nat.le_refl _)
          rw [← hw66]; clear hw66
          replace H := H.roLow 0 0 rfl (Nat.zero_le _)
          obtain ⟨r67, hx68, h'⟩ := bind_some h
          clear h
          have h := h'; clear h'
          have hc69 := c_impl_ValidVector (av_0 := a11) (cv_0 := c12) hx68
          refine st_call (cx_call hc69 (ent_f hc69.fn rfl) hn0 (show Hp S0 σ0 _ ([Ch.ro 0 (Sl a11 r8.1 c12) r8.1] ++ [Ch.ro 0 (Sl a11 r8.1 c12) r8.1, Ch.ro n0 (Sl a11 r8.1 c12) r8.1, Ch.own n0 n0 (Sl a61 r58 c62) r58, Ch.own n0 n0 (Sl a5 r2 c6) r2, Ch.own n0 n0 (Sl a14 r8.2.1 c15) r8.2.1, Ch.own n0 n0 (Sl a21 r18.1 c22) r18.1, Ch.own n0 n0 (Sl a23 r18.2.1 c24) r18.2.1]) from (H.sel' [0, 0, 1, 2, 3, 4, 5, 6] rfl rfl))) (wanted_yes rfl (by exact (congrArg some hb64))) ?_
          rintro _ σ70 ⟨_, ⟨rfl, rfl⟩, H, -⟩
          replace H : Hp S0 σ0 σ70 [Ch.ro 0 (Sl a11 r8.1 c12) r8.1, Ch.ro n0 (Sl a11 r8.1 c12) r8.1, Ch.own n0 n0 (Sl a61 r58 c62) r58, Ch.own n0 n0 (Sl a5 r2 c6) r2, Ch.own n0 n0 (Sl a14 r8.2.1 c15) r8.2.1, Ch.own n0 n0 (Sl a21 r18.1 c22) r18.1, Ch.own n0 n0 (Sl a23 r18.2.1 c24) r18.2.1] := H
          refine st (v := (B r67)) (rv_pick_t (congrArg B hb64) rfl) ?_
          refine st (v := (B r67)) (rv_move rfl) ?_
          rcases Bool.eq_false_or_eq_true r67 with hb71 | hb71
          · replace h := bif_t hb71 h
            refine st_g (v := (Sl a14 r8.2.1 c15)) (congrArg some hb71) (rv_move rfl) ?_
            obtain ⟨σ72, hw73, H, -⟩ := H.pub 4 rfl (Nat.le_refl _)
            rw [← hw73]; clear hw73
            replace H := H.roLow 0 0 rfl (Nat.zero_le _)
            obtain ⟨r74, hx75, h'⟩ := bind_some h
            clear h
            have h := h'; clear h'
            have hc76 := c_impl_ValidVector (av_0 := a14) (cv_0 := c15) hx75
            refine st_call (cx_call hc76 (ent_f hc76.fn rfl) hn0 (show Hp S0 σ0 _ ([Ch.ro 0 (Sl a14 r8.2.1 c15) r8.2.1] ++ [Ch.ro 0 (Sl a14 r8.2.1 c15) r8.2.1, Ch.ro n0 (Sl a14 r8.2.1 c15) r8.2.1, Ch.ro 0 (Sl a11 r8.1 c12) r8.1, Ch.ro n0 (Sl a11 r8.1 c12) r8.1, Ch.own n0 n0 (Sl a61 r58 c62) r58, Ch.own n0 n0 (Sl a5 r2 c6) r2, Ch.own n0 n0 (Sl a21 r18.1 c22) r18.1, Ch.own n0 n0 (Sl a23 r18.2.1 c24) r18.2.1]) from (H.sel' [0, 0, 1, 2, 3, 4, 5, 6, 7] rfl rfl))) (wanted_yes rfl (by exact (congrArg some hb71))) ?_
            rintro _ σ77 ⟨_, ⟨rfl, rfl⟩, H, -⟩
            replace H : Hp S0 σ0 σ77 [Ch.ro 0 (Sl a14 r8.2.1 c15) r8.2.1, Ch.ro n0 (Sl a14 r8.2.1 c15) r8.2.1, Ch.ro 0 (Sl a11 r8.1 c12) r8.1, Ch.ro n0 (Sl a11 r8.1 c12) r8.1, Ch.own n0 n0 (Sl a61 r58 c62) r58, Ch.own n0 n0 (Sl a5 r2 c6) r2, Ch.own n0 n0 (Sl a21 r18.1 c22) r18.1, Ch.own n0 n0 (Sl a23 r18.2.1 c24) r18.2.1] := H
            replace H : Hp S0 σ0 σ77 [] := H.sel' [] rfl rfl
            refine st (v := (B r74)) (rv_pick_t (congrArg B hb71) rfl) ?_
            refine st (v := (B r74)) (rv_assign rfl) ?_
            refine w_end ?_
            refine q_then ?_
            refine c_ret ?_
            obtain rfl := Option.some.inj h
            exact fin_ret (v := (B r74)) (results_ok Try.results3 (res_tmp (v := (B r74)) rfl res_nil) rfl) ⟨rfl, rfl⟩ (H.sel' [] rfl rfl)
          · replace h := bif_f hb71 h
            refine st_skip (congrArg some hb71) ?_
            refine st_skip (congrArg some hb71) ?_
            refine st (v := (B false)) (rv_pick_f (congrArg B hb71) rfl) ?_
            refine st (v := (B false)) (rv_assign rfl) ?_
            refine w_end ?_
            refine q_then ?_
            refine c_ret ?_
            obtain rfl := Option.some.inj h
            exact fin_ret (v := (B false)) (results_ok Try.results3 (res_tmp (v := (B false)) rfl res_nil) rfl) ⟨rfl, rfl⟩ (H.sel' [] rfl rfl)
        · replace h := bif_f hb64 h
          refine st_skip (congrArg some hb64) ?_
          refine st_skip (congrArg some hb64) ?_
          refine st (v := (B false)) (rv_pick_f (congrArg B hb64) rfl) ?_
          refine st (v := (B false)) (rv_move rfl) ?_
          refine st_skip rfl ?_
          refine st_skip rfl ?_
          refine st (v := (B false)) (rv_pick_f rfl rfl) ?_
          refine st (v := (B false)) (rv_assign rfl) ?_
          refine w_end ?_
          refine q_then ?_
          refine c_ret ?_
          obtain rfl := Option.some.inj h
          exact fin_ret (v := (B false)) (results_ok Try.results3 (res_tmp (v := (B false)) rfl res_nil) rfl) ⟨rfl, rfl⟩ (H.sel' [] rfl rfl)

end Go.Vs
