/- The functions compute what their models say. -/
import Derived.Test.YtjkpomkijjingaaKBoundsOfPutC3
set_option linter.unusedVariables false
set_option linter.unusedSimpArgs false
set_option maxRecDepth 20000
namespace Go.Vs
open Go Go.Proofs
attribute [local irreducible] Code.wp wpList wpQuiet Calls

theorem c_impl_BoundsOf {list_0 : List (Int × (List Int) × Int)} {alist_0 : Option Addr} {clist_0 : Nat} {r : (List Int) × (List Int) × Bool} (h : M.impl_BoundsOf list_0 = some r) :
    Cal2 Try.prog 28 [(Sl alist_0 list_0 clist_0)] [Ch.ro 0 (Sl alist_0 list_0 clist_0) list_0] (fun n0 v L => ∃ (az1 : Option Addr), ∃ (cz2 : Nat), ∃ (az4 : Option Addr), ∃ (cz5 : Nat), v = (.tuple #[(Sl az1 r.1 cz2), (Sl az4 r.2.1 cz5), (B r.2.2)]) ∧ L = [Ch.own n0 n0 (Sl az1 r.1 cz2) r.1, Ch.own n0 n0 (Sl az4 r.2.1 cz5) r.2.1] ∧ cz2 = r.1.length ∧ cz5 = r.2.1.length) := by
  refine cal2 (n := 64) Try.func28 rfl rfl rfl rfl ?_
  intro S0 σ0 n0 hn0 H
  unfold M.impl_BoundsOf at h
  refine c_seq ?_
  refine rg ?_
  refine st (v := (.slice none 0 0)) (rv_assign rfl) ?_
  refine st (v := (.slice none 0 0)) (rv_assign rfl) ?_
  refine st (v := (B false)) (rv_assign rfl) ?_
  refine w_end ?_
  refine q_then ?_
  refine c_seq ?_
  refine c_seq ?_
  obtain ⟨o1, hj, h'⟩ := bind_some h
  clear h
  refine c_cut (fun e a w => e = .normal ∧ ∃ (ρ : Nat → Value) (σ : St), a = fr 64 (updL ρ [(0, (Sl alist_0 list_0 clist_0)), (18, (B o1))]) ∧ w = σ.w ∧ Hp S0 σ0 σ [Ch.ro 0 (Sl alist_0 list_0 clist_0) list_0]) ?_ ?_
  · clear h'
    rename _ = some o1 => h
    refine rg ?_
    refine st (v := (Sl alist_0 list_0 clist_0)) (rv_move rfl) ?_
    obtain ⟨r2, hx3, h'⟩ := bind_some h
    clear h
    have h := h'; clear h'
    have hc4 := c_impl_ValidStore (alist_0 := alist_0) (clist_0 := clist_0) hx3
    refine st_call (cx_call hc4 (ent_f hc4.fn rfl) hn0 (show Hp S0 σ0 _ ([Ch.ro 0 (Sl alist_0 list_0 clist_0) list_0] ++ [Ch.ro 0 (Sl alist_0 list_0 clist_0) list_0]) from (H.sel' [0, 0] rfl rfl))) (wanted_none _ rfl _) ?_
    rintro _ σ5 ⟨_, ⟨rfl, rfl⟩, H, -⟩
    replace H : Hp S0 σ0 σ5 [Ch.ro 0 (Sl alist_0 list_0 clist_0) list_0] := H
    refine st (v := (B (!r2))) (rv_not rfl) ?_
    refine st (v := (B (!r2))) (rv_move rfl) ?_
    rcases Bool.eq_false_or_eq_true (!r2) with hb6 | hb6
    · replace h := bif_t hb6 h
      refine st_skip (congrArg some hb6) ?_
      refine st_skip (congrArg some hb6) ?_
      refine st_skip (congrArg some hb6) ?_
      refine st (v := (B true)) (rv_pick_t (congrArg B hb6) rfl) ?_
      refine w_end ?_
      obtain rfl := Option.some.inj h
      exact ⟨rfl, _, σ5, fr_join ⟨rfl, rfl, trivial⟩, rfl, H.sel' [0] rfl rfl⟩
    · replace h := bif_f hb6 h
      refine st_g (v := (Sl alist_0 list_0 clist_0)) (congrArg some hb6) (rv_move rfl) ?_
      refine st_g (v := (I (list_0.length : Int))) (congrArg some hb6) (rv_len Try.underlying23 rfl) ?_
      refine st_g (v := (B ((list_0.length : Int) == 0))) (congrArg some hb6) (rv_eql (a := (list_0.length : Int)) (b := 0) rfl rfl) ?_
      refine st (v := (B ((list_0.length : Int) == 0))) (rv_pick_f (congrArg B hb6) rfl) ?_
      refine w_end ?_
      obtain rfl := Option.some.inj h
      exact ⟨rfl, _, σ5, fr_join ⟨rfl, rfl, trivial⟩, rfl, H.sel' [0] rfl rfl⟩
  · clear hj
    have h := h'
    clear h' H
    rintro e a w ⟨rfl, ρ, σ7, rfl, rfl, H⟩
    refine q_then ?_
    refine cd_cond o1 rfl (fun hb8 => ?_) (fun hb8 => ?_)
    · replace h := bif_t hb8 h
      refine c_seq ?_
      refine rg ?_
      refine st (v := (.slice none 0 0)) (rv_assign rfl) ?_
      refine st (v := (.slice none 0 0)) (rv_assign rfl) ?_
      refine st (v := (B false)) (rv_assign rfl) ?_
      refine w_end ?_
      refine q_then ?_
      refine c_ret ?_
      refine q_then_r ?_
      replace H := H.nilOwn Int n0 n0
      replace H := H.nilOwn Int n0 n0
      obtain rfl := Option.some.inj h
      exact fin_ret (v := (.tuple #[(.slice none 0 0), (.slice none 0 0), (B false)])) (results_ok Try.results28 (res_tmp (v := (.slice none 0 0)) rfl (res_tmp (v := (.slice none 0 0)) rfl (res_tmp (v := (B false)) rfl res_nil))) rfl) ⟨none, 0, none, 0, rfl, rfl, rfl, rfl⟩ (H.sel' [1, 0] rfl rfl)
    · replace h := bif_f hb8 h
      refine c_skip ?_
      refine q_then ?_
      refine c_seq ?_
      obtain ⟨x9, hx10, h'⟩ := bind_some h
      clear h
      have h := h'; clear h'
      obtain ⟨b12, o13, hi11, -⟩ := (H.ro 0 rfl).ix hx10
      obtain ⟨v17, hc18, hR16⟩ := ((H.ro 0 rfl).at hx10 hi11).snd.fst.slice
      obtain ⟨a14, c15, rfl⟩ := hR16.isSl
      replace H := H.add (d := Ch.ro 0 (Sl a14 x9.2.1 c15) x9.2.1) hR16 (fun _ h => h)
      clear hR16
      obtain ⟨xs19, hx20, h'⟩ := bind_some h
      clear h
      have h := h'; clear h'
      obtain ⟨hl24, hq25⟩ := garr_some hx20
      clear hx20 hq25
      obtain ⟨b21, o22, rfl, hc23⟩ := (H.ro 0 rfl).arr (Nat.lt_of_lt_of_le (by decide) hl24)
      obtain ⟨x26, hx27, h'⟩ := bind_some h
      clear h
      have h := h'; clear h'
      obtain ⟨b29, o30, hi28, -⟩ := (H.ro 1 rfl).ix hx27
      obtain ⟨v34, hc35, hR33⟩ := ((H.ro 1 rfl).at hx27 hi28).snd.fst.slice
      obtain ⟨a31, c32, rfl⟩ := hR33.isSl
      replace H := H.add (d := Ch.ro 0 (Sl a31 x26.2.1 c32) x26.2.1) hR33 (fun _ h => h)
      clear hR33
      obtain ⟨xs36, hx37, h'⟩ := bind_some h
      clear h
      have h := h'; clear h'
      obtain ⟨hl41, hq42⟩ := garr_some hx37
      clear hx37 hq42
      obtain ⟨b38, o39, rfl, hc40⟩ := (H.ro 0 rfl).arr (Nat.lt_of_lt_of_le (by decide) hl41)
      have Hs := H
      refine rg2 (σ := σ7) (Nm := (Nat) × (Nat)) 14 [12, 13] [[false, false], [true, false], [false, true], [true, true]] [[(0, 0), (1, 1), (2, 2), (3, 3)], [(0, 0), (1, 1), (2, 2), (3, 3)], [(0, 0), (1, 1), (2, 2), (3, 3)], [(0, 0), (1, 1), (2, 2), (3, 3)], [(0, 0), (1, 1), (2, 2), (3, 3)], [(0, 0), (1, 1), (2, 2), (3, 3)], [(0, 0), (1, 1), (2, 2), (3, 3)], [(0, 0), (1, 1), (2, 2), (3, 3)], [(0, 0), (1, 1), (2, 2), (3, 3)], [(0, 0), (1, 1), (2, 2), (3, 3)], [(0, 0), (1, 1), (2, 2), (3, 3)], [(0, 0), (1, 1), (2, 2), (3, 3)], [(0, 1), (2, 3)], [(0, 2), (1, 3)]] 3 [fun ((b43, b44) : (Nat) × (Nat)) => fun σm => Hp S0 σ0 σm [Ch.ro 0 (Sl (some ⟨b38, o39, none⟩) x26.2.1 c32) x26.2.1, Ch.ro 0 (Sl (some ⟨b21, o22, none⟩) x9.2.1 c15) x9.2.1, Ch.ro 0 (Sl alist_0 list_0 clist_0) list_0] ∧ Md (cov []) σ7 σm, fun ((b43, b44) : (Nat) × (Nat)) => fun σm => Hp S0 σ0 σm [Ch.bx n0 b43 0 (List.map I (List.replicate 4 0)) [] [], Ch.ro 0 (Sl (some ⟨b38, o39, none⟩) x26.2.1 c32) x26.2.1, Ch.ro 0 (Sl (some ⟨b21, o22, none⟩) x9.2.1 c15) x9.2.1, Ch.ro 0 (Sl alist_0 list_0 clist_0) list_0] ∧ Md (cov []) σ7 σm, fun ((b43, b44) : (Nat) × (Nat)) => fun σm => Hp S0 σ0 σm [Ch.bx n0 b44 0 (List.map I (List.replicate 4 0)) [] [], Ch.ro 0 (Sl (some ⟨b38, o39, none⟩) x26.2.1 c32) x26.2.1, Ch.ro 0 (Sl (some ⟨b21, o22, none⟩) x9.2.1 c15) x9.2.1, Ch.ro 0 (Sl alist_0 list_0 clist_0) list_0] ∧ Md (cov []) σ7 σm, fun ((b43, b44) : (Nat) × (Nat)) => fun σm => Hp S0 σ0 σm [Ch.bx n0 b44 0 (List.map I (List.replicate 4 0)) [] [], Ch.bx n0 b43 0 (List.map I (List.replicate 4 0)) [] [], Ch.ro 0 (Sl (some ⟨b38, o39, none⟩) x26.2.1 c32) x26.2.1, Ch.ro 0 (Sl (some ⟨b21, o22, none⟩) x9.2.1 c15) x9.2.1, Ch.ro 0 (Sl alist_0 list_0 clist_0) list_0] ∧ Md (cov []) σ7 σm] [fun ((b43, b44) : (Nat) × (Nat)) => (Sl alist_0 list_0 clist_0), fun ((b43, b44) : (Nat) × (Nat)) => (pt b12 o13), fun ((b43, b44) : (Nat) × (Nat)) => (pt b12 (o13 + 1)), fun ((b43, b44) : (Nat) × (Nat)) => (Sl (some ⟨b21, o22, none⟩) x9.2.1 c15), fun ((b43, b44) : (Nat) × (Nat)) => (.pointer (some ⟨b21, o22, none⟩)), fun ((b43, b44) : (Nat) × (Nat)) => (.agg (List.map I (List.take 4 x9.2.1)).toArray), fun ((b43, b44) : (Nat) × (Nat)) => (Sl alist_0 list_0 clist_0), fun ((b43, b44) : (Nat) × (Nat)) => (pt b29 o30), fun ((b43, b44) : (Nat) × (Nat)) => (pt b29 (o30 + 1)), fun ((b43, b44) : (Nat) × (Nat)) => (Sl (some ⟨b38, o39, none⟩) x26.2.1 c32), fun ((b43, b44) : (Nat) × (Nat)) => (.pointer (some ⟨b38, o39, none⟩)), fun ((b43, b44) : (Nat) × (Nat)) => (.agg (List.map I (List.take 4 x26.2.1)).toArray), fun ((b43, b44) : (Nat) × (Nat)) => (pt b43 0), fun ((b43, b44) : (Nat) × (Nat)) => (pt b44 0)] (0, 0) (by kernel_rfl) (by kernel_rfl) ?_ ?_ ?_
      · intro σm m0
        exact ⟨H.grow (m0.mono fun _ h => h.elim), m0⟩
      · refine all_cons (obs_v rfl (by
            intro k; rintro ⟨b43, b44⟩ ρ σm hJ hoff hdep
            have e0 : look 64 ρ 0 = (Sl alist_0 list_0 clist_0) := look_off (hoff 0 rfl) rfl
            exact dp_v (v := (Sl alist_0 list_0 clist_0)) (wanted_none _ rfl _) (rv_move e0) rfl hJ)) ?_
        refine all_cons (obs_v rfl (by
            intro k; rintro ⟨b43, b44⟩ ρ σm hJ hoff hdep
            have e19 : look 64 ρ 19 = (Sl alist_0 list_0 clist_0) := hdep 0 rfl rfl 19 rfl
            exact dp_v (v := (pt b12 o13)) (wanted_none _ rfl _) (rv_ix Try.underlying23 ti29 e19 rfl hi11) rfl hJ)) ?_
        refine all_cons (obs_v rfl (by
            intro k; rintro ⟨b43, b44⟩ ρ σm hJ hoff hdep
            have e20 : look 64 ρ 20 = (pt b12 o13) := hdep 1 rfl rfl 20 rfl
            exact dp_v (v := (pt b12 (o13 + 1))) (wanted_none _ rfl _) (rv_fieldAddr (off := 1) (ft := 27) Try.underlying29 rfl ti27 rfl e20) rfl hJ)) ?_
        refine all_cons (by
            refine ⟨?_, ?_⟩
            · rintro ⟨b43, b44⟩ ρ σm hJ hoff hdep
              have e21 : look 64 ρ 21 = (pt b12 (o13 + 1)) := hdep 2 rfl rfl 21 rfl
              obtain ⟨H, m⟩ := (show Hp S0 σ0 σm [Ch.ro 0 (Sl (some ⟨b38, o39, none⟩) x26.2.1 c32) x26.2.1, Ch.ro 0 (Sl (some ⟨b21, o22, none⟩) x9.2.1 c15) x9.2.1, Ch.ro 0 (Sl alist_0 list_0 clist_0) list_0] ∧ Md (cov []) σ7 σm from hJ)
              replace hc18 := (Hs.ro 2 rfl).hmd hx10 hi11 (k := 1) (by decide) hc18 m
              exact dp_v (v := (Sl (some ⟨b21, o22, none⟩) x9.2.1 c15)) (wanted_none _ rfl _) (rv_load1 Try.underlying27 rfl e21 hc18) rfl hJ
            refine ⟨?_, ?_⟩
            · rintro ⟨b43, b44⟩ ρ σm hJ hoff hdep
              have e21 : look 64 ρ 21 = (pt b12 (o13 + 1)) := hdep 2 rfl rfl 21 rfl
              obtain ⟨H, m⟩ := (show Hp S0 σ0 σm [Ch.bx n0 b43 0 (List.map I (List.replicate 4 0)) [] [], Ch.ro 0 (Sl (some ⟨b38, o39, none⟩) x26.2.1 c32) x26.2.1, Ch.ro 0 (Sl (some ⟨b21, o22, none⟩) x9.2.1 c15) x9.2.1, Ch.ro 0 (Sl alist_0 list_0 clist_0) list_0] ∧ Md (cov []) σ7 σm from hJ)
              replace hc18 := (Hs.ro 2 rfl).hmd hx10 hi11 (k := 1) (by decide) hc18 m
              exact dp_v (v := (Sl (some ⟨b21, o22, none⟩) x9.2.1 c15)) (wanted_none _ rfl _) (rv_load1 Try.underlying27 rfl e21 hc18) rfl hJ
            refine ⟨?_, ?_⟩
            · rintro ⟨b43, b44⟩ ρ σm hJ hoff hdep
              have e21 : look 64 ρ 21 = (pt b12 (o13 + 1)) := hdep 2 rfl rfl 21 rfl
              obtain ⟨H, m⟩ := (show Hp S0 σ0 σm [Ch.bx n0 b44 0 (List.map I (List.replicate 4 0)) [] [], Ch.ro 0 (Sl (some ⟨b38, o39, none⟩) x26.2.1 c32) x26.2.1, Ch.ro 0 (Sl (some ⟨b21, o22, none⟩) x9.2.1 c15) x9.2.1, Ch.ro 0 (Sl alist_0 list_0 clist_0) list_0] ∧ Md (cov []) σ7 σm from hJ)
              replace hc18 := (Hs.ro 2 rfl).hmd hx10 hi11 (k := 1) (by decide) hc18 m
              exact dp_v (v := (Sl (some ⟨b21, o22, none⟩) x9.2.1 c15)) (wanted_none _ rfl _) (rv_load1 Try.underlying27 rfl e21 hc18) rfl hJ
            refine ⟨?_, ?_⟩
            · rintro ⟨b43, b44⟩ ρ σm hJ hoff hdep
              have e21 : look 64 ρ 21 = (pt b12 (o13 + 1)) := hdep 2 rfl rfl 21 rfl
              obtain ⟨H, m⟩ := (show Hp S0 σ0 σm [Ch.bx n0 b44 0 (List.map I (List.replicate 4 0)) [] [], Ch.bx n0 b43 0 (List.map I (List.replicate 4 0)) [] [], Ch.ro 0 (Sl (some ⟨b38, o39, none⟩) x26.2.1 c32) x26.2.1, Ch.ro 0 (Sl (some ⟨b21, o22, none⟩) x9.2.1 c15) x9.2.1, Ch.ro 0 (Sl alist_0 list_0 clist_0) list_0] ∧ Md (cov []) σ7 σm from hJ)
              replace hc18 := (Hs.ro 2 rfl).hmd hx10 hi11 (k := 1) (by decide) hc18 m
              exact dp_v (v := (Sl (some ⟨b21, o22, none⟩) x9.2.1 c15)) (wanted_none _ rfl _) (rv_load1 Try.underlying27 rfl e21 hc18) rfl hJ
            trivial) ?_
        refine all_cons (obs_v rfl (by
            intro k; rintro ⟨b43, b44⟩ ρ σm hJ hoff hdep
            have e22 : look 64 ρ 22 = (Sl (some ⟨b21, o22, none⟩) x9.2.1 c15) := hdep 3 rfl rfl 22 rfl
            exact dp_v (v := (.pointer (some ⟨b21, o22, none⟩))) (wanted_none _ rfl _) (rv_arrPtr Try.underlying59 e22 hl24) rfl hJ)) ?_
        refine all_cons (by
            refine ⟨?_, ?_⟩
            · rintro ⟨b43, b44⟩ ρ σm hJ hoff hdep
              have e23 : look 64 ρ 23 = (.pointer (some ⟨b21, o22, none⟩)) := hdep 4 rfl rfl 23 rfl
              obtain ⟨H, m⟩ := (show Hp S0 σ0 σm [Ch.ro 0 (Sl (some ⟨b38, o39, none⟩) x26.2.1 c32) x26.2.1, Ch.ro 0 (Sl (some ⟨b21, o22, none⟩) x9.2.1 c15) x9.2.1, Ch.ro 0 (Sl alist_0 list_0 clist_0) list_0] ∧ Md (cov []) σ7 σm from hJ)
              replace hc23 := (Hs.ro 1 rfl).arr_md hc23 m
              exact dp_v (v := (.agg (List.map I (List.take 4 x9.2.1)).toArray)) (wanted_none _ rfl _) (rv_load (cs := List.map I (List.take 4 x9.2.1)) Try.underlying59 rfl ti59 e23 (by rw [List.length_map, List.length_take]; have := hl24; omega) (arr_take hc23)) rfl hJ
            refine ⟨?_, ?_⟩
            · rintro ⟨b43, b44⟩ ρ σm hJ hoff hdep
              have e23 : look 64 ρ 23 = (.pointer (some ⟨b21, o22, none⟩)) := hdep 4 rfl rfl 23 rfl
              obtain ⟨H, m⟩ := (show Hp S0 σ0 σm [Ch.bx n0 b43 0 (List.map I (List.replicate 4 0)) [] [], Ch.ro 0 (Sl (some ⟨b38, o39, none⟩) x26.2.1 c32) x26.2.1, Ch.ro 0 (Sl (some ⟨b21, o22, none⟩) x9.2.1 c15) x9.2.1, Ch.ro 0 (Sl alist_0 list_0 clist_0) list_0] ∧ Md (cov []) σ7 σm from hJ)
              replace hc23 := (Hs.ro 1 rfl).arr_md hc23 m
              exact dp_v (v := (.agg (List.map I (List.take 4 x9.2.1)).toArray)) (wanted_none _ rfl _) (rv_load (cs := List.map I (List.take 4 x9.2.1)) Try.underlying59 rfl ti59 e23 (by rw [List.length_map, List.length_take]; have := hl24; omega) (arr_take hc23)) rfl hJ
            refine ⟨?_, ?_⟩
            · rintro ⟨b43, b44⟩ ρ σm hJ hoff hdep
              have e23 : look 64 ρ 23 = (.pointer (some ⟨b21, o22, none⟩)) := hdep 4 rfl rfl 23 rfl
              obtain ⟨H, m⟩ := (show Hp S0 σ0 σm [Ch.bx n0 b44 0 (List.map I (List.replicate 4 0)) [] [], Ch.ro 0 (Sl (some ⟨b38, o39, none⟩) x26.2.1 c32) x26.2.1, Ch.ro 0 (Sl (some ⟨b21, o22, none⟩) x9.2.1 c15) x9.2.1, Ch.ro 0 (Sl alist_0 list_0 clist_0) list_0] ∧ Md (cov []) σ7 σm from hJ)
              replace hc23 := (Hs.ro 1 rfl).arr_md hc23 m
              exact dp_v (v := (.agg (List.map I (List.take 4 x9.2.1)).toArray)) (wanted_none _ rfl _) (rv_load (cs := List.map I (List.take 4 x9.2.1)) Try.underlying59 rfl ti59 e23 (by rw [List.length_map, List.length_take]; have := hl24; omega) (arr_take hc23)) rfl hJ
            refine ⟨?_, ?_⟩
            · rintro ⟨b43, b44⟩ ρ σm hJ hoff hdep
              have e23 : look 64 ρ 23 = (.pointer (some ⟨b21, o22, none⟩)) := hdep 4 rfl rfl 23 rfl
              obtain ⟨H, m⟩ := (show Hp S0 σ0 σm [Ch.bx n0 b44 0 (List.map I (List.replicate 4 0)) [] [], Ch.bx n0 b43 0 (List.map I (List.replicate 4 0)) [] [], Ch.ro 0 (Sl (some ⟨b38, o39, none⟩) x26.2.1 c32) x26.2.1, Ch.ro 0 (Sl (some ⟨b21, o22, none⟩) x9.2.1 c15) x9.2.1, Ch.ro 0 (Sl alist_0 list_0 clist_0) list_0] ∧ Md (cov []) σ7 σm from hJ)
              replace hc23 := (Hs.ro 1 rfl).arr_md hc23 m
              exact dp_v (v := (.agg (List.map I (List.take 4 x9.2.1)).toArray)) (wanted_none _ rfl _) (rv_load (cs := List.map I (List.take 4 x9.2.1)) Try.underlying59 rfl ti59 e23 (by rw [List.length_map, List.length_take]; have := hl24; omega) (arr_take hc23)) rfl hJ
            trivial) ?_
        refine all_cons (obs_v rfl (by
            intro k; rintro ⟨b43, b44⟩ ρ σm hJ hoff hdep
            have e0 : look 64 ρ 0 = (Sl alist_0 list_0 clist_0) := look_off (hoff 0 rfl) rfl
            exact dp_v (v := (Sl alist_0 list_0 clist_0)) (wanted_none _ rfl _) (rv_move e0) rfl hJ)) ?_
        refine all_cons (obs_v rfl (by
            intro k; rintro ⟨b43, b44⟩ ρ σm hJ hoff hdep
            have e25 : look 64 ρ 25 = (Sl alist_0 list_0 clist_0) := hdep 6 rfl rfl 25 rfl
            exact dp_v (v := (pt b29 o30)) (wanted_none _ rfl _) (rv_ix Try.underlying23 ti29 e25 rfl hi28) rfl hJ)) ?_
        refine all_cons (obs_v rfl (by
            intro k; rintro ⟨b43, b44⟩ ρ σm hJ hoff hdep
            have e26 : look 64 ρ 26 = (pt b29 o30) := hdep 7 rfl rfl 26 rfl
            exact dp_v (v := (pt b29 (o30 + 1))) (wanted_none _ rfl _) (rv_fieldAddr (off := 1) (ft := 27) Try.underlying29 rfl ti27 rfl e26) rfl hJ)) ?_
        refine all_cons (by
            refine ⟨?_, ?_⟩
            · rintro ⟨b43, b44⟩ ρ σm hJ hoff hdep
              have e27 : look 64 ρ 27 = (pt b29 (o30 + 1)) := hdep 8 rfl rfl 27 rfl
              obtain ⟨H, m⟩ := (show Hp S0 σ0 σm [Ch.ro 0 (Sl (some ⟨b38, o39, none⟩) x26.2.1 c32) x26.2.1, Ch.ro 0 (Sl (some ⟨b21, o22, none⟩) x9.2.1 c15) x9.2.1, Ch.ro 0 (Sl alist_0 list_0 clist_0) list_0] ∧ Md (cov []) σ7 σm from hJ)
              replace hc35 := (Hs.ro 2 rfl).hmd hx27 hi28 (k := 1) (by decide) hc35 m
              exact dp_v (v := (Sl (some ⟨b38, o39, none⟩) x26.2.1 c32)) (wanted_none _ rfl _) (rv_load1 Try.underlying27 rfl e27 hc35) rfl hJ
            refine ⟨?_, ?_⟩
            · rintro ⟨b43, b44⟩ ρ σm hJ hoff hdep
              have e27 : look 64 ρ 27 = (pt b29 (o30 + 1)) := hdep 8 rfl rfl 27 rfl
              obtain ⟨H, m⟩ := (show Hp S0 σ0 σm [Ch.bx n0 b43 0 (List.map I (List.replicate 4 0)) [] [], Ch.ro 0 (Sl (some ⟨b38, o39, none⟩) x26.2.1 c32) x26.2.1, Ch.ro 0 (Sl (some ⟨b21, o22, none⟩) x9.2.1 c15) x9.2.1, Ch.ro 0 (Sl alist_0 list_0 clist_0) list_0] ∧ Md (cov []) σ7 σm from hJ)
              replace hc35 := (Hs.ro 2 rfl).hmd hx27 hi28 (k := 1) (by decide) hc35 m
              exact dp_v (v := (Sl (some ⟨b38, o39, none⟩) x26.2.1 c32)) (wanted_none _ rfl _) (rv_load1 Try.underlying27 rfl e27 hc35) rfl hJ
            refine ⟨?_, ?_⟩
            · rintro ⟨b43, b44⟩ ρ σm hJ hoff hdep
              have e27 : look 64 ρ 27 = (pt b29 (o30 + 1)) := hdep 8 rfl rfl 27 rfl
              obtain ⟨H, m⟩ := (show Hp S0 σ0 σm [Ch.bx n0 b44 0 (List.map I (List.replicate 4 0)) [] [], Ch.ro 0 (Sl (some ⟨b38, o39, none⟩) x26.2.1 c32) x26.2.1, Ch.ro 0 (Sl (some ⟨b21, o22, none⟩) x9.2.1 c15) x9.2.1, Ch.ro 0 (Sl alist_0 list_0 clist_0) list_0] ∧ Md (cov []) σ7 σm from hJ)
              replace hc35 := (Hs.ro 2 rfl).hmd hx27 hi28 (k := 1) (by decide) hc35 m
              exact dp_v (v := (Sl (some ⟨b38, o39, none⟩) x26.2.1 c32)) (wanted_none _ rfl _) (rv_load1 Try.underlying27 rfl e27 hc35) rfl hJ
            refine ⟨?_, ?_⟩
            · rintro ⟨b43, b44⟩ ρ σm hJ hoff hdep
              have e27 : look 64 ρ 27 = (pt b29 (o30 + 1)) := hdep 8 rfl rfl 27 rfl
              obtain ⟨H, m⟩ := (show Hp S0 σ0 σm [Ch.bx n0 b44 0 (List.map I (List.replicate 4 0)) [] [], Ch.bx n0 b43 0 (List.map I (List.replicate 4 0)) [] [], Ch.ro 0 (Sl (some ⟨b38, o39, none⟩) x26.2.1 c32) x26.2.1, Ch.ro 0 (Sl (some ⟨b21, o22, none⟩) x9.2.1 c15) x9.2.1, Ch.ro 0 (Sl alist_0 list_0 clist_0) list_0] ∧ Md (cov []) σ7 σm from hJ)
              replace hc35 := (Hs.ro 2 rfl).hmd hx27 hi28 (k := 1) (by decide) hc35 m
              exact dp_v (v := (Sl (some ⟨b38, o39, none⟩) x26.2.1 c32)) (wanted_none _ rfl _) (rv_load1 Try.underlying27 rfl e27 hc35) rfl hJ
            trivial) ?_
        refine all_cons (obs_v rfl (by
            intro k; rintro ⟨b43, b44⟩ ρ σm hJ hoff hdep
            have e28 : look 64 ρ 28 = (Sl (some ⟨b38, o39, none⟩) x26.2.1 c32) := hdep 9 rfl rfl 28 rfl
            exact dp_v (v := (.pointer (some ⟨b38, o39, none⟩))) (wanted_none _ rfl _) (rv_arrPtr Try.underlying59 e28 hl41) rfl hJ)) ?_
        refine all_cons (by
            refine ⟨?_, ?_⟩
            · rintro ⟨b43, b44⟩ ρ σm hJ hoff hdep
              have e29 : look 64 ρ 29 = (.pointer (some ⟨b38, o39, none⟩)) := hdep 10 rfl rfl 29 rfl
              obtain ⟨H, m⟩ := (show Hp S0 σ0 σm [Ch.ro 0 (Sl (some ⟨b38, o39, none⟩) x26.2.1 c32) x26.2.1, Ch.ro 0 (Sl (some ⟨b21, o22, none⟩) x9.2.1 c15) x9.2.1, Ch.ro 0 (Sl alist_0 list_0 clist_0) list_0] ∧ Md (cov []) σ7 σm from hJ)
              replace hc40 := (Hs.ro 0 rfl).arr_md hc40 m
              exact dp_v (v := (.agg (List.map I (List.take 4 x26.2.1)).toArray)) (wanted_none _ rfl _) (rv_load (cs := List.map I (List.take 4 x26.2.1)) Try.underlying59 rfl ti59 e29 (by rw [List.length_map, List.length_take]; have := hl41; omega) (arr_take hc40)) rfl hJ
            refine ⟨?_, ?_⟩
            · rintro ⟨b43, b44⟩ ρ σm hJ hoff hdep
              have e29 : look 64 ρ 29 = (.pointer (some ⟨b38, o39, none⟩)) := hdep 10 rfl rfl 29 rfl
              obtain ⟨H, m⟩ := (show Hp S0 σ0 σm [Ch.bx n0 b43 0 (List.map I (List.replicate 4 0)) [] [], Ch.ro 0 (Sl (some ⟨b38, o39, none⟩) x26.2.1 c32) x26.2.1, Ch.ro 0 (Sl (some ⟨b21, o22, none⟩) x9.2.1 c15) x9.2.1, Ch.ro 0 (Sl alist_0 list_0 clist_0) list_0] ∧ Md (cov []) σ7 σm from hJ)
              replace hc40 := (Hs.ro 0 rfl).arr_md hc40 m
              exact dp_v (v := (.agg (List.map I (List.take 4 x26.2.1)).toArray)) (wanted_none _ rfl _) (rv_load (cs := List.map I (List.take 4 x26.2.1)) Try.underlying59 rfl ti59 e29 (by rw [List.length_map, List.length_take]; have := hl41; omega) (arr_take hc40)) rfl hJ
            refine ⟨?_, ?_⟩
            · rintro ⟨b43, b44⟩ ρ σm hJ hoff hdep
              have e29 : look 64 ρ 29 = (.pointer (some ⟨b38, o39, none⟩)) := hdep 10 rfl rfl 29 rfl
              obtain ⟨H, m⟩ := (show Hp S0 σ0 σm [Ch.bx n0 b44 0 (List.map I (List.replicate 4 0)) [] [], Ch.ro 0 (Sl (some ⟨b38, o39, none⟩) x26.2.1 c32) x26.2.1, Ch.ro 0 (Sl (some ⟨b21, o22, none⟩) x9.2.1 c15) x9.2.1, Ch.ro 0 (Sl alist_0 list_0 clist_0) list_0] ∧ Md (cov []) σ7 σm from hJ)
              replace hc40 := (Hs.ro 0 rfl).arr_md hc40 m
              exact dp_v (v := (.agg (List.map I (List.take 4 x26.2.1)).toArray)) (wanted_none _ rfl _) (rv_load (cs := List.map I (List.take 4 x26.2.1)) Try.underlying59 rfl ti59 e29 (by rw [List.length_map, List.length_take]; have := hl41; omega) (arr_take hc40)) rfl hJ
            refine ⟨?_, ?_⟩
            · rintro ⟨b43, b44⟩ ρ σm hJ hoff hdep
              have e29 : look 64 ρ 29 = (.pointer (some ⟨b38, o39, none⟩)) := hdep 10 rfl rfl 29 rfl
              obtain ⟨H, m⟩ := (show Hp S0 σ0 σm [Ch.bx n0 b44 0 (List.map I (List.replicate 4 0)) [] [], Ch.bx n0 b43 0 (List.map I (List.replicate 4 0)) [] [], Ch.ro 0 (Sl (some ⟨b38, o39, none⟩) x26.2.1 c32) x26.2.1, Ch.ro 0 (Sl (some ⟨b21, o22, none⟩) x9.2.1 c15) x9.2.1, Ch.ro 0 (Sl alist_0 list_0 clist_0) list_0] ∧ Md (cov []) σ7 σm from hJ)
              replace hc40 := (Hs.ro 0 rfl).arr_md hc40 m
              exact dp_v (v := (.agg (List.map I (List.take 4 x26.2.1)).toArray)) (wanted_none _ rfl _) (rv_load (cs := List.map I (List.take 4 x26.2.1)) Try.underlying59 rfl ti59 e29 (by rw [List.length_map, List.length_take]; have := hl41; omega) (arr_take hc40)) rfl hJ
            trivial) ?_
        refine all_cons (by
            refine ⟨?_, ?_⟩
            · rintro ⟨b43, b44⟩ ρ σm hJ hoff hdep
              obtain ⟨H, m⟩ := (show Hp S0 σ0 σm [Ch.ro 0 (Sl (some ⟨b38, o39, none⟩) x26.2.1 c32) x26.2.1, Ch.ro 0 (Sl (some ⟨b21, o22, none⟩) x9.2.1 c15) x9.2.1, Ch.ro 0 (Sl alist_0 list_0 clist_0) list_0] ∧ Md (cov []) σ7 σm from hJ)
              refine dp_ex (wanted_none _ rfl _) (ex_alloc (cs := (List.map I (List.replicate 4 0))) H hn0 ti59 rfl) ?_
              rintro _ σq ⟨b43x, rfl, H2, m2⟩
              exact ⟨_, (b43x, b44), rfl, rfl, ⟨H2.sel' [0, 1, 2, 3] rfl rfl, m.comp0 m2⟩, stab [0, 1, 2, 3, 4, 5, 6, 7, 8, 9, 10, 11, 13] (by kernel_rfl) ⟨rfl, rfl, rfl, rfl, rfl, rfl, rfl, rfl, rfl, rfl, rfl, rfl, rfl, trivial⟩⟩
            refine ⟨?_, ?_⟩
            · rintro ⟨b43, b44⟩ ρ σm hJ hoff hdep
              obtain ⟨H, m⟩ := (show Hp S0 σ0 σm [Ch.bx n0 b44 0 (List.map I (List.replicate 4 0)) [] [], Ch.ro 0 (Sl (some ⟨b38, o39, none⟩) x26.2.1 c32) x26.2.1, Ch.ro 0 (Sl (some ⟨b21, o22, none⟩) x9.2.1 c15) x9.2.1, Ch.ro 0 (Sl alist_0 list_0 clist_0) list_0] ∧ Md (cov []) σ7 σm from hJ)
              refine dp_ex (wanted_none _ rfl _) (ex_alloc (cs := (List.map I (List.replicate 4 0))) H hn0 ti59 rfl) ?_
              rintro _ σq ⟨b43x, rfl, H2, m2⟩
              exact ⟨_, (b43x, b44), rfl, rfl, ⟨H2.sel' [1, 0, 2, 3, 4] rfl rfl, m.comp0 m2⟩, stab [0, 1, 2, 3, 4, 5, 6, 7, 8, 9, 10, 11, 13] (by kernel_rfl) ⟨rfl, rfl, rfl, rfl, rfl, rfl, rfl, rfl, rfl, rfl, rfl, rfl, rfl, trivial⟩⟩
            trivial) ?_
        refine all_cons (by
            refine ⟨?_, ?_⟩
            · rintro ⟨b43, b44⟩ ρ σm hJ hoff hdep
              obtain ⟨H, m⟩ := (show Hp S0 σ0 σm [Ch.ro 0 (Sl (some ⟨b38, o39, none⟩) x26.2.1 c32) x26.2.1, Ch.ro 0 (Sl (some ⟨b21, o22, none⟩) x9.2.1 c15) x9.2.1, Ch.ro 0 (Sl alist_0 list_0 clist_0) list_0] ∧ Md (cov []) σ7 σm from hJ)
              refine dp_ex (wanted_none _ rfl _) (ex_alloc (cs := (List.map I (List.replicate 4 0))) H hn0 ti59 rfl) ?_
              rintro _ σq ⟨b44x, rfl, H2, m2⟩
              exact ⟨_, (b43, b44x), rfl, rfl, ⟨H2.sel' [0, 1, 2, 3] rfl rfl, m.comp0 m2⟩, stab [0, 1, 2, 3, 4, 5, 6, 7, 8, 9, 10, 11, 12] (by kernel_rfl) ⟨rfl, rfl, rfl, rfl, rfl, rfl, rfl, rfl, rfl, rfl, rfl, rfl, rfl, trivial⟩⟩
            refine ⟨?_, ?_⟩
            · rintro ⟨b43, b44⟩ ρ σm hJ hoff hdep
              obtain ⟨H, m⟩ := (show Hp S0 σ0 σm [Ch.bx n0 b43 0 (List.map I (List.replicate 4 0)) [] [], Ch.ro 0 (Sl (some ⟨b38, o39, none⟩) x26.2.1 c32) x26.2.1, Ch.ro 0 (Sl (some ⟨b21, o22, none⟩) x9.2.1 c15) x9.2.1, Ch.ro 0 (Sl alist_0 list_0 clist_0) list_0] ∧ Md (cov []) σ7 σm from hJ)
              refine dp_ex (wanted_none _ rfl _) (ex_alloc (cs := (List.map I (List.replicate 4 0))) H hn0 ti59 rfl) ?_
              rintro _ σq ⟨b44x, rfl, H2, m2⟩
              exact ⟨_, (b43, b44x), rfl, rfl, ⟨H2.sel' [0, 1, 2, 3, 4] rfl rfl, m.comp0 m2⟩, stab [0, 1, 2, 3, 4, 5, 6, 7, 8, 9, 10, 11, 12] (by kernel_rfl) ⟨rfl, rfl, rfl, rfl, rfl, rfl, rfl, rfl, rfl, rfl, rfl, rfl, rfl, trivial⟩⟩
            trivial) ?_
        exact all_nil
      · rintro ⟨b43, b44⟩ ρ σ45 hJ hoff hrel
        have e0 : look 64 ρ 0 = (Sl alist_0 list_0 clist_0) := look_off (hoff 0 rfl) rfl
        have e5 : look 64 ρ 5 = (pt b43 0) := hrel 12 rfl 5 rfl
        have e6 : look 64 ρ 6 = (pt b44 0) := hrel 13 rfl 6 rfl
        have e24 : look 64 ρ 24 = (.agg (List.map I (List.take 4 x9.2.1)).toArray) := hrel 5 rfl 24 rfl
        have e30 : look 64 ρ 30 = (.agg (List.map I (List.take 4 x26.2.1)).toArray) := hrel 11 rfl 30 rfl
        obtain ⟨H, -⟩ := (show Hp S0 σ0 σ45 [Ch.bx n0 b44 0 (List.map I (List.replicate 4 0)) [] [], Ch.bx n0 b43 0 (List.map I (List.replicate 4 0)) [] [], Ch.ro 0 (Sl (some ⟨b38, o39, none⟩) x26.2.1 c32) x26.2.1, Ch.ro 0 (Sl (some ⟨b21, o22, none⟩) x9.2.1 c15) x9.2.1, Ch.ro 0 (Sl alist_0 list_0 clist_0) list_0] ∧ Md (cov []) σ7 σ45 from hJ)
        clear hJ Hs
        rw [fr_lookL (L := [(0, (Sl alist_0 list_0 clist_0)), (5, (pt b43 0)), (6, (pt b44 0)), (24, (.agg (List.map I (List.take 4 x9.2.1)).toArray)), (30, (.agg (List.map I (List.take 4 x26.2.1)).toArray))]) ⟨e0, e5, e6, e24, e30, trivial⟩]
        clear hoff hrel e0 e5 e6 e24 e30
        refine st_exS (ex_store_box (k := 0) (cs := (List.map I (List.replicate 4 0))) (vs := (List.map I (List.take 4 x9.2.1))) (cs' := (List.map I (List.take 4 x9.2.1))) H (i := 1) rfl ti59 rfl rfl rfl rfl ((List.length_map _).trans (by rw [List.length_take]; have := hl24; omega)) (arr_fits (k := 4) (by rw [List.length_take]; have := hl24; omega) rfl) (plain_ints _) (arr_all (k := 4) (by rw [List.length_take]; have := hl24; omega) rfl)) (wanted_none _ rfl _) ?_
        rintro σ46 ⟨H, -⟩
        refine st_exS (ex_store_box (k := 0) (cs := (List.map I (List.replicate 4 0))) (vs := (List.map I (List.take 4 x26.2.1))) (cs' := (List.map I (List.take 4 x26.2.1))) H (i := 1) rfl ti59 rfl rfl rfl rfl ((List.length_map _).trans (by rw [List.length_take]; have := hl41; omega)) (arr_fits (k := 4) (by rw [List.length_take]; have := hl41; omega) rfl) (plain_ints _) (arr_all (k := 4) (by rw [List.length_take]; have := hl41; omega) rfl)) (wanted_none _ rfl _) ?_
        rintro σ47 ⟨H, -⟩
        refine w_end ?_
        refine q_then ?_
        refine c_seq ?_
        refine c_seq ?_
        refine rg ?_
        refine st (v := (Sl alist_0 list_0 clist_0)) (rv_move rfl) ?_
        obtain ⟨xs48, hx49, h'⟩ := bind_some h
        clear h
        have h := h'; clear h'
        obtain ⟨a50, c51, hs52, hR53⟩ := (H.ro 4 rfl).slice hx49
        replace H := H.add (d := Ch.ro 0 (Sl a50 xs48 c51) xs48) hR53 (fun _ h => h)
        clear hR53
        refine st (v := (Sl a50 xs48 c51)) (rv_slice_l Try.underlying23 ti29 hs52 rfl rfl) ?_
        refine st (v := (I (xs48.length : Int))) (rv_len Try.underlying23 rfl) ?_
        refine st (v := (I 0)) (rv_move rfl) ?_
        refine w_end ?_
        refine q_then ?_
        obtain ⟨o54, hj, h'⟩ := bind_some h
        clear h
        refine c_cut (fun e a w => e = .normal ∧ ∃ (ρ : Nat → Value) (σ : St), a = fr 64 (updL ρ [(5, (pt b43 0)), (6, (pt b44 0))]) ∧ w = σ.w ∧ Hp S0 σ0 σ [Ch.bx n0 b43 0 (List.map I o54.1) [] [], Ch.bx n0 b44 0 (List.map I o54.2) [] []] ∧ o54.1.length = 4 ∧ o54.2.length = 4) ?_ ?_
        · clear h'
          rename _ = some o54 => h
          refine c_blk ?_
          refine wp_loopM _ h (fun s55 a w => ∃ (ρ : Nat → Value) (σ : St), a = fr 64 (updL ρ [(5, (pt b43 0)), (6, (pt b44 0)), (32, (Sl a50 xs48 c51)), (33, (I (xs48.length : Int))), (34, (I s55.2.2))]) ∧ w = σ.w ∧ Hp S0 σ0 σ [Ch.bx n0 b43 0 (List.map I s55.1) [] [], Ch.bx n0 b44 0 (List.map I s55.2.1) [] [], Ch.ro 0 (Sl a50 xs48 c51) xs48] ∧ s55.1.length = 4 ∧ s55.2.1.length = 4) ⟨_, σ47, fr_join ⟨rfl, rfl, rfl, rfl, rfl, trivial⟩, rfl, H.sel' [2, 1, 0] rfl rfl, (by rw [List.length_take]; have := hl24; omega), (by rw [List.length_take]; have := hl41; omega)⟩ ?_
          clear h H
          rintro s55 a w o ⟨ρ, σ56, rfl, rfl, H, hl57, hl58⟩ h hres
          refine c_seq ?_
          refine rg ?_
          refine st (v := (B (decide (s55.2.2 < (xs48.length : Int))))) (rv_lss (a := s55.2.2) (b := (xs48.length : Int)) rfl rfl) ?_
          refine w_end ?_
          refine q_then ?_
          refine c_seq ?_
          refine cd_cond (decide (s55.2.2 < (xs48.length : Int))) rfl (fun hb59 => ?_) (fun hb59 => ?_)
          · replace h := bif_t hb59 h
            refine c_skip ?_
            refine q_then ?_
            refine c_seq ?_
            refine c_blk ?_
            refine c_seq ?_
            refine rg ?_
            obtain ⟨x60, hx61, h'⟩ := bind_some h
            clear h
            have h := h'; clear h'
            obtain ⟨b63, o64, hi62, -⟩ := (H.ro 2 rfl).ix hx61
            refine st (v := (pt b63 o64)) (rv_ix Try.underlying23 ti29 rfl rfl hi62) ?_
            obtain ⟨_, ⟨_, _, rfl, rfl, ⟨_, _, rfl, ⟨_, rfl, hR69⟩, rfl⟩⟩, hl65, hc66⟩ := ((H.ro 2 rfl).at hx61 hi62).cells
            obtain ⟨a67, c68, rfl⟩ := hR69.isSl
            replace H := H.add (d := Ch.ro 0 (Sl a67 x60.2.1 c68) x60.2.1) hR69 (fun _ h => h)
            clear hR69
            refine st (v := (.agg #[(I x60.1), (Sl a67 x60.2.1 c68), (I x60.2.2)])) (rv_load Try.underlying29 rfl ti29 rfl hl65 hc66) ?_
            refine st_ex (ex_alloc (cs := [(I 0), (.slice none 0 0), (I 0)]) H hn0 ti29 rfl) (wanted_none _ rfl _) ?_
            rintro _ σ71 ⟨b70, rfl, H, -⟩
            refine st_exS (ex_store_box (k := 0) (cs := [(I 0), (.slice none 0 0), (I 0)]) (vs := [(I x60.1), (Sl a67 x60.2.1 c68), (I x60.2.2)]) (cs' := [(I x60.1), (Sl a67 x60.2.1 c68), (I x60.2.2)]) H (i := 0) rfl ti29 rfl rfl rfl rfl rfl (Nat.le_of_ble_eq_true rfl) (by simp [plain]) rfl) (wanted_none _ rfl _) ?_
            rintro σ72 ⟨H, -⟩
            refine w_end ?_
            refine q_then ?_
            refine c_seq ?_
            refine rg ?_
            refine st (v := (pt b70 1)) (rv_fieldAddr (off := 1) (ft := 27) Try.underlying29 rfl ti27 rfl rfl) ?_
            have hc73 := H.cell (u := (Sl a67 x60.2.1 c68)) (o' := 1) 0 1 rfl rfl rfl
            refine st (v := (Sl a67 x60.2.1 c68)) (rv_load1 Try.underlying27 rfl rfl hc73) ?_
            refine st (v := (I (x60.2.1.length : Int))) (rv_len Try.underlying27 rfl) ?_
            refine st (v := (I 0)) (rv_move rfl) ?_
            refine w_end ?_
            refine q_then ?_
            obtain ⟨o74, hj, h'⟩ := bind_some h
            clear h
            refine c_cut (fun e a w => e = .normal ∧ ∃ (ρ : Nat → Value) (σ : St), a = fr 64 (updL ρ [(5, (pt b43 0)), (6, (pt b44 0)), (32, (Sl a50 xs48 c51)), (33, (I (xs48.length : Int))), (34, (I s55.2.2))]) ∧ w = σ.w ∧ Hp S0 σ0 σ [Ch.bx n0 b43 0 (List.map I o74.1) [] [], Ch.bx n0 b44 0 (List.map I o74.2) [] [], Ch.ro 0 (Sl a50 xs48 c51) xs48] ∧ o74.1.length = 4 ∧ o74.2.length = 4) ?_ ?_
            · clear h'
              rename _ = some o74 => h
              refine c_blk ?_
              refine wp_loopM _ h (fun s75 a w => ∃ (ρ : Nat → Value) (σ : St), a = fr 64 (updL ρ [(5, (pt b43 0)), (6, (pt b44 0)), (32, (Sl a50 xs48 c51)), (33, (I (xs48.length : Int))), (34, (I s55.2.2)), (39, (Sl a67 x60.2.1 c68)), (40, (I (x60.2.1.length : Int))), (41, (I s75.2.2))]) ∧ w = σ.w ∧ Hp S0 σ0 σ [Ch.bx n0 b43 0 (List.map I s75.1) [] [], Ch.bx n0 b44 0 (List.map I s75.2.1) [] [], Ch.ro 0 (Sl a50 xs48 c51) xs48, Ch.ro 0 (Sl a67 x60.2.1 c68) x60.2.1] ∧ s75.1.length = 4 ∧ s75.2.1.length = 4) ⟨_, σ72, fr_join ⟨rfl, rfl, rfl, rfl, rfl, rfl, rfl, rfl, trivial⟩, rfl, H.sel' [2, 3, 4, 1] rfl rfl, hl57, hl58⟩ ?_
              clear h H
              rintro s75 a w o ⟨ρ, σ76, rfl, rfl, H, hl77, hl78⟩ h hres
              refine c_seq ?_
              refine rg ?_
              refine st (v := (B (decide (s75.2.2 < (x60.2.1.length : Int))))) (rv_lss (a := s75.2.2) (b := (x60.2.1.length : Int)) rfl rfl) ?_
              refine w_end ?_
              refine q_then ?_
              refine c_seq ?_
              refine cd_cond (decide (s75.2.2 < (x60.2.1.length : Int))) rfl (fun hb79 => ?_) (fun hb79 => ?_)
              · replace h := bif_t hb79 h
                refine c_skip ?_
                refine q_then ?_
                refine c_seq ?_
                refine c_blk ?_
                refine c_seq ?_
                refine rg ?_
                refine st (v := (I s75.2.2)) (rv_move rfl) ?_
                obtain ⟨x80, hx81, h'⟩ := bind_some h
                clear h
                have h := h'; clear h'
                obtain ⟨b83, o84, hi82, -⟩ := (H.ro 3 rfl).ix hx81
                refine st (v := (pt b83 o84)) (rv_ix Try.underlying27 ti3 rfl rfl hi82) ?_
                have hc85 := ((H.ro 3 rfl).at hx81 hi82).int
                refine st (v := (I x80)) (rv_load1 Try.underlying3 rfl rfl hc85) ?_
                refine st (v := (I s75.2.2)) (rv_assign rfl) ?_
                refine st (v := (I x80)) (rv_assign rfl) ?_
                refine w_end ?_
                refine q_then ?_
                refine c_seq ?_
                refine rg ?_
                refine st (v := (I s75.2.2)) (rv_move rfl) ?_
                refine st (v := (I s75.2.2)) (rv_move rfl) ?_
                obtain ⟨x86, hx87, h'⟩ := bind_some h
                clear h
                have h := h'; clear h'
                have hl88 := gidx_lt hx87 hl77
                refine st (v := (pt b43 (0 + s75.2.2.toNat * 1))) (rv_indexAddr_array Try.underlying59 ti3 rfl rfl hl88.1 hl88.2) ?_
                have hc89 := Hp.arrCell H 0 rfl hx87
                refine st (v := (I x86)) (rv_load1 Try.underlying3 rfl rfl hc89) ?_
                refine st (v := (I x80)) (rv_move rfl) ?_
                refine st (v := (I (min x86 x80))) (rv_min rfl rfl) ?_
                obtain ⟨x90, hx91, h'⟩ := bind_some h
                clear h
                have h := h'; clear h'
                have hl92 := gidx_lt hx91 hl77
                refine st (v := (pt b43 (0 + s75.2.2.toNat * 1))) (rv_indexAddr_array Try.underlying59 ti3 rfl rfl hl92.1 hl92.2) ?_
                have hl93 := gidx_lt hx91 hl77
                refine st_exS (ex_store_box (k := s75.2.2.toNat * 1) (vs := [(I (min x86 x80))]) (cs' := (List.map I (s75.1.set s75.2.2.toNat (min x86 x80)))) H (i := 0) rfl ti3 rfl rfl rfl rfl rfl (by rw [List.length_map, hl77]; simp; omega) (by simp [plain]) (arr_set' _ _ _)) (wanted_none _ rfl _) ?_
                rintro σ94 ⟨H, -⟩
                refine w_end ?_
                refine q_then ?_
                refine rg ?_
                refine st (v := (I s75.2.2)) (rv_move rfl) ?_
                refine st (v := (I s75.2.2)) (rv_move rfl) ?_
                obtain ⟨x95, hx96, h'⟩ := bind_some h
                clear h
                have h := h'; clear h'
                have hl97 := gidx_lt hx96 hl78
                refine st (v := (pt b44 (0 + s75.2.2.toNat * 1))) (rv_indexAddr_array Try.underlying59 ti3 rfl rfl hl97.1 hl97.2) ?_
                have hc98 := Hp.arrCell H 1 rfl hx96
                refine st (v := (I x95)) (rv_load1 Try.underlying3 rfl rfl hc98) ?_
                refine st (v := (I x80)) (rv_move rfl) ?_
                refine st (v := (I (max x95 x80))) (rv_max rfl rfl) ?_
                obtain ⟨x99, hx100, h'⟩ := bind_some h
                clear h
                have h := h'; clear h'
                have hl101 := gidx_lt hx100 hl78
                refine st (v := (pt b44 (0 + s75.2.2.toNat * 1))) (rv_indexAddr_array Try.underlying59 ti3 rfl rfl hl101.1 hl101.2) ?_
                have hl102 := gidx_lt hx100 hl78
                refine st_exS (ex_store_box (k := s75.2.2.toNat * 1) (vs := [(I (max x95 x80))]) (cs' := (List.map I (s75.2.1.set s75.2.2.toNat (max x95 x80)))) H (i := 1) rfl ti3 rfl rfl rfl rfl rfl (by rw [List.length_map, hl78]; simp; omega) (by simp [plain]) (arr_set' _ _ _)) (wanted_none _ rfl _) ?_
                rintro σ103 ⟨H, -⟩
                refine w_end ?_
                refine q_blk ?_
                refine q_then ?_
                refine rg ?_
                refine st (v := (I (w64 (s75.2.2 + 1)))) (rv_add (a := s75.2.2) (b := 1) rfl rfl) ?_
                refine st (v := (I (w64 (s75.2.2 + 1)))) (rv_move rfl) ?_
                refine w_end ?_
                refine q_then ?_
                obtain rfl := Option.some.inj h
                exact ⟨_, rfl, _, σ103, fr_join ⟨rfl, rfl, rfl, rfl, rfl, rfl, rfl, rfl, trivial⟩, rfl, H.sel' [1, 0, 2, 3] rfl rfl, (set_len hl77), (set_len hl78)⟩
              · replace h := bif_f hb79 h
                refine c_exit ?_
                refine q_then_x ?_
                refine q_then_x ?_
                refine q_blk_hit ?_
                obtain rfl := Option.some.inj h
                obtain rfl := hres _ rfl
                exact ⟨rfl, _, σ76, fr_join ⟨rfl, rfl, rfl, rfl, rfl, trivial⟩, rfl, H.sel' [0, 1, 2] rfl rfl, hl77, hl78⟩
            · clear hj
              have h := h'
              clear h' H
              rintro e a w ⟨rfl, ρ, σ104, rfl, rfl, H, hl105, hl106⟩
              refine q_blk ?_
              refine q_then ?_
              refine rg ?_
              refine st (v := (I (w64 (s55.2.2 + 1)))) (rv_add (a := s55.2.2) (b := 1) rfl rfl) ?_
              refine st (v := (I (w64 (s55.2.2 + 1)))) (rv_move rfl) ?_
              refine w_end ?_
              refine q_then ?_
              obtain rfl := Option.some.inj h
              exact ⟨_, rfl, _, σ104, fr_join ⟨rfl, rfl, rfl, rfl, rfl, trivial⟩, rfl, H.sel' [0, 1, 2] rfl rfl, hl105, hl106⟩
          · replace h := bif_f hb59 h
            refine c_exit ?_
            refine q_then_x ?_
            refine q_then_x ?_
            refine q_blk_hit ?_
            obtain rfl := Option.some.inj h
            obtain rfl := hres _ rfl
            exact ⟨rfl, _, σ56, fr_join ⟨rfl, rfl, trivial⟩, rfl, H.sel' [0, 1] rfl rfl, hl57, hl58⟩
        · clear hj
          have h := h'
          clear h' H
          rintro e a w ⟨rfl, ρ, σ107, rfl, rfl, H, hl108, hl109⟩
          refine q_then ?_
          refine c_seq ?_
          replace H := Hp.arr (el := n0) H (i := 0) rfl hl108
          replace H := Hp.arr (el := n0) H (i := 1) rfl hl109
          have Hs := H
          refine rg2 (σ := σ107) (Nm := Unit) 3 [] [[]] [[(0, 0)], [(0, 0)], [(0, 0)]] 0 [fun (_nm : Unit) => fun σm => Hp S0 σ0 σm [Ch.own n0 n0 (Sl (some ⟨b44, 0, none⟩) o54.2 4) o54.2, Ch.own n0 n0 (Sl (some ⟨b43, 0, none⟩) o54.1 4) o54.1] ∧ Md (cov []) σ107 σm] [fun (_nm : Unit) => (Sl (some ⟨b43, 0, none⟩) o54.1 4), fun (_nm : Unit) => (Sl (some ⟨b44, 0, none⟩) o54.2 4), fun (_nm : Unit) => (Sl (some ⟨b43, 0, none⟩) o54.1 4)] () (by kernel_rfl) (by kernel_rfl) ?_ ?_ ?_
          · intro σm m0
            exact ⟨H.grow (m0.mono fun _ h => h.elim), m0⟩
          · refine all_cons (obs_v rfl (by
                intro k; intro _nm ρ σm hJ hoff hdep
                have e5 : look 64 ρ 5 = (pt b43 0) := look_off (hoff 5 rfl) rfl
                exact dp_v (v := (Sl (some ⟨b43, 0, none⟩) o54.1 4)) (wanted_none _ rfl _) (rv_slice_arrL Try.underlying59 ti3 (by decide) e5 hl108) rfl hJ)) ?_
            refine all_cons (obs_v rfl (by
                intro k; intro _nm ρ σm hJ hoff hdep
                have e6 : look 64 ρ 6 = (pt b44 0) := look_off (hoff 6 rfl) rfl
                exact dp_v (v := (Sl (some ⟨b44, 0, none⟩) o54.2 4)) (wanted_none _ rfl _) (rv_slice_arrL Try.underlying59 ti3 (by decide) e6 hl109) rfl hJ)) ?_
            refine all_cons (obs_v rfl (by
                intro k; intro _nm ρ σm hJ hoff hdep
                have e62 : look 64 ρ 62 = (Sl (some ⟨b43, 0, none⟩) o54.1 4) := hdep 0 rfl rfl 62 rfl
                exact dp_v (v := (Sl (some ⟨b43, 0, none⟩) o54.1 4)) (wanted_none _ rfl _) (rv_assign e62) rfl hJ)) ?_
            exact all_nil
          · intro _nm ρ σ110 hJ hoff hrel
            have e2 : look 64 ρ 2 = (Sl (some ⟨b43, 0, none⟩) o54.1 4) := hrel 2 rfl 2 rfl
            have e63 : look 64 ρ 63 = (Sl (some ⟨b44, 0, none⟩) o54.2 4) := hrel 1 rfl 63 rfl
            obtain ⟨H, -⟩ := (show Hp S0 σ0 σ110 [Ch.own n0 n0 (Sl (some ⟨b44, 0, none⟩) o54.2 4) o54.2, Ch.own n0 n0 (Sl (some ⟨b43, 0, none⟩) o54.1 4) o54.1] ∧ Md (cov []) σ107 σ110 from hJ)
            clear hJ Hs
            rw [fr_lookL (L := [(2, (Sl (some ⟨b43, 0, none⟩) o54.1 4)), (63, (Sl (some ⟨b44, 0, none⟩) o54.2 4))]) ⟨e2, e63, trivial⟩]
            clear hoff hrel e2 e63
            refine st (v := (Sl (some ⟨b44, 0, none⟩) o54.2 4)) (rv_assign rfl) ?_
            refine st (v := (B true)) (rv_assign rfl) ?_
            refine w_end ?_
            refine q_then ?_
            refine c_ret ?_
            obtain rfl := Option.some.inj h
            exact fin_ret (v := (.tuple #[(Sl (some ⟨b43, 0, none⟩) o54.1 4), (Sl (some ⟨b44, 0, none⟩) o54.2 4), (B true)])) (results_ok Try.results28 (res_tmp (v := (Sl (some ⟨b43, 0, none⟩) o54.1 4)) rfl (res_tmp (v := (Sl (some ⟨b44, 0, none⟩) o54.2 4)) rfl (res_tmp (v := (B true)) rfl res_nil))) rfl) ⟨(some ⟨b43, 0, none⟩), 4, (some ⟨b44, 0, none⟩), 4, rfl, rfl, hl108.symm, hl109.symm⟩ (H.sel' [1, 0] rfl rfl)

end Go.Vs
