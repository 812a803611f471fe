/- The functions compute what their models say. -/
import Derived.Test.YtjkpomkijjingaaKBoundsOfTightC2
set_option linter.unusedVariables false
set_option linter.unusedSimpArgs false
set_option maxRecDepth 20000
namespace Go.Vs
open Go Go.Proofs
attribute [local irreducible] Code.wp wpList wpQuiet Calls

theorem c_spec_BoundsOf {list_0 : List (Int × (List Int) × Int)} {alist_0 : Option Addr} {clist_0 : Nat} {r : (List Int) × (List Int) × Bool} (h : M.spec_BoundsOf list_0 = some r) :
    Cal2 Try.prog 29 [(Sl alist_0 list_0 clist_0)] [Ch.ro 0 (Sl alist_0 list_0 clist_0) list_0] (fun n0 v L => ∃ (az1 : Option Addr), ∃ (cz2 : Nat), ∃ (az3 : Option Addr), ∃ (cz4 : Nat), v = (.tuple #[(Sl az1 r.1 cz2), (Sl az3 r.2.1 cz4), (B r.2.2)]) ∧ L = [Ch.own n0 n0 (Sl az1 r.1 cz2) r.1, Ch.own n0 n0 (Sl az3 r.2.1 cz4) r.2.1]) := by
  refine cal2 (n := 71) Try.func29 rfl rfl rfl rfl ?_
  intro S0 σ0 n0 hn0 H
  unfold M.spec_BoundsOf at h
  refine c_seq ?_
  refine rg ?_
  refine st (v := (.slice none 0 0)) (rv_assign rfl) ?_
  refine st (v := (.slice none 0 0)) (rv_assign rfl) ?_
  refine st (v := (B false)) (rv_assign rfl) ?_
  refine w_end ?_
  refine q_then ?_
  refine c_seq ?_
  refine c_seq ?_
  obtain ⟨o1, hj, h'⟩ := bind_some h
  clear h
  refine c_cut (fun e a w => e = .normal ∧ ∃ (ρ : Nat → Value) (σ : St), a = fr 71 (updL ρ [(0, (Sl alist_0 list_0 clist_0)), (16, (B o1))]) ∧ w = σ.w ∧ Hp S0 σ0 σ [Ch.ro 0 (Sl alist_0 list_0 clist_0) list_0]) ?_ ?_
  · clear h'
    rename _ = some o1 => h
    refine rg ?_
    refine st (v := (Sl alist_0 list_0 clist_0)) (rv_move rfl) ?_
    obtain ⟨r2, hx3, h'⟩ := bind_some h
    clear h
    have h := h'; clear h'
    have hc4 := c_spec_validStore (alist_0 := alist_0) (clist_0 := clist_0) hx3
    refine st_call (cx_call hc4 (ent_f hc4.fn rfl) hn0 (show Hp S0 σ0 _ ([Ch.ro 0 (Sl alist_0 list_0 clist_0) list_0] ++ [Ch.ro 0 (Sl alist_0 list_0 clist_0) list_0]) from (H.sel' [0, 0] rfl rfl))) (wanted_none _ rfl _) ?_
    rintro _ σ5 ⟨_, ⟨rfl, rfl⟩, H, -⟩
    replace H : Hp S0 σ0 σ5 [Ch.ro 0 (Sl alist_0 list_0 clist_0) list_0] := H
    refine st (v := (B (!r2))) (rv_not rfl) ?_
    refine st (v := (B (!r2))) (rv_move rfl) ?_
    rcases Bool.eq_false_or_eq_true (!r2) with hb6 | hb6
    · replace h := bif_t hb6 h
      refine st_skip (congrArg some hb6) ?_
      refine st_skip (congrArg some hb6) ?_
      refine st_skip (congrArg some hb6) ?_
      refine st (v := (B true)) (rv_pick_t (congrArg B hb6) rfl) ?_
      refine w_end ?_
      obtain rfl := Option.some.inj h
      exact ⟨rfl, _, σ5, fr_join ⟨rfl, rfl, trivial⟩, rfl, H.sel' [0] rfl rfl⟩
    · replace h := bif_f hb6 h
      refine st_g (v := (Sl alist_0 list_0 clist_0)) (congrArg some hb6) (rv_move rfl) ?_
      refine st_g (v := (I (list_0.length : Int))) (congrArg some hb6) (rv_len Try.underlying23 rfl) ?_
      refine st_g (v := (B ((list_0.length : Int) == 0))) (congrArg some hb6) (rv_eql (a := (list_0.length : Int)) (b := 0) rfl rfl) ?_
      refine st (v := (B ((list_0.length : Int) == 0))) (rv_pick_f (congrArg B hb6) rfl) ?_
      refine w_end ?_
      obtain rfl := Option.some.inj h
      exact ⟨rfl, _, σ5, fr_join ⟨rfl, rfl, trivial⟩, rfl, H.sel' [0] rfl rfl⟩
  · clear hj
    have h := h'
    clear h' H
    rintro e a w ⟨rfl, ρ, σ7, rfl, rfl, H⟩
    refine q_then ?_
    refine cd_cond o1 rfl (fun hb8 => ?_) (fun hb8 => ?_)
    · replace h := bif_t hb8 h
      refine c_seq ?_
      refine rg ?_
      refine st (v := (.slice none 0 0)) (rv_assign rfl) ?_
      refine st (v := (.slice none 0 0)) (rv_assign rfl) ?_
      refine st (v := (B false)) (rv_assign rfl) ?_
      refine w_end ?_
      refine q_then ?_
      refine c_ret ?_
      refine q_then_r ?_
      replace H := H.nilOwn Int n0 n0
      replace H := H.nilOwn Int n0 n0
      obtain rfl := Option.some.inj h
      exact fin_ret (v := (.tuple #[(.slice none 0 0), (.slice none 0 0), (B false)])) (results_ok Try.results29 (res_tmp (v := (.slice none 0 0)) rfl (res_tmp (v := (.slice none 0 0)) rfl (res_tmp (v := (B false)) rfl res_nil))) rfl) ⟨none, 0, none, 0, rfl, rfl⟩ (H.sel' [1, 0] rfl rfl)
    · replace h := bif_f hb8 h
      refine c_skip ?_
      refine q_then ?_
      refine c_seq ?_
      refine rg ?_
      refine st (v := (Sl alist_0 list_0 clist_0)) (rv_move rfl) ?_
      obtain ⟨x9, hx10, h'⟩ := bind_some h
      clear h
      have h := h'; clear h'
      obtain ⟨b12, o13, hi11, -⟩ := (H.ro 0 rfl).ix hx10
      refine st (v := (pt b12 o13)) (rv_ix Try.underlying23 ti29 rfl rfl hi11) ?_
      refine st (v := (pt b12 (o13 + 1))) (rv_fieldAddr (off := 1) (ft := 27) Try.underlying29 rfl ti27 rfl rfl) ?_
      obtain ⟨v17, hc18, hR16⟩ := ((H.ro 0 rfl).at hx10 hi11).snd.fst.slice
      obtain ⟨a14, c15, rfl⟩ := hR16.isSl
      replace H := H.add (d := Ch.ro 0 (Sl a14 x9.2.1 c15) x9.2.1) hR16 (fun _ h => h)
      clear hR16
      refine st (v := (Sl a14 x9.2.1 c15)) (rv_load1 Try.underlying27 rfl rfl hc18) ?_
      obtain ⟨r19, hx20, h'⟩ := bind_some h
      clear h
      have h := h'; clear h'
      have hc21 := c_spec_copyInts (alist_0 := a14) (clist_0 := c15) hx20
      refine st_call (cx_call hc21 (ent_f hc21.fn rfl) hn0 (show Hp S0 σ0 _ ([Ch.ro 0 (Sl a14 x9.2.1 c15) x9.2.1] ++ [Ch.ro 0 (Sl a14 x9.2.1 c15) x9.2.1, Ch.ro 0 (Sl alist_0 list_0 clist_0) list_0]) from (H.sel' [0, 0, 1] rfl rfl))) (wanted_none _ rfl _) ?_
      rintro _ σ24 ⟨_, ⟨a22, c23, rfl, rfl⟩, H, -⟩
      replace H : Hp S0 σ0 σ24 [Ch.own n0 n0 (Sl a22 r19 c23) r19, Ch.ro 0 (Sl a14 x9.2.1 c15) x9.2.1, Ch.ro 0 (Sl alist_0 list_0 clist_0) list_0] := H
      refine st (v := (Sl a22 r19 c23)) (rv_assign rfl) ?_
      refine w_end ?_
      refine q_then ?_
      refine c_seq ?_
      refine rg ?_
      refine st (v := (Sl alist_0 list_0 clist_0)) (rv_move rfl) ?_
      obtain ⟨x25, hx26, h'⟩ := bind_some h
      clear h
      have h := h'; clear h'
      obtain ⟨b28, o29, hi27, -⟩ := (H.ro 2 rfl).ix hx26
      refine st (v := (pt b28 o29)) (rv_ix Try.underlying23 ti29 rfl rfl hi27) ?_
      refine st (v := (pt b28 (o29 + 1))) (rv_fieldAddr (off := 1) (ft := 27) Try.underlying29 rfl ti27 rfl rfl) ?_
      obtain ⟨v33, hc34, hR32⟩ := ((H.ro 2 rfl).at hx26 hi27).snd.fst.slice
      obtain ⟨a30, c31, rfl⟩ := hR32.isSl
      replace H := H.add (d := Ch.ro 0 (Sl a30 x25.2.1 c31) x25.2.1) hR32 (fun _ h => h)
      clear hR32
      refine st (v := (Sl a30 x25.2.1 c31)) (rv_load1 Try.underlying27 rfl rfl hc34) ?_
      obtain ⟨r35, hx36, h'⟩ := bind_some h
      clear h
      have h := h'; clear h'
      have hc37 := c_spec_copyInts (alist_0 := a30) (clist_0 := c31) hx36
      refine st_call (cx_call hc37 (ent_f hc37.fn rfl) hn0 (show Hp S0 σ0 _ ([Ch.ro 0 (Sl a30 x25.2.1 c31) x25.2.1] ++ [Ch.ro 0 (Sl a30 x25.2.1 c31) x25.2.1, Ch.own n0 n0 (Sl a22 r19 c23) r19, Ch.ro 0 (Sl a14 x9.2.1 c15) x9.2.1, Ch.ro 0 (Sl alist_0 list_0 clist_0) list_0]) from (H.sel' [0, 0, 1, 2, 3] rfl rfl))) (wanted_none _ rfl _) ?_
      rintro _ σ40 ⟨_, ⟨a38, c39, rfl, rfl⟩, H, -⟩
      replace H : Hp S0 σ0 σ40 [Ch.own n0 n0 (Sl a38 r35 c39) r35, Ch.ro 0 (Sl a30 x25.2.1 c31) x25.2.1, Ch.own n0 n0 (Sl a22 r19 c23) r19, Ch.ro 0 (Sl a14 x9.2.1 c15) x9.2.1, Ch.ro 0 (Sl alist_0 list_0 clist_0) list_0] := H
      refine st (v := (Sl a38 r35 c39)) (rv_assign rfl) ?_
      refine w_end ?_
      refine q_then ?_
      refine c_seq ?_
      refine c_seq ?_
      refine rg ?_
      refine st (v := (I 1)) (rv_assign rfl) ?_
      refine w_end ?_
      refine q_then ?_
      obtain ⟨o41, hj, h'⟩ := bind_some h
      clear h
      refine c_cut (fun e a w => e = .normal ∧ ∃ (ρ : Nat → Value) (σ : St), a = fr 71 (updL ρ [(5, (Sl a22 o41.1 c23)), (6, (Sl a38 o41.2 c39))]) ∧ w = σ.w ∧ Hp S0 σ0 σ [Ch.own n0 n0 (Sl a22 o41.1 c23) o41.1, Ch.own n0 n0 (Sl a38 o41.2 c39) o41.2] ∧ o41.1.length = r19.length ∧ o41.2.length = r35.length) ?_ ?_
      · clear h'
        rename _ = some o41 => h
        refine c_blk ?_
        refine wp_loopM _ h (fun s42 a w => ∃ (ρ : Nat → Value) (σ : St), a = fr 71 (updL ρ [(0, (Sl alist_0 list_0 clist_0)), (5, (Sl a22 s42.1 c23)), (6, (Sl a38 s42.2.1 c39)), (7, (I s42.2.2))]) ∧ w = σ.w ∧ Hp S0 σ0 σ [Ch.ro 0 (Sl alist_0 list_0 clist_0) list_0, Ch.own n0 n0 (Sl a22 s42.1 c23) s42.1, Ch.own n0 n0 (Sl a38 s42.2.1 c39) s42.2.1] ∧ s42.1.length = r19.length ∧ s42.2.1.length = r35.length) ⟨_, σ40, fr_join ⟨rfl, rfl, rfl, rfl, trivial⟩, rfl, H.sel' [4, 2, 0] rfl rfl, rfl, rfl⟩ ?_
        clear h H
        rintro s42 a w o ⟨ρ, σ43, rfl, rfl, H, hn44, hn45⟩ h hres
        refine c_seq ?_
        refine c_seq ?_
        refine rg ?_
        refine st (v := (I s42.2.2)) (rv_move rfl) ?_
        refine st (v := (Sl alist_0 list_0 clist_0)) (rv_move rfl) ?_
        refine st (v := (I (list_0.length : Int))) (rv_len Try.underlying23 rfl) ?_
        refine st (v := (B (decide (s42.2.2 < (list_0.length : Int))))) (rv_lss (a := s42.2.2) (b := (list_0.length : Int)) rfl rfl) ?_
        refine w_end ?_
        refine q_then ?_
        refine cd_cond (decide (s42.2.2 < (list_0.length : Int))) rfl (fun hb46 => ?_) (fun hb46 => ?_)
        · replace h := bif_t hb46 h
          refine c_skip ?_
          refine q_then ?_
          refine c_seq ?_
          refine c_blk ?_
          refine c_seq ?_
          refine rg ?_
          refine st (v := (I 0)) (rv_assign rfl) ?_
          refine w_end ?_
          refine q_then ?_
          obtain ⟨o47, hj, h'⟩ := bind_some h
          clear h
          refine c_cut (fun e a w => e = .normal ∧ ∃ (ρ : Nat → Value) (σ : St), a = fr 71 (updL ρ [(0, (Sl alist_0 list_0 clist_0)), (5, (Sl a22 o47.1 c23)), (6, (Sl a38 o47.2 c39)), (7, (I s42.2.2))]) ∧ w = σ.w ∧ Hp S0 σ0 σ [Ch.ro 0 (Sl alist_0 list_0 clist_0) list_0, Ch.own n0 n0 (Sl a22 o47.1 c23) o47.1, Ch.own n0 n0 (Sl a38 o47.2 c39) o47.2] ∧ o47.1.length = s42.1.length ∧ o47.2.length = s42.2.1.length) ?_ ?_
          · clear h'
            rename _ = some o47 => h
            refine c_blk ?_
            refine wp_loopM _ h (fun s48 a w => ∃ (ρ : Nat → Value) (σ : St), a = fr 71 (updL ρ [(0, (Sl alist_0 list_0 clist_0)), (5, (Sl a22 s48.1 c23)), (6, (Sl a38 s48.2.1 c39)), (7, (I s42.2.2)), (8, (I s48.2.2))]) ∧ w = σ.w ∧ Hp S0 σ0 σ [Ch.ro 0 (Sl alist_0 list_0 clist_0) list_0, Ch.own n0 n0 (Sl a22 s48.1 c23) s48.1, Ch.own n0 n0 (Sl a38 s48.2.1 c39) s48.2.1] ∧ s48.1.length = s42.1.length ∧ s48.2.1.length = s42.2.1.length) ⟨_, σ43, fr_join ⟨rfl, rfl, rfl, rfl, rfl, trivial⟩, rfl, H.sel' [0, 1, 2] rfl rfl, rfl, rfl⟩ ?_
            clear h H
            rintro s48 a w o ⟨ρ, σ49, rfl, rfl, H, hn50, hn51⟩ h hres
            refine c_seq ?_
            refine c_seq ?_
            refine rg ?_
            refine st (v := (I s48.2.2)) (rv_move rfl) ?_
            refine st (v := (B (decide (s48.2.2 < 4)))) (rv_lss (a := s48.2.2) (b := 4) rfl rfl) ?_
            refine w_end ?_
            refine q_then ?_
            refine cd_cond (decide (s48.2.2 < 4)) rfl (fun hb52 => ?_) (fun hb52 => ?_)
            · replace h := bif_t hb52 h
              refine c_skip ?_
              refine q_then ?_
              refine c_seq ?_
              refine c_blk ?_
              refine c_seq ?_
              obtain ⟨x53, hx54, h'⟩ := bind_some h
              clear h
              have h := h'; clear h'
              obtain ⟨b56, o57, hi55, -⟩ := (H.own 1 rfl).ix hx54
              have hc58 := ((H.own 1 rfl).at hx54 hi55).int
              obtain ⟨x59, hx60, h'⟩ := bind_some h
              clear h
              have h := h'; clear h'
              obtain ⟨b62, o63, hi61, -⟩ := (H.ro 0 rfl).ix hx60
              obtain ⟨v67, hc68, hR66⟩ := ((H.ro 0 rfl).at hx60 hi61).snd.fst.slice
              obtain ⟨a64, c65, rfl⟩ := hR66.isSl
              replace H := H.add (d := Ch.ro 0 (Sl a64 x59.2.1 c65) x59.2.1) hR66 (fun _ h => h)
              clear hR66
              obtain ⟨x69, hx70, h'⟩ := bind_some h
              clear h
              have h := h'; clear h'
              obtain ⟨b72, o73, hi71, -⟩ := (H.ro 0 rfl).ix hx70
              have hc74 := ((H.ro 0 rfl).at hx70 hi71).int
              have Hs := H
              refine rg2 (σ := σ49) (Nm := Unit) 15 [] [[]] [[(0, 0)], [(0, 0)], [(0, 0)], [(0, 0)], [(0, 0)], [(0, 0)], [(0, 0)], [(0, 0)], [(0, 0)], [(0, 0)], [(0, 0)], [(0, 0)], [(0, 0)], [(0, 0)], [(0, 0)]] 0 [fun (_nm : Unit) => fun σm => Hp S0 σ0 σm [Ch.ro 0 (Sl a64 x59.2.1 c65) x59.2.1, Ch.ro 0 (Sl alist_0 list_0 clist_0) list_0, Ch.own n0 n0 (Sl a22 s48.1 c23) s48.1, Ch.own n0 n0 (Sl a38 s48.2.1 c39) s48.2.1] ∧ Md (cov []) σ49 σm] [fun (_nm : Unit) => (Sl a22 s48.1 c23), fun (_nm : Unit) => (I s48.2.2), fun (_nm : Unit) => (Sl a22 s48.1 c23), fun (_nm : Unit) => (I s48.2.2), fun (_nm : Unit) => (pt b56 o57), fun (_nm : Unit) => (I x53), fun (_nm : Unit) => (Sl alist_0 list_0 clist_0), fun (_nm : Unit) => (I s42.2.2), fun (_nm : Unit) => (pt b62 o63), fun (_nm : Unit) => (pt b62 (o63 + 1)), fun (_nm : Unit) => (Sl a64 x59.2.1 c65), fun (_nm : Unit) => (I s48.2.2), fun (_nm : Unit) => (pt b72 o73), fun (_nm : Unit) => (I x69), fun (_nm : Unit) => (I (min x53 x69))] () (by kernel_rfl) (by kernel_rfl) ?_ ?_ ?_
              · intro σm m0
                exact ⟨H.grow (m0.mono fun _ h => h.elim), m0⟩
              · refine all_cons (obs_v rfl (by
                    intro k; intro _nm ρ σm hJ hoff hdep
                    have e5 : look 71 ρ 5 = (Sl a22 s48.1 c23) := look_off (hoff 5 rfl) rfl
                    exact dp_v (v := (Sl a22 s48.1 c23)) (wanted_none _ rfl _) (rv_move e5) rfl hJ)) ?_
                refine all_cons (obs_v rfl (by
                    intro k; intro _nm ρ σm hJ hoff hdep
                    have e8 : look 71 ρ 8 = (I s48.2.2) := look_off (hoff 8 rfl) rfl
                    exact dp_v (v := (I s48.2.2)) (wanted_none _ rfl _) (rv_move e8) rfl hJ)) ?_
                refine all_cons (obs_v rfl (by
                    intro k; intro _nm ρ σm hJ hoff hdep
                    have e5 : look 71 ρ 5 = (Sl a22 s48.1 c23) := look_off (hoff 5 rfl) rfl
                    exact dp_v (v := (Sl a22 s48.1 c23)) (wanted_none _ rfl _) (rv_move e5) rfl hJ)) ?_
                refine all_cons (obs_v rfl (by
                    intro k; intro _nm ρ σm hJ hoff hdep
                    have e8 : look 71 ρ 8 = (I s48.2.2) := look_off (hoff 8 rfl) rfl
                    exact dp_v (v := (I s48.2.2)) (wanted_none _ rfl _) (rv_move e8) rfl hJ)) ?_
                refine all_cons (obs_v rfl (by
                    intro k; intro _nm ρ σm hJ hoff hdep
                    have e39 : look 71 ρ 39 = (Sl a22 s48.1 c23) := hdep 2 rfl rfl 39 rfl
                    have e40 : look 71 ρ 40 = (I s48.2.2) := hdep 3 rfl rfl 40 rfl
                    exact dp_v (v := (pt b56 o57)) (wanted_none _ rfl _) (rv_ix Try.underlying27 ti3 e39 e40 hi55) rfl hJ)) ?_
                refine all_cons (by
                    refine ⟨?_, ?_⟩
                    · intro _nm ρ σm hJ hoff hdep
                      have e41 : look 71 ρ 41 = (pt b56 o57) := hdep 4 rfl rfl 41 rfl
                      obtain ⟨H, m⟩ := (show Hp S0 σ0 σm [Ch.ro 0 (Sl a64 x59.2.1 c65) x59.2.1, Ch.ro 0 (Sl alist_0 list_0 clist_0) list_0, Ch.own n0 n0 (Sl a22 s48.1 c23) s48.1, Ch.own n0 n0 (Sl a38 s48.2.1 c39) s48.2.1] ∧ Md (cov []) σ49 σm from hJ)
                      have hc58 := ((H.own 2 rfl).at hx54 hi55).int
                      exact dp_v (v := (I x53)) (wanted_none _ rfl _) (rv_load1 Try.underlying3 rfl e41 hc58) rfl hJ
                    trivial) ?_
                refine all_cons (obs_v rfl (by
                    intro k; intro _nm ρ σm hJ hoff hdep
                    have e0 : look 71 ρ 0 = (Sl alist_0 list_0 clist_0) := look_off (hoff 0 rfl) rfl
                    exact dp_v (v := (Sl alist_0 list_0 clist_0)) (wanted_none _ rfl _) (rv_move e0) rfl hJ)) ?_
                refine all_cons (obs_v rfl (by
                    intro k; intro _nm ρ σm hJ hoff hdep
                    have e7 : look 71 ρ 7 = (I s42.2.2) := look_off (hoff 7 rfl) rfl
                    exact dp_v (v := (I s42.2.2)) (wanted_none _ rfl _) (rv_move e7) rfl hJ)) ?_
                refine all_cons (obs_v rfl (by
                    intro k; intro _nm ρ σm hJ hoff hdep
                    have e43 : look 71 ρ 43 = (Sl alist_0 list_0 clist_0) := hdep 6 rfl rfl 43 rfl
                    have e44 : look 71 ρ 44 = (I s42.2.2) := hdep 7 rfl rfl 44 rfl
                    exact dp_v (v := (pt b62 o63)) (wanted_none _ rfl _) (rv_ix Try.underlying23 ti29 e43 e44 hi61) rfl hJ)) ?_
                refine all_cons (obs_v rfl (by
                    intro k; intro _nm ρ σm hJ hoff hdep
                    have e45 : look 71 ρ 45 = (pt b62 o63) := hdep 8 rfl rfl 45 rfl
                    exact dp_v (v := (pt b62 (o63 + 1))) (wanted_none _ rfl _) (rv_fieldAddr (off := 1) (ft := 27) Try.underlying29 rfl ti27 rfl e45) rfl hJ)) ?_
                refine all_cons (by
                    refine ⟨?_, ?_⟩
                    · intro _nm ρ σm hJ hoff hdep
                      have e46 : look 71 ρ 46 = (pt b62 (o63 + 1)) := hdep 9 rfl rfl 46 rfl
                      obtain ⟨H, m⟩ := (show Hp S0 σ0 σm [Ch.ro 0 (Sl a64 x59.2.1 c65) x59.2.1, Ch.ro 0 (Sl alist_0 list_0 clist_0) list_0, Ch.own n0 n0 (Sl a22 s48.1 c23) s48.1, Ch.own n0 n0 (Sl a38 s48.2.1 c39) s48.2.1] ∧ Md (cov []) σ49 σm from hJ)
                      replace hc68 := (Hs.ro 1 rfl).hmd hx60 hi61 (k := 1) (by decide) hc68 m
                      exact dp_v (v := (Sl a64 x59.2.1 c65)) (wanted_none _ rfl _) (rv_load1 Try.underlying27 rfl e46 hc68) rfl hJ
                    trivial) ?_
                refine all_cons (obs_v rfl (by
                    intro k; intro _nm ρ σm hJ hoff hdep
                    have e8 : look 71 ρ 8 = (I s48.2.2) := look_off (hoff 8 rfl) rfl
                    exact dp_v (v := (I s48.2.2)) (wanted_none _ rfl _) (rv_move e8) rfl hJ)) ?_
                refine all_cons (obs_v rfl (by
                    intro k; intro _nm ρ σm hJ hoff hdep
                    have e47 : look 71 ρ 47 = (Sl a64 x59.2.1 c65) := hdep 10 rfl rfl 47 rfl
                    have e48 : look 71 ρ 48 = (I s48.2.2) := hdep 11 rfl rfl 48 rfl
                    exact dp_v (v := (pt b72 o73)) (wanted_none _ rfl _) (rv_ix Try.underlying27 ti3 e47 e48 hi71) rfl hJ)) ?_
                refine all_cons (by
                    refine ⟨?_, ?_⟩
                    · intro _nm ρ σm hJ hoff hdep
                      have e49 : look 71 ρ 49 = (pt b72 o73) := hdep 12 rfl rfl 49 rfl
                      obtain ⟨H, m⟩ := (show Hp S0 σ0 σm [Ch.ro 0 (Sl a64 x59.2.1 c65) x59.2.1, Ch.ro 0 (Sl alist_0 list_0 clist_0) list_0, Ch.own n0 n0 (Sl a22 s48.1 c23) s48.1, Ch.own n0 n0 (Sl a38 s48.2.1 c39) s48.2.1] ∧ Md (cov []) σ49 σm from hJ)
                      replace hc74 := (Hs.ro 0 rfl).hmd hx70 hi71 (k := 0) (by decide) hc74 m
                      exact dp_v (v := (I x69)) (wanted_none _ rfl _) (rv_load1 Try.underlying3 rfl e49 hc74) rfl hJ
                    trivial) ?_
                refine all_cons (obs_v rfl (by
                    intro k; intro _nm ρ σm hJ hoff hdep
                    have e42 : look 71 ρ 42 = (I x53) := hdep 5 rfl rfl 42 rfl
                    have e50 : look 71 ρ 50 = (I x69) := hdep 13 rfl rfl 50 rfl
                    exact dp_v (v := (I (min x53 x69))) (wanted_none _ rfl _) (rv_min e42 e50) rfl hJ)) ?_
                exact all_nil
              · intro _nm ρ σ75 hJ hoff hrel
                have e0 : look 71 ρ 0 = (Sl alist_0 list_0 clist_0) := look_off (hoff 0 rfl) rfl
                have e5 : look 71 ρ 5 = (Sl a22 s48.1 c23) := look_off (hoff 5 rfl) rfl
                have e6 : look 71 ρ 6 = (Sl a38 s48.2.1 c39) := look_off (hoff 6 rfl) rfl
                have e7 : look 71 ρ 7 = (I s42.2.2) := look_off (hoff 7 rfl) rfl
                have e8 : look 71 ρ 8 = (I s48.2.2) := look_off (hoff 8 rfl) rfl
                have e37 : look 71 ρ 37 = (Sl a22 s48.1 c23) := hrel 0 rfl 37 rfl
                have e38 : look 71 ρ 38 = (I s48.2.2) := hrel 1 rfl 38 rfl
                have e51 : look 71 ρ 51 = (I (min x53 x69)) := hrel 14 rfl 51 rfl
                obtain ⟨H, -⟩ := (show Hp S0 σ0 σ75 [Ch.ro 0 (Sl a64 x59.2.1 c65) x59.2.1, Ch.ro 0 (Sl alist_0 list_0 clist_0) list_0, Ch.own n0 n0 (Sl a22 s48.1 c23) s48.1, Ch.own n0 n0 (Sl a38 s48.2.1 c39) s48.2.1] ∧ Md (cov []) σ49 σ75 from hJ)
                clear hJ Hs
                rw [fr_lookL (L := [(0, (Sl alist_0 list_0 clist_0)), (5, (Sl a22 s48.1 c23)), (6, (Sl a38 s48.2.1 c39)), (7, (I s42.2.2)), (8, (I s48.2.2)), (37, (Sl a22 s48.1 c23)), (38, (I s48.2.2)), (51, (I (min x53 x69)))]) ⟨e0, e5, e6, e7, e8, e37, e38, e51, trivial⟩]
                clear hoff hrel e0 e5 e6 e7 e8 e37 e38 e51
                obtain ⟨x76, hx77, h'⟩ := bind_some h
                clear h
                have h := h'; clear h'
                obtain ⟨b79, o80, hi78, -⟩ := (H.own 2 rfl).ix hx77
                refine st (v := (pt b79 o80)) (rv_ix Try.underlying27 ti3 rfl rfl hi78) ?_
                refine st_exS (ex_store_own (e' := (min x53 x69)) (vs := [(I (min x53 x69))]) (k := 0) H (i := 2) rfl ti3 hx77 hi78 rfl rfl rfl rfl rfl (Nat.le_of_ble_eq_true rfl) (by simp [plain]) (by rintro _ rfl; exact rfl)) (wanted_none _ rfl _) ?_
                rintro σ81 ⟨H, -⟩
                have hsl : (Sl a22 s48.1 c23) = (Sl a22 (s48.1.set s48.2.2.toNat (min x53 x69)) c23) := sl_len List.length_set.symm
                rw [hsl]; rw [hsl] at H; clear hsl
                refine w_end ?_
                refine q_then ?_
                obtain ⟨x82, hx83, h'⟩ := bind_some h
                clear h
                have h := h'; clear h'
                obtain ⟨b85, o86, hi84, -⟩ := (H.own 3 rfl).ix hx83
                have hc87 := ((H.own 3 rfl).at hx83 hi84).int
                obtain ⟨x88, hx89, h'⟩ := bind_some h
                clear h
                have h := h'; clear h'
                obtain ⟨b91, o92, hi90, -⟩ := (H.ro 2 rfl).ix hx89
                obtain ⟨v96, hc97, hR95⟩ := ((H.ro 2 rfl).at hx89 hi90).snd.fst.slice
                obtain ⟨a93, c94, rfl⟩ := hR95.isSl
                replace H := H.add (d := Ch.ro 0 (Sl a93 x88.2.1 c94) x88.2.1) hR95 (fun _ h => h)
                clear hR95
                obtain ⟨x98, hx99, h'⟩ := bind_some h
                clear h
                have h := h'; clear h'
                obtain ⟨b101, o102, hi100, -⟩ := (H.ro 0 rfl).ix hx99
                have hc103 := ((H.ro 0 rfl).at hx99 hi100).int
                have Hs := H
                refine rg2 (σ := σ81) (Nm := Unit) 15 [] [[]] [[(0, 0)], [(0, 0)], [(0, 0)], [(0, 0)], [(0, 0)], [(0, 0)], [(0, 0)], [(0, 0)], [(0, 0)], [(0, 0)], [(0, 0)], [(0, 0)], [(0, 0)], [(0, 0)], [(0, 0)]] 0 [fun (_nm : Unit) => fun σm => Hp S0 σ0 σm [Ch.ro 0 (Sl a93 x88.2.1 c94) x88.2.1, Ch.own n0 n0 (Sl a22 (s48.1.set s48.2.2.toNat (min x53 x69)) c23) (s48.1.set s48.2.2.toNat (min x53 x69)), Ch.ro 0 (Sl a64 x59.2.1 c65) x59.2.1, Ch.ro 0 (Sl alist_0 list_0 clist_0) list_0, Ch.own n0 n0 (Sl a38 s48.2.1 c39) s48.2.1] ∧ Md (cov []) σ81 σm] [fun (_nm : Unit) => (Sl a38 s48.2.1 c39), fun (_nm : Unit) => (I s48.2.2), fun (_nm : Unit) => (Sl a38 s48.2.1 c39), fun (_nm : Unit) => (I s48.2.2), fun (_nm : Unit) => (pt b85 o86), fun (_nm : Unit) => (I x82), fun (_nm : Unit) => (Sl alist_0 list_0 clist_0), fun (_nm : Unit) => (I s42.2.2), fun (_nm : Unit) => (pt b91 o92), fun (_nm : Unit) => (pt b91 (o92 + 1)), fun (_nm : Unit) => (Sl a93 x88.2.1 c94), fun (_nm : Unit) => (I s48.2.2), fun (_nm : Unit) => (pt b101 o102), fun (_nm : Unit) => (I x98), fun (_nm : Unit) => (I (max x82 x98))] () (by kernel_rfl) (by kernel_rfl) ?_ ?_ ?_
                · intro σm m0
                  exact ⟨H.grow (m0.mono fun _ h => h.elim), m0⟩
                · refine all_cons (obs_v rfl (by
                      intro k; intro _nm ρ σm hJ hoff hdep
                      have e6 : look 71 ρ 6 = (Sl a38 s48.2.1 c39) := look_off (hoff 6 rfl) rfl
                      exact dp_v (v := (Sl a38 s48.2.1 c39)) (wanted_none _ rfl _) (rv_move e6) rfl hJ)) ?_
                  refine all_cons (obs_v rfl (by
                      intro k; intro _nm ρ σm hJ hoff hdep
                      have e8 : look 71 ρ 8 = (I s48.2.2) := look_off (hoff 8 rfl) rfl
                      exact dp_v (v := (I s48.2.2)) (wanted_none _ rfl _) (rv_move e8) rfl hJ)) ?_
                  refine all_cons (obs_v rfl (by
                      intro k; intro _nm ρ σm hJ hoff hdep
                      have e6 : look 71 ρ 6 = (Sl a38 s48.2.1 c39) := look_off (hoff 6 rfl) rfl
                      exact dp_v (v := (Sl a38 s48.2.1 c39)) (wanted_none _ rfl _) (rv_move e6) rfl hJ)) ?_
                  refine all_cons (obs_v rfl (by
                      intro k; intro _nm ρ σm hJ hoff hdep
                      have e8 : look 71 ρ 8 = (I s48.2.2) := look_off (hoff 8 rfl) rfl
                      exact dp_v (v := (I s48.2.2)) (wanted_none _ rfl _) (rv_move e8) rfl hJ)) ?_
                  refine all_cons (obs_v rfl (by
                      intro k; intro _nm ρ σm hJ hoff hdep
                      have e55 : look 71 ρ 55 = (Sl a38 s48.2.1 c39) := hdep 2 rfl rfl 55 rfl
                      have e56 : look 71 ρ 56 = (I s48.2.2) := hdep 3 rfl rfl 56 rfl
                      exact dp_v (v := (pt b85 o86)) (wanted_none _ rfl _) (rv_ix Try.underlying27 ti3 e55 e56 hi84) rfl hJ)) ?_
                  refine all_cons (by
                      refine ⟨?_, ?_⟩
                      · intro _nm ρ σm hJ hoff hdep
                        have e57 : look 71 ρ 57 = (pt b85 o86) := hdep 4 rfl rfl 57 rfl
                        obtain ⟨H, m⟩ := (show Hp S0 σ0 σm [Ch.ro 0 (Sl a93 x88.2.1 c94) x88.2.1, Ch.own n0 n0 (Sl a22 (s48.1.set s48.2.2.toNat (min x53 x69)) c23) (s48.1.set s48.2.2.toNat (min x53 x69)), Ch.ro 0 (Sl a64 x59.2.1 c65) x59.2.1, Ch.ro 0 (Sl alist_0 list_0 clist_0) list_0, Ch.own n0 n0 (Sl a38 s48.2.1 c39) s48.2.1] ∧ Md (cov []) σ81 σm from hJ)
                        have hc87 := ((H.own 4 rfl).at hx83 hi84).int
                        exact dp_v (v := (I x82)) (wanted_none _ rfl _) (rv_load1 Try.underlying3 rfl e57 hc87) rfl hJ
                      trivial) ?_
                  refine all_cons (obs_v rfl (by
                      intro k; intro _nm ρ σm hJ hoff hdep
                      have e0 : look 71 ρ 0 = (Sl alist_0 list_0 clist_0) := look_off (hoff 0 rfl) rfl
                      exact dp_v (v := (Sl alist_0 list_0 clist_0)) (wanted_none _ rfl _) (rv_move e0) rfl hJ)) ?_
                  refine all_cons (obs_v rfl (by
                      intro k; intro _nm ρ σm hJ hoff hdep
                      have e7 : look 71 ρ 7 = (I s42.2.2) := look_off (hoff 7 rfl) rfl
                      exact dp_v (v := (I s42.2.2)) (wanted_none _ rfl _) (rv_move e7) rfl hJ)) ?_
                  refine all_cons (obs_v rfl (by
                      intro k; intro _nm ρ σm hJ hoff hdep
                      have e59 : look 71 ρ 59 = (Sl alist_0 list_0 clist_0) := hdep 6 rfl rfl 59 rfl
                      have e60 : look 71 ρ 60 = (I s42.2.2) := hdep 7 rfl rfl 60 rfl
                      exact dp_v (v := (pt b91 o92)) (wanted_none _ rfl _) (rv_ix Try.underlying23 ti29 e59 e60 hi90) rfl hJ)) ?_
                  refine all_cons (obs_v rfl (by
                      intro k; intro _nm ρ σm hJ hoff hdep
                      have e61 : look 71 ρ 61 = (pt b91 o92) := hdep 8 rfl rfl 61 rfl
                      exact dp_v (v := (pt b91 (o92 + 1))) (wanted_none _ rfl _) (rv_fieldAddr (off := 1) (ft := 27) Try.underlying29 rfl ti27 rfl e61) rfl hJ)) ?_
                  refine all_cons (by
                      refine ⟨?_, ?_⟩
                      · intro _nm ρ σm hJ hoff hdep
                        have e62 : look 71 ρ 62 = (pt b91 (o92 + 1)) := hdep 9 rfl rfl 62 rfl
                        obtain ⟨H, m⟩ := (show Hp S0 σ0 σm [Ch.ro 0 (Sl a93 x88.2.1 c94) x88.2.1, Ch.own n0 n0 (Sl a22 (s48.1.set s48.2.2.toNat (min x53 x69)) c23) (s48.1.set s48.2.2.toNat (min x53 x69)), Ch.ro 0 (Sl a64 x59.2.1 c65) x59.2.1, Ch.ro 0 (Sl alist_0 list_0 clist_0) list_0, Ch.own n0 n0 (Sl a38 s48.2.1 c39) s48.2.1] ∧ Md (cov []) σ81 σm from hJ)
                        replace hc97 := (Hs.ro 3 rfl).hmd hx89 hi90 (k := 1) (by decide) hc97 m
                        exact dp_v (v := (Sl a93 x88.2.1 c94)) (wanted_none _ rfl _) (rv_load1 Try.underlying27 rfl e62 hc97) rfl hJ
                      trivial) ?_
                  refine all_cons (obs_v rfl (by
                      intro k; intro _nm ρ σm hJ hoff hdep
                      have e8 : look 71 ρ 8 = (I s48.2.2) := look_off (hoff 8 rfl) rfl
                      exact dp_v (v := (I s48.2.2)) (wanted_none _ rfl _) (rv_move e8) rfl hJ)) ?_
                  refine all_cons (obs_v rfl (by
                      intro k; intro _nm ρ σm hJ hoff hdep
                      have e63 : look 71 ρ 63 = (Sl a93 x88.2.1 c94) := hdep 10 rfl rfl 63 rfl
                      have e64 : look 71 ρ 64 = (I s48.2.2) := hdep 11 rfl rfl 64 rfl
                      exact dp_v (v := (pt b101 o102)) (wanted_none _ rfl _) (rv_ix Try.underlying27 ti3 e63 e64 hi100) rfl hJ)) ?_
                  refine all_cons (by
                      refine ⟨?_, ?_⟩
                      · intro _nm ρ σm hJ hoff hdep
                        have e65 : look 71 ρ 65 = (pt b101 o102) := hdep 12 rfl rfl 65 rfl
                        obtain ⟨H, m⟩ := (show Hp S0 σ0 σm [Ch.ro 0 (Sl a93 x88.2.1 c94) x88.2.1, Ch.own n0 n0 (Sl a22 (s48.1.set s48.2.2.toNat (min x53 x69)) c23) (s48.1.set s48.2.2.toNat (min x53 x69)), Ch.ro 0 (Sl a64 x59.2.1 c65) x59.2.1, Ch.ro 0 (Sl alist_0 list_0 clist_0) list_0, Ch.own n0 n0 (Sl a38 s48.2.1 c39) s48.2.1] ∧ Md (cov []) σ81 σm from hJ)
                        replace hc103 := (Hs.ro 0 rfl).hmd hx99 hi100 (k := 0) (by decide) hc103 m
                        exact dp_v (v := (I x98)) (wanted_none _ rfl _) (rv_load1 Try.underlying3 rfl e65 hc103) rfl hJ
                      trivial) ?_
                  refine all_cons (obs_v rfl (by
                      intro k; intro _nm ρ σm hJ hoff hdep
                      have e58 : look 71 ρ 58 = (I x82) := hdep 5 rfl rfl 58 rfl
                      have e66 : look 71 ρ 66 = (I x98) := hdep 13 rfl rfl 66 rfl
                      exact dp_v (v := (I (max x82 x98))) (wanted_none _ rfl _) (rv_max e58 e66) rfl hJ)) ?_
                  exact all_nil
                · intro _nm ρ σ104 hJ hoff hrel
                  have e0 : look 71 ρ 0 = (Sl alist_0 list_0 clist_0) := look_off (hoff 0 rfl) rfl
                  have e5 : look 71 ρ 5 = (Sl a22 (s48.1.set s48.2.2.toNat (min x53 x69)) c23) := look_off (hoff 5 rfl) rfl
                  have e6 : look 71 ρ 6 = (Sl a38 s48.2.1 c39) := look_off (hoff 6 rfl) rfl
                  have e7 : look 71 ρ 7 = (I s42.2.2) := look_off (hoff 7 rfl) rfl
                  have e8 : look 71 ρ 8 = (I s48.2.2) := look_off (hoff 8 rfl) rfl
                  have e53 : look 71 ρ 53 = (Sl a38 s48.2.1 c39) := hrel 0 rfl 53 rfl
                  have e54 : look 71 ρ 54 = (I s48.2.2) := hrel 1 rfl 54 rfl
                  have e67 : look 71 ρ 67 = (I (max x82 x98)) := hrel 14 rfl 67 rfl
                  obtain ⟨H, -⟩ := (show Hp S0 σ0 σ104 [Ch.ro 0 (Sl a93 x88.2.1 c94) x88.2.1, Ch.own n0 n0 (Sl a22 (s48.1.set s48.2.2.toNat (min x53 x69)) c23) (s48.1.set s48.2.2.toNat (min x53 x69)), Ch.ro 0 (Sl a64 x59.2.1 c65) x59.2.1, Ch.ro 0 (Sl alist_0 list_0 clist_0) list_0, Ch.own n0 n0 (Sl a38 s48.2.1 c39) s48.2.1] ∧ Md (cov []) σ81 σ104 from hJ)
                  clear hJ Hs
                  rw [fr_lookL (L := [(0, (Sl alist_0 list_0 clist_0)), (5, (Sl a22 (s48.1.set s48.2.2.toNat (min x53 x69)) c23)), (6, (Sl a38 s48.2.1 c39)), (7, (I s42.2.2)), (8, (I s48.2.2)), (53, (Sl a38 s48.2.1 c39)), (54, (I s48.2.2)), (67, (I (max x82 x98)))]) ⟨e0, e5, e6, e7, e8, e53, e54, e67, trivial⟩]
                  clear hoff hrel e0 e5 e6 e7 e8 e53 e54 e67
                  obtain ⟨x105, hx106, h'⟩ := bind_some h
                  clear h
                  have h := h'; clear h'
                  obtain ⟨b108, o109, hi107, -⟩ := (H.own 4 rfl).ix hx106
                  refine st (v := (pt b108 o109)) (rv_ix Try.underlying27 ti3 rfl rfl hi107) ?_
                  refine st_exS (ex_store_own (e' := (max x82 x98)) (vs := [(I (max x82 x98))]) (k := 0) H (i := 4) rfl ti3 hx106 hi107 rfl rfl rfl rfl rfl (Nat.le_of_ble_eq_true rfl) (by simp [plain]) (by rintro _ rfl; exact rfl)) (wanted_none _ rfl _) ?_
                  rintro σ110 ⟨H, -⟩
                  have hsl : (Sl a38 s48.2.1 c39) = (Sl a38 (s48.2.1.set s48.2.2.toNat (max x82 x98)) c39) := sl_len List.length_set.symm
                  rw [hsl]; rw [hsl] at H; clear hsl
                  refine w_end ?_
                  refine q_blk ?_
                  refine q_then ?_
                  refine rg ?_
                  refine st (v := (I s48.2.2)) (rv_move rfl) ?_
                  refine st (v := (I (w64 (s48.2.2 + 1)))) (rv_add (a := s48.2.2) (b := 1) rfl rfl) ?_
                  refine st (v := (I (w64 (s48.2.2 + 1)))) (rv_assign rfl) ?_
                  refine w_end ?_
                  refine q_then ?_
                  obtain rfl := Option.some.inj h
                  exact ⟨_, rfl, _, σ110, fr_join ⟨rfl, rfl, rfl, rfl, rfl, trivial⟩, rfl, H.sel' [4, 2, 0] rfl rfl, ((List.length_set.trans (hn50.trans hn44)).trans hn44.symm), ((List.length_set.trans (hn51.trans hn45)).trans hn45.symm)⟩
            · replace h := bif_f hb52 h
              refine c_exit ?_
              refine q_then_x ?_
              refine q_then_x ?_
              refine q_blk_hit ?_
              obtain rfl := Option.some.inj h
              obtain rfl := hres _ rfl
              exact ⟨rfl, _, σ49, fr_join ⟨rfl, rfl, rfl, rfl, trivial⟩, rfl, H.sel' [0, 1, 2] rfl rfl, ((hn50.trans hn44).trans hn44.symm), ((hn51.trans hn45).trans hn45.symm)⟩
          · clear hj
            have h := h'
            clear h' H
            rintro e a w ⟨rfl, ρ, σ111, rfl, rfl, H, hn112, hn113⟩
            refine q_blk ?_
            refine q_then ?_
            refine rg ?_
            refine st (v := (I s42.2.2)) (rv_move rfl) ?_
            refine st (v := (I (w64 (s42.2.2 + 1)))) (rv_add (a := s42.2.2) (b := 1) rfl rfl) ?_
            refine st (v := (I (w64 (s42.2.2 + 1)))) (rv_assign rfl) ?_
            refine w_end ?_
            refine q_then ?_
            obtain rfl := Option.some.inj h
            exact ⟨_, rfl, _, σ111, fr_join ⟨rfl, rfl, rfl, rfl, trivial⟩, rfl, H.sel' [0, 1, 2] rfl rfl, (hn112.trans hn44), (hn113.trans hn45)⟩
        · replace h := bif_f hb46 h
          refine c_exit ?_
          refine q_then_x ?_
          refine q_then_x ?_
          refine q_blk_hit ?_
          obtain rfl := Option.some.inj h
          obtain rfl := hres _ rfl
          exact ⟨rfl, _, σ43, fr_join ⟨rfl, rfl, trivial⟩, rfl, H.sel' [1, 2] rfl rfl, hn44, hn45⟩
      · clear hj
        have h := h'
        clear h' H
        rintro e a w ⟨rfl, ρ, σ114, rfl, rfl, H, hn115, hn116⟩
        refine q_then ?_
        refine c_seq ?_
        refine rg ?_
        refine st (v := (Sl a22 o41.1 c23)) (rv_move rfl) ?_
        refine st (v := (Sl a38 o41.2 c39)) (rv_move rfl) ?_
        refine st (v := (Sl a22 o41.1 c23)) (rv_assign rfl) ?_
        refine st (v := (Sl a38 o41.2 c39)) (rv_assign rfl) ?_
        refine st (v := (B true)) (rv_assign rfl) ?_
        refine w_end ?_
        refine q_then ?_
        refine c_ret ?_
        obtain rfl := Option.some.inj h
        exact fin_ret (v := (.tuple #[(Sl a22 o41.1 c23), (Sl a38 o41.2 c39), (B true)])) (results_ok Try.results29 (res_tmp (v := (Sl a22 o41.1 c23)) rfl (res_tmp (v := (Sl a38 o41.2 c39)) rfl (res_tmp (v := (B true)) rfl res_nil))) rfl) ⟨a22, c23, a38, c39, rfl, rfl⟩ (H.sel' [0, 1] rfl rfl)

theorem c_laws_equalInts {a_0 : List Int} {b_1 : List Int} {aa_0 : Option Addr} {ca_0 : Nat} {ab_1 : Option Addr} {cb_1 : Nat} {r : Bool} (h : M.laws_equalInts a_0 b_1 = some r) :
    Cal2 Try.prog 30 [(Sl aa_0 a_0 ca_0), (Sl ab_1 b_1 cb_1)] [Ch.ro 0 (Sl aa_0 a_0 ca_0) a_0, Ch.ro 0 (Sl ab_1 b_1 cb_1) b_1] (fun n0 v L => v = (B r) ∧ L = []) := by
  refine cal2 (n := 26) Try.func30 rfl rfl rfl rfl ?_
  intro S0 σ0 n0 hn0 H
  unfold M.laws_equalInts at h
  refine c_seq ?_
  refine rg ?_
  refine st (v := (B false)) (rv_assign rfl) ?_
  refine w_end ?_
  refine q_then ?_
  refine c_seq ?_
  refine c_seq ?_
  refine rg ?_
  refine st (v := (Sl aa_0 a_0 ca_0)) (rv_move rfl) ?_
  refine st (v := (I (a_0.length : Int))) (rv_len Try.underlying27 rfl) ?_
  refine st (v := (Sl ab_1 b_1 cb_1)) (rv_move rfl) ?_
  refine st (v := (I (b_1.length : Int))) (rv_len Try.underlying27 rfl) ?_
  refine st (v := (B ((a_0.length : Int) != (b_1.length : Int)))) (rv_neq (a := (a_0.length : Int)) (b := (b_1.length : Int)) rfl rfl) ?_
  refine w_end ?_
  refine q_then ?_
  refine cd_cond ((a_0.length : Int) != (b_1.length : Int)) rfl (fun hb1 => ?_) (fun hb1 => ?_)
  · replace h := bif_t hb1 h
    refine c_seq ?_
    refine rg ?_
    refine st (v := (B false)) (rv_assign rfl) ?_
    refine w_end ?_
    refine q_then ?_
    refine c_ret ?_
    refine q_then_r ?_
    obtain rfl := Option.some.inj h
    exact fin_ret (v := (B false)) (results_ok Try.results30 (res_tmp (v := (B false)) rfl res_nil) rfl) ⟨rfl, rfl⟩ (H.sel' [] rfl rfl)
  · replace h := bif_f hb1 h
    refine c_skip ?_
    refine q_then ?_
    refine c_seq ?_
    refine c_seq ?_
    refine rg ?_
    refine st (v := (I 0)) (rv_assign rfl) ?_
    refine w_end ?_
    refine q_then ?_
    obtain ⟨o2, hj, h'⟩ := bind_some h
    clear h
    refine c_cut (fun e a w => (∃ t, o2 = (.inl t) ∧ e = .normal ∧ ∃ (ρ : Nat → Value) (σ : St), a = fr 26 (updL ρ []) ∧ w = σ.w ∧ Hp S0 σ0 σ []) ∨ (∃ t, o2 = (.inr t) ∧ e = .ret ∧ ∃ (ρ : Nat → Value) (σ : St), a = fr 26 (updL ρ [(4, (B t))]) ∧ w = σ.w ∧ Hp S0 σ0 σ [])) ?_ ?_
    · clear h'
      rename _ = some o2 => h
      refine c_blk ?_
      refine wp_loopM _ h (fun s3 a w => ∃ (ρ : Nat → Value) (σ : St), a = fr 26 (updL ρ [(0, (Sl aa_0 a_0 ca_0)), (1, (Sl ab_1 b_1 cb_1)), (5, (I s3))]) ∧ w = σ.w ∧ Hp S0 σ0 σ [Ch.ro 0 (Sl aa_0 a_0 ca_0) a_0, Ch.ro 0 (Sl ab_1 b_1 cb_1) b_1]) ⟨_, σ0, fr_join ⟨rfl, rfl, rfl, trivial⟩, rfl, H.sel' [0, 1] rfl rfl⟩ ?_
      clear h H
      rintro s3 a w o ⟨ρ, σ4, rfl, rfl, H⟩ h hres
      refine c_seq ?_
      refine c_seq ?_
      refine rg ?_
      refine st (v := (I s3)) (rv_move rfl) ?_
      refine st (v := (Sl aa_0 a_0 ca_0)) (rv_move rfl) ?_
      refine st (v := (I (a_0.length : Int))) (rv_len Try.underlying27 rfl) ?_
      refine st (v := (B (decide (s3 < (a_0.length : Int))))) (rv_lss (a := s3) (b := (a_0.length : Int)) rfl rfl) ?_
      refine w_end ?_
      refine q_then ?_
      refine cd_cond (decide (s3 < (a_0.length : Int))) rfl (fun hb5 => ?_) (fun hb5 => ?_)
      · replace h := bif_t hb5 h
        refine c_skip ?_
        refine q_then ?_
        refine c_seq ?_
        refine c_blk ?_
        refine c_seq ?_
        obtain ⟨x6, hx7, h'⟩ := bind_some h
        clear h
        have h := h'; clear h'
        obtain ⟨b9, o10, hi8, -⟩ := (H.ro 0 rfl).ix hx7
        have hc11 := ((H.ro 0 rfl).at hx7 hi8).int
        obtain ⟨x12, hx13, h'⟩ := bind_some h
        clear h
        have h := h'; clear h'
        obtain ⟨b15, o16, hi14, -⟩ := (H.ro 1 rfl).ix hx13
        have hc17 := ((H.ro 1 rfl).at hx13 hi14).int
        have Hs := H
        refine rg2 (σ := σ4) (Nm := Unit) 8 [] [[]] [[(0, 0)], [(0, 0)], [(0, 0)], [(0, 0)], [(0, 0)], [(0, 0)], [(0, 0)], [(0, 0)]] 0 [fun (_nm : Unit) => fun σm => Hp S0 σ0 σm [Ch.ro 0 (Sl aa_0 a_0 ca_0) a_0, Ch.ro 0 (Sl ab_1 b_1 cb_1) b_1] ∧ Md (cov []) σ4 σm] [fun (_nm : Unit) => (Sl aa_0 a_0 ca_0), fun (_nm : Unit) => (I s3), fun (_nm : Unit) => (pt b9 o10), fun (_nm : Unit) => (I x6), fun (_nm : Unit) => (Sl ab_1 b_1 cb_1), fun (_nm : Unit) => (I s3), fun (_nm : Unit) => (pt b15 o16), fun (_nm : Unit) => (I x12)] () (by kernel_rfl) (by kernel_rfl) ?_ ?_ ?_
        · intro σm m0
          exact ⟨H.grow (m0.mono fun _ h => h.elim), m0⟩
        · refine all_cons (obs_v rfl (by
              intro k; intro _nm ρ σm hJ hoff hdep
              have e0 : look 26 ρ 0 = (Sl aa_0 a_0 ca_0) := look_off (hoff 0 rfl) rfl
              exact dp_v (v := (Sl aa_0 a_0 ca_0)) (wanted_none _ rfl _) (rv_move e0) rfl hJ)) ?_
          refine all_cons (obs_v rfl (by
              intro k; intro _nm ρ σm hJ hoff hdep
              have e5 : look 26 ρ 5 = (I s3) := look_off (hoff 5 rfl) rfl
              exact dp_v (v := (I s3)) (wanted_none _ rfl _) (rv_move e5) rfl hJ)) ?_
          refine all_cons (obs_v rfl (by
              intro k; intro _nm ρ σm hJ hoff hdep
              have e17 : look 26 ρ 17 = (Sl aa_0 a_0 ca_0) := hdep 0 rfl rfl 17 rfl
              have e18 : look 26 ρ 18 = (I s3) := hdep 1 rfl rfl 18 rfl
              exact dp_v (v := (pt b9 o10)) (wanted_none _ rfl _) (rv_ix Try.underlying27 ti3 e17 e18 hi8) rfl hJ)) ?_
          refine all_cons (by
              refine ⟨?_, ?_⟩
              · intro _nm ρ σm hJ hoff hdep
                have e19 : look 26 ρ 19 = (pt b9 o10) := hdep 2 rfl rfl 19 rfl
                obtain ⟨H, m⟩ := (show Hp S0 σ0 σm [Ch.ro 0 (Sl aa_0 a_0 ca_0) a_0, Ch.ro 0 (Sl ab_1 b_1 cb_1) b_1] ∧ Md (cov []) σ4 σm from hJ)
                replace hc11 := (Hs.ro 0 rfl).hmd hx7 hi8 (k := 0) (by decide) hc11 m
                exact dp_v (v := (I x6)) (wanted_none _ rfl _) (rv_load1 Try.underlying3 rfl e19 hc11) rfl hJ
              trivial) ?_
          refine all_cons (obs_v rfl (by
              intro k; intro _nm ρ σm hJ hoff hdep
              have e1 : look 26 ρ 1 = (Sl ab_1 b_1 cb_1) := look_off (hoff 1 rfl) rfl
              exact dp_v (v := (Sl ab_1 b_1 cb_1)) (wanted_none _ rfl _) (rv_move e1) rfl hJ)) ?_
          refine all_cons (obs_v rfl (by
              intro k; intro _nm ρ σm hJ hoff hdep
              have e5 : look 26 ρ 5 = (I s3) := look_off (hoff 5 rfl) rfl
              exact dp_v (v := (I s3)) (wanted_none _ rfl _) (rv_move e5) rfl hJ)) ?_
          refine all_cons (obs_v rfl (by
              intro k; intro _nm ρ σm hJ hoff hdep
              have e21 : look 26 ρ 21 = (Sl ab_1 b_1 cb_1) := hdep 4 rfl rfl 21 rfl
              have e22 : look 26 ρ 22 = (I s3) := hdep 5 rfl rfl 22 rfl
              exact dp_v (v := (pt b15 o16)) (wanted_none _ rfl _) (rv_ix Try.underlying27 ti3 e21 e22 hi14) rfl hJ)) ?_
          refine all_cons (by
              refine ⟨?_, ?_⟩
              · intro _nm ρ σm hJ hoff hdep
                have e23 : look 26 ρ 23 = (pt b15 o16) := hdep 6 rfl rfl 23 rfl
                obtain ⟨H, m⟩ := (show Hp S0 σ0 σm [Ch.ro 0 (Sl aa_0 a_0 ca_0) a_0, Ch.ro 0 (Sl ab_1 b_1 cb_1) b_1] ∧ Md (cov []) σ4 σm from hJ)
                replace hc17 := (Hs.ro 1 rfl).hmd hx13 hi14 (k := 0) (by decide) hc17 m
                exact dp_v (v := (I x12)) (wanted_none _ rfl _) (rv_load1 Try.underlying3 rfl e23 hc17) rfl hJ
              trivial) ?_
          exact all_nil
        · intro _nm ρ σ18 hJ hoff hrel
          have e0 : look 26 ρ 0 = (Sl aa_0 a_0 ca_0) := look_off (hoff 0 rfl) rfl
          have e1 : look 26 ρ 1 = (Sl ab_1 b_1 cb_1) := look_off (hoff 1 rfl) rfl
          have e5 : look 26 ρ 5 = (I s3) := look_off (hoff 5 rfl) rfl
          have e20 : look 26 ρ 20 = (I x6) := hrel 3 rfl 20 rfl
          have e24 : look 26 ρ 24 = (I x12) := hrel 7 rfl 24 rfl
          obtain ⟨H, -⟩ := (show Hp S0 σ0 σ18 [Ch.ro 0 (Sl aa_0 a_0 ca_0) a_0, Ch.ro 0 (Sl ab_1 b_1 cb_1) b_1] ∧ Md (cov []) σ4 σ18 from hJ)
          clear hJ Hs
          rw [fr_lookL (L := [(0, (Sl aa_0 a_0 ca_0)), (1, (Sl ab_1 b_1 cb_1)), (5, (I s3)), (20, (I x6)), (24, (I x12))]) ⟨e0, e1, e5, e20, e24, trivial⟩]
          clear hoff hrel e0 e1 e5 e20 e24
          refine st (v := (B (x6 != x12))) (rv_neq (a := x6) (b := x12) rfl rfl) ?_
          refine w_end ?_
          refine q_then ?_
          refine cd_cond (x6 != x12) rfl (fun hb19 => ?_) (fun hb19 => ?_)
          · replace h := bif_t hb19 h
            refine c_seq ?_
            refine rg ?_
            refine st (v := (B false)) (rv_assign rfl) ?_
            refine w_end ?_
            refine q_then ?_
            refine c_ret ?_
            refine q_blk_r ?_
            refine q_then_r ?_
            refine q_then_r ?_
            refine q_blk_r ?_
            obtain rfl := Option.some.inj h
            obtain rfl := hres _ rfl
            exact .inr (⟨_, rfl, rfl, _, σ18, fr_join ⟨rfl, trivial⟩, rfl, H.sel' [] rfl rfl⟩)
          · replace h := bif_f hb19 h
            refine c_skip ?_
            refine q_blk ?_
            refine q_then ?_
            refine rg ?_
            refine st (v := (I s3)) (rv_move rfl) ?_
            refine st (v := (I (w64 (s3 + 1)))) (rv_add (a := s3) (b := 1) rfl rfl) ?_
            refine st (v := (I (w64 (s3 + 1)))) (rv_assign rfl) ?_
            refine w_end ?_
            refine q_then ?_
            obtain rfl := Option.some.inj h
            exact ⟨_, rfl, _, σ18, fr_join ⟨rfl, rfl, rfl, trivial⟩, rfl, H.sel' [0, 1] rfl rfl⟩
      · replace h := bif_f hb5 h
        refine c_exit ?_
        refine q_then_x ?_
        refine q_then_x ?_
        refine q_blk_hit ?_
        obtain rfl := Option.some.inj h
        obtain rfl := hres _ rfl
        exact .inl ⟨_, rfl, rfl, _, σ4, fr_join trivial, rfl, H.sel' [] rfl rfl⟩
    · clear hj
      have h := h'
      clear h' H
      rintro e a w (⟨t20, rfl, rfl, ρ, σ21, rfl, rfl, H⟩ | ⟨t22, rfl, rfl, ρ, σ23, rfl, rfl, H⟩)
      · replace h := selim_l h
        refine q_then ?_
        refine c_seq ?_
        refine rg ?_
        refine st (v := (B true)) (rv_assign rfl) ?_
        refine w_end ?_
        refine q_then ?_
        refine c_ret ?_
        obtain rfl := Option.some.inj h
        exact fin_ret (v := (B true)) (results_ok Try.results30 (res_tmp (v := (B true)) rfl res_nil) rfl) ⟨rfl, rfl⟩ (H.sel' [] rfl rfl)
      · replace h := selim_r h
        refine q_then_r ?_
        obtain rfl := Option.some.inj h
        exact fin_ret (v := (B t22)) (results_ok Try.results30 (res_tmp (v := (B t22)) rfl res_nil) rfl) ⟨rfl, rfl⟩ (H.sel' [] rfl rfl)

theorem c_laws_FnBoundsOfTight {code_0 : List UInt8} {acode_0 : Option Addr} {ccode_0 : Nat} {r : Bool} (h : M.laws_FnBoundsOfTight code_0 = some r) :
    Cal2 Try.prog 9 [(Sl acode_0 code_0 ccode_0)] [Ch.ro 0 (Sl acode_0 code_0 ccode_0) code_0] (fun n0 v L => v = (B r) ∧ L = []) := by
  refine cal2 (n := 111) Try.func9 rfl rfl rfl rfl ?_
  intro S0 σ0 n0 hn0 H
  unfold M.laws_FnBoundsOfTight at h
  refine c_seq ?_
  refine rg ?_
  refine st (v := (B false)) (rv_assign rfl) ?_
  refine w_end ?_
  refine q_then ?_
  refine c_seq ?_
  refine c_seq ?_
  refine rg ?_
  refine st (v := (Sl acode_0 code_0 ccode_0)) (rv_move rfl) ?_
  refine st (v := (I (code_0.length : Int))) (rv_len Try.underlying22 rfl) ?_
  refine st (v := (B (decide (1048576 < (code_0.length : Int))))) (rv_gtr (a := (code_0.length : Int)) (b := 1048576) rfl rfl) ?_
  refine w_end ?_
  refine q_then ?_
  refine cd_cond (decide (1048576 < (code_0.length : Int))) rfl (fun hb1 => ?_) (fun hb1 => ?_)
  · replace h := bif_t hb1 h
    refine c_seq ?_
    refine rg ?_
    refine st (v := (B true)) (rv_assign rfl) ?_
    refine w_end ?_
    refine q_then ?_
    refine c_ret ?_
    refine q_then_r ?_
    obtain rfl := Option.some.inj h
    exact fin_ret (v := (B true)) (results_ok Try.results9 (res_tmp (v := (B true)) rfl res_nil) rfl) ⟨rfl, rfl⟩ (H.sel' [] rfl rfl)
  · replace h := bif_f hb1 h
    refine c_skip ?_
    refine q_then ?_
    refine c_seq ?_
    refine rg ?_
    refine st (v := (Sl acode_0 code_0 ccode_0)) (rv_move rfl) ?_
    obtain ⟨r2, hx3, h'⟩ := bind_some h
    clear h
    have h := h'; clear h'
    have hc4 := c_spec_DrawBoundsOf (acode_0 := acode_0) (ccode_0 := ccode_0) hx3
    refine st_call (cx_call hc4 (ent_f hc4.fn rfl) hn0 (show Hp S0 σ0 _ ([Ch.ro 0 (Sl acode_0 code_0 ccode_0) code_0] ++ [Ch.ro 0 (Sl acode_0 code_0 ccode_0) code_0]) from (H.sel' [0, 0] rfl rfl))) (wanted_none _ rfl _) ?_
    rintro _ σ7 ⟨_, ⟨a5, c6, rfl, rfl⟩, H, -⟩
    replace H : Hp S0 σ0 σ7 [Ch.own n0 n0 (Sl a5 r2 c6) r2, Ch.ro 0 (Sl acode_0 code_0 ccode_0) code_0] := H
    refine st (v := (Sl a5 r2 c6)) (rv_assign rfl) ?_
    refine w_end ?_
    refine q_then ?_
    refine c_seq ?_
    refine rg ?_
    refine st (v := (Sl a5 r2 c6)) (rv_move rfl) ?_
    obtain ⟨r8, hx9, h'⟩ := bind_some h
    clear h
    have h := h'; clear h'
    have hc10 := c_impl_BoundsOf (alist_0 := a5) (clist_0 := c6) hx9
    have hle := Nat.le_trans hn0 H.size
    refine st_call (cx_lend (Loan.lend Loan.nil) hc10 (ent_f hc10.fn rfl) (show Hp S0 σ0 _ ([Ch.own n0 n0 (Sl a5 r2 c6) r2] ++ ([] ++ [Ch.ro 0 (Sl acode_0 code_0 ccode_0) code_0])) from (H.sel' [0, 1] rfl rfl)) (by rintro _ _ _ ⟨_, _, _, _, rfl, rfl, _, _⟩; exact ⟨Ab.ownSc, Ab.ownSc, trivial⟩)) (wanted_none _ rfl _) ?_
    rintro _ σ17 ⟨_, ⟨a11, c12, a14, c15, rfl, rfl, ht13, ht16⟩, H, -, -⟩
    replace H : Hp S0 σ0 σ17 [Ch.own σ7.size σ7.size (Sl a11 r8.1 c12) r8.1, Ch.own σ7.size σ7.size (Sl a14 r8.2.1 c15) r8.2.1, Ch.own n0 n0 (Sl a5 r2 c6) r2, Ch.ro 0 (Sl acode_0 code_0 ccode_0) code_0] := H
    replace H := H.ownLow 0 n0 n0 rfl hle hle
    replace H := H.ownLow 1 n0 n0 rfl hle hle
    clear hle
    replace H : Hp S0 σ0 σ17 [Ch.own n0 n0 (Sl a14 r8.2.1 c15) r8.2.1, Ch.own n0 n0 (Sl a11 r8.1 c12) r8.1, Ch.own n0 n0 (Sl a5 r2 c6) r2, Ch.ro 0 (Sl acode_0 code_0 ccode_0) code_0] := H
    refine st (v := (.tuple #[(Sl a11 r8.1 c12), (Sl a14 r8.2.1 c15), (B r8.2.2)])) (rv_move rfl) ?_
    refine st (v := (Sl a11 r8.1 c12)) (rv_extract rfl rfl) ?_
    refine st (v := (Sl a14 r8.2.1 c15)) (rv_extract rfl rfl) ?_
    refine st (v := (B r8.2.2)) (rv_extract rfl rfl) ?_
    refine st (v := (Sl a11 r8.1 c12)) (rv_assign rfl) ?_
    refine st (v := (Sl a14 r8.2.1 c15)) (rv_assign rfl) ?_
    refine st (v := (B r8.2.2)) (rv_assign rfl) ?_
    refine w_end ?_
    refine q_then ?_
    refine c_seq ?_
    refine rg ?_
    refine st (v := (Sl a5 r2 c6)) (rv_move rfl) ?_
    obtain ⟨r18, hx19, h'⟩ := bind_some h
    clear h
    have h := h'; clear h'
    have hc20 := c_spec_BoundsOf (alist_0 := a5) (clist_0 := c6) hx19
    have hle := Nat.le_trans hn0 H.size
    refine st_call (cx_lend (Loan.lend Loan.nil) hc20 (ent_f hc20.fn rfl) (show Hp S0 σ0 _ ([Ch.own n0 n0 (Sl a5 r2 c6) r2] ++ ([] ++ [Ch.own n0 n0 (Sl a14 r8.2.1 c15) r8.2.1, Ch.own n0 n0 (Sl a11 r8.1 c12) r8.1, Ch.ro 0 (Sl acode_0 code_0 ccode_0) code_0])) from (H.sel' [2, 0, 1, 3] rfl rfl)) (by rintro _ _ _ ⟨_, _, _, _, rfl, rfl⟩; exact ⟨Ab.ownSc, Ab.ownSc, trivial⟩)) (wanted_none _ rfl _) ?_
    rintro _ σ25 ⟨_, ⟨a21, c22, a23, c24, rfl, rfl⟩, H, -, -⟩
    replace H : Hp S0 σ0 σ25 [Ch.own σ17.size σ17.size (Sl a21 r18.1 c22) r18.1, Ch.own σ17.size σ17.size (Sl a23 r18.2.1 c24) r18.2.1, Ch.own n0 n0 (Sl a5 r2 c6) r2, Ch.own n0 n0 (Sl a14 r8.2.1 c15) r8.2.1, Ch.own n0 n0 (Sl a11 r8.1 c12) r8.1, Ch.ro 0 (Sl acode_0 code_0 ccode_0) code_0] := H
    replace H := H.ownLow 0 n0 n0 rfl hle hle
    replace H := H.ownLow 1 n0 n0 rfl hle hle
    clear hle
    replace H : Hp S0 σ0 σ25 [Ch.own n0 n0 (Sl a23 r18.2.1 c24) r18.2.1, Ch.own n0 n0 (Sl a21 r18.1 c22) r18.1, Ch.own n0 n0 (Sl a5 r2 c6) r2, Ch.own n0 n0 (Sl a14 r8.2.1 c15) r8.2.1, Ch.own n0 n0 (Sl a11 r8.1 c12) r8.1, Ch.ro 0 (Sl acode_0 code_0 ccode_0) code_0] := H
    refine st (v := (.tuple #[(Sl a21 r18.1 c22), (Sl a23 r18.2.1 c24), (B r18.2.2)])) (rv_move rfl) ?_
    refine st (v := (Sl a21 r18.1 c22)) (rv_extract rfl rfl) ?_
    refine st (v := (Sl a23 r18.2.1 c24)) (rv_extract rfl rfl) ?_
    refine st (v := (B r18.2.2)) (rv_extract rfl rfl) ?_
    refine st (v := (Sl a21 r18.1 c22)) (rv_assign rfl) ?_
    refine st (v := (Sl a23 r18.2.1 c24)) (rv_assign rfl) ?_
    refine st (v := (B r18.2.2)) (rv_assign rfl) ?_
    refine w_end ?_
    refine q_then ?_
    refine c_seq ?_
    refine c_seq ?_
    obtain ⟨o26, hj, h'⟩ := bind_some h
    clear h
    refine c_cut (fun e a w => e = .normal ∧ ∃ (ρ : Nat → Value) (σ : St), a = fr 111 (updL ρ [(3, (Sl a5 r2 c6)), (4, (Sl a11 r8.1 c12)), (5, (Sl a14 r8.2.1 c15)), (6, (B r8.2.2)), (7, (Sl a21 r18.1 c22)), (8, (Sl a23 r18.2.1 c24)), (9, (B r18.2.2)), (49, (B o26))]) ∧ w = σ.w ∧ Hp S0 σ0 σ [Ch.own n0 n0 (Sl a5 r2 c6) r2, Ch.own n0 n0 (Sl a11 r8.1 c12) r8.1, Ch.own n0 n0 (Sl a14 r8.2.1 c15) r8.2.1, Ch.own n0 n0 (Sl a21 r18.1 c22) r18.1, Ch.own n0 n0 (Sl a23 r18.2.1 c24) r18.2.1]) ?_ ?_
    · clear h'
      rename _ = some o26 => h
      refine rg ?_
      refine st (v := (Sl a11 r8.1 c12)) (rv_move rfl) ?_
      refine st (v := (Sl a21 r18.1 c22)) (rv_move rfl) ?_
      obtain ⟨r27, hx28, h'⟩ := bind_some h
      clear h
      have h := h'; clear h'
      have hc29 := c_laws_equalInts (aa_0 := a11) (ca_0 := c12) (ab_1 := a21) (cb_1 := c22) hx28
      have hle := Nat.le_trans hn0 H.size
      refine st_call (cx_lend (Loan.lend (Loan.lend Loan.nil)) hc29 (ent_f hc29.fn rfl) (show Hp S0 σ0 _ ([Ch.own n0 n0 (Sl a11 r8.1 c12) r8.1, Ch.own n0 n0 (Sl a21 r18.1 c22) r18.1] ++ ([] ++ [Ch.own n0 n0 (Sl a23 r18.2.1 c24) r18.2.1, Ch.own n0 n0 (Sl a5 r2 c6) r2, Ch.own n0 n0 (Sl a14 r8.2.1 c15) r8.2.1, Ch.ro 0 (Sl acode_0 code_0 ccode_0) code_0])) from (H.sel' [4, 1, 0, 2, 3, 5] rfl rfl)) (by rintro _ _ _ ⟨rfl, rfl⟩; exact trivial)) (wanted_none _ rfl _) ?_
      rintro _ σ30 ⟨_, ⟨rfl, rfl⟩, H, -, -⟩
      replace H : Hp S0 σ0 σ30 [Ch.own n0 n0 (Sl a11 r8.1 c12) r8.1, Ch.own n0 n0 (Sl a21 r18.1 c22) r18.1, Ch.own n0 n0 (Sl a23 r18.2.1 c24) r18.2.1, Ch.own n0 n0 (Sl a5 r2 c6) r2, Ch.own n0 n0 (Sl a14 r8.2.1 c15) r8.2.1, Ch.ro 0 (Sl acode_0 code_0 ccode_0) code_0] := H
      clear hle
      replace H : Hp S0 σ0 σ30 [Ch.own n0 n0 (Sl a11 r8.1 c12) r8.1, Ch.own n0 n0 (Sl a21 r18.1 c22) r18.1, Ch.own n0 n0 (Sl a23 r18.2.1 c24) r18.2.1, Ch.own n0 n0 (Sl a5 r2 c6) r2, Ch.own n0 n0 (Sl a14 r8.2.1 c15) r8.2.1, Ch.ro 0 (Sl acode_0 code_0 ccode_0) code_0] := H
      refine st (v := (B (!r27))) (rv_not rfl) ?_
      refine st (v := (B (!r27))) (rv_move rfl) ?_
      rcases Bool.eq_false_or_eq_true (!r27) with hb31 | hb31
      · replace h := bif_t hb31 h
        refine st_skip (congrArg some hb31) ?_
        refine st_skip (congrArg some hb31) ?_
        refine st_skip (congrArg some hb31) ?_
        refine st_skip (congrArg some hb31) ?_
        refine st (v := (B true)) (rv_pick_t (congrArg B hb31) rfl) ?_
        refine st (v := (B true)) (rv_move rfl) ?_
        refine st_skip rfl ?_
        refine st_skip rfl ?_
        refine st_skip rfl ?_
        refine st (v := (B true)) (rv_pick_t rfl rfl) ?_
        refine st (v := (B true)) (rv_move rfl) ?_
        refine st_skip rfl ?_
        refine st_skip rfl ?_
        refine st (v := (B true)) (rv_pick_t rfl rfl) ?_
        refine w_end ?_
        obtain rfl := Option.some.inj h
        exact ⟨rfl, _, σ30, fr_join ⟨rfl, rfl, rfl, rfl, rfl, rfl, rfl, rfl, trivial⟩, rfl, H.sel' [3, 0, 4, 1, 2] rfl rfl⟩
      · replace h := bif_f hb31 h
        refine st_g (v := (Sl a14 r8.2.1 c15)) (congrArg some hb31) (rv_move rfl) ?_
        refine st_g (v := (Sl a23 r18.2.1 c24)) (congrArg some hb31) (rv_move rfl) ?_
        obtain ⟨r32, hx33, h'⟩ := bind_some h
        clear h
        have h := h'; clear h'
        have hc34 := c_laws_equalInts (aa_0 := a14) (ca_0 := c15) (ab_1 := a23) (cb_1 := c24) hx33
        have hle := Nat.le_trans hn0 H.size
        refine st_call (cx_lend (Loan.lend (Loan.lend Loan.nil)) hc34 (ent_f hc34.fn rfl) (show Hp S0 σ0 _ ([Ch.own n0 n0 (Sl a14 r8.2.1 c15) r8.2.1, Ch.own n0 n0 (Sl a23 r18.2.1 c24) r18.2.1] ++ ([] ++ [Ch.own n0 n0 (Sl a11 r8.1 c12) r8.1, Ch.own n0 n0 (Sl a21 r18.1 c22) r18.1, Ch.own n0 n0 (Sl a5 r2 c6) r2, Ch.ro 0 (Sl acode_0 code_0 ccode_0) code_0])) from (H.sel' [4, 2, 0, 1, 3, 5] rfl rfl)) (by rintro _ _ _ ⟨rfl, rfl⟩; exact trivial)) (wanted_yes rfl (by exact (congrArg some hb31))) ?_
        rintro _ σ35 ⟨_, ⟨rfl, rfl⟩, H, -, -⟩
        replace H : Hp S0 σ0 σ35 [Ch.own n0 n0 (Sl a14 r8.2.1 c15) r8.2.1, Ch.own n0 n0 (Sl a23 r18.2.1 c24) r18.2.1, Ch.own n0 n0 (Sl a11 r8.1 c12) r8.1, Ch.own n0 n0 (Sl a21 r18.1 c22) r18.1, Ch.own n0 n0 (Sl a5 r2 c6) r2, Ch.ro 0 (Sl acode_0 code_0 ccode_0) code_0] := H
        clear hle
        replace H : Hp S0 σ0 σ35 [Ch.own n0 n0 (Sl a14 r8.2.1 c15) r8.2.1, Ch.own n0 n0 (Sl a23 r18.2.1 c24) r18.2.1, Ch.own n0 n0 (Sl a11 r8.1 c12) r8.1, Ch.own n0 n0 (Sl a21 r18.1 c22) r18.1, Ch.own n0 n0 (Sl a5 r2 c6) r2, Ch.ro 0 (Sl acode_0 code_0 ccode_0) code_0] := H
        refine st_g (v := (B (!r32))) (congrArg some hb31) (rv_not rfl) ?_
        refine st (v := (B (!r32))) (rv_pick_f (congrArg B hb31) rfl) ?_
        refine st (v := (B (!r32))) (rv_move rfl) ?_
        rcases Bool.eq_false_or_eq_true (!r32) with hb36 | hb36
        · replace h := bif_t hb36 h
          refine st_skip (congrArg some hb36) ?_
          refine st_skip (congrArg some hb36) ?_
          refine st_skip (congrArg some hb36) ?_
          refine st (v := (B true)) (rv_pick_t (congrArg B hb36) rfl) ?_
          refine st (v := (B true)) (rv_move rfl) ?_
          refine st_skip rfl ?_
          refine st_skip rfl ?_
          refine st (v := (B true)) (rv_pick_t rfl rfl) ?_
          refine w_end ?_
          obtain rfl := Option.some.inj h
          exact ⟨rfl, _, σ35, fr_join ⟨rfl, rfl, rfl, rfl, rfl, rfl, rfl, rfl, trivial⟩, rfl, H.sel' [4, 2, 0, 3, 1] rfl rfl⟩
        · replace h := bif_f hb36 h
          refine st_g (v := (B r8.2.2)) (congrArg some hb36) (rv_move rfl) ?_
          refine st_g (v := (B r18.2.2)) (congrArg some hb36) (rv_move rfl) ?_
          refine st_g (v := (B (r8.2.2 != r18.2.2))) (congrArg some hb36) (rv_bneq Try.underlying4 rfl rfl) ?_
          refine st (v := (B (r8.2.2 != r18.2.2))) (rv_pick_f (congrArg B hb36) rfl) ?_
          refine st (v := (B (r8.2.2 != r18.2.2))) (rv_move rfl) ?_
          rcases Bool.eq_false_or_eq_true (r8.2.2 != r18.2.2) with hb37 | hb37
          · replace h := bif_t hb37 h
            refine st_skip (congrArg some hb37) ?_
            refine st_skip (congrArg some hb37) ?_
            refine st (v := (B true)) (rv_pick_t (congrArg B hb37) rfl) ?_
            refine w_end ?_
            obtain rfl := Option.some.inj h
            exact ⟨rfl, _, σ35, fr_join ⟨rfl, rfl, rfl, rfl, rfl, rfl, rfl, rfl, trivial⟩, rfl, H.sel' [4, 2, 0, 3, 1] rfl rfl⟩
          · replace h := bif_f hb37 h
            refine st_g (v := (B r8.2.2)) (congrArg some hb37) (rv_move rfl) ?_
            refine st_g (v := (B (!r8.2.2))) (congrArg some hb37) (rv_not rfl) ?_
            refine st (v := (B (!r8.2.2))) (rv_pick_f (congrArg B hb37) rfl) ?_
            refine w_end ?_
            obtain rfl := Option.some.inj h
            exact ⟨rfl, _, σ35, fr_join ⟨rfl, rfl, rfl, rfl, rfl, rfl, rfl, rfl, trivial⟩, rfl, H.sel' [4, 2, 0, 3, 1] rfl rfl⟩
    · clear hj
      have h := h'
      clear h' H
      rintro e a w ⟨rfl, ρ, σ38, rfl, rfl, H⟩
      refine q_then ?_
      refine cd_cond o26 rfl (fun hb39 => ?_) (fun hb39 => ?_)
      · replace h := bif_t hb39 h
        refine c_seq ?_
        refine rg ?_
        refine st (v := (Sl a11 r8.1 c12)) (rv_move rfl) ?_
        refine st (v := (Sl a21 r18.1 c22)) (rv_move rfl) ?_
        obtain ⟨σ40, hw41, H, -⟩ := H.pub 1 rfl (Nat.le_refl _)
        rw [← hw41]; clear hw41
        obtain ⟨σ42, hw43, H, -⟩ := H.pub 3 rfl (Nat.le_refl _)
        rw [← hw43]; clear hw43
        replace H := H.roLow 1 0 rfl (Nat.zero_le _)
        replace H := H.roLow 1 0 rfl (Nat.zero_le _)
        obtain ⟨r44, hx45, h'⟩ := bind_some h
        clear h
        have h := h'; clear h'
        have hc46 := c_laws_equalInts (aa_0 := a11) (ca_0 := c12) (ab_1 := a21) (cb_1 := c22) hx45
        refine st_call (cx_call hc46 (ent_f hc46.fn rfl) hn0 (show Hp S0 σ0 _ ([Ch.ro 0 (Sl a11 r8.1 c12) r8.1, Ch.ro 0 (Sl a21 r18.1 c22) r18.1] ++ [Ch.ro 0 (Sl a21 r18.1 c22) r18.1, Ch.ro 0 (Sl a11 r8.1 c12) r8.1, Ch.ro n0 (Sl a21 r18.1 c22) r18.1, Ch.ro n0 (Sl a11 r8.1 c12) r8.1, Ch.own n0 n0 (Sl a5 r2 c6) r2, Ch.own n0 n0 (Sl a14 r8.2.1 c15) r8.2.1, Ch.own n0 n0 (Sl a23 r18.2.1 c24) r18.2.1]) from (H.sel' [1, 0, 0, 1, 2, 3, 4, 5, 6] rfl rfl))) (wanted_none _ rfl _) ?_
        rintro _ σ47 ⟨_, ⟨rfl, rfl⟩, H, -⟩
        replace H : Hp S0 σ0 σ47 [Ch.ro 0 (Sl a21 r18.1 c22) r18.1, Ch.ro 0 (Sl a11 r8.1 c12) r8.1, Ch.ro n0 (Sl a21 r18.1 c22) r18.1, Ch.ro n0 (Sl a11 r8.1 c12) r8.1, Ch.own n0 n0 (Sl a5 r2 c6) r2, Ch.own n0 n0 (Sl a14 r8.2.1 c15) r8.2.1, Ch.own n0 n0 (Sl a23 r18.2.1 c24) r18.2.1] := H
        refine st (v := (B r44)) (rv_move rfl) ?_
        rcases Bool.eq_false_or_eq_true r44 with hb48 | hb48
        · replace h := bif_t hb48 h
          refine st_g (v := (Sl a14 r8.2.1 c15)) (congrArg some hb48) (rv_move rfl) ?_
          refine st_g (v := (Sl a23 r18.2.1 c24)) (congrArg some hb48) (rv_move rfl) ?_
          obtain ⟨σ49, hw50, H, -⟩ := H.pub 5 rfl (Nat.le_refl _)
          rw [← hw50]; clear hw50
          obtain ⟨σ51, hw52, H, -⟩ := H.pub 6 rfl (Nat.le_refl _)
          rw [← hw52]; clear hw52
          replace H := H.roLow 1 0 rfl (Nat.zero_le _)
          replace H := H.roLow 1 0 rfl (Nat.zero_le _)
          obtain ⟨r53, hx54, h'⟩ := bind_some h
          clear h
          have h := h'; clear h'
          have hc55 := c_laws_equalInts (aa_0 := a14) (ca_0 := c15) (ab_1 := a23) (cb_1 := c24) hx54
          refine st_call (cx_call hc55 (ent_f hc55.fn rfl) hn0 (show Hp S0 σ0 _ ([Ch.ro 0 (Sl a14 r8.2.1 c15) r8.2.1, Ch.ro 0 (Sl a23 r18.2.1 c24) r18.2.1] ++ [Ch.ro 0 (Sl a23 r18.2.1 c24) r18.2.1, Ch.ro 0 (Sl a14 r8.2.1 c15) r8.2.1, Ch.ro n0 (Sl a23 r18.2.1 c24) r18.2.1, Ch.ro n0 (Sl a14 r8.2.1 c15) r8.2.1, Ch.ro 0 (Sl a21 r18.1 c22) r18.1, Ch.ro 0 (Sl a11 r8.1 c12) r8.1, Ch.ro n0 (Sl a21 r18.1 c22) r18.1, Ch.ro n0 (Sl a11 r8.1 c12) r8.1, Ch.own n0 n0 (Sl a5 r2 c6) r2]) from (H.sel' [1, 0, 0, 1, 2, 3, 4, 5, 6, 7, 8] rfl rfl))) (wanted_yes rfl (by exact (congrArg some hb48))) ?_
          rintro _ σ56 ⟨_, ⟨rfl, rfl⟩, H, -⟩
          replace H : Hp S0 σ0 σ56 [Ch.ro 0 (Sl a23 r18.2.1 c24) r18.2.1, Ch.ro 0 (Sl a14 r8.2.1 c15) r8.2.1, Ch.ro n0 (Sl a23 r18.2.1 c24) r18.2.1, Ch.ro n0 (Sl a14 r8.2.1 c15) r8.2.1, Ch.ro 0 (Sl a21 r18.1 c22) r18.1, Ch.ro 0 (Sl a11 r8.1 c12) r8.1, Ch.ro n0 (Sl a21 r18.1 c22) r18.1, Ch.ro n0 (Sl a11 r8.1 c12) r8.1, Ch.own n0 n0 (Sl a5 r2 c6) r2] := H
          replace H : Hp S0 σ0 σ56 [] := H.sel' [] rfl rfl
          refine st (v := (B r53)) (rv_pick_t (congrArg B hb48) rfl) ?_
          refine st (v := (B r53)) (rv_move rfl) ?_
          rcases Bool.eq_false_or_eq_true r53 with hb57 | hb57
          · replace h := bif_t hb57 h
            refine st_g (v := (B r8.2.2)) (congrArg some hb57) (rv_move rfl) ?_
            refine st_g (v := (B r18.2.2)) (congrArg some hb57) (rv_move rfl) ?_
            refine st_g (v := (B (r8.2.2 == r18.2.2))) (congrArg some hb57) (rv_beql Try.underlying4 rfl rfl) ?_
            refine st (v := (B (r8.2.2 == r18.2.2))) (rv_pick_t (congrArg B hb57) rfl) ?_
            refine st (v := (B (r8.2.2 == r18.2.2))) (rv_assign rfl) ?_
            refine w_end ?_
            refine q_then ?_
            refine c_ret ?_
            refine q_then_r ?_
            obtain rfl := Option.some.inj h
            exact fin_ret (v := (B (r8.2.2 == r18.2.2))) (results_ok Try.results9 (res_tmp (v := (B (r8.2.2 == r18.2.2))) rfl res_nil) rfl) ⟨rfl, rfl⟩ (H.sel' [] rfl rfl)
          · replace h := bif_f hb57 h
            refine st_skip (congrArg some hb57) ?_
            refine st_skip (congrArg some hb57) ?_
            refine st_skip (congrArg some hb57) ?_
            refine st (v := (B false)) (rv_pick_f (congrArg B hb57) rfl) ?_
            refine st (v := (B false)) (rv_assign rfl) ?_
            refine w_end ?_
            refine q_then ?_
            refine c_ret ?_
            refine q_then_r ?_
            obtain rfl := Option.some.inj h
            exact fin_ret (v := (B false)) (results_ok Try.results9 (res_tmp (v := (B false)) rfl res_nil) rfl) ⟨rfl, rfl⟩ (H.sel' [] rfl rfl)
        · replace h := bif_f hb48 h
          refine st_skip (congrArg some hb48) ?_
          refine st_skip (congrArg some hb48) ?_
          refine st_skip (congrArg some hb48) ?_
          refine st (v := (B false)) (rv_pick_f (congrArg B hb48) rfl) ?_
          refine st (v := (B false)) (rv_move rfl) ?_
          refine st_skip rfl ?_
          refine st_skip rfl ?_
          refine st_skip rfl ?_
          refine st (v := (B false)) (rv_pick_f rfl rfl) ?_
          refine st (v := (B false)) (rv_assign rfl) ?_
          refine w_end ?_
          refine q_then ?_
          refine c_ret ?_
          refine q_then_r ?_
          obtain rfl := Option.some.inj h
          exact fin_ret (v := (B false)) (results_ok Try.results9 (res_tmp (v := (B false)) rfl res_nil) rfl) ⟨rfl, rfl⟩ (H.sel' [] rfl rfl)
      · replace h := bif_f hb39 h
        refine c_skip ?_
        refine q_then ?_
        refine c_seq ?_
        refine c_seq ?_
        refine rg ?_
        refine st (v := (I 0)) (rv_assign rfl) ?_
        refine w_end ?_
        refine q_then ?_
        obtain ⟨o58, hj, h'⟩ := bind_some h
        clear h
        refine c_cut (fun e a w => (∃ t, o58 = (.inl t) ∧ e = .normal ∧ ∃ (ρ : Nat → Value) (σ : St), a = fr 111 (updL ρ []) ∧ w = σ.w ∧ Hp S0 σ0 σ []) ∨ (∃ t, o58 = (.inr t) ∧ e = .ret ∧ ∃ (ρ : Nat → Value) (σ : St), a = fr 111 (updL ρ [(2, (B t))]) ∧ w = σ.w ∧ Hp S0 σ0 σ [])) ?_ ?_
        · clear h'
          rename _ = some o58 => h
          refine c_blk ?_
          refine wp_loopM _ h (fun s59 a w => ∃ (ρ : Nat → Value) (σ : St), a = fr 111 (updL ρ [(3, (Sl a5 r2 c6)), (4, (Sl a11 r8.1 c12)), (5, (Sl a14 r8.2.1 c15)), (10, (I s59))]) ∧ w = σ.w ∧ Hp S0 σ0 σ [Ch.own n0 n0 (Sl a5 r2 c6) r2, Ch.own n0 n0 (Sl a11 r8.1 c12) r8.1, Ch.own n0 n0 (Sl a14 r8.2.1 c15) r8.2.1]) ⟨_, σ38, fr_join ⟨rfl, rfl, rfl, rfl, trivial⟩, rfl, H.sel' [0, 1, 2] rfl rfl⟩ ?_
          clear h H
          rintro s59 a w o ⟨ρ, σ60, rfl, rfl, H⟩ h hres
          refine c_seq ?_
          refine c_seq ?_
          refine rg ?_
          refine st (v := (I s59)) (rv_move rfl) ?_
          refine st (v := (B (decide (s59 < 4)))) (rv_lss (a := s59) (b := 4) rfl rfl) ?_
          refine w_end ?_
          refine q_then ?_
          refine cd_cond (decide (s59 < 4)) rfl (fun hb61 => ?_) (fun hb61 => ?_)
          · replace h := bif_t hb61 h
            refine c_skip ?_
            refine q_then ?_
            refine c_seq ?_
            refine c_blk ?_
            refine c_seq ?_
            refine rg ?_
            refine st (v := (B false)) (rv_assign rfl) ?_
            refine w_end ?_
            refine q_then ?_
            refine c_seq ?_
            refine rg ?_
            refine st (v := (B false)) (rv_assign rfl) ?_
            refine w_end ?_
            refine q_then ?_
            refine c_seq ?_
            refine c_seq ?_
            refine rg ?_
            refine st (v := (I 0)) (rv_assign rfl) ?_
            refine w_end ?_
            refine q_then ?_
            obtain ⟨o62, hj, h'⟩ := bind_some h
            clear h
            refine c_cut (fun e a w => e = .normal ∧ ∃ (ρ : Nat → Value) (σ : St), a = fr 111 (updL ρ [(3, (Sl a5 r2 c6)), (4, (Sl a11 r8.1 c12)), (5, (Sl a14 r8.2.1 c15)), (10, (I s59)), (11, (B o62.1)), (12, (B o62.2))]) ∧ w = σ.w ∧ Hp S0 σ0 σ [Ch.own n0 n0 (Sl a5 r2 c6) r2, Ch.own n0 n0 (Sl a11 r8.1 c12) r8.1, Ch.own n0 n0 (Sl a14 r8.2.1 c15) r8.2.1]) ?_ ?_
            · clear h'
              rename _ = some o62 => h
              refine c_blk ?_
              refine wp_loopM _ h (fun s63 a w => ∃ (ρ : Nat → Value) (σ : St), a = fr 111 (updL ρ [(3, (Sl a5 r2 c6)), (4, (Sl a11 r8.1 c12)), (5, (Sl a14 r8.2.1 c15)), (10, (I s59)), (11, (B s63.1)), (12, (B s63.2.1)), (13, (I s63.2.2))]) ∧ w = σ.w ∧ Hp S0 σ0 σ [Ch.own n0 n0 (Sl a5 r2 c6) r2, Ch.own n0 n0 (Sl a11 r8.1 c12) r8.1, Ch.own n0 n0 (Sl a14 r8.2.1 c15) r8.2.1]) ⟨_, σ60, fr_join ⟨rfl, rfl, rfl, rfl, rfl, rfl, rfl, trivial⟩, rfl, H.sel' [0, 1, 2] rfl rfl⟩ ?_
              clear h H
              rintro s63 a w o ⟨ρ, σ64, rfl, rfl, H⟩ h hres
              refine c_seq ?_
              refine c_seq ?_
              refine rg ?_
              refine st (v := (I s63.2.2)) (rv_move rfl) ?_
              refine st (v := (Sl a5 r2 c6)) (rv_move rfl) ?_
              refine st (v := (I (r2.length : Int))) (rv_len Try.underlying23 rfl) ?_
              refine st (v := (B (decide (s63.2.2 < (r2.length : Int))))) (rv_lss (a := s63.2.2) (b := (r2.length : Int)) rfl rfl) ?_
              refine w_end ?_
              refine q_then ?_
              refine cd_cond (decide (s63.2.2 < (r2.length : Int))) rfl (fun hb65 => ?_) (fun hb65 => ?_)
              · replace h := bif_t hb65 h
                refine c_skip ?_
                refine q_then ?_
                refine c_seq ?_
                refine c_blk ?_
                refine c_seq ?_
                obtain ⟨o66, hj, h'⟩ := bind_some h
                clear h
                refine c_cut (fun e a w => e = .normal ∧ ∃ (ρ : Nat → Value) (σ : St), a = fr 111 (updL ρ [(3, (Sl a5 r2 c6)), (4, (Sl a11 r8.1 c12)), (5, (Sl a14 r8.2.1 c15)), (10, (I s59)), (11, (B o66)), (12, (B s63.2.1)), (13, (I s63.2.2))]) ∧ w = σ.w ∧ Hp S0 σ0 σ [Ch.own n0 n0 (Sl a5 r2 c6) r2, Ch.own n0 n0 (Sl a11 r8.1 c12) r8.1, Ch.own n0 n0 (Sl a14 r8.2.1 c15) r8.2.1]) ?_ ?_
                · clear h'
                  rename _ = some o66 => h
                  rcases Bool.eq_false_or_eq_true s63.1 with hb67 | hb67
                  · replace h := bif_t hb67 h
                    have Hs := H
                    refine rg2 (σ := σ64) (Nm := Unit) 14 [] [[]] [[(0, 0)], [(0, 0)], [(0, 0)], [(0, 0)], [(0, 0)], [(0, 0)], [(0, 0)], [(0, 0)], [(0, 0)], [(0, 0)], [(0, 0)], [(0, 0)], [(0, 0)], [(0, 0)]] 0 [fun (_nm : Unit) => fun σm => Hp S0 σ0 σm [Ch.own n0 n0 (Sl a5 r2 c6) r2, Ch.own n0 n0 (Sl a11 r8.1 c12) r8.1, Ch.own n0 n0 (Sl a14 r8.2.1 c15) r8.2.1] ∧ Md (cov []) σ64 σm] [fun (_nm : Unit) => (B s63.1), fun (_nm : Unit) => (B s63.1), fun (_nm : Unit) => undef, fun (_nm : Unit) => undef, fun (_nm : Unit) => undef, fun (_nm : Unit) => undef, fun (_nm : Unit) => undef, fun (_nm : Unit) => undef, fun (_nm : Unit) => undef, fun (_nm : Unit) => undef, fun (_nm : Unit) => undef, fun (_nm : Unit) => undef, fun (_nm : Unit) => undef, fun (_nm : Unit) => undef] () (by kernel_rfl) (by kernel_rfl) ?_ ?_ ?_
                    · intro σm m0
                      exact ⟨H.grow (m0.mono fun _ h => h.elim), m0⟩
                    · refine all_cons (obs_v rfl (by
                          intro k; intro _nm ρ σm hJ hoff hdep
                          have e11 : look 111 ρ 11 = (B s63.1) := look_off (hoff 11 rfl) rfl
                          exact dp_v (v := (B s63.1)) (wanted_none _ rfl _) (rv_move e11) rfl hJ)) ?_
                      refine all_cons (obs_v rfl (by
                          intro k; intro _nm ρ σm hJ hoff hdep
                          have e73 : look 111 ρ 73 = (B s63.1) := hdep 0 rfl rfl 73 rfl
                          exact dp_v (v := (B s63.1)) (wanted_none _ rfl _) (rv_move e73) rfl hJ)) ?_
                      refine all_cons (obs_v rfl (by
                          intro k; intro _nm ρ σm hJ hoff hdep
                          have e74 : look 111 ρ 74 = (B s63.1) := hdep 1 rfl rfl 74 rfl
                          exact dp_skip (wanted_no rfl (yv_of rfl (e74.trans (congrArg B hb67)))) rfl hJ)) ?_
                      refine all_cons (obs_v rfl (by
                          intro k; intro _nm ρ σm hJ hoff hdep
                          have e74 : look 111 ρ 74 = (B s63.1) := hdep 1 rfl rfl 74 rfl
                          exact dp_skip (wanted_no rfl (yv_of rfl (e74.trans (congrArg B hb67)))) rfl hJ)) ?_
                      refine all_cons (obs_v rfl (by
                          intro k; intro _nm ρ σm hJ hoff hdep
                          have e74 : look 111 ρ 74 = (B s63.1) := hdep 1 rfl rfl 74 rfl
                          exact dp_skip (wanted_no rfl (yv_of rfl (e74.trans (congrArg B hb67)))) rfl hJ)) ?_
                      refine all_cons (obs_v rfl (by
                          intro k; intro _nm ρ σm hJ hoff hdep
                          have e74 : look 111 ρ 74 = (B s63.1) := hdep 1 rfl rfl 74 rfl
                          exact dp_skip (wanted_no rfl (yv_of rfl (e74.trans (congrArg B hb67)))) rfl hJ)) ?_
                      refine all_cons (obs_v rfl (by
                          intro k; intro _nm ρ σm hJ hoff hdep
                          have e74 : look 111 ρ 74 = (B s63.1) := hdep 1 rfl rfl 74 rfl
                          exact dp_skip (wanted_no rfl (yv_of rfl (e74.trans (congrArg B hb67)))) rfl hJ)) ?_
                      refine all_cons (obs_v rfl (by
                          intro k; intro _nm ρ σm hJ hoff hdep
                          have e74 : look 111 ρ 74 = (B s63.1) := hdep 1 rfl rfl 74 rfl
                          exact dp_skip (wanted_no rfl (yv_of rfl (e74.trans (congrArg B hb67)))) rfl hJ)) ?_
                      refine all_cons (obs_v rfl (by
                          intro k; intro _nm ρ σm hJ hoff hdep
                          have e74 : look 111 ρ 74 = (B s63.1) := hdep 1 rfl rfl 74 rfl
                          exact dp_skip (wanted_no rfl (yv_of rfl (e74.trans (congrArg B hb67)))) rfl hJ)) ?_
                      refine all_cons (obs_v rfl (by
                          intro k; intro _nm ρ σm hJ hoff hdep
                          have e74 : look 111 ρ 74 = (B s63.1) := hdep 1 rfl rfl 74 rfl
                          exact dp_skip (wanted_no rfl (yv_of rfl (e74.trans (congrArg B hb67)))) rfl hJ)) ?_
                      refine all_cons (obs_v rfl (by
                          intro k; intro _nm ρ σm hJ hoff hdep
                          have e74 : look 111 ρ 74 = (B s63.1) := hdep 1 rfl rfl 74 rfl
                          exact dp_skip (wanted_no rfl (yv_of rfl (e74.trans (congrArg B hb67)))) rfl hJ)) ?_
                      refine all_cons (obs_v rfl (by
                          intro k; intro _nm ρ σm hJ hoff hdep
                          have e74 : look 111 ρ 74 = (B s63.1) := hdep 1 rfl rfl 74 rfl
                          exact dp_skip (wanted_no rfl (yv_of rfl (e74.trans (congrArg B hb67)))) rfl hJ)) ?_
                      refine all_cons (obs_v rfl (by
                          intro k; intro _nm ρ σm hJ hoff hdep
                          have e74 : look 111 ρ 74 = (B s63.1) := hdep 1 rfl rfl 74 rfl
                          exact dp_skip (wanted_no rfl (yv_of rfl (e74.trans (congrArg B hb67)))) rfl hJ)) ?_
                      refine all_cons (obs_v rfl (by
                          intro k; intro _nm ρ σm hJ hoff hdep
                          have e74 : look 111 ρ 74 = (B s63.1) := hdep 1 rfl rfl 74 rfl
                          exact dp_skip (wanted_no rfl (yv_of rfl (e74.trans (congrArg B hb67)))) rfl hJ)) ?_
                      exact all_nil
                    · intro _nm ρ σ68 hJ hoff hrel
                      have e3 : look 111 ρ 3 = (Sl a5 r2 c6) := look_off (hoff 3 rfl) rfl
                      have e4 : look 111 ρ 4 = (Sl a11 r8.1 c12) := look_off (hoff 4 rfl) rfl
                      have e5 : look 111 ρ 5 = (Sl a14 r8.2.1 c15) := look_off (hoff 5 rfl) rfl
                      have e10 : look 111 ρ 10 = (I s59) := look_off (hoff 10 rfl) rfl
                      have e12 : look 111 ρ 12 = (B s63.2.1) := look_off (hoff 12 rfl) rfl
                      have e13 : look 111 ρ 13 = (I s63.2.2) := look_off (hoff 13 rfl) rfl
                      have e74 : look 111 ρ 74 = (B s63.1) := hrel 1 rfl 74 rfl
                      have e82 : look 111 ρ 82 = undef := hrel 9 rfl 82 rfl
                      have e86 : look 111 ρ 86 = undef := hrel 13 rfl 86 rfl
                      obtain ⟨H, -⟩ := (show Hp S0 σ0 σ68 [Ch.own n0 n0 (Sl a5 r2 c6) r2, Ch.own n0 n0 (Sl a11 r8.1 c12) r8.1, Ch.own n0 n0 (Sl a14 r8.2.1 c15) r8.2.1] ∧ Md (cov []) σ64 σ68 from hJ)
                      clear hJ Hs
                      rw [fr_lookL (L := [(3, (Sl a5 r2 c6)), (4, (Sl a11 r8.1 c12)), (5, (Sl a14 r8.2.1 c15)), (10, (I s59)), (12, (B s63.2.1)), (13, (I s63.2.2)), (74, (B s63.1)), (82, undef), (86, undef)]) ⟨e3, e4, e5, e10, e12, e13, e74, e82, e86, trivial⟩]
                      clear hoff hrel e3 e4 e5 e10 e12 e13 e74 e82 e86
                      refine st_skip (congrArg some hb67) ?_
                      refine st (v := (B true)) (rv_pick_t (congrArg B hb67) rfl) ?_
                      refine st (v := (B true)) (rv_assign rfl) ?_
                      refine w_end ?_
                      obtain rfl := Option.some.inj h
                      exact ⟨rfl, _, σ68, fr_join ⟨rfl, rfl, rfl, rfl, rfl, rfl, rfl, trivial⟩, rfl, H.sel' [0, 1, 2] rfl rfl⟩
                  · replace h := bif_f hb67 h
                    obtain ⟨x69, hx70, h'⟩ := bind_some h
                    clear h
                    have h := h'; clear h'
                    obtain ⟨b72, o73, hi71, -⟩ := (H.own 0 rfl).ix hx70
                    obtain ⟨v77, hc78, hR76⟩ := ((H.own 0 rfl).at hx70 hi71).snd.fst.slice
                    obtain ⟨a74, c75, rfl⟩ := hR76.isSl
                    replace H := H.add (d := Ch.ro n0 (Sl a74 x69.2.1 c75) x69.2.1) hR76 (fun _ h => h)
                    clear hR76
                    obtain ⟨x79, hx80, h'⟩ := bind_some h
                    clear h
                    have h := h'; clear h'
                    obtain ⟨b82, o83, hi81, -⟩ := (H.ro 0 rfl).ix hx80
                    have hc84 := ((H.ro 0 rfl).at hx80 hi81).int
                    obtain ⟨x85, hx86, h'⟩ := bind_some h
                    clear h
                    have h := h'; clear h'
                    obtain ⟨b88, o89, hi87, -⟩ := (H.own 2 rfl).ix hx86
                    have hc90 := ((H.own 2 rfl).at hx86 hi87).int
                    have Hs := H
                    refine rg2 (σ := σ64) (Nm := Unit) 14 [] [[]] [[(0, 0)], [(0, 0)], [(0, 0)], [(0, 0)], [(0, 0)], [(0, 0)], [(0, 0)], [(0, 0)], [(0, 0)], [(0, 0)], [(0, 0)], [(0, 0)], [(0, 0)], [(0, 0)]] 0 [fun (_nm : Unit) => fun σm => Hp S0 σ0 σm [Ch.ro n0 (Sl a74 x69.2.1 c75) x69.2.1, Ch.own n0 n0 (Sl a5 r2 c6) r2, Ch.own n0 n0 (Sl a11 r8.1 c12) r8.1, Ch.own n0 n0 (Sl a14 r8.2.1 c15) r8.2.1] ∧ Md (cov []) σ64 σm] [fun (_nm : Unit) => (B s63.1), fun (_nm : Unit) => (B s63.1), fun (_nm : Unit) => (Sl a5 r2 c6), fun (_nm : Unit) => (I s63.2.2), fun (_nm : Unit) => (pt b72 o73), fun (_nm : Unit) => (pt b72 (o73 + 1)), fun (_nm : Unit) => (Sl a74 x69.2.1 c75), fun (_nm : Unit) => (I s59), fun (_nm : Unit) => (pt b82 o83), fun (_nm : Unit) => (I x79), fun (_nm : Unit) => (Sl a11 r8.1 c12), fun (_nm : Unit) => (I s59), fun (_nm : Unit) => (pt b88 o89), fun (_nm : Unit) => (I x85)] () (by kernel_rfl) (by kernel_rfl) ?_ ?_ ?_
                    · intro σm m0
                      exact ⟨H.grow (m0.mono fun _ h => h.elim), m0⟩
                    · refine all_cons (obs_v rfl (by
                          intro k; intro _nm ρ σm hJ hoff hdep
                          have e11 : look 111 ρ 11 = (B s63.1) := look_off (hoff 11 rfl) rfl
                          exact dp_v (v := (B s63.1)) (wanted_none _ rfl _) (rv_move e11) rfl hJ)) ?_
                      refine all_cons (obs_v rfl (by
                          intro k; intro _nm ρ σm hJ hoff hdep
                          have e73 : look 111 ρ 73 = (B s63.1) := hdep 0 rfl rfl 73 rfl
                          exact dp_v (v := (B s63.1)) (wanted_none _ rfl _) (rv_move e73) rfl hJ)) ?_
                      refine all_cons (obs_v rfl (by
                          intro k; intro _nm ρ σm hJ hoff hdep
                          have e3 : look 111 ρ 3 = (Sl a5 r2 c6) := look_off (hoff 3 rfl) rfl
                          have e74 : look 111 ρ 74 = (B s63.1) := hdep 1 rfl rfl 74 rfl
                          exact dp_v (v := (Sl a5 r2 c6)) (wanted_yes rfl (yv_of rfl (e74.trans (congrArg B hb67)))) (rv_move e3) rfl hJ)) ?_
                      refine all_cons (obs_v rfl (by
                          intro k; intro _nm ρ σm hJ hoff hdep
                          have e13 : look 111 ρ 13 = (I s63.2.2) := look_off (hoff 13 rfl) rfl
                          have e74 : look 111 ρ 74 = (B s63.1) := hdep 1 rfl rfl 74 rfl
                          exact dp_v (v := (I s63.2.2)) (wanted_yes rfl (yv_of rfl (e74.trans (congrArg B hb67)))) (rv_move e13) rfl hJ)) ?_
                      refine all_cons (obs_v rfl (by
                          intro k; intro _nm ρ σm hJ hoff hdep
                          have e75 : look 111 ρ 75 = (Sl a5 r2 c6) := hdep 2 rfl rfl 75 rfl
                          have e76 : look 111 ρ 76 = (I s63.2.2) := hdep 3 rfl rfl 76 rfl
                          have e74 : look 111 ρ 74 = (B s63.1) := hdep 1 rfl rfl 74 rfl
                          exact dp_v (v := (pt b72 o73)) (wanted_yes rfl (yv_of rfl (e74.trans (congrArg B hb67)))) (rv_ix Try.underlying23 ti29 e75 e76 hi71) rfl hJ)) ?_
                      refine all_cons (obs_v rfl (by
                          intro k; intro _nm ρ σm hJ hoff hdep
                          have e77 : look 111 ρ 77 = (pt b72 o73) := hdep 4 rfl rfl 77 rfl
                          have e74 : look 111 ρ 74 = (B s63.1) := hdep 1 rfl rfl 74 rfl
                          exact dp_v (v := (pt b72 (o73 + 1))) (wanted_yes rfl (yv_of rfl (e74.trans (congrArg B hb67)))) (rv_fieldAddr (off := 1) (ft := 27) Try.underlying29 rfl ti27 rfl e77) rfl hJ)) ?_
                      refine all_cons (by
                          refine ⟨?_, ?_⟩
                          · intro _nm ρ σm hJ hoff hdep
                            have e78 : look 111 ρ 78 = (pt b72 (o73 + 1)) := hdep 5 rfl rfl 78 rfl
                            have e74 : look 111 ρ 74 = (B s63.1) := hdep 1 rfl rfl 74 rfl
                            obtain ⟨H, m⟩ := (show Hp S0 σ0 σm [Ch.ro n0 (Sl a74 x69.2.1 c75) x69.2.1, Ch.own n0 n0 (Sl a5 r2 c6) r2, Ch.own n0 n0 (Sl a11 r8.1 c12) r8.1, Ch.own n0 n0 (Sl a14 r8.2.1 c15) r8.2.1] ∧ Md (cov []) σ64 σm from hJ)
                            replace hc78 := m.hcell hc78 nocov
                            exact dp_v (v := (Sl a74 x69.2.1 c75)) (wanted_yes rfl (yv_of rfl (e74.trans (congrArg B hb67)))) (rv_load1 Try.underlying27 rfl e78 hc78) rfl hJ
                          trivial) ?_
                      refine all_cons (obs_v rfl (by
                          intro k; intro _nm ρ σm hJ hoff hdep
                          have e10 : look 111 ρ 10 = (I s59) := look_off (hoff 10 rfl) rfl
                          have e74 : look 111 ρ 74 = (B s63.1) := hdep 1 rfl rfl 74 rfl
                          exact dp_v (v := (I s59)) (wanted_yes rfl (yv_of rfl (e74.trans (congrArg B hb67)))) (rv_move e10) rfl hJ)) ?_
                      refine all_cons (obs_v rfl (by
                          intro k; intro _nm ρ σm hJ hoff hdep
                          have e79 : look 111 ρ 79 = (Sl a74 x69.2.1 c75) := hdep 6 rfl rfl 79 rfl
                          have e80 : look 111 ρ 80 = (I s59) := hdep 7 rfl rfl 80 rfl
                          have e74 : look 111 ρ 74 = (B s63.1) := hdep 1 rfl rfl 74 rfl
                          exact dp_v (v := (pt b82 o83)) (wanted_yes rfl (yv_of rfl (e74.trans (congrArg B hb67)))) (rv_ix Try.underlying27 ti3 e79 e80 hi81) rfl hJ)) ?_
                      refine all_cons (by
                          refine ⟨?_, ?_⟩
                          · intro _nm ρ σm hJ hoff hdep
                            have e81 : look 111 ρ 81 = (pt b82 o83) := hdep 8 rfl rfl 81 rfl
                            have e74 : look 111 ρ 74 = (B s63.1) := hdep 1 rfl rfl 74 rfl
                            obtain ⟨H, m⟩ := (show Hp S0 σ0 σm [Ch.ro n0 (Sl a74 x69.2.1 c75) x69.2.1, Ch.own n0 n0 (Sl a5 r2 c6) r2, Ch.own n0 n0 (Sl a11 r8.1 c12) r8.1, Ch.own n0 n0 (Sl a14 r8.2.1 c15) r8.2.1] ∧ Md (cov []) σ64 σm from hJ)
                            replace hc84 := (Hs.ro 0 rfl).hmd hx80 hi81 (k := 0) (by decide) hc84 m
                            exact dp_v (v := (I x79)) (wanted_yes rfl (yv_of rfl (e74.trans (congrArg B hb67)))) (rv_load1 Try.underlying3 rfl e81 hc84) rfl hJ
                          trivial) ?_
                      refine all_cons (obs_v rfl (by
                          intro k; intro _nm ρ σm hJ hoff hdep
                          have e4 : look 111 ρ 4 = (Sl a11 r8.1 c12) := look_off (hoff 4 rfl) rfl
                          have e74 : look 111 ρ 74 = (B s63.1) := hdep 1 rfl rfl 74 rfl
                          exact dp_v (v := (Sl a11 r8.1 c12)) (wanted_yes rfl (yv_of rfl (e74.trans (congrArg B hb67)))) (rv_move e4) rfl hJ)) ?_
                      refine all_cons (obs_v rfl (by
                          intro k; intro _nm ρ σm hJ hoff hdep
                          have e10 : look 111 ρ 10 = (I s59) := look_off (hoff 10 rfl) rfl
                          have e74 : look 111 ρ 74 = (B s63.1) := hdep 1 rfl rfl 74 rfl
                          exact dp_v (v := (I s59)) (wanted_yes rfl (yv_of rfl (e74.trans (congrArg B hb67)))) (rv_move e10) rfl hJ)) ?_
                      refine all_cons (obs_v rfl (by
                          intro k; intro _nm ρ σm hJ hoff hdep
                          have e83 : look 111 ρ 83 = (Sl a11 r8.1 c12) := hdep 10 rfl rfl 83 rfl
                          have e84 : look 111 ρ 84 = (I s59) := hdep 11 rfl rfl 84 rfl
                          have e74 : look 111 ρ 74 = (B s63.1) := hdep 1 rfl rfl 74 rfl
                          exact dp_v (v := (pt b88 o89)) (wanted_yes rfl (yv_of rfl (e74.trans (congrArg B hb67)))) (rv_ix Try.underlying27 ti3 e83 e84 hi87) rfl hJ)) ?_
                      refine all_cons (by
                          refine ⟨?_, ?_⟩
                          · intro _nm ρ σm hJ hoff hdep
                            have e85 : look 111 ρ 85 = (pt b88 o89) := hdep 12 rfl rfl 85 rfl
                            have e74 : look 111 ρ 74 = (B s63.1) := hdep 1 rfl rfl 74 rfl
                            obtain ⟨H, m⟩ := (show Hp S0 σ0 σm [Ch.ro n0 (Sl a74 x69.2.1 c75) x69.2.1, Ch.own n0 n0 (Sl a5 r2 c6) r2, Ch.own n0 n0 (Sl a11 r8.1 c12) r8.1, Ch.own n0 n0 (Sl a14 r8.2.1 c15) r8.2.1] ∧ Md (cov []) σ64 σm from hJ)
                            have hc90 := ((H.own 2 rfl).at hx86 hi87).int
                            exact dp_v (v := (I x85)) (wanted_yes rfl (yv_of rfl (e74.trans (congrArg B hb67)))) (rv_load1 Try.underlying3 rfl e85 hc90) rfl hJ
                          trivial) ?_
                      exact all_nil
                    · intro _nm ρ σ91 hJ hoff hrel
                      have e3 : look 111 ρ 3 = (Sl a5 r2 c6) := look_off (hoff 3 rfl) rfl
                      have e4 : look 111 ρ 4 = (Sl a11 r8.1 c12) := look_off (hoff 4 rfl) rfl
                      have e5 : look 111 ρ 5 = (Sl a14 r8.2.1 c15) := look_off (hoff 5 rfl) rfl
                      have e10 : look 111 ρ 10 = (I s59) := look_off (hoff 10 rfl) rfl
                      have e12 : look 111 ρ 12 = (B s63.2.1) := look_off (hoff 12 rfl) rfl
                      have e13 : look 111 ρ 13 = (I s63.2.2) := look_off (hoff 13 rfl) rfl
                      have e74 : look 111 ρ 74 = (B s63.1) := hrel 1 rfl 74 rfl
                      have e82 : look 111 ρ 82 = (I x79) := hrel 9 rfl 82 rfl
                      have e86 : look 111 ρ 86 = (I x85) := hrel 13 rfl 86 rfl
                      obtain ⟨H, -⟩ := (show Hp S0 σ0 σ91 [Ch.ro n0 (Sl a74 x69.2.1 c75) x69.2.1, Ch.own n0 n0 (Sl a5 r2 c6) r2, Ch.own n0 n0 (Sl a11 r8.1 c12) r8.1, Ch.own n0 n0 (Sl a14 r8.2.1 c15) r8.2.1] ∧ Md (cov []) σ64 σ91 from hJ)
                      clear hJ Hs
                      rw [fr_lookL (L := [(3, (Sl a5 r2 c6)), (4, (Sl a11 r8.1 c12)), (5, (Sl a14 r8.2.1 c15)), (10, (I s59)), (12, (B s63.2.1)), (13, (I s63.2.2)), (74, (B s63.1)), (82, (I x79)), (86, (I x85))]) ⟨e3, e4, e5, e10, e12, e13, e74, e82, e86, trivial⟩]
                      clear hoff hrel e3 e4 e5 e10 e12 e13 e74 e82 e86
                      refine st_g (v := (B (x79 == x85))) (congrArg some hb67) (rv_eql (a := x79) (b := x85) rfl rfl) ?_
                      refine st (v := (B (x79 == x85))) (rv_pick_f (congrArg B hb67) rfl) ?_
                      refine st (v := (B (x79 == x85))) (rv_assign rfl) ?_
                      refine w_end ?_
                      obtain rfl := Option.some.inj h
                      exact ⟨rfl, _, σ91, fr_join ⟨rfl, rfl, rfl, rfl, rfl, rfl, rfl, trivial⟩, rfl, H.sel' [1, 2, 3] rfl rfl⟩
                · clear hj
                  have h := h'
                  clear h' H
                  rintro e a w ⟨rfl, ρ, σ92, rfl, rfl, H⟩
                  refine q_then ?_
                  obtain ⟨o93, hj, h'⟩ := bind_some h
                  clear h
                  refine c_cut (fun e a w => e = .normal ∧ ∃ (ρ : Nat → Value) (σ : St), a = fr 111 (updL ρ [(3, (Sl a5 r2 c6)), (4, (Sl a11 r8.1 c12)), (5, (Sl a14 r8.2.1 c15)), (10, (I s59)), (11, (B o66)), (12, (B o93)), (13, (I s63.2.2))]) ∧ w = σ.w ∧ Hp S0 σ0 σ [Ch.own n0 n0 (Sl a5 r2 c6) r2, Ch.own n0 n0 (Sl a11 r8.1 c12) r8.1, Ch.own n0 n0 (Sl a14 r8.2.1 c15) r8.2.1]) ?_ ?_
                  · clear h'
                    rename _ = some o93 => h
                    rcases Bool.eq_false_or_eq_true s63.2.1 with hb94 | hb94
                    · replace h := bif_t hb94 h
                      have Hs := H
                      refine rg2 (σ := σ92) (Nm := Unit) 14 [] [[]] [[(0, 0)], [(0, 0)], [(0, 0)], [(0, 0)], [(0, 0)], [(0, 0)], [(0, 0)], [(0, 0)], [(0, 0)], [(0, 0)], [(0, 0)], [(0, 0)], [(0, 0)], [(0, 0)]] 0 [fun (_nm : Unit) => fun σm => Hp S0 σ0 σm [Ch.own n0 n0 (Sl a5 r2 c6) r2, Ch.own n0 n0 (Sl a11 r8.1 c12) r8.1, Ch.own n0 n0 (Sl a14 r8.2.1 c15) r8.2.1] ∧ Md (cov []) σ92 σm] [fun (_nm : Unit) => (B s63.2.1), fun (_nm : Unit) => (B s63.2.1), fun (_nm : Unit) => undef, fun (_nm : Unit) => undef, fun (_nm : Unit) => undef, fun (_nm : Unit) => undef, fun (_nm : Unit) => undef, fun (_nm : Unit) => undef, fun (_nm : Unit) => undef, fun (_nm : Unit) => undef, fun (_nm : Unit) => undef, fun (_nm : Unit) => undef, fun (_nm : Unit) => undef, fun (_nm : Unit) => undef] () (by kernel_rfl) (by kernel_rfl) ?_ ?_ ?_
                      · intro σm m0
                        exact ⟨H.grow (m0.mono fun _ h => h.elim), m0⟩
                      · refine all_cons (obs_v rfl (by
                            intro k; intro _nm ρ σm hJ hoff hdep
                            have e12 : look 111 ρ 12 = (B s63.2.1) := look_off (hoff 12 rfl) rfl
                            exact dp_v (v := (B s63.2.1)) (wanted_none _ rfl _) (rv_move e12) rfl hJ)) ?_
                        refine all_cons (obs_v rfl (by
                            intro k; intro _nm ρ σm hJ hoff hdep
                            have e89 : look 111 ρ 89 = (B s63.2.1) := hdep 0 rfl rfl 89 rfl
                            exact dp_v (v := (B s63.2.1)) (wanted_none _ rfl _) (rv_move e89) rfl hJ)) ?_
                        refine all_cons (obs_v rfl (by
                            intro k; intro _nm ρ σm hJ hoff hdep
                            have e90 : look 111 ρ 90 = (B s63.2.1) := hdep 1 rfl rfl 90 rfl
                            exact dp_skip (wanted_no rfl (yv_of rfl (e90.trans (congrArg B hb94)))) rfl hJ)) ?_
                        refine all_cons (obs_v rfl (by
                            intro k; intro _nm ρ σm hJ hoff hdep
                            have e90 : look 111 ρ 90 = (B s63.2.1) := hdep 1 rfl rfl 90 rfl
                            exact dp_skip (wanted_no rfl (yv_of rfl (e90.trans (congrArg B hb94)))) rfl hJ)) ?_
                        refine all_cons (obs_v rfl (by
                            intro k; intro _nm ρ σm hJ hoff hdep
                            have e90 : look 111 ρ 90 = (B s63.2.1) := hdep 1 rfl rfl 90 rfl
                            exact dp_skip (wanted_no rfl (yv_of rfl (e90.trans (congrArg B hb94)))) rfl hJ)) ?_
                        refine all_cons (obs_v rfl (by
                            intro k; intro _nm ρ σm hJ hoff hdep
                            have e90 : look 111 ρ 90 = (B s63.2.1) := hdep 1 rfl rfl 90 rfl
                            exact dp_skip (wanted_no rfl (yv_of rfl (e90.trans (congrArg B hb94)))) rfl hJ)) ?_
                        refine all_cons (obs_v rfl (by
                            intro k; intro _nm ρ σm hJ hoff hdep
                            have e90 : look 111 ρ 90 = (B s63.2.1) := hdep 1 rfl rfl 90 rfl
                            exact dp_skip (wanted_no rfl (yv_of rfl (e90.trans (congrArg B hb94)))) rfl hJ)) ?_
                        refine all_cons (obs_v rfl (by
                            intro k; intro _nm ρ σm hJ hoff hdep
                            have e90 : look 111 ρ 90 = (B s63.2.1) := hdep 1 rfl rfl 90 rfl
                            exact dp_skip (wanted_no rfl (yv_of rfl (e90.trans (congrArg B hb94)))) rfl hJ)) ?_
                        refine all_cons (obs_v rfl (by
                            intro k; intro _nm ρ σm hJ hoff hdep
                            have e90 : look 111 ρ 90 = (B s63.2.1) := hdep 1 rfl rfl 90 rfl
                            exact dp_skip (wanted_no rfl (yv_of rfl (e90.trans (congrArg B hb94)))) rfl hJ)) ?_
                        refine all_cons (obs_v rfl (by
                            intro k; intro _nm ρ σm hJ hoff hdep
                            have e90 : look 111 ρ 90 = (B s63.2.1) := hdep 1 rfl rfl 90 rfl
                            exact dp_skip (wanted_no rfl (yv_of rfl (e90.trans (congrArg B hb94)))) rfl hJ)) ?_
                        refine all_cons (obs_v rfl (by
                            intro k; intro _nm ρ σm hJ hoff hdep
                            have e90 : look 111 ρ 90 = (B s63.2.1) := hdep 1 rfl rfl 90 rfl
                            exact dp_skip (wanted_no rfl (yv_of rfl (e90.trans (congrArg B hb94)))) rfl hJ)) ?_
                        refine all_cons (obs_v rfl (by
                            intro k; intro _nm ρ σm hJ hoff hdep
                            have e90 : look 111 ρ 90 = (B s63.2.1) := hdep 1 rfl rfl 90 rfl
                            exact dp_skip (wanted_no rfl (yv_of rfl (e90.trans (congrArg B hb94)))) rfl hJ)) ?_
                        refine all_cons (obs_v rfl (by
                            intro k; intro _nm ρ σm hJ hoff hdep
                            have e90 : look 111 ρ 90 = (B s63.2.1) := hdep 1 rfl rfl 90 rfl
                            exact dp_skip (wanted_no rfl (yv_of rfl (e90.trans (congrArg B hb94)))) rfl hJ)) ?_
                        refine all_cons (obs_v rfl (by
                            intro k; intro _nm ρ σm hJ hoff hdep
                            have e90 : look 111 ρ 90 = (B s63.2.1) := hdep 1 rfl rfl 90 rfl
                            exact dp_skip (wanted_no rfl (yv_of rfl (e90.trans (congrArg B hb94)))) rfl hJ)) ?_
                        exact all_nil
                      · intro _nm ρ σ95 hJ hoff hrel
                        have e3 : look 111 ρ 3 = (Sl a5 r2 c6) := look_off (hoff 3 rfl) rfl
                        have e4 : look 111 ρ 4 = (Sl a11 r8.1 c12) := look_off (hoff 4 rfl) rfl
                        have e5 : look 111 ρ 5 = (Sl a14 r8.2.1 c15) := look_off (hoff 5 rfl) rfl
                        have e10 : look 111 ρ 10 = (I s59) := look_off (hoff 10 rfl) rfl
                        have e11 : look 111 ρ 11 = (B o66) := look_off (hoff 11 rfl) rfl
                        have e13 : look 111 ρ 13 = (I s63.2.2) := look_off (hoff 13 rfl) rfl
                        have e90 : look 111 ρ 90 = (B s63.2.1) := hrel 1 rfl 90 rfl
                        have e98 : look 111 ρ 98 = undef := hrel 9 rfl 98 rfl
                        have e102 : look 111 ρ 102 = undef := hrel 13 rfl 102 rfl
                        obtain ⟨H, -⟩ := (show Hp S0 σ0 σ95 [Ch.own n0 n0 (Sl a5 r2 c6) r2, Ch.own n0 n0 (Sl a11 r8.1 c12) r8.1, Ch.own n0 n0 (Sl a14 r8.2.1 c15) r8.2.1] ∧ Md (cov []) σ92 σ95 from hJ)
                        clear hJ Hs
                        rw [fr_lookL (L := [(3, (Sl a5 r2 c6)), (4, (Sl a11 r8.1 c12)), (5, (Sl a14 r8.2.1 c15)), (10, (I s59)), (11, (B o66)), (13, (I s63.2.2)), (90, (B s63.2.1)), (98, undef), (102, undef)]) ⟨e3, e4, e5, e10, e11, e13, e90, e98, e102, trivial⟩]
                        clear hoff hrel e3 e4 e5 e10 e11 e13 e90 e98 e102
                        refine st_skip (congrArg some hb94) ?_
                        refine st (v := (B true)) (rv_pick_t (congrArg B hb94) rfl) ?_
                        refine st (v := (B true)) (rv_assign rfl) ?_
                        refine w_end ?_
                        obtain rfl := Option.some.inj h
                        exact ⟨rfl, _, σ95, fr_join ⟨rfl, rfl, rfl, rfl, rfl, rfl, rfl, trivial⟩, rfl, H.sel' [0, 1, 2] rfl rfl⟩
                    · replace h := bif_f hb94 h
                      obtain ⟨x96, hx97, h'⟩ := bind_some h
                      clear h
                      have h := h'; clear h'
                      obtain ⟨b99, o100, hi98, -⟩ := (H.own 0 rfl).ix hx97
                      obtain ⟨v104, hc105, hR103⟩ := ((H.own 0 rfl).at hx97 hi98).snd.fst.slice
                      obtain ⟨a101, c102, rfl⟩ := hR103.isSl
                      replace H := H.add (d := Ch.ro n0 (Sl a101 x96.2.1 c102) x96.2.1) hR103 (fun _ h => h)
                      clear hR103
                      obtain ⟨x106, hx107, h'⟩ := bind_some h
                      clear h
                      have h := h'; clear h'
                      obtain ⟨b109, o110, hi108, -⟩ := (H.ro 0 rfl).ix hx107
                      have hc111 := ((H.ro 0 rfl).at hx107 hi108).int
                      obtain ⟨x112, hx113, h'⟩ := bind_some h
                      clear h
                      have h := h'; clear h'
                      obtain ⟨b115, o116, hi114, -⟩ := (H.own 3 rfl).ix hx113
                      have hc117 := ((H.own 3 rfl).at hx113 hi114).int
                      have Hs := H
                      refine rg2 (σ := σ92) (Nm := Unit) 14 [] [[]] [[(0, 0)], [(0, 0)], [(0, 0)], [(0, 0)], [(0, 0)], [(0, 0)], [(0, 0)], [(0, 0)], [(0, 0)], [(0, 0)], [(0, 0)], [(0, 0)], [(0, 0)], [(0, 0)]] 0 [fun (_nm : Unit) => fun σm => Hp S0 σ0 σm [Ch.ro n0 (Sl a101 x96.2.1 c102) x96.2.1, Ch.own n0 n0 (Sl a5 r2 c6) r2, Ch.own n0 n0 (Sl a11 r8.1 c12) r8.1, Ch.own n0 n0 (Sl a14 r8.2.1 c15) r8.2.1] ∧ Md (cov []) σ92 σm] [fun (_nm : Unit) => (B s63.2.1), fun (_nm : Unit) => (B s63.2.1), fun (_nm : Unit) => (Sl a5 r2 c6), fun (_nm : Unit) => (I s63.2.2), fun (_nm : Unit) => (pt b99 o100), fun (_nm : Unit) => (pt b99 (o100 + 1)), fun (_nm : Unit) => (Sl a101 x96.2.1 c102), fun (_nm : Unit) => (I s59), fun (_nm : Unit) => (pt b109 o110), fun (_nm : Unit) => (I x106), fun (_nm : Unit) => (Sl a14 r8.2.1 c15), fun (_nm : Unit) => (I s59), fun (_nm : Unit) => (pt b115 o116), fun (_nm : Unit) => (I x112)] () (by kernel_rfl) (by kernel_rfl) ?_ ?_ ?_
                      · intro σm m0
                        exact ⟨H.grow (m0.mono fun _ h => h.elim), m0⟩
                      · refine all_cons (obs_v rfl (by
                            intro k; intro _nm ρ σm hJ hoff hdep
                            have e12 : look 111 ρ 12 = (B s63.2.1) := look_off (hoff 12 rfl) rfl
                            exact dp_v (v := (B s63.2.1)) (wanted_none _ rfl _) (rv_move e12) rfl hJ)) ?_
                        refine all_cons (obs_v rfl (by
                            intro k; intro _nm ρ σm hJ hoff hdep
                            have e89 : look 111 ρ 89 = (B s63.2.1) := hdep 0 rfl rfl 89 rfl
                            exact dp_v (v := (B s63.2.1)) (wanted_none _ rfl _) (rv_move e89) rfl hJ)) ?_
                        refine all_cons (obs_v rfl (by
                            intro k; intro _nm ρ σm hJ hoff hdep
                            have e3 : look 111 ρ 3 = (Sl a5 r2 c6) := look_off (hoff 3 rfl) rfl
                            have e90 : look 111 ρ 90 = (B s63.2.1) := hdep 1 rfl rfl 90 rfl
                            exact dp_v (v := (Sl a5 r2 c6)) (wanted_yes rfl (yv_of rfl (e90.trans (congrArg B hb94)))) (rv_move e3) rfl hJ)) ?_
                        refine all_cons (obs_v rfl (by
                            intro k; intro _nm ρ σm hJ hoff hdep
                            have e13 : look 111 ρ 13 = (I s63.2.2) := look_off (hoff 13 rfl) rfl
                            have e90 : look 111 ρ 90 = (B s63.2.1) := hdep 1 rfl rfl 90 rfl
                            exact dp_v (v := (I s63.2.2)) (wanted_yes rfl (yv_of rfl (e90.trans (congrArg B hb94)))) (rv_move e13) rfl hJ)) ?_
                        refine all_cons (obs_v rfl (by
                            intro k; intro _nm ρ σm hJ hoff hdep
                            have e91 : look 111 ρ 91 = (Sl a5 r2 c6) := hdep 2 rfl rfl 91 rfl
                            have e92 : look 111 ρ 92 = (I s63.2.2) := hdep 3 rfl rfl 92 rfl
                            have e90 : look 111 ρ 90 = (B s63.2.1) := hdep 1 rfl rfl 90 rfl
                            exact dp_v (v := (pt b99 o100)) (wanted_yes rfl (yv_of rfl (e90.trans (congrArg B hb94)))) (rv_ix Try.underlying23 ti29 e91 e92 hi98) rfl hJ)) ?_
                        refine all_cons (obs_v rfl (by
                            intro k; intro _nm ρ σm hJ hoff hdep
                            have e93 : look 111 ρ 93 = (pt b99 o100) := hdep 4 rfl rfl 93 rfl
                            have e90 : look 111 ρ 90 = (B s63.2.1) := hdep 1 rfl rfl 90 rfl
                            exact dp_v (v := (pt b99 (o100 + 1))) (wanted_yes rfl (yv_of rfl (e90.trans (congrArg B hb94)))) (rv_fieldAddr (off := 1) (ft := 27) Try.underlying29 rfl ti27 rfl e93) rfl hJ)) ?_
                        refine all_cons (by
                            refine ⟨?_, ?_⟩
                            · intro _nm ρ σm hJ hoff hdep
                              have e94 : look 111 ρ 94 = (pt b99 (o100 + 1)) := hdep 5 rfl rfl 94 rfl
                              have e90 : look 111 ρ 90 = (B s63.2.1) := hdep 1 rfl rfl 90 rfl
                              obtain ⟨H, m⟩ := (show Hp S0 σ0 σm [Ch.ro n0 (Sl a101 x96.2.1 c102) x96.2.1, Ch.own n0 n0 (Sl a5 r2 c6) r2, Ch.own n0 n0 (Sl a11 r8.1 c12) r8.1, Ch.own n0 n0 (Sl a14 r8.2.1 c15) r8.2.1] ∧ Md (cov []) σ92 σm from hJ)
                              replace hc105 := m.hcell hc105 nocov
                              exact dp_v (v := (Sl a101 x96.2.1 c102)) (wanted_yes rfl (yv_of rfl (e90.trans (congrArg B hb94)))) (rv_load1 Try.underlying27 rfl e94 hc105) rfl hJ
                            trivial) ?_
                        refine all_cons (obs_v rfl (by
                            intro k; intro _nm ρ σm hJ hoff hdep
                            have e10 : look 111 ρ 10 = (I s59) := look_off (hoff 10 rfl) rfl
                            have e90 : look 111 ρ 90 = (B s63.2.1) := hdep 1 rfl rfl 90 rfl
                            exact dp_v (v := (I s59)) (wanted_yes rfl (yv_of rfl (e90.trans (congrArg B hb94)))) (rv_move e10) rfl hJ)) ?_
                        refine all_cons (obs_v rfl (by
                            intro k; intro _nm ρ σm hJ hoff hdep
                            have e95 : look 111 ρ 95 = (Sl a101 x96.2.1 c102) := hdep 6 rfl rfl 95 rfl
                            have e96 : look 111 ρ 96 = (I s59) := hdep 7 rfl rfl 96 rfl
                            have e90 : look 111 ρ 90 = (B s63.2.1) := hdep 1 rfl rfl 90 rfl
                            exact dp_v (v := (pt b109 o110)) (wanted_yes rfl (yv_of rfl (e90.trans (congrArg B hb94)))) (rv_ix Try.underlying27 ti3 e95 e96 hi108) rfl hJ)) ?_
                        refine all_cons (by
                            refine ⟨?_, ?_⟩
                            · intro _nm ρ σm hJ hoff hdep
                              have e97 : look 111 ρ 97 = (pt b109 o110) := hdep 8 rfl rfl 97 rfl
                              have e90 : look 111 ρ 90 = (B s63.2.1) := hdep 1 rfl rfl 90 rfl
                              obtain ⟨H, m⟩ := (show Hp S0 σ0 σm [Ch.ro n0 (Sl a101 x96.2.1 c102) x96.2.1, Ch.own n0 n0 (Sl a5 r2 c6) r2, Ch.own n0 n0 (Sl a11 r8.1 c12) r8.1, Ch.own n0 n0 (Sl a14 r8.2.1 c15) r8.2.1] ∧ Md (cov []) σ92 σm from hJ)
                              replace hc111 := (Hs.ro 0 rfl).hmd hx107 hi108 (k := 0) (by decide) hc111 m
                              exact dp_v (v := (I x106)) (wanted_yes rfl (yv_of rfl (e90.trans (congrArg B hb94)))) (rv_load1 Try.underlying3 rfl e97 hc111) rfl hJ
                            trivial) ?_
                        refine all_cons (obs_v rfl (by
                            intro k; intro _nm ρ σm hJ hoff hdep
                            have e5 : look 111 ρ 5 = (Sl a14 r8.2.1 c15) := look_off (hoff 5 rfl) rfl
                            have e90 : look 111 ρ 90 = (B s63.2.1) := hdep 1 rfl rfl 90 rfl
                            exact dp_v (v := (Sl a14 r8.2.1 c15)) (wanted_yes rfl (yv_of rfl (e90.trans (congrArg B hb94)))) (rv_move e5) rfl hJ)) ?_
                        refine all_cons (obs_v rfl (by
                            intro k; intro _nm ρ σm hJ hoff hdep
                            have e10 : look 111 ρ 10 = (I s59) := look_off (hoff 10 rfl) rfl
                            have e90 : look 111 ρ 90 = (B s63.2.1) := hdep 1 rfl rfl 90 rfl
                            exact dp_v (v := (I s59)) (wanted_yes rfl (yv_of rfl (e90.trans (congrArg B hb94)))) (rv_move e10) rfl hJ)) ?_
                        refine all_cons (obs_v rfl (by
                            intro k; intro _nm ρ σm hJ hoff hdep
                            have e99 : look 111 ρ 99 = (Sl a14 r8.2.1 c15) := hdep 10 rfl rfl 99 rfl
                            have e100 : look 111 ρ 100 = (I s59) := hdep 11 rfl rfl 100 rfl
                            have e90 : look 111 ρ 90 = (B s63.2.1) := hdep 1 rfl rfl 90 rfl
                            exact dp_v (v := (pt b115 o116)) (wanted_yes rfl (yv_of rfl (e90.trans (congrArg B hb94)))) (rv_ix Try.underlying27 ti3 e99 e100 hi114) rfl hJ)) ?_
                        refine all_cons (by
                            refine ⟨?_, ?_⟩
                            · intro _nm ρ σm hJ hoff hdep
                              have e101 : look 111 ρ 101 = (pt b115 o116) := hdep 12 rfl rfl 101 rfl
                              have e90 : look 111 ρ 90 = (B s63.2.1) := hdep 1 rfl rfl 90 rfl
                              obtain ⟨H, m⟩ := (show Hp S0 σ0 σm [Ch.ro n0 (Sl a101 x96.2.1 c102) x96.2.1, Ch.own n0 n0 (Sl a5 r2 c6) r2, Ch.own n0 n0 (Sl a11 r8.1 c12) r8.1, Ch.own n0 n0 (Sl a14 r8.2.1 c15) r8.2.1] ∧ Md (cov []) σ92 σm from hJ)
                              have hc117 := ((H.own 3 rfl).at hx113 hi114).int
                              exact dp_v (v := (I x112)) (wanted_yes rfl (yv_of rfl (e90.trans (congrArg B hb94)))) (rv_load1 Try.underlying3 rfl e101 hc117) rfl hJ
                            trivial) ?_
                        exact all_nil
                      · intro _nm ρ σ118 hJ hoff hrel
                        have e3 : look 111 ρ 3 = (Sl a5 r2 c6) := look_off (hoff 3 rfl) rfl
                        have e4 : look 111 ρ 4 = (Sl a11 r8.1 c12) := look_off (hoff 4 rfl) rfl
                        have e5 : look 111 ρ 5 = (Sl a14 r8.2.1 c15) := look_off (hoff 5 rfl) rfl
                        have e10 : look 111 ρ 10 = (I s59) := look_off (hoff 10 rfl) rfl
                        have e11 : look 111 ρ 11 = (B o66) := look_off (hoff 11 rfl) rfl
                        have e13 : look 111 ρ 13 = (I s63.2.2) := look_off (hoff 13 rfl) rfl
                        have e90 : look 111 ρ 90 = (B s63.2.1) := hrel 1 rfl 90 rfl
                        have e98 : look 111 ρ 98 = (I x106) := hrel 9 rfl 98 rfl
                        have e102 : look 111 ρ 102 = (I x112) := hrel 13 rfl 102 rfl
                        obtain ⟨H, -⟩ := (show Hp S0 σ0 σ118 [Ch.ro n0 (Sl a101 x96.2.1 c102) x96.2.1, Ch.own n0 n0 (Sl a5 r2 c6) r2, Ch.own n0 n0 (Sl a11 r8.1 c12) r8.1, Ch.own n0 n0 (Sl a14 r8.2.1 c15) r8.2.1] ∧ Md (cov []) σ92 σ118 from hJ)
                        clear hJ Hs
                        rw [fr_lookL (L := [(3, (Sl a5 r2 c6)), (4, (Sl a11 r8.1 c12)), (5, (Sl a14 r8.2.1 c15)), (10, (I s59)), (11, (B o66)), (13, (I s63.2.2)), (90, (B s63.2.1)), (98, (I x106)), (102, (I x112))]) ⟨e3, e4, e5, e10, e11, e13, e90, e98, e102, trivial⟩]
                        clear hoff hrel e3 e4 e5 e10 e11 e13 e90 e98 e102
                        refine st_g (v := (B (x106 == x112))) (congrArg some hb94) (rv_eql (a := x106) (b := x112) rfl rfl) ?_
                        refine st (v := (B (x106 == x112))) (rv_pick_f (congrArg B hb94) rfl) ?_
                        refine st (v := (B (x106 == x112))) (rv_assign rfl) ?_
                        refine w_end ?_
                        obtain rfl := Option.some.inj h
                        exact ⟨rfl, _, σ118, fr_join ⟨rfl, rfl, rfl, rfl, rfl, rfl, rfl, trivial⟩, rfl, H.sel' [1, 2, 3] rfl rfl⟩
                  · clear hj
                    have h := h'
                    clear h' H
                    rintro e a w ⟨rfl, ρ, σ119, rfl, rfl, H⟩
                    refine q_blk ?_
                    refine q_then ?_
                    refine rg ?_
                    refine st (v := (I s63.2.2)) (rv_move rfl) ?_
                    refine st (v := (I (w64 (s63.2.2 + 1)))) (rv_add (a := s63.2.2) (b := 1) rfl rfl) ?_
                    refine st (v := (I (w64 (s63.2.2 + 1)))) (rv_assign rfl) ?_
                    refine w_end ?_
                    refine q_then ?_
                    obtain rfl := Option.some.inj h
                    exact ⟨_, rfl, _, σ119, fr_join ⟨rfl, rfl, rfl, rfl, rfl, rfl, rfl, trivial⟩, rfl, H.sel' [0, 1, 2] rfl rfl⟩
              · replace h := bif_f hb65 h
                refine c_exit ?_
                refine q_then_x ?_
                refine q_then_x ?_
                refine q_blk_hit ?_
                obtain rfl := Option.some.inj h
                obtain rfl := hres _ rfl
                exact ⟨rfl, _, σ64, fr_join ⟨rfl, rfl, rfl, rfl, rfl, rfl, trivial⟩, rfl, H.sel' [0, 1, 2] rfl rfl⟩
            · clear hj
              have h := h'
              clear h' H
              rintro e a w ⟨rfl, ρ, σ120, rfl, rfl, H⟩
              refine q_then ?_
              refine c_seq ?_
              obtain ⟨o121, hj, h'⟩ := bind_some h
              clear h
              refine c_cut (fun e a w => e = .normal ∧ ∃ (ρ : Nat → Value) (σ : St), a = fr 111 (updL ρ [(3, (Sl a5 r2 c6)), (4, (Sl a11 r8.1 c12)), (5, (Sl a14 r8.2.1 c15)), (10, (I s59)), (110, (B o121))]) ∧ w = σ.w ∧ Hp S0 σ0 σ [Ch.own n0 n0 (Sl a5 r2 c6) r2, Ch.own n0 n0 (Sl a11 r8.1 c12) r8.1, Ch.own n0 n0 (Sl a14 r8.2.1 c15) r8.2.1]) ?_ ?_
              · clear h'
                rename _ = some o121 => h
                refine rg ?_
                refine st (v := (B o62.1)) (rv_move rfl) ?_
                refine st (v := (B (!o62.1))) (rv_not rfl) ?_
                refine st (v := (B (!o62.1))) (rv_move rfl) ?_
                rcases Bool.eq_false_or_eq_true (!o62.1) with hb122 | hb122
                · replace h := bif_t hb122 h
                  refine st_skip (congrArg some hb122) ?_
                  refine st_skip (congrArg some hb122) ?_
                  refine st (v := (B true)) (rv_pick_t (congrArg B hb122) rfl) ?_
                  refine w_end ?_
                  obtain rfl := Option.some.inj h
                  exact ⟨rfl, _, σ120, fr_join ⟨rfl, rfl, rfl, rfl, rfl, trivial⟩, rfl, H.sel' [0, 1, 2] rfl rfl⟩
                · replace h := bif_f hb122 h
                  refine st_g (v := (B o62.2)) (congrArg some hb122) (rv_move rfl) ?_
                  refine st_g (v := (B (!o62.2))) (congrArg some hb122) (rv_not rfl) ?_
                  refine st (v := (B (!o62.2))) (rv_pick_f (congrArg B hb122) rfl) ?_
                  refine w_end ?_
                  obtain rfl := Option.some.inj h
                  exact ⟨rfl, _, σ120, fr_join ⟨rfl, rfl, rfl, rfl, rfl, trivial⟩, rfl, H.sel' [0, 1, 2] rfl rfl⟩
              · clear hj
                have h := h'
                clear h' H
                rintro e a w ⟨rfl, ρ, σ123, rfl, rfl, H⟩
                refine q_then ?_
                refine cd_cond o121 rfl (fun hb124 => ?_) (fun hb124 => ?_)
                · replace h := bif_t hb124 h
                  refine c_seq ?_
                  refine rg ?_
                  refine st (v := (B false)) (rv_assign rfl) ?_
                  refine w_end ?_
                  refine q_then ?_
                  refine c_ret ?_
                  refine q_blk_r ?_
                  refine q_then_r ?_
                  refine q_then_r ?_
                  refine q_blk_r ?_
                  obtain rfl := Option.some.inj h
                  obtain rfl := hres _ rfl
                  exact .inr (⟨_, rfl, rfl, _, σ123, fr_join ⟨rfl, trivial⟩, rfl, H.sel' [] rfl rfl⟩)
                · replace h := bif_f hb124 h
                  refine c_skip ?_
                  refine q_blk ?_
                  refine q_then ?_
                  refine rg ?_
                  refine st (v := (I s59)) (rv_move rfl) ?_
                  refine st (v := (I (w64 (s59 + 1)))) (rv_add (a := s59) (b := 1) rfl rfl) ?_
                  refine st (v := (I (w64 (s59 + 1)))) (rv_assign rfl) ?_
                  refine w_end ?_
                  refine q_then ?_
                  obtain rfl := Option.some.inj h
                  exact ⟨_, rfl, _, σ123, fr_join ⟨rfl, rfl, rfl, rfl, trivial⟩, rfl, H.sel' [0, 1, 2] rfl rfl⟩
          · replace h := bif_f hb61 h
            refine c_exit ?_
            refine q_then_x ?_
            refine q_then_x ?_
            refine q_blk_hit ?_
            obtain rfl := Option.some.inj h
            obtain rfl := hres _ rfl
            exact .inl ⟨_, rfl, rfl, _, σ60, fr_join trivial, rfl, H.sel' [] rfl rfl⟩
        · clear hj
          have h := h'
          clear h' H
          rintro e a w (⟨t125, rfl, rfl, ρ, σ126, rfl, rfl, H⟩ | ⟨t127, rfl, rfl, ρ, σ128, rfl, rfl, H⟩)
          · replace h := selim_l h
            refine q_then ?_
            refine c_seq ?_
            refine rg ?_
            refine st (v := (B true)) (rv_assign rfl) ?_
            refine w_end ?_
            refine q_then ?_
            refine c_ret ?_
            obtain rfl := Option.some.inj h
            exact fin_ret (v := (B true)) (results_ok Try.results9 (res_tmp (v := (B true)) rfl res_nil) rfl) ⟨rfl, rfl⟩ (H.sel' [] rfl rfl)
          · replace h := selim_r h
            refine q_then_r ?_
            obtain rfl := Option.some.inj h
            exact fin_ret (v := (B t127)) (results_ok Try.results9 (res_tmp (v := (B t127)) rfl res_nil) rfl) ⟨rfl, rfl⟩ (H.sel' [] rfl rfl)

end Go.Vs
