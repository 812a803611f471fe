/- The functions compute what their models say. -/
import Derived.Test.YtcgkbgidfilodaaKExactGetItemC1
set_option linter.unusedVariables false
set_option linter.unusedSimpArgs false
set_option maxRecDepth 20000
namespace Go.Vs
open Go Go.Proofs
attribute [local irreducible] Code.wp Code.wpIn wpList wpListIn wpQuiet Calls CallsIn

theorem c_spec_validStore {list_0 : List (Int × (List Int) × Int)} {alist_0 : Option Addr} {clist_0 : Nat} {r : Bool} (h : M.spec_validStore list_0 = some r) :
    Cal2 Try.prog 80 [(Sl alist_0 list_0 clist_0)] [Ch.ro 0 (Sl alist_0 list_0 clist_0) list_0] (fun n0 v L => v = (B r) ∧ L = []) := by
 refine cal2 (n := 37) Try.func80 rfl rfl rfl rfl ?_
 intro S0 σ0 n0 hn0 H
 unfold M.spec_validStore at h
 refine c_seq ?_
 refine rg ?_
 refine st (v := (B false)) (rv_assign rfl) ?_
 refine w_end ?_
 refine q_then ?_
 refine c_seq ?_
 refine c_seq ?_
 refine rg ?_
 refine st (v := (I 0)) (rv_assign rfl) ?_
 refine w_end ?_
 refine q_then ?_
 obtain ⟨o1, hj, h'⟩ := bind_some h
 clear h
 refine c_cut (fun e a w => (∃ t, o1 = (.inl t) ∧ e = .normal ∧ ∃ (ρ : Nat → Value) (σ : St), a = fr 37 (updL ρ [(0, (Sl alist_0 list_0 clist_0))]) ∧ w = σ.w ∧ Hp S0 σ0 σ [Ch.ro 0 (Sl alist_0 list_0 clist_0) list_0]) ∨ (∃ t, o1 = (.inr t) ∧ e = .ret ∧ ∃ (ρ : Nat → Value) (σ : St), a = fr 37 (updL ρ [(2, (B t))]) ∧ w = σ.w ∧ Hp S0 σ0 σ [])) ?_ ?_
 ·clear h'
  rename _ = some o1 => h
  refine c_blk ?_
  refine wp_loopM _ h (fun s2 a w => ∃ (ρ : Nat → Value) (σ : St), a = fr 37 (updL ρ [(0, (Sl alist_0 list_0 clist_0)), (3, (I s2))]) ∧ w = σ.w ∧ Hp S0 σ0 σ [Ch.ro 0 (Sl alist_0 list_0 clist_0) list_0]) ⟨_, σ0, fr_join ⟨rfl, rfl, trivial⟩, rfl, H.sel' [0] rfl rfl⟩ ?_
  clear h H
  rintro s2 a w o ⟨ρ, σ3, rfl, rfl, H⟩ h hres
  refine c_seq ?_
  refine c_seq ?_
  refine rg ?_
  refine st (v := (I s2)) (rv_move rfl) ?_
  refine st (v := (Sl alist_0 list_0 clist_0)) (rv_move rfl) ?_
  refine st (v := (I (list_0.length : Int))) (rv_len Try.underlying23 rfl) ?_
  refine st (v := (B (decide (s2 < (list_0.length : Int))))) (rv_lss (a := s2) (b := (list_0.length : Int)) rfl rfl) ?_
  refine w_end ?_
  refine q_then ?_
  refine cd_cond (decide (s2 < (list_0.length : Int))) rfl (fun hb4 => ?_) (fun hb4 => ?_)
  ·replace h := bif_t hb4 h
   refine c_skip ?_
   refine q_then ?_
   refine c_seq ?_
   refine c_blk ?_
   refine c_seq ?_
   obtain ⟨o5, hj, h'⟩ := bind_some h
   clear h
   refine c_cut (fun e a w => e = .normal ∧ ∃ (ρ : Nat → Value) (σ : St), a = fr 37 (updL ρ [(0, (Sl alist_0 list_0 clist_0)), (3, (I s2)), (33, (B o5))]) ∧ w = σ.w ∧ Hp S0 σ0 σ [Ch.ro 0 (Sl alist_0 list_0 clist_0) list_0]) ?_ ?_
   ·clear h'
    rename _ = some o5 => h
    obtain ⟨x6, hx7, h'⟩ := bind_some h
    clear h
    have h := h'; clear h'
    obtain ⟨b9, o10, hi8, -⟩ := (H.ro 0 rfl).ix hx7
    obtain ⟨_, ⟨_, _, rfl, rfl, ⟨_, _, rfl, ⟨_, rfl, hR15⟩, rfl⟩⟩, hl11, hc12⟩ := ((H.ro 0 rfl).at hx7 hi8).cells
    obtain ⟨a13, c14, rfl⟩ := hR15.isSl
    replace H := H.add (d := Ch.ro 0 (Sl a13 x6.2.1 c14) x6.2.1) hR15 (fun _ h => h)
    clear hR15
    obtain ⟨r16, hx17, h'⟩ := bind_some h
    clear h
    have h := h'; clear h'
    have hc18 := c_spec_validItem (ax_0_1 := a13) (cx_0_1 := c14) hx17
    rcases Bool.eq_false_or_eq_true (!r16) with hb19 | hb19
    ·replace h := bif_t hb19 h
     have Hs := H
     refine rg2 (σ := σ3) (Nm := Unit) 21 [4] [[false], [true]] [[(0, 0)], [(0, 0)], [(0, 0)], [(0, 0)], [(0, 1)], [(1, 1)], [(1, 1)], [(1, 1)], [(1, 1)], [(1, 1)], [(1, 1)], [(1, 1)], [(1, 1)], [(1, 1)], [(1, 1)], [(1, 1)], [(1, 1)], [(1, 1)], [(1, 1)], [(1, 1)], [(1, 1)]] 1 [fun (_nm : Unit) => fun σm => Hp S0 σ0 σm [Ch.ro 0 (Sl a13 x6.2.1 c14) x6.2.1, Ch.ro 0 (Sl alist_0 list_0 clist_0) list_0] ∧ Md (cov []) σ3 σm, fun (_nm : Unit) => fun σm => Hp S0 σ0 σm [Ch.ro 0 (Sl a13 x6.2.1 c14) x6.2.1, Ch.ro 0 (Sl alist_0 list_0 clist_0) list_0] ∧ Md (cov []) σ3 σm] [fun (_nm : Unit) => (Sl alist_0 list_0 clist_0), fun (_nm : Unit) => (I s2), fun (_nm : Unit) => (pt b9 o10), fun (_nm : Unit) => (.agg #[(I x6.1), (Sl a13 x6.2.1 c14), (I x6.2.2)]), fun (_nm : Unit) => (B r16), fun (_nm : Unit) => (B (!r16)), fun (_nm : Unit) => (B (!r16)), fun (_nm : Unit) => undef, fun (_nm : Unit) => undef, fun (_nm : Unit) => undef, fun (_nm : Unit) => undef, fun (_nm : Unit) => undef, fun (_nm : Unit) => undef, fun (_nm : Unit) => undef, fun (_nm : Unit) => undef, fun (_nm : Unit) => undef, fun (_nm : Unit) => undef, fun (_nm : Unit) => undef, fun (_nm : Unit) => undef, fun (_nm : Unit) => undef, fun (_nm : Unit) => undef] () (by kernel_rfl) (by kernel_rfl) ?_ ?_ ?_
     ·intro σm m0
      exact ⟨H.grow (m0.mono fun _ h => h.elim), m0⟩
     ·refine all_cons (obs_v rfl (by
        intro k; intro _nm ρ σm hJ hoff hdep
        have e0 : look 37 ρ 0 = (Sl alist_0 list_0 clist_0) := look_off (hoff 0 rfl) rfl
        exact dp_v (v := (Sl alist_0 list_0 clist_0)) (wanted_none _ rfl _) (rv_move e0) rfl hJ)) ?_
      refine all_cons (obs_v rfl (by
        intro k; intro _nm ρ σm hJ hoff hdep
        have e3 : look 37 ρ 3 = (I s2) := look_off (hoff 3 rfl) rfl
        exact dp_v (v := (I s2)) (wanted_none _ rfl _) (rv_move e3) rfl hJ)) ?_
      refine all_cons (obs_v rfl (by
        intro k; intro _nm ρ σm hJ hoff hdep
        have e10 : look 37 ρ 10 = (Sl alist_0 list_0 clist_0) := hdep 0 rfl rfl 10 rfl
        have e11 : look 37 ρ 11 = (I s2) := hdep 1 rfl rfl 11 rfl
        exact dp_v (v := (pt b9 o10)) (wanted_none _ rfl _) (rv_ix Try.underlying23 ti31 e10 e11 hi8) rfl hJ)) ?_
      refine all_cons (by
        refine ⟨?_, ?_⟩
        ·intro _nm ρ σm hJ hoff hdep
         have e12 : look 37 ρ 12 = (pt b9 o10) := hdep 2 rfl rfl 12 rfl
         obtain ⟨H, m⟩ := id hJ
         replace hc12 := fun j hj => (Hs.ro 1 rfl).hmd hx7 hi8 (k := j) (Nat.lt_of_lt_of_eq hj hl11) (hc12 j hj) m
         exact dp_v (v := (.agg #[(I x6.1), (Sl a13 x6.2.1 c14), (I x6.2.2)])) (wanted_none _ rfl _) (rv_load Try.underlying31 rfl ti31 e12 hl11 hc12) rfl hJ
        trivial) ?_
      refine all_cons (by
        refine ⟨?_, ?_⟩
        ·intro _nm ρ σm hJ hoff hdep
         have e13 : look 37 ρ 13 = (.agg #[(I x6.1), (Sl a13 x6.2.1 c14), (I x6.2.2)]) := hdep 3 rfl rfl 13 rfl
         obtain ⟨H, m⟩ := id hJ
         refine dp_cx (wanted_none _ rfl _) (cx_call hc18 (ent_f hc18.fn (by show [look 37 ρ 13] = _; rw [e13])) hn0 (show Hp S0 σ0 _ ([Ch.ro 0 (Sl a13 x6.2.1 c14) x6.2.1] ++ [Ch.ro 0 (Sl a13 x6.2.1 c14) x6.2.1, Ch.ro 0 (Sl alist_0 list_0 clist_0) list_0]) from (H.sel' [0, 0, 1] rfl rfl))) ?_
         rintro _ σq ⟨_, ⟨rfl, rfl⟩, H2, m2⟩
         exact ⟨_, (), rfl, rfl, ⟨H2.sel' [0, 1] rfl rfl, m.comp0 (m2.mono (fun i h => by simp [cov, Ch.ro] at h))⟩, stab [0, 1, 2, 3] (by kernel_rfl) ⟨rfl, rfl, rfl, rfl, trivial⟩⟩
        trivial) ?_
      refine all_cons (obs_v rfl (by
        intro k; intro _nm ρ σm hJ hoff hdep
        have e14 : look 37 ρ 14 = (B r16) := hdep 4 rfl rfl 14 rfl
        exact dp_v (v := (B (!r16))) (wanted_none _ rfl _) (rv_not e14) rfl hJ)) ?_
      refine all_cons (obs_v rfl (by
        intro k; intro _nm ρ σm hJ hoff hdep
        have e15 : look 37 ρ 15 = (B (!r16)) := hdep 5 rfl rfl 15 rfl
        exact dp_v (v := (B (!r16))) (wanted_none _ rfl _) (rv_move e15) rfl hJ)) ?_
      refine all_cons (obs_v rfl (by
        intro k; intro _nm ρ σm hJ hoff hdep
        have e16 : look 37 ρ 16 = (B (!r16)) := hdep 6 rfl rfl 16 rfl
        exact dp_skip (wanted_no rfl (yv_of rfl (e16.trans (congrArg B hb19)))) rfl hJ)) ?_
      refine all_cons (obs_v rfl (by
        intro k; intro _nm ρ σm hJ hoff hdep
        have e16 : look 37 ρ 16 = (B (!r16)) := hdep 6 rfl rfl 16 rfl
        exact dp_skip (wanted_no rfl (yv_of rfl (e16.trans (congrArg B hb19)))) rfl hJ)) ?_
      refine all_cons (obs_v rfl (by
        intro k; intro _nm ρ σm hJ hoff hdep
        have e16 : look 37 ρ 16 = (B (!r16)) := hdep 6 rfl rfl 16 rfl
        exact dp_skip (wanted_no rfl (yv_of rfl (e16.trans (congrArg B hb19)))) rfl hJ)) ?_
      refine all_cons (obs_v rfl (by
        intro k; intro _nm ρ σm hJ hoff hdep
        have e19 : look 37 ρ 19 = undef := hdep 9 rfl rfl 19 rfl
        exact dp_skip (wanted_u rfl (yv_undef rfl e19)) rfl hJ)) ?_
      refine all_cons (obs_v rfl (by
        intro k; intro _nm ρ σm hJ hoff hdep
        have e19 : look 37 ρ 19 = undef := hdep 9 rfl rfl 19 rfl
        exact dp_skip (wanted_u rfl (yv_undef rfl e19)) rfl hJ)) ?_
      refine all_cons (obs_v rfl (by
        intro k; intro _nm ρ σm hJ hoff hdep
        have e19 : look 37 ρ 19 = undef := hdep 9 rfl rfl 19 rfl
        exact dp_skip (wanted_u rfl (yv_undef rfl e19)) rfl hJ)) ?_
      refine all_cons (obs_v rfl (by
        intro k; intro _nm ρ σm hJ hoff hdep
        have e19 : look 37 ρ 19 = undef := hdep 9 rfl rfl 19 rfl
        exact dp_skip (wanted_u rfl (yv_undef rfl e19)) rfl hJ)) ?_
      refine all_cons (obs_v rfl (by
        intro k; intro _nm ρ σm hJ hoff hdep
        have e19 : look 37 ρ 19 = undef := hdep 9 rfl rfl 19 rfl
        exact dp_skip (wanted_u rfl (yv_undef rfl e19)) rfl hJ)) ?_
      refine all_cons (obs_v rfl (by
        intro k; intro _nm ρ σm hJ hoff hdep
        have e19 : look 37 ρ 19 = undef := hdep 9 rfl rfl 19 rfl
        exact dp_skip (wanted_u rfl (yv_undef rfl e19)) rfl hJ)) ?_
      refine all_cons (obs_v rfl (by
        intro k; intro _nm ρ σm hJ hoff hdep
        have e19 : look 37 ρ 19 = undef := hdep 9 rfl rfl 19 rfl
        exact dp_skip (wanted_u rfl (yv_undef rfl e19)) rfl hJ)) ?_
      refine all_cons (obs_v rfl (by
        intro k; intro _nm ρ σm hJ hoff hdep
        have e19 : look 37 ρ 19 = undef := hdep 9 rfl rfl 19 rfl
        exact dp_skip (wanted_u rfl (yv_undef rfl e19)) rfl hJ)) ?_
      refine all_cons (obs_v rfl (by
        intro k; intro _nm ρ σm hJ hoff hdep
        have e19 : look 37 ρ 19 = undef := hdep 9 rfl rfl 19 rfl
        exact dp_skip (wanted_u rfl (yv_undef rfl e19)) rfl hJ)) ?_
      refine all_cons (obs_v rfl (by
        intro k; intro _nm ρ σm hJ hoff hdep
        have e19 : look 37 ρ 19 = undef := hdep 9 rfl rfl 19 rfl
        exact dp_skip (wanted_u rfl (yv_undef rfl e19)) rfl hJ)) ?_
      refine all_cons (obs_v rfl (by
        intro k; intro _nm ρ σm hJ hoff hdep
        have e19 : look 37 ρ 19 = undef := hdep 9 rfl rfl 19 rfl
        exact dp_skip (wanted_u rfl (yv_undef rfl e19)) rfl hJ)) ?_
      exact all_nil
     ·intro _nm ρ σ20 hJ hoff hrel
      have e0 : look 37 ρ 0 = (Sl alist_0 list_0 clist_0) := look_off (hoff 0 rfl) rfl
      have e3 : look 37 ρ 3 = (I s2) := look_off (hoff 3 rfl) rfl
      have e16 : look 37 ρ 16 = (B (!r16)) := hrel 6 rfl 16 rfl
      have e19 : look 37 ρ 19 = undef := hrel 9 rfl 19 rfl
      have e24 : look 37 ρ 24 = undef := hrel 14 rfl 24 rfl
      have e30 : look 37 ρ 30 = undef := hrel 20 rfl 30 rfl
      obtain ⟨H, -⟩ := (show Hp S0 σ0 σ20 [Ch.ro 0 (Sl a13 x6.2.1 c14) x6.2.1, Ch.ro 0 (Sl alist_0 list_0 clist_0) list_0] ∧ Md (cov []) σ3 σ20 from hJ)
      clear hJ Hs
      rw [fr_lookL (L := [(0, (Sl alist_0 list_0 clist_0)), (3, (I s2)), (16, (B (!r16))), (19, undef), (24, undef), (30, undef)]) ⟨e0, e3, e16, e19, e24, e30, trivial⟩]
      clear hoff hrel e0 e3 e16 e19 e24 e30
      refine st_skip_u rfl ?_
      refine st_skip (congrArg some hb19) ?_
      refine st (v := (B true)) (rv_pick_t (congrArg B hb19) rfl) ?_
      refine w_end ?_
      obtain rfl := Option.some.inj h
      exact ⟨rfl, _, σ20, fr_join ⟨rfl, rfl, rfl, trivial⟩, rfl, H.sel' [1] rfl rfl⟩
    ·replace h := bif_f hb19 h
     rcases Bool.eq_false_or_eq_true (decide (0 < s2)) with hb21 | hb21
     ·replace h := bif_t hb21 h
      obtain ⟨x22, hx23, h'⟩ := bind_some h
      clear h
      have h := h'; clear h'
      obtain ⟨b25, o26, hi24, -⟩ := (H.ro 1 rfl).ix hx23
      have hc27 := ((H.ro 1 rfl).at hx23 hi24).fst.int
      obtain ⟨x28, hx29, h'⟩ := bind_some h
      clear h
      have h := h'; clear h'
      obtain ⟨b31, o32, hi30, -⟩ := (H.ro 1 rfl).ix hx29
      have hc33 := ((H.ro 1 rfl).at hx29 hi30).fst.int
      have Hs := H
      refine rg2 (σ := σ3) (Nm := Unit) 21 [4] [[false], [true]] [[(0, 0)], [(0, 0)], [(0, 0)], [(0, 0)], [(0, 1)], [(1, 1)], [(1, 1)], [(1, 1)], [(1, 1)], [(1, 1)], [(1, 1)], [(1, 1)], [(1, 1)], [(1, 1)], [(1, 1)], [(1, 1)], [(1, 1)], [(1, 1)], [(1, 1)], [(1, 1)], [(1, 1)]] 1 [fun (_nm : Unit) => fun σm => Hp S0 σ0 σm [Ch.ro 0 (Sl a13 x6.2.1 c14) x6.2.1, Ch.ro 0 (Sl alist_0 list_0 clist_0) list_0] ∧ Md (cov []) σ3 σm, fun (_nm : Unit) => fun σm => Hp S0 σ0 σm [Ch.ro 0 (Sl a13 x6.2.1 c14) x6.2.1, Ch.ro 0 (Sl alist_0 list_0 clist_0) list_0] ∧ Md (cov []) σ3 σm] [fun (_nm : Unit) => (Sl alist_0 list_0 clist_0), fun (_nm : Unit) => (I s2), fun (_nm : Unit) => (pt b9 o10), fun (_nm : Unit) => (.agg #[(I x6.1), (Sl a13 x6.2.1 c14), (I x6.2.2)]), fun (_nm : Unit) => (B r16), fun (_nm : Unit) => (B (!r16)), fun (_nm : Unit) => (B (!r16)), fun (_nm : Unit) => (I s2), fun (_nm : Unit) => (B (decide (0 < s2))), fun (_nm : Unit) => (B (decide (0 < s2))), fun (_nm : Unit) => (Sl alist_0 list_0 clist_0), fun (_nm : Unit) => (I s2), fun (_nm : Unit) => (pt b25 o26), fun (_nm : Unit) => (pt b25 (o26 + 0)), fun (_nm : Unit) => (I x22.1), fun (_nm : Unit) => (Sl alist_0 list_0 clist_0), fun (_nm : Unit) => (I s2), fun (_nm : Unit) => (I (w64 (s2 - 1))), fun (_nm : Unit) => (pt b31 o32), fun (_nm : Unit) => (pt b31 (o32 + 0)), fun (_nm : Unit) => (I x28.1)] () (by kernel_rfl) (by kernel_rfl) ?_ ?_ ?_
      ·intro σm m0
       exact ⟨H.grow (m0.mono fun _ h => h.elim), m0⟩
      ·refine all_cons (obs_v rfl (by
         intro k; intro _nm ρ σm hJ hoff hdep
         have e0 : look 37 ρ 0 = (Sl alist_0 list_0 clist_0) := look_off (hoff 0 rfl) rfl
         exact dp_v (v := (Sl alist_0 list_0 clist_0)) (wanted_none _ rfl _) (rv_move e0) rfl hJ)) ?_
       refine all_cons (obs_v rfl (by
         intro k; intro _nm ρ σm hJ hoff hdep
         have e3 : look 37 ρ 3 = (I s2) := look_off (hoff 3 rfl) rfl
         exact dp_v (v := (I s2)) (wanted_none _ rfl _) (rv_move e3) rfl hJ)) ?_
       refine all_cons (obs_v rfl (by
         intro k; intro _nm ρ σm hJ hoff hdep
         have e10 : look 37 ρ 10 = (Sl alist_0 list_0 clist_0) := hdep 0 rfl rfl 10 rfl
         have e11 : look 37 ρ 11 = (I s2) := hdep 1 rfl rfl 11 rfl
         exact dp_v (v := (pt b9 o10)) (wanted_none _ rfl _) (rv_ix Try.underlying23 ti31 e10 e11 hi8) rfl hJ)) ?_
       refine all_cons (by
         refine ⟨?_, ?_⟩
         ·intro _nm ρ σm hJ hoff hdep
          have e12 : look 37 ρ 12 = (pt b9 o10) := hdep 2 rfl rfl 12 rfl
          obtain ⟨H, m⟩ := id hJ
          replace hc12 := fun j hj => (Hs.ro 1 rfl).hmd hx7 hi8 (k := j) (Nat.lt_of_lt_of_eq hj hl11) (hc12 j hj) m
          exact dp_v (v := (.agg #[(I x6.1), (Sl a13 x6.2.1 c14), (I x6.2.2)])) (wanted_none _ rfl _) (rv_load Try.underlying31 rfl ti31 e12 hl11 hc12) rfl hJ
         trivial) ?_
       refine all_cons (by
         refine ⟨?_, ?_⟩
         ·intro _nm ρ σm hJ hoff hdep
          have e13 : look 37 ρ 13 = (.agg #[(I x6.1), (Sl a13 x6.2.1 c14), (I x6.2.2)]) := hdep 3 rfl rfl 13 rfl
          obtain ⟨H, m⟩ := id hJ
          refine dp_cx (wanted_none _ rfl _) (cx_call hc18 (ent_f hc18.fn (by show [look 37 ρ 13] = _; rw [e13])) hn0 (show Hp S0 σ0 _ ([Ch.ro 0 (Sl a13 x6.2.1 c14) x6.2.1] ++ [Ch.ro 0 (Sl a13 x6.2.1 c14) x6.2.1, Ch.ro 0 (Sl alist_0 list_0 clist_0) list_0]) from (H.sel' [0, 0, 1] rfl rfl))) ?_
          rintro _ σq ⟨_, ⟨rfl, rfl⟩, H2, m2⟩
          exact ⟨_, (), rfl, rfl, ⟨H2.sel' [0, 1] rfl rfl, m.comp0 (m2.mono (fun i h => by simp [cov, Ch.ro] at h))⟩, stab [0, 1, 2, 3] (by kernel_rfl) ⟨rfl, rfl, rfl, rfl, trivial⟩⟩
         trivial) ?_
       refine all_cons (obs_v rfl (by
         intro k; intro _nm ρ σm hJ hoff hdep
         have e14 : look 37 ρ 14 = (B r16) := hdep 4 rfl rfl 14 rfl
         exact dp_v (v := (B (!r16))) (wanted_none _ rfl _) (rv_not e14) rfl hJ)) ?_
       refine all_cons (obs_v rfl (by
         intro k; intro _nm ρ σm hJ hoff hdep
         have e15 : look 37 ρ 15 = (B (!r16)) := hdep 5 rfl rfl 15 rfl
         exact dp_v (v := (B (!r16))) (wanted_none _ rfl _) (rv_move e15) rfl hJ)) ?_
       refine all_cons (obs_v rfl (by
         intro k; intro _nm ρ σm hJ hoff hdep
         have e3 : look 37 ρ 3 = (I s2) := look_off (hoff 3 rfl) rfl
         have e16 : look 37 ρ 16 = (B (!r16)) := hdep 6 rfl rfl 16 rfl
         exact dp_v (v := (I s2)) (wanted_yes rfl (yv_of rfl (e16.trans (congrArg B hb19)))) (rv_move e3) rfl hJ)) ?_
       refine all_cons (obs_v rfl (by
         intro k; intro _nm ρ σm hJ hoff hdep
         have e17 : look 37 ρ 17 = (I s2) := hdep 7 rfl rfl 17 rfl
         have e16 : look 37 ρ 16 = (B (!r16)) := hdep 6 rfl rfl 16 rfl
         exact dp_v (v := (B (decide (0 < s2)))) (wanted_yes rfl (yv_of rfl (e16.trans (congrArg B hb19)))) (rv_gtr (a := s2) (b := 0) e17 rfl) rfl hJ)) ?_
       refine all_cons (obs_v rfl (by
         intro k; intro _nm ρ σm hJ hoff hdep
         have e18 : look 37 ρ 18 = (B (decide (0 < s2))) := hdep 8 rfl rfl 18 rfl
         have e16 : look 37 ρ 16 = (B (!r16)) := hdep 6 rfl rfl 16 rfl
         exact dp_v (v := (B (decide (0 < s2)))) (wanted_yes rfl (yv_of rfl (e16.trans (congrArg B hb19)))) (rv_move e18) rfl hJ)) ?_
       refine all_cons (obs_v rfl (by
         intro k; intro _nm ρ σm hJ hoff hdep
         have e0 : look 37 ρ 0 = (Sl alist_0 list_0 clist_0) := look_off (hoff 0 rfl) rfl
         have e19 : look 37 ρ 19 = (B (decide (0 < s2))) := hdep 9 rfl rfl 19 rfl
         exact dp_v (v := (Sl alist_0 list_0 clist_0)) (wanted_yes rfl (yv_of rfl (e19.trans (congrArg B hb21)))) (rv_move e0) rfl hJ)) ?_
       refine all_cons (obs_v rfl (by
         intro k; intro _nm ρ σm hJ hoff hdep
         have e3 : look 37 ρ 3 = (I s2) := look_off (hoff 3 rfl) rfl
         have e19 : look 37 ρ 19 = (B (decide (0 < s2))) := hdep 9 rfl rfl 19 rfl
         exact dp_v (v := (I s2)) (wanted_yes rfl (yv_of rfl (e19.trans (congrArg B hb21)))) (rv_move e3) rfl hJ)) ?_
       refine all_cons (obs_v rfl (by
         intro k; intro _nm ρ σm hJ hoff hdep
         have e20 : look 37 ρ 20 = (Sl alist_0 list_0 clist_0) := hdep 10 rfl rfl 20 rfl
         have e21 : look 37 ρ 21 = (I s2) := hdep 11 rfl rfl 21 rfl
         have e19 : look 37 ρ 19 = (B (decide (0 < s2))) := hdep 9 rfl rfl 19 rfl
         exact dp_v (v := (pt b25 o26)) (wanted_yes rfl (yv_of rfl (e19.trans (congrArg B hb21)))) (rv_ix Try.underlying23 ti31 e20 e21 hi24) rfl hJ)) ?_
       refine all_cons (obs_v rfl (by
         intro k; intro _nm ρ σm hJ hoff hdep
         have e22 : look 37 ρ 22 = (pt b25 o26) := hdep 12 rfl rfl 22 rfl
         have e19 : look 37 ρ 19 = (B (decide (0 < s2))) := hdep 9 rfl rfl 19 rfl
         exact dp_v (v := (pt b25 (o26 + 0))) (wanted_yes rfl (yv_of rfl (e19.trans (congrArg B hb21)))) (rv_fieldAddr (off := 0) (ft := 3) Try.underlying31 rfl ti3 rfl e22) rfl hJ)) ?_
       refine all_cons (by
         refine ⟨?_, ?_⟩
         ·intro _nm ρ σm hJ hoff hdep
          have e23 : look 37 ρ 23 = (pt b25 (o26 + 0)) := hdep 13 rfl rfl 23 rfl
          have e19 : look 37 ρ 19 = (B (decide (0 < s2))) := hdep 9 rfl rfl 19 rfl
          obtain ⟨H, m⟩ := id hJ
          replace hc27 := (Hs.ro 1 rfl).hmd hx23 hi24 (k := 0) (by decide) hc27 m
          exact dp_v (v := (I x22.1)) (wanted_yes rfl (yv_of rfl (e19.trans (congrArg B hb21)))) (rv_load1 Try.underlying3 rfl e23 hc27) rfl hJ
         trivial) ?_
       refine all_cons (obs_v rfl (by
         intro k; intro _nm ρ σm hJ hoff hdep
         have e0 : look 37 ρ 0 = (Sl alist_0 list_0 clist_0) := look_off (hoff 0 rfl) rfl
         have e19 : look 37 ρ 19 = (B (decide (0 < s2))) := hdep 9 rfl rfl 19 rfl
         exact dp_v (v := (Sl alist_0 list_0 clist_0)) (wanted_yes rfl (yv_of rfl (e19.trans (congrArg B hb21)))) (rv_move e0) rfl hJ)) ?_
       refine all_cons (obs_v rfl (by
         intro k; intro _nm ρ σm hJ hoff hdep
         have e3 : look 37 ρ 3 = (I s2) := look_off (hoff 3 rfl) rfl
         have e19 : look 37 ρ 19 = (B (decide (0 < s2))) := hdep 9 rfl rfl 19 rfl
         exact dp_v (v := (I s2)) (wanted_yes rfl (yv_of rfl (e19.trans (congrArg B hb21)))) (rv_move e3) rfl hJ)) ?_
       refine all_cons (obs_v rfl (by
         intro k; intro _nm ρ σm hJ hoff hdep
         have e26 : look 37 ρ 26 = (I s2) := hdep 16 rfl rfl 26 rfl
         have e19 : look 37 ρ 19 = (B (decide (0 < s2))) := hdep 9 rfl rfl 19 rfl
         exact dp_v (v := (I (w64 (s2 - 1)))) (wanted_yes rfl (yv_of rfl (e19.trans (congrArg B hb21)))) (rv_sub (a := s2) (b := 1) e26 rfl) rfl hJ)) ?_
       refine all_cons (obs_v rfl (by
         intro k; intro _nm ρ σm hJ hoff hdep
         have e25 : look 37 ρ 25 = (Sl alist_0 list_0 clist_0) := hdep 15 rfl rfl 25 rfl
         have e27 : look 37 ρ 27 = (I (w64 (s2 - 1))) := hdep 17 rfl rfl 27 rfl
         have e19 : look 37 ρ 19 = (B (decide (0 < s2))) := hdep 9 rfl rfl 19 rfl
         exact dp_v (v := (pt b31 o32)) (wanted_yes rfl (yv_of rfl (e19.trans (congrArg B hb21)))) (rv_ix Try.underlying23 ti31 e25 e27 hi30) rfl hJ)) ?_
       refine all_cons (obs_v rfl (by
         intro k; intro _nm ρ σm hJ hoff hdep
         have e28 : look 37 ρ 28 = (pt b31 o32) := hdep 18 rfl rfl 28 rfl
         have e19 : look 37 ρ 19 = (B (decide (0 < s2))) := hdep 9 rfl rfl 19 rfl
         exact dp_v (v := (pt b31 (o32 + 0))) (wanted_yes rfl (yv_of rfl (e19.trans (congrArg B hb21)))) (rv_fieldAddr (off := 0) (ft := 3) Try.underlying31 rfl ti3 rfl e28) rfl hJ)) ?_
       refine all_cons (by
         refine ⟨?_, ?_⟩
         ·intro _nm ρ σm hJ hoff hdep
          have e29 : look 37 ρ 29 = (pt b31 (o32 + 0)) := hdep 19 rfl rfl 29 rfl
          have e19 : look 37 ρ 19 = (B (decide (0 < s2))) := hdep 9 rfl rfl 19 rfl
          obtain ⟨H, m⟩ := id hJ
          replace hc33 := (Hs.ro 1 rfl).hmd hx29 hi30 (k := 0) (by decide) hc33 m
          exact dp_v (v := (I x28.1)) (wanted_yes rfl (yv_of rfl (e19.trans (congrArg B hb21)))) (rv_load1 Try.underlying3 rfl e29 hc33) rfl hJ
         trivial) ?_
       exact all_nil
      ·intro _nm ρ σ34 hJ hoff hrel
       have e0 : look 37 ρ 0 = (Sl alist_0 list_0 clist_0) := look_off (hoff 0 rfl) rfl
       have e3 : look 37 ρ 3 = (I s2) := look_off (hoff 3 rfl) rfl
       have e16 : look 37 ρ 16 = (B (!r16)) := hrel 6 rfl 16 rfl
       have e19 : look 37 ρ 19 = (B (decide (0 < s2))) := hrel 9 rfl 19 rfl
       have e24 : look 37 ρ 24 = (I x22.1) := hrel 14 rfl 24 rfl
       have e30 : look 37 ρ 30 = (I x28.1) := hrel 20 rfl 30 rfl
       obtain ⟨H, -⟩ := (show Hp S0 σ0 σ34 [Ch.ro 0 (Sl a13 x6.2.1 c14) x6.2.1, Ch.ro 0 (Sl alist_0 list_0 clist_0) list_0] ∧ Md (cov []) σ3 σ34 from hJ)
       clear hJ Hs
       rw [fr_lookL (L := [(0, (Sl alist_0 list_0 clist_0)), (3, (I s2)), (16, (B (!r16))), (19, (B (decide (0 < s2)))), (24, (I x22.1)), (30, (I x28.1))]) ⟨e0, e3, e16, e19, e24, e30, trivial⟩]
       clear hoff hrel e0 e3 e16 e19 e24 e30
       refine st_g (v := (B (decide (x22.1 ≤ x28.1)))) (congrArg some hb21) (rv_leq (a := x22.1) (b := x28.1) rfl rfl) ?_
       refine st_g (v := (B (decide (x22.1 ≤ x28.1)))) (congrArg some hb19) (rv_pick_t (congrArg B hb21) rfl) ?_
       refine st (v := (B (decide (x22.1 ≤ x28.1)))) (rv_pick_f (congrArg B hb19) rfl) ?_
       refine w_end ?_
       obtain rfl := Option.some.inj h
       exact ⟨rfl, _, σ34, fr_join ⟨rfl, rfl, rfl, trivial⟩, rfl, H.sel' [1] rfl rfl⟩
     ·replace h := bif_f hb21 h
      have Hs := H
      refine rg2 (σ := σ3) (Nm := Unit) 21 [4] [[false], [true]] [[(0, 0)], [(0, 0)], [(0, 0)], [(0, 0)], [(0, 1)], [(1, 1)], [(1, 1)], [(1, 1)], [(1, 1)], [(1, 1)], [(1, 1)], [(1, 1)], [(1, 1)], [(1, 1)], [(1, 1)], [(1, 1)], [(1, 1)], [(1, 1)], [(1, 1)], [(1, 1)], [(1, 1)]] 1 [fun (_nm : Unit) => fun σm => Hp S0 σ0 σm [Ch.ro 0 (Sl a13 x6.2.1 c14) x6.2.1, Ch.ro 0 (Sl alist_0 list_0 clist_0) list_0] ∧ Md (cov []) σ3 σm, fun (_nm : Unit) => fun σm => Hp S0 σ0 σm [Ch.ro 0 (Sl a13 x6.2.1 c14) x6.2.1, Ch.ro 0 (Sl alist_0 list_0 clist_0) list_0] ∧ Md (cov []) σ3 σm] [fun (_nm : Unit) => (Sl alist_0 list_0 clist_0), fun (_nm : Unit) => (I s2), fun (_nm : Unit) => (pt b9 o10), fun (_nm : Unit) => (.agg #[(I x6.1), (Sl a13 x6.2.1 c14), (I x6.2.2)]), fun (_nm : Unit) => (B r16), fun (_nm : Unit) => (B (!r16)), fun (_nm : Unit) => (B (!r16)), fun (_nm : Unit) => (I s2), fun (_nm : Unit) => (B (decide (0 < s2))), fun (_nm : Unit) => (B (decide (0 < s2))), fun (_nm : Unit) => undef, fun (_nm : Unit) => undef, fun (_nm : Unit) => undef, fun (_nm : Unit) => undef, fun (_nm : Unit) => undef, fun (_nm : Unit) => undef, fun (_nm : Unit) => undef, fun (_nm : Unit) => undef, fun (_nm : Unit) => undef, fun (_nm : Unit) => undef, fun (_nm : Unit) => undef] () (by kernel_rfl) (by kernel_rfl) ?_ ?_ ?_
      ·intro σm m0
       exact ⟨H.grow (m0.mono fun _ h => h.elim), m0⟩
      ·refine all_cons (obs_v rfl (by
         intro k; intro _nm ρ σm hJ hoff hdep
         have e0 : look 37 ρ 0 = (Sl alist_0 list_0 clist_0) := look_off (hoff 0 rfl) rfl
         exact dp_v (v := (Sl alist_0 list_0 clist_0)) (wanted_none _ rfl _) (rv_move e0) rfl hJ)) ?_
       refine all_cons (obs_v rfl (by
         intro k; intro _nm ρ σm hJ hoff hdep
         have e3 : look 37 ρ 3 = (I s2) := look_off (hoff 3 rfl) rfl
         exact dp_v (v := (I s2)) (wanted_none _ rfl _) (rv_move e3) rfl hJ)) ?_
       refine all_cons (obs_v rfl (by
         intro k; intro _nm ρ σm hJ hoff hdep
         have e10 : look 37 ρ 10 = (Sl alist_0 list_0 clist_0) := hdep 0 rfl rfl 10 rfl
         have e11 : look 37 ρ 11 = (I s2) := hdep 1 rfl rfl 11 rfl
         exact dp_v (v := (pt b9 o10)) (wanted_none _ rfl _) (rv_ix Try.underlying23 ti31 e10 e11 hi8) rfl hJ)) ?_
       refine all_cons (by
         refine ⟨?_, ?_⟩
         ·intro _nm ρ σm hJ hoff hdep
          have e12 : look 37 ρ 12 = (pt b9 o10) := hdep 2 rfl rfl 12 rfl
          obtain ⟨H, m⟩ := id hJ
          replace hc12 := fun j hj => (Hs.ro 1 rfl).hmd hx7 hi8 (k := j) (Nat.lt_of_lt_of_eq hj hl11) (hc12 j hj) m
          exact dp_v (v := (.agg #[(I x6.1), (Sl a13 x6.2.1 c14), (I x6.2.2)])) (wanted_none _ rfl _) (rv_load Try.underlying31 rfl ti31 e12 hl11 hc12) rfl hJ
         trivial) ?_
       refine all_cons (by
         refine ⟨?_, ?_⟩
         ·intro _nm ρ σm hJ hoff hdep
          have e13 : look 37 ρ 13 = (.agg #[(I x6.1), (Sl a13 x6.2.1 c14), (I x6.2.2)]) := hdep 3 rfl rfl 13 rfl
          obtain ⟨H, m⟩ := id hJ
          refine dp_cx (wanted_none _ rfl _) (cx_call hc18 (ent_f hc18.fn (by show [look 37 ρ 13] = _; rw [e13])) hn0 (show Hp S0 σ0 _ ([Ch.ro 0 (Sl a13 x6.2.1 c14) x6.2.1] ++ [Ch.ro 0 (Sl a13 x6.2.1 c14) x6.2.1, Ch.ro 0 (Sl alist_0 list_0 clist_0) list_0]) from (H.sel' [0, 0, 1] rfl rfl))) ?_
          rintro _ σq ⟨_, ⟨rfl, rfl⟩, H2, m2⟩
          exact ⟨_, (), rfl, rfl, ⟨H2.sel' [0, 1] rfl rfl, m.comp0 (m2.mono (fun i h => by simp [cov, Ch.ro] at h))⟩, stab [0, 1, 2, 3] (by kernel_rfl) ⟨rfl, rfl, rfl, rfl, trivial⟩⟩
         trivial) ?_
       refine all_cons (obs_v rfl (by
         intro k; intro _nm ρ σm hJ hoff hdep
         have e14 : look 37 ρ 14 = (B r16) := hdep 4 rfl rfl 14 rfl
         exact dp_v (v := (B (!r16))) (wanted_none _ rfl _) (rv_not e14) rfl hJ)) ?_
       refine all_cons (obs_v rfl (by
         intro k; intro _nm ρ σm hJ hoff hdep
         have e15 : look 37 ρ 15 = (B (!r16)) := hdep 5 rfl rfl 15 rfl
         exact dp_v (v := (B (!r16))) (wanted_none _ rfl _) (rv_move e15) rfl hJ)) ?_
       refine all_cons (obs_v rfl (by
         intro k; intro _nm ρ σm hJ hoff hdep
         have e3 : look 37 ρ 3 = (I s2) := look_off (hoff 3 rfl) rfl
         have e16 : look 37 ρ 16 = (B (!r16)) := hdep 6 rfl rfl 16 rfl
         exact dp_v (v := (I s2)) (wanted_yes rfl (yv_of rfl (e16.trans (congrArg B hb19)))) (rv_move e3) rfl hJ)) ?_
       refine all_cons (obs_v rfl (by
         intro k; intro _nm ρ σm hJ hoff hdep
         have e17 : look 37 ρ 17 = (I s2) := hdep 7 rfl rfl 17 rfl
         have e16 : look 37 ρ 16 = (B (!r16)) := hdep 6 rfl rfl 16 rfl
         exact dp_v (v := (B (decide (0 < s2)))) (wanted_yes rfl (yv_of rfl (e16.trans (congrArg B hb19)))) (rv_gtr (a := s2) (b := 0) e17 rfl) rfl hJ)) ?_
       refine all_cons (obs_v rfl (by
         intro k; intro _nm ρ σm hJ hoff hdep
         have e18 : look 37 ρ 18 = (B (decide (0 < s2))) := hdep 8 rfl rfl 18 rfl
         have e16 : look 37 ρ 16 = (B (!r16)) := hdep 6 rfl rfl 16 rfl
         exact dp_v (v := (B (decide (0 < s2)))) (wanted_yes rfl (yv_of rfl (e16.trans (congrArg B hb19)))) (rv_move e18) rfl hJ)) ?_
       refine all_cons (obs_v rfl (by
         intro k; intro _nm ρ σm hJ hoff hdep
         have e19 : look 37 ρ 19 = (B (decide (0 < s2))) := hdep 9 rfl rfl 19 rfl
         exact dp_skip (wanted_no rfl (yv_of rfl (e19.trans (congrArg B hb21)))) rfl hJ)) ?_
       refine all_cons (obs_v rfl (by
         intro k; intro _nm ρ σm hJ hoff hdep
         have e19 : look 37 ρ 19 = (B (decide (0 < s2))) := hdep 9 rfl rfl 19 rfl
         exact dp_skip (wanted_no rfl (yv_of rfl (e19.trans (congrArg B hb21)))) rfl hJ)) ?_
       refine all_cons (obs_v rfl (by
         intro k; intro _nm ρ σm hJ hoff hdep
         have e19 : look 37 ρ 19 = (B (decide (0 < s2))) := hdep 9 rfl rfl 19 rfl
         exact dp_skip (wanted_no rfl (yv_of rfl (e19.trans (congrArg B hb21)))) rfl hJ)) ?_
       refine all_cons (obs_v rfl (by
         intro k; intro _nm ρ σm hJ hoff hdep
         have e19 : look 37 ρ 19 = (B (decide (0 < s2))) := hdep 9 rfl rfl 19 rfl
         exact dp_skip (wanted_no rfl (yv_of rfl (e19.trans (congrArg B hb21)))) rfl hJ)) ?_
       refine all_cons (obs_v rfl (by
         intro k; intro _nm ρ σm hJ hoff hdep
         have e19 : look 37 ρ 19 = (B (decide (0 < s2))) := hdep 9 rfl rfl 19 rfl
         exact dp_skip (wanted_no rfl (yv_of rfl (e19.trans (congrArg B hb21)))) rfl hJ)) ?_
       refine all_cons (obs_v rfl (by
         intro k; intro _nm ρ σm hJ hoff hdep
         have e19 : look 37 ρ 19 = (B (decide (0 < s2))) := hdep 9 rfl rfl 19 rfl
         exact dp_skip (wanted_no rfl (yv_of rfl (e19.trans (congrArg B hb21)))) rfl hJ)) ?_
       refine all_cons (obs_v rfl (by
         intro k; intro _nm ρ σm hJ hoff hdep
         have e19 : look 37 ρ 19 = (B (decide (0 < s2))) := hdep 9 rfl rfl 19 rfl
         exact dp_skip (wanted_no rfl (yv_of rfl (e19.trans (congrArg B hb21)))) rfl hJ)) ?_
       refine all_cons (obs_v rfl (by
         intro k; intro _nm ρ σm hJ hoff hdep
         have e19 : look 37 ρ 19 = (B (decide (0 < s2))) := hdep 9 rfl rfl 19 rfl
         exact dp_skip (wanted_no rfl (yv_of rfl (e19.trans (congrArg B hb21)))) rfl hJ)) ?_
       refine all_cons (obs_v rfl (by
         intro k; intro _nm ρ σm hJ hoff hdep
         have e19 : look 37 ρ 19 = (B (decide (0 < s2))) := hdep 9 rfl rfl 19 rfl
         exact dp_skip (wanted_no rfl (yv_of rfl (e19.trans (congrArg B hb21)))) rfl hJ)) ?_
       refine all_cons (obs_v rfl (by
         intro k; intro _nm ρ σm hJ hoff hdep
         have e19 : look 37 ρ 19 = (B (decide (0 < s2))) := hdep 9 rfl rfl 19 rfl
         exact dp_skip (wanted_no rfl (yv_of rfl (e19.trans (congrArg B hb21)))) rfl hJ)) ?_
       refine all_cons (obs_v rfl (by
         intro k; intro _nm ρ σm hJ hoff hdep
         have e19 : look 37 ρ 19 = (B (decide (0 < s2))) := hdep 9 rfl rfl 19 rfl
         exact dp_skip (wanted_no rfl (yv_of rfl (e19.trans (congrArg B hb21)))) rfl hJ)) ?_
       exact all_nil
      ·intro _nm ρ σ35 hJ hoff hrel
       have e0 : look 37 ρ 0 = (Sl alist_0 list_0 clist_0) := look_off (hoff 0 rfl) rfl
       have e3 : look 37 ρ 3 = (I s2) := look_off (hoff 3 rfl) rfl
       have e16 : look 37 ρ 16 = (B (!r16)) := hrel 6 rfl 16 rfl
       have e19 : look 37 ρ 19 = (B (decide (0 < s2))) := hrel 9 rfl 19 rfl
       have e24 : look 37 ρ 24 = undef := hrel 14 rfl 24 rfl
       have e30 : look 37 ρ 30 = undef := hrel 20 rfl 30 rfl
       obtain ⟨H, -⟩ := (show Hp S0 σ0 σ35 [Ch.ro 0 (Sl a13 x6.2.1 c14) x6.2.1, Ch.ro 0 (Sl alist_0 list_0 clist_0) list_0] ∧ Md (cov []) σ3 σ35 from hJ)
       clear hJ Hs
       rw [fr_lookL (L := [(0, (Sl alist_0 list_0 clist_0)), (3, (I s2)), (16, (B (!r16))), (19, (B (decide (0 < s2)))), (24, undef), (30, undef)]) ⟨e0, e3, e16, e19, e24, e30, trivial⟩]
       clear hoff hrel e0 e3 e16 e19 e24 e30
       refine st_skip (congrArg some hb21) ?_
       refine st_g (v := (B false)) (congrArg some hb19) (rv_pick_f (congrArg B hb21) rfl) ?_
       refine st (v := (B false)) (rv_pick_f (congrArg B hb19) rfl) ?_
       refine w_end ?_
       obtain rfl := Option.some.inj h
       exact ⟨rfl, _, σ35, fr_join ⟨rfl, rfl, rfl, trivial⟩, rfl, H.sel' [1] rfl rfl⟩
   ·clear hj
    have h := h'
    clear h' H
    rintro e a w ⟨rfl, ρ, σ36, rfl, rfl, H⟩
    refine q_then ?_
    refine cd_cond o5 rfl (fun hb37 => ?_) (fun hb37 => ?_)
    ·replace h := bif_t hb37 h
     refine c_seq ?_
     refine rg ?_
     refine st (v := (B false)) (rv_assign rfl) ?_
     refine w_end ?_
     refine q_then ?_
     refine c_ret ?_
     refine q_blk_r ?_
     refine q_then_r ?_
     refine q_then_r ?_
     refine q_blk_r ?_
     obtain rfl := Option.some.inj h
     obtain rfl := hres _ rfl
     exact .inr (⟨_, rfl, rfl, _, σ36, fr_join ⟨rfl, trivial⟩, rfl, H.sel' [] rfl rfl⟩)
    ·replace h := bif_f hb37 h
     refine c_skip ?_
     refine q_blk ?_
     refine q_then ?_
     refine rg ?_
     refine st (v := (I s2)) (rv_move rfl) ?_
     refine st (v := (I (w64 (s2 + 1)))) (rv_add (a := s2) (b := 1) rfl rfl) ?_
     refine st (v := (I (w64 (s2 + 1)))) (rv_assign rfl) ?_
     refine w_end ?_
     refine q_then ?_
     obtain rfl := Option.some.inj h
     exact ⟨_, rfl, _, σ36, fr_join ⟨rfl, rfl, trivial⟩, rfl, H.sel' [0] rfl rfl⟩
  ·replace h := bif_f hb4 h
   refine c_exit ?_
   refine q_then_x ?_
   refine q_then_x ?_
   refine q_blk_hit ?_
   obtain rfl := Option.some.inj h
   obtain rfl := hres _ rfl
   exact .inl ⟨_, rfl, rfl, _, σ3, fr_join ⟨rfl, trivial⟩, rfl, H.sel' [0] rfl rfl⟩
 ·clear hj
  have h := h'
  clear h' H
  rintro e a w (⟨t38, rfl, rfl, ρ, σ39, rfl, rfl, H⟩ | ⟨t40, rfl, rfl, ρ, σ41, rfl, rfl, H⟩)
  ·replace h := selim_l h
   refine q_then ?_
   refine c_seq ?_
   refine rg ?_
   refine st (v := (Sl alist_0 list_0 clist_0)) (rv_move rfl) ?_
   refine st (v := (I (list_0.length : Int))) (rv_len Try.underlying23 rfl) ?_
   refine st (v := (B (decide ((list_0.length : Int) ≤ 16)))) (rv_leq (a := (list_0.length : Int)) (b := 16) rfl rfl) ?_
   refine st (v := (B (decide ((list_0.length : Int) ≤ 16)))) (rv_assign rfl) ?_
   refine w_end ?_
   refine q_then ?_
   refine c_ret ?_
   obtain rfl := Option.some.inj h
   exact fin_ret (v := (B (decide ((list_0.length : Int) ≤ 16)))) (results_ok Try.results80 (res_tmp (v := (B (decide ((list_0.length : Int) ≤ 16)))) rfl res_nil) rfl) ⟨rfl, rfl⟩ (H.sel' [] rfl rfl)
  ·replace h := selim_r h
   refine q_then_r ?_
   obtain rfl := Option.some.inj h
   exact fin_ret (v := (B t40)) (results_ok Try.results80 (res_tmp (v := (B t40)) rfl res_nil) rfl) ⟨rfl, rfl⟩ (H.sel' [] rfl rfl)

theorem c_spec_keyAt {list_0 : List (Int × (List Int) × Int)} {key_1 : Int} {alist_0 : Option Addr} {clist_0 : Nat} {r : Int} (h : M.spec_keyAt list_0 key_1 = some r) :
    Cal2 Try.prog 97 [(Sl alist_0 list_0 clist_0), (I key_1)] [Ch.ro 0 (Sl alist_0 list_0 clist_0) list_0] (fun n0 v L => v = (I r) ∧ L = []) := by
 refine cal2 (n := 20) Try.func97 rfl rfl rfl rfl ?_
 intro S0 σ0 n0 hn0 H
 unfold M.spec_keyAt at h
 refine c_seq ?_
 refine rg ?_
 refine st (v := (I 0)) (rv_assign rfl) ?_
 refine w_end ?_
 refine q_then ?_
 refine c_seq ?_
 refine c_seq ?_
 refine rg ?_
 refine st (v := (I 0)) (rv_assign rfl) ?_
 refine w_end ?_
 refine q_then ?_
 obtain ⟨o1, hj, h'⟩ := bind_some h
 clear h
 refine c_cut (fun e a w => (∃ t, o1 = (.inl t) ∧ e = .normal ∧ ∃ (ρ : Nat → Value) (σ : St), a = fr 20 (updL ρ []) ∧ w = σ.w ∧ Hp S0 σ0 σ []) ∨ (∃ t, o1 = (.inr t) ∧ e = .ret ∧ ∃ (ρ : Nat → Value) (σ : St), a = fr 20 (updL ρ [(4, (I t))]) ∧ w = σ.w ∧ Hp S0 σ0 σ [])) ?_ ?_
 ·clear h'
  rename _ = some o1 => h
  refine c_blk ?_
  refine wp_loopM _ h (fun s2 a w => ∃ (ρ : Nat → Value) (σ : St), a = fr 20 (updL ρ [(0, (Sl alist_0 list_0 clist_0)), (1, (I key_1)), (5, (I s2))]) ∧ w = σ.w ∧ Hp S0 σ0 σ [Ch.ro 0 (Sl alist_0 list_0 clist_0) list_0]) ⟨_, σ0, fr_join ⟨rfl, rfl, rfl, trivial⟩, rfl, H.sel' [0] rfl rfl⟩ ?_
  clear h H
  rintro s2 a w o ⟨ρ, σ3, rfl, rfl, H⟩ h hres
  refine c_seq ?_
  refine c_seq ?_
  refine rg ?_
  refine st (v := (I s2)) (rv_move rfl) ?_
  refine st (v := (Sl alist_0 list_0 clist_0)) (rv_move rfl) ?_
  refine st (v := (I (list_0.length : Int))) (rv_len Try.underlying23 rfl) ?_
  refine st (v := (B (decide (s2 < (list_0.length : Int))))) (rv_lss (a := s2) (b := (list_0.length : Int)) rfl rfl) ?_
  refine w_end ?_
  refine q_then ?_
  refine cd_cond (decide (s2 < (list_0.length : Int))) rfl (fun hb4 => ?_) (fun hb4 => ?_)
  ·replace h := bif_t hb4 h
   refine c_skip ?_
   refine q_then ?_
   refine c_seq ?_
   refine c_blk ?_
   refine c_seq ?_
   refine rg ?_
   refine st (v := (Sl alist_0 list_0 clist_0)) (rv_move rfl) ?_
   refine st (v := (I s2)) (rv_move rfl) ?_
   obtain ⟨x5, hx6, h'⟩ := bind_some h
   clear h
   have h := h'; clear h'
   obtain ⟨b8, o9, hi7, -⟩ := (H.ro 0 rfl).ix hx6
   refine st (v := (pt b8 o9)) (rv_ix Try.underlying23 ti31 rfl rfl hi7) ?_
   refine st (v := (pt b8 (o9 + 0))) (rv_fieldAddr (off := 0) (ft := 3) Try.underlying31 rfl ti3 rfl rfl) ?_
   have hc10 := ((H.ro 0 rfl).at hx6 hi7).fst.int
   refine st (v := (I x5.1)) (rv_load1 Try.underlying3 rfl rfl hc10) ?_
   refine st (v := (I key_1)) (rv_move rfl) ?_
   refine st (v := (B (x5.1 == key_1))) (rv_eql (a := x5.1) (b := key_1) rfl rfl) ?_
   refine w_end ?_
   refine q_then ?_
   refine cd_cond (x5.1 == key_1) rfl (fun hb11 => ?_) (fun hb11 => ?_)
   ·replace h := bif_t hb11 h
    refine c_seq ?_
    refine rg ?_
    refine st (v := (I s2)) (rv_move rfl) ?_
    refine st (v := (I s2)) (rv_assign rfl) ?_
    refine w_end ?_
    refine q_then ?_
    refine c_ret ?_
    refine q_blk_r ?_
    refine q_then_r ?_
    refine q_then_r ?_
    refine q_blk_r ?_
    obtain rfl := Option.some.inj h
    obtain rfl := hres _ rfl
    exact .inr (⟨_, rfl, rfl, _, σ3, fr_join ⟨rfl, trivial⟩, rfl, H.sel' [] rfl rfl⟩)
   ·replace h := bif_f hb11 h
    refine c_skip ?_
    refine q_blk ?_
    refine q_then ?_
    refine rg ?_
    refine st (v := (I s2)) (rv_move rfl) ?_
    refine st (v := (I (w64 (s2 + 1)))) (rv_add (a := s2) (b := 1) rfl rfl) ?_
    refine st (v := (I (w64 (s2 + 1)))) (rv_assign rfl) ?_
    refine w_end ?_
    refine q_then ?_
    obtain rfl := Option.some.inj h
    exact ⟨_, rfl, _, σ3, fr_join ⟨rfl, rfl, rfl, trivial⟩, rfl, H.sel' [0] rfl rfl⟩
  ·replace h := bif_f hb4 h
   refine c_exit ?_
   refine q_then_x ?_
   refine q_then_x ?_
   refine q_blk_hit ?_
   obtain rfl := Option.some.inj h
   obtain rfl := hres _ rfl
   exact .inl ⟨_, rfl, rfl, _, σ3, fr_join trivial, rfl, H.sel' [] rfl rfl⟩
 ·clear hj
  have h := h'
  clear h' H
  rintro e a w (⟨t12, rfl, rfl, ρ, σ13, rfl, rfl, H⟩ | ⟨t14, rfl, rfl, ρ, σ15, rfl, rfl, H⟩)
  ·replace h := selim_l h
   refine q_then ?_
   refine c_seq ?_
   refine rg ?_
   refine st (v := (I (-1))) (rv_assign rfl) ?_
   refine w_end ?_
   refine q_then ?_
   refine c_ret ?_
   obtain rfl := Option.some.inj h
   exact fin_ret (v := (I (-1))) (results_ok Try.results97 (res_tmp (v := (I (-1))) rfl res_nil) rfl) ⟨rfl, rfl⟩ (H.sel' [] rfl rfl)
  ·replace h := selim_r h
   refine q_then_r ?_
   obtain rfl := Option.some.inj h
   exact fin_ret (v := (I t14)) (results_ok Try.results97 (res_tmp (v := (I t14)) rfl res_nil) rfl) ⟨rfl, rfl⟩ (H.sel' [] rfl rfl)

theorem c_spec_copyInts {list_0 : List Int} {alist_0 : Option Addr} {clist_0 : Nat} {r : (List Int)} (h : M.spec_copyInts list_0 = some r) :
    Cal2 Try.prog 66 [(Sl alist_0 list_0 clist_0)] [Ch.ro 0 (Sl alist_0 list_0 clist_0) list_0] (fun n0 v L => ∃ (az1 : Option Addr), ∃ (cz2 : Nat), v = (Sl az1 r cz2) ∧ L = [Ch.own n0 n0 (Sl az1 r cz2) r]) := by
 refine cal2 (n := 6) Try.func66 rfl rfl rfl rfl ?_
 intro S0 σ0 n0 hn0 H
 unfold M.spec_copyInts at h
 refine c_seq ?_
 refine rg ?_
 refine st (v := (.slice none 0 0)) (rv_assign rfl) ?_
 refine w_end ?_
 refine q_then ?_
 refine c_seq ?_
 refine rg ?_
 refine st_ex (ex_buildSlice (el := n0) (xs := ([] : List Int)) (ps := []) (cs := []) H hn0 Try.underlying24 ti3 rfl rfl (by kernel_rfl) (.nil) rfl) (wanted_none _ rfl _) ?_
 rintro _ σ2 ⟨b1, rfl, H, -⟩
 refine st (v := (Sl alist_0 list_0 clist_0)) (rv_move rfl) ?_
 obtain ⟨xs3, hx4, h'⟩ := bind_some h
 clear h
 have h := h'; clear h'
 refine st_ex (ex_append H (i := 0) rfl Try.underlying24 Try.underlying24 ti3 rfl rfl (by decide) ((H.ro 1 rfl).rd.sc) hx4 hn0 rfl rfl) (wanted_none _ rfl _) ?_
 rintro _ σ7 ⟨a5, c6, rfl, H, -⟩
 refine st (v := (Sl a5 xs3 c6)) (rv_assign rfl) ?_
 refine w_end ?_
 refine q_then ?_
 refine c_ret ?_
 obtain rfl := Option.some.inj h
 exact fin_ret (v := (Sl a5 xs3 c6)) (results_ok Try.results66 (res_tmp (v := (Sl a5 xs3 c6)) rfl res_nil) rfl) ⟨a5, c6, rfl, rfl⟩ (H.sel' [0] rfl rfl)

theorem c_spec_copyItem {x_0 : Int × (List Int) × Int} {ax_0_1 : Option Addr} {cx_0_1 : Nat} {r : (Int × (List Int) × Int)} (h : M.spec_copyItem x_0 = some r) :
    Cal2 Try.prog 98 [(.agg #[(I x_0.1), (Sl ax_0_1 x_0.2.1 cx_0_1), (I x_0.2.2)])] [Ch.ro 0 (Sl ax_0_1 x_0.2.1 cx_0_1) x_0.2.1] (fun n0 v L => ∃ (az1 : Option Addr), ∃ (cz2 : Nat), v = (.agg #[(I r.1), (Sl az1 r.2.1 cz2), (I r.2.2)]) ∧ L = [Ch.own n0 n0 (Sl az1 r.2.1 cz2) r.2.1]) := by
 refine cal2 (n := 11) Try.func98 rfl rfl rfl rfl ?_
 intro S0 σ0 n0 hn0 H
 unfold M.spec_copyItem at h
 refine c_seq ?_
 refine rg ?_
 refine st_ex (ex_box (cs := [(I x_0.1), (Sl ax_0_1 x_0.2.1 cx_0_1), (I x_0.2.2)]) H hn0 rfl rfl) (wanted_none _ rfl _) ?_
 rintro _ σ2 ⟨b1, rfl, H, -⟩
 refine st_ex (ex_alloc (cs := [(I 0), (.slice none 0 0), (I 0)]) H hn0 ti31 rfl) (wanted_none _ rfl _) ?_
 rintro _ σ4 ⟨b3, rfl, H, -⟩
 refine w_end ?_
 refine q_then ?_
 refine c_seq ?_
 have hc5 := H.cell (u := (I x_0.1)) (o' := 0) 1 0 rfl rfl rfl
 have hc6 := H.cell (u := (Sl ax_0_1 x_0.2.1 cx_0_1)) (o' := 1) 1 1 rfl rfl rfl
 obtain ⟨r7, hx8, h'⟩ := bind_some h
 clear h
 have h := h'; clear h'
 have hc9 := c_spec_copyInts (alist_0 := ax_0_1) (clist_0 := cx_0_1) hx8
 have hc12 := H.cell (u := (I x_0.2.2)) (o' := 2) 1 2 rfl rfl rfl
 have Hs := H
 refine rg2 (σ := σ4) (Nm := (Option Addr) × (Nat)) 7 [4] [[false], [true]] [[(0, 0), (1, 1)], [(0, 0), (1, 1)], [(0, 0)], [(0, 0)], [(0, 1)], [(0, 0), (1, 1)], [(0, 0), (1, 1)]] 1 [fun ((a10, c11) : (Option Addr) × (Nat)) => fun σm => Hp S0 σ0 σm [Ch.bx n0 b3 0 [(I 0), (.slice none 0 0), (I 0)] [] [], Ch.bx n0 b1 0 [(I x_0.1), (Sl ax_0_1 x_0.2.1 cx_0_1), (I x_0.2.2)] [] [], Ch.ro 0 (Sl ax_0_1 x_0.2.1 cx_0_1) x_0.2.1] ∧ Md (cov []) σ4 σm, fun ((a10, c11) : (Option Addr) × (Nat)) => fun σm => Hp S0 σ0 σm [Ch.own n0 n0 (Sl a10 r7 c11) r7, Ch.bx n0 b3 0 [(I 0), (.slice none 0 0), (I 0)] [] [], Ch.bx n0 b1 0 [(I x_0.1), (Sl ax_0_1 x_0.2.1 cx_0_1), (I x_0.2.2)] [] [], Ch.ro 0 (Sl ax_0_1 x_0.2.1 cx_0_1) x_0.2.1] ∧ Md (cov []) σ4 σm] [fun ((a10, c11) : (Option Addr) × (Nat)) => (pt b1 0), fun ((a10, c11) : (Option Addr) × (Nat)) => (I x_0.1), fun ((a10, c11) : (Option Addr) × (Nat)) => (pt b1 1), fun ((a10, c11) : (Option Addr) × (Nat)) => (Sl ax_0_1 x_0.2.1 cx_0_1), fun ((a10, c11) : (Option Addr) × (Nat)) => (Sl a10 r7 c11), fun ((a10, c11) : (Option Addr) × (Nat)) => (pt b1 2), fun ((a10, c11) : (Option Addr) × (Nat)) => (I x_0.2.2)] (none, 0) (by kernel_rfl) (by kernel_rfl) ?_ ?_ ?_
 ·intro σm m0
  exact ⟨H.grow (m0.mono fun _ h => h.elim), m0⟩
 ·refine all_cons (obs_v rfl (by
    intro k; rintro ⟨a10, c11⟩ ρ σm hJ hoff hdep
    have e1 : look 11 ρ 1 = (pt b1 0) := look_off (hoff 1 rfl) rfl
    exact dp_v (v := (pt b1 0)) (wanted_none _ rfl _) (rv_fieldAddr (off := 0) (ft := 3) Try.underlying31 rfl ti3 rfl e1) rfl hJ)) ?_
  refine all_cons (by
    refine ⟨?_, ?_⟩
    ·rintro ⟨a10, c11⟩ ρ σm hJ hoff hdep
     have e3 : look 11 ρ 3 = (pt b1 0) := hdep 0 rfl rfl 3 rfl
     obtain ⟨H, m⟩ := id hJ
     have hc5 := H.cell (u := (I x_0.1)) (o' := 0) 1 0 rfl rfl rfl
     exact dp_v (v := (I x_0.1)) (wanted_none _ rfl _) (rv_load1 Try.underlying3 rfl e3 hc5) rfl hJ
    refine ⟨?_, ?_⟩
    ·rintro ⟨a10, c11⟩ ρ σm hJ hoff hdep
     have e3 : look 11 ρ 3 = (pt b1 0) := hdep 0 rfl rfl 3 rfl
     obtain ⟨H, m⟩ := id hJ
     have hc5 := H.cell (u := (I x_0.1)) (o' := 0) 2 0 rfl rfl rfl
     exact dp_v (v := (I x_0.1)) (wanted_none _ rfl _) (rv_load1 Try.underlying3 rfl e3 hc5) rfl hJ
    trivial) ?_
  refine all_cons (obs_v rfl (by
    intro k; rintro ⟨a10, c11⟩ ρ σm hJ hoff hdep
    have e1 : look 11 ρ 1 = (pt b1 0) := look_off (hoff 1 rfl) rfl
    exact dp_v (v := (pt b1 1)) (wanted_none _ rfl _) (rv_fieldAddr (off := 1) (ft := 24) Try.underlying31 rfl ti24 rfl e1) rfl hJ)) ?_
  refine all_cons (by
    refine ⟨?_, ?_⟩
    ·rintro ⟨a10, c11⟩ ρ σm hJ hoff hdep
     have e5 : look 11 ρ 5 = (pt b1 1) := hdep 2 rfl rfl 5 rfl
     obtain ⟨H, m⟩ := id hJ
     have hc6 := H.cell (u := (Sl ax_0_1 x_0.2.1 cx_0_1)) (o' := 1) 1 1 rfl rfl rfl
     exact dp_v (v := (Sl ax_0_1 x_0.2.1 cx_0_1)) (wanted_none _ rfl _) (rv_load1 Try.underlying24 rfl e5 hc6) rfl hJ
    trivial) ?_
  refine all_cons (by
    refine ⟨?_, ?_⟩
    ·rintro ⟨a10, c11⟩ ρ σm hJ hoff hdep
     have e6 : look 11 ρ 6 = (Sl ax_0_1 x_0.2.1 cx_0_1) := hdep 3 rfl rfl 6 rfl
     obtain ⟨H, m⟩ := id hJ
     refine dp_cx (wanted_none _ rfl _) (cx_call hc9 (ent_f hc9.fn (by show [look 11 ρ 6] = _; rw [e6])) hn0 (show Hp S0 σ0 _ ([Ch.ro 0 (Sl ax_0_1 x_0.2.1 cx_0_1) x_0.2.1] ++ [Ch.bx n0 b3 0 [(I 0), (.slice none 0 0), (I 0)] [] [], Ch.bx n0 b1 0 [(I x_0.1), (Sl ax_0_1 x_0.2.1 cx_0_1), (I x_0.2.2)] [] [], Ch.ro 0 (Sl ax_0_1 x_0.2.1 cx_0_1) x_0.2.1]) from (H.sel' [2, 0, 1, 2] rfl rfl))) ?_
     rintro _ σq ⟨_, ⟨a10x, c11x, rfl, rfl⟩, H2, m2⟩
     exact ⟨_, (a10x, c11x), rfl, rfl, ⟨H2.sel' [0, 1, 2, 3] rfl rfl, m.comp0 (m2.mono (fun i h => by simp [cov, Ch.ro] at h))⟩, stab [0, 1, 2, 3, 5, 6] (by kernel_rfl) ⟨rfl, rfl, rfl, rfl, rfl, rfl, trivial⟩⟩
    trivial) ?_
  refine all_cons (obs_v rfl (by
    intro k; rintro ⟨a10, c11⟩ ρ σm hJ hoff hdep
    have e1 : look 11 ρ 1 = (pt b1 0) := look_off (hoff 1 rfl) rfl
    exact dp_v (v := (pt b1 2)) (wanted_none _ rfl _) (rv_fieldAddr (off := 2) (ft := 3) Try.underlying31 rfl ti3 rfl e1) rfl hJ)) ?_
  refine all_cons (by
    refine ⟨?_, ?_⟩
    ·rintro ⟨a10, c11⟩ ρ σm hJ hoff hdep
     have e8 : look 11 ρ 8 = (pt b1 2) := hdep 5 rfl rfl 8 rfl
     obtain ⟨H, m⟩ := id hJ
     have hc12 := H.cell (u := (I x_0.2.2)) (o' := 2) 1 2 rfl rfl rfl
     exact dp_v (v := (I x_0.2.2)) (wanted_none _ rfl _) (rv_load1 Try.underlying3 rfl e8 hc12) rfl hJ
    refine ⟨?_, ?_⟩
    ·rintro ⟨a10, c11⟩ ρ σm hJ hoff hdep
     have e8 : look 11 ρ 8 = (pt b1 2) := hdep 5 rfl rfl 8 rfl
     obtain ⟨H, m⟩ := id hJ
     have hc12 := H.cell (u := (I x_0.2.2)) (o' := 2) 2 2 rfl rfl rfl
     exact dp_v (v := (I x_0.2.2)) (wanted_none _ rfl _) (rv_load1 Try.underlying3 rfl e8 hc12) rfl hJ
    trivial) ?_
  exact all_nil
 ·rintro ⟨a10, c11⟩ ρ σ13 hJ hoff hrel
  have e2 : look 11 ρ 2 = (pt b3 0) := look_off (hoff 2 rfl) rfl
  have e4 : look 11 ρ 4 = (I x_0.1) := hrel 1 rfl 4 rfl
  have e7 : look 11 ρ 7 = (Sl a10 r7 c11) := hrel 4 rfl 7 rfl
  have e9 : look 11 ρ 9 = (I x_0.2.2) := hrel 6 rfl 9 rfl
  obtain ⟨H, -⟩ := (show Hp S0 σ0 σ13 [Ch.own n0 n0 (Sl a10 r7 c11) r7, Ch.bx n0 b3 0 [(I 0), (.slice none 0 0), (I 0)] [] [], Ch.bx n0 b1 0 [(I x_0.1), (Sl ax_0_1 x_0.2.1 cx_0_1), (I x_0.2.2)] [] [], Ch.ro 0 (Sl ax_0_1 x_0.2.1 cx_0_1) x_0.2.1] ∧ Md (cov []) σ4 σ13 from hJ)
  clear hJ Hs
  rw [fr_lookL (L := [(2, (pt b3 0)), (4, (I x_0.1)), (7, (Sl a10 r7 c11)), (9, (I x_0.2.2))]) ⟨e2, e4, e7, e9, trivial⟩]
  clear hoff hrel e2 e4 e7 e9
  refine st (v := (.agg #[(I x_0.1), (Sl a10 r7 c11), (I x_0.2.2)])) (rv_build (ps := [(0, (I x_0.1)), (1, (Sl a10 r7 c11)), (2, (I x_0.2.2))]) Try.underlying31 ti31 (bp31 Try.underlying31) rfl (by kernel_rfl)) ?_
  refine st_exS (ex_store_box (k := 0) (cs := [(I 0), (.slice none 0 0), (I 0)]) (vs := [(I x_0.1), (Sl a10 r7 c11), (I x_0.2.2)]) (cs' := [(I x_0.1), (Sl a10 r7 c11), (I x_0.2.2)]) H (i := 1) rfl ti31 rfl rfl rfl rfl rfl (Nat.le_of_ble_eq_true rfl) (by simp [plain]) rfl) (wanted_none _ rfl _) ?_
  rintro σ14 ⟨H, -⟩
  refine w_end ?_
  refine q_then ?_
  refine c_ret ?_
  obtain rfl := Option.some.inj h
  exact fin_ret (v := (.agg #[(I x_0.1), (Sl a10 r7 c11), (I x_0.2.2)])) (results_ok Try.results98 (res_cell rfl (run_cellRes (cs := [(I x_0.1), (Sl a10 r7 c11), (I x_0.2.2)]) Try.underlying31 rfl ti31 rfl (H.cells 0 rfl)) res_nil) rfl) ⟨a10, c11, rfl, rfl⟩ (H.sel' [1] rfl rfl)

theorem c_spec_GetItem {list_0 : List (Int × (List Int) × Int)} {key_1 : Int} {alist_0 : Option Addr} {clist_0 : Nat} {r : (Int × (List Int) × Int) × Bool} (h : M.spec_GetItem list_0 key_1 = some r) :
    Cal2 Try.prog 57 [(Sl alist_0 list_0 clist_0), (I key_1)] [Ch.ro 0 (Sl alist_0 list_0 clist_0) list_0] (fun n0 v L => ∃ (az1 : Option Addr), ∃ (cz2 : Nat), v = (.tuple #[(.agg #[(I r.1.1), (Sl az1 r.1.2.1 cz2), (I r.1.2.2)]), (B r.2)]) ∧ L = [Ch.own n0 n0 (Sl az1 r.1.2.1 cz2) r.1.2.1]) := by
 refine cal2 (n := 23) Try.func57 rfl rfl rfl rfl ?_
 intro S0 σ0 n0 hn0 H
 unfold M.spec_GetItem at h
 refine c_seq ?_
 refine rg ?_
 refine st_ex (ex_alloc (cs := [(I 0), (.slice none 0 0), (I 0)]) H hn0 ti31 rfl) (wanted_none _ rfl _) ?_
 rintro _ σ2 ⟨b1, rfl, H, -⟩
 refine st (v := (B false)) (rv_assign rfl) ?_
 refine w_end ?_
 refine q_then ?_
 refine c_seq ?_
 refine c_seq ?_
 obtain ⟨o3, hj, h'⟩ := bind_some h
 clear h
 refine c_cut (fun e a w => e = .normal ∧ ∃ (ρ : Nat → Value) (σ : St), a = fr 23 (updL ρ [(0, (Sl alist_0 list_0 clist_0)), (1, (I key_1)), (4, (pt b1 0)), (14, (B o3))]) ∧ w = σ.w ∧ Hp S0 σ0 σ [Ch.ro 0 (Sl alist_0 list_0 clist_0) list_0, Ch.bx n0 b1 0 [(I 0), (.slice none 0 0), (I 0)] [] []]) ?_ ?_
 ·clear h'
  rename _ = some o3 => h
  refine rg ?_
  refine st (v := (Sl alist_0 list_0 clist_0)) (rv_move rfl) ?_
  obtain ⟨r4, hx5, h'⟩ := bind_some h
  clear h
  have h := h'; clear h'
  have hc6 := c_spec_validStore (alist_0 := alist_0) (clist_0 := clist_0) hx5
  refine st_call (cx_call hc6 (ent_f hc6.fn rfl) hn0 (show Hp S0 σ0 _ ([Ch.ro 0 (Sl alist_0 list_0 clist_0) list_0] ++ [Ch.bx n0 b1 0 [(I 0), (.slice none 0 0), (I 0)] [] [], Ch.ro 0 (Sl alist_0 list_0 clist_0) list_0]) from (H.sel' [1, 0, 1] rfl rfl))) (wanted_none _ rfl _) ?_
  rintro _ σ7 ⟨_, ⟨rfl, rfl⟩, H, -⟩
  replace H : Hp S0 σ0 σ7 [Ch.bx n0 b1 0 [(I 0), (.slice none 0 0), (I 0)] [] [], Ch.ro 0 (Sl alist_0 list_0 clist_0) list_0] := H
  refine st (v := (B (!r4))) (rv_not rfl) ?_
  refine st (v := (B (!r4))) (rv_move rfl) ?_
  rcases Bool.eq_false_or_eq_true (!r4) with hb8 | hb8
  ·replace h := bif_t hb8 h
   refine st_skip (congrArg some hb8) ?_
   refine st_skip (congrArg some hb8) ?_
   refine st_skip (congrArg some hb8) ?_
   refine st_skip (congrArg some hb8) ?_
   refine st (v := (B true)) (rv_pick_t (congrArg B hb8) rfl) ?_
   refine w_end ?_
   obtain rfl := Option.some.inj h
   exact ⟨rfl, _, σ7, fr_join ⟨rfl, rfl, rfl, rfl, trivial⟩, rfl, H.sel' [1, 0] rfl rfl⟩
  ·replace h := bif_f hb8 h
   refine st_g (v := (Sl alist_0 list_0 clist_0)) (congrArg some hb8) (rv_move rfl) ?_
   refine st_g (v := (I key_1)) (congrArg some hb8) (rv_move rfl) ?_
   obtain ⟨r9, hx10, h'⟩ := bind_some h
   clear h
   have h := h'; clear h'
   have hc11 := c_spec_keyAt (alist_0 := alist_0) (clist_0 := clist_0) hx10
   refine st_call (cx_call hc11 (ent_f hc11.fn rfl) hn0 (show Hp S0 σ0 _ ([Ch.ro 0 (Sl alist_0 list_0 clist_0) list_0] ++ [Ch.bx n0 b1 0 [(I 0), (.slice none 0 0), (I 0)] [] [], Ch.ro 0 (Sl alist_0 list_0 clist_0) list_0]) from (H.sel' [1, 0, 1] rfl rfl))) (wanted_yes rfl (by exact (congrArg some hb8))) ?_
   rintro _ σ12 ⟨_, ⟨rfl, rfl⟩, H, -⟩
   replace H : Hp S0 σ0 σ12 [Ch.bx n0 b1 0 [(I 0), (.slice none 0 0), (I 0)] [] [], Ch.ro 0 (Sl alist_0 list_0 clist_0) list_0] := H
   refine st_g (v := (B (decide (r9 < 0)))) (congrArg some hb8) (rv_lss (a := r9) (b := 0) rfl rfl) ?_
   refine st (v := (B (decide (r9 < 0)))) (rv_pick_f (congrArg B hb8) rfl) ?_
   refine w_end ?_
   obtain rfl := Option.some.inj h
   exact ⟨rfl, _, σ12, fr_join ⟨rfl, rfl, rfl, rfl, trivial⟩, rfl, H.sel' [1, 0] rfl rfl⟩
 ·clear hj
  have h := h'
  clear h' H
  rintro e a w ⟨rfl, ρ, σ13, rfl, rfl, H⟩
  refine q_then ?_
  refine cd_cond o3 rfl (fun hb14 => ?_) (fun hb14 => ?_)
  ·replace h := bif_t hb14 h
   refine c_seq ?_
   refine rg ?_
   refine st (v := (.agg #[(I 0), (.slice none 0 0), (I 0)])) (rv_build (ps := []) Try.underlying31 ti31 (bp31 Try.underlying31) rfl (by kernel_rfl)) ?_
   refine st_exS (ex_store_box (k := 0) (cs := [(I 0), (.slice none 0 0), (I 0)]) (vs := [(I 0), (.slice none 0 0), (I 0)]) (cs' := [(I 0), (.slice none 0 0), (I 0)]) H (i := 1) rfl ti31 rfl rfl rfl rfl rfl (Nat.le_of_ble_eq_true rfl) (by simp [plain]) rfl) (wanted_none _ rfl _) ?_
   rintro σ15 ⟨H, -⟩
   refine st (v := (B false)) (rv_assign rfl) ?_
   refine w_end ?_
   refine q_then ?_
   refine c_ret ?_
   refine q_then_r ?_
   replace H := H.nilOwn Int n0 n0
   obtain rfl := Option.some.inj h
   exact fin_ret (v := (.tuple #[(.agg #[(I 0), (.slice none 0 0), (I 0)]), (B false)])) (results_ok Try.results57 (res_cell rfl (run_cellRes (cs := [(I 0), (.slice none 0 0), (I 0)]) Try.underlying31 rfl ti31 rfl (H.cells 1 rfl)) (res_tmp (v := (B false)) rfl res_nil)) rfl) ⟨none, 0, rfl, rfl⟩ (H.sel' [0] rfl rfl)
  ·replace h := bif_f hb14 h
   refine c_skip ?_
   refine q_then ?_
   refine c_seq ?_
   refine rg ?_
   refine st (v := (Sl alist_0 list_0 clist_0)) (rv_move rfl) ?_
   refine st (v := (Sl alist_0 list_0 clist_0)) (rv_move rfl) ?_
   refine st (v := (I key_1)) (rv_move rfl) ?_
   obtain ⟨r16, hx17, h'⟩ := bind_some h
   clear h
   have h := h'; clear h'
   have hc18 := c_spec_keyAt (alist_0 := alist_0) (clist_0 := clist_0) hx17
   refine st_call (cx_call hc18 (ent_f hc18.fn rfl) hn0 (show Hp S0 σ0 _ ([Ch.ro 0 (Sl alist_0 list_0 clist_0) list_0] ++ [Ch.ro 0 (Sl alist_0 list_0 clist_0) list_0, Ch.bx n0 b1 0 [(I 0), (.slice none 0 0), (I 0)] [] []]) from (H.sel' [0, 0, 1] rfl rfl))) (wanted_none _ rfl _) ?_
   rintro _ σ19 ⟨_, ⟨rfl, rfl⟩, H, -⟩
   replace H : Hp S0 σ0 σ19 [Ch.ro 0 (Sl alist_0 list_0 clist_0) list_0, Ch.bx n0 b1 0 [(I 0), (.slice none 0 0), (I 0)] [] []] := H
   obtain ⟨x20, hx21, h'⟩ := bind_some h
   clear h
   have h := h'; clear h'
   obtain ⟨b23, o24, hi22, -⟩ := (H.ro 0 rfl).ix hx21
   refine st (v := (pt b23 o24)) (rv_ix Try.underlying23 ti31 rfl rfl hi22) ?_
   obtain ⟨_, ⟨_, _, rfl, rfl, ⟨_, _, rfl, ⟨_, rfl, hR29⟩, rfl⟩⟩, hl25, hc26⟩ := ((H.ro 0 rfl).at hx21 hi22).cells
   obtain ⟨a27, c28, rfl⟩ := hR29.isSl
   replace H := H.add (d := Ch.ro 0 (Sl a27 x20.2.1 c28) x20.2.1) hR29 (fun _ h => h)
   clear hR29
   refine st (v := (.agg #[(I x20.1), (Sl a27 x20.2.1 c28), (I x20.2.2)])) (rv_load Try.underlying31 rfl ti31 rfl hl25 hc26) ?_
   obtain ⟨r30, hx31, h'⟩ := bind_some h
   clear h
   have h := h'; clear h'
   have hc32 := c_spec_copyItem (ax_0_1 := a27) (cx_0_1 := c28) hx31
   refine st_call (cx_call hc32 (ent_f hc32.fn rfl) hn0 (show Hp S0 σ0 _ ([Ch.ro 0 (Sl a27 x20.2.1 c28) x20.2.1] ++ [Ch.ro 0 (Sl a27 x20.2.1 c28) x20.2.1, Ch.ro 0 (Sl alist_0 list_0 clist_0) list_0, Ch.bx n0 b1 0 [(I 0), (.slice none 0 0), (I 0)] [] []]) from (H.sel' [0, 0, 1, 2] rfl rfl))) (wanted_none _ rfl _) ?_
   rintro _ σ35 ⟨_, ⟨a33, c34, rfl, rfl⟩, H, -⟩
   replace H : Hp S0 σ0 σ35 [Ch.own n0 n0 (Sl a33 r30.2.1 c34) r30.2.1, Ch.ro 0 (Sl a27 x20.2.1 c28) x20.2.1, Ch.ro 0 (Sl alist_0 list_0 clist_0) list_0, Ch.bx n0 b1 0 [(I 0), (.slice none 0 0), (I 0)] [] []] := H
   refine st_exS (ex_store_box (k := 0) (cs := [(I 0), (.slice none 0 0), (I 0)]) (vs := [(I r30.1), (Sl a33 r30.2.1 c34), (I r30.2.2)]) (cs' := [(I r30.1), (Sl a33 r30.2.1 c34), (I r30.2.2)]) H (i := 3) rfl ti31 rfl rfl rfl rfl rfl (Nat.le_of_ble_eq_true rfl) (by simp [plain]) rfl) (wanted_none _ rfl _) ?_
   rintro σ36 ⟨H, -⟩
   refine st (v := (B true)) (rv_assign rfl) ?_
   refine w_end ?_
   refine q_then ?_
   refine c_ret ?_
   obtain rfl := Option.some.inj h
   exact fin_ret (v := (.tuple #[(.agg #[(I r30.1), (Sl a33 r30.2.1 c34), (I r30.2.2)]), (B true)])) (results_ok Try.results57 (res_cell rfl (run_cellRes (cs := [(I r30.1), (Sl a33 r30.2.1 c34), (I r30.2.2)]) Try.underlying31 rfl ti31 rfl (H.cells 0 rfl)) (res_tmp (v := (B true)) rfl res_nil)) rfl) ⟨a33, c34, rfl, rfl⟩ (H.sel' [1] rfl rfl)

theorem c_laws_heldIntS {a_0 : List Int} {k_1 : Int} {aa_0 : Option Addr} {ca_0 : Nat} {r : Int} (h : M.laws_heldIntS a_0 k_1 = some r) :
    Cal2 Try.prog 41 [(Sl aa_0 a_0 ca_0), (I k_1)] [Ch.ro 0 (Sl aa_0 a_0 ca_0) a_0] (fun n0 v L => v = (I r) ∧ L = []) := by
 refine cal2 (n := 21) Try.func41 rfl rfl rfl rfl ?_
 intro S0 σ0 n0 hn0 H
 unfold M.laws_heldIntS at h
 refine c_seq ?_
 refine rg ?_
 refine st (v := (I 0)) (rv_assign rfl) ?_
 refine w_end ?_
 refine q_then ?_
 refine c_seq ?_
 refine c_seq ?_
 refine rg ?_
 refine st (v := (I 0)) (rv_assign rfl) ?_
 refine w_end ?_
 refine q_then ?_
 obtain ⟨o1, hj, h'⟩ := bind_some h
 clear h
 refine c_cut (fun e a w => (∃ t, o1 = (.inl t) ∧ e = .normal ∧ ∃ (ρ : Nat → Value) (σ : St), a = fr 21 (updL ρ [(1, (I t))]) ∧ w = σ.w ∧ Hp S0 σ0 σ []) ∨ (∃ t, o1 = (.inr t) ∧ e = .ret ∧ ∃ (ρ : Nat → Value) (σ : St), a = fr 21 (updL ρ [(4, (I t))]) ∧ w = σ.w ∧ Hp S0 σ0 σ [])) ?_ ?_
 ·clear h'
  rename _ = some o1 => h
  refine c_blk ?_
  refine wp_loopM _ h (fun s2 a w => ∃ (ρ : Nat → Value) (σ : St), a = fr 21 (updL ρ [(0, (Sl aa_0 a_0 ca_0)), (1, (I s2.1)), (5, (I s2.2))]) ∧ w = σ.w ∧ Hp S0 σ0 σ [Ch.ro 0 (Sl aa_0 a_0 ca_0) a_0]) ⟨_, σ0, fr_join ⟨rfl, rfl, rfl, trivial⟩, rfl, H.sel' [0] rfl rfl⟩ ?_
  clear h H
  rintro s2 a w o ⟨ρ, σ3, rfl, rfl, H⟩ h hres
  refine c_seq ?_
  refine c_seq ?_
  refine rg ?_
  refine st (v := (I s2.2)) (rv_move rfl) ?_
  refine st (v := (Sl aa_0 a_0 ca_0)) (rv_move rfl) ?_
  refine st (v := (I (a_0.length : Int))) (rv_len Try.underlying24 rfl) ?_
  refine st (v := (B (decide (s2.2 < (a_0.length : Int))))) (rv_lss (a := s2.2) (b := (a_0.length : Int)) rfl rfl) ?_
  refine w_end ?_
  refine q_then ?_
  refine cd_cond (decide (s2.2 < (a_0.length : Int))) rfl (fun hb4 => ?_) (fun hb4 => ?_)
  ·replace h := bif_t hb4 h
   refine c_skip ?_
   refine q_then ?_
   refine c_seq ?_
   refine c_blk ?_
   refine c_seq ?_
   refine c_seq ?_
   refine rg ?_
   refine st (v := (Sl aa_0 a_0 ca_0)) (rv_move rfl) ?_
   refine st (v := (I s2.2)) (rv_move rfl) ?_
   obtain ⟨x5, hx6, h'⟩ := bind_some h
   clear h
   have h := h'; clear h'
   obtain ⟨b8, o9, hi7, -⟩ := (H.ro 0 rfl).ix hx6
   refine st (v := (pt b8 o9)) (rv_ix Try.underlying24 ti3 rfl rfl hi7) ?_
   have hc10 := ((H.ro 0 rfl).at hx6 hi7).int
   refine st (v := (I x5)) (rv_load1 Try.underlying3 rfl rfl hc10) ?_
   refine st (v := (I s2.1)) (rv_move rfl) ?_
   refine st (v := (B (x5 != s2.1))) (rv_neq (a := x5) (b := s2.1) rfl rfl) ?_
   refine w_end ?_
   refine q_then ?_
   refine cd_cond (x5 != s2.1) rfl (fun hb11 => ?_) (fun hb11 => ?_)
   ·replace h := bif_t hb11 h
    refine c_seq ?_
    refine rg ?_
    refine st (v := (I (-1))) (rv_assign rfl) ?_
    refine w_end ?_
    refine q_then ?_
    refine c_ret ?_
    refine q_then_r ?_
    refine q_blk_r ?_
    refine q_then_r ?_
    refine q_then_r ?_
    refine q_blk_r ?_
    obtain rfl := Option.some.inj h
    obtain rfl := hres _ rfl
    exact .inr (⟨_, rfl, rfl, _, σ3, fr_join ⟨rfl, trivial⟩, rfl, H.sel' [] rfl rfl⟩)
   ·replace h := bif_f hb11 h
    refine c_skip ?_
    refine q_then ?_
    refine rg ?_
    refine st (v := (I s2.1)) (rv_move rfl) ?_
    refine st (v := (I (w64 (s2.1 + 1)))) (rv_add (a := s2.1) (b := 1) rfl rfl) ?_
    refine st (v := (I (w64 (s2.1 + 1)))) (rv_assign rfl) ?_
    refine w_end ?_
    refine q_blk ?_
    refine q_then ?_
    refine rg ?_
    refine st (v := (I s2.2)) (rv_move rfl) ?_
    refine st (v := (I (w64 (s2.2 + 1)))) (rv_add (a := s2.2) (b := 1) rfl rfl) ?_
    refine st (v := (I (w64 (s2.2 + 1)))) (rv_assign rfl) ?_
    refine w_end ?_
    refine q_then ?_
    obtain rfl := Option.some.inj h
    exact ⟨_, rfl, _, σ3, fr_join ⟨rfl, rfl, rfl, trivial⟩, rfl, H.sel' [0] rfl rfl⟩
  ·replace h := bif_f hb4 h
   refine c_exit ?_
   refine q_then_x ?_
   refine q_then_x ?_
   refine q_blk_hit ?_
   obtain rfl := Option.some.inj h
   obtain rfl := hres _ rfl
   exact .inl ⟨_, rfl, rfl, _, σ3, fr_join ⟨rfl, trivial⟩, rfl, H.sel' [] rfl rfl⟩
 ·clear hj
  have h := h'
  clear h' H
  rintro e a w (⟨t12, rfl, rfl, ρ, σ13, rfl, rfl, H⟩ | ⟨t14, rfl, rfl, ρ, σ15, rfl, rfl, H⟩)
  ·replace h := selim_l h
   refine q_then ?_
   refine c_seq ?_
   refine rg ?_
   refine st (v := (I t12)) (rv_move rfl) ?_
   refine st (v := (I t12)) (rv_assign rfl) ?_
   refine w_end ?_
   refine q_then ?_
   refine c_ret ?_
   obtain rfl := Option.some.inj h
   exact fin_ret (v := (I t12)) (results_ok Try.results41 (res_tmp (v := (I t12)) rfl res_nil) rfl) ⟨rfl, rfl⟩ (H.sel' [] rfl rfl)
  ·replace h := selim_r h
   refine q_then_r ?_
   obtain rfl := Option.some.inj h
   exact fin_ret (v := (I t14)) (results_ok Try.results41 (res_tmp (v := (I t14)) rfl res_nil) rfl) ⟨rfl, rfl⟩ (H.sel' [] rfl rfl)

theorem c_laws_heldItem {a_0 : Int × (List Int) × Int} {k_1 : Int} {aa_0_1 : Option Addr} {ca_0_1 : Nat} {r : Int} (h : M.laws_heldItem a_0 k_1 = some r) :
    Cal2 Try.prog 58 [(.agg #[(I a_0.1), (Sl aa_0_1 a_0.2.1 ca_0_1), (I a_0.2.2)]), (I k_1)] [Ch.ro 0 (Sl aa_0_1 a_0.2.1 ca_0_1) a_0.2.1] (fun n0 v L => v = (I r) ∧ L = []) := by
 refine cal2 (n := 12) Try.func58 rfl rfl rfl rfl ?_
 intro S0 σ0 n0 hn0 H
 unfold M.laws_heldItem at h
 refine c_seq ?_
 refine rg ?_
 refine st_ex (ex_box (cs := [(I a_0.1), (Sl aa_0_1 a_0.2.1 ca_0_1), (I a_0.2.2)]) H hn0 rfl rfl) (wanted_none _ rfl _) ?_
 rintro _ σ2 ⟨b1, rfl, H, -⟩
 refine st (v := (I 0)) (rv_assign rfl) ?_
 refine w_end ?_
 refine q_then ?_
 refine c_seq ?_
 refine rg ?_
 refine st (v := (pt b1 1)) (rv_fieldAddr (off := 1) (ft := 24) Try.underlying31 rfl ti24 rfl rfl) ?_
 have hc3 := H.cell (u := (Sl aa_0_1 a_0.2.1 ca_0_1)) (o' := 1) 0 1 rfl rfl rfl
 refine st (v := (Sl aa_0_1 a_0.2.1 ca_0_1)) (rv_load1 Try.underlying24 rfl rfl hc3) ?_
 refine st (v := (I k_1)) (rv_move rfl) ?_
 obtain ⟨r4, hx5, h'⟩ := bind_some h
 clear h
 have h := h'; clear h'
 have hc6 := c_laws_heldIntS (aa_0 := aa_0_1) (ca_0 := ca_0_1) hx5
 refine st_call (cx_call hc6 (ent_f hc6.fn rfl) hn0 (show Hp S0 σ0 _ ([Ch.ro 0 (Sl aa_0_1 a_0.2.1 ca_0_1) a_0.2.1] ++ [Ch.bx n0 b1 0 [(I a_0.1), (Sl aa_0_1 a_0.2.1 ca_0_1), (I a_0.2.2)] [] [], Ch.ro 0 (Sl aa_0_1 a_0.2.1 ca_0_1) a_0.2.1]) from (H.sel' [1, 0, 1] rfl rfl))) (wanted_none _ rfl _) ?_
 rintro _ σ7 ⟨_, ⟨rfl, rfl⟩, H, -⟩
 replace H : Hp S0 σ0 σ7 [Ch.bx n0 b1 0 [(I a_0.1), (Sl aa_0_1 a_0.2.1 ca_0_1), (I a_0.2.2)] [] [], Ch.ro 0 (Sl aa_0_1 a_0.2.1 ca_0_1) a_0.2.1] := H
 refine st (v := (I r4)) (rv_assign rfl) ?_
 refine w_end ?_
 refine q_then ?_
 refine c_seq ?_
 refine c_seq ?_
 refine rg ?_
 refine st (v := (I r4)) (rv_move rfl) ?_
 refine st (v := (B (decide (r4 < 0)))) (rv_lss (a := r4) (b := 0) rfl rfl) ?_
 refine w_end ?_
 refine q_then ?_
 refine cd_cond (decide (r4 < 0)) rfl (fun hb8 => ?_) (fun hb8 => ?_)
 ·replace h := bif_t hb8 h
  refine c_seq ?_
  refine rg ?_
  refine st (v := (I (-1))) (rv_assign rfl) ?_
  refine w_end ?_
  refine q_then ?_
  refine c_ret ?_
  refine q_then_r ?_
  obtain rfl := Option.some.inj h
  exact fin_ret (v := (I (-1))) (results_ok Try.results58 (res_tmp (v := (I (-1))) rfl res_nil) rfl) ⟨rfl, rfl⟩ (H.sel' [] rfl rfl)
 ·replace h := bif_f hb8 h
  refine c_skip ?_
  refine q_then ?_
  refine c_seq ?_
  refine rg ?_
  refine st (v := (I r4)) (rv_move rfl) ?_
  refine st (v := (I r4)) (rv_assign rfl) ?_
  refine w_end ?_
  refine q_then ?_
  refine c_ret ?_
  obtain rfl := Option.some.inj h
  exact fin_ret (v := (I r4)) (results_ok Try.results58 (res_tmp (v := (I r4)) rfl res_nil) rfl) ⟨rfl, rfl⟩ (H.sel' [] rfl rfl)

theorem c_laws_FnExactGetItem {aList_0 : List (Int × (List Int) × Int)} {aKey_1 : Int} {aaList_0 : Option Addr} {caList_0 : Nat} {r : Bool} (h : M.laws_FnExactGetItem aList_0 aKey_1 = some r) :
    Cal2 Try.prog 11 [(Sl aaList_0 aList_0 caList_0), (I aKey_1)] [Ch.ro 0 (Sl aaList_0 aList_0 caList_0) aList_0] (fun n0 v L => v = (B r) ∧ L = []) := by
 refine cal2 (n := 101) Try.func11 rfl rfl rfl rfl ?_
 intro S0 σ0 n0 hn0 H
 unfold M.laws_FnExactGetItem at h
 refine c_seq ?_
 refine rg ?_
 refine st (v := (B false)) (rv_assign rfl) ?_
 refine w_end ?_
 refine q_then ?_
 refine c_seq ?_
 refine rg ?_
 refine st (v := (I 1048576)) (rv_assign rfl) ?_
 refine w_end ?_
 refine q_then ?_
 refine c_seq ?_
 refine rg ?_
 refine st (v := (Sl aaList_0 aList_0 caList_0)) (rv_move rfl) ?_
 refine st (v := (I 1048576)) (rv_move rfl) ?_
 obtain ⟨r1, hx2, h'⟩ := bind_some h
 clear h
 have h := h'; clear h'
 have hc3 := c_laws_szItemS (aa_0 := aaList_0) (ca_0 := caList_0) hx2
 refine st_call (cx_call hc3 (ent_f hc3.fn rfl) hn0 (show Hp S0 σ0 _ ([Ch.ro 0 (Sl aaList_0 aList_0 caList_0) aList_0] ++ [Ch.ro 0 (Sl aaList_0 aList_0 caList_0) aList_0]) from (H.sel' [0, 0] rfl rfl))) (wanted_none _ rfl _) ?_
 rintro _ σ4 ⟨_, ⟨rfl, rfl⟩, H, -⟩
 replace H : Hp S0 σ0 σ4 [Ch.ro 0 (Sl aaList_0 aList_0 caList_0) aList_0] := H
 refine st (v := (I r1)) (rv_assign rfl) ?_
 refine w_end ?_
 refine q_then ?_
 refine c_seq ?_
 refine c_seq ?_
 refine rg ?_
 refine st (v := (I r1)) (rv_move rfl) ?_
 refine st (v := (B (decide (r1 < 0)))) (rv_lss (a := r1) (b := 0) rfl rfl) ?_
 refine w_end ?_
 refine q_then ?_
 refine cd_cond (decide (r1 < 0)) rfl (fun hb5 => ?_) (fun hb5 => ?_)
 ·replace h := bif_t hb5 h
  refine c_seq ?_
  refine rg ?_
  refine st (v := (B true)) (rv_assign rfl) ?_
  refine w_end ?_
  refine q_then ?_
  refine c_ret ?_
  refine q_then_r ?_
  obtain rfl := Option.some.inj h
  exact fin_ret (v := (B true)) (results_ok Try.results11 (res_tmp (v := (B true)) rfl res_nil) rfl) ⟨rfl, rfl⟩ (H.sel' [] rfl rfl)
 ·replace h := bif_f hb5 h
  refine c_skip ?_
  refine q_then ?_
  refine c_seq ?_
  refine rg ?_
  refine st (v := (Sl aaList_0 aList_0 caList_0)) (rv_move rfl) ?_
  obtain ⟨r6, hx7, h'⟩ := bind_some h
  clear h
  have h := h'; clear h'
  have hc8 := c_laws_toItemS (aa_0 := aaList_0) (ca_0 := caList_0) hx7
  refine st_call (cx_call hc8 (ent_f hc8.fn rfl) hn0 (show Hp S0 σ0 _ ([Ch.ro 0 (Sl aaList_0 aList_0 caList_0) aList_0] ++ [Ch.ro 0 (Sl aaList_0 aList_0 caList_0) aList_0]) from (H.sel' [0, 0] rfl rfl))) (wanted_none _ rfl _) ?_
  rintro _ σ13 ⟨_, ⟨a9, c10, K11, rfl, rfl, hK12⟩, H, -⟩
  replace H : Hp S0 σ0 σ13 [Ch.big K11, Ch.ro 0 (Sl aaList_0 aList_0 caList_0) aList_0] := H
  refine st (v := (I aKey_1)) (rv_move rfl) ?_
  obtain ⟨r14, hx15, h'⟩ := bind_some h
  clear h
  have h := h'; clear h'
  have hc16 := c_spec_GetItem (alist_0 := a9) (clist_0 := c10) hx15
  have hle := Nat.le_trans hn0 H.size
  refine st_call (cx_lend (Loan.lendB hK12.lends Loan.nil) hc16 (ent_f hc16.fn rfl) (show Hp S0 σ0 _ ([Ch.big K11] ++ ([] ++ [Ch.ro 0 (Sl aaList_0 aList_0 caList_0) aList_0])) from (H.sel' [0, 1] rfl rfl)) (by rintro _ _ _ ⟨_, _, rfl, rfl⟩; exact ⟨Ab.ownSc, trivial⟩)) (wanted_none _ rfl _) ?_
  rintro _ σ19 ⟨_, ⟨a17, c18, rfl, rfl⟩, H, -, -⟩
  replace H : Hp S0 σ0 σ19 [Ch.own σ13.size σ13.size (Sl a17 r14.1.2.1 c18) r14.1.2.1, Ch.big K11, Ch.ro 0 (Sl aaList_0 aList_0 caList_0) aList_0] := H
  replace H := H.ownLow 0 n0 n0 rfl hle hle
  clear hle
  replace H : Hp S0 σ0 σ19 [Ch.own n0 n0 (Sl a17 r14.1.2.1 c18) r14.1.2.1, Ch.big K11, Ch.ro 0 (Sl aaList_0 aList_0 caList_0) aList_0] := H
  refine st (v := (.tuple #[(.agg #[(I r14.1.1), (Sl a17 r14.1.2.1 c18), (I r14.1.2.2)]), (B r14.2)])) (rv_move rfl) ?_
  refine st (v := (.agg #[(I r14.1.1), (Sl a17 r14.1.2.1 c18), (I r14.1.2.2)])) (rv_extract rfl rfl) ?_
  refine st (v := (B r14.2)) (rv_extract rfl rfl) ?_
  refine st_ex (ex_alloc (cs := [(I 0), (.slice none 0 0), (I 0)]) H hn0 ti31 rfl) (wanted_none _ rfl _) ?_
  rintro _ σ21 ⟨b20, rfl, H, -⟩
  refine st_exS (ex_store_box (k := 0) (cs := [(I 0), (.slice none 0 0), (I 0)]) (vs := [(I r14.1.1), (Sl a17 r14.1.2.1 c18), (I r14.1.2.2)]) (cs' := [(I r14.1.1), (Sl a17 r14.1.2.1 c18), (I r14.1.2.2)]) H (i := 0) rfl ti31 rfl rfl rfl rfl rfl (Nat.le_of_ble_eq_true rfl) (by simp [plain]) rfl) (wanted_none _ rfl _) ?_
  rintro σ22 ⟨H, -⟩
  refine st (v := (B r14.2)) (rv_assign rfl) ?_
  refine w_end ?_
  refine q_then ?_
  refine c_seq ?_
  refine rg ?_
  refine st (v := (Sl aaList_0 aList_0 caList_0)) (rv_move rfl) ?_
  obtain ⟨r23, hx24, h'⟩ := bind_some h
  clear h
  have h := h'; clear h'
  have hc25 := c_laws_toItemS (aa_0 := aaList_0) (ca_0 := caList_0) hx24
  refine st_call (cx_call hc25 (ent_f hc25.fn rfl) hn0 (show Hp S0 σ0 _ ([Ch.ro 0 (Sl aaList_0 aList_0 caList_0) aList_0] ++ [Ch.bx n0 b20 0 [(I r14.1.1), (Sl a17 r14.1.2.1 c18), (I r14.1.2.2)] [] [], Ch.own n0 n0 (Sl a17 r14.1.2.1 c18) r14.1.2.1, Ch.big K11, Ch.ro 0 (Sl aaList_0 aList_0 caList_0) aList_0]) from (H.sel' [3, 0, 1, 2, 3] rfl rfl))) (wanted_none _ rfl _) ?_
  rintro _ σ30 ⟨_, ⟨a26, c27, K28, rfl, rfl, hK29⟩, H, -⟩
  replace H : Hp S0 σ0 σ30 [Ch.big K28, Ch.bx n0 b20 0 [(I r14.1.1), (Sl a17 r14.1.2.1 c18), (I r14.1.2.2)] [] [], Ch.own n0 n0 (Sl a17 r14.1.2.1 c18) r14.1.2.1, Ch.big K11, Ch.ro 0 (Sl aaList_0 aList_0 caList_0) aList_0] := H
  refine st (v := (Sl a26 r23 c27)) (rv_assign rfl) ?_
  refine w_end ?_
  refine q_then ?_
  refine c_seq ?_
  refine rg ?_
  refine st (v := (Sl a26 r23 c27)) (rv_move rfl) ?_
  refine st (v := (I aKey_1)) (rv_move rfl) ?_
  obtain ⟨r31, hx32, h'⟩ := bind_some h
  clear h
  have h := h'; clear h'
  have hc33 := c_impl_GetItem (alist_0 := a26) (clist_0 := c27) hx32
  have hle := Nat.le_trans hn0 H.size
  refine st_call (cx_lend (Loan.lendB hK29.lends Loan.nil) hc33 (ent_f hc33.fn rfl) (show Hp S0 σ0 _ ([Ch.big K28] ++ ([] ++ [Ch.bx n0 b20 0 [(I r14.1.1), (Sl a17 r14.1.2.1 c18), (I r14.1.2.2)] [] [], Ch.own n0 n0 (Sl a17 r14.1.2.1 c18) r14.1.2.1, Ch.big K11, Ch.ro 0 (Sl aaList_0 aList_0 caList_0) aList_0])) from (H.sel' [0, 1, 2, 3, 4] rfl rfl)) (by rintro _ _ _ ⟨_, _, rfl, rfl⟩; exact ⟨Ab.ownSc, trivial⟩)) (wanted_none _ rfl _) ?_
  rintro _ σ36 ⟨_, ⟨a34, c35, rfl, rfl⟩, H, -, -⟩
  replace H : Hp S0 σ0 σ36 [Ch.own σ30.size σ30.size (Sl a34 r31.1.2.1 c35) r31.1.2.1, Ch.big K28, Ch.bx n0 b20 0 [(I r14.1.1), (Sl a17 r14.1.2.1 c18), (I r14.1.2.2)] [] [], Ch.own n0 n0 (Sl a17 r14.1.2.1 c18) r14.1.2.1, Ch.big K11, Ch.ro 0 (Sl aaList_0 aList_0 caList_0) aList_0] := H
  replace H := H.ownLow 0 n0 n0 rfl hle hle
  clear hle
  replace H : Hp S0 σ0 σ36 [Ch.own n0 n0 (Sl a34 r31.1.2.1 c35) r31.1.2.1, Ch.big K28, Ch.bx n0 b20 0 [(I r14.1.1), (Sl a17 r14.1.2.1 c18), (I r14.1.2.2)] [] [], Ch.own n0 n0 (Sl a17 r14.1.2.1 c18) r14.1.2.1, Ch.big K11, Ch.ro 0 (Sl aaList_0 aList_0 caList_0) aList_0] := H
  refine st (v := (.tuple #[(.agg #[(I r31.1.1), (Sl a34 r31.1.2.1 c35), (I r31.1.2.2)]), (B r31.2)])) (rv_move rfl) ?_
  refine st (v := (.agg #[(I r31.1.1), (Sl a34 r31.1.2.1 c35), (I r31.1.2.2)])) (rv_extract rfl rfl) ?_
  refine st (v := (B r31.2)) (rv_extract rfl rfl) ?_
  refine st_ex (ex_alloc (cs := [(I 0), (.slice none 0 0), (I 0)]) H hn0 ti31 rfl) (wanted_none _ rfl _) ?_
  rintro _ σ38 ⟨b37, rfl, H, -⟩
  refine st_exS (ex_store_box (k := 0) (cs := [(I 0), (.slice none 0 0), (I 0)]) (vs := [(I r31.1.1), (Sl a34 r31.1.2.1 c35), (I r31.1.2.2)]) (cs' := [(I r31.1.1), (Sl a34 r31.1.2.1 c35), (I r31.1.2.2)]) H (i := 0) rfl ti31 rfl rfl rfl rfl rfl (Nat.le_of_ble_eq_true rfl) (by simp [plain]) rfl) (wanted_none _ rfl _) ?_
  rintro σ39 ⟨H, -⟩
  refine st (v := (B r31.2)) (rv_assign rfl) ?_
  refine w_end ?_
  refine q_then ?_
  refine c_seq ?_
  refine c_seq ?_
  obtain ⟨o40, hj, h'⟩ := bind_some h
  clear h
  refine c_cut (fun e a w => e = .normal ∧ ∃ (ρ : Nat → Value) (σ : St), a = fr 101 (updL ρ [(0, (Sl aaList_0 aList_0 caList_0)), (1, (I aKey_1)), (6, (pt b20 0)), (7, (B r14.2)), (8, (Sl a26 r23 c27)), (9, (pt b37 0)), (10, (B r31.2)), (44, (B o40))]) ∧ w = σ.w ∧ Hp S0 σ0 σ [Ch.ro 0 (Sl aaList_0 aList_0 caList_0) aList_0, Ch.own n0 n0 (Sl a17 r14.1.2.1 c18) r14.1.2.1, Ch.bx n0 b20 0 [(I r14.1.1), (Sl a17 r14.1.2.1 c18), (I r14.1.2.2)] [] [], Ch.big K28, Ch.own n0 n0 (Sl a34 r31.1.2.1 c35) r31.1.2.1, Ch.bx n0 b37 0 [(I r31.1.1), (Sl a34 r31.1.2.1 c35), (I r31.1.2.2)] [] []]) ?_ ?_
  ·clear h'
   rename _ = some o40 => h
   refine rg ?_
   have hc41 := H.cells 0 rfl
   refine st (v := (.agg #[(I r31.1.1), (Sl a34 r31.1.2.1 c35), (I r31.1.2.2)])) (rv_load (cs := [(I r31.1.1), (Sl a34 r31.1.2.1 c35), (I r31.1.2.2)]) Try.underlying31 rfl ti31 rfl rfl hc41) ?_
   have hc42 := H.cells 3 rfl
   refine st (v := (.agg #[(I r14.1.1), (Sl a17 r14.1.2.1 c18), (I r14.1.2.2)])) (rv_load (cs := [(I r14.1.1), (Sl a17 r14.1.2.1 c18), (I r14.1.2.2)]) Try.underlying31 rfl ti31 rfl rfl hc42) ?_
   obtain ⟨r43, hx44, h'⟩ := bind_some h
   clear h
   have h := h'; clear h'
   have hc45 := c_laws_eqItem (aa_0_1 := a34) (ca_0_1 := c35) (ab_1_1 := a17) (cb_1_1 := c18) hx44
   have hle := Nat.le_trans hn0 H.size
   refine st_call (cx_lend (Loan.lend (Loan.lend Loan.nil)) hc45 (ent_f hc45.fn rfl) (show Hp S0 σ0 _ ([Ch.own n0 n0 (Sl a34 r31.1.2.1 c35) r31.1.2.1, Ch.own n0 n0 (Sl a17 r14.1.2.1 c18) r14.1.2.1] ++ ([] ++ [Ch.bx n0 b37 0 [(I r31.1.1), (Sl a34 r31.1.2.1 c35), (I r31.1.2.2)] [] [], Ch.big K28, Ch.bx n0 b20 0 [(I r14.1.1), (Sl a17 r14.1.2.1 c18), (I r14.1.2.2)] [] [], Ch.big K11, Ch.ro 0 (Sl aaList_0 aList_0 caList_0) aList_0])) from (H.sel' [1, 4, 0, 2, 3, 5, 6] rfl rfl)) (by rintro _ _ _ ⟨rfl, rfl⟩; exact trivial)) (wanted_none _ rfl _) ?_
   rintro _ σ46 ⟨_, ⟨rfl, rfl⟩, H, -, -⟩
   replace H : Hp S0 σ0 σ46 [Ch.own n0 n0 (Sl a34 r31.1.2.1 c35) r31.1.2.1, Ch.own n0 n0 (Sl a17 r14.1.2.1 c18) r14.1.2.1, Ch.bx n0 b37 0 [(I r31.1.1), (Sl a34 r31.1.2.1 c35), (I r31.1.2.2)] [] [], Ch.big K28, Ch.bx n0 b20 0 [(I r14.1.1), (Sl a17 r14.1.2.1 c18), (I r14.1.2.2)] [] [], Ch.big K11, Ch.ro 0 (Sl aaList_0 aList_0 caList_0) aList_0] := H
   clear hle
   replace H : Hp S0 σ0 σ46 [Ch.own n0 n0 (Sl a34 r31.1.2.1 c35) r31.1.2.1, Ch.own n0 n0 (Sl a17 r14.1.2.1 c18) r14.1.2.1, Ch.bx n0 b37 0 [(I r31.1.1), (Sl a34 r31.1.2.1 c35), (I r31.1.2.2)] [] [], Ch.big K28, Ch.bx n0 b20 0 [(I r14.1.1), (Sl a17 r14.1.2.1 c18), (I r14.1.2.2)] [] [], Ch.big K11, Ch.ro 0 (Sl aaList_0 aList_0 caList_0) aList_0] := H
   refine st (v := (B (!r43))) (rv_not rfl) ?_
   refine st (v := (B (!r43))) (rv_move rfl) ?_
   rcases Bool.eq_false_or_eq_true (!r43) with hb47 | hb47
   ·replace h := bif_t hb47 h
    refine st_skip (congrArg some hb47) ?_
    refine st_skip (congrArg some hb47) ?_
    refine st_skip (congrArg some hb47) ?_
    refine st (v := (B true)) (rv_pick_t (congrArg B hb47) rfl) ?_
    refine w_end ?_
    obtain rfl := Option.some.inj h
    exact ⟨rfl, _, σ46, fr_join ⟨rfl, rfl, rfl, rfl, rfl, rfl, rfl, rfl, trivial⟩, rfl, H.sel' [6, 1, 4, 3, 0, 2] rfl rfl⟩
   ·replace h := bif_f hb47 h
    refine st_g (v := (B r31.2)) (congrArg some hb47) (rv_move rfl) ?_
    refine st_g (v := (B r14.2)) (congrArg some hb47) (rv_move rfl) ?_
    refine st_g (v := (B (r31.2 != r14.2))) (congrArg some hb47) (rv_bneq Try.underlying4 rfl rfl) ?_
    refine st (v := (B (r31.2 != r14.2))) (rv_pick_f (congrArg B hb47) rfl) ?_
    refine w_end ?_
    obtain rfl := Option.some.inj h
    exact ⟨rfl, _, σ46, fr_join ⟨rfl, rfl, rfl, rfl, rfl, rfl, rfl, rfl, trivial⟩, rfl, H.sel' [6, 1, 4, 3, 0, 2] rfl rfl⟩
  ·clear hj
   have h := h'
   clear h' H
   rintro e a w ⟨rfl, ρ, σ48, rfl, rfl, H⟩
   refine q_then ?_
   refine cd_cond o40 rfl (fun hb49 => ?_) (fun hb49 => ?_)
   ·replace h := bif_t hb49 h
    refine c_seq ?_
    refine rg ?_
    refine st (v := (B false)) (rv_assign rfl) ?_
    refine w_end ?_
    refine q_then ?_
    refine c_ret ?_
    refine q_then_r ?_
    obtain rfl := Option.some.inj h
    exact fin_ret (v := (B false)) (results_ok Try.results11 (res_tmp (v := (B false)) rfl res_nil) rfl) ⟨rfl, rfl⟩ (H.sel' [] rfl rfl)
   ·replace h := bif_f hb49 h
    refine c_skip ?_
    refine q_then ?_
    refine c_seq ?_
    refine c_seq ?_
    refine rg ?_
    refine st (v := (Sl a26 r23 c27)) (rv_move rfl) ?_
    refine st (v := (Sl aaList_0 aList_0 caList_0)) (rv_move rfl) ?_
    obtain ⟨r50, hx51, h'⟩ := bind_some h
    clear h
    have h := h'; clear h'
    have hc52 := c_laws_toItemS (aa_0 := aaList_0) (ca_0 := caList_0) hx51
    refine st_call (cx_call hc52 (ent_f hc52.fn rfl) hn0 (show Hp S0 σ0 _ ([Ch.ro 0 (Sl aaList_0 aList_0 caList_0) aList_0] ++ [Ch.ro 0 (Sl aaList_0 aList_0 caList_0) aList_0, Ch.own n0 n0 (Sl a17 r14.1.2.1 c18) r14.1.2.1, Ch.bx n0 b20 0 [(I r14.1.1), (Sl a17 r14.1.2.1 c18), (I r14.1.2.2)] [] [], Ch.big K28, Ch.own n0 n0 (Sl a34 r31.1.2.1 c35) r31.1.2.1, Ch.bx n0 b37 0 [(I r31.1.1), (Sl a34 r31.1.2.1 c35), (I r31.1.2.2)] [] []]) from (H.sel' [0, 0, 1, 2, 3, 4, 5] rfl rfl))) (wanted_none _ rfl _) ?_
    rintro _ σ57 ⟨_, ⟨a53, c54, K55, rfl, rfl, hK56⟩, H, -⟩
    replace H : Hp S0 σ0 σ57 [Ch.big K55, Ch.ro 0 (Sl aaList_0 aList_0 caList_0) aList_0, Ch.own n0 n0 (Sl a17 r14.1.2.1 c18) r14.1.2.1, Ch.bx n0 b20 0 [(I r14.1.1), (Sl a17 r14.1.2.1 c18), (I r14.1.2.2)] [] [], Ch.big K28, Ch.own n0 n0 (Sl a34 r31.1.2.1 c35) r31.1.2.1, Ch.bx n0 b37 0 [(I r31.1.1), (Sl a34 r31.1.2.1 c35), (I r31.1.2.2)] [] []] := H
    obtain ⟨r58, hx59, h'⟩ := bind_some h
    clear h
    have h := h'; clear h'
    have hc60 := c_laws_eqItemS (aa_0 := a26) (ca_0 := c27) (ab_1 := a53) (cb_1 := c54) hx59
    have hle := Nat.le_trans hn0 H.size
    refine st_call (cx_lend (Loan.lendB hK29.lends (Loan.lendB hK56.lends Loan.nil)) hc60 (ent_f hc60.fn rfl) (show Hp S0 σ0 _ ([Ch.big K28, Ch.big K55] ++ ([] ++ [Ch.ro 0 (Sl aaList_0 aList_0 caList_0) aList_0, Ch.own n0 n0 (Sl a17 r14.1.2.1 c18) r14.1.2.1, Ch.bx n0 b20 0 [(I r14.1.1), (Sl a17 r14.1.2.1 c18), (I r14.1.2.2)] [] [], Ch.own n0 n0 (Sl a34 r31.1.2.1 c35) r31.1.2.1, Ch.bx n0 b37 0 [(I r31.1.1), (Sl a34 r31.1.2.1 c35), (I r31.1.2.2)] [] []])) from (H.sel' [4, 0, 1, 2, 3, 5, 6] rfl rfl)) (by rintro _ _ _ ⟨rfl, rfl⟩; exact trivial)) (wanted_none _ rfl _) ?_
    rintro _ σ61 ⟨_, ⟨rfl, rfl⟩, H, -, -⟩
    replace H : Hp S0 σ0 σ61 [Ch.big K28, Ch.big K55, Ch.ro 0 (Sl aaList_0 aList_0 caList_0) aList_0, Ch.own n0 n0 (Sl a17 r14.1.2.1 c18) r14.1.2.1, Ch.bx n0 b20 0 [(I r14.1.1), (Sl a17 r14.1.2.1 c18), (I r14.1.2.2)] [] [], Ch.own n0 n0 (Sl a34 r31.1.2.1 c35) r31.1.2.1, Ch.bx n0 b37 0 [(I r31.1.1), (Sl a34 r31.1.2.1 c35), (I r31.1.2.2)] [] []] := H
    clear hle
    replace H : Hp S0 σ0 σ61 [Ch.big K28, Ch.big K55, Ch.ro 0 (Sl aaList_0 aList_0 caList_0) aList_0, Ch.own n0 n0 (Sl a17 r14.1.2.1 c18) r14.1.2.1, Ch.bx n0 b20 0 [(I r14.1.1), (Sl a17 r14.1.2.1 c18), (I r14.1.2.2)] [] [], Ch.own n0 n0 (Sl a34 r31.1.2.1 c35) r31.1.2.1, Ch.bx n0 b37 0 [(I r31.1.1), (Sl a34 r31.1.2.1 c35), (I r31.1.2.2)] [] []] := H
    refine st (v := (B (!r58))) (rv_not rfl) ?_
    refine w_end ?_
    refine q_then ?_
    refine cd_cond (!r58) rfl (fun hb62 => ?_) (fun hb62 => ?_)
    ·replace h := bif_t hb62 h
     refine c_seq ?_
     refine rg ?_
     refine st (v := (B false)) (rv_assign rfl) ?_
     refine w_end ?_
     refine q_then ?_
     refine c_ret ?_
     refine q_then_r ?_
     obtain rfl := Option.some.inj h
     exact fin_ret (v := (B false)) (results_ok Try.results11 (res_tmp (v := (B false)) rfl res_nil) rfl) ⟨rfl, rfl⟩ (H.sel' [] rfl rfl)
    ·replace h := bif_f hb62 h
     refine c_skip ?_
     refine q_then ?_
     refine c_seq ?_
     refine rg ?_
     refine st (v := (I 1)) (rv_assign rfl) ?_
     refine w_end ?_
     refine q_then ?_
     refine c_seq ?_
     refine rg ?_
     refine st (v := (Sl a26 r23 c27)) (rv_move rfl) ?_
     refine st (v := (I 1)) (rv_move rfl) ?_
     obtain ⟨r63, hx64, h'⟩ := bind_some h
     clear h
     have h := h'; clear h'
     have hc65 := c_laws_markItemS (aa_0 := a26) (ca_0 := c27) (hK := hK29) hx64
     refine st_call (cx_call hc65 (ent_f hc65.fn rfl) hn0 (show Hp S0 σ0 _ ([Ch.big K28] ++ [Ch.big K55, Ch.ro 0 (Sl aaList_0 aList_0 caList_0) aList_0, Ch.own n0 n0 (Sl a17 r14.1.2.1 c18) r14.1.2.1, Ch.bx n0 b20 0 [(I r14.1.1), (Sl a17 r14.1.2.1 c18), (I r14.1.2.2)] [] [], Ch.own n0 n0 (Sl a34 r31.1.2.1 c35) r31.1.2.1, Ch.bx n0 b37 0 [(I r31.1.1), (Sl a34 r31.1.2.1 c35), (I r31.1.2.2)] [] []]) from (H.sel' [0, 1, 2, 3, 4, 5, 6] rfl rfl))) (wanted_none _ rfl _) ?_
     rintro _ σ66 ⟨_, ⟨rfl, rfl⟩, H, -⟩
     replace H : Hp S0 σ0 σ66 [Ch.big K55, Ch.ro 0 (Sl aaList_0 aList_0 caList_0) aList_0, Ch.own n0 n0 (Sl a17 r14.1.2.1 c18) r14.1.2.1, Ch.bx n0 b20 0 [(I r14.1.1), (Sl a17 r14.1.2.1 c18), (I r14.1.2.2)] [] [], Ch.own n0 n0 (Sl a34 r31.1.2.1 c35) r31.1.2.1, Ch.bx n0 b37 0 [(I r31.1.1), (Sl a34 r31.1.2.1 c35), (I r31.1.2.2)] [] []] := H
     refine st (v := (I r63)) (rv_assign rfl) ?_
     refine w_end ?_
     refine q_then ?_
     refine c_seq ?_
     refine c_seq ?_
     obtain ⟨o67, hj, h'⟩ := bind_some h
     clear h
     refine c_cut (fun e a w => e = .normal ∧ ∃ (ρ : Nat → Value) (σ : St), a = fr 101 (updL ρ [(0, (Sl aaList_0 aList_0 caList_0)), (1, (I aKey_1)), (6, (pt b20 0)), (7, (B r14.2)), (9, (pt b37 0)), (65, (B o67))]) ∧ w = σ.w ∧ Hp S0 σ0 σ [Ch.ro 0 (Sl aaList_0 aList_0 caList_0) aList_0, Ch.own n0 n0 (Sl a17 r14.1.2.1 c18) r14.1.2.1, Ch.bx n0 b20 0 [(I r14.1.1), (Sl a17 r14.1.2.1 c18), (I r14.1.2.2)] [] [], Ch.own n0 n0 (Sl a34 r31.1.2.1 c35) r31.1.2.1, Ch.bx n0 b37 0 [(I r31.1.1), (Sl a34 r31.1.2.1 c35), (I r31.1.2.2)] [] []]) ?_ ?_
     ·clear h'
      rename _ = some o67 => h
      refine rg ?_
      refine st (v := (I r63)) (rv_move rfl) ?_
      refine st (v := (B (decide (r63 < 0)))) (rv_lss (a := r63) (b := 0) rfl rfl) ?_
      refine st (v := (B (decide (r63 < 0)))) (rv_move rfl) ?_
      rcases Bool.eq_false_or_eq_true (decide (r63 < 0)) with hb68 | hb68
      ·replace h := bif_t hb68 h
       refine st_skip (congrArg some hb68) ?_
       refine st_skip (congrArg some hb68) ?_
       refine st_skip (congrArg some hb68) ?_
       refine st_skip (congrArg some hb68) ?_
       refine st (v := (B true)) (rv_pick_t (congrArg B hb68) rfl) ?_
       refine st (v := (B true)) (rv_move rfl) ?_
       refine st_skip rfl ?_
       refine st_skip rfl ?_
       refine st_skip rfl ?_
       refine st (v := (B true)) (rv_pick_t rfl rfl) ?_
       refine w_end ?_
       obtain rfl := Option.some.inj h
       exact ⟨rfl, _, σ66, fr_join ⟨rfl, rfl, rfl, rfl, rfl, rfl, trivial⟩, rfl, H.sel' [1, 2, 3, 4, 5] rfl rfl⟩
      ·replace h := bif_f hb68 h
       have hc69 := H.cells 5 rfl
       refine st_g (v := (.agg #[(I r31.1.1), (Sl a34 r31.1.2.1 c35), (I r31.1.2.2)])) (congrArg some hb68) (rv_load (cs := [(I r31.1.1), (Sl a34 r31.1.2.1 c35), (I r31.1.2.2)]) Try.underlying31 rfl ti31 rfl rfl hc69) ?_
       have hc70 := H.cells 3 rfl
       refine st_g (v := (.agg #[(I r14.1.1), (Sl a17 r14.1.2.1 c18), (I r14.1.2.2)])) (congrArg some hb68) (rv_load (cs := [(I r14.1.1), (Sl a17 r14.1.2.1 c18), (I r14.1.2.2)]) Try.underlying31 rfl ti31 rfl rfl hc70) ?_
       obtain ⟨r71, hx72, h'⟩ := bind_some h
       clear h
       have h := h'; clear h'
       have hc73 := c_laws_eqItem (aa_0_1 := a34) (ca_0_1 := c35) (ab_1_1 := a17) (cb_1_1 := c18) hx72
       have hle := Nat.le_trans hn0 H.size
       refine st_call (cx_lend (Loan.lend (Loan.lend Loan.nil)) hc73 (ent_f hc73.fn rfl) (show Hp S0 σ0 _ ([Ch.own n0 n0 (Sl a34 r31.1.2.1 c35) r31.1.2.1, Ch.own n0 n0 (Sl a17 r14.1.2.1 c18) r14.1.2.1] ++ ([] ++ [Ch.big K55, Ch.ro 0 (Sl aaList_0 aList_0 caList_0) aList_0, Ch.bx n0 b20 0 [(I r14.1.1), (Sl a17 r14.1.2.1 c18), (I r14.1.2.2)] [] [], Ch.bx n0 b37 0 [(I r31.1.1), (Sl a34 r31.1.2.1 c35), (I r31.1.2.2)] [] []])) from (H.sel' [4, 2, 0, 1, 3, 5] rfl rfl)) (by rintro _ _ _ ⟨rfl, rfl⟩; exact trivial)) (wanted_yes rfl (by exact (congrArg some hb68))) ?_
       rintro _ σ74 ⟨_, ⟨rfl, rfl⟩, H, -, -⟩
       replace H : Hp S0 σ0 σ74 [Ch.own n0 n0 (Sl a34 r31.1.2.1 c35) r31.1.2.1, Ch.own n0 n0 (Sl a17 r14.1.2.1 c18) r14.1.2.1, Ch.big K55, Ch.ro 0 (Sl aaList_0 aList_0 caList_0) aList_0, Ch.bx n0 b20 0 [(I r14.1.1), (Sl a17 r14.1.2.1 c18), (I r14.1.2.2)] [] [], Ch.bx n0 b37 0 [(I r31.1.1), (Sl a34 r31.1.2.1 c35), (I r31.1.2.2)] [] []] := H
       clear hle
       replace H : Hp S0 σ0 σ74 [Ch.own n0 n0 (Sl a34 r31.1.2.1 c35) r31.1.2.1, Ch.own n0 n0 (Sl a17 r14.1.2.1 c18) r14.1.2.1, Ch.big K55, Ch.ro 0 (Sl aaList_0 aList_0 caList_0) aList_0, Ch.bx n0 b20 0 [(I r14.1.1), (Sl a17 r14.1.2.1 c18), (I r14.1.2.2)] [] [], Ch.bx n0 b37 0 [(I r31.1.1), (Sl a34 r31.1.2.1 c35), (I r31.1.2.2)] [] []] := H
       refine st_g (v := (B (!r71))) (congrArg some hb68) (rv_not rfl) ?_
       refine st (v := (B (!r71))) (rv_pick_f (congrArg B hb68) rfl) ?_
       refine st (v := (B (!r71))) (rv_move rfl) ?_
       rcases Bool.eq_false_or_eq_true (!r71) with hb75 | hb75
       ·replace h := bif_t hb75 h
        refine st_skip (congrArg some hb75) ?_
        refine st_skip (congrArg some hb75) ?_
        refine st_skip (congrArg some hb75) ?_
        refine st (v := (B true)) (rv_pick_t (congrArg B hb75) rfl) ?_
        refine w_end ?_
        obtain rfl := Option.some.inj h
        exact ⟨rfl, _, σ74, fr_join ⟨rfl, rfl, rfl, rfl, rfl, rfl, trivial⟩, rfl, H.sel' [3, 1, 4, 0, 5] rfl rfl⟩
       ·replace h := bif_f hb75 h
        refine st_g (v := (B r31.2)) (congrArg some hb75) (rv_move rfl) ?_
        refine st_g (v := (B r14.2)) (congrArg some hb75) (rv_move rfl) ?_
        refine st_g (v := (B (r31.2 != r14.2))) (congrArg some hb75) (rv_bneq Try.underlying4 rfl rfl) ?_
        refine st (v := (B (r31.2 != r14.2))) (rv_pick_f (congrArg B hb75) rfl) ?_
        refine w_end ?_
        obtain rfl := Option.some.inj h
        exact ⟨rfl, _, σ74, fr_join ⟨rfl, rfl, rfl, rfl, rfl, rfl, trivial⟩, rfl, H.sel' [3, 1, 4, 0, 5] rfl rfl⟩
     ·clear hj
      have h := h'
      clear h' H
      rintro e a w ⟨rfl, ρ, σ76, rfl, rfl, H⟩
      refine q_then ?_
      refine cd_cond o67 rfl (fun hb77 => ?_) (fun hb77 => ?_)
      ·replace h := bif_t hb77 h
       refine c_seq ?_
       refine rg ?_
       refine st (v := (B false)) (rv_assign rfl) ?_
       refine w_end ?_
       refine q_then ?_
       refine c_ret ?_
       refine q_then_r ?_
       obtain rfl := Option.some.inj h
       exact fin_ret (v := (B false)) (results_ok Try.results11 (res_tmp (v := (B false)) rfl res_nil) rfl) ⟨rfl, rfl⟩ (H.sel' [] rfl rfl)
      ·replace h := bif_f hb77 h
       refine c_skip ?_
       refine q_then ?_
       refine c_seq ?_
       refine rg ?_
       refine st (v := (I 1)) (rv_assign rfl) ?_
       refine w_end ?_
       refine q_then ?_
       refine c_seq ?_
       refine rg ?_
       have hc78 := H.cells 4 rfl
       refine st (v := (.agg #[(I r31.1.1), (Sl a34 r31.1.2.1 c35), (I r31.1.2.2)])) (rv_load (cs := [(I r31.1.1), (Sl a34 r31.1.2.1 c35), (I r31.1.2.2)]) Try.underlying31 rfl ti31 rfl rfl hc78) ?_
       refine st (v := (I 1)) (rv_move rfl) ?_
       replace H := H.ownLow 3 0 0 rfl (Nat.zero_le _) (Nat.zero_le _)
       obtain ⟨r79, hx80, h'⟩ := bind_some h
       clear h
       have h := h'; clear h'
       have hc81 := c_laws_markItem (aa_0_1 := a34) (ca_0_1 := c35) hx80
       refine st_call (cx_call hc81 (ent_f hc81.fn rfl) hn0 (show Hp S0 σ0 _ ([Ch.own 0 0 (Sl a34 r31.1.2.1 c35) r31.1.2.1] ++ [Ch.ro 0 (Sl aaList_0 aList_0 caList_0) aList_0, Ch.own n0 n0 (Sl a17 r14.1.2.1 c18) r14.1.2.1, Ch.bx n0 b20 0 [(I r14.1.1), (Sl a17 r14.1.2.1 c18), (I r14.1.2.2)] [] [], Ch.bx n0 b37 0 [(I r31.1.1), (Sl a34 r31.1.2.1 c35), (I r31.1.2.2)] [] []]) from (H.sel' [0, 1, 2, 3, 4] rfl rfl))) (wanted_none _ rfl _) ?_
       rintro _ σ83 ⟨_, ⟨rfl, rfl, hn82⟩, H, -⟩
       replace H : Hp S0 σ0 σ83 [Ch.own 0 0 (Sl a34 r79.2 c35) r79.2, Ch.ro 0 (Sl aaList_0 aList_0 caList_0) aList_0, Ch.own n0 n0 (Sl a17 r14.1.2.1 c18) r14.1.2.1, Ch.bx n0 b20 0 [(I r14.1.1), (Sl a17 r14.1.2.1 c18), (I r14.1.2.2)] [] [], Ch.bx n0 b37 0 [(I r31.1.1), (Sl a34 r31.1.2.1 c35), (I r31.1.2.2)] [] []] := H
       have hsl : (Sl a34 r31.1.2.1 c35) = (Sl a34 r79.2 c35) := sl_len hn82.symm
       try rw [hsl]
       try rw [hsl] at H
       clear hsl
       refine st (v := (I r79.1)) (rv_assign rfl) ?_
       refine w_end ?_
       refine q_then ?_
       refine c_seq ?_
       refine rg ?_
       refine st (v := (I 1)) (rv_assign rfl) ?_
       refine w_end ?_
       refine q_then ?_
       refine c_seq ?_
       refine rg ?_
       have hc84 := H.cells 4 rfl
       refine st (v := (.agg #[(I r31.1.1), (Sl a34 r79.2 c35), (I r31.1.2.2)])) (rv_load (cs := [(I r31.1.1), (Sl a34 r79.2 c35), (I r31.1.2.2)]) Try.underlying31 rfl ti31 rfl rfl hc84) ?_
       refine st (v := (I 1)) (rv_move rfl) ?_
       obtain ⟨r85, hx86, h'⟩ := bind_some h
       clear h
       have h := h'; clear h'
       have hc87 := c_laws_heldItem (aa_0_1 := a34) (ca_0_1 := c35) hx86
       have hle := Nat.le_trans hn0 H.size
       refine st_call (cx_lend (Loan.lend Loan.nil) hc87 (ent_f hc87.fn rfl) (show Hp S0 σ0 _ ([Ch.own 0 0 (Sl a34 r79.2 c35) r79.2] ++ ([] ++ [Ch.ro 0 (Sl aaList_0 aList_0 caList_0) aList_0, Ch.own n0 n0 (Sl a17 r14.1.2.1 c18) r14.1.2.1, Ch.bx n0 b20 0 [(I r14.1.1), (Sl a17 r14.1.2.1 c18), (I r14.1.2.2)] [] [], Ch.bx n0 b37 0 [(I r31.1.1), (Sl a34 r79.2 c35), (I r31.1.2.2)] [] []])) from (H.sel' [0, 1, 2, 3, 4] rfl rfl)) (by rintro _ _ _ ⟨rfl, rfl⟩; exact trivial)) (wanted_none _ rfl _) ?_
       rintro _ σ88 ⟨_, ⟨rfl, rfl⟩, H, -, -⟩
       replace H : Hp S0 σ0 σ88 [Ch.own 0 0 (Sl a34 r79.2 c35) r79.2, Ch.ro 0 (Sl aaList_0 aList_0 caList_0) aList_0, Ch.own n0 n0 (Sl a17 r14.1.2.1 c18) r14.1.2.1, Ch.bx n0 b20 0 [(I r14.1.1), (Sl a17 r14.1.2.1 c18), (I r14.1.2.2)] [] [], Ch.bx n0 b37 0 [(I r31.1.1), (Sl a34 r79.2 c35), (I r31.1.2.2)] [] []] := H
       clear hle
       replace H : Hp S0 σ0 σ88 [Ch.own 0 0 (Sl a34 r79.2 c35) r79.2, Ch.ro 0 (Sl aaList_0 aList_0 caList_0) aList_0, Ch.own n0 n0 (Sl a17 r14.1.2.1 c18) r14.1.2.1, Ch.bx n0 b20 0 [(I r14.1.1), (Sl a17 r14.1.2.1 c18), (I r14.1.2.2)] [] [], Ch.bx n0 b37 0 [(I r31.1.1), (Sl a34 r79.2 c35), (I r31.1.2.2)] [] []] := H
       refine st (v := (I r85)) (rv_assign rfl) ?_
       refine w_end ?_
       refine q_then ?_
       refine c_seq ?_
       refine c_seq ?_
       refine rg ?_
       refine st (v := (I r85)) (rv_move rfl) ?_
       refine st (v := (B (decide (r85 < 0)))) (rv_lss (a := r85) (b := 0) rfl rfl) ?_
       refine w_end ?_
       refine q_then ?_
       refine cd_cond (decide (r85 < 0)) rfl (fun hb89 => ?_) (fun hb89 => ?_)
       ·replace h := bif_t hb89 h
        refine c_seq ?_
        refine rg ?_
        refine st (v := (B false)) (rv_assign rfl) ?_
        refine w_end ?_
        refine q_then ?_
        refine c_ret ?_
        refine q_then_r ?_
        obtain rfl := Option.some.inj h
        exact fin_ret (v := (B false)) (results_ok Try.results11 (res_tmp (v := (B false)) rfl res_nil) rfl) ⟨rfl, rfl⟩ (H.sel' [] rfl rfl)
       ·replace h := bif_f hb89 h
        refine c_skip ?_
        refine q_then ?_
        refine c_seq ?_
        refine c_seq ?_
        refine rg ?_
        refine st (v := (I r85)) (rv_move rfl) ?_
        refine st (v := (I r79.1)) (rv_move rfl) ?_
        refine st (v := (B (r85 != r79.1))) (rv_neq (a := r85) (b := r79.1) rfl rfl) ?_
        refine w_end ?_
        refine q_then ?_
        refine cd_cond (r85 != r79.1) rfl (fun hb90 => ?_) (fun hb90 => ?_)
        ·replace h := bif_t hb90 h
         refine c_seq ?_
         refine rg ?_
         refine st (v := (B false)) (rv_assign rfl) ?_
         refine w_end ?_
         refine q_then ?_
         refine c_ret ?_
         refine q_then_r ?_
         obtain rfl := Option.some.inj h
         exact fin_ret (v := (B false)) (results_ok Try.results11 (res_tmp (v := (B false)) rfl res_nil) rfl) ⟨rfl, rfl⟩ (H.sel' [] rfl rfl)
        ·replace h := bif_f hb90 h
         refine c_skip ?_
         refine q_then ?_
         refine c_seq ?_
         refine rg ?_
         refine st (v := (Sl aaList_0 aList_0 caList_0)) (rv_move rfl) ?_
         obtain ⟨r91, hx92, h'⟩ := bind_some h
         clear h
         have h := h'; clear h'
         have hc93 := c_laws_toItemS (aa_0 := aaList_0) (ca_0 := caList_0) hx92
         refine st_call (cx_call hc93 (ent_f hc93.fn rfl) hn0 (show Hp S0 σ0 _ ([Ch.ro 0 (Sl aaList_0 aList_0 caList_0) aList_0] ++ [Ch.own 0 0 (Sl a34 r79.2 c35) r79.2, Ch.ro 0 (Sl aaList_0 aList_0 caList_0) aList_0, Ch.own n0 n0 (Sl a17 r14.1.2.1 c18) r14.1.2.1, Ch.bx n0 b20 0 [(I r14.1.1), (Sl a17 r14.1.2.1 c18), (I r14.1.2.2)] [] [], Ch.bx n0 b37 0 [(I r31.1.1), (Sl a34 r79.2 c35), (I r31.1.2.2)] [] []]) from (H.sel' [1, 0, 1, 2, 3, 4] rfl rfl))) (wanted_none _ rfl _) ?_
         rintro _ σ98 ⟨_, ⟨a94, c95, K96, rfl, rfl, hK97⟩, H, -⟩
         replace H : Hp S0 σ0 σ98 [Ch.big K96, Ch.own 0 0 (Sl a34 r79.2 c35) r79.2, Ch.ro 0 (Sl aaList_0 aList_0 caList_0) aList_0, Ch.own n0 n0 (Sl a17 r14.1.2.1 c18) r14.1.2.1, Ch.bx n0 b20 0 [(I r14.1.1), (Sl a17 r14.1.2.1 c18), (I r14.1.2.2)] [] [], Ch.bx n0 b37 0 [(I r31.1.1), (Sl a34 r79.2 c35), (I r31.1.2.2)] [] []] := H
         refine st (v := (I aKey_1)) (rv_move rfl) ?_
         obtain ⟨r99, hx100, h'⟩ := bind_some h
         clear h
         have h := h'; clear h'
         have hc101 := c_impl_GetItem (alist_0 := a94) (clist_0 := c95) hx100
         have hle := Nat.le_trans hn0 H.size
         refine st_call (cx_lend (Loan.lendB hK97.lends Loan.nil) hc101 (ent_f hc101.fn rfl) (show Hp S0 σ0 _ ([Ch.big K96] ++ ([] ++ [Ch.own 0 0 (Sl a34 r79.2 c35) r79.2, Ch.ro 0 (Sl aaList_0 aList_0 caList_0) aList_0, Ch.own n0 n0 (Sl a17 r14.1.2.1 c18) r14.1.2.1, Ch.bx n0 b20 0 [(I r14.1.1), (Sl a17 r14.1.2.1 c18), (I r14.1.2.2)] [] [], Ch.bx n0 b37 0 [(I r31.1.1), (Sl a34 r79.2 c35), (I r31.1.2.2)] [] []])) from (H.sel' [0, 1, 2, 3, 4, 5] rfl rfl)) (by rintro _ _ _ ⟨_, _, rfl, rfl⟩; exact ⟨Ab.ownSc, trivial⟩)) (wanted_none _ rfl _) ?_
         rintro _ σ104 ⟨_, ⟨a102, c103, rfl, rfl⟩, H, -, -⟩
         replace H : Hp S0 σ0 σ104 [Ch.own σ98.size σ98.size (Sl a102 r99.1.2.1 c103) r99.1.2.1, Ch.big K96, Ch.own 0 0 (Sl a34 r79.2 c35) r79.2, Ch.ro 0 (Sl aaList_0 aList_0 caList_0) aList_0, Ch.own n0 n0 (Sl a17 r14.1.2.1 c18) r14.1.2.1, Ch.bx n0 b20 0 [(I r14.1.1), (Sl a17 r14.1.2.1 c18), (I r14.1.2.2)] [] [], Ch.bx n0 b37 0 [(I r31.1.1), (Sl a34 r79.2 c35), (I r31.1.2.2)] [] []] := H
         replace H := H.ownLow 0 n0 n0 rfl hle hle
         clear hle
         replace H : Hp S0 σ0 σ104 [Ch.own n0 n0 (Sl a102 r99.1.2.1 c103) r99.1.2.1, Ch.big K96, Ch.own 0 0 (Sl a34 r79.2 c35) r79.2, Ch.ro 0 (Sl aaList_0 aList_0 caList_0) aList_0, Ch.own n0 n0 (Sl a17 r14.1.2.1 c18) r14.1.2.1, Ch.bx n0 b20 0 [(I r14.1.1), (Sl a17 r14.1.2.1 c18), (I r14.1.2.2)] [] [], Ch.bx n0 b37 0 [(I r31.1.1), (Sl a34 r79.2 c35), (I r31.1.2.2)] [] []] := H
         refine st (v := (.tuple #[(.agg #[(I r99.1.1), (Sl a102 r99.1.2.1 c103), (I r99.1.2.2)]), (B r99.2)])) (rv_move rfl) ?_
         refine st (v := (.agg #[(I r99.1.1), (Sl a102 r99.1.2.1 c103), (I r99.1.2.2)])) (rv_extract rfl rfl) ?_
         refine st (v := (B r99.2)) (rv_extract rfl rfl) ?_
         refine st_ex (ex_alloc (cs := [(I 0), (.slice none 0 0), (I 0)]) H hn0 ti31 rfl) (wanted_none _ rfl _) ?_
         rintro _ σ106 ⟨b105, rfl, H, -⟩
         replace H : Hp S0 σ0 σ106 [Ch.bx n0 b105 0 [(I 0), (.slice none 0 0), (I 0)] [] [], Ch.own n0 n0 (Sl a102 r99.1.2.1 c103) r99.1.2.1, Ch.own 0 0 (Sl a34 r79.2 c35) r79.2, Ch.own n0 n0 (Sl a17 r14.1.2.1 c18) r14.1.2.1, Ch.bx n0 b20 0 [(I r14.1.1), (Sl a17 r14.1.2.1 c18), (I r14.1.2.2)] [] [], Ch.bx n0 b37 0 [(I r31.1.1), (Sl a34 r79.2 c35), (I r31.1.2.2)] [] []] := H.sel' [0, 1, 3, 5, 6, 7] rfl rfl
         refine st_exS (ex_store_box (k := 0) (cs := [(I 0), (.slice none 0 0), (I 0)]) (vs := [(I r99.1.1), (Sl a102 r99.1.2.1 c103), (I r99.1.2.2)]) (cs' := [(I r99.1.1), (Sl a102 r99.1.2.1 c103), (I r99.1.2.2)]) H (i := 0) rfl ti31 rfl rfl rfl rfl rfl (Nat.le_of_ble_eq_true rfl) (by simp [plain]) rfl) (wanted_none _ rfl _) ?_
         rintro σ107 ⟨H, -⟩
         refine st (v := (B r99.2)) (rv_assign rfl) ?_
         refine w_end ?_
         refine q_then ?_
         refine c_seq ?_
         refine c_seq ?_
         obtain ⟨o108, hj, h'⟩ := bind_some h
         clear h
         refine c_cut (fun e a w => e = .normal ∧ ∃ (ρ : Nat → Value) (σ : St), a = fr 101 (updL ρ [(9, (pt b37 0)), (12, (I r79.1)), (92, (B o108))]) ∧ w = σ.w ∧ Hp S0 σ0 σ [Ch.own 0 0 (Sl a34 r79.2 c35) r79.2, Ch.bx n0 b37 0 [(I r31.1.1), (Sl a34 r79.2 c35), (I r31.1.2.2)] [] []]) ?_ ?_
         ·clear h'
          rename _ = some o108 => h
          refine rg ?_
          have hc109 := H.cells 0 rfl
          refine st (v := (.agg #[(I r99.1.1), (Sl a102 r99.1.2.1 c103), (I r99.1.2.2)])) (rv_load (cs := [(I r99.1.1), (Sl a102 r99.1.2.1 c103), (I r99.1.2.2)]) Try.underlying31 rfl ti31 rfl rfl hc109) ?_
          have hc110 := H.cells 4 rfl
          refine st (v := (.agg #[(I r14.1.1), (Sl a17 r14.1.2.1 c18), (I r14.1.2.2)])) (rv_load (cs := [(I r14.1.1), (Sl a17 r14.1.2.1 c18), (I r14.1.2.2)]) Try.underlying31 rfl ti31 rfl rfl hc110) ?_
          obtain ⟨σ111, hw112, H, -⟩ := H.pub 1 rfl (Nat.le_refl _)
          rw [← hw112]; clear hw112
          obtain ⟨σ113, hw114, H, -⟩ := H.pub 3 rfl (Nat.le_refl _)
          rw [← hw114]; clear hw114
          replace H := H.roLow 1 0 rfl (Nat.zero_le _)
          replace H := H.roLow 1 0 rfl (Nat.zero_le _)
          obtain ⟨r115, hx116, h'⟩ := bind_some h
          clear h
          have h := h'; clear h'
          have hc117 := c_laws_eqItem (aa_0_1 := a102) (ca_0_1 := c103) (ab_1_1 := a17) (cb_1_1 := c18) hx116
          refine st_call (cx_call hc117 (ent_f hc117.fn rfl) hn0 (show Hp S0 σ0 _ ([Ch.ro 0 (Sl a102 r99.1.2.1 c103) r99.1.2.1, Ch.ro 0 (Sl a17 r14.1.2.1 c18) r14.1.2.1] ++ [Ch.ro 0 (Sl a17 r14.1.2.1 c18) r14.1.2.1, Ch.ro 0 (Sl a102 r99.1.2.1 c103) r99.1.2.1, Ch.ro n0 (Sl a17 r14.1.2.1 c18) r14.1.2.1, Ch.ro n0 (Sl a102 r99.1.2.1 c103) r99.1.2.1, Ch.bx n0 b105 0 [(I r99.1.1), (Sl a102 r99.1.2.1 c103), (I r99.1.2.2)] [] [], Ch.own 0 0 (Sl a34 r79.2 c35) r79.2, Ch.bx n0 b20 0 [(I r14.1.1), (Sl a17 r14.1.2.1 c18), (I r14.1.2.2)] [] [], Ch.bx n0 b37 0 [(I r31.1.1), (Sl a34 r79.2 c35), (I r31.1.2.2)] [] []]) from (H.sel' [1, 0, 0, 1, 2, 3, 4, 5, 6, 7] rfl rfl))) (wanted_none _ rfl _) ?_
          rintro _ σ118 ⟨_, ⟨rfl, rfl⟩, H, -⟩
          replace H : Hp S0 σ0 σ118 [Ch.ro 0 (Sl a17 r14.1.2.1 c18) r14.1.2.1, Ch.ro 0 (Sl a102 r99.1.2.1 c103) r99.1.2.1, Ch.ro n0 (Sl a17 r14.1.2.1 c18) r14.1.2.1, Ch.ro n0 (Sl a102 r99.1.2.1 c103) r99.1.2.1, Ch.bx n0 b105 0 [(I r99.1.1), (Sl a102 r99.1.2.1 c103), (I r99.1.2.2)] [] [], Ch.own 0 0 (Sl a34 r79.2 c35) r79.2, Ch.bx n0 b20 0 [(I r14.1.1), (Sl a17 r14.1.2.1 c18), (I r14.1.2.2)] [] [], Ch.bx n0 b37 0 [(I r31.1.1), (Sl a34 r79.2 c35), (I r31.1.2.2)] [] []] := H
          replace H : Hp S0 σ0 σ118 [Ch.own 0 0 (Sl a34 r79.2 c35) r79.2, Ch.bx n0 b37 0 [(I r31.1.1), (Sl a34 r79.2 c35), (I r31.1.2.2)] [] []] := H.sel' [5, 7] rfl rfl
          refine st (v := (B (!r115))) (rv_not rfl) ?_
          refine st (v := (B (!r115))) (rv_move rfl) ?_
          rcases Bool.eq_false_or_eq_true (!r115) with hb119 | hb119
          ·replace h := bif_t hb119 h
           refine st_skip (congrArg some hb119) ?_
           refine st_skip (congrArg some hb119) ?_
           refine st_skip (congrArg some hb119) ?_
           refine st (v := (B true)) (rv_pick_t (congrArg B hb119) rfl) ?_
           refine w_end ?_
           obtain rfl := Option.some.inj h
           exact ⟨rfl, _, σ118, fr_join ⟨rfl, rfl, rfl, trivial⟩, rfl, H.sel' [0, 1] rfl rfl⟩
          ·replace h := bif_f hb119 h
           refine st_g (v := (B r99.2)) (congrArg some hb119) (rv_move rfl) ?_
           refine st_g (v := (B r14.2)) (congrArg some hb119) (rv_move rfl) ?_
           refine st_g (v := (B (r99.2 != r14.2))) (congrArg some hb119) (rv_bneq Try.underlying4 rfl rfl) ?_
           refine st (v := (B (r99.2 != r14.2))) (rv_pick_f (congrArg B hb119) rfl) ?_
           refine w_end ?_
           obtain rfl := Option.some.inj h
           exact ⟨rfl, _, σ118, fr_join ⟨rfl, rfl, rfl, trivial⟩, rfl, H.sel' [0, 1] rfl rfl⟩
         ·clear hj
          have h := h'
          clear h' H
          rintro e a w ⟨rfl, ρ, σ120, rfl, rfl, H⟩
          refine q_then ?_
          refine cd_cond o108 rfl (fun hb121 => ?_) (fun hb121 => ?_)
          ·replace h := bif_t hb121 h
           refine c_seq ?_
           refine rg ?_
           refine st (v := (B false)) (rv_assign rfl) ?_
           refine w_end ?_
           refine q_then ?_
           refine c_ret ?_
           refine q_then_r ?_
           obtain rfl := Option.some.inj h
           exact fin_ret (v := (B false)) (results_ok Try.results11 (res_tmp (v := (B false)) rfl res_nil) rfl) ⟨rfl, rfl⟩ (H.sel' [] rfl rfl)
          ·replace h := bif_f hb121 h
           refine c_skip ?_
           refine q_then ?_
           refine c_seq ?_
           refine rg ?_
           refine st (v := (I 1)) (rv_assign rfl) ?_
           refine w_end ?_
           refine q_then ?_
           refine c_seq ?_
           refine rg ?_
           have hc122 := H.cells 1 rfl
           refine st (v := (.agg #[(I r31.1.1), (Sl a34 r79.2 c35), (I r31.1.2.2)])) (rv_load (cs := [(I r31.1.1), (Sl a34 r79.2 c35), (I r31.1.2.2)]) Try.underlying31 rfl ti31 rfl rfl hc122) ?_
           refine st (v := (I 1)) (rv_move rfl) ?_
           obtain ⟨σ123, hw124, H, -⟩ := H.pub 0 rfl (Nat.le_refl _)
           rw [← hw124]; clear hw124
           obtain ⟨r125, hx126, h'⟩ := bind_some h
           clear h
           have h := h'; clear h'
           have hc127 := c_laws_heldItem (aa_0_1 := a34) (ca_0_1 := c35) hx126
           refine st_call (cx_call hc127 (ent_f hc127.fn rfl) hn0 (show Hp S0 σ0 _ ([Ch.ro 0 (Sl a34 r79.2 c35) r79.2] ++ [Ch.ro 0 (Sl a34 r79.2 c35) r79.2, Ch.bx n0 b37 0 [(I r31.1.1), (Sl a34 r79.2 c35), (I r31.1.2.2)] [] []]) from (H.sel' [0, 0, 1] rfl rfl))) (wanted_none _ rfl _) ?_
           rintro _ σ128 ⟨_, ⟨rfl, rfl⟩, H, -⟩
           replace H : Hp S0 σ0 σ128 [Ch.ro 0 (Sl a34 r79.2 c35) r79.2, Ch.bx n0 b37 0 [(I r31.1.1), (Sl a34 r79.2 c35), (I r31.1.2.2)] [] []] := H
           refine st (v := (I r125)) (rv_assign rfl) ?_
           refine w_end ?_
           refine q_then ?_
           refine c_seq ?_
           refine c_seq ?_
           refine rg ?_
           refine st (v := (I r125)) (rv_move rfl) ?_
           refine st (v := (B (decide (r125 < 0)))) (rv_lss (a := r125) (b := 0) rfl rfl) ?_
           refine w_end ?_
           refine q_then ?_
           refine cd_cond (decide (r125 < 0)) rfl (fun hb129 => ?_) (fun hb129 => ?_)
           ·replace h := bif_t hb129 h
            refine c_seq ?_
            refine rg ?_
            refine st (v := (B false)) (rv_assign rfl) ?_
            refine w_end ?_
            refine q_then ?_
            refine c_ret ?_
            refine q_then_r ?_
            obtain rfl := Option.some.inj h
            exact fin_ret (v := (B false)) (results_ok Try.results11 (res_tmp (v := (B false)) rfl res_nil) rfl) ⟨rfl, rfl⟩ (H.sel' [] rfl rfl)
           ·replace h := bif_f hb129 h
            refine c_skip ?_
            refine q_then ?_
            refine c_seq ?_
            refine c_seq ?_
            refine rg ?_
            refine st (v := (I r125)) (rv_move rfl) ?_
            refine st (v := (I r79.1)) (rv_move rfl) ?_
            refine st (v := (B (r125 != r79.1))) (rv_neq (a := r125) (b := r79.1) rfl rfl) ?_
            refine w_end ?_
            refine q_then ?_
            refine cd_cond (r125 != r79.1) rfl (fun hb130 => ?_) (fun hb130 => ?_)
            ·replace h := bif_t hb130 h
             refine c_seq ?_
             refine rg ?_
             refine st (v := (B false)) (rv_assign rfl) ?_
             refine w_end ?_
             refine q_then ?_
             refine c_ret ?_
             refine q_then_r ?_
             obtain rfl := Option.some.inj h
             exact fin_ret (v := (B false)) (results_ok Try.results11 (res_tmp (v := (B false)) rfl res_nil) rfl) ⟨rfl, rfl⟩ (H.sel' [] rfl rfl)
            ·replace h := bif_f hb130 h
             refine c_skip ?_
             refine q_then ?_
             refine c_seq ?_
             refine rg ?_
             refine st (v := (B true)) (rv_assign rfl) ?_
             refine w_end ?_
             refine q_then ?_
             refine c_ret ?_
             obtain rfl := Option.some.inj h
             exact fin_ret (v := (B true)) (results_ok Try.results11 (res_tmp (v := (B true)) rfl res_nil) rfl) ⟨rfl, rfl⟩ (H.sel' [] rfl rfl)

end Go.Vs
