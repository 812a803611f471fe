/- The functions compute what their models say. -/
import Derived.Test.YtgokepoinohioacKExactBoundsOfC1
set_option linter.unusedVariables false
set_option linter.unusedSimpArgs false
set_option maxRecDepth 20000
namespace Go.Vs
open Go Go.Proofs
attribute [local irreducible] Code.wp Code.wpIn wpList wpListIn wpQuiet Calls CallsIn

theorem c_spec_validStore {list_0 : List (Int × (List Int) × Int)} {alist_0 : Option Addr} {clist_0 : Nat} {r : Bool} (h : M.spec_validStore list_0 = some r) :
    Cal2 Try.prog 52 [(Sl alist_0 list_0 clist_0)] [Ch.ro 0 (Sl alist_0 list_0 clist_0) list_0] (fun n0 v L => v = (B r) ∧ L = []) := by
 refine cal2 (n := 37) Try.func52 rfl rfl rfl rfl ?_
 intro S0 σ0 n0 hn0 H
 unfold M.spec_validStore at h
 refine c_seq ?_
 refine rg ?_
 refine st (v := (B false)) (rv_assign rfl) ?_
 refine w_end ?_
 refine q_then ?_
 refine c_seq ?_
 refine c_seq ?_
 refine rg ?_
 refine st (v := (I 0)) (rv_assign rfl) ?_
 refine w_end ?_
 refine q_then ?_
 obtain ⟨o1, hj, h'⟩ := bind_some h
 clear h
 refine c_cut (fun e a w => (∃ t, o1 = (.inl t) ∧ e = .normal ∧ ∃ (ρ : Nat → Value) (σ : St), a = fr 37 (updL ρ [(0, (Sl alist_0 list_0 clist_0))]) ∧ w = σ.w ∧ Hp S0 σ0 σ [Ch.ro 0 (Sl alist_0 list_0 clist_0) list_0]) ∨ (∃ t, o1 = (.inr t) ∧ e = .ret ∧ ∃ (ρ : Nat → Value) (σ : St), a = fr 37 (updL ρ [(2, (B t))]) ∧ w = σ.w ∧ Hp S0 σ0 σ [])) ?_ ?_
 ·clear h'
  rename _ = some o1 => h
  refine c_blk ?_
  refine wp_loopM _ h (fun s2 a w => ∃ (ρ : Nat → Value) (σ : St), a = fr 37 (updL ρ [(0, (Sl alist_0 list_0 clist_0)), (3, (I s2))]) ∧ w = σ.w ∧ Hp S0 σ0 σ [Ch.ro 0 (Sl alist_0 list_0 clist_0) list_0]) ⟨_, σ0, fr_join ⟨rfl, rfl, trivial⟩, rfl, H.sel' [0] rfl rfl⟩ ?_
  clear h H
  rintro s2 a w o ⟨ρ, σ3, rfl, rfl, H⟩ h hres
  refine c_seq ?_
  refine c_seq ?_
  refine rg ?_
  refine st (v := (I s2)) (rv_move rfl) ?_
  refine st (v := (Sl alist_0 list_0 clist_0)) (rv_move rfl) ?_
  refine st (v := (I (list_0.length : Int))) (rv_len Try.underlying23 rfl) ?_
  refine st (v := (B (decide (s2 < (list_0.length : Int))))) (rv_lss (a := s2) (b := (list_0.length : Int)) rfl rfl) ?_
  refine w_end ?_
  refine q_then ?_
  refine cd_cond (decide (s2 < (list_0.length : Int))) rfl (fun hb4 => ?_) (fun hb4 => ?_)
  ·replace h := bif_t hb4 h
   refine c_skip ?_
   refine q_then ?_
   refine c_seq ?_
   refine c_blk ?_
   refine c_seq ?_
   obtain ⟨o5, hj, h'⟩ := bind_some h
   clear h
   refine c_cut (fun e a w => e = .normal ∧ ∃ (ρ : Nat → Value) (σ : St), a = fr 37 (updL ρ [(0, (Sl alist_0 list_0 clist_0)), (3, (I s2)), (33, (B o5))]) ∧ w = σ.w ∧ Hp S0 σ0 σ [Ch.ro 0 (Sl alist_0 list_0 clist_0) list_0]) ?_ ?_
   ·clear h'
    rename _ = some o5 => h
    obtain ⟨x6, hx7, h'⟩ := bind_some h
    clear h
    have h := h'; clear h'
    obtain ⟨b9, o10, hi8, -⟩ := (H.ro 0 rfl).ix hx7
    obtain ⟨_, ⟨_, _, rfl, rfl, ⟨_, _, rfl, ⟨_, rfl, hR15⟩, rfl⟩⟩, hl11, hc12⟩ := ((H.ro 0 rfl).at hx7 hi8).cells
    obtain ⟨a13, c14, rfl⟩ := hR15.isSl
    replace H := H.add (d := Ch.ro 0 (Sl a13 x6.2.1 c14) x6.2.1) hR15 (fun _ h => h)
    clear hR15
    obtain ⟨r16, hx17, h'⟩ := bind_some h
    clear h
    have h := h'; clear h'
    have hc18 := c_spec_validItem (ax_0_1 := a13) (cx_0_1 := c14) hx17
    rcases Bool.eq_false_or_eq_true (!r16) with hb19 | hb19
    ·replace h := bif_t hb19 h
     have Hs := H
     refine rg2 (σ := σ3) (Nm := Unit) 21 [4] [[false], [true]] [[(0, 0)], [(0, 0)], [(0, 0)], [(0, 0)], [(0, 1)], [(1, 1)], [(1, 1)], [(1, 1)], [(1, 1)], [(1, 1)], [(1, 1)], [(1, 1)], [(1, 1)], [(1, 1)], [(1, 1)], [(1, 1)], [(1, 1)], [(1, 1)], [(1, 1)], [(1, 1)], [(1, 1)]] 1 [fun _ => fun σm => Hp S0 σ0 σm [Ch.ro 0 (Sl a13 x6.2.1 c14) x6.2.1, Ch.ro 0 (Sl alist_0 list_0 clist_0) list_0] ∧ Md (cov []) σ3 σm, fun _ => fun σm => Hp S0 σ0 σm [Ch.ro 0 (Sl a13 x6.2.1 c14) x6.2.1, Ch.ro 0 (Sl alist_0 list_0 clist_0) list_0] ∧ Md (cov []) σ3 σm] [fun _ => (Sl alist_0 list_0 clist_0), fun _ => (I s2), fun _ => (pt b9 o10), fun _ => (.agg #[(I x6.1), (Sl a13 x6.2.1 c14), (I x6.2.2)]), fun _ => (B r16), fun _ => (B (!r16)), fun _ => (B (!r16)), fun _ => undef, fun _ => undef, fun _ => undef, fun _ => undef, fun _ => undef, fun _ => undef, fun _ => undef, fun _ => undef, fun _ => undef, fun _ => undef, fun _ => undef, fun _ => undef, fun _ => undef, fun _ => undef] () (by kernel_rfl) (by kernel_rfl) ?_ ?_ ?_
     ·intro σm m0
      exact ⟨H.grow (m0.mono fun _ h => h.elim), m0⟩
     ·refine ac rfl (by
        intro k _nm ρ σm hJ hoff hdep
        have e0 := look_off (N := 37) (hoff 0 rfl) rfl
        exact dp_v (v := (Sl alist_0 list_0 clist_0)) wn (rv_move e0) rfl hJ) ?_
      refine ac rfl (by
        intro k _nm ρ σm hJ hoff hdep
        have e3 := look_off (N := 37) (hoff 3 rfl) rfl
        exact dp_v (v := (I s2)) wn (rv_move e3) rfl hJ) ?_
      refine ac rfl (by
        intro k _nm ρ σm hJ hoff hdep
        have e10 := hdep 0 rfl rfl 10 rfl
        have e11 := hdep 1 rfl rfl 11 rfl
        exact dp_v (v := (pt b9 o10)) wn (rv_ix Try.underlying23 ti26 e10 e11 hi8) rfl hJ) ?_
      refine all_cons (by
        refine ⟨?_, ?_⟩
        ·intro _nm ρ σm hJ hoff hdep
         have e12 := hdep 2 rfl rfl 12 rfl
         obtain ⟨H, m⟩ := id hJ
         replace hc12 := fun j hj => (Hs.ro 1 rfl).hmd hx7 hi8 (k := j) (Nat.lt_of_lt_of_eq hj hl11) (hc12 j hj) m
         exact dp_v (v := (.agg #[(I x6.1), (Sl a13 x6.2.1 c14), (I x6.2.2)])) wn (rv_load Try.underlying26 rfl ti26 e12 hl11 hc12) rfl hJ
        trivial) ?_
      refine all_cons (by
        refine ⟨?_, ?_⟩
        ·intro _nm ρ σm hJ hoff hdep
         have e13 : look 37 ρ 13 = (.agg #[(I x6.1), (Sl a13 x6.2.1 c14), (I x6.2.2)]) := hdep 3 rfl rfl 13 rfl
         obtain ⟨H, m⟩ := id hJ
         refine dp_cx wn (cx_call hc18 (ent_f hc18.fn (by show [look 37 ρ 13] = _; rw [e13])) hn0 (show Hp S0 σ0 _ ([Ch.ro 0 (Sl a13 x6.2.1 c14) x6.2.1] ++ [Ch.ro 0 (Sl a13 x6.2.1 c14) x6.2.1, Ch.ro 0 (Sl alist_0 list_0 clist_0) list_0]) from (H.sel' [0, 0, 1] rfl rfl))) ?_
         rintro _ σq ⟨_, ⟨rfl, rfl⟩, H2, m2⟩
         exact ⟨_, (), rfl, rfl, ⟨H2.sel' [0, 1] rfl rfl, m.comp0 (m2.mono (fun i h => by simp [cov, Ch.ro] at h))⟩, stab [0, 1, 2, 3] (by kernel_rfl) ⟨rfl, rfl, rfl, rfl, trivial⟩⟩
        trivial) ?_
      refine ac rfl (by
        intro k _nm ρ σm hJ hoff hdep
        have e14 := hdep 4 rfl rfl 14 rfl
        exact dp_v (v := (B (!r16))) wn (rv_not e14) rfl hJ) ?_
      refine ac rfl (by
        intro k _nm ρ σm hJ hoff hdep
        have e15 := hdep 5 rfl rfl 15 rfl
        exact dp_v (v := (B (!r16))) wn (rv_move e15) rfl hJ) ?_
      refine ac rfl (by
        intro k _nm ρ σm hJ hoff hdep
        have e16 := hdep 6 rfl rfl 16 rfl
        exact dp_skip (wanted_no rfl (yv_of rfl (e16.trans (congrArg B hb19)))) rfl hJ) ?_
      refine ac rfl (by
        intro k _nm ρ σm hJ hoff hdep
        have e16 := hdep 6 rfl rfl 16 rfl
        exact dp_skip (wanted_no rfl (yv_of rfl (e16.trans (congrArg B hb19)))) rfl hJ) ?_
      refine ac rfl (by
        intro k _nm ρ σm hJ hoff hdep
        have e16 := hdep 6 rfl rfl 16 rfl
        exact dp_skip (wanted_no rfl (yv_of rfl (e16.trans (congrArg B hb19)))) rfl hJ) ?_
      refine ac rfl (by
        intro k _nm ρ σm hJ hoff hdep
        have e19 := hdep 9 rfl rfl 19 rfl
        exact dp_skip (wanted_u rfl (yv_undef rfl e19)) rfl hJ) ?_
      refine ac rfl (by
        intro k _nm ρ σm hJ hoff hdep
        have e19 := hdep 9 rfl rfl 19 rfl
        exact dp_skip (wanted_u rfl (yv_undef rfl e19)) rfl hJ) ?_
      refine ac rfl (by
        intro k _nm ρ σm hJ hoff hdep
        have e19 := hdep 9 rfl rfl 19 rfl
        exact dp_skip (wanted_u rfl (yv_undef rfl e19)) rfl hJ) ?_
      refine ac rfl (by
        intro k _nm ρ σm hJ hoff hdep
        have e19 := hdep 9 rfl rfl 19 rfl
        exact dp_skip (wanted_u rfl (yv_undef rfl e19)) rfl hJ) ?_
      refine ac rfl (by
        intro k _nm ρ σm hJ hoff hdep
        have e19 := hdep 9 rfl rfl 19 rfl
        exact dp_skip (wanted_u rfl (yv_undef rfl e19)) rfl hJ) ?_
      refine ac rfl (by
        intro k _nm ρ σm hJ hoff hdep
        have e19 := hdep 9 rfl rfl 19 rfl
        exact dp_skip (wanted_u rfl (yv_undef rfl e19)) rfl hJ) ?_
      refine ac rfl (by
        intro k _nm ρ σm hJ hoff hdep
        have e19 := hdep 9 rfl rfl 19 rfl
        exact dp_skip (wanted_u rfl (yv_undef rfl e19)) rfl hJ) ?_
      refine ac rfl (by
        intro k _nm ρ σm hJ hoff hdep
        have e19 := hdep 9 rfl rfl 19 rfl
        exact dp_skip (wanted_u rfl (yv_undef rfl e19)) rfl hJ) ?_
      refine ac rfl (by
        intro k _nm ρ σm hJ hoff hdep
        have e19 := hdep 9 rfl rfl 19 rfl
        exact dp_skip (wanted_u rfl (yv_undef rfl e19)) rfl hJ) ?_
      refine ac rfl (by
        intro k _nm ρ σm hJ hoff hdep
        have e19 := hdep 9 rfl rfl 19 rfl
        exact dp_skip (wanted_u rfl (yv_undef rfl e19)) rfl hJ) ?_
      refine ac rfl (by
        intro k _nm ρ σm hJ hoff hdep
        have e19 := hdep 9 rfl rfl 19 rfl
        exact dp_skip (wanted_u rfl (yv_undef rfl e19)) rfl hJ) ?_
      exact all_nil
     ·intro _nm ρ σ20 hJ hoff hrel
      have e0 := look_off (N := 37) (hoff 0 rfl) rfl
      have e3 := look_off (N := 37) (hoff 3 rfl) rfl
      have e16 := hrel 6 rfl 16 rfl
      have e19 := hrel 9 rfl 19 rfl
      have e24 := hrel 14 rfl 24 rfl
      have e30 := hrel 20 rfl 30 rfl
      obtain ⟨H, -⟩ := (show Hp S0 σ0 σ20 [Ch.ro 0 (Sl a13 x6.2.1 c14) x6.2.1, Ch.ro 0 (Sl alist_0 list_0 clist_0) list_0] ∧ Md (cov []) σ3 σ20 from hJ)
      clear hJ Hs
      rw [fr_lookL (L := [(0, (Sl alist_0 list_0 clist_0)), (3, (I s2)), (16, (B (!r16))), (19, undef), (24, undef), (30, undef)]) ⟨e0, e3, e16, e19, e24, e30, trivial⟩]
      clear hoff hrel e0 e3 e16 e19 e24 e30
      refine st_skip_u rfl ?_
      refine st_skip (congrArg some hb19) ?_
      refine st (v := (B true)) (rv_pick_t (congrArg B hb19) rfl) ?_
      refine w_end ?_
      obtain rfl := Option.some.inj h
      exact ⟨rfl, _, σ20, fr_join ⟨rfl, rfl, rfl, trivial⟩, rfl, H.sel' [1] rfl rfl⟩
    ·replace h := bif_f hb19 h
     rcases Bool.eq_false_or_eq_true (decide (0 < s2)) with hb21 | hb21
     ·replace h := bif_t hb21 h
      obtain ⟨x22, hx23, h'⟩ := bind_some h
      clear h
      have h := h'; clear h'
      obtain ⟨b25, o26, hi24, -⟩ := (H.ro 1 rfl).ix hx23
      have hc27 := ((H.ro 1 rfl).at hx23 hi24).fst.int
      obtain ⟨x28, hx29, h'⟩ := bind_some h
      clear h
      have h := h'; clear h'
      obtain ⟨b31, o32, hi30, -⟩ := (H.ro 1 rfl).ix hx29
      have hc33 := ((H.ro 1 rfl).at hx29 hi30).fst.int
      have Hs := H
      refine rg2 (σ := σ3) (Nm := Unit) 21 [4] [[false], [true]] [[(0, 0)], [(0, 0)], [(0, 0)], [(0, 0)], [(0, 1)], [(1, 1)], [(1, 1)], [(1, 1)], [(1, 1)], [(1, 1)], [(1, 1)], [(1, 1)], [(1, 1)], [(1, 1)], [(1, 1)], [(1, 1)], [(1, 1)], [(1, 1)], [(1, 1)], [(1, 1)], [(1, 1)]] 1 [fun _ => fun σm => Hp S0 σ0 σm [Ch.ro 0 (Sl a13 x6.2.1 c14) x6.2.1, Ch.ro 0 (Sl alist_0 list_0 clist_0) list_0] ∧ Md (cov []) σ3 σm, fun _ => fun σm => Hp S0 σ0 σm [Ch.ro 0 (Sl a13 x6.2.1 c14) x6.2.1, Ch.ro 0 (Sl alist_0 list_0 clist_0) list_0] ∧ Md (cov []) σ3 σm] [fun _ => (Sl alist_0 list_0 clist_0), fun _ => (I s2), fun _ => (pt b9 o10), fun _ => (.agg #[(I x6.1), (Sl a13 x6.2.1 c14), (I x6.2.2)]), fun _ => (B r16), fun _ => (B (!r16)), fun _ => (B (!r16)), fun _ => (I s2), fun _ => (B (decide (0 < s2))), fun _ => (B (decide (0 < s2))), fun _ => (Sl alist_0 list_0 clist_0), fun _ => (I s2), fun _ => (pt b25 o26), fun _ => (pt b25 (o26 + 0)), fun _ => (I x22.1), fun _ => (Sl alist_0 list_0 clist_0), fun _ => (I s2), fun _ => (I (w64 (s2 - 1))), fun _ => (pt b31 o32), fun _ => (pt b31 (o32 + 0)), fun _ => (I x28.1)] () (by kernel_rfl) (by kernel_rfl) ?_ ?_ ?_
      ·intro σm m0
       exact ⟨H.grow (m0.mono fun _ h => h.elim), m0⟩
      ·refine ac rfl (by
         intro k _nm ρ σm hJ hoff hdep
         have e0 := look_off (N := 37) (hoff 0 rfl) rfl
         exact dp_v (v := (Sl alist_0 list_0 clist_0)) wn (rv_move e0) rfl hJ) ?_
       refine ac rfl (by
         intro k _nm ρ σm hJ hoff hdep
         have e3 := look_off (N := 37) (hoff 3 rfl) rfl
         exact dp_v (v := (I s2)) wn (rv_move e3) rfl hJ) ?_
       refine ac rfl (by
         intro k _nm ρ σm hJ hoff hdep
         have e10 := hdep 0 rfl rfl 10 rfl
         have e11 := hdep 1 rfl rfl 11 rfl
         exact dp_v (v := (pt b9 o10)) wn (rv_ix Try.underlying23 ti26 e10 e11 hi8) rfl hJ) ?_
       refine all_cons (by
         refine ⟨?_, ?_⟩
         ·intro _nm ρ σm hJ hoff hdep
          have e12 := hdep 2 rfl rfl 12 rfl
          obtain ⟨H, m⟩ := id hJ
          replace hc12 := fun j hj => (Hs.ro 1 rfl).hmd hx7 hi8 (k := j) (Nat.lt_of_lt_of_eq hj hl11) (hc12 j hj) m
          exact dp_v (v := (.agg #[(I x6.1), (Sl a13 x6.2.1 c14), (I x6.2.2)])) wn (rv_load Try.underlying26 rfl ti26 e12 hl11 hc12) rfl hJ
         trivial) ?_
       refine all_cons (by
         refine ⟨?_, ?_⟩
         ·intro _nm ρ σm hJ hoff hdep
          have e13 : look 37 ρ 13 = (.agg #[(I x6.1), (Sl a13 x6.2.1 c14), (I x6.2.2)]) := hdep 3 rfl rfl 13 rfl
          obtain ⟨H, m⟩ := id hJ
          refine dp_cx wn (cx_call hc18 (ent_f hc18.fn (by show [look 37 ρ 13] = _; rw [e13])) hn0 (show Hp S0 σ0 _ ([Ch.ro 0 (Sl a13 x6.2.1 c14) x6.2.1] ++ [Ch.ro 0 (Sl a13 x6.2.1 c14) x6.2.1, Ch.ro 0 (Sl alist_0 list_0 clist_0) list_0]) from (H.sel' [0, 0, 1] rfl rfl))) ?_
          rintro _ σq ⟨_, ⟨rfl, rfl⟩, H2, m2⟩
          exact ⟨_, (), rfl, rfl, ⟨H2.sel' [0, 1] rfl rfl, m.comp0 (m2.mono (fun i h => by simp [cov, Ch.ro] at h))⟩, stab [0, 1, 2, 3] (by kernel_rfl) ⟨rfl, rfl, rfl, rfl, trivial⟩⟩
         trivial) ?_
       refine ac rfl (by
         intro k _nm ρ σm hJ hoff hdep
         have e14 := hdep 4 rfl rfl 14 rfl
         exact dp_v (v := (B (!r16))) wn (rv_not e14) rfl hJ) ?_
       refine ac rfl (by
         intro k _nm ρ σm hJ hoff hdep
         have e15 := hdep 5 rfl rfl 15 rfl
         exact dp_v (v := (B (!r16))) wn (rv_move e15) rfl hJ) ?_
       refine ac rfl (by
         intro k _nm ρ σm hJ hoff hdep
         have e3 := look_off (N := 37) (hoff 3 rfl) rfl
         have e16 := hdep 6 rfl rfl 16 rfl
         exact dp_v (v := (I s2)) (wanted_yes rfl (yv_of rfl (e16.trans (congrArg B hb19)))) (rv_move e3) rfl hJ) ?_
       refine ac rfl (by
         intro k _nm ρ σm hJ hoff hdep
         have e17 := hdep 7 rfl rfl 17 rfl
         have e16 := hdep 6 rfl rfl 16 rfl
         exact dp_v (v := (B (decide (0 < s2)))) (wanted_yes rfl (yv_of rfl (e16.trans (congrArg B hb19)))) (rv_gtr (a := s2) (b := 0) e17 rfl) rfl hJ) ?_
       refine ac rfl (by
         intro k _nm ρ σm hJ hoff hdep
         have e18 := hdep 8 rfl rfl 18 rfl
         have e16 := hdep 6 rfl rfl 16 rfl
         exact dp_v (v := (B (decide (0 < s2)))) (wanted_yes rfl (yv_of rfl (e16.trans (congrArg B hb19)))) (rv_move e18) rfl hJ) ?_
       refine ac rfl (by
         intro k _nm ρ σm hJ hoff hdep
         have e0 := look_off (N := 37) (hoff 0 rfl) rfl
         have e19 := hdep 9 rfl rfl 19 rfl
         exact dp_v (v := (Sl alist_0 list_0 clist_0)) (wanted_yes rfl (yv_of rfl (e19.trans (congrArg B hb21)))) (rv_move e0) rfl hJ) ?_
       refine ac rfl (by
         intro k _nm ρ σm hJ hoff hdep
         have e3 := look_off (N := 37) (hoff 3 rfl) rfl
         have e19 := hdep 9 rfl rfl 19 rfl
         exact dp_v (v := (I s2)) (wanted_yes rfl (yv_of rfl (e19.trans (congrArg B hb21)))) (rv_move e3) rfl hJ) ?_
       refine ac rfl (by
         intro k _nm ρ σm hJ hoff hdep
         have e20 := hdep 10 rfl rfl 20 rfl
         have e21 := hdep 11 rfl rfl 21 rfl
         have e19 := hdep 9 rfl rfl 19 rfl
         exact dp_v (v := (pt b25 o26)) (wanted_yes rfl (yv_of rfl (e19.trans (congrArg B hb21)))) (rv_ix Try.underlying23 ti26 e20 e21 hi24) rfl hJ) ?_
       refine ac rfl (by
         intro k _nm ρ σm hJ hoff hdep
         have e22 := hdep 12 rfl rfl 22 rfl
         have e19 := hdep 9 rfl rfl 19 rfl
         exact dp_v (v := (pt b25 (o26 + 0))) (wanted_yes rfl (yv_of rfl (e19.trans (congrArg B hb21)))) (rv_fieldAddr (off := 0) (ft := 3) Try.underlying26 rfl ti3 rfl e22) rfl hJ) ?_
       refine all_cons (by
         refine ⟨?_, ?_⟩
         ·intro _nm ρ σm hJ hoff hdep
          have e23 := hdep 13 rfl rfl 23 rfl
          have e19 := hdep 9 rfl rfl 19 rfl
          obtain ⟨H, m⟩ := id hJ
          replace hc27 := (Hs.ro 1 rfl).hmd hx23 hi24 (k := 0) (by decide) hc27 m
          exact dp_v (v := (I x22.1)) (wanted_yes rfl (yv_of rfl (e19.trans (congrArg B hb21)))) (rv_load1 Try.underlying3 rfl e23 hc27) rfl hJ
         trivial) ?_
       refine ac rfl (by
         intro k _nm ρ σm hJ hoff hdep
         have e0 := look_off (N := 37) (hoff 0 rfl) rfl
         have e19 := hdep 9 rfl rfl 19 rfl
         exact dp_v (v := (Sl alist_0 list_0 clist_0)) (wanted_yes rfl (yv_of rfl (e19.trans (congrArg B hb21)))) (rv_move e0) rfl hJ) ?_
       refine ac rfl (by
         intro k _nm ρ σm hJ hoff hdep
         have e3 := look_off (N := 37) (hoff 3 rfl) rfl
         have e19 := hdep 9 rfl rfl 19 rfl
         exact dp_v (v := (I s2)) (wanted_yes rfl (yv_of rfl (e19.trans (congrArg B hb21)))) (rv_move e3) rfl hJ) ?_
       refine ac rfl (by
         intro k _nm ρ σm hJ hoff hdep
         have e26 := hdep 16 rfl rfl 26 rfl
         have e19 := hdep 9 rfl rfl 19 rfl
         exact dp_v (v := (I (w64 (s2 - 1)))) (wanted_yes rfl (yv_of rfl (e19.trans (congrArg B hb21)))) (rv_sub (a := s2) (b := 1) e26 rfl) rfl hJ) ?_
       refine ac rfl (by
         intro k _nm ρ σm hJ hoff hdep
         have e25 := hdep 15 rfl rfl 25 rfl
         have e27 := hdep 17 rfl rfl 27 rfl
         have e19 := hdep 9 rfl rfl 19 rfl
         exact dp_v (v := (pt b31 o32)) (wanted_yes rfl (yv_of rfl (e19.trans (congrArg B hb21)))) (rv_ix Try.underlying23 ti26 e25 e27 hi30) rfl hJ) ?_
       refine ac rfl (by
         intro k _nm ρ σm hJ hoff hdep
         have e28 := hdep 18 rfl rfl 28 rfl
         have e19 := hdep 9 rfl rfl 19 rfl
         exact dp_v (v := (pt b31 (o32 + 0))) (wanted_yes rfl (yv_of rfl (e19.trans (congrArg B hb21)))) (rv_fieldAddr (off := 0) (ft := 3) Try.underlying26 rfl ti3 rfl e28) rfl hJ) ?_
       refine all_cons (by
         refine ⟨?_, ?_⟩
         ·intro _nm ρ σm hJ hoff hdep
          have e29 := hdep 19 rfl rfl 29 rfl
          have e19 := hdep 9 rfl rfl 19 rfl
          obtain ⟨H, m⟩ := id hJ
          replace hc33 := (Hs.ro 1 rfl).hmd hx29 hi30 (k := 0) (by decide) hc33 m
          exact dp_v (v := (I x28.1)) (wanted_yes rfl (yv_of rfl (e19.trans (congrArg B hb21)))) (rv_load1 Try.underlying3 rfl e29 hc33) rfl hJ
         trivial) ?_
       exact all_nil
      ·intro _nm ρ σ34 hJ hoff hrel
       have e0 := look_off (N := 37) (hoff 0 rfl) rfl
       have e3 := look_off (N := 37) (hoff 3 rfl) rfl
       have e16 := hrel 6 rfl 16 rfl
       have e19 := hrel 9 rfl 19 rfl
       have e24 := hrel 14 rfl 24 rfl
       have e30 := hrel 20 rfl 30 rfl
       obtain ⟨H, -⟩ := (show Hp S0 σ0 σ34 [Ch.ro 0 (Sl a13 x6.2.1 c14) x6.2.1, Ch.ro 0 (Sl alist_0 list_0 clist_0) list_0] ∧ Md (cov []) σ3 σ34 from hJ)
       clear hJ Hs
       rw [fr_lookL (L := [(0, (Sl alist_0 list_0 clist_0)), (3, (I s2)), (16, (B (!r16))), (19, (B (decide (0 < s2)))), (24, (I x22.1)), (30, (I x28.1))]) ⟨e0, e3, e16, e19, e24, e30, trivial⟩]
       clear hoff hrel e0 e3 e16 e19 e24 e30
       refine st_g (v := (B (decide (x22.1 ≤ x28.1)))) (congrArg some hb21) (rv_leq (a := x22.1) (b := x28.1) rfl rfl) ?_
       refine st_g (v := (B (decide (x22.1 ≤ x28.1)))) (congrArg some hb19) (rv_pick_t (congrArg B hb21) rfl) ?_
       refine st (v := (B (decide (x22.1 ≤ x28.1)))) (rv_pick_f (congrArg B hb19) rfl) ?_
       refine w_end ?_
       obtain rfl := Option.some.inj h
       exact ⟨rfl, _, σ34, fr_join ⟨rfl, rfl, rfl, trivial⟩, rfl, H.sel' [1] rfl rfl⟩
     ·replace h := bif_f hb21 h
      have Hs := H
      refine rg2 (σ := σ3) (Nm := Unit) 21 [4] [[false], [true]] [[(0, 0)], [(0, 0)], [(0, 0)], [(0, 0)], [(0, 1)], [(1, 1)], [(1, 1)], [(1, 1)], [(1, 1)], [(1, 1)], [(1, 1)], [(1, 1)], [(1, 1)], [(1, 1)], [(1, 1)], [(1, 1)], [(1, 1)], [(1, 1)], [(1, 1)], [(1, 1)], [(1, 1)]] 1 [fun _ => fun σm => Hp S0 σ0 σm [Ch.ro 0 (Sl a13 x6.2.1 c14) x6.2.1, Ch.ro 0 (Sl alist_0 list_0 clist_0) list_0] ∧ Md (cov []) σ3 σm, fun _ => fun σm => Hp S0 σ0 σm [Ch.ro 0 (Sl a13 x6.2.1 c14) x6.2.1, Ch.ro 0 (Sl alist_0 list_0 clist_0) list_0] ∧ Md (cov []) σ3 σm] [fun _ => (Sl alist_0 list_0 clist_0), fun _ => (I s2), fun _ => (pt b9 o10), fun _ => (.agg #[(I x6.1), (Sl a13 x6.2.1 c14), (I x6.2.2)]), fun _ => (B r16), fun _ => (B (!r16)), fun _ => (B (!r16)), fun _ => (I s2), fun _ => (B (decide (0 < s2))), fun _ => (B (decide (0 < s2))), fun _ => undef, fun _ => undef, fun _ => undef, fun _ => undef, fun _ => undef, fun _ => undef, fun _ => undef, fun _ => undef, fun _ => undef, fun _ => undef, fun _ => undef] () (by kernel_rfl) (by kernel_rfl) ?_ ?_ ?_
      ·intro σm m0
       exact ⟨H.grow (m0.mono fun _ h => h.elim), m0⟩
      ·refine ac rfl (by
         intro k _nm ρ σm hJ hoff hdep
         have e0 := look_off (N := 37) (hoff 0 rfl) rfl
         exact dp_v (v := (Sl alist_0 list_0 clist_0)) wn (rv_move e0) rfl hJ) ?_
       refine ac rfl (by
         intro k _nm ρ σm hJ hoff hdep
         have e3 := look_off (N := 37) (hoff 3 rfl) rfl
         exact dp_v (v := (I s2)) wn (rv_move e3) rfl hJ) ?_
       refine ac rfl (by
         intro k _nm ρ σm hJ hoff hdep
         have e10 := hdep 0 rfl rfl 10 rfl
         have e11 := hdep 1 rfl rfl 11 rfl
         exact dp_v (v := (pt b9 o10)) wn (rv_ix Try.underlying23 ti26 e10 e11 hi8) rfl hJ) ?_
       refine all_cons (by
         refine ⟨?_, ?_⟩
         ·intro _nm ρ σm hJ hoff hdep
          have e12 := hdep 2 rfl rfl 12 rfl
          obtain ⟨H, m⟩ := id hJ
          replace hc12 := fun j hj => (Hs.ro 1 rfl).hmd hx7 hi8 (k := j) (Nat.lt_of_lt_of_eq hj hl11) (hc12 j hj) m
          exact dp_v (v := (.agg #[(I x6.1), (Sl a13 x6.2.1 c14), (I x6.2.2)])) wn (rv_load Try.underlying26 rfl ti26 e12 hl11 hc12) rfl hJ
         trivial) ?_
       refine all_cons (by
         refine ⟨?_, ?_⟩
         ·intro _nm ρ σm hJ hoff hdep
          have e13 : look 37 ρ 13 = (.agg #[(I x6.1), (Sl a13 x6.2.1 c14), (I x6.2.2)]) := hdep 3 rfl rfl 13 rfl
          obtain ⟨H, m⟩ := id hJ
          refine dp_cx wn (cx_call hc18 (ent_f hc18.fn (by show [look 37 ρ 13] = _; rw [e13])) hn0 (show Hp S0 σ0 _ ([Ch.ro 0 (Sl a13 x6.2.1 c14) x6.2.1] ++ [Ch.ro 0 (Sl a13 x6.2.1 c14) x6.2.1, Ch.ro 0 (Sl alist_0 list_0 clist_0) list_0]) from (H.sel' [0, 0, 1] rfl rfl))) ?_
          rintro _ σq ⟨_, ⟨rfl, rfl⟩, H2, m2⟩
          exact ⟨_, (), rfl, rfl, ⟨H2.sel' [0, 1] rfl rfl, m.comp0 (m2.mono (fun i h => by simp [cov, Ch.ro] at h))⟩, stab [0, 1, 2, 3] (by kernel_rfl) ⟨rfl, rfl, rfl, rfl, trivial⟩⟩
         trivial) ?_
       refine ac rfl (by
         intro k _nm ρ σm hJ hoff hdep
         have e14 := hdep 4 rfl rfl 14 rfl
         exact dp_v (v := (B (!r16))) wn (rv_not e14) rfl hJ) ?_
       refine ac rfl (by
         intro k _nm ρ σm hJ hoff hdep
         have e15 := hdep 5 rfl rfl 15 rfl
         exact dp_v (v := (B (!r16))) wn (rv_move e15) rfl hJ) ?_
       refine ac rfl (by
         intro k _nm ρ σm hJ hoff hdep
         have e3 := look_off (N := 37) (hoff 3 rfl) rfl
         have e16 := hdep 6 rfl rfl 16 rfl
         exact dp_v (v := (I s2)) (wanted_yes rfl (yv_of rfl (e16.trans (congrArg B hb19)))) (rv_move e3) rfl hJ) ?_
       refine ac rfl (by
         intro k _nm ρ σm hJ hoff hdep
         have e17 := hdep 7 rfl rfl 17 rfl
         have e16 := hdep 6 rfl rfl 16 rfl
         exact dp_v (v := (B (decide (0 < s2)))) (wanted_yes rfl (yv_of rfl (e16.trans (congrArg B hb19)))) (rv_gtr (a := s2) (b := 0) e17 rfl) rfl hJ) ?_
       refine ac rfl (by
         intro k _nm ρ σm hJ hoff hdep
         have e18 := hdep 8 rfl rfl 18 rfl
         have e16 := hdep 6 rfl rfl 16 rfl
         exact dp_v (v := (B (decide (0 < s2)))) (wanted_yes rfl (yv_of rfl (e16.trans (congrArg B hb19)))) (rv_move e18) rfl hJ) ?_
       refine ac rfl (by
         intro k _nm ρ σm hJ hoff hdep
         have e19 := hdep 9 rfl rfl 19 rfl
         exact dp_skip (wanted_no rfl (yv_of rfl (e19.trans (congrArg B hb21)))) rfl hJ) ?_
       refine ac rfl (by
         intro k _nm ρ σm hJ hoff hdep
         have e19 := hdep 9 rfl rfl 19 rfl
         exact dp_skip (wanted_no rfl (yv_of rfl (e19.trans (congrArg B hb21)))) rfl hJ) ?_
       refine ac rfl (by
         intro k _nm ρ σm hJ hoff hdep
         have e19 := hdep 9 rfl rfl 19 rfl
         exact dp_skip (wanted_no rfl (yv_of rfl (e19.trans (congrArg B hb21)))) rfl hJ) ?_
       refine ac rfl (by
         intro k _nm ρ σm hJ hoff hdep
         have e19 := hdep 9 rfl rfl 19 rfl
         exact dp_skip (wanted_no rfl (yv_of rfl (e19.trans (congrArg B hb21)))) rfl hJ) ?_
       refine ac rfl (by
         intro k _nm ρ σm hJ hoff hdep
         have e19 := hdep 9 rfl rfl 19 rfl
         exact dp_skip (wanted_no rfl (yv_of rfl (e19.trans (congrArg B hb21)))) rfl hJ) ?_
       refine ac rfl (by
         intro k _nm ρ σm hJ hoff hdep
         have e19 := hdep 9 rfl rfl 19 rfl
         exact dp_skip (wanted_no rfl (yv_of rfl (e19.trans (congrArg B hb21)))) rfl hJ) ?_
       refine ac rfl (by
         intro k _nm ρ σm hJ hoff hdep
         have e19 := hdep 9 rfl rfl 19 rfl
         exact dp_skip (wanted_no rfl (yv_of rfl (e19.trans (congrArg B hb21)))) rfl hJ) ?_
       refine ac rfl (by
         intro k _nm ρ σm hJ hoff hdep
         have e19 := hdep 9 rfl rfl 19 rfl
         exact dp_skip (wanted_no rfl (yv_of rfl (e19.trans (congrArg B hb21)))) rfl hJ) ?_
       refine ac rfl (by
         intro k _nm ρ σm hJ hoff hdep
         have e19 := hdep 9 rfl rfl 19 rfl
         exact dp_skip (wanted_no rfl (yv_of rfl (e19.trans (congrArg B hb21)))) rfl hJ) ?_
       refine ac rfl (by
         intro k _nm ρ σm hJ hoff hdep
         have e19 := hdep 9 rfl rfl 19 rfl
         exact dp_skip (wanted_no rfl (yv_of rfl (e19.trans (congrArg B hb21)))) rfl hJ) ?_
       refine ac rfl (by
         intro k _nm ρ σm hJ hoff hdep
         have e19 := hdep 9 rfl rfl 19 rfl
         exact dp_skip (wanted_no rfl (yv_of rfl (e19.trans (congrArg B hb21)))) rfl hJ) ?_
       exact all_nil
      ·intro _nm ρ σ35 hJ hoff hrel
       have e0 := look_off (N := 37) (hoff 0 rfl) rfl
       have e3 := look_off (N := 37) (hoff 3 rfl) rfl
       have e16 := hrel 6 rfl 16 rfl
       have e19 := hrel 9 rfl 19 rfl
       have e24 := hrel 14 rfl 24 rfl
       have e30 := hrel 20 rfl 30 rfl
       obtain ⟨H, -⟩ := (show Hp S0 σ0 σ35 [Ch.ro 0 (Sl a13 x6.2.1 c14) x6.2.1, Ch.ro 0 (Sl alist_0 list_0 clist_0) list_0] ∧ Md (cov []) σ3 σ35 from hJ)
       clear hJ Hs
       rw [fr_lookL (L := [(0, (Sl alist_0 list_0 clist_0)), (3, (I s2)), (16, (B (!r16))), (19, (B (decide (0 < s2)))), (24, undef), (30, undef)]) ⟨e0, e3, e16, e19, e24, e30, trivial⟩]
       clear hoff hrel e0 e3 e16 e19 e24 e30
       refine st_skip (congrArg some hb21) ?_
       refine st_g (v := (B false)) (congrArg some hb19) (rv_pick_f (congrArg B hb21) rfl) ?_
       refine st (v := (B false)) (rv_pick_f (congrArg B hb19) rfl) ?_
       refine w_end ?_
       obtain rfl := Option.some.inj h
       exact ⟨rfl, _, σ35, fr_join ⟨rfl, rfl, rfl, trivial⟩, rfl, H.sel' [1] rfl rfl⟩
   ·clear hj
    have h := h'
    clear h' H
    rintro e a w ⟨rfl, ρ, σ36, rfl, rfl, H⟩
    refine q_then ?_
    refine cd_cond o5 rfl (fun hb37 => ?_) (fun hb37 => ?_)
    ·replace h := bif_t hb37 h
     refine c_seq ?_
     refine rg ?_
     refine st (v := (B false)) (rv_assign rfl) ?_
     refine w_end ?_
     refine q_then ?_
     refine c_ret ?_
     refine q_blk_r ?_
     refine q_then_r ?_
     refine q_then_r ?_
     refine q_blk_r ?_
     obtain rfl := Option.some.inj h
     obtain rfl := hres _ rfl
     exact .inr (⟨_, rfl, rfl, _, σ36, fr_join ⟨rfl, trivial⟩, rfl, H.sel' [] rfl rfl⟩)
    ·replace h := bif_f hb37 h
     refine c_skip ?_
     refine q_blk ?_
     refine q_then ?_
     refine rg ?_
     refine st (v := (I s2)) (rv_move rfl) ?_
     refine st (v := (I (w64 (s2 + 1)))) (rv_add (a := s2) (b := 1) rfl rfl) ?_
     refine st (v := (I (w64 (s2 + 1)))) (rv_assign rfl) ?_
     refine w_end ?_
     refine q_then ?_
     obtain rfl := Option.some.inj h
     exact ⟨_, rfl, _, σ36, fr_join ⟨rfl, rfl, trivial⟩, rfl, H.sel' [0] rfl rfl⟩
  ·replace h := bif_f hb4 h
   refine c_exit ?_
   refine q_then_x ?_
   refine q_then_x ?_
   refine q_blk_hit ?_
   obtain rfl := Option.some.inj h
   obtain rfl := hres _ rfl
   exact .inl ⟨_, rfl, rfl, _, σ3, fr_join ⟨rfl, trivial⟩, rfl, H.sel' [0] rfl rfl⟩
 ·clear hj
  have h := h'
  clear h' H
  rintro e a w (⟨t38, rfl, rfl, ρ, σ39, rfl, rfl, H⟩ | ⟨t40, rfl, rfl, ρ, σ41, rfl, rfl, H⟩)
  ·replace h := selim_l h
   refine q_then ?_
   refine c_seq ?_
   refine rg ?_
   refine st (v := (Sl alist_0 list_0 clist_0)) (rv_move rfl) ?_
   refine st (v := (I (list_0.length : Int))) (rv_len Try.underlying23 rfl) ?_
   refine st (v := (B (decide ((list_0.length : Int) ≤ 16)))) (rv_leq (a := (list_0.length : Int)) (b := 16) rfl rfl) ?_
   refine st (v := (B (decide ((list_0.length : Int) ≤ 16)))) (rv_assign rfl) ?_
   refine w_end ?_
   refine q_then ?_
   refine c_ret ?_
   obtain rfl := Option.some.inj h
   exact fin_ret (v := (B (decide ((list_0.length : Int) ≤ 16)))) (results_ok Try.results52 (res_tmp (v := (B (decide ((list_0.length : Int) ≤ 16)))) rfl res_nil) rfl) ⟨rfl, rfl⟩ (H.sel' [] rfl rfl)
  ·replace h := selim_r h
   refine q_then_r ?_
   obtain rfl := Option.some.inj h
   exact fin_ret (v := (B t40)) (results_ok Try.results52 (res_tmp (v := (B t40)) rfl res_nil) rfl) ⟨rfl, rfl⟩ (H.sel' [] rfl rfl)

theorem c_spec_copyInts {list_0 : List Int} {alist_0 : Option Addr} {clist_0 : Nat} {r : (List Int)} (h : M.spec_copyInts list_0 = some r) :
    Cal2 Try.prog 66 [(Sl alist_0 list_0 clist_0)] [Ch.ro 0 (Sl alist_0 list_0 clist_0) list_0] (fun n0 v L => ∃ (az1 : Option Addr), ∃ (cz2 : Nat), v = (Sl az1 r cz2) ∧ L = [Ch.own n0 n0 (Sl az1 r cz2) r]) := by
 refine cal2 (n := 6) Try.func66 rfl rfl rfl rfl ?_
 intro S0 σ0 n0 hn0 H
 unfold M.spec_copyInts at h
 refine c_seq ?_
 refine rg ?_
 refine st (v := (.slice none 0 0)) (rv_assign rfl) ?_
 refine w_end ?_
 refine q_then ?_
 refine c_seq ?_
 refine rg ?_
 refine st_ex (ex_buildSlice (el := n0) (xs := ([] : List Int)) (ps := []) (cs := []) H hn0 Try.underlying24 ti3 rfl rfl (by kernel_rfl) (.nil) rfl) wn ?_
 rintro _ σ2 ⟨b1, rfl, H, -⟩
 refine st (v := (Sl alist_0 list_0 clist_0)) (rv_move rfl) ?_
 obtain ⟨xs3, hx4, h'⟩ := bind_some h
 clear h
 have h := h'; clear h'
 refine st_ex (ex_append H (i := 0) rfl Try.underlying24 Try.underlying24 ti3 rfl rfl (by decide) ((H.ro 1 rfl).rd.sc) hx4 hn0 rfl rfl) wn ?_
 rintro _ σ7 ⟨a5, c6, rfl, H, -⟩
 refine st (v := (Sl a5 xs3 c6)) (rv_assign rfl) ?_
 refine w_end ?_
 refine q_then ?_
 refine c_ret ?_
 obtain rfl := Option.some.inj h
 exact fin_ret (v := (Sl a5 xs3 c6)) (results_ok Try.results66 (res_tmp (v := (Sl a5 xs3 c6)) rfl res_nil) rfl) ⟨a5, c6, rfl, rfl⟩ (H.sel' [0] rfl rfl)

theorem c_spec_BoundsOf {list_0 : List (Int × (List Int) × Int)} {alist_0 : Option Addr} {clist_0 : Nat} {r : (List Int) × (List Int) × Bool} (h : M.spec_BoundsOf list_0 = some r) :
    Cal2 Try.prog 41 [(Sl alist_0 list_0 clist_0)] [Ch.ro 0 (Sl alist_0 list_0 clist_0) list_0] (fun n0 v L => ∃ (az1 : Option Addr), ∃ (cz2 : Nat), ∃ (az3 : Option Addr), ∃ (cz4 : Nat), v = (.tuple #[(Sl az1 r.1 cz2), (Sl az3 r.2.1 cz4), (B r.2.2)]) ∧ L = [Ch.own n0 n0 (Sl az1 r.1 cz2) r.1, Ch.own n0 n0 (Sl az3 r.2.1 cz4) r.2.1]) := by
 refine cal2 (n := 71) Try.func41 rfl rfl rfl rfl ?_
 intro S0 σ0 n0 hn0 H
 unfold M.spec_BoundsOf at h
 refine c_seq ?_
 refine rg ?_
 refine st (v := (.slice none 0 0)) (rv_assign rfl) ?_
 refine st (v := (.slice none 0 0)) (rv_assign rfl) ?_
 refine st (v := (B false)) (rv_assign rfl) ?_
 refine w_end ?_
 refine q_then ?_
 refine c_seq ?_
 refine c_seq ?_
 obtain ⟨o1, hj, h'⟩ := bind_some h
 clear h
 refine c_cut (fun e a w => e = .normal ∧ ∃ (ρ : Nat → Value) (σ : St), a = fr 71 (updL ρ [(0, (Sl alist_0 list_0 clist_0)), (16, (B o1))]) ∧ w = σ.w ∧ Hp S0 σ0 σ [Ch.ro 0 (Sl alist_0 list_0 clist_0) list_0]) ?_ ?_
 ·clear h'
  rename _ = some o1 => h
  refine rg ?_
  refine st (v := (Sl alist_0 list_0 clist_0)) (rv_move rfl) ?_
  obtain ⟨r2, hx3, h'⟩ := bind_some h
  clear h
  have h := h'; clear h'
  have hc4 := c_spec_validStore (alist_0 := alist_0) (clist_0 := clist_0) hx3
  refine st_call (cx_call hc4 (ent_f hc4.fn rfl) hn0 (show Hp S0 σ0 _ ([Ch.ro 0 (Sl alist_0 list_0 clist_0) list_0] ++ [Ch.ro 0 (Sl alist_0 list_0 clist_0) list_0]) from (H.sel' [0, 0] rfl rfl))) wn ?_
  rintro _ σ5 ⟨_, ⟨rfl, rfl⟩, H, -⟩
  replace H : Hp S0 σ0 σ5 [Ch.ro 0 (Sl alist_0 list_0 clist_0) list_0] := H
  refine st (v := (B (!r2))) (rv_not rfl) ?_
  refine st (v := (B (!r2))) (rv_move rfl) ?_
  rcases Bool.eq_false_or_eq_true (!r2) with hb6 | hb6
  ·replace h := bif_t hb6 h
   refine st_skip (congrArg some hb6) ?_
   refine st_skip (congrArg some hb6) ?_
   refine st_skip (congrArg some hb6) ?_
   refine st (v := (B true)) (rv_pick_t (congrArg B hb6) rfl) ?_
   refine w_end ?_
   obtain rfl := Option.some.inj h
   exact ⟨rfl, _, σ5, fr_join ⟨rfl, rfl, trivial⟩, rfl, H.sel' [0] rfl rfl⟩
  ·replace h := bif_f hb6 h
   refine st_g (v := (Sl alist_0 list_0 clist_0)) (congrArg some hb6) (rv_move rfl) ?_
   refine st_g (v := (I (list_0.length : Int))) (congrArg some hb6) (rv_len Try.underlying23 rfl) ?_
   refine st_g (v := (B ((list_0.length : Int) == 0))) (congrArg some hb6) (rv_eql (a := (list_0.length : Int)) (b := 0) rfl rfl) ?_
   refine st (v := (B ((list_0.length : Int) == 0))) (rv_pick_f (congrArg B hb6) rfl) ?_
   refine w_end ?_
   obtain rfl := Option.some.inj h
   exact ⟨rfl, _, σ5, fr_join ⟨rfl, rfl, trivial⟩, rfl, H.sel' [0] rfl rfl⟩
 ·clear hj
  have h := h'
  clear h' H
  rintro e a w ⟨rfl, ρ, σ7, rfl, rfl, H⟩
  refine q_then ?_
  refine cd_cond o1 rfl (fun hb8 => ?_) (fun hb8 => ?_)
  ·replace h := bif_t hb8 h
   refine c_seq ?_
   refine rg ?_
   refine st (v := (.slice none 0 0)) (rv_assign rfl) ?_
   refine st (v := (.slice none 0 0)) (rv_assign rfl) ?_
   refine st (v := (B false)) (rv_assign rfl) ?_
   refine w_end ?_
   refine q_then ?_
   refine c_ret ?_
   refine q_then_r ?_
   replace H := H.nilOwn Int n0 n0
   replace H := H.nilOwn Int n0 n0
   obtain rfl := Option.some.inj h
   exact fin_ret (v := (.tuple #[(.slice none 0 0), (.slice none 0 0), (B false)])) (results_ok Try.results41 (res_tmp (v := (.slice none 0 0)) rfl (res_tmp (v := (.slice none 0 0)) rfl (res_tmp (v := (B false)) rfl res_nil))) rfl) ⟨none, 0, none, 0, rfl, rfl⟩ (H.sel' [1, 0] rfl rfl)
  ·replace h := bif_f hb8 h
   refine c_skip ?_
   refine q_then ?_
   refine c_seq ?_
   refine rg ?_
   refine st (v := (Sl alist_0 list_0 clist_0)) (rv_move rfl) ?_
   obtain ⟨x9, hx10, h'⟩ := bind_some h
   clear h
   have h := h'; clear h'
   obtain ⟨b12, o13, hi11, -⟩ := (H.ro 0 rfl).ix hx10
   refine st (v := (pt b12 o13)) (rv_ix Try.underlying23 ti26 rfl rfl hi11) ?_
   refine st (v := (pt b12 (o13 + 1))) (rv_fieldAddr (off := 1) (ft := 24) Try.underlying26 rfl ti24 rfl rfl) ?_
   obtain ⟨v17, hc18, hR16⟩ := ((H.ro 0 rfl).at hx10 hi11).snd.fst.slice
   obtain ⟨a14, c15, rfl⟩ := hR16.isSl
   replace H := H.add (d := Ch.ro 0 (Sl a14 x9.2.1 c15) x9.2.1) hR16 (fun _ h => h)
   clear hR16
   refine st (v := (Sl a14 x9.2.1 c15)) (rv_load1 Try.underlying24 rfl rfl hc18) ?_
   obtain ⟨r19, hx20, h'⟩ := bind_some h
   clear h
   have h := h'; clear h'
   have hc21 := c_spec_copyInts (alist_0 := a14) (clist_0 := c15) hx20
   refine st_call (cx_call hc21 (ent_f hc21.fn rfl) hn0 (show Hp S0 σ0 _ ([Ch.ro 0 (Sl a14 x9.2.1 c15) x9.2.1] ++ [Ch.ro 0 (Sl a14 x9.2.1 c15) x9.2.1, Ch.ro 0 (Sl alist_0 list_0 clist_0) list_0]) from (H.sel' [0, 0, 1] rfl rfl))) wn ?_
   rintro _ σ24 ⟨_, ⟨a22, c23, rfl, rfl⟩, H, -⟩
   replace H : Hp S0 σ0 σ24 [Ch.own n0 n0 (Sl a22 r19 c23) r19, Ch.ro 0 (Sl a14 x9.2.1 c15) x9.2.1, Ch.ro 0 (Sl alist_0 list_0 clist_0) list_0] := H
   refine st (v := (Sl a22 r19 c23)) (rv_assign rfl) ?_
   refine w_end ?_
   refine q_then ?_
   refine c_seq ?_
   refine rg ?_
   refine st (v := (Sl alist_0 list_0 clist_0)) (rv_move rfl) ?_
   obtain ⟨x25, hx26, h'⟩ := bind_some h
   clear h
   have h := h'; clear h'
   obtain ⟨b28, o29, hi27, -⟩ := (H.ro 2 rfl).ix hx26
   refine st (v := (pt b28 o29)) (rv_ix Try.underlying23 ti26 rfl rfl hi27) ?_
   refine st (v := (pt b28 (o29 + 1))) (rv_fieldAddr (off := 1) (ft := 24) Try.underlying26 rfl ti24 rfl rfl) ?_
   obtain ⟨v33, hc34, hR32⟩ := ((H.ro 2 rfl).at hx26 hi27).snd.fst.slice
   obtain ⟨a30, c31, rfl⟩ := hR32.isSl
   replace H := H.add (d := Ch.ro 0 (Sl a30 x25.2.1 c31) x25.2.1) hR32 (fun _ h => h)
   clear hR32
   refine st (v := (Sl a30 x25.2.1 c31)) (rv_load1 Try.underlying24 rfl rfl hc34) ?_
   obtain ⟨r35, hx36, h'⟩ := bind_some h
   clear h
   have h := h'; clear h'
   have hc37 := c_spec_copyInts (alist_0 := a30) (clist_0 := c31) hx36
   refine st_call (cx_call hc37 (ent_f hc37.fn rfl) hn0 (show Hp S0 σ0 _ ([Ch.ro 0 (Sl a30 x25.2.1 c31) x25.2.1] ++ [Ch.ro 0 (Sl a30 x25.2.1 c31) x25.2.1, Ch.own n0 n0 (Sl a22 r19 c23) r19, Ch.ro 0 (Sl a14 x9.2.1 c15) x9.2.1, Ch.ro 0 (Sl alist_0 list_0 clist_0) list_0]) from (H.sel' [0, 0, 1, 2, 3] rfl rfl))) wn ?_
   rintro _ σ40 ⟨_, ⟨a38, c39, rfl, rfl⟩, H, -⟩
   replace H : Hp S0 σ0 σ40 [Ch.own n0 n0 (Sl a38 r35 c39) r35, Ch.ro 0 (Sl a30 x25.2.1 c31) x25.2.1, Ch.own n0 n0 (Sl a22 r19 c23) r19, Ch.ro 0 (Sl a14 x9.2.1 c15) x9.2.1, Ch.ro 0 (Sl alist_0 list_0 clist_0) list_0] := H
   refine st (v := (Sl a38 r35 c39)) (rv_assign rfl) ?_
   refine w_end ?_
   refine q_then ?_
   refine c_seq ?_
   refine c_seq ?_
   refine rg ?_
   refine st (v := (I 1)) (rv_assign rfl) ?_
   refine w_end ?_
   refine q_then ?_
   obtain ⟨o41, hj, h'⟩ := bind_some h
   clear h
   refine c_cut (fun e a w => e = .normal ∧ ∃ (ρ : Nat → Value) (σ : St), a = fr 71 (updL ρ [(5, (Sl a22 o41.1 c23)), (6, (Sl a38 o41.2 c39))]) ∧ w = σ.w ∧ Hp S0 σ0 σ [Ch.own n0 n0 (Sl a22 o41.1 c23) o41.1, Ch.own n0 n0 (Sl a38 o41.2 c39) o41.2] ∧ o41.1.length = r19.length ∧ o41.2.length = r35.length) ?_ ?_
   ·clear h'
    rename _ = some o41 => h
    refine c_blk ?_
    refine wp_loopM _ h (fun s42 a w => ∃ (ρ : Nat → Value) (σ : St), a = fr 71 (updL ρ [(0, (Sl alist_0 list_0 clist_0)), (5, (Sl a22 s42.1 c23)), (6, (Sl a38 s42.2.1 c39)), (7, (I s42.2.2))]) ∧ w = σ.w ∧ Hp S0 σ0 σ [Ch.ro 0 (Sl alist_0 list_0 clist_0) list_0, Ch.own n0 n0 (Sl a22 s42.1 c23) s42.1, Ch.own n0 n0 (Sl a38 s42.2.1 c39) s42.2.1] ∧ s42.1.length = r19.length ∧ s42.2.1.length = r35.length) ⟨_, σ40, fr_join ⟨rfl, rfl, rfl, rfl, trivial⟩, rfl, H.sel' [4, 2, 0] rfl rfl, rfl, rfl⟩ ?_
    clear h H
    rintro s42 a w o ⟨ρ, σ43, rfl, rfl, H, hn44, hn45⟩ h hres
    refine c_seq ?_
    refine c_seq ?_
    refine rg ?_
    refine st (v := (I s42.2.2)) (rv_move rfl) ?_
    refine st (v := (Sl alist_0 list_0 clist_0)) (rv_move rfl) ?_
    refine st (v := (I (list_0.length : Int))) (rv_len Try.underlying23 rfl) ?_
    refine st (v := (B (decide (s42.2.2 < (list_0.length : Int))))) (rv_lss (a := s42.2.2) (b := (list_0.length : Int)) rfl rfl) ?_
    refine w_end ?_
    refine q_then ?_
    refine cd_cond (decide (s42.2.2 < (list_0.length : Int))) rfl (fun hb46 => ?_) (fun hb46 => ?_)
    ·replace h := bif_t hb46 h
     refine c_skip ?_
     refine q_then ?_
     refine c_seq ?_
     refine c_blk ?_
     refine c_seq ?_
     refine rg ?_
     refine st (v := (I 0)) (rv_assign rfl) ?_
     refine w_end ?_
     refine q_then ?_
     obtain ⟨o47, hj, h'⟩ := bind_some h
     clear h
     refine c_cut (fun e a w => e = .normal ∧ ∃ (ρ : Nat → Value) (σ : St), a = fr 71 (updL ρ [(0, (Sl alist_0 list_0 clist_0)), (5, (Sl a22 o47.1 c23)), (6, (Sl a38 o47.2 c39)), (7, (I s42.2.2))]) ∧ w = σ.w ∧ Hp S0 σ0 σ [Ch.ro 0 (Sl alist_0 list_0 clist_0) list_0, Ch.own n0 n0 (Sl a22 o47.1 c23) o47.1, Ch.own n0 n0 (Sl a38 o47.2 c39) o47.2] ∧ o47.1.length = s42.1.length ∧ o47.2.length = s42.2.1.length) ?_ ?_
     ·clear h'
      rename _ = some o47 => h
      refine c_blk ?_
      refine wp_loopM _ h (fun s48 a w => ∃ (ρ : Nat → Value) (σ : St), a = fr 71 (updL ρ [(0, (Sl alist_0 list_0 clist_0)), (5, (Sl a22 s48.1 c23)), (6, (Sl a38 s48.2.1 c39)), (7, (I s42.2.2)), (8, (I s48.2.2))]) ∧ w = σ.w ∧ Hp S0 σ0 σ [Ch.ro 0 (Sl alist_0 list_0 clist_0) list_0, Ch.own n0 n0 (Sl a22 s48.1 c23) s48.1, Ch.own n0 n0 (Sl a38 s48.2.1 c39) s48.2.1] ∧ s48.1.length = s42.1.length ∧ s48.2.1.length = s42.2.1.length) ⟨_, σ43, fr_join ⟨rfl, rfl, rfl, rfl, rfl, trivial⟩, rfl, H.sel' [0, 1, 2] rfl rfl, rfl, rfl⟩ ?_
      clear h H
      rintro s48 a w o ⟨ρ, σ49, rfl, rfl, H, hn50, hn51⟩ h hres
      refine c_seq ?_
      refine c_seq ?_
      refine rg ?_
      refine st (v := (I s48.2.2)) (rv_move rfl) ?_
      refine st (v := (B (decide (s48.2.2 < 4)))) (rv_lss (a := s48.2.2) (b := 4) rfl rfl) ?_
      refine w_end ?_
      refine q_then ?_
      refine cd_cond (decide (s48.2.2 < 4)) rfl (fun hb52 => ?_) (fun hb52 => ?_)
      ·replace h := bif_t hb52 h
       refine c_skip ?_
       refine q_then ?_
       refine c_seq ?_
       refine c_blk ?_
       refine c_seq ?_
       refine rgP (σ := σ49) 15 (by kernel_rfl) (by kernel_rfl) (by kernel_rfl) ?_
       refine sq (v := (Sl a22 s48.1 c23)) (rv_move rfl) ?_
       refine sq (v := (I s48.2.2)) (rv_move rfl) ?_
       refine sq (v := (Sl a22 s48.1 c23)) (rv_move rfl) ?_
       refine sq (v := (I s48.2.2)) (rv_move rfl) ?_
       obtain ⟨x53, hx54, h'⟩ := bind_some h
       clear h
       have h := h'; clear h'
       obtain ⟨b56, o57, hi55, -⟩ := (H.own 1 rfl).ix hx54
       refine sq (v := (pt b56 o57)) (rv_ix Try.underlying24 ti3 rfl rfl hi55) ?_
       have hc58 := ((H.own 1 rfl).at hx54 hi55).int
       refine sq (v := (I x53)) (rv_load1 Try.underlying3 rfl rfl hc58) ?_
       refine sq (v := (Sl alist_0 list_0 clist_0)) (rv_move rfl) ?_
       refine sq (v := (I s42.2.2)) (rv_move rfl) ?_
       obtain ⟨x59, hx60, h'⟩ := bind_some h
       clear h
       have h := h'; clear h'
       obtain ⟨b62, o63, hi61, -⟩ := (H.ro 0 rfl).ix hx60
       refine sq (v := (pt b62 o63)) (rv_ix Try.underlying23 ti26 rfl rfl hi61) ?_
       refine sq (v := (pt b62 (o63 + 1))) (rv_fieldAddr (off := 1) (ft := 24) Try.underlying26 rfl ti24 rfl rfl) ?_
       obtain ⟨v67, hc68, hR66⟩ := ((H.ro 0 rfl).at hx60 hi61).snd.fst.slice
       obtain ⟨a64, c65, rfl⟩ := hR66.isSl
       replace H := H.add (d := Ch.ro 0 (Sl a64 x59.2.1 c65) x59.2.1) hR66 (fun _ h => h)
       clear hR66
       refine sq (v := (Sl a64 x59.2.1 c65)) (rv_load1 Try.underlying24 rfl rfl hc68) ?_
       refine sq (v := (I s48.2.2)) (rv_move rfl) ?_
       obtain ⟨x69, hx70, h'⟩ := bind_some h
       clear h
       have h := h'; clear h'
       obtain ⟨b72, o73, hi71, -⟩ := (H.ro 0 rfl).ix hx70
       refine sq (v := (pt b72 o73)) (rv_ix Try.underlying24 ti3 rfl rfl hi71) ?_
       have hc74 := ((H.ro 0 rfl).at hx70 hi71).int
       refine sq (v := (I x69)) (rv_load1 Try.underlying3 rfl rfl hc74) ?_
       refine sq (v := (I (min x53 x69))) (rv_min rfl rfl) ?_
       refine sq_end ?_
       intro σ75 hm76
       replace H := H.grow (hm76.mono fun _ h => h); clear hm76
       obtain ⟨x77, hx78, h'⟩ := bind_some h
       clear h
       have h := h'; clear h'
       obtain ⟨b80, o81, hi79, -⟩ := (H.own 2 rfl).ix hx78
       refine st (v := (pt b80 o81)) (rv_ix Try.underlying24 ti3 rfl rfl hi79) ?_
       refine st_exS (ex_store_own (e' := (min x53 x69)) (vs := [(I (min x53 x69))]) (k := 0) H (i := 2) rfl ti3 hx78 hi79 rfl rfl rfl rfl rfl (Nat.le_of_ble_eq_true rfl) (by simp [plain]) (by rintro _ rfl; exact rfl)) wn ?_
       rintro σ82 ⟨H, -⟩
       have hsl : (Sl a22 s48.1 c23) = (Sl a22 (s48.1.set s48.2.2.toNat (min x53 x69)) c23) := sl_len List.length_set.symm
       rw [hsl]; rw [hsl] at H; clear hsl
       refine w_end ?_
       refine q_then ?_
       refine rgP (σ := σ82) 15 (by kernel_rfl) (by kernel_rfl) (by kernel_rfl) ?_
       refine sq (v := (Sl a38 s48.2.1 c39)) (rv_move rfl) ?_
       refine sq (v := (I s48.2.2)) (rv_move rfl) ?_
       refine sq (v := (Sl a38 s48.2.1 c39)) (rv_move rfl) ?_
       refine sq (v := (I s48.2.2)) (rv_move rfl) ?_
       obtain ⟨x83, hx84, h'⟩ := bind_some h
       clear h
       have h := h'; clear h'
       obtain ⟨b86, o87, hi85, -⟩ := (H.own 3 rfl).ix hx84
       refine sq (v := (pt b86 o87)) (rv_ix Try.underlying24 ti3 rfl rfl hi85) ?_
       have hc88 := ((H.own 3 rfl).at hx84 hi85).int
       refine sq (v := (I x83)) (rv_load1 Try.underlying3 rfl rfl hc88) ?_
       refine sq (v := (Sl alist_0 list_0 clist_0)) (rv_move rfl) ?_
       refine sq (v := (I s42.2.2)) (rv_move rfl) ?_
       obtain ⟨x89, hx90, h'⟩ := bind_some h
       clear h
       have h := h'; clear h'
       obtain ⟨b92, o93, hi91, -⟩ := (H.ro 2 rfl).ix hx90
       refine sq (v := (pt b92 o93)) (rv_ix Try.underlying23 ti26 rfl rfl hi91) ?_
       refine sq (v := (pt b92 (o93 + 1))) (rv_fieldAddr (off := 1) (ft := 24) Try.underlying26 rfl ti24 rfl rfl) ?_
       obtain ⟨v97, hc98, hR96⟩ := ((H.ro 2 rfl).at hx90 hi91).snd.fst.slice
       obtain ⟨a94, c95, rfl⟩ := hR96.isSl
       replace H := H.add (d := Ch.ro 0 (Sl a94 x89.2.1 c95) x89.2.1) hR96 (fun _ h => h)
       clear hR96
       refine sq (v := (Sl a94 x89.2.1 c95)) (rv_load1 Try.underlying24 rfl rfl hc98) ?_
       refine sq (v := (I s48.2.2)) (rv_move rfl) ?_
       obtain ⟨x99, hx100, h'⟩ := bind_some h
       clear h
       have h := h'; clear h'
       obtain ⟨b102, o103, hi101, -⟩ := (H.ro 0 rfl).ix hx100
       refine sq (v := (pt b102 o103)) (rv_ix Try.underlying24 ti3 rfl rfl hi101) ?_
       have hc104 := ((H.ro 0 rfl).at hx100 hi101).int
       refine sq (v := (I x99)) (rv_load1 Try.underlying3 rfl rfl hc104) ?_
       refine sq (v := (I (max x83 x99))) (rv_max rfl rfl) ?_
       refine sq_end ?_
       intro σ105 hm106
       replace H := H.grow (hm106.mono fun _ h => h); clear hm106
       obtain ⟨x107, hx108, h'⟩ := bind_some h
       clear h
       have h := h'; clear h'
       obtain ⟨b110, o111, hi109, -⟩ := (H.own 4 rfl).ix hx108
       refine st (v := (pt b110 o111)) (rv_ix Try.underlying24 ti3 rfl rfl hi109) ?_
       refine st_exS (ex_store_own (e' := (max x83 x99)) (vs := [(I (max x83 x99))]) (k := 0) H (i := 4) rfl ti3 hx108 hi109 rfl rfl rfl rfl rfl (Nat.le_of_ble_eq_true rfl) (by simp [plain]) (by rintro _ rfl; exact rfl)) wn ?_
       rintro σ112 ⟨H, -⟩
       have hsl : (Sl a38 s48.2.1 c39) = (Sl a38 (s48.2.1.set s48.2.2.toNat (max x83 x99)) c39) := sl_len List.length_set.symm
       rw [hsl]; rw [hsl] at H; clear hsl
       refine w_end ?_
       refine q_blk ?_
       refine q_then ?_
       refine rg ?_
       refine st (v := (I s48.2.2)) (rv_move rfl) ?_
       refine st (v := (I (w64 (s48.2.2 + 1)))) (rv_add (a := s48.2.2) (b := 1) rfl rfl) ?_
       refine st (v := (I (w64 (s48.2.2 + 1)))) (rv_assign rfl) ?_
       refine w_end ?_
       refine q_then ?_
       obtain rfl := Option.some.inj h
       exact ⟨_, rfl, _, σ112, fr_join ⟨rfl, rfl, rfl, rfl, rfl, trivial⟩, rfl, H.sel' [4, 2, 0] rfl rfl, ((List.length_set.trans (hn50.trans hn44)).trans hn44.symm), ((List.length_set.trans (hn51.trans hn45)).trans hn45.symm)⟩
      ·replace h := bif_f hb52 h
       refine c_exit ?_
       refine q_then_x ?_
       refine q_then_x ?_
       refine q_blk_hit ?_
       obtain rfl := Option.some.inj h
       obtain rfl := hres _ rfl
       exact ⟨rfl, _, σ49, fr_join ⟨rfl, rfl, rfl, rfl, trivial⟩, rfl, H.sel' [0, 1, 2] rfl rfl, ((hn50.trans hn44).trans hn44.symm), ((hn51.trans hn45).trans hn45.symm)⟩
     ·clear hj
      have h := h'
      clear h' H
      rintro e a w ⟨rfl, ρ, σ113, rfl, rfl, H, hn114, hn115⟩
      refine q_blk ?_
      refine q_then ?_
      refine rg ?_
      refine st (v := (I s42.2.2)) (rv_move rfl) ?_
      refine st (v := (I (w64 (s42.2.2 + 1)))) (rv_add (a := s42.2.2) (b := 1) rfl rfl) ?_
      refine st (v := (I (w64 (s42.2.2 + 1)))) (rv_assign rfl) ?_
      refine w_end ?_
      refine q_then ?_
      obtain rfl := Option.some.inj h
      exact ⟨_, rfl, _, σ113, fr_join ⟨rfl, rfl, rfl, rfl, trivial⟩, rfl, H.sel' [0, 1, 2] rfl rfl, (hn114.trans hn44), (hn115.trans hn45)⟩
    ·replace h := bif_f hb46 h
     refine c_exit ?_
     refine q_then_x ?_
     refine q_then_x ?_
     refine q_blk_hit ?_
     obtain rfl := Option.some.inj h
     obtain rfl := hres _ rfl
     exact ⟨rfl, _, σ43, fr_join ⟨rfl, rfl, trivial⟩, rfl, H.sel' [1, 2] rfl rfl, hn44, hn45⟩
   ·clear hj
    have h := h'
    clear h' H
    rintro e a w ⟨rfl, ρ, σ116, rfl, rfl, H, hn117, hn118⟩
    refine q_then ?_
    refine c_seq ?_
    refine rg ?_
    refine st (v := (Sl a22 o41.1 c23)) (rv_move rfl) ?_
    refine st (v := (Sl a38 o41.2 c39)) (rv_move rfl) ?_
    refine st (v := (Sl a22 o41.1 c23)) (rv_assign rfl) ?_
    refine st (v := (Sl a38 o41.2 c39)) (rv_assign rfl) ?_
    refine st (v := (B true)) (rv_assign rfl) ?_
    refine w_end ?_
    refine q_then ?_
    refine c_ret ?_
    obtain rfl := Option.some.inj h
    exact fin_ret (v := (.tuple #[(Sl a22 o41.1 c23), (Sl a38 o41.2 c39), (B true)])) (results_ok Try.results41 (res_tmp (v := (Sl a22 o41.1 c23)) rfl (res_tmp (v := (Sl a38 o41.2 c39)) rfl (res_tmp (v := (B true)) rfl res_nil))) rfl) ⟨a22, c23, a38, c39, rfl, rfl⟩ (H.sel' [0, 1] rfl rfl)

theorem c_laws_heldIntS {a_0 : List Int} {k_1 : Int} {aa_0 : Option Addr} {ca_0 : Nat} {r : Int} (h : M.laws_heldIntS a_0 k_1 = some r) :
    Cal2 Try.prog 43 [(Sl aa_0 a_0 ca_0), (I k_1)] [Ch.ro 0 (Sl aa_0 a_0 ca_0) a_0] (fun n0 v L => v = (I r) ∧ L = []) := by
 refine cal2 (n := 21) Try.func43 rfl rfl rfl rfl ?_
 intro S0 σ0 n0 hn0 H
 unfold M.laws_heldIntS at h
 refine c_seq ?_
 refine rg ?_
 refine st (v := (I 0)) (rv_assign rfl) ?_
 refine w_end ?_
 refine q_then ?_
 refine c_seq ?_
 refine c_seq ?_
 refine rg ?_
 refine st (v := (I 0)) (rv_assign rfl) ?_
 refine w_end ?_
 refine q_then ?_
 obtain ⟨o1, hj, h'⟩ := bind_some h
 clear h
 refine c_cut (fun e a w => (∃ t, o1 = (.inl t) ∧ e = .normal ∧ ∃ (ρ : Nat → Value) (σ : St), a = fr 21 (updL ρ [(1, (I t))]) ∧ w = σ.w ∧ Hp S0 σ0 σ []) ∨ (∃ t, o1 = (.inr t) ∧ e = .ret ∧ ∃ (ρ : Nat → Value) (σ : St), a = fr 21 (updL ρ [(4, (I t))]) ∧ w = σ.w ∧ Hp S0 σ0 σ [])) ?_ ?_
 ·clear h'
  rename _ = some o1 => h
  refine c_blk ?_
  refine wp_loopM _ h (fun s2 a w => ∃ (ρ : Nat → Value) (σ : St), a = fr 21 (updL ρ [(0, (Sl aa_0 a_0 ca_0)), (1, (I s2.1)), (5, (I s2.2))]) ∧ w = σ.w ∧ Hp S0 σ0 σ [Ch.ro 0 (Sl aa_0 a_0 ca_0) a_0]) ⟨_, σ0, fr_join ⟨rfl, rfl, rfl, trivial⟩, rfl, H.sel' [0] rfl rfl⟩ ?_
  clear h H
  rintro s2 a w o ⟨ρ, σ3, rfl, rfl, H⟩ h hres
  refine c_seq ?_
  refine c_seq ?_
  refine rg ?_
  refine st (v := (I s2.2)) (rv_move rfl) ?_
  refine st (v := (Sl aa_0 a_0 ca_0)) (rv_move rfl) ?_
  refine st (v := (I (a_0.length : Int))) (rv_len Try.underlying24 rfl) ?_
  refine st (v := (B (decide (s2.2 < (a_0.length : Int))))) (rv_lss (a := s2.2) (b := (a_0.length : Int)) rfl rfl) ?_
  refine w_end ?_
  refine q_then ?_
  refine cd_cond (decide (s2.2 < (a_0.length : Int))) rfl (fun hb4 => ?_) (fun hb4 => ?_)
  ·replace h := bif_t hb4 h
   refine c_skip ?_
   refine q_then ?_
   refine c_seq ?_
   refine c_blk ?_
   refine c_seq ?_
   refine c_seq ?_
   refine rg ?_
   refine st (v := (Sl aa_0 a_0 ca_0)) (rv_move rfl) ?_
   refine st (v := (I s2.2)) (rv_move rfl) ?_
   obtain ⟨x5, hx6, h'⟩ := bind_some h
   clear h
   have h := h'; clear h'
   obtain ⟨b8, o9, hi7, -⟩ := (H.ro 0 rfl).ix hx6
   refine st (v := (pt b8 o9)) (rv_ix Try.underlying24 ti3 rfl rfl hi7) ?_
   have hc10 := ((H.ro 0 rfl).at hx6 hi7).int
   refine st (v := (I x5)) (rv_load1 Try.underlying3 rfl rfl hc10) ?_
   refine st (v := (I s2.1)) (rv_move rfl) ?_
   refine st (v := (B (x5 != s2.1))) (rv_neq (a := x5) (b := s2.1) rfl rfl) ?_
   refine w_end ?_
   refine q_then ?_
   refine cd_cond (x5 != s2.1) rfl (fun hb11 => ?_) (fun hb11 => ?_)
   ·replace h := bif_t hb11 h
    refine c_seq ?_
    refine rg ?_
    refine st (v := (I (-1))) (rv_assign rfl) ?_
    refine w_end ?_
    refine q_then ?_
    refine c_ret ?_
    refine q_then_r ?_
    refine q_blk_r ?_
    refine q_then_r ?_
    refine q_then_r ?_
    refine q_blk_r ?_
    obtain rfl := Option.some.inj h
    obtain rfl := hres _ rfl
    exact .inr (⟨_, rfl, rfl, _, σ3, fr_join ⟨rfl, trivial⟩, rfl, H.sel' [] rfl rfl⟩)
   ·replace h := bif_f hb11 h
    refine c_skip ?_
    refine q_then ?_
    refine rg ?_
    refine st (v := (I s2.1)) (rv_move rfl) ?_
    refine st (v := (I (w64 (s2.1 + 1)))) (rv_add (a := s2.1) (b := 1) rfl rfl) ?_
    refine st (v := (I (w64 (s2.1 + 1)))) (rv_assign rfl) ?_
    refine w_end ?_
    refine q_blk ?_
    refine q_then ?_
    refine rg ?_
    refine st (v := (I s2.2)) (rv_move rfl) ?_
    refine st (v := (I (w64 (s2.2 + 1)))) (rv_add (a := s2.2) (b := 1) rfl rfl) ?_
    refine st (v := (I (w64 (s2.2 + 1)))) (rv_assign rfl) ?_
    refine w_end ?_
    refine q_then ?_
    obtain rfl := Option.some.inj h
    exact ⟨_, rfl, _, σ3, fr_join ⟨rfl, rfl, rfl, trivial⟩, rfl, H.sel' [0] rfl rfl⟩
  ·replace h := bif_f hb4 h
   refine c_exit ?_
   refine q_then_x ?_
   refine q_then_x ?_
   refine q_blk_hit ?_
   obtain rfl := Option.some.inj h
   obtain rfl := hres _ rfl
   exact .inl ⟨_, rfl, rfl, _, σ3, fr_join ⟨rfl, trivial⟩, rfl, H.sel' [] rfl rfl⟩
 ·clear hj
  have h := h'
  clear h' H
  rintro e a w (⟨t12, rfl, rfl, ρ, σ13, rfl, rfl, H⟩ | ⟨t14, rfl, rfl, ρ, σ15, rfl, rfl, H⟩)
  ·replace h := selim_l h
   refine q_then ?_
   refine c_seq ?_
   refine rg ?_
   refine st (v := (I t12)) (rv_move rfl) ?_
   refine st (v := (I t12)) (rv_assign rfl) ?_
   refine w_end ?_
   refine q_then ?_
   refine c_ret ?_
   obtain rfl := Option.some.inj h
   exact fin_ret (v := (I t12)) (results_ok Try.results43 (res_tmp (v := (I t12)) rfl res_nil) rfl) ⟨rfl, rfl⟩ (H.sel' [] rfl rfl)
  ·replace h := selim_r h
   refine q_then_r ?_
   obtain rfl := Option.some.inj h
   exact fin_ret (v := (I t14)) (results_ok Try.results43 (res_tmp (v := (I t14)) rfl res_nil) rfl) ⟨rfl, rfl⟩ (H.sel' [] rfl rfl)

theorem c_laws_FnExactBoundsOf {aList_0 : List (Int × (List Int) × Int)} {aaList_0 : Option Addr} {caList_0 : Nat} {r : Bool} (h : M.laws_FnExactBoundsOf aList_0 = some r) :
    Cal2 Try.prog 11 [(Sl aaList_0 aList_0 caList_0)] [Ch.ro 0 (Sl aaList_0 aList_0 caList_0) aList_0] (fun n0 v L => v = (B r) ∧ L = []) := by
 refine cal2 (n := 133) Try.func11 rfl rfl rfl rfl ?_
 intro S0 σ0 n0 hn0 H
 unfold M.laws_FnExactBoundsOf at h
 refine c_seq ?_
 refine rg ?_
 refine st (v := (B false)) (rv_assign rfl) ?_
 refine w_end ?_
 refine q_then ?_
 refine c_seq ?_
 refine rg ?_
 refine st (v := (I 1048576)) (rv_assign rfl) ?_
 refine w_end ?_
 refine q_then ?_
 refine c_seq ?_
 refine rg ?_
 refine st (v := (Sl aaList_0 aList_0 caList_0)) (rv_move rfl) ?_
 refine st (v := (I 1048576)) (rv_move rfl) ?_
 obtain ⟨r1, hx2, h'⟩ := bind_some h
 clear h
 have h := h'; clear h'
 have hc3 := c_laws_szItemS (aa_0 := aaList_0) (ca_0 := caList_0) hx2
 refine st_call (cx_call hc3 (ent_f hc3.fn rfl) hn0 (show Hp S0 σ0 _ ([Ch.ro 0 (Sl aaList_0 aList_0 caList_0) aList_0] ++ [Ch.ro 0 (Sl aaList_0 aList_0 caList_0) aList_0]) from (H.sel' [0, 0] rfl rfl))) wn ?_
 rintro _ σ4 ⟨_, ⟨rfl, rfl⟩, H, -⟩
 replace H : Hp S0 σ0 σ4 [Ch.ro 0 (Sl aaList_0 aList_0 caList_0) aList_0] := H
 refine st (v := (I r1)) (rv_assign rfl) ?_
 refine w_end ?_
 refine q_then ?_
 refine c_seq ?_
 refine c_seq ?_
 refine rg ?_
 refine st (v := (I r1)) (rv_move rfl) ?_
 refine st (v := (B (decide (r1 < 0)))) (rv_lss (a := r1) (b := 0) rfl rfl) ?_
 refine w_end ?_
 refine q_then ?_
 refine cd_cond (decide (r1 < 0)) rfl (fun hb5 => ?_) (fun hb5 => ?_)
 ·replace h := bif_t hb5 h
  refine c_seq ?_
  refine rg ?_
  refine st (v := (B true)) (rv_assign rfl) ?_
  refine w_end ?_
  refine q_then ?_
  refine c_ret ?_
  refine q_then_r ?_
  obtain rfl := Option.some.inj h
  exact fin_ret (v := (B true)) (results_ok Try.results11 (res_tmp (v := (B true)) rfl res_nil) rfl) ⟨rfl, rfl⟩ (H.sel' [] rfl rfl)
 ·replace h := bif_f hb5 h
  refine c_skip ?_
  refine q_then ?_
  refine c_seq ?_
  refine rg ?_
  refine st (v := (Sl aaList_0 aList_0 caList_0)) (rv_move rfl) ?_
  obtain ⟨r6, hx7, h'⟩ := bind_some h
  clear h
  have h := h'; clear h'
  have hc8 := c_laws_toItemS (aa_0 := aaList_0) (ca_0 := caList_0) hx7
  refine st_call (cx_call hc8 (ent_f hc8.fn rfl) hn0 (show Hp S0 σ0 _ ([Ch.ro 0 (Sl aaList_0 aList_0 caList_0) aList_0] ++ [Ch.ro 0 (Sl aaList_0 aList_0 caList_0) aList_0]) from (H.sel' [0, 0] rfl rfl))) wn ?_
  rintro _ σ13 ⟨_, ⟨a9, c10, K11, rfl, rfl, hK12⟩, H, -⟩
  replace H : Hp S0 σ0 σ13 [Ch.big K11, Ch.ro 0 (Sl aaList_0 aList_0 caList_0) aList_0] := H
  obtain ⟨r14, hx15, h'⟩ := bind_some h
  clear h
  have h := h'; clear h'
  have hc16 := c_spec_BoundsOf (alist_0 := a9) (clist_0 := c10) hx15
  have hle := Nat.le_trans hn0 H.size
  refine st_call (cx_lend (Loan.lendB hK12.lends Loan.nil) hc16 (ent_f hc16.fn rfl) (show Hp S0 σ0 _ ([Ch.big K11] ++ ([] ++ [Ch.ro 0 (Sl aaList_0 aList_0 caList_0) aList_0])) from (H.sel' [0, 1] rfl rfl)) (by rintro _ _ _ ⟨_, _, _, _, rfl, rfl⟩; exact ⟨Ab.ownSc, Ab.ownSc, trivial⟩)) wn ?_
  rintro _ σ21 ⟨_, ⟨a17, c18, a19, c20, rfl, rfl⟩, H, -, -⟩
  replace H : Hp S0 σ0 σ21 [Ch.own σ13.size σ13.size (Sl a17 r14.1 c18) r14.1, Ch.own σ13.size σ13.size (Sl a19 r14.2.1 c20) r14.2.1, Ch.big K11, Ch.ro 0 (Sl aaList_0 aList_0 caList_0) aList_0] := H
  replace H := H.ownLow 0 n0 n0 rfl hle hle
  replace H := H.ownLow 1 n0 n0 rfl hle hle
  clear hle
  replace H : Hp S0 σ0 σ21 [Ch.own n0 n0 (Sl a19 r14.2.1 c20) r14.2.1, Ch.own n0 n0 (Sl a17 r14.1 c18) r14.1, Ch.big K11, Ch.ro 0 (Sl aaList_0 aList_0 caList_0) aList_0] := H
  refine st (v := (.tuple #[(Sl a17 r14.1 c18), (Sl a19 r14.2.1 c20), (B r14.2.2)])) (rv_move rfl) ?_
  refine st (v := (Sl a17 r14.1 c18)) (rv_extract rfl rfl) ?_
  refine st (v := (Sl a19 r14.2.1 c20)) (rv_extract rfl rfl) ?_
  refine st (v := (B r14.2.2)) (rv_extract rfl rfl) ?_
  refine st (v := (Sl a17 r14.1 c18)) (rv_assign rfl) ?_
  refine st (v := (Sl a19 r14.2.1 c20)) (rv_assign rfl) ?_
  refine st (v := (B r14.2.2)) (rv_assign rfl) ?_
  refine w_end ?_
  refine q_then ?_
  refine c_seq ?_
  refine rg ?_
  refine st (v := (Sl aaList_0 aList_0 caList_0)) (rv_move rfl) ?_
  obtain ⟨r22, hx23, h'⟩ := bind_some h
  clear h
  have h := h'; clear h'
  have hc24 := c_laws_toItemS (aa_0 := aaList_0) (ca_0 := caList_0) hx23
  refine st_call (cx_call hc24 (ent_f hc24.fn rfl) hn0 (show Hp S0 σ0 _ ([Ch.ro 0 (Sl aaList_0 aList_0 caList_0) aList_0] ++ [Ch.own n0 n0 (Sl a19 r14.2.1 c20) r14.2.1, Ch.own n0 n0 (Sl a17 r14.1 c18) r14.1, Ch.big K11, Ch.ro 0 (Sl aaList_0 aList_0 caList_0) aList_0]) from (H.sel' [3, 0, 1, 2, 3] rfl rfl))) wn ?_
  rintro _ σ29 ⟨_, ⟨a25, c26, K27, rfl, rfl, hK28⟩, H, -⟩
  replace H : Hp S0 σ0 σ29 [Ch.big K27, Ch.own n0 n0 (Sl a19 r14.2.1 c20) r14.2.1, Ch.own n0 n0 (Sl a17 r14.1 c18) r14.1, Ch.big K11, Ch.ro 0 (Sl aaList_0 aList_0 caList_0) aList_0] := H
  refine st (v := (Sl a25 r22 c26)) (rv_assign rfl) ?_
  refine w_end ?_
  refine q_then ?_
  refine c_seq ?_
  refine rg ?_
  refine st (v := (Sl a25 r22 c26)) (rv_move rfl) ?_
  obtain ⟨r30, hx31, h'⟩ := bind_some h
  clear h
  have h := h'; clear h'
  have hc32 := c_impl_BoundsOf (alist_0 := a25) (clist_0 := c26) hx31
  have hle := Nat.le_trans hn0 H.size
  refine st_call (cx_lend (Loan.lendB hK28.lends Loan.nil) hc32 (ent_f hc32.fn rfl) (show Hp S0 σ0 _ ([Ch.big K27] ++ ([] ++ [Ch.own n0 n0 (Sl a19 r14.2.1 c20) r14.2.1, Ch.own n0 n0 (Sl a17 r14.1 c18) r14.1, Ch.big K11, Ch.ro 0 (Sl aaList_0 aList_0 caList_0) aList_0])) from (H.sel' [0, 1, 2, 3, 4] rfl rfl)) (by rintro _ _ _ ⟨_, _, _, _, rfl, rfl, _, _⟩; exact ⟨Ab.ownSc, Ab.ownSc, trivial⟩)) wn ?_
  rintro _ σ39 ⟨_, ⟨a33, c34, a36, c37, rfl, rfl, ht35, ht38⟩, H, -, -⟩
  replace H : Hp S0 σ0 σ39 [Ch.own σ29.size σ29.size (Sl a33 r30.1 c34) r30.1, Ch.own σ29.size σ29.size (Sl a36 r30.2.1 c37) r30.2.1, Ch.big K27, Ch.own n0 n0 (Sl a19 r14.2.1 c20) r14.2.1, Ch.own n0 n0 (Sl a17 r14.1 c18) r14.1, Ch.big K11, Ch.ro 0 (Sl aaList_0 aList_0 caList_0) aList_0] := H
  replace H := H.ownLow 0 n0 n0 rfl hle hle
  replace H := H.ownLow 1 n0 n0 rfl hle hle
  clear hle
  replace H : Hp S0 σ0 σ39 [Ch.own n0 n0 (Sl a36 r30.2.1 c37) r30.2.1, Ch.own n0 n0 (Sl a33 r30.1 c34) r30.1, Ch.big K27, Ch.own n0 n0 (Sl a19 r14.2.1 c20) r14.2.1, Ch.own n0 n0 (Sl a17 r14.1 c18) r14.1, Ch.big K11, Ch.ro 0 (Sl aaList_0 aList_0 caList_0) aList_0] := H
  refine st (v := (.tuple #[(Sl a33 r30.1 c34), (Sl a36 r30.2.1 c37), (B r30.2.2)])) (rv_move rfl) ?_
  refine st (v := (Sl a33 r30.1 c34)) (rv_extract rfl rfl) ?_
  refine st (v := (Sl a36 r30.2.1 c37)) (rv_extract rfl rfl) ?_
  refine st (v := (B r30.2.2)) (rv_extract rfl rfl) ?_
  refine st (v := (Sl a33 r30.1 c34)) (rv_assign rfl) ?_
  refine st (v := (Sl a36 r30.2.1 c37)) (rv_assign rfl) ?_
  refine st (v := (B r30.2.2)) (rv_assign rfl) ?_
  refine w_end ?_
  refine q_then ?_
  refine c_seq ?_
  refine c_seq ?_
  obtain ⟨o40, hj, h'⟩ := bind_some h
  clear h
  refine c_cut (fun e a w => e = .normal ∧ ∃ (ρ : Nat → Value) (σ : St), a = fr 133 (updL ρ [(0, (Sl aaList_0 aList_0 caList_0)), (4, (Sl a17 r14.1 c18)), (5, (Sl a19 r14.2.1 c20)), (6, (B r14.2.2)), (7, (Sl a25 r22 c26)), (8, (Sl a33 r30.1 c34)), (9, (Sl a36 r30.2.1 c37)), (10, (B r30.2.2)), (51, (B o40))]) ∧ w = σ.w ∧ Hp S0 σ0 σ [Ch.ro 0 (Sl aaList_0 aList_0 caList_0) aList_0, Ch.own n0 n0 (Sl a17 r14.1 c18) r14.1, Ch.own n0 n0 (Sl a19 r14.2.1 c20) r14.2.1, Ch.big K27, Ch.own n0 n0 (Sl a33 r30.1 c34) r30.1, Ch.own n0 n0 (Sl a36 r30.2.1 c37) r30.2.1]) ?_ ?_
  ·clear h'
   rename _ = some o40 => h
   refine rg ?_
   refine st (v := (Sl a33 r30.1 c34)) (rv_move rfl) ?_
   refine st (v := (Sl a17 r14.1 c18)) (rv_move rfl) ?_
   obtain ⟨r41, hx42, h'⟩ := bind_some h
   clear h
   have h := h'; clear h'
   have hc43 := c_laws_eqIntS (aa_0 := a33) (ca_0 := c34) (ab_1 := a17) (cb_1 := c18) hx42
   have hle := Nat.le_trans hn0 H.size
   refine st_call (cx_lend (Loan.lend (Loan.lend Loan.nil)) hc43 (ent_f hc43.fn rfl) (show Hp S0 σ0 _ ([Ch.own n0 n0 (Sl a33 r30.1 c34) r30.1, Ch.own n0 n0 (Sl a17 r14.1 c18) r14.1] ++ ([] ++ [Ch.own n0 n0 (Sl a36 r30.2.1 c37) r30.2.1, Ch.big K27, Ch.own n0 n0 (Sl a19 r14.2.1 c20) r14.2.1, Ch.big K11, Ch.ro 0 (Sl aaList_0 aList_0 caList_0) aList_0])) from (H.sel' [1, 4, 0, 2, 3, 5, 6] rfl rfl)) (by rintro _ _ _ ⟨rfl, rfl⟩; exact trivial)) wn ?_
   rintro _ σ44 ⟨_, ⟨rfl, rfl⟩, H, -, -⟩
   replace H : Hp S0 σ0 σ44 [Ch.own n0 n0 (Sl a33 r30.1 c34) r30.1, Ch.own n0 n0 (Sl a17 r14.1 c18) r14.1, Ch.own n0 n0 (Sl a36 r30.2.1 c37) r30.2.1, Ch.big K27, Ch.own n0 n0 (Sl a19 r14.2.1 c20) r14.2.1, Ch.big K11, Ch.ro 0 (Sl aaList_0 aList_0 caList_0) aList_0] := H
   clear hle
   replace H : Hp S0 σ0 σ44 [Ch.own n0 n0 (Sl a33 r30.1 c34) r30.1, Ch.own n0 n0 (Sl a17 r14.1 c18) r14.1, Ch.own n0 n0 (Sl a36 r30.2.1 c37) r30.2.1, Ch.big K27, Ch.own n0 n0 (Sl a19 r14.2.1 c20) r14.2.1, Ch.big K11, Ch.ro 0 (Sl aaList_0 aList_0 caList_0) aList_0] := H
   refine st (v := (B (!r41))) (rv_not rfl) ?_
   refine st (v := (B (!r41))) (rv_move rfl) ?_
   rcases Bool.eq_false_or_eq_true (!r41) with hb45 | hb45
   ·replace h := bif_t hb45 h
    refine st_skip (congrArg some hb45) ?_
    refine st_skip (congrArg some hb45) ?_
    refine st_skip (congrArg some hb45) ?_
    refine st_skip (congrArg some hb45) ?_
    refine st (v := (B true)) (rv_pick_t (congrArg B hb45) rfl) ?_
    refine st (v := (B true)) (rv_move rfl) ?_
    refine st_skip rfl ?_
    refine st_skip rfl ?_
    refine st_skip rfl ?_
    refine st (v := (B true)) (rv_pick_t rfl rfl) ?_
    refine w_end ?_
    obtain rfl := Option.some.inj h
    exact ⟨rfl, _, σ44, fr_join ⟨rfl, rfl, rfl, rfl, rfl, rfl, rfl, rfl, rfl, trivial⟩, rfl, H.sel' [6, 1, 4, 3, 0, 2] rfl rfl⟩
   ·replace h := bif_f hb45 h
    refine st_g (v := (Sl a36 r30.2.1 c37)) (congrArg some hb45) (rv_move rfl) ?_
    refine st_g (v := (Sl a19 r14.2.1 c20)) (congrArg some hb45) (rv_move rfl) ?_
    obtain ⟨r46, hx47, h'⟩ := bind_some h
    clear h
    have h := h'; clear h'
    have hc48 := c_laws_eqIntS (aa_0 := a36) (ca_0 := c37) (ab_1 := a19) (cb_1 := c20) hx47
    have hle := Nat.le_trans hn0 H.size
    refine st_call (cx_lend (Loan.lend (Loan.lend Loan.nil)) hc48 (ent_f hc48.fn rfl) (show Hp S0 σ0 _ ([Ch.own n0 n0 (Sl a36 r30.2.1 c37) r30.2.1, Ch.own n0 n0 (Sl a19 r14.2.1 c20) r14.2.1] ++ ([] ++ [Ch.own n0 n0 (Sl a33 r30.1 c34) r30.1, Ch.own n0 n0 (Sl a17 r14.1 c18) r14.1, Ch.big K27, Ch.big K11, Ch.ro 0 (Sl aaList_0 aList_0 caList_0) aList_0])) from (H.sel' [2, 4, 0, 1, 3, 5, 6] rfl rfl)) (by rintro _ _ _ ⟨rfl, rfl⟩; exact trivial)) (wanted_yes rfl (by exact (congrArg some hb45))) ?_
    rintro _ σ49 ⟨_, ⟨rfl, rfl⟩, H, -, -⟩
    replace H : Hp S0 σ0 σ49 [Ch.own n0 n0 (Sl a36 r30.2.1 c37) r30.2.1, Ch.own n0 n0 (Sl a19 r14.2.1 c20) r14.2.1, Ch.own n0 n0 (Sl a33 r30.1 c34) r30.1, Ch.own n0 n0 (Sl a17 r14.1 c18) r14.1, Ch.big K27, Ch.big K11, Ch.ro 0 (Sl aaList_0 aList_0 caList_0) aList_0] := H
    clear hle
    replace H : Hp S0 σ0 σ49 [Ch.own n0 n0 (Sl a36 r30.2.1 c37) r30.2.1, Ch.own n0 n0 (Sl a19 r14.2.1 c20) r14.2.1, Ch.own n0 n0 (Sl a33 r30.1 c34) r30.1, Ch.own n0 n0 (Sl a17 r14.1 c18) r14.1, Ch.big K27, Ch.big K11, Ch.ro 0 (Sl aaList_0 aList_0 caList_0) aList_0] := H
    refine st_g (v := (B (!r46))) (congrArg some hb45) (rv_not rfl) ?_
    refine st (v := (B (!r46))) (rv_pick_f (congrArg B hb45) rfl) ?_
    refine st (v := (B (!r46))) (rv_move rfl) ?_
    rcases Bool.eq_false_or_eq_true (!r46) with hb50 | hb50
    ·replace h := bif_t hb50 h
     refine st_skip (congrArg some hb50) ?_
     refine st_skip (congrArg some hb50) ?_
     refine st_skip (congrArg some hb50) ?_
     refine st (v := (B true)) (rv_pick_t (congrArg B hb50) rfl) ?_
     refine w_end ?_
     obtain rfl := Option.some.inj h
     exact ⟨rfl, _, σ49, fr_join ⟨rfl, rfl, rfl, rfl, rfl, rfl, rfl, rfl, rfl, trivial⟩, rfl, H.sel' [6, 3, 1, 4, 2, 0] rfl rfl⟩
    ·replace h := bif_f hb50 h
     refine st_g (v := (B r30.2.2)) (congrArg some hb50) (rv_move rfl) ?_
     refine st_g (v := (B r14.2.2)) (congrArg some hb50) (rv_move rfl) ?_
     refine st_g (v := (B (r30.2.2 != r14.2.2))) (congrArg some hb50) (rv_bneq Try.underlying4 rfl rfl) ?_
     refine st (v := (B (r30.2.2 != r14.2.2))) (rv_pick_f (congrArg B hb50) rfl) ?_
     refine w_end ?_
     obtain rfl := Option.some.inj h
     exact ⟨rfl, _, σ49, fr_join ⟨rfl, rfl, rfl, rfl, rfl, rfl, rfl, rfl, rfl, trivial⟩, rfl, H.sel' [6, 3, 1, 4, 2, 0] rfl rfl⟩
  ·clear hj
   have h := h'
   clear h' H
   rintro e a w ⟨rfl, ρ, σ51, rfl, rfl, H⟩
   refine q_then ?_
   refine cd_cond o40 rfl (fun hb52 => ?_) (fun hb52 => ?_)
   ·replace h := bif_t hb52 h
    refine c_seq ?_
    refine rg ?_
    refine st (v := (B false)) (rv_assign rfl) ?_
    refine w_end ?_
    refine q_then ?_
    refine c_ret ?_
    refine q_then_r ?_
    obtain rfl := Option.some.inj h
    exact fin_ret (v := (B false)) (results_ok Try.results11 (res_tmp (v := (B false)) rfl res_nil) rfl) ⟨rfl, rfl⟩ (H.sel' [] rfl rfl)
   ·replace h := bif_f hb52 h
    refine c_skip ?_
    refine q_then ?_
    refine c_seq ?_
    refine c_seq ?_
    refine rg ?_
    refine st (v := (Sl a25 r22 c26)) (rv_move rfl) ?_
    refine st (v := (Sl aaList_0 aList_0 caList_0)) (rv_move rfl) ?_
    obtain ⟨r53, hx54, h'⟩ := bind_some h
    clear h
    have h := h'; clear h'
    have hc55 := c_laws_toItemS (aa_0 := aaList_0) (ca_0 := caList_0) hx54
    refine st_call (cx_call hc55 (ent_f hc55.fn rfl) hn0 (show Hp S0 σ0 _ ([Ch.ro 0 (Sl aaList_0 aList_0 caList_0) aList_0] ++ [Ch.ro 0 (Sl aaList_0 aList_0 caList_0) aList_0, Ch.own n0 n0 (Sl a17 r14.1 c18) r14.1, Ch.own n0 n0 (Sl a19 r14.2.1 c20) r14.2.1, Ch.big K27, Ch.own n0 n0 (Sl a33 r30.1 c34) r30.1, Ch.own n0 n0 (Sl a36 r30.2.1 c37) r30.2.1]) from (H.sel' [0, 0, 1, 2, 3, 4, 5] rfl rfl))) wn ?_
    rintro _ σ60 ⟨_, ⟨a56, c57, K58, rfl, rfl, hK59⟩, H, -⟩
    replace H : Hp S0 σ0 σ60 [Ch.big K58, Ch.ro 0 (Sl aaList_0 aList_0 caList_0) aList_0, Ch.own n0 n0 (Sl a17 r14.1 c18) r14.1, Ch.own n0 n0 (Sl a19 r14.2.1 c20) r14.2.1, Ch.big K27, Ch.own n0 n0 (Sl a33 r30.1 c34) r30.1, Ch.own n0 n0 (Sl a36 r30.2.1 c37) r30.2.1] := H
    obtain ⟨r61, hx62, h'⟩ := bind_some h
    clear h
    have h := h'; clear h'
    have hc63 := c_laws_eqItemS (aa_0 := a25) (ca_0 := c26) (ab_1 := a56) (cb_1 := c57) hx62
    have hle := Nat.le_trans hn0 H.size
    refine st_call (cx_lend (Loan.lendB hK28.lends (Loan.lendB hK59.lends Loan.nil)) hc63 (ent_f hc63.fn rfl) (show Hp S0 σ0 _ ([Ch.big K27, Ch.big K58] ++ ([] ++ [Ch.ro 0 (Sl aaList_0 aList_0 caList_0) aList_0, Ch.own n0 n0 (Sl a17 r14.1 c18) r14.1, Ch.own n0 n0 (Sl a19 r14.2.1 c20) r14.2.1, Ch.own n0 n0 (Sl a33 r30.1 c34) r30.1, Ch.own n0 n0 (Sl a36 r30.2.1 c37) r30.2.1])) from (H.sel' [4, 0, 1, 2, 3, 5, 6] rfl rfl)) (by rintro _ _ _ ⟨rfl, rfl⟩; exact trivial)) wn ?_
    rintro _ σ64 ⟨_, ⟨rfl, rfl⟩, H, -, -⟩
    replace H : Hp S0 σ0 σ64 [Ch.big K27, Ch.big K58, Ch.ro 0 (Sl aaList_0 aList_0 caList_0) aList_0, Ch.own n0 n0 (Sl a17 r14.1 c18) r14.1, Ch.own n0 n0 (Sl a19 r14.2.1 c20) r14.2.1, Ch.own n0 n0 (Sl a33 r30.1 c34) r30.1, Ch.own n0 n0 (Sl a36 r30.2.1 c37) r30.2.1] := H
    clear hle
    replace H : Hp S0 σ0 σ64 [Ch.big K27, Ch.big K58, Ch.ro 0 (Sl aaList_0 aList_0 caList_0) aList_0, Ch.own n0 n0 (Sl a17 r14.1 c18) r14.1, Ch.own n0 n0 (Sl a19 r14.2.1 c20) r14.2.1, Ch.own n0 n0 (Sl a33 r30.1 c34) r30.1, Ch.own n0 n0 (Sl a36 r30.2.1 c37) r30.2.1] := H
    refine st (v := (B (!r61))) (rv_not rfl) ?_
    refine w_end ?_
    refine q_then ?_
    refine cd_cond (!r61) rfl (fun hb65 => ?_) (fun hb65 => ?_)
    ·replace h := bif_t hb65 h
     refine c_seq ?_
     refine rg ?_
     refine st (v := (B false)) (rv_assign rfl) ?_
     refine w_end ?_
     refine q_then ?_
     refine c_ret ?_
     refine q_then_r ?_
     obtain rfl := Option.some.inj h
     exact fin_ret (v := (B false)) (results_ok Try.results11 (res_tmp (v := (B false)) rfl res_nil) rfl) ⟨rfl, rfl⟩ (H.sel' [] rfl rfl)
    ·replace h := bif_f hb65 h
     refine c_skip ?_
     refine q_then ?_
     refine c_seq ?_
     refine rg ?_
     refine st (v := (I 1)) (rv_assign rfl) ?_
     refine w_end ?_
     refine q_then ?_
     refine c_seq ?_
     refine rg ?_
     refine st (v := (Sl a25 r22 c26)) (rv_move rfl) ?_
     refine st (v := (I 1)) (rv_move rfl) ?_
     obtain ⟨r66, hx67, h'⟩ := bind_some h
     clear h
     have h := h'; clear h'
     have hc68 := c_laws_markItemS (aa_0 := a25) (ca_0 := c26) (hK := hK28) hx67
     refine st_call (cx_call hc68 (ent_f hc68.fn rfl) hn0 (show Hp S0 σ0 _ ([Ch.big K27] ++ [Ch.big K58, Ch.ro 0 (Sl aaList_0 aList_0 caList_0) aList_0, Ch.own n0 n0 (Sl a17 r14.1 c18) r14.1, Ch.own n0 n0 (Sl a19 r14.2.1 c20) r14.2.1, Ch.own n0 n0 (Sl a33 r30.1 c34) r30.1, Ch.own n0 n0 (Sl a36 r30.2.1 c37) r30.2.1]) from (H.sel' [0, 1, 2, 3, 4, 5, 6] rfl rfl))) wn ?_
     rintro _ σ69 ⟨_, ⟨rfl, rfl⟩, H, -⟩
     replace H : Hp S0 σ0 σ69 [Ch.big K58, Ch.ro 0 (Sl aaList_0 aList_0 caList_0) aList_0, Ch.own n0 n0 (Sl a17 r14.1 c18) r14.1, Ch.own n0 n0 (Sl a19 r14.2.1 c20) r14.2.1, Ch.own n0 n0 (Sl a33 r30.1 c34) r30.1, Ch.own n0 n0 (Sl a36 r30.2.1 c37) r30.2.1] := H
     refine st (v := (I r66)) (rv_assign rfl) ?_
     refine w_end ?_
     refine q_then ?_
     refine c_seq ?_
     refine c_seq ?_
     obtain ⟨o70, hj, h'⟩ := bind_some h
     clear h
     refine c_cut (fun e a w => e = .normal ∧ ∃ (ρ : Nat → Value) (σ : St), a = fr 133 (updL ρ [(0, (Sl aaList_0 aList_0 caList_0)), (4, (Sl a17 r14.1 c18)), (5, (Sl a19 r14.2.1 c20)), (6, (B r14.2.2)), (8, (Sl a33 r30.1 c34)), (9, (Sl a36 r30.2.1 c37)), (78, (B o70))]) ∧ w = σ.w ∧ Hp S0 σ0 σ [Ch.ro 0 (Sl aaList_0 aList_0 caList_0) aList_0, Ch.own n0 n0 (Sl a17 r14.1 c18) r14.1, Ch.own n0 n0 (Sl a19 r14.2.1 c20) r14.2.1, Ch.own n0 n0 (Sl a33 r30.1 c34) r30.1, Ch.own n0 n0 (Sl a36 r30.2.1 c37) r30.2.1]) ?_ ?_
     ·clear h'
      rename _ = some o70 => h
      refine rg ?_
      refine st (v := (I r66)) (rv_move rfl) ?_
      refine st (v := (B (decide (r66 < 0)))) (rv_lss (a := r66) (b := 0) rfl rfl) ?_
      refine st (v := (B (decide (r66 < 0)))) (rv_move rfl) ?_
      rcases Bool.eq_false_or_eq_true (decide (r66 < 0)) with hb71 | hb71
      ·replace h := bif_t hb71 h
       refine st_skip (congrArg some hb71) ?_
       refine st_skip (congrArg some hb71) ?_
       refine st_skip (congrArg some hb71) ?_
       refine st_skip (congrArg some hb71) ?_
       refine st (v := (B true)) (rv_pick_t (congrArg B hb71) rfl) ?_
       refine st (v := (B true)) (rv_move rfl) ?_
       refine st_skip rfl ?_
       refine st_skip rfl ?_
       refine st_skip rfl ?_
       refine st_skip rfl ?_
       refine st (v := (B true)) (rv_pick_t rfl rfl) ?_
       refine st (v := (B true)) (rv_move rfl) ?_
       refine st_skip rfl ?_
       refine st_skip rfl ?_
       refine st_skip rfl ?_
       refine st (v := (B true)) (rv_pick_t rfl rfl) ?_
       refine w_end ?_
       obtain rfl := Option.some.inj h
       exact ⟨rfl, _, σ69, fr_join ⟨rfl, rfl, rfl, rfl, rfl, rfl, rfl, trivial⟩, rfl, H.sel' [1, 2, 3, 4, 5] rfl rfl⟩
      ·replace h := bif_f hb71 h
       refine st_g (v := (Sl a33 r30.1 c34)) (congrArg some hb71) (rv_move rfl) ?_
       refine st_g (v := (Sl a17 r14.1 c18)) (congrArg some hb71) (rv_move rfl) ?_
       obtain ⟨r72, hx73, h'⟩ := bind_some h
       clear h
       have h := h'; clear h'
       have hc74 := c_laws_eqIntS (aa_0 := a33) (ca_0 := c34) (ab_1 := a17) (cb_1 := c18) hx73
       have hle := Nat.le_trans hn0 H.size
       refine st_call (cx_lend (Loan.lend (Loan.lend Loan.nil)) hc74 (ent_f hc74.fn rfl) (show Hp S0 σ0 _ ([Ch.own n0 n0 (Sl a33 r30.1 c34) r30.1, Ch.own n0 n0 (Sl a17 r14.1 c18) r14.1] ++ ([] ++ [Ch.big K58, Ch.ro 0 (Sl aaList_0 aList_0 caList_0) aList_0, Ch.own n0 n0 (Sl a19 r14.2.1 c20) r14.2.1, Ch.own n0 n0 (Sl a36 r30.2.1 c37) r30.2.1])) from (H.sel' [4, 2, 0, 1, 3, 5] rfl rfl)) (by rintro _ _ _ ⟨rfl, rfl⟩; exact trivial)) (wanted_yes rfl (by exact (congrArg some hb71))) ?_
       rintro _ σ75 ⟨_, ⟨rfl, rfl⟩, H, -, -⟩
       replace H : Hp S0 σ0 σ75 [Ch.own n0 n0 (Sl a33 r30.1 c34) r30.1, Ch.own n0 n0 (Sl a17 r14.1 c18) r14.1, Ch.big K58, Ch.ro 0 (Sl aaList_0 aList_0 caList_0) aList_0, Ch.own n0 n0 (Sl a19 r14.2.1 c20) r14.2.1, Ch.own n0 n0 (Sl a36 r30.2.1 c37) r30.2.1] := H
       clear hle
       replace H : Hp S0 σ0 σ75 [Ch.own n0 n0 (Sl a33 r30.1 c34) r30.1, Ch.own n0 n0 (Sl a17 r14.1 c18) r14.1, Ch.big K58, Ch.ro 0 (Sl aaList_0 aList_0 caList_0) aList_0, Ch.own n0 n0 (Sl a19 r14.2.1 c20) r14.2.1, Ch.own n0 n0 (Sl a36 r30.2.1 c37) r30.2.1] := H
       refine st_g (v := (B (!r72))) (congrArg some hb71) (rv_not rfl) ?_
       refine st (v := (B (!r72))) (rv_pick_f (congrArg B hb71) rfl) ?_
       refine st (v := (B (!r72))) (rv_move rfl) ?_
       rcases Bool.eq_false_or_eq_true (!r72) with hb76 | hb76
       ·replace h := bif_t hb76 h
        refine st_skip (congrArg some hb76) ?_
        refine st_skip (congrArg some hb76) ?_
        refine st_skip (congrArg some hb76) ?_
        refine st_skip (congrArg some hb76) ?_
        refine st (v := (B true)) (rv_pick_t (congrArg B hb76) rfl) ?_
        refine st (v := (B true)) (rv_move rfl) ?_
        refine st_skip rfl ?_
        refine st_skip rfl ?_
        refine st_skip rfl ?_
        refine st (v := (B true)) (rv_pick_t rfl rfl) ?_
        refine w_end ?_
        obtain rfl := Option.some.inj h
        exact ⟨rfl, _, σ75, fr_join ⟨rfl, rfl, rfl, rfl, rfl, rfl, rfl, trivial⟩, rfl, H.sel' [3, 1, 4, 0, 5] rfl rfl⟩
       ·replace h := bif_f hb76 h
        refine st_g (v := (Sl a36 r30.2.1 c37)) (congrArg some hb76) (rv_move rfl) ?_
        refine st_g (v := (Sl a19 r14.2.1 c20)) (congrArg some hb76) (rv_move rfl) ?_
        obtain ⟨r77, hx78, h'⟩ := bind_some h
        clear h
        have h := h'; clear h'
        have hc79 := c_laws_eqIntS (aa_0 := a36) (ca_0 := c37) (ab_1 := a19) (cb_1 := c20) hx78
        have hle := Nat.le_trans hn0 H.size
        refine st_call (cx_lend (Loan.lend (Loan.lend Loan.nil)) hc79 (ent_f hc79.fn rfl) (show Hp S0 σ0 _ ([Ch.own n0 n0 (Sl a36 r30.2.1 c37) r30.2.1, Ch.own n0 n0 (Sl a19 r14.2.1 c20) r14.2.1] ++ ([] ++ [Ch.own n0 n0 (Sl a33 r30.1 c34) r30.1, Ch.own n0 n0 (Sl a17 r14.1 c18) r14.1, Ch.big K58, Ch.ro 0 (Sl aaList_0 aList_0 caList_0) aList_0])) from (H.sel' [5, 4, 0, 1, 2, 3] rfl rfl)) (by rintro _ _ _ ⟨rfl, rfl⟩; exact trivial)) (wanted_yes rfl (by exact (congrArg some hb76))) ?_
        rintro _ σ80 ⟨_, ⟨rfl, rfl⟩, H, -, -⟩
        replace H : Hp S0 σ0 σ80 [Ch.own n0 n0 (Sl a36 r30.2.1 c37) r30.2.1, Ch.own n0 n0 (Sl a19 r14.2.1 c20) r14.2.1, Ch.own n0 n0 (Sl a33 r30.1 c34) r30.1, Ch.own n0 n0 (Sl a17 r14.1 c18) r14.1, Ch.big K58, Ch.ro 0 (Sl aaList_0 aList_0 caList_0) aList_0] := H
        clear hle
        replace H : Hp S0 σ0 σ80 [Ch.own n0 n0 (Sl a36 r30.2.1 c37) r30.2.1, Ch.own n0 n0 (Sl a19 r14.2.1 c20) r14.2.1, Ch.own n0 n0 (Sl a33 r30.1 c34) r30.1, Ch.own n0 n0 (Sl a17 r14.1 c18) r14.1, Ch.big K58, Ch.ro 0 (Sl aaList_0 aList_0 caList_0) aList_0] := H
        refine st_g (v := (B (!r77))) (congrArg some hb76) (rv_not rfl) ?_
        refine st (v := (B (!r77))) (rv_pick_f (congrArg B hb76) rfl) ?_
        refine st (v := (B (!r77))) (rv_move rfl) ?_
        rcases Bool.eq_false_or_eq_true (!r77) with hb81 | hb81
        ·replace h := bif_t hb81 h
         refine st_skip (congrArg some hb81) ?_
         refine st_skip (congrArg some hb81) ?_
         refine st_skip (congrArg some hb81) ?_
         refine st (v := (B true)) (rv_pick_t (congrArg B hb81) rfl) ?_
         refine w_end ?_
         obtain rfl := Option.some.inj h
         exact ⟨rfl, _, σ80, fr_join ⟨rfl, rfl, rfl, rfl, rfl, rfl, rfl, trivial⟩, rfl, H.sel' [5, 3, 1, 2, 0] rfl rfl⟩
        ·replace h := bif_f hb81 h
         refine st_g (v := (B r30.2.2)) (congrArg some hb81) (rv_move rfl) ?_
         refine st_g (v := (B r14.2.2)) (congrArg some hb81) (rv_move rfl) ?_
         refine st_g (v := (B (r30.2.2 != r14.2.2))) (congrArg some hb81) (rv_bneq Try.underlying4 rfl rfl) ?_
         refine st (v := (B (r30.2.2 != r14.2.2))) (rv_pick_f (congrArg B hb81) rfl) ?_
         refine w_end ?_
         obtain rfl := Option.some.inj h
         exact ⟨rfl, _, σ80, fr_join ⟨rfl, rfl, rfl, rfl, rfl, rfl, rfl, trivial⟩, rfl, H.sel' [5, 3, 1, 2, 0] rfl rfl⟩
     ·clear hj
      have h := h'
      clear h' H
      rintro e a w ⟨rfl, ρ, σ82, rfl, rfl, H⟩
      refine q_then ?_
      refine cd_cond o70 rfl (fun hb83 => ?_) (fun hb83 => ?_)
      ·replace h := bif_t hb83 h
       refine c_seq ?_
       refine rg ?_
       refine st (v := (B false)) (rv_assign rfl) ?_
       refine w_end ?_
       refine q_then ?_
       refine c_ret ?_
       refine q_then_r ?_
       obtain rfl := Option.some.inj h
       exact fin_ret (v := (B false)) (results_ok Try.results11 (res_tmp (v := (B false)) rfl res_nil) rfl) ⟨rfl, rfl⟩ (H.sel' [] rfl rfl)
      ·replace h := bif_f hb83 h
       refine c_skip ?_
       refine q_then ?_
       refine c_seq ?_
       refine rg ?_
       refine st (v := (I 1)) (rv_assign rfl) ?_
       refine w_end ?_
       refine q_then ?_
       refine c_seq ?_
       refine rg ?_
       refine st (v := (Sl a33 r30.1 c34)) (rv_move rfl) ?_
       refine st (v := (I 1)) (rv_move rfl) ?_
       replace H := H.ownLow 3 0 0 rfl (Nat.zero_le _) (Nat.zero_le _)
       obtain ⟨r84, hx85, h'⟩ := bind_some h
       clear h
       have h := h'; clear h'
       have hc86 := c_laws_markIntS (aa_0 := a33) (ca_0 := c34) hx85
       refine st_call (cx_call hc86 (ent_f hc86.fn rfl) hn0 (show Hp S0 σ0 _ ([Ch.own 0 0 (Sl a33 r30.1 c34) r30.1] ++ [Ch.ro 0 (Sl aaList_0 aList_0 caList_0) aList_0, Ch.own n0 n0 (Sl a17 r14.1 c18) r14.1, Ch.own n0 n0 (Sl a19 r14.2.1 c20) r14.2.1, Ch.own n0 n0 (Sl a36 r30.2.1 c37) r30.2.1]) from (H.sel' [0, 1, 2, 3, 4] rfl rfl))) wn ?_
       rintro _ σ88 ⟨_, ⟨rfl, rfl, hn87⟩, H, -⟩
       replace H : Hp S0 σ0 σ88 [Ch.own 0 0 (Sl a33 r84.2 c34) r84.2, Ch.ro 0 (Sl aaList_0 aList_0 caList_0) aList_0, Ch.own n0 n0 (Sl a17 r14.1 c18) r14.1, Ch.own n0 n0 (Sl a19 r14.2.1 c20) r14.2.1, Ch.own n0 n0 (Sl a36 r30.2.1 c37) r30.2.1] := H
       have hsl : (Sl a33 r30.1 c34) = (Sl a33 r84.2 c34) := sl_len hn87.symm
       try rw [hsl]
       try rw [hsl] at H
       clear hsl
       refine st (v := (I r84.1)) (rv_assign rfl) ?_
       refine w_end ?_
       refine q_then ?_
       refine c_seq ?_
       refine rg ?_
       refine st (v := (Sl a36 r30.2.1 c37)) (rv_move rfl) ?_
       refine st (v := (I r84.1)) (rv_move rfl) ?_
       replace H := H.ownLow 4 0 0 rfl (Nat.zero_le _) (Nat.zero_le _)
       obtain ⟨r89, hx90, h'⟩ := bind_some h
       clear h
       have h := h'; clear h'
       have hc91 := c_laws_markIntS (aa_0 := a36) (ca_0 := c37) hx90
       refine st_call (cx_call hc91 (ent_f hc91.fn rfl) hn0 (show Hp S0 σ0 _ ([Ch.own 0 0 (Sl a36 r30.2.1 c37) r30.2.1] ++ [Ch.own 0 0 (Sl a33 r84.2 c34) r84.2, Ch.ro 0 (Sl aaList_0 aList_0 caList_0) aList_0, Ch.own n0 n0 (Sl a17 r14.1 c18) r14.1, Ch.own n0 n0 (Sl a19 r14.2.1 c20) r14.2.1]) from (H.sel' [0, 1, 2, 3, 4] rfl rfl))) wn ?_
       rintro _ σ93 ⟨_, ⟨rfl, rfl, hn92⟩, H, -⟩
       replace H : Hp S0 σ0 σ93 [Ch.own 0 0 (Sl a36 r89.2 c37) r89.2, Ch.own 0 0 (Sl a33 r84.2 c34) r84.2, Ch.ro 0 (Sl aaList_0 aList_0 caList_0) aList_0, Ch.own n0 n0 (Sl a17 r14.1 c18) r14.1, Ch.own n0 n0 (Sl a19 r14.2.1 c20) r14.2.1] := H
       have hsl : (Sl a36 r30.2.1 c37) = (Sl a36 r89.2 c37) := sl_len hn92.symm
       try rw [hsl]
       try rw [hsl] at H
       clear hsl
       refine st (v := (I r89.1)) (rv_assign rfl) ?_
       refine w_end ?_
       refine q_then ?_
       refine c_seq ?_
       refine rg ?_
       refine st (v := (I 1)) (rv_assign rfl) ?_
       refine w_end ?_
       refine q_then ?_
       refine c_seq ?_
       refine rg ?_
       refine st (v := (Sl a33 r84.2 c34)) (rv_move rfl) ?_
       refine st (v := (I 1)) (rv_move rfl) ?_
       obtain ⟨r94, hx95, h'⟩ := bind_some h
       clear h
       have h := h'; clear h'
       have hc96 := c_laws_heldIntS (aa_0 := a33) (ca_0 := c34) hx95
       have hle := Nat.le_trans hn0 H.size
       refine st_call (cx_lend (Loan.lend Loan.nil) hc96 (ent_f hc96.fn rfl) (show Hp S0 σ0 _ ([Ch.own 0 0 (Sl a33 r84.2 c34) r84.2] ++ ([] ++ [Ch.own 0 0 (Sl a36 r89.2 c37) r89.2, Ch.ro 0 (Sl aaList_0 aList_0 caList_0) aList_0, Ch.own n0 n0 (Sl a17 r14.1 c18) r14.1, Ch.own n0 n0 (Sl a19 r14.2.1 c20) r14.2.1])) from (H.sel' [1, 0, 2, 3, 4] rfl rfl)) (by rintro _ _ _ ⟨rfl, rfl⟩; exact trivial)) wn ?_
       rintro _ σ97 ⟨_, ⟨rfl, rfl⟩, H, -, -⟩
       replace H : Hp S0 σ0 σ97 [Ch.own 0 0 (Sl a33 r84.2 c34) r84.2, Ch.own 0 0 (Sl a36 r89.2 c37) r89.2, Ch.ro 0 (Sl aaList_0 aList_0 caList_0) aList_0, Ch.own n0 n0 (Sl a17 r14.1 c18) r14.1, Ch.own n0 n0 (Sl a19 r14.2.1 c20) r14.2.1] := H
       clear hle
       replace H : Hp S0 σ0 σ97 [Ch.own 0 0 (Sl a33 r84.2 c34) r84.2, Ch.own 0 0 (Sl a36 r89.2 c37) r89.2, Ch.ro 0 (Sl aaList_0 aList_0 caList_0) aList_0, Ch.own n0 n0 (Sl a17 r14.1 c18) r14.1, Ch.own n0 n0 (Sl a19 r14.2.1 c20) r14.2.1] := H
       refine st (v := (I r94)) (rv_assign rfl) ?_
       refine w_end ?_
       refine q_then ?_
       refine c_seq ?_
       refine c_seq ?_
       refine rg ?_
       refine st (v := (I r94)) (rv_move rfl) ?_
       refine st (v := (B (decide (r94 < 0)))) (rv_lss (a := r94) (b := 0) rfl rfl) ?_
       refine w_end ?_
       refine q_then ?_
       refine cd_cond (decide (r94 < 0)) rfl (fun hb98 => ?_) (fun hb98 => ?_)
       ·replace h := bif_t hb98 h
        refine c_seq ?_
        refine rg ?_
        refine st (v := (B false)) (rv_assign rfl) ?_
        refine w_end ?_
        refine q_then ?_
        refine c_ret ?_
        refine q_then_r ?_
        obtain rfl := Option.some.inj h
        exact fin_ret (v := (B false)) (results_ok Try.results11 (res_tmp (v := (B false)) rfl res_nil) rfl) ⟨rfl, rfl⟩ (H.sel' [] rfl rfl)
       ·replace h := bif_f hb98 h
        refine c_skip ?_
        refine q_then ?_
        refine c_seq ?_
        refine rg ?_
        refine st (v := (Sl a36 r89.2 c37)) (rv_move rfl) ?_
        refine st (v := (I r94)) (rv_move rfl) ?_
        obtain ⟨r99, hx100, h'⟩ := bind_some h
        clear h
        have h := h'; clear h'
        have hc101 := c_laws_heldIntS (aa_0 := a36) (ca_0 := c37) hx100
        have hle := Nat.le_trans hn0 H.size
        refine st_call (cx_lend (Loan.lend Loan.nil) hc101 (ent_f hc101.fn rfl) (show Hp S0 σ0 _ ([Ch.own 0 0 (Sl a36 r89.2 c37) r89.2] ++ ([] ++ [Ch.own 0 0 (Sl a33 r84.2 c34) r84.2, Ch.ro 0 (Sl aaList_0 aList_0 caList_0) aList_0, Ch.own n0 n0 (Sl a17 r14.1 c18) r14.1, Ch.own n0 n0 (Sl a19 r14.2.1 c20) r14.2.1])) from (H.sel' [1, 0, 2, 3, 4] rfl rfl)) (by rintro _ _ _ ⟨rfl, rfl⟩; exact trivial)) wn ?_
        rintro _ σ102 ⟨_, ⟨rfl, rfl⟩, H, -, -⟩
        replace H : Hp S0 σ0 σ102 [Ch.own 0 0 (Sl a36 r89.2 c37) r89.2, Ch.own 0 0 (Sl a33 r84.2 c34) r84.2, Ch.ro 0 (Sl aaList_0 aList_0 caList_0) aList_0, Ch.own n0 n0 (Sl a17 r14.1 c18) r14.1, Ch.own n0 n0 (Sl a19 r14.2.1 c20) r14.2.1] := H
        clear hle
        replace H : Hp S0 σ0 σ102 [Ch.own 0 0 (Sl a36 r89.2 c37) r89.2, Ch.own 0 0 (Sl a33 r84.2 c34) r84.2, Ch.ro 0 (Sl aaList_0 aList_0 caList_0) aList_0, Ch.own n0 n0 (Sl a17 r14.1 c18) r14.1, Ch.own n0 n0 (Sl a19 r14.2.1 c20) r14.2.1] := H
        refine st (v := (I r99)) (rv_assign rfl) ?_
        refine w_end ?_
        refine q_then ?_
        refine c_seq ?_
        refine c_seq ?_
        refine rg ?_
        refine st (v := (I r99)) (rv_move rfl) ?_
        refine st (v := (B (decide (r99 < 0)))) (rv_lss (a := r99) (b := 0) rfl rfl) ?_
        refine w_end ?_
        refine q_then ?_
        refine cd_cond (decide (r99 < 0)) rfl (fun hb103 => ?_) (fun hb103 => ?_)
        ·replace h := bif_t hb103 h
         refine c_seq ?_
         refine rg ?_
         refine st (v := (B false)) (rv_assign rfl) ?_
         refine w_end ?_
         refine q_then ?_
         refine c_ret ?_
         refine q_then_r ?_
         obtain rfl := Option.some.inj h
         exact fin_ret (v := (B false)) (results_ok Try.results11 (res_tmp (v := (B false)) rfl res_nil) rfl) ⟨rfl, rfl⟩ (H.sel' [] rfl rfl)
        ·replace h := bif_f hb103 h
         refine c_skip ?_
         refine q_then ?_
         refine c_seq ?_
         refine c_seq ?_
         refine rg ?_
         refine st (v := (I r99)) (rv_move rfl) ?_
         refine st (v := (I r89.1)) (rv_move rfl) ?_
         refine st (v := (B (r99 != r89.1))) (rv_neq (a := r99) (b := r89.1) rfl rfl) ?_
         refine w_end ?_
         refine q_then ?_
         refine cd_cond (r99 != r89.1) rfl (fun hb104 => ?_) (fun hb104 => ?_)
         ·replace h := bif_t hb104 h
          refine c_seq ?_
          refine rg ?_
          refine st (v := (B false)) (rv_assign rfl) ?_
          refine w_end ?_
          refine q_then ?_
          refine c_ret ?_
          refine q_then_r ?_
          obtain rfl := Option.some.inj h
          exact fin_ret (v := (B false)) (results_ok Try.results11 (res_tmp (v := (B false)) rfl res_nil) rfl) ⟨rfl, rfl⟩ (H.sel' [] rfl rfl)
         ·replace h := bif_f hb104 h
          refine c_skip ?_
          refine q_then ?_
          refine c_seq ?_
          refine rg ?_
          refine st (v := (Sl aaList_0 aList_0 caList_0)) (rv_move rfl) ?_
          obtain ⟨r105, hx106, h'⟩ := bind_some h
          clear h
          have h := h'; clear h'
          have hc107 := c_laws_toItemS (aa_0 := aaList_0) (ca_0 := caList_0) hx106
          refine st_call (cx_call hc107 (ent_f hc107.fn rfl) hn0 (show Hp S0 σ0 _ ([Ch.ro 0 (Sl aaList_0 aList_0 caList_0) aList_0] ++ [Ch.own 0 0 (Sl a36 r89.2 c37) r89.2, Ch.own 0 0 (Sl a33 r84.2 c34) r84.2, Ch.ro 0 (Sl aaList_0 aList_0 caList_0) aList_0, Ch.own n0 n0 (Sl a17 r14.1 c18) r14.1, Ch.own n0 n0 (Sl a19 r14.2.1 c20) r14.2.1]) from (H.sel' [2, 0, 1, 2, 3, 4] rfl rfl))) wn ?_
          rintro _ σ112 ⟨_, ⟨a108, c109, K110, rfl, rfl, hK111⟩, H, -⟩
          replace H : Hp S0 σ0 σ112 [Ch.big K110, Ch.own 0 0 (Sl a36 r89.2 c37) r89.2, Ch.own 0 0 (Sl a33 r84.2 c34) r84.2, Ch.ro 0 (Sl aaList_0 aList_0 caList_0) aList_0, Ch.own n0 n0 (Sl a17 r14.1 c18) r14.1, Ch.own n0 n0 (Sl a19 r14.2.1 c20) r14.2.1] := H
          obtain ⟨r113, hx114, h'⟩ := bind_some h
          clear h
          have h := h'; clear h'
          have hc115 := c_impl_BoundsOf (alist_0 := a108) (clist_0 := c109) hx114
          have hle := Nat.le_trans hn0 H.size
          refine st_call (cx_lend (Loan.lendB hK111.lends Loan.nil) hc115 (ent_f hc115.fn rfl) (show Hp S0 σ0 _ ([Ch.big K110] ++ ([] ++ [Ch.own 0 0 (Sl a36 r89.2 c37) r89.2, Ch.own 0 0 (Sl a33 r84.2 c34) r84.2, Ch.ro 0 (Sl aaList_0 aList_0 caList_0) aList_0, Ch.own n0 n0 (Sl a17 r14.1 c18) r14.1, Ch.own n0 n0 (Sl a19 r14.2.1 c20) r14.2.1])) from (H.sel' [0, 1, 2, 3, 4, 5] rfl rfl)) (by rintro _ _ _ ⟨_, _, _, _, rfl, rfl, _, _⟩; exact ⟨Ab.ownSc, Ab.ownSc, trivial⟩)) wn ?_
          rintro _ σ122 ⟨_, ⟨a116, c117, a119, c120, rfl, rfl, ht118, ht121⟩, H, -, -⟩
          replace H : Hp S0 σ0 σ122 [Ch.own σ112.size σ112.size (Sl a116 r113.1 c117) r113.1, Ch.own σ112.size σ112.size (Sl a119 r113.2.1 c120) r113.2.1, Ch.big K110, Ch.own 0 0 (Sl a36 r89.2 c37) r89.2, Ch.own 0 0 (Sl a33 r84.2 c34) r84.2, Ch.ro 0 (Sl aaList_0 aList_0 caList_0) aList_0, Ch.own n0 n0 (Sl a17 r14.1 c18) r14.1, Ch.own n0 n0 (Sl a19 r14.2.1 c20) r14.2.1] := H
          replace H := H.ownLow 0 n0 n0 rfl hle hle
          replace H := H.ownLow 1 n0 n0 rfl hle hle
          clear hle
          replace H : Hp S0 σ0 σ122 [Ch.own n0 n0 (Sl a119 r113.2.1 c120) r113.2.1, Ch.own n0 n0 (Sl a116 r113.1 c117) r113.1, Ch.big K110, Ch.own 0 0 (Sl a36 r89.2 c37) r89.2, Ch.own 0 0 (Sl a33 r84.2 c34) r84.2, Ch.ro 0 (Sl aaList_0 aList_0 caList_0) aList_0, Ch.own n0 n0 (Sl a17 r14.1 c18) r14.1, Ch.own n0 n0 (Sl a19 r14.2.1 c20) r14.2.1] := H
          replace H : Hp S0 σ0 σ122 [Ch.own n0 n0 (Sl a119 r113.2.1 c120) r113.2.1, Ch.own n0 n0 (Sl a116 r113.1 c117) r113.1, Ch.own 0 0 (Sl a36 r89.2 c37) r89.2, Ch.own 0 0 (Sl a33 r84.2 c34) r84.2, Ch.own n0 n0 (Sl a17 r14.1 c18) r14.1, Ch.own n0 n0 (Sl a19 r14.2.1 c20) r14.2.1] := H.sel' [0, 1, 3, 4, 6, 7] rfl rfl
          refine st (v := (.tuple #[(Sl a116 r113.1 c117), (Sl a119 r113.2.1 c120), (B r113.2.2)])) (rv_move rfl) ?_
          refine st (v := (Sl a116 r113.1 c117)) (rv_extract rfl rfl) ?_
          refine st (v := (Sl a119 r113.2.1 c120)) (rv_extract rfl rfl) ?_
          refine st (v := (B r113.2.2)) (rv_extract rfl rfl) ?_
          refine st (v := (Sl a116 r113.1 c117)) (rv_assign rfl) ?_
          refine st (v := (Sl a119 r113.2.1 c120)) (rv_assign rfl) ?_
          refine st (v := (B r113.2.2)) (rv_assign rfl) ?_
          refine w_end ?_
          refine q_then ?_
          refine c_seq ?_
          refine c_seq ?_
          obtain ⟨o123, hj, h'⟩ := bind_some h
          clear h
          refine c_cut (fun e a w => e = .normal ∧ ∃ (ρ : Nat → Value) (σ : St), a = fr 133 (updL ρ [(8, (Sl a33 r84.2 c34)), (9, (Sl a36 r89.2 c37)), (12, (I r89.1)), (119, (B o123))]) ∧ w = σ.w ∧ Hp S0 σ0 σ [Ch.own 0 0 (Sl a33 r84.2 c34) r84.2, Ch.own 0 0 (Sl a36 r89.2 c37) r89.2]) ?_ ?_
          ·clear h'
           rename _ = some o123 => h
           refine rg ?_
           refine st (v := (Sl a116 r113.1 c117)) (rv_move rfl) ?_
           refine st (v := (Sl a17 r14.1 c18)) (rv_move rfl) ?_
           obtain ⟨σ124, hw125, H, -⟩ := H.pub 1 rfl (Nat.le_refl _)
           rw [← hw125]; clear hw125
           obtain ⟨σ126, hw127, H, -⟩ := H.pub 4 rfl (Nat.le_refl _)
           rw [← hw127]; clear hw127
           replace H := H.roLow 1 0 rfl (Nat.zero_le _)
           replace H := H.roLow 1 0 rfl (Nat.zero_le _)
           obtain ⟨r128, hx129, h'⟩ := bind_some h
           clear h
           have h := h'; clear h'
           have hc130 := c_laws_eqIntS (aa_0 := a116) (ca_0 := c117) (ab_1 := a17) (cb_1 := c18) hx129
           refine st_call (cx_call hc130 (ent_f hc130.fn rfl) hn0 (show Hp S0 σ0 _ ([Ch.ro 0 (Sl a116 r113.1 c117) r113.1, Ch.ro 0 (Sl a17 r14.1 c18) r14.1] ++ [Ch.ro 0 (Sl a17 r14.1 c18) r14.1, Ch.ro 0 (Sl a116 r113.1 c117) r113.1, Ch.ro n0 (Sl a17 r14.1 c18) r14.1, Ch.ro n0 (Sl a116 r113.1 c117) r113.1, Ch.own n0 n0 (Sl a119 r113.2.1 c120) r113.2.1, Ch.own 0 0 (Sl a36 r89.2 c37) r89.2, Ch.own 0 0 (Sl a33 r84.2 c34) r84.2, Ch.own n0 n0 (Sl a19 r14.2.1 c20) r14.2.1]) from (H.sel' [1, 0, 0, 1, 2, 3, 4, 5, 6, 7] rfl rfl))) wn ?_
           rintro _ σ131 ⟨_, ⟨rfl, rfl⟩, H, -⟩
           replace H : Hp S0 σ0 σ131 [Ch.ro 0 (Sl a17 r14.1 c18) r14.1, Ch.ro 0 (Sl a116 r113.1 c117) r113.1, Ch.ro n0 (Sl a17 r14.1 c18) r14.1, Ch.ro n0 (Sl a116 r113.1 c117) r113.1, Ch.own n0 n0 (Sl a119 r113.2.1 c120) r113.2.1, Ch.own 0 0 (Sl a36 r89.2 c37) r89.2, Ch.own 0 0 (Sl a33 r84.2 c34) r84.2, Ch.own n0 n0 (Sl a19 r14.2.1 c20) r14.2.1] := H
           replace H : Hp S0 σ0 σ131 [Ch.own n0 n0 (Sl a119 r113.2.1 c120) r113.2.1, Ch.own 0 0 (Sl a36 r89.2 c37) r89.2, Ch.own 0 0 (Sl a33 r84.2 c34) r84.2, Ch.own n0 n0 (Sl a19 r14.2.1 c20) r14.2.1] := H.sel' [4, 5, 6, 7] rfl rfl
           refine st (v := (B (!r128))) (rv_not rfl) ?_
           refine st (v := (B (!r128))) (rv_move rfl) ?_
           rcases Bool.eq_false_or_eq_true (!r128) with hb132 | hb132
           ·replace h := bif_t hb132 h
            refine st_skip (congrArg some hb132) ?_
            refine st_skip (congrArg some hb132) ?_
            refine st_skip (congrArg some hb132) ?_
            refine st_skip (congrArg some hb132) ?_
            refine st (v := (B true)) (rv_pick_t (congrArg B hb132) rfl) ?_
            refine st (v := (B true)) (rv_move rfl) ?_
            refine st_skip rfl ?_
            refine st_skip rfl ?_
            refine st_skip rfl ?_
            refine st (v := (B true)) (rv_pick_t rfl rfl) ?_
            refine w_end ?_
            obtain rfl := Option.some.inj h
            exact ⟨rfl, _, σ131, fr_join ⟨rfl, rfl, rfl, rfl, trivial⟩, rfl, H.sel' [2, 1] rfl rfl⟩
           ·replace h := bif_f hb132 h
            refine st_g (v := (Sl a119 r113.2.1 c120)) (congrArg some hb132) (rv_move rfl) ?_
            refine st_g (v := (Sl a19 r14.2.1 c20)) (congrArg some hb132) (rv_move rfl) ?_
            obtain ⟨σ133, hw134, H, -⟩ := H.pub 0 rfl (Nat.le_refl _)
            rw [← hw134]; clear hw134
            obtain ⟨σ135, hw136, H, -⟩ := H.pub 3 rfl (Nat.le_refl _)
            rw [← hw136]; clear hw136
            replace H := H.roLow 1 0 rfl (Nat.zero_le _)
            replace H := H.roLow 1 0 rfl (Nat.zero_le _)
            obtain ⟨r137, hx138, h'⟩ := bind_some h
            clear h
            have h := h'; clear h'
            have hc139 := c_laws_eqIntS (aa_0 := a119) (ca_0 := c120) (ab_1 := a19) (cb_1 := c20) hx138
            refine st_call (cx_call hc139 (ent_f hc139.fn rfl) hn0 (show Hp S0 σ0 _ ([Ch.ro 0 (Sl a119 r113.2.1 c120) r113.2.1, Ch.ro 0 (Sl a19 r14.2.1 c20) r14.2.1] ++ [Ch.ro 0 (Sl a19 r14.2.1 c20) r14.2.1, Ch.ro 0 (Sl a119 r113.2.1 c120) r113.2.1, Ch.ro n0 (Sl a19 r14.2.1 c20) r14.2.1, Ch.ro n0 (Sl a119 r113.2.1 c120) r113.2.1, Ch.own 0 0 (Sl a36 r89.2 c37) r89.2, Ch.own 0 0 (Sl a33 r84.2 c34) r84.2]) from (H.sel' [1, 0, 0, 1, 2, 3, 4, 5] rfl rfl))) (wanted_yes rfl (by exact (congrArg some hb132))) ?_
            rintro _ σ140 ⟨_, ⟨rfl, rfl⟩, H, -⟩
            replace H : Hp S0 σ0 σ140 [Ch.ro 0 (Sl a19 r14.2.1 c20) r14.2.1, Ch.ro 0 (Sl a119 r113.2.1 c120) r113.2.1, Ch.ro n0 (Sl a19 r14.2.1 c20) r14.2.1, Ch.ro n0 (Sl a119 r113.2.1 c120) r113.2.1, Ch.own 0 0 (Sl a36 r89.2 c37) r89.2, Ch.own 0 0 (Sl a33 r84.2 c34) r84.2] := H
            refine st_g (v := (B (!r137))) (congrArg some hb132) (rv_not rfl) ?_
            refine st (v := (B (!r137))) (rv_pick_f (congrArg B hb132) rfl) ?_
            refine st (v := (B (!r137))) (rv_move rfl) ?_
            rcases Bool.eq_false_or_eq_true (!r137) with hb141 | hb141
            ·replace h := bif_t hb141 h
             refine st_skip (congrArg some hb141) ?_
             refine st_skip (congrArg some hb141) ?_
             refine st_skip (congrArg some hb141) ?_
             refine st (v := (B true)) (rv_pick_t (congrArg B hb141) rfl) ?_
             refine w_end ?_
             obtain rfl := Option.some.inj h
             exact ⟨rfl, _, σ140, fr_join ⟨rfl, rfl, rfl, rfl, trivial⟩, rfl, H.sel' [5, 4] rfl rfl⟩
            ·replace h := bif_f hb141 h
             refine st_g (v := (B r113.2.2)) (congrArg some hb141) (rv_move rfl) ?_
             refine st_g (v := (B r14.2.2)) (congrArg some hb141) (rv_move rfl) ?_
             refine st_g (v := (B (r113.2.2 != r14.2.2))) (congrArg some hb141) (rv_bneq Try.underlying4 rfl rfl) ?_
             refine st (v := (B (r113.2.2 != r14.2.2))) (rv_pick_f (congrArg B hb141) rfl) ?_
             refine w_end ?_
             obtain rfl := Option.some.inj h
             exact ⟨rfl, _, σ140, fr_join ⟨rfl, rfl, rfl, rfl, trivial⟩, rfl, H.sel' [5, 4] rfl rfl⟩
          ·clear hj
           have h := h'
           clear h' H
           rintro e a w ⟨rfl, ρ, σ142, rfl, rfl, H⟩
           refine q_then ?_
           refine cd_cond o123 rfl (fun hb143 => ?_) (fun hb143 => ?_)
           ·replace h := bif_t hb143 h
            refine c_seq ?_
            refine rg ?_
            refine st (v := (B false)) (rv_assign rfl) ?_
            refine w_end ?_
            refine q_then ?_
            refine c_ret ?_
            refine q_then_r ?_
            obtain rfl := Option.some.inj h
            exact fin_ret (v := (B false)) (results_ok Try.results11 (res_tmp (v := (B false)) rfl res_nil) rfl) ⟨rfl, rfl⟩ (H.sel' [] rfl rfl)
           ·replace h := bif_f hb143 h
            refine c_skip ?_
            refine q_then ?_
            refine c_seq ?_
            refine rg ?_
            refine st (v := (I 1)) (rv_assign rfl) ?_
            refine w_end ?_
            refine q_then ?_
            refine c_seq ?_
            refine rg ?_
            refine st (v := (Sl a33 r84.2 c34)) (rv_move rfl) ?_
            refine st (v := (I 1)) (rv_move rfl) ?_
            obtain ⟨σ144, hw145, H, -⟩ := H.pub 0 rfl (Nat.le_refl _)
            rw [← hw145]; clear hw145
            obtain ⟨r146, hx147, h'⟩ := bind_some h
            clear h
            have h := h'; clear h'
            have hc148 := c_laws_heldIntS (aa_0 := a33) (ca_0 := c34) hx147
            refine st_call (cx_call hc148 (ent_f hc148.fn rfl) hn0 (show Hp S0 σ0 _ ([Ch.ro 0 (Sl a33 r84.2 c34) r84.2] ++ [Ch.ro 0 (Sl a33 r84.2 c34) r84.2, Ch.own 0 0 (Sl a36 r89.2 c37) r89.2]) from (H.sel' [0, 0, 1] rfl rfl))) wn ?_
            rintro _ σ149 ⟨_, ⟨rfl, rfl⟩, H, -⟩
            replace H : Hp S0 σ0 σ149 [Ch.ro 0 (Sl a33 r84.2 c34) r84.2, Ch.own 0 0 (Sl a36 r89.2 c37) r89.2] := H
            refine st (v := (I r146)) (rv_assign rfl) ?_
            refine w_end ?_
            refine q_then ?_
            refine c_seq ?_
            refine c_seq ?_
            refine rg ?_
            refine st (v := (I r146)) (rv_move rfl) ?_
            refine st (v := (B (decide (r146 < 0)))) (rv_lss (a := r146) (b := 0) rfl rfl) ?_
            refine w_end ?_
            refine q_then ?_
            refine cd_cond (decide (r146 < 0)) rfl (fun hb150 => ?_) (fun hb150 => ?_)
            ·replace h := bif_t hb150 h
             refine c_seq ?_
             refine rg ?_
             refine st (v := (B false)) (rv_assign rfl) ?_
             refine w_end ?_
             refine q_then ?_
             refine c_ret ?_
             refine q_then_r ?_
             obtain rfl := Option.some.inj h
             exact fin_ret (v := (B false)) (results_ok Try.results11 (res_tmp (v := (B false)) rfl res_nil) rfl) ⟨rfl, rfl⟩ (H.sel' [] rfl rfl)
            ·replace h := bif_f hb150 h
             refine c_skip ?_
             refine q_then ?_
             refine c_seq ?_
             refine rg ?_
             refine st (v := (Sl a36 r89.2 c37)) (rv_move rfl) ?_
             refine st (v := (I r146)) (rv_move rfl) ?_
             obtain ⟨σ151, hw152, H, -⟩ := H.pub 1 rfl (Nat.le_refl _)
             rw [← hw152]; clear hw152
             obtain ⟨r153, hx154, h'⟩ := bind_some h
             clear h
             have h := h'; clear h'
             have hc155 := c_laws_heldIntS (aa_0 := a36) (ca_0 := c37) hx154
             refine st_call (cx_call hc155 (ent_f hc155.fn rfl) hn0 (show Hp S0 σ0 _ ([Ch.ro 0 (Sl a36 r89.2 c37) r89.2] ++ [Ch.ro 0 (Sl a36 r89.2 c37) r89.2, Ch.ro 0 (Sl a33 r84.2 c34) r84.2]) from (H.sel' [0, 0, 1] rfl rfl))) wn ?_
             rintro _ σ156 ⟨_, ⟨rfl, rfl⟩, H, -⟩
             replace H : Hp S0 σ0 σ156 [Ch.ro 0 (Sl a36 r89.2 c37) r89.2, Ch.ro 0 (Sl a33 r84.2 c34) r84.2] := H
             refine st (v := (I r153)) (rv_assign rfl) ?_
             refine w_end ?_
             refine q_then ?_
             refine c_seq ?_
             refine c_seq ?_
             refine rg ?_
             refine st (v := (I r153)) (rv_move rfl) ?_
             refine st (v := (B (decide (r153 < 0)))) (rv_lss (a := r153) (b := 0) rfl rfl) ?_
             refine w_end ?_
             refine q_then ?_
             refine cd_cond (decide (r153 < 0)) rfl (fun hb157 => ?_) (fun hb157 => ?_)
             ·replace h := bif_t hb157 h
              refine c_seq ?_
              refine rg ?_
              refine st (v := (B false)) (rv_assign rfl) ?_
              refine w_end ?_
              refine q_then ?_
              refine c_ret ?_
              refine q_then_r ?_
              obtain rfl := Option.some.inj h
              exact fin_ret (v := (B false)) (results_ok Try.results11 (res_tmp (v := (B false)) rfl res_nil) rfl) ⟨rfl, rfl⟩ (H.sel' [] rfl rfl)
             ·replace h := bif_f hb157 h
              refine c_skip ?_
              refine q_then ?_
              refine c_seq ?_
              refine c_seq ?_
              refine rg ?_
              refine st (v := (I r153)) (rv_move rfl) ?_
              refine st (v := (I r89.1)) (rv_move rfl) ?_
              refine st (v := (B (r153 != r89.1))) (rv_neq (a := r153) (b := r89.1) rfl rfl) ?_
              refine w_end ?_
              refine q_then ?_
              refine cd_cond (r153 != r89.1) rfl (fun hb158 => ?_) (fun hb158 => ?_)
              ·replace h := bif_t hb158 h
               refine c_seq ?_
               refine rg ?_
               refine st (v := (B false)) (rv_assign rfl) ?_
               refine w_end ?_
               refine q_then ?_
               refine c_ret ?_
               refine q_then_r ?_
               obtain rfl := Option.some.inj h
               exact fin_ret (v := (B false)) (results_ok Try.results11 (res_tmp (v := (B false)) rfl res_nil) rfl) ⟨rfl, rfl⟩ (H.sel' [] rfl rfl)
              ·replace h := bif_f hb158 h
               refine c_skip ?_
               refine q_then ?_
               refine c_seq ?_
               refine rg ?_
               refine st (v := (B true)) (rv_assign rfl) ?_
               refine w_end ?_
               refine q_then ?_
               refine c_ret ?_
               obtain rfl := Option.some.inj h
               exact fin_ret (v := (B true)) (results_ok Try.results11 (res_tmp (v := (B true)) rfl res_nil) rfl) ⟨rfl, rfl⟩ (H.sel' [] rfl rfl)

end Go.Vs
