/- The functions compute what their models say. -/
import Derived.Test.YtnkflplbeagljabKRankScoreFirstC2
set_option linter.unusedVariables false
set_option linter.unusedSimpArgs false
set_option maxRecDepth 20000
namespace Go.Vs
open Go Go.Proofs
attribute [local irreducible] Code.wp Code.wpIn wpList wpListIn wpQuiet Calls CallsIn

theorem c_spec_validHits {list_0 : List (Int × Int)} {alist_0 : Option Addr} {clist_0 : Nat} {r : Bool} (h : M.spec_validHits list_0 = some r) :
    Cal2 Try.prog 41 [(Sl alist_0 list_0 clist_0)] [Ch.ro 0 (Sl alist_0 list_0 clist_0) list_0] (fun n0 v L => v = (B r) ∧ L = []) := by
 refine cal2 (n := 63) Try.func41 rfl rfl rfl rfl ?_
 intro S0 σ0 n0 hn0 H
 unfold M.spec_validHits at h
 refine c_seq ?_
 refine rg ?_
 refine st (v := (B false)) (rv_assign rfl) ?_
 refine w_end ?_
 refine q_then ?_
 refine c_seq ?_
 refine c_seq ?_
 refine rg ?_
 refine st (v := (I 0)) (rv_assign rfl) ?_
 refine w_end ?_
 refine q_then ?_
 obtain ⟨o1, hj, h'⟩ := bind_some h
 clear h
 refine c_cut (fun e a w => (∃ t, o1 = (.inl t) ∧ e = .normal ∧ ∃ (ρ : Nat → Value) (σ : St), a = fr 63 (updL ρ [(0, (Sl alist_0 list_0 clist_0))]) ∧ w = σ.w ∧ Hp S0 σ0 σ [Ch.ro 0 (Sl alist_0 list_0 clist_0) list_0]) ∨ (∃ t, o1 = (.inr t) ∧ e = .ret ∧ ∃ (ρ : Nat → Value) (σ : St), a = fr 63 (updL ρ [(2, (B t))]) ∧ w = σ.w ∧ Hp S0 σ0 σ [])) ?_ ?_
 ·clear h'
  rename _ = some o1 => h
  refine c_blk ?_
  refine wp_loopM _ h (fun s2 a w => ∃ (ρ : Nat → Value) (σ : St), a = fr 63 (updL ρ [(0, (Sl alist_0 list_0 clist_0)), (3, (I s2))]) ∧ w = σ.w ∧ Hp S0 σ0 σ [Ch.ro 0 (Sl alist_0 list_0 clist_0) list_0]) ⟨_, σ0, fr_join ⟨rfl, rfl, trivial⟩, rfl, H.sel' [0] rfl rfl⟩ ?_
  clear h H
  rintro s2 a w o ⟨ρ, σ3, rfl, rfl, H⟩ h hres
  refine c_seq ?_
  refine c_seq ?_
  refine rg ?_
  refine st (v := (I s2)) (rv_move rfl) ?_
  refine st (v := (Sl alist_0 list_0 clist_0)) (rv_move rfl) ?_
  refine st (v := (I (list_0.length : Int))) (rv_len Try.underlying23 rfl) ?_
  refine st (v := (B (decide (s2 < (list_0.length : Int))))) (rv_lss (a := s2) (b := (list_0.length : Int)) rfl rfl) ?_
  refine w_end ?_
  refine q_then ?_
  refine cd_cond (decide (s2 < (list_0.length : Int))) rfl (fun hb4 => ?_) (fun hb4 => ?_)
  ·replace h := bif_t hb4 h
   refine c_skip ?_
   refine q_then ?_
   refine c_seq ?_
   refine c_blk ?_
   refine c_seq ?_
   refine c_seq ?_
   obtain ⟨o5, hj, h'⟩ := bind_some h
   clear h
   refine c_cut (fun e a w => e = .normal ∧ ∃ (ρ : Nat → Value) (σ : St), a = fr 63 (updL ρ [(0, (Sl alist_0 list_0 clist_0)), (3, (I s2)), (43, (B o5))]) ∧ w = σ.w ∧ Hp S0 σ0 σ [Ch.ro 0 (Sl alist_0 list_0 clist_0) list_0]) ?_ ?_
   ·clear h'
    rename _ = some o5 => h
    obtain ⟨x6, hx7, h'⟩ := bind_some h
    clear h
    have h := h'; clear h'
    obtain ⟨b9, o10, hi8, -⟩ := (H.ro 0 rfl).ix hx7
    have hc11 := ((H.ro 0 rfl).at hx7 hi8).fst.int
    obtain ⟨r12, hx13, h'⟩ := bind_some h
    clear h
    have h := h'; clear h'
    have hc14 := c_spec_inRange hx13
    rcases Bool.eq_false_or_eq_true (!r12) with hb15 | hb15
    ·replace h := bif_t hb15 h
     have Hs := H
     refine rg2 (σ := σ3) (Nm := Unit) 29 [5] [[false], [true]] [[(0, 0)], [(0, 0)], [(0, 0)], [(0, 0)], [(0, 0)], [(0, 1)], [(1, 1)], [(1, 1)], [(1, 1)], [(1, 1)], [(1, 1)], [(1, 1)], [(1, 1)], [(1, 1)], [(1, 1)], [(1, 1)], [(1, 1)], [(1, 1)], [(1, 1)], [(1, 1)], [(1, 1)], [(1, 1)], [(1, 1)], [(1, 1)], [(1, 1)], [(1, 1)], [(1, 1)], [(1, 1)], [(1, 1)]] 1 [fun _ => fun σm => Hp S0 σ0 σm [Ch.ro 0 (Sl alist_0 list_0 clist_0) list_0] ∧ Md (cov []) σ3 σm, fun _ => fun σm => Hp S0 σ0 σm [Ch.ro 0 (Sl alist_0 list_0 clist_0) list_0] ∧ Md (cov []) σ3 σm] [fun _ => (Sl alist_0 list_0 clist_0), fun _ => (I s2), fun _ => (pt b9 o10), fun _ => (pt b9 (o10 + 0)), fun _ => (I x6.1), fun _ => (B r12), fun _ => (B (!r12)), fun _ => (B (!r12)), fun _ => undef, fun _ => undef, fun _ => undef, fun _ => undef, fun _ => undef, fun _ => undef, fun _ => undef, fun _ => (B true), fun _ => (B true), fun _ => undef, fun _ => undef, fun _ => undef, fun _ => undef, fun _ => undef, fun _ => undef, fun _ => undef, fun _ => undef, fun _ => undef, fun _ => undef, fun _ => undef, fun _ => undef] () (by kernel_rfl) (by kernel_rfl) ?_ ?_ ?_
     ·intro σm m0
      exact ⟨H.grow (m0.mono fun _ h => h.elim), m0⟩
     ·refine ac rfl (by
        intro k _nm ρ σm hJ hoff hdep
        have e0 := look_off (N := 63) (hoff 0 rfl) rfl
        exact dp_v (v := (Sl alist_0 list_0 clist_0)) wn (rv_move e0) rfl hJ) ?_
      refine ac rfl (by
        intro k _nm ρ σm hJ hoff hdep
        have e3 := look_off (N := 63) (hoff 3 rfl) rfl
        exact dp_v (v := (I s2)) wn (rv_move e3) rfl hJ) ?_
      refine ac rfl (by
        intro k _nm ρ σm hJ hoff hdep
        have e11 := hdep 0 rfl rfl 11 rfl
        have e12 := hdep 1 rfl rfl 12 rfl
        exact dp_v (v := (pt b9 o10)) wn (rv_ix Try.underlying23 ti40 e11 e12 hi8) rfl hJ) ?_
      refine ac rfl (by
        intro k _nm ρ σm hJ hoff hdep
        have e13 := hdep 2 rfl rfl 13 rfl
        exact dp_v (v := (pt b9 (o10 + 0))) wn (rv_fieldAddr (off := 0) (ft := 3) Try.underlying40 rfl ti3 rfl e13) rfl hJ) ?_
      refine all_cons (by
        refine ⟨?_, ?_⟩
        ·intro _nm ρ σm hJ hoff hdep
         have e14 := hdep 3 rfl rfl 14 rfl
         obtain ⟨H, m⟩ := id hJ
         replace hc11 := (Hs.ro 0 rfl).hmd hx7 hi8 (k := 0) (by decide) hc11 m
         exact dp_v (v := (I x6.1)) wn (rv_load1 Try.underlying3 rfl e14 hc11) rfl hJ
        trivial) ?_
      refine all_cons (by
        refine ⟨?_, ?_⟩
        ·intro _nm ρ σm hJ hoff hdep
         have e15 : look 63 ρ 15 = (I x6.1) := hdep 4 rfl rfl 15 rfl
         obtain ⟨H, m⟩ := id hJ
         refine dp_cx wn (cx_call hc14 (ent_f hc14.fn (by show [look 63 ρ 15, (I 1), (I 99)] = _; rw [e15])) hn0 (show Hp S0 σ0 _ ([] ++ [Ch.ro 0 (Sl alist_0 list_0 clist_0) list_0]) from (H.sel' [0] rfl rfl))) ?_
         rintro _ σq ⟨_, ⟨rfl, rfl⟩, H2, m2⟩
         exact ⟨_, (), rfl, rfl, ⟨H2.sel' [0] rfl rfl, m.comp0 m2⟩, stab [0, 1, 2, 3, 4] (by kernel_rfl) ⟨rfl, rfl, rfl, rfl, rfl, trivial⟩⟩
        trivial) ?_
      refine ac rfl (by
        intro k _nm ρ σm hJ hoff hdep
        have e16 := hdep 5 rfl rfl 16 rfl
        exact dp_v (v := (B (!r12))) wn (rv_not e16) rfl hJ) ?_
      refine ac rfl (by
        intro k _nm ρ σm hJ hoff hdep
        have e17 := hdep 6 rfl rfl 17 rfl
        exact dp_v (v := (B (!r12))) wn (rv_move e17) rfl hJ) ?_
      refine ac rfl (by
        intro k _nm ρ σm hJ hoff hdep
        have e18 := hdep 7 rfl rfl 18 rfl
        exact dp_skip (wanted_no rfl (yv_of rfl (e18.trans (congrArg B hb15)))) rfl hJ) ?_
      refine ac rfl (by
        intro k _nm ρ σm hJ hoff hdep
        have e18 := hdep 7 rfl rfl 18 rfl
        exact dp_skip (wanted_no rfl (yv_of rfl (e18.trans (congrArg B hb15)))) rfl hJ) ?_
      refine ac rfl (by
        intro k _nm ρ σm hJ hoff hdep
        have e18 := hdep 7 rfl rfl 18 rfl
        exact dp_skip (wanted_no rfl (yv_of rfl (e18.trans (congrArg B hb15)))) rfl hJ) ?_
      refine ac rfl (by
        intro k _nm ρ σm hJ hoff hdep
        have e18 := hdep 7 rfl rfl 18 rfl
        exact dp_skip (wanted_no rfl (yv_of rfl (e18.trans (congrArg B hb15)))) rfl hJ) ?_
      refine ac rfl (by
        intro k _nm ρ σm hJ hoff hdep
        have e18 := hdep 7 rfl rfl 18 rfl
        exact dp_skip (wanted_no rfl (yv_of rfl (e18.trans (congrArg B hb15)))) rfl hJ) ?_
      refine ac rfl (by
        intro k _nm ρ σm hJ hoff hdep
        have e18 := hdep 7 rfl rfl 18 rfl
        exact dp_skip (wanted_no rfl (yv_of rfl (e18.trans (congrArg B hb15)))) rfl hJ) ?_
      refine ac rfl (by
        intro k _nm ρ σm hJ hoff hdep
        have e18 := hdep 7 rfl rfl 18 rfl
        exact dp_skip (wanted_no rfl (yv_of rfl (e18.trans (congrArg B hb15)))) rfl hJ) ?_
      refine ac rfl (by
        intro k _nm ρ σm hJ hoff hdep
        have e18 := hdep 7 rfl rfl 18 rfl
        exact dp_v (v := (B true)) wn (rv_pick_t (e18.trans (congrArg B hb15)) rfl) rfl hJ) ?_
      refine ac rfl (by
        intro k _nm ρ σm hJ hoff hdep
        have e26 := hdep 15 rfl rfl 26 rfl
        exact dp_v (v := (B true)) wn (rv_move e26) rfl hJ) ?_
      refine ac rfl (by
        intro k _nm ρ σm hJ hoff hdep
        have e27 := hdep 16 rfl rfl 27 rfl
        exact dp_skip (wanted_no rfl (yv_of rfl e27)) rfl hJ) ?_
      refine ac rfl (by
        intro k _nm ρ σm hJ hoff hdep
        have e27 := hdep 16 rfl rfl 27 rfl
        exact dp_skip (wanted_no rfl (yv_of rfl e27)) rfl hJ) ?_
      refine ac rfl (by
        intro k _nm ρ σm hJ hoff hdep
        have e27 := hdep 16 rfl rfl 27 rfl
        exact dp_skip (wanted_no rfl (yv_of rfl e27)) rfl hJ) ?_
      refine ac rfl (by
        intro k _nm ρ σm hJ hoff hdep
        have e30 := hdep 19 rfl rfl 30 rfl
        exact dp_skip (wanted_u rfl (yv_undef rfl e30)) rfl hJ) ?_
      refine ac rfl (by
        intro k _nm ρ σm hJ hoff hdep
        have e30 := hdep 19 rfl rfl 30 rfl
        exact dp_skip (wanted_u rfl (yv_undef rfl e30)) rfl hJ) ?_
      refine ac rfl (by
        intro k _nm ρ σm hJ hoff hdep
        have e30 := hdep 19 rfl rfl 30 rfl
        exact dp_skip (wanted_u rfl (yv_undef rfl e30)) rfl hJ) ?_
      refine ac rfl (by
        intro k _nm ρ σm hJ hoff hdep
        have e30 := hdep 19 rfl rfl 30 rfl
        exact dp_skip (wanted_u rfl (yv_undef rfl e30)) rfl hJ) ?_
      refine ac rfl (by
        intro k _nm ρ σm hJ hoff hdep
        have e30 := hdep 19 rfl rfl 30 rfl
        exact dp_skip (wanted_u rfl (yv_undef rfl e30)) rfl hJ) ?_
      refine ac rfl (by
        intro k _nm ρ σm hJ hoff hdep
        have e30 := hdep 19 rfl rfl 30 rfl
        exact dp_skip (wanted_u rfl (yv_undef rfl e30)) rfl hJ) ?_
      refine ac rfl (by
        intro k _nm ρ σm hJ hoff hdep
        have e30 := hdep 19 rfl rfl 30 rfl
        exact dp_skip (wanted_u rfl (yv_undef rfl e30)) rfl hJ) ?_
      refine ac rfl (by
        intro k _nm ρ σm hJ hoff hdep
        have e30 := hdep 19 rfl rfl 30 rfl
        exact dp_skip (wanted_u rfl (yv_undef rfl e30)) rfl hJ) ?_
      refine ac rfl (by
        intro k _nm ρ σm hJ hoff hdep
        have e30 := hdep 19 rfl rfl 30 rfl
        exact dp_skip (wanted_u rfl (yv_undef rfl e30)) rfl hJ) ?_
      exact all_nil
     ·intro _nm ρ σ16 hJ hoff hrel
      have e0 := look_off (N := 63) (hoff 0 rfl) rfl
      have e3 := look_off (N := 63) (hoff 3 rfl) rfl
      have e27 := hrel 16 rfl 27 rfl
      have e30 := hrel 19 rfl 30 rfl
      have e35 := hrel 24 rfl 35 rfl
      have e39 := hrel 28 rfl 39 rfl
      obtain ⟨H, -⟩ := (show Hp S0 σ0 σ16 [Ch.ro 0 (Sl alist_0 list_0 clist_0) list_0] ∧ Md (cov []) σ3 σ16 from hJ)
      clear hJ Hs
      rw [fr_lookL (L := [(0, (Sl alist_0 list_0 clist_0)), (3, (I s2)), (27, (B true)), (30, undef), (35, undef), (39, undef)]) ⟨e0, e3, e27, e30, e35, e39, trivial⟩]
      clear hoff hrel e0 e3 e27 e30 e35 e39
      refine st_skip_u rfl ?_
      refine st_skip_u rfl ?_
      refine st_skip rfl ?_
      refine st (v := (B true)) (rv_pick_t rfl rfl) ?_
      refine w_end ?_
      obtain rfl := Option.some.inj h
      exact ⟨rfl, _, σ16, fr_join ⟨rfl, rfl, rfl, trivial⟩, rfl, H.sel' [0] rfl rfl⟩
    ·replace h := bif_f hb15 h
     obtain ⟨x17, hx18, h'⟩ := bind_some h
     clear h
     have h := h'; clear h'
     obtain ⟨b20, o21, hi19, -⟩ := (H.ro 0 rfl).ix hx18
     have hc22 := ((H.ro 0 rfl).at hx18 hi19).snd.int
     obtain ⟨r23, hx24, h'⟩ := bind_some h
     clear h
     have h := h'; clear h'
     have hc25 := c_spec_inRange hx24
     rcases Bool.eq_false_or_eq_true (!r23) with hb26 | hb26
     ·replace h := bif_t hb26 h
      have Hs := H
      refine rg2 (σ := σ3) (Nm := Unit) 29 [5, 13] [[false, false], [true, false], [true, true]] [[(0, 0)], [(0, 0)], [(0, 0)], [(0, 0)], [(0, 0)], [(0, 1)], [(1, 1)], [(1, 1)], [(1, 1)], [(1, 1)], [(1, 1)], [(1, 1)], [(1, 1)], [(1, 2)], [(2, 2)], [(2, 2)], [(2, 2)], [(2, 2)], [(2, 2)], [(2, 2)], [(2, 2)], [(2, 2)], [(2, 2)], [(2, 2)], [(2, 2)], [(2, 2)], [(2, 2)], [(2, 2)], [(2, 2)]] 2 [fun _ => fun σm => Hp S0 σ0 σm [Ch.ro 0 (Sl alist_0 list_0 clist_0) list_0] ∧ Md (cov []) σ3 σm, fun _ => fun σm => Hp S0 σ0 σm [Ch.ro 0 (Sl alist_0 list_0 clist_0) list_0] ∧ Md (cov []) σ3 σm, fun _ => fun σm => Hp S0 σ0 σm [Ch.ro 0 (Sl alist_0 list_0 clist_0) list_0] ∧ Md (cov []) σ3 σm] [fun _ => (Sl alist_0 list_0 clist_0), fun _ => (I s2), fun _ => (pt b9 o10), fun _ => (pt b9 (o10 + 0)), fun _ => (I x6.1), fun _ => (B r12), fun _ => (B (!r12)), fun _ => (B (!r12)), fun _ => (Sl alist_0 list_0 clist_0), fun _ => (I s2), fun _ => (pt b20 o21), fun _ => (pt b20 (o21 + 1)), fun _ => (I x17.2), fun _ => (B r23), fun _ => (B (!r23)), fun _ => (B (!r23)), fun _ => (B (!r23)), fun _ => undef, fun _ => undef, fun _ => undef, fun _ => undef, fun _ => undef, fun _ => undef, fun _ => undef, fun _ => undef, fun _ => undef, fun _ => undef, fun _ => undef, fun _ => undef] () (by kernel_rfl) (by kernel_rfl) ?_ ?_ ?_
      ·intro σm m0
       exact ⟨H.grow (m0.mono fun _ h => h.elim), m0⟩
      ·refine ac rfl (by
         intro k _nm ρ σm hJ hoff hdep
         have e0 := look_off (N := 63) (hoff 0 rfl) rfl
         exact dp_v (v := (Sl alist_0 list_0 clist_0)) wn (rv_move e0) rfl hJ) ?_
       refine ac rfl (by
         intro k _nm ρ σm hJ hoff hdep
         have e3 := look_off (N := 63) (hoff 3 rfl) rfl
         exact dp_v (v := (I s2)) wn (rv_move e3) rfl hJ) ?_
       refine ac rfl (by
         intro k _nm ρ σm hJ hoff hdep
         have e11 := hdep 0 rfl rfl 11 rfl
         have e12 := hdep 1 rfl rfl 12 rfl
         exact dp_v (v := (pt b9 o10)) wn (rv_ix Try.underlying23 ti40 e11 e12 hi8) rfl hJ) ?_
       refine ac rfl (by
         intro k _nm ρ σm hJ hoff hdep
         have e13 := hdep 2 rfl rfl 13 rfl
         exact dp_v (v := (pt b9 (o10 + 0))) wn (rv_fieldAddr (off := 0) (ft := 3) Try.underlying40 rfl ti3 rfl e13) rfl hJ) ?_
       refine all_cons (by
         refine ⟨?_, ?_⟩
         ·intro _nm ρ σm hJ hoff hdep
          have e14 := hdep 3 rfl rfl 14 rfl
          obtain ⟨H, m⟩ := id hJ
          replace hc11 := (Hs.ro 0 rfl).hmd hx7 hi8 (k := 0) (by decide) hc11 m
          exact dp_v (v := (I x6.1)) wn (rv_load1 Try.underlying3 rfl e14 hc11) rfl hJ
         trivial) ?_
       refine all_cons (by
         refine ⟨?_, ?_⟩
         ·intro _nm ρ σm hJ hoff hdep
          have e15 : look 63 ρ 15 = (I x6.1) := hdep 4 rfl rfl 15 rfl
          obtain ⟨H, m⟩ := id hJ
          refine dp_cx wn (cx_call hc14 (ent_f hc14.fn (by show [look 63 ρ 15, (I 1), (I 99)] = _; rw [e15])) hn0 (show Hp S0 σ0 _ ([] ++ [Ch.ro 0 (Sl alist_0 list_0 clist_0) list_0]) from (H.sel' [0] rfl rfl))) ?_
          rintro _ σq ⟨_, ⟨rfl, rfl⟩, H2, m2⟩
          exact ⟨_, (), rfl, rfl, ⟨H2.sel' [0] rfl rfl, m.comp0 m2⟩, stab [0, 1, 2, 3, 4] (by kernel_rfl) ⟨rfl, rfl, rfl, rfl, rfl, trivial⟩⟩
         trivial) ?_
       refine ac rfl (by
         intro k _nm ρ σm hJ hoff hdep
         have e16 := hdep 5 rfl rfl 16 rfl
         exact dp_v (v := (B (!r12))) wn (rv_not e16) rfl hJ) ?_
       refine ac rfl (by
         intro k _nm ρ σm hJ hoff hdep
         have e17 := hdep 6 rfl rfl 17 rfl
         exact dp_v (v := (B (!r12))) wn (rv_move e17) rfl hJ) ?_
       refine ac rfl (by
         intro k _nm ρ σm hJ hoff hdep
         have e0 := look_off (N := 63) (hoff 0 rfl) rfl
         have e18 := hdep 7 rfl rfl 18 rfl
         exact dp_v (v := (Sl alist_0 list_0 clist_0)) (wanted_yes rfl (yv_of rfl (e18.trans (congrArg B hb15)))) (rv_move e0) rfl hJ) ?_
       refine ac rfl (by
         intro k _nm ρ σm hJ hoff hdep
         have e3 := look_off (N := 63) (hoff 3 rfl) rfl
         have e18 := hdep 7 rfl rfl 18 rfl
         exact dp_v (v := (I s2)) (wanted_yes rfl (yv_of rfl (e18.trans (congrArg B hb15)))) (rv_move e3) rfl hJ) ?_
       refine ac rfl (by
         intro k _nm ρ σm hJ hoff hdep
         have e19 := hdep 8 rfl rfl 19 rfl
         have e20 := hdep 9 rfl rfl 20 rfl
         have e18 := hdep 7 rfl rfl 18 rfl
         exact dp_v (v := (pt b20 o21)) (wanted_yes rfl (yv_of rfl (e18.trans (congrArg B hb15)))) (rv_ix Try.underlying23 ti40 e19 e20 hi19) rfl hJ) ?_
       refine ac rfl (by
         intro k _nm ρ σm hJ hoff hdep
         have e21 := hdep 10 rfl rfl 21 rfl
         have e18 := hdep 7 rfl rfl 18 rfl
         exact dp_v (v := (pt b20 (o21 + 1))) (wanted_yes rfl (yv_of rfl (e18.trans (congrArg B hb15)))) (rv_fieldAddr (off := 1) (ft := 3) Try.underlying40 rfl ti3 rfl e21) rfl hJ) ?_
       refine all_cons (by
         refine ⟨?_, ?_⟩
         ·intro _nm ρ σm hJ hoff hdep
          have e22 := hdep 11 rfl rfl 22 rfl
          have e18 := hdep 7 rfl rfl 18 rfl
          obtain ⟨H, m⟩ := id hJ
          replace hc22 := (Hs.ro 0 rfl).hmd hx18 hi19 (k := 1) (by decide) hc22 m
          exact dp_v (v := (I x17.2)) (wanted_yes rfl (yv_of rfl (e18.trans (congrArg B hb15)))) (rv_load1 Try.underlying3 rfl e22 hc22) rfl hJ
         trivial) ?_
       refine all_cons (by
         refine ⟨?_, ?_⟩
         ·intro _nm ρ σm hJ hoff hdep
          have e23 : look 63 ρ 23 = (I x17.2) := hdep 12 rfl rfl 23 rfl
          have e18 := hdep 7 rfl rfl 18 rfl
          obtain ⟨H, m⟩ := id hJ
          refine dp_cx (wanted_yes rfl (yv_of rfl (e18.trans (congrArg B hb15)))) (cx_call hc25 (ent_f hc25.fn (by show [look 63 ρ 23, (I 0), (I 1000000)] = _; rw [e23])) hn0 (show Hp S0 σ0 _ ([] ++ [Ch.ro 0 (Sl alist_0 list_0 clist_0) list_0]) from (H.sel' [0] rfl rfl))) ?_
          rintro _ σq ⟨_, ⟨rfl, rfl⟩, H2, m2⟩
          exact ⟨_, (), rfl, rfl, ⟨H2.sel' [0] rfl rfl, m.comp0 m2⟩, stab [0, 1, 2, 3, 4, 5, 6, 7, 8, 9, 10, 11, 12] (by kernel_rfl) ⟨rfl, rfl, rfl, rfl, rfl, rfl, rfl, rfl, rfl, rfl, rfl, rfl, rfl, trivial⟩⟩
         trivial) ?_
       refine ac rfl (by
         intro k _nm ρ σm hJ hoff hdep
         have e24 := hdep 13 rfl rfl 24 rfl
         have e18 := hdep 7 rfl rfl 18 rfl
         exact dp_v (v := (B (!r23))) (wanted_yes rfl (yv_of rfl (e18.trans (congrArg B hb15)))) (rv_not e24) rfl hJ) ?_
       refine ac rfl (by
         intro k _nm ρ σm hJ hoff hdep
         have e18 := hdep 7 rfl rfl 18 rfl
         have e25 := hdep 14 rfl rfl 25 rfl
         exact dp_v (v := (B (!r23))) wn (rv_pick_f (e18.trans (congrArg B hb15)) e25) rfl hJ) ?_
       refine ac rfl (by
         intro k _nm ρ σm hJ hoff hdep
         have e26 := hdep 15 rfl rfl 26 rfl
         exact dp_v (v := (B (!r23))) wn (rv_move e26) rfl hJ) ?_
       refine ac rfl (by
         intro k _nm ρ σm hJ hoff hdep
         have e27 := hdep 16 rfl rfl 27 rfl
         exact dp_skip (wanted_no rfl (yv_of rfl (e27.trans (congrArg B hb26)))) rfl hJ) ?_
       refine ac rfl (by
         intro k _nm ρ σm hJ hoff hdep
         have e27 := hdep 16 rfl rfl 27 rfl
         exact dp_skip (wanted_no rfl (yv_of rfl (e27.trans (congrArg B hb26)))) rfl hJ) ?_
       refine ac rfl (by
         intro k _nm ρ σm hJ hoff hdep
         have e27 := hdep 16 rfl rfl 27 rfl
         exact dp_skip (wanted_no rfl (yv_of rfl (e27.trans (congrArg B hb26)))) rfl hJ) ?_
       refine ac rfl (by
         intro k _nm ρ σm hJ hoff hdep
         have e30 := hdep 19 rfl rfl 30 rfl
         exact dp_skip (wanted_u rfl (yv_undef rfl e30)) rfl hJ) ?_
       refine ac rfl (by
         intro k _nm ρ σm hJ hoff hdep
         have e30 := hdep 19 rfl rfl 30 rfl
         exact dp_skip (wanted_u rfl (yv_undef rfl e30)) rfl hJ) ?_
       refine ac rfl (by
         intro k _nm ρ σm hJ hoff hdep
         have e30 := hdep 19 rfl rfl 30 rfl
         exact dp_skip (wanted_u rfl (yv_undef rfl e30)) rfl hJ) ?_
       refine ac rfl (by
         intro k _nm ρ σm hJ hoff hdep
         have e30 := hdep 19 rfl rfl 30 rfl
         exact dp_skip (wanted_u rfl (yv_undef rfl e30)) rfl hJ) ?_
       refine ac rfl (by
         intro k _nm ρ σm hJ hoff hdep
         have e30 := hdep 19 rfl rfl 30 rfl
         exact dp_skip (wanted_u rfl (yv_undef rfl e30)) rfl hJ) ?_
       refine ac rfl (by
         intro k _nm ρ σm hJ hoff hdep
         have e30 := hdep 19 rfl rfl 30 rfl
         exact dp_skip (wanted_u rfl (yv_undef rfl e30)) rfl hJ) ?_
       refine ac rfl (by
         intro k _nm ρ σm hJ hoff hdep
         have e30 := hdep 19 rfl rfl 30 rfl
         exact dp_skip (wanted_u rfl (yv_undef rfl e30)) rfl hJ) ?_
       refine ac rfl (by
         intro k _nm ρ σm hJ hoff hdep
         have e30 := hdep 19 rfl rfl 30 rfl
         exact dp_skip (wanted_u rfl (yv_undef rfl e30)) rfl hJ) ?_
       refine ac rfl (by
         intro k _nm ρ σm hJ hoff hdep
         have e30 := hdep 19 rfl rfl 30 rfl
         exact dp_skip (wanted_u rfl (yv_undef rfl e30)) rfl hJ) ?_
       exact all_nil
      ·intro _nm ρ σ27 hJ hoff hrel
       have e0 := look_off (N := 63) (hoff 0 rfl) rfl
       have e3 := look_off (N := 63) (hoff 3 rfl) rfl
       have e27 := hrel 16 rfl 27 rfl
       have e30 := hrel 19 rfl 30 rfl
       have e35 := hrel 24 rfl 35 rfl
       have e39 := hrel 28 rfl 39 rfl
       obtain ⟨H, -⟩ := (show Hp S0 σ0 σ27 [Ch.ro 0 (Sl alist_0 list_0 clist_0) list_0] ∧ Md (cov []) σ3 σ27 from hJ)
       clear hJ Hs
       rw [fr_lookL (L := [(0, (Sl alist_0 list_0 clist_0)), (3, (I s2)), (27, (B (!r23))), (30, undef), (35, undef), (39, undef)]) ⟨e0, e3, e27, e30, e35, e39, trivial⟩]
       clear hoff hrel e0 e3 e27 e30 e35 e39
       refine st_skip_u rfl ?_
       refine st_skip_u rfl ?_
       refine st_skip (congrArg some hb26) ?_
       refine st (v := (B true)) (rv_pick_t (congrArg B hb26) rfl) ?_
       refine w_end ?_
       obtain rfl := Option.some.inj h
       exact ⟨rfl, _, σ27, fr_join ⟨rfl, rfl, rfl, trivial⟩, rfl, H.sel' [0] rfl rfl⟩
     ·replace h := bif_f hb26 h
      rcases Bool.eq_false_or_eq_true (decide (0 < s2)) with hb28 | hb28
      ·replace h := bif_t hb28 h
       obtain ⟨x29, hx30, h'⟩ := bind_some h
       clear h
       have h := h'; clear h'
       obtain ⟨b32, o33, hi31, -⟩ := (H.ro 0 rfl).ix hx30
       obtain ⟨_, ⟨_, _, rfl, rfl, rfl⟩, hl34, hc35⟩ := ((H.ro 0 rfl).at hx30 hi31).cells
       obtain ⟨x36, hx37, h'⟩ := bind_some h
       clear h
       have h := h'; clear h'
       obtain ⟨b39, o40, hi38, -⟩ := (H.ro 0 rfl).ix hx37
       obtain ⟨_, ⟨_, _, rfl, rfl, rfl⟩, hl41, hc42⟩ := ((H.ro 0 rfl).at hx37 hi38).cells
       have Hs := H
       refine rg2 (σ := σ3) (Nm := Unit) 29 [5, 13] [[false, false], [true, false], [true, true]] [[(0, 0)], [(0, 0)], [(0, 0)], [(0, 0)], [(0, 0)], [(0, 1)], [(1, 1)], [(1, 1)], [(1, 1)], [(1, 1)], [(1, 1)], [(1, 1)], [(1, 1)], [(1, 2)], [(2, 2)], [(2, 2)], [(2, 2)], [(2, 2)], [(2, 2)], [(2, 2)], [(2, 2)], [(2, 2)], [(2, 2)], [(2, 2)], [(2, 2)], [(2, 2)], [(2, 2)], [(2, 2)], [(2, 2)]] 2 [fun _ => fun σm => Hp S0 σ0 σm [Ch.ro 0 (Sl alist_0 list_0 clist_0) list_0] ∧ Md (cov []) σ3 σm, fun _ => fun σm => Hp S0 σ0 σm [Ch.ro 0 (Sl alist_0 list_0 clist_0) list_0] ∧ Md (cov []) σ3 σm, fun _ => fun σm => Hp S0 σ0 σm [Ch.ro 0 (Sl alist_0 list_0 clist_0) list_0] ∧ Md (cov []) σ3 σm] [fun _ => (Sl alist_0 list_0 clist_0), fun _ => (I s2), fun _ => (pt b9 o10), fun _ => (pt b9 (o10 + 0)), fun _ => (I x6.1), fun _ => (B r12), fun _ => (B (!r12)), fun _ => (B (!r12)), fun _ => (Sl alist_0 list_0 clist_0), fun _ => (I s2), fun _ => (pt b20 o21), fun _ => (pt b20 (o21 + 1)), fun _ => (I x17.2), fun _ => (B r23), fun _ => (B (!r23)), fun _ => (B (!r23)), fun _ => (B (!r23)), fun _ => (I s2), fun _ => (B (decide (0 < s2))), fun _ => (B (decide (0 < s2))), fun _ => (Sl alist_0 list_0 clist_0), fun _ => (I s2), fun _ => (I (w64 (s2 - 1))), fun _ => (pt b32 o33), fun _ => (.agg #[(I x29.1), (I x29.2)]), fun _ => (Sl alist_0 list_0 clist_0), fun _ => (I s2), fun _ => (pt b39 o40), fun _ => (.agg #[(I x36.1), (I x36.2)])] () (by kernel_rfl) (by kernel_rfl) ?_ ?_ ?_
       ·intro σm m0
        exact ⟨H.grow (m0.mono fun _ h => h.elim), m0⟩
       ·refine ac rfl (by
          intro k _nm ρ σm hJ hoff hdep
          have e0 := look_off (N := 63) (hoff 0 rfl) rfl
          exact dp_v (v := (Sl alist_0 list_0 clist_0)) wn (rv_move e0) rfl hJ) ?_
        refine ac rfl (by
          intro k _nm ρ σm hJ hoff hdep
          have e3 := look_off (N := 63) (hoff 3 rfl) rfl
          exact dp_v (v := (I s2)) wn (rv_move e3) rfl hJ) ?_
        refine ac rfl (by
          intro k _nm ρ σm hJ hoff hdep
          have e11 := hdep 0 rfl rfl 11 rfl
          have e12 := hdep 1 rfl rfl 12 rfl
          exact dp_v (v := (pt b9 o10)) wn (rv_ix Try.underlying23 ti40 e11 e12 hi8) rfl hJ) ?_
        refine ac rfl (by
          intro k _nm ρ σm hJ hoff hdep
          have e13 := hdep 2 rfl rfl 13 rfl
          exact dp_v (v := (pt b9 (o10 + 0))) wn (rv_fieldAddr (off := 0) (ft := 3) Try.underlying40 rfl ti3 rfl e13) rfl hJ) ?_
        refine all_cons (by
          refine ⟨?_, ?_⟩
          ·intro _nm ρ σm hJ hoff hdep
           have e14 := hdep 3 rfl rfl 14 rfl
           obtain ⟨H, m⟩ := id hJ
           replace hc11 := (Hs.ro 0 rfl).hmd hx7 hi8 (k := 0) (by decide) hc11 m
           exact dp_v (v := (I x6.1)) wn (rv_load1 Try.underlying3 rfl e14 hc11) rfl hJ
          trivial) ?_
        refine all_cons (by
          refine ⟨?_, ?_⟩
          ·intro _nm ρ σm hJ hoff hdep
           have e15 : look 63 ρ 15 = (I x6.1) := hdep 4 rfl rfl 15 rfl
           obtain ⟨H, m⟩ := id hJ
           refine dp_cx wn (cx_call hc14 (ent_f hc14.fn (by show [look 63 ρ 15, (I 1), (I 99)] = _; rw [e15])) hn0 (show Hp S0 σ0 _ ([] ++ [Ch.ro 0 (Sl alist_0 list_0 clist_0) list_0]) from (H.sel' [0] rfl rfl))) ?_
           rintro _ σq ⟨_, ⟨rfl, rfl⟩, H2, m2⟩
           exact ⟨_, (), rfl, rfl, ⟨H2.sel' [0] rfl rfl, m.comp0 m2⟩, stab [0, 1, 2, 3, 4] (by kernel_rfl) ⟨rfl, rfl, rfl, rfl, rfl, trivial⟩⟩
          trivial) ?_
        refine ac rfl (by
          intro k _nm ρ σm hJ hoff hdep
          have e16 := hdep 5 rfl rfl 16 rfl
          exact dp_v (v := (B (!r12))) wn (rv_not e16) rfl hJ) ?_
        refine ac rfl (by
          intro k _nm ρ σm hJ hoff hdep
          have e17 := hdep 6 rfl rfl 17 rfl
          exact dp_v (v := (B (!r12))) wn (rv_move e17) rfl hJ) ?_
        refine ac rfl (by
          intro k _nm ρ σm hJ hoff hdep
          have e0 := look_off (N := 63) (hoff 0 rfl) rfl
          have e18 := hdep 7 rfl rfl 18 rfl
          exact dp_v (v := (Sl alist_0 list_0 clist_0)) (wanted_yes rfl (yv_of rfl (e18.trans (congrArg B hb15)))) (rv_move e0) rfl hJ) ?_
        refine ac rfl (by
          intro k _nm ρ σm hJ hoff hdep
          have e3 := look_off (N := 63) (hoff 3 rfl) rfl
          have e18 := hdep 7 rfl rfl 18 rfl
          exact dp_v (v := (I s2)) (wanted_yes rfl (yv_of rfl (e18.trans (congrArg B hb15)))) (rv_move e3) rfl hJ) ?_
        refine ac rfl (by
          intro k _nm ρ σm hJ hoff hdep
          have e19 := hdep 8 rfl rfl 19 rfl
          have e20 := hdep 9 rfl rfl 20 rfl
          have e18 := hdep 7 rfl rfl 18 rfl
          exact dp_v (v := (pt b20 o21)) (wanted_yes rfl (yv_of rfl (e18.trans (congrArg B hb15)))) (rv_ix Try.underlying23 ti40 e19 e20 hi19) rfl hJ) ?_
        refine ac rfl (by
          intro k _nm ρ σm hJ hoff hdep
          have e21 := hdep 10 rfl rfl 21 rfl
          have e18 := hdep 7 rfl rfl 18 rfl
          exact dp_v (v := (pt b20 (o21 + 1))) (wanted_yes rfl (yv_of rfl (e18.trans (congrArg B hb15)))) (rv_fieldAddr (off := 1) (ft := 3) Try.underlying40 rfl ti3 rfl e21) rfl hJ) ?_
        refine all_cons (by
          refine ⟨?_, ?_⟩
          ·intro _nm ρ σm hJ hoff hdep
           have e22 := hdep 11 rfl rfl 22 rfl
           have e18 := hdep 7 rfl rfl 18 rfl
           obtain ⟨H, m⟩ := id hJ
           replace hc22 := (Hs.ro 0 rfl).hmd hx18 hi19 (k := 1) (by decide) hc22 m
           exact dp_v (v := (I x17.2)) (wanted_yes rfl (yv_of rfl (e18.trans (congrArg B hb15)))) (rv_load1 Try.underlying3 rfl e22 hc22) rfl hJ
          trivial) ?_
        refine all_cons (by
          refine ⟨?_, ?_⟩
          ·intro _nm ρ σm hJ hoff hdep
           have e23 : look 63 ρ 23 = (I x17.2) := hdep 12 rfl rfl 23 rfl
           have e18 := hdep 7 rfl rfl 18 rfl
           obtain ⟨H, m⟩ := id hJ
           refine dp_cx (wanted_yes rfl (yv_of rfl (e18.trans (congrArg B hb15)))) (cx_call hc25 (ent_f hc25.fn (by show [look 63 ρ 23, (I 0), (I 1000000)] = _; rw [e23])) hn0 (show Hp S0 σ0 _ ([] ++ [Ch.ro 0 (Sl alist_0 list_0 clist_0) list_0]) from (H.sel' [0] rfl rfl))) ?_
           rintro _ σq ⟨_, ⟨rfl, rfl⟩, H2, m2⟩
           exact ⟨_, (), rfl, rfl, ⟨H2.sel' [0] rfl rfl, m.comp0 m2⟩, stab [0, 1, 2, 3, 4, 5, 6, 7, 8, 9, 10, 11, 12] (by kernel_rfl) ⟨rfl, rfl, rfl, rfl, rfl, rfl, rfl, rfl, rfl, rfl, rfl, rfl, rfl, trivial⟩⟩
          trivial) ?_
        refine ac rfl (by
          intro k _nm ρ σm hJ hoff hdep
          have e24 := hdep 13 rfl rfl 24 rfl
          have e18 := hdep 7 rfl rfl 18 rfl
          exact dp_v (v := (B (!r23))) (wanted_yes rfl (yv_of rfl (e18.trans (congrArg B hb15)))) (rv_not e24) rfl hJ) ?_
        refine ac rfl (by
          intro k _nm ρ σm hJ hoff hdep
          have e18 := hdep 7 rfl rfl 18 rfl
          have e25 := hdep 14 rfl rfl 25 rfl
          exact dp_v (v := (B (!r23))) wn (rv_pick_f (e18.trans (congrArg B hb15)) e25) rfl hJ) ?_
        refine ac rfl (by
          intro k _nm ρ σm hJ hoff hdep
          have e26 := hdep 15 rfl rfl 26 rfl
          exact dp_v (v := (B (!r23))) wn (rv_move e26) rfl hJ) ?_
        refine ac rfl (by
          intro k _nm ρ σm hJ hoff hdep
          have e3 := look_off (N := 63) (hoff 3 rfl) rfl
          have e27 := hdep 16 rfl rfl 27 rfl
          exact dp_v (v := (I s2)) (wanted_yes rfl (yv_of rfl (e27.trans (congrArg B hb26)))) (rv_move e3) rfl hJ) ?_
        refine ac rfl (by
          intro k _nm ρ σm hJ hoff hdep
          have e28 := hdep 17 rfl rfl 28 rfl
          have e27 := hdep 16 rfl rfl 27 rfl
          exact dp_v (v := (B (decide (0 < s2)))) (wanted_yes rfl (yv_of rfl (e27.trans (congrArg B hb26)))) (rv_gtr (a := s2) (b := 0) e28 rfl) rfl hJ) ?_
        refine ac rfl (by
          intro k _nm ρ σm hJ hoff hdep
          have e29 := hdep 18 rfl rfl 29 rfl
          have e27 := hdep 16 rfl rfl 27 rfl
          exact dp_v (v := (B (decide (0 < s2)))) (wanted_yes rfl (yv_of rfl (e27.trans (congrArg B hb26)))) (rv_move e29) rfl hJ) ?_
        refine ac rfl (by
          intro k _nm ρ σm hJ hoff hdep
          have e0 := look_off (N := 63) (hoff 0 rfl) rfl
          have e30 := hdep 19 rfl rfl 30 rfl
          exact dp_v (v := (Sl alist_0 list_0 clist_0)) (wanted_yes rfl (yv_of rfl (e30.trans (congrArg B hb28)))) (rv_move e0) rfl hJ) ?_
        refine ac rfl (by
          intro k _nm ρ σm hJ hoff hdep
          have e3 := look_off (N := 63) (hoff 3 rfl) rfl
          have e30 := hdep 19 rfl rfl 30 rfl
          exact dp_v (v := (I s2)) (wanted_yes rfl (yv_of rfl (e30.trans (congrArg B hb28)))) (rv_move e3) rfl hJ) ?_
        refine ac rfl (by
          intro k _nm ρ σm hJ hoff hdep
          have e32 := hdep 21 rfl rfl 32 rfl
          have e30 := hdep 19 rfl rfl 30 rfl
          exact dp_v (v := (I (w64 (s2 - 1)))) (wanted_yes rfl (yv_of rfl (e30.trans (congrArg B hb28)))) (rv_sub (a := s2) (b := 1) e32 rfl) rfl hJ) ?_
        refine ac rfl (by
          intro k _nm ρ σm hJ hoff hdep
          have e31 := hdep 20 rfl rfl 31 rfl
          have e33 := hdep 22 rfl rfl 33 rfl
          have e30 := hdep 19 rfl rfl 30 rfl
          exact dp_v (v := (pt b32 o33)) (wanted_yes rfl (yv_of rfl (e30.trans (congrArg B hb28)))) (rv_ix Try.underlying23 ti40 e31 e33 hi31) rfl hJ) ?_
        refine all_cons (by
          refine ⟨?_, ?_⟩
          ·intro _nm ρ σm hJ hoff hdep
           have e34 := hdep 23 rfl rfl 34 rfl
           have e30 := hdep 19 rfl rfl 30 rfl
           obtain ⟨H, m⟩ := id hJ
           replace hc35 := fun j hj => (Hs.ro 0 rfl).hmd hx30 hi31 (k := j) (Nat.lt_of_lt_of_eq hj hl34) (hc35 j hj) m
           exact dp_v (v := (.agg #[(I x29.1), (I x29.2)])) (wanted_yes rfl (yv_of rfl (e30.trans (congrArg B hb28)))) (rv_load Try.underlying40 rfl ti40 e34 hl34 hc35) rfl hJ
          trivial) ?_
        refine ac rfl (by
          intro k _nm ρ σm hJ hoff hdep
          have e0 := look_off (N := 63) (hoff 0 rfl) rfl
          have e30 := hdep 19 rfl rfl 30 rfl
          exact dp_v (v := (Sl alist_0 list_0 clist_0)) (wanted_yes rfl (yv_of rfl (e30.trans (congrArg B hb28)))) (rv_move e0) rfl hJ) ?_
        refine ac rfl (by
          intro k _nm ρ σm hJ hoff hdep
          have e3 := look_off (N := 63) (hoff 3 rfl) rfl
          have e30 := hdep 19 rfl rfl 30 rfl
          exact dp_v (v := (I s2)) (wanted_yes rfl (yv_of rfl (e30.trans (congrArg B hb28)))) (rv_move e3) rfl hJ) ?_
        refine ac rfl (by
          intro k _nm ρ σm hJ hoff hdep
          have e36 := hdep 25 rfl rfl 36 rfl
          have e37 := hdep 26 rfl rfl 37 rfl
          have e30 := hdep 19 rfl rfl 30 rfl
          exact dp_v (v := (pt b39 o40)) (wanted_yes rfl (yv_of rfl (e30.trans (congrArg B hb28)))) (rv_ix Try.underlying23 ti40 e36 e37 hi38) rfl hJ) ?_
        refine all_cons (by
          refine ⟨?_, ?_⟩
          ·intro _nm ρ σm hJ hoff hdep
           have e38 := hdep 27 rfl rfl 38 rfl
           have e30 := hdep 19 rfl rfl 30 rfl
           obtain ⟨H, m⟩ := id hJ
           replace hc42 := fun j hj => (Hs.ro 0 rfl).hmd hx37 hi38 (k := j) (Nat.lt_of_lt_of_eq hj hl41) (hc42 j hj) m
           exact dp_v (v := (.agg #[(I x36.1), (I x36.2)])) (wanted_yes rfl (yv_of rfl (e30.trans (congrArg B hb28)))) (rv_load Try.underlying40 rfl ti40 e38 hl41 hc42) rfl hJ
          trivial) ?_
        exact all_nil
       ·intro _nm ρ σ43 hJ hoff hrel
        have e0 := look_off (N := 63) (hoff 0 rfl) rfl
        have e3 := look_off (N := 63) (hoff 3 rfl) rfl
        have e27 := hrel 16 rfl 27 rfl
        have e30 := hrel 19 rfl 30 rfl
        have e35 := hrel 24 rfl 35 rfl
        have e39 := hrel 28 rfl 39 rfl
        obtain ⟨H, -⟩ := (show Hp S0 σ0 σ43 [Ch.ro 0 (Sl alist_0 list_0 clist_0) list_0] ∧ Md (cov []) σ3 σ43 from hJ)
        clear hJ Hs
        rw [fr_lookL (L := [(0, (Sl alist_0 list_0 clist_0)), (3, (I s2)), (27, (B (!r23))), (30, (B (decide (0 < s2)))), (35, (.agg #[(I x29.1), (I x29.2)])), (39, (.agg #[(I x36.1), (I x36.2)]))]) ⟨e0, e3, e27, e30, e35, e39, trivial⟩]
        clear hoff hrel e0 e3 e27 e30 e35 e39
        obtain ⟨r44, hx45, h'⟩ := bind_some h
        clear h
        have h := h'; clear h'
        have hc46 := c_spec_nearer hx45
        refine st_call (cx_call hc46 (ent_f hc46.fn rfl) hn0 (show Hp S0 σ0 _ ([] ++ [Ch.ro 0 (Sl alist_0 list_0 clist_0) list_0]) from (H.sel' [0] rfl rfl))) (wanted_yes rfl (by exact (congrArg some hb28))) ?_
        rintro _ σ47 ⟨_, ⟨rfl, rfl⟩, H, -⟩
        replace H : Hp S0 σ0 σ47 [Ch.ro 0 (Sl alist_0 list_0 clist_0) list_0] := H
        refine st_g (v := (B (!r44))) (congrArg some hb28) (rv_not rfl) ?_
        refine st_g (v := (B (!r44))) (congrArg some hb26) (rv_pick_t (congrArg B hb28) rfl) ?_
        refine st (v := (B (!r44))) (rv_pick_f (congrArg B hb26) rfl) ?_
        refine w_end ?_
        obtain rfl := Option.some.inj h
        exact ⟨rfl, _, σ47, fr_join ⟨rfl, rfl, rfl, trivial⟩, rfl, H.sel' [0] rfl rfl⟩
      ·replace h := bif_f hb28 h
       have Hs := H
       refine rg2 (σ := σ3) (Nm := Unit) 29 [5, 13] [[false, false], [true, false], [true, true]] [[(0, 0)], [(0, 0)], [(0, 0)], [(0, 0)], [(0, 0)], [(0, 1)], [(1, 1)], [(1, 1)], [(1, 1)], [(1, 1)], [(1, 1)], [(1, 1)], [(1, 1)], [(1, 2)], [(2, 2)], [(2, 2)], [(2, 2)], [(2, 2)], [(2, 2)], [(2, 2)], [(2, 2)], [(2, 2)], [(2, 2)], [(2, 2)], [(2, 2)], [(2, 2)], [(2, 2)], [(2, 2)], [(2, 2)]] 2 [fun _ => fun σm => Hp S0 σ0 σm [Ch.ro 0 (Sl alist_0 list_0 clist_0) list_0] ∧ Md (cov []) σ3 σm, fun _ => fun σm => Hp S0 σ0 σm [Ch.ro 0 (Sl alist_0 list_0 clist_0) list_0] ∧ Md (cov []) σ3 σm, fun _ => fun σm => Hp S0 σ0 σm [Ch.ro 0 (Sl alist_0 list_0 clist_0) list_0] ∧ Md (cov []) σ3 σm] [fun _ => (Sl alist_0 list_0 clist_0), fun _ => (I s2), fun _ => (pt b9 o10), fun _ => (pt b9 (o10 + 0)), fun _ => (I x6.1), fun _ => (B r12), fun _ => (B (!r12)), fun _ => (B (!r12)), fun _ => (Sl alist_0 list_0 clist_0), fun _ => (I s2), fun _ => (pt b20 o21), fun _ => (pt b20 (o21 + 1)), fun _ => (I x17.2), fun _ => (B r23), fun _ => (B (!r23)), fun _ => (B (!r23)), fun _ => (B (!r23)), fun _ => (I s2), fun _ => (B (decide (0 < s2))), fun _ => (B (decide (0 < s2))), fun _ => undef, fun _ => undef, fun _ => undef, fun _ => undef, fun _ => undef, fun _ => undef, fun _ => undef, fun _ => undef, fun _ => undef] () (by kernel_rfl) (by kernel_rfl) ?_ ?_ ?_
       ·intro σm m0
        exact ⟨H.grow (m0.mono fun _ h => h.elim), m0⟩
       ·refine ac rfl (by
          intro k _nm ρ σm hJ hoff hdep
          have e0 := look_off (N := 63) (hoff 0 rfl) rfl
          exact dp_v (v := (Sl alist_0 list_0 clist_0)) wn (rv_move e0) rfl hJ) ?_
        refine ac rfl (by
          intro k _nm ρ σm hJ hoff hdep
          have e3 := look_off (N := 63) (hoff 3 rfl) rfl
          exact dp_v (v := (I s2)) wn (rv_move e3) rfl hJ) ?_
        refine ac rfl (by
          intro k _nm ρ σm hJ hoff hdep
          have e11 := hdep 0 rfl rfl 11 rfl
          have e12 := hdep 1 rfl rfl 12 rfl
          exact dp_v (v := (pt b9 o10)) wn (rv_ix Try.underlying23 ti40 e11 e12 hi8) rfl hJ) ?_
        refine ac rfl (by
          intro k _nm ρ σm hJ hoff hdep
          have e13 := hdep 2 rfl rfl 13 rfl
          exact dp_v (v := (pt b9 (o10 + 0))) wn (rv_fieldAddr (off := 0) (ft := 3) Try.underlying40 rfl ti3 rfl e13) rfl hJ) ?_
        refine all_cons (by
          refine ⟨?_, ?_⟩
          ·intro _nm ρ σm hJ hoff hdep
           have e14 := hdep 3 rfl rfl 14 rfl
           obtain ⟨H, m⟩ := id hJ
           replace hc11 := (Hs.ro 0 rfl).hmd hx7 hi8 (k := 0) (by decide) hc11 m
           exact dp_v (v := (I x6.1)) wn (rv_load1 Try.underlying3 rfl e14 hc11) rfl hJ
          trivial) ?_
        refine all_cons (by
          refine ⟨?_, ?_⟩
          ·intro _nm ρ σm hJ hoff hdep
           have e15 : look 63 ρ 15 = (I x6.1) := hdep 4 rfl rfl 15 rfl
           obtain ⟨H, m⟩ := id hJ
           refine dp_cx wn (cx_call hc14 (ent_f hc14.fn (by show [look 63 ρ 15, (I 1), (I 99)] = _; rw [e15])) hn0 (show Hp S0 σ0 _ ([] ++ [Ch.ro 0 (Sl alist_0 list_0 clist_0) list_0]) from (H.sel' [0] rfl rfl))) ?_
           rintro _ σq ⟨_, ⟨rfl, rfl⟩, H2, m2⟩
           exact ⟨_, (), rfl, rfl, ⟨H2.sel' [0] rfl rfl, m.comp0 m2⟩, stab [0, 1, 2, 3, 4] (by kernel_rfl) ⟨rfl, rfl, rfl, rfl, rfl, trivial⟩⟩
          trivial) ?_
        refine ac rfl (by
          intro k _nm ρ σm hJ hoff hdep
          have e16 := hdep 5 rfl rfl 16 rfl
          exact dp_v (v := (B (!r12))) wn (rv_not e16) rfl hJ) ?_
        refine ac rfl (by
          intro k _nm ρ σm hJ hoff hdep
          have e17 := hdep 6 rfl rfl 17 rfl
          exact dp_v (v := (B (!r12))) wn (rv_move e17) rfl hJ) ?_
        refine ac rfl (by
          intro k _nm ρ σm hJ hoff hdep
          have e0 := look_off (N := 63) (hoff 0 rfl) rfl
          have e18 := hdep 7 rfl rfl 18 rfl
          exact dp_v (v := (Sl alist_0 list_0 clist_0)) (wanted_yes rfl (yv_of rfl (e18.trans (congrArg B hb15)))) (rv_move e0) rfl hJ) ?_
        refine ac rfl (by
          intro k _nm ρ σm hJ hoff hdep
          have e3 := look_off (N := 63) (hoff 3 rfl) rfl
          have e18 := hdep 7 rfl rfl 18 rfl
          exact dp_v (v := (I s2)) (wanted_yes rfl (yv_of rfl (e18.trans (congrArg B hb15)))) (rv_move e3) rfl hJ) ?_
        refine ac rfl (by
          intro k _nm ρ σm hJ hoff hdep
          have e19 := hdep 8 rfl rfl 19 rfl
          have e20 := hdep 9 rfl rfl 20 rfl
          have e18 := hdep 7 rfl rfl 18 rfl
          exact dp_v (v := (pt b20 o21)) (wanted_yes rfl (yv_of rfl (e18.trans (congrArg B hb15)))) (rv_ix Try.underlying23 ti40 e19 e20 hi19) rfl hJ) ?_
        refine ac rfl (by
          intro k _nm ρ σm hJ hoff hdep
          have e21 := hdep 10 rfl rfl 21 rfl
          have e18 := hdep 7 rfl rfl 18 rfl
          exact dp_v (v := (pt b20 (o21 + 1))) (wanted_yes rfl (yv_of rfl (e18.trans (congrArg B hb15)))) (rv_fieldAddr (off := 1) (ft := 3) Try.underlying40 rfl ti3 rfl e21) rfl hJ) ?_
        refine all_cons (by
          refine ⟨?_, ?_⟩
          ·intro _nm ρ σm hJ hoff hdep
           have e22 := hdep 11 rfl rfl 22 rfl
           have e18 := hdep 7 rfl rfl 18 rfl
           obtain ⟨H, m⟩ := id hJ
           replace hc22 := (Hs.ro 0 rfl).hmd hx18 hi19 (k := 1) (by decide) hc22 m
           exact dp_v (v := (I x17.2)) (wanted_yes rfl (yv_of rfl (e18.trans (congrArg B hb15)))) (rv_load1 Try.underlying3 rfl e22 hc22) rfl hJ
          trivial) ?_
        refine all_cons (by
          refine ⟨?_, ?_⟩
          ·intro _nm ρ σm hJ hoff hdep
           have e23 : look 63 ρ 23 = (I x17.2) := hdep 12 rfl rfl 23 rfl
           have e18 := hdep 7 rfl rfl 18 rfl
           obtain ⟨H, m⟩ := id hJ
           refine dp_cx (wanted_yes rfl (yv_of rfl (e18.trans (congrArg B hb15)))) (cx_call hc25 (ent_f hc25.fn (by show [look 63 ρ 23, (I 0), (I 1000000)] = _; rw [e23])) hn0 (show Hp S0 σ0 _ ([] ++ [Ch.ro 0 (Sl alist_0 list_0 clist_0) list_0]) from (H.sel' [0] rfl rfl))) ?_
           rintro _ σq ⟨_, ⟨rfl, rfl⟩, H2, m2⟩
           exact ⟨_, (), rfl, rfl, ⟨H2.sel' [0] rfl rfl, m.comp0 m2⟩, stab [0, 1, 2, 3, 4, 5, 6, 7, 8, 9, 10, 11, 12] (by kernel_rfl) ⟨rfl, rfl, rfl, rfl, rfl, rfl, rfl, rfl, rfl, rfl, rfl, rfl, rfl, trivial⟩⟩
          trivial) ?_
        refine ac rfl (by
          intro k _nm ρ σm hJ hoff hdep
          have e24 := hdep 13 rfl rfl 24 rfl
          have e18 := hdep 7 rfl rfl 18 rfl
          exact dp_v (v := (B (!r23))) (wanted_yes rfl (yv_of rfl (e18.trans (congrArg B hb15)))) (rv_not e24) rfl hJ) ?_
        refine ac rfl (by
          intro k _nm ρ σm hJ hoff hdep
          have e18 := hdep 7 rfl rfl 18 rfl
          have e25 := hdep 14 rfl rfl 25 rfl
          exact dp_v (v := (B (!r23))) wn (rv_pick_f (e18.trans (congrArg B hb15)) e25) rfl hJ) ?_
        refine ac rfl (by
          intro k _nm ρ σm hJ hoff hdep
          have e26 := hdep 15 rfl rfl 26 rfl
          exact dp_v (v := (B (!r23))) wn (rv_move e26) rfl hJ) ?_
        refine ac rfl (by
          intro k _nm ρ σm hJ hoff hdep
          have e3 := look_off (N := 63) (hoff 3 rfl) rfl
          have e27 := hdep 16 rfl rfl 27 rfl
          exact dp_v (v := (I s2)) (wanted_yes rfl (yv_of rfl (e27.trans (congrArg B hb26)))) (rv_move e3) rfl hJ) ?_
        refine ac rfl (by
          intro k _nm ρ σm hJ hoff hdep
          have e28 := hdep 17 rfl rfl 28 rfl
          have e27 := hdep 16 rfl rfl 27 rfl
          exact dp_v (v := (B (decide (0 < s2)))) (wanted_yes rfl (yv_of rfl (e27.trans (congrArg B hb26)))) (rv_gtr (a := s2) (b := 0) e28 rfl) rfl hJ) ?_
        refine ac rfl (by
          intro k _nm ρ σm hJ hoff hdep
          have e29 := hdep 18 rfl rfl 29 rfl
          have e27 := hdep 16 rfl rfl 27 rfl
          exact dp_v (v := (B (decide (0 < s2)))) (wanted_yes rfl (yv_of rfl (e27.trans (congrArg B hb26)))) (rv_move e29) rfl hJ) ?_
        refine ac rfl (by
          intro k _nm ρ σm hJ hoff hdep
          have e30 := hdep 19 rfl rfl 30 rfl
          exact dp_skip (wanted_no rfl (yv_of rfl (e30.trans (congrArg B hb28)))) rfl hJ) ?_
        refine ac rfl (by
          intro k _nm ρ σm hJ hoff hdep
          have e30 := hdep 19 rfl rfl 30 rfl
          exact dp_skip (wanted_no rfl (yv_of rfl (e30.trans (congrArg B hb28)))) rfl hJ) ?_
        refine ac rfl (by
          intro k _nm ρ σm hJ hoff hdep
          have e30 := hdep 19 rfl rfl 30 rfl
          exact dp_skip (wanted_no rfl (yv_of rfl (e30.trans (congrArg B hb28)))) rfl hJ) ?_
        refine ac rfl (by
          intro k _nm ρ σm hJ hoff hdep
          have e30 := hdep 19 rfl rfl 30 rfl
          exact dp_skip (wanted_no rfl (yv_of rfl (e30.trans (congrArg B hb28)))) rfl hJ) ?_
        refine ac rfl (by
          intro k _nm ρ σm hJ hoff hdep
          have e30 := hdep 19 rfl rfl 30 rfl
          exact dp_skip (wanted_no rfl (yv_of rfl (e30.trans (congrArg B hb28)))) rfl hJ) ?_
        refine ac rfl (by
          intro k _nm ρ σm hJ hoff hdep
          have e30 := hdep 19 rfl rfl 30 rfl
          exact dp_skip (wanted_no rfl (yv_of rfl (e30.trans (congrArg B hb28)))) rfl hJ) ?_
        refine ac rfl (by
          intro k _nm ρ σm hJ hoff hdep
          have e30 := hdep 19 rfl rfl 30 rfl
          exact dp_skip (wanted_no rfl (yv_of rfl (e30.trans (congrArg B hb28)))) rfl hJ) ?_
        refine ac rfl (by
          intro k _nm ρ σm hJ hoff hdep
          have e30 := hdep 19 rfl rfl 30 rfl
          exact dp_skip (wanted_no rfl (yv_of rfl (e30.trans (congrArg B hb28)))) rfl hJ) ?_
        refine ac rfl (by
          intro k _nm ρ σm hJ hoff hdep
          have e30 := hdep 19 rfl rfl 30 rfl
          exact dp_skip (wanted_no rfl (yv_of rfl (e30.trans (congrArg B hb28)))) rfl hJ) ?_
        exact all_nil
       ·intro _nm ρ σ48 hJ hoff hrel
        have e0 := look_off (N := 63) (hoff 0 rfl) rfl
        have e3 := look_off (N := 63) (hoff 3 rfl) rfl
        have e27 := hrel 16 rfl 27 rfl
        have e30 := hrel 19 rfl 30 rfl
        have e35 := hrel 24 rfl 35 rfl
        have e39 := hrel 28 rfl 39 rfl
        obtain ⟨H, -⟩ := (show Hp S0 σ0 σ48 [Ch.ro 0 (Sl alist_0 list_0 clist_0) list_0] ∧ Md (cov []) σ3 σ48 from hJ)
        clear hJ Hs
        rw [fr_lookL (L := [(0, (Sl alist_0 list_0 clist_0)), (3, (I s2)), (27, (B (!r23))), (30, (B (decide (0 < s2)))), (35, undef), (39, undef)]) ⟨e0, e3, e27, e30, e35, e39, trivial⟩]
        clear hoff hrel e0 e3 e27 e30 e35 e39
        refine st_skip (congrArg some hb28) ?_
        refine st_skip (congrArg some hb28) ?_
        refine st_g (v := (B false)) (congrArg some hb26) (rv_pick_f (congrArg B hb28) rfl) ?_
        refine st (v := (B false)) (rv_pick_f (congrArg B hb26) rfl) ?_
        refine w_end ?_
        obtain rfl := Option.some.inj h
        exact ⟨rfl, _, σ48, fr_join ⟨rfl, rfl, rfl, trivial⟩, rfl, H.sel' [0] rfl rfl⟩
   ·clear hj
    have h := h'
    clear h' H
    rintro e a w ⟨rfl, ρ, σ49, rfl, rfl, H⟩
    refine q_then ?_
    refine cd_cond o5 rfl (fun hb50 => ?_) (fun hb50 => ?_)
    ·replace h := bif_t hb50 h
     refine c_seq ?_
     refine rg ?_
     refine st (v := (B false)) (rv_assign rfl) ?_
     refine w_end ?_
     refine q_then ?_
     refine c_ret ?_
     refine q_then_r ?_
     refine q_blk_r ?_
     refine q_then_r ?_
     refine q_then_r ?_
     refine q_blk_r ?_
     obtain rfl := Option.some.inj h
     obtain rfl := hres _ rfl
     exact .inr (⟨_, rfl, rfl, _, σ49, fr_join ⟨rfl, trivial⟩, rfl, H.sel' [] rfl rfl⟩)
    ·replace h := bif_f hb50 h
     refine c_skip ?_
     refine q_then ?_
     refine c_seq ?_
     refine rg ?_
     refine st (v := (I 0)) (rv_assign rfl) ?_
     refine w_end ?_
     refine q_then ?_
     obtain ⟨o51, hj, h'⟩ := bind_some h
     clear h
     refine c_cut (fun e a w => (∃ t, o51 = (.inl t) ∧ e = .normal ∧ ∃ (ρ : Nat → Value) (σ : St), a = fr 63 (updL ρ [(0, (Sl alist_0 list_0 clist_0)), (3, (I s2))]) ∧ w = σ.w ∧ Hp S0 σ0 σ [Ch.ro 0 (Sl alist_0 list_0 clist_0) list_0]) ∨ (∃ t, o51 = (.inr t) ∧ e = .ret ∧ ∃ (ρ : Nat → Value) (σ : St), a = fr 63 (updL ρ [(2, (B t))]) ∧ w = σ.w ∧ Hp S0 σ0 σ [])) ?_ ?_
     ·clear h'
      rename _ = some o51 => h
      refine c_blk ?_
      refine wp_loopM _ h (fun s52 a w => ∃ (ρ : Nat → Value) (σ : St), a = fr 63 (updL ρ [(0, (Sl alist_0 list_0 clist_0)), (3, (I s2)), (4, (I s52))]) ∧ w = σ.w ∧ Hp S0 σ0 σ [Ch.ro 0 (Sl alist_0 list_0 clist_0) list_0]) ⟨_, σ49, fr_join ⟨rfl, rfl, rfl, trivial⟩, rfl, H.sel' [0] rfl rfl⟩ ?_
      clear h H
      rintro s52 a w o ⟨ρ, σ53, rfl, rfl, H⟩ h hres
      refine c_seq ?_
      refine c_seq ?_
      refine rg ?_
      refine st (v := (I s52)) (rv_move rfl) ?_
      refine st (v := (I s2)) (rv_move rfl) ?_
      refine st (v := (B (decide (s52 < s2)))) (rv_lss (a := s52) (b := s2) rfl rfl) ?_
      refine w_end ?_
      refine q_then ?_
      refine cd_cond (decide (s52 < s2)) rfl (fun hb54 => ?_) (fun hb54 => ?_)
      ·replace h := bif_t hb54 h
       refine c_skip ?_
       refine q_then ?_
       refine c_seq ?_
       refine c_blk ?_
       refine c_seq ?_
       refine rgP (σ := σ53) 10 (by kernel_rfl) (by kernel_rfl) (by kernel_rfl) ?_
       refine sq (v := (Sl alist_0 list_0 clist_0)) (rv_move rfl) ?_
       refine sq (v := (I s52)) (rv_move rfl) ?_
       obtain ⟨x55, hx56, h'⟩ := bind_some h
       clear h
       have h := h'; clear h'
       obtain ⟨b58, o59, hi57, -⟩ := (H.ro 0 rfl).ix hx56
       refine sq (v := (pt b58 o59)) (rv_ix Try.underlying23 ti40 rfl rfl hi57) ?_
       refine sq (v := (pt b58 (o59 + 0))) (rv_fieldAddr (off := 0) (ft := 3) Try.underlying40 rfl ti3 rfl rfl) ?_
       have hc60 := ((H.ro 0 rfl).at hx56 hi57).fst.int
       refine sq (v := (I x55.1)) (rv_load1 Try.underlying3 rfl rfl hc60) ?_
       refine sq (v := (Sl alist_0 list_0 clist_0)) (rv_move rfl) ?_
       refine sq (v := (I s2)) (rv_move rfl) ?_
       obtain ⟨x61, hx62, h'⟩ := bind_some h
       clear h
       have h := h'; clear h'
       obtain ⟨b64, o65, hi63, -⟩ := (H.ro 0 rfl).ix hx62
       refine sq (v := (pt b64 o65)) (rv_ix Try.underlying23 ti40 rfl rfl hi63) ?_
       refine sq (v := (pt b64 (o65 + 0))) (rv_fieldAddr (off := 0) (ft := 3) Try.underlying40 rfl ti3 rfl rfl) ?_
       have hc66 := ((H.ro 0 rfl).at hx62 hi63).fst.int
       refine sq (v := (I x61.1)) (rv_load1 Try.underlying3 rfl rfl hc66) ?_
       refine sq_end ?_
       intro σ67 hm68
       replace H := H.grow (hm68.mono fun _ h => h); clear hm68
       refine st (v := (B (x55.1 == x61.1))) (rv_eql (a := x55.1) (b := x61.1) rfl rfl) ?_
       refine w_end ?_
       refine q_then ?_
       refine cd_cond (x55.1 == x61.1) rfl (fun hb69 => ?_) (fun hb69 => ?_)
       ·replace h := bif_t hb69 h
        refine c_seq ?_
        refine rg ?_
        refine st (v := (B false)) (rv_assign rfl) ?_
        refine w_end ?_
        refine q_then ?_
        refine c_ret ?_
        refine q_blk_r ?_
        refine q_then_r ?_
        refine q_then_r ?_
        refine q_blk_r ?_
        obtain rfl := Option.some.inj h
        obtain rfl := hres _ rfl
        exact .inr (⟨_, rfl, rfl, _, σ67, fr_join ⟨rfl, trivial⟩, rfl, H.sel' [] rfl rfl⟩)
       ·replace h := bif_f hb69 h
        refine c_skip ?_
        refine q_blk ?_
        refine q_then ?_
        refine rg ?_
        refine st (v := (I s52)) (rv_move rfl) ?_
        refine st (v := (I (w64 (s52 + 1)))) (rv_add (a := s52) (b := 1) rfl rfl) ?_
        refine st (v := (I (w64 (s52 + 1)))) (rv_assign rfl) ?_
        refine w_end ?_
        refine q_then ?_
        obtain rfl := Option.some.inj h
        exact ⟨_, rfl, _, σ67, fr_join ⟨rfl, rfl, rfl, trivial⟩, rfl, H.sel' [0] rfl rfl⟩
      ·replace h := bif_f hb54 h
       refine c_exit ?_
       refine q_then_x ?_
       refine q_then_x ?_
       refine q_blk_hit ?_
       obtain rfl := Option.some.inj h
       obtain rfl := hres _ rfl
       exact .inl ⟨_, rfl, rfl, _, σ53, fr_join ⟨rfl, rfl, trivial⟩, rfl, H.sel' [0] rfl rfl⟩
     ·clear hj
      have h := h'
      clear h' H
      rintro e a w (⟨t70, rfl, rfl, ρ, σ71, rfl, rfl, H⟩ | ⟨t72, rfl, rfl, ρ, σ73, rfl, rfl, H⟩)
      ·replace h := selim_l h
       refine q_blk ?_
       refine q_then ?_
       refine rg ?_
       refine st (v := (I s2)) (rv_move rfl) ?_
       refine st (v := (I (w64 (s2 + 1)))) (rv_add (a := s2) (b := 1) rfl rfl) ?_
       refine st (v := (I (w64 (s2 + 1)))) (rv_assign rfl) ?_
       refine w_end ?_
       refine q_then ?_
       obtain rfl := Option.some.inj h
       exact ⟨_, rfl, _, σ71, fr_join ⟨rfl, rfl, trivial⟩, rfl, H.sel' [0] rfl rfl⟩
      ·replace h := selim_r h
       refine q_blk_r ?_
       refine q_then_r ?_
       refine q_then_r ?_
       refine q_blk_r ?_
       obtain rfl := Option.some.inj h
       obtain rfl := hres _ rfl
       exact .inr (⟨_, rfl, rfl, _, σ73, fr_join ⟨rfl, trivial⟩, rfl, H.sel' [] rfl rfl⟩)
  ·replace h := bif_f hb4 h
   refine c_exit ?_
   refine q_then_x ?_
   refine q_then_x ?_
   refine q_blk_hit ?_
   obtain rfl := Option.some.inj h
   obtain rfl := hres _ rfl
   exact .inl ⟨_, rfl, rfl, _, σ3, fr_join ⟨rfl, trivial⟩, rfl, H.sel' [0] rfl rfl⟩
 ·clear hj
  have h := h'
  clear h' H
  rintro e a w (⟨t74, rfl, rfl, ρ, σ75, rfl, rfl, H⟩ | ⟨t76, rfl, rfl, ρ, σ77, rfl, rfl, H⟩)
  ·replace h := selim_l h
   refine q_then ?_
   refine c_seq ?_
   refine rg ?_
   refine st (v := (Sl alist_0 list_0 clist_0)) (rv_move rfl) ?_
   refine st (v := (I (list_0.length : Int))) (rv_len Try.underlying23 rfl) ?_
   refine st (v := (B (decide ((list_0.length : Int) ≤ 16)))) (rv_leq (a := (list_0.length : Int)) (b := 16) rfl rfl) ?_
   refine st (v := (B (decide ((list_0.length : Int) ≤ 16)))) (rv_assign rfl) ?_
   refine w_end ?_
   refine q_then ?_
   refine c_ret ?_
   obtain rfl := Option.some.inj h
   exact fin_ret (v := (B (decide ((list_0.length : Int) ≤ 16)))) (results_ok Try.results41 (res_tmp (v := (B (decide ((list_0.length : Int) ≤ 16)))) rfl res_nil) rfl) ⟨rfl, rfl⟩ (H.sel' [] rfl rfl)
  ·replace h := selim_r h
   refine q_then_r ?_
   obtain rfl := Option.some.inj h
   exact fin_ret (v := (B t76)) (results_ok Try.results41 (res_tmp (v := (B t76)) rfl res_nil) rfl) ⟨rfl, rfl⟩ (H.sel' [] rfl rfl)

theorem c_spec_hitAt {list_0 : List (Int × Int)} {key_1 : Int} {alist_0 : Option Addr} {clist_0 : Nat} {r : Int} (h : M.spec_hitAt list_0 key_1 = some r) :
    Cal2 Try.prog 42 [(Sl alist_0 list_0 clist_0), (I key_1)] [Ch.ro 0 (Sl alist_0 list_0 clist_0) list_0] (fun n0 v L => v = (I r) ∧ L = []) := by
 refine cal2 (n := 20) Try.func42 rfl rfl rfl rfl ?_
 intro S0 σ0 n0 hn0 H
 unfold M.spec_hitAt at h
 refine c_seq ?_
 refine rg ?_
 refine st (v := (I 0)) (rv_assign rfl) ?_
 refine w_end ?_
 refine q_then ?_
 refine c_seq ?_
 refine c_seq ?_
 refine rg ?_
 refine st (v := (I 0)) (rv_assign rfl) ?_
 refine w_end ?_
 refine q_then ?_
 obtain ⟨o1, hj, h'⟩ := bind_some h
 clear h
 refine c_cut (fun e a w => (∃ t, o1 = (.inl t) ∧ e = .normal ∧ ∃ (ρ : Nat → Value) (σ : St), a = fr 20 (updL ρ []) ∧ w = σ.w ∧ Hp S0 σ0 σ []) ∨ (∃ t, o1 = (.inr t) ∧ e = .ret ∧ ∃ (ρ : Nat → Value) (σ : St), a = fr 20 (updL ρ [(4, (I t))]) ∧ w = σ.w ∧ Hp S0 σ0 σ [])) ?_ ?_
 ·clear h'
  rename _ = some o1 => h
  refine c_blk ?_
  refine wp_loopM _ h (fun s2 a w => ∃ (ρ : Nat → Value) (σ : St), a = fr 20 (updL ρ [(0, (Sl alist_0 list_0 clist_0)), (1, (I key_1)), (5, (I s2))]) ∧ w = σ.w ∧ Hp S0 σ0 σ [Ch.ro 0 (Sl alist_0 list_0 clist_0) list_0]) ⟨_, σ0, fr_join ⟨rfl, rfl, rfl, trivial⟩, rfl, H.sel' [0] rfl rfl⟩ ?_
  clear h H
  rintro s2 a w o ⟨ρ, σ3, rfl, rfl, H⟩ h hres
  refine c_seq ?_
  refine c_seq ?_
  refine rg ?_
  refine st (v := (I s2)) (rv_move rfl) ?_
  refine st (v := (Sl alist_0 list_0 clist_0)) (rv_move rfl) ?_
  refine st (v := (I (list_0.length : Int))) (rv_len Try.underlying23 rfl) ?_
  refine st (v := (B (decide (s2 < (list_0.length : Int))))) (rv_lss (a := s2) (b := (list_0.length : Int)) rfl rfl) ?_
  refine w_end ?_
  refine q_then ?_
  refine cd_cond (decide (s2 < (list_0.length : Int))) rfl (fun hb4 => ?_) (fun hb4 => ?_)
  ·replace h := bif_t hb4 h
   refine c_skip ?_
   refine q_then ?_
   refine c_seq ?_
   refine c_blk ?_
   refine c_seq ?_
   refine rg ?_
   refine st (v := (Sl alist_0 list_0 clist_0)) (rv_move rfl) ?_
   refine st (v := (I s2)) (rv_move rfl) ?_
   obtain ⟨x5, hx6, h'⟩ := bind_some h
   clear h
   have h := h'; clear h'
   obtain ⟨b8, o9, hi7, -⟩ := (H.ro 0 rfl).ix hx6
   refine st (v := (pt b8 o9)) (rv_ix Try.underlying23 ti40 rfl rfl hi7) ?_
   refine st (v := (pt b8 (o9 + 0))) (rv_fieldAddr (off := 0) (ft := 3) Try.underlying40 rfl ti3 rfl rfl) ?_
   have hc10 := ((H.ro 0 rfl).at hx6 hi7).fst.int
   refine st (v := (I x5.1)) (rv_load1 Try.underlying3 rfl rfl hc10) ?_
   refine st (v := (I key_1)) (rv_move rfl) ?_
   refine st (v := (B (x5.1 == key_1))) (rv_eql (a := x5.1) (b := key_1) rfl rfl) ?_
   refine w_end ?_
   refine q_then ?_
   refine cd_cond (x5.1 == key_1) rfl (fun hb11 => ?_) (fun hb11 => ?_)
   ·replace h := bif_t hb11 h
    refine c_seq ?_
    refine rg ?_
    refine st (v := (I s2)) (rv_move rfl) ?_
    refine st (v := (I s2)) (rv_assign rfl) ?_
    refine w_end ?_
    refine q_then ?_
    refine c_ret ?_
    refine q_blk_r ?_
    refine q_then_r ?_
    refine q_then_r ?_
    refine q_blk_r ?_
    obtain rfl := Option.some.inj h
    obtain rfl := hres _ rfl
    exact .inr (⟨_, rfl, rfl, _, σ3, fr_join ⟨rfl, trivial⟩, rfl, H.sel' [] rfl rfl⟩)
   ·replace h := bif_f hb11 h
    refine c_skip ?_
    refine q_blk ?_
    refine q_then ?_
    refine rg ?_
    refine st (v := (I s2)) (rv_move rfl) ?_
    refine st (v := (I (w64 (s2 + 1)))) (rv_add (a := s2) (b := 1) rfl rfl) ?_
    refine st (v := (I (w64 (s2 + 1)))) (rv_assign rfl) ?_
    refine w_end ?_
    refine q_then ?_
    obtain rfl := Option.some.inj h
    exact ⟨_, rfl, _, σ3, fr_join ⟨rfl, rfl, rfl, trivial⟩, rfl, H.sel' [0] rfl rfl⟩
  ·replace h := bif_f hb4 h
   refine c_exit ?_
   refine q_then_x ?_
   refine q_then_x ?_
   refine q_blk_hit ?_
   obtain rfl := Option.some.inj h
   obtain rfl := hres _ rfl
   exact .inl ⟨_, rfl, rfl, _, σ3, fr_join trivial, rfl, H.sel' [] rfl rfl⟩
 ·clear hj
  have h := h'
  clear h' H
  rintro e a w (⟨t12, rfl, rfl, ρ, σ13, rfl, rfl, H⟩ | ⟨t14, rfl, rfl, ρ, σ15, rfl, rfl, H⟩)
  ·replace h := selim_l h
   refine q_then ?_
   refine c_seq ?_
   refine rg ?_
   refine st (v := (I (-1))) (rv_assign rfl) ?_
   refine w_end ?_
   refine q_then ?_
   refine c_ret ?_
   obtain rfl := Option.some.inj h
   exact fin_ret (v := (I (-1))) (results_ok Try.results42 (res_tmp (v := (I (-1))) rfl res_nil) rfl) ⟨rfl, rfl⟩ (H.sel' [] rfl rfl)
  ·replace h := selim_r h
   refine q_then_r ?_
   obtain rfl := Option.some.inj h
   exact fin_ret (v := (I t14)) (results_ok Try.results42 (res_tmp (v := (I t14)) rfl res_nil) rfl) ⟨rfl, rfl⟩ (H.sel' [] rfl rfl)

theorem c_spec_rankScore {list_0 : List (Int × Int)} {key_1 : Int} {alist_0 : Option Addr} {clist_0 : Nat} {r : Int} (h : M.spec_rankScore list_0 key_1 = some r) :
    Cal2 Try.prog 55 [(Sl alist_0 list_0 clist_0), (I key_1)] [Ch.ro 0 (Sl alist_0 list_0 clist_0) list_0] (fun n0 v L => v = (I r) ∧ L = []) := by
 refine cal2 (n := 15) Try.func55 rfl rfl rfl rfl ?_
 intro S0 σ0 n0 hn0 H
 unfold M.spec_rankScore at h
 refine c_seq ?_
 refine rg ?_
 refine st (v := (I 0)) (rv_assign rfl) ?_
 refine w_end ?_
 refine q_then ?_
 refine c_seq ?_
 refine rg ?_
 refine st (v := (Sl alist_0 list_0 clist_0)) (rv_move rfl) ?_
 refine st (v := (I key_1)) (rv_move rfl) ?_
 obtain ⟨r1, hx2, h'⟩ := bind_some h
 clear h
 have h := h'; clear h'
 have hc3 := c_spec_hitAt (alist_0 := alist_0) (clist_0 := clist_0) hx2
 refine st_call (cx_call hc3 (ent_f hc3.fn rfl) hn0 (show Hp S0 σ0 _ ([Ch.ro 0 (Sl alist_0 list_0 clist_0) list_0] ++ [Ch.ro 0 (Sl alist_0 list_0 clist_0) list_0]) from (H.sel' [0, 0] rfl rfl))) wn ?_
 rintro _ σ4 ⟨_, ⟨rfl, rfl⟩, H, -⟩
 replace H : Hp S0 σ0 σ4 [Ch.ro 0 (Sl alist_0 list_0 clist_0) list_0] := H
 refine st (v := (I r1)) (rv_assign rfl) ?_
 refine w_end ?_
 refine q_then ?_
 refine c_seq ?_
 refine c_seq ?_
 refine rg ?_
 refine st (v := (I r1)) (rv_move rfl) ?_
 refine st (v := (B (decide (r1 < 0)))) (rv_lss (a := r1) (b := 0) rfl rfl) ?_
 refine w_end ?_
 refine q_then ?_
 refine cd_cond (decide (r1 < 0)) rfl (fun hb5 => ?_) (fun hb5 => ?_)
 ·replace h := bif_t hb5 h
  refine c_seq ?_
  refine rg ?_
  refine st (v := (I 0)) (rv_assign rfl) ?_
  refine w_end ?_
  refine q_then ?_
  refine c_ret ?_
  refine q_then_r ?_
  obtain rfl := Option.some.inj h
  exact fin_ret (v := (I 0)) (results_ok Try.results55 (res_tmp (v := (I 0)) rfl res_nil) rfl) ⟨rfl, rfl⟩ (H.sel' [] rfl rfl)
 ·replace h := bif_f hb5 h
  refine c_skip ?_
  refine q_then ?_
  refine c_seq ?_
  refine rg ?_
  refine st (v := (I r1)) (rv_move rfl) ?_
  refine st (v := (I (w64 (60 + r1)))) (rv_add (a := 60) (b := r1) rfl rfl) ?_
  refine st (v := (I (w64 ((w64 (60 + r1)) + 1)))) (rv_add (a := (w64 (60 + r1))) (b := 1) rfl rfl) ?_
  obtain ⟨q6, hx7, h'⟩ := bind_some h
  clear h
  have h := h'; clear h'
  refine st (v := (I q6)) (rv_quoG (a := 100000) (b := (w64 ((w64 (60 + r1)) + 1))) hx7 rfl rfl) ?_
  refine st (v := (I q6)) (rv_assign rfl) ?_
  refine w_end ?_
  refine q_then ?_
  refine c_ret ?_
  obtain rfl := Option.some.inj h
  exact fin_ret (v := (I q6)) (results_ok Try.results55 (res_tmp (v := (I q6)) rfl res_nil) rfl) ⟨rfl, rfl⟩ (H.sel' [] rfl rfl)

theorem c_spec_RankScore {list_0 : List (Int × Int)} {key_1 : Int} {alist_0 : Option Addr} {clist_0 : Nat} {r : Int} (h : M.spec_RankScore list_0 key_1 = some r) :
    Cal2 Try.prog 29 [(Sl alist_0 list_0 clist_0), (I key_1)] [Ch.ro 0 (Sl alist_0 list_0 clist_0) list_0] (fun n0 v L => v = (I r) ∧ L = []) := by
 refine cal2 (n := 11) Try.func29 rfl rfl rfl rfl ?_
 intro S0 σ0 n0 hn0 H
 unfold M.spec_RankScore at h
 refine c_seq ?_
 refine rg ?_
 refine st (v := (I 0)) (rv_assign rfl) ?_
 refine w_end ?_
 refine q_then ?_
 refine c_seq ?_
 refine c_seq ?_
 refine rg ?_
 refine st (v := (Sl alist_0 list_0 clist_0)) (rv_move rfl) ?_
 obtain ⟨r1, hx2, h'⟩ := bind_some h
 clear h
 have h := h'; clear h'
 have hc3 := c_spec_validHits (alist_0 := alist_0) (clist_0 := clist_0) hx2
 refine st_call (cx_call hc3 (ent_f hc3.fn rfl) hn0 (show Hp S0 σ0 _ ([Ch.ro 0 (Sl alist_0 list_0 clist_0) list_0] ++ [Ch.ro 0 (Sl alist_0 list_0 clist_0) list_0]) from (H.sel' [0, 0] rfl rfl))) wn ?_
 rintro _ σ4 ⟨_, ⟨rfl, rfl⟩, H, -⟩
 replace H : Hp S0 σ0 σ4 [Ch.ro 0 (Sl alist_0 list_0 clist_0) list_0] := H
 refine st (v := (B (!r1))) (rv_not rfl) ?_
 refine w_end ?_
 refine q_then ?_
 refine cd_cond (!r1) rfl (fun hb5 => ?_) (fun hb5 => ?_)
 ·replace h := bif_t hb5 h
  refine c_seq ?_
  refine rg ?_
  refine st (v := (I (-1))) (rv_assign rfl) ?_
  refine w_end ?_
  refine q_then ?_
  refine c_ret ?_
  refine q_then_r ?_
  obtain rfl := Option.some.inj h
  exact fin_ret (v := (I (-1))) (results_ok Try.results29 (res_tmp (v := (I (-1))) rfl res_nil) rfl) ⟨rfl, rfl⟩ (H.sel' [] rfl rfl)
 ·replace h := bif_f hb5 h
  refine c_skip ?_
  refine q_then ?_
  refine c_seq ?_
  refine rg ?_
  refine st (v := (Sl alist_0 list_0 clist_0)) (rv_move rfl) ?_
  refine st (v := (I key_1)) (rv_move rfl) ?_
  obtain ⟨r6, hx7, h'⟩ := bind_some h
  clear h
  have h := h'; clear h'
  have hc8 := c_spec_rankScore (alist_0 := alist_0) (clist_0 := clist_0) hx7
  refine st_call (cx_call hc8 (ent_f hc8.fn rfl) hn0 (show Hp S0 σ0 _ ([Ch.ro 0 (Sl alist_0 list_0 clist_0) list_0] ++ [Ch.ro 0 (Sl alist_0 list_0 clist_0) list_0]) from (H.sel' [0, 0] rfl rfl))) wn ?_
  rintro _ σ9 ⟨_, ⟨rfl, rfl⟩, H, -⟩
  replace H : Hp S0 σ0 σ9 [Ch.ro 0 (Sl alist_0 list_0 clist_0) list_0] := H
  refine st (v := (I r6)) (rv_assign rfl) ?_
  refine w_end ?_
  refine q_then ?_
  refine c_ret ?_
  obtain rfl := Option.some.inj h
  exact fin_ret (v := (I r6)) (results_ok Try.results29 (res_tmp (v := (I r6)) rfl res_nil) rfl) ⟨rfl, rfl⟩ (H.sel' [] rfl rfl)

theorem c_laws_FnRankScoreFirst {code_0 : List UInt8} {acode_0 : Option Addr} {ccode_0 : Nat} {r : Bool} (h : M.laws_FnRankScoreFirst code_0 = some r) :
    Cal2 Try.prog 9 [(Sl acode_0 code_0 ccode_0)] [Ch.ro 0 (Sl acode_0 code_0 ccode_0) code_0] (fun n0 v L => v = (B r) ∧ L = []) := by
 refine cal2 (n := 50) Try.func9 rfl rfl rfl rfl ?_
 intro S0 σ0 n0 hn0 H
 unfold M.laws_FnRankScoreFirst at h
 refine c_seq ?_
 refine rg ?_
 refine st (v := (B false)) (rv_assign rfl) ?_
 refine w_end ?_
 refine q_then ?_
 refine c_seq ?_
 refine c_seq ?_
 refine rg ?_
 refine st (v := (Sl acode_0 code_0 ccode_0)) (rv_move rfl) ?_
 refine st (v := (I (code_0.length : Int))) (rv_len Try.underlying22 rfl) ?_
 refine st (v := (B (decide (1048576 < (code_0.length : Int))))) (rv_gtr (a := (code_0.length : Int)) (b := 1048576) rfl rfl) ?_
 refine w_end ?_
 refine q_then ?_
 refine cd_cond (decide (1048576 < (code_0.length : Int))) rfl (fun hb1 => ?_) (fun hb1 => ?_)
 ·replace h := bif_t hb1 h
  refine c_seq ?_
  refine rg ?_
  refine st (v := (B true)) (rv_assign rfl) ?_
  refine w_end ?_
  refine q_then ?_
  refine c_ret ?_
  refine q_then_r ?_
  obtain rfl := Option.some.inj h
  exact fin_ret (v := (B true)) (results_ok Try.results9 (res_tmp (v := (B true)) rfl res_nil) rfl) ⟨rfl, rfl⟩ (H.sel' [] rfl rfl)
 ·replace h := bif_f hb1 h
  refine c_skip ?_
  refine q_then ?_
  refine c_seq ?_
  refine rg ?_
  refine st (v := (Sl acode_0 code_0 ccode_0)) (rv_move rfl) ?_
  obtain ⟨r2, hx3, h'⟩ := bind_some h
  clear h
  have h := h'; clear h'
  have hc4 := c_spec_DrawRankScore (acode_0 := acode_0) (ccode_0 := ccode_0) hx3
  refine st_call (cx_call hc4 (ent_f hc4.fn rfl) hn0 (show Hp S0 σ0 _ ([Ch.ro 0 (Sl acode_0 code_0 ccode_0) code_0] ++ [Ch.ro 0 (Sl acode_0 code_0 ccode_0) code_0]) from (H.sel' [0, 0] rfl rfl))) wn ?_
  rintro _ σ7 ⟨_, ⟨a5, c6, rfl, rfl⟩, H, -⟩
  replace H : Hp S0 σ0 σ7 [Ch.own n0 n0 (Sl a5 r2.1 c6) r2.1, Ch.ro 0 (Sl acode_0 code_0 ccode_0) code_0] := H
  refine st (v := (.tuple #[(Sl a5 r2.1 c6), (I r2.2)])) (rv_move rfl) ?_
  refine st (v := (Sl a5 r2.1 c6)) (rv_extract rfl rfl) ?_
  refine st (v := (I r2.2)) (rv_extract rfl rfl) ?_
  refine st (v := (Sl a5 r2.1 c6)) (rv_assign rfl) ?_
  refine st (v := (I r2.2)) (rv_assign rfl) ?_
  refine w_end ?_
  refine q_then ?_
  refine c_seq ?_
  refine rg ?_
  refine st (v := (Sl a5 r2.1 c6)) (rv_move rfl) ?_
  refine st (v := (I r2.2)) (rv_move rfl) ?_
  obtain ⟨r8, hx9, h'⟩ := bind_some h
  clear h
  have h := h'; clear h'
  have hc10 := c_impl_RankScore (alist_0 := a5) (clist_0 := c6) hx9
  have hle := Nat.le_trans hn0 H.size
  refine st_call (cx_lend (Loan.lend Loan.nil) hc10 (ent_f hc10.fn rfl) (show Hp S0 σ0 _ ([Ch.own n0 n0 (Sl a5 r2.1 c6) r2.1] ++ ([] ++ [Ch.ro 0 (Sl acode_0 code_0 ccode_0) code_0])) from (H.sel' [0, 1] rfl rfl)) (by rintro _ _ _ ⟨rfl, rfl⟩; exact trivial)) wn ?_
  rintro _ σ11 ⟨_, ⟨rfl, rfl⟩, H, -, -⟩
  replace H : Hp S0 σ0 σ11 [Ch.own n0 n0 (Sl a5 r2.1 c6) r2.1, Ch.ro 0 (Sl acode_0 code_0 ccode_0) code_0] := H
  clear hle
  replace H : Hp S0 σ0 σ11 [Ch.own n0 n0 (Sl a5 r2.1 c6) r2.1, Ch.ro 0 (Sl acode_0 code_0 ccode_0) code_0] := H
  refine st (v := (I r8)) (rv_assign rfl) ?_
  refine w_end ?_
  refine q_then ?_
  refine c_seq ?_
  refine c_seq ?_
  obtain ⟨o12, hj, h'⟩ := bind_some h
  clear h
  refine c_cut (fun e a w => e = .normal ∧ ∃ (ρ : Nat → Value) (σ : St), a = fr 50 (updL ρ [(3, (Sl a5 r2.1 c6)), (4, (I r2.2)), (5, (I r8)), (31, (B o12))]) ∧ w = σ.w ∧ Hp S0 σ0 σ [Ch.own n0 n0 (Sl a5 r2.1 c6) r2.1]) ?_ ?_
  ·clear h'
   rename _ = some o12 => h
   refine rg ?_
   refine st (v := (I r8)) (rv_move rfl) ?_
   refine st (v := (Sl a5 r2.1 c6)) (rv_move rfl) ?_
   refine st (v := (I r2.2)) (rv_move rfl) ?_
   obtain ⟨r13, hx14, h'⟩ := bind_some h
   clear h
   have h := h'; clear h'
   have hc15 := c_spec_RankScore (alist_0 := a5) (clist_0 := c6) hx14
   have hle := Nat.le_trans hn0 H.size
   refine st_call (cx_lend (Loan.lend Loan.nil) hc15 (ent_f hc15.fn rfl) (show Hp S0 σ0 _ ([Ch.own n0 n0 (Sl a5 r2.1 c6) r2.1] ++ ([] ++ [Ch.ro 0 (Sl acode_0 code_0 ccode_0) code_0])) from (H.sel' [0, 1] rfl rfl)) (by rintro _ _ _ ⟨rfl, rfl⟩; exact trivial)) wn ?_
   rintro _ σ16 ⟨_, ⟨rfl, rfl⟩, H, -, -⟩
   replace H : Hp S0 σ0 σ16 [Ch.own n0 n0 (Sl a5 r2.1 c6) r2.1, Ch.ro 0 (Sl acode_0 code_0 ccode_0) code_0] := H
   clear hle
   replace H : Hp S0 σ0 σ16 [Ch.own n0 n0 (Sl a5 r2.1 c6) r2.1, Ch.ro 0 (Sl acode_0 code_0 ccode_0) code_0] := H
   refine st (v := (B (r8 != r13))) (rv_neq (a := r8) (b := r13) rfl rfl) ?_
   refine st (v := (B (r8 != r13))) (rv_move rfl) ?_
   rcases Bool.eq_false_or_eq_true (r8 != r13) with hb17 | hb17
   ·replace h := bif_t hb17 h
    refine st_skip (congrArg some hb17) ?_
    refine st_skip (congrArg some hb17) ?_
    refine st (v := (B true)) (rv_pick_t (congrArg B hb17) rfl) ?_
    refine st (v := (B true)) (rv_move rfl) ?_
    refine st_skip rfl ?_
    refine st_skip rfl ?_
    refine st_skip rfl ?_
    refine st (v := (B true)) (rv_pick_t rfl rfl) ?_
    refine w_end ?_
    obtain rfl := Option.some.inj h
    exact ⟨rfl, _, σ16, fr_join ⟨rfl, rfl, rfl, rfl, trivial⟩, rfl, H.sel' [0] rfl rfl⟩
   ·replace h := bif_f hb17 h
    refine st_g (v := (I r8)) (congrArg some hb17) (rv_move rfl) ?_
    refine st_g (v := (B (decide (r8 < 0)))) (congrArg some hb17) (rv_lss (a := r8) (b := 0) rfl rfl) ?_
    refine st (v := (B (decide (r8 < 0)))) (rv_pick_f (congrArg B hb17) rfl) ?_
    refine st (v := (B (decide (r8 < 0)))) (rv_move rfl) ?_
    rcases Bool.eq_false_or_eq_true (decide (r8 < 0)) with hb18 | hb18
    ·replace h := bif_t hb18 h
     refine st_skip (congrArg some hb18) ?_
     refine st_skip (congrArg some hb18) ?_
     refine st_skip (congrArg some hb18) ?_
     refine st (v := (B true)) (rv_pick_t (congrArg B hb18) rfl) ?_
     refine w_end ?_
     obtain rfl := Option.some.inj h
     exact ⟨rfl, _, σ16, fr_join ⟨rfl, rfl, rfl, rfl, trivial⟩, rfl, H.sel' [0] rfl rfl⟩
    ·replace h := bif_f hb18 h
     refine st_g (v := (Sl a5 r2.1 c6)) (congrArg some hb18) (rv_move rfl) ?_
     refine st_g (v := (I (r2.1.length : Int))) (congrArg some hb18) (rv_len Try.underlying23 rfl) ?_
     refine st_g (v := (B ((r2.1.length : Int) == 0))) (congrArg some hb18) (rv_eql (a := (r2.1.length : Int)) (b := 0) rfl rfl) ?_
     refine st (v := (B ((r2.1.length : Int) == 0))) (rv_pick_f (congrArg B hb18) rfl) ?_
     refine w_end ?_
     obtain rfl := Option.some.inj h
     exact ⟨rfl, _, σ16, fr_join ⟨rfl, rfl, rfl, rfl, trivial⟩, rfl, H.sel' [0] rfl rfl⟩
  ·clear hj
   have h := h'
   clear h' H
   rintro e a w ⟨rfl, ρ, σ19, rfl, rfl, H⟩
   refine q_then ?_
   refine cd_cond o12 rfl (fun hb20 => ?_) (fun hb20 => ?_)
   ·replace h := bif_t hb20 h
    refine c_seq ?_
    refine rg ?_
    refine st (v := (I r8)) (rv_move rfl) ?_
    refine st (v := (Sl a5 r2.1 c6)) (rv_move rfl) ?_
    refine st (v := (I r2.2)) (rv_move rfl) ?_
    obtain ⟨σ21, hw22, H, -⟩ := H.pub 0 rfl (Nat.le_refl _)
    rw [← hw22]; clear hw22
    replace H := H.roLow 0 0 rfl (Nat.zero_le _)
    obtain ⟨r23, hx24, h'⟩ := bind_some h
    clear h
    have h := h'; clear h'
    have hc25 := c_spec_RankScore (alist_0 := a5) (clist_0 := c6) hx24
    refine st_call (cx_call hc25 (ent_f hc25.fn rfl) hn0 (show Hp S0 σ0 _ ([Ch.ro 0 (Sl a5 r2.1 c6) r2.1] ++ [Ch.ro 0 (Sl a5 r2.1 c6) r2.1, Ch.ro n0 (Sl a5 r2.1 c6) r2.1]) from (H.sel' [0, 0, 1] rfl rfl))) wn ?_
    rintro _ σ26 ⟨_, ⟨rfl, rfl⟩, H, -⟩
    replace H : Hp S0 σ0 σ26 [Ch.ro 0 (Sl a5 r2.1 c6) r2.1, Ch.ro n0 (Sl a5 r2.1 c6) r2.1] := H
    refine st (v := (B (r8 == r23))) (rv_eql (a := r8) (b := r23) rfl rfl) ?_
    refine st (v := (B (r8 == r23))) (rv_assign rfl) ?_
    refine w_end ?_
    refine q_then ?_
    refine c_ret ?_
    refine q_then_r ?_
    obtain rfl := Option.some.inj h
    exact fin_ret (v := (B (r8 == r23))) (results_ok Try.results9 (res_tmp (v := (B (r8 == r23))) rfl res_nil) rfl) ⟨rfl, rfl⟩ (H.sel' [] rfl rfl)
   ·replace h := bif_f hb20 h
    refine c_skip ?_
    refine q_then ?_
    refine c_seq ?_
    refine rg ?_
    refine st (v := (Sl a5 r2.1 c6)) (rv_move rfl) ?_
    refine st (v := (Sl a5 r2.1 c6)) (rv_move rfl) ?_
    obtain ⟨x27, hx28, h'⟩ := bind_some h
    clear h
    have h := h'; clear h'
    obtain ⟨b30, o31, hi29, -⟩ := (H.own 0 rfl).ix hx28
    refine st (v := (pt b30 o31)) (rv_ix Try.underlying23 ti40 rfl rfl hi29) ?_
    refine st (v := (pt b30 (o31 + 0))) (rv_fieldAddr (off := 0) (ft := 3) Try.underlying40 rfl ti3 rfl rfl) ?_
    have hc32 := ((H.own 0 rfl).at hx28 hi29).fst.int
    refine st (v := (I x27.1)) (rv_load1 Try.underlying3 rfl rfl hc32) ?_
    obtain ⟨σ33, hw34, H, -⟩ := H.pub 0 rfl (Nat.le_refl _)
    rw [← hw34]; clear hw34
    replace H := H.roLow 0 0 rfl (Nat.zero_le _)
    obtain ⟨r35, hx36, h'⟩ := bind_some h
    clear h
    have h := h'; clear h'
    have hc37 := c_impl_RankScore (alist_0 := a5) (clist_0 := c6) hx36
    refine st_call (cx_call hc37 (ent_f hc37.fn rfl) hn0 (show Hp S0 σ0 _ ([Ch.ro 0 (Sl a5 r2.1 c6) r2.1] ++ [Ch.ro 0 (Sl a5 r2.1 c6) r2.1, Ch.ro n0 (Sl a5 r2.1 c6) r2.1]) from (H.sel' [0, 0, 1] rfl rfl))) wn ?_
    rintro _ σ38 ⟨_, ⟨rfl, rfl⟩, H, -⟩
    replace H : Hp S0 σ0 σ38 [Ch.ro 0 (Sl a5 r2.1 c6) r2.1, Ch.ro n0 (Sl a5 r2.1 c6) r2.1] := H
    refine st (v := (I r35)) (rv_assign rfl) ?_
    refine w_end ?_
    refine q_then ?_
    refine c_seq ?_
    refine rg ?_
    refine st (v := (I r35)) (rv_move rfl) ?_
    refine st (v := (B (r35 == 1639))) (rv_eql (a := r35) (b := 1639) rfl rfl) ?_
    refine st (v := (B (r35 == 1639))) (rv_move rfl) ?_
    rcases Bool.eq_false_or_eq_true (r35 == 1639) with hb39 | hb39
    ·replace h := bif_t hb39 h
     refine st_g (v := (I r8)) (congrArg some hb39) (rv_move rfl) ?_
     refine st_g (v := (I r35)) (congrArg some hb39) (rv_move rfl) ?_
     refine st_g (v := (B (decide (r8 ≤ r35)))) (congrArg some hb39) (rv_leq (a := r8) (b := r35) rfl rfl) ?_
     refine st (v := (B (decide (r8 ≤ r35)))) (rv_pick_t (congrArg B hb39) rfl) ?_
     refine st (v := (B (decide (r8 ≤ r35)))) (rv_assign rfl) ?_
     refine w_end ?_
     refine q_then ?_
     refine c_ret ?_
     obtain rfl := Option.some.inj h
     exact fin_ret (v := (B (decide (r8 ≤ r35)))) (results_ok Try.results9 (res_tmp (v := (B (decide (r8 ≤ r35)))) rfl res_nil) rfl) ⟨rfl, rfl⟩ (H.sel' [] rfl rfl)
    ·replace h := bif_f hb39 h
     refine st_skip (congrArg some hb39) ?_
     refine st_skip (congrArg some hb39) ?_
     refine st_skip (congrArg some hb39) ?_
     refine st (v := (B false)) (rv_pick_f (congrArg B hb39) rfl) ?_
     refine st (v := (B false)) (rv_assign rfl) ?_
     refine w_end ?_
     refine q_then ?_
     refine c_ret ?_
     obtain rfl := Option.some.inj h
     exact fin_ret (v := (B false)) (results_ok Try.results9 (res_tmp (v := (B false)) rfl res_nil) rfl) ⟨rfl, rfl⟩ (H.sel' [] rfl rfl)

end Go.Vs
