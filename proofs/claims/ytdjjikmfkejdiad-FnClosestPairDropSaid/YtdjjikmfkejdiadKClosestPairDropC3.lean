/- The functions compute what their models say. -/
import Derived.Test.YtdjjikmfkejdiadKClosestPairDropC2
set_option linter.unusedVariables false
set_option linter.unusedSimpArgs false
set_option maxRecDepth 20000
namespace Go.Vs
open Go Go.Proofs
attribute [local irreducible] Code.wp Code.wpIn wpList wpListIn wpQuiet Calls CallsIn

theorem c_spec_ClosestPair {list_0 : List (Int × (List Int) × Int)} {kind_1 : Int} {alist_0 : Option Addr} {clist_0 : Nat} {r : Int × Int × Bool} (h : M.spec_ClosestPair list_0 kind_1 = some r) :
    Cal2 Try.prog 24 [(Sl alist_0 list_0 clist_0), (I kind_1)] [Ch.ro 0 (Sl alist_0 list_0 clist_0) list_0] (fun n0 v L => v = (.tuple #[(I r.1), (I r.2.1), (B r.2.2)]) ∧ L = []) := by
 refine cal2 (n := 75) Try.func24 rfl rfl rfl rfl ?_
 intro S0 σ0 n0 hn0 H
 unfold M.spec_ClosestPair at h
 refine c_seq ?_
 refine rg ?_
 refine st (v := (I 0)) (rv_assign rfl) ?_
 refine st (v := (I 0)) (rv_assign rfl) ?_
 refine st (v := (B false)) (rv_assign rfl) ?_
 refine w_end ?_
 refine q_then ?_
 refine c_seq ?_
 refine c_seq ?_
 obtain ⟨o1, hj, h'⟩ := bind_some h
 clear h
 refine c_cut (fun e a w => e = .normal ∧ ∃ (ρ : Nat → Value) (σ : St), a = fr 75 (updL ρ [(0, (Sl alist_0 list_0 clist_0)), (1, (I kind_1)), (23, (B o1))]) ∧ w = σ.w ∧ Hp S0 σ0 σ [Ch.ro 0 (Sl alist_0 list_0 clist_0) list_0]) ?_ ?_
 ·clear h'
  rename _ = some o1 => h
  refine rg ?_
  refine st (v := (Sl alist_0 list_0 clist_0)) (rv_move rfl) ?_
  obtain ⟨r2, hx3, h'⟩ := bind_some h
  clear h
  have h := h'; clear h'
  have hc4 := c_spec_validStore (alist_0 := alist_0) (clist_0 := clist_0) hx3
  refine st_call (cx_call hc4 (ent_f hc4.fn rfl) hn0 (show Hp S0 σ0 _ ([Ch.ro 0 (Sl alist_0 list_0 clist_0) list_0] ++ [Ch.ro 0 (Sl alist_0 list_0 clist_0) list_0]) from (H.sel' [0, 0] rfl rfl))) wn ?_
  rintro _ σ5 ⟨_, ⟨rfl, rfl⟩, H, -⟩
  replace H : Hp S0 σ0 σ5 [Ch.ro 0 (Sl alist_0 list_0 clist_0) list_0] := H
  refine st (v := (B (!r2))) (rv_not rfl) ?_
  refine st (v := (B (!r2))) (rv_move rfl) ?_
  rcases Bool.eq_false_or_eq_true (!r2) with hb6 | hb6
  ·replace h := bif_t hb6 h
   refine st_skip (congrArg some hb6) ?_
   refine st_skip (congrArg some hb6) ?_
   refine st_skip (congrArg some hb6) ?_
   refine st (v := (B true)) (rv_pick_t (congrArg B hb6) rfl) ?_
   refine st (v := (B true)) (rv_move rfl) ?_
   refine st_skip rfl ?_
   refine st_skip rfl ?_
   refine st_skip rfl ?_
   refine st (v := (B true)) (rv_pick_t rfl rfl) ?_
   refine w_end ?_
   obtain rfl := Option.some.inj h
   exact ⟨rfl, _, σ5, fr_join ⟨rfl, rfl, rfl, trivial⟩, rfl, H.sel' [0] rfl rfl⟩
  ·replace h := bif_f hb6 h
   refine st_g (v := (I kind_1)) (congrArg some hb6) (rv_move rfl) ?_
   obtain ⟨r7, hx8, h'⟩ := bind_some h
   clear h
   have h := h'; clear h'
   have hc9 := c_spec_validKind hx8
   refine st_call (cx_call hc9 (ent_f hc9.fn rfl) hn0 (show Hp S0 σ0 _ ([] ++ [Ch.ro 0 (Sl alist_0 list_0 clist_0) list_0]) from (H.sel' [0] rfl rfl))) (wanted_yes rfl (by exact (congrArg some hb6))) ?_
   rintro _ σ10 ⟨_, ⟨rfl, rfl⟩, H, -⟩
   replace H : Hp S0 σ0 σ10 [Ch.ro 0 (Sl alist_0 list_0 clist_0) list_0] := H
   refine st_g (v := (B (!r7))) (congrArg some hb6) (rv_not rfl) ?_
   refine st (v := (B (!r7))) (rv_pick_f (congrArg B hb6) rfl) ?_
   refine st (v := (B (!r7))) (rv_move rfl) ?_
   rcases Bool.eq_false_or_eq_true (!r7) with hb11 | hb11
   ·replace h := bif_t hb11 h
    refine st_skip (congrArg some hb11) ?_
    refine st_skip (congrArg some hb11) ?_
    refine st_skip (congrArg some hb11) ?_
    refine st (v := (B true)) (rv_pick_t (congrArg B hb11) rfl) ?_
    refine w_end ?_
    obtain rfl := Option.some.inj h
    exact ⟨rfl, _, σ10, fr_join ⟨rfl, rfl, rfl, trivial⟩, rfl, H.sel' [0] rfl rfl⟩
   ·replace h := bif_f hb11 h
    refine st_g (v := (Sl alist_0 list_0 clist_0)) (congrArg some hb11) (rv_move rfl) ?_
    refine st_g (v := (I (list_0.length : Int))) (congrArg some hb11) (rv_len Try.underlying23 rfl) ?_
    refine st_g (v := (B (decide ((list_0.length : Int) < 2)))) (congrArg some hb11) (rv_lss (a := (list_0.length : Int)) (b := 2) rfl rfl) ?_
    refine st (v := (B (decide ((list_0.length : Int) < 2)))) (rv_pick_f (congrArg B hb11) rfl) ?_
    refine w_end ?_
    obtain rfl := Option.some.inj h
    exact ⟨rfl, _, σ10, fr_join ⟨rfl, rfl, rfl, trivial⟩, rfl, H.sel' [0] rfl rfl⟩
 ·clear hj
  have h := h'
  clear h' H
  rintro e a w ⟨rfl, ρ, σ12, rfl, rfl, H⟩
  refine q_then ?_
  refine cd_cond o1 rfl (fun hb13 => ?_) (fun hb13 => ?_)
  ·replace h := bif_t hb13 h
   refine c_seq ?_
   refine rg ?_
   refine st (v := (I 0)) (rv_assign rfl) ?_
   refine st (v := (I 0)) (rv_assign rfl) ?_
   refine st (v := (B false)) (rv_assign rfl) ?_
   refine w_end ?_
   refine q_then ?_
   refine c_ret ?_
   refine q_then_r ?_
   obtain rfl := Option.some.inj h
   exact fin_ret (v := (.tuple #[(I 0), (I 0), (B false)])) (results_ok Try.results24 (res_tmp (v := (I 0)) rfl (res_tmp (v := (I 0)) rfl (res_tmp (v := (B false)) rfl res_nil))) rfl) ⟨rfl, rfl⟩ (H.sel' [] rfl rfl)
  ·replace h := bif_f hb13 h
   refine c_skip ?_
   refine q_then ?_
   refine c_seq ?_
   refine rg ?_
   refine st (v := (I 0)) (rv_assign rfl) ?_
   refine w_end ?_
   refine q_then ?_
   refine c_seq ?_
   refine rg ?_
   refine st (v := (I 1)) (rv_assign rfl) ?_
   refine w_end ?_
   refine q_then ?_
   refine c_seq ?_
   refine c_seq ?_
   refine rg ?_
   refine st (v := (I 0)) (rv_assign rfl) ?_
   refine w_end ?_
   refine q_then ?_
   obtain ⟨o14, hj, h'⟩ := bind_some h
   clear h
   refine c_cut (fun e a w => e = .normal ∧ ∃ (ρ : Nat → Value) (σ : St), a = fr 75 (updL ρ [(0, (Sl alist_0 list_0 clist_0)), (7, (I o14.1)), (8, (I o14.2))]) ∧ w = σ.w ∧ Hp S0 σ0 σ [Ch.ro 0 (Sl alist_0 list_0 clist_0) list_0]) ?_ ?_
   ·clear h'
    rename _ = some o14 => h
    refine c_blk ?_
    refine wp_loopM _ h (fun s15 a w => ∃ (ρ : Nat → Value) (σ : St), a = fr 75 (updL ρ [(0, (Sl alist_0 list_0 clist_0)), (1, (I kind_1)), (7, (I s15.1)), (8, (I s15.2.1)), (9, (I s15.2.2))]) ∧ w = σ.w ∧ Hp S0 σ0 σ [Ch.ro 0 (Sl alist_0 list_0 clist_0) list_0]) ⟨_, σ12, fr_join ⟨rfl, rfl, rfl, rfl, rfl, trivial⟩, rfl, H.sel' [0] rfl rfl⟩ ?_
    clear h H
    rintro s15 a w o ⟨ρ, σ16, rfl, rfl, H⟩ h hres
    refine c_seq ?_
    refine c_seq ?_
    refine rg ?_
    refine st (v := (I s15.2.2)) (rv_move rfl) ?_
    refine st (v := (Sl alist_0 list_0 clist_0)) (rv_move rfl) ?_
    refine st (v := (I (list_0.length : Int))) (rv_len Try.underlying23 rfl) ?_
    refine st (v := (B (decide (s15.2.2 < (list_0.length : Int))))) (rv_lss (a := s15.2.2) (b := (list_0.length : Int)) rfl rfl) ?_
    refine w_end ?_
    refine q_then ?_
    refine cd_cond (decide (s15.2.2 < (list_0.length : Int))) rfl (fun hb17 => ?_) (fun hb17 => ?_)
    ·replace h := bif_t hb17 h
     refine c_skip ?_
     refine q_then ?_
     refine c_seq ?_
     refine c_blk ?_
     refine c_seq ?_
     refine rg ?_
     refine st (v := (I s15.2.2)) (rv_move rfl) ?_
     refine st (v := (I (w64 (s15.2.2 + 1)))) (rv_add (a := s15.2.2) (b := 1) rfl rfl) ?_
     refine st (v := (I (w64 (s15.2.2 + 1)))) (rv_assign rfl) ?_
     refine w_end ?_
     refine q_then ?_
     obtain ⟨o18, hj, h'⟩ := bind_some h
     clear h
     refine c_cut (fun e a w => e = .normal ∧ ∃ (ρ : Nat → Value) (σ : St), a = fr 75 (updL ρ [(0, (Sl alist_0 list_0 clist_0)), (1, (I kind_1)), (7, (I o18.1)), (8, (I o18.2)), (9, (I s15.2.2))]) ∧ w = σ.w ∧ Hp S0 σ0 σ [Ch.ro 0 (Sl alist_0 list_0 clist_0) list_0]) ?_ ?_
     ·clear h'
      rename _ = some o18 => h
      refine c_blk ?_
      refine wp_loopM _ h (fun s19 a w => ∃ (ρ : Nat → Value) (σ : St), a = fr 75 (updL ρ [(0, (Sl alist_0 list_0 clist_0)), (1, (I kind_1)), (7, (I s19.1)), (8, (I s19.2.1)), (9, (I s15.2.2)), (10, (I s19.2.2))]) ∧ w = σ.w ∧ Hp S0 σ0 σ [Ch.ro 0 (Sl alist_0 list_0 clist_0) list_0]) ⟨_, σ16, fr_join ⟨rfl, rfl, rfl, rfl, rfl, rfl, trivial⟩, rfl, H.sel' [0] rfl rfl⟩ ?_
      clear h H
      rintro s19 a w o ⟨ρ, σ20, rfl, rfl, H⟩ h hres
      refine c_seq ?_
      refine c_seq ?_
      refine rg ?_
      refine st (v := (I s19.2.2)) (rv_move rfl) ?_
      refine st (v := (Sl alist_0 list_0 clist_0)) (rv_move rfl) ?_
      refine st (v := (I (list_0.length : Int))) (rv_len Try.underlying23 rfl) ?_
      refine st (v := (B (decide (s19.2.2 < (list_0.length : Int))))) (rv_lss (a := s19.2.2) (b := (list_0.length : Int)) rfl rfl) ?_
      refine w_end ?_
      refine q_then ?_
      refine cd_cond (decide (s19.2.2 < (list_0.length : Int))) rfl (fun hb21 => ?_) (fun hb21 => ?_)
      ·replace h := bif_t hb21 h
       refine c_skip ?_
       refine q_then ?_
       refine c_seq ?_
       obtain ⟨o22, hj, h'⟩ := bind_some h
       clear h
       refine c_cut (fun e a w => e = .normal ∧ ∃ (ρ : Nat → Value) (σ : St), a = fr 75 (updL ρ [(0, (Sl alist_0 list_0 clist_0)), (1, (I kind_1)), (7, (I o22.1)), (8, (I o22.2)), (9, (I s15.2.2)), (10, (I s19.2.2))]) ∧ w = σ.w ∧ Hp S0 σ0 σ [Ch.ro 0 (Sl alist_0 list_0 clist_0) list_0]) ?_ ?_
       ·clear h'
        rename _ = some o22 => h
        refine c_blk ?_
        refine c_seq ?_
        obtain ⟨x23, hx24, h'⟩ := bind_some h
        clear h
        have h := h'; clear h'
        obtain ⟨b26, o27, hi25, -⟩ := (H.ro 0 rfl).ix hx24
        obtain ⟨v31, hc32, hR30⟩ := ((H.ro 0 rfl).at hx24 hi25).snd.fst.slice
        obtain ⟨a28, c29, rfl⟩ := hR30.isSl
        replace H := H.add (d := Ch.ro 0 (Sl a28 x23.2.1 c29) x23.2.1) hR30 (fun _ h => h)
        clear hR30
        obtain ⟨x33, hx34, h'⟩ := bind_some h
        clear h
        have h := h'; clear h'
        obtain ⟨b36, o37, hi35, -⟩ := (H.ro 1 rfl).ix hx34
        obtain ⟨v41, hc42, hR40⟩ := ((H.ro 1 rfl).at hx34 hi35).snd.fst.slice
        obtain ⟨a38, c39, rfl⟩ := hR40.isSl
        replace H := H.add (d := Ch.ro 0 (Sl a38 x33.2.1 c39) x33.2.1) hR40 (fun _ h => h)
        clear hR40
        obtain ⟨r43, hx44, h'⟩ := bind_some h
        clear h
        have h := h'; clear h'
        have hc45 := c_spec_dist (aa_1 := a28) (ca_1 := c29) (ab_2 := a38) (cb_2 := c39) hx44
        obtain ⟨x46, hx47, h'⟩ := bind_some h
        clear h
        have h := h'; clear h'
        obtain ⟨b49, o50, hi48, -⟩ := (H.ro 2 rfl).ix hx47
        obtain ⟨v54, hc55, hR53⟩ := ((H.ro 2 rfl).at hx47 hi48).snd.fst.slice
        obtain ⟨a51, c52, rfl⟩ := hR53.isSl
        replace H := H.add (d := Ch.ro 0 (Sl a51 x46.2.1 c52) x46.2.1) hR53 (fun _ h => h)
        clear hR53
        obtain ⟨x56, hx57, h'⟩ := bind_some h
        clear h
        have h := h'; clear h'
        obtain ⟨b59, o60, hi58, -⟩ := (H.ro 3 rfl).ix hx57
        obtain ⟨v64, hc65, hR63⟩ := ((H.ro 3 rfl).at hx57 hi58).snd.fst.slice
        obtain ⟨a61, c62, rfl⟩ := hR63.isSl
        replace H := H.add (d := Ch.ro 0 (Sl a61 x56.2.1 c62) x56.2.1) hR63 (fun _ h => h)
        clear hR63
        have Hs := H
        refine rg2 (σ := σ20) (Nm := Unit) 23 [11] [[false], [true]] [[(0, 0)], [(0, 0)], [(0, 0)], [(0, 0)], [(0, 0)], [(0, 0)], [(0, 0)], [(0, 0)], [(0, 0)], [(0, 0)], [(0, 0)], [(0, 1)], [(0, 0), (1, 1)], [(0, 0), (1, 1)], [(0, 0), (1, 1)], [(0, 0), (1, 1)], [(0, 0), (1, 1)], [(0, 0), (1, 1)], [(0, 0), (1, 1)], [(0, 0), (1, 1)], [(0, 0), (1, 1)], [(0, 0), (1, 1)], [(0, 0), (1, 1)]] 1 [fun _ => fun σm => Hp S0 σ0 σm [Ch.ro 0 (Sl a61 x56.2.1 c62) x56.2.1, Ch.ro 0 (Sl a51 x46.2.1 c52) x46.2.1, Ch.ro 0 (Sl a38 x33.2.1 c39) x33.2.1, Ch.ro 0 (Sl a28 x23.2.1 c29) x23.2.1, Ch.ro 0 (Sl alist_0 list_0 clist_0) list_0] ∧ Md (cov []) σ20 σm, fun _ => fun σm => Hp S0 σ0 σm [Ch.ro 0 (Sl a61 x56.2.1 c62) x56.2.1, Ch.ro 0 (Sl a51 x46.2.1 c52) x46.2.1, Ch.ro 0 (Sl a38 x33.2.1 c39) x33.2.1, Ch.ro 0 (Sl a28 x23.2.1 c29) x23.2.1, Ch.ro 0 (Sl alist_0 list_0 clist_0) list_0] ∧ Md (cov []) σ20 σm] [fun _ => (I kind_1), fun _ => (Sl alist_0 list_0 clist_0), fun _ => (I s15.2.2), fun _ => (pt b26 o27), fun _ => (pt b26 (o27 + 1)), fun _ => (Sl a28 x23.2.1 c29), fun _ => (Sl alist_0 list_0 clist_0), fun _ => (I s19.2.2), fun _ => (pt b36 o37), fun _ => (pt b36 (o37 + 1)), fun _ => (Sl a38 x33.2.1 c39), fun _ => (I r43), fun _ => (I kind_1), fun _ => (Sl alist_0 list_0 clist_0), fun _ => (I s19.1), fun _ => (pt b49 o50), fun _ => (pt b49 (o50 + 1)), fun _ => (Sl a51 x46.2.1 c52), fun _ => (Sl alist_0 list_0 clist_0), fun _ => (I s19.2.1), fun _ => (pt b59 o60), fun _ => (pt b59 (o60 + 1)), fun _ => (Sl a61 x56.2.1 c62)] () (by kernel_rfl) (by kernel_rfl) ?_ ?_ ?_
        ·intro σm m0
         exact ⟨H.grow (m0.mono fun _ h => h.elim), m0⟩
        ·refine ac rfl (by
           intro k _nm ρ σm hJ hoff hdep
           have e1 := look_off (N := 75) (hoff 1 rfl) rfl
           exact dp_v (v := (I kind_1)) wn (rv_move e1) rfl hJ) ?_
         refine ac rfl (by
           intro k _nm ρ σm hJ hoff hdep
           have e0 := look_off (N := 75) (hoff 0 rfl) rfl
           exact dp_v (v := (Sl alist_0 list_0 clist_0)) wn (rv_move e0) rfl hJ) ?_
         refine ac rfl (by
           intro k _nm ρ σm hJ hoff hdep
           have e9 := look_off (N := 75) (hoff 9 rfl) rfl
           exact dp_v (v := (I s15.2.2)) wn (rv_move e9) rfl hJ) ?_
         refine ac rfl (by
           intro k _nm ρ σm hJ hoff hdep
           have e39 := hdep 1 rfl rfl 39 rfl
           have e40 := hdep 2 rfl rfl 40 rfl
           exact dp_v (v := (pt b26 o27)) wn (rv_ix Try.underlying23 ti40 e39 e40 hi25) rfl hJ) ?_
         refine ac rfl (by
           intro k _nm ρ σm hJ hoff hdep
           have e41 := hdep 3 rfl rfl 41 rfl
           exact dp_v (v := (pt b26 (o27 + 1))) wn (rv_fieldAddr (off := 1) (ft := 24) Try.underlying40 rfl ti24 rfl e41) rfl hJ) ?_
         refine all_cons (by
           refine ⟨?_, ?_⟩
           ·intro _nm ρ σm hJ hoff hdep
            have e42 := hdep 4 rfl rfl 42 rfl
            obtain ⟨H, m⟩ := id hJ
            replace hc32 := (Hs.ro 4 rfl).hmd hx24 hi25 (k := 1) (by decide) hc32 m
            exact dp_v (v := (Sl a28 x23.2.1 c29)) wn (rv_load1 Try.underlying24 rfl e42 hc32) rfl hJ
           trivial) ?_
         refine ac rfl (by
           intro k _nm ρ σm hJ hoff hdep
           have e0 := look_off (N := 75) (hoff 0 rfl) rfl
           exact dp_v (v := (Sl alist_0 list_0 clist_0)) wn (rv_move e0) rfl hJ) ?_
         refine ac rfl (by
           intro k _nm ρ σm hJ hoff hdep
           have e10 := look_off (N := 75) (hoff 10 rfl) rfl
           exact dp_v (v := (I s19.2.2)) wn (rv_move e10) rfl hJ) ?_
         refine ac rfl (by
           intro k _nm ρ σm hJ hoff hdep
           have e44 := hdep 6 rfl rfl 44 rfl
           have e45 := hdep 7 rfl rfl 45 rfl
           exact dp_v (v := (pt b36 o37)) wn (rv_ix Try.underlying23 ti40 e44 e45 hi35) rfl hJ) ?_
         refine ac rfl (by
           intro k _nm ρ σm hJ hoff hdep
           have e46 := hdep 8 rfl rfl 46 rfl
           exact dp_v (v := (pt b36 (o37 + 1))) wn (rv_fieldAddr (off := 1) (ft := 24) Try.underlying40 rfl ti24 rfl e46) rfl hJ) ?_
         refine all_cons (by
           refine ⟨?_, ?_⟩
           ·intro _nm ρ σm hJ hoff hdep
            have e47 := hdep 9 rfl rfl 47 rfl
            obtain ⟨H, m⟩ := id hJ
            replace hc42 := (Hs.ro 4 rfl).hmd hx34 hi35 (k := 1) (by decide) hc42 m
            exact dp_v (v := (Sl a38 x33.2.1 c39)) wn (rv_load1 Try.underlying24 rfl e47 hc42) rfl hJ
           trivial) ?_
         refine all_cons (by
           refine ⟨?_, ?_⟩
           ·intro _nm ρ σm hJ hoff hdep
            have e38 : look 75 ρ 38 = (I kind_1) := hdep 0 rfl rfl 38 rfl
            have e43 : look 75 ρ 43 = (Sl a28 x23.2.1 c29) := hdep 5 rfl rfl 43 rfl
            have e48 : look 75 ρ 48 = (Sl a38 x33.2.1 c39) := hdep 10 rfl rfl 48 rfl
            obtain ⟨H, m⟩ := id hJ
            refine dp_cx wn (cx_call hc45 (ent_f hc45.fn (by show [look 75 ρ 38, look 75 ρ 43, look 75 ρ 48] = _; rw [e38, e43, e48])) hn0 (show Hp S0 σ0 _ ([Ch.ro 0 (Sl a28 x23.2.1 c29) x23.2.1, Ch.ro 0 (Sl a38 x33.2.1 c39) x33.2.1] ++ [Ch.ro 0 (Sl a61 x56.2.1 c62) x56.2.1, Ch.ro 0 (Sl a51 x46.2.1 c52) x46.2.1, Ch.ro 0 (Sl a38 x33.2.1 c39) x33.2.1, Ch.ro 0 (Sl a28 x23.2.1 c29) x23.2.1, Ch.ro 0 (Sl alist_0 list_0 clist_0) list_0]) from (H.sel' [3, 2, 0, 1, 2, 3, 4] rfl rfl))) ?_
            rintro _ σq ⟨_, ⟨rfl, rfl⟩, H2, m2⟩
            exact ⟨_, (), rfl, rfl, ⟨H2.sel' [0, 1, 2, 3, 4] rfl rfl, m.comp0 (m2.mono (fun i h => by simp [cov, Ch.ro] at h))⟩, stab [0, 1, 2, 3, 4, 5, 6, 7, 8, 9, 10, 12, 13, 14, 15, 16, 17, 18, 19, 20, 21, 22] (by kernel_rfl) ⟨rfl, rfl, rfl, rfl, rfl, rfl, rfl, rfl, rfl, rfl, rfl, rfl, rfl, rfl, rfl, rfl, rfl, rfl, rfl, rfl, rfl, rfl, trivial⟩⟩
           trivial) ?_
         refine ac rfl (by
           intro k _nm ρ σm hJ hoff hdep
           have e1 := look_off (N := 75) (hoff 1 rfl) rfl
           exact dp_v (v := (I kind_1)) wn (rv_move e1) rfl hJ) ?_
         refine ac rfl (by
           intro k _nm ρ σm hJ hoff hdep
           have e0 := look_off (N := 75) (hoff 0 rfl) rfl
           exact dp_v (v := (Sl alist_0 list_0 clist_0)) wn (rv_move e0) rfl hJ) ?_
         refine ac rfl (by
           intro k _nm ρ σm hJ hoff hdep
           have e7 := look_off (N := 75) (hoff 7 rfl) rfl
           exact dp_v (v := (I s19.1)) wn (rv_move e7) rfl hJ) ?_
         refine ac rfl (by
           intro k _nm ρ σm hJ hoff hdep
           have e51 := hdep 13 rfl rfl 51 rfl
           have e52 := hdep 14 rfl rfl 52 rfl
           exact dp_v (v := (pt b49 o50)) wn (rv_ix Try.underlying23 ti40 e51 e52 hi48) rfl hJ) ?_
         refine ac rfl (by
           intro k _nm ρ σm hJ hoff hdep
           have e53 := hdep 15 rfl rfl 53 rfl
           exact dp_v (v := (pt b49 (o50 + 1))) wn (rv_fieldAddr (off := 1) (ft := 24) Try.underlying40 rfl ti24 rfl e53) rfl hJ) ?_
         refine all_cons (by
           refine ⟨?_, ?_⟩
           ·intro _nm ρ σm hJ hoff hdep
            have e54 := hdep 16 rfl rfl 54 rfl
            obtain ⟨H, m⟩ := id hJ
            replace hc55 := (Hs.ro 4 rfl).hmd hx47 hi48 (k := 1) (by decide) hc55 m
            exact dp_v (v := (Sl a51 x46.2.1 c52)) wn (rv_load1 Try.underlying24 rfl e54 hc55) rfl hJ
           refine ⟨?_, ?_⟩
           ·intro _nm ρ σm hJ hoff hdep
            have e54 := hdep 16 rfl rfl 54 rfl
            obtain ⟨H, m⟩ := id hJ
            replace hc55 := (Hs.ro 4 rfl).hmd hx47 hi48 (k := 1) (by decide) hc55 m
            exact dp_v (v := (Sl a51 x46.2.1 c52)) wn (rv_load1 Try.underlying24 rfl e54 hc55) rfl hJ
           trivial) ?_
         refine ac rfl (by
           intro k _nm ρ σm hJ hoff hdep
           have e0 := look_off (N := 75) (hoff 0 rfl) rfl
           exact dp_v (v := (Sl alist_0 list_0 clist_0)) wn (rv_move e0) rfl hJ) ?_
         refine ac rfl (by
           intro k _nm ρ σm hJ hoff hdep
           have e8 := look_off (N := 75) (hoff 8 rfl) rfl
           exact dp_v (v := (I s19.2.1)) wn (rv_move e8) rfl hJ) ?_
         refine ac rfl (by
           intro k _nm ρ σm hJ hoff hdep
           have e56 := hdep 18 rfl rfl 56 rfl
           have e57 := hdep 19 rfl rfl 57 rfl
           exact dp_v (v := (pt b59 o60)) wn (rv_ix Try.underlying23 ti40 e56 e57 hi58) rfl hJ) ?_
         refine ac rfl (by
           intro k _nm ρ σm hJ hoff hdep
           have e58 := hdep 20 rfl rfl 58 rfl
           exact dp_v (v := (pt b59 (o60 + 1))) wn (rv_fieldAddr (off := 1) (ft := 24) Try.underlying40 rfl ti24 rfl e58) rfl hJ) ?_
         refine all_cons (by
           refine ⟨?_, ?_⟩
           ·intro _nm ρ σm hJ hoff hdep
            have e59 := hdep 21 rfl rfl 59 rfl
            obtain ⟨H, m⟩ := id hJ
            replace hc65 := (Hs.ro 4 rfl).hmd hx57 hi58 (k := 1) (by decide) hc65 m
            exact dp_v (v := (Sl a61 x56.2.1 c62)) wn (rv_load1 Try.underlying24 rfl e59 hc65) rfl hJ
           refine ⟨?_, ?_⟩
           ·intro _nm ρ σm hJ hoff hdep
            have e59 := hdep 21 rfl rfl 59 rfl
            obtain ⟨H, m⟩ := id hJ
            replace hc65 := (Hs.ro 4 rfl).hmd hx57 hi58 (k := 1) (by decide) hc65 m
            exact dp_v (v := (Sl a61 x56.2.1 c62)) wn (rv_load1 Try.underlying24 rfl e59 hc65) rfl hJ
           trivial) ?_
         exact all_nil
        ·intro _nm ρ σ66 hJ hoff hrel
         have e0 := look_off (N := 75) (hoff 0 rfl) rfl
         have e1 := look_off (N := 75) (hoff 1 rfl) rfl
         have e7 := look_off (N := 75) (hoff 7 rfl) rfl
         have e8 := look_off (N := 75) (hoff 8 rfl) rfl
         have e9 := look_off (N := 75) (hoff 9 rfl) rfl
         have e10 := look_off (N := 75) (hoff 10 rfl) rfl
         have e49 := hrel 11 rfl 49 rfl
         have e50 := hrel 12 rfl 50 rfl
         have e55 := hrel 17 rfl 55 rfl
         have e60 := hrel 22 rfl 60 rfl
         obtain ⟨H, -⟩ := (show Hp S0 σ0 σ66 [Ch.ro 0 (Sl a61 x56.2.1 c62) x56.2.1, Ch.ro 0 (Sl a51 x46.2.1 c52) x46.2.1, Ch.ro 0 (Sl a38 x33.2.1 c39) x33.2.1, Ch.ro 0 (Sl a28 x23.2.1 c29) x23.2.1, Ch.ro 0 (Sl alist_0 list_0 clist_0) list_0] ∧ Md (cov []) σ20 σ66 from hJ)
         clear hJ Hs
         rw [fr_lookL (L := [(0, (Sl alist_0 list_0 clist_0)), (1, (I kind_1)), (7, (I s19.1)), (8, (I s19.2.1)), (9, (I s15.2.2)), (10, (I s19.2.2)), (49, (I r43)), (50, (I kind_1)), (55, (Sl a51 x46.2.1 c52)), (60, (Sl a61 x56.2.1 c62))]) ⟨e0, e1, e7, e8, e9, e10, e49, e50, e55, e60, trivial⟩]
         clear hoff hrel e0 e1 e7 e8 e9 e10 e49 e50 e55 e60
         obtain ⟨r67, hx68, h'⟩ := bind_some h
         clear h
         have h := h'; clear h'
         have hc69 := c_spec_dist (aa_1 := a51) (ca_1 := c52) (ab_2 := a61) (cb_2 := c62) hx68
         refine st_call (cx_call hc69 (ent_f hc69.fn rfl) hn0 (show Hp S0 σ0 _ ([Ch.ro 0 (Sl a51 x46.2.1 c52) x46.2.1, Ch.ro 0 (Sl a61 x56.2.1 c62) x56.2.1] ++ [Ch.ro 0 (Sl a61 x56.2.1 c62) x56.2.1, Ch.ro 0 (Sl a51 x46.2.1 c52) x46.2.1, Ch.ro 0 (Sl a38 x33.2.1 c39) x33.2.1, Ch.ro 0 (Sl a28 x23.2.1 c29) x23.2.1, Ch.ro 0 (Sl alist_0 list_0 clist_0) list_0]) from (H.sel' [1, 0, 0, 1, 2, 3, 4] rfl rfl))) wn ?_
         rintro _ σ70 ⟨_, ⟨rfl, rfl⟩, H, -⟩
         replace H : Hp S0 σ0 σ70 [Ch.ro 0 (Sl a61 x56.2.1 c62) x56.2.1, Ch.ro 0 (Sl a51 x46.2.1 c52) x46.2.1, Ch.ro 0 (Sl a38 x33.2.1 c39) x33.2.1, Ch.ro 0 (Sl a28 x23.2.1 c29) x23.2.1, Ch.ro 0 (Sl alist_0 list_0 clist_0) list_0] := H
         refine st (v := (B (decide (r43 < r67)))) (rv_lss (a := r43) (b := r67) rfl rfl) ?_
         refine w_end ?_
         refine q_then ?_
         refine cd_cond (decide (r43 < r67)) rfl (fun hb71 => ?_) (fun hb71 => ?_)
         ·replace h := bif_t hb71 h
          refine c_seq ?_
          refine rg ?_
          refine st (v := (I s15.2.2)) (rv_move rfl) ?_
          refine st (v := (I s15.2.2)) (rv_assign rfl) ?_
          refine w_end ?_
          refine q_then ?_
          refine rg ?_
          refine st (v := (I s19.2.2)) (rv_move rfl) ?_
          refine st (v := (I s19.2.2)) (rv_assign rfl) ?_
          refine w_end ?_
          refine q_blk ?_
          obtain rfl := Option.some.inj h
          exact ⟨rfl, _, σ70, fr_join ⟨rfl, rfl, rfl, rfl, rfl, rfl, trivial⟩, rfl, H.sel' [4] rfl rfl⟩
         ·replace h := bif_f hb71 h
          refine c_skip ?_
          refine q_blk ?_
          obtain rfl := Option.some.inj h
          exact ⟨rfl, _, σ70, fr_join ⟨rfl, rfl, rfl, rfl, rfl, rfl, trivial⟩, rfl, H.sel' [4] rfl rfl⟩
       ·clear hj
        have h := h'
        clear h' H
        rintro e a w ⟨rfl, ρ, σ72, rfl, rfl, H⟩
        refine q_then ?_
        refine rg ?_
        refine st (v := (I s19.2.2)) (rv_move rfl) ?_
        refine st (v := (I (w64 (s19.2.2 + 1)))) (rv_add (a := s19.2.2) (b := 1) rfl rfl) ?_
        refine st (v := (I (w64 (s19.2.2 + 1)))) (rv_assign rfl) ?_
        refine w_end ?_
        refine q_then ?_
        obtain rfl := Option.some.inj h
        exact ⟨_, rfl, _, σ72, fr_join ⟨rfl, rfl, rfl, rfl, rfl, rfl, trivial⟩, rfl, H.sel' [0] rfl rfl⟩
      ·replace h := bif_f hb21 h
       refine c_exit ?_
       refine q_then_x ?_
       refine q_then_x ?_
       refine q_blk_hit ?_
       obtain rfl := Option.some.inj h
       obtain rfl := hres _ rfl
       exact ⟨rfl, _, σ20, fr_join ⟨rfl, rfl, rfl, rfl, rfl, trivial⟩, rfl, H.sel' [0] rfl rfl⟩
     ·clear hj
      have h := h'
      clear h' H
      rintro e a w ⟨rfl, ρ, σ73, rfl, rfl, H⟩
      refine q_blk ?_
      refine q_then ?_
      refine rg ?_
      refine st (v := (I s15.2.2)) (rv_move rfl) ?_
      refine st (v := (I (w64 (s15.2.2 + 1)))) (rv_add (a := s15.2.2) (b := 1) rfl rfl) ?_
      refine st (v := (I (w64 (s15.2.2 + 1)))) (rv_assign rfl) ?_
      refine w_end ?_
      refine q_then ?_
      obtain rfl := Option.some.inj h
      exact ⟨_, rfl, _, σ73, fr_join ⟨rfl, rfl, rfl, rfl, rfl, trivial⟩, rfl, H.sel' [0] rfl rfl⟩
    ·replace h := bif_f hb17 h
     refine c_exit ?_
     refine q_then_x ?_
     refine q_then_x ?_
     refine q_blk_hit ?_
     obtain rfl := Option.some.inj h
     obtain rfl := hres _ rfl
     exact ⟨rfl, _, σ16, fr_join ⟨rfl, rfl, rfl, trivial⟩, rfl, H.sel' [0] rfl rfl⟩
   ·clear hj
    have h := h'
    clear h' H
    rintro e a w ⟨rfl, ρ, σ74, rfl, rfl, H⟩
    refine q_then ?_
    refine c_seq ?_
    refine rgP (σ := σ74) 11 (by kernel_rfl) (by kernel_rfl) (by kernel_rfl) ?_
    refine sq (v := (Sl alist_0 list_0 clist_0)) (rv_move rfl) ?_
    refine sq (v := (I o14.1)) (rv_move rfl) ?_
    obtain ⟨x75, hx76, h'⟩ := bind_some h
    clear h
    have h := h'; clear h'
    obtain ⟨b78, o79, hi77, -⟩ := (H.ro 0 rfl).ix hx76
    refine sq (v := (pt b78 o79)) (rv_ix Try.underlying23 ti40 rfl rfl hi77) ?_
    refine sq (v := (pt b78 (o79 + 0))) (rv_fieldAddr (off := 0) (ft := 3) Try.underlying40 rfl ti3 rfl rfl) ?_
    have hc80 := ((H.ro 0 rfl).at hx76 hi77).fst.int
    refine sq (v := (I x75.1)) (rv_load1 Try.underlying3 rfl rfl hc80) ?_
    refine sq (v := (Sl alist_0 list_0 clist_0)) (rv_move rfl) ?_
    refine sq (v := (I o14.2)) (rv_move rfl) ?_
    obtain ⟨x81, hx82, h'⟩ := bind_some h
    clear h
    have h := h'; clear h'
    obtain ⟨b84, o85, hi83, -⟩ := (H.ro 0 rfl).ix hx82
    refine sq (v := (pt b84 o85)) (rv_ix Try.underlying23 ti40 rfl rfl hi83) ?_
    refine sq (v := (pt b84 (o85 + 0))) (rv_fieldAddr (off := 0) (ft := 3) Try.underlying40 rfl ti3 rfl rfl) ?_
    have hc86 := ((H.ro 0 rfl).at hx82 hi83).fst.int
    refine sq (v := (I x81.1)) (rv_load1 Try.underlying3 rfl rfl hc86) ?_
    refine sq (v := (I x75.1)) (rv_assign rfl) ?_
    refine sq_end ?_
    intro σ87 hm88
    replace H := H.grow (hm88.mono fun _ h => h); clear hm88
    refine st (v := (I x81.1)) (rv_assign rfl) ?_
    refine st (v := (B true)) (rv_assign rfl) ?_
    refine w_end ?_
    refine q_then ?_
    refine c_ret ?_
    obtain rfl := Option.some.inj h
    exact fin_ret (v := (.tuple #[(I x75.1), (I x81.1), (B true)])) (results_ok Try.results24 (res_tmp (v := (I x75.1)) rfl (res_tmp (v := (I x81.1)) rfl (res_tmp (v := (B true)) rfl res_nil))) rfl) ⟨rfl, rfl⟩ (H.sel' [] rfl rfl)

theorem c_cmp_isNaN_int {x_0 : Int}  {r : Bool} (h : M.cmp_isNaN_int x_0 = some r) :
    Cal2 Try.prog 149 [(I x_0)] [] (fun n0 v L => v = (B r) ∧ L = []) := by
 refine cal2 (n := 6) Try.func149 rfl rfl rfl rfl ?_
 intro S0 σ0 n0 hn0 H
 unfold M.cmp_isNaN_int at h
 refine c_seq ?_
 refine rg ?_
 refine st (v := (B false)) (rv_assign rfl) ?_
 refine w_end ?_
 refine q_then ?_
 refine c_seq ?_
 refine rg ?_
 refine st (v := (I x_0)) (rv_move rfl) ?_
 refine st (v := (I x_0)) (rv_move rfl) ?_
 refine st (v := (B (x_0 != x_0))) (rv_neq (a := x_0) (b := x_0) rfl rfl) ?_
 refine st (v := (B (x_0 != x_0))) (rv_assign rfl) ?_
 refine w_end ?_
 refine q_then ?_
 refine c_ret ?_
 obtain rfl := Option.some.inj h
 exact fin_ret (v := (B (x_0 != x_0))) (results_ok Try.results149 (res_tmp (v := (B (x_0 != x_0))) rfl res_nil) rfl) ⟨rfl, rfl⟩ (H.sel' [] rfl rfl)

theorem c_cmp_Compare_int {x_0 : Int} {y_1 : Int}  {r : Int} (h : M.cmp_Compare_int x_0 y_1 = some r) :
    Cal2 Try.prog 127 [(I x_0), (I y_1)] [] (fun n0 v L => v = (I r) ∧ L = []) := by
 refine cal2 (n := 20) Try.func127 rfl rfl rfl rfl ?_
 intro S0 σ0 n0 hn0 H
 unfold M.cmp_Compare_int at h
 refine c_seq ?_
 refine rg ?_
 refine st (v := (I 0)) (rv_assign rfl) ?_
 refine w_end ?_
 refine q_then ?_
 refine c_seq ?_
 refine rg ?_
 refine st (v := (I x_0)) (rv_move rfl) ?_
 obtain ⟨r1, hx2, h'⟩ := bind_some h
 clear h
 have h := h'; clear h'
 have hc3 := c_cmp_isNaN_int hx2
 refine st_call (cx_call hc3 (ent_f hc3.fn rfl) hn0 (show Hp S0 σ0 _ ([] ++ []) from (H.sel' [] rfl rfl))) wn ?_
 rintro _ σ4 ⟨_, ⟨rfl, rfl⟩, H, -⟩
 replace H : Hp S0 σ0 σ4 [] := H
 refine st (v := (B r1)) (rv_assign rfl) ?_
 refine w_end ?_
 refine q_then ?_
 refine c_seq ?_
 refine rg ?_
 refine st (v := (I y_1)) (rv_move rfl) ?_
 obtain ⟨r5, hx6, h'⟩ := bind_some h
 clear h
 have h := h'; clear h'
 have hc7 := c_cmp_isNaN_int hx6
 refine st_call (cx_call hc7 (ent_f hc7.fn rfl) hn0 (show Hp S0 σ0 _ ([] ++ []) from (H.sel' [] rfl rfl))) wn ?_
 rintro _ σ8 ⟨_, ⟨rfl, rfl⟩, H, -⟩
 replace H : Hp S0 σ0 σ8 [] := H
 refine st (v := (B r5)) (rv_assign rfl) ?_
 refine w_end ?_
 refine q_then ?_
 refine c_seq ?_
 refine c_seq ?_
 refine rg ?_
 refine st (v := (B r1)) (rv_move rfl) ?_
 refine w_end ?_
 refine q_then ?_
 refine cd_cond r1 rfl (fun hb9 => ?_) (fun hb9 => ?_)
 ·replace h := bif_t hb9 h
  refine c_seq ?_
  refine c_seq ?_
  refine rg ?_
  refine st (v := (B r5)) (rv_move rfl) ?_
  refine w_end ?_
  refine q_then ?_
  refine cd_cond r5 rfl (fun hb10 => ?_) (fun hb10 => ?_)
  ·replace h := bif_t hb10 h
   refine c_seq ?_
   refine rg ?_
   refine st (v := (I 0)) (rv_assign rfl) ?_
   refine w_end ?_
   refine q_then ?_
   refine c_ret ?_
   refine q_then_r ?_
   refine q_then_r ?_
   obtain rfl := Option.some.inj h
   exact fin_ret (v := (I 0)) (results_ok Try.results127 (res_tmp (v := (I 0)) rfl res_nil) rfl) ⟨rfl, rfl⟩ (H.sel' [] rfl rfl)
  ·replace h := bif_f hb10 h
   refine c_skip ?_
   refine q_then ?_
   refine c_seq ?_
   refine rg ?_
   refine st (v := (I (-1))) (rv_assign rfl) ?_
   refine w_end ?_
   refine q_then ?_
   refine c_ret ?_
   refine q_then_r ?_
   obtain rfl := Option.some.inj h
   exact fin_ret (v := (I (-1))) (results_ok Try.results127 (res_tmp (v := (I (-1))) rfl res_nil) rfl) ⟨rfl, rfl⟩ (H.sel' [] rfl rfl)
 ·replace h := bif_f hb9 h
  refine c_skip ?_
  refine q_then ?_
  refine c_seq ?_
  refine c_seq ?_
  refine rg ?_
  refine st (v := (B r5)) (rv_move rfl) ?_
  refine w_end ?_
  refine q_then ?_
  refine cd_cond r5 rfl (fun hb11 => ?_) (fun hb11 => ?_)
  ·replace h := bif_t hb11 h
   refine c_seq ?_
   refine rg ?_
   refine st (v := (I 1)) (rv_assign rfl) ?_
   refine w_end ?_
   refine q_then ?_
   refine c_ret ?_
   refine q_then_r ?_
   obtain rfl := Option.some.inj h
   exact fin_ret (v := (I 1)) (results_ok Try.results127 (res_tmp (v := (I 1)) rfl res_nil) rfl) ⟨rfl, rfl⟩ (H.sel' [] rfl rfl)
  ·replace h := bif_f hb11 h
   refine c_skip ?_
   refine q_then ?_
   refine c_seq ?_
   refine c_seq ?_
   refine rg ?_
   refine st (v := (I x_0)) (rv_move rfl) ?_
   refine st (v := (I y_1)) (rv_move rfl) ?_
   refine st (v := (B (decide (x_0 < y_1)))) (rv_lss (a := x_0) (b := y_1) rfl rfl) ?_
   refine w_end ?_
   refine q_then ?_
   refine cd_cond (decide (x_0 < y_1)) rfl (fun hb12 => ?_) (fun hb12 => ?_)
   ·replace h := bif_t hb12 h
    refine c_seq ?_
    refine rg ?_
    refine st (v := (I (-1))) (rv_assign rfl) ?_
    refine w_end ?_
    refine q_then ?_
    refine c_ret ?_
    refine q_then_r ?_
    obtain rfl := Option.some.inj h
    exact fin_ret (v := (I (-1))) (results_ok Try.results127 (res_tmp (v := (I (-1))) rfl res_nil) rfl) ⟨rfl, rfl⟩ (H.sel' [] rfl rfl)
   ·replace h := bif_f hb12 h
    refine c_skip ?_
    refine q_then ?_
    refine c_seq ?_
    refine c_seq ?_
    refine rg ?_
    refine st (v := (I x_0)) (rv_move rfl) ?_
    refine st (v := (I y_1)) (rv_move rfl) ?_
    refine st (v := (B (decide (y_1 < x_0)))) (rv_gtr (a := x_0) (b := y_1) rfl rfl) ?_
    refine w_end ?_
    refine q_then ?_
    refine cd_cond (decide (y_1 < x_0)) rfl (fun hb13 => ?_) (fun hb13 => ?_)
    ·replace h := bif_t hb13 h
     refine c_seq ?_
     refine rg ?_
     refine st (v := (I 1)) (rv_assign rfl) ?_
     refine w_end ?_
     refine q_then ?_
     refine c_ret ?_
     refine q_then_r ?_
     obtain rfl := Option.some.inj h
     exact fin_ret (v := (I 1)) (results_ok Try.results127 (res_tmp (v := (I 1)) rfl res_nil) rfl) ⟨rfl, rfl⟩ (H.sel' [] rfl rfl)
    ·replace h := bif_f hb13 h
     refine c_skip ?_
     refine q_then ?_
     refine c_seq ?_
     refine rg ?_
     refine st (v := (I 0)) (rv_assign rfl) ?_
     refine w_end ?_
     refine q_then ?_
     refine c_ret ?_
     obtain rfl := Option.some.inj h
     exact fin_ret (v := (I 0)) (results_ok Try.results127 (res_tmp (v := (I 0)) rfl res_nil) rfl) ⟨rfl, rfl⟩ (H.sel' [] rfl rfl)

theorem c_impl_placeOf_1 {x_0 : Int × (List Int) × Int} {key_1 : Int} {ax_0_1 : Option Addr} {cx_0_1 : Nat} {r : Int} (h : M.impl_placeOf_1 x_0 key_1 = some r) :
    Cal2 Try.prog 126 [(.agg #[(I x_0.1), (Sl ax_0_1 x_0.2.1 cx_0_1), (I x_0.2.2)]), (I key_1)] [Ch.ro 0 (Sl ax_0_1 x_0.2.1 cx_0_1) x_0.2.1] (fun n0 v L => v = (I r) ∧ L = []) := by
 refine cal2 (n := 9) Try.func126 rfl rfl rfl rfl ?_
 intro S0 σ0 n0 hn0 H
 unfold M.impl_placeOf_1 at h
 refine c_seq ?_
 refine rg ?_
 refine st_ex (ex_box (cs := [(I x_0.1), (Sl ax_0_1 x_0.2.1 cx_0_1), (I x_0.2.2)]) H hn0 rfl rfl) wn ?_
 rintro _ σ2 ⟨b1, rfl, H, -⟩
 refine st (v := (I 0)) (rv_assign rfl) ?_
 refine w_end ?_
 refine q_then ?_
 refine c_seq ?_
 refine rg ?_
 refine st (v := (pt b1 0)) (rv_fieldAddr (off := 0) (ft := 3) Try.underlying40 rfl ti3 rfl rfl) ?_
 have hc3 := H.cell (u := (I x_0.1)) (o' := 0) 0 0 rfl rfl rfl
 refine st (v := (I x_0.1)) (rv_load1 Try.underlying3 rfl rfl hc3) ?_
 refine st (v := (I key_1)) (rv_move rfl) ?_
 obtain ⟨r4, hx5, h'⟩ := bind_some h
 clear h
 have h := h'; clear h'
 have hc6 := c_cmp_Compare_int hx5
 refine st_call (cx_call hc6 (ent_f hc6.fn rfl) hn0 (show Hp S0 σ0 _ ([] ++ [Ch.bx n0 b1 0 [(I x_0.1), (Sl ax_0_1 x_0.2.1 cx_0_1), (I x_0.2.2)] [] [], Ch.ro 0 (Sl ax_0_1 x_0.2.1 cx_0_1) x_0.2.1]) from (H.sel' [0, 1] rfl rfl))) wn ?_
 rintro _ σ7 ⟨_, ⟨rfl, rfl⟩, H, -⟩
 replace H : Hp S0 σ0 σ7 [Ch.bx n0 b1 0 [(I x_0.1), (Sl ax_0_1 x_0.2.1 cx_0_1), (I x_0.2.2)] [] [], Ch.ro 0 (Sl ax_0_1 x_0.2.1 cx_0_1) x_0.2.1] := H
 refine st (v := (I r4)) (rv_assign rfl) ?_
 refine w_end ?_
 refine q_then ?_
 refine c_ret ?_
 obtain rfl := Option.some.inj h
 exact fin_ret (v := (I r4)) (results_ok Try.results126 (res_tmp (v := (I r4)) rfl res_nil) rfl) ⟨rfl, rfl⟩ (H.sel' [] rfl rfl)

theorem c_slices_BinarySearchFunc_impl_Item_impl_Item_int__impl_placeOf_1 {x_0 : List (Int × (List Int) × Int)} {target_1 : Int} {ax_0 : Option Addr} {cx_0 : Nat} {r : Int × Bool} (h : M.slices_BinarySearchFunc_impl_Item_impl_Item_int__impl_placeOf_1 x_0 target_1 = some r) :
    Cal2 Try.prog 125 [(Sl ax_0 x_0 cx_0), (I target_1), (.func (.func 126) #[] #[])] [Ch.ro 0 (Sl ax_0 x_0 cx_0) x_0] (fun n0 v L => v = (.tuple #[(I r.1), (B r.2)]) ∧ L = []) := by
 refine cal2 (n := 49) Try.func125 rfl rfl rfl rfl ?_
 intro S0 σ0 n0 hn0 H
 unfold M.slices_BinarySearchFunc_impl_Item_impl_Item_int__impl_placeOf_1 at h
 refine c_seq ?_
 refine rg ?_
 refine st (v := (I 0)) (rv_assign rfl) ?_
 refine st (v := (B false)) (rv_assign rfl) ?_
 refine w_end ?_
 refine q_then ?_
 refine c_seq ?_
 refine rg ?_
 refine st (v := (Sl ax_0 x_0 cx_0)) (rv_move rfl) ?_
 refine st (v := (I (x_0.length : Int))) (rv_len Try.underlying23 rfl) ?_
 refine st (v := (I (x_0.length : Int))) (rv_assign rfl) ?_
 refine w_end ?_
 refine q_then ?_
 refine c_seq ?_
 refine rg ?_
 refine st (v := (I (x_0.length : Int))) (rv_move rfl) ?_
 refine st (v := (I 0)) (rv_assign rfl) ?_
 refine st (v := (I (x_0.length : Int))) (rv_assign rfl) ?_
 refine w_end ?_
 refine q_then ?_
 refine c_seq ?_
 obtain ⟨o1, hj, h'⟩ := bind_some h
 clear h
 refine c_cut (fun e a w => e = .normal ∧ ∃ (ρ : Nat → Value) (σ : St), a = fr 49 (updL ρ [(0, (Sl ax_0 x_0 cx_0)), (1, (I target_1)), (2, (.func (.func 126) #[] #[])), (8, (I (x_0.length : Int))), (9, (I o1))]) ∧ w = σ.w ∧ Hp S0 σ0 σ [Ch.ro 0 (Sl ax_0 x_0 cx_0) x_0]) ?_ ?_
 ·clear h'
  rename _ = some o1 => h
  refine c_blk ?_
  refine wp_loopM _ h (fun s2 a w => ∃ (ρ : Nat → Value) (σ : St), a = fr 49 (updL ρ [(0, (Sl ax_0 x_0 cx_0)), (1, (I target_1)), (2, (.func (.func 126) #[] #[])), (8, (I (x_0.length : Int))), (9, (I s2.1)), (10, (I s2.2))]) ∧ w = σ.w ∧ Hp S0 σ0 σ [Ch.ro 0 (Sl ax_0 x_0 cx_0) x_0]) ⟨_, σ0, fr_join ⟨rfl, rfl, rfl, rfl, rfl, rfl, trivial⟩, rfl, H.sel' [0] rfl rfl⟩ ?_
  clear h H
  rintro s2 a w o ⟨ρ, σ3, rfl, rfl, H⟩ h hres
  refine c_seq ?_
  refine c_seq ?_
  refine rg ?_
  refine st (v := (I s2.1)) (rv_move rfl) ?_
  refine st (v := (I s2.2)) (rv_move rfl) ?_
  refine st (v := (B (decide (s2.1 < s2.2)))) (rv_lss (a := s2.1) (b := s2.2) rfl rfl) ?_
  refine w_end ?_
  refine q_then ?_
  refine cd_cond (decide (s2.1 < s2.2)) rfl (fun hb4 => ?_) (fun hb4 => ?_)
  ·replace h := bif_t hb4 h
   refine c_skip ?_
   refine q_then ?_
   refine c_blk ?_
   refine c_seq ?_
   refine rg ?_
   refine st (v := (I s2.1)) (rv_move rfl) ?_
   refine st (v := (I s2.2)) (rv_move rfl) ?_
   refine st (v := (I (w64 (s2.1 + s2.2)))) (rv_add (a := s2.1) (b := s2.2) rfl rfl) ?_
   refine st (v := (.int .u64 (wk .u64 (w64 (s2.1 + s2.2))))) (rvk_conv (k := .i64) (k' := .u64) (a := (w64 (s2.1 + s2.2))) Try.underlying3 Try.underlying160 rfl) ?_
   refine st (v := (.int .u64 (gshr .u64 (wk .u64 (w64 (s2.1 + s2.2))) 1))) (rvk_shr (k := .u64) (k' := .u64) (a := (wk .u64 (w64 (s2.1 + s2.2)))) (b := 1) rfl rfl (by decide)) ?_
   refine st (v := (I (wk .i64 (gshr .u64 (wk .u64 (w64 (s2.1 + s2.2))) 1)))) (rvk_conv (k := .u64) (k' := .i64) (a := (gshr .u64 (wk .u64 (w64 (s2.1 + s2.2))) 1)) Try.underlying160 Try.underlying3 rfl) ?_
   refine st (v := (I (wk .i64 (gshr .u64 (wk .u64 (w64 (s2.1 + s2.2))) 1)))) (rv_assign rfl) ?_
   refine w_end ?_
   refine q_then ?_
   refine c_seq ?_
   refine rg ?_
   refine st (v := (.func (.func 126) #[] #[])) (rv_move rfl) ?_
   refine st (v := (Sl ax_0 x_0 cx_0)) (rv_move rfl) ?_
   refine st (v := (I (wk .i64 (gshr .u64 (wk .u64 (w64 (s2.1 + s2.2))) 1)))) (rv_move rfl) ?_
   obtain ⟨x5, hx6, h'⟩ := bind_some h
   clear h
   have h := h'; clear h'
   obtain ⟨b8, o9, hi7, -⟩ := (H.ro 0 rfl).ix hx6
   refine st (v := (pt b8 o9)) (rv_ix Try.underlying23 ti40 rfl rfl hi7) ?_
   obtain ⟨_, ⟨_, _, rfl, rfl, ⟨_, _, rfl, ⟨_, rfl, hR14⟩, rfl⟩⟩, hl10, hc11⟩ := ((H.ro 0 rfl).at hx6 hi7).cells
   obtain ⟨a12, c13, rfl⟩ := hR14.isSl
   replace H := H.add (d := Ch.ro 0 (Sl a12 x5.2.1 c13) x5.2.1) hR14 (fun _ h => h)
   clear hR14
   refine st (v := (.agg #[(I x5.1), (Sl a12 x5.2.1 c13), (I x5.2.2)])) (rv_load Try.underlying40 rfl ti40 rfl hl10 hc11) ?_
   refine st (v := (I target_1)) (rv_move rfl) ?_
   obtain ⟨r15, hx16, h'⟩ := bind_some h
   clear h
   have h := h'; clear h'
   have hc17 := c_impl_placeOf_1 (ax_0_1 := a12) (cx_0_1 := c13) hx16
   refine st_call (cx_call hc17 (ent_v (cap := []) hc17.fn rfl rfl) hn0 (show Hp S0 σ0 _ ([Ch.ro 0 (Sl a12 x5.2.1 c13) x5.2.1] ++ [Ch.ro 0 (Sl a12 x5.2.1 c13) x5.2.1, Ch.ro 0 (Sl ax_0 x_0 cx_0) x_0]) from (H.sel' [0, 0, 1] rfl rfl))) wn ?_
   rintro _ σ18 ⟨_, ⟨rfl, rfl⟩, H, -⟩
   replace H : Hp S0 σ0 σ18 [Ch.ro 0 (Sl a12 x5.2.1 c13) x5.2.1, Ch.ro 0 (Sl ax_0 x_0 cx_0) x_0] := H
   refine st (v := (B (decide (r15 < 0)))) (rv_lss (a := r15) (b := 0) rfl rfl) ?_
   refine w_end ?_
   refine q_then ?_
   refine cd_cond (decide (r15 < 0)) rfl (fun hb19 => ?_) (fun hb19 => ?_)
   ·replace h := bif_t hb19 h
    refine rg ?_
    refine st (v := (I (wk .i64 (gshr .u64 (wk .u64 (w64 (s2.1 + s2.2))) 1)))) (rv_move rfl) ?_
    refine st (v := (I (w64 ((wk .i64 (gshr .u64 (wk .u64 (w64 (s2.1 + s2.2))) 1)) + 1)))) (rv_add (a := (wk .i64 (gshr .u64 (wk .u64 (w64 (s2.1 + s2.2))) 1))) (b := 1) rfl rfl) ?_
    refine st (v := (I (w64 ((wk .i64 (gshr .u64 (wk .u64 (w64 (s2.1 + s2.2))) 1)) + 1)))) (rv_assign rfl) ?_
    refine w_end ?_
    refine q_blk ?_
    refine q_then ?_
    obtain rfl := Option.some.inj h
    exact ⟨_, rfl, _, σ18, fr_join ⟨rfl, rfl, rfl, rfl, rfl, rfl, trivial⟩, rfl, H.sel' [1] rfl rfl⟩
   ·replace h := bif_f hb19 h
    refine rg ?_
    refine st (v := (I (wk .i64 (gshr .u64 (wk .u64 (w64 (s2.1 + s2.2))) 1)))) (rv_move rfl) ?_
    refine st (v := (I (wk .i64 (gshr .u64 (wk .u64 (w64 (s2.1 + s2.2))) 1)))) (rv_assign rfl) ?_
    refine w_end ?_
    refine q_blk ?_
    refine q_then ?_
    obtain rfl := Option.some.inj h
    exact ⟨_, rfl, _, σ18, fr_join ⟨rfl, rfl, rfl, rfl, rfl, rfl, trivial⟩, rfl, H.sel' [1] rfl rfl⟩
  ·replace h := bif_f hb4 h
   refine c_exit ?_
   refine q_then_x ?_
   refine q_then_x ?_
   refine q_blk_hit ?_
   obtain rfl := Option.some.inj h
   obtain rfl := hres _ rfl
   exact ⟨rfl, _, σ3, fr_join ⟨rfl, rfl, rfl, rfl, rfl, trivial⟩, rfl, H.sel' [0] rfl rfl⟩
 ·clear hj
  have h := h'
  clear h' H
  rintro e a w ⟨rfl, ρ, σ20, rfl, rfl, H⟩
  refine q_then ?_
  refine c_seq ?_
  refine rg ?_
  refine st (v := (I o1)) (rv_move rfl) ?_
  refine st (v := (I o1)) (rv_move rfl) ?_
  refine st (v := (I (x_0.length : Int))) (rv_move rfl) ?_
  refine st (v := (B (decide (o1 < (x_0.length : Int))))) (rv_lss (a := o1) (b := (x_0.length : Int)) rfl rfl) ?_
  refine st (v := (B (decide (o1 < (x_0.length : Int))))) (rv_move rfl) ?_
  rcases Bool.eq_false_or_eq_true (decide (o1 < (x_0.length : Int))) with hb21 | hb21
  ·replace h := bif_t hb21 h
   refine st_g (v := (.func (.func 126) #[] #[])) (congrArg some hb21) (rv_move rfl) ?_
   refine st_g (v := (Sl ax_0 x_0 cx_0)) (congrArg some hb21) (rv_move rfl) ?_
   refine st_g (v := (I o1)) (congrArg some hb21) (rv_move rfl) ?_
   obtain ⟨x22, hx23, h'⟩ := bind_some h
   clear h
   have h := h'; clear h'
   obtain ⟨b25, o26, hi24, -⟩ := (H.ro 0 rfl).ix hx23
   refine st_g (v := (pt b25 o26)) (congrArg some hb21) (rv_ix Try.underlying23 ti40 rfl rfl hi24) ?_
   obtain ⟨_, ⟨_, _, rfl, rfl, ⟨_, _, rfl, ⟨_, rfl, hR31⟩, rfl⟩⟩, hl27, hc28⟩ := ((H.ro 0 rfl).at hx23 hi24).cells
   obtain ⟨a29, c30, rfl⟩ := hR31.isSl
   replace H := H.add (d := Ch.ro 0 (Sl a29 x22.2.1 c30) x22.2.1) hR31 (fun _ h => h)
   clear hR31
   refine st_g (v := (.agg #[(I x22.1), (Sl a29 x22.2.1 c30), (I x22.2.2)])) (congrArg some hb21) (rv_load Try.underlying40 rfl ti40 rfl hl27 hc28) ?_
   refine st_g (v := (I target_1)) (congrArg some hb21) (rv_move rfl) ?_
   obtain ⟨r32, hx33, h'⟩ := bind_some h
   clear h
   have h := h'; clear h'
   have hc34 := c_impl_placeOf_1 (ax_0_1 := a29) (cx_0_1 := c30) hx33
   refine st_call (cx_call hc34 (ent_v (cap := []) hc34.fn rfl rfl) hn0 (show Hp S0 σ0 _ ([Ch.ro 0 (Sl a29 x22.2.1 c30) x22.2.1] ++ [Ch.ro 0 (Sl a29 x22.2.1 c30) x22.2.1, Ch.ro 0 (Sl ax_0 x_0 cx_0) x_0]) from (H.sel' [0, 0, 1] rfl rfl))) (wanted_yes rfl (by exact (congrArg some hb21))) ?_
   rintro _ σ35 ⟨_, ⟨rfl, rfl⟩, H, -⟩
   replace H : Hp S0 σ0 σ35 [Ch.ro 0 (Sl a29 x22.2.1 c30) x22.2.1, Ch.ro 0 (Sl ax_0 x_0 cx_0) x_0] := H
   refine st_g (v := (B (r32 == 0))) (congrArg some hb21) (rv_eql (a := r32) (b := 0) rfl rfl) ?_
   refine st (v := (B (r32 == 0))) (rv_pick_t (congrArg B hb21) rfl) ?_
   refine st (v := (I o1)) (rv_assign rfl) ?_
   refine st (v := (B (r32 == 0))) (rv_assign rfl) ?_
   refine w_end ?_
   refine q_then ?_
   refine c_ret ?_
   obtain rfl := Option.some.inj h
   exact fin_ret (v := (.tuple #[(I o1), (B (r32 == 0))])) (results_ok Try.results125 (res_tmp (v := (I o1)) rfl (res_tmp (v := (B (r32 == 0))) rfl res_nil)) rfl) ⟨rfl, rfl⟩ (H.sel' [] rfl rfl)
  ·replace h := bif_f hb21 h
   refine st_skip (congrArg some hb21) ?_
   refine st_skip (congrArg some hb21) ?_
   refine st_skip (congrArg some hb21) ?_
   refine st_skip (congrArg some hb21) ?_
   refine st_skip (congrArg some hb21) ?_
   refine st_skip (congrArg some hb21) ?_
   refine st_skip (congrArg some hb21) ?_
   refine st_skip (congrArg some hb21) ?_
   refine st (v := (B false)) (rv_pick_f (congrArg B hb21) rfl) ?_
   refine st (v := (I o1)) (rv_assign rfl) ?_
   refine st (v := (B false)) (rv_assign rfl) ?_
   refine w_end ?_
   refine q_then ?_
   refine c_ret ?_
   obtain rfl := Option.some.inj h
   exact fin_ret (v := (.tuple #[(I o1), (B false)])) (results_ok Try.results125 (res_tmp (v := (I o1)) rfl (res_tmp (v := (B false)) rfl res_nil)) rfl) ⟨rfl, rfl⟩ (H.sel' [] rfl rfl)

theorem c_impl_placeOf {list_0 : List (Int × (List Int) × Int)} {key_1 : Int} {alist_0 : Option Addr} {clist_0 : Nat} {r : Int × Bool} (h : M.impl_placeOf list_0 key_1 = some r) :
    Cal2 Try.prog 79 [(Sl alist_0 list_0 clist_0), (I key_1)] [Ch.ro 0 (Sl alist_0 list_0 clist_0) list_0] (fun n0 v L => v = (.tuple #[(I r.1), (B r.2)]) ∧ L = []) := by
 refine cal2 (n := 11) Try.func79 rfl rfl rfl rfl ?_
 intro S0 σ0 n0 hn0 H
 unfold M.impl_placeOf at h
 refine c_seq ?_
 refine rg ?_
 refine st (v := (I 0)) (rv_assign rfl) ?_
 refine st (v := (B false)) (rv_assign rfl) ?_
 refine w_end ?_
 refine q_then ?_
 refine c_seq ?_
 refine rg ?_
 refine st (v := (Sl alist_0 list_0 clist_0)) (rv_move rfl) ?_
 refine st (v := (I key_1)) (rv_move rfl) ?_
 obtain ⟨r1, hx2, h'⟩ := bind_some h
 clear h
 have h := h'; clear h'
 have hc3 := c_slices_BinarySearchFunc_impl_Item_impl_Item_int__impl_placeOf_1 (ax_0 := alist_0) (cx_0 := clist_0) hx2
 refine st_call (cx_call hc3 (ent_f hc3.fn rfl) hn0 (show Hp S0 σ0 _ ([Ch.ro 0 (Sl alist_0 list_0 clist_0) list_0] ++ [Ch.ro 0 (Sl alist_0 list_0 clist_0) list_0]) from (H.sel' [0, 0] rfl rfl))) wn ?_
 rintro _ σ4 ⟨_, ⟨rfl, rfl⟩, H, -⟩
 replace H : Hp S0 σ0 σ4 [Ch.ro 0 (Sl alist_0 list_0 clist_0) list_0] := H
 refine st (v := (I r1.1)) (rv_extract rfl rfl) ?_
 refine st (v := (B r1.2)) (rv_extract rfl rfl) ?_
 refine st (v := (I r1.1)) (rv_assign rfl) ?_
 refine st (v := (B r1.2)) (rv_assign rfl) ?_
 refine w_end ?_
 refine q_then ?_
 refine c_ret ?_
 obtain rfl := Option.some.inj h
 exact fin_ret (v := (.tuple #[(I r1.1), (B r1.2)])) (results_ok Try.results79 (res_tmp (v := (I r1.1)) rfl (res_tmp (v := (B r1.2)) rfl res_nil)) rfl) ⟨rfl, rfl⟩ (H.sel' [] rfl rfl)

theorem c_slices_Delete_impl_Item_impl_Item {s_0 : List (Int × (List Int) × Int)} {i_1 : Int} {j_2 : Int} {as_0 : Option Addr} {cs_0 : Nat} {r : (List (Int × (List Int) × Int))} (h : M.slices_Delete_impl_Item_impl_Item s_0 i_1 j_2 = some r) :
    Cal2 Try.prog 80 [(Sl as_0 s_0 cs_0), (I i_1), (I j_2)] [Ch.own 0 0 (Sl as_0 s_0 cs_0) s_0] (fun n0 v L => ∃ (az1 : Option Addr), ∃ (cz2 : Nat), v = (Sl az1 r cz2) ∧ L = [Ch.own 0 0 (Sl az1 r cz2) r]) := by
 refine cal2 (n := 33) Try.func80 rfl rfl rfl rfl ?_
 intro S0 σ0 n0 hn0 H
 unfold M.slices_Delete_impl_Item_impl_Item at h
 refine c_seq ?_
 refine rg ?_
 refine st (v := (.slice none 0 0)) (rv_assign rfl) ?_
 refine w_end ?_
 refine q_then ?_
 refine c_seq ?_
 refine rg ?_
 refine st (v := (Sl as_0 s_0 cs_0)) (rv_move rfl) ?_
 refine st (v := (I i_1)) (rv_move rfl) ?_
 refine st (v := (I j_2)) (rv_move rfl) ?_
 refine st (v := (Sl as_0 s_0 cs_0)) (rv_move rfl) ?_
 refine st (v := (I (s_0.length : Int))) (rv_len Try.underlying23 rfl) ?_
 obtain ⟨o1, hx2, h'⟩ := bind_some h
 clear h
 have h := h'; clear h'
 refine st (v := (.slice (if ((s_0.length : Int)).toNat = (i_1).toNat then as_0 else (as_0).map (·.add ((i_1).toNat * 3))) ((j_2).toNat - (i_1).toNat) (((s_0.length : Int)).toNat - (i_1).toNat))) (rv_slice3 Try.underlying23 ti40 hx2 (H.own 0 rfl).cap rfl rfl rfl rfl) ?_
 refine w_end ?_
 refine q_then ?_
 refine c_seq ?_
 refine c_seq ?_
 refine rg ?_
 refine st (v := (I i_1)) (rv_move rfl) ?_
 refine st (v := (I j_2)) (rv_move rfl) ?_
 refine st (v := (B (i_1 == j_2))) (rv_eql (a := i_1) (b := j_2) rfl rfl) ?_
 refine w_end ?_
 refine q_then ?_
 refine cd_cond (i_1 == j_2) rfl (fun hb3 => ?_) (fun hb3 => ?_)
 ·replace h := bif_t hb3 h
  refine c_seq ?_
  refine rg ?_
  refine st (v := (Sl as_0 s_0 cs_0)) (rv_move rfl) ?_
  refine st (v := (Sl as_0 s_0 cs_0)) (rv_assign rfl) ?_
  refine w_end ?_
  refine q_then ?_
  refine c_ret ?_
  refine q_then_r ?_
  obtain rfl := Option.some.inj h
  exact fin_ret (v := (Sl as_0 s_0 cs_0)) (results_ok Try.results80 (res_tmp (v := (Sl as_0 s_0 cs_0)) rfl res_nil) rfl) ⟨as_0, cs_0, rfl, rfl⟩ (H.sel' [0] rfl rfl)
 ·replace h := bif_f hb3 h
  refine c_skip ?_
  refine q_then ?_
  refine c_seq ?_
  refine rg ?_
  refine st (v := (Sl as_0 s_0 cs_0)) (rv_move rfl) ?_
  refine st (v := (I (s_0.length : Int))) (rv_len Try.underlying23 rfl) ?_
  refine st (v := (I (s_0.length : Int))) (rv_assign rfl) ?_
  refine w_end ?_
  refine q_then ?_
  refine c_seq ?_
  refine rgP (σ := σ0) 6 (by kernel_rfl) (by kernel_rfl) (by kernel_rfl) ?_
  refine sq (v := (Sl as_0 s_0 cs_0)) (rv_move rfl) ?_
  refine sq (v := (I i_1)) (rv_move rfl) ?_
  obtain ⟨xs4, hx5, h'⟩ := bind_some h
  clear h
  have h := h'; clear h'
  obtain ⟨a6, c7, hs8, -⟩ := (H.own 0 rfl).slice hx5
  refine sq (v := (Sl a6 xs4 c7)) (rv_slice_h Try.underlying23 ti40 hs8 rfl rfl) ?_
  refine sq (v := (Sl as_0 s_0 cs_0)) (rv_move rfl) ?_
  refine sq (v := (I j_2)) (rv_move rfl) ?_
  obtain ⟨xs10, hx11, h'⟩ := bind_some h
  clear h
  have h := h'; clear h'
  obtain ⟨a12, c13, hs14, -⟩ := (H.own 0 rfl).slice hx11
  refine sq (v := (Sl a12 xs10 c13)) (rv_slice_l Try.underlying23 ti40 hs14 rfl rfl) ?_
  refine sq_end ?_
  intro σ16 hm17
  replace H := H.grow (hm17.mono fun _ h => h); clear hm17
  obtain ⟨xs18, hx19, h'⟩ := bind_some h
  clear h
  have h := h'; clear h'
  refine st_ex (ex_appV H (i := 0) rfl Try.underlying23 Try.underlying23 ti40 rfl rfl (by decide) hx5 hs8 ((H.own 0 rfl).view hx11 hs14).1.rd hx19 (Nat.zero_le _) rfl rfl) wn ?_
  rintro _ σ23 ⟨a20, c21, rfl, H, -, hf22⟩
  refine st (v := (Sl a20 xs18 c21)) (rv_assign rfl) ?_
  refine w_end ?_
  refine q_then ?_
  refine c_seq ?_
  refine rg ?_
  refine st (v := (Sl a20 xs18 c21)) (rv_move rfl) ?_
  refine st (v := (Sl a20 xs18 c21)) (rv_move rfl) ?_
  refine st (v := (I (xs18.length : Int))) (rv_len Try.underlying23 rfl) ?_
  refine st (v := (I (s_0.length : Int))) (rv_move rfl) ?_
  have hd30 := del_room hx5 hx11 (gthree_some hx2).2.1 hx19 hs8 hf22
  refine st (v := (.slice (if c21 = xs18.length then a20 else (a20).map (·.add (xs18.length * 3))) (s_0.length - xs18.length) (c21 - xs18.length))) (rv_sliceX (m0 := xs18.length) (k0 := s_0.length) Try.underlying23 ti40 hd30.1 hd30.2 rfl rfl rfl) ?_
  refine st_ex0 (ex_clearX (k0 := s_0.length) H (i := 0) rfl Try.underlying23 ti40 rfl rfl (by simp [plain, Value.cells]) hd30.1 hd30.2 rfl) wn ?_
  rintro _ σ31 ⟨rfl, H, -⟩
  refine w_end ?_
  refine q_then ?_
  refine c_seq ?_
  refine rg ?_
  refine st (v := (Sl a20 xs18 c21)) (rv_move rfl) ?_
  refine st (v := (Sl a20 xs18 c21)) (rv_assign rfl) ?_
  refine w_end ?_
  refine q_then ?_
  refine c_ret ?_
  obtain rfl := Option.some.inj h
  exact fin_ret (v := (Sl a20 xs18 c21)) (results_ok Try.results80 (res_tmp (v := (Sl a20 xs18 c21)) rfl res_nil) rfl) ⟨a20, c21, rfl, rfl⟩ (H.sel' [0] rfl rfl)

theorem c_slices_Clone_int_int {s_0 : List Int} {as_0 : Option Addr} {cs_0 : Nat} {r : (List Int)} (h : M.slices_Clone_int_int s_0 = some r) :
    Cal2 Try.prog 150 [(Sl as_0 s_0 cs_0)] [Ch.ro 0 (Sl as_0 s_0 cs_0) s_0] (fun n0 v L => ∃ (az1 : Option Addr), ∃ (cz2 : Nat), v = (Sl az1 r cz2) ∧ L = [Ch.own n0 n0 (Sl az1 r cz2) r]) := by
 refine cal2 (n := 8) Try.func150 rfl rfl rfl rfl ?_
 intro S0 σ0 n0 hn0 H
 unfold M.slices_Clone_int_int at h
 refine c_seq ?_
 refine rg ?_
 refine st (v := (.slice none 0 0)) (rv_assign rfl) ?_
 refine w_end ?_
 refine q_then ?_
 refine c_seq ?_
 refine c_seq ?_
 refine rg ?_
 refine st (v := (Sl as_0 s_0 cs_0)) (rv_move rfl) ?_
 refine st (v := (B as_0.isNone)) (rv_nilS Try.underlying24 rfl rfl) ?_
 refine w_end ?_
 refine q_then ?_
 refine cd_cond as_0.isNone rfl (fun hb1 => ?_) (fun hb1 => ?_)
 ·have hq := RS.nilOf hb1 (H.ro 0 rfl)
  subst hq
  replace h : some [] = some r := by simpa [gapp] using h
  refine c_seq ?_
  refine rg ?_
  refine st (v := (.slice none 0 0)) (rv_assign rfl) ?_
  refine w_end ?_
  refine q_then ?_
  refine c_ret ?_
  refine q_then_r ?_
  replace H := H.nilOwn Int n0 n0
  obtain rfl := Option.some.inj h
  exact fin_ret (v := (.slice none 0 0)) (results_ok Try.results150 (res_tmp (v := (.slice none 0 0)) rfl res_nil) rfl) ⟨none, 0, rfl, rfl⟩ (H.sel' [0] rfl rfl)
 ·refine c_skip ?_
  refine q_then ?_
  refine c_seq ?_
  refine rg ?_
  refine st_ex (ex_buildSlice (el := n0) (xs := ([] : List Int)) (ps := []) (cs := []) H hn0 Try.underlying24 ti3 rfl rfl (by kernel_rfl) (.nil) rfl) wn ?_
  rintro _ σ3 ⟨b2, rfl, H, -⟩
  refine st (v := (Sl as_0 s_0 cs_0)) (rv_move rfl) ?_
  obtain ⟨xs4, hx5, h'⟩ := bind_some h
  clear h
  have h := h'; clear h'
  refine st_ex (ex_append H (i := 0) rfl Try.underlying24 Try.underlying24 ti3 rfl rfl (by decide) ((H.ro 1 rfl).rd.sc) hx5 hn0 rfl rfl) wn ?_
  rintro _ σ8 ⟨a6, c7, rfl, H, -⟩
  refine st (v := (Sl a6 xs4 c7)) (rv_assign rfl) ?_
  refine w_end ?_
  refine q_then ?_
  refine c_ret ?_
  obtain rfl := Option.some.inj h
  exact fin_ret (v := (Sl a6 xs4 c7)) (results_ok Try.results150 (res_tmp (v := (Sl a6 xs4 c7)) rfl res_nil) rfl) ⟨a6, c7, rfl, rfl⟩ (H.sel' [0] rfl rfl)

theorem c_impl_copyItem {x_0 : Int × (List Int) × Int} {ax_0_1 : Option Addr} {cx_0_1 : Nat} {r : (Int × (List Int) × Int)} (h : M.impl_copyItem x_0 = some r) :
    Cal2 Try.prog 128 [(.agg #[(I x_0.1), (Sl ax_0_1 x_0.2.1 cx_0_1), (I x_0.2.2)])] [Ch.ro 0 (Sl ax_0_1 x_0.2.1 cx_0_1) x_0.2.1] (fun n0 v L => ∃ (az1 : Option Addr), ∃ (cz2 : Nat), v = (.agg #[(I r.1), (Sl az1 r.2.1 cz2), (I r.2.2)]) ∧ L = [Ch.own n0 n0 (Sl az1 r.2.1 cz2) r.2.1]) := by
 refine cal2 (n := 11) Try.func128 rfl rfl rfl rfl ?_
 intro S0 σ0 n0 hn0 H
 unfold M.impl_copyItem at h
 refine c_seq ?_
 refine rg ?_
 refine st_ex (ex_box (cs := [(I x_0.1), (Sl ax_0_1 x_0.2.1 cx_0_1), (I x_0.2.2)]) H hn0 rfl rfl) wn ?_
 rintro _ σ2 ⟨b1, rfl, H, -⟩
 refine st_ex (ex_alloc (cs := [(I 0), (.slice none 0 0), (I 0)]) H hn0 ti40 rfl) wn ?_
 rintro _ σ4 ⟨b3, rfl, H, -⟩
 refine w_end ?_
 refine q_then ?_
 refine c_seq ?_
 have hc5 := H.cell (u := (I x_0.1)) (o' := 0) 1 0 rfl rfl rfl
 have hc6 := H.cell (u := (Sl ax_0_1 x_0.2.1 cx_0_1)) (o' := 1) 1 1 rfl rfl rfl
 obtain ⟨r7, hx8, h'⟩ := bind_some h
 clear h
 have h := h'; clear h'
 have hc9 := c_slices_Clone_int_int (as_0 := ax_0_1) (cs_0 := cx_0_1) hx8
 have hc12 := H.cell (u := (I x_0.2.2)) (o' := 2) 1 2 rfl rfl rfl
 have Hs := H
 refine rg2 (σ := σ4) (Nm := (Option Addr) × (Nat)) 7 [4] [[false], [true]] [[(0, 0), (1, 1)], [(0, 0), (1, 1)], [(0, 0)], [(0, 0)], [(0, 1)], [(0, 0), (1, 1)], [(0, 0), (1, 1)]] 1 [fun ((a10, c11) : (Option Addr) × (Nat)) => fun σm => Hp S0 σ0 σm [Ch.bx n0 b3 0 [(I 0), (.slice none 0 0), (I 0)] [] [], Ch.bx n0 b1 0 [(I x_0.1), (Sl ax_0_1 x_0.2.1 cx_0_1), (I x_0.2.2)] [] [], Ch.ro 0 (Sl ax_0_1 x_0.2.1 cx_0_1) x_0.2.1] ∧ Md (cov []) σ4 σm, fun ((a10, c11) : (Option Addr) × (Nat)) => fun σm => Hp S0 σ0 σm [Ch.own n0 n0 (Sl a10 r7 c11) r7, Ch.bx n0 b3 0 [(I 0), (.slice none 0 0), (I 0)] [] [], Ch.bx n0 b1 0 [(I x_0.1), (Sl ax_0_1 x_0.2.1 cx_0_1), (I x_0.2.2)] [] [], Ch.ro 0 (Sl ax_0_1 x_0.2.1 cx_0_1) x_0.2.1] ∧ Md (cov []) σ4 σm] [fun ((a10, c11) : (Option Addr) × (Nat)) => (pt b1 0), fun ((a10, c11) : (Option Addr) × (Nat)) => (I x_0.1), fun ((a10, c11) : (Option Addr) × (Nat)) => (pt b1 1), fun ((a10, c11) : (Option Addr) × (Nat)) => (Sl ax_0_1 x_0.2.1 cx_0_1), fun ((a10, c11) : (Option Addr) × (Nat)) => (Sl a10 r7 c11), fun ((a10, c11) : (Option Addr) × (Nat)) => (pt b1 2), fun ((a10, c11) : (Option Addr) × (Nat)) => (I x_0.2.2)] (none, 0) (by kernel_rfl) (by kernel_rfl) ?_ ?_ ?_
 ·intro σm m0
  exact ⟨H.grow (m0.mono fun _ h => h.elim), m0⟩
 ·refine ac rfl (by
    intro k; rintro ⟨a10, c11⟩ ρ σm hJ hoff hdep
    have e1 := look_off (N := 11) (hoff 1 rfl) rfl
    exact dp_v (v := (pt b1 0)) wn (rv_fieldAddr (off := 0) (ft := 3) Try.underlying40 rfl ti3 rfl e1) rfl hJ) ?_
  refine all_cons (by
    refine ⟨?_, ?_⟩
    ·rintro ⟨a10, c11⟩ ρ σm hJ hoff hdep
     have e3 := hdep 0 rfl rfl 3 rfl
     obtain ⟨H, m⟩ := id hJ
     have hc5 := H.cell (u := (I x_0.1)) (o' := 0) 1 0 rfl rfl rfl
     exact dp_v (v := (I x_0.1)) wn (rv_load1 Try.underlying3 rfl e3 hc5) rfl hJ
    refine ⟨?_, ?_⟩
    ·rintro ⟨a10, c11⟩ ρ σm hJ hoff hdep
     have e3 := hdep 0 rfl rfl 3 rfl
     obtain ⟨H, m⟩ := id hJ
     have hc5 := H.cell (u := (I x_0.1)) (o' := 0) 2 0 rfl rfl rfl
     exact dp_v (v := (I x_0.1)) wn (rv_load1 Try.underlying3 rfl e3 hc5) rfl hJ
    trivial) ?_
  refine ac rfl (by
    intro k; rintro ⟨a10, c11⟩ ρ σm hJ hoff hdep
    have e1 := look_off (N := 11) (hoff 1 rfl) rfl
    exact dp_v (v := (pt b1 1)) wn (rv_fieldAddr (off := 1) (ft := 24) Try.underlying40 rfl ti24 rfl e1) rfl hJ) ?_
  refine all_cons (by
    refine ⟨?_, ?_⟩
    ·rintro ⟨a10, c11⟩ ρ σm hJ hoff hdep
     have e5 := hdep 2 rfl rfl 5 rfl
     obtain ⟨H, m⟩ := id hJ
     have hc6 := H.cell (u := (Sl ax_0_1 x_0.2.1 cx_0_1)) (o' := 1) 1 1 rfl rfl rfl
     exact dp_v (v := (Sl ax_0_1 x_0.2.1 cx_0_1)) wn (rv_load1 Try.underlying24 rfl e5 hc6) rfl hJ
    trivial) ?_
  refine all_cons (by
    refine ⟨?_, ?_⟩
    ·rintro ⟨a10, c11⟩ ρ σm hJ hoff hdep
     have e6 : look 11 ρ 6 = (Sl ax_0_1 x_0.2.1 cx_0_1) := hdep 3 rfl rfl 6 rfl
     obtain ⟨H, m⟩ := id hJ
     refine dp_cx wn (cx_call hc9 (ent_f hc9.fn (by show [look 11 ρ 6] = _; rw [e6])) hn0 (show Hp S0 σ0 _ ([Ch.ro 0 (Sl ax_0_1 x_0.2.1 cx_0_1) x_0.2.1] ++ [Ch.bx n0 b3 0 [(I 0), (.slice none 0 0), (I 0)] [] [], Ch.bx n0 b1 0 [(I x_0.1), (Sl ax_0_1 x_0.2.1 cx_0_1), (I x_0.2.2)] [] [], Ch.ro 0 (Sl ax_0_1 x_0.2.1 cx_0_1) x_0.2.1]) from (H.sel' [2, 0, 1, 2] rfl rfl))) ?_
     rintro _ σq ⟨_, ⟨a10x, c11x, rfl, rfl⟩, H2, m2⟩
     exact ⟨_, (a10x, c11x), rfl, rfl, ⟨H2.sel' [0, 1, 2, 3] rfl rfl, m.comp0 (m2.mono (fun i h => by simp [cov, Ch.ro] at h))⟩, stab [0, 1, 2, 3, 5, 6] (by kernel_rfl) ⟨rfl, rfl, rfl, rfl, rfl, rfl, trivial⟩⟩
    trivial) ?_
  refine ac rfl (by
    intro k; rintro ⟨a10, c11⟩ ρ σm hJ hoff hdep
    have e1 := look_off (N := 11) (hoff 1 rfl) rfl
    exact dp_v (v := (pt b1 2)) wn (rv_fieldAddr (off := 2) (ft := 3) Try.underlying40 rfl ti3 rfl e1) rfl hJ) ?_
  refine all_cons (by
    refine ⟨?_, ?_⟩
    ·rintro ⟨a10, c11⟩ ρ σm hJ hoff hdep
     have e8 := hdep 5 rfl rfl 8 rfl
     obtain ⟨H, m⟩ := id hJ
     have hc12 := H.cell (u := (I x_0.2.2)) (o' := 2) 1 2 rfl rfl rfl
     exact dp_v (v := (I x_0.2.2)) wn (rv_load1 Try.underlying3 rfl e8 hc12) rfl hJ
    refine ⟨?_, ?_⟩
    ·rintro ⟨a10, c11⟩ ρ σm hJ hoff hdep
     have e8 := hdep 5 rfl rfl 8 rfl
     obtain ⟨H, m⟩ := id hJ
     have hc12 := H.cell (u := (I x_0.2.2)) (o' := 2) 2 2 rfl rfl rfl
     exact dp_v (v := (I x_0.2.2)) wn (rv_load1 Try.underlying3 rfl e8 hc12) rfl hJ
    trivial) ?_
  exact all_nil
 ·rintro ⟨a10, c11⟩ ρ σ13 hJ hoff hrel
  have e2 := look_off (N := 11) (hoff 2 rfl) rfl
  have e4 := hrel 1 rfl 4 rfl
  have e7 := hrel 4 rfl 7 rfl
  have e9 := hrel 6 rfl 9 rfl
  obtain ⟨H, -⟩ := (show Hp S0 σ0 σ13 [Ch.own n0 n0 (Sl a10 r7 c11) r7, Ch.bx n0 b3 0 [(I 0), (.slice none 0 0), (I 0)] [] [], Ch.bx n0 b1 0 [(I x_0.1), (Sl ax_0_1 x_0.2.1 cx_0_1), (I x_0.2.2)] [] [], Ch.ro 0 (Sl ax_0_1 x_0.2.1 cx_0_1) x_0.2.1] ∧ Md (cov []) σ4 σ13 from hJ)
  clear hJ Hs
  rw [fr_lookL (L := [(2, (pt b3 0)), (4, (I x_0.1)), (7, (Sl a10 r7 c11)), (9, (I x_0.2.2))]) ⟨e2, e4, e7, e9, trivial⟩]
  clear hoff hrel e2 e4 e7 e9
  refine st (v := (.agg #[(I x_0.1), (Sl a10 r7 c11), (I x_0.2.2)])) (rv_build (ps := [(0, (I x_0.1)), (1, (Sl a10 r7 c11)), (2, (I x_0.2.2))]) Try.underlying40 ti40 (bp40 Try.underlying40) rfl (by kernel_rfl)) ?_
  refine st_exS (ex_store_box (k := 0) (cs := [(I 0), (.slice none 0 0), (I 0)]) (vs := [(I x_0.1), (Sl a10 r7 c11), (I x_0.2.2)]) (cs' := [(I x_0.1), (Sl a10 r7 c11), (I x_0.2.2)]) H (i := 1) rfl ti40 rfl rfl rfl rfl rfl (Nat.le_of_ble_eq_true rfl) (by simp [plain]) rfl) wn ?_
  rintro σ14 ⟨H, -⟩
  refine w_end ?_
  refine q_then ?_
  refine c_ret ?_
  obtain rfl := Option.some.inj h
  exact fin_ret (v := (.agg #[(I x_0.1), (Sl a10 r7 c11), (I x_0.2.2)])) (results_ok Try.results128 (res_cell rfl (run_cellRes (cs := [(I x_0.1), (Sl a10 r7 c11), (I x_0.2.2)]) Try.underlying40 rfl ti40 rfl (H.cells 0 rfl)) res_nil) rfl) ⟨a10, c11, rfl, rfl⟩ (H.sel' [1] rfl rfl)

theorem c_impl_copyItems {list_0 : List (Int × (List Int) × Int)} {alist_0 : Option Addr} {clist_0 : Nat} {r : (List (Int × (List Int) × Int))} (h : M.impl_copyItems list_0 = some r) :
    Cal2 Try.prog 81 [(Sl alist_0 list_0 clist_0)] [Ch.ro 0 (Sl alist_0 list_0 clist_0) list_0] (fun n0 v L => ∃ (az1 : Option Addr), ∃ (cz2 : Nat), v = (Sl az1 r cz2) ∧ L = [Ch.own n0 n0 (Sl az1 r cz2) r] ∧ cz2 = r.length) := by
 refine cal2 (n := 23) Try.func81 rfl rfl rfl rfl ?_
 intro S0 σ0 n0 hn0 H
 unfold M.impl_copyItems at h
 refine c_seq ?_
 refine rg ?_
 refine st (v := (.slice none 0 0)) (rv_assign rfl) ?_
 refine w_end ?_
 refine q_then ?_
 refine c_seq ?_
 refine rg ?_
 refine st (v := (Sl alist_0 list_0 clist_0)) (rv_move rfl) ?_
 refine st (v := (I (list_0.length : Int))) (rv_len Try.underlying23 rfl) ?_
 obtain ⟨xs1, hx2, h'⟩ := bind_some h
 clear h
 have h := h'; clear h'
 refine st_ex (ex_make (el := n0) (z0 := ((0, [], 0) : Int × (List Int) × Int)) (zs := [(I 0), (.slice none 0 0), (I 0)]) H hn0 Try.underlying23 ti40 rfl rfl (⟨[(I 0)], [(.slice none 0 0), (I 0)], rfl, rfl, ⟨[(.slice none 0 0)], [(I 0)], rfl, ⟨_, rfl, RS.nil⟩, rfl⟩⟩) (by decide) hx2 rfl rfl) wn ?_
 rintro _ σ6 ⟨b3, c4, rfl, ht5, H, -⟩
 replace ht5 := ht5.trans (gmake_len hx2).symm
 refine st (v := (Sl (some ⟨b3, 0, none⟩) xs1 c4)) (rv_assign rfl) ?_
 refine w_end ?_
 refine q_then ?_
 refine c_seq ?_
 refine c_seq ?_
 refine rg ?_
 refine st (v := (Sl alist_0 list_0 clist_0)) (rv_move rfl) ?_
 refine st (v := (I (list_0.length : Int))) (rv_len Try.underlying23 rfl) ?_
 refine st (v := (I 0)) (rv_move rfl) ?_
 refine w_end ?_
 refine q_then ?_
 obtain ⟨o7, hj, h'⟩ := bind_some h
 clear h
 refine c_cut (fun e a w => e = .normal ∧ ∃ (ρ : Nat → Value) (σ : St), a = fr 23 (updL ρ [(3, (Sl (some ⟨b3, 0, none⟩) o7 c4))]) ∧ w = σ.w ∧ Hp S0 σ0 σ [Ch.own n0 n0 (Sl (some ⟨b3, 0, none⟩) o7 c4) o7] ∧ c4 = o7.length ∧ o7.length = xs1.length) ?_ ?_
 ·clear h'
  rename _ = some o7 => h
  refine c_blk ?_
  refine wp_loopM _ h (fun s8 a w => ∃ (ρ : Nat → Value) (σ : St), a = fr 23 (updL ρ [(3, (Sl (some ⟨b3, 0, none⟩) s8.1 c4)), (9, (Sl alist_0 list_0 clist_0)), (10, (I (list_0.length : Int))), (11, (I s8.2))]) ∧ w = σ.w ∧ Hp S0 σ0 σ [Ch.own n0 n0 (Sl (some ⟨b3, 0, none⟩) s8.1 c4) s8.1, Ch.ro 0 (Sl alist_0 list_0 clist_0) list_0] ∧ c4 = s8.1.length ∧ s8.1.length = xs1.length) ⟨_, σ6, fr_join ⟨rfl, rfl, rfl, rfl, trivial⟩, rfl, H.sel' [0, 1] rfl rfl, ht5, rfl⟩ ?_
  clear h H
  rintro s8 a w o ⟨ρ, σ9, rfl, rfl, H, ht10, hn11⟩ h hres
  refine c_seq ?_
  refine rg ?_
  refine st (v := (B (decide (s8.2 < (list_0.length : Int))))) (rv_lss (a := s8.2) (b := (list_0.length : Int)) rfl rfl) ?_
  refine w_end ?_
  refine q_then ?_
  refine c_seq ?_
  refine cd_cond (decide (s8.2 < (list_0.length : Int))) rfl (fun hb12 => ?_) (fun hb12 => ?_)
  ·replace h := bif_t hb12 h
   refine c_skip ?_
   refine q_then ?_
   refine c_seq ?_
   refine c_blk ?_
   refine c_seq ?_
   refine rg ?_
   refine st (v := (I s8.2)) (rv_move rfl) ?_
   obtain ⟨x13, hx14, h'⟩ := bind_some h
   clear h
   have h := h'; clear h'
   obtain ⟨b16, o17, hi15, -⟩ := (H.ro 1 rfl).ix hx14
   refine st (v := (pt b16 o17)) (rv_ix Try.underlying23 ti40 rfl rfl hi15) ?_
   obtain ⟨_, ⟨_, _, rfl, rfl, ⟨_, _, rfl, ⟨_, rfl, hR22⟩, rfl⟩⟩, hl18, hc19⟩ := ((H.ro 1 rfl).at hx14 hi15).cells
   obtain ⟨a20, c21, rfl⟩ := hR22.isSl
   replace H := H.add (d := Ch.ro 0 (Sl a20 x13.2.1 c21) x13.2.1) hR22 (fun _ h => h)
   clear hR22
   refine st (v := (.agg #[(I x13.1), (Sl a20 x13.2.1 c21), (I x13.2.2)])) (rv_load Try.underlying40 rfl ti40 rfl hl18 hc19) ?_
   refine st_ex (ex_alloc (cs := [(I 0), (.slice none 0 0), (I 0)]) H hn0 ti40 rfl) wn ?_
   rintro _ σ24 ⟨b23, rfl, H, -⟩
   refine st (v := (I s8.2)) (rv_assign rfl) ?_
   refine st_exS (ex_store_box (k := 0) (cs := [(I 0), (.slice none 0 0), (I 0)]) (vs := [(I x13.1), (Sl a20 x13.2.1 c21), (I x13.2.2)]) (cs' := [(I x13.1), (Sl a20 x13.2.1 c21), (I x13.2.2)]) H (i := 0) rfl ti40 rfl rfl rfl rfl rfl (Nat.le_of_ble_eq_true rfl) (by simp [plain]) rfl) wn ?_
   rintro σ25 ⟨H, -⟩
   refine w_end ?_
   refine q_then ?_
   refine rg ?_
   refine st (v := (Sl (some ⟨b3, 0, none⟩) s8.1 c4)) (rv_move rfl) ?_
   refine st (v := (I s8.2)) (rv_move rfl) ?_
   have hc26 := H.cells 0 rfl
   refine st (v := (.agg #[(I x13.1), (Sl a20 x13.2.1 c21), (I x13.2.2)])) (rv_load (cs := [(I x13.1), (Sl a20 x13.2.1 c21), (I x13.2.2)]) Try.underlying40 rfl ti40 rfl rfl hc26) ?_
   obtain ⟨r27, hx28, h'⟩ := bind_some h
   clear h
   have h := h'; clear h'
   have hc29 := c_impl_copyItem (ax_0_1 := a20) (cx_0_1 := c21) hx28
   refine st_call (cx_call hc29 (ent_f hc29.fn rfl) hn0 (show Hp S0 σ0 _ ([Ch.ro 0 (Sl a20 x13.2.1 c21) x13.2.1] ++ [Ch.bx n0 b23 0 [(I x13.1), (Sl a20 x13.2.1 c21), (I x13.2.2)] [] [], Ch.ro 0 (Sl a20 x13.2.1 c21) x13.2.1, Ch.own n0 n0 (Sl (some ⟨b3, 0, none⟩) s8.1 c4) s8.1, Ch.ro 0 (Sl alist_0 list_0 clist_0) list_0]) from (H.sel' [1, 0, 1, 2, 3] rfl rfl))) wn ?_
   rintro _ σ32 ⟨_, ⟨a30, c31, rfl, rfl⟩, H, -⟩
   replace H : Hp S0 σ0 σ32 [Ch.own n0 n0 (Sl a30 r27.2.1 c31) r27.2.1, Ch.bx n0 b23 0 [(I x13.1), (Sl a20 x13.2.1 c21), (I x13.2.2)] [] [], Ch.ro 0 (Sl a20 x13.2.1 c21) x13.2.1, Ch.own n0 n0 (Sl (some ⟨b3, 0, none⟩) s8.1 c4) s8.1, Ch.ro 0 (Sl alist_0 list_0 clist_0) list_0] := H
   obtain ⟨x33, hx34, h'⟩ := bind_some h
   clear h
   have h := h'; clear h'
   obtain ⟨b36, o37, hi35, -⟩ := (H.own 3 rfl).ix hx34
   refine st (v := (pt b36 o37)) (rv_ix Try.underlying23 ti40 rfl rfl hi35) ?_
   obtain ⟨σ38, hw39, H, -⟩ := H.pub 0 rfl (Nat.le_refl _)
   rw [← hw39]; clear hw39
   refine st_exS (ex_store_own (e' := (r27.1, r27.2.1, r27.2.2)) (vs := [(I r27.1), (Sl a30 r27.2.1 c31), (I r27.2.2)]) (k := 0) H (i := 3) rfl ti40 hx34 hi35 rfl rfl rfl rfl rfl (Nat.le_of_ble_eq_true rfl) (by simp [plain]) (by rintro _ ⟨_, _, rfl, rfl, ⟨_, _, rfl, ⟨_, rfl, hR42⟩, rfl⟩⟩; exact ⟨[(I r27.1)], [(Sl a30 r27.2.1 c31), (I r27.2.2)], rfl, rfl, ⟨[(Sl a30 r27.2.1 c31)], [(I r27.2.2)], rfl, ⟨_, rfl, (H.ro 0 rfl)⟩, rfl⟩⟩)) wn ?_
   rintro σ43 ⟨H, -⟩
   have hsl : (Sl (some ⟨b3, 0, none⟩) s8.1 c4) = (Sl (some ⟨b3, 0, none⟩) (s8.1.set s8.2.toNat (r27.1, r27.2.1, r27.2.2)) c4) := sl_len List.length_set.symm
   rw [hsl]; rw [hsl] at H; clear hsl
   refine w_end ?_
   refine q_blk ?_
   refine q_then ?_
   refine rg ?_
   refine st (v := (I (w64 (s8.2 + 1)))) (rv_add (a := s8.2) (b := 1) rfl rfl) ?_
   refine st (v := (I (w64 (s8.2 + 1)))) (rv_move rfl) ?_
   refine w_end ?_
   refine q_then ?_
   obtain rfl := Option.some.inj h
   exact ⟨_, rfl, _, σ43, fr_join ⟨rfl, rfl, rfl, rfl, trivial⟩, rfl, H.sel' [0, 4] rfl rfl, (ht10.trans List.length_set.symm), (List.length_set.trans hn11)⟩
  ·replace h := bif_f hb12 h
   refine c_exit ?_
   refine q_then_x ?_
   refine q_then_x ?_
   refine q_blk_hit ?_
   obtain rfl := Option.some.inj h
   obtain rfl := hres _ rfl
   exact ⟨rfl, _, σ9, fr_join ⟨rfl, trivial⟩, rfl, H.sel' [0] rfl rfl, ht10, hn11⟩
 ·clear hj
  have h := h'
  clear h' H
  rintro e a w ⟨rfl, ρ, σ44, rfl, rfl, H, ht45, hn46⟩
  refine q_then ?_
  refine c_seq ?_
  refine rg ?_
  refine st (v := (Sl (some ⟨b3, 0, none⟩) o7 c4)) (rv_move rfl) ?_
  refine st (v := (Sl (some ⟨b3, 0, none⟩) o7 c4)) (rv_assign rfl) ?_
  refine w_end ?_
  refine q_then ?_
  refine c_ret ?_
  obtain rfl := Option.some.inj h
  exact fin_ret (v := (Sl (some ⟨b3, 0, none⟩) o7 c4)) (results_ok Try.results81 (res_tmp (v := (Sl (some ⟨b3, 0, none⟩) o7 c4)) rfl res_nil) rfl) ⟨(some ⟨b3, 0, none⟩), c4, rfl, rfl, ht45⟩ (H.sel' [0] rfl rfl)

theorem c_impl_DropItem {list_0 : List (Int × (List Int) × Int)} {key_1 : Int} {alist_0 : Option Addr} {clist_0 : Nat} {r : (List (Int × (List Int) × Int)) × Bool} (h : M.impl_DropItem list_0 key_1 = some r) :
    Cal2 Try.prog 25 [(Sl alist_0 list_0 clist_0), (I key_1)] [Ch.ro 0 (Sl alist_0 list_0 clist_0) list_0] (fun n0 v L => ∃ (az1 : Option Addr), ∃ (cz2 : Nat), v = (.tuple #[(Sl az1 r.1 cz2), (B r.2)]) ∧ L = [Ch.own 0 0 (Sl az1 r.1 cz2) r.1]) := by
 refine cal2 (n := 25) Try.func25 rfl rfl rfl rfl ?_
 intro S0 σ0 n0 hn0 H
 unfold M.impl_DropItem at h
 refine c_seq ?_
 refine rg ?_
 refine st (v := (.slice none 0 0)) (rv_assign rfl) ?_
 refine st (v := (B false)) (rv_assign rfl) ?_
 refine w_end ?_
 refine q_then ?_
 refine c_seq ?_
 refine c_seq ?_
 refine rg ?_
 refine st (v := (Sl alist_0 list_0 clist_0)) (rv_move rfl) ?_
 obtain ⟨r1, hx2, h'⟩ := bind_some h
 clear h
 have h := h'; clear h'
 have hc3 := c_impl_ValidStore (alist_0 := alist_0) (clist_0 := clist_0) hx2
 refine st_call (cx_call hc3 (ent_f hc3.fn rfl) hn0 (show Hp S0 σ0 _ ([Ch.ro 0 (Sl alist_0 list_0 clist_0) list_0] ++ [Ch.ro 0 (Sl alist_0 list_0 clist_0) list_0]) from (H.sel' [0, 0] rfl rfl))) wn ?_
 rintro _ σ4 ⟨_, ⟨rfl, rfl⟩, H, -⟩
 replace H : Hp S0 σ0 σ4 [Ch.ro 0 (Sl alist_0 list_0 clist_0) list_0] := H
 refine st (v := (B (!r1))) (rv_not rfl) ?_
 refine w_end ?_
 refine q_then ?_
 refine cd_cond (!r1) rfl (fun hb5 => ?_) (fun hb5 => ?_)
 ·replace h := bif_t hb5 h
  refine c_seq ?_
  refine rg ?_
  refine st (v := (.slice none 0 0)) (rv_assign rfl) ?_
  refine st (v := (B false)) (rv_assign rfl) ?_
  refine w_end ?_
  refine q_then ?_
  refine c_ret ?_
  refine q_then_r ?_
  replace H := H.nilOwn (Int × (List Int) × Int) 0 0
  obtain rfl := Option.some.inj h
  exact fin_ret (v := (.tuple #[(.slice none 0 0), (B false)])) (results_ok Try.results25 (res_tmp (v := (.slice none 0 0)) rfl (res_tmp (v := (B false)) rfl res_nil)) rfl) ⟨none, 0, rfl, rfl⟩ (H.sel' [0] rfl rfl)
 ·replace h := bif_f hb5 h
  refine c_skip ?_
  refine q_then ?_
  refine c_seq ?_
  refine rg ?_
  refine st (v := (Sl alist_0 list_0 clist_0)) (rv_move rfl) ?_
  refine st (v := (I key_1)) (rv_move rfl) ?_
  obtain ⟨r6, hx7, h'⟩ := bind_some h
  clear h
  have h := h'; clear h'
  have hc8 := c_impl_placeOf (alist_0 := alist_0) (clist_0 := clist_0) hx7
  refine st_call (cx_call hc8 (ent_f hc8.fn rfl) hn0 (show Hp S0 σ0 _ ([Ch.ro 0 (Sl alist_0 list_0 clist_0) list_0] ++ [Ch.ro 0 (Sl alist_0 list_0 clist_0) list_0]) from (H.sel' [0, 0] rfl rfl))) wn ?_
  rintro _ σ9 ⟨_, ⟨rfl, rfl⟩, H, -⟩
  replace H : Hp S0 σ0 σ9 [Ch.ro 0 (Sl alist_0 list_0 clist_0) list_0] := H
  refine st (v := (.tuple #[(I r6.1), (B r6.2)])) (rv_move rfl) ?_
  refine st (v := (I r6.1)) (rv_extract rfl rfl) ?_
  refine st (v := (B r6.2)) (rv_extract rfl rfl) ?_
  refine st (v := (I r6.1)) (rv_assign rfl) ?_
  refine st (v := (B r6.2)) (rv_assign rfl) ?_
  refine w_end ?_
  refine q_then ?_
  refine c_seq ?_
  refine c_seq ?_
  refine rg ?_
  refine st (v := (B r6.2)) (rv_move rfl) ?_
  refine st (v := (B (!r6.2))) (rv_not rfl) ?_
  refine w_end ?_
  refine q_then ?_
  refine cd_cond (!r6.2) rfl (fun hb10 => ?_) (fun hb10 => ?_)
  ·replace h := bif_t hb10 h
   refine c_seq ?_
   refine rg ?_
   refine st (v := (.slice none 0 0)) (rv_assign rfl) ?_
   refine st (v := (B false)) (rv_assign rfl) ?_
   refine w_end ?_
   refine q_then ?_
   refine c_ret ?_
   refine q_then_r ?_
   replace H := H.nilOwn (Int × (List Int) × Int) 0 0
   obtain rfl := Option.some.inj h
   exact fin_ret (v := (.tuple #[(.slice none 0 0), (B false)])) (results_ok Try.results25 (res_tmp (v := (.slice none 0 0)) rfl (res_tmp (v := (B false)) rfl res_nil)) rfl) ⟨none, 0, rfl, rfl⟩ (H.sel' [0] rfl rfl)
  ·replace h := bif_f hb10 h
   refine c_skip ?_
   refine q_then ?_
   refine c_seq ?_
   refine rg ?_
   refine st (v := (Sl alist_0 list_0 clist_0)) (rv_move rfl) ?_
   obtain ⟨r11, hx12, h'⟩ := bind_some h
   clear h
   have h := h'; clear h'
   have hc13 := c_impl_copyItems (alist_0 := alist_0) (clist_0 := clist_0) hx12
   refine st_call (cx_call hc13 (ent_f hc13.fn rfl) hn0 (show Hp S0 σ0 _ ([Ch.ro 0 (Sl alist_0 list_0 clist_0) list_0] ++ [Ch.ro 0 (Sl alist_0 list_0 clist_0) list_0]) from (H.sel' [0, 0] rfl rfl))) wn ?_
   rintro _ σ17 ⟨_, ⟨a14, c15, rfl, rfl, ht16⟩, H, -⟩
   replace H : Hp S0 σ0 σ17 [Ch.own n0 n0 (Sl a14 r11 c15) r11, Ch.ro 0 (Sl alist_0 list_0 clist_0) list_0] := H
   refine st (v := (I r6.1)) (rv_move rfl) ?_
   refine st (v := (I r6.1)) (rv_move rfl) ?_
   refine st (v := (I (w64 (r6.1 + 1)))) (rv_add (a := r6.1) (b := 1) rfl rfl) ?_
   replace H := H.ownLow 0 0 0 rfl (Nat.zero_le _) (Nat.zero_le _)
   obtain ⟨r18, hx19, h'⟩ := bind_some h
   clear h
   have h := h'; clear h'
   have hc20 := c_slices_Delete_impl_Item_impl_Item (as_0 := a14) (cs_0 := c15) hx19
   refine st_call (cx_call hc20 (ent_f hc20.fn rfl) hn0 (show Hp S0 σ0 _ ([Ch.own 0 0 (Sl a14 r11 c15) r11] ++ [Ch.ro 0 (Sl alist_0 list_0 clist_0) list_0]) from (H.sel' [0, 1] rfl rfl))) wn ?_
   rintro _ σ23 ⟨_, ⟨a21, c22, rfl, rfl⟩, H, -⟩
   replace H : Hp S0 σ0 σ23 [Ch.own 0 0 (Sl a21 r18 c22) r18, Ch.ro 0 (Sl alist_0 list_0 clist_0) list_0] := H
   refine st (v := (Sl a21 r18 c22)) (rv_assign rfl) ?_
   refine st (v := (B true)) (rv_assign rfl) ?_
   refine w_end ?_
   refine q_then ?_
   refine c_ret ?_
   obtain rfl := Option.some.inj h
   exact fin_ret (v := (.tuple #[(Sl a21 r18 c22), (B true)])) (results_ok Try.results25 (res_tmp (v := (Sl a21 r18 c22)) rfl (res_tmp (v := (B true)) rfl res_nil)) rfl) ⟨a21, c22, rfl, rfl⟩ (H.sel' [0] rfl rfl)

theorem c_laws_FnClosestPairDrop {code_0 : List UInt8} {acode_0 : Option Addr} {ccode_0 : Nat} {r : Bool} (h : M.laws_FnClosestPairDrop code_0 = some r) :
    Cal2 Try.prog 4 [(Sl acode_0 code_0 ccode_0)] [Ch.ro 0 (Sl acode_0 code_0 ccode_0) code_0] (fun n0 v L => v = (B r) ∧ L = []) := by
 refine cal2 (n := 124) Try.func4 rfl rfl rfl rfl ?_
 intro S0 σ0 n0 hn0 H
 unfold M.laws_FnClosestPairDrop at h
 refine c_seq ?_
 refine rg ?_
 refine st (v := (B false)) (rv_assign rfl) ?_
 refine w_end ?_
 refine q_then ?_
 refine c_seq ?_
 refine c_seq ?_
 refine rg ?_
 refine st (v := (Sl acode_0 code_0 ccode_0)) (rv_move rfl) ?_
 refine st (v := (I (code_0.length : Int))) (rv_len Try.underlying22 rfl) ?_
 refine st (v := (B (decide (1048576 < (code_0.length : Int))))) (rv_gtr (a := (code_0.length : Int)) (b := 1048576) rfl rfl) ?_
 refine w_end ?_
 refine q_then ?_
 refine cd_cond (decide (1048576 < (code_0.length : Int))) rfl (fun hb1 => ?_) (fun hb1 => ?_)
 ·replace h := bif_t hb1 h
  refine c_seq ?_
  refine rg ?_
  refine st (v := (B true)) (rv_assign rfl) ?_
  refine w_end ?_
  refine q_then ?_
  refine c_ret ?_
  refine q_then_r ?_
  obtain rfl := Option.some.inj h
  exact fin_ret (v := (B true)) (results_ok Try.results4 (res_tmp (v := (B true)) rfl res_nil) rfl) ⟨rfl, rfl⟩ (H.sel' [] rfl rfl)
 ·replace h := bif_f hb1 h
  refine c_skip ?_
  refine q_then ?_
  refine c_seq ?_
  refine rg ?_
  refine st (v := (Sl acode_0 code_0 ccode_0)) (rv_move rfl) ?_
  obtain ⟨r2, hx3, h'⟩ := bind_some h
  clear h
  have h := h'; clear h'
  have hc4 := c_spec_DrawClosestPair (acode_0 := acode_0) (ccode_0 := ccode_0) hx3
  refine st_call (cx_call hc4 (ent_f hc4.fn rfl) hn0 (show Hp S0 σ0 _ ([Ch.ro 0 (Sl acode_0 code_0 ccode_0) code_0] ++ [Ch.ro 0 (Sl acode_0 code_0 ccode_0) code_0]) from (H.sel' [0, 0] rfl rfl))) wn ?_
  rintro _ σ7 ⟨_, ⟨a5, c6, rfl, rfl⟩, H, -⟩
  replace H : Hp S0 σ0 σ7 [Ch.own n0 n0 (Sl a5 r2.1 c6) r2.1, Ch.ro 0 (Sl acode_0 code_0 ccode_0) code_0] := H
  refine st (v := (.tuple #[(Sl a5 r2.1 c6), (I r2.2)])) (rv_move rfl) ?_
  refine st (v := (Sl a5 r2.1 c6)) (rv_extract rfl rfl) ?_
  refine st (v := (I r2.2)) (rv_extract rfl rfl) ?_
  refine st (v := (Sl a5 r2.1 c6)) (rv_assign rfl) ?_
  refine st (v := (I r2.2)) (rv_assign rfl) ?_
  refine w_end ?_
  refine q_then ?_
  refine c_seq ?_
  refine rg ?_
  refine st (v := (Sl a5 r2.1 c6)) (rv_move rfl) ?_
  refine st (v := (I r2.2)) (rv_move rfl) ?_
  obtain ⟨r8, hx9, h'⟩ := bind_some h
  clear h
  have h := h'; clear h'
  have hc10 := c_impl_ClosestPair (alist_0 := a5) (clist_0 := c6) hx9
  have hle := Nat.le_trans hn0 H.size
  refine st_call (cx_lend (Loan.lend Loan.nil) hc10 (ent_f hc10.fn rfl) (show Hp S0 σ0 _ ([Ch.own n0 n0 (Sl a5 r2.1 c6) r2.1] ++ ([] ++ [Ch.ro 0 (Sl acode_0 code_0 ccode_0) code_0])) from (H.sel' [0, 1] rfl rfl)) (by rintro _ _ _ ⟨rfl, rfl⟩; exact trivial)) wn ?_
  rintro _ σ11 ⟨_, ⟨rfl, rfl⟩, H, -, -⟩
  replace H : Hp S0 σ0 σ11 [Ch.own n0 n0 (Sl a5 r2.1 c6) r2.1, Ch.ro 0 (Sl acode_0 code_0 ccode_0) code_0] := H
  clear hle
  replace H : Hp S0 σ0 σ11 [Ch.own n0 n0 (Sl a5 r2.1 c6) r2.1, Ch.ro 0 (Sl acode_0 code_0 ccode_0) code_0] := H
  refine st (v := (.tuple #[(I r8.1), (I r8.2.1), (B r8.2.2)])) (rv_move rfl) ?_
  refine st (v := (I r8.1)) (rv_extract rfl rfl) ?_
  refine st (v := (I r8.2.1)) (rv_extract rfl rfl) ?_
  refine st (v := (B r8.2.2)) (rv_extract rfl rfl) ?_
  refine st (v := (I r8.1)) (rv_assign rfl) ?_
  refine st (v := (I r8.2.1)) (rv_assign rfl) ?_
  refine st (v := (B r8.2.2)) (rv_assign rfl) ?_
  refine w_end ?_
  refine q_then ?_
  refine c_seq ?_
  refine rg ?_
  refine st (v := (Sl a5 r2.1 c6)) (rv_move rfl) ?_
  refine st (v := (I r2.2)) (rv_move rfl) ?_
  obtain ⟨r12, hx13, h'⟩ := bind_some h
  clear h
  have h := h'; clear h'
  have hc14 := c_spec_ClosestPair (alist_0 := a5) (clist_0 := c6) hx13
  have hle := Nat.le_trans hn0 H.size
  refine st_call (cx_lend (Loan.lend Loan.nil) hc14 (ent_f hc14.fn rfl) (show Hp S0 σ0 _ ([Ch.own n0 n0 (Sl a5 r2.1 c6) r2.1] ++ ([] ++ [Ch.ro 0 (Sl acode_0 code_0 ccode_0) code_0])) from (H.sel' [0, 1] rfl rfl)) (by rintro _ _ _ ⟨rfl, rfl⟩; exact trivial)) wn ?_
  rintro _ σ15 ⟨_, ⟨rfl, rfl⟩, H, -, -⟩
  replace H : Hp S0 σ0 σ15 [Ch.own n0 n0 (Sl a5 r2.1 c6) r2.1, Ch.ro 0 (Sl acode_0 code_0 ccode_0) code_0] := H
  clear hle
  replace H : Hp S0 σ0 σ15 [Ch.own n0 n0 (Sl a5 r2.1 c6) r2.1, Ch.ro 0 (Sl acode_0 code_0 ccode_0) code_0] := H
  refine st (v := (.tuple #[(I r12.1), (I r12.2.1), (B r12.2.2)])) (rv_move rfl) ?_
  refine st (v := (I r12.1)) (rv_extract rfl rfl) ?_
  refine st (v := (I r12.2.1)) (rv_extract rfl rfl) ?_
  refine st (v := (B r12.2.2)) (rv_extract rfl rfl) ?_
  refine st (v := (I r12.1)) (rv_assign rfl) ?_
  refine st (v := (I r12.2.1)) (rv_assign rfl) ?_
  refine st (v := (B r12.2.2)) (rv_assign rfl) ?_
  refine w_end ?_
  refine q_then ?_
  refine c_seq ?_
  refine c_seq ?_
  obtain ⟨o16, hj, h'⟩ := bind_some h
  clear h
  refine c_cut (fun e a w => e = .normal ∧ ∃ (ρ : Nat → Value) (σ : St), a = fr 124 (updL ρ [(3, (Sl a5 r2.1 c6)), (4, (I r2.2)), (5, (I r8.1)), (6, (I r8.2.1)), (7, (B r8.2.2)), (8, (I r12.1)), (9, (I r12.2.1)), (10, (B r12.2.2)), (55, (B o16))]) ∧ w = σ.w ∧ Hp S0 σ0 σ [Ch.own n0 n0 (Sl a5 r2.1 c6) r2.1]) ?_ ?_
  ·clear h'
   rename _ = some o16 => h
   refine rg ?_
   refine st (v := (I r8.1)) (rv_move rfl) ?_
   refine st (v := (I r12.1)) (rv_move rfl) ?_
   refine st (v := (B (r8.1 != r12.1))) (rv_neq (a := r8.1) (b := r12.1) rfl rfl) ?_
   refine st (v := (B (r8.1 != r12.1))) (rv_move rfl) ?_
   rcases Bool.eq_false_or_eq_true (r8.1 != r12.1) with hb17 | hb17
   ·replace h := bif_t hb17 h
    refine st_skip (congrArg some hb17) ?_
    refine st_skip (congrArg some hb17) ?_
    refine st_skip (congrArg some hb17) ?_
    refine st (v := (B true)) (rv_pick_t (congrArg B hb17) rfl) ?_
    refine st (v := (B true)) (rv_move rfl) ?_
    refine st_skip rfl ?_
    refine st_skip rfl ?_
    refine st_skip rfl ?_
    refine st (v := (B true)) (rv_pick_t rfl rfl) ?_
    refine st (v := (B true)) (rv_move rfl) ?_
    refine st_skip rfl ?_
    refine st_skip rfl ?_
    refine st (v := (B true)) (rv_pick_t rfl rfl) ?_
    refine w_end ?_
    obtain rfl := Option.some.inj h
    exact ⟨rfl, _, σ15, fr_join ⟨rfl, rfl, rfl, rfl, rfl, rfl, rfl, rfl, rfl, trivial⟩, rfl, H.sel' [0] rfl rfl⟩
   ·replace h := bif_f hb17 h
    refine st_g (v := (I r8.2.1)) (congrArg some hb17) (rv_move rfl) ?_
    refine st_g (v := (I r12.2.1)) (congrArg some hb17) (rv_move rfl) ?_
    refine st_g (v := (B (r8.2.1 != r12.2.1))) (congrArg some hb17) (rv_neq (a := r8.2.1) (b := r12.2.1) rfl rfl) ?_
    refine st (v := (B (r8.2.1 != r12.2.1))) (rv_pick_f (congrArg B hb17) rfl) ?_
    refine st (v := (B (r8.2.1 != r12.2.1))) (rv_move rfl) ?_
    rcases Bool.eq_false_or_eq_true (r8.2.1 != r12.2.1) with hb18 | hb18
    ·replace h := bif_t hb18 h
     refine st_skip (congrArg some hb18) ?_
     refine st_skip (congrArg some hb18) ?_
     refine st_skip (congrArg some hb18) ?_
     refine st (v := (B true)) (rv_pick_t (congrArg B hb18) rfl) ?_
     refine st (v := (B true)) (rv_move rfl) ?_
     refine st_skip rfl ?_
     refine st_skip rfl ?_
     refine st (v := (B true)) (rv_pick_t rfl rfl) ?_
     refine w_end ?_
     obtain rfl := Option.some.inj h
     exact ⟨rfl, _, σ15, fr_join ⟨rfl, rfl, rfl, rfl, rfl, rfl, rfl, rfl, rfl, trivial⟩, rfl, H.sel' [0] rfl rfl⟩
    ·replace h := bif_f hb18 h
     refine st_g (v := (B r8.2.2)) (congrArg some hb18) (rv_move rfl) ?_
     refine st_g (v := (B r12.2.2)) (congrArg some hb18) (rv_move rfl) ?_
     refine st_g (v := (B (r8.2.2 != r12.2.2))) (congrArg some hb18) (rv_bneq Try.underlying4 rfl rfl) ?_
     refine st (v := (B (r8.2.2 != r12.2.2))) (rv_pick_f (congrArg B hb18) rfl) ?_
     refine st (v := (B (r8.2.2 != r12.2.2))) (rv_move rfl) ?_
     rcases Bool.eq_false_or_eq_true (r8.2.2 != r12.2.2) with hb19 | hb19
     ·replace h := bif_t hb19 h
      refine st_skip (congrArg some hb19) ?_
      refine st_skip (congrArg some hb19) ?_
      refine st (v := (B true)) (rv_pick_t (congrArg B hb19) rfl) ?_
      refine w_end ?_
      obtain rfl := Option.some.inj h
      exact ⟨rfl, _, σ15, fr_join ⟨rfl, rfl, rfl, rfl, rfl, rfl, rfl, rfl, rfl, trivial⟩, rfl, H.sel' [0] rfl rfl⟩
     ·replace h := bif_f hb19 h
      refine st_g (v := (B r8.2.2)) (congrArg some hb19) (rv_move rfl) ?_
      refine st_g (v := (B (!r8.2.2))) (congrArg some hb19) (rv_not rfl) ?_
      refine st (v := (B (!r8.2.2))) (rv_pick_f (congrArg B hb19) rfl) ?_
      refine w_end ?_
      obtain rfl := Option.some.inj h
      exact ⟨rfl, _, σ15, fr_join ⟨rfl, rfl, rfl, rfl, rfl, rfl, rfl, rfl, rfl, trivial⟩, rfl, H.sel' [0] rfl rfl⟩
  ·clear hj
   have h := h'
   clear h' H
   rintro e a w ⟨rfl, ρ, σ20, rfl, rfl, H⟩
   refine q_then ?_
   refine cd_cond o16 rfl (fun hb21 => ?_) (fun hb21 => ?_)
   ·replace h := bif_t hb21 h
    refine c_seq ?_
    refine rg ?_
    refine st (v := (I r8.1)) (rv_move rfl) ?_
    refine st (v := (I r12.1)) (rv_move rfl) ?_
    refine st (v := (B (r8.1 == r12.1))) (rv_eql (a := r8.1) (b := r12.1) rfl rfl) ?_
    refine st (v := (B (r8.1 == r12.1))) (rv_move rfl) ?_
    rcases Bool.eq_false_or_eq_true (r8.1 == r12.1) with hb22 | hb22
    ·replace h := bif_t hb22 h
     refine st_g (v := (I r8.2.1)) (congrArg some hb22) (rv_move rfl) ?_
     refine st_g (v := (I r12.2.1)) (congrArg some hb22) (rv_move rfl) ?_
     refine st_g (v := (B (r8.2.1 == r12.2.1))) (congrArg some hb22) (rv_eql (a := r8.2.1) (b := r12.2.1) rfl rfl) ?_
     refine st (v := (B (r8.2.1 == r12.2.1))) (rv_pick_t (congrArg B hb22) rfl) ?_
     refine st (v := (B (r8.2.1 == r12.2.1))) (rv_move rfl) ?_
     rcases Bool.eq_false_or_eq_true (r8.2.1 == r12.2.1) with hb23 | hb23
     ·replace h := bif_t hb23 h
      refine st_g (v := (B r8.2.2)) (congrArg some hb23) (rv_move rfl) ?_
      refine st_g (v := (B r12.2.2)) (congrArg some hb23) (rv_move rfl) ?_
      refine st_g (v := (B (r8.2.2 == r12.2.2))) (congrArg some hb23) (rv_beql Try.underlying4 rfl rfl) ?_
      refine st (v := (B (r8.2.2 == r12.2.2))) (rv_pick_t (congrArg B hb23) rfl) ?_
      refine st (v := (B (r8.2.2 == r12.2.2))) (rv_assign rfl) ?_
      refine w_end ?_
      refine q_then ?_
      refine c_ret ?_
      refine q_then_r ?_
      obtain rfl := Option.some.inj h
      exact fin_ret (v := (B (r8.2.2 == r12.2.2))) (results_ok Try.results4 (res_tmp (v := (B (r8.2.2 == r12.2.2))) rfl res_nil) rfl) ⟨rfl, rfl⟩ (H.sel' [] rfl rfl)
     ·replace h := bif_f hb23 h
      refine st_skip (congrArg some hb23) ?_
      refine st_skip (congrArg some hb23) ?_
      refine st_skip (congrArg some hb23) ?_
      refine st (v := (B false)) (rv_pick_f (congrArg B hb23) rfl) ?_
      refine st (v := (B false)) (rv_assign rfl) ?_
      refine w_end ?_
      refine q_then ?_
      refine c_ret ?_
      refine q_then_r ?_
      obtain rfl := Option.some.inj h
      exact fin_ret (v := (B false)) (results_ok Try.results4 (res_tmp (v := (B false)) rfl res_nil) rfl) ⟨rfl, rfl⟩ (H.sel' [] rfl rfl)
    ·replace h := bif_f hb22 h
     refine st_skip (congrArg some hb22) ?_
     refine st_skip (congrArg some hb22) ?_
     refine st_skip (congrArg some hb22) ?_
     refine st (v := (B false)) (rv_pick_f (congrArg B hb22) rfl) ?_
     refine st (v := (B false)) (rv_move rfl) ?_
     refine st_skip rfl ?_
     refine st_skip rfl ?_
     refine st_skip rfl ?_
     refine st (v := (B false)) (rv_pick_f rfl rfl) ?_
     refine st (v := (B false)) (rv_assign rfl) ?_
     refine w_end ?_
     refine q_then ?_
     refine c_ret ?_
     refine q_then_r ?_
     obtain rfl := Option.some.inj h
     exact fin_ret (v := (B false)) (results_ok Try.results4 (res_tmp (v := (B false)) rfl res_nil) rfl) ⟨rfl, rfl⟩ (H.sel' [] rfl rfl)
   ·replace h := bif_f hb21 h
    refine c_skip ?_
    refine q_then ?_
    refine c_seq ?_
    refine c_seq ?_
    refine rg ?_
    refine st (v := (I 0)) (rv_assign rfl) ?_
    refine w_end ?_
    refine q_then ?_
    obtain ⟨o24, hj, h'⟩ := bind_some h
    clear h
    refine c_cut (fun e a w => (∃ t, o24 = (.inl t) ∧ e = .normal ∧ ∃ (ρ : Nat → Value) (σ : St), a = fr 124 (updL ρ []) ∧ w = σ.w ∧ Hp S0 σ0 σ []) ∨ (∃ t, o24 = (.inr t) ∧ e = .ret ∧ ∃ (ρ : Nat → Value) (σ : St), a = fr 124 (updL ρ [(2, (B t))]) ∧ w = σ.w ∧ Hp S0 σ0 σ [])) ?_ ?_
    ·clear h'
     rename _ = some o24 => h
     refine c_blk ?_
     obtain ⟨σ26, hw27, H, -⟩ := H.pub 0 rfl (Nat.le_refl _)
     rw [← hw27]; clear hw27
     refine wp_loopM _ h (fun s25 a w => ∃ (ρ : Nat → Value) (σ : St), a = fr 124 (updL ρ [(3, (Sl a5 r2.1 c6)), (4, (I r2.2)), (5, (I r8.1)), (6, (I r8.2.1)), (11, (I s25))]) ∧ w = σ.w ∧ Hp S0 σ0 σ [Ch.ro n0 (Sl a5 r2.1 c6) r2.1]) ⟨_, σ26, fr_join ⟨rfl, rfl, rfl, rfl, rfl, trivial⟩, rfl, H.sel' [0] rfl rfl⟩ ?_
     clear h H
     rintro s25 a w o ⟨ρ, σ28, rfl, rfl, H⟩ h hres
     refine c_seq ?_
     refine c_seq ?_
     refine rg ?_
     refine st (v := (I s25)) (rv_move rfl) ?_
     refine st (v := (Sl a5 r2.1 c6)) (rv_move rfl) ?_
     refine st (v := (I (r2.1.length : Int))) (rv_len Try.underlying23 rfl) ?_
     refine st (v := (B (decide (s25 < (r2.1.length : Int))))) (rv_lss (a := s25) (b := (r2.1.length : Int)) rfl rfl) ?_
     refine w_end ?_
     refine q_then ?_
     refine cd_cond (decide (s25 < (r2.1.length : Int))) rfl (fun hb29 => ?_) (fun hb29 => ?_)
     ·replace h := bif_t hb29 h
      refine c_skip ?_
      refine q_then ?_
      refine c_seq ?_
      obtain ⟨o30, hj, h'⟩ := bind_some h
      clear h
      refine c_cut (fun e a w => (∃ t, o30 = (.inl t) ∧ e = .normal ∧ ∃ (ρ : Nat → Value) (σ : St), a = fr 124 (updL ρ [(3, (Sl a5 r2.1 c6)), (4, (I r2.2)), (5, (I r8.1)), (6, (I r8.2.1)), (11, (I s25))]) ∧ w = σ.w ∧ Hp S0 σ0 σ [Ch.ro n0 (Sl a5 r2.1 c6) r2.1]) ∨ (∃ t, o30 = (.inr t) ∧ e = .ret ∧ ∃ (ρ : Nat → Value) (σ : St), a = fr 124 (updL ρ [(2, (B t))]) ∧ w = σ.w ∧ Hp S0 σ0 σ [])) ?_ ?_
      ·clear h'
       rename _ = some o30 => h
       refine c_blk ?_
       refine c_seq ?_
       refine c_seq ?_
       obtain ⟨o31, hj, h'⟩ := bind_some h
       clear h
       refine c_cut (fun e a w => e = .normal ∧ ∃ (ρ : Nat → Value) (σ : St), a = fr 124 (updL ρ [(3, (Sl a5 r2.1 c6)), (4, (I r2.2)), (5, (I r8.1)), (6, (I r8.2.1)), (11, (I s25)), (90, (B o31))]) ∧ w = σ.w ∧ Hp S0 σ0 σ [Ch.ro n0 (Sl a5 r2.1 c6) r2.1]) ?_ ?_
       ·clear h'
        rename _ = some o31 => h
        refine rg ?_
        refine st (v := (Sl a5 r2.1 c6)) (rv_move rfl) ?_
        refine st (v := (I s25)) (rv_move rfl) ?_
        obtain ⟨x32, hx33, h'⟩ := bind_some h
        clear h
        have h := h'; clear h'
        obtain ⟨b35, o36, hi34, -⟩ := (H.ro 0 rfl).ix hx33
        refine st (v := (pt b35 o36)) (rv_ix Try.underlying23 ti40 rfl rfl hi34) ?_
        refine st (v := (pt b35 (o36 + 0))) (rv_fieldAddr (off := 0) (ft := 3) Try.underlying40 rfl ti3 rfl rfl) ?_
        have hc37 := ((H.ro 0 rfl).at hx33 hi34).fst.int
        refine st (v := (I x32.1)) (rv_load1 Try.underlying3 rfl rfl hc37) ?_
        refine st (v := (I r8.1)) (rv_move rfl) ?_
        refine st (v := (B (x32.1 == r8.1))) (rv_eql (a := x32.1) (b := r8.1) rfl rfl) ?_
        refine st (v := (B (x32.1 == r8.1))) (rv_move rfl) ?_
        rcases Bool.eq_false_or_eq_true (x32.1 == r8.1) with hb38 | hb38
        ·replace h := bif_t hb38 h
         refine st_skip (congrArg some hb38) ?_
         refine st_skip (congrArg some hb38) ?_
         refine st_skip (congrArg some hb38) ?_
         refine st_skip (congrArg some hb38) ?_
         refine st_skip (congrArg some hb38) ?_
         refine st_skip (congrArg some hb38) ?_
         refine st_skip (congrArg some hb38) ?_
         refine st (v := (B true)) (rv_pick_t (congrArg B hb38) rfl) ?_
         refine w_end ?_
         obtain rfl := Option.some.inj h
         exact ⟨rfl, _, σ28, fr_join ⟨rfl, rfl, rfl, rfl, rfl, rfl, trivial⟩, rfl, H.sel' [0] rfl rfl⟩
        ·replace h := bif_f hb38 h
         refine st_g (v := (Sl a5 r2.1 c6)) (congrArg some hb38) (rv_move rfl) ?_
         refine st_g (v := (I s25)) (congrArg some hb38) (rv_move rfl) ?_
         obtain ⟨x39, hx40, h'⟩ := bind_some h
         clear h
         have h := h'; clear h'
         obtain ⟨b42, o43, hi41, -⟩ := (H.ro 0 rfl).ix hx40
         refine st_g (v := (pt b42 o43)) (congrArg some hb38) (rv_ix Try.underlying23 ti40 rfl rfl hi41) ?_
         refine st_g (v := (pt b42 (o43 + 0))) (congrArg some hb38) (rv_fieldAddr (off := 0) (ft := 3) Try.underlying40 rfl ti3 rfl rfl) ?_
         have hc44 := ((H.ro 0 rfl).at hx40 hi41).fst.int
         refine st_g (v := (I x39.1)) (congrArg some hb38) (rv_load1 Try.underlying3 rfl rfl hc44) ?_
         refine st_g (v := (I r8.2.1)) (congrArg some hb38) (rv_move rfl) ?_
         refine st_g (v := (B (x39.1 == r8.2.1))) (congrArg some hb38) (rv_eql (a := x39.1) (b := r8.2.1) rfl rfl) ?_
         refine st (v := (B (x39.1 == r8.2.1))) (rv_pick_f (congrArg B hb38) rfl) ?_
         refine w_end ?_
         obtain rfl := Option.some.inj h
         exact ⟨rfl, _, σ28, fr_join ⟨rfl, rfl, rfl, rfl, rfl, rfl, trivial⟩, rfl, H.sel' [0] rfl rfl⟩
       ·clear hj
        have h := h'
        clear h' H
        rintro e a w ⟨rfl, ρ, σ45, rfl, rfl, H⟩
        refine q_then ?_
        refine cd_cond o31 rfl (fun hb46 => ?_) (fun hb46 => ?_)
        ·replace h := bif_t hb46 h
         refine c_exit ?_
         refine q_then_x ?_
         refine q_blk_hit ?_
         obtain rfl := Option.some.inj h
         exact .inl ⟨_, rfl, rfl, _, σ45, fr_join ⟨rfl, rfl, rfl, rfl, rfl, trivial⟩, rfl, H.sel' [0] rfl rfl⟩
        ·replace h := bif_f hb46 h
         refine c_skip ?_
         refine q_then ?_
         refine c_seq ?_
         refine rg ?_
         refine st (v := (Sl a5 r2.1 c6)) (rv_move rfl) ?_
         refine st (v := (Sl a5 r2.1 c6)) (rv_move rfl) ?_
         refine st (v := (I s25)) (rv_move rfl) ?_
         obtain ⟨x47, hx48, h'⟩ := bind_some h
         clear h
         have h := h'; clear h'
         obtain ⟨b50, o51, hi49, -⟩ := (H.ro 0 rfl).ix hx48
         refine st (v := (pt b50 o51)) (rv_ix Try.underlying23 ti40 rfl rfl hi49) ?_
         refine st (v := (pt b50 (o51 + 0))) (rv_fieldAddr (off := 0) (ft := 3) Try.underlying40 rfl ti3 rfl rfl) ?_
         have hc52 := ((H.ro 0 rfl).at hx48 hi49).fst.int
         refine st (v := (I x47.1)) (rv_load1 Try.underlying3 rfl rfl hc52) ?_
         replace H := H.roLow 0 0 rfl (Nat.zero_le _)
         obtain ⟨r53, hx54, h'⟩ := bind_some h
         clear h
         have h := h'; clear h'
         have hc55 := c_impl_DropItem (alist_0 := a5) (clist_0 := c6) hx54
         refine st_call (cx_call hc55 (ent_f hc55.fn rfl) hn0 (show Hp S0 σ0 _ ([Ch.ro 0 (Sl a5 r2.1 c6) r2.1] ++ [Ch.ro 0 (Sl a5 r2.1 c6) r2.1, Ch.ro n0 (Sl a5 r2.1 c6) r2.1]) from (H.sel' [0, 0, 1] rfl rfl))) wn ?_
         rintro _ σ58 ⟨_, ⟨a56, c57, rfl, rfl⟩, H, -⟩
         replace H : Hp S0 σ0 σ58 [Ch.own 0 0 (Sl a56 r53.1 c57) r53.1, Ch.ro 0 (Sl a5 r2.1 c6) r2.1, Ch.ro n0 (Sl a5 r2.1 c6) r2.1] := H
         refine st (v := (.tuple #[(Sl a56 r53.1 c57), (B r53.2)])) (rv_move rfl) ?_
         refine st (v := (Sl a56 r53.1 c57)) (rv_extract rfl rfl) ?_
         refine st (v := (B r53.2)) (rv_extract rfl rfl) ?_
         refine st (v := (Sl a56 r53.1 c57)) (rv_assign rfl) ?_
         refine st (v := (B r53.2)) (rv_assign rfl) ?_
         refine w_end ?_
         refine q_then ?_
         refine c_seq ?_
         refine rg ?_
         refine st (v := (Sl a56 r53.1 c57)) (rv_move rfl) ?_
         refine st (v := (I r2.2)) (rv_move rfl) ?_
         obtain ⟨σ59, hw60, H, -⟩ := H.pub 0 rfl (Nat.le_refl _)
         rw [← hw60]; clear hw60
         obtain ⟨r61, hx62, h'⟩ := bind_some h
         clear h
         have h := h'; clear h'
         have hc63 := c_impl_ClosestPair (alist_0 := a56) (clist_0 := c57) hx62
         refine st_call (cx_call hc63 (ent_f hc63.fn rfl) hn0 (show Hp S0 σ0 _ ([Ch.ro 0 (Sl a56 r53.1 c57) r53.1] ++ [Ch.ro 0 (Sl a56 r53.1 c57) r53.1, Ch.ro 0 (Sl a5 r2.1 c6) r2.1, Ch.ro n0 (Sl a5 r2.1 c6) r2.1]) from (H.sel' [0, 0, 1, 2] rfl rfl))) wn ?_
         rintro _ σ64 ⟨_, ⟨rfl, rfl⟩, H, -⟩
         replace H : Hp S0 σ0 σ64 [Ch.ro 0 (Sl a56 r53.1 c57) r53.1, Ch.ro 0 (Sl a5 r2.1 c6) r2.1, Ch.ro n0 (Sl a5 r2.1 c6) r2.1] := H
         refine st (v := (.tuple #[(I r61.1), (I r61.2.1), (B r61.2.2)])) (rv_move rfl) ?_
         refine st (v := (I r61.1)) (rv_extract rfl rfl) ?_
         refine st (v := (I r61.2.1)) (rv_extract rfl rfl) ?_
         refine st (v := (B r61.2.2)) (rv_extract rfl rfl) ?_
         refine st (v := (I r61.1)) (rv_assign rfl) ?_
         refine st (v := (I r61.2.1)) (rv_assign rfl) ?_
         refine st (v := (B r61.2.2)) (rv_assign rfl) ?_
         refine w_end ?_
         refine q_then ?_
         refine c_seq ?_
         obtain ⟨o65, hj, h'⟩ := bind_some h
         clear h
         refine c_cut (fun e a w => e = .normal ∧ ∃ (ρ : Nat → Value) (σ : St), a = fr 124 (updL ρ [(3, (Sl a5 r2.1 c6)), (4, (I r2.2)), (5, (I r8.1)), (6, (I r8.2.1)), (11, (I s25)), (123, (B o65))]) ∧ w = σ.w ∧ Hp S0 σ0 σ [Ch.ro n0 (Sl a5 r2.1 c6) r2.1]) ?_ ?_
         ·clear h'
          rename _ = some o65 => h
          refine rg ?_
          refine st (v := (B r53.2)) (rv_move rfl) ?_
          refine st (v := (B (!r53.2))) (rv_not rfl) ?_
          refine st (v := (B (!r53.2))) (rv_move rfl) ?_
          rcases Bool.eq_false_or_eq_true (!r53.2) with hb66 | hb66
          ·replace h := bif_t hb66 h
           refine st_skip (congrArg some hb66) ?_
           refine st_skip (congrArg some hb66) ?_
           refine st (v := (B true)) (rv_pick_t (congrArg B hb66) rfl) ?_
           refine st (v := (B true)) (rv_move rfl) ?_
           refine st_skip rfl ?_
           refine st_skip rfl ?_
           refine st_skip rfl ?_
           refine st (v := (B true)) (rv_pick_t rfl rfl) ?_
           refine st (v := (B true)) (rv_move rfl) ?_
           refine st_skip rfl ?_
           refine st_skip rfl ?_
           refine st_skip rfl ?_
           refine st (v := (B true)) (rv_pick_t rfl rfl) ?_
           refine w_end ?_
           obtain rfl := Option.some.inj h
           exact ⟨rfl, _, σ64, fr_join ⟨rfl, rfl, rfl, rfl, rfl, rfl, trivial⟩, rfl, H.sel' [2] rfl rfl⟩
          ·replace h := bif_f hb66 h
           refine st_g (v := (B r61.2.2)) (congrArg some hb66) (rv_move rfl) ?_
           refine st_g (v := (B (!r61.2.2))) (congrArg some hb66) (rv_not rfl) ?_
           refine st (v := (B (!r61.2.2))) (rv_pick_f (congrArg B hb66) rfl) ?_
           refine st (v := (B (!r61.2.2))) (rv_move rfl) ?_
           rcases Bool.eq_false_or_eq_true (!r61.2.2) with hb67 | hb67
           ·replace h := bif_t hb67 h
            refine st_skip (congrArg some hb67) ?_
            refine st_skip (congrArg some hb67) ?_
            refine st_skip (congrArg some hb67) ?_
            refine st (v := (B true)) (rv_pick_t (congrArg B hb67) rfl) ?_
            refine st (v := (B true)) (rv_move rfl) ?_
            refine st_skip rfl ?_
            refine st_skip rfl ?_
            refine st_skip rfl ?_
            refine st (v := (B true)) (rv_pick_t rfl rfl) ?_
            refine w_end ?_
            obtain rfl := Option.some.inj h
            exact ⟨rfl, _, σ64, fr_join ⟨rfl, rfl, rfl, rfl, rfl, rfl, trivial⟩, rfl, H.sel' [2] rfl rfl⟩
           ·replace h := bif_f hb67 h
            refine st_g (v := (I r61.1)) (congrArg some hb67) (rv_move rfl) ?_
            refine st_g (v := (I r8.1)) (congrArg some hb67) (rv_move rfl) ?_
            refine st_g (v := (B (r61.1 != r8.1))) (congrArg some hb67) (rv_neq (a := r61.1) (b := r8.1) rfl rfl) ?_
            refine st (v := (B (r61.1 != r8.1))) (rv_pick_f (congrArg B hb67) rfl) ?_
            refine st (v := (B (r61.1 != r8.1))) (rv_move rfl) ?_
            rcases Bool.eq_false_or_eq_true (r61.1 != r8.1) with hb68 | hb68
            ·replace h := bif_t hb68 h
             refine st_skip (congrArg some hb68) ?_
             refine st_skip (congrArg some hb68) ?_
             refine st_skip (congrArg some hb68) ?_
             refine st (v := (B true)) (rv_pick_t (congrArg B hb68) rfl) ?_
             refine w_end ?_
             obtain rfl := Option.some.inj h
             exact ⟨rfl, _, σ64, fr_join ⟨rfl, rfl, rfl, rfl, rfl, rfl, trivial⟩, rfl, H.sel' [2] rfl rfl⟩
            ·replace h := bif_f hb68 h
             refine st_g (v := (I r61.2.1)) (congrArg some hb68) (rv_move rfl) ?_
             refine st_g (v := (I r8.2.1)) (congrArg some hb68) (rv_move rfl) ?_
             refine st_g (v := (B (r61.2.1 != r8.2.1))) (congrArg some hb68) (rv_neq (a := r61.2.1) (b := r8.2.1) rfl rfl) ?_
             refine st (v := (B (r61.2.1 != r8.2.1))) (rv_pick_f (congrArg B hb68) rfl) ?_
             refine w_end ?_
             obtain rfl := Option.some.inj h
             exact ⟨rfl, _, σ64, fr_join ⟨rfl, rfl, rfl, rfl, rfl, rfl, trivial⟩, rfl, H.sel' [2] rfl rfl⟩
         ·clear hj
          have h := h'
          clear h' H
          rintro e a w ⟨rfl, ρ, σ69, rfl, rfl, H⟩
          refine q_then ?_
          refine cd_cond o65 rfl (fun hb70 => ?_) (fun hb70 => ?_)
          ·replace h := bif_t hb70 h
           refine c_seq ?_
           refine rg ?_
           refine st (v := (B false)) (rv_assign rfl) ?_
           refine w_end ?_
           refine q_then ?_
           refine c_ret ?_
           refine q_blk_r ?_
           obtain rfl := Option.some.inj h
           exact .inr (⟨_, rfl, rfl, _, σ69, fr_join ⟨rfl, trivial⟩, rfl, H.sel' [] rfl rfl⟩)
          ·replace h := bif_f hb70 h
           refine c_skip ?_
           refine q_blk ?_
           obtain rfl := Option.some.inj h
           exact .inl ⟨_, rfl, rfl, _, σ69, fr_join ⟨rfl, rfl, rfl, rfl, rfl, trivial⟩, rfl, H.sel' [0] rfl rfl⟩
      ·clear hj
       have h := h'
       clear h' H
       rintro e a w (⟨t71, rfl, rfl, ρ, σ72, rfl, rfl, H⟩ | ⟨t73, rfl, rfl, ρ, σ74, rfl, rfl, H⟩)
       ·replace h := selim_l h
        refine q_then ?_
        refine rg ?_
        refine st (v := (I s25)) (rv_move rfl) ?_
        refine st (v := (I (w64 (s25 + 1)))) (rv_add (a := s25) (b := 1) rfl rfl) ?_
        refine st (v := (I (w64 (s25 + 1)))) (rv_assign rfl) ?_
        refine w_end ?_
        refine q_then ?_
        obtain rfl := Option.some.inj h
        exact ⟨_, rfl, _, σ72, fr_join ⟨rfl, rfl, rfl, rfl, rfl, trivial⟩, rfl, H.sel' [0] rfl rfl⟩
       ·replace h := selim_r h
        refine q_then_r ?_
        refine q_then_r ?_
        refine q_blk_r ?_
        obtain rfl := Option.some.inj h
        obtain rfl := hres _ rfl
        exact .inr (⟨_, rfl, rfl, _, σ74, fr_join ⟨rfl, trivial⟩, rfl, H.sel' [] rfl rfl⟩)
     ·replace h := bif_f hb29 h
      refine c_exit ?_
      refine q_then_x ?_
      refine q_then_x ?_
      refine q_blk_hit ?_
      obtain rfl := Option.some.inj h
      obtain rfl := hres _ rfl
      exact .inl ⟨_, rfl, rfl, _, σ28, fr_join trivial, rfl, H.sel' [] rfl rfl⟩
    ·clear hj
     have h := h'
     clear h' H
     rintro e a w (⟨t75, rfl, rfl, ρ, σ76, rfl, rfl, H⟩ | ⟨t77, rfl, rfl, ρ, σ78, rfl, rfl, H⟩)
     ·replace h := selim_l h
      refine q_then ?_
      refine c_seq ?_
      refine rg ?_
      refine st (v := (B true)) (rv_assign rfl) ?_
      refine w_end ?_
      refine q_then ?_
      refine c_ret ?_
      obtain rfl := Option.some.inj h
      exact fin_ret (v := (B true)) (results_ok Try.results4 (res_tmp (v := (B true)) rfl res_nil) rfl) ⟨rfl, rfl⟩ (H.sel' [] rfl rfl)
     ·replace h := selim_r h
      refine q_then_r ?_
      obtain rfl := Option.some.inj h
      exact fin_ret (v := (B t77)) (results_ok Try.results4 (res_tmp (v := (B t77)) rfl res_nil) rfl) ⟨rfl, rfl⟩ (H.sel' [] rfl rfl)

end Go.Vs
