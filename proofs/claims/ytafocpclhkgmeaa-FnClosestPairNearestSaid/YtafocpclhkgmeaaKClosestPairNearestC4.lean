/- The functions compute what their models say. -/
import Derived.Test.YtafocpclhkgmeaaKClosestPairNearestC3
set_option linter.unusedVariables false
set_option linter.unusedSimpArgs false
set_option maxRecDepth 20000
namespace Go.Vs
open Go Go.Proofs
attribute [local irreducible] Code.wp Code.wpIn wpList wpListIn wpQuiet Calls CallsIn

theorem c_spec_ClosestPair {Ai : List (Int × (List Int) × Int)} {Ao : Int} {Aj : Option Addr} {Ak : Nat} {r : Int × Int × Bool} (h : M.spec_ClosestPair Ai Ao = some r) :
    Cal2 Try.prog 30 [(Sl Aj Ai Ak), (I Ao)] [Ch.ro 0 (Sl Aj Ai Ak) Ai] (fun n0 v L => v = (.tuple #[(I r.1), (I r.2.1), (B r.2.2)]) ∧ L = []) := by
 refine cal2 (n := 75) Try.func30 rfl rfl rfl rfl ?_
 intro S0 σ0 n0 hn0 H
 unfold M.spec_ClosestPair at h
 refine c_seq (rg (sa (I 0) rfl (sa (I 0) rfl (sa (B false) rfl (w_end (q_then (c_seq (c_seq ?_))))))))
 obtain ⟨o1, hj, h'⟩ := bind_some h
 clear h
 refine c_cut (fun e a w => e = .normal ∧ ∃ (ρ : Nat → Value) (σ : St), a = fr 75 (updL ρ [(0, (Sl Aj Ai Ak)), (1, (I Ao)), (23, (B o1))]) ∧ w = σ.w ∧ Hp S0 σ0 σ [Ch.ro 0 (Sl Aj Ai Ak) Ai]) ?_ ?_
 ·clear h'
  rename _ = some o1 => h
  refine rg (sm (Sl Aj Ai Ak) rfl ?_)
  revert h; refine br fun r2 hx3 h => ?_
  have hc4 := c_spec_validStore (Aj := Aj) (Ak := Ak) hx3
  refine st_call (cx_call hc4 (ent_f hc4.fn rfl) hn0 (H.sel' [0, 0] rfl rfl : Hp S0 σ0 _ ([_] ++ _))) wn ?_
  rintro _ σ5 ⟨_, ⟨rfl, rfl⟩, H, -⟩
  replace H : Hp _ _ _ [_] := H
  refine st (v := (B (!r2))) (rv_not rfl) (sm (B (!r2)) rfl ?_)
  rcases Bool.eq_false_or_eq_true (!r2) with hb6 | hb6
  ·replace h := bif_t hb6 h
   refine st_skip (congrArg some hb6) (st_skip (congrArg some hb6) (st_skip (congrArg some hb6) (st (v := (B true)) (rv_pick_t (congrArg B hb6) rfl) (sm (B true) rfl (st_skip rfl (st_skip rfl (st_skip rfl (st (v := (B true)) (rv_pick_t rfl rfl) (w_end ?_)))))))))
   obtain rfl := sj h
   exact ⟨rfl, _, σ5, fr_join ⟨rfl, rfl, rfl, trivial⟩, rfl, H.sel' [0] rfl rfl⟩
  ·replace h := bif_f hb6 h
   refine st_g (v := (I Ao)) (congrArg some hb6) (rv_move rfl) ?_
   revert h; refine br fun r7 hx8 h => ?_
   have hc9 := c_spec_validKind hx8
   refine st_call (cx_call hc9 (ent_f hc9.fn rfl) hn0 (H.sel' [0] rfl rfl : Hp S0 σ0 _ ([] ++ _))) (wanted_yes rfl (by exact (congrArg some hb6))) ?_
   rintro _ σ10 ⟨_, ⟨rfl, rfl⟩, H, -⟩
   replace H : Hp _ _ _ [_] := H
   refine st_g (v := (B (!r7))) (congrArg some hb6) (rv_not rfl) (st (v := (B (!r7))) (rv_pick_f (congrArg B hb6) rfl) (sm (B (!r7)) rfl ?_))
   rcases Bool.eq_false_or_eq_true (!r7) with hb11 | hb11
   ·replace h := bif_t hb11 h
    refine st_skip (congrArg some hb11) (st_skip (congrArg some hb11) (st_skip (congrArg some hb11) (st (v := (B true)) (rv_pick_t (congrArg B hb11) rfl) (w_end ?_))))
    obtain rfl := sj h
    exact ⟨rfl, _, σ10, fr_join ⟨rfl, rfl, rfl, trivial⟩, rfl, H.sel' [0] rfl rfl⟩
   ·replace h := bif_f hb11 h
    refine st_g (v := (Sl Aj Ai Ak)) (congrArg some hb11) (rv_move rfl) (st_g (v := (I (Ai.length : Int))) (congrArg some hb11) (rv_len Try.underlying23 rfl) (st_g (v := (B (decide ((Ai.length : Int) < 2)))) (congrArg some hb11) (rv_lss (a := (Ai.length : Int)) (b := 2) rfl rfl) (st (v := (B (decide ((Ai.length : Int) < 2)))) (rv_pick_f (congrArg B hb11) rfl) (w_end ?_))))
    obtain rfl := sj h
    exact ⟨rfl, _, σ10, fr_join ⟨rfl, rfl, rfl, trivial⟩, rfl, H.sel' [0] rfl rfl⟩
 ·clear hj
  have h := h'
  clear h' H
  rintro e a w ⟨rfl, ρ, σ12, rfl, rfl, H⟩
  refine q_then ?_
  refine cd_cond o1 rfl (fun hb13 => ?_) (fun hb13 => ?_)
  ·replace h := bif_t hb13 h
   refine c_seq (rg (sa (I 0) rfl (sa (I 0) rfl (sa (B false) rfl (w_end (q_then (c_ret (q_then_r ?_))))))))
   obtain rfl := sj h
   exact fin_ret (v := (.tuple #[(I 0), (I 0), (B false)])) (results_ok Try.results30 (res_tmp (v := (I 0)) rfl (res_tmp (v := (I 0)) rfl (res_tmp (v := (B false)) rfl res_nil))) rfl) ⟨rfl, rfl⟩ (H.sel' [] rfl rfl)
  ·replace h := bif_f hb13 h
   refine c_skip (q_then (c_seq (rg (sa (I 0) rfl (w_end (q_then (c_seq (rg (sa (I 1) rfl (w_end (q_then ?_)))))))))))
   refine c_seq (c_seq (rg (sa (I 0) rfl (w_end (q_then ?_)))))
   obtain ⟨o14, hj, h'⟩ := bind_some h
   clear h
   refine c_cut (fun e a w => e = .normal ∧ ∃ (ρ : Nat → Value) (σ : St), a = fr 75 (updL ρ [(0, (Sl Aj Ai Ak)), (7, (I o14.1)), (8, (I o14.2))]) ∧ w = σ.w ∧ Hp S0 σ0 σ [Ch.ro 0 (Sl Aj Ai Ak) Ai]) ?_ ?_
   ·clear h'
    rename _ = some o14 => h
    refine c_blk (wp_loopM _ h (fun s15 a w => ∃ (ρ : Nat → Value) (σ : St), a = fr 75 (updL ρ [(0, (Sl Aj Ai Ak)), (1, (I Ao)), (7, (I s15.1)), (8, (I s15.2.1)), (9, (I s15.2.2))]) ∧ w = σ.w ∧ Hp S0 σ0 σ [Ch.ro 0 (Sl Aj Ai Ak) Ai]) ⟨_, σ12, fr_join ⟨rfl, rfl, rfl, rfl, rfl, trivial⟩, rfl, H.sel' [0] rfl rfl⟩ ?_)
    clear h H
    rintro s15 a w o ⟨ρ, σ16, rfl, rfl, H⟩ h hres
    refine c_seq (c_seq (rg (sm (I s15.2.2) rfl (sm (Sl Aj Ai Ak) rfl (st (v := (I (Ai.length : Int))) (rv_len Try.underlying23 rfl) (st (v := (B (decide (s15.2.2 < (Ai.length : Int))))) (rv_lss (a := s15.2.2) (b := (Ai.length : Int)) rfl rfl) (w_end (q_then ?_))))))))
    refine cd_cond (decide (s15.2.2 < (Ai.length : Int))) rfl (fun hb17 => ?_) (fun hb17 => ?_)
    ·replace h := bif_t hb17 h
     refine c_skip (q_then (c_seq (c_blk (c_seq (rg (sm (I s15.2.2) rfl (st (v := (I (w64 (s15.2.2 + 1)))) (rv_add (a := s15.2.2) (b := 1) rfl rfl) (sa (I (w64 (s15.2.2 + 1))) rfl (w_end (q_then ?_))))))))))
     obtain ⟨o18, hj, h'⟩ := bind_some h
     clear h
     refine c_cut (fun e a w => e = .normal ∧ ∃ (ρ : Nat → Value) (σ : St), a = fr 75 (updL ρ [(0, (Sl Aj Ai Ak)), (1, (I Ao)), (7, (I o18.1)), (8, (I o18.2)), (9, (I s15.2.2))]) ∧ w = σ.w ∧ Hp S0 σ0 σ [Ch.ro 0 (Sl Aj Ai Ak) Ai]) ?_ ?_
     ·clear h'
      rename _ = some o18 => h
      refine c_blk (wp_loopM _ h (fun s19 a w => ∃ (ρ : Nat → Value) (σ : St), a = fr 75 (updL ρ [(0, (Sl Aj Ai Ak)), (1, (I Ao)), (7, (I s19.1)), (8, (I s19.2.1)), (9, (I s15.2.2)), (10, (I s19.2.2))]) ∧ w = σ.w ∧ Hp S0 σ0 σ [Ch.ro 0 (Sl Aj Ai Ak) Ai]) ⟨_, σ16, fr_join ⟨rfl, rfl, rfl, rfl, rfl, rfl, trivial⟩, rfl, H.sel' [0] rfl rfl⟩ ?_)
      clear h H
      rintro s19 a w o ⟨ρ, σ20, rfl, rfl, H⟩ h hres
      refine c_seq (c_seq (rg (sm (I s19.2.2) rfl (sm (Sl Aj Ai Ak) rfl (st (v := (I (Ai.length : Int))) (rv_len Try.underlying23 rfl) (st (v := (B (decide (s19.2.2 < (Ai.length : Int))))) (rv_lss (a := s19.2.2) (b := (Ai.length : Int)) rfl rfl) (w_end (q_then ?_))))))))
      refine cd_cond (decide (s19.2.2 < (Ai.length : Int))) rfl (fun hb21 => ?_) (fun hb21 => ?_)
      ·replace h := bif_t hb21 h
       refine c_skip (q_then (c_seq ?_))
       obtain ⟨o22, hj, h'⟩ := bind_some h
       clear h
       refine c_cut (fun e a w => e = .normal ∧ ∃ (ρ : Nat → Value) (σ : St), a = fr 75 (updL ρ [(0, (Sl Aj Ai Ak)), (1, (I Ao)), (7, (I o22.1)), (8, (I o22.2)), (9, (I s15.2.2)), (10, (I s19.2.2))]) ∧ w = σ.w ∧ Hp S0 σ0 σ [Ch.ro 0 (Sl Aj Ai Ak) Ai]) ?_ ?_
       ·clear h'
        rename _ = some o22 => h
        refine c_blk (c_seq ?_)
        revert h; refine br fun x23 hx24 h => ?_
        obtain ⟨b26, o27, hi25, -⟩ := (H.ro 0 rfl).ix hx24
        obtain ⟨v31, hc32, hR30⟩ := ((H.ro 0 rfl).at hx24 hi25).snd.fst.slice
        obtain ⟨a28, c29, rfl⟩ := hR30.isSl
        replace H := H.add (d := Ch.ro 0 (Sl a28 x23.2.1 c29) x23.2.1) hR30 (fun _ h => h)
        clear hR30
        revert h; refine br fun x33 hx34 h => ?_
        obtain ⟨b36, o37, hi35, -⟩ := (H.ro 1 rfl).ix hx34
        obtain ⟨v41, hc42, hR40⟩ := ((H.ro 1 rfl).at hx34 hi35).snd.fst.slice
        obtain ⟨a38, c39, rfl⟩ := hR40.isSl
        replace H := H.add (d := Ch.ro 0 (Sl a38 x33.2.1 c39) x33.2.1) hR40 (fun _ h => h)
        clear hR40
        revert h; refine br fun r43 hx44 h => ?_
        have hc45 := c_spec_dist (Ce := a28) (Cf := c29) (Cg := a38) (Ci := c39) hx44
        revert h; refine br fun x46 hx47 h => ?_
        obtain ⟨b49, o50, hi48, -⟩ := (H.ro 2 rfl).ix hx47
        obtain ⟨v54, hc55, hR53⟩ := ((H.ro 2 rfl).at hx47 hi48).snd.fst.slice
        obtain ⟨a51, c52, rfl⟩ := hR53.isSl
        replace H := H.add (d := Ch.ro 0 (Sl a51 x46.2.1 c52) x46.2.1) hR53 (fun _ h => h)
        clear hR53
        revert h; refine br fun x56 hx57 h => ?_
        obtain ⟨b59, o60, hi58, -⟩ := (H.ro 3 rfl).ix hx57
        obtain ⟨v64, hc65, hR63⟩ := ((H.ro 3 rfl).at hx57 hi58).snd.fst.slice
        obtain ⟨a61, c62, rfl⟩ := hR63.isSl
        replace H := H.add (d := Ch.ro 0 (Sl a61 x56.2.1 c62) x56.2.1) hR63 (fun _ h => h)
        clear hR63
        have Hs := H
        refine rg2 (σ := σ20) (Nm := Unit) 23 [11] [[false], [true]] [[(0, 0)], [(0, 0)], [(0, 0)], [(0, 0)], [(0, 0)], [(0, 0)], [(0, 0)], [(0, 0)], [(0, 0)], [(0, 0)], [(0, 0)], [(0, 1)], [(0, 0), (1, 1)], [(0, 0), (1, 1)], [(0, 0), (1, 1)], [(0, 0), (1, 1)], [(0, 0), (1, 1)], [(0, 0), (1, 1)], [(0, 0), (1, 1)], [(0, 0), (1, 1)], [(0, 0), (1, 1)], [(0, 0), (1, 1)], [(0, 0), (1, 1)]] 1 [fun _ => fun σm => Hp S0 σ0 σm [Ch.ro 0 (Sl a61 x56.2.1 c62) x56.2.1, Ch.ro 0 (Sl a51 x46.2.1 c52) x46.2.1, Ch.ro 0 (Sl a38 x33.2.1 c39) x33.2.1, Ch.ro 0 (Sl a28 x23.2.1 c29) x23.2.1, Ch.ro 0 (Sl Aj Ai Ak) Ai] ∧ Md (cov []) σ20 σm, fun _ => fun σm => Hp S0 σ0 σm [Ch.ro 0 (Sl a61 x56.2.1 c62) x56.2.1, Ch.ro 0 (Sl a51 x46.2.1 c52) x46.2.1, Ch.ro 0 (Sl a38 x33.2.1 c39) x33.2.1, Ch.ro 0 (Sl a28 x23.2.1 c29) x23.2.1, Ch.ro 0 (Sl Aj Ai Ak) Ai] ∧ Md (cov []) σ20 σm] [fun _ => (I Ao), fun _ => (Sl Aj Ai Ak), fun _ => (I s15.2.2), fun _ => (pt b26 o27), fun _ => (pt b26 (o27 + 1)), fun _ => (Sl a28 x23.2.1 c29), fun _ => (Sl Aj Ai Ak), fun _ => (I s19.2.2), fun _ => (pt b36 o37), fun _ => (pt b36 (o37 + 1)), fun _ => (Sl a38 x33.2.1 c39), fun _ => (I r43), fun _ => (I Ao), fun _ => (Sl Aj Ai Ak), fun _ => (I s19.1), fun _ => (pt b49 o50), fun _ => (pt b49 (o50 + 1)), fun _ => (Sl a51 x46.2.1 c52), fun _ => (Sl Aj Ai Ak), fun _ => (I s19.2.1), fun _ => (pt b59 o60), fun _ => (pt b59 (o60 + 1)), fun _ => (Sl a61 x56.2.1 c62)] () (by kernel_rfl) (by kernel_rfl) ?_ ?_ ?_
        ·intro σm m0
         exact ⟨H.grow (m0.mono fun _ h => h.elim), m0⟩
        ·refine ac rfl (by
           intro k _nm ρ σm hJ hoff hdep
           have e1 := look_off (N := 75) (hoff 1 rfl) rfl
           exact dp_v (v := (I Ao)) wn (rv_move e1) rfl hJ) ?_
         refine ac rfl (by
           intro k _nm ρ σm hJ hoff hdep
           have e0 := look_off (N := 75) (hoff 0 rfl) rfl
           exact dp_v (v := (Sl Aj Ai Ak)) wn (rv_move e0) rfl hJ) ?_
         refine ac rfl (by
           intro k _nm ρ σm hJ hoff hdep
           have e9 := look_off (N := 75) (hoff 9 rfl) rfl
           exact dp_v (v := (I s15.2.2)) wn (rv_move e9) rfl hJ) ?_
         refine ac rfl (by
           intro k _nm ρ σm hJ hoff hdep
           have e39 := hdep 1 rfl rfl 39 rfl
           have e40 := hdep 2 rfl rfl 40 rfl
           exact dp_v (v := (pt b26 o27)) wn (rv_ix Try.underlying23 ti31 e39 e40 hi25) rfl hJ) ?_
         refine ac rfl (by
           intro k _nm ρ σm hJ hoff hdep
           have e41 := hdep 3 rfl rfl 41 rfl
           exact dp_v (v := (pt b26 (o27 + 1))) wn (rv_fieldAddr (off := 1) (ft := 24) Try.underlying31 rfl ti24 rfl e41) rfl hJ) ?_
         refine all_cons (by
           refine ⟨?_, ?_⟩
           ·intro _nm ρ σm hJ hoff hdep
            have e42 := hdep 4 rfl rfl 42 rfl
            obtain ⟨H, m⟩ := id hJ
            replace hc32 := (Hs.ro 4 rfl).hmd hx24 hi25 (k := 1) (by decide) hc32 m
            exact dp_v (v := (Sl a28 x23.2.1 c29)) wn (rv_load1 Try.underlying24 rfl e42 hc32) rfl hJ
           trivial) ?_
         refine ac rfl (by
           intro k _nm ρ σm hJ hoff hdep
           have e0 := look_off (N := 75) (hoff 0 rfl) rfl
           exact dp_v (v := (Sl Aj Ai Ak)) wn (rv_move e0) rfl hJ) ?_
         refine ac rfl (by
           intro k _nm ρ σm hJ hoff hdep
           have e10 := look_off (N := 75) (hoff 10 rfl) rfl
           exact dp_v (v := (I s19.2.2)) wn (rv_move e10) rfl hJ) ?_
         refine ac rfl (by
           intro k _nm ρ σm hJ hoff hdep
           have e44 := hdep 6 rfl rfl 44 rfl
           have e45 := hdep 7 rfl rfl 45 rfl
           exact dp_v (v := (pt b36 o37)) wn (rv_ix Try.underlying23 ti31 e44 e45 hi35) rfl hJ) ?_
         refine ac rfl (by
           intro k _nm ρ σm hJ hoff hdep
           have e46 := hdep 8 rfl rfl 46 rfl
           exact dp_v (v := (pt b36 (o37 + 1))) wn (rv_fieldAddr (off := 1) (ft := 24) Try.underlying31 rfl ti24 rfl e46) rfl hJ) ?_
         refine all_cons (by
           refine ⟨?_, ?_⟩
           ·intro _nm ρ σm hJ hoff hdep
            have e47 := hdep 9 rfl rfl 47 rfl
            obtain ⟨H, m⟩ := id hJ
            replace hc42 := (Hs.ro 4 rfl).hmd hx34 hi35 (k := 1) (by decide) hc42 m
            exact dp_v (v := (Sl a38 x33.2.1 c39)) wn (rv_load1 Try.underlying24 rfl e47 hc42) rfl hJ
           trivial) ?_
         refine all_cons (by
           refine ⟨?_, ?_⟩
           ·intro _nm ρ σm hJ hoff hdep
            have e38 : look 75 ρ 38 = (I Ao) := hdep 0 rfl rfl 38 rfl
            have e43 : look 75 ρ 43 = (Sl a28 x23.2.1 c29) := hdep 5 rfl rfl 43 rfl
            have e48 : look 75 ρ 48 = (Sl a38 x33.2.1 c39) := hdep 10 rfl rfl 48 rfl
            obtain ⟨H, m⟩ := id hJ
            refine dp_cx wn (cx_call hc45 (ent_f hc45.fn (by show [look 75 ρ 38, look 75 ρ 43, look 75 ρ 48] = _; rw [e38, e43, e48])) hn0 (H.sel' [3, 2, 0, 1, 2, 3, 4] rfl rfl : Hp S0 σ0 _ ([_, _] ++ _))) ?_
            rintro _ σq ⟨_, ⟨rfl, rfl⟩, H2, m2⟩
            exact ⟨_, (), rfl, rfl, ⟨H2.sel' [0, 1, 2, 3, 4] rfl rfl, m.comp0 (m2.mono (fun i h => by simp [cov, Ch.ro] at h))⟩, stab [0, 1, 2, 3, 4, 5, 6, 7, 8, 9, 10, 12, 13, 14, 15, 16, 17, 18, 19, 20, 21, 22] (by kernel_rfl) ⟨rfl, rfl, rfl, rfl, rfl, rfl, rfl, rfl, rfl, rfl, rfl, rfl, rfl, rfl, rfl, rfl, rfl, rfl, rfl, rfl, rfl, rfl, trivial⟩⟩
           trivial) ?_
         refine ac rfl (by
           intro k _nm ρ σm hJ hoff hdep
           have e1 := look_off (N := 75) (hoff 1 rfl) rfl
           exact dp_v (v := (I Ao)) wn (rv_move e1) rfl hJ) ?_
         refine ac rfl (by
           intro k _nm ρ σm hJ hoff hdep
           have e0 := look_off (N := 75) (hoff 0 rfl) rfl
           exact dp_v (v := (Sl Aj Ai Ak)) wn (rv_move e0) rfl hJ) ?_
         refine ac rfl (by
           intro k _nm ρ σm hJ hoff hdep
           have e7 := look_off (N := 75) (hoff 7 rfl) rfl
           exact dp_v (v := (I s19.1)) wn (rv_move e7) rfl hJ) ?_
         refine ac rfl (by
           intro k _nm ρ σm hJ hoff hdep
           have e51 := hdep 13 rfl rfl 51 rfl
           have e52 := hdep 14 rfl rfl 52 rfl
           exact dp_v (v := (pt b49 o50)) wn (rv_ix Try.underlying23 ti31 e51 e52 hi48) rfl hJ) ?_
         refine ac rfl (by
           intro k _nm ρ σm hJ hoff hdep
           have e53 := hdep 15 rfl rfl 53 rfl
           exact dp_v (v := (pt b49 (o50 + 1))) wn (rv_fieldAddr (off := 1) (ft := 24) Try.underlying31 rfl ti24 rfl e53) rfl hJ) ?_
         refine all_cons (by
           refine ⟨?_, ?_⟩
           ·intro _nm ρ σm hJ hoff hdep
            have e54 := hdep 16 rfl rfl 54 rfl
            obtain ⟨H, m⟩ := id hJ
            replace hc55 := (Hs.ro 4 rfl).hmd hx47 hi48 (k := 1) (by decide) hc55 m
            exact dp_v (v := (Sl a51 x46.2.1 c52)) wn (rv_load1 Try.underlying24 rfl e54 hc55) rfl hJ
           refine ⟨?_, ?_⟩
           ·intro _nm ρ σm hJ hoff hdep
            have e54 := hdep 16 rfl rfl 54 rfl
            obtain ⟨H, m⟩ := id hJ
            replace hc55 := (Hs.ro 4 rfl).hmd hx47 hi48 (k := 1) (by decide) hc55 m
            exact dp_v (v := (Sl a51 x46.2.1 c52)) wn (rv_load1 Try.underlying24 rfl e54 hc55) rfl hJ
           trivial) ?_
         refine ac rfl (by
           intro k _nm ρ σm hJ hoff hdep
           have e0 := look_off (N := 75) (hoff 0 rfl) rfl
           exact dp_v (v := (Sl Aj Ai Ak)) wn (rv_move e0) rfl hJ) ?_
         refine ac rfl (by
           intro k _nm ρ σm hJ hoff hdep
           have e8 := look_off (N := 75) (hoff 8 rfl) rfl
           exact dp_v (v := (I s19.2.1)) wn (rv_move e8) rfl hJ) ?_
         refine ac rfl (by
           intro k _nm ρ σm hJ hoff hdep
           have e56 := hdep 18 rfl rfl 56 rfl
           have e57 := hdep 19 rfl rfl 57 rfl
           exact dp_v (v := (pt b59 o60)) wn (rv_ix Try.underlying23 ti31 e56 e57 hi58) rfl hJ) ?_
         refine ac rfl (by
           intro k _nm ρ σm hJ hoff hdep
           have e58 := hdep 20 rfl rfl 58 rfl
           exact dp_v (v := (pt b59 (o60 + 1))) wn (rv_fieldAddr (off := 1) (ft := 24) Try.underlying31 rfl ti24 rfl e58) rfl hJ) ?_
         refine all_cons (by
           refine ⟨?_, ?_⟩
           ·intro _nm ρ σm hJ hoff hdep
            have e59 := hdep 21 rfl rfl 59 rfl
            obtain ⟨H, m⟩ := id hJ
            replace hc65 := (Hs.ro 4 rfl).hmd hx57 hi58 (k := 1) (by decide) hc65 m
            exact dp_v (v := (Sl a61 x56.2.1 c62)) wn (rv_load1 Try.underlying24 rfl e59 hc65) rfl hJ
           refine ⟨?_, ?_⟩
           ·intro _nm ρ σm hJ hoff hdep
            have e59 := hdep 21 rfl rfl 59 rfl
            obtain ⟨H, m⟩ := id hJ
            replace hc65 := (Hs.ro 4 rfl).hmd hx57 hi58 (k := 1) (by decide) hc65 m
            exact dp_v (v := (Sl a61 x56.2.1 c62)) wn (rv_load1 Try.underlying24 rfl e59 hc65) rfl hJ
           trivial) ?_
         exact all_nil
        ·intro _nm ρ σ66 hJ hoff hrel
         have e0 := look_off (N := 75) (hoff 0 rfl) rfl
         have e1 := look_off (N := 75) (hoff 1 rfl) rfl
         have e7 := look_off (N := 75) (hoff 7 rfl) rfl
         have e8 := look_off (N := 75) (hoff 8 rfl) rfl
         have e9 := look_off (N := 75) (hoff 9 rfl) rfl
         have e10 := look_off (N := 75) (hoff 10 rfl) rfl
         have e49 := hrel 11 rfl 49 rfl
         have e50 := hrel 12 rfl 50 rfl
         have e55 := hrel 17 rfl 55 rfl
         have e60 := hrel 22 rfl 60 rfl
         obtain ⟨H, -⟩ := (show Hp S0 σ0 σ66 [Ch.ro 0 (Sl a61 x56.2.1 c62) x56.2.1, Ch.ro 0 (Sl a51 x46.2.1 c52) x46.2.1, Ch.ro 0 (Sl a38 x33.2.1 c39) x33.2.1, Ch.ro 0 (Sl a28 x23.2.1 c29) x23.2.1, Ch.ro 0 (Sl Aj Ai Ak) Ai] ∧ Md (cov []) σ20 σ66 from hJ)
         clear hJ Hs
         rw [fr_lookL (L := [(0, (Sl Aj Ai Ak)), (1, (I Ao)), (7, (I s19.1)), (8, (I s19.2.1)), (9, (I s15.2.2)), (10, (I s19.2.2)), (49, (I r43)), (50, (I Ao)), (55, (Sl a51 x46.2.1 c52)), (60, (Sl a61 x56.2.1 c62))]) ⟨e0, e1, e7, e8, e9, e10, e49, e50, e55, e60, trivial⟩]
         clear hoff hrel e0 e1 e7 e8 e9 e10 e49 e50 e55 e60
         revert h; refine br fun r67 hx68 h => ?_
         have hc69 := c_spec_dist (Ce := a51) (Cf := c52) (Cg := a61) (Ci := c62) hx68
         refine st_call (cx_call hc69 (ent_f hc69.fn rfl) hn0 (H.sel' [1, 0, 0, 1, 2, 3, 4] rfl rfl : Hp S0 σ0 _ ([_, _] ++ _))) wn ?_
         rintro _ σ70 ⟨_, ⟨rfl, rfl⟩, H, -⟩
         replace H : Hp _ _ _ [_, _, _, _, _] := H
         refine st (v := (B (decide (r43 < r67)))) (rv_lss (a := r43) (b := r67) rfl rfl) (w_end (q_then ?_))
         refine cd_cond (decide (r43 < r67)) rfl (fun hb71 => ?_) (fun hb71 => ?_)
         ·replace h := bif_t hb71 h
          refine c_seq (rg (sm (I s15.2.2) rfl (sa (I s15.2.2) rfl (w_end (q_then (rg (sm (I s19.2.2) rfl (sa (I s19.2.2) rfl (w_end (q_blk ?_))))))))))
          obtain rfl := sj h
          exact ⟨rfl, _, σ70, fr_join ⟨rfl, rfl, rfl, rfl, rfl, rfl, trivial⟩, rfl, H.sel' [4] rfl rfl⟩
         ·replace h := bif_f hb71 h
          refine c_skip (q_blk ?_)
          obtain rfl := sj h
          exact ⟨rfl, _, σ70, fr_join ⟨rfl, rfl, rfl, rfl, rfl, rfl, trivial⟩, rfl, H.sel' [4] rfl rfl⟩
       ·clear hj
        have h := h'
        clear h' H
        rintro e a w ⟨rfl, ρ, σ72, rfl, rfl, H⟩
        refine q_then (rg (sm (I s19.2.2) rfl (st (v := (I (w64 (s19.2.2 + 1)))) (rv_add (a := s19.2.2) (b := 1) rfl rfl) (sa (I (w64 (s19.2.2 + 1))) rfl (w_end (q_then ?_))))))
        obtain rfl := sj h
        exact ⟨_, rfl, _, σ72, fr_join ⟨rfl, rfl, rfl, rfl, rfl, rfl, trivial⟩, rfl, H.sel' [0] rfl rfl⟩
      ·replace h := bif_f hb21 h
       refine c_exit (q_then_x (q_then_x (q_blk_hit ?_)))
       obtain rfl := sj h
       obtain rfl := hres _ rfl
       exact ⟨rfl, _, σ20, fr_join ⟨rfl, rfl, rfl, rfl, rfl, trivial⟩, rfl, H.sel' [0] rfl rfl⟩
     ·clear hj
      have h := h'
      clear h' H
      rintro e a w ⟨rfl, ρ, σ73, rfl, rfl, H⟩
      refine q_blk (q_then (rg (sm (I s15.2.2) rfl (st (v := (I (w64 (s15.2.2 + 1)))) (rv_add (a := s15.2.2) (b := 1) rfl rfl) (sa (I (w64 (s15.2.2 + 1))) rfl (w_end (q_then ?_)))))))
      obtain rfl := sj h
      exact ⟨_, rfl, _, σ73, fr_join ⟨rfl, rfl, rfl, rfl, rfl, trivial⟩, rfl, H.sel' [0] rfl rfl⟩
    ·replace h := bif_f hb17 h
     refine c_exit (q_then_x (q_then_x (q_blk_hit ?_)))
     obtain rfl := sj h
     obtain rfl := hres _ rfl
     exact ⟨rfl, _, σ16, fr_join ⟨rfl, rfl, rfl, trivial⟩, rfl, H.sel' [0] rfl rfl⟩
   ·clear hj
    have h := h'
    clear h' H
    rintro e a w ⟨rfl, ρ, σ74, rfl, rfl, H⟩
    refine q_then (c_seq ?_)
    refine rgP (σ := σ74) 11 (by kernel_rfl) (by kernel_rfl) (by kernel_rfl) ?_
    refine sq (v := (Sl Aj Ai Ak)) (rv_move rfl) (sq (v := (I o14.1)) (rv_move rfl) ?_)
    revert h; refine br fun x75 hx76 h => ?_
    obtain ⟨b78, o79, hi77, -⟩ := (H.ro 0 rfl).ix hx76
    refine sq (v := (pt b78 o79)) (rv_ix Try.underlying23 ti31 rfl rfl hi77) (sq (v := (pt b78 (o79 + 0))) (rv_fieldAddr (off := 0) (ft := 3) Try.underlying31 rfl ti3 rfl rfl) ?_)
    have hc80 := ((H.ro 0 rfl).at hx76 hi77).fst.int
    refine sq (v := (I x75.1)) (rv_load1 Try.underlying3 rfl rfl hc80) (sq (v := (Sl Aj Ai Ak)) (rv_move rfl) (sq (v := (I o14.2)) (rv_move rfl) ?_))
    revert h; refine br fun x81 hx82 h => ?_
    obtain ⟨b84, o85, hi83, -⟩ := (H.ro 0 rfl).ix hx82
    refine sq (v := (pt b84 o85)) (rv_ix Try.underlying23 ti31 rfl rfl hi83) (sq (v := (pt b84 (o85 + 0))) (rv_fieldAddr (off := 0) (ft := 3) Try.underlying31 rfl ti3 rfl rfl) ?_)
    have hc86 := ((H.ro 0 rfl).at hx82 hi83).fst.int
    refine sq (v := (I x81.1)) (rv_load1 Try.underlying3 rfl rfl hc86) (sq (v := (I x75.1)) (rv_assign rfl) (sq_end ?_))
    intro σ87 hm88
    replace H := H.grow (hm88.mono fun _ h => h); clear hm88
    refine sa (I x81.1) rfl (sa (B true) rfl (w_end (q_then (c_ret ?_))))
    obtain rfl := sj h
    exact fin_ret (v := (.tuple #[(I x75.1), (I x81.1), (B true)])) (results_ok Try.results30 (res_tmp (v := (I x75.1)) rfl (res_tmp (v := (I x81.1)) rfl (res_tmp (v := (B true)) rfl res_nil))) rfl) ⟨rfl, rfl⟩ (H.sel' [] rfl rfl)

theorem c_laws_itemOf {Ai : List (Int × (List Int) × Int)} {Ee : Int} {Aj : Option Addr} {Ak : Nat} {r : (Int × (List Int) × Int)} (h : M.laws_itemOf Ai Ee = some r) :
    Cal2 Try.prog 31 [(Sl Aj Ai Ak), (I Ee)] [Ch.ro 0 (Sl Aj Ai Ak) Ai] (fun n0 v L => ∃ (az1 : Option Addr), ∃ (cz2 : Nat), v = (.agg #[(I r.1), (Sl az1 r.2.1 cz2), (I r.2.2)]) ∧ L = [Ch.ro 0 (Sl az1 r.2.1 cz2) r.2.1]) := by
 refine cal2 (n := 24) Try.func31 rfl rfl rfl rfl ?_
 intro S0 σ0 n0 hn0 H
 unfold M.laws_itemOf at h
 refine c_seq (rg (st_ex (ex_alloc (cs := [(I 0), (.slice none 0 0), (I 0)]) H hn0 ti31 rfl) wn ?_))
 rintro _ σ2 ⟨b1, rfl, H, -⟩
 refine w_end (q_then (c_seq (c_seq (rg (sa (I 0) rfl (w_end (q_then ?_)))))))
 obtain ⟨o3, hj, h'⟩ := bind_some h
 clear h
 refine c_cut (fun e a w => (∃ t, o3 = (.inl t) ∧ e = .normal ∧ ∃ (ρ : Nat → Value) (σ : St), a = fr 24 (updL ρ [(4, (pt b1 0))]) ∧ w = σ.w ∧ Hp S0 σ0 σ [Ch.bx n0 b1 0 [(I 0), (.slice none 0 0), (I 0)] [] []]) ∨ (∃ t, o3 = (.inr t) ∧ e = .ret ∧ ∃ (ρ : Nat → Value) (σ : St) (aj1 : Option Addr) (cj2 : Nat), a = fr 24 (updL ρ [(4, (pt b1 0))]) ∧ w = σ.w ∧ Hp S0 σ0 σ [Ch.bx n0 b1 0 [(I t.1), (Sl aj1 t.2.1 cj2), (I t.2.2)] [] [], Ch.ro 0 (Sl aj1 t.2.1 cj2) t.2.1])) ?_ ?_
 ·clear h'
  rename _ = some o3 => h
  refine c_blk (wp_loopM _ h (fun s4 a w => ∃ (ρ : Nat → Value) (σ : St), a = fr 24 (updL ρ [(0, (Sl Aj Ai Ak)), (1, (I Ee)), (4, (pt b1 0)), (5, (I s4))]) ∧ w = σ.w ∧ Hp S0 σ0 σ [Ch.ro 0 (Sl Aj Ai Ak) Ai, Ch.bx n0 b1 0 [(I 0), (.slice none 0 0), (I 0)] [] []]) ⟨_, σ2, fr_join ⟨rfl, rfl, rfl, rfl, trivial⟩, rfl, H.sel' [1, 0] rfl rfl⟩ ?_)
  clear h H
  rintro s4 a w o ⟨ρ, σ5, rfl, rfl, H⟩ h hres
  refine c_seq (c_seq (rg (sm (I s4) rfl (sm (Sl Aj Ai Ak) rfl (st (v := (I (Ai.length : Int))) (rv_len Try.underlying23 rfl) (st (v := (B (decide (s4 < (Ai.length : Int))))) (rv_lss (a := s4) (b := (Ai.length : Int)) rfl rfl) (w_end (q_then ?_))))))))
  refine cd_cond (decide (s4 < (Ai.length : Int))) rfl (fun hb6 => ?_) (fun hb6 => ?_)
  ·replace h := bif_t hb6 h
   refine c_skip (q_then (c_seq (c_blk (c_seq (rg (sm (Sl Aj Ai Ak) rfl (sm (I s4) rfl ?_)))))))
   revert h; refine br fun x7 hx8 h => ?_
   obtain ⟨b10, o11, hi9, -⟩ := (H.ro 0 rfl).ix hx8
   refine st (v := (pt b10 o11)) (rv_ix Try.underlying23 ti31 rfl rfl hi9) (st (v := (pt b10 (o11 + 0))) (rv_fieldAddr (off := 0) (ft := 3) Try.underlying31 rfl ti3 rfl rfl) ?_)
   have hc12 := ((H.ro 0 rfl).at hx8 hi9).fst.int
   refine st (v := (I x7.1)) (rv_load1 Try.underlying3 rfl rfl hc12) (sm (I Ee) rfl (st (v := (B (x7.1 == Ee))) (rv_eql (a := x7.1) (b := Ee) rfl rfl) (w_end (q_then ?_))))
   refine cd_cond (x7.1 == Ee) rfl (fun hb13 => ?_) (fun hb13 => ?_)
   ·replace h := bif_t hb13 h
    refine c_seq (rg (sm (Sl Aj Ai Ak) rfl (sm (I s4) rfl ?_)))
    revert h; refine br fun x14 hx15 h => ?_
    obtain ⟨b17, o18, hi16, -⟩ := (H.ro 0 rfl).ix hx15
    refine st (v := (pt b17 o18)) (rv_ix Try.underlying23 ti31 rfl rfl hi16) ?_
    obtain ⟨_, ⟨_, _, rfl, rfl, ⟨_, _, rfl, ⟨_, rfl, hR23⟩, rfl⟩⟩, hl19, hc20⟩ := ((H.ro 0 rfl).at hx15 hi16).cells
    obtain ⟨a21, c22, rfl⟩ := hR23.isSl
    replace H := H.add (d := Ch.ro 0 (Sl a21 x14.2.1 c22) x14.2.1) hR23 (fun _ h => h)
    clear hR23
    refine st (v := (.agg #[(I x14.1), (Sl a21 x14.2.1 c22), (I x14.2.2)])) (rv_load Try.underlying31 rfl ti31 rfl hl19 hc20) ?_
    refine st_exS (ex_store_box (k := 0) (cs := [(I 0), (.slice none 0 0), (I 0)]) (vs := [(I x14.1), (Sl a21 x14.2.1 c22), (I x14.2.2)]) (cs' := [(I x14.1), (Sl a21 x14.2.1 c22), (I x14.2.2)]) H (i := 2) rfl ti31 rfl rfl rfl rfl rfl (Nat.le_of_ble_eq_true rfl) (by simp [plain]) rfl) wn ?_
    rintro σ24 ⟨H, -⟩
    refine w_end (q_then (c_ret (q_blk_r (q_then_r (q_then_r (q_blk_r ?_))))))
    obtain rfl := sj h
    obtain rfl := hres _ rfl
    exact .inr (⟨_, rfl, rfl, _, σ24, a21, c22, fr_join ⟨rfl, trivial⟩, rfl, H.sel' [0, 1] rfl rfl⟩)
   ·replace h := bif_f hb13 h
    refine c_skip (q_blk (q_then (rg (sm (I s4) rfl (st (v := (I (w64 (s4 + 1)))) (rv_add (a := s4) (b := 1) rfl rfl) (sa (I (w64 (s4 + 1))) rfl (w_end (q_then ?_))))))))
    obtain rfl := sj h
    exact ⟨_, rfl, _, σ5, fr_join ⟨rfl, rfl, rfl, rfl, trivial⟩, rfl, H.sel' [0, 1] rfl rfl⟩
  ·replace h := bif_f hb6 h
   refine c_exit (q_then_x (q_then_x (q_blk_hit ?_)))
   obtain rfl := sj h
   obtain rfl := hres _ rfl
   exact .inl ⟨_, rfl, rfl, _, σ5, fr_join ⟨rfl, trivial⟩, rfl, H.sel' [1] rfl rfl⟩
 ·clear hj
  have h := h'
  clear h' H
  rintro e a w (⟨t25, rfl, rfl, ρ, σ26, rfl, rfl, H⟩ | ⟨t28, rfl, rfl, ρ, σ29, a30, c31, rfl, rfl, H⟩)
  ·replace h := selim_l h
   refine q_then (c_seq (rg ?_))
   refine st (v := (.agg #[(I 0), (.slice none 0 0), (I 0)])) (rv_build (ps := []) Try.underlying31 ti31 (bp31 Try.underlying31) rfl (by kernel_rfl)) ?_
   refine st_exS (ex_store_box (k := 0) (cs := [(I 0), (.slice none 0 0), (I 0)]) (vs := [(I 0), (.slice none 0 0), (I 0)]) (cs' := [(I 0), (.slice none 0 0), (I 0)]) H (i := 0) rfl ti31 rfl rfl rfl rfl rfl (Nat.le_of_ble_eq_true rfl) (by simp [plain]) rfl) wn ?_
   rintro σ27 ⟨H, -⟩
   refine w_end (q_then (c_ret ?_))
   replace H := H.nilRo Int 0
   obtain rfl := sj h
   exact fin_ret (v := (.agg #[(I 0), (.slice none 0 0), (I 0)])) (results_ok Try.results31 (res_cell rfl (run_cellRes (cs := [(I 0), (.slice none 0 0), (I 0)]) Try.underlying31 rfl ti31 rfl (H.cells 1 rfl)) res_nil) rfl) ⟨none, 0, rfl, rfl⟩ (H.sel' [0] rfl rfl)
  ·replace h := selim_r h
   refine q_then_r ?_
   obtain rfl := sj h
   exact fin_ret (v := (.agg #[(I t28.1), (Sl a30 t28.2.1 c31), (I t28.2.2)])) (results_ok Try.results31 (res_cell rfl (run_cellRes (cs := [(I t28.1), (Sl a30 t28.2.1 c31), (I t28.2.2)]) Try.underlying31 rfl ti31 rfl (H.cells 0 rfl)) res_nil) rfl) ⟨a30, c31, rfl, rfl⟩ (H.sel' [1] rfl rfl)

theorem c_impl_placeOf_1 {Af : Int × (List Int) × Int} {Ee : Int} {Ag : Option Addr} {Ah : Nat} {r : Int} (h : M.impl_placeOf_1 Af Ee = some r) :
    Cal2 Try.prog 90 [(.agg #[(I Af.1), (Sl Ag Af.2.1 Ah), (I Af.2.2)]), (I Ee)] [Ch.ro 0 (Sl Ag Af.2.1 Ah) Af.2.1] (fun n0 v L => v = (I r) ∧ L = []) := by
 refine cal2 (n := 9) Try.func90 rfl rfl rfl rfl ?_
 intro S0 σ0 n0 hn0 H
 unfold M.impl_placeOf_1 at h
 refine c_seq (rg (st_ex (ex_box (cs := [(I Af.1), (Sl Ag Af.2.1 Ah), (I Af.2.2)]) H hn0 rfl rfl) wn ?_))
 rintro _ σ2 ⟨b1, rfl, H, -⟩
 refine sa (I 0) rfl (w_end (q_then (c_seq (rg (st (v := (pt b1 0)) (rv_fieldAddr (off := 0) (ft := 3) Try.underlying31 rfl ti3 rfl rfl) ?_)))))
 have hc3 := H.cell (u := (I Af.1)) (o' := 0) 0 0 rfl rfl rfl
 refine st (v := (I Af.1)) (rv_load1 Try.underlying3 rfl rfl hc3) (sm (I Ee) rfl ?_)
 revert h; refine br fun r4 hx5 h => ?_
 have hc6 := c_cmp_Compare_int hx5
 refine st_call (cx_call hc6 (ent_f hc6.fn rfl) hn0 (H.sel' [0, 1] rfl rfl : Hp S0 σ0 _ ([] ++ _))) wn ?_
 rintro _ σ7 ⟨_, ⟨rfl, rfl⟩, H, -⟩
 replace H : Hp _ _ _ [_, _] := H
 refine sa (I r4) rfl (w_end (q_then (c_ret ?_)))
 obtain rfl := sj h
 exact fin_ret (v := (I r4)) (results_ok Try.results90 (res_tmp (v := (I r4)) rfl res_nil) rfl) ⟨rfl, rfl⟩ (H.sel' [] rfl rfl)

theorem c_slices_BinarySearchFunc_impl_Item_impl_Item_int__impl_placeOf_1 {Af : List (Int × (List Int) × Int)} {Ef : Int} {Dn : Option Addr} {Do : Nat} {r : Int × Bool} (h : M.slices_BinarySearchFunc_impl_Item_impl_Item_int__impl_placeOf_1 Af Ef = some r) :
    Cal2 Try.prog 89 [(Sl Dn Af Do), (I Ef), (.func (.func 90) #[] #[])] [Ch.ro 0 (Sl Dn Af Do) Af] (fun n0 v L => v = (.tuple #[(I r.1), (B r.2)]) ∧ L = []) := by
 refine cal2 (n := 49) Try.func89 rfl rfl rfl rfl ?_
 intro S0 σ0 n0 hn0 H
 unfold M.slices_BinarySearchFunc_impl_Item_impl_Item_int__impl_placeOf_1 at h
 refine c_seq (rg (sa (I 0) rfl (sa (B false) rfl (w_end (q_then (c_seq (rg (sm (Sl Dn Af Do) rfl (st (v := (I (Af.length : Int))) (rv_len Try.underlying23 rfl) (sa (I (Af.length : Int)) rfl (w_end ?_)))))))))))
 refine q_then (c_seq (rg (sm (I (Af.length : Int)) rfl (sa (I 0) rfl (sa (I (Af.length : Int)) rfl (w_end (q_then (c_seq ?_))))))))
 obtain ⟨o1, hj, h'⟩ := bind_some h
 clear h
 refine c_cut (fun e a w => e = .normal ∧ ∃ (ρ : Nat → Value) (σ : St), a = fr 49 (updL ρ [(0, (Sl Dn Af Do)), (1, (I Ef)), (2, (.func (.func 90) #[] #[])), (8, (I (Af.length : Int))), (9, (I o1))]) ∧ w = σ.w ∧ Hp S0 σ0 σ [Ch.ro 0 (Sl Dn Af Do) Af]) ?_ ?_
 ·clear h'
  rename _ = some o1 => h
  refine c_blk (wp_loopM _ h (fun s2 a w => ∃ (ρ : Nat → Value) (σ : St), a = fr 49 (updL ρ [(0, (Sl Dn Af Do)), (1, (I Ef)), (2, (.func (.func 90) #[] #[])), (8, (I (Af.length : Int))), (9, (I s2.1)), (10, (I s2.2))]) ∧ w = σ.w ∧ Hp S0 σ0 σ [Ch.ro 0 (Sl Dn Af Do) Af]) ⟨_, σ0, fr_join ⟨rfl, rfl, rfl, rfl, rfl, rfl, trivial⟩, rfl, H.sel' [0] rfl rfl⟩ ?_)
  clear h H
  rintro s2 a w o ⟨ρ, σ3, rfl, rfl, H⟩ h hres
  refine c_seq (c_seq (rg (sm (I s2.1) rfl (sm (I s2.2) rfl (st (v := (B (decide (s2.1 < s2.2)))) (rv_lss (a := s2.1) (b := s2.2) rfl rfl) (w_end (q_then ?_)))))))
  refine cd_cond (decide (s2.1 < s2.2)) rfl (fun hb4 => ?_) (fun hb4 => ?_)
  ·replace h := bif_t hb4 h
   refine c_skip (q_then (c_blk (c_seq (rg (sm (I s2.1) rfl (sm (I s2.2) rfl (st (v := (I (w64 (s2.1 + s2.2)))) (rv_add (a := s2.1) (b := s2.2) rfl rfl) (st (v := (.int .u64 (wk .u64 (w64 (s2.1 + s2.2))))) (rvk_conv (k := .i64) (k' := .u64) (a := (w64 (s2.1 + s2.2))) Try.underlying3 Try.underlying120 rfl) ?_))))))))
   refine st (v := (.int .u64 (gshr .u64 (wk .u64 (w64 (s2.1 + s2.2))) 1))) (rvk_shr (k := .u64) (k' := .u64) (a := (wk .u64 (w64 (s2.1 + s2.2)))) (b := 1) rfl rfl (by decide)) ?_
   refine st (v := (I (wk .i64 (gshr .u64 (wk .u64 (w64 (s2.1 + s2.2))) 1)))) (rvk_conv (k := .u64) (k' := .i64) (a := (gshr .u64 (wk .u64 (w64 (s2.1 + s2.2))) 1)) Try.underlying120 Try.underlying3 rfl) (sa (I (wk .i64 (gshr .u64 (wk .u64 (w64 (s2.1 + s2.2))) 1))) rfl (w_end (q_then (c_seq (rg (sm (.func (.func 90) #[] #[]) rfl (sm (Sl Dn Af Do) rfl (sm (I (wk .i64 (gshr .u64 (wk .u64 (w64 (s2.1 + s2.2))) 1))) rfl ?_))))))))
   revert h; refine br fun x5 hx6 h => ?_
   obtain ⟨b8, o9, hi7, -⟩ := (H.ro 0 rfl).ix hx6
   refine st (v := (pt b8 o9)) (rv_ix Try.underlying23 ti31 rfl rfl hi7) ?_
   obtain ⟨_, ⟨_, _, rfl, rfl, ⟨_, _, rfl, ⟨_, rfl, hR14⟩, rfl⟩⟩, hl10, hc11⟩ := ((H.ro 0 rfl).at hx6 hi7).cells
   obtain ⟨a12, c13, rfl⟩ := hR14.isSl
   replace H := H.add (d := Ch.ro 0 (Sl a12 x5.2.1 c13) x5.2.1) hR14 (fun _ h => h)
   clear hR14
   refine st (v := (.agg #[(I x5.1), (Sl a12 x5.2.1 c13), (I x5.2.2)])) (rv_load Try.underlying31 rfl ti31 rfl hl10 hc11) (sm (I Ef) rfl ?_)
   revert h; refine br fun r15 hx16 h => ?_
   have hc17 := c_impl_placeOf_1 (Ag := a12) (Ah := c13) hx16
   refine st_call (cx_call hc17 (ent_v (cap := []) hc17.fn rfl rfl) hn0 (H.sel' [0, 0, 1] rfl rfl : Hp S0 σ0 _ ([_] ++ _))) wn ?_
   rintro _ σ18 ⟨_, ⟨rfl, rfl⟩, H, -⟩
   replace H : Hp _ _ _ [_, _] := H
   refine st (v := (B (decide (r15 < 0)))) (rv_lss (a := r15) (b := 0) rfl rfl) (w_end (q_then ?_))
   refine cd_cond (decide (r15 < 0)) rfl (fun hb19 => ?_) (fun hb19 => ?_)
   ·replace h := bif_t hb19 h
    refine rg (sm (I (wk .i64 (gshr .u64 (wk .u64 (w64 (s2.1 + s2.2))) 1))) rfl (st (v := (I (w64 ((wk .i64 (gshr .u64 (wk .u64 (w64 (s2.1 + s2.2))) 1)) + 1)))) (rv_add (a := (wk .i64 (gshr .u64 (wk .u64 (w64 (s2.1 + s2.2))) 1))) (b := 1) rfl rfl) (sa (I (w64 ((wk .i64 (gshr .u64 (wk .u64 (w64 (s2.1 + s2.2))) 1)) + 1))) rfl (w_end (q_blk (q_then ?_))))))
    obtain rfl := sj h
    exact ⟨_, rfl, _, σ18, fr_join ⟨rfl, rfl, rfl, rfl, rfl, rfl, trivial⟩, rfl, H.sel' [1] rfl rfl⟩
   ·replace h := bif_f hb19 h
    refine rg (sm (I (wk .i64 (gshr .u64 (wk .u64 (w64 (s2.1 + s2.2))) 1))) rfl (sa (I (wk .i64 (gshr .u64 (wk .u64 (w64 (s2.1 + s2.2))) 1))) rfl (w_end (q_blk (q_then ?_)))))
    obtain rfl := sj h
    exact ⟨_, rfl, _, σ18, fr_join ⟨rfl, rfl, rfl, rfl, rfl, rfl, trivial⟩, rfl, H.sel' [1] rfl rfl⟩
  ·replace h := bif_f hb4 h
   refine c_exit (q_then_x (q_then_x (q_blk_hit ?_)))
   obtain rfl := sj h
   obtain rfl := hres _ rfl
   exact ⟨rfl, _, σ3, fr_join ⟨rfl, rfl, rfl, rfl, rfl, trivial⟩, rfl, H.sel' [0] rfl rfl⟩
 ·clear hj
  have h := h'
  clear h' H
  rintro e a w ⟨rfl, ρ, σ20, rfl, rfl, H⟩
  refine q_then (c_seq (rg (sm (I o1) rfl (sm (I o1) rfl (sm (I (Af.length : Int)) rfl (st (v := (B (decide (o1 < (Af.length : Int))))) (rv_lss (a := o1) (b := (Af.length : Int)) rfl rfl) (sm (B (decide (o1 < (Af.length : Int)))) rfl ?_)))))))
  rcases Bool.eq_false_or_eq_true (decide (o1 < (Af.length : Int))) with hb21 | hb21
  ·replace h := bif_t hb21 h
   refine st_g (v := (.func (.func 90) #[] #[])) (congrArg some hb21) (rv_move rfl) (st_g (v := (Sl Dn Af Do)) (congrArg some hb21) (rv_move rfl) (st_g (v := (I o1)) (congrArg some hb21) (rv_move rfl) ?_))
   revert h; refine br fun x22 hx23 h => ?_
   obtain ⟨b25, o26, hi24, -⟩ := (H.ro 0 rfl).ix hx23
   refine st_g (v := (pt b25 o26)) (congrArg some hb21) (rv_ix Try.underlying23 ti31 rfl rfl hi24) ?_
   obtain ⟨_, ⟨_, _, rfl, rfl, ⟨_, _, rfl, ⟨_, rfl, hR31⟩, rfl⟩⟩, hl27, hc28⟩ := ((H.ro 0 rfl).at hx23 hi24).cells
   obtain ⟨a29, c30, rfl⟩ := hR31.isSl
   replace H := H.add (d := Ch.ro 0 (Sl a29 x22.2.1 c30) x22.2.1) hR31 (fun _ h => h)
   clear hR31
   refine st_g (v := (.agg #[(I x22.1), (Sl a29 x22.2.1 c30), (I x22.2.2)])) (congrArg some hb21) (rv_load Try.underlying31 rfl ti31 rfl hl27 hc28) (st_g (v := (I Ef)) (congrArg some hb21) (rv_move rfl) ?_)
   revert h; refine br fun r32 hx33 h => ?_
   have hc34 := c_impl_placeOf_1 (Ag := a29) (Ah := c30) hx33
   refine st_call (cx_call hc34 (ent_v (cap := []) hc34.fn rfl rfl) hn0 (H.sel' [0, 0, 1] rfl rfl : Hp S0 σ0 _ ([_] ++ _))) (wanted_yes rfl (by exact (congrArg some hb21))) ?_
   rintro _ σ35 ⟨_, ⟨rfl, rfl⟩, H, -⟩
   replace H : Hp _ _ _ [_, _] := H
   refine st_g (v := (B (r32 == 0))) (congrArg some hb21) (rv_eql (a := r32) (b := 0) rfl rfl) (st (v := (B (r32 == 0))) (rv_pick_t (congrArg B hb21) rfl) (sa (I o1) rfl (sa (B (r32 == 0)) rfl (w_end (q_then (c_ret ?_))))))
   obtain rfl := sj h
   exact fin_ret (v := (.tuple #[(I o1), (B (r32 == 0))])) (results_ok Try.results89 (res_tmp (v := (I o1)) rfl (res_tmp (v := (B (r32 == 0))) rfl res_nil)) rfl) ⟨rfl, rfl⟩ (H.sel' [] rfl rfl)
  ·replace h := bif_f hb21 h
   refine st_skip (congrArg some hb21) (st_skip (congrArg some hb21) (st_skip (congrArg some hb21) (st_skip (congrArg some hb21) (st_skip (congrArg some hb21) (st_skip (congrArg some hb21) (st_skip (congrArg some hb21) (st_skip (congrArg some hb21) (st (v := (B false)) (rv_pick_f (congrArg B hb21) rfl) (sa (I o1) rfl (sa (B false) rfl (w_end ?_)))))))))))
   refine q_then (c_ret ?_)
   obtain rfl := sj h
   exact fin_ret (v := (.tuple #[(I o1), (B false)])) (results_ok Try.results89 (res_tmp (v := (I o1)) rfl (res_tmp (v := (B false)) rfl res_nil)) rfl) ⟨rfl, rfl⟩ (H.sel' [] rfl rfl)

theorem c_impl_placeOf {Ai : List (Int × (List Int) × Int)} {Ee : Int} {Aj : Option Addr} {Ak : Nat} {r : Int × Bool} (h : M.impl_placeOf Ai Ee = some r) :
    Cal2 Try.prog 60 [(Sl Aj Ai Ak), (I Ee)] [Ch.ro 0 (Sl Aj Ai Ak) Ai] (fun n0 v L => v = (.tuple #[(I r.1), (B r.2)]) ∧ L = []) := by
 refine cal2 (n := 11) Try.func60 rfl rfl rfl rfl ?_
 intro S0 σ0 n0 hn0 H
 unfold M.impl_placeOf at h
 refine c_seq (rg (sa (I 0) rfl (sa (B false) rfl (w_end (q_then (c_seq (rg (sm (Sl Aj Ai Ak) rfl (sm (I Ee) rfl ?_)))))))))
 revert h; refine br fun r1 hx2 h => ?_
 have hc3 := c_slices_BinarySearchFunc_impl_Item_impl_Item_int__impl_placeOf_1 (Dn := Aj) (Do := Ak) hx2
 refine st_call (cx_call hc3 (ent_f hc3.fn rfl) hn0 (H.sel' [0, 0] rfl rfl : Hp S0 σ0 _ ([_] ++ _))) wn ?_
 rintro _ σ4 ⟨_, ⟨rfl, rfl⟩, H, -⟩
 replace H : Hp _ _ _ [_] := H
 refine st (v := (I r1.1)) (rv_extract rfl rfl) (st (v := (B r1.2)) (rv_extract rfl rfl) (sa (I r1.1) rfl (sa (B r1.2) rfl (w_end (q_then (c_ret ?_))))))
 obtain rfl := sj h
 exact fin_ret (v := (.tuple #[(I r1.1), (B r1.2)])) (results_ok Try.results60 (res_tmp (v := (I r1.1)) rfl (res_tmp (v := (B r1.2)) rfl res_nil)) rfl) ⟨rfl, rfl⟩ (H.sel' [] rfl rfl)

theorem c_slices_Delete_impl_Item_impl_Item {Cr : List (Int × (List Int) × Int)} {Bj : Int} {Bk : Int} {Cs : Option Addr} {Ct : Nat} {r : (List (Int × (List Int) × Int))} (h : M.slices_Delete_impl_Item_impl_Item Cr Bj Bk = some r) :
    Cal2 Try.prog 73 [(Sl Cs Cr Ct), (I Bj), (I Bk)] [Ch.own 0 0 (Sl Cs Cr Ct) Cr] (fun n0 v L => ∃ (az1 : Option Addr), ∃ (cz2 : Nat), v = (Sl az1 r cz2) ∧ L = [Ch.own 0 0 (Sl az1 r cz2) r]) := by
 refine cal2 (n := 33) Try.func73 rfl rfl rfl rfl ?_
 intro S0 σ0 n0 hn0 H
 unfold M.slices_Delete_impl_Item_impl_Item at h
 refine c_seq (rg (sa (.slice none 0 0) rfl (w_end (q_then (c_seq (rg (sm (Sl Cs Cr Ct) rfl (sm (I Bj) rfl (sm (I Bk) rfl (sm (Sl Cs Cr Ct) rfl (st (v := (I (Cr.length : Int))) (rv_len Try.underlying23 rfl) ?_)))))))))))
 revert h; refine br fun o1 hx2 h => ?_
 refine st (v := (.slice (if ((Cr.length : Int)).toNat = (Bj).toNat then Cs else (Cs).map (·.add ((Bj).toNat * 3))) ((Bk).toNat - (Bj).toNat) (((Cr.length : Int)).toNat - (Bj).toNat))) (rv_slice3 Try.underlying23 ti31 hx2 (H.own 0 rfl).cap rfl rfl rfl rfl) (w_end (q_then (c_seq (c_seq (rg (sm (I Bj) rfl (sm (I Bk) rfl (st (v := (B (Bj == Bk))) (rv_eql (a := Bj) (b := Bk) rfl rfl) (w_end (q_then ?_))))))))))
 refine cd_cond (Bj == Bk) rfl (fun hb3 => ?_) (fun hb3 => ?_)
 ·replace h := bif_t hb3 h
  refine c_seq (rg (sm (Sl Cs Cr Ct) rfl (sa (Sl Cs Cr Ct) rfl (w_end (q_then (c_ret (q_then_r ?_)))))))
  obtain rfl := sj h
  exact fin_ret (v := (Sl Cs Cr Ct)) (results_ok Try.results73 (res_tmp (v := (Sl Cs Cr Ct)) rfl res_nil) rfl) ⟨Cs, Ct, rfl, rfl⟩ (H.sel' [0] rfl rfl)
 ·replace h := bif_f hb3 h
  refine c_skip (q_then (c_seq (rg (sm (Sl Cs Cr Ct) rfl (st (v := (I (Cr.length : Int))) (rv_len Try.underlying23 rfl) (sa (I (Cr.length : Int)) rfl (w_end (q_then (c_seq ?_)))))))))
  refine rgP (σ := σ0) 6 (by kernel_rfl) (by kernel_rfl) (by kernel_rfl) ?_
  refine sq (v := (Sl Cs Cr Ct)) (rv_move rfl) (sq (v := (I Bj)) (rv_move rfl) ?_)
  revert h; refine br fun xs4 hx5 h => ?_
  obtain ⟨a6, c7, hs8, -⟩ := (H.own 0 rfl).slice hx5
  refine sq (v := (Sl a6 xs4 c7)) (rv_slice_h Try.underlying23 ti31 hs8 rfl rfl) (sq (v := (Sl Cs Cr Ct)) (rv_move rfl) (sq (v := (I Bk)) (rv_move rfl) ?_))
  revert h; refine br fun xs10 hx11 h => ?_
  obtain ⟨a12, c13, hs14, -⟩ := (H.own 0 rfl).slice hx11
  refine sq (v := (Sl a12 xs10 c13)) (rv_slice_l Try.underlying23 ti31 hs14 rfl rfl) (sq_end ?_)
  intro σ16 hm17
  replace H := H.grow (hm17.mono fun _ h => h); clear hm17
  revert h; refine br fun xs18 hx19 h => ?_
  refine st_ex (ex_appV H (i := 0) rfl Try.underlying23 Try.underlying23 ti31 rfl rfl (by decide) hx5 hs8 ((H.own 0 rfl).view hx11 hs14).1.rd hx19 (Nat.zero_le _) rfl rfl) wn ?_
  rintro _ σ23 ⟨a20, c21, rfl, H, -, hf22⟩
  refine sa (Sl a20 xs18 c21) rfl (w_end (q_then (c_seq (rg (sm (Sl a20 xs18 c21) rfl (sm (Sl a20 xs18 c21) rfl (st (v := (I (xs18.length : Int))) (rv_len Try.underlying23 rfl) (sm (I (Cr.length : Int)) rfl ?_))))))))
  have hd30 := del_room hx5 hx11 (gthree_some hx2).2.1 hx19 hs8 hf22
  refine st (v := (.slice (if c21 = xs18.length then a20 else (a20).map (·.add (xs18.length * 3))) (Cr.length - xs18.length) (c21 - xs18.length))) (rv_sliceX (m0 := xs18.length) (k0 := Cr.length) Try.underlying23 ti31 hd30.1 hd30.2 rfl rfl rfl) ?_
  refine st_ex0 (ex_clearX (k0 := Cr.length) H (i := 0) rfl Try.underlying23 ti31 rfl rfl (by simp [plain, Value.cells]) hd30.1 hd30.2 rfl) wn ?_
  rintro _ σ31 ⟨rfl, H, -⟩
  refine w_end (q_then (c_seq (rg (sm (Sl a20 xs18 c21) rfl (sa (Sl a20 xs18 c21) rfl (w_end (q_then (c_ret ?_))))))))
  obtain rfl := sj h
  exact fin_ret (v := (Sl a20 xs18 c21)) (results_ok Try.results73 (res_tmp (v := (Sl a20 xs18 c21)) rfl res_nil) rfl) ⟨a20, c21, rfl, rfl⟩ (H.sel' [0] rfl rfl)

theorem c_slices_Clone_int_int {Cr : List Int} {Cs : Option Addr} {Ct : Nat} {r : (List Int)} (h : M.slices_Clone_int_int Cr = some r) :
    Cal2 Try.prog 92 [(Sl Cs Cr Ct)] [Ch.ro 0 (Sl Cs Cr Ct) Cr] (fun n0 v L => ∃ (az1 : Option Addr), ∃ (cz2 : Nat), v = (Sl az1 r cz2) ∧ L = [Ch.own n0 n0 (Sl az1 r cz2) r]) := by
 refine cal2 (n := 8) Try.func92 rfl rfl rfl rfl ?_
 intro S0 σ0 n0 hn0 H
 unfold M.slices_Clone_int_int at h
 refine c_seq (rg (sa (.slice none 0 0) rfl (w_end (q_then (c_seq (c_seq (rg (sm (Sl Cs Cr Ct) rfl (st (v := (B Cs.isNone)) (rv_nilS Try.underlying24 rfl rfl) (w_end (q_then ?_)))))))))))
 refine cd_cond Cs.isNone rfl (fun hb1 => ?_) (fun hb1 => ?_)
 ·have hq := RS.nilOf hb1 (H.ro 0 rfl)
  subst hq
  replace h : some [] = some r := by simpa [gapp] using h
  refine c_seq (rg (sa (.slice none 0 0) rfl (w_end (q_then (c_ret (q_then_r ?_))))))
  replace H := H.nilOwn Int n0 n0
  obtain rfl := sj h
  exact fin_ret (v := (.slice none 0 0)) (results_ok Try.results92 (res_tmp (v := (.slice none 0 0)) rfl res_nil) rfl) ⟨none, 0, rfl, rfl⟩ (H.sel' [0] rfl rfl)
 ·refine c_skip ?_
  refine q_then (c_seq (rg ?_))
  refine st_ex (ex_buildSlice (el := n0) (xs := ([] : List Int)) (ps := []) (cs := []) H hn0 Try.underlying24 ti3 rfl rfl (by kernel_rfl) (.nil) rfl) wn ?_
  rintro _ σ3 ⟨b2, rfl, H, -⟩
  refine sm (Sl Cs Cr Ct) rfl ?_
  revert h; refine br fun xs4 hx5 h => ?_
  refine st_ex (ex_append H (i := 0) rfl Try.underlying24 Try.underlying24 ti3 rfl rfl (by decide) ((H.ro 1 rfl).rd.sc) hx5 hn0 rfl rfl) wn ?_
  rintro _ σ8 ⟨a6, c7, rfl, H, -⟩
  refine sa (Sl a6 xs4 c7) rfl (w_end (q_then (c_ret ?_)))
  obtain rfl := sj h
  exact fin_ret (v := (Sl a6 xs4 c7)) (results_ok Try.results92 (res_tmp (v := (Sl a6 xs4 c7)) rfl res_nil) rfl) ⟨a6, c7, rfl, rfl⟩ (H.sel' [0] rfl rfl)

theorem c_impl_copyItem {Af : Int × (List Int) × Int} {Ag : Option Addr} {Ah : Nat} {r : (Int × (List Int) × Int)} (h : M.impl_copyItem Af = some r) :
    Cal2 Try.prog 61 [(.agg #[(I Af.1), (Sl Ag Af.2.1 Ah), (I Af.2.2)])] [Ch.ro 0 (Sl Ag Af.2.1 Ah) Af.2.1] (fun n0 v L => ∃ (az1 : Option Addr), ∃ (cz2 : Nat), v = (.agg #[(I r.1), (Sl az1 r.2.1 cz2), (I r.2.2)]) ∧ L = [Ch.own n0 n0 (Sl az1 r.2.1 cz2) r.2.1]) := by
 refine cal2 (n := 11) Try.func61 rfl rfl rfl rfl ?_
 intro S0 σ0 n0 hn0 H
 unfold M.impl_copyItem at h
 refine c_seq (rg (st_ex (ex_box (cs := [(I Af.1), (Sl Ag Af.2.1 Ah), (I Af.2.2)]) H hn0 rfl rfl) wn ?_))
 rintro _ σ2 ⟨b1, rfl, H, -⟩
 refine st_ex (ex_alloc (cs := [(I 0), (.slice none 0 0), (I 0)]) H hn0 ti31 rfl) wn ?_
 rintro _ σ4 ⟨b3, rfl, H, -⟩
 refine w_end (q_then (c_seq ?_))
 have hc5 := H.cell (u := (I Af.1)) (o' := 0) 1 0 rfl rfl rfl
 have hc6 := H.cell (u := (Sl Ag Af.2.1 Ah)) (o' := 1) 1 1 rfl rfl rfl
 revert h; refine br fun r7 hx8 h => ?_
 have hc9 := c_slices_Clone_int_int (Cs := Ag) (Ct := Ah) hx8
 have hc12 := H.cell (u := (I Af.2.2)) (o' := 2) 1 2 rfl rfl rfl
 have Hs := H
 refine rg2 (σ := σ4) (Nm := (Option Addr) × (Nat)) 7 [4] [[false], [true]] [[(0, 0), (1, 1)], [(0, 0), (1, 1)], [(0, 0)], [(0, 0)], [(0, 1)], [(0, 0), (1, 1)], [(0, 0), (1, 1)]] 1 [fun ((a10, c11) : (Option Addr) × (Nat)) => fun σm => Hp S0 σ0 σm [Ch.bx n0 b3 0 [(I 0), (.slice none 0 0), (I 0)] [] [], Ch.bx n0 b1 0 [(I Af.1), (Sl Ag Af.2.1 Ah), (I Af.2.2)] [] [], Ch.ro 0 (Sl Ag Af.2.1 Ah) Af.2.1] ∧ Md (cov []) σ4 σm, fun ((a10, c11) : (Option Addr) × (Nat)) => fun σm => Hp S0 σ0 σm [Ch.own n0 n0 (Sl a10 r7 c11) r7, Ch.bx n0 b3 0 [(I 0), (.slice none 0 0), (I 0)] [] [], Ch.bx n0 b1 0 [(I Af.1), (Sl Ag Af.2.1 Ah), (I Af.2.2)] [] [], Ch.ro 0 (Sl Ag Af.2.1 Ah) Af.2.1] ∧ Md (cov []) σ4 σm] [fun ((a10, c11) : (Option Addr) × (Nat)) => (pt b1 0), fun ((a10, c11) : (Option Addr) × (Nat)) => (I Af.1), fun ((a10, c11) : (Option Addr) × (Nat)) => (pt b1 1), fun ((a10, c11) : (Option Addr) × (Nat)) => (Sl Ag Af.2.1 Ah), fun ((a10, c11) : (Option Addr) × (Nat)) => (Sl a10 r7 c11), fun ((a10, c11) : (Option Addr) × (Nat)) => (pt b1 2), fun ((a10, c11) : (Option Addr) × (Nat)) => (I Af.2.2)] (none, 0) (by kernel_rfl) (by kernel_rfl) ?_ ?_ ?_
 ·intro σm m0
  exact ⟨H.grow (m0.mono fun _ h => h.elim), m0⟩
 ·refine ac rfl (by
    intro k; rintro ⟨a10, c11⟩ ρ σm hJ hoff hdep
    have e1 := look_off (N := 11) (hoff 1 rfl) rfl
    exact dp_v (v := (pt b1 0)) wn (rv_fieldAddr (off := 0) (ft := 3) Try.underlying31 rfl ti3 rfl e1) rfl hJ) ?_
  refine all_cons (by
    refine ⟨?_, ?_⟩
    ·rintro ⟨a10, c11⟩ ρ σm hJ hoff hdep
     have e3 := hdep 0 rfl rfl 3 rfl
     obtain ⟨H, m⟩ := id hJ
     have hc5 := H.cell (u := (I Af.1)) (o' := 0) 1 0 rfl rfl rfl
     exact dp_v (v := (I Af.1)) wn (rv_load1 Try.underlying3 rfl e3 hc5) rfl hJ
    refine ⟨?_, ?_⟩
    ·rintro ⟨a10, c11⟩ ρ σm hJ hoff hdep
     have e3 := hdep 0 rfl rfl 3 rfl
     obtain ⟨H, m⟩ := id hJ
     have hc5 := H.cell (u := (I Af.1)) (o' := 0) 2 0 rfl rfl rfl
     exact dp_v (v := (I Af.1)) wn (rv_load1 Try.underlying3 rfl e3 hc5) rfl hJ
    trivial) ?_
  refine ac rfl (by
    intro k; rintro ⟨a10, c11⟩ ρ σm hJ hoff hdep
    have e1 := look_off (N := 11) (hoff 1 rfl) rfl
    exact dp_v (v := (pt b1 1)) wn (rv_fieldAddr (off := 1) (ft := 24) Try.underlying31 rfl ti24 rfl e1) rfl hJ) ?_
  refine all_cons (by
    refine ⟨?_, ?_⟩
    ·rintro ⟨a10, c11⟩ ρ σm hJ hoff hdep
     have e5 := hdep 2 rfl rfl 5 rfl
     obtain ⟨H, m⟩ := id hJ
     have hc6 := H.cell (u := (Sl Ag Af.2.1 Ah)) (o' := 1) 1 1 rfl rfl rfl
     exact dp_v (v := (Sl Ag Af.2.1 Ah)) wn (rv_load1 Try.underlying24 rfl e5 hc6) rfl hJ
    trivial) ?_
  refine all_cons (by
    refine ⟨?_, ?_⟩
    ·rintro ⟨a10, c11⟩ ρ σm hJ hoff hdep
     have e6 : look 11 ρ 6 = (Sl Ag Af.2.1 Ah) := hdep 3 rfl rfl 6 rfl
     obtain ⟨H, m⟩ := id hJ
     refine dp_cx wn (cx_call hc9 (ent_f hc9.fn (by show [look 11 ρ 6] = _; rw [e6])) hn0 (H.sel' [2, 0, 1, 2] rfl rfl : Hp S0 σ0 _ ([_] ++ _))) ?_
     rintro _ σq ⟨_, ⟨a10x, c11x, rfl, rfl⟩, H2, m2⟩
     exact ⟨_, (a10x, c11x), rfl, rfl, ⟨H2.sel' [0, 1, 2, 3] rfl rfl, m.comp0 (m2.mono (fun i h => by simp [cov, Ch.ro] at h))⟩, stab [0, 1, 2, 3, 5, 6] (by kernel_rfl) ⟨rfl, rfl, rfl, rfl, rfl, rfl, trivial⟩⟩
    trivial) ?_
  refine ac rfl (by
    intro k; rintro ⟨a10, c11⟩ ρ σm hJ hoff hdep
    have e1 := look_off (N := 11) (hoff 1 rfl) rfl
    exact dp_v (v := (pt b1 2)) wn (rv_fieldAddr (off := 2) (ft := 3) Try.underlying31 rfl ti3 rfl e1) rfl hJ) ?_
  refine all_cons (by
    refine ⟨?_, ?_⟩
    ·rintro ⟨a10, c11⟩ ρ σm hJ hoff hdep
     have e8 := hdep 5 rfl rfl 8 rfl
     obtain ⟨H, m⟩ := id hJ
     have hc12 := H.cell (u := (I Af.2.2)) (o' := 2) 1 2 rfl rfl rfl
     exact dp_v (v := (I Af.2.2)) wn (rv_load1 Try.underlying3 rfl e8 hc12) rfl hJ
    refine ⟨?_, ?_⟩
    ·rintro ⟨a10, c11⟩ ρ σm hJ hoff hdep
     have e8 := hdep 5 rfl rfl 8 rfl
     obtain ⟨H, m⟩ := id hJ
     have hc12 := H.cell (u := (I Af.2.2)) (o' := 2) 2 2 rfl rfl rfl
     exact dp_v (v := (I Af.2.2)) wn (rv_load1 Try.underlying3 rfl e8 hc12) rfl hJ
    trivial) ?_
  exact all_nil
 ·rintro ⟨a10, c11⟩ ρ σ13 hJ hoff hrel
  have e2 := look_off (N := 11) (hoff 2 rfl) rfl
  have e4 := hrel 1 rfl 4 rfl
  have e7 := hrel 4 rfl 7 rfl
  have e9 := hrel 6 rfl 9 rfl
  obtain ⟨H, -⟩ := (show Hp S0 σ0 σ13 [Ch.own n0 n0 (Sl a10 r7 c11) r7, Ch.bx n0 b3 0 [(I 0), (.slice none 0 0), (I 0)] [] [], Ch.bx n0 b1 0 [(I Af.1), (Sl Ag Af.2.1 Ah), (I Af.2.2)] [] [], Ch.ro 0 (Sl Ag Af.2.1 Ah) Af.2.1] ∧ Md (cov []) σ4 σ13 from hJ)
  clear hJ Hs
  rw [fr_lookL (L := [(2, (pt b3 0)), (4, (I Af.1)), (7, (Sl a10 r7 c11)), (9, (I Af.2.2))]) ⟨e2, e4, e7, e9, trivial⟩]
  clear hoff hrel e2 e4 e7 e9
  refine st (v := (.agg #[(I Af.1), (Sl a10 r7 c11), (I Af.2.2)])) (rv_build (ps := [(0, (I Af.1)), (1, (Sl a10 r7 c11)), (2, (I Af.2.2))]) Try.underlying31 ti31 (bp31 Try.underlying31) rfl (by kernel_rfl)) ?_
  refine st_exS (ex_store_box (k := 0) (cs := [(I 0), (.slice none 0 0), (I 0)]) (vs := [(I Af.1), (Sl a10 r7 c11), (I Af.2.2)]) (cs' := [(I Af.1), (Sl a10 r7 c11), (I Af.2.2)]) H (i := 1) rfl ti31 rfl rfl rfl rfl rfl (Nat.le_of_ble_eq_true rfl) (by simp [plain]) rfl) wn ?_
  rintro σ14 ⟨H, -⟩
  refine w_end (q_then (c_ret ?_))
  obtain rfl := sj h
  exact fin_ret (v := (.agg #[(I Af.1), (Sl a10 r7 c11), (I Af.2.2)])) (results_ok Try.results61 (res_cell rfl (run_cellRes (cs := [(I Af.1), (Sl a10 r7 c11), (I Af.2.2)]) Try.underlying31 rfl ti31 rfl (H.cells 0 rfl)) res_nil) rfl) ⟨a10, c11, rfl, rfl⟩ (H.sel' [1] rfl rfl)

theorem c_impl_copyItems {Ai : List (Int × (List Int) × Int)} {Aj : Option Addr} {Ak : Nat} {r : (List (Int × (List Int) × Int))} (h : M.impl_copyItems Ai = some r) :
    Cal2 Try.prog 74 [(Sl Aj Ai Ak)] [Ch.ro 0 (Sl Aj Ai Ak) Ai] (fun n0 v L => ∃ (az1 : Option Addr), ∃ (cz2 : Nat), v = (Sl az1 r cz2) ∧ L = [Ch.own n0 n0 (Sl az1 r cz2) r] ∧ cz2 = r.length) := by
 refine cal2 (n := 23) Try.func74 rfl rfl rfl rfl ?_
 intro S0 σ0 n0 hn0 H
 unfold M.impl_copyItems at h
 refine c_seq (rg (sa (.slice none 0 0) rfl (w_end (q_then (c_seq (rg (sm (Sl Aj Ai Ak) rfl (st (v := (I (Ai.length : Int))) (rv_len Try.underlying23 rfl) ?_))))))))
 revert h; refine br fun xs1 hx2 h => ?_
 refine st_ex (ex_make (el := n0) (z0 := ((0, [], 0) : Int × (List Int) × Int)) (zs := [(I 0), (.slice none 0 0), (I 0)]) H hn0 Try.underlying23 ti31 rfl rfl (⟨[(I 0)], [(.slice none 0 0), (I 0)], rfl, rfl, ⟨[(.slice none 0 0)], [(I 0)], rfl, ⟨_, rfl, RS.nil⟩, rfl⟩⟩) (by decide) hx2 rfl rfl) wn ?_
 rintro _ σ6 ⟨b3, c4, rfl, ht5, H, -⟩
 replace ht5 := ht5.trans (gmake_len hx2).symm
 refine sa (Sl (some ⟨b3, 0, none⟩) xs1 c4) rfl (w_end (q_then (c_seq (c_seq (rg (sm (Sl Aj Ai Ak) rfl (st (v := (I (Ai.length : Int))) (rv_len Try.underlying23 rfl) (sm (I 0) rfl (w_end (q_then ?_))))))))))
 obtain ⟨o7, hj, h'⟩ := bind_some h
 clear h
 refine c_cut (fun e a w => e = .normal ∧ ∃ (ρ : Nat → Value) (σ : St), a = fr 23 (updL ρ [(3, (Sl (some ⟨b3, 0, none⟩) o7 c4))]) ∧ w = σ.w ∧ Hp S0 σ0 σ [Ch.own n0 n0 (Sl (some ⟨b3, 0, none⟩) o7 c4) o7] ∧ c4 = o7.length ∧ o7.length = xs1.length) ?_ ?_
 ·clear h'
  rename _ = some o7 => h
  refine c_blk (wp_loopM _ h (fun s8 a w => ∃ (ρ : Nat → Value) (σ : St), a = fr 23 (updL ρ [(3, (Sl (some ⟨b3, 0, none⟩) s8.1 c4)), (9, (Sl Aj Ai Ak)), (10, (I (Ai.length : Int))), (11, (I s8.2))]) ∧ w = σ.w ∧ Hp S0 σ0 σ [Ch.own n0 n0 (Sl (some ⟨b3, 0, none⟩) s8.1 c4) s8.1, Ch.ro 0 (Sl Aj Ai Ak) Ai] ∧ c4 = s8.1.length ∧ s8.1.length = xs1.length) ⟨_, σ6, fr_join ⟨rfl, rfl, rfl, rfl, trivial⟩, rfl, H.sel' [0, 1] rfl rfl, ht5, rfl⟩ ?_)
  clear h H
  rintro s8 a w o ⟨ρ, σ9, rfl, rfl, H, ht10, hn11⟩ h hres
  refine c_seq (rg (st (v := (B (decide (s8.2 < (Ai.length : Int))))) (rv_lss (a := s8.2) (b := (Ai.length : Int)) rfl rfl) (w_end (q_then (c_seq ?_)))))
  refine cd_cond (decide (s8.2 < (Ai.length : Int))) rfl (fun hb12 => ?_) (fun hb12 => ?_)
  ·replace h := bif_t hb12 h
   refine c_skip (q_then (c_seq (c_blk (c_seq (rg (sm (I s8.2) rfl ?_))))))
   revert h; refine br fun x13 hx14 h => ?_
   obtain ⟨b16, o17, hi15, -⟩ := (H.ro 1 rfl).ix hx14
   refine st (v := (pt b16 o17)) (rv_ix Try.underlying23 ti31 rfl rfl hi15) ?_
   obtain ⟨_, ⟨_, _, rfl, rfl, ⟨_, _, rfl, ⟨_, rfl, hR22⟩, rfl⟩⟩, hl18, hc19⟩ := ((H.ro 1 rfl).at hx14 hi15).cells
   obtain ⟨a20, c21, rfl⟩ := hR22.isSl
   replace H := H.add (d := Ch.ro 0 (Sl a20 x13.2.1 c21) x13.2.1) hR22 (fun _ h => h)
   clear hR22
   refine st (v := (.agg #[(I x13.1), (Sl a20 x13.2.1 c21), (I x13.2.2)])) (rv_load Try.underlying31 rfl ti31 rfl hl18 hc19) (st_ex (ex_alloc (cs := [(I 0), (.slice none 0 0), (I 0)]) H hn0 ti31 rfl) wn ?_)
   rintro _ σ24 ⟨b23, rfl, H, -⟩
   refine sa (I s8.2) rfl ?_
   refine st_exS (ex_store_box (k := 0) (cs := [(I 0), (.slice none 0 0), (I 0)]) (vs := [(I x13.1), (Sl a20 x13.2.1 c21), (I x13.2.2)]) (cs' := [(I x13.1), (Sl a20 x13.2.1 c21), (I x13.2.2)]) H (i := 0) rfl ti31 rfl rfl rfl rfl rfl (Nat.le_of_ble_eq_true rfl) (by simp [plain]) rfl) wn ?_
   rintro σ25 ⟨H, -⟩
   refine w_end (q_then (rg (sm (Sl (some ⟨b3, 0, none⟩) s8.1 c4) rfl (sm (I s8.2) rfl ?_))))
   have hc26 := H.cells 0 rfl
   refine st (v := (.agg #[(I x13.1), (Sl a20 x13.2.1 c21), (I x13.2.2)])) (rv_load (cs := [(I x13.1), (Sl a20 x13.2.1 c21), (I x13.2.2)]) Try.underlying31 rfl ti31 rfl rfl hc26) ?_
   revert h; refine br fun r27 hx28 h => ?_
   have hc29 := c_impl_copyItem (Ag := a20) (Ah := c21) hx28
   refine st_call (cx_call hc29 (ent_f hc29.fn rfl) hn0 (H.sel' [1, 0, 1, 2, 3] rfl rfl : Hp S0 σ0 _ ([_] ++ _))) wn ?_
   rintro _ σ32 ⟨_, ⟨a30, c31, rfl, rfl⟩, H, -⟩
   replace H : Hp _ _ _ [_, _, _, _, _] := H
   revert h; refine br fun x33 hx34 h => ?_
   obtain ⟨b36, o37, hi35, -⟩ := (H.own 3 rfl).ix hx34
   refine st (v := (pt b36 o37)) (rv_ix Try.underlying23 ti31 rfl rfl hi35) ?_
   obtain ⟨σ38, hw39, H, -⟩ := H.pub 0 rfl (Nat.le_refl _)
   rw [← hw39]; clear hw39
   refine st_exS (ex_store_own (e' := (r27.1, r27.2.1, r27.2.2)) (vs := [(I r27.1), (Sl a30 r27.2.1 c31), (I r27.2.2)]) (k := 0) H (i := 3) rfl ti31 hx34 hi35 rfl rfl rfl rfl rfl (Nat.le_of_ble_eq_true rfl) (by simp [plain]) (by rintro _ ⟨_, _, rfl, rfl, ⟨_, _, rfl, ⟨_, rfl, hR42⟩, rfl⟩⟩; exact ⟨[(I r27.1)], [(Sl a30 r27.2.1 c31), (I r27.2.2)], rfl, rfl, ⟨[(Sl a30 r27.2.1 c31)], [(I r27.2.2)], rfl, ⟨_, rfl, (H.ro 0 rfl)⟩, rfl⟩⟩)) wn ?_
   rintro σ43 ⟨H, -⟩
   have hsl : (Sl (some ⟨b3, 0, none⟩) s8.1 c4) = (Sl (some ⟨b3, 0, none⟩) (s8.1.set s8.2.toNat (r27.1, r27.2.1, r27.2.2)) c4) := sl_len List.length_set.symm
   rw [hsl]; rw [hsl] at H; clear hsl
   refine w_end (q_blk (q_then (rg (st (v := (I (w64 (s8.2 + 1)))) (rv_add (a := s8.2) (b := 1) rfl rfl) (sm (I (w64 (s8.2 + 1))) rfl (w_end (q_then ?_)))))))
   obtain rfl := sj h
   exact ⟨_, rfl, _, σ43, fr_join ⟨rfl, rfl, rfl, rfl, trivial⟩, rfl, H.sel' [0, 4] rfl rfl, (ht10.trans List.length_set.symm), (List.length_set.trans hn11)⟩
  ·replace h := bif_f hb12 h
   refine c_exit (q_then_x (q_then_x (q_blk_hit ?_)))
   obtain rfl := sj h
   obtain rfl := hres _ rfl
   exact ⟨rfl, _, σ9, fr_join ⟨rfl, trivial⟩, rfl, H.sel' [0] rfl rfl, ht10, hn11⟩
 ·clear hj
  have h := h'
  clear h' H
  rintro e a w ⟨rfl, ρ, σ44, rfl, rfl, H, ht45, hn46⟩
  refine q_then (c_seq (rg (sm (Sl (some ⟨b3, 0, none⟩) o7 c4) rfl (sa (Sl (some ⟨b3, 0, none⟩) o7 c4) rfl (w_end (q_then (c_ret ?_)))))))
  obtain rfl := sj h
  exact fin_ret (v := (Sl (some ⟨b3, 0, none⟩) o7 c4)) (results_ok Try.results74 (res_tmp (v := (Sl (some ⟨b3, 0, none⟩) o7 c4)) rfl res_nil) rfl) ⟨(some ⟨b3, 0, none⟩), c4, rfl, rfl, ht45⟩ (H.sel' [0] rfl rfl)

theorem c_impl_DropItem {Ai : List (Int × (List Int) × Int)} {Ee : Int} {Aj : Option Addr} {Ak : Nat} {r : (List (Int × (List Int) × Int)) × Bool} (h : M.impl_DropItem Ai Ee = some r) :
    Cal2 Try.prog 32 [(Sl Aj Ai Ak), (I Ee)] [Ch.ro 0 (Sl Aj Ai Ak) Ai] (fun n0 v L => ∃ (az1 : Option Addr), ∃ (cz2 : Nat), v = (.tuple #[(Sl az1 r.1 cz2), (B r.2)]) ∧ L = [Ch.own 0 0 (Sl az1 r.1 cz2) r.1]) := by
 refine cal2 (n := 25) Try.func32 rfl rfl rfl rfl ?_
 intro S0 σ0 n0 hn0 H
 unfold M.impl_DropItem at h
 refine c_seq (rg (sa (.slice none 0 0) rfl (sa (B false) rfl (w_end (q_then (c_seq (c_seq (rg (sm (Sl Aj Ai Ak) rfl ?_)))))))))
 revert h; refine br fun r1 hx2 h => ?_
 have hc3 := c_impl_ValidStore (Aj := Aj) (Ak := Ak) hx2
 refine st_call (cx_call hc3 (ent_f hc3.fn rfl) hn0 (H.sel' [0, 0] rfl rfl : Hp S0 σ0 _ ([_] ++ _))) wn ?_
 rintro _ σ4 ⟨_, ⟨rfl, rfl⟩, H, -⟩
 replace H : Hp _ _ _ [_] := H
 refine st (v := (B (!r1))) (rv_not rfl) (w_end (q_then ?_))
 refine cd_cond (!r1) rfl (fun hb5 => ?_) (fun hb5 => ?_)
 ·replace h := bif_t hb5 h
  refine c_seq (rg (sa (.slice none 0 0) rfl (sa (B false) rfl (w_end (q_then (c_ret (q_then_r ?_)))))))
  replace H := H.nilOwn (Int × (List Int) × Int) 0 0
  obtain rfl := sj h
  exact fin_ret (v := (.tuple #[(.slice none 0 0), (B false)])) (results_ok Try.results32 (res_tmp (v := (.slice none 0 0)) rfl (res_tmp (v := (B false)) rfl res_nil)) rfl) ⟨none, 0, rfl, rfl⟩ (H.sel' [0] rfl rfl)
 ·replace h := bif_f hb5 h
  refine c_skip (q_then (c_seq (rg (sm (Sl Aj Ai Ak) rfl (sm (I Ee) rfl ?_)))))
  revert h; refine br fun r6 hx7 h => ?_
  have hc8 := c_impl_placeOf (Aj := Aj) (Ak := Ak) hx7
  refine st_call (cx_call hc8 (ent_f hc8.fn rfl) hn0 (H.sel' [0, 0] rfl rfl : Hp S0 σ0 _ ([_] ++ _))) wn ?_
  rintro _ σ9 ⟨_, ⟨rfl, rfl⟩, H, -⟩
  replace H : Hp _ _ _ [_] := H
  refine sm (.tuple #[(I r6.1), (B r6.2)]) rfl (st (v := (I r6.1)) (rv_extract rfl rfl) (st (v := (B r6.2)) (rv_extract rfl rfl) (sa (I r6.1) rfl (sa (B r6.2) rfl (w_end (q_then (c_seq (c_seq (rg (sm (B r6.2) rfl (st (v := (B (!r6.2))) (rv_not rfl) ?_)))))))))))
  refine w_end (q_then ?_)
  refine cd_cond (!r6.2) rfl (fun hb10 => ?_) (fun hb10 => ?_)
  ·replace h := bif_t hb10 h
   refine c_seq (rg (sa (.slice none 0 0) rfl (sa (B false) rfl (w_end (q_then (c_ret (q_then_r ?_)))))))
   replace H := H.nilOwn (Int × (List Int) × Int) 0 0
   obtain rfl := sj h
   exact fin_ret (v := (.tuple #[(.slice none 0 0), (B false)])) (results_ok Try.results32 (res_tmp (v := (.slice none 0 0)) rfl (res_tmp (v := (B false)) rfl res_nil)) rfl) ⟨none, 0, rfl, rfl⟩ (H.sel' [0] rfl rfl)
  ·replace h := bif_f hb10 h
   refine c_skip (q_then (c_seq (rg (sm (Sl Aj Ai Ak) rfl ?_))))
   revert h; refine br fun r11 hx12 h => ?_
   have hc13 := c_impl_copyItems (Aj := Aj) (Ak := Ak) hx12
   refine st_call (cx_call hc13 (ent_f hc13.fn rfl) hn0 (H.sel' [0, 0] rfl rfl : Hp S0 σ0 _ ([_] ++ _))) wn ?_
   rintro _ σ17 ⟨_, ⟨a14, c15, rfl, rfl, ht16⟩, H, -⟩
   replace H : Hp _ _ _ [_, _] := H
   refine sm (I r6.1) rfl (sm (I r6.1) rfl (st (v := (I (w64 (r6.1 + 1)))) (rv_add (a := r6.1) (b := 1) rfl rfl) ?_))
   replace H := H.ownLow 0 0 0 rfl (Nat.zero_le _) (Nat.zero_le _)
   revert h; refine br fun r18 hx19 h => ?_
   have hc20 := c_slices_Delete_impl_Item_impl_Item (Cs := a14) (Ct := c15) hx19
   refine st_call (cx_call hc20 (ent_f hc20.fn rfl) hn0 (H.sel' [0, 1] rfl rfl : Hp S0 σ0 _ ([_] ++ _))) wn ?_
   rintro _ σ23 ⟨_, ⟨a21, c22, rfl, rfl⟩, H, -⟩
   replace H : Hp _ _ _ [_, _] := H
   refine sa (Sl a21 r18 c22) rfl (sa (B true) rfl (w_end (q_then (c_ret ?_))))
   obtain rfl := sj h
   exact fin_ret (v := (.tuple #[(Sl a21 r18 c22), (B true)])) (results_ok Try.results32 (res_tmp (v := (Sl a21 r18 c22)) rfl (res_tmp (v := (B true)) rfl res_nil)) rfl) ⟨a21, c22, rfl, rfl⟩ (H.sel' [0] rfl rfl)

theorem c_laws_FnClosestPairNearest {Dq : List UInt8} {Dr : Option Addr} {Ds : Nat} {r : Bool} (h : M.laws_FnClosestPairNearest Dq = some r) :
    Cal2 Try.prog 8 [(Sl Dr Dq Ds)] [Ch.ro 0 (Sl Dr Dq Ds) Dq] (fun n0 v L => v = (B r) ∧ L = []) := by
 refine cal2 (n := 101) Try.func8 rfl rfl rfl rfl ?_
 intro S0 σ0 n0 hn0 H
 unfold M.laws_FnClosestPairNearest at h
 refine c_seq (rg (sa (B false) rfl (w_end (q_then (c_seq (c_seq (rg (sm (Sl Dr Dq Ds) rfl (st (v := (I (Dq.length : Int))) (rv_len Try.underlying22 rfl) (st (v := (B (decide (1048576 < (Dq.length : Int))))) (rv_gtr (a := (Dq.length : Int)) (b := 1048576) rfl rfl) (w_end ?_)))))))))))
 refine q_then ?_
 refine cd_cond (decide (1048576 < (Dq.length : Int))) rfl (fun hb1 => ?_) (fun hb1 => ?_)
 ·replace h := bif_t hb1 h
  refine c_seq (rg (sa (B true) rfl (w_end (q_then (c_ret (q_then_r ?_))))))
  obtain rfl := sj h
  exact fin_ret (v := (B true)) (results_ok Try.results8 (res_tmp (v := (B true)) rfl res_nil) rfl) ⟨rfl, rfl⟩ (H.sel' [] rfl rfl)
 ·replace h := bif_f hb1 h
  refine c_skip (q_then (c_seq (rg (sm (Sl Dr Dq Ds) rfl ?_))))
  revert h; refine br fun r2 hx3 h => ?_
  have hc4 := c_spec_DrawClosestPair (Dr := Dr) (Ds := Ds) hx3
  refine st_call (cx_call hc4 (ent_f hc4.fn rfl) hn0 (H.sel' [0, 0] rfl rfl : Hp S0 σ0 _ ([_] ++ _))) wn ?_
  rintro _ σ7 ⟨_, ⟨a5, c6, rfl, rfl⟩, H, -⟩
  replace H : Hp _ _ _ [_, _] := H
  refine sm (.tuple #[(Sl a5 r2.1 c6), (I r2.2)]) rfl (st (v := (Sl a5 r2.1 c6)) (rv_extract rfl rfl) (st (v := (I r2.2)) (rv_extract rfl rfl) (sa (Sl a5 r2.1 c6) rfl (sa (I r2.2) rfl (w_end (q_then (c_seq (rg (sm (Sl a5 r2.1 c6) rfl (sm (I r2.2) rfl ?_))))))))))
  revert h; refine br fun r8 hx9 h => ?_
  have hc10 := c_impl_ClosestPair (Aj := a5) (Ak := c6) hx9
  have hle := Nat.le_trans hn0 H.size
  refine st_call (cx_lend (Loan.lend Loan.nil) hc10 (ent_f hc10.fn rfl) (show Hp S0 σ0 _ ([Ch.own n0 n0 (Sl a5 r2.1 c6) r2.1] ++ ([] ++ [Ch.ro 0 (Sl Dr Dq Ds) Dq])) from (H.sel' [0, 1] rfl rfl)) (by rintro _ _ _ ⟨rfl, rfl⟩; exact trivial)) wn ?_
  rintro _ σ11 ⟨_, ⟨rfl, rfl⟩, H, -, -⟩
  replace H : Hp _ _ _ [_, _] := H
  clear hle
  replace H : Hp _ _ _ [_, _] := H
  refine sm (.tuple #[(I r8.1), (I r8.2.1), (B r8.2.2)]) rfl (st (v := (I r8.1)) (rv_extract rfl rfl) (st (v := (I r8.2.1)) (rv_extract rfl rfl) (st (v := (B r8.2.2)) (rv_extract rfl rfl) (sa (I r8.1) rfl (sa (I r8.2.1) rfl (sa (B r8.2.2) rfl (w_end (q_then (c_seq (rg (sm (Sl a5 r2.1 c6) rfl ?_)))))))))))
  refine sm (I r2.2) rfl ?_
  revert h; refine br fun r12 hx13 h => ?_
  have hc14 := c_spec_ClosestPair (Aj := a5) (Ak := c6) hx13
  have hle := Nat.le_trans hn0 H.size
  refine st_call (cx_lend (Loan.lend Loan.nil) hc14 (ent_f hc14.fn rfl) (show Hp S0 σ0 _ ([Ch.own n0 n0 (Sl a5 r2.1 c6) r2.1] ++ ([] ++ [Ch.ro 0 (Sl Dr Dq Ds) Dq])) from (H.sel' [0, 1] rfl rfl)) (by rintro _ _ _ ⟨rfl, rfl⟩; exact trivial)) wn ?_
  rintro _ σ15 ⟨_, ⟨rfl, rfl⟩, H, -, -⟩
  replace H : Hp _ _ _ [_, _] := H
  clear hle
  replace H : Hp _ _ _ [_, _] := H
  refine sm (.tuple #[(I r12.1), (I r12.2.1), (B r12.2.2)]) rfl (st (v := (I r12.1)) (rv_extract rfl rfl) (st (v := (I r12.2.1)) (rv_extract rfl rfl) (st (v := (B r12.2.2)) (rv_extract rfl rfl) (sa (I r12.1) rfl (sa (I r12.2.1) rfl (sa (B r12.2.2) rfl (w_end (q_then (c_seq (c_seq ?_))))))))))
  obtain ⟨o16, hj, h'⟩ := bind_some h
  clear h
  refine c_cut (fun e a w => e = .normal ∧ ∃ (ρ : Nat → Value) (σ : St), a = fr 101 (updL ρ [(3, (Sl a5 r2.1 c6)), (4, (I r2.2)), (5, (I r8.1)), (6, (I r8.2.1)), (7, (B r8.2.2)), (8, (I r12.1)), (9, (I r12.2.1)), (10, (B r12.2.2)), (53, (B o16))]) ∧ w = σ.w ∧ Hp S0 σ0 σ [Ch.own n0 n0 (Sl a5 r2.1 c6) r2.1]) ?_ ?_
  ·clear h'
   rename _ = some o16 => h
   refine rg (sm (I r8.1) rfl (sm (I r12.1) rfl (st (v := (B (r8.1 != r12.1))) (rv_neq (a := r8.1) (b := r12.1) rfl rfl) (sm (B (r8.1 != r12.1)) rfl ?_))))
   rcases Bool.eq_false_or_eq_true (r8.1 != r12.1) with hb17 | hb17
   ·replace h := bif_t hb17 h
    refine st_skip (congrArg some hb17) (st_skip (congrArg some hb17) (st_skip (congrArg some hb17) (st (v := (B true)) (rv_pick_t (congrArg B hb17) rfl) (sm (B true) rfl (st_skip rfl (st_skip rfl (st_skip rfl (st (v := (B true)) (rv_pick_t rfl rfl) (sm (B true) rfl (st_skip rfl (st_skip rfl ?_)))))))))))
    refine st (v := (B true)) (rv_pick_t rfl rfl) (w_end ?_)
    obtain rfl := sj h
    exact ⟨rfl, _, σ15, fr_join ⟨rfl, rfl, rfl, rfl, rfl, rfl, rfl, rfl, rfl, trivial⟩, rfl, H.sel' [0] rfl rfl⟩
   ·replace h := bif_f hb17 h
    refine st_g (v := (I r8.2.1)) (congrArg some hb17) (rv_move rfl) (st_g (v := (I r12.2.1)) (congrArg some hb17) (rv_move rfl) (st_g (v := (B (r8.2.1 != r12.2.1))) (congrArg some hb17) (rv_neq (a := r8.2.1) (b := r12.2.1) rfl rfl) (st (v := (B (r8.2.1 != r12.2.1))) (rv_pick_f (congrArg B hb17) rfl) (sm (B (r8.2.1 != r12.2.1)) rfl ?_))))
    rcases Bool.eq_false_or_eq_true (r8.2.1 != r12.2.1) with hb18 | hb18
    ·replace h := bif_t hb18 h
     refine st_skip (congrArg some hb18) (st_skip (congrArg some hb18) (st_skip (congrArg some hb18) (st (v := (B true)) (rv_pick_t (congrArg B hb18) rfl) (sm (B true) rfl (st_skip rfl (st_skip rfl (st (v := (B true)) (rv_pick_t rfl rfl) (w_end ?_))))))))
     obtain rfl := sj h
     exact ⟨rfl, _, σ15, fr_join ⟨rfl, rfl, rfl, rfl, rfl, rfl, rfl, rfl, rfl, trivial⟩, rfl, H.sel' [0] rfl rfl⟩
    ·replace h := bif_f hb18 h
     refine st_g (v := (B r8.2.2)) (congrArg some hb18) (rv_move rfl) (st_g (v := (B r12.2.2)) (congrArg some hb18) (rv_move rfl) (st_g (v := (B (r8.2.2 != r12.2.2))) (congrArg some hb18) (rv_bneq Try.underlying4 rfl rfl) (st (v := (B (r8.2.2 != r12.2.2))) (rv_pick_f (congrArg B hb18) rfl) (sm (B (r8.2.2 != r12.2.2)) rfl ?_))))
     rcases Bool.eq_false_or_eq_true (r8.2.2 != r12.2.2) with hb19 | hb19
     ·replace h := bif_t hb19 h
      refine st_skip (congrArg some hb19) (st_skip (congrArg some hb19) (st (v := (B true)) (rv_pick_t (congrArg B hb19) rfl) (w_end ?_)))
      obtain rfl := sj h
      exact ⟨rfl, _, σ15, fr_join ⟨rfl, rfl, rfl, rfl, rfl, rfl, rfl, rfl, rfl, trivial⟩, rfl, H.sel' [0] rfl rfl⟩
     ·replace h := bif_f hb19 h
      refine st_g (v := (B r8.2.2)) (congrArg some hb19) (rv_move rfl) (st_g (v := (B (!r8.2.2))) (congrArg some hb19) (rv_not rfl) (st (v := (B (!r8.2.2))) (rv_pick_f (congrArg B hb19) rfl) (w_end ?_)))
      obtain rfl := sj h
      exact ⟨rfl, _, σ15, fr_join ⟨rfl, rfl, rfl, rfl, rfl, rfl, rfl, rfl, rfl, trivial⟩, rfl, H.sel' [0] rfl rfl⟩
  ·clear hj
   have h := h'
   clear h' H
   rintro e a w ⟨rfl, ρ, σ20, rfl, rfl, H⟩
   refine q_then ?_
   refine cd_cond o16 rfl (fun hb21 => ?_) (fun hb21 => ?_)
   ·replace h := bif_t hb21 h
    refine c_seq (rg (sm (I r8.1) rfl (sm (I r12.1) rfl (st (v := (B (r8.1 == r12.1))) (rv_eql (a := r8.1) (b := r12.1) rfl rfl) (sm (B (r8.1 == r12.1)) rfl ?_)))))
    rcases Bool.eq_false_or_eq_true (r8.1 == r12.1) with hb22 | hb22
    ·replace h := bif_t hb22 h
     refine st_g (v := (I r8.2.1)) (congrArg some hb22) (rv_move rfl) (st_g (v := (I r12.2.1)) (congrArg some hb22) (rv_move rfl) (st_g (v := (B (r8.2.1 == r12.2.1))) (congrArg some hb22) (rv_eql (a := r8.2.1) (b := r12.2.1) rfl rfl) (st (v := (B (r8.2.1 == r12.2.1))) (rv_pick_t (congrArg B hb22) rfl) (sm (B (r8.2.1 == r12.2.1)) rfl ?_))))
     rcases Bool.eq_false_or_eq_true (r8.2.1 == r12.2.1) with hb23 | hb23
     ·replace h := bif_t hb23 h
      refine st_g (v := (B r8.2.2)) (congrArg some hb23) (rv_move rfl) (st_g (v := (B r12.2.2)) (congrArg some hb23) (rv_move rfl) (st_g (v := (B (r8.2.2 == r12.2.2))) (congrArg some hb23) (rv_beql Try.underlying4 rfl rfl) (st (v := (B (r8.2.2 == r12.2.2))) (rv_pick_t (congrArg B hb23) rfl) (sa (B (r8.2.2 == r12.2.2)) rfl (w_end (q_then (c_ret (q_then_r ?_))))))))
      obtain rfl := sj h
      exact fin_ret (v := (B (r8.2.2 == r12.2.2))) (results_ok Try.results8 (res_tmp (v := (B (r8.2.2 == r12.2.2))) rfl res_nil) rfl) ⟨rfl, rfl⟩ (H.sel' [] rfl rfl)
     ·replace h := bif_f hb23 h
      refine st_skip (congrArg some hb23) (st_skip (congrArg some hb23) (st_skip (congrArg some hb23) (st (v := (B false)) (rv_pick_f (congrArg B hb23) rfl) (sa (B false) rfl (w_end (q_then (c_ret (q_then_r ?_))))))))
      obtain rfl := sj h
      exact fin_ret (v := (B false)) (results_ok Try.results8 (res_tmp (v := (B false)) rfl res_nil) rfl) ⟨rfl, rfl⟩ (H.sel' [] rfl rfl)
    ·replace h := bif_f hb22 h
     refine st_skip (congrArg some hb22) (st_skip (congrArg some hb22) (st_skip (congrArg some hb22) (st (v := (B false)) (rv_pick_f (congrArg B hb22) rfl) (sm (B false) rfl (st_skip rfl (st_skip rfl (st_skip rfl (st (v := (B false)) (rv_pick_f rfl rfl) (sa (B false) rfl (w_end (q_then ?_)))))))))))
     refine c_ret (q_then_r ?_)
     obtain rfl := sj h
     exact fin_ret (v := (B false)) (results_ok Try.results8 (res_tmp (v := (B false)) rfl res_nil) rfl) ⟨rfl, rfl⟩ (H.sel' [] rfl rfl)
   ·replace h := bif_f hb21 h
    refine c_skip (q_then (c_seq (rg (sm (Sl a5 r2.1 c6) rfl (sm (I r8.1) rfl ?_)))))
    obtain ⟨σ24, hw25, H, -⟩ := H.pub 0 rfl (Nat.le_refl _)
    rw [← hw25]; clear hw25
    replace H := H.roLow 0 0 rfl (Nat.zero_le _)
    revert h; refine br fun r26 hx27 h => ?_
    have hc28 := c_laws_itemOf (Aj := a5) (Ak := c6) hx27
    refine st_call (cx_call hc28 (ent_f hc28.fn rfl) hn0 (H.sel' [0, 0, 1] rfl rfl : Hp S0 σ0 _ ([_] ++ _))) wn ?_
    rintro _ σ31 ⟨_, ⟨a29, c30, rfl, rfl⟩, H, -⟩
    replace H : Hp _ _ _ [_, _, _] := H
    refine st (v := (Sl a29 r26.2.1 c30)) (rv_field (off := 1) (ft := 24) Try.underlying31 rfl Try.underlying24 rfl rfl rfl) (sa (Sl a29 r26.2.1 c30) rfl (w_end (q_then (c_seq (rg (sm (Sl a5 r2.1 c6) rfl (sm (I r8.1) rfl ?_)))))))
    replace H := H.roLow 2 0 rfl (Nat.zero_le _)
    revert h; refine br fun r32 hx33 h => ?_
    have hc34 := c_impl_DropItem (Aj := a5) (Ak := c6) hx33
    refine st_call (cx_call hc34 (ent_f hc34.fn rfl) hn0 (H.sel' [0, 0, 1, 2, 3] rfl rfl : Hp S0 σ0 _ ([_] ++ _))) wn ?_
    rintro _ σ37 ⟨_, ⟨a35, c36, rfl, rfl⟩, H, -⟩
    replace H : Hp _ _ _ [_, _, _, _, _] := H
    refine sm (.tuple #[(Sl a35 r32.1 c36), (B r32.2)]) rfl (st (v := (Sl a35 r32.1 c36)) (rv_extract rfl rfl) (st (v := (B r32.2)) (rv_extract rfl rfl) (sa (Sl a35 r32.1 c36) rfl (sa (B r32.2) rfl (w_end (q_then (c_seq (rg (sm (Sl a35 r32.1 c36) rfl (sm (I r2.2) rfl (sm (Sl a29 r26.2.1 c30) rfl ?_)))))))))))
    obtain ⟨σ38, hw39, H, -⟩ := H.pub 0 rfl (Nat.le_refl _)
    rw [← hw39]; clear hw39
    revert h; refine br fun r40 hx41 h => ?_
    have hc42 := c_impl_Nearest (Aj := a35) (Ak := c36) (Ar := a29) (As := c30) hx41
    refine st_call (cx_call hc42 (ent_f hc42.fn rfl) hn0 (H.sel' [0, 2, 0, 1, 2, 3, 4] rfl rfl : Hp S0 σ0 _ ([_, _] ++ _))) wn ?_
    rintro _ σ45 ⟨_, ⟨a43, c44, rfl, rfl⟩, H, -⟩
    replace H : Hp _ _ _ [_, _, _, _, _, _] := H
    refine sa (Sl a43 r40 c44) rfl (w_end (q_then (c_seq ?_)))
    rcases Bool.eq_false_or_eq_true r32.2 with hb46 | hb46
    ·replace h := bif_t hb46 h
     rcases Bool.eq_false_or_eq_true ((r40.length : Int) == 1) with hb47 | hb47
     ·replace h := bif_t hb47 h
      revert h; refine br fun x48 hx49 h => ?_
      obtain ⟨b51, o52, hi50, -⟩ := (H.own 0 rfl).ix hx49
      have hc53 := ((H.own 0 rfl).at hx49 hi50).snd.int
      replace H := H.roLow 5 0 rfl (Nat.zero_le _)
      revert h; refine br fun r54 hx55 h => ?_
      have hc56 := c_laws_itemOf (Aj := a5) (Ak := c6) hx55
      revert h; refine br fun r59 hx60 h => ?_
      have hc61 := fun (a57 : Option Addr) (c58 : Nat) => c_impl_Distance (Ce := a29) (Cf := c30) (Cg := a57) (Ci := c58) hx60
      have Hs := H
      refine rg2 (σ := σ45) (Nm := (Option Addr) × (Nat)) 18 [15, 17] [[false, false], [true, false], [true, true]] [[(0, 0)], [(0, 0)], [(0, 0)], [(0, 0)], [(0, 0)], [(0, 0)], [(0, 0)], [(0, 0), (1, 1), (2, 2)], [(0, 0), (1, 1), (2, 2)], [(0, 0), (1, 1), (2, 2)], [(0, 0), (1, 1), (2, 2)], [(0, 0), (1, 1)], [(0, 0), (1, 1)], [(0, 0)], [(0, 0)], [(0, 1)], [(1, 1)], [(1, 2)]] 2 [fun ((a57, c58) : (Option Addr) × (Nat)) => fun σm => Hp S0 σ0 σm [Ch.ro 0 (Sl a5 r2.1 c6) r2.1, Ch.own 0 n0 (Sl a43 r40 c44) r40, Ch.ro 0 (Sl a35 r32.1 c36) r32.1, Ch.ro 0 (Sl a5 r2.1 c6) r2.1, Ch.ro 0 (Sl a29 r26.2.1 c30) r26.2.1, Ch.ro 0 (Sl a5 r2.1 c6) r2.1, Ch.ro n0 (Sl a5 r2.1 c6) r2.1] ∧ Md (cov []) σ45 σm, fun ((a57, c58) : (Option Addr) × (Nat)) => fun σm => Hp S0 σ0 σm [Ch.ro 0 (Sl a57 r54.2.1 c58) r54.2.1, Ch.ro 0 (Sl a5 r2.1 c6) r2.1, Ch.own 0 n0 (Sl a43 r40 c44) r40, Ch.ro 0 (Sl a35 r32.1 c36) r32.1, Ch.ro 0 (Sl a5 r2.1 c6) r2.1, Ch.ro 0 (Sl a29 r26.2.1 c30) r26.2.1, Ch.ro 0 (Sl a5 r2.1 c6) r2.1, Ch.ro n0 (Sl a5 r2.1 c6) r2.1] ∧ Md (cov []) σ45 σm, fun ((a57, c58) : (Option Addr) × (Nat)) => fun σm => Hp S0 σ0 σm [Ch.ro 0 (Sl a57 r54.2.1 c58) r54.2.1, Ch.ro 0 (Sl a5 r2.1 c6) r2.1, Ch.own 0 n0 (Sl a43 r40 c44) r40, Ch.ro 0 (Sl a35 r32.1 c36) r32.1, Ch.ro 0 (Sl a5 r2.1 c6) r2.1, Ch.ro 0 (Sl a29 r26.2.1 c30) r26.2.1, Ch.ro 0 (Sl a5 r2.1 c6) r2.1, Ch.ro n0 (Sl a5 r2.1 c6) r2.1] ∧ Md (cov []) σ45 σm] [fun ((a57, c58) : (Option Addr) × (Nat)) => (B r32.2), fun ((a57, c58) : (Option Addr) × (Nat)) => (B r32.2), fun ((a57, c58) : (Option Addr) × (Nat)) => (Sl a43 r40 c44), fun ((a57, c58) : (Option Addr) × (Nat)) => (I (r40.length : Int)), fun ((a57, c58) : (Option Addr) × (Nat)) => (B ((r40.length : Int) == 1)), fun ((a57, c58) : (Option Addr) × (Nat)) => (B ((r40.length : Int) == 1)), fun ((a57, c58) : (Option Addr) × (Nat)) => (B ((r40.length : Int) == 1)), fun ((a57, c58) : (Option Addr) × (Nat)) => (Sl a43 r40 c44), fun ((a57, c58) : (Option Addr) × (Nat)) => (pt b51 o52), fun ((a57, c58) : (Option Addr) × (Nat)) => (pt b51 (o52 + 1)), fun ((a57, c58) : (Option Addr) × (Nat)) => (I x48.2), fun ((a57, c58) : (Option Addr) × (Nat)) => (I r2.2), fun ((a57, c58) : (Option Addr) × (Nat)) => (Sl a29 r26.2.1 c30), fun ((a57, c58) : (Option Addr) × (Nat)) => (Sl a5 r2.1 c6), fun ((a57, c58) : (Option Addr) × (Nat)) => (I r8.2.1), fun ((a57, c58) : (Option Addr) × (Nat)) => (.agg #[(I r54.1), (Sl a57 r54.2.1 c58), (I r54.2.2)]), fun ((a57, c58) : (Option Addr) × (Nat)) => (Sl a57 r54.2.1 c58), fun ((a57, c58) : (Option Addr) × (Nat)) => (I r59)] (none, 0) (by kernel_rfl) (by kernel_rfl) ?_ ?_ ?_
      ·intro σm m0
       exact ⟨H.grow (m0.mono fun _ h => h.elim), m0⟩
      ·refine ac rfl (by
         intro k; rintro ⟨a57, c58⟩ ρ σm hJ hoff hdep
         have e13 := look_off (N := 101) (hoff 13 rfl) rfl
         exact dp_v (v := (B r32.2)) wn (rv_move e13) rfl hJ) ?_
       refine ac rfl (by
         intro k; rintro ⟨a57, c58⟩ ρ σm hJ hoff hdep
         have e81 := hdep 0 rfl rfl 81 rfl
         exact dp_v (v := (B r32.2)) wn (rv_move e81) rfl hJ) ?_
       refine ac rfl (by
         intro k; rintro ⟨a57, c58⟩ ρ σm hJ hoff hdep
         have e14 := look_off (N := 101) (hoff 14 rfl) rfl
         have e82 := hdep 1 rfl rfl 82 rfl
         exact dp_v (v := (Sl a43 r40 c44)) (wanted_yes rfl (yv_of rfl (e82.trans (congrArg B hb46)))) (rv_move e14) rfl hJ) ?_
       refine ac rfl (by
         intro k; rintro ⟨a57, c58⟩ ρ σm hJ hoff hdep
         have e83 := hdep 2 rfl rfl 83 rfl
         have e82 := hdep 1 rfl rfl 82 rfl
         exact dp_v (v := (I (r40.length : Int))) (wanted_yes rfl (yv_of rfl (e82.trans (congrArg B hb46)))) (rv_len Try.underlying27 e83) rfl hJ) ?_
       refine ac rfl (by
         intro k; rintro ⟨a57, c58⟩ ρ σm hJ hoff hdep
         have e84 := hdep 3 rfl rfl 84 rfl
         have e82 := hdep 1 rfl rfl 82 rfl
         exact dp_v (v := (B ((r40.length : Int) == 1))) (wanted_yes rfl (yv_of rfl (e82.trans (congrArg B hb46)))) (rv_eql (a := (r40.length : Int)) (b := 1) e84 rfl) rfl hJ) ?_
       refine ac rfl (by
         intro k; rintro ⟨a57, c58⟩ ρ σm hJ hoff hdep
         have e82 := hdep 1 rfl rfl 82 rfl
         have e85 := hdep 4 rfl rfl 85 rfl
         exact dp_v (v := (B ((r40.length : Int) == 1))) wn (rv_pick_t (e82.trans (congrArg B hb46)) e85) rfl hJ) ?_
       refine ac rfl (by
         intro k; rintro ⟨a57, c58⟩ ρ σm hJ hoff hdep
         have e86 := hdep 5 rfl rfl 86 rfl
         exact dp_v (v := (B ((r40.length : Int) == 1))) wn (rv_move e86) rfl hJ) ?_
       refine ac rfl (by
         intro k; rintro ⟨a57, c58⟩ ρ σm hJ hoff hdep
         have e14 := look_off (N := 101) (hoff 14 rfl) rfl
         have e87 := hdep 6 rfl rfl 87 rfl
         exact dp_v (v := (Sl a43 r40 c44)) (wanted_yes rfl (yv_of rfl (e87.trans (congrArg B hb47)))) (rv_move e14) rfl hJ) ?_
       refine ac rfl (by
         intro k; rintro ⟨a57, c58⟩ ρ σm hJ hoff hdep
         have e88 := hdep 7 rfl rfl 88 rfl
         have e87 := hdep 6 rfl rfl 87 rfl
         exact dp_v (v := (pt b51 o52)) (wanted_yes rfl (yv_of rfl (e87.trans (congrArg B hb47)))) (rv_ix Try.underlying27 ti35 e88 rfl hi50) rfl hJ) ?_
       refine ac rfl (by
         intro k; rintro ⟨a57, c58⟩ ρ σm hJ hoff hdep
         have e89 := hdep 8 rfl rfl 89 rfl
         have e87 := hdep 6 rfl rfl 87 rfl
         exact dp_v (v := (pt b51 (o52 + 1))) (wanted_yes rfl (yv_of rfl (e87.trans (congrArg B hb47)))) (rv_fieldAddr (off := 1) (ft := 3) Try.underlying35 rfl ti3 rfl e89) rfl hJ) ?_
       refine all_cons (by
         refine ⟨?_, ?_⟩
         ·rintro ⟨a57, c58⟩ ρ σm hJ hoff hdep
          have e90 := hdep 9 rfl rfl 90 rfl
          have e87 := hdep 6 rfl rfl 87 rfl
          obtain ⟨H, m⟩ := id hJ
          have hc53 := ((H.own 1 rfl).at hx49 hi50).snd.int
          exact dp_v (v := (I x48.2)) (wanted_yes rfl (yv_of rfl (e87.trans (congrArg B hb47)))) (rv_load1 Try.underlying3 rfl e90 hc53) rfl hJ
         refine ⟨?_, ?_⟩
         ·rintro ⟨a57, c58⟩ ρ σm hJ hoff hdep
          have e90 := hdep 9 rfl rfl 90 rfl
          have e87 := hdep 6 rfl rfl 87 rfl
          obtain ⟨H, m⟩ := id hJ
          have hc53 := ((H.own 2 rfl).at hx49 hi50).snd.int
          exact dp_v (v := (I x48.2)) (wanted_yes rfl (yv_of rfl (e87.trans (congrArg B hb47)))) (rv_load1 Try.underlying3 rfl e90 hc53) rfl hJ
         refine ⟨?_, ?_⟩
         ·rintro ⟨a57, c58⟩ ρ σm hJ hoff hdep
          have e90 := hdep 9 rfl rfl 90 rfl
          have e87 := hdep 6 rfl rfl 87 rfl
          obtain ⟨H, m⟩ := id hJ
          have hc53 := ((H.own 2 rfl).at hx49 hi50).snd.int
          exact dp_v (v := (I x48.2)) (wanted_yes rfl (yv_of rfl (e87.trans (congrArg B hb47)))) (rv_load1 Try.underlying3 rfl e90 hc53) rfl hJ
         trivial) ?_
       refine ac rfl (by
         intro k; rintro ⟨a57, c58⟩ ρ σm hJ hoff hdep
         have e4 := look_off (N := 101) (hoff 4 rfl) rfl
         have e87 := hdep 6 rfl rfl 87 rfl
         exact dp_v (v := (I r2.2)) (wanted_yes rfl (yv_of rfl (e87.trans (congrArg B hb47)))) (rv_move e4) rfl hJ) ?_
       refine ac rfl (by
         intro k; rintro ⟨a57, c58⟩ ρ σm hJ hoff hdep
         have e11 := look_off (N := 101) (hoff 11 rfl) rfl
         have e87 := hdep 6 rfl rfl 87 rfl
         exact dp_v (v := (Sl a29 r26.2.1 c30)) (wanted_yes rfl (yv_of rfl (e87.trans (congrArg B hb47)))) (rv_move e11) rfl hJ) ?_
       refine ac rfl (by
         intro k; rintro ⟨a57, c58⟩ ρ σm hJ hoff hdep
         have e3 := look_off (N := 101) (hoff 3 rfl) rfl
         have e87 := hdep 6 rfl rfl 87 rfl
         exact dp_v (v := (Sl a5 r2.1 c6)) (wanted_yes rfl (yv_of rfl (e87.trans (congrArg B hb47)))) (rv_move e3) rfl hJ) ?_
       refine ac rfl (by
         intro k; rintro ⟨a57, c58⟩ ρ σm hJ hoff hdep
         have e6 := look_off (N := 101) (hoff 6 rfl) rfl
         have e87 := hdep 6 rfl rfl 87 rfl
         exact dp_v (v := (I r8.2.1)) (wanted_yes rfl (yv_of rfl (e87.trans (congrArg B hb47)))) (rv_move e6) rfl hJ) ?_
       refine all_cons (by
         refine ⟨?_, ?_⟩
         ·rintro ⟨a57, c58⟩ ρ σm hJ hoff hdep
          have e94 : look 101 ρ 94 = (Sl a5 r2.1 c6) := hdep 13 rfl rfl 94 rfl
          have e95 : look 101 ρ 95 = (I r8.2.1) := hdep 14 rfl rfl 95 rfl
          have e87 := hdep 6 rfl rfl 87 rfl
          obtain ⟨H, m⟩ := id hJ
          refine dp_cx (wanted_yes rfl (yv_of rfl (e87.trans (congrArg B hb47)))) (cx_call hc56 (ent_f hc56.fn (by show [look 101 ρ 94, look 101 ρ 95] = _; rw [e94, e95])) hn0 (H.sel' [0, 0, 1, 2, 3, 4, 5, 6] rfl rfl : Hp S0 σ0 _ ([_] ++ _))) ?_
          rintro _ σq ⟨_, ⟨a57x, c58x, rfl, rfl⟩, H2, m2⟩
          exact ⟨_, (a57x, c58x), rfl, rfl, ⟨H2.sel' [0, 1, 2, 3, 4, 5, 6, 7] rfl rfl, m.comp0 (m2.mono (fun i h => by simp [cov, Ch.ro] at h))⟩, stab [0, 1, 2, 3, 4, 5, 6, 7, 8, 9, 10, 11, 12, 13, 14] (by kernel_rfl) ⟨rfl, rfl, rfl, rfl, rfl, rfl, rfl, rfl, rfl, rfl, rfl, rfl, rfl, rfl, rfl, trivial⟩⟩
         trivial) ?_
       refine ac rfl (by
         intro k; rintro ⟨a57, c58⟩ ρ σm hJ hoff hdep
         have e96 := hdep 15 rfl rfl 96 rfl
         have e87 := hdep 6 rfl rfl 87 rfl
         exact dp_v (v := (Sl a57 r54.2.1 c58)) (wanted_yes rfl (yv_of rfl (e87.trans (congrArg B hb47)))) (rv_field (off := 1) (ft := 24) Try.underlying31 rfl Try.underlying24 rfl e96 rfl) rfl hJ) ?_
       refine all_cons (by
         refine ⟨?_, ?_⟩
         ·rintro ⟨a57, c58⟩ ρ σm hJ hoff hdep
          have e92 : look 101 ρ 92 = (I r2.2) := hdep 11 rfl rfl 92 rfl
          have e93 : look 101 ρ 93 = (Sl a29 r26.2.1 c30) := hdep 12 rfl rfl 93 rfl
          have e97 : look 101 ρ 97 = (Sl a57 r54.2.1 c58) := hdep 16 rfl rfl 97 rfl
          have e87 := hdep 6 rfl rfl 87 rfl
          obtain ⟨H, m⟩ := id hJ
          refine dp_cx (wanted_yes rfl (yv_of rfl (e87.trans (congrArg B hb47)))) (cx_call (hc61 a57 c58) (ent_f (hc61 a57 c58).fn (by show [look 101 ρ 92, look 101 ρ 93, look 101 ρ 97] = _; rw [e92, e93, e97])) hn0 (H.sel' [5, 0, 0, 1, 2, 3, 4, 5, 6, 7] rfl rfl : Hp S0 σ0 _ ([_, _] ++ _))) ?_
          rintro _ σq ⟨_, ⟨rfl, rfl⟩, H2, m2⟩
          exact ⟨_, (a57, c58), rfl, rfl, ⟨H2.sel' [0, 1, 2, 3, 4, 5, 6, 7] rfl rfl, m.comp0 (m2.mono (fun i h => by simp [cov, Ch.ro] at h))⟩, stab [0, 1, 2, 3, 4, 5, 6, 7, 8, 9, 10, 11, 12, 13, 14, 15, 16] (by kernel_rfl) ⟨rfl, rfl, rfl, rfl, rfl, rfl, rfl, rfl, rfl, rfl, rfl, rfl, rfl, rfl, rfl, rfl, rfl, trivial⟩⟩
         trivial) ?_
       exact all_nil
      ·rintro ⟨a57, c58⟩ ρ σ62 hJ hoff hrel
       have e87 := hrel 6 rfl 87 rfl
       have e91 := hrel 10 rfl 91 rfl
       have e98 := hrel 17 rfl 98 rfl
       obtain ⟨H, -⟩ := (show Hp S0 σ0 σ62 [Ch.ro 0 (Sl a57 r54.2.1 c58) r54.2.1, Ch.ro 0 (Sl a5 r2.1 c6) r2.1, Ch.own 0 n0 (Sl a43 r40 c44) r40, Ch.ro 0 (Sl a35 r32.1 c36) r32.1, Ch.ro 0 (Sl a5 r2.1 c6) r2.1, Ch.ro 0 (Sl a29 r26.2.1 c30) r26.2.1, Ch.ro 0 (Sl a5 r2.1 c6) r2.1, Ch.ro n0 (Sl a5 r2.1 c6) r2.1] ∧ Md (cov []) σ45 σ62 from hJ)
       clear hJ Hs
       rw [fr_lookL (L := [(87, (B ((r40.length : Int) == 1))), (91, (I x48.2)), (98, (I r59))]) ⟨e87, e91, e98, trivial⟩]
       clear hoff hrel e87 e91 e98
       refine st_g (v := (B (x48.2 == r59))) (congrArg some hb47) (rv_eql (a := x48.2) (b := r59) rfl rfl) (st (v := (B (x48.2 == r59))) (rv_pick_t (congrArg B hb47) rfl) (sa (B (x48.2 == r59)) rfl (w_end (q_then (c_ret ?_)))))
       obtain rfl := sj h
       exact fin_ret (v := (B (x48.2 == r59))) (results_ok Try.results8 (res_tmp (v := (B (x48.2 == r59))) rfl res_nil) rfl) ⟨rfl, rfl⟩ (H.sel' [] rfl rfl)
     ·replace h := bif_f hb47 h
      have Hs := H
      refine rg2 (σ := σ45) (Nm := Unit) 18 [] [[]] [[(0, 0)], [(0, 0)], [(0, 0)], [(0, 0)], [(0, 0)], [(0, 0)], [(0, 0)], [(0, 0)], [(0, 0)], [(0, 0)], [(0, 0)], [(0, 0)], [(0, 0)], [(0, 0)], [(0, 0)], [(0, 0)], [(0, 0)], [(0, 0)]] 0 [fun _ => fun σm => Hp S0 σ0 σm [Ch.own 0 n0 (Sl a43 r40 c44) r40, Ch.ro 0 (Sl a35 r32.1 c36) r32.1, Ch.ro 0 (Sl a5 r2.1 c6) r2.1, Ch.ro 0 (Sl a29 r26.2.1 c30) r26.2.1, Ch.ro 0 (Sl a5 r2.1 c6) r2.1, Ch.ro n0 (Sl a5 r2.1 c6) r2.1] ∧ Md (cov []) σ45 σm] [fun _ => (B r32.2), fun _ => (B r32.2), fun _ => (Sl a43 r40 c44), fun _ => (I (r40.length : Int)), fun _ => (B ((r40.length : Int) == 1)), fun _ => (B ((r40.length : Int) == 1)), fun _ => (B ((r40.length : Int) == 1)), fun _ => undef, fun _ => undef, fun _ => undef, fun _ => undef, fun _ => undef, fun _ => undef, fun _ => undef, fun _ => undef, fun _ => undef, fun _ => undef, fun _ => undef] () (by kernel_rfl) (by kernel_rfl) ?_ ?_ ?_
      ·intro σm m0
       exact ⟨H.grow (m0.mono fun _ h => h.elim), m0⟩
      ·refine ac rfl (by
         intro k _nm ρ σm hJ hoff hdep
         have e13 := look_off (N := 101) (hoff 13 rfl) rfl
         exact dp_v (v := (B r32.2)) wn (rv_move e13) rfl hJ) ?_
       refine ac rfl (by
         intro k _nm ρ σm hJ hoff hdep
         have e81 := hdep 0 rfl rfl 81 rfl
         exact dp_v (v := (B r32.2)) wn (rv_move e81) rfl hJ) ?_
       refine ac rfl (by
         intro k _nm ρ σm hJ hoff hdep
         have e14 := look_off (N := 101) (hoff 14 rfl) rfl
         have e82 := hdep 1 rfl rfl 82 rfl
         exact dp_v (v := (Sl a43 r40 c44)) (wanted_yes rfl (yv_of rfl (e82.trans (congrArg B hb46)))) (rv_move e14) rfl hJ) ?_
       refine ac rfl (by
         intro k _nm ρ σm hJ hoff hdep
         have e83 := hdep 2 rfl rfl 83 rfl
         have e82 := hdep 1 rfl rfl 82 rfl
         exact dp_v (v := (I (r40.length : Int))) (wanted_yes rfl (yv_of rfl (e82.trans (congrArg B hb46)))) (rv_len Try.underlying27 e83) rfl hJ) ?_
       refine ac rfl (by
         intro k _nm ρ σm hJ hoff hdep
         have e84 := hdep 3 rfl rfl 84 rfl
         have e82 := hdep 1 rfl rfl 82 rfl
         exact dp_v (v := (B ((r40.length : Int) == 1))) (wanted_yes rfl (yv_of rfl (e82.trans (congrArg B hb46)))) (rv_eql (a := (r40.length : Int)) (b := 1) e84 rfl) rfl hJ) ?_
       refine ac rfl (by
         intro k _nm ρ σm hJ hoff hdep
         have e82 := hdep 1 rfl rfl 82 rfl
         have e85 := hdep 4 rfl rfl 85 rfl
         exact dp_v (v := (B ((r40.length : Int) == 1))) wn (rv_pick_t (e82.trans (congrArg B hb46)) e85) rfl hJ) ?_
       refine ac rfl (by
         intro k _nm ρ σm hJ hoff hdep
         have e86 := hdep 5 rfl rfl 86 rfl
         exact dp_v (v := (B ((r40.length : Int) == 1))) wn (rv_move e86) rfl hJ) ?_
       refine ac rfl (by
         intro k _nm ρ σm hJ hoff hdep
         have e87 := hdep 6 rfl rfl 87 rfl
         exact dp_skip (wanted_no rfl (yv_of rfl (e87.trans (congrArg B hb47)))) rfl hJ) ?_
       refine ac rfl (by
         intro k _nm ρ σm hJ hoff hdep
         have e87 := hdep 6 rfl rfl 87 rfl
         exact dp_skip (wanted_no rfl (yv_of rfl (e87.trans (congrArg B hb47)))) rfl hJ) ?_
       refine ac rfl (by
         intro k _nm ρ σm hJ hoff hdep
         have e87 := hdep 6 rfl rfl 87 rfl
         exact dp_skip (wanted_no rfl (yv_of rfl (e87.trans (congrArg B hb47)))) rfl hJ) ?_
       refine ac rfl (by
         intro k _nm ρ σm hJ hoff hdep
         have e87 := hdep 6 rfl rfl 87 rfl
         exact dp_skip (wanted_no rfl (yv_of rfl (e87.trans (congrArg B hb47)))) rfl hJ) ?_
       refine ac rfl (by
         intro k _nm ρ σm hJ hoff hdep
         have e87 := hdep 6 rfl rfl 87 rfl
         exact dp_skip (wanted_no rfl (yv_of rfl (e87.trans (congrArg B hb47)))) rfl hJ) ?_
       refine ac rfl (by
         intro k _nm ρ σm hJ hoff hdep
         have e87 := hdep 6 rfl rfl 87 rfl
         exact dp_skip (wanted_no rfl (yv_of rfl (e87.trans (congrArg B hb47)))) rfl hJ) ?_
       refine ac rfl (by
         intro k _nm ρ σm hJ hoff hdep
         have e87 := hdep 6 rfl rfl 87 rfl
         exact dp_skip (wanted_no rfl (yv_of rfl (e87.trans (congrArg B hb47)))) rfl hJ) ?_
       refine ac rfl (by
         intro k _nm ρ σm hJ hoff hdep
         have e87 := hdep 6 rfl rfl 87 rfl
         exact dp_skip (wanted_no rfl (yv_of rfl (e87.trans (congrArg B hb47)))) rfl hJ) ?_
       refine ac rfl (by
         intro k _nm ρ σm hJ hoff hdep
         have e87 := hdep 6 rfl rfl 87 rfl
         exact dp_skip (wanted_no rfl (yv_of rfl (e87.trans (congrArg B hb47)))) rfl hJ) ?_
       refine ac rfl (by
         intro k _nm ρ σm hJ hoff hdep
         have e87 := hdep 6 rfl rfl 87 rfl
         exact dp_skip (wanted_no rfl (yv_of rfl (e87.trans (congrArg B hb47)))) rfl hJ) ?_
       refine ac rfl (by
         intro k _nm ρ σm hJ hoff hdep
         have e87 := hdep 6 rfl rfl 87 rfl
         exact dp_skip (wanted_no rfl (yv_of rfl (e87.trans (congrArg B hb47)))) rfl hJ) ?_
       exact all_nil
      ·intro _nm ρ σ63 hJ hoff hrel
       have e87 := hrel 6 rfl 87 rfl
       have e91 := hrel 10 rfl 91 rfl
       have e98 := hrel 17 rfl 98 rfl
       obtain ⟨H, -⟩ := (show Hp S0 σ0 σ63 [Ch.own 0 n0 (Sl a43 r40 c44) r40, Ch.ro 0 (Sl a35 r32.1 c36) r32.1, Ch.ro 0 (Sl a5 r2.1 c6) r2.1, Ch.ro 0 (Sl a29 r26.2.1 c30) r26.2.1, Ch.ro 0 (Sl a5 r2.1 c6) r2.1, Ch.ro n0 (Sl a5 r2.1 c6) r2.1] ∧ Md (cov []) σ45 σ63 from hJ)
       clear hJ Hs
       rw [fr_lookL (L := [(87, (B ((r40.length : Int) == 1))), (91, undef), (98, undef)]) ⟨e87, e91, e98, trivial⟩]
       clear hoff hrel e87 e91 e98
       refine st_skip (congrArg some hb47) (st (v := (B false)) (rv_pick_f (congrArg B hb47) rfl) (sa (B false) rfl (w_end (q_then (c_ret ?_)))))
       obtain rfl := sj h
       exact fin_ret (v := (B false)) (results_ok Try.results8 (res_tmp (v := (B false)) rfl res_nil) rfl) ⟨rfl, rfl⟩ (H.sel' [] rfl rfl)
    ·replace h := bif_f hb46 h
     have Hs := H
     refine rg2 (σ := σ45) (Nm := Unit) 18 [] [[]] [[(0, 0)], [(0, 0)], [(0, 0)], [(0, 0)], [(0, 0)], [(0, 0)], [(0, 0)], [(0, 0)], [(0, 0)], [(0, 0)], [(0, 0)], [(0, 0)], [(0, 0)], [(0, 0)], [(0, 0)], [(0, 0)], [(0, 0)], [(0, 0)]] 0 [fun _ => fun σm => Hp S0 σ0 σm [Ch.own 0 n0 (Sl a43 r40 c44) r40, Ch.ro 0 (Sl a35 r32.1 c36) r32.1, Ch.ro 0 (Sl a5 r2.1 c6) r2.1, Ch.ro 0 (Sl a29 r26.2.1 c30) r26.2.1, Ch.ro 0 (Sl a5 r2.1 c6) r2.1, Ch.ro n0 (Sl a5 r2.1 c6) r2.1] ∧ Md (cov []) σ45 σm] [fun _ => (B r32.2), fun _ => (B r32.2), fun _ => undef, fun _ => undef, fun _ => undef, fun _ => (B false), fun _ => (B false), fun _ => undef, fun _ => undef, fun _ => undef, fun _ => undef, fun _ => undef, fun _ => undef, fun _ => undef, fun _ => undef, fun _ => undef, fun _ => undef, fun _ => undef] () (by kernel_rfl) (by kernel_rfl) ?_ ?_ ?_
     ·intro σm m0
      exact ⟨H.grow (m0.mono fun _ h => h.elim), m0⟩
     ·refine ac rfl (by
        intro k _nm ρ σm hJ hoff hdep
        have e13 := look_off (N := 101) (hoff 13 rfl) rfl
        exact dp_v (v := (B r32.2)) wn (rv_move e13) rfl hJ) ?_
      refine ac rfl (by
        intro k _nm ρ σm hJ hoff hdep
        have e81 := hdep 0 rfl rfl 81 rfl
        exact dp_v (v := (B r32.2)) wn (rv_move e81) rfl hJ) ?_
      refine ac rfl (by
        intro k _nm ρ σm hJ hoff hdep
        have e82 := hdep 1 rfl rfl 82 rfl
        exact dp_skip (wanted_no rfl (yv_of rfl (e82.trans (congrArg B hb46)))) rfl hJ) ?_
      refine ac rfl (by
        intro k _nm ρ σm hJ hoff hdep
        have e82 := hdep 1 rfl rfl 82 rfl
        exact dp_skip (wanted_no rfl (yv_of rfl (e82.trans (congrArg B hb46)))) rfl hJ) ?_
      refine ac rfl (by
        intro k _nm ρ σm hJ hoff hdep
        have e82 := hdep 1 rfl rfl 82 rfl
        exact dp_skip (wanted_no rfl (yv_of rfl (e82.trans (congrArg B hb46)))) rfl hJ) ?_
      refine ac rfl (by
        intro k _nm ρ σm hJ hoff hdep
        have e82 := hdep 1 rfl rfl 82 rfl
        exact dp_v (v := (B false)) wn (rv_pick_f (e82.trans (congrArg B hb46)) rfl) rfl hJ) ?_
      refine ac rfl (by
        intro k _nm ρ σm hJ hoff hdep
        have e86 := hdep 5 rfl rfl 86 rfl
        exact dp_v (v := (B false)) wn (rv_move e86) rfl hJ) ?_
      refine ac rfl (by
        intro k _nm ρ σm hJ hoff hdep
        have e87 := hdep 6 rfl rfl 87 rfl
        exact dp_skip (wanted_no rfl (yv_of rfl e87)) rfl hJ) ?_
      refine ac rfl (by
        intro k _nm ρ σm hJ hoff hdep
        have e87 := hdep 6 rfl rfl 87 rfl
        exact dp_skip (wanted_no rfl (yv_of rfl e87)) rfl hJ) ?_
      refine ac rfl (by
        intro k _nm ρ σm hJ hoff hdep
        have e87 := hdep 6 rfl rfl 87 rfl
        exact dp_skip (wanted_no rfl (yv_of rfl e87)) rfl hJ) ?_
      refine ac rfl (by
        intro k _nm ρ σm hJ hoff hdep
        have e87 := hdep 6 rfl rfl 87 rfl
        exact dp_skip (wanted_no rfl (yv_of rfl e87)) rfl hJ) ?_
      refine ac rfl (by
        intro k _nm ρ σm hJ hoff hdep
        have e87 := hdep 6 rfl rfl 87 rfl
        exact dp_skip (wanted_no rfl (yv_of rfl e87)) rfl hJ) ?_
      refine ac rfl (by
        intro k _nm ρ σm hJ hoff hdep
        have e87 := hdep 6 rfl rfl 87 rfl
        exact dp_skip (wanted_no rfl (yv_of rfl e87)) rfl hJ) ?_
      refine ac rfl (by
        intro k _nm ρ σm hJ hoff hdep
        have e87 := hdep 6 rfl rfl 87 rfl
        exact dp_skip (wanted_no rfl (yv_of rfl e87)) rfl hJ) ?_
      refine ac rfl (by
        intro k _nm ρ σm hJ hoff hdep
        have e87 := hdep 6 rfl rfl 87 rfl
        exact dp_skip (wanted_no rfl (yv_of rfl e87)) rfl hJ) ?_
      refine ac rfl (by
        intro k _nm ρ σm hJ hoff hdep
        have e87 := hdep 6 rfl rfl 87 rfl
        exact dp_skip (wanted_no rfl (yv_of rfl e87)) rfl hJ) ?_
      refine ac rfl (by
        intro k _nm ρ σm hJ hoff hdep
        have e87 := hdep 6 rfl rfl 87 rfl
        exact dp_skip (wanted_no rfl (yv_of rfl e87)) rfl hJ) ?_
      refine ac rfl (by
        intro k _nm ρ σm hJ hoff hdep
        have e87 := hdep 6 rfl rfl 87 rfl
        exact dp_skip (wanted_no rfl (yv_of rfl e87)) rfl hJ) ?_
      exact all_nil
     ·intro _nm ρ σ64 hJ hoff hrel
      have e87 := hrel 6 rfl 87 rfl
      have e91 := hrel 10 rfl 91 rfl
      have e98 := hrel 17 rfl 98 rfl
      obtain ⟨H, -⟩ := (show Hp S0 σ0 σ64 [Ch.own 0 n0 (Sl a43 r40 c44) r40, Ch.ro 0 (Sl a35 r32.1 c36) r32.1, Ch.ro 0 (Sl a5 r2.1 c6) r2.1, Ch.ro 0 (Sl a29 r26.2.1 c30) r26.2.1, Ch.ro 0 (Sl a5 r2.1 c6) r2.1, Ch.ro n0 (Sl a5 r2.1 c6) r2.1] ∧ Md (cov []) σ45 σ64 from hJ)
      clear hJ Hs
      rw [fr_lookL (L := [(87, (B false)), (91, undef), (98, undef)]) ⟨e87, e91, e98, trivial⟩]
      clear hoff hrel e87 e91 e98
      refine st_skip rfl (st (v := (B false)) (rv_pick_f rfl rfl) (sa (B false) rfl (w_end (q_then (c_ret ?_)))))
      obtain rfl := sj h
      exact fin_ret (v := (B false)) (results_ok Try.results8 (res_tmp (v := (B false)) rfl res_nil) rfl) ⟨rfl, rfl⟩ (H.sel' [] rfl rfl)

end Go.Vs
