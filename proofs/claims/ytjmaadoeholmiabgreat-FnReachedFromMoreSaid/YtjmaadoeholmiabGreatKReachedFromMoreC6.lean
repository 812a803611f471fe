/- The functions compute what their models say. -/
import Derived.Test.YtjmaadoeholmiabGreatKReachedFromMoreC5
set_option linter.unusedVariables false
set_option linter.unusedSimpArgs false
set_option maxRecDepth 20000
namespace Go.Vs
open Go Go.Proofs
attribute [local irreducible] Code.wp Code.wpIn wpList wpListIn wpQuiet Calls CallsIn

theorem c_spec_links {Ah : List (Int × (List Int) × Int)} {Bv : Int} {Bw : Int} {Aj : Option Addr} {Ak : Nat} {r : (List (List Int))} (h : M.spec_links Ah Bv Bw = some r) :
    Cal2 Tryz.prog 52 [(Sl Aj Ah Ak), (I Bv), (I Bw)] [Ch.ro 0 (Sl Aj Ah Ak) Ah] (fun n0 v L => ∃ (az1 : Option Addr), ∃ (cz2 : Nat), v = (Sl az1 r cz2) ∧ L = [Ch.own n0 n0 (Sl az1 r cz2) r]) := by
 refine cal2 (n := 64) Tryz.func52 rfl rfl rfl rfl ?_
 intro S0 σ0 n0 hn0 H
 unfold M.spec_links at h
 refine c_seq (rg (sa (.slice none 0 0) rfl (w_end (q_then (c_seq (rg ?_))))))
 refine st_ex (ex_buildSlice (el := n0) (xs := ([] : List (List Int))) (ps := []) (cs := []) H hn0 Tryz.underlying77 ti26 rfl rfl (by kernel_rfl) (.nil) rfl) wn ?_
 rintro _ σ2 ⟨b1, rfl, H, -⟩
 refine sa (Sl (some ⟨b1, 0, none⟩) ([] : List (List Int)) 0) rfl (w_end (q_then (c_seq (c_seq (rg (sa (I 0) rfl (w_end (q_then ?_))))))))
 obtain ⟨o3, hj, h'⟩ := bind_some h
 clear h
 refine c_cut (fun e a w => e = .normal ∧ ∃ (ρ : Nat → Value) (σ : St) (aj1 : Option Addr) (cj2 : Nat), a = fr 64 (updL ρ [(7, (Sl aj1 o3 cj2))]) ∧ w = σ.w ∧ Hp S0 σ0 σ [Ch.own n0 n0 (Sl aj1 o3 cj2) o3]) ?_ ?_
 ·clear h'
  rename _ = some o3 => h
  refine c_blk (wp_loopM _ h (fun s4 a w => ∃ (ρ : Nat → Value) (σ : St) (aj1 : Option Addr) (cj2 : Nat), a = fr 64 (updL ρ [(0, (Sl Aj Ah Ak)), (1, (I Bv)), (2, (I Bw)), (7, (Sl aj1 s4.1 cj2)), (8, (I s4.2))]) ∧ w = σ.w ∧ Hp S0 σ0 σ [Ch.ro 0 (Sl Aj Ah Ak) Ah, Ch.own n0 n0 (Sl aj1 s4.1 cj2) s4.1]) ⟨_, σ2, (some ⟨b1, 0, none⟩), 0, fr_join ⟨rfl, rfl, rfl, rfl, rfl, trivial⟩, rfl, H.sel' [1, 0] rfl rfl⟩ ?_)
  clear h H
  rintro s4 a w o ⟨ρ, σ5, a6, c7, rfl, rfl, H⟩ h hres
  refine c_seq (c_seq (rg (sm (I s4.2) rfl (sm (Sl Aj Ah Ak) rfl (st (v := (I (Ah.length : Int))) (rv_len Tryz.underlying23 rfl) (st (v := (B (decide (s4.2 < (Ah.length : Int))))) (rv_lss (a := s4.2) (b := (Ah.length : Int)) rfl rfl) (w_end (q_then ?_))))))))
  refine cd_cond (decide (s4.2 < (Ah.length : Int))) rfl (fun hb8 => ?_) (fun hb8 => ?_)
  ·replace h := bif_t hb8 h
   refine c_skip (q_then (c_seq (c_blk (c_seq (rg ?_)))))
   refine st_ex (ex_buildSlice (el := n0) (xs := ([] : List (Int × Int))) (ps := []) (cs := []) H hn0 Tryz.underlying29 ti37 rfl rfl (by kernel_rfl) (.nil) rfl) wn ?_
   rintro _ σ10 ⟨b9, rfl, H, -⟩
   refine sa (Sl (some ⟨b9, 0, none⟩) ([] : List (Int × Int)) 0) rfl (w_end (q_then (c_seq (c_seq (rg (sa (I 0) rfl (w_end (q_then ?_))))))))
   obtain ⟨o11, hj, h'⟩ := bind_some h
   clear h
   refine c_cut (fun e a w => e = .normal ∧ ∃ (ρ : Nat → Value) (σ : St) (aj1 : Option Addr) (cj2 : Nat), a = fr 64 (updL ρ [(0, (Sl Aj Ah Ak)), (1, (I Bv)), (2, (I Bw)), (7, (Sl a6 s4.1 c7)), (8, (I s4.2)), (9, (Sl aj1 o11 cj2))]) ∧ w = σ.w ∧ Hp S0 σ0 σ [Ch.ro 0 (Sl Aj Ah Ak) Ah, Ch.own n0 n0 (Sl a6 s4.1 c7) s4.1, Ch.own n0 n0 (Sl aj1 o11 cj2) o11]) ?_ ?_
   ·clear h'
    rename _ = some o11 => h
    refine c_blk (wp_loopM _ h (fun s12 a w => ∃ (ρ : Nat → Value) (σ : St) (aj1 : Option Addr) (cj2 : Nat), a = fr 64 (updL ρ [(0, (Sl Aj Ah Ak)), (1, (I Bv)), (2, (I Bw)), (7, (Sl a6 s4.1 c7)), (8, (I s4.2)), (9, (Sl aj1 s12.1 cj2)), (10, (I s12.2))]) ∧ w = σ.w ∧ Hp S0 σ0 σ [Ch.ro 0 (Sl Aj Ah Ak) Ah, Ch.own n0 n0 (Sl a6 s4.1 c7) s4.1, Ch.own n0 n0 (Sl aj1 s12.1 cj2) s12.1]) ⟨_, σ10, (some ⟨b9, 0, none⟩), 0, fr_join ⟨rfl, rfl, rfl, rfl, rfl, rfl, rfl, trivial⟩, rfl, H.sel' [1, 2, 0] rfl rfl⟩ ?_)
    clear h H
    rintro s12 a w o ⟨ρ, σ13, a14, c15, rfl, rfl, H⟩ h hres
    refine c_seq (c_seq (rg (sm (I s12.2) rfl (sm (Sl Aj Ah Ak) rfl (st (v := (I (Ah.length : Int))) (rv_len Tryz.underlying23 rfl) (st (v := (B (decide (s12.2 < (Ah.length : Int))))) (rv_lss (a := s12.2) (b := (Ah.length : Int)) rfl rfl) (w_end (q_then ?_))))))))
    refine cd_cond (decide (s12.2 < (Ah.length : Int))) rfl (fun hb16 => ?_) (fun hb16 => ?_)
    ·replace h := bif_t hb16 h
     refine c_skip (q_then (c_seq ?_))
     obtain ⟨o17, hj, h'⟩ := bind_some h
     clear h
     refine c_cut (fun e a w => e = .normal ∧ ∃ (ρ : Nat → Value) (σ : St) (aj1 : Option Addr) (cj2 : Nat), a = fr 64 (updL ρ [(0, (Sl Aj Ah Ak)), (1, (I Bv)), (2, (I Bw)), (7, (Sl a6 s4.1 c7)), (8, (I s4.2)), (9, (Sl aj1 o17 cj2)), (10, (I s12.2))]) ∧ w = σ.w ∧ Hp S0 σ0 σ [Ch.ro 0 (Sl Aj Ah Ak) Ah, Ch.own n0 n0 (Sl a6 s4.1 c7) s4.1, Ch.own n0 n0 (Sl aj1 o17 cj2) o17]) ?_ ?_
     ·clear h'
      rename _ = some o17 => h
      refine c_blk (c_seq (rg (sm (I s12.2) rfl (sm (I s4.2) rfl (st (v := (B (s12.2 != s4.2))) (rv_neq (a := s12.2) (b := s4.2) rfl rfl) (w_end (q_then ?_)))))))
      refine cd_cond (s12.2 != s4.2) rfl (fun hb18 => ?_) (fun hb18 => ?_)
      ·replace h := bif_t hb18 h
       revert h; refine br fun x19 hx20 h => ?_
       obtain ⟨b22, o23, hi21, -⟩ := (H.ro 0 rfl).ix hx20
       obtain ⟨_, ⟨_, _, rfl, rfl, ⟨_, _, rfl, ⟨_, rfl, hR28⟩, rfl⟩⟩, hl24, hc25⟩ := ((H.ro 0 rfl).at hx20 hi21).cells
       obtain ⟨a26, c27, rfl⟩ := hR28.isSl
       replace H := H.add (d := Ch.ro 0 (Sl a26 x19.2.1 c27) x19.2.1) hR28 (fun _ h => h)
       clear hR28
       revert h; refine br fun x29 hx30 h => ?_
       obtain ⟨b32, o33, hi31, -⟩ := (H.ro 1 rfl).ix hx30
       obtain ⟨v37, hc38, hR36⟩ := ((H.ro 1 rfl).at hx30 hi31).snd.fst.slice
       obtain ⟨a34, c35, rfl⟩ := hR36.isSl
       replace H := H.add (d := Ch.ro 0 (Sl a34 x29.2.1 c35) x29.2.1) hR36 (fun _ h => h)
       clear hR36
       revert h; refine br fun r39 hx40 h => ?_
       have hc41 := c_spec_hit (Bk := a26) (Bl := c27) (Ct := a34) (Cu := c35) hx40
       have Hs := H
       refine rg2 (σ := σ13) (Nm := Unit) 13 [11] [[false], [true]] [[(0, 0), (1, 1)], [(0, 0)], [(0, 0)], [(0, 0)], [(0, 0)], [(0, 0)], [(0, 0)], [(0, 0)], [(0, 0)], [(0, 0)], [(0, 0)], [(0, 1)], [(0, 0), (1, 1)]] 1 [fun _ => fun σm => Hp S0 σ0 σm [Ch.ro 0 (Sl a34 x29.2.1 c35) x29.2.1, Ch.ro 0 (Sl a26 x19.2.1 c27) x19.2.1, Ch.ro 0 (Sl Aj Ah Ak) Ah, Ch.own n0 n0 (Sl a6 s4.1 c7) s4.1, Ch.own n0 n0 (Sl a14 s12.1 c15) s12.1] ∧ Md (cov []) σ13 σm, fun _ => fun σm => Hp S0 σ0 σm [Ch.ro 0 (Sl a34 x29.2.1 c35) x29.2.1, Ch.ro 0 (Sl a26 x19.2.1 c27) x19.2.1, Ch.ro 0 (Sl Aj Ah Ak) Ah, Ch.own n0 n0 (Sl a6 s4.1 c7) s4.1, Ch.own n0 n0 (Sl a14 s12.1 c15) s12.1] ∧ Md (cov []) σ13 σm] [fun _ => (Sl a14 s12.1 c15), fun _ => (Sl Aj Ah Ak), fun _ => (I s12.2), fun _ => (pt b22 o23), fun _ => (.agg #[(I x19.1), (Sl a26 x19.2.1 c27), (I x19.2.2)]), fun _ => (I Bv), fun _ => (Sl Aj Ah Ak), fun _ => (I s4.2), fun _ => (pt b32 o33), fun _ => (pt b32 (o33 + 1)), fun _ => (Sl a34 x29.2.1 c35), fun _ => (.agg #[(I r39.1), (I r39.2)]), fun _ => (I Bw)] () (by kernel_rfl) (by kernel_rfl) ?_ ?_ ?_
       ·intro σm m0
        exact ⟨H.grow (m0.mono fun _ h => h.elim), m0⟩
       ·refine ac rfl (by
          intro k _nm ρ σm hJ hoff hdep
          have e9 := look_off (N := 64) (hoff 9 rfl) rfl
          exact dp_v (v := (Sl a14 s12.1 c15)) wn (rv_move e9) rfl hJ) ?_
        refine ac rfl (by
          intro k _nm ρ σm hJ hoff hdep
          have e0 := look_off (N := 64) (hoff 0 rfl) rfl
          exact dp_v (v := (Sl Aj Ah Ak)) wn (rv_move e0) rfl hJ) ?_
        refine ac rfl (by
          intro k _nm ρ σm hJ hoff hdep
          have e10 := look_off (N := 64) (hoff 10 rfl) rfl
          exact dp_v (v := (I s12.2)) wn (rv_move e10) rfl hJ) ?_
        refine ac rfl (by
          intro k _nm ρ σm hJ hoff hdep
          have e31 := hdep 1 rfl rfl 31 rfl
          have e32 := hdep 2 rfl rfl 32 rfl
          exact dp_v (v := (pt b22 o23)) wn (rv_ix Tryz.underlying23 ti34 e31 e32 hi21) rfl hJ) ?_
        refine all_cons (by
          refine ⟨?_, ?_⟩
          ·intro _nm ρ σm hJ hoff hdep
           have e33 := hdep 3 rfl rfl 33 rfl
           obtain ⟨H, m⟩ := id hJ
           replace hc25 := fun j hj => (Hs.ro 2 rfl).hmd hx20 hi21 (k := j) (Nat.lt_of_lt_of_eq hj hl24) (hc25 j hj) m
           exact dp_v (v := (.agg #[(I x19.1), (Sl a26 x19.2.1 c27), (I x19.2.2)])) wn (rv_load Tryz.underlying34 rfl ti34 e33 hl24 hc25) rfl hJ
          trivial) ?_
        refine ac rfl (by
          intro k _nm ρ σm hJ hoff hdep
          have e1 := look_off (N := 64) (hoff 1 rfl) rfl
          exact dp_v (v := (I Bv)) wn (rv_move e1) rfl hJ) ?_
        refine ac rfl (by
          intro k _nm ρ σm hJ hoff hdep
          have e0 := look_off (N := 64) (hoff 0 rfl) rfl
          exact dp_v (v := (Sl Aj Ah Ak)) wn (rv_move e0) rfl hJ) ?_
        refine ac rfl (by
          intro k _nm ρ σm hJ hoff hdep
          have e8 := look_off (N := 64) (hoff 8 rfl) rfl
          exact dp_v (v := (I s4.2)) wn (rv_move e8) rfl hJ) ?_
        refine ac rfl (by
          intro k _nm ρ σm hJ hoff hdep
          have e36 := hdep 6 rfl rfl 36 rfl
          have e37 := hdep 7 rfl rfl 37 rfl
          exact dp_v (v := (pt b32 o33)) wn (rv_ix Tryz.underlying23 ti34 e36 e37 hi31) rfl hJ) ?_
        refine ac rfl (by
          intro k _nm ρ σm hJ hoff hdep
          have e38 := hdep 8 rfl rfl 38 rfl
          exact dp_v (v := (pt b32 (o33 + 1))) wn (rv_fieldAddr (off := 1) (ft := 26) Tryz.underlying34 rfl ti26 rfl e38) rfl hJ) ?_
        refine all_cons (by
          refine ⟨?_, ?_⟩
          ·intro _nm ρ σm hJ hoff hdep
           have e39 := hdep 9 rfl rfl 39 rfl
           obtain ⟨H, m⟩ := id hJ
           replace hc38 := (Hs.ro 2 rfl).hmd hx30 hi31 (k := 1) (by decide) hc38 m
           exact dp_v (v := (Sl a34 x29.2.1 c35)) wn (rv_load1 Tryz.underlying26 rfl e39 hc38) rfl hJ
          trivial) ?_
        refine all_cons (by
          refine ⟨?_, ?_⟩
          ·intro _nm ρ σm hJ hoff hdep
           have e34 : look 64 ρ 34 = (.agg #[(I x19.1), (Sl a26 x19.2.1 c27), (I x19.2.2)]) := hdep 4 rfl rfl 34 rfl
           have e35 : look 64 ρ 35 = (I Bv) := hdep 5 rfl rfl 35 rfl
           have e40 : look 64 ρ 40 = (Sl a34 x29.2.1 c35) := hdep 10 rfl rfl 40 rfl
           obtain ⟨H, m⟩ := id hJ
           refine dp_cx wn (cx_call hc41 (ent_f hc41.fn (by show [look 64 ρ 34, look 64 ρ 35, look 64 ρ 40] = _; rw [e34, e35, e40])) hn0 (H.sel' [1, 0, 0, 1, 2, 3, 4] rfl rfl : Hp S0 σ0 _ ([_, _] ++ _))) ?_
           rintro _ σq ⟨_, ⟨rfl, rfl⟩, H2, m2⟩
           exact ⟨_, (), rfl, rfl, ⟨H2.sel' [0, 1, 2, 3, 4] rfl rfl, m.comp0 (m2.mono (fun i h => by simp [cov, Ch.ro] at h))⟩, stab [0, 1, 2, 3, 4, 5, 6, 7, 8, 9, 10, 12] (by kernel_rfl) ⟨rfl, rfl, rfl, rfl, rfl, rfl, rfl, rfl, rfl, rfl, rfl, rfl, trivial⟩⟩
          trivial) ?_
        refine ac rfl (by
          intro k _nm ρ σm hJ hoff hdep
          have e2 := look_off (N := 64) (hoff 2 rfl) rfl
          exact dp_v (v := (I Bw)) wn (rv_move e2) rfl hJ) ?_
        exact all_nil
       ·intro _nm ρ σ42 hJ hoff hrel
        have e0 := look_off (N := 64) (hoff 0 rfl) rfl
        have e1 := look_off (N := 64) (hoff 1 rfl) rfl
        have e2 := look_off (N := 64) (hoff 2 rfl) rfl
        have e7 := look_off (N := 64) (hoff 7 rfl) rfl
        have e8 := look_off (N := 64) (hoff 8 rfl) rfl
        have e10 := look_off (N := 64) (hoff 10 rfl) rfl
        have e30 := hrel 0 rfl 30 rfl
        have e41 := hrel 11 rfl 41 rfl
        have e42 := hrel 12 rfl 42 rfl
        obtain ⟨H, -⟩ := (show Hp S0 σ0 σ42 [Ch.ro 0 (Sl a34 x29.2.1 c35) x29.2.1, Ch.ro 0 (Sl a26 x19.2.1 c27) x19.2.1, Ch.ro 0 (Sl Aj Ah Ak) Ah, Ch.own n0 n0 (Sl a6 s4.1 c7) s4.1, Ch.own n0 n0 (Sl a14 s12.1 c15) s12.1] ∧ Md (cov []) σ13 σ42 from hJ)
        clear hJ Hs
        rw [fr_lookL (L := [(0, (Sl Aj Ah Ak)), (1, (I Bv)), (2, (I Bw)), (7, (Sl a6 s4.1 c7)), (8, (I s4.2)), (10, (I s12.2)), (30, (Sl a14 s12.1 c15)), (41, (.agg #[(I r39.1), (I r39.2)])), (42, (I Bw))]) ⟨e0, e1, e2, e7, e8, e10, e30, e41, e42, trivial⟩]
        clear hoff hrel e0 e1 e2 e7 e8 e10 e30 e41 e42
        obtain ⟨σ43, hw44, H, -⟩ := H.pub 4 rfl (Nat.le_refl _)
        rw [← hw44]; clear hw44
        replace H := H.roLow 0 0 rfl (Nat.zero_le _)
        revert h; refine br fun r45 hx46 h => ?_
        have hc47 := c_spec_addHit (Aj := a14) (Ak := c15) hx46
        refine st_call (cx_call hc47 (ent_f hc47.fn rfl) hn0 (H.sel' [0, 0, 1, 2, 3, 4, 5] rfl rfl : Hp S0 σ0 _ ([_] ++ _))) wn ?_
        rintro _ σ50 ⟨_, ⟨a48, c49, rfl, rfl⟩, H, -⟩
        replace H : Hp _ _ _ [_, _, _, _, _, _, _] := H
        refine sa (Sl a48 r45 c49) rfl (w_end (q_blk ?_))
        obtain rfl := sj h
        exact ⟨rfl, _, σ50, a48, c49, fr_join ⟨rfl, rfl, rfl, rfl, rfl, rfl, rfl, trivial⟩, rfl, H.sel' [5, 6, 0] rfl rfl⟩
      ·replace h := bif_f hb18 h
       refine c_skip (q_blk ?_)
       obtain rfl := sj h
       exact ⟨rfl, _, σ13, a14, c15, fr_join ⟨rfl, rfl, rfl, rfl, rfl, rfl, rfl, trivial⟩, rfl, H.sel' [0, 1, 2] rfl rfl⟩
     ·clear hj
      have h := h'
      clear h' H
      rintro e a w ⟨rfl, ρ, σ51, a52, c53, rfl, rfl, H⟩
      refine q_then (rg (sm (I s12.2) rfl (st (v := (I (w64 (s12.2 + 1)))) (rv_add (a := s12.2) (b := 1) rfl rfl) (sa (I (w64 (s12.2 + 1))) rfl (w_end (q_then ?_))))))
      obtain rfl := sj h
      exact ⟨_, rfl, _, σ51, a52, c53, fr_join ⟨rfl, rfl, rfl, rfl, rfl, rfl, rfl, trivial⟩, rfl, H.sel' [0, 1, 2] rfl rfl⟩
    ·replace h := bif_f hb16 h
     refine c_exit (q_then_x (q_then_x (q_blk_hit ?_)))
     obtain rfl := sj h
     obtain rfl := hres _ rfl
     exact ⟨rfl, _, σ13, a14, c15, fr_join ⟨rfl, rfl, rfl, rfl, rfl, rfl, trivial⟩, rfl, H.sel' [0, 1, 2] rfl rfl⟩
   ·clear hj
    have h := h'
    clear h' H
    rintro e a w ⟨rfl, ρ, σ54, a55, c56, rfl, rfl, H⟩
    refine q_then (c_seq (rg ?_))
    refine st_ex (ex_buildSlice (el := n0) (xs := ([] : List Int)) (ps := []) (cs := []) H hn0 Tryz.underlying26 ti3 rfl rfl (by kernel_rfl) (.nil) rfl) wn ?_
    rintro _ σ58 ⟨b57, rfl, H, -⟩
    refine sa (Sl (some ⟨b57, 0, none⟩) ([] : List Int) 0) rfl (w_end (q_then (c_seq (c_seq (rg (sa (I 0) rfl (w_end (q_then ?_))))))))
    obtain ⟨o59, hj, h'⟩ := bind_some h
    clear h
    refine c_cut (fun e a w => e = .normal ∧ ∃ (ρ : Nat → Value) (σ : St) (aj1 : Option Addr) (cj2 : Nat), a = fr 64 (updL ρ [(0, (Sl Aj Ah Ak)), (1, (I Bv)), (2, (I Bw)), (7, (Sl a6 s4.1 c7)), (8, (I s4.2)), (11, (Sl aj1 o59 cj2))]) ∧ w = σ.w ∧ Hp S0 σ0 σ [Ch.ro 0 (Sl Aj Ah Ak) Ah, Ch.own n0 n0 (Sl a6 s4.1 c7) s4.1, Ch.own n0 n0 (Sl aj1 o59 cj2) o59]) ?_ ?_
    ·clear h'
     rename _ = some o59 => h
     refine c_blk (wp_loopM _ h (fun s60 a w => ∃ (ρ : Nat → Value) (σ : St) (aj1 : Option Addr) (cj2 : Nat), a = fr 64 (updL ρ [(0, (Sl Aj Ah Ak)), (1, (I Bv)), (2, (I Bw)), (7, (Sl a6 s4.1 c7)), (8, (I s4.2)), (9, (Sl a55 o11 c56)), (11, (Sl aj1 s60.1 cj2)), (12, (I s60.2))]) ∧ w = σ.w ∧ Hp S0 σ0 σ [Ch.ro 0 (Sl Aj Ah Ak) Ah, Ch.own n0 n0 (Sl a6 s4.1 c7) s4.1, Ch.own n0 n0 (Sl a55 o11 c56) o11, Ch.own n0 n0 (Sl aj1 s60.1 cj2) s60.1]) ⟨_, σ58, (some ⟨b57, 0, none⟩), 0, fr_join ⟨rfl, rfl, rfl, rfl, rfl, rfl, rfl, rfl, trivial⟩, rfl, H.sel' [1, 2, 3, 0] rfl rfl⟩ ?_)
     clear h H
     rintro s60 a w o ⟨ρ, σ61, a62, c63, rfl, rfl, H⟩ h hres
     refine c_seq (c_seq (rg (sm (I s60.2) rfl (sm (Sl a55 o11 c56) rfl (st (v := (I (o11.length : Int))) (rv_len Tryz.underlying29 rfl) (st (v := (B (decide (s60.2 < (o11.length : Int))))) (rv_lss (a := s60.2) (b := (o11.length : Int)) rfl rfl) (w_end (q_then ?_))))))))
     refine cd_cond (decide (s60.2 < (o11.length : Int))) rfl (fun hb64 => ?_) (fun hb64 => ?_)
     ·replace h := bif_t hb64 h
      refine c_skip (q_then (c_seq (c_blk (rg (sm (Sl a62 s60.1 c63) rfl (sm (Sl a55 o11 c56) rfl (sm (I s60.2) rfl ?_)))))))
      revert h; refine br fun x65 hx66 h => ?_
      obtain ⟨b68, o69, hi67, -⟩ := (H.own 2 rfl).ix hx66
      refine st (v := (pt b68 o69)) (rv_ix Tryz.underlying29 ti37 rfl rfl hi67) (st (v := (pt b68 (o69 + 0))) (rv_fieldAddr (off := 0) (ft := 3) Tryz.underlying37 rfl ti3 rfl rfl) ?_)
      have hc70 := ((H.own 2 rfl).at hx66 hi67).fst.int
      refine st (v := (I x65.1)) (rv_load1 Tryz.underlying3 rfl rfl hc70) ?_
      refine st_ex (ex_buildSlice (el := n0) (xs := ([x65.1] : List Int)) (ps := [(0, (I x65.1))]) (cs := [(I x65.1)]) H hn0 Tryz.underlying26 ti3 rfl rfl (by kernel_rfl) (.cons (c := [(I x65.1)]) rfl (.nil)) rfl) wn ?_
      rintro _ σ72 ⟨b71, rfl, H, -⟩
      revert h; refine br fun xs73 hx74 h => ?_
      refine st_ex (ex_append H (i := 4) rfl Tryz.underlying26 Tryz.underlying26 ti3 rfl rfl (by decide) (H.own 0 rfl).rd hx74 hn0 rfl rfl) wn ?_
      rintro _ σ77 ⟨a75, c76, rfl, H, -⟩
      refine sa (Sl a75 xs73 c76) rfl (w_end (q_blk (q_then (rg (sm (I s60.2) rfl (st (v := (I (w64 (s60.2 + 1)))) (rv_add (a := s60.2) (b := 1) rfl rfl) (sa (I (w64 (s60.2 + 1))) rfl (w_end (q_then ?_)))))))))
      obtain rfl := sj h
      exact ⟨_, rfl, _, σ77, a75, c76, fr_join ⟨rfl, rfl, rfl, rfl, rfl, rfl, rfl, rfl, trivial⟩, rfl, H.sel' [2, 3, 4, 0] rfl rfl⟩
     ·replace h := bif_f hb64 h
      refine c_exit (q_then_x (q_then_x (q_blk_hit ?_)))
      obtain rfl := sj h
      obtain rfl := hres _ rfl
      exact ⟨rfl, _, σ61, a62, c63, fr_join ⟨rfl, rfl, rfl, rfl, rfl, rfl, trivial⟩, rfl, H.sel' [0, 1, 3] rfl rfl⟩
    ·clear hj
     have h := h'
     clear h' H
     rintro e a w ⟨rfl, ρ, σ78, a79, c80, rfl, rfl, H⟩
     refine q_then (rg (sm (Sl a6 s4.1 c7) rfl (sm (Sl a79 o59 c80) rfl ?_)))
     obtain ⟨σ81, hw82, H, -⟩ := H.pub 2 rfl (Nat.le_refl _)
     rw [← hw82]; clear hw82
     refine st_ex (ex_buildSlice (el := n0) (xs := ([o59] : List (List Int))) (ps := [(0, (Sl a79 o59 c80))]) (cs := [(Sl a79 o59 c80)]) H hn0 Tryz.underlying77 ti26 rfl rfl (by kernel_rfl) (.cons (c := [(Sl a79 o59 c80)]) ⟨_, rfl, (H.ro 0 rfl)⟩ (.nil)) rfl) wn ?_
     rintro _ σ84 ⟨b83, rfl, H, -⟩
     revert h; refine br fun xs85 hx86 h => ?_
     refine st_ex (ex_append H (i := 3) rfl Tryz.underlying77 Tryz.underlying77 ti26 rfl rfl (by decide) (H.own 0 rfl).rd hx86 hn0 rfl rfl) wn ?_
     rintro _ σ89 ⟨a87, c88, rfl, H, -⟩
     refine sa (Sl a87 xs85 c88) rfl (w_end (q_blk (q_then (rg (sm (I s4.2) rfl (st (v := (I (w64 (s4.2 + 1)))) (rv_add (a := s4.2) (b := 1) rfl rfl) (sa (I (w64 (s4.2 + 1))) rfl (w_end (q_then ?_)))))))))
     obtain rfl := sj h
     exact ⟨_, rfl, _, σ89, a87, c88, fr_join ⟨rfl, rfl, rfl, rfl, rfl, trivial⟩, rfl, H.sel' [3, 0] rfl rfl⟩
  ·replace h := bif_f hb8 h
   refine c_exit (q_then_x (q_then_x (q_blk_hit ?_)))
   obtain rfl := sj h
   obtain rfl := hres _ rfl
   exact ⟨rfl, _, σ5, a6, c7, fr_join ⟨rfl, trivial⟩, rfl, H.sel' [1] rfl rfl⟩
 ·clear hj
  have h := h'
  clear h' H
  rintro e a w ⟨rfl, ρ, σ90, a91, c92, rfl, rfl, H⟩
  refine q_then (c_seq (rg (sm (Sl a91 o3 c92) rfl (sa (Sl a91 o3 c92) rfl (w_end (q_then (c_ret ?_)))))))
  obtain rfl := sj h
  exact fin_ret (v := (Sl a91 o3 c92)) (results_ok Tryz.results52 (res_tmp (v := (Sl a91 o3 c92)) rfl res_nil) rfl) ⟨a91, c92, rfl, rfl⟩ (H.sel' [0] rfl rfl)

theorem c_spec_validKind {Bu : Int}  {r : Bool} (h : M.spec_validKind Bu = some r) :
    Cal2 Tryz.prog 58 [(I Bu)] [] (fun n0 v L => v = (B r) ∧ L = []) := by
 refine cal2 (n := 5) Tryz.func58 rfl rfl rfl rfl ?_
 intro S0 σ0 n0 hn0 H
 unfold M.spec_validKind at h
 refine c_seq (rg (sa (B false) rfl (w_end (q_then (c_seq (rg (sm (I Bu) rfl ?_)))))))
 revert h; refine br fun r1 hx2 h => ?_
 have hc3 := c_spec_inRange hx2
 refine st_call (cx_call hc3 (ent_f hc3.fn rfl) hn0 (H.sel' [] rfl rfl : Hp S0 σ0 _ ([] ++ _))) wn ?_
 rintro _ σ4 ⟨_, ⟨rfl, rfl⟩, H, -⟩
 replace H : Hp _ _ _ [] := H
 refine sa (B r1) rfl (w_end (q_then (c_ret ?_)))
 obtain rfl := sj h
 exact fin_ret (v := (B r1)) (results_ok Tryz.results58 (res_tmp (v := (B r1)) rfl res_nil) rfl) ⟨rfl, rfl⟩ (H.sel' [] rfl rfl)

theorem c_spec_isIn {Ah : List Int} {Ai : Int} {Aj : Option Addr} {Ak : Nat} {r : Bool} (h : M.spec_isIn Ah Ai = some r) :
    Cal2 Tryz.prog 59 [(Sl Aj Ah Ak), (I Ai)] [Ch.ro 0 (Sl Aj Ah Ak) Ah] (fun n0 v L => v = (B r) ∧ L = []) := by
 refine cal2 (n := 18) Tryz.func59 rfl rfl rfl rfl ?_
 intro S0 σ0 n0 hn0 H
 unfold M.spec_isIn at h
 refine c_seq (rg (sa (B false) rfl (w_end (q_then (c_seq (c_seq (rg (sa (I 0) rfl (w_end (q_then ?_))))))))))
 obtain ⟨o1, hj, h'⟩ := bind_some h
 clear h
 refine c_cut (fun e a w => (∃ t, o1 = (.inl t) ∧ e = .normal ∧ ∃ (ρ : Nat → Value) (σ : St), a = fr 18 (updL ρ []) ∧ w = σ.w ∧ Hp S0 σ0 σ []) ∨ (∃ t, o1 = (.inr t) ∧ e = .ret ∧ ∃ (ρ : Nat → Value) (σ : St), a = fr 18 (updL ρ [(4, (B t))]) ∧ w = σ.w ∧ Hp S0 σ0 σ [])) ?_ ?_
 ·clear h'
  rename _ = some o1 => h
  refine c_blk (wp_loopM _ h (fun s2 a w => ∃ (ρ : Nat → Value) (σ : St), a = fr 18 (updL ρ [(0, (Sl Aj Ah Ak)), (1, (I Ai)), (5, (I s2))]) ∧ w = σ.w ∧ Hp S0 σ0 σ [Ch.ro 0 (Sl Aj Ah Ak) Ah]) ⟨_, σ0, fr_join ⟨rfl, rfl, rfl, trivial⟩, rfl, H.sel' [0] rfl rfl⟩ ?_)
  clear h H
  rintro s2 a w o ⟨ρ, σ3, rfl, rfl, H⟩ h hres
  refine c_seq (c_seq (rg (sm (I s2) rfl (sm (Sl Aj Ah Ak) rfl (st (v := (I (Ah.length : Int))) (rv_len Tryz.underlying26 rfl) (st (v := (B (decide (s2 < (Ah.length : Int))))) (rv_lss (a := s2) (b := (Ah.length : Int)) rfl rfl) (w_end (q_then ?_))))))))
  refine cd_cond (decide (s2 < (Ah.length : Int))) rfl (fun hb4 => ?_) (fun hb4 => ?_)
  ·replace h := bif_t hb4 h
   refine c_skip (q_then (c_seq (c_blk (c_seq (rg (sm (Sl Aj Ah Ak) rfl (sm (I s2) rfl ?_)))))))
   revert h; refine br fun x5 hx6 h => ?_
   obtain ⟨b8, o9, hi7, -⟩ := (H.ro 0 rfl).ix hx6
   refine st (v := (pt b8 o9)) (rv_ix Tryz.underlying26 ti3 rfl rfl hi7) ?_
   have hc10 := ((H.ro 0 rfl).at hx6 hi7).int
   refine st (v := (I x5)) (rv_load1 Tryz.underlying3 rfl rfl hc10) (sm (I Ai) rfl (st (v := (B (x5 == Ai))) (rv_eql (a := x5) (b := Ai) rfl rfl) (w_end (q_then ?_))))
   refine cd_cond (x5 == Ai) rfl (fun hb11 => ?_) (fun hb11 => ?_)
   ·replace h := bif_t hb11 h
    refine c_seq (rg (sa (B true) rfl (w_end (q_then (c_ret (q_blk_r (q_then_r (q_then_r (q_blk_r ?_)))))))))
    obtain rfl := sj h
    obtain rfl := hres _ rfl
    exact .inr (⟨_, rfl, rfl, _, σ3, fr_join ⟨rfl, trivial⟩, rfl, H.sel' [] rfl rfl⟩)
   ·replace h := bif_f hb11 h
    refine c_skip (q_blk (q_then (rg (sm (I s2) rfl (st (v := (I (w64 (s2 + 1)))) (rv_add (a := s2) (b := 1) rfl rfl) (sa (I (w64 (s2 + 1))) rfl (w_end (q_then ?_))))))))
    obtain rfl := sj h
    exact ⟨_, rfl, _, σ3, fr_join ⟨rfl, rfl, rfl, trivial⟩, rfl, H.sel' [0] rfl rfl⟩
  ·replace h := bif_f hb4 h
   refine c_exit (q_then_x (q_then_x (q_blk_hit ?_)))
   obtain rfl := sj h
   obtain rfl := hres _ rfl
   exact .inl ⟨_, rfl, rfl, _, σ3, fr_join trivial, rfl, H.sel' [] rfl rfl⟩
 ·clear hj
  have h := h'
  clear h' H
  rintro e a w (⟨t12, rfl, rfl, ρ, σ13, rfl, rfl, H⟩ | ⟨t14, rfl, rfl, ρ, σ15, rfl, rfl, H⟩)
  ·replace h := selim_l h
   refine q_then (c_seq (rg (sa (B false) rfl (w_end (q_then (c_ret ?_))))))
   obtain rfl := sj h
   exact fin_ret (v := (B false)) (results_ok Tryz.results59 (res_tmp (v := (B false)) rfl res_nil) rfl) ⟨rfl, rfl⟩ (H.sel' [] rfl rfl)
  ·replace h := selim_r h
   refine q_then_r ?_
   obtain rfl := sj h
   exact fin_ret (v := (B t14)) (results_ok Tryz.results59 (res_tmp (v := (B t14)) rfl res_nil) rfl) ⟨rfl, rfl⟩ (H.sel' [] rfl rfl)

theorem c_spec_ReachedFrom {Ah : List (Int × (List Int) × Int)} {Bv : Int} {Bw : Int} {Fu : Int} {Aj : Option Addr} {Ak : Nat} {r : (List Int)} (h : M.spec_ReachedFrom Ah Bv Bw Fu = some r) :
    Cal2 Tryz.prog 24 [(Sl Aj Ah Ak), (I Bv), (I Bw), (I Fu)] [Ch.ro 0 (Sl Aj Ah Ak) Ah] (fun n0 v L => ∃ (az1 : Option Addr), ∃ (cz2 : Nat), v = (Sl az1 r cz2) ∧ L = [Ch.own n0 n0 (Sl az1 r cz2) r]) := by
 refine cal2 (n := 99) Tryz.func24 rfl rfl rfl rfl ?_
 intro S0 σ0 n0 hn0 H
 unfold M.spec_ReachedFrom at h
 refine c_seq (rg (sa (.slice none 0 0) rfl (w_end (q_then (c_seq (c_seq ?_))))))
 obtain ⟨o1, hj, h'⟩ := bind_some h
 clear h
 refine c_cut (fun e a w => e = .normal ∧ ∃ (ρ : Nat → Value) (σ : St), a = fr 99 (updL ρ [(0, (Sl Aj Ah Ak)), (1, (I Bv)), (2, (I Bw)), (3, (I Fu)), (34, (B o1))]) ∧ w = σ.w ∧ Hp S0 σ0 σ [Ch.ro 0 (Sl Aj Ah Ak) Ah]) ?_ ?_
 ·clear h'
  rename _ = some o1 => h
  refine rg (sm (Sl Aj Ah Ak) rfl ?_)
  revert h; refine br fun r2 hx3 h => ?_
  have hc4 := c_spec_validStore (Aj := Aj) (Ak := Ak) hx3
  refine st_call (cx_call hc4 (ent_f hc4.fn rfl) hn0 (H.sel' [0, 0] rfl rfl : Hp S0 σ0 _ ([_] ++ _))) wn ?_
  rintro _ σ5 ⟨_, ⟨rfl, rfl⟩, H, -⟩
  replace H : Hp _ _ _ [_] := H
  refine st (v := (B (!r2))) (rv_not rfl) (sm (B (!r2)) rfl ?_)
  rcases Bool.eq_false_or_eq_true (!r2) with hb6 | hb6
  ·replace h := bif_t hb6 h
   refine st_skip (congrArg some hb6) (st_skip (congrArg some hb6) (st_skip (congrArg some hb6) (st (v := (B true)) (rv_pick_t (congrArg B hb6) rfl) (sm (B true) rfl (st_skip rfl (st_skip rfl (st_skip rfl (st (v := (B true)) (rv_pick_t rfl rfl) (sm (B true) rfl (st_skip rfl (st_skip rfl ?_)))))))))))
   refine st_skip rfl (st_skip rfl (st (v := (B true)) (rv_pick_t rfl rfl) (w_end ?_)))
   obtain rfl := sj h
   exact ⟨rfl, _, σ5, fr_join ⟨rfl, rfl, rfl, rfl, rfl, trivial⟩, rfl, H.sel' [0] rfl rfl⟩
  ·replace h := bif_f hb6 h
   refine st_g (v := (I Bv)) (congrArg some hb6) (rv_move rfl) ?_
   revert h; refine br fun r7 hx8 h => ?_
   have hc9 := c_spec_validKind hx8
   refine st_call (cx_call hc9 (ent_f hc9.fn rfl) hn0 (H.sel' [0] rfl rfl : Hp S0 σ0 _ ([] ++ _))) (wanted_yes rfl (by exact (congrArg some hb6))) ?_
   rintro _ σ10 ⟨_, ⟨rfl, rfl⟩, H, -⟩
   replace H : Hp _ _ _ [_] := H
   refine st_g (v := (B (!r7))) (congrArg some hb6) (rv_not rfl) (st (v := (B (!r7))) (rv_pick_f (congrArg B hb6) rfl) (sm (B (!r7)) rfl ?_))
   rcases Bool.eq_false_or_eq_true (!r7) with hb11 | hb11
   ·replace h := bif_t hb11 h
    refine st_skip (congrArg some hb11) (st_skip (congrArg some hb11) (st_skip (congrArg some hb11) (st (v := (B true)) (rv_pick_t (congrArg B hb11) rfl) (sm (B true) rfl (st_skip rfl (st_skip rfl (st_skip rfl (st_skip rfl (st (v := (B true)) (rv_pick_t rfl rfl) (w_end ?_))))))))))
    obtain rfl := sj h
    exact ⟨rfl, _, σ10, fr_join ⟨rfl, rfl, rfl, rfl, rfl, trivial⟩, rfl, H.sel' [0] rfl rfl⟩
   ·replace h := bif_f hb11 h
    refine st_g (v := (I Bw)) (congrArg some hb11) (rv_move rfl) ?_
    revert h; refine br fun r12 hx13 h => ?_
    have hc14 := c_spec_inRange hx13
    refine st_call (cx_call hc14 (ent_f hc14.fn rfl) hn0 (H.sel' [0] rfl rfl : Hp S0 σ0 _ ([] ++ _))) (wanted_yes rfl (by exact (congrArg some hb11))) ?_
    rintro _ σ15 ⟨_, ⟨rfl, rfl⟩, H, -⟩
    replace H : Hp _ _ _ [_] := H
    refine st_g (v := (B (!r12))) (congrArg some hb11) (rv_not rfl) (st (v := (B (!r12))) (rv_pick_f (congrArg B hb11) rfl) (sm (B (!r12)) rfl ?_))
    rcases Bool.eq_false_or_eq_true (!r12) with hb16 | hb16
    ·replace h := bif_t hb16 h
     refine st_skip (congrArg some hb16) (st_skip (congrArg some hb16) (st_skip (congrArg some hb16) (st_skip (congrArg some hb16) (st (v := (B true)) (rv_pick_t (congrArg B hb16) rfl) (w_end ?_)))))
     obtain rfl := sj h
     exact ⟨rfl, _, σ15, fr_join ⟨rfl, rfl, rfl, rfl, rfl, trivial⟩, rfl, H.sel' [0] rfl rfl⟩
    ·replace h := bif_f hb16 h
     refine st_g (v := (Sl Aj Ah Ak)) (congrArg some hb16) (rv_move rfl) (st_g (v := (I Fu)) (congrArg some hb16) (rv_move rfl) ?_)
     revert h; refine br fun r17 hx18 h => ?_
     have hc19 := c_spec_keyAt (Aj := Aj) (Ak := Ak) hx18
     refine st_call (cx_call hc19 (ent_f hc19.fn rfl) hn0 (H.sel' [0, 0] rfl rfl : Hp S0 σ0 _ ([_] ++ _))) (wanted_yes rfl (by exact (congrArg some hb16))) ?_
     rintro _ σ20 ⟨_, ⟨rfl, rfl⟩, H, -⟩
     replace H : Hp _ _ _ [_] := H
     refine st_g (v := (B (decide (r17 < 0)))) (congrArg some hb16) (rv_lss (a := r17) (b := 0) rfl rfl) (st (v := (B (decide (r17 < 0)))) (rv_pick_f (congrArg B hb16) rfl) (w_end ?_))
     obtain rfl := sj h
     exact ⟨rfl, _, σ20, fr_join ⟨rfl, rfl, rfl, rfl, rfl, trivial⟩, rfl, H.sel' [0] rfl rfl⟩
 ·clear hj
  have h := h'
  clear h' H
  rintro e a w ⟨rfl, ρ, σ21, rfl, rfl, H⟩
  refine q_then ?_
  refine cd_cond o1 rfl (fun hb22 => ?_) (fun hb22 => ?_)
  ·replace h := bif_t hb22 h
   refine c_seq (rg (sa (.slice none 0 0) rfl (w_end (q_then (c_ret (q_then_r ?_))))))
   replace H := H.nilOwn Int n0 n0
   obtain rfl := sj h
   exact fin_ret (v := (.slice none 0 0)) (results_ok Tryz.results24 (res_tmp (v := (.slice none 0 0)) rfl res_nil) rfl) ⟨none, 0, rfl, rfl⟩ (H.sel' [0] rfl rfl)
  ·replace h := bif_f hb22 h
   refine c_skip (q_then (c_seq (rg (sm (Sl Aj Ah Ak) rfl (sm (I Bv) rfl (sm (I Bw) rfl ?_))))))
   revert h; refine br fun r23 hx24 h => ?_
   have hc25 := c_spec_links (Aj := Aj) (Ak := Ak) hx24
   refine st_call (cx_call hc25 (ent_f hc25.fn rfl) hn0 (H.sel' [0, 0] rfl rfl : Hp S0 σ0 _ ([_] ++ _))) wn ?_
   rintro _ σ28 ⟨_, ⟨a26, c27, rfl, rfl⟩, H, -⟩
   replace H : Hp _ _ _ [_, _] := H
   refine sa (Sl a26 r23 c27) rfl (w_end (q_then (c_seq (rg (sm (I Fu) rfl ?_)))))
   refine st_ex (ex_buildSlice (el := n0) (xs := ([Fu] : List Int)) (ps := [(0, (I Fu))]) (cs := [(I Fu)]) H hn0 Tryz.underlying26 ti3 rfl rfl (by kernel_rfl) (.cons (c := [(I Fu)]) rfl (.nil)) rfl) wn ?_
   rintro _ σ30 ⟨b29, rfl, H, -⟩
   refine sa (Sl (some ⟨b29, 0, none⟩) ([Fu] : List Int) 1) rfl (w_end (q_then (c_seq (c_seq (rg (sa (I 0) rfl (w_end (q_then ?_))))))))
   obtain ⟨o31, hj, h'⟩ := bind_some h
   clear h
   refine c_cut (fun e a w => e = .normal ∧ ∃ (ρ : Nat → Value) (σ : St) (aj1 : Option Addr) (cj2 : Nat), a = fr 99 (updL ρ [(0, (Sl Aj Ah Ak)), (10, (Sl aj1 o31 cj2))]) ∧ w = σ.w ∧ Hp S0 σ0 σ [Ch.ro 0 (Sl Aj Ah Ak) Ah, Ch.own n0 n0 (Sl aj1 o31 cj2) o31]) ?_ ?_
   ·clear h'
    rename _ = some o31 => h
    refine c_blk (wp_loopM _ h (fun s32 a w => ∃ (ρ : Nat → Value) (σ : St) (aj1 : Option Addr) (cj2 : Nat), a = fr 99 (updL ρ [(0, (Sl Aj Ah Ak)), (9, (Sl a26 r23 c27)), (10, (Sl aj1 s32.1 cj2)), (11, (I s32.2))]) ∧ w = σ.w ∧ Hp S0 σ0 σ [Ch.ro 0 (Sl Aj Ah Ak) Ah, Ch.own n0 n0 (Sl a26 r23 c27) r23, Ch.own n0 n0 (Sl aj1 s32.1 cj2) s32.1]) ⟨_, σ30, (some ⟨b29, 0, none⟩), 1, fr_join ⟨rfl, rfl, rfl, rfl, trivial⟩, rfl, H.sel' [2, 1, 0] rfl rfl⟩ ?_)
    clear h H
    rintro s32 a w o ⟨ρ, σ33, a34, c35, rfl, rfl, H⟩ h hres
    refine c_seq (c_seq (rg (sm (I s32.2) rfl (sm (Sl a34 s32.1 c35) rfl (st (v := (I (s32.1.length : Int))) (rv_len Tryz.underlying26 rfl) (st (v := (B (decide (s32.2 < (s32.1.length : Int))))) (rv_lss (a := s32.2) (b := (s32.1.length : Int)) rfl rfl) (w_end (q_then ?_))))))))
    refine cd_cond (decide (s32.2 < (s32.1.length : Int))) rfl (fun hb36 => ?_) (fun hb36 => ?_)
    ·replace h := bif_t hb36 h
     refine c_skip (q_then (c_seq (c_blk (c_seq (rg (sm (Sl a26 r23 c27) rfl (sm (Sl Aj Ah Ak) rfl (sm (Sl a34 s32.1 c35) rfl (sm (I s32.2) rfl ?_)))))))))
     revert h; refine br fun x37 hx38 h => ?_
     obtain ⟨b40, o41, hi39, -⟩ := (H.own 2 rfl).ix hx38
     refine st (v := (pt b40 o41)) (rv_ix Tryz.underlying26 ti3 rfl rfl hi39) ?_
     have hc42 := ((H.own 2 rfl).at hx38 hi39).int
     refine st (v := (I x37)) (rv_load1 Tryz.underlying3 rfl rfl hc42) ?_
     revert h; refine br fun r43 hx44 h => ?_
     have hc45 := c_spec_keyAt (Aj := Aj) (Ak := Ak) hx44
     refine st_call (cx_call hc45 (ent_f hc45.fn rfl) hn0 (H.sel' [0, 0, 1, 2] rfl rfl : Hp S0 σ0 _ ([_] ++ _))) wn ?_
     rintro _ σ46 ⟨_, ⟨rfl, rfl⟩, H, -⟩
     replace H : Hp _ _ _ [_, _, _] := H
     revert h; refine br fun x47 hx48 h => ?_
     obtain ⟨b50, o51, hi49, -⟩ := (H.own 1 rfl).ix hx48
     refine st (v := (pt b50 o51)) (rv_ix Tryz.underlying77 ti26 rfl rfl hi49) ?_
     obtain ⟨v55, hc56, hR54⟩ := ((H.own 1 rfl).at hx48 hi49).slice
     obtain ⟨a52, c53, rfl⟩ := hR54.isSl
     replace H := H.add (d := Ch.ro n0 (Sl a52 x47 c53) x47) hR54 (fun _ h => h)
     clear hR54
     refine st (v := (Sl a52 x47 c53)) (rv_load1 Tryz.underlying26 rfl rfl hc56) (sa (Sl a52 x47 c53) rfl (w_end (q_then (c_seq (rg (sa (I 0) rfl (w_end (q_then ?_))))))))
     obtain ⟨o57, hj, h'⟩ := bind_some h
     clear h
     refine c_cut (fun e a w => e = .normal ∧ ∃ (ρ : Nat → Value) (σ : St) (aj1 : Option Addr) (cj2 : Nat), a = fr 99 (updL ρ [(0, (Sl Aj Ah Ak)), (9, (Sl a26 r23 c27)), (10, (Sl aj1 o57 cj2)), (11, (I s32.2))]) ∧ w = σ.w ∧ Hp S0 σ0 σ [Ch.ro 0 (Sl Aj Ah Ak) Ah, Ch.own n0 n0 (Sl a26 r23 c27) r23, Ch.own n0 n0 (Sl aj1 o57 cj2) o57]) ?_ ?_
     ·clear h'
      rename _ = some o57 => h
      refine c_blk (wp_loopM _ h (fun s58 a w => ∃ (ρ : Nat → Value) (σ : St) (aj1 : Option Addr) (cj2 : Nat), a = fr 99 (updL ρ [(0, (Sl Aj Ah Ak)), (9, (Sl a26 r23 c27)), (10, (Sl aj1 s58.1 cj2)), (11, (I s32.2)), (12, (Sl a52 x47 c53)), (13, (I s58.2))]) ∧ w = σ.w ∧ Hp S0 σ0 σ [Ch.ro 0 (Sl Aj Ah Ak) Ah, Ch.own n0 n0 (Sl a26 r23 c27) r23, Ch.own n0 n0 (Sl aj1 s58.1 cj2) s58.1, Ch.ro n0 (Sl a52 x47 c53) x47]) ⟨_, σ46, a34, c35, fr_join ⟨rfl, rfl, rfl, rfl, rfl, rfl, trivial⟩, rfl, H.sel' [1, 2, 3, 0] rfl rfl⟩ ?_)
      clear h H
      rintro s58 a w o ⟨ρ, σ59, a60, c61, rfl, rfl, H⟩ h hres
      refine c_seq (c_seq (rg (sm (I s58.2) rfl (sm (Sl a52 x47 c53) rfl (st (v := (I (x47.length : Int))) (rv_len Tryz.underlying26 rfl) (st (v := (B (decide (s58.2 < (x47.length : Int))))) (rv_lss (a := s58.2) (b := (x47.length : Int)) rfl rfl) (w_end (q_then ?_))))))))
      refine cd_cond (decide (s58.2 < (x47.length : Int))) rfl (fun hb62 => ?_) (fun hb62 => ?_)
      ·replace h := bif_t hb62 h
       refine c_skip (q_then (c_seq ?_))
       obtain ⟨o63, hj, h'⟩ := bind_some h
       clear h
       refine c_cut (fun e a w => e = .normal ∧ ∃ (ρ : Nat → Value) (σ : St) (aj1 : Option Addr) (cj2 : Nat), a = fr 99 (updL ρ [(0, (Sl Aj Ah Ak)), (9, (Sl a26 r23 c27)), (10, (Sl aj1 o63 cj2)), (11, (I s32.2)), (12, (Sl a52 x47 c53)), (13, (I s58.2))]) ∧ w = σ.w ∧ Hp S0 σ0 σ [Ch.ro 0 (Sl Aj Ah Ak) Ah, Ch.own n0 n0 (Sl a26 r23 c27) r23, Ch.own n0 n0 (Sl aj1 o63 cj2) o63, Ch.ro n0 (Sl a52 x47 c53) x47]) ?_ ?_
       ·clear h'
        rename _ = some o63 => h
        refine c_blk (c_seq (rg (sm (Sl a60 s58.1 c61) rfl (sm (Sl a52 x47 c53) rfl (sm (I s58.2) rfl ?_)))))
        revert h; refine br fun x64 hx65 h => ?_
        obtain ⟨b67, o68, hi66, -⟩ := (H.ro 3 rfl).ix hx65
        refine st (v := (pt b67 o68)) (rv_ix Tryz.underlying26 ti3 rfl rfl hi66) ?_
        have hc69 := ((H.ro 3 rfl).at hx65 hi66).int
        refine st (v := (I x64)) (rv_load1 Tryz.underlying3 rfl rfl hc69) ?_
        revert h; refine br fun r70 hx71 h => ?_
        have hc72 := c_spec_isIn (Aj := a60) (Ak := c61) hx71
        have hle := Nat.le_trans hn0 H.size
        refine st_call (cx_lend (Loan.lend Loan.nil) hc72 (ent_f hc72.fn rfl) (show Hp S0 σ0 _ ([Ch.own n0 n0 (Sl a60 s58.1 c61) s58.1] ++ ([] ++ [Ch.ro 0 (Sl Aj Ah Ak) Ah, Ch.own n0 n0 (Sl a26 r23 c27) r23, Ch.ro n0 (Sl a52 x47 c53) x47])) from (H.sel' [2, 0, 1, 3] rfl rfl)) (by rintro _ _ _ ⟨rfl, rfl⟩; exact trivial)) wn ?_
        rintro _ σ73 ⟨_, ⟨rfl, rfl⟩, H, -, -⟩
        replace H : Hp _ _ _ [_, _, _, _] := H
        clear hle
        replace H : Hp _ _ _ [_, _, _, _] := H
        refine st (v := (B (!r70))) (rv_not rfl) (w_end (q_then ?_))
        refine cd_cond (!r70) rfl (fun hb74 => ?_) (fun hb74 => ?_)
        ·replace h := bif_t hb74 h
         refine rg (sm (Sl a60 s58.1 c61) rfl (sm (Sl a52 x47 c53) rfl (sm (I s58.2) rfl ?_)))
         revert h; refine br fun x75 hx76 h => ?_
         obtain ⟨b78, o79, hi77, -⟩ := (H.ro 3 rfl).ix hx76
         refine st (v := (pt b78 o79)) (rv_ix Tryz.underlying26 ti3 rfl rfl hi77) ?_
         have hc80 := ((H.ro 3 rfl).at hx76 hi77).int
         refine st (v := (I x75)) (rv_load1 Tryz.underlying3 rfl rfl hc80) ?_
         refine st_ex (ex_buildSlice (el := n0) (xs := ([x75] : List Int)) (ps := [(0, (I x75))]) (cs := [(I x75)]) H hn0 Tryz.underlying26 ti3 rfl rfl (by kernel_rfl) (.cons (c := [(I x75)]) rfl (.nil)) rfl) wn ?_
         rintro _ σ82 ⟨b81, rfl, H, -⟩
         revert h; refine br fun xs83 hx84 h => ?_
         refine st_ex (ex_append H (i := 1) rfl Tryz.underlying26 Tryz.underlying26 ti3 rfl rfl (by decide) (H.own 0 rfl).rd hx84 hn0 rfl rfl) wn ?_
         rintro _ σ87 ⟨a85, c86, rfl, H, -⟩
         refine sa (Sl a85 xs83 c86) rfl (w_end (q_blk ?_))
         obtain rfl := sj h
         exact ⟨rfl, _, σ87, a85, c86, fr_join ⟨rfl, rfl, rfl, rfl, rfl, rfl, trivial⟩, rfl, H.sel' [2, 3, 0, 4] rfl rfl⟩
        ·replace h := bif_f hb74 h
         refine c_skip (q_blk ?_)
         obtain rfl := sj h
         exact ⟨rfl, _, σ73, a60, c61, fr_join ⟨rfl, rfl, rfl, rfl, rfl, rfl, trivial⟩, rfl, H.sel' [1, 2, 0, 3] rfl rfl⟩
       ·clear hj
        have h := h'
        clear h' H
        rintro e a w ⟨rfl, ρ, σ88, a89, c90, rfl, rfl, H⟩
        refine q_then (rg (sm (I s58.2) rfl (st (v := (I (w64 (s58.2 + 1)))) (rv_add (a := s58.2) (b := 1) rfl rfl) (sa (I (w64 (s58.2 + 1))) rfl (w_end (q_then ?_))))))
        obtain rfl := sj h
        exact ⟨_, rfl, _, σ88, a89, c90, fr_join ⟨rfl, rfl, rfl, rfl, rfl, rfl, trivial⟩, rfl, H.sel' [0, 1, 2, 3] rfl rfl⟩
      ·replace h := bif_f hb62 h
       refine c_exit (q_then_x (q_then_x (q_blk_hit ?_)))
       obtain rfl := sj h
       obtain rfl := hres _ rfl
       exact ⟨rfl, _, σ59, a60, c61, fr_join ⟨rfl, rfl, rfl, rfl, trivial⟩, rfl, H.sel' [0, 1, 2] rfl rfl⟩
     ·clear hj
      have h := h'
      clear h' H
      rintro e a w ⟨rfl, ρ, σ91, a92, c93, rfl, rfl, H⟩
      refine q_blk (q_then (rg (sm (I s32.2) rfl (st (v := (I (w64 (s32.2 + 1)))) (rv_add (a := s32.2) (b := 1) rfl rfl) (sa (I (w64 (s32.2 + 1))) rfl (w_end (q_then ?_)))))))
      obtain rfl := sj h
      exact ⟨_, rfl, _, σ91, a92, c93, fr_join ⟨rfl, rfl, rfl, rfl, trivial⟩, rfl, H.sel' [0, 1, 2] rfl rfl⟩
    ·replace h := bif_f hb36 h
     refine c_exit (q_then_x (q_then_x (q_blk_hit ?_)))
     obtain rfl := sj h
     obtain rfl := hres _ rfl
     exact ⟨rfl, _, σ33, a34, c35, fr_join ⟨rfl, rfl, trivial⟩, rfl, H.sel' [0, 2] rfl rfl⟩
   ·clear hj
    have h := h'
    clear h' H
    rintro e a w ⟨rfl, ρ, σ94, a95, c96, rfl, rfl, H⟩
    refine q_then (c_seq (rg ?_))
    refine st_ex (ex_buildSlice (el := n0) (xs := ([] : List Int)) (ps := []) (cs := []) H hn0 Tryz.underlying26 ti3 rfl rfl (by kernel_rfl) (.nil) rfl) wn ?_
    rintro _ σ98 ⟨b97, rfl, H, -⟩
    refine sa (Sl (some ⟨b97, 0, none⟩) ([] : List Int) 0) rfl (w_end (q_then (c_seq (c_seq (rg (sa (I 0) rfl (w_end (q_then ?_))))))))
    obtain ⟨o99, hj, h'⟩ := bind_some h
    clear h
    refine c_cut (fun e a w => e = .normal ∧ ∃ (ρ : Nat → Value) (σ : St) (aj1 : Option Addr) (cj2 : Nat), a = fr 99 (updL ρ [(14, (Sl aj1 o99 cj2))]) ∧ w = σ.w ∧ Hp S0 σ0 σ [Ch.own n0 n0 (Sl aj1 o99 cj2) o99]) ?_ ?_
    ·clear h'
     rename _ = some o99 => h
     refine c_blk (wp_loopM _ h (fun s100 a w => ∃ (ρ : Nat → Value) (σ : St) (aj1 : Option Addr) (cj2 : Nat), a = fr 99 (updL ρ [(0, (Sl Aj Ah Ak)), (10, (Sl a95 o31 c96)), (14, (Sl aj1 s100.1 cj2)), (15, (I s100.2))]) ∧ w = σ.w ∧ Hp S0 σ0 σ [Ch.ro 0 (Sl Aj Ah Ak) Ah, Ch.own n0 n0 (Sl a95 o31 c96) o31, Ch.own n0 n0 (Sl aj1 s100.1 cj2) s100.1]) ⟨_, σ98, (some ⟨b97, 0, none⟩), 0, fr_join ⟨rfl, rfl, rfl, rfl, trivial⟩, rfl, H.sel' [1, 2, 0] rfl rfl⟩ ?_)
     clear h H
     rintro s100 a w o ⟨ρ, σ101, a102, c103, rfl, rfl, H⟩ h hres
     refine c_seq (c_seq (rg (sm (I s100.2) rfl (sm (Sl Aj Ah Ak) rfl (st (v := (I (Ah.length : Int))) (rv_len Tryz.underlying23 rfl) (st (v := (B (decide (s100.2 < (Ah.length : Int))))) (rv_lss (a := s100.2) (b := (Ah.length : Int)) rfl rfl) (w_end (q_then ?_))))))))
     refine cd_cond (decide (s100.2 < (Ah.length : Int))) rfl (fun hb104 => ?_) (fun hb104 => ?_)
     ·replace h := bif_t hb104 h
      refine c_skip (q_then (c_seq ?_))
      obtain ⟨o105, hj, h'⟩ := bind_some h
      clear h
      refine c_cut (fun e a w => e = .normal ∧ ∃ (ρ : Nat → Value) (σ : St) (aj1 : Option Addr) (cj2 : Nat), a = fr 99 (updL ρ [(0, (Sl Aj Ah Ak)), (10, (Sl a95 o31 c96)), (14, (Sl aj1 o105 cj2)), (15, (I s100.2))]) ∧ w = σ.w ∧ Hp S0 σ0 σ [Ch.ro 0 (Sl Aj Ah Ak) Ah, Ch.own n0 n0 (Sl a95 o31 c96) o31, Ch.own n0 n0 (Sl aj1 o105 cj2) o105]) ?_ ?_
      ·clear h'
       rename _ = some o105 => h
       refine c_blk (c_seq (rg (sm (Sl a95 o31 c96) rfl (sm (Sl Aj Ah Ak) rfl (sm (I s100.2) rfl ?_)))))
       revert h; refine br fun x106 hx107 h => ?_
       obtain ⟨b109, o110, hi108, -⟩ := (H.ro 0 rfl).ix hx107
       refine st (v := (pt b109 o110)) (rv_ix Tryz.underlying23 ti34 rfl rfl hi108) (st (v := (pt b109 (o110 + 0))) (rv_fieldAddr (off := 0) (ft := 3) Tryz.underlying34 rfl ti3 rfl rfl) ?_)
       have hc111 := ((H.ro 0 rfl).at hx107 hi108).fst.int
       refine st (v := (I x106.1)) (rv_load1 Tryz.underlying3 rfl rfl hc111) ?_
       revert h; refine br fun r112 hx113 h => ?_
       have hc114 := c_spec_isIn (Aj := a95) (Ak := c96) hx113
       have hle := Nat.le_trans hn0 H.size
       refine st_call (cx_lend (Loan.lend Loan.nil) hc114 (ent_f hc114.fn rfl) (show Hp S0 σ0 _ ([Ch.own n0 n0 (Sl a95 o31 c96) o31] ++ ([] ++ [Ch.ro 0 (Sl Aj Ah Ak) Ah, Ch.own n0 n0 (Sl a102 s100.1 c103) s100.1])) from (H.sel' [1, 0, 2] rfl rfl)) (by rintro _ _ _ ⟨rfl, rfl⟩; exact trivial)) wn ?_
       rintro _ σ115 ⟨_, ⟨rfl, rfl⟩, H, -, -⟩
       replace H : Hp _ _ _ [_, _, _] := H
       clear hle
       replace H : Hp _ _ _ [_, _, _] := H
       refine w_end (q_then ?_)
       refine cd_cond r112 rfl (fun hb116 => ?_) (fun hb116 => ?_)
       ·replace h := bif_t hb116 h
        refine rg (sm (Sl a102 s100.1 c103) rfl (sm (Sl Aj Ah Ak) rfl (sm (I s100.2) rfl ?_)))
        revert h; refine br fun x117 hx118 h => ?_
        obtain ⟨b120, o121, hi119, -⟩ := (H.ro 1 rfl).ix hx118
        refine st (v := (pt b120 o121)) (rv_ix Tryz.underlying23 ti34 rfl rfl hi119) (st (v := (pt b120 (o121 + 0))) (rv_fieldAddr (off := 0) (ft := 3) Tryz.underlying34 rfl ti3 rfl rfl) ?_)
        have hc122 := ((H.ro 1 rfl).at hx118 hi119).fst.int
        refine st (v := (I x117.1)) (rv_load1 Tryz.underlying3 rfl rfl hc122) ?_
        refine st_ex (ex_buildSlice (el := n0) (xs := ([x117.1] : List Int)) (ps := [(0, (I x117.1))]) (cs := [(I x117.1)]) H hn0 Tryz.underlying26 ti3 rfl rfl (by kernel_rfl) (.cons (c := [(I x117.1)]) rfl (.nil)) rfl) wn ?_
        rintro _ σ124 ⟨b123, rfl, H, -⟩
        revert h; refine br fun xs125 hx126 h => ?_
        refine st_ex (ex_append H (i := 3) rfl Tryz.underlying26 Tryz.underlying26 ti3 rfl rfl (by decide) (H.own 0 rfl).rd hx126 hn0 rfl rfl) wn ?_
        rintro _ σ129 ⟨a127, c128, rfl, H, -⟩
        refine sa (Sl a127 xs125 c128) rfl (w_end (q_blk ?_))
        obtain rfl := sj h
        exact ⟨rfl, _, σ129, a127, c128, fr_join ⟨rfl, rfl, rfl, rfl, trivial⟩, rfl, H.sel' [3, 2, 0] rfl rfl⟩
       ·replace h := bif_f hb116 h
        refine c_skip (q_blk ?_)
        obtain rfl := sj h
        exact ⟨rfl, _, σ115, a102, c103, fr_join ⟨rfl, rfl, rfl, rfl, trivial⟩, rfl, H.sel' [1, 0, 2] rfl rfl⟩
      ·clear hj
       have h := h'
       clear h' H
       rintro e a w ⟨rfl, ρ, σ130, a131, c132, rfl, rfl, H⟩
       refine q_then (rg (sm (I s100.2) rfl (st (v := (I (w64 (s100.2 + 1)))) (rv_add (a := s100.2) (b := 1) rfl rfl) (sa (I (w64 (s100.2 + 1))) rfl (w_end (q_then ?_))))))
       obtain rfl := sj h
       exact ⟨_, rfl, _, σ130, a131, c132, fr_join ⟨rfl, rfl, rfl, rfl, trivial⟩, rfl, H.sel' [0, 1, 2] rfl rfl⟩
     ·replace h := bif_f hb104 h
      refine c_exit (q_then_x (q_then_x (q_blk_hit ?_)))
      obtain rfl := sj h
      obtain rfl := hres _ rfl
      exact ⟨rfl, _, σ101, a102, c103, fr_join ⟨rfl, trivial⟩, rfl, H.sel' [2] rfl rfl⟩
    ·clear hj
     have h := h'
     clear h' H
     rintro e a w ⟨rfl, ρ, σ133, a134, c135, rfl, rfl, H⟩
     refine q_then (c_seq (rg (sm (Sl a134 o99 c135) rfl (sa (Sl a134 o99 c135) rfl (w_end (q_then (c_ret ?_)))))))
     obtain rfl := sj h
     exact fin_ret (v := (Sl a134 o99 c135)) (results_ok Tryz.results24 (res_tmp (v := (Sl a134 o99 c135)) rfl res_nil) rfl) ⟨a134, c135, rfl, rfl⟩ (H.sel' [0] rfl rfl)

theorem c_laws_FnReachedFromMore {Am : List UInt8} {Ao : Option Addr} {Ap : Nat} {r : Bool} (h : M.laws_FnReachedFromMore Am = some r) :
    Cal2 Tryz.prog 6 [(Sl Ao Am Ap)] [Ch.ro 0 (Sl Ao Am Ap) Am] (fun n0 v L => v = (B r) ∧ L = []) := by
 refine cal2 (n := 84) Tryz.func6 rfl rfl rfl rfl ?_
 intro S0 σ0 n0 hn0 H
 unfold M.laws_FnReachedFromMore at h
 refine c_seq (rg (sa (B false) rfl (w_end (q_then (c_seq (c_seq (rg (sm (Sl Ao Am Ap) rfl (st (v := (I (Am.length : Int))) (rv_len Tryz.underlying22 rfl) (st (v := (B (decide (1048576 < (Am.length : Int))))) (rv_gtr (a := (Am.length : Int)) (b := 1048576) rfl rfl) (w_end ?_)))))))))))
 refine q_then ?_
 refine cd_cond (decide (1048576 < (Am.length : Int))) rfl (fun hb1 => ?_) (fun hb1 => ?_)
 ·replace h := bif_t hb1 h
  refine c_seq (rg (sa (B true) rfl (w_end (q_then (c_ret (q_then_r ?_))))))
  obtain rfl := sj h
  exact fin_ret (v := (B true)) (results_ok Tryz.results6 (res_tmp (v := (B true)) rfl res_nil) rfl) ⟨rfl, rfl⟩ (H.sel' [] rfl rfl)
 ·replace h := bif_f hb1 h
  refine c_skip (q_then (c_seq (rg (sm (Sl Ao Am Ap) rfl ?_))))
  revert h; refine br fun r2 hx3 h => ?_
  have hc4 := c_spec_DrawReachedFrom (Ao := Ao) (Ap := Ap) hx3
  refine st_call (cx_call hc4 (ent_f hc4.fn rfl) hn0 (H.sel' [0, 0] rfl rfl : Hp S0 σ0 _ ([_] ++ _))) wn ?_
  rintro _ σ7 ⟨_, ⟨a5, c6, rfl, rfl⟩, H, -⟩
  replace H : Hp _ _ _ [_, _] := H
  refine sm (.tuple #[(Sl a5 r2.1 c6), (I r2.2.1), (I r2.2.2.1), (I r2.2.2.2)]) rfl (st (v := (Sl a5 r2.1 c6)) (rv_extract rfl rfl) (st (v := (I r2.2.1)) (rv_extract rfl rfl) (st (v := (I r2.2.2.1)) (rv_extract rfl rfl) (st (v := (I r2.2.2.2)) (rv_extract rfl rfl) (sa (Sl a5 r2.1 c6) rfl (sa (I r2.2.1) rfl (sa (I r2.2.2.1) rfl (sa (I r2.2.2.2) rfl (w_end (q_then (c_seq ?_)))))))))))
  refine rg (sm (Sl a5 r2.1 c6) rfl (sm (I r2.2.1) rfl (sm (I r2.2.2.1) rfl (sm (I r2.2.2.2) rfl ?_))))
  replace H := H.roLow 0 0 rfl (Nat.zero_le _)
  revert h; refine br fun r8 hx9 h => ?_
  have hc10 := c_impl_ReachedFrom (Aj := a5) (Ak := c6) hx9
  refine st_call (cx_call hc10 (ent_f hc10.fn rfl) hn0 (H.sel' [0, 0, 1, 2] rfl rfl : Hp S0 σ0 _ ([_] ++ _))) wn ?_
  rintro _ σ13 ⟨_, ⟨a11, c12, rfl, rfl⟩, H, -⟩
  replace H : Hp _ _ _ [_, _, _, _] := H
  refine sa (Sl a11 r8 c12) rfl (w_end (q_then (c_seq (c_seq ?_))))
  obtain ⟨o14, hj, h'⟩ := bind_some h
  clear h
  refine c_cut (fun e a w => e = .normal ∧ ∃ (ρ : Nat → Value) (σ : St), a = fr 84 (updL ρ [(3, (Sl a5 r2.1 c6)), (4, (I r2.2.1)), (5, (I r2.2.2.1)), (6, (I r2.2.2.2)), (7, (Sl a11 r8 c12)), (41, (B o14))]) ∧ w = σ.w ∧ Hp S0 σ0 σ [Ch.ro n0 (Sl a5 r2.1 c6) r2.1, Ch.own 0 n0 (Sl a11 r8 c12) r8]) ?_ ?_
  ·clear h'
   rename _ = some o14 => h
   refine rg (sm (Sl a11 r8 c12) rfl (sm (Sl a5 r2.1 c6) rfl (sm (I r2.2.1) rfl (sm (I r2.2.2.1) rfl (sm (I r2.2.2.2) rfl ?_)))))
   replace H := H.roLow 2 0 rfl (Nat.zero_le _)
   revert h; refine br fun r15 hx16 h => ?_
   have hc17 := c_spec_ReachedFrom (Aj := a5) (Ak := c6) hx16
   refine st_call (cx_call hc17 (ent_f hc17.fn rfl) hn0 (H.sel' [0, 0, 1, 2, 3, 4] rfl rfl : Hp S0 σ0 _ ([_] ++ _))) wn ?_
   rintro _ σ20 ⟨_, ⟨a18, c19, rfl, rfl⟩, H, -⟩
   replace H : Hp _ _ _ [_, _, _, _, _, _] := H
   obtain ⟨σ21, hw22, H, -⟩ := H.pub 0 rfl (Nat.le_refl _)
   rw [← hw22]; clear hw22
   replace H := H.roLow 0 0 rfl (Nat.zero_le _)
   revert h; refine br fun r23 hx24 h => ?_
   have hc25 := c_laws_equalInts (Ad := a11) (Ae := c12) (Af := a18) (Ag := c19) hx24
   have hle := Nat.le_trans hn0 H.size
   refine st_call (cx_lend (Loan.lend (Loan.same Loan.nil)) hc25 (ent_f hc25.fn rfl) (show Hp S0 σ0 _ ([Ch.own 0 n0 (Sl a11 r8 c12) r8] ++ ([Ch.ro 0 (Sl a18 r15 c19) r15] ++ [Ch.ro 0 (Sl a18 r15 c19) r15, Ch.ro n0 (Sl a18 r15 c19) r15, Ch.ro 0 (Sl a5 r2.1 c6) r2.1, Ch.ro 0 (Sl a5 r2.1 c6) r2.1, Ch.ro n0 (Sl a5 r2.1 c6) r2.1, Ch.ro 0 (Sl Ao Am Ap) Am])) from (H.sel' [3, 0, 0, 1, 2, 4, 5, 6] rfl rfl)) (by rintro _ _ _ ⟨rfl, rfl⟩; exact trivial)) wn ?_
   rintro _ σ26 ⟨_, ⟨rfl, rfl⟩, H, -, -⟩
   replace H : Hp _ _ _ [_, _, _, _, _, _, _] := H
   clear hle
   replace H : Hp _ _ _ [_, _, _, _, _, _, _] := H
   refine st (v := (B (!r23))) (rv_not rfl) (sm (B (!r23)) rfl ?_)
   rcases Bool.eq_false_or_eq_true (!r23) with hb27 | hb27
   ·replace h := bif_t hb27 h
    refine st_skip (congrArg some hb27) (st_skip (congrArg some hb27) (st_skip (congrArg some hb27) (st (v := (B true)) (rv_pick_t (congrArg B hb27) rfl) (sm (B true) rfl (st_skip rfl (st_skip rfl (st (v := (B true)) (rv_pick_t rfl rfl) (w_end ?_))))))))
    obtain rfl := sj h
    exact ⟨rfl, _, σ26, fr_join ⟨rfl, rfl, rfl, rfl, rfl, rfl, trivial⟩, rfl, H.sel' [5, 0] rfl rfl⟩
   ·replace h := bif_f hb27 h
    refine st_g (v := (Sl a11 r8 c12)) (congrArg some hb27) (rv_move rfl) (st_g (v := (I (r8.length : Int))) (congrArg some hb27) (rv_len Tryz.underlying26 rfl) (st_g (v := (B ((r8.length : Int) == 0))) (congrArg some hb27) (rv_eql (a := (r8.length : Int)) (b := 0) rfl rfl) (st (v := (B ((r8.length : Int) == 0))) (rv_pick_f (congrArg B hb27) rfl) (sm (B ((r8.length : Int) == 0)) rfl ?_))))
    rcases Bool.eq_false_or_eq_true ((r8.length : Int) == 0) with hb28 | hb28
    ·replace h := bif_t hb28 h
     refine st_skip (congrArg some hb28) (st_skip (congrArg some hb28) (st (v := (B true)) (rv_pick_t (congrArg B hb28) rfl) (w_end ?_)))
     obtain rfl := sj h
     exact ⟨rfl, _, σ26, fr_join ⟨rfl, rfl, rfl, rfl, rfl, rfl, trivial⟩, rfl, H.sel' [5, 0] rfl rfl⟩
    ·replace h := bif_f hb28 h
     refine st_g (v := (I r2.2.2.1)) (congrArg some hb28) (rv_move rfl) (st_g (v := (B (r2.2.2.1 == 5))) (congrArg some hb28) (rv_eql (a := r2.2.2.1) (b := 5) rfl rfl) (st (v := (B (r2.2.2.1 == 5))) (rv_pick_f (congrArg B hb28) rfl) (w_end ?_)))
     obtain rfl := sj h
     exact ⟨rfl, _, σ26, fr_join ⟨rfl, rfl, rfl, rfl, rfl, rfl, trivial⟩, rfl, H.sel' [5, 0] rfl rfl⟩
  ·clear hj
   have h := h'
   clear h' H
   rintro e a w ⟨rfl, ρ, σ29, rfl, rfl, H⟩
   refine q_then ?_
   refine cd_cond o14 rfl (fun hb30 => ?_) (fun hb30 => ?_)
   ·replace h := bif_t hb30 h
    refine c_seq (rg (sm (Sl a11 r8 c12) rfl (sm (Sl a5 r2.1 c6) rfl (sm (I r2.2.1) rfl (sm (I r2.2.2.1) rfl (sm (I r2.2.2.2) rfl ?_))))))
    replace H := H.roLow 0 0 rfl (Nat.zero_le _)
    revert h; refine br fun r31 hx32 h => ?_
    have hc33 := c_spec_ReachedFrom (Aj := a5) (Ak := c6) hx32
    refine st_call (cx_call hc33 (ent_f hc33.fn rfl) hn0 (H.sel' [0, 0, 1, 2] rfl rfl : Hp S0 σ0 _ ([_] ++ _))) wn ?_
    rintro _ σ36 ⟨_, ⟨a34, c35, rfl, rfl⟩, H, -⟩
    replace H : Hp _ _ _ [_, _, _, _] := H
    replace H := H.ownLow 3 0 0 rfl (Nat.le_refl _) (Nat.zero_le _)
    obtain ⟨σ37, hw38, H, -⟩ := H.pub 0 rfl (Nat.le_refl _)
    rw [← hw38]; clear hw38
    obtain ⟨σ39, hw40, H, -⟩ := H.pub 1 rfl (Nat.le_refl _)
    rw [← hw40]; clear hw40
    replace H := H.roLow 0 0 rfl (Nat.zero_le _)
    revert h; refine br fun r41 hx42 h => ?_
    have hc43 := c_laws_equalInts (Ad := a11) (Ae := c12) (Af := a34) (Ag := c35) hx42
    refine st_call (cx_call hc43 (ent_f hc43.fn rfl) hn0 (H.sel' [2, 0, 0, 1, 2, 3, 4] rfl rfl : Hp S0 σ0 _ ([_, _] ++ _))) wn ?_
    rintro _ σ44 ⟨_, ⟨rfl, rfl⟩, H, -⟩
    replace H : Hp _ _ _ [_, _, _, _, _] := H
    refine sa (B r41) rfl (w_end (q_then (c_ret (q_then_r ?_))))
    obtain rfl := sj h
    exact fin_ret (v := (B r41)) (results_ok Tryz.results6 (res_tmp (v := (B r41)) rfl res_nil) rfl) ⟨rfl, rfl⟩ (H.sel' [] rfl rfl)
   ·replace h := bif_f hb30 h
    refine c_skip (q_then (c_seq (rg (sm (Sl a5 r2.1 c6) rfl (sm (I r2.2.1) rfl (sm (I r2.2.2.1) rfl (st (v := (I (w64 (r2.2.2.1 + 1)))) (rv_add (a := r2.2.2.1) (b := 1) rfl rfl) (sm (I r2.2.2.2) rfl ?_))))))))
    replace H := H.roLow 0 0 rfl (Nat.zero_le _)
    revert h; refine br fun r45 hx46 h => ?_
    have hc47 := c_impl_ReachedFrom (Aj := a5) (Ak := c6) hx46
    refine st_call (cx_call hc47 (ent_f hc47.fn rfl) hn0 (H.sel' [0, 0, 1, 2] rfl rfl : Hp S0 σ0 _ ([_] ++ _))) wn ?_
    rintro _ σ50 ⟨_, ⟨a48, c49, rfl, rfl⟩, H, -⟩
    replace H : Hp _ _ _ [_, _, _, _] := H
    refine sa (Sl a48 r45 c49) rfl (w_end (q_then (c_seq (c_seq (rg (sa (I 0) rfl (w_end (q_then ?_))))))))
    obtain ⟨o51, hj, h'⟩ := bind_some h
    clear h
    refine c_cut (fun e a w => (∃ t, o51 = (.inl t) ∧ e = .normal ∧ ∃ (ρ : Nat → Value) (σ : St), a = fr 84 (updL ρ []) ∧ w = σ.w ∧ Hp S0 σ0 σ []) ∨ (∃ t, o51 = (.inr t) ∧ e = .ret ∧ ∃ (ρ : Nat → Value) (σ : St), a = fr 84 (updL ρ [(2, (B t))]) ∧ w = σ.w ∧ Hp S0 σ0 σ [])) ?_ ?_
    ·clear h'
     rename _ = some o51 => h
     refine c_blk ?_
     replace H := H.ownLow 0 0 0 rfl (Nat.le_refl _) (Nat.zero_le _)
     obtain ⟨σ53, hw54, H, -⟩ := H.pub 0 rfl (Nat.le_refl _)
     rw [← hw54]; clear hw54
     refine wp_loopM _ h (fun s52 a w => ∃ (ρ : Nat → Value) (σ : St), a = fr 84 (updL ρ [(7, (Sl a11 r8 c12)), (8, (Sl a48 r45 c49)), (9, (I s52))]) ∧ w = σ.w ∧ Hp S0 σ0 σ [Ch.own 0 n0 (Sl a11 r8 c12) r8, Ch.ro 0 (Sl a48 r45 c49) r45]) ⟨_, σ53, fr_join ⟨rfl, rfl, rfl, trivial⟩, rfl, H.sel' [3, 0] rfl rfl⟩ ?_
     clear h H
     rintro s52 a w o ⟨ρ, σ55, rfl, rfl, H⟩ h hres
     refine c_seq (c_seq (rg (sm (I s52) rfl (sm (Sl a11 r8 c12) rfl (st (v := (I (r8.length : Int))) (rv_len Tryz.underlying26 rfl) (st (v := (B (decide (s52 < (r8.length : Int))))) (rv_lss (a := s52) (b := (r8.length : Int)) rfl rfl) (w_end (q_then ?_))))))))
     refine cd_cond (decide (s52 < (r8.length : Int))) rfl (fun hb56 => ?_) (fun hb56 => ?_)
     ·replace h := bif_t hb56 h
      refine c_skip (q_then (c_seq (c_blk (c_seq ?_))))
      obtain ⟨o57, hj, h'⟩ := bind_some h
      clear h
      refine c_cut (fun e a w => e = .normal ∧ ∃ (ρ : Nat → Value) (σ : St), a = fr 84 (updL ρ [(7, (Sl a11 r8 c12)), (8, (Sl a48 r45 c49)), (9, (I s52)), (83, (B o57))]) ∧ w = σ.w ∧ Hp S0 σ0 σ [Ch.own 0 n0 (Sl a11 r8 c12) r8, Ch.ro 0 (Sl a48 r45 c49) r45]) ?_ ?_
      ·clear h'
       rename _ = some o57 => h
       revert h; refine br fun x58 hx59 h => ?_
       obtain ⟨b61, o62, hi60, -⟩ := (H.own 0 rfl).ix hx59
       have hc63 := ((H.own 0 rfl).at hx59 hi60).int
       revert h; refine br fun r64 hx65 h => ?_
       have hc66 := c_laws_isIn (Aj := a48) (Ak := c49) hx65
       rcases Bool.eq_false_or_eq_true (!r64) with hb67 | hb67
       ·replace h := bif_t hb67 h
        have Hs := H
        refine rg2 (σ := σ55) (Nm := Unit) 20 [5] [[false], [true]] [[(0, 0)], [(0, 0)], [(0, 0)], [(0, 0)], [(0, 0)], [(0, 1)], [(1, 1)], [(1, 1)], [(1, 1)], [(1, 1)], [(1, 1)], [(1, 1)], [(1, 1)], [(1, 1)], [(1, 1)], [(1, 1)], [(1, 1)], [(1, 1)], [(1, 1)], [(1, 1)]] 1 [fun _ => fun σm => Hp S0 σ0 σm [Ch.own 0 n0 (Sl a11 r8 c12) r8, Ch.ro 0 (Sl a48 r45 c49) r45] ∧ Md (cov []) σ55 σm, fun _ => fun σm => Hp S0 σ0 σm [Ch.own 0 n0 (Sl a11 r8 c12) r8, Ch.ro 0 (Sl a48 r45 c49) r45] ∧ Md (cov []) σ55 σm] [fun _ => (Sl a48 r45 c49), fun _ => (Sl a11 r8 c12), fun _ => (I s52), fun _ => (pt b61 o62), fun _ => (I x58), fun _ => (B r64), fun _ => (B (!r64)), fun _ => (B (!r64)), fun _ => undef, fun _ => undef, fun _ => undef, fun _ => undef, fun _ => undef, fun _ => undef, fun _ => undef, fun _ => undef, fun _ => undef, fun _ => undef, fun _ => undef, fun _ => undef] () (by kernel_rfl) (by kernel_rfl) ?_ ?_ ?_
        ·intro σm m0
         exact ⟨H.grow (m0.mono fun _ h => h.elim), m0⟩
        ·refine ac rfl (by
           intro k _nm ρ σm hJ hoff hdep
           have e8 := look_off (N := 84) (hoff 8 rfl) rfl
           exact dp_v (v := (Sl a48 r45 c49)) wn (rv_move e8) rfl hJ) ?_
         refine ac rfl (by
           intro k _nm ρ σm hJ hoff hdep
           have e7 := look_off (N := 84) (hoff 7 rfl) rfl
           exact dp_v (v := (Sl a11 r8 c12)) wn (rv_move e7) rfl hJ) ?_
         refine ac rfl (by
           intro k _nm ρ σm hJ hoff hdep
           have e9 := look_off (N := 84) (hoff 9 rfl) rfl
           exact dp_v (v := (I s52)) wn (rv_move e9) rfl hJ) ?_
         refine ac rfl (by
           intro k _nm ρ σm hJ hoff hdep
           have e62 := hdep 1 rfl rfl 62 rfl
           have e63 := hdep 2 rfl rfl 63 rfl
           exact dp_v (v := (pt b61 o62)) wn (rv_ix Tryz.underlying26 ti3 e62 e63 hi60) rfl hJ) ?_
         refine all_cons (by
           refine ⟨?_, ?_⟩
           ·intro _nm ρ σm hJ hoff hdep
            have e64 := hdep 3 rfl rfl 64 rfl
            obtain ⟨H, m⟩ := id hJ
            have hc63 := ((H.own 0 rfl).at hx59 hi60).int
            exact dp_v (v := (I x58)) wn (rv_load1 Tryz.underlying3 rfl e64 hc63) rfl hJ
           trivial) ?_
         refine all_cons (by
           refine ⟨?_, ?_⟩
           ·intro _nm ρ σm hJ hoff hdep
            have e61 : look 84 ρ 61 = (Sl a48 r45 c49) := hdep 0 rfl rfl 61 rfl
            have e65 : look 84 ρ 65 = (I x58) := hdep 4 rfl rfl 65 rfl
            obtain ⟨H, m⟩ := id hJ
            refine dp_cx wn (cx_call hc66 (ent_f hc66.fn (by show [look 84 ρ 61, look 84 ρ 65] = _; rw [e61, e65])) hn0 (H.sel' [1, 0, 1] rfl rfl : Hp S0 σ0 _ ([_] ++ _))) ?_
            rintro _ σq ⟨_, ⟨rfl, rfl⟩, H2, m2⟩
            exact ⟨_, (), rfl, rfl, ⟨H2.sel' [0, 1] rfl rfl, m.comp0 (m2.mono (fun i h => by simp [cov, Ch.ro] at h))⟩, stab [0, 1, 2, 3, 4] (by kernel_rfl) ⟨rfl, rfl, rfl, rfl, rfl, trivial⟩⟩
           trivial) ?_
         refine ac rfl (by
           intro k _nm ρ σm hJ hoff hdep
           have e66 := hdep 5 rfl rfl 66 rfl
           exact dp_v (v := (B (!r64))) wn (rv_not e66) rfl hJ) ?_
         refine ac rfl (by
           intro k _nm ρ σm hJ hoff hdep
           have e67 := hdep 6 rfl rfl 67 rfl
           exact dp_v (v := (B (!r64))) wn (rv_move e67) rfl hJ) ?_
         refine ac rfl (by
           intro k _nm ρ σm hJ hoff hdep
           have e68 := hdep 7 rfl rfl 68 rfl
           exact dp_skip (wanted_no rfl (yv_of rfl (e68.trans (congrArg B hb67)))) rfl hJ) ?_
         refine ac rfl (by
           intro k _nm ρ σm hJ hoff hdep
           have e68 := hdep 7 rfl rfl 68 rfl
           exact dp_skip (wanted_no rfl (yv_of rfl (e68.trans (congrArg B hb67)))) rfl hJ) ?_
         refine ac rfl (by
           intro k _nm ρ σm hJ hoff hdep
           have e68 := hdep 7 rfl rfl 68 rfl
           exact dp_skip (wanted_no rfl (yv_of rfl (e68.trans (congrArg B hb67)))) rfl hJ) ?_
         refine ac rfl (by
           intro k _nm ρ σm hJ hoff hdep
           have e71 := hdep 10 rfl rfl 71 rfl
           exact dp_skip (wanted_u rfl (yv_undef rfl e71)) rfl hJ) ?_
         refine ac rfl (by
           intro k _nm ρ σm hJ hoff hdep
           have e71 := hdep 10 rfl rfl 71 rfl
           exact dp_skip (wanted_u rfl (yv_undef rfl e71)) rfl hJ) ?_
         refine ac rfl (by
           intro k _nm ρ σm hJ hoff hdep
           have e71 := hdep 10 rfl rfl 71 rfl
           exact dp_skip (wanted_u rfl (yv_undef rfl e71)) rfl hJ) ?_
         refine ac rfl (by
           intro k _nm ρ σm hJ hoff hdep
           have e71 := hdep 10 rfl rfl 71 rfl
           exact dp_skip (wanted_u rfl (yv_undef rfl e71)) rfl hJ) ?_
         refine ac rfl (by
           intro k _nm ρ σm hJ hoff hdep
           have e71 := hdep 10 rfl rfl 71 rfl
           exact dp_skip (wanted_u rfl (yv_undef rfl e71)) rfl hJ) ?_
         refine ac rfl (by
           intro k _nm ρ σm hJ hoff hdep
           have e71 := hdep 10 rfl rfl 71 rfl
           exact dp_skip (wanted_u rfl (yv_undef rfl e71)) rfl hJ) ?_
         refine ac rfl (by
           intro k _nm ρ σm hJ hoff hdep
           have e71 := hdep 10 rfl rfl 71 rfl
           exact dp_skip (wanted_u rfl (yv_undef rfl e71)) rfl hJ) ?_
         refine ac rfl (by
           intro k _nm ρ σm hJ hoff hdep
           have e71 := hdep 10 rfl rfl 71 rfl
           exact dp_skip (wanted_u rfl (yv_undef rfl e71)) rfl hJ) ?_
         refine ac rfl (by
           intro k _nm ρ σm hJ hoff hdep
           have e71 := hdep 10 rfl rfl 71 rfl
           exact dp_skip (wanted_u rfl (yv_undef rfl e71)) rfl hJ) ?_
         exact all_nil
        ·intro _nm ρ σ68 hJ hoff hrel
         have e7 := look_off (N := 84) (hoff 7 rfl) rfl
         have e8 := look_off (N := 84) (hoff 8 rfl) rfl
         have e9 := look_off (N := 84) (hoff 9 rfl) rfl
         have e68 := hrel 7 rfl 68 rfl
         have e71 := hrel 10 rfl 71 rfl
         have e75 := hrel 14 rfl 75 rfl
         have e80 := hrel 19 rfl 80 rfl
         obtain ⟨H, -⟩ := (show Hp S0 σ0 σ68 [Ch.own 0 n0 (Sl a11 r8 c12) r8, Ch.ro 0 (Sl a48 r45 c49) r45] ∧ Md (cov []) σ55 σ68 from hJ)
         clear hJ Hs
         rw [fr_lookL (L := [(7, (Sl a11 r8 c12)), (8, (Sl a48 r45 c49)), (9, (I s52)), (68, (B (!r64))), (71, undef), (75, undef), (80, undef)]) ⟨e7, e8, e9, e68, e71, e75, e80, trivial⟩]
         clear hoff hrel e7 e8 e9 e68 e71 e75 e80
         refine st_skip_u rfl (st_skip (congrArg some hb67) (st (v := (B true)) (rv_pick_t (congrArg B hb67) rfl) (w_end ?_)))
         obtain rfl := sj h
         exact ⟨rfl, _, σ68, fr_join ⟨rfl, rfl, rfl, rfl, trivial⟩, rfl, H.sel' [0, 1] rfl rfl⟩
       ·replace h := bif_f hb67 h
        rcases Bool.eq_false_or_eq_true (decide (0 < s52)) with hb69 | hb69
        ·replace h := bif_t hb69 h
         revert h; refine br fun x70 hx71 h => ?_
         obtain ⟨b73, o74, hi72, -⟩ := (H.own 0 rfl).ix hx71
         have hc75 := ((H.own 0 rfl).at hx71 hi72).int
         revert h; refine br fun x76 hx77 h => ?_
         obtain ⟨b79, o80, hi78, -⟩ := (H.own 0 rfl).ix hx77
         have hc81 := ((H.own 0 rfl).at hx77 hi78).int
         have Hs := H
         refine rg2 (σ := σ55) (Nm := Unit) 20 [5] [[false], [true]] [[(0, 0)], [(0, 0)], [(0, 0)], [(0, 0)], [(0, 0)], [(0, 1)], [(1, 1)], [(1, 1)], [(1, 1)], [(1, 1)], [(1, 1)], [(1, 1)], [(1, 1)], [(1, 1)], [(1, 1)], [(1, 1)], [(1, 1)], [(1, 1)], [(1, 1)], [(1, 1)]] 1 [fun _ => fun σm => Hp S0 σ0 σm [Ch.own 0 n0 (Sl a11 r8 c12) r8, Ch.ro 0 (Sl a48 r45 c49) r45] ∧ Md (cov []) σ55 σm, fun _ => fun σm => Hp S0 σ0 σm [Ch.own 0 n0 (Sl a11 r8 c12) r8, Ch.ro 0 (Sl a48 r45 c49) r45] ∧ Md (cov []) σ55 σm] [fun _ => (Sl a48 r45 c49), fun _ => (Sl a11 r8 c12), fun _ => (I s52), fun _ => (pt b61 o62), fun _ => (I x58), fun _ => (B r64), fun _ => (B (!r64)), fun _ => (B (!r64)), fun _ => (I s52), fun _ => (B (decide (0 < s52))), fun _ => (B (decide (0 < s52))), fun _ => (Sl a11 r8 c12), fun _ => (I s52), fun _ => (pt b73 o74), fun _ => (I x70), fun _ => (Sl a11 r8 c12), fun _ => (I s52), fun _ => (I (w64 (s52 - 1))), fun _ => (pt b79 o80), fun _ => (I x76)] () (by kernel_rfl) (by kernel_rfl) ?_ ?_ ?_
         ·intro σm m0
          exact ⟨H.grow (m0.mono fun _ h => h.elim), m0⟩
         ·refine ac rfl (by
            intro k _nm ρ σm hJ hoff hdep
            have e8 := look_off (N := 84) (hoff 8 rfl) rfl
            exact dp_v (v := (Sl a48 r45 c49)) wn (rv_move e8) rfl hJ) ?_
          refine ac rfl (by
            intro k _nm ρ σm hJ hoff hdep
            have e7 := look_off (N := 84) (hoff 7 rfl) rfl
            exact dp_v (v := (Sl a11 r8 c12)) wn (rv_move e7) rfl hJ) ?_
          refine ac rfl (by
            intro k _nm ρ σm hJ hoff hdep
            have e9 := look_off (N := 84) (hoff 9 rfl) rfl
            exact dp_v (v := (I s52)) wn (rv_move e9) rfl hJ) ?_
          refine ac rfl (by
            intro k _nm ρ σm hJ hoff hdep
            have e62 := hdep 1 rfl rfl 62 rfl
            have e63 := hdep 2 rfl rfl 63 rfl
            exact dp_v (v := (pt b61 o62)) wn (rv_ix Tryz.underlying26 ti3 e62 e63 hi60) rfl hJ) ?_
          refine all_cons (by
            refine ⟨?_, ?_⟩
            ·intro _nm ρ σm hJ hoff hdep
             have e64 := hdep 3 rfl rfl 64 rfl
             obtain ⟨H, m⟩ := id hJ
             have hc63 := ((H.own 0 rfl).at hx59 hi60).int
             exact dp_v (v := (I x58)) wn (rv_load1 Tryz.underlying3 rfl e64 hc63) rfl hJ
            trivial) ?_
          refine all_cons (by
            refine ⟨?_, ?_⟩
            ·intro _nm ρ σm hJ hoff hdep
             have e61 : look 84 ρ 61 = (Sl a48 r45 c49) := hdep 0 rfl rfl 61 rfl
             have e65 : look 84 ρ 65 = (I x58) := hdep 4 rfl rfl 65 rfl
             obtain ⟨H, m⟩ := id hJ
             refine dp_cx wn (cx_call hc66 (ent_f hc66.fn (by show [look 84 ρ 61, look 84 ρ 65] = _; rw [e61, e65])) hn0 (H.sel' [1, 0, 1] rfl rfl : Hp S0 σ0 _ ([_] ++ _))) ?_
             rintro _ σq ⟨_, ⟨rfl, rfl⟩, H2, m2⟩
             exact ⟨_, (), rfl, rfl, ⟨H2.sel' [0, 1] rfl rfl, m.comp0 (m2.mono (fun i h => by simp [cov, Ch.ro] at h))⟩, stab [0, 1, 2, 3, 4] (by kernel_rfl) ⟨rfl, rfl, rfl, rfl, rfl, trivial⟩⟩
            trivial) ?_
          refine ac rfl (by
            intro k _nm ρ σm hJ hoff hdep
            have e66 := hdep 5 rfl rfl 66 rfl
            exact dp_v (v := (B (!r64))) wn (rv_not e66) rfl hJ) ?_
          refine ac rfl (by
            intro k _nm ρ σm hJ hoff hdep
            have e67 := hdep 6 rfl rfl 67 rfl
            exact dp_v (v := (B (!r64))) wn (rv_move e67) rfl hJ) ?_
          refine ac rfl (by
            intro k _nm ρ σm hJ hoff hdep
            have e9 := look_off (N := 84) (hoff 9 rfl) rfl
            have e68 := hdep 7 rfl rfl 68 rfl
            exact dp_v (v := (I s52)) (wanted_yes rfl (yv_of rfl (e68.trans (congrArg B hb67)))) (rv_move e9) rfl hJ) ?_
          refine ac rfl (by
            intro k _nm ρ σm hJ hoff hdep
            have e69 := hdep 8 rfl rfl 69 rfl
            have e68 := hdep 7 rfl rfl 68 rfl
            exact dp_v (v := (B (decide (0 < s52)))) (wanted_yes rfl (yv_of rfl (e68.trans (congrArg B hb67)))) (rv_gtr (a := s52) (b := 0) e69 rfl) rfl hJ) ?_
          refine ac rfl (by
            intro k _nm ρ σm hJ hoff hdep
            have e70 := hdep 9 rfl rfl 70 rfl
            have e68 := hdep 7 rfl rfl 68 rfl
            exact dp_v (v := (B (decide (0 < s52)))) (wanted_yes rfl (yv_of rfl (e68.trans (congrArg B hb67)))) (rv_move e70) rfl hJ) ?_
          refine ac rfl (by
            intro k _nm ρ σm hJ hoff hdep
            have e7 := look_off (N := 84) (hoff 7 rfl) rfl
            have e71 := hdep 10 rfl rfl 71 rfl
            exact dp_v (v := (Sl a11 r8 c12)) (wanted_yes rfl (yv_of rfl (e71.trans (congrArg B hb69)))) (rv_move e7) rfl hJ) ?_
          refine ac rfl (by
            intro k _nm ρ σm hJ hoff hdep
            have e9 := look_off (N := 84) (hoff 9 rfl) rfl
            have e71 := hdep 10 rfl rfl 71 rfl
            exact dp_v (v := (I s52)) (wanted_yes rfl (yv_of rfl (e71.trans (congrArg B hb69)))) (rv_move e9) rfl hJ) ?_
          refine ac rfl (by
            intro k _nm ρ σm hJ hoff hdep
            have e72 := hdep 11 rfl rfl 72 rfl
            have e73 := hdep 12 rfl rfl 73 rfl
            have e71 := hdep 10 rfl rfl 71 rfl
            exact dp_v (v := (pt b73 o74)) (wanted_yes rfl (yv_of rfl (e71.trans (congrArg B hb69)))) (rv_ix Tryz.underlying26 ti3 e72 e73 hi72) rfl hJ) ?_
          refine all_cons (by
            refine ⟨?_, ?_⟩
            ·intro _nm ρ σm hJ hoff hdep
             have e74 := hdep 13 rfl rfl 74 rfl
             have e71 := hdep 10 rfl rfl 71 rfl
             obtain ⟨H, m⟩ := id hJ
             have hc75 := ((H.own 0 rfl).at hx71 hi72).int
             exact dp_v (v := (I x70)) (wanted_yes rfl (yv_of rfl (e71.trans (congrArg B hb69)))) (rv_load1 Tryz.underlying3 rfl e74 hc75) rfl hJ
            trivial) ?_
          refine ac rfl (by
            intro k _nm ρ σm hJ hoff hdep
            have e7 := look_off (N := 84) (hoff 7 rfl) rfl
            have e71 := hdep 10 rfl rfl 71 rfl
            exact dp_v (v := (Sl a11 r8 c12)) (wanted_yes rfl (yv_of rfl (e71.trans (congrArg B hb69)))) (rv_move e7) rfl hJ) ?_
          refine ac rfl (by
            intro k _nm ρ σm hJ hoff hdep
            have e9 := look_off (N := 84) (hoff 9 rfl) rfl
            have e71 := hdep 10 rfl rfl 71 rfl
            exact dp_v (v := (I s52)) (wanted_yes rfl (yv_of rfl (e71.trans (congrArg B hb69)))) (rv_move e9) rfl hJ) ?_
          refine ac rfl (by
            intro k _nm ρ σm hJ hoff hdep
            have e77 := hdep 16 rfl rfl 77 rfl
            have e71 := hdep 10 rfl rfl 71 rfl
            exact dp_v (v := (I (w64 (s52 - 1)))) (wanted_yes rfl (yv_of rfl (e71.trans (congrArg B hb69)))) (rv_sub (a := s52) (b := 1) e77 rfl) rfl hJ) ?_
          refine ac rfl (by
            intro k _nm ρ σm hJ hoff hdep
            have e76 := hdep 15 rfl rfl 76 rfl
            have e78 := hdep 17 rfl rfl 78 rfl
            have e71 := hdep 10 rfl rfl 71 rfl
            exact dp_v (v := (pt b79 o80)) (wanted_yes rfl (yv_of rfl (e71.trans (congrArg B hb69)))) (rv_ix Tryz.underlying26 ti3 e76 e78 hi78) rfl hJ) ?_
          refine all_cons (by
            refine ⟨?_, ?_⟩
            ·intro _nm ρ σm hJ hoff hdep
             have e79 := hdep 18 rfl rfl 79 rfl
             have e71 := hdep 10 rfl rfl 71 rfl
             obtain ⟨H, m⟩ := id hJ
             have hc81 := ((H.own 0 rfl).at hx77 hi78).int
             exact dp_v (v := (I x76)) (wanted_yes rfl (yv_of rfl (e71.trans (congrArg B hb69)))) (rv_load1 Tryz.underlying3 rfl e79 hc81) rfl hJ
            trivial) ?_
          exact all_nil
         ·intro _nm ρ σ82 hJ hoff hrel
          have e7 := look_off (N := 84) (hoff 7 rfl) rfl
          have e8 := look_off (N := 84) (hoff 8 rfl) rfl
          have e9 := look_off (N := 84) (hoff 9 rfl) rfl
          have e68 := hrel 7 rfl 68 rfl
          have e71 := hrel 10 rfl 71 rfl
          have e75 := hrel 14 rfl 75 rfl
          have e80 := hrel 19 rfl 80 rfl
          obtain ⟨H, -⟩ := (show Hp S0 σ0 σ82 [Ch.own 0 n0 (Sl a11 r8 c12) r8, Ch.ro 0 (Sl a48 r45 c49) r45] ∧ Md (cov []) σ55 σ82 from hJ)
          clear hJ Hs
          rw [fr_lookL (L := [(7, (Sl a11 r8 c12)), (8, (Sl a48 r45 c49)), (9, (I s52)), (68, (B (!r64))), (71, (B (decide (0 < s52)))), (75, (I x70)), (80, (I x76))]) ⟨e7, e8, e9, e68, e71, e75, e80, trivial⟩]
          clear hoff hrel e7 e8 e9 e68 e71 e75 e80
          refine st_g (v := (B (decide (x70 ≤ x76)))) (congrArg some hb69) (rv_leq (a := x70) (b := x76) rfl rfl) (st_g (v := (B (decide (x70 ≤ x76)))) (congrArg some hb67) (rv_pick_t (congrArg B hb69) rfl) (st (v := (B (decide (x70 ≤ x76)))) (rv_pick_f (congrArg B hb67) rfl) (w_end ?_)))
          obtain rfl := sj h
          exact ⟨rfl, _, σ82, fr_join ⟨rfl, rfl, rfl, rfl, trivial⟩, rfl, H.sel' [0, 1] rfl rfl⟩
        ·replace h := bif_f hb69 h
         have Hs := H
         refine rg2 (σ := σ55) (Nm := Unit) 20 [5] [[false], [true]] [[(0, 0)], [(0, 0)], [(0, 0)], [(0, 0)], [(0, 0)], [(0, 1)], [(1, 1)], [(1, 1)], [(1, 1)], [(1, 1)], [(1, 1)], [(1, 1)], [(1, 1)], [(1, 1)], [(1, 1)], [(1, 1)], [(1, 1)], [(1, 1)], [(1, 1)], [(1, 1)]] 1 [fun _ => fun σm => Hp S0 σ0 σm [Ch.own 0 n0 (Sl a11 r8 c12) r8, Ch.ro 0 (Sl a48 r45 c49) r45] ∧ Md (cov []) σ55 σm, fun _ => fun σm => Hp S0 σ0 σm [Ch.own 0 n0 (Sl a11 r8 c12) r8, Ch.ro 0 (Sl a48 r45 c49) r45] ∧ Md (cov []) σ55 σm] [fun _ => (Sl a48 r45 c49), fun _ => (Sl a11 r8 c12), fun _ => (I s52), fun _ => (pt b61 o62), fun _ => (I x58), fun _ => (B r64), fun _ => (B (!r64)), fun _ => (B (!r64)), fun _ => (I s52), fun _ => (B (decide (0 < s52))), fun _ => (B (decide (0 < s52))), fun _ => undef, fun _ => undef, fun _ => undef, fun _ => undef, fun _ => undef, fun _ => undef, fun _ => undef, fun _ => undef, fun _ => undef] () (by kernel_rfl) (by kernel_rfl) ?_ ?_ ?_
         ·intro σm m0
          exact ⟨H.grow (m0.mono fun _ h => h.elim), m0⟩
         ·refine ac rfl (by
            intro k _nm ρ σm hJ hoff hdep
            have e8 := look_off (N := 84) (hoff 8 rfl) rfl
            exact dp_v (v := (Sl a48 r45 c49)) wn (rv_move e8) rfl hJ) ?_
          refine ac rfl (by
            intro k _nm ρ σm hJ hoff hdep
            have e7 := look_off (N := 84) (hoff 7 rfl) rfl
            exact dp_v (v := (Sl a11 r8 c12)) wn (rv_move e7) rfl hJ) ?_
          refine ac rfl (by
            intro k _nm ρ σm hJ hoff hdep
            have e9 := look_off (N := 84) (hoff 9 rfl) rfl
            exact dp_v (v := (I s52)) wn (rv_move e9) rfl hJ) ?_
          refine ac rfl (by
            intro k _nm ρ σm hJ hoff hdep
            have e62 := hdep 1 rfl rfl 62 rfl
            have e63 := hdep 2 rfl rfl 63 rfl
            exact dp_v (v := (pt b61 o62)) wn (rv_ix Tryz.underlying26 ti3 e62 e63 hi60) rfl hJ) ?_
          refine all_cons (by
            refine ⟨?_, ?_⟩
            ·intro _nm ρ σm hJ hoff hdep
             have e64 := hdep 3 rfl rfl 64 rfl
             obtain ⟨H, m⟩ := id hJ
             have hc63 := ((H.own 0 rfl).at hx59 hi60).int
             exact dp_v (v := (I x58)) wn (rv_load1 Tryz.underlying3 rfl e64 hc63) rfl hJ
            trivial) ?_
          refine all_cons (by
            refine ⟨?_, ?_⟩
            ·intro _nm ρ σm hJ hoff hdep
             have e61 : look 84 ρ 61 = (Sl a48 r45 c49) := hdep 0 rfl rfl 61 rfl
             have e65 : look 84 ρ 65 = (I x58) := hdep 4 rfl rfl 65 rfl
             obtain ⟨H, m⟩ := id hJ
             refine dp_cx wn (cx_call hc66 (ent_f hc66.fn (by show [look 84 ρ 61, look 84 ρ 65] = _; rw [e61, e65])) hn0 (H.sel' [1, 0, 1] rfl rfl : Hp S0 σ0 _ ([_] ++ _))) ?_
             rintro _ σq ⟨_, ⟨rfl, rfl⟩, H2, m2⟩
             exact ⟨_, (), rfl, rfl, ⟨H2.sel' [0, 1] rfl rfl, m.comp0 (m2.mono (fun i h => by simp [cov, Ch.ro] at h))⟩, stab [0, 1, 2, 3, 4] (by kernel_rfl) ⟨rfl, rfl, rfl, rfl, rfl, trivial⟩⟩
            trivial) ?_
          refine ac rfl (by
            intro k _nm ρ σm hJ hoff hdep
            have e66 := hdep 5 rfl rfl 66 rfl
            exact dp_v (v := (B (!r64))) wn (rv_not e66) rfl hJ) ?_
          refine ac rfl (by
            intro k _nm ρ σm hJ hoff hdep
            have e67 := hdep 6 rfl rfl 67 rfl
            exact dp_v (v := (B (!r64))) wn (rv_move e67) rfl hJ) ?_
          refine ac rfl (by
            intro k _nm ρ σm hJ hoff hdep
            have e9 := look_off (N := 84) (hoff 9 rfl) rfl
            have e68 := hdep 7 rfl rfl 68 rfl
            exact dp_v (v := (I s52)) (wanted_yes rfl (yv_of rfl (e68.trans (congrArg B hb67)))) (rv_move e9) rfl hJ) ?_
          refine ac rfl (by
            intro k _nm ρ σm hJ hoff hdep
            have e69 := hdep 8 rfl rfl 69 rfl
            have e68 := hdep 7 rfl rfl 68 rfl
            exact dp_v (v := (B (decide (0 < s52)))) (wanted_yes rfl (yv_of rfl (e68.trans (congrArg B hb67)))) (rv_gtr (a := s52) (b := 0) e69 rfl) rfl hJ) ?_
          refine ac rfl (by
            intro k _nm ρ σm hJ hoff hdep
            have e70 := hdep 9 rfl rfl 70 rfl
            have e68 := hdep 7 rfl rfl 68 rfl
            exact dp_v (v := (B (decide (0 < s52)))) (wanted_yes rfl (yv_of rfl (e68.trans (congrArg B hb67)))) (rv_move e70) rfl hJ) ?_
          refine ac rfl (by
            intro k _nm ρ σm hJ hoff hdep
            have e71 := hdep 10 rfl rfl 71 rfl
            exact dp_skip (wanted_no rfl (yv_of rfl (e71.trans (congrArg B hb69)))) rfl hJ) ?_
          refine ac rfl (by
            intro k _nm ρ σm hJ hoff hdep
            have e71 := hdep 10 rfl rfl 71 rfl
            exact dp_skip (wanted_no rfl (yv_of rfl (e71.trans (congrArg B hb69)))) rfl hJ) ?_
          refine ac rfl (by
            intro k _nm ρ σm hJ hoff hdep
            have e71 := hdep 10 rfl rfl 71 rfl
            exact dp_skip (wanted_no rfl (yv_of rfl (e71.trans (congrArg B hb69)))) rfl hJ) ?_
          refine ac rfl (by
            intro k _nm ρ σm hJ hoff hdep
            have e71 := hdep 10 rfl rfl 71 rfl
            exact dp_skip (wanted_no rfl (yv_of rfl (e71.trans (congrArg B hb69)))) rfl hJ) ?_
          refine ac rfl (by
            intro k _nm ρ σm hJ hoff hdep
            have e71 := hdep 10 rfl rfl 71 rfl
            exact dp_skip (wanted_no rfl (yv_of rfl (e71.trans (congrArg B hb69)))) rfl hJ) ?_
          refine ac rfl (by
            intro k _nm ρ σm hJ hoff hdep
            have e71 := hdep 10 rfl rfl 71 rfl
            exact dp_skip (wanted_no rfl (yv_of rfl (e71.trans (congrArg B hb69)))) rfl hJ) ?_
          refine ac rfl (by
            intro k _nm ρ σm hJ hoff hdep
            have e71 := hdep 10 rfl rfl 71 rfl
            exact dp_skip (wanted_no rfl (yv_of rfl (e71.trans (congrArg B hb69)))) rfl hJ) ?_
          refine ac rfl (by
            intro k _nm ρ σm hJ hoff hdep
            have e71 := hdep 10 rfl rfl 71 rfl
            exact dp_skip (wanted_no rfl (yv_of rfl (e71.trans (congrArg B hb69)))) rfl hJ) ?_
          refine ac rfl (by
            intro k _nm ρ σm hJ hoff hdep
            have e71 := hdep 10 rfl rfl 71 rfl
            exact dp_skip (wanted_no rfl (yv_of rfl (e71.trans (congrArg B hb69)))) rfl hJ) ?_
          exact all_nil
         ·intro _nm ρ σ83 hJ hoff hrel
          have e7 := look_off (N := 84) (hoff 7 rfl) rfl
          have e8 := look_off (N := 84) (hoff 8 rfl) rfl
          have e9 := look_off (N := 84) (hoff 9 rfl) rfl
          have e68 := hrel 7 rfl 68 rfl
          have e71 := hrel 10 rfl 71 rfl
          have e75 := hrel 14 rfl 75 rfl
          have e80 := hrel 19 rfl 80 rfl
          obtain ⟨H, -⟩ := (show Hp S0 σ0 σ83 [Ch.own 0 n0 (Sl a11 r8 c12) r8, Ch.ro 0 (Sl a48 r45 c49) r45] ∧ Md (cov []) σ55 σ83 from hJ)
          clear hJ Hs
          rw [fr_lookL (L := [(7, (Sl a11 r8 c12)), (8, (Sl a48 r45 c49)), (9, (I s52)), (68, (B (!r64))), (71, (B (decide (0 < s52)))), (75, undef), (80, undef)]) ⟨e7, e8, e9, e68, e71, e75, e80, trivial⟩]
          clear hoff hrel e7 e8 e9 e68 e71 e75 e80
          refine st_skip (congrArg some hb69) (st_g (v := (B false)) (congrArg some hb67) (rv_pick_f (congrArg B hb69) rfl) (st (v := (B false)) (rv_pick_f (congrArg B hb67) rfl) (w_end ?_)))
          obtain rfl := sj h
          exact ⟨rfl, _, σ83, fr_join ⟨rfl, rfl, rfl, rfl, trivial⟩, rfl, H.sel' [0, 1] rfl rfl⟩
      ·clear hj
       have h := h'
       clear h' H
       rintro e a w ⟨rfl, ρ, σ84, rfl, rfl, H⟩
       refine q_then ?_
       refine cd_cond o57 rfl (fun hb85 => ?_) (fun hb85 => ?_)
       ·replace h := bif_t hb85 h
        refine c_seq (rg (sa (B false) rfl (w_end (q_then (c_ret (q_blk_r (q_then_r (q_then_r (q_blk_r ?_)))))))))
        obtain rfl := sj h
        obtain rfl := hres _ rfl
        exact .inr (⟨_, rfl, rfl, _, σ84, fr_join ⟨rfl, trivial⟩, rfl, H.sel' [] rfl rfl⟩)
       ·replace h := bif_f hb85 h
        refine c_skip (q_blk (q_then (rg (sm (I s52) rfl (st (v := (I (w64 (s52 + 1)))) (rv_add (a := s52) (b := 1) rfl rfl) (sa (I (w64 (s52 + 1))) rfl (w_end (q_then ?_))))))))
        obtain rfl := sj h
        exact ⟨_, rfl, _, σ84, fr_join ⟨rfl, rfl, rfl, trivial⟩, rfl, H.sel' [0, 1] rfl rfl⟩
     ·replace h := bif_f hb56 h
      refine c_exit (q_then_x (q_then_x (q_blk_hit ?_)))
      obtain rfl := sj h
      obtain rfl := hres _ rfl
      exact .inl ⟨_, rfl, rfl, _, σ55, fr_join trivial, rfl, H.sel' [] rfl rfl⟩
    ·clear hj
     have h := h'
     clear h' H
     rintro e a w (⟨t86, rfl, rfl, ρ, σ87, rfl, rfl, H⟩ | ⟨t88, rfl, rfl, ρ, σ89, rfl, rfl, H⟩)
     ·replace h := selim_l h
      refine q_then (c_seq (rg (sa (B true) rfl (w_end (q_then (c_ret ?_))))))
      obtain rfl := sj h
      exact fin_ret (v := (B true)) (results_ok Tryz.results6 (res_tmp (v := (B true)) rfl res_nil) rfl) ⟨rfl, rfl⟩ (H.sel' [] rfl rfl)
     ·replace h := selim_r h
      refine q_then_r ?_
      obtain rfl := sj h
      exact fin_ret (v := (B t88)) (results_ok Tryz.results6 (res_tmp (v := (B t88)) rfl res_nil) rfl) ⟨rfl, rfl⟩ (H.sel' [] rfl rfl)

end Go.Vs
