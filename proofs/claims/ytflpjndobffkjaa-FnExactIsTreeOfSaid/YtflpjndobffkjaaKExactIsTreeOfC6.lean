/- The functions compute what their models say. -/
import Derived.Test.YtflpjndobffkjaaKExactIsTreeOfC5
set_option linter.unusedVariables false
set_option linter.unusedSimpArgs false
set_option maxRecDepth 20000
namespace Go.Vs
open Go Go.Proofs
attribute [local irreducible] Code.wp Code.wpIn wpList wpListIn wpQuiet Calls CallsIn

theorem c_spec_byDist {Ai : List (Int × (List Int) × Int)} {Bl : Int} {Bm : List Int} {Aj : Option Addr} {Ak : Nat} {Bn : Option Addr} {Bo : Nat} {r : (List (Int × (List Int) × Int))} (h : M.spec_byDist Ai Bl Bm = some r) :
    Cal2 Try.prog 70 [(Sl Aj Ai Ak), (I Bl), (Sl Bn Bm Bo)] [Ch.ro 0 (Sl Aj Ai Ak) Ai, Ch.ro 0 (Sl Bn Bm Bo) Bm] (fun n0 v L => ∃ (az1 : Option Addr), ∃ (cz2 : Nat), v = (Sl az1 r cz2) ∧ L = [Ch.own n0 0 (Sl az1 r cz2) r]) := by
 refine cal2 (n := 68) Try.func70 rfl rfl rfl rfl ?_
 intro S0 σ0 n0 hn0 H
 unfold M.spec_byDist at h
 refine c_seq (rg (st (v := (.slice none 0 0)) (rv_assign rfl) (w_end (q_then (c_seq (rg ?_))))))
 refine st_ex (ex_buildSlice (el := n0) (xs := ([] : List (Int × (List Int) × Int))) (ps := []) (cs := []) H hn0 Try.underlying23 ti34 rfl rfl (by kernel_rfl) (.nil) rfl) wn ?_
 rintro _ σ2 ⟨b1, rfl, H, -⟩
 refine st (v := (Sl (some ⟨b1, 0, none⟩) ([] : List (Int × (List Int) × Int)) 0)) (rv_assign rfl) (w_end (q_then (c_seq (c_seq (rg (st (v := (I 0)) (rv_assign rfl) (w_end (q_then ?_))))))))
 obtain ⟨o3, hj, h'⟩ := bind_some h
 clear h
 refine c_cut (fun e a w => e = .normal ∧ ∃ (ρ : Nat → Value) (σ : St) (aj1 : Option Addr) (cj2 : Nat), a = fr 68 (updL ρ [(7, (Sl aj1 o3 cj2))]) ∧ w = σ.w ∧ Hp S0 σ0 σ [Ch.own n0 0 (Sl aj1 o3 cj2) o3]) ?_ ?_
 ·clear h'
  rename _ = some o3 => h
  refine c_blk ?_
  replace H := H.ownLow 0 n0 0 rfl (Nat.le_refl _) (Nat.zero_le _)
  refine wp_loopM _ h (fun s4 a w => ∃ (ρ : Nat → Value) (σ : St) (aj1 : Option Addr) (cj2 : Nat), a = fr 68 (updL ρ [(0, (Sl Aj Ai Ak)), (1, (I Bl)), (2, (Sl Bn Bm Bo)), (7, (Sl aj1 s4.1 cj2)), (8, (I s4.2))]) ∧ w = σ.w ∧ Hp S0 σ0 σ [Ch.ro 0 (Sl Aj Ai Ak) Ai, Ch.ro 0 (Sl Bn Bm Bo) Bm, Ch.own n0 0 (Sl aj1 s4.1 cj2) s4.1]) ⟨_, σ2, (some ⟨b1, 0, none⟩), 0, fr_join ⟨rfl, rfl, rfl, rfl, rfl, trivial⟩, rfl, H.sel' [1, 2, 0] rfl rfl⟩ ?_
  clear h H
  rintro s4 a w o ⟨ρ, σ5, a6, c7, rfl, rfl, H⟩ h hres
  refine c_seq (c_seq (rg (st (v := (I s4.2)) (rv_move rfl) (st (v := (Sl Aj Ai Ak)) (rv_move rfl) (st (v := (I (Ai.length : Int))) (rv_len Try.underlying23 rfl) (st (v := (B (decide (s4.2 < (Ai.length : Int))))) (rv_lss (a := s4.2) (b := (Ai.length : Int)) rfl rfl) (w_end (q_then ?_))))))))
  refine cd_cond (decide (s4.2 < (Ai.length : Int))) rfl (fun hb8 => ?_) (fun hb8 => ?_)
  ·replace h := bif_t hb8 h
   refine c_skip (q_then (c_seq (c_blk (c_seq (rg (st (v := (Sl a6 s4.1 c7)) (rv_move rfl) (st (v := (Sl Aj Ai Ak)) (rv_move rfl) (st (v := (I s4.2)) (rv_move rfl) ?_))))))))
   obtain ⟨x9, hx10, h'⟩ := bind_some h
   clear h
   have h := h'; clear h'
   obtain ⟨b12, o13, hi11, -⟩ := (H.ro 0 rfl).ix hx10
   refine st (v := (pt b12 o13)) (rv_ix Try.underlying23 ti34 rfl rfl hi11) ?_
   obtain ⟨_, ⟨_, _, rfl, rfl, ⟨_, _, rfl, ⟨_, rfl, hR18⟩, rfl⟩⟩, hl14, hc15⟩ := ((H.ro 0 rfl).at hx10 hi11).cells
   obtain ⟨a16, c17, rfl⟩ := hR18.isSl
   replace H := H.add (d := Ch.ro 0 (Sl a16 x9.2.1 c17) x9.2.1) hR18 (fun _ h => h)
   clear hR18
   refine st (v := (.agg #[(I x9.1), (Sl a16 x9.2.1 c17), (I x9.2.2)])) (rv_load Try.underlying34 rfl ti34 rfl hl14 hc15) ?_
   refine st_ex (ex_buildSlice (el := 0) (xs := ([(x9.1, x9.2.1, x9.2.2)] : List (Int × (List Int) × Int))) (ps := [(0, (.agg #[(I x9.1), (Sl a16 x9.2.1 c17), (I x9.2.2)]))]) (cs := [(I x9.1), (Sl a16 x9.2.1 c17), (I x9.2.2)]) H hn0 Try.underlying23 ti34 rfl rfl (by kernel_rfl) (.cons (c := [(I x9.1), (Sl a16 x9.2.1 c17), (I x9.2.2)]) ⟨[(I x9.1)], [(Sl a16 x9.2.1 c17), (I x9.2.2)], rfl, rfl, ⟨[(Sl a16 x9.2.1 c17)], [(I x9.2.2)], rfl, ⟨_, rfl, (H.ro 0 rfl)⟩, rfl⟩⟩ (.nil)) rfl) wn ?_
   rintro _ σ20 ⟨b19, rfl, H, -⟩
   obtain ⟨xs21, hx22, h'⟩ := bind_some h
   clear h
   have h := h'; clear h'
   refine st_ex (ex_append H (i := 4) rfl Try.underlying23 Try.underlying23 ti34 rfl rfl (by decide) (H.own 0 rfl).rd hx22 hn0 rfl rfl) wn ?_
   rintro _ σ25 ⟨a23, c24, rfl, H, -⟩
   refine st (v := (Sl a23 xs21 c24)) (rv_assign rfl) (w_end (q_then (c_seq (rg (st (v := (Sl a23 xs21 c24)) (rv_move rfl) (st (v := (I (xs21.length : Int))) (rv_len Try.underlying23 rfl) (st (v := (I (w64 ((xs21.length : Int) - 1)))) (rv_sub (a := (xs21.length : Int)) (b := 1) rfl rfl) (st (v := (I (w64 ((xs21.length : Int) - 1)))) (rv_assign rfl) (w_end (q_then ?_))))))))))
   obtain ⟨o26, hj, h'⟩ := bind_some h
   clear h
   refine c_cut (fun e a w => e = .normal ∧ ∃ (ρ : Nat → Value) (σ : St), a = fr 68 (updL ρ [(0, (Sl Aj Ai Ak)), (1, (I Bl)), (2, (Sl Bn Bm Bo)), (7, (Sl a23 o26 c24)), (8, (I s4.2))]) ∧ w = σ.w ∧ Hp S0 σ0 σ [Ch.ro 0 (Sl Aj Ai Ak) Ai, Ch.ro 0 (Sl Bn Bm Bo) Bm, Ch.own n0 0 (Sl a23 o26 c24) o26] ∧ o26.length = xs21.length) ?_ ?_
   ·clear h'
    rename _ = some o26 => h
    refine c_blk (wp_loopM _ h (fun s27 a w => ∃ (ρ : Nat → Value) (σ : St), a = fr 68 (updL ρ [(0, (Sl Aj Ai Ak)), (1, (I Bl)), (2, (Sl Bn Bm Bo)), (7, (Sl a23 s27.1 c24)), (8, (I s4.2)), (9, (I s27.2))]) ∧ w = σ.w ∧ Hp S0 σ0 σ [Ch.ro 0 (Sl Aj Ai Ak) Ai, Ch.ro 0 (Sl Bn Bm Bo) Bm, Ch.own n0 0 (Sl a23 s27.1 c24) s27.1] ∧ s27.1.length = xs21.length) ⟨_, σ25, fr_join ⟨rfl, rfl, rfl, rfl, rfl, rfl, trivial⟩, rfl, H.sel' [3, 4, 0] rfl rfl, rfl⟩ ?_)
    clear h H
    rintro s27 a w o ⟨ρ, σ28, rfl, rfl, H, hn29⟩ h hres
    refine c_seq (c_seq ?_)
    obtain ⟨o30, hj, h'⟩ := bind_some h
    clear h
    refine c_cut (fun e a w => e = .normal ∧ ∃ (ρ : Nat → Value) (σ : St), a = fr 68 (updL ρ [(0, (Sl Aj Ai Ak)), (1, (I Bl)), (2, (Sl Bn Bm Bo)), (7, (Sl a23 s27.1 c24)), (8, (I s4.2)), (9, (I s27.2)), (47, (B o30))]) ∧ w = σ.w ∧ Hp S0 σ0 σ [Ch.ro 0 (Sl Aj Ai Ak) Ai, Ch.ro 0 (Sl Bn Bm Bo) Bm, Ch.own n0 0 (Sl a23 s27.1 c24) s27.1]) ?_ ?_
    ·clear h'
     rename _ = some o30 => h
     rcases Bool.eq_false_or_eq_true (decide (0 < s27.2)) with hb31 | hb31
     ·replace h := bif_t hb31 h
      obtain ⟨x32, hx33, h'⟩ := bind_some h
      clear h
      have h := h'; clear h'
      obtain ⟨b35, o36, hi34, -⟩ := (H.own 2 rfl).ix hx33
      obtain ⟨_, ⟨_, _, rfl, rfl, ⟨_, _, rfl, ⟨_, rfl, hR41⟩, rfl⟩⟩, hl37, hc38⟩ := ((H.own 2 rfl).at hx33 hi34).cells
      obtain ⟨a39, c40, rfl⟩ := hR41.isSl
      replace H := H.add (d := Ch.ro 0 (Sl a39 x32.2.1 c40) x32.2.1) hR41 (fun _ h => h)
      clear hR41
      obtain ⟨r42, hx43, h'⟩ := bind_some h
      clear h
      have h := h'; clear h'
      have hc44 := c_spec_hit (Ag := a39) (Ah := c40) (Bn := Bn) (Bo := Bo) hx43
      obtain ⟨x45, hx46, h'⟩ := bind_some h
      clear h
      have h := h'; clear h'
      obtain ⟨b48, o49, hi47, -⟩ := (H.own 3 rfl).ix hx46
      obtain ⟨_, ⟨_, _, rfl, rfl, ⟨_, _, rfl, ⟨_, rfl, hR54⟩, rfl⟩⟩, hl50, hc51⟩ := ((H.own 3 rfl).at hx46 hi47).cells
      obtain ⟨a52, c53, rfl⟩ := hR54.isSl
      replace H := H.add (d := Ch.ro 0 (Sl a52 x45.2.1 c53) x45.2.1) hR54 (fun _ h => h)
      clear hR54
      have Hs := H
      refine rg2 (σ := σ28) (Nm := Unit) 17 [9] [[false], [true]] [[(0, 0)], [(0, 0)], [(0, 0)], [(0, 0)], [(0, 0)], [(0, 0)], [(0, 0)], [(0, 0)], [(0, 0)], [(0, 1)], [(0, 0), (1, 1)], [(0, 0), (1, 1)], [(0, 0), (1, 1)], [(0, 0), (1, 1)], [(0, 0), (1, 1)], [(0, 0), (1, 1)], [(0, 0), (1, 1)]] 1 [fun _ => fun σm => Hp S0 σ0 σm [Ch.ro 0 (Sl a52 x45.2.1 c53) x45.2.1, Ch.ro 0 (Sl a39 x32.2.1 c40) x32.2.1, Ch.ro 0 (Sl Aj Ai Ak) Ai, Ch.ro 0 (Sl Bn Bm Bo) Bm, Ch.own n0 0 (Sl a23 s27.1 c24) s27.1] ∧ Md (cov []) σ28 σm, fun _ => fun σm => Hp S0 σ0 σm [Ch.ro 0 (Sl a52 x45.2.1 c53) x45.2.1, Ch.ro 0 (Sl a39 x32.2.1 c40) x32.2.1, Ch.ro 0 (Sl Aj Ai Ak) Ai, Ch.ro 0 (Sl Bn Bm Bo) Bm, Ch.own n0 0 (Sl a23 s27.1 c24) s27.1] ∧ Md (cov []) σ28 σm] [fun _ => (I s27.2), fun _ => (B (decide (0 < s27.2))), fun _ => (B (decide (0 < s27.2))), fun _ => (Sl a23 s27.1 c24), fun _ => (I s27.2), fun _ => (pt b35 o36), fun _ => (.agg #[(I x32.1), (Sl a39 x32.2.1 c40), (I x32.2.2)]), fun _ => (I Bl), fun _ => (Sl Bn Bm Bo), fun _ => (.agg #[(I r42.1), (I r42.2)]), fun _ => (Sl a23 s27.1 c24), fun _ => (I s27.2), fun _ => (I (w64 (s27.2 - 1))), fun _ => (pt b48 o49), fun _ => (.agg #[(I x45.1), (Sl a52 x45.2.1 c53), (I x45.2.2)]), fun _ => (I Bl), fun _ => (Sl Bn Bm Bo)] () (by kernel_rfl) (by kernel_rfl) ?_ ?_ ?_
      ·intro σm m0
       exact ⟨H.grow (m0.mono fun _ h => h.elim), m0⟩
      ·refine ac rfl (by
         intro k _nm ρ σm hJ hoff hdep
         have e9 := look_off (N := 68) (hoff 9 rfl) rfl
         exact dp_v (v := (I s27.2)) wn (rv_move e9) rfl hJ) ?_
       refine ac rfl (by
         intro k _nm ρ σm hJ hoff hdep
         have e28 := hdep 0 rfl rfl 28 rfl
         exact dp_v (v := (B (decide (0 < s27.2)))) wn (rv_gtr (a := s27.2) (b := 0) e28 rfl) rfl hJ) ?_
       refine ac rfl (by
         intro k _nm ρ σm hJ hoff hdep
         have e29 := hdep 1 rfl rfl 29 rfl
         exact dp_v (v := (B (decide (0 < s27.2)))) wn (rv_move e29) rfl hJ) ?_
       refine ac rfl (by
         intro k _nm ρ σm hJ hoff hdep
         have e7 := look_off (N := 68) (hoff 7 rfl) rfl
         have e30 := hdep 2 rfl rfl 30 rfl
         exact dp_v (v := (Sl a23 s27.1 c24)) (wanted_yes rfl (yv_of rfl (e30.trans (congrArg B hb31)))) (rv_move e7) rfl hJ) ?_
       refine ac rfl (by
         intro k _nm ρ σm hJ hoff hdep
         have e9 := look_off (N := 68) (hoff 9 rfl) rfl
         have e30 := hdep 2 rfl rfl 30 rfl
         exact dp_v (v := (I s27.2)) (wanted_yes rfl (yv_of rfl (e30.trans (congrArg B hb31)))) (rv_move e9) rfl hJ) ?_
       refine ac rfl (by
         intro k _nm ρ σm hJ hoff hdep
         have e31 := hdep 3 rfl rfl 31 rfl
         have e32 := hdep 4 rfl rfl 32 rfl
         have e30 := hdep 2 rfl rfl 30 rfl
         exact dp_v (v := (pt b35 o36)) (wanted_yes rfl (yv_of rfl (e30.trans (congrArg B hb31)))) (rv_ix Try.underlying23 ti34 e31 e32 hi34) rfl hJ) ?_
       refine all_cons (by
         refine ⟨?_, ?_⟩
         ·intro _nm ρ σm hJ hoff hdep
          have e33 := hdep 5 rfl rfl 33 rfl
          have e30 := hdep 2 rfl rfl 30 rfl
          obtain ⟨H, m⟩ := id hJ
          replace hc38 := fun j hj => m.hcell (hc38 j hj) nocov
          exact dp_v (v := (.agg #[(I x32.1), (Sl a39 x32.2.1 c40), (I x32.2.2)])) (wanted_yes rfl (yv_of rfl (e30.trans (congrArg B hb31)))) (rv_load Try.underlying34 rfl ti34 e33 hl37 hc38) rfl hJ
         trivial) ?_
       refine ac rfl (by
         intro k _nm ρ σm hJ hoff hdep
         have e1 := look_off (N := 68) (hoff 1 rfl) rfl
         have e30 := hdep 2 rfl rfl 30 rfl
         exact dp_v (v := (I Bl)) (wanted_yes rfl (yv_of rfl (e30.trans (congrArg B hb31)))) (rv_move e1) rfl hJ) ?_
       refine ac rfl (by
         intro k _nm ρ σm hJ hoff hdep
         have e2 := look_off (N := 68) (hoff 2 rfl) rfl
         have e30 := hdep 2 rfl rfl 30 rfl
         exact dp_v (v := (Sl Bn Bm Bo)) (wanted_yes rfl (yv_of rfl (e30.trans (congrArg B hb31)))) (rv_move e2) rfl hJ) ?_
       refine all_cons (by
         refine ⟨?_, ?_⟩
         ·intro _nm ρ σm hJ hoff hdep
          have e34 : look 68 ρ 34 = (.agg #[(I x32.1), (Sl a39 x32.2.1 c40), (I x32.2.2)]) := hdep 6 rfl rfl 34 rfl
          have e35 : look 68 ρ 35 = (I Bl) := hdep 7 rfl rfl 35 rfl
          have e36 : look 68 ρ 36 = (Sl Bn Bm Bo) := hdep 8 rfl rfl 36 rfl
          have e30 := hdep 2 rfl rfl 30 rfl
          obtain ⟨H, m⟩ := id hJ
          refine dp_cx (wanted_yes rfl (yv_of rfl (e30.trans (congrArg B hb31)))) (cx_call hc44 (ent_f hc44.fn (by show [look 68 ρ 34, look 68 ρ 35, look 68 ρ 36] = _; rw [e34, e35, e36])) hn0 (H.sel' [1, 3, 0, 1, 2, 3, 4] rfl rfl : Hp S0 σ0 _ ([_, _] ++ _))) ?_
          rintro _ σq ⟨_, ⟨rfl, rfl⟩, H2, m2⟩
          exact ⟨_, (), rfl, rfl, ⟨H2.sel' [0, 1, 2, 3, 4] rfl rfl, m.comp0 (m2.mono (fun i h => by simp [cov, Ch.ro] at h))⟩, stab [0, 1, 2, 3, 4, 5, 6, 7, 8, 10, 11, 12, 13, 14, 15, 16] (by kernel_rfl) ⟨rfl, rfl, rfl, rfl, rfl, rfl, rfl, rfl, rfl, rfl, rfl, rfl, rfl, rfl, rfl, rfl, trivial⟩⟩
         trivial) ?_
       refine ac rfl (by
         intro k _nm ρ σm hJ hoff hdep
         have e7 := look_off (N := 68) (hoff 7 rfl) rfl
         have e30 := hdep 2 rfl rfl 30 rfl
         exact dp_v (v := (Sl a23 s27.1 c24)) (wanted_yes rfl (yv_of rfl (e30.trans (congrArg B hb31)))) (rv_move e7) rfl hJ) ?_
       refine ac rfl (by
         intro k _nm ρ σm hJ hoff hdep
         have e9 := look_off (N := 68) (hoff 9 rfl) rfl
         have e30 := hdep 2 rfl rfl 30 rfl
         exact dp_v (v := (I s27.2)) (wanted_yes rfl (yv_of rfl (e30.trans (congrArg B hb31)))) (rv_move e9) rfl hJ) ?_
       refine ac rfl (by
         intro k _nm ρ σm hJ hoff hdep
         have e39 := hdep 11 rfl rfl 39 rfl
         have e30 := hdep 2 rfl rfl 30 rfl
         exact dp_v (v := (I (w64 (s27.2 - 1)))) (wanted_yes rfl (yv_of rfl (e30.trans (congrArg B hb31)))) (rv_sub (a := s27.2) (b := 1) e39 rfl) rfl hJ) ?_
       refine ac rfl (by
         intro k _nm ρ σm hJ hoff hdep
         have e38 := hdep 10 rfl rfl 38 rfl
         have e40 := hdep 12 rfl rfl 40 rfl
         have e30 := hdep 2 rfl rfl 30 rfl
         exact dp_v (v := (pt b48 o49)) (wanted_yes rfl (yv_of rfl (e30.trans (congrArg B hb31)))) (rv_ix Try.underlying23 ti34 e38 e40 hi47) rfl hJ) ?_
       refine all_cons (by
         refine ⟨?_, ?_⟩
         ·intro _nm ρ σm hJ hoff hdep
          have e41 := hdep 13 rfl rfl 41 rfl
          have e30 := hdep 2 rfl rfl 30 rfl
          obtain ⟨H, m⟩ := id hJ
          replace hc51 := fun j hj => m.hcell (hc51 j hj) nocov
          exact dp_v (v := (.agg #[(I x45.1), (Sl a52 x45.2.1 c53), (I x45.2.2)])) (wanted_yes rfl (yv_of rfl (e30.trans (congrArg B hb31)))) (rv_load Try.underlying34 rfl ti34 e41 hl50 hc51) rfl hJ
         refine ⟨?_, ?_⟩
         ·intro _nm ρ σm hJ hoff hdep
          have e41 := hdep 13 rfl rfl 41 rfl
          have e30 := hdep 2 rfl rfl 30 rfl
          obtain ⟨H, m⟩ := id hJ
          replace hc51 := fun j hj => m.hcell (hc51 j hj) nocov
          exact dp_v (v := (.agg #[(I x45.1), (Sl a52 x45.2.1 c53), (I x45.2.2)])) (wanted_yes rfl (yv_of rfl (e30.trans (congrArg B hb31)))) (rv_load Try.underlying34 rfl ti34 e41 hl50 hc51) rfl hJ
         trivial) ?_
       refine ac rfl (by
         intro k _nm ρ σm hJ hoff hdep
         have e1 := look_off (N := 68) (hoff 1 rfl) rfl
         have e30 := hdep 2 rfl rfl 30 rfl
         exact dp_v (v := (I Bl)) (wanted_yes rfl (yv_of rfl (e30.trans (congrArg B hb31)))) (rv_move e1) rfl hJ) ?_
       refine ac rfl (by
         intro k _nm ρ σm hJ hoff hdep
         have e2 := look_off (N := 68) (hoff 2 rfl) rfl
         have e30 := hdep 2 rfl rfl 30 rfl
         exact dp_v (v := (Sl Bn Bm Bo)) (wanted_yes rfl (yv_of rfl (e30.trans (congrArg B hb31)))) (rv_move e2) rfl hJ) ?_
       exact all_nil
      ·intro _nm ρ σ55 hJ hoff hrel
       have e0 := look_off (N := 68) (hoff 0 rfl) rfl
       have e1 := look_off (N := 68) (hoff 1 rfl) rfl
       have e2 := look_off (N := 68) (hoff 2 rfl) rfl
       have e7 := look_off (N := 68) (hoff 7 rfl) rfl
       have e8 := look_off (N := 68) (hoff 8 rfl) rfl
       have e9 := look_off (N := 68) (hoff 9 rfl) rfl
       have e30 := hrel 2 rfl 30 rfl
       have e37 := hrel 9 rfl 37 rfl
       have e42 := hrel 14 rfl 42 rfl
       have e43 := hrel 15 rfl 43 rfl
       have e44 := hrel 16 rfl 44 rfl
       obtain ⟨H, -⟩ := (show Hp S0 σ0 σ55 [Ch.ro 0 (Sl a52 x45.2.1 c53) x45.2.1, Ch.ro 0 (Sl a39 x32.2.1 c40) x32.2.1, Ch.ro 0 (Sl Aj Ai Ak) Ai, Ch.ro 0 (Sl Bn Bm Bo) Bm, Ch.own n0 0 (Sl a23 s27.1 c24) s27.1] ∧ Md (cov []) σ28 σ55 from hJ)
       clear hJ Hs
       rw [fr_lookL (L := [(0, (Sl Aj Ai Ak)), (1, (I Bl)), (2, (Sl Bn Bm Bo)), (7, (Sl a23 s27.1 c24)), (8, (I s4.2)), (9, (I s27.2)), (30, (B (decide (0 < s27.2)))), (37, (.agg #[(I r42.1), (I r42.2)])), (42, (.agg #[(I x45.1), (Sl a52 x45.2.1 c53), (I x45.2.2)])), (43, (I Bl)), (44, (Sl Bn Bm Bo))]) ⟨e0, e1, e2, e7, e8, e9, e30, e37, e42, e43, e44, trivial⟩]
       clear hoff hrel e0 e1 e2 e7 e8 e9 e30 e37 e42 e43 e44
       obtain ⟨r56, hx57, h'⟩ := bind_some h
       clear h
       have h := h'; clear h'
       have hc58 := c_spec_hit (Ag := a52) (Ah := c53) (Bn := Bn) (Bo := Bo) hx57
       refine st_call (cx_call hc58 (ent_f hc58.fn rfl) hn0 (H.sel' [0, 3, 0, 1, 2, 3, 4] rfl rfl : Hp S0 σ0 _ ([_, _] ++ _))) (wanted_yes rfl (by exact (congrArg some hb31))) ?_
       rintro _ σ59 ⟨_, ⟨rfl, rfl⟩, H, -⟩
       replace H : Hp _ _ _ [_, _, _, _, _] := H
       obtain ⟨r60, hx61, h'⟩ := bind_some h
       clear h
       have h := h'; clear h'
       have hc62 := c_spec_nearer hx61
       refine st_call (cx_call hc62 (ent_f hc62.fn rfl) hn0 (H.sel' [0, 1, 2, 3, 4] rfl rfl : Hp S0 σ0 _ ([] ++ _))) (wanted_yes rfl (by exact (congrArg some hb31))) ?_
       rintro _ σ63 ⟨_, ⟨rfl, rfl⟩, H, -⟩
       replace H : Hp _ _ _ [_, _, _, _, _] := H
       refine st (v := (B r60)) (rv_pick_t (congrArg B hb31) rfl) (w_end ?_)
       obtain rfl := Option.some.inj h
       exact ⟨rfl, _, σ63, fr_join ⟨rfl, rfl, rfl, rfl, rfl, rfl, rfl, trivial⟩, rfl, H.sel' [2, 3, 4] rfl rfl⟩
     ·replace h := bif_f hb31 h
      have Hs := H
      refine rg2 (σ := σ28) (Nm := Unit) 17 [] [[]] [[(0, 0)], [(0, 0)], [(0, 0)], [(0, 0)], [(0, 0)], [(0, 0)], [(0, 0)], [(0, 0)], [(0, 0)], [(0, 0)], [(0, 0)], [(0, 0)], [(0, 0)], [(0, 0)], [(0, 0)], [(0, 0)], [(0, 0)]] 0 [fun _ => fun σm => Hp S0 σ0 σm [Ch.ro 0 (Sl Aj Ai Ak) Ai, Ch.ro 0 (Sl Bn Bm Bo) Bm, Ch.own n0 0 (Sl a23 s27.1 c24) s27.1] ∧ Md (cov []) σ28 σm] [fun _ => (I s27.2), fun _ => (B (decide (0 < s27.2))), fun _ => (B (decide (0 < s27.2))), fun _ => undef, fun _ => undef, fun _ => undef, fun _ => undef, fun _ => undef, fun _ => undef, fun _ => undef, fun _ => undef, fun _ => undef, fun _ => undef, fun _ => undef, fun _ => undef, fun _ => undef, fun _ => undef] () (by kernel_rfl) (by kernel_rfl) ?_ ?_ ?_
      ·intro σm m0
       exact ⟨H.grow (m0.mono fun _ h => h.elim), m0⟩
      ·refine ac rfl (by
         intro k _nm ρ σm hJ hoff hdep
         have e9 := look_off (N := 68) (hoff 9 rfl) rfl
         exact dp_v (v := (I s27.2)) wn (rv_move e9) rfl hJ) ?_
       refine ac rfl (by
         intro k _nm ρ σm hJ hoff hdep
         have e28 := hdep 0 rfl rfl 28 rfl
         exact dp_v (v := (B (decide (0 < s27.2)))) wn (rv_gtr (a := s27.2) (b := 0) e28 rfl) rfl hJ) ?_
       refine ac rfl (by
         intro k _nm ρ σm hJ hoff hdep
         have e29 := hdep 1 rfl rfl 29 rfl
         exact dp_v (v := (B (decide (0 < s27.2)))) wn (rv_move e29) rfl hJ) ?_
       refine ac rfl (by
         intro k _nm ρ σm hJ hoff hdep
         have e30 := hdep 2 rfl rfl 30 rfl
         exact dp_skip (wanted_no rfl (yv_of rfl (e30.trans (congrArg B hb31)))) rfl hJ) ?_
       refine ac rfl (by
         intro k _nm ρ σm hJ hoff hdep
         have e30 := hdep 2 rfl rfl 30 rfl
         exact dp_skip (wanted_no rfl (yv_of rfl (e30.trans (congrArg B hb31)))) rfl hJ) ?_
       refine ac rfl (by
         intro k _nm ρ σm hJ hoff hdep
         have e30 := hdep 2 rfl rfl 30 rfl
         exact dp_skip (wanted_no rfl (yv_of rfl (e30.trans (congrArg B hb31)))) rfl hJ) ?_
       refine ac rfl (by
         intro k _nm ρ σm hJ hoff hdep
         have e30 := hdep 2 rfl rfl 30 rfl
         exact dp_skip (wanted_no rfl (yv_of rfl (e30.trans (congrArg B hb31)))) rfl hJ) ?_
       refine ac rfl (by
         intro k _nm ρ σm hJ hoff hdep
         have e30 := hdep 2 rfl rfl 30 rfl
         exact dp_skip (wanted_no rfl (yv_of rfl (e30.trans (congrArg B hb31)))) rfl hJ) ?_
       refine ac rfl (by
         intro k _nm ρ σm hJ hoff hdep
         have e30 := hdep 2 rfl rfl 30 rfl
         exact dp_skip (wanted_no rfl (yv_of rfl (e30.trans (congrArg B hb31)))) rfl hJ) ?_
       refine ac rfl (by
         intro k _nm ρ σm hJ hoff hdep
         have e30 := hdep 2 rfl rfl 30 rfl
         exact dp_skip (wanted_no rfl (yv_of rfl (e30.trans (congrArg B hb31)))) rfl hJ) ?_
       refine ac rfl (by
         intro k _nm ρ σm hJ hoff hdep
         have e30 := hdep 2 rfl rfl 30 rfl
         exact dp_skip (wanted_no rfl (yv_of rfl (e30.trans (congrArg B hb31)))) rfl hJ) ?_
       refine ac rfl (by
         intro k _nm ρ σm hJ hoff hdep
         have e30 := hdep 2 rfl rfl 30 rfl
         exact dp_skip (wanted_no rfl (yv_of rfl (e30.trans (congrArg B hb31)))) rfl hJ) ?_
       refine ac rfl (by
         intro k _nm ρ σm hJ hoff hdep
         have e30 := hdep 2 rfl rfl 30 rfl
         exact dp_skip (wanted_no rfl (yv_of rfl (e30.trans (congrArg B hb31)))) rfl hJ) ?_
       refine ac rfl (by
         intro k _nm ρ σm hJ hoff hdep
         have e30 := hdep 2 rfl rfl 30 rfl
         exact dp_skip (wanted_no rfl (yv_of rfl (e30.trans (congrArg B hb31)))) rfl hJ) ?_
       refine ac rfl (by
         intro k _nm ρ σm hJ hoff hdep
         have e30 := hdep 2 rfl rfl 30 rfl
         exact dp_skip (wanted_no rfl (yv_of rfl (e30.trans (congrArg B hb31)))) rfl hJ) ?_
       refine ac rfl (by
         intro k _nm ρ σm hJ hoff hdep
         have e30 := hdep 2 rfl rfl 30 rfl
         exact dp_skip (wanted_no rfl (yv_of rfl (e30.trans (congrArg B hb31)))) rfl hJ) ?_
       refine ac rfl (by
         intro k _nm ρ σm hJ hoff hdep
         have e30 := hdep 2 rfl rfl 30 rfl
         exact dp_skip (wanted_no rfl (yv_of rfl (e30.trans (congrArg B hb31)))) rfl hJ) ?_
       exact all_nil
      ·intro _nm ρ σ64 hJ hoff hrel
       have e0 := look_off (N := 68) (hoff 0 rfl) rfl
       have e1 := look_off (N := 68) (hoff 1 rfl) rfl
       have e2 := look_off (N := 68) (hoff 2 rfl) rfl
       have e7 := look_off (N := 68) (hoff 7 rfl) rfl
       have e8 := look_off (N := 68) (hoff 8 rfl) rfl
       have e9 := look_off (N := 68) (hoff 9 rfl) rfl
       have e30 := hrel 2 rfl 30 rfl
       have e37 := hrel 9 rfl 37 rfl
       have e42 := hrel 14 rfl 42 rfl
       have e43 := hrel 15 rfl 43 rfl
       have e44 := hrel 16 rfl 44 rfl
       obtain ⟨H, -⟩ := (show Hp S0 σ0 σ64 [Ch.ro 0 (Sl Aj Ai Ak) Ai, Ch.ro 0 (Sl Bn Bm Bo) Bm, Ch.own n0 0 (Sl a23 s27.1 c24) s27.1] ∧ Md (cov []) σ28 σ64 from hJ)
       clear hJ Hs
       rw [fr_lookL (L := [(0, (Sl Aj Ai Ak)), (1, (I Bl)), (2, (Sl Bn Bm Bo)), (7, (Sl a23 s27.1 c24)), (8, (I s4.2)), (9, (I s27.2)), (30, (B (decide (0 < s27.2)))), (37, undef), (42, undef), (43, undef), (44, undef)]) ⟨e0, e1, e2, e7, e8, e9, e30, e37, e42, e43, e44, trivial⟩]
       clear hoff hrel e0 e1 e2 e7 e8 e9 e30 e37 e42 e43 e44
       refine st_skip (congrArg some hb31) (st_skip (congrArg some hb31) (st (v := (B false)) (rv_pick_f (congrArg B hb31) rfl) (w_end ?_)))
       obtain rfl := Option.some.inj h
       exact ⟨rfl, _, σ64, fr_join ⟨rfl, rfl, rfl, rfl, rfl, rfl, rfl, trivial⟩, rfl, H.sel' [0, 1, 2] rfl rfl⟩
    ·clear hj
     have h := h'
     clear h' H
     rintro e a w ⟨rfl, ρ, σ65, rfl, rfl, H⟩
     refine q_then ?_
     refine cd_cond o30 rfl (fun hb66 => ?_) (fun hb66 => ?_)
     ·replace h := bif_t hb66 h
      refine c_skip (q_then (c_seq (c_blk (c_seq (rg (st (v := (Sl a23 s27.1 c24)) (rv_move rfl) (st (v := (I s27.2)) (rv_move rfl) ?_)))))))
      obtain ⟨x67, hx68, h'⟩ := bind_some h
      clear h
      have h := h'; clear h'
      obtain ⟨b70, o71, hi69, -⟩ := (H.own 2 rfl).ix hx68
      refine st (v := (pt b70 o71)) (rv_ix Try.underlying23 ti34 rfl rfl hi69) ?_
      obtain ⟨_, ⟨_, _, rfl, rfl, ⟨_, _, rfl, ⟨_, rfl, hR76⟩, rfl⟩⟩, hl72, hc73⟩ := ((H.own 2 rfl).at hx68 hi69).cells
      obtain ⟨a74, c75, rfl⟩ := hR76.isSl
      replace H := H.add (d := Ch.ro 0 (Sl a74 x67.2.1 c75) x67.2.1) hR76 (fun _ h => h)
      clear hR76
      refine st (v := (.agg #[(I x67.1), (Sl a74 x67.2.1 c75), (I x67.2.2)])) (rv_load Try.underlying34 rfl ti34 rfl hl72 hc73) (st_ex (ex_alloc (cs := [(I 0), (.slice none 0 0), (I 0)]) H hn0 ti34 rfl) wn ?_)
      rintro _ σ78 ⟨b77, rfl, H, -⟩
      refine st_exS (ex_store_box (k := 0) (cs := [(I 0), (.slice none 0 0), (I 0)]) (vs := [(I x67.1), (Sl a74 x67.2.1 c75), (I x67.2.2)]) (cs' := [(I x67.1), (Sl a74 x67.2.1 c75), (I x67.2.2)]) H (i := 0) rfl ti34 rfl rfl rfl rfl rfl (Nat.le_of_ble_eq_true rfl) (by simp [plain]) rfl) wn ?_
      rintro σ79 ⟨H, -⟩
      refine w_end (q_then (c_seq (rg (st (v := (Sl a23 s27.1 c24)) (rv_move rfl) (st (v := (I s27.2)) (rv_move rfl) (st (v := (Sl a23 s27.1 c24)) (rv_move rfl) (st (v := (I s27.2)) (rv_move rfl) (st (v := (I (w64 (s27.2 - 1)))) (rv_sub (a := s27.2) (b := 1) rfl rfl) ?_))))))))
      obtain ⟨x80, hx81, h'⟩ := bind_some h
      clear h
      have h := h'; clear h'
      obtain ⟨b83, o84, hi82, -⟩ := (H.own 4 rfl).ix hx81
      refine st (v := (pt b83 o84)) (rv_ix Try.underlying23 ti34 rfl rfl hi82) ?_
      obtain ⟨_, ⟨_, _, rfl, rfl, ⟨_, _, rfl, ⟨_, rfl, hR89⟩, rfl⟩⟩, hl85, hc86⟩ := ((H.own 4 rfl).at hx81 hi82).cells
      obtain ⟨a87, c88, rfl⟩ := hR89.isSl
      replace H := H.add (d := Ch.ro 0 (Sl a87 x80.2.1 c88) x80.2.1) hR89 (fun _ h => h)
      clear hR89
      refine st (v := (.agg #[(I x80.1), (Sl a87 x80.2.1 c88), (I x80.2.2)])) (rv_load Try.underlying34 rfl ti34 rfl hl85 hc86) ?_
      obtain ⟨x90, hx91, h'⟩ := bind_some h
      clear h
      have h := h'; clear h'
      obtain ⟨b93, o94, hi92, -⟩ := (H.own 5 rfl).ix hx91
      refine st (v := (pt b93 o94)) (rv_ix Try.underlying23 ti34 rfl rfl hi92) ?_
      refine st_exS (ex_store_own (e' := (x80.1, x80.2.1, x80.2.2)) (vs := [(I x80.1), (Sl a87 x80.2.1 c88), (I x80.2.2)]) (k := 0) H (i := 5) rfl ti34 hx91 hi92 rfl rfl rfl rfl rfl (Nat.le_of_ble_eq_true rfl) (by simp [plain]) (by rintro _ ⟨_, _, rfl, rfl, ⟨_, _, rfl, ⟨_, rfl, hR97⟩, rfl⟩⟩; exact ⟨[(I x80.1)], [(Sl a87 x80.2.1 c88), (I x80.2.2)], rfl, rfl, ⟨[(Sl a87 x80.2.1 c88)], [(I x80.2.2)], rfl, ⟨_, rfl, (H.ro 0 rfl)⟩, rfl⟩⟩)) wn ?_
      rintro σ98 ⟨H, -⟩
      have hsl : (Sl a23 s27.1 c24) = (Sl a23 (s27.1.set s27.2.toNat (x80.1, x80.2.1, x80.2.2)) c24) := sl_len List.length_set.symm
      rw [hsl]; rw [hsl] at H; clear hsl
      refine w_end (q_then (rg (st (v := (Sl a23 (s27.1.set s27.2.toNat (x80.1, x80.2.1, x80.2.2)) c24)) (rv_move rfl) (st (v := (I s27.2)) (rv_move rfl) (st (v := (I (w64 (s27.2 - 1)))) (rv_sub (a := s27.2) (b := 1) rfl rfl) ?_)))))
      have hc99 := H.cells 2 rfl
      refine st (v := (.agg #[(I x67.1), (Sl a74 x67.2.1 c75), (I x67.2.2)])) (rv_load (cs := [(I x67.1), (Sl a74 x67.2.1 c75), (I x67.2.2)]) Try.underlying34 rfl ti34 rfl rfl hc99) ?_
      obtain ⟨x100, hx101, h'⟩ := bind_some h
      clear h
      have h := h'; clear h'
      obtain ⟨b103, o104, hi102, -⟩ := (H.own 0 rfl).ix hx101
      refine st (v := (pt b103 o104)) (rv_ix Try.underlying23 ti34 rfl rfl hi102) ?_
      refine st_exS (ex_store_own (e' := (x67.1, x67.2.1, x67.2.2)) (vs := [(I x67.1), (Sl a74 x67.2.1 c75), (I x67.2.2)]) (k := 0) H (i := 0) rfl ti34 hx101 hi102 rfl rfl rfl rfl rfl (Nat.le_of_ble_eq_true rfl) (by simp [plain]) (by rintro _ ⟨_, _, rfl, rfl, ⟨_, _, rfl, ⟨_, rfl, hR107⟩, rfl⟩⟩; exact ⟨[(I x67.1)], [(Sl a74 x67.2.1 c75), (I x67.2.2)], rfl, rfl, ⟨[(Sl a74 x67.2.1 c75)], [(I x67.2.2)], rfl, ⟨_, rfl, (H.ro 3 rfl)⟩, rfl⟩⟩)) wn ?_
      rintro σ108 ⟨H, -⟩
      have hsl : (Sl a23 (s27.1.set s27.2.toNat (x80.1, x80.2.1, x80.2.2)) c24) = (Sl a23 ((s27.1.set s27.2.toNat (x80.1, x80.2.1, x80.2.2)).set (w64 (s27.2 - 1)).toNat (x67.1, x67.2.1, x67.2.2)) c24) := sl_len List.length_set.symm
      rw [hsl]; rw [hsl] at H; clear hsl
      refine w_end (q_blk (q_then (rg (st (v := (I s27.2)) (rv_move rfl) (st (v := (I (w64 (s27.2 - 1)))) (rv_sub (a := s27.2) (b := 1) rfl rfl) (st (v := (I (w64 (s27.2 - 1)))) (rv_assign rfl) (w_end (q_then ?_))))))))
      obtain rfl := Option.some.inj h
      exact ⟨_, rfl, _, σ108, fr_join ⟨rfl, rfl, rfl, rfl, rfl, rfl, trivial⟩, rfl, H.sel' [4, 5, 0] rfl rfl, (List.length_set.trans (List.length_set.trans hn29))⟩
     ·replace h := bif_f hb66 h
      refine c_exit (q_then_x (q_then_x (q_blk_hit ?_)))
      obtain rfl := Option.some.inj h
      obtain rfl := hres _ rfl
      exact ⟨rfl, _, σ65, fr_join ⟨rfl, rfl, rfl, rfl, rfl, trivial⟩, rfl, H.sel' [0, 1, 2] rfl rfl, hn29⟩
   ·clear hj
    have h := h'
    clear h' H
    rintro e a w ⟨rfl, ρ, σ109, rfl, rfl, H, hn110⟩
    refine q_blk (q_then (rg (st (v := (I s4.2)) (rv_move rfl) (st (v := (I (w64 (s4.2 + 1)))) (rv_add (a := s4.2) (b := 1) rfl rfl) (st (v := (I (w64 (s4.2 + 1)))) (rv_assign rfl) (w_end (q_then ?_)))))))
    obtain rfl := Option.some.inj h
    exact ⟨_, rfl, _, σ109, a23, c24, fr_join ⟨rfl, rfl, rfl, rfl, rfl, trivial⟩, rfl, H.sel' [0, 1, 2] rfl rfl⟩
  ·replace h := bif_f hb8 h
   refine c_exit (q_then_x (q_then_x (q_blk_hit ?_)))
   obtain rfl := Option.some.inj h
   obtain rfl := hres _ rfl
   exact ⟨rfl, _, σ5, a6, c7, fr_join ⟨rfl, trivial⟩, rfl, H.sel' [2] rfl rfl⟩
 ·clear hj
  have h := h'
  clear h' H
  rintro e a w ⟨rfl, ρ, σ111, a112, c113, rfl, rfl, H⟩
  refine q_then (c_seq (rg (st (v := (Sl a112 o3 c113)) (rv_move rfl) (st (v := (Sl a112 o3 c113)) (rv_assign rfl) (w_end (q_then (c_ret ?_)))))))
  obtain rfl := Option.some.inj h
  exact fin_ret (v := (Sl a112 o3 c113)) (results_ok Try.results70 (res_tmp (v := (Sl a112 o3 c113)) rfl res_nil) rfl) ⟨a112, c113, rfl, rfl⟩ (H.sel' [0] rfl rfl)

theorem c_spec_grow : ∀ (fuel : Nat) {Gl : List (Int × Int × Int × Int)} {Gm : List (Int × (List Int) × Int)} {Gn : Int} {Gp : Option Addr} {Gq : Nat} {Gr : Option Addr} {Gs : Nat} {r : (List (Int × Int × Int × Int))} (h : M.spec_grow fuel Gl Gm Gn = some r),
    Cal2 Try.prog 43 [(Sl Gp Gl Gq), (Sl Gr Gm Gs), (I Gn)] [Ch.own 0 0 (Sl Gp Gl Gq) Gl, Ch.ro 0 (Sl Gr Gm Gs) Gm] (fun n0 v L => ∃ (az1 : Option Addr), ∃ (cz2 : Nat), v = (Sl az1 r cz2) ∧ L = [Ch.own 0 n0 (Sl az1 r cz2) r]) := by
 intro fuel
 induction fuel with
 | zero => intro _ _ _ _ _ _ _ r h; cases h
 | succ fuel ih =>
 ·intro Gl Gm Gn Gp Gq Gr Gs r h
  replace h : M.spec_grow_F (M.spec_grow fuel) Gl Gm Gn = some r := h
  refine cal2 (n := 83) Try.func43 rfl rfl rfl rfl ?_
  intro S0 σ0 n0 hn0 H
  unfold M.spec_grow_F at h
  refine c_seq (rg (st (v := (.slice none 0 0)) (rv_assign rfl) (w_end (q_then (c_seq (c_seq (rg (st (v := (Sl Gr Gm Gs)) (rv_move rfl) (st (v := (I (Gm.length : Int))) (rv_len Try.underlying23 rfl) (st (v := (B ((Gm.length : Int) == 0))) (rv_eql (a := (Gm.length : Int)) (b := 0) rfl rfl) (w_end ?_)))))))))))
  refine q_then ?_
  refine cd_cond ((Gm.length : Int) == 0) rfl (fun hb1 => ?_) (fun hb1 => ?_)
  ·replace h := bif_t hb1 h
   refine c_seq (rg (st (v := (Sl Gp Gl Gq)) (rv_move rfl) (st (v := (Sl Gp Gl Gq)) (rv_assign rfl) (w_end (q_then (c_ret (q_then_r ?_)))))))
   replace H := H.ownSc 0 0 n0 rfl (Nat.le_refl _)
   obtain rfl := Option.some.inj h
   exact fin_ret (v := (Sl Gp Gl Gq)) (results_ok Try.results43 (res_tmp (v := (Sl Gp Gl Gq)) rfl res_nil) rfl) ⟨Gp, Gq, rfl, rfl⟩ (H.sel' [0] rfl rfl)
  ·replace h := bif_f hb1 h
   refine c_skip (q_then (c_seq (rg (st (v := (Sl Gr Gm Gs)) (rv_move rfl) ?_))))
   obtain ⟨x2, hx3, h'⟩ := bind_some h
   clear h
   have h := h'; clear h'
   obtain ⟨b5, o6, hi4, -⟩ := (H.ro 1 rfl).ix hx3
   refine st (v := (pt b5 o6)) (rv_ix Try.underlying23 ti34 rfl rfl hi4) ?_
   obtain ⟨_, ⟨_, _, rfl, rfl, ⟨_, _, rfl, ⟨_, rfl, hR11⟩, rfl⟩⟩, hl7, hc8⟩ := ((H.ro 1 rfl).at hx3 hi4).cells
   obtain ⟨a9, c10, rfl⟩ := hR11.isSl
   replace H := H.add (d := Ch.ro 0 (Sl a9 x2.2.1 c10) x2.2.1) hR11 (fun _ h => h)
   clear hR11
   refine st (v := (.agg #[(I x2.1), (Sl a9 x2.2.1 c10), (I x2.2.2)])) (rv_load Try.underlying34 rfl ti34 rfl hl7 hc8) (st_ex (ex_alloc (cs := [(I 0), (.slice none 0 0), (I 0)]) H hn0 ti34 rfl) wn ?_)
   rintro _ σ13 ⟨b12, rfl, H, -⟩
   refine st_exS (ex_store_box (k := 0) (cs := [(I 0), (.slice none 0 0), (I 0)]) (vs := [(I x2.1), (Sl a9 x2.2.1 c10), (I x2.2.2)]) (cs' := [(I x2.1), (Sl a9 x2.2.1 c10), (I x2.2.2)]) H (i := 0) rfl ti34 rfl rfl rfl rfl rfl (Nat.le_of_ble_eq_true rfl) (by simp [plain]) rfl) wn ?_
   rintro σ14 ⟨H, -⟩
   refine w_end (q_then (c_seq ?_))
   refine rgP (σ := σ14) 5 (by kernel_rfl) (by kernel_rfl) (by kernel_rfl) ?_
   refine sq (v := (Sl Gr Gm Gs)) (rv_move rfl) ?_
   obtain ⟨xs15, hx16, h'⟩ := bind_some h
   clear h
   have h := h'; clear h'
   obtain ⟨a17, c18, hs19, hR20⟩ := (H.ro 3 rfl).slice hx16
   replace H := H.add (d := Ch.ro 0 (Sl a17 xs15 c18) xs15) hR20 (fun _ h => h)
   clear hR20
   refine sq (v := (Sl a17 xs15 c18)) (rv_slice_l Try.underlying23 ti34 hs19 rfl rfl) (sq (v := (I Gn)) (rv_move rfl) (sq (v := (pt b12 1)) (rv_fieldAddr (off := 1) (ft := 29) Try.underlying34 rfl ti29 rfl rfl) ?_))
   have hc21 := H.cell (u := (Sl a9 x2.2.1 c10)) (o' := 1) 1 1 rfl rfl rfl
   refine sq (v := (Sl a9 x2.2.1 c10)) (rv_load1 Try.underlying29 rfl rfl hc21) (sq_end ?_)
   intro σ22 hm23
   replace H := H.grow (hm23.mono fun _ h => h); clear hm23
   obtain ⟨r24, hx25, h'⟩ := bind_some h
   clear h
   have h := h'; clear h'
   have hc26 := c_spec_byDist (Aj := a17) (Ak := c18) (Bn := a9) (Bo := c10) hx25
   refine st_call (cx_call hc26 (ent_f hc26.fn rfl) hn0 (H.sel' [0, 2, 0, 1, 2, 3, 4] rfl rfl : Hp S0 σ0 _ ([_, _] ++ _))) wn ?_
   rintro _ σ29 ⟨_, ⟨a27, c28, rfl, rfl⟩, H, -⟩
   replace H : Hp _ _ _ [_, _, _, _, _, _] := H
   refine st (v := (Sl a27 r24 c28)) (rv_assign rfl) (w_end (q_then (c_seq (rg (st (v := (Sl a27 r24 c28)) (rv_move rfl) (st (v := (I (r24.length : Int))) (rv_len Try.underlying23 rfl) (st (v := (I (w64 ((r24.length : Int) + 1)))) (rv_add (a := (r24.length : Int)) (b := 1) rfl rfl) ?_)))))))
   refine st (v := (I (w64 ((w64 ((r24.length : Int) + 1)).tdiv 2)))) (rv_quo (a := (w64 ((r24.length : Int) + 1))) (b := 2) rfl rfl (by decide)) ?_
   refine st (v := (I (w64 ((w64 ((r24.length : Int) + 1)).tdiv 2)))) (rv_assign rfl) (w_end (q_then (c_seq (rg (st (v := (pt b12 0)) (rv_fieldAddr (off := 0) (ft := 3) Try.underlying34 rfl ti3 rfl rfl) ?_)))))
   have hc30 := H.cell (u := (I x2.1)) (o' := 0) 2 0 rfl rfl rfl
   refine st (v := (I x2.1)) (rv_load1 Try.underlying3 rfl rfl hc30) ?_
   refine st (v := (.agg #[(I x2.1), (I 0), (I (-1)), (I (-1))])) (rv_build (ps := [(0, (I x2.1)), (2, (I (-1))), (3, (I (-1)))]) Try.underlying31 ti31 (bp31 Try.underlying31) rfl (by kernel_rfl)) ?_
   refine st_ex (ex_alloc (cs := [(I 0), (I 0), (I 0), (I 0)]) H hn0 ti31 rfl) wn ?_
   rintro _ σ32 ⟨b31, rfl, H, -⟩
   refine st_exS (ex_store_box (k := 0) (cs := [(I 0), (I 0), (I 0), (I 0)]) (vs := [(I x2.1), (I 0), (I (-1)), (I (-1))]) (cs' := [(I x2.1), (I 0), (I (-1)), (I (-1))]) H (i := 0) rfl ti31 rfl rfl rfl rfl rfl (Nat.le_of_ble_eq_true rfl) (by simp [plain]) rfl) wn ?_
   rintro σ33 ⟨H, -⟩
   refine w_end (q_then (c_seq (rg (st (v := (Sl Gp Gl Gq)) (rv_move rfl) (st (v := (I (Gl.length : Int))) (rv_len Try.underlying26 rfl) (st (v := (I (Gl.length : Int))) (rv_assign rfl) (w_end (q_then (c_seq (rg (st (v := (Sl Gp Gl Gq)) (rv_move rfl) ?_)))))))))))
   have hc34 := H.cells 0 rfl
   refine st (v := (.agg #[(I x2.1), (I 0), (I (-1)), (I (-1))])) (rv_load (cs := [(I x2.1), (I 0), (I (-1)), (I (-1))]) Try.underlying31 rfl ti31 rfl rfl hc34) ?_
   refine st_ex (ex_buildSlice (el := n0) (xs := ([(x2.1, 0, -1, -1)] : List (Int × Int × Int × Int))) (ps := [(0, (.agg #[(I x2.1), (I 0), (I (-1)), (I (-1))]))]) (cs := [(I x2.1), (I 0), (I (-1)), (I (-1))]) H hn0 Try.underlying26 ti31 rfl rfl (by kernel_rfl) (.cons (c := [(I x2.1), (I 0), (I (-1)), (I (-1))]) ⟨[(I x2.1)], [(I 0), (I (-1)), (I (-1))], rfl, rfl, ⟨[(I 0)], [(I (-1)), (I (-1))], rfl, rfl, ⟨[(I (-1))], [(I (-1))], rfl, rfl, rfl⟩⟩⟩ (.nil)) rfl) wn ?_
   rintro _ σ36 ⟨b35, rfl, H, -⟩
   replace H : Hp S0 σ0 σ36 [Ch.own n0 n0 (Sl (some ⟨b35, 0, none⟩) ([(x2.1, 0, -1, -1)] : List (Int × Int × Int × Int)) 1) ([(x2.1, 0, -1, -1)] : List (Int × Int × Int × Int)), Ch.own n0 0 (Sl a27 r24 c28) r24, Ch.bx n0 b12 0 [(I x2.1), (Sl a9 x2.2.1 c10), (I x2.2.2)] [] [], Ch.ro 0 (Sl a9 x2.2.1 c10) x2.2.1, Ch.own 0 0 (Sl Gp Gl Gq) Gl] := H.sel' [0, 2, 4, 5, 6] rfl rfl
   obtain ⟨xs37, hx38, h'⟩ := bind_some h
   clear h
   have h := h'; clear h'
   refine st_ex (ex_append H (i := 4) rfl Try.underlying26 Try.underlying26 ti31 rfl rfl (by decide) ((H.own 0 rfl).rd.sc) hx38 (Nat.zero_le _) rfl rfl) wn ?_
   rintro _ σ41 ⟨a39, c40, rfl, H, -⟩
   refine st (v := (Sl a39 xs37 c40)) (rv_assign rfl) (w_end (q_then (c_seq (c_seq (rg (st (v := (I (w64 ((w64 ((r24.length : Int) + 1)).tdiv 2)))) (rv_move rfl) (st (v := (B (decide (0 < (w64 ((w64 ((r24.length : Int) + 1)).tdiv 2)))))) (rv_gtr (a := (w64 ((w64 ((r24.length : Int) + 1)).tdiv 2))) (b := 0) rfl rfl) (w_end (q_then ?_)))))))))
   obtain ⟨o42, hj, h'⟩ := bind_some h
   clear h
   refine c_cut (fun e a w => e = .normal ∧ ∃ (ρ : Nat → Value) (σ : St) (aj1 : Option Addr) (cj2 : Nat), a = fr 83 (updL ρ [(0, (Sl aj1 o42 cj2)), (2, (I Gn)), (8, (Sl a27 r24 c28)), (9, (I (w64 ((w64 ((r24.length : Int) + 1)).tdiv 2)))), (11, (I (Gl.length : Int)))]) ∧ w = σ.w ∧ Hp S0 σ0 σ [Ch.own 0 0 (Sl aj1 o42 cj2) o42, Ch.ro 0 (Sl a27 r24 c28) r24]) ?_ ?_
   ·clear h'
    rename _ = some o42 => h
    refine cd_cond (decide (0 < (w64 ((w64 ((r24.length : Int) + 1)).tdiv 2)))) rfl (fun hb43 => ?_) (fun hb43 => ?_)
    ·replace h := bif_t hb43 h
     refine c_seq ?_
     obtain ⟨x44, hx45, h'⟩ := bind_some h
     clear h
     have h := h'; clear h'
     obtain ⟨b47, o48, hi46, -⟩ := (H.own 2 rfl).ix hx45
     obtain ⟨v52, hc53, hR51⟩ := ((H.own 2 rfl).at hx45 hi46).snd.fst.slice
     obtain ⟨a49, c50, rfl⟩ := hR51.isSl
     replace H := H.add (d := Ch.ro 0 (Sl a49 x44.2.1 c50) x44.2.1) hR51 (fun _ h => h)
     clear hR51
     have hc54 := H.cell (u := (Sl a9 x2.2.1 c10)) (o' := 1) 4 1 rfl rfl rfl
     obtain ⟨r55, hx56, h'⟩ := bind_some h
     clear h
     have h := h'; clear h'
     have hc57 := c_spec_dist (Ax := a49) (Ay := c50) (Az := a9) (Ba := c10) hx56
     have Hs := H
     refine rg2 (σ := σ41) (Nm := Unit) 12 [11] [[false], [true]] [[(0, 0), (1, 1)], [(0, 0), (1, 1)], [(0, 0)], [(0, 0)], [(0, 0)], [(0, 0)], [(0, 0)], [(0, 0)], [(0, 0)], [(0, 0)], [(0, 0)], [(0, 1)]] 1 [fun _ => fun σm => Hp S0 σ0 σm [Ch.ro 0 (Sl a49 x44.2.1 c50) x44.2.1, Ch.own 0 0 (Sl a39 xs37 c40) xs37, Ch.own n0 n0 (Sl (some ⟨b35, 0, none⟩) ([(x2.1, 0, -1, -1)] : List (Int × Int × Int × Int)) 1) ([(x2.1, 0, -1, -1)] : List (Int × Int × Int × Int)), Ch.own n0 0 (Sl a27 r24 c28) r24, Ch.bx n0 b12 0 [(I x2.1), (Sl a9 x2.2.1 c10), (I x2.2.2)] [] [], Ch.ro 0 (Sl a9 x2.2.1 c10) x2.2.1] ∧ Md (cov []) σ41 σm, fun _ => fun σm => Hp S0 σ0 σm [Ch.ro 0 (Sl a49 x44.2.1 c50) x44.2.1, Ch.own 0 0 (Sl a39 xs37 c40) xs37, Ch.own n0 n0 (Sl (some ⟨b35, 0, none⟩) ([(x2.1, 0, -1, -1)] : List (Int × Int × Int × Int)) 1) ([(x2.1, 0, -1, -1)] : List (Int × Int × Int × Int)), Ch.own n0 0 (Sl a27 r24 c28) r24, Ch.bx n0 b12 0 [(I x2.1), (Sl a9 x2.2.1 c10), (I x2.2.2)] [] [], Ch.ro 0 (Sl a9 x2.2.1 c10) x2.2.1] ∧ Md (cov []) σ41 σm] [fun _ => (Sl a39 xs37 c40), fun _ => (I (Gl.length : Int)), fun _ => (I Gn), fun _ => (Sl a27 r24 c28), fun _ => (I (w64 ((w64 ((r24.length : Int) + 1)).tdiv 2))), fun _ => (I (w64 ((w64 ((w64 ((r24.length : Int) + 1)).tdiv 2)) - 1))), fun _ => (pt b47 o48), fun _ => (pt b47 (o48 + 1)), fun _ => (Sl a49 x44.2.1 c50), fun _ => (pt b12 1), fun _ => (Sl a9 x2.2.1 c10), fun _ => (I r55)] () (by kernel_rfl) (by kernel_rfl) ?_ ?_ ?_
     ·intro σm m0
      exact ⟨H.grow (m0.mono fun _ h => h.elim), m0⟩
     ·refine ac rfl (by
        intro k _nm ρ σm hJ hoff hdep
        have e0 := look_off (N := 83) (hoff 0 rfl) rfl
        exact dp_v (v := (Sl a39 xs37 c40)) wn (rv_move e0) rfl hJ) ?_
      refine ac rfl (by
        intro k _nm ρ σm hJ hoff hdep
        have e11 := look_off (N := 83) (hoff 11 rfl) rfl
        exact dp_v (v := (I (Gl.length : Int))) wn (rv_move e11) rfl hJ) ?_
      refine ac rfl (by
        intro k _nm ρ σm hJ hoff hdep
        have e2 := look_off (N := 83) (hoff 2 rfl) rfl
        exact dp_v (v := (I Gn)) wn (rv_move e2) rfl hJ) ?_
      refine ac rfl (by
        intro k _nm ρ σm hJ hoff hdep
        have e8 := look_off (N := 83) (hoff 8 rfl) rfl
        exact dp_v (v := (Sl a27 r24 c28)) wn (rv_move e8) rfl hJ) ?_
      refine ac rfl (by
        intro k _nm ρ σm hJ hoff hdep
        have e9 := look_off (N := 83) (hoff 9 rfl) rfl
        exact dp_v (v := (I (w64 ((w64 ((r24.length : Int) + 1)).tdiv 2)))) wn (rv_move e9) rfl hJ) ?_
      refine ac rfl (by
        intro k _nm ρ σm hJ hoff hdep
        have e44 := hdep 4 rfl rfl 44 rfl
        exact dp_v (v := (I (w64 ((w64 ((w64 ((r24.length : Int) + 1)).tdiv 2)) - 1)))) wn (rv_sub (a := (w64 ((w64 ((r24.length : Int) + 1)).tdiv 2))) (b := 1) e44 rfl) rfl hJ) ?_
      refine ac rfl (by
        intro k _nm ρ σm hJ hoff hdep
        have e43 := hdep 3 rfl rfl 43 rfl
        have e45 := hdep 5 rfl rfl 45 rfl
        exact dp_v (v := (pt b47 o48)) wn (rv_ix Try.underlying23 ti34 e43 e45 hi46) rfl hJ) ?_
      refine ac rfl (by
        intro k _nm ρ σm hJ hoff hdep
        have e46 := hdep 6 rfl rfl 46 rfl
        exact dp_v (v := (pt b47 (o48 + 1))) wn (rv_fieldAddr (off := 1) (ft := 29) Try.underlying34 rfl ti29 rfl e46) rfl hJ) ?_
      refine all_cons (by
        refine ⟨?_, ?_⟩
        ·intro _nm ρ σm hJ hoff hdep
         have e47 := hdep 7 rfl rfl 47 rfl
         obtain ⟨H, m⟩ := id hJ
         replace hc53 := m.hcell hc53 nocov
         exact dp_v (v := (Sl a49 x44.2.1 c50)) wn (rv_load1 Try.underlying29 rfl e47 hc53) rfl hJ
        trivial) ?_
      refine ac rfl (by
        intro k _nm ρ σm hJ hoff hdep
        have e7 := look_off (N := 83) (hoff 7 rfl) rfl
        exact dp_v (v := (pt b12 1)) wn (rv_fieldAddr (off := 1) (ft := 29) Try.underlying34 rfl ti29 rfl e7) rfl hJ) ?_
      refine all_cons (by
        refine ⟨?_, ?_⟩
        ·intro _nm ρ σm hJ hoff hdep
         have e49 := hdep 9 rfl rfl 49 rfl
         obtain ⟨H, m⟩ := id hJ
         have hc54 := H.cell (u := (Sl a9 x2.2.1 c10)) (o' := 1) 4 1 rfl rfl rfl
         exact dp_v (v := (Sl a9 x2.2.1 c10)) wn (rv_load1 Try.underlying29 rfl e49 hc54) rfl hJ
        trivial) ?_
      refine all_cons (by
        refine ⟨?_, ?_⟩
        ·intro _nm ρ σm hJ hoff hdep
         have e42 : look 83 ρ 42 = (I Gn) := hdep 2 rfl rfl 42 rfl
         have e48 : look 83 ρ 48 = (Sl a49 x44.2.1 c50) := hdep 8 rfl rfl 48 rfl
         have e50 : look 83 ρ 50 = (Sl a9 x2.2.1 c10) := hdep 10 rfl rfl 50 rfl
         obtain ⟨H, m⟩ := id hJ
         refine dp_cx wn (cx_call hc57 (ent_f hc57.fn (by show [look 83 ρ 42, look 83 ρ 48, look 83 ρ 50] = _; rw [e42, e48, e50])) hn0 (H.sel' [0, 5, 0, 1, 2, 3, 4, 5] rfl rfl : Hp S0 σ0 _ ([_, _] ++ _))) ?_
         rintro _ σq ⟨_, ⟨rfl, rfl⟩, H2, m2⟩
         exact ⟨_, (), rfl, rfl, ⟨H2.sel' [0, 1, 2, 3, 4, 5] rfl rfl, m.comp0 (m2.mono (fun i h => by simp [cov, Ch.ro] at h))⟩, stab [0, 1, 2, 3, 4, 5, 6, 7, 8, 9, 10] (by kernel_rfl) ⟨rfl, rfl, rfl, rfl, rfl, rfl, rfl, rfl, rfl, rfl, rfl, trivial⟩⟩
        trivial) ?_
      exact all_nil
     ·intro _nm ρ σ58 hJ hoff hrel
      have e0 := look_off (N := 83) (hoff 0 rfl) rfl
      have e2 := look_off (N := 83) (hoff 2 rfl) rfl
      have e8 := look_off (N := 83) (hoff 8 rfl) rfl
      have e9 := look_off (N := 83) (hoff 9 rfl) rfl
      have e11 := look_off (N := 83) (hoff 11 rfl) rfl
      have e40 := hrel 0 rfl 40 rfl
      have e41 := hrel 1 rfl 41 rfl
      have e51 := hrel 11 rfl 51 rfl
      obtain ⟨H, -⟩ := (show Hp S0 σ0 σ58 [Ch.ro 0 (Sl a49 x44.2.1 c50) x44.2.1, Ch.own 0 0 (Sl a39 xs37 c40) xs37, Ch.own n0 n0 (Sl (some ⟨b35, 0, none⟩) ([(x2.1, 0, -1, -1)] : List (Int × Int × Int × Int)) 1) ([(x2.1, 0, -1, -1)] : List (Int × Int × Int × Int)), Ch.own n0 0 (Sl a27 r24 c28) r24, Ch.bx n0 b12 0 [(I x2.1), (Sl a9 x2.2.1 c10), (I x2.2.2)] [] [], Ch.ro 0 (Sl a9 x2.2.1 c10) x2.2.1] ∧ Md (cov []) σ41 σ58 from hJ)
      clear hJ Hs
      rw [fr_lookL (L := [(0, (Sl a39 xs37 c40)), (2, (I Gn)), (8, (Sl a27 r24 c28)), (9, (I (w64 ((w64 ((r24.length : Int) + 1)).tdiv 2)))), (11, (I (Gl.length : Int))), (40, (Sl a39 xs37 c40)), (41, (I (Gl.length : Int))), (51, (I r55))]) ⟨e0, e2, e8, e9, e11, e40, e41, e51, trivial⟩]
      clear hoff hrel e0 e2 e8 e9 e11 e40 e41 e51
      obtain ⟨x59, hx60, h'⟩ := bind_some h
      clear h
      have h := h'; clear h'
      obtain ⟨b62, o63, hi61, -⟩ := (H.own 1 rfl).ix hx60
      refine st (v := (pt b62 o63)) (rv_ix Try.underlying26 ti31 rfl rfl hi61) (st (v := (pt b62 (o63 + 1))) (rv_fieldAddr (off := 1) (ft := 3) Try.underlying31 rfl ti3 rfl rfl) ?_)
      refine st_exS (ex_store_own (e' := (x59.1, r55, x59.2.2.1, x59.2.2.2)) (vs := [(I r55)]) (k := 1) H (i := 1) rfl ti3 hx60 hi61 rfl rfl rfl rfl rfl (Nat.le_of_ble_eq_true rfl) (by simp [plain]) (by rintro _ ⟨_, _, rfl, rfl, ⟨_, _, rfl, rfl, ⟨_, _, rfl, rfl, rfl⟩⟩⟩; exact ⟨[(I x59.1)], [(I r55), (I x59.2.2.1), (I x59.2.2.2)], rfl, rfl, ⟨[(I r55)], [(I x59.2.2.1), (I x59.2.2.2)], rfl, rfl, ⟨[(I x59.2.2.1)], [(I x59.2.2.2)], rfl, rfl, rfl⟩⟩⟩)) wn ?_
      rintro σ64 ⟨H, -⟩
      have hsl : (Sl a39 xs37 c40) = (Sl a39 (xs37.set (Gl.length : Int).toNat (x59.1, r55, x59.2.2.1, x59.2.2.2)) c40) := sl_len List.length_set.symm
      rw [hsl]; rw [hsl] at H; clear hsl
      refine w_end (q_then (c_seq (rg (st (v := (Sl a39 (xs37.set (Gl.length : Int).toNat (x59.1, r55, x59.2.2.1, x59.2.2.2)) c40)) (rv_move rfl) (st (v := (I (Gl.length : Int))) (rv_move rfl) (st (v := (Sl a39 (xs37.set (Gl.length : Int).toNat (x59.1, r55, x59.2.2.1, x59.2.2.2)) c40)) (rv_move rfl) (st (v := (I ((xs37.set (Gl.length : Int).toNat (x59.1, r55, x59.2.2.1, x59.2.2.2)).length : Int))) (rv_len Try.underlying26 rfl) ?_)))))))
      obtain ⟨x65, hx66, h'⟩ := bind_some h
      clear h
      have h := h'; clear h'
      obtain ⟨b68, o69, hi67, -⟩ := (H.own 0 rfl).ix hx66
      refine st (v := (pt b68 o69)) (rv_ix Try.underlying26 ti31 rfl rfl hi67) (st (v := (pt b68 (o69 + 2))) (rv_fieldAddr (off := 2) (ft := 3) Try.underlying31 rfl ti3 rfl rfl) ?_)
      refine st_exS (ex_store_own (e' := (x65.1, x65.2.1, ((xs37.set (Gl.length : Int).toNat (x59.1, r55, x59.2.2.1, x59.2.2.2)).length : Int), x65.2.2.2)) (vs := [(I ((xs37.set (Gl.length : Int).toNat (x59.1, r55, x59.2.2.1, x59.2.2.2)).length : Int))]) (k := 2) H (i := 0) rfl ti3 hx66 hi67 rfl rfl rfl rfl rfl (Nat.le_of_ble_eq_true rfl) (by simp [plain]) (by rintro _ ⟨_, _, rfl, rfl, ⟨_, _, rfl, rfl, ⟨_, _, rfl, rfl, rfl⟩⟩⟩; exact ⟨[(I x65.1)], [(I x65.2.1), (I ((xs37.set (Gl.length : Int).toNat (x59.1, r55, x59.2.2.1, x59.2.2.2)).length : Int)), (I x65.2.2.2)], rfl, rfl, ⟨[(I x65.2.1)], [(I ((xs37.set (Gl.length : Int).toNat (x59.1, r55, x59.2.2.1, x59.2.2.2)).length : Int)), (I x65.2.2.2)], rfl, rfl, ⟨[(I ((xs37.set (Gl.length : Int).toNat (x59.1, r55, x59.2.2.1, x59.2.2.2)).length : Int))], [(I x65.2.2.2)], rfl, rfl, rfl⟩⟩⟩)) wn ?_
      rintro σ70 ⟨H, -⟩
      have hsl : (Sl a39 (xs37.set (Gl.length : Int).toNat (x59.1, r55, x59.2.2.1, x59.2.2.2)) c40) = (Sl a39 ((xs37.set (Gl.length : Int).toNat (x59.1, r55, x59.2.2.1, x59.2.2.2)).set (Gl.length : Int).toNat (x65.1, x65.2.1, ((xs37.set (Gl.length : Int).toNat (x59.1, r55, x59.2.2.1, x59.2.2.2)).length : Int), x65.2.2.2)) c40) := sl_len List.length_set.symm
      rw [hsl]; rw [hsl] at H; clear hsl
      refine w_end (q_then (rg (st (v := (Sl a39 ((xs37.set (Gl.length : Int).toNat (x59.1, r55, x59.2.2.1, x59.2.2.2)).set (Gl.length : Int).toNat (x65.1, x65.2.1, ((xs37.set (Gl.length : Int).toNat (x59.1, r55, x59.2.2.1, x59.2.2.2)).length : Int), x65.2.2.2)) c40)) (rv_move rfl) (st (v := (Sl a27 r24 c28)) (rv_move rfl) (st (v := (I (w64 ((w64 ((r24.length : Int) + 1)).tdiv 2)))) (rv_move rfl) ?_)))))
      obtain ⟨xs71, hx72, h'⟩ := bind_some h
      clear h
      have h := h'; clear h'
      obtain ⟨σ77, hw78, H, -⟩ := H.pub 3 rfl (Nat.zero_le _)
      rw [← hw78]; clear hw78
      obtain ⟨a73, c74, hs75, hR76⟩ := (H.ro 0 rfl).slice hx72
      replace H := H.add (d := Ch.ro 0 (Sl a73 xs71 c74) xs71) hR76 (fun _ h => h)
      clear hR76
      refine st (v := (Sl a73 xs71 c74)) (rv_slice_h Try.underlying23 ti34 hs75 rfl rfl) (st (v := (I Gn)) (rv_move rfl) ?_)
      obtain ⟨r79, hx80, h'⟩ := bind_some h
      clear h
      have h := h'; clear h'
      have hc81 := ih (Gp := a39) (Gq := c40) (Gr := a73) (Gs := c74) hx80
      refine st_call (cx_call hc81 (ent_f hc81.fn rfl) hn0 (H.sel' [2, 0, 0, 1, 3, 4, 5, 6] rfl rfl : Hp S0 σ0 _ ([_, _] ++ _))) wn ?_
      rintro _ σ84 ⟨_, ⟨a82, c83, rfl, rfl⟩, H, -⟩
      replace H : Hp _ _ _ [_, _, _, _, _, _, _] := H
      refine st (v := (Sl a82 r79 c83)) (rv_assign rfl) (w_end ?_)
      replace H := H.ownSc 0 0 0 rfl (Nat.le_refl _)
      obtain rfl := Option.some.inj h
      exact ⟨rfl, _, σ84, a82, c83, fr_join ⟨rfl, rfl, rfl, rfl, rfl, trivial⟩, rfl, H.sel' [0, 2] rfl rfl⟩
    ·replace h := bif_f hb43 h
     refine c_skip ?_
     obtain ⟨σ85, hw86, H, -⟩ := H.pub 2 rfl (Nat.zero_le _)
     rw [← hw86]; clear hw86
     obtain rfl := Option.some.inj h
     exact ⟨rfl, _, σ85, a39, c40, fr_join ⟨rfl, rfl, rfl, rfl, rfl, trivial⟩, rfl, H.sel' [1, 0] rfl rfl⟩
   ·clear hj
    have h := h'
    clear h' H
    rintro e a w ⟨rfl, ρ, σ87, a88, c89, rfl, rfl, H⟩
    refine q_then (c_seq (c_seq (rg (st (v := (I (w64 ((w64 ((r24.length : Int) + 1)).tdiv 2)))) (rv_move rfl) (st (v := (Sl a27 r24 c28)) (rv_move rfl) (st (v := (I (r24.length : Int))) (rv_len Try.underlying23 rfl) (st (v := (B (decide ((w64 ((w64 ((r24.length : Int) + 1)).tdiv 2)) < (r24.length : Int))))) (rv_lss (a := (w64 ((w64 ((r24.length : Int) + 1)).tdiv 2))) (b := (r24.length : Int)) rfl rfl) (w_end (q_then ?_)))))))))
    obtain ⟨o90, hj, h'⟩ := bind_some h
    clear h
    refine c_cut (fun e a w => e = .normal ∧ ∃ (ρ : Nat → Value) (σ : St) (aj1 : Option Addr) (cj2 : Nat), a = fr 83 (updL ρ [(0, (Sl aj1 o90 cj2))]) ∧ w = σ.w ∧ Hp S0 σ0 σ [Ch.own 0 0 (Sl aj1 o90 cj2) o90]) ?_ ?_
    ·clear h'
     rename _ = some o90 => h
     refine cd_cond (decide ((w64 ((w64 ((r24.length : Int) + 1)).tdiv 2)) < (r24.length : Int))) rfl (fun hb91 => ?_) (fun hb91 => ?_)
     ·replace h := bif_t hb91 h
      refine c_seq (rg (st (v := (Sl a88 o42 c89)) (rv_move rfl) (st (v := (I (Gl.length : Int))) (rv_move rfl) (st (v := (Sl a88 o42 c89)) (rv_move rfl) (st (v := (I (o42.length : Int))) (rv_len Try.underlying26 rfl) ?_)))))
      obtain ⟨x92, hx93, h'⟩ := bind_some h
      clear h
      have h := h'; clear h'
      obtain ⟨b95, o96, hi94, -⟩ := (H.own 0 rfl).ix hx93
      refine st (v := (pt b95 o96)) (rv_ix Try.underlying26 ti31 rfl rfl hi94) (st (v := (pt b95 (o96 + 3))) (rv_fieldAddr (off := 3) (ft := 3) Try.underlying31 rfl ti3 rfl rfl) ?_)
      refine st_exS (ex_store_own (e' := (x92.1, x92.2.1, x92.2.2.1, (o42.length : Int))) (vs := [(I (o42.length : Int))]) (k := 3) H (i := 0) rfl ti3 hx93 hi94 rfl rfl rfl rfl rfl (Nat.le_of_ble_eq_true rfl) (by simp [plain]) (by rintro _ ⟨_, _, rfl, rfl, ⟨_, _, rfl, rfl, ⟨_, _, rfl, rfl, rfl⟩⟩⟩; exact ⟨[(I x92.1)], [(I x92.2.1), (I x92.2.2.1), (I (o42.length : Int))], rfl, rfl, ⟨[(I x92.2.1)], [(I x92.2.2.1), (I (o42.length : Int))], rfl, rfl, ⟨[(I x92.2.2.1)], [(I (o42.length : Int))], rfl, rfl, rfl⟩⟩⟩)) wn ?_
      rintro σ97 ⟨H, -⟩
      have hsl : (Sl a88 o42 c89) = (Sl a88 (o42.set (Gl.length : Int).toNat (x92.1, x92.2.1, x92.2.2.1, (o42.length : Int))) c89) := sl_len List.length_set.symm
      rw [hsl]; rw [hsl] at H; clear hsl
      refine w_end (q_then (rg (st (v := (Sl a88 (o42.set (Gl.length : Int).toNat (x92.1, x92.2.1, x92.2.2.1, (o42.length : Int))) c89)) (rv_move rfl) (st (v := (Sl a27 r24 c28)) (rv_move rfl) (st (v := (I (w64 ((w64 ((r24.length : Int) + 1)).tdiv 2)))) (rv_move rfl) ?_)))))
      obtain ⟨xs98, hx99, h'⟩ := bind_some h
      clear h
      have h := h'; clear h'
      obtain ⟨a100, c101, hs102, hR103⟩ := (H.ro 1 rfl).slice hx99
      replace H := H.add (d := Ch.ro 0 (Sl a100 xs98 c101) xs98) hR103 (fun _ h => h)
      clear hR103
      refine st (v := (Sl a100 xs98 c101)) (rv_slice_l Try.underlying23 ti34 hs102 rfl rfl) (st (v := (I Gn)) (rv_move rfl) ?_)
      obtain ⟨r104, hx105, h'⟩ := bind_some h
      clear h
      have h := h'; clear h'
      have hc106 := ih (Gp := a88) (Gq := c89) (Gr := a100) (Gs := c101) hx105
      refine st_call (cx_call hc106 (ent_f hc106.fn rfl) hn0 (H.sel' [1, 0, 0, 2] rfl rfl : Hp S0 σ0 _ ([_, _] ++ _))) wn ?_
      rintro _ σ109 ⟨_, ⟨a107, c108, rfl, rfl⟩, H, -⟩
      replace H : Hp _ _ _ [_, _, _] := H
      refine st (v := (Sl a107 r104 c108)) (rv_assign rfl) (w_end ?_)
      replace H := H.ownSc 0 0 0 rfl (Nat.le_refl _)
      obtain rfl := Option.some.inj h
      exact ⟨rfl, _, σ109, a107, c108, fr_join ⟨rfl, trivial⟩, rfl, H.sel' [0] rfl rfl⟩
     ·replace h := bif_f hb91 h
      refine c_skip ?_
      obtain rfl := Option.some.inj h
      exact ⟨rfl, _, σ87, a88, c89, fr_join ⟨rfl, trivial⟩, rfl, H.sel' [0] rfl rfl⟩
    ·clear hj
     have h := h'
     clear h' H
     rintro e a w ⟨rfl, ρ, σ110, a111, c112, rfl, rfl, H⟩
     refine q_then (c_seq (rg (st (v := (Sl a111 o90 c112)) (rv_move rfl) (st (v := (Sl a111 o90 c112)) (rv_assign rfl) (w_end (q_then (c_ret ?_)))))))
     replace H := H.ownSc 0 0 n0 rfl (Nat.le_refl _)
     obtain rfl := Option.some.inj h
     exact fin_ret (v := (Sl a111 o90 c112)) (results_ok Try.results43 (res_tmp (v := (Sl a111 o90 c112)) rfl res_nil) rfl) ⟨a111, c112, rfl, rfl⟩ (H.sel' [0] rfl rfl)

theorem c_spec_sameNodes {Aq : List (Int × Int × Int × Int)} {Ar : List (Int × Int × Int × Int)} {Gw : Option Addr} {Gx : Nat} {Gy : Option Addr} {Gz : Nat} {r : Bool} (h : M.spec_sameNodes Aq Ar = some r) :
    Cal2 Try.prog 50 [(Sl Gw Aq Gx), (Sl Gy Ar Gz)] [Ch.ro 0 (Sl Gw Aq Gx) Aq, Ch.ro 0 (Sl Gy Ar Gz) Ar] (fun n0 v L => v = (B r) ∧ L = []) := by
 refine cal2 (n := 26) Try.func50 rfl rfl rfl rfl ?_
 intro S0 σ0 n0 hn0 H
 unfold M.spec_sameNodes at h
 refine c_seq (rg (st (v := (B false)) (rv_assign rfl) (w_end (q_then (c_seq (c_seq (rg (st (v := (Sl Gw Aq Gx)) (rv_move rfl) (st (v := (I (Aq.length : Int))) (rv_len Try.underlying26 rfl) (st (v := (Sl Gy Ar Gz)) (rv_move rfl) (st (v := (I (Ar.length : Int))) (rv_len Try.underlying26 rfl) ?_)))))))))))
 refine st (v := (B ((Aq.length : Int) != (Ar.length : Int)))) (rv_neq (a := (Aq.length : Int)) (b := (Ar.length : Int)) rfl rfl) (w_end (q_then ?_))
 refine cd_cond ((Aq.length : Int) != (Ar.length : Int)) rfl (fun hb1 => ?_) (fun hb1 => ?_)
 ·replace h := bif_t hb1 h
  refine c_seq (rg (st (v := (B false)) (rv_assign rfl) (w_end (q_then (c_ret (q_then_r ?_))))))
  obtain rfl := Option.some.inj h
  exact fin_ret (v := (B false)) (results_ok Try.results50 (res_tmp (v := (B false)) rfl res_nil) rfl) ⟨rfl, rfl⟩ (H.sel' [] rfl rfl)
 ·replace h := bif_f hb1 h
  refine c_skip (q_then (c_seq (c_seq (rg (st (v := (I 0)) (rv_assign rfl) (w_end (q_then ?_)))))))
  obtain ⟨o2, hj, h'⟩ := bind_some h
  clear h
  refine c_cut (fun e a w => (∃ t, o2 = (.inl t) ∧ e = .normal ∧ ∃ (ρ : Nat → Value) (σ : St), a = fr 26 (updL ρ []) ∧ w = σ.w ∧ Hp S0 σ0 σ []) ∨ (∃ t, o2 = (.inr t) ∧ e = .ret ∧ ∃ (ρ : Nat → Value) (σ : St), a = fr 26 (updL ρ [(4, (B t))]) ∧ w = σ.w ∧ Hp S0 σ0 σ [])) ?_ ?_
  ·clear h'
   rename _ = some o2 => h
   refine c_blk (wp_loopM _ h (fun s3 a w => ∃ (ρ : Nat → Value) (σ : St), a = fr 26 (updL ρ [(0, (Sl Gw Aq Gx)), (1, (Sl Gy Ar Gz)), (5, (I s3))]) ∧ w = σ.w ∧ Hp S0 σ0 σ [Ch.ro 0 (Sl Gw Aq Gx) Aq, Ch.ro 0 (Sl Gy Ar Gz) Ar]) ⟨_, σ0, fr_join ⟨rfl, rfl, rfl, trivial⟩, rfl, H.sel' [0, 1] rfl rfl⟩ ?_)
   clear h H
   rintro s3 a w o ⟨ρ, σ4, rfl, rfl, H⟩ h hres
   refine c_seq (c_seq (rg (st (v := (I s3)) (rv_move rfl) (st (v := (Sl Gw Aq Gx)) (rv_move rfl) (st (v := (I (Aq.length : Int))) (rv_len Try.underlying26 rfl) (st (v := (B (decide (s3 < (Aq.length : Int))))) (rv_lss (a := s3) (b := (Aq.length : Int)) rfl rfl) (w_end (q_then ?_))))))))
   refine cd_cond (decide (s3 < (Aq.length : Int))) rfl (fun hb5 => ?_) (fun hb5 => ?_)
   ·replace h := bif_t hb5 h
    refine c_skip (q_then (c_seq (c_blk (c_seq ?_))))
    refine rgP (σ := σ4) 8 (by kernel_rfl) (by kernel_rfl) (by kernel_rfl) ?_
    refine sq (v := (Sl Gw Aq Gx)) (rv_move rfl) (sq (v := (I s3)) (rv_move rfl) ?_)
    obtain ⟨x6, hx7, h'⟩ := bind_some h
    clear h
    have h := h'; clear h'
    obtain ⟨b9, o10, hi8, -⟩ := (H.ro 0 rfl).ix hx7
    refine sq (v := (pt b9 o10)) (rv_ix Try.underlying26 ti31 rfl rfl hi8) ?_
    obtain ⟨_, ⟨_, _, rfl, rfl, ⟨_, _, rfl, rfl, ⟨_, _, rfl, rfl, rfl⟩⟩⟩, hl11, hc12⟩ := ((H.ro 0 rfl).at hx7 hi8).cells
    refine sq (v := (.agg #[(I x6.1), (I x6.2.1), (I x6.2.2.1), (I x6.2.2.2)])) (rv_load Try.underlying31 rfl ti31 rfl hl11 hc12) (sq (v := (Sl Gy Ar Gz)) (rv_move rfl) (sq (v := (I s3)) (rv_move rfl) ?_))
    obtain ⟨x13, hx14, h'⟩ := bind_some h
    clear h
    have h := h'; clear h'
    obtain ⟨b16, o17, hi15, -⟩ := (H.ro 1 rfl).ix hx14
    refine sq (v := (pt b16 o17)) (rv_ix Try.underlying26 ti31 rfl rfl hi15) ?_
    obtain ⟨_, ⟨_, _, rfl, rfl, ⟨_, _, rfl, rfl, ⟨_, _, rfl, rfl, rfl⟩⟩⟩, hl18, hc19⟩ := ((H.ro 1 rfl).at hx14 hi15).cells
    refine sq (v := (.agg #[(I x13.1), (I x13.2.1), (I x13.2.2.1), (I x13.2.2.2)])) (rv_load Try.underlying31 rfl ti31 rfl hl18 hc19) (sq_end ?_)
    intro σ20 hm21
    replace H := H.grow (hm21.mono fun _ h => h); clear hm21
    refine st (v := (B (!(([x6.1, x6.2.1, x6.2.2.1, x6.2.2.2] : List Int) == ([x13.1, x13.2.1, x13.2.2.1, x13.2.2.2] : List Int))))) (rv_neqI (xs := ([x6.1, x6.2.1, x6.2.2.1, x6.2.2.2] : List Int)) (ys := ([x13.1, x13.2.1, x13.2.2.1, x13.2.2.2] : List Int)) (by kernel_rfl) (by kernel_rfl) (by kernel_rfl) rfl (by kernel_rfl) (by exact intfs31) rfl rfl) ?_
    refine w_end (q_then ?_)
    refine cd_cond (!(([x6.1, x6.2.1, x6.2.2.1, x6.2.2.2] : List Int) == ([x13.1, x13.2.1, x13.2.2.1, x13.2.2.2] : List Int))) rfl (fun hb22 => ?_) (fun hb22 => ?_)
    ·replace h := bif_t hb22 h
     refine c_seq (rg (st (v := (B false)) (rv_assign rfl) (w_end (q_then (c_ret (q_blk_r (q_then_r (q_then_r (q_blk_r ?_)))))))))
     obtain rfl := Option.some.inj h
     obtain rfl := hres _ rfl
     exact .inr (⟨_, rfl, rfl, _, σ20, fr_join ⟨rfl, trivial⟩, rfl, H.sel' [] rfl rfl⟩)
    ·replace h := bif_f hb22 h
     refine c_skip (q_blk (q_then (rg (st (v := (I s3)) (rv_move rfl) (st (v := (I (w64 (s3 + 1)))) (rv_add (a := s3) (b := 1) rfl rfl) (st (v := (I (w64 (s3 + 1)))) (rv_assign rfl) (w_end (q_then ?_))))))))
     obtain rfl := Option.some.inj h
     exact ⟨_, rfl, _, σ20, fr_join ⟨rfl, rfl, rfl, trivial⟩, rfl, H.sel' [0, 1] rfl rfl⟩
   ·replace h := bif_f hb5 h
    refine c_exit (q_then_x (q_then_x (q_blk_hit ?_)))
    obtain rfl := Option.some.inj h
    obtain rfl := hres _ rfl
    exact .inl ⟨_, rfl, rfl, _, σ4, fr_join trivial, rfl, H.sel' [] rfl rfl⟩
  ·clear hj
   have h := h'
   clear h' H
   rintro e a w (⟨t23, rfl, rfl, ρ, σ24, rfl, rfl, H⟩ | ⟨t25, rfl, rfl, ρ, σ26, rfl, rfl, H⟩)
   ·replace h := selim_l h
    refine q_then (c_seq (rg (st (v := (B true)) (rv_assign rfl) (w_end (q_then (c_ret ?_))))))
    obtain rfl := Option.some.inj h
    exact fin_ret (v := (B true)) (results_ok Try.results50 (res_tmp (v := (B true)) rfl res_nil) rfl) ⟨rfl, rfl⟩ (H.sel' [] rfl rfl)
   ·replace h := selim_r h
    refine q_then_r ?_
    obtain rfl := Option.some.inj h
    exact fin_ret (v := (B t25)) (results_ok Try.results50 (res_tmp (v := (B t25)) rfl res_nil) rfl) ⟨rfl, rfl⟩ (H.sel' [] rfl rfl)

theorem c_spec_IsTreeOf {Gl : List (Int × Int × Int × Int)} {Gm : List (Int × (List Int) × Int)} {Gn : Int} {Gp : Option Addr} {Gq : Nat} {Gr : Option Addr} {Gs : Nat} {r : Bool} (h : M.spec_IsTreeOf Gl Gm Gn = some r) :
    Cal2 Try.prog 21 [(Sl Gp Gl Gq), (Sl Gr Gm Gs), (I Gn)] [Ch.ro 0 (Sl Gp Gl Gq) Gl, Ch.ro 0 (Sl Gr Gm Gs) Gm] (fun n0 v L => v = (B r) ∧ L = []) := by
 refine cal2 (n := 21) Try.func21 rfl rfl rfl rfl ?_
 intro S0 σ0 n0 hn0 H
 unfold M.spec_IsTreeOf at h
 refine c_seq (rg (st (v := (B false)) (rv_assign rfl) (w_end (q_then (c_seq (rg (st (v := (Sl Gr Gm Gs)) (rv_move rfl) ?_)))))))
 obtain ⟨r1, hx2, h'⟩ := bind_some h
 clear h
 have h := h'; clear h'
 have hc3 := c_spec_validStore (Aj := Gr) (Ak := Gs) hx2
 refine st_call (cx_call hc3 (ent_f hc3.fn rfl) hn0 (H.sel' [1, 0, 1] rfl rfl : Hp S0 σ0 _ ([_] ++ _))) wn ?_
 rintro _ σ4 ⟨_, ⟨rfl, rfl⟩, H, -⟩
 replace H : Hp _ _ _ [_, _] := H
 refine st (v := (B r1)) (rv_move rfl) ?_
 rcases Bool.eq_false_or_eq_true r1 with hb5 | hb5
 ·replace h := bif_t hb5 h
  refine st_g (v := (I Gn)) (congrArg some hb5) (rv_move rfl) ?_
  obtain ⟨r6, hx7, h'⟩ := bind_some h
  clear h
  have h := h'; clear h'
  have hc8 := c_spec_isMetric hx7
  refine st_call (cx_call hc8 (ent_f hc8.fn rfl) hn0 (H.sel' [0, 1] rfl rfl : Hp S0 σ0 _ ([] ++ _))) (wanted_yes rfl (by exact (congrArg some hb5))) ?_
  rintro _ σ9 ⟨_, ⟨rfl, rfl⟩, H, -⟩
  replace H : Hp _ _ _ [_, _] := H
  refine st (v := (B r6)) (rv_pick_t (congrArg B hb5) rfl) (st (v := (B r6)) (rv_move rfl) ?_)
  rcases Bool.eq_false_or_eq_true r6 with hb10 | hb10
  ·replace h := bif_t hb10 h
   refine st_g (v := (Sl Gp Gl Gq)) (congrArg some hb10) (rv_move rfl) ?_
   refine st_ex (ex_buildSlice (el := n0) (xs := ([] : List (Int × Int × Int × Int))) (ps := []) (cs := []) H hn0 Try.underlying26 ti31 rfl rfl (by kernel_rfl) (.nil) rfl) (wanted_yes rfl (by exact (congrArg some hb10))) ?_
   rintro _ σ12 ⟨b11, rfl, H, -⟩
   refine st_g (v := (Sl Gr Gm Gs)) (congrArg some hb10) (rv_move rfl) (st_g (v := (I Gn)) (congrArg some hb10) (rv_move rfl) ?_)
   replace H := H.ownLow 0 0 0 rfl (Nat.zero_le _) (Nat.zero_le _)
   obtain ⟨r13, hx14, h'⟩ := bind_some h
   clear h
   have h := h'; clear h'
   have hc15 := c_spec_grow 100 (Gp := (some ⟨b11, 0, none⟩)) (Gq := 0) (Gr := Gr) (Gs := Gs) hx14
   refine st_call (cx_call hc15 (ent_f hc15.fn rfl) hn0 (H.sel' [0, 2, 1, 2] rfl rfl : Hp S0 σ0 _ ([_, _] ++ _))) (wanted_yes rfl (by exact (congrArg some hb10))) ?_
   rintro _ σ18 ⟨_, ⟨a16, c17, rfl, rfl⟩, H, -⟩
   replace H : Hp _ _ _ [_, _, _] := H
   replace H := H.ownLow 0 0 0 rfl (Nat.le_refl _) (Nat.zero_le _)
   obtain ⟨σ19, hw20, H, -⟩ := H.pub 0 rfl (Nat.le_refl _)
   rw [← hw20]; clear hw20
   obtain ⟨r21, hx22, h'⟩ := bind_some h
   clear h
   have h := h'; clear h'
   have hc23 := c_spec_sameNodes (Gw := Gp) (Gx := Gq) (Gy := a16) (Gz := c17) hx22
   refine st_call (cx_call hc23 (ent_f hc23.fn rfl) hn0 (H.sel' [1, 0, 0, 1, 2] rfl rfl : Hp S0 σ0 _ ([_, _] ++ _))) (wanted_yes rfl (by exact (congrArg some hb10))) ?_
   rintro _ σ24 ⟨_, ⟨rfl, rfl⟩, H, -⟩
   replace H : Hp _ _ _ [_, _, _] := H
   refine st (v := (B r21)) (rv_pick_t (congrArg B hb10) rfl) (st (v := (B r21)) (rv_assign rfl) (w_end (q_then (c_ret ?_))))
   obtain rfl := Option.some.inj h
   exact fin_ret (v := (B r21)) (results_ok Try.results21 (res_tmp (v := (B r21)) rfl res_nil) rfl) ⟨rfl, rfl⟩ (H.sel' [] rfl rfl)
  ·replace h := bif_f hb10 h
   refine st_skip (congrArg some hb10) (st_skip (congrArg some hb10) (st_skip (congrArg some hb10) (st_skip (congrArg some hb10) (st_skip (congrArg some hb10) (st_skip (congrArg some hb10) (st (v := (B false)) (rv_pick_f (congrArg B hb10) rfl) (st (v := (B false)) (rv_assign rfl) (w_end (q_then (c_ret ?_))))))))))
   obtain rfl := Option.some.inj h
   exact fin_ret (v := (B false)) (results_ok Try.results21 (res_tmp (v := (B false)) rfl res_nil) rfl) ⟨rfl, rfl⟩ (H.sel' [] rfl rfl)
 ·replace h := bif_f hb5 h
  refine st_skip (congrArg some hb5) (st_skip (congrArg some hb5) (st (v := (B false)) (rv_pick_f (congrArg B hb5) rfl) (st (v := (B false)) (rv_move rfl) (st_skip rfl (st_skip rfl (st_skip rfl (st_skip rfl (st_skip rfl (st_skip rfl (st (v := (B false)) (rv_pick_f rfl rfl) (st (v := (B false)) (rv_assign rfl) ?_)))))))))))
  refine w_end (q_then (c_ret ?_))
  obtain rfl := Option.some.inj h
  exact fin_ret (v := (B false)) (results_ok Try.results21 (res_tmp (v := (B false)) rfl res_nil) rfl) ⟨rfl, rfl⟩ (H.sel' [] rfl rfl)

theorem c_laws_szIntS {Aq : List Int} {Ha : Int} {Gw : Option Addr} {Gx : Nat} {r : Int} (h : M.laws_szIntS Aq Ha = some r) :
    Cal2 Try.prog 81 [(Sl Gw Aq Gx), (I Ha)] [Ch.ro 0 (Sl Gw Aq Gx) Aq] (fun n0 v L => v = (I r) ∧ L = []) := by
 refine cal2 (n := 12) Try.func81 rfl rfl rfl rfl ?_
 intro S0 σ0 n0 hn0 H
 unfold M.laws_szIntS at h
 refine c_seq (rg (st (v := (I 0)) (rv_assign rfl) (w_end (q_then (c_seq (rg (st (v := (I Ha)) (rv_move rfl) (st (v := (Sl Gw Aq Gx)) (rv_move rfl) (st (v := (I (Aq.length : Int))) (rv_len Try.underlying29 rfl) (st (v := (I (w64 (Ha - (Aq.length : Int))))) (rv_sub (a := Ha) (b := (Aq.length : Int)) rfl rfl) (st (v := (I (w64 (Ha - (Aq.length : Int))))) (rv_assign rfl) ?_)))))))))))
 refine w_end (q_then (c_seq (c_seq (rg (st (v := (I (w64 (Ha - (Aq.length : Int))))) (rv_move rfl) (st (v := (B (decide ((w64 (Ha - (Aq.length : Int))) < 0)))) (rv_lss (a := (w64 (Ha - (Aq.length : Int)))) (b := 0) rfl rfl) (w_end (q_then ?_))))))))
 refine cd_cond (decide ((w64 (Ha - (Aq.length : Int))) < 0)) rfl (fun hb1 => ?_) (fun hb1 => ?_)
 ·replace h := bif_t hb1 h
  refine c_seq (rg (st (v := (I (-1))) (rv_assign rfl) (w_end (q_then (c_ret (q_then_r ?_))))))
  obtain rfl := Option.some.inj h
  exact fin_ret (v := (I (-1))) (results_ok Try.results81 (res_tmp (v := (I (-1))) rfl res_nil) rfl) ⟨rfl, rfl⟩ (H.sel' [] rfl rfl)
 ·replace h := bif_f hb1 h
  refine c_skip (q_then (c_seq (rg (st (v := (I (w64 (Ha - (Aq.length : Int))))) (rv_move rfl) (st (v := (I (w64 (Ha - (Aq.length : Int))))) (rv_assign rfl) (w_end (q_then (c_ret ?_))))))))
  obtain rfl := Option.some.inj h
  exact fin_ret (v := (I (w64 (Ha - (Aq.length : Int))))) (results_ok Try.results81 (res_tmp (v := (I (w64 (Ha - (Aq.length : Int))))) rfl res_nil) rfl) ⟨rfl, rfl⟩ (H.sel' [] rfl rfl)

theorem c_laws_szItem {Aq : Int × (List Int) × Int} {Ha : Int} {Hc : Option Addr} {Hd : Nat} {r : Int} (h : M.laws_szItem Aq Ha = some r) :
    Cal2 Try.prog 57 [(.agg #[(I Aq.1), (Sl Hc Aq.2.1 Hd), (I Aq.2.2)]), (I Ha)] [Ch.ro 0 (Sl Hc Aq.2.1 Hd) Aq.2.1] (fun n0 v L => v = (I r) ∧ L = []) := by
 refine cal2 (n := 12) Try.func57 rfl rfl rfl rfl ?_
 intro S0 σ0 n0 hn0 H
 unfold M.laws_szItem at h
 refine c_seq (rg (st_ex (ex_box (cs := [(I Aq.1), (Sl Hc Aq.2.1 Hd), (I Aq.2.2)]) H hn0 rfl rfl) wn ?_))
 rintro _ σ2 ⟨b1, rfl, H, -⟩
 refine st (v := (I 0)) (rv_assign rfl) (w_end (q_then (c_seq (rg (st (v := (pt b1 1)) (rv_fieldAddr (off := 1) (ft := 29) Try.underlying86 rfl ti29 rfl rfl) ?_)))))
 have hc3 := H.cell (u := (Sl Hc Aq.2.1 Hd)) (o' := 1) 0 1 rfl rfl rfl
 refine st (v := (Sl Hc Aq.2.1 Hd)) (rv_load1 Try.underlying29 rfl rfl hc3) (st (v := (I Ha)) (rv_move rfl) ?_)
 obtain ⟨r4, hx5, h'⟩ := bind_some h
 clear h
 have h := h'; clear h'
 have hc6 := c_laws_szIntS (Gw := Hc) (Gx := Hd) hx5
 refine st_call (cx_call hc6 (ent_f hc6.fn rfl) hn0 (H.sel' [1, 0, 1] rfl rfl : Hp S0 σ0 _ ([_] ++ _))) wn ?_
 rintro _ σ7 ⟨_, ⟨rfl, rfl⟩, H, -⟩
 replace H : Hp _ _ _ [_, _] := H
 refine st (v := (I r4)) (rv_assign rfl) (w_end (q_then (c_seq (c_seq (rg (st (v := (I r4)) (rv_move rfl) (st (v := (B (decide (r4 < 0)))) (rv_lss (a := r4) (b := 0) rfl rfl) (w_end (q_then ?_)))))))))
 refine cd_cond (decide (r4 < 0)) rfl (fun hb8 => ?_) (fun hb8 => ?_)
 ·replace h := bif_t hb8 h
  refine c_seq (rg (st (v := (I (-1))) (rv_assign rfl) (w_end (q_then (c_ret (q_then_r ?_))))))
  obtain rfl := Option.some.inj h
  exact fin_ret (v := (I (-1))) (results_ok Try.results57 (res_tmp (v := (I (-1))) rfl res_nil) rfl) ⟨rfl, rfl⟩ (H.sel' [] rfl rfl)
 ·replace h := bif_f hb8 h
  refine c_skip (q_then (c_seq (rg (st (v := (I r4)) (rv_move rfl) (st (v := (I r4)) (rv_assign rfl) (w_end (q_then (c_ret ?_))))))))
  obtain rfl := Option.some.inj h
  exact fin_ret (v := (I r4)) (results_ok Try.results57 (res_tmp (v := (I r4)) rfl res_nil) rfl) ⟨rfl, rfl⟩ (H.sel' [] rfl rfl)

theorem c_laws_szItemS {Aq : List (Int × (List Int) × Int)} {Ha : Int} {Gw : Option Addr} {Gx : Nat} {r : Int} (h : M.laws_szItemS Aq Ha = some r) :
    Cal2 Try.prog 25 [(Sl Gw Aq Gx), (I Ha)] [Ch.ro 0 (Sl Gw Aq Gx) Aq] (fun n0 v L => v = (I r) ∧ L = []) := by
 refine cal2 (n := 27) Try.func25 rfl rfl rfl rfl ?_
 intro S0 σ0 n0 hn0 H
 unfold M.laws_szItemS at h
 refine c_seq (rg (st (v := (I 0)) (rv_assign rfl) (w_end (q_then (c_seq (rg (st (v := (I Ha)) (rv_move rfl) (st (v := (Sl Gw Aq Gx)) (rv_move rfl) (st (v := (I (Aq.length : Int))) (rv_len Try.underlying44 rfl) (st (v := (I (w64 (Ha - (Aq.length : Int))))) (rv_sub (a := Ha) (b := (Aq.length : Int)) rfl rfl) (st (v := (I (w64 (Ha - (Aq.length : Int))))) (rv_assign rfl) ?_)))))))))))
 refine w_end (q_then (c_seq (c_seq (rg (st (v := (I (w64 (Ha - (Aq.length : Int))))) (rv_move rfl) (st (v := (B (decide ((w64 (Ha - (Aq.length : Int))) < 0)))) (rv_lss (a := (w64 (Ha - (Aq.length : Int)))) (b := 0) rfl rfl) (w_end (q_then ?_))))))))
 refine cd_cond (decide ((w64 (Ha - (Aq.length : Int))) < 0)) rfl (fun hb1 => ?_) (fun hb1 => ?_)
 ·replace h := bif_t hb1 h
  refine c_seq (rg (st (v := (I (-1))) (rv_assign rfl) (w_end (q_then (c_ret (q_then_r ?_))))))
  obtain rfl := Option.some.inj h
  exact fin_ret (v := (I (-1))) (results_ok Try.results25 (res_tmp (v := (I (-1))) rfl res_nil) rfl) ⟨rfl, rfl⟩ (H.sel' [] rfl rfl)
 ·replace h := bif_f hb1 h
  refine c_skip (q_then (c_seq (c_seq (rg (st (v := (I 0)) (rv_assign rfl) (w_end (q_then ?_)))))))
  obtain ⟨o2, hj, h'⟩ := bind_some h
  clear h
  refine c_cut (fun e a w => (∃ t, o2 = (.inl t) ∧ e = .normal ∧ ∃ (ρ : Nat → Value) (σ : St), a = fr 27 (updL ρ [(1, (I t))]) ∧ w = σ.w ∧ Hp S0 σ0 σ []) ∨ (∃ t, o2 = (.inr t) ∧ e = .ret ∧ ∃ (ρ : Nat → Value) (σ : St), a = fr 27 (updL ρ [(4, (I t))]) ∧ w = σ.w ∧ Hp S0 σ0 σ [])) ?_ ?_
  ·clear h'
   rename _ = some o2 => h
   refine c_blk (wp_loopM _ h (fun s3 a w => ∃ (ρ : Nat → Value) (σ : St), a = fr 27 (updL ρ [(0, (Sl Gw Aq Gx)), (1, (I s3.1)), (5, (I s3.2))]) ∧ w = σ.w ∧ Hp S0 σ0 σ [Ch.ro 0 (Sl Gw Aq Gx) Aq]) ⟨_, σ0, fr_join ⟨rfl, rfl, rfl, trivial⟩, rfl, H.sel' [0] rfl rfl⟩ ?_)
   clear h H
   rintro s3 a w o ⟨ρ, σ4, rfl, rfl, H⟩ h hres
   refine c_seq (c_seq (rg (st (v := (I s3.2)) (rv_move rfl) (st (v := (Sl Gw Aq Gx)) (rv_move rfl) (st (v := (I (Aq.length : Int))) (rv_len Try.underlying44 rfl) (st (v := (B (decide (s3.2 < (Aq.length : Int))))) (rv_lss (a := s3.2) (b := (Aq.length : Int)) rfl rfl) (w_end (q_then ?_))))))))
   refine cd_cond (decide (s3.2 < (Aq.length : Int))) rfl (fun hb5 => ?_) (fun hb5 => ?_)
   ·replace h := bif_t hb5 h
    refine c_skip (q_then (c_seq (c_blk (c_seq (rg (st (v := (Sl Gw Aq Gx)) (rv_move rfl) (st (v := (I s3.2)) (rv_move rfl) ?_)))))))
    obtain ⟨x6, hx7, h'⟩ := bind_some h
    clear h
    have h := h'; clear h'
    obtain ⟨b9, o10, hi8, -⟩ := (H.ro 0 rfl).ix hx7
    refine st (v := (pt b9 o10)) (rv_ix Try.underlying44 ti86 rfl rfl hi8) ?_
    obtain ⟨_, ⟨_, _, rfl, rfl, ⟨_, _, rfl, ⟨_, rfl, hR15⟩, rfl⟩⟩, hl11, hc12⟩ := ((H.ro 0 rfl).at hx7 hi8).cells
    obtain ⟨a13, c14, rfl⟩ := hR15.isSl
    replace H := H.add (d := Ch.ro 0 (Sl a13 x6.2.1 c14) x6.2.1) hR15 (fun _ h => h)
    clear hR15
    refine st (v := (.agg #[(I x6.1), (Sl a13 x6.2.1 c14), (I x6.2.2)])) (rv_load Try.underlying86 rfl ti86 rfl hl11 hc12) (st (v := (I s3.1)) (rv_move rfl) ?_)
    obtain ⟨r16, hx17, h'⟩ := bind_some h
    clear h
    have h := h'; clear h'
    have hc18 := c_laws_szItem (Hc := a13) (Hd := c14) hx17
    refine st_call (cx_call hc18 (ent_f hc18.fn rfl) hn0 (H.sel' [0, 0, 1] rfl rfl : Hp S0 σ0 _ ([_] ++ _))) wn ?_
    rintro _ σ19 ⟨_, ⟨rfl, rfl⟩, H, -⟩
    replace H : Hp _ _ _ [_, _] := H
    refine st (v := (I r16)) (rv_assign rfl) (w_end (q_then (c_seq (rg (st (v := (I r16)) (rv_move rfl) (st (v := (B (decide (r16 < 0)))) (rv_lss (a := r16) (b := 0) rfl rfl) (w_end (q_then ?_))))))))
    refine cd_cond (decide (r16 < 0)) rfl (fun hb20 => ?_) (fun hb20 => ?_)
    ·replace h := bif_t hb20 h
     refine c_seq (rg (st (v := (I (-1))) (rv_assign rfl) (w_end (q_then (c_ret (q_blk_r (q_then_r (q_then_r (q_blk_r ?_)))))))))
     obtain rfl := Option.some.inj h
     obtain rfl := hres _ rfl
     exact .inr (⟨_, rfl, rfl, _, σ19, fr_join ⟨rfl, trivial⟩, rfl, H.sel' [] rfl rfl⟩)
    ·replace h := bif_f hb20 h
     refine c_skip (q_blk (q_then (rg (st (v := (I s3.2)) (rv_move rfl) (st (v := (I (w64 (s3.2 + 1)))) (rv_add (a := s3.2) (b := 1) rfl rfl) (st (v := (I (w64 (s3.2 + 1)))) (rv_assign rfl) (w_end (q_then ?_))))))))
     obtain rfl := Option.some.inj h
     exact ⟨_, rfl, _, σ19, fr_join ⟨rfl, rfl, rfl, trivial⟩, rfl, H.sel' [1] rfl rfl⟩
   ·replace h := bif_f hb5 h
    refine c_exit (q_then_x (q_then_x (q_blk_hit ?_)))
    obtain rfl := Option.some.inj h
    obtain rfl := hres _ rfl
    exact .inl ⟨_, rfl, rfl, _, σ4, fr_join ⟨rfl, trivial⟩, rfl, H.sel' [] rfl rfl⟩
  ·clear hj
   have h := h'
   clear h' H
   rintro e a w (⟨t21, rfl, rfl, ρ, σ22, rfl, rfl, H⟩ | ⟨t23, rfl, rfl, ρ, σ24, rfl, rfl, H⟩)
   ·replace h := selim_l h
    refine q_then (c_seq (rg (st (v := (I t21)) (rv_move rfl) (st (v := (I t21)) (rv_assign rfl) (w_end (q_then (c_ret ?_)))))))
    obtain rfl := Option.some.inj h
    exact fin_ret (v := (I t21)) (results_ok Try.results25 (res_tmp (v := (I t21)) rfl res_nil) rfl) ⟨rfl, rfl⟩ (H.sel' [] rfl rfl)
   ·replace h := selim_r h
    refine q_then_r ?_
    obtain rfl := Option.some.inj h
    exact fin_ret (v := (I t23)) (results_ok Try.results25 (res_tmp (v := (I t23)) rfl res_nil) rfl) ⟨rfl, rfl⟩ (H.sel' [] rfl rfl)

theorem c_laws_toIntS {Aq : List Int} {Gw : Option Addr} {Gx : Nat} {r : (List Int)} (h : M.laws_toIntS Aq = some r) :
    Cal2 Try.prog 34 [(Sl Gw Aq Gx)] [Ch.ro 0 (Sl Gw Aq Gx) Aq] (fun n0 v L => ∃ (az1 : Option Addr), ∃ (cz2 : Nat), v = (Sl az1 r cz2) ∧ L = [Ch.own n0 n0 (Sl az1 r cz2) r] ∧ cz2 = r.length) := by
 refine cal2 (n := 22) Try.func34 rfl rfl rfl rfl ?_
 intro S0 σ0 n0 hn0 H
 unfold M.laws_toIntS at h
 refine c_seq (rg (st (v := (.slice none 0 0)) (rv_assign rfl) (w_end (q_then (c_seq (rg (st (v := (Sl Gw Aq Gx)) (rv_move rfl) (st (v := (I (Aq.length : Int))) (rv_len Try.underlying29 rfl) ?_))))))))
 obtain ⟨xs1, hx2, h'⟩ := bind_some h
 clear h
 have h := h'; clear h'
 refine st_ex (ex_make (el := n0) (z0 := (0 : Int)) (zs := [(I 0)]) H hn0 Try.underlying29 ti3 rfl rfl rfl (by decide) hx2 rfl rfl) wn ?_
 rintro _ σ6 ⟨b3, c4, rfl, ht5, H, -⟩
 replace ht5 := ht5.trans (gmake_len hx2).symm
 refine st (v := (Sl (some ⟨b3, 0, none⟩) xs1 c4)) (rv_assign rfl) (w_end (q_then (c_seq (c_seq (rg (st (v := (I 0)) (rv_assign rfl) (w_end (q_then ?_))))))))
 obtain ⟨o7, hj, h'⟩ := bind_some h
 clear h
 refine c_cut (fun e a w => e = .normal ∧ ∃ (ρ : Nat → Value) (σ : St), a = fr 22 (updL ρ [(3, (Sl (some ⟨b3, 0, none⟩) o7 c4))]) ∧ w = σ.w ∧ Hp S0 σ0 σ [Ch.own n0 n0 (Sl (some ⟨b3, 0, none⟩) o7 c4) o7] ∧ c4 = o7.length ∧ o7.length = xs1.length) ?_ ?_
 ·clear h'
  rename _ = some o7 => h
  refine c_blk (wp_loopM _ h (fun s8 a w => ∃ (ρ : Nat → Value) (σ : St), a = fr 22 (updL ρ [(0, (Sl Gw Aq Gx)), (3, (Sl (some ⟨b3, 0, none⟩) s8.1 c4)), (4, (I s8.2))]) ∧ w = σ.w ∧ Hp S0 σ0 σ [Ch.ro 0 (Sl Gw Aq Gx) Aq, Ch.own n0 n0 (Sl (some ⟨b3, 0, none⟩) s8.1 c4) s8.1] ∧ c4 = s8.1.length ∧ s8.1.length = xs1.length) ⟨_, σ6, fr_join ⟨rfl, rfl, rfl, trivial⟩, rfl, H.sel' [1, 0] rfl rfl, ht5, rfl⟩ ?_)
  clear h H
  rintro s8 a w o ⟨ρ, σ9, rfl, rfl, H, ht10, hn11⟩ h hres
  refine c_seq (c_seq (rg (st (v := (I s8.2)) (rv_move rfl) (st (v := (Sl Gw Aq Gx)) (rv_move rfl) (st (v := (I (Aq.length : Int))) (rv_len Try.underlying29 rfl) (st (v := (B (decide (s8.2 < (Aq.length : Int))))) (rv_lss (a := s8.2) (b := (Aq.length : Int)) rfl rfl) (w_end (q_then ?_))))))))
  refine cd_cond (decide (s8.2 < (Aq.length : Int))) rfl (fun hb12 => ?_) (fun hb12 => ?_)
  ·replace h := bif_t hb12 h
   refine c_skip (q_then (c_seq (c_blk (rg (st (v := (Sl (some ⟨b3, 0, none⟩) s8.1 c4)) (rv_move rfl) (st (v := (I s8.2)) (rv_move rfl) (st (v := (Sl Gw Aq Gx)) (rv_move rfl) (st (v := (I s8.2)) (rv_move rfl) ?_))))))))
   obtain ⟨x13, hx14, h'⟩ := bind_some h
   clear h
   have h := h'; clear h'
   obtain ⟨b16, o17, hi15, -⟩ := (H.ro 0 rfl).ix hx14
   refine st (v := (pt b16 o17)) (rv_ix Try.underlying29 ti3 rfl rfl hi15) ?_
   have hc18 := ((H.ro 0 rfl).at hx14 hi15).int
   refine st (v := (I x13)) (rv_load1 Try.underlying3 rfl rfl hc18) ?_
   obtain ⟨x19, hx20, h'⟩ := bind_some h
   clear h
   have h := h'; clear h'
   obtain ⟨b22, o23, hi21, -⟩ := (H.own 1 rfl).ix hx20
   refine st (v := (pt b22 o23)) (rv_ix Try.underlying29 ti3 rfl rfl hi21) ?_
   refine st_exS (ex_store_own (e' := x13) (vs := [(I x13)]) (k := 0) H (i := 1) rfl ti3 hx20 hi21 rfl rfl rfl rfl rfl (Nat.le_of_ble_eq_true rfl) (by simp [plain]) (by rintro _ rfl; exact rfl)) wn ?_
   rintro σ24 ⟨H, -⟩
   have hsl : (Sl (some ⟨b3, 0, none⟩) s8.1 c4) = (Sl (some ⟨b3, 0, none⟩) (s8.1.set s8.2.toNat x13) c4) := sl_len List.length_set.symm
   rw [hsl]; rw [hsl] at H; clear hsl
   refine w_end (q_blk (q_then (rg (st (v := (I s8.2)) (rv_move rfl) (st (v := (I (w64 (s8.2 + 1)))) (rv_add (a := s8.2) (b := 1) rfl rfl) (st (v := (I (w64 (s8.2 + 1)))) (rv_assign rfl) (w_end (q_then ?_))))))))
   obtain rfl := Option.some.inj h
   exact ⟨_, rfl, _, σ24, fr_join ⟨rfl, rfl, rfl, trivial⟩, rfl, H.sel' [1, 0] rfl rfl, (ht10.trans List.length_set.symm), (List.length_set.trans hn11)⟩
  ·replace h := bif_f hb12 h
   refine c_exit (q_then_x (q_then_x (q_blk_hit ?_)))
   obtain rfl := Option.some.inj h
   obtain rfl := hres _ rfl
   exact ⟨rfl, _, σ9, fr_join ⟨rfl, trivial⟩, rfl, H.sel' [1] rfl rfl, ht10, hn11⟩
 ·clear hj
  have h := h'
  clear h' H
  rintro e a w ⟨rfl, ρ, σ25, rfl, rfl, H, ht26, hn27⟩
  refine q_then (c_seq (rg (st (v := (Sl (some ⟨b3, 0, none⟩) o7 c4)) (rv_move rfl) (st (v := (Sl (some ⟨b3, 0, none⟩) o7 c4)) (rv_assign rfl) (w_end (q_then (c_ret ?_)))))))
  obtain rfl := Option.some.inj h
  exact fin_ret (v := (Sl (some ⟨b3, 0, none⟩) o7 c4)) (results_ok Try.results34 (res_tmp (v := (Sl (some ⟨b3, 0, none⟩) o7 c4)) rfl res_nil) rfl) ⟨(some ⟨b3, 0, none⟩), c4, rfl, rfl, ht26⟩ (H.sel' [0] rfl rfl)

theorem c_laws_toItem {Aq : Int × (List Int) × Int} {Hc : Option Addr} {Hd : Nat} {r : (Int × (List Int) × Int)} (h : M.laws_toItem Aq = some r) :
    Cal2 Try.prog 58 [(.agg #[(I Aq.1), (Sl Hc Aq.2.1 Hd), (I Aq.2.2)])] [Ch.ro 0 (Sl Hc Aq.2.1 Hd) Aq.2.1] (fun n0 v L => ∃ (az1 : Option Addr), ∃ (cz2 : Nat), v = (.agg #[(I r.1), (Sl az1 r.2.1 cz2), (I r.2.2)]) ∧ L = [Ch.own n0 n0 (Sl az1 r.2.1 cz2) r.2.1] ∧ cz2 = r.2.1.length) := by
 refine cal2 (n := 15) Try.func58 rfl rfl rfl rfl ?_
 intro S0 σ0 n0 hn0 H
 unfold M.laws_toItem at h
 refine c_seq (rg (st_ex (ex_box (cs := [(I Aq.1), (Sl Hc Aq.2.1 Hd), (I Aq.2.2)]) H hn0 rfl rfl) wn ?_))
 rintro _ σ2 ⟨b1, rfl, H, -⟩
 refine st_ex (ex_alloc (cs := [(I 0), (.slice none 0 0), (I 0)]) H hn0 ti34 rfl) wn ?_
 rintro _ σ4 ⟨b3, rfl, H, -⟩
 refine w_end (q_then (c_seq (rg (st_ex (ex_alloc (cs := [(I 0), (.slice none 0 0), (I 0)]) H hn0 ti34 rfl) wn ?_))))
 rintro _ σ6 ⟨b5, rfl, H, -⟩
 refine w_end (q_then (c_seq (rg (st (v := (pt b1 0)) (rv_fieldAddr (off := 0) (ft := 3) Try.underlying86 rfl ti3 rfl rfl) ?_))))
 have hc7 := H.cell (u := (I Aq.1)) (o' := 0) 2 0 rfl rfl rfl
 refine st (v := (I Aq.1)) (rv_load1 Try.underlying3 rfl rfl hc7) (st (v := (pt b5 0)) (rv_fieldAddr (off := 0) (ft := 3) Try.underlying34 rfl ti3 rfl rfl) ?_)
 refine st_exS (ex_store_box (k := 0) (cs := [(I 0), (.slice none 0 0), (I 0)]) (vs := [(I Aq.1)]) (cs' := [(I Aq.1), (.slice none 0 0), (I 0)]) H (i := 0) rfl ti3 rfl rfl rfl rfl rfl (Nat.le_of_ble_eq_true rfl) (by simp [plain]) rfl) wn ?_
 rintro σ8 ⟨H, -⟩
 refine w_end (q_then (c_seq (rg (st (v := (pt b1 1)) (rv_fieldAddr (off := 1) (ft := 29) Try.underlying86 rfl ti29 rfl rfl) ?_))))
 have hc9 := H.cell (u := (Sl Hc Aq.2.1 Hd)) (o' := 1) 2 1 rfl rfl rfl
 refine st (v := (Sl Hc Aq.2.1 Hd)) (rv_load1 Try.underlying29 rfl rfl hc9) ?_
 obtain ⟨r10, hx11, h'⟩ := bind_some h
 clear h
 have h := h'; clear h'
 have hc12 := c_laws_toIntS (Gw := Hc) (Gx := Hd) hx11
 refine st_call (cx_call hc12 (ent_f hc12.fn rfl) hn0 (H.sel' [3, 0, 1, 2, 3] rfl rfl : Hp S0 σ0 _ ([_] ++ _))) wn ?_
 rintro _ σ16 ⟨_, ⟨a13, c14, rfl, rfl, ht15⟩, H, -⟩
 replace H : Hp _ _ _ [_, _, _, _, _] := H
 refine st (v := (pt b5 1)) (rv_fieldAddr (off := 1) (ft := 29) Try.underlying34 rfl ti29 rfl rfl) ?_
 refine st_exS (ex_store_box (k := 1) (cs := [(I Aq.1), (.slice none 0 0), (I 0)]) (vs := [(Sl a13 r10 c14)]) (cs' := [(I Aq.1), (Sl a13 r10 c14), (I 0)]) H (i := 1) rfl ti29 rfl rfl rfl rfl rfl (Nat.le_of_ble_eq_true rfl) (by simp [plain]) rfl) wn ?_
 rintro σ17 ⟨H, -⟩
 refine w_end (q_then (c_seq (rg (st (v := (pt b1 2)) (rv_fieldAddr (off := 2) (ft := 3) Try.underlying86 rfl ti3 rfl rfl) ?_))))
 have hc18 := H.cell (u := (I Aq.2.2)) (o' := 2) 3 2 rfl rfl rfl
 refine st (v := (I Aq.2.2)) (rv_load1 Try.underlying3 rfl rfl hc18) (st (v := (pt b5 2)) (rv_fieldAddr (off := 2) (ft := 3) Try.underlying34 rfl ti3 rfl rfl) ?_)
 refine st_exS (ex_store_box (k := 2) (cs := [(I Aq.1), (Sl a13 r10 c14), (I 0)]) (vs := [(I Aq.2.2)]) (cs' := [(I Aq.1), (Sl a13 r10 c14), (I Aq.2.2)]) H (i := 0) rfl ti3 rfl rfl rfl rfl rfl (Nat.le_of_ble_eq_true rfl) (by simp [plain]) rfl) wn ?_
 rintro σ19 ⟨H, -⟩
 refine w_end (q_then (c_seq (rg ?_)))
 have hc20 := H.cells 0 rfl
 refine st (v := (.agg #[(I Aq.1), (Sl a13 r10 c14), (I Aq.2.2)])) (rv_load (cs := [(I Aq.1), (Sl a13 r10 c14), (I Aq.2.2)]) Try.underlying34 rfl ti34 rfl rfl hc20) ?_
 refine st_exS (ex_store_box (k := 0) (cs := [(I 0), (.slice none 0 0), (I 0)]) (vs := [(I Aq.1), (Sl a13 r10 c14), (I Aq.2.2)]) (cs' := [(I Aq.1), (Sl a13 r10 c14), (I Aq.2.2)]) H (i := 2) rfl ti34 rfl rfl rfl rfl rfl (Nat.le_of_ble_eq_true rfl) (by simp [plain]) rfl) wn ?_
 rintro σ21 ⟨H, -⟩
 refine w_end (q_then (c_ret ?_))
 obtain rfl := Option.some.inj h
 exact fin_ret (v := (.agg #[(I Aq.1), (Sl a13 r10 c14), (I Aq.2.2)])) (results_ok Try.results58 (res_cell rfl (run_cellRes (cs := [(I Aq.1), (Sl a13 r10 c14), (I Aq.2.2)]) Try.underlying34 rfl ti34 rfl (H.cells 0 rfl)) res_nil) rfl) ⟨a13, c14, rfl, rfl, ht15⟩ (H.sel' [2] rfl rfl)

theorem c_laws_toItemS {Aq : List (Int × (List Int) × Int)} {Gw : Option Addr} {Gx : Nat} {r : (List (Int × (List Int) × Int))} (h : M.laws_toItemS Aq = some r) :
    Cal2 Try.prog 26 [(Sl Gw Aq Gx)] [Ch.ro 0 (Sl Gw Aq Gx) Aq] (fun n0 v L => ∃ (az1 : Option Addr), ∃ (cz2 : Nat), v = (Sl az1 r cz2) ∧ L = [Ch.own n0 n0 (Sl az1 r cz2) r] ∧ cz2 = r.length) := by
 refine cal2 (n := 23) Try.func26 rfl rfl rfl rfl ?_
 intro S0 σ0 n0 hn0 H
 unfold M.laws_toItemS at h
 refine c_seq (rg (st (v := (.slice none 0 0)) (rv_assign rfl) (w_end (q_then (c_seq (rg (st (v := (Sl Gw Aq Gx)) (rv_move rfl) (st (v := (I (Aq.length : Int))) (rv_len Try.underlying44 rfl) ?_))))))))
 obtain ⟨xs1, hx2, h'⟩ := bind_some h
 clear h
 have h := h'; clear h'
 refine st_ex (ex_make (el := n0) (z0 := ((0, [], 0) : Int × (List Int) × Int)) (zs := [(I 0), (.slice none 0 0), (I 0)]) H hn0 Try.underlying23 ti34 rfl rfl (⟨[(I 0)], [(.slice none 0 0), (I 0)], rfl, rfl, ⟨[(.slice none 0 0)], [(I 0)], rfl, ⟨_, rfl, RS.nil⟩, rfl⟩⟩) (by decide) hx2 rfl rfl) wn ?_
 rintro _ σ6 ⟨b3, c4, rfl, ht5, H, -⟩
 replace ht5 := ht5.trans (gmake_len hx2).symm
 refine st (v := (Sl (some ⟨b3, 0, none⟩) xs1 c4)) (rv_assign rfl) (w_end (q_then (c_seq (c_seq (rg (st (v := (I 0)) (rv_assign rfl) (w_end (q_then ?_))))))))
 obtain ⟨o7, hj, h'⟩ := bind_some h
 clear h
 refine c_cut (fun e a w => e = .normal ∧ ∃ (ρ : Nat → Value) (σ : St), a = fr 23 (updL ρ [(3, (Sl (some ⟨b3, 0, none⟩) o7 c4))]) ∧ w = σ.w ∧ Hp S0 σ0 σ [Ch.own n0 n0 (Sl (some ⟨b3, 0, none⟩) o7 c4) o7] ∧ c4 = o7.length ∧ o7.length = xs1.length) ?_ ?_
 ·clear h'
  rename _ = some o7 => h
  refine c_blk (wp_loopM _ h (fun s8 a w => ∃ (ρ : Nat → Value) (σ : St), a = fr 23 (updL ρ [(0, (Sl Gw Aq Gx)), (3, (Sl (some ⟨b3, 0, none⟩) s8.1 c4)), (4, (I s8.2))]) ∧ w = σ.w ∧ Hp S0 σ0 σ [Ch.ro 0 (Sl Gw Aq Gx) Aq, Ch.own n0 n0 (Sl (some ⟨b3, 0, none⟩) s8.1 c4) s8.1] ∧ c4 = s8.1.length ∧ s8.1.length = xs1.length) ⟨_, σ6, fr_join ⟨rfl, rfl, rfl, trivial⟩, rfl, H.sel' [1, 0] rfl rfl, ht5, rfl⟩ ?_)
  clear h H
  rintro s8 a w o ⟨ρ, σ9, rfl, rfl, H, ht10, hn11⟩ h hres
  refine c_seq (c_seq (rg (st (v := (I s8.2)) (rv_move rfl) (st (v := (Sl Gw Aq Gx)) (rv_move rfl) (st (v := (I (Aq.length : Int))) (rv_len Try.underlying44 rfl) (st (v := (B (decide (s8.2 < (Aq.length : Int))))) (rv_lss (a := s8.2) (b := (Aq.length : Int)) rfl rfl) (w_end (q_then ?_))))))))
  refine cd_cond (decide (s8.2 < (Aq.length : Int))) rfl (fun hb12 => ?_) (fun hb12 => ?_)
  ·replace h := bif_t hb12 h
   refine c_skip (q_then (c_seq (c_blk (rg (st (v := (Sl (some ⟨b3, 0, none⟩) s8.1 c4)) (rv_move rfl) (st (v := (I s8.2)) (rv_move rfl) (st (v := (Sl Gw Aq Gx)) (rv_move rfl) (st (v := (I s8.2)) (rv_move rfl) ?_))))))))
   obtain ⟨x13, hx14, h'⟩ := bind_some h
   clear h
   have h := h'; clear h'
   obtain ⟨b16, o17, hi15, -⟩ := (H.ro 0 rfl).ix hx14
   refine st (v := (pt b16 o17)) (rv_ix Try.underlying44 ti86 rfl rfl hi15) ?_
   obtain ⟨_, ⟨_, _, rfl, rfl, ⟨_, _, rfl, ⟨_, rfl, hR22⟩, rfl⟩⟩, hl18, hc19⟩ := ((H.ro 0 rfl).at hx14 hi15).cells
   obtain ⟨a20, c21, rfl⟩ := hR22.isSl
   replace H := H.add (d := Ch.ro 0 (Sl a20 x13.2.1 c21) x13.2.1) hR22 (fun _ h => h)
   clear hR22
   refine st (v := (.agg #[(I x13.1), (Sl a20 x13.2.1 c21), (I x13.2.2)])) (rv_load Try.underlying86 rfl ti86 rfl hl18 hc19) ?_
   obtain ⟨r23, hx24, h'⟩ := bind_some h
   clear h
   have h := h'; clear h'
   have hc25 := c_laws_toItem (Hc := a20) (Hd := c21) hx24
   refine st_call (cx_call hc25 (ent_f hc25.fn rfl) hn0 (H.sel' [0, 0, 1, 2] rfl rfl : Hp S0 σ0 _ ([_] ++ _))) wn ?_
   rintro _ σ29 ⟨_, ⟨a26, c27, rfl, rfl, ht28⟩, H, -⟩
   replace H : Hp _ _ _ [_, _, _, _] := H
   obtain ⟨x30, hx31, h'⟩ := bind_some h
   clear h
   have h := h'; clear h'
   obtain ⟨b33, o34, hi32, -⟩ := (H.own 3 rfl).ix hx31
   refine st (v := (pt b33 o34)) (rv_ix Try.underlying23 ti34 rfl rfl hi32) ?_
   obtain ⟨σ35, hw36, H, -⟩ := H.pub 0 rfl (Nat.le_refl _)
   rw [← hw36]; clear hw36
   refine st_exS (ex_store_own (e' := (r23.1, r23.2.1, r23.2.2)) (vs := [(I r23.1), (Sl a26 r23.2.1 c27), (I r23.2.2)]) (k := 0) H (i := 3) rfl ti34 hx31 hi32 rfl rfl rfl rfl rfl (Nat.le_of_ble_eq_true rfl) (by simp [plain]) (by rintro _ ⟨_, _, rfl, rfl, ⟨_, _, rfl, ⟨_, rfl, hR39⟩, rfl⟩⟩; exact ⟨[(I r23.1)], [(Sl a26 r23.2.1 c27), (I r23.2.2)], rfl, rfl, ⟨[(Sl a26 r23.2.1 c27)], [(I r23.2.2)], rfl, ⟨_, rfl, (H.ro 0 rfl)⟩, rfl⟩⟩)) wn ?_
   rintro σ40 ⟨H, -⟩
   have hsl : (Sl (some ⟨b3, 0, none⟩) s8.1 c4) = (Sl (some ⟨b3, 0, none⟩) (s8.1.set s8.2.toNat (r23.1, r23.2.1, r23.2.2)) c4) := sl_len List.length_set.symm
   rw [hsl]; rw [hsl] at H; clear hsl
   refine w_end (q_blk (q_then (rg (st (v := (I s8.2)) (rv_move rfl) (st (v := (I (w64 (s8.2 + 1)))) (rv_add (a := s8.2) (b := 1) rfl rfl) (st (v := (I (w64 (s8.2 + 1)))) (rv_assign rfl) (w_end (q_then ?_))))))))
   obtain rfl := Option.some.inj h
   exact ⟨_, rfl, _, σ40, fr_join ⟨rfl, rfl, rfl, trivial⟩, rfl, H.sel' [3, 0] rfl rfl, (ht10.trans List.length_set.symm), (List.length_set.trans hn11)⟩
  ·replace h := bif_f hb12 h
   refine c_exit (q_then_x (q_then_x (q_blk_hit ?_)))
   obtain rfl := Option.some.inj h
   obtain rfl := hres _ rfl
   exact ⟨rfl, _, σ9, fr_join ⟨rfl, trivial⟩, rfl, H.sel' [1] rfl rfl, ht10, hn11⟩
 ·clear hj
  have h := h'
  clear h' H
  rintro e a w ⟨rfl, ρ, σ41, rfl, rfl, H, ht42, hn43⟩
  refine q_then (c_seq (rg (st (v := (Sl (some ⟨b3, 0, none⟩) o7 c4)) (rv_move rfl) (st (v := (Sl (some ⟨b3, 0, none⟩) o7 c4)) (rv_assign rfl) (w_end (q_then (c_ret ?_)))))))
  obtain rfl := Option.some.inj h
  exact fin_ret (v := (Sl (some ⟨b3, 0, none⟩) o7 c4)) (results_ok Try.results26 (res_tmp (v := (Sl (some ⟨b3, 0, none⟩) o7 c4)) rfl res_nil) rfl) ⟨(some ⟨b3, 0, none⟩), c4, rfl, rfl, ht42⟩ (H.sel' [0] rfl rfl)

theorem c_laws_eqNode {Aq : Int × Int × Int × Int} {Ar : Int × Int × Int × Int}  {r : Bool} (h : M.laws_eqNode Aq Ar = some r) :
    Cal2 Try.prog 59 [(.agg #[(I Aq.1), (I Aq.2.1), (I Aq.2.2.1), (I Aq.2.2.2)]), (.agg #[(I Ar.1), (I Ar.2.1), (I Ar.2.2.1), (I Ar.2.2.2)])] [] (fun n0 v L => v = (B r) ∧ L = []) := by
 refine cal2 (n := 25) Try.func59 rfl rfl rfl rfl ?_
 intro S0 σ0 n0 hn0 H
 unfold M.laws_eqNode at h
 refine c_seq (rg (st_ex (ex_box (cs := [(I Aq.1), (I Aq.2.1), (I Aq.2.2.1), (I Aq.2.2.2)]) H hn0 rfl rfl) wn ?_))
 rintro _ σ2 ⟨b1, rfl, H, -⟩
 refine st_ex (ex_box (cs := [(I Ar.1), (I Ar.2.1), (I Ar.2.2.1), (I Ar.2.2.2)]) H hn0 rfl rfl) wn ?_
 rintro _ σ4 ⟨b3, rfl, H, -⟩
 refine st (v := (B false)) (rv_assign rfl) (w_end (q_then (c_seq (c_seq (rg (st (v := (pt b1 0)) (rv_fieldAddr (off := 0) (ft := 3) Try.underlying31 rfl ti3 rfl rfl) ?_))))))
 have hc5 := H.cell (u := (I Aq.1)) (o' := 0) 1 0 rfl rfl rfl
 refine st (v := (I Aq.1)) (rv_load1 Try.underlying3 rfl rfl hc5) (st (v := (pt b3 0)) (rv_fieldAddr (off := 0) (ft := 3) Try.underlying31 rfl ti3 rfl rfl) ?_)
 have hc6 := H.cell (u := (I Ar.1)) (o' := 0) 0 0 rfl rfl rfl
 refine st (v := (I Ar.1)) (rv_load1 Try.underlying3 rfl rfl hc6) (st (v := (B (Aq.1 != Ar.1))) (rv_neq (a := Aq.1) (b := Ar.1) rfl rfl) (w_end (q_then ?_)))
 refine cd_cond (Aq.1 != Ar.1) rfl (fun hb7 => ?_) (fun hb7 => ?_)
 ·replace h := bif_t hb7 h
  refine c_seq (rg (st (v := (B false)) (rv_assign rfl) (w_end (q_then (c_ret (q_then_r ?_))))))
  obtain rfl := Option.some.inj h
  exact fin_ret (v := (B false)) (results_ok Try.results59 (res_tmp (v := (B false)) rfl res_nil) rfl) ⟨rfl, rfl⟩ (H.sel' [] rfl rfl)
 ·replace h := bif_f hb7 h
  refine c_skip (q_then (c_seq (c_seq (rg (st (v := (pt b1 1)) (rv_fieldAddr (off := 1) (ft := 3) Try.underlying31 rfl ti3 rfl rfl) ?_)))))
  have hc8 := H.cell (u := (I Aq.2.1)) (o' := 1) 1 1 rfl rfl rfl
  refine st (v := (I Aq.2.1)) (rv_load1 Try.underlying3 rfl rfl hc8) (st (v := (pt b3 1)) (rv_fieldAddr (off := 1) (ft := 3) Try.underlying31 rfl ti3 rfl rfl) ?_)
  have hc9 := H.cell (u := (I Ar.2.1)) (o' := 1) 0 1 rfl rfl rfl
  refine st (v := (I Ar.2.1)) (rv_load1 Try.underlying3 rfl rfl hc9) (st (v := (B (Aq.2.1 != Ar.2.1))) (rv_neq (a := Aq.2.1) (b := Ar.2.1) rfl rfl) (w_end (q_then ?_)))
  refine cd_cond (Aq.2.1 != Ar.2.1) rfl (fun hb10 => ?_) (fun hb10 => ?_)
  ·replace h := bif_t hb10 h
   refine c_seq (rg (st (v := (B false)) (rv_assign rfl) (w_end (q_then (c_ret (q_then_r ?_))))))
   obtain rfl := Option.some.inj h
   exact fin_ret (v := (B false)) (results_ok Try.results59 (res_tmp (v := (B false)) rfl res_nil) rfl) ⟨rfl, rfl⟩ (H.sel' [] rfl rfl)
  ·replace h := bif_f hb10 h
   refine c_skip (q_then (c_seq (c_seq (rg (st (v := (pt b1 2)) (rv_fieldAddr (off := 2) (ft := 3) Try.underlying31 rfl ti3 rfl rfl) ?_)))))
   have hc11 := H.cell (u := (I Aq.2.2.1)) (o' := 2) 1 2 rfl rfl rfl
   refine st (v := (I Aq.2.2.1)) (rv_load1 Try.underlying3 rfl rfl hc11) (st (v := (pt b3 2)) (rv_fieldAddr (off := 2) (ft := 3) Try.underlying31 rfl ti3 rfl rfl) ?_)
   have hc12 := H.cell (u := (I Ar.2.2.1)) (o' := 2) 0 2 rfl rfl rfl
   refine st (v := (I Ar.2.2.1)) (rv_load1 Try.underlying3 rfl rfl hc12) (st (v := (B (Aq.2.2.1 != Ar.2.2.1))) (rv_neq (a := Aq.2.2.1) (b := Ar.2.2.1) rfl rfl) (w_end (q_then ?_)))
   refine cd_cond (Aq.2.2.1 != Ar.2.2.1) rfl (fun hb13 => ?_) (fun hb13 => ?_)
   ·replace h := bif_t hb13 h
    refine c_seq (rg (st (v := (B false)) (rv_assign rfl) (w_end (q_then (c_ret (q_then_r ?_))))))
    obtain rfl := Option.some.inj h
    exact fin_ret (v := (B false)) (results_ok Try.results59 (res_tmp (v := (B false)) rfl res_nil) rfl) ⟨rfl, rfl⟩ (H.sel' [] rfl rfl)
   ·replace h := bif_f hb13 h
    refine c_skip (q_then (c_seq (c_seq (rg (st (v := (pt b1 3)) (rv_fieldAddr (off := 3) (ft := 3) Try.underlying31 rfl ti3 rfl rfl) ?_)))))
    have hc14 := H.cell (u := (I Aq.2.2.2)) (o' := 3) 1 3 rfl rfl rfl
    refine st (v := (I Aq.2.2.2)) (rv_load1 Try.underlying3 rfl rfl hc14) (st (v := (pt b3 3)) (rv_fieldAddr (off := 3) (ft := 3) Try.underlying31 rfl ti3 rfl rfl) ?_)
    have hc15 := H.cell (u := (I Ar.2.2.2)) (o' := 3) 0 3 rfl rfl rfl
    refine st (v := (I Ar.2.2.2)) (rv_load1 Try.underlying3 rfl rfl hc15) (st (v := (B (Aq.2.2.2 != Ar.2.2.2))) (rv_neq (a := Aq.2.2.2) (b := Ar.2.2.2) rfl rfl) (w_end (q_then ?_)))
    refine cd_cond (Aq.2.2.2 != Ar.2.2.2) rfl (fun hb16 => ?_) (fun hb16 => ?_)
    ·replace h := bif_t hb16 h
     refine c_seq (rg (st (v := (B false)) (rv_assign rfl) (w_end (q_then (c_ret (q_then_r ?_))))))
     obtain rfl := Option.some.inj h
     exact fin_ret (v := (B false)) (results_ok Try.results59 (res_tmp (v := (B false)) rfl res_nil) rfl) ⟨rfl, rfl⟩ (H.sel' [] rfl rfl)
    ·replace h := bif_f hb16 h
     refine c_skip (q_then (c_seq (rg (st (v := (B true)) (rv_assign rfl) (w_end (q_then (c_ret ?_)))))))
     obtain rfl := Option.some.inj h
     exact fin_ret (v := (B true)) (results_ok Try.results59 (res_tmp (v := (B true)) rfl res_nil) rfl) ⟨rfl, rfl⟩ (H.sel' [] rfl rfl)

theorem c_laws_eqNodeS {Aq : List (Int × Int × Int × Int)} {Ar : List (Int × Int × Int × Int)} {Gw : Option Addr} {Gx : Nat} {Gy : Option Addr} {Gz : Nat} {r : Bool} (h : M.laws_eqNodeS Aq Ar = some r) :
    Cal2 Try.prog 27 [(Sl Gw Aq Gx), (Sl Gy Ar Gz)] [Ch.ro 0 (Sl Gw Aq Gx) Aq, Ch.ro 0 (Sl Gy Ar Gz) Ar] (fun n0 v L => v = (B r) ∧ L = []) := by
 refine cal2 (n := 27) Try.func27 rfl rfl rfl rfl ?_
 intro S0 σ0 n0 hn0 H
 unfold M.laws_eqNodeS at h
 refine c_seq (rg (st (v := (B false)) (rv_assign rfl) (w_end (q_then (c_seq (c_seq (rg (st (v := (Sl Gw Aq Gx)) (rv_move rfl) (st (v := (I (Aq.length : Int))) (rv_len Try.underlying26 rfl) (st (v := (Sl Gy Ar Gz)) (rv_move rfl) (st (v := (I (Ar.length : Int))) (rv_len Try.underlying26 rfl) ?_)))))))))))
 refine st (v := (B ((Aq.length : Int) != (Ar.length : Int)))) (rv_neq (a := (Aq.length : Int)) (b := (Ar.length : Int)) rfl rfl) (w_end (q_then ?_))
 refine cd_cond ((Aq.length : Int) != (Ar.length : Int)) rfl (fun hb1 => ?_) (fun hb1 => ?_)
 ·replace h := bif_t hb1 h
  refine c_seq (rg (st (v := (B false)) (rv_assign rfl) (w_end (q_then (c_ret (q_then_r ?_))))))
  obtain rfl := Option.some.inj h
  exact fin_ret (v := (B false)) (results_ok Try.results27 (res_tmp (v := (B false)) rfl res_nil) rfl) ⟨rfl, rfl⟩ (H.sel' [] rfl rfl)
 ·replace h := bif_f hb1 h
  refine c_skip (q_then (c_seq (c_seq (rg (st (v := (I 0)) (rv_assign rfl) (w_end (q_then ?_)))))))
  obtain ⟨o2, hj, h'⟩ := bind_some h
  clear h
  refine c_cut (fun e a w => (∃ t, o2 = (.inl t) ∧ e = .normal ∧ ∃ (ρ : Nat → Value) (σ : St), a = fr 27 (updL ρ []) ∧ w = σ.w ∧ Hp S0 σ0 σ []) ∨ (∃ t, o2 = (.inr t) ∧ e = .ret ∧ ∃ (ρ : Nat → Value) (σ : St), a = fr 27 (updL ρ [(4, (B t))]) ∧ w = σ.w ∧ Hp S0 σ0 σ [])) ?_ ?_
  ·clear h'
   rename _ = some o2 => h
   refine c_blk (wp_loopM _ h (fun s3 a w => ∃ (ρ : Nat → Value) (σ : St), a = fr 27 (updL ρ [(0, (Sl Gw Aq Gx)), (1, (Sl Gy Ar Gz)), (5, (I s3))]) ∧ w = σ.w ∧ Hp S0 σ0 σ [Ch.ro 0 (Sl Gw Aq Gx) Aq, Ch.ro 0 (Sl Gy Ar Gz) Ar]) ⟨_, σ0, fr_join ⟨rfl, rfl, rfl, trivial⟩, rfl, H.sel' [0, 1] rfl rfl⟩ ?_)
   clear h H
   rintro s3 a w o ⟨ρ, σ4, rfl, rfl, H⟩ h hres
   refine c_seq (c_seq (rg (st (v := (I s3)) (rv_move rfl) (st (v := (Sl Gw Aq Gx)) (rv_move rfl) (st (v := (I (Aq.length : Int))) (rv_len Try.underlying26 rfl) (st (v := (B (decide (s3 < (Aq.length : Int))))) (rv_lss (a := s3) (b := (Aq.length : Int)) rfl rfl) (w_end (q_then ?_))))))))
   refine cd_cond (decide (s3 < (Aq.length : Int))) rfl (fun hb5 => ?_) (fun hb5 => ?_)
   ·replace h := bif_t hb5 h
    refine c_skip (q_then (c_seq (c_blk (c_seq ?_))))
    refine rgP (σ := σ4) 8 (by kernel_rfl) (by kernel_rfl) (by kernel_rfl) ?_
    refine sq (v := (Sl Gw Aq Gx)) (rv_move rfl) (sq (v := (I s3)) (rv_move rfl) ?_)
    obtain ⟨x6, hx7, h'⟩ := bind_some h
    clear h
    have h := h'; clear h'
    obtain ⟨b9, o10, hi8, -⟩ := (H.ro 0 rfl).ix hx7
    refine sq (v := (pt b9 o10)) (rv_ix Try.underlying26 ti31 rfl rfl hi8) ?_
    obtain ⟨_, ⟨_, _, rfl, rfl, ⟨_, _, rfl, rfl, ⟨_, _, rfl, rfl, rfl⟩⟩⟩, hl11, hc12⟩ := ((H.ro 0 rfl).at hx7 hi8).cells
    refine sq (v := (.agg #[(I x6.1), (I x6.2.1), (I x6.2.2.1), (I x6.2.2.2)])) (rv_load Try.underlying31 rfl ti31 rfl hl11 hc12) (sq (v := (Sl Gy Ar Gz)) (rv_move rfl) (sq (v := (I s3)) (rv_move rfl) ?_))
    obtain ⟨x13, hx14, h'⟩ := bind_some h
    clear h
    have h := h'; clear h'
    obtain ⟨b16, o17, hi15, -⟩ := (H.ro 1 rfl).ix hx14
    refine sq (v := (pt b16 o17)) (rv_ix Try.underlying26 ti31 rfl rfl hi15) ?_
    obtain ⟨_, ⟨_, _, rfl, rfl, ⟨_, _, rfl, rfl, ⟨_, _, rfl, rfl, rfl⟩⟩⟩, hl18, hc19⟩ := ((H.ro 1 rfl).at hx14 hi15).cells
    refine sq (v := (.agg #[(I x13.1), (I x13.2.1), (I x13.2.2.1), (I x13.2.2.2)])) (rv_load Try.underlying31 rfl ti31 rfl hl18 hc19) (sq_end ?_)
    intro σ20 hm21
    replace H := H.grow (hm21.mono fun _ h => h); clear hm21
    obtain ⟨r22, hx23, h'⟩ := bind_some h
    clear h
    have h := h'; clear h'
    have hc24 := c_laws_eqNode hx23
    refine st_call (cx_call hc24 (ent_f hc24.fn rfl) hn0 (H.sel' [0, 1] rfl rfl : Hp S0 σ0 _ ([] ++ _))) wn ?_
    rintro _ σ25 ⟨_, ⟨rfl, rfl⟩, H, -⟩
    replace H : Hp _ _ _ [_, _] := H
    refine st (v := (B (!r22))) (rv_not rfl) (w_end (q_then ?_))
    refine cd_cond (!r22) rfl (fun hb26 => ?_) (fun hb26 => ?_)
    ·replace h := bif_t hb26 h
     refine c_seq (rg (st (v := (B false)) (rv_assign rfl) (w_end (q_then (c_ret (q_blk_r (q_then_r (q_then_r (q_blk_r ?_)))))))))
     obtain rfl := Option.some.inj h
     obtain rfl := hres _ rfl
     exact .inr (⟨_, rfl, rfl, _, σ25, fr_join ⟨rfl, trivial⟩, rfl, H.sel' [] rfl rfl⟩)
    ·replace h := bif_f hb26 h
     refine c_skip (q_blk (q_then (rg (st (v := (I s3)) (rv_move rfl) (st (v := (I (w64 (s3 + 1)))) (rv_add (a := s3) (b := 1) rfl rfl) (st (v := (I (w64 (s3 + 1)))) (rv_assign rfl) (w_end (q_then ?_))))))))
     obtain rfl := Option.some.inj h
     exact ⟨_, rfl, _, σ25, fr_join ⟨rfl, rfl, rfl, trivial⟩, rfl, H.sel' [0, 1] rfl rfl⟩
   ·replace h := bif_f hb5 h
    refine c_exit (q_then_x (q_then_x (q_blk_hit ?_)))
    obtain rfl := Option.some.inj h
    obtain rfl := hres _ rfl
    exact .inl ⟨_, rfl, rfl, _, σ4, fr_join trivial, rfl, H.sel' [] rfl rfl⟩
  ·clear hj
   have h := h'
   clear h' H
   rintro e a w (⟨t27, rfl, rfl, ρ, σ28, rfl, rfl, H⟩ | ⟨t29, rfl, rfl, ρ, σ30, rfl, rfl, H⟩)
   ·replace h := selim_l h
    refine q_then (c_seq (rg (st (v := (B true)) (rv_assign rfl) (w_end (q_then (c_ret ?_))))))
    obtain rfl := Option.some.inj h
    exact fin_ret (v := (B true)) (results_ok Try.results27 (res_tmp (v := (B true)) rfl res_nil) rfl) ⟨rfl, rfl⟩ (H.sel' [] rfl rfl)
   ·replace h := selim_r h
    refine q_then_r ?_
    obtain rfl := Option.some.inj h
    exact fin_ret (v := (B t29)) (results_ok Try.results27 (res_tmp (v := (B t29)) rfl res_nil) rfl) ⟨rfl, rfl⟩ (H.sel' [] rfl rfl)

theorem c_laws_eqIntS {Aq : List Int} {Ar : List Int} {Gw : Option Addr} {Gx : Nat} {Gy : Option Addr} {Gz : Nat} {r : Bool} (h : M.laws_eqIntS Aq Ar = some r) :
    Cal2 Try.prog 35 [(Sl Gw Aq Gx), (Sl Gy Ar Gz)] [Ch.ro 0 (Sl Gw Aq Gx) Aq, Ch.ro 0 (Sl Gy Ar Gz) Ar] (fun n0 v L => v = (B r) ∧ L = []) := by
 refine cal2 (n := 26) Try.func35 rfl rfl rfl rfl ?_
 intro S0 σ0 n0 hn0 H
 unfold M.laws_eqIntS at h
 refine c_seq (rg (st (v := (B false)) (rv_assign rfl) (w_end (q_then (c_seq (c_seq (rg (st (v := (Sl Gw Aq Gx)) (rv_move rfl) (st (v := (I (Aq.length : Int))) (rv_len Try.underlying29 rfl) (st (v := (Sl Gy Ar Gz)) (rv_move rfl) (st (v := (I (Ar.length : Int))) (rv_len Try.underlying29 rfl) ?_)))))))))))
 refine st (v := (B ((Aq.length : Int) != (Ar.length : Int)))) (rv_neq (a := (Aq.length : Int)) (b := (Ar.length : Int)) rfl rfl) (w_end (q_then ?_))
 refine cd_cond ((Aq.length : Int) != (Ar.length : Int)) rfl (fun hb1 => ?_) (fun hb1 => ?_)
 ·replace h := bif_t hb1 h
  refine c_seq (rg (st (v := (B false)) (rv_assign rfl) (w_end (q_then (c_ret (q_then_r ?_))))))
  obtain rfl := Option.some.inj h
  exact fin_ret (v := (B false)) (results_ok Try.results35 (res_tmp (v := (B false)) rfl res_nil) rfl) ⟨rfl, rfl⟩ (H.sel' [] rfl rfl)
 ·replace h := bif_f hb1 h
  refine c_skip (q_then (c_seq (c_seq (rg (st (v := (I 0)) (rv_assign rfl) (w_end (q_then ?_)))))))
  obtain ⟨o2, hj, h'⟩ := bind_some h
  clear h
  refine c_cut (fun e a w => (∃ t, o2 = (.inl t) ∧ e = .normal ∧ ∃ (ρ : Nat → Value) (σ : St), a = fr 26 (updL ρ []) ∧ w = σ.w ∧ Hp S0 σ0 σ []) ∨ (∃ t, o2 = (.inr t) ∧ e = .ret ∧ ∃ (ρ : Nat → Value) (σ : St), a = fr 26 (updL ρ [(4, (B t))]) ∧ w = σ.w ∧ Hp S0 σ0 σ [])) ?_ ?_
  ·clear h'
   rename _ = some o2 => h
   refine c_blk (wp_loopM _ h (fun s3 a w => ∃ (ρ : Nat → Value) (σ : St), a = fr 26 (updL ρ [(0, (Sl Gw Aq Gx)), (1, (Sl Gy Ar Gz)), (5, (I s3))]) ∧ w = σ.w ∧ Hp S0 σ0 σ [Ch.ro 0 (Sl Gw Aq Gx) Aq, Ch.ro 0 (Sl Gy Ar Gz) Ar]) ⟨_, σ0, fr_join ⟨rfl, rfl, rfl, trivial⟩, rfl, H.sel' [0, 1] rfl rfl⟩ ?_)
   clear h H
   rintro s3 a w o ⟨ρ, σ4, rfl, rfl, H⟩ h hres
   refine c_seq (c_seq (rg (st (v := (I s3)) (rv_move rfl) (st (v := (Sl Gw Aq Gx)) (rv_move rfl) (st (v := (I (Aq.length : Int))) (rv_len Try.underlying29 rfl) (st (v := (B (decide (s3 < (Aq.length : Int))))) (rv_lss (a := s3) (b := (Aq.length : Int)) rfl rfl) (w_end (q_then ?_))))))))
   refine cd_cond (decide (s3 < (Aq.length : Int))) rfl (fun hb5 => ?_) (fun hb5 => ?_)
   ·replace h := bif_t hb5 h
    refine c_skip (q_then (c_seq (c_blk (c_seq ?_))))
    refine rgP (σ := σ4) 8 (by kernel_rfl) (by kernel_rfl) (by kernel_rfl) ?_
    refine sq (v := (Sl Gw Aq Gx)) (rv_move rfl) (sq (v := (I s3)) (rv_move rfl) ?_)
    obtain ⟨x6, hx7, h'⟩ := bind_some h
    clear h
    have h := h'; clear h'
    obtain ⟨b9, o10, hi8, -⟩ := (H.ro 0 rfl).ix hx7
    refine sq (v := (pt b9 o10)) (rv_ix Try.underlying29 ti3 rfl rfl hi8) ?_
    have hc11 := ((H.ro 0 rfl).at hx7 hi8).int
    refine sq (v := (I x6)) (rv_load1 Try.underlying3 rfl rfl hc11) (sq (v := (Sl Gy Ar Gz)) (rv_move rfl) (sq (v := (I s3)) (rv_move rfl) ?_))
    obtain ⟨x12, hx13, h'⟩ := bind_some h
    clear h
    have h := h'; clear h'
    obtain ⟨b15, o16, hi14, -⟩ := (H.ro 1 rfl).ix hx13
    refine sq (v := (pt b15 o16)) (rv_ix Try.underlying29 ti3 rfl rfl hi14) ?_
    have hc17 := ((H.ro 1 rfl).at hx13 hi14).int
    refine sq (v := (I x12)) (rv_load1 Try.underlying3 rfl rfl hc17) (sq_end ?_)
    intro σ18 hm19
    replace H := H.grow (hm19.mono fun _ h => h); clear hm19
    refine st (v := (B (x6 != x12))) (rv_neq (a := x6) (b := x12) rfl rfl) (w_end (q_then ?_))
    refine cd_cond (x6 != x12) rfl (fun hb20 => ?_) (fun hb20 => ?_)
    ·replace h := bif_t hb20 h
     refine c_seq (rg (st (v := (B false)) (rv_assign rfl) (w_end (q_then (c_ret (q_blk_r (q_then_r (q_then_r (q_blk_r ?_)))))))))
     obtain rfl := Option.some.inj h
     obtain rfl := hres _ rfl
     exact .inr (⟨_, rfl, rfl, _, σ18, fr_join ⟨rfl, trivial⟩, rfl, H.sel' [] rfl rfl⟩)
    ·replace h := bif_f hb20 h
     refine c_skip (q_blk (q_then (rg (st (v := (I s3)) (rv_move rfl) (st (v := (I (w64 (s3 + 1)))) (rv_add (a := s3) (b := 1) rfl rfl) (st (v := (I (w64 (s3 + 1)))) (rv_assign rfl) (w_end (q_then ?_))))))))
     obtain rfl := Option.some.inj h
     exact ⟨_, rfl, _, σ18, fr_join ⟨rfl, rfl, rfl, trivial⟩, rfl, H.sel' [0, 1] rfl rfl⟩
   ·replace h := bif_f hb5 h
    refine c_exit (q_then_x (q_then_x (q_blk_hit ?_)))
    obtain rfl := Option.some.inj h
    obtain rfl := hres _ rfl
    exact .inl ⟨_, rfl, rfl, _, σ4, fr_join trivial, rfl, H.sel' [] rfl rfl⟩
  ·clear hj
   have h := h'
   clear h' H
   rintro e a w (⟨t21, rfl, rfl, ρ, σ22, rfl, rfl, H⟩ | ⟨t23, rfl, rfl, ρ, σ24, rfl, rfl, H⟩)
   ·replace h := selim_l h
    refine q_then (c_seq (rg (st (v := (B true)) (rv_assign rfl) (w_end (q_then (c_ret ?_))))))
    obtain rfl := Option.some.inj h
    exact fin_ret (v := (B true)) (results_ok Try.results35 (res_tmp (v := (B true)) rfl res_nil) rfl) ⟨rfl, rfl⟩ (H.sel' [] rfl rfl)
   ·replace h := selim_r h
    refine q_then_r ?_
    obtain rfl := Option.some.inj h
    exact fin_ret (v := (B t23)) (results_ok Try.results35 (res_tmp (v := (B t23)) rfl res_nil) rfl) ⟨rfl, rfl⟩ (H.sel' [] rfl rfl)

theorem c_laws_eqItem {Aq : Int × (List Int) × Int} {Ar : Int × (List Int) × Int} {Hc : Option Addr} {Hd : Nat} {He : Option Addr} {Hf : Nat} {r : Bool} (h : M.laws_eqItem Aq Ar = some r) :
    Cal2 Try.prog 60 [(.agg #[(I Aq.1), (Sl Hc Aq.2.1 Hd), (I Aq.2.2)]), (.agg #[(I Ar.1), (Sl He Ar.2.1 Hf), (I Ar.2.2)])] [Ch.ro 0 (Sl Hc Aq.2.1 Hd) Aq.2.1, Ch.ro 0 (Sl He Ar.2.1 Hf) Ar.2.1] (fun n0 v L => v = (B r) ∧ L = []) := by
 refine cal2 (n := 21) Try.func60 rfl rfl rfl rfl ?_
 intro S0 σ0 n0 hn0 H
 unfold M.laws_eqItem at h
 refine c_seq (rg (st_ex (ex_box (cs := [(I Aq.1), (Sl Hc Aq.2.1 Hd), (I Aq.2.2)]) H hn0 rfl rfl) wn ?_))
 rintro _ σ2 ⟨b1, rfl, H, -⟩
 refine st_ex (ex_box (cs := [(I Ar.1), (Sl He Ar.2.1 Hf), (I Ar.2.2)]) H hn0 rfl rfl) wn ?_
 rintro _ σ4 ⟨b3, rfl, H, -⟩
 refine st (v := (B false)) (rv_assign rfl) (w_end (q_then (c_seq (c_seq (rg (st (v := (pt b1 0)) (rv_fieldAddr (off := 0) (ft := 3) Try.underlying34 rfl ti3 rfl rfl) ?_))))))
 have hc5 := H.cell (u := (I Aq.1)) (o' := 0) 1 0 rfl rfl rfl
 refine st (v := (I Aq.1)) (rv_load1 Try.underlying3 rfl rfl hc5) (st (v := (pt b3 0)) (rv_fieldAddr (off := 0) (ft := 3) Try.underlying34 rfl ti3 rfl rfl) ?_)
 have hc6 := H.cell (u := (I Ar.1)) (o' := 0) 0 0 rfl rfl rfl
 refine st (v := (I Ar.1)) (rv_load1 Try.underlying3 rfl rfl hc6) (st (v := (B (Aq.1 != Ar.1))) (rv_neq (a := Aq.1) (b := Ar.1) rfl rfl) (w_end (q_then ?_)))
 refine cd_cond (Aq.1 != Ar.1) rfl (fun hb7 => ?_) (fun hb7 => ?_)
 ·replace h := bif_t hb7 h
  refine c_seq (rg (st (v := (B false)) (rv_assign rfl) (w_end (q_then (c_ret (q_then_r ?_))))))
  obtain rfl := Option.some.inj h
  exact fin_ret (v := (B false)) (results_ok Try.results60 (res_tmp (v := (B false)) rfl res_nil) rfl) ⟨rfl, rfl⟩ (H.sel' [] rfl rfl)
 ·replace h := bif_f hb7 h
  refine c_skip (q_then (c_seq (c_seq (rg (st (v := (pt b1 1)) (rv_fieldAddr (off := 1) (ft := 29) Try.underlying34 rfl ti29 rfl rfl) ?_)))))
  have hc8 := H.cell (u := (Sl Hc Aq.2.1 Hd)) (o' := 1) 1 1 rfl rfl rfl
  refine st (v := (Sl Hc Aq.2.1 Hd)) (rv_load1 Try.underlying29 rfl rfl hc8) (st (v := (pt b3 1)) (rv_fieldAddr (off := 1) (ft := 29) Try.underlying34 rfl ti29 rfl rfl) ?_)
  have hc9 := H.cell (u := (Sl He Ar.2.1 Hf)) (o' := 1) 0 1 rfl rfl rfl
  refine st (v := (Sl He Ar.2.1 Hf)) (rv_load1 Try.underlying29 rfl rfl hc9) ?_
  obtain ⟨r10, hx11, h'⟩ := bind_some h
  clear h
  have h := h'; clear h'
  have hc12 := c_laws_eqIntS (Gw := Hc) (Gx := Hd) (Gy := He) (Gz := Hf) hx11
  refine st_call (cx_call hc12 (ent_f hc12.fn rfl) hn0 (H.sel' [2, 3, 0, 1, 2, 3] rfl rfl : Hp S0 σ0 _ ([_, _] ++ _))) wn ?_
  rintro _ σ13 ⟨_, ⟨rfl, rfl⟩, H, -⟩
  replace H : Hp _ _ _ [_, _, _, _] := H
  refine st (v := (B (!r10))) (rv_not rfl) (w_end (q_then ?_))
  refine cd_cond (!r10) rfl (fun hb14 => ?_) (fun hb14 => ?_)
  ·replace h := bif_t hb14 h
   refine c_seq (rg (st (v := (B false)) (rv_assign rfl) (w_end (q_then (c_ret (q_then_r ?_))))))
   obtain rfl := Option.some.inj h
   exact fin_ret (v := (B false)) (results_ok Try.results60 (res_tmp (v := (B false)) rfl res_nil) rfl) ⟨rfl, rfl⟩ (H.sel' [] rfl rfl)
  ·replace h := bif_f hb14 h
   refine c_skip (q_then (c_seq (c_seq (rg (st (v := (pt b1 2)) (rv_fieldAddr (off := 2) (ft := 3) Try.underlying34 rfl ti3 rfl rfl) ?_)))))
   have hc15 := H.cell (u := (I Aq.2.2)) (o' := 2) 1 2 rfl rfl rfl
   refine st (v := (I Aq.2.2)) (rv_load1 Try.underlying3 rfl rfl hc15) (st (v := (pt b3 2)) (rv_fieldAddr (off := 2) (ft := 3) Try.underlying34 rfl ti3 rfl rfl) ?_)
   have hc16 := H.cell (u := (I Ar.2.2)) (o' := 2) 0 2 rfl rfl rfl
   refine st (v := (I Ar.2.2)) (rv_load1 Try.underlying3 rfl rfl hc16) (st (v := (B (Aq.2.2 != Ar.2.2))) (rv_neq (a := Aq.2.2) (b := Ar.2.2) rfl rfl) (w_end (q_then ?_)))
   refine cd_cond (Aq.2.2 != Ar.2.2) rfl (fun hb17 => ?_) (fun hb17 => ?_)
   ·replace h := bif_t hb17 h
    refine c_seq (rg (st (v := (B false)) (rv_assign rfl) (w_end (q_then (c_ret (q_then_r ?_))))))
    obtain rfl := Option.some.inj h
    exact fin_ret (v := (B false)) (results_ok Try.results60 (res_tmp (v := (B false)) rfl res_nil) rfl) ⟨rfl, rfl⟩ (H.sel' [] rfl rfl)
   ·replace h := bif_f hb17 h
    refine c_skip (q_then (c_seq (rg (st (v := (B true)) (rv_assign rfl) (w_end (q_then (c_ret ?_)))))))
    obtain rfl := Option.some.inj h
    exact fin_ret (v := (B true)) (results_ok Try.results60 (res_tmp (v := (B true)) rfl res_nil) rfl) ⟨rfl, rfl⟩ (H.sel' [] rfl rfl)

theorem c_laws_eqItemS {Aq : List (Int × (List Int) × Int)} {Ar : List (Int × (List Int) × Int)} {Gw : Option Addr} {Gx : Nat} {Gy : Option Addr} {Gz : Nat} {r : Bool} (h : M.laws_eqItemS Aq Ar = some r) :
    Cal2 Try.prog 28 [(Sl Gw Aq Gx), (Sl Gy Ar Gz)] [Ch.ro 0 (Sl Gw Aq Gx) Aq, Ch.ro 0 (Sl Gy Ar Gz) Ar] (fun n0 v L => v = (B r) ∧ L = []) := by
 refine cal2 (n := 27) Try.func28 rfl rfl rfl rfl ?_
 intro S0 σ0 n0 hn0 H
 unfold M.laws_eqItemS at h
 refine c_seq (rg (st (v := (B false)) (rv_assign rfl) (w_end (q_then (c_seq (c_seq (rg (st (v := (Sl Gw Aq Gx)) (rv_move rfl) (st (v := (I (Aq.length : Int))) (rv_len Try.underlying23 rfl) (st (v := (Sl Gy Ar Gz)) (rv_move rfl) (st (v := (I (Ar.length : Int))) (rv_len Try.underlying23 rfl) ?_)))))))))))
 refine st (v := (B ((Aq.length : Int) != (Ar.length : Int)))) (rv_neq (a := (Aq.length : Int)) (b := (Ar.length : Int)) rfl rfl) (w_end (q_then ?_))
 refine cd_cond ((Aq.length : Int) != (Ar.length : Int)) rfl (fun hb1 => ?_) (fun hb1 => ?_)
 ·replace h := bif_t hb1 h
  refine c_seq (rg (st (v := (B false)) (rv_assign rfl) (w_end (q_then (c_ret (q_then_r ?_))))))
  obtain rfl := Option.some.inj h
  exact fin_ret (v := (B false)) (results_ok Try.results28 (res_tmp (v := (B false)) rfl res_nil) rfl) ⟨rfl, rfl⟩ (H.sel' [] rfl rfl)
 ·replace h := bif_f hb1 h
  refine c_skip (q_then (c_seq (c_seq (rg (st (v := (I 0)) (rv_assign rfl) (w_end (q_then ?_)))))))
  obtain ⟨o2, hj, h'⟩ := bind_some h
  clear h
  refine c_cut (fun e a w => (∃ t, o2 = (.inl t) ∧ e = .normal ∧ ∃ (ρ : Nat → Value) (σ : St), a = fr 27 (updL ρ []) ∧ w = σ.w ∧ Hp S0 σ0 σ []) ∨ (∃ t, o2 = (.inr t) ∧ e = .ret ∧ ∃ (ρ : Nat → Value) (σ : St), a = fr 27 (updL ρ [(4, (B t))]) ∧ w = σ.w ∧ Hp S0 σ0 σ [])) ?_ ?_
  ·clear h'
   rename _ = some o2 => h
   refine c_blk (wp_loopM _ h (fun s3 a w => ∃ (ρ : Nat → Value) (σ : St), a = fr 27 (updL ρ [(0, (Sl Gw Aq Gx)), (1, (Sl Gy Ar Gz)), (5, (I s3))]) ∧ w = σ.w ∧ Hp S0 σ0 σ [Ch.ro 0 (Sl Gw Aq Gx) Aq, Ch.ro 0 (Sl Gy Ar Gz) Ar]) ⟨_, σ0, fr_join ⟨rfl, rfl, rfl, trivial⟩, rfl, H.sel' [0, 1] rfl rfl⟩ ?_)
   clear h H
   rintro s3 a w o ⟨ρ, σ4, rfl, rfl, H⟩ h hres
   refine c_seq (c_seq (rg (st (v := (I s3)) (rv_move rfl) (st (v := (Sl Gw Aq Gx)) (rv_move rfl) (st (v := (I (Aq.length : Int))) (rv_len Try.underlying23 rfl) (st (v := (B (decide (s3 < (Aq.length : Int))))) (rv_lss (a := s3) (b := (Aq.length : Int)) rfl rfl) (w_end (q_then ?_))))))))
   refine cd_cond (decide (s3 < (Aq.length : Int))) rfl (fun hb5 => ?_) (fun hb5 => ?_)
   ·replace h := bif_t hb5 h
    refine c_skip (q_then (c_seq (c_blk (c_seq ?_))))
    refine rgP (σ := σ4) 8 (by kernel_rfl) (by kernel_rfl) (by kernel_rfl) ?_
    refine sq (v := (Sl Gw Aq Gx)) (rv_move rfl) (sq (v := (I s3)) (rv_move rfl) ?_)
    obtain ⟨x6, hx7, h'⟩ := bind_some h
    clear h
    have h := h'; clear h'
    obtain ⟨b9, o10, hi8, -⟩ := (H.ro 0 rfl).ix hx7
    refine sq (v := (pt b9 o10)) (rv_ix Try.underlying23 ti34 rfl rfl hi8) ?_
    obtain ⟨_, ⟨_, _, rfl, rfl, ⟨_, _, rfl, ⟨_, rfl, hR15⟩, rfl⟩⟩, hl11, hc12⟩ := ((H.ro 0 rfl).at hx7 hi8).cells
    obtain ⟨a13, c14, rfl⟩ := hR15.isSl
    replace H := H.add (d := Ch.ro 0 (Sl a13 x6.2.1 c14) x6.2.1) hR15 (fun _ h => h)
    clear hR15
    refine sq (v := (.agg #[(I x6.1), (Sl a13 x6.2.1 c14), (I x6.2.2)])) (rv_load Try.underlying34 rfl ti34 rfl hl11 hc12) (sq (v := (Sl Gy Ar Gz)) (rv_move rfl) (sq (v := (I s3)) (rv_move rfl) ?_))
    obtain ⟨x16, hx17, h'⟩ := bind_some h
    clear h
    have h := h'; clear h'
    obtain ⟨b19, o20, hi18, -⟩ := (H.ro 2 rfl).ix hx17
    refine sq (v := (pt b19 o20)) (rv_ix Try.underlying23 ti34 rfl rfl hi18) ?_
    obtain ⟨_, ⟨_, _, rfl, rfl, ⟨_, _, rfl, ⟨_, rfl, hR25⟩, rfl⟩⟩, hl21, hc22⟩ := ((H.ro 2 rfl).at hx17 hi18).cells
    obtain ⟨a23, c24, rfl⟩ := hR25.isSl
    replace H := H.add (d := Ch.ro 0 (Sl a23 x16.2.1 c24) x16.2.1) hR25 (fun _ h => h)
    clear hR25
    refine sq (v := (.agg #[(I x16.1), (Sl a23 x16.2.1 c24), (I x16.2.2)])) (rv_load Try.underlying34 rfl ti34 rfl hl21 hc22) (sq_end ?_)
    intro σ26 hm27
    replace H := H.grow (hm27.mono fun _ h => h); clear hm27
    obtain ⟨r28, hx29, h'⟩ := bind_some h
    clear h
    have h := h'; clear h'
    have hc30 := c_laws_eqItem (Hc := a13) (Hd := c14) (He := a23) (Hf := c24) hx29
    refine st_call (cx_call hc30 (ent_f hc30.fn rfl) hn0 (H.sel' [1, 0, 0, 1, 2, 3] rfl rfl : Hp S0 σ0 _ ([_, _] ++ _))) wn ?_
    rintro _ σ31 ⟨_, ⟨rfl, rfl⟩, H, -⟩
    replace H : Hp _ _ _ [_, _, _, _] := H
    refine st (v := (B (!r28))) (rv_not rfl) (w_end (q_then ?_))
    refine cd_cond (!r28) rfl (fun hb32 => ?_) (fun hb32 => ?_)
    ·replace h := bif_t hb32 h
     refine c_seq (rg (st (v := (B false)) (rv_assign rfl) (w_end (q_then (c_ret (q_blk_r (q_then_r (q_then_r (q_blk_r ?_)))))))))
     obtain rfl := Option.some.inj h
     obtain rfl := hres _ rfl
     exact .inr (⟨_, rfl, rfl, _, σ31, fr_join ⟨rfl, trivial⟩, rfl, H.sel' [] rfl rfl⟩)
    ·replace h := bif_f hb32 h
     refine c_skip (q_blk (q_then (rg (st (v := (I s3)) (rv_move rfl) (st (v := (I (w64 (s3 + 1)))) (rv_add (a := s3) (b := 1) rfl rfl) (st (v := (I (w64 (s3 + 1)))) (rv_assign rfl) (w_end (q_then ?_))))))))
     obtain rfl := Option.some.inj h
     exact ⟨_, rfl, _, σ31, fr_join ⟨rfl, rfl, rfl, trivial⟩, rfl, H.sel' [2, 3] rfl rfl⟩
   ·replace h := bif_f hb5 h
    refine c_exit (q_then_x (q_then_x (q_blk_hit ?_)))
    obtain rfl := Option.some.inj h
    obtain rfl := hres _ rfl
    exact .inl ⟨_, rfl, rfl, _, σ4, fr_join trivial, rfl, H.sel' [] rfl rfl⟩
  ·clear hj
   have h := h'
   clear h' H
   rintro e a w (⟨t33, rfl, rfl, ρ, σ34, rfl, rfl, H⟩ | ⟨t35, rfl, rfl, ρ, σ36, rfl, rfl, H⟩)
   ·replace h := selim_l h
    refine q_then (c_seq (rg (st (v := (B true)) (rv_assign rfl) (w_end (q_then (c_ret ?_))))))
    obtain rfl := Option.some.inj h
    exact fin_ret (v := (B true)) (results_ok Try.results28 (res_tmp (v := (B true)) rfl res_nil) rfl) ⟨rfl, rfl⟩ (H.sel' [] rfl rfl)
   ·replace h := selim_r h
    refine q_then_r ?_
    obtain rfl := Option.some.inj h
    exact fin_ret (v := (B t35)) (results_ok Try.results28 (res_tmp (v := (B t35)) rfl res_nil) rfl) ⟨rfl, rfl⟩ (H.sel' [] rfl rfl)

theorem c_laws_szNodeS {Aq : List (Int × Int × Int × Int)} {Ha : Int} {Gw : Option Addr} {Gx : Nat} {r : Int} (h : M.laws_szNodeS Aq Ha = some r) :
    Cal2 Try.prog 32 [(Sl Gw Aq Gx), (I Ha)] [Ch.ro 0 (Sl Gw Aq Gx) Aq] (fun n0 v L => v = (I r) ∧ L = []) := by
 refine cal2 (n := 12) Try.func32 rfl rfl rfl rfl ?_
 intro S0 σ0 n0 hn0 H
 unfold M.laws_szNodeS at h
 refine c_seq (rg (st (v := (I 0)) (rv_assign rfl) (w_end (q_then (c_seq (rg (st (v := (I Ha)) (rv_move rfl) (st (v := (Sl Gw Aq Gx)) (rv_move rfl) (st (v := (I (Aq.length : Int))) (rv_len Try.underlying51 rfl) (st (v := (I (w64 (Ha - (Aq.length : Int))))) (rv_sub (a := Ha) (b := (Aq.length : Int)) rfl rfl) (st (v := (I (w64 (Ha - (Aq.length : Int))))) (rv_assign rfl) ?_)))))))))))
 refine w_end (q_then (c_seq (c_seq (rg (st (v := (I (w64 (Ha - (Aq.length : Int))))) (rv_move rfl) (st (v := (B (decide ((w64 (Ha - (Aq.length : Int))) < 0)))) (rv_lss (a := (w64 (Ha - (Aq.length : Int)))) (b := 0) rfl rfl) (w_end (q_then ?_))))))))
 refine cd_cond (decide ((w64 (Ha - (Aq.length : Int))) < 0)) rfl (fun hb1 => ?_) (fun hb1 => ?_)
 ·replace h := bif_t hb1 h
  refine c_seq (rg (st (v := (I (-1))) (rv_assign rfl) (w_end (q_then (c_ret (q_then_r ?_))))))
  obtain rfl := Option.some.inj h
  exact fin_ret (v := (I (-1))) (results_ok Try.results32 (res_tmp (v := (I (-1))) rfl res_nil) rfl) ⟨rfl, rfl⟩ (H.sel' [] rfl rfl)
 ·replace h := bif_f hb1 h
  refine c_skip (q_then (c_seq (rg (st (v := (I (w64 (Ha - (Aq.length : Int))))) (rv_move rfl) (st (v := (I (w64 (Ha - (Aq.length : Int))))) (rv_assign rfl) (w_end (q_then (c_ret ?_))))))))
  obtain rfl := Option.some.inj h
  exact fin_ret (v := (I (w64 (Ha - (Aq.length : Int))))) (results_ok Try.results32 (res_tmp (v := (I (w64 (Ha - (Aq.length : Int))))) rfl res_nil) rfl) ⟨rfl, rfl⟩ (H.sel' [] rfl rfl)

theorem c_laws_toNode {Aq : Int × Int × Int × Int}  {r : (Int × Int × Int × Int)} (h : M.laws_toNode Aq = some r) :
    Cal2 Try.prog 62 [(.agg #[(I Aq.1), (I Aq.2.1), (I Aq.2.2.1), (I Aq.2.2.2)])] [] (fun n0 v L => v = (.agg #[(I r.1), (I r.2.1), (I r.2.2.1), (I r.2.2.2)]) ∧ L = []) := by
 refine cal2 (n := 17) Try.func62 rfl rfl rfl rfl ?_
 intro S0 σ0 n0 hn0 H
 unfold M.laws_toNode at h
 refine c_seq (rg (st_ex (ex_box (cs := [(I Aq.1), (I Aq.2.1), (I Aq.2.2.1), (I Aq.2.2.2)]) H hn0 rfl rfl) wn ?_))
 rintro _ σ2 ⟨b1, rfl, H, -⟩
 refine st_ex (ex_alloc (cs := [(I 0), (I 0), (I 0), (I 0)]) H hn0 ti31 rfl) wn ?_
 rintro _ σ4 ⟨b3, rfl, H, -⟩
 refine w_end (q_then (c_seq (rg (st_ex (ex_alloc (cs := [(I 0), (I 0), (I 0), (I 0)]) H hn0 ti31 rfl) wn ?_))))
 rintro _ σ6 ⟨b5, rfl, H, -⟩
 refine w_end (q_then (c_seq (rg (st (v := (pt b1 0)) (rv_fieldAddr (off := 0) (ft := 3) Try.underlying92 rfl ti3 rfl rfl) ?_))))
 have hc7 := H.cell (u := (I Aq.1)) (o' := 0) 2 0 rfl rfl rfl
 refine st (v := (I Aq.1)) (rv_load1 Try.underlying3 rfl rfl hc7) (st (v := (pt b5 0)) (rv_fieldAddr (off := 0) (ft := 3) Try.underlying31 rfl ti3 rfl rfl) ?_)
 refine st_exS (ex_store_box (k := 0) (cs := [(I 0), (I 0), (I 0), (I 0)]) (vs := [(I Aq.1)]) (cs' := [(I Aq.1), (I 0), (I 0), (I 0)]) H (i := 0) rfl ti3 rfl rfl rfl rfl rfl (Nat.le_of_ble_eq_true rfl) (by simp [plain]) rfl) wn ?_
 rintro σ8 ⟨H, -⟩
 refine w_end (q_then (c_seq (rg (st (v := (pt b1 1)) (rv_fieldAddr (off := 1) (ft := 3) Try.underlying92 rfl ti3 rfl rfl) ?_))))
 have hc9 := H.cell (u := (I Aq.2.1)) (o' := 1) 2 1 rfl rfl rfl
 refine st (v := (I Aq.2.1)) (rv_load1 Try.underlying3 rfl rfl hc9) (st (v := (pt b5 1)) (rv_fieldAddr (off := 1) (ft := 3) Try.underlying31 rfl ti3 rfl rfl) ?_)
 refine st_exS (ex_store_box (k := 1) (cs := [(I Aq.1), (I 0), (I 0), (I 0)]) (vs := [(I Aq.2.1)]) (cs' := [(I Aq.1), (I Aq.2.1), (I 0), (I 0)]) H (i := 0) rfl ti3 rfl rfl rfl rfl rfl (Nat.le_of_ble_eq_true rfl) (by simp [plain]) rfl) wn ?_
 rintro σ10 ⟨H, -⟩
 refine w_end (q_then (c_seq (rg (st (v := (pt b1 2)) (rv_fieldAddr (off := 2) (ft := 3) Try.underlying92 rfl ti3 rfl rfl) ?_))))
 have hc11 := H.cell (u := (I Aq.2.2.1)) (o' := 2) 2 2 rfl rfl rfl
 refine st (v := (I Aq.2.2.1)) (rv_load1 Try.underlying3 rfl rfl hc11) (st (v := (pt b5 2)) (rv_fieldAddr (off := 2) (ft := 3) Try.underlying31 rfl ti3 rfl rfl) ?_)
 refine st_exS (ex_store_box (k := 2) (cs := [(I Aq.1), (I Aq.2.1), (I 0), (I 0)]) (vs := [(I Aq.2.2.1)]) (cs' := [(I Aq.1), (I Aq.2.1), (I Aq.2.2.1), (I 0)]) H (i := 0) rfl ti3 rfl rfl rfl rfl rfl (Nat.le_of_ble_eq_true rfl) (by simp [plain]) rfl) wn ?_
 rintro σ12 ⟨H, -⟩
 refine w_end (q_then (c_seq (rg (st (v := (pt b1 3)) (rv_fieldAddr (off := 3) (ft := 3) Try.underlying92 rfl ti3 rfl rfl) ?_))))
 have hc13 := H.cell (u := (I Aq.2.2.2)) (o' := 3) 2 3 rfl rfl rfl
 refine st (v := (I Aq.2.2.2)) (rv_load1 Try.underlying3 rfl rfl hc13) (st (v := (pt b5 3)) (rv_fieldAddr (off := 3) (ft := 3) Try.underlying31 rfl ti3 rfl rfl) ?_)
 refine st_exS (ex_store_box (k := 3) (cs := [(I Aq.1), (I Aq.2.1), (I Aq.2.2.1), (I 0)]) (vs := [(I Aq.2.2.2)]) (cs' := [(I Aq.1), (I Aq.2.1), (I Aq.2.2.1), (I Aq.2.2.2)]) H (i := 0) rfl ti3 rfl rfl rfl rfl rfl (Nat.le_of_ble_eq_true rfl) (by simp [plain]) rfl) wn ?_
 rintro σ14 ⟨H, -⟩
 refine w_end (q_then (c_seq (rg ?_)))
 have hc15 := H.cells 0 rfl
 refine st (v := (.agg #[(I Aq.1), (I Aq.2.1), (I Aq.2.2.1), (I Aq.2.2.2)])) (rv_load (cs := [(I Aq.1), (I Aq.2.1), (I Aq.2.2.1), (I Aq.2.2.2)]) Try.underlying31 rfl ti31 rfl rfl hc15) ?_
 refine st_exS (ex_store_box (k := 0) (cs := [(I 0), (I 0), (I 0), (I 0)]) (vs := [(I Aq.1), (I Aq.2.1), (I Aq.2.2.1), (I Aq.2.2.2)]) (cs' := [(I Aq.1), (I Aq.2.1), (I Aq.2.2.1), (I Aq.2.2.2)]) H (i := 1) rfl ti31 rfl rfl rfl rfl rfl (Nat.le_of_ble_eq_true rfl) (by simp [plain]) rfl) wn ?_
 rintro σ16 ⟨H, -⟩
 refine w_end (q_then (c_ret ?_))
 obtain rfl := Option.some.inj h
 exact fin_ret (v := (.agg #[(I Aq.1), (I Aq.2.1), (I Aq.2.2.1), (I Aq.2.2.2)])) (results_ok Try.results62 (res_cell rfl (run_cellRes (cs := [(I Aq.1), (I Aq.2.1), (I Aq.2.2.1), (I Aq.2.2.2)]) Try.underlying31 rfl ti31 rfl (H.cells 0 rfl)) res_nil) rfl) ⟨rfl, rfl⟩ (H.sel' [] rfl rfl)

end Go.Vs
