/- The functions compute what their models say. -/
import Derived.Test.YtbnhppnkdmnneaaGreatKExactTreeNearestC1
set_option linter.unusedVariables false
set_option linter.unusedSimpArgs false
set_option maxRecDepth 20000
namespace Go.Vs
open Go Go.Proofs
attribute [local irreducible] Code.wp Code.wpIn wpList wpListIn wpQuiet Calls CallsIn

theorem c_spec_addHit {Ak : List (Int × Int)} {Bq : Int × Int} {Br : Int} {Am : Option Addr} {Ao : Nat} {r : (List (Int × Int))} (h : M.spec_addHit Ak Bq Br = some r) :
    Cal2 Tryz.prog 63 [(Sl Am Ak Ao), (.agg #[(I Bq.1), (I Bq.2)]), (I Br)] [Ch.ro 0 (Sl Am Ak Ao) Ak] (fun n0 v L => ∃ (az1 : Option Addr), ∃ (cz2 : Nat), v = (Sl az1 r cz2) ∧ L = [Ch.own n0 n0 (Sl az1 r cz2) r]) := by
 refine cal2 (n := 58) Tryz.func63 rfl rfl rfl rfl ?_
 intro S0 σ0 n0 hn0 H
 unfold M.spec_addHit at h
 refine c_seq (rg (st_ex (ex_box (cs := [(I Bq.1), (I Bq.2)]) H hn0 rfl rfl) wn ?_))
 rintro _ σ2 ⟨b1, rfl, H, -⟩
 refine sa (.slice none 0 0) rfl (w_end (q_then (c_seq ?_)))
 revert h; refine br fun xs4 hx5 h => ?_
 have hc8 := H.cells 0 rfl
 have Hs := H
 refine rg2 (σ := σ2) (Nm := (Nat) × (Option Addr) × (Nat) × (Nat)) 5 [0, 2, 4] [[false, false, false], [true, false, false], [false, false, true], [true, true, false], [true, false, true], [true, true, true]] [[(0, 1), (2, 4)], [(0, 0), (1, 1), (2, 2), (4, 4)], [(1, 3), (4, 5)], [(0, 0), (1, 1), (3, 3)], [(0, 2), (1, 4), (3, 5)]] 5 [fun ((b3, a6, c7, b9) : (Nat) × (Option Addr) × (Nat) × (Nat)) => fun σm => Hp S0 σ0 σm [Ch.bx n0 b1 0 [(I Bq.1), (I Bq.2)] [] [], Ch.ro 0 (Sl Am Ak Ao) Ak] ∧ Md (cov []) σ2 σm, fun ((b3, a6, c7, b9) : (Nat) × (Option Addr) × (Nat) × (Nat)) => fun σm => Hp S0 σ0 σm [Ch.own n0 n0 (Sl (some ⟨b3, 0, none⟩) ([] : List (Int × Int)) 0) ([] : List (Int × Int)), Ch.bx n0 b1 0 [(I Bq.1), (I Bq.2)] [] [], Ch.ro 0 (Sl Am Ak Ao) Ak] ∧ Md (cov []) σ2 σm, fun ((b3, a6, c7, b9) : (Nat) × (Option Addr) × (Nat) × (Nat)) => fun σm => Hp S0 σ0 σm [Ch.own n0 n0 (Sl (some ⟨b9, 0, none⟩) ([(Bq.1, Bq.2)] : List (Int × Int)) 1) ([(Bq.1, Bq.2)] : List (Int × Int)), Ch.bx n0 b1 0 [(I Bq.1), (I Bq.2)] [] [], Ch.ro 0 (Sl Am Ak Ao) Ak] ∧ Md (cov []) σ2 σm, fun ((b3, a6, c7, b9) : (Nat) × (Option Addr) × (Nat) × (Nat)) => fun σm => Hp S0 σ0 σm [Ch.own n0 n0 (Sl a6 xs4 c7) xs4, Ch.bx n0 b1 0 [(I Bq.1), (I Bq.2)] [] [], Ch.ro 0 (Sl Am Ak Ao) Ak] ∧ Md (fun i => (cov []) i ∨ (fun b => blk (Sl (some ⟨b3, 0, none⟩) ([] : List (Int × Int)) 0) = some b) i) σ2 σm, fun ((b3, a6, c7, b9) : (Nat) × (Option Addr) × (Nat) × (Nat)) => fun σm => Hp S0 σ0 σm [Ch.own n0 n0 (Sl (some ⟨b9, 0, none⟩) ([(Bq.1, Bq.2)] : List (Int × Int)) 1) ([(Bq.1, Bq.2)] : List (Int × Int)), Ch.own n0 n0 (Sl (some ⟨b3, 0, none⟩) ([] : List (Int × Int)) 0) ([] : List (Int × Int)), Ch.bx n0 b1 0 [(I Bq.1), (I Bq.2)] [] [], Ch.ro 0 (Sl Am Ak Ao) Ak] ∧ Md (cov []) σ2 σm, fun ((b3, a6, c7, b9) : (Nat) × (Option Addr) × (Nat) × (Nat)) => fun σm => Hp S0 σ0 σm [Ch.own n0 n0 (Sl (some ⟨b9, 0, none⟩) ([(Bq.1, Bq.2)] : List (Int × Int)) 1) ([(Bq.1, Bq.2)] : List (Int × Int)), Ch.own n0 n0 (Sl a6 xs4 c7) xs4, Ch.bx n0 b1 0 [(I Bq.1), (I Bq.2)] [] [], Ch.ro 0 (Sl Am Ak Ao) Ak] ∧ Md (fun i => (cov []) i ∨ (fun b => blk (Sl (some ⟨b3, 0, none⟩) ([] : List (Int × Int)) 0) = some b) i) σ2 σm] [fun ((b3, a6, c7, b9) : (Nat) × (Option Addr) × (Nat) × (Nat)) => (Sl (some ⟨b3, 0, none⟩) ([] : List (Int × Int)) 0), fun ((b3, a6, c7, b9) : (Nat) × (Option Addr) × (Nat) × (Nat)) => (Sl Am Ak Ao), fun ((b3, a6, c7, b9) : (Nat) × (Option Addr) × (Nat) × (Nat)) => (Sl a6 xs4 c7), fun ((b3, a6, c7, b9) : (Nat) × (Option Addr) × (Nat) × (Nat)) => (.agg #[(I Bq.1), (I Bq.2)]), fun ((b3, a6, c7, b9) : (Nat) × (Option Addr) × (Nat) × (Nat)) => (Sl (some ⟨b9, 0, none⟩) ([(Bq.1, Bq.2)] : List (Int × Int)) 1)] (0, none, 0, 0) (by kernel_rfl) (by kernel_rfl) ?_ ?_ ?_
 ·intro σm m0
  exact ⟨H.grow (m0.mono fun _ h => h.elim), m0⟩
 ·refine all_cons (by
    refine ⟨?_, ?_⟩
    ·rintro ⟨b3, a6, c7, b9⟩ ρ σm hJ hoff hdep
     obtain ⟨H, m⟩ := id hJ
     refine dp_ex wn (ex_buildSlice (el := n0) (xs := ([] : List (Int × Int))) (ps := []) (cs := []) H hn0 Tryz.underlying25 ti67 rfl rfl (by kernel_rfl) (.nil) rfl) ?_
     rintro _ σq ⟨b3x, rfl, H2, m2⟩
     exact ⟨_, (b3x, a6, c7, b9), rfl, rfl, ⟨H2.sel' [0, 1, 2] rfl rfl, m.comp0 m2⟩, stab [1, 3, 4] (by kernel_rfl) ⟨rfl, rfl, rfl, trivial⟩⟩
    refine ⟨?_, ?_⟩
    ·rintro ⟨b3, a6, c7, b9⟩ ρ σm hJ hoff hdep
     obtain ⟨H, m⟩ := id hJ
     refine dp_ex wn (ex_buildSlice (el := n0) (xs := ([] : List (Int × Int))) (ps := []) (cs := []) H hn0 Tryz.underlying25 ti67 rfl rfl (by kernel_rfl) (.nil) rfl) ?_
     rintro _ σq ⟨b3x, rfl, H2, m2⟩
     exact ⟨_, (b3x, a6, c7, b9), rfl, rfl, ⟨H2.sel' [1, 0, 2, 3] rfl rfl, m.comp0 m2⟩, stab [1, 3, 4] (by kernel_rfl) ⟨rfl, rfl, rfl, trivial⟩⟩
    trivial) ?_
  refine ac rfl (by
    intro k; rintro ⟨b3, a6, c7, b9⟩ ρ σm hJ hoff hdep
    have e0 := look_off (N := 58) (hoff 0 rfl) rfl
    exact dp_v (v := (Sl Am Ak Ao)) wn (rv_move e0) rfl hJ) ?_
  refine all_cons (by
    refine ⟨?_, ?_⟩
    ·rintro ⟨b3, a6, c7, b9⟩ ρ σm hJ hoff hdep
     have e10 := hdep 0 rfl rfl 10 rfl
     have e11 := hdep 1 rfl rfl 11 rfl
     obtain ⟨H, m⟩ := id hJ
     refine dp_ex wn (ex_append H (i := 0) rfl Tryz.underlying25 Tryz.underlying25 ti67 rfl rfl (by decide) ((H.ro 2 rfl).rd.sc) hx5 hn0 e10 e11) ?_
     rintro _ σq ⟨a6x, c7x, rfl, H2, m2⟩
     exact ⟨_, (b3, a6x, c7x, b9), rfl, rfl, ⟨H2.sel' [0, 1, 2] rfl rfl, m.comp m2⟩, stab [0, 1, 3, 4] (by kernel_rfl) ⟨rfl, rfl, rfl, rfl, trivial⟩⟩
    refine ⟨?_, ?_⟩
    ·rintro ⟨b3, a6, c7, b9⟩ ρ σm hJ hoff hdep
     have e10 := hdep 0 rfl rfl 10 rfl
     have e11 := hdep 1 rfl rfl 11 rfl
     obtain ⟨H, m⟩ := id hJ
     refine dp_ex wn (ex_append H (i := 1) rfl Tryz.underlying25 Tryz.underlying25 ti67 rfl rfl (by decide) ((H.ro 3 rfl).rd.sc) hx5 hn0 e10 e11) ?_
     rintro _ σq ⟨a6x, c7x, rfl, H2, m2⟩
     exact ⟨_, (b3, a6x, c7x, b9), rfl, rfl, ⟨H2.sel' [1, 0, 2, 3] rfl rfl, m.comp m2⟩, stab [0, 1, 3, 4] (by kernel_rfl) ⟨rfl, rfl, rfl, rfl, trivial⟩⟩
    trivial) ?_
  refine all_cons (by
    refine ⟨?_, ?_⟩
    ·rintro ⟨b3, a6, c7, b9⟩ ρ σm hJ hoff hdep
     have e4 := look_off (N := 58) (hoff 4 rfl) rfl
     obtain ⟨H, m⟩ := id hJ
     have hc8 := H.cells 0 rfl
     exact dp_v (v := (.agg #[(I Bq.1), (I Bq.2)])) wn (rv_load (cs := [(I Bq.1), (I Bq.2)]) Tryz.underlying67 rfl ti67 e4 rfl hc8) rfl hJ
    refine ⟨?_, ?_⟩
    ·rintro ⟨b3, a6, c7, b9⟩ ρ σm hJ hoff hdep
     have e4 := look_off (N := 58) (hoff 4 rfl) rfl
     obtain ⟨H, m⟩ := id hJ
     have hc8 := H.cells 1 rfl
     exact dp_v (v := (.agg #[(I Bq.1), (I Bq.2)])) wn (rv_load (cs := [(I Bq.1), (I Bq.2)]) Tryz.underlying67 rfl ti67 e4 rfl hc8) rfl hJ
    refine ⟨?_, ?_⟩
    ·rintro ⟨b3, a6, c7, b9⟩ ρ σm hJ hoff hdep
     have e4 := look_off (N := 58) (hoff 4 rfl) rfl
     obtain ⟨H, m⟩ := id hJ
     have hc8 := H.cells 1 rfl
     exact dp_v (v := (.agg #[(I Bq.1), (I Bq.2)])) wn (rv_load (cs := [(I Bq.1), (I Bq.2)]) Tryz.underlying67 rfl ti67 e4 rfl hc8) rfl hJ
    trivial) ?_
  refine all_cons (by
    refine ⟨?_, ?_⟩
    ·rintro ⟨b3, a6, c7, b9⟩ ρ σm hJ hoff hdep
     have e13 : look 58 ρ 13 = (.agg #[(I Bq.1), (I Bq.2)]) := hdep 3 rfl rfl 13 rfl
     obtain ⟨H, m⟩ := id hJ
     refine dp_ex wn (ex_buildSlice (el := n0) (xs := ([(Bq.1, Bq.2)] : List (Int × Int))) (ps := [(0, (.agg #[(I Bq.1), (I Bq.2)]))]) (cs := [(I Bq.1), (I Bq.2)]) H hn0 Tryz.underlying25 ti67 rfl (by show [(0, look 58 ρ 13)] = _; rw [e13]) (by kernel_rfl) (.cons (c := [(I Bq.1), (I Bq.2)]) ⟨[(I Bq.1)], [(I Bq.2)], rfl, rfl, rfl⟩ (.nil)) rfl) ?_
     rintro _ σq ⟨b9x, rfl, H2, m2⟩
     exact ⟨_, (b3, a6, c7, b9x), rfl, rfl, ⟨H2.sel' [0, 1, 2] rfl rfl, m.comp0 m2⟩, stab [0, 1, 2, 3] (by kernel_rfl) ⟨rfl, rfl, rfl, rfl, trivial⟩⟩
    refine ⟨?_, ?_⟩
    ·rintro ⟨b3, a6, c7, b9⟩ ρ σm hJ hoff hdep
     have e13 : look 58 ρ 13 = (.agg #[(I Bq.1), (I Bq.2)]) := hdep 3 rfl rfl 13 rfl
     obtain ⟨H, m⟩ := id hJ
     refine dp_ex wn (ex_buildSlice (el := n0) (xs := ([(Bq.1, Bq.2)] : List (Int × Int))) (ps := [(0, (.agg #[(I Bq.1), (I Bq.2)]))]) (cs := [(I Bq.1), (I Bq.2)]) H hn0 Tryz.underlying25 ti67 rfl (by show [(0, look 58 ρ 13)] = _; rw [e13]) (by kernel_rfl) (.cons (c := [(I Bq.1), (I Bq.2)]) ⟨[(I Bq.1)], [(I Bq.2)], rfl, rfl, rfl⟩ (.nil)) rfl) ?_
     rintro _ σq ⟨b9x, rfl, H2, m2⟩
     exact ⟨_, (b3, a6, c7, b9x), rfl, rfl, ⟨H2.sel' [0, 1, 2, 3] rfl rfl, m.comp0 m2⟩, stab [0, 1, 2, 3] (by kernel_rfl) ⟨rfl, rfl, rfl, rfl, trivial⟩⟩
    refine ⟨?_, ?_⟩
    ·rintro ⟨b3, a6, c7, b9⟩ ρ σm hJ hoff hdep
     have e13 : look 58 ρ 13 = (.agg #[(I Bq.1), (I Bq.2)]) := hdep 3 rfl rfl 13 rfl
     obtain ⟨H, m⟩ := id hJ
     refine dp_ex wn (ex_buildSlice (el := n0) (xs := ([(Bq.1, Bq.2)] : List (Int × Int))) (ps := [(0, (.agg #[(I Bq.1), (I Bq.2)]))]) (cs := [(I Bq.1), (I Bq.2)]) H hn0 Tryz.underlying25 ti67 rfl (by show [(0, look 58 ρ 13)] = _; rw [e13]) (by kernel_rfl) (.cons (c := [(I Bq.1), (I Bq.2)]) ⟨[(I Bq.1)], [(I Bq.2)], rfl, rfl, rfl⟩ (.nil)) rfl) ?_
     rintro _ σq ⟨b9x, rfl, H2, m2⟩
     exact ⟨_, (b3, a6, c7, b9x), rfl, rfl, ⟨H2.sel' [0, 1, 2, 3] rfl rfl, m.comp0 m2⟩, stab [0, 1, 2, 3] (by kernel_rfl) ⟨rfl, rfl, rfl, rfl, trivial⟩⟩
    trivial) ?_
  exact all_nil
 ·rintro ⟨b3, a6, c7, b9⟩ ρ σ10 hJ hoff hrel
  have e2 := look_off (N := 58) (hoff 2 rfl) rfl
  have e12 := hrel 2 rfl 12 rfl
  have e14 := hrel 4 rfl 14 rfl
  obtain ⟨H, -⟩ := (show Hp S0 σ0 σ10 [Ch.own n0 n0 (Sl (some ⟨b9, 0, none⟩) ([(Bq.1, Bq.2)] : List (Int × Int)) 1) ([(Bq.1, Bq.2)] : List (Int × Int)), Ch.own n0 n0 (Sl a6 xs4 c7) xs4, Ch.bx n0 b1 0 [(I Bq.1), (I Bq.2)] [] [], Ch.ro 0 (Sl Am Ak Ao) Ak] ∧ Md (fun i => (cov []) i ∨ (fun b => blk (Sl (some ⟨b3, 0, none⟩) ([] : List (Int × Int)) 0) = some b) i) σ2 σ10 from hJ)
  clear hJ Hs
  rw [fr_lookL (L := [(2, (I Br)), (12, (Sl a6 xs4 c7)), (14, (Sl (some ⟨b9, 0, none⟩) ([(Bq.1, Bq.2)] : List (Int × Int)) 1))]) ⟨e2, e12, e14, trivial⟩]
  clear hoff hrel e2 e12 e14
  revert h; refine br fun xs11 hx12 h => ?_
  refine st_ex (ex_append H (i := 1) rfl Tryz.underlying25 Tryz.underlying25 ti67 rfl rfl (by decide) (H.own 0 rfl).rd hx12 hn0 rfl rfl) wn ?_
  rintro _ σ15 ⟨a13, c14, rfl, H, -⟩
  refine sa (Sl a13 xs11 c14) rfl (w_end (q_then (c_seq (c_seq (rg (sm (Sl a13 xs11 c14) rfl (st (v := (I (xs11.length : Int))) (rv_len Tryz.underlying25 rfl) (st (v := (I (w64 ((xs11.length : Int) - 1)))) (rv_sub (a := (xs11.length : Int)) (b := 1) rfl rfl) (sa (I (w64 ((xs11.length : Int) - 1))) rfl (w_end (q_then ?_)))))))))))
  obtain ⟨o16, hj, h'⟩ := bind_some h
  clear h
  refine c_cut (fun e a w => e = .normal ∧ ∃ (ρ : Nat → Value) (σ : St), a = fr 58 (updL ρ [(2, (I Br)), (7, (Sl a13 o16 c14))]) ∧ w = σ.w ∧ Hp S0 σ0 σ [Ch.own n0 n0 (Sl a13 o16 c14) o16] ∧ o16.length = xs11.length) ?_ ?_
  ·clear h'
   rename _ = some o16 => h
   refine c_blk (wp_loopM _ h (fun s17 a w => ∃ (ρ : Nat → Value) (σ : St), a = fr 58 (updL ρ [(2, (I Br)), (7, (Sl a13 s17.1 c14)), (8, (I s17.2))]) ∧ w = σ.w ∧ Hp S0 σ0 σ [Ch.own n0 n0 (Sl a13 s17.1 c14) s17.1] ∧ s17.1.length = xs11.length) ⟨_, σ15, fr_join ⟨rfl, rfl, rfl, trivial⟩, rfl, H.sel' [0] rfl rfl, rfl⟩ ?_)
   clear h H
   rintro s17 a w o ⟨ρ, σ18, rfl, rfl, H, hn19⟩ h hres
   refine c_seq (c_seq ?_)
   obtain ⟨o20, hj, h'⟩ := bind_some h
   clear h
   refine c_cut (fun e a w => e = .normal ∧ ∃ (ρ : Nat → Value) (σ : St), a = fr 58 (updL ρ [(2, (I Br)), (7, (Sl a13 s17.1 c14)), (8, (I s17.2)), (32, (B o20))]) ∧ w = σ.w ∧ Hp S0 σ0 σ [Ch.own n0 n0 (Sl a13 s17.1 c14) s17.1]) ?_ ?_
   ·clear h'
    rename _ = some o20 => h
    refine rgP (σ := σ18) 12 (by kernel_rfl) (by kernel_rfl) (by kernel_rfl) ?_
    refine sq (v := (I s17.2)) (rv_move rfl) (sq (v := (B (decide (0 < s17.2)))) (rv_gtr (a := s17.2) (b := 0) rfl rfl) (sq (v := (B (decide (0 < s17.2)))) (rv_move rfl) ?_))
    rcases Bool.eq_false_or_eq_true (decide (0 < s17.2)) with hb21 | hb21
    ·replace h := bif_t hb21 h
     refine sq_g (v := (Sl a13 s17.1 c14)) (congrArg some hb21) (rv_move rfl) (sq_g (v := (I s17.2)) (congrArg some hb21) (rv_move rfl) ?_)
     revert h; refine br fun x22 hx23 h => ?_
     obtain ⟨b25, o26, hi24, -⟩ := (H.own 0 rfl).ix hx23
     refine sq_g (v := (pt b25 o26)) (congrArg some hb21) (rv_ix Tryz.underlying25 ti67 rfl rfl hi24) ?_
     obtain ⟨_, ⟨_, _, rfl, rfl, rfl⟩, hl27, hc28⟩ := ((H.own 0 rfl).at hx23 hi24).cells
     refine sq_g (v := (.agg #[(I x22.1), (I x22.2)])) (congrArg some hb21) (rv_load Tryz.underlying67 rfl ti67 rfl hl27 hc28) (sq_g (v := (Sl a13 s17.1 c14)) (congrArg some hb21) (rv_move rfl) (sq_g (v := (I s17.2)) (congrArg some hb21) (rv_move rfl) (sq_g (v := (I (w64 (s17.2 - 1)))) (congrArg some hb21) (rv_sub (a := s17.2) (b := 1) rfl rfl) ?_)))
     revert h; refine br fun x29 hx30 h => ?_
     obtain ⟨b32, o33, hi31, -⟩ := (H.own 0 rfl).ix hx30
     refine sq_g (v := (pt b32 o33)) (congrArg some hb21) (rv_ix Tryz.underlying25 ti67 rfl rfl hi31) ?_
     obtain ⟨_, ⟨_, _, rfl, rfl, rfl⟩, hl34, hc35⟩ := ((H.own 0 rfl).at hx30 hi31).cells
     refine sq_g (v := (.agg #[(I x29.1), (I x29.2)])) (congrArg some hb21) (rv_load Tryz.underlying67 rfl ti67 rfl hl34 hc35) (sq_end ?_)
     intro σ36 hm37
     replace H := H.grow (hm37.mono fun _ h => h); clear hm37
     revert h; refine br fun r38 hx39 h => ?_
     have hc40 := c_spec_nearer hx39
     refine st_call (cx_call hc40 (ent_f hc40.fn rfl) hn0 (H.sel' [0] rfl rfl : Hp S0 σ0 _ ([] ++ _))) (wanted_yes rfl (by exact (congrArg some hb21))) ?_
     rintro _ σ41 ⟨_, ⟨rfl, rfl⟩, H, -⟩
     replace H : Hp _ _ _ [_] := H
     refine st (v := (B r38)) (rv_pick_t (congrArg B hb21) rfl) (w_end ?_)
     obtain rfl := sj h
     exact ⟨rfl, _, σ41, fr_join ⟨rfl, rfl, rfl, rfl, trivial⟩, rfl, H.sel' [0] rfl rfl⟩
    ·replace h := bif_f hb21 h
     refine sq_skip (congrArg some hb21) (sq_skip (congrArg some hb21) (sq_skip (congrArg some hb21) (sq_skip (congrArg some hb21) (sq_skip (congrArg some hb21) (sq_skip (congrArg some hb21) (sq_skip (congrArg some hb21) (sq_skip (congrArg some hb21) (sq_skip (congrArg some hb21) (sq_end ?_)))))))))
     intro σ42 hm43
     replace H := H.grow (hm43.mono fun _ h => h); clear hm43
     refine st_skip (congrArg some hb21) (st (v := (B false)) (rv_pick_f (congrArg B hb21) rfl) (w_end ?_))
     obtain rfl := sj h
     exact ⟨rfl, _, σ42, fr_join ⟨rfl, rfl, rfl, rfl, trivial⟩, rfl, H.sel' [0] rfl rfl⟩
   ·clear hj
    have h := h'
    clear h' H
    rintro e a w ⟨rfl, ρ, σ44, rfl, rfl, H⟩
    refine q_then ?_
    refine cd_cond o20 rfl (fun hb45 => ?_) (fun hb45 => ?_)
    ·replace h := bif_t hb45 h
     refine c_skip (q_then (c_seq (c_blk (c_seq (rg (sm (Sl a13 s17.1 c14) rfl (sm (I s17.2) rfl ?_)))))))
     revert h; refine br fun x46 hx47 h => ?_
     obtain ⟨b49, o50, hi48, -⟩ := (H.own 0 rfl).ix hx47
     refine st (v := (pt b49 o50)) (rv_ix Tryz.underlying25 ti67 rfl rfl hi48) ?_
     obtain ⟨_, ⟨_, _, rfl, rfl, rfl⟩, hl51, hc52⟩ := ((H.own 0 rfl).at hx47 hi48).cells
     refine st (v := (.agg #[(I x46.1), (I x46.2)])) (rv_load Tryz.underlying67 rfl ti67 rfl hl51 hc52) (st_ex (ex_alloc (cs := [(I 0), (I 0)]) H hn0 ti67 rfl) wn ?_)
     rintro _ σ54 ⟨b53, rfl, H, -⟩
     refine st_exS (ex_store_box (k := 0) (cs := [(I 0), (I 0)]) (vs := [(I x46.1), (I x46.2)]) (cs' := [(I x46.1), (I x46.2)]) H (i := 0) rfl ti67 rfl rfl rfl rfl rfl (Nat.le_of_ble_eq_true rfl) (by simp [plain]) rfl) wn ?_
     rintro σ55 ⟨H, -⟩
     refine w_end (q_then (c_seq (rg (sm (Sl a13 s17.1 c14) rfl (sm (I s17.2) rfl (sm (Sl a13 s17.1 c14) rfl (sm (I s17.2) rfl (st (v := (I (w64 (s17.2 - 1)))) (rv_sub (a := s17.2) (b := 1) rfl rfl) ?_))))))))
     revert h; refine br fun x56 hx57 h => ?_
     obtain ⟨b59, o60, hi58, -⟩ := (H.own 1 rfl).ix hx57
     refine st (v := (pt b59 o60)) (rv_ix Tryz.underlying25 ti67 rfl rfl hi58) ?_
     obtain ⟨_, ⟨_, _, rfl, rfl, rfl⟩, hl61, hc62⟩ := ((H.own 1 rfl).at hx57 hi58).cells
     refine st (v := (.agg #[(I x56.1), (I x56.2)])) (rv_load Tryz.underlying67 rfl ti67 rfl hl61 hc62) ?_
     revert h; refine br fun x63 hx64 h => ?_
     obtain ⟨b66, o67, hi65, -⟩ := (H.own 1 rfl).ix hx64
     refine st (v := (pt b66 o67)) (rv_ix Tryz.underlying25 ti67 rfl rfl hi65) ?_
     refine st_exS (ex_store_own (e' := (x56.1, x56.2)) (vs := [(I x56.1), (I x56.2)]) (k := 0) H (i := 1) rfl ti67 hx64 hi65 rfl rfl rfl rfl rfl (Nat.le_of_ble_eq_true rfl) (by simp [plain]) (by rintro _ ⟨_, _, rfl, rfl, rfl⟩; exact ⟨[(I x56.1)], [(I x56.2)], rfl, rfl, rfl⟩)) wn ?_
     rintro σ68 ⟨H, -⟩
     have hsl : (Sl a13 s17.1 c14) = (Sl a13 (s17.1.set s17.2.toNat (x56.1, x56.2)) c14) := sl_len List.length_set.symm
     rw [hsl]; rw [hsl] at H; clear hsl
     refine w_end (q_then (rg (sm (Sl a13 (s17.1.set s17.2.toNat (x56.1, x56.2)) c14) rfl (sm (I s17.2) rfl (st (v := (I (w64 (s17.2 - 1)))) (rv_sub (a := s17.2) (b := 1) rfl rfl) ?_)))))
     have hc69 := H.cells 1 rfl
     refine st (v := (.agg #[(I x46.1), (I x46.2)])) (rv_load (cs := [(I x46.1), (I x46.2)]) Tryz.underlying67 rfl ti67 rfl rfl hc69) ?_
     revert h; refine br fun x70 hx71 h => ?_
     obtain ⟨b73, o74, hi72, -⟩ := (H.own 0 rfl).ix hx71
     refine st (v := (pt b73 o74)) (rv_ix Tryz.underlying25 ti67 rfl rfl hi72) ?_
     refine st_exS (ex_store_own (e' := (x46.1, x46.2)) (vs := [(I x46.1), (I x46.2)]) (k := 0) H (i := 0) rfl ti67 hx71 hi72 rfl rfl rfl rfl rfl (Nat.le_of_ble_eq_true rfl) (by simp [plain]) (by rintro _ ⟨_, _, rfl, rfl, rfl⟩; exact ⟨[(I x46.1)], [(I x46.2)], rfl, rfl, rfl⟩)) wn ?_
     rintro σ75 ⟨H, -⟩
     have hsl : (Sl a13 (s17.1.set s17.2.toNat (x56.1, x56.2)) c14) = (Sl a13 ((s17.1.set s17.2.toNat (x56.1, x56.2)).set (w64 (s17.2 - 1)).toNat (x46.1, x46.2)) c14) := sl_len List.length_set.symm
     rw [hsl]; rw [hsl] at H; clear hsl
     refine w_end (q_blk (q_then (rg (sm (I s17.2) rfl (st (v := (I (w64 (s17.2 - 1)))) (rv_sub (a := s17.2) (b := 1) rfl rfl) (sa (I (w64 (s17.2 - 1))) rfl (w_end (q_then ?_))))))))
     obtain rfl := sj h
     exact ⟨_, rfl, _, σ75, fr_join ⟨rfl, rfl, rfl, trivial⟩, rfl, H.sel' [0] rfl rfl, (List.length_set.trans (List.length_set.trans hn19))⟩
    ·replace h := bif_f hb45 h
     refine c_exit (q_then_x (q_then_x (q_blk_hit ?_)))
     obtain rfl := sj h
     obtain rfl := hres _ rfl
     exact ⟨rfl, _, σ44, fr_join ⟨rfl, rfl, trivial⟩, rfl, H.sel' [0] rfl rfl, hn19⟩
  ·clear hj
   have h := h'
   clear h' H
   rintro e a w ⟨rfl, ρ, σ76, rfl, rfl, H, hn77⟩
   refine q_then (c_seq (rg (sm (Sl a13 o16 c14) rfl (sm (I Br) rfl (sm (Sl a13 o16 c14) rfl (st (v := (I (o16.length : Int))) (rv_len Tryz.underlying25 rfl) (st (v := (I (min Br (o16.length : Int)))) (rv_min rfl rfl) ?_)))))))
   revert h; refine br fun xs78 hx79 h => ?_
   obtain ⟨a80, c81, hs82, hR83, hb84⟩ := (H.own 0 rfl).slice hx79
   replace H := (H.front (i := 0) rfl).turn (d := Ch.own n0 n0 (Sl a80 xs78 c81) xs78) (fun _ => hR83) hb84; clear hR83 hb84
   refine st (v := (Sl a80 xs78 c81)) (rv_slice_h Tryz.underlying25 ti67 hs82 rfl rfl) (sa (Sl a80 xs78 c81) rfl (w_end (q_then (c_ret ?_))))
   obtain rfl := sj h
   exact fin_ret (v := (Sl a80 xs78 c81)) (results_ok Tryz.results63 (res_tmp (v := (Sl a80 xs78 c81)) rfl res_nil) rfl) ⟨a80, c81, rfl, rfl⟩ (H.sel' [0] rfl rfl)

theorem c_spec_keyAt {Ak : List (Int × (List Int) × Int)} {Bs : Int} {Am : Option Addr} {Ao : Nat} {r : Int} (h : M.spec_keyAt Ak Bs = some r) :
    Cal2 Tryz.prog 73 [(Sl Am Ak Ao), (I Bs)] [Ch.ro 0 (Sl Am Ak Ao) Ak] (fun n0 v L => v = (I r) ∧ L = []) := by
 refine cal2 (n := 20) Tryz.func73 rfl rfl rfl rfl ?_
 intro S0 σ0 n0 hn0 H
 unfold M.spec_keyAt at h
 refine c_seq (rg (sa (I 0) rfl (w_end (q_then (c_seq (c_seq (rg (sa (I 0) rfl (w_end (q_then ?_))))))))))
 obtain ⟨o1, hj, h'⟩ := bind_some h
 clear h
 refine c_cut (fun e a w => (∃ t, o1 = (.inl t) ∧ e = .normal ∧ ∃ (ρ : Nat → Value) (σ : St), a = fr 20 (updL ρ []) ∧ w = σ.w ∧ Hp S0 σ0 σ []) ∨ (∃ t, o1 = (.inr t) ∧ e = .ret ∧ ∃ (ρ : Nat → Value) (σ : St), a = fr 20 (updL ρ [(4, (I t))]) ∧ w = σ.w ∧ Hp S0 σ0 σ [])) ?_ ?_
 ·clear h'
  rename _ = some o1 => h
  refine c_blk (wp_loopM _ h (fun s2 a w => ∃ (ρ : Nat → Value) (σ : St), a = fr 20 (updL ρ [(0, (Sl Am Ak Ao)), (1, (I Bs)), (5, (I s2))]) ∧ w = σ.w ∧ Hp S0 σ0 σ [Ch.ro 0 (Sl Am Ak Ao) Ak]) ⟨_, σ0, fr_join ⟨rfl, rfl, rfl, trivial⟩, rfl, H.sel' [0] rfl rfl⟩ ?_)
  clear h H
  rintro s2 a w o ⟨ρ, σ3, rfl, rfl, H⟩ h hres
  refine c_seq (c_seq (rg (sm (I s2) rfl (sm (Sl Am Ak Ao) rfl (st (v := (I (Ak.length : Int))) (rv_len Tryz.underlying27 rfl) (st (v := (B (decide (s2 < (Ak.length : Int))))) (rv_lss (a := s2) (b := (Ak.length : Int)) rfl rfl) (w_end (q_then ?_))))))))
  refine cd_cond (decide (s2 < (Ak.length : Int))) rfl (fun hb4 => ?_) (fun hb4 => ?_)
  ·replace h := bif_t hb4 h
   refine c_skip (q_then (c_seq (c_blk (c_seq (rg (sm (Sl Am Ak Ao) rfl (sm (I s2) rfl ?_)))))))
   revert h; refine br fun x5 hx6 h => ?_
   obtain ⟨b8, o9, hi7, -⟩ := (H.ro 0 rfl).ix hx6
   refine st (v := (pt b8 o9)) (rv_ix Tryz.underlying27 ti54 rfl rfl hi7) (st (v := (pt b8 (o9 + 0))) (rv_fieldAddr (off := 0) (ft := 3) Tryz.underlying54 rfl ti3 rfl rfl) ?_)
   have hc10 := ((H.ro 0 rfl).at hx6 hi7).fst.int
   refine st (v := (I x5.1)) (rv_load1 Tryz.underlying3 rfl rfl hc10) (sm (I Bs) rfl (st (v := (B (x5.1 == Bs))) (rv_eql (a := x5.1) (b := Bs) rfl rfl) (w_end (q_then ?_))))
   refine cd_cond (x5.1 == Bs) rfl (fun hb11 => ?_) (fun hb11 => ?_)
   ·replace h := bif_t hb11 h
    refine c_seq (rg (sm (I s2) rfl (sa (I s2) rfl (w_end (q_then (c_ret (q_blk_r (q_then_r (q_then_r (q_blk_r ?_))))))))))
    obtain rfl := sj h
    obtain rfl := hres _ rfl
    exact .inr (⟨_, rfl, rfl, _, σ3, fr_join ⟨rfl, trivial⟩, rfl, H.sel' [] rfl rfl⟩)
   ·replace h := bif_f hb11 h
    refine c_skip (q_blk (q_then (rg (sm (I s2) rfl (st (v := (I (w64 (s2 + 1)))) (rv_add (a := s2) (b := 1) rfl rfl) (sa (I (w64 (s2 + 1))) rfl (w_end (q_then ?_))))))))
    obtain rfl := sj h
    exact ⟨_, rfl, _, σ3, fr_join ⟨rfl, rfl, rfl, trivial⟩, rfl, H.sel' [0] rfl rfl⟩
  ·replace h := bif_f hb4 h
   refine c_exit (q_then_x (q_then_x (q_blk_hit ?_)))
   obtain rfl := sj h
   obtain rfl := hres _ rfl
   exact .inl ⟨_, rfl, rfl, _, σ3, fr_join trivial, rfl, H.sel' [] rfl rfl⟩
 ·clear hj
  have h := h'
  clear h' H
  rintro e a w (⟨t12, rfl, rfl, ρ, σ13, rfl, rfl, H⟩ | ⟨t14, rfl, rfl, ρ, σ15, rfl, rfl, H⟩)
  ·replace h := selim_l h
   refine q_then (c_seq (rg (sa (I (-1)) rfl (w_end (q_then (c_ret ?_))))))
   obtain rfl := sj h
   exact fin_ret (v := (I (-1))) (results_ok Tryz.results73 (res_tmp (v := (I (-1))) rfl res_nil) rfl) ⟨rfl, rfl⟩ (H.sel' [] rfl rfl)
  ·replace h := selim_r h
   refine q_then_r ?_
   obtain rfl := sj h
   exact fin_ret (v := (I t14)) (results_ok Tryz.results73 (res_tmp (v := (I t14)) rfl res_nil) rfl) ⟨rfl, rfl⟩ (H.sel' [] rfl rfl)

theorem c_spec_seek_reach {Bt : (List (Int × Int × Int × Int)) × (List (Int × (List Int) × Int)) × Int × (List Int) × Int × (List (Int × Int)) × Int} {Bu : Option Addr} {Bv : Nat} {Bw : Option Addr} {By : Nat} {Bz : Option Addr} {Ca : Nat} {Cb : Option Addr} {Cc : Nat} {Cd Ce Cf : Nat} {Cg Ci : List Value} {r : Int} (h : M.spec_seek_reach Bt = some r) :
    Cal2 Tryz.prog 74 [(pt Ce Cf)] [Ch.bx Cd Ce Cf [(Sl Bu Bt.1 Bv), (Sl Bw Bt.2.1 By), (I Bt.2.2.1), (Sl Bz Bt.2.2.2.1 Ca), (I Bt.2.2.2.2.1), (Sl Cb Bt.2.2.2.2.2.1 Cc), (I Bt.2.2.2.2.2.2)] Cg Ci, Ch.ro 0 (Sl Bu Bt.1 Bv) Bt.1, Ch.ro 0 (Sl Bw Bt.2.1 By) Bt.2.1, Ch.ro 0 (Sl Bz Bt.2.2.2.1 Ca) Bt.2.2.2.1, Ch.ro 0 (Sl Cb Bt.2.2.2.2.2.1 Cc) Bt.2.2.2.2.2.1] (fun n0 v L => v = (I r) ∧ L = [Ch.bx Cd Ce Cf [(Sl Bu Bt.1 Bv), (Sl Bw Bt.2.1 By), (I Bt.2.2.1), (Sl Bz Bt.2.2.2.1 Ca), (I Bt.2.2.2.2.1), (Sl Cb Bt.2.2.2.2.2.1 Cc), (I Bt.2.2.2.2.2.2)] Cg Ci]) := by
 refine cal2 (n := 26) Tryz.func74 rfl rfl rfl rfl ?_
 intro S0 σ0 n0 hn0 H
 unfold M.spec_seek_reach at h
 refine c_seq (rg (sa (I 0) rfl (w_end (q_then (c_seq (c_seq ?_))))))
 refine rgP (σ := σ0) 9 (by kernel_rfl) (by kernel_rfl) (by kernel_rfl) ?_
 refine sq (v := (pt Ce Cf)) (rv_move rfl) (sq (v := (pt Ce Cf)) (rv_nilCheck rfl) (sq (v := (pt Ce (Cf + 5))) (rv_fieldAddr (off := 5) (ft := 25) Tryz.underlying51 rfl ti25 rfl rfl) ?_))
 have hc1 := H.cell (u := (Sl Cb Bt.2.2.2.2.2.1 Cc)) (o' := (Cf + 5)) 0 5 rfl rfl rfl
 refine sq (v := (Sl Cb Bt.2.2.2.2.2.1 Cc)) (rv_load1 Tryz.underlying25 rfl rfl hc1) (sq (v := (I (Bt.2.2.2.2.2.1.length : Int))) (rv_len Tryz.underlying25 rfl) (sq (v := (pt Ce Cf)) (rv_move rfl) (sq (v := (pt Ce Cf)) (rv_nilCheck rfl) (sq (v := (pt Ce (Cf + 4))) (rv_fieldAddr (off := 4) (ft := 3) Tryz.underlying51 rfl ti3 rfl rfl) ?_))))
 have hc2 := H.cell (u := (I Bt.2.2.2.2.1)) (o' := (Cf + 4)) 0 4 rfl rfl rfl
 refine sq (v := (I Bt.2.2.2.2.1)) (rv_load1 Tryz.underlying3 rfl rfl hc2) (sq_end ?_)
 intro σ3 hm4
 replace H := H.grow (hm4.mono fun _ h => h); clear hm4
 refine st (v := (B (decide ((Bt.2.2.2.2.2.1.length : Int) < Bt.2.2.2.2.1)))) (rv_lss (a := (Bt.2.2.2.2.2.1.length : Int)) (b := Bt.2.2.2.2.1) rfl rfl) (w_end (q_then ?_))
 refine cd_cond (decide ((Bt.2.2.2.2.2.1.length : Int) < Bt.2.2.2.2.1)) rfl (fun hb5 => ?_) (fun hb5 => ?_)
 ·replace h := bif_t hb5 h
  refine c_seq (rg (sa (I 1000000) rfl (w_end (q_then (c_ret (q_then_r ?_))))))
  obtain rfl := sj h
  exact fin_ret (v := (I 1000000)) (results_ok Tryz.results74 (res_tmp (v := (I 1000000)) rfl res_nil) rfl) ⟨rfl, rfl⟩ (H.sel' [0] rfl rfl)
 ·replace h := bif_f hb5 h
  refine c_skip (q_then (c_seq ?_))
  refine rgP (σ := σ3) 10 (by kernel_rfl) (by kernel_rfl) (by kernel_rfl) ?_
  refine sq (v := (pt Ce Cf)) (rv_move rfl) (sq (v := (pt Ce Cf)) (rv_nilCheck rfl) (sq (v := (pt Ce (Cf + 5))) (rv_fieldAddr (off := 5) (ft := 25) Tryz.underlying51 rfl ti25 rfl rfl) ?_))
  have hc6 := H.cell (u := (Sl Cb Bt.2.2.2.2.2.1 Cc)) (o' := (Cf + 5)) 0 5 rfl rfl rfl
  refine sq (v := (Sl Cb Bt.2.2.2.2.2.1 Cc)) (rv_load1 Tryz.underlying25 rfl rfl hc6) (sq (v := (pt Ce Cf)) (rv_move rfl) (sq (v := (pt Ce Cf)) (rv_nilCheck rfl) (sq (v := (pt Ce (Cf + 5))) (rv_fieldAddr (off := 5) (ft := 25) Tryz.underlying51 rfl ti25 rfl rfl) ?_)))
  have hc7 := H.cell (u := (Sl Cb Bt.2.2.2.2.2.1 Cc)) (o' := (Cf + 5)) 0 5 rfl rfl rfl
  refine sq (v := (Sl Cb Bt.2.2.2.2.2.1 Cc)) (rv_load1 Tryz.underlying25 rfl rfl hc7) (sq (v := (I (Bt.2.2.2.2.2.1.length : Int))) (rv_len Tryz.underlying25 rfl) (sq (v := (I (w64 ((Bt.2.2.2.2.2.1.length : Int) - 1)))) (rv_sub (a := (Bt.2.2.2.2.2.1.length : Int)) (b := 1) rfl rfl) (sq_end ?_)))
  intro σ8 hm9
  replace H := H.grow (hm9.mono fun _ h => h); clear hm9
  revert h; refine br fun x10 hx11 h => ?_
  obtain ⟨b13, o14, hi12, -⟩ := (H.ro 4 rfl).ix hx11
  refine st (v := (pt b13 o14)) (rv_ix Tryz.underlying25 ti67 rfl rfl hi12) (st (v := (pt b13 (o14 + 1))) (rv_fieldAddr (off := 1) (ft := 3) Tryz.underlying67 rfl ti3 rfl rfl) ?_)
  have hc15 := ((H.ro 4 rfl).at hx11 hi12).snd.int
  refine st (v := (I x10.2)) (rv_load1 Tryz.underlying3 rfl rfl hc15) (sa (I x10.2) rfl (w_end (q_then (c_ret ?_))))
  obtain rfl := sj h
  exact fin_ret (v := (I x10.2)) (results_ok Tryz.results74 (res_tmp (v := (I x10.2)) rfl res_nil) rfl) ⟨rfl, rfl⟩ (H.sel' [0] rfl rfl)

theorem c_spec_seek_visit : ∀ (fuel : Nat) {Bt : (List (Int × Int × Int × Int)) × (List (Int × (List Int) × Int)) × Int × (List Int) × Int × (List (Int × Int)) × Int} {Cj : Int} {Bu : Option Addr} {Bv : Nat} {Bw : Option Addr} {By : Nat} {Bz : Option Addr} {Ca : Nat} {Cb : Option Addr} {Cc : Nat} {Cd Ce Cf : Nat} {Cg Ci : List Value} {r : ((List (Int × Int × Int × Int)) × (List (Int × (List Int) × Int)) × Int × (List Int) × Int × (List (Int × Int)) × Int)} (h : M.spec_seek_visit fuel Bt Cj = some r),
    Cal2 Tryz.prog 49 [(pt Ce Cf), (I Cj)] [Ch.bx Cd Ce Cf [(Sl Bu Bt.1 Bv), (Sl Bw Bt.2.1 By), (I Bt.2.2.1), (Sl Bz Bt.2.2.2.1 Ca), (I Bt.2.2.2.2.1), (Sl Cb Bt.2.2.2.2.2.1 Cc), (I Bt.2.2.2.2.2.2)] Cg Ci, Ch.ro 0 (Sl Bu Bt.1 Bv) Bt.1, Ch.ro 0 (Sl Bw Bt.2.1 By) Bt.2.1, Ch.ro 0 (Sl Bz Bt.2.2.2.1 Ca) Bt.2.2.2.1, Ch.ro 0 (Sl Cb Bt.2.2.2.2.2.1 Cc) Bt.2.2.2.2.2.1] (fun n0 v L => ∃ (az1 : Option Addr), ∃ (cz2 : Nat), ∃ (az3 : Option Addr), ∃ (cz4 : Nat), ∃ (az5 : Option Addr), ∃ (cz6 : Nat), ∃ (az7 : Option Addr), ∃ (cz8 : Nat), v = (.tuple #[]) ∧ L = [Ch.bx Cd Ce Cf [(Sl az1 r.1 cz2), (Sl az3 r.2.1 cz4), (I r.2.2.1), (Sl az5 r.2.2.2.1 cz6), (I r.2.2.2.2.1), (Sl az7 r.2.2.2.2.2.1 cz8), (I r.2.2.2.2.2.2)] Cg Ci, Ch.ro 0 (Sl az1 r.1 cz2) r.1, Ch.ro 0 (Sl az3 r.2.1 cz4) r.2.1, Ch.ro 0 (Sl az5 r.2.2.2.1 cz6) r.2.2.2.1, Ch.ro 0 (Sl az7 r.2.2.2.2.2.1 cz8) r.2.2.2.2.2.1]) := by
 intro fuel
 induction fuel with
 | zero => intro _ _ _ _ _ _ _ _ _ _ _ _ _ _ _ r h; cases h
 | succ fuel ih =>
 ·intro Bt Cj Bu Bv Bw By Bz Ca Cb Cc Cd Ce Cf Cg Ci r h
  replace h : M.spec_seek_visit_F (M.spec_seek_visit fuel) Bt Cj = some r := h
  refine cal2 (n := 96) Tryz.func49 rfl rfl rfl rfl ?_
  intro S0 σ0 n0 hn0 H
  unfold M.spec_seek_visit_F at h
  refine c_seq (c_seq (rg (sm (I Cj) rfl (st (v := (B (decide (Cj < 0)))) (rv_lss (a := Cj) (b := 0) rfl rfl) (w_end (q_then ?_))))))
  refine cd_cond (decide (Cj < 0)) rfl (fun hb1 => ?_) (fun hb1 => ?_)
  ·replace h := bif_t hb1 h
   refine c_ret (q_then_r ?_)
   obtain rfl := sj h
   exact fin_ret (v := (.tuple #[])) (results_ok Tryz.results49 res_nil rfl) ⟨Bu, Bv, Bw, By, Bz, Ca, Cb, Cc, rfl, rfl⟩ (H.sel' [0, 1, 2, 3, 4] rfl rfl)
  ·replace h := bif_f hb1 h
   refine c_skip (q_then (c_seq (rg (sm (pt Ce Cf) rfl (st (v := (pt Ce Cf)) (rv_nilCheck rfl) (st (v := (pt Ce Cf)) (rv_fieldAddr (off := 0) (ft := 49) Tryz.underlying51 rfl ti49 rfl rfl) ?_))))))
   have hc2 := H.cell (u := (Sl Bu Bt.1 Bv)) (o' := Cf) 0 0 rfl rfl rfl
   refine st (v := (Sl Bu Bt.1 Bv)) (rv_load1 Tryz.underlying49 rfl rfl hc2) (sm (I Cj) rfl ?_)
   revert h; refine br fun x3 hx4 h => ?_
   obtain ⟨b6, o7, hi5, -⟩ := (H.ro 1 rfl).ix hx4
   refine st (v := (pt b6 o7)) (rv_ix Tryz.underlying49 ti105 rfl rfl hi5) ?_
   obtain ⟨_, ⟨_, _, rfl, rfl, ⟨_, _, rfl, rfl, ⟨_, _, rfl, rfl, rfl⟩⟩⟩, hl8, hc9⟩ := ((H.ro 1 rfl).at hx4 hi5).cells
   refine st (v := (.agg #[(I x3.1), (I x3.2.1), (I x3.2.2.1), (I x3.2.2.2)])) (rv_load Tryz.underlying105 rfl ti105 rfl hl8 hc9) (st_ex (ex_alloc (cs := [(I 0), (I 0), (I 0), (I 0)]) H hn0 ti105 rfl) wn ?_)
   rintro _ σ11 ⟨b10, rfl, H, -⟩
   refine st_exS (ex_store_box (k := 0) (cs := [(I 0), (I 0), (I 0), (I 0)]) (vs := [(I x3.1), (I x3.2.1), (I x3.2.2.1), (I x3.2.2.2)]) (cs' := [(I x3.1), (I x3.2.1), (I x3.2.2.1), (I x3.2.2.2)]) H (i := 0) rfl ti105 rfl rfl rfl rfl rfl (Nat.le_of_ble_eq_true rfl) (by simp [plain]) rfl) wn ?_
   rintro σ12 ⟨H, -⟩
   refine w_end (q_then (c_seq ?_))
   have hc13 := H.cell (u := (I Bt.2.2.1)) (o' := (Cf + 2)) 1 2 rfl rfl rfl
   have hc14 := H.cell (u := (Sl Bw Bt.2.1 By)) (o' := (Cf + 1)) 1 1 rfl rfl rfl
   have hc15 := H.cell (u := (Sl Bw Bt.2.1 By)) (o' := (Cf + 1)) 1 1 rfl rfl rfl
   have hc16 := H.cell (u := (I x3.1)) (o' := 0) 0 0 rfl rfl rfl
   revert h; refine br fun r17 hx18 h => ?_
   have hc19 := c_spec_keyAt (Am := Bw) (Ao := By) hx18
   revert h; refine br fun x20 hx21 h => ?_
   obtain ⟨b23, o24, hi22, -⟩ := (H.ro 3 rfl).ix hx21
   obtain ⟨v28, hc29, hR27⟩ := ((H.ro 3 rfl).at hx21 hi22).snd.fst.slice
   obtain ⟨a25, c26, rfl⟩ := hR27.isSl
   replace H := H.add (d := Ch.ro 0 (Sl a25 x20.2.1 c26) x20.2.1) hR27 (fun _ h => h)
   clear hR27
   have hc30 := H.cell (u := (Sl Bz Bt.2.2.2.1 Ca)) (o' := (Cf + 3)) 2 3 rfl rfl rfl
   have Hs := H
   refine rg2 (σ := σ12) (Nm := Unit) 22 [14] [[false], [true]] [[(0, 0), (1, 1)], [(0, 0), (1, 1)], [(0, 0), (1, 1)], [(0, 0), (1, 1)], [(0, 0), (1, 1)], [(0, 0), (1, 1)], [(0, 0), (1, 1)], [(0, 0), (1, 1)], [(0, 0)], [(0, 0)], [(0, 0)], [(0, 0)], [(0, 0)], [(0, 0)], [(0, 1)], [(1, 1)], [(1, 1)], [(1, 1)], [(0, 0), (1, 1)], [(0, 0), (1, 1)], [(0, 0), (1, 1)], [(0, 0), (1, 1)]] 1 [fun _ => fun σm => Hp S0 σ0 σm [Ch.ro 0 (Sl a25 x20.2.1 c26) x20.2.1, Ch.bx n0 b10 0 [(I x3.1), (I x3.2.1), (I x3.2.2.1), (I x3.2.2.2)] [] [], Ch.bx Cd Ce Cf [(Sl Bu Bt.1 Bv), (Sl Bw Bt.2.1 By), (I Bt.2.2.1), (Sl Bz Bt.2.2.2.1 Ca), (I Bt.2.2.2.2.1), (Sl Cb Bt.2.2.2.2.2.1 Cc), (I Bt.2.2.2.2.2.2)] Cg Ci, Ch.ro 0 (Sl Bu Bt.1 Bv) Bt.1, Ch.ro 0 (Sl Bw Bt.2.1 By) Bt.2.1, Ch.ro 0 (Sl Bz Bt.2.2.2.1 Ca) Bt.2.2.2.1, Ch.ro 0 (Sl Cb Bt.2.2.2.2.2.1 Cc) Bt.2.2.2.2.2.1] ∧ Md (cov []) σ12 σm, fun _ => fun σm => Hp S0 σ0 σm [Ch.ro 0 (Sl a25 x20.2.1 c26) x20.2.1, Ch.bx n0 b10 0 [(I x3.1), (I x3.2.1), (I x3.2.2.1), (I x3.2.2.2)] [] [], Ch.bx Cd Ce Cf [(Sl Bu Bt.1 Bv), (Sl Bw Bt.2.1 By), (I Bt.2.2.1), (Sl Bz Bt.2.2.2.1 Ca), (I Bt.2.2.2.2.1), (Sl Cb Bt.2.2.2.2.2.1 Cc), (I Bt.2.2.2.2.2.2)] Cg Ci, Ch.ro 0 (Sl Bu Bt.1 Bv) Bt.1, Ch.ro 0 (Sl Bw Bt.2.1 By) Bt.2.1, Ch.ro 0 (Sl Bz Bt.2.2.2.1 Ca) Bt.2.2.2.1, Ch.ro 0 (Sl Cb Bt.2.2.2.2.2.1 Cc) Bt.2.2.2.2.2.1] ∧ Md (cov []) σ12 σm] [fun _ => (pt Ce Cf), fun _ => (pt Ce Cf), fun _ => (pt Ce (Cf + 2)), fun _ => (I Bt.2.2.1), fun _ => (pt Ce Cf), fun _ => (pt Ce Cf), fun _ => (pt Ce (Cf + 1)), fun _ => (Sl Bw Bt.2.1 By), fun _ => (pt Ce Cf), fun _ => (pt Ce Cf), fun _ => (pt Ce (Cf + 1)), fun _ => (Sl Bw Bt.2.1 By), fun _ => (pt b10 0), fun _ => (I x3.1), fun _ => (I r17), fun _ => (pt b23 o24), fun _ => (pt b23 (o24 + 1)), fun _ => (Sl a25 x20.2.1 c26), fun _ => (pt Ce Cf), fun _ => (pt Ce Cf), fun _ => (pt Ce (Cf + 3)), fun _ => (Sl Bz Bt.2.2.2.1 Ca)] () (by kernel_rfl) (by kernel_rfl) ?_ ?_ ?_
   ·intro σm m0
    exact ⟨H.grow (m0.mono fun _ h => h.elim), m0⟩
   ·refine ac rfl (by
      intro k _nm ρ σm hJ hoff hdep
      have e0 := look_off (N := 96) (hoff 0 rfl) rfl
      exact dp_v (v := (pt Ce Cf)) wn (rv_move e0) rfl hJ) ?_
    refine ac rfl (by
      intro k _nm ρ σm hJ hoff hdep
      have e15 := hdep 0 rfl rfl 15 rfl
      exact dp_v (v := (pt Ce Cf)) wn (rv_nilCheck e15) rfl hJ) ?_
    refine ac rfl (by
      intro k _nm ρ σm hJ hoff hdep
      have e16 := hdep 1 rfl rfl 16 rfl
      exact dp_v (v := (pt Ce (Cf + 2))) wn (rv_fieldAddr (off := 2) (ft := 3) Tryz.underlying51 rfl ti3 rfl e16) rfl hJ) ?_
    refine all_cons (by
      refine ⟨?_, ?_⟩
      ·intro _nm ρ σm hJ hoff hdep
       have e17 := hdep 2 rfl rfl 17 rfl
       obtain ⟨H, m⟩ := id hJ
       have hc13 := H.cell (u := (I Bt.2.2.1)) (o' := (Cf + 2)) 2 2 rfl rfl rfl
       exact dp_v (v := (I Bt.2.2.1)) wn (rv_load1 Tryz.underlying3 rfl e17 hc13) rfl hJ
      refine ⟨?_, ?_⟩
      ·intro _nm ρ σm hJ hoff hdep
       have e17 := hdep 2 rfl rfl 17 rfl
       obtain ⟨H, m⟩ := id hJ
       have hc13 := H.cell (u := (I Bt.2.2.1)) (o' := (Cf + 2)) 2 2 rfl rfl rfl
       exact dp_v (v := (I Bt.2.2.1)) wn (rv_load1 Tryz.underlying3 rfl e17 hc13) rfl hJ
      trivial) ?_
    refine ac rfl (by
      intro k _nm ρ σm hJ hoff hdep
      have e0 := look_off (N := 96) (hoff 0 rfl) rfl
      exact dp_v (v := (pt Ce Cf)) wn (rv_move e0) rfl hJ) ?_
    refine ac rfl (by
      intro k _nm ρ σm hJ hoff hdep
      have e19 := hdep 4 rfl rfl 19 rfl
      exact dp_v (v := (pt Ce Cf)) wn (rv_nilCheck e19) rfl hJ) ?_
    refine ac rfl (by
      intro k _nm ρ σm hJ hoff hdep
      have e20 := hdep 5 rfl rfl 20 rfl
      exact dp_v (v := (pt Ce (Cf + 1))) wn (rv_fieldAddr (off := 1) (ft := 27) Tryz.underlying51 rfl ti27 rfl e20) rfl hJ) ?_
    refine all_cons (by
      refine ⟨?_, ?_⟩
      ·intro _nm ρ σm hJ hoff hdep
       have e21 := hdep 6 rfl rfl 21 rfl
       obtain ⟨H, m⟩ := id hJ
       have hc14 := H.cell (u := (Sl Bw Bt.2.1 By)) (o' := (Cf + 1)) 2 1 rfl rfl rfl
       exact dp_v (v := (Sl Bw Bt.2.1 By)) wn (rv_load1 Tryz.underlying27 rfl e21 hc14) rfl hJ
      refine ⟨?_, ?_⟩
      ·intro _nm ρ σm hJ hoff hdep
       have e21 := hdep 6 rfl rfl 21 rfl
       obtain ⟨H, m⟩ := id hJ
       have hc14 := H.cell (u := (Sl Bw Bt.2.1 By)) (o' := (Cf + 1)) 2 1 rfl rfl rfl
       exact dp_v (v := (Sl Bw Bt.2.1 By)) wn (rv_load1 Tryz.underlying27 rfl e21 hc14) rfl hJ
      trivial) ?_
    refine ac rfl (by
      intro k _nm ρ σm hJ hoff hdep
      have e0 := look_off (N := 96) (hoff 0 rfl) rfl
      exact dp_v (v := (pt Ce Cf)) wn (rv_move e0) rfl hJ) ?_
    refine ac rfl (by
      intro k _nm ρ σm hJ hoff hdep
      have e23 := hdep 8 rfl rfl 23 rfl
      exact dp_v (v := (pt Ce Cf)) wn (rv_nilCheck e23) rfl hJ) ?_
    refine ac rfl (by
      intro k _nm ρ σm hJ hoff hdep
      have e24 := hdep 9 rfl rfl 24 rfl
      exact dp_v (v := (pt Ce (Cf + 1))) wn (rv_fieldAddr (off := 1) (ft := 27) Tryz.underlying51 rfl ti27 rfl e24) rfl hJ) ?_
    refine all_cons (by
      refine ⟨?_, ?_⟩
      ·intro _nm ρ σm hJ hoff hdep
       have e25 := hdep 10 rfl rfl 25 rfl
       obtain ⟨H, m⟩ := id hJ
       have hc15 := H.cell (u := (Sl Bw Bt.2.1 By)) (o' := (Cf + 1)) 2 1 rfl rfl rfl
       exact dp_v (v := (Sl Bw Bt.2.1 By)) wn (rv_load1 Tryz.underlying27 rfl e25 hc15) rfl hJ
      trivial) ?_
    refine ac rfl (by
      intro k _nm ρ σm hJ hoff hdep
      have e4 := look_off (N := 96) (hoff 4 rfl) rfl
      exact dp_v (v := (pt b10 0)) wn (rv_fieldAddr (off := 0) (ft := 3) Tryz.underlying105 rfl ti3 rfl e4) rfl hJ) ?_
    refine all_cons (by
      refine ⟨?_, ?_⟩
      ·intro _nm ρ σm hJ hoff hdep
       have e27 := hdep 12 rfl rfl 27 rfl
       obtain ⟨H, m⟩ := id hJ
       have hc16 := H.cell (u := (I x3.1)) (o' := 0) 1 0 rfl rfl rfl
       exact dp_v (v := (I x3.1)) wn (rv_load1 Tryz.underlying3 rfl e27 hc16) rfl hJ
      trivial) ?_
    refine all_cons (by
      refine ⟨?_, ?_⟩
      ·intro _nm ρ σm hJ hoff hdep
       have e26 : look 96 ρ 26 = (Sl Bw Bt.2.1 By) := hdep 11 rfl rfl 26 rfl
       have e28 : look 96 ρ 28 = (I x3.1) := hdep 13 rfl rfl 28 rfl
       obtain ⟨H, m⟩ := id hJ
       refine dp_cx wn (cx_call hc19 (ent_f hc19.fn (by show [look 96 ρ 26, look 96 ρ 28] = _; rw [e26, e28])) hn0 (H.sel' [4, 0, 1, 2, 3, 4, 5, 6] rfl rfl : Hp S0 σ0 _ ([_] ++ _))) ?_
       rintro _ σq ⟨_, ⟨rfl, rfl⟩, H2, m2⟩
       exact ⟨_, (), rfl, rfl, ⟨H2.sel' [0, 1, 2, 3, 4, 5, 6] rfl rfl, m.comp0 (m2.mono (fun i h => by simp [cov, Ch.ro] at h))⟩, stab [0, 1, 2, 3, 4, 5, 6, 7, 8, 9, 10, 11, 12, 13, 18, 19, 20, 21] (by kernel_rfl) ⟨rfl, rfl, rfl, rfl, rfl, rfl, rfl, rfl, rfl, rfl, rfl, rfl, rfl, rfl, rfl, rfl, rfl, rfl, trivial⟩⟩
      trivial) ?_
    refine ac rfl (by
      intro k _nm ρ σm hJ hoff hdep
      have e22 := hdep 7 rfl rfl 22 rfl
      have e29 := hdep 14 rfl rfl 29 rfl
      exact dp_v (v := (pt b23 o24)) wn (rv_ix Tryz.underlying27 ti54 e22 e29 hi22) rfl hJ) ?_
    refine ac rfl (by
      intro k _nm ρ σm hJ hoff hdep
      have e30 := hdep 15 rfl rfl 30 rfl
      exact dp_v (v := (pt b23 (o24 + 1))) wn (rv_fieldAddr (off := 1) (ft := 23) Tryz.underlying54 rfl ti23 rfl e30) rfl hJ) ?_
    refine all_cons (by
      refine ⟨?_, ?_⟩
      ·intro _nm ρ σm hJ hoff hdep
       have e31 := hdep 16 rfl rfl 31 rfl
       obtain ⟨H, m⟩ := id hJ
       replace hc29 := (Hs.ro 4 rfl).hmd hx21 hi22 (k := 1) (by decide) hc29 m
       exact dp_v (v := (Sl a25 x20.2.1 c26)) wn (rv_load1 Tryz.underlying23 rfl e31 hc29) rfl hJ
      trivial) ?_
    refine ac rfl (by
      intro k _nm ρ σm hJ hoff hdep
      have e0 := look_off (N := 96) (hoff 0 rfl) rfl
      exact dp_v (v := (pt Ce Cf)) wn (rv_move e0) rfl hJ) ?_
    refine ac rfl (by
      intro k _nm ρ σm hJ hoff hdep
      have e33 := hdep 18 rfl rfl 33 rfl
      exact dp_v (v := (pt Ce Cf)) wn (rv_nilCheck e33) rfl hJ) ?_
    refine ac rfl (by
      intro k _nm ρ σm hJ hoff hdep
      have e34 := hdep 19 rfl rfl 34 rfl
      exact dp_v (v := (pt Ce (Cf + 3))) wn (rv_fieldAddr (off := 3) (ft := 23) Tryz.underlying51 rfl ti23 rfl e34) rfl hJ) ?_
    refine all_cons (by
      refine ⟨?_, ?_⟩
      ·intro _nm ρ σm hJ hoff hdep
       have e35 := hdep 20 rfl rfl 35 rfl
       obtain ⟨H, m⟩ := id hJ
       have hc30 := H.cell (u := (Sl Bz Bt.2.2.2.1 Ca)) (o' := (Cf + 3)) 2 3 rfl rfl rfl
       exact dp_v (v := (Sl Bz Bt.2.2.2.1 Ca)) wn (rv_load1 Tryz.underlying23 rfl e35 hc30) rfl hJ
      refine ⟨?_, ?_⟩
      ·intro _nm ρ σm hJ hoff hdep
       have e35 := hdep 20 rfl rfl 35 rfl
       obtain ⟨H, m⟩ := id hJ
       have hc30 := H.cell (u := (Sl Bz Bt.2.2.2.1 Ca)) (o' := (Cf + 3)) 2 3 rfl rfl rfl
       exact dp_v (v := (Sl Bz Bt.2.2.2.1 Ca)) wn (rv_load1 Tryz.underlying23 rfl e35 hc30) rfl hJ
      trivial) ?_
    exact all_nil
   ·intro _nm ρ σ31 hJ hoff hrel
    have e0 := look_off (N := 96) (hoff 0 rfl) rfl
    have e4 := look_off (N := 96) (hoff 4 rfl) rfl
    have e18 := hrel 3 rfl 18 rfl
    have e32 := hrel 17 rfl 32 rfl
    have e36 := hrel 21 rfl 36 rfl
    obtain ⟨H, -⟩ := (show Hp S0 σ0 σ31 [Ch.ro 0 (Sl a25 x20.2.1 c26) x20.2.1, Ch.bx n0 b10 0 [(I x3.1), (I x3.2.1), (I x3.2.2.1), (I x3.2.2.2)] [] [], Ch.bx Cd Ce Cf [(Sl Bu Bt.1 Bv), (Sl Bw Bt.2.1 By), (I Bt.2.2.1), (Sl Bz Bt.2.2.2.1 Ca), (I Bt.2.2.2.2.1), (Sl Cb Bt.2.2.2.2.2.1 Cc), (I Bt.2.2.2.2.2.2)] Cg Ci, Ch.ro 0 (Sl Bu Bt.1 Bv) Bt.1, Ch.ro 0 (Sl Bw Bt.2.1 By) Bt.2.1, Ch.ro 0 (Sl Bz Bt.2.2.2.1 Ca) Bt.2.2.2.1, Ch.ro 0 (Sl Cb Bt.2.2.2.2.2.1 Cc) Bt.2.2.2.2.2.1] ∧ Md (cov []) σ12 σ31 from hJ)
    clear hJ Hs
    rw [fr_lookL (L := [(0, (pt Ce Cf)), (4, (pt b10 0)), (18, (I Bt.2.2.1)), (32, (Sl a25 x20.2.1 c26)), (36, (Sl Bz Bt.2.2.2.1 Ca))]) ⟨e0, e4, e18, e32, e36, trivial⟩]
    clear hoff hrel e0 e4 e18 e32 e36
    revert h; refine br fun r32 hx33 h => ?_
    have hc34 := c_spec_dist (Be := a25) (Bf := c26) (Bg := Bz) (Bh := Ca) hx33
    refine st_call (cx_call hc34 (ent_f hc34.fn rfl) hn0 (H.sel' [0, 5, 0, 1, 2, 3, 4, 5, 6] rfl rfl : Hp S0 σ0 _ ([_, _] ++ _))) wn ?_
    rintro _ σ35 ⟨_, ⟨rfl, rfl⟩, H, -⟩
    replace H : Hp _ _ _ [_, _, _, _, _, _, _] := H
    refine sa (I r32) rfl (w_end (q_then (c_seq (rg (sm (pt Ce Cf) rfl (sm (pt Ce Cf) rfl (st (v := (pt Ce Cf)) (rv_nilCheck rfl) (st (v := (pt Ce (Cf + 6))) (rv_fieldAddr (off := 6) (ft := 3) Tryz.underlying51 rfl ti3 rfl rfl) ?_))))))))
    have hc36 := H.cell (u := (I Bt.2.2.2.2.2.2)) (o' := (Cf + 6)) 2 6 rfl rfl rfl
    refine st (v := (I Bt.2.2.2.2.2.2)) (rv_load1 Tryz.underlying3 rfl rfl hc36) (st (v := (I (w64 (Bt.2.2.2.2.2.2 + 1)))) (rv_add (a := Bt.2.2.2.2.2.2) (b := 1) rfl rfl) (st (v := (pt Ce Cf)) (rv_nilCheck rfl) (st (v := (pt Ce (Cf + 6))) (rv_fieldAddr (off := 6) (ft := 3) Tryz.underlying51 rfl ti3 rfl rfl) ?_)))
    refine st_exS (ex_store_box (k := 6) (cs := [(Sl Bu Bt.1 Bv), (Sl Bw Bt.2.1 By), (I Bt.2.2.1), (Sl Bz Bt.2.2.2.1 Ca), (I Bt.2.2.2.2.1), (Sl Cb Bt.2.2.2.2.2.1 Cc), (I Bt.2.2.2.2.2.2)]) (vs := [(I (w64 (Bt.2.2.2.2.2.2 + 1)))]) (cs' := [(Sl Bu Bt.1 Bv), (Sl Bw Bt.2.1 By), (I Bt.2.2.1), (Sl Bz Bt.2.2.2.1 Ca), (I Bt.2.2.2.2.1), (Sl Cb Bt.2.2.2.2.2.1 Cc), (I (w64 (Bt.2.2.2.2.2.2 + 1)))]) H (i := 2) rfl ti3 rfl rfl rfl rfl rfl (Nat.le_of_ble_eq_true rfl) (by simp [plain]) rfl) wn ?_
    rintro σ37 ⟨H, -⟩
    refine w_end (q_then (c_seq ?_))
    have hc38 := H.cell (u := (Sl Cb Bt.2.2.2.2.2.1 Cc)) (o' := (Cf + 5)) 0 5 rfl rfl rfl
    have hc39 := H.cell (u := (I x3.1)) (o' := 0) 2 0 rfl rfl rfl
    have hc40 := H.cell (u := (I Bt.2.2.2.2.1)) (o' := (Cf + 4)) 0 4 rfl rfl rfl
    revert h; refine br fun r41 hx42 h => ?_
    have hc43 := c_spec_addHit (Am := Cb) (Ao := Cc) hx42
    have Hs := H
    refine rg2 (σ := σ37) (Nm := (Option Addr) × (Nat)) 14 [13] [[false], [true]] [[(0, 0), (1, 1)], [(0, 0)], [(0, 0)], [(0, 0)], [(0, 0)], [(0, 0)], [(0, 0)], [(0, 0)], [(0, 0)], [(0, 0)], [(0, 0)], [(0, 0)], [(0, 0)], [(0, 1)]] 1 [fun ((a44, c45) : (Option Addr) × (Nat)) => fun σm => Hp S0 σ0 σm [Ch.bx Cd Ce Cf [(Sl Bu Bt.1 Bv), (Sl Bw Bt.2.1 By), (I Bt.2.2.1), (Sl Bz Bt.2.2.2.1 Ca), (I Bt.2.2.2.2.1), (Sl Cb Bt.2.2.2.2.2.1 Cc), (I (w64 (Bt.2.2.2.2.2.2 + 1)))] Cg Ci, Ch.ro 0 (Sl a25 x20.2.1 c26) x20.2.1, Ch.bx n0 b10 0 [(I x3.1), (I x3.2.1), (I x3.2.2.1), (I x3.2.2.2)] [] [], Ch.ro 0 (Sl Bu Bt.1 Bv) Bt.1, Ch.ro 0 (Sl Bw Bt.2.1 By) Bt.2.1, Ch.ro 0 (Sl Bz Bt.2.2.2.1 Ca) Bt.2.2.2.1, Ch.ro 0 (Sl Cb Bt.2.2.2.2.2.1 Cc) Bt.2.2.2.2.2.1] ∧ Md (cov []) σ37 σm, fun ((a44, c45) : (Option Addr) × (Nat)) => fun σm => Hp S0 σ0 σm [Ch.own n0 n0 (Sl a44 r41 c45) r41, Ch.bx Cd Ce Cf [(Sl Bu Bt.1 Bv), (Sl Bw Bt.2.1 By), (I Bt.2.2.1), (Sl Bz Bt.2.2.2.1 Ca), (I Bt.2.2.2.2.1), (Sl Cb Bt.2.2.2.2.2.1 Cc), (I (w64 (Bt.2.2.2.2.2.2 + 1)))] Cg Ci, Ch.ro 0 (Sl a25 x20.2.1 c26) x20.2.1, Ch.bx n0 b10 0 [(I x3.1), (I x3.2.1), (I x3.2.2.1), (I x3.2.2.2)] [] [], Ch.ro 0 (Sl Bu Bt.1 Bv) Bt.1, Ch.ro 0 (Sl Bw Bt.2.1 By) Bt.2.1, Ch.ro 0 (Sl Bz Bt.2.2.2.1 Ca) Bt.2.2.2.1, Ch.ro 0 (Sl Cb Bt.2.2.2.2.2.1 Cc) Bt.2.2.2.2.2.1] ∧ Md (cov []) σ37 σm] [fun ((a44, c45) : (Option Addr) × (Nat)) => (pt Ce Cf), fun ((a44, c45) : (Option Addr) × (Nat)) => (pt Ce Cf), fun ((a44, c45) : (Option Addr) × (Nat)) => (pt Ce Cf), fun ((a44, c45) : (Option Addr) × (Nat)) => (pt Ce (Cf + 5)), fun ((a44, c45) : (Option Addr) × (Nat)) => (Sl Cb Bt.2.2.2.2.2.1 Cc), fun ((a44, c45) : (Option Addr) × (Nat)) => (pt b10 0), fun ((a44, c45) : (Option Addr) × (Nat)) => (I x3.1), fun ((a44, c45) : (Option Addr) × (Nat)) => (I r32), fun ((a44, c45) : (Option Addr) × (Nat)) => (.agg #[(I x3.1), (I r32)]), fun ((a44, c45) : (Option Addr) × (Nat)) => (pt Ce Cf), fun ((a44, c45) : (Option Addr) × (Nat)) => (pt Ce Cf), fun ((a44, c45) : (Option Addr) × (Nat)) => (pt Ce (Cf + 4)), fun ((a44, c45) : (Option Addr) × (Nat)) => (I Bt.2.2.2.2.1), fun ((a44, c45) : (Option Addr) × (Nat)) => (Sl a44 r41 c45)] (none, 0) (by kernel_rfl) (by kernel_rfl) ?_ ?_ ?_
    ·intro σm m0
     exact ⟨H.grow (m0.mono fun _ h => h.elim), m0⟩
    ·refine ac rfl (by
       intro k; rintro ⟨a44, c45⟩ ρ σm hJ hoff hdep
       have e0 := look_off (N := 96) (hoff 0 rfl) rfl
       exact dp_v (v := (pt Ce Cf)) wn (rv_move e0) rfl hJ) ?_
     refine ac rfl (by
       intro k; rintro ⟨a44, c45⟩ ρ σm hJ hoff hdep
       have e0 := look_off (N := 96) (hoff 0 rfl) rfl
       exact dp_v (v := (pt Ce Cf)) wn (rv_move e0) rfl hJ) ?_
     refine ac rfl (by
       intro k; rintro ⟨a44, c45⟩ ρ σm hJ hoff hdep
       have e47 := hdep 1 rfl rfl 47 rfl
       exact dp_v (v := (pt Ce Cf)) wn (rv_nilCheck e47) rfl hJ) ?_
     refine ac rfl (by
       intro k; rintro ⟨a44, c45⟩ ρ σm hJ hoff hdep
       have e48 := hdep 2 rfl rfl 48 rfl
       exact dp_v (v := (pt Ce (Cf + 5))) wn (rv_fieldAddr (off := 5) (ft := 25) Tryz.underlying51 rfl ti25 rfl e48) rfl hJ) ?_
     refine all_cons (by
       refine ⟨?_, ?_⟩
       ·rintro ⟨a44, c45⟩ ρ σm hJ hoff hdep
        have e49 := hdep 3 rfl rfl 49 rfl
        obtain ⟨H, m⟩ := id hJ
        have hc38 := H.cell (u := (Sl Cb Bt.2.2.2.2.2.1 Cc)) (o' := (Cf + 5)) 0 5 rfl rfl rfl
        exact dp_v (v := (Sl Cb Bt.2.2.2.2.2.1 Cc)) wn (rv_load1 Tryz.underlying25 rfl e49 hc38) rfl hJ
       trivial) ?_
     refine ac rfl (by
       intro k; rintro ⟨a44, c45⟩ ρ σm hJ hoff hdep
       have e4 := look_off (N := 96) (hoff 4 rfl) rfl
       exact dp_v (v := (pt b10 0)) wn (rv_fieldAddr (off := 0) (ft := 3) Tryz.underlying105 rfl ti3 rfl e4) rfl hJ) ?_
     refine all_cons (by
       refine ⟨?_, ?_⟩
       ·rintro ⟨a44, c45⟩ ρ σm hJ hoff hdep
        have e51 := hdep 5 rfl rfl 51 rfl
        obtain ⟨H, m⟩ := id hJ
        have hc39 := H.cell (u := (I x3.1)) (o' := 0) 2 0 rfl rfl rfl
        exact dp_v (v := (I x3.1)) wn (rv_load1 Tryz.underlying3 rfl e51 hc39) rfl hJ
       trivial) ?_
     refine ac rfl (by
       intro k; rintro ⟨a44, c45⟩ ρ σm hJ hoff hdep
       have e5 := look_off (N := 96) (hoff 5 rfl) rfl
       exact dp_v (v := (I r32)) wn (rv_move e5) rfl hJ) ?_
     refine ac rfl (by
       intro k; rintro ⟨a44, c45⟩ ρ σm hJ hoff hdep
       have e52 : look 96 ρ 52 = (I x3.1) := hdep 6 rfl rfl 52 rfl
       have e53 : look 96 ρ 53 = (I r32) := hdep 7 rfl rfl 53 rfl
       exact dp_v (v := (.agg #[(I x3.1), (I r32)])) wn (rv_build (ps := [(0, (I x3.1)), (1, (I r32))]) Tryz.underlying67 ti67 (bp67 Tryz.underlying67) (by show [(0, look 96 ρ 52), (1, look 96 ρ 53)] = _; rw [e52, e53]) (by kernel_rfl)) rfl hJ) ?_
     refine ac rfl (by
       intro k; rintro ⟨a44, c45⟩ ρ σm hJ hoff hdep
       have e0 := look_off (N := 96) (hoff 0 rfl) rfl
       exact dp_v (v := (pt Ce Cf)) wn (rv_move e0) rfl hJ) ?_
     refine ac rfl (by
       intro k; rintro ⟨a44, c45⟩ ρ σm hJ hoff hdep
       have e55 := hdep 9 rfl rfl 55 rfl
       exact dp_v (v := (pt Ce Cf)) wn (rv_nilCheck e55) rfl hJ) ?_
     refine ac rfl (by
       intro k; rintro ⟨a44, c45⟩ ρ σm hJ hoff hdep
       have e56 := hdep 10 rfl rfl 56 rfl
       exact dp_v (v := (pt Ce (Cf + 4))) wn (rv_fieldAddr (off := 4) (ft := 3) Tryz.underlying51 rfl ti3 rfl e56) rfl hJ) ?_
     refine all_cons (by
       refine ⟨?_, ?_⟩
       ·rintro ⟨a44, c45⟩ ρ σm hJ hoff hdep
        have e57 := hdep 11 rfl rfl 57 rfl
        obtain ⟨H, m⟩ := id hJ
        have hc40 := H.cell (u := (I Bt.2.2.2.2.1)) (o' := (Cf + 4)) 0 4 rfl rfl rfl
        exact dp_v (v := (I Bt.2.2.2.2.1)) wn (rv_load1 Tryz.underlying3 rfl e57 hc40) rfl hJ
       trivial) ?_
     refine all_cons (by
       refine ⟨?_, ?_⟩
       ·rintro ⟨a44, c45⟩ ρ σm hJ hoff hdep
        have e50 : look 96 ρ 50 = (Sl Cb Bt.2.2.2.2.2.1 Cc) := hdep 4 rfl rfl 50 rfl
        have e54 : look 96 ρ 54 = (.agg #[(I x3.1), (I r32)]) := hdep 8 rfl rfl 54 rfl
        have e58 : look 96 ρ 58 = (I Bt.2.2.2.2.1) := hdep 12 rfl rfl 58 rfl
        obtain ⟨H, m⟩ := id hJ
        refine dp_cx wn (cx_call hc43 (ent_f hc43.fn (by show [look 96 ρ 50, look 96 ρ 54, look 96 ρ 58] = _; rw [e50, e54, e58])) hn0 (H.sel' [6, 0, 1, 2, 3, 4, 5, 6] rfl rfl : Hp S0 σ0 _ ([_] ++ _))) ?_
        rintro _ σq ⟨_, ⟨a44x, c45x, rfl, rfl⟩, H2, m2⟩
        exact ⟨_, (a44x, c45x), rfl, rfl, ⟨H2.sel' [0, 1, 2, 3, 4, 5, 6, 7] rfl rfl, m.comp0 (m2.mono (fun i h => by simp [cov, Ch.ro] at h))⟩, stab [0, 1, 2, 3, 4, 5, 6, 7, 8, 9, 10, 11, 12] (by kernel_rfl) ⟨rfl, rfl, rfl, rfl, rfl, rfl, rfl, rfl, rfl, rfl, rfl, rfl, rfl, trivial⟩⟩
       trivial) ?_
     exact all_nil
    ·rintro ⟨a44, c45⟩ ρ σ46 hJ hoff hrel
     have e0 := look_off (N := 96) (hoff 0 rfl) rfl
     have e4 := look_off (N := 96) (hoff 4 rfl) rfl
     have e5 := look_off (N := 96) (hoff 5 rfl) rfl
     have e46 := hrel 0 rfl 46 rfl
     have e59 := hrel 13 rfl 59 rfl
     obtain ⟨H, -⟩ := (show Hp S0 σ0 σ46 [Ch.own n0 n0 (Sl a44 r41 c45) r41, Ch.bx Cd Ce Cf [(Sl Bu Bt.1 Bv), (Sl Bw Bt.2.1 By), (I Bt.2.2.1), (Sl Bz Bt.2.2.2.1 Ca), (I Bt.2.2.2.2.1), (Sl Cb Bt.2.2.2.2.2.1 Cc), (I (w64 (Bt.2.2.2.2.2.2 + 1)))] Cg Ci, Ch.ro 0 (Sl a25 x20.2.1 c26) x20.2.1, Ch.bx n0 b10 0 [(I x3.1), (I x3.2.1), (I x3.2.2.1), (I x3.2.2.2)] [] [], Ch.ro 0 (Sl Bu Bt.1 Bv) Bt.1, Ch.ro 0 (Sl Bw Bt.2.1 By) Bt.2.1, Ch.ro 0 (Sl Bz Bt.2.2.2.1 Ca) Bt.2.2.2.1, Ch.ro 0 (Sl Cb Bt.2.2.2.2.2.1 Cc) Bt.2.2.2.2.2.1] ∧ Md (cov []) σ37 σ46 from hJ)
     clear hJ Hs
     rw [fr_lookL (L := [(0, (pt Ce Cf)), (4, (pt b10 0)), (5, (I r32)), (46, (pt Ce Cf)), (59, (Sl a44 r41 c45))]) ⟨e0, e4, e5, e46, e59, trivial⟩]
     clear hoff hrel e0 e4 e5 e46 e59
     refine st (v := (pt Ce Cf)) (rv_nilCheck rfl) (st (v := (pt Ce (Cf + 5))) (rv_fieldAddr (off := 5) (ft := 25) Tryz.underlying51 rfl ti25 rfl rfl) ?_)
     refine st_exS (ex_store_box (k := 5) (cs := [(Sl Bu Bt.1 Bv), (Sl Bw Bt.2.1 By), (I Bt.2.2.1), (Sl Bz Bt.2.2.2.1 Ca), (I Bt.2.2.2.2.1), (Sl Cb Bt.2.2.2.2.2.1 Cc), (I (w64 (Bt.2.2.2.2.2.2 + 1)))]) (vs := [(Sl a44 r41 c45)]) (cs' := [(Sl Bu Bt.1 Bv), (Sl Bw Bt.2.1 By), (I Bt.2.2.1), (Sl Bz Bt.2.2.2.1 Ca), (I Bt.2.2.2.2.1), (Sl a44 r41 c45), (I (w64 (Bt.2.2.2.2.2.2 + 1)))]) H (i := 1) rfl ti25 rfl rfl rfl rfl rfl (Nat.le_of_ble_eq_true rfl) (by simp [plain]) rfl) wn ?_
     rintro σ47 ⟨H, -⟩
     replace H : Hp S0 σ0 σ47 [Ch.bx Cd Ce Cf [(Sl Bu Bt.1 Bv), (Sl Bw Bt.2.1 By), (I Bt.2.2.1), (Sl Bz Bt.2.2.2.1 Ca), (I Bt.2.2.2.2.1), (Sl a44 r41 c45), (I (w64 (Bt.2.2.2.2.2.2 + 1)))] Cg Ci, Ch.own n0 n0 (Sl a44 r41 c45) r41, Ch.bx n0 b10 0 [(I x3.1), (I x3.2.1), (I x3.2.2.1), (I x3.2.2.2)] [] [], Ch.ro 0 (Sl Bu Bt.1 Bv) Bt.1, Ch.ro 0 (Sl Bw Bt.2.1 By) Bt.2.1, Ch.ro 0 (Sl Bz Bt.2.2.2.1 Ca) Bt.2.2.2.1] := H.sel' [0, 1, 3, 4, 5, 6] rfl rfl
     refine w_end (q_then (c_seq (c_seq (rg (sm (I r32) rfl (st (v := (pt b10 1)) (rv_fieldAddr (off := 1) (ft := 3) Tryz.underlying105 rfl ti3 rfl rfl) ?_))))))
     have hc48 := H.cell (u := (I x3.2.1)) (o' := 1) 2 1 rfl rfl rfl
     refine st (v := (I x3.2.1)) (rv_load1 Tryz.underlying3 rfl rfl hc48) (st (v := (B (decide (r32 ≤ x3.2.1)))) (rv_leq (a := r32) (b := x3.2.1) rfl rfl) (w_end (q_then ?_)))
     refine cd_cond (decide (r32 ≤ x3.2.1)) rfl (fun hb49 => ?_) (fun hb49 => ?_)
     ·replace h := bif_t hb49 h
      refine c_seq (rg (sm (pt Ce Cf) rfl (st (v := (pt b10 2)) (rv_fieldAddr (off := 2) (ft := 3) Tryz.underlying105 rfl ti3 rfl rfl) ?_)))
      have hc50 := H.cell (u := (I x3.2.2.1)) (o' := 2) 2 2 rfl rfl rfl
      refine st (v := (I x3.2.2.1)) (rv_load1 Tryz.underlying3 rfl rfl hc50) ?_
      obtain ⟨σ51, hw52, H, -⟩ := H.pub 1 rfl (Nat.le_refl _)
      rw [← hw52]; clear hw52
      replace H := H.roLow 0 0 rfl (Nat.zero_le _)
      revert h; refine br fun r53 hx54 h => ?_
      have hc55 := ih (Cd := Cd) (Ce := Ce) (Cf := Cf) (Cg := Cg) (Ci := Ci) (Bu := Bu) (Bv := Bv) (Bw := Bw) (By := By) (Bz := Bz) (Ca := Ca) (Cb := a44) (Cc := c45) hx54
      refine st_call (cx_call hc55 (ent_f hc55.fn rfl) hn0 (H.sel' [2, 4, 5, 6, 0, 0, 1, 3, 4, 5, 6] rfl rfl : Hp S0 σ0 _ ([_, _, _, _, _] ++ _))) wn ?_
      rintro _ σ64 ⟨_, ⟨a56, c57, a58, c59, a60, c61, a62, c63, rfl, rfl⟩, H, -⟩
      replace H : Hp _ _ _ [_, _, _, _, _, _, _, _, _, _, _] := H
      replace H : Hp S0 σ0 σ64 [Ch.bx Cd Ce Cf [(Sl a56 r53.1 c57), (Sl a58 r53.2.1 c59), (I r53.2.2.1), (Sl a60 r53.2.2.2.1 c61), (I r53.2.2.2.2.1), (Sl a62 r53.2.2.2.2.2.1 c63), (I r53.2.2.2.2.2.2)] Cg Ci, Ch.ro 0 (Sl a56 r53.1 c57) r53.1, Ch.ro 0 (Sl a58 r53.2.1 c59) r53.2.1, Ch.ro 0 (Sl a60 r53.2.2.2.1 c61) r53.2.2.2.1, Ch.ro 0 (Sl a62 r53.2.2.2.2.2.1 c63) r53.2.2.2.2.2.1, Ch.bx n0 b10 0 [(I x3.1), (I x3.2.1), (I x3.2.2.1), (I x3.2.2.2)] [] []] := H.sel' [0, 1, 2, 3, 4, 7] rfl rfl
      refine w_end (q_then (c_seq (c_seq ?_)))
      revert h; refine br fun r65 hx66 h => ?_
      have hc67 := c_spec_seek_reach (Cd := Cd) (Ce := Ce) (Cf := Cf) (Cg := Cg) (Ci := Ci) (Bu := a56) (Bv := c57) (Bw := a58) (By := c59) (Bz := a60) (Ca := c61) (Cb := a62) (Cc := c63) hx66
      have hc68 := H.cell (u := (I x3.2.1)) (o' := 1) 5 1 rfl rfl rfl
      have Hs := H
      refine rg2 (σ := σ64) (Nm := Unit) 6 [2] [[false], [true]] [[(0, 0), (1, 1)], [(0, 0)], [(0, 1)], [(1, 1)], [(0, 0), (1, 1)], [(0, 0), (1, 1)]] 1 [fun _ => fun σm => Hp S0 σ0 σm [Ch.bx Cd Ce Cf [(Sl a56 r53.1 c57), (Sl a58 r53.2.1 c59), (I r53.2.2.1), (Sl a60 r53.2.2.2.1 c61), (I r53.2.2.2.2.1), (Sl a62 r53.2.2.2.2.2.1 c63), (I r53.2.2.2.2.2.2)] Cg Ci, Ch.ro 0 (Sl a56 r53.1 c57) r53.1, Ch.ro 0 (Sl a58 r53.2.1 c59) r53.2.1, Ch.ro 0 (Sl a60 r53.2.2.2.1 c61) r53.2.2.2.1, Ch.ro 0 (Sl a62 r53.2.2.2.2.2.1 c63) r53.2.2.2.2.2.1, Ch.bx n0 b10 0 [(I x3.1), (I x3.2.1), (I x3.2.2.1), (I x3.2.2.2)] [] []] ∧ Md (cov []) σ64 σm, fun _ => fun σm => Hp S0 σ0 σm [Ch.bx Cd Ce Cf [(Sl a56 r53.1 c57), (Sl a58 r53.2.1 c59), (I r53.2.2.1), (Sl a60 r53.2.2.2.1 c61), (I r53.2.2.2.2.1), (Sl a62 r53.2.2.2.2.2.1 c63), (I r53.2.2.2.2.2.2)] Cg Ci, Ch.ro 0 (Sl a56 r53.1 c57) r53.1, Ch.ro 0 (Sl a58 r53.2.1 c59) r53.2.1, Ch.ro 0 (Sl a60 r53.2.2.2.1 c61) r53.2.2.2.1, Ch.ro 0 (Sl a62 r53.2.2.2.2.2.1 c63) r53.2.2.2.2.2.1, Ch.bx n0 b10 0 [(I x3.1), (I x3.2.1), (I x3.2.2.1), (I x3.2.2.2)] [] []] ∧ Md (fun i => (cov []) i ∨ (cov [Ch.bx Cd Ce Cf [(Sl a56 r53.1 c57), (Sl a58 r53.2.1 c59), (I r53.2.2.1), (Sl a60 r53.2.2.2.1 c61), (I r53.2.2.2.2.1), (Sl a62 r53.2.2.2.2.2.1 c63), (I r53.2.2.2.2.2.2)] Cg Ci, Ch.ro 0 (Sl a56 r53.1 c57) r53.1, Ch.ro 0 (Sl a58 r53.2.1 c59) r53.2.1, Ch.ro 0 (Sl a60 r53.2.2.2.1 c61) r53.2.2.2.1, Ch.ro 0 (Sl a62 r53.2.2.2.2.2.1 c63) r53.2.2.2.2.2.1]) i) σ64 σm] [fun _ => (I r32), fun _ => (pt Ce Cf), fun _ => (I r65), fun _ => (I (w64 (r32 + r65))), fun _ => (pt b10 1), fun _ => (I x3.2.1)] () (by kernel_rfl) (by kernel_rfl) ?_ ?_ ?_
      ·intro σm m0
       exact ⟨H.grow (m0.mono fun _ h => h.elim), m0⟩
      ·refine ac rfl (by
         intro k _nm ρ σm hJ hoff hdep
         have e5 := look_off (N := 96) (hoff 5 rfl) rfl
         exact dp_v (v := (I r32)) wn (rv_move e5) rfl hJ) ?_
       refine ac rfl (by
         intro k _nm ρ σm hJ hoff hdep
         have e0 := look_off (N := 96) (hoff 0 rfl) rfl
         exact dp_v (v := (pt Ce Cf)) wn (rv_move e0) rfl hJ) ?_
       refine all_cons (by
         refine ⟨?_, ?_⟩
         ·intro _nm ρ σm hJ hoff hdep
          have e71 : look 96 ρ 71 = (pt Ce Cf) := hdep 1 rfl rfl 71 rfl
          obtain ⟨H, m⟩ := id hJ
          refine dp_cx wn (cx_call hc67 (ent_f hc67.fn (by show [look 96 ρ 71] = _; rw [e71])) hn0 (H.sel' [0, 1, 2, 3, 4, 1, 2, 3, 4, 5] rfl rfl : Hp S0 σ0 _ ([_, _, _, _, _] ++ _))) ?_
          rintro _ σq ⟨_, ⟨rfl, rfl⟩, H2, m2⟩
          exact ⟨_, (), rfl, rfl, ⟨H2.sel' [0, 1, 2, 3, 4, 5] rfl rfl, m.comp m2⟩, stab [0, 1, 4, 5] (by kernel_rfl) ⟨rfl, rfl, rfl, rfl, trivial⟩⟩
         trivial) ?_
       refine ac rfl (by
         intro k _nm ρ σm hJ hoff hdep
         have e70 := hdep 0 rfl rfl 70 rfl
         have e72 := hdep 2 rfl rfl 72 rfl
         exact dp_v (v := (I (w64 (r32 + r65)))) wn (rv_add (a := r32) (b := r65) e70 e72) rfl hJ) ?_
       refine ac rfl (by
         intro k _nm ρ σm hJ hoff hdep
         have e4 := look_off (N := 96) (hoff 4 rfl) rfl
         exact dp_v (v := (pt b10 1)) wn (rv_fieldAddr (off := 1) (ft := 3) Tryz.underlying105 rfl ti3 rfl e4) rfl hJ) ?_
       refine all_cons (by
         refine ⟨?_, ?_⟩
         ·intro _nm ρ σm hJ hoff hdep
          have e74 := hdep 4 rfl rfl 74 rfl
          obtain ⟨H, m⟩ := id hJ
          have hc68 := H.cell (u := (I x3.2.1)) (o' := 1) 5 1 rfl rfl rfl
          exact dp_v (v := (I x3.2.1)) wn (rv_load1 Tryz.underlying3 rfl e74 hc68) rfl hJ
         refine ⟨?_, ?_⟩
         ·intro _nm ρ σm hJ hoff hdep
          have e74 := hdep 4 rfl rfl 74 rfl
          obtain ⟨H, m⟩ := id hJ
          have hc68 := H.cell (u := (I x3.2.1)) (o' := 1) 5 1 rfl rfl rfl
          exact dp_v (v := (I x3.2.1)) wn (rv_load1 Tryz.underlying3 rfl e74 hc68) rfl hJ
         trivial) ?_
       exact all_nil
      ·intro _nm ρ σ69 hJ hoff hrel
       have e0 := look_off (N := 96) (hoff 0 rfl) rfl
       have e4 := look_off (N := 96) (hoff 4 rfl) rfl
       have e73 := hrel 3 rfl 73 rfl
       have e75 := hrel 5 rfl 75 rfl
       obtain ⟨H, -⟩ := (show Hp S0 σ0 σ69 [Ch.bx Cd Ce Cf [(Sl a56 r53.1 c57), (Sl a58 r53.2.1 c59), (I r53.2.2.1), (Sl a60 r53.2.2.2.1 c61), (I r53.2.2.2.2.1), (Sl a62 r53.2.2.2.2.2.1 c63), (I r53.2.2.2.2.2.2)] Cg Ci, Ch.ro 0 (Sl a56 r53.1 c57) r53.1, Ch.ro 0 (Sl a58 r53.2.1 c59) r53.2.1, Ch.ro 0 (Sl a60 r53.2.2.2.1 c61) r53.2.2.2.1, Ch.ro 0 (Sl a62 r53.2.2.2.2.2.1 c63) r53.2.2.2.2.2.1, Ch.bx n0 b10 0 [(I x3.1), (I x3.2.1), (I x3.2.2.1), (I x3.2.2.2)] [] []] ∧ Md (fun i => (cov []) i ∨ (cov [Ch.bx Cd Ce Cf [(Sl a56 r53.1 c57), (Sl a58 r53.2.1 c59), (I r53.2.2.1), (Sl a60 r53.2.2.2.1 c61), (I r53.2.2.2.2.1), (Sl a62 r53.2.2.2.2.2.1 c63), (I r53.2.2.2.2.2.2)] Cg Ci, Ch.ro 0 (Sl a56 r53.1 c57) r53.1, Ch.ro 0 (Sl a58 r53.2.1 c59) r53.2.1, Ch.ro 0 (Sl a60 r53.2.2.2.1 c61) r53.2.2.2.1, Ch.ro 0 (Sl a62 r53.2.2.2.2.2.1 c63) r53.2.2.2.2.2.1]) i) σ64 σ69 from hJ)
       clear hJ Hs
       rw [fr_lookL (L := [(0, (pt Ce Cf)), (4, (pt b10 0)), (73, (I (w64 (r32 + r65)))), (75, (I x3.2.1))]) ⟨e0, e4, e73, e75, trivial⟩]
       clear hoff hrel e0 e4 e73 e75
       refine st (v := (B (decide (x3.2.1 ≤ (w64 (r32 + r65)))))) (rv_geq (a := (w64 (r32 + r65))) (b := x3.2.1) rfl rfl) (w_end (q_then ?_))
       refine cd_cond (decide (x3.2.1 ≤ (w64 (r32 + r65)))) rfl (fun hb70 => ?_) (fun hb70 => ?_)
       ·replace h := bif_t hb70 h
        refine rg (sm (pt Ce Cf) rfl (st (v := (pt b10 3)) (rv_fieldAddr (off := 3) (ft := 3) Tryz.underlying105 rfl ti3 rfl rfl) ?_))
        have hc71 := H.cell (u := (I x3.2.2.2)) (o' := 3) 5 3 rfl rfl rfl
        refine st (v := (I x3.2.2.2)) (rv_load1 Tryz.underlying3 rfl rfl hc71) ?_
        revert h; refine br fun r72 hx73 h => ?_
        have hc74 := ih (Cd := Cd) (Ce := Ce) (Cf := Cf) (Cg := Cg) (Ci := Ci) (Bu := a56) (Bv := c57) (Bw := a58) (By := c59) (Bz := a60) (Ca := c61) (Cb := a62) (Cc := c63) hx73
        refine st_call (cx_call hc74 (ent_f hc74.fn rfl) hn0 (H.sel' [0, 1, 2, 3, 4, 1, 2, 3, 4, 5] rfl rfl : Hp S0 σ0 _ ([_, _, _, _, _] ++ _))) wn ?_
        rintro _ σ83 ⟨_, ⟨a75, c76, a77, c78, a79, c80, a81, c82, rfl, rfl⟩, H, -⟩
        replace H : Hp _ _ _ [_, _, _, _, _, _, _, _, _, _] := H
        replace H : Hp S0 σ0 σ83 [Ch.bx Cd Ce Cf [(Sl a75 r72.1 c76), (Sl a77 r72.2.1 c78), (I r72.2.2.1), (Sl a79 r72.2.2.2.1 c80), (I r72.2.2.2.2.1), (Sl a81 r72.2.2.2.2.2.1 c82), (I r72.2.2.2.2.2.2)] Cg Ci, Ch.ro 0 (Sl a75 r72.1 c76) r72.1, Ch.ro 0 (Sl a77 r72.2.1 c78) r72.2.1, Ch.ro 0 (Sl a79 r72.2.2.2.1 c80) r72.2.2.2.1, Ch.ro 0 (Sl a81 r72.2.2.2.2.2.1 c82) r72.2.2.2.2.2.1] := H.sel' [0, 1, 2, 3, 4] rfl rfl
        refine w_end (q_then (c_ret (q_then_r ?_)))
        obtain rfl := sj h
        exact fin_ret (v := (.tuple #[])) (results_ok Tryz.results49 res_nil rfl) ⟨a75, c76, a77, c78, a79, c80, a81, c82, rfl, rfl⟩ (H.sel' [0, 1, 2, 3, 4] rfl rfl)
       ·replace h := bif_f hb70 h
        refine c_skip (q_then (c_ret (q_then_r ?_)))
        obtain rfl := sj h
        exact fin_ret (v := (.tuple #[])) (results_ok Tryz.results49 res_nil rfl) ⟨a56, c57, a58, c59, a60, c61, a62, c63, rfl, rfl⟩ (H.sel' [0, 1, 2, 3, 4] rfl rfl)
     ·replace h := bif_f hb49 h
      refine c_skip (q_then (c_seq (rg (sm (pt Ce Cf) rfl (st (v := (pt b10 3)) (rv_fieldAddr (off := 3) (ft := 3) Tryz.underlying105 rfl ti3 rfl rfl) ?_)))))
      have hc84 := H.cell (u := (I x3.2.2.2)) (o' := 3) 2 3 rfl rfl rfl
      refine st (v := (I x3.2.2.2)) (rv_load1 Tryz.underlying3 rfl rfl hc84) ?_
      obtain ⟨σ85, hw86, H, -⟩ := H.pub 1 rfl (Nat.le_refl _)
      rw [← hw86]; clear hw86
      replace H := H.roLow 0 0 rfl (Nat.zero_le _)
      revert h; refine br fun r87 hx88 h => ?_
      have hc89 := ih (Cd := Cd) (Ce := Ce) (Cf := Cf) (Cg := Cg) (Ci := Ci) (Bu := Bu) (Bv := Bv) (Bw := Bw) (By := By) (Bz := Bz) (Ca := Ca) (Cb := a44) (Cc := c45) hx88
      refine st_call (cx_call hc89 (ent_f hc89.fn rfl) hn0 (H.sel' [2, 4, 5, 6, 0, 0, 1, 3, 4, 5, 6] rfl rfl : Hp S0 σ0 _ ([_, _, _, _, _] ++ _))) wn ?_
      rintro _ σ98 ⟨_, ⟨a90, c91, a92, c93, a94, c95, a96, c97, rfl, rfl⟩, H, -⟩
      replace H : Hp _ _ _ [_, _, _, _, _, _, _, _, _, _, _] := H
      replace H : Hp S0 σ0 σ98 [Ch.bx Cd Ce Cf [(Sl a90 r87.1 c91), (Sl a92 r87.2.1 c93), (I r87.2.2.1), (Sl a94 r87.2.2.2.1 c95), (I r87.2.2.2.2.1), (Sl a96 r87.2.2.2.2.2.1 c97), (I r87.2.2.2.2.2.2)] Cg Ci, Ch.ro 0 (Sl a90 r87.1 c91) r87.1, Ch.ro 0 (Sl a92 r87.2.1 c93) r87.2.1, Ch.ro 0 (Sl a94 r87.2.2.2.1 c95) r87.2.2.2.1, Ch.ro 0 (Sl a96 r87.2.2.2.2.2.1 c97) r87.2.2.2.2.2.1, Ch.bx n0 b10 0 [(I x3.1), (I x3.2.1), (I x3.2.2.1), (I x3.2.2.2)] [] []] := H.sel' [0, 1, 2, 3, 4, 7] rfl rfl
      refine w_end (q_then (c_seq ?_))
      revert h; refine br fun r99 hx100 h => ?_
      have hc101 := c_spec_seek_reach (Cd := Cd) (Ce := Ce) (Cf := Cf) (Cg := Cg) (Ci := Ci) (Bu := a90) (Bv := c91) (Bw := a92) (By := c93) (Bz := a94) (Ca := c95) (Cb := a96) (Cc := c97) hx100
      have hc102 := H.cell (u := (I x3.2.1)) (o' := 1) 5 1 rfl rfl rfl
      have Hs := H
      refine rg2 (σ := σ98) (Nm := Unit) 6 [2] [[false], [true]] [[(0, 0), (1, 1)], [(0, 0)], [(0, 1)], [(1, 1)], [(0, 0), (1, 1)], [(0, 0), (1, 1)]] 1 [fun _ => fun σm => Hp S0 σ0 σm [Ch.bx Cd Ce Cf [(Sl a90 r87.1 c91), (Sl a92 r87.2.1 c93), (I r87.2.2.1), (Sl a94 r87.2.2.2.1 c95), (I r87.2.2.2.2.1), (Sl a96 r87.2.2.2.2.2.1 c97), (I r87.2.2.2.2.2.2)] Cg Ci, Ch.ro 0 (Sl a90 r87.1 c91) r87.1, Ch.ro 0 (Sl a92 r87.2.1 c93) r87.2.1, Ch.ro 0 (Sl a94 r87.2.2.2.1 c95) r87.2.2.2.1, Ch.ro 0 (Sl a96 r87.2.2.2.2.2.1 c97) r87.2.2.2.2.2.1, Ch.bx n0 b10 0 [(I x3.1), (I x3.2.1), (I x3.2.2.1), (I x3.2.2.2)] [] []] ∧ Md (cov []) σ98 σm, fun _ => fun σm => Hp S0 σ0 σm [Ch.bx Cd Ce Cf [(Sl a90 r87.1 c91), (Sl a92 r87.2.1 c93), (I r87.2.2.1), (Sl a94 r87.2.2.2.1 c95), (I r87.2.2.2.2.1), (Sl a96 r87.2.2.2.2.2.1 c97), (I r87.2.2.2.2.2.2)] Cg Ci, Ch.ro 0 (Sl a90 r87.1 c91) r87.1, Ch.ro 0 (Sl a92 r87.2.1 c93) r87.2.1, Ch.ro 0 (Sl a94 r87.2.2.2.1 c95) r87.2.2.2.1, Ch.ro 0 (Sl a96 r87.2.2.2.2.2.1 c97) r87.2.2.2.2.2.1, Ch.bx n0 b10 0 [(I x3.1), (I x3.2.1), (I x3.2.2.1), (I x3.2.2.2)] [] []] ∧ Md (fun i => (cov []) i ∨ (cov [Ch.bx Cd Ce Cf [(Sl a90 r87.1 c91), (Sl a92 r87.2.1 c93), (I r87.2.2.1), (Sl a94 r87.2.2.2.1 c95), (I r87.2.2.2.2.1), (Sl a96 r87.2.2.2.2.2.1 c97), (I r87.2.2.2.2.2.2)] Cg Ci, Ch.ro 0 (Sl a90 r87.1 c91) r87.1, Ch.ro 0 (Sl a92 r87.2.1 c93) r87.2.1, Ch.ro 0 (Sl a94 r87.2.2.2.1 c95) r87.2.2.2.1, Ch.ro 0 (Sl a96 r87.2.2.2.2.2.1 c97) r87.2.2.2.2.2.1]) i) σ98 σm] [fun _ => (I r32), fun _ => (pt Ce Cf), fun _ => (I r99), fun _ => (I (w64 (r32 - r99))), fun _ => (pt b10 1), fun _ => (I x3.2.1)] () (by kernel_rfl) (by kernel_rfl) ?_ ?_ ?_
      ·intro σm m0
       exact ⟨H.grow (m0.mono fun _ h => h.elim), m0⟩
      ·refine ac rfl (by
         intro k _nm ρ σm hJ hoff hdep
         have e5 := look_off (N := 96) (hoff 5 rfl) rfl
         exact dp_v (v := (I r32)) wn (rv_move e5) rfl hJ) ?_
       refine ac rfl (by
         intro k _nm ρ σm hJ hoff hdep
         have e0 := look_off (N := 96) (hoff 0 rfl) rfl
         exact dp_v (v := (pt Ce Cf)) wn (rv_move e0) rfl hJ) ?_
       refine all_cons (by
         refine ⟨?_, ?_⟩
         ·intro _nm ρ σm hJ hoff hdep
          have e86 : look 96 ρ 86 = (pt Ce Cf) := hdep 1 rfl rfl 86 rfl
          obtain ⟨H, m⟩ := id hJ
          refine dp_cx wn (cx_call hc101 (ent_f hc101.fn (by show [look 96 ρ 86] = _; rw [e86])) hn0 (H.sel' [0, 1, 2, 3, 4, 1, 2, 3, 4, 5] rfl rfl : Hp S0 σ0 _ ([_, _, _, _, _] ++ _))) ?_
          rintro _ σq ⟨_, ⟨rfl, rfl⟩, H2, m2⟩
          exact ⟨_, (), rfl, rfl, ⟨H2.sel' [0, 1, 2, 3, 4, 5] rfl rfl, m.comp m2⟩, stab [0, 1, 4, 5] (by kernel_rfl) ⟨rfl, rfl, rfl, rfl, trivial⟩⟩
         trivial) ?_
       refine ac rfl (by
         intro k _nm ρ σm hJ hoff hdep
         have e85 := hdep 0 rfl rfl 85 rfl
         have e87 := hdep 2 rfl rfl 87 rfl
         exact dp_v (v := (I (w64 (r32 - r99)))) wn (rv_sub (a := r32) (b := r99) e85 e87) rfl hJ) ?_
       refine ac rfl (by
         intro k _nm ρ σm hJ hoff hdep
         have e4 := look_off (N := 96) (hoff 4 rfl) rfl
         exact dp_v (v := (pt b10 1)) wn (rv_fieldAddr (off := 1) (ft := 3) Tryz.underlying105 rfl ti3 rfl e4) rfl hJ) ?_
       refine all_cons (by
         refine ⟨?_, ?_⟩
         ·intro _nm ρ σm hJ hoff hdep
          have e89 := hdep 4 rfl rfl 89 rfl
          obtain ⟨H, m⟩ := id hJ
          have hc102 := H.cell (u := (I x3.2.1)) (o' := 1) 5 1 rfl rfl rfl
          exact dp_v (v := (I x3.2.1)) wn (rv_load1 Tryz.underlying3 rfl e89 hc102) rfl hJ
         refine ⟨?_, ?_⟩
         ·intro _nm ρ σm hJ hoff hdep
          have e89 := hdep 4 rfl rfl 89 rfl
          obtain ⟨H, m⟩ := id hJ
          have hc102 := H.cell (u := (I x3.2.1)) (o' := 1) 5 1 rfl rfl rfl
          exact dp_v (v := (I x3.2.1)) wn (rv_load1 Tryz.underlying3 rfl e89 hc102) rfl hJ
         trivial) ?_
       exact all_nil
      ·intro _nm ρ σ103 hJ hoff hrel
       have e0 := look_off (N := 96) (hoff 0 rfl) rfl
       have e4 := look_off (N := 96) (hoff 4 rfl) rfl
       have e88 := hrel 3 rfl 88 rfl
       have e90 := hrel 5 rfl 90 rfl
       obtain ⟨H, -⟩ := (show Hp S0 σ0 σ103 [Ch.bx Cd Ce Cf [(Sl a90 r87.1 c91), (Sl a92 r87.2.1 c93), (I r87.2.2.1), (Sl a94 r87.2.2.2.1 c95), (I r87.2.2.2.2.1), (Sl a96 r87.2.2.2.2.2.1 c97), (I r87.2.2.2.2.2.2)] Cg Ci, Ch.ro 0 (Sl a90 r87.1 c91) r87.1, Ch.ro 0 (Sl a92 r87.2.1 c93) r87.2.1, Ch.ro 0 (Sl a94 r87.2.2.2.1 c95) r87.2.2.2.1, Ch.ro 0 (Sl a96 r87.2.2.2.2.2.1 c97) r87.2.2.2.2.2.1, Ch.bx n0 b10 0 [(I x3.1), (I x3.2.1), (I x3.2.2.1), (I x3.2.2.2)] [] []] ∧ Md (fun i => (cov []) i ∨ (cov [Ch.bx Cd Ce Cf [(Sl a90 r87.1 c91), (Sl a92 r87.2.1 c93), (I r87.2.2.1), (Sl a94 r87.2.2.2.1 c95), (I r87.2.2.2.2.1), (Sl a96 r87.2.2.2.2.2.1 c97), (I r87.2.2.2.2.2.2)] Cg Ci, Ch.ro 0 (Sl a90 r87.1 c91) r87.1, Ch.ro 0 (Sl a92 r87.2.1 c93) r87.2.1, Ch.ro 0 (Sl a94 r87.2.2.2.1 c95) r87.2.2.2.1, Ch.ro 0 (Sl a96 r87.2.2.2.2.2.1 c97) r87.2.2.2.2.2.1]) i) σ98 σ103 from hJ)
       clear hJ Hs
       rw [fr_lookL (L := [(0, (pt Ce Cf)), (4, (pt b10 0)), (88, (I (w64 (r32 - r99)))), (90, (I x3.2.1))]) ⟨e0, e4, e88, e90, trivial⟩]
       clear hoff hrel e0 e4 e88 e90
       refine st (v := (B (decide ((w64 (r32 - r99)) ≤ x3.2.1)))) (rv_leq (a := (w64 (r32 - r99))) (b := x3.2.1) rfl rfl) (w_end (q_then ?_))
       refine cd_cond (decide ((w64 (r32 - r99)) ≤ x3.2.1)) rfl (fun hb104 => ?_) (fun hb104 => ?_)
       ·replace h := bif_t hb104 h
        refine rg (sm (pt Ce Cf) rfl (st (v := (pt b10 2)) (rv_fieldAddr (off := 2) (ft := 3) Tryz.underlying105 rfl ti3 rfl rfl) ?_))
        have hc105 := H.cell (u := (I x3.2.2.1)) (o' := 2) 5 2 rfl rfl rfl
        refine st (v := (I x3.2.2.1)) (rv_load1 Tryz.underlying3 rfl rfl hc105) ?_
        revert h; refine br fun r106 hx107 h => ?_
        have hc108 := ih (Cd := Cd) (Ce := Ce) (Cf := Cf) (Cg := Cg) (Ci := Ci) (Bu := a90) (Bv := c91) (Bw := a92) (By := c93) (Bz := a94) (Ca := c95) (Cb := a96) (Cc := c97) hx107
        refine st_call (cx_call hc108 (ent_f hc108.fn rfl) hn0 (H.sel' [0, 1, 2, 3, 4, 1, 2, 3, 4, 5] rfl rfl : Hp S0 σ0 _ ([_, _, _, _, _] ++ _))) wn ?_
        rintro _ σ117 ⟨_, ⟨a109, c110, a111, c112, a113, c114, a115, c116, rfl, rfl⟩, H, -⟩
        replace H : Hp _ _ _ [_, _, _, _, _, _, _, _, _, _] := H
        replace H : Hp S0 σ0 σ117 [Ch.bx Cd Ce Cf [(Sl a109 r106.1 c110), (Sl a111 r106.2.1 c112), (I r106.2.2.1), (Sl a113 r106.2.2.2.1 c114), (I r106.2.2.2.2.1), (Sl a115 r106.2.2.2.2.2.1 c116), (I r106.2.2.2.2.2.2)] Cg Ci, Ch.ro 0 (Sl a109 r106.1 c110) r106.1, Ch.ro 0 (Sl a111 r106.2.1 c112) r106.2.1, Ch.ro 0 (Sl a113 r106.2.2.2.1 c114) r106.2.2.2.1, Ch.ro 0 (Sl a115 r106.2.2.2.2.2.1 c116) r106.2.2.2.2.2.1] := H.sel' [0, 1, 2, 3, 4] rfl rfl
        refine w_end ?_
        obtain rfl := sj h
        exact fin_end (v := (.tuple #[])) (results_ok Tryz.results49 res_nil rfl) ⟨a109, c110, a111, c112, a113, c114, a115, c116, rfl, rfl⟩ (H.sel' [0, 1, 2, 3, 4] rfl rfl)
       ·replace h := bif_f hb104 h
        refine c_skip ?_
        obtain rfl := sj h
        exact fin_end (v := (.tuple #[])) (results_ok Tryz.results49 res_nil rfl) ⟨a90, c91, a92, c93, a94, c95, a96, c97, rfl, rfl⟩ (H.sel' [0, 1, 2, 3, 4] rfl rfl)

theorem c_spec_search {Ak : List (Int × (List Int) × Int)} {Ax : Int} {Ay : List Int} {Ck : Int} {Am : Option Addr} {Ao : Nat} {Az : Option Addr} {Ba : Nat} {r : ((List (Int × Int × Int × Int)) × (List (Int × (List Int) × Int)) × Int × (List Int) × Int × (List (Int × Int)) × Int)} (h : M.spec_search Ak Ax Ay Ck = some r) :
    Cal2 Tryz.prog 27 [(Sl Am Ak Ao), (I Ax), (Sl Az Ay Ba), (I Ck)] [Ch.ro 0 (Sl Am Ak Ao) Ak, Ch.ro 0 (Sl Az Ay Ba) Ay] (fun n0 v L => ∃ (bz1 : Nat), ∃ (az2 : Option Addr), ∃ (cz3 : Nat), ∃ (az4 : Option Addr), ∃ (cz5 : Nat), ∃ (az6 : Option Addr), ∃ (cz7 : Nat), ∃ (az8 : Option Addr), ∃ (cz9 : Nat), v = (pt bz1 0) ∧ L = [Ch.bx n0 bz1 0 [(Sl az2 r.1 cz3), (Sl az4 r.2.1 cz5), (I r.2.2.1), (Sl az6 r.2.2.2.1 cz7), (I r.2.2.2.2.1), (Sl az8 r.2.2.2.2.2.1 cz9), (I r.2.2.2.2.2.2)] [] [], Ch.ro 0 (Sl az2 r.1 cz3) r.1, Ch.ro 0 (Sl az4 r.2.1 cz5) r.2.1, Ch.ro 0 (Sl az6 r.2.2.2.1 cz7) r.2.2.2.1, Ch.ro 0 (Sl az8 r.2.2.2.2.2.1 cz9) r.2.2.2.2.2.1]) := by
 refine cal2 (n := 26) Tryz.func27 rfl rfl rfl rfl ?_
 intro S0 σ0 n0 hn0 H
 unfold M.spec_search at h
 refine c_seq (rg (sa (.pointer none) rfl (w_end (q_then (c_seq (rg ?_))))))
 refine st_ex (ex_buildSlice (el := n0) (xs := ([] : List (Int × Int × Int × Int))) (ps := []) (cs := []) H hn0 Tryz.underlying49 ti105 rfl rfl (by kernel_rfl) (.nil) rfl) wn ?_
 rintro _ σ2 ⟨b1, rfl, H, -⟩
 refine sm (Sl Am Ak Ao) rfl (sm (I Ax) rfl ?_)
 replace H := H.ownLow 0 0 0 rfl (Nat.zero_le _) (Nat.zero_le _)
 revert h; refine br fun r3 hx4 h => ?_
 have hc5 := c_spec_grow 100 (Bm := (some ⟨b1, 0, none⟩)) (Bn := 0) (Bo := Am) (Bp := Ao) hx4
 refine st_call (cx_call hc5 (ent_f hc5.fn rfl) hn0 (H.sel' [0, 1, 1, 2] rfl rfl : Hp S0 σ0 _ ([_, _] ++ _))) wn ?_
 rintro _ σ8 ⟨_, ⟨a6, c7, rfl, rfl⟩, H, -⟩
 replace H : Hp _ _ _ [_, _, _] := H
 refine sm (Sl Am Ak Ao) rfl (sm (I Ax) rfl (sm (Sl Az Ay Ba) rfl (sm (I Ck) rfl ?_)))
 refine st (v := (.agg #[(Sl a6 r3 c7), (Sl Am Ak Ao), (I Ax), (Sl Az Ay Ba), (I Ck), (.slice none 0 0), (I 0)])) (rv_build (ps := [(0, (Sl a6 r3 c7)), (1, (Sl Am Ak Ao)), (2, (I Ax)), (3, (Sl Az Ay Ba)), (4, (I Ck))]) Tryz.underlying51 ti51 (bp51 Tryz.underlying51) rfl (by kernel_rfl)) ?_
 refine st_ex (ex_box (cs := [(Sl a6 r3 c7), (Sl Am Ak Ao), (I Ax), (Sl Az Ay Ba), (I Ck), (.slice none 0 0), (I 0)]) H hn0 rfl rfl) wn ?_
 rintro _ σ10 ⟨b9, rfl, H, -⟩
 refine sa (pt b9 0) rfl (w_end (q_then (c_seq (c_seq (rg (sm (Sl Am Ak Ao) rfl (st (v := (I (Ak.length : Int))) (rv_len Tryz.underlying27 rfl) (st (v := (B (decide (0 < (Ak.length : Int))))) (rv_gtr (a := (Ak.length : Int)) (b := 0) rfl rfl) (w_end (q_then ?_))))))))))
 obtain ⟨o11, hj, h'⟩ := bind_some h
 clear h
 refine c_cut (fun e a w => e = .normal ∧ ∃ (ρ : Nat → Value) (σ : St) (aj1 : Option Addr) (cj2 : Nat) (aj3 : Option Addr) (cj4 : Nat) (aj5 : Option Addr) (cj6 : Nat) (aj7 : Option Addr) (cj8 : Nat), a = fr 26 (updL ρ [(9, (pt b9 0))]) ∧ w = σ.w ∧ Hp S0 σ0 σ [Ch.bx n0 b9 0 [(Sl aj1 o11.1 cj2), (Sl aj3 o11.2.1 cj4), (I o11.2.2.1), (Sl aj5 o11.2.2.2.1 cj6), (I o11.2.2.2.2.1), (Sl aj7 o11.2.2.2.2.2.1 cj8), (I o11.2.2.2.2.2.2)] [] [], Ch.ro 0 (Sl aj1 o11.1 cj2) o11.1, Ch.ro 0 (Sl aj3 o11.2.1 cj4) o11.2.1, Ch.ro 0 (Sl aj5 o11.2.2.2.1 cj6) o11.2.2.2.1, Ch.ro 0 (Sl aj7 o11.2.2.2.2.2.1 cj8) o11.2.2.2.2.2.1]) ?_ ?_
 ·clear h'
  rename _ = some o11 => h
  refine cd_cond (decide (0 < (Ak.length : Int))) rfl (fun hb12 => ?_) (fun hb12 => ?_)
  ·replace h := bif_t hb12 h
   refine rg (sm (pt b9 0) rfl ?_)
   replace H := H.ownLow 1 0 0 rfl (Nat.le_refl _) (Nat.zero_le _)
   obtain ⟨σ13, hw14, H, -⟩ := H.pub 0 rfl (Nat.le_refl _)
   rw [← hw14]; clear hw14
   replace H := H.nilRo (Int × Int) 0
   revert h; refine br fun r15 hx16 h => ?_
   have hc17 := c_spec_seek_visit 100 (Cd := n0) (Ce := b9) (Cf := 0) (Cg := []) (Ci := []) (Bu := a6) (Bv := c7) (Bw := Am) (By := Ao) (Bz := Az) (Ca := Ba) (Cb := none) (Cc := 0) hx16
   refine st_call (cx_call hc17 (ent_f hc17.fn rfl) hn0 (H.sel' [2, 1, 3, 4, 0, 0, 1, 3, 4] rfl rfl : Hp S0 σ0 _ ([_, _, _, _, _] ++ _))) wn ?_
   rintro _ σ26 ⟨_, ⟨a18, c19, a20, c21, a22, c23, a24, c25, rfl, rfl⟩, H, -⟩
   replace H : Hp _ _ _ [_, _, _, _, _, _, _, _, _] := H
   replace H : Hp S0 σ0 σ26 [Ch.bx n0 b9 0 [(Sl a18 r15.1 c19), (Sl a20 r15.2.1 c21), (I r15.2.2.1), (Sl a22 r15.2.2.2.1 c23), (I r15.2.2.2.2.1), (Sl a24 r15.2.2.2.2.2.1 c25), (I r15.2.2.2.2.2.2)] [] [], Ch.ro 0 (Sl a18 r15.1 c19) r15.1, Ch.ro 0 (Sl a20 r15.2.1 c21) r15.2.1, Ch.ro 0 (Sl a22 r15.2.2.2.1 c23) r15.2.2.2.1, Ch.ro 0 (Sl a24 r15.2.2.2.2.2.1 c25) r15.2.2.2.2.2.1] := H.sel' [0, 1, 2, 3, 4] rfl rfl
   refine w_end ?_
   obtain rfl := sj h
   exact ⟨rfl, _, σ26, a18, c19, a20, c21, a22, c23, a24, c25, fr_join ⟨rfl, trivial⟩, rfl, H.sel' [0, 1, 2, 3, 4] rfl rfl⟩
  ·replace h := bif_f hb12 h
   refine c_skip ?_
   replace H := H.ownLow 1 0 0 rfl (Nat.le_refl _) (Nat.zero_le _)
   obtain ⟨σ27, hw28, H, -⟩ := H.pub 0 rfl (Nat.le_refl _)
   rw [← hw28]; clear hw28
   replace H := H.nilRo (Int × Int) 0
   obtain rfl := sj h
   exact ⟨rfl, _, σ27, a6, c7, Am, Ao, Az, Ba, none, 0, fr_join ⟨rfl, trivial⟩, rfl, H.sel' [2, 1, 3, 4, 0] rfl rfl⟩
 ·clear hj
  have h := h'
  clear h' H
  rintro e a w ⟨rfl, ρ, σ29, a30, c31, a32, c33, a34, c35, a36, c37, rfl, rfl, H⟩
  refine q_then (c_seq (rg (sm (pt b9 0) rfl (sa (pt b9 0) rfl (w_end (q_then (c_ret ?_)))))))
  obtain rfl := sj h
  exact fin_ret (v := (pt b9 0)) (results_ok Tryz.results27 (res_tmp (v := (pt b9 0)) rfl res_nil) rfl) ⟨b9, a30, c31, a32, c33, a34, c35, a36, c37, rfl, rfl⟩ (H.sel' [0, 1, 2, 3, 4] rfl rfl)

theorem c_spec_TreeNearest {Ak : List (Int × (List Int) × Int)} {Ax : Int} {Ay : List Int} {Ck : Int} {Am : Option Addr} {Ao : Nat} {Az : Option Addr} {Ba : Nat} {r : (List (Int × Int))} (h : M.spec_TreeNearest Ak Ax Ay Ck = some r) :
    Cal2 Tryz.prog 6 [(Sl Am Ak Ao), (I Ax), (Sl Az Ay Ba), (I Ck)] [Ch.ro 0 (Sl Am Ak Ao) Ak, Ch.ro 0 (Sl Az Ay Ba) Ay] (fun n0 v L => ∃ (az1 : Option Addr), ∃ (cz2 : Nat), v = (Sl az1 r cz2) ∧ L = [Ch.own n0 n0 (Sl az1 r cz2) r]) := by
 refine cal2 (n := 34) Tryz.func6 rfl rfl rfl rfl ?_
 intro S0 σ0 n0 hn0 H
 unfold M.spec_TreeNearest at h
 refine c_seq (rg (sa (.slice none 0 0) rfl (w_end (q_then (c_seq (c_seq ?_))))))
 obtain ⟨o1, hj, h'⟩ := bind_some h
 clear h
 refine c_cut (fun e a w => e = .normal ∧ ∃ (ρ : Nat → Value) (σ : St), a = fr 34 (updL ρ [(0, (Sl Am Ak Ao)), (1, (I Ax)), (2, (Sl Az Ay Ba)), (3, (I Ck)), (23, (B o1))]) ∧ w = σ.w ∧ Hp S0 σ0 σ [Ch.ro 0 (Sl Am Ak Ao) Ak, Ch.ro 0 (Sl Az Ay Ba) Ay]) ?_ ?_
 ·clear h'
  rename _ = some o1 => h
  refine rg (sm (Sl Am Ak Ao) rfl (sm (I Ax) rfl (sm (Sl Az Ay Ba) rfl ?_)))
  revert h; refine br fun r2 hx3 h => ?_
  have hc4 := c_spec_validQuery (Am := Am) (Ao := Ao) (Az := Az) (Ba := Ba) hx3
  refine st_call (cx_call hc4 (ent_f hc4.fn rfl) hn0 (H.sel' [0, 1, 0, 1] rfl rfl : Hp S0 σ0 _ ([_, _] ++ _))) wn ?_
  rintro _ σ5 ⟨_, ⟨rfl, rfl⟩, H, -⟩
  replace H : Hp _ _ _ [_, _] := H
  refine st (v := (B (!r2))) (rv_not rfl) (sm (B (!r2)) rfl ?_)
  rcases Bool.eq_false_or_eq_true (!r2) with hb6 | hb6
  ·replace h := bif_t hb6 h
   refine st_skip (congrArg some hb6) (st_skip (congrArg some hb6) (st_skip (congrArg some hb6) (st (v := (B true)) (rv_pick_t (congrArg B hb6) rfl) (sm (B true) rfl (st_skip rfl (st_skip rfl (st_skip rfl (st (v := (B true)) (rv_pick_t rfl rfl) (w_end ?_)))))))))
   obtain rfl := sj h
   exact ⟨rfl, _, σ5, fr_join ⟨rfl, rfl, rfl, rfl, rfl, trivial⟩, rfl, H.sel' [0, 1] rfl rfl⟩
  ·replace h := bif_f hb6 h
   refine st_g (v := (I Ax)) (congrArg some hb6) (rv_move rfl) ?_
   revert h; refine br fun r7 hx8 h => ?_
   have hc9 := c_spec_isMetric hx8
   refine st_call (cx_call hc9 (ent_f hc9.fn rfl) hn0 (H.sel' [0, 1] rfl rfl : Hp S0 σ0 _ ([] ++ _))) (wanted_yes rfl (by exact (congrArg some hb6))) ?_
   rintro _ σ10 ⟨_, ⟨rfl, rfl⟩, H, -⟩
   replace H : Hp _ _ _ [_, _] := H
   refine st_g (v := (B (!r7))) (congrArg some hb6) (rv_not rfl) (st (v := (B (!r7))) (rv_pick_f (congrArg B hb6) rfl) (sm (B (!r7)) rfl ?_))
   rcases Bool.eq_false_or_eq_true (!r7) with hb11 | hb11
   ·replace h := bif_t hb11 h
    refine st_skip (congrArg some hb11) (st_skip (congrArg some hb11) (st_skip (congrArg some hb11) (st (v := (B true)) (rv_pick_t (congrArg B hb11) rfl) (w_end ?_))))
    obtain rfl := sj h
    exact ⟨rfl, _, σ10, fr_join ⟨rfl, rfl, rfl, rfl, rfl, trivial⟩, rfl, H.sel' [0, 1] rfl rfl⟩
   ·replace h := bif_f hb11 h
    refine st_g (v := (I Ck)) (congrArg some hb11) (rv_move rfl) ?_
    revert h; refine br fun r12 hx13 h => ?_
    have hc14 := c_spec_inRange hx13
    refine st_call (cx_call hc14 (ent_f hc14.fn rfl) hn0 (H.sel' [0, 1] rfl rfl : Hp S0 σ0 _ ([] ++ _))) (wanted_yes rfl (by exact (congrArg some hb11))) ?_
    rintro _ σ15 ⟨_, ⟨rfl, rfl⟩, H, -⟩
    replace H : Hp _ _ _ [_, _] := H
    refine st_g (v := (B (!r12))) (congrArg some hb11) (rv_not rfl) (st (v := (B (!r12))) (rv_pick_f (congrArg B hb11) rfl) (w_end ?_))
    obtain rfl := sj h
    exact ⟨rfl, _, σ15, fr_join ⟨rfl, rfl, rfl, rfl, rfl, trivial⟩, rfl, H.sel' [0, 1] rfl rfl⟩
 ·clear hj
  have h := h'
  clear h' H
  rintro e a w ⟨rfl, ρ, σ16, rfl, rfl, H⟩
  refine q_then ?_
  refine cd_cond o1 rfl (fun hb17 => ?_) (fun hb17 => ?_)
  ·replace h := bif_t hb17 h
   refine c_seq (rg (sa (.slice none 0 0) rfl (w_end (q_then (c_ret (q_then_r ?_))))))
   replace H := H.nilOwn (Int × Int) n0 n0
   obtain rfl := sj h
   exact fin_ret (v := (.slice none 0 0)) (results_ok Tryz.results6 (res_tmp (v := (.slice none 0 0)) rfl res_nil) rfl) ⟨none, 0, rfl, rfl⟩ (H.sel' [0] rfl rfl)
  ·replace h := bif_f hb17 h
   refine c_skip (q_then (c_seq (rg ?_)))
   refine st_ex (ex_buildSlice (el := n0) (xs := ([] : List (Int × Int))) (ps := []) (cs := []) H hn0 Tryz.underlying25 ti67 rfl rfl (by kernel_rfl) (.nil) rfl) wn ?_
   rintro _ σ19 ⟨b18, rfl, H, -⟩
   refine sm (Sl Am Ak Ao) rfl (sm (I Ax) rfl (sm (Sl Az Ay Ba) rfl (sm (I Ck) rfl ?_)))
   revert h; refine br fun r20 hx21 h => ?_
   have hc22 := c_spec_search (Am := Am) (Ao := Ao) (Az := Az) (Ba := Ba) hx21
   refine st_call (cx_call hc22 (ent_f hc22.fn rfl) hn0 (H.sel' [1, 2, 0, 1, 2] rfl rfl : Hp S0 σ0 _ ([_, _] ++ _))) wn ?_
   rintro _ σ32 ⟨_, ⟨b23, a24, c25, a26, c27, a28, c29, a30, c31, rfl, rfl⟩, H, -⟩
   replace H : Hp _ _ _ [_, _, _, _, _, _, _, _] := H
   replace H : Hp S0 σ0 σ32 [Ch.bx n0 b23 0 [(Sl a24 r20.1 c25), (Sl a26 r20.2.1 c27), (I r20.2.2.1), (Sl a28 r20.2.2.2.1 c29), (I r20.2.2.2.2.1), (Sl a30 r20.2.2.2.2.2.1 c31), (I r20.2.2.2.2.2.2)] [] [], Ch.ro 0 (Sl a24 r20.1 c25) r20.1, Ch.ro 0 (Sl a26 r20.2.1 c27) r20.2.1, Ch.ro 0 (Sl a28 r20.2.2.2.1 c29) r20.2.2.2.1, Ch.ro 0 (Sl a30 r20.2.2.2.2.2.1 c31) r20.2.2.2.2.2.1, Ch.own n0 n0 (Sl (some ⟨b18, 0, none⟩) ([] : List (Int × Int)) 0) ([] : List (Int × Int))] := H.sel' [0, 1, 2, 3, 4, 5] rfl rfl
   refine st (v := (pt b23 0)) (rv_nilCheck rfl) (st (v := (pt b23 5)) (rv_fieldAddr (off := 5) (ft := 25) Tryz.underlying51 rfl ti25 rfl rfl) ?_)
   have hc33 := H.cell (u := (Sl a30 r20.2.2.2.2.2.1 c31)) (o' := 5) 0 5 rfl rfl rfl
   refine st (v := (Sl a30 r20.2.2.2.2.2.1 c31)) (rv_load1 Tryz.underlying25 rfl rfl hc33) ?_
   revert h; refine br fun xs34 hx35 h => ?_
   refine st_ex (ex_append H (i := 5) rfl Tryz.underlying25 Tryz.underlying25 ti67 rfl rfl (by decide) ((H.ro 4 rfl).rd.sc) hx35 hn0 rfl rfl) wn ?_
   rintro _ σ38 ⟨a36, c37, rfl, H, -⟩
   refine sa (Sl a36 xs34 c37) rfl (w_end (q_then (c_ret ?_)))
   obtain rfl := sj h
   exact fin_ret (v := (Sl a36 xs34 c37)) (results_ok Tryz.results6 (res_tmp (v := (Sl a36 xs34 c37)) rfl res_nil) rfl) ⟨a36, c37, rfl, rfl⟩ (H.sel' [0] rfl rfl)

theorem c_laws_toIntS {Aa : List Int} {Ad : Option Addr} {Ae : Nat} {r : (List Int)} (h : M.laws_toIntS Aa = some r) :
    Cal2 Tryz.prog 8 [(Sl Ad Aa Ae)] [Ch.ro 0 (Sl Ad Aa Ae) Aa] (fun n0 v L => ∃ (az1 : Option Addr), ∃ (cz2 : Nat), v = (Sl az1 r cz2) ∧ L = [Ch.own n0 n0 (Sl az1 r cz2) r] ∧ cz2 = r.length) := by
 refine cal2 (n := 22) Tryz.func8 rfl rfl rfl rfl ?_
 intro S0 σ0 n0 hn0 H
 unfold M.laws_toIntS at h
 refine c_seq (rg (sa (.slice none 0 0) rfl (w_end (q_then (c_seq (rg (sm (Sl Ad Aa Ae) rfl (st (v := (I (Aa.length : Int))) (rv_len Tryz.underlying23 rfl) ?_))))))))
 revert h; refine br fun xs1 hx2 h => ?_
 refine st_ex (ex_make (el := n0) (z0 := (0 : Int)) (zs := [(I 0)]) H hn0 Tryz.underlying23 ti3 rfl rfl rfl (by decide) hx2 rfl rfl) wn ?_
 rintro _ σ6 ⟨b3, c4, rfl, ht5, H, -⟩
 replace ht5 := ht5.trans (gmake_len hx2).symm
 refine sa (Sl (some ⟨b3, 0, none⟩) xs1 c4) rfl (w_end (q_then (c_seq (c_seq (rg (sa (I 0) rfl (w_end (q_then ?_))))))))
 obtain ⟨o7, hj, h'⟩ := bind_some h
 clear h
 refine c_cut (fun e a w => e = .normal ∧ ∃ (ρ : Nat → Value) (σ : St), a = fr 22 (updL ρ [(3, (Sl (some ⟨b3, 0, none⟩) o7 c4))]) ∧ w = σ.w ∧ Hp S0 σ0 σ [Ch.own n0 n0 (Sl (some ⟨b3, 0, none⟩) o7 c4) o7] ∧ c4 = o7.length ∧ o7.length = xs1.length) ?_ ?_
 ·clear h'
  rename _ = some o7 => h
  refine c_blk (wp_loopM _ h (fun s8 a w => ∃ (ρ : Nat → Value) (σ : St), a = fr 22 (updL ρ [(0, (Sl Ad Aa Ae)), (3, (Sl (some ⟨b3, 0, none⟩) s8.1 c4)), (4, (I s8.2))]) ∧ w = σ.w ∧ Hp S0 σ0 σ [Ch.ro 0 (Sl Ad Aa Ae) Aa, Ch.own n0 n0 (Sl (some ⟨b3, 0, none⟩) s8.1 c4) s8.1] ∧ c4 = s8.1.length ∧ s8.1.length = xs1.length) ⟨_, σ6, fr_join ⟨rfl, rfl, rfl, trivial⟩, rfl, H.sel' [1, 0] rfl rfl, ht5, rfl⟩ ?_)
  clear h H
  rintro s8 a w o ⟨ρ, σ9, rfl, rfl, H, ht10, hn11⟩ h hres
  refine c_seq (c_seq (rg (sm (I s8.2) rfl (sm (Sl Ad Aa Ae) rfl (st (v := (I (Aa.length : Int))) (rv_len Tryz.underlying23 rfl) (st (v := (B (decide (s8.2 < (Aa.length : Int))))) (rv_lss (a := s8.2) (b := (Aa.length : Int)) rfl rfl) (w_end (q_then ?_))))))))
  refine cd_cond (decide (s8.2 < (Aa.length : Int))) rfl (fun hb12 => ?_) (fun hb12 => ?_)
  ·replace h := bif_t hb12 h
   refine c_skip (q_then (c_seq (c_blk (rg (sm (Sl (some ⟨b3, 0, none⟩) s8.1 c4) rfl (sm (I s8.2) rfl (sm (Sl Ad Aa Ae) rfl (sm (I s8.2) rfl ?_))))))))
   revert h; refine br fun x13 hx14 h => ?_
   obtain ⟨b16, o17, hi15, -⟩ := (H.ro 0 rfl).ix hx14
   refine st (v := (pt b16 o17)) (rv_ix Tryz.underlying23 ti3 rfl rfl hi15) ?_
   have hc18 := ((H.ro 0 rfl).at hx14 hi15).int
   refine st (v := (I x13)) (rv_load1 Tryz.underlying3 rfl rfl hc18) ?_
   revert h; refine br fun x19 hx20 h => ?_
   obtain ⟨b22, o23, hi21, -⟩ := (H.own 1 rfl).ix hx20
   refine st (v := (pt b22 o23)) (rv_ix Tryz.underlying23 ti3 rfl rfl hi21) ?_
   refine st_exS (ex_store_own (e' := x13) (vs := [(I x13)]) (k := 0) H (i := 1) rfl ti3 hx20 hi21 rfl rfl rfl rfl rfl (Nat.le_of_ble_eq_true rfl) (by simp [plain]) (by rintro _ rfl; exact rfl)) wn ?_
   rintro σ24 ⟨H, -⟩
   have hsl : (Sl (some ⟨b3, 0, none⟩) s8.1 c4) = (Sl (some ⟨b3, 0, none⟩) (s8.1.set s8.2.toNat x13) c4) := sl_len List.length_set.symm
   rw [hsl]; rw [hsl] at H; clear hsl
   refine w_end (q_blk (q_then (rg (sm (I s8.2) rfl (st (v := (I (w64 (s8.2 + 1)))) (rv_add (a := s8.2) (b := 1) rfl rfl) (sa (I (w64 (s8.2 + 1))) rfl (w_end (q_then ?_))))))))
   obtain rfl := sj h
   exact ⟨_, rfl, _, σ24, fr_join ⟨rfl, rfl, rfl, trivial⟩, rfl, H.sel' [1, 0] rfl rfl, (ht10.trans List.length_set.symm), (List.length_set.trans hn11)⟩
  ·replace h := bif_f hb12 h
   refine c_exit (q_then_x (q_then_x (q_blk_hit ?_)))
   obtain rfl := sj h
   obtain rfl := hres _ rfl
   exact ⟨rfl, _, σ9, fr_join ⟨rfl, trivial⟩, rfl, H.sel' [1] rfl rfl, ht10, hn11⟩
 ·clear hj
  have h := h'
  clear h' H
  rintro e a w ⟨rfl, ρ, σ25, rfl, rfl, H, ht26, hn27⟩
  refine q_then (c_seq (rg (sm (Sl (some ⟨b3, 0, none⟩) o7 c4) rfl (sa (Sl (some ⟨b3, 0, none⟩) o7 c4) rfl (w_end (q_then (c_ret ?_)))))))
  obtain rfl := sj h
  exact fin_ret (v := (Sl (some ⟨b3, 0, none⟩) o7 c4)) (results_ok Tryz.results8 (res_tmp (v := (Sl (some ⟨b3, 0, none⟩) o7 c4)) rfl res_nil) rfl) ⟨(some ⟨b3, 0, none⟩), c4, rfl, rfl, ht26⟩ (H.sel' [0] rfl rfl)

theorem c_laws_toItem {Aa : Int × (List Int) × Int} {Af : Option Addr} {Ag : Nat} {r : (Int × (List Int) × Int)} (h : M.laws_toItem Aa = some r) :
    Cal2 Tryz.prog 28 [(.agg #[(I Aa.1), (Sl Af Aa.2.1 Ag), (I Aa.2.2)])] [Ch.ro 0 (Sl Af Aa.2.1 Ag) Aa.2.1] (fun n0 v L => ∃ (az1 : Option Addr), ∃ (cz2 : Nat), v = (.agg #[(I r.1), (Sl az1 r.2.1 cz2), (I r.2.2)]) ∧ L = [Ch.own n0 n0 (Sl az1 r.2.1 cz2) r.2.1] ∧ cz2 = r.2.1.length) := by
 refine cal2 (n := 15) Tryz.func28 rfl rfl rfl rfl ?_
 intro S0 σ0 n0 hn0 H
 unfold M.laws_toItem at h
 refine c_seq (rg (st_ex (ex_box (cs := [(I Aa.1), (Sl Af Aa.2.1 Ag), (I Aa.2.2)]) H hn0 rfl rfl) wn ?_))
 rintro _ σ2 ⟨b1, rfl, H, -⟩
 refine st_ex (ex_alloc (cs := [(I 0), (.slice none 0 0), (I 0)]) H hn0 ti54 rfl) wn ?_
 rintro _ σ4 ⟨b3, rfl, H, -⟩
 refine w_end (q_then (c_seq (rg (st_ex (ex_alloc (cs := [(I 0), (.slice none 0 0), (I 0)]) H hn0 ti54 rfl) wn ?_))))
 rintro _ σ6 ⟨b5, rfl, H, -⟩
 refine w_end (q_then (c_seq (rg (st (v := (pt b1 0)) (rv_fieldAddr (off := 0) (ft := 3) Tryz.underlying45 rfl ti3 rfl rfl) ?_))))
 have hc7 := H.cell (u := (I Aa.1)) (o' := 0) 2 0 rfl rfl rfl
 refine st (v := (I Aa.1)) (rv_load1 Tryz.underlying3 rfl rfl hc7) (st (v := (pt b5 0)) (rv_fieldAddr (off := 0) (ft := 3) Tryz.underlying54 rfl ti3 rfl rfl) ?_)
 refine st_exS (ex_store_box (k := 0) (cs := [(I 0), (.slice none 0 0), (I 0)]) (vs := [(I Aa.1)]) (cs' := [(I Aa.1), (.slice none 0 0), (I 0)]) H (i := 0) rfl ti3 rfl rfl rfl rfl rfl (Nat.le_of_ble_eq_true rfl) (by simp [plain]) rfl) wn ?_
 rintro σ8 ⟨H, -⟩
 refine w_end (q_then (c_seq (rg (st (v := (pt b1 1)) (rv_fieldAddr (off := 1) (ft := 23) Tryz.underlying45 rfl ti23 rfl rfl) ?_))))
 have hc9 := H.cell (u := (Sl Af Aa.2.1 Ag)) (o' := 1) 2 1 rfl rfl rfl
 refine st (v := (Sl Af Aa.2.1 Ag)) (rv_load1 Tryz.underlying23 rfl rfl hc9) ?_
 revert h; refine br fun r10 hx11 h => ?_
 have hc12 := c_laws_toIntS (Ad := Af) (Ae := Ag) hx11
 refine st_call (cx_call hc12 (ent_f hc12.fn rfl) hn0 (H.sel' [3, 0, 1, 2, 3] rfl rfl : Hp S0 σ0 _ ([_] ++ _))) wn ?_
 rintro _ σ16 ⟨_, ⟨a13, c14, rfl, rfl, ht15⟩, H, -⟩
 replace H : Hp _ _ _ [_, _, _, _, _] := H
 refine st (v := (pt b5 1)) (rv_fieldAddr (off := 1) (ft := 23) Tryz.underlying54 rfl ti23 rfl rfl) ?_
 refine st_exS (ex_store_box (k := 1) (cs := [(I Aa.1), (.slice none 0 0), (I 0)]) (vs := [(Sl a13 r10 c14)]) (cs' := [(I Aa.1), (Sl a13 r10 c14), (I 0)]) H (i := 1) rfl ti23 rfl rfl rfl rfl rfl (Nat.le_of_ble_eq_true rfl) (by simp [plain]) rfl) wn ?_
 rintro σ17 ⟨H, -⟩
 refine w_end (q_then (c_seq (rg (st (v := (pt b1 2)) (rv_fieldAddr (off := 2) (ft := 3) Tryz.underlying45 rfl ti3 rfl rfl) ?_))))
 have hc18 := H.cell (u := (I Aa.2.2)) (o' := 2) 3 2 rfl rfl rfl
 refine st (v := (I Aa.2.2)) (rv_load1 Tryz.underlying3 rfl rfl hc18) (st (v := (pt b5 2)) (rv_fieldAddr (off := 2) (ft := 3) Tryz.underlying54 rfl ti3 rfl rfl) ?_)
 refine st_exS (ex_store_box (k := 2) (cs := [(I Aa.1), (Sl a13 r10 c14), (I 0)]) (vs := [(I Aa.2.2)]) (cs' := [(I Aa.1), (Sl a13 r10 c14), (I Aa.2.2)]) H (i := 0) rfl ti3 rfl rfl rfl rfl rfl (Nat.le_of_ble_eq_true rfl) (by simp [plain]) rfl) wn ?_
 rintro σ19 ⟨H, -⟩
 refine w_end (q_then (c_seq (rg ?_)))
 have hc20 := H.cells 0 rfl
 refine st (v := (.agg #[(I Aa.1), (Sl a13 r10 c14), (I Aa.2.2)])) (rv_load (cs := [(I Aa.1), (Sl a13 r10 c14), (I Aa.2.2)]) Tryz.underlying54 rfl ti54 rfl rfl hc20) ?_
 refine st_exS (ex_store_box (k := 0) (cs := [(I 0), (.slice none 0 0), (I 0)]) (vs := [(I Aa.1), (Sl a13 r10 c14), (I Aa.2.2)]) (cs' := [(I Aa.1), (Sl a13 r10 c14), (I Aa.2.2)]) H (i := 2) rfl ti54 rfl rfl rfl rfl rfl (Nat.le_of_ble_eq_true rfl) (by simp [plain]) rfl) wn ?_
 rintro σ21 ⟨H, -⟩
 refine w_end (q_then (c_ret ?_))
 obtain rfl := sj h
 exact fin_ret (v := (.agg #[(I Aa.1), (Sl a13 r10 c14), (I Aa.2.2)])) (results_ok Tryz.results28 (res_cell rfl (run_cellRes (cs := [(I Aa.1), (Sl a13 r10 c14), (I Aa.2.2)]) Tryz.underlying54 rfl ti54 rfl (H.cells 0 rfl)) res_nil) rfl) ⟨a13, c14, rfl, rfl, ht15⟩ (H.sel' [2] rfl rfl)

theorem c_laws_toItemS {Aa : List (Int × (List Int) × Int)} {Ad : Option Addr} {Ae : Nat} {r : (List (Int × (List Int) × Int))} (h : M.dItemS Aa = some r) :
    Cal2 Tryz.prog 7 [(Sl Ad Aa Ae)] [Ch.ro 0 (Sl Ad Aa Ae) Aa] (fun n0 v L => ∃ (az1 : Option Addr), ∃ (cz2 : Nat), ∃ (K : List Ch), v = (Sl az1 r cz2) ∧ L = [Ch.big K] ∧ Dp n0 (Sl az1 r cz2) r K) := by
 obtain ⟨hn, hx, rfl⟩ := dItemS_some h
 clear h
 refine cal2 (n := 23) Tryz.func7 rfl rfl rfl rfl ?_
 intro S0 σ0 n0 hn0 H
 refine c_seq (rg (sa (.slice none 0 0) rfl (w_end (q_then (c_seq (rg (sm (Sl Ad r Ae) rfl (st (v := (I (r.length : Int))) (rv_len Tryz.underlying22 rfl) ?_))))))))
 refine st_ex (ex_make (el := n0) (z0 := ((0, (.slice none 0 0), 0) : Int × Value × Int)) (zs := [(I 0), (.slice none 0 0), (I 0)]) H hn0 Tryz.underlying27 ti54 rfl rfl (⟨[(I 0)], [(.slice none 0 0), (I 0)], rfl, rfl, ⟨[(.slice none 0 0)], [(I 0)], rfl, ⟨rfl, rfl⟩, rfl⟩⟩) (by decide) (gmake_nat _ _ hn) rfl rfl) (wanted_none _ rfl _) ?_
 rintro _ σ6 ⟨b3, c4, rfl, ht5, H, -⟩
 rw [show (Sl (some ⟨b3, 0, none⟩) (List.replicate r.length ((0, (.slice none 0 0), 0) : Int × Value × Int)) c4) = (Sl (some ⟨b3, 0, none⟩) r c4) from sl_len (by simp)] at H ⊢
 refine sa (Sl (some ⟨b3, 0, none⟩) r c4) rfl (w_end (q_then (c_seq (c_seq (rg (sa (I 0) rfl (w_end (q_then ?_))))))))
 refine c_cut (fun e a w => e = .normal ∧ ∃ (ρ : Nat → Value) (σ : St) (ps : List ((Int × (List Int) × Int) × Value)), a = fr 23 (updL ρ [(3, (Sl (some ⟨b3, 0, none⟩) r c4))]) ∧ w = σ.w ∧ ps.map (·.1) = r ∧ Hp S0 σ0 σ [Ch.own n0 n0 (Sl (some ⟨b3, 0, none⟩) r c4) (ps.map dsh), Ch.big (ps.map (dow n0))]) ?_ ?_
 ·refine c_blk ?_
  refine wp_loop_ghost (fun k a w => ∃ (i : Nat) (ρ : Nat → Value) (σ : St) (ps : List ((Int × (List Int) × Int) × Value)), i + k = r.length ∧ ps.length = i ∧ ps.map (·.1) = r.take i ∧ a = fr 23 (updL ρ [(0, (Sl Ad r Ae)), (3, (Sl (some ⟨b3, 0, none⟩) r c4)), (4, (I (i : Int)))]) ∧ w = σ.w ∧ Hp S0 σ0 σ [Ch.own n0 n0 (Sl (some ⟨b3, 0, none⟩) r c4) (ps.map dsh ++ List.replicate k ((0, (.slice none 0 0), 0) : Int × Value × Int)), Ch.ro 0 (Sl Ad r Ae) r, Ch.big (ps.map (dow n0))]) r.length ⟨0, _, σ6, [], by omega, rfl, rfl, fr_join ⟨rfl, rfl, rfl, trivial⟩, rfl, H.bigNil.sel' [1, 2, 0] rfl rfl⟩ ?_
  clear H
  rintro k _ _ ⟨i, ρ, σ9, ps, hik, hps, hpr, rfl, rfl, H⟩
  refine c_seq (c_seq (rg (sm (I (i : Int)) rfl (sm (Sl Ad r Ae) rfl (st (v := (I (r.length : Int))) (rv_len Tryz.underlying22 rfl) (st (v := (B (decide ((i : Int) < (r.length : Int))))) (rv_lss (a := (i : Int)) (b := (r.length : Int)) rfl rfl) (w_end (q_then ?_))))))))
  refine cd_cond (decide ((i : Int) < (r.length : Int))) rfl (fun hb => ?_) (fun hb => ?_)
  ·have hlt : i < r.length := by have := of_decide_eq_true hb; omega
   obtain ⟨m, rfl⟩ : ∃ m, k = m + 1 := ⟨k - 1, by omega⟩
   refine c_skip (q_then (c_seq (c_blk (rg (sm (Sl (some ⟨b3, 0, none⟩) r c4) rfl (sm (I (i : Int)) rfl (sm (Sl Ad r Ae) rfl (sm (I (i : Int)) rfl ?_))))))))
   have hx14 : gidx r (i : Int) = some r[i] := gidx_at hlt
   have hx24 := hx _ (List.getElem_mem hlt)
   have hpt : (ps.map (·.1)) ++ [r[i]] = r.take (i + 1) := by rw [hpr, List.take_succ_eq_append_getElem hlt]
   generalize r[i] = x13 at hx14 hx24 hpt
   obtain ⟨b16, o17, hi15, -⟩ := (H.ro 1 rfl).ix hx14
   refine st (v := (pt b16 o17)) (rv_ix Tryz.underlying22 ti45 rfl rfl hi15) ?_
   obtain ⟨_, ⟨_, _, rfl, rfl, ⟨_, _, rfl, ⟨_, rfl, hR22⟩, rfl⟩⟩, hl18, hc19⟩ := ((H.ro 1 rfl).at hx14 hi15).cells
   obtain ⟨a20, c21, rfl⟩ := hR22.isSl
   replace H := H.add (d := Ch.ro 0 (Sl a20 x13.2.1 c21) x13.2.1) hR22 (fun _ h => h)
   clear hR22
   refine st (v := (.agg #[(I x13.1), (Sl a20 x13.2.1 c21), (I x13.2.2)])) (rv_load Tryz.underlying45 rfl ti45 rfl hl18 hc19) ?_
   have hc25 := c_laws_toItem (Af := a20) (Ag := c21) hx24
   refine st_call (cx_call hc25 (ent_f hc25.fn rfl) hn0 (H.sel' [0, 1, 2, 3] rfl rfl : Hp S0 σ0 _ ([_] ++ _))) (wanted_none _ rfl _) ?_
   rintro _ σ29 ⟨_, ⟨a26, c27, rfl, rfl, ht28⟩, H, -⟩
   replace H : Hp _ _ _ [_, _, _, _] := H
   have hx31 := gidx_step (ps.map dsh) ((0, (.slice none 0 0), 0) : Int × Value × Int) m (i : Int) (by simp [hps])
   obtain ⟨b33, o34, hi32, -⟩ := (H.own 1 rfl).ix hx31
   refine st (v := (pt b33 o34)) (rv_ix Tryz.underlying27 ti54 rfl rfl hi32) ?_
   refine st_exS (ex_store_own (e' := ((x13.1, (Sl a26 x13.2.1 c27), x13.2.2) : Int × Value × Int)) (vs := [(I x13.1), (Sl a26 x13.2.1 c27), (I x13.2.2)]) (k := 0) H (i := 1) rfl ti54 hx31 hi32 rfl rfl rfl rfl rfl (Nat.le_of_ble_eq_true rfl) (by simp [plain]) (by rintro _ ⟨_, _, rfl, rfl, ⟨_, _, rfl, ⟨rfl, -⟩, rfl⟩⟩; exact ⟨[(I x13.1)], [(Sl a26 x13.2.1 c27), (I x13.2.2)], rfl, rfl, ⟨[(Sl a26 x13.2.1 c27)], [(I x13.2.2)], rfl, ⟨rfl, rfl⟩, rfl⟩⟩)) (wanted_none _ rfl _) ?_
   rintro σ40 ⟨H, -⟩
   refine w_end (q_blk (q_then (rg (sm (I (i : Int)) rfl (st (v := (I (w64 ((i : Int) + 1)))) (rv_add (a := (i : Int)) (b := 1) rfl rfl) (sa (I (w64 ((i : Int) + 1))) rfl (w_end ?_)))))))
   have e1 : w64 ((i : Int) + 1) = ((i + 1 : Nat) : Int) := w64_id (by omega) (by omega)
   rw [e1]
   refine q_then ?_
   have hset := set_step (ps.map dsh) ((0, (.slice none 0 0), 0) : Int × Value × Int) (x13.1, (Sl a26 x13.2.1 c27), x13.2.2) m
   rw [List.length_map, hps] at hset
   refine ⟨m, by omega, i + 1, _, σ40, ps ++ [(x13, (Sl a26 x13.2.1 c27))], by omega, by simp [hps], by simpa using hpt, fr_join ⟨rfl, rfl, rfl, trivial⟩, rfl, ?_⟩
   replace H := Hp.bigSnoc (H.sel' [1, 3, 0, 2] rfl rfl)
   replace H := H.sel' [1, 2, 0] rfl rfl
   simp only [Int.toNat_natCast, hset] at H
   rw [List.map_append, List.map_append]
   exact H
  ·have hlt : ¬ i < r.length := by have := of_decide_eq_false hb; omega
   obtain rfl : k = 0 := by omega
   obtain rfl : i = r.length := by omega
   refine c_exit (q_then_x (q_then_x (q_blk_hit ?_)))
   rw [List.take_length] at hpr
   simp only [List.replicate_zero, List.append_nil] at H
   exact ⟨rfl, _, σ9, ps, fr_join ⟨rfl, trivial⟩, rfl, hpr, H.sel' [0, 2] rfl rfl⟩
 ·clear H
  rintro e a w ⟨rfl, ρ, σ41, ps, rfl, rfl, hps, H⟩
  refine q_then (c_seq (rg (sm (Sl (some ⟨b3, 0, none⟩) r c4) rfl (sa (Sl (some ⟨b3, 0, none⟩) r c4) rfl (w_end (q_then (c_ret ?_)))))))
  exact fin_ret (v := (Sl (some ⟨b3, 0, none⟩) r c4)) (results_ok Tryz.results7 (res_tmp (v := (Sl (some ⟨b3, 0, none⟩) r c4)) rfl res_nil) rfl) ⟨(some ⟨b3, 0, none⟩), c4, _, rfl, rfl, ⟨ps, hps.symm, rfl⟩⟩ H.bigCons


theorem c_impl_validKind {Aw : Int}  {r : Bool} (h : M.impl_validKind Aw = some r) :
    Cal2 Tryz.prog 50 [(I Aw)] [] (fun n0 v L => v = (B r) ∧ L = []) := by
 refine cal2 (n := 9) Tryz.func50 rfl rfl rfl rfl ?_
 intro S0 σ0 n0 hn0 H
 unfold M.impl_validKind at h
 refine c_seq (rg (sa (B false) rfl (w_end (q_then (c_seq (rg (sm (I Aw) rfl (st (v := (B (decide (1 ≤ Aw)))) (rv_geq (a := Aw) (b := 1) rfl rfl) (sm (B (decide (1 ≤ Aw))) rfl ?_)))))))))
 rcases Bool.eq_false_or_eq_true (decide (1 ≤ Aw)) with hb1 | hb1
 ·replace h := bif_t hb1 h
  refine st_g (v := (I Aw)) (congrArg some hb1) (rv_move rfl) (st_g (v := (B (decide (Aw ≤ 4)))) (congrArg some hb1) (rv_leq (a := Aw) (b := 4) rfl rfl) (st (v := (B (decide (Aw ≤ 4)))) (rv_pick_t (congrArg B hb1) rfl) (sa (B (decide (Aw ≤ 4))) rfl (w_end (q_then (c_ret ?_))))))
  obtain rfl := sj h
  exact fin_ret (v := (B (decide (Aw ≤ 4)))) (results_ok Tryz.results50 (res_tmp (v := (B (decide (Aw ≤ 4)))) rfl res_nil) rfl) ⟨rfl, rfl⟩ (H.sel' [] rfl rfl)
 ·replace h := bif_f hb1 h
  refine st_skip (congrArg some hb1) (st_skip (congrArg some hb1) (st (v := (B false)) (rv_pick_f (congrArg B hb1) rfl) (sa (B false) rfl (w_end (q_then (c_ret ?_))))))
  obtain rfl := sj h
  exact fin_ret (v := (B false)) (results_ok Tryz.results50 (res_tmp (v := (B false)) rfl res_nil) rfl) ⟨rfl, rfl⟩ (H.sel' [] rfl rfl)

theorem c_impl_validTreeKind {Aw : Int}  {r : Bool} (h : M.impl_validTreeKind Aw = some r) :
    Cal2 Tryz.prog 29 [(I Aw)] [] (fun n0 v L => v = (B r) ∧ L = []) := by
 refine cal2 (n := 9) Tryz.func29 rfl rfl rfl rfl ?_
 intro S0 σ0 n0 hn0 H
 unfold M.impl_validTreeKind at h
 refine c_seq (rg (sa (B false) rfl (w_end (q_then (c_seq (rg (sm (I Aw) rfl ?_)))))))
 revert h; refine br fun r1 hx2 h => ?_
 have hc3 := c_impl_validKind hx2
 refine st_call (cx_call hc3 (ent_f hc3.fn rfl) hn0 (H.sel' [] rfl rfl : Hp S0 σ0 _ ([] ++ _))) wn ?_
 rintro _ σ4 ⟨_, ⟨rfl, rfl⟩, H, -⟩
 replace H : Hp _ _ _ [] := H
 refine sm (B r1) rfl ?_
 rcases Bool.eq_false_or_eq_true r1 with hb5 | hb5
 ·replace h := bif_t hb5 h
  refine st_g (v := (I Aw)) (congrArg some hb5) (rv_move rfl) (st_g (v := (B (Aw != 3))) (congrArg some hb5) (rv_neq (a := Aw) (b := 3) rfl rfl) (st (v := (B (Aw != 3))) (rv_pick_t (congrArg B hb5) rfl) (sa (B (Aw != 3)) rfl (w_end (q_then (c_ret ?_))))))
  obtain rfl := sj h
  exact fin_ret (v := (B (Aw != 3))) (results_ok Tryz.results29 (res_tmp (v := (B (Aw != 3))) rfl res_nil) rfl) ⟨rfl, rfl⟩ (H.sel' [] rfl rfl)
 ·replace h := bif_f hb5 h
  refine st_skip (congrArg some hb5) (st_skip (congrArg some hb5) (st (v := (B false)) (rv_pick_f (congrArg B hb5) rfl) (sa (B false) rfl (w_end (q_then (c_ret ?_))))))
  obtain rfl := sj h
  exact fin_ret (v := (B false)) (results_ok Tryz.results29 (res_tmp (v := (B false)) rfl res_nil) rfl) ⟨rfl, rfl⟩ (H.sel' [] rfl rfl)

theorem c_impl_validCoords {Cl : List Int} {Cm : Option Addr} {Cn : Nat} {r : Bool} (h : M.impl_validCoords Cl = some r) :
    Cal2 Tryz.prog 76 [(Sl Cm Cl Cn)] [Ch.ro 0 (Sl Cm Cl Cn) Cl] (fun n0 v L => v = (B r) ∧ L = []) := by
 refine cal2 (n := 18) Tryz.func76 rfl rfl rfl rfl ?_
 intro S0 σ0 n0 hn0 H
 unfold M.impl_validCoords at h
 refine c_seq (rg (sa (B false) rfl (w_end (q_then (c_seq (c_seq (rg (sm (Sl Cm Cl Cn) rfl (st (v := (I (Cl.length : Int))) (rv_len Tryz.underlying23 rfl) (sm (I 0) rfl (w_end ?_)))))))))))
 refine q_then ?_
 obtain ⟨o1, hj, h'⟩ := bind_some h
 clear h
 refine c_cut (fun e a w => (∃ t, o1 = (.inl t) ∧ e = .normal ∧ ∃ (ρ : Nat → Value) (σ : St), a = fr 18 (updL ρ []) ∧ w = σ.w ∧ Hp S0 σ0 σ []) ∨ (∃ t, o1 = (.inr t) ∧ e = .ret ∧ ∃ (ρ : Nat → Value) (σ : St), a = fr 18 (updL ρ [(2, (B t))]) ∧ w = σ.w ∧ Hp S0 σ0 σ [])) ?_ ?_
 ·clear h'
  rename _ = some o1 => h
  refine c_blk (wp_loopM _ h (fun s2 a w => ∃ (ρ : Nat → Value) (σ : St), a = fr 18 (updL ρ [(5, (Sl Cm Cl Cn)), (6, (I (Cl.length : Int))), (7, (I s2))]) ∧ w = σ.w ∧ Hp S0 σ0 σ [Ch.ro 0 (Sl Cm Cl Cn) Cl]) ⟨_, σ0, fr_join ⟨rfl, rfl, rfl, trivial⟩, rfl, H.sel' [0] rfl rfl⟩ ?_)
  clear h H
  rintro s2 a w o ⟨ρ, σ3, rfl, rfl, H⟩ h hres
  refine c_seq (rg (st (v := (B (decide (s2 < (Cl.length : Int))))) (rv_lss (a := s2) (b := (Cl.length : Int)) rfl rfl) (w_end (q_then (c_seq ?_)))))
  refine cd_cond (decide (s2 < (Cl.length : Int))) rfl (fun hb4 => ?_) (fun hb4 => ?_)
  ·replace h := bif_t hb4 h
   refine c_skip (q_then (c_seq (c_blk (c_seq (rg ?_)))))
   revert h; refine br fun x5 hx6 h => ?_
   obtain ⟨b8, o9, hi7, -⟩ := (H.ro 0 rfl).ix hx6
   refine st (v := (pt b8 o9)) (rv_ix Tryz.underlying23 ti3 rfl rfl hi7) ?_
   have hc10 := ((H.ro 0 rfl).at hx6 hi7).int
   refine st (v := (I x5)) (rv_load1 Tryz.underlying3 rfl rfl hc10) (sa (I x5) rfl (w_end (q_then (c_seq ?_))))
   obtain ⟨o11, hj, h'⟩ := bind_some h
   clear h
   refine c_cut (fun e a w => e = .normal ∧ ∃ (ρ : Nat → Value) (σ : St), a = fr 18 (updL ρ [(5, (Sl Cm Cl Cn)), (6, (I (Cl.length : Int))), (7, (I s2)), (16, (B o11))]) ∧ w = σ.w ∧ Hp S0 σ0 σ [Ch.ro 0 (Sl Cm Cl Cn) Cl]) ?_ ?_
   ·clear h'
    rename _ = some o11 => h
    refine rg (sm (I x5) rfl (st (v := (B (decide (x5 < (-100))))) (rv_lss (a := x5) (b := (-100)) rfl rfl) (sm (B (decide (x5 < (-100)))) rfl ?_)))
    rcases Bool.eq_false_or_eq_true (decide (x5 < (-100))) with hb12 | hb12
    ·replace h := bif_t hb12 h
     refine st_skip (congrArg some hb12) (st_skip (congrArg some hb12) (st (v := (B true)) (rv_pick_t (congrArg B hb12) rfl) (w_end ?_)))
     obtain rfl := sj h
     exact ⟨rfl, _, σ3, fr_join ⟨rfl, rfl, rfl, rfl, trivial⟩, rfl, H.sel' [0] rfl rfl⟩
    ·replace h := bif_f hb12 h
     refine st_g (v := (I x5)) (congrArg some hb12) (rv_move rfl) (st_g (v := (B (decide (100 < x5)))) (congrArg some hb12) (rv_gtr (a := x5) (b := 100) rfl rfl) (st (v := (B (decide (100 < x5)))) (rv_pick_f (congrArg B hb12) rfl) (w_end ?_)))
     obtain rfl := sj h
     exact ⟨rfl, _, σ3, fr_join ⟨rfl, rfl, rfl, rfl, trivial⟩, rfl, H.sel' [0] rfl rfl⟩
   ·clear hj
    have h := h'
    clear h' H
    rintro e a w ⟨rfl, ρ, σ13, rfl, rfl, H⟩
    refine q_then ?_
    refine cd_cond o11 rfl (fun hb14 => ?_) (fun hb14 => ?_)
    ·replace h := bif_t hb14 h
     refine c_seq (rg (sa (B false) rfl (w_end (q_then (c_ret (q_blk_r (q_then_r (q_then_r (q_blk_r ?_)))))))))
     obtain rfl := sj h
     obtain rfl := hres _ rfl
     exact .inr (⟨_, rfl, rfl, _, σ13, fr_join ⟨rfl, trivial⟩, rfl, H.sel' [] rfl rfl⟩)
    ·replace h := bif_f hb14 h
     refine c_skip (q_blk (q_then (rg (st (v := (I (w64 (s2 + 1)))) (rv_add (a := s2) (b := 1) rfl rfl) (sm (I (w64 (s2 + 1))) rfl (w_end (q_then ?_)))))))
     obtain rfl := sj h
     exact ⟨_, rfl, _, σ13, fr_join ⟨rfl, rfl, rfl, trivial⟩, rfl, H.sel' [0] rfl rfl⟩
  ·replace h := bif_f hb4 h
   refine c_exit (q_then_x (q_then_x (q_blk_hit ?_)))
   obtain rfl := sj h
   obtain rfl := hres _ rfl
   exact .inl ⟨_, rfl, rfl, _, σ3, fr_join trivial, rfl, H.sel' [] rfl rfl⟩
 ·clear hj
  have h := h'
  clear h' H
  rintro e a w (⟨t15, rfl, rfl, ρ, σ16, rfl, rfl, H⟩ | ⟨t17, rfl, rfl, ρ, σ18, rfl, rfl, H⟩)
  ·replace h := selim_l h
   refine q_then (c_seq (rg (sa (B true) rfl (w_end (q_then (c_ret ?_))))))
   obtain rfl := sj h
   exact fin_ret (v := (B true)) (results_ok Tryz.results76 (res_tmp (v := (B true)) rfl res_nil) rfl) ⟨rfl, rfl⟩ (H.sel' [] rfl rfl)
  ·replace h := selim_r h
   refine q_then_r ?_
   obtain rfl := sj h
   exact fin_ret (v := (B t17)) (results_ok Tryz.results76 (res_tmp (v := (B t17)) rfl res_nil) rfl) ⟨rfl, rfl⟩ (H.sel' [] rfl rfl)

theorem c_impl_ValidVector {Ap : List Int} {Aq : Option Addr} {Ar : Nat} {r : Bool} (h : M.impl_ValidVector Ap = some r) :
    Cal2 Tryz.prog 52 [(Sl Aq Ap Ar)] [Ch.ro 0 (Sl Aq Ap Ar) Ap] (fun n0 v L => v = (B r) ∧ L = []) := by
 refine cal2 (n := 10) Tryz.func52 rfl rfl rfl rfl ?_
 intro S0 σ0 n0 hn0 H
 unfold M.impl_ValidVector at h
 refine c_seq (rg (sa (B false) rfl (w_end (q_then (c_seq (rg (sm (Sl Aq Ap Ar) rfl (st (v := (I (Ap.length : Int))) (rv_len Tryz.underlying23 rfl) (st (v := (B ((Ap.length : Int) == 4))) (rv_eql (a := (Ap.length : Int)) (b := 4) rfl rfl) (sm (B ((Ap.length : Int) == 4)) rfl ?_))))))))))
 rcases Bool.eq_false_or_eq_true ((Ap.length : Int) == 4) with hb1 | hb1
 ·replace h := bif_t hb1 h
  refine st_g (v := (Sl Aq Ap Ar)) (congrArg some hb1) (rv_move rfl) ?_
  revert h; refine br fun r2 hx3 h => ?_
  have hc4 := c_impl_validCoords (Cm := Aq) (Cn := Ar) hx3
  refine st_call (cx_call hc4 (ent_f hc4.fn rfl) hn0 (H.sel' [0, 0] rfl rfl : Hp S0 σ0 _ ([_] ++ _))) (wanted_yes rfl (by exact (congrArg some hb1))) ?_
  rintro _ σ5 ⟨_, ⟨rfl, rfl⟩, H, -⟩
  replace H : Hp _ _ _ [_] := H
  refine st (v := (B r2)) (rv_pick_t (congrArg B hb1) rfl) (sa (B r2) rfl (w_end (q_then (c_ret ?_))))
  obtain rfl := sj h
  exact fin_ret (v := (B r2)) (results_ok Tryz.results52 (res_tmp (v := (B r2)) rfl res_nil) rfl) ⟨rfl, rfl⟩ (H.sel' [] rfl rfl)
 ·replace h := bif_f hb1 h
  refine st_skip (congrArg some hb1) (st_skip (congrArg some hb1) (st (v := (B false)) (rv_pick_f (congrArg B hb1) rfl) (sa (B false) rfl (w_end (q_then (c_ret ?_))))))
  obtain rfl := sj h
  exact fin_ret (v := (B false)) (results_ok Tryz.results52 (res_tmp (v := (B false)) rfl res_nil) rfl) ⟨rfl, rfl⟩ (H.sel' [] rfl rfl)

theorem c_impl_validKey {Cp : Int}  {r : Bool} (h : M.impl_validKey Cp = some r) :
    Cal2 Tryz.prog 97 [(I Cp)] [] (fun n0 v L => v = (B r) ∧ L = []) := by
 refine cal2 (n := 9) Tryz.func97 rfl rfl rfl rfl ?_
 intro S0 σ0 n0 hn0 H
 unfold M.impl_validKey at h
 refine c_seq (rg (sa (B false) rfl (w_end (q_then (c_seq (rg (sm (I Cp) rfl (st (v := (B (decide (1 ≤ Cp)))) (rv_geq (a := Cp) (b := 1) rfl rfl) (sm (B (decide (1 ≤ Cp))) rfl ?_)))))))))
 rcases Bool.eq_false_or_eq_true (decide (1 ≤ Cp)) with hb1 | hb1
 ·replace h := bif_t hb1 h
  refine st_g (v := (I Cp)) (congrArg some hb1) (rv_move rfl) (st_g (v := (B (decide (Cp ≤ 99)))) (congrArg some hb1) (rv_leq (a := Cp) (b := 99) rfl rfl) (st (v := (B (decide (Cp ≤ 99)))) (rv_pick_t (congrArg B hb1) rfl) (sa (B (decide (Cp ≤ 99))) rfl (w_end (q_then (c_ret ?_))))))
  obtain rfl := sj h
  exact fin_ret (v := (B (decide (Cp ≤ 99)))) (results_ok Tryz.results97 (res_tmp (v := (B (decide (Cp ≤ 99)))) rfl res_nil) rfl) ⟨rfl, rfl⟩ (H.sel' [] rfl rfl)
 ·replace h := bif_f hb1 h
  refine st_skip (congrArg some hb1) (st_skip (congrArg some hb1) (st (v := (B false)) (rv_pick_f (congrArg B hb1) rfl) (sa (B false) rfl (w_end (q_then (c_ret ?_))))))
  obtain rfl := sj h
  exact fin_ret (v := (B false)) (results_ok Tryz.results97 (res_tmp (v := (B false)) rfl res_nil) rfl) ⟨rfl, rfl⟩ (H.sel' [] rfl rfl)

theorem c_impl_validTags {Cq : Int}  {r : Bool} (h : M.impl_validTags Cq = some r) :
    Cal2 Tryz.prog 98 [(I Cq)] [] (fun n0 v L => v = (B r) ∧ L = []) := by
 refine cal2 (n := 9) Tryz.func98 rfl rfl rfl rfl ?_
 intro S0 σ0 n0 hn0 H
 unfold M.impl_validTags at h
 refine c_seq (rg (sa (B false) rfl (w_end (q_then (c_seq (rg (sm (I Cq) rfl (st (v := (B (decide (0 ≤ Cq)))) (rv_geq (a := Cq) (b := 0) rfl rfl) (sm (B (decide (0 ≤ Cq))) rfl ?_)))))))))
 rcases Bool.eq_false_or_eq_true (decide (0 ≤ Cq)) with hb1 | hb1
 ·replace h := bif_t hb1 h
  refine st_g (v := (I Cq)) (congrArg some hb1) (rv_move rfl) (st_g (v := (B (decide (Cq ≤ 15)))) (congrArg some hb1) (rv_leq (a := Cq) (b := 15) rfl rfl) (st (v := (B (decide (Cq ≤ 15)))) (rv_pick_t (congrArg B hb1) rfl) (sa (B (decide (Cq ≤ 15))) rfl (w_end (q_then (c_ret ?_))))))
  obtain rfl := sj h
  exact fin_ret (v := (B (decide (Cq ≤ 15)))) (results_ok Tryz.results98 (res_tmp (v := (B (decide (Cq ≤ 15)))) rfl res_nil) rfl) ⟨rfl, rfl⟩ (H.sel' [] rfl rfl)
 ·replace h := bif_f hb1 h
  refine st_skip (congrArg some hb1) (st_skip (congrArg some hb1) (st (v := (B false)) (rv_pick_f (congrArg B hb1) rfl) (sa (B false) rfl (w_end (q_then (c_ret ?_))))))
  obtain rfl := sj h
  exact fin_ret (v := (B false)) (results_ok Tryz.results98 (res_tmp (v := (B false)) rfl res_nil) rfl) ⟨rfl, rfl⟩ (H.sel' [] rfl rfl)

theorem c_impl_validItem {As : Int × (List Int) × Int} {Au : Option Addr} {Av : Nat} {r : Bool} (h : M.impl_validItem As = some r) :
    Cal2 Tryz.prog 75 [(.agg #[(I As.1), (Sl Au As.2.1 Av), (I As.2.2)])] [Ch.ro 0 (Sl Au As.2.1 Av) As.2.1] (fun n0 v L => v = (B r) ∧ L = []) := by
 refine cal2 (n := 16) Tryz.func75 rfl rfl rfl rfl ?_
 intro S0 σ0 n0 hn0 H
 unfold M.impl_validItem at h
 refine c_seq (rg (st_ex (ex_box (cs := [(I As.1), (Sl Au As.2.1 Av), (I As.2.2)]) H hn0 rfl rfl) wn ?_))
 rintro _ σ2 ⟨b1, rfl, H, -⟩
 refine sa (B false) rfl (w_end (q_then (c_seq (rg (st (v := (pt b1 0)) (rv_fieldAddr (off := 0) (ft := 3) Tryz.underlying54 rfl ti3 rfl rfl) ?_)))))
 have hc3 := H.cell (u := (I As.1)) (o' := 0) 0 0 rfl rfl rfl
 refine st (v := (I As.1)) (rv_load1 Tryz.underlying3 rfl rfl hc3) ?_
 revert h; refine br fun r4 hx5 h => ?_
 have hc6 := c_impl_validKey hx5
 refine st_call (cx_call hc6 (ent_f hc6.fn rfl) hn0 (H.sel' [0, 1] rfl rfl : Hp S0 σ0 _ ([] ++ _))) wn ?_
 rintro _ σ7 ⟨_, ⟨rfl, rfl⟩, H, -⟩
 replace H : Hp _ _ _ [_, _] := H
 refine sm (B r4) rfl ?_
 rcases Bool.eq_false_or_eq_true r4 with hb8 | hb8
 ·replace h := bif_t hb8 h
  refine st_g (v := (pt b1 1)) (congrArg some hb8) (rv_fieldAddr (off := 1) (ft := 23) Tryz.underlying54 rfl ti23 rfl rfl) ?_
  have hc9 := H.cell (u := (Sl Au As.2.1 Av)) (o' := 1) 0 1 rfl rfl rfl
  refine st_g (v := (Sl Au As.2.1 Av)) (congrArg some hb8) (rv_load1 Tryz.underlying23 rfl rfl hc9) ?_
  revert h; refine br fun r10 hx11 h => ?_
  have hc12 := c_impl_ValidVector (Aq := Au) (Ar := Av) hx11
  refine st_call (cx_call hc12 (ent_f hc12.fn rfl) hn0 (H.sel' [1, 0, 1] rfl rfl : Hp S0 σ0 _ ([_] ++ _))) (wanted_yes rfl (by exact (congrArg some hb8))) ?_
  rintro _ σ13 ⟨_, ⟨rfl, rfl⟩, H, -⟩
  replace H : Hp _ _ _ [_, _] := H
  refine st (v := (B r10)) (rv_pick_t (congrArg B hb8) rfl) (sm (B r10) rfl ?_)
  rcases Bool.eq_false_or_eq_true r10 with hb14 | hb14
  ·replace h := bif_t hb14 h
   refine st_g (v := (pt b1 2)) (congrArg some hb14) (rv_fieldAddr (off := 2) (ft := 3) Tryz.underlying54 rfl ti3 rfl rfl) ?_
   have hc15 := H.cell (u := (I As.2.2)) (o' := 2) 0 2 rfl rfl rfl
   refine st_g (v := (I As.2.2)) (congrArg some hb14) (rv_load1 Tryz.underlying3 rfl rfl hc15) ?_
   revert h; refine br fun r16 hx17 h => ?_
   have hc18 := c_impl_validTags hx17
   refine st_call (cx_call hc18 (ent_f hc18.fn rfl) hn0 (H.sel' [0, 1] rfl rfl : Hp S0 σ0 _ ([] ++ _))) (wanted_yes rfl (by exact (congrArg some hb14))) ?_
   rintro _ σ19 ⟨_, ⟨rfl, rfl⟩, H, -⟩
   replace H : Hp _ _ _ [_, _] := H
   refine st (v := (B r16)) (rv_pick_t (congrArg B hb14) rfl) (sa (B r16) rfl (w_end (q_then (c_ret ?_))))
   obtain rfl := sj h
   exact fin_ret (v := (B r16)) (results_ok Tryz.results75 (res_tmp (v := (B r16)) rfl res_nil) rfl) ⟨rfl, rfl⟩ (H.sel' [] rfl rfl)
  ·replace h := bif_f hb14 h
   refine st_skip (congrArg some hb14) (st_skip (congrArg some hb14) (st_skip (congrArg some hb14) (st (v := (B false)) (rv_pick_f (congrArg B hb14) rfl) (sa (B false) rfl (w_end (q_then (c_ret ?_)))))))
   obtain rfl := sj h
   exact fin_ret (v := (B false)) (results_ok Tryz.results75 (res_tmp (v := (B false)) rfl res_nil) rfl) ⟨rfl, rfl⟩ (H.sel' [] rfl rfl)
 ·replace h := bif_f hb8 h
  refine st_skip (congrArg some hb8) (st_skip (congrArg some hb8) (st_skip (congrArg some hb8) (st (v := (B false)) (rv_pick_f (congrArg B hb8) rfl) (sm (B false) rfl (st_skip rfl (st_skip rfl (st_skip rfl (st (v := (B false)) (rv_pick_f rfl rfl) (sa (B false) rfl (w_end (q_then ?_)))))))))))
  refine c_ret ?_
  obtain rfl := sj h
  exact fin_ret (v := (B false)) (results_ok Tryz.results75 (res_tmp (v := (B false)) rfl res_nil) rfl) ⟨rfl, rfl⟩ (H.sel' [] rfl rfl)

end Go.Vs
