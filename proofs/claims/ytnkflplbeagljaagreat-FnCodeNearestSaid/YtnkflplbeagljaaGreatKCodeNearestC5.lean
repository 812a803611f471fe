/- The functions compute what their models say. -/
import Derived.Test.YtnkflplbeagljaaGreatKCodeNearestC4
set_option linter.unusedVariables false
set_option linter.unusedSimpArgs false
set_option maxRecDepth 20000
namespace Go.Vs
open Go Go.Proofs
attribute [local irreducible] Code.wp Code.wpIn wpList wpListIn wpQuiet Calls CallsIn

theorem c_spec_addHit {Bg : List (Int × Int)} {Ec : Int × Int} {Gn : Int} {Bi : Option Addr} {Bj : Nat} {r : (List (Int × Int))} (h : M.spec_addHit Bg Ec Gn = some r) :
    Cal2 Tryz.prog 70 [(Sl Bi Bg Bj), (.agg #[(I Ec.1), (I Ec.2)]), (I Gn)] [Ch.ro 0 (Sl Bi Bg Bj) Bg] (fun n0 v L => ∃ (az1 : Option Addr), ∃ (cz2 : Nat), v = (Sl az1 r cz2) ∧ L = [Ch.own n0 n0 (Sl az1 r cz2) r]) := by
 refine cal2 (n := 58) Tryz.func70 rfl rfl rfl rfl ?_
 intro S0 σ0 n0 hn0 H
 unfold M.spec_addHit at h
 refine c_seq (rg (st_ex (ex_box (cs := [(I Ec.1), (I Ec.2)]) H hn0 rfl rfl) wn ?_))
 rintro _ σ2 ⟨b1, rfl, H, -⟩
 refine sa (.slice none 0 0) rfl (w_end (q_then (c_seq ?_)))
 revert h; refine br fun xs4 hx5 h => ?_
 have hc8 := H.cells 0 rfl
 have Hs := H
 refine rg2 (σ := σ2) (Nm := (Nat) × (Option Addr) × (Nat) × (Nat)) 5 [0, 2, 4] [[false, false, false], [true, false, false], [false, false, true], [true, true, false], [true, false, true], [true, true, true]] [[(0, 1), (2, 4)], [(0, 0), (1, 1), (2, 2), (4, 4)], [(1, 3), (4, 5)], [(0, 0), (1, 1), (3, 3)], [(0, 2), (1, 4), (3, 5)]] 5 [fun ((b3, a6, c7, b9) : (Nat) × (Option Addr) × (Nat) × (Nat)) => fun σm => Hp S0 σ0 σm [Ch.bx n0 b1 0 [(I Ec.1), (I Ec.2)] [] [], Ch.ro 0 (Sl Bi Bg Bj) Bg] ∧ Md (cov []) σ2 σm, fun ((b3, a6, c7, b9) : (Nat) × (Option Addr) × (Nat) × (Nat)) => fun σm => Hp S0 σ0 σm [Ch.own n0 n0 (Sl (some ⟨b3, 0, none⟩) ([] : List (Int × Int)) 0) ([] : List (Int × Int)), Ch.bx n0 b1 0 [(I Ec.1), (I Ec.2)] [] [], Ch.ro 0 (Sl Bi Bg Bj) Bg] ∧ Md (cov []) σ2 σm, fun ((b3, a6, c7, b9) : (Nat) × (Option Addr) × (Nat) × (Nat)) => fun σm => Hp S0 σ0 σm [Ch.own n0 n0 (Sl (some ⟨b9, 0, none⟩) ([(Ec.1, Ec.2)] : List (Int × Int)) 1) ([(Ec.1, Ec.2)] : List (Int × Int)), Ch.bx n0 b1 0 [(I Ec.1), (I Ec.2)] [] [], Ch.ro 0 (Sl Bi Bg Bj) Bg] ∧ Md (cov []) σ2 σm, fun ((b3, a6, c7, b9) : (Nat) × (Option Addr) × (Nat) × (Nat)) => fun σm => Hp S0 σ0 σm [Ch.own n0 n0 (Sl a6 xs4 c7) xs4, Ch.bx n0 b1 0 [(I Ec.1), (I Ec.2)] [] [], Ch.ro 0 (Sl Bi Bg Bj) Bg] ∧ Md (fun i => (cov []) i ∨ (fun b => blk (Sl (some ⟨b3, 0, none⟩) ([] : List (Int × Int)) 0) = some b) i) σ2 σm, fun ((b3, a6, c7, b9) : (Nat) × (Option Addr) × (Nat) × (Nat)) => fun σm => Hp S0 σ0 σm [Ch.own n0 n0 (Sl (some ⟨b9, 0, none⟩) ([(Ec.1, Ec.2)] : List (Int × Int)) 1) ([(Ec.1, Ec.2)] : List (Int × Int)), Ch.own n0 n0 (Sl (some ⟨b3, 0, none⟩) ([] : List (Int × Int)) 0) ([] : List (Int × Int)), Ch.bx n0 b1 0 [(I Ec.1), (I Ec.2)] [] [], Ch.ro 0 (Sl Bi Bg Bj) Bg] ∧ Md (cov []) σ2 σm, fun ((b3, a6, c7, b9) : (Nat) × (Option Addr) × (Nat) × (Nat)) => fun σm => Hp S0 σ0 σm [Ch.own n0 n0 (Sl (some ⟨b9, 0, none⟩) ([(Ec.1, Ec.2)] : List (Int × Int)) 1) ([(Ec.1, Ec.2)] : List (Int × Int)), Ch.own n0 n0 (Sl a6 xs4 c7) xs4, Ch.bx n0 b1 0 [(I Ec.1), (I Ec.2)] [] [], Ch.ro 0 (Sl Bi Bg Bj) Bg] ∧ Md (fun i => (cov []) i ∨ (fun b => blk (Sl (some ⟨b3, 0, none⟩) ([] : List (Int × Int)) 0) = some b) i) σ2 σm] [fun ((b3, a6, c7, b9) : (Nat) × (Option Addr) × (Nat) × (Nat)) => (Sl (some ⟨b3, 0, none⟩) ([] : List (Int × Int)) 0), fun ((b3, a6, c7, b9) : (Nat) × (Option Addr) × (Nat) × (Nat)) => (Sl Bi Bg Bj), fun ((b3, a6, c7, b9) : (Nat) × (Option Addr) × (Nat) × (Nat)) => (Sl a6 xs4 c7), fun ((b3, a6, c7, b9) : (Nat) × (Option Addr) × (Nat) × (Nat)) => (.agg #[(I Ec.1), (I Ec.2)]), fun ((b3, a6, c7, b9) : (Nat) × (Option Addr) × (Nat) × (Nat)) => (Sl (some ⟨b9, 0, none⟩) ([(Ec.1, Ec.2)] : List (Int × Int)) 1)] (0, none, 0, 0) (by kernel_rfl) (by kernel_rfl) ?_ ?_ ?_
 ·intro σm m0
  exact ⟨H.grow (m0.mono fun _ h => h.elim), m0⟩
 ·refine all_cons (by
    refine ⟨?_, ?_⟩
    ·rintro ⟨b3, a6, c7, b9⟩ ρ σm hJ hoff hdep
     obtain ⟨H, m⟩ := id hJ
     refine dp_ex wn (ex_buildSlice (el := n0) (xs := ([] : List (Int × Int))) (ps := []) (cs := []) H hn0 Tryz.underlying27 ti44 rfl rfl (by kernel_rfl) (.nil) rfl) ?_
     rintro _ σq ⟨b3x, rfl, H2, m2⟩
     exact ⟨_, (b3x, a6, c7, b9), rfl, rfl, ⟨H2.sel' [0, 1, 2] rfl rfl, m.comp0 m2⟩, stab [1, 3, 4] (by kernel_rfl) ⟨rfl, rfl, rfl, trivial⟩⟩
    refine ⟨?_, ?_⟩
    ·rintro ⟨b3, a6, c7, b9⟩ ρ σm hJ hoff hdep
     obtain ⟨H, m⟩ := id hJ
     refine dp_ex wn (ex_buildSlice (el := n0) (xs := ([] : List (Int × Int))) (ps := []) (cs := []) H hn0 Tryz.underlying27 ti44 rfl rfl (by kernel_rfl) (.nil) rfl) ?_
     rintro _ σq ⟨b3x, rfl, H2, m2⟩
     exact ⟨_, (b3x, a6, c7, b9), rfl, rfl, ⟨H2.sel' [1, 0, 2, 3] rfl rfl, m.comp0 m2⟩, stab [1, 3, 4] (by kernel_rfl) ⟨rfl, rfl, rfl, trivial⟩⟩
    trivial) ?_
  refine ac rfl (by
    intro k; rintro ⟨b3, a6, c7, b9⟩ ρ σm hJ hoff hdep
    have e0 := look_off (N := 58) (hoff 0 rfl) rfl
    exact dp_v (v := (Sl Bi Bg Bj)) wn (rv_move e0) rfl hJ) ?_
  refine all_cons (by
    refine ⟨?_, ?_⟩
    ·rintro ⟨b3, a6, c7, b9⟩ ρ σm hJ hoff hdep
     have e10 := hdep 0 rfl rfl 10 rfl
     have e11 := hdep 1 rfl rfl 11 rfl
     obtain ⟨H, m⟩ := id hJ
     refine dp_ex wn (ex_append H (i := 0) rfl Tryz.underlying27 Tryz.underlying27 ti44 rfl rfl (by decide) ((H.ro 2 rfl).rd.sc) hx5 hn0 e10 e11) ?_
     rintro _ σq ⟨a6x, c7x, rfl, H2, m2⟩
     exact ⟨_, (b3, a6x, c7x, b9), rfl, rfl, ⟨H2.sel' [0, 1, 2] rfl rfl, m.comp m2⟩, stab [0, 1, 3, 4] (by kernel_rfl) ⟨rfl, rfl, rfl, rfl, trivial⟩⟩
    refine ⟨?_, ?_⟩
    ·rintro ⟨b3, a6, c7, b9⟩ ρ σm hJ hoff hdep
     have e10 := hdep 0 rfl rfl 10 rfl
     have e11 := hdep 1 rfl rfl 11 rfl
     obtain ⟨H, m⟩ := id hJ
     refine dp_ex wn (ex_append H (i := 1) rfl Tryz.underlying27 Tryz.underlying27 ti44 rfl rfl (by decide) ((H.ro 3 rfl).rd.sc) hx5 hn0 e10 e11) ?_
     rintro _ σq ⟨a6x, c7x, rfl, H2, m2⟩
     exact ⟨_, (b3, a6x, c7x, b9), rfl, rfl, ⟨H2.sel' [1, 0, 2, 3] rfl rfl, m.comp m2⟩, stab [0, 1, 3, 4] (by kernel_rfl) ⟨rfl, rfl, rfl, rfl, trivial⟩⟩
    trivial) ?_
  refine all_cons (by
    refine ⟨?_, ?_⟩
    ·rintro ⟨b3, a6, c7, b9⟩ ρ σm hJ hoff hdep
     have e4 := look_off (N := 58) (hoff 4 rfl) rfl
     obtain ⟨H, m⟩ := id hJ
     have hc8 := H.cells 0 rfl
     exact dp_v (v := (.agg #[(I Ec.1), (I Ec.2)])) wn (rv_load (cs := [(I Ec.1), (I Ec.2)]) Tryz.underlying44 rfl ti44 e4 rfl hc8) rfl hJ
    refine ⟨?_, ?_⟩
    ·rintro ⟨b3, a6, c7, b9⟩ ρ σm hJ hoff hdep
     have e4 := look_off (N := 58) (hoff 4 rfl) rfl
     obtain ⟨H, m⟩ := id hJ
     have hc8 := H.cells 1 rfl
     exact dp_v (v := (.agg #[(I Ec.1), (I Ec.2)])) wn (rv_load (cs := [(I Ec.1), (I Ec.2)]) Tryz.underlying44 rfl ti44 e4 rfl hc8) rfl hJ
    refine ⟨?_, ?_⟩
    ·rintro ⟨b3, a6, c7, b9⟩ ρ σm hJ hoff hdep
     have e4 := look_off (N := 58) (hoff 4 rfl) rfl
     obtain ⟨H, m⟩ := id hJ
     have hc8 := H.cells 1 rfl
     exact dp_v (v := (.agg #[(I Ec.1), (I Ec.2)])) wn (rv_load (cs := [(I Ec.1), (I Ec.2)]) Tryz.underlying44 rfl ti44 e4 rfl hc8) rfl hJ
    trivial) ?_
  refine all_cons (by
    refine ⟨?_, ?_⟩
    ·rintro ⟨b3, a6, c7, b9⟩ ρ σm hJ hoff hdep
     have e13 : look 58 ρ 13 = (.agg #[(I Ec.1), (I Ec.2)]) := hdep 3 rfl rfl 13 rfl
     obtain ⟨H, m⟩ := id hJ
     refine dp_ex wn (ex_buildSlice (el := n0) (xs := ([(Ec.1, Ec.2)] : List (Int × Int))) (ps := [(0, (.agg #[(I Ec.1), (I Ec.2)]))]) (cs := [(I Ec.1), (I Ec.2)]) H hn0 Tryz.underlying27 ti44 rfl (by show [(0, look 58 ρ 13)] = _; rw [e13]) (by kernel_rfl) (.cons (c := [(I Ec.1), (I Ec.2)]) ⟨[(I Ec.1)], [(I Ec.2)], rfl, rfl, rfl⟩ (.nil)) rfl) ?_
     rintro _ σq ⟨b9x, rfl, H2, m2⟩
     exact ⟨_, (b3, a6, c7, b9x), rfl, rfl, ⟨H2.sel' [0, 1, 2] rfl rfl, m.comp0 m2⟩, stab [0, 1, 2, 3] (by kernel_rfl) ⟨rfl, rfl, rfl, rfl, trivial⟩⟩
    refine ⟨?_, ?_⟩
    ·rintro ⟨b3, a6, c7, b9⟩ ρ σm hJ hoff hdep
     have e13 : look 58 ρ 13 = (.agg #[(I Ec.1), (I Ec.2)]) := hdep 3 rfl rfl 13 rfl
     obtain ⟨H, m⟩ := id hJ
     refine dp_ex wn (ex_buildSlice (el := n0) (xs := ([(Ec.1, Ec.2)] : List (Int × Int))) (ps := [(0, (.agg #[(I Ec.1), (I Ec.2)]))]) (cs := [(I Ec.1), (I Ec.2)]) H hn0 Tryz.underlying27 ti44 rfl (by show [(0, look 58 ρ 13)] = _; rw [e13]) (by kernel_rfl) (.cons (c := [(I Ec.1), (I Ec.2)]) ⟨[(I Ec.1)], [(I Ec.2)], rfl, rfl, rfl⟩ (.nil)) rfl) ?_
     rintro _ σq ⟨b9x, rfl, H2, m2⟩
     exact ⟨_, (b3, a6, c7, b9x), rfl, rfl, ⟨H2.sel' [0, 1, 2, 3] rfl rfl, m.comp0 m2⟩, stab [0, 1, 2, 3] (by kernel_rfl) ⟨rfl, rfl, rfl, rfl, trivial⟩⟩
    refine ⟨?_, ?_⟩
    ·rintro ⟨b3, a6, c7, b9⟩ ρ σm hJ hoff hdep
     have e13 : look 58 ρ 13 = (.agg #[(I Ec.1), (I Ec.2)]) := hdep 3 rfl rfl 13 rfl
     obtain ⟨H, m⟩ := id hJ
     refine dp_ex wn (ex_buildSlice (el := n0) (xs := ([(Ec.1, Ec.2)] : List (Int × Int))) (ps := [(0, (.agg #[(I Ec.1), (I Ec.2)]))]) (cs := [(I Ec.1), (I Ec.2)]) H hn0 Tryz.underlying27 ti44 rfl (by show [(0, look 58 ρ 13)] = _; rw [e13]) (by kernel_rfl) (.cons (c := [(I Ec.1), (I Ec.2)]) ⟨[(I Ec.1)], [(I Ec.2)], rfl, rfl, rfl⟩ (.nil)) rfl) ?_
     rintro _ σq ⟨b9x, rfl, H2, m2⟩
     exact ⟨_, (b3, a6, c7, b9x), rfl, rfl, ⟨H2.sel' [0, 1, 2, 3] rfl rfl, m.comp0 m2⟩, stab [0, 1, 2, 3] (by kernel_rfl) ⟨rfl, rfl, rfl, rfl, trivial⟩⟩
    trivial) ?_
  exact all_nil
 ·rintro ⟨b3, a6, c7, b9⟩ ρ σ10 hJ hoff hrel
  have e2 := look_off (N := 58) (hoff 2 rfl) rfl
  have e12 := hrel 2 rfl 12 rfl
  have e14 := hrel 4 rfl 14 rfl
  obtain ⟨H, -⟩ := (show Hp S0 σ0 σ10 [Ch.own n0 n0 (Sl (some ⟨b9, 0, none⟩) ([(Ec.1, Ec.2)] : List (Int × Int)) 1) ([(Ec.1, Ec.2)] : List (Int × Int)), Ch.own n0 n0 (Sl a6 xs4 c7) xs4, Ch.bx n0 b1 0 [(I Ec.1), (I Ec.2)] [] [], Ch.ro 0 (Sl Bi Bg Bj) Bg] ∧ Md (fun i => (cov []) i ∨ (fun b => blk (Sl (some ⟨b3, 0, none⟩) ([] : List (Int × Int)) 0) = some b) i) σ2 σ10 from hJ)
  clear hJ Hs
  rw [fr_lookL (L := [(2, (I Gn)), (12, (Sl a6 xs4 c7)), (14, (Sl (some ⟨b9, 0, none⟩) ([(Ec.1, Ec.2)] : List (Int × Int)) 1))]) ⟨e2, e12, e14, trivial⟩]
  clear hoff hrel e2 e12 e14
  revert h; refine br fun xs11 hx12 h => ?_
  refine st_ex (ex_append H (i := 1) rfl Tryz.underlying27 Tryz.underlying27 ti44 rfl rfl (by decide) (H.own 0 rfl).rd hx12 hn0 rfl rfl) wn ?_
  rintro _ σ15 ⟨a13, c14, rfl, H, -⟩
  refine sa (Sl a13 xs11 c14) rfl (w_end (q_then (c_seq (c_seq (rg (sm (Sl a13 xs11 c14) rfl (st (v := (I (xs11.length : Int))) (rv_len Tryz.underlying27 rfl) (st (v := (I (w64 ((xs11.length : Int) - 1)))) (rv_sub (a := (xs11.length : Int)) (b := 1) rfl rfl) (sa (I (w64 ((xs11.length : Int) - 1))) rfl (w_end (q_then ?_)))))))))))
  obtain ⟨o16, hj, h'⟩ := bind_some h
  clear h
  refine c_cut (fun e a w => e = .normal ∧ ∃ (ρ : Nat → Value) (σ : St), a = fr 58 (updL ρ [(2, (I Gn)), (7, (Sl a13 o16 c14))]) ∧ w = σ.w ∧ Hp S0 σ0 σ [Ch.own n0 n0 (Sl a13 o16 c14) o16] ∧ o16.length = xs11.length) ?_ ?_
  ·clear h'
   rename _ = some o16 => h
   refine c_blk (wp_loopM _ h (fun s17 a w => ∃ (ρ : Nat → Value) (σ : St), a = fr 58 (updL ρ [(2, (I Gn)), (7, (Sl a13 s17.1 c14)), (8, (I s17.2))]) ∧ w = σ.w ∧ Hp S0 σ0 σ [Ch.own n0 n0 (Sl a13 s17.1 c14) s17.1] ∧ s17.1.length = xs11.length) ⟨_, σ15, fr_join ⟨rfl, rfl, rfl, trivial⟩, rfl, H.sel' [0] rfl rfl, rfl⟩ ?_)
   clear h H
   rintro s17 a w o ⟨ρ, σ18, rfl, rfl, H, hn19⟩ h hres
   refine c_seq (c_seq ?_)
   obtain ⟨o20, hj, h'⟩ := bind_some h
   clear h
   refine c_cut (fun e a w => e = .normal ∧ ∃ (ρ : Nat → Value) (σ : St), a = fr 58 (updL ρ [(2, (I Gn)), (7, (Sl a13 s17.1 c14)), (8, (I s17.2)), (32, (B o20))]) ∧ w = σ.w ∧ Hp S0 σ0 σ [Ch.own n0 n0 (Sl a13 s17.1 c14) s17.1]) ?_ ?_
   ·clear h'
    rename _ = some o20 => h
    refine rgP (σ := σ18) 12 (by kernel_rfl) (by kernel_rfl) (by kernel_rfl) ?_
    refine sq (v := (I s17.2)) (rv_move rfl) (sq (v := (B (decide (0 < s17.2)))) (rv_gtr (a := s17.2) (b := 0) rfl rfl) (sq (v := (B (decide (0 < s17.2)))) (rv_move rfl) ?_))
    rcases Bool.eq_false_or_eq_true (decide (0 < s17.2)) with hb21 | hb21
    ·replace h := bif_t hb21 h
     refine sq_g (v := (Sl a13 s17.1 c14)) (congrArg some hb21) (rv_move rfl) (sq_g (v := (I s17.2)) (congrArg some hb21) (rv_move rfl) ?_)
     revert h; refine br fun x22 hx23 h => ?_
     obtain ⟨b25, o26, hi24, -⟩ := (H.own 0 rfl).ix hx23
     refine sq_g (v := (pt b25 o26)) (congrArg some hb21) (rv_ix Tryz.underlying27 ti44 rfl rfl hi24) ?_
     obtain ⟨_, ⟨_, _, rfl, rfl, rfl⟩, hl27, hc28⟩ := ((H.own 0 rfl).at hx23 hi24).cells
     refine sq_g (v := (.agg #[(I x22.1), (I x22.2)])) (congrArg some hb21) (rv_load Tryz.underlying44 rfl ti44 rfl hl27 hc28) (sq_g (v := (Sl a13 s17.1 c14)) (congrArg some hb21) (rv_move rfl) (sq_g (v := (I s17.2)) (congrArg some hb21) (rv_move rfl) (sq_g (v := (I (w64 (s17.2 - 1)))) (congrArg some hb21) (rv_sub (a := s17.2) (b := 1) rfl rfl) ?_)))
     revert h; refine br fun x29 hx30 h => ?_
     obtain ⟨b32, o33, hi31, -⟩ := (H.own 0 rfl).ix hx30
     refine sq_g (v := (pt b32 o33)) (congrArg some hb21) (rv_ix Tryz.underlying27 ti44 rfl rfl hi31) ?_
     obtain ⟨_, ⟨_, _, rfl, rfl, rfl⟩, hl34, hc35⟩ := ((H.own 0 rfl).at hx30 hi31).cells
     refine sq_g (v := (.agg #[(I x29.1), (I x29.2)])) (congrArg some hb21) (rv_load Tryz.underlying44 rfl ti44 rfl hl34 hc35) (sq_end ?_)
     intro σ36 hm37
     replace H := H.grow (hm37.mono fun _ h => h); clear hm37
     revert h; refine br fun r38 hx39 h => ?_
     have hc40 := c_spec_nearer hx39
     refine st_call (cx_call hc40 (ent_f hc40.fn rfl) hn0 (H.sel' [0] rfl rfl : Hp S0 σ0 _ ([] ++ _))) (wanted_yes rfl (by exact (congrArg some hb21))) ?_
     rintro _ σ41 ⟨_, ⟨rfl, rfl⟩, H, -⟩
     replace H : Hp _ _ _ [_] := H
     refine st (v := (B r38)) (rv_pick_t (congrArg B hb21) rfl) (w_end ?_)
     obtain rfl := sj h
     exact ⟨rfl, _, σ41, fr_join ⟨rfl, rfl, rfl, rfl, trivial⟩, rfl, H.sel' [0] rfl rfl⟩
    ·replace h := bif_f hb21 h
     refine sq_skip (congrArg some hb21) (sq_skip (congrArg some hb21) (sq_skip (congrArg some hb21) (sq_skip (congrArg some hb21) (sq_skip (congrArg some hb21) (sq_skip (congrArg some hb21) (sq_skip (congrArg some hb21) (sq_skip (congrArg some hb21) (sq_skip (congrArg some hb21) (sq_end ?_)))))))))
     intro σ42 hm43
     replace H := H.grow (hm43.mono fun _ h => h); clear hm43
     refine st_skip (congrArg some hb21) (st (v := (B false)) (rv_pick_f (congrArg B hb21) rfl) (w_end ?_))
     obtain rfl := sj h
     exact ⟨rfl, _, σ42, fr_join ⟨rfl, rfl, rfl, rfl, trivial⟩, rfl, H.sel' [0] rfl rfl⟩
   ·clear hj
    have h := h'
    clear h' H
    rintro e a w ⟨rfl, ρ, σ44, rfl, rfl, H⟩
    refine q_then ?_
    refine cd_cond o20 rfl (fun hb45 => ?_) (fun hb45 => ?_)
    ·replace h := bif_t hb45 h
     refine c_skip (q_then (c_seq (c_blk (c_seq (rg (sm (Sl a13 s17.1 c14) rfl (sm (I s17.2) rfl ?_)))))))
     revert h; refine br fun x46 hx47 h => ?_
     obtain ⟨b49, o50, hi48, -⟩ := (H.own 0 rfl).ix hx47
     refine st (v := (pt b49 o50)) (rv_ix Tryz.underlying27 ti44 rfl rfl hi48) ?_
     obtain ⟨_, ⟨_, _, rfl, rfl, rfl⟩, hl51, hc52⟩ := ((H.own 0 rfl).at hx47 hi48).cells
     refine st (v := (.agg #[(I x46.1), (I x46.2)])) (rv_load Tryz.underlying44 rfl ti44 rfl hl51 hc52) (st_ex (ex_alloc (cs := [(I 0), (I 0)]) H hn0 ti44 rfl) wn ?_)
     rintro _ σ54 ⟨b53, rfl, H, -⟩
     refine st_exS (ex_store_box (k := 0) (cs := [(I 0), (I 0)]) (vs := [(I x46.1), (I x46.2)]) (cs' := [(I x46.1), (I x46.2)]) H (i := 0) rfl ti44 rfl rfl rfl rfl rfl (Nat.le_of_ble_eq_true rfl) (by simp [plain]) rfl) wn ?_
     rintro σ55 ⟨H, -⟩
     refine w_end (q_then (c_seq (rg (sm (Sl a13 s17.1 c14) rfl (sm (I s17.2) rfl (sm (Sl a13 s17.1 c14) rfl (sm (I s17.2) rfl (st (v := (I (w64 (s17.2 - 1)))) (rv_sub (a := s17.2) (b := 1) rfl rfl) ?_))))))))
     revert h; refine br fun x56 hx57 h => ?_
     obtain ⟨b59, o60, hi58, -⟩ := (H.own 1 rfl).ix hx57
     refine st (v := (pt b59 o60)) (rv_ix Tryz.underlying27 ti44 rfl rfl hi58) ?_
     obtain ⟨_, ⟨_, _, rfl, rfl, rfl⟩, hl61, hc62⟩ := ((H.own 1 rfl).at hx57 hi58).cells
     refine st (v := (.agg #[(I x56.1), (I x56.2)])) (rv_load Tryz.underlying44 rfl ti44 rfl hl61 hc62) ?_
     revert h; refine br fun x63 hx64 h => ?_
     obtain ⟨b66, o67, hi65, -⟩ := (H.own 1 rfl).ix hx64
     refine st (v := (pt b66 o67)) (rv_ix Tryz.underlying27 ti44 rfl rfl hi65) ?_
     refine st_exS (ex_store_own (e' := (x56.1, x56.2)) (vs := [(I x56.1), (I x56.2)]) (k := 0) H (i := 1) rfl ti44 hx64 hi65 rfl rfl rfl rfl rfl (Nat.le_of_ble_eq_true rfl) (by simp [plain]) (by rintro _ ⟨_, _, rfl, rfl, rfl⟩; exact ⟨[(I x56.1)], [(I x56.2)], rfl, rfl, rfl⟩)) wn ?_
     rintro σ68 ⟨H, -⟩
     have hsl : (Sl a13 s17.1 c14) = (Sl a13 (s17.1.set s17.2.toNat (x56.1, x56.2)) c14) := sl_len List.length_set.symm
     rw [hsl]; rw [hsl] at H; clear hsl
     refine w_end (q_then (rg (sm (Sl a13 (s17.1.set s17.2.toNat (x56.1, x56.2)) c14) rfl (sm (I s17.2) rfl (st (v := (I (w64 (s17.2 - 1)))) (rv_sub (a := s17.2) (b := 1) rfl rfl) ?_)))))
     have hc69 := H.cells 1 rfl
     refine st (v := (.agg #[(I x46.1), (I x46.2)])) (rv_load (cs := [(I x46.1), (I x46.2)]) Tryz.underlying44 rfl ti44 rfl rfl hc69) ?_
     revert h; refine br fun x70 hx71 h => ?_
     obtain ⟨b73, o74, hi72, -⟩ := (H.own 0 rfl).ix hx71
     refine st (v := (pt b73 o74)) (rv_ix Tryz.underlying27 ti44 rfl rfl hi72) ?_
     refine st_exS (ex_store_own (e' := (x46.1, x46.2)) (vs := [(I x46.1), (I x46.2)]) (k := 0) H (i := 0) rfl ti44 hx71 hi72 rfl rfl rfl rfl rfl (Nat.le_of_ble_eq_true rfl) (by simp [plain]) (by rintro _ ⟨_, _, rfl, rfl, rfl⟩; exact ⟨[(I x46.1)], [(I x46.2)], rfl, rfl, rfl⟩)) wn ?_
     rintro σ75 ⟨H, -⟩
     have hsl : (Sl a13 (s17.1.set s17.2.toNat (x56.1, x56.2)) c14) = (Sl a13 ((s17.1.set s17.2.toNat (x56.1, x56.2)).set (w64 (s17.2 - 1)).toNat (x46.1, x46.2)) c14) := sl_len List.length_set.symm
     rw [hsl]; rw [hsl] at H; clear hsl
     refine w_end (q_blk (q_then (rg (sm (I s17.2) rfl (st (v := (I (w64 (s17.2 - 1)))) (rv_sub (a := s17.2) (b := 1) rfl rfl) (sa (I (w64 (s17.2 - 1))) rfl (w_end (q_then ?_))))))))
     obtain rfl := sj h
     exact ⟨_, rfl, _, σ75, fr_join ⟨rfl, rfl, rfl, trivial⟩, rfl, H.sel' [0] rfl rfl, (List.length_set.trans (List.length_set.trans hn19))⟩
    ·replace h := bif_f hb45 h
     refine c_exit (q_then_x (q_then_x (q_blk_hit ?_)))
     obtain rfl := sj h
     obtain rfl := hres _ rfl
     exact ⟨rfl, _, σ44, fr_join ⟨rfl, rfl, trivial⟩, rfl, H.sel' [0] rfl rfl, hn19⟩
  ·clear hj
   have h := h'
   clear h' H
   rintro e a w ⟨rfl, ρ, σ76, rfl, rfl, H, hn77⟩
   refine q_then (c_seq (rg (sm (Sl a13 o16 c14) rfl (sm (I Gn) rfl (sm (Sl a13 o16 c14) rfl (st (v := (I (o16.length : Int))) (rv_len Tryz.underlying27 rfl) (st (v := (I (min Gn (o16.length : Int)))) (rv_min rfl rfl) ?_)))))))
   revert h; refine br fun xs78 hx79 h => ?_
   obtain ⟨a80, c81, hs82, hR83, hb84⟩ := (H.own 0 rfl).slice hx79
   replace H := (H.front (i := 0) rfl).turn (d := Ch.own n0 n0 (Sl a80 xs78 c81) xs78) (fun _ => hR83) hb84; clear hR83 hb84
   refine st (v := (Sl a80 xs78 c81)) (rv_slice_h Tryz.underlying27 ti44 hs82 rfl rfl) (sa (Sl a80 xs78 c81) rfl (w_end (q_then (c_ret ?_))))
   obtain rfl := sj h
   exact fin_ret (v := (Sl a80 xs78 c81)) (results_ok Tryz.results70 (res_tmp (v := (Sl a80 xs78 c81)) rfl res_nil) rfl) ⟨a80, c81, rfl, rfl⟩ (H.sel' [0] rfl rfl)

theorem c_spec_size {Cb : Int}  {r : Int} (h : M.spec_size Cb = some r) :
    Cal2 Tryz.prog 116 [(I Cb)] [] (fun n0 v L => v = (I r) ∧ L = []) := by
 refine cal2 (n := 7) Tryz.func116 rfl rfl rfl rfl ?_
 intro S0 σ0 n0 hn0 H
 unfold M.spec_size at h
 refine c_seq (rg (sa (I 0) rfl (w_end (q_then (c_seq (rg (sm (I Cb) rfl (sm (I Cb) rfl (st (v := (I (w64 (0 - Cb)))) (rv_neg (a := Cb) rfl) (st (v := (I (max Cb (w64 (0 - Cb))))) (rv_max rfl rfl) (sa (I (max Cb (w64 (0 - Cb)))) rfl ?_)))))))))))
 refine w_end (q_then (c_ret ?_))
 obtain rfl := sj h
 exact fin_ret (v := (I (max Cb (w64 (0 - Cb))))) (results_ok Tryz.results116 (res_tmp (v := (I (max Cb (w64 (0 - Cb))))) rfl res_nil) rfl) ⟨rfl, rfl⟩ (H.sel' [] rfl rfl)

theorem c_spec_toInt {Cu : Bool}  {r : Int} (h : M.spec_toInt Cu = some r) :
    Cal2 Tryz.prog 117 [(B Cu)] [] (fun n0 v L => v = (I r) ∧ L = []) := by
 refine cal2 (n := 4) Tryz.func117 rfl rfl rfl rfl ?_
 intro S0 σ0 n0 hn0 H
 unfold M.spec_toInt at h
 refine c_seq (rg (sa (I 0) rfl (w_end (q_then (c_seq (c_seq (rg (sm (B Cu) rfl (w_end (q_then ?_))))))))))
 refine cd_cond Cu rfl (fun hb1 => ?_) (fun hb1 => ?_)
 ·replace h := bif_t hb1 h
  refine c_seq (rg (sa (I 1) rfl (w_end (q_then (c_ret (q_then_r ?_))))))
  obtain rfl := sj h
  exact fin_ret (v := (I 1)) (results_ok Tryz.results117 (res_tmp (v := (I 1)) rfl res_nil) rfl) ⟨rfl, rfl⟩ (H.sel' [] rfl rfl)
 ·replace h := bif_f hb1 h
  refine c_skip (q_then (c_seq (rg (sa (I 0) rfl (w_end (q_then (c_ret ?_)))))))
  obtain rfl := sj h
  exact fin_ret (v := (I 0)) (results_ok Tryz.results117 (res_tmp (v := (I 0)) rfl res_nil) rfl) ⟨rfl, rfl⟩ (H.sel' [] rfl rfl)

theorem c_spec_dist {Dj : Int} {Gp : List Int} {Gq : List Int} {Gr : Option Addr} {Gs : Nat} {Gt : Option Addr} {Gu : Nat} {r : Int} (h : M.spec_dist Dj Gp Gq = some r) :
    Cal2 Tryz.prog 71 [(I Dj), (Sl Gr Gp Gs), (Sl Gt Gq Gu)] [Ch.ro 0 (Sl Gr Gp Gs) Gp, Ch.ro 0 (Sl Gt Gq Gu) Gq] (fun n0 v L => v = (I r) ∧ L = []) := by
 refine cal2 (n := 50) Tryz.func71 rfl rfl rfl rfl ?_
 intro S0 σ0 n0 hn0 H
 unfold M.spec_dist at h
 refine c_seq (rg (sa (I 0) rfl (w_end (q_then (c_seq (rg (sa (I 0) rfl (w_end (q_then (c_seq (c_seq ?_)))))))))))
 refine rg (sa (I 0) rfl (w_end (q_then ?_)))
 obtain ⟨o1, hj, h'⟩ := bind_some h
 clear h
 refine c_cut (fun e a w => e = .normal ∧ ∃ (ρ : Nat → Value) (σ : St), a = fr 50 (updL ρ [(7, (I o1))]) ∧ w = σ.w ∧ Hp S0 σ0 σ []) ?_ ?_
 ·clear h'
  rename _ = some o1 => h
  refine c_blk (wp_loopM _ h (fun s2 a w => ∃ (ρ : Nat → Value) (σ : St), a = fr 50 (updL ρ [(0, (I Dj)), (1, (Sl Gr Gp Gs)), (2, (Sl Gt Gq Gu)), (7, (I s2.1)), (8, (I s2.2))]) ∧ w = σ.w ∧ Hp S0 σ0 σ [Ch.ro 0 (Sl Gr Gp Gs) Gp, Ch.ro 0 (Sl Gt Gq Gu) Gq]) ⟨_, σ0, fr_join ⟨rfl, rfl, rfl, rfl, rfl, trivial⟩, rfl, H.sel' [0, 1] rfl rfl⟩ ?_)
  clear h H
  rintro s2 a w o ⟨ρ, σ3, rfl, rfl, H⟩ h hres
  refine c_seq (c_seq (rg (sm (I s2.2) rfl (sm (Sl Gr Gp Gs) rfl (st (v := (I (Gp.length : Int))) (rv_len Tryz.underlying24 rfl) (st (v := (B (decide (s2.2 < (Gp.length : Int))))) (rv_lss (a := s2.2) (b := (Gp.length : Int)) rfl rfl) (w_end (q_then ?_))))))))
  refine cd_cond (decide (s2.2 < (Gp.length : Int))) rfl (fun hb4 => ?_) (fun hb4 => ?_)
  ·replace h := bif_t hb4 h
   refine c_skip (q_then (c_seq ?_))
   obtain ⟨o5, hj, h'⟩ := bind_some h
   clear h
   refine c_cut (fun e a w => e = .normal ∧ ∃ (ρ : Nat → Value) (σ : St), a = fr 50 (updL ρ [(0, (I Dj)), (1, (Sl Gr Gp Gs)), (2, (Sl Gt Gq Gu)), (7, (I o5)), (8, (I s2.2))]) ∧ w = σ.w ∧ Hp S0 σ0 σ [Ch.ro 0 (Sl Gr Gp Gs) Gp, Ch.ro 0 (Sl Gt Gq Gu) Gq]) ?_ ?_
   ·clear h'
    rename _ = some o5 => h
    refine c_blk (c_seq ?_)
    refine rgP (σ := σ3) 8 (by kernel_rfl) (by kernel_rfl) (by kernel_rfl) ?_
    refine sq (v := (Sl Gr Gp Gs)) (rv_move rfl) (sq (v := (I s2.2)) (rv_move rfl) ?_)
    revert h; refine br fun x6 hx7 h => ?_
    obtain ⟨b9, o10, hi8, -⟩ := (H.ro 0 rfl).ix hx7
    refine sq (v := (pt b9 o10)) (rv_ix Tryz.underlying24 ti3 rfl rfl hi8) ?_
    have hc11 := ((H.ro 0 rfl).at hx7 hi8).int
    refine sq (v := (I x6)) (rv_load1 Tryz.underlying3 rfl rfl hc11) (sq (v := (Sl Gt Gq Gu)) (rv_move rfl) (sq (v := (I s2.2)) (rv_move rfl) ?_))
    revert h; refine br fun x12 hx13 h => ?_
    obtain ⟨b15, o16, hi14, -⟩ := (H.ro 1 rfl).ix hx13
    refine sq (v := (pt b15 o16)) (rv_ix Tryz.underlying24 ti3 rfl rfl hi14) ?_
    have hc17 := ((H.ro 1 rfl).at hx13 hi14).int
    refine sq (v := (I x12)) (rv_load1 Tryz.underlying3 rfl rfl hc17) (sq_end ?_)
    intro σ18 hm19
    replace H := H.grow (hm19.mono fun _ h => h); clear hm19
    refine st (v := (I (w64 (x6 - x12)))) (rv_sub (a := x6) (b := x12) rfl rfl) ?_
    revert h; refine br fun r20 hx21 h => ?_
    have hc22 := c_spec_size hx21
    refine st_call (cx_call hc22 (ent_f hc22.fn rfl) hn0 (H.sel' [0, 1] rfl rfl : Hp S0 σ0 _ ([] ++ _))) wn ?_
    rintro _ σ23 ⟨_, ⟨rfl, rfl⟩, H, -⟩
    replace H : Hp _ _ _ [_, _] := H
    refine sa (I r20) rfl (w_end (q_then (c_seq (rg (sm (I Dj) rfl (w_end (q_then (c_blk (c_seq (rg (st (v := (B (Dj == 1))) (rv_eql (a := Dj) (b := 1) rfl rfl) ?_)))))))))))
    refine sa (B (Dj == 1)) rfl (w_end (q_then ?_))
    refine cd_cond (Dj == 1) rfl (fun hb24 => ?_) (fun hb24 => ?_)
    ·replace h := bif_t hb24 h
     refine rg (sm (I s2.1) rfl (sm (I r20) rfl (st (v := (I (w64 (s2.1 + r20)))) (rv_add (a := s2.1) (b := r20) rfl rfl) (sa (I (w64 (s2.1 + r20))) rfl (w_end (q_blk (q_blk ?_)))))))
     obtain rfl := sj h
     exact ⟨rfl, _, σ23, fr_join ⟨rfl, rfl, rfl, rfl, rfl, trivial⟩, rfl, H.sel' [0, 1] rfl rfl⟩
    ·replace h := bif_f hb24 h
     refine c_seq (rg (st (v := (B (Dj == 2))) (rv_eql (a := Dj) (b := 2) rfl rfl) (sa (B (Dj == 2)) rfl (w_end (q_then ?_)))))
     refine cd_cond (Dj == 2) rfl (fun hb25 => ?_) (fun hb25 => ?_)
     ·replace h := bif_t hb25 h
      refine rg (sm (I s2.1) rfl (sm (I r20) rfl (st (v := (I (max s2.1 r20))) (rv_max rfl rfl) (sa (I (max s2.1 r20)) rfl (w_end (q_blk (q_blk ?_)))))))
      obtain rfl := sj h
      exact ⟨rfl, _, σ23, fr_join ⟨rfl, rfl, rfl, rfl, rfl, trivial⟩, rfl, H.sel' [0, 1] rfl rfl⟩
     ·replace h := bif_f hb25 h
      refine c_seq (rg (st (v := (B (Dj == 3))) (rv_eql (a := Dj) (b := 3) rfl rfl) (sa (B (Dj == 3)) rfl (w_end (q_then ?_)))))
      refine cd_cond (Dj == 3) rfl (fun hb26 => ?_) (fun hb26 => ?_)
      ·replace h := bif_t hb26 h
       refine rg (sm (I s2.1) rfl (sm (I r20) rfl (sm (I r20) rfl (st (v := (I (w64 (r20 * r20)))) (rv_mul (a := r20) (b := r20) rfl rfl) (st (v := (I (w64 (s2.1 + (w64 (r20 * r20)))))) (rv_add (a := s2.1) (b := (w64 (r20 * r20))) rfl rfl) (sa (I (w64 (s2.1 + (w64 (r20 * r20))))) rfl (w_end (q_blk (q_blk ?_)))))))))
       obtain rfl := sj h
       exact ⟨rfl, _, σ23, fr_join ⟨rfl, rfl, rfl, rfl, rfl, trivial⟩, rfl, H.sel' [0, 1] rfl rfl⟩
      ·replace h := bif_f hb26 h
       refine rg (sm (I s2.1) rfl (sm (I r20) rfl (st (v := (B (decide (0 < r20)))) (rv_gtr (a := r20) (b := 0) rfl rfl) ?_)))
       revert h; refine br fun r27 hx28 h => ?_
       have hc29 := c_spec_toInt hx28
       refine st_call (cx_call hc29 (ent_f hc29.fn rfl) hn0 (H.sel' [0, 1] rfl rfl : Hp S0 σ0 _ ([] ++ _))) wn ?_
       rintro _ σ30 ⟨_, ⟨rfl, rfl⟩, H, -⟩
       replace H : Hp _ _ _ [_, _] := H
       refine st (v := (I (w64 (s2.1 + r27)))) (rv_add (a := s2.1) (b := r27) rfl rfl) (sa (I (w64 (s2.1 + r27))) rfl (w_end (q_blk (q_blk ?_))))
       obtain rfl := sj h
       exact ⟨rfl, _, σ30, fr_join ⟨rfl, rfl, rfl, rfl, rfl, trivial⟩, rfl, H.sel' [0, 1] rfl rfl⟩
   ·clear hj
    have h := h'
    clear h' H
    rintro e a w ⟨rfl, ρ, σ31, rfl, rfl, H⟩
    refine q_then (rg (sm (I s2.2) rfl (st (v := (I (w64 (s2.2 + 1)))) (rv_add (a := s2.2) (b := 1) rfl rfl) (sa (I (w64 (s2.2 + 1))) rfl (w_end (q_then ?_))))))
    obtain rfl := sj h
    exact ⟨_, rfl, _, σ31, fr_join ⟨rfl, rfl, rfl, rfl, rfl, trivial⟩, rfl, H.sel' [0, 1] rfl rfl⟩
  ·replace h := bif_f hb4 h
   refine c_exit (q_then_x (q_then_x (q_blk_hit ?_)))
   obtain rfl := sj h
   obtain rfl := hres _ rfl
   exact ⟨rfl, _, σ3, fr_join ⟨rfl, trivial⟩, rfl, H.sel' [] rfl rfl⟩
 ·clear hj
  have h := h'
  clear h' H
  rintro e a w ⟨rfl, ρ, σ32, rfl, rfl, H⟩
  refine q_then (c_seq (rg (sm (I o1) rfl (sa (I o1) rfl (w_end (q_then (c_ret ?_)))))))
  obtain rfl := sj h
  exact fin_ret (v := (I o1)) (results_ok Tryz.results71 (res_tmp (v := (I o1)) rfl res_nil) rfl) ⟨rfl, rfl⟩ (H.sel' [] rfl rfl)

theorem c_spec_decode {Cu : (List (List Int)) × (List (List Int))} {Gv : Int} {Cv : Option Addr} {Cw : Nat} {Cy : Option Addr} {Cz : Nat} {r : (List Int)} (h : M.spec_decode Cu Gv = some r) :
    Cal2 Tryz.prog 72 [(.agg #[(Sl Cv Cu.1 Cw), (Sl Cy Cu.2 Cz)]), (I Gv)] [Ch.ro 0 (Sl Cv Cu.1 Cw) Cu.1, Ch.ro 0 (Sl Cy Cu.2 Cz) Cu.2] (fun n0 v L => ∃ (az1 : Option Addr), ∃ (cz2 : Nat), v = (Sl az1 r cz2) ∧ L = [Ch.own n0 n0 (Sl az1 r cz2) r]) := by
 refine cal2 (n := 20) Tryz.func72 rfl rfl rfl rfl ?_
 intro S0 σ0 n0 hn0 H
 unfold M.spec_decode at h
 refine c_seq (rg (st_ex (ex_box (cs := [(Sl Cv Cu.1 Cw), (Sl Cy Cu.2 Cz)]) H hn0 rfl rfl) wn ?_))
 rintro _ σ2 ⟨b1, rfl, H, -⟩
 refine sa (.slice none 0 0) rfl (w_end (q_then (c_seq ?_)))
 have hc4 := H.cell (u := (Sl Cv Cu.1 Cw)) (o' := 0) 0 0 rfl rfl rfl
 revert h; refine br fun x5 hx6 h => ?_
 obtain ⟨b8, o9, hi7, -⟩ := (H.ro 1 rfl).ix hx6
 obtain ⟨v13, hc14, hR12⟩ := ((H.ro 1 rfl).at hx6 hi7).slice
 obtain ⟨a10, c11, rfl⟩ := hR12.isSl
 replace H := H.add (d := Ch.ro 0 (Sl a10 x5 c11) x5) hR12 (fun _ h => h)
 clear hR12
 revert h; refine br fun xs15 hx16 h => ?_
 have hc19 := H.cell (u := (Sl Cy Cu.2 Cz)) (o' := 1) 1 1 rfl rfl rfl
 revert h; refine br fun x20 hx21 h => ?_
 obtain ⟨b23, o24, hi22, -⟩ := (H.ro 3 rfl).ix hx21
 obtain ⟨v28, hc29, hR27⟩ := ((H.ro 3 rfl).at hx21 hi22).slice
 obtain ⟨a25, c26, rfl⟩ := hR27.isSl
 replace H := H.add (d := Ch.ro 0 (Sl a25 x20 c26) x20) hR27 (fun _ h => h)
 clear hR27
 have Hs := H
 refine rg2 (σ := σ2) (Nm := (Nat) × (Option Addr) × (Nat)) 14 [0, 7] [[false, false], [true, false], [true, true]] [[(0, 1)], [(0, 0), (1, 1)], [(0, 0), (1, 1)], [(0, 0), (1, 1)], [(0, 0), (1, 1)], [(0, 0), (1, 1)], [(0, 0), (1, 1)], [(1, 2)], [(0, 0), (1, 1), (2, 2)], [(0, 0), (1, 1), (2, 2)], [(0, 0), (1, 1), (2, 2)], [(0, 0), (1, 1), (2, 2)], [(0, 0), (1, 1), (2, 2)], [(0, 0), (1, 1), (2, 2)]] 2 [fun ((b3, a17, c18) : (Nat) × (Option Addr) × (Nat)) => fun σm => Hp S0 σ0 σm [Ch.ro 0 (Sl a25 x20 c26) x20, Ch.ro 0 (Sl a10 x5 c11) x5, Ch.bx n0 b1 0 [(Sl Cv Cu.1 Cw), (Sl Cy Cu.2 Cz)] [] [], Ch.ro 0 (Sl Cv Cu.1 Cw) Cu.1, Ch.ro 0 (Sl Cy Cu.2 Cz) Cu.2] ∧ Md (cov []) σ2 σm, fun ((b3, a17, c18) : (Nat) × (Option Addr) × (Nat)) => fun σm => Hp S0 σ0 σm [Ch.own n0 n0 (Sl (some ⟨b3, 0, none⟩) ([] : List Int) 0) ([] : List Int), Ch.ro 0 (Sl a25 x20 c26) x20, Ch.ro 0 (Sl a10 x5 c11) x5, Ch.bx n0 b1 0 [(Sl Cv Cu.1 Cw), (Sl Cy Cu.2 Cz)] [] [], Ch.ro 0 (Sl Cv Cu.1 Cw) Cu.1, Ch.ro 0 (Sl Cy Cu.2 Cz) Cu.2] ∧ Md (cov []) σ2 σm, fun ((b3, a17, c18) : (Nat) × (Option Addr) × (Nat)) => fun σm => Hp S0 σ0 σm [Ch.own n0 n0 (Sl a17 xs15 c18) xs15, Ch.ro 0 (Sl a25 x20 c26) x20, Ch.ro 0 (Sl a10 x5 c11) x5, Ch.bx n0 b1 0 [(Sl Cv Cu.1 Cw), (Sl Cy Cu.2 Cz)] [] [], Ch.ro 0 (Sl Cv Cu.1 Cw) Cu.1, Ch.ro 0 (Sl Cy Cu.2 Cz) Cu.2] ∧ Md (fun i => (cov []) i ∨ (fun b => blk (Sl (some ⟨b3, 0, none⟩) ([] : List Int) 0) = some b) i) σ2 σm] [fun ((b3, a17, c18) : (Nat) × (Option Addr) × (Nat)) => (Sl (some ⟨b3, 0, none⟩) ([] : List Int) 0), fun ((b3, a17, c18) : (Nat) × (Option Addr) × (Nat)) => (pt b1 0), fun ((b3, a17, c18) : (Nat) × (Option Addr) × (Nat)) => (Sl Cv Cu.1 Cw), fun ((b3, a17, c18) : (Nat) × (Option Addr) × (Nat)) => (I Gv), fun ((b3, a17, c18) : (Nat) × (Option Addr) × (Nat)) => (I (w64 (Gv.tdiv 4))), fun ((b3, a17, c18) : (Nat) × (Option Addr) × (Nat)) => (pt b8 o9), fun ((b3, a17, c18) : (Nat) × (Option Addr) × (Nat)) => (Sl a10 x5 c11), fun ((b3, a17, c18) : (Nat) × (Option Addr) × (Nat)) => (Sl a17 xs15 c18), fun ((b3, a17, c18) : (Nat) × (Option Addr) × (Nat)) => (pt b1 1), fun ((b3, a17, c18) : (Nat) × (Option Addr) × (Nat)) => (Sl Cy Cu.2 Cz), fun ((b3, a17, c18) : (Nat) × (Option Addr) × (Nat)) => (I Gv), fun ((b3, a17, c18) : (Nat) × (Option Addr) × (Nat)) => (I (Gv.tmod 4)), fun ((b3, a17, c18) : (Nat) × (Option Addr) × (Nat)) => (pt b23 o24), fun ((b3, a17, c18) : (Nat) × (Option Addr) × (Nat)) => (Sl a25 x20 c26)] (0, none, 0) (by kernel_rfl) (by kernel_rfl) ?_ ?_ ?_
 ·intro σm m0
  exact ⟨H.grow (m0.mono fun _ h => h.elim), m0⟩
 ·refine all_cons (by
    refine ⟨?_, ?_⟩
    ·rintro ⟨b3, a17, c18⟩ ρ σm hJ hoff hdep
     obtain ⟨H, m⟩ := id hJ
     refine dp_ex wn (ex_buildSlice (el := n0) (xs := ([] : List Int)) (ps := []) (cs := []) H hn0 Tryz.underlying24 ti3 rfl rfl (by kernel_rfl) (.nil) rfl) ?_
     rintro _ σq ⟨b3x, rfl, H2, m2⟩
     exact ⟨_, (b3x, a17, c18), rfl, rfl, ⟨H2.sel' [0, 1, 2, 3, 4, 5] rfl rfl, m.comp0 m2⟩, stab [1, 2, 3, 4, 5, 6, 8, 9, 10, 11, 12, 13] (by kernel_rfl) ⟨rfl, rfl, rfl, rfl, rfl, rfl, rfl, rfl, rfl, rfl, rfl, rfl, trivial⟩⟩
    trivial) ?_
  refine ac rfl (by
    intro k; rintro ⟨b3, a17, c18⟩ ρ σm hJ hoff hdep
    have e2 := look_off (N := 20) (hoff 2 rfl) rfl
    exact dp_v (v := (pt b1 0)) wn (rv_fieldAddr (off := 0) (ft := 37) Tryz.underlying47 rfl ti37 rfl e2) rfl hJ) ?_
  refine all_cons (by
    refine ⟨?_, ?_⟩
    ·rintro ⟨b3, a17, c18⟩ ρ σm hJ hoff hdep
     have e6 := hdep 1 rfl rfl 6 rfl
     obtain ⟨H, m⟩ := id hJ
     have hc4 := H.cell (u := (Sl Cv Cu.1 Cw)) (o' := 0) 2 0 rfl rfl rfl
     exact dp_v (v := (Sl Cv Cu.1 Cw)) wn (rv_load1 Tryz.underlying37 rfl e6 hc4) rfl hJ
    refine ⟨?_, ?_⟩
    ·rintro ⟨b3, a17, c18⟩ ρ σm hJ hoff hdep
     have e6 := hdep 1 rfl rfl 6 rfl
     obtain ⟨H, m⟩ := id hJ
     have hc4 := H.cell (u := (Sl Cv Cu.1 Cw)) (o' := 0) 3 0 rfl rfl rfl
     exact dp_v (v := (Sl Cv Cu.1 Cw)) wn (rv_load1 Tryz.underlying37 rfl e6 hc4) rfl hJ
    trivial) ?_
  refine ac rfl (by
    intro k; rintro ⟨b3, a17, c18⟩ ρ σm hJ hoff hdep
    have e1 := look_off (N := 20) (hoff 1 rfl) rfl
    exact dp_v (v := (I Gv)) wn (rv_move e1) rfl hJ) ?_
  refine ac rfl (by
    intro k; rintro ⟨b3, a17, c18⟩ ρ σm hJ hoff hdep
    have e8 := hdep 3 rfl rfl 8 rfl
    exact dp_v (v := (I (w64 (Gv.tdiv 4)))) wn (rv_quo (a := Gv) (b := 4) e8 rfl (by decide)) rfl hJ) ?_
  refine ac rfl (by
    intro k; rintro ⟨b3, a17, c18⟩ ρ σm hJ hoff hdep
    have e7 := hdep 2 rfl rfl 7 rfl
    have e9 := hdep 4 rfl rfl 9 rfl
    exact dp_v (v := (pt b8 o9)) wn (rv_ix Tryz.underlying37 ti24 e7 e9 hi7) rfl hJ) ?_
  refine all_cons (by
    refine ⟨?_, ?_⟩
    ·rintro ⟨b3, a17, c18⟩ ρ σm hJ hoff hdep
     have e10 := hdep 5 rfl rfl 10 rfl
     obtain ⟨H, m⟩ := id hJ
     replace hc14 := (Hs.ro 3 rfl).hmd hx6 hi7 (k := 0) (by decide) hc14 m
     exact dp_v (v := (Sl a10 x5 c11)) wn (rv_load1 Tryz.underlying24 rfl e10 hc14) rfl hJ
    refine ⟨?_, ?_⟩
    ·rintro ⟨b3, a17, c18⟩ ρ σm hJ hoff hdep
     have e10 := hdep 5 rfl rfl 10 rfl
     obtain ⟨H, m⟩ := id hJ
     replace hc14 := (Hs.ro 3 rfl).hmd hx6 hi7 (k := 0) (by decide) hc14 m
     exact dp_v (v := (Sl a10 x5 c11)) wn (rv_load1 Tryz.underlying24 rfl e10 hc14) rfl hJ
    trivial) ?_
  refine all_cons (by
    refine ⟨?_, ?_⟩
    ·rintro ⟨b3, a17, c18⟩ ρ σm hJ hoff hdep
     have e5 := hdep 0 rfl rfl 5 rfl
     have e11 := hdep 6 rfl rfl 11 rfl
     obtain ⟨H, m⟩ := id hJ
     refine dp_ex wn (ex_append H (i := 0) rfl Tryz.underlying24 Tryz.underlying24 ti3 rfl rfl (by decide) ((H.ro 2 rfl).rd.sc) hx16 hn0 e5 e11) ?_
     rintro _ σq ⟨a17x, c18x, rfl, H2, m2⟩
     exact ⟨_, (b3, a17x, c18x), rfl, rfl, ⟨H2.sel' [0, 1, 2, 3, 4, 5] rfl rfl, m.comp m2⟩, stab [0, 1, 2, 3, 4, 5, 6, 8, 9, 10, 11, 12, 13] (by kernel_rfl) ⟨rfl, rfl, rfl, rfl, rfl, rfl, rfl, rfl, rfl, rfl, rfl, rfl, rfl, trivial⟩⟩
    trivial) ?_
  refine ac rfl (by
    intro k; rintro ⟨b3, a17, c18⟩ ρ σm hJ hoff hdep
    have e2 := look_off (N := 20) (hoff 2 rfl) rfl
    exact dp_v (v := (pt b1 1)) wn (rv_fieldAddr (off := 1) (ft := 37) Tryz.underlying47 rfl ti37 rfl e2) rfl hJ) ?_
  refine all_cons (by
    refine ⟨?_, ?_⟩
    ·rintro ⟨b3, a17, c18⟩ ρ σm hJ hoff hdep
     have e13 := hdep 8 rfl rfl 13 rfl
     obtain ⟨H, m⟩ := id hJ
     have hc19 := H.cell (u := (Sl Cy Cu.2 Cz)) (o' := 1) 2 1 rfl rfl rfl
     exact dp_v (v := (Sl Cy Cu.2 Cz)) wn (rv_load1 Tryz.underlying37 rfl e13 hc19) rfl hJ
    refine ⟨?_, ?_⟩
    ·rintro ⟨b3, a17, c18⟩ ρ σm hJ hoff hdep
     have e13 := hdep 8 rfl rfl 13 rfl
     obtain ⟨H, m⟩ := id hJ
     have hc19 := H.cell (u := (Sl Cy Cu.2 Cz)) (o' := 1) 3 1 rfl rfl rfl
     exact dp_v (v := (Sl Cy Cu.2 Cz)) wn (rv_load1 Tryz.underlying37 rfl e13 hc19) rfl hJ
    refine ⟨?_, ?_⟩
    ·rintro ⟨b3, a17, c18⟩ ρ σm hJ hoff hdep
     have e13 := hdep 8 rfl rfl 13 rfl
     obtain ⟨H, m⟩ := id hJ
     have hc19 := H.cell (u := (Sl Cy Cu.2 Cz)) (o' := 1) 3 1 rfl rfl rfl
     exact dp_v (v := (Sl Cy Cu.2 Cz)) wn (rv_load1 Tryz.underlying37 rfl e13 hc19) rfl hJ
    trivial) ?_
  refine ac rfl (by
    intro k; rintro ⟨b3, a17, c18⟩ ρ σm hJ hoff hdep
    have e1 := look_off (N := 20) (hoff 1 rfl) rfl
    exact dp_v (v := (I Gv)) wn (rv_move e1) rfl hJ) ?_
  refine ac rfl (by
    intro k; rintro ⟨b3, a17, c18⟩ ρ σm hJ hoff hdep
    have e15 := hdep 10 rfl rfl 15 rfl
    exact dp_v (v := (I (Gv.tmod 4))) wn (rv_rem (a := Gv) (b := 4) e15 rfl (by decide)) rfl hJ) ?_
  refine ac rfl (by
    intro k; rintro ⟨b3, a17, c18⟩ ρ σm hJ hoff hdep
    have e14 := hdep 9 rfl rfl 14 rfl
    have e16 := hdep 11 rfl rfl 16 rfl
    exact dp_v (v := (pt b23 o24)) wn (rv_ix Tryz.underlying37 ti24 e14 e16 hi22) rfl hJ) ?_
  refine all_cons (by
    refine ⟨?_, ?_⟩
    ·rintro ⟨b3, a17, c18⟩ ρ σm hJ hoff hdep
     have e17 := hdep 12 rfl rfl 17 rfl
     obtain ⟨H, m⟩ := id hJ
     replace hc29 := (Hs.ro 4 rfl).hmd hx21 hi22 (k := 0) (by decide) hc29 m
     exact dp_v (v := (Sl a25 x20 c26)) wn (rv_load1 Tryz.underlying24 rfl e17 hc29) rfl hJ
    refine ⟨?_, ?_⟩
    ·rintro ⟨b3, a17, c18⟩ ρ σm hJ hoff hdep
     have e17 := hdep 12 rfl rfl 17 rfl
     obtain ⟨H, m⟩ := id hJ
     replace hc29 := (Hs.ro 4 rfl).hmd hx21 hi22 (k := 0) (by decide) hc29 m
     exact dp_v (v := (Sl a25 x20 c26)) wn (rv_load1 Tryz.underlying24 rfl e17 hc29) rfl hJ
    refine ⟨?_, ?_⟩
    ·rintro ⟨b3, a17, c18⟩ ρ σm hJ hoff hdep
     have e17 := hdep 12 rfl rfl 17 rfl
     obtain ⟨H, m⟩ := id hJ
     replace hc29 := (Hs.ro 4 rfl).hmd hx21 hi22 (k := 0) (by decide) hc29 m
     exact dp_v (v := (Sl a25 x20 c26)) wn (rv_load1 Tryz.underlying24 rfl e17 hc29) rfl hJ
    trivial) ?_
  exact all_nil
 ·rintro ⟨b3, a17, c18⟩ ρ σ30 hJ hoff hrel
  have e12 := hrel 7 rfl 12 rfl
  have e18 := hrel 13 rfl 18 rfl
  obtain ⟨H, -⟩ := (show Hp S0 σ0 σ30 [Ch.own n0 n0 (Sl a17 xs15 c18) xs15, Ch.ro 0 (Sl a25 x20 c26) x20, Ch.ro 0 (Sl a10 x5 c11) x5, Ch.bx n0 b1 0 [(Sl Cv Cu.1 Cw), (Sl Cy Cu.2 Cz)] [] [], Ch.ro 0 (Sl Cv Cu.1 Cw) Cu.1, Ch.ro 0 (Sl Cy Cu.2 Cz) Cu.2] ∧ Md (fun i => (cov []) i ∨ (fun b => blk (Sl (some ⟨b3, 0, none⟩) ([] : List Int) 0) = some b) i) σ2 σ30 from hJ)
  clear hJ Hs
  rw [fr_lookL (L := [(12, (Sl a17 xs15 c18)), (18, (Sl a25 x20 c26))]) ⟨e12, e18, trivial⟩]
  clear hoff hrel e12 e18
  revert h; refine br fun xs31 hx32 h => ?_
  refine st_ex (ex_append H (i := 0) rfl Tryz.underlying24 Tryz.underlying24 ti3 rfl rfl (by decide) ((H.ro 1 rfl).rd.sc) hx32 hn0 rfl rfl) wn ?_
  rintro _ σ35 ⟨a33, c34, rfl, H, -⟩
  refine sa (Sl a33 xs31 c34) rfl (w_end (q_then (c_ret ?_)))
  obtain rfl := sj h
  exact fin_ret (v := (Sl a33 xs31 c34)) (results_ok Tryz.results72 (res_tmp (v := (Sl a33 xs31 c34)) rfl res_nil) rfl) ⟨a33, c34, rfl, rfl⟩ (H.sel' [0] rfl rfl)

theorem c_spec_halfDist {Aa : List Int} {Ac : List Int} {Ad : Option Addr} {Ae : Nat} {Af : Option Addr} {Ag : Nat} {r : Int} (h : M.spec_halfDist Aa Ac = some r) :
    Cal2 Tryz.prog 142 [(Sl Ad Aa Ae), (Sl Af Ac Ag)] [Ch.ro 0 (Sl Ad Aa Ae) Aa, Ch.ro 0 (Sl Af Ac Ag) Ac] (fun n0 v L => v = (I r) ∧ L = []) := by
 refine cal2 (n := 8) Tryz.func142 rfl rfl rfl rfl ?_
 intro S0 σ0 n0 hn0 H
 unfold M.spec_halfDist at h
 refine c_seq (rg (sa (I 0) rfl (w_end (q_then (c_seq (rg (sm (Sl Ad Aa Ae) rfl (sm (Sl Af Ac Ag) rfl ?_))))))))
 revert h; refine br fun r1 hx2 h => ?_
 have hc3 := c_spec_dist (Gr := Ad) (Gs := Ae) (Gt := Af) (Gu := Ag) hx2
 refine st_call (cx_call hc3 (ent_f hc3.fn rfl) hn0 (H.sel' [0, 1, 0, 1] rfl rfl : Hp S0 σ0 _ ([_, _] ++ _))) wn ?_
 rintro _ σ4 ⟨_, ⟨rfl, rfl⟩, H, -⟩
 replace H : Hp _ _ _ [_, _] := H
 refine sa (I r1) rfl (w_end (q_then (c_ret ?_)))
 obtain rfl := sj h
 exact fin_ret (v := (I r1)) (results_ok Tryz.results142 (res_tmp (v := (I r1)) rfl res_nil) rfl) ⟨rfl, rfl⟩ (H.sel' [] rfl rfl)

theorem c_spec_closest {Bg : List (List Int)} {Da : List Int} {Bi : Option Addr} {Bj : Nat} {Db : Option Addr} {Dc : Nat} {r : Int} (h : M.spec_closest Bg Da = some r) :
    Cal2 Tryz.prog 118 [(Sl Bi Bg Bj), (Sl Db Da Dc)] [Ch.ro 0 (Sl Bi Bg Bj) Bg, Ch.ro 0 (Sl Db Da Dc) Da] (fun n0 v L => v = (I r) ∧ L = []) := by
 refine cal2 (n := 28) Tryz.func118 rfl rfl rfl rfl ?_
 intro S0 σ0 n0 hn0 H
 unfold M.spec_closest at h
 refine c_seq (rg (sa (I 0) rfl (w_end (q_then (c_seq (rg (sa (I 0) rfl (w_end (q_then (c_seq (c_seq ?_)))))))))))
 refine rg (sa (I 1) rfl (w_end (q_then ?_)))
 obtain ⟨o1, hj, h'⟩ := bind_some h
 clear h
 refine c_cut (fun e a w => e = .normal ∧ ∃ (ρ : Nat → Value) (σ : St), a = fr 28 (updL ρ [(5, (I o1))]) ∧ w = σ.w ∧ Hp S0 σ0 σ []) ?_ ?_
 ·clear h'
  rename _ = some o1 => h
  refine c_blk (wp_loopM _ h (fun s2 a w => ∃ (ρ : Nat → Value) (σ : St), a = fr 28 (updL ρ [(0, (Sl Bi Bg Bj)), (1, (Sl Db Da Dc)), (5, (I s2.1)), (6, (I s2.2))]) ∧ w = σ.w ∧ Hp S0 σ0 σ [Ch.ro 0 (Sl Bi Bg Bj) Bg, Ch.ro 0 (Sl Db Da Dc) Da]) ⟨_, σ0, fr_join ⟨rfl, rfl, rfl, rfl, trivial⟩, rfl, H.sel' [0, 1] rfl rfl⟩ ?_)
  clear h H
  rintro s2 a w o ⟨ρ, σ3, rfl, rfl, H⟩ h hres
  refine c_seq (c_seq (rg (sm (I s2.2) rfl (sm (Sl Bi Bg Bj) rfl (st (v := (I (Bg.length : Int))) (rv_len Tryz.underlying37 rfl) (st (v := (B (decide (s2.2 < (Bg.length : Int))))) (rv_lss (a := s2.2) (b := (Bg.length : Int)) rfl rfl) (w_end (q_then ?_))))))))
  refine cd_cond (decide (s2.2 < (Bg.length : Int))) rfl (fun hb4 => ?_) (fun hb4 => ?_)
  ·replace h := bif_t hb4 h
   refine c_skip (q_then (c_seq ?_))
   obtain ⟨o5, hj, h'⟩ := bind_some h
   clear h
   refine c_cut (fun e a w => e = .normal ∧ ∃ (ρ : Nat → Value) (σ : St), a = fr 28 (updL ρ [(0, (Sl Bi Bg Bj)), (1, (Sl Db Da Dc)), (5, (I o5)), (6, (I s2.2))]) ∧ w = σ.w ∧ Hp S0 σ0 σ [Ch.ro 0 (Sl Bi Bg Bj) Bg, Ch.ro 0 (Sl Db Da Dc) Da]) ?_ ?_
   ·clear h'
    rename _ = some o5 => h
    refine c_blk (c_seq ?_)
    revert h; refine br fun x6 hx7 h => ?_
    obtain ⟨b9, o10, hi8, -⟩ := (H.ro 0 rfl).ix hx7
    obtain ⟨v14, hc15, hR13⟩ := ((H.ro 0 rfl).at hx7 hi8).slice
    obtain ⟨a11, c12, rfl⟩ := hR13.isSl
    replace H := H.add (d := Ch.ro 0 (Sl a11 x6 c12) x6) hR13 (fun _ h => h)
    clear hR13
    revert h; refine br fun r16 hx17 h => ?_
    have hc18 := c_spec_halfDist (Ad := a11) (Ae := c12) (Af := Db) (Ag := Dc) hx17
    revert h; refine br fun x19 hx20 h => ?_
    obtain ⟨b22, o23, hi21, -⟩ := (H.ro 1 rfl).ix hx20
    obtain ⟨v27, hc28, hR26⟩ := ((H.ro 1 rfl).at hx20 hi21).slice
    obtain ⟨a24, c25, rfl⟩ := hR26.isSl
    replace H := H.add (d := Ch.ro 0 (Sl a24 x19 c25) x19) hR26 (fun _ h => h)
    clear hR26
    have Hs := H
    refine rg2 (σ := σ3) (Nm := Unit) 11 [5] [[false], [true]] [[(0, 0)], [(0, 0)], [(0, 0)], [(0, 0)], [(0, 0)], [(0, 1)], [(0, 0), (1, 1)], [(0, 0), (1, 1)], [(0, 0), (1, 1)], [(0, 0), (1, 1)], [(0, 0), (1, 1)]] 1 [fun _ => fun σm => Hp S0 σ0 σm [Ch.ro 0 (Sl a24 x19 c25) x19, Ch.ro 0 (Sl a11 x6 c12) x6, Ch.ro 0 (Sl Bi Bg Bj) Bg, Ch.ro 0 (Sl Db Da Dc) Da] ∧ Md (cov []) σ3 σm, fun _ => fun σm => Hp S0 σ0 σm [Ch.ro 0 (Sl a24 x19 c25) x19, Ch.ro 0 (Sl a11 x6 c12) x6, Ch.ro 0 (Sl Bi Bg Bj) Bg, Ch.ro 0 (Sl Db Da Dc) Da] ∧ Md (cov []) σ3 σm] [fun _ => (Sl Bi Bg Bj), fun _ => (I s2.2), fun _ => (pt b9 o10), fun _ => (Sl a11 x6 c12), fun _ => (Sl Db Da Dc), fun _ => (I r16), fun _ => (Sl Bi Bg Bj), fun _ => (I s2.1), fun _ => (pt b22 o23), fun _ => (Sl a24 x19 c25), fun _ => (Sl Db Da Dc)] () (by kernel_rfl) (by kernel_rfl) ?_ ?_ ?_
    ·intro σm m0
     exact ⟨H.grow (m0.mono fun _ h => h.elim), m0⟩
    ·refine ac rfl (by
       intro k _nm ρ σm hJ hoff hdep
       have e0 := look_off (N := 28) (hoff 0 rfl) rfl
       exact dp_v (v := (Sl Bi Bg Bj)) wn (rv_move e0) rfl hJ) ?_
     refine ac rfl (by
       intro k _nm ρ σm hJ hoff hdep
       have e6 := look_off (N := 28) (hoff 6 rfl) rfl
       exact dp_v (v := (I s2.2)) wn (rv_move e6) rfl hJ) ?_
     refine ac rfl (by
       intro k _nm ρ σm hJ hoff hdep
       have e13 := hdep 0 rfl rfl 13 rfl
       have e14 := hdep 1 rfl rfl 14 rfl
       exact dp_v (v := (pt b9 o10)) wn (rv_ix Tryz.underlying37 ti24 e13 e14 hi8) rfl hJ) ?_
     refine all_cons (by
       refine ⟨?_, ?_⟩
       ·intro _nm ρ σm hJ hoff hdep
        have e15 := hdep 2 rfl rfl 15 rfl
        obtain ⟨H, m⟩ := id hJ
        replace hc15 := (Hs.ro 2 rfl).hmd hx7 hi8 (k := 0) (by decide) hc15 m
        exact dp_v (v := (Sl a11 x6 c12)) wn (rv_load1 Tryz.underlying24 rfl e15 hc15) rfl hJ
       trivial) ?_
     refine ac rfl (by
       intro k _nm ρ σm hJ hoff hdep
       have e1 := look_off (N := 28) (hoff 1 rfl) rfl
       exact dp_v (v := (Sl Db Da Dc)) wn (rv_move e1) rfl hJ) ?_
     refine all_cons (by
       refine ⟨?_, ?_⟩
       ·intro _nm ρ σm hJ hoff hdep
        have e16 : look 28 ρ 16 = (Sl a11 x6 c12) := hdep 3 rfl rfl 16 rfl
        have e17 : look 28 ρ 17 = (Sl Db Da Dc) := hdep 4 rfl rfl 17 rfl
        obtain ⟨H, m⟩ := id hJ
        refine dp_cx wn (cx_call hc18 (ent_f hc18.fn (by show [look 28 ρ 16, look 28 ρ 17] = _; rw [e16, e17])) hn0 (H.sel' [1, 3, 0, 1, 2, 3] rfl rfl : Hp S0 σ0 _ ([_, _] ++ _))) ?_
        rintro _ σq ⟨_, ⟨rfl, rfl⟩, H2, m2⟩
        exact ⟨_, (), rfl, rfl, ⟨H2.sel' [0, 1, 2, 3] rfl rfl, m.comp0 (m2.mono (fun i h => by simp [cov, Ch.ro] at h))⟩, stab [0, 1, 2, 3, 4, 6, 7, 8, 9, 10] (by kernel_rfl) ⟨rfl, rfl, rfl, rfl, rfl, rfl, rfl, rfl, rfl, rfl, trivial⟩⟩
       trivial) ?_
     refine ac rfl (by
       intro k _nm ρ σm hJ hoff hdep
       have e0 := look_off (N := 28) (hoff 0 rfl) rfl
       exact dp_v (v := (Sl Bi Bg Bj)) wn (rv_move e0) rfl hJ) ?_
     refine ac rfl (by
       intro k _nm ρ σm hJ hoff hdep
       have e5 := look_off (N := 28) (hoff 5 rfl) rfl
       exact dp_v (v := (I s2.1)) wn (rv_move e5) rfl hJ) ?_
     refine ac rfl (by
       intro k _nm ρ σm hJ hoff hdep
       have e19 := hdep 6 rfl rfl 19 rfl
       have e20 := hdep 7 rfl rfl 20 rfl
       exact dp_v (v := (pt b22 o23)) wn (rv_ix Tryz.underlying37 ti24 e19 e20 hi21) rfl hJ) ?_
     refine all_cons (by
       refine ⟨?_, ?_⟩
       ·intro _nm ρ σm hJ hoff hdep
        have e21 := hdep 8 rfl rfl 21 rfl
        obtain ⟨H, m⟩ := id hJ
        replace hc28 := (Hs.ro 2 rfl).hmd hx20 hi21 (k := 0) (by decide) hc28 m
        exact dp_v (v := (Sl a24 x19 c25)) wn (rv_load1 Tryz.underlying24 rfl e21 hc28) rfl hJ
       refine ⟨?_, ?_⟩
       ·intro _nm ρ σm hJ hoff hdep
        have e21 := hdep 8 rfl rfl 21 rfl
        obtain ⟨H, m⟩ := id hJ
        replace hc28 := (Hs.ro 2 rfl).hmd hx20 hi21 (k := 0) (by decide) hc28 m
        exact dp_v (v := (Sl a24 x19 c25)) wn (rv_load1 Tryz.underlying24 rfl e21 hc28) rfl hJ
       trivial) ?_
     refine ac rfl (by
       intro k _nm ρ σm hJ hoff hdep
       have e1 := look_off (N := 28) (hoff 1 rfl) rfl
       exact dp_v (v := (Sl Db Da Dc)) wn (rv_move e1) rfl hJ) ?_
     exact all_nil
    ·intro _nm ρ σ29 hJ hoff hrel
     have e0 := look_off (N := 28) (hoff 0 rfl) rfl
     have e1 := look_off (N := 28) (hoff 1 rfl) rfl
     have e5 := look_off (N := 28) (hoff 5 rfl) rfl
     have e6 := look_off (N := 28) (hoff 6 rfl) rfl
     have e18 := hrel 5 rfl 18 rfl
     have e22 := hrel 9 rfl 22 rfl
     have e23 := hrel 10 rfl 23 rfl
     obtain ⟨H, -⟩ := (show Hp S0 σ0 σ29 [Ch.ro 0 (Sl a24 x19 c25) x19, Ch.ro 0 (Sl a11 x6 c12) x6, Ch.ro 0 (Sl Bi Bg Bj) Bg, Ch.ro 0 (Sl Db Da Dc) Da] ∧ Md (cov []) σ3 σ29 from hJ)
     clear hJ Hs
     rw [fr_lookL (L := [(0, (Sl Bi Bg Bj)), (1, (Sl Db Da Dc)), (5, (I s2.1)), (6, (I s2.2)), (18, (I r16)), (22, (Sl a24 x19 c25)), (23, (Sl Db Da Dc))]) ⟨e0, e1, e5, e6, e18, e22, e23, trivial⟩]
     clear hoff hrel e0 e1 e5 e6 e18 e22 e23
     revert h; refine br fun r30 hx31 h => ?_
     have hc32 := c_spec_halfDist (Ad := a24) (Ae := c25) (Af := Db) (Ag := Dc) hx31
     refine st_call (cx_call hc32 (ent_f hc32.fn rfl) hn0 (H.sel' [0, 3, 0, 1, 2, 3] rfl rfl : Hp S0 σ0 _ ([_, _] ++ _))) wn ?_
     rintro _ σ33 ⟨_, ⟨rfl, rfl⟩, H, -⟩
     replace H : Hp _ _ _ [_, _, _, _] := H
     refine st (v := (B (decide (r16 < r30)))) (rv_lss (a := r16) (b := r30) rfl rfl) (w_end (q_then ?_))
     refine cd_cond (decide (r16 < r30)) rfl (fun hb34 => ?_) (fun hb34 => ?_)
     ·replace h := bif_t hb34 h
      refine rg (sm (I s2.2) rfl (sa (I s2.2) rfl (w_end (q_blk ?_))))
      obtain rfl := sj h
      exact ⟨rfl, _, σ33, fr_join ⟨rfl, rfl, rfl, rfl, trivial⟩, rfl, H.sel' [2, 3] rfl rfl⟩
     ·replace h := bif_f hb34 h
      refine c_skip (q_blk ?_)
      obtain rfl := sj h
      exact ⟨rfl, _, σ33, fr_join ⟨rfl, rfl, rfl, rfl, trivial⟩, rfl, H.sel' [2, 3] rfl rfl⟩
   ·clear hj
    have h := h'
    clear h' H
    rintro e a w ⟨rfl, ρ, σ35, rfl, rfl, H⟩
    refine q_then (rg (sm (I s2.2) rfl (st (v := (I (w64 (s2.2 + 1)))) (rv_add (a := s2.2) (b := 1) rfl rfl) (sa (I (w64 (s2.2 + 1))) rfl (w_end (q_then ?_))))))
    obtain rfl := sj h
    exact ⟨_, rfl, _, σ35, fr_join ⟨rfl, rfl, rfl, rfl, trivial⟩, rfl, H.sel' [0, 1] rfl rfl⟩
  ·replace h := bif_f hb4 h
   refine c_exit (q_then_x (q_then_x (q_blk_hit ?_)))
   obtain rfl := sj h
   obtain rfl := hres _ rfl
   exact ⟨rfl, _, σ3, fr_join ⟨rfl, trivial⟩, rfl, H.sel' [] rfl rfl⟩
 ·clear hj
  have h := h'
  clear h' H
  rintro e a w ⟨rfl, ρ, σ36, rfl, rfl, H⟩
  refine q_then (c_seq (rg (sm (I o1) rfl (sa (I o1) rfl (w_end (q_then (c_ret ?_)))))))
  obtain rfl := sj h
  exact fin_ret (v := (I o1)) (results_ok Tryz.results118 (res_tmp (v := (I o1)) rfl res_nil) rfl) ⟨rfl, rfl⟩ (H.sel' [] rfl rfl)

theorem c_spec_encode {Cu : (List (List Int)) × (List (List Int))} {Dd : List Int} {Cv : Option Addr} {Cw : Nat} {Cy : Option Addr} {Cz : Nat} {De : Option Addr} {Dg : Nat} {r : Int} (h : M.spec_encode Cu Dd = some r) :
    Cal2 Tryz.prog 73 [(.agg #[(Sl Cv Cu.1 Cw), (Sl Cy Cu.2 Cz)]), (Sl De Dd Dg)] [Ch.ro 0 (Sl Cv Cu.1 Cw) Cu.1, Ch.ro 0 (Sl Cy Cu.2 Cz) Cu.2, Ch.ro 0 (Sl De Dd Dg) Dd] (fun n0 v L => v = (I r) ∧ L = []) := by
 refine cal2 (n := 17) Tryz.func73 rfl rfl rfl rfl ?_
 intro S0 σ0 n0 hn0 H
 unfold M.spec_encode at h
 refine c_seq (rg (st_ex (ex_box (cs := [(Sl Cv Cu.1 Cw), (Sl Cy Cu.2 Cz)]) H hn0 rfl rfl) wn ?_))
 rintro _ σ2 ⟨b1, rfl, H, -⟩
 refine sa (I 0) rfl (w_end (q_then (c_seq ?_)))
 have hc3 := H.cell (u := (Sl Cv Cu.1 Cw)) (o' := 0) 0 0 rfl rfl rfl
 revert h; refine br fun xs4 hx5 h => ?_
 obtain ⟨a6, c7, hs8, hR9⟩ := (H.ro 3 rfl).slice hx5
 replace H := H.add (d := Ch.ro 0 (Sl a6 xs4 c7) xs4) hR9 (fun _ h => h)
 clear hR9
 revert h; refine br fun r10 hx11 h => ?_
 have hc12 := c_spec_closest (Bi := Cv) (Bj := Cw) (Db := a6) (Dc := c7) hx11
 have hc13 := H.cell (u := (Sl Cy Cu.2 Cz)) (o' := 1) 1 1 rfl rfl rfl
 revert h; refine br fun xs14 hx15 h => ?_
 obtain ⟨a16, c17, hs18, hR19⟩ := (H.ro 4 rfl).slice hx15
 replace H := H.add (d := Ch.ro 0 (Sl a16 xs14 c17) xs14) hR19 (fun _ h => h)
 clear hR19
 revert h; refine br fun r20 hx21 h => ?_
 have hc22 := c_spec_closest (Bi := Cy) (Bj := Cz) (Db := a16) (Dc := c17) hx21
 have Hs := H
 refine rg2 (σ := σ2) (Nm := Unit) 11 [4, 10] [[false, false], [true, false], [true, true]] [[(0, 0)], [(0, 0)], [(0, 0)], [(0, 0)], [(0, 1)], [(1, 1), (2, 2)], [(0, 0), (1, 1)], [(0, 0), (1, 1)], [(0, 0), (1, 1)], [(0, 0), (1, 1)], [(1, 2)]] 2 [fun _ => fun σm => Hp S0 σ0 σm [Ch.ro 0 (Sl a16 xs14 c17) xs14, Ch.ro 0 (Sl a6 xs4 c7) xs4, Ch.bx n0 b1 0 [(Sl Cv Cu.1 Cw), (Sl Cy Cu.2 Cz)] [] [], Ch.ro 0 (Sl Cv Cu.1 Cw) Cu.1, Ch.ro 0 (Sl Cy Cu.2 Cz) Cu.2, Ch.ro 0 (Sl De Dd Dg) Dd] ∧ Md (cov []) σ2 σm, fun _ => fun σm => Hp S0 σ0 σm [Ch.ro 0 (Sl a16 xs14 c17) xs14, Ch.ro 0 (Sl a6 xs4 c7) xs4, Ch.bx n0 b1 0 [(Sl Cv Cu.1 Cw), (Sl Cy Cu.2 Cz)] [] [], Ch.ro 0 (Sl Cv Cu.1 Cw) Cu.1, Ch.ro 0 (Sl Cy Cu.2 Cz) Cu.2, Ch.ro 0 (Sl De Dd Dg) Dd] ∧ Md (cov []) σ2 σm, fun _ => fun σm => Hp S0 σ0 σm [Ch.ro 0 (Sl a16 xs14 c17) xs14, Ch.ro 0 (Sl a6 xs4 c7) xs4, Ch.bx n0 b1 0 [(Sl Cv Cu.1 Cw), (Sl Cy Cu.2 Cz)] [] [], Ch.ro 0 (Sl Cv Cu.1 Cw) Cu.1, Ch.ro 0 (Sl Cy Cu.2 Cz) Cu.2, Ch.ro 0 (Sl De Dd Dg) Dd] ∧ Md (cov []) σ2 σm] [fun _ => (pt b1 0), fun _ => (Sl Cv Cu.1 Cw), fun _ => (Sl De Dd Dg), fun _ => (Sl a6 xs4 c7), fun _ => (I r10), fun _ => (I (w64 (r10 * 4))), fun _ => (pt b1 1), fun _ => (Sl Cy Cu.2 Cz), fun _ => (Sl De Dd Dg), fun _ => (Sl a16 xs14 c17), fun _ => (I r20)] () (by kernel_rfl) (by kernel_rfl) ?_ ?_ ?_
 ·intro σm m0
  exact ⟨H.grow (m0.mono fun _ h => h.elim), m0⟩
 ·refine ac rfl (by
    intro k _nm ρ σm hJ hoff hdep
    have e2 := look_off (N := 17) (hoff 2 rfl) rfl
    exact dp_v (v := (pt b1 0)) wn (rv_fieldAddr (off := 0) (ft := 37) Tryz.underlying47 rfl ti37 rfl e2) rfl hJ) ?_
  refine all_cons (by
    refine ⟨?_, ?_⟩
    ·intro _nm ρ σm hJ hoff hdep
     have e5 := hdep 0 rfl rfl 5 rfl
     obtain ⟨H, m⟩ := id hJ
     have hc3 := H.cell (u := (Sl Cv Cu.1 Cw)) (o' := 0) 2 0 rfl rfl rfl
     exact dp_v (v := (Sl Cv Cu.1 Cw)) wn (rv_load1 Tryz.underlying37 rfl e5 hc3) rfl hJ
    trivial) ?_
  refine ac rfl (by
    intro k _nm ρ σm hJ hoff hdep
    have e1 := look_off (N := 17) (hoff 1 rfl) rfl
    exact dp_v (v := (Sl De Dd Dg)) wn (rv_move e1) rfl hJ) ?_
  refine ac rfl (by
    intro k _nm ρ σm hJ hoff hdep
    have e7 := hdep 2 rfl rfl 7 rfl
    exact dp_v (v := (Sl a6 xs4 c7)) wn (rv_slice_h Tryz.underlying24 ti3 hs8 e7 rfl) rfl hJ) ?_
  refine all_cons (by
    refine ⟨?_, ?_⟩
    ·intro _nm ρ σm hJ hoff hdep
     have e6 : look 17 ρ 6 = (Sl Cv Cu.1 Cw) := hdep 1 rfl rfl 6 rfl
     have e8 : look 17 ρ 8 = (Sl a6 xs4 c7) := hdep 3 rfl rfl 8 rfl
     obtain ⟨H, m⟩ := id hJ
     refine dp_cx wn (cx_call hc12 (ent_f hc12.fn (by show [look 17 ρ 6, look 17 ρ 8] = _; rw [e6, e8])) hn0 (H.sel' [3, 1, 0, 1, 2, 3, 4, 5] rfl rfl : Hp S0 σ0 _ ([_, _] ++ _))) ?_
     rintro _ σq ⟨_, ⟨rfl, rfl⟩, H2, m2⟩
     exact ⟨_, (), rfl, rfl, ⟨H2.sel' [0, 1, 2, 3, 4, 5] rfl rfl, m.comp0 (m2.mono (fun i h => by simp [cov, Ch.ro] at h))⟩, stab [0, 1, 2, 3, 6, 7, 8, 9] (by kernel_rfl) ⟨rfl, rfl, rfl, rfl, rfl, rfl, rfl, rfl, trivial⟩⟩
    trivial) ?_
  refine ac rfl (by
    intro k _nm ρ σm hJ hoff hdep
    have e9 := hdep 4 rfl rfl 9 rfl
    exact dp_v (v := (I (w64 (r10 * 4)))) wn (rv_mul (a := r10) (b := 4) e9 rfl) rfl hJ) ?_
  refine ac rfl (by
    intro k _nm ρ σm hJ hoff hdep
    have e2 := look_off (N := 17) (hoff 2 rfl) rfl
    exact dp_v (v := (pt b1 1)) wn (rv_fieldAddr (off := 1) (ft := 37) Tryz.underlying47 rfl ti37 rfl e2) rfl hJ) ?_
  refine all_cons (by
    refine ⟨?_, ?_⟩
    ·intro _nm ρ σm hJ hoff hdep
     have e11 := hdep 6 rfl rfl 11 rfl
     obtain ⟨H, m⟩ := id hJ
     have hc13 := H.cell (u := (Sl Cy Cu.2 Cz)) (o' := 1) 2 1 rfl rfl rfl
     exact dp_v (v := (Sl Cy Cu.2 Cz)) wn (rv_load1 Tryz.underlying37 rfl e11 hc13) rfl hJ
    refine ⟨?_, ?_⟩
    ·intro _nm ρ σm hJ hoff hdep
     have e11 := hdep 6 rfl rfl 11 rfl
     obtain ⟨H, m⟩ := id hJ
     have hc13 := H.cell (u := (Sl Cy Cu.2 Cz)) (o' := 1) 2 1 rfl rfl rfl
     exact dp_v (v := (Sl Cy Cu.2 Cz)) wn (rv_load1 Tryz.underlying37 rfl e11 hc13) rfl hJ
    trivial) ?_
  refine ac rfl (by
    intro k _nm ρ σm hJ hoff hdep
    have e1 := look_off (N := 17) (hoff 1 rfl) rfl
    exact dp_v (v := (Sl De Dd Dg)) wn (rv_move e1) rfl hJ) ?_
  refine ac rfl (by
    intro k _nm ρ σm hJ hoff hdep
    have e13 := hdep 8 rfl rfl 13 rfl
    exact dp_v (v := (Sl a16 xs14 c17)) wn (rv_slice_l Tryz.underlying24 ti3 hs18 e13 rfl) rfl hJ) ?_
  refine all_cons (by
    refine ⟨?_, ?_⟩
    ·intro _nm ρ σm hJ hoff hdep
     have e12 : look 17 ρ 12 = (Sl Cy Cu.2 Cz) := hdep 7 rfl rfl 12 rfl
     have e14 : look 17 ρ 14 = (Sl a16 xs14 c17) := hdep 9 rfl rfl 14 rfl
     obtain ⟨H, m⟩ := id hJ
     refine dp_cx wn (cx_call hc22 (ent_f hc22.fn (by show [look 17 ρ 12, look 17 ρ 14] = _; rw [e12, e14])) hn0 (H.sel' [4, 0, 0, 1, 2, 3, 4, 5] rfl rfl : Hp S0 σ0 _ ([_, _] ++ _))) ?_
     rintro _ σq ⟨_, ⟨rfl, rfl⟩, H2, m2⟩
     exact ⟨_, (), rfl, rfl, ⟨H2.sel' [0, 1, 2, 3, 4, 5] rfl rfl, m.comp0 (m2.mono (fun i h => by simp [cov, Ch.ro] at h))⟩, stab [0, 1, 2, 3, 4, 5, 6, 7, 8, 9] (by kernel_rfl) ⟨rfl, rfl, rfl, rfl, rfl, rfl, rfl, rfl, rfl, rfl, trivial⟩⟩
    trivial) ?_
  exact all_nil
 ·intro _nm ρ σ23 hJ hoff hrel
  have e10 := hrel 5 rfl 10 rfl
  have e15 := hrel 10 rfl 15 rfl
  obtain ⟨H, -⟩ := (show Hp S0 σ0 σ23 [Ch.ro 0 (Sl a16 xs14 c17) xs14, Ch.ro 0 (Sl a6 xs4 c7) xs4, Ch.bx n0 b1 0 [(Sl Cv Cu.1 Cw), (Sl Cy Cu.2 Cz)] [] [], Ch.ro 0 (Sl Cv Cu.1 Cw) Cu.1, Ch.ro 0 (Sl Cy Cu.2 Cz) Cu.2, Ch.ro 0 (Sl De Dd Dg) Dd] ∧ Md (cov []) σ2 σ23 from hJ)
  clear hJ Hs
  rw [fr_lookL (L := [(10, (I (w64 (r10 * 4)))), (15, (I r20))]) ⟨e10, e15, trivial⟩]
  clear hoff hrel e10 e15
  refine st (v := (I (w64 ((w64 (r10 * 4)) + r20)))) (rv_add (a := (w64 (r10 * 4))) (b := r20) rfl rfl) (sa (I (w64 ((w64 (r10 * 4)) + r20))) rfl (w_end (q_then (c_ret ?_))))
  obtain rfl := sj h
  exact fin_ret (v := (I (w64 ((w64 (r10 * 4)) + r20)))) (results_ok Tryz.results73 (res_tmp (v := (I (w64 ((w64 (r10 * 4)) + r20)))) rfl res_nil) rfl) ⟨rfl, rfl⟩ (H.sel' [] rfl rfl)

theorem c_spec_CodeNearest {Cu : (List (List Int)) × (List (List Int))} {Bw : List (Int × (List Int) × Int)} {Dm : List Int} {Dn : Int} {Cv : Option Addr} {Cw : Nat} {Cy : Option Addr} {Cz : Nat} {By : Option Addr} {Bz : Nat} {Do : Option Addr} {Dq : Nat} {r : (List (Int × Int))} (h : M.spec_CodeNearest Cu Bw Dm Dn = some r) :
    Cal2 Tryz.prog 25 [(.agg #[(Sl Cv Cu.1 Cw), (Sl Cy Cu.2 Cz)]), (Sl By Bw Bz), (Sl Do Dm Dq), (I Dn)] [Ch.ro 0 (Sl Cv Cu.1 Cw) Cu.1, Ch.ro 0 (Sl Cy Cu.2 Cz) Cu.2, Ch.ro 0 (Sl By Bw Bz) Bw, Ch.ro 0 (Sl Do Dm Dq) Dm] (fun n0 v L => ∃ (az1 : Option Addr), ∃ (cz2 : Nat), v = (Sl az1 r cz2) ∧ L = [Ch.own n0 n0 (Sl az1 r cz2) r]) := by
 refine cal2 (n := 53) Tryz.func25 rfl rfl rfl rfl ?_
 intro S0 σ0 n0 hn0 H
 unfold M.spec_CodeNearest at h
 refine c_seq (rg (st_ex (ex_box (cs := [(Sl Cv Cu.1 Cw), (Sl Cy Cu.2 Cz)]) H hn0 rfl rfl) wn ?_))
 rintro _ σ2 ⟨b1, rfl, H, -⟩
 refine sa (.slice none 0 0) rfl (w_end (q_then (c_seq (rg ?_))))
 refine st_ex (ex_buildSlice (el := n0) (xs := ([] : List (Int × Int))) (ps := []) (cs := []) H hn0 Tryz.underlying27 ti44 rfl rfl (by kernel_rfl) (.nil) rfl) wn ?_
 rintro _ σ4 ⟨b3, rfl, H, -⟩
 refine sa (Sl (some ⟨b3, 0, none⟩) ([] : List (Int × Int)) 0) rfl (w_end (q_then (c_seq (c_seq ?_))))
 obtain ⟨o5, hj, h'⟩ := bind_some h
 clear h
 refine c_cut (fun e a w => e = .normal ∧ ∃ (ρ : Nat → Value) (σ : St), a = fr 53 (updL ρ [(1, (Sl By Bw Bz)), (2, (Sl Do Dm Dq)), (3, (I Dn)), (4, (pt b1 0)), (9, (Sl (some ⟨b3, 0, none⟩) ([] : List (Int × Int)) 0)), (25, (B o5))]) ∧ w = σ.w ∧ Hp S0 σ0 σ [Ch.ro 0 (Sl By Bw Bz) Bw, Ch.ro 0 (Sl Do Dm Dq) Dm, Ch.ro 0 (Sl Cv Cu.1 Cw) Cu.1, Ch.ro 0 (Sl Cy Cu.2 Cz) Cu.2, Ch.bx n0 b1 0 [(Sl Cv Cu.1 Cw), (Sl Cy Cu.2 Cz)] [] [], Ch.own n0 n0 (Sl (some ⟨b3, 0, none⟩) ([] : List (Int × Int)) 0) ([] : List (Int × Int))]) ?_ ?_
 ·clear h'
  rename _ = some o5 => h
  refine rg ?_
  have hc6 := H.cells 1 rfl
  refine st (v := (.agg #[(Sl Cv Cu.1 Cw), (Sl Cy Cu.2 Cz)])) (rv_load (cs := [(Sl Cv Cu.1 Cw), (Sl Cy Cu.2 Cz)]) Tryz.underlying47 rfl ti47 rfl rfl hc6) ?_
  revert h; refine br fun r7 hx8 h => ?_
  have hc9 := c_spec_validBook (Cv := Cv) (Cw := Cw) (Cy := Cy) (Cz := Cz) hx8
  refine st_call (cx_call hc9 (ent_f hc9.fn rfl) hn0 (H.sel' [2, 3, 0, 1, 2, 3, 4, 5] rfl rfl : Hp S0 σ0 _ ([_, _] ++ _))) wn ?_
  rintro _ σ10 ⟨_, ⟨rfl, rfl⟩, H, -⟩
  replace H : Hp _ _ _ [_, _, _, _, _, _] := H
  refine st (v := (B (!r7))) (rv_not rfl) (sm (B (!r7)) rfl ?_)
  rcases Bool.eq_false_or_eq_true (!r7) with hb11 | hb11
  ·replace h := bif_t hb11 h
   refine st_skip (congrArg some hb11) (st_skip (congrArg some hb11) (st_skip (congrArg some hb11) (st_skip (congrArg some hb11) (st (v := (B true)) (rv_pick_t (congrArg B hb11) rfl) (sm (B true) rfl (st_skip rfl (st_skip rfl (st_skip rfl (st (v := (B true)) (rv_pick_t rfl rfl) (w_end ?_))))))))))
   obtain rfl := sj h
   exact ⟨rfl, _, σ10, fr_join ⟨rfl, rfl, rfl, rfl, rfl, rfl, trivial⟩, rfl, H.sel' [4, 5, 2, 3, 1, 0] rfl rfl⟩
  ·replace h := bif_f hb11 h
   refine st_g (v := (Sl By Bw Bz)) (congrArg some hb11) (rv_move rfl) (st_g (v := (Sl Do Dm Dq)) (congrArg some hb11) (rv_move rfl) ?_)
   revert h; refine br fun r12 hx13 h => ?_
   have hc14 := c_spec_validQuery (Bi := By) (Bj := Bz) (Do := Do) (Dq := Dq) hx13
   refine st_call (cx_call hc14 (ent_f hc14.fn rfl) hn0 (H.sel' [4, 5, 0, 1, 2, 3, 4, 5] rfl rfl : Hp S0 σ0 _ ([_, _] ++ _))) (wanted_yes rfl (by exact (congrArg some hb11))) ?_
   rintro _ σ15 ⟨_, ⟨rfl, rfl⟩, H, -⟩
   replace H : Hp _ _ _ [_, _, _, _, _, _] := H
   refine st_g (v := (B (!r12))) (congrArg some hb11) (rv_not rfl) (st (v := (B (!r12))) (rv_pick_f (congrArg B hb11) rfl) (sm (B (!r12)) rfl ?_))
   rcases Bool.eq_false_or_eq_true (!r12) with hb16 | hb16
   ·replace h := bif_t hb16 h
    refine st_skip (congrArg some hb16) (st_skip (congrArg some hb16) (st_skip (congrArg some hb16) (st (v := (B true)) (rv_pick_t (congrArg B hb16) rfl) (w_end ?_))))
    obtain rfl := sj h
    exact ⟨rfl, _, σ15, fr_join ⟨rfl, rfl, rfl, rfl, rfl, rfl, trivial⟩, rfl, H.sel' [4, 5, 2, 3, 1, 0] rfl rfl⟩
   ·replace h := bif_f hb16 h
    refine st_g (v := (I Dn)) (congrArg some hb16) (rv_move rfl) ?_
    revert h; refine br fun r17 hx18 h => ?_
    have hc19 := c_spec_inRange hx18
    refine st_call (cx_call hc19 (ent_f hc19.fn rfl) hn0 (H.sel' [0, 1, 2, 3, 4, 5] rfl rfl : Hp S0 σ0 _ ([] ++ _))) (wanted_yes rfl (by exact (congrArg some hb16))) ?_
    rintro _ σ20 ⟨_, ⟨rfl, rfl⟩, H, -⟩
    replace H : Hp _ _ _ [_, _, _, _, _, _] := H
    refine st_g (v := (B (!r17))) (congrArg some hb16) (rv_not rfl) (st (v := (B (!r17))) (rv_pick_f (congrArg B hb16) rfl) (w_end ?_))
    obtain rfl := sj h
    exact ⟨rfl, _, σ20, fr_join ⟨rfl, rfl, rfl, rfl, rfl, rfl, trivial⟩, rfl, H.sel' [4, 5, 2, 3, 1, 0] rfl rfl⟩
 ·clear hj
  have h := h'
  clear h' H
  rintro e a w ⟨rfl, ρ, σ21, rfl, rfl, H⟩
  refine q_then ?_
  refine cd_cond o5 rfl (fun hb22 => ?_) (fun hb22 => ?_)
  ·replace h := bif_t hb22 h
   refine c_seq (rg (sa (.slice none 0 0) rfl (w_end (q_then (c_ret (q_then_r ?_))))))
   replace H := H.nilOwn (Int × Int) n0 n0
   obtain rfl := sj h
   exact fin_ret (v := (.slice none 0 0)) (results_ok Tryz.results25 (res_tmp (v := (.slice none 0 0)) rfl res_nil) rfl) ⟨none, 0, rfl, rfl⟩ (H.sel' [0] rfl rfl)
  ·replace h := bif_f hb22 h
   refine c_skip (q_then (c_seq (c_seq (rg (sa (I 0) rfl (w_end (q_then ?_)))))))
   obtain ⟨o23, hj, h'⟩ := bind_some h
   clear h
   refine c_cut (fun e a w => e = .normal ∧ ∃ (ρ : Nat → Value) (σ : St) (aj1 : Option Addr) (cj2 : Nat), a = fr 53 (updL ρ [(9, (Sl aj1 o23 cj2))]) ∧ w = σ.w ∧ Hp S0 σ0 σ [Ch.own n0 n0 (Sl aj1 o23 cj2) o23]) ?_ ?_
   ·clear h'
    rename _ = some o23 => h
    refine c_blk (wp_loopM _ h (fun s24 a w => ∃ (ρ : Nat → Value) (σ : St) (aj1 : Option Addr) (cj2 : Nat), a = fr 53 (updL ρ [(1, (Sl By Bw Bz)), (2, (Sl Do Dm Dq)), (3, (I Dn)), (4, (pt b1 0)), (9, (Sl aj1 s24.1 cj2)), (10, (I s24.2))]) ∧ w = σ.w ∧ Hp S0 σ0 σ [Ch.ro 0 (Sl By Bw Bz) Bw, Ch.ro 0 (Sl Do Dm Dq) Dm, Ch.ro 0 (Sl Cv Cu.1 Cw) Cu.1, Ch.ro 0 (Sl Cy Cu.2 Cz) Cu.2, Ch.bx n0 b1 0 [(Sl Cv Cu.1 Cw), (Sl Cy Cu.2 Cz)] [] [], Ch.own n0 n0 (Sl aj1 s24.1 cj2) s24.1]) ⟨_, σ21, (some ⟨b3, 0, none⟩), 0, fr_join ⟨rfl, rfl, rfl, rfl, rfl, rfl, trivial⟩, rfl, H.sel' [0, 1, 2, 3, 4, 5] rfl rfl⟩ ?_)
    clear h H
    rintro s24 a w o ⟨ρ, σ25, a26, c27, rfl, rfl, H⟩ h hres
    refine c_seq (c_seq (rg (sm (I s24.2) rfl (sm (Sl By Bw Bz) rfl (st (v := (I (Bw.length : Int))) (rv_len Tryz.underlying23 rfl) (st (v := (B (decide (s24.2 < (Bw.length : Int))))) (rv_lss (a := s24.2) (b := (Bw.length : Int)) rfl rfl) (w_end (q_then ?_))))))))
    refine cd_cond (decide (s24.2 < (Bw.length : Int))) rfl (fun hb28 => ?_) (fun hb28 => ?_)
    ·replace h := bif_t hb28 h
     refine c_skip (q_then (c_seq (c_blk ?_)))
     revert h; refine br fun x29 hx30 h => ?_
     obtain ⟨b32, o33, hi31, -⟩ := (H.ro 0 rfl).ix hx30
     have hc34 := ((H.ro 0 rfl).at hx30 hi31).fst.int
     have hc35 := H.cells 4 rfl
     have hc36 := H.cells 4 rfl
     revert h; refine br fun x37 hx38 h => ?_
     obtain ⟨b40, o41, hi39, -⟩ := (H.ro 0 rfl).ix hx38
     obtain ⟨v45, hc46, hR44⟩ := ((H.ro 0 rfl).at hx38 hi39).snd.fst.slice
     obtain ⟨a42, c43, rfl⟩ := hR44.isSl
     replace H := H.add (d := Ch.ro 0 (Sl a42 x37.2.1 c43) x37.2.1) hR44 (fun _ h => h)
     clear hR44
     revert h; refine br fun r47 hx48 h => ?_
     have hc49 := c_spec_encode (Cv := Cv) (Cw := Cw) (Cy := Cy) (Cz := Cz) (De := a42) (Dg := c43) hx48
     revert h; refine br fun r50 hx51 h => ?_
     have hc52 := c_spec_decode (Cv := Cv) (Cw := Cw) (Cy := Cy) (Cz := Cz) hx51
     revert h; refine br fun r55 hx56 h => ?_
     have hc57 := fun (a53 : Option Addr) (c54 : Nat) => c_spec_dist (Gr := a53) (Gs := c54) (Gt := Do) (Gu := Dq) hx56
     have Hs := H
     refine rg2 (σ := σ25) (Nm := (Option Addr) × (Nat)) 19 [13, 14, 16] [[false, false, false], [true, false, false], [true, true, false], [true, true, true]] [[(0, 0), (1, 1), (2, 2), (3, 3)], [(0, 0), (1, 1), (2, 2), (3, 3)], [(0, 0), (1, 1), (2, 2), (3, 3)], [(0, 0), (1, 1), (2, 2), (3, 3)], [(0, 0), (1, 1), (2, 2), (3, 3)], [(0, 0), (1, 1), (2, 2), (3, 3)], [(0, 0), (1, 1)], [(0, 0)], [(0, 0)], [(0, 0)], [(0, 0)], [(0, 0)], [(0, 0)], [(0, 1)], [(1, 2)], [(0, 0), (1, 1), (2, 2)], [(2, 3)], [(3, 3)], [(0, 0), (1, 1), (2, 2), (3, 3)]] 3 [fun ((a53, c54) : (Option Addr) × (Nat)) => fun σm => Hp S0 σ0 σm [Ch.ro 0 (Sl a42 x37.2.1 c43) x37.2.1, Ch.ro 0 (Sl By Bw Bz) Bw, Ch.ro 0 (Sl Do Dm Dq) Dm, Ch.ro 0 (Sl Cv Cu.1 Cw) Cu.1, Ch.ro 0 (Sl Cy Cu.2 Cz) Cu.2, Ch.bx n0 b1 0 [(Sl Cv Cu.1 Cw), (Sl Cy Cu.2 Cz)] [] [], Ch.own n0 n0 (Sl a26 s24.1 c27) s24.1] ∧ Md (cov []) σ25 σm, fun ((a53, c54) : (Option Addr) × (Nat)) => fun σm => Hp S0 σ0 σm [Ch.ro 0 (Sl a42 x37.2.1 c43) x37.2.1, Ch.ro 0 (Sl By Bw Bz) Bw, Ch.ro 0 (Sl Do Dm Dq) Dm, Ch.ro 0 (Sl Cv Cu.1 Cw) Cu.1, Ch.ro 0 (Sl Cy Cu.2 Cz) Cu.2, Ch.bx n0 b1 0 [(Sl Cv Cu.1 Cw), (Sl Cy Cu.2 Cz)] [] [], Ch.own n0 n0 (Sl a26 s24.1 c27) s24.1] ∧ Md (cov []) σ25 σm, fun ((a53, c54) : (Option Addr) × (Nat)) => fun σm => Hp S0 σ0 σm [Ch.ro 0 (Sl a53 r50 c54) r50, Ch.ro 0 (Sl a42 x37.2.1 c43) x37.2.1, Ch.ro 0 (Sl By Bw Bz) Bw, Ch.ro 0 (Sl Do Dm Dq) Dm, Ch.ro 0 (Sl Cv Cu.1 Cw) Cu.1, Ch.ro 0 (Sl Cy Cu.2 Cz) Cu.2, Ch.bx n0 b1 0 [(Sl Cv Cu.1 Cw), (Sl Cy Cu.2 Cz)] [] [], Ch.own n0 n0 (Sl a26 s24.1 c27) s24.1] ∧ Md (fun i => (cov []) i ∨ (fun i => (cov [Ch.ro 0 (Sl Cv Cu.1 Cw) Cu.1, Ch.ro 0 (Sl Cy Cu.2 Cz) Cu.2]) i ∨ (fun b => blk (Sl a53 r50 c54) = some b) i) i) σ25 σm, fun ((a53, c54) : (Option Addr) × (Nat)) => fun σm => Hp S0 σ0 σm [Ch.ro 0 (Sl a53 r50 c54) r50, Ch.ro 0 (Sl a42 x37.2.1 c43) x37.2.1, Ch.ro 0 (Sl By Bw Bz) Bw, Ch.ro 0 (Sl Do Dm Dq) Dm, Ch.ro 0 (Sl Cv Cu.1 Cw) Cu.1, Ch.ro 0 (Sl Cy Cu.2 Cz) Cu.2, Ch.bx n0 b1 0 [(Sl Cv Cu.1 Cw), (Sl Cy Cu.2 Cz)] [] [], Ch.own n0 n0 (Sl a26 s24.1 c27) s24.1] ∧ Md (fun i => (cov []) i ∨ (fun i => (cov [Ch.ro 0 (Sl Cv Cu.1 Cw) Cu.1, Ch.ro 0 (Sl Cy Cu.2 Cz) Cu.2]) i ∨ (fun b => blk (Sl a53 r50 c54) = some b) i) i) σ25 σm] [fun ((a53, c54) : (Option Addr) × (Nat)) => (Sl a26 s24.1 c27), fun ((a53, c54) : (Option Addr) × (Nat)) => (Sl By Bw Bz), fun ((a53, c54) : (Option Addr) × (Nat)) => (I s24.2), fun ((a53, c54) : (Option Addr) × (Nat)) => (pt b32 o33), fun ((a53, c54) : (Option Addr) × (Nat)) => (pt b32 (o33 + 0)), fun ((a53, c54) : (Option Addr) × (Nat)) => (I x29.1), fun ((a53, c54) : (Option Addr) × (Nat)) => (.agg #[(Sl Cv Cu.1 Cw), (Sl Cy Cu.2 Cz)]), fun ((a53, c54) : (Option Addr) × (Nat)) => (.agg #[(Sl Cv Cu.1 Cw), (Sl Cy Cu.2 Cz)]), fun ((a53, c54) : (Option Addr) × (Nat)) => (Sl By Bw Bz), fun ((a53, c54) : (Option Addr) × (Nat)) => (I s24.2), fun ((a53, c54) : (Option Addr) × (Nat)) => (pt b40 o41), fun ((a53, c54) : (Option Addr) × (Nat)) => (pt b40 (o41 + 1)), fun ((a53, c54) : (Option Addr) × (Nat)) => (Sl a42 x37.2.1 c43), fun ((a53, c54) : (Option Addr) × (Nat)) => (I r47), fun ((a53, c54) : (Option Addr) × (Nat)) => (Sl a53 r50 c54), fun ((a53, c54) : (Option Addr) × (Nat)) => (Sl Do Dm Dq), fun ((a53, c54) : (Option Addr) × (Nat)) => (I r55), fun ((a53, c54) : (Option Addr) × (Nat)) => (.agg #[(I x29.1), (I r55)]), fun ((a53, c54) : (Option Addr) × (Nat)) => (I Dn)] (none, 0) (by kernel_rfl) (by kernel_rfl) ?_ ?_ ?_
     ·intro σm m0
      exact ⟨H.grow (m0.mono fun _ h => h.elim), m0⟩
     ·refine ac rfl (by
        intro k; rintro ⟨a53, c54⟩ ρ σm hJ hoff hdep
        have e9 := look_off (N := 53) (hoff 9 rfl) rfl
        exact dp_v (v := (Sl a26 s24.1 c27)) wn (rv_move e9) rfl hJ) ?_
      refine ac rfl (by
        intro k; rintro ⟨a53, c54⟩ ρ σm hJ hoff hdep
        have e1 := look_off (N := 53) (hoff 1 rfl) rfl
        exact dp_v (v := (Sl By Bw Bz)) wn (rv_move e1) rfl hJ) ?_
      refine ac rfl (by
        intro k; rintro ⟨a53, c54⟩ ρ σm hJ hoff hdep
        have e10 := look_off (N := 53) (hoff 10 rfl) rfl
        exact dp_v (v := (I s24.2)) wn (rv_move e10) rfl hJ) ?_
      refine ac rfl (by
        intro k; rintro ⟨a53, c54⟩ ρ σm hJ hoff hdep
        have e33 := hdep 1 rfl rfl 33 rfl
        have e34 := hdep 2 rfl rfl 34 rfl
        exact dp_v (v := (pt b32 o33)) wn (rv_ix Tryz.underlying23 ti33 e33 e34 hi31) rfl hJ) ?_
      refine ac rfl (by
        intro k; rintro ⟨a53, c54⟩ ρ σm hJ hoff hdep
        have e35 := hdep 3 rfl rfl 35 rfl
        exact dp_v (v := (pt b32 (o33 + 0))) wn (rv_fieldAddr (off := 0) (ft := 3) Tryz.underlying33 rfl ti3 rfl e35) rfl hJ) ?_
      refine all_cons (by
        refine ⟨?_, ?_⟩
        ·rintro ⟨a53, c54⟩ ρ σm hJ hoff hdep
         have e36 := hdep 4 rfl rfl 36 rfl
         obtain ⟨H, m⟩ := id hJ
         replace hc34 := (Hs.ro 1 rfl).hmd hx30 hi31 (k := 0) (by decide) hc34 m
         exact dp_v (v := (I x29.1)) wn (rv_load1 Tryz.underlying3 rfl e36 hc34) rfl hJ
        refine ⟨?_, ?_⟩
        ·rintro ⟨a53, c54⟩ ρ σm hJ hoff hdep
         have e36 := hdep 4 rfl rfl 36 rfl
         obtain ⟨H, m⟩ := id hJ
         replace hc34 := (Hs.ro 1 rfl).hmd hx30 hi31 (k := 0) (by decide) hc34 m
         exact dp_v (v := (I x29.1)) wn (rv_load1 Tryz.underlying3 rfl e36 hc34) rfl hJ
        refine ⟨?_, ?_⟩
        ·rintro ⟨a53, c54⟩ ρ σm hJ hoff hdep
         have e36 := hdep 4 rfl rfl 36 rfl
         obtain ⟨H, m⟩ := id hJ
         replace hc34 := (Hs.ro 1 rfl).hmd hx30 hi31 (k := 0) (by decide) hc34 m
         exact dp_v (v := (I x29.1)) wn (rv_load1 Tryz.underlying3 rfl e36 hc34) rfl hJ
        refine ⟨?_, ?_⟩
        ·rintro ⟨a53, c54⟩ ρ σm hJ hoff hdep
         have e36 := hdep 4 rfl rfl 36 rfl
         obtain ⟨H, m⟩ := id hJ
         replace hc34 := (Hs.ro 1 rfl).hmd hx30 hi31 (k := 0) (by decide) hc34 m
         exact dp_v (v := (I x29.1)) wn (rv_load1 Tryz.underlying3 rfl e36 hc34) rfl hJ
        trivial) ?_
      refine all_cons (by
        refine ⟨?_, ?_⟩
        ·rintro ⟨a53, c54⟩ ρ σm hJ hoff hdep
         have e4 := look_off (N := 53) (hoff 4 rfl) rfl
         obtain ⟨H, m⟩ := id hJ
         have hc35 := H.cells 5 rfl
         exact dp_v (v := (.agg #[(Sl Cv Cu.1 Cw), (Sl Cy Cu.2 Cz)])) wn (rv_load (cs := [(Sl Cv Cu.1 Cw), (Sl Cy Cu.2 Cz)]) Tryz.underlying47 rfl ti47 e4 rfl hc35) rfl hJ
        refine ⟨?_, ?_⟩
        ·rintro ⟨a53, c54⟩ ρ σm hJ hoff hdep
         have e4 := look_off (N := 53) (hoff 4 rfl) rfl
         obtain ⟨H, m⟩ := id hJ
         have hc35 := H.cells 5 rfl
         exact dp_v (v := (.agg #[(Sl Cv Cu.1 Cw), (Sl Cy Cu.2 Cz)])) wn (rv_load (cs := [(Sl Cv Cu.1 Cw), (Sl Cy Cu.2 Cz)]) Tryz.underlying47 rfl ti47 e4 rfl hc35) rfl hJ
        trivial) ?_
      refine all_cons (by
        refine ⟨?_, ?_⟩
        ·rintro ⟨a53, c54⟩ ρ σm hJ hoff hdep
         have e4 := look_off (N := 53) (hoff 4 rfl) rfl
         obtain ⟨H, m⟩ := id hJ
         have hc36 := H.cells 5 rfl
         exact dp_v (v := (.agg #[(Sl Cv Cu.1 Cw), (Sl Cy Cu.2 Cz)])) wn (rv_load (cs := [(Sl Cv Cu.1 Cw), (Sl Cy Cu.2 Cz)]) Tryz.underlying47 rfl ti47 e4 rfl hc36) rfl hJ
        trivial) ?_
      refine ac rfl (by
        intro k; rintro ⟨a53, c54⟩ ρ σm hJ hoff hdep
        have e1 := look_off (N := 53) (hoff 1 rfl) rfl
        exact dp_v (v := (Sl By Bw Bz)) wn (rv_move e1) rfl hJ) ?_
      refine ac rfl (by
        intro k; rintro ⟨a53, c54⟩ ρ σm hJ hoff hdep
        have e10 := look_off (N := 53) (hoff 10 rfl) rfl
        exact dp_v (v := (I s24.2)) wn (rv_move e10) rfl hJ) ?_
      refine ac rfl (by
        intro k; rintro ⟨a53, c54⟩ ρ σm hJ hoff hdep
        have e40 := hdep 8 rfl rfl 40 rfl
        have e41 := hdep 9 rfl rfl 41 rfl
        exact dp_v (v := (pt b40 o41)) wn (rv_ix Tryz.underlying23 ti33 e40 e41 hi39) rfl hJ) ?_
      refine ac rfl (by
        intro k; rintro ⟨a53, c54⟩ ρ σm hJ hoff hdep
        have e42 := hdep 10 rfl rfl 42 rfl
        exact dp_v (v := (pt b40 (o41 + 1))) wn (rv_fieldAddr (off := 1) (ft := 24) Tryz.underlying33 rfl ti24 rfl e42) rfl hJ) ?_
      refine all_cons (by
        refine ⟨?_, ?_⟩
        ·rintro ⟨a53, c54⟩ ρ σm hJ hoff hdep
         have e43 := hdep 11 rfl rfl 43 rfl
         obtain ⟨H, m⟩ := id hJ
         replace hc46 := (Hs.ro 1 rfl).hmd hx38 hi39 (k := 1) (by decide) hc46 m
         exact dp_v (v := (Sl a42 x37.2.1 c43)) wn (rv_load1 Tryz.underlying24 rfl e43 hc46) rfl hJ
        trivial) ?_
      refine all_cons (by
        refine ⟨?_, ?_⟩
        ·rintro ⟨a53, c54⟩ ρ σm hJ hoff hdep
         have e39 : look 53 ρ 39 = (.agg #[(Sl Cv Cu.1 Cw), (Sl Cy Cu.2 Cz)]) := hdep 7 rfl rfl 39 rfl
         have e44 : look 53 ρ 44 = (Sl a42 x37.2.1 c43) := hdep 12 rfl rfl 44 rfl
         obtain ⟨H, m⟩ := id hJ
         refine dp_cx wn (cx_call hc49 (ent_f hc49.fn (by show [look 53 ρ 39, look 53 ρ 44] = _; rw [e39, e44])) hn0 (H.sel' [3, 4, 0, 0, 1, 2, 3, 4, 5, 6] rfl rfl : Hp S0 σ0 _ ([_, _, _] ++ _))) ?_
         rintro _ σq ⟨_, ⟨rfl, rfl⟩, H2, m2⟩
         exact ⟨_, (a53, c54), rfl, rfl, ⟨H2.sel' [0, 1, 2, 3, 4, 5, 6] rfl rfl, m.comp0 (m2.mono (fun i h => by simp [cov, Ch.ro] at h))⟩, stab [0, 1, 2, 3, 4, 5, 6, 7, 8, 9, 10, 11, 12, 15, 18] (by kernel_rfl) ⟨rfl, rfl, rfl, rfl, rfl, rfl, rfl, rfl, rfl, rfl, rfl, rfl, rfl, rfl, rfl, trivial⟩⟩
        trivial) ?_
      refine all_cons (by
        refine ⟨?_, ?_⟩
        ·rintro ⟨a53, c54⟩ ρ σm hJ hoff hdep
         have e38 : look 53 ρ 38 = (.agg #[(Sl Cv Cu.1 Cw), (Sl Cy Cu.2 Cz)]) := hdep 6 rfl rfl 38 rfl
         have e45 : look 53 ρ 45 = (I r47) := hdep 13 rfl rfl 45 rfl
         obtain ⟨H, m⟩ := id hJ
         refine dp_cx wn (cx_call hc52 (ent_f hc52.fn (by show [look 53 ρ 38, look 53 ρ 45] = _; rw [e38, e45])) hn0 (H.sel' [3, 4, 0, 1, 2, 3, 4, 5, 6] rfl rfl : Hp S0 σ0 _ ([_, _] ++ _))) ?_
         rintro _ σq ⟨_, ⟨a53x, c54x, rfl, rfl⟩, H2, m2⟩
         obtain ⟨σr0, hwr0, H2, mr0⟩ := H2.pubSc 0 rfl
         exact ⟨_, (a53x, c54x), hwr0, rfl, ⟨H2.sel' [0, 1, 2, 3, 4, 5, 6, 7] rfl rfl, m.comp (m2.comp mr0)⟩, stab [0, 1, 2, 3, 4, 5, 6, 7, 8, 9, 10, 11, 12, 13, 15, 18] (by kernel_rfl) ⟨rfl, rfl, rfl, rfl, rfl, rfl, rfl, rfl, rfl, rfl, rfl, rfl, rfl, rfl, rfl, rfl, trivial⟩⟩
        trivial) ?_
      refine ac rfl (by
        intro k; rintro ⟨a53, c54⟩ ρ σm hJ hoff hdep
        have e2 := look_off (N := 53) (hoff 2 rfl) rfl
        exact dp_v (v := (Sl Do Dm Dq)) wn (rv_move e2) rfl hJ) ?_
      refine all_cons (by
        refine ⟨?_, ?_⟩
        ·rintro ⟨a53, c54⟩ ρ σm hJ hoff hdep
         have e46 : look 53 ρ 46 = (Sl a53 r50 c54) := hdep 14 rfl rfl 46 rfl
         have e47 : look 53 ρ 47 = (Sl Do Dm Dq) := hdep 15 rfl rfl 47 rfl
         obtain ⟨H, m⟩ := id hJ
         refine dp_cx wn (cx_call (hc57 a53 c54) (ent_f (hc57 a53 c54).fn (by show [(I 3), look 53 ρ 46, look 53 ρ 47] = _; rw [e46, e47])) hn0 (H.sel' [0, 3, 0, 1, 2, 3, 4, 5, 6, 7] rfl rfl : Hp S0 σ0 _ ([_, _] ++ _))) ?_
         rintro _ σq ⟨_, ⟨rfl, rfl⟩, H2, m2⟩
         exact ⟨_, (a53, c54), rfl, rfl, ⟨H2.sel' [0, 1, 2, 3, 4, 5, 6, 7] rfl rfl, m.comp0 (m2.mono (fun i h => by simp [cov, Ch.ro] at h))⟩, stab [0, 1, 2, 3, 4, 5, 6, 7, 8, 9, 10, 11, 12, 13, 14, 15, 18] (by kernel_rfl) ⟨rfl, rfl, rfl, rfl, rfl, rfl, rfl, rfl, rfl, rfl, rfl, rfl, rfl, rfl, rfl, rfl, rfl, trivial⟩⟩
        trivial) ?_
      refine ac rfl (by
        intro k; rintro ⟨a53, c54⟩ ρ σm hJ hoff hdep
        have e37 : look 53 ρ 37 = (I x29.1) := hdep 5 rfl rfl 37 rfl
        have e48 : look 53 ρ 48 = (I r55) := hdep 16 rfl rfl 48 rfl
        exact dp_v (v := (.agg #[(I x29.1), (I r55)])) wn (rv_build (ps := [(0, (I x29.1)), (1, (I r55))]) Tryz.underlying44 ti44 (bp44 Tryz.underlying44) (by show [(0, look 53 ρ 37), (1, look 53 ρ 48)] = _; rw [e37, e48]) (by kernel_rfl)) rfl hJ) ?_
      refine ac rfl (by
        intro k; rintro ⟨a53, c54⟩ ρ σm hJ hoff hdep
        have e3 := look_off (N := 53) (hoff 3 rfl) rfl
        exact dp_v (v := (I Dn)) wn (rv_move e3) rfl hJ) ?_
      exact all_nil
     ·rintro ⟨a53, c54⟩ ρ σ58 hJ hoff hrel
      have e1 := look_off (N := 53) (hoff 1 rfl) rfl
      have e2 := look_off (N := 53) (hoff 2 rfl) rfl
      have e3 := look_off (N := 53) (hoff 3 rfl) rfl
      have e4 := look_off (N := 53) (hoff 4 rfl) rfl
      have e10 := look_off (N := 53) (hoff 10 rfl) rfl
      have e32 := hrel 0 rfl 32 rfl
      have e49 := hrel 17 rfl 49 rfl
      have e50 := hrel 18 rfl 50 rfl
      obtain ⟨H, -⟩ := (show Hp S0 σ0 σ58 [Ch.ro 0 (Sl a53 r50 c54) r50, Ch.ro 0 (Sl a42 x37.2.1 c43) x37.2.1, Ch.ro 0 (Sl By Bw Bz) Bw, Ch.ro 0 (Sl Do Dm Dq) Dm, Ch.ro 0 (Sl Cv Cu.1 Cw) Cu.1, Ch.ro 0 (Sl Cy Cu.2 Cz) Cu.2, Ch.bx n0 b1 0 [(Sl Cv Cu.1 Cw), (Sl Cy Cu.2 Cz)] [] [], Ch.own n0 n0 (Sl a26 s24.1 c27) s24.1] ∧ Md (fun i => (cov []) i ∨ (fun i => (cov [Ch.ro 0 (Sl Cv Cu.1 Cw) Cu.1, Ch.ro 0 (Sl Cy Cu.2 Cz) Cu.2]) i ∨ (fun b => blk (Sl a53 r50 c54) = some b) i) i) σ25 σ58 from hJ)
      clear hJ Hs
      rw [fr_lookL (L := [(1, (Sl By Bw Bz)), (2, (Sl Do Dm Dq)), (3, (I Dn)), (4, (pt b1 0)), (10, (I s24.2)), (32, (Sl a26 s24.1 c27)), (49, (.agg #[(I x29.1), (I r55)])), (50, (I Dn))]) ⟨e1, e2, e3, e4, e10, e32, e49, e50, trivial⟩]
      clear hoff hrel e1 e2 e3 e4 e10 e32 e49 e50
      obtain ⟨σ59, hw60, H, -⟩ := H.pub 7 rfl (Nat.le_refl _)
      rw [← hw60]; clear hw60
      replace H := H.roLow 0 0 rfl (Nat.zero_le _)
      revert h; refine br fun r61 hx62 h => ?_
      have hc63 := c_spec_addHit (Bi := a26) (Bj := c27) hx62
      refine st_call (cx_call hc63 (ent_f hc63.fn rfl) hn0 (H.sel' [0, 0, 1, 2, 3, 4, 5, 6, 7, 8] rfl rfl : Hp S0 σ0 _ ([_] ++ _))) wn ?_
      rintro _ σ66 ⟨_, ⟨a64, c65, rfl, rfl⟩, H, -⟩
      replace H : Hp _ _ _ [_, _, _, _, _, _, _, _, _, _] := H
      replace H : Hp S0 σ0 σ66 [Ch.own n0 n0 (Sl a64 r61 c65) r61, Ch.ro 0 (Sl By Bw Bz) Bw, Ch.ro 0 (Sl Do Dm Dq) Dm, Ch.ro 0 (Sl Cv Cu.1 Cw) Cu.1, Ch.ro 0 (Sl Cy Cu.2 Cz) Cu.2, Ch.bx n0 b1 0 [(Sl Cv Cu.1 Cw), (Sl Cy Cu.2 Cz)] [] []] := H.sel' [0, 5, 6, 7, 8, 9] rfl rfl
      refine sa (Sl a64 r61 c65) rfl (w_end (q_blk (q_then (rg (sm (I s24.2) rfl (st (v := (I (w64 (s24.2 + 1)))) (rv_add (a := s24.2) (b := 1) rfl rfl) (sa (I (w64 (s24.2 + 1))) rfl (w_end (q_then ?_)))))))))
      obtain rfl := sj h
      exact ⟨_, rfl, _, σ66, a64, c65, fr_join ⟨rfl, rfl, rfl, rfl, rfl, rfl, trivial⟩, rfl, H.sel' [1, 2, 3, 4, 5, 0] rfl rfl⟩
    ·replace h := bif_f hb28 h
     refine c_exit (q_then_x (q_then_x (q_blk_hit ?_)))
     obtain rfl := sj h
     obtain rfl := hres _ rfl
     exact ⟨rfl, _, σ25, a26, c27, fr_join ⟨rfl, trivial⟩, rfl, H.sel' [5] rfl rfl⟩
   ·clear hj
    have h := h'
    clear h' H
    rintro e a w ⟨rfl, ρ, σ67, a68, c69, rfl, rfl, H⟩
    refine q_then (c_seq (rg (sm (Sl a68 o23 c69) rfl (sa (Sl a68 o23 c69) rfl (w_end (q_then (c_ret ?_)))))))
    obtain rfl := sj h
    exact fin_ret (v := (Sl a68 o23 c69)) (results_ok Tryz.results25 (res_tmp (v := (Sl a68 o23 c69)) rfl res_nil) rfl) ⟨a68, c69, rfl, rfl⟩ (H.sel' [0] rfl rfl)

theorem c_laws_FnCodeNearest {Bk : List UInt8} {Bl : Option Addr} {Bm : Nat} {r : Bool} (h : M.laws_FnCodeNearest Bk = some r) :
    Cal2 Tryz.prog 5 [(Sl Bl Bk Bm)] [Ch.ro 0 (Sl Bl Bk Bm) Bk] (fun n0 v L => v = (B r) ∧ L = []) := by
 refine cal2 (n := 96) Tryz.func5 rfl rfl rfl rfl ?_
 intro S0 σ0 n0 hn0 H
 unfold M.laws_FnCodeNearest at h
 refine c_seq (rg (sa (B false) rfl (w_end (q_then (c_seq (c_seq (rg (sm (Sl Bl Bk Bm) rfl (st (v := (I (Bk.length : Int))) (rv_len Tryz.underlying22 rfl) (st (v := (B (decide (1048576 < (Bk.length : Int))))) (rv_gtr (a := (Bk.length : Int)) (b := 1048576) rfl rfl) (w_end ?_)))))))))))
 refine q_then ?_
 refine cd_cond (decide (1048576 < (Bk.length : Int))) rfl (fun hb1 => ?_) (fun hb1 => ?_)
 ·replace h := bif_t hb1 h
  refine c_seq (rg (sa (B true) rfl (w_end (q_then (c_ret (q_then_r ?_))))))
  obtain rfl := sj h
  exact fin_ret (v := (B true)) (results_ok Tryz.results5 (res_tmp (v := (B true)) rfl res_nil) rfl) ⟨rfl, rfl⟩ (H.sel' [] rfl rfl)
 ·replace h := bif_f hb1 h
  refine c_skip (q_then (c_seq (rg (sm (Sl Bl Bk Bm) rfl ?_))))
  revert h; refine br fun r2 hx3 h => ?_
  have hc4 := c_spec_DrawCodeNearest (Bl := Bl) (Bm := Bm) hx3
  refine st_call (cx_call hc4 (ent_f hc4.fn rfl) hn0 (H.sel' [0, 0] rfl rfl : Hp S0 σ0 _ ([_] ++ _))) wn ?_
  rintro _ σ13 ⟨_, ⟨a5, c6, a7, c8, a9, c10, a11, c12, rfl, rfl⟩, H, -⟩
  replace H : Hp _ _ _ [_, _, _, _, _] := H
  refine sm (.tuple #[(.agg #[(Sl a5 r2.1.1 c6), (Sl a7 r2.1.2 c8)]), (Sl a9 r2.2.1 c10), (Sl a11 r2.2.2.1 c12), (I r2.2.2.2)]) rfl (st (v := (.agg #[(Sl a5 r2.1.1 c6), (Sl a7 r2.1.2 c8)])) (rv_extract rfl rfl) (st (v := (Sl a9 r2.2.1 c10)) (rv_extract rfl rfl) (st (v := (Sl a11 r2.2.2.1 c12)) (rv_extract rfl rfl) (st (v := (I r2.2.2.2)) (rv_extract rfl rfl) (st_ex (ex_alloc (cs := [(.slice none 0 0), (.slice none 0 0)]) H hn0 ti47 rfl) wn ?_)))))
  rintro _ σ15 ⟨b14, rfl, H, -⟩
  refine st_exS (ex_store_box (k := 0) (cs := [(.slice none 0 0), (.slice none 0 0)]) (vs := [(Sl a5 r2.1.1 c6), (Sl a7 r2.1.2 c8)]) (cs' := [(Sl a5 r2.1.1 c6), (Sl a7 r2.1.2 c8)]) H (i := 0) rfl ti47 rfl rfl rfl rfl rfl (Nat.le_of_ble_eq_true rfl) (by simp [plain]) rfl) wn ?_
  rintro σ16 ⟨H, -⟩
  refine sa (Sl a9 r2.2.1 c10) rfl (sa (Sl a11 r2.2.2.1 c12) rfl (sa (I r2.2.2.2) rfl (w_end (q_then (c_seq (rg ?_))))))
  have hc17 := H.cells 0 rfl
  refine st (v := (.agg #[(Sl a5 r2.1.1 c6), (Sl a7 r2.1.2 c8)])) (rv_load (cs := [(Sl a5 r2.1.1 c6), (Sl a7 r2.1.2 c8)]) Tryz.underlying47 rfl ti47 rfl rfl hc17) (sm (Sl a9 r2.2.1 c10) rfl (sm (Sl a11 r2.2.2.1 c12) rfl (sm (I r2.2.2.2) rfl ?_)))
  revert h; refine br fun r18 hx19 h => ?_
  have hc20 := c_impl_CodeNearest (Cv := a5) (Cw := c6) (Cy := a7) (Cz := c8) (By := a9) (Bz := c10) (Do := a11) (Dq := c12) hx19
  have hle := Nat.le_trans hn0 H.size
  refine st_call (cx_lend (Loan.lend (Loan.lend (Loan.lend (Loan.lend Loan.nil)))) hc20 (ent_f hc20.fn rfl) (show Hp S0 σ0 _ ([Ch.own n0 n0 (Sl a5 r2.1.1 c6) r2.1.1, Ch.own n0 n0 (Sl a7 r2.1.2 c8) r2.1.2, Ch.own n0 n0 (Sl a9 r2.2.1 c10) r2.2.1, Ch.own n0 n0 (Sl a11 r2.2.2.1 c12) r2.2.2.1] ++ ([] ++ [Ch.bx n0 b14 0 [(Sl a5 r2.1.1 c6), (Sl a7 r2.1.2 c8)] [] [], Ch.ro 0 (Sl Bl Bk Bm) Bk])) from (H.sel' [1, 2, 3, 4, 0, 5] rfl rfl)) (by rintro _ _ _ ⟨_, _, rfl, rfl⟩; exact ⟨Ab.ownSc, trivial⟩)) wn ?_
  rintro _ σ23 ⟨_, ⟨a21, c22, rfl, rfl⟩, H, -, -⟩
  replace H : Hp _ _ _ [_, _, _, _, _, _, _] := H
  replace H := H.ownLow 0 0 n0 rfl (Nat.le_refl _) hle
  clear hle
  replace H : Hp _ _ _ [_, _, _, _, _, _, _] := H
  refine sa (Sl a21 r18 c22) rfl (w_end (q_then (c_seq (c_seq ?_))))
  obtain ⟨o24, hj, h'⟩ := bind_some h
  clear h
  refine c_cut (fun e a w => e = .normal ∧ ∃ (ρ : Nat → Value) (σ : St), a = fr 96 (updL ρ [(3, (pt b14 0)), (4, (Sl a9 r2.2.1 c10)), (5, (Sl a11 r2.2.2.1 c12)), (6, (I r2.2.2.2)), (7, (Sl a21 r18 c22)), (38, (B o24))]) ∧ w = σ.w ∧ Hp S0 σ0 σ [Ch.own n0 n0 (Sl a5 r2.1.1 c6) r2.1.1, Ch.own n0 n0 (Sl a7 r2.1.2 c8) r2.1.2, Ch.bx n0 b14 0 [(Sl a5 r2.1.1 c6), (Sl a7 r2.1.2 c8)] [] [], Ch.own n0 n0 (Sl a9 r2.2.1 c10) r2.2.1, Ch.own n0 n0 (Sl a11 r2.2.2.1 c12) r2.2.2.1, Ch.own 0 n0 (Sl a21 r18 c22) r18]) ?_ ?_
  ·clear h'
   rename _ = some o24 => h
   refine rg (sm (Sl a21 r18 c22) rfl ?_)
   have hc25 := H.cells 5 rfl
   refine st (v := (.agg #[(Sl a5 r2.1.1 c6), (Sl a7 r2.1.2 c8)])) (rv_load (cs := [(Sl a5 r2.1.1 c6), (Sl a7 r2.1.2 c8)]) Tryz.underlying47 rfl ti47 rfl rfl hc25) (sm (Sl a9 r2.2.1 c10) rfl (sm (Sl a11 r2.2.2.1 c12) rfl (sm (I r2.2.2.2) rfl ?_)))
   revert h; refine br fun r26 hx27 h => ?_
   have hc28 := c_spec_CodeNearest (Cv := a5) (Cw := c6) (Cy := a7) (Cz := c8) (By := a9) (Bz := c10) (Do := a11) (Dq := c12) hx27
   have hle := Nat.le_trans hn0 H.size
   refine st_call (cx_lend (Loan.lend (Loan.lend (Loan.lend (Loan.lend Loan.nil)))) hc28 (ent_f hc28.fn rfl) (show Hp S0 σ0 _ ([Ch.own n0 n0 (Sl a5 r2.1.1 c6) r2.1.1, Ch.own n0 n0 (Sl a7 r2.1.2 c8) r2.1.2, Ch.own n0 n0 (Sl a9 r2.2.1 c10) r2.2.1, Ch.own n0 n0 (Sl a11 r2.2.2.1 c12) r2.2.2.1] ++ ([] ++ [Ch.own 0 n0 (Sl a21 r18 c22) r18, Ch.bx n0 b14 0 [(Sl a5 r2.1.1 c6), (Sl a7 r2.1.2 c8)] [] [], Ch.ro 0 (Sl Bl Bk Bm) Bk])) from (H.sel' [1, 2, 3, 4, 0, 5, 6] rfl rfl)) (by rintro _ _ _ ⟨_, _, rfl, rfl⟩; exact ⟨Ab.ownSc, trivial⟩)) wn ?_
   rintro _ σ31 ⟨_, ⟨a29, c30, rfl, rfl⟩, H, -, -⟩
   replace H : Hp _ _ _ [_, _, _, _, _, _, _, _] := H
   replace H := H.ownLow 0 n0 n0 rfl hle hle
   clear hle
   replace H : Hp _ _ _ [_, _, _, _, _, _, _, _] := H
   replace H : Hp S0 σ0 σ31 [Ch.own n0 n0 (Sl a29 r26 c30) r26, Ch.own n0 n0 (Sl a5 r2.1.1 c6) r2.1.1, Ch.own n0 n0 (Sl a7 r2.1.2 c8) r2.1.2, Ch.own n0 n0 (Sl a9 r2.2.1 c10) r2.2.1, Ch.own n0 n0 (Sl a11 r2.2.2.1 c12) r2.2.2.1, Ch.own 0 n0 (Sl a21 r18 c22) r18, Ch.bx n0 b14 0 [(Sl a5 r2.1.1 c6), (Sl a7 r2.1.2 c8)] [] []] := H.sel' [0, 1, 2, 3, 4, 5, 6] rfl rfl
   obtain ⟨σ32, hw33, H, -⟩ := H.pub 0 rfl (Nat.le_refl _)
   rw [← hw33]; clear hw33
   replace H := H.roLow 0 0 rfl (Nat.zero_le _)
   revert h; refine br fun r34 hx35 h => ?_
   have hc36 := c_laws_equalHits (Ad := a21) (Ae := c22) (Af := a29) (Ag := c30) hx35
   have hle := Nat.le_trans hn0 H.size
   refine st_call (cx_lend (Loan.lend (Loan.same Loan.nil)) hc36 (ent_f hc36.fn rfl) (show Hp S0 σ0 _ ([Ch.own 0 n0 (Sl a21 r18 c22) r18] ++ ([Ch.ro 0 (Sl a29 r26 c30) r26] ++ [Ch.ro 0 (Sl a29 r26 c30) r26, Ch.ro n0 (Sl a29 r26 c30) r26, Ch.own n0 n0 (Sl a5 r2.1.1 c6) r2.1.1, Ch.own n0 n0 (Sl a7 r2.1.2 c8) r2.1.2, Ch.own n0 n0 (Sl a9 r2.2.1 c10) r2.2.1, Ch.own n0 n0 (Sl a11 r2.2.2.1 c12) r2.2.2.1, Ch.bx n0 b14 0 [(Sl a5 r2.1.1 c6), (Sl a7 r2.1.2 c8)] [] []])) from (H.sel' [6, 0, 0, 1, 2, 3, 4, 5, 7] rfl rfl)) (by rintro _ _ _ ⟨rfl, rfl⟩; exact trivial)) wn ?_
   rintro _ σ37 ⟨_, ⟨rfl, rfl⟩, H, -, -⟩
   replace H : Hp _ _ _ [_, _, _, _, _, _, _, _] := H
   clear hle
   replace H : Hp _ _ _ [_, _, _, _, _, _, _, _] := H
   replace H : Hp S0 σ0 σ37 [Ch.own 0 n0 (Sl a21 r18 c22) r18, Ch.own n0 n0 (Sl a5 r2.1.1 c6) r2.1.1, Ch.own n0 n0 (Sl a7 r2.1.2 c8) r2.1.2, Ch.own n0 n0 (Sl a9 r2.2.1 c10) r2.2.1, Ch.own n0 n0 (Sl a11 r2.2.2.1 c12) r2.2.2.1, Ch.bx n0 b14 0 [(Sl a5 r2.1.1 c6), (Sl a7 r2.1.2 c8)] [] []] := H.sel' [0, 3, 4, 5, 6, 7] rfl rfl
   refine st (v := (B (!r34))) (rv_not rfl) (sm (B (!r34)) rfl ?_)
   rcases Bool.eq_false_or_eq_true (!r34) with hb38 | hb38
   ·replace h := bif_t hb38 h
    refine st_skip (congrArg some hb38) (st_skip (congrArg some hb38) (st_skip (congrArg some hb38) (st (v := (B true)) (rv_pick_t (congrArg B hb38) rfl) (w_end ?_))))
    obtain rfl := sj h
    exact ⟨rfl, _, σ37, fr_join ⟨rfl, rfl, rfl, rfl, rfl, rfl, trivial⟩, rfl, H.sel' [1, 2, 5, 3, 4, 0] rfl rfl⟩
   ·replace h := bif_f hb38 h
    refine st_g (v := (Sl a21 r18 c22)) (congrArg some hb38) (rv_move rfl) (st_g (v := (I (r18.length : Int))) (congrArg some hb38) (rv_len Tryz.underlying27 rfl) (st_g (v := (B ((r18.length : Int) == 0))) (congrArg some hb38) (rv_eql (a := (r18.length : Int)) (b := 0) rfl rfl) (st (v := (B ((r18.length : Int) == 0))) (rv_pick_f (congrArg B hb38) rfl) (w_end ?_))))
    obtain rfl := sj h
    exact ⟨rfl, _, σ37, fr_join ⟨rfl, rfl, rfl, rfl, rfl, rfl, trivial⟩, rfl, H.sel' [1, 2, 5, 3, 4, 0] rfl rfl⟩
  ·clear hj
   have h := h'
   clear h' H
   rintro e a w ⟨rfl, ρ, σ39, rfl, rfl, H⟩
   refine q_then ?_
   refine cd_cond o24 rfl (fun hb40 => ?_) (fun hb40 => ?_)
   ·replace h := bif_t hb40 h
    refine c_seq (rg (sm (Sl a21 r18 c22) rfl ?_))
    have hc41 := H.cells 2 rfl
    refine st (v := (.agg #[(Sl a5 r2.1.1 c6), (Sl a7 r2.1.2 c8)])) (rv_load (cs := [(Sl a5 r2.1.1 c6), (Sl a7 r2.1.2 c8)]) Tryz.underlying47 rfl ti47 rfl rfl hc41) (sm (Sl a9 r2.2.1 c10) rfl (sm (Sl a11 r2.2.2.1 c12) rfl (sm (I r2.2.2.2) rfl ?_)))
    obtain ⟨σ42, hw43, H, -⟩ := H.pub 0 rfl (Nat.le_refl _)
    rw [← hw43]; clear hw43
    obtain ⟨σ44, hw45, H, -⟩ := H.pub 1 rfl (Nat.le_refl _)
    rw [← hw45]; clear hw45
    obtain ⟨σ46, hw47, H, -⟩ := H.pub 3 rfl (Nat.le_refl _)
    rw [← hw47]; clear hw47
    obtain ⟨σ48, hw49, H, -⟩ := H.pub 4 rfl (Nat.le_refl _)
    rw [← hw49]; clear hw49
    replace H := H.roLow 3 0 rfl (Nat.zero_le _)
    replace H := H.roLow 3 0 rfl (Nat.zero_le _)
    replace H := H.roLow 3 0 rfl (Nat.zero_le _)
    replace H := H.roLow 3 0 rfl (Nat.zero_le _)
    revert h; refine br fun r50 hx51 h => ?_
    have hc52 := c_spec_CodeNearest (Cv := a5) (Cw := c6) (Cy := a7) (Cz := c8) (By := a9) (Bz := c10) (Do := a11) (Dq := c12) hx51
    refine st_call (cx_call hc52 (ent_f hc52.fn rfl) hn0 (H.sel' [3, 2, 1, 0, 0, 1, 2, 3, 4, 5, 6, 7, 8, 9] rfl rfl : Hp S0 σ0 _ ([_, _, _, _] ++ _))) wn ?_
    rintro _ σ55 ⟨_, ⟨a53, c54, rfl, rfl⟩, H, -⟩
    replace H : Hp _ _ _ [_, _, _, _, _, _, _, _, _, _, _] := H
    replace H : Hp S0 σ0 σ55 [Ch.own n0 n0 (Sl a53 r50 c54) r50, Ch.own 0 n0 (Sl a21 r18 c22) r18] := H.sel' [0, 10] rfl rfl
    replace H := H.ownLow 1 0 0 rfl (Nat.le_refl _) (Nat.zero_le _)
    obtain ⟨σ56, hw57, H, -⟩ := H.pub 0 rfl (Nat.le_refl _)
    rw [← hw57]; clear hw57
    obtain ⟨σ58, hw59, H, -⟩ := H.pub 1 rfl (Nat.le_refl _)
    rw [← hw59]; clear hw59
    replace H := H.roLow 0 0 rfl (Nat.zero_le _)
    revert h; refine br fun r60 hx61 h => ?_
    have hc62 := c_laws_equalHits (Ad := a21) (Ae := c22) (Af := a53) (Ag := c54) hx61
    refine st_call (cx_call hc62 (ent_f hc62.fn rfl) hn0 (H.sel' [2, 0, 0, 1, 2] rfl rfl : Hp S0 σ0 _ ([_, _] ++ _))) wn ?_
    rintro _ σ63 ⟨_, ⟨rfl, rfl⟩, H, -⟩
    replace H : Hp _ _ _ [_, _, _] := H
    refine sa (B r60) rfl (w_end (q_then (c_ret (q_then_r ?_))))
    obtain rfl := sj h
    exact fin_ret (v := (B r60)) (results_ok Tryz.results5 (res_tmp (v := (B r60)) rfl res_nil) rfl) ⟨rfl, rfl⟩ (H.sel' [] rfl rfl)
   ·replace h := bif_f hb40 h
    refine c_skip (q_then (c_seq (rg ?_)))
    have hc64 := H.cells 2 rfl
    refine st (v := (.agg #[(Sl a5 r2.1.1 c6), (Sl a7 r2.1.2 c8)])) (rv_load (cs := [(Sl a5 r2.1.1 c6), (Sl a7 r2.1.2 c8)]) Tryz.underlying47 rfl ti47 rfl rfl hc64) (sm (Sl a11 r2.2.2.1 c12) rfl ?_)
    obtain ⟨σ65, hw66, H, -⟩ := H.pub 4 rfl (Nat.le_refl _)
    rw [← hw66]; clear hw66
    replace H := H.roLow 0 0 rfl (Nat.zero_le _)
    revert h; refine br fun r67 hx68 h => ?_
    have hc69 := c_impl_CodeDistances (Cv := a5) (Cw := c6) (Cy := a7) (Cz := c8) (De := a11) (Dg := c12) hx68
    have hle := Nat.le_trans hn0 H.size
    refine st_call (cx_lend (Loan.lend (Loan.lend (Loan.same Loan.nil))) hc69 (ent_f hc69.fn rfl) (show Hp S0 σ0 _ ([Ch.own n0 n0 (Sl a5 r2.1.1 c6) r2.1.1, Ch.own n0 n0 (Sl a7 r2.1.2 c8) r2.1.2] ++ ([Ch.ro 0 (Sl a11 r2.2.2.1 c12) r2.2.2.1] ++ [Ch.ro 0 (Sl a11 r2.2.2.1 c12) r2.2.2.1, Ch.ro n0 (Sl a11 r2.2.2.1 c12) r2.2.2.1, Ch.bx n0 b14 0 [(Sl a5 r2.1.1 c6), (Sl a7 r2.1.2 c8)] [] [], Ch.own n0 n0 (Sl a9 r2.2.1 c10) r2.2.1, Ch.own 0 n0 (Sl a21 r18 c22) r18])) from (H.sel' [2, 3, 0, 0, 1, 4, 5, 6] rfl rfl)) (by rintro _ _ _ ⟨_, _, rfl, rfl⟩; exact ⟨Ab.ownSc, trivial⟩)) wn ?_
    rintro _ σ72 ⟨_, ⟨a70, c71, rfl, rfl⟩, H, -, -⟩
    replace H : Hp _ _ _ [_, _, _, _, _, _, _, _] := H
    replace H := H.ownLow 0 n0 n0 rfl hle hle
    clear hle
    replace H : Hp _ _ _ [_, _, _, _, _, _, _, _] := H
    replace H : Hp S0 σ0 σ72 [Ch.own n0 n0 (Sl a70 r67 c71) r67, Ch.own n0 n0 (Sl a5 r2.1.1 c6) r2.1.1, Ch.own n0 n0 (Sl a7 r2.1.2 c8) r2.1.2, Ch.bx n0 b14 0 [(Sl a5 r2.1.1 c6), (Sl a7 r2.1.2 c8)] [] [], Ch.own n0 n0 (Sl a9 r2.2.1 c10) r2.2.1, Ch.own 0 n0 (Sl a21 r18 c22) r18] := H.sel' [0, 1, 2, 5, 6, 7] rfl rfl
    refine sa (Sl a70 r67 c71) rfl (w_end (q_then (c_seq (c_seq (rg (sa (I 0) rfl (w_end (q_then ?_))))))))
    obtain ⟨o73, hj, h'⟩ := bind_some h
    clear h
    refine c_cut (fun e a w => (∃ t, o73 = (.inl t) ∧ e = .normal ∧ ∃ (ρ : Nat → Value) (σ : St), a = fr 96 (updL ρ [(4, (Sl a9 r2.2.1 c10)), (6, (I r2.2.2.2)), (7, (Sl a21 r18 c22))]) ∧ w = σ.w ∧ Hp S0 σ0 σ [Ch.ro n0 (Sl a9 r2.2.1 c10) r2.2.1, Ch.own 0 n0 (Sl a21 r18 c22) r18]) ∨ (∃ t, o73 = (.inr t) ∧ e = .ret ∧ ∃ (ρ : Nat → Value) (σ : St), a = fr 96 (updL ρ [(2, (B t))]) ∧ w = σ.w ∧ Hp S0 σ0 σ [])) ?_ ?_
    ·clear h'
     rename _ = some o73 => h
     refine c_blk ?_
     obtain ⟨σ75, hw76, H, -⟩ := H.pub 4 rfl (Nat.le_refl _)
     rw [← hw76]; clear hw76
     refine wp_loopM _ h (fun s74 a w => ∃ (ρ : Nat → Value) (σ : St), a = fr 96 (updL ρ [(3, (pt b14 0)), (4, (Sl a9 r2.2.1 c10)), (6, (I r2.2.2.2)), (7, (Sl a21 r18 c22)), (8, (Sl a70 r67 c71)), (9, (I s74))]) ∧ w = σ.w ∧ Hp S0 σ0 σ [Ch.own n0 n0 (Sl a5 r2.1.1 c6) r2.1.1, Ch.own n0 n0 (Sl a7 r2.1.2 c8) r2.1.2, Ch.bx n0 b14 0 [(Sl a5 r2.1.1 c6), (Sl a7 r2.1.2 c8)] [] [], Ch.ro n0 (Sl a9 r2.2.1 c10) r2.2.1, Ch.own 0 n0 (Sl a21 r18 c22) r18, Ch.own n0 n0 (Sl a70 r67 c71) r67]) ⟨_, σ75, fr_join ⟨rfl, rfl, rfl, rfl, rfl, rfl, trivial⟩, rfl, H.sel' [2, 3, 4, 0, 5, 1] rfl rfl⟩ ?_
     clear h H
     rintro s74 a w o ⟨ρ, σ77, rfl, rfl, H⟩ h hres
     refine c_seq (c_seq (rg (sm (I s74) rfl (sm (Sl a21 r18 c22) rfl (st (v := (I (r18.length : Int))) (rv_len Tryz.underlying27 rfl) (st (v := (B (decide (s74 < (r18.length : Int))))) (rv_lss (a := s74) (b := (r18.length : Int)) rfl rfl) (w_end (q_then ?_))))))))
     refine cd_cond (decide (s74 < (r18.length : Int))) rfl (fun hb78 => ?_) (fun hb78 => ?_)
     ·replace h := bif_t hb78 h
      refine c_skip (q_then (c_seq (c_blk (c_seq ?_))))
      have hc79 := H.cells 2 rfl
      revert h; refine br fun x80 hx81 h => ?_
      obtain ⟨b83, o84, hi82, -⟩ := (H.own 4 rfl).ix hx81
      have hc85 := ((H.own 4 rfl).at hx81 hi82).fst.int
      replace H := H.roLow 3 0 rfl (Nat.zero_le _)
      revert h; refine br fun r86 hx87 h => ?_
      have hc88 := c_laws_itemOf (Bi := a9) (Bj := c10) hx87
      have Hs := H
      refine rg2 (σ := σ77) (Nm := (Option Addr) × (Nat)) 9 [7] [[false], [true]] [[(0, 0), (1, 1)], [(0, 0)], [(0, 0)], [(0, 0)], [(0, 0)], [(0, 0)], [(0, 0)], [(0, 1)], [(1, 1)]] 1 [fun ((a89, c90) : (Option Addr) × (Nat)) => fun σm => Hp S0 σ0 σm [Ch.ro 0 (Sl a9 r2.2.1 c10) r2.2.1, Ch.own n0 n0 (Sl a5 r2.1.1 c6) r2.1.1, Ch.own n0 n0 (Sl a7 r2.1.2 c8) r2.1.2, Ch.bx n0 b14 0 [(Sl a5 r2.1.1 c6), (Sl a7 r2.1.2 c8)] [] [], Ch.ro n0 (Sl a9 r2.2.1 c10) r2.2.1, Ch.own 0 n0 (Sl a21 r18 c22) r18, Ch.own n0 n0 (Sl a70 r67 c71) r67] ∧ Md (cov []) σ77 σm, fun ((a89, c90) : (Option Addr) × (Nat)) => fun σm => Hp S0 σ0 σm [Ch.ro 0 (Sl a89 r86.2.1 c90) r86.2.1, Ch.ro 0 (Sl a9 r2.2.1 c10) r2.2.1, Ch.own n0 n0 (Sl a5 r2.1.1 c6) r2.1.1, Ch.own n0 n0 (Sl a7 r2.1.2 c8) r2.1.2, Ch.bx n0 b14 0 [(Sl a5 r2.1.1 c6), (Sl a7 r2.1.2 c8)] [] [], Ch.ro n0 (Sl a9 r2.2.1 c10) r2.2.1, Ch.own 0 n0 (Sl a21 r18 c22) r18, Ch.own n0 n0 (Sl a70 r67 c71) r67] ∧ Md (cov []) σ77 σm] [fun ((a89, c90) : (Option Addr) × (Nat)) => (.agg #[(Sl a5 r2.1.1 c6), (Sl a7 r2.1.2 c8)]), fun ((a89, c90) : (Option Addr) × (Nat)) => (Sl a9 r2.2.1 c10), fun ((a89, c90) : (Option Addr) × (Nat)) => (Sl a21 r18 c22), fun ((a89, c90) : (Option Addr) × (Nat)) => (I s74), fun ((a89, c90) : (Option Addr) × (Nat)) => (pt b83 o84), fun ((a89, c90) : (Option Addr) × (Nat)) => (pt b83 (o84 + 0)), fun ((a89, c90) : (Option Addr) × (Nat)) => (I x80.1), fun ((a89, c90) : (Option Addr) × (Nat)) => (.agg #[(I r86.1), (Sl a89 r86.2.1 c90), (I r86.2.2)]), fun ((a89, c90) : (Option Addr) × (Nat)) => (Sl a89 r86.2.1 c90)] (none, 0) (by kernel_rfl) (by kernel_rfl) ?_ ?_ ?_
      ·intro σm m0
       exact ⟨H.grow (m0.mono fun _ h => h.elim), m0⟩
      ·refine all_cons (by
         refine ⟨?_, ?_⟩
         ·rintro ⟨a89, c90⟩ ρ σm hJ hoff hdep
          have e3 := look_off (N := 96) (hoff 3 rfl) rfl
          obtain ⟨H, m⟩ := id hJ
          have hc79 := H.cells 3 rfl
          exact dp_v (v := (.agg #[(Sl a5 r2.1.1 c6), (Sl a7 r2.1.2 c8)])) wn (rv_load (cs := [(Sl a5 r2.1.1 c6), (Sl a7 r2.1.2 c8)]) Tryz.underlying47 rfl ti47 e3 rfl hc79) rfl hJ
         refine ⟨?_, ?_⟩
         ·rintro ⟨a89, c90⟩ ρ σm hJ hoff hdep
          have e3 := look_off (N := 96) (hoff 3 rfl) rfl
          obtain ⟨H, m⟩ := id hJ
          have hc79 := H.cells 4 rfl
          exact dp_v (v := (.agg #[(Sl a5 r2.1.1 c6), (Sl a7 r2.1.2 c8)])) wn (rv_load (cs := [(Sl a5 r2.1.1 c6), (Sl a7 r2.1.2 c8)]) Tryz.underlying47 rfl ti47 e3 rfl hc79) rfl hJ
         trivial) ?_
       refine ac rfl (by
         intro k; rintro ⟨a89, c90⟩ ρ σm hJ hoff hdep
         have e4 := look_off (N := 96) (hoff 4 rfl) rfl
         exact dp_v (v := (Sl a9 r2.2.1 c10)) wn (rv_move e4) rfl hJ) ?_
       refine ac rfl (by
         intro k; rintro ⟨a89, c90⟩ ρ σm hJ hoff hdep
         have e7 := look_off (N := 96) (hoff 7 rfl) rfl
         exact dp_v (v := (Sl a21 r18 c22)) wn (rv_move e7) rfl hJ) ?_
       refine ac rfl (by
         intro k; rintro ⟨a89, c90⟩ ρ σm hJ hoff hdep
         have e9 := look_off (N := 96) (hoff 9 rfl) rfl
         exact dp_v (v := (I s74)) wn (rv_move e9) rfl hJ) ?_
       refine ac rfl (by
         intro k; rintro ⟨a89, c90⟩ ρ σm hJ hoff hdep
         have e57 := hdep 2 rfl rfl 57 rfl
         have e58 := hdep 3 rfl rfl 58 rfl
         exact dp_v (v := (pt b83 o84)) wn (rv_ix Tryz.underlying27 ti44 e57 e58 hi82) rfl hJ) ?_
       refine ac rfl (by
         intro k; rintro ⟨a89, c90⟩ ρ σm hJ hoff hdep
         have e59 := hdep 4 rfl rfl 59 rfl
         exact dp_v (v := (pt b83 (o84 + 0))) wn (rv_fieldAddr (off := 0) (ft := 3) Tryz.underlying44 rfl ti3 rfl e59) rfl hJ) ?_
       refine all_cons (by
         refine ⟨?_, ?_⟩
         ·rintro ⟨a89, c90⟩ ρ σm hJ hoff hdep
          have e60 := hdep 5 rfl rfl 60 rfl
          obtain ⟨H, m⟩ := id hJ
          have hc85 := ((H.own 5 rfl).at hx81 hi82).fst.int
          exact dp_v (v := (I x80.1)) wn (rv_load1 Tryz.underlying3 rfl e60 hc85) rfl hJ
         trivial) ?_
       refine all_cons (by
         refine ⟨?_, ?_⟩
         ·rintro ⟨a89, c90⟩ ρ σm hJ hoff hdep
          have e56 : look 96 ρ 56 = (Sl a9 r2.2.1 c10) := hdep 1 rfl rfl 56 rfl
          have e61 : look 96 ρ 61 = (I x80.1) := hdep 6 rfl rfl 61 rfl
          obtain ⟨H, m⟩ := id hJ
          refine dp_cx wn (cx_call hc88 (ent_f hc88.fn (by show [look 96 ρ 56, look 96 ρ 61] = _; rw [e56, e61])) hn0 (H.sel' [0, 0, 1, 2, 3, 4, 5, 6] rfl rfl : Hp S0 σ0 _ ([_] ++ _))) ?_
          rintro _ σq ⟨_, ⟨a89x, c90x, rfl, rfl⟩, H2, m2⟩
          exact ⟨_, (a89x, c90x), rfl, rfl, ⟨H2.sel' [0, 1, 2, 3, 4, 5, 6, 7] rfl rfl, m.comp0 (m2.mono (fun i h => by simp [cov, Ch.ro] at h))⟩, stab [0, 1, 2, 3, 4, 5, 6] (by kernel_rfl) ⟨rfl, rfl, rfl, rfl, rfl, rfl, rfl, trivial⟩⟩
         trivial) ?_
       refine ac rfl (by
         intro k; rintro ⟨a89, c90⟩ ρ σm hJ hoff hdep
         have e62 := hdep 7 rfl rfl 62 rfl
         exact dp_v (v := (Sl a89 r86.2.1 c90)) wn (rv_field (off := 1) (ft := 24) Tryz.underlying33 rfl Tryz.underlying24 rfl e62 rfl) rfl hJ) ?_
       exact all_nil
      ·rintro ⟨a89, c90⟩ ρ σ91 hJ hoff hrel
       have e3 := look_off (N := 96) (hoff 3 rfl) rfl
       have e4 := look_off (N := 96) (hoff 4 rfl) rfl
       have e6 := look_off (N := 96) (hoff 6 rfl) rfl
       have e7 := look_off (N := 96) (hoff 7 rfl) rfl
       have e8 := look_off (N := 96) (hoff 8 rfl) rfl
       have e9 := look_off (N := 96) (hoff 9 rfl) rfl
       have e55 := hrel 0 rfl 55 rfl
       have e63 := hrel 8 rfl 63 rfl
       obtain ⟨H, -⟩ := (show Hp S0 σ0 σ91 [Ch.ro 0 (Sl a89 r86.2.1 c90) r86.2.1, Ch.ro 0 (Sl a9 r2.2.1 c10) r2.2.1, Ch.own n0 n0 (Sl a5 r2.1.1 c6) r2.1.1, Ch.own n0 n0 (Sl a7 r2.1.2 c8) r2.1.2, Ch.bx n0 b14 0 [(Sl a5 r2.1.1 c6), (Sl a7 r2.1.2 c8)] [] [], Ch.ro n0 (Sl a9 r2.2.1 c10) r2.2.1, Ch.own 0 n0 (Sl a21 r18 c22) r18, Ch.own n0 n0 (Sl a70 r67 c71) r67] ∧ Md (cov []) σ77 σ91 from hJ)
       clear hJ Hs
       rw [fr_lookL (L := [(3, (pt b14 0)), (4, (Sl a9 r2.2.1 c10)), (6, (I r2.2.2.2)), (7, (Sl a21 r18 c22)), (8, (Sl a70 r67 c71)), (9, (I s74)), (55, (.agg #[(Sl a5 r2.1.1 c6), (Sl a7 r2.1.2 c8)])), (63, (Sl a89 r86.2.1 c90))]) ⟨e3, e4, e6, e7, e8, e9, e55, e63, trivial⟩]
       clear hoff hrel e3 e4 e6 e7 e8 e9 e55 e63
       revert h; refine br fun r92 hx93 h => ?_
       have hc94 := c_impl_EncodeVector (Cv := a5) (Cw := c6) (Cy := a7) (Cz := c8) (De := a89) (Dg := c90) hx93
       have hle := Nat.le_trans hn0 H.size
       refine st_call (cx_lend (Loan.lend (Loan.lend (Loan.same Loan.nil))) hc94 (ent_f hc94.fn rfl) (show Hp S0 σ0 _ ([Ch.own n0 n0 (Sl a5 r2.1.1 c6) r2.1.1, Ch.own n0 n0 (Sl a7 r2.1.2 c8) r2.1.2] ++ ([Ch.ro 0 (Sl a89 r86.2.1 c90) r86.2.1] ++ [Ch.ro 0 (Sl a89 r86.2.1 c90) r86.2.1, Ch.ro 0 (Sl a9 r2.2.1 c10) r2.2.1, Ch.bx n0 b14 0 [(Sl a5 r2.1.1 c6), (Sl a7 r2.1.2 c8)] [] [], Ch.ro n0 (Sl a9 r2.2.1 c10) r2.2.1, Ch.own 0 n0 (Sl a21 r18 c22) r18, Ch.own n0 n0 (Sl a70 r67 c71) r67])) from (H.sel' [2, 3, 0, 0, 1, 4, 5, 6, 7] rfl rfl)) (by rintro _ _ _ ⟨rfl, rfl⟩; exact trivial)) wn ?_
       rintro _ σ95 ⟨_, ⟨rfl, rfl⟩, H, -, -⟩
       replace H : Hp _ _ _ [_, _, _, _, _, _, _, _] := H
       clear hle
       replace H : Hp _ _ _ [_, _, _, _, _, _, _, _] := H
       replace H : Hp S0 σ0 σ95 [Ch.own n0 n0 (Sl a5 r2.1.1 c6) r2.1.1, Ch.own n0 n0 (Sl a7 r2.1.2 c8) r2.1.2, Ch.bx n0 b14 0 [(Sl a5 r2.1.1 c6), (Sl a7 r2.1.2 c8)] [] [], Ch.ro n0 (Sl a9 r2.2.1 c10) r2.2.1, Ch.own 0 n0 (Sl a21 r18 c22) r18, Ch.own n0 n0 (Sl a70 r67 c71) r67] := H.sel' [0, 1, 4, 5, 6, 7] rfl rfl
       refine sa (I r92) rfl (w_end (q_then (c_seq ?_)))
       obtain ⟨o96, hj, h'⟩ := bind_some h
       clear h
       refine c_cut (fun e a w => e = .normal ∧ ∃ (ρ : Nat → Value) (σ : St), a = fr 96 (updL ρ [(3, (pt b14 0)), (4, (Sl a9 r2.2.1 c10)), (6, (I r2.2.2.2)), (7, (Sl a21 r18 c22)), (8, (Sl a70 r67 c71)), (9, (I s74)), (84, (B o96))]) ∧ w = σ.w ∧ Hp S0 σ0 σ [Ch.own n0 n0 (Sl a5 r2.1.1 c6) r2.1.1, Ch.own n0 n0 (Sl a7 r2.1.2 c8) r2.1.2, Ch.bx n0 b14 0 [(Sl a5 r2.1.1 c6), (Sl a7 r2.1.2 c8)] [] [], Ch.ro n0 (Sl a9 r2.2.1 c10) r2.2.1, Ch.own 0 n0 (Sl a21 r18 c22) r18, Ch.own n0 n0 (Sl a70 r67 c71) r67]) ?_ ?_
       ·clear h'
        rename _ = some o96 => h
        refine rgP (σ := σ95) 18 (by kernel_rfl) (by kernel_rfl) (by kernel_rfl) ?_
        refine sq (v := (I r92)) (rv_move rfl) (sq (v := (B (decide (r92 < 0)))) (rv_lss (a := r92) (b := 0) rfl rfl) (sq (v := (B (decide (r92 < 0)))) (rv_move rfl) ?_))
        rcases Bool.eq_false_or_eq_true (decide (r92 < 0)) with hb97 | hb97
        ·replace h := bif_t hb97 h
         refine sq_skip (congrArg some hb97) (sq_skip (congrArg some hb97) (sq_skip (congrArg some hb97) (sq_skip (congrArg some hb97) (sq (v := (B true)) (rv_pick_t (congrArg B hb97) rfl) (sq (v := (B true)) (rv_move rfl) (sq_skip rfl (sq_skip rfl (sq_skip rfl (sq_skip rfl (sq_skip rfl (sq_skip rfl ?_)))))))))))
         refine sq_skip rfl (sq_skip rfl (sq_skip rfl (sq_end ?_)))
         intro σ98 hm99
         replace H := H.grow (hm99.mono fun _ h => h); clear hm99
         refine st_skip rfl (st (v := (B true)) (rv_pick_t rfl rfl) (w_end ?_))
         obtain rfl := sj h
         exact ⟨rfl, _, σ98, fr_join ⟨rfl, rfl, rfl, rfl, rfl, rfl, rfl, trivial⟩, rfl, H.sel' [0, 1, 2, 3, 4, 5] rfl rfl⟩
        ·replace h := bif_f hb97 h
         refine sq_g (v := (I r92)) (congrArg some hb97) (rv_move rfl) (sq_g (v := (Sl a70 r67 c71)) (congrArg some hb97) (rv_move rfl) (sq_g (v := (I (r67.length : Int))) (congrArg some hb97) (rv_len Tryz.underlying24 rfl) (sq_g (v := (B (decide ((r67.length : Int) ≤ r92)))) (congrArg some hb97) (rv_geq (a := r92) (b := (r67.length : Int)) rfl rfl) (sq (v := (B (decide ((r67.length : Int) ≤ r92)))) (rv_pick_f (congrArg B hb97) rfl) (sq (v := (B (decide ((r67.length : Int) ≤ r92)))) (rv_move rfl) ?_)))))
         rcases Bool.eq_false_or_eq_true (decide ((r67.length : Int) ≤ r92)) with hb100 | hb100
         ·replace h := bif_t hb100 h
          refine sq_skip (congrArg some hb100) (sq_skip (congrArg some hb100) (sq_skip (congrArg some hb100) (sq_skip (congrArg some hb100) (sq_skip (congrArg some hb100) (sq_skip (congrArg some hb100) (sq_skip (congrArg some hb100) (sq_skip (congrArg some hb100) (sq_skip (congrArg some hb100) (sq_end ?_)))))))))
          intro σ101 hm102
          replace H := H.grow (hm102.mono fun _ h => h); clear hm102
          refine st_skip (congrArg some hb100) (st (v := (B true)) (rv_pick_t (congrArg B hb100) rfl) (w_end ?_))
          obtain rfl := sj h
          exact ⟨rfl, _, σ101, fr_join ⟨rfl, rfl, rfl, rfl, rfl, rfl, rfl, trivial⟩, rfl, H.sel' [0, 1, 2, 3, 4, 5] rfl rfl⟩
         ·replace h := bif_f hb100 h
          refine sq_g (v := (Sl a70 r67 c71)) (congrArg some hb100) (rv_move rfl) (sq_g (v := (I r92)) (congrArg some hb100) (rv_move rfl) ?_)
          revert h; refine br fun x103 hx104 h => ?_
          obtain ⟨b106, o107, hi105, -⟩ := (H.own 5 rfl).ix hx104
          refine sq_g (v := (pt b106 o107)) (congrArg some hb100) (rv_ix Tryz.underlying24 ti3 rfl rfl hi105) ?_
          have hc108 := ((H.own 5 rfl).at hx104 hi105).int
          refine sq_g (v := (I x103)) (congrArg some hb100) (rv_load1 Tryz.underlying3 rfl rfl hc108) (sq_g (v := (Sl a21 r18 c22)) (congrArg some hb100) (rv_move rfl) (sq_g (v := (I s74)) (congrArg some hb100) (rv_move rfl) ?_))
          revert h; refine br fun x109 hx110 h => ?_
          obtain ⟨b112, o113, hi111, -⟩ := (H.own 4 rfl).ix hx110
          refine sq_g (v := (pt b112 o113)) (congrArg some hb100) (rv_ix Tryz.underlying27 ti44 rfl rfl hi111) (sq_g (v := (pt b112 (o113 + 1))) (congrArg some hb100) (rv_fieldAddr (off := 1) (ft := 3) Tryz.underlying44 rfl ti3 rfl rfl) ?_)
          have hc114 := ((H.own 4 rfl).at hx110 hi111).snd.int
          refine sq_g (v := (I x109.2)) (congrArg some hb100) (rv_load1 Tryz.underlying3 rfl rfl hc114) (sq_end ?_)
          intro σ115 hm116
          replace H := H.grow (hm116.mono fun _ h => h); clear hm116
          refine st_g (v := (B (x103 != x109.2))) (congrArg some hb100) (rv_neq (a := x103) (b := x109.2) rfl rfl) (st (v := (B (x103 != x109.2))) (rv_pick_f (congrArg B hb100) rfl) (w_end ?_))
          obtain rfl := sj h
          exact ⟨rfl, _, σ115, fr_join ⟨rfl, rfl, rfl, rfl, rfl, rfl, rfl, trivial⟩, rfl, H.sel' [0, 1, 2, 3, 4, 5] rfl rfl⟩
       ·clear hj
        have h := h'
        clear h' H
        rintro e a w ⟨rfl, ρ, σ117, rfl, rfl, H⟩
        refine q_then ?_
        refine cd_cond o96 rfl (fun hb118 => ?_) (fun hb118 => ?_)
        ·replace h := bif_t hb118 h
         refine c_seq (rg (sa (B false) rfl (w_end (q_then (c_ret (q_blk_r (q_then_r (q_then_r (q_blk_r ?_)))))))))
         obtain rfl := sj h
         obtain rfl := hres _ rfl
         exact .inr (⟨_, rfl, rfl, _, σ117, fr_join ⟨rfl, trivial⟩, rfl, H.sel' [] rfl rfl⟩)
        ·replace h := bif_f hb118 h
         refine c_skip (q_blk (q_then (rg (sm (I s74) rfl (st (v := (I (w64 (s74 + 1)))) (rv_add (a := s74) (b := 1) rfl rfl) (sa (I (w64 (s74 + 1))) rfl (w_end (q_then ?_))))))))
         obtain rfl := sj h
         exact ⟨_, rfl, _, σ117, fr_join ⟨rfl, rfl, rfl, rfl, rfl, rfl, trivial⟩, rfl, H.sel' [0, 1, 2, 3, 4, 5] rfl rfl⟩
     ·replace h := bif_f hb78 h
      refine c_exit (q_then_x (q_then_x (q_blk_hit ?_)))
      obtain rfl := sj h
      obtain rfl := hres _ rfl
      exact .inl ⟨_, rfl, rfl, _, σ77, fr_join ⟨rfl, rfl, rfl, trivial⟩, rfl, H.sel' [3, 4] rfl rfl⟩
    ·clear hj
     have h := h'
     clear h' H
     rintro e a w (⟨t119, rfl, rfl, ρ, σ120, rfl, rfl, H⟩ | ⟨t126, rfl, rfl, ρ, σ127, rfl, rfl, H⟩)
     ·replace h := selim_l h
      refine q_then (c_seq (rg (sm (Sl a21 r18 c22) rfl ?_)))
      revert h; refine br fun r121 hx122 h => ?_
      have hc123 := c_impl_ValidHits (Bi := a21) (Bj := c22) hx122
      have hle := Nat.le_trans hn0 H.size
      refine st_call (cx_lend (Loan.lend Loan.nil) hc123 (ent_f hc123.fn rfl) (show Hp S0 σ0 _ ([Ch.own 0 n0 (Sl a21 r18 c22) r18] ++ ([] ++ [Ch.ro n0 (Sl a9 r2.2.1 c10) r2.2.1])) from (H.sel' [1, 0] rfl rfl)) (by rintro _ _ _ ⟨rfl, rfl⟩; exact trivial)) wn ?_
      rintro _ σ124 ⟨_, ⟨rfl, rfl⟩, H, -, -⟩
      replace H : Hp _ _ _ [_, _] := H
      clear hle
      replace H : Hp _ _ _ [_, _] := H
      refine sm (B r121) rfl ?_
      rcases Bool.eq_false_or_eq_true r121 with hb125 | hb125
      ·replace h := bif_t hb125 h
       refine st_g (v := (Sl a21 r18 c22)) (congrArg some hb125) (rv_move rfl) (st_g (v := (I (r18.length : Int))) (congrArg some hb125) (rv_len Tryz.underlying27 rfl) (st_g (v := (I r2.2.2.2)) (congrArg some hb125) (rv_move rfl) (st_g (v := (Sl a9 r2.2.1 c10)) (congrArg some hb125) (rv_move rfl) (st_g (v := (I (r2.2.1.length : Int))) (congrArg some hb125) (rv_len Tryz.underlying23 rfl) (st_g (v := (I (min r2.2.2.2 (r2.2.1.length : Int)))) (congrArg some hb125) (rv_min rfl rfl) (st_g (v := (B ((r18.length : Int) == (min r2.2.2.2 (r2.2.1.length : Int))))) (congrArg some hb125) (rv_eql (a := (r18.length : Int)) (b := (min r2.2.2.2 (r2.2.1.length : Int))) rfl rfl) (st (v := (B ((r18.length : Int) == (min r2.2.2.2 (r2.2.1.length : Int))))) (rv_pick_t (congrArg B hb125) rfl) (sa (B ((r18.length : Int) == (min r2.2.2.2 (r2.2.1.length : Int)))) rfl (w_end (q_then (c_ret ?_)))))))))))
       obtain rfl := sj h
       exact fin_ret (v := (B ((r18.length : Int) == (min r2.2.2.2 (r2.2.1.length : Int))))) (results_ok Tryz.results5 (res_tmp (v := (B ((r18.length : Int) == (min r2.2.2.2 (r2.2.1.length : Int))))) rfl res_nil) rfl) ⟨rfl, rfl⟩ (H.sel' [] rfl rfl)
      ·replace h := bif_f hb125 h
       refine st_skip (congrArg some hb125) (st_skip (congrArg some hb125) (st_skip (congrArg some hb125) (st_skip (congrArg some hb125) (st_skip (congrArg some hb125) (st_skip (congrArg some hb125) (st_skip (congrArg some hb125) (st (v := (B false)) (rv_pick_f (congrArg B hb125) rfl) (sa (B false) rfl (w_end (q_then (c_ret ?_)))))))))))
       obtain rfl := sj h
       exact fin_ret (v := (B false)) (results_ok Tryz.results5 (res_tmp (v := (B false)) rfl res_nil) rfl) ⟨rfl, rfl⟩ (H.sel' [] rfl rfl)
     ·replace h := selim_r h
      refine q_then_r ?_
      obtain rfl := sj h
      exact fin_ret (v := (B t126)) (results_ok Tryz.results5 (res_tmp (v := (B t126)) rfl res_nil) rfl) ⟨rfl, rfl⟩ (H.sel' [] rfl rfl)

end Go.Vs
