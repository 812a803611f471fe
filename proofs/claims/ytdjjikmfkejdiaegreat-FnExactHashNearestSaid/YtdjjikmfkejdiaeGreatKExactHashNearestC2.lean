/- The functions compute what their models say. -/
import Derived.Test.YtdjjikmfkejdiaeGreatKExactHashNearestC1
set_option linter.unusedVariables false
set_option linter.unusedSimpArgs false
set_option maxRecDepth 20000
namespace Go.Vs
open Go Go.Proofs
attribute [local irreducible] Code.wp Code.wpIn wpList wpListIn wpQuiet Calls CallsIn

theorem c_spec_addHit {As : List (Int × Int)} {Bh : Int × Int} {Bi : Int} {Au : Option Addr} {Av : Nat} {r : (List (Int × Int))} (h : M.spec_addHit As Bh Bi = some r) :
    Cal2 Tryz.prog 38 [(Sl Au As Av), (.agg #[(I Bh.1), (I Bh.2)]), (I Bi)] [Ch.ro 0 (Sl Au As Av) As] (fun n0 v L => ∃ (az1 : Option Addr), ∃ (cz2 : Nat), v = (Sl az1 r cz2) ∧ L = [Ch.own n0 n0 (Sl az1 r cz2) r]) := by
 refine cal2 (n := 58) Tryz.func38 rfl rfl rfl rfl ?_
 intro S0 σ0 n0 hn0 H
 unfold M.spec_addHit at h
 refine c_seq (rg (st_ex (ex_box (cs := [(I Bh.1), (I Bh.2)]) H hn0 rfl rfl) wn ?_))
 rintro _ σ2 ⟨b1, rfl, H, -⟩
 refine sa (.slice none 0 0) rfl (w_end (q_then (c_seq ?_)))
 revert h; refine br fun xs4 hx5 h => ?_
 have hc8 := H.cells 0 rfl
 have Hs := H
 refine rg2 (σ := σ2) (Nm := (Nat) × (Option Addr) × (Nat) × (Nat)) 5 [0, 2, 4] [[false, false, false], [true, false, false], [false, false, true], [true, true, false], [true, false, true], [true, true, true]] [[(0, 1), (2, 4)], [(0, 0), (1, 1), (2, 2), (4, 4)], [(1, 3), (4, 5)], [(0, 0), (1, 1), (3, 3)], [(0, 2), (1, 4), (3, 5)]] 5 [fun ((b3, a6, c7, b9) : (Nat) × (Option Addr) × (Nat) × (Nat)) => fun σm => Hp S0 σ0 σm [Ch.bx n0 b1 0 [(I Bh.1), (I Bh.2)] [] [], Ch.ro 0 (Sl Au As Av) As] ∧ Md (cov []) σ2 σm, fun ((b3, a6, c7, b9) : (Nat) × (Option Addr) × (Nat) × (Nat)) => fun σm => Hp S0 σ0 σm [Ch.own n0 n0 (Sl (some ⟨b3, 0, none⟩) ([] : List (Int × Int)) 0) ([] : List (Int × Int)), Ch.bx n0 b1 0 [(I Bh.1), (I Bh.2)] [] [], Ch.ro 0 (Sl Au As Av) As] ∧ Md (cov []) σ2 σm, fun ((b3, a6, c7, b9) : (Nat) × (Option Addr) × (Nat) × (Nat)) => fun σm => Hp S0 σ0 σm [Ch.own n0 n0 (Sl (some ⟨b9, 0, none⟩) ([(Bh.1, Bh.2)] : List (Int × Int)) 1) ([(Bh.1, Bh.2)] : List (Int × Int)), Ch.bx n0 b1 0 [(I Bh.1), (I Bh.2)] [] [], Ch.ro 0 (Sl Au As Av) As] ∧ Md (cov []) σ2 σm, fun ((b3, a6, c7, b9) : (Nat) × (Option Addr) × (Nat) × (Nat)) => fun σm => Hp S0 σ0 σm [Ch.own n0 n0 (Sl a6 xs4 c7) xs4, Ch.bx n0 b1 0 [(I Bh.1), (I Bh.2)] [] [], Ch.ro 0 (Sl Au As Av) As] ∧ Md (fun i => (cov []) i ∨ (fun b => blk (Sl (some ⟨b3, 0, none⟩) ([] : List (Int × Int)) 0) = some b) i) σ2 σm, fun ((b3, a6, c7, b9) : (Nat) × (Option Addr) × (Nat) × (Nat)) => fun σm => Hp S0 σ0 σm [Ch.own n0 n0 (Sl (some ⟨b9, 0, none⟩) ([(Bh.1, Bh.2)] : List (Int × Int)) 1) ([(Bh.1, Bh.2)] : List (Int × Int)), Ch.own n0 n0 (Sl (some ⟨b3, 0, none⟩) ([] : List (Int × Int)) 0) ([] : List (Int × Int)), Ch.bx n0 b1 0 [(I Bh.1), (I Bh.2)] [] [], Ch.ro 0 (Sl Au As Av) As] ∧ Md (cov []) σ2 σm, fun ((b3, a6, c7, b9) : (Nat) × (Option Addr) × (Nat) × (Nat)) => fun σm => Hp S0 σ0 σm [Ch.own n0 n0 (Sl (some ⟨b9, 0, none⟩) ([(Bh.1, Bh.2)] : List (Int × Int)) 1) ([(Bh.1, Bh.2)] : List (Int × Int)), Ch.own n0 n0 (Sl a6 xs4 c7) xs4, Ch.bx n0 b1 0 [(I Bh.1), (I Bh.2)] [] [], Ch.ro 0 (Sl Au As Av) As] ∧ Md (fun i => (cov []) i ∨ (fun b => blk (Sl (some ⟨b3, 0, none⟩) ([] : List (Int × Int)) 0) = some b) i) σ2 σm] [fun ((b3, a6, c7, b9) : (Nat) × (Option Addr) × (Nat) × (Nat)) => (Sl (some ⟨b3, 0, none⟩) ([] : List (Int × Int)) 0), fun ((b3, a6, c7, b9) : (Nat) × (Option Addr) × (Nat) × (Nat)) => (Sl Au As Av), fun ((b3, a6, c7, b9) : (Nat) × (Option Addr) × (Nat) × (Nat)) => (Sl a6 xs4 c7), fun ((b3, a6, c7, b9) : (Nat) × (Option Addr) × (Nat) × (Nat)) => (.agg #[(I Bh.1), (I Bh.2)]), fun ((b3, a6, c7, b9) : (Nat) × (Option Addr) × (Nat) × (Nat)) => (Sl (some ⟨b9, 0, none⟩) ([(Bh.1, Bh.2)] : List (Int × Int)) 1)] (0, none, 0, 0) (by kernel_rfl) (by kernel_rfl) ?_ ?_ ?_
 ·intro σm m0
  exact ⟨H.grow (m0.mono fun _ h => h.elim), m0⟩
 ·refine all_cons (by
    refine ⟨?_, ?_⟩
    ·rintro ⟨b3, a6, c7, b9⟩ ρ σm hJ hoff hdep
     obtain ⟨H, m⟩ := id hJ
     refine dp_ex wn (ex_buildSlice (el := n0) (xs := ([] : List (Int × Int))) (ps := []) (cs := []) H hn0 Tryz.underlying29 ti67 rfl rfl (by kernel_rfl) (.nil) rfl) ?_
     rintro _ σq ⟨b3x, rfl, H2, m2⟩
     exact ⟨_, (b3x, a6, c7, b9), rfl, rfl, ⟨H2.sel' [0, 1, 2] rfl rfl, m.comp0 m2⟩, stab [1, 3, 4] (by kernel_rfl) ⟨rfl, rfl, rfl, trivial⟩⟩
    refine ⟨?_, ?_⟩
    ·rintro ⟨b3, a6, c7, b9⟩ ρ σm hJ hoff hdep
     obtain ⟨H, m⟩ := id hJ
     refine dp_ex wn (ex_buildSlice (el := n0) (xs := ([] : List (Int × Int))) (ps := []) (cs := []) H hn0 Tryz.underlying29 ti67 rfl rfl (by kernel_rfl) (.nil) rfl) ?_
     rintro _ σq ⟨b3x, rfl, H2, m2⟩
     exact ⟨_, (b3x, a6, c7, b9), rfl, rfl, ⟨H2.sel' [1, 0, 2, 3] rfl rfl, m.comp0 m2⟩, stab [1, 3, 4] (by kernel_rfl) ⟨rfl, rfl, rfl, trivial⟩⟩
    trivial) ?_
  refine ac rfl (by
    intro k; rintro ⟨b3, a6, c7, b9⟩ ρ σm hJ hoff hdep
    have e0 := look_off (N := 58) (hoff 0 rfl) rfl
    exact dp_v (v := (Sl Au As Av)) wn (rv_move e0) rfl hJ) ?_
  refine all_cons (by
    refine ⟨?_, ?_⟩
    ·rintro ⟨b3, a6, c7, b9⟩ ρ σm hJ hoff hdep
     have e10 := hdep 0 rfl rfl 10 rfl
     have e11 := hdep 1 rfl rfl 11 rfl
     obtain ⟨H, m⟩ := id hJ
     refine dp_ex wn (ex_append H (i := 0) rfl Tryz.underlying29 Tryz.underlying29 ti67 rfl rfl (by decide) ((H.ro 2 rfl).rd.sc) hx5 hn0 e10 e11) ?_
     rintro _ σq ⟨a6x, c7x, rfl, H2, m2⟩
     exact ⟨_, (b3, a6x, c7x, b9), rfl, rfl, ⟨H2.sel' [0, 1, 2] rfl rfl, m.comp m2⟩, stab [0, 1, 3, 4] (by kernel_rfl) ⟨rfl, rfl, rfl, rfl, trivial⟩⟩
    refine ⟨?_, ?_⟩
    ·rintro ⟨b3, a6, c7, b9⟩ ρ σm hJ hoff hdep
     have e10 := hdep 0 rfl rfl 10 rfl
     have e11 := hdep 1 rfl rfl 11 rfl
     obtain ⟨H, m⟩ := id hJ
     refine dp_ex wn (ex_append H (i := 1) rfl Tryz.underlying29 Tryz.underlying29 ti67 rfl rfl (by decide) ((H.ro 3 rfl).rd.sc) hx5 hn0 e10 e11) ?_
     rintro _ σq ⟨a6x, c7x, rfl, H2, m2⟩
     exact ⟨_, (b3, a6x, c7x, b9), rfl, rfl, ⟨H2.sel' [1, 0, 2, 3] rfl rfl, m.comp m2⟩, stab [0, 1, 3, 4] (by kernel_rfl) ⟨rfl, rfl, rfl, rfl, trivial⟩⟩
    trivial) ?_
  refine all_cons (by
    refine ⟨?_, ?_⟩
    ·rintro ⟨b3, a6, c7, b9⟩ ρ σm hJ hoff hdep
     have e4 := look_off (N := 58) (hoff 4 rfl) rfl
     obtain ⟨H, m⟩ := id hJ
     have hc8 := H.cells 0 rfl
     exact dp_v (v := (.agg #[(I Bh.1), (I Bh.2)])) wn (rv_load (cs := [(I Bh.1), (I Bh.2)]) Tryz.underlying67 rfl ti67 e4 rfl hc8) rfl hJ
    refine ⟨?_, ?_⟩
    ·rintro ⟨b3, a6, c7, b9⟩ ρ σm hJ hoff hdep
     have e4 := look_off (N := 58) (hoff 4 rfl) rfl
     obtain ⟨H, m⟩ := id hJ
     have hc8 := H.cells 1 rfl
     exact dp_v (v := (.agg #[(I Bh.1), (I Bh.2)])) wn (rv_load (cs := [(I Bh.1), (I Bh.2)]) Tryz.underlying67 rfl ti67 e4 rfl hc8) rfl hJ
    refine ⟨?_, ?_⟩
    ·rintro ⟨b3, a6, c7, b9⟩ ρ σm hJ hoff hdep
     have e4 := look_off (N := 58) (hoff 4 rfl) rfl
     obtain ⟨H, m⟩ := id hJ
     have hc8 := H.cells 1 rfl
     exact dp_v (v := (.agg #[(I Bh.1), (I Bh.2)])) wn (rv_load (cs := [(I Bh.1), (I Bh.2)]) Tryz.underlying67 rfl ti67 e4 rfl hc8) rfl hJ
    trivial) ?_
  refine all_cons (by
    refine ⟨?_, ?_⟩
    ·rintro ⟨b3, a6, c7, b9⟩ ρ σm hJ hoff hdep
     have e13 : look 58 ρ 13 = (.agg #[(I Bh.1), (I Bh.2)]) := hdep 3 rfl rfl 13 rfl
     obtain ⟨H, m⟩ := id hJ
     refine dp_ex wn (ex_buildSlice (el := n0) (xs := ([(Bh.1, Bh.2)] : List (Int × Int))) (ps := [(0, (.agg #[(I Bh.1), (I Bh.2)]))]) (cs := [(I Bh.1), (I Bh.2)]) H hn0 Tryz.underlying29 ti67 rfl (by show [(0, look 58 ρ 13)] = _; rw [e13]) (by kernel_rfl) (.cons (c := [(I Bh.1), (I Bh.2)]) ⟨[(I Bh.1)], [(I Bh.2)], rfl, rfl, rfl⟩ (.nil)) rfl) ?_
     rintro _ σq ⟨b9x, rfl, H2, m2⟩
     exact ⟨_, (b3, a6, c7, b9x), rfl, rfl, ⟨H2.sel' [0, 1, 2] rfl rfl, m.comp0 m2⟩, stab [0, 1, 2, 3] (by kernel_rfl) ⟨rfl, rfl, rfl, rfl, trivial⟩⟩
    refine ⟨?_, ?_⟩
    ·rintro ⟨b3, a6, c7, b9⟩ ρ σm hJ hoff hdep
     have e13 : look 58 ρ 13 = (.agg #[(I Bh.1), (I Bh.2)]) := hdep 3 rfl rfl 13 rfl
     obtain ⟨H, m⟩ := id hJ
     refine dp_ex wn (ex_buildSlice (el := n0) (xs := ([(Bh.1, Bh.2)] : List (Int × Int))) (ps := [(0, (.agg #[(I Bh.1), (I Bh.2)]))]) (cs := [(I Bh.1), (I Bh.2)]) H hn0 Tryz.underlying29 ti67 rfl (by show [(0, look 58 ρ 13)] = _; rw [e13]) (by kernel_rfl) (.cons (c := [(I Bh.1), (I Bh.2)]) ⟨[(I Bh.1)], [(I Bh.2)], rfl, rfl, rfl⟩ (.nil)) rfl) ?_
     rintro _ σq ⟨b9x, rfl, H2, m2⟩
     exact ⟨_, (b3, a6, c7, b9x), rfl, rfl, ⟨H2.sel' [0, 1, 2, 3] rfl rfl, m.comp0 m2⟩, stab [0, 1, 2, 3] (by kernel_rfl) ⟨rfl, rfl, rfl, rfl, trivial⟩⟩
    refine ⟨?_, ?_⟩
    ·rintro ⟨b3, a6, c7, b9⟩ ρ σm hJ hoff hdep
     have e13 : look 58 ρ 13 = (.agg #[(I Bh.1), (I Bh.2)]) := hdep 3 rfl rfl 13 rfl
     obtain ⟨H, m⟩ := id hJ
     refine dp_ex wn (ex_buildSlice (el := n0) (xs := ([(Bh.1, Bh.2)] : List (Int × Int))) (ps := [(0, (.agg #[(I Bh.1), (I Bh.2)]))]) (cs := [(I Bh.1), (I Bh.2)]) H hn0 Tryz.underlying29 ti67 rfl (by show [(0, look 58 ρ 13)] = _; rw [e13]) (by kernel_rfl) (.cons (c := [(I Bh.1), (I Bh.2)]) ⟨[(I Bh.1)], [(I Bh.2)], rfl, rfl, rfl⟩ (.nil)) rfl) ?_
     rintro _ σq ⟨b9x, rfl, H2, m2⟩
     exact ⟨_, (b3, a6, c7, b9x), rfl, rfl, ⟨H2.sel' [0, 1, 2, 3] rfl rfl, m.comp0 m2⟩, stab [0, 1, 2, 3] (by kernel_rfl) ⟨rfl, rfl, rfl, rfl, trivial⟩⟩
    trivial) ?_
  exact all_nil
 ·rintro ⟨b3, a6, c7, b9⟩ ρ σ10 hJ hoff hrel
  have e2 := look_off (N := 58) (hoff 2 rfl) rfl
  have e12 := hrel 2 rfl 12 rfl
  have e14 := hrel 4 rfl 14 rfl
  obtain ⟨H, -⟩ := (show Hp S0 σ0 σ10 [Ch.own n0 n0 (Sl (some ⟨b9, 0, none⟩) ([(Bh.1, Bh.2)] : List (Int × Int)) 1) ([(Bh.1, Bh.2)] : List (Int × Int)), Ch.own n0 n0 (Sl a6 xs4 c7) xs4, Ch.bx n0 b1 0 [(I Bh.1), (I Bh.2)] [] [], Ch.ro 0 (Sl Au As Av) As] ∧ Md (fun i => (cov []) i ∨ (fun b => blk (Sl (some ⟨b3, 0, none⟩) ([] : List (Int × Int)) 0) = some b) i) σ2 σ10 from hJ)
  clear hJ Hs
  rw [fr_lookL (L := [(2, (I Bi)), (12, (Sl a6 xs4 c7)), (14, (Sl (some ⟨b9, 0, none⟩) ([(Bh.1, Bh.2)] : List (Int × Int)) 1))]) ⟨e2, e12, e14, trivial⟩]
  clear hoff hrel e2 e12 e14
  revert h; refine br fun xs11 hx12 h => ?_
  refine st_ex (ex_append H (i := 1) rfl Tryz.underlying29 Tryz.underlying29 ti67 rfl rfl (by decide) (H.own 0 rfl).rd hx12 hn0 rfl rfl) wn ?_
  rintro _ σ15 ⟨a13, c14, rfl, H, -⟩
  refine sa (Sl a13 xs11 c14) rfl (w_end (q_then (c_seq (c_seq (rg (sm (Sl a13 xs11 c14) rfl (st (v := (I (xs11.length : Int))) (rv_len Tryz.underlying29 rfl) (st (v := (I (w64 ((xs11.length : Int) - 1)))) (rv_sub (a := (xs11.length : Int)) (b := 1) rfl rfl) (sa (I (w64 ((xs11.length : Int) - 1))) rfl (w_end (q_then ?_)))))))))))
  obtain ⟨o16, hj, h'⟩ := bind_some h
  clear h
  refine c_cut (fun e a w => e = .normal ∧ ∃ (ρ : Nat → Value) (σ : St), a = fr 58 (updL ρ [(2, (I Bi)), (7, (Sl a13 o16 c14))]) ∧ w = σ.w ∧ Hp S0 σ0 σ [Ch.own n0 n0 (Sl a13 o16 c14) o16] ∧ o16.length = xs11.length) ?_ ?_
  ·clear h'
   rename _ = some o16 => h
   refine c_blk (wp_loopM _ h (fun s17 a w => ∃ (ρ : Nat → Value) (σ : St), a = fr 58 (updL ρ [(2, (I Bi)), (7, (Sl a13 s17.1 c14)), (8, (I s17.2))]) ∧ w = σ.w ∧ Hp S0 σ0 σ [Ch.own n0 n0 (Sl a13 s17.1 c14) s17.1] ∧ s17.1.length = xs11.length) ⟨_, σ15, fr_join ⟨rfl, rfl, rfl, trivial⟩, rfl, H.sel' [0] rfl rfl, rfl⟩ ?_)
   clear h H
   rintro s17 a w o ⟨ρ, σ18, rfl, rfl, H, hn19⟩ h hres
   refine c_seq (c_seq ?_)
   obtain ⟨o20, hj, h'⟩ := bind_some h
   clear h
   refine c_cut (fun e a w => e = .normal ∧ ∃ (ρ : Nat → Value) (σ : St), a = fr 58 (updL ρ [(2, (I Bi)), (7, (Sl a13 s17.1 c14)), (8, (I s17.2)), (32, (B o20))]) ∧ w = σ.w ∧ Hp S0 σ0 σ [Ch.own n0 n0 (Sl a13 s17.1 c14) s17.1]) ?_ ?_
   ·clear h'
    rename _ = some o20 => h
    refine rgP (σ := σ18) 12 (by kernel_rfl) (by kernel_rfl) (by kernel_rfl) ?_
    refine sq (v := (I s17.2)) (rv_move rfl) (sq (v := (B (decide (0 < s17.2)))) (rv_gtr (a := s17.2) (b := 0) rfl rfl) (sq (v := (B (decide (0 < s17.2)))) (rv_move rfl) ?_))
    rcases Bool.eq_false_or_eq_true (decide (0 < s17.2)) with hb21 | hb21
    ·replace h := bif_t hb21 h
     refine sq_g (v := (Sl a13 s17.1 c14)) (congrArg some hb21) (rv_move rfl) (sq_g (v := (I s17.2)) (congrArg some hb21) (rv_move rfl) ?_)
     revert h; refine br fun x22 hx23 h => ?_
     obtain ⟨b25, o26, hi24, -⟩ := (H.own 0 rfl).ix hx23
     refine sq_g (v := (pt b25 o26)) (congrArg some hb21) (rv_ix Tryz.underlying29 ti67 rfl rfl hi24) ?_
     obtain ⟨_, ⟨_, _, rfl, rfl, rfl⟩, hl27, hc28⟩ := ((H.own 0 rfl).at hx23 hi24).cells
     refine sq_g (v := (.agg #[(I x22.1), (I x22.2)])) (congrArg some hb21) (rv_load Tryz.underlying67 rfl ti67 rfl hl27 hc28) (sq_g (v := (Sl a13 s17.1 c14)) (congrArg some hb21) (rv_move rfl) (sq_g (v := (I s17.2)) (congrArg some hb21) (rv_move rfl) (sq_g (v := (I (w64 (s17.2 - 1)))) (congrArg some hb21) (rv_sub (a := s17.2) (b := 1) rfl rfl) ?_)))
     revert h; refine br fun x29 hx30 h => ?_
     obtain ⟨b32, o33, hi31, -⟩ := (H.own 0 rfl).ix hx30
     refine sq_g (v := (pt b32 o33)) (congrArg some hb21) (rv_ix Tryz.underlying29 ti67 rfl rfl hi31) ?_
     obtain ⟨_, ⟨_, _, rfl, rfl, rfl⟩, hl34, hc35⟩ := ((H.own 0 rfl).at hx30 hi31).cells
     refine sq_g (v := (.agg #[(I x29.1), (I x29.2)])) (congrArg some hb21) (rv_load Tryz.underlying67 rfl ti67 rfl hl34 hc35) (sq_end ?_)
     intro σ36 hm37
     replace H := H.grow (hm37.mono fun _ h => h); clear hm37
     revert h; refine br fun r38 hx39 h => ?_
     have hc40 := c_spec_nearer hx39
     refine st_call (cx_call hc40 (ent_f hc40.fn rfl) hn0 (H.sel' [0] rfl rfl : Hp S0 σ0 _ ([] ++ _))) (wanted_yes rfl (by exact (congrArg some hb21))) ?_
     rintro _ σ41 ⟨_, ⟨rfl, rfl⟩, H, -⟩
     replace H : Hp _ _ _ [_] := H
     refine st (v := (B r38)) (rv_pick_t (congrArg B hb21) rfl) (w_end ?_)
     obtain rfl := sj h
     exact ⟨rfl, _, σ41, fr_join ⟨rfl, rfl, rfl, rfl, trivial⟩, rfl, H.sel' [0] rfl rfl⟩
    ·replace h := bif_f hb21 h
     refine sq_skip (congrArg some hb21) (sq_skip (congrArg some hb21) (sq_skip (congrArg some hb21) (sq_skip (congrArg some hb21) (sq_skip (congrArg some hb21) (sq_skip (congrArg some hb21) (sq_skip (congrArg some hb21) (sq_skip (congrArg some hb21) (sq_skip (congrArg some hb21) (sq_end ?_)))))))))
     intro σ42 hm43
     replace H := H.grow (hm43.mono fun _ h => h); clear hm43
     refine st_skip (congrArg some hb21) (st (v := (B false)) (rv_pick_f (congrArg B hb21) rfl) (w_end ?_))
     obtain rfl := sj h
     exact ⟨rfl, _, σ42, fr_join ⟨rfl, rfl, rfl, rfl, trivial⟩, rfl, H.sel' [0] rfl rfl⟩
   ·clear hj
    have h := h'
    clear h' H
    rintro e a w ⟨rfl, ρ, σ44, rfl, rfl, H⟩
    refine q_then ?_
    refine cd_cond o20 rfl (fun hb45 => ?_) (fun hb45 => ?_)
    ·replace h := bif_t hb45 h
     refine c_skip (q_then (c_seq (c_blk (c_seq (rg (sm (Sl a13 s17.1 c14) rfl (sm (I s17.2) rfl ?_)))))))
     revert h; refine br fun x46 hx47 h => ?_
     obtain ⟨b49, o50, hi48, -⟩ := (H.own 0 rfl).ix hx47
     refine st (v := (pt b49 o50)) (rv_ix Tryz.underlying29 ti67 rfl rfl hi48) ?_
     obtain ⟨_, ⟨_, _, rfl, rfl, rfl⟩, hl51, hc52⟩ := ((H.own 0 rfl).at hx47 hi48).cells
     refine st (v := (.agg #[(I x46.1), (I x46.2)])) (rv_load Tryz.underlying67 rfl ti67 rfl hl51 hc52) (st_ex (ex_alloc (cs := [(I 0), (I 0)]) H hn0 ti67 rfl) wn ?_)
     rintro _ σ54 ⟨b53, rfl, H, -⟩
     refine st_exS (ex_store_box (k := 0) (cs := [(I 0), (I 0)]) (vs := [(I x46.1), (I x46.2)]) (cs' := [(I x46.1), (I x46.2)]) H (i := 0) rfl ti67 rfl rfl rfl rfl rfl (Nat.le_of_ble_eq_true rfl) (by simp [plain]) rfl) wn ?_
     rintro σ55 ⟨H, -⟩
     refine w_end (q_then (c_seq (rg (sm (Sl a13 s17.1 c14) rfl (sm (I s17.2) rfl (sm (Sl a13 s17.1 c14) rfl (sm (I s17.2) rfl (st (v := (I (w64 (s17.2 - 1)))) (rv_sub (a := s17.2) (b := 1) rfl rfl) ?_))))))))
     revert h; refine br fun x56 hx57 h => ?_
     obtain ⟨b59, o60, hi58, -⟩ := (H.own 1 rfl).ix hx57
     refine st (v := (pt b59 o60)) (rv_ix Tryz.underlying29 ti67 rfl rfl hi58) ?_
     obtain ⟨_, ⟨_, _, rfl, rfl, rfl⟩, hl61, hc62⟩ := ((H.own 1 rfl).at hx57 hi58).cells
     refine st (v := (.agg #[(I x56.1), (I x56.2)])) (rv_load Tryz.underlying67 rfl ti67 rfl hl61 hc62) ?_
     revert h; refine br fun x63 hx64 h => ?_
     obtain ⟨b66, o67, hi65, -⟩ := (H.own 1 rfl).ix hx64
     refine st (v := (pt b66 o67)) (rv_ix Tryz.underlying29 ti67 rfl rfl hi65) ?_
     refine st_exS (ex_store_own (e' := (x56.1, x56.2)) (vs := [(I x56.1), (I x56.2)]) (k := 0) H (i := 1) rfl ti67 hx64 hi65 rfl rfl rfl rfl rfl (Nat.le_of_ble_eq_true rfl) (by simp [plain]) (by rintro _ ⟨_, _, rfl, rfl, rfl⟩; exact ⟨[(I x56.1)], [(I x56.2)], rfl, rfl, rfl⟩)) wn ?_
     rintro σ68 ⟨H, -⟩
     have hsl : (Sl a13 s17.1 c14) = (Sl a13 (s17.1.set s17.2.toNat (x56.1, x56.2)) c14) := sl_len List.length_set.symm
     rw [hsl]; rw [hsl] at H; clear hsl
     refine w_end (q_then (rg (sm (Sl a13 (s17.1.set s17.2.toNat (x56.1, x56.2)) c14) rfl (sm (I s17.2) rfl (st (v := (I (w64 (s17.2 - 1)))) (rv_sub (a := s17.2) (b := 1) rfl rfl) ?_)))))
     have hc69 := H.cells 1 rfl
     refine st (v := (.agg #[(I x46.1), (I x46.2)])) (rv_load (cs := [(I x46.1), (I x46.2)]) Tryz.underlying67 rfl ti67 rfl rfl hc69) ?_
     revert h; refine br fun x70 hx71 h => ?_
     obtain ⟨b73, o74, hi72, -⟩ := (H.own 0 rfl).ix hx71
     refine st (v := (pt b73 o74)) (rv_ix Tryz.underlying29 ti67 rfl rfl hi72) ?_
     refine st_exS (ex_store_own (e' := (x46.1, x46.2)) (vs := [(I x46.1), (I x46.2)]) (k := 0) H (i := 0) rfl ti67 hx71 hi72 rfl rfl rfl rfl rfl (Nat.le_of_ble_eq_true rfl) (by simp [plain]) (by rintro _ ⟨_, _, rfl, rfl, rfl⟩; exact ⟨[(I x46.1)], [(I x46.2)], rfl, rfl, rfl⟩)) wn ?_
     rintro σ75 ⟨H, -⟩
     have hsl : (Sl a13 (s17.1.set s17.2.toNat (x56.1, x56.2)) c14) = (Sl a13 ((s17.1.set s17.2.toNat (x56.1, x56.2)).set (w64 (s17.2 - 1)).toNat (x46.1, x46.2)) c14) := sl_len List.length_set.symm
     rw [hsl]; rw [hsl] at H; clear hsl
     refine w_end (q_blk (q_then (rg (sm (I s17.2) rfl (st (v := (I (w64 (s17.2 - 1)))) (rv_sub (a := s17.2) (b := 1) rfl rfl) (sa (I (w64 (s17.2 - 1))) rfl (w_end (q_then ?_))))))))
     obtain rfl := sj h
     exact ⟨_, rfl, _, σ75, fr_join ⟨rfl, rfl, rfl, trivial⟩, rfl, H.sel' [0] rfl rfl, (List.length_set.trans (List.length_set.trans hn19))⟩
    ·replace h := bif_f hb45 h
     refine c_exit (q_then_x (q_then_x (q_blk_hit ?_)))
     obtain rfl := sj h
     obtain rfl := hres _ rfl
     exact ⟨rfl, _, σ44, fr_join ⟨rfl, rfl, trivial⟩, rfl, H.sel' [0] rfl rfl, hn19⟩
  ·clear hj
   have h := h'
   clear h' H
   rintro e a w ⟨rfl, ρ, σ76, rfl, rfl, H, hn77⟩
   refine q_then (c_seq (rg (sm (Sl a13 o16 c14) rfl (sm (I Bi) rfl (sm (Sl a13 o16 c14) rfl (st (v := (I (o16.length : Int))) (rv_len Tryz.underlying29 rfl) (st (v := (I (min Bi (o16.length : Int)))) (rv_min rfl rfl) ?_)))))))
   revert h; refine br fun xs78 hx79 h => ?_
   obtain ⟨a80, c81, hs82, hR83, hb84⟩ := (H.own 0 rfl).slice hx79
   replace H := (H.front (i := 0) rfl).turn (d := Ch.own n0 n0 (Sl a80 xs78 c81) xs78) (fun _ => hR83) hb84; clear hR83 hb84
   refine st (v := (Sl a80 xs78 c81)) (rv_slice_h Tryz.underlying29 ti67 hs82 rfl rfl) (sa (Sl a80 xs78 c81) rfl (w_end (q_then (c_ret ?_))))
   obtain rfl := sj h
   exact fin_ret (v := (Sl a80 xs78 c81)) (results_ok Tryz.results38 (res_tmp (v := (Sl a80 xs78 c81)) rfl res_nil) rfl) ⟨a80, c81, rfl, rfl⟩ (H.sel' [0] rfl rfl)

theorem c_spec_size {Ap : Int}  {r : Int} (h : M.spec_size Ap = some r) :
    Cal2 Tryz.prog 78 [(I Ap)] [] (fun n0 v L => v = (I r) ∧ L = []) := by
 refine cal2 (n := 7) Tryz.func78 rfl rfl rfl rfl ?_
 intro S0 σ0 n0 hn0 H
 unfold M.spec_size at h
 refine c_seq (rg (sa (I 0) rfl (w_end (q_then (c_seq (rg (sm (I Ap) rfl (sm (I Ap) rfl (st (v := (I (w64 (0 - Ap)))) (rv_neg (a := Ap) rfl) (st (v := (I (max Ap (w64 (0 - Ap))))) (rv_max rfl rfl) (sa (I (max Ap (w64 (0 - Ap)))) rfl ?_)))))))))))
 refine w_end (q_then (c_ret ?_))
 obtain rfl := sj h
 exact fin_ret (v := (I (max Ap (w64 (0 - Ap))))) (results_ok Tryz.results78 (res_tmp (v := (I (max Ap (w64 (0 - Ap))))) rfl res_nil) rfl) ⟨rfl, rfl⟩ (H.sel' [] rfl rfl)

theorem c_spec_toInt {Bj : Bool}  {r : Int} (h : M.spec_toInt Bj = some r) :
    Cal2 Tryz.prog 79 [(B Bj)] [] (fun n0 v L => v = (I r) ∧ L = []) := by
 refine cal2 (n := 4) Tryz.func79 rfl rfl rfl rfl ?_
 intro S0 σ0 n0 hn0 H
 unfold M.spec_toInt at h
 refine c_seq (rg (sa (I 0) rfl (w_end (q_then (c_seq (c_seq (rg (sm (B Bj) rfl (w_end (q_then ?_))))))))))
 refine cd_cond Bj rfl (fun hb1 => ?_) (fun hb1 => ?_)
 ·replace h := bif_t hb1 h
  refine c_seq (rg (sa (I 1) rfl (w_end (q_then (c_ret (q_then_r ?_))))))
  obtain rfl := sj h
  exact fin_ret (v := (I 1)) (results_ok Tryz.results79 (res_tmp (v := (I 1)) rfl res_nil) rfl) ⟨rfl, rfl⟩ (H.sel' [] rfl rfl)
 ·replace h := bif_f hb1 h
  refine c_skip (q_then (c_seq (rg (sa (I 0) rfl (w_end (q_then (c_ret ?_)))))))
  obtain rfl := sj h
  exact fin_ret (v := (I 0)) (results_ok Tryz.results79 (res_tmp (v := (I 0)) rfl res_nil) rfl) ⟨rfl, rfl⟩ (H.sel' [] rfl rfl)

theorem c_spec_dist {Bc : Int} {Bk : List Int} {Bl : List Int} {Bm : Option Addr} {Bn : Nat} {Bo : Option Addr} {Bp : Nat} {r : Int} (h : M.spec_dist Bc Bk Bl = some r) :
    Cal2 Tryz.prog 39 [(I Bc), (Sl Bm Bk Bn), (Sl Bo Bl Bp)] [Ch.ro 0 (Sl Bm Bk Bn) Bk, Ch.ro 0 (Sl Bo Bl Bp) Bl] (fun n0 v L => v = (I r) ∧ L = []) := by
 refine cal2 (n := 50) Tryz.func39 rfl rfl rfl rfl ?_
 intro S0 σ0 n0 hn0 H
 unfold M.spec_dist at h
 refine c_seq (rg (sa (I 0) rfl (w_end (q_then (c_seq (rg (sa (I 0) rfl (w_end (q_then (c_seq (c_seq ?_)))))))))))
 refine rg (sa (I 0) rfl (w_end (q_then ?_)))
 obtain ⟨o1, hj, h'⟩ := bind_some h
 clear h
 refine c_cut (fun e a w => e = .normal ∧ ∃ (ρ : Nat → Value) (σ : St), a = fr 50 (updL ρ [(7, (I o1))]) ∧ w = σ.w ∧ Hp S0 σ0 σ []) ?_ ?_
 ·clear h'
  rename _ = some o1 => h
  refine c_blk (wp_loopM _ h (fun s2 a w => ∃ (ρ : Nat → Value) (σ : St), a = fr 50 (updL ρ [(0, (I Bc)), (1, (Sl Bm Bk Bn)), (2, (Sl Bo Bl Bp)), (7, (I s2.1)), (8, (I s2.2))]) ∧ w = σ.w ∧ Hp S0 σ0 σ [Ch.ro 0 (Sl Bm Bk Bn) Bk, Ch.ro 0 (Sl Bo Bl Bp) Bl]) ⟨_, σ0, fr_join ⟨rfl, rfl, rfl, rfl, rfl, trivial⟩, rfl, H.sel' [0, 1] rfl rfl⟩ ?_)
  clear h H
  rintro s2 a w o ⟨ρ, σ3, rfl, rfl, H⟩ h hres
  refine c_seq (c_seq (rg (sm (I s2.2) rfl (sm (Sl Bm Bk Bn) rfl (st (v := (I (Bk.length : Int))) (rv_len Tryz.underlying26 rfl) (st (v := (B (decide (s2.2 < (Bk.length : Int))))) (rv_lss (a := s2.2) (b := (Bk.length : Int)) rfl rfl) (w_end (q_then ?_))))))))
  refine cd_cond (decide (s2.2 < (Bk.length : Int))) rfl (fun hb4 => ?_) (fun hb4 => ?_)
  ·replace h := bif_t hb4 h
   refine c_skip (q_then (c_seq ?_))
   obtain ⟨o5, hj, h'⟩ := bind_some h
   clear h
   refine c_cut (fun e a w => e = .normal ∧ ∃ (ρ : Nat → Value) (σ : St), a = fr 50 (updL ρ [(0, (I Bc)), (1, (Sl Bm Bk Bn)), (2, (Sl Bo Bl Bp)), (7, (I o5)), (8, (I s2.2))]) ∧ w = σ.w ∧ Hp S0 σ0 σ [Ch.ro 0 (Sl Bm Bk Bn) Bk, Ch.ro 0 (Sl Bo Bl Bp) Bl]) ?_ ?_
   ·clear h'
    rename _ = some o5 => h
    refine c_blk (c_seq ?_)
    refine rgP (σ := σ3) 8 (by kernel_rfl) (by kernel_rfl) (by kernel_rfl) ?_
    refine sq (v := (Sl Bm Bk Bn)) (rv_move rfl) (sq (v := (I s2.2)) (rv_move rfl) ?_)
    revert h; refine br fun x6 hx7 h => ?_
    obtain ⟨b9, o10, hi8, -⟩ := (H.ro 0 rfl).ix hx7
    refine sq (v := (pt b9 o10)) (rv_ix Tryz.underlying26 ti3 rfl rfl hi8) ?_
    have hc11 := ((H.ro 0 rfl).at hx7 hi8).int
    refine sq (v := (I x6)) (rv_load1 Tryz.underlying3 rfl rfl hc11) (sq (v := (Sl Bo Bl Bp)) (rv_move rfl) (sq (v := (I s2.2)) (rv_move rfl) ?_))
    revert h; refine br fun x12 hx13 h => ?_
    obtain ⟨b15, o16, hi14, -⟩ := (H.ro 1 rfl).ix hx13
    refine sq (v := (pt b15 o16)) (rv_ix Tryz.underlying26 ti3 rfl rfl hi14) ?_
    have hc17 := ((H.ro 1 rfl).at hx13 hi14).int
    refine sq (v := (I x12)) (rv_load1 Tryz.underlying3 rfl rfl hc17) (sq_end ?_)
    intro σ18 hm19
    replace H := H.grow (hm19.mono fun _ h => h); clear hm19
    refine st (v := (I (w64 (x6 - x12)))) (rv_sub (a := x6) (b := x12) rfl rfl) ?_
    revert h; refine br fun r20 hx21 h => ?_
    have hc22 := c_spec_size hx21
    refine st_call (cx_call hc22 (ent_f hc22.fn rfl) hn0 (H.sel' [0, 1] rfl rfl : Hp S0 σ0 _ ([] ++ _))) wn ?_
    rintro _ σ23 ⟨_, ⟨rfl, rfl⟩, H, -⟩
    replace H : Hp _ _ _ [_, _] := H
    refine sa (I r20) rfl (w_end (q_then (c_seq (rg (sm (I Bc) rfl (w_end (q_then (c_blk (c_seq (rg (st (v := (B (Bc == 1))) (rv_eql (a := Bc) (b := 1) rfl rfl) ?_)))))))))))
    refine sa (B (Bc == 1)) rfl (w_end (q_then ?_))
    refine cd_cond (Bc == 1) rfl (fun hb24 => ?_) (fun hb24 => ?_)
    ·replace h := bif_t hb24 h
     refine rg (sm (I s2.1) rfl (sm (I r20) rfl (st (v := (I (w64 (s2.1 + r20)))) (rv_add (a := s2.1) (b := r20) rfl rfl) (sa (I (w64 (s2.1 + r20))) rfl (w_end (q_blk (q_blk ?_)))))))
     obtain rfl := sj h
     exact ⟨rfl, _, σ23, fr_join ⟨rfl, rfl, rfl, rfl, rfl, trivial⟩, rfl, H.sel' [0, 1] rfl rfl⟩
    ·replace h := bif_f hb24 h
     refine c_seq (rg (st (v := (B (Bc == 2))) (rv_eql (a := Bc) (b := 2) rfl rfl) (sa (B (Bc == 2)) rfl (w_end (q_then ?_)))))
     refine cd_cond (Bc == 2) rfl (fun hb25 => ?_) (fun hb25 => ?_)
     ·replace h := bif_t hb25 h
      refine rg (sm (I s2.1) rfl (sm (I r20) rfl (st (v := (I (max s2.1 r20))) (rv_max rfl rfl) (sa (I (max s2.1 r20)) rfl (w_end (q_blk (q_blk ?_)))))))
      obtain rfl := sj h
      exact ⟨rfl, _, σ23, fr_join ⟨rfl, rfl, rfl, rfl, rfl, trivial⟩, rfl, H.sel' [0, 1] rfl rfl⟩
     ·replace h := bif_f hb25 h
      refine c_seq (rg (st (v := (B (Bc == 3))) (rv_eql (a := Bc) (b := 3) rfl rfl) (sa (B (Bc == 3)) rfl (w_end (q_then ?_)))))
      refine cd_cond (Bc == 3) rfl (fun hb26 => ?_) (fun hb26 => ?_)
      ·replace h := bif_t hb26 h
       refine rg (sm (I s2.1) rfl (sm (I r20) rfl (sm (I r20) rfl (st (v := (I (w64 (r20 * r20)))) (rv_mul (a := r20) (b := r20) rfl rfl) (st (v := (I (w64 (s2.1 + (w64 (r20 * r20)))))) (rv_add (a := s2.1) (b := (w64 (r20 * r20))) rfl rfl) (sa (I (w64 (s2.1 + (w64 (r20 * r20))))) rfl (w_end (q_blk (q_blk ?_)))))))))
       obtain rfl := sj h
       exact ⟨rfl, _, σ23, fr_join ⟨rfl, rfl, rfl, rfl, rfl, trivial⟩, rfl, H.sel' [0, 1] rfl rfl⟩
      ·replace h := bif_f hb26 h
       refine rg (sm (I s2.1) rfl (sm (I r20) rfl (st (v := (B (decide (0 < r20)))) (rv_gtr (a := r20) (b := 0) rfl rfl) ?_)))
       revert h; refine br fun r27 hx28 h => ?_
       have hc29 := c_spec_toInt hx28
       refine st_call (cx_call hc29 (ent_f hc29.fn rfl) hn0 (H.sel' [0, 1] rfl rfl : Hp S0 σ0 _ ([] ++ _))) wn ?_
       rintro _ σ30 ⟨_, ⟨rfl, rfl⟩, H, -⟩
       replace H : Hp _ _ _ [_, _] := H
       refine st (v := (I (w64 (s2.1 + r27)))) (rv_add (a := s2.1) (b := r27) rfl rfl) (sa (I (w64 (s2.1 + r27))) rfl (w_end (q_blk (q_blk ?_))))
       obtain rfl := sj h
       exact ⟨rfl, _, σ30, fr_join ⟨rfl, rfl, rfl, rfl, rfl, trivial⟩, rfl, H.sel' [0, 1] rfl rfl⟩
   ·clear hj
    have h := h'
    clear h' H
    rintro e a w ⟨rfl, ρ, σ31, rfl, rfl, H⟩
    refine q_then (rg (sm (I s2.2) rfl (st (v := (I (w64 (s2.2 + 1)))) (rv_add (a := s2.2) (b := 1) rfl rfl) (sa (I (w64 (s2.2 + 1))) rfl (w_end (q_then ?_))))))
    obtain rfl := sj h
    exact ⟨_, rfl, _, σ31, fr_join ⟨rfl, rfl, rfl, rfl, rfl, trivial⟩, rfl, H.sel' [0, 1] rfl rfl⟩
  ·replace h := bif_f hb4 h
   refine c_exit (q_then_x (q_then_x (q_blk_hit ?_)))
   obtain rfl := sj h
   obtain rfl := hres _ rfl
   exact ⟨rfl, _, σ3, fr_join ⟨rfl, trivial⟩, rfl, H.sel' [] rfl rfl⟩
 ·clear hj
  have h := h'
  clear h' H
  rintro e a w ⟨rfl, ρ, σ32, rfl, rfl, H⟩
  refine q_then (c_seq (rg (sm (I o1) rfl (sa (I o1) rfl (w_end (q_then (c_ret ?_)))))))
  obtain rfl := sj h
  exact fin_ret (v := (I o1)) (results_ok Tryz.results39 (res_tmp (v := (I o1)) rfl res_nil) rfl) ⟨rfl, rfl⟩ (H.sel' [] rfl rfl)

theorem c_spec_nearest {As : List (Int × (List Int) × Int)} {Bd : Int} {Be : List Int} {Bq : Int} {Au : Option Addr} {Av : Nat} {Bf : Option Addr} {Bg : Nat} {r : (List (Int × Int))} (h : M.spec_nearest As Bd Be Bq = some r) :
    Cal2 Tryz.prog 52 [(Sl Au As Av), (I Bd), (Sl Bf Be Bg), (I Bq)] [Ch.ro 0 (Sl Au As Av) As, Ch.ro 0 (Sl Bf Be Bg) Be] (fun n0 v L => ∃ (az1 : Option Addr), ∃ (cz2 : Nat), v = (Sl az1 r cz2) ∧ L = [Ch.own n0 n0 (Sl az1 r cz2) r]) := by
 refine cal2 (n := 36) Tryz.func52 rfl rfl rfl rfl ?_
 intro S0 σ0 n0 hn0 H
 unfold M.spec_nearest at h
 refine c_seq (rg (sa (.slice none 0 0) rfl (w_end (q_then (c_seq (rg ?_))))))
 refine st_ex (ex_buildSlice (el := n0) (xs := ([] : List (Int × Int))) (ps := []) (cs := []) H hn0 Tryz.underlying29 ti67 rfl rfl (by kernel_rfl) (.nil) rfl) wn ?_
 rintro _ σ2 ⟨b1, rfl, H, -⟩
 refine sa (Sl (some ⟨b1, 0, none⟩) ([] : List (Int × Int)) 0) rfl (w_end (q_then (c_seq (c_seq (rg (sa (I 0) rfl (w_end (q_then ?_))))))))
 obtain ⟨o3, hj, h'⟩ := bind_some h
 clear h
 refine c_cut (fun e a w => e = .normal ∧ ∃ (ρ : Nat → Value) (σ : St) (aj1 : Option Addr) (cj2 : Nat), a = fr 36 (updL ρ [(9, (Sl aj1 o3 cj2))]) ∧ w = σ.w ∧ Hp S0 σ0 σ [Ch.own n0 n0 (Sl aj1 o3 cj2) o3]) ?_ ?_
 ·clear h'
  rename _ = some o3 => h
  refine c_blk (wp_loopM _ h (fun s4 a w => ∃ (ρ : Nat → Value) (σ : St) (aj1 : Option Addr) (cj2 : Nat), a = fr 36 (updL ρ [(0, (Sl Au As Av)), (1, (I Bd)), (2, (Sl Bf Be Bg)), (3, (I Bq)), (9, (Sl aj1 s4.1 cj2)), (10, (I s4.2))]) ∧ w = σ.w ∧ Hp S0 σ0 σ [Ch.ro 0 (Sl Au As Av) As, Ch.ro 0 (Sl Bf Be Bg) Be, Ch.own n0 n0 (Sl aj1 s4.1 cj2) s4.1]) ⟨_, σ2, (some ⟨b1, 0, none⟩), 0, fr_join ⟨rfl, rfl, rfl, rfl, rfl, rfl, trivial⟩, rfl, H.sel' [1, 2, 0] rfl rfl⟩ ?_)
  clear h H
  rintro s4 a w o ⟨ρ, σ5, a6, c7, rfl, rfl, H⟩ h hres
  refine c_seq (c_seq (rg (sm (I s4.2) rfl (sm (Sl Au As Av) rfl (st (v := (I (As.length : Int))) (rv_len Tryz.underlying33 rfl) (st (v := (B (decide (s4.2 < (As.length : Int))))) (rv_lss (a := s4.2) (b := (As.length : Int)) rfl rfl) (w_end (q_then ?_))))))))
  refine cd_cond (decide (s4.2 < (As.length : Int))) rfl (fun hb8 => ?_) (fun hb8 => ?_)
  ·replace h := bif_t hb8 h
   refine c_skip (q_then (c_seq (c_blk ?_)))
   revert h; refine br fun x9 hx10 h => ?_
   obtain ⟨b12, o13, hi11, -⟩ := (H.ro 0 rfl).ix hx10
   have hc14 := ((H.ro 0 rfl).at hx10 hi11).fst.int
   revert h; refine br fun x15 hx16 h => ?_
   obtain ⟨b18, o19, hi17, -⟩ := (H.ro 0 rfl).ix hx16
   obtain ⟨v23, hc24, hR22⟩ := ((H.ro 0 rfl).at hx16 hi17).snd.fst.slice
   obtain ⟨a20, c21, rfl⟩ := hR22.isSl
   replace H := H.add (d := Ch.ro 0 (Sl a20 x15.2.1 c21) x15.2.1) hR22 (fun _ h => h)
   clear hR22
   revert h; refine br fun r25 hx26 h => ?_
   have hc27 := c_spec_dist (Bm := a20) (Bn := c21) (Bo := Bf) (Bp := Bg) hx26
   have Hs := H
   refine rg2 (σ := σ5) (Nm := Unit) 16 [13] [[false], [true]] [[(0, 0), (1, 1)], [(0, 0), (1, 1)], [(0, 0), (1, 1)], [(0, 0), (1, 1)], [(0, 0), (1, 1)], [(0, 0), (1, 1)], [(0, 0)], [(0, 0)], [(0, 0)], [(0, 0)], [(0, 0)], [(0, 0)], [(0, 0)], [(0, 1)], [(1, 1)], [(0, 0), (1, 1)]] 1 [fun _ => fun σm => Hp S0 σ0 σm [Ch.ro 0 (Sl a20 x15.2.1 c21) x15.2.1, Ch.ro 0 (Sl Au As Av) As, Ch.ro 0 (Sl Bf Be Bg) Be, Ch.own n0 n0 (Sl a6 s4.1 c7) s4.1] ∧ Md (cov []) σ5 σm, fun _ => fun σm => Hp S0 σ0 σm [Ch.ro 0 (Sl a20 x15.2.1 c21) x15.2.1, Ch.ro 0 (Sl Au As Av) As, Ch.ro 0 (Sl Bf Be Bg) Be, Ch.own n0 n0 (Sl a6 s4.1 c7) s4.1] ∧ Md (cov []) σ5 σm] [fun _ => (Sl a6 s4.1 c7), fun _ => (Sl Au As Av), fun _ => (I s4.2), fun _ => (pt b12 o13), fun _ => (pt b12 (o13 + 0)), fun _ => (I x9.1), fun _ => (I Bd), fun _ => (Sl Au As Av), fun _ => (I s4.2), fun _ => (pt b18 o19), fun _ => (pt b18 (o19 + 1)), fun _ => (Sl a20 x15.2.1 c21), fun _ => (Sl Bf Be Bg), fun _ => (I r25), fun _ => (.agg #[(I x9.1), (I r25)]), fun _ => (I Bq)] () (by kernel_rfl) (by kernel_rfl) ?_ ?_ ?_
   ·intro σm m0
    exact ⟨H.grow (m0.mono fun _ h => h.elim), m0⟩
   ·refine ac rfl (by
      intro k _nm ρ σm hJ hoff hdep
      have e9 := look_off (N := 36) (hoff 9 rfl) rfl
      exact dp_v (v := (Sl a6 s4.1 c7)) wn (rv_move e9) rfl hJ) ?_
    refine ac rfl (by
      intro k _nm ρ σm hJ hoff hdep
      have e0 := look_off (N := 36) (hoff 0 rfl) rfl
      exact dp_v (v := (Sl Au As Av)) wn (rv_move e0) rfl hJ) ?_
    refine ac rfl (by
      intro k _nm ρ σm hJ hoff hdep
      have e10 := look_off (N := 36) (hoff 10 rfl) rfl
      exact dp_v (v := (I s4.2)) wn (rv_move e10) rfl hJ) ?_
    refine ac rfl (by
      intro k _nm ρ σm hJ hoff hdep
      have e19 := hdep 1 rfl rfl 19 rfl
      have e20 := hdep 2 rfl rfl 20 rfl
      exact dp_v (v := (pt b12 o13)) wn (rv_ix Tryz.underlying33 ti62 e19 e20 hi11) rfl hJ) ?_
    refine ac rfl (by
      intro k _nm ρ σm hJ hoff hdep
      have e21 := hdep 3 rfl rfl 21 rfl
      exact dp_v (v := (pt b12 (o13 + 0))) wn (rv_fieldAddr (off := 0) (ft := 3) Tryz.underlying62 rfl ti3 rfl e21) rfl hJ) ?_
    refine all_cons (by
      refine ⟨?_, ?_⟩
      ·intro _nm ρ σm hJ hoff hdep
       have e22 := hdep 4 rfl rfl 22 rfl
       obtain ⟨H, m⟩ := id hJ
       replace hc14 := (Hs.ro 1 rfl).hmd hx10 hi11 (k := 0) (by decide) hc14 m
       exact dp_v (v := (I x9.1)) wn (rv_load1 Tryz.underlying3 rfl e22 hc14) rfl hJ
      refine ⟨?_, ?_⟩
      ·intro _nm ρ σm hJ hoff hdep
       have e22 := hdep 4 rfl rfl 22 rfl
       obtain ⟨H, m⟩ := id hJ
       replace hc14 := (Hs.ro 1 rfl).hmd hx10 hi11 (k := 0) (by decide) hc14 m
       exact dp_v (v := (I x9.1)) wn (rv_load1 Tryz.underlying3 rfl e22 hc14) rfl hJ
      trivial) ?_
    refine ac rfl (by
      intro k _nm ρ σm hJ hoff hdep
      have e1 := look_off (N := 36) (hoff 1 rfl) rfl
      exact dp_v (v := (I Bd)) wn (rv_move e1) rfl hJ) ?_
    refine ac rfl (by
      intro k _nm ρ σm hJ hoff hdep
      have e0 := look_off (N := 36) (hoff 0 rfl) rfl
      exact dp_v (v := (Sl Au As Av)) wn (rv_move e0) rfl hJ) ?_
    refine ac rfl (by
      intro k _nm ρ σm hJ hoff hdep
      have e10 := look_off (N := 36) (hoff 10 rfl) rfl
      exact dp_v (v := (I s4.2)) wn (rv_move e10) rfl hJ) ?_
    refine ac rfl (by
      intro k _nm ρ σm hJ hoff hdep
      have e25 := hdep 7 rfl rfl 25 rfl
      have e26 := hdep 8 rfl rfl 26 rfl
      exact dp_v (v := (pt b18 o19)) wn (rv_ix Tryz.underlying33 ti62 e25 e26 hi17) rfl hJ) ?_
    refine ac rfl (by
      intro k _nm ρ σm hJ hoff hdep
      have e27 := hdep 9 rfl rfl 27 rfl
      exact dp_v (v := (pt b18 (o19 + 1))) wn (rv_fieldAddr (off := 1) (ft := 26) Tryz.underlying62 rfl ti26 rfl e27) rfl hJ) ?_
    refine all_cons (by
      refine ⟨?_, ?_⟩
      ·intro _nm ρ σm hJ hoff hdep
       have e28 := hdep 10 rfl rfl 28 rfl
       obtain ⟨H, m⟩ := id hJ
       replace hc24 := (Hs.ro 1 rfl).hmd hx16 hi17 (k := 1) (by decide) hc24 m
       exact dp_v (v := (Sl a20 x15.2.1 c21)) wn (rv_load1 Tryz.underlying26 rfl e28 hc24) rfl hJ
      trivial) ?_
    refine ac rfl (by
      intro k _nm ρ σm hJ hoff hdep
      have e2 := look_off (N := 36) (hoff 2 rfl) rfl
      exact dp_v (v := (Sl Bf Be Bg)) wn (rv_move e2) rfl hJ) ?_
    refine all_cons (by
      refine ⟨?_, ?_⟩
      ·intro _nm ρ σm hJ hoff hdep
       have e24 : look 36 ρ 24 = (I Bd) := hdep 6 rfl rfl 24 rfl
       have e29 : look 36 ρ 29 = (Sl a20 x15.2.1 c21) := hdep 11 rfl rfl 29 rfl
       have e30 : look 36 ρ 30 = (Sl Bf Be Bg) := hdep 12 rfl rfl 30 rfl
       obtain ⟨H, m⟩ := id hJ
       refine dp_cx wn (cx_call hc27 (ent_f hc27.fn (by show [look 36 ρ 24, look 36 ρ 29, look 36 ρ 30] = _; rw [e24, e29, e30])) hn0 (H.sel' [0, 2, 0, 1, 2, 3] rfl rfl : Hp S0 σ0 _ ([_, _] ++ _))) ?_
       rintro _ σq ⟨_, ⟨rfl, rfl⟩, H2, m2⟩
       exact ⟨_, (), rfl, rfl, ⟨H2.sel' [0, 1, 2, 3] rfl rfl, m.comp0 (m2.mono (fun i h => by simp [cov, Ch.ro] at h))⟩, stab [0, 1, 2, 3, 4, 5, 6, 7, 8, 9, 10, 11, 12, 15] (by kernel_rfl) ⟨rfl, rfl, rfl, rfl, rfl, rfl, rfl, rfl, rfl, rfl, rfl, rfl, rfl, rfl, trivial⟩⟩
      trivial) ?_
    refine ac rfl (by
      intro k _nm ρ σm hJ hoff hdep
      have e23 : look 36 ρ 23 = (I x9.1) := hdep 5 rfl rfl 23 rfl
      have e31 : look 36 ρ 31 = (I r25) := hdep 13 rfl rfl 31 rfl
      exact dp_v (v := (.agg #[(I x9.1), (I r25)])) wn (rv_build (ps := [(0, (I x9.1)), (1, (I r25))]) Tryz.underlying67 ti67 (bp67 Tryz.underlying67) (by show [(0, look 36 ρ 23), (1, look 36 ρ 31)] = _; rw [e23, e31]) (by kernel_rfl)) rfl hJ) ?_
    refine ac rfl (by
      intro k _nm ρ σm hJ hoff hdep
      have e3 := look_off (N := 36) (hoff 3 rfl) rfl
      exact dp_v (v := (I Bq)) wn (rv_move e3) rfl hJ) ?_
    exact all_nil
   ·intro _nm ρ σ28 hJ hoff hrel
    have e0 := look_off (N := 36) (hoff 0 rfl) rfl
    have e1 := look_off (N := 36) (hoff 1 rfl) rfl
    have e2 := look_off (N := 36) (hoff 2 rfl) rfl
    have e3 := look_off (N := 36) (hoff 3 rfl) rfl
    have e10 := look_off (N := 36) (hoff 10 rfl) rfl
    have e18 := hrel 0 rfl 18 rfl
    have e32 := hrel 14 rfl 32 rfl
    have e33 := hrel 15 rfl 33 rfl
    obtain ⟨H, -⟩ := (show Hp S0 σ0 σ28 [Ch.ro 0 (Sl a20 x15.2.1 c21) x15.2.1, Ch.ro 0 (Sl Au As Av) As, Ch.ro 0 (Sl Bf Be Bg) Be, Ch.own n0 n0 (Sl a6 s4.1 c7) s4.1] ∧ Md (cov []) σ5 σ28 from hJ)
    clear hJ Hs
    rw [fr_lookL (L := [(0, (Sl Au As Av)), (1, (I Bd)), (2, (Sl Bf Be Bg)), (3, (I Bq)), (10, (I s4.2)), (18, (Sl a6 s4.1 c7)), (32, (.agg #[(I x9.1), (I r25)])), (33, (I Bq))]) ⟨e0, e1, e2, e3, e10, e18, e32, e33, trivial⟩]
    clear hoff hrel e0 e1 e2 e3 e10 e18 e32 e33
    obtain ⟨σ29, hw30, H, -⟩ := H.pub 3 rfl (Nat.le_refl _)
    rw [← hw30]; clear hw30
    replace H := H.roLow 0 0 rfl (Nat.zero_le _)
    revert h; refine br fun r31 hx32 h => ?_
    have hc33 := c_spec_addHit (Au := a6) (Av := c7) hx32
    refine st_call (cx_call hc33 (ent_f hc33.fn rfl) hn0 (H.sel' [0, 0, 1, 2, 3, 4] rfl rfl : Hp S0 σ0 _ ([_] ++ _))) wn ?_
    rintro _ σ36 ⟨_, ⟨a34, c35, rfl, rfl⟩, H, -⟩
    replace H : Hp _ _ _ [_, _, _, _, _, _] := H
    refine sa (Sl a34 r31 c35) rfl (w_end (q_blk (q_then (rg (sm (I s4.2) rfl (st (v := (I (w64 (s4.2 + 1)))) (rv_add (a := s4.2) (b := 1) rfl rfl) (sa (I (w64 (s4.2 + 1))) rfl (w_end (q_then ?_)))))))))
    obtain rfl := sj h
    exact ⟨_, rfl, _, σ36, a34, c35, fr_join ⟨rfl, rfl, rfl, rfl, rfl, rfl, trivial⟩, rfl, H.sel' [4, 5, 0] rfl rfl⟩
  ·replace h := bif_f hb8 h
   refine c_exit (q_then_x (q_then_x (q_blk_hit ?_)))
   obtain rfl := sj h
   obtain rfl := hres _ rfl
   exact ⟨rfl, _, σ5, a6, c7, fr_join ⟨rfl, trivial⟩, rfl, H.sel' [2] rfl rfl⟩
 ·clear hj
  have h := h'
  clear h' H
  rintro e a w ⟨rfl, ρ, σ37, a38, c39, rfl, rfl, H⟩
  refine q_then (c_seq (rg (sm (Sl a38 o3 c39) rfl (sa (Sl a38 o3 c39) rfl (w_end (q_then (c_ret ?_)))))))
  obtain rfl := sj h
  exact fin_ret (v := (Sl a38 o3 c39)) (results_ok Tryz.results52 (res_tmp (v := (Sl a38 o3 c39)) rfl res_nil) rfl) ⟨a38, c39, rfl, rfl⟩ (H.sel' [0] rfl rfl)

theorem c_spec_validPlanes {As : List (List Int)} {Au : Option Addr} {Av : Nat} {r : Bool} (h : M.spec_validPlanes As = some r) :
    Cal2 Tryz.prog 60 [(Sl Au As Av)] [Ch.ro 0 (Sl Au As Av) As] (fun n0 v L => v = (B r) ∧ L = []) := by
 refine cal2 (n := 19) Tryz.func60 rfl rfl rfl rfl ?_
 intro S0 σ0 n0 hn0 H
 unfold M.spec_validPlanes at h
 refine c_seq (rg (sa (B false) rfl (w_end (q_then (c_seq (c_seq (rg (sa (I 0) rfl (w_end (q_then ?_))))))))))
 obtain ⟨o1, hj, h'⟩ := bind_some h
 clear h
 refine c_cut (fun e a w => (∃ t, o1 = (.inl t) ∧ e = .normal ∧ ∃ (ρ : Nat → Value) (σ : St), a = fr 19 (updL ρ [(0, (Sl Au As Av))]) ∧ w = σ.w ∧ Hp S0 σ0 σ [Ch.ro 0 (Sl Au As Av) As]) ∨ (∃ t, o1 = (.inr t) ∧ e = .ret ∧ ∃ (ρ : Nat → Value) (σ : St), a = fr 19 (updL ρ [(2, (B t))]) ∧ w = σ.w ∧ Hp S0 σ0 σ [])) ?_ ?_
 ·clear h'
  rename _ = some o1 => h
  refine c_blk (wp_loopM _ h (fun s2 a w => ∃ (ρ : Nat → Value) (σ : St), a = fr 19 (updL ρ [(0, (Sl Au As Av)), (3, (I s2))]) ∧ w = σ.w ∧ Hp S0 σ0 σ [Ch.ro 0 (Sl Au As Av) As]) ⟨_, σ0, fr_join ⟨rfl, rfl, trivial⟩, rfl, H.sel' [0] rfl rfl⟩ ?_)
  clear h H
  rintro s2 a w o ⟨ρ, σ3, rfl, rfl, H⟩ h hres
  refine c_seq (c_seq (rg (sm (I s2) rfl (sm (Sl Au As Av) rfl (st (v := (I (As.length : Int))) (rv_len Tryz.underlying22 rfl) (st (v := (B (decide (s2 < (As.length : Int))))) (rv_lss (a := s2) (b := (As.length : Int)) rfl rfl) (w_end (q_then ?_))))))))
  refine cd_cond (decide (s2 < (As.length : Int))) rfl (fun hb4 => ?_) (fun hb4 => ?_)
  ·replace h := bif_t hb4 h
   refine c_skip (q_then (c_seq (c_blk (c_seq (rg (sm (Sl Au As Av) rfl (sm (I s2) rfl ?_)))))))
   revert h; refine br fun x5 hx6 h => ?_
   obtain ⟨b8, o9, hi7, -⟩ := (H.ro 0 rfl).ix hx6
   refine st (v := (pt b8 o9)) (rv_ix Tryz.underlying22 ti26 rfl rfl hi7) ?_
   obtain ⟨v13, hc14, hR12⟩ := ((H.ro 0 rfl).at hx6 hi7).slice
   obtain ⟨a10, c11, rfl⟩ := hR12.isSl
   replace H := H.add (d := Ch.ro 0 (Sl a10 x5 c11) x5) hR12 (fun _ h => h)
   clear hR12
   refine st (v := (Sl a10 x5 c11)) (rv_load1 Tryz.underlying26 rfl rfl hc14) ?_
   revert h; refine br fun r15 hx16 h => ?_
   have hc17 := c_spec_isVector (Ax := a10) (Ay := c11) hx16
   refine st_call (cx_call hc17 (ent_f hc17.fn rfl) hn0 (H.sel' [0, 0, 1] rfl rfl : Hp S0 σ0 _ ([_] ++ _))) wn ?_
   rintro _ σ18 ⟨_, ⟨rfl, rfl⟩, H, -⟩
   replace H : Hp _ _ _ [_, _] := H
   refine st (v := (B (!r15))) (rv_not rfl) (w_end (q_then ?_))
   refine cd_cond (!r15) rfl (fun hb19 => ?_) (fun hb19 => ?_)
   ·replace h := bif_t hb19 h
    refine c_seq (rg (sa (B false) rfl (w_end (q_then (c_ret (q_blk_r (q_then_r (q_then_r (q_blk_r ?_)))))))))
    obtain rfl := sj h
    obtain rfl := hres _ rfl
    exact .inr (⟨_, rfl, rfl, _, σ18, fr_join ⟨rfl, trivial⟩, rfl, H.sel' [] rfl rfl⟩)
   ·replace h := bif_f hb19 h
    refine c_skip (q_blk (q_then (rg (sm (I s2) rfl (st (v := (I (w64 (s2 + 1)))) (rv_add (a := s2) (b := 1) rfl rfl) (sa (I (w64 (s2 + 1))) rfl (w_end (q_then ?_))))))))
    obtain rfl := sj h
    exact ⟨_, rfl, _, σ18, fr_join ⟨rfl, rfl, trivial⟩, rfl, H.sel' [1] rfl rfl⟩
  ·replace h := bif_f hb4 h
   refine c_exit (q_then_x (q_then_x (q_blk_hit ?_)))
   obtain rfl := sj h
   obtain rfl := hres _ rfl
   exact .inl ⟨_, rfl, rfl, _, σ3, fr_join ⟨rfl, trivial⟩, rfl, H.sel' [0] rfl rfl⟩
 ·clear hj
  have h := h'
  clear h' H
  rintro e a w (⟨t20, rfl, rfl, ρ, σ21, rfl, rfl, H⟩ | ⟨t26, rfl, rfl, ρ, σ27, rfl, rfl, H⟩)
  ·replace h := selim_l h
   refine q_then (c_seq (rg (sm (Sl Au As Av) rfl (st (v := (I (As.length : Int))) (rv_len Tryz.underlying22 rfl) ?_))))
   revert h; refine br fun r22 hx23 h => ?_
   have hc24 := c_spec_inRange hx23
   refine st_call (cx_call hc24 (ent_f hc24.fn rfl) hn0 (H.sel' [0] rfl rfl : Hp S0 σ0 _ ([] ++ _))) wn ?_
   rintro _ σ25 ⟨_, ⟨rfl, rfl⟩, H, -⟩
   replace H : Hp _ _ _ [_] := H
   refine sa (B r22) rfl (w_end (q_then (c_ret ?_)))
   obtain rfl := sj h
   exact fin_ret (v := (B r22)) (results_ok Tryz.results60 (res_tmp (v := (B r22)) rfl res_nil) rfl) ⟨rfl, rfl⟩ (H.sel' [] rfl rfl)
  ·replace h := selim_r h
   refine q_then_r ?_
   obtain rfl := sj h
   exact fin_ret (v := (B t26)) (results_ok Tryz.results60 (res_tmp (v := (B t26)) rfl res_nil) rfl) ⟨rfl, rfl⟩ (H.sel' [] rfl rfl)

theorem c_spec_bitsApart {Aa : Int} {Ah : Int}  {r : Int} (h : M.spec_bitsApart Aa Ah = some r) :
    Cal2 Tryz.prog 91 [(I Aa), (I Ah)] [] (fun n0 v L => v = (I r) ∧ L = []) := by
 refine cal2 (n := 19) Tryz.func91 rfl rfl rfl rfl ?_
 intro S0 σ0 n0 hn0 H
 unfold M.spec_bitsApart at h
 refine c_seq (rg (sa (I 0) rfl (w_end (q_then (c_seq (rg (sa (I 0) rfl (w_end (q_then (c_seq (c_seq ?_)))))))))))
 refine rg (sm (I Aa) rfl (sm (I Ah) rfl (st (v := (I (gxor Aa Ah))) (rv_xor (a := Aa) (b := Ah) rfl rfl) (sa (I (gxor Aa Ah)) rfl (w_end (q_then ?_))))))
 obtain ⟨o1, hj, h'⟩ := bind_some h
 clear h
 refine c_cut (fun e a w => e = .normal ∧ ∃ (ρ : Nat → Value) (σ : St), a = fr 19 (updL ρ [(5, (I o1))]) ∧ w = σ.w ∧ Hp S0 σ0 σ []) ?_ ?_
 ·clear h'
  rename _ = some o1 => h
  refine c_blk (wp_loopM _ h (fun s2 a w => ∃ (ρ : Nat → Value) (σ : St), a = fr 19 (updL ρ [(5, (I s2.1)), (6, (I s2.2))]) ∧ w = σ.w ∧ Hp S0 σ0 σ []) ⟨_, σ0, fr_join ⟨rfl, rfl, trivial⟩, rfl, H.sel' [] rfl rfl⟩ ?_)
  clear h H
  rintro s2 a w o ⟨ρ, σ3, rfl, rfl, H⟩ h hres
  refine c_seq (c_seq (rg (sm (I s2.2) rfl (st (v := (B (decide (0 < s2.2)))) (rv_gtr (a := s2.2) (b := 0) rfl rfl) (w_end (q_then ?_))))))
  refine cd_cond (decide (0 < s2.2)) rfl (fun hb4 => ?_) (fun hb4 => ?_)
  ·replace h := bif_t hb4 h
   refine c_skip (q_then (c_seq (c_blk (rg (sm (I s2.1) rfl (sm (I s2.2) rfl ?_))))))
   refine st (v := (I (s2.2.tmod 2))) (rv_rem (a := s2.2) (b := 2) rfl rfl (by decide)) ?_
   refine st (v := (I (w64 (s2.1 + (s2.2.tmod 2))))) (rv_add (a := s2.1) (b := (s2.2.tmod 2)) rfl rfl) (sa (I (w64 (s2.1 + (s2.2.tmod 2)))) rfl (w_end (q_blk (q_then (rg (sm (I s2.2) rfl ?_))))))
   refine st (v := (I (w64 (s2.2.tdiv 2)))) (rv_quo (a := s2.2) (b := 2) rfl rfl (by decide)) ?_
   refine sa (I (w64 (s2.2.tdiv 2))) rfl (w_end (q_then ?_))
   obtain rfl := sj h
   exact ⟨_, rfl, _, σ3, fr_join ⟨rfl, rfl, trivial⟩, rfl, H.sel' [] rfl rfl⟩
  ·replace h := bif_f hb4 h
   refine c_exit (q_then_x (q_then_x (q_blk_hit ?_)))
   obtain rfl := sj h
   obtain rfl := hres _ rfl
   exact ⟨rfl, _, σ3, fr_join ⟨rfl, trivial⟩, rfl, H.sel' [] rfl rfl⟩
 ·clear hj
  have h := h'
  clear h' H
  rintro e a w ⟨rfl, ρ, σ5, rfl, rfl, H⟩
  refine q_then (c_seq (rg (sm (I o1) rfl (sa (I o1) rfl (w_end (q_then (c_ret ?_)))))))
  obtain rfl := sj h
  exact fin_ret (v := (I o1)) (results_ok Tryz.results91 (res_tmp (v := (I o1)) rfl res_nil) rfl) ⟨rfl, rfl⟩ (H.sel' [] rfl rfl)

theorem c_spec_dot {Aa : List Int} {Ah : List Int} {Ad : Option Addr} {Ae : Nat} {Ai : Option Addr} {Aj : Nat} {r : Int} (h : M.spec_dot Aa Ah = some r) :
    Cal2 Tryz.prog 117 [(Sl Ad Aa Ae), (Sl Ai Ah Aj)] [Ch.ro 0 (Sl Ad Aa Ae) Aa, Ch.ro 0 (Sl Ai Ah Aj) Ah] (fun n0 v L => v = (I r) ∧ L = []) := by
 refine cal2 (n := 25) Tryz.func117 rfl rfl rfl rfl ?_
 intro S0 σ0 n0 hn0 H
 unfold M.spec_dot at h
 refine c_seq (rg (sa (I 0) rfl (w_end (q_then (c_seq (rg (sa (I 0) rfl (w_end (q_then (c_seq (c_seq ?_)))))))))))
 refine rg (sa (I 0) rfl (w_end (q_then ?_)))
 obtain ⟨o1, hj, h'⟩ := bind_some h
 clear h
 refine c_cut (fun e a w => e = .normal ∧ ∃ (ρ : Nat → Value) (σ : St), a = fr 25 (updL ρ [(5, (I o1))]) ∧ w = σ.w ∧ Hp S0 σ0 σ []) ?_ ?_
 ·clear h'
  rename _ = some o1 => h
  refine c_blk (wp_loopM _ h (fun s2 a w => ∃ (ρ : Nat → Value) (σ : St), a = fr 25 (updL ρ [(0, (Sl Ad Aa Ae)), (1, (Sl Ai Ah Aj)), (5, (I s2.1)), (6, (I s2.2))]) ∧ w = σ.w ∧ Hp S0 σ0 σ [Ch.ro 0 (Sl Ad Aa Ae) Aa, Ch.ro 0 (Sl Ai Ah Aj) Ah]) ⟨_, σ0, fr_join ⟨rfl, rfl, rfl, rfl, trivial⟩, rfl, H.sel' [0, 1] rfl rfl⟩ ?_)
  clear h H
  rintro s2 a w o ⟨ρ, σ3, rfl, rfl, H⟩ h hres
  refine c_seq (c_seq (rg (sm (I s2.2) rfl (sm (Sl Ad Aa Ae) rfl (st (v := (I (Aa.length : Int))) (rv_len Tryz.underlying26 rfl) (st (v := (B (decide (s2.2 < (Aa.length : Int))))) (rv_lss (a := s2.2) (b := (Aa.length : Int)) rfl rfl) (w_end (q_then ?_))))))))
  refine cd_cond (decide (s2.2 < (Aa.length : Int))) rfl (fun hb4 => ?_) (fun hb4 => ?_)
  ·replace h := bif_t hb4 h
   refine c_skip (q_then (c_seq (c_blk ?_)))
   refine rgP (σ := σ3) 10 (by kernel_rfl) (by kernel_rfl) (by kernel_rfl) ?_
   refine sq (v := (I s2.1)) (rv_move rfl) (sq (v := (Sl Ad Aa Ae)) (rv_move rfl) (sq (v := (I s2.2)) (rv_move rfl) ?_))
   revert h; refine br fun x5 hx6 h => ?_
   obtain ⟨b8, o9, hi7, -⟩ := (H.ro 0 rfl).ix hx6
   refine sq (v := (pt b8 o9)) (rv_ix Tryz.underlying26 ti3 rfl rfl hi7) ?_
   have hc10 := ((H.ro 0 rfl).at hx6 hi7).int
   refine sq (v := (I x5)) (rv_load1 Tryz.underlying3 rfl rfl hc10) (sq (v := (Sl Ai Ah Aj)) (rv_move rfl) (sq (v := (I s2.2)) (rv_move rfl) ?_))
   revert h; refine br fun x11 hx12 h => ?_
   obtain ⟨b14, o15, hi13, -⟩ := (H.ro 1 rfl).ix hx12
   refine sq (v := (pt b14 o15)) (rv_ix Tryz.underlying26 ti3 rfl rfl hi13) ?_
   have hc16 := ((H.ro 1 rfl).at hx12 hi13).int
   refine sq (v := (I x11)) (rv_load1 Tryz.underlying3 rfl rfl hc16) (sq (v := (I (w64 (x5 * x11)))) (rv_mul (a := x5) (b := x11) rfl rfl) (sq_end ?_))
   intro σ17 hm18
   replace H := H.grow (hm18.mono fun _ h => h); clear hm18
   refine st (v := (I (w64 (s2.1 + (w64 (x5 * x11)))))) (rv_add (a := s2.1) (b := (w64 (x5 * x11))) rfl rfl) (sa (I (w64 (s2.1 + (w64 (x5 * x11))))) rfl (w_end (q_blk (q_then (rg (sm (I s2.2) rfl (st (v := (I (w64 (s2.2 + 1)))) (rv_add (a := s2.2) (b := 1) rfl rfl) (sa (I (w64 (s2.2 + 1))) rfl (w_end (q_then ?_))))))))))
   obtain rfl := sj h
   exact ⟨_, rfl, _, σ17, fr_join ⟨rfl, rfl, rfl, rfl, trivial⟩, rfl, H.sel' [0, 1] rfl rfl⟩
  ·replace h := bif_f hb4 h
   refine c_exit (q_then_x (q_then_x (q_blk_hit ?_)))
   obtain rfl := sj h
   obtain rfl := hres _ rfl
   exact ⟨rfl, _, σ3, fr_join ⟨rfl, trivial⟩, rfl, H.sel' [] rfl rfl⟩
 ·clear hj
  have h := h'
  clear h' H
  rintro e a w ⟨rfl, ρ, σ19, rfl, rfl, H⟩
  refine q_then (c_seq (rg (sm (I o1) rfl (sa (I o1) rfl (w_end (q_then (c_ret ?_)))))))
  obtain rfl := sj h
  exact fin_ret (v := (I o1)) (results_ok Tryz.results117 (res_tmp (v := (I o1)) rfl res_nil) rfl) ⟨rfl, rfl⟩ (H.sel' [] rfl rfl)

theorem c_spec_hashOf {Br : List (List Int)} {Bs : List Int} {Bt : Option Addr} {Bu : Nat} {Bv : Option Addr} {Bw : Nat} {r : Int} (h : M.spec_hashOf Br Bs = some r) :
    Cal2 Tryz.prog 92 [(Sl Bt Br Bu), (Sl Bv Bs Bw)] [Ch.ro 0 (Sl Bt Br Bu) Br, Ch.ro 0 (Sl Bv Bs Bw) Bs] (fun n0 v L => v = (I r) ∧ L = []) := by
 refine cal2 (n := 25) Tryz.func92 rfl rfl rfl rfl ?_
 intro S0 σ0 n0 hn0 H
 unfold M.spec_hashOf at h
 refine c_seq (rg (sa (I 0) rfl (w_end (q_then (c_seq (rg (sa (I 0) rfl (w_end (q_then (c_seq (c_seq ?_)))))))))))
 refine rg (sa (I 0) rfl (w_end (q_then ?_)))
 obtain ⟨o1, hj, h'⟩ := bind_some h
 clear h
 refine c_cut (fun e a w => e = .normal ∧ ∃ (ρ : Nat → Value) (σ : St), a = fr 25 (updL ρ [(5, (I o1))]) ∧ w = σ.w ∧ Hp S0 σ0 σ []) ?_ ?_
 ·clear h'
  rename _ = some o1 => h
  refine c_blk (wp_loopM _ h (fun s2 a w => ∃ (ρ : Nat → Value) (σ : St), a = fr 25 (updL ρ [(0, (Sl Bt Br Bu)), (1, (Sl Bv Bs Bw)), (5, (I s2.1)), (6, (I s2.2))]) ∧ w = σ.w ∧ Hp S0 σ0 σ [Ch.ro 0 (Sl Bt Br Bu) Br, Ch.ro 0 (Sl Bv Bs Bw) Bs]) ⟨_, σ0, fr_join ⟨rfl, rfl, rfl, rfl, trivial⟩, rfl, H.sel' [0, 1] rfl rfl⟩ ?_)
  clear h H
  rintro s2 a w o ⟨ρ, σ3, rfl, rfl, H⟩ h hres
  refine c_seq (c_seq (rg (sm (I s2.2) rfl (sm (Sl Bt Br Bu) rfl (st (v := (I (Br.length : Int))) (rv_len Tryz.underlying22 rfl) (st (v := (B (decide (s2.2 < (Br.length : Int))))) (rv_lss (a := s2.2) (b := (Br.length : Int)) rfl rfl) (w_end (q_then ?_))))))))
  refine cd_cond (decide (s2.2 < (Br.length : Int))) rfl (fun hb4 => ?_) (fun hb4 => ?_)
  ·replace h := bif_t hb4 h
   refine c_skip (q_then (c_seq (c_blk (rg (sm (I s2.1) rfl (st (v := (I (w64 (2 * s2.1)))) (rv_mul (a := 2) (b := s2.1) rfl rfl) (sm (Sl Bt Br Bu) rfl (sm (I s2.2) rfl ?_))))))))
   revert h; refine br fun x5 hx6 h => ?_
   obtain ⟨b8, o9, hi7, -⟩ := (H.ro 0 rfl).ix hx6
   refine st (v := (pt b8 o9)) (rv_ix Tryz.underlying22 ti26 rfl rfl hi7) ?_
   obtain ⟨v13, hc14, hR12⟩ := ((H.ro 0 rfl).at hx6 hi7).slice
   obtain ⟨a10, c11, rfl⟩ := hR12.isSl
   replace H := H.add (d := Ch.ro 0 (Sl a10 x5 c11) x5) hR12 (fun _ h => h)
   clear hR12
   refine st (v := (Sl a10 x5 c11)) (rv_load1 Tryz.underlying26 rfl rfl hc14) (sm (Sl Bv Bs Bw) rfl ?_)
   revert h; refine br fun r15 hx16 h => ?_
   have hc17 := c_spec_dot (Ad := a10) (Ae := c11) (Ai := Bv) (Aj := Bw) hx16
   refine st_call (cx_call hc17 (ent_f hc17.fn rfl) hn0 (H.sel' [0, 2, 0, 1, 2] rfl rfl : Hp S0 σ0 _ ([_, _] ++ _))) wn ?_
   rintro _ σ18 ⟨_, ⟨rfl, rfl⟩, H, -⟩
   replace H : Hp _ _ _ [_, _, _] := H
   refine st (v := (B (decide (0 ≤ r15)))) (rv_geq (a := r15) (b := 0) rfl rfl) ?_
   revert h; refine br fun r19 hx20 h => ?_
   have hc21 := c_spec_toInt hx20
   refine st_call (cx_call hc21 (ent_f hc21.fn rfl) hn0 (H.sel' [0, 1, 2] rfl rfl : Hp S0 σ0 _ ([] ++ _))) wn ?_
   rintro _ σ22 ⟨_, ⟨rfl, rfl⟩, H, -⟩
   replace H : Hp _ _ _ [_, _, _] := H
   refine st (v := (I (w64 ((w64 (2 * s2.1)) + r19)))) (rv_add (a := (w64 (2 * s2.1))) (b := r19) rfl rfl) (sa (I (w64 ((w64 (2 * s2.1)) + r19))) rfl (w_end (q_blk (q_then (rg (sm (I s2.2) rfl (st (v := (I (w64 (s2.2 + 1)))) (rv_add (a := s2.2) (b := 1) rfl rfl) (sa (I (w64 (s2.2 + 1))) rfl (w_end (q_then ?_))))))))))
   obtain rfl := sj h
   exact ⟨_, rfl, _, σ22, fr_join ⟨rfl, rfl, rfl, rfl, trivial⟩, rfl, H.sel' [1, 2] rfl rfl⟩
  ·replace h := bif_f hb4 h
   refine c_exit (q_then_x (q_then_x (q_blk_hit ?_)))
   obtain rfl := sj h
   obtain rfl := hres _ rfl
   exact ⟨rfl, _, σ3, fr_join ⟨rfl, trivial⟩, rfl, H.sel' [] rfl rfl⟩
 ·clear hj
  have h := h'
  clear h' H
  rintro e a w ⟨rfl, ρ, σ23, rfl, rfl, H⟩
  refine q_then (c_seq (rg (sm (I o1) rfl (sa (I o1) rfl (w_end (q_then (c_ret ?_)))))))
  obtain rfl := sj h
  exact fin_ret (v := (I o1)) (results_ok Tryz.results92 (res_tmp (v := (I o1)) rfl res_nil) rfl) ⟨rfl, rfl⟩ (H.sel' [] rfl rfl)

theorem c_spec_BucketOf {Br : List (List Int)} {By : List (Int × (List Int) × Int)} {Be : List Int} {Bz : Int} {Bt : Option Addr} {Bu : Nat} {Ca : Option Addr} {Cb : Nat} {Bf : Option Addr} {Bg : Nat} {r : (List Int)} (h : M.spec_BucketOf Br By Be Bz = some r) :
    Cal2 Tryz.prog 61 [(Sl Bt Br Bu), (Sl Ca By Cb), (Sl Bf Be Bg), (I Bz)] [Ch.ro 0 (Sl Bt Br Bu) Br, Ch.ro 0 (Sl Ca By Cb) By, Ch.ro 0 (Sl Bf Be Bg) Be] (fun n0 v L => ∃ (az1 : Option Addr), ∃ (cz2 : Nat), v = (Sl az1 r cz2) ∧ L = [Ch.own n0 n0 (Sl az1 r cz2) r]) := by
 refine cal2 (n := 58) Tryz.func61 rfl rfl rfl rfl ?_
 intro S0 σ0 n0 hn0 H
 unfold M.spec_BucketOf at h
 refine c_seq (rg (sa (.slice none 0 0) rfl (w_end (q_then (c_seq (rg ?_))))))
 refine st_ex (ex_buildSlice (el := n0) (xs := ([] : List Int)) (ps := []) (cs := []) H hn0 Tryz.underlying26 ti3 rfl rfl (by kernel_rfl) (.nil) rfl) wn ?_
 rintro _ σ2 ⟨b1, rfl, H, -⟩
 refine sa (Sl (some ⟨b1, 0, none⟩) ([] : List Int) 0) rfl (w_end (q_then (c_seq (c_seq ?_))))
 obtain ⟨o3, hj, h'⟩ := bind_some h
 clear h
 refine c_cut (fun e a w => e = .normal ∧ ∃ (ρ : Nat → Value) (σ : St), a = fr 58 (updL ρ [(0, (Sl Bt Br Bu)), (1, (Sl Ca By Cb)), (2, (Sl Bf Be Bg)), (3, (I Bz)), (9, (Sl (some ⟨b1, 0, none⟩) ([] : List Int) 0)), (29, (B o3))]) ∧ w = σ.w ∧ Hp S0 σ0 σ [Ch.ro 0 (Sl Bt Br Bu) Br, Ch.ro 0 (Sl Ca By Cb) By, Ch.ro 0 (Sl Bf Be Bg) Be, Ch.own n0 n0 (Sl (some ⟨b1, 0, none⟩) ([] : List Int) 0) ([] : List Int)]) ?_ ?_
 ·clear h'
  rename _ = some o3 => h
  refine rg (sm (Sl Bt Br Bu) rfl ?_)
  revert h; refine br fun r4 hx5 h => ?_
  have hc6 := c_spec_validPlanes (Au := Bt) (Av := Bu) hx5
  refine st_call (cx_call hc6 (ent_f hc6.fn rfl) hn0 (H.sel' [1, 0, 1, 2, 3] rfl rfl : Hp S0 σ0 _ ([_] ++ _))) wn ?_
  rintro _ σ7 ⟨_, ⟨rfl, rfl⟩, H, -⟩
  replace H : Hp _ _ _ [_, _, _, _] := H
  refine st (v := (B (!r4))) (rv_not rfl) (sm (B (!r4)) rfl ?_)
  rcases Bool.eq_false_or_eq_true (!r4) with hb8 | hb8
  ·replace h := bif_t hb8 h
   refine st_skip (congrArg some hb8) (st_skip (congrArg some hb8) (st_skip (congrArg some hb8) (st (v := (B true)) (rv_pick_t (congrArg B hb8) rfl) (sm (B true) rfl (st_skip rfl (st_skip rfl (st_skip rfl (st (v := (B true)) (rv_pick_t rfl rfl) (sm (B true) rfl (st_skip rfl (st_skip rfl ?_)))))))))))
   refine st_skip rfl (st (v := (B true)) (rv_pick_t rfl rfl) (w_end ?_))
   obtain rfl := sj h
   exact ⟨rfl, _, σ7, fr_join ⟨rfl, rfl, rfl, rfl, rfl, rfl, trivial⟩, rfl, H.sel' [1, 2, 3, 0] rfl rfl⟩
  ·replace h := bif_f hb8 h
   refine st_g (v := (Sl Ca By Cb)) (congrArg some hb8) (rv_move rfl) ?_
   revert h; refine br fun r9 hx10 h => ?_
   have hc11 := c_spec_validStore (Au := Ca) (Av := Cb) hx10
   refine st_call (cx_call hc11 (ent_f hc11.fn rfl) hn0 (H.sel' [2, 0, 1, 2, 3] rfl rfl : Hp S0 σ0 _ ([_] ++ _))) (wanted_yes rfl (by exact (congrArg some hb8))) ?_
   rintro _ σ12 ⟨_, ⟨rfl, rfl⟩, H, -⟩
   replace H : Hp _ _ _ [_, _, _, _] := H
   refine st_g (v := (B (!r9))) (congrArg some hb8) (rv_not rfl) (st (v := (B (!r9))) (rv_pick_f (congrArg B hb8) rfl) (sm (B (!r9)) rfl ?_))
   rcases Bool.eq_false_or_eq_true (!r9) with hb13 | hb13
   ·replace h := bif_t hb13 h
    refine st_skip (congrArg some hb13) (st_skip (congrArg some hb13) (st_skip (congrArg some hb13) (st (v := (B true)) (rv_pick_t (congrArg B hb13) rfl) (sm (B true) rfl (st_skip rfl (st_skip rfl (st_skip rfl (st (v := (B true)) (rv_pick_t rfl rfl) (w_end ?_)))))))))
    obtain rfl := sj h
    exact ⟨rfl, _, σ12, fr_join ⟨rfl, rfl, rfl, rfl, rfl, rfl, trivial⟩, rfl, H.sel' [1, 2, 3, 0] rfl rfl⟩
   ·replace h := bif_f hb13 h
    refine st_g (v := (Sl Bf Be Bg)) (congrArg some hb13) (rv_move rfl) ?_
    revert h; refine br fun r14 hx15 h => ?_
    have hc16 := c_spec_isVector (Ax := Bf) (Ay := Bg) hx15
    refine st_call (cx_call hc16 (ent_f hc16.fn rfl) hn0 (H.sel' [3, 0, 1, 2, 3] rfl rfl : Hp S0 σ0 _ ([_] ++ _))) (wanted_yes rfl (by exact (congrArg some hb13))) ?_
    rintro _ σ17 ⟨_, ⟨rfl, rfl⟩, H, -⟩
    replace H : Hp _ _ _ [_, _, _, _] := H
    refine st_g (v := (B (!r14))) (congrArg some hb13) (rv_not rfl) (st (v := (B (!r14))) (rv_pick_f (congrArg B hb13) rfl) (sm (B (!r14)) rfl ?_))
    rcases Bool.eq_false_or_eq_true (!r14) with hb18 | hb18
    ·replace h := bif_t hb18 h
     refine st_skip (congrArg some hb18) (st_skip (congrArg some hb18) (st_skip (congrArg some hb18) (st (v := (B true)) (rv_pick_t (congrArg B hb18) rfl) (w_end ?_))))
     obtain rfl := sj h
     exact ⟨rfl, _, σ17, fr_join ⟨rfl, rfl, rfl, rfl, rfl, rfl, trivial⟩, rfl, H.sel' [1, 2, 3, 0] rfl rfl⟩
    ·replace h := bif_f hb18 h
     refine st_g (v := (I Bz)) (congrArg some hb18) (rv_move rfl) ?_
     revert h; refine br fun r19 hx20 h => ?_
     have hc21 := c_spec_inRange hx20
     refine st_call (cx_call hc21 (ent_f hc21.fn rfl) hn0 (H.sel' [0, 1, 2, 3] rfl rfl : Hp S0 σ0 _ ([] ++ _))) (wanted_yes rfl (by exact (congrArg some hb18))) ?_
     rintro _ σ22 ⟨_, ⟨rfl, rfl⟩, H, -⟩
     replace H : Hp _ _ _ [_, _, _, _] := H
     refine st_g (v := (B (!r19))) (congrArg some hb18) (rv_not rfl) (st (v := (B (!r19))) (rv_pick_f (congrArg B hb18) rfl) (w_end ?_))
     obtain rfl := sj h
     exact ⟨rfl, _, σ22, fr_join ⟨rfl, rfl, rfl, rfl, rfl, rfl, trivial⟩, rfl, H.sel' [1, 2, 3, 0] rfl rfl⟩
 ·clear hj
  have h := h'
  clear h' H
  rintro e a w ⟨rfl, ρ, σ23, rfl, rfl, H⟩
  refine q_then ?_
  refine cd_cond o3 rfl (fun hb24 => ?_) (fun hb24 => ?_)
  ·replace h := bif_t hb24 h
   refine c_seq (rg (sa (.slice none 0 0) rfl (w_end (q_then (c_ret (q_then_r ?_))))))
   replace H := H.nilOwn Int n0 n0
   obtain rfl := sj h
   exact fin_ret (v := (.slice none 0 0)) (results_ok Tryz.results61 (res_tmp (v := (.slice none 0 0)) rfl res_nil) rfl) ⟨none, 0, rfl, rfl⟩ (H.sel' [0] rfl rfl)
  ·replace h := bif_f hb24 h
   refine c_skip (q_then (c_seq (c_seq (rg (sa (I 0) rfl (w_end (q_then ?_)))))))
   obtain ⟨o25, hj, h'⟩ := bind_some h
   clear h
   refine c_cut (fun e a w => e = .normal ∧ ∃ (ρ : Nat → Value) (σ : St) (aj1 : Option Addr) (cj2 : Nat), a = fr 58 (updL ρ [(9, (Sl aj1 o25 cj2))]) ∧ w = σ.w ∧ Hp S0 σ0 σ [Ch.own n0 n0 (Sl aj1 o25 cj2) o25]) ?_ ?_
   ·clear h'
    rename _ = some o25 => h
    refine c_blk (wp_loopM _ h (fun s26 a w => ∃ (ρ : Nat → Value) (σ : St) (aj1 : Option Addr) (cj2 : Nat), a = fr 58 (updL ρ [(0, (Sl Bt Br Bu)), (1, (Sl Ca By Cb)), (2, (Sl Bf Be Bg)), (3, (I Bz)), (9, (Sl aj1 s26.1 cj2)), (10, (I s26.2))]) ∧ w = σ.w ∧ Hp S0 σ0 σ [Ch.ro 0 (Sl Bt Br Bu) Br, Ch.ro 0 (Sl Ca By Cb) By, Ch.ro 0 (Sl Bf Be Bg) Be, Ch.own n0 n0 (Sl aj1 s26.1 cj2) s26.1]) ⟨_, σ23, (some ⟨b1, 0, none⟩), 0, fr_join ⟨rfl, rfl, rfl, rfl, rfl, rfl, trivial⟩, rfl, H.sel' [0, 1, 2, 3] rfl rfl⟩ ?_)
    clear h H
    rintro s26 a w o ⟨ρ, σ27, a28, c29, rfl, rfl, H⟩ h hres
    refine c_seq (c_seq (rg (sm (I s26.2) rfl (sm (Sl Ca By Cb) rfl (st (v := (I (By.length : Int))) (rv_len Tryz.underlying33 rfl) (st (v := (B (decide (s26.2 < (By.length : Int))))) (rv_lss (a := s26.2) (b := (By.length : Int)) rfl rfl) (w_end (q_then ?_))))))))
    refine cd_cond (decide (s26.2 < (By.length : Int))) rfl (fun hb30 => ?_) (fun hb30 => ?_)
    ·replace h := bif_t hb30 h
     refine c_skip (q_then (c_seq ?_))
     obtain ⟨o31, hj, h'⟩ := bind_some h
     clear h
     refine c_cut (fun e a w => e = .normal ∧ ∃ (ρ : Nat → Value) (σ : St) (aj1 : Option Addr) (cj2 : Nat), a = fr 58 (updL ρ [(0, (Sl Bt Br Bu)), (1, (Sl Ca By Cb)), (2, (Sl Bf Be Bg)), (3, (I Bz)), (9, (Sl aj1 o31 cj2)), (10, (I s26.2))]) ∧ w = σ.w ∧ Hp S0 σ0 σ [Ch.ro 0 (Sl Bt Br Bu) Br, Ch.ro 0 (Sl Ca By Cb) By, Ch.ro 0 (Sl Bf Be Bg) Be, Ch.own n0 n0 (Sl aj1 o31 cj2) o31]) ?_ ?_
     ·clear h'
      rename _ = some o31 => h
      refine c_blk (c_seq (rg (sm (Sl Bt Br Bu) rfl (sm (Sl Ca By Cb) rfl (sm (I s26.2) rfl ?_)))))
      revert h; refine br fun x32 hx33 h => ?_
      obtain ⟨b35, o36, hi34, -⟩ := (H.ro 1 rfl).ix hx33
      refine st (v := (pt b35 o36)) (rv_ix Tryz.underlying33 ti62 rfl rfl hi34) (st (v := (pt b35 (o36 + 1))) (rv_fieldAddr (off := 1) (ft := 26) Tryz.underlying62 rfl ti26 rfl rfl) ?_)
      obtain ⟨v40, hc41, hR39⟩ := ((H.ro 1 rfl).at hx33 hi34).snd.fst.slice
      obtain ⟨a37, c38, rfl⟩ := hR39.isSl
      replace H := H.add (d := Ch.ro 0 (Sl a37 x32.2.1 c38) x32.2.1) hR39 (fun _ h => h)
      clear hR39
      refine st (v := (Sl a37 x32.2.1 c38)) (rv_load1 Tryz.underlying26 rfl rfl hc41) ?_
      revert h; refine br fun r42 hx43 h => ?_
      have hc44 := c_spec_hashOf (Bt := Bt) (Bu := Bu) (Bv := a37) (Bw := c38) hx43
      refine st_call (cx_call hc44 (ent_f hc44.fn rfl) hn0 (H.sel' [1, 0, 0, 1, 2, 3, 4] rfl rfl : Hp S0 σ0 _ ([_, _] ++ _))) wn ?_
      rintro _ σ45 ⟨_, ⟨rfl, rfl⟩, H, -⟩
      replace H : Hp _ _ _ [_, _, _, _, _] := H
      refine sm (Sl Bt Br Bu) rfl (sm (Sl Bf Be Bg) rfl ?_)
      revert h; refine br fun r46 hx47 h => ?_
      have hc48 := c_spec_hashOf (Bt := Bt) (Bu := Bu) (Bv := Bf) (Bw := Bg) hx47
      refine st_call (cx_call hc48 (ent_f hc48.fn rfl) hn0 (H.sel' [1, 3, 0, 1, 2, 3, 4] rfl rfl : Hp S0 σ0 _ ([_, _] ++ _))) wn ?_
      rintro _ σ49 ⟨_, ⟨rfl, rfl⟩, H, -⟩
      replace H : Hp _ _ _ [_, _, _, _, _] := H
      revert h; refine br fun r50 hx51 h => ?_
      have hc52 := c_spec_bitsApart hx51
      refine st_call (cx_call hc52 (ent_f hc52.fn rfl) hn0 (H.sel' [0, 1, 2, 3, 4] rfl rfl : Hp S0 σ0 _ ([] ++ _))) wn ?_
      rintro _ σ53 ⟨_, ⟨rfl, rfl⟩, H, -⟩
      replace H : Hp _ _ _ [_, _, _, _, _] := H
      refine sm (I Bz) rfl (st (v := (B (decide (r50 ≤ Bz)))) (rv_leq (a := r50) (b := Bz) rfl rfl) (w_end (q_then ?_)))
      refine cd_cond (decide (r50 ≤ Bz)) rfl (fun hb54 => ?_) (fun hb54 => ?_)
      ·replace h := bif_t hb54 h
       refine rg (sm (Sl a28 s26.1 c29) rfl (sm (Sl Ca By Cb) rfl (sm (I s26.2) rfl ?_)))
       revert h; refine br fun x55 hx56 h => ?_
       obtain ⟨b58, o59, hi57, -⟩ := (H.ro 2 rfl).ix hx56
       refine st (v := (pt b58 o59)) (rv_ix Tryz.underlying33 ti62 rfl rfl hi57) (st (v := (pt b58 (o59 + 0))) (rv_fieldAddr (off := 0) (ft := 3) Tryz.underlying62 rfl ti3 rfl rfl) ?_)
       have hc60 := ((H.ro 2 rfl).at hx56 hi57).fst.int
       refine st (v := (I x55.1)) (rv_load1 Tryz.underlying3 rfl rfl hc60) ?_
       refine st_ex (ex_buildSlice (el := n0) (xs := ([x55.1] : List Int)) (ps := [(0, (I x55.1))]) (cs := [(I x55.1)]) H hn0 Tryz.underlying26 ti3 rfl rfl (by kernel_rfl) (.cons (c := [(I x55.1)]) rfl (.nil)) rfl) wn ?_
       rintro _ σ62 ⟨b61, rfl, H, -⟩
       revert h; refine br fun xs63 hx64 h => ?_
       refine st_ex (ex_append H (i := 5) rfl Tryz.underlying26 Tryz.underlying26 ti3 rfl rfl (by decide) (H.own 0 rfl).rd hx64 hn0 rfl rfl) wn ?_
       rintro _ σ67 ⟨a65, c66, rfl, H, -⟩
       refine sa (Sl a65 xs63 c66) rfl (w_end (q_blk ?_))
       obtain rfl := sj h
       exact ⟨rfl, _, σ67, a65, c66, fr_join ⟨rfl, rfl, rfl, rfl, rfl, rfl, trivial⟩, rfl, H.sel' [3, 4, 5, 0] rfl rfl⟩
      ·replace h := bif_f hb54 h
       refine c_skip (q_blk ?_)
       obtain rfl := sj h
       exact ⟨rfl, _, σ53, a28, c29, fr_join ⟨rfl, rfl, rfl, rfl, rfl, rfl, trivial⟩, rfl, H.sel' [1, 2, 3, 4] rfl rfl⟩
     ·clear hj
      have h := h'
      clear h' H
      rintro e a w ⟨rfl, ρ, σ68, a69, c70, rfl, rfl, H⟩
      refine q_then (rg (sm (I s26.2) rfl (st (v := (I (w64 (s26.2 + 1)))) (rv_add (a := s26.2) (b := 1) rfl rfl) (sa (I (w64 (s26.2 + 1))) rfl (w_end (q_then ?_))))))
      obtain rfl := sj h
      exact ⟨_, rfl, _, σ68, a69, c70, fr_join ⟨rfl, rfl, rfl, rfl, rfl, rfl, trivial⟩, rfl, H.sel' [0, 1, 2, 3] rfl rfl⟩
    ·replace h := bif_f hb30 h
     refine c_exit (q_then_x (q_then_x (q_blk_hit ?_)))
     obtain rfl := sj h
     obtain rfl := hres _ rfl
     exact ⟨rfl, _, σ27, a28, c29, fr_join ⟨rfl, trivial⟩, rfl, H.sel' [3] rfl rfl⟩
   ·clear hj
    have h := h'
    clear h' H
    rintro e a w ⟨rfl, ρ, σ71, a72, c73, rfl, rfl, H⟩
    refine q_then (c_seq (rg (sm (Sl a72 o25 c73) rfl (sa (Sl a72 o25 c73) rfl (w_end (q_then (c_ret ?_)))))))
    obtain rfl := sj h
    exact fin_ret (v := (Sl a72 o25 c73)) (results_ok Tryz.results61 (res_tmp (v := (Sl a72 o25 c73)) rfl res_nil) rfl) ⟨a72, c73, rfl, rfl⟩ (H.sel' [0] rfl rfl)

theorem c_spec_isIn {As : List Int} {Cc : Int} {Au : Option Addr} {Av : Nat} {r : Bool} (h : M.spec_isIn As Cc = some r) :
    Cal2 Tryz.prog 62 [(Sl Au As Av), (I Cc)] [Ch.ro 0 (Sl Au As Av) As] (fun n0 v L => v = (B r) ∧ L = []) := by
 refine cal2 (n := 18) Tryz.func62 rfl rfl rfl rfl ?_
 intro S0 σ0 n0 hn0 H
 unfold M.spec_isIn at h
 refine c_seq (rg (sa (B false) rfl (w_end (q_then (c_seq (c_seq (rg (sa (I 0) rfl (w_end (q_then ?_))))))))))
 obtain ⟨o1, hj, h'⟩ := bind_some h
 clear h
 refine c_cut (fun e a w => (∃ t, o1 = (.inl t) ∧ e = .normal ∧ ∃ (ρ : Nat → Value) (σ : St), a = fr 18 (updL ρ []) ∧ w = σ.w ∧ Hp S0 σ0 σ []) ∨ (∃ t, o1 = (.inr t) ∧ e = .ret ∧ ∃ (ρ : Nat → Value) (σ : St), a = fr 18 (updL ρ [(4, (B t))]) ∧ w = σ.w ∧ Hp S0 σ0 σ [])) ?_ ?_
 ·clear h'
  rename _ = some o1 => h
  refine c_blk (wp_loopM _ h (fun s2 a w => ∃ (ρ : Nat → Value) (σ : St), a = fr 18 (updL ρ [(0, (Sl Au As Av)), (1, (I Cc)), (5, (I s2))]) ∧ w = σ.w ∧ Hp S0 σ0 σ [Ch.ro 0 (Sl Au As Av) As]) ⟨_, σ0, fr_join ⟨rfl, rfl, rfl, trivial⟩, rfl, H.sel' [0] rfl rfl⟩ ?_)
  clear h H
  rintro s2 a w o ⟨ρ, σ3, rfl, rfl, H⟩ h hres
  refine c_seq (c_seq (rg (sm (I s2) rfl (sm (Sl Au As Av) rfl (st (v := (I (As.length : Int))) (rv_len Tryz.underlying26 rfl) (st (v := (B (decide (s2 < (As.length : Int))))) (rv_lss (a := s2) (b := (As.length : Int)) rfl rfl) (w_end (q_then ?_))))))))
  refine cd_cond (decide (s2 < (As.length : Int))) rfl (fun hb4 => ?_) (fun hb4 => ?_)
  ·replace h := bif_t hb4 h
   refine c_skip (q_then (c_seq (c_blk (c_seq (rg (sm (Sl Au As Av) rfl (sm (I s2) rfl ?_)))))))
   revert h; refine br fun x5 hx6 h => ?_
   obtain ⟨b8, o9, hi7, -⟩ := (H.ro 0 rfl).ix hx6
   refine st (v := (pt b8 o9)) (rv_ix Tryz.underlying26 ti3 rfl rfl hi7) ?_
   have hc10 := ((H.ro 0 rfl).at hx6 hi7).int
   refine st (v := (I x5)) (rv_load1 Tryz.underlying3 rfl rfl hc10) (sm (I Cc) rfl (st (v := (B (x5 == Cc))) (rv_eql (a := x5) (b := Cc) rfl rfl) (w_end (q_then ?_))))
   refine cd_cond (x5 == Cc) rfl (fun hb11 => ?_) (fun hb11 => ?_)
   ·replace h := bif_t hb11 h
    refine c_seq (rg (sa (B true) rfl (w_end (q_then (c_ret (q_blk_r (q_then_r (q_then_r (q_blk_r ?_)))))))))
    obtain rfl := sj h
    obtain rfl := hres _ rfl
    exact .inr (⟨_, rfl, rfl, _, σ3, fr_join ⟨rfl, trivial⟩, rfl, H.sel' [] rfl rfl⟩)
   ·replace h := bif_f hb11 h
    refine c_skip (q_blk (q_then (rg (sm (I s2) rfl (st (v := (I (w64 (s2 + 1)))) (rv_add (a := s2) (b := 1) rfl rfl) (sa (I (w64 (s2 + 1))) rfl (w_end (q_then ?_))))))))
    obtain rfl := sj h
    exact ⟨_, rfl, _, σ3, fr_join ⟨rfl, rfl, rfl, trivial⟩, rfl, H.sel' [0] rfl rfl⟩
  ·replace h := bif_f hb4 h
   refine c_exit (q_then_x (q_then_x (q_blk_hit ?_)))
   obtain rfl := sj h
   obtain rfl := hres _ rfl
   exact .inl ⟨_, rfl, rfl, _, σ3, fr_join trivial, rfl, H.sel' [] rfl rfl⟩
 ·clear hj
  have h := h'
  clear h' H
  rintro e a w (⟨t12, rfl, rfl, ρ, σ13, rfl, rfl, H⟩ | ⟨t14, rfl, rfl, ρ, σ15, rfl, rfl, H⟩)
  ·replace h := selim_l h
   refine q_then (c_seq (rg (sa (B false) rfl (w_end (q_then (c_ret ?_))))))
   obtain rfl := sj h
   exact fin_ret (v := (B false)) (results_ok Tryz.results62 (res_tmp (v := (B false)) rfl res_nil) rfl) ⟨rfl, rfl⟩ (H.sel' [] rfl rfl)
  ·replace h := selim_r h
   refine q_then_r ?_
   obtain rfl := sj h
   exact fin_ret (v := (B t14)) (results_ok Tryz.results62 (res_tmp (v := (B t14)) rfl res_nil) rfl) ⟨rfl, rfl⟩ (H.sel' [] rfl rfl)

theorem c_spec_HashNearest {Br : List (List Int)} {By : List (Int × (List Int) × Int)} {Be : List Int} {Bz : Int} {Cd : Int} {Bt : Option Addr} {Bu : Nat} {Ca : Option Addr} {Cb : Nat} {Bf : Option Addr} {Bg : Nat} {r : (List (Int × Int))} (h : M.spec_HashNearest Br By Be Bz Cd = some r) :
    Cal2 Tryz.prog 26 [(Sl Bt Br Bu), (Sl Ca By Cb), (Sl Bf Be Bg), (I Bz), (I Cd)] [Ch.ro 0 (Sl Bt Br Bu) Br, Ch.ro 0 (Sl Ca By Cb) By, Ch.ro 0 (Sl Bf Be Bg) Be] (fun n0 v L => ∃ (az1 : Option Addr), ∃ (cz2 : Nat), v = (Sl az1 r cz2) ∧ L = [Ch.own n0 n0 (Sl az1 r cz2) r]) := by
 refine cal2 (n := 63) Tryz.func26 rfl rfl rfl rfl ?_
 intro S0 σ0 n0 hn0 H
 unfold M.spec_HashNearest at h
 refine c_seq (rg (sa (.slice none 0 0) rfl (w_end (q_then (c_seq (c_seq ?_))))))
 obtain ⟨o1, hj, h'⟩ := bind_some h
 clear h
 refine c_cut (fun e a w => e = .normal ∧ ∃ (ρ : Nat → Value) (σ : St), a = fr 63 (updL ρ [(0, (Sl Bt Br Bu)), (1, (Sl Ca By Cb)), (2, (Sl Bf Be Bg)), (3, (I Bz)), (4, (I Cd)), (32, (B o1))]) ∧ w = σ.w ∧ Hp S0 σ0 σ [Ch.ro 0 (Sl Bt Br Bu) Br, Ch.ro 0 (Sl Ca By Cb) By, Ch.ro 0 (Sl Bf Be Bg) Be]) ?_ ?_
 ·clear h'
  rename _ = some o1 => h
  refine rg (sm (Sl Bt Br Bu) rfl ?_)
  revert h; refine br fun r2 hx3 h => ?_
  have hc4 := c_spec_validPlanes (Au := Bt) (Av := Bu) hx3
  refine st_call (cx_call hc4 (ent_f hc4.fn rfl) hn0 (H.sel' [0, 0, 1, 2] rfl rfl : Hp S0 σ0 _ ([_] ++ _))) wn ?_
  rintro _ σ5 ⟨_, ⟨rfl, rfl⟩, H, -⟩
  replace H : Hp _ _ _ [_, _, _] := H
  refine st (v := (B (!r2))) (rv_not rfl) (sm (B (!r2)) rfl ?_)
  rcases Bool.eq_false_or_eq_true (!r2) with hb6 | hb6
  ·replace h := bif_t hb6 h
   refine st_skip (congrArg some hb6) (st_skip (congrArg some hb6) (st_skip (congrArg some hb6) (st_skip (congrArg some hb6) (st (v := (B true)) (rv_pick_t (congrArg B hb6) rfl) (sm (B true) rfl (st_skip rfl (st_skip rfl (st_skip rfl (st (v := (B true)) (rv_pick_t rfl rfl) (sm (B true) rfl (st_skip rfl ?_)))))))))))
   refine st_skip rfl (st_skip rfl (st (v := (B true)) (rv_pick_t rfl rfl) (w_end ?_)))
   obtain rfl := sj h
   exact ⟨rfl, _, σ5, fr_join ⟨rfl, rfl, rfl, rfl, rfl, rfl, trivial⟩, rfl, H.sel' [0, 1, 2] rfl rfl⟩
  ·replace h := bif_f hb6 h
   refine st_g (v := (Sl Ca By Cb)) (congrArg some hb6) (rv_move rfl) (st_g (v := (Sl Bf Be Bg)) (congrArg some hb6) (rv_move rfl) ?_)
   revert h; refine br fun r7 hx8 h => ?_
   have hc9 := c_spec_validQuery (Au := Ca) (Av := Cb) (Bf := Bf) (Bg := Bg) hx8
   refine st_call (cx_call hc9 (ent_f hc9.fn rfl) hn0 (H.sel' [1, 2, 0, 1, 2] rfl rfl : Hp S0 σ0 _ ([_, _] ++ _))) (wanted_yes rfl (by exact (congrArg some hb6))) ?_
   rintro _ σ10 ⟨_, ⟨rfl, rfl⟩, H, -⟩
   replace H : Hp _ _ _ [_, _, _] := H
   refine st_g (v := (B (!r7))) (congrArg some hb6) (rv_not rfl) (st (v := (B (!r7))) (rv_pick_f (congrArg B hb6) rfl) (sm (B (!r7)) rfl ?_))
   rcases Bool.eq_false_or_eq_true (!r7) with hb11 | hb11
   ·replace h := bif_t hb11 h
    refine st_skip (congrArg some hb11) (st_skip (congrArg some hb11) (st_skip (congrArg some hb11) (st (v := (B true)) (rv_pick_t (congrArg B hb11) rfl) (sm (B true) rfl (st_skip rfl (st_skip rfl (st_skip rfl (st (v := (B true)) (rv_pick_t rfl rfl) (w_end ?_)))))))))
    obtain rfl := sj h
    exact ⟨rfl, _, σ10, fr_join ⟨rfl, rfl, rfl, rfl, rfl, rfl, trivial⟩, rfl, H.sel' [0, 1, 2] rfl rfl⟩
   ·replace h := bif_f hb11 h
    refine st_g (v := (I Bz)) (congrArg some hb11) (rv_move rfl) ?_
    revert h; refine br fun r12 hx13 h => ?_
    have hc14 := c_spec_inRange hx13
    refine st_call (cx_call hc14 (ent_f hc14.fn rfl) hn0 (H.sel' [0, 1, 2] rfl rfl : Hp S0 σ0 _ ([] ++ _))) (wanted_yes rfl (by exact (congrArg some hb11))) ?_
    rintro _ σ15 ⟨_, ⟨rfl, rfl⟩, H, -⟩
    replace H : Hp _ _ _ [_, _, _] := H
    refine st_g (v := (B (!r12))) (congrArg some hb11) (rv_not rfl) (st (v := (B (!r12))) (rv_pick_f (congrArg B hb11) rfl) (sm (B (!r12)) rfl ?_))
    rcases Bool.eq_false_or_eq_true (!r12) with hb16 | hb16
    ·replace h := bif_t hb16 h
     refine st_skip (congrArg some hb16) (st_skip (congrArg some hb16) (st_skip (congrArg some hb16) (st (v := (B true)) (rv_pick_t (congrArg B hb16) rfl) (w_end ?_))))
     obtain rfl := sj h
     exact ⟨rfl, _, σ15, fr_join ⟨rfl, rfl, rfl, rfl, rfl, rfl, trivial⟩, rfl, H.sel' [0, 1, 2] rfl rfl⟩
    ·replace h := bif_f hb16 h
     refine st_g (v := (I Cd)) (congrArg some hb16) (rv_move rfl) ?_
     revert h; refine br fun r17 hx18 h => ?_
     have hc19 := c_spec_inRange hx18
     refine st_call (cx_call hc19 (ent_f hc19.fn rfl) hn0 (H.sel' [0, 1, 2] rfl rfl : Hp S0 σ0 _ ([] ++ _))) (wanted_yes rfl (by exact (congrArg some hb16))) ?_
     rintro _ σ20 ⟨_, ⟨rfl, rfl⟩, H, -⟩
     replace H : Hp _ _ _ [_, _, _] := H
     refine st_g (v := (B (!r17))) (congrArg some hb16) (rv_not rfl) (st (v := (B (!r17))) (rv_pick_f (congrArg B hb16) rfl) (w_end ?_))
     obtain rfl := sj h
     exact ⟨rfl, _, σ20, fr_join ⟨rfl, rfl, rfl, rfl, rfl, rfl, trivial⟩, rfl, H.sel' [0, 1, 2] rfl rfl⟩
 ·clear hj
  have h := h'
  clear h' H
  rintro e a w ⟨rfl, ρ, σ21, rfl, rfl, H⟩
  refine q_then ?_
  refine cd_cond o1 rfl (fun hb22 => ?_) (fun hb22 => ?_)
  ·replace h := bif_t hb22 h
   refine c_seq (rg (sa (.slice none 0 0) rfl (w_end (q_then (c_ret (q_then_r ?_))))))
   replace H := H.nilOwn (Int × Int) n0 n0
   obtain rfl := sj h
   exact fin_ret (v := (.slice none 0 0)) (results_ok Tryz.results26 (res_tmp (v := (.slice none 0 0)) rfl res_nil) rfl) ⟨none, 0, rfl, rfl⟩ (H.sel' [0] rfl rfl)
  ·replace h := bif_f hb22 h
   refine c_skip (q_then (c_seq (rg (sm (Sl Bt Br Bu) rfl (sm (Sl Ca By Cb) rfl (sm (Sl Bf Be Bg) rfl (sm (I Bz) rfl ?_)))))))
   revert h; refine br fun r23 hx24 h => ?_
   have hc25 := c_spec_BucketOf (Bt := Bt) (Bu := Bu) (Ca := Ca) (Cb := Cb) (Bf := Bf) (Bg := Bg) hx24
   refine st_call (cx_call hc25 (ent_f hc25.fn rfl) hn0 (H.sel' [0, 1, 2, 0, 1, 2] rfl rfl : Hp S0 σ0 _ ([_, _, _] ++ _))) wn ?_
   rintro _ σ28 ⟨_, ⟨a26, c27, rfl, rfl⟩, H, -⟩
   replace H : Hp _ _ _ [_, _, _, _] := H
   refine sa (Sl a26 r23 c27) rfl (w_end (q_then (c_seq (rg ?_))))
   refine st_ex (ex_buildSlice (el := n0) (xs := ([] : List (Int × (List Int) × Int))) (ps := []) (cs := []) H hn0 Tryz.underlying33 ti62 rfl rfl (by kernel_rfl) (.nil) rfl) wn ?_
   rintro _ σ30 ⟨b29, rfl, H, -⟩
   refine sa (Sl (some ⟨b29, 0, none⟩) ([] : List (Int × (List Int) × Int)) 0) rfl (w_end (q_then (c_seq (c_seq (rg (sa (I 0) rfl (w_end (q_then ?_))))))))
   obtain ⟨o31, hj, h'⟩ := bind_some h
   clear h
   refine c_cut (fun e a w => e = .normal ∧ ∃ (ρ : Nat → Value) (σ : St) (aj1 : Option Addr) (cj2 : Nat), a = fr 63 (updL ρ [(2, (Sl Bf Be Bg)), (4, (I Cd)), (12, (Sl aj1 o31 cj2))]) ∧ w = σ.w ∧ Hp S0 σ0 σ [Ch.ro 0 (Sl Bf Be Bg) Be, Ch.own n0 0 (Sl aj1 o31 cj2) o31]) ?_ ?_
   ·clear h'
    rename _ = some o31 => h
    refine c_blk ?_
    replace H := H.ownLow 0 n0 0 rfl (Nat.le_refl _) (Nat.zero_le _)
    refine wp_loopM _ h (fun s32 a w => ∃ (ρ : Nat → Value) (σ : St) (aj1 : Option Addr) (cj2 : Nat), a = fr 63 (updL ρ [(1, (Sl Ca By Cb)), (2, (Sl Bf Be Bg)), (4, (I Cd)), (11, (Sl a26 r23 c27)), (12, (Sl aj1 s32.1 cj2)), (13, (I s32.2))]) ∧ w = σ.w ∧ Hp S0 σ0 σ [Ch.ro 0 (Sl Ca By Cb) By, Ch.ro 0 (Sl Bf Be Bg) Be, Ch.own n0 n0 (Sl a26 r23 c27) r23, Ch.own n0 0 (Sl aj1 s32.1 cj2) s32.1]) ⟨_, σ30, (some ⟨b29, 0, none⟩), 0, fr_join ⟨rfl, rfl, rfl, rfl, rfl, rfl, trivial⟩, rfl, H.sel' [3, 4, 1, 0] rfl rfl⟩ ?_
    clear h H
    rintro s32 a w o ⟨ρ, σ33, a34, c35, rfl, rfl, H⟩ h hres
    refine c_seq (c_seq (rg (sm (I s32.2) rfl (sm (Sl Ca By Cb) rfl (st (v := (I (By.length : Int))) (rv_len Tryz.underlying33 rfl) (st (v := (B (decide (s32.2 < (By.length : Int))))) (rv_lss (a := s32.2) (b := (By.length : Int)) rfl rfl) (w_end (q_then ?_))))))))
    refine cd_cond (decide (s32.2 < (By.length : Int))) rfl (fun hb36 => ?_) (fun hb36 => ?_)
    ·replace h := bif_t hb36 h
     refine c_skip (q_then (c_seq ?_))
     obtain ⟨o37, hj, h'⟩ := bind_some h
     clear h
     refine c_cut (fun e a w => e = .normal ∧ ∃ (ρ : Nat → Value) (σ : St) (aj1 : Option Addr) (cj2 : Nat), a = fr 63 (updL ρ [(1, (Sl Ca By Cb)), (2, (Sl Bf Be Bg)), (4, (I Cd)), (11, (Sl a26 r23 c27)), (12, (Sl aj1 o37 cj2)), (13, (I s32.2))]) ∧ w = σ.w ∧ Hp S0 σ0 σ [Ch.ro 0 (Sl Ca By Cb) By, Ch.ro 0 (Sl Bf Be Bg) Be, Ch.own n0 n0 (Sl a26 r23 c27) r23, Ch.own n0 0 (Sl aj1 o37 cj2) o37]) ?_ ?_
     ·clear h'
      rename _ = some o37 => h
      refine c_blk (c_seq (rg (sm (Sl a26 r23 c27) rfl (sm (Sl Ca By Cb) rfl (sm (I s32.2) rfl ?_)))))
      revert h; refine br fun x38 hx39 h => ?_
      obtain ⟨b41, o42, hi40, -⟩ := (H.ro 0 rfl).ix hx39
      refine st (v := (pt b41 o42)) (rv_ix Tryz.underlying33 ti62 rfl rfl hi40) (st (v := (pt b41 (o42 + 0))) (rv_fieldAddr (off := 0) (ft := 3) Tryz.underlying62 rfl ti3 rfl rfl) ?_)
      have hc43 := ((H.ro 0 rfl).at hx39 hi40).fst.int
      refine st (v := (I x38.1)) (rv_load1 Tryz.underlying3 rfl rfl hc43) ?_
      revert h; refine br fun r44 hx45 h => ?_
      have hc46 := c_spec_isIn (Au := a26) (Av := c27) hx45
      have hle := Nat.le_trans hn0 H.size
      refine st_call (cx_lend (Loan.lend Loan.nil) hc46 (ent_f hc46.fn rfl) (show Hp S0 σ0 _ ([Ch.own n0 n0 (Sl a26 r23 c27) r23] ++ ([] ++ [Ch.ro 0 (Sl Ca By Cb) By, Ch.ro 0 (Sl Bf Be Bg) Be, Ch.own n0 0 (Sl a34 s32.1 c35) s32.1])) from (H.sel' [2, 0, 1, 3] rfl rfl)) (by rintro _ _ _ ⟨rfl, rfl⟩; exact trivial)) wn ?_
      rintro _ σ47 ⟨_, ⟨rfl, rfl⟩, H, -, -⟩
      replace H : Hp _ _ _ [_, _, _, _] := H
      clear hle
      replace H : Hp _ _ _ [_, _, _, _] := H
      refine w_end (q_then ?_)
      refine cd_cond r44 rfl (fun hb48 => ?_) (fun hb48 => ?_)
      ·replace h := bif_t hb48 h
       refine rg (sm (Sl a34 s32.1 c35) rfl (sm (Sl Ca By Cb) rfl (sm (I s32.2) rfl ?_)))
       revert h; refine br fun x49 hx50 h => ?_
       obtain ⟨b52, o53, hi51, -⟩ := (H.ro 1 rfl).ix hx50
       refine st (v := (pt b52 o53)) (rv_ix Tryz.underlying33 ti62 rfl rfl hi51) ?_
       obtain ⟨_, ⟨_, _, rfl, rfl, ⟨_, _, rfl, ⟨_, rfl, hR58⟩, rfl⟩⟩, hl54, hc55⟩ := ((H.ro 1 rfl).at hx50 hi51).cells
       obtain ⟨a56, c57, rfl⟩ := hR58.isSl
       replace H := H.add (d := Ch.ro 0 (Sl a56 x49.2.1 c57) x49.2.1) hR58 (fun _ h => h)
       clear hR58
       refine st (v := (.agg #[(I x49.1), (Sl a56 x49.2.1 c57), (I x49.2.2)])) (rv_load Tryz.underlying62 rfl ti62 rfl hl54 hc55) ?_
       refine st_ex (ex_buildSlice (el := 0) (xs := ([(x49.1, x49.2.1, x49.2.2)] : List (Int × (List Int) × Int))) (ps := [(0, (.agg #[(I x49.1), (Sl a56 x49.2.1 c57), (I x49.2.2)]))]) (cs := [(I x49.1), (Sl a56 x49.2.1 c57), (I x49.2.2)]) H hn0 Tryz.underlying33 ti62 rfl rfl (by kernel_rfl) (.cons (c := [(I x49.1), (Sl a56 x49.2.1 c57), (I x49.2.2)]) ⟨[(I x49.1)], [(Sl a56 x49.2.1 c57), (I x49.2.2)], rfl, rfl, ⟨[(Sl a56 x49.2.1 c57)], [(I x49.2.2)], rfl, ⟨_, rfl, (H.ro 0 rfl)⟩, rfl⟩⟩ (.nil)) rfl) wn ?_
       rintro _ σ60 ⟨b59, rfl, H, -⟩
       revert h; refine br fun xs61 hx62 h => ?_
       refine st_ex (ex_append H (i := 5) rfl Tryz.underlying33 Tryz.underlying33 ti62 rfl rfl (by decide) (H.own 0 rfl).rd hx62 hn0 rfl rfl) wn ?_
       rintro _ σ65 ⟨a63, c64, rfl, H, -⟩
       refine sa (Sl a63 xs61 c64) rfl (w_end (q_blk ?_))
       obtain rfl := sj h
       exact ⟨rfl, _, σ65, a63, c64, fr_join ⟨rfl, rfl, rfl, rfl, rfl, rfl, trivial⟩, rfl, H.sel' [4, 5, 3, 0] rfl rfl⟩
      ·replace h := bif_f hb48 h
       refine c_skip (q_blk ?_)
       obtain rfl := sj h
       exact ⟨rfl, _, σ47, a34, c35, fr_join ⟨rfl, rfl, rfl, rfl, rfl, rfl, trivial⟩, rfl, H.sel' [1, 2, 0, 3] rfl rfl⟩
     ·clear hj
      have h := h'
      clear h' H
      rintro e a w ⟨rfl, ρ, σ66, a67, c68, rfl, rfl, H⟩
      refine q_then (rg (sm (I s32.2) rfl (st (v := (I (w64 (s32.2 + 1)))) (rv_add (a := s32.2) (b := 1) rfl rfl) (sa (I (w64 (s32.2 + 1))) rfl (w_end (q_then ?_))))))
      obtain rfl := sj h
      exact ⟨_, rfl, _, σ66, a67, c68, fr_join ⟨rfl, rfl, rfl, rfl, rfl, rfl, trivial⟩, rfl, H.sel' [0, 1, 2, 3] rfl rfl⟩
    ·replace h := bif_f hb36 h
     refine c_exit (q_then_x (q_then_x (q_blk_hit ?_)))
     obtain rfl := sj h
     obtain rfl := hres _ rfl
     exact ⟨rfl, _, σ33, a34, c35, fr_join ⟨rfl, rfl, rfl, trivial⟩, rfl, H.sel' [1, 3] rfl rfl⟩
   ·clear hj
    have h := h'
    clear h' H
    rintro e a w ⟨rfl, ρ, σ69, a70, c71, rfl, rfl, H⟩
    refine q_then (c_seq (rg (sm (Sl a70 o31 c71) rfl (sm (Sl Bf Be Bg) rfl (sm (I Cd) rfl ?_)))))
    obtain ⟨σ72, hw73, H, -⟩ := H.pub 1 rfl (Nat.zero_le _)
    rw [← hw73]; clear hw73
    revert h; refine br fun r74 hx75 h => ?_
    have hc76 := c_spec_nearest (Au := a70) (Av := c71) (Bf := Bf) (Bg := Bg) hx75
    refine st_call (cx_call hc76 (ent_f hc76.fn rfl) hn0 (H.sel' [0, 1, 0, 1] rfl rfl : Hp S0 σ0 _ ([_, _] ++ _))) wn ?_
    rintro _ σ79 ⟨_, ⟨a77, c78, rfl, rfl⟩, H, -⟩
    replace H : Hp _ _ _ [_, _, _] := H
    refine sa (Sl a77 r74 c78) rfl (w_end (q_then (c_ret ?_)))
    obtain rfl := sj h
    exact fin_ret (v := (Sl a77 r74 c78)) (results_ok Tryz.results26 (res_tmp (v := (Sl a77 r74 c78)) rfl res_nil) rfl) ⟨a77, c78, rfl, rfl⟩ (H.sel' [0] rfl rfl)

theorem c_laws_toIntSS {Aa : List (List Int)} {Ad : Option Addr} {Ae : Nat} {r : (List (List Int))} (h : M.dIntSS Aa = some r) :
    Cal2 Tryz.prog 27 [(Sl Ad Aa Ae)] [Ch.ro 0 (Sl Ad Aa Ae) Aa] (fun n0 v L => ∃ (az1 : Option Addr), ∃ (cz2 : Nat), ∃ (K : List Ch), v = (Sl az1 r cz2) ∧ L = [Ch.big K] ∧ Dp n0 (Sl az1 r cz2) r K) := by
 obtain ⟨hn, hx, rfl⟩ := dIntSS_some h
 clear h
 refine cal2 (n := 23) Tryz.func27 rfl rfl rfl rfl ?_
 intro S0 σ0 n0 hn0 H
 refine c_seq (rg (sa (.slice none 0 0) rfl (w_end (q_then (c_seq (rg (sm (Sl Ad r Ae) rfl (st (v := (I (r.length : Int))) (rv_len Tryz.underlying22 rfl) ?_))))))))
 refine st_ex (ex_make (el := n0) (z0 := (.slice none 0 0 : Value)) (zs := [(.slice none 0 0)]) H hn0 Tryz.underlying22 ti26 rfl rfl (⟨rfl, rfl⟩) (by decide) (gmake_nat _ _ hn) rfl rfl) (wanted_none _ rfl _) ?_
 rintro _ σ6 ⟨b3, c4, rfl, ht5, H, -⟩
 rw [show (Sl (some ⟨b3, 0, none⟩) (List.replicate r.length (.slice none 0 0 : Value)) c4) = (Sl (some ⟨b3, 0, none⟩) r c4) from sl_len (by simp)] at H ⊢
 refine sa (Sl (some ⟨b3, 0, none⟩) r c4) rfl (w_end (q_then (c_seq (c_seq (rg (sa (I 0) rfl (w_end (q_then ?_))))))))
 refine c_cut (fun e a w => e = .normal ∧ ∃ (ρ : Nat → Value) (σ : St) (ps : List ((List Int) × Value)), a = fr 23 (updL ρ [(3, (Sl (some ⟨b3, 0, none⟩) r c4))]) ∧ w = σ.w ∧ ps.map (·.1) = r ∧ Hp S0 σ0 σ [Ch.own n0 n0 (Sl (some ⟨b3, 0, none⟩) r c4) (ps.map dsh), Ch.big (ps.map (dow n0))]) ?_ ?_
 ·refine c_blk ?_
  refine wp_loop_ghost (fun k a w => ∃ (i : Nat) (ρ : Nat → Value) (σ : St) (ps : List ((List Int) × Value)), i + k = r.length ∧ ps.length = i ∧ ps.map (·.1) = r.take i ∧ a = fr 23 (updL ρ [(0, (Sl Ad r Ae)), (3, (Sl (some ⟨b3, 0, none⟩) r c4)), (4, (I (i : Int)))]) ∧ w = σ.w ∧ Hp S0 σ0 σ [Ch.own n0 n0 (Sl (some ⟨b3, 0, none⟩) r c4) (ps.map dsh ++ List.replicate k (.slice none 0 0 : Value)), Ch.ro 0 (Sl Ad r Ae) r, Ch.big (ps.map (dow n0))]) r.length ⟨0, _, σ6, [], by omega, rfl, rfl, fr_join ⟨rfl, rfl, rfl, trivial⟩, rfl, H.bigNil.sel' [1, 2, 0] rfl rfl⟩ ?_
  clear H
  rintro k _ _ ⟨i, ρ, σ9, ps, hik, hps, hpr, rfl, rfl, H⟩
  refine c_seq (c_seq (rg (sm (I (i : Int)) rfl (sm (Sl Ad r Ae) rfl (st (v := (I (r.length : Int))) (rv_len Tryz.underlying22 rfl) (st (v := (B (decide ((i : Int) < (r.length : Int))))) (rv_lss (a := (i : Int)) (b := (r.length : Int)) rfl rfl) (w_end (q_then ?_))))))))
  refine cd_cond (decide ((i : Int) < (r.length : Int))) rfl (fun hb => ?_) (fun hb => ?_)
  ·have hlt : i < r.length := by have := of_decide_eq_true hb; omega
   obtain ⟨m, rfl⟩ : ∃ m, k = m + 1 := ⟨k - 1, by omega⟩
   refine c_skip (q_then (c_seq (c_blk (rg (sm (Sl (some ⟨b3, 0, none⟩) r c4) rfl (sm (I (i : Int)) rfl (sm (Sl Ad r Ae) rfl (sm (I (i : Int)) rfl ?_))))))))
   have hx14 : gidx r (i : Int) = some r[i] := gidx_at hlt
   have hx24 := hx _ (List.getElem_mem hlt)
   have hpt : (ps.map (·.1)) ++ [r[i]] = r.take (i + 1) := by rw [hpr, List.take_succ_eq_append_getElem hlt]
   generalize r[i] = x13 at hx14 hx24 hpt
   obtain ⟨b16, o17, hi15, -⟩ := (H.ro 1 rfl).ix hx14
   refine st (v := (pt b16 o17)) (rv_ix Tryz.underlying22 ti26 rfl rfl hi15) ?_
   obtain ⟨_, ⟨_, rfl, hR22⟩, hl18, hc19⟩ := ((H.ro 1 rfl).at hx14 hi15).cells
   obtain ⟨a20, c21, rfl⟩ := hR22.isSl
   replace H := H.add (d := Ch.ro 0 (Sl a20 x13 c21) x13) hR22 (fun _ h => h)
   clear hR22
   have hc20 := hc19 0 (by simp)
   refine st (v := (Sl a20 x13 c21)) (rv_load1 Tryz.underlying26 rfl rfl hc20) ?_
   have hc25 := c_laws_toIntS (Ad := a20) (Ae := c21) hx24
   refine st_call (cx_call hc25 (ent_f hc25.fn rfl) hn0 (H.sel' [0, 1, 2, 3] rfl rfl : Hp S0 σ0 _ ([_] ++ _))) (wanted_none _ rfl _) ?_
   rintro _ σ29 ⟨_, ⟨a26, c27, rfl, rfl, ht28⟩, H, -⟩
   replace H : Hp _ _ _ [_, _, _, _] := H
   have hx31 := gidx_step (ps.map dsh) (.slice none 0 0 : Value) m (i : Int) (by simp [hps])
   obtain ⟨b33, o34, hi32, -⟩ := (H.own 1 rfl).ix hx31
   refine st (v := (pt b33 o34)) (rv_ix Tryz.underlying22 ti26 rfl rfl hi32) ?_
   refine st_exS (ex_store_own (e' := (Sl a26 x13 c27 : Value)) (vs := [(Sl a26 x13 c27)]) (k := 0) H (i := 1) rfl ti26 hx31 hi32 rfl rfl rfl rfl rfl (Nat.le_of_ble_eq_true rfl) (by simp [plain]) (by rintro _ ⟨rfl, -⟩; exact ⟨rfl, rfl⟩)) (wanted_none _ rfl _) ?_
   rintro σ40 ⟨H, -⟩
   refine w_end (q_blk (q_then (rg (sm (I (i : Int)) rfl (st (v := (I (w64 ((i : Int) + 1)))) (rv_add (a := (i : Int)) (b := 1) rfl rfl) (sa (I (w64 ((i : Int) + 1))) rfl (w_end ?_)))))))
   have e1 : w64 ((i : Int) + 1) = ((i + 1 : Nat) : Int) := w64_id (by omega) (by omega)
   rw [e1]
   refine q_then ?_
   have hset := set_step (ps.map dsh) (.slice none 0 0 : Value) (Sl a26 x13 c27) m
   rw [List.length_map, hps] at hset
   refine ⟨m, by omega, i + 1, _, σ40, ps ++ [(x13, (Sl a26 x13 c27))], by omega, by simp [hps], by simpa using hpt, fr_join ⟨rfl, rfl, rfl, trivial⟩, rfl, ?_⟩
   replace H := Hp.bigSnoc (H.sel' [1, 3, 0, 2] rfl rfl)
   replace H := H.sel' [1, 2, 0] rfl rfl
   simp only [Int.toNat_natCast, hset] at H
   rw [List.map_append, List.map_append]
   exact H
  ·have hlt : ¬ i < r.length := by have := of_decide_eq_false hb; omega
   obtain rfl : k = 0 := by omega
   obtain rfl : i = r.length := by omega
   refine c_exit (q_then_x (q_then_x (q_blk_hit ?_)))
   rw [List.take_length] at hpr
   simp only [List.replicate_zero, List.append_nil] at H
   exact ⟨rfl, _, σ9, ps, fr_join ⟨rfl, trivial⟩, rfl, hpr, H.sel' [0, 2] rfl rfl⟩
 ·clear H
  rintro e a w ⟨rfl, ρ, σ41, ps, rfl, rfl, hps, H⟩
  refine q_then (c_seq (rg (sm (Sl (some ⟨b3, 0, none⟩) r c4) rfl (sa (Sl (some ⟨b3, 0, none⟩) r c4) rfl (w_end (q_then (c_ret ?_)))))))
  exact fin_ret (v := (Sl (some ⟨b3, 0, none⟩) r c4)) (results_ok Tryz.results27 (res_tmp (v := (Sl (some ⟨b3, 0, none⟩) r c4)) rfl res_nil) rfl) ⟨(some ⟨b3, 0, none⟩), c4, _, rfl, rfl, ⟨ps, hps.symm, rfl⟩⟩ H.bigCons


theorem c_impl_validCount {Ce : Int}  {r : Bool} (h : M.impl_validCount Ce = some r) :
    Cal2 Tryz.prog 53 [(I Ce)] [] (fun n0 v L => v = (B r) ∧ L = []) := by
 refine cal2 (n := 9) Tryz.func53 rfl rfl rfl rfl ?_
 intro S0 σ0 n0 hn0 H
 unfold M.impl_validCount at h
 refine c_seq (rg (sa (B false) rfl (w_end (q_then (c_seq (rg (sm (I Ce) rfl (st (v := (B (decide (1 ≤ Ce)))) (rv_geq (a := Ce) (b := 1) rfl rfl) (sm (B (decide (1 ≤ Ce))) rfl ?_)))))))))
 rcases Bool.eq_false_or_eq_true (decide (1 ≤ Ce)) with hb1 | hb1
 ·replace h := bif_t hb1 h
  refine st_g (v := (I Ce)) (congrArg some hb1) (rv_move rfl) (st_g (v := (B (decide (Ce ≤ 16)))) (congrArg some hb1) (rv_leq (a := Ce) (b := 16) rfl rfl) (st (v := (B (decide (Ce ≤ 16)))) (rv_pick_t (congrArg B hb1) rfl) (sa (B (decide (Ce ≤ 16))) rfl (w_end (q_then (c_ret ?_))))))
  obtain rfl := sj h
  exact fin_ret (v := (B (decide (Ce ≤ 16)))) (results_ok Tryz.results53 (res_tmp (v := (B (decide (Ce ≤ 16)))) rfl res_nil) rfl) ⟨rfl, rfl⟩ (H.sel' [] rfl rfl)
 ·replace h := bif_f hb1 h
  refine st_skip (congrArg some hb1) (st_skip (congrArg some hb1) (st (v := (B false)) (rv_pick_f (congrArg B hb1) rfl) (sa (B false) rfl (w_end (q_then (c_ret ?_))))))
  obtain rfl := sj h
  exact fin_ret (v := (B false)) (results_ok Tryz.results53 (res_tmp (v := (B false)) rfl res_nil) rfl) ⟨rfl, rfl⟩ (H.sel' [] rfl rfl)

theorem c_impl_hitHeap_Push__impl_Hit {Cf : List (Int × Int)} {Cg : Int × Int} {Ci : Option Addr} {Cj : Nat} {Ck Cl Cm : Nat} {Cn Cp : List Value} {r : (List (Int × Int))} (h : M.impl_hitHeap_Push__impl_Hit Cf Cg = some r) :
    Cal2 Tryz.prog 189 [(pt Cl Cm), (.iface 67 (.agg #[(I Cg.1), (I Cg.2)]))] [Ch.bx Ck Cl Cm [(Sl Ci Cf Cj)] Cn Cp, Ch.own 0 0 (Sl Ci Cf Cj) Cf] (fun n0 v L => ∃ (az1 : Option Addr), ∃ (cz2 : Nat), v = (.tuple #[]) ∧ L = [Ch.bx Ck Cl Cm [(Sl az1 r cz2)] Cn Cp, Ch.own 0 0 (Sl az1 r cz2) r]) := by
 refine cal2 (n := 13) Tryz.func189 rfl rfl rfl rfl ?_
 intro S0 σ0 n0 hn0 H
 unfold M.impl_hitHeap_Push__impl_Hit at h
 have hc1 := H.cell (u := (Sl Ci Cf Cj)) (o' := Cm) 0 0 rfl rfl rfl
 revert h; refine br fun xs3 hx4 h => ?_
 have Hs := H
 refine rg2 (σ := σ0) (Nm := (Nat) × (Option Addr) × (Nat)) 8 [6, 7] [[false, false], [true, false], [true, true]] [[(0, 0), (1, 1), (2, 2)], [(0, 0), (1, 1)], [(0, 0), (1, 1)], [(0, 0), (1, 1)], [(0, 0)], [(0, 0)], [(0, 1)], [(1, 2)]] 2 [fun ((b2, a5, c6) : (Nat) × (Option Addr) × (Nat)) => fun σm => Hp S0 σ0 σm [Ch.bx Ck Cl Cm [(Sl Ci Cf Cj)] Cn Cp, Ch.own 0 0 (Sl Ci Cf Cj) Cf] ∧ Md (cov []) σ0 σm, fun ((b2, a5, c6) : (Nat) × (Option Addr) × (Nat)) => fun σm => Hp S0 σ0 σm [Ch.own n0 n0 (Sl (some ⟨b2, 0, none⟩) ([(Cg.1, Cg.2)] : List (Int × Int)) 1) ([(Cg.1, Cg.2)] : List (Int × Int)), Ch.bx Ck Cl Cm [(Sl Ci Cf Cj)] Cn Cp, Ch.own 0 0 (Sl Ci Cf Cj) Cf] ∧ Md (cov []) σ0 σm, fun ((b2, a5, c6) : (Nat) × (Option Addr) × (Nat)) => fun σm => Hp S0 σ0 σm [Ch.own 0 0 (Sl a5 xs3 c6) xs3, Ch.own n0 n0 (Sl (some ⟨b2, 0, none⟩) ([(Cg.1, Cg.2)] : List (Int × Int)) 1) ([(Cg.1, Cg.2)] : List (Int × Int)), Ch.bx Ck Cl Cm [(Sl Ci Cf Cj)] Cn Cp] ∧ Md (fun i => (cov []) i ∨ (fun b => blk (Sl Ci Cf Cj) = some b) i) σ0 σm] [fun ((b2, a5, c6) : (Nat) × (Option Addr) × (Nat)) => (pt Cl Cm), fun ((b2, a5, c6) : (Nat) × (Option Addr) × (Nat)) => (pt Cl Cm), fun ((b2, a5, c6) : (Nat) × (Option Addr) × (Nat)) => (pt Cl Cm), fun ((b2, a5, c6) : (Nat) × (Option Addr) × (Nat)) => (Sl Ci Cf Cj), fun ((b2, a5, c6) : (Nat) × (Option Addr) × (Nat)) => (.iface 67 (.agg #[(I Cg.1), (I Cg.2)])), fun ((b2, a5, c6) : (Nat) × (Option Addr) × (Nat)) => (.agg #[(I Cg.1), (I Cg.2)]), fun ((b2, a5, c6) : (Nat) × (Option Addr) × (Nat)) => (Sl (some ⟨b2, 0, none⟩) ([(Cg.1, Cg.2)] : List (Int × Int)) 1), fun ((b2, a5, c6) : (Nat) × (Option Addr) × (Nat)) => (Sl a5 xs3 c6)] (0, none, 0) (by kernel_rfl) (by kernel_rfl) ?_ ?_ ?_
 ·intro σm m0
  exact ⟨H.grow (m0.mono fun _ h => h.elim), m0⟩
 ·refine ac rfl (by
    intro k; rintro ⟨b2, a5, c6⟩ ρ σm hJ hoff hdep
    have e0 := look_off (N := 13) (hoff 0 rfl) rfl
    exact dp_v (v := (pt Cl Cm)) wn (rv_move e0) rfl hJ) ?_
  refine ac rfl (by
    intro k; rintro ⟨b2, a5, c6⟩ ρ σm hJ hoff hdep
    have e0 := look_off (N := 13) (hoff 0 rfl) rfl
    exact dp_v (v := (pt Cl Cm)) wn (rv_move e0) rfl hJ) ?_
  refine ac rfl (by
    intro k; rintro ⟨b2, a5, c6⟩ ρ σm hJ hoff hdep
    have e5 := hdep 1 rfl rfl 5 rfl
    exact dp_v (v := (pt Cl Cm)) wn (rv_nilCheck e5) rfl hJ) ?_
  refine all_cons (by
    refine ⟨?_, ?_⟩
    ·rintro ⟨b2, a5, c6⟩ ρ σm hJ hoff hdep
     have e6 := hdep 2 rfl rfl 6 rfl
     obtain ⟨H, m⟩ := id hJ
     have hc1 := H.cell (u := (Sl Ci Cf Cj)) (o' := Cm) 0 0 rfl rfl rfl
     exact dp_v (v := (Sl Ci Cf Cj)) wn (rv_load1 Tryz.underlying104 rfl e6 hc1) rfl hJ
    refine ⟨?_, ?_⟩
    ·rintro ⟨b2, a5, c6⟩ ρ σm hJ hoff hdep
     have e6 := hdep 2 rfl rfl 6 rfl
     obtain ⟨H, m⟩ := id hJ
     have hc1 := H.cell (u := (Sl Ci Cf Cj)) (o' := Cm) 1 0 rfl rfl rfl
     exact dp_v (v := (Sl Ci Cf Cj)) wn (rv_load1 Tryz.underlying104 rfl e6 hc1) rfl hJ
    trivial) ?_
  refine ac rfl (by
    intro k; rintro ⟨b2, a5, c6⟩ ρ σm hJ hoff hdep
    have e1 := look_off (N := 13) (hoff 1 rfl) rfl
    exact dp_v (v := (.iface 67 (.agg #[(I Cg.1), (I Cg.2)]))) wn (rv_move e1) rfl hJ) ?_
  refine ac rfl (by
    intro k; rintro ⟨b2, a5, c6⟩ ρ σm hJ hoff hdep
    have e8 := hdep 4 rfl rfl 8 rfl
    exact dp_v (v := (.agg #[(I Cg.1), (I Cg.2)])) wn (rv_typeAssert Tryz.underlying67 rfl e8) rfl hJ) ?_
  refine all_cons (by
    refine ⟨?_, ?_⟩
    ·rintro ⟨b2, a5, c6⟩ ρ σm hJ hoff hdep
     have e9 : look 13 ρ 9 = (.agg #[(I Cg.1), (I Cg.2)]) := hdep 5 rfl rfl 9 rfl
     obtain ⟨H, m⟩ := id hJ
     refine dp_ex wn (ex_buildSlice (el := n0) (xs := ([(Cg.1, Cg.2)] : List (Int × Int))) (ps := [(0, (.agg #[(I Cg.1), (I Cg.2)]))]) (cs := [(I Cg.1), (I Cg.2)]) H hn0 Tryz.underlying104 ti67 rfl (by show [(0, look 13 ρ 9)] = _; rw [e9]) (by kernel_rfl) (.cons (c := [(I Cg.1), (I Cg.2)]) ⟨[(I Cg.1)], [(I Cg.2)], rfl, rfl, rfl⟩ (.nil)) rfl) ?_
     rintro _ σq ⟨b2x, rfl, H2, m2⟩
     exact ⟨_, (b2x, a5, c6), rfl, rfl, ⟨H2.sel' [0, 1, 2] rfl rfl, m.comp0 m2⟩, stab [0, 1, 2, 3, 4, 5] (by kernel_rfl) ⟨rfl, rfl, rfl, rfl, rfl, rfl, trivial⟩⟩
    trivial) ?_
  refine all_cons (by
    refine ⟨?_, ?_⟩
    ·rintro ⟨b2, a5, c6⟩ ρ σm hJ hoff hdep
     have e7 := hdep 3 rfl rfl 7 rfl
     have e10 := hdep 6 rfl rfl 10 rfl
     obtain ⟨H, m⟩ := id hJ
     refine dp_ex wn (ex_append H (i := 2) rfl Tryz.underlying104 Tryz.underlying104 ti67 rfl rfl (by decide) ((H.own 0 rfl).rd.sc) hx4 (Nat.zero_le _) e7 e10) ?_
     rintro _ σq ⟨a5x, c6x, rfl, H2, m2⟩
     exact ⟨_, (b2, a5x, c6x), rfl, rfl, ⟨H2.sel' [0, 1, 2] rfl rfl, m.comp m2⟩, stab [0, 1, 2, 3, 4, 5, 6] (by kernel_rfl) ⟨rfl, rfl, rfl, rfl, rfl, rfl, rfl, trivial⟩⟩
    trivial) ?_
  exact all_nil
 ·rintro ⟨b2, a5, c6⟩ ρ σ7 hJ hoff hrel
  have e0 := look_off (N := 13) (hoff 0 rfl) rfl
  have e4 := hrel 0 rfl 4 rfl
  have e11 := hrel 7 rfl 11 rfl
  obtain ⟨H, -⟩ := (show Hp S0 σ0 σ7 [Ch.own 0 0 (Sl a5 xs3 c6) xs3, Ch.own n0 n0 (Sl (some ⟨b2, 0, none⟩) ([(Cg.1, Cg.2)] : List (Int × Int)) 1) ([(Cg.1, Cg.2)] : List (Int × Int)), Ch.bx Ck Cl Cm [(Sl Ci Cf Cj)] Cn Cp] ∧ Md (fun i => (cov []) i ∨ (fun b => blk (Sl Ci Cf Cj) = some b) i) σ0 σ7 from hJ)
  clear hJ Hs
  rw [fr_lookL (L := [(0, (pt Cl Cm)), (4, (pt Cl Cm)), (11, (Sl a5 xs3 c6))]) ⟨e0, e4, e11, trivial⟩]
  clear hoff hrel e0 e4 e11
  refine st (v := (pt Cl Cm)) (rv_nilCheck rfl) ?_
  refine st_exS (ex_store_box (k := 0) (cs := [(Sl Ci Cf Cj)]) (vs := [(Sl a5 xs3 c6)]) (cs' := [(Sl a5 xs3 c6)]) H (i := 2) rfl ti104 rfl rfl rfl rfl rfl (Nat.le_of_ble_eq_true rfl) (by simp [plain]) rfl) wn ?_
  rintro σ8 ⟨H, -⟩
  refine w_end ?_
  obtain rfl := sj h
  exact fin_end (v := (.tuple #[])) (results_ok Tryz.results189 res_nil rfl) ⟨a5, c6, rfl, rfl⟩ (H.sel' [0, 1] rfl rfl)

theorem c_impl_hitHeap_Len {Cf : List (Int × Int)} {Ci : Option Addr} {Cj : Nat} {r : Int} (h : M.impl_hitHeap_Len Cf = some r) :
    Cal2 Tryz.prog 184 [(Sl Ci Cf Cj)] [Ch.ro 0 (Sl Ci Cf Cj) Cf] (fun n0 v L => v = (I r) ∧ L = []) := by
 refine cal2 (n := 5) Tryz.func184 rfl rfl rfl rfl ?_
 intro S0 σ0 n0 hn0 H
 unfold M.impl_hitHeap_Len at h
 refine c_seq (rg (sa (I 0) rfl (w_end (q_then (c_seq (rg (sm (Sl Ci Cf Cj) rfl (st (v := (I (Cf.length : Int))) (rv_len Tryz.underlying104 rfl) (sa (I (Cf.length : Int)) rfl (w_end (q_then ?_)))))))))))
 refine c_ret ?_
 obtain rfl := sj h
 exact fin_ret (v := (I (Cf.length : Int))) (results_ok Tryz.results184 (res_tmp (v := (I (Cf.length : Int))) rfl res_nil) rfl) ⟨rfl, rfl⟩ (H.sel' [] rfl rfl)

theorem c_cmp_isNaN_int {Az : Int}  {r : Bool} (h : M.cmp_isNaN_int Az = some r) :
    Cal2 Tryz.prog 122 [(I Az)] [] (fun n0 v L => v = (B r) ∧ L = []) := by
 refine cal2 (n := 6) Tryz.func122 rfl rfl rfl rfl ?_
 intro S0 σ0 n0 hn0 H
 unfold M.cmp_isNaN_int at h
 refine c_seq (rg (sa (B false) rfl (w_end (q_then (c_seq (rg (sm (I Az) rfl (sm (I Az) rfl (st (v := (B (Az != Az))) (rv_neq (a := Az) (b := Az) rfl rfl) (sa (B (Az != Az)) rfl (w_end ?_)))))))))))
 refine q_then (c_ret ?_)
 obtain rfl := sj h
 exact fin_ret (v := (B (Az != Az))) (results_ok Tryz.results122 (res_tmp (v := (B (Az != Az))) rfl res_nil) rfl) ⟨rfl, rfl⟩ (H.sel' [] rfl rfl)

theorem c_cmp_Compare_int {Az : Int} {Cq : Int}  {r : Int} (h : M.cmp_Compare_int Az Cq = some r) :
    Cal2 Tryz.prog 100 [(I Az), (I Cq)] [] (fun n0 v L => v = (I r) ∧ L = []) := by
 refine cal2 (n := 20) Tryz.func100 rfl rfl rfl rfl ?_
 intro S0 σ0 n0 hn0 H
 unfold M.cmp_Compare_int at h
 refine c_seq (rg (sa (I 0) rfl (w_end (q_then (c_seq (rg (sm (I Az) rfl ?_)))))))
 revert h; refine br fun r1 hx2 h => ?_
 have hc3 := c_cmp_isNaN_int hx2
 refine st_call (cx_call hc3 (ent_f hc3.fn rfl) hn0 (H.sel' [] rfl rfl : Hp S0 σ0 _ ([] ++ _))) wn ?_
 rintro _ σ4 ⟨_, ⟨rfl, rfl⟩, H, -⟩
 replace H : Hp _ _ _ [] := H
 refine sa (B r1) rfl (w_end (q_then (c_seq (rg (sm (I Cq) rfl ?_)))))
 revert h; refine br fun r5 hx6 h => ?_
 have hc7 := c_cmp_isNaN_int hx6
 refine st_call (cx_call hc7 (ent_f hc7.fn rfl) hn0 (H.sel' [] rfl rfl : Hp S0 σ0 _ ([] ++ _))) wn ?_
 rintro _ σ8 ⟨_, ⟨rfl, rfl⟩, H, -⟩
 replace H : Hp _ _ _ [] := H
 refine sa (B r5) rfl (w_end (q_then (c_seq (c_seq (rg (sm (B r1) rfl (w_end (q_then ?_))))))))
 refine cd_cond r1 rfl (fun hb9 => ?_) (fun hb9 => ?_)
 ·replace h := bif_t hb9 h
  refine c_seq (c_seq (rg (sm (B r5) rfl (w_end (q_then ?_)))))
  refine cd_cond r5 rfl (fun hb10 => ?_) (fun hb10 => ?_)
  ·replace h := bif_t hb10 h
   refine c_seq (rg (sa (I 0) rfl (w_end (q_then (c_ret (q_then_r (q_then_r ?_)))))))
   obtain rfl := sj h
   exact fin_ret (v := (I 0)) (results_ok Tryz.results100 (res_tmp (v := (I 0)) rfl res_nil) rfl) ⟨rfl, rfl⟩ (H.sel' [] rfl rfl)
  ·replace h := bif_f hb10 h
   refine c_skip (q_then (c_seq (rg (sa (I (-1)) rfl (w_end (q_then (c_ret (q_then_r ?_))))))))
   obtain rfl := sj h
   exact fin_ret (v := (I (-1))) (results_ok Tryz.results100 (res_tmp (v := (I (-1))) rfl res_nil) rfl) ⟨rfl, rfl⟩ (H.sel' [] rfl rfl)
 ·replace h := bif_f hb9 h
  refine c_skip (q_then (c_seq (c_seq (rg (sm (B r5) rfl (w_end (q_then ?_)))))))
  refine cd_cond r5 rfl (fun hb11 => ?_) (fun hb11 => ?_)
  ·replace h := bif_t hb11 h
   refine c_seq (rg (sa (I 1) rfl (w_end (q_then (c_ret (q_then_r ?_))))))
   obtain rfl := sj h
   exact fin_ret (v := (I 1)) (results_ok Tryz.results100 (res_tmp (v := (I 1)) rfl res_nil) rfl) ⟨rfl, rfl⟩ (H.sel' [] rfl rfl)
  ·replace h := bif_f hb11 h
   refine c_skip (q_then (c_seq (c_seq (rg (sm (I Az) rfl (sm (I Cq) rfl (st (v := (B (decide (Az < Cq)))) (rv_lss (a := Az) (b := Cq) rfl rfl) (w_end (q_then ?_)))))))))
   refine cd_cond (decide (Az < Cq)) rfl (fun hb12 => ?_) (fun hb12 => ?_)
   ·replace h := bif_t hb12 h
    refine c_seq (rg (sa (I (-1)) rfl (w_end (q_then (c_ret (q_then_r ?_))))))
    obtain rfl := sj h
    exact fin_ret (v := (I (-1))) (results_ok Tryz.results100 (res_tmp (v := (I (-1))) rfl res_nil) rfl) ⟨rfl, rfl⟩ (H.sel' [] rfl rfl)
   ·replace h := bif_f hb12 h
    refine c_skip (q_then (c_seq (c_seq (rg (sm (I Az) rfl (sm (I Cq) rfl (st (v := (B (decide (Cq < Az)))) (rv_gtr (a := Az) (b := Cq) rfl rfl) (w_end (q_then ?_)))))))))
    refine cd_cond (decide (Cq < Az)) rfl (fun hb13 => ?_) (fun hb13 => ?_)
    ·replace h := bif_t hb13 h
     refine c_seq (rg (sa (I 1) rfl (w_end (q_then (c_ret (q_then_r ?_))))))
     obtain rfl := sj h
     exact fin_ret (v := (I 1)) (results_ok Tryz.results100 (res_tmp (v := (I 1)) rfl res_nil) rfl) ⟨rfl, rfl⟩ (H.sel' [] rfl rfl)
    ·replace h := bif_f hb13 h
     refine c_skip (q_then (c_seq (rg (sa (I 0) rfl (w_end (q_then (c_ret ?_)))))))
     obtain rfl := sj h
     exact fin_ret (v := (I 0)) (results_ok Tryz.results100 (res_tmp (v := (I 0)) rfl res_nil) rfl) ⟨rfl, rfl⟩ (H.sel' [] rfl rfl)

theorem c_cmp_Or_int {Cr : List Int} {Cs : Option Addr} {Ct : Nat} {r : Int} (h : M.cmp_Or_int Cr = some r) :
    Cal2 Tryz.prog 103 [(Sl Cs Cr Ct)] [Ch.ro 0 (Sl Cs Cr Ct) Cr] (fun n0 v L => v = (I r) ∧ L = []) := by
 refine cal2 (n := 18) Tryz.func103 rfl rfl rfl rfl ?_
 intro S0 σ0 n0 hn0 H
 unfold M.cmp_Or_int at h
 refine c_seq (rg (sa (I 0) rfl (w_end (q_then (c_seq (rg (sa (I 0) rfl (w_end (q_then (c_seq (c_seq ?_)))))))))))
 refine rg (sm (Sl Cs Cr Ct) rfl (st (v := (I (Cr.length : Int))) (rv_len Tryz.underlying26 rfl) (sm (I 0) rfl (w_end (q_then ?_)))))
 obtain ⟨o1, hj, h'⟩ := bind_some h
 clear h
 refine c_cut (fun e a w => (∃ t, o1 = (.inl t) ∧ e = .normal ∧ ∃ (ρ : Nat → Value) (σ : St), a = fr 18 (updL ρ [(3, (I 0))]) ∧ w = σ.w ∧ Hp S0 σ0 σ []) ∨ (∃ t, o1 = (.inr t) ∧ e = .ret ∧ ∃ (ρ : Nat → Value) (σ : St), a = fr 18 (updL ρ [(2, (I t))]) ∧ w = σ.w ∧ Hp S0 σ0 σ [])) ?_ ?_
 ·clear h'
  rename _ = some o1 => h
  refine c_blk (wp_loopM _ h (fun s2 a w => ∃ (ρ : Nat → Value) (σ : St), a = fr 18 (updL ρ [(3, (I 0)), (6, (Sl Cs Cr Ct)), (7, (I (Cr.length : Int))), (8, (I s2))]) ∧ w = σ.w ∧ Hp S0 σ0 σ [Ch.ro 0 (Sl Cs Cr Ct) Cr]) ⟨_, σ0, fr_join ⟨rfl, rfl, rfl, rfl, trivial⟩, rfl, H.sel' [0] rfl rfl⟩ ?_)
  clear h H
  rintro s2 a w o ⟨ρ, σ3, rfl, rfl, H⟩ h hres
  refine c_seq (rg (st (v := (B (decide (s2 < (Cr.length : Int))))) (rv_lss (a := s2) (b := (Cr.length : Int)) rfl rfl) (w_end (q_then (c_seq ?_)))))
  refine cd_cond (decide (s2 < (Cr.length : Int))) rfl (fun hb4 => ?_) (fun hb4 => ?_)
  ·replace h := bif_t hb4 h
   refine c_skip (q_then (c_seq (c_blk (c_seq (rg ?_)))))
   revert h; refine br fun x5 hx6 h => ?_
   obtain ⟨b8, o9, hi7, -⟩ := (H.ro 0 rfl).ix hx6
   refine st (v := (pt b8 o9)) (rv_ix Tryz.underlying26 ti3 rfl rfl hi7) ?_
   have hc10 := ((H.ro 0 rfl).at hx6 hi7).int
   refine st (v := (I x5)) (rv_load1 Tryz.underlying3 rfl rfl hc10) (sa (I x5) rfl (w_end (q_then (c_seq (rg (sm (I x5) rfl (sm (I 0) rfl (st (v := (B (x5 != 0))) (rv_neq (a := x5) (b := 0) rfl rfl) (w_end (q_then ?_))))))))))
   refine cd_cond (x5 != 0) rfl (fun hb11 => ?_) (fun hb11 => ?_)
   ·replace h := bif_t hb11 h
    refine c_seq (rg (sm (I x5) rfl (sa (I x5) rfl (w_end (q_then (c_ret (q_blk_r (q_then_r (q_then_r (q_blk_r ?_))))))))))
    obtain rfl := sj h
    obtain rfl := hres _ rfl
    exact .inr (⟨_, rfl, rfl, _, σ3, fr_join ⟨rfl, trivial⟩, rfl, H.sel' [] rfl rfl⟩)
   ·replace h := bif_f hb11 h
    refine c_skip (q_blk (q_then (rg (st (v := (I (w64 (s2 + 1)))) (rv_add (a := s2) (b := 1) rfl rfl) (sm (I (w64 (s2 + 1))) rfl (w_end (q_then ?_)))))))
    obtain rfl := sj h
    exact ⟨_, rfl, _, σ3, fr_join ⟨rfl, rfl, rfl, rfl, trivial⟩, rfl, H.sel' [0] rfl rfl⟩
  ·replace h := bif_f hb4 h
   refine c_exit (q_then_x (q_then_x (q_blk_hit ?_)))
   obtain rfl := sj h
   obtain rfl := hres _ rfl
   exact .inl ⟨_, rfl, rfl, _, σ3, fr_join ⟨rfl, trivial⟩, rfl, H.sel' [] rfl rfl⟩
 ·clear hj
  have h := h'
  clear h' H
  rintro e a w (⟨t12, rfl, rfl, ρ, σ13, rfl, rfl, H⟩ | ⟨t14, rfl, rfl, ρ, σ15, rfl, rfl, H⟩)
  ·replace h := selim_l h
   refine q_then (c_seq (rg (sm (I 0) rfl (sa (I 0) rfl (w_end (q_then (c_ret ?_)))))))
   obtain rfl := sj h
   exact fin_ret (v := (I 0)) (results_ok Tryz.results103 (res_tmp (v := (I 0)) rfl res_nil) rfl) ⟨rfl, rfl⟩ (H.sel' [] rfl rfl)
  ·replace h := selim_r h
   refine q_then_r ?_
   obtain rfl := sj h
   exact fin_ret (v := (I t14)) (results_ok Tryz.results103 (res_tmp (v := (I t14)) rfl res_nil) rfl) ⟨rfl, rfl⟩ (H.sel' [] rfl rfl)

theorem c_impl_compareHits {Aa : Int × Int} {Ah : Int × Int}  {r : Int} (h : M.impl_compareHits Aa Ah = some r) :
    Cal2 Tryz.prog 73 [(.agg #[(I Aa.1), (I Aa.2)]), (.agg #[(I Ah.1), (I Ah.2)])] [] (fun n0 v L => v = (I r) ∧ L = []) := by
 refine cal2 (n := 17) Tryz.func73 rfl rfl rfl rfl ?_
 intro S0 σ0 n0 hn0 H
 unfold M.impl_compareHits at h
 refine c_seq (rg (st_ex (ex_box (cs := [(I Aa.1), (I Aa.2)]) H hn0 rfl rfl) wn ?_))
 rintro _ σ2 ⟨b1, rfl, H, -⟩
 refine st_ex (ex_box (cs := [(I Ah.1), (I Ah.2)]) H hn0 rfl rfl) wn ?_
 rintro _ σ4 ⟨b3, rfl, H, -⟩
 refine sa (I 0) rfl (w_end (q_then (c_seq ?_)))
 have hc5 := H.cell (u := (I Aa.2)) (o' := 1) 1 1 rfl rfl rfl
 have hc6 := H.cell (u := (I Ah.2)) (o' := 1) 0 1 rfl rfl rfl
 revert h; refine br fun r7 hx8 h => ?_
 have hc9 := c_cmp_Compare_int hx8
 have hc10 := H.cell (u := (I Aa.1)) (o' := 0) 1 0 rfl rfl rfl
 have hc11 := H.cell (u := (I Ah.1)) (o' := 0) 0 0 rfl rfl rfl
 have Hs := H
 refine rg2 (σ := σ4) (Nm := Unit) 9 [4] [[false], [true]] [[(0, 0)], [(0, 0)], [(0, 0)], [(0, 0)], [(0, 1)], [(0, 0), (1, 1)], [(0, 0), (1, 1)], [(0, 0), (1, 1)], [(0, 0), (1, 1)]] 1 [fun _ => fun σm => Hp S0 σ0 σm [Ch.bx n0 b3 0 [(I Ah.1), (I Ah.2)] [] [], Ch.bx n0 b1 0 [(I Aa.1), (I Aa.2)] [] []] ∧ Md (cov []) σ4 σm, fun _ => fun σm => Hp S0 σ0 σm [Ch.bx n0 b3 0 [(I Ah.1), (I Ah.2)] [] [], Ch.bx n0 b1 0 [(I Aa.1), (I Aa.2)] [] []] ∧ Md (cov []) σ4 σm] [fun _ => (pt b1 1), fun _ => (I Aa.2), fun _ => (pt b3 1), fun _ => (I Ah.2), fun _ => (I r7), fun _ => (pt b1 0), fun _ => (I Aa.1), fun _ => (pt b3 0), fun _ => (I Ah.1)] () (by kernel_rfl) (by kernel_rfl) ?_ ?_ ?_
 ·intro σm m0
  exact ⟨H.grow (m0.mono fun _ h => h.elim), m0⟩
 ·refine ac rfl (by
    intro k _nm ρ σm hJ hoff hdep
    have e2 := look_off (N := 17) (hoff 2 rfl) rfl
    exact dp_v (v := (pt b1 1)) wn (rv_fieldAddr (off := 1) (ft := 3) Tryz.underlying67 rfl ti3 rfl e2) rfl hJ) ?_
  refine all_cons (by
    refine ⟨?_, ?_⟩
    ·intro _nm ρ σm hJ hoff hdep
     have e5 := hdep 0 rfl rfl 5 rfl
     obtain ⟨H, m⟩ := id hJ
     have hc5 := H.cell (u := (I Aa.2)) (o' := 1) 1 1 rfl rfl rfl
     exact dp_v (v := (I Aa.2)) wn (rv_load1 Tryz.underlying3 rfl e5 hc5) rfl hJ
    trivial) ?_
  refine ac rfl (by
    intro k _nm ρ σm hJ hoff hdep
    have e3 := look_off (N := 17) (hoff 3 rfl) rfl
    exact dp_v (v := (pt b3 1)) wn (rv_fieldAddr (off := 1) (ft := 3) Tryz.underlying67 rfl ti3 rfl e3) rfl hJ) ?_
  refine all_cons (by
    refine ⟨?_, ?_⟩
    ·intro _nm ρ σm hJ hoff hdep
     have e7 := hdep 2 rfl rfl 7 rfl
     obtain ⟨H, m⟩ := id hJ
     have hc6 := H.cell (u := (I Ah.2)) (o' := 1) 0 1 rfl rfl rfl
     exact dp_v (v := (I Ah.2)) wn (rv_load1 Tryz.underlying3 rfl e7 hc6) rfl hJ
    trivial) ?_
  refine all_cons (by
    refine ⟨?_, ?_⟩
    ·intro _nm ρ σm hJ hoff hdep
     have e6 : look 17 ρ 6 = (I Aa.2) := hdep 1 rfl rfl 6 rfl
     have e8 : look 17 ρ 8 = (I Ah.2) := hdep 3 rfl rfl 8 rfl
     obtain ⟨H, m⟩ := id hJ
     refine dp_cx wn (cx_call hc9 (ent_f hc9.fn (by show [look 17 ρ 6, look 17 ρ 8] = _; rw [e6, e8])) hn0 (H.sel' [0, 1] rfl rfl : Hp S0 σ0 _ ([] ++ _))) ?_
     rintro _ σq ⟨_, ⟨rfl, rfl⟩, H2, m2⟩
     exact ⟨_, (), rfl, rfl, ⟨H2.sel' [0, 1] rfl rfl, m.comp0 m2⟩, stab [0, 1, 2, 3, 5, 6, 7, 8] (by kernel_rfl) ⟨rfl, rfl, rfl, rfl, rfl, rfl, rfl, rfl, trivial⟩⟩
    trivial) ?_
  refine ac rfl (by
    intro k _nm ρ σm hJ hoff hdep
    have e2 := look_off (N := 17) (hoff 2 rfl) rfl
    exact dp_v (v := (pt b1 0)) wn (rv_fieldAddr (off := 0) (ft := 3) Tryz.underlying67 rfl ti3 rfl e2) rfl hJ) ?_
  refine all_cons (by
    refine ⟨?_, ?_⟩
    ·intro _nm ρ σm hJ hoff hdep
     have e10 := hdep 5 rfl rfl 10 rfl
     obtain ⟨H, m⟩ := id hJ
     have hc10 := H.cell (u := (I Aa.1)) (o' := 0) 1 0 rfl rfl rfl
     exact dp_v (v := (I Aa.1)) wn (rv_load1 Tryz.underlying3 rfl e10 hc10) rfl hJ
    refine ⟨?_, ?_⟩
    ·intro _nm ρ σm hJ hoff hdep
     have e10 := hdep 5 rfl rfl 10 rfl
     obtain ⟨H, m⟩ := id hJ
     have hc10 := H.cell (u := (I Aa.1)) (o' := 0) 1 0 rfl rfl rfl
     exact dp_v (v := (I Aa.1)) wn (rv_load1 Tryz.underlying3 rfl e10 hc10) rfl hJ
    trivial) ?_
  refine ac rfl (by
    intro k _nm ρ σm hJ hoff hdep
    have e3 := look_off (N := 17) (hoff 3 rfl) rfl
    exact dp_v (v := (pt b3 0)) wn (rv_fieldAddr (off := 0) (ft := 3) Tryz.underlying67 rfl ti3 rfl e3) rfl hJ) ?_
  refine all_cons (by
    refine ⟨?_, ?_⟩
    ·intro _nm ρ σm hJ hoff hdep
     have e12 := hdep 7 rfl rfl 12 rfl
     obtain ⟨H, m⟩ := id hJ
     have hc11 := H.cell (u := (I Ah.1)) (o' := 0) 0 0 rfl rfl rfl
     exact dp_v (v := (I Ah.1)) wn (rv_load1 Tryz.underlying3 rfl e12 hc11) rfl hJ
    refine ⟨?_, ?_⟩
    ·intro _nm ρ σm hJ hoff hdep
     have e12 := hdep 7 rfl rfl 12 rfl
     obtain ⟨H, m⟩ := id hJ
     have hc11 := H.cell (u := (I Ah.1)) (o' := 0) 0 0 rfl rfl rfl
     exact dp_v (v := (I Ah.1)) wn (rv_load1 Tryz.underlying3 rfl e12 hc11) rfl hJ
    trivial) ?_
  exact all_nil
 ·intro _nm ρ σ12 hJ hoff hrel
  have e9 := hrel 4 rfl 9 rfl
  have e11 := hrel 6 rfl 11 rfl
  have e13 := hrel 8 rfl 13 rfl
  obtain ⟨H, -⟩ := (show Hp S0 σ0 σ12 [Ch.bx n0 b3 0 [(I Ah.1), (I Ah.2)] [] [], Ch.bx n0 b1 0 [(I Aa.1), (I Aa.2)] [] []] ∧ Md (cov []) σ4 σ12 from hJ)
  clear hJ Hs
  rw [fr_lookL (L := [(9, (I r7)), (11, (I Aa.1)), (13, (I Ah.1))]) ⟨e9, e11, e13, trivial⟩]
  clear hoff hrel e9 e11 e13
  revert h; refine br fun r13 hx14 h => ?_
  have hc15 := c_cmp_Compare_int hx14
  refine st_call (cx_call hc15 (ent_f hc15.fn rfl) hn0 (H.sel' [0, 1] rfl rfl : Hp S0 σ0 _ ([] ++ _))) wn ?_
  rintro _ σ16 ⟨_, ⟨rfl, rfl⟩, H, -⟩
  replace H : Hp _ _ _ [_, _] := H
  refine st_ex (ex_buildSlice (el := n0) (xs := ([r7, r13] : List Int)) (ps := [(0, (I r7)), (1, (I r13))]) (cs := [(I r7), (I r13)]) H hn0 Tryz.underlying26 ti3 rfl rfl (by kernel_rfl) (.cons (c := [(I r7)]) rfl (.cons (c := [(I r13)]) rfl (.nil))) rfl) wn ?_
  rintro _ σ18 ⟨b17, rfl, H, -⟩
  obtain ⟨σ19, hw20, H, -⟩ := H.pub 0 rfl (Nat.le_refl _)
  rw [← hw20]; clear hw20
  replace H := H.roLow 0 0 rfl (Nat.zero_le _)
  revert h; refine br fun r21 hx22 h => ?_
  have hc23 := c_cmp_Or_int (Cs := (some ⟨b17, 0, none⟩)) (Ct := 2) hx22
  refine st_call (cx_call hc23 (ent_f hc23.fn rfl) hn0 (H.sel' [0, 0, 1, 2, 3] rfl rfl : Hp S0 σ0 _ ([_] ++ _))) wn ?_
  rintro _ σ24 ⟨_, ⟨rfl, rfl⟩, H, -⟩
  replace H : Hp _ _ _ [_, _, _, _] := H
  refine sa (I r21) rfl (w_end (q_then (c_ret ?_)))
  obtain rfl := sj h
  exact fin_ret (v := (I r21)) (results_ok Tryz.results73 (res_tmp (v := (I r21)) rfl res_nil) rfl) ⟨rfl, rfl⟩ (H.sel' [] rfl rfl)

theorem c_impl_hitHeap_Less {Cf : List (Int × Int)} {Cu : Int} {Cv : Int} {Ci : Option Addr} {Cj : Nat} {r : Bool} (h : M.impl_hitHeap_Less Cf Cu Cv = some r) :
    Cal2 Tryz.prog 185 [(Sl Ci Cf Cj), (I Cu), (I Cv)] [Ch.ro 0 (Sl Ci Cf Cj) Cf] (fun n0 v L => v = (B r) ∧ L = []) := by
 refine cal2 (n := 17) Tryz.func185 rfl rfl rfl rfl ?_
 intro S0 σ0 n0 hn0 H
 unfold M.impl_hitHeap_Less at h
 refine c_seq (rg (sa (B false) rfl (w_end (q_then (c_seq ?_)))))
 refine rgP (σ := σ0) 8 (by kernel_rfl) (by kernel_rfl) (by kernel_rfl) ?_
 refine sq (v := (Sl Ci Cf Cj)) (rv_move rfl) (sq (v := (I Cu)) (rv_move rfl) ?_)
 revert h; refine br fun x1 hx2 h => ?_
 obtain ⟨b4, o5, hi3, -⟩ := (H.ro 0 rfl).ix hx2
 refine sq (v := (pt b4 o5)) (rv_ix Tryz.underlying104 ti67 rfl rfl hi3) ?_
 obtain ⟨_, ⟨_, _, rfl, rfl, rfl⟩, hl6, hc7⟩ := ((H.ro 0 rfl).at hx2 hi3).cells
 refine sq (v := (.agg #[(I x1.1), (I x1.2)])) (rv_load Tryz.underlying67 rfl ti67 rfl hl6 hc7) (sq (v := (Sl Ci Cf Cj)) (rv_move rfl) (sq (v := (I Cv)) (rv_move rfl) ?_))
 revert h; refine br fun x8 hx9 h => ?_
 obtain ⟨b11, o12, hi10, -⟩ := (H.ro 0 rfl).ix hx9
 refine sq (v := (pt b11 o12)) (rv_ix Tryz.underlying104 ti67 rfl rfl hi10) ?_
 obtain ⟨_, ⟨_, _, rfl, rfl, rfl⟩, hl13, hc14⟩ := ((H.ro 0 rfl).at hx9 hi10).cells
 refine sq (v := (.agg #[(I x8.1), (I x8.2)])) (rv_load Tryz.underlying67 rfl ti67 rfl hl13 hc14) (sq_end ?_)
 intro σ15 hm16
 replace H := H.grow (hm16.mono fun _ h => h); clear hm16
 revert h; refine br fun r17 hx18 h => ?_
 have hc19 := c_impl_compareHits hx18
 refine st_call (cx_call hc19 (ent_f hc19.fn rfl) hn0 (H.sel' [0] rfl rfl : Hp S0 σ0 _ ([] ++ _))) wn ?_
 rintro _ σ20 ⟨_, ⟨rfl, rfl⟩, H, -⟩
 replace H : Hp _ _ _ [_] := H
 refine st (v := (B (decide (0 < r17)))) (rv_gtr (a := r17) (b := 0) rfl rfl) (sa (B (decide (0 < r17))) rfl (w_end (q_then (c_ret ?_))))
 obtain rfl := sj h
 exact fin_ret (v := (B (decide (0 < r17)))) (results_ok Tryz.results185 (res_tmp (v := (B (decide (0 < r17)))) rfl res_nil) rfl) ⟨rfl, rfl⟩ (H.sel' [] rfl rfl)

end Go.Vs
