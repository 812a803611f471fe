/- The functions compute what their models say. -/
import Derived.Test.YtdjjikmfkejdiacGreatKNearestPutC3
set_option linter.unusedVariables false
set_option linter.unusedSimpArgs false
set_option maxRecDepth 20000
namespace Go.Vs
open Go Go.Proofs
attribute [local irreducible] Code.wp Code.wpIn wpList wpListIn wpQuiet Calls CallsIn

theorem c_spec_addHit {Av : List (Int × Int)} {Bz : Int × Int} {Fq : Int} {Aw : Option Addr} {Ax : Nat} {r : (List (Int × Int))} (h : M.spec_addHit Av Bz Fq = some r) :
    Cal2 Tryz.prog 58 [(Sl Aw Av Ax), (.agg #[(I Bz.1), (I Bz.2)]), (I Fq)] [Ch.ro 0 (Sl Aw Av Ax) Av] (fun n0 v L => ∃ (az1 : Option Addr), ∃ (cz2 : Nat), v = (Sl az1 r cz2) ∧ L = [Ch.own n0 n0 (Sl az1 r cz2) r]) := by
 refine cal2 (n := 58) Tryz.func58 rfl rfl rfl rfl ?_
 intro S0 σ0 n0 hn0 H
 unfold M.spec_addHit at h
 refine c_seq (rg (st_ex (ex_box (cs := [(I Bz.1), (I Bz.2)]) H hn0 rfl rfl) wn ?_))
 rintro _ σ2 ⟨b1, rfl, H, -⟩
 refine sa (.slice none 0 0) rfl (w_end (q_then (c_seq ?_)))
 revert h; refine br fun xs4 hx5 h => ?_
 have hc8 := H.cells 0 rfl
 have Hs := H
 refine rg2 (σ := σ2) (Nm := (Nat) × (Option Addr) × (Nat) × (Nat)) 5 [0, 2, 4] [[false, false, false], [true, false, false], [false, false, true], [true, true, false], [true, false, true], [true, true, true]] [[(0, 1), (2, 4)], [(0, 0), (1, 1), (2, 2), (4, 4)], [(1, 3), (4, 5)], [(0, 0), (1, 1), (3, 3)], [(0, 2), (1, 4), (3, 5)]] 5 [fun ((b3, a6, c7, b9) : (Nat) × (Option Addr) × (Nat) × (Nat)) => fun σm => Hp S0 σ0 σm [Ch.bx n0 b1 0 [(I Bz.1), (I Bz.2)] [] [], Ch.ro 0 (Sl Aw Av Ax) Av] ∧ Md (cov []) σ2 σm, fun ((b3, a6, c7, b9) : (Nat) × (Option Addr) × (Nat) × (Nat)) => fun σm => Hp S0 σ0 σm [Ch.own n0 n0 (Sl (some ⟨b3, 0, none⟩) ([] : List (Int × Int)) 0) ([] : List (Int × Int)), Ch.bx n0 b1 0 [(I Bz.1), (I Bz.2)] [] [], Ch.ro 0 (Sl Aw Av Ax) Av] ∧ Md (cov []) σ2 σm, fun ((b3, a6, c7, b9) : (Nat) × (Option Addr) × (Nat) × (Nat)) => fun σm => Hp S0 σ0 σm [Ch.own n0 n0 (Sl (some ⟨b9, 0, none⟩) ([(Bz.1, Bz.2)] : List (Int × Int)) 1) ([(Bz.1, Bz.2)] : List (Int × Int)), Ch.bx n0 b1 0 [(I Bz.1), (I Bz.2)] [] [], Ch.ro 0 (Sl Aw Av Ax) Av] ∧ Md (cov []) σ2 σm, fun ((b3, a6, c7, b9) : (Nat) × (Option Addr) × (Nat) × (Nat)) => fun σm => Hp S0 σ0 σm [Ch.own n0 n0 (Sl a6 xs4 c7) xs4, Ch.bx n0 b1 0 [(I Bz.1), (I Bz.2)] [] [], Ch.ro 0 (Sl Aw Av Ax) Av] ∧ Md (fun i => (cov []) i ∨ (fun b => blk (Sl (some ⟨b3, 0, none⟩) ([] : List (Int × Int)) 0) = some b) i) σ2 σm, fun ((b3, a6, c7, b9) : (Nat) × (Option Addr) × (Nat) × (Nat)) => fun σm => Hp S0 σ0 σm [Ch.own n0 n0 (Sl (some ⟨b9, 0, none⟩) ([(Bz.1, Bz.2)] : List (Int × Int)) 1) ([(Bz.1, Bz.2)] : List (Int × Int)), Ch.own n0 n0 (Sl (some ⟨b3, 0, none⟩) ([] : List (Int × Int)) 0) ([] : List (Int × Int)), Ch.bx n0 b1 0 [(I Bz.1), (I Bz.2)] [] [], Ch.ro 0 (Sl Aw Av Ax) Av] ∧ Md (cov []) σ2 σm, fun ((b3, a6, c7, b9) : (Nat) × (Option Addr) × (Nat) × (Nat)) => fun σm => Hp S0 σ0 σm [Ch.own n0 n0 (Sl (some ⟨b9, 0, none⟩) ([(Bz.1, Bz.2)] : List (Int × Int)) 1) ([(Bz.1, Bz.2)] : List (Int × Int)), Ch.own n0 n0 (Sl a6 xs4 c7) xs4, Ch.bx n0 b1 0 [(I Bz.1), (I Bz.2)] [] [], Ch.ro 0 (Sl Aw Av Ax) Av] ∧ Md (fun i => (cov []) i ∨ (fun b => blk (Sl (some ⟨b3, 0, none⟩) ([] : List (Int × Int)) 0) = some b) i) σ2 σm] [fun ((b3, a6, c7, b9) : (Nat) × (Option Addr) × (Nat) × (Nat)) => (Sl (some ⟨b3, 0, none⟩) ([] : List (Int × Int)) 0), fun ((b3, a6, c7, b9) : (Nat) × (Option Addr) × (Nat) × (Nat)) => (Sl Aw Av Ax), fun ((b3, a6, c7, b9) : (Nat) × (Option Addr) × (Nat) × (Nat)) => (Sl a6 xs4 c7), fun ((b3, a6, c7, b9) : (Nat) × (Option Addr) × (Nat) × (Nat)) => (.agg #[(I Bz.1), (I Bz.2)]), fun ((b3, a6, c7, b9) : (Nat) × (Option Addr) × (Nat) × (Nat)) => (Sl (some ⟨b9, 0, none⟩) ([(Bz.1, Bz.2)] : List (Int × Int)) 1)] (0, none, 0, 0) (by kernel_rfl) (by kernel_rfl) ?_ ?_ ?_
 ·intro σm m0
  exact ⟨H.grow (m0.mono fun _ h => h.elim), m0⟩
 ·refine all_cons (by
    refine ⟨?_, ?_⟩
    ·rintro ⟨b3, a6, c7, b9⟩ ρ σm hJ hoff hdep
     obtain ⟨H, m⟩ := id hJ
     refine dp_ex wn (ex_buildSlice (el := n0) (xs := ([] : List (Int × Int))) (ps := []) (cs := []) H hn0 Tryz.underlying28 ti35 rfl rfl (by kernel_rfl) (.nil) rfl) ?_
     rintro _ σq ⟨b3x, rfl, H2, m2⟩
     exact ⟨_, (b3x, a6, c7, b9), rfl, rfl, ⟨H2.sel' [0, 1, 2] rfl rfl, m.comp0 m2⟩, stab [1, 3, 4] (by kernel_rfl) ⟨rfl, rfl, rfl, trivial⟩⟩
    refine ⟨?_, ?_⟩
    ·rintro ⟨b3, a6, c7, b9⟩ ρ σm hJ hoff hdep
     obtain ⟨H, m⟩ := id hJ
     refine dp_ex wn (ex_buildSlice (el := n0) (xs := ([] : List (Int × Int))) (ps := []) (cs := []) H hn0 Tryz.underlying28 ti35 rfl rfl (by kernel_rfl) (.nil) rfl) ?_
     rintro _ σq ⟨b3x, rfl, H2, m2⟩
     exact ⟨_, (b3x, a6, c7, b9), rfl, rfl, ⟨H2.sel' [1, 0, 2, 3] rfl rfl, m.comp0 m2⟩, stab [1, 3, 4] (by kernel_rfl) ⟨rfl, rfl, rfl, trivial⟩⟩
    trivial) ?_
  refine ac rfl (by
    intro k; rintro ⟨b3, a6, c7, b9⟩ ρ σm hJ hoff hdep
    have e0 := look_off (N := 58) (hoff 0 rfl) rfl
    exact dp_v (v := (Sl Aw Av Ax)) wn (rv_move e0) rfl hJ) ?_
  refine all_cons (by
    refine ⟨?_, ?_⟩
    ·rintro ⟨b3, a6, c7, b9⟩ ρ σm hJ hoff hdep
     have e10 := hdep 0 rfl rfl 10 rfl
     have e11 := hdep 1 rfl rfl 11 rfl
     obtain ⟨H, m⟩ := id hJ
     refine dp_ex wn (ex_append H (i := 0) rfl Tryz.underlying28 Tryz.underlying28 ti35 rfl rfl (by decide) ((H.ro 2 rfl).rd.sc) hx5 hn0 e10 e11) ?_
     rintro _ σq ⟨a6x, c7x, rfl, H2, m2⟩
     exact ⟨_, (b3, a6x, c7x, b9), rfl, rfl, ⟨H2.sel' [0, 1, 2] rfl rfl, m.comp m2⟩, stab [0, 1, 3, 4] (by kernel_rfl) ⟨rfl, rfl, rfl, rfl, trivial⟩⟩
    refine ⟨?_, ?_⟩
    ·rintro ⟨b3, a6, c7, b9⟩ ρ σm hJ hoff hdep
     have e10 := hdep 0 rfl rfl 10 rfl
     have e11 := hdep 1 rfl rfl 11 rfl
     obtain ⟨H, m⟩ := id hJ
     refine dp_ex wn (ex_append H (i := 1) rfl Tryz.underlying28 Tryz.underlying28 ti35 rfl rfl (by decide) ((H.ro 3 rfl).rd.sc) hx5 hn0 e10 e11) ?_
     rintro _ σq ⟨a6x, c7x, rfl, H2, m2⟩
     exact ⟨_, (b3, a6x, c7x, b9), rfl, rfl, ⟨H2.sel' [1, 0, 2, 3] rfl rfl, m.comp m2⟩, stab [0, 1, 3, 4] (by kernel_rfl) ⟨rfl, rfl, rfl, rfl, trivial⟩⟩
    trivial) ?_
  refine all_cons (by
    refine ⟨?_, ?_⟩
    ·rintro ⟨b3, a6, c7, b9⟩ ρ σm hJ hoff hdep
     have e4 := look_off (N := 58) (hoff 4 rfl) rfl
     obtain ⟨H, m⟩ := id hJ
     have hc8 := H.cells 0 rfl
     exact dp_v (v := (.agg #[(I Bz.1), (I Bz.2)])) wn (rv_load (cs := [(I Bz.1), (I Bz.2)]) Tryz.underlying35 rfl ti35 e4 rfl hc8) rfl hJ
    refine ⟨?_, ?_⟩
    ·rintro ⟨b3, a6, c7, b9⟩ ρ σm hJ hoff hdep
     have e4 := look_off (N := 58) (hoff 4 rfl) rfl
     obtain ⟨H, m⟩ := id hJ
     have hc8 := H.cells 1 rfl
     exact dp_v (v := (.agg #[(I Bz.1), (I Bz.2)])) wn (rv_load (cs := [(I Bz.1), (I Bz.2)]) Tryz.underlying35 rfl ti35 e4 rfl hc8) rfl hJ
    refine ⟨?_, ?_⟩
    ·rintro ⟨b3, a6, c7, b9⟩ ρ σm hJ hoff hdep
     have e4 := look_off (N := 58) (hoff 4 rfl) rfl
     obtain ⟨H, m⟩ := id hJ
     have hc8 := H.cells 1 rfl
     exact dp_v (v := (.agg #[(I Bz.1), (I Bz.2)])) wn (rv_load (cs := [(I Bz.1), (I Bz.2)]) Tryz.underlying35 rfl ti35 e4 rfl hc8) rfl hJ
    trivial) ?_
  refine all_cons (by
    refine ⟨?_, ?_⟩
    ·rintro ⟨b3, a6, c7, b9⟩ ρ σm hJ hoff hdep
     have e13 : look 58 ρ 13 = (.agg #[(I Bz.1), (I Bz.2)]) := hdep 3 rfl rfl 13 rfl
     obtain ⟨H, m⟩ := id hJ
     refine dp_ex wn (ex_buildSlice (el := n0) (xs := ([(Bz.1, Bz.2)] : List (Int × Int))) (ps := [(0, (.agg #[(I Bz.1), (I Bz.2)]))]) (cs := [(I Bz.1), (I Bz.2)]) H hn0 Tryz.underlying28 ti35 rfl (by show [(0, look 58 ρ 13)] = _; rw [e13]) (by kernel_rfl) (.cons (c := [(I Bz.1), (I Bz.2)]) ⟨[(I Bz.1)], [(I Bz.2)], rfl, rfl, rfl⟩ (.nil)) rfl) ?_
     rintro _ σq ⟨b9x, rfl, H2, m2⟩
     exact ⟨_, (b3, a6, c7, b9x), rfl, rfl, ⟨H2.sel' [0, 1, 2] rfl rfl, m.comp0 m2⟩, stab [0, 1, 2, 3] (by kernel_rfl) ⟨rfl, rfl, rfl, rfl, trivial⟩⟩
    refine ⟨?_, ?_⟩
    ·rintro ⟨b3, a6, c7, b9⟩ ρ σm hJ hoff hdep
     have e13 : look 58 ρ 13 = (.agg #[(I Bz.1), (I Bz.2)]) := hdep 3 rfl rfl 13 rfl
     obtain ⟨H, m⟩ := id hJ
     refine dp_ex wn (ex_buildSlice (el := n0) (xs := ([(Bz.1, Bz.2)] : List (Int × Int))) (ps := [(0, (.agg #[(I Bz.1), (I Bz.2)]))]) (cs := [(I Bz.1), (I Bz.2)]) H hn0 Tryz.underlying28 ti35 rfl (by show [(0, look 58 ρ 13)] = _; rw [e13]) (by kernel_rfl) (.cons (c := [(I Bz.1), (I Bz.2)]) ⟨[(I Bz.1)], [(I Bz.2)], rfl, rfl, rfl⟩ (.nil)) rfl) ?_
     rintro _ σq ⟨b9x, rfl, H2, m2⟩
     exact ⟨_, (b3, a6, c7, b9x), rfl, rfl, ⟨H2.sel' [0, 1, 2, 3] rfl rfl, m.comp0 m2⟩, stab [0, 1, 2, 3] (by kernel_rfl) ⟨rfl, rfl, rfl, rfl, trivial⟩⟩
    refine ⟨?_, ?_⟩
    ·rintro ⟨b3, a6, c7, b9⟩ ρ σm hJ hoff hdep
     have e13 : look 58 ρ 13 = (.agg #[(I Bz.1), (I Bz.2)]) := hdep 3 rfl rfl 13 rfl
     obtain ⟨H, m⟩ := id hJ
     refine dp_ex wn (ex_buildSlice (el := n0) (xs := ([(Bz.1, Bz.2)] : List (Int × Int))) (ps := [(0, (.agg #[(I Bz.1), (I Bz.2)]))]) (cs := [(I Bz.1), (I Bz.2)]) H hn0 Tryz.underlying28 ti35 rfl (by show [(0, look 58 ρ 13)] = _; rw [e13]) (by kernel_rfl) (.cons (c := [(I Bz.1), (I Bz.2)]) ⟨[(I Bz.1)], [(I Bz.2)], rfl, rfl, rfl⟩ (.nil)) rfl) ?_
     rintro _ σq ⟨b9x, rfl, H2, m2⟩
     exact ⟨_, (b3, a6, c7, b9x), rfl, rfl, ⟨H2.sel' [0, 1, 2, 3] rfl rfl, m.comp0 m2⟩, stab [0, 1, 2, 3] (by kernel_rfl) ⟨rfl, rfl, rfl, rfl, trivial⟩⟩
    trivial) ?_
  exact all_nil
 ·rintro ⟨b3, a6, c7, b9⟩ ρ σ10 hJ hoff hrel
  have e2 := look_off (N := 58) (hoff 2 rfl) rfl
  have e12 := hrel 2 rfl 12 rfl
  have e14 := hrel 4 rfl 14 rfl
  obtain ⟨H, -⟩ := (show Hp S0 σ0 σ10 [Ch.own n0 n0 (Sl (some ⟨b9, 0, none⟩) ([(Bz.1, Bz.2)] : List (Int × Int)) 1) ([(Bz.1, Bz.2)] : List (Int × Int)), Ch.own n0 n0 (Sl a6 xs4 c7) xs4, Ch.bx n0 b1 0 [(I Bz.1), (I Bz.2)] [] [], Ch.ro 0 (Sl Aw Av Ax) Av] ∧ Md (fun i => (cov []) i ∨ (fun b => blk (Sl (some ⟨b3, 0, none⟩) ([] : List (Int × Int)) 0) = some b) i) σ2 σ10 from hJ)
  clear hJ Hs
  rw [fr_lookL (L := [(2, (I Fq)), (12, (Sl a6 xs4 c7)), (14, (Sl (some ⟨b9, 0, none⟩) ([(Bz.1, Bz.2)] : List (Int × Int)) 1))]) ⟨e2, e12, e14, trivial⟩]
  clear hoff hrel e2 e12 e14
  revert h; refine br fun xs11 hx12 h => ?_
  refine st_ex (ex_append H (i := 1) rfl Tryz.underlying28 Tryz.underlying28 ti35 rfl rfl (by decide) (H.own 0 rfl).rd hx12 hn0 rfl rfl) wn ?_
  rintro _ σ15 ⟨a13, c14, rfl, H, -⟩
  refine sa (Sl a13 xs11 c14) rfl (w_end (q_then (c_seq (c_seq (rg (sm (Sl a13 xs11 c14) rfl (st (v := (I (xs11.length : Int))) (rv_len Tryz.underlying28 rfl) (st (v := (I (w64 ((xs11.length : Int) - 1)))) (rv_sub (a := (xs11.length : Int)) (b := 1) rfl rfl) (sa (I (w64 ((xs11.length : Int) - 1))) rfl (w_end (q_then ?_)))))))))))
  obtain ⟨o16, hj, h'⟩ := bind_some h
  clear h
  refine c_cut (fun e a w => e = .normal ∧ ∃ (ρ : Nat → Value) (σ : St), a = fr 58 (updL ρ [(2, (I Fq)), (7, (Sl a13 o16 c14))]) ∧ w = σ.w ∧ Hp S0 σ0 σ [Ch.own n0 n0 (Sl a13 o16 c14) o16] ∧ o16.length = xs11.length) ?_ ?_
  ·clear h'
   rename _ = some o16 => h
   refine c_blk (wp_loopM _ h (fun s17 a w => ∃ (ρ : Nat → Value) (σ : St), a = fr 58 (updL ρ [(2, (I Fq)), (7, (Sl a13 s17.1 c14)), (8, (I s17.2))]) ∧ w = σ.w ∧ Hp S0 σ0 σ [Ch.own n0 n0 (Sl a13 s17.1 c14) s17.1] ∧ s17.1.length = xs11.length) ⟨_, σ15, fr_join ⟨rfl, rfl, rfl, trivial⟩, rfl, H.sel' [0] rfl rfl, rfl⟩ ?_)
   clear h H
   rintro s17 a w o ⟨ρ, σ18, rfl, rfl, H, hn19⟩ h hres
   refine c_seq (c_seq ?_)
   obtain ⟨o20, hj, h'⟩ := bind_some h
   clear h
   refine c_cut (fun e a w => e = .normal ∧ ∃ (ρ : Nat → Value) (σ : St), a = fr 58 (updL ρ [(2, (I Fq)), (7, (Sl a13 s17.1 c14)), (8, (I s17.2)), (32, (B o20))]) ∧ w = σ.w ∧ Hp S0 σ0 σ [Ch.own n0 n0 (Sl a13 s17.1 c14) s17.1]) ?_ ?_
   ·clear h'
    rename _ = some o20 => h
    refine rgP (σ := σ18) 12 (by kernel_rfl) (by kernel_rfl) (by kernel_rfl) ?_
    refine sq (v := (I s17.2)) (rv_move rfl) (sq (v := (B (decide (0 < s17.2)))) (rv_gtr (a := s17.2) (b := 0) rfl rfl) (sq (v := (B (decide (0 < s17.2)))) (rv_move rfl) ?_))
    rcases Bool.eq_false_or_eq_true (decide (0 < s17.2)) with hb21 | hb21
    ·replace h := bif_t hb21 h
     refine sq_g (v := (Sl a13 s17.1 c14)) (congrArg some hb21) (rv_move rfl) (sq_g (v := (I s17.2)) (congrArg some hb21) (rv_move rfl) ?_)
     revert h; refine br fun x22 hx23 h => ?_
     obtain ⟨b25, o26, hi24, -⟩ := (H.own 0 rfl).ix hx23
     refine sq_g (v := (pt b25 o26)) (congrArg some hb21) (rv_ix Tryz.underlying28 ti35 rfl rfl hi24) ?_
     obtain ⟨_, ⟨_, _, rfl, rfl, rfl⟩, hl27, hc28⟩ := ((H.own 0 rfl).at hx23 hi24).cells
     refine sq_g (v := (.agg #[(I x22.1), (I x22.2)])) (congrArg some hb21) (rv_load Tryz.underlying35 rfl ti35 rfl hl27 hc28) (sq_g (v := (Sl a13 s17.1 c14)) (congrArg some hb21) (rv_move rfl) (sq_g (v := (I s17.2)) (congrArg some hb21) (rv_move rfl) (sq_g (v := (I (w64 (s17.2 - 1)))) (congrArg some hb21) (rv_sub (a := s17.2) (b := 1) rfl rfl) ?_)))
     revert h; refine br fun x29 hx30 h => ?_
     obtain ⟨b32, o33, hi31, -⟩ := (H.own 0 rfl).ix hx30
     refine sq_g (v := (pt b32 o33)) (congrArg some hb21) (rv_ix Tryz.underlying28 ti35 rfl rfl hi31) ?_
     obtain ⟨_, ⟨_, _, rfl, rfl, rfl⟩, hl34, hc35⟩ := ((H.own 0 rfl).at hx30 hi31).cells
     refine sq_g (v := (.agg #[(I x29.1), (I x29.2)])) (congrArg some hb21) (rv_load Tryz.underlying35 rfl ti35 rfl hl34 hc35) (sq_end ?_)
     intro σ36 hm37
     replace H := H.grow (hm37.mono fun _ h => h); clear hm37
     revert h; refine br fun r38 hx39 h => ?_
     have hc40 := c_spec_nearer hx39
     refine st_call (cx_call hc40 (ent_f hc40.fn rfl) hn0 (H.sel' [0] rfl rfl : Hp S0 σ0 _ ([] ++ _))) (wanted_yes rfl (by exact (congrArg some hb21))) ?_
     rintro _ σ41 ⟨_, ⟨rfl, rfl⟩, H, -⟩
     replace H : Hp _ _ _ [_] := H
     refine st (v := (B r38)) (rv_pick_t (congrArg B hb21) rfl) (w_end ?_)
     obtain rfl := sj h
     exact ⟨rfl, _, σ41, fr_join ⟨rfl, rfl, rfl, rfl, trivial⟩, rfl, H.sel' [0] rfl rfl⟩
    ·replace h := bif_f hb21 h
     refine sq_skip (congrArg some hb21) (sq_skip (congrArg some hb21) (sq_skip (congrArg some hb21) (sq_skip (congrArg some hb21) (sq_skip (congrArg some hb21) (sq_skip (congrArg some hb21) (sq_skip (congrArg some hb21) (sq_skip (congrArg some hb21) (sq_skip (congrArg some hb21) (sq_end ?_)))))))))
     intro σ42 hm43
     replace H := H.grow (hm43.mono fun _ h => h); clear hm43
     refine st_skip (congrArg some hb21) (st (v := (B false)) (rv_pick_f (congrArg B hb21) rfl) (w_end ?_))
     obtain rfl := sj h
     exact ⟨rfl, _, σ42, fr_join ⟨rfl, rfl, rfl, rfl, trivial⟩, rfl, H.sel' [0] rfl rfl⟩
   ·clear hj
    have h := h'
    clear h' H
    rintro e a w ⟨rfl, ρ, σ44, rfl, rfl, H⟩
    refine q_then ?_
    refine cd_cond o20 rfl (fun hb45 => ?_) (fun hb45 => ?_)
    ·replace h := bif_t hb45 h
     refine c_skip (q_then (c_seq (c_blk (c_seq (rg (sm (Sl a13 s17.1 c14) rfl (sm (I s17.2) rfl ?_)))))))
     revert h; refine br fun x46 hx47 h => ?_
     obtain ⟨b49, o50, hi48, -⟩ := (H.own 0 rfl).ix hx47
     refine st (v := (pt b49 o50)) (rv_ix Tryz.underlying28 ti35 rfl rfl hi48) ?_
     obtain ⟨_, ⟨_, _, rfl, rfl, rfl⟩, hl51, hc52⟩ := ((H.own 0 rfl).at hx47 hi48).cells
     refine st (v := (.agg #[(I x46.1), (I x46.2)])) (rv_load Tryz.underlying35 rfl ti35 rfl hl51 hc52) (st_ex (ex_alloc (cs := [(I 0), (I 0)]) H hn0 ti35 rfl) wn ?_)
     rintro _ σ54 ⟨b53, rfl, H, -⟩
     refine st_exS (ex_store_box (k := 0) (cs := [(I 0), (I 0)]) (vs := [(I x46.1), (I x46.2)]) (cs' := [(I x46.1), (I x46.2)]) H (i := 0) rfl ti35 rfl rfl rfl rfl rfl (Nat.le_of_ble_eq_true rfl) (by simp [plain]) rfl) wn ?_
     rintro σ55 ⟨H, -⟩
     refine w_end (q_then (c_seq (rg (sm (Sl a13 s17.1 c14) rfl (sm (I s17.2) rfl (sm (Sl a13 s17.1 c14) rfl (sm (I s17.2) rfl (st (v := (I (w64 (s17.2 - 1)))) (rv_sub (a := s17.2) (b := 1) rfl rfl) ?_))))))))
     revert h; refine br fun x56 hx57 h => ?_
     obtain ⟨b59, o60, hi58, -⟩ := (H.own 1 rfl).ix hx57
     refine st (v := (pt b59 o60)) (rv_ix Tryz.underlying28 ti35 rfl rfl hi58) ?_
     obtain ⟨_, ⟨_, _, rfl, rfl, rfl⟩, hl61, hc62⟩ := ((H.own 1 rfl).at hx57 hi58).cells
     refine st (v := (.agg #[(I x56.1), (I x56.2)])) (rv_load Tryz.underlying35 rfl ti35 rfl hl61 hc62) ?_
     revert h; refine br fun x63 hx64 h => ?_
     obtain ⟨b66, o67, hi65, -⟩ := (H.own 1 rfl).ix hx64
     refine st (v := (pt b66 o67)) (rv_ix Tryz.underlying28 ti35 rfl rfl hi65) ?_
     refine st_exS (ex_store_own (e' := (x56.1, x56.2)) (vs := [(I x56.1), (I x56.2)]) (k := 0) H (i := 1) rfl ti35 hx64 hi65 rfl rfl rfl rfl rfl (Nat.le_of_ble_eq_true rfl) (by simp [plain]) (by rintro _ ⟨_, _, rfl, rfl, rfl⟩; exact ⟨[(I x56.1)], [(I x56.2)], rfl, rfl, rfl⟩)) wn ?_
     rintro σ68 ⟨H, -⟩
     have hsl : (Sl a13 s17.1 c14) = (Sl a13 (s17.1.set s17.2.toNat (x56.1, x56.2)) c14) := sl_len List.length_set.symm
     rw [hsl]; rw [hsl] at H; clear hsl
     refine w_end (q_then (rg (sm (Sl a13 (s17.1.set s17.2.toNat (x56.1, x56.2)) c14) rfl (sm (I s17.2) rfl (st (v := (I (w64 (s17.2 - 1)))) (rv_sub (a := s17.2) (b := 1) rfl rfl) ?_)))))
     have hc69 := H.cells 1 rfl
     refine st (v := (.agg #[(I x46.1), (I x46.2)])) (rv_load (cs := [(I x46.1), (I x46.2)]) Tryz.underlying35 rfl ti35 rfl rfl hc69) ?_
     revert h; refine br fun x70 hx71 h => ?_
     obtain ⟨b73, o74, hi72, -⟩ := (H.own 0 rfl).ix hx71
     refine st (v := (pt b73 o74)) (rv_ix Tryz.underlying28 ti35 rfl rfl hi72) ?_
     refine st_exS (ex_store_own (e' := (x46.1, x46.2)) (vs := [(I x46.1), (I x46.2)]) (k := 0) H (i := 0) rfl ti35 hx71 hi72 rfl rfl rfl rfl rfl (Nat.le_of_ble_eq_true rfl) (by simp [plain]) (by rintro _ ⟨_, _, rfl, rfl, rfl⟩; exact ⟨[(I x46.1)], [(I x46.2)], rfl, rfl, rfl⟩)) wn ?_
     rintro σ75 ⟨H, -⟩
     have hsl : (Sl a13 (s17.1.set s17.2.toNat (x56.1, x56.2)) c14) = (Sl a13 ((s17.1.set s17.2.toNat (x56.1, x56.2)).set (w64 (s17.2 - 1)).toNat (x46.1, x46.2)) c14) := sl_len List.length_set.symm
     rw [hsl]; rw [hsl] at H; clear hsl
     refine w_end (q_blk (q_then (rg (sm (I s17.2) rfl (st (v := (I (w64 (s17.2 - 1)))) (rv_sub (a := s17.2) (b := 1) rfl rfl) (sa (I (w64 (s17.2 - 1))) rfl (w_end (q_then ?_))))))))
     obtain rfl := sj h
     exact ⟨_, rfl, _, σ75, fr_join ⟨rfl, rfl, rfl, trivial⟩, rfl, H.sel' [0] rfl rfl, (List.length_set.trans (List.length_set.trans hn19))⟩
    ·replace h := bif_f hb45 h
     refine c_exit (q_then_x (q_then_x (q_blk_hit ?_)))
     obtain rfl := sj h
     obtain rfl := hres _ rfl
     exact ⟨rfl, _, σ44, fr_join ⟨rfl, rfl, trivial⟩, rfl, H.sel' [0] rfl rfl, hn19⟩
  ·clear hj
   have h := h'
   clear h' H
   rintro e a w ⟨rfl, ρ, σ76, rfl, rfl, H, hn77⟩
   refine q_then (c_seq (rg (sm (Sl a13 o16 c14) rfl (sm (I Fq) rfl (sm (Sl a13 o16 c14) rfl (st (v := (I (o16.length : Int))) (rv_len Tryz.underlying28 rfl) (st (v := (I (min Fq (o16.length : Int)))) (rv_min rfl rfl) ?_)))))))
   revert h; refine br fun xs78 hx79 h => ?_
   obtain ⟨a80, c81, hs82, hR83, hb84⟩ := (H.own 0 rfl).slice hx79
   replace H := (H.front (i := 0) rfl).turn (d := Ch.own n0 n0 (Sl a80 xs78 c81) xs78) (fun _ => hR83) hb84; clear hR83 hb84
   refine st (v := (Sl a80 xs78 c81)) (rv_slice_h Tryz.underlying28 ti35 hs82 rfl rfl) (sa (Sl a80 xs78 c81) rfl (w_end (q_then (c_ret ?_))))
   obtain rfl := sj h
   exact fin_ret (v := (Sl a80 xs78 c81)) (results_ok Tryz.results58 (res_tmp (v := (Sl a80 xs78 c81)) rfl res_nil) rfl) ⟨a80, c81, rfl, rfl⟩ (H.sel' [0] rfl rfl)

theorem c_spec_size {By : Int}  {r : Int} (h : M.spec_size By = some r) :
    Cal2 Tryz.prog 82 [(I By)] [] (fun n0 v L => v = (I r) ∧ L = []) := by
 refine cal2 (n := 7) Tryz.func82 rfl rfl rfl rfl ?_
 intro S0 σ0 n0 hn0 H
 unfold M.spec_size at h
 refine c_seq (rg (sa (I 0) rfl (w_end (q_then (c_seq (rg (sm (I By) rfl (sm (I By) rfl (st (v := (I (w64 (0 - By)))) (rv_neg (a := By) rfl) (st (v := (I (max By (w64 (0 - By))))) (rv_max rfl rfl) (sa (I (max By (w64 (0 - By)))) rfl ?_)))))))))))
 refine w_end (q_then (c_ret ?_))
 obtain rfl := sj h
 exact fin_ret (v := (I (max By (w64 (0 - By))))) (results_ok Tryz.results82 (res_tmp (v := (I (max By (w64 (0 - By))))) rfl res_nil) rfl) ⟨rfl, rfl⟩ (H.sel' [] rfl rfl)

theorem c_spec_toInt {Fr : Bool}  {r : Int} (h : M.spec_toInt Fr = some r) :
    Cal2 Tryz.prog 83 [(B Fr)] [] (fun n0 v L => v = (I r) ∧ L = []) := by
 refine cal2 (n := 4) Tryz.func83 rfl rfl rfl rfl ?_
 intro S0 σ0 n0 hn0 H
 unfold M.spec_toInt at h
 refine c_seq (rg (sa (I 0) rfl (w_end (q_then (c_seq (c_seq (rg (sm (B Fr) rfl (w_end (q_then ?_))))))))))
 refine cd_cond Fr rfl (fun hb1 => ?_) (fun hb1 => ?_)
 ·replace h := bif_t hb1 h
  refine c_seq (rg (sa (I 1) rfl (w_end (q_then (c_ret (q_then_r ?_))))))
  obtain rfl := sj h
  exact fin_ret (v := (I 1)) (results_ok Tryz.results83 (res_tmp (v := (I 1)) rfl res_nil) rfl) ⟨rfl, rfl⟩ (H.sel' [] rfl rfl)
 ·replace h := bif_f hb1 h
  refine c_skip (q_then (c_seq (rg (sa (I 0) rfl (w_end (q_then (c_ret ?_)))))))
  obtain rfl := sj h
  exact fin_ret (v := (I 0)) (results_ok Tryz.results83 (res_tmp (v := (I 0)) rfl res_nil) rfl) ⟨rfl, rfl⟩ (H.sel' [] rfl rfl)

theorem c_spec_dist {Ay : Int} {Ds : List Int} {Dt : List Int} {Du : Option Addr} {Dv : Nat} {Dw : Option Addr} {Dx : Nat} {r : Int} (h : M.spec_dist Ay Ds Dt = some r) :
    Cal2 Tryz.prog 59 [(I Ay), (Sl Du Ds Dv), (Sl Dw Dt Dx)] [Ch.ro 0 (Sl Du Ds Dv) Ds, Ch.ro 0 (Sl Dw Dt Dx) Dt] (fun n0 v L => v = (I r) ∧ L = []) := by
 refine cal2 (n := 50) Tryz.func59 rfl rfl rfl rfl ?_
 intro S0 σ0 n0 hn0 H
 unfold M.spec_dist at h
 refine c_seq (rg (sa (I 0) rfl (w_end (q_then (c_seq (rg (sa (I 0) rfl (w_end (q_then (c_seq (c_seq ?_)))))))))))
 refine rg (sa (I 0) rfl (w_end (q_then ?_)))
 obtain ⟨o1, hj, h'⟩ := bind_some h
 clear h
 refine c_cut (fun e a w => e = .normal ∧ ∃ (ρ : Nat → Value) (σ : St), a = fr 50 (updL ρ [(7, (I o1))]) ∧ w = σ.w ∧ Hp S0 σ0 σ []) ?_ ?_
 ·clear h'
  rename _ = some o1 => h
  refine c_blk (wp_loopM _ h (fun s2 a w => ∃ (ρ : Nat → Value) (σ : St), a = fr 50 (updL ρ [(0, (I Ay)), (1, (Sl Du Ds Dv)), (2, (Sl Dw Dt Dx)), (7, (I s2.1)), (8, (I s2.2))]) ∧ w = σ.w ∧ Hp S0 σ0 σ [Ch.ro 0 (Sl Du Ds Dv) Ds, Ch.ro 0 (Sl Dw Dt Dx) Dt]) ⟨_, σ0, fr_join ⟨rfl, rfl, rfl, rfl, rfl, trivial⟩, rfl, H.sel' [0, 1] rfl rfl⟩ ?_)
  clear h H
  rintro s2 a w o ⟨ρ, σ3, rfl, rfl, H⟩ h hres
  refine c_seq (c_seq (rg (sm (I s2.2) rfl (sm (Sl Du Ds Dv) rfl (st (v := (I (Ds.length : Int))) (rv_len Tryz.underlying25 rfl) (st (v := (B (decide (s2.2 < (Ds.length : Int))))) (rv_lss (a := s2.2) (b := (Ds.length : Int)) rfl rfl) (w_end (q_then ?_))))))))
  refine cd_cond (decide (s2.2 < (Ds.length : Int))) rfl (fun hb4 => ?_) (fun hb4 => ?_)
  ·replace h := bif_t hb4 h
   refine c_skip (q_then (c_seq ?_))
   obtain ⟨o5, hj, h'⟩ := bind_some h
   clear h
   refine c_cut (fun e a w => e = .normal ∧ ∃ (ρ : Nat → Value) (σ : St), a = fr 50 (updL ρ [(0, (I Ay)), (1, (Sl Du Ds Dv)), (2, (Sl Dw Dt Dx)), (7, (I o5)), (8, (I s2.2))]) ∧ w = σ.w ∧ Hp S0 σ0 σ [Ch.ro 0 (Sl Du Ds Dv) Ds, Ch.ro 0 (Sl Dw Dt Dx) Dt]) ?_ ?_
   ·clear h'
    rename _ = some o5 => h
    refine c_blk (c_seq ?_)
    refine rgP (σ := σ3) 8 (by kernel_rfl) (by kernel_rfl) (by kernel_rfl) ?_
    refine sq (v := (Sl Du Ds Dv)) (rv_move rfl) (sq (v := (I s2.2)) (rv_move rfl) ?_)
    revert h; refine br fun x6 hx7 h => ?_
    obtain ⟨b9, o10, hi8, -⟩ := (H.ro 0 rfl).ix hx7
    refine sq (v := (pt b9 o10)) (rv_ix Tryz.underlying25 ti3 rfl rfl hi8) ?_
    have hc11 := ((H.ro 0 rfl).at hx7 hi8).int
    refine sq (v := (I x6)) (rv_load1 Tryz.underlying3 rfl rfl hc11) (sq (v := (Sl Dw Dt Dx)) (rv_move rfl) (sq (v := (I s2.2)) (rv_move rfl) ?_))
    revert h; refine br fun x12 hx13 h => ?_
    obtain ⟨b15, o16, hi14, -⟩ := (H.ro 1 rfl).ix hx13
    refine sq (v := (pt b15 o16)) (rv_ix Tryz.underlying25 ti3 rfl rfl hi14) ?_
    have hc17 := ((H.ro 1 rfl).at hx13 hi14).int
    refine sq (v := (I x12)) (rv_load1 Tryz.underlying3 rfl rfl hc17) (sq_end ?_)
    intro σ18 hm19
    replace H := H.grow (hm19.mono fun _ h => h); clear hm19
    refine st (v := (I (w64 (x6 - x12)))) (rv_sub (a := x6) (b := x12) rfl rfl) ?_
    revert h; refine br fun r20 hx21 h => ?_
    have hc22 := c_spec_size hx21
    refine st_call (cx_call hc22 (ent_f hc22.fn rfl) hn0 (H.sel' [0, 1] rfl rfl : Hp S0 σ0 _ ([] ++ _))) wn ?_
    rintro _ σ23 ⟨_, ⟨rfl, rfl⟩, H, -⟩
    replace H : Hp _ _ _ [_, _] := H
    refine sa (I r20) rfl (w_end (q_then (c_seq (rg (sm (I Ay) rfl (w_end (q_then (c_blk (c_seq (rg (st (v := (B (Ay == 1))) (rv_eql (a := Ay) (b := 1) rfl rfl) ?_)))))))))))
    refine sa (B (Ay == 1)) rfl (w_end (q_then ?_))
    refine cd_cond (Ay == 1) rfl (fun hb24 => ?_) (fun hb24 => ?_)
    ·replace h := bif_t hb24 h
     refine rg (sm (I s2.1) rfl (sm (I r20) rfl (st (v := (I (w64 (s2.1 + r20)))) (rv_add (a := s2.1) (b := r20) rfl rfl) (sa (I (w64 (s2.1 + r20))) rfl (w_end (q_blk (q_blk ?_)))))))
     obtain rfl := sj h
     exact ⟨rfl, _, σ23, fr_join ⟨rfl, rfl, rfl, rfl, rfl, trivial⟩, rfl, H.sel' [0, 1] rfl rfl⟩
    ·replace h := bif_f hb24 h
     refine c_seq (rg (st (v := (B (Ay == 2))) (rv_eql (a := Ay) (b := 2) rfl rfl) (sa (B (Ay == 2)) rfl (w_end (q_then ?_)))))
     refine cd_cond (Ay == 2) rfl (fun hb25 => ?_) (fun hb25 => ?_)
     ·replace h := bif_t hb25 h
      refine rg (sm (I s2.1) rfl (sm (I r20) rfl (st (v := (I (max s2.1 r20))) (rv_max rfl rfl) (sa (I (max s2.1 r20)) rfl (w_end (q_blk (q_blk ?_)))))))
      obtain rfl := sj h
      exact ⟨rfl, _, σ23, fr_join ⟨rfl, rfl, rfl, rfl, rfl, trivial⟩, rfl, H.sel' [0, 1] rfl rfl⟩
     ·replace h := bif_f hb25 h
      refine c_seq (rg (st (v := (B (Ay == 3))) (rv_eql (a := Ay) (b := 3) rfl rfl) (sa (B (Ay == 3)) rfl (w_end (q_then ?_)))))
      refine cd_cond (Ay == 3) rfl (fun hb26 => ?_) (fun hb26 => ?_)
      ·replace h := bif_t hb26 h
       refine rg (sm (I s2.1) rfl (sm (I r20) rfl (sm (I r20) rfl (st (v := (I (w64 (r20 * r20)))) (rv_mul (a := r20) (b := r20) rfl rfl) (st (v := (I (w64 (s2.1 + (w64 (r20 * r20)))))) (rv_add (a := s2.1) (b := (w64 (r20 * r20))) rfl rfl) (sa (I (w64 (s2.1 + (w64 (r20 * r20))))) rfl (w_end (q_blk (q_blk ?_)))))))))
       obtain rfl := sj h
       exact ⟨rfl, _, σ23, fr_join ⟨rfl, rfl, rfl, rfl, rfl, trivial⟩, rfl, H.sel' [0, 1] rfl rfl⟩
      ·replace h := bif_f hb26 h
       refine rg (sm (I s2.1) rfl (sm (I r20) rfl (st (v := (B (decide (0 < r20)))) (rv_gtr (a := r20) (b := 0) rfl rfl) ?_)))
       revert h; refine br fun r27 hx28 h => ?_
       have hc29 := c_spec_toInt hx28
       refine st_call (cx_call hc29 (ent_f hc29.fn rfl) hn0 (H.sel' [0, 1] rfl rfl : Hp S0 σ0 _ ([] ++ _))) wn ?_
       rintro _ σ30 ⟨_, ⟨rfl, rfl⟩, H, -⟩
       replace H : Hp _ _ _ [_, _] := H
       refine st (v := (I (w64 (s2.1 + r27)))) (rv_add (a := s2.1) (b := r27) rfl rfl) (sa (I (w64 (s2.1 + r27))) rfl (w_end (q_blk (q_blk ?_))))
       obtain rfl := sj h
       exact ⟨rfl, _, σ30, fr_join ⟨rfl, rfl, rfl, rfl, rfl, trivial⟩, rfl, H.sel' [0, 1] rfl rfl⟩
   ·clear hj
    have h := h'
    clear h' H
    rintro e a w ⟨rfl, ρ, σ31, rfl, rfl, H⟩
    refine q_then (rg (sm (I s2.2) rfl (st (v := (I (w64 (s2.2 + 1)))) (rv_add (a := s2.2) (b := 1) rfl rfl) (sa (I (w64 (s2.2 + 1))) rfl (w_end (q_then ?_))))))
    obtain rfl := sj h
    exact ⟨_, rfl, _, σ31, fr_join ⟨rfl, rfl, rfl, rfl, rfl, trivial⟩, rfl, H.sel' [0, 1] rfl rfl⟩
  ·replace h := bif_f hb4 h
   refine c_exit (q_then_x (q_then_x (q_blk_hit ?_)))
   obtain rfl := sj h
   obtain rfl := hres _ rfl
   exact ⟨rfl, _, σ3, fr_join ⟨rfl, trivial⟩, rfl, H.sel' [] rfl rfl⟩
 ·clear hj
  have h := h'
  clear h' H
  rintro e a w ⟨rfl, ρ, σ32, rfl, rfl, H⟩
  refine q_then (c_seq (rg (sm (I o1) rfl (sa (I o1) rfl (w_end (q_then (c_ret ?_)))))))
  obtain rfl := sj h
  exact fin_ret (v := (I o1)) (results_ok Tryz.results59 (res_tmp (v := (I o1)) rfl res_nil) rfl) ⟨rfl, rfl⟩ (H.sel' [] rfl rfl)

theorem c_spec_nearest {Av : List (Int × (List Int) × Int)} {Ba : Int} {Bb : List Int} {Bc : Int} {Aw : Option Addr} {Ax : Nat} {Bd : Option Addr} {Be : Nat} {r : (List (Int × Int))} (h : M.spec_nearest Av Ba Bb Bc = some r) :
    Cal2 Tryz.prog 31 [(Sl Aw Av Ax), (I Ba), (Sl Bd Bb Be), (I Bc)] [Ch.ro 0 (Sl Aw Av Ax) Av, Ch.ro 0 (Sl Bd Bb Be) Bb] (fun n0 v L => ∃ (az1 : Option Addr), ∃ (cz2 : Nat), v = (Sl az1 r cz2) ∧ L = [Ch.own n0 n0 (Sl az1 r cz2) r]) := by
 refine cal2 (n := 36) Tryz.func31 rfl rfl rfl rfl ?_
 intro S0 σ0 n0 hn0 H
 unfold M.spec_nearest at h
 refine c_seq (rg (sa (.slice none 0 0) rfl (w_end (q_then (c_seq (rg ?_))))))
 refine st_ex (ex_buildSlice (el := n0) (xs := ([] : List (Int × Int))) (ps := []) (cs := []) H hn0 Tryz.underlying28 ti35 rfl rfl (by kernel_rfl) (.nil) rfl) wn ?_
 rintro _ σ2 ⟨b1, rfl, H, -⟩
 refine sa (Sl (some ⟨b1, 0, none⟩) ([] : List (Int × Int)) 0) rfl (w_end (q_then (c_seq (c_seq (rg (sa (I 0) rfl (w_end (q_then ?_))))))))
 obtain ⟨o3, hj, h'⟩ := bind_some h
 clear h
 refine c_cut (fun e a w => e = .normal ∧ ∃ (ρ : Nat → Value) (σ : St) (aj1 : Option Addr) (cj2 : Nat), a = fr 36 (updL ρ [(9, (Sl aj1 o3 cj2))]) ∧ w = σ.w ∧ Hp S0 σ0 σ [Ch.own n0 n0 (Sl aj1 o3 cj2) o3]) ?_ ?_
 ·clear h'
  rename _ = some o3 => h
  refine c_blk (wp_loopM _ h (fun s4 a w => ∃ (ρ : Nat → Value) (σ : St) (aj1 : Option Addr) (cj2 : Nat), a = fr 36 (updL ρ [(0, (Sl Aw Av Ax)), (1, (I Ba)), (2, (Sl Bd Bb Be)), (3, (I Bc)), (9, (Sl aj1 s4.1 cj2)), (10, (I s4.2))]) ∧ w = σ.w ∧ Hp S0 σ0 σ [Ch.ro 0 (Sl Aw Av Ax) Av, Ch.ro 0 (Sl Bd Bb Be) Bb, Ch.own n0 n0 (Sl aj1 s4.1 cj2) s4.1]) ⟨_, σ2, (some ⟨b1, 0, none⟩), 0, fr_join ⟨rfl, rfl, rfl, rfl, rfl, rfl, trivial⟩, rfl, H.sel' [1, 2, 0] rfl rfl⟩ ?_)
  clear h H
  rintro s4 a w o ⟨ρ, σ5, a6, c7, rfl, rfl, H⟩ h hres
  refine c_seq (c_seq (rg (sm (I s4.2) rfl (sm (Sl Aw Av Ax) rfl (st (v := (I (Av.length : Int))) (rv_len Tryz.underlying24 rfl) (st (v := (B (decide (s4.2 < (Av.length : Int))))) (rv_lss (a := s4.2) (b := (Av.length : Int)) rfl rfl) (w_end (q_then ?_))))))))
  refine cd_cond (decide (s4.2 < (Av.length : Int))) rfl (fun hb8 => ?_) (fun hb8 => ?_)
  ·replace h := bif_t hb8 h
   refine c_skip (q_then (c_seq (c_blk ?_)))
   revert h; refine br fun x9 hx10 h => ?_
   obtain ⟨b12, o13, hi11, -⟩ := (H.ro 0 rfl).ix hx10
   have hc14 := ((H.ro 0 rfl).at hx10 hi11).fst.int
   revert h; refine br fun x15 hx16 h => ?_
   obtain ⟨b18, o19, hi17, -⟩ := (H.ro 0 rfl).ix hx16
   obtain ⟨v23, hc24, hR22⟩ := ((H.ro 0 rfl).at hx16 hi17).snd.fst.slice
   obtain ⟨a20, c21, rfl⟩ := hR22.isSl
   replace H := H.add (d := Ch.ro 0 (Sl a20 x15.2.1 c21) x15.2.1) hR22 (fun _ h => h)
   clear hR22
   revert h; refine br fun r25 hx26 h => ?_
   have hc27 := c_spec_dist (Du := a20) (Dv := c21) (Dw := Bd) (Dx := Be) hx26
   have Hs := H
   refine rg2 (σ := σ5) (Nm := Unit) 16 [13] [[false], [true]] [[(0, 0), (1, 1)], [(0, 0), (1, 1)], [(0, 0), (1, 1)], [(0, 0), (1, 1)], [(0, 0), (1, 1)], [(0, 0), (1, 1)], [(0, 0)], [(0, 0)], [(0, 0)], [(0, 0)], [(0, 0)], [(0, 0)], [(0, 0)], [(0, 1)], [(1, 1)], [(0, 0), (1, 1)]] 1 [fun _ => fun σm => Hp S0 σ0 σm [Ch.ro 0 (Sl a20 x15.2.1 c21) x15.2.1, Ch.ro 0 (Sl Aw Av Ax) Av, Ch.ro 0 (Sl Bd Bb Be) Bb, Ch.own n0 n0 (Sl a6 s4.1 c7) s4.1] ∧ Md (cov []) σ5 σm, fun _ => fun σm => Hp S0 σ0 σm [Ch.ro 0 (Sl a20 x15.2.1 c21) x15.2.1, Ch.ro 0 (Sl Aw Av Ax) Av, Ch.ro 0 (Sl Bd Bb Be) Bb, Ch.own n0 n0 (Sl a6 s4.1 c7) s4.1] ∧ Md (cov []) σ5 σm] [fun _ => (Sl a6 s4.1 c7), fun _ => (Sl Aw Av Ax), fun _ => (I s4.2), fun _ => (pt b12 o13), fun _ => (pt b12 (o13 + 0)), fun _ => (I x9.1), fun _ => (I Ba), fun _ => (Sl Aw Av Ax), fun _ => (I s4.2), fun _ => (pt b18 o19), fun _ => (pt b18 (o19 + 1)), fun _ => (Sl a20 x15.2.1 c21), fun _ => (Sl Bd Bb Be), fun _ => (I r25), fun _ => (.agg #[(I x9.1), (I r25)]), fun _ => (I Bc)] () (by kernel_rfl) (by kernel_rfl) ?_ ?_ ?_
   ·intro σm m0
    exact ⟨H.grow (m0.mono fun _ h => h.elim), m0⟩
   ·refine ac rfl (by
      intro k _nm ρ σm hJ hoff hdep
      have e9 := look_off (N := 36) (hoff 9 rfl) rfl
      exact dp_v (v := (Sl a6 s4.1 c7)) wn (rv_move e9) rfl hJ) ?_
    refine ac rfl (by
      intro k _nm ρ σm hJ hoff hdep
      have e0 := look_off (N := 36) (hoff 0 rfl) rfl
      exact dp_v (v := (Sl Aw Av Ax)) wn (rv_move e0) rfl hJ) ?_
    refine ac rfl (by
      intro k _nm ρ σm hJ hoff hdep
      have e10 := look_off (N := 36) (hoff 10 rfl) rfl
      exact dp_v (v := (I s4.2)) wn (rv_move e10) rfl hJ) ?_
    refine ac rfl (by
      intro k _nm ρ σm hJ hoff hdep
      have e19 := hdep 1 rfl rfl 19 rfl
      have e20 := hdep 2 rfl rfl 20 rfl
      exact dp_v (v := (pt b12 o13)) wn (rv_ix Tryz.underlying24 ti41 e19 e20 hi11) rfl hJ) ?_
    refine ac rfl (by
      intro k _nm ρ σm hJ hoff hdep
      have e21 := hdep 3 rfl rfl 21 rfl
      exact dp_v (v := (pt b12 (o13 + 0))) wn (rv_fieldAddr (off := 0) (ft := 3) Tryz.underlying41 rfl ti3 rfl e21) rfl hJ) ?_
    refine all_cons (by
      refine ⟨?_, ?_⟩
      ·intro _nm ρ σm hJ hoff hdep
       have e22 := hdep 4 rfl rfl 22 rfl
       obtain ⟨H, m⟩ := id hJ
       replace hc14 := (Hs.ro 1 rfl).hmd hx10 hi11 (k := 0) (by decide) hc14 m
       exact dp_v (v := (I x9.1)) wn (rv_load1 Tryz.underlying3 rfl e22 hc14) rfl hJ
      refine ⟨?_, ?_⟩
      ·intro _nm ρ σm hJ hoff hdep
       have e22 := hdep 4 rfl rfl 22 rfl
       obtain ⟨H, m⟩ := id hJ
       replace hc14 := (Hs.ro 1 rfl).hmd hx10 hi11 (k := 0) (by decide) hc14 m
       exact dp_v (v := (I x9.1)) wn (rv_load1 Tryz.underlying3 rfl e22 hc14) rfl hJ
      trivial) ?_
    refine ac rfl (by
      intro k _nm ρ σm hJ hoff hdep
      have e1 := look_off (N := 36) (hoff 1 rfl) rfl
      exact dp_v (v := (I Ba)) wn (rv_move e1) rfl hJ) ?_
    refine ac rfl (by
      intro k _nm ρ σm hJ hoff hdep
      have e0 := look_off (N := 36) (hoff 0 rfl) rfl
      exact dp_v (v := (Sl Aw Av Ax)) wn (rv_move e0) rfl hJ) ?_
    refine ac rfl (by
      intro k _nm ρ σm hJ hoff hdep
      have e10 := look_off (N := 36) (hoff 10 rfl) rfl
      exact dp_v (v := (I s4.2)) wn (rv_move e10) rfl hJ) ?_
    refine ac rfl (by
      intro k _nm ρ σm hJ hoff hdep
      have e25 := hdep 7 rfl rfl 25 rfl
      have e26 := hdep 8 rfl rfl 26 rfl
      exact dp_v (v := (pt b18 o19)) wn (rv_ix Tryz.underlying24 ti41 e25 e26 hi17) rfl hJ) ?_
    refine ac rfl (by
      intro k _nm ρ σm hJ hoff hdep
      have e27 := hdep 9 rfl rfl 27 rfl
      exact dp_v (v := (pt b18 (o19 + 1))) wn (rv_fieldAddr (off := 1) (ft := 25) Tryz.underlying41 rfl ti25 rfl e27) rfl hJ) ?_
    refine all_cons (by
      refine ⟨?_, ?_⟩
      ·intro _nm ρ σm hJ hoff hdep
       have e28 := hdep 10 rfl rfl 28 rfl
       obtain ⟨H, m⟩ := id hJ
       replace hc24 := (Hs.ro 1 rfl).hmd hx16 hi17 (k := 1) (by decide) hc24 m
       exact dp_v (v := (Sl a20 x15.2.1 c21)) wn (rv_load1 Tryz.underlying25 rfl e28 hc24) rfl hJ
      trivial) ?_
    refine ac rfl (by
      intro k _nm ρ σm hJ hoff hdep
      have e2 := look_off (N := 36) (hoff 2 rfl) rfl
      exact dp_v (v := (Sl Bd Bb Be)) wn (rv_move e2) rfl hJ) ?_
    refine all_cons (by
      refine ⟨?_, ?_⟩
      ·intro _nm ρ σm hJ hoff hdep
       have e24 : look 36 ρ 24 = (I Ba) := hdep 6 rfl rfl 24 rfl
       have e29 : look 36 ρ 29 = (Sl a20 x15.2.1 c21) := hdep 11 rfl rfl 29 rfl
       have e30 : look 36 ρ 30 = (Sl Bd Bb Be) := hdep 12 rfl rfl 30 rfl
       obtain ⟨H, m⟩ := id hJ
       refine dp_cx wn (cx_call hc27 (ent_f hc27.fn (by show [look 36 ρ 24, look 36 ρ 29, look 36 ρ 30] = _; rw [e24, e29, e30])) hn0 (H.sel' [0, 2, 0, 1, 2, 3] rfl rfl : Hp S0 σ0 _ ([_, _] ++ _))) ?_
       rintro _ σq ⟨_, ⟨rfl, rfl⟩, H2, m2⟩
       exact ⟨_, (), rfl, rfl, ⟨H2.sel' [0, 1, 2, 3] rfl rfl, m.comp0 (m2.mono (fun i h => by simp [cov, Ch.ro] at h))⟩, stab [0, 1, 2, 3, 4, 5, 6, 7, 8, 9, 10, 11, 12, 15] (by kernel_rfl) ⟨rfl, rfl, rfl, rfl, rfl, rfl, rfl, rfl, rfl, rfl, rfl, rfl, rfl, rfl, trivial⟩⟩
      trivial) ?_
    refine ac rfl (by
      intro k _nm ρ σm hJ hoff hdep
      have e23 : look 36 ρ 23 = (I x9.1) := hdep 5 rfl rfl 23 rfl
      have e31 : look 36 ρ 31 = (I r25) := hdep 13 rfl rfl 31 rfl
      exact dp_v (v := (.agg #[(I x9.1), (I r25)])) wn (rv_build (ps := [(0, (I x9.1)), (1, (I r25))]) Tryz.underlying35 ti35 (bp35 Tryz.underlying35) (by show [(0, look 36 ρ 23), (1, look 36 ρ 31)] = _; rw [e23, e31]) (by kernel_rfl)) rfl hJ) ?_
    refine ac rfl (by
      intro k _nm ρ σm hJ hoff hdep
      have e3 := look_off (N := 36) (hoff 3 rfl) rfl
      exact dp_v (v := (I Bc)) wn (rv_move e3) rfl hJ) ?_
    exact all_nil
   ·intro _nm ρ σ28 hJ hoff hrel
    have e0 := look_off (N := 36) (hoff 0 rfl) rfl
    have e1 := look_off (N := 36) (hoff 1 rfl) rfl
    have e2 := look_off (N := 36) (hoff 2 rfl) rfl
    have e3 := look_off (N := 36) (hoff 3 rfl) rfl
    have e10 := look_off (N := 36) (hoff 10 rfl) rfl
    have e18 := hrel 0 rfl 18 rfl
    have e32 := hrel 14 rfl 32 rfl
    have e33 := hrel 15 rfl 33 rfl
    obtain ⟨H, -⟩ := (show Hp S0 σ0 σ28 [Ch.ro 0 (Sl a20 x15.2.1 c21) x15.2.1, Ch.ro 0 (Sl Aw Av Ax) Av, Ch.ro 0 (Sl Bd Bb Be) Bb, Ch.own n0 n0 (Sl a6 s4.1 c7) s4.1] ∧ Md (cov []) σ5 σ28 from hJ)
    clear hJ Hs
    rw [fr_lookL (L := [(0, (Sl Aw Av Ax)), (1, (I Ba)), (2, (Sl Bd Bb Be)), (3, (I Bc)), (10, (I s4.2)), (18, (Sl a6 s4.1 c7)), (32, (.agg #[(I x9.1), (I r25)])), (33, (I Bc))]) ⟨e0, e1, e2, e3, e10, e18, e32, e33, trivial⟩]
    clear hoff hrel e0 e1 e2 e3 e10 e18 e32 e33
    obtain ⟨σ29, hw30, H, -⟩ := H.pub 3 rfl (Nat.le_refl _)
    rw [← hw30]; clear hw30
    replace H := H.roLow 0 0 rfl (Nat.zero_le _)
    revert h; refine br fun r31 hx32 h => ?_
    have hc33 := c_spec_addHit (Aw := a6) (Ax := c7) hx32
    refine st_call (cx_call hc33 (ent_f hc33.fn rfl) hn0 (H.sel' [0, 0, 1, 2, 3, 4] rfl rfl : Hp S0 σ0 _ ([_] ++ _))) wn ?_
    rintro _ σ36 ⟨_, ⟨a34, c35, rfl, rfl⟩, H, -⟩
    replace H : Hp _ _ _ [_, _, _, _, _, _] := H
    refine sa (Sl a34 r31 c35) rfl (w_end (q_blk (q_then (rg (sm (I s4.2) rfl (st (v := (I (w64 (s4.2 + 1)))) (rv_add (a := s4.2) (b := 1) rfl rfl) (sa (I (w64 (s4.2 + 1))) rfl (w_end (q_then ?_)))))))))
    obtain rfl := sj h
    exact ⟨_, rfl, _, σ36, a34, c35, fr_join ⟨rfl, rfl, rfl, rfl, rfl, rfl, trivial⟩, rfl, H.sel' [4, 5, 0] rfl rfl⟩
  ·replace h := bif_f hb8 h
   refine c_exit (q_then_x (q_then_x (q_blk_hit ?_)))
   obtain rfl := sj h
   obtain rfl := hres _ rfl
   exact ⟨rfl, _, σ5, a6, c7, fr_join ⟨rfl, trivial⟩, rfl, H.sel' [2] rfl rfl⟩
 ·clear hj
  have h := h'
  clear h' H
  rintro e a w ⟨rfl, ρ, σ37, a38, c39, rfl, rfl, H⟩
  refine q_then (c_seq (rg (sm (Sl a38 o3 c39) rfl (sa (Sl a38 o3 c39) rfl (w_end (q_then (c_ret ?_)))))))
  obtain rfl := sj h
  exact fin_ret (v := (Sl a38 o3 c39)) (results_ok Tryz.results31 (res_tmp (v := (Sl a38 o3 c39)) rfl res_nil) rfl) ⟨a38, c39, rfl, rfl⟩ (H.sel' [0] rfl rfl)

theorem c_spec_Nearest {Av : List (Int × (List Int) × Int)} {Ba : Int} {Bb : List Int} {Bc : Int} {Aw : Option Addr} {Ax : Nat} {Bd : Option Addr} {Be : Nat} {r : (List (Int × Int))} (h : M.spec_Nearest Av Ba Bb Bc = some r) :
    Cal2 Tryz.prog 13 [(Sl Aw Av Ax), (I Ba), (Sl Bd Bb Be), (I Bc)] [Ch.ro 0 (Sl Aw Av Ax) Av, Ch.ro 0 (Sl Bd Bb Be) Bb] (fun n0 v L => ∃ (az1 : Option Addr), ∃ (cz2 : Nat), v = (Sl az1 r cz2) ∧ L = [Ch.own n0 n0 (Sl az1 r cz2) r]) := by
 refine cal2 (n := 24) Tryz.func13 rfl rfl rfl rfl ?_
 intro S0 σ0 n0 hn0 H
 unfold M.spec_Nearest at h
 refine c_seq (rg (sa (.slice none 0 0) rfl (w_end (q_then (c_seq (c_seq ?_))))))
 obtain ⟨o1, hj, h'⟩ := bind_some h
 clear h
 refine c_cut (fun e a w => e = .normal ∧ ∃ (ρ : Nat → Value) (σ : St), a = fr 24 (updL ρ [(0, (Sl Aw Av Ax)), (1, (I Ba)), (2, (Sl Bd Bb Be)), (3, (I Bc)), (18, (B o1))]) ∧ w = σ.w ∧ Hp S0 σ0 σ [Ch.ro 0 (Sl Aw Av Ax) Av, Ch.ro 0 (Sl Bd Bb Be) Bb]) ?_ ?_
 ·clear h'
  rename _ = some o1 => h
  refine rg (sm (Sl Aw Av Ax) rfl (sm (I Ba) rfl (sm (Sl Bd Bb Be) rfl ?_)))
  revert h; refine br fun r2 hx3 h => ?_
  have hc4 := c_spec_validQuery (Aw := Aw) (Ax := Ax) (Bd := Bd) (Be := Be) hx3
  refine st_call (cx_call hc4 (ent_f hc4.fn rfl) hn0 (H.sel' [0, 1, 0, 1] rfl rfl : Hp S0 σ0 _ ([_, _] ++ _))) wn ?_
  rintro _ σ5 ⟨_, ⟨rfl, rfl⟩, H, -⟩
  replace H : Hp _ _ _ [_, _] := H
  refine st (v := (B (!r2))) (rv_not rfl) (sm (B (!r2)) rfl ?_)
  rcases Bool.eq_false_or_eq_true (!r2) with hb6 | hb6
  ·replace h := bif_t hb6 h
   refine st_skip (congrArg some hb6) (st_skip (congrArg some hb6) (st_skip (congrArg some hb6) (st (v := (B true)) (rv_pick_t (congrArg B hb6) rfl) (w_end ?_))))
   obtain rfl := sj h
   exact ⟨rfl, _, σ5, fr_join ⟨rfl, rfl, rfl, rfl, rfl, trivial⟩, rfl, H.sel' [0, 1] rfl rfl⟩
  ·replace h := bif_f hb6 h
   refine st_g (v := (I Bc)) (congrArg some hb6) (rv_move rfl) ?_
   revert h; refine br fun r7 hx8 h => ?_
   have hc9 := c_spec_inRange hx8
   refine st_call (cx_call hc9 (ent_f hc9.fn rfl) hn0 (H.sel' [0, 1] rfl rfl : Hp S0 σ0 _ ([] ++ _))) (wanted_yes rfl (by exact (congrArg some hb6))) ?_
   rintro _ σ10 ⟨_, ⟨rfl, rfl⟩, H, -⟩
   replace H : Hp _ _ _ [_, _] := H
   refine st_g (v := (B (!r7))) (congrArg some hb6) (rv_not rfl) (st (v := (B (!r7))) (rv_pick_f (congrArg B hb6) rfl) (w_end ?_))
   obtain rfl := sj h
   exact ⟨rfl, _, σ10, fr_join ⟨rfl, rfl, rfl, rfl, rfl, trivial⟩, rfl, H.sel' [0, 1] rfl rfl⟩
 ·clear hj
  have h := h'
  clear h' H
  rintro e a w ⟨rfl, ρ, σ11, rfl, rfl, H⟩
  refine q_then ?_
  refine cd_cond o1 rfl (fun hb12 => ?_) (fun hb12 => ?_)
  ·replace h := bif_t hb12 h
   refine c_seq (rg (sa (.slice none 0 0) rfl (w_end (q_then (c_ret (q_then_r ?_))))))
   replace H := H.nilOwn (Int × Int) n0 n0
   obtain rfl := sj h
   exact fin_ret (v := (.slice none 0 0)) (results_ok Tryz.results13 (res_tmp (v := (.slice none 0 0)) rfl res_nil) rfl) ⟨none, 0, rfl, rfl⟩ (H.sel' [0] rfl rfl)
  ·replace h := bif_f hb12 h
   refine c_skip (q_then (c_seq (rg (sm (Sl Aw Av Ax) rfl (sm (I Ba) rfl (sm (Sl Bd Bb Be) rfl (sm (I Bc) rfl ?_)))))))
   revert h; refine br fun r13 hx14 h => ?_
   have hc15 := c_spec_nearest (Aw := Aw) (Ax := Ax) (Bd := Bd) (Be := Be) hx14
   refine st_call (cx_call hc15 (ent_f hc15.fn rfl) hn0 (H.sel' [0, 1, 0, 1] rfl rfl : Hp S0 σ0 _ ([_, _] ++ _))) wn ?_
   rintro _ σ18 ⟨_, ⟨a16, c17, rfl, rfl⟩, H, -⟩
   replace H : Hp _ _ _ [_, _, _] := H
   refine sa (Sl a16 r13 c17) rfl (w_end (q_then (c_ret ?_)))
   obtain rfl := sj h
   exact fin_ret (v := (Sl a16 r13 c17)) (results_ok Tryz.results13 (res_tmp (v := (Sl a16 r13 c17)) rfl res_nil) rfl) ⟨a16, c17, rfl, rfl⟩ (H.sel' [0] rfl rfl)

theorem c_impl_placeOf_1 {Ar : Int × (List Int) × Int} {Fs : Int} {As : Option Addr} {Au : Nat} {r : Int} (h : M.impl_placeOf_1 Ar Fs = some r) :
    Cal2 Tryz.prog 63 [(.agg #[(I Ar.1), (Sl As Ar.2.1 Au), (I Ar.2.2)]), (I Fs)] [Ch.ro 0 (Sl As Ar.2.1 Au) Ar.2.1] (fun n0 v L => v = (I r) ∧ L = []) := by
 refine cal2 (n := 9) Tryz.func63 rfl rfl rfl rfl ?_
 intro S0 σ0 n0 hn0 H
 unfold M.impl_placeOf_1 at h
 refine c_seq (rg (st_ex (ex_box (cs := [(I Ar.1), (Sl As Ar.2.1 Au), (I Ar.2.2)]) H hn0 rfl rfl) wn ?_))
 rintro _ σ2 ⟨b1, rfl, H, -⟩
 refine sa (I 0) rfl (w_end (q_then (c_seq (rg (st (v := (pt b1 0)) (rv_fieldAddr (off := 0) (ft := 3) Tryz.underlying41 rfl ti3 rfl rfl) ?_)))))
 have hc3 := H.cell (u := (I Ar.1)) (o' := 0) 0 0 rfl rfl rfl
 refine st (v := (I Ar.1)) (rv_load1 Tryz.underlying3 rfl rfl hc3) (sm (I Fs) rfl ?_)
 revert h; refine br fun r4 hx5 h => ?_
 have hc6 := c_cmp_Compare_int hx5
 refine st_call (cx_call hc6 (ent_f hc6.fn rfl) hn0 (H.sel' [0, 1] rfl rfl : Hp S0 σ0 _ ([] ++ _))) wn ?_
 rintro _ σ7 ⟨_, ⟨rfl, rfl⟩, H, -⟩
 replace H : Hp _ _ _ [_, _] := H
 refine sa (I r4) rfl (w_end (q_then (c_ret ?_)))
 obtain rfl := sj h
 exact fin_ret (v := (I r4)) (results_ok Tryz.results63 (res_tmp (v := (I r4)) rfl res_nil) rfl) ⟨rfl, rfl⟩ (H.sel' [] rfl rfl)

theorem c_slices_BinarySearchFunc_impl_Item_impl_Item_int__impl_placeOf_1 {Ar : List (Int × (List Int) × Int)} {Ft : Int} {Dk : Option Addr} {Dm : Nat} {r : Int × Bool} (h : M.slices_BinarySearchFunc_impl_Item_impl_Item_int__impl_placeOf_1 Ar Ft = some r) :
    Cal2 Tryz.prog 62 [(Sl Dk Ar Dm), (I Ft), (.func (.func 63) #[] #[])] [Ch.ro 0 (Sl Dk Ar Dm) Ar] (fun n0 v L => v = (.tuple #[(I r.1), (B r.2)]) ∧ L = []) := by
 refine cal2 (n := 49) Tryz.func62 rfl rfl rfl rfl ?_
 intro S0 σ0 n0 hn0 H
 unfold M.slices_BinarySearchFunc_impl_Item_impl_Item_int__impl_placeOf_1 at h
 refine c_seq (rg (sa (I 0) rfl (sa (B false) rfl (w_end (q_then (c_seq (rg (sm (Sl Dk Ar Dm) rfl (st (v := (I (Ar.length : Int))) (rv_len Tryz.underlying24 rfl) (sa (I (Ar.length : Int)) rfl (w_end ?_)))))))))))
 refine q_then (c_seq (rg (sm (I (Ar.length : Int)) rfl (sa (I 0) rfl (sa (I (Ar.length : Int)) rfl (w_end (q_then (c_seq ?_))))))))
 obtain ⟨o1, hj, h'⟩ := bind_some h
 clear h
 refine c_cut (fun e a w => e = .normal ∧ ∃ (ρ : Nat → Value) (σ : St), a = fr 49 (updL ρ [(0, (Sl Dk Ar Dm)), (1, (I Ft)), (2, (.func (.func 63) #[] #[])), (8, (I (Ar.length : Int))), (9, (I o1))]) ∧ w = σ.w ∧ Hp S0 σ0 σ [Ch.ro 0 (Sl Dk Ar Dm) Ar]) ?_ ?_
 ·clear h'
  rename _ = some o1 => h
  refine c_blk (wp_loopM _ h (fun s2 a w => ∃ (ρ : Nat → Value) (σ : St), a = fr 49 (updL ρ [(0, (Sl Dk Ar Dm)), (1, (I Ft)), (2, (.func (.func 63) #[] #[])), (8, (I (Ar.length : Int))), (9, (I s2.1)), (10, (I s2.2))]) ∧ w = σ.w ∧ Hp S0 σ0 σ [Ch.ro 0 (Sl Dk Ar Dm) Ar]) ⟨_, σ0, fr_join ⟨rfl, rfl, rfl, rfl, rfl, rfl, trivial⟩, rfl, H.sel' [0] rfl rfl⟩ ?_)
  clear h H
  rintro s2 a w o ⟨ρ, σ3, rfl, rfl, H⟩ h hres
  refine c_seq (c_seq (rg (sm (I s2.1) rfl (sm (I s2.2) rfl (st (v := (B (decide (s2.1 < s2.2)))) (rv_lss (a := s2.1) (b := s2.2) rfl rfl) (w_end (q_then ?_)))))))
  refine cd_cond (decide (s2.1 < s2.2)) rfl (fun hb4 => ?_) (fun hb4 => ?_)
  ·replace h := bif_t hb4 h
   refine c_skip (q_then (c_blk (c_seq (rg (sm (I s2.1) rfl (sm (I s2.2) rfl (st (v := (I (w64 (s2.1 + s2.2)))) (rv_add (a := s2.1) (b := s2.2) rfl rfl) (st (v := (.int .u64 (wk .u64 (w64 (s2.1 + s2.2))))) (rvk_conv (k := .i64) (k' := .u64) (a := (w64 (s2.1 + s2.2))) Tryz.underlying3 Tryz.underlying99 rfl) ?_))))))))
   refine st (v := (.int .u64 (gshr .u64 (wk .u64 (w64 (s2.1 + s2.2))) 1))) (rvk_shr (k := .u64) (k' := .u64) (a := (wk .u64 (w64 (s2.1 + s2.2)))) (b := 1) rfl rfl (by decide)) ?_
   refine st (v := (I (wk .i64 (gshr .u64 (wk .u64 (w64 (s2.1 + s2.2))) 1)))) (rvk_conv (k := .u64) (k' := .i64) (a := (gshr .u64 (wk .u64 (w64 (s2.1 + s2.2))) 1)) Tryz.underlying99 Tryz.underlying3 rfl) (sa (I (wk .i64 (gshr .u64 (wk .u64 (w64 (s2.1 + s2.2))) 1))) rfl (w_end (q_then (c_seq (rg (sm (.func (.func 63) #[] #[]) rfl (sm (Sl Dk Ar Dm) rfl (sm (I (wk .i64 (gshr .u64 (wk .u64 (w64 (s2.1 + s2.2))) 1))) rfl ?_))))))))
   revert h; refine br fun x5 hx6 h => ?_
   obtain ⟨b8, o9, hi7, -⟩ := (H.ro 0 rfl).ix hx6
   refine st (v := (pt b8 o9)) (rv_ix Tryz.underlying24 ti41 rfl rfl hi7) ?_
   obtain ⟨_, ⟨_, _, rfl, rfl, ⟨_, _, rfl, ⟨_, rfl, hR14⟩, rfl⟩⟩, hl10, hc11⟩ := ((H.ro 0 rfl).at hx6 hi7).cells
   obtain ⟨a12, c13, rfl⟩ := hR14.isSl
   replace H := H.add (d := Ch.ro 0 (Sl a12 x5.2.1 c13) x5.2.1) hR14 (fun _ h => h)
   clear hR14
   refine st (v := (.agg #[(I x5.1), (Sl a12 x5.2.1 c13), (I x5.2.2)])) (rv_load Tryz.underlying41 rfl ti41 rfl hl10 hc11) (sm (I Ft) rfl ?_)
   revert h; refine br fun r15 hx16 h => ?_
   have hc17 := c_impl_placeOf_1 (As := a12) (Au := c13) hx16
   refine st_call (cx_call hc17 (ent_v (cap := []) hc17.fn rfl rfl) hn0 (H.sel' [0, 0, 1] rfl rfl : Hp S0 σ0 _ ([_] ++ _))) wn ?_
   rintro _ σ18 ⟨_, ⟨rfl, rfl⟩, H, -⟩
   replace H : Hp _ _ _ [_, _] := H
   refine st (v := (B (decide (r15 < 0)))) (rv_lss (a := r15) (b := 0) rfl rfl) (w_end (q_then ?_))
   refine cd_cond (decide (r15 < 0)) rfl (fun hb19 => ?_) (fun hb19 => ?_)
   ·replace h := bif_t hb19 h
    refine rg (sm (I (wk .i64 (gshr .u64 (wk .u64 (w64 (s2.1 + s2.2))) 1))) rfl (st (v := (I (w64 ((wk .i64 (gshr .u64 (wk .u64 (w64 (s2.1 + s2.2))) 1)) + 1)))) (rv_add (a := (wk .i64 (gshr .u64 (wk .u64 (w64 (s2.1 + s2.2))) 1))) (b := 1) rfl rfl) (sa (I (w64 ((wk .i64 (gshr .u64 (wk .u64 (w64 (s2.1 + s2.2))) 1)) + 1))) rfl (w_end (q_blk (q_then ?_))))))
    obtain rfl := sj h
    exact ⟨_, rfl, _, σ18, fr_join ⟨rfl, rfl, rfl, rfl, rfl, rfl, trivial⟩, rfl, H.sel' [1] rfl rfl⟩
   ·replace h := bif_f hb19 h
    refine rg (sm (I (wk .i64 (gshr .u64 (wk .u64 (w64 (s2.1 + s2.2))) 1))) rfl (sa (I (wk .i64 (gshr .u64 (wk .u64 (w64 (s2.1 + s2.2))) 1))) rfl (w_end (q_blk (q_then ?_)))))
    obtain rfl := sj h
    exact ⟨_, rfl, _, σ18, fr_join ⟨rfl, rfl, rfl, rfl, rfl, rfl, trivial⟩, rfl, H.sel' [1] rfl rfl⟩
  ·replace h := bif_f hb4 h
   refine c_exit (q_then_x (q_then_x (q_blk_hit ?_)))
   obtain rfl := sj h
   obtain rfl := hres _ rfl
   exact ⟨rfl, _, σ3, fr_join ⟨rfl, rfl, rfl, rfl, rfl, trivial⟩, rfl, H.sel' [0] rfl rfl⟩
 ·clear hj
  have h := h'
  clear h' H
  rintro e a w ⟨rfl, ρ, σ20, rfl, rfl, H⟩
  refine q_then (c_seq (rg (sm (I o1) rfl (sm (I o1) rfl (sm (I (Ar.length : Int)) rfl (st (v := (B (decide (o1 < (Ar.length : Int))))) (rv_lss (a := o1) (b := (Ar.length : Int)) rfl rfl) (sm (B (decide (o1 < (Ar.length : Int)))) rfl ?_)))))))
  rcases Bool.eq_false_or_eq_true (decide (o1 < (Ar.length : Int))) with hb21 | hb21
  ·replace h := bif_t hb21 h
   refine st_g (v := (.func (.func 63) #[] #[])) (congrArg some hb21) (rv_move rfl) (st_g (v := (Sl Dk Ar Dm)) (congrArg some hb21) (rv_move rfl) (st_g (v := (I o1)) (congrArg some hb21) (rv_move rfl) ?_))
   revert h; refine br fun x22 hx23 h => ?_
   obtain ⟨b25, o26, hi24, -⟩ := (H.ro 0 rfl).ix hx23
   refine st_g (v := (pt b25 o26)) (congrArg some hb21) (rv_ix Tryz.underlying24 ti41 rfl rfl hi24) ?_
   obtain ⟨_, ⟨_, _, rfl, rfl, ⟨_, _, rfl, ⟨_, rfl, hR31⟩, rfl⟩⟩, hl27, hc28⟩ := ((H.ro 0 rfl).at hx23 hi24).cells
   obtain ⟨a29, c30, rfl⟩ := hR31.isSl
   replace H := H.add (d := Ch.ro 0 (Sl a29 x22.2.1 c30) x22.2.1) hR31 (fun _ h => h)
   clear hR31
   refine st_g (v := (.agg #[(I x22.1), (Sl a29 x22.2.1 c30), (I x22.2.2)])) (congrArg some hb21) (rv_load Tryz.underlying41 rfl ti41 rfl hl27 hc28) (st_g (v := (I Ft)) (congrArg some hb21) (rv_move rfl) ?_)
   revert h; refine br fun r32 hx33 h => ?_
   have hc34 := c_impl_placeOf_1 (As := a29) (Au := c30) hx33
   refine st_call (cx_call hc34 (ent_v (cap := []) hc34.fn rfl rfl) hn0 (H.sel' [0, 0, 1] rfl rfl : Hp S0 σ0 _ ([_] ++ _))) (wanted_yes rfl (by exact (congrArg some hb21))) ?_
   rintro _ σ35 ⟨_, ⟨rfl, rfl⟩, H, -⟩
   replace H : Hp _ _ _ [_, _] := H
   refine st_g (v := (B (r32 == 0))) (congrArg some hb21) (rv_eql (a := r32) (b := 0) rfl rfl) (st (v := (B (r32 == 0))) (rv_pick_t (congrArg B hb21) rfl) (sa (I o1) rfl (sa (B (r32 == 0)) rfl (w_end (q_then (c_ret ?_))))))
   obtain rfl := sj h
   exact fin_ret (v := (.tuple #[(I o1), (B (r32 == 0))])) (results_ok Tryz.results62 (res_tmp (v := (I o1)) rfl (res_tmp (v := (B (r32 == 0))) rfl res_nil)) rfl) ⟨rfl, rfl⟩ (H.sel' [] rfl rfl)
  ·replace h := bif_f hb21 h
   refine st_skip (congrArg some hb21) (st_skip (congrArg some hb21) (st_skip (congrArg some hb21) (st_skip (congrArg some hb21) (st_skip (congrArg some hb21) (st_skip (congrArg some hb21) (st_skip (congrArg some hb21) (st_skip (congrArg some hb21) (st (v := (B false)) (rv_pick_f (congrArg B hb21) rfl) (sa (I o1) rfl (sa (B false) rfl (w_end ?_)))))))))))
   refine q_then (c_ret ?_)
   obtain rfl := sj h
   exact fin_ret (v := (.tuple #[(I o1), (B false)])) (results_ok Tryz.results62 (res_tmp (v := (I o1)) rfl (res_tmp (v := (B false)) rfl res_nil)) rfl) ⟨rfl, rfl⟩ (H.sel' [] rfl rfl)

theorem c_impl_placeOf {Av : List (Int × (List Int) × Int)} {Fs : Int} {Aw : Option Addr} {Ax : Nat} {r : Int × Bool} (h : M.impl_placeOf Av Fs = some r) :
    Cal2 Tryz.prog 38 [(Sl Aw Av Ax), (I Fs)] [Ch.ro 0 (Sl Aw Av Ax) Av] (fun n0 v L => v = (.tuple #[(I r.1), (B r.2)]) ∧ L = []) := by
 refine cal2 (n := 11) Tryz.func38 rfl rfl rfl rfl ?_
 intro S0 σ0 n0 hn0 H
 unfold M.impl_placeOf at h
 refine c_seq (rg (sa (I 0) rfl (sa (B false) rfl (w_end (q_then (c_seq (rg (sm (Sl Aw Av Ax) rfl (sm (I Fs) rfl ?_)))))))))
 revert h; refine br fun r1 hx2 h => ?_
 have hc3 := c_slices_BinarySearchFunc_impl_Item_impl_Item_int__impl_placeOf_1 (Dk := Aw) (Dm := Ax) hx2
 refine st_call (cx_call hc3 (ent_f hc3.fn rfl) hn0 (H.sel' [0, 0] rfl rfl : Hp S0 σ0 _ ([_] ++ _))) wn ?_
 rintro _ σ4 ⟨_, ⟨rfl, rfl⟩, H, -⟩
 replace H : Hp _ _ _ [_] := H
 refine st (v := (I r1.1)) (rv_extract rfl rfl) (st (v := (B r1.2)) (rv_extract rfl rfl) (sa (I r1.1) rfl (sa (B r1.2) rfl (w_end (q_then (c_ret ?_))))))
 obtain rfl := sj h
 exact fin_ret (v := (.tuple #[(I r1.1), (B r1.2)])) (results_ok Tryz.results38 (res_tmp (v := (I r1.1)) rfl (res_tmp (v := (B r1.2)) rfl res_nil)) rfl) ⟨rfl, rfl⟩ (H.sel' [] rfl rfl)

theorem c_slices_Clone_int_int {Cp : List Int} {Cq : Option Addr} {Cr : Nat} {r : (List Int)} (h : M.slices_Clone_int_int Cp = some r) :
    Cal2 Tryz.prog 65 [(Sl Cq Cp Cr)] [Ch.ro 0 (Sl Cq Cp Cr) Cp] (fun n0 v L => ∃ (az1 : Option Addr), ∃ (cz2 : Nat), v = (Sl az1 r cz2) ∧ L = [Ch.own n0 n0 (Sl az1 r cz2) r]) := by
 refine cal2 (n := 8) Tryz.func65 rfl rfl rfl rfl ?_
 intro S0 σ0 n0 hn0 H
 unfold M.slices_Clone_int_int at h
 refine c_seq (rg (sa (.slice none 0 0) rfl (w_end (q_then (c_seq (c_seq (rg (sm (Sl Cq Cp Cr) rfl (st (v := (B Cq.isNone)) (rv_nilS Tryz.underlying25 rfl rfl) (w_end (q_then ?_)))))))))))
 refine cd_cond Cq.isNone rfl (fun hb1 => ?_) (fun hb1 => ?_)
 ·have hq := RS.nilOf hb1 (H.ro 0 rfl)
  subst hq
  replace h : some [] = some r := by simpa [gapp] using h
  refine c_seq (rg (sa (.slice none 0 0) rfl (w_end (q_then (c_ret (q_then_r ?_))))))
  replace H := H.nilOwn Int n0 n0
  obtain rfl := sj h
  exact fin_ret (v := (.slice none 0 0)) (results_ok Tryz.results65 (res_tmp (v := (.slice none 0 0)) rfl res_nil) rfl) ⟨none, 0, rfl, rfl⟩ (H.sel' [0] rfl rfl)
 ·refine c_skip ?_
  refine q_then (c_seq (rg ?_))
  refine st_ex (ex_buildSlice (el := n0) (xs := ([] : List Int)) (ps := []) (cs := []) H hn0 Tryz.underlying25 ti3 rfl rfl (by kernel_rfl) (.nil) rfl) wn ?_
  rintro _ σ3 ⟨b2, rfl, H, -⟩
  refine sm (Sl Cq Cp Cr) rfl ?_
  revert h; refine br fun xs4 hx5 h => ?_
  refine st_ex (ex_append H (i := 0) rfl Tryz.underlying25 Tryz.underlying25 ti3 rfl rfl (by decide) ((H.ro 1 rfl).rd.sc) hx5 hn0 rfl rfl) wn ?_
  rintro _ σ8 ⟨a6, c7, rfl, H, -⟩
  refine sa (Sl a6 xs4 c7) rfl (w_end (q_then (c_ret ?_)))
  obtain rfl := sj h
  exact fin_ret (v := (Sl a6 xs4 c7)) (results_ok Tryz.results65 (res_tmp (v := (Sl a6 xs4 c7)) rfl res_nil) rfl) ⟨a6, c7, rfl, rfl⟩ (H.sel' [0] rfl rfl)

theorem c_impl_copyItem {Ar : Int × (List Int) × Int} {As : Option Addr} {Au : Nat} {r : (Int × (List Int) × Int)} (h : M.impl_copyItem Ar = some r) :
    Cal2 Tryz.prog 40 [(.agg #[(I Ar.1), (Sl As Ar.2.1 Au), (I Ar.2.2)])] [Ch.ro 0 (Sl As Ar.2.1 Au) Ar.2.1] (fun n0 v L => ∃ (az1 : Option Addr), ∃ (cz2 : Nat), v = (.agg #[(I r.1), (Sl az1 r.2.1 cz2), (I r.2.2)]) ∧ L = [Ch.own n0 n0 (Sl az1 r.2.1 cz2) r.2.1]) := by
 refine cal2 (n := 11) Tryz.func40 rfl rfl rfl rfl ?_
 intro S0 σ0 n0 hn0 H
 unfold M.impl_copyItem at h
 refine c_seq (rg (st_ex (ex_box (cs := [(I Ar.1), (Sl As Ar.2.1 Au), (I Ar.2.2)]) H hn0 rfl rfl) wn ?_))
 rintro _ σ2 ⟨b1, rfl, H, -⟩
 refine st_ex (ex_alloc (cs := [(I 0), (.slice none 0 0), (I 0)]) H hn0 ti41 rfl) wn ?_
 rintro _ σ4 ⟨b3, rfl, H, -⟩
 refine w_end (q_then (c_seq ?_))
 have hc5 := H.cell (u := (I Ar.1)) (o' := 0) 1 0 rfl rfl rfl
 have hc6 := H.cell (u := (Sl As Ar.2.1 Au)) (o' := 1) 1 1 rfl rfl rfl
 revert h; refine br fun r7 hx8 h => ?_
 have hc9 := c_slices_Clone_int_int (Cq := As) (Cr := Au) hx8
 have hc12 := H.cell (u := (I Ar.2.2)) (o' := 2) 1 2 rfl rfl rfl
 have Hs := H
 refine rg2 (σ := σ4) (Nm := (Option Addr) × (Nat)) 7 [4] [[false], [true]] [[(0, 0), (1, 1)], [(0, 0), (1, 1)], [(0, 0)], [(0, 0)], [(0, 1)], [(0, 0), (1, 1)], [(0, 0), (1, 1)]] 1 [fun ((a10, c11) : (Option Addr) × (Nat)) => fun σm => Hp S0 σ0 σm [Ch.bx n0 b3 0 [(I 0), (.slice none 0 0), (I 0)] [] [], Ch.bx n0 b1 0 [(I Ar.1), (Sl As Ar.2.1 Au), (I Ar.2.2)] [] [], Ch.ro 0 (Sl As Ar.2.1 Au) Ar.2.1] ∧ Md (cov []) σ4 σm, fun ((a10, c11) : (Option Addr) × (Nat)) => fun σm => Hp S0 σ0 σm [Ch.own n0 n0 (Sl a10 r7 c11) r7, Ch.bx n0 b3 0 [(I 0), (.slice none 0 0), (I 0)] [] [], Ch.bx n0 b1 0 [(I Ar.1), (Sl As Ar.2.1 Au), (I Ar.2.2)] [] [], Ch.ro 0 (Sl As Ar.2.1 Au) Ar.2.1] ∧ Md (cov []) σ4 σm] [fun ((a10, c11) : (Option Addr) × (Nat)) => (pt b1 0), fun ((a10, c11) : (Option Addr) × (Nat)) => (I Ar.1), fun ((a10, c11) : (Option Addr) × (Nat)) => (pt b1 1), fun ((a10, c11) : (Option Addr) × (Nat)) => (Sl As Ar.2.1 Au), fun ((a10, c11) : (Option Addr) × (Nat)) => (Sl a10 r7 c11), fun ((a10, c11) : (Option Addr) × (Nat)) => (pt b1 2), fun ((a10, c11) : (Option Addr) × (Nat)) => (I Ar.2.2)] (none, 0) (by kernel_rfl) (by kernel_rfl) ?_ ?_ ?_
 ·intro σm m0
  exact ⟨H.grow (m0.mono fun _ h => h.elim), m0⟩
 ·refine ac rfl (by
    intro k; rintro ⟨a10, c11⟩ ρ σm hJ hoff hdep
    have e1 := look_off (N := 11) (hoff 1 rfl) rfl
    exact dp_v (v := (pt b1 0)) wn (rv_fieldAddr (off := 0) (ft := 3) Tryz.underlying41 rfl ti3 rfl e1) rfl hJ) ?_
  refine all_cons (by
    refine ⟨?_, ?_⟩
    ·rintro ⟨a10, c11⟩ ρ σm hJ hoff hdep
     have e3 := hdep 0 rfl rfl 3 rfl
     obtain ⟨H, m⟩ := id hJ
     have hc5 := H.cell (u := (I Ar.1)) (o' := 0) 1 0 rfl rfl rfl
     exact dp_v (v := (I Ar.1)) wn (rv_load1 Tryz.underlying3 rfl e3 hc5) rfl hJ
    refine ⟨?_, ?_⟩
    ·rintro ⟨a10, c11⟩ ρ σm hJ hoff hdep
     have e3 := hdep 0 rfl rfl 3 rfl
     obtain ⟨H, m⟩ := id hJ
     have hc5 := H.cell (u := (I Ar.1)) (o' := 0) 2 0 rfl rfl rfl
     exact dp_v (v := (I Ar.1)) wn (rv_load1 Tryz.underlying3 rfl e3 hc5) rfl hJ
    trivial) ?_
  refine ac rfl (by
    intro k; rintro ⟨a10, c11⟩ ρ σm hJ hoff hdep
    have e1 := look_off (N := 11) (hoff 1 rfl) rfl
    exact dp_v (v := (pt b1 1)) wn (rv_fieldAddr (off := 1) (ft := 25) Tryz.underlying41 rfl ti25 rfl e1) rfl hJ) ?_
  refine all_cons (by
    refine ⟨?_, ?_⟩
    ·rintro ⟨a10, c11⟩ ρ σm hJ hoff hdep
     have e5 := hdep 2 rfl rfl 5 rfl
     obtain ⟨H, m⟩ := id hJ
     have hc6 := H.cell (u := (Sl As Ar.2.1 Au)) (o' := 1) 1 1 rfl rfl rfl
     exact dp_v (v := (Sl As Ar.2.1 Au)) wn (rv_load1 Tryz.underlying25 rfl e5 hc6) rfl hJ
    trivial) ?_
  refine all_cons (by
    refine ⟨?_, ?_⟩
    ·rintro ⟨a10, c11⟩ ρ σm hJ hoff hdep
     have e6 : look 11 ρ 6 = (Sl As Ar.2.1 Au) := hdep 3 rfl rfl 6 rfl
     obtain ⟨H, m⟩ := id hJ
     refine dp_cx wn (cx_call hc9 (ent_f hc9.fn (by show [look 11 ρ 6] = _; rw [e6])) hn0 (H.sel' [2, 0, 1, 2] rfl rfl : Hp S0 σ0 _ ([_] ++ _))) ?_
     rintro _ σq ⟨_, ⟨a10x, c11x, rfl, rfl⟩, H2, m2⟩
     exact ⟨_, (a10x, c11x), rfl, rfl, ⟨H2.sel' [0, 1, 2, 3] rfl rfl, m.comp0 (m2.mono (fun i h => by simp [cov, Ch.ro] at h))⟩, stab [0, 1, 2, 3, 5, 6] (by kernel_rfl) ⟨rfl, rfl, rfl, rfl, rfl, rfl, trivial⟩⟩
    trivial) ?_
  refine ac rfl (by
    intro k; rintro ⟨a10, c11⟩ ρ σm hJ hoff hdep
    have e1 := look_off (N := 11) (hoff 1 rfl) rfl
    exact dp_v (v := (pt b1 2)) wn (rv_fieldAddr (off := 2) (ft := 3) Tryz.underlying41 rfl ti3 rfl e1) rfl hJ) ?_
  refine all_cons (by
    refine ⟨?_, ?_⟩
    ·rintro ⟨a10, c11⟩ ρ σm hJ hoff hdep
     have e8 := hdep 5 rfl rfl 8 rfl
     obtain ⟨H, m⟩ := id hJ
     have hc12 := H.cell (u := (I Ar.2.2)) (o' := 2) 1 2 rfl rfl rfl
     exact dp_v (v := (I Ar.2.2)) wn (rv_load1 Tryz.underlying3 rfl e8 hc12) rfl hJ
    refine ⟨?_, ?_⟩
    ·rintro ⟨a10, c11⟩ ρ σm hJ hoff hdep
     have e8 := hdep 5 rfl rfl 8 rfl
     obtain ⟨H, m⟩ := id hJ
     have hc12 := H.cell (u := (I Ar.2.2)) (o' := 2) 2 2 rfl rfl rfl
     exact dp_v (v := (I Ar.2.2)) wn (rv_load1 Tryz.underlying3 rfl e8 hc12) rfl hJ
    trivial) ?_
  exact all_nil
 ·rintro ⟨a10, c11⟩ ρ σ13 hJ hoff hrel
  have e2 := look_off (N := 11) (hoff 2 rfl) rfl
  have e4 := hrel 1 rfl 4 rfl
  have e7 := hrel 4 rfl 7 rfl
  have e9 := hrel 6 rfl 9 rfl
  obtain ⟨H, -⟩ := (show Hp S0 σ0 σ13 [Ch.own n0 n0 (Sl a10 r7 c11) r7, Ch.bx n0 b3 0 [(I 0), (.slice none 0 0), (I 0)] [] [], Ch.bx n0 b1 0 [(I Ar.1), (Sl As Ar.2.1 Au), (I Ar.2.2)] [] [], Ch.ro 0 (Sl As Ar.2.1 Au) Ar.2.1] ∧ Md (cov []) σ4 σ13 from hJ)
  clear hJ Hs
  rw [fr_lookL (L := [(2, (pt b3 0)), (4, (I Ar.1)), (7, (Sl a10 r7 c11)), (9, (I Ar.2.2))]) ⟨e2, e4, e7, e9, trivial⟩]
  clear hoff hrel e2 e4 e7 e9
  refine st (v := (.agg #[(I Ar.1), (Sl a10 r7 c11), (I Ar.2.2)])) (rv_build (ps := [(0, (I Ar.1)), (1, (Sl a10 r7 c11)), (2, (I Ar.2.2))]) Tryz.underlying41 ti41 (bp41 Tryz.underlying41) rfl (by kernel_rfl)) ?_
  refine st_exS (ex_store_box (k := 0) (cs := [(I 0), (.slice none 0 0), (I 0)]) (vs := [(I Ar.1), (Sl a10 r7 c11), (I Ar.2.2)]) (cs' := [(I Ar.1), (Sl a10 r7 c11), (I Ar.2.2)]) H (i := 1) rfl ti41 rfl rfl rfl rfl rfl (Nat.le_of_ble_eq_true rfl) (by simp [plain]) rfl) wn ?_
  rintro σ14 ⟨H, -⟩
  refine w_end (q_then (c_ret ?_))
  obtain rfl := sj h
  exact fin_ret (v := (.agg #[(I Ar.1), (Sl a10 r7 c11), (I Ar.2.2)])) (results_ok Tryz.results40 (res_cell rfl (run_cellRes (cs := [(I Ar.1), (Sl a10 r7 c11), (I Ar.2.2)]) Tryz.underlying41 rfl ti41 rfl (H.cells 0 rfl)) res_nil) rfl) ⟨a10, c11, rfl, rfl⟩ (H.sel' [1] rfl rfl)

theorem c_impl_copyItems {Av : List (Int × (List Int) × Int)} {Aw : Option Addr} {Ax : Nat} {r : (List (Int × (List Int) × Int))} (h : M.impl_copyItems Av = some r) :
    Cal2 Tryz.prog 39 [(Sl Aw Av Ax)] [Ch.ro 0 (Sl Aw Av Ax) Av] (fun n0 v L => ∃ (az1 : Option Addr), ∃ (cz2 : Nat), v = (Sl az1 r cz2) ∧ L = [Ch.own n0 n0 (Sl az1 r cz2) r] ∧ cz2 = r.length) := by
 refine cal2 (n := 23) Tryz.func39 rfl rfl rfl rfl ?_
 intro S0 σ0 n0 hn0 H
 unfold M.impl_copyItems at h
 refine c_seq (rg (sa (.slice none 0 0) rfl (w_end (q_then (c_seq (rg (sm (Sl Aw Av Ax) rfl (st (v := (I (Av.length : Int))) (rv_len Tryz.underlying24 rfl) ?_))))))))
 revert h; refine br fun xs1 hx2 h => ?_
 refine st_ex (ex_make (el := n0) (z0 := ((0, [], 0) : Int × (List Int) × Int)) (zs := [(I 0), (.slice none 0 0), (I 0)]) H hn0 Tryz.underlying24 ti41 rfl rfl (⟨[(I 0)], [(.slice none 0 0), (I 0)], rfl, rfl, ⟨[(.slice none 0 0)], [(I 0)], rfl, ⟨_, rfl, RS.nil⟩, rfl⟩⟩) (by decide) hx2 rfl rfl) wn ?_
 rintro _ σ6 ⟨b3, c4, rfl, ht5, H, -⟩
 replace ht5 := ht5.trans (gmake_len hx2).symm
 refine sa (Sl (some ⟨b3, 0, none⟩) xs1 c4) rfl (w_end (q_then (c_seq (c_seq (rg (sm (Sl Aw Av Ax) rfl (st (v := (I (Av.length : Int))) (rv_len Tryz.underlying24 rfl) (sm (I 0) rfl (w_end (q_then ?_))))))))))
 obtain ⟨o7, hj, h'⟩ := bind_some h
 clear h
 refine c_cut (fun e a w => e = .normal ∧ ∃ (ρ : Nat → Value) (σ : St), a = fr 23 (updL ρ [(3, (Sl (some ⟨b3, 0, none⟩) o7 c4))]) ∧ w = σ.w ∧ Hp S0 σ0 σ [Ch.own n0 n0 (Sl (some ⟨b3, 0, none⟩) o7 c4) o7] ∧ c4 = o7.length ∧ o7.length = xs1.length) ?_ ?_
 ·clear h'
  rename _ = some o7 => h
  refine c_blk (wp_loopM _ h (fun s8 a w => ∃ (ρ : Nat → Value) (σ : St), a = fr 23 (updL ρ [(3, (Sl (some ⟨b3, 0, none⟩) s8.1 c4)), (9, (Sl Aw Av Ax)), (10, (I (Av.length : Int))), (11, (I s8.2))]) ∧ w = σ.w ∧ Hp S0 σ0 σ [Ch.own n0 n0 (Sl (some ⟨b3, 0, none⟩) s8.1 c4) s8.1, Ch.ro 0 (Sl Aw Av Ax) Av] ∧ c4 = s8.1.length ∧ s8.1.length = xs1.length) ⟨_, σ6, fr_join ⟨rfl, rfl, rfl, rfl, trivial⟩, rfl, H.sel' [0, 1] rfl rfl, ht5, rfl⟩ ?_)
  clear h H
  rintro s8 a w o ⟨ρ, σ9, rfl, rfl, H, ht10, hn11⟩ h hres
  refine c_seq (rg (st (v := (B (decide (s8.2 < (Av.length : Int))))) (rv_lss (a := s8.2) (b := (Av.length : Int)) rfl rfl) (w_end (q_then (c_seq ?_)))))
  refine cd_cond (decide (s8.2 < (Av.length : Int))) rfl (fun hb12 => ?_) (fun hb12 => ?_)
  ·replace h := bif_t hb12 h
   refine c_skip (q_then (c_seq (c_blk (c_seq (rg (sm (I s8.2) rfl ?_))))))
   revert h; refine br fun x13 hx14 h => ?_
   obtain ⟨b16, o17, hi15, -⟩ := (H.ro 1 rfl).ix hx14
   refine st (v := (pt b16 o17)) (rv_ix Tryz.underlying24 ti41 rfl rfl hi15) ?_
   obtain ⟨_, ⟨_, _, rfl, rfl, ⟨_, _, rfl, ⟨_, rfl, hR22⟩, rfl⟩⟩, hl18, hc19⟩ := ((H.ro 1 rfl).at hx14 hi15).cells
   obtain ⟨a20, c21, rfl⟩ := hR22.isSl
   replace H := H.add (d := Ch.ro 0 (Sl a20 x13.2.1 c21) x13.2.1) hR22 (fun _ h => h)
   clear hR22
   refine st (v := (.agg #[(I x13.1), (Sl a20 x13.2.1 c21), (I x13.2.2)])) (rv_load Tryz.underlying41 rfl ti41 rfl hl18 hc19) (st_ex (ex_alloc (cs := [(I 0), (.slice none 0 0), (I 0)]) H hn0 ti41 rfl) wn ?_)
   rintro _ σ24 ⟨b23, rfl, H, -⟩
   refine sa (I s8.2) rfl ?_
   refine st_exS (ex_store_box (k := 0) (cs := [(I 0), (.slice none 0 0), (I 0)]) (vs := [(I x13.1), (Sl a20 x13.2.1 c21), (I x13.2.2)]) (cs' := [(I x13.1), (Sl a20 x13.2.1 c21), (I x13.2.2)]) H (i := 0) rfl ti41 rfl rfl rfl rfl rfl (Nat.le_of_ble_eq_true rfl) (by simp [plain]) rfl) wn ?_
   rintro σ25 ⟨H, -⟩
   refine w_end (q_then (rg (sm (Sl (some ⟨b3, 0, none⟩) s8.1 c4) rfl (sm (I s8.2) rfl ?_))))
   have hc26 := H.cells 0 rfl
   refine st (v := (.agg #[(I x13.1), (Sl a20 x13.2.1 c21), (I x13.2.2)])) (rv_load (cs := [(I x13.1), (Sl a20 x13.2.1 c21), (I x13.2.2)]) Tryz.underlying41 rfl ti41 rfl rfl hc26) ?_
   revert h; refine br fun r27 hx28 h => ?_
   have hc29 := c_impl_copyItem (As := a20) (Au := c21) hx28
   refine st_call (cx_call hc29 (ent_f hc29.fn rfl) hn0 (H.sel' [1, 0, 1, 2, 3] rfl rfl : Hp S0 σ0 _ ([_] ++ _))) wn ?_
   rintro _ σ32 ⟨_, ⟨a30, c31, rfl, rfl⟩, H, -⟩
   replace H : Hp _ _ _ [_, _, _, _, _] := H
   revert h; refine br fun x33 hx34 h => ?_
   obtain ⟨b36, o37, hi35, -⟩ := (H.own 3 rfl).ix hx34
   refine st (v := (pt b36 o37)) (rv_ix Tryz.underlying24 ti41 rfl rfl hi35) ?_
   obtain ⟨σ38, hw39, H, -⟩ := H.pub 0 rfl (Nat.le_refl _)
   rw [← hw39]; clear hw39
   refine st_exS (ex_store_own (e' := (r27.1, r27.2.1, r27.2.2)) (vs := [(I r27.1), (Sl a30 r27.2.1 c31), (I r27.2.2)]) (k := 0) H (i := 3) rfl ti41 hx34 hi35 rfl rfl rfl rfl rfl (Nat.le_of_ble_eq_true rfl) (by simp [plain]) (by rintro _ ⟨_, _, rfl, rfl, ⟨_, _, rfl, ⟨_, rfl, hR42⟩, rfl⟩⟩; exact ⟨[(I r27.1)], [(Sl a30 r27.2.1 c31), (I r27.2.2)], rfl, rfl, ⟨[(Sl a30 r27.2.1 c31)], [(I r27.2.2)], rfl, ⟨_, rfl, (H.ro 0 rfl)⟩, rfl⟩⟩)) wn ?_
   rintro σ43 ⟨H, -⟩
   have hsl : (Sl (some ⟨b3, 0, none⟩) s8.1 c4) = (Sl (some ⟨b3, 0, none⟩) (s8.1.set s8.2.toNat (r27.1, r27.2.1, r27.2.2)) c4) := sl_len List.length_set.symm
   rw [hsl]; rw [hsl] at H; clear hsl
   refine w_end (q_blk (q_then (rg (st (v := (I (w64 (s8.2 + 1)))) (rv_add (a := s8.2) (b := 1) rfl rfl) (sm (I (w64 (s8.2 + 1))) rfl (w_end (q_then ?_)))))))
   obtain rfl := sj h
   exact ⟨_, rfl, _, σ43, fr_join ⟨rfl, rfl, rfl, rfl, trivial⟩, rfl, H.sel' [0, 4] rfl rfl, (ht10.trans List.length_set.symm), (List.length_set.trans hn11)⟩
  ·replace h := bif_f hb12 h
   refine c_exit (q_then_x (q_then_x (q_blk_hit ?_)))
   obtain rfl := sj h
   obtain rfl := hres _ rfl
   exact ⟨rfl, _, σ9, fr_join ⟨rfl, trivial⟩, rfl, H.sel' [0] rfl rfl, ht10, hn11⟩
 ·clear hj
  have h := h'
  clear h' H
  rintro e a w ⟨rfl, ρ, σ44, rfl, rfl, H, ht45, hn46⟩
  refine q_then (c_seq (rg (sm (Sl (some ⟨b3, 0, none⟩) o7 c4) rfl (sa (Sl (some ⟨b3, 0, none⟩) o7 c4) rfl (w_end (q_then (c_ret ?_)))))))
  obtain rfl := sj h
  exact fin_ret (v := (Sl (some ⟨b3, 0, none⟩) o7 c4)) (results_ok Tryz.results39 (res_tmp (v := (Sl (some ⟨b3, 0, none⟩) o7 c4)) rfl res_nil) rfl) ⟨(some ⟨b3, 0, none⟩), c4, rfl, rfl, ht45⟩ (H.sel' [0] rfl rfl)

theorem c_slices_Reverse_impl_Item_impl_Item {Cp : List (Int × (List Int) × Int)} {Cq : Option Addr} {Cr : Nat} {r : (List (Int × (List Int) × Int))} (h : M.slices_Reverse_impl_Item_impl_Item Cp = some r) :
    Cal2 Tryz.prog 95 [(Sl Cq Cp Cr)] [Ch.own 0 0 (Sl Cq Cp Cr) Cp] (fun n0 v L => v = (.tuple #[]) ∧ L = [Ch.own 0 0 (Sl Cq r Cr) r] ∧ r.length = Cp.length) := by
 refine cal2 (n := 28) Tryz.func95 rfl rfl rfl rfl ?_
 intro S0 σ0 n0 hn0 H
 unfold M.slices_Reverse_impl_Item_impl_Item at h
 refine c_seq (rg (sm (Sl Cq Cp Cr) rfl (st (v := (I (Cp.length : Int))) (rv_len Tryz.underlying24 rfl) (st (v := (I (w64 ((Cp.length : Int) - 1)))) (rv_sub (a := (Cp.length : Int)) (b := 1) rfl rfl) (sa (I 0) rfl (sa (I (w64 ((Cp.length : Int) - 1))) rfl (w_end (q_then ?_))))))))
 obtain ⟨o1, hj, h'⟩ := bind_some h
 clear h
 refine c_cut (fun e a w => e = .normal ∧ ∃ (ρ : Nat → Value) (σ : St), a = fr 28 (updL ρ [(0, (Sl Cq o1 Cr))]) ∧ w = σ.w ∧ Hp S0 σ0 σ [Ch.own 0 0 (Sl Cq o1 Cr) o1] ∧ o1.length = Cp.length) ?_ ?_
 ·clear h'
  rename _ = some o1 => h
  refine c_blk (wp_loopM _ h (fun s2 a w => ∃ (ρ : Nat → Value) (σ : St), a = fr 28 (updL ρ [(0, (Sl Cq s2.1 Cr)), (2, (I s2.2.1)), (3, (I s2.2.2))]) ∧ w = σ.w ∧ Hp S0 σ0 σ [Ch.own 0 0 (Sl Cq s2.1 Cr) s2.1] ∧ s2.1.length = Cp.length) ⟨_, σ0, fr_join ⟨rfl, rfl, rfl, trivial⟩, rfl, H.sel' [0] rfl rfl, rfl⟩ ?_)
  clear h H
  rintro s2 a w o ⟨ρ, σ3, rfl, rfl, H, hn4⟩ h hres
  refine c_seq (c_seq (rg (sm (I s2.2.1) rfl (sm (I s2.2.2) rfl (st (v := (B (decide (s2.2.1 < s2.2.2)))) (rv_lss (a := s2.2.1) (b := s2.2.2) rfl rfl) (w_end (q_then ?_)))))))
  refine cd_cond (decide (s2.2.1 < s2.2.2)) rfl (fun hb5 => ?_) (fun hb5 => ?_)
  ·replace h := bif_t hb5 h
   refine c_skip (q_then (c_seq (c_blk ?_)))
   revert h; refine br fun x6 hx7 h => ?_
   obtain ⟨b9, o10, hi8, -⟩ := (H.own 0 rfl).ix hx7
   obtain ⟨_, ⟨_, _, rfl, rfl, ⟨_, _, rfl, ⟨_, rfl, hR15⟩, rfl⟩⟩, hl11, hc12⟩ := ((H.own 0 rfl).at hx7 hi8).cells
   obtain ⟨a13, c14, rfl⟩ := hR15.isSl
   replace H := H.add (d := Ch.ro 0 (Sl a13 x6.2.1 c14) x6.2.1) hR15 (fun _ h => h)
   clear hR15
   revert h; refine br fun x16 hx17 h => ?_
   obtain ⟨b19, o20, hi18, -⟩ := (H.own 1 rfl).ix hx17
   obtain ⟨_, ⟨_, _, rfl, rfl, ⟨_, _, rfl, ⟨_, rfl, hR25⟩, rfl⟩⟩, hl21, hc22⟩ := ((H.own 1 rfl).at hx17 hi18).cells
   obtain ⟨a23, c24, rfl⟩ := hR25.isSl
   replace H := H.add (d := Ch.ro 0 (Sl a23 x16.2.1 c24) x16.2.1) hR25 (fun _ h => h)
   clear hR25
   revert h; refine br fun x26 hx27 h => ?_
   obtain ⟨b29, o30, hi28, -⟩ := (H.own 2 rfl).ix hx27
   have Hs := H
   refine rg2 (σ := σ3) (Nm := Unit) 14 [13] [[false], [true]] [[(0, 0)], [(0, 0)], [(0, 0), (1, 1)], [(0, 0), (1, 1)], [(0, 0)], [(0, 0)], [(0, 0)], [(0, 0)], [(0, 0)], [(0, 0)], [(0, 0)], [(0, 0)], [(0, 0)], [(0, 1)]] 1 [fun _ => fun σm => Hp S0 σ0 σm [Ch.ro 0 (Sl a23 x16.2.1 c24) x16.2.1, Ch.ro 0 (Sl a13 x6.2.1 c14) x6.2.1, Ch.own 0 0 (Sl Cq s2.1 Cr) s2.1] ∧ Md (cov []) σ3 σm, fun _ => fun σm => Hp S0 σ0 σm [Ch.own 0 0 (Sl Cq s2.1 Cr) (s2.1.set s2.2.1.toNat (x6.1, x6.2.1, x6.2.2)), Ch.ro 0 (Sl a23 x16.2.1 c24) x16.2.1, Ch.ro 0 (Sl a13 x6.2.1 c14) x6.2.1] ∧ Md (fun i => (cov []) i ∨ (fun b => blk (Sl Cq s2.1 Cr) = some b) i) σ3 σm] [fun _ => (Sl Cq s2.1 Cr), fun _ => (I s2.2.1), fun _ => (Sl Cq s2.1 Cr), fun _ => (I s2.2.2), fun _ => (Sl Cq s2.1 Cr), fun _ => (I s2.2.2), fun _ => (pt b9 o10), fun _ => (.agg #[(I x6.1), (Sl a13 x6.2.1 c14), (I x6.2.2)]), fun _ => (Sl Cq s2.1 Cr), fun _ => (I s2.2.1), fun _ => (pt b19 o20), fun _ => (.agg #[(I x16.1), (Sl a23 x16.2.1 c24), (I x16.2.2)]), fun _ => (pt b29 o30), fun _ => undef] () (by kernel_rfl) (by kernel_rfl) ?_ ?_ ?_
   ·intro σm m0
    exact ⟨H.grow (m0.mono fun _ h => h.elim), m0⟩
   ·refine ac rfl (by
      intro k _nm ρ σm hJ hoff hdep
      have e0 := look_off (N := 28) (hoff 0 rfl) rfl
      exact dp_v (v := (Sl Cq s2.1 Cr)) wn (rv_move e0) rfl hJ) ?_
    refine ac rfl (by
      intro k _nm ρ σm hJ hoff hdep
      have e2 := look_off (N := 28) (hoff 2 rfl) rfl
      exact dp_v (v := (I s2.2.1)) wn (rv_move e2) rfl hJ) ?_
    refine ac rfl (by
      intro k _nm ρ σm hJ hoff hdep
      have e0 := look_off (N := 28) (hoff 0 rfl) rfl
      exact dp_v (v := (Sl Cq s2.1 Cr)) wn (rv_move e0) rfl hJ) ?_
    refine ac rfl (by
      intro k _nm ρ σm hJ hoff hdep
      have e3 := look_off (N := 28) (hoff 3 rfl) rfl
      exact dp_v (v := (I s2.2.2)) wn (rv_move e3) rfl hJ) ?_
    refine ac rfl (by
      intro k _nm ρ σm hJ hoff hdep
      have e0 := look_off (N := 28) (hoff 0 rfl) rfl
      exact dp_v (v := (Sl Cq s2.1 Cr)) wn (rv_move e0) rfl hJ) ?_
    refine ac rfl (by
      intro k _nm ρ σm hJ hoff hdep
      have e3 := look_off (N := 28) (hoff 3 rfl) rfl
      exact dp_v (v := (I s2.2.2)) wn (rv_move e3) rfl hJ) ?_
    refine ac rfl (by
      intro k _nm ρ σm hJ hoff hdep
      have e18 := hdep 4 rfl rfl 18 rfl
      have e19 := hdep 5 rfl rfl 19 rfl
      exact dp_v (v := (pt b9 o10)) wn (rv_ix Tryz.underlying24 ti41 e18 e19 hi8) rfl hJ) ?_
    refine all_cons (by
      refine ⟨?_, ?_⟩
      ·intro _nm ρ σm hJ hoff hdep
       have e20 := hdep 6 rfl rfl 20 rfl
       obtain ⟨H, m⟩ := id hJ
       replace hc12 := fun j hj => m.hcell (hc12 j hj) nocov
       exact dp_v (v := (.agg #[(I x6.1), (Sl a13 x6.2.1 c14), (I x6.2.2)])) wn (rv_load Tryz.underlying41 rfl ti41 e20 hl11 hc12) rfl hJ
      trivial) ?_
    refine ac rfl (by
      intro k _nm ρ σm hJ hoff hdep
      have e0 := look_off (N := 28) (hoff 0 rfl) rfl
      exact dp_v (v := (Sl Cq s2.1 Cr)) wn (rv_move e0) rfl hJ) ?_
    refine ac rfl (by
      intro k _nm ρ σm hJ hoff hdep
      have e2 := look_off (N := 28) (hoff 2 rfl) rfl
      exact dp_v (v := (I s2.2.1)) wn (rv_move e2) rfl hJ) ?_
    refine ac rfl (by
      intro k _nm ρ σm hJ hoff hdep
      have e22 := hdep 8 rfl rfl 22 rfl
      have e23 := hdep 9 rfl rfl 23 rfl
      exact dp_v (v := (pt b19 o20)) wn (rv_ix Tryz.underlying24 ti41 e22 e23 hi18) rfl hJ) ?_
    refine all_cons (by
      refine ⟨?_, ?_⟩
      ·intro _nm ρ σm hJ hoff hdep
       have e24 := hdep 10 rfl rfl 24 rfl
       obtain ⟨H, m⟩ := id hJ
       replace hc22 := fun j hj => m.hcell (hc22 j hj) nocov
       exact dp_v (v := (.agg #[(I x16.1), (Sl a23 x16.2.1 c24), (I x16.2.2)])) wn (rv_load Tryz.underlying41 rfl ti41 e24 hl21 hc22) rfl hJ
      trivial) ?_
    refine ac rfl (by
      intro k _nm ρ σm hJ hoff hdep
      have e14 := hdep 0 rfl rfl 14 rfl
      have e15 := hdep 1 rfl rfl 15 rfl
      exact dp_v (v := (pt b29 o30)) wn (rv_ix Tryz.underlying24 ti41 e14 e15 hi28) rfl hJ) ?_
    refine all_cons (by
      refine ⟨?_, ?_⟩
      ·intro _nm ρ σm hJ hoff hdep
       have e26 := hdep 12 rfl rfl 26 rfl
       have e21 := hdep 7 rfl rfl 21 rfl
       obtain ⟨H, m⟩ := id hJ
       refine dp_exS wn rfl (ex_store_own (e' := (x6.1, x6.2.1, x6.2.2)) (vs := [(I x6.1), (Sl a13 x6.2.1 c14), (I x6.2.2)]) (k := 0) H (i := 2) rfl ti41 hx27 hi28 e26 rfl e21 rfl rfl (Nat.le_of_ble_eq_true rfl) (by simp [plain]) (by rintro _ ⟨_, _, rfl, rfl, ⟨_, _, rfl, ⟨_, rfl, hR33⟩, rfl⟩⟩; exact ⟨[(I x6.1)], [(Sl a13 x6.2.1 c14), (I x6.2.2)], rfl, rfl, ⟨[(Sl a13 x6.2.1 c14)], [(I x6.2.2)], rfl, ⟨_, rfl, (H.ro 1 rfl)⟩, rfl⟩⟩)) ?_
       rintro σq ⟨H2, m2⟩
       exact ⟨_, (), rfl, ⟨H2.sel' [0, 1, 2] rfl rfl, m.comp m2⟩, stab [0, 1, 2, 3, 4, 5, 6, 7, 8, 9, 10, 11, 12] (by kernel_rfl) ⟨rfl, rfl, rfl, rfl, rfl, rfl, rfl, rfl, rfl, rfl, rfl, rfl, rfl, trivial⟩⟩
      trivial) ?_
    exact all_nil
   ·intro _nm ρ σ34 hJ hoff hrel
    have e0 := look_off (N := 28) (hoff 0 rfl) rfl
    have e2 := look_off (N := 28) (hoff 2 rfl) rfl
    have e3 := look_off (N := 28) (hoff 3 rfl) rfl
    have e16 := hrel 2 rfl 16 rfl
    have e17 := hrel 3 rfl 17 rfl
    have e25 := hrel 11 rfl 25 rfl
    obtain ⟨H, -⟩ := (show Hp S0 σ0 σ34 [Ch.own 0 0 (Sl Cq s2.1 Cr) (s2.1.set s2.2.1.toNat (x6.1, x6.2.1, x6.2.2)), Ch.ro 0 (Sl a23 x16.2.1 c24) x16.2.1, Ch.ro 0 (Sl a13 x6.2.1 c14) x6.2.1] ∧ Md (fun i => (cov []) i ∨ (fun b => blk (Sl Cq s2.1 Cr) = some b) i) σ3 σ34 from hJ)
    clear hJ Hs
    rw [fr_lookL (L := [(0, (Sl Cq s2.1 Cr)), (2, (I s2.2.1)), (3, (I s2.2.2)), (16, (Sl Cq s2.1 Cr)), (17, (I s2.2.2)), (25, (.agg #[(I x16.1), (Sl a23 x16.2.1 c24), (I x16.2.2)]))]) ⟨e0, e2, e3, e16, e17, e25, trivial⟩]
    clear hoff hrel e0 e2 e3 e16 e17 e25
    have hsl : (Sl Cq s2.1 Cr) = (Sl Cq (s2.1.set s2.2.1.toNat (x6.1, x6.2.1, x6.2.2)) Cr) := sl_len (by simp)
    rw [hsl]; rw [hsl] at H; clear hsl
    revert h; refine br fun x35 hx36 h => ?_
    obtain ⟨b38, o39, hi37, -⟩ := (H.own 0 rfl).ix hx36
    refine st (v := (pt b38 o39)) (rv_ix Tryz.underlying24 ti41 rfl rfl hi37) ?_
    refine st_exS (ex_store_own (e' := (x16.1, x16.2.1, x16.2.2)) (vs := [(I x16.1), (Sl a23 x16.2.1 c24), (I x16.2.2)]) (k := 0) H (i := 0) rfl ti41 hx36 hi37 rfl rfl rfl rfl rfl (Nat.le_of_ble_eq_true rfl) (by simp [plain]) (by rintro _ ⟨_, _, rfl, rfl, ⟨_, _, rfl, ⟨_, rfl, hR42⟩, rfl⟩⟩; exact ⟨[(I x16.1)], [(Sl a23 x16.2.1 c24), (I x16.2.2)], rfl, rfl, ⟨[(Sl a23 x16.2.1 c24)], [(I x16.2.2)], rfl, ⟨_, rfl, (H.ro 1 rfl)⟩, rfl⟩⟩)) wn ?_
    rintro σ43 ⟨H, -⟩
    have hsl : (Sl Cq (s2.1.set s2.2.1.toNat (x6.1, x6.2.1, x6.2.2)) Cr) = (Sl Cq ((s2.1.set s2.2.1.toNat (x6.1, x6.2.1, x6.2.2)).set s2.2.2.toNat (x16.1, x16.2.1, x16.2.2)) Cr) := sl_len List.length_set.symm
    rw [hsl]; rw [hsl] at H; clear hsl
    refine w_end (q_blk (q_then (rg (sm (I s2.2.1) rfl (st (v := (I (w64 (s2.2.1 + 1)))) (rv_add (a := s2.2.1) (b := 1) rfl rfl) (sm (I s2.2.2) rfl (st (v := (I (w64 (s2.2.2 - 1)))) (rv_sub (a := s2.2.2) (b := 1) rfl rfl) (sa (I (w64 (s2.2.1 + 1))) rfl (sa (I (w64 (s2.2.2 - 1))) rfl (w_end (q_then ?_)))))))))))
    obtain rfl := sj h
    exact ⟨_, rfl, _, σ43, fr_join ⟨rfl, rfl, rfl, trivial⟩, rfl, H.sel' [0] rfl rfl, (List.length_set.trans (List.length_set.trans hn4))⟩
  ·replace h := bif_f hb5 h
   refine c_exit (q_then_x (q_then_x (q_blk_hit ?_)))
   obtain rfl := sj h
   obtain rfl := hres _ rfl
   exact ⟨rfl, _, σ3, fr_join ⟨rfl, trivial⟩, rfl, H.sel' [0] rfl rfl, hn4⟩
 ·clear hj
  have h := h'
  clear h' H
  rintro e a w ⟨rfl, ρ, σ44, rfl, rfl, H, hn45⟩
  obtain rfl := sj h
  exact fin_end (v := (.tuple #[])) (results_ok Tryz.results95 res_nil rfl) ⟨rfl, rfl, hn45⟩ (H.sel' [0] rfl rfl)

theorem c_slices_Insert_impl_Item_impl_Item {Cp : List (Int × (List Int) × Int)} {Bs : Int} {Fu : List (Int × (List Int) × Int)} {Cq : Option Addr} {Cr : Nat} (Fv : Cr = Cp.length) {Fw : Option Addr} {Fx : Nat} {r : (List (Int × (List Int) × Int))} (h : M.slices_Insert_impl_Item_impl_Item Cp Bs Fu = some r) :
    Cal2 Tryz.prog 41 [(Sl Cq Cp Cr), (I Bs), (Sl Fw Fu Fx)] [Ch.own 0 0 (Sl Cq Cp Cr) Cp, Ch.ro 0 (Sl Fw Fu Fx) Fu] (fun n0 v L => ∃ (az1 : Option Addr), ∃ (cz2 : Nat), v = (Sl az1 r cz2) ∧ L = [Ch.own 0 0 (Sl az1 r cz2) r]) := by
 refine cal2 (n := 95) Tryz.func41 rfl rfl rfl rfl ?_
 intro S0 σ0 n0 hn0 H
 unfold M.slices_Insert_impl_Item_impl_Item at h
 refine c_seq (rg (sa (.slice none 0 0) rfl (w_end (q_then (c_seq (rg (sm (Sl Cq Cp Cr) rfl (sm (I Bs) rfl ?_))))))))
 revert h; refine br fun xs1 hx2 h => ?_
 obtain ⟨a3, c4, hs5, -⟩ := (H.own 0 rfl).slice hx2
 refine st (v := (Sl a3 xs1 c4)) (rv_slice_l Tryz.underlying24 ti41 hs5 rfl rfl) (w_end (q_then (c_seq (rg (sm (Sl Fw Fu Fx) rfl (st (v := (I (Fu.length : Int))) (rv_len Tryz.underlying24 rfl) (sa (I (Fu.length : Int)) rfl (w_end (q_then (c_seq (c_seq ?_)))))))))))
 refine rg (sm (I (Fu.length : Int)) rfl (st (v := (B ((Fu.length : Int) == 0))) (rv_eql (a := (Fu.length : Int)) (b := 0) rfl rfl) (w_end (q_then ?_))))
 refine cd_cond ((Fu.length : Int) == 0) rfl (fun hb7 => ?_) (fun hb7 => ?_)
 ·replace h := bif_t hb7 h
  refine c_seq (rg (sm (Sl Cq Cp Cr) rfl (sa (Sl Cq Cp Cr) rfl (w_end (q_then (c_ret (q_then_r ?_)))))))
  obtain rfl := sj h
  exact fin_ret (v := (Sl Cq Cp Cr)) (results_ok Tryz.results41 (res_tmp (v := (Sl Cq Cp Cr)) rfl res_nil) rfl) ⟨Cq, Cr, rfl, rfl⟩ (H.sel' [0] rfl rfl)
 ·replace h := bif_f hb7 h
  refine c_skip (q_then (c_seq (rg (sm (Sl Cq Cp Cr) rfl (st (v := (I (Cp.length : Int))) (rv_len Tryz.underlying24 rfl) (sa (I (Cp.length : Int)) rfl (w_end (q_then (c_seq (c_seq (rg ?_)))))))))))
  refine sm (I Bs) rfl (sm (I (Cp.length : Int)) rfl (st (v := (B (Bs == (Cp.length : Int)))) (rv_eql (a := Bs) (b := (Cp.length : Int)) rfl rfl) (w_end (q_then ?_))))
  refine cd_cond (Bs == (Cp.length : Int)) rfl (fun hb8 => ?_) (fun hb8 => ?_)
  ·replace h := bif_t hb8 h
   refine c_seq (rg (sm (Sl Cq Cp Cr) rfl (sm (Sl Fw Fu Fx) rfl ?_)))
   revert h; refine br fun xs9 hx10 h => ?_
   refine st_ex (ex_append H (i := 0) rfl Tryz.underlying24 Tryz.underlying24 ti41 rfl rfl (by decide) (H.ro 1 rfl).rd hx10 (Nat.zero_le _) rfl rfl) wn ?_
   rintro _ σ13 ⟨a11, c12, rfl, H, -⟩
   refine sa (Sl a11 xs9 c12) rfl (w_end (q_then (c_ret (q_then_r ?_))))
   obtain rfl := sj h
   exact fin_ret (v := (Sl a11 xs9 c12)) (results_ok Tryz.results41 (res_tmp (v := (Sl a11 xs9 c12)) rfl res_nil) rfl) ⟨a11, c12, rfl, rfl⟩ (H.sel' [0] rfl rfl)
  ·replace h := bif_f hb8 h
   refine c_skip (q_then (c_seq (c_seq (rg (sm (I (Cp.length : Int)) rfl (sm (I (Fu.length : Int)) rfl (st (v := (I (w64 ((Cp.length : Int) + (Fu.length : Int))))) (rv_add (a := (Cp.length : Int)) (b := (Fu.length : Int)) rfl rfl) (sm (Sl Cq Cp Cr) rfl (st (v := (I (Cp.length : Int))) (rv_cap Tryz.underlying24 rfl Fv) (st (v := (B (decide ((Cp.length : Int) < (w64 ((Cp.length : Int) + (Fu.length : Int))))))) (rv_gtr (a := (w64 ((Cp.length : Int) + (Fu.length : Int)))) (b := (Cp.length : Int)) rfl rfl) (w_end ?_)))))))))))
   refine q_then ?_
   refine cd_cond (decide ((Cp.length : Int) < (w64 ((Cp.length : Int) + (Fu.length : Int))))) rfl (fun hb14 => ?_) (fun hb14 => ?_)
   ·replace h := bif_t hb14 h
    refine c_seq (rg (sm (Sl Cq Cp Cr) rfl (sm (I Bs) rfl ?_)))
    revert h; refine br fun xs15 hx16 h => ?_
    obtain ⟨a17, c18, hs19, -⟩ := (H.own 0 rfl).slice hx16
    refine st (v := (Sl a17 xs15 c18)) (rv_slice_h Tryz.underlying24 ti41 hs19 rfl rfl) (sm (I (Cp.length : Int)) rfl (sm (I (Fu.length : Int)) rfl (st (v := (I (w64 ((Cp.length : Int) + (Fu.length : Int))))) (rv_add (a := (Cp.length : Int)) (b := (Fu.length : Int)) rfl rfl) (sm (I Bs) rfl (st (v := (I (w64 ((w64 ((Cp.length : Int) + (Fu.length : Int))) - Bs)))) (rv_sub (a := (w64 ((Cp.length : Int) + (Fu.length : Int)))) (b := Bs) rfl rfl) ?_)))))
    revert h; refine br fun xs21 hx22 h => ?_
    refine st_ex (ex_appZ (z0 := ((0, [], 0) : Int × (List Int) × Int)) (zs := [(I 0), (.slice none 0 0), (I 0)]) H (i := 0) rfl Tryz.underlying24 Tryz.underlying3 ti41 rfl rfl (⟨[(I 0)], [(.slice none 0 0), (I 0)], rfl, rfl, ⟨[(.slice none 0 0)], [(I 0)], rfl, ⟨_, rfl, RS.nil⟩, rfl⟩⟩) (by decide) Fv hx16 hs19 hx22 (app_new (by have := gslice_some hx16; omega) (gslice_some hx16).2.2.1 hb14) hn0 rfl rfl) wn ?_
    rintro _ σ25 ⟨b23, c24, rfl, H, -⟩
    refine sa (Sl (some ⟨b23, 0, none⟩) xs21 c24) rfl (w_end (q_then (c_seq (rg (sm (Sl (some ⟨b23, 0, none⟩) xs21 c24) rfl (sm (I Bs) rfl ?_))))))
    revert h; refine br fun xs26 hx27 h => ?_
    obtain ⟨a28, c29, hs30, -⟩ := (H.own 0 rfl).slice hx27
    refine st (v := (Sl a28 xs26 c29)) (rv_slice_l Tryz.underlying24 ti41 hs30 rfl rfl) (sm (Sl Fw Fu Fx) rfl (st_ex (ex_copyV H (i := 0) rfl Tryz.underlying24 ti41 rfl hx27 hs30 (H.ro 2 rfl).rd rfl rfl) wn ?_))
    rintro _ σ32 ⟨rfl, H, -⟩
    have hsl : (Sl (some ⟨b23, 0, none⟩) xs21 c24) = (Sl (some ⟨b23, 0, none⟩) (gcopyAt xs21 (Bs).toNat xs26.length Fu) c24) := sl_len (gcopyAt_len (by have := gslice_some hx27; omega)).symm
    rw [hsl]; rw [hsl] at H; clear hsl
    refine w_end (q_then (c_seq ?_))
    refine rgP (σ := σ32) 8 (by kernel_rfl) (by kernel_rfl) (by kernel_rfl) ?_
    refine sq (v := (Sl (some ⟨b23, 0, none⟩) (gcopyAt xs21 (Bs).toNat xs26.length Fu) c24)) (rv_move rfl) (sq (v := (I Bs)) (rv_move rfl) (sq (v := (I (Fu.length : Int))) (rv_move rfl) (sq (v := (I (w64 (Bs + (Fu.length : Int))))) (rv_add (a := Bs) (b := (Fu.length : Int)) rfl rfl) ?_)))
    revert h; refine br fun xs33 hx34 h => ?_
    obtain ⟨a35, c36, hs37, -⟩ := (H.own 0 rfl).slice hx34
    refine sq (v := (Sl a35 xs33 c36)) (rv_slice_l Tryz.underlying24 ti41 hs37 rfl rfl) (sq (v := (Sl Cq Cp Cr)) (rv_move rfl) (sq (v := (I Bs)) (rv_move rfl) ?_))
    revert h; refine br fun xs39 hx40 h => ?_
    obtain ⟨a41, c42, hs43, -⟩ := (H.own 1 rfl).slice hx40
    refine sq (v := (Sl a41 xs39 c42)) (rv_slice_l Tryz.underlying24 ti41 hs43 rfl rfl) (sq_end ?_)
    intro σ45 hm46
    replace H := H.grow (hm46.mono fun _ h => h); clear hm46
    refine st_ex (ex_copyV H (i := 0) rfl Tryz.underlying24 ti41 rfl hx34 hs37 ((H.own 1 rfl).view hx40 hs43).1.rd rfl rfl) wn ?_
    rintro _ σ47 ⟨rfl, H, -⟩
    have hsl : (Sl (some ⟨b23, 0, none⟩) (gcopyAt xs21 (Bs).toNat xs26.length Fu) c24) = (Sl (some ⟨b23, 0, none⟩) (gcopyAt (gcopyAt xs21 (Bs).toNat xs26.length Fu) (w64 (Bs + (Fu.length : Int))).toNat xs33.length xs39) c24) := sl_len (gcopyAt_len (by have := gslice_some hx34; omega)).symm
    rw [hsl]; rw [hsl] at H; clear hsl
    refine w_end (q_then (c_seq (rg (sm (Sl (some ⟨b23, 0, none⟩) (gcopyAt (gcopyAt xs21 (Bs).toNat xs26.length Fu) (w64 (Bs + (Fu.length : Int))).toNat xs33.length xs39) c24) rfl (sa (Sl (some ⟨b23, 0, none⟩) (gcopyAt (gcopyAt xs21 (Bs).toNat xs26.length Fu) (w64 (Bs + (Fu.length : Int))).toNat xs33.length xs39) c24) rfl (w_end (q_then (c_ret (q_then_r ?_)))))))))
    replace H := H.ownLow 0 0 0 rfl (Nat.zero_le _) (Nat.le_refl _)
    obtain rfl := sj h
    exact fin_ret (v := (Sl (some ⟨b23, 0, none⟩) (gcopyAt (gcopyAt xs21 (Bs).toNat xs26.length Fu) (w64 (Bs + (Fu.length : Int))).toNat xs33.length xs39) c24)) (results_ok Tryz.results41 (res_tmp (v := (Sl (some ⟨b23, 0, none⟩) (gcopyAt (gcopyAt xs21 (Bs).toNat xs26.length Fu) (w64 (Bs + (Fu.length : Int))).toNat xs33.length xs39) c24)) rfl res_nil) rfl) ⟨(some ⟨b23, 0, none⟩), c24, rfl, rfl⟩ (H.sel' [0] rfl rfl)
   ·replace h := bif_f hb14 h
    cases h

theorem c_impl_PutItem {Av : List (Int × (List Int) × Int)} {Bg : Int × (List Int) × Int} {Aw : Option Addr} {Ax : Nat} {Fo : Option Addr} {Fp : Nat} {r : (List (Int × (List Int) × Int)) × Bool} (h : M.impl_PutItem Av Bg = some r) :
    Cal2 Tryz.prog 14 [(Sl Aw Av Ax), (.agg #[(I Bg.1), (Sl Fo Bg.2.1 Fp), (I Bg.2.2)])] [Ch.ro 0 (Sl Aw Av Ax) Av, Ch.ro 0 (Sl Fo Bg.2.1 Fp) Bg.2.1] (fun n0 v L => ∃ (az1 : Option Addr), ∃ (cz2 : Nat), v = (.tuple #[(Sl az1 r.1 cz2), (B r.2)]) ∧ L = [Ch.own 0 0 (Sl az1 r.1 cz2) r.1]) := by
 refine cal2 (n := 43) Tryz.func14 rfl rfl rfl rfl ?_
 intro S0 σ0 n0 hn0 H
 unfold M.impl_PutItem at h
 refine c_seq (rg (st_ex (ex_box (cs := [(I Bg.1), (Sl Fo Bg.2.1 Fp), (I Bg.2.2)]) H hn0 rfl rfl) wn ?_))
 rintro _ σ2 ⟨b1, rfl, H, -⟩
 refine sa (.slice none 0 0) rfl (sa (B false) rfl (w_end (q_then (c_seq (c_seq ?_)))))
 obtain ⟨o3, hj, h'⟩ := bind_some h
 clear h
 refine c_cut (fun e a w => e = .normal ∧ ∃ (ρ : Nat → Value) (σ : St), a = fr 43 (updL ρ [(0, (Sl Aw Av Ax)), (3, (pt b1 0)), (16, (B o3))]) ∧ w = σ.w ∧ Hp S0 σ0 σ [Ch.ro 0 (Sl Aw Av Ax) Av, Ch.ro 0 (Sl Fo Bg.2.1 Fp) Bg.2.1, Ch.bx n0 b1 0 [(I Bg.1), (Sl Fo Bg.2.1 Fp), (I Bg.2.2)] [] []]) ?_ ?_
 ·clear h'
  rename _ = some o3 => h
  refine rg (sm (Sl Aw Av Ax) rfl ?_)
  revert h; refine br fun r4 hx5 h => ?_
  have hc6 := c_impl_ValidStore (Aw := Aw) (Ax := Ax) hx5
  refine st_call (cx_call hc6 (ent_f hc6.fn rfl) hn0 (H.sel' [1, 0, 1, 2] rfl rfl : Hp S0 σ0 _ ([_] ++ _))) wn ?_
  rintro _ σ7 ⟨_, ⟨rfl, rfl⟩, H, -⟩
  replace H : Hp _ _ _ [_, _, _] := H
  refine st (v := (B (!r4))) (rv_not rfl) (sm (B (!r4)) rfl ?_)
  rcases Bool.eq_false_or_eq_true (!r4) with hb8 | hb8
  ·replace h := bif_t hb8 h
   refine st_skip (congrArg some hb8) (st_skip (congrArg some hb8) (st_skip (congrArg some hb8) (st (v := (B true)) (rv_pick_t (congrArg B hb8) rfl) (w_end ?_))))
   obtain rfl := sj h
   exact ⟨rfl, _, σ7, fr_join ⟨rfl, rfl, rfl, trivial⟩, rfl, H.sel' [1, 2, 0] rfl rfl⟩
  ·replace h := bif_f hb8 h
   have hc9 := H.cells 0 rfl
   refine st_g (v := (.agg #[(I Bg.1), (Sl Fo Bg.2.1 Fp), (I Bg.2.2)])) (congrArg some hb8) (rv_load (cs := [(I Bg.1), (Sl Fo Bg.2.1 Fp), (I Bg.2.2)]) Tryz.underlying41 rfl ti41 rfl rfl hc9) ?_
   revert h; refine br fun r10 hx11 h => ?_
   have hc12 := c_impl_validItem (As := Fo) (Au := Fp) hx11
   refine st_call (cx_call hc12 (ent_f hc12.fn rfl) hn0 (H.sel' [2, 0, 1, 2] rfl rfl : Hp S0 σ0 _ ([_] ++ _))) (wanted_yes rfl (by exact (congrArg some hb8))) ?_
   rintro _ σ13 ⟨_, ⟨rfl, rfl⟩, H, -⟩
   replace H : Hp _ _ _ [_, _, _] := H
   refine st_g (v := (B (!r10))) (congrArg some hb8) (rv_not rfl) (st (v := (B (!r10))) (rv_pick_f (congrArg B hb8) rfl) (w_end ?_))
   obtain rfl := sj h
   exact ⟨rfl, _, σ13, fr_join ⟨rfl, rfl, rfl, trivial⟩, rfl, H.sel' [1, 2, 0] rfl rfl⟩
 ·clear hj
  have h := h'
  clear h' H
  rintro e a w ⟨rfl, ρ, σ14, rfl, rfl, H⟩
  refine q_then ?_
  refine cd_cond o3 rfl (fun hb15 => ?_) (fun hb15 => ?_)
  ·replace h := bif_t hb15 h
   refine c_seq (rg (sa (.slice none 0 0) rfl (sa (B false) rfl (w_end (q_then (c_ret (q_then_r ?_)))))))
   replace H := H.nilOwn (Int × (List Int) × Int) 0 0
   obtain rfl := sj h
   exact fin_ret (v := (.tuple #[(.slice none 0 0), (B false)])) (results_ok Tryz.results14 (res_tmp (v := (.slice none 0 0)) rfl (res_tmp (v := (B false)) rfl res_nil)) rfl) ⟨none, 0, rfl, rfl⟩ (H.sel' [0] rfl rfl)
  ·replace h := bif_f hb15 h
   refine c_skip (q_then (c_seq (rg (sm (Sl Aw Av Ax) rfl (st (v := (pt b1 0)) (rv_fieldAddr (off := 0) (ft := 3) Tryz.underlying41 rfl ti3 rfl rfl) ?_)))))
   have hc16 := H.cell (u := (I Bg.1)) (o' := 0) 2 0 rfl rfl rfl
   refine st (v := (I Bg.1)) (rv_load1 Tryz.underlying3 rfl rfl hc16) ?_
   revert h; refine br fun r17 hx18 h => ?_
   have hc19 := c_impl_placeOf (Aw := Aw) (Ax := Ax) hx18
   refine st_call (cx_call hc19 (ent_f hc19.fn rfl) hn0 (H.sel' [0, 0, 1, 2] rfl rfl : Hp S0 σ0 _ ([_] ++ _))) wn ?_
   rintro _ σ20 ⟨_, ⟨rfl, rfl⟩, H, -⟩
   replace H : Hp _ _ _ [_, _, _] := H
   refine sm (.tuple #[(I r17.1), (B r17.2)]) rfl (st (v := (I r17.1)) (rv_extract rfl rfl) (st (v := (B r17.2)) (rv_extract rfl rfl) (sa (I r17.1) rfl (sa (B r17.2) rfl (w_end (q_then (c_seq (c_seq (rg (sm (B r17.2) rfl (w_end ?_)))))))))))
   refine q_then ?_
   refine cd_cond r17.2 rfl (fun hb21 => ?_) (fun hb21 => ?_)
   ·replace h := bif_t hb21 h
    refine c_seq (rg (sm (Sl Aw Av Ax) rfl ?_))
    revert h; refine br fun r22 hx23 h => ?_
    have hc24 := c_impl_copyItems (Aw := Aw) (Ax := Ax) hx23
    refine st_call (cx_call hc24 (ent_f hc24.fn rfl) hn0 (H.sel' [0, 0, 1, 2] rfl rfl : Hp S0 σ0 _ ([_] ++ _))) wn ?_
    rintro _ σ28 ⟨_, ⟨a25, c26, rfl, rfl, ht27⟩, H, -⟩
    replace H : Hp _ _ _ [_, _, _, _] := H
    refine sa (Sl a25 r22 c26) rfl (w_end (q_then (c_seq (rg (sm (Sl a25 r22 c26) rfl (sm (I r17.1) rfl ?_))))))
    have hc29 := H.cells 3 rfl
    refine st (v := (.agg #[(I Bg.1), (Sl Fo Bg.2.1 Fp), (I Bg.2.2)])) (rv_load (cs := [(I Bg.1), (Sl Fo Bg.2.1 Fp), (I Bg.2.2)]) Tryz.underlying41 rfl ti41 rfl rfl hc29) ?_
    revert h; refine br fun r30 hx31 h => ?_
    have hc32 := c_impl_copyItem (As := Fo) (Au := Fp) hx31
    refine st_call (cx_call hc32 (ent_f hc32.fn rfl) hn0 (H.sel' [2, 0, 1, 2, 3] rfl rfl : Hp S0 σ0 _ ([_] ++ _))) wn ?_
    rintro _ σ35 ⟨_, ⟨a33, c34, rfl, rfl⟩, H, -⟩
    replace H : Hp _ _ _ [_, _, _, _, _] := H
    revert h; refine br fun x36 hx37 h => ?_
    obtain ⟨b39, o40, hi38, -⟩ := (H.own 1 rfl).ix hx37
    refine st (v := (pt b39 o40)) (rv_ix Tryz.underlying24 ti41 rfl rfl hi38) ?_
    obtain ⟨σ41, hw42, H, -⟩ := H.pub 0 rfl (Nat.le_refl _)
    rw [← hw42]; clear hw42
    refine st_exS (ex_store_own (e' := (r30.1, r30.2.1, r30.2.2)) (vs := [(I r30.1), (Sl a33 r30.2.1 c34), (I r30.2.2)]) (k := 0) H (i := 1) rfl ti41 hx37 hi38 rfl rfl rfl rfl rfl (Nat.le_of_ble_eq_true rfl) (by simp [plain]) (by rintro _ ⟨_, _, rfl, rfl, ⟨_, _, rfl, ⟨_, rfl, hR45⟩, rfl⟩⟩; exact ⟨[(I r30.1)], [(Sl a33 r30.2.1 c34), (I r30.2.2)], rfl, rfl, ⟨[(Sl a33 r30.2.1 c34)], [(I r30.2.2)], rfl, ⟨_, rfl, (H.ro 0 rfl)⟩, rfl⟩⟩)) wn ?_
    rintro σ46 ⟨H, -⟩
    have hsl : (Sl a25 r22 c26) = (Sl a25 (r22.set r17.1.toNat (r30.1, r30.2.1, r30.2.2)) c26) := sl_len List.length_set.symm
    rw [hsl]; rw [hsl] at H; clear hsl
    refine w_end (q_then (c_seq (rg (sm (Sl a25 (r22.set r17.1.toNat (r30.1, r30.2.1, r30.2.2)) c26) rfl (sa (Sl a25 (r22.set r17.1.toNat (r30.1, r30.2.1, r30.2.2)) c26) rfl (sa (B true) rfl (w_end (q_then (c_ret (q_then_r ?_))))))))))
    replace H := H.ownLow 0 0 0 rfl (Nat.zero_le _) (Nat.zero_le _)
    obtain rfl := sj h
    exact fin_ret (v := (.tuple #[(Sl a25 (r22.set r17.1.toNat (r30.1, r30.2.1, r30.2.2)) c26), (B true)])) (results_ok Tryz.results14 (res_tmp (v := (Sl a25 (r22.set r17.1.toNat (r30.1, r30.2.1, r30.2.2)) c26)) rfl (res_tmp (v := (B true)) rfl res_nil)) rfl) ⟨a25, c26, rfl, rfl⟩ (H.sel' [0] rfl rfl)
   ·replace h := bif_f hb21 h
    refine c_skip (q_then (c_seq (c_seq (rg (sm (Sl Aw Av Ax) rfl (st (v := (I (Av.length : Int))) (rv_len Tryz.underlying24 rfl) (st (v := (B ((Av.length : Int) == 16))) (rv_eql (a := (Av.length : Int)) (b := 16) rfl rfl) (w_end (q_then ?_)))))))))
    refine cd_cond ((Av.length : Int) == 16) rfl (fun hb47 => ?_) (fun hb47 => ?_)
    ·replace h := bif_t hb47 h
     refine c_seq (rg (sa (.slice none 0 0) rfl (sa (B false) rfl (w_end (q_then (c_ret (q_then_r ?_)))))))
     replace H := H.nilOwn (Int × (List Int) × Int) 0 0
     obtain rfl := sj h
     exact fin_ret (v := (.tuple #[(.slice none 0 0), (B false)])) (results_ok Tryz.results14 (res_tmp (v := (.slice none 0 0)) rfl (res_tmp (v := (B false)) rfl res_nil)) rfl) ⟨none, 0, rfl, rfl⟩ (H.sel' [0] rfl rfl)
    ·replace h := bif_f hb47 h
     refine c_skip (q_then (c_seq ?_))
     revert h; refine br fun r48 hx49 h => ?_
     have hc50 := c_impl_copyItems (Aw := Aw) (Ax := Ax) hx49
     have hc54 := H.cells 2 rfl
     revert h; refine br fun r55 hx56 h => ?_
     have hc57 := c_impl_copyItem (As := Fo) (Au := Fp) hx56
     have Hs := H
     refine rg2 (σ := σ20) (Nm := (Option Addr) × (Nat) × (Option Addr) × (Nat) × (Nat)) 6 [1, 4, 5] [[false, false, false], [true, false, false], [true, true, false], [true, true, true]] [[(0, 0)], [(0, 1)], [(0, 0), (1, 1), (2, 2), (3, 3)], [(0, 0), (1, 1)], [(1, 2)], [(2, 3)]] 3 [fun ((a51, c52, a58, c59, b60) : (Option Addr) × (Nat) × (Option Addr) × (Nat) × (Nat)) => fun σm => Hp S0 σ0 σm [Ch.ro 0 (Sl Aw Av Ax) Av, Ch.ro 0 (Sl Fo Bg.2.1 Fp) Bg.2.1, Ch.bx n0 b1 0 [(I Bg.1), (Sl Fo Bg.2.1 Fp), (I Bg.2.2)] [] []] ∧ Md (cov []) σ20 σm, fun ((a51, c52, a58, c59, b60) : (Option Addr) × (Nat) × (Option Addr) × (Nat) × (Nat)) => fun σm => Hp S0 σ0 σm [Ch.own n0 n0 (Sl a51 r48 c52) r48, Ch.ro 0 (Sl Aw Av Ax) Av, Ch.ro 0 (Sl Fo Bg.2.1 Fp) Bg.2.1, Ch.bx n0 b1 0 [(I Bg.1), (Sl Fo Bg.2.1 Fp), (I Bg.2.2)] [] []] ∧ Md (cov []) σ20 σm ∧ c52 = r48.length, fun ((a51, c52, a58, c59, b60) : (Option Addr) × (Nat) × (Option Addr) × (Nat) × (Nat)) => fun σm => Hp S0 σ0 σm [Ch.ro n0 (Sl a58 r55.2.1 c59) r55.2.1, Ch.own n0 n0 (Sl a51 r48 c52) r48, Ch.ro 0 (Sl Aw Av Ax) Av, Ch.ro 0 (Sl Fo Bg.2.1 Fp) Bg.2.1, Ch.bx n0 b1 0 [(I Bg.1), (Sl Fo Bg.2.1 Fp), (I Bg.2.2)] [] []] ∧ Md (fun i => (cov []) i ∨ (fun i => (cov [Ch.ro 0 (Sl Fo Bg.2.1 Fp) Bg.2.1]) i ∨ (fun b => blk (Sl a58 r55.2.1 c59) = some b) i) i) σ20 σm ∧ c52 = r48.length, fun ((a51, c52, a58, c59, b60) : (Option Addr) × (Nat) × (Option Addr) × (Nat) × (Nat)) => fun σm => Hp S0 σ0 σm [Ch.own n0 n0 (Sl (some ⟨b60, 0, none⟩) ([(r55.1, r55.2.1, r55.2.2)] : List (Int × (List Int) × Int)) 1) ([(r55.1, r55.2.1, r55.2.2)] : List (Int × (List Int) × Int)), Ch.ro n0 (Sl a58 r55.2.1 c59) r55.2.1, Ch.own n0 n0 (Sl a51 r48 c52) r48, Ch.ro 0 (Sl Aw Av Ax) Av, Ch.ro 0 (Sl Fo Bg.2.1 Fp) Bg.2.1, Ch.bx n0 b1 0 [(I Bg.1), (Sl Fo Bg.2.1 Fp), (I Bg.2.2)] [] []] ∧ Md (fun i => (cov []) i ∨ (fun i => (cov [Ch.ro 0 (Sl Fo Bg.2.1 Fp) Bg.2.1]) i ∨ (fun b => blk (Sl a58 r55.2.1 c59) = some b) i) i) σ20 σm ∧ c52 = r48.length] [fun ((a51, c52, a58, c59, b60) : (Option Addr) × (Nat) × (Option Addr) × (Nat) × (Nat)) => (Sl Aw Av Ax), fun ((a51, c52, a58, c59, b60) : (Option Addr) × (Nat) × (Option Addr) × (Nat) × (Nat)) => (Sl a51 r48 c52), fun ((a51, c52, a58, c59, b60) : (Option Addr) × (Nat) × (Option Addr) × (Nat) × (Nat)) => (I r17.1), fun ((a51, c52, a58, c59, b60) : (Option Addr) × (Nat) × (Option Addr) × (Nat) × (Nat)) => (.agg #[(I Bg.1), (Sl Fo Bg.2.1 Fp), (I Bg.2.2)]), fun ((a51, c52, a58, c59, b60) : (Option Addr) × (Nat) × (Option Addr) × (Nat) × (Nat)) => (.agg #[(I r55.1), (Sl a58 r55.2.1 c59), (I r55.2.2)]), fun ((a51, c52, a58, c59, b60) : (Option Addr) × (Nat) × (Option Addr) × (Nat) × (Nat)) => (Sl (some ⟨b60, 0, none⟩) ([(r55.1, r55.2.1, r55.2.2)] : List (Int × (List Int) × Int)) 1)] (none, 0, none, 0, 0) (by kernel_rfl) (by kernel_rfl) ?_ ?_ ?_
     ·intro σm m0
      exact ⟨H.grow (m0.mono fun _ h => h.elim), m0⟩
     ·refine ac rfl (by
        intro k; rintro ⟨a51, c52, a58, c59, b60⟩ ρ σm hJ hoff hdep
        have e0 := look_off (N := 43) (hoff 0 rfl) rfl
        exact dp_v (v := (Sl Aw Av Ax)) wn (rv_move e0) rfl hJ) ?_
      refine all_cons (by
        refine ⟨?_, ?_⟩
        ·rintro ⟨a51, c52, a58, c59, b60⟩ ρ σm hJ hoff hdep
         have e36 : look 43 ρ 36 = (Sl Aw Av Ax) := hdep 0 rfl rfl 36 rfl
         obtain ⟨H, m⟩ := id hJ
         refine dp_cx wn (cx_call hc50 (ent_f hc50.fn (by show [look 43 ρ 36] = _; rw [e36])) hn0 (H.sel' [0, 0, 1, 2] rfl rfl : Hp S0 σ0 _ ([_] ++ _))) ?_
         rintro _ σq ⟨_, ⟨a51x, c52x, rfl, rfl, ht53⟩, H2, m2⟩
         exact ⟨_, (a51x, c52x, a58, c59, b60), rfl, rfl, ⟨H2.sel' [0, 1, 2, 3] rfl rfl, m.comp0 (m2.mono (fun i h => by simp [cov, Ch.ro] at h)), ht53⟩, stab [0, 2, 3] (by kernel_rfl) ⟨rfl, rfl, rfl, trivial⟩⟩
        trivial) ?_
      refine ac rfl (by
        intro k; rintro ⟨a51, c52, a58, c59, b60⟩ ρ σm hJ hoff hdep
        have e6 := look_off (N := 43) (hoff 6 rfl) rfl
        exact dp_v (v := (I r17.1)) wn (rv_move e6) rfl hJ) ?_
      refine all_cons (by
        refine ⟨?_, ?_⟩
        ·rintro ⟨a51, c52, a58, c59, b60⟩ ρ σm hJ hoff hdep
         have e3 := look_off (N := 43) (hoff 3 rfl) rfl
         obtain ⟨H, m⟩ := id hJ
         have hc54 := H.cells 2 rfl
         exact dp_v (v := (.agg #[(I Bg.1), (Sl Fo Bg.2.1 Fp), (I Bg.2.2)])) wn (rv_load (cs := [(I Bg.1), (Sl Fo Bg.2.1 Fp), (I Bg.2.2)]) Tryz.underlying41 rfl ti41 e3 rfl hc54) rfl hJ
        refine ⟨?_, ?_⟩
        ·rintro ⟨a51, c52, a58, c59, b60⟩ ρ σm hJ hoff hdep
         have e3 := look_off (N := 43) (hoff 3 rfl) rfl
         obtain ⟨H, m, ht53⟩ := id hJ
         have hc54 := H.cells 3 rfl
         exact dp_v (v := (.agg #[(I Bg.1), (Sl Fo Bg.2.1 Fp), (I Bg.2.2)])) wn (rv_load (cs := [(I Bg.1), (Sl Fo Bg.2.1 Fp), (I Bg.2.2)]) Tryz.underlying41 rfl ti41 e3 rfl hc54) rfl hJ
        trivial) ?_
      refine all_cons (by
        refine ⟨?_, ?_⟩
        ·rintro ⟨a51, c52, a58, c59, b60⟩ ρ σm hJ hoff hdep
         have e39 : look 43 ρ 39 = (.agg #[(I Bg.1), (Sl Fo Bg.2.1 Fp), (I Bg.2.2)]) := hdep 3 rfl rfl 39 rfl
         obtain ⟨H, m, ht53⟩ := id hJ
         refine dp_cx wn (cx_call hc57 (ent_f hc57.fn (by show [look 43 ρ 39] = _; rw [e39])) hn0 (H.sel' [2, 0, 1, 2, 3] rfl rfl : Hp S0 σ0 _ ([_] ++ _))) ?_
         rintro _ σq ⟨_, ⟨a58x, c59x, rfl, rfl⟩, H2, m2⟩
         obtain ⟨σr0, hwr0, H2, mr0⟩ := H2.pub 0 rfl (Nat.le_refl _)
         exact ⟨_, (a51, c52, a58x, c59x, b60), hwr0, rfl, ⟨H2.sel' [0, 1, 2, 3, 4] rfl rfl, m.comp (m2.comp mr0), ht53⟩, stab [0, 1, 2, 3] (by kernel_rfl) ⟨rfl, rfl, rfl, rfl, trivial⟩⟩
        trivial) ?_
      refine all_cons (by
        refine ⟨?_, ?_⟩
        ·rintro ⟨a51, c52, a58, c59, b60⟩ ρ σm hJ hoff hdep
         have e40 : look 43 ρ 40 = (.agg #[(I r55.1), (Sl a58 r55.2.1 c59), (I r55.2.2)]) := hdep 4 rfl rfl 40 rfl
         obtain ⟨H, m, ht53⟩ := id hJ
         refine dp_ex wn (ex_buildSlice (el := n0) (xs := ([(r55.1, r55.2.1, r55.2.2)] : List (Int × (List Int) × Int))) (ps := [(0, (.agg #[(I r55.1), (Sl a58 r55.2.1 c59), (I r55.2.2)]))]) (cs := [(I r55.1), (Sl a58 r55.2.1 c59), (I r55.2.2)]) H hn0 Tryz.underlying24 ti41 rfl (by show [(0, look 43 ρ 40)] = _; rw [e40]) (by kernel_rfl) (.cons (c := [(I r55.1), (Sl a58 r55.2.1 c59), (I r55.2.2)]) ⟨[(I r55.1)], [(Sl a58 r55.2.1 c59), (I r55.2.2)], rfl, rfl, ⟨[(Sl a58 r55.2.1 c59)], [(I r55.2.2)], rfl, ⟨_, rfl, (H.ro 0 rfl)⟩, rfl⟩⟩ (.nil)) rfl) ?_
         rintro _ σq ⟨b60x, rfl, H2, m2⟩
         exact ⟨_, (a51, c52, a58, c59, b60x), rfl, rfl, ⟨H2.sel' [0, 1, 2, 3, 4, 5] rfl rfl, m.comp0 m2, ht53⟩, stab [0, 1, 2, 3, 4] (by kernel_rfl) ⟨rfl, rfl, rfl, rfl, rfl, trivial⟩⟩
        trivial) ?_
      exact all_nil
     ·rintro ⟨a51, c52, a58, c59, b60⟩ ρ σ61 hJ hoff hrel
      have e37 := hrel 1 rfl 37 rfl
      have e38 := hrel 2 rfl 38 rfl
      have e41 := hrel 5 rfl 41 rfl
      obtain ⟨H, -, ht53⟩ := (show Hp S0 σ0 σ61 [Ch.own n0 n0 (Sl (some ⟨b60, 0, none⟩) ([(r55.1, r55.2.1, r55.2.2)] : List (Int × (List Int) × Int)) 1) ([(r55.1, r55.2.1, r55.2.2)] : List (Int × (List Int) × Int)), Ch.ro n0 (Sl a58 r55.2.1 c59) r55.2.1, Ch.own n0 n0 (Sl a51 r48 c52) r48, Ch.ro 0 (Sl Aw Av Ax) Av, Ch.ro 0 (Sl Fo Bg.2.1 Fp) Bg.2.1, Ch.bx n0 b1 0 [(I Bg.1), (Sl Fo Bg.2.1 Fp), (I Bg.2.2)] [] []] ∧ Md (fun i => (cov []) i ∨ (fun i => (cov [Ch.ro 0 (Sl Fo Bg.2.1 Fp) Bg.2.1]) i ∨ (fun b => blk (Sl a58 r55.2.1 c59) = some b) i) i) σ20 σ61 ∧ c52 = r48.length from hJ)
      clear hJ Hs
      rw [fr_lookL (L := [(37, (Sl a51 r48 c52)), (38, (I r17.1)), (41, (Sl (some ⟨b60, 0, none⟩) ([(r55.1, r55.2.1, r55.2.2)] : List (Int × (List Int) × Int)) 1))]) ⟨e37, e38, e41, trivial⟩]
      clear hoff hrel e37 e38 e41
      obtain ⟨σ62, hw63, H, -⟩ := H.pub 0 rfl (Nat.le_refl _)
      rw [← hw63]; clear hw63
      replace H := H.ownLow 2 0 0 rfl (Nat.zero_le _) (Nat.zero_le _)
      replace H := H.roLow 1 0 rfl (Nat.zero_le _)
      revert h; refine br fun r64 hx65 h => ?_
      have hc66 := c_slices_Insert_impl_Item_impl_Item (Cq := a51) (Cr := c52) (Fv := ht53) (Fw := (some ⟨b60, 0, none⟩)) (Fx := 1) hx65
      refine st_call (cx_call hc66 (ent_f hc66.fn rfl) hn0 (H.sel' [1, 0, 0, 2, 3, 4, 5, 6] rfl rfl : Hp S0 σ0 _ ([_, _] ++ _))) wn ?_
      rintro _ σ69 ⟨_, ⟨a67, c68, rfl, rfl⟩, H, -⟩
      replace H : Hp _ _ _ [_, _, _, _, _, _, _] := H
      refine sa (Sl a67 r64 c68) rfl (sa (B true) rfl (w_end (q_then (c_ret ?_))))
      obtain rfl := sj h
      exact fin_ret (v := (.tuple #[(Sl a67 r64 c68), (B true)])) (results_ok Tryz.results14 (res_tmp (v := (Sl a67 r64 c68)) rfl (res_tmp (v := (B true)) rfl res_nil)) rfl) ⟨a67, c68, rfl, rfl⟩ (H.sel' [0] rfl rfl)

theorem c_laws_FnNearestPut {Fd : List UInt8} {Fe : Option Addr} {Ff : Nat} {r : Bool} (h : M.laws_FnNearestPut Fd = some r) :
    Cal2 Tryz.prog 5 [(Sl Fe Fd Ff)] [Ch.ro 0 (Sl Fe Fd Ff) Fd] (fun n0 v L => v = (B r) ∧ L = []) := by
 refine cal2 (n := 72) Tryz.func5 rfl rfl rfl rfl ?_
 intro S0 σ0 n0 hn0 H
 unfold M.laws_FnNearestPut at h
 refine c_seq (rg (sa (B false) rfl (w_end (q_then (c_seq (c_seq (rg (sm (Sl Fe Fd Ff) rfl (st (v := (I (Fd.length : Int))) (rv_len Tryz.underlying22 rfl) (st (v := (B (decide (1048576 < (Fd.length : Int))))) (rv_gtr (a := (Fd.length : Int)) (b := 1048576) rfl rfl) (w_end ?_)))))))))))
 refine q_then ?_
 refine cd_cond (decide (1048576 < (Fd.length : Int))) rfl (fun hb1 => ?_) (fun hb1 => ?_)
 ·replace h := bif_t hb1 h
  refine c_seq (rg (sa (B true) rfl (w_end (q_then (c_ret (q_then_r ?_))))))
  obtain rfl := sj h
  exact fin_ret (v := (B true)) (results_ok Tryz.results5 (res_tmp (v := (B true)) rfl res_nil) rfl) ⟨rfl, rfl⟩ (H.sel' [] rfl rfl)
 ·replace h := bif_f hb1 h
  refine c_skip (q_then (c_seq (rg (sm (Sl Fe Fd Ff) rfl ?_))))
  revert h; refine br fun r2 hx3 h => ?_
  have hc4 := c_spec_DrawNearest (Fe := Fe) (Ff := Ff) hx3
  refine st_call (cx_call hc4 (ent_f hc4.fn rfl) hn0 (H.sel' [0, 0] rfl rfl : Hp S0 σ0 _ ([_] ++ _))) wn ?_
  rintro _ σ9 ⟨_, ⟨a5, c6, a7, c8, rfl, rfl⟩, H, -⟩
  replace H : Hp _ _ _ [_, _, _] := H
  refine sm (.tuple #[(Sl a5 r2.1 c6), (I r2.2.1), (Sl a7 r2.2.2.1 c8), (I r2.2.2.2)]) rfl (st (v := (Sl a5 r2.1 c6)) (rv_extract rfl rfl) (st (v := (I r2.2.1)) (rv_extract rfl rfl) (st (v := (Sl a7 r2.2.2.1 c8)) (rv_extract rfl rfl) (st (v := (I r2.2.2.2)) (rv_extract rfl rfl) (sa (Sl a5 r2.1 c6) rfl (sa (I r2.2.1) rfl (sa (Sl a7 r2.2.2.1 c8) rfl (sa (I r2.2.2.2) rfl (w_end (q_then (c_seq ?_)))))))))))
  refine rg (sm (Sl a5 r2.1 c6) rfl (sm (I r2.2.1) rfl (sm (Sl a7 r2.2.2.1 c8) rfl (sm (I r2.2.2.2) rfl ?_))))
  revert h; refine br fun r10 hx11 h => ?_
  have hc12 := c_impl_Nearest (Aw := a5) (Ax := c6) (Bd := a7) (Be := c8) hx11
  have hle := Nat.le_trans hn0 H.size
  refine st_call (cx_lend (Loan.lend (Loan.lend Loan.nil)) hc12 (ent_f hc12.fn rfl) (show Hp S0 σ0 _ ([Ch.own n0 n0 (Sl a5 r2.1 c6) r2.1, Ch.own n0 n0 (Sl a7 r2.2.2.1 c8) r2.2.2.1] ++ ([] ++ [Ch.ro 0 (Sl Fe Fd Ff) Fd])) from (H.sel' [0, 1, 2] rfl rfl)) (by rintro _ _ _ ⟨_, _, rfl, rfl⟩; exact ⟨Ab.ownSc, trivial⟩)) wn ?_
  rintro _ σ15 ⟨_, ⟨a13, c14, rfl, rfl⟩, H, -, -⟩
  replace H : Hp _ _ _ [_, _, _, _] := H
  replace H := H.ownLow 0 0 n0 rfl (Nat.le_refl _) hle
  clear hle
  replace H : Hp _ _ _ [_, _, _, _] := H
  refine sa (Sl a13 r10 c14) rfl (w_end (q_then (c_seq (c_seq ?_))))
  obtain ⟨o16, hj, h'⟩ := bind_some h
  clear h
  refine c_cut (fun e a w => e = .normal ∧ ∃ (ρ : Nat → Value) (σ : St), a = fr 72 (updL ρ [(3, (Sl a5 r2.1 c6)), (4, (I r2.2.1)), (5, (Sl a7 r2.2.2.1 c8)), (6, (I r2.2.2.2)), (7, (Sl a13 r10 c14)), (38, (B o16))]) ∧ w = σ.w ∧ Hp S0 σ0 σ [Ch.own n0 n0 (Sl a5 r2.1 c6) r2.1, Ch.own n0 n0 (Sl a7 r2.2.2.1 c8) r2.2.2.1, Ch.own 0 n0 (Sl a13 r10 c14) r10]) ?_ ?_
  ·clear h'
   rename _ = some o16 => h
   refine rg (sm (Sl a13 r10 c14) rfl (sm (Sl a5 r2.1 c6) rfl (sm (I r2.2.1) rfl (sm (Sl a7 r2.2.2.1 c8) rfl (sm (I r2.2.2.2) rfl ?_)))))
   revert h; refine br fun r17 hx18 h => ?_
   have hc19 := c_spec_Nearest (Aw := a5) (Ax := c6) (Bd := a7) (Be := c8) hx18
   have hle := Nat.le_trans hn0 H.size
   refine st_call (cx_lend (Loan.lend (Loan.lend Loan.nil)) hc19 (ent_f hc19.fn rfl) (show Hp S0 σ0 _ ([Ch.own n0 n0 (Sl a5 r2.1 c6) r2.1, Ch.own n0 n0 (Sl a7 r2.2.2.1 c8) r2.2.2.1] ++ ([] ++ [Ch.own 0 n0 (Sl a13 r10 c14) r10, Ch.ro 0 (Sl Fe Fd Ff) Fd])) from (H.sel' [1, 2, 0, 3] rfl rfl)) (by rintro _ _ _ ⟨_, _, rfl, rfl⟩; exact ⟨Ab.ownSc, trivial⟩)) wn ?_
   rintro _ σ22 ⟨_, ⟨a20, c21, rfl, rfl⟩, H, -, -⟩
   replace H : Hp _ _ _ [_, _, _, _, _] := H
   replace H := H.ownLow 0 n0 n0 rfl hle hle
   clear hle
   replace H : Hp _ _ _ [_, _, _, _, _] := H
   obtain ⟨σ23, hw24, H, -⟩ := H.pub 0 rfl (Nat.le_refl _)
   rw [← hw24]; clear hw24
   replace H := H.roLow 0 0 rfl (Nat.zero_le _)
   revert h; refine br fun r25 hx26 h => ?_
   have hc27 := c_laws_equalHits (Ad := a13) (Ae := c14) (Af := a20) (Ag := c21) hx26
   have hle := Nat.le_trans hn0 H.size
   refine st_call (cx_lend (Loan.lend (Loan.same Loan.nil)) hc27 (ent_f hc27.fn rfl) (show Hp S0 σ0 _ ([Ch.own 0 n0 (Sl a13 r10 c14) r10] ++ ([Ch.ro 0 (Sl a20 r17 c21) r17] ++ [Ch.ro 0 (Sl a20 r17 c21) r17, Ch.ro n0 (Sl a20 r17 c21) r17, Ch.own n0 n0 (Sl a5 r2.1 c6) r2.1, Ch.own n0 n0 (Sl a7 r2.2.2.1 c8) r2.2.2.1, Ch.ro 0 (Sl Fe Fd Ff) Fd])) from (H.sel' [4, 0, 0, 1, 2, 3, 5] rfl rfl)) (by rintro _ _ _ ⟨rfl, rfl⟩; exact trivial)) wn ?_
   rintro _ σ28 ⟨_, ⟨rfl, rfl⟩, H, -, -⟩
   replace H : Hp _ _ _ [_, _, _, _, _, _] := H
   clear hle
   replace H : Hp _ _ _ [_, _, _, _, _, _] := H
   refine st (v := (B (!r25))) (rv_not rfl) (sm (B (!r25)) rfl ?_)
   rcases Bool.eq_false_or_eq_true (!r25) with hb29 | hb29
   ·replace h := bif_t hb29 h
    refine st_skip (congrArg some hb29) (st_skip (congrArg some hb29) (st_skip (congrArg some hb29) (st (v := (B true)) (rv_pick_t (congrArg B hb29) rfl) (w_end ?_))))
    obtain rfl := sj h
    exact ⟨rfl, _, σ28, fr_join ⟨rfl, rfl, rfl, rfl, rfl, rfl, trivial⟩, rfl, H.sel' [3, 4, 0] rfl rfl⟩
   ·replace h := bif_f hb29 h
    refine st_g (v := (Sl a13 r10 c14)) (congrArg some hb29) (rv_move rfl) (st_g (v := (I (r10.length : Int))) (congrArg some hb29) (rv_len Tryz.underlying28 rfl) (st_g (v := (B ((r10.length : Int) == 0))) (congrArg some hb29) (rv_eql (a := (r10.length : Int)) (b := 0) rfl rfl) (st (v := (B ((r10.length : Int) == 0))) (rv_pick_f (congrArg B hb29) rfl) (w_end ?_))))
    obtain rfl := sj h
    exact ⟨rfl, _, σ28, fr_join ⟨rfl, rfl, rfl, rfl, rfl, rfl, trivial⟩, rfl, H.sel' [3, 4, 0] rfl rfl⟩
  ·clear hj
   have h := h'
   clear h' H
   rintro e a w ⟨rfl, ρ, σ30, rfl, rfl, H⟩
   refine q_then ?_
   refine cd_cond o16 rfl (fun hb31 => ?_) (fun hb31 => ?_)
   ·replace h := bif_t hb31 h
    refine c_seq (rg (sm (Sl a13 r10 c14) rfl (sm (Sl a5 r2.1 c6) rfl (sm (I r2.2.1) rfl (sm (Sl a7 r2.2.2.1 c8) rfl (sm (I r2.2.2.2) rfl ?_))))))
    obtain ⟨σ32, hw33, H, -⟩ := H.pub 0 rfl (Nat.le_refl _)
    rw [← hw33]; clear hw33
    obtain ⟨σ34, hw35, H, -⟩ := H.pub 1 rfl (Nat.le_refl _)
    rw [← hw35]; clear hw35
    replace H := H.roLow 1 0 rfl (Nat.zero_le _)
    replace H := H.roLow 1 0 rfl (Nat.zero_le _)
    revert h; refine br fun r36 hx37 h => ?_
    have hc38 := c_spec_Nearest (Aw := a5) (Ax := c6) (Bd := a7) (Be := c8) hx37
    refine st_call (cx_call hc38 (ent_f hc38.fn rfl) hn0 (H.sel' [1, 0, 0, 1, 2, 3, 4] rfl rfl : Hp S0 σ0 _ ([_, _] ++ _))) wn ?_
    rintro _ σ41 ⟨_, ⟨a39, c40, rfl, rfl⟩, H, -⟩
    replace H : Hp _ _ _ [_, _, _, _, _, _] := H
    replace H := H.ownLow 5 0 0 rfl (Nat.le_refl _) (Nat.zero_le _)
    obtain ⟨σ42, hw43, H, -⟩ := H.pub 0 rfl (Nat.le_refl _)
    rw [← hw43]; clear hw43
    obtain ⟨σ44, hw45, H, -⟩ := H.pub 1 rfl (Nat.le_refl _)
    rw [← hw45]; clear hw45
    replace H := H.roLow 0 0 rfl (Nat.zero_le _)
    revert h; refine br fun r46 hx47 h => ?_
    have hc48 := c_laws_equalHits (Ad := a13) (Ae := c14) (Af := a39) (Ag := c40) hx47
    refine st_call (cx_call hc48 (ent_f hc48.fn rfl) hn0 (H.sel' [2, 0, 0, 1, 2, 3, 4, 5, 6] rfl rfl : Hp S0 σ0 _ ([_, _] ++ _))) wn ?_
    rintro _ σ49 ⟨_, ⟨rfl, rfl⟩, H, -⟩
    replace H : Hp _ _ _ [_, _, _, _, _, _, _] := H
    refine sa (B r46) rfl (w_end (q_then (c_ret (q_then_r ?_))))
    obtain rfl := sj h
    exact fin_ret (v := (B r46)) (results_ok Tryz.results5 (res_tmp (v := (B r46)) rfl res_nil) rfl) ⟨rfl, rfl⟩ (H.sel' [] rfl rfl)
   ·replace h := bif_f hb31 h
    refine c_skip (q_then (c_seq (rg (sm (Sl a5 r2.1 c6) rfl (sm (Sl a7 r2.2.2.1 c8) rfl ?_)))))
    refine st (v := (.agg #[(I 60), (Sl a7 r2.2.2.1 c8), (I 0)])) (rv_build (ps := [(0, (I 60)), (1, (Sl a7 r2.2.2.1 c8))]) Tryz.underlying41 ti41 (bp41 Tryz.underlying41) rfl (by kernel_rfl)) ?_
    obtain ⟨σ50, hw51, H, -⟩ := H.pub 0 rfl (Nat.le_refl _)
    rw [← hw51]; clear hw51
    obtain ⟨σ52, hw53, H, -⟩ := H.pub 1 rfl (Nat.le_refl _)
    rw [← hw53]; clear hw53
    replace H := H.roLow 1 0 rfl (Nat.zero_le _)
    replace H := H.roLow 1 0 rfl (Nat.zero_le _)
    revert h; refine br fun r54 hx55 h => ?_
    have hc56 := c_impl_PutItem (Aw := a5) (Ax := c6) (Fo := a7) (Fp := c8) hx55
    refine st_call (cx_call hc56 (ent_f hc56.fn rfl) hn0 (H.sel' [1, 0, 0, 1, 2, 3, 4] rfl rfl : Hp S0 σ0 _ ([_, _] ++ _))) wn ?_
    rintro _ σ59 ⟨_, ⟨a57, c58, rfl, rfl⟩, H, -⟩
    replace H : Hp _ _ _ [_, _, _, _, _, _] := H
    refine sm (.tuple #[(Sl a57 r54.1 c58), (B r54.2)]) rfl (st (v := (Sl a57 r54.1 c58)) (rv_extract rfl rfl) (st (v := (B r54.2)) (rv_extract rfl rfl) (sa (Sl a57 r54.1 c58) rfl (sa (B r54.2) rfl (w_end (q_then (c_seq (rg (sm (Sl a57 r54.1 c58) rfl (sm (I r2.2.1) rfl (sm (Sl a7 r2.2.2.1 c8) rfl ?_)))))))))))
    refine sm (I r2.2.2.2) rfl ?_
    obtain ⟨σ60, hw61, H, -⟩ := H.pub 0 rfl (Nat.le_refl _)
    rw [← hw61]; clear hw61
    replace H := H.roLow 3 0 rfl (Nat.zero_le _)
    revert h; refine br fun r62 hx63 h => ?_
    have hc64 := c_impl_Nearest (Aw := a57) (Ax := c58) (Bd := a7) (Be := c8) hx63
    refine st_call (cx_call hc64 (ent_f hc64.fn rfl) hn0 (H.sel' [1, 0, 0, 1, 2, 3, 4, 5, 6] rfl rfl : Hp S0 σ0 _ ([_, _] ++ _))) wn ?_
    rintro _ σ67 ⟨_, ⟨a65, c66, rfl, rfl⟩, H, -⟩
    replace H : Hp _ _ _ [_, _, _, _, _, _, _, _] := H
    replace H : Hp S0 σ0 σ67 [Ch.own 0 n0 (Sl a65 r62 c66) r62] := H.sel' [0] rfl rfl
    refine sa (Sl a65 r62 c66) rfl (w_end (q_then (c_seq (rg (sm (B r54.2) rfl (st (v := (B (!r54.2))) (rv_not rfl) (sm (B (!r54.2)) rfl ?_)))))))
    rcases Bool.eq_false_or_eq_true (!r54.2) with hb68 | hb68
    ·replace h := bif_t hb68 h
     refine st_skip (congrArg some hb68) (st_skip (congrArg some hb68) (st_skip (congrArg some hb68) (st_skip (congrArg some hb68) (st_skip_u rfl (st_skip_u rfl (st_skip_u rfl (st_skip_u rfl (st_skip_u rfl (st_skip (congrArg some hb68) (st (v := (B true)) (rv_pick_t (congrArg B hb68) rfl) (sa (B true) rfl ?_)))))))))))
     refine w_end (q_then (c_ret ?_))
     obtain rfl := sj h
     exact fin_ret (v := (B true)) (results_ok Tryz.results5 (res_tmp (v := (B true)) rfl res_nil) rfl) ⟨rfl, rfl⟩ (H.sel' [] rfl rfl)
    ·replace h := bif_f hb68 h
     refine st_g (v := (Sl a65 r62 c66)) (congrArg some hb68) (rv_move rfl) (st_g (v := (I (r62.length : Int))) (congrArg some hb68) (rv_len Tryz.underlying28 rfl) (st_g (v := (B (decide (0 < (r62.length : Int))))) (congrArg some hb68) (rv_gtr (a := (r62.length : Int)) (b := 0) rfl rfl) (st_g (v := (B (decide (0 < (r62.length : Int))))) (congrArg some hb68) (rv_move rfl) ?_)))
     rcases Bool.eq_false_or_eq_true (decide (0 < (r62.length : Int))) with hb69 | hb69
     ·replace h := bif_t hb69 h
      refine st_g (v := (Sl a65 r62 c66)) (congrArg some hb69) (rv_move rfl) ?_
      revert h; refine br fun x70 hx71 h => ?_
      obtain ⟨b73, o74, hi72, -⟩ := (H.own 0 rfl).ix hx71
      refine st_g (v := (pt b73 o74)) (congrArg some hb69) (rv_ix Tryz.underlying28 ti35 rfl rfl hi72) (st_g (v := (pt b73 (o74 + 1))) (congrArg some hb69) (rv_fieldAddr (off := 1) (ft := 3) Tryz.underlying35 rfl ti3 rfl rfl) ?_)
      have hc75 := ((H.own 0 rfl).at hx71 hi72).snd.int
      refine st_g (v := (I x70.2)) (congrArg some hb69) (rv_load1 Tryz.underlying3 rfl rfl hc75) (st_g (v := (B (x70.2 == 0))) (congrArg some hb69) (rv_eql (a := x70.2) (b := 0) rfl rfl) (st_g (v := (B (x70.2 == 0))) (congrArg some hb68) (rv_pick_t (congrArg B hb69) rfl) (st (v := (B (x70.2 == 0))) (rv_pick_f (congrArg B hb68) rfl) (sa (B (x70.2 == 0)) rfl (w_end (q_then (c_ret ?_)))))))
      obtain rfl := sj h
      exact fin_ret (v := (B (x70.2 == 0))) (results_ok Tryz.results5 (res_tmp (v := (B (x70.2 == 0))) rfl res_nil) rfl) ⟨rfl, rfl⟩ (H.sel' [] rfl rfl)
     ·replace h := bif_f hb69 h
      refine st_skip (congrArg some hb69) (st_skip (congrArg some hb69) (st_skip (congrArg some hb69) (st_skip (congrArg some hb69) (st_skip (congrArg some hb69) (st_g (v := (B false)) (congrArg some hb68) (rv_pick_f (congrArg B hb69) rfl) (st (v := (B false)) (rv_pick_f (congrArg B hb68) rfl) (sa (B false) rfl (w_end (q_then (c_ret ?_))))))))))
      obtain rfl := sj h
      exact fin_ret (v := (B false)) (results_ok Tryz.results5 (res_tmp (v := (B false)) rfl res_nil) rfl) ⟨rfl, rfl⟩ (H.sel' [] rfl rfl)

end Go.Vs
