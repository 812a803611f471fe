/- The functions compute what their models say. -/
import Derived.Test.YtdjjikmfkejdiadKTreeVisitsMoreC4
set_option linter.unusedVariables false
set_option linter.unusedSimpArgs false
set_option maxRecDepth 20000
namespace Go.Vs
open Go Go.Proofs
attribute [local irreducible] Code.wp Code.wpIn wpList wpListIn wpQuiet Calls CallsIn

theorem c_spec_addHit {list_0 : List (Int × Int)} {h_1 : Int × Int} {k_2 : Int} {alist_0 : Option Addr} {clist_0 : Nat} {r : (List (Int × Int))} (h : M.spec_addHit list_0 h_1 k_2 = some r) :
    Cal2 Try.prog 142 [(Sl alist_0 list_0 clist_0), (.agg #[(I h_1.1), (I h_1.2)]), (I k_2)] [Ch.ro 0 (Sl alist_0 list_0 clist_0) list_0] (fun n0 v L => ∃ (az1 : Option Addr), ∃ (cz2 : Nat), v = (Sl az1 r cz2) ∧ L = [Ch.own n0 n0 (Sl az1 r cz2) r]) := by
 refine cal2 (n := 58) Try.func142 rfl rfl rfl rfl ?_
 intro S0 σ0 n0 hn0 H
 unfold M.spec_addHit at h
 refine c_seq ?_
 refine rg ?_
 refine st_ex (ex_box (cs := [(I h_1.1), (I h_1.2)]) H hn0 rfl rfl) wn ?_
 rintro _ σ2 ⟨b1, rfl, H, -⟩
 refine st (v := (.slice none 0 0)) (rv_assign rfl) ?_
 refine w_end ?_
 refine q_then ?_
 refine c_seq ?_
 obtain ⟨xs4, hx5, h'⟩ := bind_some h
 clear h
 have h := h'; clear h'
 have hc8 := H.cells 0 rfl
 have Hs := H
 refine rg2 (σ := σ2) (Nm := (Nat) × (Option Addr) × (Nat) × (Nat)) 5 [0, 2, 4] [[false, false, false], [true, false, false], [false, false, true], [true, true, false], [true, false, true], [true, true, true]] [[(0, 1), (2, 4)], [(0, 0), (1, 1), (2, 2), (4, 4)], [(1, 3), (4, 5)], [(0, 0), (1, 1), (3, 3)], [(0, 2), (1, 4), (3, 5)]] 5 [fun ((b3, a6, c7, b9) : (Nat) × (Option Addr) × (Nat) × (Nat)) => fun σm => Hp S0 σ0 σm [Ch.bx n0 b1 0 [(I h_1.1), (I h_1.2)] [] [], Ch.ro 0 (Sl alist_0 list_0 clist_0) list_0] ∧ Md (cov []) σ2 σm, fun ((b3, a6, c7, b9) : (Nat) × (Option Addr) × (Nat) × (Nat)) => fun σm => Hp S0 σ0 σm [Ch.own n0 n0 (Sl (some ⟨b3, 0, none⟩) ([] : List (Int × Int)) 0) ([] : List (Int × Int)), Ch.bx n0 b1 0 [(I h_1.1), (I h_1.2)] [] [], Ch.ro 0 (Sl alist_0 list_0 clist_0) list_0] ∧ Md (cov []) σ2 σm, fun ((b3, a6, c7, b9) : (Nat) × (Option Addr) × (Nat) × (Nat)) => fun σm => Hp S0 σ0 σm [Ch.own n0 n0 (Sl (some ⟨b9, 0, none⟩) ([(h_1.1, h_1.2)] : List (Int × Int)) 1) ([(h_1.1, h_1.2)] : List (Int × Int)), Ch.bx n0 b1 0 [(I h_1.1), (I h_1.2)] [] [], Ch.ro 0 (Sl alist_0 list_0 clist_0) list_0] ∧ Md (cov []) σ2 σm, fun ((b3, a6, c7, b9) : (Nat) × (Option Addr) × (Nat) × (Nat)) => fun σm => Hp S0 σ0 σm [Ch.own n0 n0 (Sl a6 xs4 c7) xs4, Ch.bx n0 b1 0 [(I h_1.1), (I h_1.2)] [] [], Ch.ro 0 (Sl alist_0 list_0 clist_0) list_0] ∧ Md (fun i => (cov []) i ∨ (fun b => blk (Sl (some ⟨b3, 0, none⟩) ([] : List (Int × Int)) 0) = some b) i) σ2 σm, fun ((b3, a6, c7, b9) : (Nat) × (Option Addr) × (Nat) × (Nat)) => fun σm => Hp S0 σ0 σm [Ch.own n0 n0 (Sl (some ⟨b9, 0, none⟩) ([(h_1.1, h_1.2)] : List (Int × Int)) 1) ([(h_1.1, h_1.2)] : List (Int × Int)), Ch.own n0 n0 (Sl (some ⟨b3, 0, none⟩) ([] : List (Int × Int)) 0) ([] : List (Int × Int)), Ch.bx n0 b1 0 [(I h_1.1), (I h_1.2)] [] [], Ch.ro 0 (Sl alist_0 list_0 clist_0) list_0] ∧ Md (cov []) σ2 σm, fun ((b3, a6, c7, b9) : (Nat) × (Option Addr) × (Nat) × (Nat)) => fun σm => Hp S0 σ0 σm [Ch.own n0 n0 (Sl (some ⟨b9, 0, none⟩) ([(h_1.1, h_1.2)] : List (Int × Int)) 1) ([(h_1.1, h_1.2)] : List (Int × Int)), Ch.own n0 n0 (Sl a6 xs4 c7) xs4, Ch.bx n0 b1 0 [(I h_1.1), (I h_1.2)] [] [], Ch.ro 0 (Sl alist_0 list_0 clist_0) list_0] ∧ Md (fun i => (cov []) i ∨ (fun b => blk (Sl (some ⟨b3, 0, none⟩) ([] : List (Int × Int)) 0) = some b) i) σ2 σm] [fun ((b3, a6, c7, b9) : (Nat) × (Option Addr) × (Nat) × (Nat)) => (Sl (some ⟨b3, 0, none⟩) ([] : List (Int × Int)) 0), fun ((b3, a6, c7, b9) : (Nat) × (Option Addr) × (Nat) × (Nat)) => (Sl alist_0 list_0 clist_0), fun ((b3, a6, c7, b9) : (Nat) × (Option Addr) × (Nat) × (Nat)) => (Sl a6 xs4 c7), fun ((b3, a6, c7, b9) : (Nat) × (Option Addr) × (Nat) × (Nat)) => (.agg #[(I h_1.1), (I h_1.2)]), fun ((b3, a6, c7, b9) : (Nat) × (Option Addr) × (Nat) × (Nat)) => (Sl (some ⟨b9, 0, none⟩) ([(h_1.1, h_1.2)] : List (Int × Int)) 1)] (0, none, 0, 0) (by kernel_rfl) (by kernel_rfl) ?_ ?_ ?_
 ·intro σm m0
  exact ⟨H.grow (m0.mono fun _ h => h.elim), m0⟩
 ·refine all_cons (by
    refine ⟨?_, ?_⟩
    ·rintro ⟨b3, a6, c7, b9⟩ ρ σm hJ hoff hdep
     obtain ⟨H, m⟩ := id hJ
     refine dp_ex wn (ex_buildSlice (el := n0) (xs := ([] : List (Int × Int))) (ps := []) (cs := []) H hn0 Try.underlying32 ti86 rfl rfl (by kernel_rfl) (.nil) rfl) ?_
     rintro _ σq ⟨b3x, rfl, H2, m2⟩
     exact ⟨_, (b3x, a6, c7, b9), rfl, rfl, ⟨H2.sel' [0, 1, 2] rfl rfl, m.comp0 m2⟩, stab [1, 3, 4] (by kernel_rfl) ⟨rfl, rfl, rfl, trivial⟩⟩
    refine ⟨?_, ?_⟩
    ·rintro ⟨b3, a6, c7, b9⟩ ρ σm hJ hoff hdep
     obtain ⟨H, m⟩ := id hJ
     refine dp_ex wn (ex_buildSlice (el := n0) (xs := ([] : List (Int × Int))) (ps := []) (cs := []) H hn0 Try.underlying32 ti86 rfl rfl (by kernel_rfl) (.nil) rfl) ?_
     rintro _ σq ⟨b3x, rfl, H2, m2⟩
     exact ⟨_, (b3x, a6, c7, b9), rfl, rfl, ⟨H2.sel' [1, 0, 2, 3] rfl rfl, m.comp0 m2⟩, stab [1, 3, 4] (by kernel_rfl) ⟨rfl, rfl, rfl, trivial⟩⟩
    trivial) ?_
  refine ac rfl (by
    intro k; rintro ⟨b3, a6, c7, b9⟩ ρ σm hJ hoff hdep
    have e0 := look_off (N := 58) (hoff 0 rfl) rfl
    exact dp_v (v := (Sl alist_0 list_0 clist_0)) wn (rv_move e0) rfl hJ) ?_
  refine all_cons (by
    refine ⟨?_, ?_⟩
    ·rintro ⟨b3, a6, c7, b9⟩ ρ σm hJ hoff hdep
     have e10 := hdep 0 rfl rfl 10 rfl
     have e11 := hdep 1 rfl rfl 11 rfl
     obtain ⟨H, m⟩ := id hJ
     refine dp_ex wn (ex_append H (i := 0) rfl Try.underlying32 Try.underlying32 ti86 rfl rfl (by decide) ((H.ro 2 rfl).rd.sc) hx5 hn0 e10 e11) ?_
     rintro _ σq ⟨a6x, c7x, rfl, H2, m2⟩
     exact ⟨_, (b3, a6x, c7x, b9), rfl, rfl, ⟨H2.sel' [0, 1, 2] rfl rfl, m.comp m2⟩, stab [0, 1, 3, 4] (by kernel_rfl) ⟨rfl, rfl, rfl, rfl, trivial⟩⟩
    refine ⟨?_, ?_⟩
    ·rintro ⟨b3, a6, c7, b9⟩ ρ σm hJ hoff hdep
     have e10 := hdep 0 rfl rfl 10 rfl
     have e11 := hdep 1 rfl rfl 11 rfl
     obtain ⟨H, m⟩ := id hJ
     refine dp_ex wn (ex_append H (i := 1) rfl Try.underlying32 Try.underlying32 ti86 rfl rfl (by decide) ((H.ro 3 rfl).rd.sc) hx5 hn0 e10 e11) ?_
     rintro _ σq ⟨a6x, c7x, rfl, H2, m2⟩
     exact ⟨_, (b3, a6x, c7x, b9), rfl, rfl, ⟨H2.sel' [1, 0, 2, 3] rfl rfl, m.comp m2⟩, stab [0, 1, 3, 4] (by kernel_rfl) ⟨rfl, rfl, rfl, rfl, trivial⟩⟩
    trivial) ?_
  refine all_cons (by
    refine ⟨?_, ?_⟩
    ·rintro ⟨b3, a6, c7, b9⟩ ρ σm hJ hoff hdep
     have e4 := look_off (N := 58) (hoff 4 rfl) rfl
     obtain ⟨H, m⟩ := id hJ
     have hc8 := H.cells 0 rfl
     exact dp_v (v := (.agg #[(I h_1.1), (I h_1.2)])) wn (rv_load (cs := [(I h_1.1), (I h_1.2)]) Try.underlying86 rfl ti86 e4 rfl hc8) rfl hJ
    refine ⟨?_, ?_⟩
    ·rintro ⟨b3, a6, c7, b9⟩ ρ σm hJ hoff hdep
     have e4 := look_off (N := 58) (hoff 4 rfl) rfl
     obtain ⟨H, m⟩ := id hJ
     have hc8 := H.cells 1 rfl
     exact dp_v (v := (.agg #[(I h_1.1), (I h_1.2)])) wn (rv_load (cs := [(I h_1.1), (I h_1.2)]) Try.underlying86 rfl ti86 e4 rfl hc8) rfl hJ
    refine ⟨?_, ?_⟩
    ·rintro ⟨b3, a6, c7, b9⟩ ρ σm hJ hoff hdep
     have e4 := look_off (N := 58) (hoff 4 rfl) rfl
     obtain ⟨H, m⟩ := id hJ
     have hc8 := H.cells 1 rfl
     exact dp_v (v := (.agg #[(I h_1.1), (I h_1.2)])) wn (rv_load (cs := [(I h_1.1), (I h_1.2)]) Try.underlying86 rfl ti86 e4 rfl hc8) rfl hJ
    trivial) ?_
  refine all_cons (by
    refine ⟨?_, ?_⟩
    ·rintro ⟨b3, a6, c7, b9⟩ ρ σm hJ hoff hdep
     have e13 : look 58 ρ 13 = (.agg #[(I h_1.1), (I h_1.2)]) := hdep 3 rfl rfl 13 rfl
     obtain ⟨H, m⟩ := id hJ
     refine dp_ex wn (ex_buildSlice (el := n0) (xs := ([(h_1.1, h_1.2)] : List (Int × Int))) (ps := [(0, (.agg #[(I h_1.1), (I h_1.2)]))]) (cs := [(I h_1.1), (I h_1.2)]) H hn0 Try.underlying32 ti86 rfl (by show [(0, look 58 ρ 13)] = _; rw [e13]) (by kernel_rfl) (.cons (c := [(I h_1.1), (I h_1.2)]) ⟨[(I h_1.1)], [(I h_1.2)], rfl, rfl, rfl⟩ (.nil)) rfl) ?_
     rintro _ σq ⟨b9x, rfl, H2, m2⟩
     exact ⟨_, (b3, a6, c7, b9x), rfl, rfl, ⟨H2.sel' [0, 1, 2] rfl rfl, m.comp0 m2⟩, stab [0, 1, 2, 3] (by kernel_rfl) ⟨rfl, rfl, rfl, rfl, trivial⟩⟩
    refine ⟨?_, ?_⟩
    ·rintro ⟨b3, a6, c7, b9⟩ ρ σm hJ hoff hdep
     have e13 : look 58 ρ 13 = (.agg #[(I h_1.1), (I h_1.2)]) := hdep 3 rfl rfl 13 rfl
     obtain ⟨H, m⟩ := id hJ
     refine dp_ex wn (ex_buildSlice (el := n0) (xs := ([(h_1.1, h_1.2)] : List (Int × Int))) (ps := [(0, (.agg #[(I h_1.1), (I h_1.2)]))]) (cs := [(I h_1.1), (I h_1.2)]) H hn0 Try.underlying32 ti86 rfl (by show [(0, look 58 ρ 13)] = _; rw [e13]) (by kernel_rfl) (.cons (c := [(I h_1.1), (I h_1.2)]) ⟨[(I h_1.1)], [(I h_1.2)], rfl, rfl, rfl⟩ (.nil)) rfl) ?_
     rintro _ σq ⟨b9x, rfl, H2, m2⟩
     exact ⟨_, (b3, a6, c7, b9x), rfl, rfl, ⟨H2.sel' [0, 1, 2, 3] rfl rfl, m.comp0 m2⟩, stab [0, 1, 2, 3] (by kernel_rfl) ⟨rfl, rfl, rfl, rfl, trivial⟩⟩
    refine ⟨?_, ?_⟩
    ·rintro ⟨b3, a6, c7, b9⟩ ρ σm hJ hoff hdep
     have e13 : look 58 ρ 13 = (.agg #[(I h_1.1), (I h_1.2)]) := hdep 3 rfl rfl 13 rfl
     obtain ⟨H, m⟩ := id hJ
     refine dp_ex wn (ex_buildSlice (el := n0) (xs := ([(h_1.1, h_1.2)] : List (Int × Int))) (ps := [(0, (.agg #[(I h_1.1), (I h_1.2)]))]) (cs := [(I h_1.1), (I h_1.2)]) H hn0 Try.underlying32 ti86 rfl (by show [(0, look 58 ρ 13)] = _; rw [e13]) (by kernel_rfl) (.cons (c := [(I h_1.1), (I h_1.2)]) ⟨[(I h_1.1)], [(I h_1.2)], rfl, rfl, rfl⟩ (.nil)) rfl) ?_
     rintro _ σq ⟨b9x, rfl, H2, m2⟩
     exact ⟨_, (b3, a6, c7, b9x), rfl, rfl, ⟨H2.sel' [0, 1, 2, 3] rfl rfl, m.comp0 m2⟩, stab [0, 1, 2, 3] (by kernel_rfl) ⟨rfl, rfl, rfl, rfl, trivial⟩⟩
    trivial) ?_
  exact all_nil
 ·rintro ⟨b3, a6, c7, b9⟩ ρ σ10 hJ hoff hrel
  have e2 := look_off (N := 58) (hoff 2 rfl) rfl
  have e12 := hrel 2 rfl 12 rfl
  have e14 := hrel 4 rfl 14 rfl
  obtain ⟨H, -⟩ := (show Hp S0 σ0 σ10 [Ch.own n0 n0 (Sl (some ⟨b9, 0, none⟩) ([(h_1.1, h_1.2)] : List (Int × Int)) 1) ([(h_1.1, h_1.2)] : List (Int × Int)), Ch.own n0 n0 (Sl a6 xs4 c7) xs4, Ch.bx n0 b1 0 [(I h_1.1), (I h_1.2)] [] [], Ch.ro 0 (Sl alist_0 list_0 clist_0) list_0] ∧ Md (fun i => (cov []) i ∨ (fun b => blk (Sl (some ⟨b3, 0, none⟩) ([] : List (Int × Int)) 0) = some b) i) σ2 σ10 from hJ)
  clear hJ Hs
  rw [fr_lookL (L := [(2, (I k_2)), (12, (Sl a6 xs4 c7)), (14, (Sl (some ⟨b9, 0, none⟩) ([(h_1.1, h_1.2)] : List (Int × Int)) 1))]) ⟨e2, e12, e14, trivial⟩]
  clear hoff hrel e2 e12 e14
  obtain ⟨xs11, hx12, h'⟩ := bind_some h
  clear h
  have h := h'; clear h'
  refine st_ex (ex_append H (i := 1) rfl Try.underlying32 Try.underlying32 ti86 rfl rfl (by decide) (H.own 0 rfl).rd hx12 hn0 rfl rfl) wn ?_
  rintro _ σ15 ⟨a13, c14, rfl, H, -⟩
  refine st (v := (Sl a13 xs11 c14)) (rv_assign rfl) ?_
  refine w_end ?_
  refine q_then ?_
  refine c_seq ?_
  refine c_seq ?_
  refine rg ?_
  refine st (v := (Sl a13 xs11 c14)) (rv_move rfl) ?_
  refine st (v := (I (xs11.length : Int))) (rv_len Try.underlying32 rfl) ?_
  refine st (v := (I (w64 ((xs11.length : Int) - 1)))) (rv_sub (a := (xs11.length : Int)) (b := 1) rfl rfl) ?_
  refine st (v := (I (w64 ((xs11.length : Int) - 1)))) (rv_assign rfl) ?_
  refine w_end ?_
  refine q_then ?_
  obtain ⟨o16, hj, h'⟩ := bind_some h
  clear h
  refine c_cut (fun e a w => e = .normal ∧ ∃ (ρ : Nat → Value) (σ : St), a = fr 58 (updL ρ [(2, (I k_2)), (7, (Sl a13 o16 c14))]) ∧ w = σ.w ∧ Hp S0 σ0 σ [Ch.own n0 n0 (Sl a13 o16 c14) o16] ∧ o16.length = xs11.length) ?_ ?_
  ·clear h'
   rename _ = some o16 => h
   refine c_blk ?_
   refine wp_loopM _ h (fun s17 a w => ∃ (ρ : Nat → Value) (σ : St), a = fr 58 (updL ρ [(2, (I k_2)), (7, (Sl a13 s17.1 c14)), (8, (I s17.2))]) ∧ w = σ.w ∧ Hp S0 σ0 σ [Ch.own n0 n0 (Sl a13 s17.1 c14) s17.1] ∧ s17.1.length = xs11.length) ⟨_, σ15, fr_join ⟨rfl, rfl, rfl, trivial⟩, rfl, H.sel' [0] rfl rfl, rfl⟩ ?_
   clear h H
   rintro s17 a w o ⟨ρ, σ18, rfl, rfl, H, hn19⟩ h hres
   refine c_seq ?_
   refine c_seq ?_
   obtain ⟨o20, hj, h'⟩ := bind_some h
   clear h
   refine c_cut (fun e a w => e = .normal ∧ ∃ (ρ : Nat → Value) (σ : St), a = fr 58 (updL ρ [(2, (I k_2)), (7, (Sl a13 s17.1 c14)), (8, (I s17.2)), (32, (B o20))]) ∧ w = σ.w ∧ Hp S0 σ0 σ [Ch.own n0 n0 (Sl a13 s17.1 c14) s17.1]) ?_ ?_
   ·clear h'
    rename _ = some o20 => h
    refine rgP (σ := σ18) 12 (by kernel_rfl) (by kernel_rfl) (by kernel_rfl) ?_
    refine sq (v := (I s17.2)) (rv_move rfl) ?_
    refine sq (v := (B (decide (0 < s17.2)))) (rv_gtr (a := s17.2) (b := 0) rfl rfl) ?_
    refine sq (v := (B (decide (0 < s17.2)))) (rv_move rfl) ?_
    rcases Bool.eq_false_or_eq_true (decide (0 < s17.2)) with hb21 | hb21
    ·replace h := bif_t hb21 h
     refine sq_g (v := (Sl a13 s17.1 c14)) (congrArg some hb21) (rv_move rfl) ?_
     refine sq_g (v := (I s17.2)) (congrArg some hb21) (rv_move rfl) ?_
     obtain ⟨x22, hx23, h'⟩ := bind_some h
     clear h
     have h := h'; clear h'
     obtain ⟨b25, o26, hi24, -⟩ := (H.own 0 rfl).ix hx23
     refine sq_g (v := (pt b25 o26)) (congrArg some hb21) (rv_ix Try.underlying32 ti86 rfl rfl hi24) ?_
     obtain ⟨_, ⟨_, _, rfl, rfl, rfl⟩, hl27, hc28⟩ := ((H.own 0 rfl).at hx23 hi24).cells
     refine sq_g (v := (.agg #[(I x22.1), (I x22.2)])) (congrArg some hb21) (rv_load Try.underlying86 rfl ti86 rfl hl27 hc28) ?_
     refine sq_g (v := (Sl a13 s17.1 c14)) (congrArg some hb21) (rv_move rfl) ?_
     refine sq_g (v := (I s17.2)) (congrArg some hb21) (rv_move rfl) ?_
     refine sq_g (v := (I (w64 (s17.2 - 1)))) (congrArg some hb21) (rv_sub (a := s17.2) (b := 1) rfl rfl) ?_
     obtain ⟨x29, hx30, h'⟩ := bind_some h
     clear h
     have h := h'; clear h'
     obtain ⟨b32, o33, hi31, -⟩ := (H.own 0 rfl).ix hx30
     refine sq_g (v := (pt b32 o33)) (congrArg some hb21) (rv_ix Try.underlying32 ti86 rfl rfl hi31) ?_
     obtain ⟨_, ⟨_, _, rfl, rfl, rfl⟩, hl34, hc35⟩ := ((H.own 0 rfl).at hx30 hi31).cells
     refine sq_g (v := (.agg #[(I x29.1), (I x29.2)])) (congrArg some hb21) (rv_load Try.underlying86 rfl ti86 rfl hl34 hc35) ?_
     refine sq_end ?_
     intro σ36 hm37
     replace H := H.grow (hm37.mono fun _ h => h); clear hm37
     obtain ⟨r38, hx39, h'⟩ := bind_some h
     clear h
     have h := h'; clear h'
     have hc40 := c_spec_nearer hx39
     refine st_call (cx_call hc40 (ent_f hc40.fn rfl) hn0 (show Hp S0 σ0 _ ([] ++ [Ch.own n0 n0 (Sl a13 s17.1 c14) s17.1]) from (H.sel' [0] rfl rfl))) (wanted_yes rfl (by exact (congrArg some hb21))) ?_
     rintro _ σ41 ⟨_, ⟨rfl, rfl⟩, H, -⟩
     replace H : Hp S0 σ0 σ41 [Ch.own n0 n0 (Sl a13 s17.1 c14) s17.1] := H
     refine st (v := (B r38)) (rv_pick_t (congrArg B hb21) rfl) ?_
     refine w_end ?_
     obtain rfl := Option.some.inj h
     exact ⟨rfl, _, σ41, fr_join ⟨rfl, rfl, rfl, rfl, trivial⟩, rfl, H.sel' [0] rfl rfl⟩
    ·replace h := bif_f hb21 h
     refine sq_skip (congrArg some hb21) ?_
     refine sq_skip (congrArg some hb21) ?_
     refine sq_skip (congrArg some hb21) ?_
     refine sq_skip (congrArg some hb21) ?_
     refine sq_skip (congrArg some hb21) ?_
     refine sq_skip (congrArg some hb21) ?_
     refine sq_skip (congrArg some hb21) ?_
     refine sq_skip (congrArg some hb21) ?_
     refine sq_skip (congrArg some hb21) ?_
     refine sq_end ?_
     intro σ42 hm43
     replace H := H.grow (hm43.mono fun _ h => h); clear hm43
     refine st_skip (congrArg some hb21) ?_
     refine st (v := (B false)) (rv_pick_f (congrArg B hb21) rfl) ?_
     refine w_end ?_
     obtain rfl := Option.some.inj h
     exact ⟨rfl, _, σ42, fr_join ⟨rfl, rfl, rfl, rfl, trivial⟩, rfl, H.sel' [0] rfl rfl⟩
   ·clear hj
    have h := h'
    clear h' H
    rintro e a w ⟨rfl, ρ, σ44, rfl, rfl, H⟩
    refine q_then ?_
    refine cd_cond o20 rfl (fun hb45 => ?_) (fun hb45 => ?_)
    ·replace h := bif_t hb45 h
     refine c_skip ?_
     refine q_then ?_
     refine c_seq ?_
     refine c_blk ?_
     refine c_seq ?_
     refine rg ?_
     refine st (v := (Sl a13 s17.1 c14)) (rv_move rfl) ?_
     refine st (v := (I s17.2)) (rv_move rfl) ?_
     obtain ⟨x46, hx47, h'⟩ := bind_some h
     clear h
     have h := h'; clear h'
     obtain ⟨b49, o50, hi48, -⟩ := (H.own 0 rfl).ix hx47
     refine st (v := (pt b49 o50)) (rv_ix Try.underlying32 ti86 rfl rfl hi48) ?_
     obtain ⟨_, ⟨_, _, rfl, rfl, rfl⟩, hl51, hc52⟩ := ((H.own 0 rfl).at hx47 hi48).cells
     refine st (v := (.agg #[(I x46.1), (I x46.2)])) (rv_load Try.underlying86 rfl ti86 rfl hl51 hc52) ?_
     refine st_ex (ex_alloc (cs := [(I 0), (I 0)]) H hn0 ti86 rfl) wn ?_
     rintro _ σ54 ⟨b53, rfl, H, -⟩
     refine st_exS (ex_store_box (k := 0) (cs := [(I 0), (I 0)]) (vs := [(I x46.1), (I x46.2)]) (cs' := [(I x46.1), (I x46.2)]) H (i := 0) rfl ti86 rfl rfl rfl rfl rfl (Nat.le_of_ble_eq_true rfl) (by simp [plain]) rfl) wn ?_
     rintro σ55 ⟨H, -⟩
     refine w_end ?_
     refine q_then ?_
     refine c_seq ?_
     refine rg ?_
     refine st (v := (Sl a13 s17.1 c14)) (rv_move rfl) ?_
     refine st (v := (I s17.2)) (rv_move rfl) ?_
     refine st (v := (Sl a13 s17.1 c14)) (rv_move rfl) ?_
     refine st (v := (I s17.2)) (rv_move rfl) ?_
     refine st (v := (I (w64 (s17.2 - 1)))) (rv_sub (a := s17.2) (b := 1) rfl rfl) ?_
     obtain ⟨x56, hx57, h'⟩ := bind_some h
     clear h
     have h := h'; clear h'
     obtain ⟨b59, o60, hi58, -⟩ := (H.own 1 rfl).ix hx57
     refine st (v := (pt b59 o60)) (rv_ix Try.underlying32 ti86 rfl rfl hi58) ?_
     obtain ⟨_, ⟨_, _, rfl, rfl, rfl⟩, hl61, hc62⟩ := ((H.own 1 rfl).at hx57 hi58).cells
     refine st (v := (.agg #[(I x56.1), (I x56.2)])) (rv_load Try.underlying86 rfl ti86 rfl hl61 hc62) ?_
     obtain ⟨x63, hx64, h'⟩ := bind_some h
     clear h
     have h := h'; clear h'
     obtain ⟨b66, o67, hi65, -⟩ := (H.own 1 rfl).ix hx64
     refine st (v := (pt b66 o67)) (rv_ix Try.underlying32 ti86 rfl rfl hi65) ?_
     refine st_exS (ex_store_own (e' := (x56.1, x56.2)) (vs := [(I x56.1), (I x56.2)]) (k := 0) H (i := 1) rfl ti86 hx64 hi65 rfl rfl rfl rfl rfl (Nat.le_of_ble_eq_true rfl) (by simp [plain]) (by rintro _ ⟨_, _, rfl, rfl, rfl⟩; exact ⟨[(I x56.1)], [(I x56.2)], rfl, rfl, rfl⟩)) wn ?_
     rintro σ68 ⟨H, -⟩
     have hsl : (Sl a13 s17.1 c14) = (Sl a13 (s17.1.set s17.2.toNat (x56.1, x56.2)) c14) := sl_len List.length_set.symm
     rw [hsl]; rw [hsl] at H; clear hsl
     refine w_end ?_
     refine q_then ?_
     refine rg ?_
     refine st (v := (Sl a13 (s17.1.set s17.2.toNat (x56.1, x56.2)) c14)) (rv_move rfl) ?_
     refine st (v := (I s17.2)) (rv_move rfl) ?_
     refine st (v := (I (w64 (s17.2 - 1)))) (rv_sub (a := s17.2) (b := 1) rfl rfl) ?_
     have hc69 := H.cells 1 rfl
     refine st (v := (.agg #[(I x46.1), (I x46.2)])) (rv_load (cs := [(I x46.1), (I x46.2)]) Try.underlying86 rfl ti86 rfl rfl hc69) ?_
     obtain ⟨x70, hx71, h'⟩ := bind_some h
     clear h
     have h := h'; clear h'
     obtain ⟨b73, o74, hi72, -⟩ := (H.own 0 rfl).ix hx71
     refine st (v := (pt b73 o74)) (rv_ix Try.underlying32 ti86 rfl rfl hi72) ?_
     refine st_exS (ex_store_own (e' := (x46.1, x46.2)) (vs := [(I x46.1), (I x46.2)]) (k := 0) H (i := 0) rfl ti86 hx71 hi72 rfl rfl rfl rfl rfl (Nat.le_of_ble_eq_true rfl) (by simp [plain]) (by rintro _ ⟨_, _, rfl, rfl, rfl⟩; exact ⟨[(I x46.1)], [(I x46.2)], rfl, rfl, rfl⟩)) wn ?_
     rintro σ75 ⟨H, -⟩
     have hsl : (Sl a13 (s17.1.set s17.2.toNat (x56.1, x56.2)) c14) = (Sl a13 ((s17.1.set s17.2.toNat (x56.1, x56.2)).set (w64 (s17.2 - 1)).toNat (x46.1, x46.2)) c14) := sl_len List.length_set.symm
     rw [hsl]; rw [hsl] at H; clear hsl
     refine w_end ?_
     refine q_blk ?_
     refine q_then ?_
     refine rg ?_
     refine st (v := (I s17.2)) (rv_move rfl) ?_
     refine st (v := (I (w64 (s17.2 - 1)))) (rv_sub (a := s17.2) (b := 1) rfl rfl) ?_
     refine st (v := (I (w64 (s17.2 - 1)))) (rv_assign rfl) ?_
     refine w_end ?_
     refine q_then ?_
     obtain rfl := Option.some.inj h
     exact ⟨_, rfl, _, σ75, fr_join ⟨rfl, rfl, rfl, trivial⟩, rfl, H.sel' [0] rfl rfl, (List.length_set.trans (List.length_set.trans hn19))⟩
    ·replace h := bif_f hb45 h
     refine c_exit ?_
     refine q_then_x ?_
     refine q_then_x ?_
     refine q_blk_hit ?_
     obtain rfl := Option.some.inj h
     obtain rfl := hres _ rfl
     exact ⟨rfl, _, σ44, fr_join ⟨rfl, rfl, trivial⟩, rfl, H.sel' [0] rfl rfl, hn19⟩
  ·clear hj
   have h := h'
   clear h' H
   rintro e a w ⟨rfl, ρ, σ76, rfl, rfl, H, hn77⟩
   refine q_then ?_
   refine c_seq ?_
   refine rg ?_
   refine st (v := (Sl a13 o16 c14)) (rv_move rfl) ?_
   refine st (v := (I k_2)) (rv_move rfl) ?_
   refine st (v := (Sl a13 o16 c14)) (rv_move rfl) ?_
   refine st (v := (I (o16.length : Int))) (rv_len Try.underlying32 rfl) ?_
   refine st (v := (I (min k_2 (o16.length : Int)))) (rv_min rfl rfl) ?_
   obtain ⟨xs78, hx79, h'⟩ := bind_some h
   clear h
   have h := h'; clear h'
   obtain ⟨a80, c81, hs82, hR83, hb84⟩ := (H.own 0 rfl).slice hx79
   replace H := (H.front (i := 0) rfl).turn (d := Ch.own n0 n0 (Sl a80 xs78 c81) xs78) (fun _ => hR83) hb84; clear hR83 hb84
   refine st (v := (Sl a80 xs78 c81)) (rv_slice_h Try.underlying32 ti86 hs82 rfl rfl) ?_
   refine st (v := (Sl a80 xs78 c81)) (rv_assign rfl) ?_
   refine w_end ?_
   refine q_then ?_
   refine c_ret ?_
   obtain rfl := Option.some.inj h
   exact fin_ret (v := (Sl a80 xs78 c81)) (results_ok Try.results142 (res_tmp (v := (Sl a80 xs78 c81)) rfl res_nil) rfl) ⟨a80, c81, rfl, rfl⟩ (H.sel' [0] rfl rfl)

theorem c_spec_keyAt {list_0 : List (Int × (List Int) × Int)} {key_1 : Int} {alist_0 : Option Addr} {clist_0 : Nat} {r : Int} (h : M.spec_keyAt list_0 key_1 = some r) :
    Cal2 Try.prog 159 [(Sl alist_0 list_0 clist_0), (I key_1)] [Ch.ro 0 (Sl alist_0 list_0 clist_0) list_0] (fun n0 v L => v = (I r) ∧ L = []) := by
 refine cal2 (n := 20) Try.func159 rfl rfl rfl rfl ?_
 intro S0 σ0 n0 hn0 H
 unfold M.spec_keyAt at h
 refine c_seq ?_
 refine rg ?_
 refine st (v := (I 0)) (rv_assign rfl) ?_
 refine w_end ?_
 refine q_then ?_
 refine c_seq ?_
 refine c_seq ?_
 refine rg ?_
 refine st (v := (I 0)) (rv_assign rfl) ?_
 refine w_end ?_
 refine q_then ?_
 obtain ⟨o1, hj, h'⟩ := bind_some h
 clear h
 refine c_cut (fun e a w => (∃ t, o1 = (.inl t) ∧ e = .normal ∧ ∃ (ρ : Nat → Value) (σ : St), a = fr 20 (updL ρ []) ∧ w = σ.w ∧ Hp S0 σ0 σ []) ∨ (∃ t, o1 = (.inr t) ∧ e = .ret ∧ ∃ (ρ : Nat → Value) (σ : St), a = fr 20 (updL ρ [(4, (I t))]) ∧ w = σ.w ∧ Hp S0 σ0 σ [])) ?_ ?_
 ·clear h'
  rename _ = some o1 => h
  refine c_blk ?_
  refine wp_loopM _ h (fun s2 a w => ∃ (ρ : Nat → Value) (σ : St), a = fr 20 (updL ρ [(0, (Sl alist_0 list_0 clist_0)), (1, (I key_1)), (5, (I s2))]) ∧ w = σ.w ∧ Hp S0 σ0 σ [Ch.ro 0 (Sl alist_0 list_0 clist_0) list_0]) ⟨_, σ0, fr_join ⟨rfl, rfl, rfl, trivial⟩, rfl, H.sel' [0] rfl rfl⟩ ?_
  clear h H
  rintro s2 a w o ⟨ρ, σ3, rfl, rfl, H⟩ h hres
  refine c_seq ?_
  refine c_seq ?_
  refine rg ?_
  refine st (v := (I s2)) (rv_move rfl) ?_
  refine st (v := (Sl alist_0 list_0 clist_0)) (rv_move rfl) ?_
  refine st (v := (I (list_0.length : Int))) (rv_len Try.underlying23 rfl) ?_
  refine st (v := (B (decide (s2 < (list_0.length : Int))))) (rv_lss (a := s2) (b := (list_0.length : Int)) rfl rfl) ?_
  refine w_end ?_
  refine q_then ?_
  refine cd_cond (decide (s2 < (list_0.length : Int))) rfl (fun hb4 => ?_) (fun hb4 => ?_)
  ·replace h := bif_t hb4 h
   refine c_skip ?_
   refine q_then ?_
   refine c_seq ?_
   refine c_blk ?_
   refine c_seq ?_
   refine rg ?_
   refine st (v := (Sl alist_0 list_0 clist_0)) (rv_move rfl) ?_
   refine st (v := (I s2)) (rv_move rfl) ?_
   obtain ⟨x5, hx6, h'⟩ := bind_some h
   clear h
   have h := h'; clear h'
   obtain ⟨b8, o9, hi7, -⟩ := (H.ro 0 rfl).ix hx6
   refine st (v := (pt b8 o9)) (rv_ix Try.underlying23 ti40 rfl rfl hi7) ?_
   refine st (v := (pt b8 (o9 + 0))) (rv_fieldAddr (off := 0) (ft := 3) Try.underlying40 rfl ti3 rfl rfl) ?_
   have hc10 := ((H.ro 0 rfl).at hx6 hi7).fst.int
   refine st (v := (I x5.1)) (rv_load1 Try.underlying3 rfl rfl hc10) ?_
   refine st (v := (I key_1)) (rv_move rfl) ?_
   refine st (v := (B (x5.1 == key_1))) (rv_eql (a := x5.1) (b := key_1) rfl rfl) ?_
   refine w_end ?_
   refine q_then ?_
   refine cd_cond (x5.1 == key_1) rfl (fun hb11 => ?_) (fun hb11 => ?_)
   ·replace h := bif_t hb11 h
    refine c_seq ?_
    refine rg ?_
    refine st (v := (I s2)) (rv_move rfl) ?_
    refine st (v := (I s2)) (rv_assign rfl) ?_
    refine w_end ?_
    refine q_then ?_
    refine c_ret ?_
    refine q_blk_r ?_
    refine q_then_r ?_
    refine q_then_r ?_
    refine q_blk_r ?_
    obtain rfl := Option.some.inj h
    obtain rfl := hres _ rfl
    exact .inr (⟨_, rfl, rfl, _, σ3, fr_join ⟨rfl, trivial⟩, rfl, H.sel' [] rfl rfl⟩)
   ·replace h := bif_f hb11 h
    refine c_skip ?_
    refine q_blk ?_
    refine q_then ?_
    refine rg ?_
    refine st (v := (I s2)) (rv_move rfl) ?_
    refine st (v := (I (w64 (s2 + 1)))) (rv_add (a := s2) (b := 1) rfl rfl) ?_
    refine st (v := (I (w64 (s2 + 1)))) (rv_assign rfl) ?_
    refine w_end ?_
    refine q_then ?_
    obtain rfl := Option.some.inj h
    exact ⟨_, rfl, _, σ3, fr_join ⟨rfl, rfl, rfl, trivial⟩, rfl, H.sel' [0] rfl rfl⟩
  ·replace h := bif_f hb4 h
   refine c_exit ?_
   refine q_then_x ?_
   refine q_then_x ?_
   refine q_blk_hit ?_
   obtain rfl := Option.some.inj h
   obtain rfl := hres _ rfl
   exact .inl ⟨_, rfl, rfl, _, σ3, fr_join trivial, rfl, H.sel' [] rfl rfl⟩
 ·clear hj
  have h := h'
  clear h' H
  rintro e a w (⟨t12, rfl, rfl, ρ, σ13, rfl, rfl, H⟩ | ⟨t14, rfl, rfl, ρ, σ15, rfl, rfl, H⟩)
  ·replace h := selim_l h
   refine q_then ?_
   refine c_seq ?_
   refine rg ?_
   refine st (v := (I (-1))) (rv_assign rfl) ?_
   refine w_end ?_
   refine q_then ?_
   refine c_ret ?_
   obtain rfl := Option.some.inj h
   exact fin_ret (v := (I (-1))) (results_ok Try.results159 (res_tmp (v := (I (-1))) rfl res_nil) rfl) ⟨rfl, rfl⟩ (H.sel' [] rfl rfl)
  ·replace h := selim_r h
   refine q_then_r ?_
   obtain rfl := Option.some.inj h
   exact fin_ret (v := (I t14)) (results_ok Try.results159 (res_tmp (v := (I t14)) rfl res_nil) rfl) ⟨rfl, rfl⟩ (H.sel' [] rfl rfl)

theorem c_spec_seek_reach {s_0 : (List (Int × Int × Int × Int)) × (List (Int × (List Int) × Int)) × Int × (List Int) × Int × (List (Int × Int)) × Int} {as_0_0 : Option Addr} {cs_0_0 : Nat} {as_0_1 : Option Addr} {cs_0_1 : Nat} {as_0_3 : Option Addr} {cs_0_3 : Nat} {as_0_5 : Option Addr} {cs_0_5 : Nat} {los_0 bs_0 os_0 : Nat} {pres_0 sufs_0 : List Value} {r : Int} (h : M.spec_seek_reach s_0 = some r) :
    Cal2 Try.prog 160 [(pt bs_0 os_0)] [Ch.bx los_0 bs_0 os_0 [(Sl as_0_0 s_0.1 cs_0_0), (Sl as_0_1 s_0.2.1 cs_0_1), (I s_0.2.2.1), (Sl as_0_3 s_0.2.2.2.1 cs_0_3), (I s_0.2.2.2.2.1), (Sl as_0_5 s_0.2.2.2.2.2.1 cs_0_5), (I s_0.2.2.2.2.2.2)] pres_0 sufs_0, Ch.ro 0 (Sl as_0_0 s_0.1 cs_0_0) s_0.1, Ch.ro 0 (Sl as_0_1 s_0.2.1 cs_0_1) s_0.2.1, Ch.ro 0 (Sl as_0_3 s_0.2.2.2.1 cs_0_3) s_0.2.2.2.1, Ch.ro 0 (Sl as_0_5 s_0.2.2.2.2.2.1 cs_0_5) s_0.2.2.2.2.2.1] (fun n0 v L => v = (I r) ∧ L = [Ch.bx los_0 bs_0 os_0 [(Sl as_0_0 s_0.1 cs_0_0), (Sl as_0_1 s_0.2.1 cs_0_1), (I s_0.2.2.1), (Sl as_0_3 s_0.2.2.2.1 cs_0_3), (I s_0.2.2.2.2.1), (Sl as_0_5 s_0.2.2.2.2.2.1 cs_0_5), (I s_0.2.2.2.2.2.2)] pres_0 sufs_0]) := by
 refine cal2 (n := 26) Try.func160 rfl rfl rfl rfl ?_
 intro S0 σ0 n0 hn0 H
 unfold M.spec_seek_reach at h
 refine c_seq ?_
 refine rg ?_
 refine st (v := (I 0)) (rv_assign rfl) ?_
 refine w_end ?_
 refine q_then ?_
 refine c_seq ?_
 refine c_seq ?_
 refine rgP (σ := σ0) 9 (by kernel_rfl) (by kernel_rfl) (by kernel_rfl) ?_
 refine sq (v := (pt bs_0 os_0)) (rv_move rfl) ?_
 refine sq (v := (pt bs_0 os_0)) (rv_nilCheck rfl) ?_
 refine sq (v := (pt bs_0 (os_0 + 5))) (rv_fieldAddr (off := 5) (ft := 32) Try.underlying111 rfl ti32 rfl rfl) ?_
 have hc1 := H.cell (u := (Sl as_0_5 s_0.2.2.2.2.2.1 cs_0_5)) (o' := (os_0 + 5)) 0 5 rfl rfl rfl
 refine sq (v := (Sl as_0_5 s_0.2.2.2.2.2.1 cs_0_5)) (rv_load1 Try.underlying32 rfl rfl hc1) ?_
 refine sq (v := (I (s_0.2.2.2.2.2.1.length : Int))) (rv_len Try.underlying32 rfl) ?_
 refine sq (v := (pt bs_0 os_0)) (rv_move rfl) ?_
 refine sq (v := (pt bs_0 os_0)) (rv_nilCheck rfl) ?_
 refine sq (v := (pt bs_0 (os_0 + 4))) (rv_fieldAddr (off := 4) (ft := 3) Try.underlying111 rfl ti3 rfl rfl) ?_
 have hc2 := H.cell (u := (I s_0.2.2.2.2.1)) (o' := (os_0 + 4)) 0 4 rfl rfl rfl
 refine sq (v := (I s_0.2.2.2.2.1)) (rv_load1 Try.underlying3 rfl rfl hc2) ?_
 refine sq_end ?_
 intro σ3 hm4
 replace H := H.grow (hm4.mono fun _ h => h); clear hm4
 refine st (v := (B (decide ((s_0.2.2.2.2.2.1.length : Int) < s_0.2.2.2.2.1)))) (rv_lss (a := (s_0.2.2.2.2.2.1.length : Int)) (b := s_0.2.2.2.2.1) rfl rfl) ?_
 refine w_end ?_
 refine q_then ?_
 refine cd_cond (decide ((s_0.2.2.2.2.2.1.length : Int) < s_0.2.2.2.2.1)) rfl (fun hb5 => ?_) (fun hb5 => ?_)
 ·replace h := bif_t hb5 h
  refine c_seq ?_
  refine rg ?_
  refine st (v := (I 1000000)) (rv_assign rfl) ?_
  refine w_end ?_
  refine q_then ?_
  refine c_ret ?_
  refine q_then_r ?_
  obtain rfl := Option.some.inj h
  exact fin_ret (v := (I 1000000)) (results_ok Try.results160 (res_tmp (v := (I 1000000)) rfl res_nil) rfl) ⟨rfl, rfl⟩ (H.sel' [0] rfl rfl)
 ·replace h := bif_f hb5 h
  refine c_skip ?_
  refine q_then ?_
  refine c_seq ?_
  refine rgP (σ := σ3) 10 (by kernel_rfl) (by kernel_rfl) (by kernel_rfl) ?_
  refine sq (v := (pt bs_0 os_0)) (rv_move rfl) ?_
  refine sq (v := (pt bs_0 os_0)) (rv_nilCheck rfl) ?_
  refine sq (v := (pt bs_0 (os_0 + 5))) (rv_fieldAddr (off := 5) (ft := 32) Try.underlying111 rfl ti32 rfl rfl) ?_
  have hc6 := H.cell (u := (Sl as_0_5 s_0.2.2.2.2.2.1 cs_0_5)) (o' := (os_0 + 5)) 0 5 rfl rfl rfl
  refine sq (v := (Sl as_0_5 s_0.2.2.2.2.2.1 cs_0_5)) (rv_load1 Try.underlying32 rfl rfl hc6) ?_
  refine sq (v := (pt bs_0 os_0)) (rv_move rfl) ?_
  refine sq (v := (pt bs_0 os_0)) (rv_nilCheck rfl) ?_
  refine sq (v := (pt bs_0 (os_0 + 5))) (rv_fieldAddr (off := 5) (ft := 32) Try.underlying111 rfl ti32 rfl rfl) ?_
  have hc7 := H.cell (u := (Sl as_0_5 s_0.2.2.2.2.2.1 cs_0_5)) (o' := (os_0 + 5)) 0 5 rfl rfl rfl
  refine sq (v := (Sl as_0_5 s_0.2.2.2.2.2.1 cs_0_5)) (rv_load1 Try.underlying32 rfl rfl hc7) ?_
  refine sq (v := (I (s_0.2.2.2.2.2.1.length : Int))) (rv_len Try.underlying32 rfl) ?_
  refine sq (v := (I (w64 ((s_0.2.2.2.2.2.1.length : Int) - 1)))) (rv_sub (a := (s_0.2.2.2.2.2.1.length : Int)) (b := 1) rfl rfl) ?_
  refine sq_end ?_
  intro σ8 hm9
  replace H := H.grow (hm9.mono fun _ h => h); clear hm9
  obtain ⟨x10, hx11, h'⟩ := bind_some h
  clear h
  have h := h'; clear h'
  obtain ⟨b13, o14, hi12, -⟩ := (H.ro 4 rfl).ix hx11
  refine st (v := (pt b13 o14)) (rv_ix Try.underlying32 ti86 rfl rfl hi12) ?_
  refine st (v := (pt b13 (o14 + 1))) (rv_fieldAddr (off := 1) (ft := 3) Try.underlying86 rfl ti3 rfl rfl) ?_
  have hc15 := ((H.ro 4 rfl).at hx11 hi12).snd.int
  refine st (v := (I x10.2)) (rv_load1 Try.underlying3 rfl rfl hc15) ?_
  refine st (v := (I x10.2)) (rv_assign rfl) ?_
  refine w_end ?_
  refine q_then ?_
  refine c_ret ?_
  obtain rfl := Option.some.inj h
  exact fin_ret (v := (I x10.2)) (results_ok Try.results160 (res_tmp (v := (I x10.2)) rfl res_nil) rfl) ⟨rfl, rfl⟩ (H.sel' [0] rfl rfl)

theorem c_spec_seek_visit : ∀ (fuel : Nat) {s_0 : (List (Int × Int × Int × Int)) × (List (Int × (List Int) × Int)) × Int × (List Int) × Int × (List (Int × Int)) × Int} {i_1 : Int} {as_0_0 : Option Addr} {cs_0_0 : Nat} {as_0_1 : Option Addr} {cs_0_1 : Nat} {as_0_3 : Option Addr} {cs_0_3 : Nat} {as_0_5 : Option Addr} {cs_0_5 : Nat} {los_0 bs_0 os_0 : Nat} {pres_0 sufs_0 : List Value} {r : ((List (Int × Int × Int × Int)) × (List (Int × (List Int) × Int)) × Int × (List Int) × Int × (List (Int × Int)) × Int)} (h : M.spec_seek_visit fuel s_0 i_1 = some r),
    Cal2 Try.prog 138 [(pt bs_0 os_0), (I i_1)] [Ch.bx los_0 bs_0 os_0 [(Sl as_0_0 s_0.1 cs_0_0), (Sl as_0_1 s_0.2.1 cs_0_1), (I s_0.2.2.1), (Sl as_0_3 s_0.2.2.2.1 cs_0_3), (I s_0.2.2.2.2.1), (Sl as_0_5 s_0.2.2.2.2.2.1 cs_0_5), (I s_0.2.2.2.2.2.2)] pres_0 sufs_0, Ch.ro 0 (Sl as_0_0 s_0.1 cs_0_0) s_0.1, Ch.ro 0 (Sl as_0_1 s_0.2.1 cs_0_1) s_0.2.1, Ch.ro 0 (Sl as_0_3 s_0.2.2.2.1 cs_0_3) s_0.2.2.2.1, Ch.ro 0 (Sl as_0_5 s_0.2.2.2.2.2.1 cs_0_5) s_0.2.2.2.2.2.1] (fun n0 v L => ∃ (az1 : Option Addr), ∃ (cz2 : Nat), ∃ (az3 : Option Addr), ∃ (cz4 : Nat), ∃ (az5 : Option Addr), ∃ (cz6 : Nat), ∃ (az7 : Option Addr), ∃ (cz8 : Nat), v = (.tuple #[]) ∧ L = [Ch.bx los_0 bs_0 os_0 [(Sl az1 r.1 cz2), (Sl az3 r.2.1 cz4), (I r.2.2.1), (Sl az5 r.2.2.2.1 cz6), (I r.2.2.2.2.1), (Sl az7 r.2.2.2.2.2.1 cz8), (I r.2.2.2.2.2.2)] pres_0 sufs_0, Ch.ro 0 (Sl az1 r.1 cz2) r.1, Ch.ro 0 (Sl az3 r.2.1 cz4) r.2.1, Ch.ro 0 (Sl az5 r.2.2.2.1 cz6) r.2.2.2.1, Ch.ro 0 (Sl az7 r.2.2.2.2.2.1 cz8) r.2.2.2.2.2.1]) := by
 intro fuel
 induction fuel with
 | zero => intro _ _ _ _ _ _ _ _ _ _ _ _ _ _ _ r h; cases h
 | succ fuel ih =>
 ·intro s_0 i_1 as_0_0 cs_0_0 as_0_1 cs_0_1 as_0_3 cs_0_3 as_0_5 cs_0_5 los_0 bs_0 os_0 pres_0 sufs_0 r h
  replace h : M.spec_seek_visit_F (M.spec_seek_visit fuel) s_0 i_1 = some r := h
  refine cal2 (n := 96) Try.func138 rfl rfl rfl rfl ?_
  intro S0 σ0 n0 hn0 H
  unfold M.spec_seek_visit_F at h
  refine c_seq ?_
  refine c_seq ?_
  refine rg ?_
  refine st (v := (I i_1)) (rv_move rfl) ?_
  refine st (v := (B (decide (i_1 < 0)))) (rv_lss (a := i_1) (b := 0) rfl rfl) ?_
  refine w_end ?_
  refine q_then ?_
  refine cd_cond (decide (i_1 < 0)) rfl (fun hb1 => ?_) (fun hb1 => ?_)
  ·replace h := bif_t hb1 h
   refine c_ret ?_
   refine q_then_r ?_
   obtain rfl := Option.some.inj h
   exact fin_ret (v := (.tuple #[])) (results_ok Try.results138 res_nil rfl) ⟨as_0_0, cs_0_0, as_0_1, cs_0_1, as_0_3, cs_0_3, as_0_5, cs_0_5, rfl, rfl⟩ (H.sel' [0, 1, 2, 3, 4] rfl rfl)
  ·replace h := bif_f hb1 h
   refine c_skip ?_
   refine q_then ?_
   refine c_seq ?_
   refine rg ?_
   refine st (v := (pt bs_0 os_0)) (rv_move rfl) ?_
   refine st (v := (pt bs_0 os_0)) (rv_nilCheck rfl) ?_
   refine st (v := (pt bs_0 os_0)) (rv_fieldAddr (off := 0) (ft := 43) Try.underlying111 rfl ti43 rfl rfl) ?_
   have hc2 := H.cell (u := (Sl as_0_0 s_0.1 cs_0_0)) (o' := os_0) 0 0 rfl rfl rfl
   refine st (v := (Sl as_0_0 s_0.1 cs_0_0)) (rv_load1 Try.underlying43 rfl rfl hc2) ?_
   refine st (v := (I i_1)) (rv_move rfl) ?_
   obtain ⟨x3, hx4, h'⟩ := bind_some h
   clear h
   have h := h'; clear h'
   obtain ⟨b6, o7, hi5, -⟩ := (H.ro 1 rfl).ix hx4
   refine st (v := (pt b6 o7)) (rv_ix Try.underlying43 ti47 rfl rfl hi5) ?_
   obtain ⟨_, ⟨_, _, rfl, rfl, ⟨_, _, rfl, rfl, ⟨_, _, rfl, rfl, rfl⟩⟩⟩, hl8, hc9⟩ := ((H.ro 1 rfl).at hx4 hi5).cells
   refine st (v := (.agg #[(I x3.1), (I x3.2.1), (I x3.2.2.1), (I x3.2.2.2)])) (rv_load Try.underlying47 rfl ti47 rfl hl8 hc9) ?_
   refine st_ex (ex_alloc (cs := [(I 0), (I 0), (I 0), (I 0)]) H hn0 ti47 rfl) wn ?_
   rintro _ σ11 ⟨b10, rfl, H, -⟩
   refine st_exS (ex_store_box (k := 0) (cs := [(I 0), (I 0), (I 0), (I 0)]) (vs := [(I x3.1), (I x3.2.1), (I x3.2.2.1), (I x3.2.2.2)]) (cs' := [(I x3.1), (I x3.2.1), (I x3.2.2.1), (I x3.2.2.2)]) H (i := 0) rfl ti47 rfl rfl rfl rfl rfl (Nat.le_of_ble_eq_true rfl) (by simp [plain]) rfl) wn ?_
   rintro σ12 ⟨H, -⟩
   refine w_end ?_
   refine q_then ?_
   refine c_seq ?_
   have hc13 := H.cell (u := (I s_0.2.2.1)) (o' := (os_0 + 2)) 1 2 rfl rfl rfl
   have hc14 := H.cell (u := (Sl as_0_1 s_0.2.1 cs_0_1)) (o' := (os_0 + 1)) 1 1 rfl rfl rfl
   have hc15 := H.cell (u := (Sl as_0_1 s_0.2.1 cs_0_1)) (o' := (os_0 + 1)) 1 1 rfl rfl rfl
   have hc16 := H.cell (u := (I x3.1)) (o' := 0) 0 0 rfl rfl rfl
   obtain ⟨r17, hx18, h'⟩ := bind_some h
   clear h
   have h := h'; clear h'
   have hc19 := c_spec_keyAt (alist_0 := as_0_1) (clist_0 := cs_0_1) hx18
   obtain ⟨x20, hx21, h'⟩ := bind_some h
   clear h
   have h := h'; clear h'
   obtain ⟨b23, o24, hi22, -⟩ := (H.ro 3 rfl).ix hx21
   obtain ⟨v28, hc29, hR27⟩ := ((H.ro 3 rfl).at hx21 hi22).snd.fst.slice
   obtain ⟨a25, c26, rfl⟩ := hR27.isSl
   replace H := H.add (d := Ch.ro 0 (Sl a25 x20.2.1 c26) x20.2.1) hR27 (fun _ h => h)
   clear hR27
   have hc30 := H.cell (u := (Sl as_0_3 s_0.2.2.2.1 cs_0_3)) (o' := (os_0 + 3)) 2 3 rfl rfl rfl
   have Hs := H
   refine rg2 (σ := σ12) (Nm := Unit) 22 [14] [[false], [true]] [[(0, 0), (1, 1)], [(0, 0), (1, 1)], [(0, 0), (1, 1)], [(0, 0), (1, 1)], [(0, 0), (1, 1)], [(0, 0), (1, 1)], [(0, 0), (1, 1)], [(0, 0), (1, 1)], [(0, 0)], [(0, 0)], [(0, 0)], [(0, 0)], [(0, 0)], [(0, 0)], [(0, 1)], [(1, 1)], [(1, 1)], [(1, 1)], [(0, 0), (1, 1)], [(0, 0), (1, 1)], [(0, 0), (1, 1)], [(0, 0), (1, 1)]] 1 [fun _ => fun σm => Hp S0 σ0 σm [Ch.ro 0 (Sl a25 x20.2.1 c26) x20.2.1, Ch.bx n0 b10 0 [(I x3.1), (I x3.2.1), (I x3.2.2.1), (I x3.2.2.2)] [] [], Ch.bx los_0 bs_0 os_0 [(Sl as_0_0 s_0.1 cs_0_0), (Sl as_0_1 s_0.2.1 cs_0_1), (I s_0.2.2.1), (Sl as_0_3 s_0.2.2.2.1 cs_0_3), (I s_0.2.2.2.2.1), (Sl as_0_5 s_0.2.2.2.2.2.1 cs_0_5), (I s_0.2.2.2.2.2.2)] pres_0 sufs_0, Ch.ro 0 (Sl as_0_0 s_0.1 cs_0_0) s_0.1, Ch.ro 0 (Sl as_0_1 s_0.2.1 cs_0_1) s_0.2.1, Ch.ro 0 (Sl as_0_3 s_0.2.2.2.1 cs_0_3) s_0.2.2.2.1, Ch.ro 0 (Sl as_0_5 s_0.2.2.2.2.2.1 cs_0_5) s_0.2.2.2.2.2.1] ∧ Md (cov []) σ12 σm, fun _ => fun σm => Hp S0 σ0 σm [Ch.ro 0 (Sl a25 x20.2.1 c26) x20.2.1, Ch.bx n0 b10 0 [(I x3.1), (I x3.2.1), (I x3.2.2.1), (I x3.2.2.2)] [] [], Ch.bx los_0 bs_0 os_0 [(Sl as_0_0 s_0.1 cs_0_0), (Sl as_0_1 s_0.2.1 cs_0_1), (I s_0.2.2.1), (Sl as_0_3 s_0.2.2.2.1 cs_0_3), (I s_0.2.2.2.2.1), (Sl as_0_5 s_0.2.2.2.2.2.1 cs_0_5), (I s_0.2.2.2.2.2.2)] pres_0 sufs_0, Ch.ro 0 (Sl as_0_0 s_0.1 cs_0_0) s_0.1, Ch.ro 0 (Sl as_0_1 s_0.2.1 cs_0_1) s_0.2.1, Ch.ro 0 (Sl as_0_3 s_0.2.2.2.1 cs_0_3) s_0.2.2.2.1, Ch.ro 0 (Sl as_0_5 s_0.2.2.2.2.2.1 cs_0_5) s_0.2.2.2.2.2.1] ∧ Md (cov []) σ12 σm] [fun _ => (pt bs_0 os_0), fun _ => (pt bs_0 os_0), fun _ => (pt bs_0 (os_0 + 2)), fun _ => (I s_0.2.2.1), fun _ => (pt bs_0 os_0), fun _ => (pt bs_0 os_0), fun _ => (pt bs_0 (os_0 + 1)), fun _ => (Sl as_0_1 s_0.2.1 cs_0_1), fun _ => (pt bs_0 os_0), fun _ => (pt bs_0 os_0), fun _ => (pt bs_0 (os_0 + 1)), fun _ => (Sl as_0_1 s_0.2.1 cs_0_1), fun _ => (pt b10 0), fun _ => (I x3.1), fun _ => (I r17), fun _ => (pt b23 o24), fun _ => (pt b23 (o24 + 1)), fun _ => (Sl a25 x20.2.1 c26), fun _ => (pt bs_0 os_0), fun _ => (pt bs_0 os_0), fun _ => (pt bs_0 (os_0 + 3)), fun _ => (Sl as_0_3 s_0.2.2.2.1 cs_0_3)] () (by kernel_rfl) (by kernel_rfl) ?_ ?_ ?_
   ·intro σm m0
    exact ⟨H.grow (m0.mono fun _ h => h.elim), m0⟩
   ·refine ac rfl (by
      intro k _nm ρ σm hJ hoff hdep
      have e0 := look_off (N := 96) (hoff 0 rfl) rfl
      exact dp_v (v := (pt bs_0 os_0)) wn (rv_move e0) rfl hJ) ?_
    refine ac rfl (by
      intro k _nm ρ σm hJ hoff hdep
      have e15 := hdep 0 rfl rfl 15 rfl
      exact dp_v (v := (pt bs_0 os_0)) wn (rv_nilCheck e15) rfl hJ) ?_
    refine ac rfl (by
      intro k _nm ρ σm hJ hoff hdep
      have e16 := hdep 1 rfl rfl 16 rfl
      exact dp_v (v := (pt bs_0 (os_0 + 2))) wn (rv_fieldAddr (off := 2) (ft := 3) Try.underlying111 rfl ti3 rfl e16) rfl hJ) ?_
    refine all_cons (by
      refine ⟨?_, ?_⟩
      ·intro _nm ρ σm hJ hoff hdep
       have e17 := hdep 2 rfl rfl 17 rfl
       obtain ⟨H, m⟩ := id hJ
       have hc13 := H.cell (u := (I s_0.2.2.1)) (o' := (os_0 + 2)) 2 2 rfl rfl rfl
       exact dp_v (v := (I s_0.2.2.1)) wn (rv_load1 Try.underlying3 rfl e17 hc13) rfl hJ
      refine ⟨?_, ?_⟩
      ·intro _nm ρ σm hJ hoff hdep
       have e17 := hdep 2 rfl rfl 17 rfl
       obtain ⟨H, m⟩ := id hJ
       have hc13 := H.cell (u := (I s_0.2.2.1)) (o' := (os_0 + 2)) 2 2 rfl rfl rfl
       exact dp_v (v := (I s_0.2.2.1)) wn (rv_load1 Try.underlying3 rfl e17 hc13) rfl hJ
      trivial) ?_
    refine ac rfl (by
      intro k _nm ρ σm hJ hoff hdep
      have e0 := look_off (N := 96) (hoff 0 rfl) rfl
      exact dp_v (v := (pt bs_0 os_0)) wn (rv_move e0) rfl hJ) ?_
    refine ac rfl (by
      intro k _nm ρ σm hJ hoff hdep
      have e19 := hdep 4 rfl rfl 19 rfl
      exact dp_v (v := (pt bs_0 os_0)) wn (rv_nilCheck e19) rfl hJ) ?_
    refine ac rfl (by
      intro k _nm ρ σm hJ hoff hdep
      have e20 := hdep 5 rfl rfl 20 rfl
      exact dp_v (v := (pt bs_0 (os_0 + 1))) wn (rv_fieldAddr (off := 1) (ft := 23) Try.underlying111 rfl ti23 rfl e20) rfl hJ) ?_
    refine all_cons (by
      refine ⟨?_, ?_⟩
      ·intro _nm ρ σm hJ hoff hdep
       have e21 := hdep 6 rfl rfl 21 rfl
       obtain ⟨H, m⟩ := id hJ
       have hc14 := H.cell (u := (Sl as_0_1 s_0.2.1 cs_0_1)) (o' := (os_0 + 1)) 2 1 rfl rfl rfl
       exact dp_v (v := (Sl as_0_1 s_0.2.1 cs_0_1)) wn (rv_load1 Try.underlying23 rfl e21 hc14) rfl hJ
      refine ⟨?_, ?_⟩
      ·intro _nm ρ σm hJ hoff hdep
       have e21 := hdep 6 rfl rfl 21 rfl
       obtain ⟨H, m⟩ := id hJ
       have hc14 := H.cell (u := (Sl as_0_1 s_0.2.1 cs_0_1)) (o' := (os_0 + 1)) 2 1 rfl rfl rfl
       exact dp_v (v := (Sl as_0_1 s_0.2.1 cs_0_1)) wn (rv_load1 Try.underlying23 rfl e21 hc14) rfl hJ
      trivial) ?_
    refine ac rfl (by
      intro k _nm ρ σm hJ hoff hdep
      have e0 := look_off (N := 96) (hoff 0 rfl) rfl
      exact dp_v (v := (pt bs_0 os_0)) wn (rv_move e0) rfl hJ) ?_
    refine ac rfl (by
      intro k _nm ρ σm hJ hoff hdep
      have e23 := hdep 8 rfl rfl 23 rfl
      exact dp_v (v := (pt bs_0 os_0)) wn (rv_nilCheck e23) rfl hJ) ?_
    refine ac rfl (by
      intro k _nm ρ σm hJ hoff hdep
      have e24 := hdep 9 rfl rfl 24 rfl
      exact dp_v (v := (pt bs_0 (os_0 + 1))) wn (rv_fieldAddr (off := 1) (ft := 23) Try.underlying111 rfl ti23 rfl e24) rfl hJ) ?_
    refine all_cons (by
      refine ⟨?_, ?_⟩
      ·intro _nm ρ σm hJ hoff hdep
       have e25 := hdep 10 rfl rfl 25 rfl
       obtain ⟨H, m⟩ := id hJ
       have hc15 := H.cell (u := (Sl as_0_1 s_0.2.1 cs_0_1)) (o' := (os_0 + 1)) 2 1 rfl rfl rfl
       exact dp_v (v := (Sl as_0_1 s_0.2.1 cs_0_1)) wn (rv_load1 Try.underlying23 rfl e25 hc15) rfl hJ
      trivial) ?_
    refine ac rfl (by
      intro k _nm ρ σm hJ hoff hdep
      have e4 := look_off (N := 96) (hoff 4 rfl) rfl
      exact dp_v (v := (pt b10 0)) wn (rv_fieldAddr (off := 0) (ft := 3) Try.underlying47 rfl ti3 rfl e4) rfl hJ) ?_
    refine all_cons (by
      refine ⟨?_, ?_⟩
      ·intro _nm ρ σm hJ hoff hdep
       have e27 := hdep 12 rfl rfl 27 rfl
       obtain ⟨H, m⟩ := id hJ
       have hc16 := H.cell (u := (I x3.1)) (o' := 0) 1 0 rfl rfl rfl
       exact dp_v (v := (I x3.1)) wn (rv_load1 Try.underlying3 rfl e27 hc16) rfl hJ
      trivial) ?_
    refine all_cons (by
      refine ⟨?_, ?_⟩
      ·intro _nm ρ σm hJ hoff hdep
       have e26 : look 96 ρ 26 = (Sl as_0_1 s_0.2.1 cs_0_1) := hdep 11 rfl rfl 26 rfl
       have e28 : look 96 ρ 28 = (I x3.1) := hdep 13 rfl rfl 28 rfl
       obtain ⟨H, m⟩ := id hJ
       refine dp_cx wn (cx_call hc19 (ent_f hc19.fn (by show [look 96 ρ 26, look 96 ρ 28] = _; rw [e26, e28])) hn0 (show Hp S0 σ0 _ ([Ch.ro 0 (Sl as_0_1 s_0.2.1 cs_0_1) s_0.2.1] ++ [Ch.ro 0 (Sl a25 x20.2.1 c26) x20.2.1, Ch.bx n0 b10 0 [(I x3.1), (I x3.2.1), (I x3.2.2.1), (I x3.2.2.2)] [] [], Ch.bx los_0 bs_0 os_0 [(Sl as_0_0 s_0.1 cs_0_0), (Sl as_0_1 s_0.2.1 cs_0_1), (I s_0.2.2.1), (Sl as_0_3 s_0.2.2.2.1 cs_0_3), (I s_0.2.2.2.2.1), (Sl as_0_5 s_0.2.2.2.2.2.1 cs_0_5), (I s_0.2.2.2.2.2.2)] pres_0 sufs_0, Ch.ro 0 (Sl as_0_0 s_0.1 cs_0_0) s_0.1, Ch.ro 0 (Sl as_0_1 s_0.2.1 cs_0_1) s_0.2.1, Ch.ro 0 (Sl as_0_3 s_0.2.2.2.1 cs_0_3) s_0.2.2.2.1, Ch.ro 0 (Sl as_0_5 s_0.2.2.2.2.2.1 cs_0_5) s_0.2.2.2.2.2.1]) from (H.sel' [4, 0, 1, 2, 3, 4, 5, 6] rfl rfl))) ?_
       rintro _ σq ⟨_, ⟨rfl, rfl⟩, H2, m2⟩
       exact ⟨_, (), rfl, rfl, ⟨H2.sel' [0, 1, 2, 3, 4, 5, 6] rfl rfl, m.comp0 (m2.mono (fun i h => by simp [cov, Ch.ro] at h))⟩, stab [0, 1, 2, 3, 4, 5, 6, 7, 8, 9, 10, 11, 12, 13, 18, 19, 20, 21] (by kernel_rfl) ⟨rfl, rfl, rfl, rfl, rfl, rfl, rfl, rfl, rfl, rfl, rfl, rfl, rfl, rfl, rfl, rfl, rfl, rfl, trivial⟩⟩
      trivial) ?_
    refine ac rfl (by
      intro k _nm ρ σm hJ hoff hdep
      have e22 := hdep 7 rfl rfl 22 rfl
      have e29 := hdep 14 rfl rfl 29 rfl
      exact dp_v (v := (pt b23 o24)) wn (rv_ix Try.underlying23 ti40 e22 e29 hi22) rfl hJ) ?_
    refine ac rfl (by
      intro k _nm ρ σm hJ hoff hdep
      have e30 := hdep 15 rfl rfl 30 rfl
      exact dp_v (v := (pt b23 (o24 + 1))) wn (rv_fieldAddr (off := 1) (ft := 24) Try.underlying40 rfl ti24 rfl e30) rfl hJ) ?_
    refine all_cons (by
      refine ⟨?_, ?_⟩
      ·intro _nm ρ σm hJ hoff hdep
       have e31 := hdep 16 rfl rfl 31 rfl
       obtain ⟨H, m⟩ := id hJ
       replace hc29 := (Hs.ro 4 rfl).hmd hx21 hi22 (k := 1) (by decide) hc29 m
       exact dp_v (v := (Sl a25 x20.2.1 c26)) wn (rv_load1 Try.underlying24 rfl e31 hc29) rfl hJ
      trivial) ?_
    refine ac rfl (by
      intro k _nm ρ σm hJ hoff hdep
      have e0 := look_off (N := 96) (hoff 0 rfl) rfl
      exact dp_v (v := (pt bs_0 os_0)) wn (rv_move e0) rfl hJ) ?_
    refine ac rfl (by
      intro k _nm ρ σm hJ hoff hdep
      have e33 := hdep 18 rfl rfl 33 rfl
      exact dp_v (v := (pt bs_0 os_0)) wn (rv_nilCheck e33) rfl hJ) ?_
    refine ac rfl (by
      intro k _nm ρ σm hJ hoff hdep
      have e34 := hdep 19 rfl rfl 34 rfl
      exact dp_v (v := (pt bs_0 (os_0 + 3))) wn (rv_fieldAddr (off := 3) (ft := 24) Try.underlying111 rfl ti24 rfl e34) rfl hJ) ?_
    refine all_cons (by
      refine ⟨?_, ?_⟩
      ·intro _nm ρ σm hJ hoff hdep
       have e35 := hdep 20 rfl rfl 35 rfl
       obtain ⟨H, m⟩ := id hJ
       have hc30 := H.cell (u := (Sl as_0_3 s_0.2.2.2.1 cs_0_3)) (o' := (os_0 + 3)) 2 3 rfl rfl rfl
       exact dp_v (v := (Sl as_0_3 s_0.2.2.2.1 cs_0_3)) wn (rv_load1 Try.underlying24 rfl e35 hc30) rfl hJ
      refine ⟨?_, ?_⟩
      ·intro _nm ρ σm hJ hoff hdep
       have e35 := hdep 20 rfl rfl 35 rfl
       obtain ⟨H, m⟩ := id hJ
       have hc30 := H.cell (u := (Sl as_0_3 s_0.2.2.2.1 cs_0_3)) (o' := (os_0 + 3)) 2 3 rfl rfl rfl
       exact dp_v (v := (Sl as_0_3 s_0.2.2.2.1 cs_0_3)) wn (rv_load1 Try.underlying24 rfl e35 hc30) rfl hJ
      trivial) ?_
    exact all_nil
   ·intro _nm ρ σ31 hJ hoff hrel
    have e0 := look_off (N := 96) (hoff 0 rfl) rfl
    have e4 := look_off (N := 96) (hoff 4 rfl) rfl
    have e18 := hrel 3 rfl 18 rfl
    have e32 := hrel 17 rfl 32 rfl
    have e36 := hrel 21 rfl 36 rfl
    obtain ⟨H, -⟩ := (show Hp S0 σ0 σ31 [Ch.ro 0 (Sl a25 x20.2.1 c26) x20.2.1, Ch.bx n0 b10 0 [(I x3.1), (I x3.2.1), (I x3.2.2.1), (I x3.2.2.2)] [] [], Ch.bx los_0 bs_0 os_0 [(Sl as_0_0 s_0.1 cs_0_0), (Sl as_0_1 s_0.2.1 cs_0_1), (I s_0.2.2.1), (Sl as_0_3 s_0.2.2.2.1 cs_0_3), (I s_0.2.2.2.2.1), (Sl as_0_5 s_0.2.2.2.2.2.1 cs_0_5), (I s_0.2.2.2.2.2.2)] pres_0 sufs_0, Ch.ro 0 (Sl as_0_0 s_0.1 cs_0_0) s_0.1, Ch.ro 0 (Sl as_0_1 s_0.2.1 cs_0_1) s_0.2.1, Ch.ro 0 (Sl as_0_3 s_0.2.2.2.1 cs_0_3) s_0.2.2.2.1, Ch.ro 0 (Sl as_0_5 s_0.2.2.2.2.2.1 cs_0_5) s_0.2.2.2.2.2.1] ∧ Md (cov []) σ12 σ31 from hJ)
    clear hJ Hs
    rw [fr_lookL (L := [(0, (pt bs_0 os_0)), (4, (pt b10 0)), (18, (I s_0.2.2.1)), (32, (Sl a25 x20.2.1 c26)), (36, (Sl as_0_3 s_0.2.2.2.1 cs_0_3))]) ⟨e0, e4, e18, e32, e36, trivial⟩]
    clear hoff hrel e0 e4 e18 e32 e36
    obtain ⟨r32, hx33, h'⟩ := bind_some h
    clear h
    have h := h'; clear h'
    have hc34 := c_spec_dist (aa_1 := a25) (ca_1 := c26) (ab_2 := as_0_3) (cb_2 := cs_0_3) hx33
    refine st_call (cx_call hc34 (ent_f hc34.fn rfl) hn0 (show Hp S0 σ0 _ ([Ch.ro 0 (Sl a25 x20.2.1 c26) x20.2.1, Ch.ro 0 (Sl as_0_3 s_0.2.2.2.1 cs_0_3) s_0.2.2.2.1] ++ [Ch.ro 0 (Sl a25 x20.2.1 c26) x20.2.1, Ch.bx n0 b10 0 [(I x3.1), (I x3.2.1), (I x3.2.2.1), (I x3.2.2.2)] [] [], Ch.bx los_0 bs_0 os_0 [(Sl as_0_0 s_0.1 cs_0_0), (Sl as_0_1 s_0.2.1 cs_0_1), (I s_0.2.2.1), (Sl as_0_3 s_0.2.2.2.1 cs_0_3), (I s_0.2.2.2.2.1), (Sl as_0_5 s_0.2.2.2.2.2.1 cs_0_5), (I s_0.2.2.2.2.2.2)] pres_0 sufs_0, Ch.ro 0 (Sl as_0_0 s_0.1 cs_0_0) s_0.1, Ch.ro 0 (Sl as_0_1 s_0.2.1 cs_0_1) s_0.2.1, Ch.ro 0 (Sl as_0_3 s_0.2.2.2.1 cs_0_3) s_0.2.2.2.1, Ch.ro 0 (Sl as_0_5 s_0.2.2.2.2.2.1 cs_0_5) s_0.2.2.2.2.2.1]) from (H.sel' [0, 5, 0, 1, 2, 3, 4, 5, 6] rfl rfl))) wn ?_
    rintro _ σ35 ⟨_, ⟨rfl, rfl⟩, H, -⟩
    replace H : Hp S0 σ0 σ35 [Ch.ro 0 (Sl a25 x20.2.1 c26) x20.2.1, Ch.bx n0 b10 0 [(I x3.1), (I x3.2.1), (I x3.2.2.1), (I x3.2.2.2)] [] [], Ch.bx los_0 bs_0 os_0 [(Sl as_0_0 s_0.1 cs_0_0), (Sl as_0_1 s_0.2.1 cs_0_1), (I s_0.2.2.1), (Sl as_0_3 s_0.2.2.2.1 cs_0_3), (I s_0.2.2.2.2.1), (Sl as_0_5 s_0.2.2.2.2.2.1 cs_0_5), (I s_0.2.2.2.2.2.2)] pres_0 sufs_0, Ch.ro 0 (Sl as_0_0 s_0.1 cs_0_0) s_0.1, Ch.ro 0 (Sl as_0_1 s_0.2.1 cs_0_1) s_0.2.1, Ch.ro 0 (Sl as_0_3 s_0.2.2.2.1 cs_0_3) s_0.2.2.2.1, Ch.ro 0 (Sl as_0_5 s_0.2.2.2.2.2.1 cs_0_5) s_0.2.2.2.2.2.1] := H
    refine st (v := (I r32)) (rv_assign rfl) ?_
    refine w_end ?_
    refine q_then ?_
    refine c_seq ?_
    refine rg ?_
    refine st (v := (pt bs_0 os_0)) (rv_move rfl) ?_
    refine st (v := (pt bs_0 os_0)) (rv_move rfl) ?_
    refine st (v := (pt bs_0 os_0)) (rv_nilCheck rfl) ?_
    refine st (v := (pt bs_0 (os_0 + 6))) (rv_fieldAddr (off := 6) (ft := 3) Try.underlying111 rfl ti3 rfl rfl) ?_
    have hc36 := H.cell (u := (I s_0.2.2.2.2.2.2)) (o' := (os_0 + 6)) 2 6 rfl rfl rfl
    refine st (v := (I s_0.2.2.2.2.2.2)) (rv_load1 Try.underlying3 rfl rfl hc36) ?_
    refine st (v := (I (w64 (s_0.2.2.2.2.2.2 + 1)))) (rv_add (a := s_0.2.2.2.2.2.2) (b := 1) rfl rfl) ?_
    refine st (v := (pt bs_0 os_0)) (rv_nilCheck rfl) ?_
    refine st (v := (pt bs_0 (os_0 + 6))) (rv_fieldAddr (off := 6) (ft := 3) Try.underlying111 rfl ti3 rfl rfl) ?_
    refine st_exS (ex_store_box (k := 6) (cs := [(Sl as_0_0 s_0.1 cs_0_0), (Sl as_0_1 s_0.2.1 cs_0_1), (I s_0.2.2.1), (Sl as_0_3 s_0.2.2.2.1 cs_0_3), (I s_0.2.2.2.2.1), (Sl as_0_5 s_0.2.2.2.2.2.1 cs_0_5), (I s_0.2.2.2.2.2.2)]) (vs := [(I (w64 (s_0.2.2.2.2.2.2 + 1)))]) (cs' := [(Sl as_0_0 s_0.1 cs_0_0), (Sl as_0_1 s_0.2.1 cs_0_1), (I s_0.2.2.1), (Sl as_0_3 s_0.2.2.2.1 cs_0_3), (I s_0.2.2.2.2.1), (Sl as_0_5 s_0.2.2.2.2.2.1 cs_0_5), (I (w64 (s_0.2.2.2.2.2.2 + 1)))]) H (i := 2) rfl ti3 rfl rfl rfl rfl rfl (Nat.le_of_ble_eq_true rfl) (by simp [plain]) rfl) wn ?_
    rintro σ37 ⟨H, -⟩
    refine w_end ?_
    refine q_then ?_
    refine c_seq ?_
    have hc38 := H.cell (u := (Sl as_0_5 s_0.2.2.2.2.2.1 cs_0_5)) (o' := (os_0 + 5)) 0 5 rfl rfl rfl
    have hc39 := H.cell (u := (I x3.1)) (o' := 0) 2 0 rfl rfl rfl
    have hc40 := H.cell (u := (I s_0.2.2.2.2.1)) (o' := (os_0 + 4)) 0 4 rfl rfl rfl
    obtain ⟨r41, hx42, h'⟩ := bind_some h
    clear h
    have h := h'; clear h'
    have hc43 := c_spec_addHit (alist_0 := as_0_5) (clist_0 := cs_0_5) hx42
    have Hs := H
    refine rg2 (σ := σ37) (Nm := (Option Addr) × (Nat)) 14 [13] [[false], [true]] [[(0, 0), (1, 1)], [(0, 0)], [(0, 0)], [(0, 0)], [(0, 0)], [(0, 0)], [(0, 0)], [(0, 0)], [(0, 0)], [(0, 0)], [(0, 0)], [(0, 0)], [(0, 0)], [(0, 1)]] 1 [fun ((a44, c45) : (Option Addr) × (Nat)) => fun σm => Hp S0 σ0 σm [Ch.bx los_0 bs_0 os_0 [(Sl as_0_0 s_0.1 cs_0_0), (Sl as_0_1 s_0.2.1 cs_0_1), (I s_0.2.2.1), (Sl as_0_3 s_0.2.2.2.1 cs_0_3), (I s_0.2.2.2.2.1), (Sl as_0_5 s_0.2.2.2.2.2.1 cs_0_5), (I (w64 (s_0.2.2.2.2.2.2 + 1)))] pres_0 sufs_0, Ch.ro 0 (Sl a25 x20.2.1 c26) x20.2.1, Ch.bx n0 b10 0 [(I x3.1), (I x3.2.1), (I x3.2.2.1), (I x3.2.2.2)] [] [], Ch.ro 0 (Sl as_0_0 s_0.1 cs_0_0) s_0.1, Ch.ro 0 (Sl as_0_1 s_0.2.1 cs_0_1) s_0.2.1, Ch.ro 0 (Sl as_0_3 s_0.2.2.2.1 cs_0_3) s_0.2.2.2.1, Ch.ro 0 (Sl as_0_5 s_0.2.2.2.2.2.1 cs_0_5) s_0.2.2.2.2.2.1] ∧ Md (cov []) σ37 σm, fun ((a44, c45) : (Option Addr) × (Nat)) => fun σm => Hp S0 σ0 σm [Ch.own n0 n0 (Sl a44 r41 c45) r41, Ch.bx los_0 bs_0 os_0 [(Sl as_0_0 s_0.1 cs_0_0), (Sl as_0_1 s_0.2.1 cs_0_1), (I s_0.2.2.1), (Sl as_0_3 s_0.2.2.2.1 cs_0_3), (I s_0.2.2.2.2.1), (Sl as_0_5 s_0.2.2.2.2.2.1 cs_0_5), (I (w64 (s_0.2.2.2.2.2.2 + 1)))] pres_0 sufs_0, Ch.ro 0 (Sl a25 x20.2.1 c26) x20.2.1, Ch.bx n0 b10 0 [(I x3.1), (I x3.2.1), (I x3.2.2.1), (I x3.2.2.2)] [] [], Ch.ro 0 (Sl as_0_0 s_0.1 cs_0_0) s_0.1, Ch.ro 0 (Sl as_0_1 s_0.2.1 cs_0_1) s_0.2.1, Ch.ro 0 (Sl as_0_3 s_0.2.2.2.1 cs_0_3) s_0.2.2.2.1, Ch.ro 0 (Sl as_0_5 s_0.2.2.2.2.2.1 cs_0_5) s_0.2.2.2.2.2.1] ∧ Md (cov []) σ37 σm] [fun ((a44, c45) : (Option Addr) × (Nat)) => (pt bs_0 os_0), fun ((a44, c45) : (Option Addr) × (Nat)) => (pt bs_0 os_0), fun ((a44, c45) : (Option Addr) × (Nat)) => (pt bs_0 os_0), fun ((a44, c45) : (Option Addr) × (Nat)) => (pt bs_0 (os_0 + 5)), fun ((a44, c45) : (Option Addr) × (Nat)) => (Sl as_0_5 s_0.2.2.2.2.2.1 cs_0_5), fun ((a44, c45) : (Option Addr) × (Nat)) => (pt b10 0), fun ((a44, c45) : (Option Addr) × (Nat)) => (I x3.1), fun ((a44, c45) : (Option Addr) × (Nat)) => (I r32), fun ((a44, c45) : (Option Addr) × (Nat)) => (.agg #[(I x3.1), (I r32)]), fun ((a44, c45) : (Option Addr) × (Nat)) => (pt bs_0 os_0), fun ((a44, c45) : (Option Addr) × (Nat)) => (pt bs_0 os_0), fun ((a44, c45) : (Option Addr) × (Nat)) => (pt bs_0 (os_0 + 4)), fun ((a44, c45) : (Option Addr) × (Nat)) => (I s_0.2.2.2.2.1), fun ((a44, c45) : (Option Addr) × (Nat)) => (Sl a44 r41 c45)] (none, 0) (by kernel_rfl) (by kernel_rfl) ?_ ?_ ?_
    ·intro σm m0
     exact ⟨H.grow (m0.mono fun _ h => h.elim), m0⟩
    ·refine ac rfl (by
       intro k; rintro ⟨a44, c45⟩ ρ σm hJ hoff hdep
       have e0 := look_off (N := 96) (hoff 0 rfl) rfl
       exact dp_v (v := (pt bs_0 os_0)) wn (rv_move e0) rfl hJ) ?_
     refine ac rfl (by
       intro k; rintro ⟨a44, c45⟩ ρ σm hJ hoff hdep
       have e0 := look_off (N := 96) (hoff 0 rfl) rfl
       exact dp_v (v := (pt bs_0 os_0)) wn (rv_move e0) rfl hJ) ?_
     refine ac rfl (by
       intro k; rintro ⟨a44, c45⟩ ρ σm hJ hoff hdep
       have e47 := hdep 1 rfl rfl 47 rfl
       exact dp_v (v := (pt bs_0 os_0)) wn (rv_nilCheck e47) rfl hJ) ?_
     refine ac rfl (by
       intro k; rintro ⟨a44, c45⟩ ρ σm hJ hoff hdep
       have e48 := hdep 2 rfl rfl 48 rfl
       exact dp_v (v := (pt bs_0 (os_0 + 5))) wn (rv_fieldAddr (off := 5) (ft := 32) Try.underlying111 rfl ti32 rfl e48) rfl hJ) ?_
     refine all_cons (by
       refine ⟨?_, ?_⟩
       ·rintro ⟨a44, c45⟩ ρ σm hJ hoff hdep
        have e49 := hdep 3 rfl rfl 49 rfl
        obtain ⟨H, m⟩ := id hJ
        have hc38 := H.cell (u := (Sl as_0_5 s_0.2.2.2.2.2.1 cs_0_5)) (o' := (os_0 + 5)) 0 5 rfl rfl rfl
        exact dp_v (v := (Sl as_0_5 s_0.2.2.2.2.2.1 cs_0_5)) wn (rv_load1 Try.underlying32 rfl e49 hc38) rfl hJ
       trivial) ?_
     refine ac rfl (by
       intro k; rintro ⟨a44, c45⟩ ρ σm hJ hoff hdep
       have e4 := look_off (N := 96) (hoff 4 rfl) rfl
       exact dp_v (v := (pt b10 0)) wn (rv_fieldAddr (off := 0) (ft := 3) Try.underlying47 rfl ti3 rfl e4) rfl hJ) ?_
     refine all_cons (by
       refine ⟨?_, ?_⟩
       ·rintro ⟨a44, c45⟩ ρ σm hJ hoff hdep
        have e51 := hdep 5 rfl rfl 51 rfl
        obtain ⟨H, m⟩ := id hJ
        have hc39 := H.cell (u := (I x3.1)) (o' := 0) 2 0 rfl rfl rfl
        exact dp_v (v := (I x3.1)) wn (rv_load1 Try.underlying3 rfl e51 hc39) rfl hJ
       trivial) ?_
     refine ac rfl (by
       intro k; rintro ⟨a44, c45⟩ ρ σm hJ hoff hdep
       have e5 := look_off (N := 96) (hoff 5 rfl) rfl
       exact dp_v (v := (I r32)) wn (rv_move e5) rfl hJ) ?_
     refine ac rfl (by
       intro k; rintro ⟨a44, c45⟩ ρ σm hJ hoff hdep
       have e52 : look 96 ρ 52 = (I x3.1) := hdep 6 rfl rfl 52 rfl
       have e53 : look 96 ρ 53 = (I r32) := hdep 7 rfl rfl 53 rfl
       exact dp_v (v := (.agg #[(I x3.1), (I r32)])) wn (rv_build (ps := [(0, (I x3.1)), (1, (I r32))]) Try.underlying86 ti86 (bp86 Try.underlying86) (by show [(0, look 96 ρ 52), (1, look 96 ρ 53)] = _; rw [e52, e53]) (by kernel_rfl)) rfl hJ) ?_
     refine ac rfl (by
       intro k; rintro ⟨a44, c45⟩ ρ σm hJ hoff hdep
       have e0 := look_off (N := 96) (hoff 0 rfl) rfl
       exact dp_v (v := (pt bs_0 os_0)) wn (rv_move e0) rfl hJ) ?_
     refine ac rfl (by
       intro k; rintro ⟨a44, c45⟩ ρ σm hJ hoff hdep
       have e55 := hdep 9 rfl rfl 55 rfl
       exact dp_v (v := (pt bs_0 os_0)) wn (rv_nilCheck e55) rfl hJ) ?_
     refine ac rfl (by
       intro k; rintro ⟨a44, c45⟩ ρ σm hJ hoff hdep
       have e56 := hdep 10 rfl rfl 56 rfl
       exact dp_v (v := (pt bs_0 (os_0 + 4))) wn (rv_fieldAddr (off := 4) (ft := 3) Try.underlying111 rfl ti3 rfl e56) rfl hJ) ?_
     refine all_cons (by
       refine ⟨?_, ?_⟩
       ·rintro ⟨a44, c45⟩ ρ σm hJ hoff hdep
        have e57 := hdep 11 rfl rfl 57 rfl
        obtain ⟨H, m⟩ := id hJ
        have hc40 := H.cell (u := (I s_0.2.2.2.2.1)) (o' := (os_0 + 4)) 0 4 rfl rfl rfl
        exact dp_v (v := (I s_0.2.2.2.2.1)) wn (rv_load1 Try.underlying3 rfl e57 hc40) rfl hJ
       trivial) ?_
     refine all_cons (by
       refine ⟨?_, ?_⟩
       ·rintro ⟨a44, c45⟩ ρ σm hJ hoff hdep
        have e50 : look 96 ρ 50 = (Sl as_0_5 s_0.2.2.2.2.2.1 cs_0_5) := hdep 4 rfl rfl 50 rfl
        have e54 : look 96 ρ 54 = (.agg #[(I x3.1), (I r32)]) := hdep 8 rfl rfl 54 rfl
        have e58 : look 96 ρ 58 = (I s_0.2.2.2.2.1) := hdep 12 rfl rfl 58 rfl
        obtain ⟨H, m⟩ := id hJ
        refine dp_cx wn (cx_call hc43 (ent_f hc43.fn (by show [look 96 ρ 50, look 96 ρ 54, look 96 ρ 58] = _; rw [e50, e54, e58])) hn0 (show Hp S0 σ0 _ ([Ch.ro 0 (Sl as_0_5 s_0.2.2.2.2.2.1 cs_0_5) s_0.2.2.2.2.2.1] ++ [Ch.bx los_0 bs_0 os_0 [(Sl as_0_0 s_0.1 cs_0_0), (Sl as_0_1 s_0.2.1 cs_0_1), (I s_0.2.2.1), (Sl as_0_3 s_0.2.2.2.1 cs_0_3), (I s_0.2.2.2.2.1), (Sl as_0_5 s_0.2.2.2.2.2.1 cs_0_5), (I (w64 (s_0.2.2.2.2.2.2 + 1)))] pres_0 sufs_0, Ch.ro 0 (Sl a25 x20.2.1 c26) x20.2.1, Ch.bx n0 b10 0 [(I x3.1), (I x3.2.1), (I x3.2.2.1), (I x3.2.2.2)] [] [], Ch.ro 0 (Sl as_0_0 s_0.1 cs_0_0) s_0.1, Ch.ro 0 (Sl as_0_1 s_0.2.1 cs_0_1) s_0.2.1, Ch.ro 0 (Sl as_0_3 s_0.2.2.2.1 cs_0_3) s_0.2.2.2.1, Ch.ro 0 (Sl as_0_5 s_0.2.2.2.2.2.1 cs_0_5) s_0.2.2.2.2.2.1]) from (H.sel' [6, 0, 1, 2, 3, 4, 5, 6] rfl rfl))) ?_
        rintro _ σq ⟨_, ⟨a44x, c45x, rfl, rfl⟩, H2, m2⟩
        exact ⟨_, (a44x, c45x), rfl, rfl, ⟨H2.sel' [0, 1, 2, 3, 4, 5, 6, 7] rfl rfl, m.comp0 (m2.mono (fun i h => by simp [cov, Ch.ro] at h))⟩, stab [0, 1, 2, 3, 4, 5, 6, 7, 8, 9, 10, 11, 12] (by kernel_rfl) ⟨rfl, rfl, rfl, rfl, rfl, rfl, rfl, rfl, rfl, rfl, rfl, rfl, rfl, trivial⟩⟩
       trivial) ?_
     exact all_nil
    ·rintro ⟨a44, c45⟩ ρ σ46 hJ hoff hrel
     have e0 := look_off (N := 96) (hoff 0 rfl) rfl
     have e4 := look_off (N := 96) (hoff 4 rfl) rfl
     have e5 := look_off (N := 96) (hoff 5 rfl) rfl
     have e46 := hrel 0 rfl 46 rfl
     have e59 := hrel 13 rfl 59 rfl
     obtain ⟨H, -⟩ := (show Hp S0 σ0 σ46 [Ch.own n0 n0 (Sl a44 r41 c45) r41, Ch.bx los_0 bs_0 os_0 [(Sl as_0_0 s_0.1 cs_0_0), (Sl as_0_1 s_0.2.1 cs_0_1), (I s_0.2.2.1), (Sl as_0_3 s_0.2.2.2.1 cs_0_3), (I s_0.2.2.2.2.1), (Sl as_0_5 s_0.2.2.2.2.2.1 cs_0_5), (I (w64 (s_0.2.2.2.2.2.2 + 1)))] pres_0 sufs_0, Ch.ro 0 (Sl a25 x20.2.1 c26) x20.2.1, Ch.bx n0 b10 0 [(I x3.1), (I x3.2.1), (I x3.2.2.1), (I x3.2.2.2)] [] [], Ch.ro 0 (Sl as_0_0 s_0.1 cs_0_0) s_0.1, Ch.ro 0 (Sl as_0_1 s_0.2.1 cs_0_1) s_0.2.1, Ch.ro 0 (Sl as_0_3 s_0.2.2.2.1 cs_0_3) s_0.2.2.2.1, Ch.ro 0 (Sl as_0_5 s_0.2.2.2.2.2.1 cs_0_5) s_0.2.2.2.2.2.1] ∧ Md (cov []) σ37 σ46 from hJ)
     clear hJ Hs
     rw [fr_lookL (L := [(0, (pt bs_0 os_0)), (4, (pt b10 0)), (5, (I r32)), (46, (pt bs_0 os_0)), (59, (Sl a44 r41 c45))]) ⟨e0, e4, e5, e46, e59, trivial⟩]
     clear hoff hrel e0 e4 e5 e46 e59
     refine st (v := (pt bs_0 os_0)) (rv_nilCheck rfl) ?_
     refine st (v := (pt bs_0 (os_0 + 5))) (rv_fieldAddr (off := 5) (ft := 32) Try.underlying111 rfl ti32 rfl rfl) ?_
     refine st_exS (ex_store_box (k := 5) (cs := [(Sl as_0_0 s_0.1 cs_0_0), (Sl as_0_1 s_0.2.1 cs_0_1), (I s_0.2.2.1), (Sl as_0_3 s_0.2.2.2.1 cs_0_3), (I s_0.2.2.2.2.1), (Sl as_0_5 s_0.2.2.2.2.2.1 cs_0_5), (I (w64 (s_0.2.2.2.2.2.2 + 1)))]) (vs := [(Sl a44 r41 c45)]) (cs' := [(Sl as_0_0 s_0.1 cs_0_0), (Sl as_0_1 s_0.2.1 cs_0_1), (I s_0.2.2.1), (Sl as_0_3 s_0.2.2.2.1 cs_0_3), (I s_0.2.2.2.2.1), (Sl a44 r41 c45), (I (w64 (s_0.2.2.2.2.2.2 + 1)))]) H (i := 1) rfl ti32 rfl rfl rfl rfl rfl (Nat.le_of_ble_eq_true rfl) (by simp [plain]) rfl) wn ?_
     rintro σ47 ⟨H, -⟩
     replace H : Hp S0 σ0 σ47 [Ch.bx los_0 bs_0 os_0 [(Sl as_0_0 s_0.1 cs_0_0), (Sl as_0_1 s_0.2.1 cs_0_1), (I s_0.2.2.1), (Sl as_0_3 s_0.2.2.2.1 cs_0_3), (I s_0.2.2.2.2.1), (Sl a44 r41 c45), (I (w64 (s_0.2.2.2.2.2.2 + 1)))] pres_0 sufs_0, Ch.own n0 n0 (Sl a44 r41 c45) r41, Ch.bx n0 b10 0 [(I x3.1), (I x3.2.1), (I x3.2.2.1), (I x3.2.2.2)] [] [], Ch.ro 0 (Sl as_0_0 s_0.1 cs_0_0) s_0.1, Ch.ro 0 (Sl as_0_1 s_0.2.1 cs_0_1) s_0.2.1, Ch.ro 0 (Sl as_0_3 s_0.2.2.2.1 cs_0_3) s_0.2.2.2.1] := H.sel' [0, 1, 3, 4, 5, 6] rfl rfl
     refine w_end ?_
     refine q_then ?_
     refine c_seq ?_
     refine c_seq ?_
     refine rg ?_
     refine st (v := (I r32)) (rv_move rfl) ?_
     refine st (v := (pt b10 1)) (rv_fieldAddr (off := 1) (ft := 3) Try.underlying47 rfl ti3 rfl rfl) ?_
     have hc48 := H.cell (u := (I x3.2.1)) (o' := 1) 2 1 rfl rfl rfl
     refine st (v := (I x3.2.1)) (rv_load1 Try.underlying3 rfl rfl hc48) ?_
     refine st (v := (B (decide (r32 ≤ x3.2.1)))) (rv_leq (a := r32) (b := x3.2.1) rfl rfl) ?_
     refine w_end ?_
     refine q_then ?_
     refine cd_cond (decide (r32 ≤ x3.2.1)) rfl (fun hb49 => ?_) (fun hb49 => ?_)
     ·replace h := bif_t hb49 h
      refine c_seq ?_
      refine rg ?_
      refine st (v := (pt bs_0 os_0)) (rv_move rfl) ?_
      refine st (v := (pt b10 2)) (rv_fieldAddr (off := 2) (ft := 3) Try.underlying47 rfl ti3 rfl rfl) ?_
      have hc50 := H.cell (u := (I x3.2.2.1)) (o' := 2) 2 2 rfl rfl rfl
      refine st (v := (I x3.2.2.1)) (rv_load1 Try.underlying3 rfl rfl hc50) ?_
      obtain ⟨σ51, hw52, H, -⟩ := H.pub 1 rfl (Nat.le_refl _)
      rw [← hw52]; clear hw52
      replace H := H.roLow 0 0 rfl (Nat.zero_le _)
      obtain ⟨r53, hx54, h'⟩ := bind_some h
      clear h
      have h := h'; clear h'
      have hc55 := ih (los_0 := los_0) (bs_0 := bs_0) (os_0 := os_0) (pres_0 := pres_0) (sufs_0 := sufs_0) (as_0_0 := as_0_0) (cs_0_0 := cs_0_0) (as_0_1 := as_0_1) (cs_0_1 := cs_0_1) (as_0_3 := as_0_3) (cs_0_3 := cs_0_3) (as_0_5 := a44) (cs_0_5 := c45) hx54
      refine st_call (cx_call hc55 (ent_f hc55.fn rfl) hn0 (show Hp S0 σ0 _ ([Ch.bx los_0 bs_0 os_0 [(Sl as_0_0 s_0.1 cs_0_0), (Sl as_0_1 s_0.2.1 cs_0_1), (I s_0.2.2.1), (Sl as_0_3 s_0.2.2.2.1 cs_0_3), (I s_0.2.2.2.2.1), (Sl a44 r41 c45), (I (w64 (s_0.2.2.2.2.2.2 + 1)))] pres_0 sufs_0, Ch.ro 0 (Sl as_0_0 s_0.1 cs_0_0) s_0.1, Ch.ro 0 (Sl as_0_1 s_0.2.1 cs_0_1) s_0.2.1, Ch.ro 0 (Sl as_0_3 s_0.2.2.2.1 cs_0_3) s_0.2.2.2.1, Ch.ro 0 (Sl a44 r41 c45) r41] ++ [Ch.ro 0 (Sl a44 r41 c45) r41, Ch.ro n0 (Sl a44 r41 c45) r41, Ch.bx n0 b10 0 [(I x3.1), (I x3.2.1), (I x3.2.2.1), (I x3.2.2.2)] [] [], Ch.ro 0 (Sl as_0_0 s_0.1 cs_0_0) s_0.1, Ch.ro 0 (Sl as_0_1 s_0.2.1 cs_0_1) s_0.2.1, Ch.ro 0 (Sl as_0_3 s_0.2.2.2.1 cs_0_3) s_0.2.2.2.1]) from (H.sel' [2, 4, 5, 6, 0, 0, 1, 3, 4, 5, 6] rfl rfl))) wn ?_
      rintro _ σ64 ⟨_, ⟨a56, c57, a58, c59, a60, c61, a62, c63, rfl, rfl⟩, H, -⟩
      replace H : Hp S0 σ0 σ64 [Ch.bx los_0 bs_0 os_0 [(Sl a56 r53.1 c57), (Sl a58 r53.2.1 c59), (I r53.2.2.1), (Sl a60 r53.2.2.2.1 c61), (I r53.2.2.2.2.1), (Sl a62 r53.2.2.2.2.2.1 c63), (I r53.2.2.2.2.2.2)] pres_0 sufs_0, Ch.ro 0 (Sl a56 r53.1 c57) r53.1, Ch.ro 0 (Sl a58 r53.2.1 c59) r53.2.1, Ch.ro 0 (Sl a60 r53.2.2.2.1 c61) r53.2.2.2.1, Ch.ro 0 (Sl a62 r53.2.2.2.2.2.1 c63) r53.2.2.2.2.2.1, Ch.ro 0 (Sl a44 r41 c45) r41, Ch.ro n0 (Sl a44 r41 c45) r41, Ch.bx n0 b10 0 [(I x3.1), (I x3.2.1), (I x3.2.2.1), (I x3.2.2.2)] [] [], Ch.ro 0 (Sl as_0_0 s_0.1 cs_0_0) s_0.1, Ch.ro 0 (Sl as_0_1 s_0.2.1 cs_0_1) s_0.2.1, Ch.ro 0 (Sl as_0_3 s_0.2.2.2.1 cs_0_3) s_0.2.2.2.1] := H
      replace H : Hp S0 σ0 σ64 [Ch.bx los_0 bs_0 os_0 [(Sl a56 r53.1 c57), (Sl a58 r53.2.1 c59), (I r53.2.2.1), (Sl a60 r53.2.2.2.1 c61), (I r53.2.2.2.2.1), (Sl a62 r53.2.2.2.2.2.1 c63), (I r53.2.2.2.2.2.2)] pres_0 sufs_0, Ch.ro 0 (Sl a56 r53.1 c57) r53.1, Ch.ro 0 (Sl a58 r53.2.1 c59) r53.2.1, Ch.ro 0 (Sl a60 r53.2.2.2.1 c61) r53.2.2.2.1, Ch.ro 0 (Sl a62 r53.2.2.2.2.2.1 c63) r53.2.2.2.2.2.1, Ch.bx n0 b10 0 [(I x3.1), (I x3.2.1), (I x3.2.2.1), (I x3.2.2.2)] [] []] := H.sel' [0, 1, 2, 3, 4, 7] rfl rfl
      refine w_end ?_
      refine q_then ?_
      refine c_seq ?_
      refine c_seq ?_
      obtain ⟨r65, hx66, h'⟩ := bind_some h
      clear h
      have h := h'; clear h'
      have hc67 := c_spec_seek_reach (los_0 := los_0) (bs_0 := bs_0) (os_0 := os_0) (pres_0 := pres_0) (sufs_0 := sufs_0) (as_0_0 := a56) (cs_0_0 := c57) (as_0_1 := a58) (cs_0_1 := c59) (as_0_3 := a60) (cs_0_3 := c61) (as_0_5 := a62) (cs_0_5 := c63) hx66
      have hc68 := H.cell (u := (I x3.2.1)) (o' := 1) 5 1 rfl rfl rfl
      have Hs := H
      refine rg2 (σ := σ64) (Nm := Unit) 6 [2] [[false], [true]] [[(0, 0), (1, 1)], [(0, 0)], [(0, 1)], [(1, 1)], [(0, 0), (1, 1)], [(0, 0), (1, 1)]] 1 [fun _ => fun σm => Hp S0 σ0 σm [Ch.bx los_0 bs_0 os_0 [(Sl a56 r53.1 c57), (Sl a58 r53.2.1 c59), (I r53.2.2.1), (Sl a60 r53.2.2.2.1 c61), (I r53.2.2.2.2.1), (Sl a62 r53.2.2.2.2.2.1 c63), (I r53.2.2.2.2.2.2)] pres_0 sufs_0, Ch.ro 0 (Sl a56 r53.1 c57) r53.1, Ch.ro 0 (Sl a58 r53.2.1 c59) r53.2.1, Ch.ro 0 (Sl a60 r53.2.2.2.1 c61) r53.2.2.2.1, Ch.ro 0 (Sl a62 r53.2.2.2.2.2.1 c63) r53.2.2.2.2.2.1, Ch.bx n0 b10 0 [(I x3.1), (I x3.2.1), (I x3.2.2.1), (I x3.2.2.2)] [] []] ∧ Md (cov []) σ64 σm, fun _ => fun σm => Hp S0 σ0 σm [Ch.bx los_0 bs_0 os_0 [(Sl a56 r53.1 c57), (Sl a58 r53.2.1 c59), (I r53.2.2.1), (Sl a60 r53.2.2.2.1 c61), (I r53.2.2.2.2.1), (Sl a62 r53.2.2.2.2.2.1 c63), (I r53.2.2.2.2.2.2)] pres_0 sufs_0, Ch.ro 0 (Sl a56 r53.1 c57) r53.1, Ch.ro 0 (Sl a58 r53.2.1 c59) r53.2.1, Ch.ro 0 (Sl a60 r53.2.2.2.1 c61) r53.2.2.2.1, Ch.ro 0 (Sl a62 r53.2.2.2.2.2.1 c63) r53.2.2.2.2.2.1, Ch.bx n0 b10 0 [(I x3.1), (I x3.2.1), (I x3.2.2.1), (I x3.2.2.2)] [] []] ∧ Md (fun i => (cov []) i ∨ (cov [Ch.bx los_0 bs_0 os_0 [(Sl a56 r53.1 c57), (Sl a58 r53.2.1 c59), (I r53.2.2.1), (Sl a60 r53.2.2.2.1 c61), (I r53.2.2.2.2.1), (Sl a62 r53.2.2.2.2.2.1 c63), (I r53.2.2.2.2.2.2)] pres_0 sufs_0, Ch.ro 0 (Sl a56 r53.1 c57) r53.1, Ch.ro 0 (Sl a58 r53.2.1 c59) r53.2.1, Ch.ro 0 (Sl a60 r53.2.2.2.1 c61) r53.2.2.2.1, Ch.ro 0 (Sl a62 r53.2.2.2.2.2.1 c63) r53.2.2.2.2.2.1]) i) σ64 σm] [fun _ => (I r32), fun _ => (pt bs_0 os_0), fun _ => (I r65), fun _ => (I (w64 (r32 + r65))), fun _ => (pt b10 1), fun _ => (I x3.2.1)] () (by kernel_rfl) (by kernel_rfl) ?_ ?_ ?_
      ·intro σm m0
       exact ⟨H.grow (m0.mono fun _ h => h.elim), m0⟩
      ·refine ac rfl (by
         intro k _nm ρ σm hJ hoff hdep
         have e5 := look_off (N := 96) (hoff 5 rfl) rfl
         exact dp_v (v := (I r32)) wn (rv_move e5) rfl hJ) ?_
       refine ac rfl (by
         intro k _nm ρ σm hJ hoff hdep
         have e0 := look_off (N := 96) (hoff 0 rfl) rfl
         exact dp_v (v := (pt bs_0 os_0)) wn (rv_move e0) rfl hJ) ?_
       refine all_cons (by
         refine ⟨?_, ?_⟩
         ·intro _nm ρ σm hJ hoff hdep
          have e71 : look 96 ρ 71 = (pt bs_0 os_0) := hdep 1 rfl rfl 71 rfl
          obtain ⟨H, m⟩ := id hJ
          refine dp_cx wn (cx_call hc67 (ent_f hc67.fn (by show [look 96 ρ 71] = _; rw [e71])) hn0 (show Hp S0 σ0 _ ([Ch.bx los_0 bs_0 os_0 [(Sl a56 r53.1 c57), (Sl a58 r53.2.1 c59), (I r53.2.2.1), (Sl a60 r53.2.2.2.1 c61), (I r53.2.2.2.2.1), (Sl a62 r53.2.2.2.2.2.1 c63), (I r53.2.2.2.2.2.2)] pres_0 sufs_0, Ch.ro 0 (Sl a56 r53.1 c57) r53.1, Ch.ro 0 (Sl a58 r53.2.1 c59) r53.2.1, Ch.ro 0 (Sl a60 r53.2.2.2.1 c61) r53.2.2.2.1, Ch.ro 0 (Sl a62 r53.2.2.2.2.2.1 c63) r53.2.2.2.2.2.1] ++ [Ch.ro 0 (Sl a56 r53.1 c57) r53.1, Ch.ro 0 (Sl a58 r53.2.1 c59) r53.2.1, Ch.ro 0 (Sl a60 r53.2.2.2.1 c61) r53.2.2.2.1, Ch.ro 0 (Sl a62 r53.2.2.2.2.2.1 c63) r53.2.2.2.2.2.1, Ch.bx n0 b10 0 [(I x3.1), (I x3.2.1), (I x3.2.2.1), (I x3.2.2.2)] [] []]) from (H.sel' [0, 1, 2, 3, 4, 1, 2, 3, 4, 5] rfl rfl))) ?_
          rintro _ σq ⟨_, ⟨rfl, rfl⟩, H2, m2⟩
          exact ⟨_, (), rfl, rfl, ⟨H2.sel' [0, 1, 2, 3, 4, 5] rfl rfl, m.comp m2⟩, stab [0, 1, 4, 5] (by kernel_rfl) ⟨rfl, rfl, rfl, rfl, trivial⟩⟩
         trivial) ?_
       refine ac rfl (by
         intro k _nm ρ σm hJ hoff hdep
         have e70 := hdep 0 rfl rfl 70 rfl
         have e72 := hdep 2 rfl rfl 72 rfl
         exact dp_v (v := (I (w64 (r32 + r65)))) wn (rv_add (a := r32) (b := r65) e70 e72) rfl hJ) ?_
       refine ac rfl (by
         intro k _nm ρ σm hJ hoff hdep
         have e4 := look_off (N := 96) (hoff 4 rfl) rfl
         exact dp_v (v := (pt b10 1)) wn (rv_fieldAddr (off := 1) (ft := 3) Try.underlying47 rfl ti3 rfl e4) rfl hJ) ?_
       refine all_cons (by
         refine ⟨?_, ?_⟩
         ·intro _nm ρ σm hJ hoff hdep
          have e74 := hdep 4 rfl rfl 74 rfl
          obtain ⟨H, m⟩ := id hJ
          have hc68 := H.cell (u := (I x3.2.1)) (o' := 1) 5 1 rfl rfl rfl
          exact dp_v (v := (I x3.2.1)) wn (rv_load1 Try.underlying3 rfl e74 hc68) rfl hJ
         refine ⟨?_, ?_⟩
         ·intro _nm ρ σm hJ hoff hdep
          have e74 := hdep 4 rfl rfl 74 rfl
          obtain ⟨H, m⟩ := id hJ
          have hc68 := H.cell (u := (I x3.2.1)) (o' := 1) 5 1 rfl rfl rfl
          exact dp_v (v := (I x3.2.1)) wn (rv_load1 Try.underlying3 rfl e74 hc68) rfl hJ
         trivial) ?_
       exact all_nil
      ·intro _nm ρ σ69 hJ hoff hrel
       have e0 := look_off (N := 96) (hoff 0 rfl) rfl
       have e4 := look_off (N := 96) (hoff 4 rfl) rfl
       have e73 := hrel 3 rfl 73 rfl
       have e75 := hrel 5 rfl 75 rfl
       obtain ⟨H, -⟩ := (show Hp S0 σ0 σ69 [Ch.bx los_0 bs_0 os_0 [(Sl a56 r53.1 c57), (Sl a58 r53.2.1 c59), (I r53.2.2.1), (Sl a60 r53.2.2.2.1 c61), (I r53.2.2.2.2.1), (Sl a62 r53.2.2.2.2.2.1 c63), (I r53.2.2.2.2.2.2)] pres_0 sufs_0, Ch.ro 0 (Sl a56 r53.1 c57) r53.1, Ch.ro 0 (Sl a58 r53.2.1 c59) r53.2.1, Ch.ro 0 (Sl a60 r53.2.2.2.1 c61) r53.2.2.2.1, Ch.ro 0 (Sl a62 r53.2.2.2.2.2.1 c63) r53.2.2.2.2.2.1, Ch.bx n0 b10 0 [(I x3.1), (I x3.2.1), (I x3.2.2.1), (I x3.2.2.2)] [] []] ∧ Md (fun i => (cov []) i ∨ (cov [Ch.bx los_0 bs_0 os_0 [(Sl a56 r53.1 c57), (Sl a58 r53.2.1 c59), (I r53.2.2.1), (Sl a60 r53.2.2.2.1 c61), (I r53.2.2.2.2.1), (Sl a62 r53.2.2.2.2.2.1 c63), (I r53.2.2.2.2.2.2)] pres_0 sufs_0, Ch.ro 0 (Sl a56 r53.1 c57) r53.1, Ch.ro 0 (Sl a58 r53.2.1 c59) r53.2.1, Ch.ro 0 (Sl a60 r53.2.2.2.1 c61) r53.2.2.2.1, Ch.ro 0 (Sl a62 r53.2.2.2.2.2.1 c63) r53.2.2.2.2.2.1]) i) σ64 σ69 from hJ)
       clear hJ Hs
       rw [fr_lookL (L := [(0, (pt bs_0 os_0)), (4, (pt b10 0)), (73, (I (w64 (r32 + r65)))), (75, (I x3.2.1))]) ⟨e0, e4, e73, e75, trivial⟩]
       clear hoff hrel e0 e4 e73 e75
       refine st (v := (B (decide (x3.2.1 ≤ (w64 (r32 + r65)))))) (rv_geq (a := (w64 (r32 + r65))) (b := x3.2.1) rfl rfl) ?_
       refine w_end ?_
       refine q_then ?_
       refine cd_cond (decide (x3.2.1 ≤ (w64 (r32 + r65)))) rfl (fun hb70 => ?_) (fun hb70 => ?_)
       ·replace h := bif_t hb70 h
        refine rg ?_
        refine st (v := (pt bs_0 os_0)) (rv_move rfl) ?_
        refine st (v := (pt b10 3)) (rv_fieldAddr (off := 3) (ft := 3) Try.underlying47 rfl ti3 rfl rfl) ?_
        have hc71 := H.cell (u := (I x3.2.2.2)) (o' := 3) 5 3 rfl rfl rfl
        refine st (v := (I x3.2.2.2)) (rv_load1 Try.underlying3 rfl rfl hc71) ?_
        obtain ⟨r72, hx73, h'⟩ := bind_some h
        clear h
        have h := h'; clear h'
        have hc74 := ih (los_0 := los_0) (bs_0 := bs_0) (os_0 := os_0) (pres_0 := pres_0) (sufs_0 := sufs_0) (as_0_0 := a56) (cs_0_0 := c57) (as_0_1 := a58) (cs_0_1 := c59) (as_0_3 := a60) (cs_0_3 := c61) (as_0_5 := a62) (cs_0_5 := c63) hx73
        refine st_call (cx_call hc74 (ent_f hc74.fn rfl) hn0 (show Hp S0 σ0 _ ([Ch.bx los_0 bs_0 os_0 [(Sl a56 r53.1 c57), (Sl a58 r53.2.1 c59), (I r53.2.2.1), (Sl a60 r53.2.2.2.1 c61), (I r53.2.2.2.2.1), (Sl a62 r53.2.2.2.2.2.1 c63), (I r53.2.2.2.2.2.2)] pres_0 sufs_0, Ch.ro 0 (Sl a56 r53.1 c57) r53.1, Ch.ro 0 (Sl a58 r53.2.1 c59) r53.2.1, Ch.ro 0 (Sl a60 r53.2.2.2.1 c61) r53.2.2.2.1, Ch.ro 0 (Sl a62 r53.2.2.2.2.2.1 c63) r53.2.2.2.2.2.1] ++ [Ch.ro 0 (Sl a56 r53.1 c57) r53.1, Ch.ro 0 (Sl a58 r53.2.1 c59) r53.2.1, Ch.ro 0 (Sl a60 r53.2.2.2.1 c61) r53.2.2.2.1, Ch.ro 0 (Sl a62 r53.2.2.2.2.2.1 c63) r53.2.2.2.2.2.1, Ch.bx n0 b10 0 [(I x3.1), (I x3.2.1), (I x3.2.2.1), (I x3.2.2.2)] [] []]) from (H.sel' [0, 1, 2, 3, 4, 1, 2, 3, 4, 5] rfl rfl))) wn ?_
        rintro _ σ83 ⟨_, ⟨a75, c76, a77, c78, a79, c80, a81, c82, rfl, rfl⟩, H, -⟩
        replace H : Hp S0 σ0 σ83 [Ch.bx los_0 bs_0 os_0 [(Sl a75 r72.1 c76), (Sl a77 r72.2.1 c78), (I r72.2.2.1), (Sl a79 r72.2.2.2.1 c80), (I r72.2.2.2.2.1), (Sl a81 r72.2.2.2.2.2.1 c82), (I r72.2.2.2.2.2.2)] pres_0 sufs_0, Ch.ro 0 (Sl a75 r72.1 c76) r72.1, Ch.ro 0 (Sl a77 r72.2.1 c78) r72.2.1, Ch.ro 0 (Sl a79 r72.2.2.2.1 c80) r72.2.2.2.1, Ch.ro 0 (Sl a81 r72.2.2.2.2.2.1 c82) r72.2.2.2.2.2.1, Ch.ro 0 (Sl a56 r53.1 c57) r53.1, Ch.ro 0 (Sl a58 r53.2.1 c59) r53.2.1, Ch.ro 0 (Sl a60 r53.2.2.2.1 c61) r53.2.2.2.1, Ch.ro 0 (Sl a62 r53.2.2.2.2.2.1 c63) r53.2.2.2.2.2.1, Ch.bx n0 b10 0 [(I x3.1), (I x3.2.1), (I x3.2.2.1), (I x3.2.2.2)] [] []] := H
        replace H : Hp S0 σ0 σ83 [Ch.bx los_0 bs_0 os_0 [(Sl a75 r72.1 c76), (Sl a77 r72.2.1 c78), (I r72.2.2.1), (Sl a79 r72.2.2.2.1 c80), (I r72.2.2.2.2.1), (Sl a81 r72.2.2.2.2.2.1 c82), (I r72.2.2.2.2.2.2)] pres_0 sufs_0, Ch.ro 0 (Sl a75 r72.1 c76) r72.1, Ch.ro 0 (Sl a77 r72.2.1 c78) r72.2.1, Ch.ro 0 (Sl a79 r72.2.2.2.1 c80) r72.2.2.2.1, Ch.ro 0 (Sl a81 r72.2.2.2.2.2.1 c82) r72.2.2.2.2.2.1] := H.sel' [0, 1, 2, 3, 4] rfl rfl
        refine w_end ?_
        refine q_then ?_
        refine c_ret ?_
        refine q_then_r ?_
        obtain rfl := Option.some.inj h
        exact fin_ret (v := (.tuple #[])) (results_ok Try.results138 res_nil rfl) ⟨a75, c76, a77, c78, a79, c80, a81, c82, rfl, rfl⟩ (H.sel' [0, 1, 2, 3, 4] rfl rfl)
       ·replace h := bif_f hb70 h
        refine c_skip ?_
        refine q_then ?_
        refine c_ret ?_
        refine q_then_r ?_
        obtain rfl := Option.some.inj h
        exact fin_ret (v := (.tuple #[])) (results_ok Try.results138 res_nil rfl) ⟨a56, c57, a58, c59, a60, c61, a62, c63, rfl, rfl⟩ (H.sel' [0, 1, 2, 3, 4] rfl rfl)
     ·replace h := bif_f hb49 h
      refine c_skip ?_
      refine q_then ?_
      refine c_seq ?_
      refine rg ?_
      refine st (v := (pt bs_0 os_0)) (rv_move rfl) ?_
      refine st (v := (pt b10 3)) (rv_fieldAddr (off := 3) (ft := 3) Try.underlying47 rfl ti3 rfl rfl) ?_
      have hc84 := H.cell (u := (I x3.2.2.2)) (o' := 3) 2 3 rfl rfl rfl
      refine st (v := (I x3.2.2.2)) (rv_load1 Try.underlying3 rfl rfl hc84) ?_
      obtain ⟨σ85, hw86, H, -⟩ := H.pub 1 rfl (Nat.le_refl _)
      rw [← hw86]; clear hw86
      replace H := H.roLow 0 0 rfl (Nat.zero_le _)
      obtain ⟨r87, hx88, h'⟩ := bind_some h
      clear h
      have h := h'; clear h'
      have hc89 := ih (los_0 := los_0) (bs_0 := bs_0) (os_0 := os_0) (pres_0 := pres_0) (sufs_0 := sufs_0) (as_0_0 := as_0_0) (cs_0_0 := cs_0_0) (as_0_1 := as_0_1) (cs_0_1 := cs_0_1) (as_0_3 := as_0_3) (cs_0_3 := cs_0_3) (as_0_5 := a44) (cs_0_5 := c45) hx88
      refine st_call (cx_call hc89 (ent_f hc89.fn rfl) hn0 (show Hp S0 σ0 _ ([Ch.bx los_0 bs_0 os_0 [(Sl as_0_0 s_0.1 cs_0_0), (Sl as_0_1 s_0.2.1 cs_0_1), (I s_0.2.2.1), (Sl as_0_3 s_0.2.2.2.1 cs_0_3), (I s_0.2.2.2.2.1), (Sl a44 r41 c45), (I (w64 (s_0.2.2.2.2.2.2 + 1)))] pres_0 sufs_0, Ch.ro 0 (Sl as_0_0 s_0.1 cs_0_0) s_0.1, Ch.ro 0 (Sl as_0_1 s_0.2.1 cs_0_1) s_0.2.1, Ch.ro 0 (Sl as_0_3 s_0.2.2.2.1 cs_0_3) s_0.2.2.2.1, Ch.ro 0 (Sl a44 r41 c45) r41] ++ [Ch.ro 0 (Sl a44 r41 c45) r41, Ch.ro n0 (Sl a44 r41 c45) r41, Ch.bx n0 b10 0 [(I x3.1), (I x3.2.1), (I x3.2.2.1), (I x3.2.2.2)] [] [], Ch.ro 0 (Sl as_0_0 s_0.1 cs_0_0) s_0.1, Ch.ro 0 (Sl as_0_1 s_0.2.1 cs_0_1) s_0.2.1, Ch.ro 0 (Sl as_0_3 s_0.2.2.2.1 cs_0_3) s_0.2.2.2.1]) from (H.sel' [2, 4, 5, 6, 0, 0, 1, 3, 4, 5, 6] rfl rfl))) wn ?_
      rintro _ σ98 ⟨_, ⟨a90, c91, a92, c93, a94, c95, a96, c97, rfl, rfl⟩, H, -⟩
      replace H : Hp S0 σ0 σ98 [Ch.bx los_0 bs_0 os_0 [(Sl a90 r87.1 c91), (Sl a92 r87.2.1 c93), (I r87.2.2.1), (Sl a94 r87.2.2.2.1 c95), (I r87.2.2.2.2.1), (Sl a96 r87.2.2.2.2.2.1 c97), (I r87.2.2.2.2.2.2)] pres_0 sufs_0, Ch.ro 0 (Sl a90 r87.1 c91) r87.1, Ch.ro 0 (Sl a92 r87.2.1 c93) r87.2.1, Ch.ro 0 (Sl a94 r87.2.2.2.1 c95) r87.2.2.2.1, Ch.ro 0 (Sl a96 r87.2.2.2.2.2.1 c97) r87.2.2.2.2.2.1, Ch.ro 0 (Sl a44 r41 c45) r41, Ch.ro n0 (Sl a44 r41 c45) r41, Ch.bx n0 b10 0 [(I x3.1), (I x3.2.1), (I x3.2.2.1), (I x3.2.2.2)] [] [], Ch.ro 0 (Sl as_0_0 s_0.1 cs_0_0) s_0.1, Ch.ro 0 (Sl as_0_1 s_0.2.1 cs_0_1) s_0.2.1, Ch.ro 0 (Sl as_0_3 s_0.2.2.2.1 cs_0_3) s_0.2.2.2.1] := H
      replace H : Hp S0 σ0 σ98 [Ch.bx los_0 bs_0 os_0 [(Sl a90 r87.1 c91), (Sl a92 r87.2.1 c93), (I r87.2.2.1), (Sl a94 r87.2.2.2.1 c95), (I r87.2.2.2.2.1), (Sl a96 r87.2.2.2.2.2.1 c97), (I r87.2.2.2.2.2.2)] pres_0 sufs_0, Ch.ro 0 (Sl a90 r87.1 c91) r87.1, Ch.ro 0 (Sl a92 r87.2.1 c93) r87.2.1, Ch.ro 0 (Sl a94 r87.2.2.2.1 c95) r87.2.2.2.1, Ch.ro 0 (Sl a96 r87.2.2.2.2.2.1 c97) r87.2.2.2.2.2.1, Ch.bx n0 b10 0 [(I x3.1), (I x3.2.1), (I x3.2.2.1), (I x3.2.2.2)] [] []] := H.sel' [0, 1, 2, 3, 4, 7] rfl rfl
      refine w_end ?_
      refine q_then ?_
      refine c_seq ?_
      obtain ⟨r99, hx100, h'⟩ := bind_some h
      clear h
      have h := h'; clear h'
      have hc101 := c_spec_seek_reach (los_0 := los_0) (bs_0 := bs_0) (os_0 := os_0) (pres_0 := pres_0) (sufs_0 := sufs_0) (as_0_0 := a90) (cs_0_0 := c91) (as_0_1 := a92) (cs_0_1 := c93) (as_0_3 := a94) (cs_0_3 := c95) (as_0_5 := a96) (cs_0_5 := c97) hx100
      have hc102 := H.cell (u := (I x3.2.1)) (o' := 1) 5 1 rfl rfl rfl
      have Hs := H
      refine rg2 (σ := σ98) (Nm := Unit) 6 [2] [[false], [true]] [[(0, 0), (1, 1)], [(0, 0)], [(0, 1)], [(1, 1)], [(0, 0), (1, 1)], [(0, 0), (1, 1)]] 1 [fun _ => fun σm => Hp S0 σ0 σm [Ch.bx los_0 bs_0 os_0 [(Sl a90 r87.1 c91), (Sl a92 r87.2.1 c93), (I r87.2.2.1), (Sl a94 r87.2.2.2.1 c95), (I r87.2.2.2.2.1), (Sl a96 r87.2.2.2.2.2.1 c97), (I r87.2.2.2.2.2.2)] pres_0 sufs_0, Ch.ro 0 (Sl a90 r87.1 c91) r87.1, Ch.ro 0 (Sl a92 r87.2.1 c93) r87.2.1, Ch.ro 0 (Sl a94 r87.2.2.2.1 c95) r87.2.2.2.1, Ch.ro 0 (Sl a96 r87.2.2.2.2.2.1 c97) r87.2.2.2.2.2.1, Ch.bx n0 b10 0 [(I x3.1), (I x3.2.1), (I x3.2.2.1), (I x3.2.2.2)] [] []] ∧ Md (cov []) σ98 σm, fun _ => fun σm => Hp S0 σ0 σm [Ch.bx los_0 bs_0 os_0 [(Sl a90 r87.1 c91), (Sl a92 r87.2.1 c93), (I r87.2.2.1), (Sl a94 r87.2.2.2.1 c95), (I r87.2.2.2.2.1), (Sl a96 r87.2.2.2.2.2.1 c97), (I r87.2.2.2.2.2.2)] pres_0 sufs_0, Ch.ro 0 (Sl a90 r87.1 c91) r87.1, Ch.ro 0 (Sl a92 r87.2.1 c93) r87.2.1, Ch.ro 0 (Sl a94 r87.2.2.2.1 c95) r87.2.2.2.1, Ch.ro 0 (Sl a96 r87.2.2.2.2.2.1 c97) r87.2.2.2.2.2.1, Ch.bx n0 b10 0 [(I x3.1), (I x3.2.1), (I x3.2.2.1), (I x3.2.2.2)] [] []] ∧ Md (fun i => (cov []) i ∨ (cov [Ch.bx los_0 bs_0 os_0 [(Sl a90 r87.1 c91), (Sl a92 r87.2.1 c93), (I r87.2.2.1), (Sl a94 r87.2.2.2.1 c95), (I r87.2.2.2.2.1), (Sl a96 r87.2.2.2.2.2.1 c97), (I r87.2.2.2.2.2.2)] pres_0 sufs_0, Ch.ro 0 (Sl a90 r87.1 c91) r87.1, Ch.ro 0 (Sl a92 r87.2.1 c93) r87.2.1, Ch.ro 0 (Sl a94 r87.2.2.2.1 c95) r87.2.2.2.1, Ch.ro 0 (Sl a96 r87.2.2.2.2.2.1 c97) r87.2.2.2.2.2.1]) i) σ98 σm] [fun _ => (I r32), fun _ => (pt bs_0 os_0), fun _ => (I r99), fun _ => (I (w64 (r32 - r99))), fun _ => (pt b10 1), fun _ => (I x3.2.1)] () (by kernel_rfl) (by kernel_rfl) ?_ ?_ ?_
      ·intro σm m0
       exact ⟨H.grow (m0.mono fun _ h => h.elim), m0⟩
      ·refine ac rfl (by
         intro k _nm ρ σm hJ hoff hdep
         have e5 := look_off (N := 96) (hoff 5 rfl) rfl
         exact dp_v (v := (I r32)) wn (rv_move e5) rfl hJ) ?_
       refine ac rfl (by
         intro k _nm ρ σm hJ hoff hdep
         have e0 := look_off (N := 96) (hoff 0 rfl) rfl
         exact dp_v (v := (pt bs_0 os_0)) wn (rv_move e0) rfl hJ) ?_
       refine all_cons (by
         refine ⟨?_, ?_⟩
         ·intro _nm ρ σm hJ hoff hdep
          have e86 : look 96 ρ 86 = (pt bs_0 os_0) := hdep 1 rfl rfl 86 rfl
          obtain ⟨H, m⟩ := id hJ
          refine dp_cx wn (cx_call hc101 (ent_f hc101.fn (by show [look 96 ρ 86] = _; rw [e86])) hn0 (show Hp S0 σ0 _ ([Ch.bx los_0 bs_0 os_0 [(Sl a90 r87.1 c91), (Sl a92 r87.2.1 c93), (I r87.2.2.1), (Sl a94 r87.2.2.2.1 c95), (I r87.2.2.2.2.1), (Sl a96 r87.2.2.2.2.2.1 c97), (I r87.2.2.2.2.2.2)] pres_0 sufs_0, Ch.ro 0 (Sl a90 r87.1 c91) r87.1, Ch.ro 0 (Sl a92 r87.2.1 c93) r87.2.1, Ch.ro 0 (Sl a94 r87.2.2.2.1 c95) r87.2.2.2.1, Ch.ro 0 (Sl a96 r87.2.2.2.2.2.1 c97) r87.2.2.2.2.2.1] ++ [Ch.ro 0 (Sl a90 r87.1 c91) r87.1, Ch.ro 0 (Sl a92 r87.2.1 c93) r87.2.1, Ch.ro 0 (Sl a94 r87.2.2.2.1 c95) r87.2.2.2.1, Ch.ro 0 (Sl a96 r87.2.2.2.2.2.1 c97) r87.2.2.2.2.2.1, Ch.bx n0 b10 0 [(I x3.1), (I x3.2.1), (I x3.2.2.1), (I x3.2.2.2)] [] []]) from (H.sel' [0, 1, 2, 3, 4, 1, 2, 3, 4, 5] rfl rfl))) ?_
          rintro _ σq ⟨_, ⟨rfl, rfl⟩, H2, m2⟩
          exact ⟨_, (), rfl, rfl, ⟨H2.sel' [0, 1, 2, 3, 4, 5] rfl rfl, m.comp m2⟩, stab [0, 1, 4, 5] (by kernel_rfl) ⟨rfl, rfl, rfl, rfl, trivial⟩⟩
         trivial) ?_
       refine ac rfl (by
         intro k _nm ρ σm hJ hoff hdep
         have e85 := hdep 0 rfl rfl 85 rfl
         have e87 := hdep 2 rfl rfl 87 rfl
         exact dp_v (v := (I (w64 (r32 - r99)))) wn (rv_sub (a := r32) (b := r99) e85 e87) rfl hJ) ?_
       refine ac rfl (by
         intro k _nm ρ σm hJ hoff hdep
         have e4 := look_off (N := 96) (hoff 4 rfl) rfl
         exact dp_v (v := (pt b10 1)) wn (rv_fieldAddr (off := 1) (ft := 3) Try.underlying47 rfl ti3 rfl e4) rfl hJ) ?_
       refine all_cons (by
         refine ⟨?_, ?_⟩
         ·intro _nm ρ σm hJ hoff hdep
          have e89 := hdep 4 rfl rfl 89 rfl
          obtain ⟨H, m⟩ := id hJ
          have hc102 := H.cell (u := (I x3.2.1)) (o' := 1) 5 1 rfl rfl rfl
          exact dp_v (v := (I x3.2.1)) wn (rv_load1 Try.underlying3 rfl e89 hc102) rfl hJ
         refine ⟨?_, ?_⟩
         ·intro _nm ρ σm hJ hoff hdep
          have e89 := hdep 4 rfl rfl 89 rfl
          obtain ⟨H, m⟩ := id hJ
          have hc102 := H.cell (u := (I x3.2.1)) (o' := 1) 5 1 rfl rfl rfl
          exact dp_v (v := (I x3.2.1)) wn (rv_load1 Try.underlying3 rfl e89 hc102) rfl hJ
         trivial) ?_
       exact all_nil
      ·intro _nm ρ σ103 hJ hoff hrel
       have e0 := look_off (N := 96) (hoff 0 rfl) rfl
       have e4 := look_off (N := 96) (hoff 4 rfl) rfl
       have e88 := hrel 3 rfl 88 rfl
       have e90 := hrel 5 rfl 90 rfl
       obtain ⟨H, -⟩ := (show Hp S0 σ0 σ103 [Ch.bx los_0 bs_0 os_0 [(Sl a90 r87.1 c91), (Sl a92 r87.2.1 c93), (I r87.2.2.1), (Sl a94 r87.2.2.2.1 c95), (I r87.2.2.2.2.1), (Sl a96 r87.2.2.2.2.2.1 c97), (I r87.2.2.2.2.2.2)] pres_0 sufs_0, Ch.ro 0 (Sl a90 r87.1 c91) r87.1, Ch.ro 0 (Sl a92 r87.2.1 c93) r87.2.1, Ch.ro 0 (Sl a94 r87.2.2.2.1 c95) r87.2.2.2.1, Ch.ro 0 (Sl a96 r87.2.2.2.2.2.1 c97) r87.2.2.2.2.2.1, Ch.bx n0 b10 0 [(I x3.1), (I x3.2.1), (I x3.2.2.1), (I x3.2.2.2)] [] []] ∧ Md (fun i => (cov []) i ∨ (cov [Ch.bx los_0 bs_0 os_0 [(Sl a90 r87.1 c91), (Sl a92 r87.2.1 c93), (I r87.2.2.1), (Sl a94 r87.2.2.2.1 c95), (I r87.2.2.2.2.1), (Sl a96 r87.2.2.2.2.2.1 c97), (I r87.2.2.2.2.2.2)] pres_0 sufs_0, Ch.ro 0 (Sl a90 r87.1 c91) r87.1, Ch.ro 0 (Sl a92 r87.2.1 c93) r87.2.1, Ch.ro 0 (Sl a94 r87.2.2.2.1 c95) r87.2.2.2.1, Ch.ro 0 (Sl a96 r87.2.2.2.2.2.1 c97) r87.2.2.2.2.2.1]) i) σ98 σ103 from hJ)
       clear hJ Hs
       rw [fr_lookL (L := [(0, (pt bs_0 os_0)), (4, (pt b10 0)), (88, (I (w64 (r32 - r99)))), (90, (I x3.2.1))]) ⟨e0, e4, e88, e90, trivial⟩]
       clear hoff hrel e0 e4 e88 e90
       refine st (v := (B (decide ((w64 (r32 - r99)) ≤ x3.2.1)))) (rv_leq (a := (w64 (r32 - r99))) (b := x3.2.1) rfl rfl) ?_
       refine w_end ?_
       refine q_then ?_
       refine cd_cond (decide ((w64 (r32 - r99)) ≤ x3.2.1)) rfl (fun hb104 => ?_) (fun hb104 => ?_)
       ·replace h := bif_t hb104 h
        refine rg ?_
        refine st (v := (pt bs_0 os_0)) (rv_move rfl) ?_
        refine st (v := (pt b10 2)) (rv_fieldAddr (off := 2) (ft := 3) Try.underlying47 rfl ti3 rfl rfl) ?_
        have hc105 := H.cell (u := (I x3.2.2.1)) (o' := 2) 5 2 rfl rfl rfl
        refine st (v := (I x3.2.2.1)) (rv_load1 Try.underlying3 rfl rfl hc105) ?_
        obtain ⟨r106, hx107, h'⟩ := bind_some h
        clear h
        have h := h'; clear h'
        have hc108 := ih (los_0 := los_0) (bs_0 := bs_0) (os_0 := os_0) (pres_0 := pres_0) (sufs_0 := sufs_0) (as_0_0 := a90) (cs_0_0 := c91) (as_0_1 := a92) (cs_0_1 := c93) (as_0_3 := a94) (cs_0_3 := c95) (as_0_5 := a96) (cs_0_5 := c97) hx107
        refine st_call (cx_call hc108 (ent_f hc108.fn rfl) hn0 (show Hp S0 σ0 _ ([Ch.bx los_0 bs_0 os_0 [(Sl a90 r87.1 c91), (Sl a92 r87.2.1 c93), (I r87.2.2.1), (Sl a94 r87.2.2.2.1 c95), (I r87.2.2.2.2.1), (Sl a96 r87.2.2.2.2.2.1 c97), (I r87.2.2.2.2.2.2)] pres_0 sufs_0, Ch.ro 0 (Sl a90 r87.1 c91) r87.1, Ch.ro 0 (Sl a92 r87.2.1 c93) r87.2.1, Ch.ro 0 (Sl a94 r87.2.2.2.1 c95) r87.2.2.2.1, Ch.ro 0 (Sl a96 r87.2.2.2.2.2.1 c97) r87.2.2.2.2.2.1] ++ [Ch.ro 0 (Sl a90 r87.1 c91) r87.1, Ch.ro 0 (Sl a92 r87.2.1 c93) r87.2.1, Ch.ro 0 (Sl a94 r87.2.2.2.1 c95) r87.2.2.2.1, Ch.ro 0 (Sl a96 r87.2.2.2.2.2.1 c97) r87.2.2.2.2.2.1, Ch.bx n0 b10 0 [(I x3.1), (I x3.2.1), (I x3.2.2.1), (I x3.2.2.2)] [] []]) from (H.sel' [0, 1, 2, 3, 4, 1, 2, 3, 4, 5] rfl rfl))) wn ?_
        rintro _ σ117 ⟨_, ⟨a109, c110, a111, c112, a113, c114, a115, c116, rfl, rfl⟩, H, -⟩
        replace H : Hp S0 σ0 σ117 [Ch.bx los_0 bs_0 os_0 [(Sl a109 r106.1 c110), (Sl a111 r106.2.1 c112), (I r106.2.2.1), (Sl a113 r106.2.2.2.1 c114), (I r106.2.2.2.2.1), (Sl a115 r106.2.2.2.2.2.1 c116), (I r106.2.2.2.2.2.2)] pres_0 sufs_0, Ch.ro 0 (Sl a109 r106.1 c110) r106.1, Ch.ro 0 (Sl a111 r106.2.1 c112) r106.2.1, Ch.ro 0 (Sl a113 r106.2.2.2.1 c114) r106.2.2.2.1, Ch.ro 0 (Sl a115 r106.2.2.2.2.2.1 c116) r106.2.2.2.2.2.1, Ch.ro 0 (Sl a90 r87.1 c91) r87.1, Ch.ro 0 (Sl a92 r87.2.1 c93) r87.2.1, Ch.ro 0 (Sl a94 r87.2.2.2.1 c95) r87.2.2.2.1, Ch.ro 0 (Sl a96 r87.2.2.2.2.2.1 c97) r87.2.2.2.2.2.1, Ch.bx n0 b10 0 [(I x3.1), (I x3.2.1), (I x3.2.2.1), (I x3.2.2.2)] [] []] := H
        replace H : Hp S0 σ0 σ117 [Ch.bx los_0 bs_0 os_0 [(Sl a109 r106.1 c110), (Sl a111 r106.2.1 c112), (I r106.2.2.1), (Sl a113 r106.2.2.2.1 c114), (I r106.2.2.2.2.1), (Sl a115 r106.2.2.2.2.2.1 c116), (I r106.2.2.2.2.2.2)] pres_0 sufs_0, Ch.ro 0 (Sl a109 r106.1 c110) r106.1, Ch.ro 0 (Sl a111 r106.2.1 c112) r106.2.1, Ch.ro 0 (Sl a113 r106.2.2.2.1 c114) r106.2.2.2.1, Ch.ro 0 (Sl a115 r106.2.2.2.2.2.1 c116) r106.2.2.2.2.2.1] := H.sel' [0, 1, 2, 3, 4] rfl rfl
        refine w_end ?_
        obtain rfl := Option.some.inj h
        exact fin_end (v := (.tuple #[])) (results_ok Try.results138 res_nil rfl) ⟨a109, c110, a111, c112, a113, c114, a115, c116, rfl, rfl⟩ (H.sel' [0, 1, 2, 3, 4] rfl rfl)
       ·replace h := bif_f hb104 h
        refine c_skip ?_
        obtain rfl := Option.some.inj h
        exact fin_end (v := (.tuple #[])) (results_ok Try.results138 res_nil rfl) ⟨a90, c91, a92, c93, a94, c95, a96, c97, rfl, rfl⟩ (H.sel' [0, 1, 2, 3, 4] rfl rfl)

theorem c_spec_search {list_0 : List (Int × (List Int) × Int)} {kind_1 : Int} {at_2 : List Int} {k_3 : Int} {alist_0 : Option Addr} {clist_0 : Nat} {aat_2 : Option Addr} {cat_2 : Nat} {r : ((List (Int × Int × Int × Int)) × (List (Int × (List Int) × Int)) × Int × (List Int) × Int × (List (Int × Int)) × Int)} (h : M.spec_search list_0 kind_1 at_2 k_3 = some r) :
    Cal2 Try.prog 93 [(Sl alist_0 list_0 clist_0), (I kind_1), (Sl aat_2 at_2 cat_2), (I k_3)] [Ch.ro 0 (Sl alist_0 list_0 clist_0) list_0, Ch.ro 0 (Sl aat_2 at_2 cat_2) at_2] (fun n0 v L => ∃ (bz1 : Nat), ∃ (az2 : Option Addr), ∃ (cz3 : Nat), ∃ (az4 : Option Addr), ∃ (cz5 : Nat), ∃ (az6 : Option Addr), ∃ (cz7 : Nat), ∃ (az8 : Option Addr), ∃ (cz9 : Nat), v = (pt bz1 0) ∧ L = [Ch.bx n0 bz1 0 [(Sl az2 r.1 cz3), (Sl az4 r.2.1 cz5), (I r.2.2.1), (Sl az6 r.2.2.2.1 cz7), (I r.2.2.2.2.1), (Sl az8 r.2.2.2.2.2.1 cz9), (I r.2.2.2.2.2.2)] [] [], Ch.ro 0 (Sl az2 r.1 cz3) r.1, Ch.ro 0 (Sl az4 r.2.1 cz5) r.2.1, Ch.ro 0 (Sl az6 r.2.2.2.1 cz7) r.2.2.2.1, Ch.ro 0 (Sl az8 r.2.2.2.2.2.1 cz9) r.2.2.2.2.2.1]) := by
 refine cal2 (n := 26) Try.func93 rfl rfl rfl rfl ?_
 intro S0 σ0 n0 hn0 H
 unfold M.spec_search at h
 refine c_seq ?_
 refine rg ?_
 refine st (v := (.pointer none)) (rv_assign rfl) ?_
 refine w_end ?_
 refine q_then ?_
 refine c_seq ?_
 refine rg ?_
 refine st_ex (ex_buildSlice (el := n0) (xs := ([] : List (Int × Int × Int × Int))) (ps := []) (cs := []) H hn0 Try.underlying43 ti47 rfl rfl (by kernel_rfl) (.nil) rfl) wn ?_
 rintro _ σ2 ⟨b1, rfl, H, -⟩
 refine st (v := (Sl alist_0 list_0 clist_0)) (rv_move rfl) ?_
 refine st (v := (I kind_1)) (rv_move rfl) ?_
 replace H := H.ownLow 0 0 0 rfl (Nat.zero_le _) (Nat.zero_le _)
 obtain ⟨r3, hx4, h'⟩ := bind_some h
 clear h
 have h := h'; clear h'
 have hc5 := c_spec_grow 100 (anodes_0 := (some ⟨b1, 0, none⟩)) (cnodes_0 := 0) (alist_1 := alist_0) (clist_1 := clist_0) hx4
 refine st_call (cx_call hc5 (ent_f hc5.fn rfl) hn0 (show Hp S0 σ0 _ ([Ch.own 0 0 (Sl (some ⟨b1, 0, none⟩) ([] : List (Int × Int × Int × Int)) 0) ([] : List (Int × Int × Int × Int)), Ch.ro 0 (Sl alist_0 list_0 clist_0) list_0] ++ [Ch.ro 0 (Sl alist_0 list_0 clist_0) list_0, Ch.ro 0 (Sl aat_2 at_2 cat_2) at_2]) from (H.sel' [0, 1, 1, 2] rfl rfl))) wn ?_
 rintro _ σ8 ⟨_, ⟨a6, c7, rfl, rfl⟩, H, -⟩
 replace H : Hp S0 σ0 σ8 [Ch.own 0 n0 (Sl a6 r3 c7) r3, Ch.ro 0 (Sl alist_0 list_0 clist_0) list_0, Ch.ro 0 (Sl aat_2 at_2 cat_2) at_2] := H
 refine st (v := (Sl alist_0 list_0 clist_0)) (rv_move rfl) ?_
 refine st (v := (I kind_1)) (rv_move rfl) ?_
 refine st (v := (Sl aat_2 at_2 cat_2)) (rv_move rfl) ?_
 refine st (v := (I k_3)) (rv_move rfl) ?_
 refine st (v := (.agg #[(Sl a6 r3 c7), (Sl alist_0 list_0 clist_0), (I kind_1), (Sl aat_2 at_2 cat_2), (I k_3), (.slice none 0 0), (I 0)])) (rv_build (ps := [(0, (Sl a6 r3 c7)), (1, (Sl alist_0 list_0 clist_0)), (2, (I kind_1)), (3, (Sl aat_2 at_2 cat_2)), (4, (I k_3))]) Try.underlying111 ti111 (bp111 Try.underlying111) rfl (by kernel_rfl)) ?_
 refine st_ex (ex_box (cs := [(Sl a6 r3 c7), (Sl alist_0 list_0 clist_0), (I kind_1), (Sl aat_2 at_2 cat_2), (I k_3), (.slice none 0 0), (I 0)]) H hn0 rfl rfl) wn ?_
 rintro _ σ10 ⟨b9, rfl, H, -⟩
 refine st (v := (pt b9 0)) (rv_assign rfl) ?_
 refine w_end ?_
 refine q_then ?_
 refine c_seq ?_
 refine c_seq ?_
 refine rg ?_
 refine st (v := (Sl alist_0 list_0 clist_0)) (rv_move rfl) ?_
 refine st (v := (I (list_0.length : Int))) (rv_len Try.underlying23 rfl) ?_
 refine st (v := (B (decide (0 < (list_0.length : Int))))) (rv_gtr (a := (list_0.length : Int)) (b := 0) rfl rfl) ?_
 refine w_end ?_
 refine q_then ?_
 obtain ⟨o11, hj, h'⟩ := bind_some h
 clear h
 refine c_cut (fun e a w => e = .normal ∧ ∃ (ρ : Nat → Value) (σ : St) (aj1 : Option Addr) (cj2 : Nat) (aj3 : Option Addr) (cj4 : Nat) (aj5 : Option Addr) (cj6 : Nat) (aj7 : Option Addr) (cj8 : Nat), a = fr 26 (updL ρ [(9, (pt b9 0))]) ∧ w = σ.w ∧ Hp S0 σ0 σ [Ch.bx n0 b9 0 [(Sl aj1 o11.1 cj2), (Sl aj3 o11.2.1 cj4), (I o11.2.2.1), (Sl aj5 o11.2.2.2.1 cj6), (I o11.2.2.2.2.1), (Sl aj7 o11.2.2.2.2.2.1 cj8), (I o11.2.2.2.2.2.2)] [] [], Ch.ro 0 (Sl aj1 o11.1 cj2) o11.1, Ch.ro 0 (Sl aj3 o11.2.1 cj4) o11.2.1, Ch.ro 0 (Sl aj5 o11.2.2.2.1 cj6) o11.2.2.2.1, Ch.ro 0 (Sl aj7 o11.2.2.2.2.2.1 cj8) o11.2.2.2.2.2.1]) ?_ ?_
 ·clear h'
  rename _ = some o11 => h
  refine cd_cond (decide (0 < (list_0.length : Int))) rfl (fun hb12 => ?_) (fun hb12 => ?_)
  ·replace h := bif_t hb12 h
   refine rg ?_
   refine st (v := (pt b9 0)) (rv_move rfl) ?_
   replace H := H.ownLow 1 0 0 rfl (Nat.le_refl _) (Nat.zero_le _)
   obtain ⟨σ13, hw14, H, -⟩ := H.pub 0 rfl (Nat.le_refl _)
   rw [← hw14]; clear hw14
   replace H := H.nilRo (Int × Int) 0
   obtain ⟨r15, hx16, h'⟩ := bind_some h
   clear h
   have h := h'; clear h'
   have hc17 := c_spec_seek_visit 100 (los_0 := n0) (bs_0 := b9) (os_0 := 0) (pres_0 := []) (sufs_0 := []) (as_0_0 := a6) (cs_0_0 := c7) (as_0_1 := alist_0) (cs_0_1 := clist_0) (as_0_3 := aat_2) (cs_0_3 := cat_2) (as_0_5 := none) (cs_0_5 := 0) hx16
   refine st_call (cx_call hc17 (ent_f hc17.fn rfl) hn0 (show Hp S0 σ0 _ ([Ch.bx n0 b9 0 [(Sl a6 r3 c7), (Sl alist_0 list_0 clist_0), (I kind_1), (Sl aat_2 at_2 cat_2), (I k_3), (.slice none 0 0), (I 0)] [] [], Ch.ro 0 (Sl a6 r3 c7) r3, Ch.ro 0 (Sl alist_0 list_0 clist_0) list_0, Ch.ro 0 (Sl aat_2 at_2 cat_2) at_2, Ch.ro 0 (Sl none ([] : List (Int × Int)) 0) ([] : List (Int × Int))] ++ [Ch.ro 0 (Sl none ([] : List (Int × Int)) 0) ([] : List (Int × Int)), Ch.ro 0 (Sl a6 r3 c7) r3, Ch.ro 0 (Sl alist_0 list_0 clist_0) list_0, Ch.ro 0 (Sl aat_2 at_2 cat_2) at_2]) from (H.sel' [2, 1, 3, 4, 0, 0, 1, 3, 4] rfl rfl))) wn ?_
   rintro _ σ26 ⟨_, ⟨a18, c19, a20, c21, a22, c23, a24, c25, rfl, rfl⟩, H, -⟩
   replace H : Hp S0 σ0 σ26 [Ch.bx n0 b9 0 [(Sl a18 r15.1 c19), (Sl a20 r15.2.1 c21), (I r15.2.2.1), (Sl a22 r15.2.2.2.1 c23), (I r15.2.2.2.2.1), (Sl a24 r15.2.2.2.2.2.1 c25), (I r15.2.2.2.2.2.2)] [] [], Ch.ro 0 (Sl a18 r15.1 c19) r15.1, Ch.ro 0 (Sl a20 r15.2.1 c21) r15.2.1, Ch.ro 0 (Sl a22 r15.2.2.2.1 c23) r15.2.2.2.1, Ch.ro 0 (Sl a24 r15.2.2.2.2.2.1 c25) r15.2.2.2.2.2.1, Ch.ro 0 (Sl none ([] : List (Int × Int)) 0) ([] : List (Int × Int)), Ch.ro 0 (Sl a6 r3 c7) r3, Ch.ro 0 (Sl alist_0 list_0 clist_0) list_0, Ch.ro 0 (Sl aat_2 at_2 cat_2) at_2] := H
   replace H : Hp S0 σ0 σ26 [Ch.bx n0 b9 0 [(Sl a18 r15.1 c19), (Sl a20 r15.2.1 c21), (I r15.2.2.1), (Sl a22 r15.2.2.2.1 c23), (I r15.2.2.2.2.1), (Sl a24 r15.2.2.2.2.2.1 c25), (I r15.2.2.2.2.2.2)] [] [], Ch.ro 0 (Sl a18 r15.1 c19) r15.1, Ch.ro 0 (Sl a20 r15.2.1 c21) r15.2.1, Ch.ro 0 (Sl a22 r15.2.2.2.1 c23) r15.2.2.2.1, Ch.ro 0 (Sl a24 r15.2.2.2.2.2.1 c25) r15.2.2.2.2.2.1] := H.sel' [0, 1, 2, 3, 4] rfl rfl
   refine w_end ?_
   obtain rfl := Option.some.inj h
   exact ⟨rfl, _, σ26, a18, c19, a20, c21, a22, c23, a24, c25, fr_join ⟨rfl, trivial⟩, rfl, H.sel' [0, 1, 2, 3, 4] rfl rfl⟩
  ·replace h := bif_f hb12 h
   refine c_skip ?_
   replace H := H.ownLow 1 0 0 rfl (Nat.le_refl _) (Nat.zero_le _)
   obtain ⟨σ27, hw28, H, -⟩ := H.pub 0 rfl (Nat.le_refl _)
   rw [← hw28]; clear hw28
   replace H := H.nilRo (Int × Int) 0
   obtain rfl := Option.some.inj h
   exact ⟨rfl, _, σ27, a6, c7, alist_0, clist_0, aat_2, cat_2, none, 0, fr_join ⟨rfl, trivial⟩, rfl, H.sel' [2, 1, 3, 4, 0] rfl rfl⟩
 ·clear hj
  have h := h'
  clear h' H
  rintro e a w ⟨rfl, ρ, σ29, a30, c31, a32, c33, a34, c35, a36, c37, rfl, rfl, H⟩
  refine q_then ?_
  refine c_seq ?_
  refine rg ?_
  refine st (v := (pt b9 0)) (rv_move rfl) ?_
  refine st (v := (pt b9 0)) (rv_assign rfl) ?_
  refine w_end ?_
  refine q_then ?_
  refine c_ret ?_
  obtain rfl := Option.some.inj h
  exact fin_ret (v := (pt b9 0)) (results_ok Try.results93 (res_tmp (v := (pt b9 0)) rfl res_nil) rfl) ⟨b9, a30, c31, a32, c33, a34, c35, a36, c37, rfl, rfl⟩ (H.sel' [0, 1, 2, 3, 4] rfl rfl)

theorem c_spec_TreeVisits {list_0 : List (Int × (List Int) × Int)} {kind_1 : Int} {at_2 : List Int} {k_3 : Int} {alist_0 : Option Addr} {clist_0 : Nat} {aat_2 : Option Addr} {cat_2 : Nat} {r : Int} (h : M.spec_TreeVisits list_0 kind_1 at_2 k_3 = some r) :
    Cal2 Try.prog 33 [(Sl alist_0 list_0 clist_0), (I kind_1), (Sl aat_2 at_2 cat_2), (I k_3)] [Ch.ro 0 (Sl alist_0 list_0 clist_0) list_0, Ch.ro 0 (Sl aat_2 at_2 cat_2) at_2] (fun n0 v L => v = (I r) ∧ L = []) := by
 refine cal2 (n := 32) Try.func33 rfl rfl rfl rfl ?_
 intro S0 σ0 n0 hn0 H
 unfold M.spec_TreeVisits at h
 refine c_seq ?_
 refine rg ?_
 refine st (v := (I 0)) (rv_assign rfl) ?_
 refine w_end ?_
 refine q_then ?_
 refine c_seq ?_
 refine c_seq ?_
 obtain ⟨o1, hj, h'⟩ := bind_some h
 clear h
 refine c_cut (fun e a w => e = .normal ∧ ∃ (ρ : Nat → Value) (σ : St), a = fr 32 (updL ρ [(0, (Sl alist_0 list_0 clist_0)), (1, (I kind_1)), (2, (Sl aat_2 at_2 cat_2)), (3, (I k_3)), (23, (B o1))]) ∧ w = σ.w ∧ Hp S0 σ0 σ [Ch.ro 0 (Sl alist_0 list_0 clist_0) list_0, Ch.ro 0 (Sl aat_2 at_2 cat_2) at_2]) ?_ ?_
 ·clear h'
  rename _ = some o1 => h
  refine rg ?_
  refine st (v := (Sl alist_0 list_0 clist_0)) (rv_move rfl) ?_
  refine st (v := (I kind_1)) (rv_move rfl) ?_
  refine st (v := (Sl aat_2 at_2 cat_2)) (rv_move rfl) ?_
  obtain ⟨r2, hx3, h'⟩ := bind_some h
  clear h
  have h := h'; clear h'
  have hc4 := c_spec_validQuery (alist_0 := alist_0) (clist_0 := clist_0) (aat_2 := aat_2) (cat_2 := cat_2) hx3
  refine st_call (cx_call hc4 (ent_f hc4.fn rfl) hn0 (show Hp S0 σ0 _ ([Ch.ro 0 (Sl alist_0 list_0 clist_0) list_0, Ch.ro 0 (Sl aat_2 at_2 cat_2) at_2] ++ [Ch.ro 0 (Sl alist_0 list_0 clist_0) list_0, Ch.ro 0 (Sl aat_2 at_2 cat_2) at_2]) from (H.sel' [0, 1, 0, 1] rfl rfl))) wn ?_
  rintro _ σ5 ⟨_, ⟨rfl, rfl⟩, H, -⟩
  replace H : Hp S0 σ0 σ5 [Ch.ro 0 (Sl alist_0 list_0 clist_0) list_0, Ch.ro 0 (Sl aat_2 at_2 cat_2) at_2] := H
  refine st (v := (B (!r2))) (rv_not rfl) ?_
  refine st (v := (B (!r2))) (rv_move rfl) ?_
  rcases Bool.eq_false_or_eq_true (!r2) with hb6 | hb6
  ·replace h := bif_t hb6 h
   refine st_skip (congrArg some hb6) ?_
   refine st_skip (congrArg some hb6) ?_
   refine st_skip (congrArg some hb6) ?_
   refine st (v := (B true)) (rv_pick_t (congrArg B hb6) rfl) ?_
   refine st (v := (B true)) (rv_move rfl) ?_
   refine st_skip rfl ?_
   refine st_skip rfl ?_
   refine st_skip rfl ?_
   refine st (v := (B true)) (rv_pick_t rfl rfl) ?_
   refine w_end ?_
   obtain rfl := Option.some.inj h
   exact ⟨rfl, _, σ5, fr_join ⟨rfl, rfl, rfl, rfl, rfl, trivial⟩, rfl, H.sel' [0, 1] rfl rfl⟩
  ·replace h := bif_f hb6 h
   refine st_g (v := (I kind_1)) (congrArg some hb6) (rv_move rfl) ?_
   obtain ⟨r7, hx8, h'⟩ := bind_some h
   clear h
   have h := h'; clear h'
   have hc9 := c_spec_isMetric hx8
   refine st_call (cx_call hc9 (ent_f hc9.fn rfl) hn0 (show Hp S0 σ0 _ ([] ++ [Ch.ro 0 (Sl alist_0 list_0 clist_0) list_0, Ch.ro 0 (Sl aat_2 at_2 cat_2) at_2]) from (H.sel' [0, 1] rfl rfl))) (wanted_yes rfl (by exact (congrArg some hb6))) ?_
   rintro _ σ10 ⟨_, ⟨rfl, rfl⟩, H, -⟩
   replace H : Hp S0 σ0 σ10 [Ch.ro 0 (Sl alist_0 list_0 clist_0) list_0, Ch.ro 0 (Sl aat_2 at_2 cat_2) at_2] := H
   refine st_g (v := (B (!r7))) (congrArg some hb6) (rv_not rfl) ?_
   refine st (v := (B (!r7))) (rv_pick_f (congrArg B hb6) rfl) ?_
   refine st (v := (B (!r7))) (rv_move rfl) ?_
   rcases Bool.eq_false_or_eq_true (!r7) with hb11 | hb11
   ·replace h := bif_t hb11 h
    refine st_skip (congrArg some hb11) ?_
    refine st_skip (congrArg some hb11) ?_
    refine st_skip (congrArg some hb11) ?_
    refine st (v := (B true)) (rv_pick_t (congrArg B hb11) rfl) ?_
    refine w_end ?_
    obtain rfl := Option.some.inj h
    exact ⟨rfl, _, σ10, fr_join ⟨rfl, rfl, rfl, rfl, rfl, trivial⟩, rfl, H.sel' [0, 1] rfl rfl⟩
   ·replace h := bif_f hb11 h
    refine st_g (v := (I k_3)) (congrArg some hb11) (rv_move rfl) ?_
    obtain ⟨r12, hx13, h'⟩ := bind_some h
    clear h
    have h := h'; clear h'
    have hc14 := c_spec_inRange hx13
    refine st_call (cx_call hc14 (ent_f hc14.fn rfl) hn0 (show Hp S0 σ0 _ ([] ++ [Ch.ro 0 (Sl alist_0 list_0 clist_0) list_0, Ch.ro 0 (Sl aat_2 at_2 cat_2) at_2]) from (H.sel' [0, 1] rfl rfl))) (wanted_yes rfl (by exact (congrArg some hb11))) ?_
    rintro _ σ15 ⟨_, ⟨rfl, rfl⟩, H, -⟩
    replace H : Hp S0 σ0 σ15 [Ch.ro 0 (Sl alist_0 list_0 clist_0) list_0, Ch.ro 0 (Sl aat_2 at_2 cat_2) at_2] := H
    refine st_g (v := (B (!r12))) (congrArg some hb11) (rv_not rfl) ?_
    refine st (v := (B (!r12))) (rv_pick_f (congrArg B hb11) rfl) ?_
    refine w_end ?_
    obtain rfl := Option.some.inj h
    exact ⟨rfl, _, σ15, fr_join ⟨rfl, rfl, rfl, rfl, rfl, trivial⟩, rfl, H.sel' [0, 1] rfl rfl⟩
 ·clear hj
  have h := h'
  clear h' H
  rintro e a w ⟨rfl, ρ, σ16, rfl, rfl, H⟩
  refine q_then ?_
  refine cd_cond o1 rfl (fun hb17 => ?_) (fun hb17 => ?_)
  ·replace h := bif_t hb17 h
   refine c_seq ?_
   refine rg ?_
   refine st (v := (I (-1))) (rv_assign rfl) ?_
   refine w_end ?_
   refine q_then ?_
   refine c_ret ?_
   refine q_then_r ?_
   obtain rfl := Option.some.inj h
   exact fin_ret (v := (I (-1))) (results_ok Try.results33 (res_tmp (v := (I (-1))) rfl res_nil) rfl) ⟨rfl, rfl⟩ (H.sel' [] rfl rfl)
  ·replace h := bif_f hb17 h
   refine c_skip ?_
   refine q_then ?_
   refine c_seq ?_
   refine rg ?_
   refine st (v := (Sl alist_0 list_0 clist_0)) (rv_move rfl) ?_
   refine st (v := (I kind_1)) (rv_move rfl) ?_
   refine st (v := (Sl aat_2 at_2 cat_2)) (rv_move rfl) ?_
   refine st (v := (I k_3)) (rv_move rfl) ?_
   obtain ⟨r18, hx19, h'⟩ := bind_some h
   clear h
   have h := h'; clear h'
   have hc20 := c_spec_search (alist_0 := alist_0) (clist_0 := clist_0) (aat_2 := aat_2) (cat_2 := cat_2) hx19
   refine st_call (cx_call hc20 (ent_f hc20.fn rfl) hn0 (show Hp S0 σ0 _ ([Ch.ro 0 (Sl alist_0 list_0 clist_0) list_0, Ch.ro 0 (Sl aat_2 at_2 cat_2) at_2] ++ [Ch.ro 0 (Sl alist_0 list_0 clist_0) list_0, Ch.ro 0 (Sl aat_2 at_2 cat_2) at_2]) from (H.sel' [0, 1, 0, 1] rfl rfl))) wn ?_
   rintro _ σ30 ⟨_, ⟨b21, a22, c23, a24, c25, a26, c27, a28, c29, rfl, rfl⟩, H, -⟩
   replace H : Hp S0 σ0 σ30 [Ch.bx n0 b21 0 [(Sl a22 r18.1 c23), (Sl a24 r18.2.1 c25), (I r18.2.2.1), (Sl a26 r18.2.2.2.1 c27), (I r18.2.2.2.2.1), (Sl a28 r18.2.2.2.2.2.1 c29), (I r18.2.2.2.2.2.2)] [] [], Ch.ro 0 (Sl a22 r18.1 c23) r18.1, Ch.ro 0 (Sl a24 r18.2.1 c25) r18.2.1, Ch.ro 0 (Sl a26 r18.2.2.2.1 c27) r18.2.2.2.1, Ch.ro 0 (Sl a28 r18.2.2.2.2.2.1 c29) r18.2.2.2.2.2.1, Ch.ro 0 (Sl alist_0 list_0 clist_0) list_0, Ch.ro 0 (Sl aat_2 at_2 cat_2) at_2] := H
   refine st (v := (pt b21 0)) (rv_nilCheck rfl) ?_
   refine st (v := (pt b21 6)) (rv_fieldAddr (off := 6) (ft := 3) Try.underlying111 rfl ti3 rfl rfl) ?_
   have hc31 := H.cell (u := (I r18.2.2.2.2.2.2)) (o' := 6) 0 6 rfl rfl rfl
   refine st (v := (I r18.2.2.2.2.2.2)) (rv_load1 Try.underlying3 rfl rfl hc31) ?_
   refine st (v := (I r18.2.2.2.2.2.2)) (rv_assign rfl) ?_
   refine w_end ?_
   refine q_then ?_
   refine c_ret ?_
   obtain rfl := Option.some.inj h
   exact fin_ret (v := (I r18.2.2.2.2.2.2)) (results_ok Try.results33 (res_tmp (v := (I r18.2.2.2.2.2.2)) rfl res_nil) rfl) ⟨rfl, rfl⟩ (H.sel' [] rfl rfl)

theorem c_laws_FnTreeVisitsMore {code_0 : List UInt8} {acode_0 : Option Addr} {ccode_0 : Nat} {r : Bool} (h : M.laws_FnTreeVisitsMore code_0 = some r) :
    Cal2 Try.prog 8 [(Sl acode_0 code_0 ccode_0)] [Ch.ro 0 (Sl acode_0 code_0 ccode_0) code_0] (fun n0 v L => v = (B r) ∧ L = []) := by
 refine cal2 (n := 53) Try.func8 rfl rfl rfl rfl ?_
 intro S0 σ0 n0 hn0 H
 unfold M.laws_FnTreeVisitsMore at h
 refine c_seq ?_
 refine rg ?_
 refine st (v := (B false)) (rv_assign rfl) ?_
 refine w_end ?_
 refine q_then ?_
 refine c_seq ?_
 refine c_seq ?_
 refine rg ?_
 refine st (v := (Sl acode_0 code_0 ccode_0)) (rv_move rfl) ?_
 refine st (v := (I (code_0.length : Int))) (rv_len Try.underlying22 rfl) ?_
 refine st (v := (B (decide (1048576 < (code_0.length : Int))))) (rv_gtr (a := (code_0.length : Int)) (b := 1048576) rfl rfl) ?_
 refine w_end ?_
 refine q_then ?_
 refine cd_cond (decide (1048576 < (code_0.length : Int))) rfl (fun hb1 => ?_) (fun hb1 => ?_)
 ·replace h := bif_t hb1 h
  refine c_seq ?_
  refine rg ?_
  refine st (v := (B true)) (rv_assign rfl) ?_
  refine w_end ?_
  refine q_then ?_
  refine c_ret ?_
  refine q_then_r ?_
  obtain rfl := Option.some.inj h
  exact fin_ret (v := (B true)) (results_ok Try.results8 (res_tmp (v := (B true)) rfl res_nil) rfl) ⟨rfl, rfl⟩ (H.sel' [] rfl rfl)
 ·replace h := bif_f hb1 h
  refine c_skip ?_
  refine q_then ?_
  refine c_seq ?_
  refine rg ?_
  refine st (v := (Sl acode_0 code_0 ccode_0)) (rv_move rfl) ?_
  obtain ⟨r2, hx3, h'⟩ := bind_some h
  clear h
  have h := h'; clear h'
  have hc4 := c_spec_DrawTreeVisits (acode_0 := acode_0) (ccode_0 := ccode_0) hx3
  refine st_call (cx_call hc4 (ent_f hc4.fn rfl) hn0 (show Hp S0 σ0 _ ([Ch.ro 0 (Sl acode_0 code_0 ccode_0) code_0] ++ [Ch.ro 0 (Sl acode_0 code_0 ccode_0) code_0]) from (H.sel' [0, 0] rfl rfl))) wn ?_
  rintro _ σ9 ⟨_, ⟨a5, c6, a7, c8, rfl, rfl⟩, H, -⟩
  replace H : Hp S0 σ0 σ9 [Ch.own n0 n0 (Sl a5 r2.1 c6) r2.1, Ch.own n0 n0 (Sl a7 r2.2.2.1 c8) r2.2.2.1, Ch.ro 0 (Sl acode_0 code_0 ccode_0) code_0] := H
  refine st (v := (.tuple #[(Sl a5 r2.1 c6), (I r2.2.1), (Sl a7 r2.2.2.1 c8), (I r2.2.2.2)])) (rv_move rfl) ?_
  refine st (v := (Sl a5 r2.1 c6)) (rv_extract rfl rfl) ?_
  refine st (v := (I r2.2.1)) (rv_extract rfl rfl) ?_
  refine st (v := (Sl a7 r2.2.2.1 c8)) (rv_extract rfl rfl) ?_
  refine st (v := (I r2.2.2.2)) (rv_extract rfl rfl) ?_
  refine st (v := (Sl a5 r2.1 c6)) (rv_assign rfl) ?_
  refine st (v := (I r2.2.1)) (rv_assign rfl) ?_
  refine st (v := (Sl a7 r2.2.2.1 c8)) (rv_assign rfl) ?_
  refine st (v := (I r2.2.2.2)) (rv_assign rfl) ?_
  refine w_end ?_
  refine q_then ?_
  refine c_seq ?_
  refine rg ?_
  refine st (v := (Sl a5 r2.1 c6)) (rv_move rfl) ?_
  refine st (v := (I r2.2.1)) (rv_move rfl) ?_
  refine st (v := (Sl a7 r2.2.2.1 c8)) (rv_move rfl) ?_
  refine st (v := (I r2.2.2.2)) (rv_move rfl) ?_
  obtain ⟨r10, hx11, h'⟩ := bind_some h
  clear h
  have h := h'; clear h'
  have hc12 := c_impl_TreeVisits (alist_0 := a5) (clist_0 := c6) (aat_2 := a7) (cat_2 := c8) hx11
  have hle := Nat.le_trans hn0 H.size
  refine st_call (cx_lend (Loan.lend (Loan.lend Loan.nil)) hc12 (ent_f hc12.fn rfl) (show Hp S0 σ0 _ ([Ch.own n0 n0 (Sl a5 r2.1 c6) r2.1, Ch.own n0 n0 (Sl a7 r2.2.2.1 c8) r2.2.2.1] ++ ([] ++ [Ch.ro 0 (Sl acode_0 code_0 ccode_0) code_0])) from (H.sel' [0, 1, 2] rfl rfl)) (by rintro _ _ _ ⟨rfl, rfl⟩; exact trivial)) wn ?_
  rintro _ σ13 ⟨_, ⟨rfl, rfl⟩, H, -, -⟩
  replace H : Hp S0 σ0 σ13 [Ch.own n0 n0 (Sl a5 r2.1 c6) r2.1, Ch.own n0 n0 (Sl a7 r2.2.2.1 c8) r2.2.2.1, Ch.ro 0 (Sl acode_0 code_0 ccode_0) code_0] := H
  clear hle
  replace H : Hp S0 σ0 σ13 [Ch.own n0 n0 (Sl a5 r2.1 c6) r2.1, Ch.own n0 n0 (Sl a7 r2.2.2.1 c8) r2.2.2.1, Ch.ro 0 (Sl acode_0 code_0 ccode_0) code_0] := H
  refine st (v := (I r10)) (rv_assign rfl) ?_
  refine w_end ?_
  refine q_then ?_
  refine c_seq ?_
  refine c_seq ?_
  obtain ⟨o14, hj, h'⟩ := bind_some h
  clear h
  refine c_cut (fun e a w => e = .normal ∧ ∃ (ρ : Nat → Value) (σ : St), a = fr 53 (updL ρ [(3, (Sl a5 r2.1 c6)), (4, (I r2.2.1)), (5, (Sl a7 r2.2.2.1 c8)), (6, (I r2.2.2.2)), (7, (I r10)), (37, (B o14))]) ∧ w = σ.w ∧ Hp S0 σ0 σ [Ch.own n0 n0 (Sl a5 r2.1 c6) r2.1, Ch.own n0 n0 (Sl a7 r2.2.2.1 c8) r2.2.2.1]) ?_ ?_
  ·clear h'
   rename _ = some o14 => h
   refine rg ?_
   refine st (v := (I r10)) (rv_move rfl) ?_
   refine st (v := (Sl a5 r2.1 c6)) (rv_move rfl) ?_
   refine st (v := (I r2.2.1)) (rv_move rfl) ?_
   refine st (v := (Sl a7 r2.2.2.1 c8)) (rv_move rfl) ?_
   refine st (v := (I r2.2.2.2)) (rv_move rfl) ?_
   obtain ⟨r15, hx16, h'⟩ := bind_some h
   clear h
   have h := h'; clear h'
   have hc17 := c_spec_TreeVisits (alist_0 := a5) (clist_0 := c6) (aat_2 := a7) (cat_2 := c8) hx16
   have hle := Nat.le_trans hn0 H.size
   refine st_call (cx_lend (Loan.lend (Loan.lend Loan.nil)) hc17 (ent_f hc17.fn rfl) (show Hp S0 σ0 _ ([Ch.own n0 n0 (Sl a5 r2.1 c6) r2.1, Ch.own n0 n0 (Sl a7 r2.2.2.1 c8) r2.2.2.1] ++ ([] ++ [Ch.ro 0 (Sl acode_0 code_0 ccode_0) code_0])) from (H.sel' [0, 1, 2] rfl rfl)) (by rintro _ _ _ ⟨rfl, rfl⟩; exact trivial)) wn ?_
   rintro _ σ18 ⟨_, ⟨rfl, rfl⟩, H, -, -⟩
   replace H : Hp S0 σ0 σ18 [Ch.own n0 n0 (Sl a5 r2.1 c6) r2.1, Ch.own n0 n0 (Sl a7 r2.2.2.1 c8) r2.2.2.1, Ch.ro 0 (Sl acode_0 code_0 ccode_0) code_0] := H
   clear hle
   replace H : Hp S0 σ0 σ18 [Ch.own n0 n0 (Sl a5 r2.1 c6) r2.1, Ch.own n0 n0 (Sl a7 r2.2.2.1 c8) r2.2.2.1, Ch.ro 0 (Sl acode_0 code_0 ccode_0) code_0] := H
   refine st (v := (B (r10 != r15))) (rv_neq (a := r10) (b := r15) rfl rfl) ?_
   refine st (v := (B (r10 != r15))) (rv_move rfl) ?_
   rcases Bool.eq_false_or_eq_true (r10 != r15) with hb19 | hb19
   ·replace h := bif_t hb19 h
    refine st_skip (congrArg some hb19) ?_
    refine st_skip (congrArg some hb19) ?_
    refine st (v := (B true)) (rv_pick_t (congrArg B hb19) rfl) ?_
    refine st (v := (B true)) (rv_move rfl) ?_
    refine st_skip rfl ?_
    refine st_skip rfl ?_
    refine st (v := (B true)) (rv_pick_t rfl rfl) ?_
    refine w_end ?_
    obtain rfl := Option.some.inj h
    exact ⟨rfl, _, σ18, fr_join ⟨rfl, rfl, rfl, rfl, rfl, rfl, trivial⟩, rfl, H.sel' [0, 1] rfl rfl⟩
   ·replace h := bif_f hb19 h
    refine st_g (v := (I r10)) (congrArg some hb19) (rv_move rfl) ?_
    refine st_g (v := (B (decide (r10 < 1)))) (congrArg some hb19) (rv_lss (a := r10) (b := 1) rfl rfl) ?_
    refine st (v := (B (decide (r10 < 1)))) (rv_pick_f (congrArg B hb19) rfl) ?_
    refine st (v := (B (decide (r10 < 1)))) (rv_move rfl) ?_
    rcases Bool.eq_false_or_eq_true (decide (r10 < 1)) with hb20 | hb20
    ·replace h := bif_t hb20 h
     refine st_skip (congrArg some hb20) ?_
     refine st_skip (congrArg some hb20) ?_
     refine st (v := (B true)) (rv_pick_t (congrArg B hb20) rfl) ?_
     refine w_end ?_
     obtain rfl := Option.some.inj h
     exact ⟨rfl, _, σ18, fr_join ⟨rfl, rfl, rfl, rfl, rfl, rfl, trivial⟩, rfl, H.sel' [0, 1] rfl rfl⟩
    ·replace h := bif_f hb20 h
     refine st_g (v := (I r2.2.2.2)) (congrArg some hb20) (rv_move rfl) ?_
     refine st_g (v := (B (r2.2.2.2 == 16))) (congrArg some hb20) (rv_eql (a := r2.2.2.2) (b := 16) rfl rfl) ?_
     refine st (v := (B (r2.2.2.2 == 16))) (rv_pick_f (congrArg B hb20) rfl) ?_
     refine w_end ?_
     obtain rfl := Option.some.inj h
     exact ⟨rfl, _, σ18, fr_join ⟨rfl, rfl, rfl, rfl, rfl, rfl, trivial⟩, rfl, H.sel' [0, 1] rfl rfl⟩
  ·clear hj
   have h := h'
   clear h' H
   rintro e a w ⟨rfl, ρ, σ21, rfl, rfl, H⟩
   refine q_then ?_
   refine cd_cond o14 rfl (fun hb22 => ?_) (fun hb22 => ?_)
   ·replace h := bif_t hb22 h
    refine c_seq ?_
    refine rg ?_
    refine st (v := (I r10)) (rv_move rfl) ?_
    refine st (v := (Sl a5 r2.1 c6)) (rv_move rfl) ?_
    refine st (v := (I r2.2.1)) (rv_move rfl) ?_
    refine st (v := (Sl a7 r2.2.2.1 c8)) (rv_move rfl) ?_
    refine st (v := (I r2.2.2.2)) (rv_move rfl) ?_
    obtain ⟨σ23, hw24, H, -⟩ := H.pub 0 rfl (Nat.le_refl _)
    rw [← hw24]; clear hw24
    obtain ⟨σ25, hw26, H, -⟩ := H.pub 1 rfl (Nat.le_refl _)
    rw [← hw26]; clear hw26
    replace H := H.roLow 1 0 rfl (Nat.zero_le _)
    replace H := H.roLow 1 0 rfl (Nat.zero_le _)
    obtain ⟨r27, hx28, h'⟩ := bind_some h
    clear h
    have h := h'; clear h'
    have hc29 := c_spec_TreeVisits (alist_0 := a5) (clist_0 := c6) (aat_2 := a7) (cat_2 := c8) hx28
    refine st_call (cx_call hc29 (ent_f hc29.fn rfl) hn0 (show Hp S0 σ0 _ ([Ch.ro 0 (Sl a5 r2.1 c6) r2.1, Ch.ro 0 (Sl a7 r2.2.2.1 c8) r2.2.2.1] ++ [Ch.ro 0 (Sl a7 r2.2.2.1 c8) r2.2.2.1, Ch.ro 0 (Sl a5 r2.1 c6) r2.1, Ch.ro n0 (Sl a7 r2.2.2.1 c8) r2.2.2.1, Ch.ro n0 (Sl a5 r2.1 c6) r2.1]) from (H.sel' [1, 0, 0, 1, 2, 3] rfl rfl))) wn ?_
    rintro _ σ30 ⟨_, ⟨rfl, rfl⟩, H, -⟩
    replace H : Hp S0 σ0 σ30 [Ch.ro 0 (Sl a7 r2.2.2.1 c8) r2.2.2.1, Ch.ro 0 (Sl a5 r2.1 c6) r2.1, Ch.ro n0 (Sl a7 r2.2.2.1 c8) r2.2.2.1, Ch.ro n0 (Sl a5 r2.1 c6) r2.1] := H
    refine st (v := (B (r10 == r27))) (rv_eql (a := r10) (b := r27) rfl rfl) ?_
    refine st (v := (B (r10 == r27))) (rv_assign rfl) ?_
    refine w_end ?_
    refine q_then ?_
    refine c_ret ?_
    refine q_then_r ?_
    obtain rfl := Option.some.inj h
    exact fin_ret (v := (B (r10 == r27))) (results_ok Try.results8 (res_tmp (v := (B (r10 == r27))) rfl res_nil) rfl) ⟨rfl, rfl⟩ (H.sel' [] rfl rfl)
   ·replace h := bif_f hb22 h
    refine c_skip ?_
    refine q_then ?_
    refine c_seq ?_
    refine rg ?_
    refine st (v := (Sl a5 r2.1 c6)) (rv_move rfl) ?_
    refine st (v := (I r2.2.1)) (rv_move rfl) ?_
    refine st (v := (Sl a7 r2.2.2.1 c8)) (rv_move rfl) ?_
    refine st (v := (I r2.2.2.2)) (rv_move rfl) ?_
    refine st (v := (I (w64 (r2.2.2.2 + 1)))) (rv_add (a := r2.2.2.2) (b := 1) rfl rfl) ?_
    obtain ⟨σ31, hw32, H, -⟩ := H.pub 0 rfl (Nat.le_refl _)
    rw [← hw32]; clear hw32
    obtain ⟨σ33, hw34, H, -⟩ := H.pub 1 rfl (Nat.le_refl _)
    rw [← hw34]; clear hw34
    replace H := H.roLow 1 0 rfl (Nat.zero_le _)
    replace H := H.roLow 1 0 rfl (Nat.zero_le _)
    obtain ⟨r35, hx36, h'⟩ := bind_some h
    clear h
    have h := h'; clear h'
    have hc37 := c_impl_TreeVisits (alist_0 := a5) (clist_0 := c6) (aat_2 := a7) (cat_2 := c8) hx36
    refine st_call (cx_call hc37 (ent_f hc37.fn rfl) hn0 (show Hp S0 σ0 _ ([Ch.ro 0 (Sl a5 r2.1 c6) r2.1, Ch.ro 0 (Sl a7 r2.2.2.1 c8) r2.2.2.1] ++ [Ch.ro 0 (Sl a7 r2.2.2.1 c8) r2.2.2.1, Ch.ro 0 (Sl a5 r2.1 c6) r2.1, Ch.ro n0 (Sl a7 r2.2.2.1 c8) r2.2.2.1, Ch.ro n0 (Sl a5 r2.1 c6) r2.1]) from (H.sel' [1, 0, 0, 1, 2, 3] rfl rfl))) wn ?_
    rintro _ σ38 ⟨_, ⟨rfl, rfl⟩, H, -⟩
    replace H : Hp S0 σ0 σ38 [Ch.ro 0 (Sl a7 r2.2.2.1 c8) r2.2.2.1, Ch.ro 0 (Sl a5 r2.1 c6) r2.1, Ch.ro n0 (Sl a7 r2.2.2.1 c8) r2.2.2.1, Ch.ro n0 (Sl a5 r2.1 c6) r2.1] := H
    refine st (v := (I r10)) (rv_move rfl) ?_
    refine st (v := (B (decide (r10 ≤ r35)))) (rv_geq (a := r35) (b := r10) rfl rfl) ?_
    refine st (v := (B (decide (r10 ≤ r35)))) (rv_assign rfl) ?_
    refine w_end ?_
    refine q_then ?_
    refine c_ret ?_
    obtain rfl := Option.some.inj h
    exact fin_ret (v := (B (decide (r10 ≤ r35)))) (results_ok Try.results8 (res_tmp (v := (B (decide (r10 ≤ r35)))) rfl res_nil) rfl) ⟨rfl, rfl⟩ (H.sel' [] rfl rfl)

end Go.Vs
