/- The functions compute what their models say. -/
import Derived.Test.YtdjjikmfkejdiaeGreatKExactRerankNearestC2
set_option linter.unusedVariables false
set_option linter.unusedSimpArgs false
set_option maxRecDepth 20000
namespace Go.Vs
open Go Go.Proofs
attribute [local irreducible] Code.wp Code.wpIn wpList wpListIn wpQuiet Calls CallsIn

theorem c_spec_CodeNearest {Bg : (List (List Int)) × (List (List Int))} {Cn : List (Int × (List Int) × Int)} {Bt : List Int} {Cp : Int} {Bh : Option Addr} {Bi : Nat} {Bj : Option Addr} {Bk : Nat} {Cq : Option Addr} {Cr : Nat} {Bu : Option Addr} {Bv : Nat} {r : (List (Int × Int))} (h : M.spec_CodeNearest Bg Cn Bt Cp = some r) :
    Cal2 Tryz.prog 9 [(.agg #[(Sl Bh Bg.1 Bi), (Sl Bj Bg.2 Bk)]), (Sl Cq Cn Cr), (Sl Bu Bt Bv), (I Cp)] [Ch.ro 0 (Sl Bh Bg.1 Bi) Bg.1, Ch.ro 0 (Sl Bj Bg.2 Bk) Bg.2, Ch.ro 0 (Sl Cq Cn Cr) Cn, Ch.ro 0 (Sl Bu Bt Bv) Bt] (fun n0 v L => ∃ (az1 : Option Addr), ∃ (cz2 : Nat), v = (Sl az1 r cz2) ∧ L = [Ch.own n0 n0 (Sl az1 r cz2) r]) := by
 refine cal2 (n := 53) Tryz.func9 rfl rfl rfl rfl ?_
 intro S0 σ0 n0 hn0 H
 unfold M.spec_CodeNearest at h
 refine c_seq (rg (st_ex (ex_box (cs := [(Sl Bh Bg.1 Bi), (Sl Bj Bg.2 Bk)]) H hn0 rfl rfl) wn ?_))
 rintro _ σ2 ⟨b1, rfl, H, -⟩
 refine sa (.slice none 0 0) rfl (w_end (q_then (c_seq (rg ?_))))
 refine st_ex (ex_buildSlice (el := n0) (xs := ([] : List (Int × Int))) (ps := []) (cs := []) H hn0 Tryz.underlying29 ti67 rfl rfl (by kernel_rfl) (.nil) rfl) wn ?_
 rintro _ σ4 ⟨b3, rfl, H, -⟩
 refine sa (Sl (some ⟨b3, 0, none⟩) ([] : List (Int × Int)) 0) rfl (w_end (q_then (c_seq (c_seq ?_))))
 obtain ⟨o5, hj, h'⟩ := bind_some h
 clear h
 refine c_cut (fun e a w => e = .normal ∧ ∃ (ρ : Nat → Value) (σ : St), a = fr 53 (updL ρ [(1, (Sl Cq Cn Cr)), (2, (Sl Bu Bt Bv)), (3, (I Cp)), (4, (pt b1 0)), (9, (Sl (some ⟨b3, 0, none⟩) ([] : List (Int × Int)) 0)), (25, (B o5))]) ∧ w = σ.w ∧ Hp S0 σ0 σ [Ch.ro 0 (Sl Cq Cn Cr) Cn, Ch.ro 0 (Sl Bu Bt Bv) Bt, Ch.ro 0 (Sl Bh Bg.1 Bi) Bg.1, Ch.ro 0 (Sl Bj Bg.2 Bk) Bg.2, Ch.bx n0 b1 0 [(Sl Bh Bg.1 Bi), (Sl Bj Bg.2 Bk)] [] [], Ch.own n0 n0 (Sl (some ⟨b3, 0, none⟩) ([] : List (Int × Int)) 0) ([] : List (Int × Int))]) ?_ ?_
 ·clear h'
  rename _ = some o5 => h
  refine rg ?_
  have hc6 := H.cells 1 rfl
  refine st (v := (.agg #[(Sl Bh Bg.1 Bi), (Sl Bj Bg.2 Bk)])) (rv_load (cs := [(Sl Bh Bg.1 Bi), (Sl Bj Bg.2 Bk)]) Tryz.underlying31 rfl ti31 rfl rfl hc6) ?_
  revert h; refine br fun r7 hx8 h => ?_
  have hc9 := c_spec_validBook (Bh := Bh) (Bi := Bi) (Bj := Bj) (Bk := Bk) hx8
  refine st_call (cx_call hc9 (ent_f hc9.fn rfl) hn0 (H.sel' [2, 3, 0, 1, 2, 3, 4, 5] rfl rfl : Hp S0 σ0 _ ([_, _] ++ _))) wn ?_
  rintro _ σ10 ⟨_, ⟨rfl, rfl⟩, H, -⟩
  replace H : Hp _ _ _ [_, _, _, _, _, _] := H
  refine st (v := (B (!r7))) (rv_not rfl) (sm (B (!r7)) rfl ?_)
  rcases Bool.eq_false_or_eq_true (!r7) with hb11 | hb11
  ·replace h := bif_t hb11 h
   refine st_skip (congrArg some hb11) (st_skip (congrArg some hb11) (st_skip (congrArg some hb11) (st_skip (congrArg some hb11) (st (v := (B true)) (rv_pick_t (congrArg B hb11) rfl) (sm (B true) rfl (st_skip rfl (st_skip rfl (st_skip rfl (st (v := (B true)) (rv_pick_t rfl rfl) (w_end ?_))))))))))
   obtain rfl := sj h
   exact ⟨rfl, _, σ10, fr_join ⟨rfl, rfl, rfl, rfl, rfl, rfl, trivial⟩, rfl, H.sel' [4, 5, 2, 3, 1, 0] rfl rfl⟩
  ·replace h := bif_f hb11 h
   refine st_g (v := (Sl Cq Cn Cr)) (congrArg some hb11) (rv_move rfl) (st_g (v := (Sl Bu Bt Bv)) (congrArg some hb11) (rv_move rfl) ?_)
   revert h; refine br fun r12 hx13 h => ?_
   have hc14 := c_spec_validQuery (Be := Cq) (Bf := Cr) (Bu := Bu) (Bv := Bv) hx13
   refine st_call (cx_call hc14 (ent_f hc14.fn rfl) hn0 (H.sel' [4, 5, 0, 1, 2, 3, 4, 5] rfl rfl : Hp S0 σ0 _ ([_, _] ++ _))) (wanted_yes rfl (by exact (congrArg some hb11))) ?_
   rintro _ σ15 ⟨_, ⟨rfl, rfl⟩, H, -⟩
   replace H : Hp _ _ _ [_, _, _, _, _, _] := H
   refine st_g (v := (B (!r12))) (congrArg some hb11) (rv_not rfl) (st (v := (B (!r12))) (rv_pick_f (congrArg B hb11) rfl) (sm (B (!r12)) rfl ?_))
   rcases Bool.eq_false_or_eq_true (!r12) with hb16 | hb16
   ·replace h := bif_t hb16 h
    refine st_skip (congrArg some hb16) (st_skip (congrArg some hb16) (st_skip (congrArg some hb16) (st (v := (B true)) (rv_pick_t (congrArg B hb16) rfl) (w_end ?_))))
    obtain rfl := sj h
    exact ⟨rfl, _, σ15, fr_join ⟨rfl, rfl, rfl, rfl, rfl, rfl, trivial⟩, rfl, H.sel' [4, 5, 2, 3, 1, 0] rfl rfl⟩
   ·replace h := bif_f hb16 h
    refine st_g (v := (I Cp)) (congrArg some hb16) (rv_move rfl) ?_
    revert h; refine br fun r17 hx18 h => ?_
    have hc19 := c_spec_inRange hx18
    refine st_call (cx_call hc19 (ent_f hc19.fn rfl) hn0 (H.sel' [0, 1, 2, 3, 4, 5] rfl rfl : Hp S0 σ0 _ ([] ++ _))) (wanted_yes rfl (by exact (congrArg some hb16))) ?_
    rintro _ σ20 ⟨_, ⟨rfl, rfl⟩, H, -⟩
    replace H : Hp _ _ _ [_, _, _, _, _, _] := H
    refine st_g (v := (B (!r17))) (congrArg some hb16) (rv_not rfl) (st (v := (B (!r17))) (rv_pick_f (congrArg B hb16) rfl) (w_end ?_))
    obtain rfl := sj h
    exact ⟨rfl, _, σ20, fr_join ⟨rfl, rfl, rfl, rfl, rfl, rfl, trivial⟩, rfl, H.sel' [4, 5, 2, 3, 1, 0] rfl rfl⟩
 ·clear hj
  have h := h'
  clear h' H
  rintro e a w ⟨rfl, ρ, σ21, rfl, rfl, H⟩
  refine q_then ?_
  refine cd_cond o5 rfl (fun hb22 => ?_) (fun hb22 => ?_)
  ·replace h := bif_t hb22 h
   refine c_seq (rg (sa (.slice none 0 0) rfl (w_end (q_then (c_ret (q_then_r ?_))))))
   replace H := H.nilOwn (Int × Int) n0 n0
   obtain rfl := sj h
   exact fin_ret (v := (.slice none 0 0)) (results_ok Tryz.results9 (res_tmp (v := (.slice none 0 0)) rfl res_nil) rfl) ⟨none, 0, rfl, rfl⟩ (H.sel' [0] rfl rfl)
  ·replace h := bif_f hb22 h
   refine c_skip (q_then (c_seq (c_seq (rg (sa (I 0) rfl (w_end (q_then ?_)))))))
   obtain ⟨o23, hj, h'⟩ := bind_some h
   clear h
   refine c_cut (fun e a w => e = .normal ∧ ∃ (ρ : Nat → Value) (σ : St) (aj1 : Option Addr) (cj2 : Nat), a = fr 53 (updL ρ [(9, (Sl aj1 o23 cj2))]) ∧ w = σ.w ∧ Hp S0 σ0 σ [Ch.own n0 n0 (Sl aj1 o23 cj2) o23]) ?_ ?_
   ·clear h'
    rename _ = some o23 => h
    refine c_blk (wp_loopM _ h (fun s24 a w => ∃ (ρ : Nat → Value) (σ : St) (aj1 : Option Addr) (cj2 : Nat), a = fr 53 (updL ρ [(1, (Sl Cq Cn Cr)), (2, (Sl Bu Bt Bv)), (3, (I Cp)), (4, (pt b1 0)), (9, (Sl aj1 s24.1 cj2)), (10, (I s24.2))]) ∧ w = σ.w ∧ Hp S0 σ0 σ [Ch.ro 0 (Sl Cq Cn Cr) Cn, Ch.ro 0 (Sl Bu Bt Bv) Bt, Ch.ro 0 (Sl Bh Bg.1 Bi) Bg.1, Ch.ro 0 (Sl Bj Bg.2 Bk) Bg.2, Ch.bx n0 b1 0 [(Sl Bh Bg.1 Bi), (Sl Bj Bg.2 Bk)] [] [], Ch.own n0 n0 (Sl aj1 s24.1 cj2) s24.1]) ⟨_, σ21, (some ⟨b3, 0, none⟩), 0, fr_join ⟨rfl, rfl, rfl, rfl, rfl, rfl, trivial⟩, rfl, H.sel' [0, 1, 2, 3, 4, 5] rfl rfl⟩ ?_)
    clear h H
    rintro s24 a w o ⟨ρ, σ25, a26, c27, rfl, rfl, H⟩ h hres
    refine c_seq (c_seq (rg (sm (I s24.2) rfl (sm (Sl Cq Cn Cr) rfl (st (v := (I (Cn.length : Int))) (rv_len Tryz.underlying33 rfl) (st (v := (B (decide (s24.2 < (Cn.length : Int))))) (rv_lss (a := s24.2) (b := (Cn.length : Int)) rfl rfl) (w_end (q_then ?_))))))))
    refine cd_cond (decide (s24.2 < (Cn.length : Int))) rfl (fun hb28 => ?_) (fun hb28 => ?_)
    ·replace h := bif_t hb28 h
     refine c_skip (q_then (c_seq (c_blk ?_)))
     revert h; refine br fun x29 hx30 h => ?_
     obtain ⟨b32, o33, hi31, -⟩ := (H.ro 0 rfl).ix hx30
     have hc34 := ((H.ro 0 rfl).at hx30 hi31).fst.int
     have hc35 := H.cells 4 rfl
     have hc36 := H.cells 4 rfl
     revert h; refine br fun x37 hx38 h => ?_
     obtain ⟨b40, o41, hi39, -⟩ := (H.ro 0 rfl).ix hx38
     obtain ⟨v45, hc46, hR44⟩ := ((H.ro 0 rfl).at hx38 hi39).snd.fst.slice
     obtain ⟨a42, c43, rfl⟩ := hR44.isSl
     replace H := H.add (d := Ch.ro 0 (Sl a42 x37.2.1 c43) x37.2.1) hR44 (fun _ h => h)
     clear hR44
     revert h; refine br fun r47 hx48 h => ?_
     have hc49 := c_spec_encode (Bh := Bh) (Bi := Bi) (Bj := Bj) (Bk := Bk) (Cl := a42) (Cm := c43) hx48
     revert h; refine br fun r50 hx51 h => ?_
     have hc52 := c_spec_decode (Bh := Bh) (Bi := Bi) (Bj := Bj) (Bk := Bk) hx51
     revert h; refine br fun r55 hx56 h => ?_
     have hc57 := fun (a53 : Option Addr) (c54 : Nat) => c_spec_dist (Cb := a53) (Cc := c54) (Cd := Bu) (Ce := Bv) hx56
     have Hs := H
     refine rg2 (σ := σ25) (Nm := (Option Addr) × (Nat)) 19 [13, 14, 16] [[false, false, false], [true, false, false], [true, true, false], [true, true, true]] [[(0, 0), (1, 1), (2, 2), (3, 3)], [(0, 0), (1, 1), (2, 2), (3, 3)], [(0, 0), (1, 1), (2, 2), (3, 3)], [(0, 0), (1, 1), (2, 2), (3, 3)], [(0, 0), (1, 1), (2, 2), (3, 3)], [(0, 0), (1, 1), (2, 2), (3, 3)], [(0, 0), (1, 1)], [(0, 0)], [(0, 0)], [(0, 0)], [(0, 0)], [(0, 0)], [(0, 0)], [(0, 1)], [(1, 2)], [(0, 0), (1, 1), (2, 2)], [(2, 3)], [(3, 3)], [(0, 0), (1, 1), (2, 2), (3, 3)]] 3 [fun ((a53, c54) : (Option Addr) × (Nat)) => fun σm => Hp S0 σ0 σm [Ch.ro 0 (Sl a42 x37.2.1 c43) x37.2.1, Ch.ro 0 (Sl Cq Cn Cr) Cn, Ch.ro 0 (Sl Bu Bt Bv) Bt, Ch.ro 0 (Sl Bh Bg.1 Bi) Bg.1, Ch.ro 0 (Sl Bj Bg.2 Bk) Bg.2, Ch.bx n0 b1 0 [(Sl Bh Bg.1 Bi), (Sl Bj Bg.2 Bk)] [] [], Ch.own n0 n0 (Sl a26 s24.1 c27) s24.1] ∧ Md (cov []) σ25 σm, fun ((a53, c54) : (Option Addr) × (Nat)) => fun σm => Hp S0 σ0 σm [Ch.ro 0 (Sl a42 x37.2.1 c43) x37.2.1, Ch.ro 0 (Sl Cq Cn Cr) Cn, Ch.ro 0 (Sl Bu Bt Bv) Bt, Ch.ro 0 (Sl Bh Bg.1 Bi) Bg.1, Ch.ro 0 (Sl Bj Bg.2 Bk) Bg.2, Ch.bx n0 b1 0 [(Sl Bh Bg.1 Bi), (Sl Bj Bg.2 Bk)] [] [], Ch.own n0 n0 (Sl a26 s24.1 c27) s24.1] ∧ Md (cov []) σ25 σm, fun ((a53, c54) : (Option Addr) × (Nat)) => fun σm => Hp S0 σ0 σm [Ch.ro 0 (Sl a53 r50 c54) r50, Ch.ro 0 (Sl a42 x37.2.1 c43) x37.2.1, Ch.ro 0 (Sl Cq Cn Cr) Cn, Ch.ro 0 (Sl Bu Bt Bv) Bt, Ch.ro 0 (Sl Bh Bg.1 Bi) Bg.1, Ch.ro 0 (Sl Bj Bg.2 Bk) Bg.2, Ch.bx n0 b1 0 [(Sl Bh Bg.1 Bi), (Sl Bj Bg.2 Bk)] [] [], Ch.own n0 n0 (Sl a26 s24.1 c27) s24.1] ∧ Md (fun i => (cov []) i ∨ (fun i => (cov [Ch.ro 0 (Sl Bh Bg.1 Bi) Bg.1, Ch.ro 0 (Sl Bj Bg.2 Bk) Bg.2]) i ∨ (fun b => blk (Sl a53 r50 c54) = some b) i) i) σ25 σm, fun ((a53, c54) : (Option Addr) × (Nat)) => fun σm => Hp S0 σ0 σm [Ch.ro 0 (Sl a53 r50 c54) r50, Ch.ro 0 (Sl a42 x37.2.1 c43) x37.2.1, Ch.ro 0 (Sl Cq Cn Cr) Cn, Ch.ro 0 (Sl Bu Bt Bv) Bt, Ch.ro 0 (Sl Bh Bg.1 Bi) Bg.1, Ch.ro 0 (Sl Bj Bg.2 Bk) Bg.2, Ch.bx n0 b1 0 [(Sl Bh Bg.1 Bi), (Sl Bj Bg.2 Bk)] [] [], Ch.own n0 n0 (Sl a26 s24.1 c27) s24.1] ∧ Md (fun i => (cov []) i ∨ (fun i => (cov [Ch.ro 0 (Sl Bh Bg.1 Bi) Bg.1, Ch.ro 0 (Sl Bj Bg.2 Bk) Bg.2]) i ∨ (fun b => blk (Sl a53 r50 c54) = some b) i) i) σ25 σm] [fun ((a53, c54) : (Option Addr) × (Nat)) => (Sl a26 s24.1 c27), fun ((a53, c54) : (Option Addr) × (Nat)) => (Sl Cq Cn Cr), fun ((a53, c54) : (Option Addr) × (Nat)) => (I s24.2), fun ((a53, c54) : (Option Addr) × (Nat)) => (pt b32 o33), fun ((a53, c54) : (Option Addr) × (Nat)) => (pt b32 (o33 + 0)), fun ((a53, c54) : (Option Addr) × (Nat)) => (I x29.1), fun ((a53, c54) : (Option Addr) × (Nat)) => (.agg #[(Sl Bh Bg.1 Bi), (Sl Bj Bg.2 Bk)]), fun ((a53, c54) : (Option Addr) × (Nat)) => (.agg #[(Sl Bh Bg.1 Bi), (Sl Bj Bg.2 Bk)]), fun ((a53, c54) : (Option Addr) × (Nat)) => (Sl Cq Cn Cr), fun ((a53, c54) : (Option Addr) × (Nat)) => (I s24.2), fun ((a53, c54) : (Option Addr) × (Nat)) => (pt b40 o41), fun ((a53, c54) : (Option Addr) × (Nat)) => (pt b40 (o41 + 1)), fun ((a53, c54) : (Option Addr) × (Nat)) => (Sl a42 x37.2.1 c43), fun ((a53, c54) : (Option Addr) × (Nat)) => (I r47), fun ((a53, c54) : (Option Addr) × (Nat)) => (Sl a53 r50 c54), fun ((a53, c54) : (Option Addr) × (Nat)) => (Sl Bu Bt Bv), fun ((a53, c54) : (Option Addr) × (Nat)) => (I r55), fun ((a53, c54) : (Option Addr) × (Nat)) => (.agg #[(I x29.1), (I r55)]), fun ((a53, c54) : (Option Addr) × (Nat)) => (I Cp)] (none, 0) (by kernel_rfl) (by kernel_rfl) ?_ ?_ ?_
     ·intro σm m0
      exact ⟨H.grow (m0.mono fun _ h => h.elim), m0⟩
     ·refine ac rfl (by
        intro k; rintro ⟨a53, c54⟩ ρ σm hJ hoff hdep
        have e9 := look_off (N := 53) (hoff 9 rfl) rfl
        exact dp_v (v := (Sl a26 s24.1 c27)) wn (rv_move e9) rfl hJ) ?_
      refine ac rfl (by
        intro k; rintro ⟨a53, c54⟩ ρ σm hJ hoff hdep
        have e1 := look_off (N := 53) (hoff 1 rfl) rfl
        exact dp_v (v := (Sl Cq Cn Cr)) wn (rv_move e1) rfl hJ) ?_
      refine ac rfl (by
        intro k; rintro ⟨a53, c54⟩ ρ σm hJ hoff hdep
        have e10 := look_off (N := 53) (hoff 10 rfl) rfl
        exact dp_v (v := (I s24.2)) wn (rv_move e10) rfl hJ) ?_
      refine ac rfl (by
        intro k; rintro ⟨a53, c54⟩ ρ σm hJ hoff hdep
        have e33 := hdep 1 rfl rfl 33 rfl
        have e34 := hdep 2 rfl rfl 34 rfl
        exact dp_v (v := (pt b32 o33)) wn (rv_ix Tryz.underlying33 ti62 e33 e34 hi31) rfl hJ) ?_
      refine ac rfl (by
        intro k; rintro ⟨a53, c54⟩ ρ σm hJ hoff hdep
        have e35 := hdep 3 rfl rfl 35 rfl
        exact dp_v (v := (pt b32 (o33 + 0))) wn (rv_fieldAddr (off := 0) (ft := 3) Tryz.underlying62 rfl ti3 rfl e35) rfl hJ) ?_
      refine all_cons (by
        refine ⟨?_, ?_⟩
        ·rintro ⟨a53, c54⟩ ρ σm hJ hoff hdep
         have e36 := hdep 4 rfl rfl 36 rfl
         obtain ⟨H, m⟩ := id hJ
         replace hc34 := (Hs.ro 1 rfl).hmd hx30 hi31 (k := 0) (by decide) hc34 m
         exact dp_v (v := (I x29.1)) wn (rv_load1 Tryz.underlying3 rfl e36 hc34) rfl hJ
        refine ⟨?_, ?_⟩
        ·rintro ⟨a53, c54⟩ ρ σm hJ hoff hdep
         have e36 := hdep 4 rfl rfl 36 rfl
         obtain ⟨H, m⟩ := id hJ
         replace hc34 := (Hs.ro 1 rfl).hmd hx30 hi31 (k := 0) (by decide) hc34 m
         exact dp_v (v := (I x29.1)) wn (rv_load1 Tryz.underlying3 rfl e36 hc34) rfl hJ
        refine ⟨?_, ?_⟩
        ·rintro ⟨a53, c54⟩ ρ σm hJ hoff hdep
         have e36 := hdep 4 rfl rfl 36 rfl
         obtain ⟨H, m⟩ := id hJ
         replace hc34 := (Hs.ro 1 rfl).hmd hx30 hi31 (k := 0) (by decide) hc34 m
         exact dp_v (v := (I x29.1)) wn (rv_load1 Tryz.underlying3 rfl e36 hc34) rfl hJ
        refine ⟨?_, ?_⟩
        ·rintro ⟨a53, c54⟩ ρ σm hJ hoff hdep
         have e36 := hdep 4 rfl rfl 36 rfl
         obtain ⟨H, m⟩ := id hJ
         replace hc34 := (Hs.ro 1 rfl).hmd hx30 hi31 (k := 0) (by decide) hc34 m
         exact dp_v (v := (I x29.1)) wn (rv_load1 Tryz.underlying3 rfl e36 hc34) rfl hJ
        trivial) ?_
      refine all_cons (by
        refine ⟨?_, ?_⟩
        ·rintro ⟨a53, c54⟩ ρ σm hJ hoff hdep
         have e4 := look_off (N := 53) (hoff 4 rfl) rfl
         obtain ⟨H, m⟩ := id hJ
         have hc35 := H.cells 5 rfl
         exact dp_v (v := (.agg #[(Sl Bh Bg.1 Bi), (Sl Bj Bg.2 Bk)])) wn (rv_load (cs := [(Sl Bh Bg.1 Bi), (Sl Bj Bg.2 Bk)]) Tryz.underlying31 rfl ti31 e4 rfl hc35) rfl hJ
        refine ⟨?_, ?_⟩
        ·rintro ⟨a53, c54⟩ ρ σm hJ hoff hdep
         have e4 := look_off (N := 53) (hoff 4 rfl) rfl
         obtain ⟨H, m⟩ := id hJ
         have hc35 := H.cells 5 rfl
         exact dp_v (v := (.agg #[(Sl Bh Bg.1 Bi), (Sl Bj Bg.2 Bk)])) wn (rv_load (cs := [(Sl Bh Bg.1 Bi), (Sl Bj Bg.2 Bk)]) Tryz.underlying31 rfl ti31 e4 rfl hc35) rfl hJ
        trivial) ?_
      refine all_cons (by
        refine ⟨?_, ?_⟩
        ·rintro ⟨a53, c54⟩ ρ σm hJ hoff hdep
         have e4 := look_off (N := 53) (hoff 4 rfl) rfl
         obtain ⟨H, m⟩ := id hJ
         have hc36 := H.cells 5 rfl
         exact dp_v (v := (.agg #[(Sl Bh Bg.1 Bi), (Sl Bj Bg.2 Bk)])) wn (rv_load (cs := [(Sl Bh Bg.1 Bi), (Sl Bj Bg.2 Bk)]) Tryz.underlying31 rfl ti31 e4 rfl hc36) rfl hJ
        trivial) ?_
      refine ac rfl (by
        intro k; rintro ⟨a53, c54⟩ ρ σm hJ hoff hdep
        have e1 := look_off (N := 53) (hoff 1 rfl) rfl
        exact dp_v (v := (Sl Cq Cn Cr)) wn (rv_move e1) rfl hJ) ?_
      refine ac rfl (by
        intro k; rintro ⟨a53, c54⟩ ρ σm hJ hoff hdep
        have e10 := look_off (N := 53) (hoff 10 rfl) rfl
        exact dp_v (v := (I s24.2)) wn (rv_move e10) rfl hJ) ?_
      refine ac rfl (by
        intro k; rintro ⟨a53, c54⟩ ρ σm hJ hoff hdep
        have e40 := hdep 8 rfl rfl 40 rfl
        have e41 := hdep 9 rfl rfl 41 rfl
        exact dp_v (v := (pt b40 o41)) wn (rv_ix Tryz.underlying33 ti62 e40 e41 hi39) rfl hJ) ?_
      refine ac rfl (by
        intro k; rintro ⟨a53, c54⟩ ρ σm hJ hoff hdep
        have e42 := hdep 10 rfl rfl 42 rfl
        exact dp_v (v := (pt b40 (o41 + 1))) wn (rv_fieldAddr (off := 1) (ft := 26) Tryz.underlying62 rfl ti26 rfl e42) rfl hJ) ?_
      refine all_cons (by
        refine ⟨?_, ?_⟩
        ·rintro ⟨a53, c54⟩ ρ σm hJ hoff hdep
         have e43 := hdep 11 rfl rfl 43 rfl
         obtain ⟨H, m⟩ := id hJ
         replace hc46 := (Hs.ro 1 rfl).hmd hx38 hi39 (k := 1) (by decide) hc46 m
         exact dp_v (v := (Sl a42 x37.2.1 c43)) wn (rv_load1 Tryz.underlying26 rfl e43 hc46) rfl hJ
        trivial) ?_
      refine all_cons (by
        refine ⟨?_, ?_⟩
        ·rintro ⟨a53, c54⟩ ρ σm hJ hoff hdep
         have e39 : look 53 ρ 39 = (.agg #[(Sl Bh Bg.1 Bi), (Sl Bj Bg.2 Bk)]) := hdep 7 rfl rfl 39 rfl
         have e44 : look 53 ρ 44 = (Sl a42 x37.2.1 c43) := hdep 12 rfl rfl 44 rfl
         obtain ⟨H, m⟩ := id hJ
         refine dp_cx wn (cx_call hc49 (ent_f hc49.fn (by show [look 53 ρ 39, look 53 ρ 44] = _; rw [e39, e44])) hn0 (H.sel' [3, 4, 0, 0, 1, 2, 3, 4, 5, 6] rfl rfl : Hp S0 σ0 _ ([_, _, _] ++ _))) ?_
         rintro _ σq ⟨_, ⟨rfl, rfl⟩, H2, m2⟩
         exact ⟨_, (a53, c54), rfl, rfl, ⟨H2.sel' [0, 1, 2, 3, 4, 5, 6] rfl rfl, m.comp0 (m2.mono (fun i h => by simp [cov, Ch.ro] at h))⟩, stab [0, 1, 2, 3, 4, 5, 6, 7, 8, 9, 10, 11, 12, 15, 18] (by kernel_rfl) ⟨rfl, rfl, rfl, rfl, rfl, rfl, rfl, rfl, rfl, rfl, rfl, rfl, rfl, rfl, rfl, trivial⟩⟩
        trivial) ?_
      refine all_cons (by
        refine ⟨?_, ?_⟩
        ·rintro ⟨a53, c54⟩ ρ σm hJ hoff hdep
         have e38 : look 53 ρ 38 = (.agg #[(Sl Bh Bg.1 Bi), (Sl Bj Bg.2 Bk)]) := hdep 6 rfl rfl 38 rfl
         have e45 : look 53 ρ 45 = (I r47) := hdep 13 rfl rfl 45 rfl
         obtain ⟨H, m⟩ := id hJ
         refine dp_cx wn (cx_call hc52 (ent_f hc52.fn (by show [look 53 ρ 38, look 53 ρ 45] = _; rw [e38, e45])) hn0 (H.sel' [3, 4, 0, 1, 2, 3, 4, 5, 6] rfl rfl : Hp S0 σ0 _ ([_, _] ++ _))) ?_
         rintro _ σq ⟨_, ⟨a53x, c54x, rfl, rfl⟩, H2, m2⟩
         obtain ⟨σr0, hwr0, H2, mr0⟩ := H2.pubSc 0 rfl
         exact ⟨_, (a53x, c54x), hwr0, rfl, ⟨H2.sel' [0, 1, 2, 3, 4, 5, 6, 7] rfl rfl, m.comp (m2.comp mr0)⟩, stab [0, 1, 2, 3, 4, 5, 6, 7, 8, 9, 10, 11, 12, 13, 15, 18] (by kernel_rfl) ⟨rfl, rfl, rfl, rfl, rfl, rfl, rfl, rfl, rfl, rfl, rfl, rfl, rfl, rfl, rfl, rfl, trivial⟩⟩
        trivial) ?_
      refine ac rfl (by
        intro k; rintro ⟨a53, c54⟩ ρ σm hJ hoff hdep
        have e2 := look_off (N := 53) (hoff 2 rfl) rfl
        exact dp_v (v := (Sl Bu Bt Bv)) wn (rv_move e2) rfl hJ) ?_
      refine all_cons (by
        refine ⟨?_, ?_⟩
        ·rintro ⟨a53, c54⟩ ρ σm hJ hoff hdep
         have e46 : look 53 ρ 46 = (Sl a53 r50 c54) := hdep 14 rfl rfl 46 rfl
         have e47 : look 53 ρ 47 = (Sl Bu Bt Bv) := hdep 15 rfl rfl 47 rfl
         obtain ⟨H, m⟩ := id hJ
         refine dp_cx wn (cx_call (hc57 a53 c54) (ent_f (hc57 a53 c54).fn (by show [(I 3), look 53 ρ 46, look 53 ρ 47] = _; rw [e46, e47])) hn0 (H.sel' [0, 3, 0, 1, 2, 3, 4, 5, 6, 7] rfl rfl : Hp S0 σ0 _ ([_, _] ++ _))) ?_
         rintro _ σq ⟨_, ⟨rfl, rfl⟩, H2, m2⟩
         exact ⟨_, (a53, c54), rfl, rfl, ⟨H2.sel' [0, 1, 2, 3, 4, 5, 6, 7] rfl rfl, m.comp0 (m2.mono (fun i h => by simp [cov, Ch.ro] at h))⟩, stab [0, 1, 2, 3, 4, 5, 6, 7, 8, 9, 10, 11, 12, 13, 14, 15, 18] (by kernel_rfl) ⟨rfl, rfl, rfl, rfl, rfl, rfl, rfl, rfl, rfl, rfl, rfl, rfl, rfl, rfl, rfl, rfl, rfl, trivial⟩⟩
        trivial) ?_
      refine ac rfl (by
        intro k; rintro ⟨a53, c54⟩ ρ σm hJ hoff hdep
        have e37 : look 53 ρ 37 = (I x29.1) := hdep 5 rfl rfl 37 rfl
        have e48 : look 53 ρ 48 = (I r55) := hdep 16 rfl rfl 48 rfl
        exact dp_v (v := (.agg #[(I x29.1), (I r55)])) wn (rv_build (ps := [(0, (I x29.1)), (1, (I r55))]) Tryz.underlying67 ti67 (bp67 Tryz.underlying67) (by show [(0, look 53 ρ 37), (1, look 53 ρ 48)] = _; rw [e37, e48]) (by kernel_rfl)) rfl hJ) ?_
      refine ac rfl (by
        intro k; rintro ⟨a53, c54⟩ ρ σm hJ hoff hdep
        have e3 := look_off (N := 53) (hoff 3 rfl) rfl
        exact dp_v (v := (I Cp)) wn (rv_move e3) rfl hJ) ?_
      exact all_nil
     ·rintro ⟨a53, c54⟩ ρ σ58 hJ hoff hrel
      have e1 := look_off (N := 53) (hoff 1 rfl) rfl
      have e2 := look_off (N := 53) (hoff 2 rfl) rfl
      have e3 := look_off (N := 53) (hoff 3 rfl) rfl
      have e4 := look_off (N := 53) (hoff 4 rfl) rfl
      have e10 := look_off (N := 53) (hoff 10 rfl) rfl
      have e32 := hrel 0 rfl 32 rfl
      have e49 := hrel 17 rfl 49 rfl
      have e50 := hrel 18 rfl 50 rfl
      obtain ⟨H, -⟩ := (show Hp S0 σ0 σ58 [Ch.ro 0 (Sl a53 r50 c54) r50, Ch.ro 0 (Sl a42 x37.2.1 c43) x37.2.1, Ch.ro 0 (Sl Cq Cn Cr) Cn, Ch.ro 0 (Sl Bu Bt Bv) Bt, Ch.ro 0 (Sl Bh Bg.1 Bi) Bg.1, Ch.ro 0 (Sl Bj Bg.2 Bk) Bg.2, Ch.bx n0 b1 0 [(Sl Bh Bg.1 Bi), (Sl Bj Bg.2 Bk)] [] [], Ch.own n0 n0 (Sl a26 s24.1 c27) s24.1] ∧ Md (fun i => (cov []) i ∨ (fun i => (cov [Ch.ro 0 (Sl Bh Bg.1 Bi) Bg.1, Ch.ro 0 (Sl Bj Bg.2 Bk) Bg.2]) i ∨ (fun b => blk (Sl a53 r50 c54) = some b) i) i) σ25 σ58 from hJ)
      clear hJ Hs
      rw [fr_lookL (L := [(1, (Sl Cq Cn Cr)), (2, (Sl Bu Bt Bv)), (3, (I Cp)), (4, (pt b1 0)), (10, (I s24.2)), (32, (Sl a26 s24.1 c27)), (49, (.agg #[(I x29.1), (I r55)])), (50, (I Cp))]) ⟨e1, e2, e3, e4, e10, e32, e49, e50, trivial⟩]
      clear hoff hrel e1 e2 e3 e4 e10 e32 e49 e50
      obtain ⟨σ59, hw60, H, -⟩ := H.pub 7 rfl (Nat.le_refl _)
      rw [← hw60]; clear hw60
      replace H := H.roLow 0 0 rfl (Nat.zero_le _)
      revert h; refine br fun r61 hx62 h => ?_
      have hc63 := c_spec_addHit (Be := a26) (Bf := c27) hx62
      refine st_call (cx_call hc63 (ent_f hc63.fn rfl) hn0 (H.sel' [0, 0, 1, 2, 3, 4, 5, 6, 7, 8] rfl rfl : Hp S0 σ0 _ ([_] ++ _))) wn ?_
      rintro _ σ66 ⟨_, ⟨a64, c65, rfl, rfl⟩, H, -⟩
      replace H : Hp _ _ _ [_, _, _, _, _, _, _, _, _, _] := H
      replace H : Hp S0 σ0 σ66 [Ch.own n0 n0 (Sl a64 r61 c65) r61, Ch.ro 0 (Sl Cq Cn Cr) Cn, Ch.ro 0 (Sl Bu Bt Bv) Bt, Ch.ro 0 (Sl Bh Bg.1 Bi) Bg.1, Ch.ro 0 (Sl Bj Bg.2 Bk) Bg.2, Ch.bx n0 b1 0 [(Sl Bh Bg.1 Bi), (Sl Bj Bg.2 Bk)] [] []] := H.sel' [0, 5, 6, 7, 8, 9] rfl rfl
      refine sa (Sl a64 r61 c65) rfl (w_end (q_blk (q_then (rg (sm (I s24.2) rfl (st (v := (I (w64 (s24.2 + 1)))) (rv_add (a := s24.2) (b := 1) rfl rfl) (sa (I (w64 (s24.2 + 1))) rfl (w_end (q_then ?_)))))))))
      obtain rfl := sj h
      exact ⟨_, rfl, _, σ66, a64, c65, fr_join ⟨rfl, rfl, rfl, rfl, rfl, rfl, trivial⟩, rfl, H.sel' [1, 2, 3, 4, 5, 0] rfl rfl⟩
    ·replace h := bif_f hb28 h
     refine c_exit (q_then_x (q_then_x (q_blk_hit ?_)))
     obtain rfl := sj h
     obtain rfl := hres _ rfl
     exact ⟨rfl, _, σ25, a26, c27, fr_join ⟨rfl, trivial⟩, rfl, H.sel' [5] rfl rfl⟩
   ·clear hj
    have h := h'
    clear h' H
    rintro e a w ⟨rfl, ρ, σ67, a68, c69, rfl, rfl, H⟩
    refine q_then (c_seq (rg (sm (Sl a68 o23 c69) rfl (sa (Sl a68 o23 c69) rfl (w_end (q_then (c_ret ?_)))))))
    obtain rfl := sj h
    exact fin_ret (v := (Sl a68 o23 c69)) (results_ok Tryz.results9 (res_tmp (v := (Sl a68 o23 c69)) rfl res_nil) rfl) ⟨a68, c69, rfl, rfl⟩ (H.sel' [0] rfl rfl)

theorem c_spec_keyAt {Bd : List (Int × (List Int) × Int)} {Cs : Int} {Be : Option Addr} {Bf : Nat} {r : Int} (h : M.spec_keyAt Bd Cs = some r) :
    Cal2 Tryz.prog 51 [(Sl Be Bd Bf), (I Cs)] [Ch.ro 0 (Sl Be Bd Bf) Bd] (fun n0 v L => v = (I r) ∧ L = []) := by
 refine cal2 (n := 20) Tryz.func51 rfl rfl rfl rfl ?_
 intro S0 σ0 n0 hn0 H
 unfold M.spec_keyAt at h
 refine c_seq (rg (sa (I 0) rfl (w_end (q_then (c_seq (c_seq (rg (sa (I 0) rfl (w_end (q_then ?_))))))))))
 obtain ⟨o1, hj, h'⟩ := bind_some h
 clear h
 refine c_cut (fun e a w => (∃ t, o1 = (.inl t) ∧ e = .normal ∧ ∃ (ρ : Nat → Value) (σ : St), a = fr 20 (updL ρ []) ∧ w = σ.w ∧ Hp S0 σ0 σ []) ∨ (∃ t, o1 = (.inr t) ∧ e = .ret ∧ ∃ (ρ : Nat → Value) (σ : St), a = fr 20 (updL ρ [(4, (I t))]) ∧ w = σ.w ∧ Hp S0 σ0 σ [])) ?_ ?_
 ·clear h'
  rename _ = some o1 => h
  refine c_blk (wp_loopM _ h (fun s2 a w => ∃ (ρ : Nat → Value) (σ : St), a = fr 20 (updL ρ [(0, (Sl Be Bd Bf)), (1, (I Cs)), (5, (I s2))]) ∧ w = σ.w ∧ Hp S0 σ0 σ [Ch.ro 0 (Sl Be Bd Bf) Bd]) ⟨_, σ0, fr_join ⟨rfl, rfl, rfl, trivial⟩, rfl, H.sel' [0] rfl rfl⟩ ?_)
  clear h H
  rintro s2 a w o ⟨ρ, σ3, rfl, rfl, H⟩ h hres
  refine c_seq (c_seq (rg (sm (I s2) rfl (sm (Sl Be Bd Bf) rfl (st (v := (I (Bd.length : Int))) (rv_len Tryz.underlying33 rfl) (st (v := (B (decide (s2 < (Bd.length : Int))))) (rv_lss (a := s2) (b := (Bd.length : Int)) rfl rfl) (w_end (q_then ?_))))))))
  refine cd_cond (decide (s2 < (Bd.length : Int))) rfl (fun hb4 => ?_) (fun hb4 => ?_)
  ·replace h := bif_t hb4 h
   refine c_skip (q_then (c_seq (c_blk (c_seq (rg (sm (Sl Be Bd Bf) rfl (sm (I s2) rfl ?_)))))))
   revert h; refine br fun x5 hx6 h => ?_
   obtain ⟨b8, o9, hi7, -⟩ := (H.ro 0 rfl).ix hx6
   refine st (v := (pt b8 o9)) (rv_ix Tryz.underlying33 ti62 rfl rfl hi7) (st (v := (pt b8 (o9 + 0))) (rv_fieldAddr (off := 0) (ft := 3) Tryz.underlying62 rfl ti3 rfl rfl) ?_)
   have hc10 := ((H.ro 0 rfl).at hx6 hi7).fst.int
   refine st (v := (I x5.1)) (rv_load1 Tryz.underlying3 rfl rfl hc10) (sm (I Cs) rfl (st (v := (B (x5.1 == Cs))) (rv_eql (a := x5.1) (b := Cs) rfl rfl) (w_end (q_then ?_))))
   refine cd_cond (x5.1 == Cs) rfl (fun hb11 => ?_) (fun hb11 => ?_)
   ·replace h := bif_t hb11 h
    refine c_seq (rg (sm (I s2) rfl (sa (I s2) rfl (w_end (q_then (c_ret (q_blk_r (q_then_r (q_then_r (q_blk_r ?_))))))))))
    obtain rfl := sj h
    obtain rfl := hres _ rfl
    exact .inr (⟨_, rfl, rfl, _, σ3, fr_join ⟨rfl, trivial⟩, rfl, H.sel' [] rfl rfl⟩)
   ·replace h := bif_f hb11 h
    refine c_skip (q_blk (q_then (rg (sm (I s2) rfl (st (v := (I (w64 (s2 + 1)))) (rv_add (a := s2) (b := 1) rfl rfl) (sa (I (w64 (s2 + 1))) rfl (w_end (q_then ?_))))))))
    obtain rfl := sj h
    exact ⟨_, rfl, _, σ3, fr_join ⟨rfl, rfl, rfl, trivial⟩, rfl, H.sel' [0] rfl rfl⟩
  ·replace h := bif_f hb4 h
   refine c_exit (q_then_x (q_then_x (q_blk_hit ?_)))
   obtain rfl := sj h
   obtain rfl := hres _ rfl
   exact .inl ⟨_, rfl, rfl, _, σ3, fr_join trivial, rfl, H.sel' [] rfl rfl⟩
 ·clear hj
  have h := h'
  clear h' H
  rintro e a w (⟨t12, rfl, rfl, ρ, σ13, rfl, rfl, H⟩ | ⟨t14, rfl, rfl, ρ, σ15, rfl, rfl, H⟩)
  ·replace h := selim_l h
   refine q_then (c_seq (rg (sa (I (-1)) rfl (w_end (q_then (c_ret ?_))))))
   obtain rfl := sj h
   exact fin_ret (v := (I (-1))) (results_ok Tryz.results51 (res_tmp (v := (I (-1))) rfl res_nil) rfl) ⟨rfl, rfl⟩ (H.sel' [] rfl rfl)
  ·replace h := selim_r h
   refine q_then_r ?_
   obtain rfl := sj h
   exact fin_ret (v := (I t14)) (results_ok Tryz.results51 (res_tmp (v := (I t14)) rfl res_nil) rfl) ⟨rfl, rfl⟩ (H.sel' [] rfl rfl)

theorem c_spec_nearest {Bd : List (Int × (List Int) × Int)} {Bs : Int} {Bt : List Int} {Cp : Int} {Be : Option Addr} {Bf : Nat} {Bu : Option Addr} {Bv : Nat} {r : (List (Int × Int))} (h : M.spec_nearest Bd Bs Bt Cp = some r) :
    Cal2 Tryz.prog 52 [(Sl Be Bd Bf), (I Bs), (Sl Bu Bt Bv), (I Cp)] [Ch.ro 0 (Sl Be Bd Bf) Bd, Ch.ro 0 (Sl Bu Bt Bv) Bt] (fun n0 v L => ∃ (az1 : Option Addr), ∃ (cz2 : Nat), v = (Sl az1 r cz2) ∧ L = [Ch.own n0 n0 (Sl az1 r cz2) r]) := by
 refine cal2 (n := 36) Tryz.func52 rfl rfl rfl rfl ?_
 intro S0 σ0 n0 hn0 H
 unfold M.spec_nearest at h
 refine c_seq (rg (sa (.slice none 0 0) rfl (w_end (q_then (c_seq (rg ?_))))))
 refine st_ex (ex_buildSlice (el := n0) (xs := ([] : List (Int × Int))) (ps := []) (cs := []) H hn0 Tryz.underlying29 ti67 rfl rfl (by kernel_rfl) (.nil) rfl) wn ?_
 rintro _ σ2 ⟨b1, rfl, H, -⟩
 refine sa (Sl (some ⟨b1, 0, none⟩) ([] : List (Int × Int)) 0) rfl (w_end (q_then (c_seq (c_seq (rg (sa (I 0) rfl (w_end (q_then ?_))))))))
 obtain ⟨o3, hj, h'⟩ := bind_some h
 clear h
 refine c_cut (fun e a w => e = .normal ∧ ∃ (ρ : Nat → Value) (σ : St) (aj1 : Option Addr) (cj2 : Nat), a = fr 36 (updL ρ [(9, (Sl aj1 o3 cj2))]) ∧ w = σ.w ∧ Hp S0 σ0 σ [Ch.own n0 n0 (Sl aj1 o3 cj2) o3]) ?_ ?_
 ·clear h'
  rename _ = some o3 => h
  refine c_blk (wp_loopM _ h (fun s4 a w => ∃ (ρ : Nat → Value) (σ : St) (aj1 : Option Addr) (cj2 : Nat), a = fr 36 (updL ρ [(0, (Sl Be Bd Bf)), (1, (I Bs)), (2, (Sl Bu Bt Bv)), (3, (I Cp)), (9, (Sl aj1 s4.1 cj2)), (10, (I s4.2))]) ∧ w = σ.w ∧ Hp S0 σ0 σ [Ch.ro 0 (Sl Be Bd Bf) Bd, Ch.ro 0 (Sl Bu Bt Bv) Bt, Ch.own n0 n0 (Sl aj1 s4.1 cj2) s4.1]) ⟨_, σ2, (some ⟨b1, 0, none⟩), 0, fr_join ⟨rfl, rfl, rfl, rfl, rfl, rfl, trivial⟩, rfl, H.sel' [1, 2, 0] rfl rfl⟩ ?_)
  clear h H
  rintro s4 a w o ⟨ρ, σ5, a6, c7, rfl, rfl, H⟩ h hres
  refine c_seq (c_seq (rg (sm (I s4.2) rfl (sm (Sl Be Bd Bf) rfl (st (v := (I (Bd.length : Int))) (rv_len Tryz.underlying33 rfl) (st (v := (B (decide (s4.2 < (Bd.length : Int))))) (rv_lss (a := s4.2) (b := (Bd.length : Int)) rfl rfl) (w_end (q_then ?_))))))))
  refine cd_cond (decide (s4.2 < (Bd.length : Int))) rfl (fun hb8 => ?_) (fun hb8 => ?_)
  ·replace h := bif_t hb8 h
   refine c_skip (q_then (c_seq (c_blk ?_)))
   revert h; refine br fun x9 hx10 h => ?_
   obtain ⟨b12, o13, hi11, -⟩ := (H.ro 0 rfl).ix hx10
   have hc14 := ((H.ro 0 rfl).at hx10 hi11).fst.int
   revert h; refine br fun x15 hx16 h => ?_
   obtain ⟨b18, o19, hi17, -⟩ := (H.ro 0 rfl).ix hx16
   obtain ⟨v23, hc24, hR22⟩ := ((H.ro 0 rfl).at hx16 hi17).snd.fst.slice
   obtain ⟨a20, c21, rfl⟩ := hR22.isSl
   replace H := H.add (d := Ch.ro 0 (Sl a20 x15.2.1 c21) x15.2.1) hR22 (fun _ h => h)
   clear hR22
   revert h; refine br fun r25 hx26 h => ?_
   have hc27 := c_spec_dist (Cb := a20) (Cc := c21) (Cd := Bu) (Ce := Bv) hx26
   have Hs := H
   refine rg2 (σ := σ5) (Nm := Unit) 16 [13] [[false], [true]] [[(0, 0), (1, 1)], [(0, 0), (1, 1)], [(0, 0), (1, 1)], [(0, 0), (1, 1)], [(0, 0), (1, 1)], [(0, 0), (1, 1)], [(0, 0)], [(0, 0)], [(0, 0)], [(0, 0)], [(0, 0)], [(0, 0)], [(0, 0)], [(0, 1)], [(1, 1)], [(0, 0), (1, 1)]] 1 [fun _ => fun σm => Hp S0 σ0 σm [Ch.ro 0 (Sl a20 x15.2.1 c21) x15.2.1, Ch.ro 0 (Sl Be Bd Bf) Bd, Ch.ro 0 (Sl Bu Bt Bv) Bt, Ch.own n0 n0 (Sl a6 s4.1 c7) s4.1] ∧ Md (cov []) σ5 σm, fun _ => fun σm => Hp S0 σ0 σm [Ch.ro 0 (Sl a20 x15.2.1 c21) x15.2.1, Ch.ro 0 (Sl Be Bd Bf) Bd, Ch.ro 0 (Sl Bu Bt Bv) Bt, Ch.own n0 n0 (Sl a6 s4.1 c7) s4.1] ∧ Md (cov []) σ5 σm] [fun _ => (Sl a6 s4.1 c7), fun _ => (Sl Be Bd Bf), fun _ => (I s4.2), fun _ => (pt b12 o13), fun _ => (pt b12 (o13 + 0)), fun _ => (I x9.1), fun _ => (I Bs), fun _ => (Sl Be Bd Bf), fun _ => (I s4.2), fun _ => (pt b18 o19), fun _ => (pt b18 (o19 + 1)), fun _ => (Sl a20 x15.2.1 c21), fun _ => (Sl Bu Bt Bv), fun _ => (I r25), fun _ => (.agg #[(I x9.1), (I r25)]), fun _ => (I Cp)] () (by kernel_rfl) (by kernel_rfl) ?_ ?_ ?_
   ·intro σm m0
    exact ⟨H.grow (m0.mono fun _ h => h.elim), m0⟩
   ·refine ac rfl (by
      intro k _nm ρ σm hJ hoff hdep
      have e9 := look_off (N := 36) (hoff 9 rfl) rfl
      exact dp_v (v := (Sl a6 s4.1 c7)) wn (rv_move e9) rfl hJ) ?_
    refine ac rfl (by
      intro k _nm ρ σm hJ hoff hdep
      have e0 := look_off (N := 36) (hoff 0 rfl) rfl
      exact dp_v (v := (Sl Be Bd Bf)) wn (rv_move e0) rfl hJ) ?_
    refine ac rfl (by
      intro k _nm ρ σm hJ hoff hdep
      have e10 := look_off (N := 36) (hoff 10 rfl) rfl
      exact dp_v (v := (I s4.2)) wn (rv_move e10) rfl hJ) ?_
    refine ac rfl (by
      intro k _nm ρ σm hJ hoff hdep
      have e19 := hdep 1 rfl rfl 19 rfl
      have e20 := hdep 2 rfl rfl 20 rfl
      exact dp_v (v := (pt b12 o13)) wn (rv_ix Tryz.underlying33 ti62 e19 e20 hi11) rfl hJ) ?_
    refine ac rfl (by
      intro k _nm ρ σm hJ hoff hdep
      have e21 := hdep 3 rfl rfl 21 rfl
      exact dp_v (v := (pt b12 (o13 + 0))) wn (rv_fieldAddr (off := 0) (ft := 3) Tryz.underlying62 rfl ti3 rfl e21) rfl hJ) ?_
    refine all_cons (by
      refine ⟨?_, ?_⟩
      ·intro _nm ρ σm hJ hoff hdep
       have e22 := hdep 4 rfl rfl 22 rfl
       obtain ⟨H, m⟩ := id hJ
       replace hc14 := (Hs.ro 1 rfl).hmd hx10 hi11 (k := 0) (by decide) hc14 m
       exact dp_v (v := (I x9.1)) wn (rv_load1 Tryz.underlying3 rfl e22 hc14) rfl hJ
      refine ⟨?_, ?_⟩
      ·intro _nm ρ σm hJ hoff hdep
       have e22 := hdep 4 rfl rfl 22 rfl
       obtain ⟨H, m⟩ := id hJ
       replace hc14 := (Hs.ro 1 rfl).hmd hx10 hi11 (k := 0) (by decide) hc14 m
       exact dp_v (v := (I x9.1)) wn (rv_load1 Tryz.underlying3 rfl e22 hc14) rfl hJ
      trivial) ?_
    refine ac rfl (by
      intro k _nm ρ σm hJ hoff hdep
      have e1 := look_off (N := 36) (hoff 1 rfl) rfl
      exact dp_v (v := (I Bs)) wn (rv_move e1) rfl hJ) ?_
    refine ac rfl (by
      intro k _nm ρ σm hJ hoff hdep
      have e0 := look_off (N := 36) (hoff 0 rfl) rfl
      exact dp_v (v := (Sl Be Bd Bf)) wn (rv_move e0) rfl hJ) ?_
    refine ac rfl (by
      intro k _nm ρ σm hJ hoff hdep
      have e10 := look_off (N := 36) (hoff 10 rfl) rfl
      exact dp_v (v := (I s4.2)) wn (rv_move e10) rfl hJ) ?_
    refine ac rfl (by
      intro k _nm ρ σm hJ hoff hdep
      have e25 := hdep 7 rfl rfl 25 rfl
      have e26 := hdep 8 rfl rfl 26 rfl
      exact dp_v (v := (pt b18 o19)) wn (rv_ix Tryz.underlying33 ti62 e25 e26 hi17) rfl hJ) ?_
    refine ac rfl (by
      intro k _nm ρ σm hJ hoff hdep
      have e27 := hdep 9 rfl rfl 27 rfl
      exact dp_v (v := (pt b18 (o19 + 1))) wn (rv_fieldAddr (off := 1) (ft := 26) Tryz.underlying62 rfl ti26 rfl e27) rfl hJ) ?_
    refine all_cons (by
      refine ⟨?_, ?_⟩
      ·intro _nm ρ σm hJ hoff hdep
       have e28 := hdep 10 rfl rfl 28 rfl
       obtain ⟨H, m⟩ := id hJ
       replace hc24 := (Hs.ro 1 rfl).hmd hx16 hi17 (k := 1) (by decide) hc24 m
       exact dp_v (v := (Sl a20 x15.2.1 c21)) wn (rv_load1 Tryz.underlying26 rfl e28 hc24) rfl hJ
      trivial) ?_
    refine ac rfl (by
      intro k _nm ρ σm hJ hoff hdep
      have e2 := look_off (N := 36) (hoff 2 rfl) rfl
      exact dp_v (v := (Sl Bu Bt Bv)) wn (rv_move e2) rfl hJ) ?_
    refine all_cons (by
      refine ⟨?_, ?_⟩
      ·intro _nm ρ σm hJ hoff hdep
       have e24 : look 36 ρ 24 = (I Bs) := hdep 6 rfl rfl 24 rfl
       have e29 : look 36 ρ 29 = (Sl a20 x15.2.1 c21) := hdep 11 rfl rfl 29 rfl
       have e30 : look 36 ρ 30 = (Sl Bu Bt Bv) := hdep 12 rfl rfl 30 rfl
       obtain ⟨H, m⟩ := id hJ
       refine dp_cx wn (cx_call hc27 (ent_f hc27.fn (by show [look 36 ρ 24, look 36 ρ 29, look 36 ρ 30] = _; rw [e24, e29, e30])) hn0 (H.sel' [0, 2, 0, 1, 2, 3] rfl rfl : Hp S0 σ0 _ ([_, _] ++ _))) ?_
       rintro _ σq ⟨_, ⟨rfl, rfl⟩, H2, m2⟩
       exact ⟨_, (), rfl, rfl, ⟨H2.sel' [0, 1, 2, 3] rfl rfl, m.comp0 (m2.mono (fun i h => by simp [cov, Ch.ro] at h))⟩, stab [0, 1, 2, 3, 4, 5, 6, 7, 8, 9, 10, 11, 12, 15] (by kernel_rfl) ⟨rfl, rfl, rfl, rfl, rfl, rfl, rfl, rfl, rfl, rfl, rfl, rfl, rfl, rfl, trivial⟩⟩
      trivial) ?_
    refine ac rfl (by
      intro k _nm ρ σm hJ hoff hdep
      have e23 : look 36 ρ 23 = (I x9.1) := hdep 5 rfl rfl 23 rfl
      have e31 : look 36 ρ 31 = (I r25) := hdep 13 rfl rfl 31 rfl
      exact dp_v (v := (.agg #[(I x9.1), (I r25)])) wn (rv_build (ps := [(0, (I x9.1)), (1, (I r25))]) Tryz.underlying67 ti67 (bp67 Tryz.underlying67) (by show [(0, look 36 ρ 23), (1, look 36 ρ 31)] = _; rw [e23, e31]) (by kernel_rfl)) rfl hJ) ?_
    refine ac rfl (by
      intro k _nm ρ σm hJ hoff hdep
      have e3 := look_off (N := 36) (hoff 3 rfl) rfl
      exact dp_v (v := (I Cp)) wn (rv_move e3) rfl hJ) ?_
    exact all_nil
   ·intro _nm ρ σ28 hJ hoff hrel
    have e0 := look_off (N := 36) (hoff 0 rfl) rfl
    have e1 := look_off (N := 36) (hoff 1 rfl) rfl
    have e2 := look_off (N := 36) (hoff 2 rfl) rfl
    have e3 := look_off (N := 36) (hoff 3 rfl) rfl
    have e10 := look_off (N := 36) (hoff 10 rfl) rfl
    have e18 := hrel 0 rfl 18 rfl
    have e32 := hrel 14 rfl 32 rfl
    have e33 := hrel 15 rfl 33 rfl
    obtain ⟨H, -⟩ := (show Hp S0 σ0 σ28 [Ch.ro 0 (Sl a20 x15.2.1 c21) x15.2.1, Ch.ro 0 (Sl Be Bd Bf) Bd, Ch.ro 0 (Sl Bu Bt Bv) Bt, Ch.own n0 n0 (Sl a6 s4.1 c7) s4.1] ∧ Md (cov []) σ5 σ28 from hJ)
    clear hJ Hs
    rw [fr_lookL (L := [(0, (Sl Be Bd Bf)), (1, (I Bs)), (2, (Sl Bu Bt Bv)), (3, (I Cp)), (10, (I s4.2)), (18, (Sl a6 s4.1 c7)), (32, (.agg #[(I x9.1), (I r25)])), (33, (I Cp))]) ⟨e0, e1, e2, e3, e10, e18, e32, e33, trivial⟩]
    clear hoff hrel e0 e1 e2 e3 e10 e18 e32 e33
    obtain ⟨σ29, hw30, H, -⟩ := H.pub 3 rfl (Nat.le_refl _)
    rw [← hw30]; clear hw30
    replace H := H.roLow 0 0 rfl (Nat.zero_le _)
    revert h; refine br fun r31 hx32 h => ?_
    have hc33 := c_spec_addHit (Be := a6) (Bf := c7) hx32
    refine st_call (cx_call hc33 (ent_f hc33.fn rfl) hn0 (H.sel' [0, 0, 1, 2, 3, 4] rfl rfl : Hp S0 σ0 _ ([_] ++ _))) wn ?_
    rintro _ σ36 ⟨_, ⟨a34, c35, rfl, rfl⟩, H, -⟩
    replace H : Hp _ _ _ [_, _, _, _, _, _] := H
    refine sa (Sl a34 r31 c35) rfl (w_end (q_blk (q_then (rg (sm (I s4.2) rfl (st (v := (I (w64 (s4.2 + 1)))) (rv_add (a := s4.2) (b := 1) rfl rfl) (sa (I (w64 (s4.2 + 1))) rfl (w_end (q_then ?_)))))))))
    obtain rfl := sj h
    exact ⟨_, rfl, _, σ36, a34, c35, fr_join ⟨rfl, rfl, rfl, rfl, rfl, rfl, trivial⟩, rfl, H.sel' [4, 5, 0] rfl rfl⟩
  ·replace h := bif_f hb8 h
   refine c_exit (q_then_x (q_then_x (q_blk_hit ?_)))
   obtain rfl := sj h
   obtain rfl := hres _ rfl
   exact ⟨rfl, _, σ5, a6, c7, fr_join ⟨rfl, trivial⟩, rfl, H.sel' [2] rfl rfl⟩
 ·clear hj
  have h := h'
  clear h' H
  rintro e a w ⟨rfl, ρ, σ37, a38, c39, rfl, rfl, H⟩
  refine q_then (c_seq (rg (sm (Sl a38 o3 c39) rfl (sa (Sl a38 o3 c39) rfl (w_end (q_then (c_ret ?_)))))))
  obtain rfl := sj h
  exact fin_ret (v := (Sl a38 o3 c39)) (results_ok Tryz.results52 (res_tmp (v := (Sl a38 o3 c39)) rfl res_nil) rfl) ⟨a38, c39, rfl, rfl⟩ (H.sel' [0] rfl rfl)

theorem c_spec_RerankNearest {Bg : (List (List Int)) × (List (List Int))} {Cn : List (Int × (List Int) × Int)} {Bt : List Int} {Ct : Int} {Cu : Int} {Bh : Option Addr} {Bi : Nat} {Bj : Option Addr} {Bk : Nat} {Cq : Option Addr} {Cr : Nat} {Bu : Option Addr} {Bv : Nat} {r : (List (Int × Int))} (h : M.spec_RerankNearest Bg Cn Bt Ct Cu = some r) :
    Cal2 Tryz.prog 23 [(.agg #[(Sl Bh Bg.1 Bi), (Sl Bj Bg.2 Bk)]), (Sl Cq Cn Cr), (Sl Bu Bt Bv), (I Ct), (I Cu)] [Ch.ro 0 (Sl Bh Bg.1 Bi) Bg.1, Ch.ro 0 (Sl Bj Bg.2 Bk) Bg.2, Ch.ro 0 (Sl Cq Cn Cr) Cn, Ch.ro 0 (Sl Bu Bt Bv) Bt] (fun n0 v L => ∃ (az1 : Option Addr), ∃ (cz2 : Nat), v = (Sl az1 r cz2) ∧ L = [Ch.own n0 n0 (Sl az1 r cz2) r]) := by
 refine cal2 (n := 62) Tryz.func23 rfl rfl rfl rfl ?_
 intro S0 σ0 n0 hn0 H
 unfold M.spec_RerankNearest at h
 refine c_seq (rg (st_ex (ex_box (cs := [(Sl Bh Bg.1 Bi), (Sl Bj Bg.2 Bk)]) H hn0 rfl rfl) wn ?_))
 rintro _ σ2 ⟨b1, rfl, H, -⟩
 refine sa (.slice none 0 0) rfl (w_end (q_then (c_seq (c_seq ?_))))
 obtain ⟨o3, hj, h'⟩ := bind_some h
 clear h
 refine c_cut (fun e a w => e = .normal ∧ ∃ (ρ : Nat → Value) (σ : St), a = fr 62 (updL ρ [(1, (Sl Cq Cn Cr)), (2, (Sl Bu Bt Bv)), (3, (I Ct)), (4, (I Cu)), (5, (pt b1 0)), (32, (B o3))]) ∧ w = σ.w ∧ Hp S0 σ0 σ [Ch.ro 0 (Sl Cq Cn Cr) Cn, Ch.ro 0 (Sl Bu Bt Bv) Bt, Ch.ro 0 (Sl Bh Bg.1 Bi) Bg.1, Ch.ro 0 (Sl Bj Bg.2 Bk) Bg.2, Ch.bx n0 b1 0 [(Sl Bh Bg.1 Bi), (Sl Bj Bg.2 Bk)] [] []]) ?_ ?_
 ·clear h'
  rename _ = some o3 => h
  refine rg (sm (I Cu) rfl ?_)
  revert h; refine br fun r4 hx5 h => ?_
  have hc6 := c_spec_inRange hx5
  refine st_call (cx_call hc6 (ent_f hc6.fn rfl) hn0 (H.sel' [0, 1, 2, 3, 4] rfl rfl : Hp S0 σ0 _ ([] ++ _))) wn ?_
  rintro _ σ7 ⟨_, ⟨rfl, rfl⟩, H, -⟩
  replace H : Hp _ _ _ [_, _, _, _, _] := H
  refine st (v := (B (!r4))) (rv_not rfl) (sm (B (!r4)) rfl ?_)
  rcases Bool.eq_false_or_eq_true (!r4) with hb8 | hb8
  ·replace h := bif_t hb8 h
   refine st_skip (congrArg some hb8) (st_skip (congrArg some hb8) (st_skip (congrArg some hb8) (st (v := (B true)) (rv_pick_t (congrArg B hb8) rfl) (sm (B true) rfl (st_skip rfl (st_skip rfl (st_skip rfl (st (v := (B true)) (rv_pick_t rfl rfl) (sm (B true) rfl (st_skip rfl (st_skip rfl ?_)))))))))))
   refine st_skip rfl (st_skip rfl (st (v := (B true)) (rv_pick_t rfl rfl) (w_end ?_)))
   obtain rfl := sj h
   exact ⟨rfl, _, σ7, fr_join ⟨rfl, rfl, rfl, rfl, rfl, rfl, trivial⟩, rfl, H.sel' [3, 4, 1, 2, 0] rfl rfl⟩
  ·replace h := bif_f hb8 h
   refine st_g (v := (I Ct)) (congrArg some hb8) (rv_move rfl) ?_
   revert h; refine br fun r9 hx10 h => ?_
   have hc11 := c_spec_inRange hx10
   refine st_call (cx_call hc11 (ent_f hc11.fn rfl) hn0 (H.sel' [0, 1, 2, 3, 4] rfl rfl : Hp S0 σ0 _ ([] ++ _))) (wanted_yes rfl (by exact (congrArg some hb8))) ?_
   rintro _ σ12 ⟨_, ⟨rfl, rfl⟩, H, -⟩
   replace H : Hp _ _ _ [_, _, _, _, _] := H
   refine st_g (v := (B (!r9))) (congrArg some hb8) (rv_not rfl) (st (v := (B (!r9))) (rv_pick_f (congrArg B hb8) rfl) (sm (B (!r9)) rfl ?_))
   rcases Bool.eq_false_or_eq_true (!r9) with hb13 | hb13
   ·replace h := bif_t hb13 h
    refine st_skip (congrArg some hb13) (st_skip (congrArg some hb13) (st_skip (congrArg some hb13) (st (v := (B true)) (rv_pick_t (congrArg B hb13) rfl) (sm (B true) rfl (st_skip rfl (st_skip rfl (st_skip rfl (st_skip rfl (st (v := (B true)) (rv_pick_t rfl rfl) (w_end ?_))))))))))
    obtain rfl := sj h
    exact ⟨rfl, _, σ12, fr_join ⟨rfl, rfl, rfl, rfl, rfl, rfl, trivial⟩, rfl, H.sel' [3, 4, 1, 2, 0] rfl rfl⟩
   ·replace h := bif_f hb13 h
    have hc14 := H.cells 0 rfl
    refine st_g (v := (.agg #[(Sl Bh Bg.1 Bi), (Sl Bj Bg.2 Bk)])) (congrArg some hb13) (rv_load (cs := [(Sl Bh Bg.1 Bi), (Sl Bj Bg.2 Bk)]) Tryz.underlying31 rfl ti31 rfl rfl hc14) ?_
    revert h; refine br fun r15 hx16 h => ?_
    have hc17 := c_spec_validBook (Bh := Bh) (Bi := Bi) (Bj := Bj) (Bk := Bk) hx16
    refine st_call (cx_call hc17 (ent_f hc17.fn rfl) hn0 (H.sel' [1, 2, 0, 1, 2, 3, 4] rfl rfl : Hp S0 σ0 _ ([_, _] ++ _))) (wanted_yes rfl (by exact (congrArg some hb13))) ?_
    rintro _ σ18 ⟨_, ⟨rfl, rfl⟩, H, -⟩
    replace H : Hp _ _ _ [_, _, _, _, _] := H
    refine st_g (v := (B (!r15))) (congrArg some hb13) (rv_not rfl) (st (v := (B (!r15))) (rv_pick_f (congrArg B hb13) rfl) (sm (B (!r15)) rfl ?_))
    rcases Bool.eq_false_or_eq_true (!r15) with hb19 | hb19
    ·replace h := bif_t hb19 h
     refine st_skip (congrArg some hb19) (st_skip (congrArg some hb19) (st_skip (congrArg some hb19) (st_skip (congrArg some hb19) (st (v := (B true)) (rv_pick_t (congrArg B hb19) rfl) (w_end ?_)))))
     obtain rfl := sj h
     exact ⟨rfl, _, σ18, fr_join ⟨rfl, rfl, rfl, rfl, rfl, rfl, trivial⟩, rfl, H.sel' [3, 4, 1, 2, 0] rfl rfl⟩
    ·replace h := bif_f hb19 h
     refine st_g (v := (Sl Cq Cn Cr)) (congrArg some hb19) (rv_move rfl) (st_g (v := (Sl Bu Bt Bv)) (congrArg some hb19) (rv_move rfl) ?_)
     revert h; refine br fun r20 hx21 h => ?_
     have hc22 := c_spec_validQuery (Be := Cq) (Bf := Cr) (Bu := Bu) (Bv := Bv) hx21
     refine st_call (cx_call hc22 (ent_f hc22.fn rfl) hn0 (H.sel' [3, 4, 0, 1, 2, 3, 4] rfl rfl : Hp S0 σ0 _ ([_, _] ++ _))) (wanted_yes rfl (by exact (congrArg some hb19))) ?_
     rintro _ σ23 ⟨_, ⟨rfl, rfl⟩, H, -⟩
     replace H : Hp _ _ _ [_, _, _, _, _] := H
     refine st_g (v := (B (!r20))) (congrArg some hb19) (rv_not rfl) (st (v := (B (!r20))) (rv_pick_f (congrArg B hb19) rfl) (w_end ?_))
     obtain rfl := sj h
     exact ⟨rfl, _, σ23, fr_join ⟨rfl, rfl, rfl, rfl, rfl, rfl, trivial⟩, rfl, H.sel' [3, 4, 1, 2, 0] rfl rfl⟩
 ·clear hj
  have h := h'
  clear h' H
  rintro e a w ⟨rfl, ρ, σ24, rfl, rfl, H⟩
  refine q_then ?_
  refine cd_cond o3 rfl (fun hb25 => ?_) (fun hb25 => ?_)
  ·replace h := bif_t hb25 h
   refine c_seq (rg (sa (.slice none 0 0) rfl (w_end (q_then (c_ret (q_then_r ?_))))))
   replace H := H.nilOwn (Int × Int) n0 n0
   obtain rfl := sj h
   exact fin_ret (v := (.slice none 0 0)) (results_ok Tryz.results23 (res_tmp (v := (.slice none 0 0)) rfl res_nil) rfl) ⟨none, 0, rfl, rfl⟩ (H.sel' [0] rfl rfl)
  ·replace h := bif_f hb25 h
   refine c_skip (q_then (c_seq (rg ?_)))
   refine st_ex (ex_buildSlice (el := n0) (xs := ([] : List (Int × (List Int) × Int))) (ps := []) (cs := []) H hn0 Tryz.underlying33 ti62 rfl rfl (by kernel_rfl) (.nil) rfl) wn ?_
   rintro _ σ27 ⟨b26, rfl, H, -⟩
   refine sa (Sl (some ⟨b26, 0, none⟩) ([] : List (Int × (List Int) × Int)) 0) rfl (w_end (q_then (c_seq (rg ?_))))
   have hc28 := H.cells 5 rfl
   refine st (v := (.agg #[(Sl Bh Bg.1 Bi), (Sl Bj Bg.2 Bk)])) (rv_load (cs := [(Sl Bh Bg.1 Bi), (Sl Bj Bg.2 Bk)]) Tryz.underlying31 rfl ti31 rfl rfl hc28) (sm (Sl Cq Cn Cr) rfl (sm (Sl Bu Bt Bv) rfl (sm (I Ct) rfl ?_)))
   revert h; refine br fun r29 hx30 h => ?_
   have hc31 := c_spec_CodeNearest (Bh := Bh) (Bi := Bi) (Bj := Bj) (Bk := Bk) (Cq := Cq) (Cr := Cr) (Bu := Bu) (Bv := Bv) hx30
   refine st_call (cx_call hc31 (ent_f hc31.fn rfl) hn0 (H.sel' [3, 4, 1, 2, 0, 1, 2, 3, 4, 5] rfl rfl : Hp S0 σ0 _ ([_, _, _, _] ++ _))) wn ?_
   rintro _ σ34 ⟨_, ⟨a32, c33, rfl, rfl⟩, H, -⟩
   replace H : Hp _ _ _ [_, _, _, _, _, _, _] := H
   refine sa (Sl a32 r29 c33) rfl (w_end (q_then (c_seq (c_seq (rg (sa (I 0) rfl (w_end (q_then ?_))))))))
   obtain ⟨o35, hj, h'⟩ := bind_some h
   clear h
   refine c_cut (fun e a w => e = .normal ∧ ∃ (ρ : Nat → Value) (σ : St) (aj1 : Option Addr) (cj2 : Nat), a = fr 62 (updL ρ [(2, (Sl Bu Bt Bv)), (4, (I Cu)), (11, (Sl aj1 o35 cj2))]) ∧ w = σ.w ∧ Hp S0 σ0 σ [Ch.ro 0 (Sl Bu Bt Bv) Bt, Ch.own n0 0 (Sl aj1 o35 cj2) o35]) ?_ ?_
   ·clear h'
    rename _ = some o35 => h
    refine c_blk ?_
    replace H := H.ownLow 1 n0 0 rfl (Nat.le_refl _) (Nat.zero_le _)
    refine wp_loopM _ h (fun s36 a w => ∃ (ρ : Nat → Value) (σ : St) (aj1 : Option Addr) (cj2 : Nat), a = fr 62 (updL ρ [(1, (Sl Cq Cn Cr)), (2, (Sl Bu Bt Bv)), (4, (I Cu)), (11, (Sl aj1 s36.1 cj2)), (12, (Sl a32 r29 c33)), (13, (I s36.2))]) ∧ w = σ.w ∧ Hp S0 σ0 σ [Ch.ro 0 (Sl Cq Cn Cr) Cn, Ch.ro 0 (Sl Bu Bt Bv) Bt, Ch.own n0 0 (Sl aj1 s36.1 cj2) s36.1, Ch.own n0 n0 (Sl a32 r29 c33) r29]) ⟨_, σ34, (some ⟨b26, 0, none⟩), 0, fr_join ⟨rfl, rfl, rfl, rfl, rfl, rfl, trivial⟩, rfl, H.sel' [2, 3, 0, 1] rfl rfl⟩ ?_
    clear h H
    rintro s36 a w o ⟨ρ, σ37, a38, c39, rfl, rfl, H⟩ h hres
    refine c_seq (c_seq (rg (sm (I s36.2) rfl (sm (Sl a32 r29 c33) rfl (st (v := (I (r29.length : Int))) (rv_len Tryz.underlying29 rfl) (st (v := (B (decide (s36.2 < (r29.length : Int))))) (rv_lss (a := s36.2) (b := (r29.length : Int)) rfl rfl) (w_end (q_then ?_))))))))
    refine cd_cond (decide (s36.2 < (r29.length : Int))) rfl (fun hb40 => ?_) (fun hb40 => ?_)
    ·replace h := bif_t hb40 h
     refine c_skip (q_then (c_seq (c_blk (rg (sm (Sl a38 s36.1 c39) rfl (sm (Sl Cq Cn Cr) rfl (sm (Sl Cq Cn Cr) rfl (sm (Sl a32 r29 c33) rfl (sm (I s36.2) rfl ?_)))))))))
     revert h; refine br fun x41 hx42 h => ?_
     obtain ⟨b44, o45, hi43, -⟩ := (H.own 3 rfl).ix hx42
     refine st (v := (pt b44 o45)) (rv_ix Tryz.underlying29 ti67 rfl rfl hi43) (st (v := (pt b44 (o45 + 0))) (rv_fieldAddr (off := 0) (ft := 3) Tryz.underlying67 rfl ti3 rfl rfl) ?_)
     have hc46 := ((H.own 3 rfl).at hx42 hi43).fst.int
     refine st (v := (I x41.1)) (rv_load1 Tryz.underlying3 rfl rfl hc46) ?_
     revert h; refine br fun r47 hx48 h => ?_
     have hc49 := c_spec_keyAt (Be := Cq) (Bf := Cr) hx48
     refine st_call (cx_call hc49 (ent_f hc49.fn rfl) hn0 (H.sel' [0, 0, 1, 2, 3] rfl rfl : Hp S0 σ0 _ ([_] ++ _))) wn ?_
     rintro _ σ50 ⟨_, ⟨rfl, rfl⟩, H, -⟩
     replace H : Hp _ _ _ [_, _, _, _] := H
     revert h; refine br fun x51 hx52 h => ?_
     obtain ⟨b54, o55, hi53, -⟩ := (H.ro 0 rfl).ix hx52
     refine st (v := (pt b54 o55)) (rv_ix Tryz.underlying33 ti62 rfl rfl hi53) ?_
     obtain ⟨_, ⟨_, _, rfl, rfl, ⟨_, _, rfl, ⟨_, rfl, hR60⟩, rfl⟩⟩, hl56, hc57⟩ := ((H.ro 0 rfl).at hx52 hi53).cells
     obtain ⟨a58, c59, rfl⟩ := hR60.isSl
     replace H := H.add (d := Ch.ro 0 (Sl a58 x51.2.1 c59) x51.2.1) hR60 (fun _ h => h)
     clear hR60
     refine st (v := (.agg #[(I x51.1), (Sl a58 x51.2.1 c59), (I x51.2.2)])) (rv_load Tryz.underlying62 rfl ti62 rfl hl56 hc57) ?_
     refine st_ex (ex_buildSlice (el := 0) (xs := ([(x51.1, x51.2.1, x51.2.2)] : List (Int × (List Int) × Int))) (ps := [(0, (.agg #[(I x51.1), (Sl a58 x51.2.1 c59), (I x51.2.2)]))]) (cs := [(I x51.1), (Sl a58 x51.2.1 c59), (I x51.2.2)]) H hn0 Tryz.underlying33 ti62 rfl rfl (by kernel_rfl) (.cons (c := [(I x51.1), (Sl a58 x51.2.1 c59), (I x51.2.2)]) ⟨[(I x51.1)], [(Sl a58 x51.2.1 c59), (I x51.2.2)], rfl, rfl, ⟨[(Sl a58 x51.2.1 c59)], [(I x51.2.2)], rfl, ⟨_, rfl, (H.ro 0 rfl)⟩, rfl⟩⟩ (.nil)) rfl) wn ?_
     rintro _ σ62 ⟨b61, rfl, H, -⟩
     revert h; refine br fun xs63 hx64 h => ?_
     refine st_ex (ex_append H (i := 4) rfl Tryz.underlying33 Tryz.underlying33 ti62 rfl rfl (by decide) (H.own 0 rfl).rd hx64 hn0 rfl rfl) wn ?_
     rintro _ σ67 ⟨a65, c66, rfl, H, -⟩
     refine sa (Sl a65 xs63 c66) rfl (w_end (q_blk (q_then (rg (sm (I s36.2) rfl (st (v := (I (w64 (s36.2 + 1)))) (rv_add (a := s36.2) (b := 1) rfl rfl) (sa (I (w64 (s36.2 + 1))) rfl (w_end (q_then ?_)))))))))
     obtain rfl := sj h
     exact ⟨_, rfl, _, σ67, a65, c66, fr_join ⟨rfl, rfl, rfl, rfl, rfl, rfl, trivial⟩, rfl, H.sel' [3, 4, 0, 5] rfl rfl⟩
    ·replace h := bif_f hb40 h
     refine c_exit (q_then_x (q_then_x (q_blk_hit ?_)))
     obtain rfl := sj h
     obtain rfl := hres _ rfl
     exact ⟨rfl, _, σ37, a38, c39, fr_join ⟨rfl, rfl, rfl, trivial⟩, rfl, H.sel' [1, 2] rfl rfl⟩
   ·clear hj
    have h := h'
    clear h' H
    rintro e a w ⟨rfl, ρ, σ68, a69, c70, rfl, rfl, H⟩
    refine q_then (c_seq (rg (sm (Sl a69 o35 c70) rfl (sm (Sl Bu Bt Bv) rfl (sm (I Cu) rfl ?_)))))
    obtain ⟨σ71, hw72, H, -⟩ := H.pub 1 rfl (Nat.zero_le _)
    rw [← hw72]; clear hw72
    revert h; refine br fun r73 hx74 h => ?_
    have hc75 := c_spec_nearest (Be := a69) (Bf := c70) (Bu := Bu) (Bv := Bv) hx74
    refine st_call (cx_call hc75 (ent_f hc75.fn rfl) hn0 (H.sel' [0, 1, 0, 1] rfl rfl : Hp S0 σ0 _ ([_, _] ++ _))) wn ?_
    rintro _ σ78 ⟨_, ⟨a76, c77, rfl, rfl⟩, H, -⟩
    replace H : Hp _ _ _ [_, _, _] := H
    refine sa (Sl a76 r73 c77) rfl (w_end (q_then (c_ret ?_)))
    obtain rfl := sj h
    exact fin_ret (v := (Sl a76 r73 c77)) (results_ok Tryz.results23 (res_tmp (v := (Sl a76 r73 c77)) rfl res_nil) rfl) ⟨a76, c77, rfl, rfl⟩ (H.sel' [0] rfl rfl)

theorem c_impl_validCoords {Cv : List Int} {Cw : Option Addr} {Cy : Nat} {r : Bool} (h : M.impl_validCoords Cv = some r) :
    Cal2 Tryz.prog 97 [(Sl Cw Cv Cy)] [Ch.ro 0 (Sl Cw Cv Cy) Cv] (fun n0 v L => v = (B r) ∧ L = []) := by
 refine cal2 (n := 18) Tryz.func97 rfl rfl rfl rfl ?_
 intro S0 σ0 n0 hn0 H
 unfold M.impl_validCoords at h
 refine c_seq (rg (sa (B false) rfl (w_end (q_then (c_seq (c_seq (rg (sm (Sl Cw Cv Cy) rfl (st (v := (I (Cv.length : Int))) (rv_len Tryz.underlying26 rfl) (sm (I 0) rfl (w_end ?_)))))))))))
 refine q_then ?_
 obtain ⟨o1, hj, h'⟩ := bind_some h
 clear h
 refine c_cut (fun e a w => (∃ t, o1 = (.inl t) ∧ e = .normal ∧ ∃ (ρ : Nat → Value) (σ : St), a = fr 18 (updL ρ []) ∧ w = σ.w ∧ Hp S0 σ0 σ []) ∨ (∃ t, o1 = (.inr t) ∧ e = .ret ∧ ∃ (ρ : Nat → Value) (σ : St), a = fr 18 (updL ρ [(2, (B t))]) ∧ w = σ.w ∧ Hp S0 σ0 σ [])) ?_ ?_
 ·clear h'
  rename _ = some o1 => h
  refine c_blk (wp_loopM _ h (fun s2 a w => ∃ (ρ : Nat → Value) (σ : St), a = fr 18 (updL ρ [(5, (Sl Cw Cv Cy)), (6, (I (Cv.length : Int))), (7, (I s2))]) ∧ w = σ.w ∧ Hp S0 σ0 σ [Ch.ro 0 (Sl Cw Cv Cy) Cv]) ⟨_, σ0, fr_join ⟨rfl, rfl, rfl, trivial⟩, rfl, H.sel' [0] rfl rfl⟩ ?_)
  clear h H
  rintro s2 a w o ⟨ρ, σ3, rfl, rfl, H⟩ h hres
  refine c_seq (rg (st (v := (B (decide (s2 < (Cv.length : Int))))) (rv_lss (a := s2) (b := (Cv.length : Int)) rfl rfl) (w_end (q_then (c_seq ?_)))))
  refine cd_cond (decide (s2 < (Cv.length : Int))) rfl (fun hb4 => ?_) (fun hb4 => ?_)
  ·replace h := bif_t hb4 h
   refine c_skip (q_then (c_seq (c_blk (c_seq (rg ?_)))))
   revert h; refine br fun x5 hx6 h => ?_
   obtain ⟨b8, o9, hi7, -⟩ := (H.ro 0 rfl).ix hx6
   refine st (v := (pt b8 o9)) (rv_ix Tryz.underlying26 ti3 rfl rfl hi7) ?_
   have hc10 := ((H.ro 0 rfl).at hx6 hi7).int
   refine st (v := (I x5)) (rv_load1 Tryz.underlying3 rfl rfl hc10) (sa (I x5) rfl (w_end (q_then (c_seq ?_))))
   obtain ⟨o11, hj, h'⟩ := bind_some h
   clear h
   refine c_cut (fun e a w => e = .normal ∧ ∃ (ρ : Nat → Value) (σ : St), a = fr 18 (updL ρ [(5, (Sl Cw Cv Cy)), (6, (I (Cv.length : Int))), (7, (I s2)), (16, (B o11))]) ∧ w = σ.w ∧ Hp S0 σ0 σ [Ch.ro 0 (Sl Cw Cv Cy) Cv]) ?_ ?_
   ·clear h'
    rename _ = some o11 => h
    refine rg (sm (I x5) rfl (st (v := (B (decide (x5 < (-100))))) (rv_lss (a := x5) (b := (-100)) rfl rfl) (sm (B (decide (x5 < (-100)))) rfl ?_)))
    rcases Bool.eq_false_or_eq_true (decide (x5 < (-100))) with hb12 | hb12
    ·replace h := bif_t hb12 h
     refine st_skip (congrArg some hb12) (st_skip (congrArg some hb12) (st (v := (B true)) (rv_pick_t (congrArg B hb12) rfl) (w_end ?_)))
     obtain rfl := sj h
     exact ⟨rfl, _, σ3, fr_join ⟨rfl, rfl, rfl, rfl, trivial⟩, rfl, H.sel' [0] rfl rfl⟩
    ·replace h := bif_f hb12 h
     refine st_g (v := (I x5)) (congrArg some hb12) (rv_move rfl) (st_g (v := (B (decide (100 < x5)))) (congrArg some hb12) (rv_gtr (a := x5) (b := 100) rfl rfl) (st (v := (B (decide (100 < x5)))) (rv_pick_f (congrArg B hb12) rfl) (w_end ?_)))
     obtain rfl := sj h
     exact ⟨rfl, _, σ3, fr_join ⟨rfl, rfl, rfl, rfl, trivial⟩, rfl, H.sel' [0] rfl rfl⟩
   ·clear hj
    have h := h'
    clear h' H
    rintro e a w ⟨rfl, ρ, σ13, rfl, rfl, H⟩
    refine q_then ?_
    refine cd_cond o11 rfl (fun hb14 => ?_) (fun hb14 => ?_)
    ·replace h := bif_t hb14 h
     refine c_seq (rg (sa (B false) rfl (w_end (q_then (c_ret (q_blk_r (q_then_r (q_then_r (q_blk_r ?_)))))))))
     obtain rfl := sj h
     obtain rfl := hres _ rfl
     exact .inr (⟨_, rfl, rfl, _, σ13, fr_join ⟨rfl, trivial⟩, rfl, H.sel' [] rfl rfl⟩)
    ·replace h := bif_f hb14 h
     refine c_skip (q_blk (q_then (rg (st (v := (I (w64 (s2 + 1)))) (rv_add (a := s2) (b := 1) rfl rfl) (sm (I (w64 (s2 + 1))) rfl (w_end (q_then ?_)))))))
     obtain rfl := sj h
     exact ⟨_, rfl, _, σ13, fr_join ⟨rfl, rfl, rfl, trivial⟩, rfl, H.sel' [0] rfl rfl⟩
  ·replace h := bif_f hb4 h
   refine c_exit (q_then_x (q_then_x (q_blk_hit ?_)))
   obtain rfl := sj h
   obtain rfl := hres _ rfl
   exact .inl ⟨_, rfl, rfl, _, σ3, fr_join trivial, rfl, H.sel' [] rfl rfl⟩
 ·clear hj
  have h := h'
  clear h' H
  rintro e a w (⟨t15, rfl, rfl, ρ, σ16, rfl, rfl, H⟩ | ⟨t17, rfl, rfl, ρ, σ18, rfl, rfl, H⟩)
  ·replace h := selim_l h
   refine q_then (c_seq (rg (sa (B true) rfl (w_end (q_then (c_ret ?_))))))
   obtain rfl := sj h
   exact fin_ret (v := (B true)) (results_ok Tryz.results97 (res_tmp (v := (B true)) rfl res_nil) rfl) ⟨rfl, rfl⟩ (H.sel' [] rfl rfl)
  ·replace h := selim_r h
   refine q_then_r ?_
   obtain rfl := sj h
   exact fin_ret (v := (B t17)) (results_ok Tryz.results97 (res_tmp (v := (B t17)) rfl res_nil) rfl) ⟨rfl, rfl⟩ (H.sel' [] rfl rfl)

theorem c_impl_validSide {Cz : List (List Int)} {Da : Option Addr} {Db : Nat} {r : Bool} (h : M.impl_validSide Cz = some r) :
    Cal2 Tryz.prog 81 [(Sl Da Cz Db)] [Ch.ro 0 (Sl Da Cz Db) Cz] (fun n0 v L => v = (B r) ∧ L = []) := by
 refine cal2 (n := 23) Tryz.func81 rfl rfl rfl rfl ?_
 intro S0 σ0 n0 hn0 H
 unfold M.impl_validSide at h
 refine c_seq (rg (sa (B false) rfl (w_end (q_then (c_seq (c_seq (rg (sm (Sl Da Cz Db) rfl (st (v := (I (Cz.length : Int))) (rv_len Tryz.underlying22 rfl) (st (v := (B ((Cz.length : Int) != 4))) (rv_neq (a := (Cz.length : Int)) (b := 4) rfl rfl) (w_end ?_)))))))))))
 refine q_then ?_
 refine cd_cond ((Cz.length : Int) != 4) rfl (fun hb1 => ?_) (fun hb1 => ?_)
 ·replace h := bif_t hb1 h
  refine c_seq (rg (sa (B false) rfl (w_end (q_then (c_ret (q_then_r ?_))))))
  obtain rfl := sj h
  exact fin_ret (v := (B false)) (results_ok Tryz.results81 (res_tmp (v := (B false)) rfl res_nil) rfl) ⟨rfl, rfl⟩ (H.sel' [] rfl rfl)
 ·replace h := bif_f hb1 h
  refine c_skip (q_then (c_seq (c_seq (rg (sm (Sl Da Cz Db) rfl (st (v := (I (Cz.length : Int))) (rv_len Tryz.underlying22 rfl) (sm (I 0) rfl (w_end (q_then ?_)))))))))
  obtain ⟨o2, hj, h'⟩ := bind_some h
  clear h
  refine c_cut (fun e a w => (∃ t, o2 = (.inl t) ∧ e = .normal ∧ ∃ (ρ : Nat → Value) (σ : St), a = fr 23 (updL ρ []) ∧ w = σ.w ∧ Hp S0 σ0 σ []) ∨ (∃ t, o2 = (.inr t) ∧ e = .ret ∧ ∃ (ρ : Nat → Value) (σ : St), a = fr 23 (updL ρ [(2, (B t))]) ∧ w = σ.w ∧ Hp S0 σ0 σ [])) ?_ ?_
  ·clear h'
   rename _ = some o2 => h
   refine c_blk (wp_loopM _ h (fun s3 a w => ∃ (ρ : Nat → Value) (σ : St), a = fr 23 (updL ρ [(8, (Sl Da Cz Db)), (9, (I (Cz.length : Int))), (10, (I s3))]) ∧ w = σ.w ∧ Hp S0 σ0 σ [Ch.ro 0 (Sl Da Cz Db) Cz]) ⟨_, σ0, fr_join ⟨rfl, rfl, rfl, trivial⟩, rfl, H.sel' [0] rfl rfl⟩ ?_)
   clear h H
   rintro s3 a w o ⟨ρ, σ4, rfl, rfl, H⟩ h hres
   refine c_seq (rg (st (v := (B (decide (s3 < (Cz.length : Int))))) (rv_lss (a := s3) (b := (Cz.length : Int)) rfl rfl) (w_end (q_then (c_seq ?_)))))
   refine cd_cond (decide (s3 < (Cz.length : Int))) rfl (fun hb5 => ?_) (fun hb5 => ?_)
   ·replace h := bif_t hb5 h
    refine c_skip (q_then (c_seq (c_blk (c_seq (rg ?_)))))
    revert h; refine br fun x6 hx7 h => ?_
    obtain ⟨b9, o10, hi8, -⟩ := (H.ro 0 rfl).ix hx7
    refine st (v := (pt b9 o10)) (rv_ix Tryz.underlying22 ti26 rfl rfl hi8) ?_
    obtain ⟨v14, hc15, hR13⟩ := ((H.ro 0 rfl).at hx7 hi8).slice
    obtain ⟨a11, c12, rfl⟩ := hR13.isSl
    replace H := H.add (d := Ch.ro 0 (Sl a11 x6 c12) x6) hR13 (fun _ h => h)
    clear hR13
    refine st (v := (Sl a11 x6 c12)) (rv_load1 Tryz.underlying26 rfl rfl hc15) (sa (Sl a11 x6 c12) rfl (w_end (q_then (c_seq ?_))))
    obtain ⟨o16, hj, h'⟩ := bind_some h
    clear h
    refine c_cut (fun e a w => e = .normal ∧ ∃ (ρ : Nat → Value) (σ : St), a = fr 23 (updL ρ [(8, (Sl Da Cz Db)), (9, (I (Cz.length : Int))), (10, (I s3)), (21, (B o16))]) ∧ w = σ.w ∧ Hp S0 σ0 σ [Ch.ro 0 (Sl Da Cz Db) Cz]) ?_ ?_
    ·clear h'
     rename _ = some o16 => h
     refine rg (sm (Sl a11 x6 c12) rfl (st (v := (I (x6.length : Int))) (rv_len Tryz.underlying26 rfl) (st (v := (B ((x6.length : Int) != 2))) (rv_neq (a := (x6.length : Int)) (b := 2) rfl rfl) (sm (B ((x6.length : Int) != 2)) rfl ?_))))
     rcases Bool.eq_false_or_eq_true ((x6.length : Int) != 2) with hb17 | hb17
     ·replace h := bif_t hb17 h
      refine st_skip (congrArg some hb17) (st_skip (congrArg some hb17) (st_skip (congrArg some hb17) (st (v := (B true)) (rv_pick_t (congrArg B hb17) rfl) (w_end ?_))))
      obtain rfl := sj h
      exact ⟨rfl, _, σ4, fr_join ⟨rfl, rfl, rfl, rfl, trivial⟩, rfl, H.sel' [1] rfl rfl⟩
     ·replace h := bif_f hb17 h
      refine st_g (v := (Sl a11 x6 c12)) (congrArg some hb17) (rv_move rfl) ?_
      revert h; refine br fun r18 hx19 h => ?_
      have hc20 := c_impl_validCoords (Cw := a11) (Cy := c12) hx19
      refine st_call (cx_call hc20 (ent_f hc20.fn rfl) hn0 (H.sel' [0, 0, 1] rfl rfl : Hp S0 σ0 _ ([_] ++ _))) (wanted_yes rfl (by exact (congrArg some hb17))) ?_
      rintro _ σ21 ⟨_, ⟨rfl, rfl⟩, H, -⟩
      replace H : Hp _ _ _ [_, _] := H
      refine st_g (v := (B (!r18))) (congrArg some hb17) (rv_not rfl) (st (v := (B (!r18))) (rv_pick_f (congrArg B hb17) rfl) (w_end ?_))
      obtain rfl := sj h
      exact ⟨rfl, _, σ21, fr_join ⟨rfl, rfl, rfl, rfl, trivial⟩, rfl, H.sel' [1] rfl rfl⟩
    ·clear hj
     have h := h'
     clear h' H
     rintro e a w ⟨rfl, ρ, σ22, rfl, rfl, H⟩
     refine q_then ?_
     refine cd_cond o16 rfl (fun hb23 => ?_) (fun hb23 => ?_)
     ·replace h := bif_t hb23 h
      refine c_seq (rg (sa (B false) rfl (w_end (q_then (c_ret (q_blk_r (q_then_r (q_then_r (q_blk_r ?_)))))))))
      obtain rfl := sj h
      obtain rfl := hres _ rfl
      exact .inr (⟨_, rfl, rfl, _, σ22, fr_join ⟨rfl, trivial⟩, rfl, H.sel' [] rfl rfl⟩)
     ·replace h := bif_f hb23 h
      refine c_skip (q_blk (q_then (rg (st (v := (I (w64 (s3 + 1)))) (rv_add (a := s3) (b := 1) rfl rfl) (sm (I (w64 (s3 + 1))) rfl (w_end (q_then ?_)))))))
      obtain rfl := sj h
      exact ⟨_, rfl, _, σ22, fr_join ⟨rfl, rfl, rfl, trivial⟩, rfl, H.sel' [0] rfl rfl⟩
   ·replace h := bif_f hb5 h
    refine c_exit (q_then_x (q_then_x (q_blk_hit ?_)))
    obtain rfl := sj h
    obtain rfl := hres _ rfl
    exact .inl ⟨_, rfl, rfl, _, σ4, fr_join trivial, rfl, H.sel' [] rfl rfl⟩
  ·clear hj
   have h := h'
   clear h' H
   rintro e a w (⟨t24, rfl, rfl, ρ, σ25, rfl, rfl, H⟩ | ⟨t26, rfl, rfl, ρ, σ27, rfl, rfl, H⟩)
   ·replace h := selim_l h
    refine q_then (c_seq (rg (sa (B true) rfl (w_end (q_then (c_ret ?_))))))
    obtain rfl := sj h
    exact fin_ret (v := (B true)) (results_ok Tryz.results81 (res_tmp (v := (B true)) rfl res_nil) rfl) ⟨rfl, rfl⟩ (H.sel' [] rfl rfl)
   ·replace h := selim_r h
    refine q_then_r ?_
    obtain rfl := sj h
    exact fin_ret (v := (B t26)) (results_ok Tryz.results81 (res_tmp (v := (B t26)) rfl res_nil) rfl) ⟨rfl, rfl⟩ (H.sel' [] rfl rfl)

theorem c_impl_ValidBook {Bg : (List (List Int)) × (List (List Int))} {Bh : Option Addr} {Bi : Nat} {Bj : Option Addr} {Bk : Nat} {r : Bool} (h : M.impl_ValidBook Bg = some r) :
    Cal2 Tryz.prog 43 [(.agg #[(Sl Bh Bg.1 Bi), (Sl Bj Bg.2 Bk)])] [Ch.ro 0 (Sl Bh Bg.1 Bi) Bg.1, Ch.ro 0 (Sl Bj Bg.2 Bk) Bg.2] (fun n0 v L => v = (B r) ∧ L = []) := by
 refine cal2 (n := 11) Tryz.func43 rfl rfl rfl rfl ?_
 intro S0 σ0 n0 hn0 H
 unfold M.impl_ValidBook at h
 refine c_seq (rg (st_ex (ex_box (cs := [(Sl Bh Bg.1 Bi), (Sl Bj Bg.2 Bk)]) H hn0 rfl rfl) wn ?_))
 rintro _ σ2 ⟨b1, rfl, H, -⟩
 refine sa (B false) rfl (w_end (q_then (c_seq (rg (st (v := (pt b1 0)) (rv_fieldAddr (off := 0) (ft := 22) Tryz.underlying31 rfl ti22 rfl rfl) ?_)))))
 have hc3 := H.cell (u := (Sl Bh Bg.1 Bi)) (o' := 0) 0 0 rfl rfl rfl
 refine st (v := (Sl Bh Bg.1 Bi)) (rv_load1 Tryz.underlying22 rfl rfl hc3) ?_
 revert h; refine br fun r4 hx5 h => ?_
 have hc6 := c_impl_validSide (Da := Bh) (Db := Bi) hx5
 refine st_call (cx_call hc6 (ent_f hc6.fn rfl) hn0 (H.sel' [1, 0, 1, 2] rfl rfl : Hp S0 σ0 _ ([_] ++ _))) wn ?_
 rintro _ σ7 ⟨_, ⟨rfl, rfl⟩, H, -⟩
 replace H : Hp _ _ _ [_, _, _] := H
 refine sm (B r4) rfl ?_
 rcases Bool.eq_false_or_eq_true r4 with hb8 | hb8
 ·replace h := bif_t hb8 h
  refine st_g (v := (pt b1 1)) (congrArg some hb8) (rv_fieldAddr (off := 1) (ft := 22) Tryz.underlying31 rfl ti22 rfl rfl) ?_
  have hc9 := H.cell (u := (Sl Bj Bg.2 Bk)) (o' := 1) 0 1 rfl rfl rfl
  refine st_g (v := (Sl Bj Bg.2 Bk)) (congrArg some hb8) (rv_load1 Tryz.underlying22 rfl rfl hc9) ?_
  revert h; refine br fun r10 hx11 h => ?_
  have hc12 := c_impl_validSide (Da := Bj) (Db := Bk) hx11
  refine st_call (cx_call hc12 (ent_f hc12.fn rfl) hn0 (H.sel' [2, 0, 1, 2] rfl rfl : Hp S0 σ0 _ ([_] ++ _))) (wanted_yes rfl (by exact (congrArg some hb8))) ?_
  rintro _ σ13 ⟨_, ⟨rfl, rfl⟩, H, -⟩
  replace H : Hp _ _ _ [_, _, _] := H
  refine st (v := (B r10)) (rv_pick_t (congrArg B hb8) rfl) (sa (B r10) rfl (w_end (q_then (c_ret ?_))))
  obtain rfl := sj h
  exact fin_ret (v := (B r10)) (results_ok Tryz.results43 (res_tmp (v := (B r10)) rfl res_nil) rfl) ⟨rfl, rfl⟩ (H.sel' [] rfl rfl)
 ·replace h := bif_f hb8 h
  refine st_skip (congrArg some hb8) (st_skip (congrArg some hb8) (st_skip (congrArg some hb8) (st (v := (B false)) (rv_pick_f (congrArg B hb8) rfl) (sa (B false) rfl (w_end (q_then (c_ret ?_)))))))
  obtain rfl := sj h
  exact fin_ret (v := (B false)) (results_ok Tryz.results43 (res_tmp (v := (B false)) rfl res_nil) rfl) ⟨rfl, rfl⟩ (H.sel' [] rfl rfl)

theorem c_impl_validCount {Dc : Int}  {r : Bool} (h : M.impl_validCount Dc = some r) :
    Cal2 Tryz.prog 53 [(I Dc)] [] (fun n0 v L => v = (B r) ∧ L = []) := by
 refine cal2 (n := 9) Tryz.func53 rfl rfl rfl rfl ?_
 intro S0 σ0 n0 hn0 H
 unfold M.impl_validCount at h
 refine c_seq (rg (sa (B false) rfl (w_end (q_then (c_seq (rg (sm (I Dc) rfl (st (v := (B (decide (1 ≤ Dc)))) (rv_geq (a := Dc) (b := 1) rfl rfl) (sm (B (decide (1 ≤ Dc))) rfl ?_)))))))))
 rcases Bool.eq_false_or_eq_true (decide (1 ≤ Dc)) with hb1 | hb1
 ·replace h := bif_t hb1 h
  refine st_g (v := (I Dc)) (congrArg some hb1) (rv_move rfl) (st_g (v := (B (decide (Dc ≤ 16)))) (congrArg some hb1) (rv_leq (a := Dc) (b := 16) rfl rfl) (st (v := (B (decide (Dc ≤ 16)))) (rv_pick_t (congrArg B hb1) rfl) (sa (B (decide (Dc ≤ 16))) rfl (w_end (q_then (c_ret ?_))))))
  obtain rfl := sj h
  exact fin_ret (v := (B (decide (Dc ≤ 16)))) (results_ok Tryz.results53 (res_tmp (v := (B (decide (Dc ≤ 16)))) rfl res_nil) rfl) ⟨rfl, rfl⟩ (H.sel' [] rfl rfl)
 ·replace h := bif_f hb1 h
  refine st_skip (congrArg some hb1) (st_skip (congrArg some hb1) (st (v := (B false)) (rv_pick_f (congrArg B hb1) rfl) (sa (B false) rfl (w_end (q_then (c_ret ?_))))))
  obtain rfl := sj h
  exact fin_ret (v := (B false)) (results_ok Tryz.results53 (res_tmp (v := (B false)) rfl res_nil) rfl) ⟨rfl, rfl⟩ (H.sel' [] rfl rfl)

theorem c_impl_ValidVector {Bl : List Int} {Bm : Option Addr} {Bn : Nat} {r : Bool} (h : M.impl_ValidVector Bl = some r) :
    Cal2 Tryz.prog 69 [(Sl Bm Bl Bn)] [Ch.ro 0 (Sl Bm Bl Bn) Bl] (fun n0 v L => v = (B r) ∧ L = []) := by
 refine cal2 (n := 10) Tryz.func69 rfl rfl rfl rfl ?_
 intro S0 σ0 n0 hn0 H
 unfold M.impl_ValidVector at h
 refine c_seq (rg (sa (B false) rfl (w_end (q_then (c_seq (rg (sm (Sl Bm Bl Bn) rfl (st (v := (I (Bl.length : Int))) (rv_len Tryz.underlying26 rfl) (st (v := (B ((Bl.length : Int) == 4))) (rv_eql (a := (Bl.length : Int)) (b := 4) rfl rfl) (sm (B ((Bl.length : Int) == 4)) rfl ?_))))))))))
 rcases Bool.eq_false_or_eq_true ((Bl.length : Int) == 4) with hb1 | hb1
 ·replace h := bif_t hb1 h
  refine st_g (v := (Sl Bm Bl Bn)) (congrArg some hb1) (rv_move rfl) ?_
  revert h; refine br fun r2 hx3 h => ?_
  have hc4 := c_impl_validCoords (Cw := Bm) (Cy := Bn) hx3
  refine st_call (cx_call hc4 (ent_f hc4.fn rfl) hn0 (H.sel' [0, 0] rfl rfl : Hp S0 σ0 _ ([_] ++ _))) (wanted_yes rfl (by exact (congrArg some hb1))) ?_
  rintro _ σ5 ⟨_, ⟨rfl, rfl⟩, H, -⟩
  replace H : Hp _ _ _ [_] := H
  refine st (v := (B r2)) (rv_pick_t (congrArg B hb1) rfl) (sa (B r2) rfl (w_end (q_then (c_ret ?_))))
  obtain rfl := sj h
  exact fin_ret (v := (B r2)) (results_ok Tryz.results69 (res_tmp (v := (B r2)) rfl res_nil) rfl) ⟨rfl, rfl⟩ (H.sel' [] rfl rfl)
 ·replace h := bif_f hb1 h
  refine st_skip (congrArg some hb1) (st_skip (congrArg some hb1) (st (v := (B false)) (rv_pick_f (congrArg B hb1) rfl) (sa (B false) rfl (w_end (q_then (c_ret ?_))))))
  obtain rfl := sj h
  exact fin_ret (v := (B false)) (results_ok Tryz.results69 (res_tmp (v := (B false)) rfl res_nil) rfl) ⟨rfl, rfl⟩ (H.sel' [] rfl rfl)

theorem c_impl_validKey {Dd : Int}  {r : Bool} (h : M.impl_validKey Dd = some r) :
    Cal2 Tryz.prog 126 [(I Dd)] [] (fun n0 v L => v = (B r) ∧ L = []) := by
 refine cal2 (n := 9) Tryz.func126 rfl rfl rfl rfl ?_
 intro S0 σ0 n0 hn0 H
 unfold M.impl_validKey at h
 refine c_seq (rg (sa (B false) rfl (w_end (q_then (c_seq (rg (sm (I Dd) rfl (st (v := (B (decide (1 ≤ Dd)))) (rv_geq (a := Dd) (b := 1) rfl rfl) (sm (B (decide (1 ≤ Dd))) rfl ?_)))))))))
 rcases Bool.eq_false_or_eq_true (decide (1 ≤ Dd)) with hb1 | hb1
 ·replace h := bif_t hb1 h
  refine st_g (v := (I Dd)) (congrArg some hb1) (rv_move rfl) (st_g (v := (B (decide (Dd ≤ 99)))) (congrArg some hb1) (rv_leq (a := Dd) (b := 99) rfl rfl) (st (v := (B (decide (Dd ≤ 99)))) (rv_pick_t (congrArg B hb1) rfl) (sa (B (decide (Dd ≤ 99))) rfl (w_end (q_then (c_ret ?_))))))
  obtain rfl := sj h
  exact fin_ret (v := (B (decide (Dd ≤ 99)))) (results_ok Tryz.results126 (res_tmp (v := (B (decide (Dd ≤ 99)))) rfl res_nil) rfl) ⟨rfl, rfl⟩ (H.sel' [] rfl rfl)
 ·replace h := bif_f hb1 h
  refine st_skip (congrArg some hb1) (st_skip (congrArg some hb1) (st (v := (B false)) (rv_pick_f (congrArg B hb1) rfl) (sa (B false) rfl (w_end (q_then (c_ret ?_))))))
  obtain rfl := sj h
  exact fin_ret (v := (B false)) (results_ok Tryz.results126 (res_tmp (v := (B false)) rfl res_nil) rfl) ⟨rfl, rfl⟩ (H.sel' [] rfl rfl)

theorem c_impl_validTags {De : Int}  {r : Bool} (h : M.impl_validTags De = some r) :
    Cal2 Tryz.prog 127 [(I De)] [] (fun n0 v L => v = (B r) ∧ L = []) := by
 refine cal2 (n := 9) Tryz.func127 rfl rfl rfl rfl ?_
 intro S0 σ0 n0 hn0 H
 unfold M.impl_validTags at h
 refine c_seq (rg (sa (B false) rfl (w_end (q_then (c_seq (rg (sm (I De) rfl (st (v := (B (decide (0 ≤ De)))) (rv_geq (a := De) (b := 0) rfl rfl) (sm (B (decide (0 ≤ De))) rfl ?_)))))))))
 rcases Bool.eq_false_or_eq_true (decide (0 ≤ De)) with hb1 | hb1
 ·replace h := bif_t hb1 h
  refine st_g (v := (I De)) (congrArg some hb1) (rv_move rfl) (st_g (v := (B (decide (De ≤ 15)))) (congrArg some hb1) (rv_leq (a := De) (b := 15) rfl rfl) (st (v := (B (decide (De ≤ 15)))) (rv_pick_t (congrArg B hb1) rfl) (sa (B (decide (De ≤ 15))) rfl (w_end (q_then (c_ret ?_))))))
  obtain rfl := sj h
  exact fin_ret (v := (B (decide (De ≤ 15)))) (results_ok Tryz.results127 (res_tmp (v := (B (decide (De ≤ 15)))) rfl res_nil) rfl) ⟨rfl, rfl⟩ (H.sel' [] rfl rfl)
 ·replace h := bif_f hb1 h
  refine st_skip (congrArg some hb1) (st_skip (congrArg some hb1) (st (v := (B false)) (rv_pick_f (congrArg B hb1) rfl) (sa (B false) rfl (w_end (q_then (c_ret ?_))))))
  obtain rfl := sj h
  exact fin_ret (v := (B false)) (results_ok Tryz.results127 (res_tmp (v := (B false)) rfl res_nil) rfl) ⟨rfl, rfl⟩ (H.sel' [] rfl rfl)

theorem c_impl_validItem {Bo : Int × (List Int) × Int} {Bp : Option Addr} {Bq : Nat} {r : Bool} (h : M.impl_validItem Bo = some r) :
    Cal2 Tryz.prog 107 [(.agg #[(I Bo.1), (Sl Bp Bo.2.1 Bq), (I Bo.2.2)])] [Ch.ro 0 (Sl Bp Bo.2.1 Bq) Bo.2.1] (fun n0 v L => v = (B r) ∧ L = []) := by
 refine cal2 (n := 16) Tryz.func107 rfl rfl rfl rfl ?_
 intro S0 σ0 n0 hn0 H
 unfold M.impl_validItem at h
 refine c_seq (rg (st_ex (ex_box (cs := [(I Bo.1), (Sl Bp Bo.2.1 Bq), (I Bo.2.2)]) H hn0 rfl rfl) wn ?_))
 rintro _ σ2 ⟨b1, rfl, H, -⟩
 refine sa (B false) rfl (w_end (q_then (c_seq (rg (st (v := (pt b1 0)) (rv_fieldAddr (off := 0) (ft := 3) Tryz.underlying62 rfl ti3 rfl rfl) ?_)))))
 have hc3 := H.cell (u := (I Bo.1)) (o' := 0) 0 0 rfl rfl rfl
 refine st (v := (I Bo.1)) (rv_load1 Tryz.underlying3 rfl rfl hc3) ?_
 revert h; refine br fun r4 hx5 h => ?_
 have hc6 := c_impl_validKey hx5
 refine st_call (cx_call hc6 (ent_f hc6.fn rfl) hn0 (H.sel' [0, 1] rfl rfl : Hp S0 σ0 _ ([] ++ _))) wn ?_
 rintro _ σ7 ⟨_, ⟨rfl, rfl⟩, H, -⟩
 replace H : Hp _ _ _ [_, _] := H
 refine sm (B r4) rfl ?_
 rcases Bool.eq_false_or_eq_true r4 with hb8 | hb8
 ·replace h := bif_t hb8 h
  refine st_g (v := (pt b1 1)) (congrArg some hb8) (rv_fieldAddr (off := 1) (ft := 26) Tryz.underlying62 rfl ti26 rfl rfl) ?_
  have hc9 := H.cell (u := (Sl Bp Bo.2.1 Bq)) (o' := 1) 0 1 rfl rfl rfl
  refine st_g (v := (Sl Bp Bo.2.1 Bq)) (congrArg some hb8) (rv_load1 Tryz.underlying26 rfl rfl hc9) ?_
  revert h; refine br fun r10 hx11 h => ?_
  have hc12 := c_impl_ValidVector (Bm := Bp) (Bn := Bq) hx11
  refine st_call (cx_call hc12 (ent_f hc12.fn rfl) hn0 (H.sel' [1, 0, 1] rfl rfl : Hp S0 σ0 _ ([_] ++ _))) (wanted_yes rfl (by exact (congrArg some hb8))) ?_
  rintro _ σ13 ⟨_, ⟨rfl, rfl⟩, H, -⟩
  replace H : Hp _ _ _ [_, _] := H
  refine st (v := (B r10)) (rv_pick_t (congrArg B hb8) rfl) (sm (B r10) rfl ?_)
  rcases Bool.eq_false_or_eq_true r10 with hb14 | hb14
  ·replace h := bif_t hb14 h
   refine st_g (v := (pt b1 2)) (congrArg some hb14) (rv_fieldAddr (off := 2) (ft := 3) Tryz.underlying62 rfl ti3 rfl rfl) ?_
   have hc15 := H.cell (u := (I Bo.2.2)) (o' := 2) 0 2 rfl rfl rfl
   refine st_g (v := (I Bo.2.2)) (congrArg some hb14) (rv_load1 Tryz.underlying3 rfl rfl hc15) ?_
   revert h; refine br fun r16 hx17 h => ?_
   have hc18 := c_impl_validTags hx17
   refine st_call (cx_call hc18 (ent_f hc18.fn rfl) hn0 (H.sel' [0, 1] rfl rfl : Hp S0 σ0 _ ([] ++ _))) (wanted_yes rfl (by exact (congrArg some hb14))) ?_
   rintro _ σ19 ⟨_, ⟨rfl, rfl⟩, H, -⟩
   replace H : Hp _ _ _ [_, _] := H
   refine st (v := (B r16)) (rv_pick_t (congrArg B hb14) rfl) (sa (B r16) rfl (w_end (q_then (c_ret ?_))))
   obtain rfl := sj h
   exact fin_ret (v := (B r16)) (results_ok Tryz.results107 (res_tmp (v := (B r16)) rfl res_nil) rfl) ⟨rfl, rfl⟩ (H.sel' [] rfl rfl)
  ·replace h := bif_f hb14 h
   refine st_skip (congrArg some hb14) (st_skip (congrArg some hb14) (st_skip (congrArg some hb14) (st (v := (B false)) (rv_pick_f (congrArg B hb14) rfl) (sa (B false) rfl (w_end (q_then (c_ret ?_)))))))
   obtain rfl := sj h
   exact fin_ret (v := (B false)) (results_ok Tryz.results107 (res_tmp (v := (B false)) rfl res_nil) rfl) ⟨rfl, rfl⟩ (H.sel' [] rfl rfl)
 ·replace h := bif_f hb8 h
  refine st_skip (congrArg some hb8) (st_skip (congrArg some hb8) (st_skip (congrArg some hb8) (st (v := (B false)) (rv_pick_f (congrArg B hb8) rfl) (sm (B false) rfl (st_skip rfl (st_skip rfl (st_skip rfl (st (v := (B false)) (rv_pick_f rfl rfl) (sa (B false) rfl (w_end (q_then ?_)))))))))))
  refine c_ret ?_
  obtain rfl := sj h
  exact fin_ret (v := (B false)) (results_ok Tryz.results107 (res_tmp (v := (B false)) rfl res_nil) rfl) ⟨rfl, rfl⟩ (H.sel' [] rfl rfl)

theorem c_impl_ValidStore {Bd : List (Int × (List Int) × Int)} {Be : Option Addr} {Bf : Nat} {r : Bool} (h : M.impl_ValidStore Bd = some r) :
    Cal2 Tryz.prog 82 [(Sl Be Bd Bf)] [Ch.ro 0 (Sl Be Bd Bf) Bd] (fun n0 v L => v = (B r) ∧ L = []) := by
 refine cal2 (n := 27) Tryz.func82 rfl rfl rfl rfl ?_
 intro S0 σ0 n0 hn0 H
 unfold M.impl_ValidStore at h
 refine c_seq (rg (sa (B false) rfl (w_end (q_then (c_seq (c_seq (rg (sm (Sl Be Bd Bf) rfl (st (v := (I (Bd.length : Int))) (rv_len Tryz.underlying33 rfl) (st (v := (B (decide (16 < (Bd.length : Int))))) (rv_gtr (a := (Bd.length : Int)) (b := 16) rfl rfl) (w_end ?_)))))))))))
 refine q_then ?_
 refine cd_cond (decide (16 < (Bd.length : Int))) rfl (fun hb1 => ?_) (fun hb1 => ?_)
 ·replace h := bif_t hb1 h
  refine c_seq (rg (sa (B false) rfl (w_end (q_then (c_ret (q_then_r ?_))))))
  obtain rfl := sj h
  exact fin_ret (v := (B false)) (results_ok Tryz.results82 (res_tmp (v := (B false)) rfl res_nil) rfl) ⟨rfl, rfl⟩ (H.sel' [] rfl rfl)
 ·replace h := bif_f hb1 h
  refine c_skip (q_then (c_seq (rg (sa (I 0) rfl (w_end (q_then (c_seq (c_seq (rg (sm (Sl Be Bd Bf) rfl (st (v := (I (Bd.length : Int))) (rv_len Tryz.underlying33 rfl) ?_)))))))))))
  refine sm (I 0) rfl (w_end (q_then ?_))
  obtain ⟨o2, hj, h'⟩ := bind_some h
  clear h
  refine c_cut (fun e a w => (∃ t, o2 = (.inl t) ∧ e = .normal ∧ ∃ (ρ : Nat → Value) (σ : St), a = fr 27 (updL ρ []) ∧ w = σ.w ∧ Hp S0 σ0 σ []) ∨ (∃ t, o2 = (.inr t) ∧ e = .ret ∧ ∃ (ρ : Nat → Value) (σ : St), a = fr 27 (updL ρ [(2, (B t))]) ∧ w = σ.w ∧ Hp S0 σ0 σ [])) ?_ ?_
  ·clear h'
   rename _ = some o2 => h
   refine c_blk (wp_loopM _ h (fun s3 a w => ∃ (ρ : Nat → Value) (σ : St), a = fr 27 (updL ρ [(3, (I s3.1)), (9, (Sl Be Bd Bf)), (10, (I (Bd.length : Int))), (11, (I s3.2))]) ∧ w = σ.w ∧ Hp S0 σ0 σ [Ch.ro 0 (Sl Be Bd Bf) Bd]) ⟨_, σ0, fr_join ⟨rfl, rfl, rfl, rfl, trivial⟩, rfl, H.sel' [0] rfl rfl⟩ ?_)
   clear h H
   rintro s3 a w o ⟨ρ, σ4, rfl, rfl, H⟩ h hres
   refine c_seq (rg (st (v := (B (decide (s3.2 < (Bd.length : Int))))) (rv_lss (a := s3.2) (b := (Bd.length : Int)) rfl rfl) (w_end (q_then (c_seq ?_)))))
   refine cd_cond (decide (s3.2 < (Bd.length : Int))) rfl (fun hb5 => ?_) (fun hb5 => ?_)
   ·replace h := bif_t hb5 h
    refine c_skip (q_then (c_seq (c_blk (c_seq (rg ?_)))))
    revert h; refine br fun x6 hx7 h => ?_
    obtain ⟨b9, o10, hi8, -⟩ := (H.ro 0 rfl).ix hx7
    refine st (v := (pt b9 o10)) (rv_ix Tryz.underlying33 ti62 rfl rfl hi8) ?_
    obtain ⟨_, ⟨_, _, rfl, rfl, ⟨_, _, rfl, ⟨_, rfl, hR15⟩, rfl⟩⟩, hl11, hc12⟩ := ((H.ro 0 rfl).at hx7 hi8).cells
    obtain ⟨a13, c14, rfl⟩ := hR15.isSl
    replace H := H.add (d := Ch.ro 0 (Sl a13 x6.2.1 c14) x6.2.1) hR15 (fun _ h => h)
    clear hR15
    refine st (v := (.agg #[(I x6.1), (Sl a13 x6.2.1 c14), (I x6.2.2)])) (rv_load Tryz.underlying62 rfl ti62 rfl hl11 hc12) (st_ex (ex_alloc (cs := [(I 0), (.slice none 0 0), (I 0)]) H hn0 ti62 rfl) wn ?_)
    rintro _ σ17 ⟨b16, rfl, H, -⟩
    refine st_exS (ex_store_box (k := 0) (cs := [(I 0), (.slice none 0 0), (I 0)]) (vs := [(I x6.1), (Sl a13 x6.2.1 c14), (I x6.2.2)]) (cs' := [(I x6.1), (Sl a13 x6.2.1 c14), (I x6.2.2)]) H (i := 0) rfl ti62 rfl rfl rfl rfl rfl (Nat.le_of_ble_eq_true rfl) (by simp [plain]) rfl) wn ?_
    rintro σ18 ⟨H, -⟩
    refine w_end (q_then (c_seq (c_seq ?_)))
    obtain ⟨o19, hj, h'⟩ := bind_some h
    clear h
    refine c_cut (fun e a w => e = .normal ∧ ∃ (ρ : Nat → Value) (σ : St), a = fr 27 (updL ρ [(5, (pt b16 0)), (9, (Sl Be Bd Bf)), (10, (I (Bd.length : Int))), (11, (I s3.2)), (23, (B o19))]) ∧ w = σ.w ∧ Hp S0 σ0 σ [Ch.ro 0 (Sl a13 x6.2.1 c14) x6.2.1, Ch.bx n0 b16 0 [(I x6.1), (Sl a13 x6.2.1 c14), (I x6.2.2)] [] [], Ch.ro 0 (Sl Be Bd Bf) Bd]) ?_ ?_
    ·clear h'
     rename _ = some o19 => h
     refine rg ?_
     have hc20 := H.cells 0 rfl
     refine st (v := (.agg #[(I x6.1), (Sl a13 x6.2.1 c14), (I x6.2.2)])) (rv_load (cs := [(I x6.1), (Sl a13 x6.2.1 c14), (I x6.2.2)]) Tryz.underlying62 rfl ti62 rfl rfl hc20) ?_
     revert h; refine br fun r21 hx22 h => ?_
     have hc23 := c_impl_validItem (Bp := a13) (Bq := c14) hx22
     refine st_call (cx_call hc23 (ent_f hc23.fn rfl) hn0 (H.sel' [1, 0, 1, 2] rfl rfl : Hp S0 σ0 _ ([_] ++ _))) wn ?_
     rintro _ σ24 ⟨_, ⟨rfl, rfl⟩, H, -⟩
     replace H : Hp _ _ _ [_, _, _] := H
     refine st (v := (B (!r21))) (rv_not rfl) (sm (B (!r21)) rfl ?_)
     rcases Bool.eq_false_or_eq_true (!r21) with hb25 | hb25
     ·replace h := bif_t hb25 h
      refine st_skip (congrArg some hb25) (st_skip (congrArg some hb25) (st_skip (congrArg some hb25) (st_skip (congrArg some hb25) (st (v := (B true)) (rv_pick_t (congrArg B hb25) rfl) (w_end ?_)))))
      obtain rfl := sj h
      exact ⟨rfl, _, σ24, fr_join ⟨rfl, rfl, rfl, rfl, rfl, trivial⟩, rfl, H.sel' [1, 0, 2] rfl rfl⟩
     ·replace h := bif_f hb25 h
      refine st_g (v := (pt b16 0)) (congrArg some hb25) (rv_fieldAddr (off := 0) (ft := 3) Tryz.underlying62 rfl ti3 rfl rfl) ?_
      have hc26 := H.cell (u := (I x6.1)) (o' := 0) 0 0 rfl rfl rfl
      refine st_g (v := (I x6.1)) (congrArg some hb25) (rv_load1 Tryz.underlying3 rfl rfl hc26) (st_g (v := (I s3.1)) (congrArg some hb25) (rv_move rfl) (st_g (v := (B (decide (x6.1 ≤ s3.1)))) (congrArg some hb25) (rv_leq (a := x6.1) (b := s3.1) rfl rfl) (st (v := (B (decide (x6.1 ≤ s3.1)))) (rv_pick_f (congrArg B hb25) rfl) (w_end ?_))))
      obtain rfl := sj h
      exact ⟨rfl, _, σ24, fr_join ⟨rfl, rfl, rfl, rfl, rfl, trivial⟩, rfl, H.sel' [1, 0, 2] rfl rfl⟩
    ·clear hj
     have h := h'
     clear h' H
     rintro e a w ⟨rfl, ρ, σ27, rfl, rfl, H⟩
     refine q_then ?_
     refine cd_cond o19 rfl (fun hb28 => ?_) (fun hb28 => ?_)
     ·replace h := bif_t hb28 h
      refine c_seq (rg (sa (B false) rfl (w_end (q_then (c_ret (q_then_r (q_blk_r (q_then_r (q_then_r (q_blk_r ?_))))))))))
      obtain rfl := sj h
      obtain rfl := hres _ rfl
      exact .inr (⟨_, rfl, rfl, _, σ27, fr_join ⟨rfl, trivial⟩, rfl, H.sel' [] rfl rfl⟩)
     ·replace h := bif_f hb28 h
      refine c_skip (q_then (rg (st (v := (pt b16 0)) (rv_fieldAddr (off := 0) (ft := 3) Tryz.underlying62 rfl ti3 rfl rfl) ?_)))
      have hc29 := H.cell (u := (I x6.1)) (o' := 0) 1 0 rfl rfl rfl
      refine st (v := (I x6.1)) (rv_load1 Tryz.underlying3 rfl rfl hc29) (sa (I x6.1) rfl (w_end (q_blk (q_then (rg (st (v := (I (w64 (s3.2 + 1)))) (rv_add (a := s3.2) (b := 1) rfl rfl) (sm (I (w64 (s3.2 + 1))) rfl (w_end (q_then ?_)))))))))
      obtain rfl := sj h
      exact ⟨_, rfl, _, σ27, fr_join ⟨rfl, rfl, rfl, rfl, trivial⟩, rfl, H.sel' [2] rfl rfl⟩
   ·replace h := bif_f hb5 h
    refine c_exit (q_then_x (q_then_x (q_blk_hit ?_)))
    obtain rfl := sj h
    obtain rfl := hres _ rfl
    exact .inl ⟨_, rfl, rfl, _, σ4, fr_join trivial, rfl, H.sel' [] rfl rfl⟩
  ·clear hj
   have h := h'
   clear h' H
   rintro e a w (⟨t30, rfl, rfl, ρ, σ31, rfl, rfl, H⟩ | ⟨t32, rfl, rfl, ρ, σ33, rfl, rfl, H⟩)
   ·replace h := selim_l h
    refine q_then (c_seq (rg (sa (B true) rfl (w_end (q_then (c_ret ?_))))))
    obtain rfl := sj h
    exact fin_ret (v := (B true)) (results_ok Tryz.results82 (res_tmp (v := (B true)) rfl res_nil) rfl) ⟨rfl, rfl⟩ (H.sel' [] rfl rfl)
   ·replace h := selim_r h
    refine q_then_r ?_
    obtain rfl := sj h
    exact fin_ret (v := (B t32)) (results_ok Tryz.results82 (res_tmp (v := (B t32)) rfl res_nil) rfl) ⟨rfl, rfl⟩ (H.sel' [] rfl rfl)

theorem c_impl_validKind {Br : Int}  {r : Bool} (h : M.impl_validKind Br = some r) :
    Cal2 Tryz.prog 83 [(I Br)] [] (fun n0 v L => v = (B r) ∧ L = []) := by
 refine cal2 (n := 9) Tryz.func83 rfl rfl rfl rfl ?_
 intro S0 σ0 n0 hn0 H
 unfold M.impl_validKind at h
 refine c_seq (rg (sa (B false) rfl (w_end (q_then (c_seq (rg (sm (I Br) rfl (st (v := (B (decide (1 ≤ Br)))) (rv_geq (a := Br) (b := 1) rfl rfl) (sm (B (decide (1 ≤ Br))) rfl ?_)))))))))
 rcases Bool.eq_false_or_eq_true (decide (1 ≤ Br)) with hb1 | hb1
 ·replace h := bif_t hb1 h
  refine st_g (v := (I Br)) (congrArg some hb1) (rv_move rfl) (st_g (v := (B (decide (Br ≤ 4)))) (congrArg some hb1) (rv_leq (a := Br) (b := 4) rfl rfl) (st (v := (B (decide (Br ≤ 4)))) (rv_pick_t (congrArg B hb1) rfl) (sa (B (decide (Br ≤ 4))) rfl (w_end (q_then (c_ret ?_))))))
  obtain rfl := sj h
  exact fin_ret (v := (B (decide (Br ≤ 4)))) (results_ok Tryz.results83 (res_tmp (v := (B (decide (Br ≤ 4)))) rfl res_nil) rfl) ⟨rfl, rfl⟩ (H.sel' [] rfl rfl)
 ·replace h := bif_f hb1 h
  refine st_skip (congrArg some hb1) (st_skip (congrArg some hb1) (st (v := (B false)) (rv_pick_f (congrArg B hb1) rfl) (sa (B false) rfl (w_end (q_then (c_ret ?_))))))
  obtain rfl := sj h
  exact fin_ret (v := (B false)) (results_ok Tryz.results83 (res_tmp (v := (B false)) rfl res_nil) rfl) ⟨rfl, rfl⟩ (H.sel' [] rfl rfl)

theorem c_impl_validSearch {Bd : List (Int × (List Int) × Int)} {Bs : Int} {Bt : List Int} {Cp : Int} {Be : Option Addr} {Bf : Nat} {Bu : Option Addr} {Bv : Nat} {r : Bool} (h : M.impl_validSearch Bd Bs Bt Cp = some r) :
    Cal2 Tryz.prog 44 [(Sl Be Bd Bf), (I Bs), (Sl Bu Bt Bv), (I Cp)] [Ch.ro 0 (Sl Be Bd Bf) Bd, Ch.ro 0 (Sl Bu Bt Bv) Bt] (fun n0 v L => v = (B r) ∧ L = []) := by
 refine cal2 (n := 23) Tryz.func44 rfl rfl rfl rfl ?_
 intro S0 σ0 n0 hn0 H
 unfold M.impl_validSearch at h
 refine c_seq (rg (sa (B false) rfl (w_end (q_then (c_seq (rg (sm (Sl Be Bd Bf) rfl ?_)))))))
 revert h; refine br fun r1 hx2 h => ?_
 have hc3 := c_impl_ValidStore (Be := Be) (Bf := Bf) hx2
 refine st_call (cx_call hc3 (ent_f hc3.fn rfl) hn0 (H.sel' [0, 0, 1] rfl rfl : Hp S0 σ0 _ ([_] ++ _))) wn ?_
 rintro _ σ4 ⟨_, ⟨rfl, rfl⟩, H, -⟩
 replace H : Hp _ _ _ [_, _] := H
 refine sm (B r1) rfl ?_
 rcases Bool.eq_false_or_eq_true r1 with hb5 | hb5
 ·replace h := bif_t hb5 h
  refine st_g (v := (I Bs)) (congrArg some hb5) (rv_move rfl) ?_
  revert h; refine br fun r6 hx7 h => ?_
  have hc8 := c_impl_validKind hx7
  refine st_call (cx_call hc8 (ent_f hc8.fn rfl) hn0 (H.sel' [0, 1] rfl rfl : Hp S0 σ0 _ ([] ++ _))) (wanted_yes rfl (by exact (congrArg some hb5))) ?_
  rintro _ σ9 ⟨_, ⟨rfl, rfl⟩, H, -⟩
  replace H : Hp _ _ _ [_, _] := H
  refine st (v := (B r6)) (rv_pick_t (congrArg B hb5) rfl) (sm (B r6) rfl ?_)
  rcases Bool.eq_false_or_eq_true r6 with hb10 | hb10
  ·replace h := bif_t hb10 h
   refine st_g (v := (Sl Bu Bt Bv)) (congrArg some hb10) (rv_move rfl) ?_
   revert h; refine br fun r11 hx12 h => ?_
   have hc13 := c_impl_ValidVector (Bm := Bu) (Bn := Bv) hx12
   refine st_call (cx_call hc13 (ent_f hc13.fn rfl) hn0 (H.sel' [1, 0, 1] rfl rfl : Hp S0 σ0 _ ([_] ++ _))) (wanted_yes rfl (by exact (congrArg some hb10))) ?_
   rintro _ σ14 ⟨_, ⟨rfl, rfl⟩, H, -⟩
   replace H : Hp _ _ _ [_, _] := H
   refine st (v := (B r11)) (rv_pick_t (congrArg B hb10) rfl) (sm (B r11) rfl ?_)
   rcases Bool.eq_false_or_eq_true r11 with hb15 | hb15
   ·replace h := bif_t hb15 h
    refine st_g (v := (I Cp)) (congrArg some hb15) (rv_move rfl) ?_
    revert h; refine br fun r16 hx17 h => ?_
    have hc18 := c_impl_validCount hx17
    refine st_call (cx_call hc18 (ent_f hc18.fn rfl) hn0 (H.sel' [0, 1] rfl rfl : Hp S0 σ0 _ ([] ++ _))) (wanted_yes rfl (by exact (congrArg some hb15))) ?_
    rintro _ σ19 ⟨_, ⟨rfl, rfl⟩, H, -⟩
    replace H : Hp _ _ _ [_, _] := H
    refine st (v := (B r16)) (rv_pick_t (congrArg B hb15) rfl) (sa (B r16) rfl (w_end (q_then (c_ret ?_))))
    obtain rfl := sj h
    exact fin_ret (v := (B r16)) (results_ok Tryz.results44 (res_tmp (v := (B r16)) rfl res_nil) rfl) ⟨rfl, rfl⟩ (H.sel' [] rfl rfl)
   ·replace h := bif_f hb15 h
    refine st_skip (congrArg some hb15) (st_skip (congrArg some hb15) (st (v := (B false)) (rv_pick_f (congrArg B hb15) rfl) (sa (B false) rfl (w_end (q_then (c_ret ?_))))))
    obtain rfl := sj h
    exact fin_ret (v := (B false)) (results_ok Tryz.results44 (res_tmp (v := (B false)) rfl res_nil) rfl) ⟨rfl, rfl⟩ (H.sel' [] rfl rfl)
  ·replace h := bif_f hb10 h
   refine st_skip (congrArg some hb10) (st_skip (congrArg some hb10) (st (v := (B false)) (rv_pick_f (congrArg B hb10) rfl) (sm (B false) rfl (st_skip rfl (st_skip rfl (st (v := (B false)) (rv_pick_f rfl rfl) (sa (B false) rfl (w_end (q_then (c_ret ?_))))))))))
   obtain rfl := sj h
   exact fin_ret (v := (B false)) (results_ok Tryz.results44 (res_tmp (v := (B false)) rfl res_nil) rfl) ⟨rfl, rfl⟩ (H.sel' [] rfl rfl)
 ·replace h := bif_f hb5 h
  refine st_skip (congrArg some hb5) (st_skip (congrArg some hb5) (st (v := (B false)) (rv_pick_f (congrArg B hb5) rfl) (sm (B false) rfl (st_skip rfl (st_skip rfl (st (v := (B false)) (rv_pick_f rfl rfl) (sm (B false) rfl (st_skip rfl (st_skip rfl (st (v := (B false)) (rv_pick_f rfl rfl) (sa (B false) rfl ?_)))))))))))
  refine w_end (q_then (c_ret ?_))
  obtain rfl := sj h
  exact fin_ret (v := (B false)) (results_ok Tryz.results44 (res_tmp (v := (B false)) rfl res_nil) rfl) ⟨rfl, rfl⟩ (H.sel' [] rfl rfl)

theorem c_impl_tableOf {Cz : List (List Int)} {Cg : List Int} {Da : Option Addr} {Db : Nat} {Ci : Option Addr} {Cj : Nat} {r : (List Int)} (h : M.impl_tableOf Cz Cg = some r) :
    Cal2 Tryz.prog 108 [(Sl Da Cz Db), (Sl Ci Cg Cj)] [Ch.ro 0 (Sl Da Cz Db) Cz, Ch.ro 0 (Sl Ci Cg Cj) Cg] (fun n0 v L => v = (.agg (List.map I r).toArray) ∧ L = [] ∧ r.length = 4) := by
 refine cal2 (n := 45) Tryz.func108 rfl rfl rfl rfl ?_
 intro S0 σ0 n0 hn0 H
 unfold M.impl_tableOf at h
 refine c_seq (rg (st_ex (ex_alloc (cs := (List.map I (List.replicate 4 0))) H hn0 ti101 rfl) wn ?_))
 rintro _ σ2 ⟨b1, rfl, H, -⟩
 refine w_end (q_then (c_seq (rg (st_ex (ex_alloc (cs := (List.map I (List.replicate 4 0))) H hn0 ti101 rfl) wn ?_))))
 rintro _ σ4 ⟨b3, rfl, H, -⟩
 refine w_end (q_then (c_seq (c_seq (rg (sm (Sl Da Cz Db) rfl (st (v := (I (Cz.length : Int))) (rv_len Tryz.underlying22 rfl) (sm (I 0) rfl (w_end (q_then ?_)))))))))
 obtain ⟨o5, hj, h'⟩ := bind_some h
 clear h
 refine c_cut (fun e a w => e = .normal ∧ ∃ (ρ : Nat → Value) (σ : St), a = fr 45 (updL ρ [(4, (pt b1 0)), (5, (pt b3 0))]) ∧ w = σ.w ∧ Hp S0 σ0 σ [Ch.bx n0 b3 0 (List.map I o5) [] [], Ch.bx n0 b1 0 (List.map I (List.replicate 4 0)) [] []] ∧ o5.length = 4) ?_ ?_
 ·clear h'
  rename _ = some o5 => h
  refine c_blk (wp_loopM _ h (fun s6 a w => ∃ (ρ : Nat → Value) (σ : St), a = fr 45 (updL ρ [(1, (Sl Ci Cg Cj)), (4, (pt b1 0)), (5, (pt b3 0)), (10, (Sl Da Cz Db)), (11, (I (Cz.length : Int))), (12, (I s6.2))]) ∧ w = σ.w ∧ Hp S0 σ0 σ [Ch.bx n0 b3 0 (List.map I s6.1) [] [], Ch.ro 0 (Sl Ci Cg Cj) Cg, Ch.bx n0 b1 0 (List.map I (List.replicate 4 0)) [] [], Ch.ro 0 (Sl Da Cz Db) Cz] ∧ s6.1.length = 4) ⟨_, σ4, fr_join ⟨rfl, rfl, rfl, rfl, rfl, rfl, trivial⟩, rfl, H.sel' [0, 3, 1, 2] rfl rfl, rfl⟩ ?_)
  clear h H
  rintro s6 a w o ⟨ρ, σ7, rfl, rfl, H, hl8⟩ h hres
  refine c_seq (rg (st (v := (B (decide (s6.2 < (Cz.length : Int))))) (rv_lss (a := s6.2) (b := (Cz.length : Int)) rfl rfl) (w_end (q_then (c_seq ?_)))))
  refine cd_cond (decide (s6.2 < (Cz.length : Int))) rfl (fun hb9 => ?_) (fun hb9 => ?_)
  ·replace h := bif_t hb9 h
   refine c_skip (q_then (c_seq (c_blk (c_seq (rg (sm (I s6.2) rfl ?_))))))
   revert h; refine br fun x10 hx11 h => ?_
   obtain ⟨b13, o14, hi12, -⟩ := (H.ro 3 rfl).ix hx11
   refine st (v := (pt b13 o14)) (rv_ix Tryz.underlying22 ti26 rfl rfl hi12) ?_
   obtain ⟨v18, hc19, hR17⟩ := ((H.ro 3 rfl).at hx11 hi12).slice
   obtain ⟨a15, c16, rfl⟩ := hR17.isSl
   replace H := H.add (d := Ch.ro 0 (Sl a15 x10 c16) x10) hR17 (fun _ h => h)
   clear hR17
   refine st (v := (Sl a15 x10 c16)) (rv_load1 Tryz.underlying26 rfl rfl hc19) (sa (I s6.2) rfl (sa (Sl a15 x10 c16) rfl (w_end (q_then (c_seq (rg (sm (Sl Ci Cg Cj) rfl (st (v := (I (Cg.length : Int))) (rv_len Tryz.underlying26 rfl) (sm (I 0) rfl (w_end (q_then ?_)))))))))))
   obtain ⟨o20, hj, h'⟩ := bind_some h
   clear h
   refine c_cut (fun e a w => e = .normal ∧ ∃ (ρ : Nat → Value) (σ : St), a = fr 45 (updL ρ [(1, (Sl Ci Cg Cj)), (4, (pt b1 0)), (5, (pt b3 0)), (10, (Sl Da Cz Db)), (11, (I (Cz.length : Int))), (12, (I s6.2))]) ∧ w = σ.w ∧ Hp S0 σ0 σ [Ch.bx n0 b3 0 (List.map I o20) [] [], Ch.ro 0 (Sl Ci Cg Cj) Cg, Ch.bx n0 b1 0 (List.map I (List.replicate 4 0)) [] [], Ch.ro 0 (Sl Da Cz Db) Cz] ∧ o20.length = 4) ?_ ?_
   ·clear h'
    rename _ = some o20 => h
    refine c_blk (wp_loopM _ h (fun s21 a w => ∃ (ρ : Nat → Value) (σ : St), a = fr 45 (updL ρ [(1, (Sl Ci Cg Cj)), (4, (pt b1 0)), (5, (pt b3 0)), (6, (I s6.2)), (7, (Sl a15 x10 c16)), (10, (Sl Da Cz Db)), (11, (I (Cz.length : Int))), (12, (I s6.2)), (17, (Sl Ci Cg Cj)), (18, (I (Cg.length : Int))), (19, (I s21.2))]) ∧ w = σ.w ∧ Hp S0 σ0 σ [Ch.bx n0 b3 0 (List.map I s21.1) [] [], Ch.ro 0 (Sl Ci Cg Cj) Cg, Ch.bx n0 b1 0 (List.map I (List.replicate 4 0)) [] [], Ch.ro 0 (Sl a15 x10 c16) x10, Ch.ro 0 (Sl Da Cz Db) Cz] ∧ s21.1.length = 4) ⟨_, σ7, fr_join ⟨rfl, rfl, rfl, rfl, rfl, rfl, rfl, rfl, rfl, rfl, rfl, trivial⟩, rfl, H.sel' [1, 2, 3, 0, 4] rfl rfl, hl8⟩ ?_)
    clear h H
    rintro s21 a w o ⟨ρ, σ22, rfl, rfl, H, hl23⟩ h hres
    refine c_seq (rg (st (v := (B (decide (s21.2 < (Cg.length : Int))))) (rv_lss (a := s21.2) (b := (Cg.length : Int)) rfl rfl) (w_end (q_then (c_seq ?_)))))
    refine cd_cond (decide (s21.2 < (Cg.length : Int))) rfl (fun hb24 => ?_) (fun hb24 => ?_)
    ·replace h := bif_t hb24 h
     refine c_skip (q_then (c_seq (c_blk (c_seq (rg (sm (I s21.2) rfl ?_))))))
     revert h; refine br fun x25 hx26 h => ?_
     obtain ⟨b28, o29, hi27, -⟩ := (H.ro 1 rfl).ix hx26
     refine st (v := (pt b28 o29)) (rv_ix Tryz.underlying26 ti3 rfl rfl hi27) ?_
     have hc30 := ((H.ro 1 rfl).at hx26 hi27).int
     refine st (v := (I x25)) (rv_load1 Tryz.underlying3 rfl rfl hc30) (sa (I s21.2) rfl (sa (I x25) rfl (w_end (q_then ?_))))
     refine rgP (σ := σ22) 16 (by kernel_rfl) (by kernel_rfl) (by kernel_rfl) ?_
     refine sq (v := (I s6.2)) (rv_move rfl) ?_
     revert h; refine br fun x31 hx32 h => ?_
     have hl33 := gidx_lt hx32 hl23
     refine sq (v := (pt b3 (0 + s6.2.toNat * 1))) (rv_indexAddr_array Tryz.underlying101 ti3 rfl rfl hl33.1 hl33.2) ?_
     have hc34 := Hp.arrCell H 0 rfl hx32
     refine sq (v := (I x31)) (rv_load1 Tryz.underlying3 rfl rfl hc34) (sq (v := (I x25)) (rv_move rfl) (sq (v := (Sl a15 x10 c16)) (rv_move rfl) (sq (v := (I s21.2)) (rv_move rfl) ?_)))
     revert h; refine br fun x35 hx36 h => ?_
     obtain ⟨b38, o39, hi37, -⟩ := (H.ro 3 rfl).ix hx36
     refine sq (v := (pt b38 o39)) (rv_ix Tryz.underlying26 ti3 rfl rfl hi37) ?_
     have hc40 := ((H.ro 3 rfl).at hx36 hi37).int
     refine sq (v := (I x35)) (rv_load1 Tryz.underlying3 rfl rfl hc40) (sq (v := (I (w64 (x25 - x35)))) (rv_sub (a := x25) (b := x35) rfl rfl) (sq (v := (I x25)) (rv_move rfl) (sq (v := (Sl a15 x10 c16)) (rv_move rfl) (sq (v := (I s21.2)) (rv_move rfl) ?_))))
     revert h; refine br fun x41 hx42 h => ?_
     obtain ⟨b44, o45, hi43, -⟩ := (H.ro 3 rfl).ix hx42
     refine sq (v := (pt b44 o45)) (rv_ix Tryz.underlying26 ti3 rfl rfl hi43) ?_
     have hc46 := ((H.ro 3 rfl).at hx42 hi43).int
     refine sq (v := (I x41)) (rv_load1 Tryz.underlying3 rfl rfl hc46) (sq (v := (I (w64 (x25 - x41)))) (rv_sub (a := x25) (b := x41) rfl rfl) (sq (v := (I (w64 ((w64 (x25 - x35)) * (w64 (x25 - x41)))))) (rv_mul (a := (w64 (x25 - x35))) (b := (w64 (x25 - x41))) rfl rfl) (sq_end ?_)))
     intro σ47 hm48
     replace H := H.grow (hm48.mono fun _ h => h); clear hm48
     refine st (v := (I (w64 (x31 + (w64 ((w64 (x25 - x35)) * (w64 (x25 - x41)))))))) (rv_add (a := x31) (b := (w64 ((w64 (x25 - x35)) * (w64 (x25 - x41))))) rfl rfl) ?_
     revert h; refine br fun x49 hx50 h => ?_
     have hl51 := gidx_lt hx50 hl23
     refine st (v := (pt b3 (0 + s6.2.toNat * 1))) (rv_indexAddr_array Tryz.underlying101 ti3 rfl rfl hl51.1 hl51.2) ?_
     have hl52 := gidx_lt hx50 hl23
     refine st_exS (ex_store_box (k := s6.2.toNat * 1) (vs := [(I (w64 (x31 + (w64 ((w64 (x25 - x35)) * (w64 (x25 - x41)))))))]) (cs' := (List.map I (s21.1.set s6.2.toNat (w64 (x31 + (w64 ((w64 (x25 - x35)) * (w64 (x25 - x41))))))))) H (i := 0) rfl ti3 rfl rfl rfl rfl rfl (by rw [List.length_map, hl23]; simp; omega) (by simp [plain]) (arr_set' _ _ _)) wn ?_
     rintro σ53 ⟨H, -⟩
     refine w_end (q_blk (q_then (rg (st (v := (I (w64 (s21.2 + 1)))) (rv_add (a := s21.2) (b := 1) rfl rfl) (sm (I (w64 (s21.2 + 1))) rfl (w_end (q_then ?_)))))))
     obtain rfl := sj h
     exact ⟨_, rfl, _, σ53, fr_join ⟨rfl, rfl, rfl, rfl, rfl, rfl, rfl, rfl, rfl, rfl, rfl, trivial⟩, rfl, H.sel' [0, 1, 2, 3, 4] rfl rfl, (set_len hl23)⟩
    ·replace h := bif_f hb24 h
     refine c_exit (q_then_x (q_then_x (q_blk_hit ?_)))
     obtain rfl := sj h
     obtain rfl := hres _ rfl
     exact ⟨rfl, _, σ22, fr_join ⟨rfl, rfl, rfl, rfl, rfl, rfl, trivial⟩, rfl, H.sel' [0, 1, 2, 4] rfl rfl, hl23⟩
   ·clear hj
    have h := h'
    clear h' H
    rintro e a w ⟨rfl, ρ, σ54, rfl, rfl, H, hl55⟩
    refine q_blk (q_then (rg (st (v := (I (w64 (s6.2 + 1)))) (rv_add (a := s6.2) (b := 1) rfl rfl) (sm (I (w64 (s6.2 + 1))) rfl (w_end (q_then ?_))))))
    obtain rfl := sj h
    exact ⟨_, rfl, _, σ54, fr_join ⟨rfl, rfl, rfl, rfl, rfl, rfl, trivial⟩, rfl, H.sel' [0, 1, 2, 3] rfl rfl, hl55⟩
  ·replace h := bif_f hb9 h
   refine c_exit (q_then_x (q_then_x (q_blk_hit ?_)))
   obtain rfl := sj h
   obtain rfl := hres _ rfl
   exact ⟨rfl, _, σ7, fr_join ⟨rfl, rfl, trivial⟩, rfl, H.sel' [0, 2] rfl rfl, hl8⟩
 ·clear hj
  have h := h'
  clear h' H
  rintro e a w ⟨rfl, ρ, σ56, rfl, rfl, H, hl57⟩
  refine q_then (c_seq (rg ?_))
  have hc58 := H.cells 0 rfl
  refine st (v := (.agg (List.map I o5).toArray)) (rv_load (cs := (List.map I o5)) Tryz.underlying101 rfl ti101 rfl (by rw [List.length_map]; exact hl57) hc58) ?_
  refine st_exS (ex_store_box (k := 0) (cs := (List.map I (List.replicate 4 0))) (vs := (List.map I o5)) (cs' := (List.map I o5)) H (i := 1) rfl ti101 rfl rfl rfl rfl ((List.length_map _).trans hl57) (arr_fits (k := 4) hl57 rfl) (plain_ints _) (arr_all (k := 4) hl57 rfl)) wn ?_
  rintro σ59 ⟨H, -⟩
  refine w_end (q_then (c_ret ?_))
  obtain rfl := sj h
  exact fin_ret (v := (.agg (List.map I o5).toArray)) (results_ok Tryz.results108 (res_cell rfl (run_cellRes (cs := (List.map I o5)) Tryz.underlying101 rfl ti101 (by rw [List.length_map]; exact hl57) (H.cells 0 rfl)) res_nil) rfl) ⟨rfl, rfl, hl57⟩ (H.sel' [] rfl rfl)

theorem c_impl_tablesOf {Bg : (List (List Int)) × (List (List Int))} {Ck : List Int} {Bh : Option Addr} {Bi : Nat} {Bj : Option Addr} {Bk : Nat} {Cl : Option Addr} {Cm : Nat} {r : (List Int) × (List Int)} (h : M.impl_tablesOf Bg Ck = some r) :
    Cal2 Tryz.prog 84 [(.agg #[(Sl Bh Bg.1 Bi), (Sl Bj Bg.2 Bk)]), (Sl Cl Ck Cm)] [Ch.ro 0 (Sl Bh Bg.1 Bi) Bg.1, Ch.ro 0 (Sl Bj Bg.2 Bk) Bg.2, Ch.ro 0 (Sl Cl Ck Cm) Ck] (fun n0 v L => v = (.tuple #[(.agg (List.map I r.1).toArray), (.agg (List.map I r.2).toArray)]) ∧ L = [] ∧ r.1.length = 4 ∧ r.2.length = 4) := by
 refine cal2 (n := 16) Tryz.func84 rfl rfl rfl rfl ?_
 intro S0 σ0 n0 hn0 H
 unfold M.impl_tablesOf at h
 refine c_seq (rg (st_ex (ex_box (cs := [(Sl Bh Bg.1 Bi), (Sl Bj Bg.2 Bk)]) H hn0 rfl rfl) wn ?_))
 rintro _ σ2 ⟨b1, rfl, H, -⟩
 refine st_ex (ex_alloc (cs := (List.map I (List.replicate 4 0))) H hn0 ti101 rfl) wn ?_
 rintro _ σ4 ⟨b3, rfl, H, -⟩
 refine st_ex (ex_alloc (cs := (List.map I (List.replicate 4 0))) H hn0 ti101 rfl) wn ?_
 rintro _ σ6 ⟨b5, rfl, H, -⟩
 refine w_end (q_then (c_seq ?_))
 have hc7 := H.cell (u := (Sl Bh Bg.1 Bi)) (o' := 0) 2 0 rfl rfl rfl
 revert h; refine br fun xs8 hx9 h => ?_
 obtain ⟨a10, c11, hs12, hR13⟩ := (H.ro 5 rfl).slice hx9
 replace H := H.add (d := Ch.ro 0 (Sl a10 xs8 c11) xs8) hR13 (fun _ h => h)
 clear hR13
 revert h; refine br fun r14 hx15 h => ?_
 have hc16 := c_impl_tableOf (Da := Bh) (Db := Bi) (Ci := a10) (Cj := c11) hx15
 have hc18 := H.cell (u := (Sl Bj Bg.2 Bk)) (o' := 1) 3 1 rfl rfl rfl
 revert h; refine br fun xs19 hx20 h => ?_
 obtain ⟨a21, c22, hs23, hR24⟩ := (H.ro 6 rfl).slice hx20
 replace H := H.add (d := Ch.ro 0 (Sl a21 xs19 c22) xs19) hR24 (fun _ h => h)
 clear hR24
 have Hs := H
 refine rg2 (σ := σ6) (Nm := Unit) 9 [4] [[false], [true]] [[(0, 0)], [(0, 0)], [(0, 0)], [(0, 0)], [(0, 1)], [(0, 0), (1, 1)], [(0, 0), (1, 1)], [(0, 0), (1, 1)], [(0, 0), (1, 1)]] 1 [fun _ => fun σm => Hp S0 σ0 σm [Ch.ro 0 (Sl a21 xs19 c22) xs19, Ch.ro 0 (Sl a10 xs8 c11) xs8, Ch.bx n0 b5 0 (List.map I (List.replicate 4 0)) [] [], Ch.bx n0 b3 0 (List.map I (List.replicate 4 0)) [] [], Ch.bx n0 b1 0 [(Sl Bh Bg.1 Bi), (Sl Bj Bg.2 Bk)] [] [], Ch.ro 0 (Sl Bh Bg.1 Bi) Bg.1, Ch.ro 0 (Sl Bj Bg.2 Bk) Bg.2, Ch.ro 0 (Sl Cl Ck Cm) Ck] ∧ Md (cov []) σ6 σm, fun _ => fun σm => Hp S0 σ0 σm [Ch.ro 0 (Sl a21 xs19 c22) xs19, Ch.ro 0 (Sl a10 xs8 c11) xs8, Ch.bx n0 b5 0 (List.map I (List.replicate 4 0)) [] [], Ch.bx n0 b3 0 (List.map I (List.replicate 4 0)) [] [], Ch.bx n0 b1 0 [(Sl Bh Bg.1 Bi), (Sl Bj Bg.2 Bk)] [] [], Ch.ro 0 (Sl Bh Bg.1 Bi) Bg.1, Ch.ro 0 (Sl Bj Bg.2 Bk) Bg.2, Ch.ro 0 (Sl Cl Ck Cm) Ck] ∧ Md (cov []) σ6 σm ∧ r14.length = 4] [fun _ => (pt b1 0), fun _ => (Sl Bh Bg.1 Bi), fun _ => (Sl Cl Ck Cm), fun _ => (Sl a10 xs8 c11), fun _ => (.agg (List.map I r14).toArray), fun _ => (pt b1 1), fun _ => (Sl Bj Bg.2 Bk), fun _ => (Sl Cl Ck Cm), fun _ => (Sl a21 xs19 c22)] () (by kernel_rfl) (by kernel_rfl) ?_ ?_ ?_
 ·intro σm m0
  exact ⟨H.grow (m0.mono fun _ h => h.elim), m0⟩
 ·refine ac rfl (by
    intro k _nm ρ σm hJ hoff hdep
    have e2 := look_off (N := 16) (hoff 2 rfl) rfl
    exact dp_v (v := (pt b1 0)) wn (rv_fieldAddr (off := 0) (ft := 22) Tryz.underlying31 rfl ti22 rfl e2) rfl hJ) ?_
  refine all_cons (by
    refine ⟨?_, ?_⟩
    ·intro _nm ρ σm hJ hoff hdep
     have e6 := hdep 0 rfl rfl 6 rfl
     obtain ⟨H, m⟩ := id hJ
     have hc7 := H.cell (u := (Sl Bh Bg.1 Bi)) (o' := 0) 4 0 rfl rfl rfl
     exact dp_v (v := (Sl Bh Bg.1 Bi)) wn (rv_load1 Tryz.underlying22 rfl e6 hc7) rfl hJ
    trivial) ?_
  refine ac rfl (by
    intro k _nm ρ σm hJ hoff hdep
    have e1 := look_off (N := 16) (hoff 1 rfl) rfl
    exact dp_v (v := (Sl Cl Ck Cm)) wn (rv_move e1) rfl hJ) ?_
  refine ac rfl (by
    intro k _nm ρ σm hJ hoff hdep
    have e8 := hdep 2 rfl rfl 8 rfl
    exact dp_v (v := (Sl a10 xs8 c11)) wn (rv_slice_h Tryz.underlying26 ti3 hs12 e8 rfl) rfl hJ) ?_
  refine all_cons (by
    refine ⟨?_, ?_⟩
    ·intro _nm ρ σm hJ hoff hdep
     have e7 : look 16 ρ 7 = (Sl Bh Bg.1 Bi) := hdep 1 rfl rfl 7 rfl
     have e9 : look 16 ρ 9 = (Sl a10 xs8 c11) := hdep 3 rfl rfl 9 rfl
     obtain ⟨H, m⟩ := id hJ
     refine dp_cx wn (cx_call hc16 (ent_f hc16.fn (by show [look 16 ρ 7, look 16 ρ 9] = _; rw [e7, e9])) hn0 (H.sel' [5, 1, 0, 1, 2, 3, 4, 5, 6, 7] rfl rfl : Hp S0 σ0 _ ([_, _] ++ _))) ?_
     rintro _ σq ⟨_, ⟨rfl, rfl, hl17⟩, H2, m2⟩
     exact ⟨_, (), rfl, rfl, ⟨H2.sel' [0, 1, 2, 3, 4, 5, 6, 7] rfl rfl, m.comp0 (m2.mono (fun i h => by simp [cov, Ch.ro] at h)), hl17⟩, stab [0, 1, 2, 3, 5, 6, 7, 8] (by kernel_rfl) ⟨rfl, rfl, rfl, rfl, rfl, rfl, rfl, rfl, trivial⟩⟩
    trivial) ?_
  refine ac rfl (by
    intro k _nm ρ σm hJ hoff hdep
    have e2 := look_off (N := 16) (hoff 2 rfl) rfl
    exact dp_v (v := (pt b1 1)) wn (rv_fieldAddr (off := 1) (ft := 22) Tryz.underlying31 rfl ti22 rfl e2) rfl hJ) ?_
  refine all_cons (by
    refine ⟨?_, ?_⟩
    ·intro _nm ρ σm hJ hoff hdep
     have e11 := hdep 5 rfl rfl 11 rfl
     obtain ⟨H, m⟩ := id hJ
     have hc18 := H.cell (u := (Sl Bj Bg.2 Bk)) (o' := 1) 4 1 rfl rfl rfl
     exact dp_v (v := (Sl Bj Bg.2 Bk)) wn (rv_load1 Tryz.underlying22 rfl e11 hc18) rfl hJ
    refine ⟨?_, ?_⟩
    ·intro _nm ρ σm hJ hoff hdep
     have e11 := hdep 5 rfl rfl 11 rfl
     obtain ⟨H, m, hl17⟩ := id hJ
     have hc18 := H.cell (u := (Sl Bj Bg.2 Bk)) (o' := 1) 4 1 rfl rfl rfl
     exact dp_v (v := (Sl Bj Bg.2 Bk)) wn (rv_load1 Tryz.underlying22 rfl e11 hc18) rfl hJ
    trivial) ?_
  refine ac rfl (by
    intro k _nm ρ σm hJ hoff hdep
    have e1 := look_off (N := 16) (hoff 1 rfl) rfl
    exact dp_v (v := (Sl Cl Ck Cm)) wn (rv_move e1) rfl hJ) ?_
  refine ac rfl (by
    intro k _nm ρ σm hJ hoff hdep
    have e13 := hdep 7 rfl rfl 13 rfl
    exact dp_v (v := (Sl a21 xs19 c22)) wn (rv_slice_l Tryz.underlying26 ti3 hs23 e13 rfl) rfl hJ) ?_
  exact all_nil
 ·intro _nm ρ σ25 hJ hoff hrel
  have e4 := look_off (N := 16) (hoff 4 rfl) rfl
  have e5 := look_off (N := 16) (hoff 5 rfl) rfl
  have e10 := hrel 4 rfl 10 rfl
  have e12 := hrel 6 rfl 12 rfl
  have e14 := hrel 8 rfl 14 rfl
  obtain ⟨H, -, hl17⟩ := (show Hp S0 σ0 σ25 [Ch.ro 0 (Sl a21 xs19 c22) xs19, Ch.ro 0 (Sl a10 xs8 c11) xs8, Ch.bx n0 b5 0 (List.map I (List.replicate 4 0)) [] [], Ch.bx n0 b3 0 (List.map I (List.replicate 4 0)) [] [], Ch.bx n0 b1 0 [(Sl Bh Bg.1 Bi), (Sl Bj Bg.2 Bk)] [] [], Ch.ro 0 (Sl Bh Bg.1 Bi) Bg.1, Ch.ro 0 (Sl Bj Bg.2 Bk) Bg.2, Ch.ro 0 (Sl Cl Ck Cm) Ck] ∧ Md (cov []) σ6 σ25 ∧ r14.length = 4 from hJ)
  clear hJ Hs
  rw [fr_lookL (L := [(4, (pt b3 0)), (5, (pt b5 0)), (10, (.agg (List.map I r14).toArray)), (12, (Sl Bj Bg.2 Bk)), (14, (Sl a21 xs19 c22))]) ⟨e4, e5, e10, e12, e14, trivial⟩]
  clear hoff hrel e4 e5 e10 e12 e14
  revert h; refine br fun r26 hx27 h => ?_
  have hc28 := c_impl_tableOf (Da := Bj) (Db := Bk) (Ci := a21) (Cj := c22) hx27
  refine st_call (cx_call hc28 (ent_f hc28.fn rfl) hn0 (H.sel' [6, 0, 0, 1, 2, 3, 4, 5, 6, 7] rfl rfl : Hp S0 σ0 _ ([_, _] ++ _))) wn ?_
  rintro _ σ30 ⟨_, ⟨rfl, rfl, hl29⟩, H, -⟩
  replace H : Hp _ _ _ [_, _, _, _, _, _, _, _] := H
  replace H : Hp S0 σ0 σ30 [Ch.bx n0 b5 0 (List.map I (List.replicate 4 0)) [] [], Ch.bx n0 b3 0 (List.map I (List.replicate 4 0)) [] []] := H.sel' [2, 3] rfl rfl
  refine st_exS (ex_store_box (k := 0) (cs := (List.map I (List.replicate 4 0))) (vs := (List.map I r14)) (cs' := (List.map I r14)) H (i := 1) rfl ti101 rfl rfl rfl rfl ((List.length_map _).trans hl17) (arr_fits (k := 4) hl17 rfl) (plain_ints _) (arr_all (k := 4) hl17 rfl)) wn ?_
  rintro σ31 ⟨H, -⟩
  refine st_exS (ex_store_box (k := 0) (cs := (List.map I (List.replicate 4 0))) (vs := (List.map I r26)) (cs' := (List.map I r26)) H (i := 1) rfl ti101 rfl rfl rfl rfl ((List.length_map _).trans hl29) (arr_fits (k := 4) hl29 rfl) (plain_ints _) (arr_all (k := 4) hl29 rfl)) wn ?_
  rintro σ32 ⟨H, -⟩
  refine w_end (q_then (c_ret ?_))
  obtain rfl := sj h
  exact fin_ret (v := (.tuple #[(.agg (List.map I r14).toArray), (.agg (List.map I r26).toArray)])) (results_ok Tryz.results84 (res_cell rfl (run_cellRes (cs := (List.map I r14)) Tryz.underlying101 rfl ti101 (by rw [List.length_map]; exact hl17) (H.cells 1 rfl)) (res_cell rfl (run_cellRes (cs := (List.map I r26)) Tryz.underlying101 rfl ti101 (by rw [List.length_map]; exact hl29) (H.cells 0 rfl)) res_nil)) rfl) ⟨rfl, rfl, hl17, hl29⟩ (H.sel' [] rfl rfl)

end Go.Vs
