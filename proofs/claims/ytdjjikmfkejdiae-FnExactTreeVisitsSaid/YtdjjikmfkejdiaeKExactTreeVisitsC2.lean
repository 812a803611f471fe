/- The functions compute what their models say. -/
import Derived.Test.YtdjjikmfkejdiaeKExactTreeVisitsC1
set_option linter.unusedVariables false
set_option linter.unusedSimpArgs false
set_option maxRecDepth 20000
namespace Go.Vs
open Go Go.Proofs
attribute [local irreducible] Code.wp Code.wpIn wpList wpListIn wpQuiet Calls CallsIn

theorem c_spec_byDist {list_0 : List (Int × (List Int) × Int)} {kind_1 : Int} {at_2 : List Int} {alist_0 : Option Addr} {clist_0 : Nat} {aat_2 : Option Addr} {cat_2 : Nat} {r : (List (Int × (List Int) × Int))} (h : M.spec_byDist list_0 kind_1 at_2 = some r) :
    Cal2 Try.prog 86 [(Sl alist_0 list_0 clist_0), (I kind_1), (Sl aat_2 at_2 cat_2)] [Ch.ro 0 (Sl alist_0 list_0 clist_0) list_0, Ch.ro 0 (Sl aat_2 at_2 cat_2) at_2] (fun n0 v L => ∃ (az1 : Option Addr), ∃ (cz2 : Nat), v = (Sl az1 r cz2) ∧ L = [Ch.own n0 0 (Sl az1 r cz2) r]) := by
 refine cal2 (n := 68) Try.func86 rfl rfl rfl rfl ?_
 intro S0 σ0 n0 hn0 H
 unfold M.spec_byDist at h
 refine c_seq ?_
 refine rg ?_
 refine st (v := (.slice none 0 0)) (rv_assign rfl) ?_
 refine w_end ?_
 refine q_then ?_
 refine c_seq ?_
 refine rg ?_
 refine st_ex (ex_buildSlice (el := n0) (xs := ([] : List (Int × (List Int) × Int))) (ps := []) (cs := []) H hn0 Try.underlying27 ti63 rfl rfl (by kernel_rfl) (.nil) rfl) wn ?_
 rintro _ σ2 ⟨b1, rfl, H, -⟩
 refine st (v := (Sl (some ⟨b1, 0, none⟩) ([] : List (Int × (List Int) × Int)) 0)) (rv_assign rfl) ?_
 refine w_end ?_
 refine q_then ?_
 refine c_seq ?_
 refine c_seq ?_
 refine rg ?_
 refine st (v := (I 0)) (rv_assign rfl) ?_
 refine w_end ?_
 refine q_then ?_
 obtain ⟨o3, hj, h'⟩ := bind_some h
 clear h
 refine c_cut (fun e a w => e = .normal ∧ ∃ (ρ : Nat → Value) (σ : St) (aj1 : Option Addr) (cj2 : Nat), a = fr 68 (updL ρ [(7, (Sl aj1 o3 cj2))]) ∧ w = σ.w ∧ Hp S0 σ0 σ [Ch.own n0 0 (Sl aj1 o3 cj2) o3]) ?_ ?_
 ·clear h'
  rename _ = some o3 => h
  refine c_blk ?_
  replace H := H.ownLow 0 n0 0 rfl (Nat.le_refl _) (Nat.zero_le _)
  refine wp_loopM _ h (fun s4 a w => ∃ (ρ : Nat → Value) (σ : St) (aj1 : Option Addr) (cj2 : Nat), a = fr 68 (updL ρ [(0, (Sl alist_0 list_0 clist_0)), (1, (I kind_1)), (2, (Sl aat_2 at_2 cat_2)), (7, (Sl aj1 s4.1 cj2)), (8, (I s4.2))]) ∧ w = σ.w ∧ Hp S0 σ0 σ [Ch.ro 0 (Sl alist_0 list_0 clist_0) list_0, Ch.ro 0 (Sl aat_2 at_2 cat_2) at_2, Ch.own n0 0 (Sl aj1 s4.1 cj2) s4.1]) ⟨_, σ2, (some ⟨b1, 0, none⟩), 0, fr_join ⟨rfl, rfl, rfl, rfl, rfl, trivial⟩, rfl, H.sel' [1, 2, 0] rfl rfl⟩ ?_
  clear h H
  rintro s4 a w o ⟨ρ, σ5, a6, c7, rfl, rfl, H⟩ h hres
  refine c_seq ?_
  refine c_seq ?_
  refine rg ?_
  refine st (v := (I s4.2)) (rv_move rfl) ?_
  refine st (v := (Sl alist_0 list_0 clist_0)) (rv_move rfl) ?_
  refine st (v := (I (list_0.length : Int))) (rv_len Try.underlying27 rfl) ?_
  refine st (v := (B (decide (s4.2 < (list_0.length : Int))))) (rv_lss (a := s4.2) (b := (list_0.length : Int)) rfl rfl) ?_
  refine w_end ?_
  refine q_then ?_
  refine cd_cond (decide (s4.2 < (list_0.length : Int))) rfl (fun hb8 => ?_) (fun hb8 => ?_)
  ·replace h := bif_t hb8 h
   refine c_skip ?_
   refine q_then ?_
   refine c_seq ?_
   refine c_blk ?_
   refine c_seq ?_
   refine rg ?_
   refine st (v := (Sl a6 s4.1 c7)) (rv_move rfl) ?_
   refine st (v := (Sl alist_0 list_0 clist_0)) (rv_move rfl) ?_
   refine st (v := (I s4.2)) (rv_move rfl) ?_
   obtain ⟨x9, hx10, h'⟩ := bind_some h
   clear h
   have h := h'; clear h'
   obtain ⟨b12, o13, hi11, -⟩ := (H.ro 0 rfl).ix hx10
   refine st (v := (pt b12 o13)) (rv_ix Try.underlying27 ti63 rfl rfl hi11) ?_
   obtain ⟨_, ⟨_, _, rfl, rfl, ⟨_, _, rfl, ⟨_, rfl, hR18⟩, rfl⟩⟩, hl14, hc15⟩ := ((H.ro 0 rfl).at hx10 hi11).cells
   obtain ⟨a16, c17, rfl⟩ := hR18.isSl
   replace H := H.add (d := Ch.ro 0 (Sl a16 x9.2.1 c17) x9.2.1) hR18 (fun _ h => h)
   clear hR18
   refine st (v := (.agg #[(I x9.1), (Sl a16 x9.2.1 c17), (I x9.2.2)])) (rv_load Try.underlying63 rfl ti63 rfl hl14 hc15) ?_
   refine st_ex (ex_buildSlice (el := 0) (xs := ([(x9.1, x9.2.1, x9.2.2)] : List (Int × (List Int) × Int))) (ps := [(0, (.agg #[(I x9.1), (Sl a16 x9.2.1 c17), (I x9.2.2)]))]) (cs := [(I x9.1), (Sl a16 x9.2.1 c17), (I x9.2.2)]) H hn0 Try.underlying27 ti63 rfl rfl (by kernel_rfl) (.cons (c := [(I x9.1), (Sl a16 x9.2.1 c17), (I x9.2.2)]) ⟨[(I x9.1)], [(Sl a16 x9.2.1 c17), (I x9.2.2)], rfl, rfl, ⟨[(Sl a16 x9.2.1 c17)], [(I x9.2.2)], rfl, ⟨_, rfl, (H.ro 0 rfl)⟩, rfl⟩⟩ (.nil)) rfl) wn ?_
   rintro _ σ20 ⟨b19, rfl, H, -⟩
   obtain ⟨xs21, hx22, h'⟩ := bind_some h
   clear h
   have h := h'; clear h'
   refine st_ex (ex_append H (i := 4) rfl Try.underlying27 Try.underlying27 ti63 rfl rfl (by decide) (H.own 0 rfl).rd hx22 hn0 rfl rfl) wn ?_
   rintro _ σ25 ⟨a23, c24, rfl, H, -⟩
   refine st (v := (Sl a23 xs21 c24)) (rv_assign rfl) ?_
   refine w_end ?_
   refine q_then ?_
   refine c_seq ?_
   refine rg ?_
   refine st (v := (Sl a23 xs21 c24)) (rv_move rfl) ?_
   refine st (v := (I (xs21.length : Int))) (rv_len Try.underlying27 rfl) ?_
   refine st (v := (I (w64 ((xs21.length : Int) - 1)))) (rv_sub (a := (xs21.length : Int)) (b := 1) rfl rfl) ?_
   refine st (v := (I (w64 ((xs21.length : Int) - 1)))) (rv_assign rfl) ?_
   refine w_end ?_
   refine q_then ?_
   obtain ⟨o26, hj, h'⟩ := bind_some h
   clear h
   refine c_cut (fun e a w => e = .normal ∧ ∃ (ρ : Nat → Value) (σ : St), a = fr 68 (updL ρ [(0, (Sl alist_0 list_0 clist_0)), (1, (I kind_1)), (2, (Sl aat_2 at_2 cat_2)), (7, (Sl a23 o26 c24)), (8, (I s4.2))]) ∧ w = σ.w ∧ Hp S0 σ0 σ [Ch.ro 0 (Sl alist_0 list_0 clist_0) list_0, Ch.ro 0 (Sl aat_2 at_2 cat_2) at_2, Ch.own n0 0 (Sl a23 o26 c24) o26] ∧ o26.length = xs21.length) ?_ ?_
   ·clear h'
    rename _ = some o26 => h
    refine c_blk ?_
    refine wp_loopM _ h (fun s27 a w => ∃ (ρ : Nat → Value) (σ : St), a = fr 68 (updL ρ [(0, (Sl alist_0 list_0 clist_0)), (1, (I kind_1)), (2, (Sl aat_2 at_2 cat_2)), (7, (Sl a23 s27.1 c24)), (8, (I s4.2)), (9, (I s27.2))]) ∧ w = σ.w ∧ Hp S0 σ0 σ [Ch.ro 0 (Sl alist_0 list_0 clist_0) list_0, Ch.ro 0 (Sl aat_2 at_2 cat_2) at_2, Ch.own n0 0 (Sl a23 s27.1 c24) s27.1] ∧ s27.1.length = xs21.length) ⟨_, σ25, fr_join ⟨rfl, rfl, rfl, rfl, rfl, rfl, trivial⟩, rfl, H.sel' [3, 4, 0] rfl rfl, rfl⟩ ?_
    clear h H
    rintro s27 a w o ⟨ρ, σ28, rfl, rfl, H, hn29⟩ h hres
    refine c_seq ?_
    refine c_seq ?_
    obtain ⟨o30, hj, h'⟩ := bind_some h
    clear h
    refine c_cut (fun e a w => e = .normal ∧ ∃ (ρ : Nat → Value) (σ : St), a = fr 68 (updL ρ [(0, (Sl alist_0 list_0 clist_0)), (1, (I kind_1)), (2, (Sl aat_2 at_2 cat_2)), (7, (Sl a23 s27.1 c24)), (8, (I s4.2)), (9, (I s27.2)), (47, (B o30))]) ∧ w = σ.w ∧ Hp S0 σ0 σ [Ch.ro 0 (Sl alist_0 list_0 clist_0) list_0, Ch.ro 0 (Sl aat_2 at_2 cat_2) at_2, Ch.own n0 0 (Sl a23 s27.1 c24) s27.1]) ?_ ?_
    ·clear h'
     rename _ = some o30 => h
     rcases Bool.eq_false_or_eq_true (decide (0 < s27.2)) with hb31 | hb31
     ·replace h := bif_t hb31 h
      obtain ⟨x32, hx33, h'⟩ := bind_some h
      clear h
      have h := h'; clear h'
      obtain ⟨b35, o36, hi34, -⟩ := (H.own 2 rfl).ix hx33
      obtain ⟨_, ⟨_, _, rfl, rfl, ⟨_, _, rfl, ⟨_, rfl, hR41⟩, rfl⟩⟩, hl37, hc38⟩ := ((H.own 2 rfl).at hx33 hi34).cells
      obtain ⟨a39, c40, rfl⟩ := hR41.isSl
      replace H := H.add (d := Ch.ro 0 (Sl a39 x32.2.1 c40) x32.2.1) hR41 (fun _ h => h)
      clear hR41
      obtain ⟨r42, hx43, h'⟩ := bind_some h
      clear h
      have h := h'; clear h'
      have hc44 := c_spec_hit (ax_0_1 := a39) (cx_0_1 := c40) (aat_2 := aat_2) (cat_2 := cat_2) hx43
      obtain ⟨x45, hx46, h'⟩ := bind_some h
      clear h
      have h := h'; clear h'
      obtain ⟨b48, o49, hi47, -⟩ := (H.own 3 rfl).ix hx46
      obtain ⟨_, ⟨_, _, rfl, rfl, ⟨_, _, rfl, ⟨_, rfl, hR54⟩, rfl⟩⟩, hl50, hc51⟩ := ((H.own 3 rfl).at hx46 hi47).cells
      obtain ⟨a52, c53, rfl⟩ := hR54.isSl
      replace H := H.add (d := Ch.ro 0 (Sl a52 x45.2.1 c53) x45.2.1) hR54 (fun _ h => h)
      clear hR54
      have Hs := H
      refine rg2 (σ := σ28) (Nm := Unit) 17 [9] [[false], [true]] [[(0, 0)], [(0, 0)], [(0, 0)], [(0, 0)], [(0, 0)], [(0, 0)], [(0, 0)], [(0, 0)], [(0, 0)], [(0, 1)], [(0, 0), (1, 1)], [(0, 0), (1, 1)], [(0, 0), (1, 1)], [(0, 0), (1, 1)], [(0, 0), (1, 1)], [(0, 0), (1, 1)], [(0, 0), (1, 1)]] 1 [fun _ => fun σm => Hp S0 σ0 σm [Ch.ro 0 (Sl a52 x45.2.1 c53) x45.2.1, Ch.ro 0 (Sl a39 x32.2.1 c40) x32.2.1, Ch.ro 0 (Sl alist_0 list_0 clist_0) list_0, Ch.ro 0 (Sl aat_2 at_2 cat_2) at_2, Ch.own n0 0 (Sl a23 s27.1 c24) s27.1] ∧ Md (cov []) σ28 σm, fun _ => fun σm => Hp S0 σ0 σm [Ch.ro 0 (Sl a52 x45.2.1 c53) x45.2.1, Ch.ro 0 (Sl a39 x32.2.1 c40) x32.2.1, Ch.ro 0 (Sl alist_0 list_0 clist_0) list_0, Ch.ro 0 (Sl aat_2 at_2 cat_2) at_2, Ch.own n0 0 (Sl a23 s27.1 c24) s27.1] ∧ Md (cov []) σ28 σm] [fun _ => (I s27.2), fun _ => (B (decide (0 < s27.2))), fun _ => (B (decide (0 < s27.2))), fun _ => (Sl a23 s27.1 c24), fun _ => (I s27.2), fun _ => (pt b35 o36), fun _ => (.agg #[(I x32.1), (Sl a39 x32.2.1 c40), (I x32.2.2)]), fun _ => (I kind_1), fun _ => (Sl aat_2 at_2 cat_2), fun _ => (.agg #[(I r42.1), (I r42.2)]), fun _ => (Sl a23 s27.1 c24), fun _ => (I s27.2), fun _ => (I (w64 (s27.2 - 1))), fun _ => (pt b48 o49), fun _ => (.agg #[(I x45.1), (Sl a52 x45.2.1 c53), (I x45.2.2)]), fun _ => (I kind_1), fun _ => (Sl aat_2 at_2 cat_2)] () (by kernel_rfl) (by kernel_rfl) ?_ ?_ ?_
      ·intro σm m0
       exact ⟨H.grow (m0.mono fun _ h => h.elim), m0⟩
      ·refine ac rfl (by
         intro k _nm ρ σm hJ hoff hdep
         have e9 := look_off (N := 68) (hoff 9 rfl) rfl
         exact dp_v (v := (I s27.2)) wn (rv_move e9) rfl hJ) ?_
       refine ac rfl (by
         intro k _nm ρ σm hJ hoff hdep
         have e28 := hdep 0 rfl rfl 28 rfl
         exact dp_v (v := (B (decide (0 < s27.2)))) wn (rv_gtr (a := s27.2) (b := 0) e28 rfl) rfl hJ) ?_
       refine ac rfl (by
         intro k _nm ρ σm hJ hoff hdep
         have e29 := hdep 1 rfl rfl 29 rfl
         exact dp_v (v := (B (decide (0 < s27.2)))) wn (rv_move e29) rfl hJ) ?_
       refine ac rfl (by
         intro k _nm ρ σm hJ hoff hdep
         have e7 := look_off (N := 68) (hoff 7 rfl) rfl
         have e30 := hdep 2 rfl rfl 30 rfl
         exact dp_v (v := (Sl a23 s27.1 c24)) (wanted_yes rfl (yv_of rfl (e30.trans (congrArg B hb31)))) (rv_move e7) rfl hJ) ?_
       refine ac rfl (by
         intro k _nm ρ σm hJ hoff hdep
         have e9 := look_off (N := 68) (hoff 9 rfl) rfl
         have e30 := hdep 2 rfl rfl 30 rfl
         exact dp_v (v := (I s27.2)) (wanted_yes rfl (yv_of rfl (e30.trans (congrArg B hb31)))) (rv_move e9) rfl hJ) ?_
       refine ac rfl (by
         intro k _nm ρ σm hJ hoff hdep
         have e31 := hdep 3 rfl rfl 31 rfl
         have e32 := hdep 4 rfl rfl 32 rfl
         have e30 := hdep 2 rfl rfl 30 rfl
         exact dp_v (v := (pt b35 o36)) (wanted_yes rfl (yv_of rfl (e30.trans (congrArg B hb31)))) (rv_ix Try.underlying27 ti63 e31 e32 hi34) rfl hJ) ?_
       refine all_cons (by
         refine ⟨?_, ?_⟩
         ·intro _nm ρ σm hJ hoff hdep
          have e33 := hdep 5 rfl rfl 33 rfl
          have e30 := hdep 2 rfl rfl 30 rfl
          obtain ⟨H, m⟩ := id hJ
          replace hc38 := fun j hj => m.hcell (hc38 j hj) nocov
          exact dp_v (v := (.agg #[(I x32.1), (Sl a39 x32.2.1 c40), (I x32.2.2)])) (wanted_yes rfl (yv_of rfl (e30.trans (congrArg B hb31)))) (rv_load Try.underlying63 rfl ti63 e33 hl37 hc38) rfl hJ
         trivial) ?_
       refine ac rfl (by
         intro k _nm ρ σm hJ hoff hdep
         have e1 := look_off (N := 68) (hoff 1 rfl) rfl
         have e30 := hdep 2 rfl rfl 30 rfl
         exact dp_v (v := (I kind_1)) (wanted_yes rfl (yv_of rfl (e30.trans (congrArg B hb31)))) (rv_move e1) rfl hJ) ?_
       refine ac rfl (by
         intro k _nm ρ σm hJ hoff hdep
         have e2 := look_off (N := 68) (hoff 2 rfl) rfl
         have e30 := hdep 2 rfl rfl 30 rfl
         exact dp_v (v := (Sl aat_2 at_2 cat_2)) (wanted_yes rfl (yv_of rfl (e30.trans (congrArg B hb31)))) (rv_move e2) rfl hJ) ?_
       refine all_cons (by
         refine ⟨?_, ?_⟩
         ·intro _nm ρ σm hJ hoff hdep
          have e34 : look 68 ρ 34 = (.agg #[(I x32.1), (Sl a39 x32.2.1 c40), (I x32.2.2)]) := hdep 6 rfl rfl 34 rfl
          have e35 : look 68 ρ 35 = (I kind_1) := hdep 7 rfl rfl 35 rfl
          have e36 : look 68 ρ 36 = (Sl aat_2 at_2 cat_2) := hdep 8 rfl rfl 36 rfl
          have e30 := hdep 2 rfl rfl 30 rfl
          obtain ⟨H, m⟩ := id hJ
          refine dp_cx (wanted_yes rfl (yv_of rfl (e30.trans (congrArg B hb31)))) (cx_call hc44 (ent_f hc44.fn (by show [look 68 ρ 34, look 68 ρ 35, look 68 ρ 36] = _; rw [e34, e35, e36])) hn0 (show Hp S0 σ0 _ ([Ch.ro 0 (Sl a39 x32.2.1 c40) x32.2.1, Ch.ro 0 (Sl aat_2 at_2 cat_2) at_2] ++ [Ch.ro 0 (Sl a52 x45.2.1 c53) x45.2.1, Ch.ro 0 (Sl a39 x32.2.1 c40) x32.2.1, Ch.ro 0 (Sl alist_0 list_0 clist_0) list_0, Ch.ro 0 (Sl aat_2 at_2 cat_2) at_2, Ch.own n0 0 (Sl a23 s27.1 c24) s27.1]) from (H.sel' [1, 3, 0, 1, 2, 3, 4] rfl rfl))) ?_
          rintro _ σq ⟨_, ⟨rfl, rfl⟩, H2, m2⟩
          exact ⟨_, (), rfl, rfl, ⟨H2.sel' [0, 1, 2, 3, 4] rfl rfl, m.comp0 (m2.mono (fun i h => by simp [cov, Ch.ro] at h))⟩, stab [0, 1, 2, 3, 4, 5, 6, 7, 8, 10, 11, 12, 13, 14, 15, 16] (by kernel_rfl) ⟨rfl, rfl, rfl, rfl, rfl, rfl, rfl, rfl, rfl, rfl, rfl, rfl, rfl, rfl, rfl, rfl, trivial⟩⟩
         trivial) ?_
       refine ac rfl (by
         intro k _nm ρ σm hJ hoff hdep
         have e7 := look_off (N := 68) (hoff 7 rfl) rfl
         have e30 := hdep 2 rfl rfl 30 rfl
         exact dp_v (v := (Sl a23 s27.1 c24)) (wanted_yes rfl (yv_of rfl (e30.trans (congrArg B hb31)))) (rv_move e7) rfl hJ) ?_
       refine ac rfl (by
         intro k _nm ρ σm hJ hoff hdep
         have e9 := look_off (N := 68) (hoff 9 rfl) rfl
         have e30 := hdep 2 rfl rfl 30 rfl
         exact dp_v (v := (I s27.2)) (wanted_yes rfl (yv_of rfl (e30.trans (congrArg B hb31)))) (rv_move e9) rfl hJ) ?_
       refine ac rfl (by
         intro k _nm ρ σm hJ hoff hdep
         have e39 := hdep 11 rfl rfl 39 rfl
         have e30 := hdep 2 rfl rfl 30 rfl
         exact dp_v (v := (I (w64 (s27.2 - 1)))) (wanted_yes rfl (yv_of rfl (e30.trans (congrArg B hb31)))) (rv_sub (a := s27.2) (b := 1) e39 rfl) rfl hJ) ?_
       refine ac rfl (by
         intro k _nm ρ σm hJ hoff hdep
         have e38 := hdep 10 rfl rfl 38 rfl
         have e40 := hdep 12 rfl rfl 40 rfl
         have e30 := hdep 2 rfl rfl 30 rfl
         exact dp_v (v := (pt b48 o49)) (wanted_yes rfl (yv_of rfl (e30.trans (congrArg B hb31)))) (rv_ix Try.underlying27 ti63 e38 e40 hi47) rfl hJ) ?_
       refine all_cons (by
         refine ⟨?_, ?_⟩
         ·intro _nm ρ σm hJ hoff hdep
          have e41 := hdep 13 rfl rfl 41 rfl
          have e30 := hdep 2 rfl rfl 30 rfl
          obtain ⟨H, m⟩ := id hJ
          replace hc51 := fun j hj => m.hcell (hc51 j hj) nocov
          exact dp_v (v := (.agg #[(I x45.1), (Sl a52 x45.2.1 c53), (I x45.2.2)])) (wanted_yes rfl (yv_of rfl (e30.trans (congrArg B hb31)))) (rv_load Try.underlying63 rfl ti63 e41 hl50 hc51) rfl hJ
         refine ⟨?_, ?_⟩
         ·intro _nm ρ σm hJ hoff hdep
          have e41 := hdep 13 rfl rfl 41 rfl
          have e30 := hdep 2 rfl rfl 30 rfl
          obtain ⟨H, m⟩ := id hJ
          replace hc51 := fun j hj => m.hcell (hc51 j hj) nocov
          exact dp_v (v := (.agg #[(I x45.1), (Sl a52 x45.2.1 c53), (I x45.2.2)])) (wanted_yes rfl (yv_of rfl (e30.trans (congrArg B hb31)))) (rv_load Try.underlying63 rfl ti63 e41 hl50 hc51) rfl hJ
         trivial) ?_
       refine ac rfl (by
         intro k _nm ρ σm hJ hoff hdep
         have e1 := look_off (N := 68) (hoff 1 rfl) rfl
         have e30 := hdep 2 rfl rfl 30 rfl
         exact dp_v (v := (I kind_1)) (wanted_yes rfl (yv_of rfl (e30.trans (congrArg B hb31)))) (rv_move e1) rfl hJ) ?_
       refine ac rfl (by
         intro k _nm ρ σm hJ hoff hdep
         have e2 := look_off (N := 68) (hoff 2 rfl) rfl
         have e30 := hdep 2 rfl rfl 30 rfl
         exact dp_v (v := (Sl aat_2 at_2 cat_2)) (wanted_yes rfl (yv_of rfl (e30.trans (congrArg B hb31)))) (rv_move e2) rfl hJ) ?_
       exact all_nil
      ·intro _nm ρ σ55 hJ hoff hrel
       have e0 := look_off (N := 68) (hoff 0 rfl) rfl
       have e1 := look_off (N := 68) (hoff 1 rfl) rfl
       have e2 := look_off (N := 68) (hoff 2 rfl) rfl
       have e7 := look_off (N := 68) (hoff 7 rfl) rfl
       have e8 := look_off (N := 68) (hoff 8 rfl) rfl
       have e9 := look_off (N := 68) (hoff 9 rfl) rfl
       have e30 := hrel 2 rfl 30 rfl
       have e37 := hrel 9 rfl 37 rfl
       have e42 := hrel 14 rfl 42 rfl
       have e43 := hrel 15 rfl 43 rfl
       have e44 := hrel 16 rfl 44 rfl
       obtain ⟨H, -⟩ := (show Hp S0 σ0 σ55 [Ch.ro 0 (Sl a52 x45.2.1 c53) x45.2.1, Ch.ro 0 (Sl a39 x32.2.1 c40) x32.2.1, Ch.ro 0 (Sl alist_0 list_0 clist_0) list_0, Ch.ro 0 (Sl aat_2 at_2 cat_2) at_2, Ch.own n0 0 (Sl a23 s27.1 c24) s27.1] ∧ Md (cov []) σ28 σ55 from hJ)
       clear hJ Hs
       rw [fr_lookL (L := [(0, (Sl alist_0 list_0 clist_0)), (1, (I kind_1)), (2, (Sl aat_2 at_2 cat_2)), (7, (Sl a23 s27.1 c24)), (8, (I s4.2)), (9, (I s27.2)), (30, (B (decide (0 < s27.2)))), (37, (.agg #[(I r42.1), (I r42.2)])), (42, (.agg #[(I x45.1), (Sl a52 x45.2.1 c53), (I x45.2.2)])), (43, (I kind_1)), (44, (Sl aat_2 at_2 cat_2))]) ⟨e0, e1, e2, e7, e8, e9, e30, e37, e42, e43, e44, trivial⟩]
       clear hoff hrel e0 e1 e2 e7 e8 e9 e30 e37 e42 e43 e44
       obtain ⟨r56, hx57, h'⟩ := bind_some h
       clear h
       have h := h'; clear h'
       have hc58 := c_spec_hit (ax_0_1 := a52) (cx_0_1 := c53) (aat_2 := aat_2) (cat_2 := cat_2) hx57
       refine st_call (cx_call hc58 (ent_f hc58.fn rfl) hn0 (show Hp S0 σ0 _ ([Ch.ro 0 (Sl a52 x45.2.1 c53) x45.2.1, Ch.ro 0 (Sl aat_2 at_2 cat_2) at_2] ++ [Ch.ro 0 (Sl a52 x45.2.1 c53) x45.2.1, Ch.ro 0 (Sl a39 x32.2.1 c40) x32.2.1, Ch.ro 0 (Sl alist_0 list_0 clist_0) list_0, Ch.ro 0 (Sl aat_2 at_2 cat_2) at_2, Ch.own n0 0 (Sl a23 s27.1 c24) s27.1]) from (H.sel' [0, 3, 0, 1, 2, 3, 4] rfl rfl))) (wanted_yes rfl (by exact (congrArg some hb31))) ?_
       rintro _ σ59 ⟨_, ⟨rfl, rfl⟩, H, -⟩
       replace H : Hp S0 σ0 σ59 [Ch.ro 0 (Sl a52 x45.2.1 c53) x45.2.1, Ch.ro 0 (Sl a39 x32.2.1 c40) x32.2.1, Ch.ro 0 (Sl alist_0 list_0 clist_0) list_0, Ch.ro 0 (Sl aat_2 at_2 cat_2) at_2, Ch.own n0 0 (Sl a23 s27.1 c24) s27.1] := H
       obtain ⟨r60, hx61, h'⟩ := bind_some h
       clear h
       have h := h'; clear h'
       have hc62 := c_spec_nearer hx61
       refine st_call (cx_call hc62 (ent_f hc62.fn rfl) hn0 (show Hp S0 σ0 _ ([] ++ [Ch.ro 0 (Sl a52 x45.2.1 c53) x45.2.1, Ch.ro 0 (Sl a39 x32.2.1 c40) x32.2.1, Ch.ro 0 (Sl alist_0 list_0 clist_0) list_0, Ch.ro 0 (Sl aat_2 at_2 cat_2) at_2, Ch.own n0 0 (Sl a23 s27.1 c24) s27.1]) from (H.sel' [0, 1, 2, 3, 4] rfl rfl))) (wanted_yes rfl (by exact (congrArg some hb31))) ?_
       rintro _ σ63 ⟨_, ⟨rfl, rfl⟩, H, -⟩
       replace H : Hp S0 σ0 σ63 [Ch.ro 0 (Sl a52 x45.2.1 c53) x45.2.1, Ch.ro 0 (Sl a39 x32.2.1 c40) x32.2.1, Ch.ro 0 (Sl alist_0 list_0 clist_0) list_0, Ch.ro 0 (Sl aat_2 at_2 cat_2) at_2, Ch.own n0 0 (Sl a23 s27.1 c24) s27.1] := H
       refine st (v := (B r60)) (rv_pick_t (congrArg B hb31) rfl) ?_
       refine w_end ?_
       obtain rfl := Option.some.inj h
       exact ⟨rfl, _, σ63, fr_join ⟨rfl, rfl, rfl, rfl, rfl, rfl, rfl, trivial⟩, rfl, H.sel' [2, 3, 4] rfl rfl⟩
     ·replace h := bif_f hb31 h
      have Hs := H
      refine rg2 (σ := σ28) (Nm := Unit) 17 [] [[]] [[(0, 0)], [(0, 0)], [(0, 0)], [(0, 0)], [(0, 0)], [(0, 0)], [(0, 0)], [(0, 0)], [(0, 0)], [(0, 0)], [(0, 0)], [(0, 0)], [(0, 0)], [(0, 0)], [(0, 0)], [(0, 0)], [(0, 0)]] 0 [fun _ => fun σm => Hp S0 σ0 σm [Ch.ro 0 (Sl alist_0 list_0 clist_0) list_0, Ch.ro 0 (Sl aat_2 at_2 cat_2) at_2, Ch.own n0 0 (Sl a23 s27.1 c24) s27.1] ∧ Md (cov []) σ28 σm] [fun _ => (I s27.2), fun _ => (B (decide (0 < s27.2))), fun _ => (B (decide (0 < s27.2))), fun _ => undef, fun _ => undef, fun _ => undef, fun _ => undef, fun _ => undef, fun _ => undef, fun _ => undef, fun _ => undef, fun _ => undef, fun _ => undef, fun _ => undef, fun _ => undef, fun _ => undef, fun _ => undef] () (by kernel_rfl) (by kernel_rfl) ?_ ?_ ?_
      ·intro σm m0
       exact ⟨H.grow (m0.mono fun _ h => h.elim), m0⟩
      ·refine ac rfl (by
         intro k _nm ρ σm hJ hoff hdep
         have e9 := look_off (N := 68) (hoff 9 rfl) rfl
         exact dp_v (v := (I s27.2)) wn (rv_move e9) rfl hJ) ?_
       refine ac rfl (by
         intro k _nm ρ σm hJ hoff hdep
         have e28 := hdep 0 rfl rfl 28 rfl
         exact dp_v (v := (B (decide (0 < s27.2)))) wn (rv_gtr (a := s27.2) (b := 0) e28 rfl) rfl hJ) ?_
       refine ac rfl (by
         intro k _nm ρ σm hJ hoff hdep
         have e29 := hdep 1 rfl rfl 29 rfl
         exact dp_v (v := (B (decide (0 < s27.2)))) wn (rv_move e29) rfl hJ) ?_
       refine ac rfl (by
         intro k _nm ρ σm hJ hoff hdep
         have e30 := hdep 2 rfl rfl 30 rfl
         exact dp_skip (wanted_no rfl (yv_of rfl (e30.trans (congrArg B hb31)))) rfl hJ) ?_
       refine ac rfl (by
         intro k _nm ρ σm hJ hoff hdep
         have e30 := hdep 2 rfl rfl 30 rfl
         exact dp_skip (wanted_no rfl (yv_of rfl (e30.trans (congrArg B hb31)))) rfl hJ) ?_
       refine ac rfl (by
         intro k _nm ρ σm hJ hoff hdep
         have e30 := hdep 2 rfl rfl 30 rfl
         exact dp_skip (wanted_no rfl (yv_of rfl (e30.trans (congrArg B hb31)))) rfl hJ) ?_
       refine ac rfl (by
         intro k _nm ρ σm hJ hoff hdep
         have e30 := hdep 2 rfl rfl 30 rfl
         exact dp_skip (wanted_no rfl (yv_of rfl (e30.trans (congrArg B hb31)))) rfl hJ) ?_
       refine ac rfl (by
         intro k _nm ρ σm hJ hoff hdep
         have e30 := hdep 2 rfl rfl 30 rfl
         exact dp_skip (wanted_no rfl (yv_of rfl (e30.trans (congrArg B hb31)))) rfl hJ) ?_
       refine ac rfl (by
         intro k _nm ρ σm hJ hoff hdep
         have e30 := hdep 2 rfl rfl 30 rfl
         exact dp_skip (wanted_no rfl (yv_of rfl (e30.trans (congrArg B hb31)))) rfl hJ) ?_
       refine ac rfl (by
         intro k _nm ρ σm hJ hoff hdep
         have e30 := hdep 2 rfl rfl 30 rfl
         exact dp_skip (wanted_no rfl (yv_of rfl (e30.trans (congrArg B hb31)))) rfl hJ) ?_
       refine ac rfl (by
         intro k _nm ρ σm hJ hoff hdep
         have e30 := hdep 2 rfl rfl 30 rfl
         exact dp_skip (wanted_no rfl (yv_of rfl (e30.trans (congrArg B hb31)))) rfl hJ) ?_
       refine ac rfl (by
         intro k _nm ρ σm hJ hoff hdep
         have e30 := hdep 2 rfl rfl 30 rfl
         exact dp_skip (wanted_no rfl (yv_of rfl (e30.trans (congrArg B hb31)))) rfl hJ) ?_
       refine ac rfl (by
         intro k _nm ρ σm hJ hoff hdep
         have e30 := hdep 2 rfl rfl 30 rfl
         exact dp_skip (wanted_no rfl (yv_of rfl (e30.trans (congrArg B hb31)))) rfl hJ) ?_
       refine ac rfl (by
         intro k _nm ρ σm hJ hoff hdep
         have e30 := hdep 2 rfl rfl 30 rfl
         exact dp_skip (wanted_no rfl (yv_of rfl (e30.trans (congrArg B hb31)))) rfl hJ) ?_
       refine ac rfl (by
         intro k _nm ρ σm hJ hoff hdep
         have e30 := hdep 2 rfl rfl 30 rfl
         exact dp_skip (wanted_no rfl (yv_of rfl (e30.trans (congrArg B hb31)))) rfl hJ) ?_
       refine ac rfl (by
         intro k _nm ρ σm hJ hoff hdep
         have e30 := hdep 2 rfl rfl 30 rfl
         exact dp_skip (wanted_no rfl (yv_of rfl (e30.trans (congrArg B hb31)))) rfl hJ) ?_
       refine ac rfl (by
         intro k _nm ρ σm hJ hoff hdep
         have e30 := hdep 2 rfl rfl 30 rfl
         exact dp_skip (wanted_no rfl (yv_of rfl (e30.trans (congrArg B hb31)))) rfl hJ) ?_
       exact all_nil
      ·intro _nm ρ σ64 hJ hoff hrel
       have e0 := look_off (N := 68) (hoff 0 rfl) rfl
       have e1 := look_off (N := 68) (hoff 1 rfl) rfl
       have e2 := look_off (N := 68) (hoff 2 rfl) rfl
       have e7 := look_off (N := 68) (hoff 7 rfl) rfl
       have e8 := look_off (N := 68) (hoff 8 rfl) rfl
       have e9 := look_off (N := 68) (hoff 9 rfl) rfl
       have e30 := hrel 2 rfl 30 rfl
       have e37 := hrel 9 rfl 37 rfl
       have e42 := hrel 14 rfl 42 rfl
       have e43 := hrel 15 rfl 43 rfl
       have e44 := hrel 16 rfl 44 rfl
       obtain ⟨H, -⟩ := (show Hp S0 σ0 σ64 [Ch.ro 0 (Sl alist_0 list_0 clist_0) list_0, Ch.ro 0 (Sl aat_2 at_2 cat_2) at_2, Ch.own n0 0 (Sl a23 s27.1 c24) s27.1] ∧ Md (cov []) σ28 σ64 from hJ)
       clear hJ Hs
       rw [fr_lookL (L := [(0, (Sl alist_0 list_0 clist_0)), (1, (I kind_1)), (2, (Sl aat_2 at_2 cat_2)), (7, (Sl a23 s27.1 c24)), (8, (I s4.2)), (9, (I s27.2)), (30, (B (decide (0 < s27.2)))), (37, undef), (42, undef), (43, undef), (44, undef)]) ⟨e0, e1, e2, e7, e8, e9, e30, e37, e42, e43, e44, trivial⟩]
       clear hoff hrel e0 e1 e2 e7 e8 e9 e30 e37 e42 e43 e44
       refine st_skip (congrArg some hb31) ?_
       refine st_skip (congrArg some hb31) ?_
       refine st (v := (B false)) (rv_pick_f (congrArg B hb31) rfl) ?_
       refine w_end ?_
       obtain rfl := Option.some.inj h
       exact ⟨rfl, _, σ64, fr_join ⟨rfl, rfl, rfl, rfl, rfl, rfl, rfl, trivial⟩, rfl, H.sel' [0, 1, 2] rfl rfl⟩
    ·clear hj
     have h := h'
     clear h' H
     rintro e a w ⟨rfl, ρ, σ65, rfl, rfl, H⟩
     refine q_then ?_
     refine cd_cond o30 rfl (fun hb66 => ?_) (fun hb66 => ?_)
     ·replace h := bif_t hb66 h
      refine c_skip ?_
      refine q_then ?_
      refine c_seq ?_
      refine c_blk ?_
      refine c_seq ?_
      refine rg ?_
      refine st (v := (Sl a23 s27.1 c24)) (rv_move rfl) ?_
      refine st (v := (I s27.2)) (rv_move rfl) ?_
      obtain ⟨x67, hx68, h'⟩ := bind_some h
      clear h
      have h := h'; clear h'
      obtain ⟨b70, o71, hi69, -⟩ := (H.own 2 rfl).ix hx68
      refine st (v := (pt b70 o71)) (rv_ix Try.underlying27 ti63 rfl rfl hi69) ?_
      obtain ⟨_, ⟨_, _, rfl, rfl, ⟨_, _, rfl, ⟨_, rfl, hR76⟩, rfl⟩⟩, hl72, hc73⟩ := ((H.own 2 rfl).at hx68 hi69).cells
      obtain ⟨a74, c75, rfl⟩ := hR76.isSl
      replace H := H.add (d := Ch.ro 0 (Sl a74 x67.2.1 c75) x67.2.1) hR76 (fun _ h => h)
      clear hR76
      refine st (v := (.agg #[(I x67.1), (Sl a74 x67.2.1 c75), (I x67.2.2)])) (rv_load Try.underlying63 rfl ti63 rfl hl72 hc73) ?_
      refine st_ex (ex_alloc (cs := [(I 0), (.slice none 0 0), (I 0)]) H hn0 ti63 rfl) wn ?_
      rintro _ σ78 ⟨b77, rfl, H, -⟩
      refine st_exS (ex_store_box (k := 0) (cs := [(I 0), (.slice none 0 0), (I 0)]) (vs := [(I x67.1), (Sl a74 x67.2.1 c75), (I x67.2.2)]) (cs' := [(I x67.1), (Sl a74 x67.2.1 c75), (I x67.2.2)]) H (i := 0) rfl ti63 rfl rfl rfl rfl rfl (Nat.le_of_ble_eq_true rfl) (by simp [plain]) rfl) wn ?_
      rintro σ79 ⟨H, -⟩
      refine w_end ?_
      refine q_then ?_
      refine c_seq ?_
      refine rg ?_
      refine st (v := (Sl a23 s27.1 c24)) (rv_move rfl) ?_
      refine st (v := (I s27.2)) (rv_move rfl) ?_
      refine st (v := (Sl a23 s27.1 c24)) (rv_move rfl) ?_
      refine st (v := (I s27.2)) (rv_move rfl) ?_
      refine st (v := (I (w64 (s27.2 - 1)))) (rv_sub (a := s27.2) (b := 1) rfl rfl) ?_
      obtain ⟨x80, hx81, h'⟩ := bind_some h
      clear h
      have h := h'; clear h'
      obtain ⟨b83, o84, hi82, -⟩ := (H.own 4 rfl).ix hx81
      refine st (v := (pt b83 o84)) (rv_ix Try.underlying27 ti63 rfl rfl hi82) ?_
      obtain ⟨_, ⟨_, _, rfl, rfl, ⟨_, _, rfl, ⟨_, rfl, hR89⟩, rfl⟩⟩, hl85, hc86⟩ := ((H.own 4 rfl).at hx81 hi82).cells
      obtain ⟨a87, c88, rfl⟩ := hR89.isSl
      replace H := H.add (d := Ch.ro 0 (Sl a87 x80.2.1 c88) x80.2.1) hR89 (fun _ h => h)
      clear hR89
      refine st (v := (.agg #[(I x80.1), (Sl a87 x80.2.1 c88), (I x80.2.2)])) (rv_load Try.underlying63 rfl ti63 rfl hl85 hc86) ?_
      obtain ⟨x90, hx91, h'⟩ := bind_some h
      clear h
      have h := h'; clear h'
      obtain ⟨b93, o94, hi92, -⟩ := (H.own 5 rfl).ix hx91
      refine st (v := (pt b93 o94)) (rv_ix Try.underlying27 ti63 rfl rfl hi92) ?_
      refine st_exS (ex_store_own (e' := (x80.1, x80.2.1, x80.2.2)) (vs := [(I x80.1), (Sl a87 x80.2.1 c88), (I x80.2.2)]) (k := 0) H (i := 5) rfl ti63 hx91 hi92 rfl rfl rfl rfl rfl (Nat.le_of_ble_eq_true rfl) (by simp [plain]) (by rintro _ ⟨_, _, rfl, rfl, ⟨_, _, rfl, ⟨_, rfl, hR97⟩, rfl⟩⟩; exact ⟨[(I x80.1)], [(Sl a87 x80.2.1 c88), (I x80.2.2)], rfl, rfl, ⟨[(Sl a87 x80.2.1 c88)], [(I x80.2.2)], rfl, ⟨_, rfl, (H.ro 0 rfl)⟩, rfl⟩⟩)) wn ?_
      rintro σ98 ⟨H, -⟩
      have hsl : (Sl a23 s27.1 c24) = (Sl a23 (s27.1.set s27.2.toNat (x80.1, x80.2.1, x80.2.2)) c24) := sl_len List.length_set.symm
      rw [hsl]; rw [hsl] at H; clear hsl
      refine w_end ?_
      refine q_then ?_
      refine rg ?_
      refine st (v := (Sl a23 (s27.1.set s27.2.toNat (x80.1, x80.2.1, x80.2.2)) c24)) (rv_move rfl) ?_
      refine st (v := (I s27.2)) (rv_move rfl) ?_
      refine st (v := (I (w64 (s27.2 - 1)))) (rv_sub (a := s27.2) (b := 1) rfl rfl) ?_
      have hc99 := H.cells 2 rfl
      refine st (v := (.agg #[(I x67.1), (Sl a74 x67.2.1 c75), (I x67.2.2)])) (rv_load (cs := [(I x67.1), (Sl a74 x67.2.1 c75), (I x67.2.2)]) Try.underlying63 rfl ti63 rfl rfl hc99) ?_
      obtain ⟨x100, hx101, h'⟩ := bind_some h
      clear h
      have h := h'; clear h'
      obtain ⟨b103, o104, hi102, -⟩ := (H.own 0 rfl).ix hx101
      refine st (v := (pt b103 o104)) (rv_ix Try.underlying27 ti63 rfl rfl hi102) ?_
      refine st_exS (ex_store_own (e' := (x67.1, x67.2.1, x67.2.2)) (vs := [(I x67.1), (Sl a74 x67.2.1 c75), (I x67.2.2)]) (k := 0) H (i := 0) rfl ti63 hx101 hi102 rfl rfl rfl rfl rfl (Nat.le_of_ble_eq_true rfl) (by simp [plain]) (by rintro _ ⟨_, _, rfl, rfl, ⟨_, _, rfl, ⟨_, rfl, hR107⟩, rfl⟩⟩; exact ⟨[(I x67.1)], [(Sl a74 x67.2.1 c75), (I x67.2.2)], rfl, rfl, ⟨[(Sl a74 x67.2.1 c75)], [(I x67.2.2)], rfl, ⟨_, rfl, (H.ro 3 rfl)⟩, rfl⟩⟩)) wn ?_
      rintro σ108 ⟨H, -⟩
      have hsl : (Sl a23 (s27.1.set s27.2.toNat (x80.1, x80.2.1, x80.2.2)) c24) = (Sl a23 ((s27.1.set s27.2.toNat (x80.1, x80.2.1, x80.2.2)).set (w64 (s27.2 - 1)).toNat (x67.1, x67.2.1, x67.2.2)) c24) := sl_len List.length_set.symm
      rw [hsl]; rw [hsl] at H; clear hsl
      refine w_end ?_
      refine q_blk ?_
      refine q_then ?_
      refine rg ?_
      refine st (v := (I s27.2)) (rv_move rfl) ?_
      refine st (v := (I (w64 (s27.2 - 1)))) (rv_sub (a := s27.2) (b := 1) rfl rfl) ?_
      refine st (v := (I (w64 (s27.2 - 1)))) (rv_assign rfl) ?_
      refine w_end ?_
      refine q_then ?_
      obtain rfl := Option.some.inj h
      exact ⟨_, rfl, _, σ108, fr_join ⟨rfl, rfl, rfl, rfl, rfl, rfl, trivial⟩, rfl, H.sel' [4, 5, 0] rfl rfl, (List.length_set.trans (List.length_set.trans hn29))⟩
     ·replace h := bif_f hb66 h
      refine c_exit ?_
      refine q_then_x ?_
      refine q_then_x ?_
      refine q_blk_hit ?_
      obtain rfl := Option.some.inj h
      obtain rfl := hres _ rfl
      exact ⟨rfl, _, σ65, fr_join ⟨rfl, rfl, rfl, rfl, rfl, trivial⟩, rfl, H.sel' [0, 1, 2] rfl rfl, hn29⟩
   ·clear hj
    have h := h'
    clear h' H
    rintro e a w ⟨rfl, ρ, σ109, rfl, rfl, H, hn110⟩
    refine q_blk ?_
    refine q_then ?_
    refine rg ?_
    refine st (v := (I s4.2)) (rv_move rfl) ?_
    refine st (v := (I (w64 (s4.2 + 1)))) (rv_add (a := s4.2) (b := 1) rfl rfl) ?_
    refine st (v := (I (w64 (s4.2 + 1)))) (rv_assign rfl) ?_
    refine w_end ?_
    refine q_then ?_
    obtain rfl := Option.some.inj h
    exact ⟨_, rfl, _, σ109, a23, c24, fr_join ⟨rfl, rfl, rfl, rfl, rfl, trivial⟩, rfl, H.sel' [0, 1, 2] rfl rfl⟩
  ·replace h := bif_f hb8 h
   refine c_exit ?_
   refine q_then_x ?_
   refine q_then_x ?_
   refine q_blk_hit ?_
   obtain rfl := Option.some.inj h
   obtain rfl := hres _ rfl
   exact ⟨rfl, _, σ5, a6, c7, fr_join ⟨rfl, trivial⟩, rfl, H.sel' [2] rfl rfl⟩
 ·clear hj
  have h := h'
  clear h' H
  rintro e a w ⟨rfl, ρ, σ111, a112, c113, rfl, rfl, H⟩
  refine q_then ?_
  refine c_seq ?_
  refine rg ?_
  refine st (v := (Sl a112 o3 c113)) (rv_move rfl) ?_
  refine st (v := (Sl a112 o3 c113)) (rv_assign rfl) ?_
  refine w_end ?_
  refine q_then ?_
  refine c_ret ?_
  obtain rfl := Option.some.inj h
  exact fin_ret (v := (Sl a112 o3 c113)) (results_ok Try.results86 (res_tmp (v := (Sl a112 o3 c113)) rfl res_nil) rfl) ⟨a112, c113, rfl, rfl⟩ (H.sel' [0] rfl rfl)

theorem c_spec_grow : ∀ (fuel : Nat) {nodes_0 : List (Int × Int × Int × Int)} {list_1 : List (Int × (List Int) × Int)} {kind_2 : Int} {anodes_0 : Option Addr} {cnodes_0 : Nat} {alist_1 : Option Addr} {clist_1 : Nat} {r : (List (Int × Int × Int × Int))} (h : M.spec_grow fuel nodes_0 list_1 kind_2 = some r),
    Cal2 Try.prog 55 [(Sl anodes_0 nodes_0 cnodes_0), (Sl alist_1 list_1 clist_1), (I kind_2)] [Ch.own 0 0 (Sl anodes_0 nodes_0 cnodes_0) nodes_0, Ch.ro 0 (Sl alist_1 list_1 clist_1) list_1] (fun n0 v L => ∃ (az1 : Option Addr), ∃ (cz2 : Nat), v = (Sl az1 r cz2) ∧ L = [Ch.own 0 n0 (Sl az1 r cz2) r]) := by
 intro fuel
 induction fuel with
 | zero => intro _ _ _ _ _ _ _ r h; cases h
 | succ fuel ih =>
 ·intro nodes_0 list_1 kind_2 anodes_0 cnodes_0 alist_1 clist_1 r h
  replace h : M.spec_grow_F (M.spec_grow fuel) nodes_0 list_1 kind_2 = some r := h
  refine cal2 (n := 83) Try.func55 rfl rfl rfl rfl ?_
  intro S0 σ0 n0 hn0 H
  unfold M.spec_grow_F at h
  refine c_seq ?_
  refine rg ?_
  refine st (v := (.slice none 0 0)) (rv_assign rfl) ?_
  refine w_end ?_
  refine q_then ?_
  refine c_seq ?_
  refine c_seq ?_
  refine rg ?_
  refine st (v := (Sl alist_1 list_1 clist_1)) (rv_move rfl) ?_
  refine st (v := (I (list_1.length : Int))) (rv_len Try.underlying27 rfl) ?_
  refine st (v := (B ((list_1.length : Int) == 0))) (rv_eql (a := (list_1.length : Int)) (b := 0) rfl rfl) ?_
  refine w_end ?_
  refine q_then ?_
  refine cd_cond ((list_1.length : Int) == 0) rfl (fun hb1 => ?_) (fun hb1 => ?_)
  ·replace h := bif_t hb1 h
   refine c_seq ?_
   refine rg ?_
   refine st (v := (Sl anodes_0 nodes_0 cnodes_0)) (rv_move rfl) ?_
   refine st (v := (Sl anodes_0 nodes_0 cnodes_0)) (rv_assign rfl) ?_
   refine w_end ?_
   refine q_then ?_
   refine c_ret ?_
   refine q_then_r ?_
   replace H := H.ownSc 0 0 n0 rfl (Nat.le_refl _)
   obtain rfl := Option.some.inj h
   exact fin_ret (v := (Sl anodes_0 nodes_0 cnodes_0)) (results_ok Try.results55 (res_tmp (v := (Sl anodes_0 nodes_0 cnodes_0)) rfl res_nil) rfl) ⟨anodes_0, cnodes_0, rfl, rfl⟩ (H.sel' [0] rfl rfl)
  ·replace h := bif_f hb1 h
   refine c_skip ?_
   refine q_then ?_
   refine c_seq ?_
   refine rg ?_
   refine st (v := (Sl alist_1 list_1 clist_1)) (rv_move rfl) ?_
   obtain ⟨x2, hx3, h'⟩ := bind_some h
   clear h
   have h := h'; clear h'
   obtain ⟨b5, o6, hi4, -⟩ := (H.ro 1 rfl).ix hx3
   refine st (v := (pt b5 o6)) (rv_ix Try.underlying27 ti63 rfl rfl hi4) ?_
   obtain ⟨_, ⟨_, _, rfl, rfl, ⟨_, _, rfl, ⟨_, rfl, hR11⟩, rfl⟩⟩, hl7, hc8⟩ := ((H.ro 1 rfl).at hx3 hi4).cells
   obtain ⟨a9, c10, rfl⟩ := hR11.isSl
   replace H := H.add (d := Ch.ro 0 (Sl a9 x2.2.1 c10) x2.2.1) hR11 (fun _ h => h)
   clear hR11
   refine st (v := (.agg #[(I x2.1), (Sl a9 x2.2.1 c10), (I x2.2.2)])) (rv_load Try.underlying63 rfl ti63 rfl hl7 hc8) ?_
   refine st_ex (ex_alloc (cs := [(I 0), (.slice none 0 0), (I 0)]) H hn0 ti63 rfl) wn ?_
   rintro _ σ13 ⟨b12, rfl, H, -⟩
   refine st_exS (ex_store_box (k := 0) (cs := [(I 0), (.slice none 0 0), (I 0)]) (vs := [(I x2.1), (Sl a9 x2.2.1 c10), (I x2.2.2)]) (cs' := [(I x2.1), (Sl a9 x2.2.1 c10), (I x2.2.2)]) H (i := 0) rfl ti63 rfl rfl rfl rfl rfl (Nat.le_of_ble_eq_true rfl) (by simp [plain]) rfl) wn ?_
   rintro σ14 ⟨H, -⟩
   refine w_end ?_
   refine q_then ?_
   refine c_seq ?_
   refine rgP (σ := σ14) 5 (by kernel_rfl) (by kernel_rfl) (by kernel_rfl) ?_
   refine sq (v := (Sl alist_1 list_1 clist_1)) (rv_move rfl) ?_
   obtain ⟨xs15, hx16, h'⟩ := bind_some h
   clear h
   have h := h'; clear h'
   obtain ⟨a17, c18, hs19, hR20⟩ := (H.ro 3 rfl).slice hx16
   replace H := H.add (d := Ch.ro 0 (Sl a17 xs15 c18) xs15) hR20 (fun _ h => h)
   clear hR20
   refine sq (v := (Sl a17 xs15 c18)) (rv_slice_l Try.underlying27 ti63 hs19 rfl rfl) ?_
   refine sq (v := (I kind_2)) (rv_move rfl) ?_
   refine sq (v := (pt b12 1)) (rv_fieldAddr (off := 1) (ft := 23) Try.underlying63 rfl ti23 rfl rfl) ?_
   have hc21 := H.cell (u := (Sl a9 x2.2.1 c10)) (o' := 1) 1 1 rfl rfl rfl
   refine sq (v := (Sl a9 x2.2.1 c10)) (rv_load1 Try.underlying23 rfl rfl hc21) ?_
   refine sq_end ?_
   intro σ22 hm23
   replace H := H.grow (hm23.mono fun _ h => h); clear hm23
   obtain ⟨r24, hx25, h'⟩ := bind_some h
   clear h
   have h := h'; clear h'
   have hc26 := c_spec_byDist (alist_0 := a17) (clist_0 := c18) (aat_2 := a9) (cat_2 := c10) hx25
   refine st_call (cx_call hc26 (ent_f hc26.fn rfl) hn0 (show Hp S0 σ0 _ ([Ch.ro 0 (Sl a17 xs15 c18) xs15, Ch.ro 0 (Sl a9 x2.2.1 c10) x2.2.1] ++ [Ch.ro 0 (Sl a17 xs15 c18) xs15, Ch.bx n0 b12 0 [(I x2.1), (Sl a9 x2.2.1 c10), (I x2.2.2)] [] [], Ch.ro 0 (Sl a9 x2.2.1 c10) x2.2.1, Ch.own 0 0 (Sl anodes_0 nodes_0 cnodes_0) nodes_0, Ch.ro 0 (Sl alist_1 list_1 clist_1) list_1]) from (H.sel' [0, 2, 0, 1, 2, 3, 4] rfl rfl))) wn ?_
   rintro _ σ29 ⟨_, ⟨a27, c28, rfl, rfl⟩, H, -⟩
   replace H : Hp S0 σ0 σ29 [Ch.own n0 0 (Sl a27 r24 c28) r24, Ch.ro 0 (Sl a17 xs15 c18) xs15, Ch.bx n0 b12 0 [(I x2.1), (Sl a9 x2.2.1 c10), (I x2.2.2)] [] [], Ch.ro 0 (Sl a9 x2.2.1 c10) x2.2.1, Ch.own 0 0 (Sl anodes_0 nodes_0 cnodes_0) nodes_0, Ch.ro 0 (Sl alist_1 list_1 clist_1) list_1] := H
   refine st (v := (Sl a27 r24 c28)) (rv_assign rfl) ?_
   refine w_end ?_
   refine q_then ?_
   refine c_seq ?_
   refine rg ?_
   refine st (v := (Sl a27 r24 c28)) (rv_move rfl) ?_
   refine st (v := (I (r24.length : Int))) (rv_len Try.underlying27 rfl) ?_
   refine st (v := (I (w64 ((r24.length : Int) + 1)))) (rv_add (a := (r24.length : Int)) (b := 1) rfl rfl) ?_
   refine st (v := (I (w64 ((w64 ((r24.length : Int) + 1)).tdiv 2)))) (rv_quo (a := (w64 ((r24.length : Int) + 1))) (b := 2) rfl rfl (by decide)) ?_
   refine st (v := (I (w64 ((w64 ((r24.length : Int) + 1)).tdiv 2)))) (rv_assign rfl) ?_
   refine w_end ?_
   refine q_then ?_
   refine c_seq ?_
   refine rg ?_
   refine st (v := (pt b12 0)) (rv_fieldAddr (off := 0) (ft := 3) Try.underlying63 rfl ti3 rfl rfl) ?_
   have hc30 := H.cell (u := (I x2.1)) (o' := 0) 2 0 rfl rfl rfl
   refine st (v := (I x2.1)) (rv_load1 Try.underlying3 rfl rfl hc30) ?_
   refine st (v := (.agg #[(I x2.1), (I 0), (I (-1)), (I (-1))])) (rv_build (ps := [(0, (I x2.1)), (2, (I (-1))), (3, (I (-1)))]) Try.underlying77 ti77 (bp77 Try.underlying77) rfl (by kernel_rfl)) ?_
   refine st_ex (ex_alloc (cs := [(I 0), (I 0), (I 0), (I 0)]) H hn0 ti77 rfl) wn ?_
   rintro _ σ32 ⟨b31, rfl, H, -⟩
   refine st_exS (ex_store_box (k := 0) (cs := [(I 0), (I 0), (I 0), (I 0)]) (vs := [(I x2.1), (I 0), (I (-1)), (I (-1))]) (cs' := [(I x2.1), (I 0), (I (-1)), (I (-1))]) H (i := 0) rfl ti77 rfl rfl rfl rfl rfl (Nat.le_of_ble_eq_true rfl) (by simp [plain]) rfl) wn ?_
   rintro σ33 ⟨H, -⟩
   refine w_end ?_
   refine q_then ?_
   refine c_seq ?_
   refine rg ?_
   refine st (v := (Sl anodes_0 nodes_0 cnodes_0)) (rv_move rfl) ?_
   refine st (v := (I (nodes_0.length : Int))) (rv_len Try.underlying37 rfl) ?_
   refine st (v := (I (nodes_0.length : Int))) (rv_assign rfl) ?_
   refine w_end ?_
   refine q_then ?_
   refine c_seq ?_
   refine rg ?_
   refine st (v := (Sl anodes_0 nodes_0 cnodes_0)) (rv_move rfl) ?_
   have hc34 := H.cells 0 rfl
   refine st (v := (.agg #[(I x2.1), (I 0), (I (-1)), (I (-1))])) (rv_load (cs := [(I x2.1), (I 0), (I (-1)), (I (-1))]) Try.underlying77 rfl ti77 rfl rfl hc34) ?_
   refine st_ex (ex_buildSlice (el := n0) (xs := ([(x2.1, 0, -1, -1)] : List (Int × Int × Int × Int))) (ps := [(0, (.agg #[(I x2.1), (I 0), (I (-1)), (I (-1))]))]) (cs := [(I x2.1), (I 0), (I (-1)), (I (-1))]) H hn0 Try.underlying37 ti77 rfl rfl (by kernel_rfl) (.cons (c := [(I x2.1), (I 0), (I (-1)), (I (-1))]) ⟨[(I x2.1)], [(I 0), (I (-1)), (I (-1))], rfl, rfl, ⟨[(I 0)], [(I (-1)), (I (-1))], rfl, rfl, ⟨[(I (-1))], [(I (-1))], rfl, rfl, rfl⟩⟩⟩ (.nil)) rfl) wn ?_
   rintro _ σ36 ⟨b35, rfl, H, -⟩
   replace H : Hp S0 σ0 σ36 [Ch.own n0 n0 (Sl (some ⟨b35, 0, none⟩) ([(x2.1, 0, -1, -1)] : List (Int × Int × Int × Int)) 1) ([(x2.1, 0, -1, -1)] : List (Int × Int × Int × Int)), Ch.own n0 0 (Sl a27 r24 c28) r24, Ch.bx n0 b12 0 [(I x2.1), (Sl a9 x2.2.1 c10), (I x2.2.2)] [] [], Ch.ro 0 (Sl a9 x2.2.1 c10) x2.2.1, Ch.own 0 0 (Sl anodes_0 nodes_0 cnodes_0) nodes_0] := H.sel' [0, 2, 4, 5, 6] rfl rfl
   obtain ⟨xs37, hx38, h'⟩ := bind_some h
   clear h
   have h := h'; clear h'
   refine st_ex (ex_append H (i := 4) rfl Try.underlying37 Try.underlying37 ti77 rfl rfl (by decide) ((H.own 0 rfl).rd.sc) hx38 (Nat.zero_le _) rfl rfl) wn ?_
   rintro _ σ41 ⟨a39, c40, rfl, H, -⟩
   refine st (v := (Sl a39 xs37 c40)) (rv_assign rfl) ?_
   refine w_end ?_
   refine q_then ?_
   refine c_seq ?_
   refine c_seq ?_
   refine rg ?_
   refine st (v := (I (w64 ((w64 ((r24.length : Int) + 1)).tdiv 2)))) (rv_move rfl) ?_
   refine st (v := (B (decide (0 < (w64 ((w64 ((r24.length : Int) + 1)).tdiv 2)))))) (rv_gtr (a := (w64 ((w64 ((r24.length : Int) + 1)).tdiv 2))) (b := 0) rfl rfl) ?_
   refine w_end ?_
   refine q_then ?_
   obtain ⟨o42, hj, h'⟩ := bind_some h
   clear h
   refine c_cut (fun e a w => e = .normal ∧ ∃ (ρ : Nat → Value) (σ : St) (aj1 : Option Addr) (cj2 : Nat), a = fr 83 (updL ρ [(0, (Sl aj1 o42 cj2)), (2, (I kind_2)), (8, (Sl a27 r24 c28)), (9, (I (w64 ((w64 ((r24.length : Int) + 1)).tdiv 2)))), (11, (I (nodes_0.length : Int)))]) ∧ w = σ.w ∧ Hp S0 σ0 σ [Ch.own 0 0 (Sl aj1 o42 cj2) o42, Ch.ro 0 (Sl a27 r24 c28) r24]) ?_ ?_
   ·clear h'
    rename _ = some o42 => h
    refine cd_cond (decide (0 < (w64 ((w64 ((r24.length : Int) + 1)).tdiv 2)))) rfl (fun hb43 => ?_) (fun hb43 => ?_)
    ·replace h := bif_t hb43 h
     refine c_seq ?_
     obtain ⟨x44, hx45, h'⟩ := bind_some h
     clear h
     have h := h'; clear h'
     obtain ⟨b47, o48, hi46, -⟩ := (H.own 2 rfl).ix hx45
     obtain ⟨v52, hc53, hR51⟩ := ((H.own 2 rfl).at hx45 hi46).snd.fst.slice
     obtain ⟨a49, c50, rfl⟩ := hR51.isSl
     replace H := H.add (d := Ch.ro 0 (Sl a49 x44.2.1 c50) x44.2.1) hR51 (fun _ h => h)
     clear hR51
     have hc54 := H.cell (u := (Sl a9 x2.2.1 c10)) (o' := 1) 4 1 rfl rfl rfl
     obtain ⟨r55, hx56, h'⟩ := bind_some h
     clear h
     have h := h'; clear h'
     have hc57 := c_spec_dist (aa_1 := a49) (ca_1 := c50) (ab_2 := a9) (cb_2 := c10) hx56
     have Hs := H
     refine rg2 (σ := σ41) (Nm := Unit) 12 [11] [[false], [true]] [[(0, 0), (1, 1)], [(0, 0), (1, 1)], [(0, 0)], [(0, 0)], [(0, 0)], [(0, 0)], [(0, 0)], [(0, 0)], [(0, 0)], [(0, 0)], [(0, 0)], [(0, 1)]] 1 [fun _ => fun σm => Hp S0 σ0 σm [Ch.ro 0 (Sl a49 x44.2.1 c50) x44.2.1, Ch.own 0 0 (Sl a39 xs37 c40) xs37, Ch.own n0 n0 (Sl (some ⟨b35, 0, none⟩) ([(x2.1, 0, -1, -1)] : List (Int × Int × Int × Int)) 1) ([(x2.1, 0, -1, -1)] : List (Int × Int × Int × Int)), Ch.own n0 0 (Sl a27 r24 c28) r24, Ch.bx n0 b12 0 [(I x2.1), (Sl a9 x2.2.1 c10), (I x2.2.2)] [] [], Ch.ro 0 (Sl a9 x2.2.1 c10) x2.2.1] ∧ Md (cov []) σ41 σm, fun _ => fun σm => Hp S0 σ0 σm [Ch.ro 0 (Sl a49 x44.2.1 c50) x44.2.1, Ch.own 0 0 (Sl a39 xs37 c40) xs37, Ch.own n0 n0 (Sl (some ⟨b35, 0, none⟩) ([(x2.1, 0, -1, -1)] : List (Int × Int × Int × Int)) 1) ([(x2.1, 0, -1, -1)] : List (Int × Int × Int × Int)), Ch.own n0 0 (Sl a27 r24 c28) r24, Ch.bx n0 b12 0 [(I x2.1), (Sl a9 x2.2.1 c10), (I x2.2.2)] [] [], Ch.ro 0 (Sl a9 x2.2.1 c10) x2.2.1] ∧ Md (cov []) σ41 σm] [fun _ => (Sl a39 xs37 c40), fun _ => (I (nodes_0.length : Int)), fun _ => (I kind_2), fun _ => (Sl a27 r24 c28), fun _ => (I (w64 ((w64 ((r24.length : Int) + 1)).tdiv 2))), fun _ => (I (w64 ((w64 ((w64 ((r24.length : Int) + 1)).tdiv 2)) - 1))), fun _ => (pt b47 o48), fun _ => (pt b47 (o48 + 1)), fun _ => (Sl a49 x44.2.1 c50), fun _ => (pt b12 1), fun _ => (Sl a9 x2.2.1 c10), fun _ => (I r55)] () (by kernel_rfl) (by kernel_rfl) ?_ ?_ ?_
     ·intro σm m0
      exact ⟨H.grow (m0.mono fun _ h => h.elim), m0⟩
     ·refine ac rfl (by
        intro k _nm ρ σm hJ hoff hdep
        have e0 := look_off (N := 83) (hoff 0 rfl) rfl
        exact dp_v (v := (Sl a39 xs37 c40)) wn (rv_move e0) rfl hJ) ?_
      refine ac rfl (by
        intro k _nm ρ σm hJ hoff hdep
        have e11 := look_off (N := 83) (hoff 11 rfl) rfl
        exact dp_v (v := (I (nodes_0.length : Int))) wn (rv_move e11) rfl hJ) ?_
      refine ac rfl (by
        intro k _nm ρ σm hJ hoff hdep
        have e2 := look_off (N := 83) (hoff 2 rfl) rfl
        exact dp_v (v := (I kind_2)) wn (rv_move e2) rfl hJ) ?_
      refine ac rfl (by
        intro k _nm ρ σm hJ hoff hdep
        have e8 := look_off (N := 83) (hoff 8 rfl) rfl
        exact dp_v (v := (Sl a27 r24 c28)) wn (rv_move e8) rfl hJ) ?_
      refine ac rfl (by
        intro k _nm ρ σm hJ hoff hdep
        have e9 := look_off (N := 83) (hoff 9 rfl) rfl
        exact dp_v (v := (I (w64 ((w64 ((r24.length : Int) + 1)).tdiv 2)))) wn (rv_move e9) rfl hJ) ?_
      refine ac rfl (by
        intro k _nm ρ σm hJ hoff hdep
        have e44 := hdep 4 rfl rfl 44 rfl
        exact dp_v (v := (I (w64 ((w64 ((w64 ((r24.length : Int) + 1)).tdiv 2)) - 1)))) wn (rv_sub (a := (w64 ((w64 ((r24.length : Int) + 1)).tdiv 2))) (b := 1) e44 rfl) rfl hJ) ?_
      refine ac rfl (by
        intro k _nm ρ σm hJ hoff hdep
        have e43 := hdep 3 rfl rfl 43 rfl
        have e45 := hdep 5 rfl rfl 45 rfl
        exact dp_v (v := (pt b47 o48)) wn (rv_ix Try.underlying27 ti63 e43 e45 hi46) rfl hJ) ?_
      refine ac rfl (by
        intro k _nm ρ σm hJ hoff hdep
        have e46 := hdep 6 rfl rfl 46 rfl
        exact dp_v (v := (pt b47 (o48 + 1))) wn (rv_fieldAddr (off := 1) (ft := 23) Try.underlying63 rfl ti23 rfl e46) rfl hJ) ?_
      refine all_cons (by
        refine ⟨?_, ?_⟩
        ·intro _nm ρ σm hJ hoff hdep
         have e47 := hdep 7 rfl rfl 47 rfl
         obtain ⟨H, m⟩ := id hJ
         replace hc53 := m.hcell hc53 nocov
         exact dp_v (v := (Sl a49 x44.2.1 c50)) wn (rv_load1 Try.underlying23 rfl e47 hc53) rfl hJ
        trivial) ?_
      refine ac rfl (by
        intro k _nm ρ σm hJ hoff hdep
        have e7 := look_off (N := 83) (hoff 7 rfl) rfl
        exact dp_v (v := (pt b12 1)) wn (rv_fieldAddr (off := 1) (ft := 23) Try.underlying63 rfl ti23 rfl e7) rfl hJ) ?_
      refine all_cons (by
        refine ⟨?_, ?_⟩
        ·intro _nm ρ σm hJ hoff hdep
         have e49 := hdep 9 rfl rfl 49 rfl
         obtain ⟨H, m⟩ := id hJ
         have hc54 := H.cell (u := (Sl a9 x2.2.1 c10)) (o' := 1) 4 1 rfl rfl rfl
         exact dp_v (v := (Sl a9 x2.2.1 c10)) wn (rv_load1 Try.underlying23 rfl e49 hc54) rfl hJ
        trivial) ?_
      refine all_cons (by
        refine ⟨?_, ?_⟩
        ·intro _nm ρ σm hJ hoff hdep
         have e42 : look 83 ρ 42 = (I kind_2) := hdep 2 rfl rfl 42 rfl
         have e48 : look 83 ρ 48 = (Sl a49 x44.2.1 c50) := hdep 8 rfl rfl 48 rfl
         have e50 : look 83 ρ 50 = (Sl a9 x2.2.1 c10) := hdep 10 rfl rfl 50 rfl
         obtain ⟨H, m⟩ := id hJ
         refine dp_cx wn (cx_call hc57 (ent_f hc57.fn (by show [look 83 ρ 42, look 83 ρ 48, look 83 ρ 50] = _; rw [e42, e48, e50])) hn0 (show Hp S0 σ0 _ ([Ch.ro 0 (Sl a49 x44.2.1 c50) x44.2.1, Ch.ro 0 (Sl a9 x2.2.1 c10) x2.2.1] ++ [Ch.ro 0 (Sl a49 x44.2.1 c50) x44.2.1, Ch.own 0 0 (Sl a39 xs37 c40) xs37, Ch.own n0 n0 (Sl (some ⟨b35, 0, none⟩) ([(x2.1, 0, -1, -1)] : List (Int × Int × Int × Int)) 1) ([(x2.1, 0, -1, -1)] : List (Int × Int × Int × Int)), Ch.own n0 0 (Sl a27 r24 c28) r24, Ch.bx n0 b12 0 [(I x2.1), (Sl a9 x2.2.1 c10), (I x2.2.2)] [] [], Ch.ro 0 (Sl a9 x2.2.1 c10) x2.2.1]) from (H.sel' [0, 5, 0, 1, 2, 3, 4, 5] rfl rfl))) ?_
         rintro _ σq ⟨_, ⟨rfl, rfl⟩, H2, m2⟩
         exact ⟨_, (), rfl, rfl, ⟨H2.sel' [0, 1, 2, 3, 4, 5] rfl rfl, m.comp0 (m2.mono (fun i h => by simp [cov, Ch.ro] at h))⟩, stab [0, 1, 2, 3, 4, 5, 6, 7, 8, 9, 10] (by kernel_rfl) ⟨rfl, rfl, rfl, rfl, rfl, rfl, rfl, rfl, rfl, rfl, rfl, trivial⟩⟩
        trivial) ?_
      exact all_nil
     ·intro _nm ρ σ58 hJ hoff hrel
      have e0 := look_off (N := 83) (hoff 0 rfl) rfl
      have e2 := look_off (N := 83) (hoff 2 rfl) rfl
      have e8 := look_off (N := 83) (hoff 8 rfl) rfl
      have e9 := look_off (N := 83) (hoff 9 rfl) rfl
      have e11 := look_off (N := 83) (hoff 11 rfl) rfl
      have e40 := hrel 0 rfl 40 rfl
      have e41 := hrel 1 rfl 41 rfl
      have e51 := hrel 11 rfl 51 rfl
      obtain ⟨H, -⟩ := (show Hp S0 σ0 σ58 [Ch.ro 0 (Sl a49 x44.2.1 c50) x44.2.1, Ch.own 0 0 (Sl a39 xs37 c40) xs37, Ch.own n0 n0 (Sl (some ⟨b35, 0, none⟩) ([(x2.1, 0, -1, -1)] : List (Int × Int × Int × Int)) 1) ([(x2.1, 0, -1, -1)] : List (Int × Int × Int × Int)), Ch.own n0 0 (Sl a27 r24 c28) r24, Ch.bx n0 b12 0 [(I x2.1), (Sl a9 x2.2.1 c10), (I x2.2.2)] [] [], Ch.ro 0 (Sl a9 x2.2.1 c10) x2.2.1] ∧ Md (cov []) σ41 σ58 from hJ)
      clear hJ Hs
      rw [fr_lookL (L := [(0, (Sl a39 xs37 c40)), (2, (I kind_2)), (8, (Sl a27 r24 c28)), (9, (I (w64 ((w64 ((r24.length : Int) + 1)).tdiv 2)))), (11, (I (nodes_0.length : Int))), (40, (Sl a39 xs37 c40)), (41, (I (nodes_0.length : Int))), (51, (I r55))]) ⟨e0, e2, e8, e9, e11, e40, e41, e51, trivial⟩]
      clear hoff hrel e0 e2 e8 e9 e11 e40 e41 e51
      obtain ⟨x59, hx60, h'⟩ := bind_some h
      clear h
      have h := h'; clear h'
      obtain ⟨b62, o63, hi61, -⟩ := (H.own 1 rfl).ix hx60
      refine st (v := (pt b62 o63)) (rv_ix Try.underlying37 ti77 rfl rfl hi61) ?_
      refine st (v := (pt b62 (o63 + 1))) (rv_fieldAddr (off := 1) (ft := 3) Try.underlying77 rfl ti3 rfl rfl) ?_
      refine st_exS (ex_store_own (e' := (x59.1, r55, x59.2.2.1, x59.2.2.2)) (vs := [(I r55)]) (k := 1) H (i := 1) rfl ti3 hx60 hi61 rfl rfl rfl rfl rfl (Nat.le_of_ble_eq_true rfl) (by simp [plain]) (by rintro _ ⟨_, _, rfl, rfl, ⟨_, _, rfl, rfl, ⟨_, _, rfl, rfl, rfl⟩⟩⟩; exact ⟨[(I x59.1)], [(I r55), (I x59.2.2.1), (I x59.2.2.2)], rfl, rfl, ⟨[(I r55)], [(I x59.2.2.1), (I x59.2.2.2)], rfl, rfl, ⟨[(I x59.2.2.1)], [(I x59.2.2.2)], rfl, rfl, rfl⟩⟩⟩)) wn ?_
      rintro σ64 ⟨H, -⟩
      have hsl : (Sl a39 xs37 c40) = (Sl a39 (xs37.set (nodes_0.length : Int).toNat (x59.1, r55, x59.2.2.1, x59.2.2.2)) c40) := sl_len List.length_set.symm
      rw [hsl]; rw [hsl] at H; clear hsl
      refine w_end ?_
      refine q_then ?_
      refine c_seq ?_
      refine rg ?_
      refine st (v := (Sl a39 (xs37.set (nodes_0.length : Int).toNat (x59.1, r55, x59.2.2.1, x59.2.2.2)) c40)) (rv_move rfl) ?_
      refine st (v := (I (nodes_0.length : Int))) (rv_move rfl) ?_
      refine st (v := (Sl a39 (xs37.set (nodes_0.length : Int).toNat (x59.1, r55, x59.2.2.1, x59.2.2.2)) c40)) (rv_move rfl) ?_
      refine st (v := (I ((xs37.set (nodes_0.length : Int).toNat (x59.1, r55, x59.2.2.1, x59.2.2.2)).length : Int))) (rv_len Try.underlying37 rfl) ?_
      obtain ⟨x65, hx66, h'⟩ := bind_some h
      clear h
      have h := h'; clear h'
      obtain ⟨b68, o69, hi67, -⟩ := (H.own 0 rfl).ix hx66
      refine st (v := (pt b68 o69)) (rv_ix Try.underlying37 ti77 rfl rfl hi67) ?_
      refine st (v := (pt b68 (o69 + 2))) (rv_fieldAddr (off := 2) (ft := 3) Try.underlying77 rfl ti3 rfl rfl) ?_
      refine st_exS (ex_store_own (e' := (x65.1, x65.2.1, ((xs37.set (nodes_0.length : Int).toNat (x59.1, r55, x59.2.2.1, x59.2.2.2)).length : Int), x65.2.2.2)) (vs := [(I ((xs37.set (nodes_0.length : Int).toNat (x59.1, r55, x59.2.2.1, x59.2.2.2)).length : Int))]) (k := 2) H (i := 0) rfl ti3 hx66 hi67 rfl rfl rfl rfl rfl (Nat.le_of_ble_eq_true rfl) (by simp [plain]) (by rintro _ ⟨_, _, rfl, rfl, ⟨_, _, rfl, rfl, ⟨_, _, rfl, rfl, rfl⟩⟩⟩; exact ⟨[(I x65.1)], [(I x65.2.1), (I ((xs37.set (nodes_0.length : Int).toNat (x59.1, r55, x59.2.2.1, x59.2.2.2)).length : Int)), (I x65.2.2.2)], rfl, rfl, ⟨[(I x65.2.1)], [(I ((xs37.set (nodes_0.length : Int).toNat (x59.1, r55, x59.2.2.1, x59.2.2.2)).length : Int)), (I x65.2.2.2)], rfl, rfl, ⟨[(I ((xs37.set (nodes_0.length : Int).toNat (x59.1, r55, x59.2.2.1, x59.2.2.2)).length : Int))], [(I x65.2.2.2)], rfl, rfl, rfl⟩⟩⟩)) wn ?_
      rintro σ70 ⟨H, -⟩
      have hsl : (Sl a39 (xs37.set (nodes_0.length : Int).toNat (x59.1, r55, x59.2.2.1, x59.2.2.2)) c40) = (Sl a39 ((xs37.set (nodes_0.length : Int).toNat (x59.1, r55, x59.2.2.1, x59.2.2.2)).set (nodes_0.length : Int).toNat (x65.1, x65.2.1, ((xs37.set (nodes_0.length : Int).toNat (x59.1, r55, x59.2.2.1, x59.2.2.2)).length : Int), x65.2.2.2)) c40) := sl_len List.length_set.symm
      rw [hsl]; rw [hsl] at H; clear hsl
      refine w_end ?_
      refine q_then ?_
      refine rg ?_
      refine st (v := (Sl a39 ((xs37.set (nodes_0.length : Int).toNat (x59.1, r55, x59.2.2.1, x59.2.2.2)).set (nodes_0.length : Int).toNat (x65.1, x65.2.1, ((xs37.set (nodes_0.length : Int).toNat (x59.1, r55, x59.2.2.1, x59.2.2.2)).length : Int), x65.2.2.2)) c40)) (rv_move rfl) ?_
      refine st (v := (Sl a27 r24 c28)) (rv_move rfl) ?_
      refine st (v := (I (w64 ((w64 ((r24.length : Int) + 1)).tdiv 2)))) (rv_move rfl) ?_
      obtain ⟨xs71, hx72, h'⟩ := bind_some h
      clear h
      have h := h'; clear h'
      obtain ⟨σ77, hw78, H, -⟩ := H.pub 3 rfl (Nat.zero_le _)
      rw [← hw78]; clear hw78
      obtain ⟨a73, c74, hs75, hR76⟩ := (H.ro 0 rfl).slice hx72
      replace H := H.add (d := Ch.ro 0 (Sl a73 xs71 c74) xs71) hR76 (fun _ h => h)
      clear hR76
      refine st (v := (Sl a73 xs71 c74)) (rv_slice_h Try.underlying27 ti63 hs75 rfl rfl) ?_
      refine st (v := (I kind_2)) (rv_move rfl) ?_
      obtain ⟨r79, hx80, h'⟩ := bind_some h
      clear h
      have h := h'; clear h'
      have hc81 := ih (anodes_0 := a39) (cnodes_0 := c40) (alist_1 := a73) (clist_1 := c74) hx80
      refine st_call (cx_call hc81 (ent_f hc81.fn rfl) hn0 (show Hp S0 σ0 _ ([Ch.own 0 0 (Sl a39 ((xs37.set (nodes_0.length : Int).toNat (x59.1, r55, x59.2.2.1, x59.2.2.2)).set (nodes_0.length : Int).toNat (x65.1, x65.2.1, ((xs37.set (nodes_0.length : Int).toNat (x59.1, r55, x59.2.2.1, x59.2.2.2)).length : Int), x65.2.2.2)) c40) ((xs37.set (nodes_0.length : Int).toNat (x59.1, r55, x59.2.2.1, x59.2.2.2)).set (nodes_0.length : Int).toNat (x65.1, x65.2.1, ((xs37.set (nodes_0.length : Int).toNat (x59.1, r55, x59.2.2.1, x59.2.2.2)).length : Int), x65.2.2.2)), Ch.ro 0 (Sl a73 xs71 c74) xs71] ++ [Ch.ro 0 (Sl a73 xs71 c74) xs71, Ch.ro 0 (Sl a27 r24 c28) r24, Ch.ro 0 (Sl a49 x44.2.1 c50) x44.2.1, Ch.own n0 n0 (Sl (some ⟨b35, 0, none⟩) ([(x2.1, 0, -1, -1)] : List (Int × Int × Int × Int)) 1) ([(x2.1, 0, -1, -1)] : List (Int × Int × Int × Int)), Ch.bx n0 b12 0 [(I x2.1), (Sl a9 x2.2.1 c10), (I x2.2.2)] [] [], Ch.ro 0 (Sl a9 x2.2.1 c10) x2.2.1]) from (H.sel' [2, 0, 0, 1, 3, 4, 5, 6] rfl rfl))) wn ?_
      rintro _ σ84 ⟨_, ⟨a82, c83, rfl, rfl⟩, H, -⟩
      replace H : Hp S0 σ0 σ84 [Ch.own 0 n0 (Sl a82 r79 c83) r79, Ch.ro 0 (Sl a73 xs71 c74) xs71, Ch.ro 0 (Sl a27 r24 c28) r24, Ch.ro 0 (Sl a49 x44.2.1 c50) x44.2.1, Ch.own n0 n0 (Sl (some ⟨b35, 0, none⟩) ([(x2.1, 0, -1, -1)] : List (Int × Int × Int × Int)) 1) ([(x2.1, 0, -1, -1)] : List (Int × Int × Int × Int)), Ch.bx n0 b12 0 [(I x2.1), (Sl a9 x2.2.1 c10), (I x2.2.2)] [] [], Ch.ro 0 (Sl a9 x2.2.1 c10) x2.2.1] := H
      refine st (v := (Sl a82 r79 c83)) (rv_assign rfl) ?_
      refine w_end ?_
      replace H := H.ownSc 0 0 0 rfl (Nat.le_refl _)
      obtain rfl := Option.some.inj h
      exact ⟨rfl, _, σ84, a82, c83, fr_join ⟨rfl, rfl, rfl, rfl, rfl, trivial⟩, rfl, H.sel' [0, 2] rfl rfl⟩
    ·replace h := bif_f hb43 h
     refine c_skip ?_
     obtain ⟨σ85, hw86, H, -⟩ := H.pub 2 rfl (Nat.zero_le _)
     rw [← hw86]; clear hw86
     obtain rfl := Option.some.inj h
     exact ⟨rfl, _, σ85, a39, c40, fr_join ⟨rfl, rfl, rfl, rfl, rfl, trivial⟩, rfl, H.sel' [1, 0] rfl rfl⟩
   ·clear hj
    have h := h'
    clear h' H
    rintro e a w ⟨rfl, ρ, σ87, a88, c89, rfl, rfl, H⟩
    refine q_then ?_
    refine c_seq ?_
    refine c_seq ?_
    refine rg ?_
    refine st (v := (I (w64 ((w64 ((r24.length : Int) + 1)).tdiv 2)))) (rv_move rfl) ?_
    refine st (v := (Sl a27 r24 c28)) (rv_move rfl) ?_
    refine st (v := (I (r24.length : Int))) (rv_len Try.underlying27 rfl) ?_
    refine st (v := (B (decide ((w64 ((w64 ((r24.length : Int) + 1)).tdiv 2)) < (r24.length : Int))))) (rv_lss (a := (w64 ((w64 ((r24.length : Int) + 1)).tdiv 2))) (b := (r24.length : Int)) rfl rfl) ?_
    refine w_end ?_
    refine q_then ?_
    obtain ⟨o90, hj, h'⟩ := bind_some h
    clear h
    refine c_cut (fun e a w => e = .normal ∧ ∃ (ρ : Nat → Value) (σ : St) (aj1 : Option Addr) (cj2 : Nat), a = fr 83 (updL ρ [(0, (Sl aj1 o90 cj2))]) ∧ w = σ.w ∧ Hp S0 σ0 σ [Ch.own 0 0 (Sl aj1 o90 cj2) o90]) ?_ ?_
    ·clear h'
     rename _ = some o90 => h
     refine cd_cond (decide ((w64 ((w64 ((r24.length : Int) + 1)).tdiv 2)) < (r24.length : Int))) rfl (fun hb91 => ?_) (fun hb91 => ?_)
     ·replace h := bif_t hb91 h
      refine c_seq ?_
      refine rg ?_
      refine st (v := (Sl a88 o42 c89)) (rv_move rfl) ?_
      refine st (v := (I (nodes_0.length : Int))) (rv_move rfl) ?_
      refine st (v := (Sl a88 o42 c89)) (rv_move rfl) ?_
      refine st (v := (I (o42.length : Int))) (rv_len Try.underlying37 rfl) ?_
      obtain ⟨x92, hx93, h'⟩ := bind_some h
      clear h
      have h := h'; clear h'
      obtain ⟨b95, o96, hi94, -⟩ := (H.own 0 rfl).ix hx93
      refine st (v := (pt b95 o96)) (rv_ix Try.underlying37 ti77 rfl rfl hi94) ?_
      refine st (v := (pt b95 (o96 + 3))) (rv_fieldAddr (off := 3) (ft := 3) Try.underlying77 rfl ti3 rfl rfl) ?_
      refine st_exS (ex_store_own (e' := (x92.1, x92.2.1, x92.2.2.1, (o42.length : Int))) (vs := [(I (o42.length : Int))]) (k := 3) H (i := 0) rfl ti3 hx93 hi94 rfl rfl rfl rfl rfl (Nat.le_of_ble_eq_true rfl) (by simp [plain]) (by rintro _ ⟨_, _, rfl, rfl, ⟨_, _, rfl, rfl, ⟨_, _, rfl, rfl, rfl⟩⟩⟩; exact ⟨[(I x92.1)], [(I x92.2.1), (I x92.2.2.1), (I (o42.length : Int))], rfl, rfl, ⟨[(I x92.2.1)], [(I x92.2.2.1), (I (o42.length : Int))], rfl, rfl, ⟨[(I x92.2.2.1)], [(I (o42.length : Int))], rfl, rfl, rfl⟩⟩⟩)) wn ?_
      rintro σ97 ⟨H, -⟩
      have hsl : (Sl a88 o42 c89) = (Sl a88 (o42.set (nodes_0.length : Int).toNat (x92.1, x92.2.1, x92.2.2.1, (o42.length : Int))) c89) := sl_len List.length_set.symm
      rw [hsl]; rw [hsl] at H; clear hsl
      refine w_end ?_
      refine q_then ?_
      refine rg ?_
      refine st (v := (Sl a88 (o42.set (nodes_0.length : Int).toNat (x92.1, x92.2.1, x92.2.2.1, (o42.length : Int))) c89)) (rv_move rfl) ?_
      refine st (v := (Sl a27 r24 c28)) (rv_move rfl) ?_
      refine st (v := (I (w64 ((w64 ((r24.length : Int) + 1)).tdiv 2)))) (rv_move rfl) ?_
      obtain ⟨xs98, hx99, h'⟩ := bind_some h
      clear h
      have h := h'; clear h'
      obtain ⟨a100, c101, hs102, hR103⟩ := (H.ro 1 rfl).slice hx99
      replace H := H.add (d := Ch.ro 0 (Sl a100 xs98 c101) xs98) hR103 (fun _ h => h)
      clear hR103
      refine st (v := (Sl a100 xs98 c101)) (rv_slice_l Try.underlying27 ti63 hs102 rfl rfl) ?_
      refine st (v := (I kind_2)) (rv_move rfl) ?_
      obtain ⟨r104, hx105, h'⟩ := bind_some h
      clear h
      have h := h'; clear h'
      have hc106 := ih (anodes_0 := a88) (cnodes_0 := c89) (alist_1 := a100) (clist_1 := c101) hx105
      refine st_call (cx_call hc106 (ent_f hc106.fn rfl) hn0 (show Hp S0 σ0 _ ([Ch.own 0 0 (Sl a88 (o42.set (nodes_0.length : Int).toNat (x92.1, x92.2.1, x92.2.2.1, (o42.length : Int))) c89) (o42.set (nodes_0.length : Int).toNat (x92.1, x92.2.1, x92.2.2.1, (o42.length : Int))), Ch.ro 0 (Sl a100 xs98 c101) xs98] ++ [Ch.ro 0 (Sl a100 xs98 c101) xs98, Ch.ro 0 (Sl a27 r24 c28) r24]) from (H.sel' [1, 0, 0, 2] rfl rfl))) wn ?_
      rintro _ σ109 ⟨_, ⟨a107, c108, rfl, rfl⟩, H, -⟩
      replace H : Hp S0 σ0 σ109 [Ch.own 0 n0 (Sl a107 r104 c108) r104, Ch.ro 0 (Sl a100 xs98 c101) xs98, Ch.ro 0 (Sl a27 r24 c28) r24] := H
      refine st (v := (Sl a107 r104 c108)) (rv_assign rfl) ?_
      refine w_end ?_
      replace H := H.ownSc 0 0 0 rfl (Nat.le_refl _)
      obtain rfl := Option.some.inj h
      exact ⟨rfl, _, σ109, a107, c108, fr_join ⟨rfl, trivial⟩, rfl, H.sel' [0] rfl rfl⟩
     ·replace h := bif_f hb91 h
      refine c_skip ?_
      obtain rfl := Option.some.inj h
      exact ⟨rfl, _, σ87, a88, c89, fr_join ⟨rfl, trivial⟩, rfl, H.sel' [0] rfl rfl⟩
    ·clear hj
     have h := h'
     clear h' H
     rintro e a w ⟨rfl, ρ, σ110, a111, c112, rfl, rfl, H⟩
     refine q_then ?_
     refine c_seq ?_
     refine rg ?_
     refine st (v := (Sl a111 o90 c112)) (rv_move rfl) ?_
     refine st (v := (Sl a111 o90 c112)) (rv_assign rfl) ?_
     refine w_end ?_
     refine q_then ?_
     refine c_ret ?_
     replace H := H.ownSc 0 0 n0 rfl (Nat.le_refl _)
     obtain rfl := Option.some.inj h
     exact fin_ret (v := (Sl a111 o90 c112)) (results_ok Try.results55 (res_tmp (v := (Sl a111 o90 c112)) rfl res_nil) rfl) ⟨a111, c112, rfl, rfl⟩ (H.sel' [0] rfl rfl)

theorem c_spec_addHit {list_0 : List (Int × Int)} {h_1 : Int × Int} {k_2 : Int} {alist_0 : Option Addr} {clist_0 : Nat} {r : (List (Int × Int))} (h : M.spec_addHit list_0 h_1 k_2 = some r) :
    Cal2 Try.prog 81 [(Sl alist_0 list_0 clist_0), (.agg #[(I h_1.1), (I h_1.2)]), (I k_2)] [Ch.ro 0 (Sl alist_0 list_0 clist_0) list_0] (fun n0 v L => ∃ (az1 : Option Addr), ∃ (cz2 : Nat), v = (Sl az1 r cz2) ∧ L = [Ch.own n0 n0 (Sl az1 r cz2) r]) := by
 refine cal2 (n := 58) Try.func81 rfl rfl rfl rfl ?_
 intro S0 σ0 n0 hn0 H
 unfold M.spec_addHit at h
 refine c_seq ?_
 refine rg ?_
 refine st_ex (ex_box (cs := [(I h_1.1), (I h_1.2)]) H hn0 rfl rfl) wn ?_
 rintro _ σ2 ⟨b1, rfl, H, -⟩
 refine st (v := (.slice none 0 0)) (rv_assign rfl) ?_
 refine w_end ?_
 refine q_then ?_
 refine c_seq ?_
 obtain ⟨xs4, hx5, h'⟩ := bind_some h
 clear h
 have h := h'; clear h'
 have hc8 := H.cells 0 rfl
 have Hs := H
 refine rg2 (σ := σ2) (Nm := (Nat) × (Option Addr) × (Nat) × (Nat)) 5 [0, 2, 4] [[false, false, false], [true, false, false], [false, false, true], [true, true, false], [true, false, true], [true, true, true]] [[(0, 1), (2, 4)], [(0, 0), (1, 1), (2, 2), (4, 4)], [(1, 3), (4, 5)], [(0, 0), (1, 1), (3, 3)], [(0, 2), (1, 4), (3, 5)]] 5 [fun ((b3, a6, c7, b9) : (Nat) × (Option Addr) × (Nat) × (Nat)) => fun σm => Hp S0 σ0 σm [Ch.bx n0 b1 0 [(I h_1.1), (I h_1.2)] [] [], Ch.ro 0 (Sl alist_0 list_0 clist_0) list_0] ∧ Md (cov []) σ2 σm, fun ((b3, a6, c7, b9) : (Nat) × (Option Addr) × (Nat) × (Nat)) => fun σm => Hp S0 σ0 σm [Ch.own n0 n0 (Sl (some ⟨b3, 0, none⟩) ([] : List (Int × Int)) 0) ([] : List (Int × Int)), Ch.bx n0 b1 0 [(I h_1.1), (I h_1.2)] [] [], Ch.ro 0 (Sl alist_0 list_0 clist_0) list_0] ∧ Md (cov []) σ2 σm, fun ((b3, a6, c7, b9) : (Nat) × (Option Addr) × (Nat) × (Nat)) => fun σm => Hp S0 σ0 σm [Ch.own n0 n0 (Sl (some ⟨b9, 0, none⟩) ([(h_1.1, h_1.2)] : List (Int × Int)) 1) ([(h_1.1, h_1.2)] : List (Int × Int)), Ch.bx n0 b1 0 [(I h_1.1), (I h_1.2)] [] [], Ch.ro 0 (Sl alist_0 list_0 clist_0) list_0] ∧ Md (cov []) σ2 σm, fun ((b3, a6, c7, b9) : (Nat) × (Option Addr) × (Nat) × (Nat)) => fun σm => Hp S0 σ0 σm [Ch.own n0 n0 (Sl a6 xs4 c7) xs4, Ch.bx n0 b1 0 [(I h_1.1), (I h_1.2)] [] [], Ch.ro 0 (Sl alist_0 list_0 clist_0) list_0] ∧ Md (fun i => (cov []) i ∨ (fun b => blk (Sl (some ⟨b3, 0, none⟩) ([] : List (Int × Int)) 0) = some b) i) σ2 σm, fun ((b3, a6, c7, b9) : (Nat) × (Option Addr) × (Nat) × (Nat)) => fun σm => Hp S0 σ0 σm [Ch.own n0 n0 (Sl (some ⟨b9, 0, none⟩) ([(h_1.1, h_1.2)] : List (Int × Int)) 1) ([(h_1.1, h_1.2)] : List (Int × Int)), Ch.own n0 n0 (Sl (some ⟨b3, 0, none⟩) ([] : List (Int × Int)) 0) ([] : List (Int × Int)), Ch.bx n0 b1 0 [(I h_1.1), (I h_1.2)] [] [], Ch.ro 0 (Sl alist_0 list_0 clist_0) list_0] ∧ Md (cov []) σ2 σm, fun ((b3, a6, c7, b9) : (Nat) × (Option Addr) × (Nat) × (Nat)) => fun σm => Hp S0 σ0 σm [Ch.own n0 n0 (Sl (some ⟨b9, 0, none⟩) ([(h_1.1, h_1.2)] : List (Int × Int)) 1) ([(h_1.1, h_1.2)] : List (Int × Int)), Ch.own n0 n0 (Sl a6 xs4 c7) xs4, Ch.bx n0 b1 0 [(I h_1.1), (I h_1.2)] [] [], Ch.ro 0 (Sl alist_0 list_0 clist_0) list_0] ∧ Md (fun i => (cov []) i ∨ (fun b => blk (Sl (some ⟨b3, 0, none⟩) ([] : List (Int × Int)) 0) = some b) i) σ2 σm] [fun ((b3, a6, c7, b9) : (Nat) × (Option Addr) × (Nat) × (Nat)) => (Sl (some ⟨b3, 0, none⟩) ([] : List (Int × Int)) 0), fun ((b3, a6, c7, b9) : (Nat) × (Option Addr) × (Nat) × (Nat)) => (Sl alist_0 list_0 clist_0), fun ((b3, a6, c7, b9) : (Nat) × (Option Addr) × (Nat) × (Nat)) => (Sl a6 xs4 c7), fun ((b3, a6, c7, b9) : (Nat) × (Option Addr) × (Nat) × (Nat)) => (.agg #[(I h_1.1), (I h_1.2)]), fun ((b3, a6, c7, b9) : (Nat) × (Option Addr) × (Nat) × (Nat)) => (Sl (some ⟨b9, 0, none⟩) ([(h_1.1, h_1.2)] : List (Int × Int)) 1)] (0, none, 0, 0) (by kernel_rfl) (by kernel_rfl) ?_ ?_ ?_
 ·intro σm m0
  exact ⟨H.grow (m0.mono fun _ h => h.elim), m0⟩
 ·refine all_cons (by
    refine ⟨?_, ?_⟩
    ·rintro ⟨b3, a6, c7, b9⟩ ρ σm hJ hoff hdep
     obtain ⟨H, m⟩ := id hJ
     refine dp_ex wn (ex_buildSlice (el := n0) (xs := ([] : List (Int × Int))) (ps := []) (cs := []) H hn0 Try.underlying25 ti62 rfl rfl (by kernel_rfl) (.nil) rfl) ?_
     rintro _ σq ⟨b3x, rfl, H2, m2⟩
     exact ⟨_, (b3x, a6, c7, b9), rfl, rfl, ⟨H2.sel' [0, 1, 2] rfl rfl, m.comp0 m2⟩, stab [1, 3, 4] (by kernel_rfl) ⟨rfl, rfl, rfl, trivial⟩⟩
    refine ⟨?_, ?_⟩
    ·rintro ⟨b3, a6, c7, b9⟩ ρ σm hJ hoff hdep
     obtain ⟨H, m⟩ := id hJ
     refine dp_ex wn (ex_buildSlice (el := n0) (xs := ([] : List (Int × Int))) (ps := []) (cs := []) H hn0 Try.underlying25 ti62 rfl rfl (by kernel_rfl) (.nil) rfl) ?_
     rintro _ σq ⟨b3x, rfl, H2, m2⟩
     exact ⟨_, (b3x, a6, c7, b9), rfl, rfl, ⟨H2.sel' [1, 0, 2, 3] rfl rfl, m.comp0 m2⟩, stab [1, 3, 4] (by kernel_rfl) ⟨rfl, rfl, rfl, trivial⟩⟩
    trivial) ?_
  refine ac rfl (by
    intro k; rintro ⟨b3, a6, c7, b9⟩ ρ σm hJ hoff hdep
    have e0 := look_off (N := 58) (hoff 0 rfl) rfl
    exact dp_v (v := (Sl alist_0 list_0 clist_0)) wn (rv_move e0) rfl hJ) ?_
  refine all_cons (by
    refine ⟨?_, ?_⟩
    ·rintro ⟨b3, a6, c7, b9⟩ ρ σm hJ hoff hdep
     have e10 := hdep 0 rfl rfl 10 rfl
     have e11 := hdep 1 rfl rfl 11 rfl
     obtain ⟨H, m⟩ := id hJ
     refine dp_ex wn (ex_append H (i := 0) rfl Try.underlying25 Try.underlying25 ti62 rfl rfl (by decide) ((H.ro 2 rfl).rd.sc) hx5 hn0 e10 e11) ?_
     rintro _ σq ⟨a6x, c7x, rfl, H2, m2⟩
     exact ⟨_, (b3, a6x, c7x, b9), rfl, rfl, ⟨H2.sel' [0, 1, 2] rfl rfl, m.comp m2⟩, stab [0, 1, 3, 4] (by kernel_rfl) ⟨rfl, rfl, rfl, rfl, trivial⟩⟩
    refine ⟨?_, ?_⟩
    ·rintro ⟨b3, a6, c7, b9⟩ ρ σm hJ hoff hdep
     have e10 := hdep 0 rfl rfl 10 rfl
     have e11 := hdep 1 rfl rfl 11 rfl
     obtain ⟨H, m⟩ := id hJ
     refine dp_ex wn (ex_append H (i := 1) rfl Try.underlying25 Try.underlying25 ti62 rfl rfl (by decide) ((H.ro 3 rfl).rd.sc) hx5 hn0 e10 e11) ?_
     rintro _ σq ⟨a6x, c7x, rfl, H2, m2⟩
     exact ⟨_, (b3, a6x, c7x, b9), rfl, rfl, ⟨H2.sel' [1, 0, 2, 3] rfl rfl, m.comp m2⟩, stab [0, 1, 3, 4] (by kernel_rfl) ⟨rfl, rfl, rfl, rfl, trivial⟩⟩
    trivial) ?_
  refine all_cons (by
    refine ⟨?_, ?_⟩
    ·rintro ⟨b3, a6, c7, b9⟩ ρ σm hJ hoff hdep
     have e4 := look_off (N := 58) (hoff 4 rfl) rfl
     obtain ⟨H, m⟩ := id hJ
     have hc8 := H.cells 0 rfl
     exact dp_v (v := (.agg #[(I h_1.1), (I h_1.2)])) wn (rv_load (cs := [(I h_1.1), (I h_1.2)]) Try.underlying62 rfl ti62 e4 rfl hc8) rfl hJ
    refine ⟨?_, ?_⟩
    ·rintro ⟨b3, a6, c7, b9⟩ ρ σm hJ hoff hdep
     have e4 := look_off (N := 58) (hoff 4 rfl) rfl
     obtain ⟨H, m⟩ := id hJ
     have hc8 := H.cells 1 rfl
     exact dp_v (v := (.agg #[(I h_1.1), (I h_1.2)])) wn (rv_load (cs := [(I h_1.1), (I h_1.2)]) Try.underlying62 rfl ti62 e4 rfl hc8) rfl hJ
    refine ⟨?_, ?_⟩
    ·rintro ⟨b3, a6, c7, b9⟩ ρ σm hJ hoff hdep
     have e4 := look_off (N := 58) (hoff 4 rfl) rfl
     obtain ⟨H, m⟩ := id hJ
     have hc8 := H.cells 1 rfl
     exact dp_v (v := (.agg #[(I h_1.1), (I h_1.2)])) wn (rv_load (cs := [(I h_1.1), (I h_1.2)]) Try.underlying62 rfl ti62 e4 rfl hc8) rfl hJ
    trivial) ?_
  refine all_cons (by
    refine ⟨?_, ?_⟩
    ·rintro ⟨b3, a6, c7, b9⟩ ρ σm hJ hoff hdep
     have e13 : look 58 ρ 13 = (.agg #[(I h_1.1), (I h_1.2)]) := hdep 3 rfl rfl 13 rfl
     obtain ⟨H, m⟩ := id hJ
     refine dp_ex wn (ex_buildSlice (el := n0) (xs := ([(h_1.1, h_1.2)] : List (Int × Int))) (ps := [(0, (.agg #[(I h_1.1), (I h_1.2)]))]) (cs := [(I h_1.1), (I h_1.2)]) H hn0 Try.underlying25 ti62 rfl (by show [(0, look 58 ρ 13)] = _; rw [e13]) (by kernel_rfl) (.cons (c := [(I h_1.1), (I h_1.2)]) ⟨[(I h_1.1)], [(I h_1.2)], rfl, rfl, rfl⟩ (.nil)) rfl) ?_
     rintro _ σq ⟨b9x, rfl, H2, m2⟩
     exact ⟨_, (b3, a6, c7, b9x), rfl, rfl, ⟨H2.sel' [0, 1, 2] rfl rfl, m.comp0 m2⟩, stab [0, 1, 2, 3] (by kernel_rfl) ⟨rfl, rfl, rfl, rfl, trivial⟩⟩
    refine ⟨?_, ?_⟩
    ·rintro ⟨b3, a6, c7, b9⟩ ρ σm hJ hoff hdep
     have e13 : look 58 ρ 13 = (.agg #[(I h_1.1), (I h_1.2)]) := hdep 3 rfl rfl 13 rfl
     obtain ⟨H, m⟩ := id hJ
     refine dp_ex wn (ex_buildSlice (el := n0) (xs := ([(h_1.1, h_1.2)] : List (Int × Int))) (ps := [(0, (.agg #[(I h_1.1), (I h_1.2)]))]) (cs := [(I h_1.1), (I h_1.2)]) H hn0 Try.underlying25 ti62 rfl (by show [(0, look 58 ρ 13)] = _; rw [e13]) (by kernel_rfl) (.cons (c := [(I h_1.1), (I h_1.2)]) ⟨[(I h_1.1)], [(I h_1.2)], rfl, rfl, rfl⟩ (.nil)) rfl) ?_
     rintro _ σq ⟨b9x, rfl, H2, m2⟩
     exact ⟨_, (b3, a6, c7, b9x), rfl, rfl, ⟨H2.sel' [0, 1, 2, 3] rfl rfl, m.comp0 m2⟩, stab [0, 1, 2, 3] (by kernel_rfl) ⟨rfl, rfl, rfl, rfl, trivial⟩⟩
    refine ⟨?_, ?_⟩
    ·rintro ⟨b3, a6, c7, b9⟩ ρ σm hJ hoff hdep
     have e13 : look 58 ρ 13 = (.agg #[(I h_1.1), (I h_1.2)]) := hdep 3 rfl rfl 13 rfl
     obtain ⟨H, m⟩ := id hJ
     refine dp_ex wn (ex_buildSlice (el := n0) (xs := ([(h_1.1, h_1.2)] : List (Int × Int))) (ps := [(0, (.agg #[(I h_1.1), (I h_1.2)]))]) (cs := [(I h_1.1), (I h_1.2)]) H hn0 Try.underlying25 ti62 rfl (by show [(0, look 58 ρ 13)] = _; rw [e13]) (by kernel_rfl) (.cons (c := [(I h_1.1), (I h_1.2)]) ⟨[(I h_1.1)], [(I h_1.2)], rfl, rfl, rfl⟩ (.nil)) rfl) ?_
     rintro _ σq ⟨b9x, rfl, H2, m2⟩
     exact ⟨_, (b3, a6, c7, b9x), rfl, rfl, ⟨H2.sel' [0, 1, 2, 3] rfl rfl, m.comp0 m2⟩, stab [0, 1, 2, 3] (by kernel_rfl) ⟨rfl, rfl, rfl, rfl, trivial⟩⟩
    trivial) ?_
  exact all_nil
 ·rintro ⟨b3, a6, c7, b9⟩ ρ σ10 hJ hoff hrel
  have e2 := look_off (N := 58) (hoff 2 rfl) rfl
  have e12 := hrel 2 rfl 12 rfl
  have e14 := hrel 4 rfl 14 rfl
  obtain ⟨H, -⟩ := (show Hp S0 σ0 σ10 [Ch.own n0 n0 (Sl (some ⟨b9, 0, none⟩) ([(h_1.1, h_1.2)] : List (Int × Int)) 1) ([(h_1.1, h_1.2)] : List (Int × Int)), Ch.own n0 n0 (Sl a6 xs4 c7) xs4, Ch.bx n0 b1 0 [(I h_1.1), (I h_1.2)] [] [], Ch.ro 0 (Sl alist_0 list_0 clist_0) list_0] ∧ Md (fun i => (cov []) i ∨ (fun b => blk (Sl (some ⟨b3, 0, none⟩) ([] : List (Int × Int)) 0) = some b) i) σ2 σ10 from hJ)
  clear hJ Hs
  rw [fr_lookL (L := [(2, (I k_2)), (12, (Sl a6 xs4 c7)), (14, (Sl (some ⟨b9, 0, none⟩) ([(h_1.1, h_1.2)] : List (Int × Int)) 1))]) ⟨e2, e12, e14, trivial⟩]
  clear hoff hrel e2 e12 e14
  obtain ⟨xs11, hx12, h'⟩ := bind_some h
  clear h
  have h := h'; clear h'
  refine st_ex (ex_append H (i := 1) rfl Try.underlying25 Try.underlying25 ti62 rfl rfl (by decide) (H.own 0 rfl).rd hx12 hn0 rfl rfl) wn ?_
  rintro _ σ15 ⟨a13, c14, rfl, H, -⟩
  refine st (v := (Sl a13 xs11 c14)) (rv_assign rfl) ?_
  refine w_end ?_
  refine q_then ?_
  refine c_seq ?_
  refine c_seq ?_
  refine rg ?_
  refine st (v := (Sl a13 xs11 c14)) (rv_move rfl) ?_
  refine st (v := (I (xs11.length : Int))) (rv_len Try.underlying25 rfl) ?_
  refine st (v := (I (w64 ((xs11.length : Int) - 1)))) (rv_sub (a := (xs11.length : Int)) (b := 1) rfl rfl) ?_
  refine st (v := (I (w64 ((xs11.length : Int) - 1)))) (rv_assign rfl) ?_
  refine w_end ?_
  refine q_then ?_
  obtain ⟨o16, hj, h'⟩ := bind_some h
  clear h
  refine c_cut (fun e a w => e = .normal ∧ ∃ (ρ : Nat → Value) (σ : St), a = fr 58 (updL ρ [(2, (I k_2)), (7, (Sl a13 o16 c14))]) ∧ w = σ.w ∧ Hp S0 σ0 σ [Ch.own n0 n0 (Sl a13 o16 c14) o16] ∧ o16.length = xs11.length) ?_ ?_
  ·clear h'
   rename _ = some o16 => h
   refine c_blk ?_
   refine wp_loopM _ h (fun s17 a w => ∃ (ρ : Nat → Value) (σ : St), a = fr 58 (updL ρ [(2, (I k_2)), (7, (Sl a13 s17.1 c14)), (8, (I s17.2))]) ∧ w = σ.w ∧ Hp S0 σ0 σ [Ch.own n0 n0 (Sl a13 s17.1 c14) s17.1] ∧ s17.1.length = xs11.length) ⟨_, σ15, fr_join ⟨rfl, rfl, rfl, trivial⟩, rfl, H.sel' [0] rfl rfl, rfl⟩ ?_
   clear h H
   rintro s17 a w o ⟨ρ, σ18, rfl, rfl, H, hn19⟩ h hres
   refine c_seq ?_
   refine c_seq ?_
   obtain ⟨o20, hj, h'⟩ := bind_some h
   clear h
   refine c_cut (fun e a w => e = .normal ∧ ∃ (ρ : Nat → Value) (σ : St), a = fr 58 (updL ρ [(2, (I k_2)), (7, (Sl a13 s17.1 c14)), (8, (I s17.2)), (32, (B o20))]) ∧ w = σ.w ∧ Hp S0 σ0 σ [Ch.own n0 n0 (Sl a13 s17.1 c14) s17.1]) ?_ ?_
   ·clear h'
    rename _ = some o20 => h
    refine rgP (σ := σ18) 12 (by kernel_rfl) (by kernel_rfl) (by kernel_rfl) ?_
    refine sq (v := (I s17.2)) (rv_move rfl) ?_
    refine sq (v := (B (decide (0 < s17.2)))) (rv_gtr (a := s17.2) (b := 0) rfl rfl) ?_
    refine sq (v := (B (decide (0 < s17.2)))) (rv_move rfl) ?_
    rcases Bool.eq_false_or_eq_true (decide (0 < s17.2)) with hb21 | hb21
    ·replace h := bif_t hb21 h
     refine sq_g (v := (Sl a13 s17.1 c14)) (congrArg some hb21) (rv_move rfl) ?_
     refine sq_g (v := (I s17.2)) (congrArg some hb21) (rv_move rfl) ?_
     obtain ⟨x22, hx23, h'⟩ := bind_some h
     clear h
     have h := h'; clear h'
     obtain ⟨b25, o26, hi24, -⟩ := (H.own 0 rfl).ix hx23
     refine sq_g (v := (pt b25 o26)) (congrArg some hb21) (rv_ix Try.underlying25 ti62 rfl rfl hi24) ?_
     obtain ⟨_, ⟨_, _, rfl, rfl, rfl⟩, hl27, hc28⟩ := ((H.own 0 rfl).at hx23 hi24).cells
     refine sq_g (v := (.agg #[(I x22.1), (I x22.2)])) (congrArg some hb21) (rv_load Try.underlying62 rfl ti62 rfl hl27 hc28) ?_
     refine sq_g (v := (Sl a13 s17.1 c14)) (congrArg some hb21) (rv_move rfl) ?_
     refine sq_g (v := (I s17.2)) (congrArg some hb21) (rv_move rfl) ?_
     refine sq_g (v := (I (w64 (s17.2 - 1)))) (congrArg some hb21) (rv_sub (a := s17.2) (b := 1) rfl rfl) ?_
     obtain ⟨x29, hx30, h'⟩ := bind_some h
     clear h
     have h := h'; clear h'
     obtain ⟨b32, o33, hi31, -⟩ := (H.own 0 rfl).ix hx30
     refine sq_g (v := (pt b32 o33)) (congrArg some hb21) (rv_ix Try.underlying25 ti62 rfl rfl hi31) ?_
     obtain ⟨_, ⟨_, _, rfl, rfl, rfl⟩, hl34, hc35⟩ := ((H.own 0 rfl).at hx30 hi31).cells
     refine sq_g (v := (.agg #[(I x29.1), (I x29.2)])) (congrArg some hb21) (rv_load Try.underlying62 rfl ti62 rfl hl34 hc35) ?_
     refine sq_end ?_
     intro σ36 hm37
     replace H := H.grow (hm37.mono fun _ h => h); clear hm37
     obtain ⟨r38, hx39, h'⟩ := bind_some h
     clear h
     have h := h'; clear h'
     have hc40 := c_spec_nearer hx39
     refine st_call (cx_call hc40 (ent_f hc40.fn rfl) hn0 (show Hp S0 σ0 _ ([] ++ [Ch.own n0 n0 (Sl a13 s17.1 c14) s17.1]) from (H.sel' [0] rfl rfl))) (wanted_yes rfl (by exact (congrArg some hb21))) ?_
     rintro _ σ41 ⟨_, ⟨rfl, rfl⟩, H, -⟩
     replace H : Hp S0 σ0 σ41 [Ch.own n0 n0 (Sl a13 s17.1 c14) s17.1] := H
     refine st (v := (B r38)) (rv_pick_t (congrArg B hb21) rfl) ?_
     refine w_end ?_
     obtain rfl := Option.some.inj h
     exact ⟨rfl, _, σ41, fr_join ⟨rfl, rfl, rfl, rfl, trivial⟩, rfl, H.sel' [0] rfl rfl⟩
    ·replace h := bif_f hb21 h
     refine sq_skip (congrArg some hb21) ?_
     refine sq_skip (congrArg some hb21) ?_
     refine sq_skip (congrArg some hb21) ?_
     refine sq_skip (congrArg some hb21) ?_
     refine sq_skip (congrArg some hb21) ?_
     refine sq_skip (congrArg some hb21) ?_
     refine sq_skip (congrArg some hb21) ?_
     refine sq_skip (congrArg some hb21) ?_
     refine sq_skip (congrArg some hb21) ?_
     refine sq_end ?_
     intro σ42 hm43
     replace H := H.grow (hm43.mono fun _ h => h); clear hm43
     refine st_skip (congrArg some hb21) ?_
     refine st (v := (B false)) (rv_pick_f (congrArg B hb21) rfl) ?_
     refine w_end ?_
     obtain rfl := Option.some.inj h
     exact ⟨rfl, _, σ42, fr_join ⟨rfl, rfl, rfl, rfl, trivial⟩, rfl, H.sel' [0] rfl rfl⟩
   ·clear hj
    have h := h'
    clear h' H
    rintro e a w ⟨rfl, ρ, σ44, rfl, rfl, H⟩
    refine q_then ?_
    refine cd_cond o20 rfl (fun hb45 => ?_) (fun hb45 => ?_)
    ·replace h := bif_t hb45 h
     refine c_skip ?_
     refine q_then ?_
     refine c_seq ?_
     refine c_blk ?_
     refine c_seq ?_
     refine rg ?_
     refine st (v := (Sl a13 s17.1 c14)) (rv_move rfl) ?_
     refine st (v := (I s17.2)) (rv_move rfl) ?_
     obtain ⟨x46, hx47, h'⟩ := bind_some h
     clear h
     have h := h'; clear h'
     obtain ⟨b49, o50, hi48, -⟩ := (H.own 0 rfl).ix hx47
     refine st (v := (pt b49 o50)) (rv_ix Try.underlying25 ti62 rfl rfl hi48) ?_
     obtain ⟨_, ⟨_, _, rfl, rfl, rfl⟩, hl51, hc52⟩ := ((H.own 0 rfl).at hx47 hi48).cells
     refine st (v := (.agg #[(I x46.1), (I x46.2)])) (rv_load Try.underlying62 rfl ti62 rfl hl51 hc52) ?_
     refine st_ex (ex_alloc (cs := [(I 0), (I 0)]) H hn0 ti62 rfl) wn ?_
     rintro _ σ54 ⟨b53, rfl, H, -⟩
     refine st_exS (ex_store_box (k := 0) (cs := [(I 0), (I 0)]) (vs := [(I x46.1), (I x46.2)]) (cs' := [(I x46.1), (I x46.2)]) H (i := 0) rfl ti62 rfl rfl rfl rfl rfl (Nat.le_of_ble_eq_true rfl) (by simp [plain]) rfl) wn ?_
     rintro σ55 ⟨H, -⟩
     refine w_end ?_
     refine q_then ?_
     refine c_seq ?_
     refine rg ?_
     refine st (v := (Sl a13 s17.1 c14)) (rv_move rfl) ?_
     refine st (v := (I s17.2)) (rv_move rfl) ?_
     refine st (v := (Sl a13 s17.1 c14)) (rv_move rfl) ?_
     refine st (v := (I s17.2)) (rv_move rfl) ?_
     refine st (v := (I (w64 (s17.2 - 1)))) (rv_sub (a := s17.2) (b := 1) rfl rfl) ?_
     obtain ⟨x56, hx57, h'⟩ := bind_some h
     clear h
     have h := h'; clear h'
     obtain ⟨b59, o60, hi58, -⟩ := (H.own 1 rfl).ix hx57
     refine st (v := (pt b59 o60)) (rv_ix Try.underlying25 ti62 rfl rfl hi58) ?_
     obtain ⟨_, ⟨_, _, rfl, rfl, rfl⟩, hl61, hc62⟩ := ((H.own 1 rfl).at hx57 hi58).cells
     refine st (v := (.agg #[(I x56.1), (I x56.2)])) (rv_load Try.underlying62 rfl ti62 rfl hl61 hc62) ?_
     obtain ⟨x63, hx64, h'⟩ := bind_some h
     clear h
     have h := h'; clear h'
     obtain ⟨b66, o67, hi65, -⟩ := (H.own 1 rfl).ix hx64
     refine st (v := (pt b66 o67)) (rv_ix Try.underlying25 ti62 rfl rfl hi65) ?_
     refine st_exS (ex_store_own (e' := (x56.1, x56.2)) (vs := [(I x56.1), (I x56.2)]) (k := 0) H (i := 1) rfl ti62 hx64 hi65 rfl rfl rfl rfl rfl (Nat.le_of_ble_eq_true rfl) (by simp [plain]) (by rintro _ ⟨_, _, rfl, rfl, rfl⟩; exact ⟨[(I x56.1)], [(I x56.2)], rfl, rfl, rfl⟩)) wn ?_
     rintro σ68 ⟨H, -⟩
     have hsl : (Sl a13 s17.1 c14) = (Sl a13 (s17.1.set s17.2.toNat (x56.1, x56.2)) c14) := sl_len List.length_set.symm
     rw [hsl]; rw [hsl] at H; clear hsl
     refine w_end ?_
     refine q_then ?_
     refine rg ?_
     refine st (v := (Sl a13 (s17.1.set s17.2.toNat (x56.1, x56.2)) c14)) (rv_move rfl) ?_
     refine st (v := (I s17.2)) (rv_move rfl) ?_
     refine st (v := (I (w64 (s17.2 - 1)))) (rv_sub (a := s17.2) (b := 1) rfl rfl) ?_
     have hc69 := H.cells 1 rfl
     refine st (v := (.agg #[(I x46.1), (I x46.2)])) (rv_load (cs := [(I x46.1), (I x46.2)]) Try.underlying62 rfl ti62 rfl rfl hc69) ?_
     obtain ⟨x70, hx71, h'⟩ := bind_some h
     clear h
     have h := h'; clear h'
     obtain ⟨b73, o74, hi72, -⟩ := (H.own 0 rfl).ix hx71
     refine st (v := (pt b73 o74)) (rv_ix Try.underlying25 ti62 rfl rfl hi72) ?_
     refine st_exS (ex_store_own (e' := (x46.1, x46.2)) (vs := [(I x46.1), (I x46.2)]) (k := 0) H (i := 0) rfl ti62 hx71 hi72 rfl rfl rfl rfl rfl (Nat.le_of_ble_eq_true rfl) (by simp [plain]) (by rintro _ ⟨_, _, rfl, rfl, rfl⟩; exact ⟨[(I x46.1)], [(I x46.2)], rfl, rfl, rfl⟩)) wn ?_
     rintro σ75 ⟨H, -⟩
     have hsl : (Sl a13 (s17.1.set s17.2.toNat (x56.1, x56.2)) c14) = (Sl a13 ((s17.1.set s17.2.toNat (x56.1, x56.2)).set (w64 (s17.2 - 1)).toNat (x46.1, x46.2)) c14) := sl_len List.length_set.symm
     rw [hsl]; rw [hsl] at H; clear hsl
     refine w_end ?_
     refine q_blk ?_
     refine q_then ?_
     refine rg ?_
     refine st (v := (I s17.2)) (rv_move rfl) ?_
     refine st (v := (I (w64 (s17.2 - 1)))) (rv_sub (a := s17.2) (b := 1) rfl rfl) ?_
     refine st (v := (I (w64 (s17.2 - 1)))) (rv_assign rfl) ?_
     refine w_end ?_
     refine q_then ?_
     obtain rfl := Option.some.inj h
     exact ⟨_, rfl, _, σ75, fr_join ⟨rfl, rfl, rfl, trivial⟩, rfl, H.sel' [0] rfl rfl, (List.length_set.trans (List.length_set.trans hn19))⟩
    ·replace h := bif_f hb45 h
     refine c_exit ?_
     refine q_then_x ?_
     refine q_then_x ?_
     refine q_blk_hit ?_
     obtain rfl := Option.some.inj h
     obtain rfl := hres _ rfl
     exact ⟨rfl, _, σ44, fr_join ⟨rfl, rfl, trivial⟩, rfl, H.sel' [0] rfl rfl, hn19⟩
  ·clear hj
   have h := h'
   clear h' H
   rintro e a w ⟨rfl, ρ, σ76, rfl, rfl, H, hn77⟩
   refine q_then ?_
   refine c_seq ?_
   refine rg ?_
   refine st (v := (Sl a13 o16 c14)) (rv_move rfl) ?_
   refine st (v := (I k_2)) (rv_move rfl) ?_
   refine st (v := (Sl a13 o16 c14)) (rv_move rfl) ?_
   refine st (v := (I (o16.length : Int))) (rv_len Try.underlying25 rfl) ?_
   refine st (v := (I (min k_2 (o16.length : Int)))) (rv_min rfl rfl) ?_
   obtain ⟨xs78, hx79, h'⟩ := bind_some h
   clear h
   have h := h'; clear h'
   obtain ⟨a80, c81, hs82, hR83, hb84⟩ := (H.own 0 rfl).slice hx79
   replace H := (H.front (i := 0) rfl).turn (d := Ch.own n0 n0 (Sl a80 xs78 c81) xs78) (fun _ => hR83) hb84; clear hR83 hb84
   refine st (v := (Sl a80 xs78 c81)) (rv_slice_h Try.underlying25 ti62 hs82 rfl rfl) ?_
   refine st (v := (Sl a80 xs78 c81)) (rv_assign rfl) ?_
   refine w_end ?_
   refine q_then ?_
   refine c_ret ?_
   obtain rfl := Option.some.inj h
   exact fin_ret (v := (Sl a80 xs78 c81)) (results_ok Try.results81 (res_tmp (v := (Sl a80 xs78 c81)) rfl res_nil) rfl) ⟨a80, c81, rfl, rfl⟩ (H.sel' [0] rfl rfl)

theorem c_spec_keyAt {list_0 : List (Int × (List Int) × Int)} {key_1 : Int} {alist_0 : Option Addr} {clist_0 : Nat} {r : Int} (h : M.spec_keyAt list_0 key_1 = some r) :
    Cal2 Try.prog 114 [(Sl alist_0 list_0 clist_0), (I key_1)] [Ch.ro 0 (Sl alist_0 list_0 clist_0) list_0] (fun n0 v L => v = (I r) ∧ L = []) := by
 refine cal2 (n := 20) Try.func114 rfl rfl rfl rfl ?_
 intro S0 σ0 n0 hn0 H
 unfold M.spec_keyAt at h
 refine c_seq ?_
 refine rg ?_
 refine st (v := (I 0)) (rv_assign rfl) ?_
 refine w_end ?_
 refine q_then ?_
 refine c_seq ?_
 refine c_seq ?_
 refine rg ?_
 refine st (v := (I 0)) (rv_assign rfl) ?_
 refine w_end ?_
 refine q_then ?_
 obtain ⟨o1, hj, h'⟩ := bind_some h
 clear h
 refine c_cut (fun e a w => (∃ t, o1 = (.inl t) ∧ e = .normal ∧ ∃ (ρ : Nat → Value) (σ : St), a = fr 20 (updL ρ []) ∧ w = σ.w ∧ Hp S0 σ0 σ []) ∨ (∃ t, o1 = (.inr t) ∧ e = .ret ∧ ∃ (ρ : Nat → Value) (σ : St), a = fr 20 (updL ρ [(4, (I t))]) ∧ w = σ.w ∧ Hp S0 σ0 σ [])) ?_ ?_
 ·clear h'
  rename _ = some o1 => h
  refine c_blk ?_
  refine wp_loopM _ h (fun s2 a w => ∃ (ρ : Nat → Value) (σ : St), a = fr 20 (updL ρ [(0, (Sl alist_0 list_0 clist_0)), (1, (I key_1)), (5, (I s2))]) ∧ w = σ.w ∧ Hp S0 σ0 σ [Ch.ro 0 (Sl alist_0 list_0 clist_0) list_0]) ⟨_, σ0, fr_join ⟨rfl, rfl, rfl, trivial⟩, rfl, H.sel' [0] rfl rfl⟩ ?_
  clear h H
  rintro s2 a w o ⟨ρ, σ3, rfl, rfl, H⟩ h hres
  refine c_seq ?_
  refine c_seq ?_
  refine rg ?_
  refine st (v := (I s2)) (rv_move rfl) ?_
  refine st (v := (Sl alist_0 list_0 clist_0)) (rv_move rfl) ?_
  refine st (v := (I (list_0.length : Int))) (rv_len Try.underlying27 rfl) ?_
  refine st (v := (B (decide (s2 < (list_0.length : Int))))) (rv_lss (a := s2) (b := (list_0.length : Int)) rfl rfl) ?_
  refine w_end ?_
  refine q_then ?_
  refine cd_cond (decide (s2 < (list_0.length : Int))) rfl (fun hb4 => ?_) (fun hb4 => ?_)
  ·replace h := bif_t hb4 h
   refine c_skip ?_
   refine q_then ?_
   refine c_seq ?_
   refine c_blk ?_
   refine c_seq ?_
   refine rg ?_
   refine st (v := (Sl alist_0 list_0 clist_0)) (rv_move rfl) ?_
   refine st (v := (I s2)) (rv_move rfl) ?_
   obtain ⟨x5, hx6, h'⟩ := bind_some h
   clear h
   have h := h'; clear h'
   obtain ⟨b8, o9, hi7, -⟩ := (H.ro 0 rfl).ix hx6
   refine st (v := (pt b8 o9)) (rv_ix Try.underlying27 ti63 rfl rfl hi7) ?_
   refine st (v := (pt b8 (o9 + 0))) (rv_fieldAddr (off := 0) (ft := 3) Try.underlying63 rfl ti3 rfl rfl) ?_
   have hc10 := ((H.ro 0 rfl).at hx6 hi7).fst.int
   refine st (v := (I x5.1)) (rv_load1 Try.underlying3 rfl rfl hc10) ?_
   refine st (v := (I key_1)) (rv_move rfl) ?_
   refine st (v := (B (x5.1 == key_1))) (rv_eql (a := x5.1) (b := key_1) rfl rfl) ?_
   refine w_end ?_
   refine q_then ?_
   refine cd_cond (x5.1 == key_1) rfl (fun hb11 => ?_) (fun hb11 => ?_)
   ·replace h := bif_t hb11 h
    refine c_seq ?_
    refine rg ?_
    refine st (v := (I s2)) (rv_move rfl) ?_
    refine st (v := (I s2)) (rv_assign rfl) ?_
    refine w_end ?_
    refine q_then ?_
    refine c_ret ?_
    refine q_blk_r ?_
    refine q_then_r ?_
    refine q_then_r ?_
    refine q_blk_r ?_
    obtain rfl := Option.some.inj h
    obtain rfl := hres _ rfl
    exact .inr (⟨_, rfl, rfl, _, σ3, fr_join ⟨rfl, trivial⟩, rfl, H.sel' [] rfl rfl⟩)
   ·replace h := bif_f hb11 h
    refine c_skip ?_
    refine q_blk ?_
    refine q_then ?_
    refine rg ?_
    refine st (v := (I s2)) (rv_move rfl) ?_
    refine st (v := (I (w64 (s2 + 1)))) (rv_add (a := s2) (b := 1) rfl rfl) ?_
    refine st (v := (I (w64 (s2 + 1)))) (rv_assign rfl) ?_
    refine w_end ?_
    refine q_then ?_
    obtain rfl := Option.some.inj h
    exact ⟨_, rfl, _, σ3, fr_join ⟨rfl, rfl, rfl, trivial⟩, rfl, H.sel' [0] rfl rfl⟩
  ·replace h := bif_f hb4 h
   refine c_exit ?_
   refine q_then_x ?_
   refine q_then_x ?_
   refine q_blk_hit ?_
   obtain rfl := Option.some.inj h
   obtain rfl := hres _ rfl
   exact .inl ⟨_, rfl, rfl, _, σ3, fr_join trivial, rfl, H.sel' [] rfl rfl⟩
 ·clear hj
  have h := h'
  clear h' H
  rintro e a w (⟨t12, rfl, rfl, ρ, σ13, rfl, rfl, H⟩ | ⟨t14, rfl, rfl, ρ, σ15, rfl, rfl, H⟩)
  ·replace h := selim_l h
   refine q_then ?_
   refine c_seq ?_
   refine rg ?_
   refine st (v := (I (-1))) (rv_assign rfl) ?_
   refine w_end ?_
   refine q_then ?_
   refine c_ret ?_
   obtain rfl := Option.some.inj h
   exact fin_ret (v := (I (-1))) (results_ok Try.results114 (res_tmp (v := (I (-1))) rfl res_nil) rfl) ⟨rfl, rfl⟩ (H.sel' [] rfl rfl)
  ·replace h := selim_r h
   refine q_then_r ?_
   obtain rfl := Option.some.inj h
   exact fin_ret (v := (I t14)) (results_ok Try.results114 (res_tmp (v := (I t14)) rfl res_nil) rfl) ⟨rfl, rfl⟩ (H.sel' [] rfl rfl)

theorem c_spec_seek_reach {s_0 : (List (Int × Int × Int × Int)) × (List (Int × (List Int) × Int)) × Int × (List Int) × Int × (List (Int × Int)) × Int} {as_0_0 : Option Addr} {cs_0_0 : Nat} {as_0_1 : Option Addr} {cs_0_1 : Nat} {as_0_3 : Option Addr} {cs_0_3 : Nat} {as_0_5 : Option Addr} {cs_0_5 : Nat} {los_0 bs_0 os_0 : Nat} {pres_0 sufs_0 : List Value} {r : Int} (h : M.spec_seek_reach s_0 = some r) :
    Cal2 Try.prog 115 [(pt bs_0 os_0)] [Ch.bx los_0 bs_0 os_0 [(Sl as_0_0 s_0.1 cs_0_0), (Sl as_0_1 s_0.2.1 cs_0_1), (I s_0.2.2.1), (Sl as_0_3 s_0.2.2.2.1 cs_0_3), (I s_0.2.2.2.2.1), (Sl as_0_5 s_0.2.2.2.2.2.1 cs_0_5), (I s_0.2.2.2.2.2.2)] pres_0 sufs_0, Ch.ro 0 (Sl as_0_0 s_0.1 cs_0_0) s_0.1, Ch.ro 0 (Sl as_0_1 s_0.2.1 cs_0_1) s_0.2.1, Ch.ro 0 (Sl as_0_3 s_0.2.2.2.1 cs_0_3) s_0.2.2.2.1, Ch.ro 0 (Sl as_0_5 s_0.2.2.2.2.2.1 cs_0_5) s_0.2.2.2.2.2.1] (fun n0 v L => v = (I r) ∧ L = [Ch.bx los_0 bs_0 os_0 [(Sl as_0_0 s_0.1 cs_0_0), (Sl as_0_1 s_0.2.1 cs_0_1), (I s_0.2.2.1), (Sl as_0_3 s_0.2.2.2.1 cs_0_3), (I s_0.2.2.2.2.1), (Sl as_0_5 s_0.2.2.2.2.2.1 cs_0_5), (I s_0.2.2.2.2.2.2)] pres_0 sufs_0]) := by
 refine cal2 (n := 26) Try.func115 rfl rfl rfl rfl ?_
 intro S0 σ0 n0 hn0 H
 unfold M.spec_seek_reach at h
 refine c_seq ?_
 refine rg ?_
 refine st (v := (I 0)) (rv_assign rfl) ?_
 refine w_end ?_
 refine q_then ?_
 refine c_seq ?_
 refine c_seq ?_
 refine rgP (σ := σ0) 9 (by kernel_rfl) (by kernel_rfl) (by kernel_rfl) ?_
 refine sq (v := (pt bs_0 os_0)) (rv_move rfl) ?_
 refine sq (v := (pt bs_0 os_0)) (rv_nilCheck rfl) ?_
 refine sq (v := (pt bs_0 (os_0 + 5))) (rv_fieldAddr (off := 5) (ft := 25) Try.underlying82 rfl ti25 rfl rfl) ?_
 have hc1 := H.cell (u := (Sl as_0_5 s_0.2.2.2.2.2.1 cs_0_5)) (o' := (os_0 + 5)) 0 5 rfl rfl rfl
 refine sq (v := (Sl as_0_5 s_0.2.2.2.2.2.1 cs_0_5)) (rv_load1 Try.underlying25 rfl rfl hc1) ?_
 refine sq (v := (I (s_0.2.2.2.2.2.1.length : Int))) (rv_len Try.underlying25 rfl) ?_
 refine sq (v := (pt bs_0 os_0)) (rv_move rfl) ?_
 refine sq (v := (pt bs_0 os_0)) (rv_nilCheck rfl) ?_
 refine sq (v := (pt bs_0 (os_0 + 4))) (rv_fieldAddr (off := 4) (ft := 3) Try.underlying82 rfl ti3 rfl rfl) ?_
 have hc2 := H.cell (u := (I s_0.2.2.2.2.1)) (o' := (os_0 + 4)) 0 4 rfl rfl rfl
 refine sq (v := (I s_0.2.2.2.2.1)) (rv_load1 Try.underlying3 rfl rfl hc2) ?_
 refine sq_end ?_
 intro σ3 hm4
 replace H := H.grow (hm4.mono fun _ h => h); clear hm4
 refine st (v := (B (decide ((s_0.2.2.2.2.2.1.length : Int) < s_0.2.2.2.2.1)))) (rv_lss (a := (s_0.2.2.2.2.2.1.length : Int)) (b := s_0.2.2.2.2.1) rfl rfl) ?_
 refine w_end ?_
 refine q_then ?_
 refine cd_cond (decide ((s_0.2.2.2.2.2.1.length : Int) < s_0.2.2.2.2.1)) rfl (fun hb5 => ?_) (fun hb5 => ?_)
 ·replace h := bif_t hb5 h
  refine c_seq ?_
  refine rg ?_
  refine st (v := (I 1000000)) (rv_assign rfl) ?_
  refine w_end ?_
  refine q_then ?_
  refine c_ret ?_
  refine q_then_r ?_
  obtain rfl := Option.some.inj h
  exact fin_ret (v := (I 1000000)) (results_ok Try.results115 (res_tmp (v := (I 1000000)) rfl res_nil) rfl) ⟨rfl, rfl⟩ (H.sel' [0] rfl rfl)
 ·replace h := bif_f hb5 h
  refine c_skip ?_
  refine q_then ?_
  refine c_seq ?_
  refine rgP (σ := σ3) 10 (by kernel_rfl) (by kernel_rfl) (by kernel_rfl) ?_
  refine sq (v := (pt bs_0 os_0)) (rv_move rfl) ?_
  refine sq (v := (pt bs_0 os_0)) (rv_nilCheck rfl) ?_
  refine sq (v := (pt bs_0 (os_0 + 5))) (rv_fieldAddr (off := 5) (ft := 25) Try.underlying82 rfl ti25 rfl rfl) ?_
  have hc6 := H.cell (u := (Sl as_0_5 s_0.2.2.2.2.2.1 cs_0_5)) (o' := (os_0 + 5)) 0 5 rfl rfl rfl
  refine sq (v := (Sl as_0_5 s_0.2.2.2.2.2.1 cs_0_5)) (rv_load1 Try.underlying25 rfl rfl hc6) ?_
  refine sq (v := (pt bs_0 os_0)) (rv_move rfl) ?_
  refine sq (v := (pt bs_0 os_0)) (rv_nilCheck rfl) ?_
  refine sq (v := (pt bs_0 (os_0 + 5))) (rv_fieldAddr (off := 5) (ft := 25) Try.underlying82 rfl ti25 rfl rfl) ?_
  have hc7 := H.cell (u := (Sl as_0_5 s_0.2.2.2.2.2.1 cs_0_5)) (o' := (os_0 + 5)) 0 5 rfl rfl rfl
  refine sq (v := (Sl as_0_5 s_0.2.2.2.2.2.1 cs_0_5)) (rv_load1 Try.underlying25 rfl rfl hc7) ?_
  refine sq (v := (I (s_0.2.2.2.2.2.1.length : Int))) (rv_len Try.underlying25 rfl) ?_
  refine sq (v := (I (w64 ((s_0.2.2.2.2.2.1.length : Int) - 1)))) (rv_sub (a := (s_0.2.2.2.2.2.1.length : Int)) (b := 1) rfl rfl) ?_
  refine sq_end ?_
  intro σ8 hm9
  replace H := H.grow (hm9.mono fun _ h => h); clear hm9
  obtain ⟨x10, hx11, h'⟩ := bind_some h
  clear h
  have h := h'; clear h'
  obtain ⟨b13, o14, hi12, -⟩ := (H.ro 4 rfl).ix hx11
  refine st (v := (pt b13 o14)) (rv_ix Try.underlying25 ti62 rfl rfl hi12) ?_
  refine st (v := (pt b13 (o14 + 1))) (rv_fieldAddr (off := 1) (ft := 3) Try.underlying62 rfl ti3 rfl rfl) ?_
  have hc15 := ((H.ro 4 rfl).at hx11 hi12).snd.int
  refine st (v := (I x10.2)) (rv_load1 Try.underlying3 rfl rfl hc15) ?_
  refine st (v := (I x10.2)) (rv_assign rfl) ?_
  refine w_end ?_
  refine q_then ?_
  refine c_ret ?_
  obtain rfl := Option.some.inj h
  exact fin_ret (v := (I x10.2)) (results_ok Try.results115 (res_tmp (v := (I x10.2)) rfl res_nil) rfl) ⟨rfl, rfl⟩ (H.sel' [0] rfl rfl)

theorem c_spec_seek_visit : ∀ (fuel : Nat) {s_0 : (List (Int × Int × Int × Int)) × (List (Int × (List Int) × Int)) × Int × (List Int) × Int × (List (Int × Int)) × Int} {i_1 : Int} {as_0_0 : Option Addr} {cs_0_0 : Nat} {as_0_1 : Option Addr} {cs_0_1 : Nat} {as_0_3 : Option Addr} {cs_0_3 : Nat} {as_0_5 : Option Addr} {cs_0_5 : Nat} {los_0 bs_0 os_0 : Nat} {pres_0 sufs_0 : List Value} {r : ((List (Int × Int × Int × Int)) × (List (Int × (List Int) × Int)) × Int × (List Int) × Int × (List (Int × Int)) × Int)} (h : M.spec_seek_visit fuel s_0 i_1 = some r),
    Cal2 Try.prog 90 [(pt bs_0 os_0), (I i_1)] [Ch.bx los_0 bs_0 os_0 [(Sl as_0_0 s_0.1 cs_0_0), (Sl as_0_1 s_0.2.1 cs_0_1), (I s_0.2.2.1), (Sl as_0_3 s_0.2.2.2.1 cs_0_3), (I s_0.2.2.2.2.1), (Sl as_0_5 s_0.2.2.2.2.2.1 cs_0_5), (I s_0.2.2.2.2.2.2)] pres_0 sufs_0, Ch.ro 0 (Sl as_0_0 s_0.1 cs_0_0) s_0.1, Ch.ro 0 (Sl as_0_1 s_0.2.1 cs_0_1) s_0.2.1, Ch.ro 0 (Sl as_0_3 s_0.2.2.2.1 cs_0_3) s_0.2.2.2.1, Ch.ro 0 (Sl as_0_5 s_0.2.2.2.2.2.1 cs_0_5) s_0.2.2.2.2.2.1] (fun n0 v L => ∃ (az1 : Option Addr), ∃ (cz2 : Nat), ∃ (az3 : Option Addr), ∃ (cz4 : Nat), ∃ (az5 : Option Addr), ∃ (cz6 : Nat), ∃ (az7 : Option Addr), ∃ (cz8 : Nat), v = (.tuple #[]) ∧ L = [Ch.bx los_0 bs_0 os_0 [(Sl az1 r.1 cz2), (Sl az3 r.2.1 cz4), (I r.2.2.1), (Sl az5 r.2.2.2.1 cz6), (I r.2.2.2.2.1), (Sl az7 r.2.2.2.2.2.1 cz8), (I r.2.2.2.2.2.2)] pres_0 sufs_0, Ch.ro 0 (Sl az1 r.1 cz2) r.1, Ch.ro 0 (Sl az3 r.2.1 cz4) r.2.1, Ch.ro 0 (Sl az5 r.2.2.2.1 cz6) r.2.2.2.1, Ch.ro 0 (Sl az7 r.2.2.2.2.2.1 cz8) r.2.2.2.2.2.1]) := by
 intro fuel
 induction fuel with
 | zero => intro _ _ _ _ _ _ _ _ _ _ _ _ _ _ _ r h; cases h
 | succ fuel ih =>
 ·intro s_0 i_1 as_0_0 cs_0_0 as_0_1 cs_0_1 as_0_3 cs_0_3 as_0_5 cs_0_5 los_0 bs_0 os_0 pres_0 sufs_0 r h
  replace h : M.spec_seek_visit_F (M.spec_seek_visit fuel) s_0 i_1 = some r := h
  refine cal2 (n := 96) Try.func90 rfl rfl rfl rfl ?_
  intro S0 σ0 n0 hn0 H
  unfold M.spec_seek_visit_F at h
  refine c_seq ?_
  refine c_seq ?_
  refine rg ?_
  refine st (v := (I i_1)) (rv_move rfl) ?_
  refine st (v := (B (decide (i_1 < 0)))) (rv_lss (a := i_1) (b := 0) rfl rfl) ?_
  refine w_end ?_
  refine q_then ?_
  refine cd_cond (decide (i_1 < 0)) rfl (fun hb1 => ?_) (fun hb1 => ?_)
  ·replace h := bif_t hb1 h
   refine c_ret ?_
   refine q_then_r ?_
   obtain rfl := Option.some.inj h
   exact fin_ret (v := (.tuple #[])) (results_ok Try.results90 res_nil rfl) ⟨as_0_0, cs_0_0, as_0_1, cs_0_1, as_0_3, cs_0_3, as_0_5, cs_0_5, rfl, rfl⟩ (H.sel' [0, 1, 2, 3, 4] rfl rfl)
  ·replace h := bif_f hb1 h
   refine c_skip ?_
   refine q_then ?_
   refine c_seq ?_
   refine rg ?_
   refine st (v := (pt bs_0 os_0)) (rv_move rfl) ?_
   refine st (v := (pt bs_0 os_0)) (rv_nilCheck rfl) ?_
   refine st (v := (pt bs_0 os_0)) (rv_fieldAddr (off := 0) (ft := 37) Try.underlying82 rfl ti37 rfl rfl) ?_
   have hc2 := H.cell (u := (Sl as_0_0 s_0.1 cs_0_0)) (o' := os_0) 0 0 rfl rfl rfl
   refine st (v := (Sl as_0_0 s_0.1 cs_0_0)) (rv_load1 Try.underlying37 rfl rfl hc2) ?_
   refine st (v := (I i_1)) (rv_move rfl) ?_
   obtain ⟨x3, hx4, h'⟩ := bind_some h
   clear h
   have h := h'; clear h'
   obtain ⟨b6, o7, hi5, -⟩ := (H.ro 1 rfl).ix hx4
   refine st (v := (pt b6 o7)) (rv_ix Try.underlying37 ti77 rfl rfl hi5) ?_
   obtain ⟨_, ⟨_, _, rfl, rfl, ⟨_, _, rfl, rfl, ⟨_, _, rfl, rfl, rfl⟩⟩⟩, hl8, hc9⟩ := ((H.ro 1 rfl).at hx4 hi5).cells
   refine st (v := (.agg #[(I x3.1), (I x3.2.1), (I x3.2.2.1), (I x3.2.2.2)])) (rv_load Try.underlying77 rfl ti77 rfl hl8 hc9) ?_
   refine st_ex (ex_alloc (cs := [(I 0), (I 0), (I 0), (I 0)]) H hn0 ti77 rfl) wn ?_
   rintro _ σ11 ⟨b10, rfl, H, -⟩
   refine st_exS (ex_store_box (k := 0) (cs := [(I 0), (I 0), (I 0), (I 0)]) (vs := [(I x3.1), (I x3.2.1), (I x3.2.2.1), (I x3.2.2.2)]) (cs' := [(I x3.1), (I x3.2.1), (I x3.2.2.1), (I x3.2.2.2)]) H (i := 0) rfl ti77 rfl rfl rfl rfl rfl (Nat.le_of_ble_eq_true rfl) (by simp [plain]) rfl) wn ?_
   rintro σ12 ⟨H, -⟩
   refine w_end ?_
   refine q_then ?_
   refine c_seq ?_
   have hc13 := H.cell (u := (I s_0.2.2.1)) (o' := (os_0 + 2)) 1 2 rfl rfl rfl
   have hc14 := H.cell (u := (Sl as_0_1 s_0.2.1 cs_0_1)) (o' := (os_0 + 1)) 1 1 rfl rfl rfl
   have hc15 := H.cell (u := (Sl as_0_1 s_0.2.1 cs_0_1)) (o' := (os_0 + 1)) 1 1 rfl rfl rfl
   have hc16 := H.cell (u := (I x3.1)) (o' := 0) 0 0 rfl rfl rfl
   obtain ⟨r17, hx18, h'⟩ := bind_some h
   clear h
   have h := h'; clear h'
   have hc19 := c_spec_keyAt (alist_0 := as_0_1) (clist_0 := cs_0_1) hx18
   obtain ⟨x20, hx21, h'⟩ := bind_some h
   clear h
   have h := h'; clear h'
   obtain ⟨b23, o24, hi22, -⟩ := (H.ro 3 rfl).ix hx21
   obtain ⟨v28, hc29, hR27⟩ := ((H.ro 3 rfl).at hx21 hi22).snd.fst.slice
   obtain ⟨a25, c26, rfl⟩ := hR27.isSl
   replace H := H.add (d := Ch.ro 0 (Sl a25 x20.2.1 c26) x20.2.1) hR27 (fun _ h => h)
   clear hR27
   have hc30 := H.cell (u := (Sl as_0_3 s_0.2.2.2.1 cs_0_3)) (o' := (os_0 + 3)) 2 3 rfl rfl rfl
   have Hs := H
   refine rg2 (σ := σ12) (Nm := Unit) 22 [14] [[false], [true]] [[(0, 0), (1, 1)], [(0, 0), (1, 1)], [(0, 0), (1, 1)], [(0, 0), (1, 1)], [(0, 0), (1, 1)], [(0, 0), (1, 1)], [(0, 0), (1, 1)], [(0, 0), (1, 1)], [(0, 0)], [(0, 0)], [(0, 0)], [(0, 0)], [(0, 0)], [(0, 0)], [(0, 1)], [(1, 1)], [(1, 1)], [(1, 1)], [(0, 0), (1, 1)], [(0, 0), (1, 1)], [(0, 0), (1, 1)], [(0, 0), (1, 1)]] 1 [fun _ => fun σm => Hp S0 σ0 σm [Ch.ro 0 (Sl a25 x20.2.1 c26) x20.2.1, Ch.bx n0 b10 0 [(I x3.1), (I x3.2.1), (I x3.2.2.1), (I x3.2.2.2)] [] [], Ch.bx los_0 bs_0 os_0 [(Sl as_0_0 s_0.1 cs_0_0), (Sl as_0_1 s_0.2.1 cs_0_1), (I s_0.2.2.1), (Sl as_0_3 s_0.2.2.2.1 cs_0_3), (I s_0.2.2.2.2.1), (Sl as_0_5 s_0.2.2.2.2.2.1 cs_0_5), (I s_0.2.2.2.2.2.2)] pres_0 sufs_0, Ch.ro 0 (Sl as_0_0 s_0.1 cs_0_0) s_0.1, Ch.ro 0 (Sl as_0_1 s_0.2.1 cs_0_1) s_0.2.1, Ch.ro 0 (Sl as_0_3 s_0.2.2.2.1 cs_0_3) s_0.2.2.2.1, Ch.ro 0 (Sl as_0_5 s_0.2.2.2.2.2.1 cs_0_5) s_0.2.2.2.2.2.1] ∧ Md (cov []) σ12 σm, fun _ => fun σm => Hp S0 σ0 σm [Ch.ro 0 (Sl a25 x20.2.1 c26) x20.2.1, Ch.bx n0 b10 0 [(I x3.1), (I x3.2.1), (I x3.2.2.1), (I x3.2.2.2)] [] [], Ch.bx los_0 bs_0 os_0 [(Sl as_0_0 s_0.1 cs_0_0), (Sl as_0_1 s_0.2.1 cs_0_1), (I s_0.2.2.1), (Sl as_0_3 s_0.2.2.2.1 cs_0_3), (I s_0.2.2.2.2.1), (Sl as_0_5 s_0.2.2.2.2.2.1 cs_0_5), (I s_0.2.2.2.2.2.2)] pres_0 sufs_0, Ch.ro 0 (Sl as_0_0 s_0.1 cs_0_0) s_0.1, Ch.ro 0 (Sl as_0_1 s_0.2.1 cs_0_1) s_0.2.1, Ch.ro 0 (Sl as_0_3 s_0.2.2.2.1 cs_0_3) s_0.2.2.2.1, Ch.ro 0 (Sl as_0_5 s_0.2.2.2.2.2.1 cs_0_5) s_0.2.2.2.2.2.1] ∧ Md (cov []) σ12 σm] [fun _ => (pt bs_0 os_0), fun _ => (pt bs_0 os_0), fun _ => (pt bs_0 (os_0 + 2)), fun _ => (I s_0.2.2.1), fun _ => (pt bs_0 os_0), fun _ => (pt bs_0 os_0), fun _ => (pt bs_0 (os_0 + 1)), fun _ => (Sl as_0_1 s_0.2.1 cs_0_1), fun _ => (pt bs_0 os_0), fun _ => (pt bs_0 os_0), fun _ => (pt bs_0 (os_0 + 1)), fun _ => (Sl as_0_1 s_0.2.1 cs_0_1), fun _ => (pt b10 0), fun _ => (I x3.1), fun _ => (I r17), fun _ => (pt b23 o24), fun _ => (pt b23 (o24 + 1)), fun _ => (Sl a25 x20.2.1 c26), fun _ => (pt bs_0 os_0), fun _ => (pt bs_0 os_0), fun _ => (pt bs_0 (os_0 + 3)), fun _ => (Sl as_0_3 s_0.2.2.2.1 cs_0_3)] () (by kernel_rfl) (by kernel_rfl) ?_ ?_ ?_
   ·intro σm m0
    exact ⟨H.grow (m0.mono fun _ h => h.elim), m0⟩
   ·refine ac rfl (by
      intro k _nm ρ σm hJ hoff hdep
      have e0 := look_off (N := 96) (hoff 0 rfl) rfl
      exact dp_v (v := (pt bs_0 os_0)) wn (rv_move e0) rfl hJ) ?_
    refine ac rfl (by
      intro k _nm ρ σm hJ hoff hdep
      have e15 := hdep 0 rfl rfl 15 rfl
      exact dp_v (v := (pt bs_0 os_0)) wn (rv_nilCheck e15) rfl hJ) ?_
    refine ac rfl (by
      intro k _nm ρ σm hJ hoff hdep
      have e16 := hdep 1 rfl rfl 16 rfl
      exact dp_v (v := (pt bs_0 (os_0 + 2))) wn (rv_fieldAddr (off := 2) (ft := 3) Try.underlying82 rfl ti3 rfl e16) rfl hJ) ?_
    refine all_cons (by
      refine ⟨?_, ?_⟩
      ·intro _nm ρ σm hJ hoff hdep
       have e17 := hdep 2 rfl rfl 17 rfl
       obtain ⟨H, m⟩ := id hJ
       have hc13 := H.cell (u := (I s_0.2.2.1)) (o' := (os_0 + 2)) 2 2 rfl rfl rfl
       exact dp_v (v := (I s_0.2.2.1)) wn (rv_load1 Try.underlying3 rfl e17 hc13) rfl hJ
      refine ⟨?_, ?_⟩
      ·intro _nm ρ σm hJ hoff hdep
       have e17 := hdep 2 rfl rfl 17 rfl
       obtain ⟨H, m⟩ := id hJ
       have hc13 := H.cell (u := (I s_0.2.2.1)) (o' := (os_0 + 2)) 2 2 rfl rfl rfl
       exact dp_v (v := (I s_0.2.2.1)) wn (rv_load1 Try.underlying3 rfl e17 hc13) rfl hJ
      trivial) ?_
    refine ac rfl (by
      intro k _nm ρ σm hJ hoff hdep
      have e0 := look_off (N := 96) (hoff 0 rfl) rfl
      exact dp_v (v := (pt bs_0 os_0)) wn (rv_move e0) rfl hJ) ?_
    refine ac rfl (by
      intro k _nm ρ σm hJ hoff hdep
      have e19 := hdep 4 rfl rfl 19 rfl
      exact dp_v (v := (pt bs_0 os_0)) wn (rv_nilCheck e19) rfl hJ) ?_
    refine ac rfl (by
      intro k _nm ρ σm hJ hoff hdep
      have e20 := hdep 5 rfl rfl 20 rfl
      exact dp_v (v := (pt bs_0 (os_0 + 1))) wn (rv_fieldAddr (off := 1) (ft := 27) Try.underlying82 rfl ti27 rfl e20) rfl hJ) ?_
    refine all_cons (by
      refine ⟨?_, ?_⟩
      ·intro _nm ρ σm hJ hoff hdep
       have e21 := hdep 6 rfl rfl 21 rfl
       obtain ⟨H, m⟩ := id hJ
       have hc14 := H.cell (u := (Sl as_0_1 s_0.2.1 cs_0_1)) (o' := (os_0 + 1)) 2 1 rfl rfl rfl
       exact dp_v (v := (Sl as_0_1 s_0.2.1 cs_0_1)) wn (rv_load1 Try.underlying27 rfl e21 hc14) rfl hJ
      refine ⟨?_, ?_⟩
      ·intro _nm ρ σm hJ hoff hdep
       have e21 := hdep 6 rfl rfl 21 rfl
       obtain ⟨H, m⟩ := id hJ
       have hc14 := H.cell (u := (Sl as_0_1 s_0.2.1 cs_0_1)) (o' := (os_0 + 1)) 2 1 rfl rfl rfl
       exact dp_v (v := (Sl as_0_1 s_0.2.1 cs_0_1)) wn (rv_load1 Try.underlying27 rfl e21 hc14) rfl hJ
      trivial) ?_
    refine ac rfl (by
      intro k _nm ρ σm hJ hoff hdep
      have e0 := look_off (N := 96) (hoff 0 rfl) rfl
      exact dp_v (v := (pt bs_0 os_0)) wn (rv_move e0) rfl hJ) ?_
    refine ac rfl (by
      intro k _nm ρ σm hJ hoff hdep
      have e23 := hdep 8 rfl rfl 23 rfl
      exact dp_v (v := (pt bs_0 os_0)) wn (rv_nilCheck e23) rfl hJ) ?_
    refine ac rfl (by
      intro k _nm ρ σm hJ hoff hdep
      have e24 := hdep 9 rfl rfl 24 rfl
      exact dp_v (v := (pt bs_0 (os_0 + 1))) wn (rv_fieldAddr (off := 1) (ft := 27) Try.underlying82 rfl ti27 rfl e24) rfl hJ) ?_
    refine all_cons (by
      refine ⟨?_, ?_⟩
      ·intro _nm ρ σm hJ hoff hdep
       have e25 := hdep 10 rfl rfl 25 rfl
       obtain ⟨H, m⟩ := id hJ
       have hc15 := H.cell (u := (Sl as_0_1 s_0.2.1 cs_0_1)) (o' := (os_0 + 1)) 2 1 rfl rfl rfl
       exact dp_v (v := (Sl as_0_1 s_0.2.1 cs_0_1)) wn (rv_load1 Try.underlying27 rfl e25 hc15) rfl hJ
      trivial) ?_
    refine ac rfl (by
      intro k _nm ρ σm hJ hoff hdep
      have e4 := look_off (N := 96) (hoff 4 rfl) rfl
      exact dp_v (v := (pt b10 0)) wn (rv_fieldAddr (off := 0) (ft := 3) Try.underlying77 rfl ti3 rfl e4) rfl hJ) ?_
    refine all_cons (by
      refine ⟨?_, ?_⟩
      ·intro _nm ρ σm hJ hoff hdep
       have e27 := hdep 12 rfl rfl 27 rfl
       obtain ⟨H, m⟩ := id hJ
       have hc16 := H.cell (u := (I x3.1)) (o' := 0) 1 0 rfl rfl rfl
       exact dp_v (v := (I x3.1)) wn (rv_load1 Try.underlying3 rfl e27 hc16) rfl hJ
      trivial) ?_
    refine all_cons (by
      refine ⟨?_, ?_⟩
      ·intro _nm ρ σm hJ hoff hdep
       have e26 : look 96 ρ 26 = (Sl as_0_1 s_0.2.1 cs_0_1) := hdep 11 rfl rfl 26 rfl
       have e28 : look 96 ρ 28 = (I x3.1) := hdep 13 rfl rfl 28 rfl
       obtain ⟨H, m⟩ := id hJ
       refine dp_cx wn (cx_call hc19 (ent_f hc19.fn (by show [look 96 ρ 26, look 96 ρ 28] = _; rw [e26, e28])) hn0 (show Hp S0 σ0 _ ([Ch.ro 0 (Sl as_0_1 s_0.2.1 cs_0_1) s_0.2.1] ++ [Ch.ro 0 (Sl a25 x20.2.1 c26) x20.2.1, Ch.bx n0 b10 0 [(I x3.1), (I x3.2.1), (I x3.2.2.1), (I x3.2.2.2)] [] [], Ch.bx los_0 bs_0 os_0 [(Sl as_0_0 s_0.1 cs_0_0), (Sl as_0_1 s_0.2.1 cs_0_1), (I s_0.2.2.1), (Sl as_0_3 s_0.2.2.2.1 cs_0_3), (I s_0.2.2.2.2.1), (Sl as_0_5 s_0.2.2.2.2.2.1 cs_0_5), (I s_0.2.2.2.2.2.2)] pres_0 sufs_0, Ch.ro 0 (Sl as_0_0 s_0.1 cs_0_0) s_0.1, Ch.ro 0 (Sl as_0_1 s_0.2.1 cs_0_1) s_0.2.1, Ch.ro 0 (Sl as_0_3 s_0.2.2.2.1 cs_0_3) s_0.2.2.2.1, Ch.ro 0 (Sl as_0_5 s_0.2.2.2.2.2.1 cs_0_5) s_0.2.2.2.2.2.1]) from (H.sel' [4, 0, 1, 2, 3, 4, 5, 6] rfl rfl))) ?_
       rintro _ σq ⟨_, ⟨rfl, rfl⟩, H2, m2⟩
       exact ⟨_, (), rfl, rfl, ⟨H2.sel' [0, 1, 2, 3, 4, 5, 6] rfl rfl, m.comp0 (m2.mono (fun i h => by simp [cov, Ch.ro] at h))⟩, stab [0, 1, 2, 3, 4, 5, 6, 7, 8, 9, 10, 11, 12, 13, 18, 19, 20, 21] (by kernel_rfl) ⟨rfl, rfl, rfl, rfl, rfl, rfl, rfl, rfl, rfl, rfl, rfl, rfl, rfl, rfl, rfl, rfl, rfl, rfl, trivial⟩⟩
      trivial) ?_
    refine ac rfl (by
      intro k _nm ρ σm hJ hoff hdep
      have e22 := hdep 7 rfl rfl 22 rfl
      have e29 := hdep 14 rfl rfl 29 rfl
      exact dp_v (v := (pt b23 o24)) wn (rv_ix Try.underlying27 ti63 e22 e29 hi22) rfl hJ) ?_
    refine ac rfl (by
      intro k _nm ρ σm hJ hoff hdep
      have e30 := hdep 15 rfl rfl 30 rfl
      exact dp_v (v := (pt b23 (o24 + 1))) wn (rv_fieldAddr (off := 1) (ft := 23) Try.underlying63 rfl ti23 rfl e30) rfl hJ) ?_
    refine all_cons (by
      refine ⟨?_, ?_⟩
      ·intro _nm ρ σm hJ hoff hdep
       have e31 := hdep 16 rfl rfl 31 rfl
       obtain ⟨H, m⟩ := id hJ
       replace hc29 := (Hs.ro 4 rfl).hmd hx21 hi22 (k := 1) (by decide) hc29 m
       exact dp_v (v := (Sl a25 x20.2.1 c26)) wn (rv_load1 Try.underlying23 rfl e31 hc29) rfl hJ
      trivial) ?_
    refine ac rfl (by
      intro k _nm ρ σm hJ hoff hdep
      have e0 := look_off (N := 96) (hoff 0 rfl) rfl
      exact dp_v (v := (pt bs_0 os_0)) wn (rv_move e0) rfl hJ) ?_
    refine ac rfl (by
      intro k _nm ρ σm hJ hoff hdep
      have e33 := hdep 18 rfl rfl 33 rfl
      exact dp_v (v := (pt bs_0 os_0)) wn (rv_nilCheck e33) rfl hJ) ?_
    refine ac rfl (by
      intro k _nm ρ σm hJ hoff hdep
      have e34 := hdep 19 rfl rfl 34 rfl
      exact dp_v (v := (pt bs_0 (os_0 + 3))) wn (rv_fieldAddr (off := 3) (ft := 23) Try.underlying82 rfl ti23 rfl e34) rfl hJ) ?_
    refine all_cons (by
      refine ⟨?_, ?_⟩
      ·intro _nm ρ σm hJ hoff hdep
       have e35 := hdep 20 rfl rfl 35 rfl
       obtain ⟨H, m⟩ := id hJ
       have hc30 := H.cell (u := (Sl as_0_3 s_0.2.2.2.1 cs_0_3)) (o' := (os_0 + 3)) 2 3 rfl rfl rfl
       exact dp_v (v := (Sl as_0_3 s_0.2.2.2.1 cs_0_3)) wn (rv_load1 Try.underlying23 rfl e35 hc30) rfl hJ
      refine ⟨?_, ?_⟩
      ·intro _nm ρ σm hJ hoff hdep
       have e35 := hdep 20 rfl rfl 35 rfl
       obtain ⟨H, m⟩ := id hJ
       have hc30 := H.cell (u := (Sl as_0_3 s_0.2.2.2.1 cs_0_3)) (o' := (os_0 + 3)) 2 3 rfl rfl rfl
       exact dp_v (v := (Sl as_0_3 s_0.2.2.2.1 cs_0_3)) wn (rv_load1 Try.underlying23 rfl e35 hc30) rfl hJ
      trivial) ?_
    exact all_nil
   ·intro _nm ρ σ31 hJ hoff hrel
    have e0 := look_off (N := 96) (hoff 0 rfl) rfl
    have e4 := look_off (N := 96) (hoff 4 rfl) rfl
    have e18 := hrel 3 rfl 18 rfl
    have e32 := hrel 17 rfl 32 rfl
    have e36 := hrel 21 rfl 36 rfl
    obtain ⟨H, -⟩ := (show Hp S0 σ0 σ31 [Ch.ro 0 (Sl a25 x20.2.1 c26) x20.2.1, Ch.bx n0 b10 0 [(I x3.1), (I x3.2.1), (I x3.2.2.1), (I x3.2.2.2)] [] [], Ch.bx los_0 bs_0 os_0 [(Sl as_0_0 s_0.1 cs_0_0), (Sl as_0_1 s_0.2.1 cs_0_1), (I s_0.2.2.1), (Sl as_0_3 s_0.2.2.2.1 cs_0_3), (I s_0.2.2.2.2.1), (Sl as_0_5 s_0.2.2.2.2.2.1 cs_0_5), (I s_0.2.2.2.2.2.2)] pres_0 sufs_0, Ch.ro 0 (Sl as_0_0 s_0.1 cs_0_0) s_0.1, Ch.ro 0 (Sl as_0_1 s_0.2.1 cs_0_1) s_0.2.1, Ch.ro 0 (Sl as_0_3 s_0.2.2.2.1 cs_0_3) s_0.2.2.2.1, Ch.ro 0 (Sl as_0_5 s_0.2.2.2.2.2.1 cs_0_5) s_0.2.2.2.2.2.1] ∧ Md (cov []) σ12 σ31 from hJ)
    clear hJ Hs
    rw [fr_lookL (L := [(0, (pt bs_0 os_0)), (4, (pt b10 0)), (18, (I s_0.2.2.1)), (32, (Sl a25 x20.2.1 c26)), (36, (Sl as_0_3 s_0.2.2.2.1 cs_0_3))]) ⟨e0, e4, e18, e32, e36, trivial⟩]
    clear hoff hrel e0 e4 e18 e32 e36
    obtain ⟨r32, hx33, h'⟩ := bind_some h
    clear h
    have h := h'; clear h'
    have hc34 := c_spec_dist (aa_1 := a25) (ca_1 := c26) (ab_2 := as_0_3) (cb_2 := cs_0_3) hx33
    refine st_call (cx_call hc34 (ent_f hc34.fn rfl) hn0 (show Hp S0 σ0 _ ([Ch.ro 0 (Sl a25 x20.2.1 c26) x20.2.1, Ch.ro 0 (Sl as_0_3 s_0.2.2.2.1 cs_0_3) s_0.2.2.2.1] ++ [Ch.ro 0 (Sl a25 x20.2.1 c26) x20.2.1, Ch.bx n0 b10 0 [(I x3.1), (I x3.2.1), (I x3.2.2.1), (I x3.2.2.2)] [] [], Ch.bx los_0 bs_0 os_0 [(Sl as_0_0 s_0.1 cs_0_0), (Sl as_0_1 s_0.2.1 cs_0_1), (I s_0.2.2.1), (Sl as_0_3 s_0.2.2.2.1 cs_0_3), (I s_0.2.2.2.2.1), (Sl as_0_5 s_0.2.2.2.2.2.1 cs_0_5), (I s_0.2.2.2.2.2.2)] pres_0 sufs_0, Ch.ro 0 (Sl as_0_0 s_0.1 cs_0_0) s_0.1, Ch.ro 0 (Sl as_0_1 s_0.2.1 cs_0_1) s_0.2.1, Ch.ro 0 (Sl as_0_3 s_0.2.2.2.1 cs_0_3) s_0.2.2.2.1, Ch.ro 0 (Sl as_0_5 s_0.2.2.2.2.2.1 cs_0_5) s_0.2.2.2.2.2.1]) from (H.sel' [0, 5, 0, 1, 2, 3, 4, 5, 6] rfl rfl))) wn ?_
    rintro _ σ35 ⟨_, ⟨rfl, rfl⟩, H, -⟩
    replace H : Hp S0 σ0 σ35 [Ch.ro 0 (Sl a25 x20.2.1 c26) x20.2.1, Ch.bx n0 b10 0 [(I x3.1), (I x3.2.1), (I x3.2.2.1), (I x3.2.2.2)] [] [], Ch.bx los_0 bs_0 os_0 [(Sl as_0_0 s_0.1 cs_0_0), (Sl as_0_1 s_0.2.1 cs_0_1), (I s_0.2.2.1), (Sl as_0_3 s_0.2.2.2.1 cs_0_3), (I s_0.2.2.2.2.1), (Sl as_0_5 s_0.2.2.2.2.2.1 cs_0_5), (I s_0.2.2.2.2.2.2)] pres_0 sufs_0, Ch.ro 0 (Sl as_0_0 s_0.1 cs_0_0) s_0.1, Ch.ro 0 (Sl as_0_1 s_0.2.1 cs_0_1) s_0.2.1, Ch.ro 0 (Sl as_0_3 s_0.2.2.2.1 cs_0_3) s_0.2.2.2.1, Ch.ro 0 (Sl as_0_5 s_0.2.2.2.2.2.1 cs_0_5) s_0.2.2.2.2.2.1] := H
    refine st (v := (I r32)) (rv_assign rfl) ?_
    refine w_end ?_
    refine q_then ?_
    refine c_seq ?_
    refine rg ?_
    refine st (v := (pt bs_0 os_0)) (rv_move rfl) ?_
    refine st (v := (pt bs_0 os_0)) (rv_move rfl) ?_
    refine st (v := (pt bs_0 os_0)) (rv_nilCheck rfl) ?_
    refine st (v := (pt bs_0 (os_0 + 6))) (rv_fieldAddr (off := 6) (ft := 3) Try.underlying82 rfl ti3 rfl rfl) ?_
    have hc36 := H.cell (u := (I s_0.2.2.2.2.2.2)) (o' := (os_0 + 6)) 2 6 rfl rfl rfl
    refine st (v := (I s_0.2.2.2.2.2.2)) (rv_load1 Try.underlying3 rfl rfl hc36) ?_
    refine st (v := (I (w64 (s_0.2.2.2.2.2.2 + 1)))) (rv_add (a := s_0.2.2.2.2.2.2) (b := 1) rfl rfl) ?_
    refine st (v := (pt bs_0 os_0)) (rv_nilCheck rfl) ?_
    refine st (v := (pt bs_0 (os_0 + 6))) (rv_fieldAddr (off := 6) (ft := 3) Try.underlying82 rfl ti3 rfl rfl) ?_
    refine st_exS (ex_store_box (k := 6) (cs := [(Sl as_0_0 s_0.1 cs_0_0), (Sl as_0_1 s_0.2.1 cs_0_1), (I s_0.2.2.1), (Sl as_0_3 s_0.2.2.2.1 cs_0_3), (I s_0.2.2.2.2.1), (Sl as_0_5 s_0.2.2.2.2.2.1 cs_0_5), (I s_0.2.2.2.2.2.2)]) (vs := [(I (w64 (s_0.2.2.2.2.2.2 + 1)))]) (cs' := [(Sl as_0_0 s_0.1 cs_0_0), (Sl as_0_1 s_0.2.1 cs_0_1), (I s_0.2.2.1), (Sl as_0_3 s_0.2.2.2.1 cs_0_3), (I s_0.2.2.2.2.1), (Sl as_0_5 s_0.2.2.2.2.2.1 cs_0_5), (I (w64 (s_0.2.2.2.2.2.2 + 1)))]) H (i := 2) rfl ti3 rfl rfl rfl rfl rfl (Nat.le_of_ble_eq_true rfl) (by simp [plain]) rfl) wn ?_
    rintro σ37 ⟨H, -⟩
    refine w_end ?_
    refine q_then ?_
    refine c_seq ?_
    have hc38 := H.cell (u := (Sl as_0_5 s_0.2.2.2.2.2.1 cs_0_5)) (o' := (os_0 + 5)) 0 5 rfl rfl rfl
    have hc39 := H.cell (u := (I x3.1)) (o' := 0) 2 0 rfl rfl rfl
    have hc40 := H.cell (u := (I s_0.2.2.2.2.1)) (o' := (os_0 + 4)) 0 4 rfl rfl rfl
    obtain ⟨r41, hx42, h'⟩ := bind_some h
    clear h
    have h := h'; clear h'
    have hc43 := c_spec_addHit (alist_0 := as_0_5) (clist_0 := cs_0_5) hx42
    have Hs := H
    refine rg2 (σ := σ37) (Nm := (Option Addr) × (Nat)) 14 [13] [[false], [true]] [[(0, 0), (1, 1)], [(0, 0)], [(0, 0)], [(0, 0)], [(0, 0)], [(0, 0)], [(0, 0)], [(0, 0)], [(0, 0)], [(0, 0)], [(0, 0)], [(0, 0)], [(0, 0)], [(0, 1)]] 1 [fun ((a44, c45) : (Option Addr) × (Nat)) => fun σm => Hp S0 σ0 σm [Ch.bx los_0 bs_0 os_0 [(Sl as_0_0 s_0.1 cs_0_0), (Sl as_0_1 s_0.2.1 cs_0_1), (I s_0.2.2.1), (Sl as_0_3 s_0.2.2.2.1 cs_0_3), (I s_0.2.2.2.2.1), (Sl as_0_5 s_0.2.2.2.2.2.1 cs_0_5), (I (w64 (s_0.2.2.2.2.2.2 + 1)))] pres_0 sufs_0, Ch.ro 0 (Sl a25 x20.2.1 c26) x20.2.1, Ch.bx n0 b10 0 [(I x3.1), (I x3.2.1), (I x3.2.2.1), (I x3.2.2.2)] [] [], Ch.ro 0 (Sl as_0_0 s_0.1 cs_0_0) s_0.1, Ch.ro 0 (Sl as_0_1 s_0.2.1 cs_0_1) s_0.2.1, Ch.ro 0 (Sl as_0_3 s_0.2.2.2.1 cs_0_3) s_0.2.2.2.1, Ch.ro 0 (Sl as_0_5 s_0.2.2.2.2.2.1 cs_0_5) s_0.2.2.2.2.2.1] ∧ Md (cov []) σ37 σm, fun ((a44, c45) : (Option Addr) × (Nat)) => fun σm => Hp S0 σ0 σm [Ch.own n0 n0 (Sl a44 r41 c45) r41, Ch.bx los_0 bs_0 os_0 [(Sl as_0_0 s_0.1 cs_0_0), (Sl as_0_1 s_0.2.1 cs_0_1), (I s_0.2.2.1), (Sl as_0_3 s_0.2.2.2.1 cs_0_3), (I s_0.2.2.2.2.1), (Sl as_0_5 s_0.2.2.2.2.2.1 cs_0_5), (I (w64 (s_0.2.2.2.2.2.2 + 1)))] pres_0 sufs_0, Ch.ro 0 (Sl a25 x20.2.1 c26) x20.2.1, Ch.bx n0 b10 0 [(I x3.1), (I x3.2.1), (I x3.2.2.1), (I x3.2.2.2)] [] [], Ch.ro 0 (Sl as_0_0 s_0.1 cs_0_0) s_0.1, Ch.ro 0 (Sl as_0_1 s_0.2.1 cs_0_1) s_0.2.1, Ch.ro 0 (Sl as_0_3 s_0.2.2.2.1 cs_0_3) s_0.2.2.2.1, Ch.ro 0 (Sl as_0_5 s_0.2.2.2.2.2.1 cs_0_5) s_0.2.2.2.2.2.1] ∧ Md (cov []) σ37 σm] [fun ((a44, c45) : (Option Addr) × (Nat)) => (pt bs_0 os_0), fun ((a44, c45) : (Option Addr) × (Nat)) => (pt bs_0 os_0), fun ((a44, c45) : (Option Addr) × (Nat)) => (pt bs_0 os_0), fun ((a44, c45) : (Option Addr) × (Nat)) => (pt bs_0 (os_0 + 5)), fun ((a44, c45) : (Option Addr) × (Nat)) => (Sl as_0_5 s_0.2.2.2.2.2.1 cs_0_5), fun ((a44, c45) : (Option Addr) × (Nat)) => (pt b10 0), fun ((a44, c45) : (Option Addr) × (Nat)) => (I x3.1), fun ((a44, c45) : (Option Addr) × (Nat)) => (I r32), fun ((a44, c45) : (Option Addr) × (Nat)) => (.agg #[(I x3.1), (I r32)]), fun ((a44, c45) : (Option Addr) × (Nat)) => (pt bs_0 os_0), fun ((a44, c45) : (Option Addr) × (Nat)) => (pt bs_0 os_0), fun ((a44, c45) : (Option Addr) × (Nat)) => (pt bs_0 (os_0 + 4)), fun ((a44, c45) : (Option Addr) × (Nat)) => (I s_0.2.2.2.2.1), fun ((a44, c45) : (Option Addr) × (Nat)) => (Sl a44 r41 c45)] (none, 0) (by kernel_rfl) (by kernel_rfl) ?_ ?_ ?_
    ·intro σm m0
     exact ⟨H.grow (m0.mono fun _ h => h.elim), m0⟩
    ·refine ac rfl (by
       intro k; rintro ⟨a44, c45⟩ ρ σm hJ hoff hdep
       have e0 := look_off (N := 96) (hoff 0 rfl) rfl
       exact dp_v (v := (pt bs_0 os_0)) wn (rv_move e0) rfl hJ) ?_
     refine ac rfl (by
       intro k; rintro ⟨a44, c45⟩ ρ σm hJ hoff hdep
       have e0 := look_off (N := 96) (hoff 0 rfl) rfl
       exact dp_v (v := (pt bs_0 os_0)) wn (rv_move e0) rfl hJ) ?_
     refine ac rfl (by
       intro k; rintro ⟨a44, c45⟩ ρ σm hJ hoff hdep
       have e47 := hdep 1 rfl rfl 47 rfl
       exact dp_v (v := (pt bs_0 os_0)) wn (rv_nilCheck e47) rfl hJ) ?_
     refine ac rfl (by
       intro k; rintro ⟨a44, c45⟩ ρ σm hJ hoff hdep
       have e48 := hdep 2 rfl rfl 48 rfl
       exact dp_v (v := (pt bs_0 (os_0 + 5))) wn (rv_fieldAddr (off := 5) (ft := 25) Try.underlying82 rfl ti25 rfl e48) rfl hJ) ?_
     refine all_cons (by
       refine ⟨?_, ?_⟩
       ·rintro ⟨a44, c45⟩ ρ σm hJ hoff hdep
        have e49 := hdep 3 rfl rfl 49 rfl
        obtain ⟨H, m⟩ := id hJ
        have hc38 := H.cell (u := (Sl as_0_5 s_0.2.2.2.2.2.1 cs_0_5)) (o' := (os_0 + 5)) 0 5 rfl rfl rfl
        exact dp_v (v := (Sl as_0_5 s_0.2.2.2.2.2.1 cs_0_5)) wn (rv_load1 Try.underlying25 rfl e49 hc38) rfl hJ
       trivial) ?_
     refine ac rfl (by
       intro k; rintro ⟨a44, c45⟩ ρ σm hJ hoff hdep
       have e4 := look_off (N := 96) (hoff 4 rfl) rfl
       exact dp_v (v := (pt b10 0)) wn (rv_fieldAddr (off := 0) (ft := 3) Try.underlying77 rfl ti3 rfl e4) rfl hJ) ?_
     refine all_cons (by
       refine ⟨?_, ?_⟩
       ·rintro ⟨a44, c45⟩ ρ σm hJ hoff hdep
        have e51 := hdep 5 rfl rfl 51 rfl
        obtain ⟨H, m⟩ := id hJ
        have hc39 := H.cell (u := (I x3.1)) (o' := 0) 2 0 rfl rfl rfl
        exact dp_v (v := (I x3.1)) wn (rv_load1 Try.underlying3 rfl e51 hc39) rfl hJ
       trivial) ?_
     refine ac rfl (by
       intro k; rintro ⟨a44, c45⟩ ρ σm hJ hoff hdep
       have e5 := look_off (N := 96) (hoff 5 rfl) rfl
       exact dp_v (v := (I r32)) wn (rv_move e5) rfl hJ) ?_
     refine ac rfl (by
       intro k; rintro ⟨a44, c45⟩ ρ σm hJ hoff hdep
       have e52 : look 96 ρ 52 = (I x3.1) := hdep 6 rfl rfl 52 rfl
       have e53 : look 96 ρ 53 = (I r32) := hdep 7 rfl rfl 53 rfl
       exact dp_v (v := (.agg #[(I x3.1), (I r32)])) wn (rv_build (ps := [(0, (I x3.1)), (1, (I r32))]) Try.underlying62 ti62 (bp62 Try.underlying62) (by show [(0, look 96 ρ 52), (1, look 96 ρ 53)] = _; rw [e52, e53]) (by kernel_rfl)) rfl hJ) ?_
     refine ac rfl (by
       intro k; rintro ⟨a44, c45⟩ ρ σm hJ hoff hdep
       have e0 := look_off (N := 96) (hoff 0 rfl) rfl
       exact dp_v (v := (pt bs_0 os_0)) wn (rv_move e0) rfl hJ) ?_
     refine ac rfl (by
       intro k; rintro ⟨a44, c45⟩ ρ σm hJ hoff hdep
       have e55 := hdep 9 rfl rfl 55 rfl
       exact dp_v (v := (pt bs_0 os_0)) wn (rv_nilCheck e55) rfl hJ) ?_
     refine ac rfl (by
       intro k; rintro ⟨a44, c45⟩ ρ σm hJ hoff hdep
       have e56 := hdep 10 rfl rfl 56 rfl
       exact dp_v (v := (pt bs_0 (os_0 + 4))) wn (rv_fieldAddr (off := 4) (ft := 3) Try.underlying82 rfl ti3 rfl e56) rfl hJ) ?_
     refine all_cons (by
       refine ⟨?_, ?_⟩
       ·rintro ⟨a44, c45⟩ ρ σm hJ hoff hdep
        have e57 := hdep 11 rfl rfl 57 rfl
        obtain ⟨H, m⟩ := id hJ
        have hc40 := H.cell (u := (I s_0.2.2.2.2.1)) (o' := (os_0 + 4)) 0 4 rfl rfl rfl
        exact dp_v (v := (I s_0.2.2.2.2.1)) wn (rv_load1 Try.underlying3 rfl e57 hc40) rfl hJ
       trivial) ?_
     refine all_cons (by
       refine ⟨?_, ?_⟩
       ·rintro ⟨a44, c45⟩ ρ σm hJ hoff hdep
        have e50 : look 96 ρ 50 = (Sl as_0_5 s_0.2.2.2.2.2.1 cs_0_5) := hdep 4 rfl rfl 50 rfl
        have e54 : look 96 ρ 54 = (.agg #[(I x3.1), (I r32)]) := hdep 8 rfl rfl 54 rfl
        have e58 : look 96 ρ 58 = (I s_0.2.2.2.2.1) := hdep 12 rfl rfl 58 rfl
        obtain ⟨H, m⟩ := id hJ
        refine dp_cx wn (cx_call hc43 (ent_f hc43.fn (by show [look 96 ρ 50, look 96 ρ 54, look 96 ρ 58] = _; rw [e50, e54, e58])) hn0 (show Hp S0 σ0 _ ([Ch.ro 0 (Sl as_0_5 s_0.2.2.2.2.2.1 cs_0_5) s_0.2.2.2.2.2.1] ++ [Ch.bx los_0 bs_0 os_0 [(Sl as_0_0 s_0.1 cs_0_0), (Sl as_0_1 s_0.2.1 cs_0_1), (I s_0.2.2.1), (Sl as_0_3 s_0.2.2.2.1 cs_0_3), (I s_0.2.2.2.2.1), (Sl as_0_5 s_0.2.2.2.2.2.1 cs_0_5), (I (w64 (s_0.2.2.2.2.2.2 + 1)))] pres_0 sufs_0, Ch.ro 0 (Sl a25 x20.2.1 c26) x20.2.1, Ch.bx n0 b10 0 [(I x3.1), (I x3.2.1), (I x3.2.2.1), (I x3.2.2.2)] [] [], Ch.ro 0 (Sl as_0_0 s_0.1 cs_0_0) s_0.1, Ch.ro 0 (Sl as_0_1 s_0.2.1 cs_0_1) s_0.2.1, Ch.ro 0 (Sl as_0_3 s_0.2.2.2.1 cs_0_3) s_0.2.2.2.1, Ch.ro 0 (Sl as_0_5 s_0.2.2.2.2.2.1 cs_0_5) s_0.2.2.2.2.2.1]) from (H.sel' [6, 0, 1, 2, 3, 4, 5, 6] rfl rfl))) ?_
        rintro _ σq ⟨_, ⟨a44x, c45x, rfl, rfl⟩, H2, m2⟩
        exact ⟨_, (a44x, c45x), rfl, rfl, ⟨H2.sel' [0, 1, 2, 3, 4, 5, 6, 7] rfl rfl, m.comp0 (m2.mono (fun i h => by simp [cov, Ch.ro] at h))⟩, stab [0, 1, 2, 3, 4, 5, 6, 7, 8, 9, 10, 11, 12] (by kernel_rfl) ⟨rfl, rfl, rfl, rfl, rfl, rfl, rfl, rfl, rfl, rfl, rfl, rfl, rfl, trivial⟩⟩
       trivial) ?_
     exact all_nil
    ·rintro ⟨a44, c45⟩ ρ σ46 hJ hoff hrel
     have e0 := look_off (N := 96) (hoff 0 rfl) rfl
     have e4 := look_off (N := 96) (hoff 4 rfl) rfl
     have e5 := look_off (N := 96) (hoff 5 rfl) rfl
     have e46 := hrel 0 rfl 46 rfl
     have e59 := hrel 13 rfl 59 rfl
     obtain ⟨H, -⟩ := (show Hp S0 σ0 σ46 [Ch.own n0 n0 (Sl a44 r41 c45) r41, Ch.bx los_0 bs_0 os_0 [(Sl as_0_0 s_0.1 cs_0_0), (Sl as_0_1 s_0.2.1 cs_0_1), (I s_0.2.2.1), (Sl as_0_3 s_0.2.2.2.1 cs_0_3), (I s_0.2.2.2.2.1), (Sl as_0_5 s_0.2.2.2.2.2.1 cs_0_5), (I (w64 (s_0.2.2.2.2.2.2 + 1)))] pres_0 sufs_0, Ch.ro 0 (Sl a25 x20.2.1 c26) x20.2.1, Ch.bx n0 b10 0 [(I x3.1), (I x3.2.1), (I x3.2.2.1), (I x3.2.2.2)] [] [], Ch.ro 0 (Sl as_0_0 s_0.1 cs_0_0) s_0.1, Ch.ro 0 (Sl as_0_1 s_0.2.1 cs_0_1) s_0.2.1, Ch.ro 0 (Sl as_0_3 s_0.2.2.2.1 cs_0_3) s_0.2.2.2.1, Ch.ro 0 (Sl as_0_5 s_0.2.2.2.2.2.1 cs_0_5) s_0.2.2.2.2.2.1] ∧ Md (cov []) σ37 σ46 from hJ)
     clear hJ Hs
     rw [fr_lookL (L := [(0, (pt bs_0 os_0)), (4, (pt b10 0)), (5, (I r32)), (46, (pt bs_0 os_0)), (59, (Sl a44 r41 c45))]) ⟨e0, e4, e5, e46, e59, trivial⟩]
     clear hoff hrel e0 e4 e5 e46 e59
     refine st (v := (pt bs_0 os_0)) (rv_nilCheck rfl) ?_
     refine st (v := (pt bs_0 (os_0 + 5))) (rv_fieldAddr (off := 5) (ft := 25) Try.underlying82 rfl ti25 rfl rfl) ?_
     refine st_exS (ex_store_box (k := 5) (cs := [(Sl as_0_0 s_0.1 cs_0_0), (Sl as_0_1 s_0.2.1 cs_0_1), (I s_0.2.2.1), (Sl as_0_3 s_0.2.2.2.1 cs_0_3), (I s_0.2.2.2.2.1), (Sl as_0_5 s_0.2.2.2.2.2.1 cs_0_5), (I (w64 (s_0.2.2.2.2.2.2 + 1)))]) (vs := [(Sl a44 r41 c45)]) (cs' := [(Sl as_0_0 s_0.1 cs_0_0), (Sl as_0_1 s_0.2.1 cs_0_1), (I s_0.2.2.1), (Sl as_0_3 s_0.2.2.2.1 cs_0_3), (I s_0.2.2.2.2.1), (Sl a44 r41 c45), (I (w64 (s_0.2.2.2.2.2.2 + 1)))]) H (i := 1) rfl ti25 rfl rfl rfl rfl rfl (Nat.le_of_ble_eq_true rfl) (by simp [plain]) rfl) wn ?_
     rintro σ47 ⟨H, -⟩
     replace H : Hp S0 σ0 σ47 [Ch.bx los_0 bs_0 os_0 [(Sl as_0_0 s_0.1 cs_0_0), (Sl as_0_1 s_0.2.1 cs_0_1), (I s_0.2.2.1), (Sl as_0_3 s_0.2.2.2.1 cs_0_3), (I s_0.2.2.2.2.1), (Sl a44 r41 c45), (I (w64 (s_0.2.2.2.2.2.2 + 1)))] pres_0 sufs_0, Ch.own n0 n0 (Sl a44 r41 c45) r41, Ch.bx n0 b10 0 [(I x3.1), (I x3.2.1), (I x3.2.2.1), (I x3.2.2.2)] [] [], Ch.ro 0 (Sl as_0_0 s_0.1 cs_0_0) s_0.1, Ch.ro 0 (Sl as_0_1 s_0.2.1 cs_0_1) s_0.2.1, Ch.ro 0 (Sl as_0_3 s_0.2.2.2.1 cs_0_3) s_0.2.2.2.1] := H.sel' [0, 1, 3, 4, 5, 6] rfl rfl
     refine w_end ?_
     refine q_then ?_
     refine c_seq ?_
     refine c_seq ?_
     refine rg ?_
     refine st (v := (I r32)) (rv_move rfl) ?_
     refine st (v := (pt b10 1)) (rv_fieldAddr (off := 1) (ft := 3) Try.underlying77 rfl ti3 rfl rfl) ?_
     have hc48 := H.cell (u := (I x3.2.1)) (o' := 1) 2 1 rfl rfl rfl
     refine st (v := (I x3.2.1)) (rv_load1 Try.underlying3 rfl rfl hc48) ?_
     refine st (v := (B (decide (r32 ≤ x3.2.1)))) (rv_leq (a := r32) (b := x3.2.1) rfl rfl) ?_
     refine w_end ?_
     refine q_then ?_
     refine cd_cond (decide (r32 ≤ x3.2.1)) rfl (fun hb49 => ?_) (fun hb49 => ?_)
     ·replace h := bif_t hb49 h
      refine c_seq ?_
      refine rg ?_
      refine st (v := (pt bs_0 os_0)) (rv_move rfl) ?_
      refine st (v := (pt b10 2)) (rv_fieldAddr (off := 2) (ft := 3) Try.underlying77 rfl ti3 rfl rfl) ?_
      have hc50 := H.cell (u := (I x3.2.2.1)) (o' := 2) 2 2 rfl rfl rfl
      refine st (v := (I x3.2.2.1)) (rv_load1 Try.underlying3 rfl rfl hc50) ?_
      obtain ⟨σ51, hw52, H, -⟩ := H.pub 1 rfl (Nat.le_refl _)
      rw [← hw52]; clear hw52
      replace H := H.roLow 0 0 rfl (Nat.zero_le _)
      obtain ⟨r53, hx54, h'⟩ := bind_some h
      clear h
      have h := h'; clear h'
      have hc55 := ih (los_0 := los_0) (bs_0 := bs_0) (os_0 := os_0) (pres_0 := pres_0) (sufs_0 := sufs_0) (as_0_0 := as_0_0) (cs_0_0 := cs_0_0) (as_0_1 := as_0_1) (cs_0_1 := cs_0_1) (as_0_3 := as_0_3) (cs_0_3 := cs_0_3) (as_0_5 := a44) (cs_0_5 := c45) hx54
      refine st_call (cx_call hc55 (ent_f hc55.fn rfl) hn0 (show Hp S0 σ0 _ ([Ch.bx los_0 bs_0 os_0 [(Sl as_0_0 s_0.1 cs_0_0), (Sl as_0_1 s_0.2.1 cs_0_1), (I s_0.2.2.1), (Sl as_0_3 s_0.2.2.2.1 cs_0_3), (I s_0.2.2.2.2.1), (Sl a44 r41 c45), (I (w64 (s_0.2.2.2.2.2.2 + 1)))] pres_0 sufs_0, Ch.ro 0 (Sl as_0_0 s_0.1 cs_0_0) s_0.1, Ch.ro 0 (Sl as_0_1 s_0.2.1 cs_0_1) s_0.2.1, Ch.ro 0 (Sl as_0_3 s_0.2.2.2.1 cs_0_3) s_0.2.2.2.1, Ch.ro 0 (Sl a44 r41 c45) r41] ++ [Ch.ro 0 (Sl a44 r41 c45) r41, Ch.ro n0 (Sl a44 r41 c45) r41, Ch.bx n0 b10 0 [(I x3.1), (I x3.2.1), (I x3.2.2.1), (I x3.2.2.2)] [] [], Ch.ro 0 (Sl as_0_0 s_0.1 cs_0_0) s_0.1, Ch.ro 0 (Sl as_0_1 s_0.2.1 cs_0_1) s_0.2.1, Ch.ro 0 (Sl as_0_3 s_0.2.2.2.1 cs_0_3) s_0.2.2.2.1]) from (H.sel' [2, 4, 5, 6, 0, 0, 1, 3, 4, 5, 6] rfl rfl))) wn ?_
      rintro _ σ64 ⟨_, ⟨a56, c57, a58, c59, a60, c61, a62, c63, rfl, rfl⟩, H, -⟩
      replace H : Hp S0 σ0 σ64 [Ch.bx los_0 bs_0 os_0 [(Sl a56 r53.1 c57), (Sl a58 r53.2.1 c59), (I r53.2.2.1), (Sl a60 r53.2.2.2.1 c61), (I r53.2.2.2.2.1), (Sl a62 r53.2.2.2.2.2.1 c63), (I r53.2.2.2.2.2.2)] pres_0 sufs_0, Ch.ro 0 (Sl a56 r53.1 c57) r53.1, Ch.ro 0 (Sl a58 r53.2.1 c59) r53.2.1, Ch.ro 0 (Sl a60 r53.2.2.2.1 c61) r53.2.2.2.1, Ch.ro 0 (Sl a62 r53.2.2.2.2.2.1 c63) r53.2.2.2.2.2.1, Ch.ro 0 (Sl a44 r41 c45) r41, Ch.ro n0 (Sl a44 r41 c45) r41, Ch.bx n0 b10 0 [(I x3.1), (I x3.2.1), (I x3.2.2.1), (I x3.2.2.2)] [] [], Ch.ro 0 (Sl as_0_0 s_0.1 cs_0_0) s_0.1, Ch.ro 0 (Sl as_0_1 s_0.2.1 cs_0_1) s_0.2.1, Ch.ro 0 (Sl as_0_3 s_0.2.2.2.1 cs_0_3) s_0.2.2.2.1] := H
      replace H : Hp S0 σ0 σ64 [Ch.bx los_0 bs_0 os_0 [(Sl a56 r53.1 c57), (Sl a58 r53.2.1 c59), (I r53.2.2.1), (Sl a60 r53.2.2.2.1 c61), (I r53.2.2.2.2.1), (Sl a62 r53.2.2.2.2.2.1 c63), (I r53.2.2.2.2.2.2)] pres_0 sufs_0, Ch.ro 0 (Sl a56 r53.1 c57) r53.1, Ch.ro 0 (Sl a58 r53.2.1 c59) r53.2.1, Ch.ro 0 (Sl a60 r53.2.2.2.1 c61) r53.2.2.2.1, Ch.ro 0 (Sl a62 r53.2.2.2.2.2.1 c63) r53.2.2.2.2.2.1, Ch.bx n0 b10 0 [(I x3.1), (I x3.2.1), (I x3.2.2.1), (I x3.2.2.2)] [] []] := H.sel' [0, 1, 2, 3, 4, 7] rfl rfl
      refine w_end ?_
      refine q_then ?_
      refine c_seq ?_
      refine c_seq ?_
      obtain ⟨r65, hx66, h'⟩ := bind_some h
      clear h
      have h := h'; clear h'
      have hc67 := c_spec_seek_reach (los_0 := los_0) (bs_0 := bs_0) (os_0 := os_0) (pres_0 := pres_0) (sufs_0 := sufs_0) (as_0_0 := a56) (cs_0_0 := c57) (as_0_1 := a58) (cs_0_1 := c59) (as_0_3 := a60) (cs_0_3 := c61) (as_0_5 := a62) (cs_0_5 := c63) hx66
      have hc68 := H.cell (u := (I x3.2.1)) (o' := 1) 5 1 rfl rfl rfl
      have Hs := H
      refine rg2 (σ := σ64) (Nm := Unit) 6 [2] [[false], [true]] [[(0, 0), (1, 1)], [(0, 0)], [(0, 1)], [(1, 1)], [(0, 0), (1, 1)], [(0, 0), (1, 1)]] 1 [fun _ => fun σm => Hp S0 σ0 σm [Ch.bx los_0 bs_0 os_0 [(Sl a56 r53.1 c57), (Sl a58 r53.2.1 c59), (I r53.2.2.1), (Sl a60 r53.2.2.2.1 c61), (I r53.2.2.2.2.1), (Sl a62 r53.2.2.2.2.2.1 c63), (I r53.2.2.2.2.2.2)] pres_0 sufs_0, Ch.ro 0 (Sl a56 r53.1 c57) r53.1, Ch.ro 0 (Sl a58 r53.2.1 c59) r53.2.1, Ch.ro 0 (Sl a60 r53.2.2.2.1 c61) r53.2.2.2.1, Ch.ro 0 (Sl a62 r53.2.2.2.2.2.1 c63) r53.2.2.2.2.2.1, Ch.bx n0 b10 0 [(I x3.1), (I x3.2.1), (I x3.2.2.1), (I x3.2.2.2)] [] []] ∧ Md (cov []) σ64 σm, fun _ => fun σm => Hp S0 σ0 σm [Ch.bx los_0 bs_0 os_0 [(Sl a56 r53.1 c57), (Sl a58 r53.2.1 c59), (I r53.2.2.1), (Sl a60 r53.2.2.2.1 c61), (I r53.2.2.2.2.1), (Sl a62 r53.2.2.2.2.2.1 c63), (I r53.2.2.2.2.2.2)] pres_0 sufs_0, Ch.ro 0 (Sl a56 r53.1 c57) r53.1, Ch.ro 0 (Sl a58 r53.2.1 c59) r53.2.1, Ch.ro 0 (Sl a60 r53.2.2.2.1 c61) r53.2.2.2.1, Ch.ro 0 (Sl a62 r53.2.2.2.2.2.1 c63) r53.2.2.2.2.2.1, Ch.bx n0 b10 0 [(I x3.1), (I x3.2.1), (I x3.2.2.1), (I x3.2.2.2)] [] []] ∧ Md (fun i => (cov []) i ∨ (cov [Ch.bx los_0 bs_0 os_0 [(Sl a56 r53.1 c57), (Sl a58 r53.2.1 c59), (I r53.2.2.1), (Sl a60 r53.2.2.2.1 c61), (I r53.2.2.2.2.1), (Sl a62 r53.2.2.2.2.2.1 c63), (I r53.2.2.2.2.2.2)] pres_0 sufs_0, Ch.ro 0 (Sl a56 r53.1 c57) r53.1, Ch.ro 0 (Sl a58 r53.2.1 c59) r53.2.1, Ch.ro 0 (Sl a60 r53.2.2.2.1 c61) r53.2.2.2.1, Ch.ro 0 (Sl a62 r53.2.2.2.2.2.1 c63) r53.2.2.2.2.2.1]) i) σ64 σm] [fun _ => (I r32), fun _ => (pt bs_0 os_0), fun _ => (I r65), fun _ => (I (w64 (r32 + r65))), fun _ => (pt b10 1), fun _ => (I x3.2.1)] () (by kernel_rfl) (by kernel_rfl) ?_ ?_ ?_
      ·intro σm m0
       exact ⟨H.grow (m0.mono fun _ h => h.elim), m0⟩
      ·refine ac rfl (by
         intro k _nm ρ σm hJ hoff hdep
         have e5 := look_off (N := 96) (hoff 5 rfl) rfl
         exact dp_v (v := (I r32)) wn (rv_move e5) rfl hJ) ?_
       refine ac rfl (by
         intro k _nm ρ σm hJ hoff hdep
         have e0 := look_off (N := 96) (hoff 0 rfl) rfl
         exact dp_v (v := (pt bs_0 os_0)) wn (rv_move e0) rfl hJ) ?_
       refine all_cons (by
         refine ⟨?_, ?_⟩
         ·intro _nm ρ σm hJ hoff hdep
          have e71 : look 96 ρ 71 = (pt bs_0 os_0) := hdep 1 rfl rfl 71 rfl
          obtain ⟨H, m⟩ := id hJ
          refine dp_cx wn (cx_call hc67 (ent_f hc67.fn (by show [look 96 ρ 71] = _; rw [e71])) hn0 (show Hp S0 σ0 _ ([Ch.bx los_0 bs_0 os_0 [(Sl a56 r53.1 c57), (Sl a58 r53.2.1 c59), (I r53.2.2.1), (Sl a60 r53.2.2.2.1 c61), (I r53.2.2.2.2.1), (Sl a62 r53.2.2.2.2.2.1 c63), (I r53.2.2.2.2.2.2)] pres_0 sufs_0, Ch.ro 0 (Sl a56 r53.1 c57) r53.1, Ch.ro 0 (Sl a58 r53.2.1 c59) r53.2.1, Ch.ro 0 (Sl a60 r53.2.2.2.1 c61) r53.2.2.2.1, Ch.ro 0 (Sl a62 r53.2.2.2.2.2.1 c63) r53.2.2.2.2.2.1] ++ [Ch.ro 0 (Sl a56 r53.1 c57) r53.1, Ch.ro 0 (Sl a58 r53.2.1 c59) r53.2.1, Ch.ro 0 (Sl a60 r53.2.2.2.1 c61) r53.2.2.2.1, Ch.ro 0 (Sl a62 r53.2.2.2.2.2.1 c63) r53.2.2.2.2.2.1, Ch.bx n0 b10 0 [(I x3.1), (I x3.2.1), (I x3.2.2.1), (I x3.2.2.2)] [] []]) from (H.sel' [0, 1, 2, 3, 4, 1, 2, 3, 4, 5] rfl rfl))) ?_
          rintro _ σq ⟨_, ⟨rfl, rfl⟩, H2, m2⟩
          exact ⟨_, (), rfl, rfl, ⟨H2.sel' [0, 1, 2, 3, 4, 5] rfl rfl, m.comp m2⟩, stab [0, 1, 4, 5] (by kernel_rfl) ⟨rfl, rfl, rfl, rfl, trivial⟩⟩
         trivial) ?_
       refine ac rfl (by
         intro k _nm ρ σm hJ hoff hdep
         have e70 := hdep 0 rfl rfl 70 rfl
         have e72 := hdep 2 rfl rfl 72 rfl
         exact dp_v (v := (I (w64 (r32 + r65)))) wn (rv_add (a := r32) (b := r65) e70 e72) rfl hJ) ?_
       refine ac rfl (by
         intro k _nm ρ σm hJ hoff hdep
         have e4 := look_off (N := 96) (hoff 4 rfl) rfl
         exact dp_v (v := (pt b10 1)) wn (rv_fieldAddr (off := 1) (ft := 3) Try.underlying77 rfl ti3 rfl e4) rfl hJ) ?_
       refine all_cons (by
         refine ⟨?_, ?_⟩
         ·intro _nm ρ σm hJ hoff hdep
          have e74 := hdep 4 rfl rfl 74 rfl
          obtain ⟨H, m⟩ := id hJ
          have hc68 := H.cell (u := (I x3.2.1)) (o' := 1) 5 1 rfl rfl rfl
          exact dp_v (v := (I x3.2.1)) wn (rv_load1 Try.underlying3 rfl e74 hc68) rfl hJ
         refine ⟨?_, ?_⟩
         ·intro _nm ρ σm hJ hoff hdep
          have e74 := hdep 4 rfl rfl 74 rfl
          obtain ⟨H, m⟩ := id hJ
          have hc68 := H.cell (u := (I x3.2.1)) (o' := 1) 5 1 rfl rfl rfl
          exact dp_v (v := (I x3.2.1)) wn (rv_load1 Try.underlying3 rfl e74 hc68) rfl hJ
         trivial) ?_
       exact all_nil
      ·intro _nm ρ σ69 hJ hoff hrel
       have e0 := look_off (N := 96) (hoff 0 rfl) rfl
       have e4 := look_off (N := 96) (hoff 4 rfl) rfl
       have e73 := hrel 3 rfl 73 rfl
       have e75 := hrel 5 rfl 75 rfl
       obtain ⟨H, -⟩ := (show Hp S0 σ0 σ69 [Ch.bx los_0 bs_0 os_0 [(Sl a56 r53.1 c57), (Sl a58 r53.2.1 c59), (I r53.2.2.1), (Sl a60 r53.2.2.2.1 c61), (I r53.2.2.2.2.1), (Sl a62 r53.2.2.2.2.2.1 c63), (I r53.2.2.2.2.2.2)] pres_0 sufs_0, Ch.ro 0 (Sl a56 r53.1 c57) r53.1, Ch.ro 0 (Sl a58 r53.2.1 c59) r53.2.1, Ch.ro 0 (Sl a60 r53.2.2.2.1 c61) r53.2.2.2.1, Ch.ro 0 (Sl a62 r53.2.2.2.2.2.1 c63) r53.2.2.2.2.2.1, Ch.bx n0 b10 0 [(I x3.1), (I x3.2.1), (I x3.2.2.1), (I x3.2.2.2)] [] []] ∧ Md (fun i => (cov []) i ∨ (cov [Ch.bx los_0 bs_0 os_0 [(Sl a56 r53.1 c57), (Sl a58 r53.2.1 c59), (I r53.2.2.1), (Sl a60 r53.2.2.2.1 c61), (I r53.2.2.2.2.1), (Sl a62 r53.2.2.2.2.2.1 c63), (I r53.2.2.2.2.2.2)] pres_0 sufs_0, Ch.ro 0 (Sl a56 r53.1 c57) r53.1, Ch.ro 0 (Sl a58 r53.2.1 c59) r53.2.1, Ch.ro 0 (Sl a60 r53.2.2.2.1 c61) r53.2.2.2.1, Ch.ro 0 (Sl a62 r53.2.2.2.2.2.1 c63) r53.2.2.2.2.2.1]) i) σ64 σ69 from hJ)
       clear hJ Hs
       rw [fr_lookL (L := [(0, (pt bs_0 os_0)), (4, (pt b10 0)), (73, (I (w64 (r32 + r65)))), (75, (I x3.2.1))]) ⟨e0, e4, e73, e75, trivial⟩]
       clear hoff hrel e0 e4 e73 e75
       refine st (v := (B (decide (x3.2.1 ≤ (w64 (r32 + r65)))))) (rv_geq (a := (w64 (r32 + r65))) (b := x3.2.1) rfl rfl) ?_
       refine w_end ?_
       refine q_then ?_
       refine cd_cond (decide (x3.2.1 ≤ (w64 (r32 + r65)))) rfl (fun hb70 => ?_) (fun hb70 => ?_)
       ·replace h := bif_t hb70 h
        refine rg ?_
        refine st (v := (pt bs_0 os_0)) (rv_move rfl) ?_
        refine st (v := (pt b10 3)) (rv_fieldAddr (off := 3) (ft := 3) Try.underlying77 rfl ti3 rfl rfl) ?_
        have hc71 := H.cell (u := (I x3.2.2.2)) (o' := 3) 5 3 rfl rfl rfl
        refine st (v := (I x3.2.2.2)) (rv_load1 Try.underlying3 rfl rfl hc71) ?_
        obtain ⟨r72, hx73, h'⟩ := bind_some h
        clear h
        have h := h'; clear h'
        have hc74 := ih (los_0 := los_0) (bs_0 := bs_0) (os_0 := os_0) (pres_0 := pres_0) (sufs_0 := sufs_0) (as_0_0 := a56) (cs_0_0 := c57) (as_0_1 := a58) (cs_0_1 := c59) (as_0_3 := a60) (cs_0_3 := c61) (as_0_5 := a62) (cs_0_5 := c63) hx73
        refine st_call (cx_call hc74 (ent_f hc74.fn rfl) hn0 (show Hp S0 σ0 _ ([Ch.bx los_0 bs_0 os_0 [(Sl a56 r53.1 c57), (Sl a58 r53.2.1 c59), (I r53.2.2.1), (Sl a60 r53.2.2.2.1 c61), (I r53.2.2.2.2.1), (Sl a62 r53.2.2.2.2.2.1 c63), (I r53.2.2.2.2.2.2)] pres_0 sufs_0, Ch.ro 0 (Sl a56 r53.1 c57) r53.1, Ch.ro 0 (Sl a58 r53.2.1 c59) r53.2.1, Ch.ro 0 (Sl a60 r53.2.2.2.1 c61) r53.2.2.2.1, Ch.ro 0 (Sl a62 r53.2.2.2.2.2.1 c63) r53.2.2.2.2.2.1] ++ [Ch.ro 0 (Sl a56 r53.1 c57) r53.1, Ch.ro 0 (Sl a58 r53.2.1 c59) r53.2.1, Ch.ro 0 (Sl a60 r53.2.2.2.1 c61) r53.2.2.2.1, Ch.ro 0 (Sl a62 r53.2.2.2.2.2.1 c63) r53.2.2.2.2.2.1, Ch.bx n0 b10 0 [(I x3.1), (I x3.2.1), (I x3.2.2.1), (I x3.2.2.2)] [] []]) from (H.sel' [0, 1, 2, 3, 4, 1, 2, 3, 4, 5] rfl rfl))) wn ?_
        rintro _ σ83 ⟨_, ⟨a75, c76, a77, c78, a79, c80, a81, c82, rfl, rfl⟩, H, -⟩
        replace H : Hp S0 σ0 σ83 [Ch.bx los_0 bs_0 os_0 [(Sl a75 r72.1 c76), (Sl a77 r72.2.1 c78), (I r72.2.2.1), (Sl a79 r72.2.2.2.1 c80), (I r72.2.2.2.2.1), (Sl a81 r72.2.2.2.2.2.1 c82), (I r72.2.2.2.2.2.2)] pres_0 sufs_0, Ch.ro 0 (Sl a75 r72.1 c76) r72.1, Ch.ro 0 (Sl a77 r72.2.1 c78) r72.2.1, Ch.ro 0 (Sl a79 r72.2.2.2.1 c80) r72.2.2.2.1, Ch.ro 0 (Sl a81 r72.2.2.2.2.2.1 c82) r72.2.2.2.2.2.1, Ch.ro 0 (Sl a56 r53.1 c57) r53.1, Ch.ro 0 (Sl a58 r53.2.1 c59) r53.2.1, Ch.ro 0 (Sl a60 r53.2.2.2.1 c61) r53.2.2.2.1, Ch.ro 0 (Sl a62 r53.2.2.2.2.2.1 c63) r53.2.2.2.2.2.1, Ch.bx n0 b10 0 [(I x3.1), (I x3.2.1), (I x3.2.2.1), (I x3.2.2.2)] [] []] := H
        replace H : Hp S0 σ0 σ83 [Ch.bx los_0 bs_0 os_0 [(Sl a75 r72.1 c76), (Sl a77 r72.2.1 c78), (I r72.2.2.1), (Sl a79 r72.2.2.2.1 c80), (I r72.2.2.2.2.1), (Sl a81 r72.2.2.2.2.2.1 c82), (I r72.2.2.2.2.2.2)] pres_0 sufs_0, Ch.ro 0 (Sl a75 r72.1 c76) r72.1, Ch.ro 0 (Sl a77 r72.2.1 c78) r72.2.1, Ch.ro 0 (Sl a79 r72.2.2.2.1 c80) r72.2.2.2.1, Ch.ro 0 (Sl a81 r72.2.2.2.2.2.1 c82) r72.2.2.2.2.2.1] := H.sel' [0, 1, 2, 3, 4] rfl rfl
        refine w_end ?_
        refine q_then ?_
        refine c_ret ?_
        refine q_then_r ?_
        obtain rfl := Option.some.inj h
        exact fin_ret (v := (.tuple #[])) (results_ok Try.results90 res_nil rfl) ⟨a75, c76, a77, c78, a79, c80, a81, c82, rfl, rfl⟩ (H.sel' [0, 1, 2, 3, 4] rfl rfl)
       ·replace h := bif_f hb70 h
        refine c_skip ?_
        refine q_then ?_
        refine c_ret ?_
        refine q_then_r ?_
        obtain rfl := Option.some.inj h
        exact fin_ret (v := (.tuple #[])) (results_ok Try.results90 res_nil rfl) ⟨a56, c57, a58, c59, a60, c61, a62, c63, rfl, rfl⟩ (H.sel' [0, 1, 2, 3, 4] rfl rfl)
     ·replace h := bif_f hb49 h
      refine c_skip ?_
      refine q_then ?_
      refine c_seq ?_
      refine rg ?_
      refine st (v := (pt bs_0 os_0)) (rv_move rfl) ?_
      refine st (v := (pt b10 3)) (rv_fieldAddr (off := 3) (ft := 3) Try.underlying77 rfl ti3 rfl rfl) ?_
      have hc84 := H.cell (u := (I x3.2.2.2)) (o' := 3) 2 3 rfl rfl rfl
      refine st (v := (I x3.2.2.2)) (rv_load1 Try.underlying3 rfl rfl hc84) ?_
      obtain ⟨σ85, hw86, H, -⟩ := H.pub 1 rfl (Nat.le_refl _)
      rw [← hw86]; clear hw86
      replace H := H.roLow 0 0 rfl (Nat.zero_le _)
      obtain ⟨r87, hx88, h'⟩ := bind_some h
      clear h
      have h := h'; clear h'
      have hc89 := ih (los_0 := los_0) (bs_0 := bs_0) (os_0 := os_0) (pres_0 := pres_0) (sufs_0 := sufs_0) (as_0_0 := as_0_0) (cs_0_0 := cs_0_0) (as_0_1 := as_0_1) (cs_0_1 := cs_0_1) (as_0_3 := as_0_3) (cs_0_3 := cs_0_3) (as_0_5 := a44) (cs_0_5 := c45) hx88
      refine st_call (cx_call hc89 (ent_f hc89.fn rfl) hn0 (show Hp S0 σ0 _ ([Ch.bx los_0 bs_0 os_0 [(Sl as_0_0 s_0.1 cs_0_0), (Sl as_0_1 s_0.2.1 cs_0_1), (I s_0.2.2.1), (Sl as_0_3 s_0.2.2.2.1 cs_0_3), (I s_0.2.2.2.2.1), (Sl a44 r41 c45), (I (w64 (s_0.2.2.2.2.2.2 + 1)))] pres_0 sufs_0, Ch.ro 0 (Sl as_0_0 s_0.1 cs_0_0) s_0.1, Ch.ro 0 (Sl as_0_1 s_0.2.1 cs_0_1) s_0.2.1, Ch.ro 0 (Sl as_0_3 s_0.2.2.2.1 cs_0_3) s_0.2.2.2.1, Ch.ro 0 (Sl a44 r41 c45) r41] ++ [Ch.ro 0 (Sl a44 r41 c45) r41, Ch.ro n0 (Sl a44 r41 c45) r41, Ch.bx n0 b10 0 [(I x3.1), (I x3.2.1), (I x3.2.2.1), (I x3.2.2.2)] [] [], Ch.ro 0 (Sl as_0_0 s_0.1 cs_0_0) s_0.1, Ch.ro 0 (Sl as_0_1 s_0.2.1 cs_0_1) s_0.2.1, Ch.ro 0 (Sl as_0_3 s_0.2.2.2.1 cs_0_3) s_0.2.2.2.1]) from (H.sel' [2, 4, 5, 6, 0, 0, 1, 3, 4, 5, 6] rfl rfl))) wn ?_
      rintro _ σ98 ⟨_, ⟨a90, c91, a92, c93, a94, c95, a96, c97, rfl, rfl⟩, H, -⟩
      replace H : Hp S0 σ0 σ98 [Ch.bx los_0 bs_0 os_0 [(Sl a90 r87.1 c91), (Sl a92 r87.2.1 c93), (I r87.2.2.1), (Sl a94 r87.2.2.2.1 c95), (I r87.2.2.2.2.1), (Sl a96 r87.2.2.2.2.2.1 c97), (I r87.2.2.2.2.2.2)] pres_0 sufs_0, Ch.ro 0 (Sl a90 r87.1 c91) r87.1, Ch.ro 0 (Sl a92 r87.2.1 c93) r87.2.1, Ch.ro 0 (Sl a94 r87.2.2.2.1 c95) r87.2.2.2.1, Ch.ro 0 (Sl a96 r87.2.2.2.2.2.1 c97) r87.2.2.2.2.2.1, Ch.ro 0 (Sl a44 r41 c45) r41, Ch.ro n0 (Sl a44 r41 c45) r41, Ch.bx n0 b10 0 [(I x3.1), (I x3.2.1), (I x3.2.2.1), (I x3.2.2.2)] [] [], Ch.ro 0 (Sl as_0_0 s_0.1 cs_0_0) s_0.1, Ch.ro 0 (Sl as_0_1 s_0.2.1 cs_0_1) s_0.2.1, Ch.ro 0 (Sl as_0_3 s_0.2.2.2.1 cs_0_3) s_0.2.2.2.1] := H
      replace H : Hp S0 σ0 σ98 [Ch.bx los_0 bs_0 os_0 [(Sl a90 r87.1 c91), (Sl a92 r87.2.1 c93), (I r87.2.2.1), (Sl a94 r87.2.2.2.1 c95), (I r87.2.2.2.2.1), (Sl a96 r87.2.2.2.2.2.1 c97), (I r87.2.2.2.2.2.2)] pres_0 sufs_0, Ch.ro 0 (Sl a90 r87.1 c91) r87.1, Ch.ro 0 (Sl a92 r87.2.1 c93) r87.2.1, Ch.ro 0 (Sl a94 r87.2.2.2.1 c95) r87.2.2.2.1, Ch.ro 0 (Sl a96 r87.2.2.2.2.2.1 c97) r87.2.2.2.2.2.1, Ch.bx n0 b10 0 [(I x3.1), (I x3.2.1), (I x3.2.2.1), (I x3.2.2.2)] [] []] := H.sel' [0, 1, 2, 3, 4, 7] rfl rfl
      refine w_end ?_
      refine q_then ?_
      refine c_seq ?_
      obtain ⟨r99, hx100, h'⟩ := bind_some h
      clear h
      have h := h'; clear h'
      have hc101 := c_spec_seek_reach (los_0 := los_0) (bs_0 := bs_0) (os_0 := os_0) (pres_0 := pres_0) (sufs_0 := sufs_0) (as_0_0 := a90) (cs_0_0 := c91) (as_0_1 := a92) (cs_0_1 := c93) (as_0_3 := a94) (cs_0_3 := c95) (as_0_5 := a96) (cs_0_5 := c97) hx100
      have hc102 := H.cell (u := (I x3.2.1)) (o' := 1) 5 1 rfl rfl rfl
      have Hs := H
      refine rg2 (σ := σ98) (Nm := Unit) 6 [2] [[false], [true]] [[(0, 0), (1, 1)], [(0, 0)], [(0, 1)], [(1, 1)], [(0, 0), (1, 1)], [(0, 0), (1, 1)]] 1 [fun _ => fun σm => Hp S0 σ0 σm [Ch.bx los_0 bs_0 os_0 [(Sl a90 r87.1 c91), (Sl a92 r87.2.1 c93), (I r87.2.2.1), (Sl a94 r87.2.2.2.1 c95), (I r87.2.2.2.2.1), (Sl a96 r87.2.2.2.2.2.1 c97), (I r87.2.2.2.2.2.2)] pres_0 sufs_0, Ch.ro 0 (Sl a90 r87.1 c91) r87.1, Ch.ro 0 (Sl a92 r87.2.1 c93) r87.2.1, Ch.ro 0 (Sl a94 r87.2.2.2.1 c95) r87.2.2.2.1, Ch.ro 0 (Sl a96 r87.2.2.2.2.2.1 c97) r87.2.2.2.2.2.1, Ch.bx n0 b10 0 [(I x3.1), (I x3.2.1), (I x3.2.2.1), (I x3.2.2.2)] [] []] ∧ Md (cov []) σ98 σm, fun _ => fun σm => Hp S0 σ0 σm [Ch.bx los_0 bs_0 os_0 [(Sl a90 r87.1 c91), (Sl a92 r87.2.1 c93), (I r87.2.2.1), (Sl a94 r87.2.2.2.1 c95), (I r87.2.2.2.2.1), (Sl a96 r87.2.2.2.2.2.1 c97), (I r87.2.2.2.2.2.2)] pres_0 sufs_0, Ch.ro 0 (Sl a90 r87.1 c91) r87.1, Ch.ro 0 (Sl a92 r87.2.1 c93) r87.2.1, Ch.ro 0 (Sl a94 r87.2.2.2.1 c95) r87.2.2.2.1, Ch.ro 0 (Sl a96 r87.2.2.2.2.2.1 c97) r87.2.2.2.2.2.1, Ch.bx n0 b10 0 [(I x3.1), (I x3.2.1), (I x3.2.2.1), (I x3.2.2.2)] [] []] ∧ Md (fun i => (cov []) i ∨ (cov [Ch.bx los_0 bs_0 os_0 [(Sl a90 r87.1 c91), (Sl a92 r87.2.1 c93), (I r87.2.2.1), (Sl a94 r87.2.2.2.1 c95), (I r87.2.2.2.2.1), (Sl a96 r87.2.2.2.2.2.1 c97), (I r87.2.2.2.2.2.2)] pres_0 sufs_0, Ch.ro 0 (Sl a90 r87.1 c91) r87.1, Ch.ro 0 (Sl a92 r87.2.1 c93) r87.2.1, Ch.ro 0 (Sl a94 r87.2.2.2.1 c95) r87.2.2.2.1, Ch.ro 0 (Sl a96 r87.2.2.2.2.2.1 c97) r87.2.2.2.2.2.1]) i) σ98 σm] [fun _ => (I r32), fun _ => (pt bs_0 os_0), fun _ => (I r99), fun _ => (I (w64 (r32 - r99))), fun _ => (pt b10 1), fun _ => (I x3.2.1)] () (by kernel_rfl) (by kernel_rfl) ?_ ?_ ?_
      ·intro σm m0
       exact ⟨H.grow (m0.mono fun _ h => h.elim), m0⟩
      ·refine ac rfl (by
         intro k _nm ρ σm hJ hoff hdep
         have e5 := look_off (N := 96) (hoff 5 rfl) rfl
         exact dp_v (v := (I r32)) wn (rv_move e5) rfl hJ) ?_
       refine ac rfl (by
         intro k _nm ρ σm hJ hoff hdep
         have e0 := look_off (N := 96) (hoff 0 rfl) rfl
         exact dp_v (v := (pt bs_0 os_0)) wn (rv_move e0) rfl hJ) ?_
       refine all_cons (by
         refine ⟨?_, ?_⟩
         ·intro _nm ρ σm hJ hoff hdep
          have e86 : look 96 ρ 86 = (pt bs_0 os_0) := hdep 1 rfl rfl 86 rfl
          obtain ⟨H, m⟩ := id hJ
          refine dp_cx wn (cx_call hc101 (ent_f hc101.fn (by show [look 96 ρ 86] = _; rw [e86])) hn0 (show Hp S0 σ0 _ ([Ch.bx los_0 bs_0 os_0 [(Sl a90 r87.1 c91), (Sl a92 r87.2.1 c93), (I r87.2.2.1), (Sl a94 r87.2.2.2.1 c95), (I r87.2.2.2.2.1), (Sl a96 r87.2.2.2.2.2.1 c97), (I r87.2.2.2.2.2.2)] pres_0 sufs_0, Ch.ro 0 (Sl a90 r87.1 c91) r87.1, Ch.ro 0 (Sl a92 r87.2.1 c93) r87.2.1, Ch.ro 0 (Sl a94 r87.2.2.2.1 c95) r87.2.2.2.1, Ch.ro 0 (Sl a96 r87.2.2.2.2.2.1 c97) r87.2.2.2.2.2.1] ++ [Ch.ro 0 (Sl a90 r87.1 c91) r87.1, Ch.ro 0 (Sl a92 r87.2.1 c93) r87.2.1, Ch.ro 0 (Sl a94 r87.2.2.2.1 c95) r87.2.2.2.1, Ch.ro 0 (Sl a96 r87.2.2.2.2.2.1 c97) r87.2.2.2.2.2.1, Ch.bx n0 b10 0 [(I x3.1), (I x3.2.1), (I x3.2.2.1), (I x3.2.2.2)] [] []]) from (H.sel' [0, 1, 2, 3, 4, 1, 2, 3, 4, 5] rfl rfl))) ?_
          rintro _ σq ⟨_, ⟨rfl, rfl⟩, H2, m2⟩
          exact ⟨_, (), rfl, rfl, ⟨H2.sel' [0, 1, 2, 3, 4, 5] rfl rfl, m.comp m2⟩, stab [0, 1, 4, 5] (by kernel_rfl) ⟨rfl, rfl, rfl, rfl, trivial⟩⟩
         trivial) ?_
       refine ac rfl (by
         intro k _nm ρ σm hJ hoff hdep
         have e85 := hdep 0 rfl rfl 85 rfl
         have e87 := hdep 2 rfl rfl 87 rfl
         exact dp_v (v := (I (w64 (r32 - r99)))) wn (rv_sub (a := r32) (b := r99) e85 e87) rfl hJ) ?_
       refine ac rfl (by
         intro k _nm ρ σm hJ hoff hdep
         have e4 := look_off (N := 96) (hoff 4 rfl) rfl
         exact dp_v (v := (pt b10 1)) wn (rv_fieldAddr (off := 1) (ft := 3) Try.underlying77 rfl ti3 rfl e4) rfl hJ) ?_
       refine all_cons (by
         refine ⟨?_, ?_⟩
         ·intro _nm ρ σm hJ hoff hdep
          have e89 := hdep 4 rfl rfl 89 rfl
          obtain ⟨H, m⟩ := id hJ
          have hc102 := H.cell (u := (I x3.2.1)) (o' := 1) 5 1 rfl rfl rfl
          exact dp_v (v := (I x3.2.1)) wn (rv_load1 Try.underlying3 rfl e89 hc102) rfl hJ
         refine ⟨?_, ?_⟩
         ·intro _nm ρ σm hJ hoff hdep
          have e89 := hdep 4 rfl rfl 89 rfl
          obtain ⟨H, m⟩ := id hJ
          have hc102 := H.cell (u := (I x3.2.1)) (o' := 1) 5 1 rfl rfl rfl
          exact dp_v (v := (I x3.2.1)) wn (rv_load1 Try.underlying3 rfl e89 hc102) rfl hJ
         trivial) ?_
       exact all_nil
      ·intro _nm ρ σ103 hJ hoff hrel
       have e0 := look_off (N := 96) (hoff 0 rfl) rfl
       have e4 := look_off (N := 96) (hoff 4 rfl) rfl
       have e88 := hrel 3 rfl 88 rfl
       have e90 := hrel 5 rfl 90 rfl
       obtain ⟨H, -⟩ := (show Hp S0 σ0 σ103 [Ch.bx los_0 bs_0 os_0 [(Sl a90 r87.1 c91), (Sl a92 r87.2.1 c93), (I r87.2.2.1), (Sl a94 r87.2.2.2.1 c95), (I r87.2.2.2.2.1), (Sl a96 r87.2.2.2.2.2.1 c97), (I r87.2.2.2.2.2.2)] pres_0 sufs_0, Ch.ro 0 (Sl a90 r87.1 c91) r87.1, Ch.ro 0 (Sl a92 r87.2.1 c93) r87.2.1, Ch.ro 0 (Sl a94 r87.2.2.2.1 c95) r87.2.2.2.1, Ch.ro 0 (Sl a96 r87.2.2.2.2.2.1 c97) r87.2.2.2.2.2.1, Ch.bx n0 b10 0 [(I x3.1), (I x3.2.1), (I x3.2.2.1), (I x3.2.2.2)] [] []] ∧ Md (fun i => (cov []) i ∨ (cov [Ch.bx los_0 bs_0 os_0 [(Sl a90 r87.1 c91), (Sl a92 r87.2.1 c93), (I r87.2.2.1), (Sl a94 r87.2.2.2.1 c95), (I r87.2.2.2.2.1), (Sl a96 r87.2.2.2.2.2.1 c97), (I r87.2.2.2.2.2.2)] pres_0 sufs_0, Ch.ro 0 (Sl a90 r87.1 c91) r87.1, Ch.ro 0 (Sl a92 r87.2.1 c93) r87.2.1, Ch.ro 0 (Sl a94 r87.2.2.2.1 c95) r87.2.2.2.1, Ch.ro 0 (Sl a96 r87.2.2.2.2.2.1 c97) r87.2.2.2.2.2.1]) i) σ98 σ103 from hJ)
       clear hJ Hs
       rw [fr_lookL (L := [(0, (pt bs_0 os_0)), (4, (pt b10 0)), (88, (I (w64 (r32 - r99)))), (90, (I x3.2.1))]) ⟨e0, e4, e88, e90, trivial⟩]
       clear hoff hrel e0 e4 e88 e90
       refine st (v := (B (decide ((w64 (r32 - r99)) ≤ x3.2.1)))) (rv_leq (a := (w64 (r32 - r99))) (b := x3.2.1) rfl rfl) ?_
       refine w_end ?_
       refine q_then ?_
       refine cd_cond (decide ((w64 (r32 - r99)) ≤ x3.2.1)) rfl (fun hb104 => ?_) (fun hb104 => ?_)
       ·replace h := bif_t hb104 h
        refine rg ?_
        refine st (v := (pt bs_0 os_0)) (rv_move rfl) ?_
        refine st (v := (pt b10 2)) (rv_fieldAddr (off := 2) (ft := 3) Try.underlying77 rfl ti3 rfl rfl) ?_
        have hc105 := H.cell (u := (I x3.2.2.1)) (o' := 2) 5 2 rfl rfl rfl
        refine st (v := (I x3.2.2.1)) (rv_load1 Try.underlying3 rfl rfl hc105) ?_
        obtain ⟨r106, hx107, h'⟩ := bind_some h
        clear h
        have h := h'; clear h'
        have hc108 := ih (los_0 := los_0) (bs_0 := bs_0) (os_0 := os_0) (pres_0 := pres_0) (sufs_0 := sufs_0) (as_0_0 := a90) (cs_0_0 := c91) (as_0_1 := a92) (cs_0_1 := c93) (as_0_3 := a94) (cs_0_3 := c95) (as_0_5 := a96) (cs_0_5 := c97) hx107
        refine st_call (cx_call hc108 (ent_f hc108.fn rfl) hn0 (show Hp S0 σ0 _ ([Ch.bx los_0 bs_0 os_0 [(Sl a90 r87.1 c91), (Sl a92 r87.2.1 c93), (I r87.2.2.1), (Sl a94 r87.2.2.2.1 c95), (I r87.2.2.2.2.1), (Sl a96 r87.2.2.2.2.2.1 c97), (I r87.2.2.2.2.2.2)] pres_0 sufs_0, Ch.ro 0 (Sl a90 r87.1 c91) r87.1, Ch.ro 0 (Sl a92 r87.2.1 c93) r87.2.1, Ch.ro 0 (Sl a94 r87.2.2.2.1 c95) r87.2.2.2.1, Ch.ro 0 (Sl a96 r87.2.2.2.2.2.1 c97) r87.2.2.2.2.2.1] ++ [Ch.ro 0 (Sl a90 r87.1 c91) r87.1, Ch.ro 0 (Sl a92 r87.2.1 c93) r87.2.1, Ch.ro 0 (Sl a94 r87.2.2.2.1 c95) r87.2.2.2.1, Ch.ro 0 (Sl a96 r87.2.2.2.2.2.1 c97) r87.2.2.2.2.2.1, Ch.bx n0 b10 0 [(I x3.1), (I x3.2.1), (I x3.2.2.1), (I x3.2.2.2)] [] []]) from (H.sel' [0, 1, 2, 3, 4, 1, 2, 3, 4, 5] rfl rfl))) wn ?_
        rintro _ σ117 ⟨_, ⟨a109, c110, a111, c112, a113, c114, a115, c116, rfl, rfl⟩, H, -⟩
        replace H : Hp S0 σ0 σ117 [Ch.bx los_0 bs_0 os_0 [(Sl a109 r106.1 c110), (Sl a111 r106.2.1 c112), (I r106.2.2.1), (Sl a113 r106.2.2.2.1 c114), (I r106.2.2.2.2.1), (Sl a115 r106.2.2.2.2.2.1 c116), (I r106.2.2.2.2.2.2)] pres_0 sufs_0, Ch.ro 0 (Sl a109 r106.1 c110) r106.1, Ch.ro 0 (Sl a111 r106.2.1 c112) r106.2.1, Ch.ro 0 (Sl a113 r106.2.2.2.1 c114) r106.2.2.2.1, Ch.ro 0 (Sl a115 r106.2.2.2.2.2.1 c116) r106.2.2.2.2.2.1, Ch.ro 0 (Sl a90 r87.1 c91) r87.1, Ch.ro 0 (Sl a92 r87.2.1 c93) r87.2.1, Ch.ro 0 (Sl a94 r87.2.2.2.1 c95) r87.2.2.2.1, Ch.ro 0 (Sl a96 r87.2.2.2.2.2.1 c97) r87.2.2.2.2.2.1, Ch.bx n0 b10 0 [(I x3.1), (I x3.2.1), (I x3.2.2.1), (I x3.2.2.2)] [] []] := H
        replace H : Hp S0 σ0 σ117 [Ch.bx los_0 bs_0 os_0 [(Sl a109 r106.1 c110), (Sl a111 r106.2.1 c112), (I r106.2.2.1), (Sl a113 r106.2.2.2.1 c114), (I r106.2.2.2.2.1), (Sl a115 r106.2.2.2.2.2.1 c116), (I r106.2.2.2.2.2.2)] pres_0 sufs_0, Ch.ro 0 (Sl a109 r106.1 c110) r106.1, Ch.ro 0 (Sl a111 r106.2.1 c112) r106.2.1, Ch.ro 0 (Sl a113 r106.2.2.2.1 c114) r106.2.2.2.1, Ch.ro 0 (Sl a115 r106.2.2.2.2.2.1 c116) r106.2.2.2.2.2.1] := H.sel' [0, 1, 2, 3, 4] rfl rfl
        refine w_end ?_
        obtain rfl := Option.some.inj h
        exact fin_end (v := (.tuple #[])) (results_ok Try.results90 res_nil rfl) ⟨a109, c110, a111, c112, a113, c114, a115, c116, rfl, rfl⟩ (H.sel' [0, 1, 2, 3, 4] rfl rfl)
       ·replace h := bif_f hb104 h
        refine c_skip ?_
        obtain rfl := Option.some.inj h
        exact fin_end (v := (.tuple #[])) (results_ok Try.results90 res_nil rfl) ⟨a90, c91, a92, c93, a94, c95, a96, c97, rfl, rfl⟩ (H.sel' [0, 1, 2, 3, 4] rfl rfl)

end Go.Vs
