/- The functions compute what their models say. -/
import Derived.Test.YtdjjikmfkejdiadKBuildTreeSizeC3
set_option linter.unusedVariables false
set_option linter.unusedSimpArgs false
set_option maxRecDepth 20000
namespace Go.Vs
open Go Go.Proofs
attribute [local irreducible] Code.wp Code.wpIn wpList wpListIn wpQuiet Calls CallsIn

theorem c_spec_grow : ∀ (fuel : Nat) {nodes_0 : List (Int × Int × Int × Int)} {list_1 : List (Int × (List Int) × Int)} {kind_2 : Int} {anodes_0 : Option Addr} {cnodes_0 : Nat} {alist_1 : Option Addr} {clist_1 : Nat} {r : (List (Int × Int × Int × Int))} (h : M.spec_grow fuel nodes_0 list_1 kind_2 = some r),
    Cal2 Try.prog 86 [(Sl anodes_0 nodes_0 cnodes_0), (Sl alist_1 list_1 clist_1), (I kind_2)] [Ch.own 0 0 (Sl anodes_0 nodes_0 cnodes_0) nodes_0, Ch.ro 0 (Sl alist_1 list_1 clist_1) list_1] (fun n0 v L => ∃ (az1 : Option Addr), ∃ (cz2 : Nat), v = (Sl az1 r cz2) ∧ L = [Ch.own 0 n0 (Sl az1 r cz2) r]) := by
 intro fuel
 induction fuel with
 | zero => intro _ _ _ _ _ _ _ r h; cases h
 | succ fuel ih =>
 ·intro nodes_0 list_1 kind_2 anodes_0 cnodes_0 alist_1 clist_1 r h
  replace h : M.spec_grow_F (M.spec_grow fuel) nodes_0 list_1 kind_2 = some r := h
  refine cal2 (n := 83) Try.func86 rfl rfl rfl rfl ?_
  intro S0 σ0 n0 hn0 H
  unfold M.spec_grow_F at h
  refine c_seq ?_
  refine rg ?_
  refine st (v := (.slice none 0 0)) (rv_assign rfl) ?_
  refine w_end ?_
  refine q_then ?_
  refine c_seq ?_
  refine c_seq ?_
  refine rg ?_
  refine st (v := (Sl alist_1 list_1 clist_1)) (rv_move rfl) ?_
  refine st (v := (I (list_1.length : Int))) (rv_len Try.underlying23 rfl) ?_
  refine st (v := (B ((list_1.length : Int) == 0))) (rv_eql (a := (list_1.length : Int)) (b := 0) rfl rfl) ?_
  refine w_end ?_
  refine q_then ?_
  refine cd_cond ((list_1.length : Int) == 0) rfl (fun hb1 => ?_) (fun hb1 => ?_)
  ·replace h := bif_t hb1 h
   refine c_seq ?_
   refine rg ?_
   refine st (v := (Sl anodes_0 nodes_0 cnodes_0)) (rv_move rfl) ?_
   refine st (v := (Sl anodes_0 nodes_0 cnodes_0)) (rv_assign rfl) ?_
   refine w_end ?_
   refine q_then ?_
   refine c_ret ?_
   refine q_then_r ?_
   replace H := H.ownSc 0 0 n0 rfl (Nat.le_refl _)
   obtain rfl := Option.some.inj h
   exact fin_ret (v := (Sl anodes_0 nodes_0 cnodes_0)) (results_ok Try.results86 (res_tmp (v := (Sl anodes_0 nodes_0 cnodes_0)) rfl res_nil) rfl) ⟨anodes_0, cnodes_0, rfl, rfl⟩ (H.sel' [0] rfl rfl)
  ·replace h := bif_f hb1 h
   refine c_skip ?_
   refine q_then ?_
   refine c_seq ?_
   refine rg ?_
   refine st (v := (Sl alist_1 list_1 clist_1)) (rv_move rfl) ?_
   obtain ⟨x2, hx3, h'⟩ := bind_some h
   clear h
   have h := h'; clear h'
   obtain ⟨b5, o6, hi4, -⟩ := (H.ro 1 rfl).ix hx3
   refine st (v := (pt b5 o6)) (rv_ix Try.underlying23 ti40 rfl rfl hi4) ?_
   obtain ⟨_, ⟨_, _, rfl, rfl, ⟨_, _, rfl, ⟨_, rfl, hR11⟩, rfl⟩⟩, hl7, hc8⟩ := ((H.ro 1 rfl).at hx3 hi4).cells
   obtain ⟨a9, c10, rfl⟩ := hR11.isSl
   replace H := H.add (d := Ch.ro 0 (Sl a9 x2.2.1 c10) x2.2.1) hR11 (fun _ h => h)
   clear hR11
   refine st (v := (.agg #[(I x2.1), (Sl a9 x2.2.1 c10), (I x2.2.2)])) (rv_load Try.underlying40 rfl ti40 rfl hl7 hc8) ?_
   refine st_ex (ex_alloc (cs := [(I 0), (.slice none 0 0), (I 0)]) H hn0 ti40 rfl) wn ?_
   rintro _ σ13 ⟨b12, rfl, H, -⟩
   refine st_exS (ex_store_box (k := 0) (cs := [(I 0), (.slice none 0 0), (I 0)]) (vs := [(I x2.1), (Sl a9 x2.2.1 c10), (I x2.2.2)]) (cs' := [(I x2.1), (Sl a9 x2.2.1 c10), (I x2.2.2)]) H (i := 0) rfl ti40 rfl rfl rfl rfl rfl (Nat.le_of_ble_eq_true rfl) (by simp [plain]) rfl) wn ?_
   rintro σ14 ⟨H, -⟩
   refine w_end ?_
   refine q_then ?_
   refine c_seq ?_
   refine rgP (σ := σ14) 5 (by kernel_rfl) (by kernel_rfl) (by kernel_rfl) ?_
   refine sq (v := (Sl alist_1 list_1 clist_1)) (rv_move rfl) ?_
   obtain ⟨xs15, hx16, h'⟩ := bind_some h
   clear h
   have h := h'; clear h'
   obtain ⟨a17, c18, hs19, hR20⟩ := (H.ro 3 rfl).slice hx16
   replace H := H.add (d := Ch.ro 0 (Sl a17 xs15 c18) xs15) hR20 (fun _ h => h)
   clear hR20
   refine sq (v := (Sl a17 xs15 c18)) (rv_slice_l Try.underlying23 ti40 hs19 rfl rfl) ?_
   refine sq (v := (I kind_2)) (rv_move rfl) ?_
   refine sq (v := (pt b12 1)) (rv_fieldAddr (off := 1) (ft := 24) Try.underlying40 rfl ti24 rfl rfl) ?_
   have hc21 := H.cell (u := (Sl a9 x2.2.1 c10)) (o' := 1) 1 1 rfl rfl rfl
   refine sq (v := (Sl a9 x2.2.1 c10)) (rv_load1 Try.underlying24 rfl rfl hc21) ?_
   refine sq_end ?_
   intro σ22 hm23
   replace H := H.grow (hm23.mono fun _ h => h); clear hm23
   obtain ⟨r24, hx25, h'⟩ := bind_some h
   clear h
   have h := h'; clear h'
   have hc26 := c_spec_byDist (alist_0 := a17) (clist_0 := c18) (aat_2 := a9) (cat_2 := c10) hx25
   refine st_call (cx_call hc26 (ent_f hc26.fn rfl) hn0 (show Hp S0 σ0 _ ([Ch.ro 0 (Sl a17 xs15 c18) xs15, Ch.ro 0 (Sl a9 x2.2.1 c10) x2.2.1] ++ [Ch.ro 0 (Sl a17 xs15 c18) xs15, Ch.bx n0 b12 0 [(I x2.1), (Sl a9 x2.2.1 c10), (I x2.2.2)] [] [], Ch.ro 0 (Sl a9 x2.2.1 c10) x2.2.1, Ch.own 0 0 (Sl anodes_0 nodes_0 cnodes_0) nodes_0, Ch.ro 0 (Sl alist_1 list_1 clist_1) list_1]) from (H.sel' [0, 2, 0, 1, 2, 3, 4] rfl rfl))) wn ?_
   rintro _ σ29 ⟨_, ⟨a27, c28, rfl, rfl⟩, H, -⟩
   replace H : Hp S0 σ0 σ29 [Ch.own n0 0 (Sl a27 r24 c28) r24, Ch.ro 0 (Sl a17 xs15 c18) xs15, Ch.bx n0 b12 0 [(I x2.1), (Sl a9 x2.2.1 c10), (I x2.2.2)] [] [], Ch.ro 0 (Sl a9 x2.2.1 c10) x2.2.1, Ch.own 0 0 (Sl anodes_0 nodes_0 cnodes_0) nodes_0, Ch.ro 0 (Sl alist_1 list_1 clist_1) list_1] := H
   refine st (v := (Sl a27 r24 c28)) (rv_assign rfl) ?_
   refine w_end ?_
   refine q_then ?_
   refine c_seq ?_
   refine rg ?_
   refine st (v := (Sl a27 r24 c28)) (rv_move rfl) ?_
   refine st (v := (I (r24.length : Int))) (rv_len Try.underlying23 rfl) ?_
   refine st (v := (I (w64 ((r24.length : Int) + 1)))) (rv_add (a := (r24.length : Int)) (b := 1) rfl rfl) ?_
   refine st (v := (I (w64 ((w64 ((r24.length : Int) + 1)).tdiv 2)))) (rv_quo (a := (w64 ((r24.length : Int) + 1))) (b := 2) rfl rfl (by decide)) ?_
   refine st (v := (I (w64 ((w64 ((r24.length : Int) + 1)).tdiv 2)))) (rv_assign rfl) ?_
   refine w_end ?_
   refine q_then ?_
   refine c_seq ?_
   refine rg ?_
   refine st (v := (pt b12 0)) (rv_fieldAddr (off := 0) (ft := 3) Try.underlying40 rfl ti3 rfl rfl) ?_
   have hc30 := H.cell (u := (I x2.1)) (o' := 0) 2 0 rfl rfl rfl
   refine st (v := (I x2.1)) (rv_load1 Try.underlying3 rfl rfl hc30) ?_
   refine st (v := (.agg #[(I x2.1), (I 0), (I (-1)), (I (-1))])) (rv_build (ps := [(0, (I x2.1)), (2, (I (-1))), (3, (I (-1)))]) Try.underlying47 ti47 (bp47 Try.underlying47) rfl (by kernel_rfl)) ?_
   refine st_ex (ex_alloc (cs := [(I 0), (I 0), (I 0), (I 0)]) H hn0 ti47 rfl) wn ?_
   rintro _ σ32 ⟨b31, rfl, H, -⟩
   refine st_exS (ex_store_box (k := 0) (cs := [(I 0), (I 0), (I 0), (I 0)]) (vs := [(I x2.1), (I 0), (I (-1)), (I (-1))]) (cs' := [(I x2.1), (I 0), (I (-1)), (I (-1))]) H (i := 0) rfl ti47 rfl rfl rfl rfl rfl (Nat.le_of_ble_eq_true rfl) (by simp [plain]) rfl) wn ?_
   rintro σ33 ⟨H, -⟩
   refine w_end ?_
   refine q_then ?_
   refine c_seq ?_
   refine rg ?_
   refine st (v := (Sl anodes_0 nodes_0 cnodes_0)) (rv_move rfl) ?_
   refine st (v := (I (nodes_0.length : Int))) (rv_len Try.underlying43 rfl) ?_
   refine st (v := (I (nodes_0.length : Int))) (rv_assign rfl) ?_
   refine w_end ?_
   refine q_then ?_
   refine c_seq ?_
   refine rg ?_
   refine st (v := (Sl anodes_0 nodes_0 cnodes_0)) (rv_move rfl) ?_
   have hc34 := H.cells 0 rfl
   refine st (v := (.agg #[(I x2.1), (I 0), (I (-1)), (I (-1))])) (rv_load (cs := [(I x2.1), (I 0), (I (-1)), (I (-1))]) Try.underlying47 rfl ti47 rfl rfl hc34) ?_
   refine st_ex (ex_buildSlice (el := n0) (xs := ([(x2.1, 0, -1, -1)] : List (Int × Int × Int × Int))) (ps := [(0, (.agg #[(I x2.1), (I 0), (I (-1)), (I (-1))]))]) (cs := [(I x2.1), (I 0), (I (-1)), (I (-1))]) H hn0 Try.underlying43 ti47 rfl rfl (by kernel_rfl) (.cons (c := [(I x2.1), (I 0), (I (-1)), (I (-1))]) ⟨[(I x2.1)], [(I 0), (I (-1)), (I (-1))], rfl, rfl, ⟨[(I 0)], [(I (-1)), (I (-1))], rfl, rfl, ⟨[(I (-1))], [(I (-1))], rfl, rfl, rfl⟩⟩⟩ (.nil)) rfl) wn ?_
   rintro _ σ36 ⟨b35, rfl, H, -⟩
   replace H : Hp S0 σ0 σ36 [Ch.own n0 n0 (Sl (some ⟨b35, 0, none⟩) ([(x2.1, 0, -1, -1)] : List (Int × Int × Int × Int)) 1) ([(x2.1, 0, -1, -1)] : List (Int × Int × Int × Int)), Ch.own n0 0 (Sl a27 r24 c28) r24, Ch.bx n0 b12 0 [(I x2.1), (Sl a9 x2.2.1 c10), (I x2.2.2)] [] [], Ch.ro 0 (Sl a9 x2.2.1 c10) x2.2.1, Ch.own 0 0 (Sl anodes_0 nodes_0 cnodes_0) nodes_0] := H.sel' [0, 2, 4, 5, 6] rfl rfl
   obtain ⟨xs37, hx38, h'⟩ := bind_some h
   clear h
   have h := h'; clear h'
   refine st_ex (ex_append H (i := 4) rfl Try.underlying43 Try.underlying43 ti47 rfl rfl (by decide) ((H.own 0 rfl).rd.sc) hx38 (Nat.zero_le _) rfl rfl) wn ?_
   rintro _ σ41 ⟨a39, c40, rfl, H, -⟩
   refine st (v := (Sl a39 xs37 c40)) (rv_assign rfl) ?_
   refine w_end ?_
   refine q_then ?_
   refine c_seq ?_
   refine c_seq ?_
   refine rg ?_
   refine st (v := (I (w64 ((w64 ((r24.length : Int) + 1)).tdiv 2)))) (rv_move rfl) ?_
   refine st (v := (B (decide (0 < (w64 ((w64 ((r24.length : Int) + 1)).tdiv 2)))))) (rv_gtr (a := (w64 ((w64 ((r24.length : Int) + 1)).tdiv 2))) (b := 0) rfl rfl) ?_
   refine w_end ?_
   refine q_then ?_
   obtain ⟨o42, hj, h'⟩ := bind_some h
   clear h
   refine c_cut (fun e a w => e = .normal ∧ ∃ (ρ : Nat → Value) (σ : St) (aj1 : Option Addr) (cj2 : Nat), a = fr 83 (updL ρ [(0, (Sl aj1 o42 cj2)), (2, (I kind_2)), (8, (Sl a27 r24 c28)), (9, (I (w64 ((w64 ((r24.length : Int) + 1)).tdiv 2)))), (11, (I (nodes_0.length : Int)))]) ∧ w = σ.w ∧ Hp S0 σ0 σ [Ch.own 0 0 (Sl aj1 o42 cj2) o42, Ch.ro 0 (Sl a27 r24 c28) r24]) ?_ ?_
   ·clear h'
    rename _ = some o42 => h
    refine cd_cond (decide (0 < (w64 ((w64 ((r24.length : Int) + 1)).tdiv 2)))) rfl (fun hb43 => ?_) (fun hb43 => ?_)
    ·replace h := bif_t hb43 h
     refine c_seq ?_
     obtain ⟨x44, hx45, h'⟩ := bind_some h
     clear h
     have h := h'; clear h'
     obtain ⟨b47, o48, hi46, -⟩ := (H.own 2 rfl).ix hx45
     obtain ⟨v52, hc53, hR51⟩ := ((H.own 2 rfl).at hx45 hi46).snd.fst.slice
     obtain ⟨a49, c50, rfl⟩ := hR51.isSl
     replace H := H.add (d := Ch.ro 0 (Sl a49 x44.2.1 c50) x44.2.1) hR51 (fun _ h => h)
     clear hR51
     have hc54 := H.cell (u := (Sl a9 x2.2.1 c10)) (o' := 1) 4 1 rfl rfl rfl
     obtain ⟨r55, hx56, h'⟩ := bind_some h
     clear h
     have h := h'; clear h'
     have hc57 := c_spec_dist (aa_1 := a49) (ca_1 := c50) (ab_2 := a9) (cb_2 := c10) hx56
     have Hs := H
     refine rg2 (σ := σ41) (Nm := Unit) 12 [11] [[false], [true]] [[(0, 0), (1, 1)], [(0, 0), (1, 1)], [(0, 0)], [(0, 0)], [(0, 0)], [(0, 0)], [(0, 0)], [(0, 0)], [(0, 0)], [(0, 0)], [(0, 0)], [(0, 1)]] 1 [fun _ => fun σm => Hp S0 σ0 σm [Ch.ro 0 (Sl a49 x44.2.1 c50) x44.2.1, Ch.own 0 0 (Sl a39 xs37 c40) xs37, Ch.own n0 n0 (Sl (some ⟨b35, 0, none⟩) ([(x2.1, 0, -1, -1)] : List (Int × Int × Int × Int)) 1) ([(x2.1, 0, -1, -1)] : List (Int × Int × Int × Int)), Ch.own n0 0 (Sl a27 r24 c28) r24, Ch.bx n0 b12 0 [(I x2.1), (Sl a9 x2.2.1 c10), (I x2.2.2)] [] [], Ch.ro 0 (Sl a9 x2.2.1 c10) x2.2.1] ∧ Md (cov []) σ41 σm, fun _ => fun σm => Hp S0 σ0 σm [Ch.ro 0 (Sl a49 x44.2.1 c50) x44.2.1, Ch.own 0 0 (Sl a39 xs37 c40) xs37, Ch.own n0 n0 (Sl (some ⟨b35, 0, none⟩) ([(x2.1, 0, -1, -1)] : List (Int × Int × Int × Int)) 1) ([(x2.1, 0, -1, -1)] : List (Int × Int × Int × Int)), Ch.own n0 0 (Sl a27 r24 c28) r24, Ch.bx n0 b12 0 [(I x2.1), (Sl a9 x2.2.1 c10), (I x2.2.2)] [] [], Ch.ro 0 (Sl a9 x2.2.1 c10) x2.2.1] ∧ Md (cov []) σ41 σm] [fun _ => (Sl a39 xs37 c40), fun _ => (I (nodes_0.length : Int)), fun _ => (I kind_2), fun _ => (Sl a27 r24 c28), fun _ => (I (w64 ((w64 ((r24.length : Int) + 1)).tdiv 2))), fun _ => (I (w64 ((w64 ((w64 ((r24.length : Int) + 1)).tdiv 2)) - 1))), fun _ => (pt b47 o48), fun _ => (pt b47 (o48 + 1)), fun _ => (Sl a49 x44.2.1 c50), fun _ => (pt b12 1), fun _ => (Sl a9 x2.2.1 c10), fun _ => (I r55)] () (by kernel_rfl) (by kernel_rfl) ?_ ?_ ?_
     ·intro σm m0
      exact ⟨H.grow (m0.mono fun _ h => h.elim), m0⟩
     ·refine ac rfl (by
        intro k _nm ρ σm hJ hoff hdep
        have e0 := look_off (N := 83) (hoff 0 rfl) rfl
        exact dp_v (v := (Sl a39 xs37 c40)) wn (rv_move e0) rfl hJ) ?_
      refine ac rfl (by
        intro k _nm ρ σm hJ hoff hdep
        have e11 := look_off (N := 83) (hoff 11 rfl) rfl
        exact dp_v (v := (I (nodes_0.length : Int))) wn (rv_move e11) rfl hJ) ?_
      refine ac rfl (by
        intro k _nm ρ σm hJ hoff hdep
        have e2 := look_off (N := 83) (hoff 2 rfl) rfl
        exact dp_v (v := (I kind_2)) wn (rv_move e2) rfl hJ) ?_
      refine ac rfl (by
        intro k _nm ρ σm hJ hoff hdep
        have e8 := look_off (N := 83) (hoff 8 rfl) rfl
        exact dp_v (v := (Sl a27 r24 c28)) wn (rv_move e8) rfl hJ) ?_
      refine ac rfl (by
        intro k _nm ρ σm hJ hoff hdep
        have e9 := look_off (N := 83) (hoff 9 rfl) rfl
        exact dp_v (v := (I (w64 ((w64 ((r24.length : Int) + 1)).tdiv 2)))) wn (rv_move e9) rfl hJ) ?_
      refine ac rfl (by
        intro k _nm ρ σm hJ hoff hdep
        have e44 := hdep 4 rfl rfl 44 rfl
        exact dp_v (v := (I (w64 ((w64 ((w64 ((r24.length : Int) + 1)).tdiv 2)) - 1)))) wn (rv_sub (a := (w64 ((w64 ((r24.length : Int) + 1)).tdiv 2))) (b := 1) e44 rfl) rfl hJ) ?_
      refine ac rfl (by
        intro k _nm ρ σm hJ hoff hdep
        have e43 := hdep 3 rfl rfl 43 rfl
        have e45 := hdep 5 rfl rfl 45 rfl
        exact dp_v (v := (pt b47 o48)) wn (rv_ix Try.underlying23 ti40 e43 e45 hi46) rfl hJ) ?_
      refine ac rfl (by
        intro k _nm ρ σm hJ hoff hdep
        have e46 := hdep 6 rfl rfl 46 rfl
        exact dp_v (v := (pt b47 (o48 + 1))) wn (rv_fieldAddr (off := 1) (ft := 24) Try.underlying40 rfl ti24 rfl e46) rfl hJ) ?_
      refine all_cons (by
        refine ⟨?_, ?_⟩
        ·intro _nm ρ σm hJ hoff hdep
         have e47 := hdep 7 rfl rfl 47 rfl
         obtain ⟨H, m⟩ := id hJ
         replace hc53 := m.hcell hc53 nocov
         exact dp_v (v := (Sl a49 x44.2.1 c50)) wn (rv_load1 Try.underlying24 rfl e47 hc53) rfl hJ
        trivial) ?_
      refine ac rfl (by
        intro k _nm ρ σm hJ hoff hdep
        have e7 := look_off (N := 83) (hoff 7 rfl) rfl
        exact dp_v (v := (pt b12 1)) wn (rv_fieldAddr (off := 1) (ft := 24) Try.underlying40 rfl ti24 rfl e7) rfl hJ) ?_
      refine all_cons (by
        refine ⟨?_, ?_⟩
        ·intro _nm ρ σm hJ hoff hdep
         have e49 := hdep 9 rfl rfl 49 rfl
         obtain ⟨H, m⟩ := id hJ
         have hc54 := H.cell (u := (Sl a9 x2.2.1 c10)) (o' := 1) 4 1 rfl rfl rfl
         exact dp_v (v := (Sl a9 x2.2.1 c10)) wn (rv_load1 Try.underlying24 rfl e49 hc54) rfl hJ
        trivial) ?_
      refine all_cons (by
        refine ⟨?_, ?_⟩
        ·intro _nm ρ σm hJ hoff hdep
         have e42 : look 83 ρ 42 = (I kind_2) := hdep 2 rfl rfl 42 rfl
         have e48 : look 83 ρ 48 = (Sl a49 x44.2.1 c50) := hdep 8 rfl rfl 48 rfl
         have e50 : look 83 ρ 50 = (Sl a9 x2.2.1 c10) := hdep 10 rfl rfl 50 rfl
         obtain ⟨H, m⟩ := id hJ
         refine dp_cx wn (cx_call hc57 (ent_f hc57.fn (by show [look 83 ρ 42, look 83 ρ 48, look 83 ρ 50] = _; rw [e42, e48, e50])) hn0 (show Hp S0 σ0 _ ([Ch.ro 0 (Sl a49 x44.2.1 c50) x44.2.1, Ch.ro 0 (Sl a9 x2.2.1 c10) x2.2.1] ++ [Ch.ro 0 (Sl a49 x44.2.1 c50) x44.2.1, Ch.own 0 0 (Sl a39 xs37 c40) xs37, Ch.own n0 n0 (Sl (some ⟨b35, 0, none⟩) ([(x2.1, 0, -1, -1)] : List (Int × Int × Int × Int)) 1) ([(x2.1, 0, -1, -1)] : List (Int × Int × Int × Int)), Ch.own n0 0 (Sl a27 r24 c28) r24, Ch.bx n0 b12 0 [(I x2.1), (Sl a9 x2.2.1 c10), (I x2.2.2)] [] [], Ch.ro 0 (Sl a9 x2.2.1 c10) x2.2.1]) from (H.sel' [0, 5, 0, 1, 2, 3, 4, 5] rfl rfl))) ?_
         rintro _ σq ⟨_, ⟨rfl, rfl⟩, H2, m2⟩
         exact ⟨_, (), rfl, rfl, ⟨H2.sel' [0, 1, 2, 3, 4, 5] rfl rfl, m.comp0 (m2.mono (fun i h => by simp [cov, Ch.ro] at h))⟩, stab [0, 1, 2, 3, 4, 5, 6, 7, 8, 9, 10] (by kernel_rfl) ⟨rfl, rfl, rfl, rfl, rfl, rfl, rfl, rfl, rfl, rfl, rfl, trivial⟩⟩
        trivial) ?_
      exact all_nil
     ·intro _nm ρ σ58 hJ hoff hrel
      have e0 := look_off (N := 83) (hoff 0 rfl) rfl
      have e2 := look_off (N := 83) (hoff 2 rfl) rfl
      have e8 := look_off (N := 83) (hoff 8 rfl) rfl
      have e9 := look_off (N := 83) (hoff 9 rfl) rfl
      have e11 := look_off (N := 83) (hoff 11 rfl) rfl
      have e40 := hrel 0 rfl 40 rfl
      have e41 := hrel 1 rfl 41 rfl
      have e51 := hrel 11 rfl 51 rfl
      obtain ⟨H, -⟩ := (show Hp S0 σ0 σ58 [Ch.ro 0 (Sl a49 x44.2.1 c50) x44.2.1, Ch.own 0 0 (Sl a39 xs37 c40) xs37, Ch.own n0 n0 (Sl (some ⟨b35, 0, none⟩) ([(x2.1, 0, -1, -1)] : List (Int × Int × Int × Int)) 1) ([(x2.1, 0, -1, -1)] : List (Int × Int × Int × Int)), Ch.own n0 0 (Sl a27 r24 c28) r24, Ch.bx n0 b12 0 [(I x2.1), (Sl a9 x2.2.1 c10), (I x2.2.2)] [] [], Ch.ro 0 (Sl a9 x2.2.1 c10) x2.2.1] ∧ Md (cov []) σ41 σ58 from hJ)
      clear hJ Hs
      rw [fr_lookL (L := [(0, (Sl a39 xs37 c40)), (2, (I kind_2)), (8, (Sl a27 r24 c28)), (9, (I (w64 ((w64 ((r24.length : Int) + 1)).tdiv 2)))), (11, (I (nodes_0.length : Int))), (40, (Sl a39 xs37 c40)), (41, (I (nodes_0.length : Int))), (51, (I r55))]) ⟨e0, e2, e8, e9, e11, e40, e41, e51, trivial⟩]
      clear hoff hrel e0 e2 e8 e9 e11 e40 e41 e51
      obtain ⟨x59, hx60, h'⟩ := bind_some h
      clear h
      have h := h'; clear h'
      obtain ⟨b62, o63, hi61, -⟩ := (H.own 1 rfl).ix hx60
      refine st (v := (pt b62 o63)) (rv_ix Try.underlying43 ti47 rfl rfl hi61) ?_
      refine st (v := (pt b62 (o63 + 1))) (rv_fieldAddr (off := 1) (ft := 3) Try.underlying47 rfl ti3 rfl rfl) ?_
      refine st_exS (ex_store_own (e' := (x59.1, r55, x59.2.2.1, x59.2.2.2)) (vs := [(I r55)]) (k := 1) H (i := 1) rfl ti3 hx60 hi61 rfl rfl rfl rfl rfl (Nat.le_of_ble_eq_true rfl) (by simp [plain]) (by rintro _ ⟨_, _, rfl, rfl, ⟨_, _, rfl, rfl, ⟨_, _, rfl, rfl, rfl⟩⟩⟩; exact ⟨[(I x59.1)], [(I r55), (I x59.2.2.1), (I x59.2.2.2)], rfl, rfl, ⟨[(I r55)], [(I x59.2.2.1), (I x59.2.2.2)], rfl, rfl, ⟨[(I x59.2.2.1)], [(I x59.2.2.2)], rfl, rfl, rfl⟩⟩⟩)) wn ?_
      rintro σ64 ⟨H, -⟩
      have hsl : (Sl a39 xs37 c40) = (Sl a39 (xs37.set (nodes_0.length : Int).toNat (x59.1, r55, x59.2.2.1, x59.2.2.2)) c40) := sl_len List.length_set.symm
      rw [hsl]; rw [hsl] at H; clear hsl
      refine w_end ?_
      refine q_then ?_
      refine c_seq ?_
      refine rg ?_
      refine st (v := (Sl a39 (xs37.set (nodes_0.length : Int).toNat (x59.1, r55, x59.2.2.1, x59.2.2.2)) c40)) (rv_move rfl) ?_
      refine st (v := (I (nodes_0.length : Int))) (rv_move rfl) ?_
      refine st (v := (Sl a39 (xs37.set (nodes_0.length : Int).toNat (x59.1, r55, x59.2.2.1, x59.2.2.2)) c40)) (rv_move rfl) ?_
      refine st (v := (I ((xs37.set (nodes_0.length : Int).toNat (x59.1, r55, x59.2.2.1, x59.2.2.2)).length : Int))) (rv_len Try.underlying43 rfl) ?_
      obtain ⟨x65, hx66, h'⟩ := bind_some h
      clear h
      have h := h'; clear h'
      obtain ⟨b68, o69, hi67, -⟩ := (H.own 0 rfl).ix hx66
      refine st (v := (pt b68 o69)) (rv_ix Try.underlying43 ti47 rfl rfl hi67) ?_
      refine st (v := (pt b68 (o69 + 2))) (rv_fieldAddr (off := 2) (ft := 3) Try.underlying47 rfl ti3 rfl rfl) ?_
      refine st_exS (ex_store_own (e' := (x65.1, x65.2.1, ((xs37.set (nodes_0.length : Int).toNat (x59.1, r55, x59.2.2.1, x59.2.2.2)).length : Int), x65.2.2.2)) (vs := [(I ((xs37.set (nodes_0.length : Int).toNat (x59.1, r55, x59.2.2.1, x59.2.2.2)).length : Int))]) (k := 2) H (i := 0) rfl ti3 hx66 hi67 rfl rfl rfl rfl rfl (Nat.le_of_ble_eq_true rfl) (by simp [plain]) (by rintro _ ⟨_, _, rfl, rfl, ⟨_, _, rfl, rfl, ⟨_, _, rfl, rfl, rfl⟩⟩⟩; exact ⟨[(I x65.1)], [(I x65.2.1), (I ((xs37.set (nodes_0.length : Int).toNat (x59.1, r55, x59.2.2.1, x59.2.2.2)).length : Int)), (I x65.2.2.2)], rfl, rfl, ⟨[(I x65.2.1)], [(I ((xs37.set (nodes_0.length : Int).toNat (x59.1, r55, x59.2.2.1, x59.2.2.2)).length : Int)), (I x65.2.2.2)], rfl, rfl, ⟨[(I ((xs37.set (nodes_0.length : Int).toNat (x59.1, r55, x59.2.2.1, x59.2.2.2)).length : Int))], [(I x65.2.2.2)], rfl, rfl, rfl⟩⟩⟩)) wn ?_
      rintro σ70 ⟨H, -⟩
      have hsl : (Sl a39 (xs37.set (nodes_0.length : Int).toNat (x59.1, r55, x59.2.2.1, x59.2.2.2)) c40) = (Sl a39 ((xs37.set (nodes_0.length : Int).toNat (x59.1, r55, x59.2.2.1, x59.2.2.2)).set (nodes_0.length : Int).toNat (x65.1, x65.2.1, ((xs37.set (nodes_0.length : Int).toNat (x59.1, r55, x59.2.2.1, x59.2.2.2)).length : Int), x65.2.2.2)) c40) := sl_len List.length_set.symm
      rw [hsl]; rw [hsl] at H; clear hsl
      refine w_end ?_
      refine q_then ?_
      refine rg ?_
      refine st (v := (Sl a39 ((xs37.set (nodes_0.length : Int).toNat (x59.1, r55, x59.2.2.1, x59.2.2.2)).set (nodes_0.length : Int).toNat (x65.1, x65.2.1, ((xs37.set (nodes_0.length : Int).toNat (x59.1, r55, x59.2.2.1, x59.2.2.2)).length : Int), x65.2.2.2)) c40)) (rv_move rfl) ?_
      refine st (v := (Sl a27 r24 c28)) (rv_move rfl) ?_
      refine st (v := (I (w64 ((w64 ((r24.length : Int) + 1)).tdiv 2)))) (rv_move rfl) ?_
      obtain ⟨xs71, hx72, h'⟩ := bind_some h
      clear h
      have h := h'; clear h'
      obtain ⟨σ77, hw78, H, -⟩ := H.pub 3 rfl (Nat.zero_le _)
      rw [← hw78]; clear hw78
      obtain ⟨a73, c74, hs75, hR76⟩ := (H.ro 0 rfl).slice hx72
      replace H := H.add (d := Ch.ro 0 (Sl a73 xs71 c74) xs71) hR76 (fun _ h => h)
      clear hR76
      refine st (v := (Sl a73 xs71 c74)) (rv_slice_h Try.underlying23 ti40 hs75 rfl rfl) ?_
      refine st (v := (I kind_2)) (rv_move rfl) ?_
      obtain ⟨r79, hx80, h'⟩ := bind_some h
      clear h
      have h := h'; clear h'
      have hc81 := ih (anodes_0 := a39) (cnodes_0 := c40) (alist_1 := a73) (clist_1 := c74) hx80
      refine st_call (cx_call hc81 (ent_f hc81.fn rfl) hn0 (show Hp S0 σ0 _ ([Ch.own 0 0 (Sl a39 ((xs37.set (nodes_0.length : Int).toNat (x59.1, r55, x59.2.2.1, x59.2.2.2)).set (nodes_0.length : Int).toNat (x65.1, x65.2.1, ((xs37.set (nodes_0.length : Int).toNat (x59.1, r55, x59.2.2.1, x59.2.2.2)).length : Int), x65.2.2.2)) c40) ((xs37.set (nodes_0.length : Int).toNat (x59.1, r55, x59.2.2.1, x59.2.2.2)).set (nodes_0.length : Int).toNat (x65.1, x65.2.1, ((xs37.set (nodes_0.length : Int).toNat (x59.1, r55, x59.2.2.1, x59.2.2.2)).length : Int), x65.2.2.2)), Ch.ro 0 (Sl a73 xs71 c74) xs71] ++ [Ch.ro 0 (Sl a73 xs71 c74) xs71, Ch.ro 0 (Sl a27 r24 c28) r24, Ch.ro 0 (Sl a49 x44.2.1 c50) x44.2.1, Ch.own n0 n0 (Sl (some ⟨b35, 0, none⟩) ([(x2.1, 0, -1, -1)] : List (Int × Int × Int × Int)) 1) ([(x2.1, 0, -1, -1)] : List (Int × Int × Int × Int)), Ch.bx n0 b12 0 [(I x2.1), (Sl a9 x2.2.1 c10), (I x2.2.2)] [] [], Ch.ro 0 (Sl a9 x2.2.1 c10) x2.2.1]) from (H.sel' [2, 0, 0, 1, 3, 4, 5, 6] rfl rfl))) wn ?_
      rintro _ σ84 ⟨_, ⟨a82, c83, rfl, rfl⟩, H, -⟩
      replace H : Hp S0 σ0 σ84 [Ch.own 0 n0 (Sl a82 r79 c83) r79, Ch.ro 0 (Sl a73 xs71 c74) xs71, Ch.ro 0 (Sl a27 r24 c28) r24, Ch.ro 0 (Sl a49 x44.2.1 c50) x44.2.1, Ch.own n0 n0 (Sl (some ⟨b35, 0, none⟩) ([(x2.1, 0, -1, -1)] : List (Int × Int × Int × Int)) 1) ([(x2.1, 0, -1, -1)] : List (Int × Int × Int × Int)), Ch.bx n0 b12 0 [(I x2.1), (Sl a9 x2.2.1 c10), (I x2.2.2)] [] [], Ch.ro 0 (Sl a9 x2.2.1 c10) x2.2.1] := H
      refine st (v := (Sl a82 r79 c83)) (rv_assign rfl) ?_
      refine w_end ?_
      replace H := H.ownSc 0 0 0 rfl (Nat.le_refl _)
      obtain rfl := Option.some.inj h
      exact ⟨rfl, _, σ84, a82, c83, fr_join ⟨rfl, rfl, rfl, rfl, rfl, trivial⟩, rfl, H.sel' [0, 2] rfl rfl⟩
    ·replace h := bif_f hb43 h
     refine c_skip ?_
     obtain ⟨σ85, hw86, H, -⟩ := H.pub 2 rfl (Nat.zero_le _)
     rw [← hw86]; clear hw86
     obtain rfl := Option.some.inj h
     exact ⟨rfl, _, σ85, a39, c40, fr_join ⟨rfl, rfl, rfl, rfl, rfl, trivial⟩, rfl, H.sel' [1, 0] rfl rfl⟩
   ·clear hj
    have h := h'
    clear h' H
    rintro e a w ⟨rfl, ρ, σ87, a88, c89, rfl, rfl, H⟩
    refine q_then ?_
    refine c_seq ?_
    refine c_seq ?_
    refine rg ?_
    refine st (v := (I (w64 ((w64 ((r24.length : Int) + 1)).tdiv 2)))) (rv_move rfl) ?_
    refine st (v := (Sl a27 r24 c28)) (rv_move rfl) ?_
    refine st (v := (I (r24.length : Int))) (rv_len Try.underlying23 rfl) ?_
    refine st (v := (B (decide ((w64 ((w64 ((r24.length : Int) + 1)).tdiv 2)) < (r24.length : Int))))) (rv_lss (a := (w64 ((w64 ((r24.length : Int) + 1)).tdiv 2))) (b := (r24.length : Int)) rfl rfl) ?_
    refine w_end ?_
    refine q_then ?_
    obtain ⟨o90, hj, h'⟩ := bind_some h
    clear h
    refine c_cut (fun e a w => e = .normal ∧ ∃ (ρ : Nat → Value) (σ : St) (aj1 : Option Addr) (cj2 : Nat), a = fr 83 (updL ρ [(0, (Sl aj1 o90 cj2))]) ∧ w = σ.w ∧ Hp S0 σ0 σ [Ch.own 0 0 (Sl aj1 o90 cj2) o90]) ?_ ?_
    ·clear h'
     rename _ = some o90 => h
     refine cd_cond (decide ((w64 ((w64 ((r24.length : Int) + 1)).tdiv 2)) < (r24.length : Int))) rfl (fun hb91 => ?_) (fun hb91 => ?_)
     ·replace h := bif_t hb91 h
      refine c_seq ?_
      refine rg ?_
      refine st (v := (Sl a88 o42 c89)) (rv_move rfl) ?_
      refine st (v := (I (nodes_0.length : Int))) (rv_move rfl) ?_
      refine st (v := (Sl a88 o42 c89)) (rv_move rfl) ?_
      refine st (v := (I (o42.length : Int))) (rv_len Try.underlying43 rfl) ?_
      obtain ⟨x92, hx93, h'⟩ := bind_some h
      clear h
      have h := h'; clear h'
      obtain ⟨b95, o96, hi94, -⟩ := (H.own 0 rfl).ix hx93
      refine st (v := (pt b95 o96)) (rv_ix Try.underlying43 ti47 rfl rfl hi94) ?_
      refine st (v := (pt b95 (o96 + 3))) (rv_fieldAddr (off := 3) (ft := 3) Try.underlying47 rfl ti3 rfl rfl) ?_
      refine st_exS (ex_store_own (e' := (x92.1, x92.2.1, x92.2.2.1, (o42.length : Int))) (vs := [(I (o42.length : Int))]) (k := 3) H (i := 0) rfl ti3 hx93 hi94 rfl rfl rfl rfl rfl (Nat.le_of_ble_eq_true rfl) (by simp [plain]) (by rintro _ ⟨_, _, rfl, rfl, ⟨_, _, rfl, rfl, ⟨_, _, rfl, rfl, rfl⟩⟩⟩; exact ⟨[(I x92.1)], [(I x92.2.1), (I x92.2.2.1), (I (o42.length : Int))], rfl, rfl, ⟨[(I x92.2.1)], [(I x92.2.2.1), (I (o42.length : Int))], rfl, rfl, ⟨[(I x92.2.2.1)], [(I (o42.length : Int))], rfl, rfl, rfl⟩⟩⟩)) wn ?_
      rintro σ97 ⟨H, -⟩
      have hsl : (Sl a88 o42 c89) = (Sl a88 (o42.set (nodes_0.length : Int).toNat (x92.1, x92.2.1, x92.2.2.1, (o42.length : Int))) c89) := sl_len List.length_set.symm
      rw [hsl]; rw [hsl] at H; clear hsl
      refine w_end ?_
      refine q_then ?_
      refine rg ?_
      refine st (v := (Sl a88 (o42.set (nodes_0.length : Int).toNat (x92.1, x92.2.1, x92.2.2.1, (o42.length : Int))) c89)) (rv_move rfl) ?_
      refine st (v := (Sl a27 r24 c28)) (rv_move rfl) ?_
      refine st (v := (I (w64 ((w64 ((r24.length : Int) + 1)).tdiv 2)))) (rv_move rfl) ?_
      obtain ⟨xs98, hx99, h'⟩ := bind_some h
      clear h
      have h := h'; clear h'
      obtain ⟨a100, c101, hs102, hR103⟩ := (H.ro 1 rfl).slice hx99
      replace H := H.add (d := Ch.ro 0 (Sl a100 xs98 c101) xs98) hR103 (fun _ h => h)
      clear hR103
      refine st (v := (Sl a100 xs98 c101)) (rv_slice_l Try.underlying23 ti40 hs102 rfl rfl) ?_
      refine st (v := (I kind_2)) (rv_move rfl) ?_
      obtain ⟨r104, hx105, h'⟩ := bind_some h
      clear h
      have h := h'; clear h'
      have hc106 := ih (anodes_0 := a88) (cnodes_0 := c89) (alist_1 := a100) (clist_1 := c101) hx105
      refine st_call (cx_call hc106 (ent_f hc106.fn rfl) hn0 (show Hp S0 σ0 _ ([Ch.own 0 0 (Sl a88 (o42.set (nodes_0.length : Int).toNat (x92.1, x92.2.1, x92.2.2.1, (o42.length : Int))) c89) (o42.set (nodes_0.length : Int).toNat (x92.1, x92.2.1, x92.2.2.1, (o42.length : Int))), Ch.ro 0 (Sl a100 xs98 c101) xs98] ++ [Ch.ro 0 (Sl a100 xs98 c101) xs98, Ch.ro 0 (Sl a27 r24 c28) r24]) from (H.sel' [1, 0, 0, 2] rfl rfl))) wn ?_
      rintro _ σ109 ⟨_, ⟨a107, c108, rfl, rfl⟩, H, -⟩
      replace H : Hp S0 σ0 σ109 [Ch.own 0 n0 (Sl a107 r104 c108) r104, Ch.ro 0 (Sl a100 xs98 c101) xs98, Ch.ro 0 (Sl a27 r24 c28) r24] := H
      refine st (v := (Sl a107 r104 c108)) (rv_assign rfl) ?_
      refine w_end ?_
      replace H := H.ownSc 0 0 0 rfl (Nat.le_refl _)
      obtain rfl := Option.some.inj h
      exact ⟨rfl, _, σ109, a107, c108, fr_join ⟨rfl, trivial⟩, rfl, H.sel' [0] rfl rfl⟩
     ·replace h := bif_f hb91 h
      refine c_skip ?_
      obtain rfl := Option.some.inj h
      exact ⟨rfl, _, σ87, a88, c89, fr_join ⟨rfl, trivial⟩, rfl, H.sel' [0] rfl rfl⟩
    ·clear hj
     have h := h'
     clear h' H
     rintro e a w ⟨rfl, ρ, σ110, a111, c112, rfl, rfl, H⟩
     refine q_then ?_
     refine c_seq ?_
     refine rg ?_
     refine st (v := (Sl a111 o90 c112)) (rv_move rfl) ?_
     refine st (v := (Sl a111 o90 c112)) (rv_assign rfl) ?_
     refine w_end ?_
     refine q_then ?_
     refine c_ret ?_
     replace H := H.ownSc 0 0 n0 rfl (Nat.le_refl _)
     obtain rfl := Option.some.inj h
     exact fin_ret (v := (Sl a111 o90 c112)) (results_ok Try.results86 (res_tmp (v := (Sl a111 o90 c112)) rfl res_nil) rfl) ⟨a111, c112, rfl, rfl⟩ (H.sel' [0] rfl rfl)

theorem c_spec_BuildTree {list_0 : List (Int × (List Int) × Int)} {kind_1 : Int} {alist_0 : Option Addr} {clist_0 : Nat} {r : (List (Int × Int × Int × Int))} (h : M.spec_BuildTree list_0 kind_1 = some r) :
    Cal2 Try.prog 29 [(Sl alist_0 list_0 clist_0), (I kind_1)] [Ch.ro 0 (Sl alist_0 list_0 clist_0) list_0] (fun n0 v L => ∃ (az1 : Option Addr), ∃ (cz2 : Nat), v = (Sl az1 r cz2) ∧ L = [Ch.own 0 n0 (Sl az1 r cz2) r]) := by
 refine cal2 (n := 17) Try.func29 rfl rfl rfl rfl ?_
 intro S0 σ0 n0 hn0 H
 unfold M.spec_BuildTree at h
 refine c_seq ?_
 refine rg ?_
 refine st (v := (.slice none 0 0)) (rv_assign rfl) ?_
 refine w_end ?_
 refine q_then ?_
 refine c_seq ?_
 refine c_seq ?_
 obtain ⟨o1, hj, h'⟩ := bind_some h
 clear h
 refine c_cut (fun e a w => e = .normal ∧ ∃ (ρ : Nat → Value) (σ : St), a = fr 17 (updL ρ [(0, (Sl alist_0 list_0 clist_0)), (1, (I kind_1)), (12, (B o1))]) ∧ w = σ.w ∧ Hp S0 σ0 σ [Ch.ro 0 (Sl alist_0 list_0 clist_0) list_0]) ?_ ?_
 ·clear h'
  rename _ = some o1 => h
  refine rg ?_
  refine st (v := (Sl alist_0 list_0 clist_0)) (rv_move rfl) ?_
  obtain ⟨r2, hx3, h'⟩ := bind_some h
  clear h
  have h := h'; clear h'
  have hc4 := c_spec_validStore (alist_0 := alist_0) (clist_0 := clist_0) hx3
  refine st_call (cx_call hc4 (ent_f hc4.fn rfl) hn0 (show Hp S0 σ0 _ ([Ch.ro 0 (Sl alist_0 list_0 clist_0) list_0] ++ [Ch.ro 0 (Sl alist_0 list_0 clist_0) list_0]) from (H.sel' [0, 0] rfl rfl))) wn ?_
  rintro _ σ5 ⟨_, ⟨rfl, rfl⟩, H, -⟩
  replace H : Hp S0 σ0 σ5 [Ch.ro 0 (Sl alist_0 list_0 clist_0) list_0] := H
  refine st (v := (B (!r2))) (rv_not rfl) ?_
  refine st (v := (B (!r2))) (rv_move rfl) ?_
  rcases Bool.eq_false_or_eq_true (!r2) with hb6 | hb6
  ·replace h := bif_t hb6 h
   refine st_skip (congrArg some hb6) ?_
   refine st_skip (congrArg some hb6) ?_
   refine st_skip (congrArg some hb6) ?_
   refine st (v := (B true)) (rv_pick_t (congrArg B hb6) rfl) ?_
   refine w_end ?_
   obtain rfl := Option.some.inj h
   exact ⟨rfl, _, σ5, fr_join ⟨rfl, rfl, rfl, trivial⟩, rfl, H.sel' [0] rfl rfl⟩
  ·replace h := bif_f hb6 h
   refine st_g (v := (I kind_1)) (congrArg some hb6) (rv_move rfl) ?_
   obtain ⟨r7, hx8, h'⟩ := bind_some h
   clear h
   have h := h'; clear h'
   have hc9 := c_spec_isMetric hx8
   refine st_call (cx_call hc9 (ent_f hc9.fn rfl) hn0 (show Hp S0 σ0 _ ([] ++ [Ch.ro 0 (Sl alist_0 list_0 clist_0) list_0]) from (H.sel' [0] rfl rfl))) (wanted_yes rfl (by exact (congrArg some hb6))) ?_
   rintro _ σ10 ⟨_, ⟨rfl, rfl⟩, H, -⟩
   replace H : Hp S0 σ0 σ10 [Ch.ro 0 (Sl alist_0 list_0 clist_0) list_0] := H
   refine st_g (v := (B (!r7))) (congrArg some hb6) (rv_not rfl) ?_
   refine st (v := (B (!r7))) (rv_pick_f (congrArg B hb6) rfl) ?_
   refine w_end ?_
   obtain rfl := Option.some.inj h
   exact ⟨rfl, _, σ10, fr_join ⟨rfl, rfl, rfl, trivial⟩, rfl, H.sel' [0] rfl rfl⟩
 ·clear hj
  have h := h'
  clear h' H
  rintro e a w ⟨rfl, ρ, σ11, rfl, rfl, H⟩
  refine q_then ?_
  refine cd_cond o1 rfl (fun hb12 => ?_) (fun hb12 => ?_)
  ·replace h := bif_t hb12 h
   refine c_seq ?_
   refine rg ?_
   refine st (v := (.slice none 0 0)) (rv_assign rfl) ?_
   refine w_end ?_
   refine q_then ?_
   refine c_ret ?_
   refine q_then_r ?_
   replace H := H.nilOwn (Int × Int × Int × Int) 0 n0
   obtain rfl := Option.some.inj h
   exact fin_ret (v := (.slice none 0 0)) (results_ok Try.results29 (res_tmp (v := (.slice none 0 0)) rfl res_nil) rfl) ⟨none, 0, rfl, rfl⟩ (H.sel' [0] rfl rfl)
  ·replace h := bif_f hb12 h
   refine c_skip ?_
   refine q_then ?_
   refine c_seq ?_
   refine rg ?_
   refine st_ex (ex_buildSlice (el := n0) (xs := ([] : List (Int × Int × Int × Int))) (ps := []) (cs := []) H hn0 Try.underlying43 ti47 rfl rfl (by kernel_rfl) (.nil) rfl) wn ?_
   rintro _ σ14 ⟨b13, rfl, H, -⟩
   refine st (v := (Sl alist_0 list_0 clist_0)) (rv_move rfl) ?_
   refine st (v := (I kind_1)) (rv_move rfl) ?_
   replace H := H.ownLow 0 0 0 rfl (Nat.zero_le _) (Nat.zero_le _)
   obtain ⟨r15, hx16, h'⟩ := bind_some h
   clear h
   have h := h'; clear h'
   have hc17 := c_spec_grow 100 (anodes_0 := (some ⟨b13, 0, none⟩)) (cnodes_0 := 0) (alist_1 := alist_0) (clist_1 := clist_0) hx16
   refine st_call (cx_call hc17 (ent_f hc17.fn rfl) hn0 (show Hp S0 σ0 _ ([Ch.own 0 0 (Sl (some ⟨b13, 0, none⟩) ([] : List (Int × Int × Int × Int)) 0) ([] : List (Int × Int × Int × Int)), Ch.ro 0 (Sl alist_0 list_0 clist_0) list_0] ++ [Ch.ro 0 (Sl alist_0 list_0 clist_0) list_0]) from (H.sel' [0, 1, 1] rfl rfl))) wn ?_
   rintro _ σ20 ⟨_, ⟨a18, c19, rfl, rfl⟩, H, -⟩
   replace H : Hp S0 σ0 σ20 [Ch.own 0 n0 (Sl a18 r15 c19) r15, Ch.ro 0 (Sl alist_0 list_0 clist_0) list_0] := H
   refine st (v := (Sl a18 r15 c19)) (rv_assign rfl) ?_
   refine w_end ?_
   refine q_then ?_
   refine c_ret ?_
   obtain rfl := Option.some.inj h
   exact fin_ret (v := (Sl a18 r15 c19)) (results_ok Try.results29 (res_tmp (v := (Sl a18 r15 c19)) rfl res_nil) rfl) ⟨a18, c19, rfl, rfl⟩ (H.sel' [0] rfl rfl)

theorem c_laws_FnBuildTreeSize {code_0 : List UInt8} {acode_0 : Option Addr} {ccode_0 : Nat} {r : Bool} (h : M.laws_FnBuildTreeSize code_0 = some r) :
    Cal2 Try.prog 6 [(Sl acode_0 code_0 ccode_0)] [Ch.ro 0 (Sl acode_0 code_0 ccode_0) code_0] (fun n0 v L => v = (B r) ∧ L = []) := by
 refine cal2 (n := 63) Try.func6 rfl rfl rfl rfl ?_
 intro S0 σ0 n0 hn0 H
 unfold M.laws_FnBuildTreeSize at h
 refine c_seq ?_
 refine rg ?_
 refine st (v := (B false)) (rv_assign rfl) ?_
 refine w_end ?_
 refine q_then ?_
 refine c_seq ?_
 refine c_seq ?_
 refine rg ?_
 refine st (v := (Sl acode_0 code_0 ccode_0)) (rv_move rfl) ?_
 refine st (v := (I (code_0.length : Int))) (rv_len Try.underlying22 rfl) ?_
 refine st (v := (B (decide (1048576 < (code_0.length : Int))))) (rv_gtr (a := (code_0.length : Int)) (b := 1048576) rfl rfl) ?_
 refine w_end ?_
 refine q_then ?_
 refine cd_cond (decide (1048576 < (code_0.length : Int))) rfl (fun hb1 => ?_) (fun hb1 => ?_)
 ·replace h := bif_t hb1 h
  refine c_seq ?_
  refine rg ?_
  refine st (v := (B true)) (rv_assign rfl) ?_
  refine w_end ?_
  refine q_then ?_
  refine c_ret ?_
  refine q_then_r ?_
  obtain rfl := Option.some.inj h
  exact fin_ret (v := (B true)) (results_ok Try.results6 (res_tmp (v := (B true)) rfl res_nil) rfl) ⟨rfl, rfl⟩ (H.sel' [] rfl rfl)
 ·replace h := bif_f hb1 h
  refine c_skip ?_
  refine q_then ?_
  refine c_seq ?_
  refine rg ?_
  refine st (v := (Sl acode_0 code_0 ccode_0)) (rv_move rfl) ?_
  obtain ⟨r2, hx3, h'⟩ := bind_some h
  clear h
  have h := h'; clear h'
  have hc4 := c_spec_DrawBuildTree (acode_0 := acode_0) (ccode_0 := ccode_0) hx3
  refine st_call (cx_call hc4 (ent_f hc4.fn rfl) hn0 (show Hp S0 σ0 _ ([Ch.ro 0 (Sl acode_0 code_0 ccode_0) code_0] ++ [Ch.ro 0 (Sl acode_0 code_0 ccode_0) code_0]) from (H.sel' [0, 0] rfl rfl))) wn ?_
  rintro _ σ7 ⟨_, ⟨a5, c6, rfl, rfl⟩, H, -⟩
  replace H : Hp S0 σ0 σ7 [Ch.own n0 n0 (Sl a5 r2.1 c6) r2.1, Ch.ro 0 (Sl acode_0 code_0 ccode_0) code_0] := H
  refine st (v := (.tuple #[(Sl a5 r2.1 c6), (I r2.2)])) (rv_move rfl) ?_
  refine st (v := (Sl a5 r2.1 c6)) (rv_extract rfl rfl) ?_
  refine st (v := (I r2.2)) (rv_extract rfl rfl) ?_
  refine st (v := (Sl a5 r2.1 c6)) (rv_assign rfl) ?_
  refine st (v := (I r2.2)) (rv_assign rfl) ?_
  refine w_end ?_
  refine q_then ?_
  refine c_seq ?_
  refine rg ?_
  refine st (v := (Sl a5 r2.1 c6)) (rv_move rfl) ?_
  refine st (v := (I r2.2)) (rv_move rfl) ?_
  obtain ⟨r8, hx9, h'⟩ := bind_some h
  clear h
  have h := h'; clear h'
  have hc10 := c_impl_BuildTree (alist_0 := a5) (clist_0 := c6) hx9
  have hle := Nat.le_trans hn0 H.size
  refine st_call (cx_lend (Loan.lend Loan.nil) hc10 (ent_f hc10.fn rfl) (show Hp S0 σ0 _ ([Ch.own n0 n0 (Sl a5 r2.1 c6) r2.1] ++ ([] ++ [Ch.ro 0 (Sl acode_0 code_0 ccode_0) code_0])) from (H.sel' [0, 1] rfl rfl)) (by rintro _ _ _ ⟨_, _, rfl, rfl⟩; exact ⟨Ab.ownSc, trivial⟩)) wn ?_
  rintro _ σ13 ⟨_, ⟨a11, c12, rfl, rfl⟩, H, -, -⟩
  replace H : Hp S0 σ0 σ13 [Ch.own 0 σ7.size (Sl a11 r8 c12) r8, Ch.own n0 n0 (Sl a5 r2.1 c6) r2.1, Ch.ro 0 (Sl acode_0 code_0 ccode_0) code_0] := H
  replace H := H.ownLow 0 0 n0 rfl (Nat.le_refl _) hle
  clear hle
  replace H : Hp S0 σ0 σ13 [Ch.own 0 n0 (Sl a11 r8 c12) r8, Ch.own n0 n0 (Sl a5 r2.1 c6) r2.1, Ch.ro 0 (Sl acode_0 code_0 ccode_0) code_0] := H
  refine st (v := (Sl a11 r8 c12)) (rv_assign rfl) ?_
  refine w_end ?_
  refine q_then ?_
  refine c_seq ?_
  refine c_seq ?_
  obtain ⟨o14, hj, h'⟩ := bind_some h
  clear h
  refine c_cut (fun e a w => e = .normal ∧ ∃ (ρ : Nat → Value) (σ : St), a = fr 63 (updL ρ [(3, (Sl a5 r2.1 c6)), (4, (I r2.2)), (5, (Sl a11 r8 c12)), (28, (B o14))]) ∧ w = σ.w ∧ Hp S0 σ0 σ [Ch.own n0 n0 (Sl a5 r2.1 c6) r2.1, Ch.own 0 n0 (Sl a11 r8 c12) r8]) ?_ ?_
  ·clear h'
   rename _ = some o14 => h
   refine rg ?_
   refine st (v := (Sl a11 r8 c12)) (rv_move rfl) ?_
   refine st (v := (Sl a5 r2.1 c6)) (rv_move rfl) ?_
   refine st (v := (I r2.2)) (rv_move rfl) ?_
   obtain ⟨r15, hx16, h'⟩ := bind_some h
   clear h
   have h := h'; clear h'
   have hc17 := c_spec_BuildTree (alist_0 := a5) (clist_0 := c6) hx16
   have hle := Nat.le_trans hn0 H.size
   refine st_call (cx_lend (Loan.lend Loan.nil) hc17 (ent_f hc17.fn rfl) (show Hp S0 σ0 _ ([Ch.own n0 n0 (Sl a5 r2.1 c6) r2.1] ++ ([] ++ [Ch.own 0 n0 (Sl a11 r8 c12) r8, Ch.ro 0 (Sl acode_0 code_0 ccode_0) code_0])) from (H.sel' [1, 0, 2] rfl rfl)) (by rintro _ _ _ ⟨_, _, rfl, rfl⟩; exact ⟨Ab.ownSc, trivial⟩)) wn ?_
   rintro _ σ20 ⟨_, ⟨a18, c19, rfl, rfl⟩, H, -, -⟩
   replace H : Hp S0 σ0 σ20 [Ch.own 0 σ13.size (Sl a18 r15 c19) r15, Ch.own n0 n0 (Sl a5 r2.1 c6) r2.1, Ch.own 0 n0 (Sl a11 r8 c12) r8, Ch.ro 0 (Sl acode_0 code_0 ccode_0) code_0] := H
   replace H := H.ownLow 0 0 n0 rfl (Nat.le_refl _) hle
   clear hle
   replace H : Hp S0 σ0 σ20 [Ch.own 0 n0 (Sl a18 r15 c19) r15, Ch.own n0 n0 (Sl a5 r2.1 c6) r2.1, Ch.own 0 n0 (Sl a11 r8 c12) r8, Ch.ro 0 (Sl acode_0 code_0 ccode_0) code_0] := H
   replace H := H.ownLow 0 0 0 rfl (Nat.le_refl _) (Nat.zero_le _)
   obtain ⟨σ21, hw22, H, -⟩ := H.pub 0 rfl (Nat.le_refl _)
   rw [← hw22]; clear hw22
   obtain ⟨r23, hx24, h'⟩ := bind_some h
   clear h
   have h := h'; clear h'
   have hc25 := c_laws_equalNodes (aa_0 := a11) (ca_0 := c12) (ab_1 := a18) (cb_1 := c19) hx24
   have hle := Nat.le_trans hn0 H.size
   refine st_call (cx_lend (Loan.lend (Loan.same Loan.nil)) hc25 (ent_f hc25.fn rfl) (show Hp S0 σ0 _ ([Ch.own 0 n0 (Sl a11 r8 c12) r8] ++ ([Ch.ro 0 (Sl a18 r15 c19) r15] ++ [Ch.ro 0 (Sl a18 r15 c19) r15, Ch.own n0 n0 (Sl a5 r2.1 c6) r2.1, Ch.ro 0 (Sl acode_0 code_0 ccode_0) code_0])) from (H.sel' [2, 0, 0, 1, 3] rfl rfl)) (by rintro _ _ _ ⟨rfl, rfl⟩; exact trivial)) wn ?_
   rintro _ σ26 ⟨_, ⟨rfl, rfl⟩, H, -, -⟩
   replace H : Hp S0 σ0 σ26 [Ch.own 0 n0 (Sl a11 r8 c12) r8, Ch.ro 0 (Sl a18 r15 c19) r15, Ch.own n0 n0 (Sl a5 r2.1 c6) r2.1, Ch.ro 0 (Sl acode_0 code_0 ccode_0) code_0] := H
   clear hle
   replace H : Hp S0 σ0 σ26 [Ch.own 0 n0 (Sl a11 r8 c12) r8, Ch.ro 0 (Sl a18 r15 c19) r15, Ch.own n0 n0 (Sl a5 r2.1 c6) r2.1, Ch.ro 0 (Sl acode_0 code_0 ccode_0) code_0] := H
   refine st (v := (B (!r23))) (rv_not rfl) ?_
   refine st (v := (B (!r23))) (rv_move rfl) ?_
   rcases Bool.eq_false_or_eq_true (!r23) with hb27 | hb27
   ·replace h := bif_t hb27 h
    refine st_skip (congrArg some hb27) ?_
    refine st_skip (congrArg some hb27) ?_
    refine st_skip (congrArg some hb27) ?_
    refine st (v := (B true)) (rv_pick_t (congrArg B hb27) rfl) ?_
    refine w_end ?_
    obtain rfl := Option.some.inj h
    exact ⟨rfl, _, σ26, fr_join ⟨rfl, rfl, rfl, rfl, trivial⟩, rfl, H.sel' [2, 0] rfl rfl⟩
   ·replace h := bif_f hb27 h
    refine st_g (v := (Sl a11 r8 c12)) (congrArg some hb27) (rv_move rfl) ?_
    refine st_g (v := (I (r8.length : Int))) (congrArg some hb27) (rv_len Try.underlying43 rfl) ?_
    refine st_g (v := (B (decide ((r8.length : Int) < 2)))) (congrArg some hb27) (rv_lss (a := (r8.length : Int)) (b := 2) rfl rfl) ?_
    refine st (v := (B (decide ((r8.length : Int) < 2)))) (rv_pick_f (congrArg B hb27) rfl) ?_
    refine w_end ?_
    obtain rfl := Option.some.inj h
    exact ⟨rfl, _, σ26, fr_join ⟨rfl, rfl, rfl, rfl, trivial⟩, rfl, H.sel' [2, 0] rfl rfl⟩
  ·clear hj
   have h := h'
   clear h' H
   rintro e a w ⟨rfl, ρ, σ28, rfl, rfl, H⟩
   refine q_then ?_
   refine cd_cond o14 rfl (fun hb29 => ?_) (fun hb29 => ?_)
   ·replace h := bif_t hb29 h
    refine c_seq ?_
    refine rg ?_
    refine st (v := (Sl a11 r8 c12)) (rv_move rfl) ?_
    refine st (v := (Sl a5 r2.1 c6)) (rv_move rfl) ?_
    refine st (v := (I r2.2)) (rv_move rfl) ?_
    obtain ⟨σ30, hw31, H, -⟩ := H.pub 0 rfl (Nat.le_refl _)
    rw [← hw31]; clear hw31
    replace H := H.roLow 0 0 rfl (Nat.zero_le _)
    obtain ⟨r32, hx33, h'⟩ := bind_some h
    clear h
    have h := h'; clear h'
    have hc34 := c_spec_BuildTree (alist_0 := a5) (clist_0 := c6) hx33
    refine st_call (cx_call hc34 (ent_f hc34.fn rfl) hn0 (show Hp S0 σ0 _ ([Ch.ro 0 (Sl a5 r2.1 c6) r2.1] ++ [Ch.ro 0 (Sl a5 r2.1 c6) r2.1, Ch.ro n0 (Sl a5 r2.1 c6) r2.1, Ch.own 0 n0 (Sl a11 r8 c12) r8]) from (H.sel' [0, 0, 1, 2] rfl rfl))) wn ?_
    rintro _ σ37 ⟨_, ⟨a35, c36, rfl, rfl⟩, H, -⟩
    replace H : Hp S0 σ0 σ37 [Ch.own 0 n0 (Sl a35 r32 c36) r32, Ch.ro 0 (Sl a5 r2.1 c6) r2.1, Ch.ro n0 (Sl a5 r2.1 c6) r2.1, Ch.own 0 n0 (Sl a11 r8 c12) r8] := H
    replace H := H.ownLow 3 0 0 rfl (Nat.le_refl _) (Nat.zero_le _)
    obtain ⟨σ38, hw39, H, -⟩ := H.pub 0 rfl (Nat.le_refl _)
    rw [← hw39]; clear hw39
    replace H := H.ownLow 1 0 0 rfl (Nat.le_refl _) (Nat.zero_le _)
    obtain ⟨σ40, hw41, H, -⟩ := H.pub 0 rfl (Nat.le_refl _)
    rw [← hw41]; clear hw41
    obtain ⟨r42, hx43, h'⟩ := bind_some h
    clear h
    have h := h'; clear h'
    have hc44 := c_laws_equalNodes (aa_0 := a11) (ca_0 := c12) (ab_1 := a35) (cb_1 := c36) hx43
    refine st_call (cx_call hc44 (ent_f hc44.fn rfl) hn0 (show Hp S0 σ0 _ ([Ch.ro 0 (Sl a11 r8 c12) r8, Ch.ro 0 (Sl a35 r32 c36) r32] ++ [Ch.ro 0 (Sl a35 r32 c36) r32, Ch.ro 0 (Sl a11 r8 c12) r8, Ch.ro 0 (Sl a5 r2.1 c6) r2.1, Ch.ro n0 (Sl a5 r2.1 c6) r2.1]) from (H.sel' [1, 0, 0, 1, 2, 3] rfl rfl))) wn ?_
    rintro _ σ45 ⟨_, ⟨rfl, rfl⟩, H, -⟩
    replace H : Hp S0 σ0 σ45 [Ch.ro 0 (Sl a35 r32 c36) r32, Ch.ro 0 (Sl a11 r8 c12) r8, Ch.ro 0 (Sl a5 r2.1 c6) r2.1, Ch.ro n0 (Sl a5 r2.1 c6) r2.1] := H
    refine st (v := (B r42)) (rv_assign rfl) ?_
    refine w_end ?_
    refine q_then ?_
    refine c_ret ?_
    refine q_then_r ?_
    obtain rfl := Option.some.inj h
    exact fin_ret (v := (B r42)) (results_ok Try.results6 (res_tmp (v := (B r42)) rfl res_nil) rfl) ⟨rfl, rfl⟩ (H.sel' [] rfl rfl)
   ·replace h := bif_f hb29 h
    refine c_skip ?_
    refine q_then ?_
    refine c_seq ?_
    refine rg ?_
    refine st (v := (Sl a11 r8 c12)) (rv_move rfl) ?_
    refine st (v := (I (r8.length : Int))) (rv_len Try.underlying43 rfl) ?_
    refine st (v := (I (w64 ((r8.length : Int).tdiv 2)))) (rv_quo (a := (r8.length : Int)) (b := 2) rfl rfl (by decide)) ?_
    refine st (v := (I (w64 ((r8.length : Int).tdiv 2)))) (rv_assign rfl) ?_
    refine w_end ?_
    refine q_then ?_
    refine c_seq ?_
    refine rg ?_
    refine st (v := (Sl a11 r8 c12)) (rv_move rfl) ?_
    obtain ⟨x46, hx47, h'⟩ := bind_some h
    clear h
    have h := h'; clear h'
    obtain ⟨b49, o50, hi48, -⟩ := (H.own 1 rfl).ix hx47
    refine st (v := (pt b49 o50)) (rv_ix Try.underlying43 ti47 rfl rfl hi48) ?_
    refine st (v := (pt b49 (o50 + 2))) (rv_fieldAddr (off := 2) (ft := 3) Try.underlying47 rfl ti3 rfl rfl) ?_
    have hc51 := ((H.own 1 rfl).at hx47 hi48).snd.snd.fst.int
    refine st (v := (I x46.2.2.1)) (rv_load1 Try.underlying3 rfl rfl hc51) ?_
    refine st (v := (B (x46.2.2.1 == 1))) (rv_eql (a := x46.2.2.1) (b := 1) rfl rfl) ?_
    refine st (v := (B (x46.2.2.1 == 1))) (rv_move rfl) ?_
    rcases Bool.eq_false_or_eq_true (x46.2.2.1 == 1) with hb52 | hb52
    ·replace h := bif_t hb52 h
     refine st_g (v := (Sl a11 r8 c12)) (congrArg some hb52) (rv_move rfl) ?_
     obtain ⟨x53, hx54, h'⟩ := bind_some h
     clear h
     have h := h'; clear h'
     obtain ⟨b56, o57, hi55, -⟩ := (H.own 1 rfl).ix hx54
     refine st_g (v := (pt b56 o57)) (congrArg some hb52) (rv_ix Try.underlying43 ti47 rfl rfl hi55) ?_
     refine st_g (v := (pt b56 (o57 + 3))) (congrArg some hb52) (rv_fieldAddr (off := 3) (ft := 3) Try.underlying47 rfl ti3 rfl rfl) ?_
     have hc58 := ((H.own 1 rfl).at hx54 hi55).snd.snd.snd.int
     refine st_g (v := (I x53.2.2.2)) (congrArg some hb52) (rv_load1 Try.underlying3 rfl rfl hc58) ?_
     refine st_g (v := (I (w64 ((r8.length : Int).tdiv 2)))) (congrArg some hb52) (rv_move rfl) ?_
     refine st_g (v := (I (w64 ((w64 ((r8.length : Int).tdiv 2)) + 1)))) (congrArg some hb52) (rv_add (a := (w64 ((r8.length : Int).tdiv 2))) (b := 1) rfl rfl) ?_
     refine st_g (v := (B (x53.2.2.2 == (w64 ((w64 ((r8.length : Int).tdiv 2)) + 1))))) (congrArg some hb52) (rv_eql (a := x53.2.2.2) (b := (w64 ((w64 ((r8.length : Int).tdiv 2)) + 1))) rfl rfl) ?_
     refine st_g (v := (B (x53.2.2.2 == (w64 ((w64 ((r8.length : Int).tdiv 2)) + 1))))) (congrArg some hb52) (rv_move rfl) ?_
     rcases Bool.eq_false_or_eq_true (x53.2.2.2 == (w64 ((w64 ((r8.length : Int).tdiv 2)) + 1))) with hb59 | hb59
     ·replace h := bif_t hb59 h
      refine st_skip (congrArg some hb59) ?_
      refine st_skip (congrArg some hb59) ?_
      refine st_skip (congrArg some hb59) ?_
      refine st_skip (congrArg some hb59) ?_
      refine st_skip (congrArg some hb59) ?_
      refine st_skip (congrArg some hb59) ?_
      refine st_skip_u rfl ?_
      refine st_skip_u rfl ?_
      refine st_skip_u rfl ?_
      refine st_skip (congrArg some hb59) ?_
      refine st_g (v := (B true)) (congrArg some hb52) (rv_pick_t (congrArg B hb59) rfl) ?_
      refine st (v := (B true)) (rv_pick_t (congrArg B hb52) rfl) ?_
      refine st (v := (B true)) (rv_assign rfl) ?_
      refine w_end ?_
      refine q_then ?_
      refine c_ret ?_
      obtain rfl := Option.some.inj h
      exact fin_ret (v := (B true)) (results_ok Try.results6 (res_tmp (v := (B true)) rfl res_nil) rfl) ⟨rfl, rfl⟩ (H.sel' [] rfl rfl)
     ·replace h := bif_f hb59 h
      refine st_g (v := (Sl a11 r8 c12)) (congrArg some hb59) (rv_move rfl) ?_
      obtain ⟨x60, hx61, h'⟩ := bind_some h
      clear h
      have h := h'; clear h'
      obtain ⟨b63, o64, hi62, -⟩ := (H.own 1 rfl).ix hx61
      refine st_g (v := (pt b63 o64)) (congrArg some hb59) (rv_ix Try.underlying43 ti47 rfl rfl hi62) ?_
      refine st_g (v := (pt b63 (o64 + 3))) (congrArg some hb59) (rv_fieldAddr (off := 3) (ft := 3) Try.underlying47 rfl ti3 rfl rfl) ?_
      have hc65 := ((H.own 1 rfl).at hx61 hi62).snd.snd.snd.int
      refine st_g (v := (I x60.2.2.2)) (congrArg some hb59) (rv_load1 Try.underlying3 rfl rfl hc65) ?_
      refine st_g (v := (B (x60.2.2.2 == (-1)))) (congrArg some hb59) (rv_eql (a := x60.2.2.2) (b := (-1)) rfl rfl) ?_
      refine st_g (v := (B (x60.2.2.2 == (-1)))) (congrArg some hb59) (rv_move rfl) ?_
      rcases Bool.eq_false_or_eq_true (x60.2.2.2 == (-1)) with hb66 | hb66
      ·replace h := bif_t hb66 h
       refine st_g (v := (Sl a11 r8 c12)) (congrArg some hb66) (rv_move rfl) ?_
       refine st_g (v := (I (r8.length : Int))) (congrArg some hb66) (rv_len Try.underlying43 rfl) ?_
       refine st_g (v := (B ((r8.length : Int) == 2))) (congrArg some hb66) (rv_eql (a := (r8.length : Int)) (b := 2) rfl rfl) ?_
       refine st_g (v := (B ((r8.length : Int) == 2))) (congrArg some hb59) (rv_pick_t (congrArg B hb66) rfl) ?_
       refine st_g (v := (B ((r8.length : Int) == 2))) (congrArg some hb52) (rv_pick_f (congrArg B hb59) rfl) ?_
       refine st (v := (B ((r8.length : Int) == 2))) (rv_pick_t (congrArg B hb52) rfl) ?_
       refine st (v := (B ((r8.length : Int) == 2))) (rv_assign rfl) ?_
       refine w_end ?_
       refine q_then ?_
       refine c_ret ?_
       obtain rfl := Option.some.inj h
       exact fin_ret (v := (B ((r8.length : Int) == 2))) (results_ok Try.results6 (res_tmp (v := (B ((r8.length : Int) == 2))) rfl res_nil) rfl) ⟨rfl, rfl⟩ (H.sel' [] rfl rfl)
      ·replace h := bif_f hb66 h
       refine st_skip (congrArg some hb66) ?_
       refine st_skip (congrArg some hb66) ?_
       refine st_skip (congrArg some hb66) ?_
       refine st_g (v := (B false)) (congrArg some hb59) (rv_pick_f (congrArg B hb66) rfl) ?_
       refine st_g (v := (B false)) (congrArg some hb52) (rv_pick_f (congrArg B hb59) rfl) ?_
       refine st (v := (B false)) (rv_pick_t (congrArg B hb52) rfl) ?_
       refine st (v := (B false)) (rv_assign rfl) ?_
       refine w_end ?_
       refine q_then ?_
       refine c_ret ?_
       obtain rfl := Option.some.inj h
       exact fin_ret (v := (B false)) (results_ok Try.results6 (res_tmp (v := (B false)) rfl res_nil) rfl) ⟨rfl, rfl⟩ (H.sel' [] rfl rfl)
    ·replace h := bif_f hb52 h
     refine st_skip (congrArg some hb52) ?_
     refine st_skip (congrArg some hb52) ?_
     refine st_skip (congrArg some hb52) ?_
     refine st_skip (congrArg some hb52) ?_
     refine st_skip (congrArg some hb52) ?_
     refine st_skip (congrArg some hb52) ?_
     refine st_skip (congrArg some hb52) ?_
     refine st_skip (congrArg some hb52) ?_
     refine st_skip_u rfl ?_
     refine st_skip_u rfl ?_
     refine st_skip_u rfl ?_
     refine st_skip_u rfl ?_
     refine st_skip_u rfl ?_
     refine st_skip_u rfl ?_
     refine st_skip_u rfl ?_
     refine st_skip_u rfl ?_
     refine st_skip_u rfl ?_
     refine st_skip_u rfl ?_
     refine st_skip (congrArg some hb52) ?_
     refine st (v := (B false)) (rv_pick_f (congrArg B hb52) rfl) ?_
     refine st (v := (B false)) (rv_assign rfl) ?_
     refine w_end ?_
     refine q_then ?_
     refine c_ret ?_
     obtain rfl := Option.some.inj h
     exact fin_ret (v := (B false)) (results_ok Try.results6 (res_tmp (v := (B false)) rfl res_nil) rfl) ⟨rfl, rfl⟩ (H.sel' [] rfl rfl)

end Go.Vs
