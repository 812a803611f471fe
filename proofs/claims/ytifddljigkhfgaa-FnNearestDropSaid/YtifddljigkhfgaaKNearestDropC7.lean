/- The functions compute what their models say. -/
import Derived.Test.YtifddljigkhfgaaKNearestDropC6
set_option linter.unusedVariables false
set_option linter.unusedSimpArgs false
set_option maxRecDepth 20000
namespace Go.Vs
open Go Go.Proofs
attribute [local irreducible] Code.wp Code.wpIn wpList wpListIn wpQuiet Calls CallsIn

theorem c_slices_Clone_int_int {s_0 : List Int} {as_0 : Option Addr} {cs_0 : Nat} {r : (List Int)} (h : M.slices_Clone_int_int s_0 = some r) :
    Cal2 Try.prog 105 [(Sl as_0 s_0 cs_0)] [Ch.ro 0 (Sl as_0 s_0 cs_0) s_0] (fun n0 v L => ∃ (az1 : Option Addr), ∃ (cz2 : Nat), v = (Sl az1 r cz2) ∧ L = [Ch.own n0 n0 (Sl az1 r cz2) r]) := by
 refine cal2 (n := 8) Try.func105 rfl rfl rfl rfl ?_
 intro S0 σ0 n0 hn0 H
 unfold M.slices_Clone_int_int at h
 refine c_seq ?_
 refine rg ?_
 refine st (v := (.slice none 0 0)) (rv_assign rfl) ?_
 refine w_end ?_
 refine q_then ?_
 refine c_seq ?_
 refine c_seq ?_
 refine rg ?_
 refine st (v := (Sl as_0 s_0 cs_0)) (rv_move rfl) ?_
 refine st (v := (B as_0.isNone)) (rv_nilS Try.underlying24 rfl rfl) ?_
 refine w_end ?_
 refine q_then ?_
 refine cd_cond as_0.isNone rfl (fun hb1 => ?_) (fun hb1 => ?_)
 ·have hq := RS.nilOf hb1 (H.ro 0 rfl)
  subst hq
  replace h : some [] = some r := by simpa [gapp] using h
  refine c_seq ?_
  refine rg ?_
  refine st (v := (.slice none 0 0)) (rv_assign rfl) ?_
  refine w_end ?_
  refine q_then ?_
  refine c_ret ?_
  refine q_then_r ?_
  replace H := H.nilOwn Int n0 n0
  obtain rfl := Option.some.inj h
  exact fin_ret (v := (.slice none 0 0)) (results_ok Try.results105 (res_tmp (v := (.slice none 0 0)) rfl res_nil) rfl) ⟨none, 0, rfl, rfl⟩ (H.sel' [0] rfl rfl)
 ·refine c_skip ?_
  refine q_then ?_
  refine c_seq ?_
  refine rg ?_
  refine st_ex (ex_buildSlice (el := n0) (xs := ([] : List Int)) (ps := []) (cs := []) H hn0 Try.underlying24 ti3 rfl rfl (by kernel_rfl) (.nil) rfl) (wanted_none _ rfl _) ?_
  rintro _ σ3 ⟨b2, rfl, H, -⟩
  refine st (v := (Sl as_0 s_0 cs_0)) (rv_move rfl) ?_
  obtain ⟨xs4, hx5, h'⟩ := bind_some h
  clear h
  have h := h'; clear h'
  refine st_ex (ex_append H (i := 0) rfl Try.underlying24 Try.underlying24 ti3 rfl rfl (by decide) ((H.ro 1 rfl).rd.sc) hx5 hn0 rfl rfl) (wanted_none _ rfl _) ?_
  rintro _ σ8 ⟨a6, c7, rfl, H, -⟩
  refine st (v := (Sl a6 xs4 c7)) (rv_assign rfl) ?_
  refine w_end ?_
  refine q_then ?_
  refine c_ret ?_
  obtain rfl := Option.some.inj h
  exact fin_ret (v := (Sl a6 xs4 c7)) (results_ok Try.results105 (res_tmp (v := (Sl a6 xs4 c7)) rfl res_nil) rfl) ⟨a6, c7, rfl, rfl⟩ (H.sel' [0] rfl rfl)

theorem c_impl_copyItem {x_0 : Int × (List Int) × Int} {ax_0_1 : Option Addr} {cx_0_1 : Nat} {r : (Int × (List Int) × Int)} (h : M.impl_copyItem x_0 = some r) :
    Cal2 Try.prog 79 [(.agg #[(I x_0.1), (Sl ax_0_1 x_0.2.1 cx_0_1), (I x_0.2.2)])] [Ch.ro 0 (Sl ax_0_1 x_0.2.1 cx_0_1) x_0.2.1] (fun n0 v L => ∃ (az1 : Option Addr), ∃ (cz2 : Nat), v = (.agg #[(I r.1), (Sl az1 r.2.1 cz2), (I r.2.2)]) ∧ L = [Ch.own n0 n0 (Sl az1 r.2.1 cz2) r.2.1]) := by
 refine cal2 (n := 11) Try.func79 rfl rfl rfl rfl ?_
 intro S0 σ0 n0 hn0 H
 unfold M.impl_copyItem at h
 refine c_seq ?_
 refine rg ?_
 refine st_ex (ex_box (cs := [(I x_0.1), (Sl ax_0_1 x_0.2.1 cx_0_1), (I x_0.2.2)]) H hn0 rfl rfl) (wanted_none _ rfl _) ?_
 rintro _ σ2 ⟨b1, rfl, H, -⟩
 refine st_ex (ex_alloc (cs := [(I 0), (.slice none 0 0), (I 0)]) H hn0 ti31 rfl) (wanted_none _ rfl _) ?_
 rintro _ σ4 ⟨b3, rfl, H, -⟩
 refine w_end ?_
 refine q_then ?_
 refine c_seq ?_
 have hc5 := H.cell (u := (I x_0.1)) (o' := 0) 1 0 rfl rfl rfl
 have hc6 := H.cell (u := (Sl ax_0_1 x_0.2.1 cx_0_1)) (o' := 1) 1 1 rfl rfl rfl
 obtain ⟨r7, hx8, h'⟩ := bind_some h
 clear h
 have h := h'; clear h'
 have hc9 := c_slices_Clone_int_int (as_0 := ax_0_1) (cs_0 := cx_0_1) hx8
 have hc12 := H.cell (u := (I x_0.2.2)) (o' := 2) 1 2 rfl rfl rfl
 have Hs := H
 refine rg2 (σ := σ4) (Nm := (Option Addr) × (Nat)) 7 [4] [[false], [true]] [[(0, 0), (1, 1)], [(0, 0), (1, 1)], [(0, 0)], [(0, 0)], [(0, 1)], [(0, 0), (1, 1)], [(0, 0), (1, 1)]] 1 [fun ((a10, c11) : (Option Addr) × (Nat)) => fun σm => Hp S0 σ0 σm [Ch.bx n0 b3 0 [(I 0), (.slice none 0 0), (I 0)] [] [], Ch.bx n0 b1 0 [(I x_0.1), (Sl ax_0_1 x_0.2.1 cx_0_1), (I x_0.2.2)] [] [], Ch.ro 0 (Sl ax_0_1 x_0.2.1 cx_0_1) x_0.2.1] ∧ Md (cov []) σ4 σm, fun ((a10, c11) : (Option Addr) × (Nat)) => fun σm => Hp S0 σ0 σm [Ch.own n0 n0 (Sl a10 r7 c11) r7, Ch.bx n0 b3 0 [(I 0), (.slice none 0 0), (I 0)] [] [], Ch.bx n0 b1 0 [(I x_0.1), (Sl ax_0_1 x_0.2.1 cx_0_1), (I x_0.2.2)] [] [], Ch.ro 0 (Sl ax_0_1 x_0.2.1 cx_0_1) x_0.2.1] ∧ Md (cov []) σ4 σm] [fun ((a10, c11) : (Option Addr) × (Nat)) => (pt b1 0), fun ((a10, c11) : (Option Addr) × (Nat)) => (I x_0.1), fun ((a10, c11) : (Option Addr) × (Nat)) => (pt b1 1), fun ((a10, c11) : (Option Addr) × (Nat)) => (Sl ax_0_1 x_0.2.1 cx_0_1), fun ((a10, c11) : (Option Addr) × (Nat)) => (Sl a10 r7 c11), fun ((a10, c11) : (Option Addr) × (Nat)) => (pt b1 2), fun ((a10, c11) : (Option Addr) × (Nat)) => (I x_0.2.2)] (none, 0) (by kernel_rfl) (by kernel_rfl) ?_ ?_ ?_
 ·intro σm m0
  exact ⟨H.grow (m0.mono fun _ h => h.elim), m0⟩
 ·refine all_cons (obs_v rfl (by
    intro k; rintro ⟨a10, c11⟩ ρ σm hJ hoff hdep
    have e1 : look 11 ρ 1 = (pt b1 0) := look_off (hoff 1 rfl) rfl
    exact dp_v (v := (pt b1 0)) (wanted_none _ rfl _) (rv_fieldAddr (off := 0) (ft := 3) Try.underlying31 rfl ti3 rfl e1) rfl hJ)) ?_
  refine all_cons (by
    refine ⟨?_, ?_⟩
    ·rintro ⟨a10, c11⟩ ρ σm hJ hoff hdep
     have e3 : look 11 ρ 3 = (pt b1 0) := hdep 0 rfl rfl 3 rfl
     obtain ⟨H, m⟩ := id hJ
     have hc5 := H.cell (u := (I x_0.1)) (o' := 0) 1 0 rfl rfl rfl
     exact dp_v (v := (I x_0.1)) (wanted_none _ rfl _) (rv_load1 Try.underlying3 rfl e3 hc5) rfl hJ
    refine ⟨?_, ?_⟩
    ·rintro ⟨a10, c11⟩ ρ σm hJ hoff hdep
     have e3 : look 11 ρ 3 = (pt b1 0) := hdep 0 rfl rfl 3 rfl
     obtain ⟨H, m⟩ := id hJ
     have hc5 := H.cell (u := (I x_0.1)) (o' := 0) 2 0 rfl rfl rfl
     exact dp_v (v := (I x_0.1)) (wanted_none _ rfl _) (rv_load1 Try.underlying3 rfl e3 hc5) rfl hJ
    trivial) ?_
  refine all_cons (obs_v rfl (by
    intro k; rintro ⟨a10, c11⟩ ρ σm hJ hoff hdep
    have e1 : look 11 ρ 1 = (pt b1 0) := look_off (hoff 1 rfl) rfl
    exact dp_v (v := (pt b1 1)) (wanted_none _ rfl _) (rv_fieldAddr (off := 1) (ft := 24) Try.underlying31 rfl ti24 rfl e1) rfl hJ)) ?_
  refine all_cons (by
    refine ⟨?_, ?_⟩
    ·rintro ⟨a10, c11⟩ ρ σm hJ hoff hdep
     have e5 : look 11 ρ 5 = (pt b1 1) := hdep 2 rfl rfl 5 rfl
     obtain ⟨H, m⟩ := id hJ
     have hc6 := H.cell (u := (Sl ax_0_1 x_0.2.1 cx_0_1)) (o' := 1) 1 1 rfl rfl rfl
     exact dp_v (v := (Sl ax_0_1 x_0.2.1 cx_0_1)) (wanted_none _ rfl _) (rv_load1 Try.underlying24 rfl e5 hc6) rfl hJ
    trivial) ?_
  refine all_cons (by
    refine ⟨?_, ?_⟩
    ·rintro ⟨a10, c11⟩ ρ σm hJ hoff hdep
     have e6 : look 11 ρ 6 = (Sl ax_0_1 x_0.2.1 cx_0_1) := hdep 3 rfl rfl 6 rfl
     obtain ⟨H, m⟩ := id hJ
     refine dp_cx (wanted_none _ rfl _) (cx_call hc9 (ent_f hc9.fn (by show [look 11 ρ 6] = _; rw [e6])) hn0 (show Hp S0 σ0 _ ([Ch.ro 0 (Sl ax_0_1 x_0.2.1 cx_0_1) x_0.2.1] ++ [Ch.bx n0 b3 0 [(I 0), (.slice none 0 0), (I 0)] [] [], Ch.bx n0 b1 0 [(I x_0.1), (Sl ax_0_1 x_0.2.1 cx_0_1), (I x_0.2.2)] [] [], Ch.ro 0 (Sl ax_0_1 x_0.2.1 cx_0_1) x_0.2.1]) from (H.sel' [2, 0, 1, 2] rfl rfl))) ?_
     rintro _ σq ⟨_, ⟨a10x, c11x, rfl, rfl⟩, H2, m2⟩
     exact ⟨_, (a10x, c11x), rfl, rfl, ⟨H2.sel' [0, 1, 2, 3] rfl rfl, m.comp0 (m2.mono (fun i h => by simp [cov, Ch.ro] at h))⟩, stab [0, 1, 2, 3, 5, 6] (by kernel_rfl) ⟨rfl, rfl, rfl, rfl, rfl, rfl, trivial⟩⟩
    trivial) ?_
  refine all_cons (obs_v rfl (by
    intro k; rintro ⟨a10, c11⟩ ρ σm hJ hoff hdep
    have e1 : look 11 ρ 1 = (pt b1 0) := look_off (hoff 1 rfl) rfl
    exact dp_v (v := (pt b1 2)) (wanted_none _ rfl _) (rv_fieldAddr (off := 2) (ft := 3) Try.underlying31 rfl ti3 rfl e1) rfl hJ)) ?_
  refine all_cons (by
    refine ⟨?_, ?_⟩
    ·rintro ⟨a10, c11⟩ ρ σm hJ hoff hdep
     have e8 : look 11 ρ 8 = (pt b1 2) := hdep 5 rfl rfl 8 rfl
     obtain ⟨H, m⟩ := id hJ
     have hc12 := H.cell (u := (I x_0.2.2)) (o' := 2) 1 2 rfl rfl rfl
     exact dp_v (v := (I x_0.2.2)) (wanted_none _ rfl _) (rv_load1 Try.underlying3 rfl e8 hc12) rfl hJ
    refine ⟨?_, ?_⟩
    ·rintro ⟨a10, c11⟩ ρ σm hJ hoff hdep
     have e8 : look 11 ρ 8 = (pt b1 2) := hdep 5 rfl rfl 8 rfl
     obtain ⟨H, m⟩ := id hJ
     have hc12 := H.cell (u := (I x_0.2.2)) (o' := 2) 2 2 rfl rfl rfl
     exact dp_v (v := (I x_0.2.2)) (wanted_none _ rfl _) (rv_load1 Try.underlying3 rfl e8 hc12) rfl hJ
    trivial) ?_
  exact all_nil
 ·rintro ⟨a10, c11⟩ ρ σ13 hJ hoff hrel
  have e2 : look 11 ρ 2 = (pt b3 0) := look_off (hoff 2 rfl) rfl
  have e4 : look 11 ρ 4 = (I x_0.1) := hrel 1 rfl 4 rfl
  have e7 : look 11 ρ 7 = (Sl a10 r7 c11) := hrel 4 rfl 7 rfl
  have e9 : look 11 ρ 9 = (I x_0.2.2) := hrel 6 rfl 9 rfl
  obtain ⟨H, -⟩ := (show Hp S0 σ0 σ13 [Ch.own n0 n0 (Sl a10 r7 c11) r7, Ch.bx n0 b3 0 [(I 0), (.slice none 0 0), (I 0)] [] [], Ch.bx n0 b1 0 [(I x_0.1), (Sl ax_0_1 x_0.2.1 cx_0_1), (I x_0.2.2)] [] [], Ch.ro 0 (Sl ax_0_1 x_0.2.1 cx_0_1) x_0.2.1] ∧ Md (cov []) σ4 σ13 from hJ)
  clear hJ Hs
  rw [fr_lookL (L := [(2, (pt b3 0)), (4, (I x_0.1)), (7, (Sl a10 r7 c11)), (9, (I x_0.2.2))]) ⟨e2, e4, e7, e9, trivial⟩]
  clear hoff hrel e2 e4 e7 e9
  refine st (v := (.agg #[(I x_0.1), (Sl a10 r7 c11), (I x_0.2.2)])) (rv_build (ps := [(0, (I x_0.1)), (1, (Sl a10 r7 c11)), (2, (I x_0.2.2))]) Try.underlying31 ti31 (bp31 Try.underlying31) rfl (by kernel_rfl)) ?_
  refine st_exS (ex_store_box (k := 0) (cs := [(I 0), (.slice none 0 0), (I 0)]) (vs := [(I x_0.1), (Sl a10 r7 c11), (I x_0.2.2)]) (cs' := [(I x_0.1), (Sl a10 r7 c11), (I x_0.2.2)]) H (i := 1) rfl ti31 rfl rfl rfl rfl rfl (Nat.le_of_ble_eq_true rfl) (by simp [plain]) rfl) (wanted_none _ rfl _) ?_
  rintro σ14 ⟨H, -⟩
  refine w_end ?_
  refine q_then ?_
  refine c_ret ?_
  obtain rfl := Option.some.inj h
  exact fin_ret (v := (.agg #[(I x_0.1), (Sl a10 r7 c11), (I x_0.2.2)])) (results_ok Try.results79 (res_cell rfl (run_cellRes (cs := [(I x_0.1), (Sl a10 r7 c11), (I x_0.2.2)]) Try.underlying31 rfl ti31 rfl (H.cells 0 rfl)) res_nil) rfl) ⟨a10, c11, rfl, rfl⟩ (H.sel' [1] rfl rfl)

theorem c_impl_copyItems {list_0 : List (Int × (List Int) × Int)} {alist_0 : Option Addr} {clist_0 : Nat} {r : (List (Int × (List Int) × Int))} (h : M.impl_copyItems list_0 = some r) :
    Cal2 Try.prog 67 [(Sl alist_0 list_0 clist_0)] [Ch.ro 0 (Sl alist_0 list_0 clist_0) list_0] (fun n0 v L => ∃ (az1 : Option Addr), ∃ (cz2 : Nat), v = (Sl az1 r cz2) ∧ L = [Ch.own n0 n0 (Sl az1 r cz2) r] ∧ cz2 = r.length) := by
 refine cal2 (n := 23) Try.func67 rfl rfl rfl rfl ?_
 intro S0 σ0 n0 hn0 H
 unfold M.impl_copyItems at h
 refine c_seq ?_
 refine rg ?_
 refine st (v := (.slice none 0 0)) (rv_assign rfl) ?_
 refine w_end ?_
 refine q_then ?_
 refine c_seq ?_
 refine rg ?_
 refine st (v := (Sl alist_0 list_0 clist_0)) (rv_move rfl) ?_
 refine st (v := (I (list_0.length : Int))) (rv_len Try.underlying23 rfl) ?_
 obtain ⟨xs1, hx2, h'⟩ := bind_some h
 clear h
 have h := h'; clear h'
 refine st_ex (ex_make (el := n0) (z0 := ((0, [], 0) : Int × (List Int) × Int)) (zs := [(I 0), (.slice none 0 0), (I 0)]) H hn0 Try.underlying23 ti31 rfl rfl (⟨[(I 0)], [(.slice none 0 0), (I 0)], rfl, rfl, ⟨[(.slice none 0 0)], [(I 0)], rfl, ⟨_, rfl, RS.nil⟩, rfl⟩⟩) (by decide) hx2 rfl rfl) (wanted_none _ rfl _) ?_
 rintro _ σ6 ⟨b3, c4, rfl, ht5, H, -⟩
 replace ht5 := ht5.trans (gmake_len hx2).symm
 refine st (v := (Sl (some ⟨b3, 0, none⟩) xs1 c4)) (rv_assign rfl) ?_
 refine w_end ?_
 refine q_then ?_
 refine c_seq ?_
 refine c_seq ?_
 refine rg ?_
 refine st (v := (Sl alist_0 list_0 clist_0)) (rv_move rfl) ?_
 refine st (v := (I (list_0.length : Int))) (rv_len Try.underlying23 rfl) ?_
 refine st (v := (I 0)) (rv_move rfl) ?_
 refine w_end ?_
 refine q_then ?_
 obtain ⟨o7, hj, h'⟩ := bind_some h
 clear h
 refine c_cut (fun e a w => e = .normal ∧ ∃ (ρ : Nat → Value) (σ : St), a = fr 23 (updL ρ [(3, (Sl (some ⟨b3, 0, none⟩) o7 c4))]) ∧ w = σ.w ∧ Hp S0 σ0 σ [Ch.own n0 n0 (Sl (some ⟨b3, 0, none⟩) o7 c4) o7] ∧ c4 = o7.length ∧ o7.length = xs1.length) ?_ ?_
 ·clear h'
  rename _ = some o7 => h
  refine c_blk ?_
  refine wp_loopM _ h (fun s8 a w => ∃ (ρ : Nat → Value) (σ : St), a = fr 23 (updL ρ [(3, (Sl (some ⟨b3, 0, none⟩) s8.1 c4)), (9, (Sl alist_0 list_0 clist_0)), (10, (I (list_0.length : Int))), (11, (I s8.2))]) ∧ w = σ.w ∧ Hp S0 σ0 σ [Ch.own n0 n0 (Sl (some ⟨b3, 0, none⟩) s8.1 c4) s8.1, Ch.ro 0 (Sl alist_0 list_0 clist_0) list_0] ∧ c4 = s8.1.length ∧ s8.1.length = xs1.length) ⟨_, σ6, fr_join ⟨rfl, rfl, rfl, rfl, trivial⟩, rfl, H.sel' [0, 1] rfl rfl, ht5, rfl⟩ ?_
  clear h H
  rintro s8 a w o ⟨ρ, σ9, rfl, rfl, H, ht10, hn11⟩ h hres
  refine c_seq ?_
  refine rg ?_
  refine st (v := (B (decide (s8.2 < (list_0.length : Int))))) (rv_lss (a := s8.2) (b := (list_0.length : Int)) rfl rfl) ?_
  refine w_end ?_
  refine q_then ?_
  refine c_seq ?_
  refine cd_cond (decide (s8.2 < (list_0.length : Int))) rfl (fun hb12 => ?_) (fun hb12 => ?_)
  ·replace h := bif_t hb12 h
   refine c_skip ?_
   refine q_then ?_
   refine c_seq ?_
   refine c_blk ?_
   refine c_seq ?_
   refine rg ?_
   refine st (v := (I s8.2)) (rv_move rfl) ?_
   obtain ⟨x13, hx14, h'⟩ := bind_some h
   clear h
   have h := h'; clear h'
   obtain ⟨b16, o17, hi15, -⟩ := (H.ro 1 rfl).ix hx14
   refine st (v := (pt b16 o17)) (rv_ix Try.underlying23 ti31 rfl rfl hi15) ?_
   obtain ⟨_, ⟨_, _, rfl, rfl, ⟨_, _, rfl, ⟨_, rfl, hR22⟩, rfl⟩⟩, hl18, hc19⟩ := ((H.ro 1 rfl).at hx14 hi15).cells
   obtain ⟨a20, c21, rfl⟩ := hR22.isSl
   replace H := H.add (d := Ch.ro 0 (Sl a20 x13.2.1 c21) x13.2.1) hR22 (fun _ h => h)
   clear hR22
   refine st (v := (.agg #[(I x13.1), (Sl a20 x13.2.1 c21), (I x13.2.2)])) (rv_load Try.underlying31 rfl ti31 rfl hl18 hc19) ?_
   refine st_ex (ex_alloc (cs := [(I 0), (.slice none 0 0), (I 0)]) H hn0 ti31 rfl) (wanted_none _ rfl _) ?_
   rintro _ σ24 ⟨b23, rfl, H, -⟩
   refine st (v := (I s8.2)) (rv_assign rfl) ?_
   refine st_exS (ex_store_box (k := 0) (cs := [(I 0), (.slice none 0 0), (I 0)]) (vs := [(I x13.1), (Sl a20 x13.2.1 c21), (I x13.2.2)]) (cs' := [(I x13.1), (Sl a20 x13.2.1 c21), (I x13.2.2)]) H (i := 0) rfl ti31 rfl rfl rfl rfl rfl (Nat.le_of_ble_eq_true rfl) (by simp [plain]) rfl) (wanted_none _ rfl _) ?_
   rintro σ25 ⟨H, -⟩
   refine w_end ?_
   refine q_then ?_
   refine rg ?_
   refine st (v := (Sl (some ⟨b3, 0, none⟩) s8.1 c4)) (rv_move rfl) ?_
   refine st (v := (I s8.2)) (rv_move rfl) ?_
   have hc26 := H.cells 0 rfl
   refine st (v := (.agg #[(I x13.1), (Sl a20 x13.2.1 c21), (I x13.2.2)])) (rv_load (cs := [(I x13.1), (Sl a20 x13.2.1 c21), (I x13.2.2)]) Try.underlying31 rfl ti31 rfl rfl hc26) ?_
   obtain ⟨r27, hx28, h'⟩ := bind_some h
   clear h
   have h := h'; clear h'
   have hc29 := c_impl_copyItem (ax_0_1 := a20) (cx_0_1 := c21) hx28
   refine st_call (cx_call hc29 (ent_f hc29.fn rfl) hn0 (show Hp S0 σ0 _ ([Ch.ro 0 (Sl a20 x13.2.1 c21) x13.2.1] ++ [Ch.bx n0 b23 0 [(I x13.1), (Sl a20 x13.2.1 c21), (I x13.2.2)] [] [], Ch.ro 0 (Sl a20 x13.2.1 c21) x13.2.1, Ch.own n0 n0 (Sl (some ⟨b3, 0, none⟩) s8.1 c4) s8.1, Ch.ro 0 (Sl alist_0 list_0 clist_0) list_0]) from (H.sel' [1, 0, 1, 2, 3] rfl rfl))) (wanted_none _ rfl _) ?_
   rintro _ σ32 ⟨_, ⟨a30, c31, rfl, rfl⟩, H, -⟩
   replace H : Hp S0 σ0 σ32 [Ch.own n0 n0 (Sl a30 r27.2.1 c31) r27.2.1, Ch.bx n0 b23 0 [(I x13.1), (Sl a20 x13.2.1 c21), (I x13.2.2)] [] [], Ch.ro 0 (Sl a20 x13.2.1 c21) x13.2.1, Ch.own n0 n0 (Sl (some ⟨b3, 0, none⟩) s8.1 c4) s8.1, Ch.ro 0 (Sl alist_0 list_0 clist_0) list_0] := H
   obtain ⟨x33, hx34, h'⟩ := bind_some h
   clear h
   have h := h'; clear h'
   obtain ⟨b36, o37, hi35, -⟩ := (H.own 3 rfl).ix hx34
   refine st (v := (pt b36 o37)) (rv_ix Try.underlying23 ti31 rfl rfl hi35) ?_
   obtain ⟨σ38, hw39, H, -⟩ := H.pub 0 rfl (Nat.le_refl _)
   rw [← hw39]; clear hw39
   refine st_exS (ex_store_own (e' := (r27.1, r27.2.1, r27.2.2)) (vs := [(I r27.1), (Sl a30 r27.2.1 c31), (I r27.2.2)]) (k := 0) H (i := 3) rfl ti31 hx34 hi35 rfl rfl rfl rfl rfl (Nat.le_of_ble_eq_true rfl) (by simp [plain]) (by rintro _ ⟨_, _, rfl, rfl, ⟨_, _, rfl, ⟨_, rfl, hR42⟩, rfl⟩⟩; exact ⟨[(I r27.1)], [(Sl a30 r27.2.1 c31), (I r27.2.2)], rfl, rfl, ⟨[(Sl a30 r27.2.1 c31)], [(I r27.2.2)], rfl, ⟨_, rfl, (H.ro 0 rfl)⟩, rfl⟩⟩)) (wanted_none _ rfl _) ?_
   rintro σ43 ⟨H, -⟩
   have hsl : (Sl (some ⟨b3, 0, none⟩) s8.1 c4) = (Sl (some ⟨b3, 0, none⟩) (s8.1.set s8.2.toNat (r27.1, r27.2.1, r27.2.2)) c4) := sl_len List.length_set.symm
   rw [hsl]; rw [hsl] at H; clear hsl
   refine w_end ?_
   refine q_blk ?_
   refine q_then ?_
   refine rg ?_
   refine st (v := (I (w64 (s8.2 + 1)))) (rv_add (a := s8.2) (b := 1) rfl rfl) ?_
   refine st (v := (I (w64 (s8.2 + 1)))) (rv_move rfl) ?_
   refine w_end ?_
   refine q_then ?_
   obtain rfl := Option.some.inj h
   exact ⟨_, rfl, _, σ43, fr_join ⟨rfl, rfl, rfl, rfl, trivial⟩, rfl, H.sel' [0, 4] rfl rfl, (ht10.trans List.length_set.symm), (List.length_set.trans hn11)⟩
  ·replace h := bif_f hb12 h
   refine c_exit ?_
   refine q_then_x ?_
   refine q_then_x ?_
   refine q_blk_hit ?_
   obtain rfl := Option.some.inj h
   obtain rfl := hres _ rfl
   exact ⟨rfl, _, σ9, fr_join ⟨rfl, trivial⟩, rfl, H.sel' [0] rfl rfl, ht10, hn11⟩
 ·clear hj
  have h := h'
  clear h' H
  rintro e a w ⟨rfl, ρ, σ44, rfl, rfl, H, ht45, hn46⟩
  refine q_then ?_
  refine c_seq ?_
  refine rg ?_
  refine st (v := (Sl (some ⟨b3, 0, none⟩) o7 c4)) (rv_move rfl) ?_
  refine st (v := (Sl (some ⟨b3, 0, none⟩) o7 c4)) (rv_assign rfl) ?_
  refine w_end ?_
  refine q_then ?_
  refine c_ret ?_
  obtain rfl := Option.some.inj h
  exact fin_ret (v := (Sl (some ⟨b3, 0, none⟩) o7 c4)) (results_ok Try.results67 (res_tmp (v := (Sl (some ⟨b3, 0, none⟩) o7 c4)) rfl res_nil) rfl) ⟨(some ⟨b3, 0, none⟩), c4, rfl, rfl, ht45⟩ (H.sel' [0] rfl rfl)

theorem c_impl_DropItem {list_0 : List (Int × (List Int) × Int)} {key_1 : Int} {alist_0 : Option Addr} {clist_0 : Nat} {r : (List (Int × (List Int) × Int)) × Bool} (h : M.impl_DropItem list_0 key_1 = some r) :
    Cal2 Try.prog 28 [(Sl alist_0 list_0 clist_0), (I key_1)] [Ch.ro 0 (Sl alist_0 list_0 clist_0) list_0] (fun n0 v L => ∃ (az1 : Option Addr), ∃ (cz2 : Nat), v = (.tuple #[(Sl az1 r.1 cz2), (B r.2)]) ∧ L = [Ch.own 0 0 (Sl az1 r.1 cz2) r.1]) := by
 refine cal2 (n := 25) Try.func28 rfl rfl rfl rfl ?_
 intro S0 σ0 n0 hn0 H
 unfold M.impl_DropItem at h
 refine c_seq ?_
 refine rg ?_
 refine st (v := (.slice none 0 0)) (rv_assign rfl) ?_
 refine st (v := (B false)) (rv_assign rfl) ?_
 refine w_end ?_
 refine q_then ?_
 refine c_seq ?_
 refine c_seq ?_
 refine rg ?_
 refine st (v := (Sl alist_0 list_0 clist_0)) (rv_move rfl) ?_
 obtain ⟨r1, hx2, h'⟩ := bind_some h
 clear h
 have h := h'; clear h'
 have hc3 := c_impl_ValidStore (alist_0 := alist_0) (clist_0 := clist_0) hx2
 refine st_call (cx_call hc3 (ent_f hc3.fn rfl) hn0 (show Hp S0 σ0 _ ([Ch.ro 0 (Sl alist_0 list_0 clist_0) list_0] ++ [Ch.ro 0 (Sl alist_0 list_0 clist_0) list_0]) from (H.sel' [0, 0] rfl rfl))) (wanted_none _ rfl _) ?_
 rintro _ σ4 ⟨_, ⟨rfl, rfl⟩, H, -⟩
 replace H : Hp S0 σ0 σ4 [Ch.ro 0 (Sl alist_0 list_0 clist_0) list_0] := H
 refine st (v := (B (!r1))) (rv_not rfl) ?_
 refine w_end ?_
 refine q_then ?_
 refine cd_cond (!r1) rfl (fun hb5 => ?_) (fun hb5 => ?_)
 ·replace h := bif_t hb5 h
  refine c_seq ?_
  refine rg ?_
  refine st (v := (.slice none 0 0)) (rv_assign rfl) ?_
  refine st (v := (B false)) (rv_assign rfl) ?_
  refine w_end ?_
  refine q_then ?_
  refine c_ret ?_
  refine q_then_r ?_
  replace H := H.nilOwn (Int × (List Int) × Int) 0 0
  obtain rfl := Option.some.inj h
  exact fin_ret (v := (.tuple #[(.slice none 0 0), (B false)])) (results_ok Try.results28 (res_tmp (v := (.slice none 0 0)) rfl (res_tmp (v := (B false)) rfl res_nil)) rfl) ⟨none, 0, rfl, rfl⟩ (H.sel' [0] rfl rfl)
 ·replace h := bif_f hb5 h
  refine c_skip ?_
  refine q_then ?_
  refine c_seq ?_
  refine rg ?_
  refine st (v := (Sl alist_0 list_0 clist_0)) (rv_move rfl) ?_
  refine st (v := (I key_1)) (rv_move rfl) ?_
  obtain ⟨r6, hx7, h'⟩ := bind_some h
  clear h
  have h := h'; clear h'
  have hc8 := c_impl_placeOf (alist_0 := alist_0) (clist_0 := clist_0) hx7
  refine st_call (cx_call hc8 (ent_f hc8.fn rfl) hn0 (show Hp S0 σ0 _ ([Ch.ro 0 (Sl alist_0 list_0 clist_0) list_0] ++ [Ch.ro 0 (Sl alist_0 list_0 clist_0) list_0]) from (H.sel' [0, 0] rfl rfl))) (wanted_none _ rfl _) ?_
  rintro _ σ9 ⟨_, ⟨rfl, rfl⟩, H, -⟩
  replace H : Hp S0 σ0 σ9 [Ch.ro 0 (Sl alist_0 list_0 clist_0) list_0] := H
  refine st (v := (.tuple #[(I r6.1), (B r6.2)])) (rv_move rfl) ?_
  refine st (v := (I r6.1)) (rv_extract rfl rfl) ?_
  refine st (v := (B r6.2)) (rv_extract rfl rfl) ?_
  refine st (v := (I r6.1)) (rv_assign rfl) ?_
  refine st (v := (B r6.2)) (rv_assign rfl) ?_
  refine w_end ?_
  refine q_then ?_
  refine c_seq ?_
  refine c_seq ?_
  refine rg ?_
  refine st (v := (B r6.2)) (rv_move rfl) ?_
  refine st (v := (B (!r6.2))) (rv_not rfl) ?_
  refine w_end ?_
  refine q_then ?_
  refine cd_cond (!r6.2) rfl (fun hb10 => ?_) (fun hb10 => ?_)
  ·replace h := bif_t hb10 h
   refine c_seq ?_
   refine rg ?_
   refine st (v := (.slice none 0 0)) (rv_assign rfl) ?_
   refine st (v := (B false)) (rv_assign rfl) ?_
   refine w_end ?_
   refine q_then ?_
   refine c_ret ?_
   refine q_then_r ?_
   replace H := H.nilOwn (Int × (List Int) × Int) 0 0
   obtain rfl := Option.some.inj h
   exact fin_ret (v := (.tuple #[(.slice none 0 0), (B false)])) (results_ok Try.results28 (res_tmp (v := (.slice none 0 0)) rfl (res_tmp (v := (B false)) rfl res_nil)) rfl) ⟨none, 0, rfl, rfl⟩ (H.sel' [0] rfl rfl)
  ·replace h := bif_f hb10 h
   refine c_skip ?_
   refine q_then ?_
   refine c_seq ?_
   refine rg ?_
   refine st (v := (Sl alist_0 list_0 clist_0)) (rv_move rfl) ?_
   obtain ⟨r11, hx12, h'⟩ := bind_some h
   clear h
   have h := h'; clear h'
   have hc13 := c_impl_copyItems (alist_0 := alist_0) (clist_0 := clist_0) hx12
   refine st_call (cx_call hc13 (ent_f hc13.fn rfl) hn0 (show Hp S0 σ0 _ ([Ch.ro 0 (Sl alist_0 list_0 clist_0) list_0] ++ [Ch.ro 0 (Sl alist_0 list_0 clist_0) list_0]) from (H.sel' [0, 0] rfl rfl))) (wanted_none _ rfl _) ?_
   rintro _ σ17 ⟨_, ⟨a14, c15, rfl, rfl, ht16⟩, H, -⟩
   replace H : Hp S0 σ0 σ17 [Ch.own n0 n0 (Sl a14 r11 c15) r11, Ch.ro 0 (Sl alist_0 list_0 clist_0) list_0] := H
   refine st (v := (I r6.1)) (rv_move rfl) ?_
   refine st (v := (I r6.1)) (rv_move rfl) ?_
   refine st (v := (I (w64 (r6.1 + 1)))) (rv_add (a := r6.1) (b := 1) rfl rfl) ?_
   replace H := H.ownLow 0 0 0 rfl (Nat.zero_le _) (Nat.zero_le _)
   obtain ⟨r18, hx19, h'⟩ := bind_some h
   clear h
   have h := h'; clear h'
   have hc20 := c_slices_Delete_impl_Item_impl_Item (as_0 := a14) (cs_0 := c15) hx19
   refine st_call (cx_call hc20 (ent_f hc20.fn rfl) hn0 (show Hp S0 σ0 _ ([Ch.own 0 0 (Sl a14 r11 c15) r11] ++ [Ch.ro 0 (Sl alist_0 list_0 clist_0) list_0]) from (H.sel' [0, 1] rfl rfl))) (wanted_none _ rfl _) ?_
   rintro _ σ23 ⟨_, ⟨a21, c22, rfl, rfl⟩, H, -⟩
   replace H : Hp S0 σ0 σ23 [Ch.own 0 0 (Sl a21 r18 c22) r18, Ch.ro 0 (Sl alist_0 list_0 clist_0) list_0] := H
   refine st (v := (Sl a21 r18 c22)) (rv_assign rfl) ?_
   refine st (v := (B true)) (rv_assign rfl) ?_
   refine w_end ?_
   refine q_then ?_
   refine c_ret ?_
   obtain rfl := Option.some.inj h
   exact fin_ret (v := (.tuple #[(Sl a21 r18 c22), (B true)])) (results_ok Try.results28 (res_tmp (v := (Sl a21 r18 c22)) rfl (res_tmp (v := (B true)) rfl res_nil)) rfl) ⟨a21, c22, rfl, rfl⟩ (H.sel' [0] rfl rfl)

theorem c_laws_keys {list_0 : List (Int × Int)} {alist_0 : Option Addr} {clist_0 : Nat} {r : (List Int)} (h : M.laws_keys list_0 = some r) :
    Cal2 Try.prog 41 [(Sl alist_0 list_0 clist_0)] [Ch.ro 0 (Sl alist_0 list_0 clist_0) list_0] (fun n0 v L => ∃ (az1 : Option Addr), ∃ (cz2 : Nat), v = (Sl az1 r cz2) ∧ L = [Ch.own n0 n0 (Sl az1 r cz2) r]) := by
 refine cal2 (n := 21) Try.func41 rfl rfl rfl rfl ?_
 intro S0 σ0 n0 hn0 H
 unfold M.laws_keys at h
 refine c_seq ?_
 refine rg ?_
 refine st (v := (.slice none 0 0)) (rv_assign rfl) ?_
 refine w_end ?_
 refine q_then ?_
 refine c_seq ?_
 refine rg ?_
 refine st_ex (ex_buildSlice (el := n0) (xs := ([] : List Int)) (ps := []) (cs := []) H hn0 Try.underlying24 ti3 rfl rfl (by kernel_rfl) (.nil) rfl) (wanted_none _ rfl _) ?_
 rintro _ σ2 ⟨b1, rfl, H, -⟩
 refine st (v := (Sl (some ⟨b1, 0, none⟩) ([] : List Int) 0)) (rv_assign rfl) ?_
 refine w_end ?_
 refine q_then ?_
 refine c_seq ?_
 refine c_seq ?_
 refine rg ?_
 refine st (v := (I 0)) (rv_assign rfl) ?_
 refine w_end ?_
 refine q_then ?_
 obtain ⟨o3, hj, h'⟩ := bind_some h
 clear h
 refine c_cut (fun e a w => e = .normal ∧ ∃ (ρ : Nat → Value) (σ : St) (aj1 : Option Addr) (cj2 : Nat), a = fr 21 (updL ρ [(3, (Sl aj1 o3 cj2))]) ∧ w = σ.w ∧ Hp S0 σ0 σ [Ch.own n0 n0 (Sl aj1 o3 cj2) o3]) ?_ ?_
 ·clear h'
  rename _ = some o3 => h
  refine c_blk ?_
  refine wp_loopM _ h (fun s4 a w => ∃ (ρ : Nat → Value) (σ : St) (aj1 : Option Addr) (cj2 : Nat), a = fr 21 (updL ρ [(0, (Sl alist_0 list_0 clist_0)), (3, (Sl aj1 s4.1 cj2)), (4, (I s4.2))]) ∧ w = σ.w ∧ Hp S0 σ0 σ [Ch.ro 0 (Sl alist_0 list_0 clist_0) list_0, Ch.own n0 n0 (Sl aj1 s4.1 cj2) s4.1]) ⟨_, σ2, (some ⟨b1, 0, none⟩), 0, fr_join ⟨rfl, rfl, rfl, trivial⟩, rfl, H.sel' [1, 0] rfl rfl⟩ ?_
  clear h H
  rintro s4 a w o ⟨ρ, σ5, a6, c7, rfl, rfl, H⟩ h hres
  refine c_seq ?_
  refine c_seq ?_
  refine rg ?_
  refine st (v := (I s4.2)) (rv_move rfl) ?_
  refine st (v := (Sl alist_0 list_0 clist_0)) (rv_move rfl) ?_
  refine st (v := (I (list_0.length : Int))) (rv_len Try.underlying27 rfl) ?_
  refine st (v := (B (decide (s4.2 < (list_0.length : Int))))) (rv_lss (a := s4.2) (b := (list_0.length : Int)) rfl rfl) ?_
  refine w_end ?_
  refine q_then ?_
  refine cd_cond (decide (s4.2 < (list_0.length : Int))) rfl (fun hb8 => ?_) (fun hb8 => ?_)
  ·replace h := bif_t hb8 h
   refine c_skip ?_
   refine q_then ?_
   refine c_seq ?_
   refine c_blk ?_
   refine rg ?_
   refine st (v := (Sl a6 s4.1 c7)) (rv_move rfl) ?_
   refine st (v := (Sl alist_0 list_0 clist_0)) (rv_move rfl) ?_
   refine st (v := (I s4.2)) (rv_move rfl) ?_
   obtain ⟨x9, hx10, h'⟩ := bind_some h
   clear h
   have h := h'; clear h'
   obtain ⟨b12, o13, hi11, -⟩ := (H.ro 0 rfl).ix hx10
   refine st (v := (pt b12 o13)) (rv_ix Try.underlying27 ti33 rfl rfl hi11) ?_
   refine st (v := (pt b12 (o13 + 0))) (rv_fieldAddr (off := 0) (ft := 3) Try.underlying33 rfl ti3 rfl rfl) ?_
   have hc14 := ((H.ro 0 rfl).at hx10 hi11).fst.int
   refine st (v := (I x9.1)) (rv_load1 Try.underlying3 rfl rfl hc14) ?_
   refine st_ex (ex_buildSlice (el := n0) (xs := ([x9.1] : List Int)) (ps := [(0, (I x9.1))]) (cs := [(I x9.1)]) H hn0 Try.underlying24 ti3 rfl rfl (by kernel_rfl) (.cons (c := [(I x9.1)]) rfl (.nil)) rfl) (wanted_none _ rfl _) ?_
   rintro _ σ16 ⟨b15, rfl, H, -⟩
   obtain ⟨xs17, hx18, h'⟩ := bind_some h
   clear h
   have h := h'; clear h'
   refine st_ex (ex_append H (i := 2) rfl Try.underlying24 Try.underlying24 ti3 rfl rfl (by decide) (H.own 0 rfl).rd hx18 hn0 rfl rfl) (wanted_none _ rfl _) ?_
   rintro _ σ21 ⟨a19, c20, rfl, H, -⟩
   refine st (v := (Sl a19 xs17 c20)) (rv_assign rfl) ?_
   refine w_end ?_
   refine q_blk ?_
   refine q_then ?_
   refine rg ?_
   refine st (v := (I s4.2)) (rv_move rfl) ?_
   refine st (v := (I (w64 (s4.2 + 1)))) (rv_add (a := s4.2) (b := 1) rfl rfl) ?_
   refine st (v := (I (w64 (s4.2 + 1)))) (rv_assign rfl) ?_
   refine w_end ?_
   refine q_then ?_
   obtain rfl := Option.some.inj h
   exact ⟨_, rfl, _, σ21, a19, c20, fr_join ⟨rfl, rfl, rfl, trivial⟩, rfl, H.sel' [2, 0] rfl rfl⟩
  ·replace h := bif_f hb8 h
   refine c_exit ?_
   refine q_then_x ?_
   refine q_then_x ?_
   refine q_blk_hit ?_
   obtain rfl := Option.some.inj h
   obtain rfl := hres _ rfl
   exact ⟨rfl, _, σ5, a6, c7, fr_join ⟨rfl, trivial⟩, rfl, H.sel' [1] rfl rfl⟩
 ·clear hj
  have h := h'
  clear h' H
  rintro e a w ⟨rfl, ρ, σ22, a23, c24, rfl, rfl, H⟩
  refine q_then ?_
  refine c_seq ?_
  refine rg ?_
  refine st (v := (Sl a23 o3 c24)) (rv_move rfl) ?_
  refine st (v := (Sl a23 o3 c24)) (rv_assign rfl) ?_
  refine w_end ?_
  refine q_then ?_
  refine c_ret ?_
  obtain rfl := Option.some.inj h
  exact fin_ret (v := (Sl a23 o3 c24)) (results_ok Try.results41 (res_tmp (v := (Sl a23 o3 c24)) rfl res_nil) rfl) ⟨a23, c24, rfl, rfl⟩ (H.sel' [0] rfl rfl)

theorem c_laws_FnNearestDrop {code_0 : List UInt8} {acode_0 : Option Addr} {ccode_0 : Nat} {r : Bool} (h : M.laws_FnNearestDrop code_0 = some r) :
    Cal2 Try.prog 12 [(Sl acode_0 code_0 ccode_0)] [Ch.ro 0 (Sl acode_0 code_0 ccode_0) code_0] (fun n0 v L => v = (B r) ∧ L = []) := by
 refine cal2 (n := 82) Try.func12 rfl rfl rfl rfl ?_
 intro S0 σ0 n0 hn0 H
 unfold M.laws_FnNearestDrop at h
 refine c_seq ?_
 refine rg ?_
 refine st (v := (B false)) (rv_assign rfl) ?_
 refine w_end ?_
 refine q_then ?_
 refine c_seq ?_
 refine c_seq ?_
 refine rg ?_
 refine st (v := (Sl acode_0 code_0 ccode_0)) (rv_move rfl) ?_
 refine st (v := (I (code_0.length : Int))) (rv_len Try.underlying22 rfl) ?_
 refine st (v := (B (decide (1048576 < (code_0.length : Int))))) (rv_gtr (a := (code_0.length : Int)) (b := 1048576) rfl rfl) ?_
 refine w_end ?_
 refine q_then ?_
 refine cd_cond (decide (1048576 < (code_0.length : Int))) rfl (fun hb1 => ?_) (fun hb1 => ?_)
 ·replace h := bif_t hb1 h
  refine c_seq ?_
  refine rg ?_
  refine st (v := (B true)) (rv_assign rfl) ?_
  refine w_end ?_
  refine q_then ?_
  refine c_ret ?_
  refine q_then_r ?_
  obtain rfl := Option.some.inj h
  exact fin_ret (v := (B true)) (results_ok Try.results12 (res_tmp (v := (B true)) rfl res_nil) rfl) ⟨rfl, rfl⟩ (H.sel' [] rfl rfl)
 ·replace h := bif_f hb1 h
  refine c_skip ?_
  refine q_then ?_
  refine c_seq ?_
  refine rg ?_
  refine st (v := (Sl acode_0 code_0 ccode_0)) (rv_move rfl) ?_
  obtain ⟨r2, hx3, h'⟩ := bind_some h
  clear h
  have h := h'; clear h'
  have hc4 := c_spec_DrawNearest (acode_0 := acode_0) (ccode_0 := ccode_0) hx3
  refine st_call (cx_call hc4 (ent_f hc4.fn rfl) hn0 (show Hp S0 σ0 _ ([Ch.ro 0 (Sl acode_0 code_0 ccode_0) code_0] ++ [Ch.ro 0 (Sl acode_0 code_0 ccode_0) code_0]) from (H.sel' [0, 0] rfl rfl))) (wanted_none _ rfl _) ?_
  rintro _ σ9 ⟨_, ⟨a5, c6, a7, c8, rfl, rfl⟩, H, -⟩
  replace H : Hp S0 σ0 σ9 [Ch.own n0 n0 (Sl a5 r2.1 c6) r2.1, Ch.own n0 n0 (Sl a7 r2.2.2.1 c8) r2.2.2.1, Ch.ro 0 (Sl acode_0 code_0 ccode_0) code_0] := H
  refine st (v := (.tuple #[(Sl a5 r2.1 c6), (I r2.2.1), (Sl a7 r2.2.2.1 c8), (I r2.2.2.2)])) (rv_move rfl) ?_
  refine st (v := (Sl a5 r2.1 c6)) (rv_extract rfl rfl) ?_
  refine st (v := (I r2.2.1)) (rv_extract rfl rfl) ?_
  refine st (v := (Sl a7 r2.2.2.1 c8)) (rv_extract rfl rfl) ?_
  refine st (v := (I r2.2.2.2)) (rv_extract rfl rfl) ?_
  refine st (v := (Sl a5 r2.1 c6)) (rv_assign rfl) ?_
  refine st (v := (I r2.2.1)) (rv_assign rfl) ?_
  refine st (v := (Sl a7 r2.2.2.1 c8)) (rv_assign rfl) ?_
  refine st (v := (I r2.2.2.2)) (rv_assign rfl) ?_
  refine w_end ?_
  refine q_then ?_
  refine c_seq ?_
  refine rg ?_
  refine st (v := (Sl a5 r2.1 c6)) (rv_move rfl) ?_
  refine st (v := (I r2.2.1)) (rv_move rfl) ?_
  refine st (v := (Sl a7 r2.2.2.1 c8)) (rv_move rfl) ?_
  refine st (v := (I r2.2.2.2)) (rv_move rfl) ?_
  obtain ⟨r10, hx11, h'⟩ := bind_some h
  clear h
  have h := h'; clear h'
  have hc12 := c_impl_Nearest (alist_0 := a5) (clist_0 := c6) (aat_2 := a7) (cat_2 := c8) hx11
  have hle := Nat.le_trans hn0 H.size
  refine st_call (cx_lend (Loan.lend (Loan.lend Loan.nil)) hc12 (ent_f hc12.fn rfl) (show Hp S0 σ0 _ ([Ch.own n0 n0 (Sl a5 r2.1 c6) r2.1, Ch.own n0 n0 (Sl a7 r2.2.2.1 c8) r2.2.2.1] ++ ([] ++ [Ch.ro 0 (Sl acode_0 code_0 ccode_0) code_0])) from (H.sel' [0, 1, 2] rfl rfl)) (by rintro _ _ _ ⟨_, _, rfl, rfl⟩; exact ⟨Ab.ownSc, trivial⟩)) (wanted_none _ rfl _) ?_
  rintro _ σ15 ⟨_, ⟨a13, c14, rfl, rfl⟩, H, -, -⟩
  replace H : Hp S0 σ0 σ15 [Ch.own 0 σ9.size (Sl a13 r10 c14) r10, Ch.own n0 n0 (Sl a5 r2.1 c6) r2.1, Ch.own n0 n0 (Sl a7 r2.2.2.1 c8) r2.2.2.1, Ch.ro 0 (Sl acode_0 code_0 ccode_0) code_0] := H
  replace H := H.ownLow 0 0 n0 rfl (Nat.le_refl _) hle
  clear hle
  replace H : Hp S0 σ0 σ15 [Ch.own 0 n0 (Sl a13 r10 c14) r10, Ch.own n0 n0 (Sl a5 r2.1 c6) r2.1, Ch.own n0 n0 (Sl a7 r2.2.2.1 c8) r2.2.2.1, Ch.ro 0 (Sl acode_0 code_0 ccode_0) code_0] := H
  refine st (v := (Sl a13 r10 c14)) (rv_assign rfl) ?_
  refine w_end ?_
  refine q_then ?_
  refine c_seq ?_
  refine c_seq ?_
  obtain ⟨o16, hj, h'⟩ := bind_some h
  clear h
  refine c_cut (fun e a w => e = .normal ∧ ∃ (ρ : Nat → Value) (σ : St), a = fr 82 (updL ρ [(3, (Sl a5 r2.1 c6)), (4, (I r2.2.1)), (5, (Sl a7 r2.2.2.1 c8)), (6, (I r2.2.2.2)), (7, (Sl a13 r10 c14)), (38, (B o16))]) ∧ w = σ.w ∧ Hp S0 σ0 σ [Ch.own n0 n0 (Sl a5 r2.1 c6) r2.1, Ch.own n0 n0 (Sl a7 r2.2.2.1 c8) r2.2.2.1, Ch.own 0 n0 (Sl a13 r10 c14) r10]) ?_ ?_
  ·clear h'
   rename _ = some o16 => h
   refine rg ?_
   refine st (v := (Sl a13 r10 c14)) (rv_move rfl) ?_
   refine st (v := (Sl a5 r2.1 c6)) (rv_move rfl) ?_
   refine st (v := (I r2.2.1)) (rv_move rfl) ?_
   refine st (v := (Sl a7 r2.2.2.1 c8)) (rv_move rfl) ?_
   refine st (v := (I r2.2.2.2)) (rv_move rfl) ?_
   obtain ⟨r17, hx18, h'⟩ := bind_some h
   clear h
   have h := h'; clear h'
   have hc19 := c_spec_Nearest (alist_0 := a5) (clist_0 := c6) (aat_2 := a7) (cat_2 := c8) hx18
   have hle := Nat.le_trans hn0 H.size
   refine st_call (cx_lend (Loan.lend (Loan.lend Loan.nil)) hc19 (ent_f hc19.fn rfl) (show Hp S0 σ0 _ ([Ch.own n0 n0 (Sl a5 r2.1 c6) r2.1, Ch.own n0 n0 (Sl a7 r2.2.2.1 c8) r2.2.2.1] ++ ([] ++ [Ch.own 0 n0 (Sl a13 r10 c14) r10, Ch.ro 0 (Sl acode_0 code_0 ccode_0) code_0])) from (H.sel' [1, 2, 0, 3] rfl rfl)) (by rintro _ _ _ ⟨_, _, rfl, rfl⟩; exact ⟨Ab.ownSc, trivial⟩)) (wanted_none _ rfl _) ?_
   rintro _ σ22 ⟨_, ⟨a20, c21, rfl, rfl⟩, H, -, -⟩
   replace H : Hp S0 σ0 σ22 [Ch.own σ15.size σ15.size (Sl a20 r17 c21) r17, Ch.own n0 n0 (Sl a5 r2.1 c6) r2.1, Ch.own n0 n0 (Sl a7 r2.2.2.1 c8) r2.2.2.1, Ch.own 0 n0 (Sl a13 r10 c14) r10, Ch.ro 0 (Sl acode_0 code_0 ccode_0) code_0] := H
   replace H := H.ownLow 0 n0 n0 rfl hle hle
   clear hle
   replace H : Hp S0 σ0 σ22 [Ch.own n0 n0 (Sl a20 r17 c21) r17, Ch.own n0 n0 (Sl a5 r2.1 c6) r2.1, Ch.own n0 n0 (Sl a7 r2.2.2.1 c8) r2.2.2.1, Ch.own 0 n0 (Sl a13 r10 c14) r10, Ch.ro 0 (Sl acode_0 code_0 ccode_0) code_0] := H
   obtain ⟨σ23, hw24, H, -⟩ := H.pub 0 rfl (Nat.le_refl _)
   rw [← hw24]; clear hw24
   replace H := H.roLow 0 0 rfl (Nat.zero_le _)
   obtain ⟨r25, hx26, h'⟩ := bind_some h
   clear h
   have h := h'; clear h'
   have hc27 := c_laws_equalHits (aa_0 := a13) (ca_0 := c14) (ab_1 := a20) (cb_1 := c21) hx26
   have hle := Nat.le_trans hn0 H.size
   refine st_call (cx_lend (Loan.lend (Loan.same Loan.nil)) hc27 (ent_f hc27.fn rfl) (show Hp S0 σ0 _ ([Ch.own 0 n0 (Sl a13 r10 c14) r10] ++ ([Ch.ro 0 (Sl a20 r17 c21) r17] ++ [Ch.ro 0 (Sl a20 r17 c21) r17, Ch.ro n0 (Sl a20 r17 c21) r17, Ch.own n0 n0 (Sl a5 r2.1 c6) r2.1, Ch.own n0 n0 (Sl a7 r2.2.2.1 c8) r2.2.2.1, Ch.ro 0 (Sl acode_0 code_0 ccode_0) code_0])) from (H.sel' [4, 0, 0, 1, 2, 3, 5] rfl rfl)) (by rintro _ _ _ ⟨rfl, rfl⟩; exact trivial)) (wanted_none _ rfl _) ?_
   rintro _ σ28 ⟨_, ⟨rfl, rfl⟩, H, -, -⟩
   replace H : Hp S0 σ0 σ28 [Ch.own 0 n0 (Sl a13 r10 c14) r10, Ch.ro 0 (Sl a20 r17 c21) r17, Ch.ro n0 (Sl a20 r17 c21) r17, Ch.own n0 n0 (Sl a5 r2.1 c6) r2.1, Ch.own n0 n0 (Sl a7 r2.2.2.1 c8) r2.2.2.1, Ch.ro 0 (Sl acode_0 code_0 ccode_0) code_0] := H
   clear hle
   replace H : Hp S0 σ0 σ28 [Ch.own 0 n0 (Sl a13 r10 c14) r10, Ch.ro 0 (Sl a20 r17 c21) r17, Ch.ro n0 (Sl a20 r17 c21) r17, Ch.own n0 n0 (Sl a5 r2.1 c6) r2.1, Ch.own n0 n0 (Sl a7 r2.2.2.1 c8) r2.2.2.1, Ch.ro 0 (Sl acode_0 code_0 ccode_0) code_0] := H
   refine st (v := (B (!r25))) (rv_not rfl) ?_
   refine st (v := (B (!r25))) (rv_move rfl) ?_
   rcases Bool.eq_false_or_eq_true (!r25) with hb29 | hb29
   ·replace h := bif_t hb29 h
    refine st_skip (congrArg some hb29) ?_
    refine st_skip (congrArg some hb29) ?_
    refine st_skip (congrArg some hb29) ?_
    refine st (v := (B true)) (rv_pick_t (congrArg B hb29) rfl) ?_
    refine w_end ?_
    obtain rfl := Option.some.inj h
    exact ⟨rfl, _, σ28, fr_join ⟨rfl, rfl, rfl, rfl, rfl, rfl, trivial⟩, rfl, H.sel' [3, 4, 0] rfl rfl⟩
   ·replace h := bif_f hb29 h
    refine st_g (v := (Sl a13 r10 c14)) (congrArg some hb29) (rv_move rfl) ?_
    refine st_g (v := (I (r10.length : Int))) (congrArg some hb29) (rv_len Try.underlying27 rfl) ?_
    refine st_g (v := (B ((r10.length : Int) == 0))) (congrArg some hb29) (rv_eql (a := (r10.length : Int)) (b := 0) rfl rfl) ?_
    refine st (v := (B ((r10.length : Int) == 0))) (rv_pick_f (congrArg B hb29) rfl) ?_
    refine w_end ?_
    obtain rfl := Option.some.inj h
    exact ⟨rfl, _, σ28, fr_join ⟨rfl, rfl, rfl, rfl, rfl, rfl, trivial⟩, rfl, H.sel' [3, 4, 0] rfl rfl⟩
  ·clear hj
   have h := h'
   clear h' H
   rintro e a w ⟨rfl, ρ, σ30, rfl, rfl, H⟩
   refine q_then ?_
   refine cd_cond o16 rfl (fun hb31 => ?_) (fun hb31 => ?_)
   ·replace h := bif_t hb31 h
    refine c_seq ?_
    refine rg ?_
    refine st (v := (Sl a13 r10 c14)) (rv_move rfl) ?_
    refine st (v := (Sl a5 r2.1 c6)) (rv_move rfl) ?_
    refine st (v := (I r2.2.1)) (rv_move rfl) ?_
    refine st (v := (Sl a7 r2.2.2.1 c8)) (rv_move rfl) ?_
    refine st (v := (I r2.2.2.2)) (rv_move rfl) ?_
    obtain ⟨σ32, hw33, H, -⟩ := H.pub 0 rfl (Nat.le_refl _)
    rw [← hw33]; clear hw33
    obtain ⟨σ34, hw35, H, -⟩ := H.pub 1 rfl (Nat.le_refl _)
    rw [← hw35]; clear hw35
    replace H := H.roLow 1 0 rfl (Nat.zero_le _)
    replace H := H.roLow 1 0 rfl (Nat.zero_le _)
    obtain ⟨r36, hx37, h'⟩ := bind_some h
    clear h
    have h := h'; clear h'
    have hc38 := c_spec_Nearest (alist_0 := a5) (clist_0 := c6) (aat_2 := a7) (cat_2 := c8) hx37
    refine st_call (cx_call hc38 (ent_f hc38.fn rfl) hn0 (show Hp S0 σ0 _ ([Ch.ro 0 (Sl a5 r2.1 c6) r2.1, Ch.ro 0 (Sl a7 r2.2.2.1 c8) r2.2.2.1] ++ [Ch.ro 0 (Sl a7 r2.2.2.1 c8) r2.2.2.1, Ch.ro 0 (Sl a5 r2.1 c6) r2.1, Ch.ro n0 (Sl a7 r2.2.2.1 c8) r2.2.2.1, Ch.ro n0 (Sl a5 r2.1 c6) r2.1, Ch.own 0 n0 (Sl a13 r10 c14) r10]) from (H.sel' [1, 0, 0, 1, 2, 3, 4] rfl rfl))) (wanted_none _ rfl _) ?_
    rintro _ σ41 ⟨_, ⟨a39, c40, rfl, rfl⟩, H, -⟩
    replace H : Hp S0 σ0 σ41 [Ch.own n0 n0 (Sl a39 r36 c40) r36, Ch.ro 0 (Sl a7 r2.2.2.1 c8) r2.2.2.1, Ch.ro 0 (Sl a5 r2.1 c6) r2.1, Ch.ro n0 (Sl a7 r2.2.2.1 c8) r2.2.2.1, Ch.ro n0 (Sl a5 r2.1 c6) r2.1, Ch.own 0 n0 (Sl a13 r10 c14) r10] := H
    replace H := H.ownLow 5 0 0 rfl (Nat.le_refl _) (Nat.zero_le _)
    obtain ⟨σ42, hw43, H, -⟩ := H.pub 0 rfl (Nat.le_refl _)
    rw [← hw43]; clear hw43
    obtain ⟨σ44, hw45, H, -⟩ := H.pub 1 rfl (Nat.le_refl _)
    rw [← hw45]; clear hw45
    replace H := H.roLow 0 0 rfl (Nat.zero_le _)
    obtain ⟨r46, hx47, h'⟩ := bind_some h
    clear h
    have h := h'; clear h'
    have hc48 := c_laws_equalHits (aa_0 := a13) (ca_0 := c14) (ab_1 := a39) (cb_1 := c40) hx47
    refine st_call (cx_call hc48 (ent_f hc48.fn rfl) hn0 (show Hp S0 σ0 _ ([Ch.ro 0 (Sl a13 r10 c14) r10, Ch.ro 0 (Sl a39 r36 c40) r36] ++ [Ch.ro 0 (Sl a39 r36 c40) r36, Ch.ro n0 (Sl a39 r36 c40) r36, Ch.ro 0 (Sl a13 r10 c14) r10, Ch.ro 0 (Sl a7 r2.2.2.1 c8) r2.2.2.1, Ch.ro 0 (Sl a5 r2.1 c6) r2.1, Ch.ro n0 (Sl a7 r2.2.2.1 c8) r2.2.2.1, Ch.ro n0 (Sl a5 r2.1 c6) r2.1]) from (H.sel' [2, 0, 0, 1, 2, 3, 4, 5, 6] rfl rfl))) (wanted_none _ rfl _) ?_
    rintro _ σ49 ⟨_, ⟨rfl, rfl⟩, H, -⟩
    replace H : Hp S0 σ0 σ49 [Ch.ro 0 (Sl a39 r36 c40) r36, Ch.ro n0 (Sl a39 r36 c40) r36, Ch.ro 0 (Sl a13 r10 c14) r10, Ch.ro 0 (Sl a7 r2.2.2.1 c8) r2.2.2.1, Ch.ro 0 (Sl a5 r2.1 c6) r2.1, Ch.ro n0 (Sl a7 r2.2.2.1 c8) r2.2.2.1, Ch.ro n0 (Sl a5 r2.1 c6) r2.1] := H
    refine st (v := (B r46)) (rv_assign rfl) ?_
    refine w_end ?_
    refine q_then ?_
    refine c_ret ?_
    refine q_then_r ?_
    obtain rfl := Option.some.inj h
    exact fin_ret (v := (B r46)) (results_ok Try.results12 (res_tmp (v := (B r46)) rfl res_nil) rfl) ⟨rfl, rfl⟩ (H.sel' [] rfl rfl)
   ·replace h := bif_f hb31 h
    refine c_skip ?_
    refine q_then ?_
    refine c_seq ?_
    refine c_seq ?_
    refine rg ?_
    refine st (v := (I 0)) (rv_assign rfl) ?_
    refine w_end ?_
    refine q_then ?_
    obtain ⟨o50, hj, h'⟩ := bind_some h
    clear h
    refine c_cut (fun e a w => (∃ t, o50 = (.inl t) ∧ e = .normal ∧ ∃ (ρ : Nat → Value) (σ : St), a = fr 82 (updL ρ []) ∧ w = σ.w ∧ Hp S0 σ0 σ []) ∨ (∃ t, o50 = (.inr t) ∧ e = .ret ∧ ∃ (ρ : Nat → Value) (σ : St), a = fr 82 (updL ρ [(2, (B t))]) ∧ w = σ.w ∧ Hp S0 σ0 σ [])) ?_ ?_
    ·clear h'
     rename _ = some o50 => h
     refine c_blk ?_
     obtain ⟨σ52, hw53, H, -⟩ := H.pub 0 rfl (Nat.le_refl _)
     rw [← hw53]; clear hw53
     replace H := H.ownLow 2 0 0 rfl (Nat.le_refl _) (Nat.zero_le _)
     obtain ⟨σ54, hw55, H, -⟩ := H.pub 0 rfl (Nat.le_refl _)
     rw [← hw55]; clear hw55
     refine wp_loopM _ h (fun s51 a w => ∃ (ρ : Nat → Value) (σ : St), a = fr 82 (updL ρ [(3, (Sl a5 r2.1 c6)), (4, (I r2.2.1)), (5, (Sl a7 r2.2.2.1 c8)), (6, (I r2.2.2.2)), (7, (Sl a13 r10 c14)), (8, (I s51))]) ∧ w = σ.w ∧ Hp S0 σ0 σ [Ch.ro n0 (Sl a5 r2.1 c6) r2.1, Ch.own n0 n0 (Sl a7 r2.2.2.1 c8) r2.2.2.1, Ch.ro 0 (Sl a13 r10 c14) r10]) ⟨_, σ54, fr_join ⟨rfl, rfl, rfl, rfl, rfl, rfl, trivial⟩, rfl, H.sel' [1, 2, 0] rfl rfl⟩ ?_
     clear h H
     rintro s51 a w o ⟨ρ, σ56, rfl, rfl, H⟩ h hres
     refine c_seq ?_
     refine c_seq ?_
     refine rg ?_
     refine st (v := (I s51)) (rv_move rfl) ?_
     refine st (v := (Sl a5 r2.1 c6)) (rv_move rfl) ?_
     refine st (v := (I (r2.1.length : Int))) (rv_len Try.underlying23 rfl) ?_
     refine st (v := (B (decide (s51 < (r2.1.length : Int))))) (rv_lss (a := s51) (b := (r2.1.length : Int)) rfl rfl) ?_
     refine w_end ?_
     refine q_then ?_
     refine cd_cond (decide (s51 < (r2.1.length : Int))) rfl (fun hb57 => ?_) (fun hb57 => ?_)
     ·replace h := bif_t hb57 h
      refine c_skip ?_
      refine q_then ?_
      refine c_seq ?_
      obtain ⟨o58, hj, h'⟩ := bind_some h
      clear h
      refine c_cut (fun e a w => (∃ t, o58 = (.inl t) ∧ e = .normal ∧ ∃ (ρ : Nat → Value) (σ : St), a = fr 82 (updL ρ [(3, (Sl a5 r2.1 c6)), (4, (I r2.2.1)), (5, (Sl a7 r2.2.2.1 c8)), (6, (I r2.2.2.2)), (7, (Sl a13 r10 c14)), (8, (I s51))]) ∧ w = σ.w ∧ Hp S0 σ0 σ [Ch.ro n0 (Sl a5 r2.1 c6) r2.1, Ch.own n0 n0 (Sl a7 r2.2.2.1 c8) r2.2.2.1, Ch.ro 0 (Sl a13 r10 c14) r10]) ∨ (∃ t, o58 = (.inr t) ∧ e = .ret ∧ ∃ (ρ : Nat → Value) (σ : St), a = fr 82 (updL ρ [(2, (B t))]) ∧ w = σ.w ∧ Hp S0 σ0 σ [])) ?_ ?_
      ·clear h'
       rename _ = some o58 => h
       refine c_blk ?_
       refine c_seq ?_
       refine c_seq ?_
       obtain ⟨r59, hx60, h'⟩ := bind_some h
       clear h
       have h := h'; clear h'
       have hc61 := c_laws_keys (alist_0 := a13) (clist_0 := c14) hx60
       obtain ⟨x64, hx65, h'⟩ := bind_some h
       clear h
       have h := h'; clear h'
       obtain ⟨b67, o68, hi66, -⟩ := (H.ro 0 rfl).ix hx65
       have hc69 := ((H.ro 0 rfl).at hx65 hi66).fst.int
       have Hs := H
       refine rg2 (σ := σ56) (Nm := (Option Addr) × (Nat)) 7 [1] [[false], [true]] [[(0, 0)], [(0, 1)], [(0, 0), (1, 1)], [(0, 0), (1, 1)], [(0, 0), (1, 1)], [(0, 0), (1, 1)], [(0, 0), (1, 1)]] 1 [fun ((a62, c63) : (Option Addr) × (Nat)) => fun σm => Hp S0 σ0 σm [Ch.ro n0 (Sl a5 r2.1 c6) r2.1, Ch.own n0 n0 (Sl a7 r2.2.2.1 c8) r2.2.2.1, Ch.ro 0 (Sl a13 r10 c14) r10] ∧ Md (cov []) σ56 σm, fun ((a62, c63) : (Option Addr) × (Nat)) => fun σm => Hp S0 σ0 σm [Ch.own n0 n0 (Sl a62 r59 c63) r59, Ch.ro n0 (Sl a5 r2.1 c6) r2.1, Ch.own n0 n0 (Sl a7 r2.2.2.1 c8) r2.2.2.1, Ch.ro 0 (Sl a13 r10 c14) r10] ∧ Md (cov []) σ56 σm] [fun ((a62, c63) : (Option Addr) × (Nat)) => (Sl a13 r10 c14), fun ((a62, c63) : (Option Addr) × (Nat)) => (Sl a62 r59 c63), fun ((a62, c63) : (Option Addr) × (Nat)) => (Sl a5 r2.1 c6), fun ((a62, c63) : (Option Addr) × (Nat)) => (I s51), fun ((a62, c63) : (Option Addr) × (Nat)) => (pt b67 o68), fun ((a62, c63) : (Option Addr) × (Nat)) => (pt b67 (o68 + 0)), fun ((a62, c63) : (Option Addr) × (Nat)) => (I x64.1)] (none, 0) (by kernel_rfl) (by kernel_rfl) ?_ ?_ ?_
       ·intro σm m0
        exact ⟨H.grow (m0.mono fun _ h => h.elim), m0⟩
       ·refine all_cons (obs_v rfl (by
          intro k; rintro ⟨a62, c63⟩ ρ σm hJ hoff hdep
          have e7 : look 82 ρ 7 = (Sl a13 r10 c14) := look_off (hoff 7 rfl) rfl
          exact dp_v (v := (Sl a13 r10 c14)) (wanted_none _ rfl _) (rv_move e7) rfl hJ)) ?_
        refine all_cons (by
          refine ⟨?_, ?_⟩
          ·rintro ⟨a62, c63⟩ ρ σm hJ hoff hdep
           have e52 : look 82 ρ 52 = (Sl a13 r10 c14) := hdep 0 rfl rfl 52 rfl
           obtain ⟨H, m⟩ := id hJ
           refine dp_cx (wanted_none _ rfl _) (cx_call hc61 (ent_f hc61.fn (by show [look 82 ρ 52] = _; rw [e52])) hn0 (show Hp S0 σ0 _ ([Ch.ro 0 (Sl a13 r10 c14) r10] ++ [Ch.ro n0 (Sl a5 r2.1 c6) r2.1, Ch.own n0 n0 (Sl a7 r2.2.2.1 c8) r2.2.2.1, Ch.ro 0 (Sl a13 r10 c14) r10]) from (H.sel' [2, 0, 1, 2] rfl rfl))) ?_
           rintro _ σq ⟨_, ⟨a62x, c63x, rfl, rfl⟩, H2, m2⟩
           exact ⟨_, (a62x, c63x), rfl, rfl, ⟨H2.sel' [0, 1, 2, 3] rfl rfl, m.comp0 (m2.mono (fun i h => by simp [cov, Ch.ro] at h))⟩, stab [0, 2, 3, 4, 5, 6] (by kernel_rfl) ⟨rfl, rfl, rfl, rfl, rfl, rfl, trivial⟩⟩
          trivial) ?_
        refine all_cons (obs_v rfl (by
          intro k; rintro ⟨a62, c63⟩ ρ σm hJ hoff hdep
          have e3 : look 82 ρ 3 = (Sl a5 r2.1 c6) := look_off (hoff 3 rfl) rfl
          exact dp_v (v := (Sl a5 r2.1 c6)) (wanted_none _ rfl _) (rv_move e3) rfl hJ)) ?_
        refine all_cons (obs_v rfl (by
          intro k; rintro ⟨a62, c63⟩ ρ σm hJ hoff hdep
          have e8 : look 82 ρ 8 = (I s51) := look_off (hoff 8 rfl) rfl
          exact dp_v (v := (I s51)) (wanted_none _ rfl _) (rv_move e8) rfl hJ)) ?_
        refine all_cons (obs_v rfl (by
          intro k; rintro ⟨a62, c63⟩ ρ σm hJ hoff hdep
          have e54 : look 82 ρ 54 = (Sl a5 r2.1 c6) := hdep 2 rfl rfl 54 rfl
          have e55 : look 82 ρ 55 = (I s51) := hdep 3 rfl rfl 55 rfl
          exact dp_v (v := (pt b67 o68)) (wanted_none _ rfl _) (rv_ix Try.underlying23 ti31 e54 e55 hi66) rfl hJ)) ?_
        refine all_cons (obs_v rfl (by
          intro k; rintro ⟨a62, c63⟩ ρ σm hJ hoff hdep
          have e56 : look 82 ρ 56 = (pt b67 o68) := hdep 4 rfl rfl 56 rfl
          exact dp_v (v := (pt b67 (o68 + 0))) (wanted_none _ rfl _) (rv_fieldAddr (off := 0) (ft := 3) Try.underlying31 rfl ti3 rfl e56) rfl hJ)) ?_
        refine all_cons (by
          refine ⟨?_, ?_⟩
          ·rintro ⟨a62, c63⟩ ρ σm hJ hoff hdep
           have e57 : look 82 ρ 57 = (pt b67 (o68 + 0)) := hdep 5 rfl rfl 57 rfl
           obtain ⟨H, m⟩ := id hJ
           replace hc69 := (Hs.ro 0 rfl).hmd hx65 hi66 (k := 0) (by decide) hc69 m
           exact dp_v (v := (I x64.1)) (wanted_none _ rfl _) (rv_load1 Try.underlying3 rfl e57 hc69) rfl hJ
          refine ⟨?_, ?_⟩
          ·rintro ⟨a62, c63⟩ ρ σm hJ hoff hdep
           have e57 : look 82 ρ 57 = (pt b67 (o68 + 0)) := hdep 5 rfl rfl 57 rfl
           obtain ⟨H, m⟩ := id hJ
           replace hc69 := (Hs.ro 0 rfl).hmd hx65 hi66 (k := 0) (by decide) hc69 m
           exact dp_v (v := (I x64.1)) (wanted_none _ rfl _) (rv_load1 Try.underlying3 rfl e57 hc69) rfl hJ
          trivial) ?_
        exact all_nil
       ·rintro ⟨a62, c63⟩ ρ σ70 hJ hoff hrel
        have e3 : look 82 ρ 3 = (Sl a5 r2.1 c6) := look_off (hoff 3 rfl) rfl
        have e4 : look 82 ρ 4 = (I r2.2.1) := look_off (hoff 4 rfl) rfl
        have e5 : look 82 ρ 5 = (Sl a7 r2.2.2.1 c8) := look_off (hoff 5 rfl) rfl
        have e6 : look 82 ρ 6 = (I r2.2.2.2) := look_off (hoff 6 rfl) rfl
        have e7 : look 82 ρ 7 = (Sl a13 r10 c14) := look_off (hoff 7 rfl) rfl
        have e8 : look 82 ρ 8 = (I s51) := look_off (hoff 8 rfl) rfl
        have e53 : look 82 ρ 53 = (Sl a62 r59 c63) := hrel 1 rfl 53 rfl
        have e58 : look 82 ρ 58 = (I x64.1) := hrel 6 rfl 58 rfl
        obtain ⟨H, -⟩ := (show Hp S0 σ0 σ70 [Ch.own n0 n0 (Sl a62 r59 c63) r59, Ch.ro n0 (Sl a5 r2.1 c6) r2.1, Ch.own n0 n0 (Sl a7 r2.2.2.1 c8) r2.2.2.1, Ch.ro 0 (Sl a13 r10 c14) r10] ∧ Md (cov []) σ56 σ70 from hJ)
        clear hJ Hs
        rw [fr_lookL (L := [(3, (Sl a5 r2.1 c6)), (4, (I r2.2.1)), (5, (Sl a7 r2.2.2.1 c8)), (6, (I r2.2.2.2)), (7, (Sl a13 r10 c14)), (8, (I s51)), (53, (Sl a62 r59 c63)), (58, (I x64.1))]) ⟨e3, e4, e5, e6, e7, e8, e53, e58, trivial⟩]
        clear hoff hrel e3 e4 e5 e6 e7 e8 e53 e58
        obtain ⟨σ71, hw72, H, -⟩ := H.pub 0 rfl (Nat.le_refl _)
        rw [← hw72]; clear hw72
        replace H := H.roLow 0 0 rfl (Nat.zero_le _)
        obtain ⟨r73, hx74, h'⟩ := bind_some h
        clear h
        have h := h'; clear h'
        have hc75 := c_laws_isIn (alist_0 := a62) (clist_0 := c63) hx74
        refine st_call (cx_call hc75 (ent_f hc75.fn rfl) hn0 (show Hp S0 σ0 _ ([Ch.ro 0 (Sl a62 r59 c63) r59] ++ [Ch.ro 0 (Sl a62 r59 c63) r59, Ch.ro n0 (Sl a62 r59 c63) r59, Ch.ro n0 (Sl a5 r2.1 c6) r2.1, Ch.own n0 n0 (Sl a7 r2.2.2.1 c8) r2.2.2.1, Ch.ro 0 (Sl a13 r10 c14) r10]) from (H.sel' [0, 0, 1, 2, 3, 4] rfl rfl))) (wanted_none _ rfl _) ?_
        rintro _ σ76 ⟨_, ⟨rfl, rfl⟩, H, -⟩
        replace H : Hp S0 σ0 σ76 [Ch.ro 0 (Sl a62 r59 c63) r59, Ch.ro n0 (Sl a62 r59 c63) r59, Ch.ro n0 (Sl a5 r2.1 c6) r2.1, Ch.own n0 n0 (Sl a7 r2.2.2.1 c8) r2.2.2.1, Ch.ro 0 (Sl a13 r10 c14) r10] := H
        refine w_end ?_
        refine q_then ?_
        refine cd_cond r73 rfl (fun hb77 => ?_) (fun hb77 => ?_)
        ·replace h := bif_t hb77 h
         refine c_exit ?_
         refine q_then_x ?_
         refine q_blk_hit ?_
         obtain rfl := Option.some.inj h
         exact .inl ⟨_, rfl, rfl, _, σ76, fr_join ⟨rfl, rfl, rfl, rfl, rfl, rfl, trivial⟩, rfl, H.sel' [2, 3, 4] rfl rfl⟩
        ·replace h := bif_f hb77 h
         refine c_skip ?_
         refine q_then ?_
         refine c_seq ?_
         refine rg ?_
         refine st (v := (Sl a5 r2.1 c6)) (rv_move rfl) ?_
         refine st (v := (Sl a5 r2.1 c6)) (rv_move rfl) ?_
         refine st (v := (I s51)) (rv_move rfl) ?_
         obtain ⟨x78, hx79, h'⟩ := bind_some h
         clear h
         have h := h'; clear h'
         obtain ⟨b81, o82, hi80, -⟩ := (H.ro 2 rfl).ix hx79
         refine st (v := (pt b81 o82)) (rv_ix Try.underlying23 ti31 rfl rfl hi80) ?_
         refine st (v := (pt b81 (o82 + 0))) (rv_fieldAddr (off := 0) (ft := 3) Try.underlying31 rfl ti3 rfl rfl) ?_
         have hc83 := ((H.ro 2 rfl).at hx79 hi80).fst.int
         refine st (v := (I x78.1)) (rv_load1 Try.underlying3 rfl rfl hc83) ?_
         replace H := H.roLow 2 0 rfl (Nat.zero_le _)
         obtain ⟨r84, hx85, h'⟩ := bind_some h
         clear h
         have h := h'; clear h'
         have hc86 := c_impl_DropItem (alist_0 := a5) (clist_0 := c6) hx85
         refine st_call (cx_call hc86 (ent_f hc86.fn rfl) hn0 (show Hp S0 σ0 _ ([Ch.ro 0 (Sl a5 r2.1 c6) r2.1] ++ [Ch.ro 0 (Sl a5 r2.1 c6) r2.1, Ch.ro 0 (Sl a62 r59 c63) r59, Ch.ro n0 (Sl a62 r59 c63) r59, Ch.ro n0 (Sl a5 r2.1 c6) r2.1, Ch.own n0 n0 (Sl a7 r2.2.2.1 c8) r2.2.2.1, Ch.ro 0 (Sl a13 r10 c14) r10]) from (H.sel' [0, 0, 1, 2, 3, 4, 5] rfl rfl))) (wanted_none _ rfl _) ?_
         rintro _ σ89 ⟨_, ⟨a87, c88, rfl, rfl⟩, H, -⟩
         replace H : Hp S0 σ0 σ89 [Ch.own 0 0 (Sl a87 r84.1 c88) r84.1, Ch.ro 0 (Sl a5 r2.1 c6) r2.1, Ch.ro 0 (Sl a62 r59 c63) r59, Ch.ro n0 (Sl a62 r59 c63) r59, Ch.ro n0 (Sl a5 r2.1 c6) r2.1, Ch.own n0 n0 (Sl a7 r2.2.2.1 c8) r2.2.2.1, Ch.ro 0 (Sl a13 r10 c14) r10] := H
         refine st (v := (.tuple #[(Sl a87 r84.1 c88), (B r84.2)])) (rv_move rfl) ?_
         refine st (v := (Sl a87 r84.1 c88)) (rv_extract rfl rfl) ?_
         refine st (v := (B r84.2)) (rv_extract rfl rfl) ?_
         refine st (v := (Sl a87 r84.1 c88)) (rv_assign rfl) ?_
         refine st (v := (B r84.2)) (rv_assign rfl) ?_
         refine w_end ?_
         refine q_then ?_
         refine c_seq ?_
         obtain ⟨o90, hj, h'⟩ := bind_some h
         clear h
         refine c_cut (fun e a w => e = .normal ∧ ∃ (ρ : Nat → Value) (σ : St), a = fr 82 (updL ρ [(3, (Sl a5 r2.1 c6)), (4, (I r2.2.1)), (5, (Sl a7 r2.2.2.1 c8)), (6, (I r2.2.2.2)), (7, (Sl a13 r10 c14)), (8, (I s51)), (81, (B o90))]) ∧ w = σ.w ∧ Hp S0 σ0 σ [Ch.ro n0 (Sl a5 r2.1 c6) r2.1, Ch.own n0 n0 (Sl a7 r2.2.2.1 c8) r2.2.2.1, Ch.ro 0 (Sl a13 r10 c14) r10]) ?_ ?_
         ·clear h'
          rename _ = some o90 => h
          refine rg ?_
          refine st (v := (B r84.2)) (rv_move rfl) ?_
          refine st (v := (B (!r84.2))) (rv_not rfl) ?_
          refine st (v := (B (!r84.2))) (rv_move rfl) ?_
          rcases Bool.eq_false_or_eq_true (!r84.2) with hb91 | hb91
          ·replace h := bif_t hb91 h
           refine st_skip (congrArg some hb91) ?_
           refine st_skip (congrArg some hb91) ?_
           refine st_skip (congrArg some hb91) ?_
           refine st_skip (congrArg some hb91) ?_
           refine st_skip (congrArg some hb91) ?_
           refine st_skip (congrArg some hb91) ?_
           refine st_skip (congrArg some hb91) ?_
           refine st_skip (congrArg some hb91) ?_
           refine st (v := (B true)) (rv_pick_t (congrArg B hb91) rfl) ?_
           refine w_end ?_
           obtain rfl := Option.some.inj h
           exact ⟨rfl, _, σ89, fr_join ⟨rfl, rfl, rfl, rfl, rfl, rfl, rfl, trivial⟩, rfl, H.sel' [4, 5, 6] rfl rfl⟩
          ·replace h := bif_f hb91 h
           refine st_g (v := (Sl a87 r84.1 c88)) (congrArg some hb91) (rv_move rfl) ?_
           refine st_g (v := (I r2.2.1)) (congrArg some hb91) (rv_move rfl) ?_
           refine st_g (v := (Sl a7 r2.2.2.1 c8)) (congrArg some hb91) (rv_move rfl) ?_
           refine st_g (v := (I r2.2.2.2)) (congrArg some hb91) (rv_move rfl) ?_
           obtain ⟨σ92, hw93, H, -⟩ := H.pub 0 rfl (Nat.le_refl _)
           rw [← hw93]; clear hw93
           obtain ⟨r94, hx95, h'⟩ := bind_some h
           clear h
           have h := h'; clear h'
           have hc96 := c_impl_Nearest (alist_0 := a87) (clist_0 := c88) (aat_2 := a7) (cat_2 := c8) hx95
           have hle := Nat.le_trans hn0 H.size
           refine st_call (cx_lend (Loan.same (Loan.lend Loan.nil)) hc96 (ent_f hc96.fn rfl) (show Hp S0 σ0 _ ([Ch.own n0 n0 (Sl a7 r2.2.2.1 c8) r2.2.2.1] ++ ([Ch.ro 0 (Sl a87 r84.1 c88) r84.1] ++ [Ch.ro 0 (Sl a87 r84.1 c88) r84.1, Ch.ro 0 (Sl a5 r2.1 c6) r2.1, Ch.ro 0 (Sl a62 r59 c63) r59, Ch.ro n0 (Sl a62 r59 c63) r59, Ch.ro n0 (Sl a5 r2.1 c6) r2.1, Ch.ro 0 (Sl a13 r10 c14) r10])) from (H.sel' [5, 0, 0, 1, 2, 3, 4, 6] rfl rfl)) (by rintro _ _ _ ⟨_, _, rfl, rfl⟩; exact ⟨Ab.ownSc, trivial⟩)) (wanted_yes rfl (by exact (congrArg some hb91))) ?_
           rintro _ σ99 ⟨_, ⟨a97, c98, rfl, rfl⟩, H, -, -⟩
           replace H : Hp S0 σ0 σ99 [Ch.own 0 σ92.size (Sl a97 r94 c98) r94, Ch.own n0 n0 (Sl a7 r2.2.2.1 c8) r2.2.2.1, Ch.ro 0 (Sl a87 r84.1 c88) r84.1, Ch.ro 0 (Sl a5 r2.1 c6) r2.1, Ch.ro 0 (Sl a62 r59 c63) r59, Ch.ro n0 (Sl a62 r59 c63) r59, Ch.ro n0 (Sl a5 r2.1 c6) r2.1, Ch.ro 0 (Sl a13 r10 c14) r10] := H
           replace H := H.ownLow 0 0 n0 rfl (Nat.le_refl _) hle
           clear hle
           replace H : Hp S0 σ0 σ99 [Ch.own 0 n0 (Sl a97 r94 c98) r94, Ch.own n0 n0 (Sl a7 r2.2.2.1 c8) r2.2.2.1, Ch.ro 0 (Sl a87 r84.1 c88) r84.1, Ch.ro 0 (Sl a5 r2.1 c6) r2.1, Ch.ro 0 (Sl a62 r59 c63) r59, Ch.ro n0 (Sl a62 r59 c63) r59, Ch.ro n0 (Sl a5 r2.1 c6) r2.1, Ch.ro 0 (Sl a13 r10 c14) r10] := H
           replace H : Hp S0 σ0 σ99 [Ch.own 0 n0 (Sl a97 r94 c98) r94, Ch.own n0 n0 (Sl a7 r2.2.2.1 c8) r2.2.2.1, Ch.ro n0 (Sl a5 r2.1 c6) r2.1, Ch.ro 0 (Sl a13 r10 c14) r10] := H.sel' [0, 1, 6, 7] rfl rfl
           refine st_g (v := (Sl a13 r10 c14)) (congrArg some hb91) (rv_move rfl) ?_
           replace H := H.ownLow 0 0 0 rfl (Nat.le_refl _) (Nat.zero_le _)
           obtain ⟨σ100, hw101, H, -⟩ := H.pub 0 rfl (Nat.le_refl _)
           rw [← hw101]; clear hw101
           obtain ⟨r102, hx103, h'⟩ := bind_some h
           clear h
           have h := h'; clear h'
           have hc104 := c_laws_equalHits (aa_0 := a97) (ca_0 := c98) (ab_1 := a13) (cb_1 := c14) hx103
           refine st_call (cx_call hc104 (ent_f hc104.fn rfl) hn0 (show Hp S0 σ0 _ ([Ch.ro 0 (Sl a97 r94 c98) r94, Ch.ro 0 (Sl a13 r10 c14) r10] ++ [Ch.ro 0 (Sl a97 r94 c98) r94, Ch.own n0 n0 (Sl a7 r2.2.2.1 c8) r2.2.2.1, Ch.ro n0 (Sl a5 r2.1 c6) r2.1, Ch.ro 0 (Sl a13 r10 c14) r10]) from (H.sel' [0, 3, 0, 1, 2, 3] rfl rfl))) (wanted_yes rfl (by exact (congrArg some hb91))) ?_
           rintro _ σ105 ⟨_, ⟨rfl, rfl⟩, H, -⟩
           replace H : Hp S0 σ0 σ105 [Ch.ro 0 (Sl a97 r94 c98) r94, Ch.own n0 n0 (Sl a7 r2.2.2.1 c8) r2.2.2.1, Ch.ro n0 (Sl a5 r2.1 c6) r2.1, Ch.ro 0 (Sl a13 r10 c14) r10] := H
           refine st_g (v := (B (!r102))) (congrArg some hb91) (rv_not rfl) ?_
           refine st (v := (B (!r102))) (rv_pick_f (congrArg B hb91) rfl) ?_
           refine w_end ?_
           obtain rfl := Option.some.inj h
           exact ⟨rfl, _, σ105, fr_join ⟨rfl, rfl, rfl, rfl, rfl, rfl, rfl, trivial⟩, rfl, H.sel' [2, 1, 3] rfl rfl⟩
         ·clear hj
          have h := h'
          clear h' H
          rintro e a w ⟨rfl, ρ, σ106, rfl, rfl, H⟩
          refine q_then ?_
          refine cd_cond o90 rfl (fun hb107 => ?_) (fun hb107 => ?_)
          ·replace h := bif_t hb107 h
           refine c_seq ?_
           refine rg ?_
           refine st (v := (B false)) (rv_assign rfl) ?_
           refine w_end ?_
           refine q_then ?_
           refine c_ret ?_
           refine q_blk_r ?_
           obtain rfl := Option.some.inj h
           exact .inr (⟨_, rfl, rfl, _, σ106, fr_join ⟨rfl, trivial⟩, rfl, H.sel' [] rfl rfl⟩)
          ·replace h := bif_f hb107 h
           refine c_skip ?_
           refine q_blk ?_
           obtain rfl := Option.some.inj h
           exact .inl ⟨_, rfl, rfl, _, σ106, fr_join ⟨rfl, rfl, rfl, rfl, rfl, rfl, trivial⟩, rfl, H.sel' [0, 1, 2] rfl rfl⟩
      ·clear hj
       have h := h'
       clear h' H
       rintro e a w (⟨t108, rfl, rfl, ρ, σ109, rfl, rfl, H⟩ | ⟨t110, rfl, rfl, ρ, σ111, rfl, rfl, H⟩)
       ·replace h := selim_l h
        refine q_then ?_
        refine rg ?_
        refine st (v := (I s51)) (rv_move rfl) ?_
        refine st (v := (I (w64 (s51 + 1)))) (rv_add (a := s51) (b := 1) rfl rfl) ?_
        refine st (v := (I (w64 (s51 + 1)))) (rv_assign rfl) ?_
        refine w_end ?_
        refine q_then ?_
        obtain rfl := Option.some.inj h
        exact ⟨_, rfl, _, σ109, fr_join ⟨rfl, rfl, rfl, rfl, rfl, rfl, trivial⟩, rfl, H.sel' [0, 1, 2] rfl rfl⟩
       ·replace h := selim_r h
        refine q_then_r ?_
        refine q_then_r ?_
        refine q_blk_r ?_
        obtain rfl := Option.some.inj h
        obtain rfl := hres _ rfl
        exact .inr (⟨_, rfl, rfl, _, σ111, fr_join ⟨rfl, trivial⟩, rfl, H.sel' [] rfl rfl⟩)
     ·replace h := bif_f hb57 h
      refine c_exit ?_
      refine q_then_x ?_
      refine q_then_x ?_
      refine q_blk_hit ?_
      obtain rfl := Option.some.inj h
      obtain rfl := hres _ rfl
      exact .inl ⟨_, rfl, rfl, _, σ56, fr_join trivial, rfl, H.sel' [] rfl rfl⟩
    ·clear hj
     have h := h'
     clear h' H
     rintro e a w (⟨t112, rfl, rfl, ρ, σ113, rfl, rfl, H⟩ | ⟨t114, rfl, rfl, ρ, σ115, rfl, rfl, H⟩)
     ·replace h := selim_l h
      refine q_then ?_
      refine c_seq ?_
      refine rg ?_
      refine st (v := (B true)) (rv_assign rfl) ?_
      refine w_end ?_
      refine q_then ?_
      refine c_ret ?_
      obtain rfl := Option.some.inj h
      exact fin_ret (v := (B true)) (results_ok Try.results12 (res_tmp (v := (B true)) rfl res_nil) rfl) ⟨rfl, rfl⟩ (H.sel' [] rfl rfl)
     ·replace h := selim_r h
      refine q_then_r ?_
      obtain rfl := Option.some.inj h
      exact fin_ret (v := (B t114)) (results_ok Try.results12 (res_tmp (v := (B t114)) rfl res_nil) rfl) ⟨rfl, rfl⟩ (H.sel' [] rfl rfl)

end Go.Vs
