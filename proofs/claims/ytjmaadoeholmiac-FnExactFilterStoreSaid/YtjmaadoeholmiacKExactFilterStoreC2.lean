/- The functions compute what their models say. -/
import Derived.Test.YtjmaadoeholmiacKExactFilterStoreC1
set_option linter.unusedVariables false
set_option linter.unusedSimpArgs false
set_option maxRecDepth 20000
namespace Go.Vs
open Go Go.Proofs
attribute [local irreducible] Code.wp Code.wpIn wpList wpListIn wpQuiet Calls CallsIn

theorem c_impl_copyItem {x_0 : Int × (List Int) × Int} {ax_0_1 : Option Addr} {cx_0_1 : Nat} {r : (Int × (List Int) × Int)} (h : M.impl_copyItem x_0 = some r) :
    Cal2 Try.prog 77 [(.agg #[(I x_0.1), (Sl ax_0_1 x_0.2.1 cx_0_1), (I x_0.2.2)])] [Ch.ro 0 (Sl ax_0_1 x_0.2.1 cx_0_1) x_0.2.1] (fun n0 v L => ∃ (az1 : Option Addr), ∃ (cz2 : Nat), v = (.agg #[(I r.1), (Sl az1 r.2.1 cz2), (I r.2.2)]) ∧ L = [Ch.own n0 n0 (Sl az1 r.2.1 cz2) r.2.1]) := by
 refine cal2 (n := 11) Try.func77 rfl rfl rfl rfl ?_
 intro S0 σ0 n0 hn0 H
 unfold M.impl_copyItem at h
 refine c_seq ?_
 refine rg ?_
 refine st_ex (ex_box (cs := [(I x_0.1), (Sl ax_0_1 x_0.2.1 cx_0_1), (I x_0.2.2)]) H hn0 rfl rfl) wn ?_
 rintro _ σ2 ⟨b1, rfl, H, -⟩
 refine st_ex (ex_alloc (cs := [(I 0), (.slice none 0 0), (I 0)]) H hn0 ti65 rfl) wn ?_
 rintro _ σ4 ⟨b3, rfl, H, -⟩
 refine w_end ?_
 refine q_then ?_
 refine c_seq ?_
 have hc5 := H.cell (u := (I x_0.1)) (o' := 0) 1 0 rfl rfl rfl
 have hc6 := H.cell (u := (Sl ax_0_1 x_0.2.1 cx_0_1)) (o' := 1) 1 1 rfl rfl rfl
 obtain ⟨r7, hx8, h'⟩ := bind_some h
 clear h
 have h := h'; clear h'
 have hc9 := c_slices_Clone_int_int (as_0 := ax_0_1) (cs_0 := cx_0_1) hx8
 have hc12 := H.cell (u := (I x_0.2.2)) (o' := 2) 1 2 rfl rfl rfl
 have Hs := H
 refine rg2 (σ := σ4) (Nm := (Option Addr) × (Nat)) 7 [4] [[false], [true]] [[(0, 0), (1, 1)], [(0, 0), (1, 1)], [(0, 0)], [(0, 0)], [(0, 1)], [(0, 0), (1, 1)], [(0, 0), (1, 1)]] 1 [fun ((a10, c11) : (Option Addr) × (Nat)) => fun σm => Hp S0 σ0 σm [Ch.bx n0 b3 0 [(I 0), (.slice none 0 0), (I 0)] [] [], Ch.bx n0 b1 0 [(I x_0.1), (Sl ax_0_1 x_0.2.1 cx_0_1), (I x_0.2.2)] [] [], Ch.ro 0 (Sl ax_0_1 x_0.2.1 cx_0_1) x_0.2.1] ∧ Md (cov []) σ4 σm, fun ((a10, c11) : (Option Addr) × (Nat)) => fun σm => Hp S0 σ0 σm [Ch.own n0 n0 (Sl a10 r7 c11) r7, Ch.bx n0 b3 0 [(I 0), (.slice none 0 0), (I 0)] [] [], Ch.bx n0 b1 0 [(I x_0.1), (Sl ax_0_1 x_0.2.1 cx_0_1), (I x_0.2.2)] [] [], Ch.ro 0 (Sl ax_0_1 x_0.2.1 cx_0_1) x_0.2.1] ∧ Md (cov []) σ4 σm] [fun ((a10, c11) : (Option Addr) × (Nat)) => (pt b1 0), fun ((a10, c11) : (Option Addr) × (Nat)) => (I x_0.1), fun ((a10, c11) : (Option Addr) × (Nat)) => (pt b1 1), fun ((a10, c11) : (Option Addr) × (Nat)) => (Sl ax_0_1 x_0.2.1 cx_0_1), fun ((a10, c11) : (Option Addr) × (Nat)) => (Sl a10 r7 c11), fun ((a10, c11) : (Option Addr) × (Nat)) => (pt b1 2), fun ((a10, c11) : (Option Addr) × (Nat)) => (I x_0.2.2)] (none, 0) (by kernel_rfl) (by kernel_rfl) ?_ ?_ ?_
 ·intro σm m0
  exact ⟨H.grow (m0.mono fun _ h => h.elim), m0⟩
 ·refine ac rfl (by
    intro k; rintro ⟨a10, c11⟩ ρ σm hJ hoff hdep
    have e1 := look_off (N := 11) (hoff 1 rfl) rfl
    exact dp_v (v := (pt b1 0)) wn (rv_fieldAddr (off := 0) (ft := 3) Try.underlying65 rfl ti3 rfl e1) rfl hJ) ?_
  refine all_cons (by
    refine ⟨?_, ?_⟩
    ·rintro ⟨a10, c11⟩ ρ σm hJ hoff hdep
     have e3 := hdep 0 rfl rfl 3 rfl
     obtain ⟨H, m⟩ := id hJ
     have hc5 := H.cell (u := (I x_0.1)) (o' := 0) 1 0 rfl rfl rfl
     exact dp_v (v := (I x_0.1)) wn (rv_load1 Try.underlying3 rfl e3 hc5) rfl hJ
    refine ⟨?_, ?_⟩
    ·rintro ⟨a10, c11⟩ ρ σm hJ hoff hdep
     have e3 := hdep 0 rfl rfl 3 rfl
     obtain ⟨H, m⟩ := id hJ
     have hc5 := H.cell (u := (I x_0.1)) (o' := 0) 2 0 rfl rfl rfl
     exact dp_v (v := (I x_0.1)) wn (rv_load1 Try.underlying3 rfl e3 hc5) rfl hJ
    trivial) ?_
  refine ac rfl (by
    intro k; rintro ⟨a10, c11⟩ ρ σm hJ hoff hdep
    have e1 := look_off (N := 11) (hoff 1 rfl) rfl
    exact dp_v (v := (pt b1 1)) wn (rv_fieldAddr (off := 1) (ft := 36) Try.underlying65 rfl ti36 rfl e1) rfl hJ) ?_
  refine all_cons (by
    refine ⟨?_, ?_⟩
    ·rintro ⟨a10, c11⟩ ρ σm hJ hoff hdep
     have e5 := hdep 2 rfl rfl 5 rfl
     obtain ⟨H, m⟩ := id hJ
     have hc6 := H.cell (u := (Sl ax_0_1 x_0.2.1 cx_0_1)) (o' := 1) 1 1 rfl rfl rfl
     exact dp_v (v := (Sl ax_0_1 x_0.2.1 cx_0_1)) wn (rv_load1 Try.underlying36 rfl e5 hc6) rfl hJ
    trivial) ?_
  refine all_cons (by
    refine ⟨?_, ?_⟩
    ·rintro ⟨a10, c11⟩ ρ σm hJ hoff hdep
     have e6 : look 11 ρ 6 = (Sl ax_0_1 x_0.2.1 cx_0_1) := hdep 3 rfl rfl 6 rfl
     obtain ⟨H, m⟩ := id hJ
     refine dp_cx wn (cx_call hc9 (ent_f hc9.fn (by show [look 11 ρ 6] = _; rw [e6])) hn0 (show Hp S0 σ0 _ ([Ch.ro 0 (Sl ax_0_1 x_0.2.1 cx_0_1) x_0.2.1] ++ [Ch.bx n0 b3 0 [(I 0), (.slice none 0 0), (I 0)] [] [], Ch.bx n0 b1 0 [(I x_0.1), (Sl ax_0_1 x_0.2.1 cx_0_1), (I x_0.2.2)] [] [], Ch.ro 0 (Sl ax_0_1 x_0.2.1 cx_0_1) x_0.2.1]) from (H.sel' [2, 0, 1, 2] rfl rfl))) ?_
     rintro _ σq ⟨_, ⟨a10x, c11x, rfl, rfl⟩, H2, m2⟩
     exact ⟨_, (a10x, c11x), rfl, rfl, ⟨H2.sel' [0, 1, 2, 3] rfl rfl, m.comp0 (m2.mono (fun i h => by simp [cov, Ch.ro] at h))⟩, stab [0, 1, 2, 3, 5, 6] (by kernel_rfl) ⟨rfl, rfl, rfl, rfl, rfl, rfl, trivial⟩⟩
    trivial) ?_
  refine ac rfl (by
    intro k; rintro ⟨a10, c11⟩ ρ σm hJ hoff hdep
    have e1 := look_off (N := 11) (hoff 1 rfl) rfl
    exact dp_v (v := (pt b1 2)) wn (rv_fieldAddr (off := 2) (ft := 3) Try.underlying65 rfl ti3 rfl e1) rfl hJ) ?_
  refine all_cons (by
    refine ⟨?_, ?_⟩
    ·rintro ⟨a10, c11⟩ ρ σm hJ hoff hdep
     have e8 := hdep 5 rfl rfl 8 rfl
     obtain ⟨H, m⟩ := id hJ
     have hc12 := H.cell (u := (I x_0.2.2)) (o' := 2) 1 2 rfl rfl rfl
     exact dp_v (v := (I x_0.2.2)) wn (rv_load1 Try.underlying3 rfl e8 hc12) rfl hJ
    refine ⟨?_, ?_⟩
    ·rintro ⟨a10, c11⟩ ρ σm hJ hoff hdep
     have e8 := hdep 5 rfl rfl 8 rfl
     obtain ⟨H, m⟩ := id hJ
     have hc12 := H.cell (u := (I x_0.2.2)) (o' := 2) 2 2 rfl rfl rfl
     exact dp_v (v := (I x_0.2.2)) wn (rv_load1 Try.underlying3 rfl e8 hc12) rfl hJ
    trivial) ?_
  exact all_nil
 ·rintro ⟨a10, c11⟩ ρ σ13 hJ hoff hrel
  have e2 := look_off (N := 11) (hoff 2 rfl) rfl
  have e4 := hrel 1 rfl 4 rfl
  have e7 := hrel 4 rfl 7 rfl
  have e9 := hrel 6 rfl 9 rfl
  obtain ⟨H, -⟩ := (show Hp S0 σ0 σ13 [Ch.own n0 n0 (Sl a10 r7 c11) r7, Ch.bx n0 b3 0 [(I 0), (.slice none 0 0), (I 0)] [] [], Ch.bx n0 b1 0 [(I x_0.1), (Sl ax_0_1 x_0.2.1 cx_0_1), (I x_0.2.2)] [] [], Ch.ro 0 (Sl ax_0_1 x_0.2.1 cx_0_1) x_0.2.1] ∧ Md (cov []) σ4 σ13 from hJ)
  clear hJ Hs
  rw [fr_lookL (L := [(2, (pt b3 0)), (4, (I x_0.1)), (7, (Sl a10 r7 c11)), (9, (I x_0.2.2))]) ⟨e2, e4, e7, e9, trivial⟩]
  clear hoff hrel e2 e4 e7 e9
  refine st (v := (.agg #[(I x_0.1), (Sl a10 r7 c11), (I x_0.2.2)])) (rv_build (ps := [(0, (I x_0.1)), (1, (Sl a10 r7 c11)), (2, (I x_0.2.2))]) Try.underlying65 ti65 (bp65 Try.underlying65) rfl (by kernel_rfl)) ?_
  refine st_exS (ex_store_box (k := 0) (cs := [(I 0), (.slice none 0 0), (I 0)]) (vs := [(I x_0.1), (Sl a10 r7 c11), (I x_0.2.2)]) (cs' := [(I x_0.1), (Sl a10 r7 c11), (I x_0.2.2)]) H (i := 1) rfl ti65 rfl rfl rfl rfl rfl (Nat.le_of_ble_eq_true rfl) (by simp [plain]) rfl) wn ?_
  rintro σ14 ⟨H, -⟩
  refine w_end ?_
  refine q_then ?_
  refine c_ret ?_
  obtain rfl := Option.some.inj h
  exact fin_ret (v := (.agg #[(I x_0.1), (Sl a10 r7 c11), (I x_0.2.2)])) (results_ok Try.results77 (res_cell rfl (run_cellRes (cs := [(I x_0.1), (Sl a10 r7 c11), (I x_0.2.2)]) Try.underlying65 rfl ti65 rfl (H.cells 0 rfl)) res_nil) rfl) ⟨a10, c11, rfl, rfl⟩ (H.sel' [1] rfl rfl)

theorem c_impl_copyItems {list_0 : List (Int × (List Int) × Int)} {alist_0 : Option Addr} {clist_0 : Nat} {r : (List (Int × (List Int) × Int))} (h : M.impl_copyItems list_0 = some r) :
    Cal2 Try.prog 52 [(Sl alist_0 list_0 clist_0)] [Ch.ro 0 (Sl alist_0 list_0 clist_0) list_0] (fun n0 v L => ∃ (az1 : Option Addr), ∃ (cz2 : Nat), ∃ (Kz3 : List Ch), v = (Sl az1 r cz2) ∧ L = [Ch.big Kz3] ∧ Dp 0 (Sl az1 r cz2) r Kz3 ∧ cz2 = r.length) := by
 refine cal2 (n := 23) Try.func52 rfl rfl rfl rfl ?_
 intro S0 σ0 n0 hn0 H
 unfold M.impl_copyItems at h
 refine c_seq ?_
 refine rg ?_
 refine st (v := (.slice none 0 0)) (rv_assign rfl) ?_
 refine w_end ?_
 refine q_then ?_
 refine c_seq ?_
 refine rg ?_
 refine st (v := (Sl alist_0 list_0 clist_0)) (rv_move rfl) ?_
 refine st (v := (I (list_0.length : Int))) (rv_len Try.underlying30 rfl) ?_
 obtain ⟨xs1, hx2, h'⟩ := bind_some h
 clear h
 have h := h'; clear h'
 obtain ⟨k7, he8, hv9⟩ := gmake_dp (zv := ((0, (.slice none 0 0), 0) : Int × Value × Int)) hx2
 refine st_ex (ex_make (el := n0) (z0 := ((0, (.slice none 0 0), 0) : Int × Value × Int)) (zs := [(I 0), (.slice none 0 0), (I 0)]) H hn0 Try.underlying30 ti65 rfl rfl (⟨[(I 0)], [(.slice none 0 0), (I 0)], rfl, rfl, ⟨[(.slice none 0 0)], [(I 0)], rfl, ⟨rfl, rfl⟩, rfl⟩⟩) (by decide) hv9 rfl rfl) wn ?_
 rintro _ σ13 ⟨b3, c4, rfl, ht5, H, -⟩
 have hs12 : (Sl (some ⟨b3, 0, none⟩) (List.replicate k7 ((0, (.slice none 0 0), 0) : Int × Value × Int)) c4) = (Sl (some ⟨b3, 0, none⟩) xs1 c4) := sl_len (by rw [he8]; simp)
 rw [hs12] at H ⊢
 obtain ⟨K10, hK11, H⟩ := H.dpMake (z := ((0, [], 0) : Int × List Int × Int)) rfl rfl
 rw [← he8] at hK11; clear he8 hv9 hs12
 replace ht5 := ht5.trans (gmake_len hx2).symm
 refine st (v := (Sl (some ⟨b3, 0, none⟩) xs1 c4)) (rv_assign rfl) ?_
 refine w_end ?_
 refine q_then ?_
 refine c_seq ?_
 refine c_seq ?_
 refine rg ?_
 refine st (v := (Sl alist_0 list_0 clist_0)) (rv_move rfl) ?_
 refine st (v := (I (list_0.length : Int))) (rv_len Try.underlying30 rfl) ?_
 refine st (v := (I 0)) (rv_move rfl) ?_
 refine w_end ?_
 refine q_then ?_
 obtain ⟨o14, hj, h'⟩ := bind_some h
 clear h
 refine c_cut (fun e a w => e = .normal ∧ ∃ (ρ : Nat → Value) (σ : St) (Kj1 : List Ch), a = fr 23 (updL ρ [(3, (Sl (some ⟨b3, 0, none⟩) o14 c4))]) ∧ w = σ.w ∧ Hp S0 σ0 σ [Ch.big Kj1] ∧ Dp n0 (Sl (some ⟨b3, 0, none⟩) o14 c4) o14 Kj1 ∧ c4 = o14.length ∧ o14.length = xs1.length) ?_ ?_
 ·clear h'
  rename _ = some o14 => h
  refine c_blk ?_
  refine wp_loopM _ h (fun s15 a w => ∃ (ρ : Nat → Value) (σ : St) (Kj1 : List Ch), a = fr 23 (updL ρ [(3, (Sl (some ⟨b3, 0, none⟩) s15.1 c4)), (9, (Sl alist_0 list_0 clist_0)), (10, (I (list_0.length : Int))), (11, (I s15.2))]) ∧ w = σ.w ∧ Hp S0 σ0 σ [Ch.big Kj1, Ch.ro 0 (Sl alist_0 list_0 clist_0) list_0] ∧ Dp n0 (Sl (some ⟨b3, 0, none⟩) s15.1 c4) s15.1 Kj1 ∧ c4 = s15.1.length ∧ s15.1.length = xs1.length) ⟨_, σ13, K10, fr_join ⟨rfl, rfl, rfl, rfl, trivial⟩, rfl, H.sel' [0, 1] rfl rfl, hK11, ht5, rfl⟩ ?_
  clear h H
  rintro s15 a w o ⟨ρ, σ16, K17, rfl, rfl, H, hK18, ht19, hn20⟩ h hres
  refine c_seq ?_
  refine rg ?_
  refine st (v := (B (decide (s15.2 < (list_0.length : Int))))) (rv_lss (a := s15.2) (b := (list_0.length : Int)) rfl rfl) ?_
  refine w_end ?_
  refine q_then ?_
  refine c_seq ?_
  refine cd_cond (decide (s15.2 < (list_0.length : Int))) rfl (fun hb21 => ?_) (fun hb21 => ?_)
  ·replace h := bif_t hb21 h
   refine c_skip ?_
   refine q_then ?_
   refine c_seq ?_
   refine c_blk ?_
   refine c_seq ?_
   refine rg ?_
   refine st (v := (I s15.2)) (rv_move rfl) ?_
   obtain ⟨x22, hx23, h'⟩ := bind_some h
   clear h
   have h := h'; clear h'
   obtain ⟨b25, o26, hi24, -⟩ := (H.ro 1 rfl).ix hx23
   refine st (v := (pt b25 o26)) (rv_ix Try.underlying30 ti65 rfl rfl hi24) ?_
   obtain ⟨_, ⟨_, _, rfl, rfl, ⟨_, _, rfl, ⟨_, rfl, hR31⟩, rfl⟩⟩, hl27, hc28⟩ := ((H.ro 1 rfl).at hx23 hi24).cells
   obtain ⟨a29, c30, rfl⟩ := hR31.isSl
   replace H := H.add (d := Ch.ro 0 (Sl a29 x22.2.1 c30) x22.2.1) hR31 (fun _ h => h)
   clear hR31
   refine st (v := (.agg #[(I x22.1), (Sl a29 x22.2.1 c30), (I x22.2.2)])) (rv_load Try.underlying65 rfl ti65 rfl hl27 hc28) ?_
   refine st_ex (ex_alloc (cs := [(I 0), (.slice none 0 0), (I 0)]) H hn0 ti65 rfl) wn ?_
   rintro _ σ33 ⟨b32, rfl, H, -⟩
   refine st (v := (I s15.2)) (rv_assign rfl) ?_
   refine st_exS (ex_store_box (k := 0) (cs := [(I 0), (.slice none 0 0), (I 0)]) (vs := [(I x22.1), (Sl a29 x22.2.1 c30), (I x22.2.2)]) (cs' := [(I x22.1), (Sl a29 x22.2.1 c30), (I x22.2.2)]) H (i := 0) rfl ti65 rfl rfl rfl rfl rfl (Nat.le_of_ble_eq_true rfl) (by simp [plain]) rfl) wn ?_
   rintro σ34 ⟨H, -⟩
   refine w_end ?_
   refine q_then ?_
   refine rg ?_
   refine st (v := (Sl (some ⟨b3, 0, none⟩) s15.1 c4)) (rv_move rfl) ?_
   refine st (v := (I s15.2)) (rv_move rfl) ?_
   have hc35 := H.cells 0 rfl
   refine st (v := (.agg #[(I x22.1), (Sl a29 x22.2.1 c30), (I x22.2.2)])) (rv_load (cs := [(I x22.1), (Sl a29 x22.2.1 c30), (I x22.2.2)]) Try.underlying65 rfl ti65 rfl rfl hc35) ?_
   obtain ⟨r36, hx37, h'⟩ := bind_some h
   clear h
   have h := h'; clear h'
   have hc38 := c_impl_copyItem (ax_0_1 := a29) (cx_0_1 := c30) hx37
   refine st_call (cx_call hc38 (ent_f hc38.fn rfl) hn0 (show Hp S0 σ0 _ ([Ch.ro 0 (Sl a29 x22.2.1 c30) x22.2.1] ++ [Ch.bx n0 b32 0 [(I x22.1), (Sl a29 x22.2.1 c30), (I x22.2.2)] [] [], Ch.ro 0 (Sl a29 x22.2.1 c30) x22.2.1, Ch.big K17, Ch.ro 0 (Sl alist_0 list_0 clist_0) list_0]) from (H.sel' [1, 0, 1, 2, 3] rfl rfl))) wn ?_
   rintro _ σ41 ⟨_, ⟨a39, c40, rfl, rfl⟩, H, -⟩
   replace H : Hp S0 σ0 σ41 [Ch.own n0 n0 (Sl a39 r36.2.1 c40) r36.2.1, Ch.bx n0 b32 0 [(I x22.1), (Sl a29 x22.2.1 c30), (I x22.2.2)] [] [], Ch.ro 0 (Sl a29 x22.2.1 c30) x22.2.1, Ch.big K17, Ch.ro 0 (Sl alist_0 list_0 clist_0) list_0] := H
   obtain ⟨x42, hx43, h'⟩ := bind_some h
   clear h
   have h := h'; clear h'
   obtain ⟨b45, o46, hi44⟩ := H.dpIx 3 rfl hK18 hx43
   refine st (v := (pt b45 o46)) (rv_ix Try.underlying30 ti65 rfl rfl hi44) ?_
   obtain ⟨v47, K48, H, hK49⟩ := H.dpOut 3 rfl hK18 hx43
   replace H := H.tail
   replace H := H.sel' [0, 1, 2, 3, 4] rfl rfl
   obtain ⟨K50, hK51, he52⟩ := hK49.put ((r36.1, r36.2.1, r36.2.2) : Int × (List Int) × Int) (Sl a39 r36.2.1 c40)
   refine st_exS (he52 (ty := _) (k := 0) (vs := [(I r36.1), (Sl a39 r36.2.1 c40), (I r36.2.2)]) H ti65 hi44 rfl rfl rfl rfl rfl (Nat.le_of_ble_eq_true rfl) (by simp [plain]) (by rintro _ _ ⟨_, _, rfl, rfl, ⟨_, _, rfl, ⟨rfl, -⟩, rfl⟩⟩; exact ⟨[(I r36.1)], [(Sl a39 r36.2.1 c40), (I r36.2.2)], rfl, rfl, ⟨[(Sl a39 r36.2.1 c40)], [(I r36.2.2)], rfl, ⟨rfl, rfl⟩, rfl⟩⟩)) wn ?_
   rintro σ53 ⟨H, -⟩
   have hsl : (Sl (some ⟨b3, 0, none⟩) s15.1 c4) = (Sl (some ⟨b3, 0, none⟩) (s15.1.set s15.2.toNat (r36.1, r36.2.1, r36.2.2)) c4) := sl_len List.length_set.symm
   rw [hsl]; rw [hsl] at hK51; clear hsl
   refine w_end ?_
   refine q_blk ?_
   refine q_then ?_
   refine rg ?_
   refine st (v := (I (w64 (s15.2 + 1)))) (rv_add (a := s15.2) (b := 1) rfl rfl) ?_
   refine st (v := (I (w64 (s15.2 + 1)))) (rv_move rfl) ?_
   refine w_end ?_
   refine q_then ?_
   obtain rfl := Option.some.inj h
   exact ⟨_, rfl, _, σ53, K50, fr_join ⟨rfl, rfl, rfl, rfl, trivial⟩, rfl, H.sel' [0, 3] rfl rfl, hK51, (ht19.trans List.length_set.symm), (List.length_set.trans hn20)⟩
  ·replace h := bif_f hb21 h
   refine c_exit ?_
   refine q_then_x ?_
   refine q_then_x ?_
   refine q_blk_hit ?_
   obtain rfl := Option.some.inj h
   obtain rfl := hres _ rfl
   exact ⟨rfl, _, σ16, K17, fr_join ⟨rfl, trivial⟩, rfl, H.sel' [0] rfl rfl, hK18, ht19, hn20⟩
 ·clear hj
  have h := h'
  clear h' H
  rintro e a w ⟨rfl, ρ, σ54, K55, rfl, rfl, H, hK56, ht57, hn58⟩
  refine q_then ?_
  refine c_seq ?_
  refine rg ?_
  refine st (v := (Sl (some ⟨b3, 0, none⟩) o14 c4)) (rv_move rfl) ?_
  refine st (v := (Sl (some ⟨b3, 0, none⟩) o14 c4)) (rv_assign rfl) ?_
  refine w_end ?_
  refine q_then ?_
  refine c_ret ?_
  obtain ⟨K59, hK60, H⟩ := H.dpLow (lo' := 0) 0 rfl hK56 (Nat.zero_le _)
  obtain rfl := Option.some.inj h
  exact fin_ret (v := (Sl (some ⟨b3, 0, none⟩) o14 c4)) (results_ok Try.results52 (res_tmp (v := (Sl (some ⟨b3, 0, none⟩) o14 c4)) rfl res_nil) rfl) ⟨(some ⟨b3, 0, none⟩), c4, K59, rfl, rfl, hK60, ht57⟩ (H.sel' [0] rfl rfl)

theorem c_impl_tagMask_hasAll {m_0 : Int} {others_1 : Int}  {r : Bool} (h : M.impl_tagMask_hasAll m_0 others_1 = some r) :
    Cal2 Try.prog 71 [(I m_0), (I others_1)] [] (fun n0 v L => v = (B r) ∧ L = []) := by
 refine cal2 (n := 10) Try.func71 rfl rfl rfl rfl ?_
 intro S0 σ0 n0 hn0 H
 unfold M.impl_tagMask_hasAll at h
 refine c_seq ?_
 refine rg ?_
 refine st (v := (B false)) (rv_assign rfl) ?_
 refine w_end ?_
 refine q_then ?_
 refine c_seq ?_
 refine rg ?_
 refine st (v := (I m_0)) (rv_move rfl) ?_
 refine st (v := (I others_1)) (rv_move rfl) ?_
 refine st (v := (I (gand m_0 others_1))) (rv_and (a := m_0) (b := others_1) rfl rfl) ?_
 refine st (v := (I others_1)) (rv_move rfl) ?_
 refine st (v := (B ((gand m_0 others_1) == others_1))) (rv_eql (a := (gand m_0 others_1)) (b := others_1) rfl rfl) ?_
 refine st (v := (B ((gand m_0 others_1) == others_1))) (rv_assign rfl) ?_
 refine w_end ?_
 refine q_then ?_
 refine c_ret ?_
 obtain rfl := Option.some.inj h
 exact fin_ret (v := (B ((gand m_0 others_1) == others_1))) (results_ok Try.results71 (res_tmp (v := (B ((gand m_0 others_1) == others_1))) rfl res_nil) rfl) ⟨rfl, rfl⟩ (H.sel' [] rfl rfl)

theorem c_impl_tagMask_hasAny {m_0 : Int} {others_1 : Int}  {r : Bool} (h : M.impl_tagMask_hasAny m_0 others_1 = some r) :
    Cal2 Try.prog 72 [(I m_0), (I others_1)] [] (fun n0 v L => v = (B r) ∧ L = []) := by
 refine cal2 (n := 9) Try.func72 rfl rfl rfl rfl ?_
 intro S0 σ0 n0 hn0 H
 unfold M.impl_tagMask_hasAny at h
 refine c_seq ?_
 refine rg ?_
 refine st (v := (B false)) (rv_assign rfl) ?_
 refine w_end ?_
 refine q_then ?_
 refine c_seq ?_
 refine rg ?_
 refine st (v := (I m_0)) (rv_move rfl) ?_
 refine st (v := (I others_1)) (rv_move rfl) ?_
 refine st (v := (I (gand m_0 others_1))) (rv_and (a := m_0) (b := others_1) rfl rfl) ?_
 refine st (v := (B ((gand m_0 others_1) != 0))) (rv_neq (a := (gand m_0 others_1)) (b := 0) rfl rfl) ?_
 refine st (v := (B ((gand m_0 others_1) != 0))) (rv_assign rfl) ?_
 refine w_end ?_
 refine q_then ?_
 refine c_ret ?_
 obtain rfl := Option.some.inj h
 exact fin_ret (v := (B ((gand m_0 others_1) != 0))) (results_ok Try.results72 (res_tmp (v := (B ((gand m_0 others_1) != 0))) rfl res_nil) rfl) ⟨rfl, rfl⟩ (H.sel' [] rfl rfl)

theorem c_impl_Filter_accepts {f_0 : Int × Int × Int} {tags_1 : Int}  {r : Bool} (h : M.impl_Filter_accepts f_0 tags_1 = some r) :
    Cal2 Try.prog 46 [(.agg #[(I f_0.1), (I f_0.2.1), (I f_0.2.2)]), (I tags_1)] [] (fun n0 v L => v = (B r) ∧ L = []) := by
 refine cal2 (n := 27) Try.func46 rfl rfl rfl rfl ?_
 intro S0 σ0 n0 hn0 H
 unfold M.impl_Filter_accepts at h
 refine c_seq ?_
 refine rg ?_
 refine st_ex (ex_box (cs := [(I f_0.1), (I f_0.2.1), (I f_0.2.2)]) H hn0 rfl rfl) wn ?_
 rintro _ σ2 ⟨b1, rfl, H, -⟩
 refine st (v := (B false)) (rv_assign rfl) ?_
 refine w_end ?_
 refine q_then ?_
 refine c_seq ?_
 refine rg ?_
 refine st (v := (I tags_1)) (rv_move rfl) ?_
 refine st (v := (pt b1 0)) (rv_fieldAddr (off := 0) (ft := 3) Try.underlying25 rfl ti3 rfl rfl) ?_
 have hc3 := H.cell (u := (I f_0.1)) (o' := 0) 0 0 rfl rfl rfl
 refine st (v := (I f_0.1)) (rv_load1 Try.underlying3 rfl rfl hc3) ?_
 obtain ⟨r4, hx5, h'⟩ := bind_some h
 clear h
 have h := h'; clear h'
 have hc6 := c_impl_tagMask_hasAll hx5
 refine st_call (cx_call hc6 (ent_f hc6.fn rfl) hn0 (show Hp S0 σ0 _ ([] ++ [Ch.bx n0 b1 0 [(I f_0.1), (I f_0.2.1), (I f_0.2.2)] [] []]) from (H.sel' [0] rfl rfl))) wn ?_
 rintro _ σ7 ⟨_, ⟨rfl, rfl⟩, H, -⟩
 replace H : Hp S0 σ0 σ7 [Ch.bx n0 b1 0 [(I f_0.1), (I f_0.2.1), (I f_0.2.2)] [] []] := H
 refine st (v := (B r4)) (rv_move rfl) ?_
 rcases Bool.eq_false_or_eq_true r4 with hb8 | hb8
 ·replace h := bif_t hb8 h
  refine st_g (v := (I tags_1)) (congrArg some hb8) (rv_move rfl) ?_
  refine st_g (v := (pt b1 1)) (congrArg some hb8) (rv_fieldAddr (off := 1) (ft := 3) Try.underlying25 rfl ti3 rfl rfl) ?_
  have hc9 := H.cell (u := (I f_0.2.1)) (o' := 1) 0 1 rfl rfl rfl
  refine st_g (v := (I f_0.2.1)) (congrArg some hb8) (rv_load1 Try.underlying3 rfl rfl hc9) ?_
  obtain ⟨r10, hx11, h'⟩ := bind_some h
  clear h
  have h := h'; clear h'
  have hc12 := c_impl_tagMask_hasAny hx11
  refine st_call (cx_call hc12 (ent_f hc12.fn rfl) hn0 (show Hp S0 σ0 _ ([] ++ [Ch.bx n0 b1 0 [(I f_0.1), (I f_0.2.1), (I f_0.2.2)] [] []]) from (H.sel' [0] rfl rfl))) (wanted_yes rfl (by exact (congrArg some hb8))) ?_
  rintro _ σ13 ⟨_, ⟨rfl, rfl⟩, H, -⟩
  replace H : Hp S0 σ0 σ13 [Ch.bx n0 b1 0 [(I f_0.1), (I f_0.2.1), (I f_0.2.2)] [] []] := H
  refine st_g (v := (B (!r10))) (congrArg some hb8) (rv_not rfl) ?_
  refine st (v := (B (!r10))) (rv_pick_t (congrArg B hb8) rfl) ?_
  refine st (v := (B (!r10))) (rv_move rfl) ?_
  rcases Bool.eq_false_or_eq_true (!r10) with hb14 | hb14
  ·replace h := bif_t hb14 h
   refine st_g (v := (pt b1 2)) (congrArg some hb14) (rv_fieldAddr (off := 2) (ft := 3) Try.underlying25 rfl ti3 rfl rfl) ?_
   have hc15 := H.cell (u := (I f_0.2.2)) (o' := 2) 0 2 rfl rfl rfl
   refine st_g (v := (I f_0.2.2)) (congrArg some hb14) (rv_load1 Try.underlying3 rfl rfl hc15) ?_
   refine st_g (v := (B (f_0.2.2 == 0))) (congrArg some hb14) (rv_eql (a := f_0.2.2) (b := 0) rfl rfl) ?_
   refine st_g (v := (B (f_0.2.2 == 0))) (congrArg some hb14) (rv_move rfl) ?_
   rcases Bool.eq_false_or_eq_true (f_0.2.2 == 0) with hb16 | hb16
   ·replace h := bif_t hb16 h
    refine st_skip (congrArg some hb16) ?_
    refine st_skip (congrArg some hb16) ?_
    refine st_skip (congrArg some hb16) ?_
    refine st_skip (congrArg some hb16) ?_
    refine st_g (v := (B true)) (congrArg some hb14) (rv_pick_t (congrArg B hb16) rfl) ?_
    refine st (v := (B true)) (rv_pick_t (congrArg B hb14) rfl) ?_
    refine st (v := (B true)) (rv_assign rfl) ?_
    refine w_end ?_
    refine q_then ?_
    refine c_ret ?_
    obtain rfl := Option.some.inj h
    exact fin_ret (v := (B true)) (results_ok Try.results46 (res_tmp (v := (B true)) rfl res_nil) rfl) ⟨rfl, rfl⟩ (H.sel' [] rfl rfl)
   ·replace h := bif_f hb16 h
    refine st_g (v := (I tags_1)) (congrArg some hb16) (rv_move rfl) ?_
    refine st_g (v := (pt b1 2)) (congrArg some hb16) (rv_fieldAddr (off := 2) (ft := 3) Try.underlying25 rfl ti3 rfl rfl) ?_
    have hc17 := H.cell (u := (I f_0.2.2)) (o' := 2) 0 2 rfl rfl rfl
    refine st_g (v := (I f_0.2.2)) (congrArg some hb16) (rv_load1 Try.underlying3 rfl rfl hc17) ?_
    obtain ⟨r18, hx19, h'⟩ := bind_some h
    clear h
    have h := h'; clear h'
    have hc20 := c_impl_tagMask_hasAny hx19
    refine st_call (cx_call hc20 (ent_f hc20.fn rfl) hn0 (show Hp S0 σ0 _ ([] ++ [Ch.bx n0 b1 0 [(I f_0.1), (I f_0.2.1), (I f_0.2.2)] [] []]) from (H.sel' [0] rfl rfl))) (wanted_yes rfl (by exact (congrArg some hb16))) ?_
    rintro _ σ21 ⟨_, ⟨rfl, rfl⟩, H, -⟩
    replace H : Hp S0 σ0 σ21 [Ch.bx n0 b1 0 [(I f_0.1), (I f_0.2.1), (I f_0.2.2)] [] []] := H
    refine st_g (v := (B r18)) (congrArg some hb14) (rv_pick_f (congrArg B hb16) rfl) ?_
    refine st (v := (B r18)) (rv_pick_t (congrArg B hb14) rfl) ?_
    refine st (v := (B r18)) (rv_assign rfl) ?_
    refine w_end ?_
    refine q_then ?_
    refine c_ret ?_
    obtain rfl := Option.some.inj h
    exact fin_ret (v := (B r18)) (results_ok Try.results46 (res_tmp (v := (B r18)) rfl res_nil) rfl) ⟨rfl, rfl⟩ (H.sel' [] rfl rfl)
  ·replace h := bif_f hb14 h
   refine st_skip (congrArg some hb14) ?_
   refine st_skip (congrArg some hb14) ?_
   refine st_skip (congrArg some hb14) ?_
   refine st_skip (congrArg some hb14) ?_
   refine st_skip_u rfl ?_
   refine st_skip_u rfl ?_
   refine st_skip_u rfl ?_
   refine st_skip_u rfl ?_
   refine st_skip (congrArg some hb14) ?_
   refine st (v := (B false)) (rv_pick_f (congrArg B hb14) rfl) ?_
   refine st (v := (B false)) (rv_assign rfl) ?_
   refine w_end ?_
   refine q_then ?_
   refine c_ret ?_
   obtain rfl := Option.some.inj h
   exact fin_ret (v := (B false)) (results_ok Try.results46 (res_tmp (v := (B false)) rfl res_nil) rfl) ⟨rfl, rfl⟩ (H.sel' [] rfl rfl)
 ·replace h := bif_f hb8 h
  refine st_skip (congrArg some hb8) ?_
  refine st_skip (congrArg some hb8) ?_
  refine st_skip (congrArg some hb8) ?_
  refine st_skip (congrArg some hb8) ?_
  refine st_skip (congrArg some hb8) ?_
  refine st (v := (B false)) (rv_pick_f (congrArg B hb8) rfl) ?_
  refine st (v := (B false)) (rv_move rfl) ?_
  refine st_skip rfl ?_
  refine st_skip rfl ?_
  refine st_skip rfl ?_
  refine st_skip rfl ?_
  refine st_skip_u rfl ?_
  refine st_skip_u rfl ?_
  refine st_skip_u rfl ?_
  refine st_skip_u rfl ?_
  refine st_skip rfl ?_
  refine st (v := (B false)) (rv_pick_f rfl rfl) ?_
  refine st (v := (B false)) (rv_assign rfl) ?_
  refine w_end ?_
  refine q_then ?_
  refine c_ret ?_
  obtain rfl := Option.some.inj h
  exact fin_ret (v := (B false)) (results_ok Try.results46 (res_tmp (v := (B false)) rfl res_nil) rfl) ⟨rfl, rfl⟩ (H.sel' [] rfl rfl)

theorem c__impl_Filter_itemsOf_1__p_impl_Filter {x_0 : Int × (List Int) × Int} {p_1 : Int × Int × Int} {ax_0_1 : Option Addr} {cx_0_1 : Nat} {lop_1 bp_1 op_1 : Nat} {prep_1 sufp_1 : List Value} {r : Bool} (h : M._impl_Filter_itemsOf_1__p_impl_Filter x_0 p_1 = some r) :
    Cal2 Try.prog 79 [(.agg #[(I x_0.1), (Sl ax_0_1 x_0.2.1 cx_0_1), (I x_0.2.2)]), (pt bp_1 op_1)] [Ch.ro 0 (Sl ax_0_1 x_0.2.1 cx_0_1) x_0.2.1, Ch.bx lop_1 bp_1 op_1 [(I p_1.1), (I p_1.2.1), (I p_1.2.2)] prep_1 sufp_1] (fun n0 v L => v = (B r) ∧ L = [Ch.bx lop_1 bp_1 op_1 [(I p_1.1), (I p_1.2.1), (I p_1.2.2)] prep_1 sufp_1]) := by
 refine cal2 (n := 8) Try.func79 rfl rfl rfl rfl ?_
 intro S0 σ0 n0 hn0 H
 unfold M._impl_Filter_itemsOf_1__p_impl_Filter at h
 refine c_seq ?_
 refine rg ?_
 refine st_ex (ex_box (cs := [(I x_0.1), (Sl ax_0_1 x_0.2.1 cx_0_1), (I x_0.2.2)]) H hn0 rfl rfl) wn ?_
 rintro _ σ2 ⟨b1, rfl, H, -⟩
 refine st (v := (B false)) (rv_assign rfl) ?_
 refine w_end ?_
 refine q_then ?_
 refine c_seq ?_
 refine rg ?_
 have hc3 := H.cells 2 rfl
 refine st (v := (.agg #[(I p_1.1), (I p_1.2.1), (I p_1.2.2)])) (rv_load (cs := [(I p_1.1), (I p_1.2.1), (I p_1.2.2)]) Try.underlying25 rfl ti25 rfl rfl hc3) ?_
 refine st (v := (pt b1 2)) (rv_fieldAddr (off := 2) (ft := 3) Try.underlying65 rfl ti3 rfl rfl) ?_
 have hc4 := H.cell (u := (I x_0.2.2)) (o' := 2) 0 2 rfl rfl rfl
 refine st (v := (I x_0.2.2)) (rv_load1 Try.underlying3 rfl rfl hc4) ?_
 obtain ⟨r5, hx6, h'⟩ := bind_some h
 clear h
 have h := h'; clear h'
 have hc7 := c_impl_Filter_accepts hx6
 refine st_call (cx_call hc7 (ent_f hc7.fn rfl) hn0 (show Hp S0 σ0 _ ([] ++ [Ch.bx n0 b1 0 [(I x_0.1), (Sl ax_0_1 x_0.2.1 cx_0_1), (I x_0.2.2)] [] [], Ch.ro 0 (Sl ax_0_1 x_0.2.1 cx_0_1) x_0.2.1, Ch.bx lop_1 bp_1 op_1 [(I p_1.1), (I p_1.2.1), (I p_1.2.2)] prep_1 sufp_1]) from (H.sel' [0, 1, 2] rfl rfl))) wn ?_
 rintro _ σ8 ⟨_, ⟨rfl, rfl⟩, H, -⟩
 replace H : Hp S0 σ0 σ8 [Ch.bx n0 b1 0 [(I x_0.1), (Sl ax_0_1 x_0.2.1 cx_0_1), (I x_0.2.2)] [] [], Ch.ro 0 (Sl ax_0_1 x_0.2.1 cx_0_1) x_0.2.1, Ch.bx lop_1 bp_1 op_1 [(I p_1.1), (I p_1.2.1), (I p_1.2.2)] prep_1 sufp_1] := H
 refine st (v := (B r5)) (rv_assign rfl) ?_
 refine w_end ?_
 refine q_then ?_
 refine c_ret ?_
 obtain rfl := Option.some.inj h
 exact fin_ret (v := (B r5)) (results_ok Try.results79 (res_tmp (v := (B r5)) rfl res_nil) rfl) ⟨rfl, rfl⟩ (H.sel' [2] rfl rfl)

theorem c_impl_itemsThat___impl_Filter_itemsOf_1 {list_0 : List (Int × (List Int) × Int)} {chosen_1_0 : Int × Int × Int} {alist_0 : Option Addr} {clist_0 : Nat} {lochosen_1_0 bchosen_1_0 ochosen_1_0 : Nat} {prechosen_1_0 sufchosen_1_0 : List Value} {r : (List (Int × (List Int) × Int))} (h : M.impl_itemsThat___impl_Filter_itemsOf_1 list_0 chosen_1_0 = some r) :
    Cal2 Try.prog 78 [(Sl alist_0 list_0 clist_0), (.func (.func 79) #[] #[(pt bchosen_1_0 ochosen_1_0)])] [Ch.ro 0 (Sl alist_0 list_0 clist_0) list_0, Ch.bx lochosen_1_0 bchosen_1_0 ochosen_1_0 [(I chosen_1_0.1), (I chosen_1_0.2.1), (I chosen_1_0.2.2)] prechosen_1_0 sufchosen_1_0] (fun n0 v L => ∃ (az1 : Option Addr), ∃ (cz2 : Nat), v = (Sl az1 r cz2) ∧ L = [Ch.own n0 0 (Sl az1 r cz2) r, Ch.bx lochosen_1_0 bchosen_1_0 ochosen_1_0 [(I chosen_1_0.1), (I chosen_1_0.2.1), (I chosen_1_0.2.2)] prechosen_1_0 sufchosen_1_0]) := by
 refine cal2 (n := 23) Try.func78 rfl rfl rfl rfl ?_
 intro S0 σ0 n0 hn0 H
 unfold M.impl_itemsThat___impl_Filter_itemsOf_1 at h
 refine c_seq ?_
 refine rg ?_
 refine st (v := (.slice none 0 0)) (rv_assign rfl) ?_
 refine w_end ?_
 refine q_then ?_
 refine c_seq ?_
 refine rg ?_
 refine st (v := (.slice none 0 0)) (rv_assign rfl) ?_
 refine w_end ?_
 refine q_then ?_
 refine c_seq ?_
 refine c_seq ?_
 refine rg ?_
 refine st (v := (Sl alist_0 list_0 clist_0)) (rv_move rfl) ?_
 refine st (v := (I (list_0.length : Int))) (rv_len Try.underlying30 rfl) ?_
 refine st (v := (I 0)) (rv_move rfl) ?_
 refine w_end ?_
 refine q_then ?_
 obtain ⟨o1, hj, h'⟩ := bind_some h
 clear h
 refine c_cut (fun e a w => e = .normal ∧ ∃ (ρ : Nat → Value) (σ : St) (aj1 : Option Addr) (cj2 : Nat), a = fr 23 (updL ρ [(1, (.func (.func 79) #[] #[(pt bchosen_1_0 ochosen_1_0)])), (5, (Sl aj1 o1 cj2))]) ∧ w = σ.w ∧ Hp S0 σ0 σ [Ch.bx lochosen_1_0 bchosen_1_0 ochosen_1_0 [(I chosen_1_0.1), (I chosen_1_0.2.1), (I chosen_1_0.2.2)] prechosen_1_0 sufchosen_1_0, Ch.own n0 0 (Sl aj1 o1 cj2) o1]) ?_ ?_
 ·clear h'
  rename _ = some o1 => h
  refine c_blk ?_
  replace H := H.nilOwn (Int × (List Int) × Int) n0 0
  refine wp_loopM _ h (fun s2 a w => ∃ (ρ : Nat → Value) (σ : St) (aj1 : Option Addr) (cj2 : Nat), a = fr 23 (updL ρ [(1, (.func (.func 79) #[] #[(pt bchosen_1_0 ochosen_1_0)])), (5, (Sl aj1 s2.1 cj2)), (8, (Sl alist_0 list_0 clist_0)), (9, (I (list_0.length : Int))), (10, (I s2.2))]) ∧ w = σ.w ∧ Hp S0 σ0 σ [Ch.bx lochosen_1_0 bchosen_1_0 ochosen_1_0 [(I chosen_1_0.1), (I chosen_1_0.2.1), (I chosen_1_0.2.2)] prechosen_1_0 sufchosen_1_0, Ch.own n0 0 (Sl aj1 s2.1 cj2) s2.1, Ch.ro 0 (Sl alist_0 list_0 clist_0) list_0]) ⟨_, σ0, none, 0, fr_join ⟨rfl, rfl, rfl, rfl, rfl, trivial⟩, rfl, H.sel' [2, 0, 1] rfl rfl⟩ ?_
  clear h H
  rintro s2 a w o ⟨ρ, σ3, a4, c5, rfl, rfl, H⟩ h hres
  refine c_seq ?_
  refine rg ?_
  refine st (v := (B (decide (s2.2 < (list_0.length : Int))))) (rv_lss (a := s2.2) (b := (list_0.length : Int)) rfl rfl) ?_
  refine w_end ?_
  refine q_then ?_
  refine c_seq ?_
  refine cd_cond (decide (s2.2 < (list_0.length : Int))) rfl (fun hb6 => ?_) (fun hb6 => ?_)
  ·replace h := bif_t hb6 h
   refine c_skip ?_
   refine q_then ?_
   refine c_seq ?_
   obtain ⟨o7, hj, h'⟩ := bind_some h
   clear h
   refine c_cut (fun e a w => e = .normal ∧ ∃ (ρ : Nat → Value) (σ : St) (aj1 : Option Addr) (cj2 : Nat), a = fr 23 (updL ρ [(1, (.func (.func 79) #[] #[(pt bchosen_1_0 ochosen_1_0)])), (5, (Sl aj1 o7 cj2)), (8, (Sl alist_0 list_0 clist_0)), (9, (I (list_0.length : Int))), (10, (I s2.2))]) ∧ w = σ.w ∧ Hp S0 σ0 σ [Ch.bx lochosen_1_0 bchosen_1_0 ochosen_1_0 [(I chosen_1_0.1), (I chosen_1_0.2.1), (I chosen_1_0.2.2)] prechosen_1_0 sufchosen_1_0, Ch.own n0 0 (Sl aj1 o7 cj2) o7, Ch.ro 0 (Sl alist_0 list_0 clist_0) list_0]) ?_ ?_
   ·clear h'
    rename _ = some o7 => h
    refine c_blk ?_
    refine c_seq ?_
    refine rg ?_
    obtain ⟨x8, hx9, h'⟩ := bind_some h
    clear h
    have h := h'; clear h'
    obtain ⟨b11, o12, hi10, -⟩ := (H.ro 2 rfl).ix hx9
    refine st (v := (pt b11 o12)) (rv_ix Try.underlying30 ti65 rfl rfl hi10) ?_
    obtain ⟨_, ⟨_, _, rfl, rfl, ⟨_, _, rfl, ⟨_, rfl, hR17⟩, rfl⟩⟩, hl13, hc14⟩ := ((H.ro 2 rfl).at hx9 hi10).cells
    obtain ⟨a15, c16, rfl⟩ := hR17.isSl
    replace H := H.add (d := Ch.ro 0 (Sl a15 x8.2.1 c16) x8.2.1) hR17 (fun _ h => h)
    clear hR17
    refine st (v := (.agg #[(I x8.1), (Sl a15 x8.2.1 c16), (I x8.2.2)])) (rv_load Try.underlying65 rfl ti65 rfl hl13 hc14) ?_
    refine st_ex (ex_alloc (cs := [(I 0), (.slice none 0 0), (I 0)]) H hn0 ti65 rfl) wn ?_
    rintro _ σ19 ⟨b18, rfl, H, -⟩
    refine st_exS (ex_store_box (k := 0) (cs := [(I 0), (.slice none 0 0), (I 0)]) (vs := [(I x8.1), (Sl a15 x8.2.1 c16), (I x8.2.2)]) (cs' := [(I x8.1), (Sl a15 x8.2.1 c16), (I x8.2.2)]) H (i := 0) rfl ti65 rfl rfl rfl rfl rfl (Nat.le_of_ble_eq_true rfl) (by simp [plain]) rfl) wn ?_
    rintro σ20 ⟨H, -⟩
    refine w_end ?_
    refine q_then ?_
    refine c_seq ?_
    refine rg ?_
    refine st (v := (.func (.func 79) #[] #[(pt bchosen_1_0 ochosen_1_0)])) (rv_move rfl) ?_
    have hc21 := H.cells 0 rfl
    refine st (v := (.agg #[(I x8.1), (Sl a15 x8.2.1 c16), (I x8.2.2)])) (rv_load (cs := [(I x8.1), (Sl a15 x8.2.1 c16), (I x8.2.2)]) Try.underlying65 rfl ti65 rfl rfl hc21) ?_
    obtain ⟨r22, hx23, h'⟩ := bind_some h
    clear h
    have h := h'; clear h'
    have hc24 := c__impl_Filter_itemsOf_1__p_impl_Filter (ax_0_1 := a15) (cx_0_1 := c16) (lop_1 := lochosen_1_0) (bp_1 := bchosen_1_0) (op_1 := ochosen_1_0) (prep_1 := prechosen_1_0) (sufp_1 := sufchosen_1_0) hx23
    refine st_call (cx_call hc24 (ent_v (cap := [(pt bchosen_1_0 ochosen_1_0)]) hc24.fn rfl rfl) hn0 (show Hp S0 σ0 _ ([Ch.ro 0 (Sl a15 x8.2.1 c16) x8.2.1, Ch.bx lochosen_1_0 bchosen_1_0 ochosen_1_0 [(I chosen_1_0.1), (I chosen_1_0.2.1), (I chosen_1_0.2.2)] prechosen_1_0 sufchosen_1_0] ++ [Ch.bx n0 b18 0 [(I x8.1), (Sl a15 x8.2.1 c16), (I x8.2.2)] [] [], Ch.ro 0 (Sl a15 x8.2.1 c16) x8.2.1, Ch.own n0 0 (Sl a4 s2.1 c5) s2.1, Ch.ro 0 (Sl alist_0 list_0 clist_0) list_0]) from (H.sel' [1, 2, 0, 1, 3, 4] rfl rfl))) wn ?_
    rintro _ σ25 ⟨_, ⟨rfl, rfl⟩, H, -⟩
    replace H : Hp S0 σ0 σ25 [Ch.bx lochosen_1_0 bchosen_1_0 ochosen_1_0 [(I chosen_1_0.1), (I chosen_1_0.2.1), (I chosen_1_0.2.2)] prechosen_1_0 sufchosen_1_0, Ch.bx n0 b18 0 [(I x8.1), (Sl a15 x8.2.1 c16), (I x8.2.2)] [] [], Ch.ro 0 (Sl a15 x8.2.1 c16) x8.2.1, Ch.own n0 0 (Sl a4 s2.1 c5) s2.1, Ch.ro 0 (Sl alist_0 list_0 clist_0) list_0] := H
    refine w_end ?_
    refine q_then ?_
    refine cd_cond r22 rfl (fun hb26 => ?_) (fun hb26 => ?_)
    ·replace h := bif_t hb26 h
     refine rg ?_
     refine st (v := (Sl a4 s2.1 c5)) (rv_move rfl) ?_
     have hc27 := H.cells 1 rfl
     refine st (v := (.agg #[(I x8.1), (Sl a15 x8.2.1 c16), (I x8.2.2)])) (rv_load (cs := [(I x8.1), (Sl a15 x8.2.1 c16), (I x8.2.2)]) Try.underlying65 rfl ti65 rfl rfl hc27) ?_
     refine st_ex (ex_buildSlice (el := 0) (xs := ([(x8.1, x8.2.1, x8.2.2)] : List (Int × (List Int) × Int))) (ps := [(0, (.agg #[(I x8.1), (Sl a15 x8.2.1 c16), (I x8.2.2)]))]) (cs := [(I x8.1), (Sl a15 x8.2.1 c16), (I x8.2.2)]) H hn0 Try.underlying30 ti65 rfl rfl (by kernel_rfl) (.cons (c := [(I x8.1), (Sl a15 x8.2.1 c16), (I x8.2.2)]) ⟨[(I x8.1)], [(Sl a15 x8.2.1 c16), (I x8.2.2)], rfl, rfl, ⟨[(Sl a15 x8.2.1 c16)], [(I x8.2.2)], rfl, ⟨_, rfl, (H.ro 2 rfl)⟩, rfl⟩⟩ (.nil)) rfl) wn ?_
     rintro _ σ29 ⟨b28, rfl, H, -⟩
     obtain ⟨xs30, hx31, h'⟩ := bind_some h
     clear h
     have h := h'; clear h'
     refine st_ex (ex_append H (i := 4) rfl Try.underlying30 Try.underlying30 ti65 rfl rfl (by decide) (H.own 0 rfl).rd hx31 hn0 rfl rfl) wn ?_
     rintro _ σ34 ⟨a32, c33, rfl, H, -⟩
     refine st (v := (Sl a32 xs30 c33)) (rv_assign rfl) ?_
     refine w_end ?_
     refine q_blk ?_
     obtain rfl := Option.some.inj h
     exact ⟨rfl, _, σ34, a32, c33, fr_join ⟨rfl, rfl, rfl, rfl, rfl, trivial⟩, rfl, H.sel' [2, 0, 5] rfl rfl⟩
    ·replace h := bif_f hb26 h
     refine c_skip ?_
     refine q_blk ?_
     obtain rfl := Option.some.inj h
     exact ⟨rfl, _, σ25, a4, c5, fr_join ⟨rfl, rfl, rfl, rfl, rfl, trivial⟩, rfl, H.sel' [0, 3, 4] rfl rfl⟩
   ·clear hj
    have h := h'
    clear h' H
    rintro e a w ⟨rfl, ρ, σ35, a36, c37, rfl, rfl, H⟩
    refine q_then ?_
    refine rg ?_
    refine st (v := (I (w64 (s2.2 + 1)))) (rv_add (a := s2.2) (b := 1) rfl rfl) ?_
    refine st (v := (I (w64 (s2.2 + 1)))) (rv_move rfl) ?_
    refine w_end ?_
    refine q_then ?_
    obtain rfl := Option.some.inj h
    exact ⟨_, rfl, _, σ35, a36, c37, fr_join ⟨rfl, rfl, rfl, rfl, rfl, trivial⟩, rfl, H.sel' [0, 1, 2] rfl rfl⟩
  ·replace h := bif_f hb6 h
   refine c_exit ?_
   refine q_then_x ?_
   refine q_then_x ?_
   refine q_blk_hit ?_
   obtain rfl := Option.some.inj h
   obtain rfl := hres _ rfl
   exact ⟨rfl, _, σ3, a4, c5, fr_join ⟨rfl, rfl, trivial⟩, rfl, H.sel' [0, 1] rfl rfl⟩
 ·clear hj
  have h := h'
  clear h' H
  rintro e a w ⟨rfl, ρ, σ38, a39, c40, rfl, rfl, H⟩
  refine q_then ?_
  refine c_seq ?_
  refine rg ?_
  refine st (v := (Sl a39 o1 c40)) (rv_move rfl) ?_
  refine st (v := (Sl a39 o1 c40)) (rv_assign rfl) ?_
  refine w_end ?_
  refine q_then ?_
  refine c_ret ?_
  obtain rfl := Option.some.inj h
  exact fin_ret (v := (Sl a39 o1 c40)) (results_ok Try.results78 (res_tmp (v := (Sl a39 o1 c40)) rfl res_nil) rfl) ⟨a39, c40, rfl, rfl⟩ (H.sel' [1, 0] rfl rfl)

theorem c_impl_Filter_itemsOf {f_0 : Int × Int × Int} {list_1 : List (Int × (List Int) × Int)} {alist_1 : Option Addr} {clist_1 : Nat} {r : (List (Int × (List Int) × Int))} (h : M.impl_Filter_itemsOf f_0 list_1 = some r) :
    Cal2 Try.prog 53 [(.agg #[(I f_0.1), (I f_0.2.1), (I f_0.2.2)]), (Sl alist_1 list_1 clist_1)] [Ch.ro 0 (Sl alist_1 list_1 clist_1) list_1] (fun n0 v L => ∃ (az1 : Option Addr), ∃ (cz2 : Nat), v = (Sl az1 r cz2) ∧ L = [Ch.own n0 0 (Sl az1 r cz2) r]) := by
 refine cal2 (n := 8) Try.func53 rfl rfl rfl rfl ?_
 intro S0 σ0 n0 hn0 H
 unfold M.impl_Filter_itemsOf at h
 refine c_seq ?_
 refine rg ?_
 refine st_ex (ex_box (cs := [(I f_0.1), (I f_0.2.1), (I f_0.2.2)]) H hn0 rfl rfl) wn ?_
 rintro _ σ2 ⟨b1, rfl, H, -⟩
 refine st (v := (.slice none 0 0)) (rv_assign rfl) ?_
 refine w_end ?_
 refine q_then ?_
 refine c_seq ?_
 refine rg ?_
 refine st (v := (Sl alist_1 list_1 clist_1)) (rv_move rfl) ?_
 refine st (v := (.func (.func 79) #[] #[(pt b1 0)])) (rv_makeFunc (vs := [(pt b1 0)]) rfl) ?_
 obtain ⟨r3, hx4, h'⟩ := bind_some h
 clear h
 have h := h'; clear h'
 have hc5 := c_impl_itemsThat___impl_Filter_itemsOf_1 (alist_0 := alist_1) (clist_0 := clist_1) (lochosen_1_0 := n0) (bchosen_1_0 := b1) (ochosen_1_0 := 0) (prechosen_1_0 := []) (sufchosen_1_0 := []) hx4
 refine st_call (cx_call hc5 (ent_f hc5.fn rfl) hn0 (show Hp S0 σ0 _ ([Ch.ro 0 (Sl alist_1 list_1 clist_1) list_1, Ch.bx n0 b1 0 [(I f_0.1), (I f_0.2.1), (I f_0.2.2)] [] []] ++ [Ch.ro 0 (Sl alist_1 list_1 clist_1) list_1]) from (H.sel' [1, 0, 1] rfl rfl))) wn ?_
 rintro _ σ8 ⟨_, ⟨a6, c7, rfl, rfl⟩, H, -⟩
 replace H : Hp S0 σ0 σ8 [Ch.own n0 0 (Sl a6 r3 c7) r3, Ch.bx n0 b1 0 [(I f_0.1), (I f_0.2.1), (I f_0.2.2)] [] [], Ch.ro 0 (Sl alist_1 list_1 clist_1) list_1] := H
 refine st (v := (Sl a6 r3 c7)) (rv_assign rfl) ?_
 refine w_end ?_
 refine q_then ?_
 refine c_ret ?_
 obtain rfl := Option.some.inj h
 exact fin_ret (v := (Sl a6 r3 c7)) (results_ok Try.results53 (res_tmp (v := (Sl a6 r3 c7)) rfl res_nil) rfl) ⟨a6, c7, rfl, rfl⟩ (H.sel' [0] rfl rfl)

theorem c_impl_FilterStore {list_0 : List (Int × (List Int) × Int)} {f_1 : Int × Int × Int} {alist_0 : Option Addr} {clist_0 : Nat} {r : (List (Int × (List Int) × Int))} (h : M.impl_FilterStore list_0 f_1 = some r) :
    Cal2 Try.prog 16 [(Sl alist_0 list_0 clist_0), (.agg #[(I f_1.1), (I f_1.2.1), (I f_1.2.2)])] [Ch.ro 0 (Sl alist_0 list_0 clist_0) list_0] (fun n0 v L => ∃ (az1 : Option Addr), ∃ (cz2 : Nat), ∃ (Kz3 : List Ch), v = (Sl az1 r cz2) ∧ L = [Ch.big Kz3] ∧ Dp 0 (Sl az1 r cz2) r Kz3 ∧ cz2 = r.length) := by
 refine cal2 (n := 17) Try.func16 rfl rfl rfl rfl ?_
 intro S0 σ0 n0 hn0 H
 unfold M.impl_FilterStore at h
 refine c_seq ?_
 refine rg ?_
 refine st_ex (ex_box (cs := [(I f_1.1), (I f_1.2.1), (I f_1.2.2)]) H hn0 rfl rfl) wn ?_
 rintro _ σ2 ⟨b1, rfl, H, -⟩
 refine st (v := (.slice none 0 0)) (rv_assign rfl) ?_
 refine w_end ?_
 refine q_then ?_
 refine c_seq ?_
 refine c_seq ?_
 obtain ⟨o3, hj, h'⟩ := bind_some h
 clear h
 refine c_cut (fun e a w => e = .normal ∧ ∃ (ρ : Nat → Value) (σ : St), a = fr 17 (updL ρ [(0, (Sl alist_0 list_0 clist_0)), (3, (pt b1 0)), (12, (B o3))]) ∧ w = σ.w ∧ Hp S0 σ0 σ [Ch.ro 0 (Sl alist_0 list_0 clist_0) list_0, Ch.bx n0 b1 0 [(I f_1.1), (I f_1.2.1), (I f_1.2.2)] [] []]) ?_ ?_
 ·clear h'
  rename _ = some o3 => h
  refine rg ?_
  refine st (v := (Sl alist_0 list_0 clist_0)) (rv_move rfl) ?_
  obtain ⟨r4, hx5, h'⟩ := bind_some h
  clear h
  have h := h'; clear h'
  have hc6 := c_impl_ValidStore (alist_0 := alist_0) (clist_0 := clist_0) hx5
  refine st_call (cx_call hc6 (ent_f hc6.fn rfl) hn0 (show Hp S0 σ0 _ ([Ch.ro 0 (Sl alist_0 list_0 clist_0) list_0] ++ [Ch.bx n0 b1 0 [(I f_1.1), (I f_1.2.1), (I f_1.2.2)] [] [], Ch.ro 0 (Sl alist_0 list_0 clist_0) list_0]) from (H.sel' [1, 0, 1] rfl rfl))) wn ?_
  rintro _ σ7 ⟨_, ⟨rfl, rfl⟩, H, -⟩
  replace H : Hp S0 σ0 σ7 [Ch.bx n0 b1 0 [(I f_1.1), (I f_1.2.1), (I f_1.2.2)] [] [], Ch.ro 0 (Sl alist_0 list_0 clist_0) list_0] := H
  refine st (v := (B (!r4))) (rv_not rfl) ?_
  refine st (v := (B (!r4))) (rv_move rfl) ?_
  rcases Bool.eq_false_or_eq_true (!r4) with hb8 | hb8
  ·replace h := bif_t hb8 h
   refine st_skip (congrArg some hb8) ?_
   refine st_skip (congrArg some hb8) ?_
   refine st_skip (congrArg some hb8) ?_
   refine st (v := (B true)) (rv_pick_t (congrArg B hb8) rfl) ?_
   refine w_end ?_
   obtain rfl := Option.some.inj h
   exact ⟨rfl, _, σ7, fr_join ⟨rfl, rfl, rfl, trivial⟩, rfl, H.sel' [1, 0] rfl rfl⟩
  ·replace h := bif_f hb8 h
   have hc9 := H.cells 0 rfl
   refine st_g (v := (.agg #[(I f_1.1), (I f_1.2.1), (I f_1.2.2)])) (congrArg some hb8) (rv_load (cs := [(I f_1.1), (I f_1.2.1), (I f_1.2.2)]) Try.underlying25 rfl ti25 rfl rfl hc9) ?_
   obtain ⟨r10, hx11, h'⟩ := bind_some h
   clear h
   have h := h'; clear h'
   have hc12 := c_impl_ValidFilter hx11
   refine st_call (cx_call hc12 (ent_f hc12.fn rfl) hn0 (show Hp S0 σ0 _ ([] ++ [Ch.bx n0 b1 0 [(I f_1.1), (I f_1.2.1), (I f_1.2.2)] [] [], Ch.ro 0 (Sl alist_0 list_0 clist_0) list_0]) from (H.sel' [0, 1] rfl rfl))) (wanted_yes rfl (by exact (congrArg some hb8))) ?_
   rintro _ σ13 ⟨_, ⟨rfl, rfl⟩, H, -⟩
   replace H : Hp S0 σ0 σ13 [Ch.bx n0 b1 0 [(I f_1.1), (I f_1.2.1), (I f_1.2.2)] [] [], Ch.ro 0 (Sl alist_0 list_0 clist_0) list_0] := H
   refine st_g (v := (B (!r10))) (congrArg some hb8) (rv_not rfl) ?_
   refine st (v := (B (!r10))) (rv_pick_f (congrArg B hb8) rfl) ?_
   refine w_end ?_
   obtain rfl := Option.some.inj h
   exact ⟨rfl, _, σ13, fr_join ⟨rfl, rfl, rfl, trivial⟩, rfl, H.sel' [1, 0] rfl rfl⟩
 ·clear hj
  have h := h'
  clear h' H
  rintro e a w ⟨rfl, ρ, σ14, rfl, rfl, H⟩
  refine q_then ?_
  refine cd_cond o3 rfl (fun hb15 => ?_) (fun hb15 => ?_)
  ·replace h := bif_t hb15 h
   refine c_seq ?_
   refine rg ?_
   refine st (v := (.slice none 0 0)) (rv_assign rfl) ?_
   refine w_end ?_
   refine q_then ?_
   refine c_ret ?_
   refine q_then_r ?_
   obtain ⟨K16, hK17, H⟩ := H.nilDp (Int × (List Int) × Int) 0
   obtain rfl := Option.some.inj h
   exact fin_ret (v := (.slice none 0 0)) (results_ok Try.results16 (res_tmp (v := (.slice none 0 0)) rfl res_nil) rfl) ⟨none, 0, K16, rfl, rfl, hK17, rfl⟩ (H.sel' [0] rfl rfl)
  ·replace h := bif_f hb15 h
   refine c_skip ?_
   refine q_then ?_
   refine c_seq ?_
   refine rg ?_
   have hc18 := H.cells 1 rfl
   refine st (v := (.agg #[(I f_1.1), (I f_1.2.1), (I f_1.2.2)])) (rv_load (cs := [(I f_1.1), (I f_1.2.1), (I f_1.2.2)]) Try.underlying25 rfl ti25 rfl rfl hc18) ?_
   refine st (v := (Sl alist_0 list_0 clist_0)) (rv_move rfl) ?_
   obtain ⟨r19, hx20, h'⟩ := bind_some h
   clear h
   have h := h'; clear h'
   have hc21 := c_impl_Filter_itemsOf (alist_1 := alist_0) (clist_1 := clist_0) hx20
   refine st_call (cx_call hc21 (ent_f hc21.fn rfl) hn0 (show Hp S0 σ0 _ ([Ch.ro 0 (Sl alist_0 list_0 clist_0) list_0] ++ [Ch.ro 0 (Sl alist_0 list_0 clist_0) list_0, Ch.bx n0 b1 0 [(I f_1.1), (I f_1.2.1), (I f_1.2.2)] [] []]) from (H.sel' [0, 0, 1] rfl rfl))) wn ?_
   rintro _ σ24 ⟨_, ⟨a22, c23, rfl, rfl⟩, H, -⟩
   replace H : Hp S0 σ0 σ24 [Ch.own n0 0 (Sl a22 r19 c23) r19, Ch.ro 0 (Sl alist_0 list_0 clist_0) list_0, Ch.bx n0 b1 0 [(I f_1.1), (I f_1.2.1), (I f_1.2.2)] [] []] := H
   obtain ⟨σ25, hw26, H, -⟩ := H.pub 0 rfl (Nat.zero_le _)
   rw [← hw26]; clear hw26
   obtain ⟨r27, hx28, h'⟩ := bind_some h
   clear h
   have h := h'; clear h'
   have hc29 := c_impl_copyItems (alist_0 := a22) (clist_0 := c23) hx28
   refine st_call (cx_call hc29 (ent_f hc29.fn rfl) hn0 (show Hp S0 σ0 _ ([Ch.ro 0 (Sl a22 r19 c23) r19] ++ [Ch.ro 0 (Sl a22 r19 c23) r19, Ch.ro 0 (Sl alist_0 list_0 clist_0) list_0, Ch.bx n0 b1 0 [(I f_1.1), (I f_1.2.1), (I f_1.2.2)] [] []]) from (H.sel' [0, 0, 1, 2] rfl rfl))) wn ?_
   rintro _ σ35 ⟨_, ⟨a30, c31, K32, rfl, rfl, hK33, ht34⟩, H, -⟩
   replace H : Hp S0 σ0 σ35 [Ch.big K32, Ch.ro 0 (Sl a22 r19 c23) r19, Ch.ro 0 (Sl alist_0 list_0 clist_0) list_0, Ch.bx n0 b1 0 [(I f_1.1), (I f_1.2.1), (I f_1.2.2)] [] []] := H
   refine st (v := (Sl a30 r27 c31)) (rv_assign rfl) ?_
   refine w_end ?_
   refine q_then ?_
   refine c_ret ?_
   obtain rfl := Option.some.inj h
   exact fin_ret (v := (Sl a30 r27 c31)) (results_ok Try.results16 (res_tmp (v := (Sl a30 r27 c31)) rfl res_nil) rfl) ⟨a30, c31, K32, rfl, rfl, hK33, ht34⟩ (H.sel' [0] rfl rfl)

theorem c_laws_eqIntS {a_0 : List Int} {b_1 : List Int} {aa_0 : Option Addr} {ca_0 : Nat} {ab_1 : Option Addr} {cb_1 : Nat} {r : Bool} (h : M.laws_eqIntS a_0 b_1 = some r) :
    Cal2 Try.prog 24 [(Sl aa_0 a_0 ca_0), (Sl ab_1 b_1 cb_1)] [Ch.ro 0 (Sl aa_0 a_0 ca_0) a_0, Ch.ro 0 (Sl ab_1 b_1 cb_1) b_1] (fun n0 v L => v = (B r) ∧ L = []) := by
 refine cal2 (n := 26) Try.func24 rfl rfl rfl rfl ?_
 intro S0 σ0 n0 hn0 H
 unfold M.laws_eqIntS at h
 refine c_seq ?_
 refine rg ?_
 refine st (v := (B false)) (rv_assign rfl) ?_
 refine w_end ?_
 refine q_then ?_
 refine c_seq ?_
 refine c_seq ?_
 refine rg ?_
 refine st (v := (Sl aa_0 a_0 ca_0)) (rv_move rfl) ?_
 refine st (v := (I (a_0.length : Int))) (rv_len Try.underlying36 rfl) ?_
 refine st (v := (Sl ab_1 b_1 cb_1)) (rv_move rfl) ?_
 refine st (v := (I (b_1.length : Int))) (rv_len Try.underlying36 rfl) ?_
 refine st (v := (B ((a_0.length : Int) != (b_1.length : Int)))) (rv_neq (a := (a_0.length : Int)) (b := (b_1.length : Int)) rfl rfl) ?_
 refine w_end ?_
 refine q_then ?_
 refine cd_cond ((a_0.length : Int) != (b_1.length : Int)) rfl (fun hb1 => ?_) (fun hb1 => ?_)
 ·replace h := bif_t hb1 h
  refine c_seq ?_
  refine rg ?_
  refine st (v := (B false)) (rv_assign rfl) ?_
  refine w_end ?_
  refine q_then ?_
  refine c_ret ?_
  refine q_then_r ?_
  obtain rfl := Option.some.inj h
  exact fin_ret (v := (B false)) (results_ok Try.results24 (res_tmp (v := (B false)) rfl res_nil) rfl) ⟨rfl, rfl⟩ (H.sel' [] rfl rfl)
 ·replace h := bif_f hb1 h
  refine c_skip ?_
  refine q_then ?_
  refine c_seq ?_
  refine c_seq ?_
  refine rg ?_
  refine st (v := (I 0)) (rv_assign rfl) ?_
  refine w_end ?_
  refine q_then ?_
  obtain ⟨o2, hj, h'⟩ := bind_some h
  clear h
  refine c_cut (fun e a w => (∃ t, o2 = (.inl t) ∧ e = .normal ∧ ∃ (ρ : Nat → Value) (σ : St), a = fr 26 (updL ρ []) ∧ w = σ.w ∧ Hp S0 σ0 σ []) ∨ (∃ t, o2 = (.inr t) ∧ e = .ret ∧ ∃ (ρ : Nat → Value) (σ : St), a = fr 26 (updL ρ [(4, (B t))]) ∧ w = σ.w ∧ Hp S0 σ0 σ [])) ?_ ?_
  ·clear h'
   rename _ = some o2 => h
   refine c_blk ?_
   refine wp_loopM _ h (fun s3 a w => ∃ (ρ : Nat → Value) (σ : St), a = fr 26 (updL ρ [(0, (Sl aa_0 a_0 ca_0)), (1, (Sl ab_1 b_1 cb_1)), (5, (I s3))]) ∧ w = σ.w ∧ Hp S0 σ0 σ [Ch.ro 0 (Sl aa_0 a_0 ca_0) a_0, Ch.ro 0 (Sl ab_1 b_1 cb_1) b_1]) ⟨_, σ0, fr_join ⟨rfl, rfl, rfl, trivial⟩, rfl, H.sel' [0, 1] rfl rfl⟩ ?_
   clear h H
   rintro s3 a w o ⟨ρ, σ4, rfl, rfl, H⟩ h hres
   refine c_seq ?_
   refine c_seq ?_
   refine rg ?_
   refine st (v := (I s3)) (rv_move rfl) ?_
   refine st (v := (Sl aa_0 a_0 ca_0)) (rv_move rfl) ?_
   refine st (v := (I (a_0.length : Int))) (rv_len Try.underlying36 rfl) ?_
   refine st (v := (B (decide (s3 < (a_0.length : Int))))) (rv_lss (a := s3) (b := (a_0.length : Int)) rfl rfl) ?_
   refine w_end ?_
   refine q_then ?_
   refine cd_cond (decide (s3 < (a_0.length : Int))) rfl (fun hb5 => ?_) (fun hb5 => ?_)
   ·replace h := bif_t hb5 h
    refine c_skip ?_
    refine q_then ?_
    refine c_seq ?_
    refine c_blk ?_
    refine c_seq ?_
    refine rgP (σ := σ4) 8 (by kernel_rfl) (by kernel_rfl) (by kernel_rfl) ?_
    refine sq (v := (Sl aa_0 a_0 ca_0)) (rv_move rfl) ?_
    refine sq (v := (I s3)) (rv_move rfl) ?_
    obtain ⟨x6, hx7, h'⟩ := bind_some h
    clear h
    have h := h'; clear h'
    obtain ⟨b9, o10, hi8, -⟩ := (H.ro 0 rfl).ix hx7
    refine sq (v := (pt b9 o10)) (rv_ix Try.underlying36 ti3 rfl rfl hi8) ?_
    have hc11 := ((H.ro 0 rfl).at hx7 hi8).int
    refine sq (v := (I x6)) (rv_load1 Try.underlying3 rfl rfl hc11) ?_
    refine sq (v := (Sl ab_1 b_1 cb_1)) (rv_move rfl) ?_
    refine sq (v := (I s3)) (rv_move rfl) ?_
    obtain ⟨x12, hx13, h'⟩ := bind_some h
    clear h
    have h := h'; clear h'
    obtain ⟨b15, o16, hi14, -⟩ := (H.ro 1 rfl).ix hx13
    refine sq (v := (pt b15 o16)) (rv_ix Try.underlying36 ti3 rfl rfl hi14) ?_
    have hc17 := ((H.ro 1 rfl).at hx13 hi14).int
    refine sq (v := (I x12)) (rv_load1 Try.underlying3 rfl rfl hc17) ?_
    refine sq_end ?_
    intro σ18 hm19
    replace H := H.grow (hm19.mono fun _ h => h); clear hm19
    refine st (v := (B (x6 != x12))) (rv_neq (a := x6) (b := x12) rfl rfl) ?_
    refine w_end ?_
    refine q_then ?_
    refine cd_cond (x6 != x12) rfl (fun hb20 => ?_) (fun hb20 => ?_)
    ·replace h := bif_t hb20 h
     refine c_seq ?_
     refine rg ?_
     refine st (v := (B false)) (rv_assign rfl) ?_
     refine w_end ?_
     refine q_then ?_
     refine c_ret ?_
     refine q_blk_r ?_
     refine q_then_r ?_
     refine q_then_r ?_
     refine q_blk_r ?_
     obtain rfl := Option.some.inj h
     obtain rfl := hres _ rfl
     exact .inr (⟨_, rfl, rfl, _, σ18, fr_join ⟨rfl, trivial⟩, rfl, H.sel' [] rfl rfl⟩)
    ·replace h := bif_f hb20 h
     refine c_skip ?_
     refine q_blk ?_
     refine q_then ?_
     refine rg ?_
     refine st (v := (I s3)) (rv_move rfl) ?_
     refine st (v := (I (w64 (s3 + 1)))) (rv_add (a := s3) (b := 1) rfl rfl) ?_
     refine st (v := (I (w64 (s3 + 1)))) (rv_assign rfl) ?_
     refine w_end ?_
     refine q_then ?_
     obtain rfl := Option.some.inj h
     exact ⟨_, rfl, _, σ18, fr_join ⟨rfl, rfl, rfl, trivial⟩, rfl, H.sel' [0, 1] rfl rfl⟩
   ·replace h := bif_f hb5 h
    refine c_exit ?_
    refine q_then_x ?_
    refine q_then_x ?_
    refine q_blk_hit ?_
    obtain rfl := Option.some.inj h
    obtain rfl := hres _ rfl
    exact .inl ⟨_, rfl, rfl, _, σ4, fr_join trivial, rfl, H.sel' [] rfl rfl⟩
  ·clear hj
   have h := h'
   clear h' H
   rintro e a w (⟨t21, rfl, rfl, ρ, σ22, rfl, rfl, H⟩ | ⟨t23, rfl, rfl, ρ, σ24, rfl, rfl, H⟩)
   ·replace h := selim_l h
    refine q_then ?_
    refine c_seq ?_
    refine rg ?_
    refine st (v := (B true)) (rv_assign rfl) ?_
    refine w_end ?_
    refine q_then ?_
    refine c_ret ?_
    obtain rfl := Option.some.inj h
    exact fin_ret (v := (B true)) (results_ok Try.results24 (res_tmp (v := (B true)) rfl res_nil) rfl) ⟨rfl, rfl⟩ (H.sel' [] rfl rfl)
   ·replace h := selim_r h
    refine q_then_r ?_
    obtain rfl := Option.some.inj h
    exact fin_ret (v := (B t23)) (results_ok Try.results24 (res_tmp (v := (B t23)) rfl res_nil) rfl) ⟨rfl, rfl⟩ (H.sel' [] rfl rfl)

theorem c_laws_eqItem {a_0 : Int × (List Int) × Int} {b_1 : Int × (List Int) × Int} {aa_0_1 : Option Addr} {ca_0_1 : Nat} {ab_1_1 : Option Addr} {cb_1_1 : Nat} {r : Bool} (h : M.laws_eqItem a_0 b_1 = some r) :
    Cal2 Try.prog 54 [(.agg #[(I a_0.1), (Sl aa_0_1 a_0.2.1 ca_0_1), (I a_0.2.2)]), (.agg #[(I b_1.1), (Sl ab_1_1 b_1.2.1 cb_1_1), (I b_1.2.2)])] [Ch.ro 0 (Sl aa_0_1 a_0.2.1 ca_0_1) a_0.2.1, Ch.ro 0 (Sl ab_1_1 b_1.2.1 cb_1_1) b_1.2.1] (fun n0 v L => v = (B r) ∧ L = []) := by
 refine cal2 (n := 21) Try.func54 rfl rfl rfl rfl ?_
 intro S0 σ0 n0 hn0 H
 unfold M.laws_eqItem at h
 refine c_seq ?_
 refine rg ?_
 refine st_ex (ex_box (cs := [(I a_0.1), (Sl aa_0_1 a_0.2.1 ca_0_1), (I a_0.2.2)]) H hn0 rfl rfl) wn ?_
 rintro _ σ2 ⟨b1, rfl, H, -⟩
 refine st_ex (ex_box (cs := [(I b_1.1), (Sl ab_1_1 b_1.2.1 cb_1_1), (I b_1.2.2)]) H hn0 rfl rfl) wn ?_
 rintro _ σ4 ⟨b3, rfl, H, -⟩
 refine st (v := (B false)) (rv_assign rfl) ?_
 refine w_end ?_
 refine q_then ?_
 refine c_seq ?_
 refine c_seq ?_
 refine rg ?_
 refine st (v := (pt b1 0)) (rv_fieldAddr (off := 0) (ft := 3) Try.underlying65 rfl ti3 rfl rfl) ?_
 have hc5 := H.cell (u := (I a_0.1)) (o' := 0) 1 0 rfl rfl rfl
 refine st (v := (I a_0.1)) (rv_load1 Try.underlying3 rfl rfl hc5) ?_
 refine st (v := (pt b3 0)) (rv_fieldAddr (off := 0) (ft := 3) Try.underlying65 rfl ti3 rfl rfl) ?_
 have hc6 := H.cell (u := (I b_1.1)) (o' := 0) 0 0 rfl rfl rfl
 refine st (v := (I b_1.1)) (rv_load1 Try.underlying3 rfl rfl hc6) ?_
 refine st (v := (B (a_0.1 != b_1.1))) (rv_neq (a := a_0.1) (b := b_1.1) rfl rfl) ?_
 refine w_end ?_
 refine q_then ?_
 refine cd_cond (a_0.1 != b_1.1) rfl (fun hb7 => ?_) (fun hb7 => ?_)
 ·replace h := bif_t hb7 h
  refine c_seq ?_
  refine rg ?_
  refine st (v := (B false)) (rv_assign rfl) ?_
  refine w_end ?_
  refine q_then ?_
  refine c_ret ?_
  refine q_then_r ?_
  obtain rfl := Option.some.inj h
  exact fin_ret (v := (B false)) (results_ok Try.results54 (res_tmp (v := (B false)) rfl res_nil) rfl) ⟨rfl, rfl⟩ (H.sel' [] rfl rfl)
 ·replace h := bif_f hb7 h
  refine c_skip ?_
  refine q_then ?_
  refine c_seq ?_
  refine c_seq ?_
  refine rg ?_
  refine st (v := (pt b1 1)) (rv_fieldAddr (off := 1) (ft := 36) Try.underlying65 rfl ti36 rfl rfl) ?_
  have hc8 := H.cell (u := (Sl aa_0_1 a_0.2.1 ca_0_1)) (o' := 1) 1 1 rfl rfl rfl
  refine st (v := (Sl aa_0_1 a_0.2.1 ca_0_1)) (rv_load1 Try.underlying36 rfl rfl hc8) ?_
  refine st (v := (pt b3 1)) (rv_fieldAddr (off := 1) (ft := 36) Try.underlying65 rfl ti36 rfl rfl) ?_
  have hc9 := H.cell (u := (Sl ab_1_1 b_1.2.1 cb_1_1)) (o' := 1) 0 1 rfl rfl rfl
  refine st (v := (Sl ab_1_1 b_1.2.1 cb_1_1)) (rv_load1 Try.underlying36 rfl rfl hc9) ?_
  obtain ⟨r10, hx11, h'⟩ := bind_some h
  clear h
  have h := h'; clear h'
  have hc12 := c_laws_eqIntS (aa_0 := aa_0_1) (ca_0 := ca_0_1) (ab_1 := ab_1_1) (cb_1 := cb_1_1) hx11
  refine st_call (cx_call hc12 (ent_f hc12.fn rfl) hn0 (show Hp S0 σ0 _ ([Ch.ro 0 (Sl aa_0_1 a_0.2.1 ca_0_1) a_0.2.1, Ch.ro 0 (Sl ab_1_1 b_1.2.1 cb_1_1) b_1.2.1] ++ [Ch.bx n0 b3 0 [(I b_1.1), (Sl ab_1_1 b_1.2.1 cb_1_1), (I b_1.2.2)] [] [], Ch.bx n0 b1 0 [(I a_0.1), (Sl aa_0_1 a_0.2.1 ca_0_1), (I a_0.2.2)] [] [], Ch.ro 0 (Sl aa_0_1 a_0.2.1 ca_0_1) a_0.2.1, Ch.ro 0 (Sl ab_1_1 b_1.2.1 cb_1_1) b_1.2.1]) from (H.sel' [2, 3, 0, 1, 2, 3] rfl rfl))) wn ?_
  rintro _ σ13 ⟨_, ⟨rfl, rfl⟩, H, -⟩
  replace H : Hp S0 σ0 σ13 [Ch.bx n0 b3 0 [(I b_1.1), (Sl ab_1_1 b_1.2.1 cb_1_1), (I b_1.2.2)] [] [], Ch.bx n0 b1 0 [(I a_0.1), (Sl aa_0_1 a_0.2.1 ca_0_1), (I a_0.2.2)] [] [], Ch.ro 0 (Sl aa_0_1 a_0.2.1 ca_0_1) a_0.2.1, Ch.ro 0 (Sl ab_1_1 b_1.2.1 cb_1_1) b_1.2.1] := H
  refine st (v := (B (!r10))) (rv_not rfl) ?_
  refine w_end ?_
  refine q_then ?_
  refine cd_cond (!r10) rfl (fun hb14 => ?_) (fun hb14 => ?_)
  ·replace h := bif_t hb14 h
   refine c_seq ?_
   refine rg ?_
   refine st (v := (B false)) (rv_assign rfl) ?_
   refine w_end ?_
   refine q_then ?_
   refine c_ret ?_
   refine q_then_r ?_
   obtain rfl := Option.some.inj h
   exact fin_ret (v := (B false)) (results_ok Try.results54 (res_tmp (v := (B false)) rfl res_nil) rfl) ⟨rfl, rfl⟩ (H.sel' [] rfl rfl)
  ·replace h := bif_f hb14 h
   refine c_skip ?_
   refine q_then ?_
   refine c_seq ?_
   refine c_seq ?_
   refine rg ?_
   refine st (v := (pt b1 2)) (rv_fieldAddr (off := 2) (ft := 3) Try.underlying65 rfl ti3 rfl rfl) ?_
   have hc15 := H.cell (u := (I a_0.2.2)) (o' := 2) 1 2 rfl rfl rfl
   refine st (v := (I a_0.2.2)) (rv_load1 Try.underlying3 rfl rfl hc15) ?_
   refine st (v := (pt b3 2)) (rv_fieldAddr (off := 2) (ft := 3) Try.underlying65 rfl ti3 rfl rfl) ?_
   have hc16 := H.cell (u := (I b_1.2.2)) (o' := 2) 0 2 rfl rfl rfl
   refine st (v := (I b_1.2.2)) (rv_load1 Try.underlying3 rfl rfl hc16) ?_
   refine st (v := (B (a_0.2.2 != b_1.2.2))) (rv_neq (a := a_0.2.2) (b := b_1.2.2) rfl rfl) ?_
   refine w_end ?_
   refine q_then ?_
   refine cd_cond (a_0.2.2 != b_1.2.2) rfl (fun hb17 => ?_) (fun hb17 => ?_)
   ·replace h := bif_t hb17 h
    refine c_seq ?_
    refine rg ?_
    refine st (v := (B false)) (rv_assign rfl) ?_
    refine w_end ?_
    refine q_then ?_
    refine c_ret ?_
    refine q_then_r ?_
    obtain rfl := Option.some.inj h
    exact fin_ret (v := (B false)) (results_ok Try.results54 (res_tmp (v := (B false)) rfl res_nil) rfl) ⟨rfl, rfl⟩ (H.sel' [] rfl rfl)
   ·replace h := bif_f hb17 h
    refine c_skip ?_
    refine q_then ?_
    refine c_seq ?_
    refine rg ?_
    refine st (v := (B true)) (rv_assign rfl) ?_
    refine w_end ?_
    refine q_then ?_
    refine c_ret ?_
    obtain rfl := Option.some.inj h
    exact fin_ret (v := (B true)) (results_ok Try.results54 (res_tmp (v := (B true)) rfl res_nil) rfl) ⟨rfl, rfl⟩ (H.sel' [] rfl rfl)

theorem c_laws_eqItemS {a_0 : List (Int × (List Int) × Int)} {b_1 : List (Int × (List Int) × Int)} {aa_0 : Option Addr} {ca_0 : Nat} {ab_1 : Option Addr} {cb_1 : Nat} {r : Bool} (h : M.laws_eqItemS a_0 b_1 = some r) :
    Cal2 Try.prog 17 [(Sl aa_0 a_0 ca_0), (Sl ab_1 b_1 cb_1)] [Ch.ro 0 (Sl aa_0 a_0 ca_0) a_0, Ch.ro 0 (Sl ab_1 b_1 cb_1) b_1] (fun n0 v L => v = (B r) ∧ L = []) := by
 refine cal2 (n := 27) Try.func17 rfl rfl rfl rfl ?_
 intro S0 σ0 n0 hn0 H
 unfold M.laws_eqItemS at h
 refine c_seq ?_
 refine rg ?_
 refine st (v := (B false)) (rv_assign rfl) ?_
 refine w_end ?_
 refine q_then ?_
 refine c_seq ?_
 refine c_seq ?_
 refine rg ?_
 refine st (v := (Sl aa_0 a_0 ca_0)) (rv_move rfl) ?_
 refine st (v := (I (a_0.length : Int))) (rv_len Try.underlying30 rfl) ?_
 refine st (v := (Sl ab_1 b_1 cb_1)) (rv_move rfl) ?_
 refine st (v := (I (b_1.length : Int))) (rv_len Try.underlying30 rfl) ?_
 refine st (v := (B ((a_0.length : Int) != (b_1.length : Int)))) (rv_neq (a := (a_0.length : Int)) (b := (b_1.length : Int)) rfl rfl) ?_
 refine w_end ?_
 refine q_then ?_
 refine cd_cond ((a_0.length : Int) != (b_1.length : Int)) rfl (fun hb1 => ?_) (fun hb1 => ?_)
 ·replace h := bif_t hb1 h
  refine c_seq ?_
  refine rg ?_
  refine st (v := (B false)) (rv_assign rfl) ?_
  refine w_end ?_
  refine q_then ?_
  refine c_ret ?_
  refine q_then_r ?_
  obtain rfl := Option.some.inj h
  exact fin_ret (v := (B false)) (results_ok Try.results17 (res_tmp (v := (B false)) rfl res_nil) rfl) ⟨rfl, rfl⟩ (H.sel' [] rfl rfl)
 ·replace h := bif_f hb1 h
  refine c_skip ?_
  refine q_then ?_
  refine c_seq ?_
  refine c_seq ?_
  refine rg ?_
  refine st (v := (I 0)) (rv_assign rfl) ?_
  refine w_end ?_
  refine q_then ?_
  obtain ⟨o2, hj, h'⟩ := bind_some h
  clear h
  refine c_cut (fun e a w => (∃ t, o2 = (.inl t) ∧ e = .normal ∧ ∃ (ρ : Nat → Value) (σ : St), a = fr 27 (updL ρ []) ∧ w = σ.w ∧ Hp S0 σ0 σ []) ∨ (∃ t, o2 = (.inr t) ∧ e = .ret ∧ ∃ (ρ : Nat → Value) (σ : St), a = fr 27 (updL ρ [(4, (B t))]) ∧ w = σ.w ∧ Hp S0 σ0 σ [])) ?_ ?_
  ·clear h'
   rename _ = some o2 => h
   refine c_blk ?_
   refine wp_loopM _ h (fun s3 a w => ∃ (ρ : Nat → Value) (σ : St), a = fr 27 (updL ρ [(0, (Sl aa_0 a_0 ca_0)), (1, (Sl ab_1 b_1 cb_1)), (5, (I s3))]) ∧ w = σ.w ∧ Hp S0 σ0 σ [Ch.ro 0 (Sl aa_0 a_0 ca_0) a_0, Ch.ro 0 (Sl ab_1 b_1 cb_1) b_1]) ⟨_, σ0, fr_join ⟨rfl, rfl, rfl, trivial⟩, rfl, H.sel' [0, 1] rfl rfl⟩ ?_
   clear h H
   rintro s3 a w o ⟨ρ, σ4, rfl, rfl, H⟩ h hres
   refine c_seq ?_
   refine c_seq ?_
   refine rg ?_
   refine st (v := (I s3)) (rv_move rfl) ?_
   refine st (v := (Sl aa_0 a_0 ca_0)) (rv_move rfl) ?_
   refine st (v := (I (a_0.length : Int))) (rv_len Try.underlying30 rfl) ?_
   refine st (v := (B (decide (s3 < (a_0.length : Int))))) (rv_lss (a := s3) (b := (a_0.length : Int)) rfl rfl) ?_
   refine w_end ?_
   refine q_then ?_
   refine cd_cond (decide (s3 < (a_0.length : Int))) rfl (fun hb5 => ?_) (fun hb5 => ?_)
   ·replace h := bif_t hb5 h
    refine c_skip ?_
    refine q_then ?_
    refine c_seq ?_
    refine c_blk ?_
    refine c_seq ?_
    refine rgP (σ := σ4) 8 (by kernel_rfl) (by kernel_rfl) (by kernel_rfl) ?_
    refine sq (v := (Sl aa_0 a_0 ca_0)) (rv_move rfl) ?_
    refine sq (v := (I s3)) (rv_move rfl) ?_
    obtain ⟨x6, hx7, h'⟩ := bind_some h
    clear h
    have h := h'; clear h'
    obtain ⟨b9, o10, hi8, -⟩ := (H.ro 0 rfl).ix hx7
    refine sq (v := (pt b9 o10)) (rv_ix Try.underlying30 ti65 rfl rfl hi8) ?_
    obtain ⟨_, ⟨_, _, rfl, rfl, ⟨_, _, rfl, ⟨_, rfl, hR15⟩, rfl⟩⟩, hl11, hc12⟩ := ((H.ro 0 rfl).at hx7 hi8).cells
    obtain ⟨a13, c14, rfl⟩ := hR15.isSl
    replace H := H.add (d := Ch.ro 0 (Sl a13 x6.2.1 c14) x6.2.1) hR15 (fun _ h => h)
    clear hR15
    refine sq (v := (.agg #[(I x6.1), (Sl a13 x6.2.1 c14), (I x6.2.2)])) (rv_load Try.underlying65 rfl ti65 rfl hl11 hc12) ?_
    refine sq (v := (Sl ab_1 b_1 cb_1)) (rv_move rfl) ?_
    refine sq (v := (I s3)) (rv_move rfl) ?_
    obtain ⟨x16, hx17, h'⟩ := bind_some h
    clear h
    have h := h'; clear h'
    obtain ⟨b19, o20, hi18, -⟩ := (H.ro 2 rfl).ix hx17
    refine sq (v := (pt b19 o20)) (rv_ix Try.underlying30 ti65 rfl rfl hi18) ?_
    obtain ⟨_, ⟨_, _, rfl, rfl, ⟨_, _, rfl, ⟨_, rfl, hR25⟩, rfl⟩⟩, hl21, hc22⟩ := ((H.ro 2 rfl).at hx17 hi18).cells
    obtain ⟨a23, c24, rfl⟩ := hR25.isSl
    replace H := H.add (d := Ch.ro 0 (Sl a23 x16.2.1 c24) x16.2.1) hR25 (fun _ h => h)
    clear hR25
    refine sq (v := (.agg #[(I x16.1), (Sl a23 x16.2.1 c24), (I x16.2.2)])) (rv_load Try.underlying65 rfl ti65 rfl hl21 hc22) ?_
    refine sq_end ?_
    intro σ26 hm27
    replace H := H.grow (hm27.mono fun _ h => h); clear hm27
    obtain ⟨r28, hx29, h'⟩ := bind_some h
    clear h
    have h := h'; clear h'
    have hc30 := c_laws_eqItem (aa_0_1 := a13) (ca_0_1 := c14) (ab_1_1 := a23) (cb_1_1 := c24) hx29
    refine st_call (cx_call hc30 (ent_f hc30.fn rfl) hn0 (show Hp S0 σ0 _ ([Ch.ro 0 (Sl a13 x6.2.1 c14) x6.2.1, Ch.ro 0 (Sl a23 x16.2.1 c24) x16.2.1] ++ [Ch.ro 0 (Sl a23 x16.2.1 c24) x16.2.1, Ch.ro 0 (Sl a13 x6.2.1 c14) x6.2.1, Ch.ro 0 (Sl aa_0 a_0 ca_0) a_0, Ch.ro 0 (Sl ab_1 b_1 cb_1) b_1]) from (H.sel' [1, 0, 0, 1, 2, 3] rfl rfl))) wn ?_
    rintro _ σ31 ⟨_, ⟨rfl, rfl⟩, H, -⟩
    replace H : Hp S0 σ0 σ31 [Ch.ro 0 (Sl a23 x16.2.1 c24) x16.2.1, Ch.ro 0 (Sl a13 x6.2.1 c14) x6.2.1, Ch.ro 0 (Sl aa_0 a_0 ca_0) a_0, Ch.ro 0 (Sl ab_1 b_1 cb_1) b_1] := H
    refine st (v := (B (!r28))) (rv_not rfl) ?_
    refine w_end ?_
    refine q_then ?_
    refine cd_cond (!r28) rfl (fun hb32 => ?_) (fun hb32 => ?_)
    ·replace h := bif_t hb32 h
     refine c_seq ?_
     refine rg ?_
     refine st (v := (B false)) (rv_assign rfl) ?_
     refine w_end ?_
     refine q_then ?_
     refine c_ret ?_
     refine q_blk_r ?_
     refine q_then_r ?_
     refine q_then_r ?_
     refine q_blk_r ?_
     obtain rfl := Option.some.inj h
     obtain rfl := hres _ rfl
     exact .inr (⟨_, rfl, rfl, _, σ31, fr_join ⟨rfl, trivial⟩, rfl, H.sel' [] rfl rfl⟩)
    ·replace h := bif_f hb32 h
     refine c_skip ?_
     refine q_blk ?_
     refine q_then ?_
     refine rg ?_
     refine st (v := (I s3)) (rv_move rfl) ?_
     refine st (v := (I (w64 (s3 + 1)))) (rv_add (a := s3) (b := 1) rfl rfl) ?_
     refine st (v := (I (w64 (s3 + 1)))) (rv_assign rfl) ?_
     refine w_end ?_
     refine q_then ?_
     obtain rfl := Option.some.inj h
     exact ⟨_, rfl, _, σ31, fr_join ⟨rfl, rfl, rfl, trivial⟩, rfl, H.sel' [2, 3] rfl rfl⟩
   ·replace h := bif_f hb5 h
    refine c_exit ?_
    refine q_then_x ?_
    refine q_then_x ?_
    refine q_blk_hit ?_
    obtain rfl := Option.some.inj h
    obtain rfl := hres _ rfl
    exact .inl ⟨_, rfl, rfl, _, σ4, fr_join trivial, rfl, H.sel' [] rfl rfl⟩
  ·clear hj
   have h := h'
   clear h' H
   rintro e a w (⟨t33, rfl, rfl, ρ, σ34, rfl, rfl, H⟩ | ⟨t35, rfl, rfl, ρ, σ36, rfl, rfl, H⟩)
   ·replace h := selim_l h
    refine q_then ?_
    refine c_seq ?_
    refine rg ?_
    refine st (v := (B true)) (rv_assign rfl) ?_
    refine w_end ?_
    refine q_then ?_
    refine c_ret ?_
    obtain rfl := Option.some.inj h
    exact fin_ret (v := (B true)) (results_ok Try.results17 (res_tmp (v := (B true)) rfl res_nil) rfl) ⟨rfl, rfl⟩ (H.sel' [] rfl rfl)
   ·replace h := selim_r h
    refine q_then_r ?_
    obtain rfl := Option.some.inj h
    exact fin_ret (v := (B t35)) (results_ok Try.results17 (res_tmp (v := (B t35)) rfl res_nil) rfl) ⟨rfl, rfl⟩ (H.sel' [] rfl rfl)

theorem c_laws_markIntS {a_0 : List Int} {k_1 : Int} {aa_0 : Option Addr} {ca_0 : Nat} {r : Int × (List Int)} (h : M.laws_markIntS a_0 k_1 = some r) :
    Cal2 Try.prog 25 [(Sl aa_0 a_0 ca_0), (I k_1)] [Ch.own 0 0 (Sl aa_0 a_0 ca_0) a_0] (fun n0 v L => v = (I r.1) ∧ L = [Ch.own 0 0 (Sl aa_0 r.2 ca_0) r.2] ∧ r.2.length = a_0.length) := by
 refine cal2 (n := 19) Try.func25 rfl rfl rfl rfl ?_
 intro S0 σ0 n0 hn0 H
 unfold M.laws_markIntS at h
 refine c_seq ?_
 refine rg ?_
 refine st (v := (I 0)) (rv_assign rfl) ?_
 refine w_end ?_
 refine q_then ?_
 refine c_seq ?_
 refine c_seq ?_
 refine rg ?_
 refine st (v := (I 0)) (rv_assign rfl) ?_
 refine w_end ?_
 refine q_then ?_
 obtain ⟨o1, hj, h'⟩ := bind_some h
 clear h
 refine c_cut (fun e a w => e = .normal ∧ ∃ (ρ : Nat → Value) (σ : St), a = fr 19 (updL ρ [(0, (Sl aa_0 o1.1 ca_0)), (1, (I o1.2))]) ∧ w = σ.w ∧ Hp S0 σ0 σ [Ch.own 0 0 (Sl aa_0 o1.1 ca_0) o1.1] ∧ o1.1.length = a_0.length) ?_ ?_
 ·clear h'
  rename _ = some o1 => h
  refine c_blk ?_
  refine wp_loopM _ h (fun s2 a w => ∃ (ρ : Nat → Value) (σ : St), a = fr 19 (updL ρ [(0, (Sl aa_0 s2.1 ca_0)), (1, (I s2.2.1)), (5, (I s2.2.2))]) ∧ w = σ.w ∧ Hp S0 σ0 σ [Ch.own 0 0 (Sl aa_0 s2.1 ca_0) s2.1] ∧ s2.1.length = a_0.length) ⟨_, σ0, fr_join ⟨rfl, rfl, rfl, trivial⟩, rfl, H.sel' [0] rfl rfl, rfl⟩ ?_
  clear h H
  rintro s2 a w o ⟨ρ, σ3, rfl, rfl, H, hn4⟩ h hres
  refine c_seq ?_
  refine c_seq ?_
  refine rg ?_
  refine st (v := (I s2.2.2)) (rv_move rfl) ?_
  refine st (v := (Sl aa_0 s2.1 ca_0)) (rv_move rfl) ?_
  refine st (v := (I (s2.1.length : Int))) (rv_len Try.underlying36 rfl) ?_
  refine st (v := (B (decide (s2.2.2 < (s2.1.length : Int))))) (rv_lss (a := s2.2.2) (b := (s2.1.length : Int)) rfl rfl) ?_
  refine w_end ?_
  refine q_then ?_
  refine cd_cond (decide (s2.2.2 < (s2.1.length : Int))) rfl (fun hb5 => ?_) (fun hb5 => ?_)
  ·replace h := bif_t hb5 h
   refine c_skip ?_
   refine q_then ?_
   refine c_seq ?_
   refine c_blk ?_
   refine c_seq ?_
   refine rg ?_
   refine st (v := (Sl aa_0 s2.1 ca_0)) (rv_move rfl) ?_
   refine st (v := (I s2.2.2)) (rv_move rfl) ?_
   refine st (v := (I s2.2.1)) (rv_move rfl) ?_
   obtain ⟨x6, hx7, h'⟩ := bind_some h
   clear h
   have h := h'; clear h'
   obtain ⟨b9, o10, hi8, -⟩ := (H.own 0 rfl).ix hx7
   refine st (v := (pt b9 o10)) (rv_ix Try.underlying36 ti3 rfl rfl hi8) ?_
   refine st_exS (ex_store_own (e' := s2.2.1) (vs := [(I s2.2.1)]) (k := 0) H (i := 0) rfl ti3 hx7 hi8 rfl rfl rfl rfl rfl (Nat.le_of_ble_eq_true rfl) (by simp [plain]) (by rintro _ rfl; exact rfl)) wn ?_
   rintro σ11 ⟨H, -⟩
   have hsl : (Sl aa_0 s2.1 ca_0) = (Sl aa_0 (s2.1.set s2.2.2.toNat s2.2.1) ca_0) := sl_len List.length_set.symm
   rw [hsl]; rw [hsl] at H; clear hsl
   refine w_end ?_
   refine q_then ?_
   refine rg ?_
   refine st (v := (I s2.2.1)) (rv_move rfl) ?_
   refine st (v := (I (w64 (s2.2.1 + 1)))) (rv_add (a := s2.2.1) (b := 1) rfl rfl) ?_
   refine st (v := (I (w64 (s2.2.1 + 1)))) (rv_assign rfl) ?_
   refine w_end ?_
   refine q_blk ?_
   refine q_then ?_
   refine rg ?_
   refine st (v := (I s2.2.2)) (rv_move rfl) ?_
   refine st (v := (I (w64 (s2.2.2 + 1)))) (rv_add (a := s2.2.2) (b := 1) rfl rfl) ?_
   refine st (v := (I (w64 (s2.2.2 + 1)))) (rv_assign rfl) ?_
   refine w_end ?_
   refine q_then ?_
   obtain rfl := Option.some.inj h
   exact ⟨_, rfl, _, σ11, fr_join ⟨rfl, rfl, rfl, trivial⟩, rfl, H.sel' [0] rfl rfl, (List.length_set.trans hn4)⟩
  ·replace h := bif_f hb5 h
   refine c_exit ?_
   refine q_then_x ?_
   refine q_then_x ?_
   refine q_blk_hit ?_
   obtain rfl := Option.some.inj h
   obtain rfl := hres _ rfl
   exact ⟨rfl, _, σ3, fr_join ⟨rfl, rfl, trivial⟩, rfl, H.sel' [0] rfl rfl, hn4⟩
 ·clear hj
  have h := h'
  clear h' H
  rintro e a w ⟨rfl, ρ, σ12, rfl, rfl, H, hn13⟩
  refine q_then ?_
  refine c_seq ?_
  refine rg ?_
  refine st (v := (I o1.2)) (rv_move rfl) ?_
  refine st (v := (I o1.2)) (rv_assign rfl) ?_
  refine w_end ?_
  refine q_then ?_
  refine c_ret ?_
  obtain rfl := Option.some.inj h
  exact fin_ret (v := (I o1.2)) (results_ok Try.results25 (res_tmp (v := (I o1.2)) rfl res_nil) rfl) ⟨rfl, rfl, hn13⟩ (H.sel' [0] rfl rfl)

theorem c_laws_markItemS {a_0 : List (Int × (List Int) × Int)} {k_1 : Int} {aa_0 : Option Addr} {ca_0 : Nat} {lo : Nat} {K : List Ch} (hK : Dp lo (Sl aa_0 a_0 ca_0) a_0 K) {r : Int × List (Int × (List Int) × Int)} (h : M.markItemB a_0 k_1 = some r) :
    Cal2 Try.prog 18 [(Sl aa_0 a_0 ca_0), (I k_1)] [Ch.big K] (fun n0 v L => v = (I r.1) ∧ L = [Ch.ro 0 (Sl aa_0 r.2 ca_0) r.2] ∧ r.2.length = a_0.length) := by
 obtain ⟨hn, h⟩ := markItemB_some h
 obtain ⟨ps, hps, rfl⟩ := hK.ex
 refine cal2 (n := 34) Try.func18 rfl rfl rfl rfl ?_
 intro S0 σ0 n0 hn0 H
 refine c_seq ?_
 refine rg ?_
 refine st (v := (I 0)) (rv_assign rfl) ?_
 refine w_end ?_
 refine q_then ?_
 refine c_seq ?_
 refine c_seq ?_
 refine rg ?_
 refine st (v := (I 0)) (rv_assign rfl) ?_
 refine w_end ?_
 refine q_then ?_
 refine c_cut (fun e a w => e = .normal ∧ ∃ (ρ : Nat → Value) (σ : St) (ds : List ((Int × (List Int) × Int) × Value)), a = fr 34 (updL ρ [(1, (I r.1))]) ∧ w = σ.w ∧ ds.length = a_0.length ∧ ds.map (·.1) = r.2 ∧ Hp S0 σ0 σ [Ch.own lo lo (Sl aa_0 a_0 ca_0) (ds.map dsh), Ch.big (ds.map (dow 0))]) ?_ ?_
 ·refine c_blk ?_
  have hlen : ps.length = a_0.length := by rw [hps]; simp
  refine wp_loop_ghost (fun m a w => ∃ (i : Nat) (ρ : Nat → Value) (σ : St) (ds qs : List ((Int × (List Int) × Int) × Value)) (k : Int), i + m = a_0.length ∧ qs.length = m ∧ ds.length = i ∧ (∃ q, M.dmarkItemSB (qs.map (·.1)) k = some q ∧ r = (q.1, ds.map (·.1) ++ q.2)) ∧ a = fr 34 (updL ρ [(0, (Sl aa_0 a_0 ca_0)), (1, (I k)), (5, (I (i : Int)))]) ∧ w = σ.w ∧ Hp S0 σ0 σ [Ch.own lo lo (Sl aa_0 a_0 ca_0) (ds.map dsh ++ qs.map dsh), Ch.big (qs.map (dow lo)), Ch.big (ds.map (dow 0))]) a_0.length ⟨0, _, σ0, [], ps, k_1, by omega, hlen, rfl, ⟨r, hps ▸ h, rfl⟩, fr_join ⟨rfl, rfl, rfl, trivial⟩, rfl, H.unbig.bigNil.sel' [1, 2, 0] rfl rfl⟩ ?_
  clear H
  rintro m _ _ ⟨i, ρ, σ3, ds, qs, k, him, hqs, hds, ⟨q0, hk, hr⟩, rfl, rfl, H⟩
  have hdl : (ds.map (dsh : (Int × (List Int) × Int) × Value → Int × Value × Int)).length = i := by rw [List.length_map]; exact hds
  refine c_seq ?_
  refine c_seq ?_
  refine rg ?_
  refine st (v := (I (i : Int))) (rv_move rfl) ?_
  refine st (v := (Sl aa_0 a_0 ca_0)) (rv_move rfl) ?_
  refine st (v := (I (a_0.length : Int))) (rv_len Try.underlying30 rfl) ?_
  refine st (v := (B (decide ((i : Int) < (a_0.length : Int))))) (rv_lss (a := (i : Int)) (b := (a_0.length : Int)) rfl rfl) ?_
  refine w_end ?_
  refine q_then ?_
  refine cd_cond (decide ((i : Int) < (a_0.length : Int))) rfl (fun hb => ?_) (fun hb => ?_)
  ·have hlt : i < a_0.length := by have := of_decide_eq_true hb; omega
   obtain ⟨m, rfl⟩ : ∃ m', m = m' + 1 := ⟨m - 1, by omega⟩
   obtain ⟨p, qs, rfl⟩ : ∃ p qs', qs = p :: qs' := by cases qs with
    | nil => cases hqs
    | cons p qs => exact ⟨p, qs, rfl⟩
   obtain ⟨q, hq, h1⟩ := bind_some (show (M.laws_markIntS p.1.2.1 (w64 (k + 1))).bind (fun q => (M.dmarkItemSB (qs.map (·.1)) (w64 (q.1 + 1))).bind fun t => some (t.1, (k, q.2, q.1) :: t.2)) = some q0 from hk)
   obtain ⟨t, ht, h2⟩ := bind_some h1
   obtain rfl := Option.some.inj h2
   replace H : Hp S0 σ0 σ3 [Ch.own lo lo (Sl aa_0 a_0 ca_0) (ds.map dsh ++ dsh p :: qs.map dsh), Ch.big (dow lo p :: qs.map (dow lo)), Ch.big (ds.map (dow 0))] := H
   refine c_skip ?_
   refine q_then ?_
   refine c_seq ?_
   refine c_blk ?_
   refine c_seq ?_
   refine rg ?_
   refine st (v := (Sl aa_0 a_0 ca_0)) (rv_move rfl) ?_
   refine st (v := (I (i : Int))) (rv_move rfl) ?_
   refine st (v := (I k)) (rv_move rfl) ?_
   have hx7 : gidx (ds.map dsh ++ dsh p :: qs.map dsh) (i : Int) = some (dsh p : Int × Value × Int) := gidx_mid hdl
   obtain ⟨b9, o10, hi8, -⟩ := (H.own 0 rfl).ix hx7
   refine st (v := (pt b9 o10)) (rv_ix Try.underlying30 ti65 rfl rfl hi8) ?_
   refine st (v := (pt b9 (o10 + 0))) (rv_fieldAddr (off := 0) (ft := 3) Try.underlying65 rfl ti3 rfl rfl) ?_
   refine st_exS (ex_store_own (e' := ((k, p.2, p.1.2.2) : Int × Value × Int)) (vs := [(I k)]) (k := 0) H (i := 0) rfl ti3 hx7 hi8 rfl rfl rfl rfl rfl (Nat.le_of_ble_eq_true rfl) (by simp [plain]) (by rintro _ ⟨_, _, rfl, rfl, ⟨_, _, rfl, ⟨rfl, hpl⟩, rfl⟩⟩; exact ⟨[(I k)], [p.2, (I p.1.2.2)], rfl, rfl, ⟨[p.2], [(I p.1.2.2)], rfl, ⟨rfl, hpl⟩, rfl⟩⟩)) (wanted_none _ rfl _) ?_
   rintro σ11 ⟨H, -⟩
   refine w_end ?_
   refine q_then ?_
   refine c_seq ?_
   refine rg ?_
   refine st (v := (I k)) (rv_move rfl) ?_
   refine st (v := (I (w64 (k + 1)))) (rv_add (a := k) (b := 1) rfl rfl) ?_
   refine st (v := (I (w64 (k + 1)))) (rv_assign rfl) ?_
   refine w_end ?_
   refine q_then ?_
   refine c_seq ?_
   refine rg ?_
   rw [Int.toNat_natCast, set_mid hdl] at H
   have hx7 : gidx (ds.map dsh ++ ((k, p.2, p.1.2.2) : Int × Value × Int) :: qs.map dsh) (i : Int) = some ((k, p.2, p.1.2.2) : Int × Value × Int) := gidx_mid hdl
   refine st (v := (Sl aa_0 a_0 ca_0)) (rv_move rfl) ?_
   refine st (v := (I (i : Int))) (rv_move rfl) ?_
   obtain ⟨b9, o10, hi8, -⟩ := (H.own 0 rfl).ix hx7
   refine st (v := (pt b9 o10)) (rv_ix Try.underlying30 ti65 rfl rfl hi8) ?_
   refine st (v := (pt b9 (o10 + 1))) (rv_fieldAddr (off := 1) (ft := 36) Try.underlying65 rfl ti36 rfl rfl) ?_
   obtain ⟨_, ⟨_, _, rfl, rfl, ⟨_, _, rfl, ⟨rfl, hpl⟩, rfl⟩⟩, hl18, hc19⟩ := ((H.own 0 rfl).at hx7 hi8).cells
   replace H := Hp.unbig (H.sel' [1, 0, 2] rfl rfl)
   obtain ⟨a20, c21, h22⟩ : IsSl p.2 p.1.2.1.length := (show Ow σ11 lo lo p.2 p.1.2.1 from H.head).isSl
   obtain ⟨px, hd⟩ := p
   dsimp only at h22 hq hx7 hc19
   subst h22
   have hc20 := hc19 1 (by simp)
   refine st (v := (Sl a20 px.2.1 c21)) (rv_load1 Try.underlying36 rfl rfl hc20) ?_
   refine st (v := (I (w64 (k + 1)))) (rv_move rfl) ?_
   replace H : Hp S0 σ0 σ11 [Ch.own lo lo (Sl a20 px.2.1 c21) px.2.1, Ch.big (qs.map (dow lo)), Ch.own lo lo (Sl aa_0 a_0 ca_0) (ds.map dsh ++ ((k, (Sl a20 px.2.1 c21), px.2.2) : Int × Value × Int) :: qs.map dsh), Ch.big (ds.map (dow 0))] := H
   replace H := H.ownSc 0 0 0 rfl (Nat.zero_le _)
   have hc25 := c_laws_markIntS (aa_0 := a20) (ca_0 := c21) hq
   refine st_call (cx_call hc25 (ent_f hc25.fn rfl) hn0 (H.sel' [0, 1, 2, 3] rfl rfl : Hp S0 σ0 _ ([_] ++ _))) (wanted_none _ rfl _) ?_
   rintro _ σ29 ⟨_, ⟨rfl, rfl, hn⟩, H, -⟩
   replace H : Hp S0 σ0 σ29 [Ch.own 0 0 (Sl a20 q.2 c21) q.2, Ch.big (qs.map (dow lo)), Ch.own lo lo (Sl aa_0 a_0 ca_0) (ds.map dsh ++ ((k, (Sl a20 px.2.1 c21), px.2.2) : Int × Value × Int) :: qs.map dsh), Ch.big (ds.map (dow 0))] := H
   replace H := H.sel' [2, 1, 0, 3] rfl rfl
   refine st (v := (I q.1)) (rv_assign rfl) ?_
   refine w_end ?_
   refine q_then ?_
   refine c_seq ?_
   refine rg ?_
   refine st (v := (Sl aa_0 a_0 ca_0)) (rv_move rfl) ?_
   refine st (v := (I (i : Int))) (rv_move rfl) ?_
   refine st (v := (I q.1)) (rv_move rfl) ?_
   obtain ⟨b9, o10, hi8, -⟩ := (H.own 0 rfl).ix hx7
   refine st (v := (pt b9 o10)) (rv_ix Try.underlying30 ti65 rfl rfl hi8) ?_
   refine st (v := (pt b9 (o10 + 2))) (rv_fieldAddr (off := 2) (ft := 3) Try.underlying65 rfl ti3 rfl rfl) ?_
   refine st_exS (ex_store_own (e' := ((k, (Sl a20 px.2.1 c21), q.1) : Int × Value × Int)) (vs := [(I q.1)]) (k := 2) H (i := 0) rfl ti3 hx7 hi8 rfl rfl rfl rfl rfl (Nat.le_of_ble_eq_true rfl) (by simp [plain]) (by rintro _ ⟨_, _, rfl, rfl, ⟨_, _, rfl, ⟨rfl, hpl⟩, rfl⟩⟩; exact ⟨[(I k)], [(Sl a20 px.2.1 c21), (I q.1)], rfl, rfl, ⟨[(Sl a20 px.2.1 c21)], [(I q.1)], rfl, ⟨rfl, hpl⟩, rfl⟩⟩)) (wanted_none _ rfl _) ?_
   rintro σ30 ⟨H, -⟩
   refine w_end ?_
   refine q_then ?_
   refine rg ?_
   refine st (v := (I q.1)) (rv_move rfl) ?_
   refine st (v := (I (w64 (q.1 + 1)))) (rv_add (a := q.1) (b := 1) rfl rfl) ?_
   refine st (v := (I (w64 (q.1 + 1)))) (rv_assign rfl) ?_
   refine w_end ?_
   refine q_blk ?_
   refine q_then ?_
   refine rg ?_
   refine st (v := (I (i : Int))) (rv_move rfl) ?_
   refine st (v := (I (w64 ((i : Int) + 1)))) (rv_add (a := (i : Int)) (b := 1) rfl rfl) ?_
   refine st (v := (I (w64 ((i : Int) + 1)))) (rv_assign rfl) ?_
   refine w_end ?_
   have e1 : w64 ((i : Int) + 1) = ((i + 1 : Nat) : Int) := w64_id (by omega) (by omega)
   rw [e1]
   refine q_then ?_
   have hsl : ((k, (Sl a20 px.2.1 c21), q.1) : Int × Value × Int) = dsh (((k, q.2, q.1) : Int × (List Int) × Int), (Sl a20 q.2 c21)) := congrArg (fun z => ((k, z, q.1) : Int × Value × Int)) (sl_len hn.symm)
   rw [Int.toNat_natCast, set_mid hdl, hsl] at H
   replace H := Hp.bigSnoc (H.sel' [2, 3, 1, 0] rfl rfl)
   replace H := H.sel' [2, 1, 0] rfl rfl
   refine ⟨m, by omega, i + 1, _, σ30, ds ++ [(((k, q.2, q.1) : Int × (List Int) × Int), (Sl a20 q.2 c21))], qs, _, by omega, by simpa using hqs, by simp [hds], ⟨t, ht, by rw [hr]; simp⟩, fr_join ⟨rfl, rfl, rfl, trivial⟩, rfl, ?_⟩
   rw [List.map_append, List.map_append, List.append_assoc]
   exact H
  ·have hlt : ¬ i < a_0.length := by have := of_decide_eq_false hb; omega
   obtain rfl : m = 0 := by omega
   obtain rfl : qs = [] := List.eq_nil_of_length_eq_zero hqs
   obtain rfl : (k, []) = q0 := Option.some.inj hk
   obtain rfl : k = r.1 := by rw [hr]
   have hr2 : ds.map (·.1) = r.2 := by rw [hr]; simp
   refine c_exit ?_
   refine q_then_x ?_
   refine q_then_x ?_
   refine q_blk_hit ?_
   rw [List.map_nil, List.append_nil] at H
   exact ⟨rfl, _, σ3, ds, fr_join ⟨rfl, trivial⟩, rfl, by omega, hr2, H.sel' [0, 2] rfl rfl⟩
 ·clear H
  rintro e a w ⟨rfl, ρ, σ41, ds, rfl, rfl, hdl, hds, H⟩
  have hlen : r.2.length = a_0.length := by rw [← hds, List.length_map]; exact hdl
  refine q_then ?_
  refine c_seq ?_
  refine rg ?_
  refine st (v := (I r.1)) (rv_move rfl) ?_
  refine st (v := (I r.1)) (rv_assign rfl) ?_
  refine w_end ?_
  refine q_then ?_
  refine c_ret ?_
  replace H := (H.ownLow 0 0 0 rfl (Nat.zero_le _) (Nat.zero_le _)).bigCons
  rw [show (Sl aa_0 a_0 ca_0) = (Sl aa_0 r.2 ca_0) from sl_len hlen.symm] at H
  obtain ⟨σ42, hw, H, -⟩ := H.dpPub 0 rfl (⟨⟨ds, hds.symm, rfl⟩⟩ : Dp 0 (Sl aa_0 r.2 ca_0) r.2 _)
  rw [← hw]
  exact fin_ret (v := (I r.1)) (results_ok Try.results18 (res_tmp (v := (I r.1)) rfl res_nil) rfl) ⟨rfl, rfl, hlen⟩ H


theorem c_laws_heldIntS {a_0 : List Int} {k_1 : Int} {aa_0 : Option Addr} {ca_0 : Nat} {r : Int} (h : M.laws_heldIntS a_0 k_1 = some r) :
    Cal2 Try.prog 38 [(Sl aa_0 a_0 ca_0), (I k_1)] [Ch.ro 0 (Sl aa_0 a_0 ca_0) a_0] (fun n0 v L => v = (I r) ∧ L = []) := by
 refine cal2 (n := 21) Try.func38 rfl rfl rfl rfl ?_
 intro S0 σ0 n0 hn0 H
 unfold M.laws_heldIntS at h
 refine c_seq ?_
 refine rg ?_
 refine st (v := (I 0)) (rv_assign rfl) ?_
 refine w_end ?_
 refine q_then ?_
 refine c_seq ?_
 refine c_seq ?_
 refine rg ?_
 refine st (v := (I 0)) (rv_assign rfl) ?_
 refine w_end ?_
 refine q_then ?_
 obtain ⟨o1, hj, h'⟩ := bind_some h
 clear h
 refine c_cut (fun e a w => (∃ t, o1 = (.inl t) ∧ e = .normal ∧ ∃ (ρ : Nat → Value) (σ : St), a = fr 21 (updL ρ [(1, (I t))]) ∧ w = σ.w ∧ Hp S0 σ0 σ []) ∨ (∃ t, o1 = (.inr t) ∧ e = .ret ∧ ∃ (ρ : Nat → Value) (σ : St), a = fr 21 (updL ρ [(4, (I t))]) ∧ w = σ.w ∧ Hp S0 σ0 σ [])) ?_ ?_
 ·clear h'
  rename _ = some o1 => h
  refine c_blk ?_
  refine wp_loopM _ h (fun s2 a w => ∃ (ρ : Nat → Value) (σ : St), a = fr 21 (updL ρ [(0, (Sl aa_0 a_0 ca_0)), (1, (I s2.1)), (5, (I s2.2))]) ∧ w = σ.w ∧ Hp S0 σ0 σ [Ch.ro 0 (Sl aa_0 a_0 ca_0) a_0]) ⟨_, σ0, fr_join ⟨rfl, rfl, rfl, trivial⟩, rfl, H.sel' [0] rfl rfl⟩ ?_
  clear h H
  rintro s2 a w o ⟨ρ, σ3, rfl, rfl, H⟩ h hres
  refine c_seq ?_
  refine c_seq ?_
  refine rg ?_
  refine st (v := (I s2.2)) (rv_move rfl) ?_
  refine st (v := (Sl aa_0 a_0 ca_0)) (rv_move rfl) ?_
  refine st (v := (I (a_0.length : Int))) (rv_len Try.underlying36 rfl) ?_
  refine st (v := (B (decide (s2.2 < (a_0.length : Int))))) (rv_lss (a := s2.2) (b := (a_0.length : Int)) rfl rfl) ?_
  refine w_end ?_
  refine q_then ?_
  refine cd_cond (decide (s2.2 < (a_0.length : Int))) rfl (fun hb4 => ?_) (fun hb4 => ?_)
  ·replace h := bif_t hb4 h
   refine c_skip ?_
   refine q_then ?_
   refine c_seq ?_
   refine c_blk ?_
   refine c_seq ?_
   refine c_seq ?_
   refine rg ?_
   refine st (v := (Sl aa_0 a_0 ca_0)) (rv_move rfl) ?_
   refine st (v := (I s2.2)) (rv_move rfl) ?_
   obtain ⟨x5, hx6, h'⟩ := bind_some h
   clear h
   have h := h'; clear h'
   obtain ⟨b8, o9, hi7, -⟩ := (H.ro 0 rfl).ix hx6
   refine st (v := (pt b8 o9)) (rv_ix Try.underlying36 ti3 rfl rfl hi7) ?_
   have hc10 := ((H.ro 0 rfl).at hx6 hi7).int
   refine st (v := (I x5)) (rv_load1 Try.underlying3 rfl rfl hc10) ?_
   refine st (v := (I s2.1)) (rv_move rfl) ?_
   refine st (v := (B (x5 != s2.1))) (rv_neq (a := x5) (b := s2.1) rfl rfl) ?_
   refine w_end ?_
   refine q_then ?_
   refine cd_cond (x5 != s2.1) rfl (fun hb11 => ?_) (fun hb11 => ?_)
   ·replace h := bif_t hb11 h
    refine c_seq ?_
    refine rg ?_
    refine st (v := (I (-1))) (rv_assign rfl) ?_
    refine w_end ?_
    refine q_then ?_
    refine c_ret ?_
    refine q_then_r ?_
    refine q_blk_r ?_
    refine q_then_r ?_
    refine q_then_r ?_
    refine q_blk_r ?_
    obtain rfl := Option.some.inj h
    obtain rfl := hres _ rfl
    exact .inr (⟨_, rfl, rfl, _, σ3, fr_join ⟨rfl, trivial⟩, rfl, H.sel' [] rfl rfl⟩)
   ·replace h := bif_f hb11 h
    refine c_skip ?_
    refine q_then ?_
    refine rg ?_
    refine st (v := (I s2.1)) (rv_move rfl) ?_
    refine st (v := (I (w64 (s2.1 + 1)))) (rv_add (a := s2.1) (b := 1) rfl rfl) ?_
    refine st (v := (I (w64 (s2.1 + 1)))) (rv_assign rfl) ?_
    refine w_end ?_
    refine q_blk ?_
    refine q_then ?_
    refine rg ?_
    refine st (v := (I s2.2)) (rv_move rfl) ?_
    refine st (v := (I (w64 (s2.2 + 1)))) (rv_add (a := s2.2) (b := 1) rfl rfl) ?_
    refine st (v := (I (w64 (s2.2 + 1)))) (rv_assign rfl) ?_
    refine w_end ?_
    refine q_then ?_
    obtain rfl := Option.some.inj h
    exact ⟨_, rfl, _, σ3, fr_join ⟨rfl, rfl, rfl, trivial⟩, rfl, H.sel' [0] rfl rfl⟩
  ·replace h := bif_f hb4 h
   refine c_exit ?_
   refine q_then_x ?_
   refine q_then_x ?_
   refine q_blk_hit ?_
   obtain rfl := Option.some.inj h
   obtain rfl := hres _ rfl
   exact .inl ⟨_, rfl, rfl, _, σ3, fr_join ⟨rfl, trivial⟩, rfl, H.sel' [] rfl rfl⟩
 ·clear hj
  have h := h'
  clear h' H
  rintro e a w (⟨t12, rfl, rfl, ρ, σ13, rfl, rfl, H⟩ | ⟨t14, rfl, rfl, ρ, σ15, rfl, rfl, H⟩)
  ·replace h := selim_l h
   refine q_then ?_
   refine c_seq ?_
   refine rg ?_
   refine st (v := (I t12)) (rv_move rfl) ?_
   refine st (v := (I t12)) (rv_assign rfl) ?_
   refine w_end ?_
   refine q_then ?_
   refine c_ret ?_
   obtain rfl := Option.some.inj h
   exact fin_ret (v := (I t12)) (results_ok Try.results38 (res_tmp (v := (I t12)) rfl res_nil) rfl) ⟨rfl, rfl⟩ (H.sel' [] rfl rfl)
  ·replace h := selim_r h
   refine q_then_r ?_
   obtain rfl := Option.some.inj h
   exact fin_ret (v := (I t14)) (results_ok Try.results38 (res_tmp (v := (I t14)) rfl res_nil) rfl) ⟨rfl, rfl⟩ (H.sel' [] rfl rfl)

theorem c_laws_heldItemS {a_0 : List (Int × (List Int) × Int)} {k_1 : Int} {aa_0 : Option Addr} {ca_0 : Nat} {r : Int} (h : M.laws_heldItemS a_0 k_1 = some r) :
    Cal2 Try.prog 19 [(Sl aa_0 a_0 ca_0), (I k_1)] [Ch.ro 0 (Sl aa_0 a_0 ca_0) a_0] (fun n0 v L => v = (I r) ∧ L = []) := by
 refine cal2 (n := 40) Try.func19 rfl rfl rfl rfl ?_
 intro S0 σ0 n0 hn0 H
 unfold M.laws_heldItemS at h
 refine c_seq ?_
 refine rg ?_
 refine st (v := (I 0)) (rv_assign rfl) ?_
 refine w_end ?_
 refine q_then ?_
 refine c_seq ?_
 refine c_seq ?_
 refine rg ?_
 refine st (v := (I 0)) (rv_assign rfl) ?_
 refine w_end ?_
 refine q_then ?_
 obtain ⟨o1, hj, h'⟩ := bind_some h
 clear h
 refine c_cut (fun e a w => (∃ t, o1 = (.inl t) ∧ e = .normal ∧ ∃ (ρ : Nat → Value) (σ : St), a = fr 40 (updL ρ [(1, (I t))]) ∧ w = σ.w ∧ Hp S0 σ0 σ []) ∨ (∃ t, o1 = (.inr t) ∧ e = .ret ∧ ∃ (ρ : Nat → Value) (σ : St), a = fr 40 (updL ρ [(4, (I t))]) ∧ w = σ.w ∧ Hp S0 σ0 σ [])) ?_ ?_
 ·clear h'
  rename _ = some o1 => h
  refine c_blk ?_
  refine wp_loopM _ h (fun s2 a w => ∃ (ρ : Nat → Value) (σ : St), a = fr 40 (updL ρ [(0, (Sl aa_0 a_0 ca_0)), (1, (I s2.1)), (5, (I s2.2))]) ∧ w = σ.w ∧ Hp S0 σ0 σ [Ch.ro 0 (Sl aa_0 a_0 ca_0) a_0]) ⟨_, σ0, fr_join ⟨rfl, rfl, rfl, trivial⟩, rfl, H.sel' [0] rfl rfl⟩ ?_
  clear h H
  rintro s2 a w o ⟨ρ, σ3, rfl, rfl, H⟩ h hres
  refine c_seq ?_
  refine c_seq ?_
  refine rg ?_
  refine st (v := (I s2.2)) (rv_move rfl) ?_
  refine st (v := (Sl aa_0 a_0 ca_0)) (rv_move rfl) ?_
  refine st (v := (I (a_0.length : Int))) (rv_len Try.underlying30 rfl) ?_
  refine st (v := (B (decide (s2.2 < (a_0.length : Int))))) (rv_lss (a := s2.2) (b := (a_0.length : Int)) rfl rfl) ?_
  refine w_end ?_
  refine q_then ?_
  refine cd_cond (decide (s2.2 < (a_0.length : Int))) rfl (fun hb4 => ?_) (fun hb4 => ?_)
  ·replace h := bif_t hb4 h
   refine c_skip ?_
   refine q_then ?_
   refine c_seq ?_
   refine c_blk ?_
   refine c_seq ?_
   refine c_seq ?_
   refine rg ?_
   refine st (v := (Sl aa_0 a_0 ca_0)) (rv_move rfl) ?_
   refine st (v := (I s2.2)) (rv_move rfl) ?_
   obtain ⟨x5, hx6, h'⟩ := bind_some h
   clear h
   have h := h'; clear h'
   obtain ⟨b8, o9, hi7, -⟩ := (H.ro 0 rfl).ix hx6
   refine st (v := (pt b8 o9)) (rv_ix Try.underlying30 ti65 rfl rfl hi7) ?_
   refine st (v := (pt b8 (o9 + 0))) (rv_fieldAddr (off := 0) (ft := 3) Try.underlying65 rfl ti3 rfl rfl) ?_
   have hc10 := ((H.ro 0 rfl).at hx6 hi7).fst.int
   refine st (v := (I x5.1)) (rv_load1 Try.underlying3 rfl rfl hc10) ?_
   refine st (v := (I s2.1)) (rv_move rfl) ?_
   refine st (v := (B (x5.1 != s2.1))) (rv_neq (a := x5.1) (b := s2.1) rfl rfl) ?_
   refine w_end ?_
   refine q_then ?_
   refine cd_cond (x5.1 != s2.1) rfl (fun hb11 => ?_) (fun hb11 => ?_)
   ·replace h := bif_t hb11 h
    refine c_seq ?_
    refine rg ?_
    refine st (v := (I (-1))) (rv_assign rfl) ?_
    refine w_end ?_
    refine q_then ?_
    refine c_ret ?_
    refine q_then_r ?_
    refine q_blk_r ?_
    refine q_then_r ?_
    refine q_then_r ?_
    refine q_blk_r ?_
    obtain rfl := Option.some.inj h
    obtain rfl := hres _ rfl
    exact .inr (⟨_, rfl, rfl, _, σ3, fr_join ⟨rfl, trivial⟩, rfl, H.sel' [] rfl rfl⟩)
   ·replace h := bif_f hb11 h
    refine c_skip ?_
    refine q_then ?_
    refine c_seq ?_
    refine rg ?_
    refine st (v := (I s2.1)) (rv_move rfl) ?_
    refine st (v := (I (w64 (s2.1 + 1)))) (rv_add (a := s2.1) (b := 1) rfl rfl) ?_
    refine st (v := (I (w64 (s2.1 + 1)))) (rv_assign rfl) ?_
    refine w_end ?_
    refine q_then ?_
    refine c_seq ?_
    refine rg ?_
    refine st (v := (Sl aa_0 a_0 ca_0)) (rv_move rfl) ?_
    refine st (v := (I s2.2)) (rv_move rfl) ?_
    obtain ⟨x12, hx13, h'⟩ := bind_some h
    clear h
    have h := h'; clear h'
    obtain ⟨b15, o16, hi14, -⟩ := (H.ro 0 rfl).ix hx13
    refine st (v := (pt b15 o16)) (rv_ix Try.underlying30 ti65 rfl rfl hi14) ?_
    refine st (v := (pt b15 (o16 + 1))) (rv_fieldAddr (off := 1) (ft := 36) Try.underlying65 rfl ti36 rfl rfl) ?_
    obtain ⟨v20, hc21, hR19⟩ := ((H.ro 0 rfl).at hx13 hi14).snd.fst.slice
    obtain ⟨a17, c18, rfl⟩ := hR19.isSl
    replace H := H.add (d := Ch.ro 0 (Sl a17 x12.2.1 c18) x12.2.1) hR19 (fun _ h => h)
    clear hR19
    refine st (v := (Sl a17 x12.2.1 c18)) (rv_load1 Try.underlying36 rfl rfl hc21) ?_
    refine st (v := (I (w64 (s2.1 + 1)))) (rv_move rfl) ?_
    obtain ⟨r22, hx23, h'⟩ := bind_some h
    clear h
    have h := h'; clear h'
    have hc24 := c_laws_heldIntS (aa_0 := a17) (ca_0 := c18) hx23
    refine st_call (cx_call hc24 (ent_f hc24.fn rfl) hn0 (show Hp S0 σ0 _ ([Ch.ro 0 (Sl a17 x12.2.1 c18) x12.2.1] ++ [Ch.ro 0 (Sl a17 x12.2.1 c18) x12.2.1, Ch.ro 0 (Sl aa_0 a_0 ca_0) a_0]) from (H.sel' [0, 0, 1] rfl rfl))) wn ?_
    rintro _ σ25 ⟨_, ⟨rfl, rfl⟩, H, -⟩
    replace H : Hp S0 σ0 σ25 [Ch.ro 0 (Sl a17 x12.2.1 c18) x12.2.1, Ch.ro 0 (Sl aa_0 a_0 ca_0) a_0] := H
    refine st (v := (I r22)) (rv_assign rfl) ?_
    refine w_end ?_
    refine q_then ?_
    refine c_seq ?_
    refine c_seq ?_
    refine rg ?_
    refine st (v := (I r22)) (rv_move rfl) ?_
    refine st (v := (B (decide (r22 < 0)))) (rv_lss (a := r22) (b := 0) rfl rfl) ?_
    refine w_end ?_
    refine q_then ?_
    refine cd_cond (decide (r22 < 0)) rfl (fun hb26 => ?_) (fun hb26 => ?_)
    ·replace h := bif_t hb26 h
     refine c_seq ?_
     refine rg ?_
     refine st (v := (I (-1))) (rv_assign rfl) ?_
     refine w_end ?_
     refine q_then ?_
     refine c_ret ?_
     refine q_then_r ?_
     refine q_blk_r ?_
     refine q_then_r ?_
     refine q_then_r ?_
     refine q_blk_r ?_
     obtain rfl := Option.some.inj h
     obtain rfl := hres _ rfl
     exact .inr (⟨_, rfl, rfl, _, σ25, fr_join ⟨rfl, trivial⟩, rfl, H.sel' [] rfl rfl⟩)
    ·replace h := bif_f hb26 h
     refine c_skip ?_
     refine q_then ?_
     refine c_seq ?_
     refine c_seq ?_
     refine rg ?_
     refine st (v := (Sl aa_0 a_0 ca_0)) (rv_move rfl) ?_
     refine st (v := (I s2.2)) (rv_move rfl) ?_
     obtain ⟨x27, hx28, h'⟩ := bind_some h
     clear h
     have h := h'; clear h'
     obtain ⟨b30, o31, hi29, -⟩ := (H.ro 1 rfl).ix hx28
     refine st (v := (pt b30 o31)) (rv_ix Try.underlying30 ti65 rfl rfl hi29) ?_
     refine st (v := (pt b30 (o31 + 2))) (rv_fieldAddr (off := 2) (ft := 3) Try.underlying65 rfl ti3 rfl rfl) ?_
     have hc32 := ((H.ro 1 rfl).at hx28 hi29).snd.snd.int
     refine st (v := (I x27.2.2)) (rv_load1 Try.underlying3 rfl rfl hc32) ?_
     refine st (v := (I r22)) (rv_move rfl) ?_
     refine st (v := (B (x27.2.2 != r22))) (rv_neq (a := x27.2.2) (b := r22) rfl rfl) ?_
     refine w_end ?_
     refine q_then ?_
     refine cd_cond (x27.2.2 != r22) rfl (fun hb33 => ?_) (fun hb33 => ?_)
     ·replace h := bif_t hb33 h
      refine c_seq ?_
      refine rg ?_
      refine st (v := (I (-1))) (rv_assign rfl) ?_
      refine w_end ?_
      refine q_then ?_
      refine c_ret ?_
      refine q_then_r ?_
      refine q_blk_r ?_
      refine q_then_r ?_
      refine q_then_r ?_
      refine q_blk_r ?_
      obtain rfl := Option.some.inj h
      obtain rfl := hres _ rfl
      exact .inr (⟨_, rfl, rfl, _, σ25, fr_join ⟨rfl, trivial⟩, rfl, H.sel' [] rfl rfl⟩)
     ·replace h := bif_f hb33 h
      refine c_skip ?_
      refine q_then ?_
      refine rg ?_
      refine st (v := (I r22)) (rv_move rfl) ?_
      refine st (v := (I (w64 (r22 + 1)))) (rv_add (a := r22) (b := 1) rfl rfl) ?_
      refine st (v := (I (w64 (r22 + 1)))) (rv_assign rfl) ?_
      refine w_end ?_
      refine q_blk ?_
      refine q_then ?_
      refine rg ?_
      refine st (v := (I s2.2)) (rv_move rfl) ?_
      refine st (v := (I (w64 (s2.2 + 1)))) (rv_add (a := s2.2) (b := 1) rfl rfl) ?_
      refine st (v := (I (w64 (s2.2 + 1)))) (rv_assign rfl) ?_
      refine w_end ?_
      refine q_then ?_
      obtain rfl := Option.some.inj h
      exact ⟨_, rfl, _, σ25, fr_join ⟨rfl, rfl, rfl, trivial⟩, rfl, H.sel' [1] rfl rfl⟩
  ·replace h := bif_f hb4 h
   refine c_exit ?_
   refine q_then_x ?_
   refine q_then_x ?_
   refine q_blk_hit ?_
   obtain rfl := Option.some.inj h
   obtain rfl := hres _ rfl
   exact .inl ⟨_, rfl, rfl, _, σ3, fr_join ⟨rfl, trivial⟩, rfl, H.sel' [] rfl rfl⟩
 ·clear hj
  have h := h'
  clear h' H
  rintro e a w (⟨t34, rfl, rfl, ρ, σ35, rfl, rfl, H⟩ | ⟨t36, rfl, rfl, ρ, σ37, rfl, rfl, H⟩)
  ·replace h := selim_l h
   refine q_then ?_
   refine c_seq ?_
   refine rg ?_
   refine st (v := (I t34)) (rv_move rfl) ?_
   refine st (v := (I t34)) (rv_assign rfl) ?_
   refine w_end ?_
   refine q_then ?_
   refine c_ret ?_
   obtain rfl := Option.some.inj h
   exact fin_ret (v := (I t34)) (results_ok Try.results19 (res_tmp (v := (I t34)) rfl res_nil) rfl) ⟨rfl, rfl⟩ (H.sel' [] rfl rfl)
  ·replace h := selim_r h
   refine q_then_r ?_
   obtain rfl := Option.some.inj h
   exact fin_ret (v := (I t36)) (results_ok Try.results19 (res_tmp (v := (I t36)) rfl res_nil) rfl) ⟨rfl, rfl⟩ (H.sel' [] rfl rfl)

theorem c_laws_FnExactFilterStore {aList_0 : List (Int × (List Int) × Int)} {aF_1 : Int × Int × Int} {aaList_0 : Option Addr} {caList_0 : Nat} {r : Bool} (h : M.laws_FnExactFilterStore aList_0 aF_1 = some r) :
    Cal2 Try.prog 4 [(Sl aaList_0 aList_0 caList_0), (.agg #[(I aF_1.1), (I aF_1.2.1), (I aF_1.2.2)])] [Ch.ro 0 (Sl aaList_0 aList_0 caList_0) aList_0] (fun n0 v L => v = (B r) ∧ L = []) := by
 refine cal2 (n := 77) Try.func4 rfl rfl rfl rfl ?_
 intro S0 σ0 n0 hn0 H
 unfold M.laws_FnExactFilterStore at h
 refine c_seq ?_
 refine rg ?_
 refine st_ex (ex_box (cs := [(I aF_1.1), (I aF_1.2.1), (I aF_1.2.2)]) H hn0 rfl rfl) wn ?_
 rintro _ σ2 ⟨b1, rfl, H, -⟩
 refine st (v := (B false)) (rv_assign rfl) ?_
 refine w_end ?_
 refine q_then ?_
 refine c_seq ?_
 refine rg ?_
 refine st (v := (I 1048576)) (rv_assign rfl) ?_
 refine w_end ?_
 refine q_then ?_
 refine c_seq ?_
 refine rg ?_
 refine st (v := (Sl aaList_0 aList_0 caList_0)) (rv_move rfl) ?_
 refine st (v := (I 1048576)) (rv_move rfl) ?_
 obtain ⟨r3, hx4, h'⟩ := bind_some h
 clear h
 have h := h'; clear h'
 have hc5 := c_laws_szItemS (aa_0 := aaList_0) (ca_0 := caList_0) hx4
 refine st_call (cx_call hc5 (ent_f hc5.fn rfl) hn0 (show Hp S0 σ0 _ ([Ch.ro 0 (Sl aaList_0 aList_0 caList_0) aList_0] ++ [Ch.bx n0 b1 0 [(I aF_1.1), (I aF_1.2.1), (I aF_1.2.2)] [] [], Ch.ro 0 (Sl aaList_0 aList_0 caList_0) aList_0]) from (H.sel' [1, 0, 1] rfl rfl))) wn ?_
 rintro _ σ6 ⟨_, ⟨rfl, rfl⟩, H, -⟩
 replace H : Hp S0 σ0 σ6 [Ch.bx n0 b1 0 [(I aF_1.1), (I aF_1.2.1), (I aF_1.2.2)] [] [], Ch.ro 0 (Sl aaList_0 aList_0 caList_0) aList_0] := H
 refine st (v := (I r3)) (rv_assign rfl) ?_
 refine w_end ?_
 refine q_then ?_
 refine c_seq ?_
 refine c_seq ?_
 refine rg ?_
 refine st (v := (I r3)) (rv_move rfl) ?_
 refine st (v := (B (decide (r3 < 0)))) (rv_lss (a := r3) (b := 0) rfl rfl) ?_
 refine w_end ?_
 refine q_then ?_
 refine cd_cond (decide (r3 < 0)) rfl (fun hb7 => ?_) (fun hb7 => ?_)
 ·replace h := bif_t hb7 h
  refine c_seq ?_
  refine rg ?_
  refine st (v := (B true)) (rv_assign rfl) ?_
  refine w_end ?_
  refine q_then ?_
  refine c_ret ?_
  refine q_then_r ?_
  obtain rfl := Option.some.inj h
  exact fin_ret (v := (B true)) (results_ok Try.results4 (res_tmp (v := (B true)) rfl res_nil) rfl) ⟨rfl, rfl⟩ (H.sel' [] rfl rfl)
 ·replace h := bif_f hb7 h
  refine c_skip ?_
  refine q_then ?_
  refine c_seq ?_
  obtain ⟨r8, hx9, h'⟩ := bind_some h
  clear h
  have h := h'; clear h'
  have hc10 := c_laws_toItemS (aa_0 := aaList_0) (ca_0 := caList_0) hx9
  have hc15 := H.cells 0 rfl
  have Hs := H
  refine rg2 (σ := σ6) (Nm := (Option Addr) × (Nat) × (List Ch)) 3 [1] [[false], [true]] [[(0, 0)], [(0, 1)], [(0, 0), (1, 1)]] 1 [fun ((a11, c12, K13) : (Option Addr) × (Nat) × (List Ch)) => fun σm => Hp S0 σ0 σm [Ch.bx n0 b1 0 [(I aF_1.1), (I aF_1.2.1), (I aF_1.2.2)] [] [], Ch.ro 0 (Sl aaList_0 aList_0 caList_0) aList_0] ∧ Md (cov []) σ6 σm, fun ((a11, c12, K13) : (Option Addr) × (Nat) × (List Ch)) => fun σm => Hp S0 σ0 σm [Ch.big K13, Ch.bx n0 b1 0 [(I aF_1.1), (I aF_1.2.1), (I aF_1.2.2)] [] [], Ch.ro 0 (Sl aaList_0 aList_0 caList_0) aList_0] ∧ Md (cov []) σ6 σm ∧ Dp n0 (Sl a11 r8 c12) r8 K13] [fun ((a11, c12, K13) : (Option Addr) × (Nat) × (List Ch)) => (Sl aaList_0 aList_0 caList_0), fun ((a11, c12, K13) : (Option Addr) × (Nat) × (List Ch)) => (Sl a11 r8 c12), fun ((a11, c12, K13) : (Option Addr) × (Nat) × (List Ch)) => (.agg #[(I aF_1.1), (I aF_1.2.1), (I aF_1.2.2)])] (none, 0, []) (by kernel_rfl) (by kernel_rfl) ?_ ?_ ?_
  ·intro σm m0
   exact ⟨H.grow (m0.mono fun _ h => h.elim), m0⟩
  ·refine ac rfl (by
     intro k; rintro ⟨a11, c12, K13⟩ ρ σm hJ hoff hdep
     have e0 := look_off (N := 77) (hoff 0 rfl) rfl
     exact dp_v (v := (Sl aaList_0 aList_0 caList_0)) wn (rv_move e0) rfl hJ) ?_
   refine all_cons (by
     refine ⟨?_, ?_⟩
     ·rintro ⟨a11, c12, K13⟩ ρ σm hJ hoff hdep
      have e18 : look 77 ρ 18 = (Sl aaList_0 aList_0 caList_0) := hdep 0 rfl rfl 18 rfl
      obtain ⟨H, m⟩ := id hJ
      refine dp_cx wn (cx_call hc10 (ent_f hc10.fn (by show [look 77 ρ 18] = _; rw [e18])) hn0 (show Hp S0 σ0 _ ([Ch.ro 0 (Sl aaList_0 aList_0 caList_0) aList_0] ++ [Ch.bx n0 b1 0 [(I aF_1.1), (I aF_1.2.1), (I aF_1.2.2)] [] [], Ch.ro 0 (Sl aaList_0 aList_0 caList_0) aList_0]) from (H.sel' [1, 0, 1] rfl rfl))) ?_
      rintro _ σq ⟨_, ⟨a11x, c12x, K13x, rfl, rfl, hK14⟩, H2, m2⟩
      exact ⟨_, (a11x, c12x, K13x), rfl, rfl, ⟨H2.sel' [0, 1, 2] rfl rfl, m.comp0 (m2.mono (fun i h => by simp [cov, Ch.ro] at h)), hK14⟩, stab [0, 2] (by kernel_rfl) ⟨rfl, rfl, trivial⟩⟩
     trivial) ?_
   refine all_cons (by
     refine ⟨?_, ?_⟩
     ·rintro ⟨a11, c12, K13⟩ ρ σm hJ hoff hdep
      have e3 := look_off (N := 77) (hoff 3 rfl) rfl
      obtain ⟨H, m⟩ := id hJ
      have hc15 := H.cells 0 rfl
      exact dp_v (v := (.agg #[(I aF_1.1), (I aF_1.2.1), (I aF_1.2.2)])) wn (rv_load (cs := [(I aF_1.1), (I aF_1.2.1), (I aF_1.2.2)]) Try.underlying23 rfl ti23 e3 rfl hc15) rfl hJ
     refine ⟨?_, ?_⟩
     ·rintro ⟨a11, c12, K13⟩ ρ σm hJ hoff hdep
      have e3 := look_off (N := 77) (hoff 3 rfl) rfl
      obtain ⟨H, m, hK14⟩ := id hJ
      have hc15 := H.cells 1 rfl
      exact dp_v (v := (.agg #[(I aF_1.1), (I aF_1.2.1), (I aF_1.2.2)])) wn (rv_load (cs := [(I aF_1.1), (I aF_1.2.1), (I aF_1.2.2)]) Try.underlying23 rfl ti23 e3 rfl hc15) rfl hJ
     trivial) ?_
   exact all_nil
  ·rintro ⟨a11, c12, K13⟩ ρ σ16 hJ hoff hrel
   have e0 := look_off (N := 77) (hoff 0 rfl) rfl
   have e3 := look_off (N := 77) (hoff 3 rfl) rfl
   have e19 := hrel 1 rfl 19 rfl
   have e20 := hrel 2 rfl 20 rfl
   obtain ⟨H, -, hK14⟩ := (show Hp S0 σ0 σ16 [Ch.big K13, Ch.bx n0 b1 0 [(I aF_1.1), (I aF_1.2.1), (I aF_1.2.2)] [] [], Ch.ro 0 (Sl aaList_0 aList_0 caList_0) aList_0] ∧ Md (cov []) σ6 σ16 ∧ Dp n0 (Sl a11 r8 c12) r8 K13 from hJ)
   clear hJ Hs
   rw [fr_lookL (L := [(0, (Sl aaList_0 aList_0 caList_0)), (3, (pt b1 0)), (19, (Sl a11 r8 c12)), (20, (.agg #[(I aF_1.1), (I aF_1.2.1), (I aF_1.2.2)]))]) ⟨e0, e3, e19, e20, trivial⟩]
   clear hoff hrel e0 e3 e19 e20
   obtain ⟨r17, hx18, h'⟩ := bind_some h
   clear h
   have h := h'; clear h'
   have hc19 := c_laws_toFilter hx18
   refine st_call (cx_call hc19 (ent_f hc19.fn rfl) hn0 (show Hp S0 σ0 _ ([] ++ [Ch.big K13, Ch.bx n0 b1 0 [(I aF_1.1), (I aF_1.2.1), (I aF_1.2.2)] [] [], Ch.ro 0 (Sl aaList_0 aList_0 caList_0) aList_0]) from (H.sel' [0, 1, 2] rfl rfl))) wn ?_
   rintro _ σ20 ⟨_, ⟨rfl, rfl⟩, H, -⟩
   replace H : Hp S0 σ0 σ20 [Ch.big K13, Ch.bx n0 b1 0 [(I aF_1.1), (I aF_1.2.1), (I aF_1.2.2)] [] [], Ch.ro 0 (Sl aaList_0 aList_0 caList_0) aList_0] := H
   obtain ⟨r21, hx22, h'⟩ := bind_some h
   clear h
   have h := h'; clear h'
   have hc23 := c_spec_FilterStore (alist_0 := a11) (clist_0 := c12) hx22
   have hle := Nat.le_trans hn0 H.size
   refine st_call (cx_lend (Loan.lendB hK14.lends Loan.nil) hc23 (ent_f hc23.fn rfl) (show Hp S0 σ0 _ ([Ch.big K13] ++ ([] ++ [Ch.bx n0 b1 0 [(I aF_1.1), (I aF_1.2.1), (I aF_1.2.2)] [] [], Ch.ro 0 (Sl aaList_0 aList_0 caList_0) aList_0])) from (H.sel' [0, 1, 2] rfl rfl)) (by rintro _ _ _ ⟨_, _, rfl, rfl⟩; exact ⟨Ab.own (Nat.le_refl _), trivial⟩)) wn ?_
   rintro _ σ26 ⟨_, ⟨a24, c25, rfl, rfl⟩, H, -, -⟩
   replace H : Hp S0 σ0 σ26 [Ch.own σ20.size σ20.size (Sl a24 r21 c25) r21, Ch.big K13, Ch.bx n0 b1 0 [(I aF_1.1), (I aF_1.2.1), (I aF_1.2.2)] [] [], Ch.ro 0 (Sl aaList_0 aList_0 caList_0) aList_0] := H
   replace H := H.ownLow 0 n0 n0 rfl hle hle
   clear hle
   replace H : Hp S0 σ0 σ26 [Ch.own n0 n0 (Sl a24 r21 c25) r21, Ch.big K13, Ch.bx n0 b1 0 [(I aF_1.1), (I aF_1.2.1), (I aF_1.2.2)] [] [], Ch.ro 0 (Sl aaList_0 aList_0 caList_0) aList_0] := H
   refine st (v := (Sl a24 r21 c25)) (rv_assign rfl) ?_
   refine w_end ?_
   refine q_then ?_
   refine c_seq ?_
   refine rg ?_
   refine st (v := (Sl aaList_0 aList_0 caList_0)) (rv_move rfl) ?_
   obtain ⟨r27, hx28, h'⟩ := bind_some h
   clear h
   have h := h'; clear h'
   have hc29 := c_laws_toItemS (aa_0 := aaList_0) (ca_0 := caList_0) hx28
   refine st_call (cx_call hc29 (ent_f hc29.fn rfl) hn0 (show Hp S0 σ0 _ ([Ch.ro 0 (Sl aaList_0 aList_0 caList_0) aList_0] ++ [Ch.own n0 n0 (Sl a24 r21 c25) r21, Ch.big K13, Ch.bx n0 b1 0 [(I aF_1.1), (I aF_1.2.1), (I aF_1.2.2)] [] [], Ch.ro 0 (Sl aaList_0 aList_0 caList_0) aList_0]) from (H.sel' [3, 0, 1, 2, 3] rfl rfl))) wn ?_
   rintro _ σ34 ⟨_, ⟨a30, c31, K32, rfl, rfl, hK33⟩, H, -⟩
   replace H : Hp S0 σ0 σ34 [Ch.big K32, Ch.own n0 n0 (Sl a24 r21 c25) r21, Ch.big K13, Ch.bx n0 b1 0 [(I aF_1.1), (I aF_1.2.1), (I aF_1.2.2)] [] [], Ch.ro 0 (Sl aaList_0 aList_0 caList_0) aList_0] := H
   refine st (v := (Sl a30 r27 c31)) (rv_assign rfl) ?_
   refine w_end ?_
   refine q_then ?_
   refine c_seq ?_
   refine rg ?_
   refine st (v := (Sl a30 r27 c31)) (rv_move rfl) ?_
   have hc35 := H.cells 3 rfl
   refine st (v := (.agg #[(I aF_1.1), (I aF_1.2.1), (I aF_1.2.2)])) (rv_load (cs := [(I aF_1.1), (I aF_1.2.1), (I aF_1.2.2)]) Try.underlying23 rfl ti23 rfl rfl hc35) ?_
   obtain ⟨r36, hx37, h'⟩ := bind_some h
   clear h
   have h := h'; clear h'
   have hc38 := c_laws_toFilter hx37
   refine st_call (cx_call hc38 (ent_f hc38.fn rfl) hn0 (show Hp S0 σ0 _ ([] ++ [Ch.big K32, Ch.own n0 n0 (Sl a24 r21 c25) r21, Ch.big K13, Ch.bx n0 b1 0 [(I aF_1.1), (I aF_1.2.1), (I aF_1.2.2)] [] [], Ch.ro 0 (Sl aaList_0 aList_0 caList_0) aList_0]) from (H.sel' [0, 1, 2, 3, 4] rfl rfl))) wn ?_
   rintro _ σ39 ⟨_, ⟨rfl, rfl⟩, H, -⟩
   replace H : Hp S0 σ0 σ39 [Ch.big K32, Ch.own n0 n0 (Sl a24 r21 c25) r21, Ch.big K13, Ch.bx n0 b1 0 [(I aF_1.1), (I aF_1.2.1), (I aF_1.2.2)] [] [], Ch.ro 0 (Sl aaList_0 aList_0 caList_0) aList_0] := H
   obtain ⟨r40, hx41, h'⟩ := bind_some h
   clear h
   have h := h'; clear h'
   have hc42 := c_impl_FilterStore (alist_0 := a30) (clist_0 := c31) hx41
   have hle := Nat.le_trans hn0 H.size
   refine st_call (cx_lend (Loan.lendB hK33.lends Loan.nil) hc42 (ent_f hc42.fn rfl) (show Hp S0 σ0 _ ([Ch.big K32] ++ ([] ++ [Ch.own n0 n0 (Sl a24 r21 c25) r21, Ch.big K13, Ch.bx n0 b1 0 [(I aF_1.1), (I aF_1.2.1), (I aF_1.2.2)] [] [], Ch.ro 0 (Sl aaList_0 aList_0 caList_0) aList_0])) from (H.sel' [0, 1, 2, 3, 4] rfl rfl)) (by rintro _ _ _ ⟨_, _, _, rfl, rfl, hK46, _⟩; exact ⟨Dp.abSc hK46, trivial⟩)) wn ?_
   rintro _ σ48 ⟨_, ⟨a43, c44, K45, rfl, rfl, hK46, ht47⟩, H, -, -⟩
   replace H : Hp S0 σ0 σ48 [Ch.big K45, Ch.big K32, Ch.own n0 n0 (Sl a24 r21 c25) r21, Ch.big K13, Ch.bx n0 b1 0 [(I aF_1.1), (I aF_1.2.1), (I aF_1.2.2)] [] [], Ch.ro 0 (Sl aaList_0 aList_0 caList_0) aList_0] := H
   clear hle
   replace H : Hp S0 σ0 σ48 [Ch.big K45, Ch.big K32, Ch.own n0 n0 (Sl a24 r21 c25) r21, Ch.big K13, Ch.bx n0 b1 0 [(I aF_1.1), (I aF_1.2.1), (I aF_1.2.2)] [] [], Ch.ro 0 (Sl aaList_0 aList_0 caList_0) aList_0] := H
   refine st (v := (Sl a43 r40 c44)) (rv_assign rfl) ?_
   refine w_end ?_
   refine q_then ?_
   refine c_seq ?_
   refine c_seq ?_
   refine rg ?_
   refine st (v := (Sl a43 r40 c44)) (rv_move rfl) ?_
   refine st (v := (Sl a24 r21 c25)) (rv_move rfl) ?_
   obtain ⟨r49, hx50, h'⟩ := bind_some h
   clear h
   have h := h'; clear h'
   have hc51 := c_laws_eqItemS (aa_0 := a43) (ca_0 := c44) (ab_1 := a24) (cb_1 := c25) hx50
   have hle := Nat.le_trans hn0 H.size
   refine st_call (cx_lend (Loan.lendB hK46.lends (Loan.lend Loan.nil)) hc51 (ent_f hc51.fn rfl) (show Hp S0 σ0 _ ([Ch.big K45, Ch.own n0 n0 (Sl a24 r21 c25) r21] ++ ([] ++ [Ch.big K32, Ch.big K13, Ch.bx n0 b1 0 [(I aF_1.1), (I aF_1.2.1), (I aF_1.2.2)] [] [], Ch.ro 0 (Sl aaList_0 aList_0 caList_0) aList_0])) from (H.sel' [0, 2, 1, 3, 4, 5] rfl rfl)) (by rintro _ _ _ ⟨rfl, rfl⟩; exact trivial)) wn ?_
   rintro _ σ52 ⟨_, ⟨rfl, rfl⟩, H, -, -⟩
   replace H : Hp S0 σ0 σ52 [Ch.big K45, Ch.own n0 n0 (Sl a24 r21 c25) r21, Ch.big K32, Ch.big K13, Ch.bx n0 b1 0 [(I aF_1.1), (I aF_1.2.1), (I aF_1.2.2)] [] [], Ch.ro 0 (Sl aaList_0 aList_0 caList_0) aList_0] := H
   clear hle
   replace H : Hp S0 σ0 σ52 [Ch.big K45, Ch.own n0 n0 (Sl a24 r21 c25) r21, Ch.big K32, Ch.big K13, Ch.bx n0 b1 0 [(I aF_1.1), (I aF_1.2.1), (I aF_1.2.2)] [] [], Ch.ro 0 (Sl aaList_0 aList_0 caList_0) aList_0] := H
   refine st (v := (B (!r49))) (rv_not rfl) ?_
   refine w_end ?_
   refine q_then ?_
   refine cd_cond (!r49) rfl (fun hb53 => ?_) (fun hb53 => ?_)
   ·replace h := bif_t hb53 h
    refine c_seq ?_
    refine rg ?_
    refine st (v := (B false)) (rv_assign rfl) ?_
    refine w_end ?_
    refine q_then ?_
    refine c_ret ?_
    refine q_then_r ?_
    obtain rfl := Option.some.inj h
    exact fin_ret (v := (B false)) (results_ok Try.results4 (res_tmp (v := (B false)) rfl res_nil) rfl) ⟨rfl, rfl⟩ (H.sel' [] rfl rfl)
   ·replace h := bif_f hb53 h
    refine c_skip ?_
    refine q_then ?_
    refine c_seq ?_
    refine c_seq ?_
    refine rg ?_
    refine st (v := (Sl a30 r27 c31)) (rv_move rfl) ?_
    refine st (v := (Sl aaList_0 aList_0 caList_0)) (rv_move rfl) ?_
    obtain ⟨r54, hx55, h'⟩ := bind_some h
    clear h
    have h := h'; clear h'
    have hc56 := c_laws_toItemS (aa_0 := aaList_0) (ca_0 := caList_0) hx55
    refine st_call (cx_call hc56 (ent_f hc56.fn rfl) hn0 (show Hp S0 σ0 _ ([Ch.ro 0 (Sl aaList_0 aList_0 caList_0) aList_0] ++ [Ch.big K45, Ch.own n0 n0 (Sl a24 r21 c25) r21, Ch.big K32, Ch.big K13, Ch.bx n0 b1 0 [(I aF_1.1), (I aF_1.2.1), (I aF_1.2.2)] [] [], Ch.ro 0 (Sl aaList_0 aList_0 caList_0) aList_0]) from (H.sel' [5, 0, 1, 2, 3, 4, 5] rfl rfl))) wn ?_
    rintro _ σ61 ⟨_, ⟨a57, c58, K59, rfl, rfl, hK60⟩, H, -⟩
    replace H : Hp S0 σ0 σ61 [Ch.big K59, Ch.big K45, Ch.own n0 n0 (Sl a24 r21 c25) r21, Ch.big K32, Ch.big K13, Ch.bx n0 b1 0 [(I aF_1.1), (I aF_1.2.1), (I aF_1.2.2)] [] [], Ch.ro 0 (Sl aaList_0 aList_0 caList_0) aList_0] := H
    obtain ⟨r62, hx63, h'⟩ := bind_some h
    clear h
    have h := h'; clear h'
    have hc64 := c_laws_eqItemS (aa_0 := a30) (ca_0 := c31) (ab_1 := a57) (cb_1 := c58) hx63
    have hle := Nat.le_trans hn0 H.size
    refine st_call (cx_lend (Loan.lendB hK33.lends (Loan.lendB hK60.lends Loan.nil)) hc64 (ent_f hc64.fn rfl) (show Hp S0 σ0 _ ([Ch.big K32, Ch.big K59] ++ ([] ++ [Ch.big K45, Ch.own n0 n0 (Sl a24 r21 c25) r21, Ch.big K13, Ch.bx n0 b1 0 [(I aF_1.1), (I aF_1.2.1), (I aF_1.2.2)] [] [], Ch.ro 0 (Sl aaList_0 aList_0 caList_0) aList_0])) from (H.sel' [3, 0, 1, 2, 4, 5, 6] rfl rfl)) (by rintro _ _ _ ⟨rfl, rfl⟩; exact trivial)) wn ?_
    rintro _ σ65 ⟨_, ⟨rfl, rfl⟩, H, -, -⟩
    replace H : Hp S0 σ0 σ65 [Ch.big K32, Ch.big K59, Ch.big K45, Ch.own n0 n0 (Sl a24 r21 c25) r21, Ch.big K13, Ch.bx n0 b1 0 [(I aF_1.1), (I aF_1.2.1), (I aF_1.2.2)] [] [], Ch.ro 0 (Sl aaList_0 aList_0 caList_0) aList_0] := H
    clear hle
    replace H : Hp S0 σ0 σ65 [Ch.big K32, Ch.big K59, Ch.big K45, Ch.own n0 n0 (Sl a24 r21 c25) r21, Ch.big K13, Ch.bx n0 b1 0 [(I aF_1.1), (I aF_1.2.1), (I aF_1.2.2)] [] [], Ch.ro 0 (Sl aaList_0 aList_0 caList_0) aList_0] := H
    refine st (v := (B (!r62))) (rv_not rfl) ?_
    refine w_end ?_
    refine q_then ?_
    refine cd_cond (!r62) rfl (fun hb66 => ?_) (fun hb66 => ?_)
    ·replace h := bif_t hb66 h
     refine c_seq ?_
     refine rg ?_
     refine st (v := (B false)) (rv_assign rfl) ?_
     refine w_end ?_
     refine q_then ?_
     refine c_ret ?_
     refine q_then_r ?_
     obtain rfl := Option.some.inj h
     exact fin_ret (v := (B false)) (results_ok Try.results4 (res_tmp (v := (B false)) rfl res_nil) rfl) ⟨rfl, rfl⟩ (H.sel' [] rfl rfl)
    ·replace h := bif_f hb66 h
     refine c_skip ?_
     refine q_then ?_
     refine c_seq ?_
     refine rg ?_
     refine st (v := (I 1)) (rv_assign rfl) ?_
     refine w_end ?_
     refine q_then ?_
     refine c_seq ?_
     refine rg ?_
     refine st (v := (Sl a30 r27 c31)) (rv_move rfl) ?_
     refine st (v := (I 1)) (rv_move rfl) ?_
     obtain ⟨r67, hx68, h'⟩ := bind_some h
     clear h
     have h := h'; clear h'
     have hc69 := c_laws_markItemS (aa_0 := a30) (ca_0 := c31) (hK := hK33) hx68
     refine st_call (cx_call hc69 (ent_f hc69.fn rfl) hn0 (show Hp S0 σ0 _ ([Ch.big K32] ++ [Ch.big K59, Ch.big K45, Ch.own n0 n0 (Sl a24 r21 c25) r21, Ch.big K13, Ch.bx n0 b1 0 [(I aF_1.1), (I aF_1.2.1), (I aF_1.2.2)] [] [], Ch.ro 0 (Sl aaList_0 aList_0 caList_0) aList_0]) from (H.sel' [0, 1, 2, 3, 4, 5, 6] rfl rfl))) wn ?_
     rintro _ σ71 ⟨_, ⟨rfl, rfl, hn70⟩, H, -⟩
     replace H : Hp S0 σ0 σ71 [Ch.ro 0 (Sl a30 r67.2 c31) r67.2, Ch.big K59, Ch.big K45, Ch.own n0 n0 (Sl a24 r21 c25) r21, Ch.big K13, Ch.bx n0 b1 0 [(I aF_1.1), (I aF_1.2.1), (I aF_1.2.2)] [] [], Ch.ro 0 (Sl aaList_0 aList_0 caList_0) aList_0] := H
     have hsl : (Sl a30 r27 c31) = (Sl a30 r67.2 c31) := sl_len hn70.symm
     try rw [hsl]
     try rw [hsl] at H
     clear hsl
     refine st (v := (I r67.1)) (rv_assign rfl) ?_
     refine w_end ?_
     refine q_then ?_
     refine c_seq ?_
     refine c_seq ?_
     obtain ⟨o72, hj, h'⟩ := bind_some h
     clear h
     refine c_cut (fun e a w => e = .normal ∧ ∃ (ρ : Nat → Value) (σ : St), a = fr 77 (updL ρ [(0, (Sl aaList_0 aList_0 caList_0)), (3, (pt b1 0)), (6, (Sl a24 r21 c25)), (8, (Sl a43 r40 c44)), (48, (B o72))]) ∧ w = σ.w ∧ Hp S0 σ0 σ [Ch.ro 0 (Sl aaList_0 aList_0 caList_0) aList_0, Ch.bx n0 b1 0 [(I aF_1.1), (I aF_1.2.1), (I aF_1.2.2)] [] [], Ch.own n0 n0 (Sl a24 r21 c25) r21, Ch.big K45]) ?_ ?_
     ·clear h'
      rename _ = some o72 => h
      refine rg ?_
      refine st (v := (I r67.1)) (rv_move rfl) ?_
      refine st (v := (B (decide (r67.1 < 0)))) (rv_lss (a := r67.1) (b := 0) rfl rfl) ?_
      refine st (v := (B (decide (r67.1 < 0)))) (rv_move rfl) ?_
      rcases Bool.eq_false_or_eq_true (decide (r67.1 < 0)) with hb73 | hb73
      ·replace h := bif_t hb73 h
       refine st_skip (congrArg some hb73) ?_
       refine st_skip (congrArg some hb73) ?_
       refine st_skip (congrArg some hb73) ?_
       refine st_skip (congrArg some hb73) ?_
       refine st (v := (B true)) (rv_pick_t (congrArg B hb73) rfl) ?_
       refine w_end ?_
       obtain rfl := Option.some.inj h
       exact ⟨rfl, _, σ71, fr_join ⟨rfl, rfl, rfl, rfl, rfl, trivial⟩, rfl, H.sel' [6, 5, 3, 2] rfl rfl⟩
      ·replace h := bif_f hb73 h
       refine st_g (v := (Sl a43 r40 c44)) (congrArg some hb73) (rv_move rfl) ?_
       refine st_g (v := (Sl a24 r21 c25)) (congrArg some hb73) (rv_move rfl) ?_
       obtain ⟨r74, hx75, h'⟩ := bind_some h
       clear h
       have h := h'; clear h'
       have hc76 := c_laws_eqItemS (aa_0 := a43) (ca_0 := c44) (ab_1 := a24) (cb_1 := c25) hx75
       have hle := Nat.le_trans hn0 H.size
       refine st_call (cx_lend (Loan.lendB hK46.lends (Loan.lend Loan.nil)) hc76 (ent_f hc76.fn rfl) (show Hp S0 σ0 _ ([Ch.big K45, Ch.own n0 n0 (Sl a24 r21 c25) r21] ++ ([] ++ [Ch.ro 0 (Sl a30 r67.2 c31) r67.2, Ch.big K59, Ch.big K13, Ch.bx n0 b1 0 [(I aF_1.1), (I aF_1.2.1), (I aF_1.2.2)] [] [], Ch.ro 0 (Sl aaList_0 aList_0 caList_0) aList_0])) from (H.sel' [2, 3, 0, 1, 4, 5, 6] rfl rfl)) (by rintro _ _ _ ⟨rfl, rfl⟩; exact trivial)) (wanted_yes rfl (by exact (congrArg some hb73))) ?_
       rintro _ σ77 ⟨_, ⟨rfl, rfl⟩, H, -, -⟩
       replace H : Hp S0 σ0 σ77 [Ch.big K45, Ch.own n0 n0 (Sl a24 r21 c25) r21, Ch.ro 0 (Sl a30 r67.2 c31) r67.2, Ch.big K59, Ch.big K13, Ch.bx n0 b1 0 [(I aF_1.1), (I aF_1.2.1), (I aF_1.2.2)] [] [], Ch.ro 0 (Sl aaList_0 aList_0 caList_0) aList_0] := H
       clear hle
       replace H : Hp S0 σ0 σ77 [Ch.big K45, Ch.own n0 n0 (Sl a24 r21 c25) r21, Ch.ro 0 (Sl a30 r67.2 c31) r67.2, Ch.big K59, Ch.big K13, Ch.bx n0 b1 0 [(I aF_1.1), (I aF_1.2.1), (I aF_1.2.2)] [] [], Ch.ro 0 (Sl aaList_0 aList_0 caList_0) aList_0] := H
       refine st_g (v := (B (!r74))) (congrArg some hb73) (rv_not rfl) ?_
       refine st (v := (B (!r74))) (rv_pick_f (congrArg B hb73) rfl) ?_
       refine w_end ?_
       obtain rfl := Option.some.inj h
       exact ⟨rfl, _, σ77, fr_join ⟨rfl, rfl, rfl, rfl, rfl, trivial⟩, rfl, H.sel' [6, 5, 1, 0] rfl rfl⟩
     ·clear hj
      have h := h'
      clear h' H
      rintro e a w ⟨rfl, ρ, σ78, rfl, rfl, H⟩
      refine q_then ?_
      refine cd_cond o72 rfl (fun hb79 => ?_) (fun hb79 => ?_)
      ·replace h := bif_t hb79 h
       refine c_seq ?_
       refine rg ?_
       refine st (v := (B false)) (rv_assign rfl) ?_
       refine w_end ?_
       refine q_then ?_
       refine c_ret ?_
       refine q_then_r ?_
       obtain rfl := Option.some.inj h
       exact fin_ret (v := (B false)) (results_ok Try.results4 (res_tmp (v := (B false)) rfl res_nil) rfl) ⟨rfl, rfl⟩ (H.sel' [] rfl rfl)
      ·replace h := bif_f hb79 h
       refine c_skip ?_
       refine q_then ?_
       refine c_seq ?_
       refine rg ?_
       refine st (v := (I 1)) (rv_assign rfl) ?_
       refine w_end ?_
       refine q_then ?_
       refine c_seq ?_
       refine rg ?_
       refine st (v := (Sl a43 r40 c44)) (rv_move rfl) ?_
       refine st (v := (I 1)) (rv_move rfl) ?_
       obtain ⟨r80, hx81, h'⟩ := bind_some h
       clear h
       have h := h'; clear h'
       have hc82 := c_laws_markItemS (aa_0 := a43) (ca_0 := c44) (hK := hK46) hx81
       refine st_call (cx_call hc82 (ent_f hc82.fn rfl) hn0 (show Hp S0 σ0 _ ([Ch.big K45] ++ [Ch.ro 0 (Sl aaList_0 aList_0 caList_0) aList_0, Ch.bx n0 b1 0 [(I aF_1.1), (I aF_1.2.1), (I aF_1.2.2)] [] [], Ch.own n0 n0 (Sl a24 r21 c25) r21]) from (H.sel' [3, 0, 1, 2] rfl rfl))) wn ?_
       rintro _ σ84 ⟨_, ⟨rfl, rfl, hn83⟩, H, -⟩
       replace H : Hp S0 σ0 σ84 [Ch.ro 0 (Sl a43 r80.2 c44) r80.2, Ch.ro 0 (Sl aaList_0 aList_0 caList_0) aList_0, Ch.bx n0 b1 0 [(I aF_1.1), (I aF_1.2.1), (I aF_1.2.2)] [] [], Ch.own n0 n0 (Sl a24 r21 c25) r21] := H
       have hsl : (Sl a43 r40 c44) = (Sl a43 r80.2 c44) := sl_len hn83.symm
       try rw [hsl]
       try rw [hsl] at H
       clear hsl
       refine st (v := (I r80.1)) (rv_assign rfl) ?_
       refine w_end ?_
       refine q_then ?_
       refine c_seq ?_
       refine rg ?_
       refine st (v := (I 1)) (rv_assign rfl) ?_
       refine w_end ?_
       refine q_then ?_
       refine c_seq ?_
       refine rg ?_
       refine st (v := (Sl a43 r80.2 c44)) (rv_move rfl) ?_
       refine st (v := (I 1)) (rv_move rfl) ?_
       obtain ⟨r85, hx86, h'⟩ := bind_some h
       clear h
       have h := h'; clear h'
       have hc87 := c_laws_heldItemS (aa_0 := a43) (ca_0 := c44) hx86
       refine st_call (cx_call hc87 (ent_f hc87.fn rfl) hn0 (show Hp S0 σ0 _ ([Ch.ro 0 (Sl a43 r80.2 c44) r80.2] ++ [Ch.ro 0 (Sl a43 r80.2 c44) r80.2, Ch.ro 0 (Sl aaList_0 aList_0 caList_0) aList_0, Ch.bx n0 b1 0 [(I aF_1.1), (I aF_1.2.1), (I aF_1.2.2)] [] [], Ch.own n0 n0 (Sl a24 r21 c25) r21]) from (H.sel' [0, 0, 1, 2, 3] rfl rfl))) wn ?_
       rintro _ σ88 ⟨_, ⟨rfl, rfl⟩, H, -⟩
       replace H : Hp S0 σ0 σ88 [Ch.ro 0 (Sl a43 r80.2 c44) r80.2, Ch.ro 0 (Sl aaList_0 aList_0 caList_0) aList_0, Ch.bx n0 b1 0 [(I aF_1.1), (I aF_1.2.1), (I aF_1.2.2)] [] [], Ch.own n0 n0 (Sl a24 r21 c25) r21] := H
       refine st (v := (I r85)) (rv_assign rfl) ?_
       refine w_end ?_
       refine q_then ?_
       refine c_seq ?_
       refine c_seq ?_
       refine rg ?_
       refine st (v := (I r85)) (rv_move rfl) ?_
       refine st (v := (B (decide (r85 < 0)))) (rv_lss (a := r85) (b := 0) rfl rfl) ?_
       refine w_end ?_
       refine q_then ?_
       refine cd_cond (decide (r85 < 0)) rfl (fun hb89 => ?_) (fun hb89 => ?_)
       ·replace h := bif_t hb89 h
        refine c_seq ?_
        refine rg ?_
        refine st (v := (B false)) (rv_assign rfl) ?_
        refine w_end ?_
        refine q_then ?_
        refine c_ret ?_
        refine q_then_r ?_
        obtain rfl := Option.some.inj h
        exact fin_ret (v := (B false)) (results_ok Try.results4 (res_tmp (v := (B false)) rfl res_nil) rfl) ⟨rfl, rfl⟩ (H.sel' [] rfl rfl)
       ·replace h := bif_f hb89 h
        refine c_skip ?_
        refine q_then ?_
        refine c_seq ?_
        refine c_seq ?_
        refine rg ?_
        refine st (v := (I r85)) (rv_move rfl) ?_
        refine st (v := (I r80.1)) (rv_move rfl) ?_
        refine st (v := (B (r85 != r80.1))) (rv_neq (a := r85) (b := r80.1) rfl rfl) ?_
        refine w_end ?_
        refine q_then ?_
        refine cd_cond (r85 != r80.1) rfl (fun hb90 => ?_) (fun hb90 => ?_)
        ·replace h := bif_t hb90 h
         refine c_seq ?_
         refine rg ?_
         refine st (v := (B false)) (rv_assign rfl) ?_
         refine w_end ?_
         refine q_then ?_
         refine c_ret ?_
         refine q_then_r ?_
         obtain rfl := Option.some.inj h
         exact fin_ret (v := (B false)) (results_ok Try.results4 (res_tmp (v := (B false)) rfl res_nil) rfl) ⟨rfl, rfl⟩ (H.sel' [] rfl rfl)
        ·replace h := bif_f hb90 h
         refine c_skip ?_
         refine q_then ?_
         refine c_seq ?_
         obtain ⟨r91, hx92, h'⟩ := bind_some h
         clear h
         have h := h'; clear h'
         have hc93 := c_laws_toItemS (aa_0 := aaList_0) (ca_0 := caList_0) hx92
         have hc98 := H.cells 2 rfl
         have Hs := H
         refine rg2 (σ := σ88) (Nm := (Option Addr) × (Nat) × (List Ch)) 3 [1] [[false], [true]] [[(0, 0)], [(0, 1)], [(0, 0), (1, 1)]] 1 [fun ((a94, c95, K96) : (Option Addr) × (Nat) × (List Ch)) => fun σm => Hp S0 σ0 σm [Ch.ro 0 (Sl a43 r80.2 c44) r80.2, Ch.ro 0 (Sl aaList_0 aList_0 caList_0) aList_0, Ch.bx n0 b1 0 [(I aF_1.1), (I aF_1.2.1), (I aF_1.2.2)] [] [], Ch.own n0 n0 (Sl a24 r21 c25) r21] ∧ Md (cov []) σ88 σm, fun ((a94, c95, K96) : (Option Addr) × (Nat) × (List Ch)) => fun σm => Hp S0 σ0 σm [Ch.big K96, Ch.ro 0 (Sl a43 r80.2 c44) r80.2, Ch.ro 0 (Sl aaList_0 aList_0 caList_0) aList_0, Ch.bx n0 b1 0 [(I aF_1.1), (I aF_1.2.1), (I aF_1.2.2)] [] [], Ch.own n0 n0 (Sl a24 r21 c25) r21] ∧ Md (cov []) σ88 σm ∧ Dp n0 (Sl a94 r91 c95) r91 K96] [fun ((a94, c95, K96) : (Option Addr) × (Nat) × (List Ch)) => (Sl aaList_0 aList_0 caList_0), fun ((a94, c95, K96) : (Option Addr) × (Nat) × (List Ch)) => (Sl a94 r91 c95), fun ((a94, c95, K96) : (Option Addr) × (Nat) × (List Ch)) => (.agg #[(I aF_1.1), (I aF_1.2.1), (I aF_1.2.2)])] (none, 0, []) (by kernel_rfl) (by kernel_rfl) ?_ ?_ ?_
         ·intro σm m0
          exact ⟨H.grow (m0.mono fun _ h => h.elim), m0⟩
         ·refine ac rfl (by
            intro k; rintro ⟨a94, c95, K96⟩ ρ σm hJ hoff hdep
            have e0 := look_off (N := 77) (hoff 0 rfl) rfl
            exact dp_v (v := (Sl aaList_0 aList_0 caList_0)) wn (rv_move e0) rfl hJ) ?_
          refine all_cons (by
            refine ⟨?_, ?_⟩
            ·rintro ⟨a94, c95, K96⟩ ρ σm hJ hoff hdep
             have e60 : look 77 ρ 60 = (Sl aaList_0 aList_0 caList_0) := hdep 0 rfl rfl 60 rfl
             obtain ⟨H, m⟩ := id hJ
             refine dp_cx wn (cx_call hc93 (ent_f hc93.fn (by show [look 77 ρ 60] = _; rw [e60])) hn0 (show Hp S0 σ0 _ ([Ch.ro 0 (Sl aaList_0 aList_0 caList_0) aList_0] ++ [Ch.ro 0 (Sl a43 r80.2 c44) r80.2, Ch.ro 0 (Sl aaList_0 aList_0 caList_0) aList_0, Ch.bx n0 b1 0 [(I aF_1.1), (I aF_1.2.1), (I aF_1.2.2)] [] [], Ch.own n0 n0 (Sl a24 r21 c25) r21]) from (H.sel' [1, 0, 1, 2, 3] rfl rfl))) ?_
             rintro _ σq ⟨_, ⟨a94x, c95x, K96x, rfl, rfl, hK97⟩, H2, m2⟩
             exact ⟨_, (a94x, c95x, K96x), rfl, rfl, ⟨H2.sel' [0, 1, 2, 3, 4] rfl rfl, m.comp0 (m2.mono (fun i h => by simp [cov, Ch.ro] at h)), hK97⟩, stab [0, 2] (by kernel_rfl) ⟨rfl, rfl, trivial⟩⟩
            trivial) ?_
          refine all_cons (by
            refine ⟨?_, ?_⟩
            ·rintro ⟨a94, c95, K96⟩ ρ σm hJ hoff hdep
             have e3 := look_off (N := 77) (hoff 3 rfl) rfl
             obtain ⟨H, m⟩ := id hJ
             have hc98 := H.cells 2 rfl
             exact dp_v (v := (.agg #[(I aF_1.1), (I aF_1.2.1), (I aF_1.2.2)])) wn (rv_load (cs := [(I aF_1.1), (I aF_1.2.1), (I aF_1.2.2)]) Try.underlying23 rfl ti23 e3 rfl hc98) rfl hJ
            refine ⟨?_, ?_⟩
            ·rintro ⟨a94, c95, K96⟩ ρ σm hJ hoff hdep
             have e3 := look_off (N := 77) (hoff 3 rfl) rfl
             obtain ⟨H, m, hK97⟩ := id hJ
             have hc98 := H.cells 3 rfl
             exact dp_v (v := (.agg #[(I aF_1.1), (I aF_1.2.1), (I aF_1.2.2)])) wn (rv_load (cs := [(I aF_1.1), (I aF_1.2.1), (I aF_1.2.2)]) Try.underlying23 rfl ti23 e3 rfl hc98) rfl hJ
            trivial) ?_
          exact all_nil
         ·rintro ⟨a94, c95, K96⟩ ρ σ99 hJ hoff hrel
          have e6 := look_off (N := 77) (hoff 6 rfl) rfl
          have e8 := look_off (N := 77) (hoff 8 rfl) rfl
          have e10 := look_off (N := 77) (hoff 10 rfl) rfl
          have e61 := hrel 1 rfl 61 rfl
          have e62 := hrel 2 rfl 62 rfl
          obtain ⟨H, -, hK97⟩ := (show Hp S0 σ0 σ99 [Ch.big K96, Ch.ro 0 (Sl a43 r80.2 c44) r80.2, Ch.ro 0 (Sl aaList_0 aList_0 caList_0) aList_0, Ch.bx n0 b1 0 [(I aF_1.1), (I aF_1.2.1), (I aF_1.2.2)] [] [], Ch.own n0 n0 (Sl a24 r21 c25) r21] ∧ Md (cov []) σ88 σ99 ∧ Dp n0 (Sl a94 r91 c95) r91 K96 from hJ)
          clear hJ Hs
          rw [fr_lookL (L := [(6, (Sl a24 r21 c25)), (8, (Sl a43 r80.2 c44)), (10, (I r80.1)), (61, (Sl a94 r91 c95)), (62, (.agg #[(I aF_1.1), (I aF_1.2.1), (I aF_1.2.2)]))]) ⟨e6, e8, e10, e61, e62, trivial⟩]
          clear hoff hrel e6 e8 e10 e61 e62
          obtain ⟨r100, hx101, h'⟩ := bind_some h
          clear h
          have h := h'; clear h'
          have hc102 := c_laws_toFilter hx101
          refine st_call (cx_call hc102 (ent_f hc102.fn rfl) hn0 (show Hp S0 σ0 _ ([] ++ [Ch.big K96, Ch.ro 0 (Sl a43 r80.2 c44) r80.2, Ch.ro 0 (Sl aaList_0 aList_0 caList_0) aList_0, Ch.bx n0 b1 0 [(I aF_1.1), (I aF_1.2.1), (I aF_1.2.2)] [] [], Ch.own n0 n0 (Sl a24 r21 c25) r21]) from (H.sel' [0, 1, 2, 3, 4] rfl rfl))) wn ?_
          rintro _ σ103 ⟨_, ⟨rfl, rfl⟩, H, -⟩
          replace H : Hp S0 σ0 σ103 [Ch.big K96, Ch.ro 0 (Sl a43 r80.2 c44) r80.2, Ch.ro 0 (Sl aaList_0 aList_0 caList_0) aList_0, Ch.bx n0 b1 0 [(I aF_1.1), (I aF_1.2.1), (I aF_1.2.2)] [] [], Ch.own n0 n0 (Sl a24 r21 c25) r21] := H
          obtain ⟨r104, hx105, h'⟩ := bind_some h
          clear h
          have h := h'; clear h'
          have hc106 := c_impl_FilterStore (alist_0 := a94) (clist_0 := c95) hx105
          have hle := Nat.le_trans hn0 H.size
          refine st_call (cx_lend (Loan.lendB hK97.lends Loan.nil) hc106 (ent_f hc106.fn rfl) (show Hp S0 σ0 _ ([Ch.big K96] ++ ([] ++ [Ch.ro 0 (Sl a43 r80.2 c44) r80.2, Ch.ro 0 (Sl aaList_0 aList_0 caList_0) aList_0, Ch.bx n0 b1 0 [(I aF_1.1), (I aF_1.2.1), (I aF_1.2.2)] [] [], Ch.own n0 n0 (Sl a24 r21 c25) r21])) from (H.sel' [0, 1, 2, 3, 4] rfl rfl)) (by rintro _ _ _ ⟨_, _, _, rfl, rfl, hK110, _⟩; exact ⟨Dp.abSc hK110, trivial⟩)) wn ?_
          rintro _ σ112 ⟨_, ⟨a107, c108, K109, rfl, rfl, hK110, ht111⟩, H, -, -⟩
          replace H : Hp S0 σ0 σ112 [Ch.big K109, Ch.big K96, Ch.ro 0 (Sl a43 r80.2 c44) r80.2, Ch.ro 0 (Sl aaList_0 aList_0 caList_0) aList_0, Ch.bx n0 b1 0 [(I aF_1.1), (I aF_1.2.1), (I aF_1.2.2)] [] [], Ch.own n0 n0 (Sl a24 r21 c25) r21] := H
          clear hle
          replace H : Hp S0 σ0 σ112 [Ch.big K109, Ch.big K96, Ch.ro 0 (Sl a43 r80.2 c44) r80.2, Ch.ro 0 (Sl aaList_0 aList_0 caList_0) aList_0, Ch.bx n0 b1 0 [(I aF_1.1), (I aF_1.2.1), (I aF_1.2.2)] [] [], Ch.own n0 n0 (Sl a24 r21 c25) r21] := H
          refine st (v := (Sl a107 r104 c108)) (rv_assign rfl) ?_
          refine w_end ?_
          refine q_then ?_
          refine c_seq ?_
          refine c_seq ?_
          refine rg ?_
          refine st (v := (Sl a107 r104 c108)) (rv_move rfl) ?_
          refine st (v := (Sl a24 r21 c25)) (rv_move rfl) ?_
          obtain ⟨σ113, hw114, H, -⟩ := H.pub 5 rfl (Nat.le_refl _)
          rw [← hw114]; clear hw114
          replace H := H.roLow 0 0 rfl (Nat.zero_le _)
          obtain ⟨r115, hx116, h'⟩ := bind_some h
          clear h
          have h := h'; clear h'
          have hc117 := c_laws_eqItemS (aa_0 := a107) (ca_0 := c108) (ab_1 := a24) (cb_1 := c25) hx116
          have hle := Nat.le_trans hn0 H.size
          refine st_call (cx_lend (Loan.lendB hK110.lends (Loan.same Loan.nil)) hc117 (ent_f hc117.fn rfl) (show Hp S0 σ0 _ ([Ch.big K109] ++ ([Ch.ro 0 (Sl a24 r21 c25) r21] ++ [Ch.ro 0 (Sl a24 r21 c25) r21, Ch.ro n0 (Sl a24 r21 c25) r21, Ch.big K96, Ch.ro 0 (Sl a43 r80.2 c44) r80.2, Ch.ro 0 (Sl aaList_0 aList_0 caList_0) aList_0, Ch.bx n0 b1 0 [(I aF_1.1), (I aF_1.2.1), (I aF_1.2.2)] [] []])) from (H.sel' [2, 0, 0, 1, 3, 4, 5, 6] rfl rfl)) (by rintro _ _ _ ⟨rfl, rfl⟩; exact trivial)) wn ?_
          rintro _ σ118 ⟨_, ⟨rfl, rfl⟩, H, -, -⟩
          replace H : Hp S0 σ0 σ118 [Ch.big K109, Ch.ro 0 (Sl a24 r21 c25) r21, Ch.ro n0 (Sl a24 r21 c25) r21, Ch.big K96, Ch.ro 0 (Sl a43 r80.2 c44) r80.2, Ch.ro 0 (Sl aaList_0 aList_0 caList_0) aList_0, Ch.bx n0 b1 0 [(I aF_1.1), (I aF_1.2.1), (I aF_1.2.2)] [] []] := H
          clear hle
          replace H : Hp S0 σ0 σ118 [Ch.big K109, Ch.ro 0 (Sl a24 r21 c25) r21, Ch.ro n0 (Sl a24 r21 c25) r21, Ch.big K96, Ch.ro 0 (Sl a43 r80.2 c44) r80.2, Ch.ro 0 (Sl aaList_0 aList_0 caList_0) aList_0, Ch.bx n0 b1 0 [(I aF_1.1), (I aF_1.2.1), (I aF_1.2.2)] [] []] := H
          refine st (v := (B (!r115))) (rv_not rfl) ?_
          refine w_end ?_
          refine q_then ?_
          refine cd_cond (!r115) rfl (fun hb119 => ?_) (fun hb119 => ?_)
          ·replace h := bif_t hb119 h
           refine c_seq ?_
           refine rg ?_
           refine st (v := (B false)) (rv_assign rfl) ?_
           refine w_end ?_
           refine q_then ?_
           refine c_ret ?_
           refine q_then_r ?_
           obtain rfl := Option.some.inj h
           exact fin_ret (v := (B false)) (results_ok Try.results4 (res_tmp (v := (B false)) rfl res_nil) rfl) ⟨rfl, rfl⟩ (H.sel' [] rfl rfl)
          ·replace h := bif_f hb119 h
           refine c_skip ?_
           refine q_then ?_
           refine c_seq ?_
           refine rg ?_
           refine st (v := (I 1)) (rv_assign rfl) ?_
           refine w_end ?_
           refine q_then ?_
           refine c_seq ?_
           refine rg ?_
           refine st (v := (Sl a43 r80.2 c44)) (rv_move rfl) ?_
           refine st (v := (I 1)) (rv_move rfl) ?_
           obtain ⟨r120, hx121, h'⟩ := bind_some h
           clear h
           have h := h'; clear h'
           have hc122 := c_laws_heldItemS (aa_0 := a43) (ca_0 := c44) hx121
           refine st_call (cx_call hc122 (ent_f hc122.fn rfl) hn0 (show Hp S0 σ0 _ ([Ch.ro 0 (Sl a43 r80.2 c44) r80.2] ++ [Ch.big K109, Ch.ro 0 (Sl a24 r21 c25) r21, Ch.ro n0 (Sl a24 r21 c25) r21, Ch.big K96, Ch.ro 0 (Sl a43 r80.2 c44) r80.2, Ch.ro 0 (Sl aaList_0 aList_0 caList_0) aList_0, Ch.bx n0 b1 0 [(I aF_1.1), (I aF_1.2.1), (I aF_1.2.2)] [] []]) from (H.sel' [4, 0, 1, 2, 3, 4, 5, 6] rfl rfl))) wn ?_
           rintro _ σ123 ⟨_, ⟨rfl, rfl⟩, H, -⟩
           replace H : Hp S0 σ0 σ123 [Ch.big K109, Ch.ro 0 (Sl a24 r21 c25) r21, Ch.ro n0 (Sl a24 r21 c25) r21, Ch.big K96, Ch.ro 0 (Sl a43 r80.2 c44) r80.2, Ch.ro 0 (Sl aaList_0 aList_0 caList_0) aList_0, Ch.bx n0 b1 0 [(I aF_1.1), (I aF_1.2.1), (I aF_1.2.2)] [] []] := H
           refine st (v := (I r120)) (rv_assign rfl) ?_
           refine w_end ?_
           refine q_then ?_
           refine c_seq ?_
           refine c_seq ?_
           refine rg ?_
           refine st (v := (I r120)) (rv_move rfl) ?_
           refine st (v := (B (decide (r120 < 0)))) (rv_lss (a := r120) (b := 0) rfl rfl) ?_
           refine w_end ?_
           refine q_then ?_
           refine cd_cond (decide (r120 < 0)) rfl (fun hb124 => ?_) (fun hb124 => ?_)
           ·replace h := bif_t hb124 h
            refine c_seq ?_
            refine rg ?_
            refine st (v := (B false)) (rv_assign rfl) ?_
            refine w_end ?_
            refine q_then ?_
            refine c_ret ?_
            refine q_then_r ?_
            obtain rfl := Option.some.inj h
            exact fin_ret (v := (B false)) (results_ok Try.results4 (res_tmp (v := (B false)) rfl res_nil) rfl) ⟨rfl, rfl⟩ (H.sel' [] rfl rfl)
           ·replace h := bif_f hb124 h
            refine c_skip ?_
            refine q_then ?_
            refine c_seq ?_
            refine c_seq ?_
            refine rg ?_
            refine st (v := (I r120)) (rv_move rfl) ?_
            refine st (v := (I r80.1)) (rv_move rfl) ?_
            refine st (v := (B (r120 != r80.1))) (rv_neq (a := r120) (b := r80.1) rfl rfl) ?_
            refine w_end ?_
            refine q_then ?_
            refine cd_cond (r120 != r80.1) rfl (fun hb125 => ?_) (fun hb125 => ?_)
            ·replace h := bif_t hb125 h
             refine c_seq ?_
             refine rg ?_
             refine st (v := (B false)) (rv_assign rfl) ?_
             refine w_end ?_
             refine q_then ?_
             refine c_ret ?_
             refine q_then_r ?_
             obtain rfl := Option.some.inj h
             exact fin_ret (v := (B false)) (results_ok Try.results4 (res_tmp (v := (B false)) rfl res_nil) rfl) ⟨rfl, rfl⟩ (H.sel' [] rfl rfl)
            ·replace h := bif_f hb125 h
             refine c_skip ?_
             refine q_then ?_
             refine c_seq ?_
             refine rg ?_
             refine st (v := (B true)) (rv_assign rfl) ?_
             refine w_end ?_
             refine q_then ?_
             refine c_ret ?_
             obtain rfl := Option.some.inj h
             exact fin_ret (v := (B true)) (results_ok Try.results4 (res_tmp (v := (B true)) rfl res_nil) rfl) ⟨rfl, rfl⟩ (H.sel' [] rfl rfl)

end Go.Vs
