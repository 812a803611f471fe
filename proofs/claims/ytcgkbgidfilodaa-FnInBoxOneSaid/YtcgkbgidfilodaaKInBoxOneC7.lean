/- The functions compute what their models say. -/
import Derived.Test.YtcgkbgidfilodaaKInBoxOneC6
set_option linter.unusedVariables false
set_option linter.unusedSimpArgs false
set_option maxRecDepth 20000
namespace Go.Vs
open Go Go.Proofs
attribute [local irreducible] Code.wp Code.wpIn wpList wpListIn wpQuiet Calls CallsIn

theorem c_slices_DeleteFunc_impl_Hit_impl_Hit__impl_WithinDist_1 {s_0 : List (Int × Int)} {del_1_0 : Int} {as_0 : Option Addr} {cs_0 : Nat} {lodel_1_0 bdel_1_0 odel_1_0 : Nat} {predel_1_0 sufdel_1_0 : List Value} {r : (List (Int × Int))} (h : M.slices_DeleteFunc_impl_Hit_impl_Hit__impl_WithinDist_1 s_0 del_1_0 = some r) :
    Cal2 Try.prog 83 [(Sl as_0 s_0 cs_0), (.func (.func 84) #[] #[(pt bdel_1_0 odel_1_0)])] [Ch.own 0 0 (Sl as_0 s_0 cs_0) s_0, Ch.bx lodel_1_0 bdel_1_0 odel_1_0 [(I del_1_0)] predel_1_0 sufdel_1_0] (fun n0 v L => ∃ (az1 : Option Addr), ∃ (cz2 : Nat), v = (Sl az1 r cz2) ∧ L = [Ch.own 0 n0 (Sl az1 r cz2) r, Ch.bx lodel_1_0 bdel_1_0 odel_1_0 [(I del_1_0)] predel_1_0 sufdel_1_0]) := by
 refine cal2 (n := 42) Try.func83 rfl rfl rfl rfl ?_
 intro S0 σ0 n0 hn0 H
 unfold M.slices_DeleteFunc_impl_Hit_impl_Hit__impl_WithinDist_1 at h
 refine c_seq ?_
 refine rg ?_
 refine st (v := (.slice none 0 0)) (rv_assign rfl) ?_
 refine w_end ?_
 refine q_then ?_
 refine c_seq ?_
 refine rg ?_
 refine st (v := (Sl as_0 s_0 cs_0)) (rv_move rfl) ?_
 refine st (v := (.func (.func 84) #[] #[(pt bdel_1_0 odel_1_0)])) (rv_move rfl) ?_
 obtain ⟨r1, hx2, h'⟩ := bind_some h
 clear h
 have h := h'; clear h'
 have hc3 := c_slices_IndexFunc_impl_Hit_impl_Hit__impl_WithinDist_1 (as_0 := as_0) (cs_0 := cs_0) (lof_1_0 := lodel_1_0) (bf_1_0 := bdel_1_0) (of_1_0 := odel_1_0) (pref_1_0 := predel_1_0) (suff_1_0 := sufdel_1_0) hx2
 have hle := Nat.le_trans hn0 H.size
 refine st_call (cx_lend (Loan.lend (Loan.same Loan.nil)) hc3 (ent_f hc3.fn rfl) (show Hp S0 σ0 _ ([Ch.own 0 0 (Sl as_0 s_0 cs_0) s_0] ++ ([Ch.bx lodel_1_0 bdel_1_0 odel_1_0 [(I del_1_0)] predel_1_0 sufdel_1_0] ++ [])) from (H.sel' [0, 1] rfl rfl)) (by rintro _ _ _ ⟨rfl, rfl⟩; exact ⟨Ab.bx, trivial⟩)) (wanted_none _ rfl _) ?_
 rintro _ σ4 ⟨_, ⟨rfl, rfl⟩, H, -, -⟩
 replace H : Hp S0 σ0 σ4 [Ch.bx lodel_1_0 bdel_1_0 odel_1_0 [(I del_1_0)] predel_1_0 sufdel_1_0, Ch.own 0 0 (Sl as_0 s_0 cs_0) s_0] := H
 clear hle
 replace H : Hp S0 σ0 σ4 [Ch.bx lodel_1_0 bdel_1_0 odel_1_0 [(I del_1_0)] predel_1_0 sufdel_1_0, Ch.own 0 0 (Sl as_0 s_0 cs_0) s_0] := H
 refine st (v := (I r1)) (rv_assign rfl) ?_
 refine w_end ?_
 refine q_then ?_
 refine c_seq ?_
 refine c_seq ?_
 refine rg ?_
 refine st (v := (I r1)) (rv_move rfl) ?_
 refine st (v := (B (r1 == (-1)))) (rv_eql (a := r1) (b := (-1)) rfl rfl) ?_
 refine w_end ?_
 refine q_then ?_
 refine cd_cond (r1 == (-1)) rfl (fun hb5 => ?_) (fun hb5 => ?_)
 ·replace h := bif_t hb5 h
  refine c_seq ?_
  refine rg ?_
  refine st (v := (Sl as_0 s_0 cs_0)) (rv_move rfl) ?_
  refine st (v := (Sl as_0 s_0 cs_0)) (rv_assign rfl) ?_
  refine w_end ?_
  refine q_then ?_
  refine c_ret ?_
  refine q_then_r ?_
  replace H := H.ownSc 1 0 n0 rfl (Nat.le_refl _)
  obtain rfl := Option.some.inj h
  exact fin_ret (v := (Sl as_0 s_0 cs_0)) (results_ok Try.results83 (res_tmp (v := (Sl as_0 s_0 cs_0)) rfl res_nil) rfl) ⟨as_0, cs_0, rfl, rfl⟩ (H.sel' [0, 1] rfl rfl)
 ·replace h := bif_f hb5 h
  refine c_skip ?_
  refine q_then ?_
  refine c_seq ?_
  refine c_seq ?_
  refine rg ?_
  refine st (v := (I r1)) (rv_move rfl) ?_
  refine st (v := (I (w64 (r1 + 1)))) (rv_add (a := r1) (b := 1) rfl rfl) ?_
  refine st (v := (I (w64 (r1 + 1)))) (rv_assign rfl) ?_
  refine w_end ?_
  refine q_then ?_
  obtain ⟨o6, hj, h'⟩ := bind_some h
  clear h
  refine c_cut (fun e a w => e = .normal ∧ ∃ (ρ : Nat → Value) (σ : St), a = fr 42 (updL ρ [(0, (Sl as_0 o6.1 cs_0)), (1, (.func (.func 84) #[] #[(pt bdel_1_0 odel_1_0)])), (5, (I o6.2))]) ∧ w = σ.w ∧ Hp S0 σ0 σ [Ch.own 0 0 (Sl as_0 o6.1 cs_0) o6.1, Ch.bx lodel_1_0 bdel_1_0 odel_1_0 [(I del_1_0)] predel_1_0 sufdel_1_0] ∧ o6.1.length = s_0.length) ?_ ?_
  ·clear h'
   rename _ = some o6 => h
   refine c_blk ?_
   refine wp_loopM _ h (fun s7 a w => ∃ (ρ : Nat → Value) (σ : St), a = fr 42 (updL ρ [(0, (Sl as_0 s7.1 cs_0)), (1, (.func (.func 84) #[] #[(pt bdel_1_0 odel_1_0)])), (5, (I s7.2.1)), (6, (I s7.2.2))]) ∧ w = σ.w ∧ Hp S0 σ0 σ [Ch.own 0 0 (Sl as_0 s7.1 cs_0) s7.1, Ch.bx lodel_1_0 bdel_1_0 odel_1_0 [(I del_1_0)] predel_1_0 sufdel_1_0] ∧ s7.1.length = s_0.length) ⟨_, σ4, fr_join ⟨rfl, rfl, rfl, rfl, trivial⟩, rfl, H.sel' [1, 0] rfl rfl, rfl⟩ ?_
   clear h H
   rintro s7 a w o ⟨ρ, σ8, rfl, rfl, H, hn9⟩ h hres
   refine c_seq ?_
   refine c_seq ?_
   refine rg ?_
   refine st (v := (I s7.2.2)) (rv_move rfl) ?_
   refine st (v := (Sl as_0 s7.1 cs_0)) (rv_move rfl) ?_
   refine st (v := (I (s7.1.length : Int))) (rv_len Try.underlying27 rfl) ?_
   refine st (v := (B (decide (s7.2.2 < (s7.1.length : Int))))) (rv_lss (a := s7.2.2) (b := (s7.1.length : Int)) rfl rfl) ?_
   refine w_end ?_
   refine q_then ?_
   refine cd_cond (decide (s7.2.2 < (s7.1.length : Int))) rfl (fun hb10 => ?_) (fun hb10 => ?_)
   ·replace h := bif_t hb10 h
    refine c_skip ?_
    refine q_then ?_
    refine c_seq ?_
    obtain ⟨o11, hj, h'⟩ := bind_some h
    clear h
    refine c_cut (fun e a w => e = .normal ∧ ∃ (ρ : Nat → Value) (σ : St), a = fr 42 (updL ρ [(0, (Sl as_0 o11.1 cs_0)), (1, (.func (.func 84) #[] #[(pt bdel_1_0 odel_1_0)])), (5, (I o11.2)), (6, (I s7.2.2))]) ∧ w = σ.w ∧ Hp S0 σ0 σ [Ch.own 0 0 (Sl as_0 o11.1 cs_0) o11.1, Ch.bx lodel_1_0 bdel_1_0 odel_1_0 [(I del_1_0)] predel_1_0 sufdel_1_0] ∧ o11.1.length = s7.1.length) ?_ ?_
    ·clear h'
     rename _ = some o11 => h
     refine c_blk ?_
     refine c_seq ?_
     refine rg ?_
     refine st (v := (Sl as_0 s7.1 cs_0)) (rv_move rfl) ?_
     refine st (v := (I s7.2.2)) (rv_move rfl) ?_
     obtain ⟨x12, hx13, h'⟩ := bind_some h
     clear h
     have h := h'; clear h'
     obtain ⟨b15, o16, hi14, -⟩ := (H.own 0 rfl).ix hx13
     refine st (v := (pt b15 o16)) (rv_ix Try.underlying27 ti35 rfl rfl hi14) ?_
     obtain ⟨_, ⟨_, _, rfl, rfl, rfl⟩, hl17, hc18⟩ := ((H.own 0 rfl).at hx13 hi14).cells
     refine st (v := (.agg #[(I x12.1), (I x12.2)])) (rv_load Try.underlying35 rfl ti35 rfl hl17 hc18) ?_
     refine st_ex (ex_alloc (cs := [(I 0), (I 0)]) H hn0 ti35 rfl) (wanted_none _ rfl _) ?_
     rintro _ σ20 ⟨b19, rfl, H, -⟩
     refine st_exS (ex_store_box (k := 0) (cs := [(I 0), (I 0)]) (vs := [(I x12.1), (I x12.2)]) (cs' := [(I x12.1), (I x12.2)]) H (i := 0) rfl ti35 rfl rfl rfl rfl rfl (Nat.le_of_ble_eq_true rfl) (by simp [plain]) rfl) (wanted_none _ rfl _) ?_
     rintro σ21 ⟨H, -⟩
     refine w_end ?_
     refine q_then ?_
     refine c_seq ?_
     refine rg ?_
     refine st (v := (.func (.func 84) #[] #[(pt bdel_1_0 odel_1_0)])) (rv_move rfl) ?_
     have hc22 := H.cells 0 rfl
     refine st (v := (.agg #[(I x12.1), (I x12.2)])) (rv_load (cs := [(I x12.1), (I x12.2)]) Try.underlying35 rfl ti35 rfl rfl hc22) ?_
     obtain ⟨r23, hx24, h'⟩ := bind_some h
     clear h
     have h := h'; clear h'
     have hc25 := c_impl_WithinDist_1__p3 (lop_1 := lodel_1_0) (bp_1 := bdel_1_0) (op_1 := odel_1_0) (prep_1 := predel_1_0) (sufp_1 := sufdel_1_0) hx24
     refine st_call (cx_call hc25 (ent_v (cap := [(pt bdel_1_0 odel_1_0)]) hc25.fn rfl rfl) hn0 (show Hp S0 σ0 _ ([Ch.bx lodel_1_0 bdel_1_0 odel_1_0 [(I del_1_0)] predel_1_0 sufdel_1_0] ++ [Ch.bx n0 b19 0 [(I x12.1), (I x12.2)] [] [], Ch.own 0 0 (Sl as_0 s7.1 cs_0) s7.1]) from (H.sel' [2, 0, 1] rfl rfl))) (wanted_none _ rfl _) ?_
     rintro _ σ26 ⟨_, ⟨rfl, rfl⟩, H, -⟩
     replace H : Hp S0 σ0 σ26 [Ch.bx lodel_1_0 bdel_1_0 odel_1_0 [(I del_1_0)] predel_1_0 sufdel_1_0, Ch.bx n0 b19 0 [(I x12.1), (I x12.2)] [] [], Ch.own 0 0 (Sl as_0 s7.1 cs_0) s7.1] := H
     refine st (v := (B (!r23))) (rv_not rfl) ?_
     refine w_end ?_
     refine q_then ?_
     refine cd_cond (!r23) rfl (fun hb27 => ?_) (fun hb27 => ?_)
     ·replace h := bif_t hb27 h
      refine c_seq ?_
      refine rg ?_
      refine st (v := (Sl as_0 s7.1 cs_0)) (rv_move rfl) ?_
      refine st (v := (I s7.2.1)) (rv_move rfl) ?_
      have hc28 := H.cells 1 rfl
      refine st (v := (.agg #[(I x12.1), (I x12.2)])) (rv_load (cs := [(I x12.1), (I x12.2)]) Try.underlying35 rfl ti35 rfl rfl hc28) ?_
      obtain ⟨x29, hx30, h'⟩ := bind_some h
      clear h
      have h := h'; clear h'
      obtain ⟨b32, o33, hi31, -⟩ := (H.own 2 rfl).ix hx30
      refine st (v := (pt b32 o33)) (rv_ix Try.underlying27 ti35 rfl rfl hi31) ?_
      refine st_exS (ex_store_own (e' := (x12.1, x12.2)) (vs := [(I x12.1), (I x12.2)]) (k := 0) H (i := 2) rfl ti35 hx30 hi31 rfl rfl rfl rfl rfl (Nat.le_of_ble_eq_true rfl) (by simp [plain]) (by rintro _ ⟨_, _, rfl, rfl, rfl⟩; exact ⟨[(I x12.1)], [(I x12.2)], rfl, rfl, rfl⟩)) (wanted_none _ rfl _) ?_
      rintro σ34 ⟨H, -⟩
      have hsl : (Sl as_0 s7.1 cs_0) = (Sl as_0 (s7.1.set s7.2.1.toNat (x12.1, x12.2)) cs_0) := sl_len List.length_set.symm
      rw [hsl]; rw [hsl] at H; clear hsl
      refine w_end ?_
      refine q_then ?_
      refine rg ?_
      refine st (v := (I s7.2.1)) (rv_move rfl) ?_
      refine st (v := (I (w64 (s7.2.1 + 1)))) (rv_add (a := s7.2.1) (b := 1) rfl rfl) ?_
      refine st (v := (I (w64 (s7.2.1 + 1)))) (rv_assign rfl) ?_
      refine w_end ?_
      refine q_blk ?_
      obtain rfl := Option.some.inj h
      exact ⟨rfl, _, σ34, fr_join ⟨rfl, rfl, rfl, rfl, trivial⟩, rfl, H.sel' [0, 1] rfl rfl, ((List.length_set.trans hn9).trans hn9.symm)⟩
     ·replace h := bif_f hb27 h
      refine c_skip ?_
      refine q_blk ?_
      obtain rfl := Option.some.inj h
      exact ⟨rfl, _, σ26, fr_join ⟨rfl, rfl, rfl, rfl, trivial⟩, rfl, H.sel' [2, 0] rfl rfl, rfl⟩
    ·clear hj
     have h := h'
     clear h' H
     rintro e a w ⟨rfl, ρ, σ35, rfl, rfl, H, hn36⟩
     refine q_then ?_
     refine rg ?_
     refine st (v := (I s7.2.2)) (rv_move rfl) ?_
     refine st (v := (I (w64 (s7.2.2 + 1)))) (rv_add (a := s7.2.2) (b := 1) rfl rfl) ?_
     refine st (v := (I (w64 (s7.2.2 + 1)))) (rv_assign rfl) ?_
     refine w_end ?_
     refine q_then ?_
     obtain rfl := Option.some.inj h
     exact ⟨_, rfl, _, σ35, fr_join ⟨rfl, rfl, rfl, rfl, trivial⟩, rfl, H.sel' [0, 1] rfl rfl, (hn36.trans hn9)⟩
   ·replace h := bif_f hb10 h
    refine c_exit ?_
    refine q_then_x ?_
    refine q_then_x ?_
    refine q_blk_hit ?_
    obtain rfl := Option.some.inj h
    obtain rfl := hres _ rfl
    exact ⟨rfl, _, σ8, fr_join ⟨rfl, rfl, rfl, trivial⟩, rfl, H.sel' [0, 1] rfl rfl, hn9⟩
  ·clear hj
   have h := h'
   clear h' H
   rintro e a w ⟨rfl, ρ, σ37, rfl, rfl, H, hn38⟩
   refine q_then ?_
   refine c_seq ?_
   refine rg ?_
   refine st (v := (Sl as_0 o6.1 cs_0)) (rv_move rfl) ?_
   refine st (v := (I o6.2)) (rv_move rfl) ?_
   obtain ⟨xs39, hx40, h'⟩ := bind_some h
   clear h
   have h := h'; clear h'
   obtain ⟨a41, c42, hs43, -⟩ := (H.own 0 rfl).slice hx40
   refine st (v := (Sl a41 xs39 c42)) (rv_slice_l Try.underlying27 ti35 hs43 rfl rfl) ?_
   refine st_ex0 (ex_clearV (z0 := ((0, 0) : Int × Int)) (zs := [(I 0), (I 0)]) H (i := 0) rfl Try.underlying27 ti35 rfl rfl (⟨[(I 0)], [(I 0)], rfl, rfl, rfl⟩) hx40 hs43 rfl) (wanted_none _ rfl _) ?_
   rintro _ σ45 ⟨rfl, H, -⟩
   have hsl : (Sl as_0 o6.1 cs_0) = (Sl as_0 (gcopyAt o6.1 (o6.2).toNat xs39.length (List.replicate xs39.length ((0, 0) : Int × Int))) cs_0) := sl_len (gcopyAt_len (by have := gslice_some hx40; omega)).symm
   rw [hsl]; rw [hsl] at H; clear hsl
   refine w_end ?_
   refine q_then ?_
   refine c_seq ?_
   refine rg ?_
   refine st (v := (Sl as_0 (gcopyAt o6.1 (o6.2).toNat xs39.length (List.replicate xs39.length ((0, 0) : Int × Int))) cs_0)) (rv_move rfl) ?_
   refine st (v := (I o6.2)) (rv_move rfl) ?_
   obtain ⟨xs46, hx47, h'⟩ := bind_some h
   clear h
   have h := h'; clear h'
   obtain ⟨a48, c49, hs50, hR51, hb52⟩ := (H.own 0 rfl).slice hx47
   replace H := (H.front (i := 0) rfl).turn (d := Ch.own 0 0 (Sl a48 xs46 c49) xs46) (fun _ => hR51) hb52; clear hR51 hb52
   refine st (v := (Sl a48 xs46 c49)) (rv_slice_h Try.underlying27 ti35 hs50 rfl rfl) ?_
   refine st (v := (Sl a48 xs46 c49)) (rv_assign rfl) ?_
   refine w_end ?_
   refine q_then ?_
   refine c_ret ?_
   replace H := H.ownSc 0 0 n0 rfl (Nat.le_refl _)
   obtain rfl := Option.some.inj h
   exact fin_ret (v := (Sl a48 xs46 c49)) (results_ok Try.results83 (res_tmp (v := (Sl a48 xs46 c49)) rfl res_nil) rfl) ⟨a48, c49, rfl, rfl⟩ (H.sel' [0, 1] rfl rfl)

theorem c_impl_WithinDist {list_0 : List (Int × (List Int) × Int)} {kind_1 : Int} {at_2 : List Int} {most_3 : Int} {alist_0 : Option Addr} {clist_0 : Nat} {aat_2 : Option Addr} {cat_2 : Nat} {r : (List (Int × Int))} (h : M.impl_WithinDist list_0 kind_1 at_2 most_3 = some r) :
    Cal2 Try.prog 28 [(Sl alist_0 list_0 clist_0), (I kind_1), (Sl aat_2 at_2 cat_2), (I most_3)] [Ch.ro 0 (Sl alist_0 list_0 clist_0) list_0, Ch.ro 0 (Sl aat_2 at_2 cat_2) at_2] (fun n0 v L => ∃ (az1 : Option Addr), ∃ (cz2 : Nat), v = (Sl az1 r cz2) ∧ L = [Ch.own 0 n0 (Sl az1 r cz2) r]) := by
 refine cal2 (n := 17) Try.func28 rfl rfl rfl rfl ?_
 intro S0 σ0 n0 hn0 H
 unfold M.impl_WithinDist at h
 refine c_seq ?_
 refine rg ?_
 refine st_ex (ex_box (cs := [(I most_3)]) H hn0 rfl rfl) (wanted_none _ rfl _) ?_
 rintro _ σ2 ⟨b1, rfl, H, -⟩
 refine st (v := (.slice none 0 0)) (rv_assign rfl) ?_
 refine w_end ?_
 refine q_then ?_
 refine c_seq ?_
 refine c_seq ?_
 refine rg ?_
 have hc3 := H.cell (u := (I most_3)) (o' := 0) 0 0 rfl rfl rfl
 refine st (v := (I most_3)) (rv_load1 Try.underlying3 rfl rfl hc3) ?_
 refine st (v := (B (decide (most_3 < 0)))) (rv_lss (a := most_3) (b := 0) rfl rfl) ?_
 refine w_end ?_
 refine q_then ?_
 refine cd_cond (decide (most_3 < 0)) rfl (fun hb4 => ?_) (fun hb4 => ?_)
 ·replace h := bif_t hb4 h
  refine c_seq ?_
  refine rg ?_
  refine st (v := (.slice none 0 0)) (rv_assign rfl) ?_
  refine w_end ?_
  refine q_then ?_
  refine c_ret ?_
  refine q_then_r ?_
  replace H := H.nilOwn (Int × Int) 0 n0
  obtain rfl := Option.some.inj h
  exact fin_ret (v := (.slice none 0 0)) (results_ok Try.results28 (res_tmp (v := (.slice none 0 0)) rfl res_nil) rfl) ⟨none, 0, rfl, rfl⟩ (H.sel' [0] rfl rfl)
 ·replace h := bif_f hb4 h
  refine c_skip ?_
  refine q_then ?_
  refine c_seq ?_
  refine rg ?_
  refine st (v := (Sl alist_0 list_0 clist_0)) (rv_move rfl) ?_
  refine st (v := (I kind_1)) (rv_move rfl) ?_
  refine st (v := (Sl aat_2 at_2 cat_2)) (rv_move rfl) ?_
  obtain ⟨r5, hx6, h'⟩ := bind_some h
  clear h
  have h := h'; clear h'
  have hc7 := c_impl_Nearest (alist_0 := alist_0) (clist_0 := clist_0) (aat_2 := aat_2) (cat_2 := cat_2) hx6
  refine st_call (cx_call hc7 (ent_f hc7.fn rfl) hn0 (show Hp S0 σ0 _ ([Ch.ro 0 (Sl alist_0 list_0 clist_0) list_0, Ch.ro 0 (Sl aat_2 at_2 cat_2) at_2] ++ [Ch.bx n0 b1 0 [(I most_3)] [] [], Ch.ro 0 (Sl alist_0 list_0 clist_0) list_0, Ch.ro 0 (Sl aat_2 at_2 cat_2) at_2]) from (H.sel' [1, 2, 0, 1, 2] rfl rfl))) (wanted_none _ rfl _) ?_
  rintro _ σ10 ⟨_, ⟨a8, c9, rfl, rfl⟩, H, -⟩
  replace H : Hp S0 σ0 σ10 [Ch.own 0 n0 (Sl a8 r5 c9) r5, Ch.bx n0 b1 0 [(I most_3)] [] [], Ch.ro 0 (Sl alist_0 list_0 clist_0) list_0, Ch.ro 0 (Sl aat_2 at_2 cat_2) at_2] := H
  refine st (v := (.func (.func 84) #[] #[(pt b1 0)])) (rv_makeFunc (vs := [(pt b1 0)]) rfl) ?_
  replace H := H.ownLow 0 0 0 rfl (Nat.zero_le _) (Nat.zero_le _)
  obtain ⟨r11, hx12, h'⟩ := bind_some h
  clear h
  have h := h'; clear h'
  have hc13 := c_slices_DeleteFunc_impl_Hit_impl_Hit__impl_WithinDist_1 (as_0 := a8) (cs_0 := c9) (lodel_1_0 := n0) (bdel_1_0 := b1) (odel_1_0 := 0) (predel_1_0 := []) (sufdel_1_0 := []) hx12
  refine st_call (cx_call hc13 (ent_f hc13.fn rfl) hn0 (show Hp S0 σ0 _ ([Ch.own 0 0 (Sl a8 r5 c9) r5, Ch.bx n0 b1 0 [(I most_3)] [] []] ++ [Ch.ro 0 (Sl alist_0 list_0 clist_0) list_0, Ch.ro 0 (Sl aat_2 at_2 cat_2) at_2]) from (H.sel' [0, 1, 2, 3] rfl rfl))) (wanted_none _ rfl _) ?_
  rintro _ σ16 ⟨_, ⟨a14, c15, rfl, rfl⟩, H, -⟩
  replace H : Hp S0 σ0 σ16 [Ch.own 0 n0 (Sl a14 r11 c15) r11, Ch.bx n0 b1 0 [(I most_3)] [] [], Ch.ro 0 (Sl alist_0 list_0 clist_0) list_0, Ch.ro 0 (Sl aat_2 at_2 cat_2) at_2] := H
  refine st (v := (Sl a14 r11 c15)) (rv_assign rfl) ?_
  refine w_end ?_
  refine q_then ?_
  refine c_ret ?_
  obtain rfl := Option.some.inj h
  exact fin_ret (v := (Sl a14 r11 c15)) (results_ok Try.results28 (res_tmp (v := (Sl a14 r11 c15)) rfl res_nil) rfl) ⟨a14, c15, rfl, rfl⟩ (H.sel' [0] rfl rfl)

theorem c_laws_FnInBoxOne {code_0 : List UInt8} {acode_0 : Option Addr} {ccode_0 : Nat} {r : Bool} (h : M.laws_FnInBoxOne code_0 = some r) :
    Cal2 Try.prog 5 [(Sl acode_0 code_0 ccode_0)] [Ch.ro 0 (Sl acode_0 code_0 ccode_0) code_0] (fun n0 v L => v = (B r) ∧ L = []) := by
 refine cal2 (n := 52) Try.func5 rfl rfl rfl rfl ?_
 intro S0 σ0 n0 hn0 H
 unfold M.laws_FnInBoxOne at h
 refine c_seq ?_
 refine rg ?_
 refine st (v := (B false)) (rv_assign rfl) ?_
 refine w_end ?_
 refine q_then ?_
 refine c_seq ?_
 refine c_seq ?_
 refine rg ?_
 refine st (v := (Sl acode_0 code_0 ccode_0)) (rv_move rfl) ?_
 refine st (v := (I (code_0.length : Int))) (rv_len Try.underlying22 rfl) ?_
 refine st (v := (B (decide (1048576 < (code_0.length : Int))))) (rv_gtr (a := (code_0.length : Int)) (b := 1048576) rfl rfl) ?_
 refine w_end ?_
 refine q_then ?_
 refine cd_cond (decide (1048576 < (code_0.length : Int))) rfl (fun hb1 => ?_) (fun hb1 => ?_)
 ·replace h := bif_t hb1 h
  refine c_seq ?_
  refine rg ?_
  refine st (v := (B true)) (rv_assign rfl) ?_
  refine w_end ?_
  refine q_then ?_
  refine c_ret ?_
  refine q_then_r ?_
  obtain rfl := Option.some.inj h
  exact fin_ret (v := (B true)) (results_ok Try.results5 (res_tmp (v := (B true)) rfl res_nil) rfl) ⟨rfl, rfl⟩ (H.sel' [] rfl rfl)
 ·replace h := bif_f hb1 h
  refine c_skip ?_
  refine q_then ?_
  refine c_seq ?_
  refine rg ?_
  refine st (v := (Sl acode_0 code_0 ccode_0)) (rv_move rfl) ?_
  obtain ⟨r2, hx3, h'⟩ := bind_some h
  clear h
  have h := h'; clear h'
  have hc4 := c_spec_DrawInBox (acode_0 := acode_0) (ccode_0 := ccode_0) hx3
  refine st_call (cx_call hc4 (ent_f hc4.fn rfl) hn0 (show Hp S0 σ0 _ ([Ch.ro 0 (Sl acode_0 code_0 ccode_0) code_0] ++ [Ch.ro 0 (Sl acode_0 code_0 ccode_0) code_0]) from (H.sel' [0, 0] rfl rfl))) (wanted_none _ rfl _) ?_
  rintro _ σ11 ⟨_, ⟨a5, c6, a7, c8, a9, c10, rfl, rfl⟩, H, -⟩
  replace H : Hp S0 σ0 σ11 [Ch.own n0 n0 (Sl a5 r2.1 c6) r2.1, Ch.own n0 n0 (Sl a7 r2.2.1 c8) r2.2.1, Ch.own n0 n0 (Sl a9 r2.2.2 c10) r2.2.2, Ch.ro 0 (Sl acode_0 code_0 ccode_0) code_0] := H
  refine st (v := (.tuple #[(Sl a5 r2.1 c6), (Sl a7 r2.2.1 c8), (Sl a9 r2.2.2 c10)])) (rv_move rfl) ?_
  refine st (v := (Sl a5 r2.1 c6)) (rv_extract rfl rfl) ?_
  refine st (v := (Sl a7 r2.2.1 c8)) (rv_extract rfl rfl) ?_
  refine st (v := (Sl a9 r2.2.2 c10)) (rv_extract rfl rfl) ?_
  refine st (v := (Sl a5 r2.1 c6)) (rv_assign rfl) ?_
  refine st (v := (Sl a7 r2.2.1 c8)) (rv_assign rfl) ?_
  refine st (v := (Sl a9 r2.2.2 c10)) (rv_assign rfl) ?_
  refine w_end ?_
  refine q_then ?_
  refine c_seq ?_
  refine rg ?_
  refine st (v := (Sl a5 r2.1 c6)) (rv_move rfl) ?_
  refine st (v := (Sl a7 r2.2.1 c8)) (rv_move rfl) ?_
  refine st (v := (Sl a9 r2.2.2 c10)) (rv_move rfl) ?_
  obtain ⟨r12, hx13, h'⟩ := bind_some h
  clear h
  have h := h'; clear h'
  have hc14 := c_impl_InBox (alist_0 := a5) (clist_0 := c6) (alow_1 := a7) (clow_1 := c8) (ahigh_2 := a9) (chigh_2 := c10) hx13
  have hle := Nat.le_trans hn0 H.size
  refine st_call (cx_lend (Loan.lend (Loan.lend (Loan.lend Loan.nil))) hc14 (ent_f hc14.fn rfl) (show Hp S0 σ0 _ ([Ch.own n0 n0 (Sl a5 r2.1 c6) r2.1, Ch.own n0 n0 (Sl a7 r2.2.1 c8) r2.2.1, Ch.own n0 n0 (Sl a9 r2.2.2 c10) r2.2.2] ++ ([] ++ [Ch.ro 0 (Sl acode_0 code_0 ccode_0) code_0])) from (H.sel' [0, 1, 2, 3] rfl rfl)) (by rintro _ _ _ ⟨_, _, rfl, rfl⟩; exact ⟨Ab.ownSc, trivial⟩)) (wanted_none _ rfl _) ?_
  rintro _ σ17 ⟨_, ⟨a15, c16, rfl, rfl⟩, H, -, -⟩
  replace H : Hp S0 σ0 σ17 [Ch.own σ11.size σ11.size (Sl a15 r12 c16) r12, Ch.own n0 n0 (Sl a5 r2.1 c6) r2.1, Ch.own n0 n0 (Sl a7 r2.2.1 c8) r2.2.1, Ch.own n0 n0 (Sl a9 r2.2.2 c10) r2.2.2, Ch.ro 0 (Sl acode_0 code_0 ccode_0) code_0] := H
  replace H := H.ownLow 0 n0 n0 rfl hle hle
  clear hle
  replace H : Hp S0 σ0 σ17 [Ch.own n0 n0 (Sl a15 r12 c16) r12, Ch.own n0 n0 (Sl a5 r2.1 c6) r2.1, Ch.own n0 n0 (Sl a7 r2.2.1 c8) r2.2.1, Ch.own n0 n0 (Sl a9 r2.2.2 c10) r2.2.2, Ch.ro 0 (Sl acode_0 code_0 ccode_0) code_0] := H
  refine st (v := (Sl a15 r12 c16)) (rv_assign rfl) ?_
  refine w_end ?_
  refine q_then ?_
  refine c_seq ?_
  refine c_seq ?_
  obtain ⟨o18, hj, h'⟩ := bind_some h
  clear h
  refine c_cut (fun e a w => e = .normal ∧ ∃ (ρ : Nat → Value) (σ : St), a = fr 52 (updL ρ [(3, (Sl a5 r2.1 c6)), (4, (Sl a7 r2.2.1 c8)), (5, (Sl a9 r2.2.2 c10)), (6, (Sl a15 r12 c16)), (36, (B o18))]) ∧ w = σ.w ∧ Hp S0 σ0 σ [Ch.own n0 n0 (Sl a5 r2.1 c6) r2.1, Ch.own n0 n0 (Sl a7 r2.2.1 c8) r2.2.1, Ch.own n0 n0 (Sl a9 r2.2.2 c10) r2.2.2, Ch.own n0 n0 (Sl a15 r12 c16) r12]) ?_ ?_
  ·clear h'
   rename _ = some o18 => h
   refine rg ?_
   refine st (v := (Sl a15 r12 c16)) (rv_move rfl) ?_
   refine st (v := (Sl a5 r2.1 c6)) (rv_move rfl) ?_
   refine st (v := (Sl a7 r2.2.1 c8)) (rv_move rfl) ?_
   refine st (v := (Sl a9 r2.2.2 c10)) (rv_move rfl) ?_
   obtain ⟨r19, hx20, h'⟩ := bind_some h
   clear h
   have h := h'; clear h'
   have hc21 := c_spec_InBox (alist_0 := a5) (clist_0 := c6) (alow_1 := a7) (clow_1 := c8) (ahigh_2 := a9) (chigh_2 := c10) hx20
   have hle := Nat.le_trans hn0 H.size
   refine st_call (cx_lend (Loan.lend (Loan.lend (Loan.lend Loan.nil))) hc21 (ent_f hc21.fn rfl) (show Hp S0 σ0 _ ([Ch.own n0 n0 (Sl a5 r2.1 c6) r2.1, Ch.own n0 n0 (Sl a7 r2.2.1 c8) r2.2.1, Ch.own n0 n0 (Sl a9 r2.2.2 c10) r2.2.2] ++ ([] ++ [Ch.own n0 n0 (Sl a15 r12 c16) r12, Ch.ro 0 (Sl acode_0 code_0 ccode_0) code_0])) from (H.sel' [1, 2, 3, 0, 4] rfl rfl)) (by rintro _ _ _ ⟨_, _, rfl, rfl⟩; exact ⟨Ab.ownSc, trivial⟩)) (wanted_none _ rfl _) ?_
   rintro _ σ24 ⟨_, ⟨a22, c23, rfl, rfl⟩, H, -, -⟩
   replace H : Hp S0 σ0 σ24 [Ch.own σ17.size σ17.size (Sl a22 r19 c23) r19, Ch.own n0 n0 (Sl a5 r2.1 c6) r2.1, Ch.own n0 n0 (Sl a7 r2.2.1 c8) r2.2.1, Ch.own n0 n0 (Sl a9 r2.2.2 c10) r2.2.2, Ch.own n0 n0 (Sl a15 r12 c16) r12, Ch.ro 0 (Sl acode_0 code_0 ccode_0) code_0] := H
   replace H := H.ownLow 0 n0 n0 rfl hle hle
   clear hle
   replace H : Hp S0 σ0 σ24 [Ch.own n0 n0 (Sl a22 r19 c23) r19, Ch.own n0 n0 (Sl a5 r2.1 c6) r2.1, Ch.own n0 n0 (Sl a7 r2.2.1 c8) r2.2.1, Ch.own n0 n0 (Sl a9 r2.2.2 c10) r2.2.2, Ch.own n0 n0 (Sl a15 r12 c16) r12, Ch.ro 0 (Sl acode_0 code_0 ccode_0) code_0] := H
   obtain ⟨σ25, hw26, H, -⟩ := H.pub 0 rfl (Nat.le_refl _)
   rw [← hw26]; clear hw26
   replace H := H.roLow 0 0 rfl (Nat.zero_le _)
   obtain ⟨r27, hx28, h'⟩ := bind_some h
   clear h
   have h := h'; clear h'
   have hc29 := c_laws_equalInts (aa_0 := a15) (ca_0 := c16) (ab_1 := a22) (cb_1 := c23) hx28
   have hle := Nat.le_trans hn0 H.size
   refine st_call (cx_lend (Loan.lend (Loan.same Loan.nil)) hc29 (ent_f hc29.fn rfl) (show Hp S0 σ0 _ ([Ch.own n0 n0 (Sl a15 r12 c16) r12] ++ ([Ch.ro 0 (Sl a22 r19 c23) r19] ++ [Ch.ro 0 (Sl a22 r19 c23) r19, Ch.ro n0 (Sl a22 r19 c23) r19, Ch.own n0 n0 (Sl a5 r2.1 c6) r2.1, Ch.own n0 n0 (Sl a7 r2.2.1 c8) r2.2.1, Ch.own n0 n0 (Sl a9 r2.2.2 c10) r2.2.2, Ch.ro 0 (Sl acode_0 code_0 ccode_0) code_0])) from (H.sel' [5, 0, 0, 1, 2, 3, 4, 6] rfl rfl)) (by rintro _ _ _ ⟨rfl, rfl⟩; exact trivial)) (wanted_none _ rfl _) ?_
   rintro _ σ30 ⟨_, ⟨rfl, rfl⟩, H, -, -⟩
   replace H : Hp S0 σ0 σ30 [Ch.own n0 n0 (Sl a15 r12 c16) r12, Ch.ro 0 (Sl a22 r19 c23) r19, Ch.ro n0 (Sl a22 r19 c23) r19, Ch.own n0 n0 (Sl a5 r2.1 c6) r2.1, Ch.own n0 n0 (Sl a7 r2.2.1 c8) r2.2.1, Ch.own n0 n0 (Sl a9 r2.2.2 c10) r2.2.2, Ch.ro 0 (Sl acode_0 code_0 ccode_0) code_0] := H
   clear hle
   replace H : Hp S0 σ0 σ30 [Ch.own n0 n0 (Sl a15 r12 c16) r12, Ch.ro 0 (Sl a22 r19 c23) r19, Ch.ro n0 (Sl a22 r19 c23) r19, Ch.own n0 n0 (Sl a5 r2.1 c6) r2.1, Ch.own n0 n0 (Sl a7 r2.2.1 c8) r2.2.1, Ch.own n0 n0 (Sl a9 r2.2.2 c10) r2.2.2, Ch.ro 0 (Sl acode_0 code_0 ccode_0) code_0] := H
   refine st (v := (B (!r27))) (rv_not rfl) ?_
   refine st (v := (B (!r27))) (rv_move rfl) ?_
   rcases Bool.eq_false_or_eq_true (!r27) with hb31 | hb31
   ·replace h := bif_t hb31 h
    refine st_skip (congrArg some hb31) ?_
    refine st_skip (congrArg some hb31) ?_
    refine st_skip (congrArg some hb31) ?_
    refine st (v := (B true)) (rv_pick_t (congrArg B hb31) rfl) ?_
    refine st (v := (B true)) (rv_move rfl) ?_
    refine st_skip rfl ?_
    refine st_skip rfl ?_
    refine st_skip rfl ?_
    refine st (v := (B true)) (rv_pick_t rfl rfl) ?_
    refine w_end ?_
    obtain rfl := Option.some.inj h
    exact ⟨rfl, _, σ30, fr_join ⟨rfl, rfl, rfl, rfl, rfl, trivial⟩, rfl, H.sel' [3, 4, 5, 0] rfl rfl⟩
   ·replace h := bif_f hb31 h
    refine st_g (v := (Sl a5 r2.1 c6)) (congrArg some hb31) (rv_move rfl) ?_
    obtain ⟨r32, hx33, h'⟩ := bind_some h
    clear h
    have h := h'; clear h'
    have hc34 := c_impl_ValidStore (alist_0 := a5) (clist_0 := c6) hx33
    have hle := Nat.le_trans hn0 H.size
    refine st_call (cx_lend (Loan.lend Loan.nil) hc34 (ent_f hc34.fn rfl) (show Hp S0 σ0 _ ([Ch.own n0 n0 (Sl a5 r2.1 c6) r2.1] ++ ([] ++ [Ch.own n0 n0 (Sl a15 r12 c16) r12, Ch.ro 0 (Sl a22 r19 c23) r19, Ch.ro n0 (Sl a22 r19 c23) r19, Ch.own n0 n0 (Sl a7 r2.2.1 c8) r2.2.1, Ch.own n0 n0 (Sl a9 r2.2.2 c10) r2.2.2, Ch.ro 0 (Sl acode_0 code_0 ccode_0) code_0])) from (H.sel' [3, 0, 1, 2, 4, 5, 6] rfl rfl)) (by rintro _ _ _ ⟨rfl, rfl⟩; exact trivial)) (wanted_yes rfl (by exact (congrArg some hb31))) ?_
    rintro _ σ35 ⟨_, ⟨rfl, rfl⟩, H, -, -⟩
    replace H : Hp S0 σ0 σ35 [Ch.own n0 n0 (Sl a5 r2.1 c6) r2.1, Ch.own n0 n0 (Sl a15 r12 c16) r12, Ch.ro 0 (Sl a22 r19 c23) r19, Ch.ro n0 (Sl a22 r19 c23) r19, Ch.own n0 n0 (Sl a7 r2.2.1 c8) r2.2.1, Ch.own n0 n0 (Sl a9 r2.2.2 c10) r2.2.2, Ch.ro 0 (Sl acode_0 code_0 ccode_0) code_0] := H
    clear hle
    replace H : Hp S0 σ0 σ35 [Ch.own n0 n0 (Sl a5 r2.1 c6) r2.1, Ch.own n0 n0 (Sl a15 r12 c16) r12, Ch.ro 0 (Sl a22 r19 c23) r19, Ch.ro n0 (Sl a22 r19 c23) r19, Ch.own n0 n0 (Sl a7 r2.2.1 c8) r2.2.1, Ch.own n0 n0 (Sl a9 r2.2.2 c10) r2.2.2, Ch.ro 0 (Sl acode_0 code_0 ccode_0) code_0] := H
    refine st_g (v := (B (!r32))) (congrArg some hb31) (rv_not rfl) ?_
    refine st (v := (B (!r32))) (rv_pick_f (congrArg B hb31) rfl) ?_
    refine st (v := (B (!r32))) (rv_move rfl) ?_
    rcases Bool.eq_false_or_eq_true (!r32) with hb36 | hb36
    ·replace h := bif_t hb36 h
     refine st_skip (congrArg some hb36) ?_
     refine st_skip (congrArg some hb36) ?_
     refine st_skip (congrArg some hb36) ?_
     refine st (v := (B true)) (rv_pick_t (congrArg B hb36) rfl) ?_
     refine w_end ?_
     obtain rfl := Option.some.inj h
     exact ⟨rfl, _, σ35, fr_join ⟨rfl, rfl, rfl, rfl, rfl, trivial⟩, rfl, H.sel' [0, 4, 5, 1] rfl rfl⟩
    ·replace h := bif_f hb36 h
     refine st_g (v := (Sl a7 r2.2.1 c8)) (congrArg some hb36) (rv_move rfl) ?_
     obtain ⟨r37, hx38, h'⟩ := bind_some h
     clear h
     have h := h'; clear h'
     have hc39 := c_impl_ValidVector (av_0 := a7) (cv_0 := c8) hx38
     have hle := Nat.le_trans hn0 H.size
     refine st_call (cx_lend (Loan.lend Loan.nil) hc39 (ent_f hc39.fn rfl) (show Hp S0 σ0 _ ([Ch.own n0 n0 (Sl a7 r2.2.1 c8) r2.2.1] ++ ([] ++ [Ch.own n0 n0 (Sl a5 r2.1 c6) r2.1, Ch.own n0 n0 (Sl a15 r12 c16) r12, Ch.ro 0 (Sl a22 r19 c23) r19, Ch.ro n0 (Sl a22 r19 c23) r19, Ch.own n0 n0 (Sl a9 r2.2.2 c10) r2.2.2, Ch.ro 0 (Sl acode_0 code_0 ccode_0) code_0])) from (H.sel' [4, 0, 1, 2, 3, 5, 6] rfl rfl)) (by rintro _ _ _ ⟨rfl, rfl⟩; exact trivial)) (wanted_yes rfl (by exact (congrArg some hb36))) ?_
     rintro _ σ40 ⟨_, ⟨rfl, rfl⟩, H, -, -⟩
     replace H : Hp S0 σ0 σ40 [Ch.own n0 n0 (Sl a7 r2.2.1 c8) r2.2.1, Ch.own n0 n0 (Sl a5 r2.1 c6) r2.1, Ch.own n0 n0 (Sl a15 r12 c16) r12, Ch.ro 0 (Sl a22 r19 c23) r19, Ch.ro n0 (Sl a22 r19 c23) r19, Ch.own n0 n0 (Sl a9 r2.2.2 c10) r2.2.2, Ch.ro 0 (Sl acode_0 code_0 ccode_0) code_0] := H
     clear hle
     replace H : Hp S0 σ0 σ40 [Ch.own n0 n0 (Sl a7 r2.2.1 c8) r2.2.1, Ch.own n0 n0 (Sl a5 r2.1 c6) r2.1, Ch.own n0 n0 (Sl a15 r12 c16) r12, Ch.ro 0 (Sl a22 r19 c23) r19, Ch.ro n0 (Sl a22 r19 c23) r19, Ch.own n0 n0 (Sl a9 r2.2.2 c10) r2.2.2, Ch.ro 0 (Sl acode_0 code_0 ccode_0) code_0] := H
     refine st_g (v := (B (!r37))) (congrArg some hb36) (rv_not rfl) ?_
     refine st (v := (B (!r37))) (rv_pick_f (congrArg B hb36) rfl) ?_
     refine w_end ?_
     obtain rfl := Option.some.inj h
     exact ⟨rfl, _, σ40, fr_join ⟨rfl, rfl, rfl, rfl, rfl, trivial⟩, rfl, H.sel' [1, 0, 5, 2] rfl rfl⟩
  ·clear hj
   have h := h'
   clear h' H
   rintro e a w ⟨rfl, ρ, σ41, rfl, rfl, H⟩
   refine q_then ?_
   refine cd_cond o18 rfl (fun hb42 => ?_) (fun hb42 => ?_)
   ·replace h := bif_t hb42 h
    refine c_seq ?_
    refine rg ?_
    refine st (v := (Sl a15 r12 c16)) (rv_move rfl) ?_
    refine st (v := (Sl a5 r2.1 c6)) (rv_move rfl) ?_
    refine st (v := (Sl a7 r2.2.1 c8)) (rv_move rfl) ?_
    refine st (v := (Sl a9 r2.2.2 c10)) (rv_move rfl) ?_
    obtain ⟨σ43, hw44, H, -⟩ := H.pub 0 rfl (Nat.le_refl _)
    rw [← hw44]; clear hw44
    obtain ⟨σ45, hw46, H, -⟩ := H.pub 1 rfl (Nat.le_refl _)
    rw [← hw46]; clear hw46
    obtain ⟨σ47, hw48, H, -⟩ := H.pub 2 rfl (Nat.le_refl _)
    rw [← hw48]; clear hw48
    replace H := H.roLow 2 0 rfl (Nat.zero_le _)
    replace H := H.roLow 2 0 rfl (Nat.zero_le _)
    replace H := H.roLow 2 0 rfl (Nat.zero_le _)
    obtain ⟨r49, hx50, h'⟩ := bind_some h
    clear h
    have h := h'; clear h'
    have hc51 := c_spec_InBox (alist_0 := a5) (clist_0 := c6) (alow_1 := a7) (clow_1 := c8) (ahigh_2 := a9) (chigh_2 := c10) hx50
    refine st_call (cx_call hc51 (ent_f hc51.fn rfl) hn0 (show Hp S0 σ0 _ ([Ch.ro 0 (Sl a5 r2.1 c6) r2.1, Ch.ro 0 (Sl a7 r2.2.1 c8) r2.2.1, Ch.ro 0 (Sl a9 r2.2.2 c10) r2.2.2] ++ [Ch.ro 0 (Sl a9 r2.2.2 c10) r2.2.2, Ch.ro 0 (Sl a7 r2.2.1 c8) r2.2.1, Ch.ro 0 (Sl a5 r2.1 c6) r2.1, Ch.ro n0 (Sl a9 r2.2.2 c10) r2.2.2, Ch.ro n0 (Sl a7 r2.2.1 c8) r2.2.1, Ch.ro n0 (Sl a5 r2.1 c6) r2.1, Ch.own n0 n0 (Sl a15 r12 c16) r12]) from (H.sel' [2, 1, 0, 0, 1, 2, 3, 4, 5, 6] rfl rfl))) (wanted_none _ rfl _) ?_
    rintro _ σ54 ⟨_, ⟨a52, c53, rfl, rfl⟩, H, -⟩
    replace H : Hp S0 σ0 σ54 [Ch.own n0 n0 (Sl a52 r49 c53) r49, Ch.ro 0 (Sl a9 r2.2.2 c10) r2.2.2, Ch.ro 0 (Sl a7 r2.2.1 c8) r2.2.1, Ch.ro 0 (Sl a5 r2.1 c6) r2.1, Ch.ro n0 (Sl a9 r2.2.2 c10) r2.2.2, Ch.ro n0 (Sl a7 r2.2.1 c8) r2.2.1, Ch.ro n0 (Sl a5 r2.1 c6) r2.1, Ch.own n0 n0 (Sl a15 r12 c16) r12] := H
    replace H : Hp S0 σ0 σ54 [Ch.own n0 n0 (Sl a52 r49 c53) r49, Ch.own n0 n0 (Sl a15 r12 c16) r12] := H.sel' [0, 7] rfl rfl
    obtain ⟨σ55, hw56, H, -⟩ := H.pub 1 rfl (Nat.le_refl _)
    rw [← hw56]; clear hw56
    obtain ⟨σ57, hw58, H, -⟩ := H.pub 1 rfl (Nat.le_refl _)
    rw [← hw58]; clear hw58
    replace H := H.roLow 1 0 rfl (Nat.zero_le _)
    replace H := H.roLow 1 0 rfl (Nat.zero_le _)
    obtain ⟨r59, hx60, h'⟩ := bind_some h
    clear h
    have h := h'; clear h'
    have hc61 := c_laws_equalInts (aa_0 := a15) (ca_0 := c16) (ab_1 := a52) (cb_1 := c53) hx60
    refine st_call (cx_call hc61 (ent_f hc61.fn rfl) hn0 (show Hp S0 σ0 _ ([Ch.ro 0 (Sl a15 r12 c16) r12, Ch.ro 0 (Sl a52 r49 c53) r49] ++ [Ch.ro 0 (Sl a52 r49 c53) r49, Ch.ro 0 (Sl a15 r12 c16) r12, Ch.ro n0 (Sl a52 r49 c53) r49, Ch.ro n0 (Sl a15 r12 c16) r12]) from (H.sel' [1, 0, 0, 1, 2, 3] rfl rfl))) (wanted_none _ rfl _) ?_
    rintro _ σ62 ⟨_, ⟨rfl, rfl⟩, H, -⟩
    replace H : Hp S0 σ0 σ62 [Ch.ro 0 (Sl a52 r49 c53) r49, Ch.ro 0 (Sl a15 r12 c16) r12, Ch.ro n0 (Sl a52 r49 c53) r49, Ch.ro n0 (Sl a15 r12 c16) r12] := H
    refine st (v := (B r59)) (rv_assign rfl) ?_
    refine w_end ?_
    refine q_then ?_
    refine c_ret ?_
    refine q_then_r ?_
    obtain rfl := Option.some.inj h
    exact fin_ret (v := (B r59)) (results_ok Try.results5 (res_tmp (v := (B r59)) rfl res_nil) rfl) ⟨rfl, rfl⟩ (H.sel' [] rfl rfl)
   ·replace h := bif_f hb42 h
    refine c_skip ?_
    refine q_then ?_
    refine c_seq ?_
    refine rg ?_
    refine st (v := (Sl a5 r2.1 c6)) (rv_move rfl) ?_
    refine st (v := (Sl a7 r2.2.1 c8)) (rv_move rfl) ?_
    refine st (v := (Sl a7 r2.2.1 c8)) (rv_move rfl) ?_
    obtain ⟨r63, hx64, h'⟩ := bind_some h
    clear h
    have h := h'; clear h'
    have hc65 := c_impl_InBox (alist_0 := a5) (clist_0 := c6) (alow_1 := a7) (clow_1 := c8) (ahigh_2 := a7) (chigh_2 := c8) hx64
    have hle := Nat.le_trans hn0 H.size
    refine st_call (cx_lend (Loan.lend (Loan.again (k := 0) (Loan.lend Loan.nil) rfl)) hc65 (ent_f hc65.fn rfl) (show Hp S0 σ0 _ ([Ch.own n0 n0 (Sl a5 r2.1 c6) r2.1, Ch.own n0 n0 (Sl a7 r2.2.1 c8) r2.2.1] ++ ([] ++ [Ch.own n0 n0 (Sl a9 r2.2.2 c10) r2.2.2, Ch.own n0 n0 (Sl a15 r12 c16) r12])) from (H.sel' [0, 1, 2, 3] rfl rfl)) (by rintro _ _ _ ⟨_, _, rfl, rfl⟩; exact ⟨Ab.ownSc, trivial⟩)) (wanted_none _ rfl _) ?_
    rintro _ σ68 ⟨_, ⟨a66, c67, rfl, rfl⟩, H, -, -⟩
    replace H : Hp S0 σ0 σ68 [Ch.own σ41.size σ41.size (Sl a66 r63 c67) r63, Ch.own n0 n0 (Sl a5 r2.1 c6) r2.1, Ch.own n0 n0 (Sl a7 r2.2.1 c8) r2.2.1, Ch.own n0 n0 (Sl a9 r2.2.2 c10) r2.2.2, Ch.own n0 n0 (Sl a15 r12 c16) r12] := H
    replace H := H.ownLow 0 n0 n0 rfl hle hle
    clear hle
    replace H : Hp S0 σ0 σ68 [Ch.own n0 n0 (Sl a66 r63 c67) r63, Ch.own n0 n0 (Sl a5 r2.1 c6) r2.1, Ch.own n0 n0 (Sl a7 r2.2.1 c8) r2.2.1, Ch.own n0 n0 (Sl a9 r2.2.2 c10) r2.2.2, Ch.own n0 n0 (Sl a15 r12 c16) r12] := H
    refine st (v := (Sl a5 r2.1 c6)) (rv_move rfl) ?_
    refine st (v := (Sl a7 r2.2.1 c8)) (rv_move rfl) ?_
    obtain ⟨σ69, hw70, H, -⟩ := H.pub 1 rfl (Nat.le_refl _)
    rw [← hw70]; clear hw70
    obtain ⟨σ71, hw72, H, -⟩ := H.pub 2 rfl (Nat.le_refl _)
    rw [← hw72]; clear hw72
    replace H := H.roLow 1 0 rfl (Nat.zero_le _)
    replace H := H.roLow 1 0 rfl (Nat.zero_le _)
    obtain ⟨r73, hx74, h'⟩ := bind_some h
    clear h
    have h := h'; clear h'
    have hc75 := c_impl_WithinDist (alist_0 := a5) (clist_0 := c6) (aat_2 := a7) (cat_2 := c8) hx74
    refine st_call (cx_call hc75 (ent_f hc75.fn rfl) hn0 (show Hp S0 σ0 _ ([Ch.ro 0 (Sl a5 r2.1 c6) r2.1, Ch.ro 0 (Sl a7 r2.2.1 c8) r2.2.1] ++ [Ch.ro 0 (Sl a7 r2.2.1 c8) r2.2.1, Ch.ro 0 (Sl a5 r2.1 c6) r2.1, Ch.ro n0 (Sl a7 r2.2.1 c8) r2.2.1, Ch.ro n0 (Sl a5 r2.1 c6) r2.1, Ch.own n0 n0 (Sl a66 r63 c67) r63, Ch.own n0 n0 (Sl a9 r2.2.2 c10) r2.2.2, Ch.own n0 n0 (Sl a15 r12 c16) r12]) from (H.sel' [1, 0, 0, 1, 2, 3, 4, 5, 6] rfl rfl))) (wanted_none _ rfl _) ?_
    rintro _ σ78 ⟨_, ⟨a76, c77, rfl, rfl⟩, H, -⟩
    replace H : Hp S0 σ0 σ78 [Ch.own 0 n0 (Sl a76 r73 c77) r73, Ch.ro 0 (Sl a7 r2.2.1 c8) r2.2.1, Ch.ro 0 (Sl a5 r2.1 c6) r2.1, Ch.ro n0 (Sl a7 r2.2.1 c8) r2.2.1, Ch.ro n0 (Sl a5 r2.1 c6) r2.1, Ch.own n0 n0 (Sl a66 r63 c67) r63, Ch.own n0 n0 (Sl a9 r2.2.2 c10) r2.2.2, Ch.own n0 n0 (Sl a15 r12 c16) r12] := H
    replace H : Hp S0 σ0 σ78 [Ch.own 0 n0 (Sl a76 r73 c77) r73, Ch.own n0 n0 (Sl a66 r63 c67) r63] := H.sel' [0, 5] rfl rfl
    replace H := H.ownLow 0 0 0 rfl (Nat.le_refl _) (Nat.zero_le _)
    obtain ⟨σ79, hw80, H, -⟩ := H.pub 0 rfl (Nat.le_refl _)
    rw [← hw80]; clear hw80
    obtain ⟨r81, hx82, h'⟩ := bind_some h
    clear h
    have h := h'; clear h'
    have hc83 := c_laws_keys (alist_0 := a76) (clist_0 := c77) hx82
    refine st_call (cx_call hc83 (ent_f hc83.fn rfl) hn0 (show Hp S0 σ0 _ ([Ch.ro 0 (Sl a76 r73 c77) r73] ++ [Ch.ro 0 (Sl a76 r73 c77) r73, Ch.own n0 n0 (Sl a66 r63 c67) r63]) from (H.sel' [0, 0, 1] rfl rfl))) (wanted_none _ rfl _) ?_
    rintro _ σ86 ⟨_, ⟨a84, c85, rfl, rfl⟩, H, -⟩
    replace H : Hp S0 σ0 σ86 [Ch.own n0 n0 (Sl a84 r81 c85) r81, Ch.ro 0 (Sl a76 r73 c77) r73, Ch.own n0 n0 (Sl a66 r63 c67) r63] := H
    obtain ⟨σ87, hw88, H, -⟩ := H.pub 2 rfl (Nat.le_refl _)
    rw [← hw88]; clear hw88
    obtain ⟨σ89, hw90, H, -⟩ := H.pub 1 rfl (Nat.le_refl _)
    rw [← hw90]; clear hw90
    replace H := H.roLow 1 0 rfl (Nat.zero_le _)
    replace H := H.roLow 1 0 rfl (Nat.zero_le _)
    obtain ⟨r91, hx92, h'⟩ := bind_some h
    clear h
    have h := h'; clear h'
    have hc93 := c_laws_equalInts (aa_0 := a66) (ca_0 := c67) (ab_1 := a84) (cb_1 := c85) hx92
    refine st_call (cx_call hc93 (ent_f hc93.fn rfl) hn0 (show Hp S0 σ0 _ ([Ch.ro 0 (Sl a66 r63 c67) r63, Ch.ro 0 (Sl a84 r81 c85) r81] ++ [Ch.ro 0 (Sl a84 r81 c85) r81, Ch.ro 0 (Sl a66 r63 c67) r63, Ch.ro n0 (Sl a84 r81 c85) r81, Ch.ro n0 (Sl a66 r63 c67) r63, Ch.ro 0 (Sl a76 r73 c77) r73]) from (H.sel' [1, 0, 0, 1, 2, 3, 4] rfl rfl))) (wanted_none _ rfl _) ?_
    rintro _ σ94 ⟨_, ⟨rfl, rfl⟩, H, -⟩
    replace H : Hp S0 σ0 σ94 [Ch.ro 0 (Sl a84 r81 c85) r81, Ch.ro 0 (Sl a66 r63 c67) r63, Ch.ro n0 (Sl a84 r81 c85) r81, Ch.ro n0 (Sl a66 r63 c67) r63, Ch.ro 0 (Sl a76 r73 c77) r73] := H
    refine st (v := (B r91)) (rv_assign rfl) ?_
    refine w_end ?_
    refine q_then ?_
    refine c_ret ?_
    obtain rfl := Option.some.inj h
    exact fin_ret (v := (B r91)) (results_ok Try.results5 (res_tmp (v := (B r91)) rfl res_nil) rfl) ⟨rfl, rfl⟩ (H.sel' [] rfl rfl)

end Go.Vs
