/- The functions compute what their models say. -/
import Derived.Test.YtifddljigkhfgaaKClosestPairNearestC6
set_option linter.unusedVariables false
set_option linter.unusedSimpArgs false
set_option maxRecDepth 20000
namespace Go.Vs
open Go Go.Proofs
attribute [local irreducible] Code.wp Code.wpIn wpList wpListIn wpQuiet Calls CallsIn

theorem c_impl_copyItems {list_0 : List (Int × (List Int) × Int)} {alist_0 : Option Addr} {clist_0 : Nat} {r : (List (Int × (List Int) × Int))} (h : M.impl_copyItems list_0 = some r) :
    Cal2 Try.prog 67 [(Sl alist_0 list_0 clist_0)] [Ch.ro 0 (Sl alist_0 list_0 clist_0) list_0] (fun n0 v L => ∃ (az1 : Option Addr), ∃ (cz2 : Nat), v = (Sl az1 r cz2) ∧ L = [Ch.own n0 n0 (Sl az1 r cz2) r] ∧ cz2 = r.length) := by
 refine cal2 (n := 23) Try.func67 rfl rfl rfl rfl ?_
 intro S0 σ0 n0 hn0 H
 unfold M.impl_copyItems at h
 refine c_seq ?_
 refine rg ?_
 refine st (v := (.slice none 0 0)) (rv_assign rfl) ?_
 refine w_end ?_
 refine q_then ?_
 refine c_seq ?_
 refine rg ?_
 refine st (v := (Sl alist_0 list_0 clist_0)) (rv_move rfl) ?_
 refine st (v := (I (list_0.length : Int))) (rv_len Try.underlying23 rfl) ?_
 obtain ⟨xs1, hx2, h'⟩ := bind_some h
 clear h
 have h := h'; clear h'
 refine st_ex (ex_make (el := n0) (z0 := ((0, [], 0) : Int × (List Int) × Int)) (zs := [(I 0), (.slice none 0 0), (I 0)]) H hn0 Try.underlying23 ti31 rfl rfl (⟨[(I 0)], [(.slice none 0 0), (I 0)], rfl, rfl, ⟨[(.slice none 0 0)], [(I 0)], rfl, ⟨_, rfl, RS.nil⟩, rfl⟩⟩) (by decide) hx2 rfl rfl) (wanted_none _ rfl _) ?_
 rintro _ σ6 ⟨b3, c4, rfl, ht5, H, -⟩
 replace ht5 := ht5.trans (gmake_len hx2).symm
 refine st (v := (Sl (some ⟨b3, 0, none⟩) xs1 c4)) (rv_assign rfl) ?_
 refine w_end ?_
 refine q_then ?_
 refine c_seq ?_
 refine c_seq ?_
 refine rg ?_
 refine st (v := (Sl alist_0 list_0 clist_0)) (rv_move rfl) ?_
 refine st (v := (I (list_0.length : Int))) (rv_len Try.underlying23 rfl) ?_
 refine st (v := (I 0)) (rv_move rfl) ?_
 refine w_end ?_
 refine q_then ?_
 obtain ⟨o7, hj, h'⟩ := bind_some h
 clear h
 refine c_cut (fun e a w => e = .normal ∧ ∃ (ρ : Nat → Value) (σ : St), a = fr 23 (updL ρ [(3, (Sl (some ⟨b3, 0, none⟩) o7 c4))]) ∧ w = σ.w ∧ Hp S0 σ0 σ [Ch.own n0 n0 (Sl (some ⟨b3, 0, none⟩) o7 c4) o7] ∧ c4 = o7.length ∧ o7.length = xs1.length) ?_ ?_
 ·clear h'
  rename _ = some o7 => h
  refine c_blk ?_
  refine wp_loopM _ h (fun s8 a w => ∃ (ρ : Nat → Value) (σ : St), a = fr 23 (updL ρ [(3, (Sl (some ⟨b3, 0, none⟩) s8.1 c4)), (9, (Sl alist_0 list_0 clist_0)), (10, (I (list_0.length : Int))), (11, (I s8.2))]) ∧ w = σ.w ∧ Hp S0 σ0 σ [Ch.own n0 n0 (Sl (some ⟨b3, 0, none⟩) s8.1 c4) s8.1, Ch.ro 0 (Sl alist_0 list_0 clist_0) list_0] ∧ c4 = s8.1.length ∧ s8.1.length = xs1.length) ⟨_, σ6, fr_join ⟨rfl, rfl, rfl, rfl, trivial⟩, rfl, H.sel' [0, 1] rfl rfl, ht5, rfl⟩ ?_
  clear h H
  rintro s8 a w o ⟨ρ, σ9, rfl, rfl, H, ht10, hn11⟩ h hres
  refine c_seq ?_
  refine rg ?_
  refine st (v := (B (decide (s8.2 < (list_0.length : Int))))) (rv_lss (a := s8.2) (b := (list_0.length : Int)) rfl rfl) ?_
  refine w_end ?_
  refine q_then ?_
  refine c_seq ?_
  refine cd_cond (decide (s8.2 < (list_0.length : Int))) rfl (fun hb12 => ?_) (fun hb12 => ?_)
  ·replace h := bif_t hb12 h
   refine c_skip ?_
   refine q_then ?_
   refine c_seq ?_
   refine c_blk ?_
   refine c_seq ?_
   refine rg ?_
   refine st (v := (I s8.2)) (rv_move rfl) ?_
   obtain ⟨x13, hx14, h'⟩ := bind_some h
   clear h
   have h := h'; clear h'
   obtain ⟨b16, o17, hi15, -⟩ := (H.ro 1 rfl).ix hx14
   refine st (v := (pt b16 o17)) (rv_ix Try.underlying23 ti31 rfl rfl hi15) ?_
   obtain ⟨_, ⟨_, _, rfl, rfl, ⟨_, _, rfl, ⟨_, rfl, hR22⟩, rfl⟩⟩, hl18, hc19⟩ := ((H.ro 1 rfl).at hx14 hi15).cells
   obtain ⟨a20, c21, rfl⟩ := hR22.isSl
   replace H := H.add (d := Ch.ro 0 (Sl a20 x13.2.1 c21) x13.2.1) hR22 (fun _ h => h)
   clear hR22
   refine st (v := (.agg #[(I x13.1), (Sl a20 x13.2.1 c21), (I x13.2.2)])) (rv_load Try.underlying31 rfl ti31 rfl hl18 hc19) ?_
   refine st_ex (ex_alloc (cs := [(I 0), (.slice none 0 0), (I 0)]) H hn0 ti31 rfl) (wanted_none _ rfl _) ?_
   rintro _ σ24 ⟨b23, rfl, H, -⟩
   refine st (v := (I s8.2)) (rv_assign rfl) ?_
   refine st_exS (ex_store_box (k := 0) (cs := [(I 0), (.slice none 0 0), (I 0)]) (vs := [(I x13.1), (Sl a20 x13.2.1 c21), (I x13.2.2)]) (cs' := [(I x13.1), (Sl a20 x13.2.1 c21), (I x13.2.2)]) H (i := 0) rfl ti31 rfl rfl rfl rfl rfl (Nat.le_of_ble_eq_true rfl) (by simp [plain]) rfl) (wanted_none _ rfl _) ?_
   rintro σ25 ⟨H, -⟩
   refine w_end ?_
   refine q_then ?_
   refine rg ?_
   refine st (v := (Sl (some ⟨b3, 0, none⟩) s8.1 c4)) (rv_move rfl) ?_
   refine st (v := (I s8.2)) (rv_move rfl) ?_
   have hc26 := H.cells 0 rfl
   refine st (v := (.agg #[(I x13.1), (Sl a20 x13.2.1 c21), (I x13.2.2)])) (rv_load (cs := [(I x13.1), (Sl a20 x13.2.1 c21), (I x13.2.2)]) Try.underlying31 rfl ti31 rfl rfl hc26) ?_
   obtain ⟨r27, hx28, h'⟩ := bind_some h
   clear h
   have h := h'; clear h'
   have hc29 := c_impl_copyItem (ax_0_1 := a20) (cx_0_1 := c21) hx28
   refine st_call (cx_call hc29 (ent_f hc29.fn rfl) hn0 (show Hp S0 σ0 _ ([Ch.ro 0 (Sl a20 x13.2.1 c21) x13.2.1] ++ [Ch.bx n0 b23 0 [(I x13.1), (Sl a20 x13.2.1 c21), (I x13.2.2)] [] [], Ch.ro 0 (Sl a20 x13.2.1 c21) x13.2.1, Ch.own n0 n0 (Sl (some ⟨b3, 0, none⟩) s8.1 c4) s8.1, Ch.ro 0 (Sl alist_0 list_0 clist_0) list_0]) from (H.sel' [1, 0, 1, 2, 3] rfl rfl))) (wanted_none _ rfl _) ?_
   rintro _ σ32 ⟨_, ⟨a30, c31, rfl, rfl⟩, H, -⟩
   replace H : Hp S0 σ0 σ32 [Ch.own n0 n0 (Sl a30 r27.2.1 c31) r27.2.1, Ch.bx n0 b23 0 [(I x13.1), (Sl a20 x13.2.1 c21), (I x13.2.2)] [] [], Ch.ro 0 (Sl a20 x13.2.1 c21) x13.2.1, Ch.own n0 n0 (Sl (some ⟨b3, 0, none⟩) s8.1 c4) s8.1, Ch.ro 0 (Sl alist_0 list_0 clist_0) list_0] := H
   obtain ⟨x33, hx34, h'⟩ := bind_some h
   clear h
   have h := h'; clear h'
   obtain ⟨b36, o37, hi35, -⟩ := (H.own 3 rfl).ix hx34
   refine st (v := (pt b36 o37)) (rv_ix Try.underlying23 ti31 rfl rfl hi35) ?_
   obtain ⟨σ38, hw39, H, -⟩ := H.pub 0 rfl (Nat.le_refl _)
   rw [← hw39]; clear hw39
   refine st_exS (ex_store_own (e' := (r27.1, r27.2.1, r27.2.2)) (vs := [(I r27.1), (Sl a30 r27.2.1 c31), (I r27.2.2)]) (k := 0) H (i := 3) rfl ti31 hx34 hi35 rfl rfl rfl rfl rfl (Nat.le_of_ble_eq_true rfl) (by simp [plain]) (by rintro _ ⟨_, _, rfl, rfl, ⟨_, _, rfl, ⟨_, rfl, hR42⟩, rfl⟩⟩; exact ⟨[(I r27.1)], [(Sl a30 r27.2.1 c31), (I r27.2.2)], rfl, rfl, ⟨[(Sl a30 r27.2.1 c31)], [(I r27.2.2)], rfl, ⟨_, rfl, (H.ro 0 rfl)⟩, rfl⟩⟩)) (wanted_none _ rfl _) ?_
   rintro σ43 ⟨H, -⟩
   have hsl : (Sl (some ⟨b3, 0, none⟩) s8.1 c4) = (Sl (some ⟨b3, 0, none⟩) (s8.1.set s8.2.toNat (r27.1, r27.2.1, r27.2.2)) c4) := sl_len List.length_set.symm
   rw [hsl]; rw [hsl] at H; clear hsl
   refine w_end ?_
   refine q_blk ?_
   refine q_then ?_
   refine rg ?_
   refine st (v := (I (w64 (s8.2 + 1)))) (rv_add (a := s8.2) (b := 1) rfl rfl) ?_
   refine st (v := (I (w64 (s8.2 + 1)))) (rv_move rfl) ?_
   refine w_end ?_
   refine q_then ?_
   obtain rfl := Option.some.inj h
   exact ⟨_, rfl, _, σ43, fr_join ⟨rfl, rfl, rfl, rfl, trivial⟩, rfl, H.sel' [0, 4] rfl rfl, (ht10.trans List.length_set.symm), (List.length_set.trans hn11)⟩
  ·replace h := bif_f hb12 h
   refine c_exit ?_
   refine q_then_x ?_
   refine q_then_x ?_
   refine q_blk_hit ?_
   obtain rfl := Option.some.inj h
   obtain rfl := hres _ rfl
   exact ⟨rfl, _, σ9, fr_join ⟨rfl, trivial⟩, rfl, H.sel' [0] rfl rfl, ht10, hn11⟩
 ·clear hj
  have h := h'
  clear h' H
  rintro e a w ⟨rfl, ρ, σ44, rfl, rfl, H, ht45, hn46⟩
  refine q_then ?_
  refine c_seq ?_
  refine rg ?_
  refine st (v := (Sl (some ⟨b3, 0, none⟩) o7 c4)) (rv_move rfl) ?_
  refine st (v := (Sl (some ⟨b3, 0, none⟩) o7 c4)) (rv_assign rfl) ?_
  refine w_end ?_
  refine q_then ?_
  refine c_ret ?_
  obtain rfl := Option.some.inj h
  exact fin_ret (v := (Sl (some ⟨b3, 0, none⟩) o7 c4)) (results_ok Try.results67 (res_tmp (v := (Sl (some ⟨b3, 0, none⟩) o7 c4)) rfl res_nil) rfl) ⟨(some ⟨b3, 0, none⟩), c4, rfl, rfl, ht45⟩ (H.sel' [0] rfl rfl)

theorem c_impl_DropItem {list_0 : List (Int × (List Int) × Int)} {key_1 : Int} {alist_0 : Option Addr} {clist_0 : Nat} {r : (List (Int × (List Int) × Int)) × Bool} (h : M.impl_DropItem list_0 key_1 = some r) :
    Cal2 Try.prog 28 [(Sl alist_0 list_0 clist_0), (I key_1)] [Ch.ro 0 (Sl alist_0 list_0 clist_0) list_0] (fun n0 v L => ∃ (az1 : Option Addr), ∃ (cz2 : Nat), v = (.tuple #[(Sl az1 r.1 cz2), (B r.2)]) ∧ L = [Ch.own 0 0 (Sl az1 r.1 cz2) r.1]) := by
 refine cal2 (n := 25) Try.func28 rfl rfl rfl rfl ?_
 intro S0 σ0 n0 hn0 H
 unfold M.impl_DropItem at h
 refine c_seq ?_
 refine rg ?_
 refine st (v := (.slice none 0 0)) (rv_assign rfl) ?_
 refine st (v := (B false)) (rv_assign rfl) ?_
 refine w_end ?_
 refine q_then ?_
 refine c_seq ?_
 refine c_seq ?_
 refine rg ?_
 refine st (v := (Sl alist_0 list_0 clist_0)) (rv_move rfl) ?_
 obtain ⟨r1, hx2, h'⟩ := bind_some h
 clear h
 have h := h'; clear h'
 have hc3 := c_impl_ValidStore (alist_0 := alist_0) (clist_0 := clist_0) hx2
 refine st_call (cx_call hc3 (ent_f hc3.fn rfl) hn0 (show Hp S0 σ0 _ ([Ch.ro 0 (Sl alist_0 list_0 clist_0) list_0] ++ [Ch.ro 0 (Sl alist_0 list_0 clist_0) list_0]) from (H.sel' [0, 0] rfl rfl))) (wanted_none _ rfl _) ?_
 rintro _ σ4 ⟨_, ⟨rfl, rfl⟩, H, -⟩
 replace H : Hp S0 σ0 σ4 [Ch.ro 0 (Sl alist_0 list_0 clist_0) list_0] := H
 refine st (v := (B (!r1))) (rv_not rfl) ?_
 refine w_end ?_
 refine q_then ?_
 refine cd_cond (!r1) rfl (fun hb5 => ?_) (fun hb5 => ?_)
 ·replace h := bif_t hb5 h
  refine c_seq ?_
  refine rg ?_
  refine st (v := (.slice none 0 0)) (rv_assign rfl) ?_
  refine st (v := (B false)) (rv_assign rfl) ?_
  refine w_end ?_
  refine q_then ?_
  refine c_ret ?_
  refine q_then_r ?_
  replace H := H.nilOwn (Int × (List Int) × Int) 0 0
  obtain rfl := Option.some.inj h
  exact fin_ret (v := (.tuple #[(.slice none 0 0), (B false)])) (results_ok Try.results28 (res_tmp (v := (.slice none 0 0)) rfl (res_tmp (v := (B false)) rfl res_nil)) rfl) ⟨none, 0, rfl, rfl⟩ (H.sel' [0] rfl rfl)
 ·replace h := bif_f hb5 h
  refine c_skip ?_
  refine q_then ?_
  refine c_seq ?_
  refine rg ?_
  refine st (v := (Sl alist_0 list_0 clist_0)) (rv_move rfl) ?_
  refine st (v := (I key_1)) (rv_move rfl) ?_
  obtain ⟨r6, hx7, h'⟩ := bind_some h
  clear h
  have h := h'; clear h'
  have hc8 := c_impl_placeOf (alist_0 := alist_0) (clist_0 := clist_0) hx7
  refine st_call (cx_call hc8 (ent_f hc8.fn rfl) hn0 (show Hp S0 σ0 _ ([Ch.ro 0 (Sl alist_0 list_0 clist_0) list_0] ++ [Ch.ro 0 (Sl alist_0 list_0 clist_0) list_0]) from (H.sel' [0, 0] rfl rfl))) (wanted_none _ rfl _) ?_
  rintro _ σ9 ⟨_, ⟨rfl, rfl⟩, H, -⟩
  replace H : Hp S0 σ0 σ9 [Ch.ro 0 (Sl alist_0 list_0 clist_0) list_0] := H
  refine st (v := (.tuple #[(I r6.1), (B r6.2)])) (rv_move rfl) ?_
  refine st (v := (I r6.1)) (rv_extract rfl rfl) ?_
  refine st (v := (B r6.2)) (rv_extract rfl rfl) ?_
  refine st (v := (I r6.1)) (rv_assign rfl) ?_
  refine st (v := (B r6.2)) (rv_assign rfl) ?_
  refine w_end ?_
  refine q_then ?_
  refine c_seq ?_
  refine c_seq ?_
  refine rg ?_
  refine st (v := (B r6.2)) (rv_move rfl) ?_
  refine st (v := (B (!r6.2))) (rv_not rfl) ?_
  refine w_end ?_
  refine q_then ?_
  refine cd_cond (!r6.2) rfl (fun hb10 => ?_) (fun hb10 => ?_)
  ·replace h := bif_t hb10 h
   refine c_seq ?_
   refine rg ?_
   refine st (v := (.slice none 0 0)) (rv_assign rfl) ?_
   refine st (v := (B false)) (rv_assign rfl) ?_
   refine w_end ?_
   refine q_then ?_
   refine c_ret ?_
   refine q_then_r ?_
   replace H := H.nilOwn (Int × (List Int) × Int) 0 0
   obtain rfl := Option.some.inj h
   exact fin_ret (v := (.tuple #[(.slice none 0 0), (B false)])) (results_ok Try.results28 (res_tmp (v := (.slice none 0 0)) rfl (res_tmp (v := (B false)) rfl res_nil)) rfl) ⟨none, 0, rfl, rfl⟩ (H.sel' [0] rfl rfl)
  ·replace h := bif_f hb10 h
   refine c_skip ?_
   refine q_then ?_
   refine c_seq ?_
   refine rg ?_
   refine st (v := (Sl alist_0 list_0 clist_0)) (rv_move rfl) ?_
   obtain ⟨r11, hx12, h'⟩ := bind_some h
   clear h
   have h := h'; clear h'
   have hc13 := c_impl_copyItems (alist_0 := alist_0) (clist_0 := clist_0) hx12
   refine st_call (cx_call hc13 (ent_f hc13.fn rfl) hn0 (show Hp S0 σ0 _ ([Ch.ro 0 (Sl alist_0 list_0 clist_0) list_0] ++ [Ch.ro 0 (Sl alist_0 list_0 clist_0) list_0]) from (H.sel' [0, 0] rfl rfl))) (wanted_none _ rfl _) ?_
   rintro _ σ17 ⟨_, ⟨a14, c15, rfl, rfl, ht16⟩, H, -⟩
   replace H : Hp S0 σ0 σ17 [Ch.own n0 n0 (Sl a14 r11 c15) r11, Ch.ro 0 (Sl alist_0 list_0 clist_0) list_0] := H
   refine st (v := (I r6.1)) (rv_move rfl) ?_
   refine st (v := (I r6.1)) (rv_move rfl) ?_
   refine st (v := (I (w64 (r6.1 + 1)))) (rv_add (a := r6.1) (b := 1) rfl rfl) ?_
   replace H := H.ownLow 0 0 0 rfl (Nat.zero_le _) (Nat.zero_le _)
   obtain ⟨r18, hx19, h'⟩ := bind_some h
   clear h
   have h := h'; clear h'
   have hc20 := c_slices_Delete_impl_Item_impl_Item (as_0 := a14) (cs_0 := c15) hx19
   refine st_call (cx_call hc20 (ent_f hc20.fn rfl) hn0 (show Hp S0 σ0 _ ([Ch.own 0 0 (Sl a14 r11 c15) r11] ++ [Ch.ro 0 (Sl alist_0 list_0 clist_0) list_0]) from (H.sel' [0, 1] rfl rfl))) (wanted_none _ rfl _) ?_
   rintro _ σ23 ⟨_, ⟨a21, c22, rfl, rfl⟩, H, -⟩
   replace H : Hp S0 σ0 σ23 [Ch.own 0 0 (Sl a21 r18 c22) r18, Ch.ro 0 (Sl alist_0 list_0 clist_0) list_0] := H
   refine st (v := (Sl a21 r18 c22)) (rv_assign rfl) ?_
   refine st (v := (B true)) (rv_assign rfl) ?_
   refine w_end ?_
   refine q_then ?_
   refine c_ret ?_
   obtain rfl := Option.some.inj h
   exact fin_ret (v := (.tuple #[(Sl a21 r18 c22), (B true)])) (results_ok Try.results28 (res_tmp (v := (Sl a21 r18 c22)) rfl (res_tmp (v := (B true)) rfl res_nil)) rfl) ⟨a21, c22, rfl, rfl⟩ (H.sel' [0] rfl rfl)

theorem c_laws_FnClosestPairNearest {code_0 : List UInt8} {acode_0 : Option Addr} {ccode_0 : Nat} {r : Bool} (h : M.laws_FnClosestPairNearest code_0 = some r) :
    Cal2 Try.prog 6 [(Sl acode_0 code_0 ccode_0)] [Ch.ro 0 (Sl acode_0 code_0 ccode_0) code_0] (fun n0 v L => v = (B r) ∧ L = []) := by
 refine cal2 (n := 101) Try.func6 rfl rfl rfl rfl ?_
 intro S0 σ0 n0 hn0 H
 unfold M.laws_FnClosestPairNearest at h
 refine c_seq ?_
 refine rg ?_
 refine st (v := (B false)) (rv_assign rfl) ?_
 refine w_end ?_
 refine q_then ?_
 refine c_seq ?_
 refine c_seq ?_
 refine rg ?_
 refine st (v := (Sl acode_0 code_0 ccode_0)) (rv_move rfl) ?_
 refine st (v := (I (code_0.length : Int))) (rv_len Try.underlying22 rfl) ?_
 refine st (v := (B (decide (1048576 < (code_0.length : Int))))) (rv_gtr (a := (code_0.length : Int)) (b := 1048576) rfl rfl) ?_
 refine w_end ?_
 refine q_then ?_
 refine cd_cond (decide (1048576 < (code_0.length : Int))) rfl (fun hb1 => ?_) (fun hb1 => ?_)
 ·replace h := bif_t hb1 h
  refine c_seq ?_
  refine rg ?_
  refine st (v := (B true)) (rv_assign rfl) ?_
  refine w_end ?_
  refine q_then ?_
  refine c_ret ?_
  refine q_then_r ?_
  obtain rfl := Option.some.inj h
  exact fin_ret (v := (B true)) (results_ok Try.results6 (res_tmp (v := (B true)) rfl res_nil) rfl) ⟨rfl, rfl⟩ (H.sel' [] rfl rfl)
 ·replace h := bif_f hb1 h
  refine c_skip ?_
  refine q_then ?_
  refine c_seq ?_
  refine rg ?_
  refine st (v := (Sl acode_0 code_0 ccode_0)) (rv_move rfl) ?_
  obtain ⟨r2, hx3, h'⟩ := bind_some h
  clear h
  have h := h'; clear h'
  have hc4 := c_spec_DrawClosestPair (acode_0 := acode_0) (ccode_0 := ccode_0) hx3
  refine st_call (cx_call hc4 (ent_f hc4.fn rfl) hn0 (show Hp S0 σ0 _ ([Ch.ro 0 (Sl acode_0 code_0 ccode_0) code_0] ++ [Ch.ro 0 (Sl acode_0 code_0 ccode_0) code_0]) from (H.sel' [0, 0] rfl rfl))) (wanted_none _ rfl _) ?_
  rintro _ σ7 ⟨_, ⟨a5, c6, rfl, rfl⟩, H, -⟩
  replace H : Hp S0 σ0 σ7 [Ch.own n0 n0 (Sl a5 r2.1 c6) r2.1, Ch.ro 0 (Sl acode_0 code_0 ccode_0) code_0] := H
  refine st (v := (.tuple #[(Sl a5 r2.1 c6), (I r2.2)])) (rv_move rfl) ?_
  refine st (v := (Sl a5 r2.1 c6)) (rv_extract rfl rfl) ?_
  refine st (v := (I r2.2)) (rv_extract rfl rfl) ?_
  refine st (v := (Sl a5 r2.1 c6)) (rv_assign rfl) ?_
  refine st (v := (I r2.2)) (rv_assign rfl) ?_
  refine w_end ?_
  refine q_then ?_
  refine c_seq ?_
  refine rg ?_
  refine st (v := (Sl a5 r2.1 c6)) (rv_move rfl) ?_
  refine st (v := (I r2.2)) (rv_move rfl) ?_
  obtain ⟨r8, hx9, h'⟩ := bind_some h
  clear h
  have h := h'; clear h'
  have hc10 := c_impl_ClosestPair (alist_0 := a5) (clist_0 := c6) hx9
  have hle := Nat.le_trans hn0 H.size
  refine st_call (cx_lend (Loan.lend Loan.nil) hc10 (ent_f hc10.fn rfl) (show Hp S0 σ0 _ ([Ch.own n0 n0 (Sl a5 r2.1 c6) r2.1] ++ ([] ++ [Ch.ro 0 (Sl acode_0 code_0 ccode_0) code_0])) from (H.sel' [0, 1] rfl rfl)) (by rintro _ _ _ ⟨rfl, rfl⟩; exact trivial)) (wanted_none _ rfl _) ?_
  rintro _ σ11 ⟨_, ⟨rfl, rfl⟩, H, -, -⟩
  replace H : Hp S0 σ0 σ11 [Ch.own n0 n0 (Sl a5 r2.1 c6) r2.1, Ch.ro 0 (Sl acode_0 code_0 ccode_0) code_0] := H
  clear hle
  replace H : Hp S0 σ0 σ11 [Ch.own n0 n0 (Sl a5 r2.1 c6) r2.1, Ch.ro 0 (Sl acode_0 code_0 ccode_0) code_0] := H
  refine st (v := (.tuple #[(I r8.1), (I r8.2.1), (B r8.2.2)])) (rv_move rfl) ?_
  refine st (v := (I r8.1)) (rv_extract rfl rfl) ?_
  refine st (v := (I r8.2.1)) (rv_extract rfl rfl) ?_
  refine st (v := (B r8.2.2)) (rv_extract rfl rfl) ?_
  refine st (v := (I r8.1)) (rv_assign rfl) ?_
  refine st (v := (I r8.2.1)) (rv_assign rfl) ?_
  refine st (v := (B r8.2.2)) (rv_assign rfl) ?_
  refine w_end ?_
  refine q_then ?_
  refine c_seq ?_
  refine rg ?_
  refine st (v := (Sl a5 r2.1 c6)) (rv_move rfl) ?_
  refine st (v := (I r2.2)) (rv_move rfl) ?_
  obtain ⟨r12, hx13, h'⟩ := bind_some h
  clear h
  have h := h'; clear h'
  have hc14 := c_spec_ClosestPair (alist_0 := a5) (clist_0 := c6) hx13
  have hle := Nat.le_trans hn0 H.size
  refine st_call (cx_lend (Loan.lend Loan.nil) hc14 (ent_f hc14.fn rfl) (show Hp S0 σ0 _ ([Ch.own n0 n0 (Sl a5 r2.1 c6) r2.1] ++ ([] ++ [Ch.ro 0 (Sl acode_0 code_0 ccode_0) code_0])) from (H.sel' [0, 1] rfl rfl)) (by rintro _ _ _ ⟨rfl, rfl⟩; exact trivial)) (wanted_none _ rfl _) ?_
  rintro _ σ15 ⟨_, ⟨rfl, rfl⟩, H, -, -⟩
  replace H : Hp S0 σ0 σ15 [Ch.own n0 n0 (Sl a5 r2.1 c6) r2.1, Ch.ro 0 (Sl acode_0 code_0 ccode_0) code_0] := H
  clear hle
  replace H : Hp S0 σ0 σ15 [Ch.own n0 n0 (Sl a5 r2.1 c6) r2.1, Ch.ro 0 (Sl acode_0 code_0 ccode_0) code_0] := H
  refine st (v := (.tuple #[(I r12.1), (I r12.2.1), (B r12.2.2)])) (rv_move rfl) ?_
  refine st (v := (I r12.1)) (rv_extract rfl rfl) ?_
  refine st (v := (I r12.2.1)) (rv_extract rfl rfl) ?_
  refine st (v := (B r12.2.2)) (rv_extract rfl rfl) ?_
  refine st (v := (I r12.1)) (rv_assign rfl) ?_
  refine st (v := (I r12.2.1)) (rv_assign rfl) ?_
  refine st (v := (B r12.2.2)) (rv_assign rfl) ?_
  refine w_end ?_
  refine q_then ?_
  refine c_seq ?_
  refine c_seq ?_
  obtain ⟨o16, hj, h'⟩ := bind_some h
  clear h
  refine c_cut (fun e a w => e = .normal ∧ ∃ (ρ : Nat → Value) (σ : St), a = fr 101 (updL ρ [(3, (Sl a5 r2.1 c6)), (4, (I r2.2)), (5, (I r8.1)), (6, (I r8.2.1)), (7, (B r8.2.2)), (8, (I r12.1)), (9, (I r12.2.1)), (10, (B r12.2.2)), (53, (B o16))]) ∧ w = σ.w ∧ Hp S0 σ0 σ [Ch.own n0 n0 (Sl a5 r2.1 c6) r2.1]) ?_ ?_
  ·clear h'
   rename _ = some o16 => h
   refine rg ?_
   refine st (v := (I r8.1)) (rv_move rfl) ?_
   refine st (v := (I r12.1)) (rv_move rfl) ?_
   refine st (v := (B (r8.1 != r12.1))) (rv_neq (a := r8.1) (b := r12.1) rfl rfl) ?_
   refine st (v := (B (r8.1 != r12.1))) (rv_move rfl) ?_
   rcases Bool.eq_false_or_eq_true (r8.1 != r12.1) with hb17 | hb17
   ·replace h := bif_t hb17 h
    refine st_skip (congrArg some hb17) ?_
    refine st_skip (congrArg some hb17) ?_
    refine st_skip (congrArg some hb17) ?_
    refine st (v := (B true)) (rv_pick_t (congrArg B hb17) rfl) ?_
    refine st (v := (B true)) (rv_move rfl) ?_
    refine st_skip rfl ?_
    refine st_skip rfl ?_
    refine st_skip rfl ?_
    refine st (v := (B true)) (rv_pick_t rfl rfl) ?_
    refine st (v := (B true)) (rv_move rfl) ?_
    refine st_skip rfl ?_
    refine st_skip rfl ?_
    refine st (v := (B true)) (rv_pick_t rfl rfl) ?_
    refine w_end ?_
    obtain rfl := Option.some.inj h
    exact ⟨rfl, _, σ15, fr_join ⟨rfl, rfl, rfl, rfl, rfl, rfl, rfl, rfl, rfl, trivial⟩, rfl, H.sel' [0] rfl rfl⟩
   ·replace h := bif_f hb17 h
    refine st_g (v := (I r8.2.1)) (congrArg some hb17) (rv_move rfl) ?_
    refine st_g (v := (I r12.2.1)) (congrArg some hb17) (rv_move rfl) ?_
    refine st_g (v := (B (r8.2.1 != r12.2.1))) (congrArg some hb17) (rv_neq (a := r8.2.1) (b := r12.2.1) rfl rfl) ?_
    refine st (v := (B (r8.2.1 != r12.2.1))) (rv_pick_f (congrArg B hb17) rfl) ?_
    refine st (v := (B (r8.2.1 != r12.2.1))) (rv_move rfl) ?_
    rcases Bool.eq_false_or_eq_true (r8.2.1 != r12.2.1) with hb18 | hb18
    ·replace h := bif_t hb18 h
     refine st_skip (congrArg some hb18) ?_
     refine st_skip (congrArg some hb18) ?_
     refine st_skip (congrArg some hb18) ?_
     refine st (v := (B true)) (rv_pick_t (congrArg B hb18) rfl) ?_
     refine st (v := (B true)) (rv_move rfl) ?_
     refine st_skip rfl ?_
     refine st_skip rfl ?_
     refine st (v := (B true)) (rv_pick_t rfl rfl) ?_
     refine w_end ?_
     obtain rfl := Option.some.inj h
     exact ⟨rfl, _, σ15, fr_join ⟨rfl, rfl, rfl, rfl, rfl, rfl, rfl, rfl, rfl, trivial⟩, rfl, H.sel' [0] rfl rfl⟩
    ·replace h := bif_f hb18 h
     refine st_g (v := (B r8.2.2)) (congrArg some hb18) (rv_move rfl) ?_
     refine st_g (v := (B r12.2.2)) (congrArg some hb18) (rv_move rfl) ?_
     refine st_g (v := (B (r8.2.2 != r12.2.2))) (congrArg some hb18) (rv_bneq Try.underlying4 rfl rfl) ?_
     refine st (v := (B (r8.2.2 != r12.2.2))) (rv_pick_f (congrArg B hb18) rfl) ?_
     refine st (v := (B (r8.2.2 != r12.2.2))) (rv_move rfl) ?_
     rcases Bool.eq_false_or_eq_true (r8.2.2 != r12.2.2) with hb19 | hb19
     ·replace h := bif_t hb19 h
      refine st_skip (congrArg some hb19) ?_
      refine st_skip (congrArg some hb19) ?_
      refine st (v := (B true)) (rv_pick_t (congrArg B hb19) rfl) ?_
      refine w_end ?_
      obtain rfl := Option.some.inj h
      exact ⟨rfl, _, σ15, fr_join ⟨rfl, rfl, rfl, rfl, rfl, rfl, rfl, rfl, rfl, trivial⟩, rfl, H.sel' [0] rfl rfl⟩
     ·replace h := bif_f hb19 h
      refine st_g (v := (B r8.2.2)) (congrArg some hb19) (rv_move rfl) ?_
      refine st_g (v := (B (!r8.2.2))) (congrArg some hb19) (rv_not rfl) ?_
      refine st (v := (B (!r8.2.2))) (rv_pick_f (congrArg B hb19) rfl) ?_
      refine w_end ?_
      obtain rfl := Option.some.inj h
      exact ⟨rfl, _, σ15, fr_join ⟨rfl, rfl, rfl, rfl, rfl, rfl, rfl, rfl, rfl, trivial⟩, rfl, H.sel' [0] rfl rfl⟩
  ·clear hj
   have h := h'
   clear h' H
   rintro e a w ⟨rfl, ρ, σ20, rfl, rfl, H⟩
   refine q_then ?_
   refine cd_cond o16 rfl (fun hb21 => ?_) (fun hb21 => ?_)
   ·replace h := bif_t hb21 h
    refine c_seq ?_
    refine rg ?_
    refine st (v := (I r8.1)) (rv_move rfl) ?_
    refine st (v := (I r12.1)) (rv_move rfl) ?_
    refine st (v := (B (r8.1 == r12.1))) (rv_eql (a := r8.1) (b := r12.1) rfl rfl) ?_
    refine st (v := (B (r8.1 == r12.1))) (rv_move rfl) ?_
    rcases Bool.eq_false_or_eq_true (r8.1 == r12.1) with hb22 | hb22
    ·replace h := bif_t hb22 h
     refine st_g (v := (I r8.2.1)) (congrArg some hb22) (rv_move rfl) ?_
     refine st_g (v := (I r12.2.1)) (congrArg some hb22) (rv_move rfl) ?_
     refine st_g (v := (B (r8.2.1 == r12.2.1))) (congrArg some hb22) (rv_eql (a := r8.2.1) (b := r12.2.1) rfl rfl) ?_
     refine st (v := (B (r8.2.1 == r12.2.1))) (rv_pick_t (congrArg B hb22) rfl) ?_
     refine st (v := (B (r8.2.1 == r12.2.1))) (rv_move rfl) ?_
     rcases Bool.eq_false_or_eq_true (r8.2.1 == r12.2.1) with hb23 | hb23
     ·replace h := bif_t hb23 h
      refine st_g (v := (B r8.2.2)) (congrArg some hb23) (rv_move rfl) ?_
      refine st_g (v := (B r12.2.2)) (congrArg some hb23) (rv_move rfl) ?_
      refine st_g (v := (B (r8.2.2 == r12.2.2))) (congrArg some hb23) (rv_beql Try.underlying4 rfl rfl) ?_
      refine st (v := (B (r8.2.2 == r12.2.2))) (rv_pick_t (congrArg B hb23) rfl) ?_
      refine st (v := (B (r8.2.2 == r12.2.2))) (rv_assign rfl) ?_
      refine w_end ?_
      refine q_then ?_
      refine c_ret ?_
      refine q_then_r ?_
      obtain rfl := Option.some.inj h
      exact fin_ret (v := (B (r8.2.2 == r12.2.2))) (results_ok Try.results6 (res_tmp (v := (B (r8.2.2 == r12.2.2))) rfl res_nil) rfl) ⟨rfl, rfl⟩ (H.sel' [] rfl rfl)
     ·replace h := bif_f hb23 h
      refine st_skip (congrArg some hb23) ?_
      refine st_skip (congrArg some hb23) ?_
      refine st_skip (congrArg some hb23) ?_
      refine st (v := (B false)) (rv_pick_f (congrArg B hb23) rfl) ?_
      refine st (v := (B false)) (rv_assign rfl) ?_
      refine w_end ?_
      refine q_then ?_
      refine c_ret ?_
      refine q_then_r ?_
      obtain rfl := Option.some.inj h
      exact fin_ret (v := (B false)) (results_ok Try.results6 (res_tmp (v := (B false)) rfl res_nil) rfl) ⟨rfl, rfl⟩ (H.sel' [] rfl rfl)
    ·replace h := bif_f hb22 h
     refine st_skip (congrArg some hb22) ?_
     refine st_skip (congrArg some hb22) ?_
     refine st_skip (congrArg some hb22) ?_
     refine st (v := (B false)) (rv_pick_f (congrArg B hb22) rfl) ?_
     refine st (v := (B false)) (rv_move rfl) ?_
     refine st_skip rfl ?_
     refine st_skip rfl ?_
     refine st_skip rfl ?_
     refine st (v := (B false)) (rv_pick_f rfl rfl) ?_
     refine st (v := (B false)) (rv_assign rfl) ?_
     refine w_end ?_
     refine q_then ?_
     refine c_ret ?_
     refine q_then_r ?_
     obtain rfl := Option.some.inj h
     exact fin_ret (v := (B false)) (results_ok Try.results6 (res_tmp (v := (B false)) rfl res_nil) rfl) ⟨rfl, rfl⟩ (H.sel' [] rfl rfl)
   ·replace h := bif_f hb21 h
    refine c_skip ?_
    refine q_then ?_
    refine c_seq ?_
    refine rg ?_
    refine st (v := (Sl a5 r2.1 c6)) (rv_move rfl) ?_
    refine st (v := (I r8.1)) (rv_move rfl) ?_
    obtain ⟨σ24, hw25, H, -⟩ := H.pub 0 rfl (Nat.le_refl _)
    rw [← hw25]; clear hw25
    replace H := H.roLow 0 0 rfl (Nat.zero_le _)
    obtain ⟨r26, hx27, h'⟩ := bind_some h
    clear h
    have h := h'; clear h'
    have hc28 := c_laws_itemOf (alist_0 := a5) (clist_0 := c6) hx27
    refine st_call (cx_call hc28 (ent_f hc28.fn rfl) hn0 (show Hp S0 σ0 _ ([Ch.ro 0 (Sl a5 r2.1 c6) r2.1] ++ [Ch.ro 0 (Sl a5 r2.1 c6) r2.1, Ch.ro n0 (Sl a5 r2.1 c6) r2.1]) from (H.sel' [0, 0, 1] rfl rfl))) (wanted_none _ rfl _) ?_
    rintro _ σ31 ⟨_, ⟨a29, c30, rfl, rfl⟩, H, -⟩
    replace H : Hp S0 σ0 σ31 [Ch.ro 0 (Sl a29 r26.2.1 c30) r26.2.1, Ch.ro 0 (Sl a5 r2.1 c6) r2.1, Ch.ro n0 (Sl a5 r2.1 c6) r2.1] := H
    refine st (v := (Sl a29 r26.2.1 c30)) (rv_field (off := 1) (ft := 24) Try.underlying31 rfl Try.underlying24 rfl rfl rfl) ?_
    refine st (v := (Sl a29 r26.2.1 c30)) (rv_assign rfl) ?_
    refine w_end ?_
    refine q_then ?_
    refine c_seq ?_
    refine rg ?_
    refine st (v := (Sl a5 r2.1 c6)) (rv_move rfl) ?_
    refine st (v := (I r8.1)) (rv_move rfl) ?_
    replace H := H.roLow 2 0 rfl (Nat.zero_le _)
    obtain ⟨r32, hx33, h'⟩ := bind_some h
    clear h
    have h := h'; clear h'
    have hc34 := c_impl_DropItem (alist_0 := a5) (clist_0 := c6) hx33
    refine st_call (cx_call hc34 (ent_f hc34.fn rfl) hn0 (show Hp S0 σ0 _ ([Ch.ro 0 (Sl a5 r2.1 c6) r2.1] ++ [Ch.ro 0 (Sl a5 r2.1 c6) r2.1, Ch.ro 0 (Sl a29 r26.2.1 c30) r26.2.1, Ch.ro 0 (Sl a5 r2.1 c6) r2.1, Ch.ro n0 (Sl a5 r2.1 c6) r2.1]) from (H.sel' [0, 0, 1, 2, 3] rfl rfl))) (wanted_none _ rfl _) ?_
    rintro _ σ37 ⟨_, ⟨a35, c36, rfl, rfl⟩, H, -⟩
    replace H : Hp S0 σ0 σ37 [Ch.own 0 0 (Sl a35 r32.1 c36) r32.1, Ch.ro 0 (Sl a5 r2.1 c6) r2.1, Ch.ro 0 (Sl a29 r26.2.1 c30) r26.2.1, Ch.ro 0 (Sl a5 r2.1 c6) r2.1, Ch.ro n0 (Sl a5 r2.1 c6) r2.1] := H
    refine st (v := (.tuple #[(Sl a35 r32.1 c36), (B r32.2)])) (rv_move rfl) ?_
    refine st (v := (Sl a35 r32.1 c36)) (rv_extract rfl rfl) ?_
    refine st (v := (B r32.2)) (rv_extract rfl rfl) ?_
    refine st (v := (Sl a35 r32.1 c36)) (rv_assign rfl) ?_
    refine st (v := (B r32.2)) (rv_assign rfl) ?_
    refine w_end ?_
    refine q_then ?_
    refine c_seq ?_
    refine rg ?_
    refine st (v := (Sl a35 r32.1 c36)) (rv_move rfl) ?_
    refine st (v := (I r2.2)) (rv_move rfl) ?_
    refine st (v := (Sl a29 r26.2.1 c30)) (rv_move rfl) ?_
    obtain ⟨σ38, hw39, H, -⟩ := H.pub 0 rfl (Nat.le_refl _)
    rw [← hw39]; clear hw39
    obtain ⟨r40, hx41, h'⟩ := bind_some h
    clear h
    have h := h'; clear h'
    have hc42 := c_impl_Nearest (alist_0 := a35) (clist_0 := c36) (aat_2 := a29) (cat_2 := c30) hx41
    refine st_call (cx_call hc42 (ent_f hc42.fn rfl) hn0 (show Hp S0 σ0 _ ([Ch.ro 0 (Sl a35 r32.1 c36) r32.1, Ch.ro 0 (Sl a29 r26.2.1 c30) r26.2.1] ++ [Ch.ro 0 (Sl a35 r32.1 c36) r32.1, Ch.ro 0 (Sl a5 r2.1 c6) r2.1, Ch.ro 0 (Sl a29 r26.2.1 c30) r26.2.1, Ch.ro 0 (Sl a5 r2.1 c6) r2.1, Ch.ro n0 (Sl a5 r2.1 c6) r2.1]) from (H.sel' [0, 2, 0, 1, 2, 3, 4] rfl rfl))) (wanted_none _ rfl _) ?_
    rintro _ σ45 ⟨_, ⟨a43, c44, rfl, rfl⟩, H, -⟩
    replace H : Hp S0 σ0 σ45 [Ch.own 0 n0 (Sl a43 r40 c44) r40, Ch.ro 0 (Sl a35 r32.1 c36) r32.1, Ch.ro 0 (Sl a5 r2.1 c6) r2.1, Ch.ro 0 (Sl a29 r26.2.1 c30) r26.2.1, Ch.ro 0 (Sl a5 r2.1 c6) r2.1, Ch.ro n0 (Sl a5 r2.1 c6) r2.1] := H
    refine st (v := (Sl a43 r40 c44)) (rv_assign rfl) ?_
    refine w_end ?_
    refine q_then ?_
    refine c_seq ?_
    rcases Bool.eq_false_or_eq_true r32.2 with hb46 | hb46
    ·replace h := bif_t hb46 h
     rcases Bool.eq_false_or_eq_true ((r40.length : Int) == 1) with hb47 | hb47
     ·replace h := bif_t hb47 h
      obtain ⟨x48, hx49, h'⟩ := bind_some h
      clear h
      have h := h'; clear h'
      obtain ⟨b51, o52, hi50, -⟩ := (H.own 0 rfl).ix hx49
      have hc53 := ((H.own 0 rfl).at hx49 hi50).snd.int
      replace H := H.roLow 5 0 rfl (Nat.zero_le _)
      obtain ⟨r54, hx55, h'⟩ := bind_some h
      clear h
      have h := h'; clear h'
      have hc56 := c_laws_itemOf (alist_0 := a5) (clist_0 := c6) hx55
      obtain ⟨r59, hx60, h'⟩ := bind_some h
      clear h
      have h := h'; clear h'
      have hc61 := c_impl_Distance (aa_1 := a29) (ca_1 := c30) (ab_2 := a57) (cb_2 := c58) hx60
      have Hs := H
      refine rg2 (σ := σ45) (Nm := (Option Addr) × (Nat)) 18 [15, 17] [[false, false], [true, false], [true, true]] [[(0, 0)], [(0, 0)], [(0, 0)], [(0, 0)], [(0, 0)], [(0, 0)], [(0, 0)], [(0, 0), (1, 1), (2, 2)], [(0, 0), (1, 1), (2, 2)], [(0, 0), (1, 1), (2, 2)], [(0, 0), (1, 1), (2, 2)], [(0, 0), (1, 1)], [(0, 0), (1, 1)], [(0, 0)], [(0, 0)], [(0, 1)], [(1, 1)], [(1, 2)]] 2 [fun ((a57, c58) : (Option Addr) × (Nat)) => fun σm => Hp S0 σ0 σm [Ch.ro 0 (Sl a5 r2.1 c6) r2.1, Ch.own 0 n0 (Sl a43 r40 c44) r40, Ch.ro 0 (Sl a35 r32.1 c36) r32.1, Ch.ro 0 (Sl a5 r2.1 c6) r2.1, Ch.ro 0 (Sl a29 r26.2.1 c30) r26.2.1, Ch.ro 0 (Sl a5 r2.1 c6) r2.1, Ch.ro n0 (Sl a5 r2.1 c6) r2.1] ∧ Md (cov []) σ45 σm, fun ((a57, c58) : (Option Addr) × (Nat)) => fun σm => Hp S0 σ0 σm [Ch.ro 0 (Sl a57 r54.2.1 c58) r54.2.1, Ch.ro 0 (Sl a5 r2.1 c6) r2.1, Ch.own 0 n0 (Sl a43 r40 c44) r40, Ch.ro 0 (Sl a35 r32.1 c36) r32.1, Ch.ro 0 (Sl a5 r2.1 c6) r2.1, Ch.ro 0 (Sl a29 r26.2.1 c30) r26.2.1, Ch.ro 0 (Sl a5 r2.1 c6) r2.1, Ch.ro n0 (Sl a5 r2.1 c6) r2.1] ∧ Md (cov []) σ45 σm, fun ((a57, c58) : (Option Addr) × (Nat)) => fun σm => Hp S0 σ0 σm [Ch.ro 0 (Sl a57 r54.2.1 c58) r54.2.1, Ch.ro 0 (Sl a5 r2.1 c6) r2.1, Ch.own 0 n0 (Sl a43 r40 c44) r40, Ch.ro 0 (Sl a35 r32.1 c36) r32.1, Ch.ro 0 (Sl a5 r2.1 c6) r2.1, Ch.ro 0 (Sl a29 r26.2.1 c30) r26.2.1, Ch.ro 0 (Sl a5 r2.1 c6) r2.1, Ch.ro n0 (Sl a5 r2.1 c6) r2.1] ∧ Md (cov []) σ45 σm] [fun ((a57, c58) : (Option Addr) × (Nat)) => (B r32.2), fun ((a57, c58) : (Option Addr) × (Nat)) => (B r32.2), fun ((a57, c58) : (Option Addr) × (Nat)) => (Sl a43 r40 c44), fun ((a57, c58) : (Option Addr) × (Nat)) => (I (r40.length : Int)), fun ((a57, c58) : (Option Addr) × (Nat)) => (B ((r40.length : Int) == 1)), fun ((a57, c58) : (Option Addr) × (Nat)) => (B ((r40.length : Int) == 1)), fun ((a57, c58) : (Option Addr) × (Nat)) => (B ((r40.length : Int) == 1)), fun ((a57, c58) : (Option Addr) × (Nat)) => (Sl a43 r40 c44), fun ((a57, c58) : (Option Addr) × (Nat)) => (pt b51 o52), fun ((a57, c58) : (Option Addr) × (Nat)) => (pt b51 (o52 + 1)), fun ((a57, c58) : (Option Addr) × (Nat)) => (I x48.2), fun ((a57, c58) : (Option Addr) × (Nat)) => (I r2.2), fun ((a57, c58) : (Option Addr) × (Nat)) => (Sl a29 r26.2.1 c30), fun ((a57, c58) : (Option Addr) × (Nat)) => (Sl a5 r2.1 c6), fun ((a57, c58) : (Option Addr) × (Nat)) => (I r8.2.1), fun ((a57, c58) : (Option Addr) × (Nat)) => (.agg #[(I r54.1), (Sl a57 r54.2.1 c58), (I r54.2.2)]), fun ((a57, c58) : (Option Addr) × (Nat)) => (Sl a57 r54.2.1 c58), fun ((a57, c58) : (Option Addr) × (Nat)) => (I r59)] (none, 0) (by kernel_rfl) (by kernel_rfl) ?_ ?_ ?_
      ·intro σm m0
       exact ⟨H.grow (m0.mono fun _ h => h.elim), m0⟩
      ·refine all_cons (obs_v rfl (by
         intro k; rintro ⟨a57, c58⟩ ρ σm hJ hoff hdep
         have e13 : look 101 ρ 13 = (B r32.2) := look_off (hoff 13 rfl) rfl
         exact dp_v (v := (B r32.2)) (wanted_none _ rfl _) (rv_move e13) rfl hJ)) ?_
       refine all_cons (obs_v rfl (by
         intro k; rintro ⟨a57, c58⟩ ρ σm hJ hoff hdep
         have e81 : look 101 ρ 81 = (B r32.2) := hdep 0 rfl rfl 81 rfl
         exact dp_v (v := (B r32.2)) (wanted_none _ rfl _) (rv_move e81) rfl hJ)) ?_
       refine all_cons (obs_v rfl (by
         intro k; rintro ⟨a57, c58⟩ ρ σm hJ hoff hdep
         have e14 : look 101 ρ 14 = (Sl a43 r40 c44) := look_off (hoff 14 rfl) rfl
         have e82 : look 101 ρ 82 = (B r32.2) := hdep 1 rfl rfl 82 rfl
         exact dp_v (v := (Sl a43 r40 c44)) (wanted_yes rfl (yv_of rfl (e82.trans (congrArg B hb46)))) (rv_move e14) rfl hJ)) ?_
       refine all_cons (obs_v rfl (by
         intro k; rintro ⟨a57, c58⟩ ρ σm hJ hoff hdep
         have e83 : look 101 ρ 83 = (Sl a43 r40 c44) := hdep 2 rfl rfl 83 rfl
         have e82 : look 101 ρ 82 = (B r32.2) := hdep 1 rfl rfl 82 rfl
         exact dp_v (v := (I (r40.length : Int))) (wanted_yes rfl (yv_of rfl (e82.trans (congrArg B hb46)))) (rv_len Try.underlying27 e83) rfl hJ)) ?_
       refine all_cons (obs_v rfl (by
         intro k; rintro ⟨a57, c58⟩ ρ σm hJ hoff hdep
         have e84 : look 101 ρ 84 = (I (r40.length : Int)) := hdep 3 rfl rfl 84 rfl
         have e82 : look 101 ρ 82 = (B r32.2) := hdep 1 rfl rfl 82 rfl
         exact dp_v (v := (B ((r40.length : Int) == 1))) (wanted_yes rfl (yv_of rfl (e82.trans (congrArg B hb46)))) (rv_eql (a := (r40.length : Int)) (b := 1) e84 rfl) rfl hJ)) ?_
       refine all_cons (obs_v rfl (by
         intro k; rintro ⟨a57, c58⟩ ρ σm hJ hoff hdep
         have e82 : look 101 ρ 82 = (B r32.2) := hdep 1 rfl rfl 82 rfl
         have e85 : look 101 ρ 85 = (B ((r40.length : Int) == 1)) := hdep 4 rfl rfl 85 rfl
         exact dp_v (v := (B ((r40.length : Int) == 1))) (wanted_none _ rfl _) (rv_pick_t (e82.trans (congrArg B hb46)) e85) rfl hJ)) ?_
       refine all_cons (obs_v rfl (by
         intro k; rintro ⟨a57, c58⟩ ρ σm hJ hoff hdep
         have e86 : look 101 ρ 86 = (B ((r40.length : Int) == 1)) := hdep 5 rfl rfl 86 rfl
         exact dp_v (v := (B ((r40.length : Int) == 1))) (wanted_none _ rfl _) (rv_move e86) rfl hJ)) ?_
       refine all_cons (obs_v rfl (by
         intro k; rintro ⟨a57, c58⟩ ρ σm hJ hoff hdep
         have e14 : look 101 ρ 14 = (Sl a43 r40 c44) := look_off (hoff 14 rfl) rfl
         have e87 : look 101 ρ 87 = (B ((r40.length : Int) == 1)) := hdep 6 rfl rfl 87 rfl
         exact dp_v (v := (Sl a43 r40 c44)) (wanted_yes rfl (yv_of rfl (e87.trans (congrArg B hb47)))) (rv_move e14) rfl hJ)) ?_
       refine all_cons (obs_v rfl (by
         intro k; rintro ⟨a57, c58⟩ ρ σm hJ hoff hdep
         have e88 : look 101 ρ 88 = (Sl a43 r40 c44) := hdep 7 rfl rfl 88 rfl
         have e87 : look 101 ρ 87 = (B ((r40.length : Int) == 1)) := hdep 6 rfl rfl 87 rfl
         exact dp_v (v := (pt b51 o52)) (wanted_yes rfl (yv_of rfl (e87.trans (congrArg B hb47)))) (rv_ix Try.underlying27 ti33 e88 rfl hi50) rfl hJ)) ?_
       refine all_cons (obs_v rfl (by
         intro k; rintro ⟨a57, c58⟩ ρ σm hJ hoff hdep
         have e89 : look 101 ρ 89 = (pt b51 o52) := hdep 8 rfl rfl 89 rfl
         have e87 : look 101 ρ 87 = (B ((r40.length : Int) == 1)) := hdep 6 rfl rfl 87 rfl
         exact dp_v (v := (pt b51 (o52 + 1))) (wanted_yes rfl (yv_of rfl (e87.trans (congrArg B hb47)))) (rv_fieldAddr (off := 1) (ft := 3) Try.underlying33 rfl ti3 rfl e89) rfl hJ)) ?_
       refine all_cons (by
         refine ⟨?_, ?_⟩
         ·rintro ⟨a57, c58⟩ ρ σm hJ hoff hdep
          have e90 : look 101 ρ 90 = (pt b51 (o52 + 1)) := hdep 9 rfl rfl 90 rfl
          have e87 : look 101 ρ 87 = (B ((r40.length : Int) == 1)) := hdep 6 rfl rfl 87 rfl
          obtain ⟨H, m⟩ := id hJ
          have hc53 := ((H.own 1 rfl).at hx49 hi50).snd.int
          exact dp_v (v := (I x48.2)) (wanted_yes rfl (yv_of rfl (e87.trans (congrArg B hb47)))) (rv_load1 Try.underlying3 rfl e90 hc53) rfl hJ
         refine ⟨?_, ?_⟩
         ·rintro ⟨a57, c58⟩ ρ σm hJ hoff hdep
          have e90 : look 101 ρ 90 = (pt b51 (o52 + 1)) := hdep 9 rfl rfl 90 rfl
          have e87 : look 101 ρ 87 = (B ((r40.length : Int) == 1)) := hdep 6 rfl rfl 87 rfl
          obtain ⟨H, m⟩ := id hJ
          have hc53 := ((H.own 2 rfl).at hx49 hi50).snd.int
          exact dp_v (v := (I x48.2)) (wanted_yes rfl (yv_of rfl (e87.trans (congrArg B hb47)))) (rv_load1 Try.underlying3 rfl e90 hc53) rfl hJ
         refine ⟨?_, ?_⟩
         ·rintro ⟨a57, c58⟩ ρ σm hJ hoff hdep
          have e90 : look 101 ρ 90 = (pt b51 (o52 + 1)) := hdep 9 rfl rfl 90 rfl
          have e87 : look 101 ρ 87 = (B ((r40.length : Int) == 1)) := hdep 6 rfl rfl 87 rfl
          obtain ⟨H, m⟩ := id hJ
          have hc53 := ((H.own 2 rfl).at hx49 hi50).snd.int
          exact dp_v (v := (I x48.2)) (wanted_yes rfl (yv_of rfl (e87.trans (congrArg B hb47)))) (rv_load1 Try.underlying3 rfl e90 hc53) rfl hJ
         trivial) ?_
       refine all_cons (obs_v rfl (by
         intro k; rintro ⟨a57, c58⟩ ρ σm hJ hoff hdep
         have e4 : look 101 ρ 4 = (I r2.2) := look_off (hoff 4 rfl) rfl
         have e87 : look 101 ρ 87 = (B ((r40.length : Int) == 1)) := hdep 6 rfl rfl 87 rfl
         exact dp_v (v := (I r2.2)) (wanted_yes rfl (yv_of rfl (e87.trans (congrArg B hb47)))) (rv_move e4) rfl hJ)) ?_
       refine all_cons (obs_v rfl (by
         intro k; rintro ⟨a57, c58⟩ ρ σm hJ hoff hdep
         have e11 : look 101 ρ 11 = (Sl a29 r26.2.1 c30) := look_off (hoff 11 rfl) rfl
         have e87 : look 101 ρ 87 = (B ((r40.length : Int) == 1)) := hdep 6 rfl rfl 87 rfl
         exact dp_v (v := (Sl a29 r26.2.1 c30)) (wanted_yes rfl (yv_of rfl (e87.trans (congrArg B hb47)))) (rv_move e11) rfl hJ)) ?_
       refine all_cons (obs_v rfl (by
         intro k; rintro ⟨a57, c58⟩ ρ σm hJ hoff hdep
         have e3 : look 101 ρ 3 = (Sl a5 r2.1 c6) := look_off (hoff 3 rfl) rfl
         have e87 : look 101 ρ 87 = (B ((r40.length : Int) == 1)) := hdep 6 rfl rfl 87 rfl
         exact dp_v (v := (Sl a5 r2.1 c6)) (wanted_yes rfl (yv_of rfl (e87.trans (congrArg B hb47)))) (rv_move e3) rfl hJ)) ?_
       refine all_cons (obs_v rfl (by
         intro k; rintro ⟨a57, c58⟩ ρ σm hJ hoff hdep
         have e6 : look 101 ρ 6 = (I r8.2.1) := look_off (hoff 6 rfl) rfl
         have e87 : look 101 ρ 87 = (B ((r40.length : Int) == 1)) := hdep 6 rfl rfl 87 rfl
         exact dp_v (v := (I r8.2.1)) (wanted_yes rfl (yv_of rfl (e87.trans (congrArg B hb47)))) (rv_move e6) rfl hJ)) ?_
       refine all_cons (by
         refine ⟨?_, ?_⟩
         ·rintro ⟨a57, c58⟩ ρ σm hJ hoff hdep
          have e94 : look 101 ρ 94 = (Sl a5 r2.1 c6) := hdep 13 rfl rfl 94 rfl
          have e95 : look 101 ρ 95 = (I r8.2.1) := hdep 14 rfl rfl 95 rfl
          have e87 : look 101 ρ 87 = (B ((r40.length : Int) == 1)) := hdep 6 rfl rfl 87 rfl
          obtain ⟨H, m⟩ := id hJ
          refine dp_cx (wanted_yes rfl (yv_of rfl (e87.trans (congrArg B hb47)))) (cx_call hc56 (ent_f hc56.fn (by show [look 101 ρ 94, look 101 ρ 95] = _; rw [e94, e95])) hn0 (show Hp S0 σ0 _ ([Ch.ro 0 (Sl a5 r2.1 c6) r2.1] ++ [Ch.ro 0 (Sl a5 r2.1 c6) r2.1, Ch.own 0 n0 (Sl a43 r40 c44) r40, Ch.ro 0 (Sl a35 r32.1 c36) r32.1, Ch.ro 0 (Sl a5 r2.1 c6) r2.1, Ch.ro 0 (Sl a29 r26.2.1 c30) r26.2.1, Ch.ro 0 (Sl a5 r2.1 c6) r2.1, Ch.ro n0 (Sl a5 r2.1 c6) r2.1]) from (H.sel' [0, 0, 1, 2, 3, 4, 5, 6] rfl rfl))) ?_
          rintro _ σq ⟨_, ⟨a57x, c58x, rfl, rfl⟩, H2, m2⟩
          exact ⟨_, (a57x, c58x), rfl, rfl, ⟨H2.sel' [0, 1, 2, 3, 4, 5, 6, 7] rfl rfl, m.comp0 (m2.mono (fun i h => by simp [cov, Ch.ro] at h))⟩, stab [0, 1, 2, 3, 4, 5, 6, 7, 8, 9, 10, 11, 12, 13, 14] (by kernel_rfl) ⟨rfl, rfl, rfl, rfl, rfl, rfl, rfl, rfl, rfl, rfl, rfl, rfl, rfl, rfl, rfl, trivial⟩⟩
         trivial) ?_
       refine all_cons (obs_v rfl (by
         intro k; rintro ⟨a57, c58⟩ ρ σm hJ hoff hdep
         have e96 : look 101 ρ 96 = (.agg #[(I r54.1), (Sl a57 r54.2.1 c58), (I r54.2.2)]) := hdep 15 rfl rfl 96 rfl
         have e87 : look 101 ρ 87 = (B ((r40.length : Int) == 1)) := hdep 6 rfl rfl 87 rfl
         exact dp_v (v := (Sl a57 r54.2.1 c58)) (wanted_yes rfl (yv_of rfl (e87.trans (congrArg B hb47)))) (rv_field (off := 1) (ft := 24) Try.underlying31 rfl Try.underlying24 rfl e96 rfl) rfl hJ)) ?_
       refine all_cons (by
         refine ⟨?_, ?_⟩
         ·rintro ⟨a57, c58⟩ ρ σm hJ hoff hdep
          have e92 : look 101 ρ 92 = (I r2.2) := hdep 11 rfl rfl 92 rfl
          have e93 : look 101 ρ 93 = (Sl a29 r26.2.1 c30) := hdep 12 rfl rfl 93 rfl
          have e97 : look 101 ρ 97 = (Sl a57 r54.2.1 c58) := hdep 16 rfl rfl 97 rfl
          have e87 : look 101 ρ 87 = (B ((r40.length : Int) == 1)) := hdep 6 rfl rfl 87 rfl
          obtain ⟨H, m⟩ := id hJ
          refine dp_cx (wanted_yes rfl (yv_of rfl (e87.trans (congrArg B hb47)))) (cx_call hc61 (ent_f hc61.fn (by show [look 101 ρ 92, look 101 ρ 93, look 101 ρ 97] = _; rw [e92, e93, e97])) hn0 (show Hp S0 σ0 _ ([Ch.ro 0 (Sl a29 r26.2.1 c30) r26.2.1, Ch.ro 0 (Sl a57 r54.2.1 c58) r54.2.1] ++ [Ch.ro 0 (Sl a57 r54.2.1 c58) r54.2.1, Ch.ro 0 (Sl a5 r2.1 c6) r2.1, Ch.own 0 n0 (Sl a43 r40 c44) r40, Ch.ro 0 (Sl a35 r32.1 c36) r32.1, Ch.ro 0 (Sl a5 r2.1 c6) r2.1, Ch.ro 0 (Sl a29 r26.2.1 c30) r26.2.1, Ch.ro 0 (Sl a5 r2.1 c6) r2.1, Ch.ro n0 (Sl a5 r2.1 c6) r2.1]) from (H.sel' [5, 0, 0, 1, 2, 3, 4, 5, 6, 7] rfl rfl))) ?_
          rintro _ σq ⟨_, ⟨rfl, rfl⟩, H2, m2⟩
          exact ⟨_, (a57, c58), rfl, rfl, ⟨H2.sel' [0, 1, 2, 3, 4, 5, 6, 7] rfl rfl, m.comp0 (m2.mono (fun i h => by simp [cov, Ch.ro] at h))⟩, stab [0, 1, 2, 3, 4, 5, 6, 7, 8, 9, 10, 11, 12, 13, 14, 15, 16] (by kernel_rfl) ⟨rfl, rfl, rfl, rfl, rfl, rfl, rfl, rfl, rfl, rfl, rfl, rfl, rfl, rfl, rfl, rfl, rfl, trivial⟩⟩
         trivial) ?_
       exact all_nil
      ·rintro ⟨a57, c58⟩ ρ σ62 hJ hoff hrel
       have e87 : look 101 ρ 87 = (B ((r40.length : Int) == 1)) := hrel 6 rfl 87 rfl
       have e91 : look 101 ρ 91 = (I x48.2) := hrel 10 rfl 91 rfl
       have e98 : look 101 ρ 98 = (I r59) := hrel 17 rfl 98 rfl
       obtain ⟨H, -⟩ := (show Hp S0 σ0 σ62 [Ch.ro 0 (Sl a57 r54.2.1 c58) r54.2.1, Ch.ro 0 (Sl a5 r2.1 c6) r2.1, Ch.own 0 n0 (Sl a43 r40 c44) r40, Ch.ro 0 (Sl a35 r32.1 c36) r32.1, Ch.ro 0 (Sl a5 r2.1 c6) r2.1, Ch.ro 0 (Sl a29 r26.2.1 c30) r26.2.1, Ch.ro 0 (Sl a5 r2.1 c6) r2.1, Ch.ro n0 (Sl a5 r2.1 c6) r2.1] ∧ Md (cov []) σ45 σ62 from hJ)
       clear hJ Hs
       rw [fr_lookL (L := [(87, (B ((r40.length : Int) == 1))), (91, (I x48.2)), (98, (I r59))]) ⟨e87, e91, e98, trivial⟩]
       clear hoff hrel e87 e91 e98
       refine st_g (v := (B (x48.2 == r59))) (congrArg some hb47) (rv_eql (a := x48.2) (b := r59) rfl rfl) ?_
       refine st (v := (B (x48.2 == r59))) (rv_pick_t (congrArg B hb47) rfl) ?_
       refine st (v := (B (x48.2 == r59))) (rv_assign rfl) ?_
       refine w_end ?_
       refine q_then ?_
       refine c_ret ?_
       obtain rfl := Option.some.inj h
       exact fin_ret (v := (B (x48.2 == r59))) (results_ok Try.results6 (res_tmp (v := (B (x48.2 == r59))) rfl res_nil) rfl) ⟨rfl, rfl⟩ (H.sel' [] rfl rfl)
     ·replace h := bif_f hb47 h
      have Hs := H
      refine rg2 (σ := σ45) (Nm := Unit) 18 [] [[]] [[(0, 0)], [(0, 0)], [(0, 0)], [(0, 0)], [(0, 0)], [(0, 0)], [(0, 0)], [(0, 0)], [(0, 0)], [(0, 0)], [(0, 0)], [(0, 0)], [(0, 0)], [(0, 0)], [(0, 0)], [(0, 0)], [(0, 0)], [(0, 0)]] 0 [fun (_nm : Unit) => fun σm => Hp S0 σ0 σm [Ch.own 0 n0 (Sl a43 r40 c44) r40, Ch.ro 0 (Sl a35 r32.1 c36) r32.1, Ch.ro 0 (Sl a5 r2.1 c6) r2.1, Ch.ro 0 (Sl a29 r26.2.1 c30) r26.2.1, Ch.ro 0 (Sl a5 r2.1 c6) r2.1, Ch.ro n0 (Sl a5 r2.1 c6) r2.1] ∧ Md (cov []) σ45 σm] [fun (_nm : Unit) => (B r32.2), fun (_nm : Unit) => (B r32.2), fun (_nm : Unit) => (Sl a43 r40 c44), fun (_nm : Unit) => (I (r40.length : Int)), fun (_nm : Unit) => (B ((r40.length : Int) == 1)), fun (_nm : Unit) => (B ((r40.length : Int) == 1)), fun (_nm : Unit) => (B ((r40.length : Int) == 1)), fun (_nm : Unit) => undef, fun (_nm : Unit) => undef, fun (_nm : Unit) => undef, fun (_nm : Unit) => undef, fun (_nm : Unit) => undef, fun (_nm : Unit) => undef, fun (_nm : Unit) => undef, fun (_nm : Unit) => undef, fun (_nm : Unit) => undef, fun (_nm : Unit) => undef, fun (_nm : Unit) => undef] () (by kernel_rfl) (by kernel_rfl) ?_ ?_ ?_
      ·intro σm m0
       exact ⟨H.grow (m0.mono fun _ h => h.elim), m0⟩
      ·refine all_cons (obs_v rfl (by
         intro k; intro _nm ρ σm hJ hoff hdep
         have e13 : look 101 ρ 13 = (B r32.2) := look_off (hoff 13 rfl) rfl
         exact dp_v (v := (B r32.2)) (wanted_none _ rfl _) (rv_move e13) rfl hJ)) ?_
       refine all_cons (obs_v rfl (by
         intro k; intro _nm ρ σm hJ hoff hdep
         have e81 : look 101 ρ 81 = (B r32.2) := hdep 0 rfl rfl 81 rfl
         exact dp_v (v := (B r32.2)) (wanted_none _ rfl _) (rv_move e81) rfl hJ)) ?_
       refine all_cons (obs_v rfl (by
         intro k; intro _nm ρ σm hJ hoff hdep
         have e14 : look 101 ρ 14 = (Sl a43 r40 c44) := look_off (hoff 14 rfl) rfl
         have e82 : look 101 ρ 82 = (B r32.2) := hdep 1 rfl rfl 82 rfl
         exact dp_v (v := (Sl a43 r40 c44)) (wanted_yes rfl (yv_of rfl (e82.trans (congrArg B hb46)))) (rv_move e14) rfl hJ)) ?_
       refine all_cons (obs_v rfl (by
         intro k; intro _nm ρ σm hJ hoff hdep
         have e83 : look 101 ρ 83 = (Sl a43 r40 c44) := hdep 2 rfl rfl 83 rfl
         have e82 : look 101 ρ 82 = (B r32.2) := hdep 1 rfl rfl 82 rfl
         exact dp_v (v := (I (r40.length : Int))) (wanted_yes rfl (yv_of rfl (e82.trans (congrArg B hb46)))) (rv_len Try.underlying27 e83) rfl hJ)) ?_
       refine all_cons (obs_v rfl (by
         intro k; intro _nm ρ σm hJ hoff hdep
         have e84 : look 101 ρ 84 = (I (r40.length : Int)) := hdep 3 rfl rfl 84 rfl
         have e82 : look 101 ρ 82 = (B r32.2) := hdep 1 rfl rfl 82 rfl
         exact dp_v (v := (B ((r40.length : Int) == 1))) (wanted_yes rfl (yv_of rfl (e82.trans (congrArg B hb46)))) (rv_eql (a := (r40.length : Int)) (b := 1) e84 rfl) rfl hJ)) ?_
       refine all_cons (obs_v rfl (by
         intro k; intro _nm ρ σm hJ hoff hdep
         have e82 : look 101 ρ 82 = (B r32.2) := hdep 1 rfl rfl 82 rfl
         have e85 : look 101 ρ 85 = (B ((r40.length : Int) == 1)) := hdep 4 rfl rfl 85 rfl
         exact dp_v (v := (B ((r40.length : Int) == 1))) (wanted_none _ rfl _) (rv_pick_t (e82.trans (congrArg B hb46)) e85) rfl hJ)) ?_
       refine all_cons (obs_v rfl (by
         intro k; intro _nm ρ σm hJ hoff hdep
         have e86 : look 101 ρ 86 = (B ((r40.length : Int) == 1)) := hdep 5 rfl rfl 86 rfl
         exact dp_v (v := (B ((r40.length : Int) == 1))) (wanted_none _ rfl _) (rv_move e86) rfl hJ)) ?_
       refine all_cons (obs_v rfl (by
         intro k; intro _nm ρ σm hJ hoff hdep
         have e87 : look 101 ρ 87 = (B ((r40.length : Int) == 1)) := hdep 6 rfl rfl 87 rfl
         exact dp_skip (wanted_no rfl (yv_of rfl (e87.trans (congrArg B hb47)))) rfl hJ)) ?_
       refine all_cons (obs_v rfl (by
         intro k; intro _nm ρ σm hJ hoff hdep
         have e87 : look 101 ρ 87 = (B ((r40.length : Int) == 1)) := hdep 6 rfl rfl 87 rfl
         exact dp_skip (wanted_no rfl (yv_of rfl (e87.trans (congrArg B hb47)))) rfl hJ)) ?_
       refine all_cons (obs_v rfl (by
         intro k; intro _nm ρ σm hJ hoff hdep
         have e87 : look 101 ρ 87 = (B ((r40.length : Int) == 1)) := hdep 6 rfl rfl 87 rfl
         exact dp_skip (wanted_no rfl (yv_of rfl (e87.trans (congrArg B hb47)))) rfl hJ)) ?_
       refine all_cons (obs_v rfl (by
         intro k; intro _nm ρ σm hJ hoff hdep
         have e87 : look 101 ρ 87 = (B ((r40.length : Int) == 1)) := hdep 6 rfl rfl 87 rfl
         exact dp_skip (wanted_no rfl (yv_of rfl (e87.trans (congrArg B hb47)))) rfl hJ)) ?_
       refine all_cons (obs_v rfl (by
         intro k; intro _nm ρ σm hJ hoff hdep
         have e87 : look 101 ρ 87 = (B ((r40.length : Int) == 1)) := hdep 6 rfl rfl 87 rfl
         exact dp_skip (wanted_no rfl (yv_of rfl (e87.trans (congrArg B hb47)))) rfl hJ)) ?_
       refine all_cons (obs_v rfl (by
         intro k; intro _nm ρ σm hJ hoff hdep
         have e87 : look 101 ρ 87 = (B ((r40.length : Int) == 1)) := hdep 6 rfl rfl 87 rfl
         exact dp_skip (wanted_no rfl (yv_of rfl (e87.trans (congrArg B hb47)))) rfl hJ)) ?_
       refine all_cons (obs_v rfl (by
         intro k; intro _nm ρ σm hJ hoff hdep
         have e87 : look 101 ρ 87 = (B ((r40.length : Int) == 1)) := hdep 6 rfl rfl 87 rfl
         exact dp_skip (wanted_no rfl (yv_of rfl (e87.trans (congrArg B hb47)))) rfl hJ)) ?_
       refine all_cons (obs_v rfl (by
         intro k; intro _nm ρ σm hJ hoff hdep
         have e87 : look 101 ρ 87 = (B ((r40.length : Int) == 1)) := hdep 6 rfl rfl 87 rfl
         exact dp_skip (wanted_no rfl (yv_of rfl (e87.trans (congrArg B hb47)))) rfl hJ)) ?_
       refine all_cons (obs_v rfl (by
         intro k; intro _nm ρ σm hJ hoff hdep
         have e87 : look 101 ρ 87 = (B ((r40.length : Int) == 1)) := hdep 6 rfl rfl 87 rfl
         exact dp_skip (wanted_no rfl (yv_of rfl (e87.trans (congrArg B hb47)))) rfl hJ)) ?_
       refine all_cons (obs_v rfl (by
         intro k; intro _nm ρ σm hJ hoff hdep
         have e87 : look 101 ρ 87 = (B ((r40.length : Int) == 1)) := hdep 6 rfl rfl 87 rfl
         exact dp_skip (wanted_no rfl (yv_of rfl (e87.trans (congrArg B hb47)))) rfl hJ)) ?_
       refine all_cons (obs_v rfl (by
         intro k; intro _nm ρ σm hJ hoff hdep
         have e87 : look 101 ρ 87 = (B ((r40.length : Int) == 1)) := hdep 6 rfl rfl 87 rfl
         exact dp_skip (wanted_no rfl (yv_of rfl (e87.trans (congrArg B hb47)))) rfl hJ)) ?_
       exact all_nil
      ·intro _nm ρ σ63 hJ hoff hrel
       have e87 : look 101 ρ 87 = (B ((r40.length : Int) == 1)) := hrel 6 rfl 87 rfl
       have e91 : look 101 ρ 91 = undef := hrel 10 rfl 91 rfl
       have e98 : look 101 ρ 98 = undef := hrel 17 rfl 98 rfl
       obtain ⟨H, -⟩ := (show Hp S0 σ0 σ63 [Ch.own 0 n0 (Sl a43 r40 c44) r40, Ch.ro 0 (Sl a35 r32.1 c36) r32.1, Ch.ro 0 (Sl a5 r2.1 c6) r2.1, Ch.ro 0 (Sl a29 r26.2.1 c30) r26.2.1, Ch.ro 0 (Sl a5 r2.1 c6) r2.1, Ch.ro n0 (Sl a5 r2.1 c6) r2.1] ∧ Md (cov []) σ45 σ63 from hJ)
       clear hJ Hs
       rw [fr_lookL (L := [(87, (B ((r40.length : Int) == 1))), (91, undef), (98, undef)]) ⟨e87, e91, e98, trivial⟩]
       clear hoff hrel e87 e91 e98
       refine st_skip (congrArg some hb47) ?_
       refine st (v := (B false)) (rv_pick_f (congrArg B hb47) rfl) ?_
       refine st (v := (B false)) (rv_assign rfl) ?_
       refine w_end ?_
       refine q_then ?_
       refine c_ret ?_
       obtain rfl := Option.some.inj h
       exact fin_ret (v := (B false)) (results_ok Try.results6 (res_tmp (v := (B false)) rfl res_nil) rfl) ⟨rfl, rfl⟩ (H.sel' [] rfl rfl)
    ·replace h := bif_f hb46 h
     have Hs := H
     refine rg2 (σ := σ45) (Nm := Unit) 18 [] [[]] [[(0, 0)], [(0, 0)], [(0, 0)], [(0, 0)], [(0, 0)], [(0, 0)], [(0, 0)], [(0, 0)], [(0, 0)], [(0, 0)], [(0, 0)], [(0, 0)], [(0, 0)], [(0, 0)], [(0, 0)], [(0, 0)], [(0, 0)], [(0, 0)]] 0 [fun (_nm : Unit) => fun σm => Hp S0 σ0 σm [Ch.own 0 n0 (Sl a43 r40 c44) r40, Ch.ro 0 (Sl a35 r32.1 c36) r32.1, Ch.ro 0 (Sl a5 r2.1 c6) r2.1, Ch.ro 0 (Sl a29 r26.2.1 c30) r26.2.1, Ch.ro 0 (Sl a5 r2.1 c6) r2.1, Ch.ro n0 (Sl a5 r2.1 c6) r2.1] ∧ Md (cov []) σ45 σm] [fun (_nm : Unit) => (B r32.2), fun (_nm : Unit) => (B r32.2), fun (_nm : Unit) => undef, fun (_nm : Unit) => undef, fun (_nm : Unit) => undef, fun (_nm : Unit) => (B false), fun (_nm : Unit) => (B false), fun (_nm : Unit) => undef, fun (_nm : Unit) => undef, fun (_nm : Unit) => undef, fun (_nm : Unit) => undef, fun (_nm : Unit) => undef, fun (_nm : Unit) => undef, fun (_nm : Unit) => undef, fun (_nm : Unit) => undef, fun (_nm : Unit) => undef, fun (_nm : Unit) => undef, fun (_nm : Unit) => undef] () (by kernel_rfl) (by kernel_rfl) ?_ ?_ ?_
     ·intro σm m0
      exact ⟨H.grow (m0.mono fun _ h => h.elim), m0⟩
     ·refine all_cons (obs_v rfl (by
        intro k; intro _nm ρ σm hJ hoff hdep
        have e13 : look 101 ρ 13 = (B r32.2) := look_off (hoff 13 rfl) rfl
        exact dp_v (v := (B r32.2)) (wanted_none _ rfl _) (rv_move e13) rfl hJ)) ?_
      refine all_cons (obs_v rfl (by
        intro k; intro _nm ρ σm hJ hoff hdep
        have e81 : look 101 ρ 81 = (B r32.2) := hdep 0 rfl rfl 81 rfl
        exact dp_v (v := (B r32.2)) (wanted_none _ rfl _) (rv_move e81) rfl hJ)) ?_
      refine all_cons (obs_v rfl (by
        intro k; intro _nm ρ σm hJ hoff hdep
        have e82 : look 101 ρ 82 = (B r32.2) := hdep 1 rfl rfl 82 rfl
        exact dp_skip (wanted_no rfl (yv_of rfl (e82.trans (congrArg B hb46)))) rfl hJ)) ?_
      refine all_cons (obs_v rfl (by
        intro k; intro _nm ρ σm hJ hoff hdep
        have e82 : look 101 ρ 82 = (B r32.2) := hdep 1 rfl rfl 82 rfl
        exact dp_skip (wanted_no rfl (yv_of rfl (e82.trans (congrArg B hb46)))) rfl hJ)) ?_
      refine all_cons (obs_v rfl (by
        intro k; intro _nm ρ σm hJ hoff hdep
        have e82 : look 101 ρ 82 = (B r32.2) := hdep 1 rfl rfl 82 rfl
        exact dp_skip (wanted_no rfl (yv_of rfl (e82.trans (congrArg B hb46)))) rfl hJ)) ?_
      refine all_cons (obs_v rfl (by
        intro k; intro _nm ρ σm hJ hoff hdep
        have e82 : look 101 ρ 82 = (B r32.2) := hdep 1 rfl rfl 82 rfl
        exact dp_v (v := (B false)) (wanted_none _ rfl _) (rv_pick_f (e82.trans (congrArg B hb46)) rfl) rfl hJ)) ?_
      refine all_cons (obs_v rfl (by
        intro k; intro _nm ρ σm hJ hoff hdep
        have e86 : look 101 ρ 86 = (B false) := hdep 5 rfl rfl 86 rfl
        exact dp_v (v := (B false)) (wanted_none _ rfl _) (rv_move e86) rfl hJ)) ?_
      refine all_cons (obs_v rfl (by
        intro k; intro _nm ρ σm hJ hoff hdep
        have e87 : look 101 ρ 87 = (B false) := hdep 6 rfl rfl 87 rfl
        exact dp_skip (wanted_no rfl (yv_of rfl e87)) rfl hJ)) ?_
      refine all_cons (obs_v rfl (by
        intro k; intro _nm ρ σm hJ hoff hdep
        have e87 : look 101 ρ 87 = (B false) := hdep 6 rfl rfl 87 rfl
        exact dp_skip (wanted_no rfl (yv_of rfl e87)) rfl hJ)) ?_
      refine all_cons (obs_v rfl (by
        intro k; intro _nm ρ σm hJ hoff hdep
        have e87 : look 101 ρ 87 = (B false) := hdep 6 rfl rfl 87 rfl
        exact dp_skip (wanted_no rfl (yv_of rfl e87)) rfl hJ)) ?_
      refine all_cons (obs_v rfl (by
        intro k; intro _nm ρ σm hJ hoff hdep
        have e87 : look 101 ρ 87 = (B false) := hdep 6 rfl rfl 87 rfl
        exact dp_skip (wanted_no rfl (yv_of rfl e87)) rfl hJ)) ?_
      refine all_cons (obs_v rfl (by
        intro k; intro _nm ρ σm hJ hoff hdep
        have e87 : look 101 ρ 87 = (B false) := hdep 6 rfl rfl 87 rfl
        exact dp_skip (wanted_no rfl (yv_of rfl e87)) rfl hJ)) ?_
      refine all_cons (obs_v rfl (by
        intro k; intro _nm ρ σm hJ hoff hdep
        have e87 : look 101 ρ 87 = (B false) := hdep 6 rfl rfl 87 rfl
        exact dp_skip (wanted_no rfl (yv_of rfl e87)) rfl hJ)) ?_
      refine all_cons (obs_v rfl (by
        intro k; intro _nm ρ σm hJ hoff hdep
        have e87 : look 101 ρ 87 = (B false) := hdep 6 rfl rfl 87 rfl
        exact dp_skip (wanted_no rfl (yv_of rfl e87)) rfl hJ)) ?_
      refine all_cons (obs_v rfl (by
        intro k; intro _nm ρ σm hJ hoff hdep
        have e87 : look 101 ρ 87 = (B false) := hdep 6 rfl rfl 87 rfl
        exact dp_skip (wanted_no rfl (yv_of rfl e87)) rfl hJ)) ?_
      refine all_cons (obs_v rfl (by
        intro k; intro _nm ρ σm hJ hoff hdep
        have e87 : look 101 ρ 87 = (B false) := hdep 6 rfl rfl 87 rfl
        exact dp_skip (wanted_no rfl (yv_of rfl e87)) rfl hJ)) ?_
      refine all_cons (obs_v rfl (by
        intro k; intro _nm ρ σm hJ hoff hdep
        have e87 : look 101 ρ 87 = (B false) := hdep 6 rfl rfl 87 rfl
        exact dp_skip (wanted_no rfl (yv_of rfl e87)) rfl hJ)) ?_
      refine all_cons (obs_v rfl (by
        intro k; intro _nm ρ σm hJ hoff hdep
        have e87 : look 101 ρ 87 = (B false) := hdep 6 rfl rfl 87 rfl
        exact dp_skip (wanted_no rfl (yv_of rfl e87)) rfl hJ)) ?_
      exact all_nil
     ·intro _nm ρ σ64 hJ hoff hrel
      have e87 : look 101 ρ 87 = (B false) := hrel 6 rfl 87 rfl
      have e91 : look 101 ρ 91 = undef := hrel 10 rfl 91 rfl
      have e98 : look 101 ρ 98 = undef := hrel 17 rfl 98 rfl
      obtain ⟨H, -⟩ := (show Hp S0 σ0 σ64 [Ch.own 0 n0 (Sl a43 r40 c44) r40, Ch.ro 0 (Sl a35 r32.1 c36) r32.1, Ch.ro 0 (Sl a5 r2.1 c6) r2.1, Ch.ro 0 (Sl a29 r26.2.1 c30) r26.2.1, Ch.ro 0 (Sl a5 r2.1 c6) r2.1, Ch.ro n0 (Sl a5 r2.1 c6) r2.1] ∧ Md (cov []) σ45 σ64 from hJ)
      clear hJ Hs
      rw [fr_lookL (L := [(87, (B false)), (91, undef), (98, undef)]) ⟨e87, e91, e98, trivial⟩]
      clear hoff hrel e87 e91 e98
      refine st_skip rfl ?_
      refine st (v := (B false)) (rv_pick_f rfl rfl) ?_
      refine st (v := (B false)) (rv_assign rfl) ?_
      refine w_end ?_
      refine q_then ?_
      refine c_ret ?_
      obtain rfl := Option.some.inj h
      exact fin_ret (v := (B false)) (results_ok Try.results6 (res_tmp (v := (B false)) rfl res_nil) rfl) ⟨rfl, rfl⟩ (H.sel' [] rfl rfl)

end Go.Vs
