/- The functions compute what their models say. -/
import Derived.Test.YtbbddfckcpfoaaaGreatKWalkToC1
set_option linter.unusedVariables false
set_option linter.unusedSimpArgs false
set_option maxRecDepth 20000
namespace Go.Vs
open Go Go.Proofs
attribute [local irreducible] Code.wp Code.wpIn wpList wpListIn wpQuiet Calls CallsIn

theorem c_impl_linkItems {Ax : List (Int × (List Int) × Int)} {Bh : Int} {Bi : Int} {Az : Option Addr} {Ba : Nat} {r : (List (Int × (List (Int × (List Int) × Int))))} (h : M.impl_linkItems Ax Bh Bi = some r) :
    Cal2 Tryz.prog 89 [(Sl Az Ax Ba), (I Bh), (I Bi)] [Ch.ro 0 (Sl Az Ax Ba) Ax] (fun n0 v L => ∃ (bz1 : Nat), ∃ (Kz2 : List Ch), v = (.map (some bz1)) ∧ L = [Ch.big Kz2] ∧ Mp 0 0 bz1 r Kz2) := by
 refine cal2 (n := 38) Tryz.func89 rfl rfl rfl rfl ?_
 intro S0 σ0 n0 hn0 H
 unfold M.impl_linkItems at h
 refine c_seq (rg (sa (.map none) rfl (w_end (q_then (c_seq (rg (st_ex (ex_makeMap (lo := 0) (Int × (List Int) × Int) 0 H (Nat.zero_le _)) wn ?_)))))))
 rintro _ σ4 ⟨b1, K2, rfl, hK3, H, -⟩
 refine sa (.map (some b1)) rfl (w_end (q_then (c_seq (c_seq (rg (sm (Sl Az Ax Ba) rfl (st (v := (I (Ax.length : Int))) (rv_len Tryz.underlying26 rfl) (sm (I 0) rfl (w_end (q_then ?_))))))))))
 obtain ⟨o5, hj, h'⟩ := bind_some h
 clear h
 refine c_cut (fun e a w => e = .normal ∧ ∃ (ρ : Nat → Value) (σ : St) (bj1 : Nat) (Kj2 : List Ch), a = fr 38 (updL ρ [(7, (.map (some bj1)))]) ∧ w = σ.w ∧ Hp S0 σ0 σ [Ch.big Kj2] ∧ Mp 0 0 bj1 o5 Kj2) ?_ ?_
 ·clear h'
  rename _ = some o5 => h
  refine c_blk (wp_loopM _ h (fun s6 a w => ∃ (ρ : Nat → Value) (σ : St) (bj1 : Nat) (Kj2 : List Ch), a = fr 38 (updL ρ [(0, (Sl Az Ax Ba)), (1, (I Bh)), (2, (I Bi)), (7, (.map (some bj1))), (13, (Sl Az Ax Ba)), (14, (I (Ax.length : Int))), (15, (I s6.2))]) ∧ w = σ.w ∧ Hp S0 σ0 σ [Ch.ro 0 (Sl Az Ax Ba) Ax, Ch.big Kj2] ∧ Mp 0 0 bj1 s6.1 Kj2) ⟨_, σ4, b1, K2, fr_join ⟨rfl, rfl, rfl, rfl, rfl, rfl, rfl, trivial⟩, rfl, H.sel' [1, 0] rfl rfl, hK3⟩ ?_)
  clear h H
  rintro s6 a w o ⟨ρ, σ7, b8, K9, rfl, rfl, H, hK10⟩ h hres
  refine c_seq (rg (st (v := (B (decide (s6.2 < (Ax.length : Int))))) (rv_lss (a := s6.2) (b := (Ax.length : Int)) rfl rfl) (w_end (q_then (c_seq ?_)))))
  refine cd_cond (decide (s6.2 < (Ax.length : Int))) rfl (fun hb11 => ?_) (fun hb11 => ?_)
  ·replace h := bif_t hb11 h
   refine c_skip (q_then (c_seq (c_blk (c_seq (rg ?_)))))
   revert h; refine br fun x12 hx13 h => ?_
   obtain ⟨b15, o16, hi14, -⟩ := (H.ro 0 rfl).ix hx13
   refine st (v := (pt b15 o16)) (rv_ix Tryz.underlying26 ti34 rfl rfl hi14) ?_
   obtain ⟨_, ⟨_, _, rfl, rfl, ⟨_, _, rfl, ⟨_, rfl, hR21⟩, rfl⟩⟩, hl17, hc18⟩ := ((H.ro 0 rfl).at hx13 hi14).cells
   obtain ⟨a19, c20, rfl⟩ := hR21.isSl
   replace H := H.add (d := Ch.ro 0 (Sl a19 x12.2.1 c20) x12.2.1) hR21 (fun _ h => h)
   clear hR21
   refine st (v := (.agg #[(I x12.1), (Sl a19 x12.2.1 c20), (I x12.2.2)])) (rv_load Tryz.underlying34 rfl ti34 rfl hl17 hc18) (st_ex (ex_alloc (cs := [(I 0), (.slice none 0 0), (I 0)]) H hn0 ti34 rfl) wn ?_)
   rintro _ σ23 ⟨b22, rfl, H, -⟩
   refine st_exS (ex_store_box (k := 0) (cs := [(I 0), (.slice none 0 0), (I 0)]) (vs := [(I x12.1), (Sl a19 x12.2.1 c20), (I x12.2.2)]) (cs' := [(I x12.1), (Sl a19 x12.2.1 c20), (I x12.2.2)]) H (i := 0) rfl ti34 rfl rfl rfl rfl rfl (Nat.le_of_ble_eq_true rfl) (by simp [plain]) rfl) wn ?_
   rintro σ24 ⟨H, -⟩
   refine w_end (q_then (c_seq (rg (sm (Sl Az Ax Ba) rfl (st (v := (.func (.func 140) #[] #[(pt b22 0)])) (rv_makeFunc (vs := [(pt b22 0)]) rfl) ?_)))))
   revert h; refine br fun r25 hx26 h => ?_
   have hc27 := c_impl_itemsThat__impl_linkItems_1 (Az := Az) (Ba := Ba) (Ds := n0) (Dt := b22) (Du := 0) (Dv := []) (Dw := []) (Dq := a19) (Dr := c20) hx26
   refine st_call (cx_call hc27 (ent_f hc27.fn rfl) hn0 (H.sel' [2, 0, 1, 1, 2, 3] rfl rfl : Hp S0 σ0 _ ([_, _, _] ++ _))) wn ?_
   rintro _ σ30 ⟨_, ⟨a28, c29, rfl, rfl⟩, H, -⟩
   replace H : Hp _ _ _ [_, _, _, _, _] := H
   refine sa (Sl a28 r25 c29) rfl (w_end (q_then (c_seq (rg (sm (Sl a28 r25 c29) rfl (sm (I Bh) rfl (st (v := (pt b22 1)) (rv_fieldAddr (off := 1) (ft := 27) Tryz.underlying34 rfl ti27 rfl rfl) ?_)))))))
   have hc31 := H.cell (u := (Sl a19 x12.2.1 c20)) (o' := 1) 1 1 rfl rfl rfl
   refine st (v := (Sl a19 x12.2.1 c20)) (rv_load1 Tryz.underlying27 rfl rfl hc31) ?_
   obtain ⟨σ32, hw33, H, -⟩ := H.pub 0 rfl (Nat.zero_le _)
   rw [← hw33]; clear hw33
   revert h; refine br fun r34 hx35 h => ?_
   have hc36 := c_impl_sortByDistance (Az := a28) (Ba := c29) (Bt := a19) (Bu := c20) hx35
   refine st_call (cx_call hc36 (ent_f hc36.fn rfl) hn0 (H.sel' [0, 2, 0, 1, 2, 3, 4] rfl rfl : Hp S0 σ0 _ ([_, _] ++ _))) wn ?_
   rintro _ σ39 ⟨_, ⟨a37, c38, rfl, rfl⟩, H, -⟩
   replace H : Hp _ _ _ [_, _, _, _, _, _] := H
   refine sa (Sl a37 r34 c38) rfl (w_end (q_then ?_))
   refine rgP (σ := σ39) 9 (by kernel_rfl) (by kernel_rfl) (by kernel_rfl) ?_
   refine sq (v := (.map (some b8))) (rv_move rfl) (sq (v := (pt b22 0)) (rv_fieldAddr (off := 0) (ft := 3) Tryz.underlying34 rfl ti3 rfl rfl) ?_)
   have hc40 := H.cell (u := (I x12.1)) (o' := 0) 2 0 rfl rfl rfl
   refine sq (v := (I x12.1)) (rv_load1 Tryz.underlying3 rfl rfl hc40) (sq (v := (Sl a37 r34 c38)) (rv_move rfl) (sq (v := (I Bi)) (rv_move rfl) (sq (v := (Sl a37 r34 c38)) (rv_move rfl) (sq (v := (I (r34.length : Int))) (rv_len Tryz.underlying26 rfl) (sq (v := (I (min Bi (r34.length : Int)))) (rv_min rfl rfl) ?_)))))
   revert h; refine br fun xs41 hx42 h => ?_
   obtain ⟨a43, c44, hs45, hR46, hb47⟩ := (H.own 0 rfl).slice hx42
   replace H := (H.front (i := 0) rfl).turn (d := Ch.own 0 0 (Sl a43 xs41 c44) xs41) (fun _ => hR46) hb47; clear hR46 hb47
   refine sq (v := (Sl a43 xs41 c44)) (rv_slice_h Tryz.underlying26 ti34 hs45 rfl rfl) (sq_end ?_)
   intro σ48 hm49
   replace H := H.grow (hm49.mono fun _ h => h); clear hm49
   obtain ⟨v50, K51, H, hK52⟩ := H.mpOut x12.1 5 rfl hK10
   replace H := H.sel' [1, 2, 3, 4, 5, 6] rfl rfl
   replace H := H.sel' [0, 1, 2, 3, 4, 5] rfl rfl
   obtain ⟨K53, hK54, he55⟩ := hK52.put (Sl a43 xs41 c44) xs41
   refine st_exS (he55 (ty := _) H Tryz.underlying111 Tryz.underlying3 rfl rfl rfl) wn ?_
   rintro σ56 ⟨H, -⟩
   refine w_end (q_blk (q_then (rg (st (v := (I (w64 (s6.2 + 1)))) (rv_add (a := s6.2) (b := 1) rfl rfl) (sm (I (w64 (s6.2 + 1))) rfl (w_end (q_then ?_)))))))
   obtain rfl := sj h
   exact ⟨_, rfl, _, σ56, b8, K53, fr_join ⟨rfl, rfl, rfl, rfl, rfl, rfl, rfl, trivial⟩, rfl, H.sel' [4, 0] rfl rfl, hK54⟩
  ·replace h := bif_f hb11 h
   refine c_exit (q_then_x (q_then_x (q_blk_hit ?_)))
   obtain rfl := sj h
   obtain rfl := hres _ rfl
   exact ⟨rfl, _, σ7, b8, K9, fr_join ⟨rfl, trivial⟩, rfl, H.sel' [1] rfl rfl, hK10⟩
 ·clear hj
  have h := h'
  clear h' H
  rintro e a w ⟨rfl, ρ, σ57, b58, K59, rfl, rfl, H, hK60⟩
  refine q_then (c_seq (rg (sm (.map (some b58)) rfl (sa (.map (some b58)) rfl (w_end (q_then (c_ret ?_)))))))
  obtain rfl := sj h
  exact fin_ret (v := (.map (some b58))) (results_ok Tryz.results89 (res_tmp (v := (.map (some b58))) rfl res_nil) rfl) ⟨b58, K59, rfl, rfl, hK60⟩ (H.sel' [0] rfl rfl)

theorem c_impl_LinksOf {Ax : List (Int × (List Int) × Int)} {Bh : Int} {Bi : Int} {Az : Option Addr} {Ba : Nat} {r : (List (List Int))} (h : M.impl_LinksOf Ax Bh Bi = some r) :
    Cal2 Tryz.prog 31 [(Sl Az Ax Ba), (I Bh), (I Bi)] [Ch.ro 0 (Sl Az Ax Ba) Ax] (fun n0 v L => ∃ (az1 : Option Addr), ∃ (cz2 : Nat), v = (Sl az1 r cz2) ∧ L = [Ch.own n0 n0 (Sl az1 r cz2) r] ∧ cz2 = r.length) := by
 refine cal2 (n := 40) Tryz.func31 rfl rfl rfl rfl ?_
 intro S0 σ0 n0 hn0 H
 unfold M.impl_LinksOf at h
 refine c_seq (rg (sa (.slice none 0 0) rfl (w_end (q_then (c_seq (c_seq (rg (sm (Sl Az Ax Ba) rfl (sm (I Bh) rfl (sm (I Bi) rfl ?_))))))))))
 revert h; refine br fun r1 hx2 h => ?_
 have hc3 := c_impl_validLinks (Az := Az) (Ba := Ba) hx2
 refine st_call (cx_call hc3 (ent_f hc3.fn rfl) hn0 (H.sel' [0, 0] rfl rfl : Hp S0 σ0 _ ([_] ++ _))) wn ?_
 rintro _ σ4 ⟨_, ⟨rfl, rfl⟩, H, -⟩
 replace H : Hp _ _ _ [_] := H
 refine st (v := (B (!r1))) (rv_not rfl) (w_end (q_then ?_))
 refine cd_cond (!r1) rfl (fun hb5 => ?_) (fun hb5 => ?_)
 ·replace h := bif_t hb5 h
  refine c_seq (rg (sa (.slice none 0 0) rfl (w_end (q_then (c_ret (q_then_r ?_))))))
  replace H := H.nilOwn (List Int) n0 n0
  obtain rfl := sj h
  exact fin_ret (v := (.slice none 0 0)) (results_ok Tryz.results31 (res_tmp (v := (.slice none 0 0)) rfl res_nil) rfl) ⟨none, 0, rfl, rfl, rfl⟩ (H.sel' [0] rfl rfl)
 ·replace h := bif_f hb5 h
  refine c_skip (q_then (c_seq (rg (sm (Sl Az Ax Ba) rfl (sm (I Bh) rfl (sm (I Bi) rfl ?_))))))
  revert h; refine br fun r6 hx7 h => ?_
  have hc8 := c_impl_linkItems (Az := Az) (Ba := Ba) hx7
  refine st_call (cx_call hc8 (ent_f hc8.fn rfl) hn0 (H.sel' [0, 0] rfl rfl : Hp S0 σ0 _ ([_] ++ _))) wn ?_
  rintro _ σ12 ⟨_, ⟨b9, K10, rfl, rfl, hK11⟩, H, -⟩
  replace H : Hp _ _ _ [_, _] := H
  refine sa (.map (some b9)) rfl (w_end (q_then (c_seq (rg (sm (Sl Az Ax Ba) rfl (st (v := (I (Ax.length : Int))) (rv_len Tryz.underlying26 rfl) ?_))))))
  revert h; refine br fun xs13 hx14 h => ?_
  refine st_ex (ex_make (el := n0) (z0 := ([] : List Int)) (zs := [(.slice none 0 0)]) H hn0 Tryz.underlying23 ti27 rfl rfl (⟨_, rfl, RS.nil⟩) (by decide) hx14 rfl rfl) wn ?_
  rintro _ σ18 ⟨b15, c16, rfl, ht17, H, -⟩
  replace ht17 := ht17.trans (gmake_len hx14).symm
  refine sa (Sl (some ⟨b15, 0, none⟩) xs13 c16) rfl (w_end (q_then (c_seq (c_seq (rg (sm (Sl Az Ax Ba) rfl (st (v := (I (Ax.length : Int))) (rv_len Tryz.underlying26 rfl) (sm (I 0) rfl (w_end (q_then ?_))))))))))
  obtain ⟨o19, hj, h'⟩ := bind_some h
  clear h
  refine c_cut (fun e a w => e = .normal ∧ ∃ (ρ : Nat → Value) (σ : St), a = fr 40 (updL ρ [(8, (Sl (some ⟨b15, 0, none⟩) o19 c16))]) ∧ w = σ.w ∧ Hp S0 σ0 σ [Ch.own n0 n0 (Sl (some ⟨b15, 0, none⟩) o19 c16) o19] ∧ c16 = o19.length ∧ o19.length = xs13.length) ?_ ?_
  ·clear h'
   rename _ = some o19 => h
   refine c_blk ?_
   obtain ⟨σ21, hw22, H, -⟩ := H.mpPub 1 rfl hK11
   rw [← hw22]; clear hw22
   refine wp_loopM _ h (fun s20 a w => ∃ (ρ : Nat → Value) (σ : St), a = fr 40 (updL ρ [(7, (.map (some b9))), (8, (Sl (some ⟨b15, 0, none⟩) s20.1 c16)), (23, (Sl Az Ax Ba)), (24, (I (Ax.length : Int))), (25, (I s20.2))]) ∧ w = σ.w ∧ Hp S0 σ0 σ [Ch.mr b9 r6, Ch.own n0 n0 (Sl (some ⟨b15, 0, none⟩) s20.1 c16) s20.1, Ch.ro 0 (Sl Az Ax Ba) Ax] ∧ c16 = s20.1.length ∧ s20.1.length = xs13.length) ⟨_, σ21, fr_join ⟨rfl, rfl, rfl, rfl, rfl, trivial⟩, rfl, H.sel' [0, 1, 2] rfl rfl, ht17, rfl⟩ ?_
   clear h H
   rintro s20 a w o ⟨ρ, σ23, rfl, rfl, H, ht24, hn25⟩ h hres
   refine c_seq (rg (st (v := (B (decide (s20.2 < (Ax.length : Int))))) (rv_lss (a := s20.2) (b := (Ax.length : Int)) rfl rfl) (w_end (q_then (c_seq ?_)))))
   refine cd_cond (decide (s20.2 < (Ax.length : Int))) rfl (fun hb26 => ?_) (fun hb26 => ?_)
   ·replace h := bif_t hb26 h
    refine c_skip (q_then (c_seq (c_blk (c_seq (rg (sm (I s20.2) rfl ?_))))))
    revert h; refine br fun x27 hx28 h => ?_
    obtain ⟨b30, o31, hi29, -⟩ := (H.ro 2 rfl).ix hx28
    refine st (v := (pt b30 o31)) (rv_ix Tryz.underlying26 ti34 rfl rfl hi29) ?_
    obtain ⟨_, ⟨_, _, rfl, rfl, ⟨_, _, rfl, ⟨_, rfl, hR36⟩, rfl⟩⟩, hl32, hc33⟩ := ((H.ro 2 rfl).at hx28 hi29).cells
    obtain ⟨a34, c35, rfl⟩ := hR36.isSl
    replace H := H.add (d := Ch.ro 0 (Sl a34 x27.2.1 c35) x27.2.1) hR36 (fun _ h => h)
    clear hR36
    refine st (v := (.agg #[(I x27.1), (Sl a34 x27.2.1 c35), (I x27.2.2)])) (rv_load Tryz.underlying34 rfl ti34 rfl hl32 hc33) (st_ex (ex_alloc (cs := [(I 0), (.slice none 0 0), (I 0)]) H hn0 ti34 rfl) wn ?_)
    rintro _ σ38 ⟨b37, rfl, H, -⟩
    refine sa (I s20.2) rfl ?_
    refine st_exS (ex_store_box (k := 0) (cs := [(I 0), (.slice none 0 0), (I 0)]) (vs := [(I x27.1), (Sl a34 x27.2.1 c35), (I x27.2.2)]) (cs' := [(I x27.1), (Sl a34 x27.2.1 c35), (I x27.2.2)]) H (i := 0) rfl ti34 rfl rfl rfl rfl rfl (Nat.le_of_ble_eq_true rfl) (by simp [plain]) rfl) wn ?_
    rintro σ39 ⟨H, -⟩
    refine w_end (q_then (rg (sm (Sl (some ⟨b15, 0, none⟩) s20.1 c16) rfl (sm (I s20.2) rfl (sm (.map (some b9)) rfl (st (v := (pt b37 0)) (rv_fieldAddr (off := 0) (ft := 3) Tryz.underlying34 rfl ti3 rfl rfl) ?_))))))
    have hc40 := H.cell (u := (I x27.1)) (o' := 0) 0 0 rfl rfl rfl
    refine st (v := (I x27.1)) (rv_load1 Tryz.underlying3 rfl rfl hc40) ?_
    obtain ⟨v44, hL43, hR45⟩ := mrGet (H.mr 2 rfl) x27.1
    obtain ⟨a41, c42, rfl⟩ := hR45.isSl
    replace H := H.add (d := Ch.ro 0 (Sl a41 (mget r6 x27.1) c42) (mget r6 x27.1)) hR45 (fun _ h => h)
    clear hR45
    refine st (v := (Sl a41 (mget r6 x27.1) c42)) (rv_lookup Tryz.underlying111 Tryz.underlying3 ti26 rfl rfl hL43) ?_
    revert h; refine br fun r46 hx47 h => ?_
    have hc48 := c_impl_keysOf (Az := a41) (Ba := c42) hx47
    refine st_call (cx_call hc48 (ent_f hc48.fn rfl) hn0 (H.sel' [0, 0, 1, 2, 3, 4, 5] rfl rfl : Hp S0 σ0 _ ([_] ++ _))) wn ?_
    rintro _ σ52 ⟨_, ⟨a49, c50, rfl, rfl, ht51⟩, H, -⟩
    replace H : Hp _ _ _ [_, _, _, _, _, _, _] := H
    revert h; refine br fun x53 hx54 h => ?_
    obtain ⟨b56, o57, hi55, -⟩ := (H.own 5 rfl).ix hx54
    refine st (v := (pt b56 o57)) (rv_ix Tryz.underlying23 ti27 rfl rfl hi55) ?_
    obtain ⟨σ58, hw59, H, -⟩ := H.pub 0 rfl (Nat.le_refl _)
    rw [← hw59]; clear hw59
    refine st_exS (ex_store_own (e' := r46) (vs := [(Sl a49 r46 c50)]) (k := 0) H (i := 5) rfl ti27 hx54 hi55 rfl rfl rfl rfl rfl (Nat.le_of_ble_eq_true rfl) (by simp [plain]) (by rintro _ ⟨_, rfl, hR62⟩; exact ⟨_, rfl, (H.ro 0 rfl)⟩)) wn ?_
    rintro σ63 ⟨H, -⟩
    have hsl : (Sl (some ⟨b15, 0, none⟩) s20.1 c16) = (Sl (some ⟨b15, 0, none⟩) (s20.1.set s20.2.toNat r46) c16) := sl_len List.length_set.symm
    rw [hsl]; rw [hsl] at H; clear hsl
    refine w_end (q_blk (q_then (rg (st (v := (I (w64 (s20.2 + 1)))) (rv_add (a := s20.2) (b := 1) rfl rfl) (sm (I (w64 (s20.2 + 1))) rfl (w_end (q_then ?_)))))))
    obtain rfl := sj h
    exact ⟨_, rfl, _, σ63, fr_join ⟨rfl, rfl, rfl, rfl, rfl, trivial⟩, rfl, H.sel' [5, 0, 6] rfl rfl, (ht24.trans List.length_set.symm), (List.length_set.trans hn25)⟩
   ·replace h := bif_f hb26 h
    refine c_exit (q_then_x (q_then_x (q_blk_hit ?_)))
    obtain rfl := sj h
    obtain rfl := hres _ rfl
    exact ⟨rfl, _, σ23, fr_join ⟨rfl, trivial⟩, rfl, H.sel' [1] rfl rfl, ht24, hn25⟩
  ·clear hj
   have h := h'
   clear h' H
   rintro e a w ⟨rfl, ρ, σ64, rfl, rfl, H, ht65, hn66⟩
   refine q_then (c_seq (rg (sm (Sl (some ⟨b15, 0, none⟩) o19 c16) rfl (sa (Sl (some ⟨b15, 0, none⟩) o19 c16) rfl (w_end (q_then (c_ret ?_)))))))
   obtain rfl := sj h
   exact fin_ret (v := (Sl (some ⟨b15, 0, none⟩) o19 c16)) (results_ok Tryz.results31 (res_tmp (v := (Sl (some ⟨b15, 0, none⟩) o19 c16)) rfl res_nil) rfl) ⟨(some ⟨b15, 0, none⟩), c16, rfl, rfl, ht65⟩ (H.sel' [0] rfl rfl)

theorem c_laws_equalInts {Ak : List Int} {Am : List Int} {Dx : Option Addr} {Dy : Nat} {Dz : Option Addr} {Ea : Nat} {r : Bool} (h : M.laws_equalInts Ak Am = some r) :
    Cal2 Tryz.prog 35 [(Sl Dx Ak Dy), (Sl Dz Am Ea)] [Ch.ro 0 (Sl Dx Ak Dy) Ak, Ch.ro 0 (Sl Dz Am Ea) Am] (fun n0 v L => v = (B r) ∧ L = []) := by
 refine cal2 (n := 26) Tryz.func35 rfl rfl rfl rfl ?_
 intro S0 σ0 n0 hn0 H
 unfold M.laws_equalInts at h
 refine c_seq (rg (sa (B false) rfl (w_end (q_then (c_seq (c_seq (rg (sm (Sl Dx Ak Dy) rfl (st (v := (I (Ak.length : Int))) (rv_len Tryz.underlying27 rfl) (sm (Sl Dz Am Ea) rfl (st (v := (I (Am.length : Int))) (rv_len Tryz.underlying27 rfl) ?_)))))))))))
 refine st (v := (B ((Ak.length : Int) != (Am.length : Int)))) (rv_neq (a := (Ak.length : Int)) (b := (Am.length : Int)) rfl rfl) (w_end (q_then ?_))
 refine cd_cond ((Ak.length : Int) != (Am.length : Int)) rfl (fun hb1 => ?_) (fun hb1 => ?_)
 ·replace h := bif_t hb1 h
  refine c_seq (rg (sa (B false) rfl (w_end (q_then (c_ret (q_then_r ?_))))))
  obtain rfl := sj h
  exact fin_ret (v := (B false)) (results_ok Tryz.results35 (res_tmp (v := (B false)) rfl res_nil) rfl) ⟨rfl, rfl⟩ (H.sel' [] rfl rfl)
 ·replace h := bif_f hb1 h
  refine c_skip (q_then (c_seq (c_seq (rg (sa (I 0) rfl (w_end (q_then ?_)))))))
  obtain ⟨o2, hj, h'⟩ := bind_some h
  clear h
  refine c_cut (fun e a w => (∃ t, o2 = (.inl t) ∧ e = .normal ∧ ∃ (ρ : Nat → Value) (σ : St), a = fr 26 (updL ρ []) ∧ w = σ.w ∧ Hp S0 σ0 σ []) ∨ (∃ t, o2 = (.inr t) ∧ e = .ret ∧ ∃ (ρ : Nat → Value) (σ : St), a = fr 26 (updL ρ [(4, (B t))]) ∧ w = σ.w ∧ Hp S0 σ0 σ [])) ?_ ?_
  ·clear h'
   rename _ = some o2 => h
   refine c_blk (wp_loopM _ h (fun s3 a w => ∃ (ρ : Nat → Value) (σ : St), a = fr 26 (updL ρ [(0, (Sl Dx Ak Dy)), (1, (Sl Dz Am Ea)), (5, (I s3))]) ∧ w = σ.w ∧ Hp S0 σ0 σ [Ch.ro 0 (Sl Dx Ak Dy) Ak, Ch.ro 0 (Sl Dz Am Ea) Am]) ⟨_, σ0, fr_join ⟨rfl, rfl, rfl, trivial⟩, rfl, H.sel' [0, 1] rfl rfl⟩ ?_)
   clear h H
   rintro s3 a w o ⟨ρ, σ4, rfl, rfl, H⟩ h hres
   refine c_seq (c_seq (rg (sm (I s3) rfl (sm (Sl Dx Ak Dy) rfl (st (v := (I (Ak.length : Int))) (rv_len Tryz.underlying27 rfl) (st (v := (B (decide (s3 < (Ak.length : Int))))) (rv_lss (a := s3) (b := (Ak.length : Int)) rfl rfl) (w_end (q_then ?_))))))))
   refine cd_cond (decide (s3 < (Ak.length : Int))) rfl (fun hb5 => ?_) (fun hb5 => ?_)
   ·replace h := bif_t hb5 h
    refine c_skip (q_then (c_seq (c_blk (c_seq ?_))))
    refine rgP (σ := σ4) 8 (by kernel_rfl) (by kernel_rfl) (by kernel_rfl) ?_
    refine sq (v := (Sl Dx Ak Dy)) (rv_move rfl) (sq (v := (I s3)) (rv_move rfl) ?_)
    revert h; refine br fun x6 hx7 h => ?_
    obtain ⟨b9, o10, hi8, -⟩ := (H.ro 0 rfl).ix hx7
    refine sq (v := (pt b9 o10)) (rv_ix Tryz.underlying27 ti3 rfl rfl hi8) ?_
    have hc11 := ((H.ro 0 rfl).at hx7 hi8).int
    refine sq (v := (I x6)) (rv_load1 Tryz.underlying3 rfl rfl hc11) (sq (v := (Sl Dz Am Ea)) (rv_move rfl) (sq (v := (I s3)) (rv_move rfl) ?_))
    revert h; refine br fun x12 hx13 h => ?_
    obtain ⟨b15, o16, hi14, -⟩ := (H.ro 1 rfl).ix hx13
    refine sq (v := (pt b15 o16)) (rv_ix Tryz.underlying27 ti3 rfl rfl hi14) ?_
    have hc17 := ((H.ro 1 rfl).at hx13 hi14).int
    refine sq (v := (I x12)) (rv_load1 Tryz.underlying3 rfl rfl hc17) (sq_end ?_)
    intro σ18 hm19
    replace H := H.grow (hm19.mono fun _ h => h); clear hm19
    refine st (v := (B (x6 != x12))) (rv_neq (a := x6) (b := x12) rfl rfl) (w_end (q_then ?_))
    refine cd_cond (x6 != x12) rfl (fun hb20 => ?_) (fun hb20 => ?_)
    ·replace h := bif_t hb20 h
     refine c_seq (rg (sa (B false) rfl (w_end (q_then (c_ret (q_blk_r (q_then_r (q_then_r (q_blk_r ?_)))))))))
     obtain rfl := sj h
     obtain rfl := hres _ rfl
     exact .inr (⟨_, rfl, rfl, _, σ18, fr_join ⟨rfl, trivial⟩, rfl, H.sel' [] rfl rfl⟩)
    ·replace h := bif_f hb20 h
     refine c_skip (q_blk (q_then (rg (sm (I s3) rfl (st (v := (I (w64 (s3 + 1)))) (rv_add (a := s3) (b := 1) rfl rfl) (sa (I (w64 (s3 + 1))) rfl (w_end (q_then ?_))))))))
     obtain rfl := sj h
     exact ⟨_, rfl, _, σ18, fr_join ⟨rfl, rfl, rfl, trivial⟩, rfl, H.sel' [0, 1] rfl rfl⟩
   ·replace h := bif_f hb5 h
    refine c_exit (q_then_x (q_then_x (q_blk_hit ?_)))
    obtain rfl := sj h
    obtain rfl := hres _ rfl
    exact .inl ⟨_, rfl, rfl, _, σ4, fr_join trivial, rfl, H.sel' [] rfl rfl⟩
  ·clear hj
   have h := h'
   clear h' H
   rintro e a w (⟨t21, rfl, rfl, ρ, σ22, rfl, rfl, H⟩ | ⟨t23, rfl, rfl, ρ, σ24, rfl, rfl, H⟩)
   ·replace h := selim_l h
    refine q_then (c_seq (rg (sa (B true) rfl (w_end (q_then (c_ret ?_))))))
    obtain rfl := sj h
    exact fin_ret (v := (B true)) (results_ok Tryz.results35 (res_tmp (v := (B true)) rfl res_nil) rfl) ⟨rfl, rfl⟩ (H.sel' [] rfl rfl)
   ·replace h := selim_r h
    refine q_then_r ?_
    obtain rfl := sj h
    exact fin_ret (v := (B t23)) (results_ok Tryz.results35 (res_tmp (v := (B t23)) rfl res_nil) rfl) ⟨rfl, rfl⟩ (H.sel' [] rfl rfl)

theorem c_spec_newReader {Eb : List UInt8} {Ec : Option Addr} {Ed : Nat} {r : ((List UInt8) × Int)} (h : M.spec_newReader Eb = some r) :
    Cal2 Tryz.prog 48 [(Sl Ec Eb Ed)] [Ch.ro 0 (Sl Ec Eb Ed) Eb] (fun n0 v L => ∃ (bz1 : Nat), ∃ (az2 : Option Addr), ∃ (cz3 : Nat), v = (pt bz1 0) ∧ L = [Ch.bx n0 bz1 0 [(Sl az2 r.1 cz3), (I r.2)] [] [], Ch.ro 0 (Sl az2 r.1 cz3) r.1]) := by
 refine cal2 (n := 11) Tryz.func48 rfl rfl rfl rfl ?_
 intro S0 σ0 n0 hn0 H
 unfold M.spec_newReader at h
 refine c_seq (rg (sa (.pointer none) rfl (w_end (q_then (c_seq (c_seq (rg (sm (Sl Ec Eb Ed) rfl (st (v := (I (Eb.length : Int))) (rv_len Tryz.underlying22 rfl) (st (v := (B (decide (2000 < (Eb.length : Int))))) (rv_gtr (a := (Eb.length : Int)) (b := 2000) rfl rfl) (w_end ?_)))))))))))
 refine q_then ?_
 obtain ⟨o1, hj, h'⟩ := bind_some h
 clear h
 refine c_cut (fun e a w => e = .normal ∧ ∃ (ρ : Nat → Value) (σ : St) (aj1 : Option Addr) (cj2 : Nat), a = fr 11 (updL ρ [(0, (Sl aj1 o1 cj2))]) ∧ w = σ.w ∧ Hp S0 σ0 σ [Ch.ro 0 (Sl aj1 o1 cj2) o1]) ?_ ?_
 ·clear h'
  rename _ = some o1 => h
  refine cd_cond (decide (2000 < (Eb.length : Int))) rfl (fun hb2 => ?_) (fun hb2 => ?_)
  ·replace h := bif_t hb2 h
   refine rg (sm (Sl Ec Eb Ed) rfl ?_)
   revert h; refine br fun xs3 hx4 h => ?_
   obtain ⟨a5, c6, hs7, hR8⟩ := (H.ro 0 rfl).slice hx4
   replace H := H.add (d := Ch.ro 0 (Sl a5 xs3 c6) xs3) hR8 (fun _ h => h)
   clear hR8
   refine st (v := (Sl a5 xs3 c6)) (rv_slice_h Tryz.underlying22 ti5 hs7 rfl rfl) (sa (Sl a5 xs3 c6) rfl (w_end ?_))
   obtain rfl := sj h
   exact ⟨rfl, _, σ0, a5, c6, fr_join ⟨rfl, trivial⟩, rfl, H.sel' [0] rfl rfl⟩
  ·replace h := bif_f hb2 h
   refine c_skip ?_
   obtain rfl := sj h
   exact ⟨rfl, _, σ0, Ec, Ed, fr_join ⟨rfl, trivial⟩, rfl, H.sel' [0] rfl rfl⟩
 ·clear hj
  have h := h'
  clear h' H
  rintro e a w ⟨rfl, ρ, σ9, a10, c11, rfl, rfl, H⟩
  refine q_then (c_seq (rg (sm (Sl a10 o1 c11) rfl ?_)))
  refine st (v := (.agg #[(Sl a10 o1 c11), (I 0)])) (rv_build (ps := [(0, (Sl a10 o1 c11))]) Tryz.underlying126 ti126 (bp126 Tryz.underlying126) rfl (by kernel_rfl)) ?_
  refine st_ex (ex_box (cs := [(Sl a10 o1 c11), (I 0)]) H hn0 rfl rfl) wn ?_
  rintro _ σ13 ⟨b12, rfl, H, -⟩
  refine sa (pt b12 0) rfl (w_end (q_then (c_ret ?_)))
  obtain rfl := sj h
  exact fin_ret (v := (pt b12 0)) (results_ok Tryz.results48 (res_tmp (v := (pt b12 0)) rfl res_nil) rfl) ⟨b12, a10, c11, rfl, rfl⟩ (H.sel' [0, 1] rfl rfl)

theorem c_spec_reader_pick {Bm : (List UInt8) × Int} {Bb : Int} {Ee : Option Addr} {Ef : Nat} {Bn Bo Bp : Nat} {Bq Br : List Value} {r : Int × ((List UInt8) × Int)} (h : M.spec_reader_pick Bm Bb = some r) :
    Cal2 Tryz.prog 111 [(pt Bo Bp), (I Bb)] [Ch.bx Bn Bo Bp [(Sl Ee Bm.1 Ef), (I Bm.2)] Bq Br, Ch.ro 0 (Sl Ee Bm.1 Ef) Bm.1] (fun n0 v L => ∃ (az1 : Option Addr), ∃ (cz2 : Nat), v = (I r.1) ∧ L = [Ch.bx Bn Bo Bp [(Sl az1 r.2.1 cz2), (I r.2.2)] Bq Br, Ch.ro 0 (Sl az1 r.2.1 cz2) r.2.1]) := by
 refine cal2 (n := 99) Tryz.func111 rfl rfl rfl rfl ?_
 intro S0 σ0 n0 hn0 H
 unfold M.spec_reader_pick at h
 refine c_seq (rg (sa (I 0) rfl (w_end (q_then (c_seq (rg (sm (pt Bo Bp) rfl (sm (pt Bo Bp) rfl (st (v := (pt Bo Bp)) (rv_nilCheck rfl) (st (v := (pt Bo (Bp + 1))) (rv_fieldAddr (off := 1) (ft := 3) Tryz.underlying126 rfl ti3 rfl rfl) ?_))))))))))
 have hc1 := H.cell (u := (I Bm.2)) (o' := (Bp + 1)) 0 1 rfl rfl rfl
 refine st (v := (I Bm.2)) (rv_load1 Tryz.underlying3 rfl rfl hc1) (st (v := (I (w64 (Bm.2 + 1)))) (rv_add (a := Bm.2) (b := 1) rfl rfl) (st (v := (pt Bo Bp)) (rv_nilCheck rfl) (st (v := (pt Bo (Bp + 1))) (rv_fieldAddr (off := 1) (ft := 3) Tryz.underlying126 rfl ti3 rfl rfl) ?_)))
 refine st_exS (ex_store_box (k := 1) (cs := [(Sl Ee Bm.1 Ef), (I Bm.2)]) (vs := [(I (w64 (Bm.2 + 1)))]) (cs' := [(Sl Ee Bm.1 Ef), (I (w64 (Bm.2 + 1)))]) H (i := 0) rfl ti3 rfl rfl rfl rfl rfl (Nat.le_of_ble_eq_true rfl) (by simp [plain]) rfl) wn ?_
 rintro σ2 ⟨H, -⟩
 refine w_end (q_then (c_seq (c_seq ?_)))
 obtain ⟨o3, hj, h'⟩ := bind_some h
 clear h
 refine c_cut (fun e a w => e = .normal ∧ ∃ (ρ : Nat → Value) (σ : St), a = fr 99 (updL ρ [(0, (pt Bo Bp)), (1, (I Bb)), (24, (B o3))]) ∧ w = σ.w ∧ Hp S0 σ0 σ [Ch.ro 0 (Sl Ee Bm.1 Ef) Bm.1, Ch.bx Bn Bo Bp [(Sl Ee Bm.1 Ef), (I (w64 (Bm.2 + 1)))] Bq Br]) ?_ ?_
 ·clear h'
  rename _ = some o3 => h
  refine rg (sm (I Bb) rfl (st (v := (B (decide (Bb < 1)))) (rv_lss (a := Bb) (b := 1) rfl rfl) (sm (B (decide (Bb < 1))) rfl ?_)))
  rcases Bool.eq_false_or_eq_true (decide (Bb < 1)) with hb4 | hb4
  ·replace h := bif_t hb4 h
   refine st_skip (congrArg some hb4) (st_skip (congrArg some hb4) (st_skip (congrArg some hb4) (st_skip (congrArg some hb4) (st_skip (congrArg some hb4) (st_skip (congrArg some hb4) (st (v := (B true)) (rv_pick_t (congrArg B hb4) rfl) (w_end ?_)))))))
   obtain rfl := sj h
   exact ⟨rfl, _, σ2, fr_join ⟨rfl, rfl, rfl, trivial⟩, rfl, H.sel' [1, 0] rfl rfl⟩
  ·replace h := bif_f hb4 h
   refine st_g (v := (pt Bo Bp)) (congrArg some hb4) (rv_move rfl) (st_g (v := (pt Bo Bp)) (congrArg some hb4) (rv_nilCheck rfl) (st_g (v := (pt Bo Bp)) (congrArg some hb4) (rv_fieldAddr (off := 0) (ft := 22) Tryz.underlying126 rfl ti22 rfl rfl) ?_))
   have hc5 := H.cell (u := (Sl Ee Bm.1 Ef)) (o' := Bp) 0 0 rfl rfl rfl
   refine st_g (v := (Sl Ee Bm.1 Ef)) (congrArg some hb4) (rv_load1 Tryz.underlying22 rfl rfl hc5) (st_g (v := (I (Bm.1.length : Int))) (congrArg some hb4) (rv_len Tryz.underlying22 rfl) (st_g (v := (B ((Bm.1.length : Int) == 0))) (congrArg some hb4) (rv_eql (a := (Bm.1.length : Int)) (b := 0) rfl rfl) (st (v := (B ((Bm.1.length : Int) == 0))) (rv_pick_f (congrArg B hb4) rfl) (w_end ?_))))
   obtain rfl := sj h
   exact ⟨rfl, _, σ2, fr_join ⟨rfl, rfl, rfl, trivial⟩, rfl, H.sel' [1, 0] rfl rfl⟩
 ·clear hj
  have h := h'
  clear h' H
  rintro e a w ⟨rfl, ρ, σ6, rfl, rfl, H⟩
  refine q_then ?_
  refine cd_cond o3 rfl (fun hb7 => ?_) (fun hb7 => ?_)
  ·replace h := bif_t hb7 h
   refine c_seq (rg (sa (I 0) rfl (w_end (q_then (c_ret (q_then_r ?_))))))
   obtain rfl := sj h
   exact fin_ret (v := (I 0)) (results_ok Tryz.results111 (res_tmp (v := (I 0)) rfl res_nil) rfl) ⟨Ee, Ef, rfl, rfl⟩ (H.sel' [1, 0] rfl rfl)
  ·replace h := bif_f hb7 h
   refine c_skip (q_then (c_seq (rg (sm (pt Bo Bp) rfl (st (v := (pt Bo Bp)) (rv_nilCheck rfl) (st (v := (pt Bo (Bp + 1))) (rv_fieldAddr (off := 1) (ft := 3) Tryz.underlying126 rfl ti3 rfl rfl) ?_))))))
   have hc8 := H.cell (u := (I (w64 (Bm.2 + 1)))) (o' := (Bp + 1)) 1 1 rfl rfl rfl
   refine st (v := (I (w64 (Bm.2 + 1)))) (rv_load1 Tryz.underlying3 rfl rfl hc8) (st (v := (I (w64 ((w64 (Bm.2 + 1)) - 1)))) (rv_sub (a := (w64 (Bm.2 + 1))) (b := 1) rfl rfl) (sa (I (w64 ((w64 (Bm.2 + 1)) - 1))) rfl (w_end (q_then (c_seq (c_seq (rg (sm (I (w64 ((w64 (Bm.2 + 1)) - 1))) rfl (sm (pt Bo Bp) rfl (st (v := (pt Bo Bp)) (rv_nilCheck rfl) (st (v := (pt Bo Bp)) (rv_fieldAddr (off := 0) (ft := 22) Tryz.underlying126 rfl ti22 rfl rfl) ?_)))))))))))
   have hc9 := H.cell (u := (Sl Ee Bm.1 Ef)) (o' := Bp) 1 0 rfl rfl rfl
   refine st (v := (Sl Ee Bm.1 Ef)) (rv_load1 Tryz.underlying22 rfl rfl hc9) (st (v := (I (Bm.1.length : Int))) (rv_len Tryz.underlying22 rfl) (st (v := (B (decide ((w64 ((w64 (Bm.2 + 1)) - 1)) < (Bm.1.length : Int))))) (rv_lss (a := (w64 ((w64 (Bm.2 + 1)) - 1))) (b := (Bm.1.length : Int)) rfl rfl) (w_end (q_then ?_))))
   refine cd_cond (decide ((w64 ((w64 (Bm.2 + 1)) - 1)) < (Bm.1.length : Int))) rfl (fun hb10 => ?_) (fun hb10 => ?_)
   ·replace h := bif_t hb10 h
    refine c_seq (rg (sm (pt Bo Bp) rfl (st (v := (pt Bo Bp)) (rv_nilCheck rfl) (st (v := (pt Bo Bp)) (rv_fieldAddr (off := 0) (ft := 22) Tryz.underlying126 rfl ti22 rfl rfl) ?_))))
    have hc11 := H.cell (u := (Sl Ee Bm.1 Ef)) (o' := Bp) 1 0 rfl rfl rfl
    refine st (v := (Sl Ee Bm.1 Ef)) (rv_load1 Tryz.underlying22 rfl rfl hc11) (sm (I (w64 ((w64 (Bm.2 + 1)) - 1))) rfl ?_)
    revert h; refine br fun x12 hx13 h => ?_
    obtain ⟨b15, o16, hi14, -⟩ := (H.ro 0 rfl).ix hx13
    refine st (v := (pt b15 o16)) (rv_ix Tryz.underlying22 ti5 rfl rfl hi14) ?_
    have hc17 := ((H.ro 0 rfl).at hx13 hi14).byte
    refine st (v := (.int .u8 (x12.toNat : Int))) (rv_load1 Tryz.underlying5 rfl rfl hc17) (st (v := (I (w64 (x12.toNat : Int)))) (rv_conv Tryz.underlying5 Tryz.underlying3 rfl) (sm (I Bb) rfl ?_))
    revert h; refine br fun q18 hx19 h => ?_
    refine st (v := (I q18)) (rv_remG (a := (w64 (x12.toNat : Int))) (b := Bb) hx19 rfl rfl) (sa (I q18) rfl (w_end (q_then (c_ret (q_then_r ?_)))))
    obtain rfl := sj h
    exact fin_ret (v := (I q18)) (results_ok Tryz.results111 (res_tmp (v := (I q18)) rfl res_nil) rfl) ⟨Ee, Ef, rfl, rfl⟩ (H.sel' [1, 0] rfl rfl)
   ·replace h := bif_f hb10 h
    refine c_skip (q_then (c_seq ?_))
    refine rgP (σ := σ6) 44 (by kernel_rfl) (by kernel_rfl) (by kernel_rfl) ?_
    refine sq (v := (pt Bo Bp)) (rv_move rfl) (sq (v := (pt Bo Bp)) (rv_nilCheck rfl) (sq (v := (pt Bo Bp)) (rv_fieldAddr (off := 0) (ft := 22) Tryz.underlying126 rfl ti22 rfl rfl) ?_))
    have hc20 := H.cell (u := (Sl Ee Bm.1 Ef)) (o' := Bp) 1 0 rfl rfl rfl
    refine sq (v := (Sl Ee Bm.1 Ef)) (rv_load1 Tryz.underlying22 rfl rfl hc20) (sq (v := (I (w64 ((w64 (Bm.2 + 1)) - 1)))) (rv_move rfl) (sq (v := (pt Bo Bp)) (rv_move rfl) (sq (v := (pt Bo Bp)) (rv_nilCheck rfl) (sq (v := (pt Bo Bp)) (rv_fieldAddr (off := 0) (ft := 22) Tryz.underlying126 rfl ti22 rfl rfl) ?_))))
    have hc21 := H.cell (u := (Sl Ee Bm.1 Ef)) (o' := Bp) 1 0 rfl rfl rfl
    refine sq (v := (Sl Ee Bm.1 Ef)) (rv_load1 Tryz.underlying22 rfl rfl hc21) (sq (v := (I (Bm.1.length : Int))) (rv_len Tryz.underlying22 rfl) ?_)
    revert h; refine br fun q22 hx23 h => ?_
    refine sq (v := (I q22)) (rv_remG (a := (w64 ((w64 (Bm.2 + 1)) - 1))) (b := (Bm.1.length : Int)) hx23 rfl rfl) ?_
    revert h; refine br fun x24 hx25 h => ?_
    obtain ⟨b27, o28, hi26, -⟩ := (H.ro 0 rfl).ix hx25
    refine sq (v := (pt b27 o28)) (rv_ix Tryz.underlying22 ti5 rfl rfl hi26) ?_
    have hc29 := ((H.ro 0 rfl).at hx25 hi26).byte
    refine sq (v := (.int .u8 (x24.toNat : Int))) (rv_load1 Tryz.underlying5 rfl rfl hc29) (sq (v := (I (w64 (x24.toNat : Int)))) (rv_conv Tryz.underlying5 Tryz.underlying3 rfl) (sq (v := (I (w64 ((w64 (x24.toNat : Int)) * 131)))) (rv_mul (a := (w64 (x24.toNat : Int))) (b := 131) rfl rfl) (sq (v := (pt Bo Bp)) (rv_move rfl) (sq (v := (pt Bo Bp)) (rv_nilCheck rfl) (sq (v := (pt Bo Bp)) (rv_fieldAddr (off := 0) (ft := 22) Tryz.underlying126 rfl ti22 rfl rfl) ?_)))))
    have hc30 := H.cell (u := (Sl Ee Bm.1 Ef)) (o' := Bp) 1 0 rfl rfl rfl
    refine sq (v := (Sl Ee Bm.1 Ef)) (rv_load1 Tryz.underlying22 rfl rfl hc30) (sq (v := (I (w64 ((w64 (Bm.2 + 1)) - 1)))) (rv_move rfl) (sq (v := (I (w64 ((w64 ((w64 (Bm.2 + 1)) - 1)) * 7)))) (rv_mul (a := (w64 ((w64 (Bm.2 + 1)) - 1))) (b := 7) rfl rfl) (sq (v := (I (w64 ((w64 ((w64 ((w64 (Bm.2 + 1)) - 1)) * 7)) + 3)))) (rv_add (a := (w64 ((w64 ((w64 (Bm.2 + 1)) - 1)) * 7))) (b := 3) rfl rfl) (sq (v := (pt Bo Bp)) (rv_move rfl) (sq (v := (pt Bo Bp)) (rv_nilCheck rfl) (sq (v := (pt Bo Bp)) (rv_fieldAddr (off := 0) (ft := 22) Tryz.underlying126 rfl ti22 rfl rfl) ?_))))))
    have hc31 := H.cell (u := (Sl Ee Bm.1 Ef)) (o' := Bp) 1 0 rfl rfl rfl
    refine sq (v := (Sl Ee Bm.1 Ef)) (rv_load1 Tryz.underlying22 rfl rfl hc31) (sq (v := (I (Bm.1.length : Int))) (rv_len Tryz.underlying22 rfl) ?_)
    revert h; refine br fun q32 hx33 h => ?_
    refine sq (v := (I q32)) (rv_remG (a := (w64 ((w64 ((w64 ((w64 (Bm.2 + 1)) - 1)) * 7)) + 3))) (b := (Bm.1.length : Int)) hx33 rfl rfl) ?_
    revert h; refine br fun x34 hx35 h => ?_
    obtain ⟨b37, o38, hi36, -⟩ := (H.ro 0 rfl).ix hx35
    refine sq (v := (pt b37 o38)) (rv_ix Tryz.underlying22 ti5 rfl rfl hi36) ?_
    have hc39 := ((H.ro 0 rfl).at hx35 hi36).byte
    refine sq (v := (.int .u8 (x34.toNat : Int))) (rv_load1 Tryz.underlying5 rfl rfl hc39) (sq (v := (I (w64 (x34.toNat : Int)))) (rv_conv Tryz.underlying5 Tryz.underlying3 rfl) (sq (v := (I (w64 ((w64 (x34.toNat : Int)) * 1117)))) (rv_mul (a := (w64 (x34.toNat : Int))) (b := 1117) rfl rfl) (sq (v := (I (w64 ((w64 ((w64 (x24.toNat : Int)) * 131)) + (w64 ((w64 (x34.toNat : Int)) * 1117)))))) (rv_add (a := (w64 ((w64 (x24.toNat : Int)) * 131))) (b := (w64 ((w64 (x34.toNat : Int)) * 1117))) rfl rfl) (sq (v := (I (w64 ((w64 (Bm.2 + 1)) - 1)))) (rv_move rfl) (sq (v := (I (w64 ((w64 ((w64 (Bm.2 + 1)) - 1)) * 29)))) (rv_mul (a := (w64 ((w64 (Bm.2 + 1)) - 1))) (b := 29) rfl rfl) (sq (v := (I (w64 ((w64 ((w64 ((w64 (x24.toNat : Int)) * 131)) + (w64 ((w64 (x34.toNat : Int)) * 1117)))) + (w64 ((w64 ((w64 (Bm.2 + 1)) - 1)) * 29)))))) (rv_add (a := (w64 ((w64 ((w64 (x24.toNat : Int)) * 131)) + (w64 ((w64 (x34.toNat : Int)) * 1117))))) (b := (w64 ((w64 ((w64 (Bm.2 + 1)) - 1)) * 29))) rfl rfl) (sq (v := (I (w64 ((w64 (Bm.2 + 1)) - 1)))) (rv_move rfl) (sq (v := (pt Bo Bp)) (rv_move rfl) (sq (v := (pt Bo Bp)) (rv_nilCheck rfl) (sq (v := (pt Bo Bp)) (rv_fieldAddr (off := 0) (ft := 22) Tryz.underlying126 rfl ti22 rfl rfl) ?_))))))))))
    have hc40 := H.cell (u := (Sl Ee Bm.1 Ef)) (o' := Bp) 1 0 rfl rfl rfl
    refine sq (v := (Sl Ee Bm.1 Ef)) (rv_load1 Tryz.underlying22 rfl rfl hc40) (sq (v := (I (Bm.1.length : Int))) (rv_len Tryz.underlying22 rfl) ?_)
    revert h; refine br fun q41 hx42 h => ?_
    refine sq (v := (I q41)) (rv_quoG (a := (w64 ((w64 (Bm.2 + 1)) - 1))) (b := (Bm.1.length : Int)) hx42 rfl rfl) (sq (v := (I (w64 (q41 * 53)))) (rv_mul (a := q41) (b := 53) rfl rfl) (sq_end ?_))
    intro σ43 hm44
    replace H := H.grow (hm44.mono fun _ h => h); clear hm44
    refine st (v := (I (w64 ((w64 ((w64 ((w64 ((w64 (x24.toNat : Int)) * 131)) + (w64 ((w64 (x34.toNat : Int)) * 1117)))) + (w64 ((w64 ((w64 (Bm.2 + 1)) - 1)) * 29)))) + (w64 (q41 * 53)))))) (rv_add (a := (w64 ((w64 ((w64 ((w64 (x24.toNat : Int)) * 131)) + (w64 ((w64 (x34.toNat : Int)) * 1117)))) + (w64 ((w64 ((w64 (Bm.2 + 1)) - 1)) * 29))))) (b := (w64 (q41 * 53))) rfl rfl) (sa (I (w64 ((w64 ((w64 ((w64 ((w64 (x24.toNat : Int)) * 131)) + (w64 ((w64 (x34.toNat : Int)) * 1117)))) + (w64 ((w64 ((w64 (Bm.2 + 1)) - 1)) * 29)))) + (w64 (q41 * 53))))) rfl (w_end (q_then (c_seq (rg (sm (I (w64 ((w64 ((w64 ((w64 ((w64 (x24.toNat : Int)) * 131)) + (w64 ((w64 (x34.toNat : Int)) * 1117)))) + (w64 ((w64 ((w64 (Bm.2 + 1)) - 1)) * 29)))) + (w64 (q41 * 53))))) rfl (sm (I (w64 ((w64 ((w64 ((w64 ((w64 (x24.toNat : Int)) * 131)) + (w64 ((w64 (x34.toNat : Int)) * 1117)))) + (w64 ((w64 ((w64 (Bm.2 + 1)) - 1)) * 29)))) + (w64 (q41 * 53))))) rfl ?_)))))))
    refine st (v := (I (w64 ((w64 ((w64 ((w64 ((w64 ((w64 (x24.toNat : Int)) * 131)) + (w64 ((w64 (x34.toNat : Int)) * 1117)))) + (w64 ((w64 ((w64 (Bm.2 + 1)) - 1)) * 29)))) + (w64 (q41 * 53)))).tdiv 64)))) (rv_quo (a := (w64 ((w64 ((w64 ((w64 ((w64 (x24.toNat : Int)) * 131)) + (w64 ((w64 (x34.toNat : Int)) * 1117)))) + (w64 ((w64 ((w64 (Bm.2 + 1)) - 1)) * 29)))) + (w64 (q41 * 53))))) (b := 64) rfl rfl (by decide)) ?_
    refine st (v := (I (gxor (w64 ((w64 ((w64 ((w64 ((w64 (x24.toNat : Int)) * 131)) + (w64 ((w64 (x34.toNat : Int)) * 1117)))) + (w64 ((w64 ((w64 (Bm.2 + 1)) - 1)) * 29)))) + (w64 (q41 * 53)))) (w64 ((w64 ((w64 ((w64 ((w64 ((w64 (x24.toNat : Int)) * 131)) + (w64 ((w64 (x34.toNat : Int)) * 1117)))) + (w64 ((w64 ((w64 (Bm.2 + 1)) - 1)) * 29)))) + (w64 (q41 * 53)))).tdiv 64))))) (rv_xor (a := (w64 ((w64 ((w64 ((w64 ((w64 (x24.toNat : Int)) * 131)) + (w64 ((w64 (x34.toNat : Int)) * 1117)))) + (w64 ((w64 ((w64 (Bm.2 + 1)) - 1)) * 29)))) + (w64 (q41 * 53))))) (b := (w64 ((w64 ((w64 ((w64 ((w64 ((w64 (x24.toNat : Int)) * 131)) + (w64 ((w64 (x34.toNat : Int)) * 1117)))) + (w64 ((w64 ((w64 (Bm.2 + 1)) - 1)) * 29)))) + (w64 (q41 * 53)))).tdiv 64))) rfl rfl) (sa (I (gxor (w64 ((w64 ((w64 ((w64 ((w64 (x24.toNat : Int)) * 131)) + (w64 ((w64 (x34.toNat : Int)) * 1117)))) + (w64 ((w64 ((w64 (Bm.2 + 1)) - 1)) * 29)))) + (w64 (q41 * 53)))) (w64 ((w64 ((w64 ((w64 ((w64 ((w64 (x24.toNat : Int)) * 131)) + (w64 ((w64 (x34.toNat : Int)) * 1117)))) + (w64 ((w64 ((w64 (Bm.2 + 1)) - 1)) * 29)))) + (w64 (q41 * 53)))).tdiv 64)))) rfl (w_end (q_then (c_seq (rg (sm (I (gxor (w64 ((w64 ((w64 ((w64 ((w64 (x24.toNat : Int)) * 131)) + (w64 ((w64 (x34.toNat : Int)) * 1117)))) + (w64 ((w64 ((w64 (Bm.2 + 1)) - 1)) * 29)))) + (w64 (q41 * 53)))) (w64 ((w64 ((w64 ((w64 ((w64 ((w64 (x24.toNat : Int)) * 131)) + (w64 ((w64 (x34.toNat : Int)) * 1117)))) + (w64 ((w64 ((w64 (Bm.2 + 1)) - 1)) * 29)))) + (w64 (q41 * 53)))).tdiv 64)))) rfl (sm (I Bb) rfl ?_)))))))
    revert h; refine br fun q45 hx46 h => ?_
    refine st (v := (I q45)) (rv_remG (a := (gxor (w64 ((w64 ((w64 ((w64 ((w64 (x24.toNat : Int)) * 131)) + (w64 ((w64 (x34.toNat : Int)) * 1117)))) + (w64 ((w64 ((w64 (Bm.2 + 1)) - 1)) * 29)))) + (w64 (q41 * 53)))) (w64 ((w64 ((w64 ((w64 ((w64 ((w64 (x24.toNat : Int)) * 131)) + (w64 ((w64 (x34.toNat : Int)) * 1117)))) + (w64 ((w64 ((w64 (Bm.2 + 1)) - 1)) * 29)))) + (w64 (q41 * 53)))).tdiv 64)))) (b := Bb) hx46 rfl rfl) (sa (I q45) rfl (w_end (q_then (c_ret ?_))))
    obtain rfl := sj h
    exact fin_ret (v := (I q45)) (results_ok Tryz.results111 (res_tmp (v := (I q45)) rfl res_nil) rfl) ⟨Ee, Ef, rfl, rfl⟩ (H.sel' [1, 0] rfl rfl)

theorem c_spec_reader_one {Bm : (List UInt8) × Int} {Eg : List Int} {Ee : Option Addr} {Ef : Nat} {Bn Bo Bp : Nat} {Bq Br : List Value} {Eh : Option Addr} {Ei : Nat} {r : Int × ((List UInt8) × Int)} (h : M.spec_reader_one Bm Eg = some r) :
    Cal2 Tryz.prog 116 [(pt Bo Bp), (Sl Eh Eg Ei)] [Ch.bx Bn Bo Bp [(Sl Ee Bm.1 Ef), (I Bm.2)] Bq Br, Ch.ro 0 (Sl Ee Bm.1 Ef) Bm.1, Ch.ro 0 (Sl Eh Eg Ei) Eg] (fun n0 v L => ∃ (az1 : Option Addr), ∃ (cz2 : Nat), v = (I r.1) ∧ L = [Ch.bx Bn Bo Bp [(Sl az1 r.2.1 cz2), (I r.2.2)] Bq Br, Ch.ro 0 (Sl az1 r.2.1 cz2) r.2.1]) := by
 refine cal2 (n := 12) Tryz.func116 rfl rfl rfl rfl ?_
 intro S0 σ0 n0 hn0 H
 unfold M.spec_reader_one at h
 refine c_seq (rg (sa (I 0) rfl (w_end (q_then (c_seq (rg (sm (Sl Eh Eg Ei) rfl (sm (pt Bo Bp) rfl (sm (Sl Eh Eg Ei) rfl (st (v := (I (Eg.length : Int))) (rv_len Tryz.underlying27 rfl) ?_))))))))))
 revert h; refine br fun r1 hx2 h => ?_
 have hc3 := c_spec_reader_pick (Bn := Bn) (Bo := Bo) (Bp := Bp) (Bq := Bq) (Br := Br) (Ee := Ee) (Ef := Ef) hx2
 refine st_call (cx_call hc3 (ent_f hc3.fn rfl) hn0 (H.sel' [0, 1, 1, 2] rfl rfl : Hp S0 σ0 _ ([_, _] ++ _))) wn ?_
 rintro _ σ6 ⟨_, ⟨a4, c5, rfl, rfl⟩, H, -⟩
 replace H : Hp _ _ _ [_, _, _, _] := H
 revert h; refine br fun x7 hx8 h => ?_
 obtain ⟨b10, o11, hi9, -⟩ := (H.ro 3 rfl).ix hx8
 refine st (v := (pt b10 o11)) (rv_ix Tryz.underlying27 ti3 rfl rfl hi9) ?_
 have hc12 := ((H.ro 3 rfl).at hx8 hi9).int
 refine st (v := (I x7)) (rv_load1 Tryz.underlying3 rfl rfl hc12) (sa (I x7) rfl (w_end (q_then (c_ret ?_))))
 obtain rfl := sj h
 exact fin_ret (v := (I x7)) (results_ok Tryz.results116 (res_tmp (v := (I x7)) rfl res_nil) rfl) ⟨a4, c5, rfl, rfl⟩ (H.sel' [0, 1] rfl rfl)

theorem c_spec_copyInts {Ax : List Int} {Az : Option Addr} {Ba : Nat} {r : (List Int)} (h : M.spec_copyInts Ax = some r) :
    Cal2 Tryz.prog 157 [(Sl Az Ax Ba)] [Ch.ro 0 (Sl Az Ax Ba) Ax] (fun n0 v L => ∃ (az1 : Option Addr), ∃ (cz2 : Nat), v = (Sl az1 r cz2) ∧ L = [Ch.own n0 n0 (Sl az1 r cz2) r]) := by
 refine cal2 (n := 6) Tryz.func157 rfl rfl rfl rfl ?_
 intro S0 σ0 n0 hn0 H
 unfold M.spec_copyInts at h
 refine c_seq (rg (sa (.slice none 0 0) rfl (w_end (q_then (c_seq (rg ?_))))))
 refine st_ex (ex_buildSlice (el := n0) (xs := ([] : List Int)) (ps := []) (cs := []) H hn0 Tryz.underlying27 ti3 rfl rfl (by kernel_rfl) (.nil) rfl) wn ?_
 rintro _ σ2 ⟨b1, rfl, H, -⟩
 refine sm (Sl Az Ax Ba) rfl ?_
 revert h; refine br fun xs3 hx4 h => ?_
 refine st_ex (ex_append H (i := 0) rfl Tryz.underlying27 Tryz.underlying27 ti3 rfl rfl (by decide) ((H.ro 1 rfl).rd.sc) hx4 hn0 rfl rfl) wn ?_
 rintro _ σ7 ⟨a5, c6, rfl, H, -⟩
 refine sa (Sl a5 xs3 c6) rfl (w_end (q_then (c_ret ?_)))
 obtain rfl := sj h
 exact fin_ret (v := (Sl a5 xs3 c6)) (results_ok Tryz.results157 (res_tmp (v := (Sl a5 xs3 c6)) rfl res_nil) rfl) ⟨a5, c6, rfl, rfl⟩ (H.sel' [0] rfl rfl)

theorem c_spec_reader_spoil {Bm : (List UInt8) × Int} {Eg : List Int} {Ej : Int} {Ee : Option Addr} {Ef : Nat} {Bn Bo Bp : Nat} {Bq Br : List Value} {Eh : Option Addr} {Ei : Nat} {r : (List Int) × ((List UInt8) × Int)} (h : M.spec_reader_spoil Bm Eg Ej = some r) :
    Cal2 Tryz.prog 112 [(pt Bo Bp), (Sl Eh Eg Ei), (I Ej)] [Ch.bx Bn Bo Bp [(Sl Ee Bm.1 Ef), (I Bm.2)] Bq Br, Ch.ro 0 (Sl Ee Bm.1 Ef) Bm.1, Ch.ro 0 (Sl Eh Eg Ei) Eg] (fun n0 v L => ∃ (az1 : Option Addr), ∃ (cz2 : Nat), ∃ (az3 : Option Addr), ∃ (cz4 : Nat), v = (Sl az1 r.1 cz2) ∧ L = [Ch.own n0 n0 (Sl az1 r.1 cz2) r.1, Ch.bx Bn Bo Bp [(Sl az3 r.2.1 cz4), (I r.2.2)] Bq Br, Ch.ro 0 (Sl az3 r.2.1 cz4) r.2.1]) := by
 refine cal2 (n := 41) Tryz.func112 rfl rfl rfl rfl ?_
 intro S0 σ0 n0 hn0 H
 unfold M.spec_reader_spoil at h
 refine c_seq (rg (sa (.slice none 0 0) rfl (w_end (q_then (c_seq (rg (sm (Sl Eh Eg Ei) rfl ?_)))))))
 revert h; refine br fun r1 hx2 h => ?_
 have hc3 := c_spec_copyInts (Az := Eh) (Ba := Ei) hx2
 refine st_call (cx_call hc3 (ent_f hc3.fn rfl) hn0 (H.sel' [2, 0, 1, 2] rfl rfl : Hp S0 σ0 _ ([_] ++ _))) wn ?_
 rintro _ σ6 ⟨_, ⟨a4, c5, rfl, rfl⟩, H, -⟩
 replace H : Hp _ _ _ [_, _, _, _] := H
 refine sa (Sl a4 r1 c5) rfl (w_end (q_then (c_seq (c_seq (rg (sm (pt Bo Bp) rfl ?_))))))
 revert h; refine br fun r7 hx8 h => ?_
 have hc9 := c_spec_reader_pick (Bn := Bn) (Bo := Bo) (Bp := Bp) (Bq := Bq) (Br := Br) (Ee := Ee) (Ef := Ef) hx8
 refine st_call (cx_call hc9 (ent_f hc9.fn rfl) hn0 (H.sel' [1, 2, 0, 2, 3] rfl rfl : Hp S0 σ0 _ ([_, _] ++ _))) wn ?_
 rintro _ σ12 ⟨_, ⟨a10, c11, rfl, rfl⟩, H, -⟩
 replace H : Hp _ _ _ [_, _, _, _, _] := H
 refine w_end (q_then ?_)
 obtain ⟨o13, hj, h'⟩ := bind_some h
 clear h
 refine c_cut (fun e a w => e = .normal ∧ ∃ (ρ : Nat → Value) (σ : St) (aj1 : Option Addr) (cj2 : Nat) (aj3 : Option Addr) (cj4 : Nat), a = fr 41 (updL ρ [(0, (pt Bo Bp)), (7, (Sl aj3 o13.2 cj4))]) ∧ w = σ.w ∧ Hp S0 σ0 σ [Ch.bx Bn Bo Bp [(Sl aj1 o13.1.1 cj2), (I o13.1.2)] Bq Br, Ch.ro 0 (Sl aj1 o13.1.1 cj2) o13.1.1, Ch.own n0 n0 (Sl aj3 o13.2 cj4) o13.2]) ?_ ?_
 ·clear h'
  rename _ = some o13 => h
  refine c_blk (c_seq (rg (st (v := (B (r7.1 == 0))) (rv_eql (a := r7.1) (b := 0) rfl rfl) (sa (B (r7.1 == 0)) rfl (w_end (q_then ?_))))))
  refine cd_cond (r7.1 == 0) rfl (fun hb14 => ?_) (fun hb14 => ?_)
  ·replace h := bif_t hb14 h
   refine rg (sm (Sl a4 r1 c5) rfl (sm (I Ej) rfl ?_))
   refine st_ex (ex_buildSlice (el := n0) (xs := ([Ej] : List Int)) (ps := [(0, (I Ej))]) (cs := [(I Ej)]) H hn0 Tryz.underlying27 ti3 rfl rfl (by kernel_rfl) (.cons (c := [(I Ej)]) rfl (.nil)) rfl) wn ?_
   rintro _ σ16 ⟨b15, rfl, H, -⟩
   revert h; refine br fun xs17 hx18 h => ?_
   refine st_ex (ex_append H (i := 3) rfl Tryz.underlying27 Tryz.underlying27 ti3 rfl rfl (by decide) (H.own 0 rfl).rd hx18 hn0 rfl rfl) wn ?_
   rintro _ σ21 ⟨a19, c20, rfl, H, -⟩
   refine sa (Sl a19 xs17 c20) rfl (w_end (q_blk ?_))
   obtain rfl := sj h
   exact ⟨rfl, _, σ21, a10, c11, a19, c20, fr_join ⟨rfl, rfl, trivial⟩, rfl, H.sel' [2, 3, 0] rfl rfl⟩
  ·replace h := bif_f hb14 h
   refine c_seq (rg (st (v := (B (r7.1 == 1))) (rv_eql (a := r7.1) (b := 1) rfl rfl) (sa (B (r7.1 == 1)) rfl (w_end (q_then ?_)))))
   refine cd_cond (r7.1 == 1) rfl (fun hb22 => ?_) (fun hb22 => ?_)
   ·replace h := bif_t hb22 h
    refine c_seq (rg (sm (Sl a4 r1 c5) rfl (st (v := (I (r1.length : Int))) (rv_len Tryz.underlying27 rfl) (st (v := (B (decide (0 < (r1.length : Int))))) (rv_gtr (a := (r1.length : Int)) (b := 0) rfl rfl) (w_end (q_then ?_))))))
    refine cd_cond (decide (0 < (r1.length : Int))) rfl (fun hb23 => ?_) (fun hb23 => ?_)
    ·replace h := bif_t hb23 h
     refine rg (sm (Sl a4 r1 c5) rfl ?_)
     revert h; refine br fun xs24 hx25 h => ?_
     obtain ⟨a26, c27, hs28, hR29, hb30⟩ := (H.own 2 rfl).slice hx25
     replace H := (H.front (i := 2) rfl).turn (d := Ch.own n0 n0 (Sl a26 xs24 c27) xs24) (fun _ => hR29) hb30; clear hR29 hb30
     refine st (v := (Sl a26 xs24 c27)) (rv_slice_l Tryz.underlying27 ti3 hs28 rfl rfl) (sa (Sl a26 xs24 c27) rfl (w_end (q_blk ?_)))
     obtain rfl := sj h
     exact ⟨rfl, _, σ12, a10, c11, a26, c27, fr_join ⟨rfl, rfl, trivial⟩, rfl, H.sel' [1, 2, 0] rfl rfl⟩
    ·replace h := bif_f hb23 h
     refine c_skip (q_blk ?_)
     obtain rfl := sj h
     exact ⟨rfl, _, σ12, a10, c11, a4, c5, fr_join ⟨rfl, rfl, trivial⟩, rfl, H.sel' [0, 1, 2] rfl rfl⟩
   ·replace h := bif_f hb22 h
    refine c_seq (rg (st (v := (B (r7.1 == 2))) (rv_eql (a := r7.1) (b := 2) rfl rfl) (sa (B (r7.1 == 2)) rfl (w_end (q_then ?_)))))
    refine cd_cond (r7.1 == 2) rfl (fun hb31 => ?_) (fun hb31 => ?_)
    ·replace h := bif_t hb31 h
     refine c_seq (rg (sm (Sl a4 r1 c5) rfl (st (v := (I (r1.length : Int))) (rv_len Tryz.underlying27 rfl) (st (v := (B (decide (0 < (r1.length : Int))))) (rv_gtr (a := (r1.length : Int)) (b := 0) rfl rfl) (w_end (q_then ?_))))))
     refine cd_cond (decide (0 < (r1.length : Int))) rfl (fun hb32 => ?_) (fun hb32 => ?_)
     ·replace h := bif_t hb32 h
      refine rg (sm (Sl a4 r1 c5) rfl (sm (pt Bo Bp) rfl (sm (Sl a4 r1 c5) rfl (st (v := (I (r1.length : Int))) (rv_len Tryz.underlying27 rfl) ?_))))
      revert h; refine br fun r33 hx34 h => ?_
      have hc35 := c_spec_reader_pick (Bn := Bn) (Bo := Bo) (Bp := Bp) (Bq := Bq) (Br := Br) (Ee := a10) (Ef := c11) hx34
      refine st_call (cx_call hc35 (ent_f hc35.fn rfl) hn0 (H.sel' [0, 1, 1, 2, 3, 4] rfl rfl : Hp S0 σ0 _ ([_, _] ++ _))) wn ?_
      rintro _ σ38 ⟨_, ⟨a36, c37, rfl, rfl⟩, H, -⟩
      replace H : Hp _ _ _ [_, _, _, _, _, _] := H
      refine sm (pt Bo Bp) rfl (sm (I Ej) rfl ?_)
      refine st_ex (ex_buildSlice (el := n0) (xs := ([-1, Ej, 0, 1] : List Int)) (ps := [(0, (I (-1))), (1, (I Ej)), (2, (I 0)), (3, (I 1))]) (cs := [(I (-1)), (I Ej), (I 0), (I 1)]) H hn0 Tryz.underlying27 ti3 rfl rfl (by kernel_rfl) (.cons (c := [(I (-1))]) rfl (.cons (c := [(I Ej)]) rfl (.cons (c := [(I 0)]) rfl (.cons (c := [(I 1)]) rfl (.nil))))) rfl) wn ?_
      rintro _ σ40 ⟨b39, rfl, H, -⟩
      obtain ⟨σ41, hw42, H, -⟩ := H.pub 0 rfl (Nat.le_refl _)
      rw [← hw42]; clear hw42
      replace H := H.roLow 0 0 rfl (Nat.zero_le _)
      revert h; refine br fun r43 hx44 h => ?_
      have hc45 := c_spec_reader_one (Bn := Bn) (Bo := Bo) (Bp := Bp) (Bq := Bq) (Br := Br) (Ee := a36) (Ef := c37) (Eh := (some ⟨b39, 0, none⟩)) (Ei := 4) hx44
      refine st_call (cx_call hc45 (ent_f hc45.fn rfl) hn0 (H.sel' [2, 3, 0, 0, 1, 3, 4, 5, 6, 7] rfl rfl : Hp S0 σ0 _ ([_, _, _] ++ _))) wn ?_
      rintro _ σ48 ⟨_, ⟨a46, c47, rfl, rfl⟩, H, -⟩
      replace H : Hp _ _ _ [_, _, _, _, _, _, _, _, _] := H
      replace H : Hp S0 σ0 σ48 [Ch.bx Bn Bo Bp [(Sl a46 r43.2.1 c47), (I r43.2.2)] Bq Br, Ch.ro 0 (Sl a46 r43.2.1 c47) r43.2.1, Ch.own n0 n0 (Sl a4 r1 c5) r1] := H.sel' [0, 1, 6] rfl rfl
      revert h; refine br fun x49 hx50 h => ?_
      obtain ⟨b52, o53, hi51, -⟩ := (H.own 2 rfl).ix hx50
      refine st (v := (pt b52 o53)) (rv_ix Tryz.underlying27 ti3 rfl rfl hi51) ?_
      refine st_exS (ex_store_own (e' := r43.1) (vs := [(I r43.1)]) (k := 0) H (i := 2) rfl ti3 hx50 hi51 rfl rfl rfl rfl rfl (Nat.le_of_ble_eq_true rfl) (by simp [plain]) (by rintro _ rfl; exact rfl)) wn ?_
      rintro σ54 ⟨H, -⟩
      have hsl : (Sl a4 r1 c5) = (Sl a4 (r1.set r33.1.toNat r43.1) c5) := sl_len List.length_set.symm
      rw [hsl]; rw [hsl] at H; clear hsl
      refine w_end (q_blk ?_)
      obtain rfl := sj h
      exact ⟨rfl, _, σ54, a46, c47, a4, c5, fr_join ⟨rfl, rfl, trivial⟩, rfl, H.sel' [1, 2, 0] rfl rfl⟩
     ·replace h := bif_f hb32 h
      refine c_skip (q_blk ?_)
      obtain rfl := sj h
      exact ⟨rfl, _, σ12, a10, c11, a4, c5, fr_join ⟨rfl, rfl, trivial⟩, rfl, H.sel' [0, 1, 2] rfl rfl⟩
    ·replace h := bif_f hb31 h
     refine c_skip (q_blk ?_)
     obtain rfl := sj h
     exact ⟨rfl, _, σ12, a10, c11, a4, c5, fr_join ⟨rfl, rfl, trivial⟩, rfl, H.sel' [0, 1, 2] rfl rfl⟩
 ·clear hj
  have h := h'
  clear h' H
  rintro e a w ⟨rfl, ρ, σ55, a56, c57, a58, c59, rfl, rfl, H⟩
  refine q_then (c_seq (rg (sm (Sl a58 o13.2 c59) rfl (sa (Sl a58 o13.2 c59) rfl (w_end (q_then (c_ret ?_)))))))
  obtain rfl := sj h
  exact fin_ret (v := (Sl a58 o13.2 c59)) (results_ok Tryz.results112 (res_tmp (v := (Sl a58 o13.2 c59)) rfl res_nil) rfl) ⟨a58, c59, a56, c57, rfl, rfl⟩ (H.sel' [2, 0, 1] rfl rfl)

theorem c_spec_someCoord {Bm : (List UInt8) × Int} {Ee : Option Addr} {Ef : Nat} {Bn Bo Bp : Nat} {Bq Br : List Value} {r : Int × ((List UInt8) × Int)} (h : M.spec_someCoord Bm = some r) :
    Cal2 Tryz.prog 156 [(pt Bo Bp)] [Ch.bx Bn Bo Bp [(Sl Ee Bm.1 Ef), (I Bm.2)] Bq Br, Ch.ro 0 (Sl Ee Bm.1 Ef) Bm.1] (fun n0 v L => ∃ (az1 : Option Addr), ∃ (cz2 : Nat), v = (I r.1) ∧ L = [Ch.bx Bn Bo Bp [(Sl az1 r.2.1 cz2), (I r.2.2)] Bq Br, Ch.ro 0 (Sl az1 r.2.1 cz2) r.2.1]) := by
 refine cal2 (n := 12) Tryz.func156 rfl rfl rfl rfl ?_
 intro S0 σ0 n0 hn0 H
 unfold M.spec_someCoord at h
 refine c_seq (rg (sa (I 0) rfl (w_end (q_then (c_seq (rg (sm (pt Bo Bp) rfl (sm (pt Bo Bp) rfl ?_))))))))
 revert h; refine br fun r1 hx2 h => ?_
 have hc3 := c_spec_reader_pick (Bn := Bn) (Bo := Bo) (Bp := Bp) (Bq := Bq) (Br := Br) (Ee := Ee) (Ef := Ef) hx2
 refine st_call (cx_call hc3 (ent_f hc3.fn rfl) hn0 (H.sel' [0, 1, 1] rfl rfl : Hp S0 σ0 _ ([_, _] ++ _))) wn ?_
 rintro _ σ6 ⟨_, ⟨a4, c5, rfl, rfl⟩, H, -⟩
 replace H : Hp _ _ _ [_, _, _] := H
 refine st (v := (I (w64 (r1.1 - 100)))) (rv_sub (a := r1.1) (b := 100) rfl rfl) (sm (pt Bo Bp) rfl ?_)
 revert h; refine br fun r7 hx8 h => ?_
 have hc9 := c_spec_reader_pick (Bn := Bn) (Bo := Bo) (Bp := Bp) (Bq := Bq) (Br := Br) (Ee := a4) (Ef := c5) hx8
 refine st_call (cx_call hc9 (ent_f hc9.fn rfl) hn0 (H.sel' [0, 1, 1, 2] rfl rfl : Hp S0 σ0 _ ([_, _] ++ _))) wn ?_
 rintro _ σ12 ⟨_, ⟨a10, c11, rfl, rfl⟩, H, -⟩
 replace H : Hp _ _ _ [_, _, _, _] := H
 refine st (v := (I (w64 (r7.1 - 10)))) (rv_sub (a := r7.1) (b := 10) rfl rfl) ?_
 refine st_ex (ex_buildSlice (el := n0) (xs := ([0, 1, -1, 5, -7, 10, 3, 100, -100, w64 (r1.1 - 100), w64 (r7.1 - 10)] : List Int)) (ps := [(0, (I 0)), (1, (I 1)), (2, (I (-1))), (3, (I 5)), (4, (I (-7))), (5, (I 10)), (6, (I 3)), (7, (I 100)), (8, (I (-100))), (9, (I (w64 (r1.1 - 100)))), (10, (I (w64 (r7.1 - 10))))]) (cs := [(I 0), (I 1), (I (-1)), (I 5), (I (-7)), (I 10), (I 3), (I 100), (I (-100)), (I (w64 (r1.1 - 100))), (I (w64 (r7.1 - 10)))]) H hn0 Tryz.underlying27 ti3 rfl rfl (by kernel_rfl) (.cons (c := [(I 0)]) rfl (.cons (c := [(I 1)]) rfl (.cons (c := [(I (-1))]) rfl (.cons (c := [(I 5)]) rfl (.cons (c := [(I (-7))]) rfl (.cons (c := [(I 10)]) rfl (.cons (c := [(I 3)]) rfl (.cons (c := [(I 100)]) rfl (.cons (c := [(I (-100))]) rfl (.cons (c := [(I (w64 (r1.1 - 100)))]) rfl (.cons (c := [(I (w64 (r7.1 - 10)))]) rfl (.nil)))))))))))) rfl) wn ?_
 rintro _ σ14 ⟨b13, rfl, H, -⟩
 obtain ⟨σ15, hw16, H, -⟩ := H.pub 0 rfl (Nat.le_refl _)
 rw [← hw16]; clear hw16
 replace H := H.roLow 0 0 rfl (Nat.zero_le _)
 revert h; refine br fun r17 hx18 h => ?_
 have hc19 := c_spec_reader_one (Bn := Bn) (Bo := Bo) (Bp := Bp) (Bq := Bq) (Br := Br) (Ee := a10) (Ef := c11) (Eh := (some ⟨b13, 0, none⟩)) (Ei := 11) hx18
 refine st_call (cx_call hc19 (ent_f hc19.fn rfl) hn0 (H.sel' [2, 3, 0, 0, 1, 3, 4, 5] rfl rfl : Hp S0 σ0 _ ([_, _, _] ++ _))) wn ?_
 rintro _ σ22 ⟨_, ⟨a20, c21, rfl, rfl⟩, H, -⟩
 replace H : Hp _ _ _ [_, _, _, _, _, _, _] := H
 refine sa (I r17.1) rfl (w_end (q_then (c_ret ?_)))
 obtain rfl := sj h
 exact fin_ret (v := (I r17.1)) (results_ok Tryz.results156 (res_tmp (v := (I r17.1)) rfl res_nil) rfl) ⟨a20, c21, rfl, rfl⟩ (H.sel' [0, 1] rfl rfl)

theorem c_spec_someVector {Bm : (List UInt8) × Int} {Ee : Option Addr} {Ef : Nat} {Bn Bo Bp : Nat} {Bq Br : List Value} {r : (List Int) × ((List UInt8) × Int)} (h : M.spec_someVector Bm = some r) :
    Cal2 Tryz.prog 115 [(pt Bo Bp)] [Ch.bx Bn Bo Bp [(Sl Ee Bm.1 Ef), (I Bm.2)] Bq Br, Ch.ro 0 (Sl Ee Bm.1 Ef) Bm.1] (fun n0 v L => ∃ (az1 : Option Addr), ∃ (cz2 : Nat), ∃ (az3 : Option Addr), ∃ (cz4 : Nat), v = (Sl az1 r.1 cz2) ∧ L = [Ch.own n0 n0 (Sl az1 r.1 cz2) r.1, Ch.bx Bn Bo Bp [(Sl az3 r.2.1 cz4), (I r.2.2)] Bq Br, Ch.ro 0 (Sl az3 r.2.1 cz4) r.2.1]) := by
 refine cal2 (n := 16) Tryz.func115 rfl rfl rfl rfl ?_
 intro S0 σ0 n0 hn0 H
 unfold M.spec_someVector at h
 refine c_seq (rg (sa (.slice none 0 0) rfl (w_end (q_then (c_seq (rg ?_))))))
 refine st_ex (ex_buildSlice (el := n0) (xs := ([] : List Int)) (ps := []) (cs := []) H hn0 Tryz.underlying27 ti3 rfl rfl (by kernel_rfl) (.nil) rfl) wn ?_
 rintro _ σ2 ⟨b1, rfl, H, -⟩
 refine sa (Sl (some ⟨b1, 0, none⟩) ([] : List Int) 0) rfl (w_end (q_then (c_seq (c_seq (rg (sa (I 0) rfl (w_end (q_then ?_))))))))
 obtain ⟨o3, hj, h'⟩ := bind_some h
 clear h
 refine c_cut (fun e a w => e = .normal ∧ ∃ (ρ : Nat → Value) (σ : St) (aj1 : Option Addr) (cj2 : Nat) (aj3 : Option Addr) (cj4 : Nat), a = fr 16 (updL ρ [(0, (pt Bo Bp)), (3, (Sl aj3 o3.2 cj4))]) ∧ w = σ.w ∧ Hp S0 σ0 σ [Ch.bx Bn Bo Bp [(Sl aj1 o3.1.1 cj2), (I o3.1.2)] Bq Br, Ch.ro 0 (Sl aj1 o3.1.1 cj2) o3.1.1, Ch.own n0 n0 (Sl aj3 o3.2 cj4) o3.2]) ?_ ?_
 ·clear h'
  rename _ = some o3 => h
  refine c_blk (wp_loopM _ h (fun s4 a w => ∃ (ρ : Nat → Value) (σ : St) (aj1 : Option Addr) (cj2 : Nat) (aj3 : Option Addr) (cj4 : Nat), a = fr 16 (updL ρ [(0, (pt Bo Bp)), (3, (Sl aj3 s4.2.1 cj4)), (4, (I s4.2.2))]) ∧ w = σ.w ∧ Hp S0 σ0 σ [Ch.bx Bn Bo Bp [(Sl aj1 s4.1.1 cj2), (I s4.1.2)] Bq Br, Ch.ro 0 (Sl aj1 s4.1.1 cj2) s4.1.1, Ch.own n0 n0 (Sl aj3 s4.2.1 cj4) s4.2.1]) ⟨_, σ2, Ee, Ef, (some ⟨b1, 0, none⟩), 0, fr_join ⟨rfl, rfl, rfl, trivial⟩, rfl, H.sel' [1, 2, 0] rfl rfl⟩ ?_)
  clear h H
  rintro s4 a w o ⟨ρ, σ5, a6, c7, a8, c9, rfl, rfl, H⟩ h hres
  refine c_seq (c_seq (rg (sm (I s4.2.2) rfl (st (v := (B (decide (s4.2.2 < 4)))) (rv_lss (a := s4.2.2) (b := 4) rfl rfl) (w_end (q_then ?_))))))
  refine cd_cond (decide (s4.2.2 < 4)) rfl (fun hb10 => ?_) (fun hb10 => ?_)
  ·replace h := bif_t hb10 h
   refine c_skip (q_then (c_seq (c_blk (rg (sm (Sl a8 s4.2.1 c9) rfl (sm (pt Bo Bp) rfl ?_))))))
   revert h; refine br fun r11 hx12 h => ?_
   have hc13 := c_spec_someCoord (Bn := Bn) (Bo := Bo) (Bp := Bp) (Bq := Bq) (Br := Br) (Ee := a6) (Ef := c7) hx12
   refine st_call (cx_call hc13 (ent_f hc13.fn rfl) hn0 (H.sel' [0, 1, 1, 2] rfl rfl : Hp S0 σ0 _ ([_, _] ++ _))) wn ?_
   rintro _ σ16 ⟨_, ⟨a14, c15, rfl, rfl⟩, H, -⟩
   replace H : Hp _ _ _ [_, _, _, _] := H
   refine st_ex (ex_buildSlice (el := n0) (xs := ([r11.1] : List Int)) (ps := [(0, (I r11.1))]) (cs := [(I r11.1)]) H hn0 Tryz.underlying27 ti3 rfl rfl (by kernel_rfl) (.cons (c := [(I r11.1)]) rfl (.nil)) rfl) wn ?_
   rintro _ σ18 ⟨b17, rfl, H, -⟩
   revert h; refine br fun xs19 hx20 h => ?_
   refine st_ex (ex_append H (i := 4) rfl Tryz.underlying27 Tryz.underlying27 ti3 rfl rfl (by decide) (H.own 0 rfl).rd hx20 hn0 rfl rfl) wn ?_
   rintro _ σ23 ⟨a21, c22, rfl, H, -⟩
   refine sa (Sl a21 xs19 c22) rfl (w_end (q_blk (q_then (rg (sm (I s4.2.2) rfl (st (v := (I (w64 (s4.2.2 + 1)))) (rv_add (a := s4.2.2) (b := 1) rfl rfl) (sa (I (w64 (s4.2.2 + 1))) rfl (w_end (q_then ?_)))))))))
   obtain rfl := sj h
   exact ⟨_, rfl, _, σ23, a14, c15, a21, c22, fr_join ⟨rfl, rfl, rfl, trivial⟩, rfl, H.sel' [2, 3, 0] rfl rfl⟩
  ·replace h := bif_f hb10 h
   refine c_exit (q_then_x (q_then_x (q_blk_hit ?_)))
   obtain rfl := sj h
   obtain rfl := hres _ rfl
   exact ⟨rfl, _, σ5, a6, c7, a8, c9, fr_join ⟨rfl, rfl, trivial⟩, rfl, H.sel' [0, 1, 2] rfl rfl⟩
 ·clear hj
  have h := h'
  clear h' H
  rintro e a w ⟨rfl, ρ, σ24, a25, c26, a27, c28, rfl, rfl, H⟩
  refine q_then (c_seq (rg (sm (Sl a27 o3.2 c28) rfl (sa (Sl a27 o3.2 c28) rfl (w_end (q_then (c_ret ?_)))))))
  obtain rfl := sj h
  exact fin_ret (v := (Sl a27 o3.2 c28)) (results_ok Tryz.results115 (res_tmp (v := (Sl a27 o3.2 c28)) rfl res_nil) rfl) ⟨a27, c28, a25, c26, rfl, rfl⟩ (H.sel' [2, 0, 1] rfl rfl)

theorem c_spec_anyVector {Bm : (List UInt8) × Int} {Ee : Option Addr} {Ef : Nat} {Bn Bo Bp : Nat} {Bq Br : List Value} {r : (List Int) × ((List UInt8) × Int)} (h : M.spec_anyVector Bm = some r) :
    Cal2 Tryz.prog 51 [(pt Bo Bp)] [Ch.bx Bn Bo Bp [(Sl Ee Bm.1 Ef), (I Bm.2)] Bq Br, Ch.ro 0 (Sl Ee Bm.1 Ef) Bm.1] (fun n0 v L => ∃ (az1 : Option Addr), ∃ (cz2 : Nat), ∃ (az3 : Option Addr), ∃ (cz4 : Nat), v = (Sl az1 r.1 cz2) ∧ L = [Ch.own n0 n0 (Sl az1 r.1 cz2) r.1, Ch.bx Bn Bo Bp [(Sl az3 r.2.1 cz4), (I r.2.2)] Bq Br, Ch.ro 0 (Sl az3 r.2.1 cz4) r.2.1]) := by
 refine cal2 (n := 12) Tryz.func51 rfl rfl rfl rfl ?_
 intro S0 σ0 n0 hn0 H
 unfold M.spec_anyVector at h
 refine c_seq (rg (sa (.slice none 0 0) rfl (w_end (q_then (c_seq (c_seq (rg (sm (pt Bo Bp) rfl ?_))))))))
 revert h; refine br fun r1 hx2 h => ?_
 have hc3 := c_spec_reader_pick (Bn := Bn) (Bo := Bo) (Bp := Bp) (Bq := Bq) (Br := Br) (Ee := Ee) (Ef := Ef) hx2
 refine st_call (cx_call hc3 (ent_f hc3.fn rfl) hn0 (H.sel' [0, 1, 1] rfl rfl : Hp S0 σ0 _ ([_, _] ++ _))) wn ?_
 rintro _ σ6 ⟨_, ⟨a4, c5, rfl, rfl⟩, H, -⟩
 replace H : Hp _ _ _ [_, _, _] := H
 refine st (v := (B (r1.1 == 0))) (rv_eql (a := r1.1) (b := 0) rfl rfl) (w_end (q_then ?_))
 refine cd_cond (r1.1 == 0) rfl (fun hb7 => ?_) (fun hb7 => ?_)
 ·replace h := bif_t hb7 h
  refine c_seq (rg (sm (pt Bo Bp) rfl (sm (pt Bo Bp) rfl ?_)))
  revert h; refine br fun r8 hx9 h => ?_
  have hc10 := c_spec_someVector (Bn := Bn) (Bo := Bo) (Bp := Bp) (Bq := Bq) (Br := Br) (Ee := a4) (Ef := c5) hx9
  refine st_call (cx_call hc10 (ent_f hc10.fn rfl) hn0 (H.sel' [0, 1, 1, 2] rfl rfl : Hp S0 σ0 _ ([_, _] ++ _))) wn ?_
  rintro _ σ15 ⟨_, ⟨a11, c12, a13, c14, rfl, rfl⟩, H, -⟩
  replace H : Hp _ _ _ [_, _, _, _, _] := H
  obtain ⟨σ16, hw17, H, -⟩ := H.pub 0 rfl (Nat.le_refl _)
  rw [← hw17]; clear hw17
  replace H := H.roLow 0 0 rfl (Nat.zero_le _)
  revert h; refine br fun r18 hx19 h => ?_
  have hc20 := c_spec_reader_spoil (Bn := Bn) (Bo := Bo) (Bp := Bp) (Bq := Bq) (Br := Br) (Ee := a13) (Ef := c14) (Eh := a11) (Ei := c12) hx19
  refine st_call (cx_call hc20 (ent_f hc20.fn rfl) hn0 (H.sel' [2, 3, 0, 0, 1, 3, 4, 5] rfl rfl : Hp S0 σ0 _ ([_, _, _] ++ _))) wn ?_
  rintro _ σ25 ⟨_, ⟨a21, c22, a23, c24, rfl, rfl⟩, H, -⟩
  replace H : Hp _ _ _ [_, _, _, _, _, _, _, _] := H
  replace H : Hp S0 σ0 σ25 [Ch.own n0 n0 (Sl a21 r18.1 c22) r18.1, Ch.bx Bn Bo Bp [(Sl a23 r18.2.1 c24), (I r18.2.2)] Bq Br, Ch.ro 0 (Sl a23 r18.2.1 c24) r18.2.1] := H.sel' [0, 1, 2] rfl rfl
  refine sa (Sl a21 r18.1 c22) rfl (w_end (q_then (c_ret (q_then_r ?_))))
  obtain rfl := sj h
  exact fin_ret (v := (Sl a21 r18.1 c22)) (results_ok Tryz.results51 (res_tmp (v := (Sl a21 r18.1 c22)) rfl res_nil) rfl) ⟨a21, c22, a23, c24, rfl, rfl⟩ (H.sel' [0, 1, 2] rfl rfl)
 ·replace h := bif_f hb7 h
  refine c_skip (q_then (c_seq (rg (sm (pt Bo Bp) rfl ?_))))
  revert h; refine br fun r26 hx27 h => ?_
  have hc28 := c_spec_someVector (Bn := Bn) (Bo := Bo) (Bp := Bp) (Bq := Bq) (Br := Br) (Ee := a4) (Ef := c5) hx27
  refine st_call (cx_call hc28 (ent_f hc28.fn rfl) hn0 (H.sel' [0, 1, 1, 2] rfl rfl : Hp S0 σ0 _ ([_, _] ++ _))) wn ?_
  rintro _ σ33 ⟨_, ⟨a29, c30, a31, c32, rfl, rfl⟩, H, -⟩
  replace H : Hp _ _ _ [_, _, _, _, _] := H
  refine sa (Sl a29 r26.1 c30) rfl (w_end (q_then (c_ret ?_)))
  obtain rfl := sj h
  exact fin_ret (v := (Sl a29 r26.1 c30)) (results_ok Tryz.results51 (res_tmp (v := (Sl a29 r26.1 c30)) rfl res_nil) rfl) ⟨a29, c30, a31, c32, rfl, rfl⟩ (H.sel' [0, 1, 2] rfl rfl)

theorem c_spec_inRange {Ek : Int} {El : Int} {Em : Int}  {r : Bool} (h : M.spec_inRange Ek El Em = some r) :
    Cal2 Tryz.prog 60 [(I Ek), (I El), (I Em)] [] (fun n0 v L => v = (B r) ∧ L = []) := by
 refine cal2 (n := 15) Tryz.func60 rfl rfl rfl rfl ?_
 intro S0 σ0 n0 hn0 H
 unfold M.spec_inRange at h
 refine c_seq (rg (sa (B false) rfl (w_end (q_then (c_seq (rg (sm (I El) rfl (sm (I Ek) rfl (st (v := (B (decide (El ≤ Ek)))) (rv_leq (a := El) (b := Ek) rfl rfl) (sm (B (decide (El ≤ Ek))) rfl ?_))))))))))
 rcases Bool.eq_false_or_eq_true (decide (El ≤ Ek)) with hb1 | hb1
 ·replace h := bif_t hb1 h
  refine st_g (v := (I Ek)) (congrArg some hb1) (rv_move rfl) (st_g (v := (I Em)) (congrArg some hb1) (rv_move rfl) (st_g (v := (B (decide (Ek ≤ Em)))) (congrArg some hb1) (rv_leq (a := Ek) (b := Em) rfl rfl) (st (v := (B (decide (Ek ≤ Em)))) (rv_pick_t (congrArg B hb1) rfl) (sa (B (decide (Ek ≤ Em))) rfl (w_end (q_then (c_ret ?_)))))))
  obtain rfl := sj h
  exact fin_ret (v := (B (decide (Ek ≤ Em)))) (results_ok Tryz.results60 (res_tmp (v := (B (decide (Ek ≤ Em)))) rfl res_nil) rfl) ⟨rfl, rfl⟩ (H.sel' [] rfl rfl)
 ·replace h := bif_f hb1 h
  refine st_skip (congrArg some hb1) (st_skip (congrArg some hb1) (st_skip (congrArg some hb1) (st (v := (B false)) (rv_pick_f (congrArg B hb1) rfl) (sa (B false) rfl (w_end (q_then (c_ret ?_)))))))
  obtain rfl := sj h
  exact fin_ret (v := (B false)) (results_ok Tryz.results60 (res_tmp (v := (B false)) rfl res_nil) rfl) ⟨rfl, rfl⟩ (H.sel' [] rfl rfl)

theorem c_spec_allIn {Ax : List Int} {El : Int} {Em : Int} {Az : Option Addr} {Ba : Nat} {r : Bool} (h : M.spec_allIn Ax El Em = some r) :
    Cal2 Tryz.prog 164 [(Sl Az Ax Ba), (I El), (I Em)] [Ch.ro 0 (Sl Az Ax Ba) Ax] (fun n0 v L => v = (B r) ∧ L = []) := by
 refine cal2 (n := 22) Tryz.func164 rfl rfl rfl rfl ?_
 intro S0 σ0 n0 hn0 H
 unfold M.spec_allIn at h
 refine c_seq (rg (sa (B false) rfl (w_end (q_then (c_seq (c_seq (rg (sa (I 0) rfl (w_end (q_then ?_))))))))))
 obtain ⟨o1, hj, h'⟩ := bind_some h
 clear h
 refine c_cut (fun e a w => (∃ t, o1 = (.inl t) ∧ e = .normal ∧ ∃ (ρ : Nat → Value) (σ : St), a = fr 22 (updL ρ []) ∧ w = σ.w ∧ Hp S0 σ0 σ []) ∨ (∃ t, o1 = (.inr t) ∧ e = .ret ∧ ∃ (ρ : Nat → Value) (σ : St), a = fr 22 (updL ρ [(6, (B t))]) ∧ w = σ.w ∧ Hp S0 σ0 σ [])) ?_ ?_
 ·clear h'
  rename _ = some o1 => h
  refine c_blk (wp_loopM _ h (fun s2 a w => ∃ (ρ : Nat → Value) (σ : St), a = fr 22 (updL ρ [(0, (Sl Az Ax Ba)), (1, (I El)), (2, (I Em)), (7, (I s2))]) ∧ w = σ.w ∧ Hp S0 σ0 σ [Ch.ro 0 (Sl Az Ax Ba) Ax]) ⟨_, σ0, fr_join ⟨rfl, rfl, rfl, rfl, trivial⟩, rfl, H.sel' [0] rfl rfl⟩ ?_)
  clear h H
  rintro s2 a w o ⟨ρ, σ3, rfl, rfl, H⟩ h hres
  refine c_seq (c_seq (rg (sm (I s2) rfl (sm (Sl Az Ax Ba) rfl (st (v := (I (Ax.length : Int))) (rv_len Tryz.underlying27 rfl) (st (v := (B (decide (s2 < (Ax.length : Int))))) (rv_lss (a := s2) (b := (Ax.length : Int)) rfl rfl) (w_end (q_then ?_))))))))
  refine cd_cond (decide (s2 < (Ax.length : Int))) rfl (fun hb4 => ?_) (fun hb4 => ?_)
  ·replace h := bif_t hb4 h
   refine c_skip (q_then (c_seq (c_blk (c_seq (rg (sm (Sl Az Ax Ba) rfl (sm (I s2) rfl ?_)))))))
   revert h; refine br fun x5 hx6 h => ?_
   obtain ⟨b8, o9, hi7, -⟩ := (H.ro 0 rfl).ix hx6
   refine st (v := (pt b8 o9)) (rv_ix Tryz.underlying27 ti3 rfl rfl hi7) ?_
   have hc10 := ((H.ro 0 rfl).at hx6 hi7).int
   refine st (v := (I x5)) (rv_load1 Tryz.underlying3 rfl rfl hc10) (sm (I El) rfl (sm (I Em) rfl ?_))
   revert h; refine br fun r11 hx12 h => ?_
   have hc13 := c_spec_inRange hx12
   refine st_call (cx_call hc13 (ent_f hc13.fn rfl) hn0 (H.sel' [0] rfl rfl : Hp S0 σ0 _ ([] ++ _))) wn ?_
   rintro _ σ14 ⟨_, ⟨rfl, rfl⟩, H, -⟩
   replace H : Hp _ _ _ [_] := H
   refine st (v := (B (!r11))) (rv_not rfl) (w_end (q_then ?_))
   refine cd_cond (!r11) rfl (fun hb15 => ?_) (fun hb15 => ?_)
   ·replace h := bif_t hb15 h
    refine c_seq (rg (sa (B false) rfl (w_end (q_then (c_ret (q_blk_r (q_then_r (q_then_r (q_blk_r ?_)))))))))
    obtain rfl := sj h
    obtain rfl := hres _ rfl
    exact .inr (⟨_, rfl, rfl, _, σ14, fr_join ⟨rfl, trivial⟩, rfl, H.sel' [] rfl rfl⟩)
   ·replace h := bif_f hb15 h
    refine c_skip (q_blk (q_then (rg (sm (I s2) rfl (st (v := (I (w64 (s2 + 1)))) (rv_add (a := s2) (b := 1) rfl rfl) (sa (I (w64 (s2 + 1))) rfl (w_end (q_then ?_))))))))
    obtain rfl := sj h
    exact ⟨_, rfl, _, σ14, fr_join ⟨rfl, rfl, rfl, rfl, trivial⟩, rfl, H.sel' [0] rfl rfl⟩
  ·replace h := bif_f hb4 h
   refine c_exit (q_then_x (q_then_x (q_blk_hit ?_)))
   obtain rfl := sj h
   obtain rfl := hres _ rfl
   exact .inl ⟨_, rfl, rfl, _, σ3, fr_join trivial, rfl, H.sel' [] rfl rfl⟩
 ·clear hj
  have h := h'
  clear h' H
  rintro e a w (⟨t16, rfl, rfl, ρ, σ17, rfl, rfl, H⟩ | ⟨t18, rfl, rfl, ρ, σ19, rfl, rfl, H⟩)
  ·replace h := selim_l h
   refine q_then (c_seq (rg (sa (B true) rfl (w_end (q_then (c_ret ?_))))))
   obtain rfl := sj h
   exact fin_ret (v := (B true)) (results_ok Tryz.results164 (res_tmp (v := (B true)) rfl res_nil) rfl) ⟨rfl, rfl⟩ (H.sel' [] rfl rfl)
  ·replace h := selim_r h
   refine q_then_r ?_
   obtain rfl := sj h
   exact fin_ret (v := (B t18)) (results_ok Tryz.results164 (res_tmp (v := (B t18)) rfl res_nil) rfl) ⟨rfl, rfl⟩ (H.sel' [] rfl rfl)

theorem c_spec_isVector {Ae : List Int} {Af : Option Addr} {Ag : Nat} {r : Bool} (h : M.spec_isVector Ae = some r) :
    Cal2 Tryz.prog 122 [(Sl Af Ae Ag)] [Ch.ro 0 (Sl Af Ae Ag) Ae] (fun n0 v L => v = (B r) ∧ L = []) := by
 refine cal2 (n := 10) Tryz.func122 rfl rfl rfl rfl ?_
 intro S0 σ0 n0 hn0 H
 unfold M.spec_isVector at h
 refine c_seq (rg (sa (B false) rfl (w_end (q_then (c_seq (rg (sm (Sl Af Ae Ag) rfl (st (v := (I (Ae.length : Int))) (rv_len Tryz.underlying27 rfl) (st (v := (B ((Ae.length : Int) == 4))) (rv_eql (a := (Ae.length : Int)) (b := 4) rfl rfl) (sm (B ((Ae.length : Int) == 4)) rfl ?_))))))))))
 rcases Bool.eq_false_or_eq_true ((Ae.length : Int) == 4) with hb1 | hb1
 ·replace h := bif_t hb1 h
  refine st_g (v := (Sl Af Ae Ag)) (congrArg some hb1) (rv_move rfl) ?_
  revert h; refine br fun r2 hx3 h => ?_
  have hc4 := c_spec_allIn (Az := Af) (Ba := Ag) hx3
  refine st_call (cx_call hc4 (ent_f hc4.fn rfl) hn0 (H.sel' [0, 0] rfl rfl : Hp S0 σ0 _ ([_] ++ _))) (wanted_yes rfl (by exact (congrArg some hb1))) ?_
  rintro _ σ5 ⟨_, ⟨rfl, rfl⟩, H, -⟩
  replace H : Hp _ _ _ [_] := H
  refine st (v := (B r2)) (rv_pick_t (congrArg B hb1) rfl) (sa (B r2) rfl (w_end (q_then (c_ret ?_))))
  obtain rfl := sj h
  exact fin_ret (v := (B r2)) (results_ok Tryz.results122 (res_tmp (v := (B r2)) rfl res_nil) rfl) ⟨rfl, rfl⟩ (H.sel' [] rfl rfl)
 ·replace h := bif_f hb1 h
  refine st_skip (congrArg some hb1) (st_skip (congrArg some hb1) (st (v := (B false)) (rv_pick_f (congrArg B hb1) rfl) (sa (B false) rfl (w_end (q_then (c_ret ?_))))))
  obtain rfl := sj h
  exact fin_ret (v := (B false)) (results_ok Tryz.results122 (res_tmp (v := (B false)) rfl res_nil) rfl) ⟨rfl, rfl⟩ (H.sel' [] rfl rfl)

theorem c_spec_validItem {Be : Int × (List Int) × Int} {Bf : Option Addr} {Bg : Nat} {r : Bool} (h : M.spec_validItem Be = some r) :
    Cal2 Tryz.prog 142 [(.agg #[(I Be.1), (Sl Bf Be.2.1 Bg), (I Be.2.2)])] [Ch.ro 0 (Sl Bf Be.2.1 Bg) Be.2.1] (fun n0 v L => v = (B r) ∧ L = []) := by
 refine cal2 (n := 16) Tryz.func142 rfl rfl rfl rfl ?_
 intro S0 σ0 n0 hn0 H
 unfold M.spec_validItem at h
 refine c_seq (rg (st_ex (ex_box (cs := [(I Be.1), (Sl Bf Be.2.1 Bg), (I Be.2.2)]) H hn0 rfl rfl) wn ?_))
 rintro _ σ2 ⟨b1, rfl, H, -⟩
 refine sa (B false) rfl (w_end (q_then (c_seq (rg (st (v := (pt b1 0)) (rv_fieldAddr (off := 0) (ft := 3) Tryz.underlying34 rfl ti3 rfl rfl) ?_)))))
 have hc3 := H.cell (u := (I Be.1)) (o' := 0) 0 0 rfl rfl rfl
 refine st (v := (I Be.1)) (rv_load1 Tryz.underlying3 rfl rfl hc3) ?_
 revert h; refine br fun r4 hx5 h => ?_
 have hc6 := c_spec_inRange hx5
 refine st_call (cx_call hc6 (ent_f hc6.fn rfl) hn0 (H.sel' [0, 1] rfl rfl : Hp S0 σ0 _ ([] ++ _))) wn ?_
 rintro _ σ7 ⟨_, ⟨rfl, rfl⟩, H, -⟩
 replace H : Hp _ _ _ [_, _] := H
 refine sm (B r4) rfl ?_
 rcases Bool.eq_false_or_eq_true r4 with hb8 | hb8
 ·replace h := bif_t hb8 h
  refine st_g (v := (pt b1 1)) (congrArg some hb8) (rv_fieldAddr (off := 1) (ft := 27) Tryz.underlying34 rfl ti27 rfl rfl) ?_
  have hc9 := H.cell (u := (Sl Bf Be.2.1 Bg)) (o' := 1) 0 1 rfl rfl rfl
  refine st_g (v := (Sl Bf Be.2.1 Bg)) (congrArg some hb8) (rv_load1 Tryz.underlying27 rfl rfl hc9) ?_
  revert h; refine br fun r10 hx11 h => ?_
  have hc12 := c_spec_isVector (Af := Bf) (Ag := Bg) hx11
  refine st_call (cx_call hc12 (ent_f hc12.fn rfl) hn0 (H.sel' [1, 0, 1] rfl rfl : Hp S0 σ0 _ ([_] ++ _))) (wanted_yes rfl (by exact (congrArg some hb8))) ?_
  rintro _ σ13 ⟨_, ⟨rfl, rfl⟩, H, -⟩
  replace H : Hp _ _ _ [_, _] := H
  refine st (v := (B r10)) (rv_pick_t (congrArg B hb8) rfl) (sm (B r10) rfl ?_)
  rcases Bool.eq_false_or_eq_true r10 with hb14 | hb14
  ·replace h := bif_t hb14 h
   refine st_g (v := (pt b1 2)) (congrArg some hb14) (rv_fieldAddr (off := 2) (ft := 3) Tryz.underlying34 rfl ti3 rfl rfl) ?_
   have hc15 := H.cell (u := (I Be.2.2)) (o' := 2) 0 2 rfl rfl rfl
   refine st_g (v := (I Be.2.2)) (congrArg some hb14) (rv_load1 Tryz.underlying3 rfl rfl hc15) ?_
   revert h; refine br fun r16 hx17 h => ?_
   have hc18 := c_spec_inRange hx17
   refine st_call (cx_call hc18 (ent_f hc18.fn rfl) hn0 (H.sel' [0, 1] rfl rfl : Hp S0 σ0 _ ([] ++ _))) (wanted_yes rfl (by exact (congrArg some hb14))) ?_
   rintro _ σ19 ⟨_, ⟨rfl, rfl⟩, H, -⟩
   replace H : Hp _ _ _ [_, _] := H
   refine st (v := (B r16)) (rv_pick_t (congrArg B hb14) rfl) (sa (B r16) rfl (w_end (q_then (c_ret ?_))))
   obtain rfl := sj h
   exact fin_ret (v := (B r16)) (results_ok Tryz.results142 (res_tmp (v := (B r16)) rfl res_nil) rfl) ⟨rfl, rfl⟩ (H.sel' [] rfl rfl)
  ·replace h := bif_f hb14 h
   refine st_skip (congrArg some hb14) (st_skip (congrArg some hb14) (st_skip (congrArg some hb14) (st (v := (B false)) (rv_pick_f (congrArg B hb14) rfl) (sa (B false) rfl (w_end (q_then (c_ret ?_)))))))
   obtain rfl := sj h
   exact fin_ret (v := (B false)) (results_ok Tryz.results142 (res_tmp (v := (B false)) rfl res_nil) rfl) ⟨rfl, rfl⟩ (H.sel' [] rfl rfl)
 ·replace h := bif_f hb8 h
  refine st_skip (congrArg some hb8) (st_skip (congrArg some hb8) (st_skip (congrArg some hb8) (st (v := (B false)) (rv_pick_f (congrArg B hb8) rfl) (sm (B false) rfl (st_skip rfl (st_skip rfl (st_skip rfl (st (v := (B false)) (rv_pick_f rfl rfl) (sa (B false) rfl (w_end (q_then ?_)))))))))))
  refine c_ret ?_
  obtain rfl := sj h
  exact fin_ret (v := (B false)) (results_ok Tryz.results142 (res_tmp (v := (B false)) rfl res_nil) rfl) ⟨rfl, rfl⟩ (H.sel' [] rfl rfl)

theorem c_spec_validStore {Ax : List (Int × (List Int) × Int)} {Az : Option Addr} {Ba : Nat} {r : Bool} (h : M.spec_validStore Ax = some r) :
    Cal2 Tryz.prog 90 [(Sl Az Ax Ba)] [Ch.ro 0 (Sl Az Ax Ba) Ax] (fun n0 v L => v = (B r) ∧ L = []) := by
 refine cal2 (n := 37) Tryz.func90 rfl rfl rfl rfl ?_
 intro S0 σ0 n0 hn0 H
 unfold M.spec_validStore at h
 refine c_seq (rg (sa (B false) rfl (w_end (q_then (c_seq (c_seq (rg (sa (I 0) rfl (w_end (q_then ?_))))))))))
 obtain ⟨o1, hj, h'⟩ := bind_some h
 clear h
 refine c_cut (fun e a w => (∃ t, o1 = (.inl t) ∧ e = .normal ∧ ∃ (ρ : Nat → Value) (σ : St), a = fr 37 (updL ρ [(0, (Sl Az Ax Ba))]) ∧ w = σ.w ∧ Hp S0 σ0 σ [Ch.ro 0 (Sl Az Ax Ba) Ax]) ∨ (∃ t, o1 = (.inr t) ∧ e = .ret ∧ ∃ (ρ : Nat → Value) (σ : St), a = fr 37 (updL ρ [(2, (B t))]) ∧ w = σ.w ∧ Hp S0 σ0 σ [])) ?_ ?_
 ·clear h'
  rename _ = some o1 => h
  refine c_blk (wp_loopM _ h (fun s2 a w => ∃ (ρ : Nat → Value) (σ : St), a = fr 37 (updL ρ [(0, (Sl Az Ax Ba)), (3, (I s2))]) ∧ w = σ.w ∧ Hp S0 σ0 σ [Ch.ro 0 (Sl Az Ax Ba) Ax]) ⟨_, σ0, fr_join ⟨rfl, rfl, trivial⟩, rfl, H.sel' [0] rfl rfl⟩ ?_)
  clear h H
  rintro s2 a w o ⟨ρ, σ3, rfl, rfl, H⟩ h hres
  refine c_seq (c_seq (rg (sm (I s2) rfl (sm (Sl Az Ax Ba) rfl (st (v := (I (Ax.length : Int))) (rv_len Tryz.underlying26 rfl) (st (v := (B (decide (s2 < (Ax.length : Int))))) (rv_lss (a := s2) (b := (Ax.length : Int)) rfl rfl) (w_end (q_then ?_))))))))
  refine cd_cond (decide (s2 < (Ax.length : Int))) rfl (fun hb4 => ?_) (fun hb4 => ?_)
  ·replace h := bif_t hb4 h
   refine c_skip (q_then (c_seq (c_blk (c_seq ?_))))
   obtain ⟨o5, hj, h'⟩ := bind_some h
   clear h
   refine c_cut (fun e a w => e = .normal ∧ ∃ (ρ : Nat → Value) (σ : St), a = fr 37 (updL ρ [(0, (Sl Az Ax Ba)), (3, (I s2)), (33, (B o5))]) ∧ w = σ.w ∧ Hp S0 σ0 σ [Ch.ro 0 (Sl Az Ax Ba) Ax]) ?_ ?_
   ·clear h'
    rename _ = some o5 => h
    revert h; refine br fun x6 hx7 h => ?_
    obtain ⟨b9, o10, hi8, -⟩ := (H.ro 0 rfl).ix hx7
    obtain ⟨_, ⟨_, _, rfl, rfl, ⟨_, _, rfl, ⟨_, rfl, hR15⟩, rfl⟩⟩, hl11, hc12⟩ := ((H.ro 0 rfl).at hx7 hi8).cells
    obtain ⟨a13, c14, rfl⟩ := hR15.isSl
    replace H := H.add (d := Ch.ro 0 (Sl a13 x6.2.1 c14) x6.2.1) hR15 (fun _ h => h)
    clear hR15
    revert h; refine br fun r16 hx17 h => ?_
    have hc18 := c_spec_validItem (Bf := a13) (Bg := c14) hx17
    rcases Bool.eq_false_or_eq_true (!r16) with hb19 | hb19
    ·replace h := bif_t hb19 h
     have Hs := H
     refine rg2 (σ := σ3) (Nm := Unit) 21 [4] [[false], [true]] [[(0, 0)], [(0, 0)], [(0, 0)], [(0, 0)], [(0, 1)], [(1, 1)], [(1, 1)], [(1, 1)], [(1, 1)], [(1, 1)], [(1, 1)], [(1, 1)], [(1, 1)], [(1, 1)], [(1, 1)], [(1, 1)], [(1, 1)], [(1, 1)], [(1, 1)], [(1, 1)], [(1, 1)]] 1 [fun _ => fun σm => Hp S0 σ0 σm [Ch.ro 0 (Sl a13 x6.2.1 c14) x6.2.1, Ch.ro 0 (Sl Az Ax Ba) Ax] ∧ Md (cov []) σ3 σm, fun _ => fun σm => Hp S0 σ0 σm [Ch.ro 0 (Sl a13 x6.2.1 c14) x6.2.1, Ch.ro 0 (Sl Az Ax Ba) Ax] ∧ Md (cov []) σ3 σm] [fun _ => (Sl Az Ax Ba), fun _ => (I s2), fun _ => (pt b9 o10), fun _ => (.agg #[(I x6.1), (Sl a13 x6.2.1 c14), (I x6.2.2)]), fun _ => (B r16), fun _ => (B (!r16)), fun _ => (B (!r16)), fun _ => undef, fun _ => undef, fun _ => undef, fun _ => undef, fun _ => undef, fun _ => undef, fun _ => undef, fun _ => undef, fun _ => undef, fun _ => undef, fun _ => undef, fun _ => undef, fun _ => undef, fun _ => undef] () (by kernel_rfl) (by kernel_rfl) ?_ ?_ ?_
     ·intro σm m0
      exact ⟨H.grow (m0.mono fun _ h => h.elim), m0⟩
     ·refine ac rfl (by
        intro k _nm ρ σm hJ hoff hdep
        have e0 := look_off (N := 37) (hoff 0 rfl) rfl
        exact dp_v (v := (Sl Az Ax Ba)) wn (rv_move e0) rfl hJ) ?_
      refine ac rfl (by
        intro k _nm ρ σm hJ hoff hdep
        have e3 := look_off (N := 37) (hoff 3 rfl) rfl
        exact dp_v (v := (I s2)) wn (rv_move e3) rfl hJ) ?_
      refine ac rfl (by
        intro k _nm ρ σm hJ hoff hdep
        have e10 := hdep 0 rfl rfl 10 rfl
        have e11 := hdep 1 rfl rfl 11 rfl
        exact dp_v (v := (pt b9 o10)) wn (rv_ix Tryz.underlying26 ti34 e10 e11 hi8) rfl hJ) ?_
      refine all_cons (by
        refine ⟨?_, ?_⟩
        ·intro _nm ρ σm hJ hoff hdep
         have e12 := hdep 2 rfl rfl 12 rfl
         obtain ⟨H, m⟩ := id hJ
         replace hc12 := fun j hj => (Hs.ro 1 rfl).hmd hx7 hi8 (k := j) (Nat.lt_of_lt_of_eq hj hl11) (hc12 j hj) m
         exact dp_v (v := (.agg #[(I x6.1), (Sl a13 x6.2.1 c14), (I x6.2.2)])) wn (rv_load Tryz.underlying34 rfl ti34 e12 hl11 hc12) rfl hJ
        trivial) ?_
      refine all_cons (by
        refine ⟨?_, ?_⟩
        ·intro _nm ρ σm hJ hoff hdep
         have e13 : look 37 ρ 13 = (.agg #[(I x6.1), (Sl a13 x6.2.1 c14), (I x6.2.2)]) := hdep 3 rfl rfl 13 rfl
         obtain ⟨H, m⟩ := id hJ
         refine dp_cx wn (cx_call hc18 (ent_f hc18.fn (by show [look 37 ρ 13] = _; rw [e13])) hn0 (H.sel' [0, 0, 1] rfl rfl : Hp S0 σ0 _ ([_] ++ _))) ?_
         rintro _ σq ⟨_, ⟨rfl, rfl⟩, H2, m2⟩
         exact ⟨_, (), rfl, rfl, ⟨H2.sel' [0, 1] rfl rfl, m.comp0 (m2.mono (fun i h => by simp [cov, Ch.ro] at h))⟩, stab [0, 1, 2, 3] (by kernel_rfl) ⟨rfl, rfl, rfl, rfl, trivial⟩⟩
        trivial) ?_
      refine ac rfl (by
        intro k _nm ρ σm hJ hoff hdep
        have e14 := hdep 4 rfl rfl 14 rfl
        exact dp_v (v := (B (!r16))) wn (rv_not e14) rfl hJ) ?_
      refine ac rfl (by
        intro k _nm ρ σm hJ hoff hdep
        have e15 := hdep 5 rfl rfl 15 rfl
        exact dp_v (v := (B (!r16))) wn (rv_move e15) rfl hJ) ?_
      refine ac rfl (by
        intro k _nm ρ σm hJ hoff hdep
        have e16 := hdep 6 rfl rfl 16 rfl
        exact dp_skip (wanted_no rfl (yv_of rfl (e16.trans (congrArg B hb19)))) rfl hJ) ?_
      refine ac rfl (by
        intro k _nm ρ σm hJ hoff hdep
        have e16 := hdep 6 rfl rfl 16 rfl
        exact dp_skip (wanted_no rfl (yv_of rfl (e16.trans (congrArg B hb19)))) rfl hJ) ?_
      refine ac rfl (by
        intro k _nm ρ σm hJ hoff hdep
        have e16 := hdep 6 rfl rfl 16 rfl
        exact dp_skip (wanted_no rfl (yv_of rfl (e16.trans (congrArg B hb19)))) rfl hJ) ?_
      refine ac rfl (by
        intro k _nm ρ σm hJ hoff hdep
        have e19 := hdep 9 rfl rfl 19 rfl
        exact dp_skip (wanted_u rfl (yv_undef rfl e19)) rfl hJ) ?_
      refine ac rfl (by
        intro k _nm ρ σm hJ hoff hdep
        have e19 := hdep 9 rfl rfl 19 rfl
        exact dp_skip (wanted_u rfl (yv_undef rfl e19)) rfl hJ) ?_
      refine ac rfl (by
        intro k _nm ρ σm hJ hoff hdep
        have e19 := hdep 9 rfl rfl 19 rfl
        exact dp_skip (wanted_u rfl (yv_undef rfl e19)) rfl hJ) ?_
      refine ac rfl (by
        intro k _nm ρ σm hJ hoff hdep
        have e19 := hdep 9 rfl rfl 19 rfl
        exact dp_skip (wanted_u rfl (yv_undef rfl e19)) rfl hJ) ?_
      refine ac rfl (by
        intro k _nm ρ σm hJ hoff hdep
        have e19 := hdep 9 rfl rfl 19 rfl
        exact dp_skip (wanted_u rfl (yv_undef rfl e19)) rfl hJ) ?_
      refine ac rfl (by
        intro k _nm ρ σm hJ hoff hdep
        have e19 := hdep 9 rfl rfl 19 rfl
        exact dp_skip (wanted_u rfl (yv_undef rfl e19)) rfl hJ) ?_
      refine ac rfl (by
        intro k _nm ρ σm hJ hoff hdep
        have e19 := hdep 9 rfl rfl 19 rfl
        exact dp_skip (wanted_u rfl (yv_undef rfl e19)) rfl hJ) ?_
      refine ac rfl (by
        intro k _nm ρ σm hJ hoff hdep
        have e19 := hdep 9 rfl rfl 19 rfl
        exact dp_skip (wanted_u rfl (yv_undef rfl e19)) rfl hJ) ?_
      refine ac rfl (by
        intro k _nm ρ σm hJ hoff hdep
        have e19 := hdep 9 rfl rfl 19 rfl
        exact dp_skip (wanted_u rfl (yv_undef rfl e19)) rfl hJ) ?_
      refine ac rfl (by
        intro k _nm ρ σm hJ hoff hdep
        have e19 := hdep 9 rfl rfl 19 rfl
        exact dp_skip (wanted_u rfl (yv_undef rfl e19)) rfl hJ) ?_
      refine ac rfl (by
        intro k _nm ρ σm hJ hoff hdep
        have e19 := hdep 9 rfl rfl 19 rfl
        exact dp_skip (wanted_u rfl (yv_undef rfl e19)) rfl hJ) ?_
      exact all_nil
     ·intro _nm ρ σ20 hJ hoff hrel
      have e0 := look_off (N := 37) (hoff 0 rfl) rfl
      have e3 := look_off (N := 37) (hoff 3 rfl) rfl
      have e16 := hrel 6 rfl 16 rfl
      have e19 := hrel 9 rfl 19 rfl
      have e24 := hrel 14 rfl 24 rfl
      have e30 := hrel 20 rfl 30 rfl
      obtain ⟨H, -⟩ := (show Hp S0 σ0 σ20 [Ch.ro 0 (Sl a13 x6.2.1 c14) x6.2.1, Ch.ro 0 (Sl Az Ax Ba) Ax] ∧ Md (cov []) σ3 σ20 from hJ)
      clear hJ Hs
      rw [fr_lookL (L := [(0, (Sl Az Ax Ba)), (3, (I s2)), (16, (B (!r16))), (19, undef), (24, undef), (30, undef)]) ⟨e0, e3, e16, e19, e24, e30, trivial⟩]
      clear hoff hrel e0 e3 e16 e19 e24 e30
      refine st_skip_u rfl (st_skip (congrArg some hb19) (st (v := (B true)) (rv_pick_t (congrArg B hb19) rfl) (w_end ?_)))
      obtain rfl := sj h
      exact ⟨rfl, _, σ20, fr_join ⟨rfl, rfl, rfl, trivial⟩, rfl, H.sel' [1] rfl rfl⟩
    ·replace h := bif_f hb19 h
     rcases Bool.eq_false_or_eq_true (decide (0 < s2)) with hb21 | hb21
     ·replace h := bif_t hb21 h
      revert h; refine br fun x22 hx23 h => ?_
      obtain ⟨b25, o26, hi24, -⟩ := (H.ro 1 rfl).ix hx23
      have hc27 := ((H.ro 1 rfl).at hx23 hi24).fst.int
      revert h; refine br fun x28 hx29 h => ?_
      obtain ⟨b31, o32, hi30, -⟩ := (H.ro 1 rfl).ix hx29
      have hc33 := ((H.ro 1 rfl).at hx29 hi30).fst.int
      have Hs := H
      refine rg2 (σ := σ3) (Nm := Unit) 21 [4] [[false], [true]] [[(0, 0)], [(0, 0)], [(0, 0)], [(0, 0)], [(0, 1)], [(1, 1)], [(1, 1)], [(1, 1)], [(1, 1)], [(1, 1)], [(1, 1)], [(1, 1)], [(1, 1)], [(1, 1)], [(1, 1)], [(1, 1)], [(1, 1)], [(1, 1)], [(1, 1)], [(1, 1)], [(1, 1)]] 1 [fun _ => fun σm => Hp S0 σ0 σm [Ch.ro 0 (Sl a13 x6.2.1 c14) x6.2.1, Ch.ro 0 (Sl Az Ax Ba) Ax] ∧ Md (cov []) σ3 σm, fun _ => fun σm => Hp S0 σ0 σm [Ch.ro 0 (Sl a13 x6.2.1 c14) x6.2.1, Ch.ro 0 (Sl Az Ax Ba) Ax] ∧ Md (cov []) σ3 σm] [fun _ => (Sl Az Ax Ba), fun _ => (I s2), fun _ => (pt b9 o10), fun _ => (.agg #[(I x6.1), (Sl a13 x6.2.1 c14), (I x6.2.2)]), fun _ => (B r16), fun _ => (B (!r16)), fun _ => (B (!r16)), fun _ => (I s2), fun _ => (B (decide (0 < s2))), fun _ => (B (decide (0 < s2))), fun _ => (Sl Az Ax Ba), fun _ => (I s2), fun _ => (pt b25 o26), fun _ => (pt b25 (o26 + 0)), fun _ => (I x22.1), fun _ => (Sl Az Ax Ba), fun _ => (I s2), fun _ => (I (w64 (s2 - 1))), fun _ => (pt b31 o32), fun _ => (pt b31 (o32 + 0)), fun _ => (I x28.1)] () (by kernel_rfl) (by kernel_rfl) ?_ ?_ ?_
      ·intro σm m0
       exact ⟨H.grow (m0.mono fun _ h => h.elim), m0⟩
      ·refine ac rfl (by
         intro k _nm ρ σm hJ hoff hdep
         have e0 := look_off (N := 37) (hoff 0 rfl) rfl
         exact dp_v (v := (Sl Az Ax Ba)) wn (rv_move e0) rfl hJ) ?_
       refine ac rfl (by
         intro k _nm ρ σm hJ hoff hdep
         have e3 := look_off (N := 37) (hoff 3 rfl) rfl
         exact dp_v (v := (I s2)) wn (rv_move e3) rfl hJ) ?_
       refine ac rfl (by
         intro k _nm ρ σm hJ hoff hdep
         have e10 := hdep 0 rfl rfl 10 rfl
         have e11 := hdep 1 rfl rfl 11 rfl
         exact dp_v (v := (pt b9 o10)) wn (rv_ix Tryz.underlying26 ti34 e10 e11 hi8) rfl hJ) ?_
       refine all_cons (by
         refine ⟨?_, ?_⟩
         ·intro _nm ρ σm hJ hoff hdep
          have e12 := hdep 2 rfl rfl 12 rfl
          obtain ⟨H, m⟩ := id hJ
          replace hc12 := fun j hj => (Hs.ro 1 rfl).hmd hx7 hi8 (k := j) (Nat.lt_of_lt_of_eq hj hl11) (hc12 j hj) m
          exact dp_v (v := (.agg #[(I x6.1), (Sl a13 x6.2.1 c14), (I x6.2.2)])) wn (rv_load Tryz.underlying34 rfl ti34 e12 hl11 hc12) rfl hJ
         trivial) ?_
       refine all_cons (by
         refine ⟨?_, ?_⟩
         ·intro _nm ρ σm hJ hoff hdep
          have e13 : look 37 ρ 13 = (.agg #[(I x6.1), (Sl a13 x6.2.1 c14), (I x6.2.2)]) := hdep 3 rfl rfl 13 rfl
          obtain ⟨H, m⟩ := id hJ
          refine dp_cx wn (cx_call hc18 (ent_f hc18.fn (by show [look 37 ρ 13] = _; rw [e13])) hn0 (H.sel' [0, 0, 1] rfl rfl : Hp S0 σ0 _ ([_] ++ _))) ?_
          rintro _ σq ⟨_, ⟨rfl, rfl⟩, H2, m2⟩
          exact ⟨_, (), rfl, rfl, ⟨H2.sel' [0, 1] rfl rfl, m.comp0 (m2.mono (fun i h => by simp [cov, Ch.ro] at h))⟩, stab [0, 1, 2, 3] (by kernel_rfl) ⟨rfl, rfl, rfl, rfl, trivial⟩⟩
         trivial) ?_
       refine ac rfl (by
         intro k _nm ρ σm hJ hoff hdep
         have e14 := hdep 4 rfl rfl 14 rfl
         exact dp_v (v := (B (!r16))) wn (rv_not e14) rfl hJ) ?_
       refine ac rfl (by
         intro k _nm ρ σm hJ hoff hdep
         have e15 := hdep 5 rfl rfl 15 rfl
         exact dp_v (v := (B (!r16))) wn (rv_move e15) rfl hJ) ?_
       refine ac rfl (by
         intro k _nm ρ σm hJ hoff hdep
         have e3 := look_off (N := 37) (hoff 3 rfl) rfl
         have e16 := hdep 6 rfl rfl 16 rfl
         exact dp_v (v := (I s2)) (wanted_yes rfl (yv_of rfl (e16.trans (congrArg B hb19)))) (rv_move e3) rfl hJ) ?_
       refine ac rfl (by
         intro k _nm ρ σm hJ hoff hdep
         have e17 := hdep 7 rfl rfl 17 rfl
         have e16 := hdep 6 rfl rfl 16 rfl
         exact dp_v (v := (B (decide (0 < s2)))) (wanted_yes rfl (yv_of rfl (e16.trans (congrArg B hb19)))) (rv_gtr (a := s2) (b := 0) e17 rfl) rfl hJ) ?_
       refine ac rfl (by
         intro k _nm ρ σm hJ hoff hdep
         have e18 := hdep 8 rfl rfl 18 rfl
         have e16 := hdep 6 rfl rfl 16 rfl
         exact dp_v (v := (B (decide (0 < s2)))) (wanted_yes rfl (yv_of rfl (e16.trans (congrArg B hb19)))) (rv_move e18) rfl hJ) ?_
       refine ac rfl (by
         intro k _nm ρ σm hJ hoff hdep
         have e0 := look_off (N := 37) (hoff 0 rfl) rfl
         have e19 := hdep 9 rfl rfl 19 rfl
         exact dp_v (v := (Sl Az Ax Ba)) (wanted_yes rfl (yv_of rfl (e19.trans (congrArg B hb21)))) (rv_move e0) rfl hJ) ?_
       refine ac rfl (by
         intro k _nm ρ σm hJ hoff hdep
         have e3 := look_off (N := 37) (hoff 3 rfl) rfl
         have e19 := hdep 9 rfl rfl 19 rfl
         exact dp_v (v := (I s2)) (wanted_yes rfl (yv_of rfl (e19.trans (congrArg B hb21)))) (rv_move e3) rfl hJ) ?_
       refine ac rfl (by
         intro k _nm ρ σm hJ hoff hdep
         have e20 := hdep 10 rfl rfl 20 rfl
         have e21 := hdep 11 rfl rfl 21 rfl
         have e19 := hdep 9 rfl rfl 19 rfl
         exact dp_v (v := (pt b25 o26)) (wanted_yes rfl (yv_of rfl (e19.trans (congrArg B hb21)))) (rv_ix Tryz.underlying26 ti34 e20 e21 hi24) rfl hJ) ?_
       refine ac rfl (by
         intro k _nm ρ σm hJ hoff hdep
         have e22 := hdep 12 rfl rfl 22 rfl
         have e19 := hdep 9 rfl rfl 19 rfl
         exact dp_v (v := (pt b25 (o26 + 0))) (wanted_yes rfl (yv_of rfl (e19.trans (congrArg B hb21)))) (rv_fieldAddr (off := 0) (ft := 3) Tryz.underlying34 rfl ti3 rfl e22) rfl hJ) ?_
       refine all_cons (by
         refine ⟨?_, ?_⟩
         ·intro _nm ρ σm hJ hoff hdep
          have e23 := hdep 13 rfl rfl 23 rfl
          have e19 := hdep 9 rfl rfl 19 rfl
          obtain ⟨H, m⟩ := id hJ
          replace hc27 := (Hs.ro 1 rfl).hmd hx23 hi24 (k := 0) (by decide) hc27 m
          exact dp_v (v := (I x22.1)) (wanted_yes rfl (yv_of rfl (e19.trans (congrArg B hb21)))) (rv_load1 Tryz.underlying3 rfl e23 hc27) rfl hJ
         trivial) ?_
       refine ac rfl (by
         intro k _nm ρ σm hJ hoff hdep
         have e0 := look_off (N := 37) (hoff 0 rfl) rfl
         have e19 := hdep 9 rfl rfl 19 rfl
         exact dp_v (v := (Sl Az Ax Ba)) (wanted_yes rfl (yv_of rfl (e19.trans (congrArg B hb21)))) (rv_move e0) rfl hJ) ?_
       refine ac rfl (by
         intro k _nm ρ σm hJ hoff hdep
         have e3 := look_off (N := 37) (hoff 3 rfl) rfl
         have e19 := hdep 9 rfl rfl 19 rfl
         exact dp_v (v := (I s2)) (wanted_yes rfl (yv_of rfl (e19.trans (congrArg B hb21)))) (rv_move e3) rfl hJ) ?_
       refine ac rfl (by
         intro k _nm ρ σm hJ hoff hdep
         have e26 := hdep 16 rfl rfl 26 rfl
         have e19 := hdep 9 rfl rfl 19 rfl
         exact dp_v (v := (I (w64 (s2 - 1)))) (wanted_yes rfl (yv_of rfl (e19.trans (congrArg B hb21)))) (rv_sub (a := s2) (b := 1) e26 rfl) rfl hJ) ?_
       refine ac rfl (by
         intro k _nm ρ σm hJ hoff hdep
         have e25 := hdep 15 rfl rfl 25 rfl
         have e27 := hdep 17 rfl rfl 27 rfl
         have e19 := hdep 9 rfl rfl 19 rfl
         exact dp_v (v := (pt b31 o32)) (wanted_yes rfl (yv_of rfl (e19.trans (congrArg B hb21)))) (rv_ix Tryz.underlying26 ti34 e25 e27 hi30) rfl hJ) ?_
       refine ac rfl (by
         intro k _nm ρ σm hJ hoff hdep
         have e28 := hdep 18 rfl rfl 28 rfl
         have e19 := hdep 9 rfl rfl 19 rfl
         exact dp_v (v := (pt b31 (o32 + 0))) (wanted_yes rfl (yv_of rfl (e19.trans (congrArg B hb21)))) (rv_fieldAddr (off := 0) (ft := 3) Tryz.underlying34 rfl ti3 rfl e28) rfl hJ) ?_
       refine all_cons (by
         refine ⟨?_, ?_⟩
         ·intro _nm ρ σm hJ hoff hdep
          have e29 := hdep 19 rfl rfl 29 rfl
          have e19 := hdep 9 rfl rfl 19 rfl
          obtain ⟨H, m⟩ := id hJ
          replace hc33 := (Hs.ro 1 rfl).hmd hx29 hi30 (k := 0) (by decide) hc33 m
          exact dp_v (v := (I x28.1)) (wanted_yes rfl (yv_of rfl (e19.trans (congrArg B hb21)))) (rv_load1 Tryz.underlying3 rfl e29 hc33) rfl hJ
         trivial) ?_
       exact all_nil
      ·intro _nm ρ σ34 hJ hoff hrel
       have e0 := look_off (N := 37) (hoff 0 rfl) rfl
       have e3 := look_off (N := 37) (hoff 3 rfl) rfl
       have e16 := hrel 6 rfl 16 rfl
       have e19 := hrel 9 rfl 19 rfl
       have e24 := hrel 14 rfl 24 rfl
       have e30 := hrel 20 rfl 30 rfl
       obtain ⟨H, -⟩ := (show Hp S0 σ0 σ34 [Ch.ro 0 (Sl a13 x6.2.1 c14) x6.2.1, Ch.ro 0 (Sl Az Ax Ba) Ax] ∧ Md (cov []) σ3 σ34 from hJ)
       clear hJ Hs
       rw [fr_lookL (L := [(0, (Sl Az Ax Ba)), (3, (I s2)), (16, (B (!r16))), (19, (B (decide (0 < s2)))), (24, (I x22.1)), (30, (I x28.1))]) ⟨e0, e3, e16, e19, e24, e30, trivial⟩]
       clear hoff hrel e0 e3 e16 e19 e24 e30
       refine st_g (v := (B (decide (x22.1 ≤ x28.1)))) (congrArg some hb21) (rv_leq (a := x22.1) (b := x28.1) rfl rfl) (st_g (v := (B (decide (x22.1 ≤ x28.1)))) (congrArg some hb19) (rv_pick_t (congrArg B hb21) rfl) (st (v := (B (decide (x22.1 ≤ x28.1)))) (rv_pick_f (congrArg B hb19) rfl) (w_end ?_)))
       obtain rfl := sj h
       exact ⟨rfl, _, σ34, fr_join ⟨rfl, rfl, rfl, trivial⟩, rfl, H.sel' [1] rfl rfl⟩
     ·replace h := bif_f hb21 h
      have Hs := H
      refine rg2 (σ := σ3) (Nm := Unit) 21 [4] [[false], [true]] [[(0, 0)], [(0, 0)], [(0, 0)], [(0, 0)], [(0, 1)], [(1, 1)], [(1, 1)], [(1, 1)], [(1, 1)], [(1, 1)], [(1, 1)], [(1, 1)], [(1, 1)], [(1, 1)], [(1, 1)], [(1, 1)], [(1, 1)], [(1, 1)], [(1, 1)], [(1, 1)], [(1, 1)]] 1 [fun _ => fun σm => Hp S0 σ0 σm [Ch.ro 0 (Sl a13 x6.2.1 c14) x6.2.1, Ch.ro 0 (Sl Az Ax Ba) Ax] ∧ Md (cov []) σ3 σm, fun _ => fun σm => Hp S0 σ0 σm [Ch.ro 0 (Sl a13 x6.2.1 c14) x6.2.1, Ch.ro 0 (Sl Az Ax Ba) Ax] ∧ Md (cov []) σ3 σm] [fun _ => (Sl Az Ax Ba), fun _ => (I s2), fun _ => (pt b9 o10), fun _ => (.agg #[(I x6.1), (Sl a13 x6.2.1 c14), (I x6.2.2)]), fun _ => (B r16), fun _ => (B (!r16)), fun _ => (B (!r16)), fun _ => (I s2), fun _ => (B (decide (0 < s2))), fun _ => (B (decide (0 < s2))), fun _ => undef, fun _ => undef, fun _ => undef, fun _ => undef, fun _ => undef, fun _ => undef, fun _ => undef, fun _ => undef, fun _ => undef, fun _ => undef, fun _ => undef] () (by kernel_rfl) (by kernel_rfl) ?_ ?_ ?_
      ·intro σm m0
       exact ⟨H.grow (m0.mono fun _ h => h.elim), m0⟩
      ·refine ac rfl (by
         intro k _nm ρ σm hJ hoff hdep
         have e0 := look_off (N := 37) (hoff 0 rfl) rfl
         exact dp_v (v := (Sl Az Ax Ba)) wn (rv_move e0) rfl hJ) ?_
       refine ac rfl (by
         intro k _nm ρ σm hJ hoff hdep
         have e3 := look_off (N := 37) (hoff 3 rfl) rfl
         exact dp_v (v := (I s2)) wn (rv_move e3) rfl hJ) ?_
       refine ac rfl (by
         intro k _nm ρ σm hJ hoff hdep
         have e10 := hdep 0 rfl rfl 10 rfl
         have e11 := hdep 1 rfl rfl 11 rfl
         exact dp_v (v := (pt b9 o10)) wn (rv_ix Tryz.underlying26 ti34 e10 e11 hi8) rfl hJ) ?_
       refine all_cons (by
         refine ⟨?_, ?_⟩
         ·intro _nm ρ σm hJ hoff hdep
          have e12 := hdep 2 rfl rfl 12 rfl
          obtain ⟨H, m⟩ := id hJ
          replace hc12 := fun j hj => (Hs.ro 1 rfl).hmd hx7 hi8 (k := j) (Nat.lt_of_lt_of_eq hj hl11) (hc12 j hj) m
          exact dp_v (v := (.agg #[(I x6.1), (Sl a13 x6.2.1 c14), (I x6.2.2)])) wn (rv_load Tryz.underlying34 rfl ti34 e12 hl11 hc12) rfl hJ
         trivial) ?_
       refine all_cons (by
         refine ⟨?_, ?_⟩
         ·intro _nm ρ σm hJ hoff hdep
          have e13 : look 37 ρ 13 = (.agg #[(I x6.1), (Sl a13 x6.2.1 c14), (I x6.2.2)]) := hdep 3 rfl rfl 13 rfl
          obtain ⟨H, m⟩ := id hJ
          refine dp_cx wn (cx_call hc18 (ent_f hc18.fn (by show [look 37 ρ 13] = _; rw [e13])) hn0 (H.sel' [0, 0, 1] rfl rfl : Hp S0 σ0 _ ([_] ++ _))) ?_
          rintro _ σq ⟨_, ⟨rfl, rfl⟩, H2, m2⟩
          exact ⟨_, (), rfl, rfl, ⟨H2.sel' [0, 1] rfl rfl, m.comp0 (m2.mono (fun i h => by simp [cov, Ch.ro] at h))⟩, stab [0, 1, 2, 3] (by kernel_rfl) ⟨rfl, rfl, rfl, rfl, trivial⟩⟩
         trivial) ?_
       refine ac rfl (by
         intro k _nm ρ σm hJ hoff hdep
         have e14 := hdep 4 rfl rfl 14 rfl
         exact dp_v (v := (B (!r16))) wn (rv_not e14) rfl hJ) ?_
       refine ac rfl (by
         intro k _nm ρ σm hJ hoff hdep
         have e15 := hdep 5 rfl rfl 15 rfl
         exact dp_v (v := (B (!r16))) wn (rv_move e15) rfl hJ) ?_
       refine ac rfl (by
         intro k _nm ρ σm hJ hoff hdep
         have e3 := look_off (N := 37) (hoff 3 rfl) rfl
         have e16 := hdep 6 rfl rfl 16 rfl
         exact dp_v (v := (I s2)) (wanted_yes rfl (yv_of rfl (e16.trans (congrArg B hb19)))) (rv_move e3) rfl hJ) ?_
       refine ac rfl (by
         intro k _nm ρ σm hJ hoff hdep
         have e17 := hdep 7 rfl rfl 17 rfl
         have e16 := hdep 6 rfl rfl 16 rfl
         exact dp_v (v := (B (decide (0 < s2)))) (wanted_yes rfl (yv_of rfl (e16.trans (congrArg B hb19)))) (rv_gtr (a := s2) (b := 0) e17 rfl) rfl hJ) ?_
       refine ac rfl (by
         intro k _nm ρ σm hJ hoff hdep
         have e18 := hdep 8 rfl rfl 18 rfl
         have e16 := hdep 6 rfl rfl 16 rfl
         exact dp_v (v := (B (decide (0 < s2)))) (wanted_yes rfl (yv_of rfl (e16.trans (congrArg B hb19)))) (rv_move e18) rfl hJ) ?_
       refine ac rfl (by
         intro k _nm ρ σm hJ hoff hdep
         have e19 := hdep 9 rfl rfl 19 rfl
         exact dp_skip (wanted_no rfl (yv_of rfl (e19.trans (congrArg B hb21)))) rfl hJ) ?_
       refine ac rfl (by
         intro k _nm ρ σm hJ hoff hdep
         have e19 := hdep 9 rfl rfl 19 rfl
         exact dp_skip (wanted_no rfl (yv_of rfl (e19.trans (congrArg B hb21)))) rfl hJ) ?_
       refine ac rfl (by
         intro k _nm ρ σm hJ hoff hdep
         have e19 := hdep 9 rfl rfl 19 rfl
         exact dp_skip (wanted_no rfl (yv_of rfl (e19.trans (congrArg B hb21)))) rfl hJ) ?_
       refine ac rfl (by
         intro k _nm ρ σm hJ hoff hdep
         have e19 := hdep 9 rfl rfl 19 rfl
         exact dp_skip (wanted_no rfl (yv_of rfl (e19.trans (congrArg B hb21)))) rfl hJ) ?_
       refine ac rfl (by
         intro k _nm ρ σm hJ hoff hdep
         have e19 := hdep 9 rfl rfl 19 rfl
         exact dp_skip (wanted_no rfl (yv_of rfl (e19.trans (congrArg B hb21)))) rfl hJ) ?_
       refine ac rfl (by
         intro k _nm ρ σm hJ hoff hdep
         have e19 := hdep 9 rfl rfl 19 rfl
         exact dp_skip (wanted_no rfl (yv_of rfl (e19.trans (congrArg B hb21)))) rfl hJ) ?_
       refine ac rfl (by
         intro k _nm ρ σm hJ hoff hdep
         have e19 := hdep 9 rfl rfl 19 rfl
         exact dp_skip (wanted_no rfl (yv_of rfl (e19.trans (congrArg B hb21)))) rfl hJ) ?_
       refine ac rfl (by
         intro k _nm ρ σm hJ hoff hdep
         have e19 := hdep 9 rfl rfl 19 rfl
         exact dp_skip (wanted_no rfl (yv_of rfl (e19.trans (congrArg B hb21)))) rfl hJ) ?_
       refine ac rfl (by
         intro k _nm ρ σm hJ hoff hdep
         have e19 := hdep 9 rfl rfl 19 rfl
         exact dp_skip (wanted_no rfl (yv_of rfl (e19.trans (congrArg B hb21)))) rfl hJ) ?_
       refine ac rfl (by
         intro k _nm ρ σm hJ hoff hdep
         have e19 := hdep 9 rfl rfl 19 rfl
         exact dp_skip (wanted_no rfl (yv_of rfl (e19.trans (congrArg B hb21)))) rfl hJ) ?_
       refine ac rfl (by
         intro k _nm ρ σm hJ hoff hdep
         have e19 := hdep 9 rfl rfl 19 rfl
         exact dp_skip (wanted_no rfl (yv_of rfl (e19.trans (congrArg B hb21)))) rfl hJ) ?_
       exact all_nil
      ·intro _nm ρ σ35 hJ hoff hrel
       have e0 := look_off (N := 37) (hoff 0 rfl) rfl
       have e3 := look_off (N := 37) (hoff 3 rfl) rfl
       have e16 := hrel 6 rfl 16 rfl
       have e19 := hrel 9 rfl 19 rfl
       have e24 := hrel 14 rfl 24 rfl
       have e30 := hrel 20 rfl 30 rfl
       obtain ⟨H, -⟩ := (show Hp S0 σ0 σ35 [Ch.ro 0 (Sl a13 x6.2.1 c14) x6.2.1, Ch.ro 0 (Sl Az Ax Ba) Ax] ∧ Md (cov []) σ3 σ35 from hJ)
       clear hJ Hs
       rw [fr_lookL (L := [(0, (Sl Az Ax Ba)), (3, (I s2)), (16, (B (!r16))), (19, (B (decide (0 < s2)))), (24, undef), (30, undef)]) ⟨e0, e3, e16, e19, e24, e30, trivial⟩]
       clear hoff hrel e0 e3 e16 e19 e24 e30
       refine st_skip (congrArg some hb21) (st_g (v := (B false)) (congrArg some hb19) (rv_pick_f (congrArg B hb21) rfl) (st (v := (B false)) (rv_pick_f (congrArg B hb19) rfl) (w_end ?_)))
       obtain rfl := sj h
       exact ⟨rfl, _, σ35, fr_join ⟨rfl, rfl, rfl, trivial⟩, rfl, H.sel' [1] rfl rfl⟩
   ·clear hj
    have h := h'
    clear h' H
    rintro e a w ⟨rfl, ρ, σ36, rfl, rfl, H⟩
    refine q_then ?_
    refine cd_cond o5 rfl (fun hb37 => ?_) (fun hb37 => ?_)
    ·replace h := bif_t hb37 h
     refine c_seq (rg (sa (B false) rfl (w_end (q_then (c_ret (q_blk_r (q_then_r (q_then_r (q_blk_r ?_)))))))))
     obtain rfl := sj h
     obtain rfl := hres _ rfl
     exact .inr (⟨_, rfl, rfl, _, σ36, fr_join ⟨rfl, trivial⟩, rfl, H.sel' [] rfl rfl⟩)
    ·replace h := bif_f hb37 h
     refine c_skip (q_blk (q_then (rg (sm (I s2) rfl (st (v := (I (w64 (s2 + 1)))) (rv_add (a := s2) (b := 1) rfl rfl) (sa (I (w64 (s2 + 1))) rfl (w_end (q_then ?_))))))))
     obtain rfl := sj h
     exact ⟨_, rfl, _, σ36, fr_join ⟨rfl, rfl, trivial⟩, rfl, H.sel' [0] rfl rfl⟩
  ·replace h := bif_f hb4 h
   refine c_exit (q_then_x (q_then_x (q_blk_hit ?_)))
   obtain rfl := sj h
   obtain rfl := hres _ rfl
   exact .inl ⟨_, rfl, rfl, _, σ3, fr_join ⟨rfl, trivial⟩, rfl, H.sel' [0] rfl rfl⟩
 ·clear hj
  have h := h'
  clear h' H
  rintro e a w (⟨t38, rfl, rfl, ρ, σ39, rfl, rfl, H⟩ | ⟨t40, rfl, rfl, ρ, σ41, rfl, rfl, H⟩)
  ·replace h := selim_l h
   refine q_then (c_seq (rg (sm (Sl Az Ax Ba) rfl (st (v := (I (Ax.length : Int))) (rv_len Tryz.underlying26 rfl) (st (v := (B (decide ((Ax.length : Int) ≤ 16)))) (rv_leq (a := (Ax.length : Int)) (b := 16) rfl rfl) (sa (B (decide ((Ax.length : Int) ≤ 16))) rfl (w_end (q_then (c_ret ?_)))))))))
   obtain rfl := sj h
   exact fin_ret (v := (B (decide ((Ax.length : Int) ≤ 16)))) (results_ok Tryz.results90 (res_tmp (v := (B (decide ((Ax.length : Int) ≤ 16)))) rfl res_nil) rfl) ⟨rfl, rfl⟩ (H.sel' [] rfl rfl)
  ·replace h := selim_r h
   refine q_then_r ?_
   obtain rfl := sj h
   exact fin_ret (v := (B t40)) (results_ok Tryz.results90 (res_tmp (v := (B t40)) rfl res_nil) rfl) ⟨rfl, rfl⟩ (H.sel' [] rfl rfl)

theorem c_spec_copyItem {Be : Int × (List Int) × Int} {Bf : Option Addr} {Bg : Nat} {r : (Int × (List Int) × Int)} (h : M.spec_copyItem Be = some r) :
    Cal2 Tryz.prog 152 [(.agg #[(I Be.1), (Sl Bf Be.2.1 Bg), (I Be.2.2)])] [Ch.ro 0 (Sl Bf Be.2.1 Bg) Be.2.1] (fun n0 v L => ∃ (az1 : Option Addr), ∃ (cz2 : Nat), v = (.agg #[(I r.1), (Sl az1 r.2.1 cz2), (I r.2.2)]) ∧ L = [Ch.own n0 n0 (Sl az1 r.2.1 cz2) r.2.1]) := by
 refine cal2 (n := 11) Tryz.func152 rfl rfl rfl rfl ?_
 intro S0 σ0 n0 hn0 H
 unfold M.spec_copyItem at h
 refine c_seq (rg (st_ex (ex_box (cs := [(I Be.1), (Sl Bf Be.2.1 Bg), (I Be.2.2)]) H hn0 rfl rfl) wn ?_))
 rintro _ σ2 ⟨b1, rfl, H, -⟩
 refine st_ex (ex_alloc (cs := [(I 0), (.slice none 0 0), (I 0)]) H hn0 ti34 rfl) wn ?_
 rintro _ σ4 ⟨b3, rfl, H, -⟩
 refine w_end (q_then (c_seq ?_))
 have hc5 := H.cell (u := (I Be.1)) (o' := 0) 1 0 rfl rfl rfl
 have hc6 := H.cell (u := (Sl Bf Be.2.1 Bg)) (o' := 1) 1 1 rfl rfl rfl
 revert h; refine br fun r7 hx8 h => ?_
 have hc9 := c_spec_copyInts (Az := Bf) (Ba := Bg) hx8
 have hc12 := H.cell (u := (I Be.2.2)) (o' := 2) 1 2 rfl rfl rfl
 have Hs := H
 refine rg2 (σ := σ4) (Nm := (Option Addr) × (Nat)) 7 [4] [[false], [true]] [[(0, 0), (1, 1)], [(0, 0), (1, 1)], [(0, 0)], [(0, 0)], [(0, 1)], [(0, 0), (1, 1)], [(0, 0), (1, 1)]] 1 [fun ((a10, c11) : (Option Addr) × (Nat)) => fun σm => Hp S0 σ0 σm [Ch.bx n0 b3 0 [(I 0), (.slice none 0 0), (I 0)] [] [], Ch.bx n0 b1 0 [(I Be.1), (Sl Bf Be.2.1 Bg), (I Be.2.2)] [] [], Ch.ro 0 (Sl Bf Be.2.1 Bg) Be.2.1] ∧ Md (cov []) σ4 σm, fun ((a10, c11) : (Option Addr) × (Nat)) => fun σm => Hp S0 σ0 σm [Ch.own n0 n0 (Sl a10 r7 c11) r7, Ch.bx n0 b3 0 [(I 0), (.slice none 0 0), (I 0)] [] [], Ch.bx n0 b1 0 [(I Be.1), (Sl Bf Be.2.1 Bg), (I Be.2.2)] [] [], Ch.ro 0 (Sl Bf Be.2.1 Bg) Be.2.1] ∧ Md (cov []) σ4 σm] [fun ((a10, c11) : (Option Addr) × (Nat)) => (pt b1 0), fun ((a10, c11) : (Option Addr) × (Nat)) => (I Be.1), fun ((a10, c11) : (Option Addr) × (Nat)) => (pt b1 1), fun ((a10, c11) : (Option Addr) × (Nat)) => (Sl Bf Be.2.1 Bg), fun ((a10, c11) : (Option Addr) × (Nat)) => (Sl a10 r7 c11), fun ((a10, c11) : (Option Addr) × (Nat)) => (pt b1 2), fun ((a10, c11) : (Option Addr) × (Nat)) => (I Be.2.2)] (none, 0) (by kernel_rfl) (by kernel_rfl) ?_ ?_ ?_
 ·intro σm m0
  exact ⟨H.grow (m0.mono fun _ h => h.elim), m0⟩
 ·refine ac rfl (by
    intro k; rintro ⟨a10, c11⟩ ρ σm hJ hoff hdep
    have e1 := look_off (N := 11) (hoff 1 rfl) rfl
    exact dp_v (v := (pt b1 0)) wn (rv_fieldAddr (off := 0) (ft := 3) Tryz.underlying34 rfl ti3 rfl e1) rfl hJ) ?_
  refine all_cons (by
    refine ⟨?_, ?_⟩
    ·rintro ⟨a10, c11⟩ ρ σm hJ hoff hdep
     have e3 := hdep 0 rfl rfl 3 rfl
     obtain ⟨H, m⟩ := id hJ
     have hc5 := H.cell (u := (I Be.1)) (o' := 0) 1 0 rfl rfl rfl
     exact dp_v (v := (I Be.1)) wn (rv_load1 Tryz.underlying3 rfl e3 hc5) rfl hJ
    refine ⟨?_, ?_⟩
    ·rintro ⟨a10, c11⟩ ρ σm hJ hoff hdep
     have e3 := hdep 0 rfl rfl 3 rfl
     obtain ⟨H, m⟩ := id hJ
     have hc5 := H.cell (u := (I Be.1)) (o' := 0) 2 0 rfl rfl rfl
     exact dp_v (v := (I Be.1)) wn (rv_load1 Tryz.underlying3 rfl e3 hc5) rfl hJ
    trivial) ?_
  refine ac rfl (by
    intro k; rintro ⟨a10, c11⟩ ρ σm hJ hoff hdep
    have e1 := look_off (N := 11) (hoff 1 rfl) rfl
    exact dp_v (v := (pt b1 1)) wn (rv_fieldAddr (off := 1) (ft := 27) Tryz.underlying34 rfl ti27 rfl e1) rfl hJ) ?_
  refine all_cons (by
    refine ⟨?_, ?_⟩
    ·rintro ⟨a10, c11⟩ ρ σm hJ hoff hdep
     have e5 := hdep 2 rfl rfl 5 rfl
     obtain ⟨H, m⟩ := id hJ
     have hc6 := H.cell (u := (Sl Bf Be.2.1 Bg)) (o' := 1) 1 1 rfl rfl rfl
     exact dp_v (v := (Sl Bf Be.2.1 Bg)) wn (rv_load1 Tryz.underlying27 rfl e5 hc6) rfl hJ
    trivial) ?_
  refine all_cons (by
    refine ⟨?_, ?_⟩
    ·rintro ⟨a10, c11⟩ ρ σm hJ hoff hdep
     have e6 : look 11 ρ 6 = (Sl Bf Be.2.1 Bg) := hdep 3 rfl rfl 6 rfl
     obtain ⟨H, m⟩ := id hJ
     refine dp_cx wn (cx_call hc9 (ent_f hc9.fn (by show [look 11 ρ 6] = _; rw [e6])) hn0 (H.sel' [2, 0, 1, 2] rfl rfl : Hp S0 σ0 _ ([_] ++ _))) ?_
     rintro _ σq ⟨_, ⟨a10x, c11x, rfl, rfl⟩, H2, m2⟩
     exact ⟨_, (a10x, c11x), rfl, rfl, ⟨H2.sel' [0, 1, 2, 3] rfl rfl, m.comp0 (m2.mono (fun i h => by simp [cov, Ch.ro] at h))⟩, stab [0, 1, 2, 3, 5, 6] (by kernel_rfl) ⟨rfl, rfl, rfl, rfl, rfl, rfl, trivial⟩⟩
    trivial) ?_
  refine ac rfl (by
    intro k; rintro ⟨a10, c11⟩ ρ σm hJ hoff hdep
    have e1 := look_off (N := 11) (hoff 1 rfl) rfl
    exact dp_v (v := (pt b1 2)) wn (rv_fieldAddr (off := 2) (ft := 3) Tryz.underlying34 rfl ti3 rfl e1) rfl hJ) ?_
  refine all_cons (by
    refine ⟨?_, ?_⟩
    ·rintro ⟨a10, c11⟩ ρ σm hJ hoff hdep
     have e8 := hdep 5 rfl rfl 8 rfl
     obtain ⟨H, m⟩ := id hJ
     have hc12 := H.cell (u := (I Be.2.2)) (o' := 2) 1 2 rfl rfl rfl
     exact dp_v (v := (I Be.2.2)) wn (rv_load1 Tryz.underlying3 rfl e8 hc12) rfl hJ
    refine ⟨?_, ?_⟩
    ·rintro ⟨a10, c11⟩ ρ σm hJ hoff hdep
     have e8 := hdep 5 rfl rfl 8 rfl
     obtain ⟨H, m⟩ := id hJ
     have hc12 := H.cell (u := (I Be.2.2)) (o' := 2) 2 2 rfl rfl rfl
     exact dp_v (v := (I Be.2.2)) wn (rv_load1 Tryz.underlying3 rfl e8 hc12) rfl hJ
    trivial) ?_
  exact all_nil
 ·rintro ⟨a10, c11⟩ ρ σ13 hJ hoff hrel
  have e2 := look_off (N := 11) (hoff 2 rfl) rfl
  have e4 := hrel 1 rfl 4 rfl
  have e7 := hrel 4 rfl 7 rfl
  have e9 := hrel 6 rfl 9 rfl
  obtain ⟨H, -⟩ := (show Hp S0 σ0 σ13 [Ch.own n0 n0 (Sl a10 r7 c11) r7, Ch.bx n0 b3 0 [(I 0), (.slice none 0 0), (I 0)] [] [], Ch.bx n0 b1 0 [(I Be.1), (Sl Bf Be.2.1 Bg), (I Be.2.2)] [] [], Ch.ro 0 (Sl Bf Be.2.1 Bg) Be.2.1] ∧ Md (cov []) σ4 σ13 from hJ)
  clear hJ Hs
  rw [fr_lookL (L := [(2, (pt b3 0)), (4, (I Be.1)), (7, (Sl a10 r7 c11)), (9, (I Be.2.2))]) ⟨e2, e4, e7, e9, trivial⟩]
  clear hoff hrel e2 e4 e7 e9
  refine st (v := (.agg #[(I Be.1), (Sl a10 r7 c11), (I Be.2.2)])) (rv_build (ps := [(0, (I Be.1)), (1, (Sl a10 r7 c11)), (2, (I Be.2.2))]) Tryz.underlying34 ti34 (bp34 Tryz.underlying34) rfl (by kernel_rfl)) ?_
  refine st_exS (ex_store_box (k := 0) (cs := [(I 0), (.slice none 0 0), (I 0)]) (vs := [(I Be.1), (Sl a10 r7 c11), (I Be.2.2)]) (cs' := [(I Be.1), (Sl a10 r7 c11), (I Be.2.2)]) H (i := 1) rfl ti34 rfl rfl rfl rfl rfl (Nat.le_of_ble_eq_true rfl) (by simp [plain]) rfl) wn ?_
  rintro σ14 ⟨H, -⟩
  refine w_end (q_then (c_ret ?_))
  obtain rfl := sj h
  exact fin_ret (v := (.agg #[(I Be.1), (Sl a10 r7 c11), (I Be.2.2)])) (results_ok Tryz.results152 (res_cell rfl (run_cellRes (cs := [(I Be.1), (Sl a10 r7 c11), (I Be.2.2)]) Tryz.underlying34 rfl ti34 rfl (H.cells 0 rfl)) res_nil) rfl) ⟨a10, c11, rfl, rfl⟩ (H.sel' [1] rfl rfl)

end Go.Vs
