/- The functions compute what their models say. -/
import Derived.Test.YtjmaadoeholmiaaGreatKReachedFromClosedC1
set_option linter.unusedVariables false
set_option linter.unusedSimpArgs false
set_option maxRecDepth 20000
namespace Go.Vs
open Go Go.Proofs
attribute [local irreducible] Code.wp Code.wpIn wpList wpListIn wpQuiet Calls CallsIn

theorem c_impl_LinksOf {Ao : List (Int × (List Int) × Int)} {As : Int} {Au : Int} {Ap : Option Addr} {Aq : Nat} {r : (List (List Int))} (h : M.impl_LinksOf Ao As Au = some r) :
    Cal2 Tryz.prog 10 [(Sl Ap Ao Aq), (I As), (I Au)] [Ch.ro 0 (Sl Ap Ao Aq) Ao] (fun n0 v L => ∃ (az1 : Option Addr), ∃ (cz2 : Nat), v = (Sl az1 r cz2) ∧ L = [Ch.own n0 n0 (Sl az1 r cz2) r] ∧ cz2 = r.length) := by
 refine cal2 (n := 40) Tryz.func10 rfl rfl rfl rfl ?_
 intro S0 σ0 n0 hn0 H
 unfold M.impl_LinksOf at h
 refine c_seq (rg (sa (.slice none 0 0) rfl (w_end (q_then (c_seq (c_seq (rg (sm (Sl Ap Ao Aq) rfl (sm (I As) rfl (sm (I Au) rfl ?_))))))))))
 revert h; refine br fun r1 hx2 h => ?_
 have hc3 := c_impl_validLinks (Ap := Ap) (Aq := Aq) hx2
 refine st_call (cx_call hc3 (ent_f hc3.fn rfl) hn0 (H.sel' [0, 0] rfl rfl : Hp S0 σ0 _ ([_] ++ _))) wn ?_
 rintro _ σ4 ⟨_, ⟨rfl, rfl⟩, H, -⟩
 replace H : Hp _ _ _ [_] := H
 refine st (v := (B (!r1))) (rv_not rfl) (w_end (q_then ?_))
 refine cd_cond (!r1) rfl (fun hb5 => ?_) (fun hb5 => ?_)
 ·replace h := bif_t hb5 h
  refine c_seq (rg (sa (.slice none 0 0) rfl (w_end (q_then (c_ret (q_then_r ?_))))))
  replace H := H.nilOwn (List Int) n0 n0
  obtain rfl := sj h
  exact fin_ret (v := (.slice none 0 0)) (results_ok Tryz.results10 (res_tmp (v := (.slice none 0 0)) rfl res_nil) rfl) ⟨none, 0, rfl, rfl, rfl⟩ (H.sel' [0] rfl rfl)
 ·replace h := bif_f hb5 h
  refine c_skip (q_then (c_seq (rg (sm (Sl Ap Ao Aq) rfl (sm (I As) rfl (sm (I Au) rfl ?_))))))
  revert h; refine br fun r6 hx7 h => ?_
  have hc8 := c_impl_linkItems (Ap := Ap) (Aq := Aq) hx7
  refine st_call (cx_call hc8 (ent_f hc8.fn rfl) hn0 (H.sel' [0, 0] rfl rfl : Hp S0 σ0 _ ([_] ++ _))) wn ?_
  rintro _ σ12 ⟨_, ⟨b9, K10, rfl, rfl, hK11⟩, H, -⟩
  replace H : Hp _ _ _ [_, _] := H
  refine sa (.map (some b9)) rfl (w_end (q_then (c_seq (rg (sm (Sl Ap Ao Aq) rfl (st (v := (I (Ao.length : Int))) (rv_len Tryz.underlying23 rfl) ?_))))))
  revert h; refine br fun xs13 hx14 h => ?_
  refine st_ex (ex_make (el := n0) (z0 := ([] : List Int)) (zs := [(.slice none 0 0)]) H hn0 Tryz.underlying26 ti31 rfl rfl (⟨_, rfl, RS.nil⟩) (by decide) hx14 rfl rfl) wn ?_
  rintro _ σ18 ⟨b15, c16, rfl, ht17, H, -⟩
  replace ht17 := ht17.trans (gmake_len hx14).symm
  refine sa (Sl (some ⟨b15, 0, none⟩) xs13 c16) rfl (w_end (q_then (c_seq (c_seq (rg (sm (Sl Ap Ao Aq) rfl (st (v := (I (Ao.length : Int))) (rv_len Tryz.underlying23 rfl) (sm (I 0) rfl (w_end (q_then ?_))))))))))
  obtain ⟨o19, hj, h'⟩ := bind_some h
  clear h
  refine c_cut (fun e a w => e = .normal ∧ ∃ (ρ : Nat → Value) (σ : St), a = fr 40 (updL ρ [(8, (Sl (some ⟨b15, 0, none⟩) o19 c16))]) ∧ w = σ.w ∧ Hp S0 σ0 σ [Ch.own n0 n0 (Sl (some ⟨b15, 0, none⟩) o19 c16) o19] ∧ c16 = o19.length ∧ o19.length = xs13.length) ?_ ?_
  ·clear h'
   rename _ = some o19 => h
   refine c_blk ?_
   obtain ⟨σ21, hw22, H, -⟩ := H.mpPub 1 rfl hK11
   rw [← hw22]; clear hw22
   refine wp_loopM _ h (fun s20 a w => ∃ (ρ : Nat → Value) (σ : St), a = fr 40 (updL ρ [(7, (.map (some b9))), (8, (Sl (some ⟨b15, 0, none⟩) s20.1 c16)), (23, (Sl Ap Ao Aq)), (24, (I (Ao.length : Int))), (25, (I s20.2))]) ∧ w = σ.w ∧ Hp S0 σ0 σ [Ch.mr b9 r6, Ch.own n0 n0 (Sl (some ⟨b15, 0, none⟩) s20.1 c16) s20.1, Ch.ro 0 (Sl Ap Ao Aq) Ao] ∧ c16 = s20.1.length ∧ s20.1.length = xs13.length) ⟨_, σ21, fr_join ⟨rfl, rfl, rfl, rfl, rfl, trivial⟩, rfl, H.sel' [0, 1, 2] rfl rfl, ht17, rfl⟩ ?_
   clear h H
   rintro s20 a w o ⟨ρ, σ23, rfl, rfl, H, ht24, hn25⟩ h hres
   refine c_seq (rg (st (v := (B (decide (s20.2 < (Ao.length : Int))))) (rv_lss (a := s20.2) (b := (Ao.length : Int)) rfl rfl) (w_end (q_then (c_seq ?_)))))
   refine cd_cond (decide (s20.2 < (Ao.length : Int))) rfl (fun hb26 => ?_) (fun hb26 => ?_)
   ·replace h := bif_t hb26 h
    refine c_skip (q_then (c_seq (c_blk (c_seq (rg (sm (I s20.2) rfl ?_))))))
    revert h; refine br fun x27 hx28 h => ?_
    obtain ⟨b30, o31, hi29, -⟩ := (H.ro 2 rfl).ix hx28
    refine st (v := (pt b30 o31)) (rv_ix Tryz.underlying23 ti33 rfl rfl hi29) ?_
    obtain ⟨_, ⟨_, _, rfl, rfl, ⟨_, _, rfl, ⟨_, rfl, hR36⟩, rfl⟩⟩, hl32, hc33⟩ := ((H.ro 2 rfl).at hx28 hi29).cells
    obtain ⟨a34, c35, rfl⟩ := hR36.isSl
    replace H := H.add (d := Ch.ro 0 (Sl a34 x27.2.1 c35) x27.2.1) hR36 (fun _ h => h)
    clear hR36
    refine st (v := (.agg #[(I x27.1), (Sl a34 x27.2.1 c35), (I x27.2.2)])) (rv_load Tryz.underlying33 rfl ti33 rfl hl32 hc33) (st_ex (ex_alloc (cs := [(I 0), (.slice none 0 0), (I 0)]) H hn0 ti33 rfl) wn ?_)
    rintro _ σ38 ⟨b37, rfl, H, -⟩
    refine sa (I s20.2) rfl ?_
    refine st_exS (ex_store_box (k := 0) (cs := [(I 0), (.slice none 0 0), (I 0)]) (vs := [(I x27.1), (Sl a34 x27.2.1 c35), (I x27.2.2)]) (cs' := [(I x27.1), (Sl a34 x27.2.1 c35), (I x27.2.2)]) H (i := 0) rfl ti33 rfl rfl rfl rfl rfl (Nat.le_of_ble_eq_true rfl) (by simp [plain]) rfl) wn ?_
    rintro σ39 ⟨H, -⟩
    refine w_end (q_then (rg (sm (Sl (some ⟨b15, 0, none⟩) s20.1 c16) rfl (sm (I s20.2) rfl (sm (.map (some b9)) rfl (st (v := (pt b37 0)) (rv_fieldAddr (off := 0) (ft := 3) Tryz.underlying33 rfl ti3 rfl rfl) ?_))))))
    have hc40 := H.cell (u := (I x27.1)) (o' := 0) 0 0 rfl rfl rfl
    refine st (v := (I x27.1)) (rv_load1 Tryz.underlying3 rfl rfl hc40) ?_
    obtain ⟨v44, hL43, hR45⟩ := mrGet (H.mr 2 rfl) x27.1
    obtain ⟨a41, c42, rfl⟩ := hR45.isSl
    replace H := H.add (d := Ch.ro 0 (Sl a41 (mget r6 x27.1) c42) (mget r6 x27.1)) hR45 (fun _ h => h)
    clear hR45
    refine st (v := (Sl a41 (mget r6 x27.1) c42)) (rv_lookup Tryz.underlying57 Tryz.underlying3 ti23 rfl rfl hL43) ?_
    revert h; refine br fun r46 hx47 h => ?_
    have hc48 := c_impl_keysOf (Ap := a41) (Aq := c42) hx47
    refine st_call (cx_call hc48 (ent_f hc48.fn rfl) hn0 (H.sel' [0, 0, 1, 2, 3, 4, 5] rfl rfl : Hp S0 σ0 _ ([_] ++ _))) wn ?_
    rintro _ σ52 ⟨_, ⟨a49, c50, rfl, rfl, ht51⟩, H, -⟩
    replace H : Hp _ _ _ [_, _, _, _, _, _, _] := H
    revert h; refine br fun x53 hx54 h => ?_
    obtain ⟨b56, o57, hi55, -⟩ := (H.own 5 rfl).ix hx54
    refine st (v := (pt b56 o57)) (rv_ix Tryz.underlying26 ti31 rfl rfl hi55) ?_
    obtain ⟨σ58, hw59, H, -⟩ := H.pub 0 rfl (Nat.le_refl _)
    rw [← hw59]; clear hw59
    refine st_exS (ex_store_own (e' := r46) (vs := [(Sl a49 r46 c50)]) (k := 0) H (i := 5) rfl ti31 hx54 hi55 rfl rfl rfl rfl rfl (Nat.le_of_ble_eq_true rfl) (by simp [plain]) (by rintro _ ⟨_, rfl, hR62⟩; exact ⟨_, rfl, (H.ro 0 rfl)⟩)) wn ?_
    rintro σ63 ⟨H, -⟩
    have hsl : (Sl (some ⟨b15, 0, none⟩) s20.1 c16) = (Sl (some ⟨b15, 0, none⟩) (s20.1.set s20.2.toNat r46) c16) := sl_len List.length_set.symm
    rw [hsl]; rw [hsl] at H; clear hsl
    refine w_end (q_blk (q_then (rg (st (v := (I (w64 (s20.2 + 1)))) (rv_add (a := s20.2) (b := 1) rfl rfl) (sm (I (w64 (s20.2 + 1))) rfl (w_end (q_then ?_)))))))
    obtain rfl := sj h
    exact ⟨_, rfl, _, σ63, fr_join ⟨rfl, rfl, rfl, rfl, rfl, trivial⟩, rfl, H.sel' [5, 0, 6] rfl rfl, (ht24.trans List.length_set.symm), (List.length_set.trans hn25)⟩
   ·replace h := bif_f hb26 h
    refine c_exit (q_then_x (q_then_x (q_blk_hit ?_)))
    obtain rfl := sj h
    obtain rfl := hres _ rfl
    exact ⟨rfl, _, σ23, fr_join ⟨rfl, trivial⟩, rfl, H.sel' [1] rfl rfl, ht24, hn25⟩
  ·clear hj
   have h := h'
   clear h' H
   rintro e a w ⟨rfl, ρ, σ64, rfl, rfl, H, ht65, hn66⟩
   refine q_then (c_seq (rg (sm (Sl (some ⟨b15, 0, none⟩) o19 c16) rfl (sa (Sl (some ⟨b15, 0, none⟩) o19 c16) rfl (w_end (q_then (c_ret ?_)))))))
   obtain rfl := sj h
   exact fin_ret (v := (Sl (some ⟨b15, 0, none⟩) o19 c16)) (results_ok Tryz.results10 (res_tmp (v := (Sl (some ⟨b15, 0, none⟩) o19 c16)) rfl res_nil) rfl) ⟨(some ⟨b15, 0, none⟩), c16, rfl, rfl, ht65⟩ (H.sel' [0] rfl rfl)

theorem c_laws_equalInts {Be : List Int} {Bf : List Int} {Dv : Option Addr} {Dw : Nat} {Dx : Option Addr} {Dy : Nat} {r : Bool} (h : M.laws_equalInts Be Bf = some r) :
    Cal2 Tryz.prog 14 [(Sl Dv Be Dw), (Sl Dx Bf Dy)] [Ch.ro 0 (Sl Dv Be Dw) Be, Ch.ro 0 (Sl Dx Bf Dy) Bf] (fun n0 v L => v = (B r) ∧ L = []) := by
 refine cal2 (n := 26) Tryz.func14 rfl rfl rfl rfl ?_
 intro S0 σ0 n0 hn0 H
 unfold M.laws_equalInts at h
 refine c_seq (rg (sa (B false) rfl (w_end (q_then (c_seq (c_seq (rg (sm (Sl Dv Be Dw) rfl (st (v := (I (Be.length : Int))) (rv_len Tryz.underlying31 rfl) (sm (Sl Dx Bf Dy) rfl (st (v := (I (Bf.length : Int))) (rv_len Tryz.underlying31 rfl) ?_)))))))))))
 refine st (v := (B ((Be.length : Int) != (Bf.length : Int)))) (rv_neq (a := (Be.length : Int)) (b := (Bf.length : Int)) rfl rfl) (w_end (q_then ?_))
 refine cd_cond ((Be.length : Int) != (Bf.length : Int)) rfl (fun hb1 => ?_) (fun hb1 => ?_)
 ·replace h := bif_t hb1 h
  refine c_seq (rg (sa (B false) rfl (w_end (q_then (c_ret (q_then_r ?_))))))
  obtain rfl := sj h
  exact fin_ret (v := (B false)) (results_ok Tryz.results14 (res_tmp (v := (B false)) rfl res_nil) rfl) ⟨rfl, rfl⟩ (H.sel' [] rfl rfl)
 ·replace h := bif_f hb1 h
  refine c_skip (q_then (c_seq (c_seq (rg (sa (I 0) rfl (w_end (q_then ?_)))))))
  obtain ⟨o2, hj, h'⟩ := bind_some h
  clear h
  refine c_cut (fun e a w => (∃ t, o2 = (.inl t) ∧ e = .normal ∧ ∃ (ρ : Nat → Value) (σ : St), a = fr 26 (updL ρ []) ∧ w = σ.w ∧ Hp S0 σ0 σ []) ∨ (∃ t, o2 = (.inr t) ∧ e = .ret ∧ ∃ (ρ : Nat → Value) (σ : St), a = fr 26 (updL ρ [(4, (B t))]) ∧ w = σ.w ∧ Hp S0 σ0 σ [])) ?_ ?_
  ·clear h'
   rename _ = some o2 => h
   refine c_blk (wp_loopM _ h (fun s3 a w => ∃ (ρ : Nat → Value) (σ : St), a = fr 26 (updL ρ [(0, (Sl Dv Be Dw)), (1, (Sl Dx Bf Dy)), (5, (I s3))]) ∧ w = σ.w ∧ Hp S0 σ0 σ [Ch.ro 0 (Sl Dv Be Dw) Be, Ch.ro 0 (Sl Dx Bf Dy) Bf]) ⟨_, σ0, fr_join ⟨rfl, rfl, rfl, trivial⟩, rfl, H.sel' [0, 1] rfl rfl⟩ ?_)
   clear h H
   rintro s3 a w o ⟨ρ, σ4, rfl, rfl, H⟩ h hres
   refine c_seq (c_seq (rg (sm (I s3) rfl (sm (Sl Dv Be Dw) rfl (st (v := (I (Be.length : Int))) (rv_len Tryz.underlying31 rfl) (st (v := (B (decide (s3 < (Be.length : Int))))) (rv_lss (a := s3) (b := (Be.length : Int)) rfl rfl) (w_end (q_then ?_))))))))
   refine cd_cond (decide (s3 < (Be.length : Int))) rfl (fun hb5 => ?_) (fun hb5 => ?_)
   ·replace h := bif_t hb5 h
    refine c_skip (q_then (c_seq (c_blk (c_seq ?_))))
    refine rgP (σ := σ4) 8 (by kernel_rfl) (by kernel_rfl) (by kernel_rfl) ?_
    refine sq (v := (Sl Dv Be Dw)) (rv_move rfl) (sq (v := (I s3)) (rv_move rfl) ?_)
    revert h; refine br fun x6 hx7 h => ?_
    obtain ⟨b9, o10, hi8, -⟩ := (H.ro 0 rfl).ix hx7
    refine sq (v := (pt b9 o10)) (rv_ix Tryz.underlying31 ti3 rfl rfl hi8) ?_
    have hc11 := ((H.ro 0 rfl).at hx7 hi8).int
    refine sq (v := (I x6)) (rv_load1 Tryz.underlying3 rfl rfl hc11) (sq (v := (Sl Dx Bf Dy)) (rv_move rfl) (sq (v := (I s3)) (rv_move rfl) ?_))
    revert h; refine br fun x12 hx13 h => ?_
    obtain ⟨b15, o16, hi14, -⟩ := (H.ro 1 rfl).ix hx13
    refine sq (v := (pt b15 o16)) (rv_ix Tryz.underlying31 ti3 rfl rfl hi14) ?_
    have hc17 := ((H.ro 1 rfl).at hx13 hi14).int
    refine sq (v := (I x12)) (rv_load1 Tryz.underlying3 rfl rfl hc17) (sq_end ?_)
    intro σ18 hm19
    replace H := H.grow (hm19.mono fun _ h => h); clear hm19
    refine st (v := (B (x6 != x12))) (rv_neq (a := x6) (b := x12) rfl rfl) (w_end (q_then ?_))
    refine cd_cond (x6 != x12) rfl (fun hb20 => ?_) (fun hb20 => ?_)
    ·replace h := bif_t hb20 h
     refine c_seq (rg (sa (B false) rfl (w_end (q_then (c_ret (q_blk_r (q_then_r (q_then_r (q_blk_r ?_)))))))))
     obtain rfl := sj h
     obtain rfl := hres _ rfl
     exact .inr (⟨_, rfl, rfl, _, σ18, fr_join ⟨rfl, trivial⟩, rfl, H.sel' [] rfl rfl⟩)
    ·replace h := bif_f hb20 h
     refine c_skip (q_blk (q_then (rg (sm (I s3) rfl (st (v := (I (w64 (s3 + 1)))) (rv_add (a := s3) (b := 1) rfl rfl) (sa (I (w64 (s3 + 1))) rfl (w_end (q_then ?_))))))))
     obtain rfl := sj h
     exact ⟨_, rfl, _, σ18, fr_join ⟨rfl, rfl, rfl, trivial⟩, rfl, H.sel' [0, 1] rfl rfl⟩
   ·replace h := bif_f hb5 h
    refine c_exit (q_then_x (q_then_x (q_blk_hit ?_)))
    obtain rfl := sj h
    obtain rfl := hres _ rfl
    exact .inl ⟨_, rfl, rfl, _, σ4, fr_join trivial, rfl, H.sel' [] rfl rfl⟩
  ·clear hj
   have h := h'
   clear h' H
   rintro e a w (⟨t21, rfl, rfl, ρ, σ22, rfl, rfl, H⟩ | ⟨t23, rfl, rfl, ρ, σ24, rfl, rfl, H⟩)
   ·replace h := selim_l h
    refine q_then (c_seq (rg (sa (B true) rfl (w_end (q_then (c_ret ?_))))))
    obtain rfl := sj h
    exact fin_ret (v := (B true)) (results_ok Tryz.results14 (res_tmp (v := (B true)) rfl res_nil) rfl) ⟨rfl, rfl⟩ (H.sel' [] rfl rfl)
   ·replace h := selim_r h
    refine q_then_r ?_
    obtain rfl := sj h
    exact fin_ret (v := (B t23)) (results_ok Tryz.results14 (res_tmp (v := (B t23)) rfl res_nil) rfl) ⟨rfl, rfl⟩ (H.sel' [] rfl rfl)

theorem c_laws_isIn {Ao : List Int} {Dz : Int} {Ap : Option Addr} {Aq : Nat} {r : Bool} (h : M.laws_isIn Ao Dz = some r) :
    Cal2 Tryz.prog 22 [(Sl Ap Ao Aq), (I Dz)] [Ch.ro 0 (Sl Ap Ao Aq) Ao] (fun n0 v L => v = (B r) ∧ L = []) := by
 refine cal2 (n := 18) Tryz.func22 rfl rfl rfl rfl ?_
 intro S0 σ0 n0 hn0 H
 unfold M.laws_isIn at h
 refine c_seq (rg (sa (B false) rfl (w_end (q_then (c_seq (c_seq (rg (sa (I 0) rfl (w_end (q_then ?_))))))))))
 obtain ⟨o1, hj, h'⟩ := bind_some h
 clear h
 refine c_cut (fun e a w => (∃ t, o1 = (.inl t) ∧ e = .normal ∧ ∃ (ρ : Nat → Value) (σ : St), a = fr 18 (updL ρ []) ∧ w = σ.w ∧ Hp S0 σ0 σ []) ∨ (∃ t, o1 = (.inr t) ∧ e = .ret ∧ ∃ (ρ : Nat → Value) (σ : St), a = fr 18 (updL ρ [(4, (B t))]) ∧ w = σ.w ∧ Hp S0 σ0 σ [])) ?_ ?_
 ·clear h'
  rename _ = some o1 => h
  refine c_blk (wp_loopM _ h (fun s2 a w => ∃ (ρ : Nat → Value) (σ : St), a = fr 18 (updL ρ [(0, (Sl Ap Ao Aq)), (1, (I Dz)), (5, (I s2))]) ∧ w = σ.w ∧ Hp S0 σ0 σ [Ch.ro 0 (Sl Ap Ao Aq) Ao]) ⟨_, σ0, fr_join ⟨rfl, rfl, rfl, trivial⟩, rfl, H.sel' [0] rfl rfl⟩ ?_)
  clear h H
  rintro s2 a w o ⟨ρ, σ3, rfl, rfl, H⟩ h hres
  refine c_seq (c_seq (rg (sm (I s2) rfl (sm (Sl Ap Ao Aq) rfl (st (v := (I (Ao.length : Int))) (rv_len Tryz.underlying31 rfl) (st (v := (B (decide (s2 < (Ao.length : Int))))) (rv_lss (a := s2) (b := (Ao.length : Int)) rfl rfl) (w_end (q_then ?_))))))))
  refine cd_cond (decide (s2 < (Ao.length : Int))) rfl (fun hb4 => ?_) (fun hb4 => ?_)
  ·replace h := bif_t hb4 h
   refine c_skip (q_then (c_seq (c_blk (c_seq (rg (sm (Sl Ap Ao Aq) rfl (sm (I s2) rfl ?_)))))))
   revert h; refine br fun x5 hx6 h => ?_
   obtain ⟨b8, o9, hi7, -⟩ := (H.ro 0 rfl).ix hx6
   refine st (v := (pt b8 o9)) (rv_ix Tryz.underlying31 ti3 rfl rfl hi7) ?_
   have hc10 := ((H.ro 0 rfl).at hx6 hi7).int
   refine st (v := (I x5)) (rv_load1 Tryz.underlying3 rfl rfl hc10) (sm (I Dz) rfl (st (v := (B (x5 == Dz))) (rv_eql (a := x5) (b := Dz) rfl rfl) (w_end (q_then ?_))))
   refine cd_cond (x5 == Dz) rfl (fun hb11 => ?_) (fun hb11 => ?_)
   ·replace h := bif_t hb11 h
    refine c_seq (rg (sa (B true) rfl (w_end (q_then (c_ret (q_blk_r (q_then_r (q_then_r (q_blk_r ?_)))))))))
    obtain rfl := sj h
    obtain rfl := hres _ rfl
    exact .inr (⟨_, rfl, rfl, _, σ3, fr_join ⟨rfl, trivial⟩, rfl, H.sel' [] rfl rfl⟩)
   ·replace h := bif_f hb11 h
    refine c_skip (q_blk (q_then (rg (sm (I s2) rfl (st (v := (I (w64 (s2 + 1)))) (rv_add (a := s2) (b := 1) rfl rfl) (sa (I (w64 (s2 + 1))) rfl (w_end (q_then ?_))))))))
    obtain rfl := sj h
    exact ⟨_, rfl, _, σ3, fr_join ⟨rfl, rfl, rfl, trivial⟩, rfl, H.sel' [0] rfl rfl⟩
  ·replace h := bif_f hb4 h
   refine c_exit (q_then_x (q_then_x (q_blk_hit ?_)))
   obtain rfl := sj h
   obtain rfl := hres _ rfl
   exact .inl ⟨_, rfl, rfl, _, σ3, fr_join trivial, rfl, H.sel' [] rfl rfl⟩
 ·clear hj
  have h := h'
  clear h' H
  rintro e a w (⟨t12, rfl, rfl, ρ, σ13, rfl, rfl, H⟩ | ⟨t14, rfl, rfl, ρ, σ15, rfl, rfl, H⟩)
  ·replace h := selim_l h
   refine q_then (c_seq (rg (sa (B false) rfl (w_end (q_then (c_ret ?_))))))
   obtain rfl := sj h
   exact fin_ret (v := (B false)) (results_ok Tryz.results22 (res_tmp (v := (B false)) rfl res_nil) rfl) ⟨rfl, rfl⟩ (H.sel' [] rfl rfl)
  ·replace h := selim_r h
   refine q_then_r ?_
   obtain rfl := sj h
   exact fin_ret (v := (B t14)) (results_ok Tryz.results22 (res_tmp (v := (B t14)) rfl res_nil) rfl) ⟨rfl, rfl⟩ (H.sel' [] rfl rfl)

theorem c_impl_placeOf_1 {Aj : Int × (List Int) × Int} {Ea : Int} {Ak : Option Addr} {Am : Nat} {r : Int} (h : M.impl_placeOf_1 Aj Ea = some r) :
    Cal2 Tryz.prog 69 [(.agg #[(I Aj.1), (Sl Ak Aj.2.1 Am), (I Aj.2.2)]), (I Ea)] [Ch.ro 0 (Sl Ak Aj.2.1 Am) Aj.2.1] (fun n0 v L => v = (I r) ∧ L = []) := by
 refine cal2 (n := 9) Tryz.func69 rfl rfl rfl rfl ?_
 intro S0 σ0 n0 hn0 H
 unfold M.impl_placeOf_1 at h
 refine c_seq (rg (st_ex (ex_box (cs := [(I Aj.1), (Sl Ak Aj.2.1 Am), (I Aj.2.2)]) H hn0 rfl rfl) wn ?_))
 rintro _ σ2 ⟨b1, rfl, H, -⟩
 refine sa (I 0) rfl (w_end (q_then (c_seq (rg (st (v := (pt b1 0)) (rv_fieldAddr (off := 0) (ft := 3) Tryz.underlying33 rfl ti3 rfl rfl) ?_)))))
 have hc3 := H.cell (u := (I Aj.1)) (o' := 0) 0 0 rfl rfl rfl
 refine st (v := (I Aj.1)) (rv_load1 Tryz.underlying3 rfl rfl hc3) (sm (I Ea) rfl ?_)
 revert h; refine br fun r4 hx5 h => ?_
 have hc6 := c_cmp_Compare_int hx5
 refine st_call (cx_call hc6 (ent_f hc6.fn rfl) hn0 (H.sel' [0, 1] rfl rfl : Hp S0 σ0 _ ([] ++ _))) wn ?_
 rintro _ σ7 ⟨_, ⟨rfl, rfl⟩, H, -⟩
 replace H : Hp _ _ _ [_, _] := H
 refine sa (I r4) rfl (w_end (q_then (c_ret ?_)))
 obtain rfl := sj h
 exact fin_ret (v := (I r4)) (results_ok Tryz.results69 (res_tmp (v := (I r4)) rfl res_nil) rfl) ⟨rfl, rfl⟩ (H.sel' [] rfl rfl)

theorem c_slices_BinarySearchFunc_impl_Item_impl_Item_int__impl_placeOf_1 {Aj : List (Int × (List Int) × Int)} {Eb : Int} {Cj : Option Addr} {Ck : Nat} {r : Int × Bool} (h : M.slices_BinarySearchFunc_impl_Item_impl_Item_int__impl_placeOf_1 Aj Eb = some r) :
    Cal2 Tryz.prog 68 [(Sl Cj Aj Ck), (I Eb), (.func (.func 69) #[] #[])] [Ch.ro 0 (Sl Cj Aj Ck) Aj] (fun n0 v L => v = (.tuple #[(I r.1), (B r.2)]) ∧ L = []) := by
 refine cal2 (n := 49) Tryz.func68 rfl rfl rfl rfl ?_
 intro S0 σ0 n0 hn0 H
 unfold M.slices_BinarySearchFunc_impl_Item_impl_Item_int__impl_placeOf_1 at h
 refine c_seq (rg (sa (I 0) rfl (sa (B false) rfl (w_end (q_then (c_seq (rg (sm (Sl Cj Aj Ck) rfl (st (v := (I (Aj.length : Int))) (rv_len Tryz.underlying23 rfl) (sa (I (Aj.length : Int)) rfl (w_end ?_)))))))))))
 refine q_then (c_seq (rg (sm (I (Aj.length : Int)) rfl (sa (I 0) rfl (sa (I (Aj.length : Int)) rfl (w_end (q_then (c_seq ?_))))))))
 obtain ⟨o1, hj, h'⟩ := bind_some h
 clear h
 refine c_cut (fun e a w => e = .normal ∧ ∃ (ρ : Nat → Value) (σ : St), a = fr 49 (updL ρ [(0, (Sl Cj Aj Ck)), (1, (I Eb)), (2, (.func (.func 69) #[] #[])), (8, (I (Aj.length : Int))), (9, (I o1))]) ∧ w = σ.w ∧ Hp S0 σ0 σ [Ch.ro 0 (Sl Cj Aj Ck) Aj]) ?_ ?_
 ·clear h'
  rename _ = some o1 => h
  refine c_blk (wp_loopM _ h (fun s2 a w => ∃ (ρ : Nat → Value) (σ : St), a = fr 49 (updL ρ [(0, (Sl Cj Aj Ck)), (1, (I Eb)), (2, (.func (.func 69) #[] #[])), (8, (I (Aj.length : Int))), (9, (I s2.1)), (10, (I s2.2))]) ∧ w = σ.w ∧ Hp S0 σ0 σ [Ch.ro 0 (Sl Cj Aj Ck) Aj]) ⟨_, σ0, fr_join ⟨rfl, rfl, rfl, rfl, rfl, rfl, trivial⟩, rfl, H.sel' [0] rfl rfl⟩ ?_)
  clear h H
  rintro s2 a w o ⟨ρ, σ3, rfl, rfl, H⟩ h hres
  refine c_seq (c_seq (rg (sm (I s2.1) rfl (sm (I s2.2) rfl (st (v := (B (decide (s2.1 < s2.2)))) (rv_lss (a := s2.1) (b := s2.2) rfl rfl) (w_end (q_then ?_)))))))
  refine cd_cond (decide (s2.1 < s2.2)) rfl (fun hb4 => ?_) (fun hb4 => ?_)
  ·replace h := bif_t hb4 h
   refine c_skip (q_then (c_blk (c_seq (rg (sm (I s2.1) rfl (sm (I s2.2) rfl (st (v := (I (w64 (s2.1 + s2.2)))) (rv_add (a := s2.1) (b := s2.2) rfl rfl) (st (v := (.int .u64 (wk .u64 (w64 (s2.1 + s2.2))))) (rvk_conv (k := .i64) (k' := .u64) (a := (w64 (s2.1 + s2.2))) Tryz.underlying3 Tryz.underlying101 rfl) ?_))))))))
   refine st (v := (.int .u64 (gshr .u64 (wk .u64 (w64 (s2.1 + s2.2))) 1))) (rvk_shr (k := .u64) (k' := .u64) (a := (wk .u64 (w64 (s2.1 + s2.2)))) (b := 1) rfl rfl (by decide)) ?_
   refine st (v := (I (wk .i64 (gshr .u64 (wk .u64 (w64 (s2.1 + s2.2))) 1)))) (rvk_conv (k := .u64) (k' := .i64) (a := (gshr .u64 (wk .u64 (w64 (s2.1 + s2.2))) 1)) Tryz.underlying101 Tryz.underlying3 rfl) (sa (I (wk .i64 (gshr .u64 (wk .u64 (w64 (s2.1 + s2.2))) 1))) rfl (w_end (q_then (c_seq (rg (sm (.func (.func 69) #[] #[]) rfl (sm (Sl Cj Aj Ck) rfl (sm (I (wk .i64 (gshr .u64 (wk .u64 (w64 (s2.1 + s2.2))) 1))) rfl ?_))))))))
   revert h; refine br fun x5 hx6 h => ?_
   obtain ⟨b8, o9, hi7, -⟩ := (H.ro 0 rfl).ix hx6
   refine st (v := (pt b8 o9)) (rv_ix Tryz.underlying23 ti33 rfl rfl hi7) ?_
   obtain ⟨_, ⟨_, _, rfl, rfl, ⟨_, _, rfl, ⟨_, rfl, hR14⟩, rfl⟩⟩, hl10, hc11⟩ := ((H.ro 0 rfl).at hx6 hi7).cells
   obtain ⟨a12, c13, rfl⟩ := hR14.isSl
   replace H := H.add (d := Ch.ro 0 (Sl a12 x5.2.1 c13) x5.2.1) hR14 (fun _ h => h)
   clear hR14
   refine st (v := (.agg #[(I x5.1), (Sl a12 x5.2.1 c13), (I x5.2.2)])) (rv_load Tryz.underlying33 rfl ti33 rfl hl10 hc11) (sm (I Eb) rfl ?_)
   revert h; refine br fun r15 hx16 h => ?_
   have hc17 := c_impl_placeOf_1 (Ak := a12) (Am := c13) hx16
   refine st_call (cx_call hc17 (ent_v (cap := []) hc17.fn rfl rfl) hn0 (H.sel' [0, 0, 1] rfl rfl : Hp S0 σ0 _ ([_] ++ _))) wn ?_
   rintro _ σ18 ⟨_, ⟨rfl, rfl⟩, H, -⟩
   replace H : Hp _ _ _ [_, _] := H
   refine st (v := (B (decide (r15 < 0)))) (rv_lss (a := r15) (b := 0) rfl rfl) (w_end (q_then ?_))
   refine cd_cond (decide (r15 < 0)) rfl (fun hb19 => ?_) (fun hb19 => ?_)
   ·replace h := bif_t hb19 h
    refine rg (sm (I (wk .i64 (gshr .u64 (wk .u64 (w64 (s2.1 + s2.2))) 1))) rfl (st (v := (I (w64 ((wk .i64 (gshr .u64 (wk .u64 (w64 (s2.1 + s2.2))) 1)) + 1)))) (rv_add (a := (wk .i64 (gshr .u64 (wk .u64 (w64 (s2.1 + s2.2))) 1))) (b := 1) rfl rfl) (sa (I (w64 ((wk .i64 (gshr .u64 (wk .u64 (w64 (s2.1 + s2.2))) 1)) + 1))) rfl (w_end (q_blk (q_then ?_))))))
    obtain rfl := sj h
    exact ⟨_, rfl, _, σ18, fr_join ⟨rfl, rfl, rfl, rfl, rfl, rfl, trivial⟩, rfl, H.sel' [1] rfl rfl⟩
   ·replace h := bif_f hb19 h
    refine rg (sm (I (wk .i64 (gshr .u64 (wk .u64 (w64 (s2.1 + s2.2))) 1))) rfl (sa (I (wk .i64 (gshr .u64 (wk .u64 (w64 (s2.1 + s2.2))) 1))) rfl (w_end (q_blk (q_then ?_)))))
    obtain rfl := sj h
    exact ⟨_, rfl, _, σ18, fr_join ⟨rfl, rfl, rfl, rfl, rfl, rfl, trivial⟩, rfl, H.sel' [1] rfl rfl⟩
  ·replace h := bif_f hb4 h
   refine c_exit (q_then_x (q_then_x (q_blk_hit ?_)))
   obtain rfl := sj h
   obtain rfl := hres _ rfl
   exact ⟨rfl, _, σ3, fr_join ⟨rfl, rfl, rfl, rfl, rfl, trivial⟩, rfl, H.sel' [0] rfl rfl⟩
 ·clear hj
  have h := h'
  clear h' H
  rintro e a w ⟨rfl, ρ, σ20, rfl, rfl, H⟩
  refine q_then (c_seq (rg (sm (I o1) rfl (sm (I o1) rfl (sm (I (Aj.length : Int)) rfl (st (v := (B (decide (o1 < (Aj.length : Int))))) (rv_lss (a := o1) (b := (Aj.length : Int)) rfl rfl) (sm (B (decide (o1 < (Aj.length : Int)))) rfl ?_)))))))
  rcases Bool.eq_false_or_eq_true (decide (o1 < (Aj.length : Int))) with hb21 | hb21
  ·replace h := bif_t hb21 h
   refine st_g (v := (.func (.func 69) #[] #[])) (congrArg some hb21) (rv_move rfl) (st_g (v := (Sl Cj Aj Ck)) (congrArg some hb21) (rv_move rfl) (st_g (v := (I o1)) (congrArg some hb21) (rv_move rfl) ?_))
   revert h; refine br fun x22 hx23 h => ?_
   obtain ⟨b25, o26, hi24, -⟩ := (H.ro 0 rfl).ix hx23
   refine st_g (v := (pt b25 o26)) (congrArg some hb21) (rv_ix Tryz.underlying23 ti33 rfl rfl hi24) ?_
   obtain ⟨_, ⟨_, _, rfl, rfl, ⟨_, _, rfl, ⟨_, rfl, hR31⟩, rfl⟩⟩, hl27, hc28⟩ := ((H.ro 0 rfl).at hx23 hi24).cells
   obtain ⟨a29, c30, rfl⟩ := hR31.isSl
   replace H := H.add (d := Ch.ro 0 (Sl a29 x22.2.1 c30) x22.2.1) hR31 (fun _ h => h)
   clear hR31
   refine st_g (v := (.agg #[(I x22.1), (Sl a29 x22.2.1 c30), (I x22.2.2)])) (congrArg some hb21) (rv_load Tryz.underlying33 rfl ti33 rfl hl27 hc28) (st_g (v := (I Eb)) (congrArg some hb21) (rv_move rfl) ?_)
   revert h; refine br fun r32 hx33 h => ?_
   have hc34 := c_impl_placeOf_1 (Ak := a29) (Am := c30) hx33
   refine st_call (cx_call hc34 (ent_v (cap := []) hc34.fn rfl rfl) hn0 (H.sel' [0, 0, 1] rfl rfl : Hp S0 σ0 _ ([_] ++ _))) (wanted_yes rfl (by exact (congrArg some hb21))) ?_
   rintro _ σ35 ⟨_, ⟨rfl, rfl⟩, H, -⟩
   replace H : Hp _ _ _ [_, _] := H
   refine st_g (v := (B (r32 == 0))) (congrArg some hb21) (rv_eql (a := r32) (b := 0) rfl rfl) (st (v := (B (r32 == 0))) (rv_pick_t (congrArg B hb21) rfl) (sa (I o1) rfl (sa (B (r32 == 0)) rfl (w_end (q_then (c_ret ?_))))))
   obtain rfl := sj h
   exact fin_ret (v := (.tuple #[(I o1), (B (r32 == 0))])) (results_ok Tryz.results68 (res_tmp (v := (I o1)) rfl (res_tmp (v := (B (r32 == 0))) rfl res_nil)) rfl) ⟨rfl, rfl⟩ (H.sel' [] rfl rfl)
  ·replace h := bif_f hb21 h
   refine st_skip (congrArg some hb21) (st_skip (congrArg some hb21) (st_skip (congrArg some hb21) (st_skip (congrArg some hb21) (st_skip (congrArg some hb21) (st_skip (congrArg some hb21) (st_skip (congrArg some hb21) (st_skip (congrArg some hb21) (st (v := (B false)) (rv_pick_f (congrArg B hb21) rfl) (sa (I o1) rfl (sa (B false) rfl (w_end ?_)))))))))))
   refine q_then (c_ret ?_)
   obtain rfl := sj h
   exact fin_ret (v := (.tuple #[(I o1), (B false)])) (results_ok Tryz.results68 (res_tmp (v := (I o1)) rfl (res_tmp (v := (B false)) rfl res_nil)) rfl) ⟨rfl, rfl⟩ (H.sel' [] rfl rfl)

theorem c_impl_placeOf {Ao : List (Int × (List Int) × Int)} {Ea : Int} {Ap : Option Addr} {Aq : Nat} {r : Int × Bool} (h : M.impl_placeOf Ao Ea = some r) :
    Cal2 Tryz.prog 38 [(Sl Ap Ao Aq), (I Ea)] [Ch.ro 0 (Sl Ap Ao Aq) Ao] (fun n0 v L => v = (.tuple #[(I r.1), (B r.2)]) ∧ L = []) := by
 refine cal2 (n := 11) Tryz.func38 rfl rfl rfl rfl ?_
 intro S0 σ0 n0 hn0 H
 unfold M.impl_placeOf at h
 refine c_seq (rg (sa (I 0) rfl (sa (B false) rfl (w_end (q_then (c_seq (rg (sm (Sl Ap Ao Aq) rfl (sm (I Ea) rfl ?_)))))))))
 revert h; refine br fun r1 hx2 h => ?_
 have hc3 := c_slices_BinarySearchFunc_impl_Item_impl_Item_int__impl_placeOf_1 (Cj := Ap) (Ck := Aq) hx2
 refine st_call (cx_call hc3 (ent_f hc3.fn rfl) hn0 (H.sel' [0, 0] rfl rfl : Hp S0 σ0 _ ([_] ++ _))) wn ?_
 rintro _ σ4 ⟨_, ⟨rfl, rfl⟩, H, -⟩
 replace H : Hp _ _ _ [_] := H
 refine st (v := (I r1.1)) (rv_extract rfl rfl) (st (v := (B r1.2)) (rv_extract rfl rfl) (sa (I r1.1) rfl (sa (B r1.2) rfl (w_end (q_then (c_ret ?_))))))
 obtain rfl := sj h
 exact fin_ret (v := (.tuple #[(I r1.1), (B r1.2)])) (results_ok Tryz.results38 (res_tmp (v := (I r1.1)) rfl (res_tmp (v := (B r1.2)) rfl res_nil)) rfl) ⟨rfl, rfl⟩ (H.sel' [] rfl rfl)

theorem c_slices_Index_int_int {Av : List Int} {Ec : Int} {Aw : Option Addr} {Ax : Nat} {r : Int} (h : M.slices_Index_int_int Av Ec = some r) :
    Cal2 Tryz.prog 81 [(Sl Aw Av Ax), (I Ec)] [Ch.ro 0 (Sl Aw Av Ax) Av] (fun n0 v L => v = (I r) ∧ L = []) := by
 refine cal2 (n := 19) Tryz.func81 rfl rfl rfl rfl ?_
 intro S0 σ0 n0 hn0 H
 unfold M.slices_Index_int_int at h
 refine c_seq (rg (sa (I 0) rfl (w_end (q_then (c_seq (c_seq (rg (sm (Sl Aw Av Ax) rfl (st (v := (I (Av.length : Int))) (rv_len Tryz.underlying31 rfl) (sm (I 0) rfl (w_end ?_)))))))))))
 refine q_then ?_
 obtain ⟨o1, hj, h'⟩ := bind_some h
 clear h
 refine c_cut (fun e a w => (∃ t, o1 = (.inl t) ∧ e = .normal ∧ ∃ (ρ : Nat → Value) (σ : St), a = fr 19 (updL ρ []) ∧ w = σ.w ∧ Hp S0 σ0 σ []) ∨ (∃ t, o1 = (.inr t) ∧ e = .ret ∧ ∃ (ρ : Nat → Value) (σ : St), a = fr 19 (updL ρ [(4, (I t))]) ∧ w = σ.w ∧ Hp S0 σ0 σ [])) ?_ ?_
 ·clear h'
  rename _ = some o1 => h
  refine c_blk (wp_loopM _ h (fun s2 a w => ∃ (ρ : Nat → Value) (σ : St), a = fr 19 (updL ρ [(0, (Sl Aw Av Ax)), (1, (I Ec)), (7, (I (Av.length : Int))), (8, (I s2))]) ∧ w = σ.w ∧ Hp S0 σ0 σ [Ch.ro 0 (Sl Aw Av Ax) Av]) ⟨_, σ0, fr_join ⟨rfl, rfl, rfl, rfl, trivial⟩, rfl, H.sel' [0] rfl rfl⟩ ?_)
  clear h H
  rintro s2 a w o ⟨ρ, σ3, rfl, rfl, H⟩ h hres
  refine c_seq (rg (st (v := (B (decide (s2 < (Av.length : Int))))) (rv_lss (a := s2) (b := (Av.length : Int)) rfl rfl) (w_end (q_then (c_seq ?_)))))
  refine cd_cond (decide (s2 < (Av.length : Int))) rfl (fun hb4 => ?_) (fun hb4 => ?_)
  ·replace h := bif_t hb4 h
   refine c_skip (q_then (c_seq (c_blk (c_seq (rg (sm (I s2) rfl (sa (I s2) rfl (w_end (q_then (c_seq (rg ?_)))))))))))
   refine sm (I Ec) rfl (sm (Sl Aw Av Ax) rfl (sm (I s2) rfl ?_))
   revert h; refine br fun x5 hx6 h => ?_
   obtain ⟨b8, o9, hi7, -⟩ := (H.ro 0 rfl).ix hx6
   refine st (v := (pt b8 o9)) (rv_ix Tryz.underlying31 ti3 rfl rfl hi7) ?_
   have hc10 := ((H.ro 0 rfl).at hx6 hi7).int
   refine st (v := (I x5)) (rv_load1 Tryz.underlying3 rfl rfl hc10) (st (v := (B (Ec == x5))) (rv_eql (a := Ec) (b := x5) rfl rfl) (w_end (q_then ?_)))
   refine cd_cond (Ec == x5) rfl (fun hb11 => ?_) (fun hb11 => ?_)
   ·replace h := bif_t hb11 h
    refine c_seq (rg (sm (I s2) rfl (sa (I s2) rfl (w_end (q_then (c_ret (q_blk_r (q_then_r (q_then_r (q_blk_r ?_))))))))))
    obtain rfl := sj h
    obtain rfl := hres _ rfl
    exact .inr (⟨_, rfl, rfl, _, σ3, fr_join ⟨rfl, trivial⟩, rfl, H.sel' [] rfl rfl⟩)
   ·replace h := bif_f hb11 h
    refine c_skip (q_blk (q_then (rg (st (v := (I (w64 (s2 + 1)))) (rv_add (a := s2) (b := 1) rfl rfl) (sm (I (w64 (s2 + 1))) rfl (w_end (q_then ?_)))))))
    obtain rfl := sj h
    exact ⟨_, rfl, _, σ3, fr_join ⟨rfl, rfl, rfl, rfl, trivial⟩, rfl, H.sel' [0] rfl rfl⟩
  ·replace h := bif_f hb4 h
   refine c_exit (q_then_x (q_then_x (q_blk_hit ?_)))
   obtain rfl := sj h
   obtain rfl := hres _ rfl
   exact .inl ⟨_, rfl, rfl, _, σ3, fr_join trivial, rfl, H.sel' [] rfl rfl⟩
 ·clear hj
  have h := h'
  clear h' H
  rintro e a w (⟨t12, rfl, rfl, ρ, σ13, rfl, rfl, H⟩ | ⟨t14, rfl, rfl, ρ, σ15, rfl, rfl, H⟩)
  ·replace h := selim_l h
   refine q_then (c_seq (rg (sa (I (-1)) rfl (w_end (q_then (c_ret ?_))))))
   obtain rfl := sj h
   exact fin_ret (v := (I (-1))) (results_ok Tryz.results81 (res_tmp (v := (I (-1))) rfl res_nil) rfl) ⟨rfl, rfl⟩ (H.sel' [] rfl rfl)
  ·replace h := selim_r h
   refine q_then_r ?_
   obtain rfl := sj h
   exact fin_ret (v := (I t14)) (results_ok Tryz.results81 (res_tmp (v := (I t14)) rfl res_nil) rfl) ⟨rfl, rfl⟩ (H.sel' [] rfl rfl)

theorem c_slices_Contains_int_int {Av : List Int} {Ec : Int} {Aw : Option Addr} {Ax : Nat} {r : Bool} (h : M.slices_Contains_int_int Av Ec = some r) :
    Cal2 Tryz.prog 54 [(Sl Aw Av Ax), (I Ec)] [Ch.ro 0 (Sl Aw Av Ax) Av] (fun n0 v L => v = (B r) ∧ L = []) := by
 refine cal2 (n := 9) Tryz.func54 rfl rfl rfl rfl ?_
 intro S0 σ0 n0 hn0 H
 unfold M.slices_Contains_int_int at h
 refine c_seq (rg (sa (B false) rfl (w_end (q_then (c_seq (rg (sm (Sl Aw Av Ax) rfl (sm (I Ec) rfl ?_))))))))
 revert h; refine br fun r1 hx2 h => ?_
 have hc3 := c_slices_Index_int_int (Aw := Aw) (Ax := Ax) hx2
 refine st_call (cx_call hc3 (ent_f hc3.fn rfl) hn0 (H.sel' [0, 0] rfl rfl : Hp S0 σ0 _ ([_] ++ _))) wn ?_
 rintro _ σ4 ⟨_, ⟨rfl, rfl⟩, H, -⟩
 replace H : Hp _ _ _ [_] := H
 refine st (v := (B (decide (0 ≤ r1)))) (rv_geq (a := r1) (b := 0) rfl rfl) (sa (B (decide (0 ≤ r1))) rfl (w_end (q_then (c_ret ?_))))
 obtain rfl := sj h
 exact fin_ret (v := (B (decide (0 ≤ r1)))) (results_ok Tryz.results54 (res_tmp (v := (B (decide (0 ≤ r1)))) rfl res_nil) rfl) ⟨rfl, rfl⟩ (H.sel' [] rfl rfl)

theorem c_cmp_Less_int {Aj : Int} {Bt : Int}  {r : Bool} (h : M.cmp_Less_int Aj Bt = some r) :
    Cal2 Tryz.prog 106 [(I Aj), (I Bt)] [] (fun n0 v L => v = (B r) ∧ L = []) := by
 refine cal2 (n := 17) Tryz.func106 rfl rfl rfl rfl ?_
 intro S0 σ0 n0 hn0 H
 unfold M.cmp_Less_int at h
 refine c_seq (rg (sa (B false) rfl (w_end (q_then (c_seq (rg (sm (I Aj) rfl ?_)))))))
 revert h; refine br fun r1 hx2 h => ?_
 have hc3 := c_cmp_isNaN_int hx2
 refine st_call (cx_call hc3 (ent_f hc3.fn rfl) hn0 (H.sel' [] rfl rfl : Hp S0 σ0 _ ([] ++ _))) wn ?_
 rintro _ σ4 ⟨_, ⟨rfl, rfl⟩, H, -⟩
 replace H : Hp _ _ _ [] := H
 refine sm (B r1) rfl ?_
 rcases Bool.eq_false_or_eq_true r1 with hb5 | hb5
 ·replace h := bif_t hb5 h
  refine st_g (v := (I Bt)) (congrArg some hb5) (rv_move rfl) ?_
  revert h; refine br fun r6 hx7 h => ?_
  have hc8 := c_cmp_isNaN_int hx7
  refine st_call (cx_call hc8 (ent_f hc8.fn rfl) hn0 (H.sel' [] rfl rfl : Hp S0 σ0 _ ([] ++ _))) (wanted_yes rfl (by exact (congrArg some hb5))) ?_
  rintro _ σ9 ⟨_, ⟨rfl, rfl⟩, H, -⟩
  replace H : Hp _ _ _ [] := H
  refine st_g (v := (B (!r6))) (congrArg some hb5) (rv_not rfl) (st (v := (B (!r6))) (rv_pick_t (congrArg B hb5) rfl) (sm (B (!r6)) rfl ?_))
  rcases Bool.eq_false_or_eq_true (!r6) with hb10 | hb10
  ·replace h := bif_t hb10 h
   refine st_skip (congrArg some hb10) (st_skip (congrArg some hb10) (st_skip (congrArg some hb10) (st (v := (B true)) (rv_pick_t (congrArg B hb10) rfl) (sa (B true) rfl (w_end (q_then (c_ret ?_)))))))
   obtain rfl := sj h
   exact fin_ret (v := (B true)) (results_ok Tryz.results106 (res_tmp (v := (B true)) rfl res_nil) rfl) ⟨rfl, rfl⟩ (H.sel' [] rfl rfl)
  ·replace h := bif_f hb10 h
   refine st_g (v := (I Aj)) (congrArg some hb10) (rv_move rfl) (st_g (v := (I Bt)) (congrArg some hb10) (rv_move rfl) (st_g (v := (B (decide (Aj < Bt)))) (congrArg some hb10) (rv_lss (a := Aj) (b := Bt) rfl rfl) (st (v := (B (decide (Aj < Bt)))) (rv_pick_f (congrArg B hb10) rfl) (sa (B (decide (Aj < Bt))) rfl (w_end (q_then (c_ret ?_)))))))
   obtain rfl := sj h
   exact fin_ret (v := (B (decide (Aj < Bt)))) (results_ok Tryz.results106 (res_tmp (v := (B (decide (Aj < Bt)))) rfl res_nil) rfl) ⟨rfl, rfl⟩ (H.sel' [] rfl rfl)
 ·replace h := bif_f hb5 h
  refine st_skip (congrArg some hb5) (st_skip (congrArg some hb5) (st_skip (congrArg some hb5) (st (v := (B false)) (rv_pick_f (congrArg B hb5) rfl) (sm (B false) rfl (st_g (v := (I Aj)) rfl (rv_move rfl) (st_g (v := (I Bt)) rfl (rv_move rfl) (st_g (v := (B (decide (Aj < Bt)))) rfl (rv_lss (a := Aj) (b := Bt) rfl rfl) (st (v := (B (decide (Aj < Bt)))) (rv_pick_f rfl rfl) (sa (B (decide (Aj < Bt))) rfl (w_end (q_then ?_)))))))))))
  refine c_ret ?_
  obtain rfl := sj h
  exact fin_ret (v := (B (decide (Aj < Bt)))) (results_ok Tryz.results106 (res_tmp (v := (B (decide (Aj < Bt)))) rfl res_nil) rfl) ⟨rfl, rfl⟩ (H.sel' [] rfl rfl)

theorem c_slices_insertionSortOrdered_int {Ed : List Int} {Bk : Int} {Bl : Int} {Ee : Option Addr} {Ef : Nat} {r : (List Int)} (h : M.slices_insertionSortOrdered_int Ed Bk Bl = some r) :
    Cal2 Tryz.prog 100 [(Sl Ee Ed Ef), (I Bk), (I Bl)] [Ch.own 0 0 (Sl Ee Ed Ef) Ed] (fun n0 v L => v = (.tuple #[]) ∧ L = [Ch.own 0 0 (Sl Ee r Ef) r] ∧ r.length = Ed.length) := by
 refine cal2 (n := 49) Tryz.func100 rfl rfl rfl rfl ?_
 intro S0 σ0 n0 hn0 H
 unfold M.slices_insertionSortOrdered_int at h
 refine c_seq (rg (sm (I Bk) rfl (st (v := (I (w64 (Bk + 1)))) (rv_add (a := Bk) (b := 1) rfl rfl) (sa (I (w64 (Bk + 1))) rfl (w_end (q_then ?_))))))
 obtain ⟨o1, hj, h'⟩ := bind_some h
 clear h
 refine c_cut (fun e a w => e = .normal ∧ ∃ (ρ : Nat → Value) (σ : St), a = fr 49 (updL ρ [(0, (Sl Ee o1 Ef))]) ∧ w = σ.w ∧ Hp S0 σ0 σ [Ch.own 0 0 (Sl Ee o1 Ef) o1] ∧ o1.length = Ed.length) ?_ ?_
 ·clear h'
  rename _ = some o1 => h
  refine c_blk (wp_loopM _ h (fun s2 a w => ∃ (ρ : Nat → Value) (σ : St), a = fr 49 (updL ρ [(0, (Sl Ee s2.1 Ef)), (1, (I Bk)), (2, (I Bl)), (6, (I s2.2))]) ∧ w = σ.w ∧ Hp S0 σ0 σ [Ch.own 0 0 (Sl Ee s2.1 Ef) s2.1] ∧ s2.1.length = Ed.length) ⟨_, σ0, fr_join ⟨rfl, rfl, rfl, rfl, trivial⟩, rfl, H.sel' [0] rfl rfl, rfl⟩ ?_)
  clear h H
  rintro s2 a w o ⟨ρ, σ3, rfl, rfl, H, hn4⟩ h hres
  refine c_seq (c_seq (rg (sm (I s2.2) rfl (sm (I Bl) rfl (st (v := (B (decide (s2.2 < Bl)))) (rv_lss (a := s2.2) (b := Bl) rfl rfl) (w_end (q_then ?_)))))))
  refine cd_cond (decide (s2.2 < Bl)) rfl (fun hb5 => ?_) (fun hb5 => ?_)
  ·replace h := bif_t hb5 h
   refine c_skip (q_then (c_seq (c_blk (c_seq (rg (sm (I s2.2) rfl (sa (I s2.2) rfl (w_end (q_then ?_)))))))))
   obtain ⟨o6, hj, h'⟩ := bind_some h
   clear h
   refine c_cut (fun e a w => e = .normal ∧ ∃ (ρ : Nat → Value) (σ : St), a = fr 49 (updL ρ [(0, (Sl Ee o6 Ef)), (1, (I Bk)), (2, (I Bl)), (6, (I s2.2))]) ∧ w = σ.w ∧ Hp S0 σ0 σ [Ch.own 0 0 (Sl Ee o6 Ef) o6] ∧ o6.length = s2.1.length) ?_ ?_
   ·clear h'
    rename _ = some o6 => h
    refine c_blk (wp_loopM _ h (fun s7 a w => ∃ (ρ : Nat → Value) (σ : St), a = fr 49 (updL ρ [(0, (Sl Ee s7.1 Ef)), (1, (I Bk)), (2, (I Bl)), (6, (I s2.2)), (7, (I s7.2))]) ∧ w = σ.w ∧ Hp S0 σ0 σ [Ch.own 0 0 (Sl Ee s7.1 Ef) s7.1] ∧ s7.1.length = s2.1.length) ⟨_, σ3, fr_join ⟨rfl, rfl, rfl, rfl, rfl, trivial⟩, rfl, H.sel' [0] rfl rfl, rfl⟩ ?_)
    clear h H
    rintro s7 a w o ⟨ρ, σ8, rfl, rfl, H, hn9⟩ h hres
    refine c_seq (c_seq ?_)
    obtain ⟨o10, hj, h'⟩ := bind_some h
    clear h
    refine c_cut (fun e a w => e = .normal ∧ ∃ (ρ : Nat → Value) (σ : St), a = fr 49 (updL ρ [(0, (Sl Ee s7.1 Ef)), (1, (I Bk)), (2, (I Bl)), (6, (I s2.2)), (7, (I s7.2)), (30, (B o10))]) ∧ w = σ.w ∧ Hp S0 σ0 σ [Ch.own 0 0 (Sl Ee s7.1 Ef) s7.1]) ?_ ?_
    ·clear h'
     rename _ = some o10 => h
     refine rgP (σ := σ8) 13 (by kernel_rfl) (by kernel_rfl) (by kernel_rfl) ?_
     refine sq (v := (I s7.2)) (rv_move rfl) (sq (v := (I Bk)) (rv_move rfl) (sq (v := (B (decide (Bk < s7.2)))) (rv_gtr (a := s7.2) (b := Bk) rfl rfl) (sq (v := (B (decide (Bk < s7.2)))) (rv_move rfl) ?_)))
     rcases Bool.eq_false_or_eq_true (decide (Bk < s7.2)) with hb11 | hb11
     ·replace h := bif_t hb11 h
      refine sq_g (v := (Sl Ee s7.1 Ef)) (congrArg some hb11) (rv_move rfl) (sq_g (v := (I s7.2)) (congrArg some hb11) (rv_move rfl) ?_)
      revert h; refine br fun x12 hx13 h => ?_
      obtain ⟨b15, o16, hi14, -⟩ := (H.own 0 rfl).ix hx13
      refine sq_g (v := (pt b15 o16)) (congrArg some hb11) (rv_ix Tryz.underlying31 ti3 rfl rfl hi14) ?_
      have hc17 := ((H.own 0 rfl).at hx13 hi14).int
      refine sq_g (v := (I x12)) (congrArg some hb11) (rv_load1 Tryz.underlying3 rfl rfl hc17) (sq_g (v := (Sl Ee s7.1 Ef)) (congrArg some hb11) (rv_move rfl) (sq_g (v := (I s7.2)) (congrArg some hb11) (rv_move rfl) (sq_g (v := (I (w64 (s7.2 - 1)))) (congrArg some hb11) (rv_sub (a := s7.2) (b := 1) rfl rfl) ?_)))
      revert h; refine br fun x18 hx19 h => ?_
      obtain ⟨b21, o22, hi20, -⟩ := (H.own 0 rfl).ix hx19
      refine sq_g (v := (pt b21 o22)) (congrArg some hb11) (rv_ix Tryz.underlying31 ti3 rfl rfl hi20) ?_
      have hc23 := ((H.own 0 rfl).at hx19 hi20).int
      refine sq_g (v := (I x18)) (congrArg some hb11) (rv_load1 Tryz.underlying3 rfl rfl hc23) (sq_end ?_)
      intro σ24 hm25
      replace H := H.grow (hm25.mono fun _ h => h); clear hm25
      revert h; refine br fun r26 hx27 h => ?_
      have hc28 := c_cmp_Less_int hx27
      refine st_call (cx_call hc28 (ent_f hc28.fn rfl) hn0 (H.sel' [0] rfl rfl : Hp S0 σ0 _ ([] ++ _))) (wanted_yes rfl (by exact (congrArg some hb11))) ?_
      rintro _ σ29 ⟨_, ⟨rfl, rfl⟩, H, -⟩
      replace H : Hp _ _ _ [_] := H
      refine st (v := (B r26)) (rv_pick_t (congrArg B hb11) rfl) (w_end ?_)
      obtain rfl := sj h
      exact ⟨rfl, _, σ29, fr_join ⟨rfl, rfl, rfl, rfl, rfl, rfl, trivial⟩, rfl, H.sel' [0] rfl rfl⟩
     ·replace h := bif_f hb11 h
      refine sq_skip (congrArg some hb11) (sq_skip (congrArg some hb11) (sq_skip (congrArg some hb11) (sq_skip (congrArg some hb11) (sq_skip (congrArg some hb11) (sq_skip (congrArg some hb11) (sq_skip (congrArg some hb11) (sq_skip (congrArg some hb11) (sq_skip (congrArg some hb11) (sq_end ?_)))))))))
      intro σ30 hm31
      replace H := H.grow (hm31.mono fun _ h => h); clear hm31
      refine st_skip (congrArg some hb11) (st (v := (B false)) (rv_pick_f (congrArg B hb11) rfl) (w_end ?_))
      obtain rfl := sj h
      exact ⟨rfl, _, σ30, fr_join ⟨rfl, rfl, rfl, rfl, rfl, rfl, trivial⟩, rfl, H.sel' [0] rfl rfl⟩
    ·clear hj
     have h := h'
     clear h' H
     rintro e a w ⟨rfl, ρ, σ32, rfl, rfl, H⟩
     refine q_then ?_
     refine cd_cond o10 rfl (fun hb33 => ?_) (fun hb33 => ?_)
     ·replace h := bif_t hb33 h
      refine c_skip (q_then (c_seq (c_blk ?_)))
      revert h; refine br fun x34 hx35 h => ?_
      obtain ⟨b37, o38, hi36, -⟩ := (H.own 0 rfl).ix hx35
      have hc39 := ((H.own 0 rfl).at hx35 hi36).int
      revert h; refine br fun x40 hx41 h => ?_
      obtain ⟨b43, o44, hi42, -⟩ := (H.own 0 rfl).ix hx41
      have hc45 := ((H.own 0 rfl).at hx41 hi42).int
      revert h; refine br fun x46 hx47 h => ?_
      obtain ⟨b49, o50, hi48, -⟩ := (H.own 0 rfl).ix hx47
      have Hs := H
      refine rg2 (σ := σ32) (Nm := Unit) 16 [15] [[false], [true]] [[(0, 0)], [(0, 0)], [(0, 0), (1, 1)], [(0, 0), (1, 1)], [(0, 0), (1, 1)], [(0, 0)], [(0, 0)], [(0, 0)], [(0, 0)], [(0, 0)], [(0, 0)], [(0, 0)], [(0, 0)], [(0, 0)], [(0, 0)], [(0, 1)]] 1 [fun _ => fun σm => Hp S0 σ0 σm [Ch.own 0 0 (Sl Ee s7.1 Ef) s7.1] ∧ Md (cov []) σ32 σm, fun _ => fun σm => Hp S0 σ0 σm [Ch.own 0 0 (Sl Ee s7.1 Ef) (s7.1.set s7.2.toNat x34)] ∧ Md (fun i => (cov []) i ∨ (fun b => blk (Sl Ee s7.1 Ef) = some b) i) σ32 σm] [fun _ => (Sl Ee s7.1 Ef), fun _ => (I s7.2), fun _ => (Sl Ee s7.1 Ef), fun _ => (I s7.2), fun _ => (I (w64 (s7.2 - 1))), fun _ => (Sl Ee s7.1 Ef), fun _ => (I s7.2), fun _ => (I (w64 (s7.2 - 1))), fun _ => (pt b37 o38), fun _ => (I x34), fun _ => (Sl Ee s7.1 Ef), fun _ => (I s7.2), fun _ => (pt b43 o44), fun _ => (I x40), fun _ => (pt b49 o50), fun _ => undef] () (by kernel_rfl) (by kernel_rfl) ?_ ?_ ?_
      ·intro σm m0
       exact ⟨H.grow (m0.mono fun _ h => h.elim), m0⟩
      ·refine ac rfl (by
         intro k _nm ρ σm hJ hoff hdep
         have e0 := look_off (N := 49) (hoff 0 rfl) rfl
         exact dp_v (v := (Sl Ee s7.1 Ef)) wn (rv_move e0) rfl hJ) ?_
       refine ac rfl (by
         intro k _nm ρ σm hJ hoff hdep
         have e7 := look_off (N := 49) (hoff 7 rfl) rfl
         exact dp_v (v := (I s7.2)) wn (rv_move e7) rfl hJ) ?_
       refine ac rfl (by
         intro k _nm ρ σm hJ hoff hdep
         have e0 := look_off (N := 49) (hoff 0 rfl) rfl
         exact dp_v (v := (Sl Ee s7.1 Ef)) wn (rv_move e0) rfl hJ) ?_
       refine ac rfl (by
         intro k _nm ρ σm hJ hoff hdep
         have e7 := look_off (N := 49) (hoff 7 rfl) rfl
         exact dp_v (v := (I s7.2)) wn (rv_move e7) rfl hJ) ?_
       refine ac rfl (by
         intro k _nm ρ σm hJ hoff hdep
         have e36 := hdep 3 rfl rfl 36 rfl
         exact dp_v (v := (I (w64 (s7.2 - 1)))) wn (rv_sub (a := s7.2) (b := 1) e36 rfl) rfl hJ) ?_
       refine ac rfl (by
         intro k _nm ρ σm hJ hoff hdep
         have e0 := look_off (N := 49) (hoff 0 rfl) rfl
         exact dp_v (v := (Sl Ee s7.1 Ef)) wn (rv_move e0) rfl hJ) ?_
       refine ac rfl (by
         intro k _nm ρ σm hJ hoff hdep
         have e7 := look_off (N := 49) (hoff 7 rfl) rfl
         exact dp_v (v := (I s7.2)) wn (rv_move e7) rfl hJ) ?_
       refine ac rfl (by
         intro k _nm ρ σm hJ hoff hdep
         have e39 := hdep 6 rfl rfl 39 rfl
         exact dp_v (v := (I (w64 (s7.2 - 1)))) wn (rv_sub (a := s7.2) (b := 1) e39 rfl) rfl hJ) ?_
       refine ac rfl (by
         intro k _nm ρ σm hJ hoff hdep
         have e38 := hdep 5 rfl rfl 38 rfl
         have e40 := hdep 7 rfl rfl 40 rfl
         exact dp_v (v := (pt b37 o38)) wn (rv_ix Tryz.underlying31 ti3 e38 e40 hi36) rfl hJ) ?_
       refine all_cons (by
         refine ⟨?_, ?_⟩
         ·intro _nm ρ σm hJ hoff hdep
          have e41 := hdep 8 rfl rfl 41 rfl
          obtain ⟨H, m⟩ := id hJ
          have hc39 := ((H.own 0 rfl).at hx35 hi36).int
          exact dp_v (v := (I x34)) wn (rv_load1 Tryz.underlying3 rfl e41 hc39) rfl hJ
         trivial) ?_
       refine ac rfl (by
         intro k _nm ρ σm hJ hoff hdep
         have e0 := look_off (N := 49) (hoff 0 rfl) rfl
         exact dp_v (v := (Sl Ee s7.1 Ef)) wn (rv_move e0) rfl hJ) ?_
       refine ac rfl (by
         intro k _nm ρ σm hJ hoff hdep
         have e7 := look_off (N := 49) (hoff 7 rfl) rfl
         exact dp_v (v := (I s7.2)) wn (rv_move e7) rfl hJ) ?_
       refine ac rfl (by
         intro k _nm ρ σm hJ hoff hdep
         have e43 := hdep 10 rfl rfl 43 rfl
         have e44 := hdep 11 rfl rfl 44 rfl
         exact dp_v (v := (pt b43 o44)) wn (rv_ix Tryz.underlying31 ti3 e43 e44 hi42) rfl hJ) ?_
       refine all_cons (by
         refine ⟨?_, ?_⟩
         ·intro _nm ρ σm hJ hoff hdep
          have e45 := hdep 12 rfl rfl 45 rfl
          obtain ⟨H, m⟩ := id hJ
          have hc45 := ((H.own 0 rfl).at hx41 hi42).int
          exact dp_v (v := (I x40)) wn (rv_load1 Tryz.underlying3 rfl e45 hc45) rfl hJ
         trivial) ?_
       refine ac rfl (by
         intro k _nm ρ σm hJ hoff hdep
         have e33 := hdep 0 rfl rfl 33 rfl
         have e34 := hdep 1 rfl rfl 34 rfl
         exact dp_v (v := (pt b49 o50)) wn (rv_ix Tryz.underlying31 ti3 e33 e34 hi48) rfl hJ) ?_
       refine all_cons (by
         refine ⟨?_, ?_⟩
         ·intro _nm ρ σm hJ hoff hdep
          have e47 := hdep 14 rfl rfl 47 rfl
          have e42 := hdep 9 rfl rfl 42 rfl
          obtain ⟨H, m⟩ := id hJ
          refine dp_exS wn rfl (ex_store_own (e' := x34) (vs := [(I x34)]) (k := 0) H (i := 0) rfl ti3 hx47 hi48 e47 rfl e42 rfl rfl (Nat.le_of_ble_eq_true rfl) (by simp [plain]) (by rintro _ rfl; exact rfl)) ?_
          rintro σq ⟨H2, m2⟩
          exact ⟨_, (), rfl, ⟨H2.sel' [0] rfl rfl, m.comp m2⟩, stab [0, 1, 2, 3, 4, 5, 6, 7, 8, 9, 10, 11, 12, 13, 14] (by kernel_rfl) ⟨rfl, rfl, rfl, rfl, rfl, rfl, rfl, rfl, rfl, rfl, rfl, rfl, rfl, rfl, rfl, trivial⟩⟩
         trivial) ?_
       exact all_nil
      ·intro _nm ρ σ51 hJ hoff hrel
       have e0 := look_off (N := 49) (hoff 0 rfl) rfl
       have e1 := look_off (N := 49) (hoff 1 rfl) rfl
       have e2 := look_off (N := 49) (hoff 2 rfl) rfl
       have e6 := look_off (N := 49) (hoff 6 rfl) rfl
       have e7 := look_off (N := 49) (hoff 7 rfl) rfl
       have e35 := hrel 2 rfl 35 rfl
       have e37 := hrel 4 rfl 37 rfl
       have e46 := hrel 13 rfl 46 rfl
       obtain ⟨H, -⟩ := (show Hp S0 σ0 σ51 [Ch.own 0 0 (Sl Ee s7.1 Ef) (s7.1.set s7.2.toNat x34)] ∧ Md (fun i => (cov []) i ∨ (fun b => blk (Sl Ee s7.1 Ef) = some b) i) σ32 σ51 from hJ)
       clear hJ Hs
       rw [fr_lookL (L := [(0, (Sl Ee s7.1 Ef)), (1, (I Bk)), (2, (I Bl)), (6, (I s2.2)), (7, (I s7.2)), (35, (Sl Ee s7.1 Ef)), (37, (I (w64 (s7.2 - 1)))), (46, (I x40))]) ⟨e0, e1, e2, e6, e7, e35, e37, e46, trivial⟩]
       clear hoff hrel e0 e1 e2 e6 e7 e35 e37 e46
       have hsl : (Sl Ee s7.1 Ef) = (Sl Ee (s7.1.set s7.2.toNat x34) Ef) := sl_len (by simp)
       rw [hsl]; rw [hsl] at H; clear hsl
       revert h; refine br fun x52 hx53 h => ?_
       obtain ⟨b55, o56, hi54, -⟩ := (H.own 0 rfl).ix hx53
       refine st (v := (pt b55 o56)) (rv_ix Tryz.underlying31 ti3 rfl rfl hi54) ?_
       refine st_exS (ex_store_own (e' := x40) (vs := [(I x40)]) (k := 0) H (i := 0) rfl ti3 hx53 hi54 rfl rfl rfl rfl rfl (Nat.le_of_ble_eq_true rfl) (by simp [plain]) (by rintro _ rfl; exact rfl)) wn ?_
       rintro σ57 ⟨H, -⟩
       have hsl : (Sl Ee (s7.1.set s7.2.toNat x34) Ef) = (Sl Ee ((s7.1.set s7.2.toNat x34).set (w64 (s7.2 - 1)).toNat x40) Ef) := sl_len List.length_set.symm
       rw [hsl]; rw [hsl] at H; clear hsl
       refine w_end (q_blk (q_then (rg (sm (I s7.2) rfl (st (v := (I (w64 (s7.2 - 1)))) (rv_sub (a := s7.2) (b := 1) rfl rfl) (sa (I (w64 (s7.2 - 1))) rfl (w_end (q_then ?_))))))))
       obtain rfl := sj h
       exact ⟨_, rfl, _, σ57, fr_join ⟨rfl, rfl, rfl, rfl, rfl, trivial⟩, rfl, H.sel' [0] rfl rfl, ((List.length_set.trans (List.length_set.trans (hn9.trans hn4))).trans hn4.symm)⟩
     ·replace h := bif_f hb33 h
      refine c_exit (q_then_x (q_then_x (q_blk_hit ?_)))
      obtain rfl := sj h
      obtain rfl := hres _ rfl
      exact ⟨rfl, _, σ32, fr_join ⟨rfl, rfl, rfl, rfl, trivial⟩, rfl, H.sel' [0] rfl rfl, ((hn9.trans hn4).trans hn4.symm)⟩
   ·clear hj
    have h := h'
    clear h' H
    rintro e a w ⟨rfl, ρ, σ58, rfl, rfl, H, hn59⟩
    refine q_blk (q_then (rg (sm (I s2.2) rfl (st (v := (I (w64 (s2.2 + 1)))) (rv_add (a := s2.2) (b := 1) rfl rfl) (sa (I (w64 (s2.2 + 1))) rfl (w_end (q_then ?_)))))))
    obtain rfl := sj h
    exact ⟨_, rfl, _, σ58, fr_join ⟨rfl, rfl, rfl, rfl, trivial⟩, rfl, H.sel' [0] rfl rfl, (hn59.trans hn4)⟩
  ·replace h := bif_f hb5 h
   refine c_exit (q_then_x (q_then_x (q_blk_hit ?_)))
   obtain rfl := sj h
   obtain rfl := hres _ rfl
   exact ⟨rfl, _, σ3, fr_join ⟨rfl, trivial⟩, rfl, H.sel' [0] rfl rfl, hn4⟩
 ·clear hj
  have h := h'
  clear h' H
  rintro e a w ⟨rfl, ρ, σ60, rfl, rfl, H, hn61⟩
  obtain rfl := sj h
  exact fin_end (v := (.tuple #[])) (results_ok Tryz.results100 res_nil rfl) ⟨rfl, rfl, hn61⟩ (H.sel' [0] rfl rfl)

theorem c_slices_siftDownOrdered_int {Ed : List Int} {Eg : Int} {Eh : Int} {Ei : Int} {Ee : Option Addr} {Ef : Nat} {r : (List Int)} (h : M.slices_siftDownOrdered_int Ed Eg Eh Ei = some r) :
    Cal2 Tryz.prog 117 [(Sl Ee Ed Ef), (I Eg), (I Eh), (I Ei)] [Ch.own 0 0 (Sl Ee Ed Ef) Ed] (fun n0 v L => v = (.tuple #[]) ∧ L = [Ch.own 0 0 (Sl Ee r Ef) r] ∧ r.length = Ed.length) := by
 refine cal2 (n := 76) Tryz.func117 rfl rfl rfl rfl ?_
 intro S0 σ0 n0 hn0 H
 unfold M.slices_siftDownOrdered_int at h
 refine c_seq (rg (sm (I Eg) rfl (sa (I Eg) rfl (w_end (q_then ?_)))))
 obtain ⟨o1, hj, h'⟩ := bind_some h
 clear h
 refine c_cut (fun e a w => (∃ t, o1 = (.inl t) ∧ e = .normal ∧ ∃ (ρ : Nat → Value) (σ : St), a = fr 76 (updL ρ [(0, (Sl Ee t Ef))]) ∧ w = σ.w ∧ Hp S0 σ0 σ [Ch.own 0 0 (Sl Ee t Ef) t] ∧ t.length = Ed.length) ∨ (∃ t, o1 = (.inr t) ∧ e = .ret ∧ ∃ (ρ : Nat → Value) (σ : St), a = fr 76 (updL ρ [(0, (Sl Ee t Ef))]) ∧ w = σ.w ∧ Hp S0 σ0 σ [Ch.own 0 0 (Sl Ee t Ef) t] ∧ t.length = Ed.length)) ?_ ?_
 ·clear h'
  rename _ = some o1 => h
  refine c_blk (wp_loopM _ h (fun s2 a w => ∃ (ρ : Nat → Value) (σ : St), a = fr 76 (updL ρ [(0, (Sl Ee s2.1 Ef)), (2, (I Eh)), (3, (I Ei)), (8, (I s2.2))]) ∧ w = σ.w ∧ Hp S0 σ0 σ [Ch.own 0 0 (Sl Ee s2.1 Ef) s2.1] ∧ s2.1.length = Ed.length) ⟨_, σ0, fr_join ⟨rfl, rfl, rfl, rfl, trivial⟩, rfl, H.sel' [0] rfl rfl, rfl⟩ ?_)
  clear h H
  rintro s2 a w o ⟨ρ, σ3, rfl, rfl, H, hn4⟩ h hres
  refine c_blk (c_seq (rg (sm (I s2.2) rfl (st (v := (I (w64 (2 * s2.2)))) (rv_mul (a := 2) (b := s2.2) rfl rfl) (st (v := (I (w64 ((w64 (2 * s2.2)) + 1)))) (rv_add (a := (w64 (2 * s2.2))) (b := 1) rfl rfl) (sa (I (w64 ((w64 (2 * s2.2)) + 1))) rfl (w_end (q_then (c_seq (c_seq (rg ?_)))))))))))
  refine sm (I (w64 ((w64 (2 * s2.2)) + 1))) rfl (sm (I Eh) rfl (st (v := (B (decide (Eh ≤ (w64 ((w64 (2 * s2.2)) + 1)))))) (rv_geq (a := (w64 ((w64 (2 * s2.2)) + 1))) (b := Eh) rfl rfl) (w_end (q_then ?_))))
  refine cd_cond (decide (Eh ≤ (w64 ((w64 (2 * s2.2)) + 1)))) rfl (fun hb5 => ?_) (fun hb5 => ?_)
  ·replace h := bif_t hb5 h
   refine c_exit (q_then_x ?_)
   refine q_blk_x (by decide) ?_
   refine q_then_x (q_blk_hit ?_)
   obtain rfl := sj h
   obtain rfl := hres _ rfl
   exact .inl ⟨_, rfl, rfl, _, σ3, fr_join ⟨rfl, trivial⟩, rfl, H.sel' [0] rfl rfl, hn4⟩
  ·replace h := bif_f hb5 h
   refine c_skip (q_then (c_seq (c_seq ?_)))
   obtain ⟨o6, hj, h'⟩ := bind_some h
   clear h
   refine c_cut (fun e a w => e = .normal ∧ ∃ (ρ : Nat → Value) (σ : St), a = fr 76 (updL ρ [(0, (Sl Ee s2.1 Ef)), (2, (I Eh)), (3, (I Ei)), (8, (I s2.2)), (9, (I (w64 ((w64 (2 * s2.2)) + 1)))), (36, (B o6))]) ∧ w = σ.w ∧ Hp S0 σ0 σ [Ch.own 0 0 (Sl Ee s2.1 Ef) s2.1]) ?_ ?_
   ·clear h'
    rename _ = some o6 => h
    refine rgP (σ := σ3) 18 (by kernel_rfl) (by kernel_rfl) (by kernel_rfl) ?_
    refine sq (v := (I (w64 ((w64 (2 * s2.2)) + 1)))) (rv_move rfl) (sq (v := (I (w64 ((w64 ((w64 (2 * s2.2)) + 1)) + 1)))) (rv_add (a := (w64 ((w64 (2 * s2.2)) + 1))) (b := 1) rfl rfl) (sq (v := (I Eh)) (rv_move rfl) (sq (v := (B (decide ((w64 ((w64 ((w64 (2 * s2.2)) + 1)) + 1)) < Eh)))) (rv_lss (a := (w64 ((w64 ((w64 (2 * s2.2)) + 1)) + 1))) (b := Eh) rfl rfl) (sq (v := (B (decide ((w64 ((w64 ((w64 (2 * s2.2)) + 1)) + 1)) < Eh)))) (rv_move rfl) ?_))))
    rcases Bool.eq_false_or_eq_true (decide ((w64 ((w64 ((w64 (2 * s2.2)) + 1)) + 1)) < Eh)) with hb7 | hb7
    ·replace h := bif_t hb7 h
     refine sq_g (v := (Sl Ee s2.1 Ef)) (congrArg some hb7) (rv_move rfl) (sq_g (v := (I Ei)) (congrArg some hb7) (rv_move rfl) (sq_g (v := (I (w64 ((w64 (2 * s2.2)) + 1)))) (congrArg some hb7) (rv_move rfl) (sq_g (v := (I (w64 (Ei + (w64 ((w64 (2 * s2.2)) + 1)))))) (congrArg some hb7) (rv_add (a := Ei) (b := (w64 ((w64 (2 * s2.2)) + 1))) rfl rfl) ?_)))
     revert h; refine br fun x8 hx9 h => ?_
     obtain ⟨b11, o12, hi10, -⟩ := (H.own 0 rfl).ix hx9
     refine sq_g (v := (pt b11 o12)) (congrArg some hb7) (rv_ix Tryz.underlying31 ti3 rfl rfl hi10) ?_
     have hc13 := ((H.own 0 rfl).at hx9 hi10).int
     refine sq_g (v := (I x8)) (congrArg some hb7) (rv_load1 Tryz.underlying3 rfl rfl hc13) (sq_g (v := (Sl Ee s2.1 Ef)) (congrArg some hb7) (rv_move rfl) (sq_g (v := (I Ei)) (congrArg some hb7) (rv_move rfl) (sq_g (v := (I (w64 ((w64 (2 * s2.2)) + 1)))) (congrArg some hb7) (rv_move rfl) (sq_g (v := (I (w64 (Ei + (w64 ((w64 (2 * s2.2)) + 1)))))) (congrArg some hb7) (rv_add (a := Ei) (b := (w64 ((w64 (2 * s2.2)) + 1))) rfl rfl) (sq_g (v := (I (w64 ((w64 (Ei + (w64 ((w64 (2 * s2.2)) + 1)))) + 1)))) (congrArg some hb7) (rv_add (a := (w64 (Ei + (w64 ((w64 (2 * s2.2)) + 1))))) (b := 1) rfl rfl) ?_)))))
     revert h; refine br fun x14 hx15 h => ?_
     obtain ⟨b17, o18, hi16, -⟩ := (H.own 0 rfl).ix hx15
     refine sq_g (v := (pt b17 o18)) (congrArg some hb7) (rv_ix Tryz.underlying31 ti3 rfl rfl hi16) ?_
     have hc19 := ((H.own 0 rfl).at hx15 hi16).int
     refine sq_g (v := (I x14)) (congrArg some hb7) (rv_load1 Tryz.underlying3 rfl rfl hc19) (sq_end ?_)
     intro σ20 hm21
     replace H := H.grow (hm21.mono fun _ h => h); clear hm21
     revert h; refine br fun r22 hx23 h => ?_
     have hc24 := c_cmp_Less_int hx23
     refine st_call (cx_call hc24 (ent_f hc24.fn rfl) hn0 (H.sel' [0] rfl rfl : Hp S0 σ0 _ ([] ++ _))) (wanted_yes rfl (by exact (congrArg some hb7))) ?_
     rintro _ σ25 ⟨_, ⟨rfl, rfl⟩, H, -⟩
     replace H : Hp _ _ _ [_] := H
     refine st (v := (B r22)) (rv_pick_t (congrArg B hb7) rfl) (w_end ?_)
     obtain rfl := sj h
     exact ⟨rfl, _, σ25, fr_join ⟨rfl, rfl, rfl, rfl, rfl, rfl, trivial⟩, rfl, H.sel' [0] rfl rfl⟩
    ·replace h := bif_f hb7 h
     refine sq_skip (congrArg some hb7) (sq_skip (congrArg some hb7) (sq_skip (congrArg some hb7) (sq_skip (congrArg some hb7) (sq_skip (congrArg some hb7) (sq_skip (congrArg some hb7) (sq_skip (congrArg some hb7) (sq_skip (congrArg some hb7) (sq_skip (congrArg some hb7) (sq_skip (congrArg some hb7) (sq_skip (congrArg some hb7) (sq_skip (congrArg some hb7) ?_)))))))))))
     refine sq_skip (congrArg some hb7) (sq_end ?_)
     intro σ26 hm27
     replace H := H.grow (hm27.mono fun _ h => h); clear hm27
     refine st_skip (congrArg some hb7) (st (v := (B false)) (rv_pick_f (congrArg B hb7) rfl) (w_end ?_))
     obtain rfl := sj h
     exact ⟨rfl, _, σ26, fr_join ⟨rfl, rfl, rfl, rfl, rfl, rfl, trivial⟩, rfl, H.sel' [0] rfl rfl⟩
   ·clear hj
    have h := h'
    clear h' H
    rintro e a w ⟨rfl, ρ, σ28, rfl, rfl, H⟩
    refine q_then ?_
    obtain ⟨o29, hj, h'⟩ := bind_some h
    clear h
    refine c_cut (fun e a w => e = .normal ∧ ∃ (ρ : Nat → Value) (σ : St), a = fr 76 (updL ρ [(0, (Sl Ee s2.1 Ef)), (2, (I Eh)), (3, (I Ei)), (8, (I s2.2)), (9, (I o29))]) ∧ w = σ.w ∧ Hp S0 σ0 σ [Ch.own 0 0 (Sl Ee s2.1 Ef) s2.1]) ?_ ?_
    ·clear h'
     rename _ = some o29 => h
     refine cd_cond o6 rfl (fun hb30 => ?_) (fun hb30 => ?_)
     ·replace h := bif_t hb30 h
      refine rg (sm (I (w64 ((w64 (2 * s2.2)) + 1))) rfl (st (v := (I (w64 ((w64 ((w64 (2 * s2.2)) + 1)) + 1)))) (rv_add (a := (w64 ((w64 (2 * s2.2)) + 1))) (b := 1) rfl rfl) (sa (I (w64 ((w64 ((w64 (2 * s2.2)) + 1)) + 1))) rfl (w_end ?_))))
      obtain rfl := sj h
      exact ⟨rfl, _, σ28, fr_join ⟨rfl, rfl, rfl, rfl, rfl, trivial⟩, rfl, H.sel' [0] rfl rfl⟩
     ·replace h := bif_f hb30 h
      refine c_skip ?_
      obtain rfl := sj h
      exact ⟨rfl, _, σ28, fr_join ⟨rfl, rfl, rfl, rfl, rfl, trivial⟩, rfl, H.sel' [0] rfl rfl⟩
    ·clear hj
     have h := h'
     clear h' H
     rintro e a w ⟨rfl, ρ, σ31, rfl, rfl, H⟩
     refine q_then (c_seq (c_seq ?_))
     refine rgP (σ := σ31) 12 (by kernel_rfl) (by kernel_rfl) (by kernel_rfl) ?_
     refine sq (v := (Sl Ee s2.1 Ef)) (rv_move rfl) (sq (v := (I Ei)) (rv_move rfl) (sq (v := (I s2.2)) (rv_move rfl) (sq (v := (I (w64 (Ei + s2.2)))) (rv_add (a := Ei) (b := s2.2) rfl rfl) ?_)))
     revert h; refine br fun x32 hx33 h => ?_
     obtain ⟨b35, o36, hi34, -⟩ := (H.own 0 rfl).ix hx33
     refine sq (v := (pt b35 o36)) (rv_ix Tryz.underlying31 ti3 rfl rfl hi34) ?_
     have hc37 := ((H.own 0 rfl).at hx33 hi34).int
     refine sq (v := (I x32)) (rv_load1 Tryz.underlying3 rfl rfl hc37) (sq (v := (Sl Ee s2.1 Ef)) (rv_move rfl) (sq (v := (I Ei)) (rv_move rfl) (sq (v := (I o29)) (rv_move rfl) (sq (v := (I (w64 (Ei + o29)))) (rv_add (a := Ei) (b := o29) rfl rfl) ?_))))
     revert h; refine br fun x38 hx39 h => ?_
     obtain ⟨b41, o42, hi40, -⟩ := (H.own 0 rfl).ix hx39
     refine sq (v := (pt b41 o42)) (rv_ix Tryz.underlying31 ti3 rfl rfl hi40) ?_
     have hc43 := ((H.own 0 rfl).at hx39 hi40).int
     refine sq (v := (I x38)) (rv_load1 Tryz.underlying3 rfl rfl hc43) (sq_end ?_)
     intro σ44 hm45
     replace H := H.grow (hm45.mono fun _ h => h); clear hm45
     revert h; refine br fun r46 hx47 h => ?_
     have hc48 := c_cmp_Less_int hx47
     refine st_call (cx_call hc48 (ent_f hc48.fn rfl) hn0 (H.sel' [0] rfl rfl : Hp S0 σ0 _ ([] ++ _))) wn ?_
     rintro _ σ49 ⟨_, ⟨rfl, rfl⟩, H, -⟩
     replace H : Hp _ _ _ [_] := H
     refine st (v := (B (!r46))) (rv_not rfl) (w_end (q_then ?_))
     refine cd_cond (!r46) rfl (fun hb50 => ?_) (fun hb50 => ?_)
     ·replace h := bif_t hb50 h
      refine c_ret (q_then_r (q_blk_r (q_then_r (q_blk_r ?_))))
      obtain rfl := sj h
      obtain rfl := hres _ rfl
      exact .inr (⟨_, rfl, rfl, _, σ49, fr_join ⟨rfl, trivial⟩, rfl, H.sel' [0] rfl rfl, hn4⟩)
     ·replace h := bif_f hb50 h
      refine c_skip (q_then (c_seq ?_))
      revert h; refine br fun x51 hx52 h => ?_
      obtain ⟨b54, o55, hi53, -⟩ := (H.own 0 rfl).ix hx52
      have hc56 := ((H.own 0 rfl).at hx52 hi53).int
      revert h; refine br fun x57 hx58 h => ?_
      obtain ⟨b60, o61, hi59, -⟩ := (H.own 0 rfl).ix hx58
      have hc62 := ((H.own 0 rfl).at hx58 hi59).int
      revert h; refine br fun x63 hx64 h => ?_
      obtain ⟨b66, o67, hi65, -⟩ := (H.own 0 rfl).ix hx64
      have Hs := H
      refine rg2 (σ := σ49) (Nm := Unit) 22 [21] [[false], [true]] [[(0, 0)], [(0, 0)], [(0, 0)], [(0, 0)], [(0, 0), (1, 1)], [(0, 0), (1, 1)], [(0, 0), (1, 1)], [(0, 0), (1, 1)], [(0, 0)], [(0, 0)], [(0, 0)], [(0, 0)], [(0, 0)], [(0, 0)], [(0, 0)], [(0, 0)], [(0, 0)], [(0, 0)], [(0, 0)], [(0, 0)], [(0, 0)], [(0, 1)]] 1 [fun _ => fun σm => Hp S0 σ0 σm [Ch.own 0 0 (Sl Ee s2.1 Ef) s2.1] ∧ Md (cov []) σ49 σm, fun _ => fun σm => Hp S0 σ0 σm [Ch.own 0 0 (Sl Ee s2.1 Ef) (s2.1.set (w64 (Ei + s2.2)).toNat x51)] ∧ Md (fun i => (cov []) i ∨ (fun b => blk (Sl Ee s2.1 Ef) = some b) i) σ49 σm] [fun _ => (Sl Ee s2.1 Ef), fun _ => (I Ei), fun _ => (I s2.2), fun _ => (I (w64 (Ei + s2.2))), fun _ => (Sl Ee s2.1 Ef), fun _ => (I Ei), fun _ => (I o29), fun _ => (I (w64 (Ei + o29))), fun _ => (Sl Ee s2.1 Ef), fun _ => (I Ei), fun _ => (I o29), fun _ => (I (w64 (Ei + o29))), fun _ => (pt b54 o55), fun _ => (I x51), fun _ => (Sl Ee s2.1 Ef), fun _ => (I Ei), fun _ => (I s2.2), fun _ => (I (w64 (Ei + s2.2))), fun _ => (pt b60 o61), fun _ => (I x57), fun _ => (pt b66 o67), fun _ => undef] () (by kernel_rfl) (by kernel_rfl) ?_ ?_ ?_
      ·intro σm m0
       exact ⟨H.grow (m0.mono fun _ h => h.elim), m0⟩
      ·refine ac rfl (by
         intro k _nm ρ σm hJ hoff hdep
         have e0 := look_off (N := 76) (hoff 0 rfl) rfl
         exact dp_v (v := (Sl Ee s2.1 Ef)) wn (rv_move e0) rfl hJ) ?_
       refine ac rfl (by
         intro k _nm ρ σm hJ hoff hdep
         have e3 := look_off (N := 76) (hoff 3 rfl) rfl
         exact dp_v (v := (I Ei)) wn (rv_move e3) rfl hJ) ?_
       refine ac rfl (by
         intro k _nm ρ σm hJ hoff hdep
         have e8 := look_off (N := 76) (hoff 8 rfl) rfl
         exact dp_v (v := (I s2.2)) wn (rv_move e8) rfl hJ) ?_
       refine ac rfl (by
         intro k _nm ρ σm hJ hoff hdep
         have e54 := hdep 1 rfl rfl 54 rfl
         have e55 := hdep 2 rfl rfl 55 rfl
         exact dp_v (v := (I (w64 (Ei + s2.2)))) wn (rv_add (a := Ei) (b := s2.2) e54 e55) rfl hJ) ?_
       refine ac rfl (by
         intro k _nm ρ σm hJ hoff hdep
         have e0 := look_off (N := 76) (hoff 0 rfl) rfl
         exact dp_v (v := (Sl Ee s2.1 Ef)) wn (rv_move e0) rfl hJ) ?_
       refine ac rfl (by
         intro k _nm ρ σm hJ hoff hdep
         have e3 := look_off (N := 76) (hoff 3 rfl) rfl
         exact dp_v (v := (I Ei)) wn (rv_move e3) rfl hJ) ?_
       refine ac rfl (by
         intro k _nm ρ σm hJ hoff hdep
         have e9 := look_off (N := 76) (hoff 9 rfl) rfl
         exact dp_v (v := (I o29)) wn (rv_move e9) rfl hJ) ?_
       refine ac rfl (by
         intro k _nm ρ σm hJ hoff hdep
         have e58 := hdep 5 rfl rfl 58 rfl
         have e59 := hdep 6 rfl rfl 59 rfl
         exact dp_v (v := (I (w64 (Ei + o29)))) wn (rv_add (a := Ei) (b := o29) e58 e59) rfl hJ) ?_
       refine ac rfl (by
         intro k _nm ρ σm hJ hoff hdep
         have e0 := look_off (N := 76) (hoff 0 rfl) rfl
         exact dp_v (v := (Sl Ee s2.1 Ef)) wn (rv_move e0) rfl hJ) ?_
       refine ac rfl (by
         intro k _nm ρ σm hJ hoff hdep
         have e3 := look_off (N := 76) (hoff 3 rfl) rfl
         exact dp_v (v := (I Ei)) wn (rv_move e3) rfl hJ) ?_
       refine ac rfl (by
         intro k _nm ρ σm hJ hoff hdep
         have e9 := look_off (N := 76) (hoff 9 rfl) rfl
         exact dp_v (v := (I o29)) wn (rv_move e9) rfl hJ) ?_
       refine ac rfl (by
         intro k _nm ρ σm hJ hoff hdep
         have e62 := hdep 9 rfl rfl 62 rfl
         have e63 := hdep 10 rfl rfl 63 rfl
         exact dp_v (v := (I (w64 (Ei + o29)))) wn (rv_add (a := Ei) (b := o29) e62 e63) rfl hJ) ?_
       refine ac rfl (by
         intro k _nm ρ σm hJ hoff hdep
         have e61 := hdep 8 rfl rfl 61 rfl
         have e64 := hdep 11 rfl rfl 64 rfl
         exact dp_v (v := (pt b54 o55)) wn (rv_ix Tryz.underlying31 ti3 e61 e64 hi53) rfl hJ) ?_
       refine all_cons (by
         refine ⟨?_, ?_⟩
         ·intro _nm ρ σm hJ hoff hdep
          have e65 := hdep 12 rfl rfl 65 rfl
          obtain ⟨H, m⟩ := id hJ
          have hc56 := ((H.own 0 rfl).at hx52 hi53).int
          exact dp_v (v := (I x51)) wn (rv_load1 Tryz.underlying3 rfl e65 hc56) rfl hJ
         trivial) ?_
       refine ac rfl (by
         intro k _nm ρ σm hJ hoff hdep
         have e0 := look_off (N := 76) (hoff 0 rfl) rfl
         exact dp_v (v := (Sl Ee s2.1 Ef)) wn (rv_move e0) rfl hJ) ?_
       refine ac rfl (by
         intro k _nm ρ σm hJ hoff hdep
         have e3 := look_off (N := 76) (hoff 3 rfl) rfl
         exact dp_v (v := (I Ei)) wn (rv_move e3) rfl hJ) ?_
       refine ac rfl (by
         intro k _nm ρ σm hJ hoff hdep
         have e8 := look_off (N := 76) (hoff 8 rfl) rfl
         exact dp_v (v := (I s2.2)) wn (rv_move e8) rfl hJ) ?_
       refine ac rfl (by
         intro k _nm ρ σm hJ hoff hdep
         have e68 := hdep 15 rfl rfl 68 rfl
         have e69 := hdep 16 rfl rfl 69 rfl
         exact dp_v (v := (I (w64 (Ei + s2.2)))) wn (rv_add (a := Ei) (b := s2.2) e68 e69) rfl hJ) ?_
       refine ac rfl (by
         intro k _nm ρ σm hJ hoff hdep
         have e67 := hdep 14 rfl rfl 67 rfl
         have e70 := hdep 17 rfl rfl 70 rfl
         exact dp_v (v := (pt b60 o61)) wn (rv_ix Tryz.underlying31 ti3 e67 e70 hi59) rfl hJ) ?_
       refine all_cons (by
         refine ⟨?_, ?_⟩
         ·intro _nm ρ σm hJ hoff hdep
          have e71 := hdep 18 rfl rfl 71 rfl
          obtain ⟨H, m⟩ := id hJ
          have hc62 := ((H.own 0 rfl).at hx58 hi59).int
          exact dp_v (v := (I x57)) wn (rv_load1 Tryz.underlying3 rfl e71 hc62) rfl hJ
         trivial) ?_
       refine ac rfl (by
         intro k _nm ρ σm hJ hoff hdep
         have e53 := hdep 0 rfl rfl 53 rfl
         have e56 := hdep 3 rfl rfl 56 rfl
         exact dp_v (v := (pt b66 o67)) wn (rv_ix Tryz.underlying31 ti3 e53 e56 hi65) rfl hJ) ?_
       refine all_cons (by
         refine ⟨?_, ?_⟩
         ·intro _nm ρ σm hJ hoff hdep
          have e73 := hdep 20 rfl rfl 73 rfl
          have e66 := hdep 13 rfl rfl 66 rfl
          obtain ⟨H, m⟩ := id hJ
          refine dp_exS wn rfl (ex_store_own (e' := x51) (vs := [(I x51)]) (k := 0) H (i := 0) rfl ti3 hx64 hi65 e73 rfl e66 rfl rfl (Nat.le_of_ble_eq_true rfl) (by simp [plain]) (by rintro _ rfl; exact rfl)) ?_
          rintro σq ⟨H2, m2⟩
          exact ⟨_, (), rfl, ⟨H2.sel' [0] rfl rfl, m.comp m2⟩, stab [0, 1, 2, 3, 4, 5, 6, 7, 8, 9, 10, 11, 12, 13, 14, 15, 16, 17, 18, 19, 20] (by kernel_rfl) ⟨rfl, rfl, rfl, rfl, rfl, rfl, rfl, rfl, rfl, rfl, rfl, rfl, rfl, rfl, rfl, rfl, rfl, rfl, rfl, rfl, rfl, trivial⟩⟩
         trivial) ?_
       exact all_nil
      ·intro _nm ρ σ68 hJ hoff hrel
       have e0 := look_off (N := 76) (hoff 0 rfl) rfl
       have e2 := look_off (N := 76) (hoff 2 rfl) rfl
       have e3 := look_off (N := 76) (hoff 3 rfl) rfl
       have e9 := look_off (N := 76) (hoff 9 rfl) rfl
       have e57 := hrel 4 rfl 57 rfl
       have e60 := hrel 7 rfl 60 rfl
       have e72 := hrel 19 rfl 72 rfl
       obtain ⟨H, -⟩ := (show Hp S0 σ0 σ68 [Ch.own 0 0 (Sl Ee s2.1 Ef) (s2.1.set (w64 (Ei + s2.2)).toNat x51)] ∧ Md (fun i => (cov []) i ∨ (fun b => blk (Sl Ee s2.1 Ef) = some b) i) σ49 σ68 from hJ)
       clear hJ Hs
       rw [fr_lookL (L := [(0, (Sl Ee s2.1 Ef)), (2, (I Eh)), (3, (I Ei)), (9, (I o29)), (57, (Sl Ee s2.1 Ef)), (60, (I (w64 (Ei + o29)))), (72, (I x57))]) ⟨e0, e2, e3, e9, e57, e60, e72, trivial⟩]
       clear hoff hrel e0 e2 e3 e9 e57 e60 e72
       have hsl : (Sl Ee s2.1 Ef) = (Sl Ee (s2.1.set (w64 (Ei + s2.2)).toNat x51) Ef) := sl_len (by simp)
       rw [hsl]; rw [hsl] at H; clear hsl
       revert h; refine br fun x69 hx70 h => ?_
       obtain ⟨b72, o73, hi71, -⟩ := (H.own 0 rfl).ix hx70
       refine st (v := (pt b72 o73)) (rv_ix Tryz.underlying31 ti3 rfl rfl hi71) ?_
       refine st_exS (ex_store_own (e' := x57) (vs := [(I x57)]) (k := 0) H (i := 0) rfl ti3 hx70 hi71 rfl rfl rfl rfl rfl (Nat.le_of_ble_eq_true rfl) (by simp [plain]) (by rintro _ rfl; exact rfl)) wn ?_
       rintro σ74 ⟨H, -⟩
       have hsl : (Sl Ee (s2.1.set (w64 (Ei + s2.2)).toNat x51) Ef) = (Sl Ee ((s2.1.set (w64 (Ei + s2.2)).toNat x51).set (w64 (Ei + o29)).toNat x57) Ef) := sl_len List.length_set.symm
       rw [hsl]; rw [hsl] at H; clear hsl
       refine w_end (q_then (rg (sm (I o29) rfl (sa (I o29) rfl (w_end (q_blk (q_then ?_)))))))
       obtain rfl := sj h
       exact ⟨_, rfl, _, σ74, fr_join ⟨rfl, rfl, rfl, rfl, trivial⟩, rfl, H.sel' [0] rfl rfl, (List.length_set.trans (List.length_set.trans hn4))⟩
 ·clear hj
  have h := h'
  clear h' H
  rintro e a w (⟨t75, rfl, rfl, ρ, σ76, rfl, rfl, H, hn77⟩ | ⟨t78, rfl, rfl, ρ, σ79, rfl, rfl, H, hn80⟩)
  ·replace h := selim_l h
   obtain rfl := sj h
   exact fin_end (v := (.tuple #[])) (results_ok Tryz.results117 res_nil rfl) ⟨rfl, rfl, hn77⟩ (H.sel' [0] rfl rfl)
  ·replace h := selim_r h
   obtain rfl := sj h
   exact fin_ret (v := (.tuple #[])) (results_ok Tryz.results117 res_nil rfl) ⟨rfl, rfl, hn80⟩ (H.sel' [0] rfl rfl)

theorem c_slices_heapSortOrdered_int {Ed : List Int} {Bk : Int} {Bl : Int} {Ee : Option Addr} {Ef : Nat} {r : (List Int)} (h : M.slices_heapSortOrdered_int Ed Bk Bl = some r) :
    Cal2 Tryz.prog 101 [(Sl Ee Ed Ef), (I Bk), (I Bl)] [Ch.own 0 0 (Sl Ee Ed Ef) Ed] (fun n0 v L => v = (.tuple #[]) ∧ L = [Ch.own 0 0 (Sl Ee r Ef) r] ∧ r.length = Ed.length) := by
 refine cal2 (n := 56) Tryz.func101 rfl rfl rfl rfl ?_
 intro S0 σ0 n0 hn0 H
 unfold M.slices_heapSortOrdered_int at h
 refine c_seq (rg (sm (I Bk) rfl (sa (I Bk) rfl (w_end (q_then (c_seq (rg (sa (I 0) rfl (w_end (q_then (c_seq ?_)))))))))))
 refine rg (sm (I Bl) rfl (sm (I Bk) rfl (st (v := (I (w64 (Bl - Bk)))) (rv_sub (a := Bl) (b := Bk) rfl rfl) (sa (I (w64 (Bl - Bk))) rfl (w_end (q_then (c_seq (c_seq (rg (sm (I (w64 (Bl - Bk))) rfl (st (v := (I (w64 ((w64 (Bl - Bk)) - 1)))) (rv_sub (a := (w64 (Bl - Bk))) (b := 1) rfl rfl) ?_)))))))))))
 refine st (v := (I (w64 ((w64 ((w64 (Bl - Bk)) - 1)).tdiv 2)))) (rv_quo (a := (w64 ((w64 (Bl - Bk)) - 1))) (b := 2) rfl rfl (by decide)) ?_
 refine sa (I (w64 ((w64 ((w64 (Bl - Bk)) - 1)).tdiv 2))) rfl (w_end (q_then ?_))
 obtain ⟨o1, hj, h'⟩ := bind_some h
 clear h
 refine c_cut (fun e a w => e = .normal ∧ ∃ (ρ : Nat → Value) (σ : St), a = fr 56 (updL ρ [(0, (Sl Ee o1 Ef)), (6, (I Bk)), (7, (I 0)), (8, (I (w64 (Bl - Bk))))]) ∧ w = σ.w ∧ Hp S0 σ0 σ [Ch.own 0 0 (Sl Ee o1 Ef) o1] ∧ o1.length = Ed.length) ?_ ?_
 ·clear h'
  rename _ = some o1 => h
  refine c_blk (wp_loopM _ h (fun s2 a w => ∃ (ρ : Nat → Value) (σ : St), a = fr 56 (updL ρ [(0, (Sl Ee s2.1 Ef)), (6, (I Bk)), (7, (I 0)), (8, (I (w64 (Bl - Bk)))), (9, (I s2.2))]) ∧ w = σ.w ∧ Hp S0 σ0 σ [Ch.own 0 0 (Sl Ee s2.1 Ef) s2.1] ∧ s2.1.length = Ed.length) ⟨_, σ0, fr_join ⟨rfl, rfl, rfl, rfl, rfl, trivial⟩, rfl, H.sel' [0] rfl rfl, rfl⟩ ?_)
  clear h H
  rintro s2 a w o ⟨ρ, σ3, rfl, rfl, H, hn4⟩ h hres
  refine c_seq (c_seq (rg (sm (I s2.2) rfl (st (v := (B (decide (0 ≤ s2.2)))) (rv_geq (a := s2.2) (b := 0) rfl rfl) (w_end (q_then ?_))))))
  refine cd_cond (decide (0 ≤ s2.2)) rfl (fun hb5 => ?_) (fun hb5 => ?_)
  ·replace h := bif_t hb5 h
   refine c_skip (q_then (c_seq (c_blk (rg (sm (Sl Ee s2.1 Ef) rfl (sm (I s2.2) rfl (sm (I (w64 (Bl - Bk))) rfl (sm (I Bk) rfl ?_))))))))
   revert h; refine br fun r6 hx7 h => ?_
   have hc8 := c_slices_siftDownOrdered_int (Ee := Ee) (Ef := Ef) hx7
   refine st_call (cx_call hc8 (ent_f hc8.fn rfl) hn0 (H.sel' [0] rfl rfl : Hp S0 σ0 _ ([_] ++ _))) wn ?_
   rintro _ σ10 ⟨_, ⟨rfl, rfl, hn9⟩, H, -⟩
   replace H : Hp _ _ _ [_] := H
   have hsl : (Sl Ee s2.1 Ef) = (Sl Ee r6 Ef) := sl_len hn9.symm
   try rw [hsl]
   try rw [hsl] at H
   clear hsl
   refine w_end (q_blk (q_then (rg (sm (I s2.2) rfl (st (v := (I (w64 (s2.2 - 1)))) (rv_sub (a := s2.2) (b := 1) rfl rfl) (sa (I (w64 (s2.2 - 1))) rfl (w_end (q_then ?_))))))))
   obtain rfl := sj h
   exact ⟨_, rfl, _, σ10, fr_join ⟨rfl, rfl, rfl, rfl, rfl, trivial⟩, rfl, H.sel' [0] rfl rfl, (hn9.trans hn4)⟩
  ·replace h := bif_f hb5 h
   refine c_exit (q_then_x (q_then_x (q_blk_hit ?_)))
   obtain rfl := sj h
   obtain rfl := hres _ rfl
   exact ⟨rfl, _, σ3, fr_join ⟨rfl, rfl, rfl, rfl, trivial⟩, rfl, H.sel' [0] rfl rfl, hn4⟩
 ·clear hj
  have h := h'
  clear h' H
  rintro e a w ⟨rfl, ρ, σ11, rfl, rfl, H, hn12⟩
  refine q_then (c_seq (rg (sm (I (w64 (Bl - Bk))) rfl (st (v := (I (w64 ((w64 (Bl - Bk)) - 1)))) (rv_sub (a := (w64 (Bl - Bk))) (b := 1) rfl rfl) (sa (I (w64 ((w64 (Bl - Bk)) - 1))) rfl (w_end (q_then ?_)))))))
  obtain ⟨o13, hj, h'⟩ := bind_some h
  clear h
  refine c_cut (fun e a w => e = .normal ∧ ∃ (ρ : Nat → Value) (σ : St), a = fr 56 (updL ρ [(0, (Sl Ee o13 Ef))]) ∧ w = σ.w ∧ Hp S0 σ0 σ [Ch.own 0 0 (Sl Ee o13 Ef) o13] ∧ o13.length = o1.length) ?_ ?_
  ·clear h'
   rename _ = some o13 => h
   refine c_blk (wp_loopM _ h (fun s14 a w => ∃ (ρ : Nat → Value) (σ : St), a = fr 56 (updL ρ [(0, (Sl Ee s14.1 Ef)), (6, (I Bk)), (7, (I 0)), (10, (I s14.2))]) ∧ w = σ.w ∧ Hp S0 σ0 σ [Ch.own 0 0 (Sl Ee s14.1 Ef) s14.1] ∧ s14.1.length = o1.length) ⟨_, σ11, fr_join ⟨rfl, rfl, rfl, rfl, trivial⟩, rfl, H.sel' [0] rfl rfl, rfl⟩ ?_)
   clear h H
   rintro s14 a w o ⟨ρ, σ15, rfl, rfl, H, hn16⟩ h hres
   refine c_seq (c_seq (rg (sm (I s14.2) rfl (st (v := (B (decide (0 ≤ s14.2)))) (rv_geq (a := s14.2) (b := 0) rfl rfl) (w_end (q_then ?_))))))
   refine cd_cond (decide (0 ≤ s14.2)) rfl (fun hb17 => ?_) (fun hb17 => ?_)
   ·replace h := bif_t hb17 h
    refine c_skip (q_then (c_seq (c_blk (c_seq ?_))))
    revert h; refine br fun x18 hx19 h => ?_
    obtain ⟨b21, o22, hi20, -⟩ := (H.own 0 rfl).ix hx19
    have hc23 := ((H.own 0 rfl).at hx19 hi20).int
    revert h; refine br fun x24 hx25 h => ?_
    obtain ⟨b27, o28, hi26, -⟩ := (H.own 0 rfl).ix hx25
    have hc29 := ((H.own 0 rfl).at hx25 hi26).int
    revert h; refine br fun x30 hx31 h => ?_
    obtain ⟨b33, o34, hi32, -⟩ := (H.own 0 rfl).ix hx31
    have Hs := H
    refine rg2 (σ := σ15) (Nm := Unit) 18 [17] [[false], [true]] [[(0, 0)], [(0, 0)], [(0, 0), (1, 1)], [(0, 0), (1, 1)], [(0, 0), (1, 1)], [(0, 0), (1, 1)], [(0, 0)], [(0, 0)], [(0, 0)], [(0, 0)], [(0, 0)], [(0, 0)], [(0, 0)], [(0, 0)], [(0, 0)], [(0, 0)], [(0, 0)], [(0, 1)]] 1 [fun _ => fun σm => Hp S0 σ0 σm [Ch.own 0 0 (Sl Ee s14.1 Ef) s14.1] ∧ Md (cov []) σ15 σm, fun _ => fun σm => Hp S0 σ0 σm [Ch.own 0 0 (Sl Ee s14.1 Ef) (s14.1.set Bk.toNat x18)] ∧ Md (fun i => (cov []) i ∨ (fun b => blk (Sl Ee s14.1 Ef) = some b) i) σ15 σm] [fun _ => (Sl Ee s14.1 Ef), fun _ => (I Bk), fun _ => (Sl Ee s14.1 Ef), fun _ => (I Bk), fun _ => (I s14.2), fun _ => (I (w64 (Bk + s14.2))), fun _ => (Sl Ee s14.1 Ef), fun _ => (I Bk), fun _ => (I s14.2), fun _ => (I (w64 (Bk + s14.2))), fun _ => (pt b21 o22), fun _ => (I x18), fun _ => (Sl Ee s14.1 Ef), fun _ => (I Bk), fun _ => (pt b27 o28), fun _ => (I x24), fun _ => (pt b33 o34), fun _ => undef] () (by kernel_rfl) (by kernel_rfl) ?_ ?_ ?_
    ·intro σm m0
     exact ⟨H.grow (m0.mono fun _ h => h.elim), m0⟩
    ·refine ac rfl (by
       intro k _nm ρ σm hJ hoff hdep
       have e0 := look_off (N := 56) (hoff 0 rfl) rfl
       exact dp_v (v := (Sl Ee s14.1 Ef)) wn (rv_move e0) rfl hJ) ?_
     refine ac rfl (by
       intro k _nm ρ σm hJ hoff hdep
       have e6 := look_off (N := 56) (hoff 6 rfl) rfl
       exact dp_v (v := (I Bk)) wn (rv_move e6) rfl hJ) ?_
     refine ac rfl (by
       intro k _nm ρ σm hJ hoff hdep
       have e0 := look_off (N := 56) (hoff 0 rfl) rfl
       exact dp_v (v := (Sl Ee s14.1 Ef)) wn (rv_move e0) rfl hJ) ?_
     refine ac rfl (by
       intro k _nm ρ σm hJ hoff hdep
       have e6 := look_off (N := 56) (hoff 6 rfl) rfl
       exact dp_v (v := (I Bk)) wn (rv_move e6) rfl hJ) ?_
     refine ac rfl (by
       intro k _nm ρ σm hJ hoff hdep
       have e10 := look_off (N := 56) (hoff 10 rfl) rfl
       exact dp_v (v := (I s14.2)) wn (rv_move e10) rfl hJ) ?_
     refine ac rfl (by
       intro k _nm ρ σm hJ hoff hdep
       have e36 := hdep 3 rfl rfl 36 rfl
       have e37 := hdep 4 rfl rfl 37 rfl
       exact dp_v (v := (I (w64 (Bk + s14.2)))) wn (rv_add (a := Bk) (b := s14.2) e36 e37) rfl hJ) ?_
     refine ac rfl (by
       intro k _nm ρ σm hJ hoff hdep
       have e0 := look_off (N := 56) (hoff 0 rfl) rfl
       exact dp_v (v := (Sl Ee s14.1 Ef)) wn (rv_move e0) rfl hJ) ?_
     refine ac rfl (by
       intro k _nm ρ σm hJ hoff hdep
       have e6 := look_off (N := 56) (hoff 6 rfl) rfl
       exact dp_v (v := (I Bk)) wn (rv_move e6) rfl hJ) ?_
     refine ac rfl (by
       intro k _nm ρ σm hJ hoff hdep
       have e10 := look_off (N := 56) (hoff 10 rfl) rfl
       exact dp_v (v := (I s14.2)) wn (rv_move e10) rfl hJ) ?_
     refine ac rfl (by
       intro k _nm ρ σm hJ hoff hdep
       have e40 := hdep 7 rfl rfl 40 rfl
       have e41 := hdep 8 rfl rfl 41 rfl
       exact dp_v (v := (I (w64 (Bk + s14.2)))) wn (rv_add (a := Bk) (b := s14.2) e40 e41) rfl hJ) ?_
     refine ac rfl (by
       intro k _nm ρ σm hJ hoff hdep
       have e39 := hdep 6 rfl rfl 39 rfl
       have e42 := hdep 9 rfl rfl 42 rfl
       exact dp_v (v := (pt b21 o22)) wn (rv_ix Tryz.underlying31 ti3 e39 e42 hi20) rfl hJ) ?_
     refine all_cons (by
       refine ⟨?_, ?_⟩
       ·intro _nm ρ σm hJ hoff hdep
        have e43 := hdep 10 rfl rfl 43 rfl
        obtain ⟨H, m⟩ := id hJ
        have hc23 := ((H.own 0 rfl).at hx19 hi20).int
        exact dp_v (v := (I x18)) wn (rv_load1 Tryz.underlying3 rfl e43 hc23) rfl hJ
       trivial) ?_
     refine ac rfl (by
       intro k _nm ρ σm hJ hoff hdep
       have e0 := look_off (N := 56) (hoff 0 rfl) rfl
       exact dp_v (v := (Sl Ee s14.1 Ef)) wn (rv_move e0) rfl hJ) ?_
     refine ac rfl (by
       intro k _nm ρ σm hJ hoff hdep
       have e6 := look_off (N := 56) (hoff 6 rfl) rfl
       exact dp_v (v := (I Bk)) wn (rv_move e6) rfl hJ) ?_
     refine ac rfl (by
       intro k _nm ρ σm hJ hoff hdep
       have e45 := hdep 12 rfl rfl 45 rfl
       have e46 := hdep 13 rfl rfl 46 rfl
       exact dp_v (v := (pt b27 o28)) wn (rv_ix Tryz.underlying31 ti3 e45 e46 hi26) rfl hJ) ?_
     refine all_cons (by
       refine ⟨?_, ?_⟩
       ·intro _nm ρ σm hJ hoff hdep
        have e47 := hdep 14 rfl rfl 47 rfl
        obtain ⟨H, m⟩ := id hJ
        have hc29 := ((H.own 0 rfl).at hx25 hi26).int
        exact dp_v (v := (I x24)) wn (rv_load1 Tryz.underlying3 rfl e47 hc29) rfl hJ
       trivial) ?_
     refine ac rfl (by
       intro k _nm ρ σm hJ hoff hdep
       have e33 := hdep 0 rfl rfl 33 rfl
       have e34 := hdep 1 rfl rfl 34 rfl
       exact dp_v (v := (pt b33 o34)) wn (rv_ix Tryz.underlying31 ti3 e33 e34 hi32) rfl hJ) ?_
     refine all_cons (by
       refine ⟨?_, ?_⟩
       ·intro _nm ρ σm hJ hoff hdep
        have e49 := hdep 16 rfl rfl 49 rfl
        have e44 := hdep 11 rfl rfl 44 rfl
        obtain ⟨H, m⟩ := id hJ
        refine dp_exS wn rfl (ex_store_own (e' := x18) (vs := [(I x18)]) (k := 0) H (i := 0) rfl ti3 hx31 hi32 e49 rfl e44 rfl rfl (Nat.le_of_ble_eq_true rfl) (by simp [plain]) (by rintro _ rfl; exact rfl)) ?_
        rintro σq ⟨H2, m2⟩
        exact ⟨_, (), rfl, ⟨H2.sel' [0] rfl rfl, m.comp m2⟩, stab [0, 1, 2, 3, 4, 5, 6, 7, 8, 9, 10, 11, 12, 13, 14, 15, 16] (by kernel_rfl) ⟨rfl, rfl, rfl, rfl, rfl, rfl, rfl, rfl, rfl, rfl, rfl, rfl, rfl, rfl, rfl, rfl, rfl, trivial⟩⟩
       trivial) ?_
     exact all_nil
    ·intro _nm ρ σ35 hJ hoff hrel
     have e0 := look_off (N := 56) (hoff 0 rfl) rfl
     have e6 := look_off (N := 56) (hoff 6 rfl) rfl
     have e7 := look_off (N := 56) (hoff 7 rfl) rfl
     have e10 := look_off (N := 56) (hoff 10 rfl) rfl
     have e35 := hrel 2 rfl 35 rfl
     have e38 := hrel 5 rfl 38 rfl
     have e48 := hrel 15 rfl 48 rfl
     obtain ⟨H, -⟩ := (show Hp S0 σ0 σ35 [Ch.own 0 0 (Sl Ee s14.1 Ef) (s14.1.set Bk.toNat x18)] ∧ Md (fun i => (cov []) i ∨ (fun b => blk (Sl Ee s14.1 Ef) = some b) i) σ15 σ35 from hJ)
     clear hJ Hs
     rw [fr_lookL (L := [(0, (Sl Ee s14.1 Ef)), (6, (I Bk)), (7, (I 0)), (10, (I s14.2)), (35, (Sl Ee s14.1 Ef)), (38, (I (w64 (Bk + s14.2)))), (48, (I x24))]) ⟨e0, e6, e7, e10, e35, e38, e48, trivial⟩]
     clear hoff hrel e0 e6 e7 e10 e35 e38 e48
     have hsl : (Sl Ee s14.1 Ef) = (Sl Ee (s14.1.set Bk.toNat x18) Ef) := sl_len (by simp)
     rw [hsl]; rw [hsl] at H; clear hsl
     revert h; refine br fun x36 hx37 h => ?_
     obtain ⟨b39, o40, hi38, -⟩ := (H.own 0 rfl).ix hx37
     refine st (v := (pt b39 o40)) (rv_ix Tryz.underlying31 ti3 rfl rfl hi38) ?_
     refine st_exS (ex_store_own (e' := x24) (vs := [(I x24)]) (k := 0) H (i := 0) rfl ti3 hx37 hi38 rfl rfl rfl rfl rfl (Nat.le_of_ble_eq_true rfl) (by simp [plain]) (by rintro _ rfl; exact rfl)) wn ?_
     rintro σ41 ⟨H, -⟩
     have hsl : (Sl Ee (s14.1.set Bk.toNat x18) Ef) = (Sl Ee ((s14.1.set Bk.toNat x18).set (w64 (Bk + s14.2)).toNat x24) Ef) := sl_len List.length_set.symm
     rw [hsl]; rw [hsl] at H; clear hsl
     refine w_end (q_then (rg (sm (Sl Ee ((s14.1.set Bk.toNat x18).set (w64 (Bk + s14.2)).toNat x24) Ef) rfl (sm (I 0) rfl (sm (I s14.2) rfl (sm (I Bk) rfl ?_))))))
     revert h; refine br fun r42 hx43 h => ?_
     have hc44 := c_slices_siftDownOrdered_int (Ee := Ee) (Ef := Ef) hx43
     refine st_call (cx_call hc44 (ent_f hc44.fn rfl) hn0 (H.sel' [0] rfl rfl : Hp S0 σ0 _ ([_] ++ _))) wn ?_
     rintro _ σ46 ⟨_, ⟨rfl, rfl, hn45⟩, H, -⟩
     replace H : Hp _ _ _ [_] := H
     have hsl : (Sl Ee ((s14.1.set Bk.toNat x18).set (w64 (Bk + s14.2)).toNat x24) Ef) = (Sl Ee r42 Ef) := sl_len hn45.symm
     try rw [hsl]
     try rw [hsl] at H
     clear hsl
     refine w_end (q_blk (q_then (rg (sm (I s14.2) rfl (st (v := (I (w64 (s14.2 - 1)))) (rv_sub (a := s14.2) (b := 1) rfl rfl) (sa (I (w64 (s14.2 - 1))) rfl (w_end (q_then ?_))))))))
     obtain rfl := sj h
     exact ⟨_, rfl, _, σ46, fr_join ⟨rfl, rfl, rfl, rfl, trivial⟩, rfl, H.sel' [0] rfl rfl, ((hn45.trans (List.length_set.trans (List.length_set.trans (hn16.trans hn12)))).trans hn12.symm)⟩
   ·replace h := bif_f hb17 h
    refine c_exit (q_then_x (q_then_x (q_blk_hit ?_)))
    obtain rfl := sj h
    obtain rfl := hres _ rfl
    exact ⟨rfl, _, σ15, fr_join ⟨rfl, trivial⟩, rfl, H.sel' [0] rfl rfl, ((hn16.trans hn12).trans hn12.symm)⟩
  ·clear hj
   have h := h'
   clear h' H
   rintro e a w ⟨rfl, ρ, σ47, rfl, rfl, H, hn48⟩
   obtain rfl := sj h
   exact fin_end (v := (.tuple #[])) (results_ok Tryz.results101 res_nil rfl) ⟨rfl, rfl, (hn48.trans hn12)⟩ (H.sel' [0] rfl rfl)

theorem c_slices_order2Ordered_int {Ed : List Int} {Bk : Int} {Bl : Int} {Ej : Int} {Ee : Option Addr} {Ef : Nat} {Ek El Em : Nat} {En Eo : List Value} {r : Int × Int × Int} (h : M.slices_order2Ordered_int Ed Bk Bl Ej = some r) :
    Cal2 Tryz.prog 136 [(Sl Ee Ed Ef), (I Bk), (I Bl), (pt El Em)] [Ch.ro 0 (Sl Ee Ed Ef) Ed, Ch.bx Ek El Em [(I Ej)] En Eo] (fun n0 v L => v = (.tuple #[(I r.1), (I r.2.1)]) ∧ L = [Ch.bx Ek El Em [(I r.2.2)] En Eo]) := by
 refine cal2 (n := 28) Tryz.func136 rfl rfl rfl rfl ?_
 intro S0 σ0 n0 hn0 H
 unfold M.slices_order2Ordered_int at h
 refine c_seq (rg (sa (I 0) rfl (sa (I 0) rfl (w_end (q_then (c_seq (c_seq ?_)))))))
 refine rgP (σ := σ0) 8 (by kernel_rfl) (by kernel_rfl) (by kernel_rfl) ?_
 refine sq (v := (Sl Ee Ed Ef)) (rv_move rfl) (sq (v := (I Bl)) (rv_move rfl) ?_)
 revert h; refine br fun x1 hx2 h => ?_
 obtain ⟨b4, o5, hi3, -⟩ := (H.ro 0 rfl).ix hx2
 refine sq (v := (pt b4 o5)) (rv_ix Tryz.underlying31 ti3 rfl rfl hi3) ?_
 have hc6 := ((H.ro 0 rfl).at hx2 hi3).int
 refine sq (v := (I x1)) (rv_load1 Tryz.underlying3 rfl rfl hc6) (sq (v := (Sl Ee Ed Ef)) (rv_move rfl) (sq (v := (I Bk)) (rv_move rfl) ?_))
 revert h; refine br fun x7 hx8 h => ?_
 obtain ⟨b10, o11, hi9, -⟩ := (H.ro 0 rfl).ix hx8
 refine sq (v := (pt b10 o11)) (rv_ix Tryz.underlying31 ti3 rfl rfl hi9) ?_
 have hc12 := ((H.ro 0 rfl).at hx8 hi9).int
 refine sq (v := (I x7)) (rv_load1 Tryz.underlying3 rfl rfl hc12) (sq_end ?_)
 intro σ13 hm14
 replace H := H.grow (hm14.mono fun _ h => h); clear hm14
 revert h; refine br fun r15 hx16 h => ?_
 have hc17 := c_cmp_Less_int hx16
 refine st_call (cx_call hc17 (ent_f hc17.fn rfl) hn0 (H.sel' [0, 1] rfl rfl : Hp S0 σ0 _ ([] ++ _))) wn ?_
 rintro _ σ18 ⟨_, ⟨rfl, rfl⟩, H, -⟩
 replace H : Hp _ _ _ [_, _] := H
 refine w_end (q_then ?_)
 refine cd_cond r15 rfl (fun hb19 => ?_) (fun hb19 => ?_)
 ·replace h := bif_t hb19 h
  refine c_seq (rg (sm (pt El Em) rfl (st (v := (pt El Em)) (rv_nilCheck rfl) ?_)))
  have hc20 := H.cell (u := (I Ej)) (o' := Em) 1 0 rfl rfl rfl
  refine st (v := (I Ej)) (rv_load1 Tryz.underlying3 rfl rfl hc20) (st (v := (I (w64 (Ej + 1)))) (rv_add (a := Ej) (b := 1) rfl rfl) (st (v := (pt El Em)) (rv_nilCheck rfl) ?_))
  refine st_exS (ex_store_box (k := 0) (cs := [(I Ej)]) (vs := [(I (w64 (Ej + 1)))]) (cs' := [(I (w64 (Ej + 1)))]) H (i := 1) rfl ti3 rfl rfl rfl rfl rfl (Nat.le_of_ble_eq_true rfl) (by simp [plain]) rfl) wn ?_
  rintro σ21 ⟨H, -⟩
  refine w_end (q_then (c_seq (rg (sm (I Bl) rfl (sm (I Bk) rfl (sa (I Bl) rfl (sa (I Bk) rfl (w_end (q_then (c_ret (q_then_r ?_)))))))))))
  obtain rfl := sj h
  exact fin_ret (v := (.tuple #[(I Bl), (I Bk)])) (results_ok Tryz.results136 (res_tmp (v := (I Bl)) rfl (res_tmp (v := (I Bk)) rfl res_nil)) rfl) ⟨rfl, rfl⟩ (H.sel' [0] rfl rfl)
 ·replace h := bif_f hb19 h
  refine c_skip (q_then (c_seq (rg (sm (I Bk) rfl (sm (I Bl) rfl (sa (I Bk) rfl (sa (I Bl) rfl (w_end (q_then (c_ret ?_))))))))))
  obtain rfl := sj h
  exact fin_ret (v := (.tuple #[(I Bk), (I Bl)])) (results_ok Tryz.results136 (res_tmp (v := (I Bk)) rfl (res_tmp (v := (I Bl)) rfl res_nil)) rfl) ⟨rfl, rfl⟩ (H.sel' [1] rfl rfl)

theorem c_slices_medianOrdered_int {Ed : List Int} {Bk : Int} {Bl : Int} {Ep : Int} {Er : Int} {Ee : Option Addr} {Ef : Nat} {Es Et Eu : Nat} {Ev Ew : List Value} {r : Int × Int} (h : M.slices_medianOrdered_int Ed Bk Bl Ep Er = some r) :
    Cal2 Tryz.prog 121 [(Sl Ee Ed Ef), (I Bk), (I Bl), (I Ep), (pt Et Eu)] [Ch.ro 0 (Sl Ee Ed Ef) Ed, Ch.bx Es Et Eu [(I Er)] Ev Ew] (fun n0 v L => v = (I r.1) ∧ L = [Ch.bx Es Et Eu [(I r.2)] Ev Ew]) := by
 refine cal2 (n := 36) Tryz.func121 rfl rfl rfl rfl ?_
 intro S0 σ0 n0 hn0 H
 unfold M.slices_medianOrdered_int at h
 refine c_seq (rg (sa (I 0) rfl (w_end (q_then (c_seq (rg (sm (Sl Ee Ed Ef) rfl (sm (I Bk) rfl (sm (I Bl) rfl (sm (pt Et Eu) rfl ?_))))))))))
 revert h; refine br fun r1 hx2 h => ?_
 have hc3 := c_slices_order2Ordered_int (Ee := Ee) (Ef := Ef) (Ek := Es) (El := Et) (Em := Eu) (En := Ev) (Eo := Ew) hx2
 refine st_call (cx_call hc3 (ent_f hc3.fn rfl) hn0 (H.sel' [0, 1, 0] rfl rfl : Hp S0 σ0 _ ([_, _] ++ _))) wn ?_
 rintro _ σ4 ⟨_, ⟨rfl, rfl⟩, H, -⟩
 replace H : Hp _ _ _ [_, _] := H
 refine sm (.tuple #[(I r1.1), (I r1.2.1)]) rfl (st (v := (I r1.1)) (rv_extract rfl rfl) (st (v := (I r1.2.1)) (rv_extract rfl rfl) (sa (I r1.1) rfl (sa (I r1.2.1) rfl (w_end (q_then (c_seq (rg (sm (Sl Ee Ed Ef) rfl (sm (I r1.2.1) rfl (sm (I Ep) rfl ?_)))))))))))
 refine sm (pt Et Eu) rfl ?_
 revert h; refine br fun r5 hx6 h => ?_
 have hc7 := c_slices_order2Ordered_int (Ee := Ee) (Ef := Ef) (Ek := Es) (El := Et) (Em := Eu) (En := Ev) (Eo := Ew) hx6
 refine st_call (cx_call hc7 (ent_f hc7.fn rfl) hn0 (H.sel' [1, 0, 1] rfl rfl : Hp S0 σ0 _ ([_, _] ++ _))) wn ?_
 rintro _ σ8 ⟨_, ⟨rfl, rfl⟩, H, -⟩
 replace H : Hp _ _ _ [_, _] := H
 refine sm (.tuple #[(I r5.1), (I r5.2.1)]) rfl (st (v := (I r5.1)) (rv_extract rfl rfl) (st (v := (I r5.2.1)) (rv_extract rfl rfl) (sa (I r5.1) rfl (sa (I r5.2.1) rfl (w_end (q_then (c_seq (rg (sm (Sl Ee Ed Ef) rfl (sm (I r1.1) rfl (sm (I r5.1) rfl ?_)))))))))))
 refine sm (pt Et Eu) rfl ?_
 revert h; refine br fun r9 hx10 h => ?_
 have hc11 := c_slices_order2Ordered_int (Ee := Ee) (Ef := Ef) (Ek := Es) (El := Et) (Em := Eu) (En := Ev) (Eo := Ew) hx10
 refine st_call (cx_call hc11 (ent_f hc11.fn rfl) hn0 (H.sel' [1, 0, 1] rfl rfl : Hp S0 σ0 _ ([_, _] ++ _))) wn ?_
 rintro _ σ12 ⟨_, ⟨rfl, rfl⟩, H, -⟩
 replace H : Hp _ _ _ [_, _] := H
 refine sm (.tuple #[(I r9.1), (I r9.2.1)]) rfl (st (v := (I r9.1)) (rv_extract rfl rfl) (st (v := (I r9.2.1)) (rv_extract rfl rfl) (sa (I r9.1) rfl (sa (I r9.2.1) rfl (w_end (q_then (c_seq (rg (sm (I r9.2.1) rfl (sa (I r9.2.1) rfl (w_end ?_)))))))))))
 refine q_then (c_ret ?_)
 obtain rfl := sj h
 exact fin_ret (v := (I r9.2.1)) (results_ok Tryz.results121 (res_tmp (v := (I r9.2.1)) rfl res_nil) rfl) ⟨rfl, rfl⟩ (H.sel' [0] rfl rfl)

theorem c_slices_medianAdjacentOrdered_int {Ed : List Int} {Bk : Int} {Ey : Int} {Ee : Option Addr} {Ef : Nat} {Ez Fa Fb : Nat} {Fc Fd : List Value} {r : Int × Int} (h : M.slices_medianAdjacentOrdered_int Ed Bk Ey = some r) :
    Cal2 Tryz.prog 120 [(Sl Ee Ed Ef), (I Bk), (pt Fa Fb)] [Ch.ro 0 (Sl Ee Ed Ef) Ed, Ch.bx Ez Fa Fb [(I Ey)] Fc Fd] (fun n0 v L => v = (I r.1) ∧ L = [Ch.bx Ez Fa Fb [(I r.2)] Fc Fd]) := by
 refine cal2 (n := 15) Tryz.func120 rfl rfl rfl rfl ?_
 intro S0 σ0 n0 hn0 H
 unfold M.slices_medianAdjacentOrdered_int at h
 refine c_seq (rg (sa (I 0) rfl (w_end (q_then (c_seq (rg (sm (Sl Ee Ed Ef) rfl (sm (I Bk) rfl (st (v := (I (w64 (Bk - 1)))) (rv_sub (a := Bk) (b := 1) rfl rfl) (sm (I Bk) rfl (sm (I Bk) rfl ?_)))))))))))
 refine st (v := (I (w64 (Bk + 1)))) (rv_add (a := Bk) (b := 1) rfl rfl) (sm (pt Fa Fb) rfl ?_)
 revert h; refine br fun r1 hx2 h => ?_
 have hc3 := c_slices_medianOrdered_int (Ee := Ee) (Ef := Ef) (Es := Ez) (Et := Fa) (Eu := Fb) (Ev := Fc) (Ew := Fd) hx2
 refine st_call (cx_call hc3 (ent_f hc3.fn rfl) hn0 (H.sel' [0, 1, 0] rfl rfl : Hp S0 σ0 _ ([_, _] ++ _))) wn ?_
 rintro _ σ4 ⟨_, ⟨rfl, rfl⟩, H, -⟩
 replace H : Hp _ _ _ [_, _] := H
 refine sa (I r1.1) rfl (w_end (q_then (c_ret ?_)))
 obtain rfl := sj h
 exact fin_ret (v := (I r1.1)) (results_ok Tryz.results120 (res_tmp (v := (I r1.1)) rfl res_nil) rfl) ⟨rfl, rfl⟩ (H.sel' [0] rfl rfl)

theorem c_slices_choosePivotOrdered_int {Ed : List Int} {Bk : Int} {Bl : Int} {Ee : Option Addr} {Ef : Nat} {r : Int × Int} (h : M.slices_choosePivotOrdered_int Ed Bk Bl = some r) :
    Cal2 Tryz.prog 103 [(Sl Ee Ed Ef), (I Bk), (I Bl)] [Ch.ro 0 (Sl Ee Ed Ef) Ed] (fun n0 v L => v = (.tuple #[(I r.1), (I r.2)]) ∧ L = []) := by
 refine cal2 (n := 57) Tryz.func103 rfl rfl rfl rfl ?_
 intro S0 σ0 n0 hn0 H
 unfold M.slices_choosePivotOrdered_int at h
 refine c_seq (rg (sa (I 0) rfl (sa (I 0) rfl (w_end (q_then (c_seq (rg (sm (I Bl) rfl (sm (I Bk) rfl (st (v := (I (w64 (Bl - Bk)))) (rv_sub (a := Bl) (b := Bk) rfl rfl) (sa (I (w64 (Bl - Bk))) rfl ?_)))))))))))
 refine w_end (q_then (c_seq (rg (st_ex (ex_alloc (cs := [(I 0)]) H hn0 ti3 rfl) wn ?_))))
 rintro _ σ2 ⟨b1, rfl, H, -⟩
 refine w_end (q_then (c_seq (rg (sm (I Bk) rfl (sm (I (w64 (Bl - Bk))) rfl ?_)))))
 refine st (v := (I (w64 ((w64 (Bl - Bk)).tdiv 4)))) (rv_quo (a := (w64 (Bl - Bk))) (b := 4) rfl rfl (by decide)) ?_
 refine st (v := (I (w64 ((w64 ((w64 (Bl - Bk)).tdiv 4)) * 1)))) (rv_mul (a := (w64 ((w64 (Bl - Bk)).tdiv 4))) (b := 1) rfl rfl) (st (v := (I (w64 (Bk + (w64 ((w64 ((w64 (Bl - Bk)).tdiv 4)) * 1)))))) (rv_add (a := Bk) (b := (w64 ((w64 ((w64 (Bl - Bk)).tdiv 4)) * 1))) rfl rfl) (sa (I (w64 (Bk + (w64 ((w64 ((w64 (Bl - Bk)).tdiv 4)) * 1))))) rfl (w_end (q_then (c_seq (rg (sm (I Bk) rfl (sm (I (w64 (Bl - Bk))) rfl ?_))))))))
 refine st (v := (I (w64 ((w64 (Bl - Bk)).tdiv 4)))) (rv_quo (a := (w64 (Bl - Bk))) (b := 4) rfl rfl (by decide)) ?_
 refine st (v := (I (w64 ((w64 ((w64 (Bl - Bk)).tdiv 4)) * 2)))) (rv_mul (a := (w64 ((w64 (Bl - Bk)).tdiv 4))) (b := 2) rfl rfl) (st (v := (I (w64 (Bk + (w64 ((w64 ((w64 (Bl - Bk)).tdiv 4)) * 2)))))) (rv_add (a := Bk) (b := (w64 ((w64 ((w64 (Bl - Bk)).tdiv 4)) * 2))) rfl rfl) (sa (I (w64 (Bk + (w64 ((w64 ((w64 (Bl - Bk)).tdiv 4)) * 2))))) rfl (w_end (q_then (c_seq (rg (sm (I Bk) rfl (sm (I (w64 (Bl - Bk))) rfl ?_))))))))
 refine st (v := (I (w64 ((w64 (Bl - Bk)).tdiv 4)))) (rv_quo (a := (w64 (Bl - Bk))) (b := 4) rfl rfl (by decide)) ?_
 refine st (v := (I (w64 ((w64 ((w64 (Bl - Bk)).tdiv 4)) * 3)))) (rv_mul (a := (w64 ((w64 (Bl - Bk)).tdiv 4))) (b := 3) rfl rfl) (st (v := (I (w64 (Bk + (w64 ((w64 ((w64 (Bl - Bk)).tdiv 4)) * 3)))))) (rv_add (a := Bk) (b := (w64 ((w64 ((w64 (Bl - Bk)).tdiv 4)) * 3))) rfl rfl) (sa (I (w64 (Bk + (w64 ((w64 ((w64 (Bl - Bk)).tdiv 4)) * 3))))) rfl (w_end (q_then (c_seq (c_seq (rg (sm (I (w64 (Bl - Bk))) rfl (st (v := (B (decide (8 ≤ (w64 (Bl - Bk)))))) (rv_geq (a := (w64 (Bl - Bk))) (b := 8) rfl rfl) (w_end (q_then ?_)))))))))))
 obtain ⟨o3, hj, h'⟩ := bind_some h
 clear h
 refine c_cut (fun e a w => e = .normal ∧ ∃ (ρ : Nat → Value) (σ : St), a = fr 57 (updL ρ [(9, (pt b1 0)), (11, (I o3.2))]) ∧ w = σ.w ∧ Hp S0 σ0 σ [Ch.bx n0 b1 0 [(I o3.1)] [] []]) ?_ ?_
 ·clear h'
  rename _ = some o3 => h
  refine cd_cond (decide (8 ≤ (w64 (Bl - Bk)))) rfl (fun hb4 => ?_) (fun hb4 => ?_)
  ·replace h := bif_t hb4 h
   refine c_seq (c_seq (rg (sm (I (w64 (Bl - Bk))) rfl (st (v := (B (decide (50 ≤ (w64 (Bl - Bk)))))) (rv_geq (a := (w64 (Bl - Bk))) (b := 50) rfl rfl) (w_end (q_then ?_))))))
   obtain ⟨o5, hj, h'⟩ := bind_some h
   clear h
   refine c_cut (fun e a w => e = .normal ∧ ∃ (ρ : Nat → Value) (σ : St), a = fr 57 (updL ρ [(0, (Sl Ee Ed Ef)), (9, (pt b1 0)), (10, (I o5.2.1)), (11, (I o5.2.2.1)), (12, (I o5.2.2.2))]) ∧ w = σ.w ∧ Hp S0 σ0 σ [Ch.bx n0 b1 0 [(I o5.1)] [] [], Ch.ro 0 (Sl Ee Ed Ef) Ed]) ?_ ?_
   ·clear h'
    rename _ = some o5 => h
    refine cd_cond (decide (50 ≤ (w64 (Bl - Bk)))) rfl (fun hb6 => ?_) (fun hb6 => ?_)
    ·replace h := bif_t hb6 h
     refine c_seq (rg (sm (Sl Ee Ed Ef) rfl (sm (I (w64 (Bk + (w64 ((w64 ((w64 (Bl - Bk)).tdiv 4)) * 1))))) rfl ?_)))
     revert h; refine br fun r7 hx8 h => ?_
     have hc9 := c_slices_medianAdjacentOrdered_int (Ee := Ee) (Ef := Ef) (Ez := n0) (Fa := b1) (Fb := 0) (Fc := []) (Fd := []) hx8
     refine st_call (cx_call hc9 (ent_f hc9.fn rfl) hn0 (H.sel' [1, 0, 1] rfl rfl : Hp S0 σ0 _ ([_, _] ++ _))) wn ?_
     rintro _ σ10 ⟨_, ⟨rfl, rfl⟩, H, -⟩
     replace H : Hp _ _ _ [_, _] := H
     refine sa (I r7.1) rfl (w_end (q_then (c_seq (rg (sm (Sl Ee Ed Ef) rfl (sm (I (w64 (Bk + (w64 ((w64 ((w64 (Bl - Bk)).tdiv 4)) * 2))))) rfl ?_))))))
     revert h; refine br fun r11 hx12 h => ?_
     have hc13 := c_slices_medianAdjacentOrdered_int (Ee := Ee) (Ef := Ef) (Ez := n0) (Fa := b1) (Fb := 0) (Fc := []) (Fd := []) hx12
     refine st_call (cx_call hc13 (ent_f hc13.fn rfl) hn0 (H.sel' [1, 0, 1] rfl rfl : Hp S0 σ0 _ ([_, _] ++ _))) wn ?_
     rintro _ σ14 ⟨_, ⟨rfl, rfl⟩, H, -⟩
     replace H : Hp _ _ _ [_, _] := H
     refine sa (I r11.1) rfl (w_end (q_then (rg (sm (Sl Ee Ed Ef) rfl (sm (I (w64 (Bk + (w64 ((w64 ((w64 (Bl - Bk)).tdiv 4)) * 3))))) rfl ?_)))))
     revert h; refine br fun r15 hx16 h => ?_
     have hc17 := c_slices_medianAdjacentOrdered_int (Ee := Ee) (Ef := Ef) (Ez := n0) (Fa := b1) (Fb := 0) (Fc := []) (Fd := []) hx16
     refine st_call (cx_call hc17 (ent_f hc17.fn rfl) hn0 (H.sel' [1, 0, 1] rfl rfl : Hp S0 σ0 _ ([_, _] ++ _))) wn ?_
     rintro _ σ18 ⟨_, ⟨rfl, rfl⟩, H, -⟩
     replace H : Hp _ _ _ [_, _] := H
     refine sa (I r15.1) rfl (w_end ?_)
     obtain rfl := sj h
     exact ⟨rfl, _, σ18, fr_join ⟨rfl, rfl, rfl, rfl, rfl, trivial⟩, rfl, H.sel' [0, 1] rfl rfl⟩
    ·replace h := bif_f hb6 h
     refine c_skip ?_
     obtain rfl := sj h
     exact ⟨rfl, _, σ2, fr_join ⟨rfl, rfl, rfl, rfl, rfl, trivial⟩, rfl, H.sel' [0, 1] rfl rfl⟩
   ·clear hj
    have h := h'
    clear h' H
    rintro e a w ⟨rfl, ρ, σ19, rfl, rfl, H⟩
    refine q_then (rg (sm (Sl Ee Ed Ef) rfl (sm (I o5.2.1) rfl (sm (I o5.2.2.1) rfl (sm (I o5.2.2.2) rfl ?_)))))
    revert h; refine br fun r20 hx21 h => ?_
    have hc22 := c_slices_medianOrdered_int (Ee := Ee) (Ef := Ef) (Es := n0) (Et := b1) (Eu := 0) (Ev := []) (Ew := []) hx21
    refine st_call (cx_call hc22 (ent_f hc22.fn rfl) hn0 (H.sel' [1, 0, 1] rfl rfl : Hp S0 σ0 _ ([_, _] ++ _))) wn ?_
    rintro _ σ23 ⟨_, ⟨rfl, rfl⟩, H, -⟩
    replace H : Hp _ _ _ [_, _] := H
    refine sa (I r20.1) rfl (w_end ?_)
    obtain rfl := sj h
    exact ⟨rfl, _, σ23, fr_join ⟨rfl, rfl, trivial⟩, rfl, H.sel' [0] rfl rfl⟩
  ·replace h := bif_f hb4 h
   refine c_skip ?_
   obtain rfl := sj h
   exact ⟨rfl, _, σ2, fr_join ⟨rfl, rfl, trivial⟩, rfl, H.sel' [0] rfl rfl⟩
 ·clear hj
  have h := h'
  clear h' H
  rintro e a w ⟨rfl, ρ, σ24, rfl, rfl, H⟩
  refine q_then (c_seq (rg ?_))
  have hc25 := H.cell (u := (I o3.1)) (o' := 0) 0 0 rfl rfl rfl
  refine st (v := (I o3.1)) (rv_load1 Tryz.underlying3 rfl rfl hc25) (w_end (q_then (c_blk (c_seq (rg (st (v := (B (o3.1 == 0))) (rv_eql (a := o3.1) (b := 0) rfl rfl) (sa (B (o3.1 == 0)) rfl (w_end (q_then ?_)))))))))
  refine cd_cond (o3.1 == 0) rfl (fun hb26 => ?_) (fun hb26 => ?_)
  ·replace h := bif_t hb26 h
   refine c_seq (rg (sm (I o3.2) rfl (sa (I o3.2) rfl (sa (I 1) rfl (w_end (q_then (c_ret (q_blk_r ?_))))))))
   obtain rfl := sj h
   exact fin_ret (v := (.tuple #[(I o3.2), (I 1)])) (results_ok Tryz.results103 (res_tmp (v := (I o3.2)) rfl (res_tmp (v := (I 1)) rfl res_nil)) rfl) ⟨rfl, rfl⟩ (H.sel' [] rfl rfl)
  ·replace h := bif_f hb26 h
   refine c_seq (rg (st (v := (B (o3.1 == 12))) (rv_eql (a := o3.1) (b := 12) rfl rfl) (sa (B (o3.1 == 12)) rfl (w_end (q_then ?_)))))
   refine cd_cond (o3.1 == 12) rfl (fun hb27 => ?_) (fun hb27 => ?_)
   ·replace h := bif_t hb27 h
    refine c_seq (rg (sm (I o3.2) rfl (sa (I o3.2) rfl (sa (I 2) rfl (w_end (q_then (c_ret (q_blk_r ?_))))))))
    obtain rfl := sj h
    exact fin_ret (v := (.tuple #[(I o3.2), (I 2)])) (results_ok Tryz.results103 (res_tmp (v := (I o3.2)) rfl (res_tmp (v := (I 2)) rfl res_nil)) rfl) ⟨rfl, rfl⟩ (H.sel' [] rfl rfl)
   ·replace h := bif_f hb27 h
    refine c_seq (rg (sm (I o3.2) rfl (sa (I o3.2) rfl (sa (I 0) rfl (w_end (q_then (c_ret (q_blk_r ?_))))))))
    obtain rfl := sj h
    exact fin_ret (v := (.tuple #[(I o3.2), (I 0)])) (results_ok Tryz.results103 (res_tmp (v := (I o3.2)) rfl (res_tmp (v := (I 0)) rfl res_nil)) rfl) ⟨rfl, rfl⟩ (H.sel' [] rfl rfl)

theorem c_slices_reverseRangeOrdered_int {Ed : List Int} {Bk : Int} {Bl : Int} {Ee : Option Addr} {Ef : Nat} {r : (List Int)} (h : M.slices_reverseRangeOrdered_int Ed Bk Bl = some r) :
    Cal2 Tryz.prog 104 [(Sl Ee Ed Ef), (I Bk), (I Bl)] [Ch.own 0 0 (Sl Ee Ed Ef) Ed] (fun n0 v L => v = (.tuple #[]) ∧ L = [Ch.own 0 0 (Sl Ee r Ef) r] ∧ r.length = Ed.length) := by
 refine cal2 (n := 32) Tryz.func104 rfl rfl rfl rfl ?_
 intro S0 σ0 n0 hn0 H
 unfold M.slices_reverseRangeOrdered_int at h
 refine c_seq (rg (sm (I Bk) rfl (sa (I Bk) rfl (w_end (q_then (c_seq (rg (sm (I Bl) rfl (st (v := (I (w64 (Bl - 1)))) (rv_sub (a := Bl) (b := 1) rfl rfl) (sa (I (w64 (Bl - 1))) rfl (w_end ?_)))))))))))
 refine q_then ?_
 obtain ⟨o1, hj, h'⟩ := bind_some h
 clear h
 refine c_cut (fun e a w => e = .normal ∧ ∃ (ρ : Nat → Value) (σ : St), a = fr 32 (updL ρ [(0, (Sl Ee o1 Ef))]) ∧ w = σ.w ∧ Hp S0 σ0 σ [Ch.own 0 0 (Sl Ee o1 Ef) o1] ∧ o1.length = Ed.length) ?_ ?_
 ·clear h'
  rename _ = some o1 => h
  refine c_blk (wp_loopM _ h (fun s2 a w => ∃ (ρ : Nat → Value) (σ : St), a = fr 32 (updL ρ [(0, (Sl Ee s2.1 Ef)), (6, (I s2.2.1)), (7, (I s2.2.2))]) ∧ w = σ.w ∧ Hp S0 σ0 σ [Ch.own 0 0 (Sl Ee s2.1 Ef) s2.1] ∧ s2.1.length = Ed.length) ⟨_, σ0, fr_join ⟨rfl, rfl, rfl, trivial⟩, rfl, H.sel' [0] rfl rfl, rfl⟩ ?_)
  clear h H
  rintro s2 a w o ⟨ρ, σ3, rfl, rfl, H, hn4⟩ h hres
  refine c_seq (c_seq (rg (sm (I s2.2.1) rfl (sm (I s2.2.2) rfl (st (v := (B (decide (s2.2.1 < s2.2.2)))) (rv_lss (a := s2.2.1) (b := s2.2.2) rfl rfl) (w_end (q_then ?_)))))))
  refine cd_cond (decide (s2.2.1 < s2.2.2)) rfl (fun hb5 => ?_) (fun hb5 => ?_)
  ·replace h := bif_t hb5 h
   refine c_skip (q_then (c_blk (c_seq ?_)))
   revert h; refine br fun x6 hx7 h => ?_
   obtain ⟨b9, o10, hi8, -⟩ := (H.own 0 rfl).ix hx7
   have hc11 := ((H.own 0 rfl).at hx7 hi8).int
   revert h; refine br fun x12 hx13 h => ?_
   obtain ⟨b15, o16, hi14, -⟩ := (H.own 0 rfl).ix hx13
   have hc17 := ((H.own 0 rfl).at hx13 hi14).int
   revert h; refine br fun x18 hx19 h => ?_
   obtain ⟨b21, o22, hi20, -⟩ := (H.own 0 rfl).ix hx19
   have Hs := H
   refine rg2 (σ := σ3) (Nm := Unit) 14 [13] [[false], [true]] [[(0, 0)], [(0, 0)], [(0, 0), (1, 1)], [(0, 0), (1, 1)], [(0, 0)], [(0, 0)], [(0, 0)], [(0, 0)], [(0, 0)], [(0, 0)], [(0, 0)], [(0, 0)], [(0, 0)], [(0, 1)]] 1 [fun _ => fun σm => Hp S0 σ0 σm [Ch.own 0 0 (Sl Ee s2.1 Ef) s2.1] ∧ Md (cov []) σ3 σm, fun _ => fun σm => Hp S0 σ0 σm [Ch.own 0 0 (Sl Ee s2.1 Ef) (s2.1.set s2.2.1.toNat x6)] ∧ Md (fun i => (cov []) i ∨ (fun b => blk (Sl Ee s2.1 Ef) = some b) i) σ3 σm] [fun _ => (Sl Ee s2.1 Ef), fun _ => (I s2.2.1), fun _ => (Sl Ee s2.1 Ef), fun _ => (I s2.2.2), fun _ => (Sl Ee s2.1 Ef), fun _ => (I s2.2.2), fun _ => (pt b9 o10), fun _ => (I x6), fun _ => (Sl Ee s2.1 Ef), fun _ => (I s2.2.1), fun _ => (pt b15 o16), fun _ => (I x12), fun _ => (pt b21 o22), fun _ => undef] () (by kernel_rfl) (by kernel_rfl) ?_ ?_ ?_
   ·intro σm m0
    exact ⟨H.grow (m0.mono fun _ h => h.elim), m0⟩
   ·refine ac rfl (by
      intro k _nm ρ σm hJ hoff hdep
      have e0 := look_off (N := 32) (hoff 0 rfl) rfl
      exact dp_v (v := (Sl Ee s2.1 Ef)) wn (rv_move e0) rfl hJ) ?_
    refine ac rfl (by
      intro k _nm ρ σm hJ hoff hdep
      have e6 := look_off (N := 32) (hoff 6 rfl) rfl
      exact dp_v (v := (I s2.2.1)) wn (rv_move e6) rfl hJ) ?_
    refine ac rfl (by
      intro k _nm ρ σm hJ hoff hdep
      have e0 := look_off (N := 32) (hoff 0 rfl) rfl
      exact dp_v (v := (Sl Ee s2.1 Ef)) wn (rv_move e0) rfl hJ) ?_
    refine ac rfl (by
      intro k _nm ρ σm hJ hoff hdep
      have e7 := look_off (N := 32) (hoff 7 rfl) rfl
      exact dp_v (v := (I s2.2.2)) wn (rv_move e7) rfl hJ) ?_
    refine ac rfl (by
      intro k _nm ρ σm hJ hoff hdep
      have e0 := look_off (N := 32) (hoff 0 rfl) rfl
      exact dp_v (v := (Sl Ee s2.1 Ef)) wn (rv_move e0) rfl hJ) ?_
    refine ac rfl (by
      intro k _nm ρ σm hJ hoff hdep
      have e7 := look_off (N := 32) (hoff 7 rfl) rfl
      exact dp_v (v := (I s2.2.2)) wn (rv_move e7) rfl hJ) ?_
    refine ac rfl (by
      intro k _nm ρ σm hJ hoff hdep
      have e18 := hdep 4 rfl rfl 18 rfl
      have e19 := hdep 5 rfl rfl 19 rfl
      exact dp_v (v := (pt b9 o10)) wn (rv_ix Tryz.underlying31 ti3 e18 e19 hi8) rfl hJ) ?_
    refine all_cons (by
      refine ⟨?_, ?_⟩
      ·intro _nm ρ σm hJ hoff hdep
       have e20 := hdep 6 rfl rfl 20 rfl
       obtain ⟨H, m⟩ := id hJ
       have hc11 := ((H.own 0 rfl).at hx7 hi8).int
       exact dp_v (v := (I x6)) wn (rv_load1 Tryz.underlying3 rfl e20 hc11) rfl hJ
      trivial) ?_
    refine ac rfl (by
      intro k _nm ρ σm hJ hoff hdep
      have e0 := look_off (N := 32) (hoff 0 rfl) rfl
      exact dp_v (v := (Sl Ee s2.1 Ef)) wn (rv_move e0) rfl hJ) ?_
    refine ac rfl (by
      intro k _nm ρ σm hJ hoff hdep
      have e6 := look_off (N := 32) (hoff 6 rfl) rfl
      exact dp_v (v := (I s2.2.1)) wn (rv_move e6) rfl hJ) ?_
    refine ac rfl (by
      intro k _nm ρ σm hJ hoff hdep
      have e22 := hdep 8 rfl rfl 22 rfl
      have e23 := hdep 9 rfl rfl 23 rfl
      exact dp_v (v := (pt b15 o16)) wn (rv_ix Tryz.underlying31 ti3 e22 e23 hi14) rfl hJ) ?_
    refine all_cons (by
      refine ⟨?_, ?_⟩
      ·intro _nm ρ σm hJ hoff hdep
       have e24 := hdep 10 rfl rfl 24 rfl
       obtain ⟨H, m⟩ := id hJ
       have hc17 := ((H.own 0 rfl).at hx13 hi14).int
       exact dp_v (v := (I x12)) wn (rv_load1 Tryz.underlying3 rfl e24 hc17) rfl hJ
      trivial) ?_
    refine ac rfl (by
      intro k _nm ρ σm hJ hoff hdep
      have e14 := hdep 0 rfl rfl 14 rfl
      have e15 := hdep 1 rfl rfl 15 rfl
      exact dp_v (v := (pt b21 o22)) wn (rv_ix Tryz.underlying31 ti3 e14 e15 hi20) rfl hJ) ?_
    refine all_cons (by
      refine ⟨?_, ?_⟩
      ·intro _nm ρ σm hJ hoff hdep
       have e26 := hdep 12 rfl rfl 26 rfl
       have e21 := hdep 7 rfl rfl 21 rfl
       obtain ⟨H, m⟩ := id hJ
       refine dp_exS wn rfl (ex_store_own (e' := x6) (vs := [(I x6)]) (k := 0) H (i := 0) rfl ti3 hx19 hi20 e26 rfl e21 rfl rfl (Nat.le_of_ble_eq_true rfl) (by simp [plain]) (by rintro _ rfl; exact rfl)) ?_
       rintro σq ⟨H2, m2⟩
       exact ⟨_, (), rfl, ⟨H2.sel' [0] rfl rfl, m.comp m2⟩, stab [0, 1, 2, 3, 4, 5, 6, 7, 8, 9, 10, 11, 12] (by kernel_rfl) ⟨rfl, rfl, rfl, rfl, rfl, rfl, rfl, rfl, rfl, rfl, rfl, rfl, rfl, trivial⟩⟩
      trivial) ?_
    exact all_nil
   ·intro _nm ρ σ23 hJ hoff hrel
    have e0 := look_off (N := 32) (hoff 0 rfl) rfl
    have e6 := look_off (N := 32) (hoff 6 rfl) rfl
    have e7 := look_off (N := 32) (hoff 7 rfl) rfl
    have e16 := hrel 2 rfl 16 rfl
    have e17 := hrel 3 rfl 17 rfl
    have e25 := hrel 11 rfl 25 rfl
    obtain ⟨H, -⟩ := (show Hp S0 σ0 σ23 [Ch.own 0 0 (Sl Ee s2.1 Ef) (s2.1.set s2.2.1.toNat x6)] ∧ Md (fun i => (cov []) i ∨ (fun b => blk (Sl Ee s2.1 Ef) = some b) i) σ3 σ23 from hJ)
    clear hJ Hs
    rw [fr_lookL (L := [(0, (Sl Ee s2.1 Ef)), (6, (I s2.2.1)), (7, (I s2.2.2)), (16, (Sl Ee s2.1 Ef)), (17, (I s2.2.2)), (25, (I x12))]) ⟨e0, e6, e7, e16, e17, e25, trivial⟩]
    clear hoff hrel e0 e6 e7 e16 e17 e25
    have hsl : (Sl Ee s2.1 Ef) = (Sl Ee (s2.1.set s2.2.1.toNat x6) Ef) := sl_len (by simp)
    rw [hsl]; rw [hsl] at H; clear hsl
    revert h; refine br fun x24 hx25 h => ?_
    obtain ⟨b27, o28, hi26, -⟩ := (H.own 0 rfl).ix hx25
    refine st (v := (pt b27 o28)) (rv_ix Tryz.underlying31 ti3 rfl rfl hi26) ?_
    refine st_exS (ex_store_own (e' := x12) (vs := [(I x12)]) (k := 0) H (i := 0) rfl ti3 hx25 hi26 rfl rfl rfl rfl rfl (Nat.le_of_ble_eq_true rfl) (by simp [plain]) (by rintro _ rfl; exact rfl)) wn ?_
    rintro σ29 ⟨H, -⟩
    have hsl : (Sl Ee (s2.1.set s2.2.1.toNat x6) Ef) = (Sl Ee ((s2.1.set s2.2.1.toNat x6).set s2.2.2.toNat x12) Ef) := sl_len List.length_set.symm
    rw [hsl]; rw [hsl] at H; clear hsl
    refine w_end (q_then (c_seq (rg (sm (I s2.2.1) rfl (st (v := (I (w64 (s2.2.1 + 1)))) (rv_add (a := s2.2.1) (b := 1) rfl rfl) (sa (I (w64 (s2.2.1 + 1))) rfl (w_end (q_then (rg (sm (I s2.2.2) rfl (st (v := (I (w64 (s2.2.2 - 1)))) (rv_sub (a := s2.2.2) (b := 1) rfl rfl) ?_)))))))))))
    refine sa (I (w64 (s2.2.2 - 1))) rfl (w_end (q_blk (q_then ?_)))
    obtain rfl := sj h
    exact ⟨_, rfl, _, σ29, fr_join ⟨rfl, rfl, rfl, trivial⟩, rfl, H.sel' [0] rfl rfl, (List.length_set.trans (List.length_set.trans hn4))⟩
  ·replace h := bif_f hb5 h
   refine c_exit (q_then_x (q_then_x (q_blk_hit ?_)))
   obtain rfl := sj h
   obtain rfl := hres _ rfl
   exact ⟨rfl, _, σ3, fr_join ⟨rfl, trivial⟩, rfl, H.sel' [0] rfl rfl, hn4⟩
 ·clear hj
  have h := h'
  clear h' H
  rintro e a w ⟨rfl, ρ, σ30, rfl, rfl, H, hn31⟩
  obtain rfl := sj h
  exact fin_end (v := (.tuple #[])) (results_ok Tryz.results104 res_nil rfl) ⟨rfl, rfl, hn31⟩ (H.sel' [0] rfl rfl)

end Go.Vs
