/- The functions compute what their models say. -/
import Derived.Test.YtfcemgcmpcmgcaaKChangedKeysLogC6
set_option linter.unusedVariables false
set_option linter.unusedSimpArgs false
set_option maxRecDepth 20000
namespace Go.Vs
open Go Go.Proofs
attribute [local irreducible] Code.wp Code.wpIn wpList wpListIn wpQuiet Calls CallsIn

theorem c_impl_LogBetween {Dx : List (Int × (List Int) × Int)} {Dy : List (Int × (List Int) × Int)} {Em : Option Addr} {En : Nat} {Eo : Option Addr} {Ep : Nat} {r : (List (Int × (Int × (List Int) × Int)))} (h : M.impl_LogBetween Dx Dy = some r) :
    Cal2 Try.prog 39 [(Sl Em Dx En), (Sl Eo Dy Ep)] [Ch.ro 0 (Sl Em Dx En) Dx, Ch.ro 0 (Sl Eo Dy Ep) Dy] (fun n0 v L => ∃ (az1 : Option Addr), ∃ (cz2 : Nat), v = (Sl az1 r cz2) ∧ L = [Ch.own n0 n0 (Sl az1 r cz2) r]) := by
 refine cal2 (n := 61) Try.func39 rfl rfl rfl rfl ?_
 intro S0 σ0 n0 hn0 H
 unfold M.impl_LogBetween at h
 refine c_seq (rg (sa (.slice none 0 0) rfl (w_end (q_then (c_seq (c_seq ?_))))))
 obtain ⟨o1, hj, h'⟩ := bind_some h
 clear h
 refine c_cut (fun e a w => e = .normal ∧ ∃ (ρ : Nat → Value) (σ : St), a = fr 61 (updL ρ [(0, (Sl Em Dx En)), (1, (Sl Eo Dy Ep)), (19, (B o1))]) ∧ w = σ.w ∧ Hp S0 σ0 σ [Ch.ro 0 (Sl Em Dx En) Dx, Ch.ro 0 (Sl Eo Dy Ep) Dy]) ?_ ?_
 ·clear h'
  rename _ = some o1 => h
  refine rg (sm (Sl Em Dx En) rfl ?_)
  revert h; refine br fun r2 hx3 h => ?_
  have hc4 := c_impl_ValidStore (Ap := Em) (Aq := En) hx3
  refine st_call (cx_call hc4 (ent_f hc4.fn rfl) hn0 (H.sel' [0, 0, 1] rfl rfl : Hp S0 σ0 _ ([_] ++ _))) wn ?_
  rintro _ σ5 ⟨_, ⟨rfl, rfl⟩, H, -⟩
  replace H : Hp _ _ _ [_, _] := H
  refine st (v := (B (!r2))) (rv_not rfl) (sm (B (!r2)) rfl ?_)
  rcases Bool.eq_false_or_eq_true (!r2) with hb6 | hb6
  ·replace h := bif_t hb6 h
   refine st_skip (congrArg some hb6) (st_skip (congrArg some hb6) (st_skip (congrArg some hb6) (st (v := (B true)) (rv_pick_t (congrArg B hb6) rfl) (w_end ?_))))
   obtain rfl := sj h
   exact ⟨rfl, _, σ5, fr_join ⟨rfl, rfl, rfl, trivial⟩, rfl, H.sel' [0, 1] rfl rfl⟩
  ·replace h := bif_f hb6 h
   refine st_g (v := (Sl Eo Dy Ep)) (congrArg some hb6) (rv_move rfl) ?_
   revert h; refine br fun r7 hx8 h => ?_
   have hc9 := c_impl_ValidStore (Ap := Eo) (Aq := Ep) hx8
   refine st_call (cx_call hc9 (ent_f hc9.fn rfl) hn0 (H.sel' [1, 0, 1] rfl rfl : Hp S0 σ0 _ ([_] ++ _))) (wanted_yes rfl (by exact (congrArg some hb6))) ?_
   rintro _ σ10 ⟨_, ⟨rfl, rfl⟩, H, -⟩
   replace H : Hp _ _ _ [_, _] := H
   refine st_g (v := (B (!r7))) (congrArg some hb6) (rv_not rfl) (st (v := (B (!r7))) (rv_pick_f (congrArg B hb6) rfl) (w_end ?_))
   obtain rfl := sj h
   exact ⟨rfl, _, σ10, fr_join ⟨rfl, rfl, rfl, trivial⟩, rfl, H.sel' [0, 1] rfl rfl⟩
 ·clear hj
  have h := h'
  clear h' H
  rintro e a w ⟨rfl, ρ, σ11, rfl, rfl, H⟩
  refine q_then ?_
  refine cd_cond o1 rfl (fun hb12 => ?_) (fun hb12 => ?_)
  ·replace h := bif_t hb12 h
   refine c_seq (rg (sa (.slice none 0 0) rfl (w_end (q_then (c_ret (q_then_r ?_))))))
   replace H := H.nilOwn (Int × (Int × (List Int) × Int)) n0 n0
   obtain rfl := sj h
   exact fin_ret (v := (.slice none 0 0)) (results_ok Try.results39 (res_tmp (v := (.slice none 0 0)) rfl res_nil) rfl) ⟨none, 0, rfl, rfl⟩ (H.sel' [0] rfl rfl)
  ·replace h := bif_f hb12 h
   refine c_skip (q_then (c_seq (rg (sa (.slice none 0 0) rfl (w_end (q_then (c_seq (c_seq (rg (sm (Sl Em Dx En) rfl (st (v := (I (Dx.length : Int))) (rv_len Try.underlying33 rfl) ?_)))))))))))
   refine sm (I 0) rfl (w_end (q_then ?_))
   obtain ⟨o13, hj, h'⟩ := bind_some h
   clear h
   refine c_cut (fun e a w => e = .normal ∧ ∃ (ρ : Nat → Value) (σ : St) (aj1 : Option Addr) (cj2 : Nat), a = fr 61 (updL ρ [(0, (Sl Em Dx En)), (1, (Sl Eo Dy Ep)), (5, (Sl aj1 o13 cj2))]) ∧ w = σ.w ∧ Hp S0 σ0 σ [Ch.ro 0 (Sl Em Dx En) Dx, Ch.ro 0 (Sl Eo Dy Ep) Dy, Ch.own n0 n0 (Sl aj1 o13 cj2) o13]) ?_ ?_
   ·clear h'
    rename _ = some o13 => h
    refine c_blk ?_
    replace H := H.nilOwn (Int × (Int × (List Int) × Int)) n0 n0
    refine wp_loopM _ h (fun s14 a w => ∃ (ρ : Nat → Value) (σ : St) (aj1 : Option Addr) (cj2 : Nat), a = fr 61 (updL ρ [(0, (Sl Em Dx En)), (1, (Sl Eo Dy Ep)), (5, (Sl aj1 s14.1 cj2)), (20, (Sl Em Dx En)), (21, (I (Dx.length : Int))), (22, (I s14.2))]) ∧ w = σ.w ∧ Hp S0 σ0 σ [Ch.ro 0 (Sl Em Dx En) Dx, Ch.ro 0 (Sl Eo Dy Ep) Dy, Ch.own n0 n0 (Sl aj1 s14.1 cj2) s14.1]) ⟨_, σ11, none, 0, fr_join ⟨rfl, rfl, rfl, rfl, rfl, rfl, trivial⟩, rfl, H.sel' [1, 2, 0] rfl rfl⟩ ?_
    clear h H
    rintro s14 a w o ⟨ρ, σ15, a16, c17, rfl, rfl, H⟩ h hres
    refine c_seq (rg (st (v := (B (decide (s14.2 < (Dx.length : Int))))) (rv_lss (a := s14.2) (b := (Dx.length : Int)) rfl rfl) (w_end (q_then (c_seq ?_)))))
    refine cd_cond (decide (s14.2 < (Dx.length : Int))) rfl (fun hb18 => ?_) (fun hb18 => ?_)
    ·replace h := bif_t hb18 h
     refine c_skip (q_then (c_seq ?_))
     obtain ⟨o19, hj, h'⟩ := bind_some h
     clear h
     refine c_cut (fun e a w => e = .normal ∧ ∃ (ρ : Nat → Value) (σ : St) (aj1 : Option Addr) (cj2 : Nat), a = fr 61 (updL ρ [(0, (Sl Em Dx En)), (1, (Sl Eo Dy Ep)), (5, (Sl aj1 o19 cj2)), (20, (Sl Em Dx En)), (21, (I (Dx.length : Int))), (22, (I s14.2))]) ∧ w = σ.w ∧ Hp S0 σ0 σ [Ch.ro 0 (Sl Em Dx En) Dx, Ch.ro 0 (Sl Eo Dy Ep) Dy, Ch.own n0 n0 (Sl aj1 o19 cj2) o19]) ?_ ?_
     ·clear h'
      rename _ = some o19 => h
      refine c_blk (c_seq (rg ?_))
      revert h; refine br fun x20 hx21 h => ?_
      obtain ⟨b23, o24, hi22, -⟩ := (H.ro 0 rfl).ix hx21
      refine st (v := (pt b23 o24)) (rv_ix Try.underlying33 ti41 rfl rfl hi22) ?_
      obtain ⟨_, ⟨_, _, rfl, rfl, ⟨_, _, rfl, ⟨_, rfl, hR29⟩, rfl⟩⟩, hl25, hc26⟩ := ((H.ro 0 rfl).at hx21 hi22).cells
      obtain ⟨a27, c28, rfl⟩ := hR29.isSl
      replace H := H.add (d := Ch.ro 0 (Sl a27 x20.2.1 c28) x20.2.1) hR29 (fun _ h => h)
      clear hR29
      refine st (v := (.agg #[(I x20.1), (Sl a27 x20.2.1 c28), (I x20.2.2)])) (rv_load Try.underlying41 rfl ti41 rfl hl25 hc26) (st_ex (ex_alloc (cs := [(I 0), (.slice none 0 0), (I 0)]) H hn0 ti41 rfl) wn ?_)
      rintro _ σ31 ⟨b30, rfl, H, -⟩
      refine st_exS (ex_store_box (k := 0) (cs := [(I 0), (.slice none 0 0), (I 0)]) (vs := [(I x20.1), (Sl a27 x20.2.1 c28), (I x20.2.2)]) (cs' := [(I x20.1), (Sl a27 x20.2.1 c28), (I x20.2.2)]) H (i := 0) rfl ti41 rfl rfl rfl rfl rfl (Nat.le_of_ble_eq_true rfl) (by simp [plain]) rfl) wn ?_
      rintro σ32 ⟨H, -⟩
      refine w_end (q_then (c_seq (rg (sm (Sl Eo Dy Ep) rfl (st (v := (pt b30 0)) (rv_fieldAddr (off := 0) (ft := 3) Try.underlying41 rfl ti3 rfl rfl) ?_)))))
      have hc33 := H.cell (u := (I x20.1)) (o' := 0) 0 0 rfl rfl rfl
      refine st (v := (I x20.1)) (rv_load1 Try.underlying3 rfl rfl hc33) ?_
      revert h; refine br fun r34 hx35 h => ?_
      have hc36 := c_impl_placeOf (Ap := Eo) (Aq := Ep) hx35
      refine st_call (cx_call hc36 (ent_f hc36.fn rfl) hn0 (H.sel' [3, 0, 1, 2, 3, 4] rfl rfl : Hp S0 σ0 _ ([_] ++ _))) wn ?_
      rintro _ σ37 ⟨_, ⟨rfl, rfl⟩, H, -⟩
      replace H : Hp _ _ _ [_, _, _, _, _] := H
      refine sm (.tuple #[(I r34.1), (B r34.2)]) rfl (st (v := (I r34.1)) (rv_extract rfl rfl) (st (v := (B r34.2)) (rv_extract rfl rfl) (sa (I r34.1) rfl (sa (B r34.2) rfl (w_end (q_then (c_seq (rg (sm (B r34.2) rfl (st (v := (B (!r34.2))) (rv_not rfl) (w_end ?_)))))))))))
      refine q_then ?_
      refine cd_cond (!r34.2) rfl (fun hb38 => ?_) (fun hb38 => ?_)
      ·replace h := bif_t hb38 h
       refine rg (sm (Sl a16 s14.1 c17) rfl (st (v := (pt b30 0)) (rv_fieldAddr (off := 0) (ft := 3) Try.underlying41 rfl ti3 rfl rfl) ?_))
       have hc39 := H.cell (u := (I x20.1)) (o' := 0) 0 0 rfl rfl rfl
       refine st (v := (I x20.1)) (rv_load1 Try.underlying3 rfl rfl hc39) ?_
       refine st (v := (.agg #[(I x20.1)])) (rv_build (ps := [(0, (I x20.1))]) Try.underlying94 ti94 (bp94 Try.underlying94) rfl (by kernel_rfl)) ?_
       revert h; refine br fun r40 hx41 h => ?_
       have hc42 := c_impl_dropChange_entry hx41
       refine st_call (cx_call hc42 (ent_f hc42.fn rfl) hn0 (H.sel' [0, 1, 2, 3, 4] rfl rfl : Hp S0 σ0 _ ([] ++ _))) wn ?_
       rintro _ σ43 ⟨_, ⟨rfl, rfl⟩, H, -⟩
       replace H : Hp _ _ _ [_, _, _, _, _] := H
       refine st_ex (ex_buildSlice (el := n0) (xs := ([(r40.1, (r40.2.1, [], r40.2.2.2))] : List (Int × (Int × (List Int) × Int)))) (ps := [(0, (.agg #[(I r40.1), (I r40.2.1), (.slice none 0 0), (I r40.2.2.2)]))]) (cs := [(I r40.1), (I r40.2.1), (.slice none 0 0), (I r40.2.2.2)]) H hn0 Try.underlying23 ti43 rfl rfl (by kernel_rfl) (.cons (c := [(I r40.1), (I r40.2.1), (.slice none 0 0), (I r40.2.2.2)]) ⟨[(I r40.1)], [(I r40.2.1), (.slice none 0 0), (I r40.2.2.2)], rfl, rfl, ⟨[(I r40.2.1)], [(.slice none 0 0), (I r40.2.2.2)], rfl, rfl, ⟨[(.slice none 0 0)], [(I r40.2.2.2)], rfl, ⟨_, rfl, RS.nil⟩, rfl⟩⟩⟩ (.nil)) rfl) wn ?_
       rintro _ σ45 ⟨b44, rfl, H, -⟩
       revert h; refine br fun xs46 hx47 h => ?_
       refine st_ex (ex_append H (i := 5) rfl Try.underlying23 Try.underlying23 ti43 rfl rfl (by decide) (H.own 0 rfl).rd hx47 hn0 rfl rfl) wn ?_
       rintro _ σ50 ⟨a48, c49, rfl, H, -⟩
       refine sa (Sl a48 xs46 c49) rfl (w_end (q_blk ?_))
       obtain rfl := sj h
       exact ⟨rfl, _, σ50, a48, c49, fr_join ⟨rfl, rfl, rfl, rfl, rfl, rfl, trivial⟩, rfl, H.sel' [4, 5, 0] rfl rfl⟩
      ·replace h := bif_f hb38 h
       refine c_skip (q_blk ?_)
       obtain rfl := sj h
       exact ⟨rfl, _, σ37, a16, c17, fr_join ⟨rfl, rfl, rfl, rfl, rfl, rfl, trivial⟩, rfl, H.sel' [2, 3, 4] rfl rfl⟩
     ·clear hj
      have h := h'
      clear h' H
      rintro e a w ⟨rfl, ρ, σ51, a52, c53, rfl, rfl, H⟩
      refine q_then (rg (st (v := (I (w64 (s14.2 + 1)))) (rv_add (a := s14.2) (b := 1) rfl rfl) (sm (I (w64 (s14.2 + 1))) rfl (w_end (q_then ?_)))))
      obtain rfl := sj h
      exact ⟨_, rfl, _, σ51, a52, c53, fr_join ⟨rfl, rfl, rfl, rfl, rfl, rfl, trivial⟩, rfl, H.sel' [0, 1, 2] rfl rfl⟩
    ·replace h := bif_f hb18 h
     refine c_exit (q_then_x (q_then_x (q_blk_hit ?_)))
     obtain rfl := sj h
     obtain rfl := hres _ rfl
     exact ⟨rfl, _, σ15, a16, c17, fr_join ⟨rfl, rfl, rfl, trivial⟩, rfl, H.sel' [0, 1, 2] rfl rfl⟩
   ·clear hj
    have h := h'
    clear h' H
    rintro e a w ⟨rfl, ρ, σ54, a55, c56, rfl, rfl, H⟩
    refine q_then (c_seq (c_seq (rg (sm (Sl Eo Dy Ep) rfl (st (v := (I (Dy.length : Int))) (rv_len Try.underlying33 rfl) (sm (I 0) rfl (w_end (q_then ?_))))))))
    obtain ⟨o57, hj, h'⟩ := bind_some h
    clear h
    refine c_cut (fun e a w => e = .normal ∧ ∃ (ρ : Nat → Value) (σ : St) (aj1 : Option Addr) (cj2 : Nat), a = fr 61 (updL ρ [(5, (Sl aj1 o57 cj2))]) ∧ w = σ.w ∧ Hp S0 σ0 σ [Ch.own n0 n0 (Sl aj1 o57 cj2) o57]) ?_ ?_
    ·clear h'
     rename _ = some o57 => h
     refine c_blk (wp_loopM _ h (fun s58 a w => ∃ (ρ : Nat → Value) (σ : St) (aj1 : Option Addr) (cj2 : Nat), a = fr 61 (updL ρ [(0, (Sl Em Dx En)), (5, (Sl aj1 s58.1 cj2)), (43, (Sl Eo Dy Ep)), (44, (I (Dy.length : Int))), (45, (I s58.2))]) ∧ w = σ.w ∧ Hp S0 σ0 σ [Ch.ro 0 (Sl Em Dx En) Dx, Ch.own n0 n0 (Sl aj1 s58.1 cj2) s58.1, Ch.ro 0 (Sl Eo Dy Ep) Dy]) ⟨_, σ54, a55, c56, fr_join ⟨rfl, rfl, rfl, rfl, rfl, trivial⟩, rfl, H.sel' [0, 2, 1] rfl rfl⟩ ?_)
     clear h H
     rintro s58 a w o ⟨ρ, σ59, a60, c61, rfl, rfl, H⟩ h hres
     refine c_seq (rg (st (v := (B (decide (s58.2 < (Dy.length : Int))))) (rv_lss (a := s58.2) (b := (Dy.length : Int)) rfl rfl) (w_end (q_then (c_seq ?_)))))
     refine cd_cond (decide (s58.2 < (Dy.length : Int))) rfl (fun hb62 => ?_) (fun hb62 => ?_)
     ·replace h := bif_t hb62 h
      refine c_skip (q_then (c_seq ?_))
      obtain ⟨o63, hj, h'⟩ := bind_some h
      clear h
      refine c_cut (fun e a w => e = .normal ∧ ∃ (ρ : Nat → Value) (σ : St) (aj1 : Option Addr) (cj2 : Nat), a = fr 61 (updL ρ [(0, (Sl Em Dx En)), (5, (Sl aj1 o63 cj2)), (43, (Sl Eo Dy Ep)), (44, (I (Dy.length : Int))), (45, (I s58.2))]) ∧ w = σ.w ∧ Hp S0 σ0 σ [Ch.ro 0 (Sl Em Dx En) Dx, Ch.own n0 n0 (Sl aj1 o63 cj2) o63, Ch.ro 0 (Sl Eo Dy Ep) Dy]) ?_ ?_
      ·clear h'
       rename _ = some o63 => h
       refine c_blk (c_seq (rg ?_))
       revert h; refine br fun x64 hx65 h => ?_
       obtain ⟨b67, o68, hi66, -⟩ := (H.ro 2 rfl).ix hx65
       refine st (v := (pt b67 o68)) (rv_ix Try.underlying33 ti41 rfl rfl hi66) ?_
       obtain ⟨_, ⟨_, _, rfl, rfl, ⟨_, _, rfl, ⟨_, rfl, hR73⟩, rfl⟩⟩, hl69, hc70⟩ := ((H.ro 2 rfl).at hx65 hi66).cells
       obtain ⟨a71, c72, rfl⟩ := hR73.isSl
       replace H := H.add (d := Ch.ro 0 (Sl a71 x64.2.1 c72) x64.2.1) hR73 (fun _ h => h)
       clear hR73
       refine st (v := (.agg #[(I x64.1), (Sl a71 x64.2.1 c72), (I x64.2.2)])) (rv_load Try.underlying41 rfl ti41 rfl hl69 hc70) (st_ex (ex_alloc (cs := [(I 0), (.slice none 0 0), (I 0)]) H hn0 ti41 rfl) wn ?_)
       rintro _ σ75 ⟨b74, rfl, H, -⟩
       refine st_exS (ex_store_box (k := 0) (cs := [(I 0), (.slice none 0 0), (I 0)]) (vs := [(I x64.1), (Sl a71 x64.2.1 c72), (I x64.2.2)]) (cs' := [(I x64.1), (Sl a71 x64.2.1 c72), (I x64.2.2)]) H (i := 0) rfl ti41 rfl rfl rfl rfl rfl (Nat.le_of_ble_eq_true rfl) (by simp [plain]) rfl) wn ?_
       rintro σ76 ⟨H, -⟩
       refine w_end (q_then (c_seq (rg (sm (Sl Em Dx En) rfl ?_))))
       have hc77 := H.cells 0 rfl
       refine st (v := (.agg #[(I x64.1), (Sl a71 x64.2.1 c72), (I x64.2.2)])) (rv_load (cs := [(I x64.1), (Sl a71 x64.2.1 c72), (I x64.2.2)]) Try.underlying41 rfl ti41 rfl rfl hc77) ?_
       revert h; refine br fun r78 hx79 h => ?_
       have hc80 := c_impl_hasItem (Ap := Em) (Aq := En) (Br := a71) (Bs := c72) hx79
       refine st_call (cx_call hc80 (ent_f hc80.fn rfl) hn0 (H.sel' [2, 1, 0, 1, 2, 3, 4] rfl rfl : Hp S0 σ0 _ ([_, _] ++ _))) wn ?_
       rintro _ σ81 ⟨_, ⟨rfl, rfl⟩, H, -⟩
       replace H : Hp _ _ _ [_, _, _, _, _] := H
       refine st (v := (B (!r78))) (rv_not rfl) (w_end (q_then ?_))
       refine cd_cond (!r78) rfl (fun hb82 => ?_) (fun hb82 => ?_)
       ·replace h := bif_t hb82 h
        refine rg (sm (Sl a60 s58.1 c61) rfl ?_)
        have hc83 := H.cells 0 rfl
        refine st (v := (.agg #[(I x64.1), (Sl a71 x64.2.1 c72), (I x64.2.2)])) (rv_load (cs := [(I x64.1), (Sl a71 x64.2.1 c72), (I x64.2.2)]) Try.underlying41 rfl ti41 rfl rfl hc83) ?_
        refine st (v := (.agg #[(I x64.1), (Sl a71 x64.2.1 c72), (I x64.2.2)])) (rv_build (ps := [(0, (.agg #[(I x64.1), (Sl a71 x64.2.1 c72), (I x64.2.2)]))]) Try.underlying98 ti98 (bp98 Try.underlying98) rfl (by kernel_rfl)) ?_
        revert h; refine br fun r84 hx85 h => ?_
        have hc86 := c_impl_putChange_entry (Bt := a71) (Bu := c72) hx85
        refine st_call (cx_call hc86 (ent_f hc86.fn rfl) hn0 (H.sel' [1, 0, 1, 2, 3, 4] rfl rfl : Hp S0 σ0 _ ([_] ++ _))) wn ?_
        rintro _ σ89 ⟨_, ⟨a87, c88, rfl, rfl⟩, H, -⟩
        replace H : Hp _ _ _ [_, _, _, _, _, _] := H
        obtain ⟨σ90, hw91, H, -⟩ := H.pub 0 rfl (Nat.le_refl _)
        rw [← hw91]; clear hw91
        refine st_ex (ex_buildSlice (el := n0) (xs := ([(r84.1, (r84.2.1, r84.2.2.1, r84.2.2.2))] : List (Int × (Int × (List Int) × Int)))) (ps := [(0, (.agg #[(I r84.1), (I r84.2.1), (Sl a87 r84.2.2.1 c88), (I r84.2.2.2)]))]) (cs := [(I r84.1), (I r84.2.1), (Sl a87 r84.2.2.1 c88), (I r84.2.2.2)]) H hn0 Try.underlying23 ti43 rfl rfl (by kernel_rfl) (.cons (c := [(I r84.1), (I r84.2.1), (Sl a87 r84.2.2.1 c88), (I r84.2.2.2)]) ⟨[(I r84.1)], [(I r84.2.1), (Sl a87 r84.2.2.1 c88), (I r84.2.2.2)], rfl, rfl, ⟨[(I r84.2.1)], [(Sl a87 r84.2.2.1 c88), (I r84.2.2.2)], rfl, rfl, ⟨[(Sl a87 r84.2.2.1 c88)], [(I r84.2.2.2)], rfl, ⟨_, rfl, (H.ro 0 rfl)⟩, rfl⟩⟩⟩ (.nil)) rfl) wn ?_
        rintro _ σ93 ⟨b92, rfl, H, -⟩
        revert h; refine br fun xs94 hx95 h => ?_
        refine st_ex (ex_append H (i := 5) rfl Try.underlying23 Try.underlying23 ti43 rfl rfl (by decide) (H.own 0 rfl).rd hx95 hn0 rfl rfl) wn ?_
        rintro _ σ98 ⟨a96, c97, rfl, H, -⟩
        refine sa (Sl a96 xs94 c97) rfl (w_end (q_blk ?_))
        obtain rfl := sj h
        exact ⟨rfl, _, σ98, a96, c97, fr_join ⟨rfl, rfl, rfl, rfl, rfl, trivial⟩, rfl, H.sel' [5, 0, 6] rfl rfl⟩
       ·replace h := bif_f hb82 h
        refine c_skip (q_blk ?_)
        obtain rfl := sj h
        exact ⟨rfl, _, σ81, a60, c61, fr_join ⟨rfl, rfl, rfl, rfl, rfl, trivial⟩, rfl, H.sel' [2, 3, 4] rfl rfl⟩
      ·clear hj
       have h := h'
       clear h' H
       rintro e a w ⟨rfl, ρ, σ99, a100, c101, rfl, rfl, H⟩
       refine q_then (rg (st (v := (I (w64 (s58.2 + 1)))) (rv_add (a := s58.2) (b := 1) rfl rfl) (sm (I (w64 (s58.2 + 1))) rfl (w_end (q_then ?_)))))
       obtain rfl := sj h
       exact ⟨_, rfl, _, σ99, a100, c101, fr_join ⟨rfl, rfl, rfl, rfl, rfl, trivial⟩, rfl, H.sel' [0, 1, 2] rfl rfl⟩
     ·replace h := bif_f hb62 h
      refine c_exit (q_then_x (q_then_x (q_blk_hit ?_)))
      obtain rfl := sj h
      obtain rfl := hres _ rfl
      exact ⟨rfl, _, σ59, a60, c61, fr_join ⟨rfl, trivial⟩, rfl, H.sel' [1] rfl rfl⟩
    ·clear hj
     have h := h'
     clear h' H
     rintro e a w ⟨rfl, ρ, σ102, a103, c104, rfl, rfl, H⟩
     refine q_then (c_seq (rg (sm (Sl a103 o57 c104) rfl (sa (Sl a103 o57 c104) rfl (w_end (q_then (c_ret ?_)))))))
     obtain rfl := sj h
     exact fin_ret (v := (Sl a103 o57 c104)) (results_ok Try.results39 (res_tmp (v := (Sl a103 o57 c104)) rfl res_nil) rfl) ⟨a103, c104, rfl, rfl⟩ (H.sel' [0] rfl rfl)

theorem c_laws_FnChangedKeysLog {Dh : List UInt8} {Di : Option Addr} {Dj : Nat} {r : Bool} (h : M.laws_FnChangedKeysLog Dh = some r) :
    Cal2 Try.prog 11 [(Sl Di Dh Dj)] [Ch.ro 0 (Sl Di Dh Dj) Dh] (fun n0 v L => v = (B r) ∧ L = []) := by
 refine cal2 (n := 67) Try.func11 rfl rfl rfl rfl ?_
 intro S0 σ0 n0 hn0 H
 unfold M.laws_FnChangedKeysLog at h
 refine c_seq (rg (sa (B false) rfl (w_end (q_then (c_seq (c_seq (rg (sm (Sl Di Dh Dj) rfl (st (v := (I (Dh.length : Int))) (rv_len Try.underlying22 rfl) (st (v := (B (decide (1048576 < (Dh.length : Int))))) (rv_gtr (a := (Dh.length : Int)) (b := 1048576) rfl rfl) (w_end ?_)))))))))))
 refine q_then ?_
 refine cd_cond (decide (1048576 < (Dh.length : Int))) rfl (fun hb1 => ?_) (fun hb1 => ?_)
 ·replace h := bif_t hb1 h
  refine c_seq (rg (sa (B true) rfl (w_end (q_then (c_ret (q_then_r ?_))))))
  obtain rfl := sj h
  exact fin_ret (v := (B true)) (results_ok Try.results11 (res_tmp (v := (B true)) rfl res_nil) rfl) ⟨rfl, rfl⟩ (H.sel' [] rfl rfl)
 ·replace h := bif_f hb1 h
  refine c_skip (q_then (c_seq (rg (sm (Sl Di Dh Dj) rfl ?_))))
  revert h; refine br fun r2 hx3 h => ?_
  have hc4 := c_spec_DrawChangedKeys (Di := Di) (Dj := Dj) hx3
  refine st_call (cx_call hc4 (ent_f hc4.fn rfl) hn0 (H.sel' [0, 0] rfl rfl : Hp S0 σ0 _ ([_] ++ _))) wn ?_
  rintro _ σ9 ⟨_, ⟨a5, c6, a7, c8, rfl, rfl⟩, H, -⟩
  replace H : Hp _ _ _ [_, _, _] := H
  refine sm (.tuple #[(.agg #[(Sl a5 r2.1.1 c6), (Sl a7 r2.1.2 c8)]), (I r2.2.1), (I r2.2.2)]) rfl (st (v := (.agg #[(Sl a5 r2.1.1 c6), (Sl a7 r2.1.2 c8)])) (rv_extract rfl rfl) (st (v := (I r2.2.1)) (rv_extract rfl rfl) (st (v := (I r2.2.2)) (rv_extract rfl rfl) (st_ex (ex_alloc (cs := [(.slice none 0 0), (.slice none 0 0)]) H hn0 ti26 rfl) wn ?_))))
  rintro _ σ11 ⟨b10, rfl, H, -⟩
  refine st_exS (ex_store_box (k := 0) (cs := [(.slice none 0 0), (.slice none 0 0)]) (vs := [(Sl a5 r2.1.1 c6), (Sl a7 r2.1.2 c8)]) (cs' := [(Sl a5 r2.1.1 c6), (Sl a7 r2.1.2 c8)]) H (i := 0) rfl ti26 rfl rfl rfl rfl rfl (Nat.le_of_ble_eq_true rfl) (by simp [plain]) rfl) wn ?_
  rintro σ12 ⟨H, -⟩
  refine sa (I r2.2.1) rfl (sa (I r2.2.2) rfl (w_end (q_then (c_seq (rg ?_)))))
  have hc13 := H.cells 0 rfl
  refine st (v := (.agg #[(Sl a5 r2.1.1 c6), (Sl a7 r2.1.2 c8)])) (rv_load (cs := [(Sl a5 r2.1.1 c6), (Sl a7 r2.1.2 c8)]) Try.underlying26 rfl ti26 rfl rfl hc13) (sm (I r2.2.1) rfl (sm (I r2.2.2) rfl ?_))
  replace H := H.roLow 1 0 rfl (Nat.zero_le _)
  replace H := H.roLow 3 0 rfl (Nat.zero_le _)
  revert h; refine br fun r14 hx15 h => ?_
  have hc16 := c_impl_ChangedKeys (Cd := a5) (Ce := c6) (Cf := a7) (Cg := c8) hx15
  refine st_call (cx_call hc16 (ent_f hc16.fn rfl) hn0 (H.sel' [1, 0, 0, 1, 2, 3, 4, 5] rfl rfl : Hp S0 σ0 _ ([_, _] ++ _))) wn ?_
  rintro _ σ19 ⟨_, ⟨a17, c18, rfl, rfl⟩, H, -⟩
  replace H : Hp _ _ _ [_, _, _, _, _, _, _] := H
  refine sa (Sl a17 r14 c18) rfl (w_end (q_then (c_seq (c_seq ?_))))
  obtain ⟨o20, hj, h'⟩ := bind_some h
  clear h
  refine c_cut (fun e a w => e = .normal ∧ ∃ (ρ : Nat → Value) (σ : St), a = fr 67 (updL ρ [(3, (pt b10 0)), (4, (I r2.2.1)), (5, (I r2.2.2)), (6, (Sl a17 r14 c18)), (33, (B o20))]) ∧ w = σ.w ∧ Hp S0 σ0 σ [Ch.ro n0 (Sl a5 r2.1.1 c6) r2.1.1, Ch.ro n0 (Sl a7 r2.1.2 c8) r2.1.2, Ch.bx n0 b10 0 [(Sl a5 r2.1.1 c6), (Sl a7 r2.1.2 c8)] [] [], Ch.own 0 n0 (Sl a17 r14 c18) r14]) ?_ ?_
  ·clear h'
   rename _ = some o20 => h
   refine rg (sm (Sl a17 r14 c18) rfl ?_)
   have hc21 := H.cells 3 rfl
   refine st (v := (.agg #[(Sl a5 r2.1.1 c6), (Sl a7 r2.1.2 c8)])) (rv_load (cs := [(Sl a5 r2.1.1 c6), (Sl a7 r2.1.2 c8)]) Try.underlying26 rfl ti26 rfl rfl hc21) (sm (I r2.2.1) rfl (sm (I r2.2.2) rfl ?_))
   replace H := H.roLow 4 0 rfl (Nat.zero_le _)
   replace H := H.roLow 6 0 rfl (Nat.zero_le _)
   revert h; refine br fun r22 hx23 h => ?_
   have hc24 := c_spec_ChangedKeys (Cd := a5) (Ce := c6) (Cf := a7) (Cg := c8) hx23
   refine st_call (cx_call hc24 (ent_f hc24.fn rfl) hn0 (H.sel' [1, 0, 0, 1, 2, 3, 4, 5, 6, 7, 8] rfl rfl : Hp S0 σ0 _ ([_, _] ++ _))) wn ?_
   rintro _ σ27 ⟨_, ⟨a25, c26, rfl, rfl⟩, H, -⟩
   replace H : Hp _ _ _ [_, _, _, _, _, _, _, _, _, _] := H
   replace H : Hp S0 σ0 σ27 [Ch.own n0 n0 (Sl a25 r22 c26) r22, Ch.own 0 n0 (Sl a17 r14 c18) r14, Ch.bx n0 b10 0 [(Sl a5 r2.1.1 c6), (Sl a7 r2.1.2 c8)] [] [], Ch.ro n0 (Sl a5 r2.1.1 c6) r2.1.1, Ch.ro n0 (Sl a7 r2.1.2 c8) r2.1.2] := H.sel' [0, 3, 6, 7, 8] rfl rfl
   obtain ⟨σ28, hw29, H, -⟩ := H.pub 0 rfl (Nat.le_refl _)
   rw [← hw29]; clear hw29
   replace H := H.roLow 0 0 rfl (Nat.zero_le _)
   revert h; refine br fun r30 hx31 h => ?_
   have hc32 := c_laws_equalInts (Em := a17) (En := c18) (Eo := a25) (Ep := c26) hx31
   have hle := Nat.le_trans hn0 H.size
   refine st_call (cx_lend (Loan.lend (Loan.same Loan.nil)) hc32 (ent_f hc32.fn rfl) (show Hp S0 σ0 _ ([Ch.own 0 n0 (Sl a17 r14 c18) r14] ++ ([Ch.ro 0 (Sl a25 r22 c26) r22] ++ [Ch.ro 0 (Sl a25 r22 c26) r22, Ch.ro n0 (Sl a25 r22 c26) r22, Ch.bx n0 b10 0 [(Sl a5 r2.1.1 c6), (Sl a7 r2.1.2 c8)] [] [], Ch.ro n0 (Sl a5 r2.1.1 c6) r2.1.1, Ch.ro n0 (Sl a7 r2.1.2 c8) r2.1.2])) from (H.sel' [2, 0, 0, 1, 3, 4, 5] rfl rfl)) (by rintro _ _ _ ⟨rfl, rfl⟩; exact trivial)) wn ?_
   rintro _ σ33 ⟨_, ⟨rfl, rfl⟩, H, -, -⟩
   replace H : Hp _ _ _ [_, _, _, _, _, _] := H
   clear hle
   replace H : Hp _ _ _ [_, _, _, _, _, _] := H
   refine st (v := (B (!r30))) (rv_not rfl) (sm (B (!r30)) rfl ?_)
   rcases Bool.eq_false_or_eq_true (!r30) with hb34 | hb34
   ·replace h := bif_t hb34 h
    refine st_skip (congrArg some hb34) (st_skip (congrArg some hb34) (st_skip (congrArg some hb34) (st (v := (B true)) (rv_pick_t (congrArg B hb34) rfl) (w_end ?_))))
    obtain rfl := sj h
    exact ⟨rfl, _, σ33, fr_join ⟨rfl, rfl, rfl, rfl, rfl, trivial⟩, rfl, H.sel' [4, 5, 3, 0] rfl rfl⟩
   ·replace h := bif_f hb34 h
    refine st_g (v := (Sl a17 r14 c18)) (congrArg some hb34) (rv_move rfl) (st_g (v := (I (r14.length : Int))) (congrArg some hb34) (rv_len Try.underlying24 rfl) (st_g (v := (B ((r14.length : Int) == 0))) (congrArg some hb34) (rv_eql (a := (r14.length : Int)) (b := 0) rfl rfl) (st (v := (B ((r14.length : Int) == 0))) (rv_pick_f (congrArg B hb34) rfl) (w_end ?_))))
    obtain rfl := sj h
    exact ⟨rfl, _, σ33, fr_join ⟨rfl, rfl, rfl, rfl, rfl, trivial⟩, rfl, H.sel' [4, 5, 3, 0] rfl rfl⟩
  ·clear hj
   have h := h'
   clear h' H
   rintro e a w ⟨rfl, ρ, σ35, rfl, rfl, H⟩
   refine q_then ?_
   refine cd_cond o20 rfl (fun hb36 => ?_) (fun hb36 => ?_)
   ·replace h := bif_t hb36 h
    refine c_seq (rg (sm (Sl a17 r14 c18) rfl ?_))
    have hc37 := H.cells 2 rfl
    refine st (v := (.agg #[(Sl a5 r2.1.1 c6), (Sl a7 r2.1.2 c8)])) (rv_load (cs := [(Sl a5 r2.1.1 c6), (Sl a7 r2.1.2 c8)]) Try.underlying26 rfl ti26 rfl rfl hc37) (sm (I r2.2.1) rfl (sm (I r2.2.2) rfl ?_))
    replace H := H.roLow 0 0 rfl (Nat.zero_le _)
    replace H := H.roLow 2 0 rfl (Nat.zero_le _)
    revert h; refine br fun r38 hx39 h => ?_
    have hc40 := c_spec_ChangedKeys (Cd := a5) (Ce := c6) (Cf := a7) (Cg := c8) hx39
    refine st_call (cx_call hc40 (ent_f hc40.fn rfl) hn0 (H.sel' [1, 0, 0, 1, 2, 3, 4, 5] rfl rfl : Hp S0 σ0 _ ([_, _] ++ _))) wn ?_
    rintro _ σ43 ⟨_, ⟨a41, c42, rfl, rfl⟩, H, -⟩
    replace H : Hp _ _ _ [_, _, _, _, _, _, _] := H
    replace H := H.ownLow 6 0 0 rfl (Nat.le_refl _) (Nat.zero_le _)
    obtain ⟨σ44, hw45, H, -⟩ := H.pub 0 rfl (Nat.le_refl _)
    rw [← hw45]; clear hw45
    obtain ⟨σ46, hw47, H, -⟩ := H.pub 1 rfl (Nat.le_refl _)
    rw [← hw47]; clear hw47
    replace H := H.roLow 0 0 rfl (Nat.zero_le _)
    revert h; refine br fun r48 hx49 h => ?_
    have hc50 := c_laws_equalInts (Em := a17) (En := c18) (Eo := a41) (Ep := c42) hx49
    refine st_call (cx_call hc50 (ent_f hc50.fn rfl) hn0 (H.sel' [2, 0, 0, 1, 2, 3, 4, 5, 6, 7] rfl rfl : Hp S0 σ0 _ ([_, _] ++ _))) wn ?_
    rintro _ σ51 ⟨_, ⟨rfl, rfl⟩, H, -⟩
    replace H : Hp _ _ _ [_, _, _, _, _, _, _, _] := H
    replace H : Hp S0 σ0 σ51 [] := H.sel' [] rfl rfl
    refine sa (B r48) rfl (w_end (q_then (c_ret (q_then_r ?_))))
    obtain rfl := sj h
    exact fin_ret (v := (B r48)) (results_ok Try.results11 (res_tmp (v := (B r48)) rfl res_nil) rfl) ⟨rfl, rfl⟩ (H.sel' [] rfl rfl)
   ·replace h := bif_f hb36 h
    refine c_skip (q_then (c_seq ?_))
    have hc52 := H.cells 2 rfl
    replace H := H.roLow 0 0 rfl (Nat.zero_le _)
    replace H := H.roLow 2 0 rfl (Nat.zero_le _)
    revert h; refine br fun r53 hx54 h => ?_
    have hc55 := c_impl_StoreAt (Cd := a5) (Ce := c6) (Cf := a7) (Cg := c8) hx54
    have hc58 := H.cells 4 rfl
    have Hs := H
    refine rg2 (σ := σ35) (Nm := (Option Addr) × (Nat)) 5 [2] [[false], [true]] [[(0, 0)], [(0, 0)], [(0, 1)], [(0, 0), (1, 1)], [(0, 0), (1, 1)]] 1 [fun ((a56, c57) : (Option Addr) × (Nat)) => fun σm => Hp S0 σ0 σm [Ch.ro 0 (Sl a7 r2.1.2 c8) r2.1.2, Ch.ro 0 (Sl a5 r2.1.1 c6) r2.1.1, Ch.ro n0 (Sl a5 r2.1.1 c6) r2.1.1, Ch.ro n0 (Sl a7 r2.1.2 c8) r2.1.2, Ch.bx n0 b10 0 [(Sl a5 r2.1.1 c6), (Sl a7 r2.1.2 c8)] [] [], Ch.own 0 n0 (Sl a17 r14 c18) r14] ∧ Md (cov []) σ35 σm, fun ((a56, c57) : (Option Addr) × (Nat)) => fun σm => Hp S0 σ0 σm [Ch.own 0 0 (Sl a56 r53 c57) r53, Ch.ro 0 (Sl a7 r2.1.2 c8) r2.1.2, Ch.ro 0 (Sl a5 r2.1.1 c6) r2.1.1, Ch.ro n0 (Sl a5 r2.1.1 c6) r2.1.1, Ch.ro n0 (Sl a7 r2.1.2 c8) r2.1.2, Ch.bx n0 b10 0 [(Sl a5 r2.1.1 c6), (Sl a7 r2.1.2 c8)] [] [], Ch.own 0 n0 (Sl a17 r14 c18) r14] ∧ Md (cov []) σ35 σm] [fun ((a56, c57) : (Option Addr) × (Nat)) => (.agg #[(Sl a5 r2.1.1 c6), (Sl a7 r2.1.2 c8)]), fun ((a56, c57) : (Option Addr) × (Nat)) => (I r2.2.1), fun ((a56, c57) : (Option Addr) × (Nat)) => (Sl a56 r53 c57), fun ((a56, c57) : (Option Addr) × (Nat)) => (.agg #[(Sl a5 r2.1.1 c6), (Sl a7 r2.1.2 c8)]), fun ((a56, c57) : (Option Addr) × (Nat)) => (I r2.2.2)] (none, 0) (by kernel_rfl) (by kernel_rfl) ?_ ?_ ?_
    ·intro σm m0
     exact ⟨H.grow (m0.mono fun _ h => h.elim), m0⟩
    ·refine all_cons (by
       refine ⟨?_, ?_⟩
       ·rintro ⟨a56, c57⟩ ρ σm hJ hoff hdep
        have e3 := look_off (N := 67) (hoff 3 rfl) rfl
        obtain ⟨H, m⟩ := id hJ
        have hc52 := H.cells 4 rfl
        exact dp_v (v := (.agg #[(Sl a5 r2.1.1 c6), (Sl a7 r2.1.2 c8)])) wn (rv_load (cs := [(Sl a5 r2.1.1 c6), (Sl a7 r2.1.2 c8)]) Try.underlying26 rfl ti26 e3 rfl hc52) rfl hJ
       trivial) ?_
     refine ac rfl (by
       intro k; rintro ⟨a56, c57⟩ ρ σm hJ hoff hdep
       have e4 := look_off (N := 67) (hoff 4 rfl) rfl
       exact dp_v (v := (I r2.2.1)) wn (rv_move e4) rfl hJ) ?_
     refine all_cons (by
       refine ⟨?_, ?_⟩
       ·rintro ⟨a56, c57⟩ ρ σm hJ hoff hdep
        have e40 : look 67 ρ 40 = (.agg #[(Sl a5 r2.1.1 c6), (Sl a7 r2.1.2 c8)]) := hdep 0 rfl rfl 40 rfl
        have e41 : look 67 ρ 41 = (I r2.2.1) := hdep 1 rfl rfl 41 rfl
        obtain ⟨H, m⟩ := id hJ
        refine dp_cx wn (cx_call hc55 (ent_f hc55.fn (by show [look 67 ρ 40, look 67 ρ 41] = _; rw [e40, e41])) hn0 (H.sel' [1, 0, 0, 1, 2, 3, 4, 5] rfl rfl : Hp S0 σ0 _ ([_, _] ++ _))) ?_
        rintro _ σq ⟨_, ⟨a56x, c57x, rfl, rfl⟩, H2, m2⟩
        exact ⟨_, (a56x, c57x), rfl, rfl, ⟨H2.sel' [0, 1, 2, 3, 4, 5, 6] rfl rfl, m.comp0 (m2.mono (fun i h => by simp [cov, Ch.ro] at h))⟩, stab [0, 1, 3, 4] (by kernel_rfl) ⟨rfl, rfl, rfl, rfl, trivial⟩⟩
       trivial) ?_
     refine all_cons (by
       refine ⟨?_, ?_⟩
       ·rintro ⟨a56, c57⟩ ρ σm hJ hoff hdep
        have e3 := look_off (N := 67) (hoff 3 rfl) rfl
        obtain ⟨H, m⟩ := id hJ
        have hc58 := H.cells 4 rfl
        exact dp_v (v := (.agg #[(Sl a5 r2.1.1 c6), (Sl a7 r2.1.2 c8)])) wn (rv_load (cs := [(Sl a5 r2.1.1 c6), (Sl a7 r2.1.2 c8)]) Try.underlying26 rfl ti26 e3 rfl hc58) rfl hJ
       refine ⟨?_, ?_⟩
       ·rintro ⟨a56, c57⟩ ρ σm hJ hoff hdep
        have e3 := look_off (N := 67) (hoff 3 rfl) rfl
        obtain ⟨H, m⟩ := id hJ
        have hc58 := H.cells 5 rfl
        exact dp_v (v := (.agg #[(Sl a5 r2.1.1 c6), (Sl a7 r2.1.2 c8)])) wn (rv_load (cs := [(Sl a5 r2.1.1 c6), (Sl a7 r2.1.2 c8)]) Try.underlying26 rfl ti26 e3 rfl hc58) rfl hJ
       trivial) ?_
     refine ac rfl (by
       intro k; rintro ⟨a56, c57⟩ ρ σm hJ hoff hdep
       have e5 := look_off (N := 67) (hoff 5 rfl) rfl
       exact dp_v (v := (I r2.2.2)) wn (rv_move e5) rfl hJ) ?_
     exact all_nil
    ·rintro ⟨a56, c57⟩ ρ σ59 hJ hoff hrel
     have e6 := look_off (N := 67) (hoff 6 rfl) rfl
     have e42 := hrel 2 rfl 42 rfl
     have e43 := hrel 3 rfl 43 rfl
     have e44 := hrel 4 rfl 44 rfl
     obtain ⟨H, -⟩ := (show Hp S0 σ0 σ59 [Ch.own 0 0 (Sl a56 r53 c57) r53, Ch.ro 0 (Sl a7 r2.1.2 c8) r2.1.2, Ch.ro 0 (Sl a5 r2.1.1 c6) r2.1.1, Ch.ro n0 (Sl a5 r2.1.1 c6) r2.1.1, Ch.ro n0 (Sl a7 r2.1.2 c8) r2.1.2, Ch.bx n0 b10 0 [(Sl a5 r2.1.1 c6), (Sl a7 r2.1.2 c8)] [] [], Ch.own 0 n0 (Sl a17 r14 c18) r14] ∧ Md (cov []) σ35 σ59 from hJ)
     clear hJ Hs
     rw [fr_lookL (L := [(6, (Sl a17 r14 c18)), (42, (Sl a56 r53 c57)), (43, (.agg #[(Sl a5 r2.1.1 c6), (Sl a7 r2.1.2 c8)])), (44, (I r2.2.2))]) ⟨e6, e42, e43, e44, trivial⟩]
     clear hoff hrel e6 e42 e43 e44
     replace H := H.roLow 3 0 rfl (Nat.zero_le _)
     replace H := H.roLow 5 0 rfl (Nat.zero_le _)
     revert h; refine br fun r60 hx61 h => ?_
     have hc62 := c_impl_StoreAt (Cd := a5) (Ce := c6) (Cf := a7) (Cg := c8) hx61
     refine st_call (cx_call hc62 (ent_f hc62.fn rfl) hn0 (H.sel' [1, 0, 0, 1, 2, 3, 4, 5, 6, 7, 8] rfl rfl : Hp S0 σ0 _ ([_, _] ++ _))) wn ?_
     rintro _ σ65 ⟨_, ⟨a63, c64, rfl, rfl⟩, H, -⟩
     replace H : Hp _ _ _ [_, _, _, _, _, _, _, _, _, _] := H
     replace H : Hp S0 σ0 σ65 [Ch.own 0 0 (Sl a63 r60 c64) r60, Ch.own 0 0 (Sl a56 r53 c57) r53, Ch.own 0 n0 (Sl a17 r14 c18) r14] := H.sel' [0, 3, 9] rfl rfl
     obtain ⟨σ66, hw67, H, -⟩ := H.pub 1 rfl (Nat.le_refl _)
     rw [← hw67]; clear hw67
     obtain ⟨σ68, hw69, H, -⟩ := H.pub 1 rfl (Nat.le_refl _)
     rw [← hw69]; clear hw69
     revert h; refine br fun r70 hx71 h => ?_
     have hc72 := c_impl_LogBetween (Em := a56) (En := c57) (Eo := a63) (Ep := c64) hx71
     refine st_call (cx_call hc72 (ent_f hc72.fn rfl) hn0 (H.sel' [1, 0, 0, 1, 2] rfl rfl : Hp S0 σ0 _ ([_, _] ++ _))) wn ?_
     rintro _ σ75 ⟨_, ⟨a73, c74, rfl, rfl⟩, H, -⟩
     replace H : Hp _ _ _ [_, _, _, _] := H
     refine sa (Sl a73 r70 c74) rfl (w_end (q_then (c_seq (c_seq (rg (sa (I 0) rfl (w_end (q_then ?_))))))))
     obtain ⟨o76, hj, h'⟩ := bind_some h
     clear h
     refine c_cut (fun e a w => (∃ t, o76 = (.inl t) ∧ e = .normal ∧ ∃ (ρ : Nat → Value) (σ : St), a = fr 67 (updL ρ [(6, (Sl a17 r14 c18)), (7, (Sl a73 r70 c74))]) ∧ w = σ.w ∧ Hp S0 σ0 σ [Ch.own 0 n0 (Sl a17 r14 c18) r14, Ch.own n0 n0 (Sl a73 r70 c74) r70]) ∨ (∃ t, o76 = (.inr t) ∧ e = .ret ∧ ∃ (ρ : Nat → Value) (σ : St), a = fr 67 (updL ρ [(2, (B t))]) ∧ w = σ.w ∧ Hp S0 σ0 σ [])) ?_ ?_
     ·clear h'
      rename _ = some o76 => h
      refine c_blk (wp_loopM _ h (fun s77 a w => ∃ (ρ : Nat → Value) (σ : St), a = fr 67 (updL ρ [(6, (Sl a17 r14 c18)), (7, (Sl a73 r70 c74)), (8, (I s77))]) ∧ w = σ.w ∧ Hp S0 σ0 σ [Ch.own 0 n0 (Sl a17 r14 c18) r14, Ch.own n0 n0 (Sl a73 r70 c74) r70]) ⟨_, σ75, fr_join ⟨rfl, rfl, rfl, trivial⟩, rfl, H.sel' [3, 0] rfl rfl⟩ ?_)
      clear h H
      rintro s77 a w o ⟨ρ, σ78, rfl, rfl, H⟩ h hres
      refine c_seq (c_seq (rg (sm (I s77) rfl (sm (Sl a73 r70 c74) rfl (st (v := (I (r70.length : Int))) (rv_len Try.underlying23 rfl) (st (v := (B (decide (s77 < (r70.length : Int))))) (rv_lss (a := s77) (b := (r70.length : Int)) rfl rfl) (w_end (q_then ?_))))))))
      refine cd_cond (decide (s77 < (r70.length : Int))) rfl (fun hb79 => ?_) (fun hb79 => ?_)
      ·replace h := bif_t hb79 h
       refine c_skip (q_then (c_seq (c_blk (c_seq (rg (sm (Sl a17 r14 c18) rfl (sm (Sl a73 r70 c74) rfl (sm (I s77) rfl ?_))))))))
       revert h; refine br fun x80 hx81 h => ?_
       obtain ⟨b83, o84, hi82, -⟩ := (H.own 1 rfl).ix hx81
       refine st (v := (pt b83 o84)) (rv_ix Try.underlying23 ti43 rfl rfl hi82) (st (v := (pt b83 (o84 + 1))) (rv_fieldAddr (off := 1) (ft := 41) Try.underlying43 rfl ti41 rfl rfl) (st (v := (pt b83 (o84 + 1))) (rv_fieldAddr (off := 0) (ft := 3) Try.underlying41 rfl ti3 rfl rfl) ?_))
       have hc85 := ((H.own 1 rfl).at hx81 hi82).snd.fst.int
       refine st (v := (I x80.2.1)) (rv_load1 Try.underlying3 rfl rfl hc85) ?_
       revert h; refine br fun r86 hx87 h => ?_
       have hc88 := c_laws_isIn (Ap := a17) (Aq := c18) hx87
       have hle := Nat.le_trans hn0 H.size
       refine st_call (cx_lend (Loan.lend Loan.nil) hc88 (ent_f hc88.fn rfl) (show Hp S0 σ0 _ ([Ch.own 0 n0 (Sl a17 r14 c18) r14] ++ ([] ++ [Ch.own n0 n0 (Sl a73 r70 c74) r70])) from (H.sel' [0, 1] rfl rfl)) (by rintro _ _ _ ⟨rfl, rfl⟩; exact trivial)) wn ?_
       rintro _ σ89 ⟨_, ⟨rfl, rfl⟩, H, -, -⟩
       replace H : Hp _ _ _ [_, _] := H
       clear hle
       replace H : Hp _ _ _ [_, _] := H
       refine st (v := (B (!r86))) (rv_not rfl) (w_end (q_then ?_))
       refine cd_cond (!r86) rfl (fun hb90 => ?_) (fun hb90 => ?_)
       ·replace h := bif_t hb90 h
        refine c_seq (rg (sa (B false) rfl (w_end (q_then (c_ret (q_blk_r (q_then_r (q_then_r (q_blk_r ?_)))))))))
        obtain rfl := sj h
        obtain rfl := hres _ rfl
        exact .inr (⟨_, rfl, rfl, _, σ89, fr_join ⟨rfl, trivial⟩, rfl, H.sel' [] rfl rfl⟩)
       ·replace h := bif_f hb90 h
        refine c_skip (q_blk (q_then (rg (sm (I s77) rfl (st (v := (I (w64 (s77 + 1)))) (rv_add (a := s77) (b := 1) rfl rfl) (sa (I (w64 (s77 + 1))) rfl (w_end (q_then ?_))))))))
        obtain rfl := sj h
        exact ⟨_, rfl, _, σ89, fr_join ⟨rfl, rfl, rfl, trivial⟩, rfl, H.sel' [0, 1] rfl rfl⟩
      ·replace h := bif_f hb79 h
       refine c_exit (q_then_x (q_then_x (q_blk_hit ?_)))
       obtain rfl := sj h
       obtain rfl := hres _ rfl
       exact .inl ⟨_, rfl, rfl, _, σ78, fr_join ⟨rfl, rfl, trivial⟩, rfl, H.sel' [0, 1] rfl rfl⟩
     ·clear hj
      have h := h'
      clear h' H
      rintro e a w (⟨t91, rfl, rfl, ρ, σ92, rfl, rfl, H⟩ | ⟨t93, rfl, rfl, ρ, σ94, rfl, rfl, H⟩)
      ·replace h := selim_l h
       refine q_then (c_seq (rg (sm (Sl a73 r70 c74) rfl (st (v := (I (r70.length : Int))) (rv_len Try.underlying23 rfl) (sm (Sl a17 r14 c18) rfl (st (v := (I (r14.length : Int))) (rv_len Try.underlying24 rfl) (st (v := (B ((r70.length : Int) == (r14.length : Int)))) (rv_eql (a := (r70.length : Int)) (b := (r14.length : Int)) rfl rfl) (sa (B ((r70.length : Int) == (r14.length : Int))) rfl (w_end (q_then (c_ret ?_)))))))))))
       obtain rfl := sj h
       exact fin_ret (v := (B ((r70.length : Int) == (r14.length : Int)))) (results_ok Try.results11 (res_tmp (v := (B ((r70.length : Int) == (r14.length : Int)))) rfl res_nil) rfl) ⟨rfl, rfl⟩ (H.sel' [] rfl rfl)
      ·replace h := selim_r h
       refine q_then_r ?_
       obtain rfl := sj h
       exact fin_ret (v := (B t93)) (results_ok Try.results11 (res_tmp (v := (B t93)) rfl res_nil) rfl) ⟨rfl, rfl⟩ (H.sel' [] rfl rfl)

end Go.Vs
