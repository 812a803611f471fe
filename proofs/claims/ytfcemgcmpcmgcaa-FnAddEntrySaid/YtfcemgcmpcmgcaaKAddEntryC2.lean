/- The functions compute what their models say. -/
import Derived.Test.YtfcemgcmpcmgcaaKAddEntryC1
set_option linter.unusedVariables false
set_option linter.unusedSimpArgs false
set_option maxHeartbeats 2000000
set_option maxRecDepth 20000
namespace Go.Vs
open Go Go.Proofs
attribute [local irreducible] Code.wp Code.wpIn wpList wpListIn wpQuiet Calls CallsIn

theorem c_impl_ReplayLog {Ao : List (Int × (List Int) × Int)} {Bv : List (Int × (Int × (List Int) × Int))} {Ap : Option Addr} {Aq : Nat} {Bw : Option Addr} {By : Nat} {r : (List (Int × (List Int) × Int)) × Int} (h : M.impl_ReplayLog Ao Bv = some r) :
    Cal2 Try.prog 23 [(Sl Ap Ao Aq), (Sl Bw Bv By)] [Ch.ro 0 (Sl Ap Ao Aq) Ao, Ch.ro 0 (Sl Bw Bv By) Bv] (fun n0 v L => ∃ (az1 : Option Addr), ∃ (cz2 : Nat), v = (.tuple #[(Sl az1 r.1 cz2), (I r.2)]) ∧ L = [Ch.ro 0 (Sl az1 r.1 cz2) r.1]) := by
 refine cal2 (n := 49) Try.func23 rfl rfl rfl rfl ?_
 intro S0 σ0 n0 hn0 H
 unfold M.impl_ReplayLog at h
 refine c_seq (rg (sa (.slice none 0 0) rfl (sa (I 0) rfl (w_end (q_then (c_seq (rg (sm (Sl Bw Bv By) rfl ?_))))))))
 revert h; refine br fun r1 hx2 h => ?_
 have hc3 := c_impl_changesOf (Aw := Bw) (Ax := By) hx2
 refine st_call (cx_call hc3 (ent_f hc3.fn rfl) hn0 (H.sel' [1, 0, 1] rfl rfl : Hp S0 σ0 _ ([_] ++ _))) wn ?_
 rintro _ σ6 ⟨_, ⟨a4, c5, rfl, rfl⟩, H, -⟩
 replace H : Hp _ _ _ [_, _, _] := H
 refine sm (.tuple #[(Sl a4 r1.1 c5), (B r1.2)]) rfl (st (v := (Sl a4 r1.1 c5)) (rv_extract rfl rfl) (st (v := (B r1.2)) (rv_extract rfl rfl) (sa (Sl a4 r1.1 c5) rfl (sa (B r1.2) rfl (w_end (q_then (c_seq (c_seq ?_))))))))
 obtain ⟨o7, hj, h'⟩ := bind_some h
 clear h
 refine c_cut (fun e a w => e = .normal ∧ ∃ (ρ : Nat → Value) (σ : St), a = fr 49 (updL ρ [(0, (Sl Ap Ao Aq)), (6, (Sl a4 r1.1 c5)), (24, (B o7))]) ∧ w = σ.w ∧ Hp S0 σ0 σ [Ch.ro 0 (Sl Ap Ao Aq) Ao, Ch.own n0 0 (Sl a4 r1.1 c5) r1.1]) ?_ ?_
 ·clear h'
  rename _ = some o7 => h
  refine rg (sm (B r1.2) rfl (st (v := (B (!r1.2))) (rv_not rfl) (sm (B (!r1.2)) rfl ?_)))
  rcases Bool.eq_false_or_eq_true (!r1.2) with hb8 | hb8
  ·replace h := bif_t hb8 h
   refine st_skip (congrArg some hb8) (st_skip (congrArg some hb8) (st_skip (congrArg some hb8) (st (v := (B true)) (rv_pick_t (congrArg B hb8) rfl) (w_end ?_))))
   obtain rfl := sj h
   exact ⟨rfl, _, σ6, fr_join ⟨rfl, rfl, rfl, trivial⟩, rfl, H.sel' [1, 0] rfl rfl⟩
  ·replace h := bif_f hb8 h
   refine st_g (v := (Sl Ap Ao Aq)) (congrArg some hb8) (rv_move rfl) ?_
   revert h; refine br fun r9 hx10 h => ?_
   have hc11 := c_impl_ValidStore (Ap := Ap) (Aq := Aq) hx10
   refine st_call (cx_call hc11 (ent_f hc11.fn rfl) hn0 (H.sel' [1, 0, 1, 2] rfl rfl : Hp S0 σ0 _ ([_] ++ _))) (wanted_yes rfl (by exact (congrArg some hb8))) ?_
   rintro _ σ12 ⟨_, ⟨rfl, rfl⟩, H, -⟩
   replace H : Hp _ _ _ [_, _, _] := H
   refine st_g (v := (B (!r9))) (congrArg some hb8) (rv_not rfl) (st (v := (B (!r9))) (rv_pick_f (congrArg B hb8) rfl) (w_end ?_))
   obtain rfl := sj h
   exact ⟨rfl, _, σ12, fr_join ⟨rfl, rfl, rfl, trivial⟩, rfl, H.sel' [1, 0] rfl rfl⟩
 ·clear hj
  have h := h'
  clear h' H
  rintro e a w ⟨rfl, ρ, σ13, rfl, rfl, H⟩
  refine q_then ?_
  refine cd_cond o7 rfl (fun hb14 => ?_) (fun hb14 => ?_)
  ·replace h := bif_t hb14 h
   refine c_seq (rg (sa (.slice none 0 0) rfl (sa (I (-1)) rfl (w_end (q_then (c_ret (q_then_r ?_)))))))
   replace H := H.nilRo (Int × (List Int) × Int) 0
   obtain rfl := sj h
   exact fin_ret (v := (.tuple #[(.slice none 0 0), (I (-1))])) (results_ok Try.results23 (res_tmp (v := (.slice none 0 0)) rfl (res_tmp (v := (I (-1))) rfl res_nil)) rfl) ⟨none, 0, rfl, rfl⟩ (H.sel' [0] rfl rfl)
  ·replace h := bif_f hb14 h
   refine c_skip (q_then (c_seq (rg (sm (Sl Ap Ao Aq) rfl ?_))))
   revert h; refine br fun r15 hx16 h => ?_
   have hc17 := c_impl_copyItems (Ap := Ap) (Aq := Aq) hx16
   refine st_call (cx_call hc17 (ent_f hc17.fn rfl) hn0 (H.sel' [0, 0, 1] rfl rfl : Hp S0 σ0 _ ([_] ++ _))) wn ?_
   rintro _ σ21 ⟨_, ⟨a18, c19, rfl, rfl, ht20⟩, H, -⟩
   replace H : Hp _ _ _ [_, _, _] := H
   refine sa (Sl a18 r15 c19) rfl (w_end (q_then (c_seq (c_seq (rg (sm (Sl a4 r1.1 c5) rfl (st (v := (I (r1.1.length : Int))) (rv_len Try.underlying62 rfl) (sm (I 0) rfl (w_end (q_then ?_))))))))))
   obtain ⟨o22, hj, h'⟩ := bind_some h
   clear h
   refine c_cut (fun e a w => (∃ t, o22 = (.inl t) ∧ e = .normal ∧ ∃ (ρ : Nat → Value) (σ : St) (aj1 : Option Addr) (cj2 : Nat), a = fr 49 (updL ρ [(6, (Sl a4 r1.1 c5)), (8, (Sl aj1 t cj2))]) ∧ w = σ.w ∧ Hp S0 σ0 σ [Ch.own n0 0 (Sl a4 r1.1 c5) r1.1, Ch.own 0 0 (Sl aj1 t cj2) t]) ∨ (∃ t, o22 = (.inr t) ∧ e = .ret ∧ ∃ (ρ : Nat → Value) (σ : St) (aj1 : Option Addr) (cj2 : Nat), a = fr 49 (updL ρ [(4, (Sl aj1 t.1 cj2)), (5, (I t.2))]) ∧ w = σ.w ∧ Hp S0 σ0 σ [Ch.ro 0 (Sl aj1 t.1 cj2) t.1])) ?_ ?_
   ·clear h'
    rename _ = some o22 => h
    refine c_blk ?_
    replace H := H.ownLow 0 0 0 rfl (Nat.zero_le _) (Nat.zero_le _)
    refine wp_loopM _ h (fun s23 a w => ∃ (ρ : Nat → Value) (σ : St) (aj1 : Option Addr) (cj2 : Nat), a = fr 49 (updL ρ [(6, (Sl a4 r1.1 c5)), (8, (Sl aj1 s23.1 cj2)), (27, (Sl a4 r1.1 c5)), (28, (I (r1.1.length : Int))), (29, (I s23.2))]) ∧ w = σ.w ∧ Hp S0 σ0 σ [Ch.own n0 0 (Sl a4 r1.1 c5) r1.1, Ch.own 0 0 (Sl aj1 s23.1 cj2) s23.1]) ⟨_, σ21, a18, c19, fr_join ⟨rfl, rfl, rfl, rfl, rfl, trivial⟩, rfl, H.sel' [2, 0] rfl rfl⟩ ?_
    clear h H
    rintro s23 a w o ⟨ρ, σ24, a25, c26, rfl, rfl, H⟩ h hres
    refine c_seq (rg (st (v := (B (decide (s23.2 < (r1.1.length : Int))))) (rv_lss (a := s23.2) (b := (r1.1.length : Int)) rfl rfl) (w_end (q_then (c_seq ?_)))))
    refine cd_cond (decide (s23.2 < (r1.1.length : Int))) rfl (fun hb27 => ?_) (fun hb27 => ?_)
    ·replace h := bif_t hb27 h
     refine c_skip (q_then (c_seq (c_blk (c_seq (rg (sm (I s23.2) rfl ?_))))))
     revert h; refine br fun x28 hx29 h => ?_
     obtain ⟨b31, o32, hi30, -⟩ := (H.own 0 rfl).ix hx29
     refine st (v := (pt b31 o32)) (rv_ix Try.underlying62 ti75 rfl rfl hi30) ?_
     obtain ⟨_, ⟨_, _, rfl, ⟨_, _, rfl, rfl, ⟨_, _, rfl, ⟨_, rfl, hR38⟩, rfl⟩⟩, rfl⟩, hl33, hq34⟩ := ((H.own 0 rfl).at hx29 hi30).cells
     obtain ⟨a36, c37, rfl⟩ := hR38.isSl
     have hc35 : HCell _ _ _ = some (ifs2 x28.1 (.iface 94 (.agg #[(I x28.2.1)])) (.iface 98 (.agg #[(I x28.2.2.1), (Sl a36 x28.2.2.2.1 c37), (I x28.2.2.2.2)]))) := hq34 0 Nat.zero_lt_one
     clear hq34
     replace H := H.add (d := Ch.ro 0 (Sl a36 x28.2.2.2.1 c37) x28.2.2.2.1) hR38 (fun _ h => h)
     clear hR38
     refine st (v := (ifs2 x28.1 (.iface 94 (.agg #[(I x28.2.1)])) (.iface 98 (.agg #[(I x28.2.2.1), (Sl a36 x28.2.2.2.1 c37), (I x28.2.2.2.2)])))) (rv_load1 Try.underlying75 rfl rfl hc35) (sa (I s23.2) rfl (sa (ifs2 x28.1 (.iface 94 (.agg #[(I x28.2.1)])) (.iface 98 (.agg #[(I x28.2.2.1), (Sl a36 x28.2.2.2.1 c37), (I x28.2.2.2.2)]))) rfl (w_end (q_then (c_seq ?_)))))
     obtain ⟨o39, hj, h'⟩ := bind_some h
     clear h
     refine c_cut (fun e a w => e = .normal ∧ ∃ (ρ : Nat → Value) (σ : St) (aj1 : Option Addr) (cj2 : Nat), a = fr 49 (updL ρ [(6, (Sl a4 r1.1 c5)), (8, (Sl a25 s23.1 c26)), (9, (I s23.2)), (11, (Sl aj1 o39.1 cj2)), (12, (B o39.2)), (27, (Sl a4 r1.1 c5)), (28, (I (r1.1.length : Int))), (29, (I s23.2))]) ∧ w = σ.w ∧ Hp S0 σ0 σ [Ch.own n0 0 (Sl a4 r1.1 c5) r1.1, Ch.ro 0 (Sl a25 s23.1 c26) s23.1, Ch.own 0 0 (Sl aj1 o39.1 cj2) o39.1]) ?_ ?_
     ·clear h'
      rename _ = some o39 => h
      refine rg (sm (ifs2 x28.1 (.iface 94 (.agg #[(I x28.2.1)])) (.iface 98 (.agg #[(I x28.2.2.1), (Sl a36 x28.2.2.2.1 c37), (I x28.2.2.2.2)]))) rfl (sm (Sl a25 s23.1 c26) rfl ?_))
      rcases Bool.eq_false_or_eq_true (x28.1 == 1) with hb40 | hb40
      ·replace h := bif_t hb40 h
       have hv42 : (ifs2 x28.1 (.iface 94 (.agg #[(I x28.2.1)])) (.iface 98 (.agg #[(I x28.2.2.1), (Sl a36 x28.2.2.2.1 c37), (I x28.2.2.2.2)]))) = (.iface 94 (.agg #[(I x28.2.1)]) : Value) := ct hb40
       obtain ⟨σ43, hw44, H, -⟩ := H.pub 2 rfl (Nat.le_refl _)
       rw [← hw44]; clear hw44
       revert h; refine br fun r45 hx46 h => ?_
       have hc47 := c_impl_dropChange_apply (Bk := a25) (Bl := c26) hx46
       refine st_call (cx_call hc47 ((by exact ent_ix hc47.fn (by kernel_rfl) Try.underlying94 rfl hv42 rfl)) hn0 (H.sel' [0, 0, 1, 2] rfl rfl : Hp S0 σ0 _ ([_] ++ _))) wn ?_
       rintro _ σ50 ⟨_, ⟨a48, c49, rfl, rfl⟩, H, -⟩
       replace H : Hp _ _ _ [_, _, _, _] := H
       refine sm (.tuple #[(Sl a48 r45.1 c49), (B r45.2)]) rfl (st (v := (Sl a48 r45.1 c49)) (rv_extract rfl rfl) (st (v := (B r45.2)) (rv_extract rfl rfl) (sa (Sl a48 r45.1 c49) rfl (sa (B r45.2) rfl (w_end ?_)))))
       obtain rfl := sj h
       exact ⟨rfl, _, σ50, a48, c49, fr_join ⟨rfl, rfl, rfl, rfl, rfl, rfl, rfl, rfl, trivial⟩, rfl, H.sel' [3, 1, 0] rfl rfl⟩
      ·replace h := bif_f hb40 h
       rcases Bool.eq_false_or_eq_true (x28.1 == 2) with hb41 | hb41
       ·replace h := bif_t hb41 h
        have hv51 : (ifs2 x28.1 (.iface 94 (.agg #[(I x28.2.1)])) (.iface 98 (.agg #[(I x28.2.2.1), (Sl a36 x28.2.2.2.1 c37), (I x28.2.2.2.2)]))) = (.iface 98 (.agg #[(I x28.2.2.1), (Sl a36 x28.2.2.2.1 c37), (I x28.2.2.2.2)]) : Value) := (cf hb40).trans (ct hb41)
        obtain ⟨σ52, hw53, H, -⟩ := H.pub 2 rfl (Nat.le_refl _)
        rw [← hw53]; clear hw53
        revert h; refine br fun r54 hx55 h => ?_
        have hc56 := c_impl_putChange_apply (Bt := a36) (Bu := c37) (Bk := a25) (Bl := c26) hx55
        refine st_call (cx_call hc56 ((by exact ent_ix hc56.fn (by kernel_rfl) Try.underlying98 rfl hv51 rfl)) hn0 (H.sel' [1, 0, 0, 1, 2] rfl rfl : Hp S0 σ0 _ ([_, _] ++ _))) wn ?_
        rintro _ σ59 ⟨_, ⟨a57, c58, rfl, rfl⟩, H, -⟩
        replace H : Hp _ _ _ [_, _, _, _] := H
        refine sm (.tuple #[(Sl a57 r54.1 c58), (B r54.2)]) rfl (st (v := (Sl a57 r54.1 c58)) (rv_extract rfl rfl) (st (v := (B r54.2)) (rv_extract rfl rfl) (sa (Sl a57 r54.1 c58) rfl (sa (B r54.2) rfl (w_end ?_)))))
        obtain rfl := sj h
        exact ⟨rfl, _, σ59, a57, c58, fr_join ⟨rfl, rfl, rfl, rfl, rfl, rfl, rfl, rfl, trivial⟩, rfl, H.sel' [3, 1, 0] rfl rfl⟩
       ·replace h := bif_f hb41 h
        cases h
     ·clear hj
      have h := h'
      clear h' H
      rintro e a w ⟨rfl, ρ, σ61, a62, c63, rfl, rfl, H⟩
      refine q_then (c_seq (c_seq (rg (sm (B o39.2) rfl (st (v := (B (!o39.2))) (rv_not rfl) (w_end (q_then ?_)))))))
      refine cd_cond (!o39.2) rfl (fun hb64 => ?_) (fun hb64 => ?_)
      ·replace h := bif_t hb64 h
       refine c_seq (rg (sm (Sl a25 s23.1 c26) rfl (sm (I s23.2) rfl (sa (Sl a25 s23.1 c26) rfl (sa (I s23.2) rfl (w_end (q_then (c_ret (q_then_r (q_blk_r (q_then_r ?_)))))))))))
       refine q_then_r (q_blk_r ?_)
       obtain rfl := sj h
       obtain rfl := hres _ rfl
       exact .inr (⟨_, rfl, rfl, _, σ61, a25, c26, fr_join ⟨rfl, rfl, trivial⟩, rfl, H.sel' [1] rfl rfl⟩)
      ·replace h := bif_f hb64 h
       refine c_skip (q_then (rg (sm (Sl a62 o39.1 c63) rfl (sa (Sl a62 o39.1 c63) rfl (w_end (q_blk (q_then (rg (st (v := (I (w64 (s23.2 + 1)))) (rv_add (a := s23.2) (b := 1) rfl rfl) (sm (I (w64 (s23.2 + 1))) rfl (w_end ?_)))))))))))
       refine q_then ?_
       obtain rfl := sj h
       exact ⟨_, rfl, _, σ61, a62, c63, fr_join ⟨rfl, rfl, rfl, rfl, rfl, trivial⟩, rfl, H.sel' [0, 2] rfl rfl⟩
    ·replace h := bif_f hb27 h
     refine c_exit (q_then_x (q_then_x (q_blk_hit ?_)))
     obtain rfl := sj h
     obtain rfl := hres _ rfl
     exact .inl ⟨_, rfl, rfl, _, σ24, a25, c26, fr_join ⟨rfl, rfl, trivial⟩, rfl, H.sel' [0, 1] rfl rfl⟩
   ·clear hj
    have h := h'
    clear h' H
    rintro e a w (⟨t65, rfl, rfl, ρ, σ66, a67, c68, rfl, rfl, H⟩ | ⟨t71, rfl, rfl, ρ, σ72, a73, c74, rfl, rfl, H⟩)
    ·replace h := selim_l h
     refine q_then (c_seq (rg (sm (Sl a67 t65 c68) rfl (sm (Sl a4 r1.1 c5) rfl (st (v := (I (r1.1.length : Int))) (rv_len Try.underlying62 rfl) (sa (Sl a67 t65 c68) rfl (sa (I (r1.1.length : Int)) rfl (w_end (q_then (c_ret ?_))))))))))
     obtain ⟨σ69, hw70, H, -⟩ := H.pub 1 rfl (Nat.le_refl _)
     rw [← hw70]; clear hw70
     obtain rfl := sj h
     exact fin_ret (v := (.tuple #[(Sl a67 t65 c68), (I (r1.1.length : Int))])) (results_ok Try.results23 (res_tmp (v := (Sl a67 t65 c68)) rfl (res_tmp (v := (I (r1.1.length : Int))) rfl res_nil)) rfl) ⟨a67, c68, rfl, rfl⟩ (H.sel' [0] rfl rfl)
    ·replace h := selim_r h
     refine q_then_r ?_
     obtain rfl := sj h
     exact fin_ret (v := (.tuple #[(Sl a73 t71.1 c74), (I t71.2)])) (results_ok Try.results23 (res_tmp (v := (Sl a73 t71.1 c74)) rfl (res_tmp (v := (I t71.2)) rfl res_nil)) rfl) ⟨a73, c74, rfl, rfl⟩ (H.sel' [0] rfl rfl)

theorem c_cmp_Less_int {Aj : Int} {Bb : Int}  {r : Bool} (h : M.cmp_Less_int Aj Bb = some r) :
    Cal2 Try.prog 101 [(I Aj), (I Bb)] [] (fun n0 v L => v = (B r) ∧ L = []) := by
 refine cal2 (n := 17) Try.func101 rfl rfl rfl rfl ?_
 intro S0 σ0 n0 hn0 H
 unfold M.cmp_Less_int at h
 refine c_seq (rg (sa (B false) rfl (w_end (q_then (c_seq (rg (sm (I Aj) rfl ?_)))))))
 revert h; refine br fun r1 hx2 h => ?_
 have hc3 := c_cmp_isNaN_int hx2
 refine st_call (cx_call hc3 (ent_f hc3.fn rfl) hn0 (H.sel' [] rfl rfl : Hp S0 σ0 _ ([] ++ _))) wn ?_
 rintro _ σ4 ⟨_, ⟨rfl, rfl⟩, H, -⟩
 replace H : Hp _ _ _ [] := H
 refine sm (B r1) rfl ?_
 rcases Bool.eq_false_or_eq_true r1 with hb5 | hb5
 ·replace h := bif_t hb5 h
  refine st_g (v := (I Bb)) (congrArg some hb5) (rv_move rfl) ?_
  revert h; refine br fun r6 hx7 h => ?_
  have hc8 := c_cmp_isNaN_int hx7
  refine st_call (cx_call hc8 (ent_f hc8.fn rfl) hn0 (H.sel' [] rfl rfl : Hp S0 σ0 _ ([] ++ _))) (wanted_yes rfl (by exact (congrArg some hb5))) ?_
  rintro _ σ9 ⟨_, ⟨rfl, rfl⟩, H, -⟩
  replace H : Hp _ _ _ [] := H
  refine st_g (v := (B (!r6))) (congrArg some hb5) (rv_not rfl) (st (v := (B (!r6))) (rv_pick_t (congrArg B hb5) rfl) (sm (B (!r6)) rfl ?_))
  rcases Bool.eq_false_or_eq_true (!r6) with hb10 | hb10
  ·replace h := bif_t hb10 h
   refine st_skip (congrArg some hb10) (st_skip (congrArg some hb10) (st_skip (congrArg some hb10) (st (v := (B true)) (rv_pick_t (congrArg B hb10) rfl) (sa (B true) rfl (w_end (q_then (c_ret ?_)))))))
   obtain rfl := sj h
   exact fin_ret (v := (B true)) (results_ok Try.results101 (res_tmp (v := (B true)) rfl res_nil) rfl) ⟨rfl, rfl⟩ (H.sel' [] rfl rfl)
  ·replace h := bif_f hb10 h
   refine st_g (v := (I Aj)) (congrArg some hb10) (rv_move rfl) (st_g (v := (I Bb)) (congrArg some hb10) (rv_move rfl) (st_g (v := (B (decide (Aj < Bb)))) (congrArg some hb10) (rv_lss (a := Aj) (b := Bb) rfl rfl) (st (v := (B (decide (Aj < Bb)))) (rv_pick_f (congrArg B hb10) rfl) (sa (B (decide (Aj < Bb))) rfl (w_end (q_then (c_ret ?_)))))))
   obtain rfl := sj h
   exact fin_ret (v := (B (decide (Aj < Bb)))) (results_ok Try.results101 (res_tmp (v := (B (decide (Aj < Bb)))) rfl res_nil) rfl) ⟨rfl, rfl⟩ (H.sel' [] rfl rfl)
 ·replace h := bif_f hb5 h
  refine st_skip (congrArg some hb5) (st_skip (congrArg some hb5) (st_skip (congrArg some hb5) (st (v := (B false)) (rv_pick_f (congrArg B hb5) rfl) (sm (B false) rfl (st_g (v := (I Aj)) rfl (rv_move rfl) (st_g (v := (I Bb)) rfl (rv_move rfl) (st_g (v := (B (decide (Aj < Bb)))) rfl (rv_lss (a := Aj) (b := Bb) rfl rfl) (st (v := (B (decide (Aj < Bb)))) (rv_pick_f rfl rfl) (sa (B (decide (Aj < Bb))) rfl (w_end (q_then ?_)))))))))))
  refine c_ret ?_
  obtain rfl := sj h
  exact fin_ret (v := (B (decide (Aj < Bb)))) (results_ok Try.results101 (res_tmp (v := (B (decide (Aj < Bb)))) rfl res_nil) rfl) ⟨rfl, rfl⟩ (H.sel' [] rfl rfl)

theorem c_slices_IsSorted_int_int {Aj : List Int} {Be : Option Addr} {Bf : Nat} {r : Bool} (h : M.slices_IsSorted_int_int Aj = some r) :
    Cal2 Try.prog 75 [(Sl Be Aj Bf)] [Ch.ro 0 (Sl Be Aj Bf) Aj] (fun n0 v L => v = (B r) ∧ L = []) := by
 refine cal2 (n := 21) Try.func75 rfl rfl rfl rfl ?_
 intro S0 σ0 n0 hn0 H
 unfold M.slices_IsSorted_int_int at h
 refine c_seq (rg (sa (B false) rfl (w_end (q_then (c_seq (c_seq (rg (sm (Sl Be Aj Bf) rfl (st (v := (I (Aj.length : Int))) (rv_len Try.underlying24 rfl) (st (v := (I (w64 ((Aj.length : Int) - 1)))) (rv_sub (a := (Aj.length : Int)) (b := 1) rfl rfl) (sa (I (w64 ((Aj.length : Int) - 1))) rfl ?_)))))))))))
 refine w_end (q_then ?_)
 obtain ⟨o1, hj, h'⟩ := bind_some h
 clear h
 refine c_cut (fun e a w => (∃ t, o1 = (.inl t) ∧ e = .normal ∧ ∃ (ρ : Nat → Value) (σ : St), a = fr 21 (updL ρ []) ∧ w = σ.w ∧ Hp S0 σ0 σ []) ∨ (∃ t, o1 = (.inr t) ∧ e = .ret ∧ ∃ (ρ : Nat → Value) (σ : St), a = fr 21 (updL ρ [(2, (B t))]) ∧ w = σ.w ∧ Hp S0 σ0 σ [])) ?_ ?_
 ·clear h'
  rename _ = some o1 => h
  refine c_blk (wp_loopM _ h (fun s2 a w => ∃ (ρ : Nat → Value) (σ : St), a = fr 21 (updL ρ [(0, (Sl Be Aj Bf)), (3, (I s2))]) ∧ w = σ.w ∧ Hp S0 σ0 σ [Ch.ro 0 (Sl Be Aj Bf) Aj]) ⟨_, σ0, fr_join ⟨rfl, rfl, trivial⟩, rfl, H.sel' [0] rfl rfl⟩ ?_)
  clear h H
  rintro s2 a w o ⟨ρ, σ3, rfl, rfl, H⟩ h hres
  refine c_seq (c_seq (rg (sm (I s2) rfl (st (v := (B (decide (0 < s2)))) (rv_gtr (a := s2) (b := 0) rfl rfl) (w_end (q_then ?_))))))
  refine cd_cond (decide (0 < s2)) rfl (fun hb4 => ?_) (fun hb4 => ?_)
  ·replace h := bif_t hb4 h
   refine c_skip (q_then (c_seq (c_blk (c_seq ?_))))
   refine rgP (σ := σ3) 9 (by kernel_rfl) (by kernel_rfl) (by kernel_rfl) ?_
   refine sq (v := (Sl Be Aj Bf)) (rv_move rfl) (sq (v := (I s2)) (rv_move rfl) ?_)
   revert h; refine br fun x5 hx6 h => ?_
   obtain ⟨b8, o9, hi7, -⟩ := (H.ro 0 rfl).ix hx6
   refine sq (v := (pt b8 o9)) (rv_ix Try.underlying24 ti3 rfl rfl hi7) ?_
   have hc10 := ((H.ro 0 rfl).at hx6 hi7).int
   refine sq (v := (I x5)) (rv_load1 Try.underlying3 rfl rfl hc10) (sq (v := (Sl Be Aj Bf)) (rv_move rfl) (sq (v := (I s2)) (rv_move rfl) (sq (v := (I (w64 (s2 - 1)))) (rv_sub (a := s2) (b := 1) rfl rfl) ?_)))
   revert h; refine br fun x11 hx12 h => ?_
   obtain ⟨b14, o15, hi13, -⟩ := (H.ro 0 rfl).ix hx12
   refine sq (v := (pt b14 o15)) (rv_ix Try.underlying24 ti3 rfl rfl hi13) ?_
   have hc16 := ((H.ro 0 rfl).at hx12 hi13).int
   refine sq (v := (I x11)) (rv_load1 Try.underlying3 rfl rfl hc16) (sq_end ?_)
   intro σ17 hm18
   replace H := H.grow (hm18.mono fun _ h => h); clear hm18
   revert h; refine br fun r19 hx20 h => ?_
   have hc21 := c_cmp_Less_int hx20
   refine st_call (cx_call hc21 (ent_f hc21.fn rfl) hn0 (H.sel' [0] rfl rfl : Hp S0 σ0 _ ([] ++ _))) wn ?_
   rintro _ σ22 ⟨_, ⟨rfl, rfl⟩, H, -⟩
   replace H : Hp _ _ _ [_] := H
   refine w_end (q_then ?_)
   refine cd_cond r19 rfl (fun hb23 => ?_) (fun hb23 => ?_)
   ·replace h := bif_t hb23 h
    refine c_seq (rg (sa (B false) rfl (w_end (q_then (c_ret (q_blk_r (q_then_r (q_then_r (q_blk_r ?_)))))))))
    obtain rfl := sj h
    obtain rfl := hres _ rfl
    exact .inr (⟨_, rfl, rfl, _, σ22, fr_join ⟨rfl, trivial⟩, rfl, H.sel' [] rfl rfl⟩)
   ·replace h := bif_f hb23 h
    refine c_skip (q_blk (q_then (rg (sm (I s2) rfl (st (v := (I (w64 (s2 - 1)))) (rv_sub (a := s2) (b := 1) rfl rfl) (sa (I (w64 (s2 - 1))) rfl (w_end (q_then ?_))))))))
    obtain rfl := sj h
    exact ⟨_, rfl, _, σ22, fr_join ⟨rfl, rfl, trivial⟩, rfl, H.sel' [0] rfl rfl⟩
  ·replace h := bif_f hb4 h
   refine c_exit (q_then_x (q_then_x (q_blk_hit ?_)))
   obtain rfl := sj h
   obtain rfl := hres _ rfl
   exact .inl ⟨_, rfl, rfl, _, σ3, fr_join trivial, rfl, H.sel' [] rfl rfl⟩
 ·clear hj
  have h := h'
  clear h' H
  rintro e a w (⟨t24, rfl, rfl, ρ, σ25, rfl, rfl, H⟩ | ⟨t26, rfl, rfl, ρ, σ27, rfl, rfl, H⟩)
  ·replace h := selim_l h
   refine q_then (c_seq (rg (sa (B true) rfl (w_end (q_then (c_ret ?_))))))
   obtain rfl := sj h
   exact fin_ret (v := (B true)) (results_ok Try.results75 (res_tmp (v := (B true)) rfl res_nil) rfl) ⟨rfl, rfl⟩ (H.sel' [] rfl rfl)
  ·replace h := selim_r h
   refine q_then_r ?_
   obtain rfl := sj h
   exact fin_ret (v := (B t26)) (results_ok Try.results75 (res_tmp (v := (B t26)) rfl res_nil) rfl) ⟨rfl, rfl⟩ (H.sel' [] rfl rfl)

theorem c_impl_validTimes {Bz : List Int} {Ca : Option Addr} {Cb : Nat} {r : Bool} (h : M.impl_validTimes Bz = some r) :
    Cal2 Try.prog 42 [(Sl Ca Bz Cb)] [Ch.ro 0 (Sl Ca Bz Cb) Bz] (fun n0 v L => v = (B r) ∧ L = []) := by
 refine cal2 (n := 20) Try.func42 rfl rfl rfl rfl ?_
 intro S0 σ0 n0 hn0 H
 unfold M.impl_validTimes at h
 refine c_seq (rg (sa (B false) rfl (w_end (q_then (c_seq (c_seq (rg (sm (Sl Ca Bz Cb) rfl (st (v := (I (Bz.length : Int))) (rv_len Try.underlying24 rfl) (sm (I 0) rfl (w_end ?_)))))))))))
 refine q_then ?_
 obtain ⟨o1, hj, h'⟩ := bind_some h
 clear h
 refine c_cut (fun e a w => (∃ t, o1 = (.inl t) ∧ e = .normal ∧ ∃ (ρ : Nat → Value) (σ : St), a = fr 20 (updL ρ [(0, (Sl Ca Bz Cb))]) ∧ w = σ.w ∧ Hp S0 σ0 σ [Ch.ro 0 (Sl Ca Bz Cb) Bz]) ∨ (∃ t, o1 = (.inr t) ∧ e = .ret ∧ ∃ (ρ : Nat → Value) (σ : St), a = fr 20 (updL ρ [(2, (B t))]) ∧ w = σ.w ∧ Hp S0 σ0 σ [])) ?_ ?_
 ·clear h'
  rename _ = some o1 => h
  refine c_blk (wp_loopM _ h (fun s2 a w => ∃ (ρ : Nat → Value) (σ : St), a = fr 20 (updL ρ [(0, (Sl Ca Bz Cb)), (5, (Sl Ca Bz Cb)), (6, (I (Bz.length : Int))), (7, (I s2))]) ∧ w = σ.w ∧ Hp S0 σ0 σ [Ch.ro 0 (Sl Ca Bz Cb) Bz]) ⟨_, σ0, fr_join ⟨rfl, rfl, rfl, rfl, trivial⟩, rfl, H.sel' [0] rfl rfl⟩ ?_)
  clear h H
  rintro s2 a w o ⟨ρ, σ3, rfl, rfl, H⟩ h hres
  refine c_seq (rg (st (v := (B (decide (s2 < (Bz.length : Int))))) (rv_lss (a := s2) (b := (Bz.length : Int)) rfl rfl) (w_end (q_then (c_seq ?_)))))
  refine cd_cond (decide (s2 < (Bz.length : Int))) rfl (fun hb4 => ?_) (fun hb4 => ?_)
  ·replace h := bif_t hb4 h
   refine c_skip (q_then (c_seq (c_blk (c_seq (rg ?_)))))
   revert h; refine br fun x5 hx6 h => ?_
   obtain ⟨b8, o9, hi7, -⟩ := (H.ro 0 rfl).ix hx6
   refine st (v := (pt b8 o9)) (rv_ix Try.underlying24 ti3 rfl rfl hi7) ?_
   have hc10 := ((H.ro 0 rfl).at hx6 hi7).int
   refine st (v := (I x5)) (rv_load1 Try.underlying3 rfl rfl hc10) (sa (I x5) rfl (w_end (q_then (c_seq ?_))))
   obtain ⟨o11, hj, h'⟩ := bind_some h
   clear h
   refine c_cut (fun e a w => e = .normal ∧ ∃ (ρ : Nat → Value) (σ : St), a = fr 20 (updL ρ [(0, (Sl Ca Bz Cb)), (5, (Sl Ca Bz Cb)), (6, (I (Bz.length : Int))), (7, (I s2)), (16, (B o11))]) ∧ w = σ.w ∧ Hp S0 σ0 σ [Ch.ro 0 (Sl Ca Bz Cb) Bz]) ?_ ?_
   ·clear h'
    rename _ = some o11 => h
    refine rg (sm (I x5) rfl (st (v := (B (decide (x5 < 1)))) (rv_lss (a := x5) (b := 1) rfl rfl) (sm (B (decide (x5 < 1))) rfl ?_)))
    rcases Bool.eq_false_or_eq_true (decide (x5 < 1)) with hb12 | hb12
    ·replace h := bif_t hb12 h
     refine st_skip (congrArg some hb12) (st_skip (congrArg some hb12) (st (v := (B true)) (rv_pick_t (congrArg B hb12) rfl) (w_end ?_)))
     obtain rfl := sj h
     exact ⟨rfl, _, σ3, fr_join ⟨rfl, rfl, rfl, rfl, rfl, trivial⟩, rfl, H.sel' [0] rfl rfl⟩
    ·replace h := bif_f hb12 h
     refine st_g (v := (I x5)) (congrArg some hb12) (rv_move rfl) (st_g (v := (B (decide (1000 < x5)))) (congrArg some hb12) (rv_gtr (a := x5) (b := 1000) rfl rfl) (st (v := (B (decide (1000 < x5)))) (rv_pick_f (congrArg B hb12) rfl) (w_end ?_)))
     obtain rfl := sj h
     exact ⟨rfl, _, σ3, fr_join ⟨rfl, rfl, rfl, rfl, rfl, trivial⟩, rfl, H.sel' [0] rfl rfl⟩
   ·clear hj
    have h := h'
    clear h' H
    rintro e a w ⟨rfl, ρ, σ13, rfl, rfl, H⟩
    refine q_then ?_
    refine cd_cond o11 rfl (fun hb14 => ?_) (fun hb14 => ?_)
    ·replace h := bif_t hb14 h
     refine c_seq (rg (sa (B false) rfl (w_end (q_then (c_ret (q_blk_r (q_then_r (q_then_r (q_blk_r ?_)))))))))
     obtain rfl := sj h
     obtain rfl := hres _ rfl
     exact .inr (⟨_, rfl, rfl, _, σ13, fr_join ⟨rfl, trivial⟩, rfl, H.sel' [] rfl rfl⟩)
    ·replace h := bif_f hb14 h
     refine c_skip (q_blk (q_then (rg (st (v := (I (w64 (s2 + 1)))) (rv_add (a := s2) (b := 1) rfl rfl) (sm (I (w64 (s2 + 1))) rfl (w_end (q_then ?_)))))))
     obtain rfl := sj h
     exact ⟨_, rfl, _, σ13, fr_join ⟨rfl, rfl, rfl, rfl, trivial⟩, rfl, H.sel' [0] rfl rfl⟩
  ·replace h := bif_f hb4 h
   refine c_exit (q_then_x (q_then_x (q_blk_hit ?_)))
   obtain rfl := sj h
   obtain rfl := hres _ rfl
   exact .inl ⟨_, rfl, rfl, _, σ3, fr_join ⟨rfl, trivial⟩, rfl, H.sel' [0] rfl rfl⟩
 ·clear hj
  have h := h'
  clear h' H
  rintro e a w (⟨t15, rfl, rfl, ρ, σ16, rfl, rfl, H⟩ | ⟨t21, rfl, rfl, ρ, σ22, rfl, rfl, H⟩)
  ·replace h := selim_l h
   refine q_then (c_seq (rg (sm (Sl Ca Bz Cb) rfl ?_)))
   revert h; refine br fun r17 hx18 h => ?_
   have hc19 := c_slices_IsSorted_int_int (Be := Ca) (Bf := Cb) hx18
   refine st_call (cx_call hc19 (ent_f hc19.fn rfl) hn0 (H.sel' [0, 0] rfl rfl : Hp S0 σ0 _ ([_] ++ _))) wn ?_
   rintro _ σ20 ⟨_, ⟨rfl, rfl⟩, H, -⟩
   replace H : Hp _ _ _ [_] := H
   refine sa (B r17) rfl (w_end (q_then (c_ret ?_)))
   obtain rfl := sj h
   exact fin_ret (v := (B r17)) (results_ok Try.results42 (res_tmp (v := (B r17)) rfl res_nil) rfl) ⟨rfl, rfl⟩ (H.sel' [] rfl rfl)
  ·replace h := selim_r h
   refine q_then_r ?_
   obtain rfl := sj h
   exact fin_ret (v := (B t21)) (results_ok Try.results42 (res_tmp (v := (B t21)) rfl res_nil) rfl) ⟨rfl, rfl⟩ (H.sel' [] rfl rfl)

theorem c_impl_ValidHistory {Cc : (List (Int × (Int × (List Int) × Int))) × (List Int)} {Cd : Option Addr} {Ce : Nat} {Cf : Option Addr} {Cg : Nat} {r : Bool} (h : M.impl_ValidHistory Cc = some r) :
    Cal2 Try.prog 16 [(.agg #[(Sl Cd Cc.1 Ce), (Sl Cf Cc.2 Cg)])] [Ch.ro 0 (Sl Cd Cc.1 Ce) Cc.1, Ch.ro 0 (Sl Cf Cc.2 Cg) Cc.2] (fun n0 v L => v = (B r) ∧ L = []) := by
 refine cal2 (n := 29) Try.func16 rfl rfl rfl rfl ?_
 intro S0 σ0 n0 hn0 H
 unfold M.impl_ValidHistory at h
 refine c_seq (rg (st_ex (ex_box (cs := [(Sl Cd Cc.1 Ce), (Sl Cf Cc.2 Cg)]) H hn0 rfl rfl) wn ?_))
 rintro _ σ2 ⟨b1, rfl, H, -⟩
 refine sa (B false) rfl (w_end (q_then (c_seq (c_seq ?_))))
 obtain ⟨o3, hj, h'⟩ := bind_some h
 clear h
 refine c_cut (fun e a w => e = .normal ∧ ∃ (ρ : Nat → Value) (σ : St), a = fr 29 (updL ρ [(1, (pt b1 0)), (17, (B o3))]) ∧ w = σ.w ∧ Hp S0 σ0 σ [Ch.ro 0 (Sl Cd Cc.1 Ce) Cc.1, Ch.ro 0 (Sl Cf Cc.2 Cg) Cc.2, Ch.bx n0 b1 0 [(Sl Cd Cc.1 Ce), (Sl Cf Cc.2 Cg)] [] []]) ?_ ?_
 ·clear h'
  rename _ = some o3 => h
  refine rg (st (v := (pt b1 1)) (rv_fieldAddr (off := 1) (ft := 24) Try.underlying26 rfl ti24 rfl rfl) ?_)
  have hc4 := H.cell (u := (Sl Cf Cc.2 Cg)) (o' := 1) 0 1 rfl rfl rfl
  refine st (v := (Sl Cf Cc.2 Cg)) (rv_load1 Try.underlying24 rfl rfl hc4) (st (v := (I (Cc.2.length : Int))) (rv_len Try.underlying24 rfl) (st (v := (pt b1 0)) (rv_fieldAddr (off := 0) (ft := 23) Try.underlying26 rfl ti23 rfl rfl) ?_))
  have hc5 := H.cell (u := (Sl Cd Cc.1 Ce)) (o' := 0) 0 0 rfl rfl rfl
  refine st (v := (Sl Cd Cc.1 Ce)) (rv_load1 Try.underlying23 rfl rfl hc5) (st (v := (I (Cc.1.length : Int))) (rv_len Try.underlying23 rfl) (st (v := (B ((Cc.2.length : Int) != (Cc.1.length : Int)))) (rv_neq (a := (Cc.2.length : Int)) (b := (Cc.1.length : Int)) rfl rfl) (sm (B ((Cc.2.length : Int) != (Cc.1.length : Int))) rfl ?_)))
  rcases Bool.eq_false_or_eq_true ((Cc.2.length : Int) != (Cc.1.length : Int)) with hb6 | hb6
  ·replace h := bif_t hb6 h
   refine st_skip (congrArg some hb6) (st_skip (congrArg some hb6) (st_skip (congrArg some hb6) (st_skip (congrArg some hb6) (st (v := (B true)) (rv_pick_t (congrArg B hb6) rfl) (w_end ?_)))))
   obtain rfl := sj h
   exact ⟨rfl, _, σ2, fr_join ⟨rfl, rfl, trivial⟩, rfl, H.sel' [1, 2, 0] rfl rfl⟩
  ·replace h := bif_f hb6 h
   refine st_g (v := (pt b1 1)) (congrArg some hb6) (rv_fieldAddr (off := 1) (ft := 24) Try.underlying26 rfl ti24 rfl rfl) ?_
   have hc7 := H.cell (u := (Sl Cf Cc.2 Cg)) (o' := 1) 0 1 rfl rfl rfl
   refine st_g (v := (Sl Cf Cc.2 Cg)) (congrArg some hb6) (rv_load1 Try.underlying24 rfl rfl hc7) ?_
   revert h; refine br fun r8 hx9 h => ?_
   have hc10 := c_impl_validTimes (Ca := Cf) (Cb := Cg) hx9
   refine st_call (cx_call hc10 (ent_f hc10.fn rfl) hn0 (H.sel' [2, 0, 1, 2] rfl rfl : Hp S0 σ0 _ ([_] ++ _))) (wanted_yes rfl (by exact (congrArg some hb6))) ?_
   rintro _ σ11 ⟨_, ⟨rfl, rfl⟩, H, -⟩
   replace H : Hp _ _ _ [_, _, _] := H
   refine st_g (v := (B (!r8))) (congrArg some hb6) (rv_not rfl) (st (v := (B (!r8))) (rv_pick_f (congrArg B hb6) rfl) (w_end ?_))
   obtain rfl := sj h
   exact ⟨rfl, _, σ11, fr_join ⟨rfl, rfl, trivial⟩, rfl, H.sel' [1, 2, 0] rfl rfl⟩
 ·clear hj
  have h := h'
  clear h' H
  rintro e a w ⟨rfl, ρ, σ12, rfl, rfl, H⟩
  refine q_then ?_
  refine cd_cond o3 rfl (fun hb13 => ?_) (fun hb13 => ?_)
  ·replace h := bif_t hb13 h
   refine c_seq (rg (sa (B false) rfl (w_end (q_then (c_ret (q_then_r ?_))))))
   obtain rfl := sj h
   exact fin_ret (v := (B false)) (results_ok Try.results16 (res_tmp (v := (B false)) rfl res_nil) rfl) ⟨rfl, rfl⟩ (H.sel' [] rfl rfl)
  ·replace h := bif_f hb13 h
   refine c_skip (q_then (c_seq (rg (st (v := (pt b1 0)) (rv_fieldAddr (off := 0) (ft := 23) Try.underlying26 rfl ti23 rfl rfl) ?_))))
   have hc14 := H.cell (u := (Sl Cd Cc.1 Ce)) (o' := 0) 2 0 rfl rfl rfl
   refine st (v := (Sl Cd Cc.1 Ce)) (rv_load1 Try.underlying23 rfl rfl hc14) ?_
   replace H := H.nilRo (Int × (List Int) × Int) 0
   revert h; refine br fun r15 hx16 h => ?_
   have hc17 := c_impl_ReplayLog (Ap := none) (Aq := 0) (Bw := Cd) (By := Ce) hx16
   refine st_call (cx_call hc17 (ent_f hc17.fn rfl) hn0 (H.sel' [0, 1, 0, 1, 2, 3] rfl rfl : Hp S0 σ0 _ ([_, _] ++ _))) wn ?_
   rintro _ σ20 ⟨_, ⟨a18, c19, rfl, rfl⟩, H, -⟩
   replace H : Hp _ _ _ [_, _, _, _, _] := H
   refine sm (.tuple #[(Sl a18 r15.1 c19), (I r15.2)]) rfl (st (v := (Sl a18 r15.1 c19)) (rv_extract rfl rfl) (st (v := (I r15.2)) (rv_extract rfl rfl) (sa (Sl a18 r15.1 c19) rfl (sa (I r15.2) rfl (w_end (q_then (c_seq (rg (sm (I r15.2) rfl (st (v := (pt b1 0)) (rv_fieldAddr (off := 0) (ft := 23) Try.underlying26 rfl ti23 rfl rfl) ?_))))))))))
   have hc21 := H.cell (u := (Sl Cd Cc.1 Ce)) (o' := 0) 4 0 rfl rfl rfl
   refine st (v := (Sl Cd Cc.1 Ce)) (rv_load1 Try.underlying23 rfl rfl hc21) (st (v := (I (Cc.1.length : Int))) (rv_len Try.underlying23 rfl) (st (v := (B (r15.2 == (Cc.1.length : Int)))) (rv_eql (a := r15.2) (b := (Cc.1.length : Int)) rfl rfl) (sa (B (r15.2 == (Cc.1.length : Int))) rfl (w_end (q_then (c_ret ?_))))))
   obtain rfl := sj h
   exact fin_ret (v := (B (r15.2 == (Cc.1.length : Int)))) (results_ok Try.results16 (res_tmp (v := (B (r15.2 == (Cc.1.length : Int)))) rfl res_nil) rfl) ⟨rfl, rfl⟩ (H.sel' [] rfl rfl)

theorem c_impl_validMoment {Ci : Int}  {r : Bool} (h : M.impl_validMoment Ci = some r) :
    Cal2 Try.prog 46 [(I Ci)] [] (fun n0 v L => v = (B r) ∧ L = []) := by
 refine cal2 (n := 9) Try.func46 rfl rfl rfl rfl ?_
 intro S0 σ0 n0 hn0 H
 unfold M.impl_validMoment at h
 refine c_seq (rg (sa (B false) rfl (w_end (q_then (c_seq (rg (sm (I Ci) rfl (st (v := (B (decide (0 ≤ Ci)))) (rv_geq (a := Ci) (b := 0) rfl rfl) (sm (B (decide (0 ≤ Ci))) rfl ?_)))))))))
 rcases Bool.eq_false_or_eq_true (decide (0 ≤ Ci)) with hb1 | hb1
 ·replace h := bif_t hb1 h
  refine st_g (v := (I Ci)) (congrArg some hb1) (rv_move rfl) (st_g (v := (B (decide (Ci ≤ 1000)))) (congrArg some hb1) (rv_leq (a := Ci) (b := 1000) rfl rfl) (st (v := (B (decide (Ci ≤ 1000)))) (rv_pick_t (congrArg B hb1) rfl) (sa (B (decide (Ci ≤ 1000))) rfl (w_end (q_then (c_ret ?_))))))
  obtain rfl := sj h
  exact fin_ret (v := (B (decide (Ci ≤ 1000)))) (results_ok Try.results46 (res_tmp (v := (B (decide (Ci ≤ 1000)))) rfl res_nil) rfl) ⟨rfl, rfl⟩ (H.sel' [] rfl rfl)
 ·replace h := bif_f hb1 h
  refine st_skip (congrArg some hb1) (st_skip (congrArg some hb1) (st (v := (B false)) (rv_pick_f (congrArg B hb1) rfl) (sa (B false) rfl (w_end (q_then (c_ret ?_))))))
  obtain rfl := sj h
  exact fin_ret (v := (B false)) (results_ok Try.results46 (res_tmp (v := (B false)) rfl res_nil) rfl) ⟨rfl, rfl⟩ (H.sel' [] rfl rfl)

theorem c_impl_version_node {Af : Vr (Int × (List Int) × Int)} {Ag : Option Addr} {r : ((Po (Int × (List Int) × Int)) × ((Vr (Int × (List Int) × Int)) × (Vr (Int × (List Int) × Int))))} (h : M.impl_version_node Af = some r) :
    Cal2 Try.prog 96 [(.pointer Ag)] [Ch.pv 0 (.pointer Ag) Af] (fun n0 v L => ∃ (az1 : Option Addr), ∃ (az2 : Option Addr), ∃ (az3 : Option Addr), v = (.agg #[(.pointer az1), (.pointer az2), (.pointer az3)]) ∧ L = [Ch.pv 0 (.pointer az1) r.1, Ch.pv 0 (.pointer az2) r.2.1, Ch.pv 0 (.pointer az3) r.2.2]) := by
 refine cal2 (n := 9) Try.func96 rfl rfl rfl rfl ?_
 intro S0 σ0 n0 hn0 H
 unfold M.impl_version_node at h
 refine c_seq (rg (st_ex (ex_alloc (cs := [(.pointer none), (.pointer none), (.pointer none)]) H hn0 ti109 rfl) wn ?_))
 rintro _ σ2 ⟨b1, rfl, H, -⟩
 refine w_end (q_then (c_seq (c_seq (rg (sm (.pointer Ag) rfl (st (v := (B Af.isNil)) (rv_eqlNilV Try.underlying67 (H.pv 1 rfl) rfl rfl) (w_end (q_then ?_))))))))
 refine cd_cond Af.isNil rfl (fun hb3 => ?_) (fun hb3 => ?_)
 ·replace h := bif_t hb3 h
  refine c_seq (rg ?_)
  refine st (v := (.agg #[(.pointer none), (.pointer none), (.pointer none)])) (rv_build (ps := []) Try.underlying109 ti109 (bp109 Try.underlying109) rfl (by kernel_rfl)) ?_
  refine st_exS (ex_store_box (k := 0) (cs := [(.pointer none), (.pointer none), (.pointer none)]) (vs := [(.pointer none), (.pointer none), (.pointer none)]) (cs' := [(.pointer none), (.pointer none), (.pointer none)]) H (i := 0) rfl ti109 rfl rfl rfl rfl rfl (Nat.le_of_ble_eq_true rfl) (by simp [plain]) rfl) wn ?_
  rintro σ4 ⟨H, -⟩
  refine w_end (q_then (c_ret (q_then_r ?_)))
  replace H := H.nilPv (Po (Int × (List Int) × Int)) 0
  replace H := H.nilPv (Vr (Int × (List Int) × Int)) 0
  replace H := H.nilPv (Vr (Int × (List Int) × Int)) 0
  obtain rfl := sj h
  exact fin_ret (v := (.agg #[(.pointer none), (.pointer none), (.pointer none)])) (results_ok Try.results96 (res_cell rfl (run_cellRes (cs := [(.pointer none), (.pointer none), (.pointer none)]) Try.underlying109 rfl ti109 rfl (H.cells 3 rfl)) res_nil) rfl) ⟨none, none, none, rfl, rfl⟩ (H.sel' [2, 1, 0] rfl rfl)
 ·replace h := bif_f hb3 h
  refine c_skip (q_then (c_seq (rg (sm (.pointer Ag) rfl ?_))))
  revert h; refine br fun x5 hx6 h => ?_
  obtain ⟨b8, o9, hi7⟩ := (H.pv 1 rfl).ex hx6
  refine st (v := (pt b8 o9)) (rv_nilCheckT hi7 rfl) ?_
  obtain ⟨_, ⟨_, _, rfl, ⟨_, rfl, hR13⟩, ⟨_, _, rfl, ⟨_, rfl, hR15⟩, ⟨_, rfl, hR17⟩⟩⟩, hl10, hc11⟩ := ((H.pv 1 rfl).at hx6 hi7).cells
  obtain ⟨a12, rfl⟩ := hR13.isPtr
  obtain ⟨a14, rfl⟩ := hR15.isPtr
  obtain ⟨a16, rfl⟩ := hR17.isPtr
  replace H := H.add (d := Ch.pv 0 (.pointer a12) x5.1) hR13 (fun _ h => h)
  clear hR13
  replace H := H.add (d := Ch.pv 0 (.pointer a14) x5.2.1) hR15 (fun _ h => h)
  clear hR15
  replace H := H.add (d := Ch.pv 0 (.pointer a16) x5.2.2) hR17 (fun _ h => h)
  clear hR17
  refine st (v := (.agg #[(.pointer a12), (.pointer a14), (.pointer a16)])) (rv_load Try.underlying109 rfl ti109 rfl hl10 hc11) ?_
  refine st_exS (ex_store_box (k := 0) (cs := [(.pointer none), (.pointer none), (.pointer none)]) (vs := [(.pointer a12), (.pointer a14), (.pointer a16)]) (cs' := [(.pointer a12), (.pointer a14), (.pointer a16)]) H (i := 3) rfl ti109 rfl rfl rfl rfl rfl (Nat.le_of_ble_eq_true rfl) (by simp [plain]) rfl) wn ?_
  rintro σ18 ⟨H, -⟩
  refine w_end (q_then (c_ret ?_))
  obtain rfl := sj h
  exact fin_ret (v := (.agg #[(.pointer a12), (.pointer a14), (.pointer a16)])) (results_ok Try.results96 (res_cell rfl (run_cellRes (cs := [(.pointer a12), (.pointer a14), (.pointer a16)]) Try.underlying109 rfl ti109 rfl (H.cells 0 rfl)) res_nil) rfl) ⟨a12, a14, a16, rfl, rfl⟩ (H.sel' [3, 2, 1] rfl rfl)

theorem c_impl_version_with : ∀ (fuel : Nat) {Af : Vr (Int × (List Int) × Int)} {Bc : Int} {Cj : Int} {Ck : Po (Int × (List Int) × Int)} {Ag : Option Addr} {Cl : Option Addr} {r : (Vr (Int × (List Int) × Int))} (h : M.impl_version_with fuel Af Bc Cj Ck = some r),
    Cal2 Try.prog 103 [(.pointer Ag), (I Bc), (I Cj), (.pointer Cl)] [Ch.pv 0 (.pointer Ag) Af, Ch.pv 0 (.pointer Cl) Ck] (fun n0 v L => ∃ (az1 : Option Addr), v = (.pointer az1) ∧ L = [Ch.pv 0 (.pointer az1) r]) := by
 intro fuel
 induction fuel with
 | zero => intro _ _ _ _ _ _ r h; cases h
 | succ fuel ih =>
 ·intro Af Bc Cj Ck Ag Cl r h
  replace h : M.impl_version_with_F (M.impl_version_with fuel) Af Bc Cj Ck = some r := h
  refine cal2 (n := 34) Try.func103 rfl rfl rfl rfl ?_
  intro S0 σ0 n0 hn0 H
  unfold M.impl_version_with_F at h
  refine c_seq (rg (sa (.pointer none) rfl (w_end (q_then (c_seq (rg (sm (.pointer Ag) rfl ?_)))))))
  revert h; refine br fun r1 hx2 h => ?_
  have hc3 := c_impl_version_node (Ag := Ag) hx2
  refine st_call (cx_call hc3 (ent_f hc3.fn rfl) hn0 (H.sel' [0, 0, 1] rfl rfl : Hp S0 σ0 _ ([_] ++ _))) wn ?_
  rintro _ σ7 ⟨_, ⟨a4, a5, a6, rfl, rfl⟩, H, -⟩
  replace H : Hp _ _ _ [_, _, _, _, _] := H
  refine st_ex (ex_alloc (cs := [(.pointer none), (.pointer none), (.pointer none)]) H hn0 ti109 rfl) wn ?_
  rintro _ σ9 ⟨b8, rfl, H, -⟩
  refine st_exS (ex_store_box (k := 0) (cs := [(.pointer none), (.pointer none), (.pointer none)]) (vs := [(.pointer a4), (.pointer a5), (.pointer a6)]) (cs' := [(.pointer a4), (.pointer a5), (.pointer a6)]) H (i := 0) rfl ti109 rfl rfl rfl rfl rfl (Nat.le_of_ble_eq_true rfl) (by simp [plain]) rfl) wn ?_
  rintro σ10 ⟨H, -⟩
  refine w_end (q_then (c_seq (c_seq (rg (sm (I Cj) rfl (st (v := (B (Cj == 0))) (rv_eql (a := Cj) (b := 0) rfl rfl) (w_end (q_then ?_))))))))
  obtain ⟨o11, hj, h'⟩ := bind_some h
  clear h
  refine c_cut (fun e a w => e = .normal ∧ ∃ (ρ : Nat → Value) (σ : St) (aj1 : Option Addr) (aj2 : Option Addr) (aj3 : Option Addr), a = fr 34 (updL ρ [(9, (pt b8 0))]) ∧ w = σ.w ∧ Hp S0 σ0 σ [Ch.bx n0 b8 0 [(.pointer aj1), (.pointer aj2), (.pointer aj3)] [] [], Ch.pv 0 (.pointer aj1) o11.1, Ch.pv 0 (.pointer aj2) o11.2.1, Ch.pv 0 (.pointer aj3) o11.2.2]) ?_ ?_
  ·clear h'
   rename _ = some o11 => h
   refine cd_cond (Cj == 0) rfl (fun hb12 => ?_) (fun hb12 => ?_)
   ·replace h := bif_t hb12 h
    refine rg (sm (.pointer Cl) rfl (st (v := (pt b8 0)) (rv_fieldAddr (off := 0) (ft := 106) Try.underlying109 rfl ti106 rfl rfl) ?_))
    refine st_exS (ex_store_box (k := 0) (cs := [(.pointer a4), (.pointer a5), (.pointer a6)]) (vs := [(.pointer Cl)]) (cs' := [(.pointer Cl), (.pointer a5), (.pointer a6)]) H (i := 0) rfl ti106 rfl rfl rfl rfl rfl (Nat.le_of_ble_eq_true rfl) (by simp [plain]) rfl) wn ?_
    rintro σ13 ⟨H, -⟩
    refine w_end ?_
    obtain rfl := sj h
    exact ⟨rfl, _, σ13, Cl, a5, a6, fr_join ⟨rfl, trivial⟩, rfl, H.sel' [0, 5, 2, 3] rfl rfl⟩
   ·replace h := bif_f hb12 h
    refine c_seq (rg (sm (I Bc) rfl (sm (I Cj) rfl (st (v := (I (w64 (Cj - 1)))) (rv_sub (a := Cj) (b := 1) rfl rfl) ?_))))
    revert h; refine br fun q14 hx15 h => ?_
    refine st (v := (I q14)) (rvk_shrG (k := .i64) (k' := .i64) (a := Bc) (b := (w64 (Cj - 1))) hx15 rfl rfl) (st (v := (I (gand q14 1))) (rv_and (a := q14) (b := 1) rfl rfl) (sa (I (gand q14 1)) rfl (w_end (q_then (rg (sm (I (gand q14 1)) rfl (sm (I (gand q14 1)) rfl (st (v := (pt b8 1)) (rv_fieldAddr (off := 1) (ft := 107) Try.underlying109 rfl ti107 rfl rfl) ?_))))))))
    revert h; refine br fun x16 hx17 h => ?_
    have hl18 := gsel2_lt hx17
    refine st (v := (pt b8 (1 + (gand q14 1).toNat * 1))) (rv_indexAddr_array Try.underlying107 ti67 rfl rfl hl18.1 hl18.2) ?_
    have hc19 := Hp.selCell (o' := 1) (a0 := a5) (a1 := a6) H 0 1 rfl rfl rfl hx17 rfl
    have hR20 : PV 0 _ (.pointer (bsel (gand q14 1) a5 a6)) x16 := PV.sel (H.pv 2 rfl) (H.pv 3 rfl) hx17
    replace H := H.add (d := Ch.pv 0 (.pointer (bsel (gand q14 1) a5 a6)) x16) hR20 (fun _ h => h)
    clear hR20
    refine st (v := (.pointer (bsel (gand q14 1) a5 a6))) (rv_load1 Try.underlying67 rfl rfl hc19) (sm (I Bc) rfl (sm (I Cj) rfl (st (v := (I (w64 (Cj - 1)))) (rv_sub (a := Cj) (b := 1) rfl rfl) (sm (.pointer Cl) rfl ?_))))
    revert h; refine br fun r21 hx22 h => ?_
    have hc23 := ih (Ag := (bsel (gand q14 1) a5 a6)) (Cl := Cl) hx22
    refine st_call (cx_call hc23 (ent_f hc23.fn rfl) hn0 (H.sel' [0, 6, 0, 1, 2, 3, 4, 5, 6] rfl rfl : Hp S0 σ0 _ ([_, _] ++ _))) wn ?_
    rintro _ σ25 ⟨_, ⟨a24, rfl, rfl⟩, H, -⟩
    replace H : Hp _ _ _ [_, _, _, _, _, _, _, _] := H
    replace H : Hp S0 σ0 σ25 [Ch.pv 0 (.pointer a24) r21, Ch.bx n0 b8 0 [(.pointer a4), (.pointer a5), (.pointer a6)] [] [], Ch.pv 0 (.pointer a4) r1.1, Ch.pv 0 (.pointer a5) r1.2.1, Ch.pv 0 (.pointer a6) r1.2.2] := H.sel' [0, 2, 3, 4, 5] rfl rfl
    refine st (v := (pt b8 1)) (rv_fieldAddr (off := 1) (ft := 107) Try.underlying109 rfl ti107 rfl rfl) ?_
    revert h; refine br fun x26 hx27 h => ?_
    have hl28 := gsel2_lt hx27
    refine st (v := (pt b8 (1 + (gand q14 1).toNat * 1))) (rv_indexAddr_array Try.underlying107 ti67 rfl rfl hl28.1 hl28.2) ?_
    replace H := H.add (d := Ch.pv 0 (.pointer (bsel (gand q14 1) a24 a5)) (bsel (gand q14 1) r21 r1.2.1)) (PV.bsel (e := gand q14 1) (H.pv 0 rfl) (H.pv 3 rfl)) (fun _ h => h)
    replace H := H.add (d := Ch.pv 0 (.pointer (bsel (gand q14 1) a6 a24)) (bsel (gand q14 1) r1.2.2 r21)) (PV.bsel (e := gand q14 1) (H.pv 5 rfl) (H.pv 1 rfl)) (fun _ h => h)
    refine st_exS (ex_store_box (k := 1 + (gand q14 1).toNat * 1) (cs := [(.pointer a4), (.pointer a5), (.pointer a6)]) (vs := [(.pointer a24)]) (cs' := [(.pointer a4), (.pointer (bsel (gand q14 1) a24 a5)), (.pointer (bsel (gand q14 1) a6 a24))]) H (i := 3) rfl ti67 rfl (Nat.zero_add _).symm rfl rfl rfl (sel_fits hx27) (by simp [plain]) (sel_set hx27)) wn ?_
    rintro σ29 ⟨H, -⟩
    refine w_end ?_
    obtain rfl := sj h
    exact ⟨rfl, _, σ29, a4, (bsel (gand q14 1) a24 a5), (bsel (gand q14 1) a6 a24), fr_join ⟨rfl, trivial⟩, rfl, H.sel' [0, 4, 2, 1] rfl rfl⟩
  ·clear hj
   have h := h'
   clear h' H
   rintro e a w ⟨rfl, ρ, σ30, a31, a32, a33, rfl, rfl, H⟩
   refine q_then (c_seq (rg (sa (pt b8 0) rfl (w_end (q_then (c_ret ?_))))))
   have hp36 : Rp.rp 0 σ30 [(.pointer a31), (.pointer a32), (.pointer a33)] ((o11.1, (o11.2.1, o11.2.2)) : (Po (Int × (List Int) × Int)) × ((Vr (Int × (List Int) × Int)) × (Vr (Int × (List Int) × Int)))) := ⟨[(.pointer a31)], [(.pointer a32), (.pointer a33)], rfl, ⟨_, rfl, (H.pv 1 rfl)⟩, ⟨[(.pointer a32)], [(.pointer a33)], rfl, ⟨_, rfl, (H.pv 2 rfl)⟩, ⟨_, rfl, (H.pv 3 rfl)⟩⟩⟩
   obtain ⟨σ34, hw35, H, -⟩ := H.pubPv (τ := Vr (Int × (List Int) × Int)) 0 0 rfl (Nat.zero_le _) rfl hp36 (Nat.le_of_ble_eq_true rfl)
   rw [← hw35]; clear hw35
   replace H : Hp _ _ _ [_, _, _, _] := H
   obtain rfl := sj h
   exact fin_ret (v := (.pointer (some ⟨b8, 0, none⟩))) (results_ok Try.results103 (res_tmp (v := (.pointer (some ⟨b8, 0, none⟩))) rfl res_nil) rfl) ⟨(some ⟨b8, 0, none⟩), rfl, rfl⟩ (H.sel' [0] rfl rfl)

theorem c_impl_version_after {Af : Vr (Int × (List Int) × Int)} {Cm : Int × (Int × (List Int) × Int)} {Ag : Option Addr} {Cn : Option Addr} {Cp : Nat} {r : (Vr (Int × (List Int) × Int))} (h : M.impl_version_after Af Cm = some r) :
    Cal2 Try.prog 78 [(.pointer Ag), (.agg #[(I Cm.1), (I Cm.2.1), (Sl Cn Cm.2.2.1 Cp), (I Cm.2.2.2)])] [Ch.pv 0 (.pointer Ag) Af, Ch.ro 0 (Sl Cn Cm.2.2.1 Cp) Cm.2.2.1] (fun n0 v L => ∃ (az1 : Option Addr), v = (.pointer az1) ∧ L = [Ch.pv 0 (.pointer az1) r]) := by
 refine cal2 (n := 19) Try.func78 rfl rfl rfl rfl ?_
 intro S0 σ0 n0 hn0 H
 unfold M.impl_version_after at h
 refine c_seq (rg (st_ex (ex_box (cs := [(I Cm.1), (I Cm.2.1), (Sl Cn Cm.2.2.1 Cp), (I Cm.2.2.2)]) H hn0 rfl rfl) wn ?_))
 rintro _ σ2 ⟨b1, rfl, H, -⟩
 refine sa (.pointer none) rfl (w_end (q_then (c_seq (c_seq (rg (st (v := (pt b1 0)) (rv_fieldAddr (off := 0) (ft := 3) Try.underlying43 rfl ti3 rfl rfl) ?_))))))
 have hc3 := H.cell (u := (I Cm.1)) (o' := 0) 0 0 rfl rfl rfl
 refine st (v := (I Cm.1)) (rv_load1 Try.underlying3 rfl rfl hc3) (st (v := (B (Cm.1 == 2))) (rv_eql (a := Cm.1) (b := 2) rfl rfl) (w_end (q_then ?_)))
 refine cd_cond (Cm.1 == 2) rfl (fun hb4 => ?_) (fun hb4 => ?_)
 ·replace h := bif_t hb4 h
  refine c_seq (rg (sm (.pointer Ag) rfl (st (v := (pt b1 1)) (rv_fieldAddr (off := 1) (ft := 41) Try.underlying43 rfl ti41 rfl rfl) (st (v := (pt b1 1)) (rv_fieldAddr (off := 0) (ft := 3) Try.underlying41 rfl ti3 rfl rfl) ?_))))
  have hc5 := H.cell (u := (I Cm.2.1)) (o' := 1) 0 1 rfl rfl rfl
  refine st (v := (I Cm.2.1)) (rv_load1 Try.underlying3 rfl rfl hc5) ?_
  replace H := H.nilPv (Po (Int × (List Int) × Int)) 0
  revert h; refine br fun r6 hx7 h => ?_
  have hc8 := c_impl_version_with 100 (Ag := Ag) (Cl := none) hx7
  refine st_call (cx_call hc8 (ent_f hc8.fn rfl) hn0 (H.sel' [2, 0, 0, 1, 2, 3] rfl rfl : Hp S0 σ0 _ ([_, _] ++ _))) wn ?_
  rintro _ σ10 ⟨_, ⟨a9, rfl, rfl⟩, H, -⟩
  replace H : Hp _ _ _ [_, _, _, _, _] := H
  refine sa (.pointer a9) rfl (w_end (q_then (c_ret (q_then_r ?_))))
  obtain rfl := sj h
  exact fin_ret (v := (.pointer a9)) (results_ok Try.results78 (res_tmp (v := (.pointer a9)) rfl res_nil) rfl) ⟨a9, rfl, rfl⟩ (H.sel' [0] rfl rfl)
 ·replace h := bif_f hb4 h
  refine c_skip (q_then (c_seq (rg (sm (.pointer Ag) rfl (st (v := (pt b1 1)) (rv_fieldAddr (off := 1) (ft := 41) Try.underlying43 rfl ti41 rfl rfl) (st (v := (pt b1 1)) (rv_fieldAddr (off := 0) (ft := 3) Try.underlying41 rfl ti3 rfl rfl) ?_))))))
  have hc11 := H.cell (u := (I Cm.2.1)) (o' := 1) 0 1 rfl rfl rfl
  refine st (v := (I Cm.2.1)) (rv_load1 Try.underlying3 rfl rfl hc11) (st (v := (pt b1 1)) (rv_fieldAddr (off := 1) (ft := 41) Try.underlying43 rfl ti41 rfl rfl) ?_)
  have hp14 : Rp.rp 0 σ2 [(I Cm.2.1), (Sl Cn Cm.2.2.1 Cp), (I Cm.2.2.2)] ((Cm.2.1, Cm.2.2.1, Cm.2.2.2) : Int × (List Int) × Int) := ⟨[(I Cm.2.1)], [(Sl Cn Cm.2.2.1 Cp), (I Cm.2.2.2)], rfl, rfl, ⟨[(Sl Cn Cm.2.2.1 Cp)], [(I Cm.2.2.2)], rfl, ⟨_, rfl, (H.ro 2 rfl)⟩, rfl⟩⟩
  obtain ⟨σ12, hw13, H, -⟩ := H.pubPv (τ := Po (Int × (List Int) × Int)) 0 1 rfl (Nat.zero_le _) rfl hp14 (Nat.le_of_ble_eq_true rfl)
  rw [← hw13]; clear hw13
  replace H : Hp _ _ _ [_, _, _] := H
  revert h; refine br fun r15 hx16 h => ?_
  have hc17 := c_impl_version_with 100 (Ag := Ag) (Cl := (some ⟨b1, 1, none⟩)) hx16
  refine st_call (cx_call hc17 (ent_f hc17.fn rfl) hn0 (H.sel' [1, 0, 0, 1, 2] rfl rfl : Hp S0 σ0 _ ([_, _] ++ _))) wn ?_
  rintro _ σ19 ⟨_, ⟨a18, rfl, rfl⟩, H, -⟩
  replace H : Hp _ _ _ [_, _, _, _] := H
  refine sa (.pointer a18) rfl (w_end (q_then (c_ret ?_)))
  obtain rfl := sj h
  exact fin_ret (v := (.pointer a18)) (results_ok Try.results78 (res_tmp (v := (.pointer a18)) rfl res_nil) rfl) ⟨a18, rfl, rfl⟩ (H.sel' [0] rfl rfl)

theorem c_impl_History_versions {Cc : (List (Int × (Int × (List Int) × Int))) × (List Int)} {Cd : Option Addr} {Ce : Nat} {Cf : Option Addr} {Cg : Nat} {r : (List (Vr (Int × (List Int) × Int)))} (h : M.impl_History_versions Cc = some r) :
    Cal2 Try.prog 47 [(.agg #[(Sl Cd Cc.1 Ce), (Sl Cf Cc.2 Cg)])] [Ch.ro 0 (Sl Cd Cc.1 Ce) Cc.1, Ch.ro 0 (Sl Cf Cc.2 Cg) Cc.2] (fun n0 v L => ∃ (az1 : Option Addr), ∃ (cz2 : Nat), v = (Sl az1 r cz2) ∧ L = [Ch.own n0 0 (Sl az1 r cz2) r]) := by
 refine cal2 (n := 26) Try.func47 rfl rfl rfl rfl ?_
 intro S0 σ0 n0 hn0 H
 unfold M.impl_History_versions at h
 refine c_seq (rg (st_ex (ex_box (cs := [(Sl Cd Cc.1 Ce), (Sl Cf Cc.2 Cg)]) H hn0 rfl rfl) wn ?_))
 rintro _ σ2 ⟨b1, rfl, H, -⟩
 refine sa (.slice none 0 0) rfl (w_end (q_then (c_seq (rg ?_))))
 refine st_ex (ex_buildSlice (el := n0) (xs := ([Vr.nil] : List (Vr (Int × (List Int) × Int)))) (ps := [(0, (.pointer none))]) (cs := [(.pointer none)]) H hn0 Try.underlying68 ti67 rfl rfl (by kernel_rfl) (.cons (c := [(.pointer none)]) ⟨_, rfl, rfl⟩ (.nil)) rfl) wn ?_
 rintro _ σ4 ⟨b3, rfl, H, -⟩
 refine sa (Sl (some ⟨b3, 0, none⟩) ([Vr.nil] : List (Vr (Int × (List Int) × Int))) 1) rfl (w_end (q_then (c_seq (c_seq (rg (st (v := (pt b1 0)) (rv_fieldAddr (off := 0) (ft := 23) Try.underlying26 rfl ti23 rfl rfl) ?_))))))
 have hc5 := H.cell (u := (Sl Cd Cc.1 Ce)) (o' := 0) 1 0 rfl rfl rfl
 refine st (v := (Sl Cd Cc.1 Ce)) (rv_load1 Try.underlying23 rfl rfl hc5) (st (v := (I (Cc.1.length : Int))) (rv_len Try.underlying23 rfl) (sm (I 0) rfl (w_end (q_then ?_))))
 obtain ⟨o6, hj, h'⟩ := bind_some h
 clear h
 refine c_cut (fun e a w => e = .normal ∧ ∃ (ρ : Nat → Value) (σ : St) (aj1 : Option Addr) (cj2 : Nat), a = fr 26 (updL ρ [(3, (Sl aj1 o6 cj2))]) ∧ w = σ.w ∧ Hp S0 σ0 σ [Ch.own n0 0 (Sl aj1 o6 cj2) o6]) ?_ ?_
 ·clear h'
  rename _ = some o6 => h
  refine c_blk ?_
  replace H := H.ownLow 0 n0 0 rfl (Nat.le_refl _) (Nat.zero_le _)
  refine wp_loopM _ h (fun s7 a w => ∃ (ρ : Nat → Value) (σ : St) (aj1 : Option Addr) (cj2 : Nat), a = fr 26 (updL ρ [(3, (Sl aj1 s7.1 cj2)), (8, (Sl Cd Cc.1 Ce)), (9, (I (Cc.1.length : Int))), (10, (I s7.2))]) ∧ w = σ.w ∧ Hp S0 σ0 σ [Ch.own n0 0 (Sl aj1 s7.1 cj2) s7.1, Ch.ro 0 (Sl Cd Cc.1 Ce) Cc.1]) ⟨_, σ4, (some ⟨b3, 0, none⟩), 1, fr_join ⟨rfl, rfl, rfl, rfl, trivial⟩, rfl, H.sel' [0, 2] rfl rfl⟩ ?_
  clear h H
  rintro s7 a w o ⟨ρ, σ8, a9, c10, rfl, rfl, H⟩ h hres
  refine c_seq (rg (st (v := (B (decide (s7.2 < (Cc.1.length : Int))))) (rv_lss (a := s7.2) (b := (Cc.1.length : Int)) rfl rfl) (w_end (q_then (c_seq ?_)))))
  refine cd_cond (decide (s7.2 < (Cc.1.length : Int))) rfl (fun hb11 => ?_) (fun hb11 => ?_)
  ·replace h := bif_t hb11 h
   refine c_skip (q_then (c_seq (c_blk (c_seq (rg (sm (I s7.2) rfl ?_))))))
   revert h; refine br fun x12 hx13 h => ?_
   obtain ⟨b15, o16, hi14, -⟩ := (H.ro 1 rfl).ix hx13
   refine st (v := (pt b15 o16)) (rv_ix Try.underlying23 ti43 rfl rfl hi14) ?_
   obtain ⟨_, ⟨_, _, rfl, rfl, ⟨_, _, rfl, rfl, ⟨_, _, rfl, ⟨_, rfl, hR21⟩, rfl⟩⟩⟩, hl17, hc18⟩ := ((H.ro 1 rfl).at hx13 hi14).cells
   obtain ⟨a19, c20, rfl⟩ := hR21.isSl
   replace H := H.add (d := Ch.ro 0 (Sl a19 x12.2.2.1 c20) x12.2.2.1) hR21 (fun _ h => h)
   clear hR21
   refine st (v := (.agg #[(I x12.1), (I x12.2.1), (Sl a19 x12.2.2.1 c20), (I x12.2.2.2)])) (rv_load Try.underlying43 rfl ti43 rfl hl17 hc18) (st_ex (ex_alloc (cs := [(I 0), (I 0), (.slice none 0 0), (I 0)]) H hn0 ti43 rfl) wn ?_)
   rintro _ σ23 ⟨b22, rfl, H, -⟩
   refine sa (I s7.2) rfl ?_
   refine st_exS (ex_store_box (k := 0) (cs := [(I 0), (I 0), (.slice none 0 0), (I 0)]) (vs := [(I x12.1), (I x12.2.1), (Sl a19 x12.2.2.1 c20), (I x12.2.2.2)]) (cs' := [(I x12.1), (I x12.2.1), (Sl a19 x12.2.2.1 c20), (I x12.2.2.2)]) H (i := 0) rfl ti43 rfl rfl rfl rfl rfl (Nat.le_of_ble_eq_true rfl) (by simp [plain]) rfl) wn ?_
   rintro σ24 ⟨H, -⟩
   refine w_end (q_then ?_)
   revert h; refine br fun x25 hx26 h => ?_
   obtain ⟨b28, o29, hi27, -⟩ := (H.own 2 rfl).ix hx26
   obtain ⟨v33, hc32, hR31⟩ := ((H.own 2 rfl).at hx26 hi27).vr
   obtain ⟨a30, rfl⟩ := hR31.isPtr
   replace H := H.add (d := Ch.pv 0 (.pointer a30) x25) hR31 (fun _ h => h)
   clear hR31
   have hc34 := H.cells 1 rfl
   revert h; refine br fun r35 hx36 h => ?_
   have hc37 := c_impl_version_after (Ag := a30) (Cn := a19) (Cp := c20) hx36
   have Hs := H
   refine rg2 (σ := σ24) (Nm := (Option Addr) × (Nat)) 8 [6, 7] [[false, false], [true, false], [true, true]] [[(0, 0), (1, 1), (2, 2)], [(0, 0)], [(0, 0)], [(0, 0)], [(0, 0)], [(0, 0)], [(0, 1)], [(1, 2)]] 2 [fun ((a38, b39) : (Option Addr) × (Nat)) => fun σm => Hp S0 σ0 σm [Ch.pv 0 (.pointer a30) x25, Ch.bx n0 b22 0 [(I x12.1), (I x12.2.1), (Sl a19 x12.2.2.1 c20), (I x12.2.2.2)] [] [], Ch.ro 0 (Sl a19 x12.2.2.1 c20) x12.2.2.1, Ch.own n0 0 (Sl a9 s7.1 c10) s7.1, Ch.ro 0 (Sl Cd Cc.1 Ce) Cc.1] ∧ Md (cov []) σ24 σm, fun ((a38, b39) : (Option Addr) × (Nat)) => fun σm => Hp S0 σ0 σm [Ch.pv 0 (.pointer a38) r35, Ch.pv 0 (.pointer a30) x25, Ch.bx n0 b22 0 [(I x12.1), (I x12.2.1), (Sl a19 x12.2.2.1 c20), (I x12.2.2.2)] [] [], Ch.ro 0 (Sl a19 x12.2.2.1 c20) x12.2.2.1, Ch.own n0 0 (Sl a9 s7.1 c10) s7.1, Ch.ro 0 (Sl Cd Cc.1 Ce) Cc.1] ∧ Md (cov []) σ24 σm, fun ((a38, b39) : (Option Addr) × (Nat)) => fun σm => Hp S0 σ0 σm [Ch.own n0 0 (Sl (some ⟨b39, 0, none⟩) ([r35] : List (Vr (Int × (List Int) × Int))) 1) ([r35] : List (Vr (Int × (List Int) × Int))), Ch.pv 0 (.pointer a38) r35, Ch.pv 0 (.pointer a30) x25, Ch.bx n0 b22 0 [(I x12.1), (I x12.2.1), (Sl a19 x12.2.2.1 c20), (I x12.2.2.2)] [] [], Ch.ro 0 (Sl a19 x12.2.2.1 c20) x12.2.2.1, Ch.own n0 0 (Sl a9 s7.1 c10) s7.1, Ch.ro 0 (Sl Cd Cc.1 Ce) Cc.1] ∧ Md (cov []) σ24 σm] [fun ((a38, b39) : (Option Addr) × (Nat)) => (Sl a9 s7.1 c10), fun ((a38, b39) : (Option Addr) × (Nat)) => (Sl a9 s7.1 c10), fun ((a38, b39) : (Option Addr) × (Nat)) => (I s7.2), fun ((a38, b39) : (Option Addr) × (Nat)) => (pt b28 o29), fun ((a38, b39) : (Option Addr) × (Nat)) => (.pointer a30), fun ((a38, b39) : (Option Addr) × (Nat)) => (.agg #[(I x12.1), (I x12.2.1), (Sl a19 x12.2.2.1 c20), (I x12.2.2.2)]), fun ((a38, b39) : (Option Addr) × (Nat)) => (.pointer a38), fun ((a38, b39) : (Option Addr) × (Nat)) => (Sl (some ⟨b39, 0, none⟩) ([r35] : List (Vr (Int × (List Int) × Int))) 1)] (none, 0) (by kernel_rfl) (by kernel_rfl) ?_ ?_ ?_
   ·intro σm m0
    exact ⟨H.grow (m0.mono fun _ h => h.elim), m0⟩
   ·refine ac rfl (by
      intro k; rintro ⟨a38, b39⟩ ρ σm hJ hoff hdep
      have e3 := look_off (N := 26) (hoff 3 rfl) rfl
      exact dp_v (v := (Sl a9 s7.1 c10)) wn (rv_move e3) rfl hJ) ?_
    refine ac rfl (by
      intro k; rintro ⟨a38, b39⟩ ρ σm hJ hoff hdep
      have e3 := look_off (N := 26) (hoff 3 rfl) rfl
      exact dp_v (v := (Sl a9 s7.1 c10)) wn (rv_move e3) rfl hJ) ?_
    refine ac rfl (by
      intro k; rintro ⟨a38, b39⟩ ρ σm hJ hoff hdep
      have e4 := look_off (N := 26) (hoff 4 rfl) rfl
      exact dp_v (v := (I s7.2)) wn (rv_move e4) rfl hJ) ?_
    refine ac rfl (by
      intro k; rintro ⟨a38, b39⟩ ρ σm hJ hoff hdep
      have e16 := hdep 1 rfl rfl 16 rfl
      have e17 := hdep 2 rfl rfl 17 rfl
      exact dp_v (v := (pt b28 o29)) wn (rv_ix Try.underlying68 ti67 e16 e17 hi27) rfl hJ) ?_
    refine all_cons (by
      refine ⟨?_, ?_⟩
      ·rintro ⟨a38, b39⟩ ρ σm hJ hoff hdep
       have e18 := hdep 3 rfl rfl 18 rfl
       obtain ⟨H, m⟩ := id hJ
       replace hc32 := m.hcell hc32 nocov
       exact dp_v (v := (.pointer a30)) wn (rv_load1 Try.underlying67 rfl e18 hc32) rfl hJ
      trivial) ?_
    refine all_cons (by
      refine ⟨?_, ?_⟩
      ·rintro ⟨a38, b39⟩ ρ σm hJ hoff hdep
       have e5 := look_off (N := 26) (hoff 5 rfl) rfl
       obtain ⟨H, m⟩ := id hJ
       have hc34 := H.cells 1 rfl
       exact dp_v (v := (.agg #[(I x12.1), (I x12.2.1), (Sl a19 x12.2.2.1 c20), (I x12.2.2.2)])) wn (rv_load (cs := [(I x12.1), (I x12.2.1), (Sl a19 x12.2.2.1 c20), (I x12.2.2.2)]) Try.underlying43 rfl ti43 e5 rfl hc34) rfl hJ
      trivial) ?_
    refine all_cons (by
      refine ⟨?_, ?_⟩
      ·rintro ⟨a38, b39⟩ ρ σm hJ hoff hdep
       have e19 : look 26 ρ 19 = (.pointer a30) := hdep 4 rfl rfl 19 rfl
       have e20 : look 26 ρ 20 = (.agg #[(I x12.1), (I x12.2.1), (Sl a19 x12.2.2.1 c20), (I x12.2.2.2)]) := hdep 5 rfl rfl 20 rfl
       obtain ⟨H, m⟩ := id hJ
       refine dp_cx wn (cx_call hc37 (ent_f hc37.fn (by show [look 26 ρ 19, look 26 ρ 20] = _; rw [e19, e20])) hn0 (H.sel' [0, 2, 0, 1, 2, 3, 4] rfl rfl : Hp S0 σ0 _ ([_, _] ++ _))) ?_
       rintro _ σq ⟨_, ⟨a38x, rfl, rfl⟩, H2, m2⟩
       exact ⟨_, (a38x, b39), rfl, rfl, ⟨H2.sel' [0, 1, 2, 3, 4, 5] rfl rfl, m.comp0 (m2.mono (fun i h => by simp [cov, Ch.ro, Ch.pv] at h))⟩, stab [0, 1, 2, 3, 4, 5] (by kernel_rfl) ⟨rfl, rfl, rfl, rfl, rfl, rfl, trivial⟩⟩
      trivial) ?_
    refine all_cons (by
      refine ⟨?_, ?_⟩
      ·rintro ⟨a38, b39⟩ ρ σm hJ hoff hdep
       have e21 : look 26 ρ 21 = (.pointer a38) := hdep 6 rfl rfl 21 rfl
       obtain ⟨H, m⟩ := id hJ
       refine dp_ex wn (ex_buildSlice (el := 0) (xs := ([r35] : List (Vr (Int × (List Int) × Int)))) (ps := [(0, (.pointer a38))]) (cs := [(.pointer a38)]) H hn0 Try.underlying68 ti67 rfl (by show [(0, look 26 ρ 21)] = _; rw [e21]) (by kernel_rfl) (.cons (c := [(.pointer a38)]) ⟨_, rfl, (H.pv 0 rfl)⟩ (.nil)) rfl) ?_
       rintro _ σq ⟨b39x, rfl, H2, m2⟩
       exact ⟨_, (a38, b39x), rfl, rfl, ⟨H2.sel' [0, 1, 2, 3, 4, 5, 6] rfl rfl, m.comp0 m2⟩, stab [0, 1, 2, 3, 4, 5, 6] (by kernel_rfl) ⟨rfl, rfl, rfl, rfl, rfl, rfl, rfl, trivial⟩⟩
      trivial) ?_
    exact all_nil
   ·rintro ⟨a38, b39⟩ ρ σ40 hJ hoff hrel
    have e8 := look_off (N := 26) (hoff 8 rfl) rfl
    have e9 := look_off (N := 26) (hoff 9 rfl) rfl
    have e10 := look_off (N := 26) (hoff 10 rfl) rfl
    have e15 := hrel 0 rfl 15 rfl
    have e22 := hrel 7 rfl 22 rfl
    obtain ⟨H, -⟩ := (show Hp S0 σ0 σ40 [Ch.own n0 0 (Sl (some ⟨b39, 0, none⟩) ([r35] : List (Vr (Int × (List Int) × Int))) 1) ([r35] : List (Vr (Int × (List Int) × Int))), Ch.pv 0 (.pointer a38) r35, Ch.pv 0 (.pointer a30) x25, Ch.bx n0 b22 0 [(I x12.1), (I x12.2.1), (Sl a19 x12.2.2.1 c20), (I x12.2.2.2)] [] [], Ch.ro 0 (Sl a19 x12.2.2.1 c20) x12.2.2.1, Ch.own n0 0 (Sl a9 s7.1 c10) s7.1, Ch.ro 0 (Sl Cd Cc.1 Ce) Cc.1] ∧ Md (cov []) σ24 σ40 from hJ)
    clear hJ Hs
    rw [fr_lookL (L := [(8, (Sl Cd Cc.1 Ce)), (9, (I (Cc.1.length : Int))), (10, (I s7.2)), (15, (Sl a9 s7.1 c10)), (22, (Sl (some ⟨b39, 0, none⟩) ([r35] : List (Vr (Int × (List Int) × Int))) 1))]) ⟨e8, e9, e10, e15, e22, trivial⟩]
    clear hoff hrel e8 e9 e10 e15 e22
    revert h; refine br fun xs41 hx42 h => ?_
    refine st_ex (ex_append H (i := 5) rfl Try.underlying68 Try.underlying68 ti67 rfl rfl (by decide) (H.own 0 rfl).rd hx42 hn0 rfl rfl) wn ?_
    rintro _ σ45 ⟨a43, c44, rfl, H, -⟩
    refine sa (Sl a43 xs41 c44) rfl (w_end (q_blk (q_then (rg (st (v := (I (w64 (s7.2 + 1)))) (rv_add (a := s7.2) (b := 1) rfl rfl) (sm (I (w64 (s7.2 + 1))) rfl (w_end (q_then ?_))))))))
    obtain rfl := sj h
    exact ⟨_, rfl, _, σ45, a43, c44, fr_join ⟨rfl, rfl, rfl, rfl, trivial⟩, rfl, H.sel' [0, 6] rfl rfl⟩
  ·replace h := bif_f hb11 h
   refine c_exit (q_then_x (q_then_x (q_blk_hit ?_)))
   obtain rfl := sj h
   obtain rfl := hres _ rfl
   exact ⟨rfl, _, σ8, a9, c10, fr_join ⟨rfl, trivial⟩, rfl, H.sel' [0] rfl rfl⟩
 ·clear hj
  have h := h'
  clear h' H
  rintro e a w ⟨rfl, ρ, σ46, a47, c48, rfl, rfl, H⟩
  refine q_then (c_seq (rg (sm (Sl a47 o6 c48) rfl (sa (Sl a47 o6 c48) rfl (w_end (q_then (c_ret ?_)))))))
  obtain rfl := sj h
  exact fin_ret (v := (Sl a47 o6 c48)) (results_ok Try.results47 (res_tmp (v := (Sl a47 o6 c48)) rfl res_nil) rfl) ⟨a47, c48, rfl, rfl⟩ (H.sel' [0] rfl rfl)

theorem c_slices_isNaN_int {Aj : Int}  {r : Bool} (h : M.slices_isNaN_int Aj = some r) :
    Cal2 Try.prog 104 [(I Aj)] [] (fun n0 v L => v = (B r) ∧ L = []) := by
 refine cal2 (n := 6) Try.func104 rfl rfl rfl rfl ?_
 intro S0 σ0 n0 hn0 H
 unfold M.slices_isNaN_int at h
 refine c_seq (rg (sa (B false) rfl (w_end (q_then (c_seq (rg (sm (I Aj) rfl (sm (I Aj) rfl (st (v := (B (Aj != Aj))) (rv_neq (a := Aj) (b := Aj) rfl rfl) (sa (B (Aj != Aj)) rfl (w_end ?_)))))))))))
 refine q_then (c_ret ?_)
 obtain rfl := sj h
 exact fin_ret (v := (B (Aj != Aj))) (results_ok Try.results104 (res_tmp (v := (B (Aj != Aj))) rfl res_nil) rfl) ⟨rfl, rfl⟩ (H.sel' [] rfl rfl)

theorem c_slices_BinarySearch_int_int {Aj : List Int} {Bd : Int} {Be : Option Addr} {Bf : Nat} {r : Int × Bool} (h : M.slices_BinarySearch_int_int Aj Bd = some r) :
    Cal2 Try.prog 79 [(Sl Be Aj Bf), (I Bd)] [Ch.ro 0 (Sl Be Aj Bf) Aj] (fun n0 v L => v = (.tuple #[(I r.1), (B r.2)]) ∧ L = []) := by
 refine cal2 (n := 54) Try.func79 rfl rfl rfl rfl ?_
 intro S0 σ0 n0 hn0 H
 unfold M.slices_BinarySearch_int_int at h
 refine c_seq (rg (sa (I 0) rfl (sa (B false) rfl (w_end (q_then (c_seq (rg (sm (Sl Be Aj Bf) rfl (st (v := (I (Aj.length : Int))) (rv_len Try.underlying24 rfl) (sa (I (Aj.length : Int)) rfl (w_end ?_)))))))))))
 refine q_then (c_seq (rg (sm (I (Aj.length : Int)) rfl (sa (I 0) rfl (sa (I (Aj.length : Int)) rfl (w_end (q_then (c_seq ?_))))))))
 obtain ⟨o1, hj, h'⟩ := bind_some h
 clear h
 refine c_cut (fun e a w => e = .normal ∧ ∃ (ρ : Nat → Value) (σ : St), a = fr 54 (updL ρ [(0, (Sl Be Aj Bf)), (1, (I Bd)), (6, (I (Aj.length : Int))), (7, (I o1))]) ∧ w = σ.w ∧ Hp S0 σ0 σ [Ch.ro 0 (Sl Be Aj Bf) Aj]) ?_ ?_
 ·clear h'
  rename _ = some o1 => h
  refine c_blk (wp_loopM _ h (fun s2 a w => ∃ (ρ : Nat → Value) (σ : St), a = fr 54 (updL ρ [(0, (Sl Be Aj Bf)), (1, (I Bd)), (6, (I (Aj.length : Int))), (7, (I s2.1)), (8, (I s2.2))]) ∧ w = σ.w ∧ Hp S0 σ0 σ [Ch.ro 0 (Sl Be Aj Bf) Aj]) ⟨_, σ0, fr_join ⟨rfl, rfl, rfl, rfl, rfl, trivial⟩, rfl, H.sel' [0] rfl rfl⟩ ?_)
  clear h H
  rintro s2 a w o ⟨ρ, σ3, rfl, rfl, H⟩ h hres
  refine c_seq (c_seq (rg (sm (I s2.1) rfl (sm (I s2.2) rfl (st (v := (B (decide (s2.1 < s2.2)))) (rv_lss (a := s2.1) (b := s2.2) rfl rfl) (w_end (q_then ?_)))))))
  refine cd_cond (decide (s2.1 < s2.2)) rfl (fun hb4 => ?_) (fun hb4 => ?_)
  ·replace h := bif_t hb4 h
   refine c_skip (q_then (c_blk (c_seq (rg (sm (I s2.1) rfl (sm (I s2.2) rfl (st (v := (I (w64 (s2.1 + s2.2)))) (rv_add (a := s2.1) (b := s2.2) rfl rfl) (st (v := (.int .u64 (wk .u64 (w64 (s2.1 + s2.2))))) (rvk_conv (k := .i64) (k' := .u64) (a := (w64 (s2.1 + s2.2))) Try.underlying3 Try.underlying121 rfl) ?_))))))))
   refine st (v := (.int .u64 (gshr .u64 (wk .u64 (w64 (s2.1 + s2.2))) 1))) (rvk_shr (k := .u64) (k' := .u64) (a := (wk .u64 (w64 (s2.1 + s2.2)))) (b := 1) rfl rfl (by decide)) ?_
   refine st (v := (I (wk .i64 (gshr .u64 (wk .u64 (w64 (s2.1 + s2.2))) 1)))) (rvk_conv (k := .u64) (k' := .i64) (a := (gshr .u64 (wk .u64 (w64 (s2.1 + s2.2))) 1)) Try.underlying121 Try.underlying3 rfl) (sa (I (wk .i64 (gshr .u64 (wk .u64 (w64 (s2.1 + s2.2))) 1))) rfl (w_end (q_then (c_seq (rg (sm (Sl Be Aj Bf) rfl (sm (I (wk .i64 (gshr .u64 (wk .u64 (w64 (s2.1 + s2.2))) 1))) rfl ?_)))))))
   revert h; refine br fun x5 hx6 h => ?_
   obtain ⟨b8, o9, hi7, -⟩ := (H.ro 0 rfl).ix hx6
   refine st (v := (pt b8 o9)) (rv_ix Try.underlying24 ti3 rfl rfl hi7) ?_
   have hc10 := ((H.ro 0 rfl).at hx6 hi7).int
   refine st (v := (I x5)) (rv_load1 Try.underlying3 rfl rfl hc10) (sm (I Bd) rfl ?_)
   revert h; refine br fun r11 hx12 h => ?_
   have hc13 := c_cmp_Less_int hx12
   refine st_call (cx_call hc13 (ent_f hc13.fn rfl) hn0 (H.sel' [0] rfl rfl : Hp S0 σ0 _ ([] ++ _))) wn ?_
   rintro _ σ14 ⟨_, ⟨rfl, rfl⟩, H, -⟩
   replace H : Hp _ _ _ [_] := H
   refine w_end (q_then ?_)
   refine cd_cond r11 rfl (fun hb15 => ?_) (fun hb15 => ?_)
   ·replace h := bif_t hb15 h
    refine rg (sm (I (wk .i64 (gshr .u64 (wk .u64 (w64 (s2.1 + s2.2))) 1))) rfl (st (v := (I (w64 ((wk .i64 (gshr .u64 (wk .u64 (w64 (s2.1 + s2.2))) 1)) + 1)))) (rv_add (a := (wk .i64 (gshr .u64 (wk .u64 (w64 (s2.1 + s2.2))) 1))) (b := 1) rfl rfl) (sa (I (w64 ((wk .i64 (gshr .u64 (wk .u64 (w64 (s2.1 + s2.2))) 1)) + 1))) rfl (w_end (q_blk (q_then ?_))))))
    obtain rfl := sj h
    exact ⟨_, rfl, _, σ14, fr_join ⟨rfl, rfl, rfl, rfl, rfl, trivial⟩, rfl, H.sel' [0] rfl rfl⟩
   ·replace h := bif_f hb15 h
    refine rg (sm (I (wk .i64 (gshr .u64 (wk .u64 (w64 (s2.1 + s2.2))) 1))) rfl (sa (I (wk .i64 (gshr .u64 (wk .u64 (w64 (s2.1 + s2.2))) 1))) rfl (w_end (q_blk (q_then ?_)))))
    obtain rfl := sj h
    exact ⟨_, rfl, _, σ14, fr_join ⟨rfl, rfl, rfl, rfl, rfl, trivial⟩, rfl, H.sel' [0] rfl rfl⟩
  ·replace h := bif_f hb4 h
   refine c_exit (q_then_x (q_then_x (q_blk_hit ?_)))
   obtain rfl := sj h
   obtain rfl := hres _ rfl
   exact ⟨rfl, _, σ3, fr_join ⟨rfl, rfl, rfl, rfl, trivial⟩, rfl, H.sel' [0] rfl rfl⟩
 ·clear hj
  have h := h'
  clear h' H
  rintro e a w ⟨rfl, ρ, σ16, rfl, rfl, H⟩
  refine q_then (c_seq (rg (sm (I o1) rfl (sm (I o1) rfl (sm (I (Aj.length : Int)) rfl (st (v := (B (decide (o1 < (Aj.length : Int))))) (rv_lss (a := o1) (b := (Aj.length : Int)) rfl rfl) (sm (B (decide (o1 < (Aj.length : Int)))) rfl ?_)))))))
  rcases Bool.eq_false_or_eq_true (decide (o1 < (Aj.length : Int))) with hb17 | hb17
  ·replace h := bif_t hb17 h
   refine st_g (v := (Sl Be Aj Bf)) (congrArg some hb17) (rv_move rfl) (st_g (v := (I o1)) (congrArg some hb17) (rv_move rfl) ?_)
   revert h; refine br fun x18 hx19 h => ?_
   obtain ⟨b21, o22, hi20, -⟩ := (H.ro 0 rfl).ix hx19
   refine st_g (v := (pt b21 o22)) (congrArg some hb17) (rv_ix Try.underlying24 ti3 rfl rfl hi20) ?_
   have hc23 := ((H.ro 0 rfl).at hx19 hi20).int
   refine st_g (v := (I x18)) (congrArg some hb17) (rv_load1 Try.underlying3 rfl rfl hc23) (st_g (v := (I Bd)) (congrArg some hb17) (rv_move rfl) (st_g (v := (B (x18 == Bd))) (congrArg some hb17) (rv_eql (a := x18) (b := Bd) rfl rfl) (st_g (v := (B (x18 == Bd))) (congrArg some hb17) (rv_move rfl) ?_)))
   rcases Bool.eq_false_or_eq_true (x18 == Bd) with hb24 | hb24
   ·replace h := bif_t hb24 h
    refine st_skip (congrArg some hb24) (st_skip (congrArg some hb24) (st_skip (congrArg some hb24) (st_skip (congrArg some hb24) (st_skip (congrArg some hb24) (st_skip (congrArg some hb24) (st_skip_u rfl (st_skip_u rfl (st_skip (congrArg some hb24) (st_g (v := (B true)) (congrArg some hb17) (rv_pick_t (congrArg B hb24) rfl) (st (v := (B true)) (rv_pick_t (congrArg B hb17) rfl) (sa (I o1) rfl ?_)))))))))))
    refine sa (B true) rfl (w_end (q_then (c_ret ?_)))
    obtain rfl := sj h
    exact fin_ret (v := (.tuple #[(I o1), (B true)])) (results_ok Try.results79 (res_tmp (v := (I o1)) rfl (res_tmp (v := (B true)) rfl res_nil)) rfl) ⟨rfl, rfl⟩ (H.sel' [] rfl rfl)
   ·replace h := bif_f hb24 h
    refine st_g (v := (Sl Be Aj Bf)) (congrArg some hb24) (rv_move rfl) (st_g (v := (I o1)) (congrArg some hb24) (rv_move rfl) ?_)
    revert h; refine br fun x25 hx26 h => ?_
    obtain ⟨b28, o29, hi27, -⟩ := (H.ro 0 rfl).ix hx26
    refine st_g (v := (pt b28 o29)) (congrArg some hb24) (rv_ix Try.underlying24 ti3 rfl rfl hi27) ?_
    have hc30 := ((H.ro 0 rfl).at hx26 hi27).int
    refine st_g (v := (I x25)) (congrArg some hb24) (rv_load1 Try.underlying3 rfl rfl hc30) ?_
    revert h; refine br fun r31 hx32 h => ?_
    have hc33 := c_slices_isNaN_int hx32
    refine st_call (cx_call hc33 (ent_f hc33.fn rfl) hn0 (H.sel' [0] rfl rfl : Hp S0 σ0 _ ([] ++ _))) (wanted_yes rfl (by exact (congrArg some hb24))) ?_
    rintro _ σ34 ⟨_, ⟨rfl, rfl⟩, H, -⟩
    replace H : Hp _ _ _ [_] := H
    refine st_g (v := (B r31)) (congrArg some hb24) (rv_move rfl) ?_
    rcases Bool.eq_false_or_eq_true r31 with hb35 | hb35
    ·replace h := bif_t hb35 h
     refine st_g (v := (I Bd)) (congrArg some hb35) (rv_move rfl) ?_
     revert h; refine br fun r36 hx37 h => ?_
     have hc38 := c_slices_isNaN_int hx37
     refine st_call (cx_call hc38 (ent_f hc38.fn rfl) hn0 (H.sel' [0] rfl rfl : Hp S0 σ0 _ ([] ++ _))) (wanted_yes rfl (by exact (congrArg some hb35))) ?_
     rintro _ σ39 ⟨_, ⟨rfl, rfl⟩, H, -⟩
     replace H : Hp _ _ _ [_] := H
     refine st_g (v := (B r36)) (congrArg some hb24) (rv_pick_t (congrArg B hb35) rfl) (st_g (v := (B r36)) (congrArg some hb17) (rv_pick_f (congrArg B hb24) rfl) (st (v := (B r36)) (rv_pick_t (congrArg B hb17) rfl) (sa (I o1) rfl (sa (B r36) rfl (w_end (q_then (c_ret ?_)))))))
     obtain rfl := sj h
     exact fin_ret (v := (.tuple #[(I o1), (B r36)])) (results_ok Try.results79 (res_tmp (v := (I o1)) rfl (res_tmp (v := (B r36)) rfl res_nil)) rfl) ⟨rfl, rfl⟩ (H.sel' [] rfl rfl)
    ·replace h := bif_f hb35 h
     refine st_skip (congrArg some hb35) (st_skip (congrArg some hb35) (st_g (v := (B false)) (congrArg some hb24) (rv_pick_f (congrArg B hb35) rfl) (st_g (v := (B false)) (congrArg some hb17) (rv_pick_f (congrArg B hb24) rfl) (st (v := (B false)) (rv_pick_t (congrArg B hb17) rfl) (sa (I o1) rfl (sa (B false) rfl (w_end (q_then (c_ret ?_)))))))))
     obtain rfl := sj h
     exact fin_ret (v := (.tuple #[(I o1), (B false)])) (results_ok Try.results79 (res_tmp (v := (I o1)) rfl (res_tmp (v := (B false)) rfl res_nil)) rfl) ⟨rfl, rfl⟩ (H.sel' [] rfl rfl)
  ·replace h := bif_f hb17 h
   refine st_skip (congrArg some hb17) (st_skip (congrArg some hb17) (st_skip (congrArg some hb17) (st_skip (congrArg some hb17) (st_skip (congrArg some hb17) (st_skip (congrArg some hb17) (st_skip (congrArg some hb17) (st_skip_u rfl (st_skip_u rfl (st_skip_u rfl (st_skip_u rfl (st_skip_u rfl ?_)))))))))))
   refine st_skip_u rfl (st_skip_u rfl (st_skip_u rfl (st_skip_u rfl (st_skip (congrArg some hb17) (st (v := (B false)) (rv_pick_f (congrArg B hb17) rfl) (sa (I o1) rfl (sa (B false) rfl (w_end (q_then (c_ret ?_))))))))))
   obtain rfl := sj h
   exact fin_ret (v := (.tuple #[(I o1), (B false)])) (results_ok Try.results79 (res_tmp (v := (I o1)) rfl (res_tmp (v := (B false)) rfl res_nil)) rfl) ⟨rfl, rfl⟩ (H.sel' [] rfl rfl)

theorem c_impl_History_entriesUntil {Cc : (List (Int × (Int × (List Int) × Int))) × (List Int)} {Cq : Int} {Cd : Option Addr} {Ce : Nat} {Cf : Option Addr} {Cg : Nat} {r : Int} (h : M.impl_History_entriesUntil Cc Cq = some r) :
    Cal2 Try.prog 48 [(.agg #[(Sl Cd Cc.1 Ce), (Sl Cf Cc.2 Cg)]), (I Cq)] [Ch.ro 0 (Sl Cd Cc.1 Ce) Cc.1, Ch.ro 0 (Sl Cf Cc.2 Cg) Cc.2] (fun n0 v L => v = (I r) ∧ L = []) := by
 refine cal2 (n := 16) Try.func48 rfl rfl rfl rfl ?_
 intro S0 σ0 n0 hn0 H
 unfold M.impl_History_entriesUntil at h
 refine c_seq (rg (st_ex (ex_box (cs := [(Sl Cd Cc.1 Ce), (Sl Cf Cc.2 Cg)]) H hn0 rfl rfl) wn ?_))
 rintro _ σ2 ⟨b1, rfl, H, -⟩
 refine sa (I 0) rfl (w_end (q_then (c_seq (rg (st (v := (pt b1 1)) (rv_fieldAddr (off := 1) (ft := 24) Try.underlying26 rfl ti24 rfl rfl) ?_)))))
 have hc3 := H.cell (u := (Sl Cf Cc.2 Cg)) (o' := 1) 0 1 rfl rfl rfl
 refine st (v := (Sl Cf Cc.2 Cg)) (rv_load1 Try.underlying24 rfl rfl hc3) (sm (I Cq) rfl (st (v := (I (w64 (Cq + 1)))) (rv_add (a := Cq) (b := 1) rfl rfl) ?_))
 revert h; refine br fun r4 hx5 h => ?_
 have hc6 := c_slices_BinarySearch_int_int (Be := Cf) (Bf := Cg) hx5
 refine st_call (cx_call hc6 (ent_f hc6.fn rfl) hn0 (H.sel' [2, 0, 1, 2] rfl rfl : Hp S0 σ0 _ ([_] ++ _))) wn ?_
 rintro _ σ7 ⟨_, ⟨rfl, rfl⟩, H, -⟩
 replace H : Hp _ _ _ [_, _, _] := H
 refine sm (.tuple #[(I r4.1), (B r4.2)]) rfl (st (v := (I r4.1)) (rv_extract rfl rfl) (st (v := (B r4.2)) (rv_extract rfl rfl) (sa (I r4.1) rfl (sa (B r4.2) rfl (w_end (q_then (c_seq (rg (sm (I r4.1) rfl (sa (I r4.1) rfl (w_end ?_)))))))))))
 refine q_then (c_ret ?_)
 obtain rfl := sj h
 exact fin_ret (v := (I r4.1)) (results_ok Try.results48 (res_tmp (v := (I r4.1)) rfl res_nil) rfl) ⟨rfl, rfl⟩ (H.sel' [] rfl rfl)

theorem c_impl_version_appendTo : ∀ (fuel : Nat) {Af : Vr (Int × (List Int) × Int)} {Bj : List (Int × (List Int) × Int)} {Ag : Option Addr} {Bk : Option Addr} {Bl : Nat} {r : (List (Int × (List Int) × Int))} (h : M.impl_version_appendTo fuel Af Bj = some r),
    Cal2 Try.prog 49 [(.pointer Ag), (Sl Bk Bj Bl)] [Ch.pv 0 (.pointer Ag) Af, Ch.own 0 0 (Sl Bk Bj Bl) Bj] (fun n0 v L => ∃ (az1 : Option Addr), ∃ (cz2 : Nat), v = (Sl az1 r cz2) ∧ L = [Ch.own 0 0 (Sl az1 r cz2) r]) := by
 intro fuel
 induction fuel with
 | zero => intro _ _ _ _ _ r h; cases h
 | succ fuel ih =>
 ·intro Af Bj Ag Bk Bl r h
  replace h : M.impl_version_appendTo_F (M.impl_version_appendTo fuel) Af Bj = some r := h
  refine cal2 (n := 36) Try.func49 rfl rfl rfl rfl ?_
  intro S0 σ0 n0 hn0 H
  unfold M.impl_version_appendTo_F at h
  refine c_seq (rg (sa (.slice none 0 0) rfl (w_end (q_then (c_seq (c_seq (rg (sm (.pointer Ag) rfl (st (v := (B Af.isNil)) (rv_eqlNilV Try.underlying67 (H.pv 0 rfl) rfl rfl) (w_end (q_then ?_)))))))))))
  refine cd_cond Af.isNil rfl (fun hb1 => ?_) (fun hb1 => ?_)
  ·replace h := bif_t hb1 h
   refine c_seq (rg (sm (Sl Bk Bj Bl) rfl (sa (Sl Bk Bj Bl) rfl (w_end (q_then (c_ret (q_then_r ?_)))))))
   obtain rfl := sj h
   exact fin_ret (v := (Sl Bk Bj Bl)) (results_ok Try.results49 (res_tmp (v := (Sl Bk Bj Bl)) rfl res_nil) rfl) ⟨Bk, Bl, rfl, rfl⟩ (H.sel' [1] rfl rfl)
  ·replace h := bif_f hb1 h
   refine c_skip (q_then (c_seq (c_seq (rg (sm (.pointer Ag) rfl ?_)))))
   revert h; refine br fun x2 hx3 h => ?_
   obtain ⟨b5, o6, hi4⟩ := (H.pv 0 rfl).ex hx3
   refine st (v := (pt b5 o6)) (rv_nilCheckT hi4 rfl) (st (v := (pt b5 (o6 + 0))) (rv_fieldAddr (off := 0) (ft := 106) Try.underlying109 rfl ti106 rfl rfl) ?_)
   obtain ⟨v10, hc9, hR8⟩ := ((H.pv 0 rfl).at hx3 hi4).fst.po
   obtain ⟨a7, rfl⟩ := hR8.isPtr
   replace H := H.add (d := Ch.pv 0 (.pointer a7) x2.1) hR8 (fun _ h => h)
   clear hR8
   refine st (v := (.pointer a7)) (rv_load1 Try.underlying106 rfl rfl hc9) (st (v := (B (!x2.1.isNil))) (rv_neqNilV Try.underlying106 (H.pv 0 rfl) rfl rfl) (w_end (q_then ?_)))
   refine cd_cond (!x2.1.isNil) rfl (fun hb11 => ?_) (fun hb11 => ?_)
   ·replace h := bif_t hb11 h
    refine c_seq (rg (sm (Sl Bk Bj Bl) rfl (sm (.pointer Ag) rfl ?_)))
    revert h; refine br fun x12 hx13 h => ?_
    obtain ⟨b15, o16, hi14⟩ := (H.pv 1 rfl).ex hx13
    refine st (v := (pt b15 o16)) (rv_nilCheckT hi14 rfl) (st (v := (pt b15 (o16 + 0))) (rv_fieldAddr (off := 0) (ft := 106) Try.underlying109 rfl ti106 rfl rfl) ?_)
    obtain ⟨v20, hc19, hR18⟩ := ((H.pv 1 rfl).at hx13 hi14).fst.po
    obtain ⟨a17, rfl⟩ := hR18.isPtr
    replace H := H.add (d := Ch.pv 0 (.pointer a17) x12.1) hR18 (fun _ h => h)
    clear hR18
    refine st (v := (.pointer a17)) (rv_load1 Try.underlying106 rfl rfl hc19) ?_
    revert h; refine br fun x21 hx22 h => ?_
    obtain ⟨b24, o25, hi23⟩ := (H.pv 0 rfl).ex hx22
    refine st (v := (pt b24 o25)) (rv_nilCheckT hi23 rfl) ?_
    obtain ⟨_, ⟨_, _, rfl, rfl, ⟨_, _, rfl, ⟨_, rfl, hR30⟩, rfl⟩⟩, hl26, hc27⟩ := ((H.pv 0 rfl).at hx22 hi23).cells
    obtain ⟨a28, c29, rfl⟩ := hR30.isSl
    replace H := H.add (d := Ch.ro 0 (Sl a28 x21.2.1 c29) x21.2.1) hR30 (fun _ h => h)
    clear hR30
    refine st (v := (.agg #[(I x21.1), (Sl a28 x21.2.1 c29), (I x21.2.2)])) (rv_load Try.underlying41 rfl ti41 rfl hl26 hc27) ?_
    revert h; refine br fun r31 hx32 h => ?_
    have hc33 := c_impl_copyItem (Ak := a28) (Am := c29) hx32
    refine st_call (cx_call hc33 (ent_f hc33.fn rfl) hn0 (H.sel' [0, 0, 1, 2, 3, 4] rfl rfl : Hp S0 σ0 _ ([_] ++ _))) wn ?_
    rintro _ σ36 ⟨_, ⟨a34, c35, rfl, rfl⟩, H, -⟩
    replace H : Hp _ _ _ [_, _, _, _, _, _] := H
    obtain ⟨σ37, hw38, H, -⟩ := H.pub 0 rfl (Nat.le_refl _)
    rw [← hw38]; clear hw38
    refine st_ex (ex_buildSlice (el := n0) (xs := ([(r31.1, r31.2.1, r31.2.2)] : List (Int × (List Int) × Int))) (ps := [(0, (.agg #[(I r31.1), (Sl a34 r31.2.1 c35), (I r31.2.2)]))]) (cs := [(I r31.1), (Sl a34 r31.2.1 c35), (I r31.2.2)]) H hn0 Try.underlying33 ti41 rfl rfl (by kernel_rfl) (.cons (c := [(I r31.1), (Sl a34 r31.2.1 c35), (I r31.2.2)]) ⟨[(I r31.1)], [(Sl a34 r31.2.1 c35), (I r31.2.2)], rfl, rfl, ⟨[(Sl a34 r31.2.1 c35)], [(I r31.2.2)], rfl, ⟨_, rfl, (H.ro 0 rfl)⟩, rfl⟩⟩ (.nil)) rfl) wn ?_
    rintro _ σ40 ⟨b39, rfl, H, -⟩
    revert h; refine br fun xs41 hx42 h => ?_
    refine st_ex (ex_append H (i := 6) rfl Try.underlying33 Try.underlying33 ti41 rfl rfl (by decide) ((H.own 0 rfl).rd.low (Nat.zero_le _)) hx42 (Nat.zero_le _) rfl rfl) wn ?_
    rintro _ σ45 ⟨a43, c44, rfl, H, -⟩
    refine sa (Sl a43 xs41 c44) rfl (w_end (q_then (c_ret (q_then_r ?_))))
    obtain rfl := sj h
    exact fin_ret (v := (Sl a43 xs41 c44)) (results_ok Try.results49 (res_tmp (v := (Sl a43 xs41 c44)) rfl res_nil) rfl) ⟨a43, c44, rfl, rfl⟩ (H.sel' [0] rfl rfl)
   ·replace h := bif_f hb11 h
    refine c_skip (q_then (c_seq ?_))
    revert h; refine br fun x46 hx47 h => ?_
    obtain ⟨b49, o50, hi48⟩ := (H.pv 1 rfl).ex hx47
    obtain ⟨v54, hc53, hR52⟩ := ((H.pv 1 rfl).at hx47 hi48).snd.snd.vr
    obtain ⟨a51, rfl⟩ := hR52.isPtr
    replace H := H.add (d := Ch.pv 0 (.pointer a51) x46.2.2) hR52 (fun _ h => h)
    clear hR52
    revert h; refine br fun x55 hx56 h => ?_
    obtain ⟨b58, o59, hi57⟩ := (H.pv 2 rfl).ex hx56
    obtain ⟨v63, hc62, hR61⟩ := ((H.pv 2 rfl).at hx56 hi57).snd.fst.vr
    obtain ⟨a60, rfl⟩ := hR61.isPtr
    replace H := H.add (d := Ch.pv 0 (.pointer a60) x55.2.1) hR61 (fun _ h => h)
    clear hR61
    revert h; refine br fun r64 hx65 h => ?_
    have hc66 := ih (Ag := a60) (Bk := Bk) (Bl := Bl) hx65
    have Hs := H
    refine rg2 (σ := σ0) (Nm := (Option Addr) × (Nat)) 12 [11] [[false], [true]] [[(0, 0), (1, 1)], [(0, 0), (1, 1)], [(0, 0), (1, 1)], [(0, 0), (1, 1)], [(0, 0), (1, 1)], [(0, 0)], [(0, 0)], [(0, 0)], [(0, 0)], [(0, 0)], [(0, 0)], [(0, 1)]] 1 [fun ((a67, c68) : (Option Addr) × (Nat)) => fun σm => Hp S0 σ0 σm [Ch.pv 0 (.pointer a60) x55.2.1, Ch.pv 0 (.pointer a51) x46.2.2, Ch.pv 0 (.pointer a7) x2.1, Ch.pv 0 (.pointer Ag) Af, Ch.own 0 0 (Sl Bk Bj Bl) Bj] ∧ Md (cov []) σ0 σm, fun ((a67, c68) : (Option Addr) × (Nat)) => fun σm => Hp S0 σ0 σm [Ch.own 0 0 (Sl a67 r64 c68) r64, Ch.pv 0 (.pointer a60) x55.2.1, Ch.pv 0 (.pointer a51) x46.2.2, Ch.pv 0 (.pointer a7) x2.1, Ch.pv 0 (.pointer Ag) Af] ∧ Md (fun i => (cov []) i ∨ (cov [Ch.pv 0 (.pointer a60) x55.2.1, Ch.own 0 0 (Sl Bk Bj Bl) Bj]) i) σ0 σm] [fun ((a67, c68) : (Option Addr) × (Nat)) => (.pointer Ag), fun ((a67, c68) : (Option Addr) × (Nat)) => (pt b49 o50), fun ((a67, c68) : (Option Addr) × (Nat)) => (pt b49 (o50 + 1)), fun ((a67, c68) : (Option Addr) × (Nat)) => (pt b49 (o50 + 2)), fun ((a67, c68) : (Option Addr) × (Nat)) => (.pointer a51), fun ((a67, c68) : (Option Addr) × (Nat)) => (.pointer Ag), fun ((a67, c68) : (Option Addr) × (Nat)) => (pt b58 o59), fun ((a67, c68) : (Option Addr) × (Nat)) => (pt b58 (o59 + 1)), fun ((a67, c68) : (Option Addr) × (Nat)) => (pt b58 (o59 + 1)), fun ((a67, c68) : (Option Addr) × (Nat)) => (.pointer a60), fun ((a67, c68) : (Option Addr) × (Nat)) => (Sl Bk Bj Bl), fun ((a67, c68) : (Option Addr) × (Nat)) => (Sl a67 r64 c68)] (none, 0) (by kernel_rfl) (by kernel_rfl) ?_ ?_ ?_
    ·intro σm m0
     exact ⟨H.grow (m0.mono fun _ h => h.elim), m0⟩
    ·refine ac rfl (by
       intro k; rintro ⟨a67, c68⟩ ρ σm hJ hoff hdep
       have e0 := look_off (N := 36) (hoff 0 rfl) rfl
       exact dp_v (v := (.pointer Ag)) wn (rv_move e0) rfl hJ) ?_
     refine ac rfl (by
       intro k; rintro ⟨a67, c68⟩ ρ σm hJ hoff hdep
       have e23 := hdep 0 rfl rfl 23 rfl
       exact dp_v (v := (pt b49 o50)) wn (rv_nilCheckT hi48 e23) rfl hJ) ?_
     refine ac rfl (by
       intro k; rintro ⟨a67, c68⟩ ρ σm hJ hoff hdep
       have e24 := hdep 1 rfl rfl 24 rfl
       exact dp_v (v := (pt b49 (o50 + 1))) wn (rv_fieldAddr (off := 1) (ft := 107) Try.underlying109 rfl ti107 rfl e24) rfl hJ) ?_
     refine ac rfl (by
       intro k; rintro ⟨a67, c68⟩ ρ σm hJ hoff hdep
       have e25 := hdep 2 rfl rfl 25 rfl
       exact dp_v (v := (pt b49 (o50 + 2))) wn (rv_indexAddr_arrayC (bl := b49) (o := (o50 + 1)) Try.underlying107 ti67 e25 rfl (by decide) (by decide) rfl) rfl hJ) ?_
     refine all_cons (by
       refine ⟨?_, ?_⟩
       ·rintro ⟨a67, c68⟩ ρ σm hJ hoff hdep
        have e26 := hdep 3 rfl rfl 26 rfl
        obtain ⟨H, m⟩ := id hJ
        replace hc53 := (Hs.pv 3 rfl).hmd hx47 hi48 (k := 2) (by decide) hc53 m
        exact dp_v (v := (.pointer a51)) wn (rv_load1 Try.underlying67 rfl e26 hc53) rfl hJ
       refine ⟨?_, ?_⟩
       ·rintro ⟨a67, c68⟩ ρ σm hJ hoff hdep
        have e26 := hdep 3 rfl rfl 26 rfl
        obtain ⟨H, m⟩ := id hJ
        replace hc53 := (Hs.pv 3 rfl).hmd hx47 hi48 (k := 2) (by decide) hc53 m
        exact dp_v (v := (.pointer a51)) wn (rv_load1 Try.underlying67 rfl e26 hc53) rfl hJ
       trivial) ?_
     refine ac rfl (by
       intro k; rintro ⟨a67, c68⟩ ρ σm hJ hoff hdep
       have e0 := look_off (N := 36) (hoff 0 rfl) rfl
       exact dp_v (v := (.pointer Ag)) wn (rv_move e0) rfl hJ) ?_
     refine ac rfl (by
       intro k; rintro ⟨a67, c68⟩ ρ σm hJ hoff hdep
       have e28 := hdep 5 rfl rfl 28 rfl
       exact dp_v (v := (pt b58 o59)) wn (rv_nilCheckT hi57 e28) rfl hJ) ?_
     refine ac rfl (by
       intro k; rintro ⟨a67, c68⟩ ρ σm hJ hoff hdep
       have e29 := hdep 6 rfl rfl 29 rfl
       exact dp_v (v := (pt b58 (o59 + 1))) wn (rv_fieldAddr (off := 1) (ft := 107) Try.underlying109 rfl ti107 rfl e29) rfl hJ) ?_
     refine ac rfl (by
       intro k; rintro ⟨a67, c68⟩ ρ σm hJ hoff hdep
       have e30 := hdep 7 rfl rfl 30 rfl
       exact dp_v (v := (pt b58 (o59 + 1))) wn (rv_indexAddr_arrayC (bl := b58) (o := (o59 + 1)) Try.underlying107 ti67 e30 rfl (by decide) (by decide) rfl) rfl hJ) ?_
     refine all_cons (by
       refine ⟨?_, ?_⟩
       ·rintro ⟨a67, c68⟩ ρ σm hJ hoff hdep
        have e31 := hdep 8 rfl rfl 31 rfl
        obtain ⟨H, m⟩ := id hJ
        replace hc62 := (Hs.pv 3 rfl).hmd hx56 hi57 (k := 1) (by decide) hc62 m
        exact dp_v (v := (.pointer a60)) wn (rv_load1 Try.underlying67 rfl e31 hc62) rfl hJ
       trivial) ?_
     refine ac rfl (by
       intro k; rintro ⟨a67, c68⟩ ρ σm hJ hoff hdep
       have e1 := look_off (N := 36) (hoff 1 rfl) rfl
       exact dp_v (v := (Sl Bk Bj Bl)) wn (rv_move e1) rfl hJ) ?_
     refine all_cons (by
       refine ⟨?_, ?_⟩
       ·rintro ⟨a67, c68⟩ ρ σm hJ hoff hdep
        have e32 : look 36 ρ 32 = (.pointer a60) := hdep 9 rfl rfl 32 rfl
        have e33 : look 36 ρ 33 = (Sl Bk Bj Bl) := hdep 10 rfl rfl 33 rfl
        obtain ⟨H, m⟩ := id hJ
        refine dp_cx wn (cx_call hc66 (ent_f hc66.fn (by show [look 36 ρ 32, look 36 ρ 33] = _; rw [e32, e33])) hn0 (H.sel' [0, 4, 0, 1, 2, 3] rfl rfl : Hp S0 σ0 _ ([_, _] ++ _))) ?_
        rintro _ σq ⟨_, ⟨a67x, c68x, rfl, rfl⟩, H2, m2⟩
        exact ⟨_, (a67x, c68x), rfl, rfl, ⟨H2.sel' [0, 1, 2, 3, 4] rfl rfl, m.comp m2⟩, stab [0, 1, 2, 3, 4, 5, 6, 7, 8, 9, 10] (by kernel_rfl) ⟨rfl, rfl, rfl, rfl, rfl, rfl, rfl, rfl, rfl, rfl, rfl, trivial⟩⟩
       trivial) ?_
     exact all_nil
    ·rintro ⟨a67, c68⟩ ρ σ69 hJ hoff hrel
     have e27 := hrel 4 rfl 27 rfl
     have e34 := hrel 11 rfl 34 rfl
     obtain ⟨H, -⟩ := (show Hp S0 σ0 σ69 [Ch.own 0 0 (Sl a67 r64 c68) r64, Ch.pv 0 (.pointer a60) x55.2.1, Ch.pv 0 (.pointer a51) x46.2.2, Ch.pv 0 (.pointer a7) x2.1, Ch.pv 0 (.pointer Ag) Af] ∧ Md (fun i => (cov []) i ∨ (cov [Ch.pv 0 (.pointer a60) x55.2.1, Ch.own 0 0 (Sl Bk Bj Bl) Bj]) i) σ0 σ69 from hJ)
     clear hJ Hs
     rw [fr_lookL (L := [(27, (.pointer a51)), (34, (Sl a67 r64 c68))]) ⟨e27, e34, trivial⟩]
     clear hoff hrel e27 e34
     revert h; refine br fun r70 hx71 h => ?_
     have hc72 := ih (Ag := a51) (Bk := a67) (Bl := c68) hx71
     refine st_call (cx_call hc72 (ent_f hc72.fn rfl) hn0 (H.sel' [2, 0, 1, 2, 3, 4] rfl rfl : Hp S0 σ0 _ ([_, _] ++ _))) wn ?_
     rintro _ σ75 ⟨_, ⟨a73, c74, rfl, rfl⟩, H, -⟩
     replace H : Hp _ _ _ [_, _, _, _, _] := H
     refine sa (Sl a73 r70 c74) rfl (w_end (q_then (c_ret ?_)))
     obtain rfl := sj h
     exact fin_ret (v := (Sl a73 r70 c74)) (results_ok Try.results49 (res_tmp (v := (Sl a73 r70 c74)) rfl res_nil) rfl) ⟨a73, c74, rfl, rfl⟩ (H.sel' [0] rfl rfl)

theorem c_impl_StoreAt {Cc : (List (Int × (Int × (List Int) × Int))) × (List Int)} {Cq : Int} {Cd : Option Addr} {Ce : Nat} {Cf : Option Addr} {Cg : Nat} {r : (List (Int × (List Int) × Int))} (h : M.impl_StoreAt Cc Cq = some r) :
    Cal2 Try.prog 20 [(.agg #[(Sl Cd Cc.1 Ce), (Sl Cf Cc.2 Cg)]), (I Cq)] [Ch.ro 0 (Sl Cd Cc.1 Ce) Cc.1, Ch.ro 0 (Sl Cf Cc.2 Cg) Cc.2] (fun n0 v L => ∃ (az1 : Option Addr), ∃ (cz2 : Nat), v = (Sl az1 r cz2) ∧ L = [Ch.own 0 0 (Sl az1 r cz2) r]) := by
 refine cal2 (n := 21) Try.func20 rfl rfl rfl rfl ?_
 intro S0 σ0 n0 hn0 H
 unfold M.impl_StoreAt at h
 refine c_seq (rg (st_ex (ex_box (cs := [(Sl Cd Cc.1 Ce), (Sl Cf Cc.2 Cg)]) H hn0 rfl rfl) wn ?_))
 rintro _ σ2 ⟨b1, rfl, H, -⟩
 refine sa (.slice none 0 0) rfl (w_end (q_then (c_seq (c_seq ?_))))
 obtain ⟨o3, hj, h'⟩ := bind_some h
 clear h
 refine c_cut (fun e a w => e = .normal ∧ ∃ (ρ : Nat → Value) (σ : St), a = fr 21 (updL ρ [(1, (I Cq)), (2, (pt b1 0)), (12, (B o3))]) ∧ w = σ.w ∧ Hp S0 σ0 σ [Ch.ro 0 (Sl Cd Cc.1 Ce) Cc.1, Ch.ro 0 (Sl Cf Cc.2 Cg) Cc.2, Ch.bx n0 b1 0 [(Sl Cd Cc.1 Ce), (Sl Cf Cc.2 Cg)] [] []]) ?_ ?_
 ·clear h'
  rename _ = some o3 => h
  refine rg ?_
  have hc4 := H.cells 0 rfl
  refine st (v := (.agg #[(Sl Cd Cc.1 Ce), (Sl Cf Cc.2 Cg)])) (rv_load (cs := [(Sl Cd Cc.1 Ce), (Sl Cf Cc.2 Cg)]) Try.underlying26 rfl ti26 rfl rfl hc4) ?_
  revert h; refine br fun r5 hx6 h => ?_
  have hc7 := c_impl_ValidHistory (Cd := Cd) (Ce := Ce) (Cf := Cf) (Cg := Cg) hx6
  refine st_call (cx_call hc7 (ent_f hc7.fn rfl) hn0 (H.sel' [1, 2, 0, 1, 2] rfl rfl : Hp S0 σ0 _ ([_, _] ++ _))) wn ?_
  rintro _ σ8 ⟨_, ⟨rfl, rfl⟩, H, -⟩
  replace H : Hp _ _ _ [_, _, _] := H
  refine st (v := (B (!r5))) (rv_not rfl) (sm (B (!r5)) rfl ?_)
  rcases Bool.eq_false_or_eq_true (!r5) with hb9 | hb9
  ·replace h := bif_t hb9 h
   refine st_skip (congrArg some hb9) (st_skip (congrArg some hb9) (st_skip (congrArg some hb9) (st (v := (B true)) (rv_pick_t (congrArg B hb9) rfl) (w_end ?_))))
   obtain rfl := sj h
   exact ⟨rfl, _, σ8, fr_join ⟨rfl, rfl, rfl, trivial⟩, rfl, H.sel' [1, 2, 0] rfl rfl⟩
  ·replace h := bif_f hb9 h
   refine st_g (v := (I Cq)) (congrArg some hb9) (rv_move rfl) ?_
   revert h; refine br fun r10 hx11 h => ?_
   have hc12 := c_impl_validMoment hx11
   refine st_call (cx_call hc12 (ent_f hc12.fn rfl) hn0 (H.sel' [0, 1, 2] rfl rfl : Hp S0 σ0 _ ([] ++ _))) (wanted_yes rfl (by exact (congrArg some hb9))) ?_
   rintro _ σ13 ⟨_, ⟨rfl, rfl⟩, H, -⟩
   replace H : Hp _ _ _ [_, _, _] := H
   refine st_g (v := (B (!r10))) (congrArg some hb9) (rv_not rfl) (st (v := (B (!r10))) (rv_pick_f (congrArg B hb9) rfl) (w_end ?_))
   obtain rfl := sj h
   exact ⟨rfl, _, σ13, fr_join ⟨rfl, rfl, rfl, trivial⟩, rfl, H.sel' [1, 2, 0] rfl rfl⟩
 ·clear hj
  have h := h'
  clear h' H
  rintro e a w ⟨rfl, ρ, σ14, rfl, rfl, H⟩
  refine q_then ?_
  refine cd_cond o3 rfl (fun hb15 => ?_) (fun hb15 => ?_)
  ·replace h := bif_t hb15 h
   refine c_seq (rg (sa (.slice none 0 0) rfl (w_end (q_then (c_ret (q_then_r ?_))))))
   replace H := H.nilOwn (Int × (List Int) × Int) 0 0
   obtain rfl := sj h
   exact fin_ret (v := (.slice none 0 0)) (results_ok Try.results20 (res_tmp (v := (.slice none 0 0)) rfl res_nil) rfl) ⟨none, 0, rfl, rfl⟩ (H.sel' [0] rfl rfl)
  ·replace h := bif_f hb15 h
   refine c_skip (q_then (c_seq ?_))
   have hc16 := H.cells 2 rfl
   revert h; refine br fun r17 hx18 h => ?_
   have hc19 := c_impl_History_versions (Cd := Cd) (Ce := Ce) (Cf := Cf) (Cg := Cg) hx18
   have hc22 := H.cells 2 rfl
   have Hs := H
   refine rg2 (σ := σ14) (Nm := (Option Addr) × (Nat)) 4 [1] [[false], [true]] [[(0, 0)], [(0, 1)], [(0, 0), (1, 1)], [(0, 0), (1, 1)]] 1 [fun ((a20, c21) : (Option Addr) × (Nat)) => fun σm => Hp S0 σ0 σm [Ch.ro 0 (Sl Cd Cc.1 Ce) Cc.1, Ch.ro 0 (Sl Cf Cc.2 Cg) Cc.2, Ch.bx n0 b1 0 [(Sl Cd Cc.1 Ce), (Sl Cf Cc.2 Cg)] [] []] ∧ Md (cov []) σ14 σm, fun ((a20, c21) : (Option Addr) × (Nat)) => fun σm => Hp S0 σ0 σm [Ch.own n0 0 (Sl a20 r17 c21) r17, Ch.ro 0 (Sl Cd Cc.1 Ce) Cc.1, Ch.ro 0 (Sl Cf Cc.2 Cg) Cc.2, Ch.bx n0 b1 0 [(Sl Cd Cc.1 Ce), (Sl Cf Cc.2 Cg)] [] []] ∧ Md (cov []) σ14 σm] [fun ((a20, c21) : (Option Addr) × (Nat)) => (.agg #[(Sl Cd Cc.1 Ce), (Sl Cf Cc.2 Cg)]), fun ((a20, c21) : (Option Addr) × (Nat)) => (Sl a20 r17 c21), fun ((a20, c21) : (Option Addr) × (Nat)) => (.agg #[(Sl Cd Cc.1 Ce), (Sl Cf Cc.2 Cg)]), fun ((a20, c21) : (Option Addr) × (Nat)) => (I Cq)] (none, 0) (by kernel_rfl) (by kernel_rfl) ?_ ?_ ?_
   ·intro σm m0
    exact ⟨H.grow (m0.mono fun _ h => h.elim), m0⟩
   ·refine all_cons (by
      refine ⟨?_, ?_⟩
      ·rintro ⟨a20, c21⟩ ρ σm hJ hoff hdep
       have e2 := look_off (N := 21) (hoff 2 rfl) rfl
       obtain ⟨H, m⟩ := id hJ
       have hc16 := H.cells 2 rfl
       exact dp_v (v := (.agg #[(Sl Cd Cc.1 Ce), (Sl Cf Cc.2 Cg)])) wn (rv_load (cs := [(Sl Cd Cc.1 Ce), (Sl Cf Cc.2 Cg)]) Try.underlying26 rfl ti26 e2 rfl hc16) rfl hJ
      trivial) ?_
    refine all_cons (by
      refine ⟨?_, ?_⟩
      ·rintro ⟨a20, c21⟩ ρ σm hJ hoff hdep
       have e13 : look 21 ρ 13 = (.agg #[(Sl Cd Cc.1 Ce), (Sl Cf Cc.2 Cg)]) := hdep 0 rfl rfl 13 rfl
       obtain ⟨H, m⟩ := id hJ
       refine dp_cx wn (cx_call hc19 (ent_f hc19.fn (by show [look 21 ρ 13] = _; rw [e13])) hn0 (H.sel' [0, 1, 0, 1, 2] rfl rfl : Hp S0 σ0 _ ([_, _] ++ _))) ?_
       rintro _ σq ⟨_, ⟨a20x, c21x, rfl, rfl⟩, H2, m2⟩
       exact ⟨_, (a20x, c21x), rfl, rfl, ⟨H2.sel' [0, 1, 2, 3] rfl rfl, m.comp0 (m2.mono (fun i h => by simp [cov, Ch.ro] at h))⟩, stab [0, 2, 3] (by kernel_rfl) ⟨rfl, rfl, rfl, trivial⟩⟩
      trivial) ?_
    refine all_cons (by
      refine ⟨?_, ?_⟩
      ·rintro ⟨a20, c21⟩ ρ σm hJ hoff hdep
       have e2 := look_off (N := 21) (hoff 2 rfl) rfl
       obtain ⟨H, m⟩ := id hJ
       have hc22 := H.cells 2 rfl
       exact dp_v (v := (.agg #[(Sl Cd Cc.1 Ce), (Sl Cf Cc.2 Cg)])) wn (rv_load (cs := [(Sl Cd Cc.1 Ce), (Sl Cf Cc.2 Cg)]) Try.underlying26 rfl ti26 e2 rfl hc22) rfl hJ
      refine ⟨?_, ?_⟩
      ·rintro ⟨a20, c21⟩ ρ σm hJ hoff hdep
       have e2 := look_off (N := 21) (hoff 2 rfl) rfl
       obtain ⟨H, m⟩ := id hJ
       have hc22 := H.cells 3 rfl
       exact dp_v (v := (.agg #[(Sl Cd Cc.1 Ce), (Sl Cf Cc.2 Cg)])) wn (rv_load (cs := [(Sl Cd Cc.1 Ce), (Sl Cf Cc.2 Cg)]) Try.underlying26 rfl ti26 e2 rfl hc22) rfl hJ
      trivial) ?_
    refine ac rfl (by
      intro k; rintro ⟨a20, c21⟩ ρ σm hJ hoff hdep
      have e1 := look_off (N := 21) (hoff 1 rfl) rfl
      exact dp_v (v := (I Cq)) wn (rv_move e1) rfl hJ) ?_
    exact all_nil
   ·rintro ⟨a20, c21⟩ ρ σ23 hJ hoff hrel
    have e14 := hrel 1 rfl 14 rfl
    have e15 := hrel 2 rfl 15 rfl
    have e16 := hrel 3 rfl 16 rfl
    obtain ⟨H, -⟩ := (show Hp S0 σ0 σ23 [Ch.own n0 0 (Sl a20 r17 c21) r17, Ch.ro 0 (Sl Cd Cc.1 Ce) Cc.1, Ch.ro 0 (Sl Cf Cc.2 Cg) Cc.2, Ch.bx n0 b1 0 [(Sl Cd Cc.1 Ce), (Sl Cf Cc.2 Cg)] [] []] ∧ Md (cov []) σ14 σ23 from hJ)
    clear hJ Hs
    rw [fr_lookL (L := [(14, (Sl a20 r17 c21)), (15, (.agg #[(Sl Cd Cc.1 Ce), (Sl Cf Cc.2 Cg)])), (16, (I Cq))]) ⟨e14, e15, e16, trivial⟩]
    clear hoff hrel e14 e15 e16
    revert h; refine br fun r24 hx25 h => ?_
    have hc26 := c_impl_History_entriesUntil (Cd := Cd) (Ce := Ce) (Cf := Cf) (Cg := Cg) hx25
    refine st_call (cx_call hc26 (ent_f hc26.fn rfl) hn0 (H.sel' [1, 2, 0, 1, 2, 3] rfl rfl : Hp S0 σ0 _ ([_, _] ++ _))) wn ?_
    rintro _ σ27 ⟨_, ⟨rfl, rfl⟩, H, -⟩
    replace H : Hp _ _ _ [_, _, _, _] := H
    revert h; refine br fun x28 hx29 h => ?_
    obtain ⟨b31, o32, hi30, -⟩ := (H.own 0 rfl).ix hx29
    refine st (v := (pt b31 o32)) (rv_ix Try.underlying68 ti67 rfl rfl hi30) ?_
    obtain ⟨v36, hc35, hR34⟩ := ((H.own 0 rfl).at hx29 hi30).vr
    obtain ⟨a33, rfl⟩ := hR34.isPtr
    replace H := H.add (d := Ch.pv 0 (.pointer a33) x28) hR34 (fun _ h => h)
    clear hR34
    refine st (v := (.pointer a33)) (rv_load1 Try.underlying67 rfl rfl hc35) ?_
    replace H := H.nilOwn (Int × (List Int) × Int) 0 0
    revert h; refine br fun r37 hx38 h => ?_
    have hc39 := c_impl_version_appendTo 100 (Ag := a33) (Bk := none) (Bl := 0) hx38
    refine st_call (cx_call hc39 (ent_f hc39.fn rfl) hn0 (H.sel' [1, 0, 1, 2, 3, 4, 5] rfl rfl : Hp S0 σ0 _ ([_, _] ++ _))) wn ?_
    rintro _ σ42 ⟨_, ⟨a40, c41, rfl, rfl⟩, H, -⟩
    replace H : Hp _ _ _ [_, _, _, _, _, _] := H
    refine sa (Sl a40 r37 c41) rfl (w_end (q_then (c_ret ?_)))
    obtain rfl := sj h
    exact fin_ret (v := (Sl a40 r37 c41)) (results_ok Try.results20 (res_tmp (v := (Sl a40 r37 c41)) rfl res_nil) rfl) ⟨a40, c41, rfl, rfl⟩ (H.sel' [0] rfl rfl)

theorem c_laws_equalInts {Cr : List Int} {Cs : List Int} {Ct : Option Addr} {Cu : Nat} {Cv : Option Addr} {Cw : Nat} {r : Bool} (h : M.laws_equalInts Cr Cs = some r) :
    Cal2 Try.prog 37 [(Sl Ct Cr Cu), (Sl Cv Cs Cw)] [Ch.ro 0 (Sl Ct Cr Cu) Cr, Ch.ro 0 (Sl Cv Cs Cw) Cs] (fun n0 v L => v = (B r) ∧ L = []) := by
 refine cal2 (n := 26) Try.func37 rfl rfl rfl rfl ?_
 intro S0 σ0 n0 hn0 H
 unfold M.laws_equalInts at h
 refine c_seq (rg (sa (B false) rfl (w_end (q_then (c_seq (c_seq (rg (sm (Sl Ct Cr Cu) rfl (st (v := (I (Cr.length : Int))) (rv_len Try.underlying24 rfl) (sm (Sl Cv Cs Cw) rfl (st (v := (I (Cs.length : Int))) (rv_len Try.underlying24 rfl) ?_)))))))))))
 refine st (v := (B ((Cr.length : Int) != (Cs.length : Int)))) (rv_neq (a := (Cr.length : Int)) (b := (Cs.length : Int)) rfl rfl) (w_end (q_then ?_))
 refine cd_cond ((Cr.length : Int) != (Cs.length : Int)) rfl (fun hb1 => ?_) (fun hb1 => ?_)
 ·replace h := bif_t hb1 h
  refine c_seq (rg (sa (B false) rfl (w_end (q_then (c_ret (q_then_r ?_))))))
  obtain rfl := sj h
  exact fin_ret (v := (B false)) (results_ok Try.results37 (res_tmp (v := (B false)) rfl res_nil) rfl) ⟨rfl, rfl⟩ (H.sel' [] rfl rfl)
 ·replace h := bif_f hb1 h
  refine c_skip (q_then (c_seq (c_seq (rg (sa (I 0) rfl (w_end (q_then ?_)))))))
  obtain ⟨o2, hj, h'⟩ := bind_some h
  clear h
  refine c_cut (fun e a w => (∃ t, o2 = (.inl t) ∧ e = .normal ∧ ∃ (ρ : Nat → Value) (σ : St), a = fr 26 (updL ρ []) ∧ w = σ.w ∧ Hp S0 σ0 σ []) ∨ (∃ t, o2 = (.inr t) ∧ e = .ret ∧ ∃ (ρ : Nat → Value) (σ : St), a = fr 26 (updL ρ [(4, (B t))]) ∧ w = σ.w ∧ Hp S0 σ0 σ [])) ?_ ?_
  ·clear h'
   rename _ = some o2 => h
   refine c_blk (wp_loopM _ h (fun s3 a w => ∃ (ρ : Nat → Value) (σ : St), a = fr 26 (updL ρ [(0, (Sl Ct Cr Cu)), (1, (Sl Cv Cs Cw)), (5, (I s3))]) ∧ w = σ.w ∧ Hp S0 σ0 σ [Ch.ro 0 (Sl Ct Cr Cu) Cr, Ch.ro 0 (Sl Cv Cs Cw) Cs]) ⟨_, σ0, fr_join ⟨rfl, rfl, rfl, trivial⟩, rfl, H.sel' [0, 1] rfl rfl⟩ ?_)
   clear h H
   rintro s3 a w o ⟨ρ, σ4, rfl, rfl, H⟩ h hres
   refine c_seq (c_seq (rg (sm (I s3) rfl (sm (Sl Ct Cr Cu) rfl (st (v := (I (Cr.length : Int))) (rv_len Try.underlying24 rfl) (st (v := (B (decide (s3 < (Cr.length : Int))))) (rv_lss (a := s3) (b := (Cr.length : Int)) rfl rfl) (w_end (q_then ?_))))))))
   refine cd_cond (decide (s3 < (Cr.length : Int))) rfl (fun hb5 => ?_) (fun hb5 => ?_)
   ·replace h := bif_t hb5 h
    refine c_skip (q_then (c_seq (c_blk (c_seq ?_))))
    refine rgP (σ := σ4) 8 (by kernel_rfl) (by kernel_rfl) (by kernel_rfl) ?_
    refine sq (v := (Sl Ct Cr Cu)) (rv_move rfl) (sq (v := (I s3)) (rv_move rfl) ?_)
    revert h; refine br fun x6 hx7 h => ?_
    obtain ⟨b9, o10, hi8, -⟩ := (H.ro 0 rfl).ix hx7
    refine sq (v := (pt b9 o10)) (rv_ix Try.underlying24 ti3 rfl rfl hi8) ?_
    have hc11 := ((H.ro 0 rfl).at hx7 hi8).int
    refine sq (v := (I x6)) (rv_load1 Try.underlying3 rfl rfl hc11) (sq (v := (Sl Cv Cs Cw)) (rv_move rfl) (sq (v := (I s3)) (rv_move rfl) ?_))
    revert h; refine br fun x12 hx13 h => ?_
    obtain ⟨b15, o16, hi14, -⟩ := (H.ro 1 rfl).ix hx13
    refine sq (v := (pt b15 o16)) (rv_ix Try.underlying24 ti3 rfl rfl hi14) ?_
    have hc17 := ((H.ro 1 rfl).at hx13 hi14).int
    refine sq (v := (I x12)) (rv_load1 Try.underlying3 rfl rfl hc17) (sq_end ?_)
    intro σ18 hm19
    replace H := H.grow (hm19.mono fun _ h => h); clear hm19
    refine st (v := (B (x6 != x12))) (rv_neq (a := x6) (b := x12) rfl rfl) (w_end (q_then ?_))
    refine cd_cond (x6 != x12) rfl (fun hb20 => ?_) (fun hb20 => ?_)
    ·replace h := bif_t hb20 h
     refine c_seq (rg (sa (B false) rfl (w_end (q_then (c_ret (q_blk_r (q_then_r (q_then_r (q_blk_r ?_)))))))))
     obtain rfl := sj h
     obtain rfl := hres _ rfl
     exact .inr (⟨_, rfl, rfl, _, σ18, fr_join ⟨rfl, trivial⟩, rfl, H.sel' [] rfl rfl⟩)
    ·replace h := bif_f hb20 h
     refine c_skip (q_blk (q_then (rg (sm (I s3) rfl (st (v := (I (w64 (s3 + 1)))) (rv_add (a := s3) (b := 1) rfl rfl) (sa (I (w64 (s3 + 1))) rfl (w_end (q_then ?_))))))))
     obtain rfl := sj h
     exact ⟨_, rfl, _, σ18, fr_join ⟨rfl, rfl, rfl, trivial⟩, rfl, H.sel' [0, 1] rfl rfl⟩
   ·replace h := bif_f hb5 h
    refine c_exit (q_then_x (q_then_x (q_blk_hit ?_)))
    obtain rfl := sj h
    obtain rfl := hres _ rfl
    exact .inl ⟨_, rfl, rfl, _, σ4, fr_join trivial, rfl, H.sel' [] rfl rfl⟩
  ·clear hj
   have h := h'
   clear h' H
   rintro e a w (⟨t21, rfl, rfl, ρ, σ22, rfl, rfl, H⟩ | ⟨t23, rfl, rfl, ρ, σ24, rfl, rfl, H⟩)
   ·replace h := selim_l h
    refine q_then (c_seq (rg (sa (B true) rfl (w_end (q_then (c_ret ?_))))))
    obtain rfl := sj h
    exact fin_ret (v := (B true)) (results_ok Try.results37 (res_tmp (v := (B true)) rfl res_nil) rfl) ⟨rfl, rfl⟩ (H.sel' [] rfl rfl)
   ·replace h := selim_r h
    refine q_then_r ?_
    obtain rfl := sj h
    exact fin_ret (v := (B t23)) (results_ok Try.results37 (res_tmp (v := (B t23)) rfl res_nil) rfl) ⟨rfl, rfl⟩ (H.sel' [] rfl rfl)

theorem c_laws_equalItems {Cr : List (Int × (List Int) × Int)} {Cs : List (Int × (List Int) × Int)} {Ct : Option Addr} {Cu : Nat} {Cv : Option Addr} {Cw : Nat} {r : Bool} (h : M.laws_equalItems Cr Cs = some r) :
    Cal2 Try.prog 21 [(Sl Ct Cr Cu), (Sl Cv Cs Cw)] [Ch.ro 0 (Sl Ct Cr Cu) Cr, Ch.ro 0 (Sl Cv Cs Cw) Cs] (fun n0 v L => v = (B r) ∧ L = []) := by
 refine cal2 (n := 55) Try.func21 rfl rfl rfl rfl ?_
 intro S0 σ0 n0 hn0 H
 unfold M.laws_equalItems at h
 refine c_seq (rg (sa (B false) rfl (w_end (q_then (c_seq (c_seq (rg (sm (Sl Ct Cr Cu) rfl (st (v := (I (Cr.length : Int))) (rv_len Try.underlying33 rfl) (sm (Sl Cv Cs Cw) rfl (st (v := (I (Cs.length : Int))) (rv_len Try.underlying33 rfl) ?_)))))))))))
 refine st (v := (B ((Cr.length : Int) != (Cs.length : Int)))) (rv_neq (a := (Cr.length : Int)) (b := (Cs.length : Int)) rfl rfl) (w_end (q_then ?_))
 refine cd_cond ((Cr.length : Int) != (Cs.length : Int)) rfl (fun hb1 => ?_) (fun hb1 => ?_)
 ·replace h := bif_t hb1 h
  refine c_seq (rg (sa (B false) rfl (w_end (q_then (c_ret (q_then_r ?_))))))
  obtain rfl := sj h
  exact fin_ret (v := (B false)) (results_ok Try.results21 (res_tmp (v := (B false)) rfl res_nil) rfl) ⟨rfl, rfl⟩ (H.sel' [] rfl rfl)
 ·replace h := bif_f hb1 h
  refine c_skip (q_then (c_seq (c_seq (rg (sa (I 0) rfl (w_end (q_then ?_)))))))
  obtain ⟨o2, hj, h'⟩ := bind_some h
  clear h
  refine c_cut (fun e a w => (∃ t, o2 = (.inl t) ∧ e = .normal ∧ ∃ (ρ : Nat → Value) (σ : St), a = fr 55 (updL ρ []) ∧ w = σ.w ∧ Hp S0 σ0 σ []) ∨ (∃ t, o2 = (.inr t) ∧ e = .ret ∧ ∃ (ρ : Nat → Value) (σ : St), a = fr 55 (updL ρ [(4, (B t))]) ∧ w = σ.w ∧ Hp S0 σ0 σ [])) ?_ ?_
  ·clear h'
   rename _ = some o2 => h
   refine c_blk (wp_loopM _ h (fun s3 a w => ∃ (ρ : Nat → Value) (σ : St), a = fr 55 (updL ρ [(0, (Sl Ct Cr Cu)), (1, (Sl Cv Cs Cw)), (5, (I s3))]) ∧ w = σ.w ∧ Hp S0 σ0 σ [Ch.ro 0 (Sl Ct Cr Cu) Cr, Ch.ro 0 (Sl Cv Cs Cw) Cs]) ⟨_, σ0, fr_join ⟨rfl, rfl, rfl, trivial⟩, rfl, H.sel' [0, 1] rfl rfl⟩ ?_)
   clear h H
   rintro s3 a w o ⟨ρ, σ4, rfl, rfl, H⟩ h hres
   refine c_seq (c_seq (rg (sm (I s3) rfl (sm (Sl Ct Cr Cu) rfl (st (v := (I (Cr.length : Int))) (rv_len Try.underlying33 rfl) (st (v := (B (decide (s3 < (Cr.length : Int))))) (rv_lss (a := s3) (b := (Cr.length : Int)) rfl rfl) (w_end (q_then ?_))))))))
   refine cd_cond (decide (s3 < (Cr.length : Int))) rfl (fun hb5 => ?_) (fun hb5 => ?_)
   ·replace h := bif_t hb5 h
    refine c_skip (q_then (c_seq (c_blk (c_seq ?_))))
    obtain ⟨o6, hj, h'⟩ := bind_some h
    clear h
    refine c_cut (fun e a w => e = .normal ∧ ∃ (ρ : Nat → Value) (σ : St), a = fr 55 (updL ρ [(0, (Sl Ct Cr Cu)), (1, (Sl Cv Cs Cw)), (5, (I s3)), (54, (B o6))]) ∧ w = σ.w ∧ Hp S0 σ0 σ [Ch.ro 0 (Sl Ct Cr Cu) Cr, Ch.ro 0 (Sl Cv Cs Cw) Cs]) ?_ ?_
    ·clear h'
     rename _ = some o6 => h
     refine rgP (σ := σ4) 35 (by kernel_rfl) (by kernel_rfl) (by kernel_rfl) ?_
     refine sq (v := (Sl Ct Cr Cu)) (rv_move rfl) (sq (v := (I s3)) (rv_move rfl) ?_)
     revert h; refine br fun x7 hx8 h => ?_
     obtain ⟨b10, o11, hi9, -⟩ := (H.ro 0 rfl).ix hx8
     refine sq (v := (pt b10 o11)) (rv_ix Try.underlying33 ti41 rfl rfl hi9) (sq (v := (pt b10 (o11 + 0))) (rv_fieldAddr (off := 0) (ft := 3) Try.underlying41 rfl ti3 rfl rfl) ?_)
     have hc12 := ((H.ro 0 rfl).at hx8 hi9).fst.int
     refine sq (v := (I x7.1)) (rv_load1 Try.underlying3 rfl rfl hc12) (sq (v := (Sl Cv Cs Cw)) (rv_move rfl) (sq (v := (I s3)) (rv_move rfl) ?_))
     revert h; refine br fun x13 hx14 h => ?_
     obtain ⟨b16, o17, hi15, -⟩ := (H.ro 1 rfl).ix hx14
     refine sq (v := (pt b16 o17)) (rv_ix Try.underlying33 ti41 rfl rfl hi15) (sq (v := (pt b16 (o17 + 0))) (rv_fieldAddr (off := 0) (ft := 3) Try.underlying41 rfl ti3 rfl rfl) ?_)
     have hc18 := ((H.ro 1 rfl).at hx14 hi15).fst.int
     refine sq (v := (I x13.1)) (rv_load1 Try.underlying3 rfl rfl hc18) (sq (v := (B (x7.1 != x13.1))) (rv_neq (a := x7.1) (b := x13.1) rfl rfl) (sq (v := (B (x7.1 != x13.1))) (rv_move rfl) ?_))
     rcases Bool.eq_false_or_eq_true (x7.1 != x13.1) with hb19 | hb19
     ·replace h := bif_t hb19 h
      refine sq_skip (congrArg some hb19) (sq_skip (congrArg some hb19) (sq_skip (congrArg some hb19) (sq_skip (congrArg some hb19) (sq_skip (congrArg some hb19) (sq_skip (congrArg some hb19) (sq_skip (congrArg some hb19) (sq_skip (congrArg some hb19) (sq_skip (congrArg some hb19) (sq_skip (congrArg some hb19) (sq_skip (congrArg some hb19) (sq (v := (B true)) (rv_pick_t (congrArg B hb19) rfl) ?_)))))))))))
      refine sq (v := (B true)) (rv_move rfl) (sq_skip rfl (sq_skip rfl (sq_skip rfl (sq_skip rfl (sq_skip rfl (sq_skip rfl (sq_skip rfl (sq_skip rfl (sq_skip rfl (sq_skip rfl (sq_end ?_)))))))))))
      intro σ20 hm21
      replace H := H.grow (hm21.mono fun _ h => h); clear hm21
      refine st_skip rfl (st_skip rfl (st (v := (B true)) (rv_pick_t rfl rfl) (w_end ?_)))
      obtain rfl := sj h
      exact ⟨rfl, _, σ20, fr_join ⟨rfl, rfl, rfl, rfl, trivial⟩, rfl, H.sel' [0, 1] rfl rfl⟩
     ·replace h := bif_f hb19 h
      refine sq_g (v := (Sl Ct Cr Cu)) (congrArg some hb19) (rv_move rfl) (sq_g (v := (I s3)) (congrArg some hb19) (rv_move rfl) ?_)
      revert h; refine br fun x22 hx23 h => ?_
      obtain ⟨b25, o26, hi24, -⟩ := (H.ro 0 rfl).ix hx23
      refine sq_g (v := (pt b25 o26)) (congrArg some hb19) (rv_ix Try.underlying33 ti41 rfl rfl hi24) (sq_g (v := (pt b25 (o26 + 2))) (congrArg some hb19) (rv_fieldAddr (off := 2) (ft := 3) Try.underlying41 rfl ti3 rfl rfl) ?_)
      have hc27 := ((H.ro 0 rfl).at hx23 hi24).snd.snd.int
      refine sq_g (v := (I x22.2.2)) (congrArg some hb19) (rv_load1 Try.underlying3 rfl rfl hc27) (sq_g (v := (Sl Cv Cs Cw)) (congrArg some hb19) (rv_move rfl) (sq_g (v := (I s3)) (congrArg some hb19) (rv_move rfl) ?_))
      revert h; refine br fun x28 hx29 h => ?_
      obtain ⟨b31, o32, hi30, -⟩ := (H.ro 1 rfl).ix hx29
      refine sq_g (v := (pt b31 o32)) (congrArg some hb19) (rv_ix Try.underlying33 ti41 rfl rfl hi30) (sq_g (v := (pt b31 (o32 + 2))) (congrArg some hb19) (rv_fieldAddr (off := 2) (ft := 3) Try.underlying41 rfl ti3 rfl rfl) ?_)
      have hc33 := ((H.ro 1 rfl).at hx29 hi30).snd.snd.int
      refine sq_g (v := (I x28.2.2)) (congrArg some hb19) (rv_load1 Try.underlying3 rfl rfl hc33) (sq_g (v := (B (x22.2.2 != x28.2.2))) (congrArg some hb19) (rv_neq (a := x22.2.2) (b := x28.2.2) rfl rfl) (sq (v := (B (x22.2.2 != x28.2.2))) (rv_pick_f (congrArg B hb19) rfl) (sq (v := (B (x22.2.2 != x28.2.2))) (rv_move rfl) ?_)))
      rcases Bool.eq_false_or_eq_true (x22.2.2 != x28.2.2) with hb34 | hb34
      ·replace h := bif_t hb34 h
       refine sq_skip (congrArg some hb34) (sq_skip (congrArg some hb34) (sq_skip (congrArg some hb34) (sq_skip (congrArg some hb34) (sq_skip (congrArg some hb34) (sq_skip (congrArg some hb34) (sq_skip (congrArg some hb34) (sq_skip (congrArg some hb34) (sq_skip (congrArg some hb34) (sq_skip (congrArg some hb34) (sq_end ?_))))))))))
       intro σ35 hm36
       replace H := H.grow (hm36.mono fun _ h => h); clear hm36
       refine st_skip (congrArg some hb34) (st_skip (congrArg some hb34) (st (v := (B true)) (rv_pick_t (congrArg B hb34) rfl) (w_end ?_)))
       obtain rfl := sj h
       exact ⟨rfl, _, σ35, fr_join ⟨rfl, rfl, rfl, rfl, trivial⟩, rfl, H.sel' [0, 1] rfl rfl⟩
      ·replace h := bif_f hb34 h
       refine sq_g (v := (Sl Ct Cr Cu)) (congrArg some hb34) (rv_move rfl) (sq_g (v := (I s3)) (congrArg some hb34) (rv_move rfl) ?_)
       revert h; refine br fun x37 hx38 h => ?_
       obtain ⟨b40, o41, hi39, -⟩ := (H.ro 0 rfl).ix hx38
       refine sq_g (v := (pt b40 o41)) (congrArg some hb34) (rv_ix Try.underlying33 ti41 rfl rfl hi39) (sq_g (v := (pt b40 (o41 + 1))) (congrArg some hb34) (rv_fieldAddr (off := 1) (ft := 24) Try.underlying41 rfl ti24 rfl rfl) ?_)
       obtain ⟨v45, hc46, hR44⟩ := ((H.ro 0 rfl).at hx38 hi39).snd.fst.slice
       obtain ⟨a42, c43, rfl⟩ := hR44.isSl
       replace H := H.add (d := Ch.ro 0 (Sl a42 x37.2.1 c43) x37.2.1) hR44 (fun _ h => h)
       clear hR44
       refine sq_g (v := (Sl a42 x37.2.1 c43)) (congrArg some hb34) (rv_load1 Try.underlying24 rfl rfl hc46) (sq_g (v := (Sl Cv Cs Cw)) (congrArg some hb34) (rv_move rfl) (sq_g (v := (I s3)) (congrArg some hb34) (rv_move rfl) ?_))
       revert h; refine br fun x47 hx48 h => ?_
       obtain ⟨b50, o51, hi49, -⟩ := (H.ro 2 rfl).ix hx48
       refine sq_g (v := (pt b50 o51)) (congrArg some hb34) (rv_ix Try.underlying33 ti41 rfl rfl hi49) (sq_g (v := (pt b50 (o51 + 1))) (congrArg some hb34) (rv_fieldAddr (off := 1) (ft := 24) Try.underlying41 rfl ti24 rfl rfl) ?_)
       obtain ⟨v55, hc56, hR54⟩ := ((H.ro 2 rfl).at hx48 hi49).snd.fst.slice
       obtain ⟨a52, c53, rfl⟩ := hR54.isSl
       replace H := H.add (d := Ch.ro 0 (Sl a52 x47.2.1 c53) x47.2.1) hR54 (fun _ h => h)
       clear hR54
       refine sq_g (v := (Sl a52 x47.2.1 c53)) (congrArg some hb34) (rv_load1 Try.underlying24 rfl rfl hc56) (sq_end ?_)
       intro σ57 hm58
       replace H := H.grow (hm58.mono fun _ h => h); clear hm58
       revert h; refine br fun r59 hx60 h => ?_
       have hc61 := c_laws_equalInts (Ct := a42) (Cu := c43) (Cv := a52) (Cw := c53) hx60
       refine st_call (cx_call hc61 (ent_f hc61.fn rfl) hn0 (H.sel' [1, 0, 0, 1, 2, 3] rfl rfl : Hp S0 σ0 _ ([_, _] ++ _))) (wanted_yes rfl (by exact (congrArg some hb34))) ?_
       rintro _ σ62 ⟨_, ⟨rfl, rfl⟩, H, -⟩
       replace H : Hp _ _ _ [_, _, _, _] := H
       refine st_g (v := (B (!r59))) (congrArg some hb34) (rv_not rfl) (st (v := (B (!r59))) (rv_pick_f (congrArg B hb34) rfl) (w_end ?_))
       obtain rfl := sj h
       exact ⟨rfl, _, σ62, fr_join ⟨rfl, rfl, rfl, rfl, trivial⟩, rfl, H.sel' [2, 3] rfl rfl⟩
    ·clear hj
     have h := h'
     clear h' H
     rintro e a w ⟨rfl, ρ, σ63, rfl, rfl, H⟩
     refine q_then ?_
     refine cd_cond o6 rfl (fun hb64 => ?_) (fun hb64 => ?_)
     ·replace h := bif_t hb64 h
      refine c_seq (rg (sa (B false) rfl (w_end (q_then (c_ret (q_blk_r (q_then_r (q_then_r (q_blk_r ?_)))))))))
      obtain rfl := sj h
      obtain rfl := hres _ rfl
      exact .inr (⟨_, rfl, rfl, _, σ63, fr_join ⟨rfl, trivial⟩, rfl, H.sel' [] rfl rfl⟩)
     ·replace h := bif_f hb64 h
      refine c_skip (q_blk (q_then (rg (sm (I s3) rfl (st (v := (I (w64 (s3 + 1)))) (rv_add (a := s3) (b := 1) rfl rfl) (sa (I (w64 (s3 + 1))) rfl (w_end (q_then ?_))))))))
      obtain rfl := sj h
      exact ⟨_, rfl, _, σ63, fr_join ⟨rfl, rfl, rfl, trivial⟩, rfl, H.sel' [0, 1] rfl rfl⟩
   ·replace h := bif_f hb5 h
    refine c_exit (q_then_x (q_then_x (q_blk_hit ?_)))
    obtain rfl := sj h
    obtain rfl := hres _ rfl
    exact .inl ⟨_, rfl, rfl, _, σ4, fr_join trivial, rfl, H.sel' [] rfl rfl⟩
  ·clear hj
   have h := h'
   clear h' H
   rintro e a w (⟨t65, rfl, rfl, ρ, σ66, rfl, rfl, H⟩ | ⟨t67, rfl, rfl, ρ, σ68, rfl, rfl, H⟩)
   ·replace h := selim_l h
    refine q_then (c_seq (rg (sa (B true) rfl (w_end (q_then (c_ret ?_))))))
    obtain rfl := sj h
    exact fin_ret (v := (B true)) (results_ok Try.results21 (res_tmp (v := (B true)) rfl res_nil) rfl) ⟨rfl, rfl⟩ (H.sel' [] rfl rfl)
   ·replace h := selim_r h
    refine q_then_r ?_
    obtain rfl := sj h
    exact fin_ret (v := (B t67)) (results_ok Try.results21 (res_tmp (v := (B t67)) rfl res_nil) rfl) ⟨rfl, rfl⟩ (H.sel' [] rfl rfl)

end Go.Vs
