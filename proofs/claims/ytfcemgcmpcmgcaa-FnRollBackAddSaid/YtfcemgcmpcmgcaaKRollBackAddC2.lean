/- The functions compute what their models say. -/
import Derived.Test.YtfcemgcmpcmgcaaKRollBackAddC1
set_option linter.unusedVariables false
set_option linter.unusedSimpArgs false
set_option maxRecDepth 20000
namespace Go.Vs
open Go Go.Proofs
attribute [local irreducible] Code.wp Code.wpIn wpList wpListIn wpQuiet Calls CallsIn

theorem c_impl_ReplayLog {list_0 : List (Int × (List Int) × Int)} {log_1 : List (Int × (Int × (List Int) × Int))} {alist_0 : Option Addr} {clist_0 : Nat} {alog_1 : Option Addr} {clog_1 : Nat} {r : (List (Int × (List Int) × Int)) × Int} (h : M.impl_ReplayLog list_0 log_1 = some r) :
    Cal2 Try.prog 23 [(Sl alist_0 list_0 clist_0), (Sl alog_1 log_1 clog_1)] [Ch.ro 0 (Sl alist_0 list_0 clist_0) list_0, Ch.ro 0 (Sl alog_1 log_1 clog_1) log_1] (fun n0 v L => ∃ (az1 : Option Addr), ∃ (cz2 : Nat), v = (.tuple #[(Sl az1 r.1 cz2), (I r.2)]) ∧ L = [Ch.ro 0 (Sl az1 r.1 cz2) r.1]) := by
 refine cal2 (n := 49) Try.func23 rfl rfl rfl rfl ?_
 intro S0 σ0 n0 hn0 H
 unfold M.impl_ReplayLog at h
 refine c_seq ?_
 refine rg ?_
 refine st (v := (.slice none 0 0)) (rv_assign rfl) ?_
 refine st (v := (I 0)) (rv_assign rfl) ?_
 refine w_end ?_
 refine q_then ?_
 refine c_seq ?_
 refine rg ?_
 refine st (v := (Sl alog_1 log_1 clog_1)) (rv_move rfl) ?_
 obtain ⟨r1, hx2, h'⟩ := bind_some h
 clear h
 have h := h'; clear h'
 have hc3 := c_impl_changesOf (alog_0 := alog_1) (clog_0 := clog_1) hx2
 refine st_call (cx_call hc3 (ent_f hc3.fn rfl) hn0 (show Hp S0 σ0 _ ([Ch.ro 0 (Sl alog_1 log_1 clog_1) log_1] ++ [Ch.ro 0 (Sl alist_0 list_0 clist_0) list_0, Ch.ro 0 (Sl alog_1 log_1 clog_1) log_1]) from (H.sel' [1, 0, 1] rfl rfl))) wn ?_
 rintro _ σ6 ⟨_, ⟨a4, c5, rfl, rfl⟩, H, -⟩
 replace H : Hp S0 σ0 σ6 [Ch.own n0 0 (Sl a4 r1.1 c5) r1.1, Ch.ro 0 (Sl alist_0 list_0 clist_0) list_0, Ch.ro 0 (Sl alog_1 log_1 clog_1) log_1] := H
 refine st (v := (.tuple #[(Sl a4 r1.1 c5), (B r1.2)])) (rv_move rfl) ?_
 refine st (v := (Sl a4 r1.1 c5)) (rv_extract rfl rfl) ?_
 refine st (v := (B r1.2)) (rv_extract rfl rfl) ?_
 refine st (v := (Sl a4 r1.1 c5)) (rv_assign rfl) ?_
 refine st (v := (B r1.2)) (rv_assign rfl) ?_
 refine w_end ?_
 refine q_then ?_
 refine c_seq ?_
 refine c_seq ?_
 obtain ⟨o7, hj, h'⟩ := bind_some h
 clear h
 refine c_cut (fun e a w => e = .normal ∧ ∃ (ρ : Nat → Value) (σ : St), a = fr 49 (updL ρ [(0, (Sl alist_0 list_0 clist_0)), (6, (Sl a4 r1.1 c5)), (24, (B o7))]) ∧ w = σ.w ∧ Hp S0 σ0 σ [Ch.ro 0 (Sl alist_0 list_0 clist_0) list_0, Ch.own n0 0 (Sl a4 r1.1 c5) r1.1]) ?_ ?_
 ·clear h'
  rename _ = some o7 => h
  refine rg ?_
  refine st (v := (B r1.2)) (rv_move rfl) ?_
  refine st (v := (B (!r1.2))) (rv_not rfl) ?_
  refine st (v := (B (!r1.2))) (rv_move rfl) ?_
  rcases Bool.eq_false_or_eq_true (!r1.2) with hb8 | hb8
  ·replace h := bif_t hb8 h
   refine st_skip (congrArg some hb8) ?_
   refine st_skip (congrArg some hb8) ?_
   refine st_skip (congrArg some hb8) ?_
   refine st (v := (B true)) (rv_pick_t (congrArg B hb8) rfl) ?_
   refine w_end ?_
   obtain rfl := Option.some.inj h
   exact ⟨rfl, _, σ6, fr_join ⟨rfl, rfl, rfl, trivial⟩, rfl, H.sel' [1, 0] rfl rfl⟩
  ·replace h := bif_f hb8 h
   refine st_g (v := (Sl alist_0 list_0 clist_0)) (congrArg some hb8) (rv_move rfl) ?_
   obtain ⟨r9, hx10, h'⟩ := bind_some h
   clear h
   have h := h'; clear h'
   have hc11 := c_impl_ValidStore (alist_0 := alist_0) (clist_0 := clist_0) hx10
   refine st_call (cx_call hc11 (ent_f hc11.fn rfl) hn0 (show Hp S0 σ0 _ ([Ch.ro 0 (Sl alist_0 list_0 clist_0) list_0] ++ [Ch.own n0 0 (Sl a4 r1.1 c5) r1.1, Ch.ro 0 (Sl alist_0 list_0 clist_0) list_0, Ch.ro 0 (Sl alog_1 log_1 clog_1) log_1]) from (H.sel' [1, 0, 1, 2] rfl rfl))) (wanted_yes rfl (by exact (congrArg some hb8))) ?_
   rintro _ σ12 ⟨_, ⟨rfl, rfl⟩, H, -⟩
   replace H : Hp S0 σ0 σ12 [Ch.own n0 0 (Sl a4 r1.1 c5) r1.1, Ch.ro 0 (Sl alist_0 list_0 clist_0) list_0, Ch.ro 0 (Sl alog_1 log_1 clog_1) log_1] := H
   refine st_g (v := (B (!r9))) (congrArg some hb8) (rv_not rfl) ?_
   refine st (v := (B (!r9))) (rv_pick_f (congrArg B hb8) rfl) ?_
   refine w_end ?_
   obtain rfl := Option.some.inj h
   exact ⟨rfl, _, σ12, fr_join ⟨rfl, rfl, rfl, trivial⟩, rfl, H.sel' [1, 0] rfl rfl⟩
 ·clear hj
  have h := h'
  clear h' H
  rintro e a w ⟨rfl, ρ, σ13, rfl, rfl, H⟩
  refine q_then ?_
  refine cd_cond o7 rfl (fun hb14 => ?_) (fun hb14 => ?_)
  ·replace h := bif_t hb14 h
   refine c_seq ?_
   refine rg ?_
   refine st (v := (.slice none 0 0)) (rv_assign rfl) ?_
   refine st (v := (I (-1))) (rv_assign rfl) ?_
   refine w_end ?_
   refine q_then ?_
   refine c_ret ?_
   refine q_then_r ?_
   replace H := H.nilRo (Int × (List Int) × Int) 0
   obtain rfl := Option.some.inj h
   exact fin_ret (v := (.tuple #[(.slice none 0 0), (I (-1))])) (results_ok Try.results23 (res_tmp (v := (.slice none 0 0)) rfl (res_tmp (v := (I (-1))) rfl res_nil)) rfl) ⟨none, 0, rfl, rfl⟩ (H.sel' [0] rfl rfl)
  ·replace h := bif_f hb14 h
   refine c_skip ?_
   refine q_then ?_
   refine c_seq ?_
   refine rg ?_
   refine st (v := (Sl alist_0 list_0 clist_0)) (rv_move rfl) ?_
   obtain ⟨r15, hx16, h'⟩ := bind_some h
   clear h
   have h := h'; clear h'
   have hc17 := c_impl_copyItems (alist_0 := alist_0) (clist_0 := clist_0) hx16
   refine st_call (cx_call hc17 (ent_f hc17.fn rfl) hn0 (show Hp S0 σ0 _ ([Ch.ro 0 (Sl alist_0 list_0 clist_0) list_0] ++ [Ch.ro 0 (Sl alist_0 list_0 clist_0) list_0, Ch.own n0 0 (Sl a4 r1.1 c5) r1.1]) from (H.sel' [0, 0, 1] rfl rfl))) wn ?_
   rintro _ σ21 ⟨_, ⟨a18, c19, rfl, rfl, ht20⟩, H, -⟩
   replace H : Hp S0 σ0 σ21 [Ch.own n0 n0 (Sl a18 r15 c19) r15, Ch.ro 0 (Sl alist_0 list_0 clist_0) list_0, Ch.own n0 0 (Sl a4 r1.1 c5) r1.1] := H
   refine st (v := (Sl a18 r15 c19)) (rv_assign rfl) ?_
   refine w_end ?_
   refine q_then ?_
   refine c_seq ?_
   refine c_seq ?_
   refine rg ?_
   refine st (v := (Sl a4 r1.1 c5)) (rv_move rfl) ?_
   refine st (v := (I (r1.1.length : Int))) (rv_len Try.underlying62 rfl) ?_
   refine st (v := (I 0)) (rv_move rfl) ?_
   refine w_end ?_
   refine q_then ?_
   obtain ⟨o22, hj, h'⟩ := bind_some h
   clear h
   refine c_cut (fun e a w => (∃ t, o22 = (.inl t) ∧ e = .normal ∧ ∃ (ρ : Nat → Value) (σ : St) (aj1 : Option Addr) (cj2 : Nat), a = fr 49 (updL ρ [(6, (Sl a4 r1.1 c5)), (8, (Sl aj1 t cj2))]) ∧ w = σ.w ∧ Hp S0 σ0 σ [Ch.own n0 0 (Sl a4 r1.1 c5) r1.1, Ch.own 0 0 (Sl aj1 t cj2) t]) ∨ (∃ t, o22 = (.inr t) ∧ e = .ret ∧ ∃ (ρ : Nat → Value) (σ : St) (aj1 : Option Addr) (cj2 : Nat), a = fr 49 (updL ρ [(4, (Sl aj1 t.1 cj2)), (5, (I t.2))]) ∧ w = σ.w ∧ Hp S0 σ0 σ [Ch.ro 0 (Sl aj1 t.1 cj2) t.1])) ?_ ?_
   ·clear h'
    rename _ = some o22 => h
    refine c_blk ?_
    replace H := H.ownLow 0 0 0 rfl (Nat.zero_le _) (Nat.zero_le _)
    refine wp_loopM _ h (fun s23 a w => ∃ (ρ : Nat → Value) (σ : St) (aj1 : Option Addr) (cj2 : Nat), a = fr 49 (updL ρ [(6, (Sl a4 r1.1 c5)), (8, (Sl aj1 s23.1 cj2)), (27, (Sl a4 r1.1 c5)), (28, (I (r1.1.length : Int))), (29, (I s23.2))]) ∧ w = σ.w ∧ Hp S0 σ0 σ [Ch.own n0 0 (Sl a4 r1.1 c5) r1.1, Ch.own 0 0 (Sl aj1 s23.1 cj2) s23.1]) ⟨_, σ21, a18, c19, fr_join ⟨rfl, rfl, rfl, rfl, rfl, trivial⟩, rfl, H.sel' [2, 0] rfl rfl⟩ ?_
    clear h H
    rintro s23 a w o ⟨ρ, σ24, a25, c26, rfl, rfl, H⟩ h hres
    refine c_seq ?_
    refine rg ?_
    refine st (v := (B (decide (s23.2 < (r1.1.length : Int))))) (rv_lss (a := s23.2) (b := (r1.1.length : Int)) rfl rfl) ?_
    refine w_end ?_
    refine q_then ?_
    refine c_seq ?_
    refine cd_cond (decide (s23.2 < (r1.1.length : Int))) rfl (fun hb27 => ?_) (fun hb27 => ?_)
    ·replace h := bif_t hb27 h
     refine c_skip ?_
     refine q_then ?_
     refine c_seq ?_
     refine c_blk ?_
     refine c_seq ?_
     refine rg ?_
     refine st (v := (I s23.2)) (rv_move rfl) ?_
     obtain ⟨x28, hx29, h'⟩ := bind_some h
     clear h
     have h := h'; clear h'
     obtain ⟨b31, o32, hi30, -⟩ := (H.own 0 rfl).ix hx29
     refine st (v := (pt b31 o32)) (rv_ix Try.underlying62 ti75 rfl rfl hi30) ?_
     obtain ⟨_, ⟨_, _, rfl, ⟨_, _, rfl, rfl, ⟨_, _, rfl, ⟨_, rfl, hR38⟩, rfl⟩⟩, rfl⟩, hl33, hq34⟩ := ((H.own 0 rfl).at hx29 hi30).cells
     obtain ⟨a36, c37, rfl⟩ := hR38.isSl
     have hc35 : HCell _ _ _ = some (ifs2 x28.1 (.iface 94 (.agg #[(I x28.2.1)])) (.iface 98 (.agg #[(I x28.2.2.1), (Sl a36 x28.2.2.2.1 c37), (I x28.2.2.2.2)]))) := hq34 0 Nat.zero_lt_one
     clear hq34
     replace H := H.add (d := Ch.ro 0 (Sl a36 x28.2.2.2.1 c37) x28.2.2.2.1) hR38 (fun _ h => h)
     clear hR38
     refine st (v := (ifs2 x28.1 (.iface 94 (.agg #[(I x28.2.1)])) (.iface 98 (.agg #[(I x28.2.2.1), (Sl a36 x28.2.2.2.1 c37), (I x28.2.2.2.2)])))) (rv_load1 Try.underlying75 rfl rfl hc35) ?_
     refine st (v := (I s23.2)) (rv_assign rfl) ?_
     refine st (v := (ifs2 x28.1 (.iface 94 (.agg #[(I x28.2.1)])) (.iface 98 (.agg #[(I x28.2.2.1), (Sl a36 x28.2.2.2.1 c37), (I x28.2.2.2.2)])))) (rv_assign rfl) ?_
     refine w_end ?_
     refine q_then ?_
     refine c_seq ?_
     obtain ⟨o39, hj, h'⟩ := bind_some h
     clear h
     refine c_cut (fun e a w => e = .normal ∧ ∃ (ρ : Nat → Value) (σ : St) (aj1 : Option Addr) (cj2 : Nat), a = fr 49 (updL ρ [(6, (Sl a4 r1.1 c5)), (8, (Sl a25 s23.1 c26)), (9, (I s23.2)), (11, (Sl aj1 o39.1 cj2)), (12, (B o39.2)), (27, (Sl a4 r1.1 c5)), (28, (I (r1.1.length : Int))), (29, (I s23.2))]) ∧ w = σ.w ∧ Hp S0 σ0 σ [Ch.own n0 0 (Sl a4 r1.1 c5) r1.1, Ch.ro 0 (Sl a25 s23.1 c26) s23.1, Ch.own 0 0 (Sl aj1 o39.1 cj2) o39.1]) ?_ ?_
     ·clear h'
      rename _ = some o39 => h
      refine rg ?_
      refine st (v := (ifs2 x28.1 (.iface 94 (.agg #[(I x28.2.1)])) (.iface 98 (.agg #[(I x28.2.2.1), (Sl a36 x28.2.2.2.1 c37), (I x28.2.2.2.2)])))) (rv_move rfl) ?_
      refine st (v := (Sl a25 s23.1 c26)) (rv_move rfl) ?_
      rcases Bool.eq_false_or_eq_true (x28.1 == 1) with hb40 | hb40
      ·replace h := bif_t hb40 h
       have hv42 : (ifs2 x28.1 (.iface 94 (.agg #[(I x28.2.1)])) (.iface 98 (.agg #[(I x28.2.2.1), (Sl a36 x28.2.2.2.1 c37), (I x28.2.2.2.2)]))) = (.iface 94 (.agg #[(I x28.2.1)]) : Value) := ct hb40
       obtain ⟨σ43, hw44, H, -⟩ := H.pub 2 rfl (Nat.le_refl _)
       rw [← hw44]; clear hw44
       obtain ⟨r45, hx46, h'⟩ := bind_some h
       clear h
       have h := h'; clear h'
       have hc47 := c_impl_dropChange_apply (alist_1 := a25) (clist_1 := c26) hx46
       refine st_call (cx_call hc47 ((by exact ent_ix hc47.fn (by kernel_rfl) Try.underlying94 rfl hv42 rfl)) hn0 (show Hp S0 σ0 _ ([Ch.ro 0 (Sl a25 s23.1 c26) s23.1] ++ [Ch.ro 0 (Sl a25 s23.1 c26) s23.1, Ch.ro 0 (Sl a36 x28.2.2.2.1 c37) x28.2.2.2.1, Ch.own n0 0 (Sl a4 r1.1 c5) r1.1]) from (H.sel' [0, 0, 1, 2] rfl rfl))) wn ?_
       rintro _ σ50 ⟨_, ⟨a48, c49, rfl, rfl⟩, H, -⟩
       replace H : Hp S0 σ0 σ50 [Ch.own 0 0 (Sl a48 r45.1 c49) r45.1, Ch.ro 0 (Sl a25 s23.1 c26) s23.1, Ch.ro 0 (Sl a36 x28.2.2.2.1 c37) x28.2.2.2.1, Ch.own n0 0 (Sl a4 r1.1 c5) r1.1] := H
       refine st (v := (.tuple #[(Sl a48 r45.1 c49), (B r45.2)])) (rv_move rfl) ?_
       refine st (v := (Sl a48 r45.1 c49)) (rv_extract rfl rfl) ?_
       refine st (v := (B r45.2)) (rv_extract rfl rfl) ?_
       refine st (v := (Sl a48 r45.1 c49)) (rv_assign rfl) ?_
       refine st (v := (B r45.2)) (rv_assign rfl) ?_
       refine w_end ?_
       obtain rfl := Option.some.inj h
       exact ⟨rfl, _, σ50, a48, c49, fr_join ⟨rfl, rfl, rfl, rfl, rfl, rfl, rfl, rfl, trivial⟩, rfl, H.sel' [3, 1, 0] rfl rfl⟩
      ·replace h := bif_f hb40 h
       rcases Bool.eq_false_or_eq_true (x28.1 == 2) with hb41 | hb41
       ·replace h := bif_t hb41 h
        have hv51 : (ifs2 x28.1 (.iface 94 (.agg #[(I x28.2.1)])) (.iface 98 (.agg #[(I x28.2.2.1), (Sl a36 x28.2.2.2.1 c37), (I x28.2.2.2.2)]))) = (.iface 98 (.agg #[(I x28.2.2.1), (Sl a36 x28.2.2.2.1 c37), (I x28.2.2.2.2)]) : Value) := (cf hb40).trans (ct hb41)
        obtain ⟨σ52, hw53, H, -⟩ := H.pub 2 rfl (Nat.le_refl _)
        rw [← hw53]; clear hw53
        obtain ⟨r54, hx55, h'⟩ := bind_some h
        clear h
        have h := h'; clear h'
        have hc56 := c_impl_putChange_apply (ac_0_0_1 := a36) (cc_0_0_1 := c37) (alist_1 := a25) (clist_1 := c26) hx55
        refine st_call (cx_call hc56 ((by exact ent_ix hc56.fn (by kernel_rfl) Try.underlying98 rfl hv51 rfl)) hn0 (show Hp S0 σ0 _ ([Ch.ro 0 (Sl a36 x28.2.2.2.1 c37) x28.2.2.2.1, Ch.ro 0 (Sl a25 s23.1 c26) s23.1] ++ [Ch.ro 0 (Sl a25 s23.1 c26) s23.1, Ch.ro 0 (Sl a36 x28.2.2.2.1 c37) x28.2.2.2.1, Ch.own n0 0 (Sl a4 r1.1 c5) r1.1]) from (H.sel' [1, 0, 0, 1, 2] rfl rfl))) wn ?_
        rintro _ σ59 ⟨_, ⟨a57, c58, rfl, rfl⟩, H, -⟩
        replace H : Hp S0 σ0 σ59 [Ch.own 0 0 (Sl a57 r54.1 c58) r54.1, Ch.ro 0 (Sl a25 s23.1 c26) s23.1, Ch.ro 0 (Sl a36 x28.2.2.2.1 c37) x28.2.2.2.1, Ch.own n0 0 (Sl a4 r1.1 c5) r1.1] := H
        refine st (v := (.tuple #[(Sl a57 r54.1 c58), (B r54.2)])) (rv_move rfl) ?_
        refine st (v := (Sl a57 r54.1 c58)) (rv_extract rfl rfl) ?_
        refine st (v := (B r54.2)) (rv_extract rfl rfl) ?_
        refine st (v := (Sl a57 r54.1 c58)) (rv_assign rfl) ?_
        refine st (v := (B r54.2)) (rv_assign rfl) ?_
        refine w_end ?_
        obtain rfl := Option.some.inj h
        exact ⟨rfl, _, σ59, a57, c58, fr_join ⟨rfl, rfl, rfl, rfl, rfl, rfl, rfl, rfl, trivial⟩, rfl, H.sel' [3, 1, 0] rfl rfl⟩
       ·replace h := bif_f hb41 h
        cases h
     ·clear hj
      have h := h'
      clear h' H
      rintro e a w ⟨rfl, ρ, σ61, a62, c63, rfl, rfl, H⟩
      refine q_then ?_
      refine c_seq ?_
      refine c_seq ?_
      refine rg ?_
      refine st (v := (B o39.2)) (rv_move rfl) ?_
      refine st (v := (B (!o39.2))) (rv_not rfl) ?_
      refine w_end ?_
      refine q_then ?_
      refine cd_cond (!o39.2) rfl (fun hb64 => ?_) (fun hb64 => ?_)
      ·replace h := bif_t hb64 h
       refine c_seq ?_
       refine rg ?_
       refine st (v := (Sl a25 s23.1 c26)) (rv_move rfl) ?_
       refine st (v := (I s23.2)) (rv_move rfl) ?_
       refine st (v := (Sl a25 s23.1 c26)) (rv_assign rfl) ?_
       refine st (v := (I s23.2)) (rv_assign rfl) ?_
       refine w_end ?_
       refine q_then ?_
       refine c_ret ?_
       refine q_then_r ?_
       refine q_blk_r ?_
       refine q_then_r ?_
       refine q_then_r ?_
       refine q_blk_r ?_
       obtain rfl := Option.some.inj h
       obtain rfl := hres _ rfl
       exact .inr (⟨_, rfl, rfl, _, σ61, a25, c26, fr_join ⟨rfl, rfl, trivial⟩, rfl, H.sel' [1] rfl rfl⟩)
      ·replace h := bif_f hb64 h
       refine c_skip ?_
       refine q_then ?_
       refine rg ?_
       refine st (v := (Sl a62 o39.1 c63)) (rv_move rfl) ?_
       refine st (v := (Sl a62 o39.1 c63)) (rv_assign rfl) ?_
       refine w_end ?_
       refine q_blk ?_
       refine q_then ?_
       refine rg ?_
       refine st (v := (I (w64 (s23.2 + 1)))) (rv_add (a := s23.2) (b := 1) rfl rfl) ?_
       refine st (v := (I (w64 (s23.2 + 1)))) (rv_move rfl) ?_
       refine w_end ?_
       refine q_then ?_
       obtain rfl := Option.some.inj h
       exact ⟨_, rfl, _, σ61, a62, c63, fr_join ⟨rfl, rfl, rfl, rfl, rfl, trivial⟩, rfl, H.sel' [0, 2] rfl rfl⟩
    ·replace h := bif_f hb27 h
     refine c_exit ?_
     refine q_then_x ?_
     refine q_then_x ?_
     refine q_blk_hit ?_
     obtain rfl := Option.some.inj h
     obtain rfl := hres _ rfl
     exact .inl ⟨_, rfl, rfl, _, σ24, a25, c26, fr_join ⟨rfl, rfl, trivial⟩, rfl, H.sel' [0, 1] rfl rfl⟩
   ·clear hj
    have h := h'
    clear h' H
    rintro e a w (⟨t65, rfl, rfl, ρ, σ66, a67, c68, rfl, rfl, H⟩ | ⟨t71, rfl, rfl, ρ, σ72, a73, c74, rfl, rfl, H⟩)
    ·replace h := selim_l h
     refine q_then ?_
     refine c_seq ?_
     refine rg ?_
     refine st (v := (Sl a67 t65 c68)) (rv_move rfl) ?_
     refine st (v := (Sl a4 r1.1 c5)) (rv_move rfl) ?_
     refine st (v := (I (r1.1.length : Int))) (rv_len Try.underlying62 rfl) ?_
     refine st (v := (Sl a67 t65 c68)) (rv_assign rfl) ?_
     refine st (v := (I (r1.1.length : Int))) (rv_assign rfl) ?_
     refine w_end ?_
     refine q_then ?_
     refine c_ret ?_
     obtain ⟨σ69, hw70, H, -⟩ := H.pub 1 rfl (Nat.le_refl _)
     rw [← hw70]; clear hw70
     obtain rfl := Option.some.inj h
     exact fin_ret (v := (.tuple #[(Sl a67 t65 c68), (I (r1.1.length : Int))])) (results_ok Try.results23 (res_tmp (v := (Sl a67 t65 c68)) rfl (res_tmp (v := (I (r1.1.length : Int))) rfl res_nil)) rfl) ⟨a67, c68, rfl, rfl⟩ (H.sel' [0] rfl rfl)
    ·replace h := selim_r h
     refine q_then_r ?_
     obtain rfl := Option.some.inj h
     exact fin_ret (v := (.tuple #[(Sl a73 t71.1 c74), (I t71.2)])) (results_ok Try.results23 (res_tmp (v := (Sl a73 t71.1 c74)) rfl (res_tmp (v := (I t71.2)) rfl res_nil)) rfl) ⟨a73, c74, rfl, rfl⟩ (H.sel' [0] rfl rfl)

theorem c_cmp_Less_int {x_0 : Int} {y_1 : Int}  {r : Bool} (h : M.cmp_Less_int x_0 y_1 = some r) :
    Cal2 Try.prog 101 [(I x_0), (I y_1)] [] (fun n0 v L => v = (B r) ∧ L = []) := by
 refine cal2 (n := 17) Try.func101 rfl rfl rfl rfl ?_
 intro S0 σ0 n0 hn0 H
 unfold M.cmp_Less_int at h
 refine c_seq ?_
 refine rg ?_
 refine st (v := (B false)) (rv_assign rfl) ?_
 refine w_end ?_
 refine q_then ?_
 refine c_seq ?_
 refine rg ?_
 refine st (v := (I x_0)) (rv_move rfl) ?_
 obtain ⟨r1, hx2, h'⟩ := bind_some h
 clear h
 have h := h'; clear h'
 have hc3 := c_cmp_isNaN_int hx2
 refine st_call (cx_call hc3 (ent_f hc3.fn rfl) hn0 (show Hp S0 σ0 _ ([] ++ []) from (H.sel' [] rfl rfl))) wn ?_
 rintro _ σ4 ⟨_, ⟨rfl, rfl⟩, H, -⟩
 replace H : Hp S0 σ0 σ4 [] := H
 refine st (v := (B r1)) (rv_move rfl) ?_
 rcases Bool.eq_false_or_eq_true r1 with hb5 | hb5
 ·replace h := bif_t hb5 h
  refine st_g (v := (I y_1)) (congrArg some hb5) (rv_move rfl) ?_
  obtain ⟨r6, hx7, h'⟩ := bind_some h
  clear h
  have h := h'; clear h'
  have hc8 := c_cmp_isNaN_int hx7
  refine st_call (cx_call hc8 (ent_f hc8.fn rfl) hn0 (show Hp S0 σ0 _ ([] ++ []) from (H.sel' [] rfl rfl))) (wanted_yes rfl (by exact (congrArg some hb5))) ?_
  rintro _ σ9 ⟨_, ⟨rfl, rfl⟩, H, -⟩
  replace H : Hp S0 σ0 σ9 [] := H
  refine st_g (v := (B (!r6))) (congrArg some hb5) (rv_not rfl) ?_
  refine st (v := (B (!r6))) (rv_pick_t (congrArg B hb5) rfl) ?_
  refine st (v := (B (!r6))) (rv_move rfl) ?_
  rcases Bool.eq_false_or_eq_true (!r6) with hb10 | hb10
  ·replace h := bif_t hb10 h
   refine st_skip (congrArg some hb10) ?_
   refine st_skip (congrArg some hb10) ?_
   refine st_skip (congrArg some hb10) ?_
   refine st (v := (B true)) (rv_pick_t (congrArg B hb10) rfl) ?_
   refine st (v := (B true)) (rv_assign rfl) ?_
   refine w_end ?_
   refine q_then ?_
   refine c_ret ?_
   obtain rfl := Option.some.inj h
   exact fin_ret (v := (B true)) (results_ok Try.results101 (res_tmp (v := (B true)) rfl res_nil) rfl) ⟨rfl, rfl⟩ (H.sel' [] rfl rfl)
  ·replace h := bif_f hb10 h
   refine st_g (v := (I x_0)) (congrArg some hb10) (rv_move rfl) ?_
   refine st_g (v := (I y_1)) (congrArg some hb10) (rv_move rfl) ?_
   refine st_g (v := (B (decide (x_0 < y_1)))) (congrArg some hb10) (rv_lss (a := x_0) (b := y_1) rfl rfl) ?_
   refine st (v := (B (decide (x_0 < y_1)))) (rv_pick_f (congrArg B hb10) rfl) ?_
   refine st (v := (B (decide (x_0 < y_1)))) (rv_assign rfl) ?_
   refine w_end ?_
   refine q_then ?_
   refine c_ret ?_
   obtain rfl := Option.some.inj h
   exact fin_ret (v := (B (decide (x_0 < y_1)))) (results_ok Try.results101 (res_tmp (v := (B (decide (x_0 < y_1)))) rfl res_nil) rfl) ⟨rfl, rfl⟩ (H.sel' [] rfl rfl)
 ·replace h := bif_f hb5 h
  refine st_skip (congrArg some hb5) ?_
  refine st_skip (congrArg some hb5) ?_
  refine st_skip (congrArg some hb5) ?_
  refine st (v := (B false)) (rv_pick_f (congrArg B hb5) rfl) ?_
  refine st (v := (B false)) (rv_move rfl) ?_
  refine st_g (v := (I x_0)) rfl (rv_move rfl) ?_
  refine st_g (v := (I y_1)) rfl (rv_move rfl) ?_
  refine st_g (v := (B (decide (x_0 < y_1)))) rfl (rv_lss (a := x_0) (b := y_1) rfl rfl) ?_
  refine st (v := (B (decide (x_0 < y_1)))) (rv_pick_f rfl rfl) ?_
  refine st (v := (B (decide (x_0 < y_1)))) (rv_assign rfl) ?_
  refine w_end ?_
  refine q_then ?_
  refine c_ret ?_
  obtain rfl := Option.some.inj h
  exact fin_ret (v := (B (decide (x_0 < y_1)))) (results_ok Try.results101 (res_tmp (v := (B (decide (x_0 < y_1)))) rfl res_nil) rfl) ⟨rfl, rfl⟩ (H.sel' [] rfl rfl)

theorem c_slices_IsSorted_int_int {x_0 : List Int} {ax_0 : Option Addr} {cx_0 : Nat} {r : Bool} (h : M.slices_IsSorted_int_int x_0 = some r) :
    Cal2 Try.prog 75 [(Sl ax_0 x_0 cx_0)] [Ch.ro 0 (Sl ax_0 x_0 cx_0) x_0] (fun n0 v L => v = (B r) ∧ L = []) := by
 refine cal2 (n := 21) Try.func75 rfl rfl rfl rfl ?_
 intro S0 σ0 n0 hn0 H
 unfold M.slices_IsSorted_int_int at h
 refine c_seq ?_
 refine rg ?_
 refine st (v := (B false)) (rv_assign rfl) ?_
 refine w_end ?_
 refine q_then ?_
 refine c_seq ?_
 refine c_seq ?_
 refine rg ?_
 refine st (v := (Sl ax_0 x_0 cx_0)) (rv_move rfl) ?_
 refine st (v := (I (x_0.length : Int))) (rv_len Try.underlying24 rfl) ?_
 refine st (v := (I (w64 ((x_0.length : Int) - 1)))) (rv_sub (a := (x_0.length : Int)) (b := 1) rfl rfl) ?_
 refine st (v := (I (w64 ((x_0.length : Int) - 1)))) (rv_assign rfl) ?_
 refine w_end ?_
 refine q_then ?_
 obtain ⟨o1, hj, h'⟩ := bind_some h
 clear h
 refine c_cut (fun e a w => (∃ t, o1 = (.inl t) ∧ e = .normal ∧ ∃ (ρ : Nat → Value) (σ : St), a = fr 21 (updL ρ []) ∧ w = σ.w ∧ Hp S0 σ0 σ []) ∨ (∃ t, o1 = (.inr t) ∧ e = .ret ∧ ∃ (ρ : Nat → Value) (σ : St), a = fr 21 (updL ρ [(2, (B t))]) ∧ w = σ.w ∧ Hp S0 σ0 σ [])) ?_ ?_
 ·clear h'
  rename _ = some o1 => h
  refine c_blk ?_
  refine wp_loopM _ h (fun s2 a w => ∃ (ρ : Nat → Value) (σ : St), a = fr 21 (updL ρ [(0, (Sl ax_0 x_0 cx_0)), (3, (I s2))]) ∧ w = σ.w ∧ Hp S0 σ0 σ [Ch.ro 0 (Sl ax_0 x_0 cx_0) x_0]) ⟨_, σ0, fr_join ⟨rfl, rfl, trivial⟩, rfl, H.sel' [0] rfl rfl⟩ ?_
  clear h H
  rintro s2 a w o ⟨ρ, σ3, rfl, rfl, H⟩ h hres
  refine c_seq ?_
  refine c_seq ?_
  refine rg ?_
  refine st (v := (I s2)) (rv_move rfl) ?_
  refine st (v := (B (decide (0 < s2)))) (rv_gtr (a := s2) (b := 0) rfl rfl) ?_
  refine w_end ?_
  refine q_then ?_
  refine cd_cond (decide (0 < s2)) rfl (fun hb4 => ?_) (fun hb4 => ?_)
  ·replace h := bif_t hb4 h
   refine c_skip ?_
   refine q_then ?_
   refine c_seq ?_
   refine c_blk ?_
   refine c_seq ?_
   refine rgP (σ := σ3) 9 (by kernel_rfl) (by kernel_rfl) (by kernel_rfl) ?_
   refine sq (v := (Sl ax_0 x_0 cx_0)) (rv_move rfl) ?_
   refine sq (v := (I s2)) (rv_move rfl) ?_
   obtain ⟨x5, hx6, h'⟩ := bind_some h
   clear h
   have h := h'; clear h'
   obtain ⟨b8, o9, hi7, -⟩ := (H.ro 0 rfl).ix hx6
   refine sq (v := (pt b8 o9)) (rv_ix Try.underlying24 ti3 rfl rfl hi7) ?_
   have hc10 := ((H.ro 0 rfl).at hx6 hi7).int
   refine sq (v := (I x5)) (rv_load1 Try.underlying3 rfl rfl hc10) ?_
   refine sq (v := (Sl ax_0 x_0 cx_0)) (rv_move rfl) ?_
   refine sq (v := (I s2)) (rv_move rfl) ?_
   refine sq (v := (I (w64 (s2 - 1)))) (rv_sub (a := s2) (b := 1) rfl rfl) ?_
   obtain ⟨x11, hx12, h'⟩ := bind_some h
   clear h
   have h := h'; clear h'
   obtain ⟨b14, o15, hi13, -⟩ := (H.ro 0 rfl).ix hx12
   refine sq (v := (pt b14 o15)) (rv_ix Try.underlying24 ti3 rfl rfl hi13) ?_
   have hc16 := ((H.ro 0 rfl).at hx12 hi13).int
   refine sq (v := (I x11)) (rv_load1 Try.underlying3 rfl rfl hc16) ?_
   refine sq_end ?_
   intro σ17 hm18
   replace H := H.grow (hm18.mono fun _ h => h); clear hm18
   obtain ⟨r19, hx20, h'⟩ := bind_some h
   clear h
   have h := h'; clear h'
   have hc21 := c_cmp_Less_int hx20
   refine st_call (cx_call hc21 (ent_f hc21.fn rfl) hn0 (show Hp S0 σ0 _ ([] ++ [Ch.ro 0 (Sl ax_0 x_0 cx_0) x_0]) from (H.sel' [0] rfl rfl))) wn ?_
   rintro _ σ22 ⟨_, ⟨rfl, rfl⟩, H, -⟩
   replace H : Hp S0 σ0 σ22 [Ch.ro 0 (Sl ax_0 x_0 cx_0) x_0] := H
   refine w_end ?_
   refine q_then ?_
   refine cd_cond r19 rfl (fun hb23 => ?_) (fun hb23 => ?_)
   ·replace h := bif_t hb23 h
    refine c_seq ?_
    refine rg ?_
    refine st (v := (B false)) (rv_assign rfl) ?_
    refine w_end ?_
    refine q_then ?_
    refine c_ret ?_
    refine q_blk_r ?_
    refine q_then_r ?_
    refine q_then_r ?_
    refine q_blk_r ?_
    obtain rfl := Option.some.inj h
    obtain rfl := hres _ rfl
    exact .inr (⟨_, rfl, rfl, _, σ22, fr_join ⟨rfl, trivial⟩, rfl, H.sel' [] rfl rfl⟩)
   ·replace h := bif_f hb23 h
    refine c_skip ?_
    refine q_blk ?_
    refine q_then ?_
    refine rg ?_
    refine st (v := (I s2)) (rv_move rfl) ?_
    refine st (v := (I (w64 (s2 - 1)))) (rv_sub (a := s2) (b := 1) rfl rfl) ?_
    refine st (v := (I (w64 (s2 - 1)))) (rv_assign rfl) ?_
    refine w_end ?_
    refine q_then ?_
    obtain rfl := Option.some.inj h
    exact ⟨_, rfl, _, σ22, fr_join ⟨rfl, rfl, trivial⟩, rfl, H.sel' [0] rfl rfl⟩
  ·replace h := bif_f hb4 h
   refine c_exit ?_
   refine q_then_x ?_
   refine q_then_x ?_
   refine q_blk_hit ?_
   obtain rfl := Option.some.inj h
   obtain rfl := hres _ rfl
   exact .inl ⟨_, rfl, rfl, _, σ3, fr_join trivial, rfl, H.sel' [] rfl rfl⟩
 ·clear hj
  have h := h'
  clear h' H
  rintro e a w (⟨t24, rfl, rfl, ρ, σ25, rfl, rfl, H⟩ | ⟨t26, rfl, rfl, ρ, σ27, rfl, rfl, H⟩)
  ·replace h := selim_l h
   refine q_then ?_
   refine c_seq ?_
   refine rg ?_
   refine st (v := (B true)) (rv_assign rfl) ?_
   refine w_end ?_
   refine q_then ?_
   refine c_ret ?_
   obtain rfl := Option.some.inj h
   exact fin_ret (v := (B true)) (results_ok Try.results75 (res_tmp (v := (B true)) rfl res_nil) rfl) ⟨rfl, rfl⟩ (H.sel' [] rfl rfl)
  ·replace h := selim_r h
   refine q_then_r ?_
   obtain rfl := Option.some.inj h
   exact fin_ret (v := (B t26)) (results_ok Try.results75 (res_tmp (v := (B t26)) rfl res_nil) rfl) ⟨rfl, rfl⟩ (H.sel' [] rfl rfl)

theorem c_impl_validTimes {times_0 : List Int} {atimes_0 : Option Addr} {ctimes_0 : Nat} {r : Bool} (h : M.impl_validTimes times_0 = some r) :
    Cal2 Try.prog 42 [(Sl atimes_0 times_0 ctimes_0)] [Ch.ro 0 (Sl atimes_0 times_0 ctimes_0) times_0] (fun n0 v L => v = (B r) ∧ L = []) := by
 refine cal2 (n := 20) Try.func42 rfl rfl rfl rfl ?_
 intro S0 σ0 n0 hn0 H
 unfold M.impl_validTimes at h
 refine c_seq ?_
 refine rg ?_
 refine st (v := (B false)) (rv_assign rfl) ?_
 refine w_end ?_
 refine q_then ?_
 refine c_seq ?_
 refine c_seq ?_
 refine rg ?_
 refine st (v := (Sl atimes_0 times_0 ctimes_0)) (rv_move rfl) ?_
 refine st (v := (I (times_0.length : Int))) (rv_len Try.underlying24 rfl) ?_
 refine st (v := (I 0)) (rv_move rfl) ?_
 refine w_end ?_
 refine q_then ?_
 obtain ⟨o1, hj, h'⟩ := bind_some h
 clear h
 refine c_cut (fun e a w => (∃ t, o1 = (.inl t) ∧ e = .normal ∧ ∃ (ρ : Nat → Value) (σ : St), a = fr 20 (updL ρ [(0, (Sl atimes_0 times_0 ctimes_0))]) ∧ w = σ.w ∧ Hp S0 σ0 σ [Ch.ro 0 (Sl atimes_0 times_0 ctimes_0) times_0]) ∨ (∃ t, o1 = (.inr t) ∧ e = .ret ∧ ∃ (ρ : Nat → Value) (σ : St), a = fr 20 (updL ρ [(2, (B t))]) ∧ w = σ.w ∧ Hp S0 σ0 σ [])) ?_ ?_
 ·clear h'
  rename _ = some o1 => h
  refine c_blk ?_
  refine wp_loopM _ h (fun s2 a w => ∃ (ρ : Nat → Value) (σ : St), a = fr 20 (updL ρ [(0, (Sl atimes_0 times_0 ctimes_0)), (5, (Sl atimes_0 times_0 ctimes_0)), (6, (I (times_0.length : Int))), (7, (I s2))]) ∧ w = σ.w ∧ Hp S0 σ0 σ [Ch.ro 0 (Sl atimes_0 times_0 ctimes_0) times_0]) ⟨_, σ0, fr_join ⟨rfl, rfl, rfl, rfl, trivial⟩, rfl, H.sel' [0] rfl rfl⟩ ?_
  clear h H
  rintro s2 a w o ⟨ρ, σ3, rfl, rfl, H⟩ h hres
  refine c_seq ?_
  refine rg ?_
  refine st (v := (B (decide (s2 < (times_0.length : Int))))) (rv_lss (a := s2) (b := (times_0.length : Int)) rfl rfl) ?_
  refine w_end ?_
  refine q_then ?_
  refine c_seq ?_
  refine cd_cond (decide (s2 < (times_0.length : Int))) rfl (fun hb4 => ?_) (fun hb4 => ?_)
  ·replace h := bif_t hb4 h
   refine c_skip ?_
   refine q_then ?_
   refine c_seq ?_
   refine c_blk ?_
   refine c_seq ?_
   refine rg ?_
   obtain ⟨x5, hx6, h'⟩ := bind_some h
   clear h
   have h := h'; clear h'
   obtain ⟨b8, o9, hi7, -⟩ := (H.ro 0 rfl).ix hx6
   refine st (v := (pt b8 o9)) (rv_ix Try.underlying24 ti3 rfl rfl hi7) ?_
   have hc10 := ((H.ro 0 rfl).at hx6 hi7).int
   refine st (v := (I x5)) (rv_load1 Try.underlying3 rfl rfl hc10) ?_
   refine st (v := (I x5)) (rv_assign rfl) ?_
   refine w_end ?_
   refine q_then ?_
   refine c_seq ?_
   obtain ⟨o11, hj, h'⟩ := bind_some h
   clear h
   refine c_cut (fun e a w => e = .normal ∧ ∃ (ρ : Nat → Value) (σ : St), a = fr 20 (updL ρ [(0, (Sl atimes_0 times_0 ctimes_0)), (5, (Sl atimes_0 times_0 ctimes_0)), (6, (I (times_0.length : Int))), (7, (I s2)), (16, (B o11))]) ∧ w = σ.w ∧ Hp S0 σ0 σ [Ch.ro 0 (Sl atimes_0 times_0 ctimes_0) times_0]) ?_ ?_
   ·clear h'
    rename _ = some o11 => h
    refine rg ?_
    refine st (v := (I x5)) (rv_move rfl) ?_
    refine st (v := (B (decide (x5 < 1)))) (rv_lss (a := x5) (b := 1) rfl rfl) ?_
    refine st (v := (B (decide (x5 < 1)))) (rv_move rfl) ?_
    rcases Bool.eq_false_or_eq_true (decide (x5 < 1)) with hb12 | hb12
    ·replace h := bif_t hb12 h
     refine st_skip (congrArg some hb12) ?_
     refine st_skip (congrArg some hb12) ?_
     refine st (v := (B true)) (rv_pick_t (congrArg B hb12) rfl) ?_
     refine w_end ?_
     obtain rfl := Option.some.inj h
     exact ⟨rfl, _, σ3, fr_join ⟨rfl, rfl, rfl, rfl, rfl, trivial⟩, rfl, H.sel' [0] rfl rfl⟩
    ·replace h := bif_f hb12 h
     refine st_g (v := (I x5)) (congrArg some hb12) (rv_move rfl) ?_
     refine st_g (v := (B (decide (1000 < x5)))) (congrArg some hb12) (rv_gtr (a := x5) (b := 1000) rfl rfl) ?_
     refine st (v := (B (decide (1000 < x5)))) (rv_pick_f (congrArg B hb12) rfl) ?_
     refine w_end ?_
     obtain rfl := Option.some.inj h
     exact ⟨rfl, _, σ3, fr_join ⟨rfl, rfl, rfl, rfl, rfl, trivial⟩, rfl, H.sel' [0] rfl rfl⟩
   ·clear hj
    have h := h'
    clear h' H
    rintro e a w ⟨rfl, ρ, σ13, rfl, rfl, H⟩
    refine q_then ?_
    refine cd_cond o11 rfl (fun hb14 => ?_) (fun hb14 => ?_)
    ·replace h := bif_t hb14 h
     refine c_seq ?_
     refine rg ?_
     refine st (v := (B false)) (rv_assign rfl) ?_
     refine w_end ?_
     refine q_then ?_
     refine c_ret ?_
     refine q_blk_r ?_
     refine q_then_r ?_
     refine q_then_r ?_
     refine q_blk_r ?_
     obtain rfl := Option.some.inj h
     obtain rfl := hres _ rfl
     exact .inr (⟨_, rfl, rfl, _, σ13, fr_join ⟨rfl, trivial⟩, rfl, H.sel' [] rfl rfl⟩)
    ·replace h := bif_f hb14 h
     refine c_skip ?_
     refine q_blk ?_
     refine q_then ?_
     refine rg ?_
     refine st (v := (I (w64 (s2 + 1)))) (rv_add (a := s2) (b := 1) rfl rfl) ?_
     refine st (v := (I (w64 (s2 + 1)))) (rv_move rfl) ?_
     refine w_end ?_
     refine q_then ?_
     obtain rfl := Option.some.inj h
     exact ⟨_, rfl, _, σ13, fr_join ⟨rfl, rfl, rfl, rfl, trivial⟩, rfl, H.sel' [0] rfl rfl⟩
  ·replace h := bif_f hb4 h
   refine c_exit ?_
   refine q_then_x ?_
   refine q_then_x ?_
   refine q_blk_hit ?_
   obtain rfl := Option.some.inj h
   obtain rfl := hres _ rfl
   exact .inl ⟨_, rfl, rfl, _, σ3, fr_join ⟨rfl, trivial⟩, rfl, H.sel' [0] rfl rfl⟩
 ·clear hj
  have h := h'
  clear h' H
  rintro e a w (⟨t15, rfl, rfl, ρ, σ16, rfl, rfl, H⟩ | ⟨t21, rfl, rfl, ρ, σ22, rfl, rfl, H⟩)
  ·replace h := selim_l h
   refine q_then ?_
   refine c_seq ?_
   refine rg ?_
   refine st (v := (Sl atimes_0 times_0 ctimes_0)) (rv_move rfl) ?_
   obtain ⟨r17, hx18, h'⟩ := bind_some h
   clear h
   have h := h'; clear h'
   have hc19 := c_slices_IsSorted_int_int (ax_0 := atimes_0) (cx_0 := ctimes_0) hx18
   refine st_call (cx_call hc19 (ent_f hc19.fn rfl) hn0 (show Hp S0 σ0 _ ([Ch.ro 0 (Sl atimes_0 times_0 ctimes_0) times_0] ++ [Ch.ro 0 (Sl atimes_0 times_0 ctimes_0) times_0]) from (H.sel' [0, 0] rfl rfl))) wn ?_
   rintro _ σ20 ⟨_, ⟨rfl, rfl⟩, H, -⟩
   replace H : Hp S0 σ0 σ20 [Ch.ro 0 (Sl atimes_0 times_0 ctimes_0) times_0] := H
   refine st (v := (B r17)) (rv_assign rfl) ?_
   refine w_end ?_
   refine q_then ?_
   refine c_ret ?_
   obtain rfl := Option.some.inj h
   exact fin_ret (v := (B r17)) (results_ok Try.results42 (res_tmp (v := (B r17)) rfl res_nil) rfl) ⟨rfl, rfl⟩ (H.sel' [] rfl rfl)
  ·replace h := selim_r h
   refine q_then_r ?_
   obtain rfl := Option.some.inj h
   exact fin_ret (v := (B t21)) (results_ok Try.results42 (res_tmp (v := (B t21)) rfl res_nil) rfl) ⟨rfl, rfl⟩ (H.sel' [] rfl rfl)

theorem c_impl_ValidHistory {h_0 : (List (Int × (Int × (List Int) × Int))) × (List Int)} {ah_0_0 : Option Addr} {ch_0_0 : Nat} {ah_0_1 : Option Addr} {ch_0_1 : Nat} {r : Bool} (h : M.impl_ValidHistory h_0 = some r) :
    Cal2 Try.prog 16 [(.agg #[(Sl ah_0_0 h_0.1 ch_0_0), (Sl ah_0_1 h_0.2 ch_0_1)])] [Ch.ro 0 (Sl ah_0_0 h_0.1 ch_0_0) h_0.1, Ch.ro 0 (Sl ah_0_1 h_0.2 ch_0_1) h_0.2] (fun n0 v L => v = (B r) ∧ L = []) := by
 refine cal2 (n := 29) Try.func16 rfl rfl rfl rfl ?_
 intro S0 σ0 n0 hn0 H
 unfold M.impl_ValidHistory at h
 refine c_seq ?_
 refine rg ?_
 refine st_ex (ex_box (cs := [(Sl ah_0_0 h_0.1 ch_0_0), (Sl ah_0_1 h_0.2 ch_0_1)]) H hn0 rfl rfl) wn ?_
 rintro _ σ2 ⟨b1, rfl, H, -⟩
 refine st (v := (B false)) (rv_assign rfl) ?_
 refine w_end ?_
 refine q_then ?_
 refine c_seq ?_
 refine c_seq ?_
 obtain ⟨o3, hj, h'⟩ := bind_some h
 clear h
 refine c_cut (fun e a w => e = .normal ∧ ∃ (ρ : Nat → Value) (σ : St), a = fr 29 (updL ρ [(1, (pt b1 0)), (17, (B o3))]) ∧ w = σ.w ∧ Hp S0 σ0 σ [Ch.ro 0 (Sl ah_0_0 h_0.1 ch_0_0) h_0.1, Ch.ro 0 (Sl ah_0_1 h_0.2 ch_0_1) h_0.2, Ch.bx n0 b1 0 [(Sl ah_0_0 h_0.1 ch_0_0), (Sl ah_0_1 h_0.2 ch_0_1)] [] []]) ?_ ?_
 ·clear h'
  rename _ = some o3 => h
  refine rg ?_
  refine st (v := (pt b1 1)) (rv_fieldAddr (off := 1) (ft := 24) Try.underlying26 rfl ti24 rfl rfl) ?_
  have hc4 := H.cell (u := (Sl ah_0_1 h_0.2 ch_0_1)) (o' := 1) 0 1 rfl rfl rfl
  refine st (v := (Sl ah_0_1 h_0.2 ch_0_1)) (rv_load1 Try.underlying24 rfl rfl hc4) ?_
  refine st (v := (I (h_0.2.length : Int))) (rv_len Try.underlying24 rfl) ?_
  refine st (v := (pt b1 0)) (rv_fieldAddr (off := 0) (ft := 23) Try.underlying26 rfl ti23 rfl rfl) ?_
  have hc5 := H.cell (u := (Sl ah_0_0 h_0.1 ch_0_0)) (o' := 0) 0 0 rfl rfl rfl
  refine st (v := (Sl ah_0_0 h_0.1 ch_0_0)) (rv_load1 Try.underlying23 rfl rfl hc5) ?_
  refine st (v := (I (h_0.1.length : Int))) (rv_len Try.underlying23 rfl) ?_
  refine st (v := (B ((h_0.2.length : Int) != (h_0.1.length : Int)))) (rv_neq (a := (h_0.2.length : Int)) (b := (h_0.1.length : Int)) rfl rfl) ?_
  refine st (v := (B ((h_0.2.length : Int) != (h_0.1.length : Int)))) (rv_move rfl) ?_
  rcases Bool.eq_false_or_eq_true ((h_0.2.length : Int) != (h_0.1.length : Int)) with hb6 | hb6
  ·replace h := bif_t hb6 h
   refine st_skip (congrArg some hb6) ?_
   refine st_skip (congrArg some hb6) ?_
   refine st_skip (congrArg some hb6) ?_
   refine st_skip (congrArg some hb6) ?_
   refine st (v := (B true)) (rv_pick_t (congrArg B hb6) rfl) ?_
   refine w_end ?_
   obtain rfl := Option.some.inj h
   exact ⟨rfl, _, σ2, fr_join ⟨rfl, rfl, trivial⟩, rfl, H.sel' [1, 2, 0] rfl rfl⟩
  ·replace h := bif_f hb6 h
   refine st_g (v := (pt b1 1)) (congrArg some hb6) (rv_fieldAddr (off := 1) (ft := 24) Try.underlying26 rfl ti24 rfl rfl) ?_
   have hc7 := H.cell (u := (Sl ah_0_1 h_0.2 ch_0_1)) (o' := 1) 0 1 rfl rfl rfl
   refine st_g (v := (Sl ah_0_1 h_0.2 ch_0_1)) (congrArg some hb6) (rv_load1 Try.underlying24 rfl rfl hc7) ?_
   obtain ⟨r8, hx9, h'⟩ := bind_some h
   clear h
   have h := h'; clear h'
   have hc10 := c_impl_validTimes (atimes_0 := ah_0_1) (ctimes_0 := ch_0_1) hx9
   refine st_call (cx_call hc10 (ent_f hc10.fn rfl) hn0 (show Hp S0 σ0 _ ([Ch.ro 0 (Sl ah_0_1 h_0.2 ch_0_1) h_0.2] ++ [Ch.bx n0 b1 0 [(Sl ah_0_0 h_0.1 ch_0_0), (Sl ah_0_1 h_0.2 ch_0_1)] [] [], Ch.ro 0 (Sl ah_0_0 h_0.1 ch_0_0) h_0.1, Ch.ro 0 (Sl ah_0_1 h_0.2 ch_0_1) h_0.2]) from (H.sel' [2, 0, 1, 2] rfl rfl))) (wanted_yes rfl (by exact (congrArg some hb6))) ?_
   rintro _ σ11 ⟨_, ⟨rfl, rfl⟩, H, -⟩
   replace H : Hp S0 σ0 σ11 [Ch.bx n0 b1 0 [(Sl ah_0_0 h_0.1 ch_0_0), (Sl ah_0_1 h_0.2 ch_0_1)] [] [], Ch.ro 0 (Sl ah_0_0 h_0.1 ch_0_0) h_0.1, Ch.ro 0 (Sl ah_0_1 h_0.2 ch_0_1) h_0.2] := H
   refine st_g (v := (B (!r8))) (congrArg some hb6) (rv_not rfl) ?_
   refine st (v := (B (!r8))) (rv_pick_f (congrArg B hb6) rfl) ?_
   refine w_end ?_
   obtain rfl := Option.some.inj h
   exact ⟨rfl, _, σ11, fr_join ⟨rfl, rfl, trivial⟩, rfl, H.sel' [1, 2, 0] rfl rfl⟩
 ·clear hj
  have h := h'
  clear h' H
  rintro e a w ⟨rfl, ρ, σ12, rfl, rfl, H⟩
  refine q_then ?_
  refine cd_cond o3 rfl (fun hb13 => ?_) (fun hb13 => ?_)
  ·replace h := bif_t hb13 h
   refine c_seq ?_
   refine rg ?_
   refine st (v := (B false)) (rv_assign rfl) ?_
   refine w_end ?_
   refine q_then ?_
   refine c_ret ?_
   refine q_then_r ?_
   obtain rfl := Option.some.inj h
   exact fin_ret (v := (B false)) (results_ok Try.results16 (res_tmp (v := (B false)) rfl res_nil) rfl) ⟨rfl, rfl⟩ (H.sel' [] rfl rfl)
  ·replace h := bif_f hb13 h
   refine c_skip ?_
   refine q_then ?_
   refine c_seq ?_
   refine rg ?_
   refine st (v := (pt b1 0)) (rv_fieldAddr (off := 0) (ft := 23) Try.underlying26 rfl ti23 rfl rfl) ?_
   have hc14 := H.cell (u := (Sl ah_0_0 h_0.1 ch_0_0)) (o' := 0) 2 0 rfl rfl rfl
   refine st (v := (Sl ah_0_0 h_0.1 ch_0_0)) (rv_load1 Try.underlying23 rfl rfl hc14) ?_
   replace H := H.nilRo (Int × (List Int) × Int) 0
   obtain ⟨r15, hx16, h'⟩ := bind_some h
   clear h
   have h := h'; clear h'
   have hc17 := c_impl_ReplayLog (alist_0 := none) (clist_0 := 0) (alog_1 := ah_0_0) (clog_1 := ch_0_0) hx16
   refine st_call (cx_call hc17 (ent_f hc17.fn rfl) hn0 (show Hp S0 σ0 _ ([Ch.ro 0 (Sl none ([] : List (Int × (List Int) × Int)) 0) ([] : List (Int × (List Int) × Int)), Ch.ro 0 (Sl ah_0_0 h_0.1 ch_0_0) h_0.1] ++ [Ch.ro 0 (Sl none ([] : List (Int × (List Int) × Int)) 0) ([] : List (Int × (List Int) × Int)), Ch.ro 0 (Sl ah_0_0 h_0.1 ch_0_0) h_0.1, Ch.ro 0 (Sl ah_0_1 h_0.2 ch_0_1) h_0.2, Ch.bx n0 b1 0 [(Sl ah_0_0 h_0.1 ch_0_0), (Sl ah_0_1 h_0.2 ch_0_1)] [] []]) from (H.sel' [0, 1, 0, 1, 2, 3] rfl rfl))) wn ?_
   rintro _ σ20 ⟨_, ⟨a18, c19, rfl, rfl⟩, H, -⟩
   replace H : Hp S0 σ0 σ20 [Ch.ro 0 (Sl a18 r15.1 c19) r15.1, Ch.ro 0 (Sl none ([] : List (Int × (List Int) × Int)) 0) ([] : List (Int × (List Int) × Int)), Ch.ro 0 (Sl ah_0_0 h_0.1 ch_0_0) h_0.1, Ch.ro 0 (Sl ah_0_1 h_0.2 ch_0_1) h_0.2, Ch.bx n0 b1 0 [(Sl ah_0_0 h_0.1 ch_0_0), (Sl ah_0_1 h_0.2 ch_0_1)] [] []] := H
   refine st (v := (.tuple #[(Sl a18 r15.1 c19), (I r15.2)])) (rv_move rfl) ?_
   refine st (v := (Sl a18 r15.1 c19)) (rv_extract rfl rfl) ?_
   refine st (v := (I r15.2)) (rv_extract rfl rfl) ?_
   refine st (v := (Sl a18 r15.1 c19)) (rv_assign rfl) ?_
   refine st (v := (I r15.2)) (rv_assign rfl) ?_
   refine w_end ?_
   refine q_then ?_
   refine c_seq ?_
   refine rg ?_
   refine st (v := (I r15.2)) (rv_move rfl) ?_
   refine st (v := (pt b1 0)) (rv_fieldAddr (off := 0) (ft := 23) Try.underlying26 rfl ti23 rfl rfl) ?_
   have hc21 := H.cell (u := (Sl ah_0_0 h_0.1 ch_0_0)) (o' := 0) 4 0 rfl rfl rfl
   refine st (v := (Sl ah_0_0 h_0.1 ch_0_0)) (rv_load1 Try.underlying23 rfl rfl hc21) ?_
   refine st (v := (I (h_0.1.length : Int))) (rv_len Try.underlying23 rfl) ?_
   refine st (v := (B (r15.2 == (h_0.1.length : Int)))) (rv_eql (a := r15.2) (b := (h_0.1.length : Int)) rfl rfl) ?_
   refine st (v := (B (r15.2 == (h_0.1.length : Int)))) (rv_assign rfl) ?_
   refine w_end ?_
   refine q_then ?_
   refine c_ret ?_
   obtain rfl := Option.some.inj h
   exact fin_ret (v := (B (r15.2 == (h_0.1.length : Int)))) (results_ok Try.results16 (res_tmp (v := (B (r15.2 == (h_0.1.length : Int)))) rfl res_nil) rfl) ⟨rfl, rfl⟩ (H.sel' [] rfl rfl)

theorem c_slices_Clone_impl_Entry_impl_Entry {s_0 : List (Int × (Int × (List Int) × Int))} {as_0 : Option Addr} {cs_0 : Nat} {r : (List (Int × (Int × (List Int) × Int)))} (h : M.slices_Clone_impl_Entry_impl_Entry s_0 = some r) :
    Cal2 Try.prog 57 [(Sl as_0 s_0 cs_0)] [Ch.ro 0 (Sl as_0 s_0 cs_0) s_0] (fun n0 v L => ∃ (az1 : Option Addr), ∃ (cz2 : Nat), v = (Sl az1 r cz2) ∧ L = [Ch.own n0 0 (Sl az1 r cz2) r]) := by
 refine cal2 (n := 8) Try.func57 rfl rfl rfl rfl ?_
 intro S0 σ0 n0 hn0 H
 unfold M.slices_Clone_impl_Entry_impl_Entry at h
 refine c_seq ?_
 refine rg ?_
 refine st (v := (.slice none 0 0)) (rv_assign rfl) ?_
 refine w_end ?_
 refine q_then ?_
 refine c_seq ?_
 refine c_seq ?_
 refine rg ?_
 refine st (v := (Sl as_0 s_0 cs_0)) (rv_move rfl) ?_
 refine st (v := (B as_0.isNone)) (rv_nilS Try.underlying23 rfl rfl) ?_
 refine w_end ?_
 refine q_then ?_
 refine cd_cond as_0.isNone rfl (fun hb1 => ?_) (fun hb1 => ?_)
 ·have hq := RS.nilOf hb1 (H.ro 0 rfl)
  subst hq
  replace h : some [] = some r := by simpa [gapp] using h
  refine c_seq ?_
  refine rg ?_
  refine st (v := (.slice none 0 0)) (rv_assign rfl) ?_
  refine w_end ?_
  refine q_then ?_
  refine c_ret ?_
  refine q_then_r ?_
  replace H := H.nilOwn (Int × (Int × (List Int) × Int)) n0 0
  obtain rfl := Option.some.inj h
  exact fin_ret (v := (.slice none 0 0)) (results_ok Try.results57 (res_tmp (v := (.slice none 0 0)) rfl res_nil) rfl) ⟨none, 0, rfl, rfl⟩ (H.sel' [0] rfl rfl)
 ·refine c_skip ?_
  refine q_then ?_
  refine c_seq ?_
  refine rg ?_
  refine st_ex (ex_buildSlice (el := n0) (xs := ([] : List (Int × (Int × (List Int) × Int)))) (ps := []) (cs := []) H hn0 Try.underlying23 ti43 rfl rfl (by kernel_rfl) (.nil) rfl) wn ?_
  rintro _ σ3 ⟨b2, rfl, H, -⟩
  refine st (v := (Sl as_0 s_0 cs_0)) (rv_move rfl) ?_
  replace H := H.ownLow 0 n0 0 rfl (Nat.le_refl _) (Nat.zero_le _)
  obtain ⟨xs4, hx5, h'⟩ := bind_some h
  clear h
  have h := h'; clear h'
  refine st_ex (ex_append H (i := 0) rfl Try.underlying23 Try.underlying23 ti43 rfl rfl (by decide) (H.ro 1 rfl).rd hx5 hn0 rfl rfl) wn ?_
  rintro _ σ8 ⟨a6, c7, rfl, H, -⟩
  refine st (v := (Sl a6 xs4 c7)) (rv_assign rfl) ?_
  refine w_end ?_
  refine q_then ?_
  refine c_ret ?_
  obtain rfl := Option.some.inj h
  exact fin_ret (v := (Sl a6 xs4 c7)) (results_ok Try.results57 (res_tmp (v := (Sl a6 xs4 c7)) rfl res_nil) rfl) ⟨a6, c7, rfl, rfl⟩ (H.sel' [0] rfl rfl)

theorem c_impl_copyLog {log_0 : List (Int × (Int × (List Int) × Int))} {alog_0 : Option Addr} {clog_0 : Nat} {r : (List (Int × (Int × (List Int) × Int)))} (h : M.impl_copyLog log_0 = some r) :
    Cal2 Try.prog 89 [(Sl alog_0 log_0 clog_0)] [Ch.ro 0 (Sl alog_0 log_0 clog_0) log_0] (fun n0 v L => ∃ (az1 : Option Addr), ∃ (cz2 : Nat), v = (Sl az1 r cz2) ∧ L = [Ch.own n0 n0 (Sl az1 r cz2) r] ∧ cz2 = r.length) := by
 refine cal2 (n := 27) Try.func89 rfl rfl rfl rfl ?_
 intro S0 σ0 n0 hn0 H
 unfold M.impl_copyLog at h
 refine c_seq ?_
 refine rg ?_
 refine st (v := (.slice none 0 0)) (rv_assign rfl) ?_
 refine w_end ?_
 refine q_then ?_
 refine c_seq ?_
 refine rg ?_
 refine st (v := (Sl alog_0 log_0 clog_0)) (rv_move rfl) ?_
 refine st (v := (I (log_0.length : Int))) (rv_len Try.underlying23 rfl) ?_
 obtain ⟨xs1, hx2, h'⟩ := bind_some h
 clear h
 have h := h'; clear h'
 refine st_ex (ex_make (el := n0) (z0 := ((0, (0, [], 0)) : Int × (Int × (List Int) × Int))) (zs := [(I 0), (I 0), (.slice none 0 0), (I 0)]) H hn0 Try.underlying23 ti43 rfl rfl (⟨[(I 0)], [(I 0), (.slice none 0 0), (I 0)], rfl, rfl, ⟨[(I 0)], [(.slice none 0 0), (I 0)], rfl, rfl, ⟨[(.slice none 0 0)], [(I 0)], rfl, ⟨_, rfl, RS.nil⟩, rfl⟩⟩⟩) (by decide) hx2 rfl rfl) wn ?_
 rintro _ σ6 ⟨b3, c4, rfl, ht5, H, -⟩
 replace ht5 := ht5.trans (gmake_len hx2).symm
 refine st (v := (Sl (some ⟨b3, 0, none⟩) xs1 c4)) (rv_assign rfl) ?_
 refine w_end ?_
 refine q_then ?_
 refine c_seq ?_
 refine c_seq ?_
 refine rg ?_
 refine st (v := (Sl alog_0 log_0 clog_0)) (rv_move rfl) ?_
 refine st (v := (I (log_0.length : Int))) (rv_len Try.underlying23 rfl) ?_
 refine st (v := (I 0)) (rv_move rfl) ?_
 refine w_end ?_
 refine q_then ?_
 obtain ⟨o7, hj, h'⟩ := bind_some h
 clear h
 refine c_cut (fun e a w => e = .normal ∧ ∃ (ρ : Nat → Value) (σ : St), a = fr 27 (updL ρ [(3, (Sl (some ⟨b3, 0, none⟩) o7 c4))]) ∧ w = σ.w ∧ Hp S0 σ0 σ [Ch.own n0 n0 (Sl (some ⟨b3, 0, none⟩) o7 c4) o7] ∧ c4 = o7.length ∧ o7.length = xs1.length) ?_ ?_
 ·clear h'
  rename _ = some o7 => h
  refine c_blk ?_
  refine wp_loopM _ h (fun s8 a w => ∃ (ρ : Nat → Value) (σ : St), a = fr 27 (updL ρ [(3, (Sl (some ⟨b3, 0, none⟩) s8.1 c4)), (9, (Sl alog_0 log_0 clog_0)), (10, (I (log_0.length : Int))), (11, (I s8.2))]) ∧ w = σ.w ∧ Hp S0 σ0 σ [Ch.own n0 n0 (Sl (some ⟨b3, 0, none⟩) s8.1 c4) s8.1, Ch.ro 0 (Sl alog_0 log_0 clog_0) log_0] ∧ c4 = s8.1.length ∧ s8.1.length = xs1.length) ⟨_, σ6, fr_join ⟨rfl, rfl, rfl, rfl, trivial⟩, rfl, H.sel' [0, 1] rfl rfl, ht5, rfl⟩ ?_
  clear h H
  rintro s8 a w o ⟨ρ, σ9, rfl, rfl, H, ht10, hn11⟩ h hres
  refine c_seq ?_
  refine rg ?_
  refine st (v := (B (decide (s8.2 < (log_0.length : Int))))) (rv_lss (a := s8.2) (b := (log_0.length : Int)) rfl rfl) ?_
  refine w_end ?_
  refine q_then ?_
  refine c_seq ?_
  refine cd_cond (decide (s8.2 < (log_0.length : Int))) rfl (fun hb12 => ?_) (fun hb12 => ?_)
  ·replace h := bif_t hb12 h
   refine c_skip ?_
   refine q_then ?_
   refine c_seq ?_
   refine c_blk ?_
   refine c_seq ?_
   refine rg ?_
   refine st (v := (I s8.2)) (rv_move rfl) ?_
   obtain ⟨x13, hx14, h'⟩ := bind_some h
   clear h
   have h := h'; clear h'
   obtain ⟨b16, o17, hi15, -⟩ := (H.ro 1 rfl).ix hx14
   refine st (v := (pt b16 o17)) (rv_ix Try.underlying23 ti43 rfl rfl hi15) ?_
   obtain ⟨_, ⟨_, _, rfl, rfl, ⟨_, _, rfl, rfl, ⟨_, _, rfl, ⟨_, rfl, hR22⟩, rfl⟩⟩⟩, hl18, hc19⟩ := ((H.ro 1 rfl).at hx14 hi15).cells
   obtain ⟨a20, c21, rfl⟩ := hR22.isSl
   replace H := H.add (d := Ch.ro 0 (Sl a20 x13.2.2.1 c21) x13.2.2.1) hR22 (fun _ h => h)
   clear hR22
   refine st (v := (.agg #[(I x13.1), (I x13.2.1), (Sl a20 x13.2.2.1 c21), (I x13.2.2.2)])) (rv_load Try.underlying43 rfl ti43 rfl hl18 hc19) ?_
   refine st_ex (ex_alloc (cs := [(I 0), (I 0), (.slice none 0 0), (I 0)]) H hn0 ti43 rfl) wn ?_
   rintro _ σ24 ⟨b23, rfl, H, -⟩
   refine st (v := (I s8.2)) (rv_assign rfl) ?_
   refine st_exS (ex_store_box (k := 0) (cs := [(I 0), (I 0), (.slice none 0 0), (I 0)]) (vs := [(I x13.1), (I x13.2.1), (Sl a20 x13.2.2.1 c21), (I x13.2.2.2)]) (cs' := [(I x13.1), (I x13.2.1), (Sl a20 x13.2.2.1 c21), (I x13.2.2.2)]) H (i := 0) rfl ti43 rfl rfl rfl rfl rfl (Nat.le_of_ble_eq_true rfl) (by simp [plain]) rfl) wn ?_
   rintro σ25 ⟨H, -⟩
   refine w_end ?_
   refine q_then ?_
   have hc26 := H.cell (u := (I x13.1)) (o' := 0) 0 0 rfl rfl rfl
   have hc27 := H.part (us := [(I x13.2.1), (Sl a20 x13.2.2.1 c21), (I x13.2.2.2)]) (o' := 1) 0 1 3 rfl rfl rfl rfl
   obtain ⟨r28, hx29, h'⟩ := bind_some h
   clear h
   have h := h'; clear h'
   have hc30 := c_impl_copyItem (ax_0_1 := a20) (cx_0_1 := c21) hx29
   have Hs := H
   refine rg2 (σ := σ25) (Nm := (Option Addr) × (Nat)) 8 [6] [[false], [true]] [[(0, 0), (1, 1)], [(0, 0), (1, 1)], [(0, 0), (1, 1)], [(0, 0), (1, 1)], [(0, 0)], [(0, 0)], [(0, 1)], [(1, 1)]] 1 [fun ((a31, c32) : (Option Addr) × (Nat)) => fun σm => Hp S0 σ0 σm [Ch.bx n0 b23 0 [(I x13.1), (I x13.2.1), (Sl a20 x13.2.2.1 c21), (I x13.2.2.2)] [] [], Ch.ro 0 (Sl a20 x13.2.2.1 c21) x13.2.2.1, Ch.own n0 n0 (Sl (some ⟨b3, 0, none⟩) s8.1 c4) s8.1, Ch.ro 0 (Sl alog_0 log_0 clog_0) log_0] ∧ Md (cov []) σ25 σm, fun ((a31, c32) : (Option Addr) × (Nat)) => fun σm => Hp S0 σ0 σm [Ch.own n0 n0 (Sl a31 r28.2.1 c32) r28.2.1, Ch.bx n0 b23 0 [(I x13.1), (I x13.2.1), (Sl a20 x13.2.2.1 c21), (I x13.2.2.2)] [] [], Ch.ro 0 (Sl a20 x13.2.2.1 c21) x13.2.2.1, Ch.own n0 n0 (Sl (some ⟨b3, 0, none⟩) s8.1 c4) s8.1, Ch.ro 0 (Sl alog_0 log_0 clog_0) log_0] ∧ Md (cov []) σ25 σm] [fun ((a31, c32) : (Option Addr) × (Nat)) => (Sl (some ⟨b3, 0, none⟩) s8.1 c4), fun ((a31, c32) : (Option Addr) × (Nat)) => (I s8.2), fun ((a31, c32) : (Option Addr) × (Nat)) => (pt b23 0), fun ((a31, c32) : (Option Addr) × (Nat)) => (I x13.1), fun ((a31, c32) : (Option Addr) × (Nat)) => (pt b23 1), fun ((a31, c32) : (Option Addr) × (Nat)) => (.agg #[(I x13.2.1), (Sl a20 x13.2.2.1 c21), (I x13.2.2.2)]), fun ((a31, c32) : (Option Addr) × (Nat)) => (.agg #[(I r28.1), (Sl a31 r28.2.1 c32), (I r28.2.2)]), fun ((a31, c32) : (Option Addr) × (Nat)) => (.agg #[(I x13.1), (I r28.1), (Sl a31 r28.2.1 c32), (I r28.2.2)])] (none, 0) (by kernel_rfl) (by kernel_rfl) ?_ ?_ ?_
   ·intro σm m0
    exact ⟨H.grow (m0.mono fun _ h => h.elim), m0⟩
   ·refine ac rfl (by
      intro k; rintro ⟨a31, c32⟩ ρ σm hJ hoff hdep
      have e3 := look_off (N := 27) (hoff 3 rfl) rfl
      exact dp_v (v := (Sl (some ⟨b3, 0, none⟩) s8.1 c4)) wn (rv_move e3) rfl hJ) ?_
    refine ac rfl (by
      intro k; rintro ⟨a31, c32⟩ ρ σm hJ hoff hdep
      have e4 := look_off (N := 27) (hoff 4 rfl) rfl
      exact dp_v (v := (I s8.2)) wn (rv_move e4) rfl hJ) ?_
    refine ac rfl (by
      intro k; rintro ⟨a31, c32⟩ ρ σm hJ hoff hdep
      have e5 := look_off (N := 27) (hoff 5 rfl) rfl
      exact dp_v (v := (pt b23 0)) wn (rv_fieldAddr (off := 0) (ft := 3) Try.underlying43 rfl ti3 rfl e5) rfl hJ) ?_
    refine all_cons (by
      refine ⟨?_, ?_⟩
      ·rintro ⟨a31, c32⟩ ρ σm hJ hoff hdep
       have e18 := hdep 2 rfl rfl 18 rfl
       obtain ⟨H, m⟩ := id hJ
       have hc26 := H.cell (u := (I x13.1)) (o' := 0) 0 0 rfl rfl rfl
       exact dp_v (v := (I x13.1)) wn (rv_load1 Try.underlying3 rfl e18 hc26) rfl hJ
      refine ⟨?_, ?_⟩
      ·rintro ⟨a31, c32⟩ ρ σm hJ hoff hdep
       have e18 := hdep 2 rfl rfl 18 rfl
       obtain ⟨H, m⟩ := id hJ
       have hc26 := H.cell (u := (I x13.1)) (o' := 0) 1 0 rfl rfl rfl
       exact dp_v (v := (I x13.1)) wn (rv_load1 Try.underlying3 rfl e18 hc26) rfl hJ
      trivial) ?_
    refine ac rfl (by
      intro k; rintro ⟨a31, c32⟩ ρ σm hJ hoff hdep
      have e5 := look_off (N := 27) (hoff 5 rfl) rfl
      exact dp_v (v := (pt b23 1)) wn (rv_fieldAddr (off := 1) (ft := 41) Try.underlying43 rfl ti41 rfl e5) rfl hJ) ?_
    refine all_cons (by
      refine ⟨?_, ?_⟩
      ·rintro ⟨a31, c32⟩ ρ σm hJ hoff hdep
       have e20 := hdep 4 rfl rfl 20 rfl
       obtain ⟨H, m⟩ := id hJ
       have hc27 := H.part (us := [(I x13.2.1), (Sl a20 x13.2.2.1 c21), (I x13.2.2.2)]) (o' := 1) 0 1 3 rfl rfl rfl rfl
       exact dp_v (v := (.agg #[(I x13.2.1), (Sl a20 x13.2.2.1 c21), (I x13.2.2.2)])) wn (rv_load (cs := [(I x13.2.1), (Sl a20 x13.2.2.1 c21), (I x13.2.2.2)]) Try.underlying41 rfl ti41 e20 rfl hc27) rfl hJ
      trivial) ?_
    refine all_cons (by
      refine ⟨?_, ?_⟩
      ·rintro ⟨a31, c32⟩ ρ σm hJ hoff hdep
       have e21 : look 27 ρ 21 = (.agg #[(I x13.2.1), (Sl a20 x13.2.2.1 c21), (I x13.2.2.2)]) := hdep 5 rfl rfl 21 rfl
       obtain ⟨H, m⟩ := id hJ
       refine dp_cx wn (cx_call hc30 (ent_f hc30.fn (by show [look 27 ρ 21] = _; rw [e21])) hn0 (show Hp S0 σ0 _ ([Ch.ro 0 (Sl a20 x13.2.2.1 c21) x13.2.2.1] ++ [Ch.bx n0 b23 0 [(I x13.1), (I x13.2.1), (Sl a20 x13.2.2.1 c21), (I x13.2.2.2)] [] [], Ch.ro 0 (Sl a20 x13.2.2.1 c21) x13.2.2.1, Ch.own n0 n0 (Sl (some ⟨b3, 0, none⟩) s8.1 c4) s8.1, Ch.ro 0 (Sl alog_0 log_0 clog_0) log_0]) from (H.sel' [1, 0, 1, 2, 3] rfl rfl))) ?_
       rintro _ σq ⟨_, ⟨a31x, c32x, rfl, rfl⟩, H2, m2⟩
       exact ⟨_, (a31x, c32x), rfl, rfl, ⟨H2.sel' [0, 1, 2, 3, 4] rfl rfl, m.comp0 (m2.mono (fun i h => by simp [cov, Ch.ro] at h))⟩, stab [0, 1, 2, 3, 4, 5] (by kernel_rfl) ⟨rfl, rfl, rfl, rfl, rfl, rfl, trivial⟩⟩
      trivial) ?_
    refine ac rfl (by
      intro k; rintro ⟨a31, c32⟩ ρ σm hJ hoff hdep
      have e19 : look 27 ρ 19 = (I x13.1) := hdep 3 rfl rfl 19 rfl
      have e22 : look 27 ρ 22 = (.agg #[(I r28.1), (Sl a31 r28.2.1 c32), (I r28.2.2)]) := hdep 6 rfl rfl 22 rfl
      exact dp_v (v := (.agg #[(I x13.1), (I r28.1), (Sl a31 r28.2.1 c32), (I r28.2.2)])) wn (rv_build (ps := [(0, (I x13.1)), (1, (.agg #[(I r28.1), (Sl a31 r28.2.1 c32), (I r28.2.2)]))]) Try.underlying43 ti43 (bp43 Try.underlying43) (by show [(0, look 27 ρ 19), (1, look 27 ρ 22)] = _; rw [e19, e22]) (by kernel_rfl)) rfl hJ) ?_
    exact all_nil
   ·rintro ⟨a31, c32⟩ ρ σ33 hJ hoff hrel
    have e3 := look_off (N := 27) (hoff 3 rfl) rfl
    have e9 := look_off (N := 27) (hoff 9 rfl) rfl
    have e10 := look_off (N := 27) (hoff 10 rfl) rfl
    have e11 := look_off (N := 27) (hoff 11 rfl) rfl
    have e16 := hrel 0 rfl 16 rfl
    have e17 := hrel 1 rfl 17 rfl
    have e23 := hrel 7 rfl 23 rfl
    obtain ⟨H, -⟩ := (show Hp S0 σ0 σ33 [Ch.own n0 n0 (Sl a31 r28.2.1 c32) r28.2.1, Ch.bx n0 b23 0 [(I x13.1), (I x13.2.1), (Sl a20 x13.2.2.1 c21), (I x13.2.2.2)] [] [], Ch.ro 0 (Sl a20 x13.2.2.1 c21) x13.2.2.1, Ch.own n0 n0 (Sl (some ⟨b3, 0, none⟩) s8.1 c4) s8.1, Ch.ro 0 (Sl alog_0 log_0 clog_0) log_0] ∧ Md (cov []) σ25 σ33 from hJ)
    clear hJ Hs
    rw [fr_lookL (L := [(3, (Sl (some ⟨b3, 0, none⟩) s8.1 c4)), (9, (Sl alog_0 log_0 clog_0)), (10, (I (log_0.length : Int))), (11, (I s8.2)), (16, (Sl (some ⟨b3, 0, none⟩) s8.1 c4)), (17, (I s8.2)), (23, (.agg #[(I x13.1), (I r28.1), (Sl a31 r28.2.1 c32), (I r28.2.2)]))]) ⟨e3, e9, e10, e11, e16, e17, e23, trivial⟩]
    clear hoff hrel e3 e9 e10 e11 e16 e17 e23
    obtain ⟨x34, hx35, h'⟩ := bind_some h
    clear h
    have h := h'; clear h'
    obtain ⟨b37, o38, hi36, -⟩ := (H.own 3 rfl).ix hx35
    refine st (v := (pt b37 o38)) (rv_ix Try.underlying23 ti43 rfl rfl hi36) ?_
    obtain ⟨σ39, hw40, H, -⟩ := H.pub 0 rfl (Nat.le_refl _)
    rw [← hw40]; clear hw40
    refine st_exS (ex_store_own (e' := (x13.1, (r28.1, r28.2.1, r28.2.2))) (vs := [(I x13.1), (I r28.1), (Sl a31 r28.2.1 c32), (I r28.2.2)]) (k := 0) H (i := 3) rfl ti43 hx35 hi36 rfl rfl rfl rfl rfl (Nat.le_of_ble_eq_true rfl) (by simp [plain]) (by rintro _ ⟨_, _, rfl, rfl, ⟨_, _, rfl, rfl, ⟨_, _, rfl, ⟨_, rfl, hR43⟩, rfl⟩⟩⟩; exact ⟨[(I x13.1)], [(I r28.1), (Sl a31 r28.2.1 c32), (I r28.2.2)], rfl, rfl, ⟨[(I r28.1)], [(Sl a31 r28.2.1 c32), (I r28.2.2)], rfl, rfl, ⟨[(Sl a31 r28.2.1 c32)], [(I r28.2.2)], rfl, ⟨_, rfl, (H.ro 0 rfl)⟩, rfl⟩⟩⟩)) wn ?_
    rintro σ44 ⟨H, -⟩
    have hsl : (Sl (some ⟨b3, 0, none⟩) s8.1 c4) = (Sl (some ⟨b3, 0, none⟩) (s8.1.set s8.2.toNat (x13.1, (r28.1, r28.2.1, r28.2.2))) c4) := sl_len List.length_set.symm
    rw [hsl]; rw [hsl] at H; clear hsl
    refine w_end ?_
    refine q_blk ?_
    refine q_then ?_
    refine rg ?_
    refine st (v := (I (w64 (s8.2 + 1)))) (rv_add (a := s8.2) (b := 1) rfl rfl) ?_
    refine st (v := (I (w64 (s8.2 + 1)))) (rv_move rfl) ?_
    refine w_end ?_
    refine q_then ?_
    obtain rfl := Option.some.inj h
    exact ⟨_, rfl, _, σ44, fr_join ⟨rfl, rfl, rfl, rfl, trivial⟩, rfl, H.sel' [0, 4] rfl rfl, (ht10.trans List.length_set.symm), (List.length_set.trans hn11)⟩
  ·replace h := bif_f hb12 h
   refine c_exit ?_
   refine q_then_x ?_
   refine q_then_x ?_
   refine q_blk_hit ?_
   obtain rfl := Option.some.inj h
   obtain rfl := hres _ rfl
   exact ⟨rfl, _, σ9, fr_join ⟨rfl, trivial⟩, rfl, H.sel' [0] rfl rfl, ht10, hn11⟩
 ·clear hj
  have h := h'
  clear h' H
  rintro e a w ⟨rfl, ρ, σ45, rfl, rfl, H, ht46, hn47⟩
  refine q_then ?_
  refine c_seq ?_
  refine rg ?_
  refine st (v := (Sl (some ⟨b3, 0, none⟩) o7 c4)) (rv_move rfl) ?_
  refine st (v := (Sl (some ⟨b3, 0, none⟩) o7 c4)) (rv_assign rfl) ?_
  refine w_end ?_
  refine q_then ?_
  refine c_ret ?_
  obtain rfl := Option.some.inj h
  exact fin_ret (v := (Sl (some ⟨b3, 0, none⟩) o7 c4)) (results_ok Try.results89 (res_tmp (v := (Sl (some ⟨b3, 0, none⟩) o7 c4)) rfl res_nil) rfl) ⟨(some ⟨b3, 0, none⟩), c4, rfl, rfl, ht46⟩ (H.sel' [0] rfl rfl)

theorem c_impl_History_firstEntries {h_0 : (List (Int × (Int × (List Int) × Int))) × (List Int)} {many_1 : Int} {ah_0_0 : Option Addr} {ch_0_0 : Nat} {ah_0_1 : Option Addr} {ch_0_1 : Nat} {r : ((List (Int × (Int × (List Int) × Int))) × (List Int))} (h : M.impl_History_firstEntries h_0 many_1 = some r) :
    Cal2 Try.prog 59 [(.agg #[(Sl ah_0_0 h_0.1 ch_0_0), (Sl ah_0_1 h_0.2 ch_0_1)]), (I many_1)] [Ch.ro 0 (Sl ah_0_0 h_0.1 ch_0_0) h_0.1, Ch.ro 0 (Sl ah_0_1 h_0.2 ch_0_1) h_0.2] (fun n0 v L => ∃ (az1 : Option Addr), ∃ (cz2 : Nat), ∃ (az4 : Option Addr), ∃ (cz5 : Nat), v = (.agg #[(Sl az1 r.1 cz2), (Sl az4 r.2 cz5)]) ∧ L = [Ch.own n0 n0 (Sl az1 r.1 cz2) r.1, Ch.own n0 n0 (Sl az4 r.2 cz5) r.2] ∧ cz2 = r.1.length) := by
 refine cal2 (n := 16) Try.func59 rfl rfl rfl rfl ?_
 intro S0 σ0 n0 hn0 H
 unfold M.impl_History_firstEntries at h
 refine c_seq ?_
 refine rg ?_
 refine st_ex (ex_box (cs := [(Sl ah_0_0 h_0.1 ch_0_0), (Sl ah_0_1 h_0.2 ch_0_1)]) H hn0 rfl rfl) wn ?_
 rintro _ σ2 ⟨b1, rfl, H, -⟩
 refine st_ex (ex_alloc (cs := [(.slice none 0 0), (.slice none 0 0)]) H hn0 ti26 rfl) wn ?_
 rintro _ σ4 ⟨b3, rfl, H, -⟩
 refine w_end ?_
 refine q_then ?_
 refine c_seq ?_
 have hc5 := H.cell (u := (Sl ah_0_0 h_0.1 ch_0_0)) (o' := 0) 1 0 rfl rfl rfl
 obtain ⟨xs6, hx7, h'⟩ := bind_some h
 clear h
 have h := h'; clear h'
 obtain ⟨a8, c9, hs10, hR11⟩ := (H.ro 2 rfl).slice hx7
 replace H := H.add (d := Ch.ro 0 (Sl a8 xs6 c9) xs6) hR11 (fun _ h => h)
 clear hR11
 obtain ⟨r12, hx13, h'⟩ := bind_some h
 clear h
 have h := h'; clear h'
 have hc14 := c_impl_copyLog (alog_0 := a8) (clog_0 := c9) hx13
 have hc18 := H.cell (u := (Sl ah_0_1 h_0.2 ch_0_1)) (o' := 1) 2 1 rfl rfl rfl
 obtain ⟨xs19, hx20, h'⟩ := bind_some h
 clear h
 have h := h'; clear h'
 obtain ⟨a21, c22, hs23, hR24⟩ := (H.ro 4 rfl).slice hx20
 replace H := H.add (d := Ch.ro 0 (Sl a21 xs19 c22) xs19) hR24 (fun _ h => h)
 clear hR24
 have Hs := H
 refine rg2 (σ := σ4) (Nm := (Option Addr) × (Nat)) 9 [4] [[false], [true]] [[(0, 0)], [(0, 0)], [(0, 0)], [(0, 0)], [(0, 1)], [(0, 0), (1, 1)], [(0, 0), (1, 1)], [(0, 0), (1, 1)], [(0, 0), (1, 1)]] 1 [fun ((a15, c16) : (Option Addr) × (Nat)) => fun σm => Hp S0 σ0 σm [Ch.ro 0 (Sl a21 xs19 c22) xs19, Ch.ro 0 (Sl a8 xs6 c9) xs6, Ch.bx n0 b3 0 [(.slice none 0 0), (.slice none 0 0)] [] [], Ch.bx n0 b1 0 [(Sl ah_0_0 h_0.1 ch_0_0), (Sl ah_0_1 h_0.2 ch_0_1)] [] [], Ch.ro 0 (Sl ah_0_0 h_0.1 ch_0_0) h_0.1, Ch.ro 0 (Sl ah_0_1 h_0.2 ch_0_1) h_0.2] ∧ Md (cov []) σ4 σm, fun ((a15, c16) : (Option Addr) × (Nat)) => fun σm => Hp S0 σ0 σm [Ch.own n0 n0 (Sl a15 r12 c16) r12, Ch.ro 0 (Sl a21 xs19 c22) xs19, Ch.ro 0 (Sl a8 xs6 c9) xs6, Ch.bx n0 b3 0 [(.slice none 0 0), (.slice none 0 0)] [] [], Ch.bx n0 b1 0 [(Sl ah_0_0 h_0.1 ch_0_0), (Sl ah_0_1 h_0.2 ch_0_1)] [] [], Ch.ro 0 (Sl ah_0_0 h_0.1 ch_0_0) h_0.1, Ch.ro 0 (Sl ah_0_1 h_0.2 ch_0_1) h_0.2] ∧ Md (cov []) σ4 σm ∧ c16 = r12.length] [fun ((a15, c16) : (Option Addr) × (Nat)) => (pt b1 0), fun ((a15, c16) : (Option Addr) × (Nat)) => (Sl ah_0_0 h_0.1 ch_0_0), fun ((a15, c16) : (Option Addr) × (Nat)) => (I many_1), fun ((a15, c16) : (Option Addr) × (Nat)) => (Sl a8 xs6 c9), fun ((a15, c16) : (Option Addr) × (Nat)) => (Sl a15 r12 c16), fun ((a15, c16) : (Option Addr) × (Nat)) => (pt b1 1), fun ((a15, c16) : (Option Addr) × (Nat)) => (Sl ah_0_1 h_0.2 ch_0_1), fun ((a15, c16) : (Option Addr) × (Nat)) => (I many_1), fun ((a15, c16) : (Option Addr) × (Nat)) => (Sl a21 xs19 c22)] (none, 0) (by kernel_rfl) (by kernel_rfl) ?_ ?_ ?_
 ·intro σm m0
  exact ⟨H.grow (m0.mono fun _ h => h.elim), m0⟩
 ·refine ac rfl (by
    intro k; rintro ⟨a15, c16⟩ ρ σm hJ hoff hdep
    have e2 := look_off (N := 16) (hoff 2 rfl) rfl
    exact dp_v (v := (pt b1 0)) wn (rv_fieldAddr (off := 0) (ft := 23) Try.underlying26 rfl ti23 rfl e2) rfl hJ) ?_
  refine all_cons (by
    refine ⟨?_, ?_⟩
    ·rintro ⟨a15, c16⟩ ρ σm hJ hoff hdep
     have e5 := hdep 0 rfl rfl 5 rfl
     obtain ⟨H, m⟩ := id hJ
     have hc5 := H.cell (u := (Sl ah_0_0 h_0.1 ch_0_0)) (o' := 0) 3 0 rfl rfl rfl
     exact dp_v (v := (Sl ah_0_0 h_0.1 ch_0_0)) wn (rv_load1 Try.underlying23 rfl e5 hc5) rfl hJ
    trivial) ?_
  refine ac rfl (by
    intro k; rintro ⟨a15, c16⟩ ρ σm hJ hoff hdep
    have e1 := look_off (N := 16) (hoff 1 rfl) rfl
    exact dp_v (v := (I many_1)) wn (rv_move e1) rfl hJ) ?_
  refine ac rfl (by
    intro k; rintro ⟨a15, c16⟩ ρ σm hJ hoff hdep
    have e6 := hdep 1 rfl rfl 6 rfl
    have e7 := hdep 2 rfl rfl 7 rfl
    exact dp_v (v := (Sl a8 xs6 c9)) wn (rv_slice_h Try.underlying23 ti43 hs10 e6 e7) rfl hJ) ?_
  refine all_cons (by
    refine ⟨?_, ?_⟩
    ·rintro ⟨a15, c16⟩ ρ σm hJ hoff hdep
     have e8 : look 16 ρ 8 = (Sl a8 xs6 c9) := hdep 3 rfl rfl 8 rfl
     obtain ⟨H, m⟩ := id hJ
     refine dp_cx wn (cx_call hc14 (ent_f hc14.fn (by show [look 16 ρ 8] = _; rw [e8])) hn0 (show Hp S0 σ0 _ ([Ch.ro 0 (Sl a8 xs6 c9) xs6] ++ [Ch.ro 0 (Sl a21 xs19 c22) xs19, Ch.ro 0 (Sl a8 xs6 c9) xs6, Ch.bx n0 b3 0 [(.slice none 0 0), (.slice none 0 0)] [] [], Ch.bx n0 b1 0 [(Sl ah_0_0 h_0.1 ch_0_0), (Sl ah_0_1 h_0.2 ch_0_1)] [] [], Ch.ro 0 (Sl ah_0_0 h_0.1 ch_0_0) h_0.1, Ch.ro 0 (Sl ah_0_1 h_0.2 ch_0_1) h_0.2]) from (H.sel' [1, 0, 1, 2, 3, 4, 5] rfl rfl))) ?_
     rintro _ σq ⟨_, ⟨a15x, c16x, rfl, rfl, ht17⟩, H2, m2⟩
     exact ⟨_, (a15x, c16x), rfl, rfl, ⟨H2.sel' [0, 1, 2, 3, 4, 5, 6] rfl rfl, m.comp0 (m2.mono (fun i h => by simp [cov, Ch.ro] at h)), ht17⟩, stab [0, 1, 2, 3, 5, 6, 7, 8] (by kernel_rfl) ⟨rfl, rfl, rfl, rfl, rfl, rfl, rfl, rfl, trivial⟩⟩
    trivial) ?_
  refine ac rfl (by
    intro k; rintro ⟨a15, c16⟩ ρ σm hJ hoff hdep
    have e2 := look_off (N := 16) (hoff 2 rfl) rfl
    exact dp_v (v := (pt b1 1)) wn (rv_fieldAddr (off := 1) (ft := 24) Try.underlying26 rfl ti24 rfl e2) rfl hJ) ?_
  refine all_cons (by
    refine ⟨?_, ?_⟩
    ·rintro ⟨a15, c16⟩ ρ σm hJ hoff hdep
     have e10 := hdep 5 rfl rfl 10 rfl
     obtain ⟨H, m⟩ := id hJ
     have hc18 := H.cell (u := (Sl ah_0_1 h_0.2 ch_0_1)) (o' := 1) 3 1 rfl rfl rfl
     exact dp_v (v := (Sl ah_0_1 h_0.2 ch_0_1)) wn (rv_load1 Try.underlying24 rfl e10 hc18) rfl hJ
    refine ⟨?_, ?_⟩
    ·rintro ⟨a15, c16⟩ ρ σm hJ hoff hdep
     have e10 := hdep 5 rfl rfl 10 rfl
     obtain ⟨H, m, ht17⟩ := id hJ
     have hc18 := H.cell (u := (Sl ah_0_1 h_0.2 ch_0_1)) (o' := 1) 4 1 rfl rfl rfl
     exact dp_v (v := (Sl ah_0_1 h_0.2 ch_0_1)) wn (rv_load1 Try.underlying24 rfl e10 hc18) rfl hJ
    trivial) ?_
  refine ac rfl (by
    intro k; rintro ⟨a15, c16⟩ ρ σm hJ hoff hdep
    have e1 := look_off (N := 16) (hoff 1 rfl) rfl
    exact dp_v (v := (I many_1)) wn (rv_move e1) rfl hJ) ?_
  refine ac rfl (by
    intro k; rintro ⟨a15, c16⟩ ρ σm hJ hoff hdep
    have e11 := hdep 6 rfl rfl 11 rfl
    have e12 := hdep 7 rfl rfl 12 rfl
    exact dp_v (v := (Sl a21 xs19 c22)) wn (rv_slice_h Try.underlying24 ti3 hs23 e11 e12) rfl hJ) ?_
  exact all_nil
 ·rintro ⟨a15, c16⟩ ρ σ25 hJ hoff hrel
  have e4 := look_off (N := 16) (hoff 4 rfl) rfl
  have e9 := hrel 4 rfl 9 rfl
  have e13 := hrel 8 rfl 13 rfl
  obtain ⟨H, -, ht17⟩ := (show Hp S0 σ0 σ25 [Ch.own n0 n0 (Sl a15 r12 c16) r12, Ch.ro 0 (Sl a21 xs19 c22) xs19, Ch.ro 0 (Sl a8 xs6 c9) xs6, Ch.bx n0 b3 0 [(.slice none 0 0), (.slice none 0 0)] [] [], Ch.bx n0 b1 0 [(Sl ah_0_0 h_0.1 ch_0_0), (Sl ah_0_1 h_0.2 ch_0_1)] [] [], Ch.ro 0 (Sl ah_0_0 h_0.1 ch_0_0) h_0.1, Ch.ro 0 (Sl ah_0_1 h_0.2 ch_0_1) h_0.2] ∧ Md (cov []) σ4 σ25 ∧ c16 = r12.length from hJ)
  clear hJ Hs
  rw [fr_lookL (L := [(4, (pt b3 0)), (9, (Sl a15 r12 c16)), (13, (Sl a21 xs19 c22))]) ⟨e4, e9, e13, trivial⟩]
  clear hoff hrel e4 e9 e13
  obtain ⟨r26, hx27, h'⟩ := bind_some h
  clear h
  have h := h'; clear h'
  have hc28 := c_slices_Clone_int_int (as_0 := a21) (cs_0 := c22) hx27
  refine st_call (cx_call hc28 (ent_f hc28.fn rfl) hn0 (show Hp S0 σ0 _ ([Ch.ro 0 (Sl a21 xs19 c22) xs19] ++ [Ch.own n0 n0 (Sl a15 r12 c16) r12, Ch.ro 0 (Sl a21 xs19 c22) xs19, Ch.ro 0 (Sl a8 xs6 c9) xs6, Ch.bx n0 b3 0 [(.slice none 0 0), (.slice none 0 0)] [] [], Ch.bx n0 b1 0 [(Sl ah_0_0 h_0.1 ch_0_0), (Sl ah_0_1 h_0.2 ch_0_1)] [] [], Ch.ro 0 (Sl ah_0_0 h_0.1 ch_0_0) h_0.1, Ch.ro 0 (Sl ah_0_1 h_0.2 ch_0_1) h_0.2]) from (H.sel' [1, 0, 1, 2, 3, 4, 5, 6] rfl rfl))) wn ?_
  rintro _ σ31 ⟨_, ⟨a29, c30, rfl, rfl⟩, H, -⟩
  replace H : Hp S0 σ0 σ31 [Ch.own n0 n0 (Sl a29 r26 c30) r26, Ch.own n0 n0 (Sl a15 r12 c16) r12, Ch.ro 0 (Sl a21 xs19 c22) xs19, Ch.ro 0 (Sl a8 xs6 c9) xs6, Ch.bx n0 b3 0 [(.slice none 0 0), (.slice none 0 0)] [] [], Ch.bx n0 b1 0 [(Sl ah_0_0 h_0.1 ch_0_0), (Sl ah_0_1 h_0.2 ch_0_1)] [] [], Ch.ro 0 (Sl ah_0_0 h_0.1 ch_0_0) h_0.1, Ch.ro 0 (Sl ah_0_1 h_0.2 ch_0_1) h_0.2] := H
  replace H : Hp S0 σ0 σ31 [Ch.own n0 n0 (Sl a29 r26 c30) r26, Ch.own n0 n0 (Sl a15 r12 c16) r12, Ch.bx n0 b3 0 [(.slice none 0 0), (.slice none 0 0)] [] []] := H.sel' [0, 1, 4] rfl rfl
  refine st (v := (.agg #[(Sl a15 r12 c16), (Sl a29 r26 c30)])) (rv_build (ps := [(0, (Sl a15 r12 c16)), (1, (Sl a29 r26 c30))]) Try.underlying26 ti26 (bp26 Try.underlying26) rfl (by kernel_rfl)) ?_
  refine st_exS (ex_store_box (k := 0) (cs := [(.slice none 0 0), (.slice none 0 0)]) (vs := [(Sl a15 r12 c16), (Sl a29 r26 c30)]) (cs' := [(Sl a15 r12 c16), (Sl a29 r26 c30)]) H (i := 2) rfl ti26 rfl rfl rfl rfl rfl (Nat.le_of_ble_eq_true rfl) (by simp [plain]) rfl) wn ?_
  rintro σ32 ⟨H, -⟩
  refine w_end ?_
  refine q_then ?_
  refine c_ret ?_
  obtain rfl := Option.some.inj h
  exact fin_ret (v := (.agg #[(Sl a15 r12 c16), (Sl a29 r26 c30)])) (results_ok Try.results59 (res_cell rfl (run_cellRes (cs := [(Sl a15 r12 c16), (Sl a29 r26 c30)]) Try.underlying26 rfl ti26 rfl (H.cells 0 rfl)) res_nil) rfl) ⟨a15, c16, a29, c30, rfl, rfl, ht17⟩ (H.sel' [2, 1] rfl rfl)

end Go.Vs
