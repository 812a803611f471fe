/- The functions compute what their models say. -/
import Derived.Test.YtpccmkphddipdaaKShortLogC2
set_option linter.unusedVariables false
set_option linter.unusedSimpArgs false
set_option maxRecDepth 20000
namespace Go.Vs
open Go Go.Proofs
attribute [local irreducible] Code.wp Code.wpIn wpList wpListIn wpQuiet Calls CallsIn

theorem c_spec_ShortLog {log_0 : List (Int × (Int × (List Int) × Int))} {alog_0 : Option Addr} {clog_0 : Nat} {r : (List (Int × (Int × (List Int) × Int)))} (h : M.spec_ShortLog log_0 = some r) :
    Cal2 Try.prog 28 [(Sl alog_0 log_0 clog_0)] [Ch.ro 0 (Sl alog_0 log_0 clog_0) log_0] (fun n0 v L => ∃ (az1 : Option Addr), ∃ (cz2 : Nat), v = (Sl az1 r cz2) ∧ L = [Ch.own n0 n0 (Sl az1 r cz2) r]) := by
 refine cal2 (n := 52) Try.func28 rfl rfl rfl rfl ?_
 intro S0 σ0 n0 hn0 H
 unfold M.spec_ShortLog at h
 refine c_seq ?_
 refine rg ?_
 refine st (v := (.slice none 0 0)) (rv_assign rfl) ?_
 refine w_end ?_
 refine q_then ?_
 refine c_seq ?_
 refine rg ?_
 refine st_ex (ex_buildSlice (el := n0) (xs := ([] : List (Int × (Int × (List Int) × Int)))) (ps := []) (cs := []) H hn0 Try.underlying23 ti38 rfl rfl (by kernel_rfl) (.nil) rfl) wn ?_
 rintro _ σ2 ⟨b1, rfl, H, -⟩
 refine st (v := (Sl (some ⟨b1, 0, none⟩) ([] : List (Int × (Int × (List Int) × Int))) 0)) (rv_assign rfl) ?_
 refine w_end ?_
 refine q_then ?_
 refine c_seq ?_
 refine c_seq ?_
 refine rg ?_
 refine st (v := (Sl alog_0 log_0 clog_0)) (rv_move rfl) ?_
 obtain ⟨r3, hx4, h'⟩ := bind_some h
 clear h
 have h := h'; clear h'
 have hc5 := c_spec_validLog (alist_0 := alog_0) (clist_0 := clog_0) hx4
 refine st_call (cx_call hc5 (ent_f hc5.fn rfl) hn0 (show Hp S0 σ0 _ ([Ch.ro 0 (Sl alog_0 log_0 clog_0) log_0] ++ [Ch.own n0 n0 (Sl (some ⟨b1, 0, none⟩) ([] : List (Int × (Int × (List Int) × Int))) 0) ([] : List (Int × (Int × (List Int) × Int))), Ch.ro 0 (Sl alog_0 log_0 clog_0) log_0]) from (H.sel' [1, 0, 1] rfl rfl))) wn ?_
 rintro _ σ6 ⟨_, ⟨rfl, rfl⟩, H, -⟩
 replace H : Hp S0 σ0 σ6 [Ch.own n0 n0 (Sl (some ⟨b1, 0, none⟩) ([] : List (Int × (Int × (List Int) × Int))) 0) ([] : List (Int × (Int × (List Int) × Int))), Ch.ro 0 (Sl alog_0 log_0 clog_0) log_0] := H
 refine st (v := (B (!r3))) (rv_not rfl) ?_
 refine w_end ?_
 refine q_then ?_
 refine cd_cond (!r3) rfl (fun hb7 => ?_) (fun hb7 => ?_)
 ·replace h := bif_t hb7 h
  refine c_seq ?_
  refine rg ?_
  refine st (v := (.slice none 0 0)) (rv_assign rfl) ?_
  refine w_end ?_
  refine q_then ?_
  refine c_ret ?_
  refine q_then_r ?_
  replace H := H.nilOwn (Int × (Int × (List Int) × Int)) n0 n0
  obtain rfl := Option.some.inj h
  exact fin_ret (v := (.slice none 0 0)) (results_ok Try.results28 (res_tmp (v := (.slice none 0 0)) rfl res_nil) rfl) ⟨none, 0, rfl, rfl⟩ (H.sel' [0] rfl rfl)
 ·replace h := bif_f hb7 h
  refine c_skip ?_
  refine q_then ?_
  refine c_seq ?_
  refine c_seq ?_
  refine rg ?_
  refine st (v := (I 0)) (rv_assign rfl) ?_
  refine w_end ?_
  refine q_then ?_
  obtain ⟨o8, hj, h'⟩ := bind_some h
  clear h
  refine c_cut (fun e a w => e = .normal ∧ ∃ (ρ : Nat → Value) (σ : St) (aj1 : Option Addr) (cj2 : Nat), a = fr 52 (updL ρ [(3, (Sl aj1 o8 cj2))]) ∧ w = σ.w ∧ Hp S0 σ0 σ [Ch.own n0 n0 (Sl aj1 o8 cj2) o8]) ?_ ?_
  ·clear h'
   rename _ = some o8 => h
   refine c_blk ?_
   refine wp_loopM _ h (fun s9 a w => ∃ (ρ : Nat → Value) (σ : St) (aj1 : Option Addr) (cj2 : Nat), a = fr 52 (updL ρ [(0, (Sl alog_0 log_0 clog_0)), (3, (Sl aj1 s9.1 cj2)), (4, (I s9.2))]) ∧ w = σ.w ∧ Hp S0 σ0 σ [Ch.ro 0 (Sl alog_0 log_0 clog_0) log_0, Ch.own n0 n0 (Sl aj1 s9.1 cj2) s9.1]) ⟨_, σ6, (some ⟨b1, 0, none⟩), 0, fr_join ⟨rfl, rfl, rfl, trivial⟩, rfl, H.sel' [1, 0] rfl rfl⟩ ?_
   clear h H
   rintro s9 a w o ⟨ρ, σ10, a11, c12, rfl, rfl, H⟩ h hres
   refine c_seq ?_
   refine c_seq ?_
   refine rg ?_
   refine st (v := (I s9.2)) (rv_move rfl) ?_
   refine st (v := (Sl alog_0 log_0 clog_0)) (rv_move rfl) ?_
   refine st (v := (I (log_0.length : Int))) (rv_len Try.underlying23 rfl) ?_
   refine st (v := (B (decide (s9.2 < (log_0.length : Int))))) (rv_lss (a := s9.2) (b := (log_0.length : Int)) rfl rfl) ?_
   refine w_end ?_
   refine q_then ?_
   refine cd_cond (decide (s9.2 < (log_0.length : Int))) rfl (fun hb13 => ?_) (fun hb13 => ?_)
   ·replace h := bif_t hb13 h
    refine c_skip ?_
    refine q_then ?_
    refine c_seq ?_
    obtain ⟨o14, hj, h'⟩ := bind_some h
    clear h
    refine c_cut (fun e a w => e = .normal ∧ ∃ (ρ : Nat → Value) (σ : St) (aj1 : Option Addr) (cj2 : Nat), a = fr 52 (updL ρ [(0, (Sl alog_0 log_0 clog_0)), (3, (Sl aj1 o14 cj2)), (4, (I s9.2))]) ∧ w = σ.w ∧ Hp S0 σ0 σ [Ch.ro 0 (Sl alog_0 log_0 clog_0) log_0, Ch.own n0 n0 (Sl aj1 o14 cj2) o14]) ?_ ?_
    ·clear h'
     rename _ = some o14 => h
     refine c_blk ?_
     refine c_seq ?_
     refine rg ?_
     refine st (v := (B false)) (rv_assign rfl) ?_
     refine w_end ?_
     refine q_then ?_
     refine c_seq ?_
     refine c_seq ?_
     refine rg ?_
     refine st (v := (I s9.2)) (rv_move rfl) ?_
     refine st (v := (I (w64 (s9.2 + 1)))) (rv_add (a := s9.2) (b := 1) rfl rfl) ?_
     refine st (v := (I (w64 (s9.2 + 1)))) (rv_assign rfl) ?_
     refine w_end ?_
     refine q_then ?_
     obtain ⟨o15, hj, h'⟩ := bind_some h
     clear h
     refine c_cut (fun e a w => e = .normal ∧ ∃ (ρ : Nat → Value) (σ : St), a = fr 52 (updL ρ [(0, (Sl alog_0 log_0 clog_0)), (3, (Sl a11 s9.1 c12)), (4, (I s9.2)), (5, (B o15))]) ∧ w = σ.w ∧ Hp S0 σ0 σ [Ch.ro 0 (Sl alog_0 log_0 clog_0) log_0, Ch.own n0 n0 (Sl a11 s9.1 c12) s9.1]) ?_ ?_
     ·clear h'
      rename _ = some o15 => h
      refine c_blk ?_
      refine wp_loopM _ h (fun s16 a w => ∃ (ρ : Nat → Value) (σ : St), a = fr 52 (updL ρ [(0, (Sl alog_0 log_0 clog_0)), (3, (Sl a11 s9.1 c12)), (4, (I s9.2)), (5, (B s16.1)), (6, (I s16.2))]) ∧ w = σ.w ∧ Hp S0 σ0 σ [Ch.ro 0 (Sl alog_0 log_0 clog_0) log_0, Ch.own n0 n0 (Sl a11 s9.1 c12) s9.1]) ⟨_, σ10, fr_join ⟨rfl, rfl, rfl, rfl, rfl, trivial⟩, rfl, H.sel' [0, 1] rfl rfl⟩ ?_
      clear h H
      rintro s16 a w o ⟨ρ, σ17, rfl, rfl, H⟩ h hres
      refine c_seq ?_
      refine c_seq ?_
      refine rg ?_
      refine st (v := (I s16.2)) (rv_move rfl) ?_
      refine st (v := (Sl alog_0 log_0 clog_0)) (rv_move rfl) ?_
      refine st (v := (I (log_0.length : Int))) (rv_len Try.underlying23 rfl) ?_
      refine st (v := (B (decide (s16.2 < (log_0.length : Int))))) (rv_lss (a := s16.2) (b := (log_0.length : Int)) rfl rfl) ?_
      refine w_end ?_
      refine q_then ?_
      refine cd_cond (decide (s16.2 < (log_0.length : Int))) rfl (fun hb18 => ?_) (fun hb18 => ?_)
      ·replace h := bif_t hb18 h
       refine c_skip ?_
       refine q_then ?_
       refine c_seq ?_
       refine c_blk ?_
       obtain ⟨o19, hj, h'⟩ := bind_some h
       clear h
       refine c_cut (fun e a w => e = .normal ∧ ∃ (ρ : Nat → Value) (σ : St), a = fr 52 (updL ρ [(0, (Sl alog_0 log_0 clog_0)), (3, (Sl a11 s9.1 c12)), (4, (I s9.2)), (5, (B o19)), (6, (I s16.2))]) ∧ w = σ.w ∧ Hp S0 σ0 σ [Ch.ro 0 (Sl alog_0 log_0 clog_0) log_0, Ch.own n0 n0 (Sl a11 s9.1 c12) s9.1]) ?_ ?_
       ·clear h'
        rename _ = some o19 => h
        refine rgP (σ := σ17) 14 (by kernel_rfl) (by kernel_rfl) (by kernel_rfl) ?_
        refine sq (v := (B s16.1)) (rv_move rfl) ?_
        refine sq (v := (B s16.1)) (rv_move rfl) ?_
        rcases Bool.eq_false_or_eq_true s16.1 with hb20 | hb20
        ·replace h := bif_t hb20 h
         refine sq_skip (congrArg some hb20) ?_
         refine sq_skip (congrArg some hb20) ?_
         refine sq_skip (congrArg some hb20) ?_
         refine sq_skip (congrArg some hb20) ?_
         refine sq_skip (congrArg some hb20) ?_
         refine sq_skip (congrArg some hb20) ?_
         refine sq_skip (congrArg some hb20) ?_
         refine sq_skip (congrArg some hb20) ?_
         refine sq_skip (congrArg some hb20) ?_
         refine sq_skip (congrArg some hb20) ?_
         refine sq_skip (congrArg some hb20) ?_
         refine sq_skip (congrArg some hb20) ?_
         refine sq_end ?_
         intro σ21 hm22
         replace H := H.grow (hm22.mono fun _ h => h); clear hm22
         refine st_skip (congrArg some hb20) ?_
         refine st (v := (B true)) (rv_pick_t (congrArg B hb20) rfl) ?_
         refine st (v := (B true)) (rv_assign rfl) ?_
         refine w_end ?_
         obtain rfl := Option.some.inj h
         exact ⟨rfl, _, σ21, fr_join ⟨rfl, rfl, rfl, rfl, rfl, trivial⟩, rfl, H.sel' [0, 1] rfl rfl⟩
        ·replace h := bif_f hb20 h
         refine sq_g (v := (Sl alog_0 log_0 clog_0)) (congrArg some hb20) (rv_move rfl) ?_
         refine sq_g (v := (I s16.2)) (congrArg some hb20) (rv_move rfl) ?_
         obtain ⟨x23, hx24, h'⟩ := bind_some h
         clear h
         have h := h'; clear h'
         obtain ⟨b26, o27, hi25, -⟩ := (H.ro 0 rfl).ix hx24
         refine sq_g (v := (pt b26 o27)) (congrArg some hb20) (rv_ix Try.underlying23 ti38 rfl rfl hi25) ?_
         refine sq_g (v := (pt b26 (o27 + 1))) (congrArg some hb20) (rv_fieldAddr (off := 1) (ft := 36) Try.underlying38 rfl ti36 rfl rfl) ?_
         refine sq_g (v := (pt b26 (o27 + 1))) (congrArg some hb20) (rv_fieldAddr (off := 0) (ft := 3) Try.underlying36 rfl ti3 rfl rfl) ?_
         have hc28 := ((H.ro 0 rfl).at hx24 hi25).snd.fst.int
         refine sq_g (v := (I x23.2.1)) (congrArg some hb20) (rv_load1 Try.underlying3 rfl rfl hc28) ?_
         refine sq_g (v := (Sl alog_0 log_0 clog_0)) (congrArg some hb20) (rv_move rfl) ?_
         refine sq_g (v := (I s9.2)) (congrArg some hb20) (rv_move rfl) ?_
         obtain ⟨x29, hx30, h'⟩ := bind_some h
         clear h
         have h := h'; clear h'
         obtain ⟨b32, o33, hi31, -⟩ := (H.ro 0 rfl).ix hx30
         refine sq_g (v := (pt b32 o33)) (congrArg some hb20) (rv_ix Try.underlying23 ti38 rfl rfl hi31) ?_
         refine sq_g (v := (pt b32 (o33 + 1))) (congrArg some hb20) (rv_fieldAddr (off := 1) (ft := 36) Try.underlying38 rfl ti36 rfl rfl) ?_
         refine sq_g (v := (pt b32 (o33 + 1))) (congrArg some hb20) (rv_fieldAddr (off := 0) (ft := 3) Try.underlying36 rfl ti3 rfl rfl) ?_
         have hc34 := ((H.ro 0 rfl).at hx30 hi31).snd.fst.int
         refine sq_g (v := (I x29.2.1)) (congrArg some hb20) (rv_load1 Try.underlying3 rfl rfl hc34) ?_
         refine sq_end ?_
         intro σ35 hm36
         replace H := H.grow (hm36.mono fun _ h => h); clear hm36
         refine st_g (v := (B (x23.2.1 == x29.2.1))) (congrArg some hb20) (rv_eql (a := x23.2.1) (b := x29.2.1) rfl rfl) ?_
         refine st (v := (B (x23.2.1 == x29.2.1))) (rv_pick_f (congrArg B hb20) rfl) ?_
         refine st (v := (B (x23.2.1 == x29.2.1))) (rv_assign rfl) ?_
         refine w_end ?_
         obtain rfl := Option.some.inj h
         exact ⟨rfl, _, σ35, fr_join ⟨rfl, rfl, rfl, rfl, rfl, trivial⟩, rfl, H.sel' [0, 1] rfl rfl⟩
       ·clear hj
        have h := h'
        clear h' H
        rintro e a w ⟨rfl, ρ, σ37, rfl, rfl, H⟩
        refine q_blk ?_
        refine q_then ?_
        refine rg ?_
        refine st (v := (I s16.2)) (rv_move rfl) ?_
        refine st (v := (I (w64 (s16.2 + 1)))) (rv_add (a := s16.2) (b := 1) rfl rfl) ?_
        refine st (v := (I (w64 (s16.2 + 1)))) (rv_assign rfl) ?_
        refine w_end ?_
        refine q_then ?_
        obtain rfl := Option.some.inj h
        exact ⟨_, rfl, _, σ37, fr_join ⟨rfl, rfl, rfl, rfl, rfl, trivial⟩, rfl, H.sel' [0, 1] rfl rfl⟩
      ·replace h := bif_f hb18 h
       refine c_exit ?_
       refine q_then_x ?_
       refine q_then_x ?_
       refine q_blk_hit ?_
       obtain rfl := Option.some.inj h
       obtain rfl := hres _ rfl
       exact ⟨rfl, _, σ17, fr_join ⟨rfl, rfl, rfl, rfl, trivial⟩, rfl, H.sel' [0, 1] rfl rfl⟩
     ·clear hj
      have h := h'
      clear h' H
      rintro e a w ⟨rfl, ρ, σ38, rfl, rfl, H⟩
      refine q_then ?_
      refine c_seq ?_
      refine rg ?_
      refine st (v := (B o15)) (rv_move rfl) ?_
      refine st (v := (B (!o15))) (rv_not rfl) ?_
      refine w_end ?_
      refine q_then ?_
      refine cd_cond (!o15) rfl (fun hb39 => ?_) (fun hb39 => ?_)
      ·replace h := bif_t hb39 h
       refine rg ?_
       refine st (v := (Sl a11 s9.1 c12)) (rv_move rfl) ?_
       refine st (v := (Sl alog_0 log_0 clog_0)) (rv_move rfl) ?_
       refine st (v := (I s9.2)) (rv_move rfl) ?_
       obtain ⟨x40, hx41, h'⟩ := bind_some h
       clear h
       have h := h'; clear h'
       obtain ⟨b43, o44, hi42, -⟩ := (H.ro 0 rfl).ix hx41
       refine st (v := (pt b43 o44)) (rv_ix Try.underlying23 ti38 rfl rfl hi42) ?_
       obtain ⟨_, ⟨_, _, rfl, rfl, ⟨_, _, rfl, rfl, ⟨_, _, rfl, ⟨_, rfl, hR49⟩, rfl⟩⟩⟩, hl45, hc46⟩ := ((H.ro 0 rfl).at hx41 hi42).cells
       obtain ⟨a47, c48, rfl⟩ := hR49.isSl
       replace H := H.add (d := Ch.ro 0 (Sl a47 x40.2.2.1 c48) x40.2.2.1) hR49 (fun _ h => h)
       clear hR49
       refine st (v := (.agg #[(I x40.1), (I x40.2.1), (Sl a47 x40.2.2.1 c48), (I x40.2.2.2)])) (rv_load Try.underlying38 rfl ti38 rfl hl45 hc46) ?_
       obtain ⟨r50, hx51, h'⟩ := bind_some h
       clear h
       have h := h'; clear h'
       have hc52 := c_spec_copyEntry (ae_0_1_1 := a47) (ce_0_1_1 := c48) hx51
       refine st_call (cx_call hc52 (ent_f hc52.fn rfl) hn0 (show Hp S0 σ0 _ ([Ch.ro 0 (Sl a47 x40.2.2.1 c48) x40.2.2.1] ++ [Ch.ro 0 (Sl a47 x40.2.2.1 c48) x40.2.2.1, Ch.ro 0 (Sl alog_0 log_0 clog_0) log_0, Ch.own n0 n0 (Sl a11 s9.1 c12) s9.1]) from (H.sel' [0, 0, 1, 2] rfl rfl))) wn ?_
       rintro _ σ55 ⟨_, ⟨a53, c54, rfl, rfl⟩, H, -⟩
       replace H : Hp S0 σ0 σ55 [Ch.own n0 n0 (Sl a53 r50.2.2.1 c54) r50.2.2.1, Ch.ro 0 (Sl a47 x40.2.2.1 c48) x40.2.2.1, Ch.ro 0 (Sl alog_0 log_0 clog_0) log_0, Ch.own n0 n0 (Sl a11 s9.1 c12) s9.1] := H
       obtain ⟨σ56, hw57, H, -⟩ := H.pub 0 rfl (Nat.le_refl _)
       rw [← hw57]; clear hw57
       refine st_ex (ex_buildSlice (el := n0) (xs := ([(r50.1, (r50.2.1, r50.2.2.1, r50.2.2.2))] : List (Int × (Int × (List Int) × Int)))) (ps := [(0, (.agg #[(I r50.1), (I r50.2.1), (Sl a53 r50.2.2.1 c54), (I r50.2.2.2)]))]) (cs := [(I r50.1), (I r50.2.1), (Sl a53 r50.2.2.1 c54), (I r50.2.2.2)]) H hn0 Try.underlying23 ti38 rfl rfl (by kernel_rfl) (.cons (c := [(I r50.1), (I r50.2.1), (Sl a53 r50.2.2.1 c54), (I r50.2.2.2)]) ⟨[(I r50.1)], [(I r50.2.1), (Sl a53 r50.2.2.1 c54), (I r50.2.2.2)], rfl, rfl, ⟨[(I r50.2.1)], [(Sl a53 r50.2.2.1 c54), (I r50.2.2.2)], rfl, rfl, ⟨[(Sl a53 r50.2.2.1 c54)], [(I r50.2.2.2)], rfl, ⟨_, rfl, (H.ro 0 rfl)⟩, rfl⟩⟩⟩ (.nil)) rfl) wn ?_
       rintro _ σ59 ⟨b58, rfl, H, -⟩
       obtain ⟨xs60, hx61, h'⟩ := bind_some h
       clear h
       have h := h'; clear h'
       refine st_ex (ex_append H (i := 4) rfl Try.underlying23 Try.underlying23 ti38 rfl rfl (by decide) (H.own 0 rfl).rd hx61 hn0 rfl rfl) wn ?_
       rintro _ σ64 ⟨a62, c63, rfl, H, -⟩
       refine st (v := (Sl a62 xs60 c63)) (rv_assign rfl) ?_
       refine w_end ?_
       refine q_blk ?_
       obtain rfl := Option.some.inj h
       exact ⟨rfl, _, σ64, a62, c63, fr_join ⟨rfl, rfl, rfl, trivial⟩, rfl, H.sel' [4, 0] rfl rfl⟩
      ·replace h := bif_f hb39 h
       refine c_skip ?_
       refine q_blk ?_
       obtain rfl := Option.some.inj h
       exact ⟨rfl, _, σ38, a11, c12, fr_join ⟨rfl, rfl, rfl, trivial⟩, rfl, H.sel' [0, 1] rfl rfl⟩
    ·clear hj
     have h := h'
     clear h' H
     rintro e a w ⟨rfl, ρ, σ65, a66, c67, rfl, rfl, H⟩
     refine q_then ?_
     refine rg ?_
     refine st (v := (I s9.2)) (rv_move rfl) ?_
     refine st (v := (I (w64 (s9.2 + 1)))) (rv_add (a := s9.2) (b := 1) rfl rfl) ?_
     refine st (v := (I (w64 (s9.2 + 1)))) (rv_assign rfl) ?_
     refine w_end ?_
     refine q_then ?_
     obtain rfl := Option.some.inj h
     exact ⟨_, rfl, _, σ65, a66, c67, fr_join ⟨rfl, rfl, rfl, trivial⟩, rfl, H.sel' [0, 1] rfl rfl⟩
   ·replace h := bif_f hb13 h
    refine c_exit ?_
    refine q_then_x ?_
    refine q_then_x ?_
    refine q_blk_hit ?_
    obtain rfl := Option.some.inj h
    obtain rfl := hres _ rfl
    exact ⟨rfl, _, σ10, a11, c12, fr_join ⟨rfl, trivial⟩, rfl, H.sel' [1] rfl rfl⟩
  ·clear hj
   have h := h'
   clear h' H
   rintro e a w ⟨rfl, ρ, σ68, a69, c70, rfl, rfl, H⟩
   refine q_then ?_
   refine c_seq ?_
   refine rg ?_
   refine st (v := (Sl a69 o8 c70)) (rv_move rfl) ?_
   refine st (v := (Sl a69 o8 c70)) (rv_assign rfl) ?_
   refine w_end ?_
   refine q_then ?_
   refine c_ret ?_
   obtain rfl := Option.some.inj h
   exact fin_ret (v := (Sl a69 o8 c70)) (results_ok Try.results28 (res_tmp (v := (Sl a69 o8 c70)) rfl res_nil) rfl) ⟨a69, c70, rfl, rfl⟩ (H.sel' [0] rfl rfl)

theorem c_laws_isIn {list_0 : List Int} {n_1 : Int} {alist_0 : Option Addr} {clist_0 : Nat} {r : Bool} (h : M.laws_isIn list_0 n_1 = some r) :
    Cal2 Try.prog 29 [(Sl alist_0 list_0 clist_0), (I n_1)] [Ch.ro 0 (Sl alist_0 list_0 clist_0) list_0] (fun n0 v L => v = (B r) ∧ L = []) := by
 refine cal2 (n := 18) Try.func29 rfl rfl rfl rfl ?_
 intro S0 σ0 n0 hn0 H
 unfold M.laws_isIn at h
 refine c_seq ?_
 refine rg ?_
 refine st (v := (B false)) (rv_assign rfl) ?_
 refine w_end ?_
 refine q_then ?_
 refine c_seq ?_
 refine c_seq ?_
 refine rg ?_
 refine st (v := (I 0)) (rv_assign rfl) ?_
 refine w_end ?_
 refine q_then ?_
 obtain ⟨o1, hj, h'⟩ := bind_some h
 clear h
 refine c_cut (fun e a w => (∃ t, o1 = (.inl t) ∧ e = .normal ∧ ∃ (ρ : Nat → Value) (σ : St), a = fr 18 (updL ρ []) ∧ w = σ.w ∧ Hp S0 σ0 σ []) ∨ (∃ t, o1 = (.inr t) ∧ e = .ret ∧ ∃ (ρ : Nat → Value) (σ : St), a = fr 18 (updL ρ [(4, (B t))]) ∧ w = σ.w ∧ Hp S0 σ0 σ [])) ?_ ?_
 ·clear h'
  rename _ = some o1 => h
  refine c_blk ?_
  refine wp_loopM _ h (fun s2 a w => ∃ (ρ : Nat → Value) (σ : St), a = fr 18 (updL ρ [(0, (Sl alist_0 list_0 clist_0)), (1, (I n_1)), (5, (I s2))]) ∧ w = σ.w ∧ Hp S0 σ0 σ [Ch.ro 0 (Sl alist_0 list_0 clist_0) list_0]) ⟨_, σ0, fr_join ⟨rfl, rfl, rfl, trivial⟩, rfl, H.sel' [0] rfl rfl⟩ ?_
  clear h H
  rintro s2 a w o ⟨ρ, σ3, rfl, rfl, H⟩ h hres
  refine c_seq ?_
  refine c_seq ?_
  refine rg ?_
  refine st (v := (I s2)) (rv_move rfl) ?_
  refine st (v := (Sl alist_0 list_0 clist_0)) (rv_move rfl) ?_
  refine st (v := (I (list_0.length : Int))) (rv_len Try.underlying34 rfl) ?_
  refine st (v := (B (decide (s2 < (list_0.length : Int))))) (rv_lss (a := s2) (b := (list_0.length : Int)) rfl rfl) ?_
  refine w_end ?_
  refine q_then ?_
  refine cd_cond (decide (s2 < (list_0.length : Int))) rfl (fun hb4 => ?_) (fun hb4 => ?_)
  ·replace h := bif_t hb4 h
   refine c_skip ?_
   refine q_then ?_
   refine c_seq ?_
   refine c_blk ?_
   refine c_seq ?_
   refine rg ?_
   refine st (v := (Sl alist_0 list_0 clist_0)) (rv_move rfl) ?_
   refine st (v := (I s2)) (rv_move rfl) ?_
   obtain ⟨x5, hx6, h'⟩ := bind_some h
   clear h
   have h := h'; clear h'
   obtain ⟨b8, o9, hi7, -⟩ := (H.ro 0 rfl).ix hx6
   refine st (v := (pt b8 o9)) (rv_ix Try.underlying34 ti3 rfl rfl hi7) ?_
   have hc10 := ((H.ro 0 rfl).at hx6 hi7).int
   refine st (v := (I x5)) (rv_load1 Try.underlying3 rfl rfl hc10) ?_
   refine st (v := (I n_1)) (rv_move rfl) ?_
   refine st (v := (B (x5 == n_1))) (rv_eql (a := x5) (b := n_1) rfl rfl) ?_
   refine w_end ?_
   refine q_then ?_
   refine cd_cond (x5 == n_1) rfl (fun hb11 => ?_) (fun hb11 => ?_)
   ·replace h := bif_t hb11 h
    refine c_seq ?_
    refine rg ?_
    refine st (v := (B true)) (rv_assign rfl) ?_
    refine w_end ?_
    refine q_then ?_
    refine c_ret ?_
    refine q_blk_r ?_
    refine q_then_r ?_
    refine q_then_r ?_
    refine q_blk_r ?_
    obtain rfl := Option.some.inj h
    obtain rfl := hres _ rfl
    exact .inr (⟨_, rfl, rfl, _, σ3, fr_join ⟨rfl, trivial⟩, rfl, H.sel' [] rfl rfl⟩)
   ·replace h := bif_f hb11 h
    refine c_skip ?_
    refine q_blk ?_
    refine q_then ?_
    refine rg ?_
    refine st (v := (I s2)) (rv_move rfl) ?_
    refine st (v := (I (w64 (s2 + 1)))) (rv_add (a := s2) (b := 1) rfl rfl) ?_
    refine st (v := (I (w64 (s2 + 1)))) (rv_assign rfl) ?_
    refine w_end ?_
    refine q_then ?_
    obtain rfl := Option.some.inj h
    exact ⟨_, rfl, _, σ3, fr_join ⟨rfl, rfl, rfl, trivial⟩, rfl, H.sel' [0] rfl rfl⟩
  ·replace h := bif_f hb4 h
   refine c_exit ?_
   refine q_then_x ?_
   refine q_then_x ?_
   refine q_blk_hit ?_
   obtain rfl := Option.some.inj h
   obtain rfl := hres _ rfl
   exact .inl ⟨_, rfl, rfl, _, σ3, fr_join trivial, rfl, H.sel' [] rfl rfl⟩
 ·clear hj
  have h := h'
  clear h' H
  rintro e a w (⟨t12, rfl, rfl, ρ, σ13, rfl, rfl, H⟩ | ⟨t14, rfl, rfl, ρ, σ15, rfl, rfl, H⟩)
  ·replace h := selim_l h
   refine q_then ?_
   refine c_seq ?_
   refine rg ?_
   refine st (v := (B false)) (rv_assign rfl) ?_
   refine w_end ?_
   refine q_then ?_
   refine c_ret ?_
   obtain rfl := Option.some.inj h
   exact fin_ret (v := (B false)) (results_ok Try.results29 (res_tmp (v := (B false)) rfl res_nil) rfl) ⟨rfl, rfl⟩ (H.sel' [] rfl rfl)
  ·replace h := selim_r h
   refine q_then_r ?_
   obtain rfl := Option.some.inj h
   exact fin_ret (v := (B t14)) (results_ok Try.results29 (res_tmp (v := (B t14)) rfl res_nil) rfl) ⟨rfl, rfl⟩ (H.sel' [] rfl rfl)

theorem c_laws_FnShortLog {code_0 : List UInt8} {acode_0 : Option Addr} {ccode_0 : Nat} {r : Bool} (h : M.laws_FnShortLog code_0 = some r) :
    Cal2 Try.prog 7 [(Sl acode_0 code_0 ccode_0)] [Ch.ro 0 (Sl acode_0 code_0 ccode_0) code_0] (fun n0 v L => v = (B r) ∧ L = []) := by
 refine cal2 (n := 76) Try.func7 rfl rfl rfl rfl ?_
 intro S0 σ0 n0 hn0 H
 unfold M.laws_FnShortLog at h
 refine c_seq ?_
 refine rg ?_
 refine st (v := (B false)) (rv_assign rfl) ?_
 refine w_end ?_
 refine q_then ?_
 refine c_seq ?_
 refine c_seq ?_
 refine rg ?_
 refine st (v := (Sl acode_0 code_0 ccode_0)) (rv_move rfl) ?_
 refine st (v := (I (code_0.length : Int))) (rv_len Try.underlying22 rfl) ?_
 refine st (v := (B (decide (1048576 < (code_0.length : Int))))) (rv_gtr (a := (code_0.length : Int)) (b := 1048576) rfl rfl) ?_
 refine w_end ?_
 refine q_then ?_
 refine cd_cond (decide (1048576 < (code_0.length : Int))) rfl (fun hb1 => ?_) (fun hb1 => ?_)
 ·replace h := bif_t hb1 h
  refine c_seq ?_
  refine rg ?_
  refine st (v := (B true)) (rv_assign rfl) ?_
  refine w_end ?_
  refine q_then ?_
  refine c_ret ?_
  refine q_then_r ?_
  obtain rfl := Option.some.inj h
  exact fin_ret (v := (B true)) (results_ok Try.results7 (res_tmp (v := (B true)) rfl res_nil) rfl) ⟨rfl, rfl⟩ (H.sel' [] rfl rfl)
 ·replace h := bif_f hb1 h
  refine c_skip ?_
  refine q_then ?_
  refine c_seq ?_
  refine rg ?_
  refine st (v := (Sl acode_0 code_0 ccode_0)) (rv_move rfl) ?_
  obtain ⟨r2, hx3, h'⟩ := bind_some h
  clear h
  have h := h'; clear h'
  have hc4 := c_spec_DrawShortLog (acode_0 := acode_0) (ccode_0 := ccode_0) hx3
  refine st_call (cx_call hc4 (ent_f hc4.fn rfl) hn0 (show Hp S0 σ0 _ ([Ch.ro 0 (Sl acode_0 code_0 ccode_0) code_0] ++ [Ch.ro 0 (Sl acode_0 code_0 ccode_0) code_0]) from (H.sel' [0, 0] rfl rfl))) wn ?_
  rintro _ σ7 ⟨_, ⟨a5, c6, rfl, rfl⟩, H, -⟩
  replace H : Hp S0 σ0 σ7 [Ch.own n0 n0 (Sl a5 r2 c6) r2, Ch.ro 0 (Sl acode_0 code_0 ccode_0) code_0] := H
  refine st (v := (Sl a5 r2 c6)) (rv_assign rfl) ?_
  refine w_end ?_
  refine q_then ?_
  refine c_seq ?_
  refine rg ?_
  refine st (v := (Sl a5 r2 c6)) (rv_move rfl) ?_
  obtain ⟨r8, hx9, h'⟩ := bind_some h
  clear h
  have h := h'; clear h'
  have hc10 := c_impl_ShortLog (alog_0 := a5) (clog_0 := c6) hx9
  have hle := Nat.le_trans hn0 H.size
  refine st_call (cx_lend (Loan.lend Loan.nil) hc10 (ent_f hc10.fn rfl) (show Hp S0 σ0 _ ([Ch.own n0 n0 (Sl a5 r2 c6) r2] ++ ([] ++ [Ch.ro 0 (Sl acode_0 code_0 ccode_0) code_0])) from (H.sel' [0, 1] rfl rfl)) (by rintro _ _ _ ⟨_, _, rfl, rfl⟩; exact ⟨Ab.own (Nat.le_refl _), trivial⟩)) wn ?_
  rintro _ σ13 ⟨_, ⟨a11, c12, rfl, rfl⟩, H, -, -⟩
  replace H : Hp S0 σ0 σ13 [Ch.own σ7.size σ7.size (Sl a11 r8 c12) r8, Ch.own n0 n0 (Sl a5 r2 c6) r2, Ch.ro 0 (Sl acode_0 code_0 ccode_0) code_0] := H
  replace H := H.ownLow 0 n0 n0 rfl hle hle
  clear hle
  replace H : Hp S0 σ0 σ13 [Ch.own n0 n0 (Sl a11 r8 c12) r8, Ch.own n0 n0 (Sl a5 r2 c6) r2, Ch.ro 0 (Sl acode_0 code_0 ccode_0) code_0] := H
  refine st (v := (Sl a11 r8 c12)) (rv_assign rfl) ?_
  refine w_end ?_
  refine q_then ?_
  refine c_seq ?_
  refine c_seq ?_
  obtain ⟨o14, hj, h'⟩ := bind_some h
  clear h
  refine c_cut (fun e a w => e = .normal ∧ ∃ (ρ : Nat → Value) (σ : St), a = fr 76 (updL ρ [(3, (Sl a5 r2 c6)), (4, (Sl a11 r8 c12)), (24, (B o14))]) ∧ w = σ.w ∧ Hp S0 σ0 σ [Ch.own n0 n0 (Sl a5 r2 c6) r2, Ch.own n0 n0 (Sl a11 r8 c12) r8]) ?_ ?_
  ·clear h'
   rename _ = some o14 => h
   refine rg ?_
   refine st (v := (Sl a11 r8 c12)) (rv_move rfl) ?_
   refine st (v := (Sl a5 r2 c6)) (rv_move rfl) ?_
   obtain ⟨r15, hx16, h'⟩ := bind_some h
   clear h
   have h := h'; clear h'
   have hc17 := c_spec_ShortLog (alog_0 := a5) (clog_0 := c6) hx16
   have hle := Nat.le_trans hn0 H.size
   refine st_call (cx_lend (Loan.lend Loan.nil) hc17 (ent_f hc17.fn rfl) (show Hp S0 σ0 _ ([Ch.own n0 n0 (Sl a5 r2 c6) r2] ++ ([] ++ [Ch.own n0 n0 (Sl a11 r8 c12) r8, Ch.ro 0 (Sl acode_0 code_0 ccode_0) code_0])) from (H.sel' [1, 0, 2] rfl rfl)) (by rintro _ _ _ ⟨_, _, rfl, rfl⟩; exact ⟨Ab.own (Nat.le_refl _), trivial⟩)) wn ?_
   rintro _ σ20 ⟨_, ⟨a18, c19, rfl, rfl⟩, H, -, -⟩
   replace H : Hp S0 σ0 σ20 [Ch.own σ13.size σ13.size (Sl a18 r15 c19) r15, Ch.own n0 n0 (Sl a5 r2 c6) r2, Ch.own n0 n0 (Sl a11 r8 c12) r8, Ch.ro 0 (Sl acode_0 code_0 ccode_0) code_0] := H
   replace H := H.ownLow 0 n0 n0 rfl hle hle
   clear hle
   replace H : Hp S0 σ0 σ20 [Ch.own n0 n0 (Sl a18 r15 c19) r15, Ch.own n0 n0 (Sl a5 r2 c6) r2, Ch.own n0 n0 (Sl a11 r8 c12) r8, Ch.ro 0 (Sl acode_0 code_0 ccode_0) code_0] := H
   obtain ⟨σ21, hw22, H, -⟩ := H.pub 0 rfl (Nat.le_refl _)
   rw [← hw22]; clear hw22
   replace H := H.roLow 0 0 rfl (Nat.zero_le _)
   obtain ⟨r23, hx24, h'⟩ := bind_some h
   clear h
   have h := h'; clear h'
   have hc25 := c_laws_equalEntries (aa_0 := a11) (ca_0 := c12) (ab_1 := a18) (cb_1 := c19) hx24
   have hle := Nat.le_trans hn0 H.size
   refine st_call (cx_lend (Loan.lend (Loan.same Loan.nil)) hc25 (ent_f hc25.fn rfl) (show Hp S0 σ0 _ ([Ch.own n0 n0 (Sl a11 r8 c12) r8] ++ ([Ch.ro 0 (Sl a18 r15 c19) r15] ++ [Ch.ro 0 (Sl a18 r15 c19) r15, Ch.ro n0 (Sl a18 r15 c19) r15, Ch.own n0 n0 (Sl a5 r2 c6) r2, Ch.ro 0 (Sl acode_0 code_0 ccode_0) code_0])) from (H.sel' [3, 0, 0, 1, 2, 4] rfl rfl)) (by rintro _ _ _ ⟨rfl, rfl⟩; exact trivial)) wn ?_
   rintro _ σ26 ⟨_, ⟨rfl, rfl⟩, H, -, -⟩
   replace H : Hp S0 σ0 σ26 [Ch.own n0 n0 (Sl a11 r8 c12) r8, Ch.ro 0 (Sl a18 r15 c19) r15, Ch.ro n0 (Sl a18 r15 c19) r15, Ch.own n0 n0 (Sl a5 r2 c6) r2, Ch.ro 0 (Sl acode_0 code_0 ccode_0) code_0] := H
   clear hle
   replace H : Hp S0 σ0 σ26 [Ch.own n0 n0 (Sl a11 r8 c12) r8, Ch.ro 0 (Sl a18 r15 c19) r15, Ch.ro n0 (Sl a18 r15 c19) r15, Ch.own n0 n0 (Sl a5 r2 c6) r2, Ch.ro 0 (Sl acode_0 code_0 ccode_0) code_0] := H
   refine st (v := (B (!r23))) (rv_not rfl) ?_
   refine st (v := (B (!r23))) (rv_move rfl) ?_
   rcases Bool.eq_false_or_eq_true (!r23) with hb27 | hb27
   ·replace h := bif_t hb27 h
    refine st_skip (congrArg some hb27) ?_
    refine st_skip (congrArg some hb27) ?_
    refine st_skip (congrArg some hb27) ?_
    refine st (v := (B true)) (rv_pick_t (congrArg B hb27) rfl) ?_
    refine w_end ?_
    obtain rfl := Option.some.inj h
    exact ⟨rfl, _, σ26, fr_join ⟨rfl, rfl, rfl, trivial⟩, rfl, H.sel' [3, 0] rfl rfl⟩
   ·replace h := bif_f hb27 h
    refine st_g (v := (Sl a5 r2 c6)) (congrArg some hb27) (rv_move rfl) ?_
    obtain ⟨r28, hx29, h'⟩ := bind_some h
    clear h
    have h := h'; clear h'
    have hc30 := c_impl_ValidLog (alist_0 := a5) (clist_0 := c6) hx29
    have hle := Nat.le_trans hn0 H.size
    refine st_call (cx_lend (Loan.lend Loan.nil) hc30 (ent_f hc30.fn rfl) (show Hp S0 σ0 _ ([Ch.own n0 n0 (Sl a5 r2 c6) r2] ++ ([] ++ [Ch.own n0 n0 (Sl a11 r8 c12) r8, Ch.ro 0 (Sl a18 r15 c19) r15, Ch.ro n0 (Sl a18 r15 c19) r15, Ch.ro 0 (Sl acode_0 code_0 ccode_0) code_0])) from (H.sel' [3, 0, 1, 2, 4] rfl rfl)) (by rintro _ _ _ ⟨rfl, rfl⟩; exact trivial)) (wanted_yes rfl (by exact (congrArg some hb27))) ?_
    rintro _ σ31 ⟨_, ⟨rfl, rfl⟩, H, -, -⟩
    replace H : Hp S0 σ0 σ31 [Ch.own n0 n0 (Sl a5 r2 c6) r2, Ch.own n0 n0 (Sl a11 r8 c12) r8, Ch.ro 0 (Sl a18 r15 c19) r15, Ch.ro n0 (Sl a18 r15 c19) r15, Ch.ro 0 (Sl acode_0 code_0 ccode_0) code_0] := H
    clear hle
    replace H : Hp S0 σ0 σ31 [Ch.own n0 n0 (Sl a5 r2 c6) r2, Ch.own n0 n0 (Sl a11 r8 c12) r8, Ch.ro 0 (Sl a18 r15 c19) r15, Ch.ro n0 (Sl a18 r15 c19) r15, Ch.ro 0 (Sl acode_0 code_0 ccode_0) code_0] := H
    refine st_g (v := (B (!r28))) (congrArg some hb27) (rv_not rfl) ?_
    refine st (v := (B (!r28))) (rv_pick_f (congrArg B hb27) rfl) ?_
    refine w_end ?_
    obtain rfl := Option.some.inj h
    exact ⟨rfl, _, σ31, fr_join ⟨rfl, rfl, rfl, trivial⟩, rfl, H.sel' [0, 1] rfl rfl⟩
  ·clear hj
   have h := h'
   clear h' H
   rintro e a w ⟨rfl, ρ, σ32, rfl, rfl, H⟩
   refine q_then ?_
   refine cd_cond o14 rfl (fun hb33 => ?_) (fun hb33 => ?_)
   ·replace h := bif_t hb33 h
    refine c_seq ?_
    refine rg ?_
    refine st (v := (Sl a11 r8 c12)) (rv_move rfl) ?_
    refine st (v := (Sl a5 r2 c6)) (rv_move rfl) ?_
    obtain ⟨σ34, hw35, H, -⟩ := H.pub 0 rfl (Nat.le_refl _)
    rw [← hw35]; clear hw35
    replace H := H.roLow 0 0 rfl (Nat.zero_le _)
    obtain ⟨r36, hx37, h'⟩ := bind_some h
    clear h
    have h := h'; clear h'
    have hc38 := c_spec_ShortLog (alog_0 := a5) (clog_0 := c6) hx37
    refine st_call (cx_call hc38 (ent_f hc38.fn rfl) hn0 (show Hp S0 σ0 _ ([Ch.ro 0 (Sl a5 r2 c6) r2] ++ [Ch.ro 0 (Sl a5 r2 c6) r2, Ch.ro n0 (Sl a5 r2 c6) r2, Ch.own n0 n0 (Sl a11 r8 c12) r8]) from (H.sel' [0, 0, 1, 2] rfl rfl))) wn ?_
    rintro _ σ41 ⟨_, ⟨a39, c40, rfl, rfl⟩, H, -⟩
    replace H : Hp S0 σ0 σ41 [Ch.own n0 n0 (Sl a39 r36 c40) r36, Ch.ro 0 (Sl a5 r2 c6) r2, Ch.ro n0 (Sl a5 r2 c6) r2, Ch.own n0 n0 (Sl a11 r8 c12) r8] := H
    obtain ⟨σ42, hw43, H, -⟩ := H.pub 3 rfl (Nat.le_refl _)
    rw [← hw43]; clear hw43
    obtain ⟨σ44, hw45, H, -⟩ := H.pub 1 rfl (Nat.le_refl _)
    rw [← hw45]; clear hw45
    replace H := H.roLow 1 0 rfl (Nat.zero_le _)
    replace H := H.roLow 1 0 rfl (Nat.zero_le _)
    obtain ⟨r46, hx47, h'⟩ := bind_some h
    clear h
    have h := h'; clear h'
    have hc48 := c_laws_equalEntries (aa_0 := a11) (ca_0 := c12) (ab_1 := a39) (cb_1 := c40) hx47
    refine st_call (cx_call hc48 (ent_f hc48.fn rfl) hn0 (show Hp S0 σ0 _ ([Ch.ro 0 (Sl a11 r8 c12) r8, Ch.ro 0 (Sl a39 r36 c40) r36] ++ [Ch.ro 0 (Sl a39 r36 c40) r36, Ch.ro 0 (Sl a11 r8 c12) r8, Ch.ro n0 (Sl a39 r36 c40) r36, Ch.ro n0 (Sl a11 r8 c12) r8, Ch.ro 0 (Sl a5 r2 c6) r2, Ch.ro n0 (Sl a5 r2 c6) r2]) from (H.sel' [1, 0, 0, 1, 2, 3, 4, 5] rfl rfl))) wn ?_
    rintro _ σ49 ⟨_, ⟨rfl, rfl⟩, H, -⟩
    replace H : Hp S0 σ0 σ49 [Ch.ro 0 (Sl a39 r36 c40) r36, Ch.ro 0 (Sl a11 r8 c12) r8, Ch.ro n0 (Sl a39 r36 c40) r36, Ch.ro n0 (Sl a11 r8 c12) r8, Ch.ro 0 (Sl a5 r2 c6) r2, Ch.ro n0 (Sl a5 r2 c6) r2] := H
    refine st (v := (B r46)) (rv_assign rfl) ?_
    refine w_end ?_
    refine q_then ?_
    refine c_ret ?_
    refine q_then_r ?_
    obtain rfl := Option.some.inj h
    exact fin_ret (v := (B r46)) (results_ok Try.results7 (res_tmp (v := (B r46)) rfl res_nil) rfl) ⟨rfl, rfl⟩ (H.sel' [] rfl rfl)
   ·replace h := bif_f hb33 h
    refine c_skip ?_
    refine q_then ?_
    refine c_seq ?_
    refine rg ?_
    refine st_ex (ex_buildSlice (el := n0) (xs := ([] : List Int)) (ps := []) (cs := []) H hn0 Try.underlying34 ti3 rfl rfl (by kernel_rfl) (.nil) rfl) wn ?_
    rintro _ σ51 ⟨b50, rfl, H, -⟩
    refine st (v := (Sl (some ⟨b50, 0, none⟩) ([] : List Int) 0)) (rv_assign rfl) ?_
    refine w_end ?_
    refine q_then ?_
    refine c_seq ?_
    refine c_seq ?_
    refine rg ?_
    refine st (v := (I 0)) (rv_assign rfl) ?_
    refine w_end ?_
    refine q_then ?_
    obtain ⟨o52, hj, h'⟩ := bind_some h
    clear h
    refine c_cut (fun e a w => (∃ t, o52 = (.inl t) ∧ e = .normal ∧ ∃ (ρ : Nat → Value) (σ : St) (aj1 : Option Addr) (cj2 : Nat), a = fr 76 (updL ρ [(3, (Sl a5 r2 c6)), (4, (Sl a11 r8 c12)), (5, (Sl aj1 t cj2))]) ∧ w = σ.w ∧ Hp S0 σ0 σ [Ch.own n0 n0 (Sl a5 r2 c6) r2, Ch.own n0 n0 (Sl a11 r8 c12) r8, Ch.own n0 n0 (Sl aj1 t cj2) t]) ∨ (∃ t, o52 = (.inr t) ∧ e = .ret ∧ ∃ (ρ : Nat → Value) (σ : St), a = fr 76 (updL ρ [(2, (B t))]) ∧ w = σ.w ∧ Hp S0 σ0 σ [])) ?_ ?_
    ·clear h'
     rename _ = some o52 => h
     refine c_blk ?_
     refine wp_loopM _ h (fun s53 a w => ∃ (ρ : Nat → Value) (σ : St) (aj1 : Option Addr) (cj2 : Nat), a = fr 76 (updL ρ [(3, (Sl a5 r2 c6)), (4, (Sl a11 r8 c12)), (5, (Sl aj1 s53.1 cj2)), (6, (I s53.2))]) ∧ w = σ.w ∧ Hp S0 σ0 σ [Ch.own n0 n0 (Sl a5 r2 c6) r2, Ch.own n0 n0 (Sl a11 r8 c12) r8, Ch.own n0 n0 (Sl aj1 s53.1 cj2) s53.1]) ⟨_, σ51, (some ⟨b50, 0, none⟩), 0, fr_join ⟨rfl, rfl, rfl, rfl, trivial⟩, rfl, H.sel' [1, 2, 0] rfl rfl⟩ ?_
     clear h H
     rintro s53 a w o ⟨ρ, σ54, a55, c56, rfl, rfl, H⟩ h hres
     refine c_seq ?_
     refine c_seq ?_
     refine rg ?_
     refine st (v := (I s53.2)) (rv_move rfl) ?_
     refine st (v := (Sl a11 r8 c12)) (rv_move rfl) ?_
     refine st (v := (I (r8.length : Int))) (rv_len Try.underlying23 rfl) ?_
     refine st (v := (B (decide (s53.2 < (r8.length : Int))))) (rv_lss (a := s53.2) (b := (r8.length : Int)) rfl rfl) ?_
     refine w_end ?_
     refine q_then ?_
     refine cd_cond (decide (s53.2 < (r8.length : Int))) rfl (fun hb57 => ?_) (fun hb57 => ?_)
     ·replace h := bif_t hb57 h
      refine c_skip ?_
      refine q_then ?_
      refine c_seq ?_
      refine c_blk ?_
      refine c_seq ?_
      refine c_seq ?_
      refine rg ?_
      refine st (v := (Sl a55 s53.1 c56)) (rv_move rfl) ?_
      refine st (v := (Sl a11 r8 c12)) (rv_move rfl) ?_
      refine st (v := (I s53.2)) (rv_move rfl) ?_
      obtain ⟨x58, hx59, h'⟩ := bind_some h
      clear h
      have h := h'; clear h'
      obtain ⟨b61, o62, hi60, -⟩ := (H.own 1 rfl).ix hx59
      refine st (v := (pt b61 o62)) (rv_ix Try.underlying23 ti38 rfl rfl hi60) ?_
      refine st (v := (pt b61 (o62 + 1))) (rv_fieldAddr (off := 1) (ft := 36) Try.underlying38 rfl ti36 rfl rfl) ?_
      refine st (v := (pt b61 (o62 + 1))) (rv_fieldAddr (off := 0) (ft := 3) Try.underlying36 rfl ti3 rfl rfl) ?_
      have hc63 := ((H.own 1 rfl).at hx59 hi60).snd.fst.int
      refine st (v := (I x58.2.1)) (rv_load1 Try.underlying3 rfl rfl hc63) ?_
      obtain ⟨r64, hx65, h'⟩ := bind_some h
      clear h
      have h := h'; clear h'
      have hc66 := c_laws_isIn (alist_0 := a55) (clist_0 := c56) hx65
      have hle := Nat.le_trans hn0 H.size
      refine st_call (cx_lend (Loan.lend Loan.nil) hc66 (ent_f hc66.fn rfl) (show Hp S0 σ0 _ ([Ch.own n0 n0 (Sl a55 s53.1 c56) s53.1] ++ ([] ++ [Ch.own n0 n0 (Sl a5 r2 c6) r2, Ch.own n0 n0 (Sl a11 r8 c12) r8])) from (H.sel' [2, 0, 1] rfl rfl)) (by rintro _ _ _ ⟨rfl, rfl⟩; exact trivial)) wn ?_
      rintro _ σ67 ⟨_, ⟨rfl, rfl⟩, H, -, -⟩
      replace H : Hp S0 σ0 σ67 [Ch.own n0 n0 (Sl a55 s53.1 c56) s53.1, Ch.own n0 n0 (Sl a5 r2 c6) r2, Ch.own n0 n0 (Sl a11 r8 c12) r8] := H
      clear hle
      replace H : Hp S0 σ0 σ67 [Ch.own n0 n0 (Sl a55 s53.1 c56) s53.1, Ch.own n0 n0 (Sl a5 r2 c6) r2, Ch.own n0 n0 (Sl a11 r8 c12) r8] := H
      refine w_end ?_
      refine q_then ?_
      refine cd_cond r64 rfl (fun hb68 => ?_) (fun hb68 => ?_)
      ·replace h := bif_t hb68 h
       refine c_seq ?_
       refine rg ?_
       refine st (v := (B false)) (rv_assign rfl) ?_
       refine w_end ?_
       refine q_then ?_
       refine c_ret ?_
       refine q_then_r ?_
       refine q_blk_r ?_
       refine q_then_r ?_
       refine q_then_r ?_
       refine q_blk_r ?_
       obtain rfl := Option.some.inj h
       obtain rfl := hres _ rfl
       exact .inr (⟨_, rfl, rfl, _, σ67, fr_join ⟨rfl, trivial⟩, rfl, H.sel' [] rfl rfl⟩)
      ·replace h := bif_f hb68 h
       refine c_skip ?_
       refine q_then ?_
       refine rg ?_
       refine st (v := (Sl a55 s53.1 c56)) (rv_move rfl) ?_
       refine st (v := (Sl a11 r8 c12)) (rv_move rfl) ?_
       refine st (v := (I s53.2)) (rv_move rfl) ?_
       obtain ⟨x69, hx70, h'⟩ := bind_some h
       clear h
       have h := h'; clear h'
       obtain ⟨b72, o73, hi71, -⟩ := (H.own 2 rfl).ix hx70
       refine st (v := (pt b72 o73)) (rv_ix Try.underlying23 ti38 rfl rfl hi71) ?_
       refine st (v := (pt b72 (o73 + 1))) (rv_fieldAddr (off := 1) (ft := 36) Try.underlying38 rfl ti36 rfl rfl) ?_
       refine st (v := (pt b72 (o73 + 1))) (rv_fieldAddr (off := 0) (ft := 3) Try.underlying36 rfl ti3 rfl rfl) ?_
       have hc74 := ((H.own 2 rfl).at hx70 hi71).snd.fst.int
       refine st (v := (I x69.2.1)) (rv_load1 Try.underlying3 rfl rfl hc74) ?_
       refine st_ex (ex_buildSlice (el := n0) (xs := ([x69.2.1] : List Int)) (ps := [(0, (I x69.2.1))]) (cs := [(I x69.2.1)]) H hn0 Try.underlying34 ti3 rfl rfl (by kernel_rfl) (.cons (c := [(I x69.2.1)]) rfl (.nil)) rfl) wn ?_
       rintro _ σ76 ⟨b75, rfl, H, -⟩
       obtain ⟨xs77, hx78, h'⟩ := bind_some h
       clear h
       have h := h'; clear h'
       refine st_ex (ex_append H (i := 1) rfl Try.underlying34 Try.underlying34 ti3 rfl rfl (by decide) (H.own 0 rfl).rd hx78 hn0 rfl rfl) wn ?_
       rintro _ σ81 ⟨a79, c80, rfl, H, -⟩
       refine st (v := (Sl a79 xs77 c80)) (rv_assign rfl) ?_
       refine w_end ?_
       refine q_blk ?_
       refine q_then ?_
       refine rg ?_
       refine st (v := (I s53.2)) (rv_move rfl) ?_
       refine st (v := (I (w64 (s53.2 + 1)))) (rv_add (a := s53.2) (b := 1) rfl rfl) ?_
       refine st (v := (I (w64 (s53.2 + 1)))) (rv_assign rfl) ?_
       refine w_end ?_
       refine q_then ?_
       obtain rfl := Option.some.inj h
       exact ⟨_, rfl, _, σ81, a79, c80, fr_join ⟨rfl, rfl, rfl, rfl, trivial⟩, rfl, H.sel' [2, 3, 0] rfl rfl⟩
     ·replace h := bif_f hb57 h
      refine c_exit ?_
      refine q_then_x ?_
      refine q_then_x ?_
      refine q_blk_hit ?_
      obtain rfl := Option.some.inj h
      obtain rfl := hres _ rfl
      exact .inl ⟨_, rfl, rfl, _, σ54, a55, c56, fr_join ⟨rfl, rfl, rfl, trivial⟩, rfl, H.sel' [0, 1, 2] rfl rfl⟩
    ·clear hj
     have h := h'
     clear h' H
     rintro e a w (⟨t82, rfl, rfl, ρ, σ83, a84, c85, rfl, rfl, H⟩ | ⟨t124, rfl, rfl, ρ, σ125, rfl, rfl, H⟩)
     ·replace h := selim_l h
      refine q_then ?_
      refine c_seq ?_
      refine c_seq ?_
      refine rg ?_
      refine st (v := (I 0)) (rv_assign rfl) ?_
      refine w_end ?_
      refine q_then ?_
      obtain ⟨o86, hj, h'⟩ := bind_some h
      clear h
      refine c_cut (fun e a w => (∃ t, o86 = (.inl t) ∧ e = .normal ∧ ∃ (ρ : Nat → Value) (σ : St), a = fr 76 (updL ρ [(4, (Sl a11 r8 c12))]) ∧ w = σ.w ∧ Hp S0 σ0 σ [Ch.own n0 n0 (Sl a11 r8 c12) r8]) ∨ (∃ t, o86 = (.inr t) ∧ e = .ret ∧ ∃ (ρ : Nat → Value) (σ : St), a = fr 76 (updL ρ [(2, (B t))]) ∧ w = σ.w ∧ Hp S0 σ0 σ [])) ?_ ?_
      ·clear h'
       rename _ = some o86 => h
       refine c_blk ?_
       refine wp_loopM _ h (fun s87 a w => ∃ (ρ : Nat → Value) (σ : St), a = fr 76 (updL ρ [(3, (Sl a5 r2 c6)), (4, (Sl a11 r8 c12)), (5, (Sl a84 t82 c85)), (7, (I s87))]) ∧ w = σ.w ∧ Hp S0 σ0 σ [Ch.own n0 n0 (Sl a5 r2 c6) r2, Ch.own n0 n0 (Sl a11 r8 c12) r8, Ch.own n0 n0 (Sl a84 t82 c85) t82]) ⟨_, σ83, fr_join ⟨rfl, rfl, rfl, rfl, trivial⟩, rfl, H.sel' [0, 1, 2] rfl rfl⟩ ?_
       clear h H
       rintro s87 a w o ⟨ρ, σ88, rfl, rfl, H⟩ h hres
       refine c_seq ?_
       refine c_seq ?_
       refine rg ?_
       refine st (v := (I s87)) (rv_move rfl) ?_
       refine st (v := (Sl a5 r2 c6)) (rv_move rfl) ?_
       refine st (v := (I (r2.length : Int))) (rv_len Try.underlying23 rfl) ?_
       refine st (v := (B (decide (s87 < (r2.length : Int))))) (rv_lss (a := s87) (b := (r2.length : Int)) rfl rfl) ?_
       refine w_end ?_
       refine q_then ?_
       refine cd_cond (decide (s87 < (r2.length : Int))) rfl (fun hb89 => ?_) (fun hb89 => ?_)
       ·replace h := bif_t hb89 h
        refine c_skip ?_
        refine q_then ?_
        refine c_seq ?_
        refine c_blk ?_
        refine c_seq ?_
        refine rg ?_
        refine st (v := (Sl a84 t82 c85)) (rv_move rfl) ?_
        refine st (v := (Sl a5 r2 c6)) (rv_move rfl) ?_
        refine st (v := (I s87)) (rv_move rfl) ?_
        obtain ⟨x90, hx91, h'⟩ := bind_some h
        clear h
        have h := h'; clear h'
        obtain ⟨b93, o94, hi92, -⟩ := (H.own 0 rfl).ix hx91
        refine st (v := (pt b93 o94)) (rv_ix Try.underlying23 ti38 rfl rfl hi92) ?_
        refine st (v := (pt b93 (o94 + 1))) (rv_fieldAddr (off := 1) (ft := 36) Try.underlying38 rfl ti36 rfl rfl) ?_
        refine st (v := (pt b93 (o94 + 1))) (rv_fieldAddr (off := 0) (ft := 3) Try.underlying36 rfl ti3 rfl rfl) ?_
        have hc95 := ((H.own 0 rfl).at hx91 hi92).snd.fst.int
        refine st (v := (I x90.2.1)) (rv_load1 Try.underlying3 rfl rfl hc95) ?_
        obtain ⟨r96, hx97, h'⟩ := bind_some h
        clear h
        have h := h'; clear h'
        have hc98 := c_laws_isIn (alist_0 := a84) (clist_0 := c85) hx97
        have hle := Nat.le_trans hn0 H.size
        refine st_call (cx_lend (Loan.lend Loan.nil) hc98 (ent_f hc98.fn rfl) (show Hp S0 σ0 _ ([Ch.own n0 n0 (Sl a84 t82 c85) t82] ++ ([] ++ [Ch.own n0 n0 (Sl a5 r2 c6) r2, Ch.own n0 n0 (Sl a11 r8 c12) r8])) from (H.sel' [2, 0, 1] rfl rfl)) (by rintro _ _ _ ⟨rfl, rfl⟩; exact trivial)) wn ?_
        rintro _ σ99 ⟨_, ⟨rfl, rfl⟩, H, -, -⟩
        replace H : Hp S0 σ0 σ99 [Ch.own n0 n0 (Sl a84 t82 c85) t82, Ch.own n0 n0 (Sl a5 r2 c6) r2, Ch.own n0 n0 (Sl a11 r8 c12) r8] := H
        clear hle
        replace H : Hp S0 σ0 σ99 [Ch.own n0 n0 (Sl a84 t82 c85) t82, Ch.own n0 n0 (Sl a5 r2 c6) r2, Ch.own n0 n0 (Sl a11 r8 c12) r8] := H
        refine st (v := (B (!r96))) (rv_not rfl) ?_
        refine w_end ?_
        refine q_then ?_
        refine cd_cond (!r96) rfl (fun hb100 => ?_) (fun hb100 => ?_)
        ·replace h := bif_t hb100 h
         refine c_seq ?_
         refine rg ?_
         refine st (v := (B false)) (rv_assign rfl) ?_
         refine w_end ?_
         refine q_then ?_
         refine c_ret ?_
         refine q_blk_r ?_
         refine q_then_r ?_
         refine q_then_r ?_
         refine q_blk_r ?_
         obtain rfl := Option.some.inj h
         obtain rfl := hres _ rfl
         exact .inr (⟨_, rfl, rfl, _, σ99, fr_join ⟨rfl, trivial⟩, rfl, H.sel' [] rfl rfl⟩)
        ·replace h := bif_f hb100 h
         refine c_skip ?_
         refine q_blk ?_
         refine q_then ?_
         refine rg ?_
         refine st (v := (I s87)) (rv_move rfl) ?_
         refine st (v := (I (w64 (s87 + 1)))) (rv_add (a := s87) (b := 1) rfl rfl) ?_
         refine st (v := (I (w64 (s87 + 1)))) (rv_assign rfl) ?_
         refine w_end ?_
         refine q_then ?_
         obtain rfl := Option.some.inj h
         exact ⟨_, rfl, _, σ99, fr_join ⟨rfl, rfl, rfl, rfl, trivial⟩, rfl, H.sel' [1, 2, 0] rfl rfl⟩
       ·replace h := bif_f hb89 h
        refine c_exit ?_
        refine q_then_x ?_
        refine q_then_x ?_
        refine q_blk_hit ?_
        obtain rfl := Option.some.inj h
        obtain rfl := hres _ rfl
        exact .inl ⟨_, rfl, rfl, _, σ88, fr_join ⟨rfl, trivial⟩, rfl, H.sel' [1] rfl rfl⟩
      ·clear hj
       have h := h'
       clear h' H
       rintro e a w (⟨t101, rfl, rfl, ρ, σ102, rfl, rfl, H⟩ | ⟨t122, rfl, rfl, ρ, σ123, rfl, rfl, H⟩)
       ·replace h := selim_l h
        refine q_then ?_
        refine c_seq ?_
        refine rg ?_
        refine st (v := (Sl a11 r8 c12)) (rv_move rfl) ?_
        obtain ⟨r103, hx104, h'⟩ := bind_some h
        clear h
        have h := h'; clear h'
        have hc105 := c_impl_ValidLog (alist_0 := a11) (clist_0 := c12) hx104
        have hle := Nat.le_trans hn0 H.size
        refine st_call (cx_lend (Loan.lend Loan.nil) hc105 (ent_f hc105.fn rfl) (show Hp S0 σ0 _ ([Ch.own n0 n0 (Sl a11 r8 c12) r8] ++ ([] ++ [])) from (H.sel' [0] rfl rfl)) (by rintro _ _ _ ⟨rfl, rfl⟩; exact trivial)) wn ?_
        rintro _ σ106 ⟨_, ⟨rfl, rfl⟩, H, -, -⟩
        replace H : Hp S0 σ0 σ106 [Ch.own n0 n0 (Sl a11 r8 c12) r8] := H
        clear hle
        replace H : Hp S0 σ0 σ106 [Ch.own n0 n0 (Sl a11 r8 c12) r8] := H
        refine st (v := (B r103)) (rv_move rfl) ?_
        rcases Bool.eq_false_or_eq_true r103 with hb107 | hb107
        ·replace h := bif_t hb107 h
         refine st_g (v := (Sl a11 r8 c12)) (congrArg some hb107) (rv_move rfl) ?_
         obtain ⟨r108, hx109, h'⟩ := bind_some h
         clear h
         have h := h'; clear h'
         have hc110 := c_impl_ShortLog (alog_0 := a11) (clog_0 := c12) hx109
         have hle := Nat.le_trans hn0 H.size
         refine st_call (cx_lend (Loan.lend Loan.nil) hc110 (ent_f hc110.fn rfl) (show Hp S0 σ0 _ ([Ch.own n0 n0 (Sl a11 r8 c12) r8] ++ ([] ++ [])) from (H.sel' [0] rfl rfl)) (by rintro _ _ _ ⟨_, _, rfl, rfl⟩; exact ⟨Ab.own (Nat.le_refl _), trivial⟩)) (wanted_yes rfl (by exact (congrArg some hb107))) ?_
         rintro _ σ113 ⟨_, ⟨a111, c112, rfl, rfl⟩, H, -, -⟩
         replace H : Hp S0 σ0 σ113 [Ch.own σ106.size σ106.size (Sl a111 r108 c112) r108, Ch.own n0 n0 (Sl a11 r8 c12) r8] := H
         replace H := H.ownLow 0 n0 n0 rfl hle hle
         clear hle
         replace H : Hp S0 σ0 σ113 [Ch.own n0 n0 (Sl a111 r108 c112) r108, Ch.own n0 n0 (Sl a11 r8 c12) r8] := H
         refine st_g (v := (Sl a11 r8 c12)) (congrArg some hb107) (rv_move rfl) ?_
         obtain ⟨σ114, hw115, H, -⟩ := H.pub 0 rfl (Nat.le_refl _)
         rw [← hw115]; clear hw115
         obtain ⟨σ116, hw117, H, -⟩ := H.pub 1 rfl (Nat.le_refl _)
         rw [← hw117]; clear hw117
         replace H := H.roLow 1 0 rfl (Nat.zero_le _)
         replace H := H.roLow 1 0 rfl (Nat.zero_le _)
         obtain ⟨r118, hx119, h'⟩ := bind_some h
         clear h
         have h := h'; clear h'
         have hc120 := c_laws_equalEntries (aa_0 := a111) (ca_0 := c112) (ab_1 := a11) (cb_1 := c12) hx119
         refine st_call (cx_call hc120 (ent_f hc120.fn rfl) hn0 (show Hp S0 σ0 _ ([Ch.ro 0 (Sl a111 r108 c112) r108, Ch.ro 0 (Sl a11 r8 c12) r8] ++ [Ch.ro 0 (Sl a11 r8 c12) r8, Ch.ro 0 (Sl a111 r108 c112) r108, Ch.ro n0 (Sl a11 r8 c12) r8, Ch.ro n0 (Sl a111 r108 c112) r108]) from (H.sel' [1, 0, 0, 1, 2, 3] rfl rfl))) (wanted_yes rfl (by exact (congrArg some hb107))) ?_
         rintro _ σ121 ⟨_, ⟨rfl, rfl⟩, H, -⟩
         replace H : Hp S0 σ0 σ121 [Ch.ro 0 (Sl a11 r8 c12) r8, Ch.ro 0 (Sl a111 r108 c112) r108, Ch.ro n0 (Sl a11 r8 c12) r8, Ch.ro n0 (Sl a111 r108 c112) r108] := H
         refine st (v := (B r118)) (rv_pick_t (congrArg B hb107) rfl) ?_
         refine st (v := (B r118)) (rv_assign rfl) ?_
         refine w_end ?_
         refine q_then ?_
         refine c_ret ?_
         obtain rfl := Option.some.inj h
         exact fin_ret (v := (B r118)) (results_ok Try.results7 (res_tmp (v := (B r118)) rfl res_nil) rfl) ⟨rfl, rfl⟩ (H.sel' [] rfl rfl)
        ·replace h := bif_f hb107 h
         refine st_skip (congrArg some hb107) ?_
         refine st_skip (congrArg some hb107) ?_
         refine st_skip (congrArg some hb107) ?_
         refine st_skip (congrArg some hb107) ?_
         refine st (v := (B false)) (rv_pick_f (congrArg B hb107) rfl) ?_
         refine st (v := (B false)) (rv_assign rfl) ?_
         refine w_end ?_
         refine q_then ?_
         refine c_ret ?_
         obtain rfl := Option.some.inj h
         exact fin_ret (v := (B false)) (results_ok Try.results7 (res_tmp (v := (B false)) rfl res_nil) rfl) ⟨rfl, rfl⟩ (H.sel' [] rfl rfl)
       ·replace h := selim_r h
        refine q_then_r ?_
        obtain rfl := Option.some.inj h
        exact fin_ret (v := (B t122)) (results_ok Try.results7 (res_tmp (v := (B t122)) rfl res_nil) rfl) ⟨rfl, rfl⟩ (H.sel' [] rfl rfl)
     ·replace h := selim_r h
      refine q_then_r ?_
      obtain rfl := Option.some.inj h
      exact fin_ret (v := (B t124)) (results_ok Try.results7 (res_tmp (v := (B t124)) rfl res_nil) rfl) ⟨rfl, rfl⟩ (H.sel' [] rfl rfl)

end Go.Vs
