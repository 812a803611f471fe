/- The functions compute what their models say. -/
import Derived.Test.YtnkflplbeagljaaKFuseRanksC3
set_option linter.unusedVariables false
set_option linter.unusedSimpArgs false
set_option maxRecDepth 20000
namespace Go.Vs
open Go Go.Proofs
attribute [local irreducible] Code.wp Code.wpIn wpList wpListIn wpQuiet Calls CallsIn

theorem c_spec_FuseRanks {a_0 : List (Int × Int)} {b_1 : List (Int × Int)} {aa_0 : Option Addr} {ca_0 : Nat} {ab_1 : Option Addr} {cb_1 : Nat} {r : (List Int)} (h : M.spec_FuseRanks a_0 b_1 = some r) :
    Cal2 Try.prog 29 [(Sl aa_0 a_0 ca_0), (Sl ab_1 b_1 cb_1)] [Ch.ro 0 (Sl aa_0 a_0 ca_0) a_0, Ch.ro 0 (Sl ab_1 b_1 cb_1) b_1] (fun n0 v L => ∃ (az1 : Option Addr), ∃ (cz2 : Nat), v = (Sl az1 r cz2) ∧ L = [Ch.own n0 n0 (Sl az1 r cz2) r]) := by
 refine cal2 (n := 79) Try.func29 rfl rfl rfl rfl ?_
 intro S0 σ0 n0 hn0 H
 unfold M.spec_FuseRanks at h
 refine c_seq ?_
 refine rg ?_
 refine st (v := (.slice none 0 0)) (rv_assign rfl) ?_
 refine w_end ?_
 refine q_then ?_
 refine c_seq ?_
 refine rg ?_
 refine st_ex (ex_buildSlice (el := n0) (xs := ([] : List Int)) (ps := []) (cs := []) H hn0 Try.underlying24 ti3 rfl rfl (by kernel_rfl) (.nil) rfl) wn ?_
 rintro _ σ2 ⟨b1, rfl, H, -⟩
 refine st (v := (Sl (some ⟨b1, 0, none⟩) ([] : List Int) 0)) (rv_assign rfl) ?_
 refine w_end ?_
 refine q_then ?_
 refine c_seq ?_
 refine c_seq ?_
 obtain ⟨o3, hj, h'⟩ := bind_some h
 clear h
 refine c_cut (fun e a w => e = .normal ∧ ∃ (ρ : Nat → Value) (σ : St), a = fr 79 (updL ρ [(0, (Sl aa_0 a_0 ca_0)), (1, (Sl ab_1 b_1 cb_1)), (5, (Sl (some ⟨b1, 0, none⟩) ([] : List Int) 0)), (17, (B o3))]) ∧ w = σ.w ∧ Hp S0 σ0 σ [Ch.ro 0 (Sl aa_0 a_0 ca_0) a_0, Ch.ro 0 (Sl ab_1 b_1 cb_1) b_1, Ch.own n0 n0 (Sl (some ⟨b1, 0, none⟩) ([] : List Int) 0) ([] : List Int)]) ?_ ?_
 ·clear h'
  rename _ = some o3 => h
  refine rg ?_
  refine st (v := (Sl aa_0 a_0 ca_0)) (rv_move rfl) ?_
  obtain ⟨r4, hx5, h'⟩ := bind_some h
  clear h
  have h := h'; clear h'
  have hc6 := c_spec_validHits (alist_0 := aa_0) (clist_0 := ca_0) hx5
  refine st_call (cx_call hc6 (ent_f hc6.fn rfl) hn0 (show Hp S0 σ0 _ ([Ch.ro 0 (Sl aa_0 a_0 ca_0) a_0] ++ [Ch.own n0 n0 (Sl (some ⟨b1, 0, none⟩) ([] : List Int) 0) ([] : List Int), Ch.ro 0 (Sl aa_0 a_0 ca_0) a_0, Ch.ro 0 (Sl ab_1 b_1 cb_1) b_1]) from (H.sel' [1, 0, 1, 2] rfl rfl))) wn ?_
  rintro _ σ7 ⟨_, ⟨rfl, rfl⟩, H, -⟩
  replace H : Hp S0 σ0 σ7 [Ch.own n0 n0 (Sl (some ⟨b1, 0, none⟩) ([] : List Int) 0) ([] : List Int), Ch.ro 0 (Sl aa_0 a_0 ca_0) a_0, Ch.ro 0 (Sl ab_1 b_1 cb_1) b_1] := H
  refine st (v := (B (!r4))) (rv_not rfl) ?_
  refine st (v := (B (!r4))) (rv_move rfl) ?_
  rcases Bool.eq_false_or_eq_true (!r4) with hb8 | hb8
  ·replace h := bif_t hb8 h
   refine st_skip (congrArg some hb8) ?_
   refine st_skip (congrArg some hb8) ?_
   refine st_skip (congrArg some hb8) ?_
   refine st (v := (B true)) (rv_pick_t (congrArg B hb8) rfl) ?_
   refine w_end ?_
   obtain rfl := Option.some.inj h
   exact ⟨rfl, _, σ7, fr_join ⟨rfl, rfl, rfl, rfl, trivial⟩, rfl, H.sel' [1, 2, 0] rfl rfl⟩
  ·replace h := bif_f hb8 h
   refine st_g (v := (Sl ab_1 b_1 cb_1)) (congrArg some hb8) (rv_move rfl) ?_
   obtain ⟨r9, hx10, h'⟩ := bind_some h
   clear h
   have h := h'; clear h'
   have hc11 := c_spec_validHits (alist_0 := ab_1) (clist_0 := cb_1) hx10
   refine st_call (cx_call hc11 (ent_f hc11.fn rfl) hn0 (show Hp S0 σ0 _ ([Ch.ro 0 (Sl ab_1 b_1 cb_1) b_1] ++ [Ch.own n0 n0 (Sl (some ⟨b1, 0, none⟩) ([] : List Int) 0) ([] : List Int), Ch.ro 0 (Sl aa_0 a_0 ca_0) a_0, Ch.ro 0 (Sl ab_1 b_1 cb_1) b_1]) from (H.sel' [2, 0, 1, 2] rfl rfl))) (wanted_yes rfl (by exact (congrArg some hb8))) ?_
   rintro _ σ12 ⟨_, ⟨rfl, rfl⟩, H, -⟩
   replace H : Hp S0 σ0 σ12 [Ch.own n0 n0 (Sl (some ⟨b1, 0, none⟩) ([] : List Int) 0) ([] : List Int), Ch.ro 0 (Sl aa_0 a_0 ca_0) a_0, Ch.ro 0 (Sl ab_1 b_1 cb_1) b_1] := H
   refine st_g (v := (B (!r9))) (congrArg some hb8) (rv_not rfl) ?_
   refine st (v := (B (!r9))) (rv_pick_f (congrArg B hb8) rfl) ?_
   refine w_end ?_
   obtain rfl := Option.some.inj h
   exact ⟨rfl, _, σ12, fr_join ⟨rfl, rfl, rfl, rfl, trivial⟩, rfl, H.sel' [1, 2, 0] rfl rfl⟩
 ·clear hj
  have h := h'
  clear h' H
  rintro e a w ⟨rfl, ρ, σ13, rfl, rfl, H⟩
  refine q_then ?_
  refine cd_cond o3 rfl (fun hb14 => ?_) (fun hb14 => ?_)
  ·replace h := bif_t hb14 h
   refine c_seq ?_
   refine rg ?_
   refine st (v := (.slice none 0 0)) (rv_assign rfl) ?_
   refine w_end ?_
   refine q_then ?_
   refine c_ret ?_
   refine q_then_r ?_
   replace H := H.nilOwn Int n0 n0
   obtain rfl := Option.some.inj h
   exact fin_ret (v := (.slice none 0 0)) (results_ok Try.results29 (res_tmp (v := (.slice none 0 0)) rfl res_nil) rfl) ⟨none, 0, rfl, rfl⟩ (H.sel' [0] rfl rfl)
  ·replace h := bif_f hb14 h
   refine c_skip ?_
   refine q_then ?_
   refine c_seq ?_
   refine c_seq ?_
   refine rg ?_
   refine st (v := (I 1)) (rv_assign rfl) ?_
   refine w_end ?_
   refine q_then ?_
   obtain ⟨o15, hj, h'⟩ := bind_some h
   clear h
   refine c_cut (fun e a w => e = .normal ∧ ∃ (ρ : Nat → Value) (σ : St) (aj1 : Option Addr) (cj2 : Nat), a = fr 79 (updL ρ [(5, (Sl aj1 o15 cj2))]) ∧ w = σ.w ∧ Hp S0 σ0 σ [Ch.own n0 n0 (Sl aj1 o15 cj2) o15]) ?_ ?_
   ·clear h'
    rename _ = some o15 => h
    refine c_blk ?_
    refine wp_loopM _ h (fun s16 a w => ∃ (ρ : Nat → Value) (σ : St) (aj1 : Option Addr) (cj2 : Nat), a = fr 79 (updL ρ [(0, (Sl aa_0 a_0 ca_0)), (1, (Sl ab_1 b_1 cb_1)), (5, (Sl aj1 s16.1 cj2)), (6, (I s16.2))]) ∧ w = σ.w ∧ Hp S0 σ0 σ [Ch.ro 0 (Sl aa_0 a_0 ca_0) a_0, Ch.ro 0 (Sl ab_1 b_1 cb_1) b_1, Ch.own n0 n0 (Sl aj1 s16.1 cj2) s16.1]) ⟨_, σ13, (some ⟨b1, 0, none⟩), 0, fr_join ⟨rfl, rfl, rfl, rfl, trivial⟩, rfl, H.sel' [0, 1, 2] rfl rfl⟩ ?_
    clear h H
    rintro s16 a w o ⟨ρ, σ17, a18, c19, rfl, rfl, H⟩ h hres
    refine c_seq ?_
    refine c_seq ?_
    refine rg ?_
    refine st (v := (I s16.2)) (rv_move rfl) ?_
    refine st (v := (B (decide (s16.2 ≤ 99)))) (rv_leq (a := s16.2) (b := 99) rfl rfl) ?_
    refine w_end ?_
    refine q_then ?_
    refine cd_cond (decide (s16.2 ≤ 99)) rfl (fun hb20 => ?_) (fun hb20 => ?_)
    ·replace h := bif_t hb20 h
     refine c_skip ?_
     refine q_then ?_
     refine c_seq ?_
     obtain ⟨o21, hj, h'⟩ := bind_some h
     clear h
     refine c_cut (fun e a w => e = .normal ∧ ∃ (ρ : Nat → Value) (σ : St) (aj1 : Option Addr) (cj2 : Nat), a = fr 79 (updL ρ [(0, (Sl aa_0 a_0 ca_0)), (1, (Sl ab_1 b_1 cb_1)), (5, (Sl aj1 o21 cj2)), (6, (I s16.2))]) ∧ w = σ.w ∧ Hp S0 σ0 σ [Ch.ro 0 (Sl aa_0 a_0 ca_0) a_0, Ch.ro 0 (Sl ab_1 b_1 cb_1) b_1, Ch.own n0 n0 (Sl aj1 o21 cj2) o21]) ?_ ?_
     ·clear h'
      rename _ = some o21 => h
      refine c_blk ?_
      refine c_seq ?_
      refine c_seq ?_
      obtain ⟨o22, hj, h'⟩ := bind_some h
      clear h
      refine c_cut (fun e a w => e = .normal ∧ ∃ (ρ : Nat → Value) (σ : St), a = fr 79 (updL ρ [(0, (Sl aa_0 a_0 ca_0)), (1, (Sl ab_1 b_1 cb_1)), (5, (Sl a18 s16.1 c19)), (6, (I s16.2)), (31, (B o22))]) ∧ w = σ.w ∧ Hp S0 σ0 σ [Ch.ro 0 (Sl aa_0 a_0 ca_0) a_0, Ch.ro 0 (Sl ab_1 b_1 cb_1) b_1, Ch.own n0 n0 (Sl a18 s16.1 c19) s16.1]) ?_ ?_
      ·clear h'
       rename _ = some o22 => h
       refine rg ?_
       refine st (v := (Sl aa_0 a_0 ca_0)) (rv_move rfl) ?_
       refine st (v := (I s16.2)) (rv_move rfl) ?_
       obtain ⟨r23, hx24, h'⟩ := bind_some h
       clear h
       have h := h'; clear h'
       have hc25 := c_spec_hitAt (alist_0 := aa_0) (clist_0 := ca_0) hx24
       refine st_call (cx_call hc25 (ent_f hc25.fn rfl) hn0 (show Hp S0 σ0 _ ([Ch.ro 0 (Sl aa_0 a_0 ca_0) a_0] ++ [Ch.ro 0 (Sl aa_0 a_0 ca_0) a_0, Ch.ro 0 (Sl ab_1 b_1 cb_1) b_1, Ch.own n0 n0 (Sl a18 s16.1 c19) s16.1]) from (H.sel' [0, 0, 1, 2] rfl rfl))) wn ?_
       rintro _ σ26 ⟨_, ⟨rfl, rfl⟩, H, -⟩
       replace H : Hp S0 σ0 σ26 [Ch.ro 0 (Sl aa_0 a_0 ca_0) a_0, Ch.ro 0 (Sl ab_1 b_1 cb_1) b_1, Ch.own n0 n0 (Sl a18 s16.1 c19) s16.1] := H
       refine st (v := (B (decide (r23 < 0)))) (rv_lss (a := r23) (b := 0) rfl rfl) ?_
       refine st (v := (B (decide (r23 < 0)))) (rv_move rfl) ?_
       rcases Bool.eq_false_or_eq_true (decide (r23 < 0)) with hb27 | hb27
       ·replace h := bif_t hb27 h
        refine st_g (v := (Sl ab_1 b_1 cb_1)) (congrArg some hb27) (rv_move rfl) ?_
        refine st_g (v := (I s16.2)) (congrArg some hb27) (rv_move rfl) ?_
        obtain ⟨r28, hx29, h'⟩ := bind_some h
        clear h
        have h := h'; clear h'
        have hc30 := c_spec_hitAt (alist_0 := ab_1) (clist_0 := cb_1) hx29
        refine st_call (cx_call hc30 (ent_f hc30.fn rfl) hn0 (show Hp S0 σ0 _ ([Ch.ro 0 (Sl ab_1 b_1 cb_1) b_1] ++ [Ch.ro 0 (Sl aa_0 a_0 ca_0) a_0, Ch.ro 0 (Sl ab_1 b_1 cb_1) b_1, Ch.own n0 n0 (Sl a18 s16.1 c19) s16.1]) from (H.sel' [1, 0, 1, 2] rfl rfl))) (wanted_yes rfl (by exact (congrArg some hb27))) ?_
        rintro _ σ31 ⟨_, ⟨rfl, rfl⟩, H, -⟩
        replace H : Hp S0 σ0 σ31 [Ch.ro 0 (Sl aa_0 a_0 ca_0) a_0, Ch.ro 0 (Sl ab_1 b_1 cb_1) b_1, Ch.own n0 n0 (Sl a18 s16.1 c19) s16.1] := H
        refine st_g (v := (B (decide (r28 < 0)))) (congrArg some hb27) (rv_lss (a := r28) (b := 0) rfl rfl) ?_
        refine st (v := (B (decide (r28 < 0)))) (rv_pick_t (congrArg B hb27) rfl) ?_
        refine w_end ?_
        obtain rfl := Option.some.inj h
        exact ⟨rfl, _, σ31, fr_join ⟨rfl, rfl, rfl, rfl, rfl, trivial⟩, rfl, H.sel' [0, 1, 2] rfl rfl⟩
       ·replace h := bif_f hb27 h
        refine st_skip (congrArg some hb27) ?_
        refine st_skip (congrArg some hb27) ?_
        refine st_skip (congrArg some hb27) ?_
        refine st_skip (congrArg some hb27) ?_
        refine st (v := (B false)) (rv_pick_f (congrArg B hb27) rfl) ?_
        refine w_end ?_
        obtain rfl := Option.some.inj h
        exact ⟨rfl, _, σ26, fr_join ⟨rfl, rfl, rfl, rfl, rfl, trivial⟩, rfl, H.sel' [0, 1, 2] rfl rfl⟩
      ·clear hj
       have h := h'
       clear h' H
       rintro e a w ⟨rfl, ρ, σ32, rfl, rfl, H⟩
       refine q_then ?_
       refine cd_cond o22 rfl (fun hb33 => ?_) (fun hb33 => ?_)
       ·replace h := bif_t hb33 h
        refine c_exit ?_
        refine q_then_x ?_
        refine q_blk_hit ?_
        obtain rfl := Option.some.inj h
        exact ⟨rfl, _, σ32, a18, c19, fr_join ⟨rfl, rfl, rfl, rfl, trivial⟩, rfl, H.sel' [0, 1, 2] rfl rfl⟩
       ·replace h := bif_f hb33 h
        refine c_skip ?_
        refine q_then ?_
        refine c_seq ?_
        refine rg ?_
        refine st (v := (Sl a18 s16.1 c19)) (rv_move rfl) ?_
        refine st (v := (I s16.2)) (rv_move rfl) ?_
        refine st_ex (ex_buildSlice (el := n0) (xs := ([s16.2] : List Int)) (ps := [(0, (I s16.2))]) (cs := [(I s16.2)]) H hn0 Try.underlying24 ti3 rfl rfl (by kernel_rfl) (.cons (c := [(I s16.2)]) rfl (.nil)) rfl) wn ?_
        rintro _ σ35 ⟨b34, rfl, H, -⟩
        obtain ⟨xs36, hx37, h'⟩ := bind_some h
        clear h
        have h := h'; clear h'
        refine st_ex (ex_append H (i := 3) rfl Try.underlying24 Try.underlying24 ti3 rfl rfl (by decide) (H.own 0 rfl).rd hx37 hn0 rfl rfl) wn ?_
        rintro _ σ40 ⟨a38, c39, rfl, H, -⟩
        refine st (v := (Sl a38 xs36 c39)) (rv_assign rfl) ?_
        refine w_end ?_
        refine q_then ?_
        refine c_seq ?_
        refine rg ?_
        refine st (v := (Sl a38 xs36 c39)) (rv_move rfl) ?_
        refine st (v := (I (xs36.length : Int))) (rv_len Try.underlying24 rfl) ?_
        refine st (v := (I (w64 ((xs36.length : Int) - 1)))) (rv_sub (a := (xs36.length : Int)) (b := 1) rfl rfl) ?_
        refine st (v := (I (w64 ((xs36.length : Int) - 1)))) (rv_assign rfl) ?_
        refine w_end ?_
        refine q_then ?_
        obtain ⟨o41, hj, h'⟩ := bind_some h
        clear h
        refine c_cut (fun e a w => e = .normal ∧ ∃ (ρ : Nat → Value) (σ : St), a = fr 79 (updL ρ [(0, (Sl aa_0 a_0 ca_0)), (1, (Sl ab_1 b_1 cb_1)), (5, (Sl a38 o41 c39)), (6, (I s16.2))]) ∧ w = σ.w ∧ Hp S0 σ0 σ [Ch.ro 0 (Sl aa_0 a_0 ca_0) a_0, Ch.ro 0 (Sl ab_1 b_1 cb_1) b_1, Ch.own n0 n0 (Sl a38 o41 c39) o41] ∧ o41.length = xs36.length) ?_ ?_
        ·clear h'
         rename _ = some o41 => h
         refine c_blk ?_
         refine wp_loopM _ h (fun s42 a w => ∃ (ρ : Nat → Value) (σ : St), a = fr 79 (updL ρ [(0, (Sl aa_0 a_0 ca_0)), (1, (Sl ab_1 b_1 cb_1)), (5, (Sl a38 s42.1 c39)), (6, (I s16.2)), (7, (I s42.2))]) ∧ w = σ.w ∧ Hp S0 σ0 σ [Ch.ro 0 (Sl aa_0 a_0 ca_0) a_0, Ch.ro 0 (Sl ab_1 b_1 cb_1) b_1, Ch.own n0 n0 (Sl a38 s42.1 c39) s42.1] ∧ s42.1.length = xs36.length) ⟨_, σ40, fr_join ⟨rfl, rfl, rfl, rfl, rfl, trivial⟩, rfl, H.sel' [2, 3, 0] rfl rfl, rfl⟩ ?_
         clear h H
         rintro s42 a w o ⟨ρ, σ43, rfl, rfl, H, hn44⟩ h hres
         refine c_seq ?_
         refine c_seq ?_
         obtain ⟨o45, hj, h'⟩ := bind_some h
         clear h
         refine c_cut (fun e a w => e = .normal ∧ ∃ (ρ : Nat → Value) (σ : St), a = fr 79 (updL ρ [(0, (Sl aa_0 a_0 ca_0)), (1, (Sl ab_1 b_1 cb_1)), (5, (Sl a38 s42.1 c39)), (6, (I s16.2)), (7, (I s42.2)), (58, (B o45))]) ∧ w = σ.w ∧ Hp S0 σ0 σ [Ch.ro 0 (Sl aa_0 a_0 ca_0) a_0, Ch.ro 0 (Sl ab_1 b_1 cb_1) b_1, Ch.own n0 n0 (Sl a38 s42.1 c39) s42.1]) ?_ ?_
         ·clear h'
          rename _ = some o45 => h
          rcases Bool.eq_false_or_eq_true (decide (0 < s42.2)) with hb46 | hb46
          ·replace h := bif_t hb46 h
           obtain ⟨x47, hx48, h'⟩ := bind_some h
           clear h
           have h := h'; clear h'
           obtain ⟨b50, o51, hi49, -⟩ := (H.own 2 rfl).ix hx48
           have hc52 := ((H.own 2 rfl).at hx48 hi49).int
           obtain ⟨r53, hx54, h'⟩ := bind_some h
           clear h
           have h := h'; clear h'
           have hc55 := c_spec_scoreOf (aa_0 := aa_0) (ca_0 := ca_0) (ab_1 := ab_1) (cb_1 := cb_1) hx54
           obtain ⟨x56, hx57, h'⟩ := bind_some h
           clear h
           have h := h'; clear h'
           obtain ⟨b59, o60, hi58, -⟩ := (H.own 2 rfl).ix hx57
           have hc61 := ((H.own 2 rfl).at hx57 hi58).int
           have Hs := H
           refine rg2 (σ := σ43) (Nm := Unit) 17 [9] [[false], [true]] [[(0, 0)], [(0, 0)], [(0, 0)], [(0, 0)], [(0, 0)], [(0, 0)], [(0, 0)], [(0, 0)], [(0, 0)], [(0, 1)], [(0, 0), (1, 1)], [(0, 0), (1, 1)], [(0, 0), (1, 1)], [(0, 0), (1, 1)], [(0, 0), (1, 1)], [(0, 0), (1, 1)], [(0, 0), (1, 1)]] 1 [fun _ => fun σm => Hp S0 σ0 σm [Ch.ro 0 (Sl aa_0 a_0 ca_0) a_0, Ch.ro 0 (Sl ab_1 b_1 cb_1) b_1, Ch.own n0 n0 (Sl a38 s42.1 c39) s42.1] ∧ Md (cov []) σ43 σm, fun _ => fun σm => Hp S0 σ0 σm [Ch.ro 0 (Sl aa_0 a_0 ca_0) a_0, Ch.ro 0 (Sl ab_1 b_1 cb_1) b_1, Ch.own n0 n0 (Sl a38 s42.1 c39) s42.1] ∧ Md (cov []) σ43 σm] [fun _ => (I s42.2), fun _ => (B (decide (0 < s42.2))), fun _ => (B (decide (0 < s42.2))), fun _ => (Sl aa_0 a_0 ca_0), fun _ => (Sl ab_1 b_1 cb_1), fun _ => (Sl a38 s42.1 c39), fun _ => (I s42.2), fun _ => (pt b50 o51), fun _ => (I x47), fun _ => (I r53), fun _ => (Sl aa_0 a_0 ca_0), fun _ => (Sl ab_1 b_1 cb_1), fun _ => (Sl a38 s42.1 c39), fun _ => (I s42.2), fun _ => (I (w64 (s42.2 - 1))), fun _ => (pt b59 o60), fun _ => (I x56)] () (by kernel_rfl) (by kernel_rfl) ?_ ?_ ?_
           ·intro σm m0
            exact ⟨H.grow (m0.mono fun _ h => h.elim), m0⟩
           ·refine ac rfl (by
              intro k _nm ρ σm hJ hoff hdep
              have e7 := look_off (N := 79) (hoff 7 rfl) rfl
              exact dp_v (v := (I s42.2)) wn (rv_move e7) rfl hJ) ?_
            refine ac rfl (by
              intro k _nm ρ σm hJ hoff hdep
              have e39 := hdep 0 rfl rfl 39 rfl
              exact dp_v (v := (B (decide (0 < s42.2)))) wn (rv_gtr (a := s42.2) (b := 0) e39 rfl) rfl hJ) ?_
            refine ac rfl (by
              intro k _nm ρ σm hJ hoff hdep
              have e40 := hdep 1 rfl rfl 40 rfl
              exact dp_v (v := (B (decide (0 < s42.2)))) wn (rv_move e40) rfl hJ) ?_
            refine ac rfl (by
              intro k _nm ρ σm hJ hoff hdep
              have e0 := look_off (N := 79) (hoff 0 rfl) rfl
              have e41 := hdep 2 rfl rfl 41 rfl
              exact dp_v (v := (Sl aa_0 a_0 ca_0)) (wanted_yes rfl (yv_of rfl (e41.trans (congrArg B hb46)))) (rv_move e0) rfl hJ) ?_
            refine ac rfl (by
              intro k _nm ρ σm hJ hoff hdep
              have e1 := look_off (N := 79) (hoff 1 rfl) rfl
              have e41 := hdep 2 rfl rfl 41 rfl
              exact dp_v (v := (Sl ab_1 b_1 cb_1)) (wanted_yes rfl (yv_of rfl (e41.trans (congrArg B hb46)))) (rv_move e1) rfl hJ) ?_
            refine ac rfl (by
              intro k _nm ρ σm hJ hoff hdep
              have e5 := look_off (N := 79) (hoff 5 rfl) rfl
              have e41 := hdep 2 rfl rfl 41 rfl
              exact dp_v (v := (Sl a38 s42.1 c39)) (wanted_yes rfl (yv_of rfl (e41.trans (congrArg B hb46)))) (rv_move e5) rfl hJ) ?_
            refine ac rfl (by
              intro k _nm ρ σm hJ hoff hdep
              have e7 := look_off (N := 79) (hoff 7 rfl) rfl
              have e41 := hdep 2 rfl rfl 41 rfl
              exact dp_v (v := (I s42.2)) (wanted_yes rfl (yv_of rfl (e41.trans (congrArg B hb46)))) (rv_move e7) rfl hJ) ?_
            refine ac rfl (by
              intro k _nm ρ σm hJ hoff hdep
              have e44 := hdep 5 rfl rfl 44 rfl
              have e45 := hdep 6 rfl rfl 45 rfl
              have e41 := hdep 2 rfl rfl 41 rfl
              exact dp_v (v := (pt b50 o51)) (wanted_yes rfl (yv_of rfl (e41.trans (congrArg B hb46)))) (rv_ix Try.underlying24 ti3 e44 e45 hi49) rfl hJ) ?_
            refine all_cons (by
              refine ⟨?_, ?_⟩
              ·intro _nm ρ σm hJ hoff hdep
               have e46 := hdep 7 rfl rfl 46 rfl
               have e41 := hdep 2 rfl rfl 41 rfl
               obtain ⟨H, m⟩ := id hJ
               have hc52 := ((H.own 2 rfl).at hx48 hi49).int
               exact dp_v (v := (I x47)) (wanted_yes rfl (yv_of rfl (e41.trans (congrArg B hb46)))) (rv_load1 Try.underlying3 rfl e46 hc52) rfl hJ
              trivial) ?_
            refine all_cons (by
              refine ⟨?_, ?_⟩
              ·intro _nm ρ σm hJ hoff hdep
               have e42 : look 79 ρ 42 = (Sl aa_0 a_0 ca_0) := hdep 3 rfl rfl 42 rfl
               have e43 : look 79 ρ 43 = (Sl ab_1 b_1 cb_1) := hdep 4 rfl rfl 43 rfl
               have e47 : look 79 ρ 47 = (I x47) := hdep 8 rfl rfl 47 rfl
               have e41 := hdep 2 rfl rfl 41 rfl
               obtain ⟨H, m⟩ := id hJ
               refine dp_cx (wanted_yes rfl (yv_of rfl (e41.trans (congrArg B hb46)))) (cx_call hc55 (ent_f hc55.fn (by show [look 79 ρ 42, look 79 ρ 43, look 79 ρ 47] = _; rw [e42, e43, e47])) hn0 (show Hp S0 σ0 _ ([Ch.ro 0 (Sl aa_0 a_0 ca_0) a_0, Ch.ro 0 (Sl ab_1 b_1 cb_1) b_1] ++ [Ch.ro 0 (Sl aa_0 a_0 ca_0) a_0, Ch.ro 0 (Sl ab_1 b_1 cb_1) b_1, Ch.own n0 n0 (Sl a38 s42.1 c39) s42.1]) from (H.sel' [0, 1, 0, 1, 2] rfl rfl))) ?_
               rintro _ σq ⟨_, ⟨rfl, rfl⟩, H2, m2⟩
               exact ⟨_, (), rfl, rfl, ⟨H2.sel' [0, 1, 2] rfl rfl, m.comp0 (m2.mono (fun i h => by simp [cov, Ch.ro] at h))⟩, stab [0, 1, 2, 3, 4, 5, 6, 7, 8, 10, 11, 12, 13, 14, 15, 16] (by kernel_rfl) ⟨rfl, rfl, rfl, rfl, rfl, rfl, rfl, rfl, rfl, rfl, rfl, rfl, rfl, rfl, rfl, rfl, trivial⟩⟩
              trivial) ?_
            refine ac rfl (by
              intro k _nm ρ σm hJ hoff hdep
              have e0 := look_off (N := 79) (hoff 0 rfl) rfl
              have e41 := hdep 2 rfl rfl 41 rfl
              exact dp_v (v := (Sl aa_0 a_0 ca_0)) (wanted_yes rfl (yv_of rfl (e41.trans (congrArg B hb46)))) (rv_move e0) rfl hJ) ?_
            refine ac rfl (by
              intro k _nm ρ σm hJ hoff hdep
              have e1 := look_off (N := 79) (hoff 1 rfl) rfl
              have e41 := hdep 2 rfl rfl 41 rfl
              exact dp_v (v := (Sl ab_1 b_1 cb_1)) (wanted_yes rfl (yv_of rfl (e41.trans (congrArg B hb46)))) (rv_move e1) rfl hJ) ?_
            refine ac rfl (by
              intro k _nm ρ σm hJ hoff hdep
              have e5 := look_off (N := 79) (hoff 5 rfl) rfl
              have e41 := hdep 2 rfl rfl 41 rfl
              exact dp_v (v := (Sl a38 s42.1 c39)) (wanted_yes rfl (yv_of rfl (e41.trans (congrArg B hb46)))) (rv_move e5) rfl hJ) ?_
            refine ac rfl (by
              intro k _nm ρ σm hJ hoff hdep
              have e7 := look_off (N := 79) (hoff 7 rfl) rfl
              have e41 := hdep 2 rfl rfl 41 rfl
              exact dp_v (v := (I s42.2)) (wanted_yes rfl (yv_of rfl (e41.trans (congrArg B hb46)))) (rv_move e7) rfl hJ) ?_
            refine ac rfl (by
              intro k _nm ρ σm hJ hoff hdep
              have e52 := hdep 13 rfl rfl 52 rfl
              have e41 := hdep 2 rfl rfl 41 rfl
              exact dp_v (v := (I (w64 (s42.2 - 1)))) (wanted_yes rfl (yv_of rfl (e41.trans (congrArg B hb46)))) (rv_sub (a := s42.2) (b := 1) e52 rfl) rfl hJ) ?_
            refine ac rfl (by
              intro k _nm ρ σm hJ hoff hdep
              have e51 := hdep 12 rfl rfl 51 rfl
              have e53 := hdep 14 rfl rfl 53 rfl
              have e41 := hdep 2 rfl rfl 41 rfl
              exact dp_v (v := (pt b59 o60)) (wanted_yes rfl (yv_of rfl (e41.trans (congrArg B hb46)))) (rv_ix Try.underlying24 ti3 e51 e53 hi58) rfl hJ) ?_
            refine all_cons (by
              refine ⟨?_, ?_⟩
              ·intro _nm ρ σm hJ hoff hdep
               have e54 := hdep 15 rfl rfl 54 rfl
               have e41 := hdep 2 rfl rfl 41 rfl
               obtain ⟨H, m⟩ := id hJ
               have hc61 := ((H.own 2 rfl).at hx57 hi58).int
               exact dp_v (v := (I x56)) (wanted_yes rfl (yv_of rfl (e41.trans (congrArg B hb46)))) (rv_load1 Try.underlying3 rfl e54 hc61) rfl hJ
              refine ⟨?_, ?_⟩
              ·intro _nm ρ σm hJ hoff hdep
               have e54 := hdep 15 rfl rfl 54 rfl
               have e41 := hdep 2 rfl rfl 41 rfl
               obtain ⟨H, m⟩ := id hJ
               have hc61 := ((H.own 2 rfl).at hx57 hi58).int
               exact dp_v (v := (I x56)) (wanted_yes rfl (yv_of rfl (e41.trans (congrArg B hb46)))) (rv_load1 Try.underlying3 rfl e54 hc61) rfl hJ
              trivial) ?_
            exact all_nil
           ·intro _nm ρ σ62 hJ hoff hrel
            have e0 := look_off (N := 79) (hoff 0 rfl) rfl
            have e1 := look_off (N := 79) (hoff 1 rfl) rfl
            have e5 := look_off (N := 79) (hoff 5 rfl) rfl
            have e6 := look_off (N := 79) (hoff 6 rfl) rfl
            have e7 := look_off (N := 79) (hoff 7 rfl) rfl
            have e41 := hrel 2 rfl 41 rfl
            have e48 := hrel 9 rfl 48 rfl
            have e49 := hrel 10 rfl 49 rfl
            have e50 := hrel 11 rfl 50 rfl
            have e55 := hrel 16 rfl 55 rfl
            obtain ⟨H, -⟩ := (show Hp S0 σ0 σ62 [Ch.ro 0 (Sl aa_0 a_0 ca_0) a_0, Ch.ro 0 (Sl ab_1 b_1 cb_1) b_1, Ch.own n0 n0 (Sl a38 s42.1 c39) s42.1] ∧ Md (cov []) σ43 σ62 from hJ)
            clear hJ Hs
            rw [fr_lookL (L := [(0, (Sl aa_0 a_0 ca_0)), (1, (Sl ab_1 b_1 cb_1)), (5, (Sl a38 s42.1 c39)), (6, (I s16.2)), (7, (I s42.2)), (41, (B (decide (0 < s42.2)))), (48, (I r53)), (49, (Sl aa_0 a_0 ca_0)), (50, (Sl ab_1 b_1 cb_1)), (55, (I x56))]) ⟨e0, e1, e5, e6, e7, e41, e48, e49, e50, e55, trivial⟩]
            clear hoff hrel e0 e1 e5 e6 e7 e41 e48 e49 e50 e55
            obtain ⟨r63, hx64, h'⟩ := bind_some h
            clear h
            have h := h'; clear h'
            have hc65 := c_spec_scoreOf (aa_0 := aa_0) (ca_0 := ca_0) (ab_1 := ab_1) (cb_1 := cb_1) hx64
            refine st_call (cx_call hc65 (ent_f hc65.fn rfl) hn0 (show Hp S0 σ0 _ ([Ch.ro 0 (Sl aa_0 a_0 ca_0) a_0, Ch.ro 0 (Sl ab_1 b_1 cb_1) b_1] ++ [Ch.ro 0 (Sl aa_0 a_0 ca_0) a_0, Ch.ro 0 (Sl ab_1 b_1 cb_1) b_1, Ch.own n0 n0 (Sl a38 s42.1 c39) s42.1]) from (H.sel' [0, 1, 0, 1, 2] rfl rfl))) (wanted_yes rfl (by exact (congrArg some hb46))) ?_
            rintro _ σ66 ⟨_, ⟨rfl, rfl⟩, H, -⟩
            replace H : Hp S0 σ0 σ66 [Ch.ro 0 (Sl aa_0 a_0 ca_0) a_0, Ch.ro 0 (Sl ab_1 b_1 cb_1) b_1, Ch.own n0 n0 (Sl a38 s42.1 c39) s42.1] := H
            refine st_g (v := (B (decide (r63 < r53)))) (congrArg some hb46) (rv_gtr (a := r53) (b := r63) rfl rfl) ?_
            refine st (v := (B (decide (r63 < r53)))) (rv_pick_t (congrArg B hb46) rfl) ?_
            refine w_end ?_
            obtain rfl := Option.some.inj h
            exact ⟨rfl, _, σ66, fr_join ⟨rfl, rfl, rfl, rfl, rfl, rfl, trivial⟩, rfl, H.sel' [0, 1, 2] rfl rfl⟩
          ·replace h := bif_f hb46 h
           have Hs := H
           refine rg2 (σ := σ43) (Nm := Unit) 17 [] [[]] [[(0, 0)], [(0, 0)], [(0, 0)], [(0, 0)], [(0, 0)], [(0, 0)], [(0, 0)], [(0, 0)], [(0, 0)], [(0, 0)], [(0, 0)], [(0, 0)], [(0, 0)], [(0, 0)], [(0, 0)], [(0, 0)], [(0, 0)]] 0 [fun _ => fun σm => Hp S0 σ0 σm [Ch.ro 0 (Sl aa_0 a_0 ca_0) a_0, Ch.ro 0 (Sl ab_1 b_1 cb_1) b_1, Ch.own n0 n0 (Sl a38 s42.1 c39) s42.1] ∧ Md (cov []) σ43 σm] [fun _ => (I s42.2), fun _ => (B (decide (0 < s42.2))), fun _ => (B (decide (0 < s42.2))), fun _ => undef, fun _ => undef, fun _ => undef, fun _ => undef, fun _ => undef, fun _ => undef, fun _ => undef, fun _ => undef, fun _ => undef, fun _ => undef, fun _ => undef, fun _ => undef, fun _ => undef, fun _ => undef] () (by kernel_rfl) (by kernel_rfl) ?_ ?_ ?_
           ·intro σm m0
            exact ⟨H.grow (m0.mono fun _ h => h.elim), m0⟩
           ·refine ac rfl (by
              intro k _nm ρ σm hJ hoff hdep
              have e7 := look_off (N := 79) (hoff 7 rfl) rfl
              exact dp_v (v := (I s42.2)) wn (rv_move e7) rfl hJ) ?_
            refine ac rfl (by
              intro k _nm ρ σm hJ hoff hdep
              have e39 := hdep 0 rfl rfl 39 rfl
              exact dp_v (v := (B (decide (0 < s42.2)))) wn (rv_gtr (a := s42.2) (b := 0) e39 rfl) rfl hJ) ?_
            refine ac rfl (by
              intro k _nm ρ σm hJ hoff hdep
              have e40 := hdep 1 rfl rfl 40 rfl
              exact dp_v (v := (B (decide (0 < s42.2)))) wn (rv_move e40) rfl hJ) ?_
            refine ac rfl (by
              intro k _nm ρ σm hJ hoff hdep
              have e41 := hdep 2 rfl rfl 41 rfl
              exact dp_skip (wanted_no rfl (yv_of rfl (e41.trans (congrArg B hb46)))) rfl hJ) ?_
            refine ac rfl (by
              intro k _nm ρ σm hJ hoff hdep
              have e41 := hdep 2 rfl rfl 41 rfl
              exact dp_skip (wanted_no rfl (yv_of rfl (e41.trans (congrArg B hb46)))) rfl hJ) ?_
            refine ac rfl (by
              intro k _nm ρ σm hJ hoff hdep
              have e41 := hdep 2 rfl rfl 41 rfl
              exact dp_skip (wanted_no rfl (yv_of rfl (e41.trans (congrArg B hb46)))) rfl hJ) ?_
            refine ac rfl (by
              intro k _nm ρ σm hJ hoff hdep
              have e41 := hdep 2 rfl rfl 41 rfl
              exact dp_skip (wanted_no rfl (yv_of rfl (e41.trans (congrArg B hb46)))) rfl hJ) ?_
            refine ac rfl (by
              intro k _nm ρ σm hJ hoff hdep
              have e41 := hdep 2 rfl rfl 41 rfl
              exact dp_skip (wanted_no rfl (yv_of rfl (e41.trans (congrArg B hb46)))) rfl hJ) ?_
            refine ac rfl (by
              intro k _nm ρ σm hJ hoff hdep
              have e41 := hdep 2 rfl rfl 41 rfl
              exact dp_skip (wanted_no rfl (yv_of rfl (e41.trans (congrArg B hb46)))) rfl hJ) ?_
            refine ac rfl (by
              intro k _nm ρ σm hJ hoff hdep
              have e41 := hdep 2 rfl rfl 41 rfl
              exact dp_skip (wanted_no rfl (yv_of rfl (e41.trans (congrArg B hb46)))) rfl hJ) ?_
            refine ac rfl (by
              intro k _nm ρ σm hJ hoff hdep
              have e41 := hdep 2 rfl rfl 41 rfl
              exact dp_skip (wanted_no rfl (yv_of rfl (e41.trans (congrArg B hb46)))) rfl hJ) ?_
            refine ac rfl (by
              intro k _nm ρ σm hJ hoff hdep
              have e41 := hdep 2 rfl rfl 41 rfl
              exact dp_skip (wanted_no rfl (yv_of rfl (e41.trans (congrArg B hb46)))) rfl hJ) ?_
            refine ac rfl (by
              intro k _nm ρ σm hJ hoff hdep
              have e41 := hdep 2 rfl rfl 41 rfl
              exact dp_skip (wanted_no rfl (yv_of rfl (e41.trans (congrArg B hb46)))) rfl hJ) ?_
            refine ac rfl (by
              intro k _nm ρ σm hJ hoff hdep
              have e41 := hdep 2 rfl rfl 41 rfl
              exact dp_skip (wanted_no rfl (yv_of rfl (e41.trans (congrArg B hb46)))) rfl hJ) ?_
            refine ac rfl (by
              intro k _nm ρ σm hJ hoff hdep
              have e41 := hdep 2 rfl rfl 41 rfl
              exact dp_skip (wanted_no rfl (yv_of rfl (e41.trans (congrArg B hb46)))) rfl hJ) ?_
            refine ac rfl (by
              intro k _nm ρ σm hJ hoff hdep
              have e41 := hdep 2 rfl rfl 41 rfl
              exact dp_skip (wanted_no rfl (yv_of rfl (e41.trans (congrArg B hb46)))) rfl hJ) ?_
            refine ac rfl (by
              intro k _nm ρ σm hJ hoff hdep
              have e41 := hdep 2 rfl rfl 41 rfl
              exact dp_skip (wanted_no rfl (yv_of rfl (e41.trans (congrArg B hb46)))) rfl hJ) ?_
            exact all_nil
           ·intro _nm ρ σ67 hJ hoff hrel
            have e0 := look_off (N := 79) (hoff 0 rfl) rfl
            have e1 := look_off (N := 79) (hoff 1 rfl) rfl
            have e5 := look_off (N := 79) (hoff 5 rfl) rfl
            have e6 := look_off (N := 79) (hoff 6 rfl) rfl
            have e7 := look_off (N := 79) (hoff 7 rfl) rfl
            have e41 := hrel 2 rfl 41 rfl
            have e48 := hrel 9 rfl 48 rfl
            have e49 := hrel 10 rfl 49 rfl
            have e50 := hrel 11 rfl 50 rfl
            have e55 := hrel 16 rfl 55 rfl
            obtain ⟨H, -⟩ := (show Hp S0 σ0 σ67 [Ch.ro 0 (Sl aa_0 a_0 ca_0) a_0, Ch.ro 0 (Sl ab_1 b_1 cb_1) b_1, Ch.own n0 n0 (Sl a38 s42.1 c39) s42.1] ∧ Md (cov []) σ43 σ67 from hJ)
            clear hJ Hs
            rw [fr_lookL (L := [(0, (Sl aa_0 a_0 ca_0)), (1, (Sl ab_1 b_1 cb_1)), (5, (Sl a38 s42.1 c39)), (6, (I s16.2)), (7, (I s42.2)), (41, (B (decide (0 < s42.2)))), (48, undef), (49, undef), (50, undef), (55, undef)]) ⟨e0, e1, e5, e6, e7, e41, e48, e49, e50, e55, trivial⟩]
            clear hoff hrel e0 e1 e5 e6 e7 e41 e48 e49 e50 e55
            refine st_skip (congrArg some hb46) ?_
            refine st_skip (congrArg some hb46) ?_
            refine st (v := (B false)) (rv_pick_f (congrArg B hb46) rfl) ?_
            refine w_end ?_
            obtain rfl := Option.some.inj h
            exact ⟨rfl, _, σ67, fr_join ⟨rfl, rfl, rfl, rfl, rfl, rfl, trivial⟩, rfl, H.sel' [0, 1, 2] rfl rfl⟩
         ·clear hj
          have h := h'
          clear h' H
          rintro e a w ⟨rfl, ρ, σ68, rfl, rfl, H⟩
          refine q_then ?_
          refine cd_cond o45 rfl (fun hb69 => ?_) (fun hb69 => ?_)
          ·replace h := bif_t hb69 h
           refine c_skip ?_
           refine q_then ?_
           refine c_seq ?_
           refine c_blk ?_
           refine c_seq ?_
           refine rg ?_
           refine st (v := (Sl a38 s42.1 c39)) (rv_move rfl) ?_
           refine st (v := (I s42.2)) (rv_move rfl) ?_
           obtain ⟨x70, hx71, h'⟩ := bind_some h
           clear h
           have h := h'; clear h'
           obtain ⟨b73, o74, hi72, -⟩ := (H.own 2 rfl).ix hx71
           refine st (v := (pt b73 o74)) (rv_ix Try.underlying24 ti3 rfl rfl hi72) ?_
           have hc75 := ((H.own 2 rfl).at hx71 hi72).int
           refine st (v := (I x70)) (rv_load1 Try.underlying3 rfl rfl hc75) ?_
           refine st (v := (I x70)) (rv_assign rfl) ?_
           refine w_end ?_
           refine q_then ?_
           refine c_seq ?_
           refine rg ?_
           refine st (v := (Sl a38 s42.1 c39)) (rv_move rfl) ?_
           refine st (v := (I s42.2)) (rv_move rfl) ?_
           refine st (v := (Sl a38 s42.1 c39)) (rv_move rfl) ?_
           refine st (v := (I s42.2)) (rv_move rfl) ?_
           refine st (v := (I (w64 (s42.2 - 1)))) (rv_sub (a := s42.2) (b := 1) rfl rfl) ?_
           obtain ⟨x76, hx77, h'⟩ := bind_some h
           clear h
           have h := h'; clear h'
           obtain ⟨b79, o80, hi78, -⟩ := (H.own 2 rfl).ix hx77
           refine st (v := (pt b79 o80)) (rv_ix Try.underlying24 ti3 rfl rfl hi78) ?_
           have hc81 := ((H.own 2 rfl).at hx77 hi78).int
           refine st (v := (I x76)) (rv_load1 Try.underlying3 rfl rfl hc81) ?_
           obtain ⟨x82, hx83, h'⟩ := bind_some h
           clear h
           have h := h'; clear h'
           obtain ⟨b85, o86, hi84, -⟩ := (H.own 2 rfl).ix hx83
           refine st (v := (pt b85 o86)) (rv_ix Try.underlying24 ti3 rfl rfl hi84) ?_
           refine st_exS (ex_store_own (e' := x76) (vs := [(I x76)]) (k := 0) H (i := 2) rfl ti3 hx83 hi84 rfl rfl rfl rfl rfl (Nat.le_of_ble_eq_true rfl) (by simp [plain]) (by rintro _ rfl; exact rfl)) wn ?_
           rintro σ87 ⟨H, -⟩
           have hsl : (Sl a38 s42.1 c39) = (Sl a38 (s42.1.set s42.2.toNat x76) c39) := sl_len List.length_set.symm
           rw [hsl]; rw [hsl] at H; clear hsl
           refine w_end ?_
           refine q_then ?_
           refine rg ?_
           refine st (v := (Sl a38 (s42.1.set s42.2.toNat x76) c39)) (rv_move rfl) ?_
           refine st (v := (I s42.2)) (rv_move rfl) ?_
           refine st (v := (I (w64 (s42.2 - 1)))) (rv_sub (a := s42.2) (b := 1) rfl rfl) ?_
           refine st (v := (I x70)) (rv_move rfl) ?_
           obtain ⟨x88, hx89, h'⟩ := bind_some h
           clear h
           have h := h'; clear h'
           obtain ⟨b91, o92, hi90, -⟩ := (H.own 0 rfl).ix hx89
           refine st (v := (pt b91 o92)) (rv_ix Try.underlying24 ti3 rfl rfl hi90) ?_
           refine st_exS (ex_store_own (e' := x70) (vs := [(I x70)]) (k := 0) H (i := 0) rfl ti3 hx89 hi90 rfl rfl rfl rfl rfl (Nat.le_of_ble_eq_true rfl) (by simp [plain]) (by rintro _ rfl; exact rfl)) wn ?_
           rintro σ93 ⟨H, -⟩
           have hsl : (Sl a38 (s42.1.set s42.2.toNat x76) c39) = (Sl a38 ((s42.1.set s42.2.toNat x76).set (w64 (s42.2 - 1)).toNat x70) c39) := sl_len List.length_set.symm
           rw [hsl]; rw [hsl] at H; clear hsl
           refine w_end ?_
           refine q_blk ?_
           refine q_then ?_
           refine rg ?_
           refine st (v := (I s42.2)) (rv_move rfl) ?_
           refine st (v := (I (w64 (s42.2 - 1)))) (rv_sub (a := s42.2) (b := 1) rfl rfl) ?_
           refine st (v := (I (w64 (s42.2 - 1)))) (rv_assign rfl) ?_
           refine w_end ?_
           refine q_then ?_
           obtain rfl := Option.some.inj h
           exact ⟨_, rfl, _, σ93, fr_join ⟨rfl, rfl, rfl, rfl, rfl, trivial⟩, rfl, H.sel' [1, 2, 0] rfl rfl, (List.length_set.trans (List.length_set.trans hn44))⟩
          ·replace h := bif_f hb69 h
           refine c_exit ?_
           refine q_then_x ?_
           refine q_then_x ?_
           refine q_blk_hit ?_
           obtain rfl := Option.some.inj h
           obtain rfl := hres _ rfl
           exact ⟨rfl, _, σ68, fr_join ⟨rfl, rfl, rfl, rfl, trivial⟩, rfl, H.sel' [0, 1, 2] rfl rfl, hn44⟩
        ·clear hj
         have h := h'
         clear h' H
         rintro e a w ⟨rfl, ρ, σ94, rfl, rfl, H, hn95⟩
         refine q_blk ?_
         obtain rfl := Option.some.inj h
         exact ⟨rfl, _, σ94, a38, c39, fr_join ⟨rfl, rfl, rfl, rfl, trivial⟩, rfl, H.sel' [0, 1, 2] rfl rfl⟩
     ·clear hj
      have h := h'
      clear h' H
      rintro e a w ⟨rfl, ρ, σ96, a97, c98, rfl, rfl, H⟩
      refine q_then ?_
      refine rg ?_
      refine st (v := (I s16.2)) (rv_move rfl) ?_
      refine st (v := (I (w64 (s16.2 + 1)))) (rv_add (a := s16.2) (b := 1) rfl rfl) ?_
      refine st (v := (I (w64 (s16.2 + 1)))) (rv_assign rfl) ?_
      refine w_end ?_
      refine q_then ?_
      obtain rfl := Option.some.inj h
      exact ⟨_, rfl, _, σ96, a97, c98, fr_join ⟨rfl, rfl, rfl, rfl, trivial⟩, rfl, H.sel' [0, 1, 2] rfl rfl⟩
    ·replace h := bif_f hb20 h
     refine c_exit ?_
     refine q_then_x ?_
     refine q_then_x ?_
     refine q_blk_hit ?_
     obtain rfl := Option.some.inj h
     obtain rfl := hres _ rfl
     exact ⟨rfl, _, σ17, a18, c19, fr_join ⟨rfl, trivial⟩, rfl, H.sel' [2] rfl rfl⟩
   ·clear hj
    have h := h'
    clear h' H
    rintro e a w ⟨rfl, ρ, σ99, a100, c101, rfl, rfl, H⟩
    refine q_then ?_
    refine c_seq ?_
    refine rg ?_
    refine st (v := (Sl a100 o15 c101)) (rv_move rfl) ?_
    refine st (v := (Sl a100 o15 c101)) (rv_assign rfl) ?_
    refine w_end ?_
    refine q_then ?_
    refine c_ret ?_
    obtain rfl := Option.some.inj h
    exact fin_ret (v := (Sl a100 o15 c101)) (results_ok Try.results29 (res_tmp (v := (Sl a100 o15 c101)) rfl res_nil) rfl) ⟨a100, c101, rfl, rfl⟩ (H.sel' [0] rfl rfl)

theorem c_laws_FnFuseRanks {code_0 : List UInt8} {acode_0 : Option Addr} {ccode_0 : Nat} {r : Bool} (h : M.laws_FnFuseRanks code_0 = some r) :
    Cal2 Try.prog 9 [(Sl acode_0 code_0 ccode_0)] [Ch.ro 0 (Sl acode_0 code_0 ccode_0) code_0] (fun n0 v L => v = (B r) ∧ L = []) := by
 refine cal2 (n := 139) Try.func9 rfl rfl rfl rfl ?_
 intro S0 σ0 n0 hn0 H
 unfold M.laws_FnFuseRanks at h
 refine c_seq ?_
 refine rg ?_
 refine st (v := (B false)) (rv_assign rfl) ?_
 refine w_end ?_
 refine q_then ?_
 refine c_seq ?_
 refine c_seq ?_
 refine rg ?_
 refine st (v := (Sl acode_0 code_0 ccode_0)) (rv_move rfl) ?_
 refine st (v := (I (code_0.length : Int))) (rv_len Try.underlying22 rfl) ?_
 refine st (v := (B (decide (1048576 < (code_0.length : Int))))) (rv_gtr (a := (code_0.length : Int)) (b := 1048576) rfl rfl) ?_
 refine w_end ?_
 refine q_then ?_
 refine cd_cond (decide (1048576 < (code_0.length : Int))) rfl (fun hb1 => ?_) (fun hb1 => ?_)
 ·replace h := bif_t hb1 h
  refine c_seq ?_
  refine rg ?_
  refine st (v := (B true)) (rv_assign rfl) ?_
  refine w_end ?_
  refine q_then ?_
  refine c_ret ?_
  refine q_then_r ?_
  obtain rfl := Option.some.inj h
  exact fin_ret (v := (B true)) (results_ok Try.results9 (res_tmp (v := (B true)) rfl res_nil) rfl) ⟨rfl, rfl⟩ (H.sel' [] rfl rfl)
 ·replace h := bif_f hb1 h
  refine c_skip ?_
  refine q_then ?_
  refine c_seq ?_
  refine rg ?_
  refine st (v := (Sl acode_0 code_0 ccode_0)) (rv_move rfl) ?_
  obtain ⟨r2, hx3, h'⟩ := bind_some h
  clear h
  have h := h'; clear h'
  have hc4 := c_spec_DrawFuseRanks (acode_0 := acode_0) (ccode_0 := ccode_0) hx3
  refine st_call (cx_call hc4 (ent_f hc4.fn rfl) hn0 (show Hp S0 σ0 _ ([Ch.ro 0 (Sl acode_0 code_0 ccode_0) code_0] ++ [Ch.ro 0 (Sl acode_0 code_0 ccode_0) code_0]) from (H.sel' [0, 0] rfl rfl))) wn ?_
  rintro _ σ9 ⟨_, ⟨a5, c6, a7, c8, rfl, rfl⟩, H, -⟩
  replace H : Hp S0 σ0 σ9 [Ch.own n0 n0 (Sl a5 r2.1 c6) r2.1, Ch.own n0 n0 (Sl a7 r2.2 c8) r2.2, Ch.ro 0 (Sl acode_0 code_0 ccode_0) code_0] := H
  refine st (v := (.tuple #[(Sl a5 r2.1 c6), (Sl a7 r2.2 c8)])) (rv_move rfl) ?_
  refine st (v := (Sl a5 r2.1 c6)) (rv_extract rfl rfl) ?_
  refine st (v := (Sl a7 r2.2 c8)) (rv_extract rfl rfl) ?_
  refine st (v := (Sl a5 r2.1 c6)) (rv_assign rfl) ?_
  refine st (v := (Sl a7 r2.2 c8)) (rv_assign rfl) ?_
  refine w_end ?_
  refine q_then ?_
  refine c_seq ?_
  refine rg ?_
  refine st (v := (Sl a5 r2.1 c6)) (rv_move rfl) ?_
  refine st (v := (Sl a7 r2.2 c8)) (rv_move rfl) ?_
  obtain ⟨r10, hx11, h'⟩ := bind_some h
  clear h
  have h := h'; clear h'
  have hc12 := c_impl_FuseRanks (aa_0 := a5) (ca_0 := c6) (ab_1 := a7) (cb_1 := c8) hx11
  have hle := Nat.le_trans hn0 H.size
  refine st_call (cx_lend (Loan.lend (Loan.lend Loan.nil)) hc12 (ent_f hc12.fn rfl) (show Hp S0 σ0 _ ([Ch.own n0 n0 (Sl a5 r2.1 c6) r2.1, Ch.own n0 n0 (Sl a7 r2.2 c8) r2.2] ++ ([] ++ [Ch.ro 0 (Sl acode_0 code_0 ccode_0) code_0])) from (H.sel' [0, 1, 2] rfl rfl)) (by rintro _ _ _ ⟨_, _, rfl, rfl⟩; exact ⟨Ab.ownSc, trivial⟩)) wn ?_
  rintro _ σ15 ⟨_, ⟨a13, c14, rfl, rfl⟩, H, -, -⟩
  replace H : Hp S0 σ0 σ15 [Ch.own 0 σ9.size (Sl a13 r10 c14) r10, Ch.own n0 n0 (Sl a5 r2.1 c6) r2.1, Ch.own n0 n0 (Sl a7 r2.2 c8) r2.2, Ch.ro 0 (Sl acode_0 code_0 ccode_0) code_0] := H
  replace H := H.ownLow 0 0 n0 rfl (Nat.le_refl _) hle
  clear hle
  replace H : Hp S0 σ0 σ15 [Ch.own 0 n0 (Sl a13 r10 c14) r10, Ch.own n0 n0 (Sl a5 r2.1 c6) r2.1, Ch.own n0 n0 (Sl a7 r2.2 c8) r2.2, Ch.ro 0 (Sl acode_0 code_0 ccode_0) code_0] := H
  refine st (v := (Sl a13 r10 c14)) (rv_assign rfl) ?_
  refine w_end ?_
  refine q_then ?_
  refine c_seq ?_
  refine c_seq ?_
  obtain ⟨o16, hj, h'⟩ := bind_some h
  clear h
  refine c_cut (fun e a w => e = .normal ∧ ∃ (ρ : Nat → Value) (σ : St), a = fr 139 (updL ρ [(3, (Sl a5 r2.1 c6)), (4, (Sl a7 r2.2 c8)), (5, (Sl a13 r10 c14)), (37, (B o16))]) ∧ w = σ.w ∧ Hp S0 σ0 σ [Ch.own n0 n0 (Sl a5 r2.1 c6) r2.1, Ch.own n0 n0 (Sl a7 r2.2 c8) r2.2, Ch.own 0 n0 (Sl a13 r10 c14) r10]) ?_ ?_
  ·clear h'
   rename _ = some o16 => h
   refine rg ?_
   refine st (v := (Sl a13 r10 c14)) (rv_move rfl) ?_
   refine st (v := (Sl a5 r2.1 c6)) (rv_move rfl) ?_
   refine st (v := (Sl a7 r2.2 c8)) (rv_move rfl) ?_
   obtain ⟨r17, hx18, h'⟩ := bind_some h
   clear h
   have h := h'; clear h'
   have hc19 := c_spec_FuseRanks (aa_0 := a5) (ca_0 := c6) (ab_1 := a7) (cb_1 := c8) hx18
   have hle := Nat.le_trans hn0 H.size
   refine st_call (cx_lend (Loan.lend (Loan.lend Loan.nil)) hc19 (ent_f hc19.fn rfl) (show Hp S0 σ0 _ ([Ch.own n0 n0 (Sl a5 r2.1 c6) r2.1, Ch.own n0 n0 (Sl a7 r2.2 c8) r2.2] ++ ([] ++ [Ch.own 0 n0 (Sl a13 r10 c14) r10, Ch.ro 0 (Sl acode_0 code_0 ccode_0) code_0])) from (H.sel' [1, 2, 0, 3] rfl rfl)) (by rintro _ _ _ ⟨_, _, rfl, rfl⟩; exact ⟨Ab.ownSc, trivial⟩)) wn ?_
   rintro _ σ22 ⟨_, ⟨a20, c21, rfl, rfl⟩, H, -, -⟩
   replace H : Hp S0 σ0 σ22 [Ch.own σ15.size σ15.size (Sl a20 r17 c21) r17, Ch.own n0 n0 (Sl a5 r2.1 c6) r2.1, Ch.own n0 n0 (Sl a7 r2.2 c8) r2.2, Ch.own 0 n0 (Sl a13 r10 c14) r10, Ch.ro 0 (Sl acode_0 code_0 ccode_0) code_0] := H
   replace H := H.ownLow 0 n0 n0 rfl hle hle
   clear hle
   replace H : Hp S0 σ0 σ22 [Ch.own n0 n0 (Sl a20 r17 c21) r17, Ch.own n0 n0 (Sl a5 r2.1 c6) r2.1, Ch.own n0 n0 (Sl a7 r2.2 c8) r2.2, Ch.own 0 n0 (Sl a13 r10 c14) r10, Ch.ro 0 (Sl acode_0 code_0 ccode_0) code_0] := H
   obtain ⟨σ23, hw24, H, -⟩ := H.pub 0 rfl (Nat.le_refl _)
   rw [← hw24]; clear hw24
   replace H := H.roLow 0 0 rfl (Nat.zero_le _)
   obtain ⟨r25, hx26, h'⟩ := bind_some h
   clear h
   have h := h'; clear h'
   have hc27 := c_laws_equalInts (aa_0 := a13) (ca_0 := c14) (ab_1 := a20) (cb_1 := c21) hx26
   have hle := Nat.le_trans hn0 H.size
   refine st_call (cx_lend (Loan.lend (Loan.same Loan.nil)) hc27 (ent_f hc27.fn rfl) (show Hp S0 σ0 _ ([Ch.own 0 n0 (Sl a13 r10 c14) r10] ++ ([Ch.ro 0 (Sl a20 r17 c21) r17] ++ [Ch.ro 0 (Sl a20 r17 c21) r17, Ch.ro n0 (Sl a20 r17 c21) r17, Ch.own n0 n0 (Sl a5 r2.1 c6) r2.1, Ch.own n0 n0 (Sl a7 r2.2 c8) r2.2, Ch.ro 0 (Sl acode_0 code_0 ccode_0) code_0])) from (H.sel' [4, 0, 0, 1, 2, 3, 5] rfl rfl)) (by rintro _ _ _ ⟨rfl, rfl⟩; exact trivial)) wn ?_
   rintro _ σ28 ⟨_, ⟨rfl, rfl⟩, H, -, -⟩
   replace H : Hp S0 σ0 σ28 [Ch.own 0 n0 (Sl a13 r10 c14) r10, Ch.ro 0 (Sl a20 r17 c21) r17, Ch.ro n0 (Sl a20 r17 c21) r17, Ch.own n0 n0 (Sl a5 r2.1 c6) r2.1, Ch.own n0 n0 (Sl a7 r2.2 c8) r2.2, Ch.ro 0 (Sl acode_0 code_0 ccode_0) code_0] := H
   clear hle
   replace H : Hp S0 σ0 σ28 [Ch.own 0 n0 (Sl a13 r10 c14) r10, Ch.ro 0 (Sl a20 r17 c21) r17, Ch.ro n0 (Sl a20 r17 c21) r17, Ch.own n0 n0 (Sl a5 r2.1 c6) r2.1, Ch.own n0 n0 (Sl a7 r2.2 c8) r2.2, Ch.ro 0 (Sl acode_0 code_0 ccode_0) code_0] := H
   refine st (v := (B (!r25))) (rv_not rfl) ?_
   refine st (v := (B (!r25))) (rv_move rfl) ?_
   rcases Bool.eq_false_or_eq_true (!r25) with hb29 | hb29
   ·replace h := bif_t hb29 h
    refine st_skip (congrArg some hb29) ?_
    refine st_skip (congrArg some hb29) ?_
    refine st_skip (congrArg some hb29) ?_
    refine st (v := (B true)) (rv_pick_t (congrArg B hb29) rfl) ?_
    refine st (v := (B true)) (rv_move rfl) ?_
    refine st_skip rfl ?_
    refine st_skip rfl ?_
    refine st_skip rfl ?_
    refine st (v := (B true)) (rv_pick_t rfl rfl) ?_
    refine w_end ?_
    obtain rfl := Option.some.inj h
    exact ⟨rfl, _, σ28, fr_join ⟨rfl, rfl, rfl, rfl, trivial⟩, rfl, H.sel' [3, 4, 0] rfl rfl⟩
   ·replace h := bif_f hb29 h
    refine st_g (v := (Sl a5 r2.1 c6)) (congrArg some hb29) (rv_move rfl) ?_
    obtain ⟨r30, hx31, h'⟩ := bind_some h
    clear h
    have h := h'; clear h'
    have hc32 := c_impl_ValidHits (alist_0 := a5) (clist_0 := c6) hx31
    have hle := Nat.le_trans hn0 H.size
    refine st_call (cx_lend (Loan.lend Loan.nil) hc32 (ent_f hc32.fn rfl) (show Hp S0 σ0 _ ([Ch.own n0 n0 (Sl a5 r2.1 c6) r2.1] ++ ([] ++ [Ch.own 0 n0 (Sl a13 r10 c14) r10, Ch.ro 0 (Sl a20 r17 c21) r17, Ch.ro n0 (Sl a20 r17 c21) r17, Ch.own n0 n0 (Sl a7 r2.2 c8) r2.2, Ch.ro 0 (Sl acode_0 code_0 ccode_0) code_0])) from (H.sel' [3, 0, 1, 2, 4, 5] rfl rfl)) (by rintro _ _ _ ⟨rfl, rfl⟩; exact trivial)) (wanted_yes rfl (by exact (congrArg some hb29))) ?_
    rintro _ σ33 ⟨_, ⟨rfl, rfl⟩, H, -, -⟩
    replace H : Hp S0 σ0 σ33 [Ch.own n0 n0 (Sl a5 r2.1 c6) r2.1, Ch.own 0 n0 (Sl a13 r10 c14) r10, Ch.ro 0 (Sl a20 r17 c21) r17, Ch.ro n0 (Sl a20 r17 c21) r17, Ch.own n0 n0 (Sl a7 r2.2 c8) r2.2, Ch.ro 0 (Sl acode_0 code_0 ccode_0) code_0] := H
    clear hle
    replace H : Hp S0 σ0 σ33 [Ch.own n0 n0 (Sl a5 r2.1 c6) r2.1, Ch.own 0 n0 (Sl a13 r10 c14) r10, Ch.ro 0 (Sl a20 r17 c21) r17, Ch.ro n0 (Sl a20 r17 c21) r17, Ch.own n0 n0 (Sl a7 r2.2 c8) r2.2, Ch.ro 0 (Sl acode_0 code_0 ccode_0) code_0] := H
    refine st_g (v := (B (!r30))) (congrArg some hb29) (rv_not rfl) ?_
    refine st (v := (B (!r30))) (rv_pick_f (congrArg B hb29) rfl) ?_
    refine st (v := (B (!r30))) (rv_move rfl) ?_
    rcases Bool.eq_false_or_eq_true (!r30) with hb34 | hb34
    ·replace h := bif_t hb34 h
     refine st_skip (congrArg some hb34) ?_
     refine st_skip (congrArg some hb34) ?_
     refine st_skip (congrArg some hb34) ?_
     refine st (v := (B true)) (rv_pick_t (congrArg B hb34) rfl) ?_
     refine w_end ?_
     obtain rfl := Option.some.inj h
     exact ⟨rfl, _, σ33, fr_join ⟨rfl, rfl, rfl, rfl, trivial⟩, rfl, H.sel' [0, 4, 1] rfl rfl⟩
    ·replace h := bif_f hb34 h
     refine st_g (v := (Sl a7 r2.2 c8)) (congrArg some hb34) (rv_move rfl) ?_
     obtain ⟨r35, hx36, h'⟩ := bind_some h
     clear h
     have h := h'; clear h'
     have hc37 := c_impl_ValidHits (alist_0 := a7) (clist_0 := c8) hx36
     have hle := Nat.le_trans hn0 H.size
     refine st_call (cx_lend (Loan.lend Loan.nil) hc37 (ent_f hc37.fn rfl) (show Hp S0 σ0 _ ([Ch.own n0 n0 (Sl a7 r2.2 c8) r2.2] ++ ([] ++ [Ch.own n0 n0 (Sl a5 r2.1 c6) r2.1, Ch.own 0 n0 (Sl a13 r10 c14) r10, Ch.ro 0 (Sl a20 r17 c21) r17, Ch.ro n0 (Sl a20 r17 c21) r17, Ch.ro 0 (Sl acode_0 code_0 ccode_0) code_0])) from (H.sel' [4, 0, 1, 2, 3, 5] rfl rfl)) (by rintro _ _ _ ⟨rfl, rfl⟩; exact trivial)) (wanted_yes rfl (by exact (congrArg some hb34))) ?_
     rintro _ σ38 ⟨_, ⟨rfl, rfl⟩, H, -, -⟩
     replace H : Hp S0 σ0 σ38 [Ch.own n0 n0 (Sl a7 r2.2 c8) r2.2, Ch.own n0 n0 (Sl a5 r2.1 c6) r2.1, Ch.own 0 n0 (Sl a13 r10 c14) r10, Ch.ro 0 (Sl a20 r17 c21) r17, Ch.ro n0 (Sl a20 r17 c21) r17, Ch.ro 0 (Sl acode_0 code_0 ccode_0) code_0] := H
     clear hle
     replace H : Hp S0 σ0 σ38 [Ch.own n0 n0 (Sl a7 r2.2 c8) r2.2, Ch.own n0 n0 (Sl a5 r2.1 c6) r2.1, Ch.own 0 n0 (Sl a13 r10 c14) r10, Ch.ro 0 (Sl a20 r17 c21) r17, Ch.ro n0 (Sl a20 r17 c21) r17, Ch.ro 0 (Sl acode_0 code_0 ccode_0) code_0] := H
     refine st_g (v := (B (!r35))) (congrArg some hb34) (rv_not rfl) ?_
     refine st (v := (B (!r35))) (rv_pick_f (congrArg B hb34) rfl) ?_
     refine w_end ?_
     obtain rfl := Option.some.inj h
     exact ⟨rfl, _, σ38, fr_join ⟨rfl, rfl, rfl, rfl, trivial⟩, rfl, H.sel' [1, 0, 2] rfl rfl⟩
  ·clear hj
   have h := h'
   clear h' H
   rintro e a w ⟨rfl, ρ, σ39, rfl, rfl, H⟩
   refine q_then ?_
   refine cd_cond o16 rfl (fun hb40 => ?_) (fun hb40 => ?_)
   ·replace h := bif_t hb40 h
    refine c_seq ?_
    refine rg ?_
    refine st (v := (Sl a13 r10 c14)) (rv_move rfl) ?_
    refine st (v := (Sl a5 r2.1 c6)) (rv_move rfl) ?_
    refine st (v := (Sl a7 r2.2 c8)) (rv_move rfl) ?_
    obtain ⟨σ41, hw42, H, -⟩ := H.pub 0 rfl (Nat.le_refl _)
    rw [← hw42]; clear hw42
    obtain ⟨σ43, hw44, H, -⟩ := H.pub 1 rfl (Nat.le_refl _)
    rw [← hw44]; clear hw44
    replace H := H.roLow 1 0 rfl (Nat.zero_le _)
    replace H := H.roLow 1 0 rfl (Nat.zero_le _)
    obtain ⟨r45, hx46, h'⟩ := bind_some h
    clear h
    have h := h'; clear h'
    have hc47 := c_spec_FuseRanks (aa_0 := a5) (ca_0 := c6) (ab_1 := a7) (cb_1 := c8) hx46
    refine st_call (cx_call hc47 (ent_f hc47.fn rfl) hn0 (show Hp S0 σ0 _ ([Ch.ro 0 (Sl a5 r2.1 c6) r2.1, Ch.ro 0 (Sl a7 r2.2 c8) r2.2] ++ [Ch.ro 0 (Sl a7 r2.2 c8) r2.2, Ch.ro 0 (Sl a5 r2.1 c6) r2.1, Ch.ro n0 (Sl a7 r2.2 c8) r2.2, Ch.ro n0 (Sl a5 r2.1 c6) r2.1, Ch.own 0 n0 (Sl a13 r10 c14) r10]) from (H.sel' [1, 0, 0, 1, 2, 3, 4] rfl rfl))) wn ?_
    rintro _ σ50 ⟨_, ⟨a48, c49, rfl, rfl⟩, H, -⟩
    replace H : Hp S0 σ0 σ50 [Ch.own n0 n0 (Sl a48 r45 c49) r45, Ch.ro 0 (Sl a7 r2.2 c8) r2.2, Ch.ro 0 (Sl a5 r2.1 c6) r2.1, Ch.ro n0 (Sl a7 r2.2 c8) r2.2, Ch.ro n0 (Sl a5 r2.1 c6) r2.1, Ch.own 0 n0 (Sl a13 r10 c14) r10] := H
    replace H := H.ownLow 5 0 0 rfl (Nat.le_refl _) (Nat.zero_le _)
    obtain ⟨σ51, hw52, H, -⟩ := H.pub 0 rfl (Nat.le_refl _)
    rw [← hw52]; clear hw52
    obtain ⟨σ53, hw54, H, -⟩ := H.pub 1 rfl (Nat.le_refl _)
    rw [← hw54]; clear hw54
    replace H := H.roLow 0 0 rfl (Nat.zero_le _)
    obtain ⟨r55, hx56, h'⟩ := bind_some h
    clear h
    have h := h'; clear h'
    have hc57 := c_laws_equalInts (aa_0 := a13) (ca_0 := c14) (ab_1 := a48) (cb_1 := c49) hx56
    refine st_call (cx_call hc57 (ent_f hc57.fn rfl) hn0 (show Hp S0 σ0 _ ([Ch.ro 0 (Sl a13 r10 c14) r10, Ch.ro 0 (Sl a48 r45 c49) r45] ++ [Ch.ro 0 (Sl a48 r45 c49) r45, Ch.ro n0 (Sl a48 r45 c49) r45, Ch.ro 0 (Sl a13 r10 c14) r10, Ch.ro 0 (Sl a7 r2.2 c8) r2.2, Ch.ro 0 (Sl a5 r2.1 c6) r2.1, Ch.ro n0 (Sl a7 r2.2 c8) r2.2, Ch.ro n0 (Sl a5 r2.1 c6) r2.1]) from (H.sel' [2, 0, 0, 1, 2, 3, 4, 5, 6] rfl rfl))) wn ?_
    rintro _ σ58 ⟨_, ⟨rfl, rfl⟩, H, -⟩
    replace H : Hp S0 σ0 σ58 [Ch.ro 0 (Sl a48 r45 c49) r45, Ch.ro n0 (Sl a48 r45 c49) r45, Ch.ro 0 (Sl a13 r10 c14) r10, Ch.ro 0 (Sl a7 r2.2 c8) r2.2, Ch.ro 0 (Sl a5 r2.1 c6) r2.1, Ch.ro n0 (Sl a7 r2.2 c8) r2.2, Ch.ro n0 (Sl a5 r2.1 c6) r2.1] := H
    refine st (v := (B r55)) (rv_assign rfl) ?_
    refine w_end ?_
    refine q_then ?_
    refine c_ret ?_
    refine q_then_r ?_
    obtain rfl := Option.some.inj h
    exact fin_ret (v := (B r55)) (results_ok Try.results9 (res_tmp (v := (B r55)) rfl res_nil) rfl) ⟨rfl, rfl⟩ (H.sel' [] rfl rfl)
   ·replace h := bif_f hb40 h
    refine c_skip ?_
    refine q_then ?_
    refine c_seq ?_
    refine c_seq ?_
    refine rg ?_
    refine st (v := (I 0)) (rv_assign rfl) ?_
    refine w_end ?_
    refine q_then ?_
    obtain ⟨o59, hj, h'⟩ := bind_some h
    clear h
    refine c_cut (fun e a w => (∃ t, o59 = (.inl t) ∧ e = .normal ∧ ∃ (ρ : Nat → Value) (σ : St), a = fr 139 (updL ρ [(3, (Sl a5 r2.1 c6)), (4, (Sl a7 r2.2 c8)), (5, (Sl a13 r10 c14))]) ∧ w = σ.w ∧ Hp S0 σ0 σ [Ch.ro n0 (Sl a5 r2.1 c6) r2.1, Ch.own n0 n0 (Sl a7 r2.2 c8) r2.2, Ch.ro 0 (Sl a13 r10 c14) r10]) ∨ (∃ t, o59 = (.inr t) ∧ e = .ret ∧ ∃ (ρ : Nat → Value) (σ : St), a = fr 139 (updL ρ [(2, (B t))]) ∧ w = σ.w ∧ Hp S0 σ0 σ [])) ?_ ?_
    ·clear h'
     rename _ = some o59 => h
     refine c_blk ?_
     obtain ⟨σ61, hw62, H, -⟩ := H.pub 0 rfl (Nat.le_refl _)
     rw [← hw62]; clear hw62
     replace H := H.ownLow 2 0 0 rfl (Nat.le_refl _) (Nat.zero_le _)
     obtain ⟨σ63, hw64, H, -⟩ := H.pub 0 rfl (Nat.le_refl _)
     rw [← hw64]; clear hw64
     refine wp_loopM _ h (fun s60 a w => ∃ (ρ : Nat → Value) (σ : St), a = fr 139 (updL ρ [(3, (Sl a5 r2.1 c6)), (4, (Sl a7 r2.2 c8)), (5, (Sl a13 r10 c14)), (6, (I s60))]) ∧ w = σ.w ∧ Hp S0 σ0 σ [Ch.ro n0 (Sl a5 r2.1 c6) r2.1, Ch.own n0 n0 (Sl a7 r2.2 c8) r2.2, Ch.ro 0 (Sl a13 r10 c14) r10]) ⟨_, σ63, fr_join ⟨rfl, rfl, rfl, rfl, trivial⟩, rfl, H.sel' [1, 2, 0] rfl rfl⟩ ?_
     clear h H
     rintro s60 a w o ⟨ρ, σ65, rfl, rfl, H⟩ h hres
     refine c_seq ?_
     refine c_seq ?_
     refine rg ?_
     refine st (v := (I s60)) (rv_move rfl) ?_
     refine st (v := (Sl a13 r10 c14)) (rv_move rfl) ?_
     refine st (v := (I (r10.length : Int))) (rv_len Try.underlying24 rfl) ?_
     refine st (v := (B (decide (s60 < (r10.length : Int))))) (rv_lss (a := s60) (b := (r10.length : Int)) rfl rfl) ?_
     refine w_end ?_
     refine q_then ?_
     refine cd_cond (decide (s60 < (r10.length : Int))) rfl (fun hb66 => ?_) (fun hb66 => ?_)
     ·replace h := bif_t hb66 h
      refine c_skip ?_
      refine q_then ?_
      refine c_seq ?_
      obtain ⟨o67, hj, h'⟩ := bind_some h
      clear h
      refine c_cut (fun e a w => (∃ t, o67 = (.inl t) ∧ e = .normal ∧ ∃ (ρ : Nat → Value) (σ : St), a = fr 139 (updL ρ [(3, (Sl a5 r2.1 c6)), (4, (Sl a7 r2.2 c8)), (5, (Sl a13 r10 c14)), (6, (I s60))]) ∧ w = σ.w ∧ Hp S0 σ0 σ [Ch.ro n0 (Sl a5 r2.1 c6) r2.1, Ch.own n0 n0 (Sl a7 r2.2 c8) r2.2, Ch.ro 0 (Sl a13 r10 c14) r10]) ∨ (∃ t, o67 = (.inr t) ∧ e = .ret ∧ ∃ (ρ : Nat → Value) (σ : St), a = fr 139 (updL ρ [(2, (B t))]) ∧ w = σ.w ∧ Hp S0 σ0 σ [])) ?_ ?_
      ·clear h'
       rename _ = some o67 => h
       refine c_blk ?_
       refine c_seq ?_
       obtain ⟨x68, hx69, h'⟩ := bind_some h
       clear h
       have h := h'; clear h'
       obtain ⟨b71, o72, hi70, -⟩ := (H.ro 2 rfl).ix hx69
       have hc73 := ((H.ro 2 rfl).at hx69 hi70).int
       replace H := H.roLow 0 0 rfl (Nat.zero_le _)
       obtain ⟨r74, hx75, h'⟩ := bind_some h
       clear h
       have h := h'; clear h'
       have hc76 := c_impl_RankScore (alist_0 := a5) (clist_0 := c6) hx75
       obtain ⟨x77, hx78, h'⟩ := bind_some h
       clear h
       have h := h'; clear h'
       obtain ⟨b80, o81, hi79, -⟩ := (H.ro 3 rfl).ix hx78
       have hc82 := ((H.ro 3 rfl).at hx78 hi79).int
       have Hs := H
       refine rg2 (σ := σ65) (Nm := Unit) 11 [5] [[false], [true]] [[(0, 0)], [(0, 0)], [(0, 0)], [(0, 0)], [(0, 0)], [(0, 1)], [(0, 0), (1, 1)], [(0, 0), (1, 1)], [(0, 0), (1, 1)], [(0, 0), (1, 1)], [(0, 0), (1, 1)]] 1 [fun _ => fun σm => Hp S0 σ0 σm [Ch.ro 0 (Sl a5 r2.1 c6) r2.1, Ch.ro n0 (Sl a5 r2.1 c6) r2.1, Ch.own n0 n0 (Sl a7 r2.2 c8) r2.2, Ch.ro 0 (Sl a13 r10 c14) r10] ∧ Md (cov []) σ65 σm, fun _ => fun σm => Hp S0 σ0 σm [Ch.ro 0 (Sl a5 r2.1 c6) r2.1, Ch.ro n0 (Sl a5 r2.1 c6) r2.1, Ch.own n0 n0 (Sl a7 r2.2 c8) r2.2, Ch.ro 0 (Sl a13 r10 c14) r10] ∧ Md (cov []) σ65 σm] [fun _ => (Sl a5 r2.1 c6), fun _ => (Sl a13 r10 c14), fun _ => (I s60), fun _ => (pt b71 o72), fun _ => (I x68), fun _ => (I r74), fun _ => (Sl a7 r2.2 c8), fun _ => (Sl a13 r10 c14), fun _ => (I s60), fun _ => (pt b80 o81), fun _ => (I x77)] () (by kernel_rfl) (by kernel_rfl) ?_ ?_ ?_
       ·intro σm m0
        exact ⟨H.grow (m0.mono fun _ h => h.elim), m0⟩
       ·refine ac rfl (by
          intro k _nm ρ σm hJ hoff hdep
          have e3 := look_off (N := 139) (hoff 3 rfl) rfl
          exact dp_v (v := (Sl a5 r2.1 c6)) wn (rv_move e3) rfl hJ) ?_
        refine ac rfl (by
          intro k _nm ρ σm hJ hoff hdep
          have e5 := look_off (N := 139) (hoff 5 rfl) rfl
          exact dp_v (v := (Sl a13 r10 c14)) wn (rv_move e5) rfl hJ) ?_
        refine ac rfl (by
          intro k _nm ρ σm hJ hoff hdep
          have e6 := look_off (N := 139) (hoff 6 rfl) rfl
          exact dp_v (v := (I s60)) wn (rv_move e6) rfl hJ) ?_
        refine ac rfl (by
          intro k _nm ρ σm hJ hoff hdep
          have e50 := hdep 1 rfl rfl 50 rfl
          have e51 := hdep 2 rfl rfl 51 rfl
          exact dp_v (v := (pt b71 o72)) wn (rv_ix Try.underlying24 ti3 e50 e51 hi70) rfl hJ) ?_
        refine all_cons (by
          refine ⟨?_, ?_⟩
          ·intro _nm ρ σm hJ hoff hdep
           have e52 := hdep 3 rfl rfl 52 rfl
           obtain ⟨H, m⟩ := id hJ
           replace hc73 := (Hs.ro 3 rfl).hmd hx69 hi70 (k := 0) (by decide) hc73 m
           exact dp_v (v := (I x68)) wn (rv_load1 Try.underlying3 rfl e52 hc73) rfl hJ
          trivial) ?_
        refine all_cons (by
          refine ⟨?_, ?_⟩
          ·intro _nm ρ σm hJ hoff hdep
           have e49 : look 139 ρ 49 = (Sl a5 r2.1 c6) := hdep 0 rfl rfl 49 rfl
           have e53 : look 139 ρ 53 = (I x68) := hdep 4 rfl rfl 53 rfl
           obtain ⟨H, m⟩ := id hJ
           refine dp_cx wn (cx_call hc76 (ent_f hc76.fn (by show [look 139 ρ 49, look 139 ρ 53] = _; rw [e49, e53])) hn0 (show Hp S0 σ0 _ ([Ch.ro 0 (Sl a5 r2.1 c6) r2.1] ++ [Ch.ro 0 (Sl a5 r2.1 c6) r2.1, Ch.ro n0 (Sl a5 r2.1 c6) r2.1, Ch.own n0 n0 (Sl a7 r2.2 c8) r2.2, Ch.ro 0 (Sl a13 r10 c14) r10]) from (H.sel' [0, 0, 1, 2, 3] rfl rfl))) ?_
           rintro _ σq ⟨_, ⟨rfl, rfl⟩, H2, m2⟩
           exact ⟨_, (), rfl, rfl, ⟨H2.sel' [0, 1, 2, 3] rfl rfl, m.comp0 (m2.mono (fun i h => by simp [cov, Ch.ro] at h))⟩, stab [0, 1, 2, 3, 4, 6, 7, 8, 9, 10] (by kernel_rfl) ⟨rfl, rfl, rfl, rfl, rfl, rfl, rfl, rfl, rfl, rfl, trivial⟩⟩
          trivial) ?_
        refine ac rfl (by
          intro k _nm ρ σm hJ hoff hdep
          have e4 := look_off (N := 139) (hoff 4 rfl) rfl
          exact dp_v (v := (Sl a7 r2.2 c8)) wn (rv_move e4) rfl hJ) ?_
        refine ac rfl (by
          intro k _nm ρ σm hJ hoff hdep
          have e5 := look_off (N := 139) (hoff 5 rfl) rfl
          exact dp_v (v := (Sl a13 r10 c14)) wn (rv_move e5) rfl hJ) ?_
        refine ac rfl (by
          intro k _nm ρ σm hJ hoff hdep
          have e6 := look_off (N := 139) (hoff 6 rfl) rfl
          exact dp_v (v := (I s60)) wn (rv_move e6) rfl hJ) ?_
        refine ac rfl (by
          intro k _nm ρ σm hJ hoff hdep
          have e56 := hdep 7 rfl rfl 56 rfl
          have e57 := hdep 8 rfl rfl 57 rfl
          exact dp_v (v := (pt b80 o81)) wn (rv_ix Try.underlying24 ti3 e56 e57 hi79) rfl hJ) ?_
        refine all_cons (by
          refine ⟨?_, ?_⟩
          ·intro _nm ρ σm hJ hoff hdep
           have e58 := hdep 9 rfl rfl 58 rfl
           obtain ⟨H, m⟩ := id hJ
           replace hc82 := (Hs.ro 3 rfl).hmd hx78 hi79 (k := 0) (by decide) hc82 m
           exact dp_v (v := (I x77)) wn (rv_load1 Try.underlying3 rfl e58 hc82) rfl hJ
          refine ⟨?_, ?_⟩
          ·intro _nm ρ σm hJ hoff hdep
           have e58 := hdep 9 rfl rfl 58 rfl
           obtain ⟨H, m⟩ := id hJ
           replace hc82 := (Hs.ro 3 rfl).hmd hx78 hi79 (k := 0) (by decide) hc82 m
           exact dp_v (v := (I x77)) wn (rv_load1 Try.underlying3 rfl e58 hc82) rfl hJ
          trivial) ?_
        exact all_nil
       ·intro _nm ρ σ83 hJ hoff hrel
        have e3 := look_off (N := 139) (hoff 3 rfl) rfl
        have e4 := look_off (N := 139) (hoff 4 rfl) rfl
        have e5 := look_off (N := 139) (hoff 5 rfl) rfl
        have e6 := look_off (N := 139) (hoff 6 rfl) rfl
        have e54 := hrel 5 rfl 54 rfl
        have e55 := hrel 6 rfl 55 rfl
        have e59 := hrel 10 rfl 59 rfl
        obtain ⟨H, -⟩ := (show Hp S0 σ0 σ83 [Ch.ro 0 (Sl a5 r2.1 c6) r2.1, Ch.ro n0 (Sl a5 r2.1 c6) r2.1, Ch.own n0 n0 (Sl a7 r2.2 c8) r2.2, Ch.ro 0 (Sl a13 r10 c14) r10] ∧ Md (cov []) σ65 σ83 from hJ)
        clear hJ Hs
        rw [fr_lookL (L := [(3, (Sl a5 r2.1 c6)), (4, (Sl a7 r2.2 c8)), (5, (Sl a13 r10 c14)), (6, (I s60)), (54, (I r74)), (55, (Sl a7 r2.2 c8)), (59, (I x77))]) ⟨e3, e4, e5, e6, e54, e55, e59, trivial⟩]
        clear hoff hrel e3 e4 e5 e6 e54 e55 e59
        obtain ⟨r84, hx85, h'⟩ := bind_some h
        clear h
        have h := h'; clear h'
        have hc86 := c_impl_RankScore (alist_0 := a7) (clist_0 := c8) hx85
        have hle := Nat.le_trans hn0 H.size
        refine st_call (cx_lend (Loan.lend Loan.nil) hc86 (ent_f hc86.fn rfl) (show Hp S0 σ0 _ ([Ch.own n0 n0 (Sl a7 r2.2 c8) r2.2] ++ ([] ++ [Ch.ro 0 (Sl a5 r2.1 c6) r2.1, Ch.ro n0 (Sl a5 r2.1 c6) r2.1, Ch.ro 0 (Sl a13 r10 c14) r10])) from (H.sel' [2, 0, 1, 3] rfl rfl)) (by rintro _ _ _ ⟨rfl, rfl⟩; exact trivial)) wn ?_
        rintro _ σ87 ⟨_, ⟨rfl, rfl⟩, H, -, -⟩
        replace H : Hp S0 σ0 σ87 [Ch.own n0 n0 (Sl a7 r2.2 c8) r2.2, Ch.ro 0 (Sl a5 r2.1 c6) r2.1, Ch.ro n0 (Sl a5 r2.1 c6) r2.1, Ch.ro 0 (Sl a13 r10 c14) r10] := H
        clear hle
        replace H : Hp S0 σ0 σ87 [Ch.own n0 n0 (Sl a7 r2.2 c8) r2.2, Ch.ro 0 (Sl a5 r2.1 c6) r2.1, Ch.ro n0 (Sl a5 r2.1 c6) r2.1, Ch.ro 0 (Sl a13 r10 c14) r10] := H
        refine st (v := (I (w64 (r74 + r84)))) (rv_add (a := r74) (b := r84) rfl rfl) ?_
        refine st (v := (I (w64 (r74 + r84)))) (rv_assign rfl) ?_
        refine w_end ?_
        refine q_then ?_
        refine c_seq ?_
        refine c_seq ?_
        obtain ⟨o88, hj, h'⟩ := bind_some h
        clear h
        refine c_cut (fun e a w => e = .normal ∧ ∃ (ρ : Nat → Value) (σ : St), a = fr 139 (updL ρ [(3, (Sl a5 r2.1 c6)), (4, (Sl a7 r2.2 c8)), (5, (Sl a13 r10 c14)), (6, (I s60)), (7, (I (w64 (r74 + r84)))), (73, (B o88))]) ∧ w = σ.w ∧ Hp S0 σ0 σ [Ch.ro n0 (Sl a5 r2.1 c6) r2.1, Ch.own n0 n0 (Sl a7 r2.2 c8) r2.2, Ch.ro 0 (Sl a13 r10 c14) r10]) ?_ ?_
        ·clear h'
         rename _ = some o88 => h
         refine rgP (σ := σ87) 10 (by kernel_rfl) (by kernel_rfl) (by kernel_rfl) ?_
         refine sq (v := (I (w64 (r74 + r84)))) (rv_move rfl) ?_
         refine sq (v := (B (decide ((w64 (r74 + r84)) < 1)))) (rv_lss (a := (w64 (r74 + r84))) (b := 1) rfl rfl) ?_
         refine sq (v := (B (decide ((w64 (r74 + r84)) < 1)))) (rv_move rfl) ?_
         rcases Bool.eq_false_or_eq_true (decide ((w64 (r74 + r84)) < 1)) with hb89 | hb89
         ·replace h := bif_t hb89 h
          refine sq_skip (congrArg some hb89) ?_
          refine sq_skip (congrArg some hb89) ?_
          refine sq_skip (congrArg some hb89) ?_
          refine sq_skip (congrArg some hb89) ?_
          refine sq_skip (congrArg some hb89) ?_
          refine sq_skip (congrArg some hb89) ?_
          refine sq_skip (congrArg some hb89) ?_
          refine sq_end ?_
          intro σ90 hm91
          replace H := H.grow (hm91.mono fun _ h => h); clear hm91
          refine st_skip (congrArg some hb89) ?_
          refine st (v := (B true)) (rv_pick_t (congrArg B hb89) rfl) ?_
          refine w_end ?_
          obtain rfl := Option.some.inj h
          exact ⟨rfl, _, σ90, fr_join ⟨rfl, rfl, rfl, rfl, rfl, rfl, trivial⟩, rfl, H.sel' [2, 0, 3] rfl rfl⟩
         ·replace h := bif_f hb89 h
          refine sq_g (v := (Sl a13 r10 c14)) (congrArg some hb89) (rv_move rfl) ?_
          refine sq_g (v := (I s60)) (congrArg some hb89) (rv_move rfl) ?_
          obtain ⟨xs92, hx93, h'⟩ := bind_some h
          clear h
          have h := h'; clear h'
          obtain ⟨a94, c95, hs96, hR97⟩ := (H.ro 3 rfl).slice hx93
          replace H := H.add (d := Ch.ro 0 (Sl a94 xs92 c95) xs92) hR97 (fun _ h => h)
          clear hR97
          refine sq_g (v := (Sl a94 xs92 c95)) (congrArg some hb89) (rv_slice_h Try.underlying24 ti3 hs96 rfl rfl) ?_
          refine sq_g (v := (Sl a13 r10 c14)) (congrArg some hb89) (rv_move rfl) ?_
          refine sq_g (v := (I s60)) (congrArg some hb89) (rv_move rfl) ?_
          obtain ⟨x98, hx99, h'⟩ := bind_some h
          clear h
          have h := h'; clear h'
          obtain ⟨b101, o102, hi100, -⟩ := (H.ro 4 rfl).ix hx99
          refine sq_g (v := (pt b101 o102)) (congrArg some hb89) (rv_ix Try.underlying24 ti3 rfl rfl hi100) ?_
          have hc103 := ((H.ro 4 rfl).at hx99 hi100).int
          refine sq_g (v := (I x98)) (congrArg some hb89) (rv_load1 Try.underlying3 rfl rfl hc103) ?_
          refine sq_end ?_
          intro σ104 hm105
          replace H := H.grow (hm105.mono fun _ h => h); clear hm105
          obtain ⟨r106, hx107, h'⟩ := bind_some h
          clear h
          have h := h'; clear h'
          have hc108 := c_laws_isIn (alist_0 := a94) (clist_0 := c95) hx107
          refine st_call (cx_call hc108 (ent_f hc108.fn rfl) hn0 (show Hp S0 σ0 _ ([Ch.ro 0 (Sl a94 xs92 c95) xs92] ++ [Ch.ro 0 (Sl a94 xs92 c95) xs92, Ch.own n0 n0 (Sl a7 r2.2 c8) r2.2, Ch.ro 0 (Sl a5 r2.1 c6) r2.1, Ch.ro n0 (Sl a5 r2.1 c6) r2.1, Ch.ro 0 (Sl a13 r10 c14) r10]) from (H.sel' [0, 0, 1, 2, 3, 4] rfl rfl))) (wanted_yes rfl (by exact (congrArg some hb89))) ?_
          rintro _ σ109 ⟨_, ⟨rfl, rfl⟩, H, -⟩
          replace H : Hp S0 σ0 σ109 [Ch.ro 0 (Sl a94 xs92 c95) xs92, Ch.own n0 n0 (Sl a7 r2.2 c8) r2.2, Ch.ro 0 (Sl a5 r2.1 c6) r2.1, Ch.ro n0 (Sl a5 r2.1 c6) r2.1, Ch.ro 0 (Sl a13 r10 c14) r10] := H
          refine st (v := (B r106)) (rv_pick_f (congrArg B hb89) rfl) ?_
          refine w_end ?_
          obtain rfl := Option.some.inj h
          exact ⟨rfl, _, σ109, fr_join ⟨rfl, rfl, rfl, rfl, rfl, rfl, trivial⟩, rfl, H.sel' [3, 1, 4] rfl rfl⟩
        ·clear hj
         have h := h'
         clear h' H
         rintro e a w ⟨rfl, ρ, σ110, rfl, rfl, H⟩
         refine q_then ?_
         refine cd_cond o88 rfl (fun hb111 => ?_) (fun hb111 => ?_)
         ·replace h := bif_t hb111 h
          refine c_seq ?_
          refine rg ?_
          refine st (v := (B false)) (rv_assign rfl) ?_
          refine w_end ?_
          refine q_then ?_
          refine c_ret ?_
          refine q_then_r ?_
          refine q_blk_r ?_
          obtain rfl := Option.some.inj h
          exact .inr (⟨_, rfl, rfl, _, σ110, fr_join ⟨rfl, trivial⟩, rfl, H.sel' [] rfl rfl⟩)
         ·replace h := bif_f hb111 h
          refine c_skip ?_
          refine q_then ?_
          refine c_seq ?_
          refine rg ?_
          refine st (v := (I s60)) (rv_move rfl) ?_
          refine st (v := (B (decide (0 < s60)))) (rv_gtr (a := s60) (b := 0) rfl rfl) ?_
          refine w_end ?_
          refine q_then ?_
          refine cd_cond (decide (0 < s60)) rfl (fun hb112 => ?_) (fun hb112 => ?_)
          ·replace h := bif_t hb112 h
           refine c_seq ?_
           obtain ⟨x113, hx114, h'⟩ := bind_some h
           clear h
           have h := h'; clear h'
           obtain ⟨b116, o117, hi115, -⟩ := (H.ro 2 rfl).ix hx114
           have hc118 := ((H.ro 2 rfl).at hx114 hi115).int
           replace H := H.roLow 0 0 rfl (Nat.zero_le _)
           obtain ⟨r119, hx120, h'⟩ := bind_some h
           clear h
           have h := h'; clear h'
           have hc121 := c_impl_RankScore (alist_0 := a5) (clist_0 := c6) hx120
           obtain ⟨x122, hx123, h'⟩ := bind_some h
           clear h
           have h := h'; clear h'
           obtain ⟨b125, o126, hi124, -⟩ := (H.ro 3 rfl).ix hx123
           have hc127 := ((H.ro 3 rfl).at hx123 hi124).int
           have Hs := H
           refine rg2 (σ := σ110) (Nm := Unit) 13 [6] [[false], [true]] [[(0, 0)], [(0, 0)], [(0, 0)], [(0, 0)], [(0, 0)], [(0, 0)], [(0, 1)], [(0, 0), (1, 1)], [(0, 0), (1, 1)], [(0, 0), (1, 1)], [(0, 0), (1, 1)], [(0, 0), (1, 1)], [(0, 0), (1, 1)]] 1 [fun _ => fun σm => Hp S0 σ0 σm [Ch.ro 0 (Sl a5 r2.1 c6) r2.1, Ch.ro n0 (Sl a5 r2.1 c6) r2.1, Ch.own n0 n0 (Sl a7 r2.2 c8) r2.2, Ch.ro 0 (Sl a13 r10 c14) r10] ∧ Md (cov []) σ110 σm, fun _ => fun σm => Hp S0 σ0 σm [Ch.ro 0 (Sl a5 r2.1 c6) r2.1, Ch.ro n0 (Sl a5 r2.1 c6) r2.1, Ch.own n0 n0 (Sl a7 r2.2 c8) r2.2, Ch.ro 0 (Sl a13 r10 c14) r10] ∧ Md (cov []) σ110 σm] [fun _ => (Sl a5 r2.1 c6), fun _ => (Sl a13 r10 c14), fun _ => (I s60), fun _ => (I (w64 (s60 - 1))), fun _ => (pt b116 o117), fun _ => (I x113), fun _ => (I r119), fun _ => (Sl a7 r2.2 c8), fun _ => (Sl a13 r10 c14), fun _ => (I s60), fun _ => (I (w64 (s60 - 1))), fun _ => (pt b125 o126), fun _ => (I x122)] () (by kernel_rfl) (by kernel_rfl) ?_ ?_ ?_
           ·intro σm m0
            exact ⟨H.grow (m0.mono fun _ h => h.elim), m0⟩
           ·refine ac rfl (by
              intro k _nm ρ σm hJ hoff hdep
              have e3 := look_off (N := 139) (hoff 3 rfl) rfl
              exact dp_v (v := (Sl a5 r2.1 c6)) wn (rv_move e3) rfl hJ) ?_
            refine ac rfl (by
              intro k _nm ρ σm hJ hoff hdep
              have e5 := look_off (N := 139) (hoff 5 rfl) rfl
              exact dp_v (v := (Sl a13 r10 c14)) wn (rv_move e5) rfl hJ) ?_
            refine ac rfl (by
              intro k _nm ρ σm hJ hoff hdep
              have e6 := look_off (N := 139) (hoff 6 rfl) rfl
              exact dp_v (v := (I s60)) wn (rv_move e6) rfl hJ) ?_
            refine ac rfl (by
              intro k _nm ρ σm hJ hoff hdep
              have e78 := hdep 2 rfl rfl 78 rfl
              exact dp_v (v := (I (w64 (s60 - 1)))) wn (rv_sub (a := s60) (b := 1) e78 rfl) rfl hJ) ?_
            refine ac rfl (by
              intro k _nm ρ σm hJ hoff hdep
              have e77 := hdep 1 rfl rfl 77 rfl
              have e79 := hdep 3 rfl rfl 79 rfl
              exact dp_v (v := (pt b116 o117)) wn (rv_ix Try.underlying24 ti3 e77 e79 hi115) rfl hJ) ?_
            refine all_cons (by
              refine ⟨?_, ?_⟩
              ·intro _nm ρ σm hJ hoff hdep
               have e80 := hdep 4 rfl rfl 80 rfl
               obtain ⟨H, m⟩ := id hJ
               replace hc118 := (Hs.ro 3 rfl).hmd hx114 hi115 (k := 0) (by decide) hc118 m
               exact dp_v (v := (I x113)) wn (rv_load1 Try.underlying3 rfl e80 hc118) rfl hJ
              trivial) ?_
            refine all_cons (by
              refine ⟨?_, ?_⟩
              ·intro _nm ρ σm hJ hoff hdep
               have e76 : look 139 ρ 76 = (Sl a5 r2.1 c6) := hdep 0 rfl rfl 76 rfl
               have e81 : look 139 ρ 81 = (I x113) := hdep 5 rfl rfl 81 rfl
               obtain ⟨H, m⟩ := id hJ
               refine dp_cx wn (cx_call hc121 (ent_f hc121.fn (by show [look 139 ρ 76, look 139 ρ 81] = _; rw [e76, e81])) hn0 (show Hp S0 σ0 _ ([Ch.ro 0 (Sl a5 r2.1 c6) r2.1] ++ [Ch.ro 0 (Sl a5 r2.1 c6) r2.1, Ch.ro n0 (Sl a5 r2.1 c6) r2.1, Ch.own n0 n0 (Sl a7 r2.2 c8) r2.2, Ch.ro 0 (Sl a13 r10 c14) r10]) from (H.sel' [0, 0, 1, 2, 3] rfl rfl))) ?_
               rintro _ σq ⟨_, ⟨rfl, rfl⟩, H2, m2⟩
               exact ⟨_, (), rfl, rfl, ⟨H2.sel' [0, 1, 2, 3] rfl rfl, m.comp0 (m2.mono (fun i h => by simp [cov, Ch.ro] at h))⟩, stab [0, 1, 2, 3, 4, 5, 7, 8, 9, 10, 11, 12] (by kernel_rfl) ⟨rfl, rfl, rfl, rfl, rfl, rfl, rfl, rfl, rfl, rfl, rfl, rfl, trivial⟩⟩
              trivial) ?_
            refine ac rfl (by
              intro k _nm ρ σm hJ hoff hdep
              have e4 := look_off (N := 139) (hoff 4 rfl) rfl
              exact dp_v (v := (Sl a7 r2.2 c8)) wn (rv_move e4) rfl hJ) ?_
            refine ac rfl (by
              intro k _nm ρ σm hJ hoff hdep
              have e5 := look_off (N := 139) (hoff 5 rfl) rfl
              exact dp_v (v := (Sl a13 r10 c14)) wn (rv_move e5) rfl hJ) ?_
            refine ac rfl (by
              intro k _nm ρ σm hJ hoff hdep
              have e6 := look_off (N := 139) (hoff 6 rfl) rfl
              exact dp_v (v := (I s60)) wn (rv_move e6) rfl hJ) ?_
            refine ac rfl (by
              intro k _nm ρ σm hJ hoff hdep
              have e85 := hdep 9 rfl rfl 85 rfl
              exact dp_v (v := (I (w64 (s60 - 1)))) wn (rv_sub (a := s60) (b := 1) e85 rfl) rfl hJ) ?_
            refine ac rfl (by
              intro k _nm ρ σm hJ hoff hdep
              have e84 := hdep 8 rfl rfl 84 rfl
              have e86 := hdep 10 rfl rfl 86 rfl
              exact dp_v (v := (pt b125 o126)) wn (rv_ix Try.underlying24 ti3 e84 e86 hi124) rfl hJ) ?_
            refine all_cons (by
              refine ⟨?_, ?_⟩
              ·intro _nm ρ σm hJ hoff hdep
               have e87 := hdep 11 rfl rfl 87 rfl
               obtain ⟨H, m⟩ := id hJ
               replace hc127 := (Hs.ro 3 rfl).hmd hx123 hi124 (k := 0) (by decide) hc127 m
               exact dp_v (v := (I x122)) wn (rv_load1 Try.underlying3 rfl e87 hc127) rfl hJ
              refine ⟨?_, ?_⟩
              ·intro _nm ρ σm hJ hoff hdep
               have e87 := hdep 11 rfl rfl 87 rfl
               obtain ⟨H, m⟩ := id hJ
               replace hc127 := (Hs.ro 3 rfl).hmd hx123 hi124 (k := 0) (by decide) hc127 m
               exact dp_v (v := (I x122)) wn (rv_load1 Try.underlying3 rfl e87 hc127) rfl hJ
              trivial) ?_
            exact all_nil
           ·intro _nm ρ σ128 hJ hoff hrel
            have e3 := look_off (N := 139) (hoff 3 rfl) rfl
            have e4 := look_off (N := 139) (hoff 4 rfl) rfl
            have e5 := look_off (N := 139) (hoff 5 rfl) rfl
            have e6 := look_off (N := 139) (hoff 6 rfl) rfl
            have e7 := look_off (N := 139) (hoff 7 rfl) rfl
            have e82 := hrel 6 rfl 82 rfl
            have e83 := hrel 7 rfl 83 rfl
            have e88 := hrel 12 rfl 88 rfl
            obtain ⟨H, -⟩ := (show Hp S0 σ0 σ128 [Ch.ro 0 (Sl a5 r2.1 c6) r2.1, Ch.ro n0 (Sl a5 r2.1 c6) r2.1, Ch.own n0 n0 (Sl a7 r2.2 c8) r2.2, Ch.ro 0 (Sl a13 r10 c14) r10] ∧ Md (cov []) σ110 σ128 from hJ)
            clear hJ Hs
            rw [fr_lookL (L := [(3, (Sl a5 r2.1 c6)), (4, (Sl a7 r2.2 c8)), (5, (Sl a13 r10 c14)), (6, (I s60)), (7, (I (w64 (r74 + r84)))), (82, (I r119)), (83, (Sl a7 r2.2 c8)), (88, (I x122))]) ⟨e3, e4, e5, e6, e7, e82, e83, e88, trivial⟩]
            clear hoff hrel e3 e4 e5 e6 e7 e82 e83 e88
            obtain ⟨r129, hx130, h'⟩ := bind_some h
            clear h
            have h := h'; clear h'
            have hc131 := c_impl_RankScore (alist_0 := a7) (clist_0 := c8) hx130
            have hle := Nat.le_trans hn0 H.size
            refine st_call (cx_lend (Loan.lend Loan.nil) hc131 (ent_f hc131.fn rfl) (show Hp S0 σ0 _ ([Ch.own n0 n0 (Sl a7 r2.2 c8) r2.2] ++ ([] ++ [Ch.ro 0 (Sl a5 r2.1 c6) r2.1, Ch.ro n0 (Sl a5 r2.1 c6) r2.1, Ch.ro 0 (Sl a13 r10 c14) r10])) from (H.sel' [2, 0, 1, 3] rfl rfl)) (by rintro _ _ _ ⟨rfl, rfl⟩; exact trivial)) wn ?_
            rintro _ σ132 ⟨_, ⟨rfl, rfl⟩, H, -, -⟩
            replace H : Hp S0 σ0 σ132 [Ch.own n0 n0 (Sl a7 r2.2 c8) r2.2, Ch.ro 0 (Sl a5 r2.1 c6) r2.1, Ch.ro n0 (Sl a5 r2.1 c6) r2.1, Ch.ro 0 (Sl a13 r10 c14) r10] := H
            clear hle
            replace H : Hp S0 σ0 σ132 [Ch.own n0 n0 (Sl a7 r2.2 c8) r2.2, Ch.ro 0 (Sl a5 r2.1 c6) r2.1, Ch.ro n0 (Sl a5 r2.1 c6) r2.1, Ch.ro 0 (Sl a13 r10 c14) r10] := H
            refine st (v := (I (w64 (r119 + r129)))) (rv_add (a := r119) (b := r129) rfl rfl) ?_
            refine st (v := (I (w64 (r119 + r129)))) (rv_assign rfl) ?_
            refine w_end ?_
            refine q_then ?_
            refine c_seq ?_
            obtain ⟨o133, hj, h'⟩ := bind_some h
            clear h
            refine c_cut (fun e a w => e = .normal ∧ ∃ (ρ : Nat → Value) (σ : St), a = fr 139 (updL ρ [(3, (Sl a5 r2.1 c6)), (4, (Sl a7 r2.2 c8)), (5, (Sl a13 r10 c14)), (6, (I s60)), (110, (B o133))]) ∧ w = σ.w ∧ Hp S0 σ0 σ [Ch.ro n0 (Sl a5 r2.1 c6) r2.1, Ch.own n0 n0 (Sl a7 r2.2 c8) r2.2, Ch.ro 0 (Sl a13 r10 c14) r10]) ?_ ?_
            ·clear h'
             rename _ = some o133 => h
             refine rgP (σ := σ132) 17 (by kernel_rfl) (by kernel_rfl) (by kernel_rfl) ?_
             refine sq (v := (I (w64 (r119 + r129)))) (rv_move rfl) ?_
             refine sq (v := (I (w64 (r74 + r84)))) (rv_move rfl) ?_
             refine sq (v := (B (decide ((w64 (r119 + r129)) < (w64 (r74 + r84)))))) (rv_lss (a := (w64 (r119 + r129))) (b := (w64 (r74 + r84))) rfl rfl) ?_
             refine sq (v := (B (decide ((w64 (r119 + r129)) < (w64 (r74 + r84)))))) (rv_move rfl) ?_
             rcases Bool.eq_false_or_eq_true (decide ((w64 (r119 + r129)) < (w64 (r74 + r84)))) with hb134 | hb134
             ·replace h := bif_t hb134 h
              refine sq_skip (congrArg some hb134) ?_
              refine sq_skip (congrArg some hb134) ?_
              refine sq_skip (congrArg some hb134) ?_
              refine sq_skip (congrArg some hb134) ?_
              refine sq_skip_u rfl ?_
              refine sq_skip_u rfl ?_
              refine sq_skip_u rfl ?_
              refine sq_skip_u rfl ?_
              refine sq_skip_u rfl ?_
              refine sq_skip_u rfl ?_
              refine sq_skip_u rfl ?_
              refine sq_skip_u rfl ?_
              refine sq_skip_u rfl ?_
              refine sq_end ?_
              intro σ135 hm136
              replace H := H.grow (hm136.mono fun _ h => h); clear hm136
              refine st_skip_u rfl ?_
              refine st_skip (congrArg some hb134) ?_
              refine st (v := (B true)) (rv_pick_t (congrArg B hb134) rfl) ?_
              refine w_end ?_
              obtain rfl := Option.some.inj h
              exact ⟨rfl, _, σ135, fr_join ⟨rfl, rfl, rfl, rfl, rfl, trivial⟩, rfl, H.sel' [2, 0, 3] rfl rfl⟩
             ·replace h := bif_f hb134 h
              refine sq_g (v := (I (w64 (r119 + r129)))) (congrArg some hb134) (rv_move rfl) ?_
              refine sq_g (v := (I (w64 (r74 + r84)))) (congrArg some hb134) (rv_move rfl) ?_
              refine sq_g (v := (B ((w64 (r119 + r129)) == (w64 (r74 + r84))))) (congrArg some hb134) (rv_eql (a := (w64 (r119 + r129))) (b := (w64 (r74 + r84))) rfl rfl) ?_
              refine sq_g (v := (B ((w64 (r119 + r129)) == (w64 (r74 + r84))))) (congrArg some hb134) (rv_move rfl) ?_
              rcases Bool.eq_false_or_eq_true ((w64 (r119 + r129)) == (w64 (r74 + r84))) with hb137 | hb137
              ·replace h := bif_t hb137 h
               refine sq_g (v := (Sl a13 r10 c14)) (congrArg some hb137) (rv_move rfl) ?_
               refine sq_g (v := (I s60)) (congrArg some hb137) (rv_move rfl) ?_
               refine sq_g (v := (I (w64 (s60 - 1)))) (congrArg some hb137) (rv_sub (a := s60) (b := 1) rfl rfl) ?_
               obtain ⟨x138, hx139, h'⟩ := bind_some h
               clear h
               have h := h'; clear h'
               obtain ⟨b141, o142, hi140, -⟩ := (H.ro 3 rfl).ix hx139
               refine sq_g (v := (pt b141 o142)) (congrArg some hb137) (rv_ix Try.underlying24 ti3 rfl rfl hi140) ?_
               have hc143 := ((H.ro 3 rfl).at hx139 hi140).int
               refine sq_g (v := (I x138)) (congrArg some hb137) (rv_load1 Try.underlying3 rfl rfl hc143) ?_
               refine sq_g (v := (Sl a13 r10 c14)) (congrArg some hb137) (rv_move rfl) ?_
               refine sq_g (v := (I s60)) (congrArg some hb137) (rv_move rfl) ?_
               obtain ⟨x144, hx145, h'⟩ := bind_some h
               clear h
               have h := h'; clear h'
               obtain ⟨b147, o148, hi146, -⟩ := (H.ro 3 rfl).ix hx145
               refine sq_g (v := (pt b147 o148)) (congrArg some hb137) (rv_ix Try.underlying24 ti3 rfl rfl hi146) ?_
               have hc149 := ((H.ro 3 rfl).at hx145 hi146).int
               refine sq_g (v := (I x144)) (congrArg some hb137) (rv_load1 Try.underlying3 rfl rfl hc149) ?_
               refine sq_end ?_
               intro σ150 hm151
               replace H := H.grow (hm151.mono fun _ h => h); clear hm151
               refine st_g (v := (B (decide (x144 ≤ x138)))) (congrArg some hb137) (rv_geq (a := x138) (b := x144) rfl rfl) ?_
               refine st_g (v := (B (decide (x144 ≤ x138)))) (congrArg some hb134) (rv_pick_t (congrArg B hb137) rfl) ?_
               refine st (v := (B (decide (x144 ≤ x138)))) (rv_pick_f (congrArg B hb134) rfl) ?_
               refine w_end ?_
               obtain rfl := Option.some.inj h
               exact ⟨rfl, _, σ150, fr_join ⟨rfl, rfl, rfl, rfl, rfl, trivial⟩, rfl, H.sel' [2, 0, 3] rfl rfl⟩
              ·replace h := bif_f hb137 h
               refine sq_skip (congrArg some hb137) ?_
               refine sq_skip (congrArg some hb137) ?_
               refine sq_skip (congrArg some hb137) ?_
               refine sq_skip (congrArg some hb137) ?_
               refine sq_skip (congrArg some hb137) ?_
               refine sq_skip (congrArg some hb137) ?_
               refine sq_skip (congrArg some hb137) ?_
               refine sq_skip (congrArg some hb137) ?_
               refine sq_skip (congrArg some hb137) ?_
               refine sq_end ?_
               intro σ152 hm153
               replace H := H.grow (hm153.mono fun _ h => h); clear hm153
               refine st_skip (congrArg some hb137) ?_
               refine st_g (v := (B false)) (congrArg some hb134) (rv_pick_f (congrArg B hb137) rfl) ?_
               refine st (v := (B false)) (rv_pick_f (congrArg B hb134) rfl) ?_
               refine w_end ?_
               obtain rfl := Option.some.inj h
               exact ⟨rfl, _, σ152, fr_join ⟨rfl, rfl, rfl, rfl, rfl, trivial⟩, rfl, H.sel' [2, 0, 3] rfl rfl⟩
            ·clear hj
             have h := h'
             clear h' H
             rintro e a w ⟨rfl, ρ, σ154, rfl, rfl, H⟩
             refine q_then ?_
             refine cd_cond o133 rfl (fun hb155 => ?_) (fun hb155 => ?_)
             ·replace h := bif_t hb155 h
              refine c_seq ?_
              refine rg ?_
              refine st (v := (B false)) (rv_assign rfl) ?_
              refine w_end ?_
              refine q_then ?_
              refine c_ret ?_
              refine q_blk_r ?_
              obtain rfl := Option.some.inj h
              exact .inr (⟨_, rfl, rfl, _, σ154, fr_join ⟨rfl, trivial⟩, rfl, H.sel' [] rfl rfl⟩)
             ·replace h := bif_f hb155 h
              refine c_skip ?_
              refine q_blk ?_
              obtain rfl := Option.some.inj h
              exact .inl ⟨_, rfl, rfl, _, σ154, fr_join ⟨rfl, rfl, rfl, rfl, trivial⟩, rfl, H.sel' [0, 1, 2] rfl rfl⟩
          ·replace h := bif_f hb112 h
           refine c_skip ?_
           refine q_blk ?_
           obtain rfl := Option.some.inj h
           exact .inl ⟨_, rfl, rfl, _, σ110, fr_join ⟨rfl, rfl, rfl, rfl, trivial⟩, rfl, H.sel' [0, 1, 2] rfl rfl⟩
      ·clear hj
       have h := h'
       clear h' H
       rintro e a w (⟨t156, rfl, rfl, ρ, σ157, rfl, rfl, H⟩ | ⟨t158, rfl, rfl, ρ, σ159, rfl, rfl, H⟩)
       ·replace h := selim_l h
        refine q_then ?_
        refine rg ?_
        refine st (v := (I s60)) (rv_move rfl) ?_
        refine st (v := (I (w64 (s60 + 1)))) (rv_add (a := s60) (b := 1) rfl rfl) ?_
        refine st (v := (I (w64 (s60 + 1)))) (rv_assign rfl) ?_
        refine w_end ?_
        refine q_then ?_
        obtain rfl := Option.some.inj h
        exact ⟨_, rfl, _, σ157, fr_join ⟨rfl, rfl, rfl, rfl, trivial⟩, rfl, H.sel' [0, 1, 2] rfl rfl⟩
       ·replace h := selim_r h
        refine q_then_r ?_
        refine q_then_r ?_
        refine q_blk_r ?_
        obtain rfl := Option.some.inj h
        obtain rfl := hres _ rfl
        exact .inr (⟨_, rfl, rfl, _, σ159, fr_join ⟨rfl, trivial⟩, rfl, H.sel' [] rfl rfl⟩)
     ·replace h := bif_f hb66 h
      refine c_exit ?_
      refine q_then_x ?_
      refine q_then_x ?_
      refine q_blk_hit ?_
      obtain rfl := Option.some.inj h
      obtain rfl := hres _ rfl
      exact .inl ⟨_, rfl, rfl, _, σ65, fr_join ⟨rfl, rfl, rfl, trivial⟩, rfl, H.sel' [0, 1, 2] rfl rfl⟩
    ·clear hj
     have h := h'
     clear h' H
     rintro e a w (⟨t160, rfl, rfl, ρ, σ161, rfl, rfl, H⟩ | ⟨t200, rfl, rfl, ρ, σ201, rfl, rfl, H⟩)
     ·replace h := selim_l h
      refine q_then ?_
      refine c_seq ?_
      refine c_seq ?_
      refine rg ?_
      refine st (v := (I 0)) (rv_assign rfl) ?_
      refine w_end ?_
      refine q_then ?_
      obtain ⟨o162, hj, h'⟩ := bind_some h
      clear h
      refine c_cut (fun e a w => (∃ t, o162 = (.inl t) ∧ e = .normal ∧ ∃ (ρ : Nat → Value) (σ : St), a = fr 139 (updL ρ [(4, (Sl a7 r2.2 c8)), (5, (Sl a13 r10 c14))]) ∧ w = σ.w ∧ Hp S0 σ0 σ [Ch.own n0 n0 (Sl a7 r2.2 c8) r2.2, Ch.ro 0 (Sl a13 r10 c14) r10]) ∨ (∃ t, o162 = (.inr t) ∧ e = .ret ∧ ∃ (ρ : Nat → Value) (σ : St), a = fr 139 (updL ρ [(2, (B t))]) ∧ w = σ.w ∧ Hp S0 σ0 σ [])) ?_ ?_
      ·clear h'
       rename _ = some o162 => h
       refine c_blk ?_
       refine wp_loopM _ h (fun s163 a w => ∃ (ρ : Nat → Value) (σ : St), a = fr 139 (updL ρ [(3, (Sl a5 r2.1 c6)), (4, (Sl a7 r2.2 c8)), (5, (Sl a13 r10 c14)), (9, (I s163))]) ∧ w = σ.w ∧ Hp S0 σ0 σ [Ch.ro n0 (Sl a5 r2.1 c6) r2.1, Ch.own n0 n0 (Sl a7 r2.2 c8) r2.2, Ch.ro 0 (Sl a13 r10 c14) r10]) ⟨_, σ161, fr_join ⟨rfl, rfl, rfl, rfl, trivial⟩, rfl, H.sel' [0, 1, 2] rfl rfl⟩ ?_
       clear h H
       rintro s163 a w o ⟨ρ, σ164, rfl, rfl, H⟩ h hres
       refine c_seq ?_
       refine c_seq ?_
       refine rg ?_
       refine st (v := (I s163)) (rv_move rfl) ?_
       refine st (v := (Sl a5 r2.1 c6)) (rv_move rfl) ?_
       refine st (v := (I (r2.1.length : Int))) (rv_len Try.underlying27 rfl) ?_
       refine st (v := (B (decide (s163 < (r2.1.length : Int))))) (rv_lss (a := s163) (b := (r2.1.length : Int)) rfl rfl) ?_
       refine w_end ?_
       refine q_then ?_
       refine cd_cond (decide (s163 < (r2.1.length : Int))) rfl (fun hb165 => ?_) (fun hb165 => ?_)
       ·replace h := bif_t hb165 h
        refine c_skip ?_
        refine q_then ?_
        refine c_seq ?_
        refine c_blk ?_
        refine c_seq ?_
        refine rg ?_
        refine st (v := (Sl a13 r10 c14)) (rv_move rfl) ?_
        refine st (v := (Sl a5 r2.1 c6)) (rv_move rfl) ?_
        refine st (v := (I s163)) (rv_move rfl) ?_
        obtain ⟨x166, hx167, h'⟩ := bind_some h
        clear h
        have h := h'; clear h'
        obtain ⟨b169, o170, hi168, -⟩ := (H.ro 0 rfl).ix hx167
        refine st (v := (pt b169 o170)) (rv_ix Try.underlying27 ti31 rfl rfl hi168) ?_
        refine st (v := (pt b169 (o170 + 0))) (rv_fieldAddr (off := 0) (ft := 3) Try.underlying31 rfl ti3 rfl rfl) ?_
        have hc171 := ((H.ro 0 rfl).at hx167 hi168).fst.int
        refine st (v := (I x166.1)) (rv_load1 Try.underlying3 rfl rfl hc171) ?_
        obtain ⟨r172, hx173, h'⟩ := bind_some h
        clear h
        have h := h'; clear h'
        have hc174 := c_laws_isIn (alist_0 := a13) (clist_0 := c14) hx173
        refine st_call (cx_call hc174 (ent_f hc174.fn rfl) hn0 (show Hp S0 σ0 _ ([Ch.ro 0 (Sl a13 r10 c14) r10] ++ [Ch.ro n0 (Sl a5 r2.1 c6) r2.1, Ch.own n0 n0 (Sl a7 r2.2 c8) r2.2, Ch.ro 0 (Sl a13 r10 c14) r10]) from (H.sel' [2, 0, 1, 2] rfl rfl))) wn ?_
        rintro _ σ175 ⟨_, ⟨rfl, rfl⟩, H, -⟩
        replace H : Hp S0 σ0 σ175 [Ch.ro n0 (Sl a5 r2.1 c6) r2.1, Ch.own n0 n0 (Sl a7 r2.2 c8) r2.2, Ch.ro 0 (Sl a13 r10 c14) r10] := H
        refine st (v := (B (!r172))) (rv_not rfl) ?_
        refine w_end ?_
        refine q_then ?_
        refine cd_cond (!r172) rfl (fun hb176 => ?_) (fun hb176 => ?_)
        ·replace h := bif_t hb176 h
         refine c_seq ?_
         refine rg ?_
         refine st (v := (B false)) (rv_assign rfl) ?_
         refine w_end ?_
         refine q_then ?_
         refine c_ret ?_
         refine q_blk_r ?_
         refine q_then_r ?_
         refine q_then_r ?_
         refine q_blk_r ?_
         obtain rfl := Option.some.inj h
         obtain rfl := hres _ rfl
         exact .inr (⟨_, rfl, rfl, _, σ175, fr_join ⟨rfl, trivial⟩, rfl, H.sel' [] rfl rfl⟩)
        ·replace h := bif_f hb176 h
         refine c_skip ?_
         refine q_blk ?_
         refine q_then ?_
         refine rg ?_
         refine st (v := (I s163)) (rv_move rfl) ?_
         refine st (v := (I (w64 (s163 + 1)))) (rv_add (a := s163) (b := 1) rfl rfl) ?_
         refine st (v := (I (w64 (s163 + 1)))) (rv_assign rfl) ?_
         refine w_end ?_
         refine q_then ?_
         obtain rfl := Option.some.inj h
         exact ⟨_, rfl, _, σ175, fr_join ⟨rfl, rfl, rfl, rfl, trivial⟩, rfl, H.sel' [0, 1, 2] rfl rfl⟩
       ·replace h := bif_f hb165 h
        refine c_exit ?_
        refine q_then_x ?_
        refine q_then_x ?_
        refine q_blk_hit ?_
        obtain rfl := Option.some.inj h
        obtain rfl := hres _ rfl
        exact .inl ⟨_, rfl, rfl, _, σ164, fr_join ⟨rfl, rfl, trivial⟩, rfl, H.sel' [1, 2] rfl rfl⟩
      ·clear hj
       have h := h'
       clear h' H
       rintro e a w (⟨t177, rfl, rfl, ρ, σ178, rfl, rfl, H⟩ | ⟨t198, rfl, rfl, ρ, σ199, rfl, rfl, H⟩)
       ·replace h := selim_l h
        refine q_then ?_
        refine c_seq ?_
        refine c_seq ?_
        refine rg ?_
        refine st (v := (I 0)) (rv_assign rfl) ?_
        refine w_end ?_
        refine q_then ?_
        obtain ⟨o179, hj, h'⟩ := bind_some h
        clear h
        refine c_cut (fun e a w => (∃ t, o179 = (.inl t) ∧ e = .normal ∧ ∃ (ρ : Nat → Value) (σ : St), a = fr 139 (updL ρ []) ∧ w = σ.w ∧ Hp S0 σ0 σ []) ∨ (∃ t, o179 = (.inr t) ∧ e = .ret ∧ ∃ (ρ : Nat → Value) (σ : St), a = fr 139 (updL ρ [(2, (B t))]) ∧ w = σ.w ∧ Hp S0 σ0 σ [])) ?_ ?_
        ·clear h'
         rename _ = some o179 => h
         refine c_blk ?_
         refine wp_loopM _ h (fun s180 a w => ∃ (ρ : Nat → Value) (σ : St), a = fr 139 (updL ρ [(4, (Sl a7 r2.2 c8)), (5, (Sl a13 r10 c14)), (10, (I s180))]) ∧ w = σ.w ∧ Hp S0 σ0 σ [Ch.own n0 n0 (Sl a7 r2.2 c8) r2.2, Ch.ro 0 (Sl a13 r10 c14) r10]) ⟨_, σ178, fr_join ⟨rfl, rfl, rfl, trivial⟩, rfl, H.sel' [0, 1] rfl rfl⟩ ?_
         clear h H
         rintro s180 a w o ⟨ρ, σ181, rfl, rfl, H⟩ h hres
         refine c_seq ?_
         refine c_seq ?_
         refine rg ?_
         refine st (v := (I s180)) (rv_move rfl) ?_
         refine st (v := (Sl a7 r2.2 c8)) (rv_move rfl) ?_
         refine st (v := (I (r2.2.length : Int))) (rv_len Try.underlying27 rfl) ?_
         refine st (v := (B (decide (s180 < (r2.2.length : Int))))) (rv_lss (a := s180) (b := (r2.2.length : Int)) rfl rfl) ?_
         refine w_end ?_
         refine q_then ?_
         refine cd_cond (decide (s180 < (r2.2.length : Int))) rfl (fun hb182 => ?_) (fun hb182 => ?_)
         ·replace h := bif_t hb182 h
          refine c_skip ?_
          refine q_then ?_
          refine c_seq ?_
          refine c_blk ?_
          refine c_seq ?_
          refine rg ?_
          refine st (v := (Sl a13 r10 c14)) (rv_move rfl) ?_
          refine st (v := (Sl a7 r2.2 c8)) (rv_move rfl) ?_
          refine st (v := (I s180)) (rv_move rfl) ?_
          obtain ⟨x183, hx184, h'⟩ := bind_some h
          clear h
          have h := h'; clear h'
          obtain ⟨b186, o187, hi185, -⟩ := (H.own 0 rfl).ix hx184
          refine st (v := (pt b186 o187)) (rv_ix Try.underlying27 ti31 rfl rfl hi185) ?_
          refine st (v := (pt b186 (o187 + 0))) (rv_fieldAddr (off := 0) (ft := 3) Try.underlying31 rfl ti3 rfl rfl) ?_
          have hc188 := ((H.own 0 rfl).at hx184 hi185).fst.int
          refine st (v := (I x183.1)) (rv_load1 Try.underlying3 rfl rfl hc188) ?_
          obtain ⟨r189, hx190, h'⟩ := bind_some h
          clear h
          have h := h'; clear h'
          have hc191 := c_laws_isIn (alist_0 := a13) (clist_0 := c14) hx190
          refine st_call (cx_call hc191 (ent_f hc191.fn rfl) hn0 (show Hp S0 σ0 _ ([Ch.ro 0 (Sl a13 r10 c14) r10] ++ [Ch.own n0 n0 (Sl a7 r2.2 c8) r2.2, Ch.ro 0 (Sl a13 r10 c14) r10]) from (H.sel' [1, 0, 1] rfl rfl))) wn ?_
          rintro _ σ192 ⟨_, ⟨rfl, rfl⟩, H, -⟩
          replace H : Hp S0 σ0 σ192 [Ch.own n0 n0 (Sl a7 r2.2 c8) r2.2, Ch.ro 0 (Sl a13 r10 c14) r10] := H
          refine st (v := (B (!r189))) (rv_not rfl) ?_
          refine w_end ?_
          refine q_then ?_
          refine cd_cond (!r189) rfl (fun hb193 => ?_) (fun hb193 => ?_)
          ·replace h := bif_t hb193 h
           refine c_seq ?_
           refine rg ?_
           refine st (v := (B false)) (rv_assign rfl) ?_
           refine w_end ?_
           refine q_then ?_
           refine c_ret ?_
           refine q_blk_r ?_
           refine q_then_r ?_
           refine q_then_r ?_
           refine q_blk_r ?_
           obtain rfl := Option.some.inj h
           obtain rfl := hres _ rfl
           exact .inr (⟨_, rfl, rfl, _, σ192, fr_join ⟨rfl, trivial⟩, rfl, H.sel' [] rfl rfl⟩)
          ·replace h := bif_f hb193 h
           refine c_skip ?_
           refine q_blk ?_
           refine q_then ?_
           refine rg ?_
           refine st (v := (I s180)) (rv_move rfl) ?_
           refine st (v := (I (w64 (s180 + 1)))) (rv_add (a := s180) (b := 1) rfl rfl) ?_
           refine st (v := (I (w64 (s180 + 1)))) (rv_assign rfl) ?_
           refine w_end ?_
           refine q_then ?_
           obtain rfl := Option.some.inj h
           exact ⟨_, rfl, _, σ192, fr_join ⟨rfl, rfl, rfl, trivial⟩, rfl, H.sel' [0, 1] rfl rfl⟩
         ·replace h := bif_f hb182 h
          refine c_exit ?_
          refine q_then_x ?_
          refine q_then_x ?_
          refine q_blk_hit ?_
          obtain rfl := Option.some.inj h
          obtain rfl := hres _ rfl
          exact .inl ⟨_, rfl, rfl, _, σ181, fr_join trivial, rfl, H.sel' [] rfl rfl⟩
        ·clear hj
         have h := h'
         clear h' H
         rintro e a w (⟨t194, rfl, rfl, ρ, σ195, rfl, rfl, H⟩ | ⟨t196, rfl, rfl, ρ, σ197, rfl, rfl, H⟩)
         ·replace h := selim_l h
          refine q_then ?_
          refine c_seq ?_
          refine rg ?_
          refine st (v := (B true)) (rv_assign rfl) ?_
          refine w_end ?_
          refine q_then ?_
          refine c_ret ?_
          obtain rfl := Option.some.inj h
          exact fin_ret (v := (B true)) (results_ok Try.results9 (res_tmp (v := (B true)) rfl res_nil) rfl) ⟨rfl, rfl⟩ (H.sel' [] rfl rfl)
         ·replace h := selim_r h
          refine q_then_r ?_
          obtain rfl := Option.some.inj h
          exact fin_ret (v := (B t196)) (results_ok Try.results9 (res_tmp (v := (B t196)) rfl res_nil) rfl) ⟨rfl, rfl⟩ (H.sel' [] rfl rfl)
       ·replace h := selim_r h
        refine q_then_r ?_
        obtain rfl := Option.some.inj h
        exact fin_ret (v := (B t198)) (results_ok Try.results9 (res_tmp (v := (B t198)) rfl res_nil) rfl) ⟨rfl, rfl⟩ (H.sel' [] rfl rfl)
     ·replace h := selim_r h
      refine q_then_r ?_
      obtain rfl := Option.some.inj h
      exact fin_ret (v := (B t200)) (results_ok Try.results9 (res_tmp (v := (B t200)) rfl res_nil) rfl) ⟨rfl, rfl⟩ (H.sel' [] rfl rfl)

end Go.Vs
