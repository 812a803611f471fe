/- The functions compute what their models say. -/
import Derived.Test.YtnkflplbeagljabKFuseRanksSelfC3
set_option linter.unusedVariables false
set_option linter.unusedSimpArgs false
set_option maxRecDepth 20000
namespace Go.Vs
open Go Go.Proofs
attribute [local irreducible] Code.wp Code.wpIn wpList wpListIn wpQuiet Calls CallsIn

theorem c_spec_FuseRanks {a_0 : List (Int × Int)} {b_1 : List (Int × Int)} {aa_0 : Option Addr} {ca_0 : Nat} {ab_1 : Option Addr} {cb_1 : Nat} {r : (List Int)} (h : M.spec_FuseRanks a_0 b_1 = some r) :
    Cal2 Try.prog 14 [(Sl aa_0 a_0 ca_0), (Sl ab_1 b_1 cb_1)] [Ch.ro 0 (Sl aa_0 a_0 ca_0) a_0, Ch.ro 0 (Sl ab_1 b_1 cb_1) b_1] (fun n0 v L => ∃ (az1 : Option Addr), ∃ (cz2 : Nat), v = (Sl az1 r cz2) ∧ L = [Ch.own n0 n0 (Sl az1 r cz2) r]) := by
 refine cal2 (n := 79) Try.func14 rfl rfl rfl rfl ?_
 intro S0 σ0 n0 hn0 H
 unfold M.spec_FuseRanks at h
 refine c_seq ?_
 refine rg ?_
 refine st (v := (.slice none 0 0)) (rv_assign rfl) ?_
 refine w_end ?_
 refine q_then ?_
 refine c_seq ?_
 refine rg ?_
 refine st_ex (ex_buildSlice (el := n0) (xs := ([] : List Int)) (ps := []) (cs := []) H hn0 Try.underlying26 ti3 rfl rfl (by kernel_rfl) (.nil) rfl) wn ?_
 rintro _ σ2 ⟨b1, rfl, H, -⟩
 refine st (v := (Sl (some ⟨b1, 0, none⟩) ([] : List Int) 0)) (rv_assign rfl) ?_
 refine w_end ?_
 refine q_then ?_
 refine c_seq ?_
 refine c_seq ?_
 obtain ⟨o3, hj, h'⟩ := bind_some h
 clear h
 refine c_cut (fun e a w => e = .normal ∧ ∃ (ρ : Nat → Value) (σ : St), a = fr 79 (updL ρ [(0, (Sl aa_0 a_0 ca_0)), (1, (Sl ab_1 b_1 cb_1)), (5, (Sl (some ⟨b1, 0, none⟩) ([] : List Int) 0)), (17, (B o3))]) ∧ w = σ.w ∧ Hp S0 σ0 σ [Ch.ro 0 (Sl aa_0 a_0 ca_0) a_0, Ch.ro 0 (Sl ab_1 b_1 cb_1) b_1, Ch.own n0 n0 (Sl (some ⟨b1, 0, none⟩) ([] : List Int) 0) ([] : List Int)]) ?_ ?_
 ·clear h'
  rename _ = some o3 => h
  refine rg ?_
  refine st (v := (Sl aa_0 a_0 ca_0)) (rv_move rfl) ?_
  obtain ⟨r4, hx5, h'⟩ := bind_some h
  clear h
  have h := h'; clear h'
  have hc6 := c_spec_validHits (alist_0 := aa_0) (clist_0 := ca_0) hx5
  refine st_call (cx_call hc6 (ent_f hc6.fn rfl) hn0 (show Hp S0 σ0 _ ([Ch.ro 0 (Sl aa_0 a_0 ca_0) a_0] ++ [Ch.own n0 n0 (Sl (some ⟨b1, 0, none⟩) ([] : List Int) 0) ([] : List Int), Ch.ro 0 (Sl aa_0 a_0 ca_0) a_0, Ch.ro 0 (Sl ab_1 b_1 cb_1) b_1]) from (H.sel' [1, 0, 1, 2] rfl rfl))) wn ?_
  rintro _ σ7 ⟨_, ⟨rfl, rfl⟩, H, -⟩
  replace H : Hp S0 σ0 σ7 [Ch.own n0 n0 (Sl (some ⟨b1, 0, none⟩) ([] : List Int) 0) ([] : List Int), Ch.ro 0 (Sl aa_0 a_0 ca_0) a_0, Ch.ro 0 (Sl ab_1 b_1 cb_1) b_1] := H
  refine st (v := (B (!r4))) (rv_not rfl) ?_
  refine st (v := (B (!r4))) (rv_move rfl) ?_
  rcases Bool.eq_false_or_eq_true (!r4) with hb8 | hb8
  ·replace h := bif_t hb8 h
   refine st_skip (congrArg some hb8) ?_
   refine st_skip (congrArg some hb8) ?_
   refine st_skip (congrArg some hb8) ?_
   refine st (v := (B true)) (rv_pick_t (congrArg B hb8) rfl) ?_
   refine w_end ?_
   obtain rfl := Option.some.inj h
   exact ⟨rfl, _, σ7, fr_join ⟨rfl, rfl, rfl, rfl, trivial⟩, rfl, H.sel' [1, 2, 0] rfl rfl⟩
  ·replace h := bif_f hb8 h
   refine st_g (v := (Sl ab_1 b_1 cb_1)) (congrArg some hb8) (rv_move rfl) ?_
   obtain ⟨r9, hx10, h'⟩ := bind_some h
   clear h
   have h := h'; clear h'
   have hc11 := c_spec_validHits (alist_0 := ab_1) (clist_0 := cb_1) hx10
   refine st_call (cx_call hc11 (ent_f hc11.fn rfl) hn0 (show Hp S0 σ0 _ ([Ch.ro 0 (Sl ab_1 b_1 cb_1) b_1] ++ [Ch.own n0 n0 (Sl (some ⟨b1, 0, none⟩) ([] : List Int) 0) ([] : List Int), Ch.ro 0 (Sl aa_0 a_0 ca_0) a_0, Ch.ro 0 (Sl ab_1 b_1 cb_1) b_1]) from (H.sel' [2, 0, 1, 2] rfl rfl))) (wanted_yes rfl (by exact (congrArg some hb8))) ?_
   rintro _ σ12 ⟨_, ⟨rfl, rfl⟩, H, -⟩
   replace H : Hp S0 σ0 σ12 [Ch.own n0 n0 (Sl (some ⟨b1, 0, none⟩) ([] : List Int) 0) ([] : List Int), Ch.ro 0 (Sl aa_0 a_0 ca_0) a_0, Ch.ro 0 (Sl ab_1 b_1 cb_1) b_1] := H
   refine st_g (v := (B (!r9))) (congrArg some hb8) (rv_not rfl) ?_
   refine st (v := (B (!r9))) (rv_pick_f (congrArg B hb8) rfl) ?_
   refine w_end ?_
   obtain rfl := Option.some.inj h
   exact ⟨rfl, _, σ12, fr_join ⟨rfl, rfl, rfl, rfl, trivial⟩, rfl, H.sel' [1, 2, 0] rfl rfl⟩
 ·clear hj
  have h := h'
  clear h' H
  rintro e a w ⟨rfl, ρ, σ13, rfl, rfl, H⟩
  refine q_then ?_
  refine cd_cond o3 rfl (fun hb14 => ?_) (fun hb14 => ?_)
  ·replace h := bif_t hb14 h
   refine c_seq ?_
   refine rg ?_
   refine st (v := (.slice none 0 0)) (rv_assign rfl) ?_
   refine w_end ?_
   refine q_then ?_
   refine c_ret ?_
   refine q_then_r ?_
   replace H := H.nilOwn Int n0 n0
   obtain rfl := Option.some.inj h
   exact fin_ret (v := (.slice none 0 0)) (results_ok Try.results14 (res_tmp (v := (.slice none 0 0)) rfl res_nil) rfl) ⟨none, 0, rfl, rfl⟩ (H.sel' [0] rfl rfl)
  ·replace h := bif_f hb14 h
   refine c_skip ?_
   refine q_then ?_
   refine c_seq ?_
   refine c_seq ?_
   refine rg ?_
   refine st (v := (I 1)) (rv_assign rfl) ?_
   refine w_end ?_
   refine q_then ?_
   obtain ⟨o15, hj, h'⟩ := bind_some h
   clear h
   refine c_cut (fun e a w => e = .normal ∧ ∃ (ρ : Nat → Value) (σ : St) (aj1 : Option Addr) (cj2 : Nat), a = fr 79 (updL ρ [(5, (Sl aj1 o15 cj2))]) ∧ w = σ.w ∧ Hp S0 σ0 σ [Ch.own n0 n0 (Sl aj1 o15 cj2) o15]) ?_ ?_
   ·clear h'
    rename _ = some o15 => h
    refine c_blk ?_
    refine wp_loopM _ h (fun s16 a w => ∃ (ρ : Nat → Value) (σ : St) (aj1 : Option Addr) (cj2 : Nat), a = fr 79 (updL ρ [(0, (Sl aa_0 a_0 ca_0)), (1, (Sl ab_1 b_1 cb_1)), (5, (Sl aj1 s16.1 cj2)), (6, (I s16.2))]) ∧ w = σ.w ∧ Hp S0 σ0 σ [Ch.ro 0 (Sl aa_0 a_0 ca_0) a_0, Ch.ro 0 (Sl ab_1 b_1 cb_1) b_1, Ch.own n0 n0 (Sl aj1 s16.1 cj2) s16.1]) ⟨_, σ13, (some ⟨b1, 0, none⟩), 0, fr_join ⟨rfl, rfl, rfl, rfl, trivial⟩, rfl, H.sel' [0, 1, 2] rfl rfl⟩ ?_
    clear h H
    rintro s16 a w o ⟨ρ, σ17, a18, c19, rfl, rfl, H⟩ h hres
    refine c_seq ?_
    refine c_seq ?_
    refine rg ?_
    refine st (v := (I s16.2)) (rv_move rfl) ?_
    refine st (v := (B (decide (s16.2 ≤ 99)))) (rv_leq (a := s16.2) (b := 99) rfl rfl) ?_
    refine w_end ?_
    refine q_then ?_
    refine cd_cond (decide (s16.2 ≤ 99)) rfl (fun hb20 => ?_) (fun hb20 => ?_)
    ·replace h := bif_t hb20 h
     refine c_skip ?_
     refine q_then ?_
     refine c_seq ?_
     obtain ⟨o21, hj, h'⟩ := bind_some h
     clear h
     refine c_cut (fun e a w => e = .normal ∧ ∃ (ρ : Nat → Value) (σ : St) (aj1 : Option Addr) (cj2 : Nat), a = fr 79 (updL ρ [(0, (Sl aa_0 a_0 ca_0)), (1, (Sl ab_1 b_1 cb_1)), (5, (Sl aj1 o21 cj2)), (6, (I s16.2))]) ∧ w = σ.w ∧ Hp S0 σ0 σ [Ch.ro 0 (Sl aa_0 a_0 ca_0) a_0, Ch.ro 0 (Sl ab_1 b_1 cb_1) b_1, Ch.own n0 n0 (Sl aj1 o21 cj2) o21]) ?_ ?_
     ·clear h'
      rename _ = some o21 => h
      refine c_blk ?_
      refine c_seq ?_
      refine c_seq ?_
      obtain ⟨o22, hj, h'⟩ := bind_some h
      clear h
      refine c_cut (fun e a w => e = .normal ∧ ∃ (ρ : Nat → Value) (σ : St), a = fr 79 (updL ρ [(0, (Sl aa_0 a_0 ca_0)), (1, (Sl ab_1 b_1 cb_1)), (5, (Sl a18 s16.1 c19)), (6, (I s16.2)), (31, (B o22))]) ∧ w = σ.w ∧ Hp S0 σ0 σ [Ch.ro 0 (Sl aa_0 a_0 ca_0) a_0, Ch.ro 0 (Sl ab_1 b_1 cb_1) b_1, Ch.own n0 n0 (Sl a18 s16.1 c19) s16.1]) ?_ ?_
      ·clear h'
       rename _ = some o22 => h
       refine rg ?_
       refine st (v := (Sl aa_0 a_0 ca_0)) (rv_move rfl) ?_
       refine st (v := (I s16.2)) (rv_move rfl) ?_
       obtain ⟨r23, hx24, h'⟩ := bind_some h
       clear h
       have h := h'; clear h'
       have hc25 := c_spec_hitAt (alist_0 := aa_0) (clist_0 := ca_0) hx24
       refine st_call (cx_call hc25 (ent_f hc25.fn rfl) hn0 (show Hp S0 σ0 _ ([Ch.ro 0 (Sl aa_0 a_0 ca_0) a_0] ++ [Ch.ro 0 (Sl aa_0 a_0 ca_0) a_0, Ch.ro 0 (Sl ab_1 b_1 cb_1) b_1, Ch.own n0 n0 (Sl a18 s16.1 c19) s16.1]) from (H.sel' [0, 0, 1, 2] rfl rfl))) wn ?_
       rintro _ σ26 ⟨_, ⟨rfl, rfl⟩, H, -⟩
       replace H : Hp S0 σ0 σ26 [Ch.ro 0 (Sl aa_0 a_0 ca_0) a_0, Ch.ro 0 (Sl ab_1 b_1 cb_1) b_1, Ch.own n0 n0 (Sl a18 s16.1 c19) s16.1] := H
       refine st (v := (B (decide (r23 < 0)))) (rv_lss (a := r23) (b := 0) rfl rfl) ?_
       refine st (v := (B (decide (r23 < 0)))) (rv_move rfl) ?_
       rcases Bool.eq_false_or_eq_true (decide (r23 < 0)) with hb27 | hb27
       ·replace h := bif_t hb27 h
        refine st_g (v := (Sl ab_1 b_1 cb_1)) (congrArg some hb27) (rv_move rfl) ?_
        refine st_g (v := (I s16.2)) (congrArg some hb27) (rv_move rfl) ?_
        obtain ⟨r28, hx29, h'⟩ := bind_some h
        clear h
        have h := h'; clear h'
        have hc30 := c_spec_hitAt (alist_0 := ab_1) (clist_0 := cb_1) hx29
        refine st_call (cx_call hc30 (ent_f hc30.fn rfl) hn0 (show Hp S0 σ0 _ ([Ch.ro 0 (Sl ab_1 b_1 cb_1) b_1] ++ [Ch.ro 0 (Sl aa_0 a_0 ca_0) a_0, Ch.ro 0 (Sl ab_1 b_1 cb_1) b_1, Ch.own n0 n0 (Sl a18 s16.1 c19) s16.1]) from (H.sel' [1, 0, 1, 2] rfl rfl))) (wanted_yes rfl (by exact (congrArg some hb27))) ?_
        rintro _ σ31 ⟨_, ⟨rfl, rfl⟩, H, -⟩
        replace H : Hp S0 σ0 σ31 [Ch.ro 0 (Sl aa_0 a_0 ca_0) a_0, Ch.ro 0 (Sl ab_1 b_1 cb_1) b_1, Ch.own n0 n0 (Sl a18 s16.1 c19) s16.1] := H
        refine st_g (v := (B (decide (r28 < 0)))) (congrArg some hb27) (rv_lss (a := r28) (b := 0) rfl rfl) ?_
        refine st (v := (B (decide (r28 < 0)))) (rv_pick_t (congrArg B hb27) rfl) ?_
        refine w_end ?_
        obtain rfl := Option.some.inj h
        exact ⟨rfl, _, σ31, fr_join ⟨rfl, rfl, rfl, rfl, rfl, trivial⟩, rfl, H.sel' [0, 1, 2] rfl rfl⟩
       ·replace h := bif_f hb27 h
        refine st_skip (congrArg some hb27) ?_
        refine st_skip (congrArg some hb27) ?_
        refine st_skip (congrArg some hb27) ?_
        refine st_skip (congrArg some hb27) ?_
        refine st (v := (B false)) (rv_pick_f (congrArg B hb27) rfl) ?_
        refine w_end ?_
        obtain rfl := Option.some.inj h
        exact ⟨rfl, _, σ26, fr_join ⟨rfl, rfl, rfl, rfl, rfl, trivial⟩, rfl, H.sel' [0, 1, 2] rfl rfl⟩
      ·clear hj
       have h := h'
       clear h' H
       rintro e a w ⟨rfl, ρ, σ32, rfl, rfl, H⟩
       refine q_then ?_
       refine cd_cond o22 rfl (fun hb33 => ?_) (fun hb33 => ?_)
       ·replace h := bif_t hb33 h
        refine c_exit ?_
        refine q_then_x ?_
        refine q_blk_hit ?_
        obtain rfl := Option.some.inj h
        exact ⟨rfl, _, σ32, a18, c19, fr_join ⟨rfl, rfl, rfl, rfl, trivial⟩, rfl, H.sel' [0, 1, 2] rfl rfl⟩
       ·replace h := bif_f hb33 h
        refine c_skip ?_
        refine q_then ?_
        refine c_seq ?_
        refine rg ?_
        refine st (v := (Sl a18 s16.1 c19)) (rv_move rfl) ?_
        refine st (v := (I s16.2)) (rv_move rfl) ?_
        refine st_ex (ex_buildSlice (el := n0) (xs := ([s16.2] : List Int)) (ps := [(0, (I s16.2))]) (cs := [(I s16.2)]) H hn0 Try.underlying26 ti3 rfl rfl (by kernel_rfl) (.cons (c := [(I s16.2)]) rfl (.nil)) rfl) wn ?_
        rintro _ σ35 ⟨b34, rfl, H, -⟩
        obtain ⟨xs36, hx37, h'⟩ := bind_some h
        clear h
        have h := h'; clear h'
        refine st_ex (ex_append H (i := 3) rfl Try.underlying26 Try.underlying26 ti3 rfl rfl (by decide) (H.own 0 rfl).rd hx37 hn0 rfl rfl) wn ?_
        rintro _ σ40 ⟨a38, c39, rfl, H, -⟩
        refine st (v := (Sl a38 xs36 c39)) (rv_assign rfl) ?_
        refine w_end ?_
        refine q_then ?_
        refine c_seq ?_
        refine rg ?_
        refine st (v := (Sl a38 xs36 c39)) (rv_move rfl) ?_
        refine st (v := (I (xs36.length : Int))) (rv_len Try.underlying26 rfl) ?_
        refine st (v := (I (w64 ((xs36.length : Int) - 1)))) (rv_sub (a := (xs36.length : Int)) (b := 1) rfl rfl) ?_
        refine st (v := (I (w64 ((xs36.length : Int) - 1)))) (rv_assign rfl) ?_
        refine w_end ?_
        refine q_then ?_
        obtain ⟨o41, hj, h'⟩ := bind_some h
        clear h
        refine c_cut (fun e a w => e = .normal ∧ ∃ (ρ : Nat → Value) (σ : St), a = fr 79 (updL ρ [(0, (Sl aa_0 a_0 ca_0)), (1, (Sl ab_1 b_1 cb_1)), (5, (Sl a38 o41 c39)), (6, (I s16.2))]) ∧ w = σ.w ∧ Hp S0 σ0 σ [Ch.ro 0 (Sl aa_0 a_0 ca_0) a_0, Ch.ro 0 (Sl ab_1 b_1 cb_1) b_1, Ch.own n0 n0 (Sl a38 o41 c39) o41] ∧ o41.length = xs36.length) ?_ ?_
        ·clear h'
         rename _ = some o41 => h
         refine c_blk ?_
         refine wp_loopM _ h (fun s42 a w => ∃ (ρ : Nat → Value) (σ : St), a = fr 79 (updL ρ [(0, (Sl aa_0 a_0 ca_0)), (1, (Sl ab_1 b_1 cb_1)), (5, (Sl a38 s42.1 c39)), (6, (I s16.2)), (7, (I s42.2))]) ∧ w = σ.w ∧ Hp S0 σ0 σ [Ch.ro 0 (Sl aa_0 a_0 ca_0) a_0, Ch.ro 0 (Sl ab_1 b_1 cb_1) b_1, Ch.own n0 n0 (Sl a38 s42.1 c39) s42.1] ∧ s42.1.length = xs36.length) ⟨_, σ40, fr_join ⟨rfl, rfl, rfl, rfl, rfl, trivial⟩, rfl, H.sel' [2, 3, 0] rfl rfl, rfl⟩ ?_
         clear h H
         rintro s42 a w o ⟨ρ, σ43, rfl, rfl, H, hn44⟩ h hres
         refine c_seq ?_
         refine c_seq ?_
         obtain ⟨o45, hj, h'⟩ := bind_some h
         clear h
         refine c_cut (fun e a w => e = .normal ∧ ∃ (ρ : Nat → Value) (σ : St), a = fr 79 (updL ρ [(0, (Sl aa_0 a_0 ca_0)), (1, (Sl ab_1 b_1 cb_1)), (5, (Sl a38 s42.1 c39)), (6, (I s16.2)), (7, (I s42.2)), (58, (B o45))]) ∧ w = σ.w ∧ Hp S0 σ0 σ [Ch.ro 0 (Sl aa_0 a_0 ca_0) a_0, Ch.ro 0 (Sl ab_1 b_1 cb_1) b_1, Ch.own n0 n0 (Sl a38 s42.1 c39) s42.1]) ?_ ?_
         ·clear h'
          rename _ = some o45 => h
          rcases Bool.eq_false_or_eq_true (decide (0 < s42.2)) with hb46 | hb46
          ·replace h := bif_t hb46 h
           obtain ⟨x47, hx48, h'⟩ := bind_some h
           clear h
           have h := h'; clear h'
           obtain ⟨b50, o51, hi49, -⟩ := (H.own 2 rfl).ix hx48
           have hc52 := ((H.own 2 rfl).at hx48 hi49).int
           obtain ⟨r53, hx54, h'⟩ := bind_some h
           clear h
           have h := h'; clear h'
           have hc55 := c_spec_scoreOf (aa_0 := aa_0) (ca_0 := ca_0) (ab_1 := ab_1) (cb_1 := cb_1) hx54
           obtain ⟨x56, hx57, h'⟩ := bind_some h
           clear h
           have h := h'; clear h'
           obtain ⟨b59, o60, hi58, -⟩ := (H.own 2 rfl).ix hx57
           have hc61 := ((H.own 2 rfl).at hx57 hi58).int
           have Hs := H
           refine rg2 (σ := σ43) (Nm := Unit) 17 [9] [[false], [true]] [[(0, 0)], [(0, 0)], [(0, 0)], [(0, 0)], [(0, 0)], [(0, 0)], [(0, 0)], [(0, 0)], [(0, 0)], [(0, 1)], [(0, 0), (1, 1)], [(0, 0), (1, 1)], [(0, 0), (1, 1)], [(0, 0), (1, 1)], [(0, 0), (1, 1)], [(0, 0), (1, 1)], [(0, 0), (1, 1)]] 1 [fun _ => fun σm => Hp S0 σ0 σm [Ch.ro 0 (Sl aa_0 a_0 ca_0) a_0, Ch.ro 0 (Sl ab_1 b_1 cb_1) b_1, Ch.own n0 n0 (Sl a38 s42.1 c39) s42.1] ∧ Md (cov []) σ43 σm, fun _ => fun σm => Hp S0 σ0 σm [Ch.ro 0 (Sl aa_0 a_0 ca_0) a_0, Ch.ro 0 (Sl ab_1 b_1 cb_1) b_1, Ch.own n0 n0 (Sl a38 s42.1 c39) s42.1] ∧ Md (cov []) σ43 σm] [fun _ => (I s42.2), fun _ => (B (decide (0 < s42.2))), fun _ => (B (decide (0 < s42.2))), fun _ => (Sl aa_0 a_0 ca_0), fun _ => (Sl ab_1 b_1 cb_1), fun _ => (Sl a38 s42.1 c39), fun _ => (I s42.2), fun _ => (pt b50 o51), fun _ => (I x47), fun _ => (I r53), fun _ => (Sl aa_0 a_0 ca_0), fun _ => (Sl ab_1 b_1 cb_1), fun _ => (Sl a38 s42.1 c39), fun _ => (I s42.2), fun _ => (I (w64 (s42.2 - 1))), fun _ => (pt b59 o60), fun _ => (I x56)] () (by kernel_rfl) (by kernel_rfl) ?_ ?_ ?_
           ·intro σm m0
            exact ⟨H.grow (m0.mono fun _ h => h.elim), m0⟩
           ·refine ac rfl (by
              intro k _nm ρ σm hJ hoff hdep
              have e7 := look_off (N := 79) (hoff 7 rfl) rfl
              exact dp_v (v := (I s42.2)) wn (rv_move e7) rfl hJ) ?_
            refine ac rfl (by
              intro k _nm ρ σm hJ hoff hdep
              have e39 := hdep 0 rfl rfl 39 rfl
              exact dp_v (v := (B (decide (0 < s42.2)))) wn (rv_gtr (a := s42.2) (b := 0) e39 rfl) rfl hJ) ?_
            refine ac rfl (by
              intro k _nm ρ σm hJ hoff hdep
              have e40 := hdep 1 rfl rfl 40 rfl
              exact dp_v (v := (B (decide (0 < s42.2)))) wn (rv_move e40) rfl hJ) ?_
            refine ac rfl (by
              intro k _nm ρ σm hJ hoff hdep
              have e0 := look_off (N := 79) (hoff 0 rfl) rfl
              have e41 := hdep 2 rfl rfl 41 rfl
              exact dp_v (v := (Sl aa_0 a_0 ca_0)) (wanted_yes rfl (yv_of rfl (e41.trans (congrArg B hb46)))) (rv_move e0) rfl hJ) ?_
            refine ac rfl (by
              intro k _nm ρ σm hJ hoff hdep
              have e1 := look_off (N := 79) (hoff 1 rfl) rfl
              have e41 := hdep 2 rfl rfl 41 rfl
              exact dp_v (v := (Sl ab_1 b_1 cb_1)) (wanted_yes rfl (yv_of rfl (e41.trans (congrArg B hb46)))) (rv_move e1) rfl hJ) ?_
            refine ac rfl (by
              intro k _nm ρ σm hJ hoff hdep
              have e5 := look_off (N := 79) (hoff 5 rfl) rfl
              have e41 := hdep 2 rfl rfl 41 rfl
              exact dp_v (v := (Sl a38 s42.1 c39)) (wanted_yes rfl (yv_of rfl (e41.trans (congrArg B hb46)))) (rv_move e5) rfl hJ) ?_
            refine ac rfl (by
              intro k _nm ρ σm hJ hoff hdep
              have e7 := look_off (N := 79) (hoff 7 rfl) rfl
              have e41 := hdep 2 rfl rfl 41 rfl
              exact dp_v (v := (I s42.2)) (wanted_yes rfl (yv_of rfl (e41.trans (congrArg B hb46)))) (rv_move e7) rfl hJ) ?_
            refine ac rfl (by
              intro k _nm ρ σm hJ hoff hdep
              have e44 := hdep 5 rfl rfl 44 rfl
              have e45 := hdep 6 rfl rfl 45 rfl
              have e41 := hdep 2 rfl rfl 41 rfl
              exact dp_v (v := (pt b50 o51)) (wanted_yes rfl (yv_of rfl (e41.trans (congrArg B hb46)))) (rv_ix Try.underlying26 ti3 e44 e45 hi49) rfl hJ) ?_
            refine all_cons (by
              refine ⟨?_, ?_⟩
              ·intro _nm ρ σm hJ hoff hdep
               have e46 := hdep 7 rfl rfl 46 rfl
               have e41 := hdep 2 rfl rfl 41 rfl
               obtain ⟨H, m⟩ := id hJ
               have hc52 := ((H.own 2 rfl).at hx48 hi49).int
               exact dp_v (v := (I x47)) (wanted_yes rfl (yv_of rfl (e41.trans (congrArg B hb46)))) (rv_load1 Try.underlying3 rfl e46 hc52) rfl hJ
              trivial) ?_
            refine all_cons (by
              refine ⟨?_, ?_⟩
              ·intro _nm ρ σm hJ hoff hdep
               have e42 : look 79 ρ 42 = (Sl aa_0 a_0 ca_0) := hdep 3 rfl rfl 42 rfl
               have e43 : look 79 ρ 43 = (Sl ab_1 b_1 cb_1) := hdep 4 rfl rfl 43 rfl
               have e47 : look 79 ρ 47 = (I x47) := hdep 8 rfl rfl 47 rfl
               have e41 := hdep 2 rfl rfl 41 rfl
               obtain ⟨H, m⟩ := id hJ
               refine dp_cx (wanted_yes rfl (yv_of rfl (e41.trans (congrArg B hb46)))) (cx_call hc55 (ent_f hc55.fn (by show [look 79 ρ 42, look 79 ρ 43, look 79 ρ 47] = _; rw [e42, e43, e47])) hn0 (show Hp S0 σ0 _ ([Ch.ro 0 (Sl aa_0 a_0 ca_0) a_0, Ch.ro 0 (Sl ab_1 b_1 cb_1) b_1] ++ [Ch.ro 0 (Sl aa_0 a_0 ca_0) a_0, Ch.ro 0 (Sl ab_1 b_1 cb_1) b_1, Ch.own n0 n0 (Sl a38 s42.1 c39) s42.1]) from (H.sel' [0, 1, 0, 1, 2] rfl rfl))) ?_
               rintro _ σq ⟨_, ⟨rfl, rfl⟩, H2, m2⟩
               exact ⟨_, (), rfl, rfl, ⟨H2.sel' [0, 1, 2] rfl rfl, m.comp0 (m2.mono (fun i h => by simp [cov, Ch.ro] at h))⟩, stab [0, 1, 2, 3, 4, 5, 6, 7, 8, 10, 11, 12, 13, 14, 15, 16] (by kernel_rfl) ⟨rfl, rfl, rfl, rfl, rfl, rfl, rfl, rfl, rfl, rfl, rfl, rfl, rfl, rfl, rfl, rfl, trivial⟩⟩
              trivial) ?_
            refine ac rfl (by
              intro k _nm ρ σm hJ hoff hdep
              have e0 := look_off (N := 79) (hoff 0 rfl) rfl
              have e41 := hdep 2 rfl rfl 41 rfl
              exact dp_v (v := (Sl aa_0 a_0 ca_0)) (wanted_yes rfl (yv_of rfl (e41.trans (congrArg B hb46)))) (rv_move e0) rfl hJ) ?_
            refine ac rfl (by
              intro k _nm ρ σm hJ hoff hdep
              have e1 := look_off (N := 79) (hoff 1 rfl) rfl
              have e41 := hdep 2 rfl rfl 41 rfl
              exact dp_v (v := (Sl ab_1 b_1 cb_1)) (wanted_yes rfl (yv_of rfl (e41.trans (congrArg B hb46)))) (rv_move e1) rfl hJ) ?_
            refine ac rfl (by
              intro k _nm ρ σm hJ hoff hdep
              have e5 := look_off (N := 79) (hoff 5 rfl) rfl
              have e41 := hdep 2 rfl rfl 41 rfl
              exact dp_v (v := (Sl a38 s42.1 c39)) (wanted_yes rfl (yv_of rfl (e41.trans (congrArg B hb46)))) (rv_move e5) rfl hJ) ?_
            refine ac rfl (by
              intro k _nm ρ σm hJ hoff hdep
              have e7 := look_off (N := 79) (hoff 7 rfl) rfl
              have e41 := hdep 2 rfl rfl 41 rfl
              exact dp_v (v := (I s42.2)) (wanted_yes rfl (yv_of rfl (e41.trans (congrArg B hb46)))) (rv_move e7) rfl hJ) ?_
            refine ac rfl (by
              intro k _nm ρ σm hJ hoff hdep
              have e52 := hdep 13 rfl rfl 52 rfl
              have e41 := hdep 2 rfl rfl 41 rfl
              exact dp_v (v := (I (w64 (s42.2 - 1)))) (wanted_yes rfl (yv_of rfl (e41.trans (congrArg B hb46)))) (rv_sub (a := s42.2) (b := 1) e52 rfl) rfl hJ) ?_
            refine ac rfl (by
              intro k _nm ρ σm hJ hoff hdep
              have e51 := hdep 12 rfl rfl 51 rfl
              have e53 := hdep 14 rfl rfl 53 rfl
              have e41 := hdep 2 rfl rfl 41 rfl
              exact dp_v (v := (pt b59 o60)) (wanted_yes rfl (yv_of rfl (e41.trans (congrArg B hb46)))) (rv_ix Try.underlying26 ti3 e51 e53 hi58) rfl hJ) ?_
            refine all_cons (by
              refine ⟨?_, ?_⟩
              ·intro _nm ρ σm hJ hoff hdep
               have e54 := hdep 15 rfl rfl 54 rfl
               have e41 := hdep 2 rfl rfl 41 rfl
               obtain ⟨H, m⟩ := id hJ
               have hc61 := ((H.own 2 rfl).at hx57 hi58).int
               exact dp_v (v := (I x56)) (wanted_yes rfl (yv_of rfl (e41.trans (congrArg B hb46)))) (rv_load1 Try.underlying3 rfl e54 hc61) rfl hJ
              refine ⟨?_, ?_⟩
              ·intro _nm ρ σm hJ hoff hdep
               have e54 := hdep 15 rfl rfl 54 rfl
               have e41 := hdep 2 rfl rfl 41 rfl
               obtain ⟨H, m⟩ := id hJ
               have hc61 := ((H.own 2 rfl).at hx57 hi58).int
               exact dp_v (v := (I x56)) (wanted_yes rfl (yv_of rfl (e41.trans (congrArg B hb46)))) (rv_load1 Try.underlying3 rfl e54 hc61) rfl hJ
              trivial) ?_
            exact all_nil
           ·intro _nm ρ σ62 hJ hoff hrel
            have e0 := look_off (N := 79) (hoff 0 rfl) rfl
            have e1 := look_off (N := 79) (hoff 1 rfl) rfl
            have e5 := look_off (N := 79) (hoff 5 rfl) rfl
            have e6 := look_off (N := 79) (hoff 6 rfl) rfl
            have e7 := look_off (N := 79) (hoff 7 rfl) rfl
            have e41 := hrel 2 rfl 41 rfl
            have e48 := hrel 9 rfl 48 rfl
            have e49 := hrel 10 rfl 49 rfl
            have e50 := hrel 11 rfl 50 rfl
            have e55 := hrel 16 rfl 55 rfl
            obtain ⟨H, -⟩ := (show Hp S0 σ0 σ62 [Ch.ro 0 (Sl aa_0 a_0 ca_0) a_0, Ch.ro 0 (Sl ab_1 b_1 cb_1) b_1, Ch.own n0 n0 (Sl a38 s42.1 c39) s42.1] ∧ Md (cov []) σ43 σ62 from hJ)
            clear hJ Hs
            rw [fr_lookL (L := [(0, (Sl aa_0 a_0 ca_0)), (1, (Sl ab_1 b_1 cb_1)), (5, (Sl a38 s42.1 c39)), (6, (I s16.2)), (7, (I s42.2)), (41, (B (decide (0 < s42.2)))), (48, (I r53)), (49, (Sl aa_0 a_0 ca_0)), (50, (Sl ab_1 b_1 cb_1)), (55, (I x56))]) ⟨e0, e1, e5, e6, e7, e41, e48, e49, e50, e55, trivial⟩]
            clear hoff hrel e0 e1 e5 e6 e7 e41 e48 e49 e50 e55
            obtain ⟨r63, hx64, h'⟩ := bind_some h
            clear h
            have h := h'; clear h'
            have hc65 := c_spec_scoreOf (aa_0 := aa_0) (ca_0 := ca_0) (ab_1 := ab_1) (cb_1 := cb_1) hx64
            refine st_call (cx_call hc65 (ent_f hc65.fn rfl) hn0 (show Hp S0 σ0 _ ([Ch.ro 0 (Sl aa_0 a_0 ca_0) a_0, Ch.ro 0 (Sl ab_1 b_1 cb_1) b_1] ++ [Ch.ro 0 (Sl aa_0 a_0 ca_0) a_0, Ch.ro 0 (Sl ab_1 b_1 cb_1) b_1, Ch.own n0 n0 (Sl a38 s42.1 c39) s42.1]) from (H.sel' [0, 1, 0, 1, 2] rfl rfl))) (wanted_yes rfl (by exact (congrArg some hb46))) ?_
            rintro _ σ66 ⟨_, ⟨rfl, rfl⟩, H, -⟩
            replace H : Hp S0 σ0 σ66 [Ch.ro 0 (Sl aa_0 a_0 ca_0) a_0, Ch.ro 0 (Sl ab_1 b_1 cb_1) b_1, Ch.own n0 n0 (Sl a38 s42.1 c39) s42.1] := H
            refine st_g (v := (B (decide (r63 < r53)))) (congrArg some hb46) (rv_gtr (a := r53) (b := r63) rfl rfl) ?_
            refine st (v := (B (decide (r63 < r53)))) (rv_pick_t (congrArg B hb46) rfl) ?_
            refine w_end ?_
            obtain rfl := Option.some.inj h
            exact ⟨rfl, _, σ66, fr_join ⟨rfl, rfl, rfl, rfl, rfl, rfl, trivial⟩, rfl, H.sel' [0, 1, 2] rfl rfl⟩
          ·replace h := bif_f hb46 h
           have Hs := H
           refine rg2 (σ := σ43) (Nm := Unit) 17 [] [[]] [[(0, 0)], [(0, 0)], [(0, 0)], [(0, 0)], [(0, 0)], [(0, 0)], [(0, 0)], [(0, 0)], [(0, 0)], [(0, 0)], [(0, 0)], [(0, 0)], [(0, 0)], [(0, 0)], [(0, 0)], [(0, 0)], [(0, 0)]] 0 [fun _ => fun σm => Hp S0 σ0 σm [Ch.ro 0 (Sl aa_0 a_0 ca_0) a_0, Ch.ro 0 (Sl ab_1 b_1 cb_1) b_1, Ch.own n0 n0 (Sl a38 s42.1 c39) s42.1] ∧ Md (cov []) σ43 σm] [fun _ => (I s42.2), fun _ => (B (decide (0 < s42.2))), fun _ => (B (decide (0 < s42.2))), fun _ => undef, fun _ => undef, fun _ => undef, fun _ => undef, fun _ => undef, fun _ => undef, fun _ => undef, fun _ => undef, fun _ => undef, fun _ => undef, fun _ => undef, fun _ => undef, fun _ => undef, fun _ => undef] () (by kernel_rfl) (by kernel_rfl) ?_ ?_ ?_
           ·intro σm m0
            exact ⟨H.grow (m0.mono fun _ h => h.elim), m0⟩
           ·refine ac rfl (by
              intro k _nm ρ σm hJ hoff hdep
              have e7 := look_off (N := 79) (hoff 7 rfl) rfl
              exact dp_v (v := (I s42.2)) wn (rv_move e7) rfl hJ) ?_
            refine ac rfl (by
              intro k _nm ρ σm hJ hoff hdep
              have e39 := hdep 0 rfl rfl 39 rfl
              exact dp_v (v := (B (decide (0 < s42.2)))) wn (rv_gtr (a := s42.2) (b := 0) e39 rfl) rfl hJ) ?_
            refine ac rfl (by
              intro k _nm ρ σm hJ hoff hdep
              have e40 := hdep 1 rfl rfl 40 rfl
              exact dp_v (v := (B (decide (0 < s42.2)))) wn (rv_move e40) rfl hJ) ?_
            refine ac rfl (by
              intro k _nm ρ σm hJ hoff hdep
              have e41 := hdep 2 rfl rfl 41 rfl
              exact dp_skip (wanted_no rfl (yv_of rfl (e41.trans (congrArg B hb46)))) rfl hJ) ?_
            refine ac rfl (by
              intro k _nm ρ σm hJ hoff hdep
              have e41 := hdep 2 rfl rfl 41 rfl
              exact dp_skip (wanted_no rfl (yv_of rfl (e41.trans (congrArg B hb46)))) rfl hJ) ?_
            refine ac rfl (by
              intro k _nm ρ σm hJ hoff hdep
              have e41 := hdep 2 rfl rfl 41 rfl
              exact dp_skip (wanted_no rfl (yv_of rfl (e41.trans (congrArg B hb46)))) rfl hJ) ?_
            refine ac rfl (by
              intro k _nm ρ σm hJ hoff hdep
              have e41 := hdep 2 rfl rfl 41 rfl
              exact dp_skip (wanted_no rfl (yv_of rfl (e41.trans (congrArg B hb46)))) rfl hJ) ?_
            refine ac rfl (by
              intro k _nm ρ σm hJ hoff hdep
              have e41 := hdep 2 rfl rfl 41 rfl
              exact dp_skip (wanted_no rfl (yv_of rfl (e41.trans (congrArg B hb46)))) rfl hJ) ?_
            refine ac rfl (by
              intro k _nm ρ σm hJ hoff hdep
              have e41 := hdep 2 rfl rfl 41 rfl
              exact dp_skip (wanted_no rfl (yv_of rfl (e41.trans (congrArg B hb46)))) rfl hJ) ?_
            refine ac rfl (by
              intro k _nm ρ σm hJ hoff hdep
              have e41 := hdep 2 rfl rfl 41 rfl
              exact dp_skip (wanted_no rfl (yv_of rfl (e41.trans (congrArg B hb46)))) rfl hJ) ?_
            refine ac rfl (by
              intro k _nm ρ σm hJ hoff hdep
              have e41 := hdep 2 rfl rfl 41 rfl
              exact dp_skip (wanted_no rfl (yv_of rfl (e41.trans (congrArg B hb46)))) rfl hJ) ?_
            refine ac rfl (by
              intro k _nm ρ σm hJ hoff hdep
              have e41 := hdep 2 rfl rfl 41 rfl
              exact dp_skip (wanted_no rfl (yv_of rfl (e41.trans (congrArg B hb46)))) rfl hJ) ?_
            refine ac rfl (by
              intro k _nm ρ σm hJ hoff hdep
              have e41 := hdep 2 rfl rfl 41 rfl
              exact dp_skip (wanted_no rfl (yv_of rfl (e41.trans (congrArg B hb46)))) rfl hJ) ?_
            refine ac rfl (by
              intro k _nm ρ σm hJ hoff hdep
              have e41 := hdep 2 rfl rfl 41 rfl
              exact dp_skip (wanted_no rfl (yv_of rfl (e41.trans (congrArg B hb46)))) rfl hJ) ?_
            refine ac rfl (by
              intro k _nm ρ σm hJ hoff hdep
              have e41 := hdep 2 rfl rfl 41 rfl
              exact dp_skip (wanted_no rfl (yv_of rfl (e41.trans (congrArg B hb46)))) rfl hJ) ?_
            refine ac rfl (by
              intro k _nm ρ σm hJ hoff hdep
              have e41 := hdep 2 rfl rfl 41 rfl
              exact dp_skip (wanted_no rfl (yv_of rfl (e41.trans (congrArg B hb46)))) rfl hJ) ?_
            refine ac rfl (by
              intro k _nm ρ σm hJ hoff hdep
              have e41 := hdep 2 rfl rfl 41 rfl
              exact dp_skip (wanted_no rfl (yv_of rfl (e41.trans (congrArg B hb46)))) rfl hJ) ?_
            exact all_nil
           ·intro _nm ρ σ67 hJ hoff hrel
            have e0 := look_off (N := 79) (hoff 0 rfl) rfl
            have e1 := look_off (N := 79) (hoff 1 rfl) rfl
            have e5 := look_off (N := 79) (hoff 5 rfl) rfl
            have e6 := look_off (N := 79) (hoff 6 rfl) rfl
            have e7 := look_off (N := 79) (hoff 7 rfl) rfl
            have e41 := hrel 2 rfl 41 rfl
            have e48 := hrel 9 rfl 48 rfl
            have e49 := hrel 10 rfl 49 rfl
            have e50 := hrel 11 rfl 50 rfl
            have e55 := hrel 16 rfl 55 rfl
            obtain ⟨H, -⟩ := (show Hp S0 σ0 σ67 [Ch.ro 0 (Sl aa_0 a_0 ca_0) a_0, Ch.ro 0 (Sl ab_1 b_1 cb_1) b_1, Ch.own n0 n0 (Sl a38 s42.1 c39) s42.1] ∧ Md (cov []) σ43 σ67 from hJ)
            clear hJ Hs
            rw [fr_lookL (L := [(0, (Sl aa_0 a_0 ca_0)), (1, (Sl ab_1 b_1 cb_1)), (5, (Sl a38 s42.1 c39)), (6, (I s16.2)), (7, (I s42.2)), (41, (B (decide (0 < s42.2)))), (48, undef), (49, undef), (50, undef), (55, undef)]) ⟨e0, e1, e5, e6, e7, e41, e48, e49, e50, e55, trivial⟩]
            clear hoff hrel e0 e1 e5 e6 e7 e41 e48 e49 e50 e55
            refine st_skip (congrArg some hb46) ?_
            refine st_skip (congrArg some hb46) ?_
            refine st (v := (B false)) (rv_pick_f (congrArg B hb46) rfl) ?_
            refine w_end ?_
            obtain rfl := Option.some.inj h
            exact ⟨rfl, _, σ67, fr_join ⟨rfl, rfl, rfl, rfl, rfl, rfl, trivial⟩, rfl, H.sel' [0, 1, 2] rfl rfl⟩
         ·clear hj
          have h := h'
          clear h' H
          rintro e a w ⟨rfl, ρ, σ68, rfl, rfl, H⟩
          refine q_then ?_
          refine cd_cond o45 rfl (fun hb69 => ?_) (fun hb69 => ?_)
          ·replace h := bif_t hb69 h
           refine c_skip ?_
           refine q_then ?_
           refine c_seq ?_
           refine c_blk ?_
           refine c_seq ?_
           refine rg ?_
           refine st (v := (Sl a38 s42.1 c39)) (rv_move rfl) ?_
           refine st (v := (I s42.2)) (rv_move rfl) ?_
           obtain ⟨x70, hx71, h'⟩ := bind_some h
           clear h
           have h := h'; clear h'
           obtain ⟨b73, o74, hi72, -⟩ := (H.own 2 rfl).ix hx71
           refine st (v := (pt b73 o74)) (rv_ix Try.underlying26 ti3 rfl rfl hi72) ?_
           have hc75 := ((H.own 2 rfl).at hx71 hi72).int
           refine st (v := (I x70)) (rv_load1 Try.underlying3 rfl rfl hc75) ?_
           refine st (v := (I x70)) (rv_assign rfl) ?_
           refine w_end ?_
           refine q_then ?_
           refine c_seq ?_
           refine rg ?_
           refine st (v := (Sl a38 s42.1 c39)) (rv_move rfl) ?_
           refine st (v := (I s42.2)) (rv_move rfl) ?_
           refine st (v := (Sl a38 s42.1 c39)) (rv_move rfl) ?_
           refine st (v := (I s42.2)) (rv_move rfl) ?_
           refine st (v := (I (w64 (s42.2 - 1)))) (rv_sub (a := s42.2) (b := 1) rfl rfl) ?_
           obtain ⟨x76, hx77, h'⟩ := bind_some h
           clear h
           have h := h'; clear h'
           obtain ⟨b79, o80, hi78, -⟩ := (H.own 2 rfl).ix hx77
           refine st (v := (pt b79 o80)) (rv_ix Try.underlying26 ti3 rfl rfl hi78) ?_
           have hc81 := ((H.own 2 rfl).at hx77 hi78).int
           refine st (v := (I x76)) (rv_load1 Try.underlying3 rfl rfl hc81) ?_
           obtain ⟨x82, hx83, h'⟩ := bind_some h
           clear h
           have h := h'; clear h'
           obtain ⟨b85, o86, hi84, -⟩ := (H.own 2 rfl).ix hx83
           refine st (v := (pt b85 o86)) (rv_ix Try.underlying26 ti3 rfl rfl hi84) ?_
           refine st_exS (ex_store_own (e' := x76) (vs := [(I x76)]) (k := 0) H (i := 2) rfl ti3 hx83 hi84 rfl rfl rfl rfl rfl (Nat.le_of_ble_eq_true rfl) (by simp [plain]) (by rintro _ rfl; exact rfl)) wn ?_
           rintro σ87 ⟨H, -⟩
           have hsl : (Sl a38 s42.1 c39) = (Sl a38 (s42.1.set s42.2.toNat x76) c39) := sl_len List.length_set.symm
           rw [hsl]; rw [hsl] at H; clear hsl
           refine w_end ?_
           refine q_then ?_
           refine rg ?_
           refine st (v := (Sl a38 (s42.1.set s42.2.toNat x76) c39)) (rv_move rfl) ?_
           refine st (v := (I s42.2)) (rv_move rfl) ?_
           refine st (v := (I (w64 (s42.2 - 1)))) (rv_sub (a := s42.2) (b := 1) rfl rfl) ?_
           refine st (v := (I x70)) (rv_move rfl) ?_
           obtain ⟨x88, hx89, h'⟩ := bind_some h
           clear h
           have h := h'; clear h'
           obtain ⟨b91, o92, hi90, -⟩ := (H.own 0 rfl).ix hx89
           refine st (v := (pt b91 o92)) (rv_ix Try.underlying26 ti3 rfl rfl hi90) ?_
           refine st_exS (ex_store_own (e' := x70) (vs := [(I x70)]) (k := 0) H (i := 0) rfl ti3 hx89 hi90 rfl rfl rfl rfl rfl (Nat.le_of_ble_eq_true rfl) (by simp [plain]) (by rintro _ rfl; exact rfl)) wn ?_
           rintro σ93 ⟨H, -⟩
           have hsl : (Sl a38 (s42.1.set s42.2.toNat x76) c39) = (Sl a38 ((s42.1.set s42.2.toNat x76).set (w64 (s42.2 - 1)).toNat x70) c39) := sl_len List.length_set.symm
           rw [hsl]; rw [hsl] at H; clear hsl
           refine w_end ?_
           refine q_blk ?_
           refine q_then ?_
           refine rg ?_
           refine st (v := (I s42.2)) (rv_move rfl) ?_
           refine st (v := (I (w64 (s42.2 - 1)))) (rv_sub (a := s42.2) (b := 1) rfl rfl) ?_
           refine st (v := (I (w64 (s42.2 - 1)))) (rv_assign rfl) ?_
           refine w_end ?_
           refine q_then ?_
           obtain rfl := Option.some.inj h
           exact ⟨_, rfl, _, σ93, fr_join ⟨rfl, rfl, rfl, rfl, rfl, trivial⟩, rfl, H.sel' [1, 2, 0] rfl rfl, (List.length_set.trans (List.length_set.trans hn44))⟩
          ·replace h := bif_f hb69 h
           refine c_exit ?_
           refine q_then_x ?_
           refine q_then_x ?_
           refine q_blk_hit ?_
           obtain rfl := Option.some.inj h
           obtain rfl := hres _ rfl
           exact ⟨rfl, _, σ68, fr_join ⟨rfl, rfl, rfl, rfl, trivial⟩, rfl, H.sel' [0, 1, 2] rfl rfl, hn44⟩
        ·clear hj
         have h := h'
         clear h' H
         rintro e a w ⟨rfl, ρ, σ94, rfl, rfl, H, hn95⟩
         refine q_blk ?_
         obtain rfl := Option.some.inj h
         exact ⟨rfl, _, σ94, a38, c39, fr_join ⟨rfl, rfl, rfl, rfl, trivial⟩, rfl, H.sel' [0, 1, 2] rfl rfl⟩
     ·clear hj
      have h := h'
      clear h' H
      rintro e a w ⟨rfl, ρ, σ96, a97, c98, rfl, rfl, H⟩
      refine q_then ?_
      refine rg ?_
      refine st (v := (I s16.2)) (rv_move rfl) ?_
      refine st (v := (I (w64 (s16.2 + 1)))) (rv_add (a := s16.2) (b := 1) rfl rfl) ?_
      refine st (v := (I (w64 (s16.2 + 1)))) (rv_assign rfl) ?_
      refine w_end ?_
      refine q_then ?_
      obtain rfl := Option.some.inj h
      exact ⟨_, rfl, _, σ96, a97, c98, fr_join ⟨rfl, rfl, rfl, rfl, trivial⟩, rfl, H.sel' [0, 1, 2] rfl rfl⟩
    ·replace h := bif_f hb20 h
     refine c_exit ?_
     refine q_then_x ?_
     refine q_then_x ?_
     refine q_blk_hit ?_
     obtain rfl := Option.some.inj h
     obtain rfl := hres _ rfl
     exact ⟨rfl, _, σ17, a18, c19, fr_join ⟨rfl, trivial⟩, rfl, H.sel' [2] rfl rfl⟩
   ·clear hj
    have h := h'
    clear h' H
    rintro e a w ⟨rfl, ρ, σ99, a100, c101, rfl, rfl, H⟩
    refine q_then ?_
    refine c_seq ?_
    refine rg ?_
    refine st (v := (Sl a100 o15 c101)) (rv_move rfl) ?_
    refine st (v := (Sl a100 o15 c101)) (rv_assign rfl) ?_
    refine w_end ?_
    refine q_then ?_
    refine c_ret ?_
    obtain rfl := Option.some.inj h
    exact fin_ret (v := (Sl a100 o15 c101)) (results_ok Try.results14 (res_tmp (v := (Sl a100 o15 c101)) rfl res_nil) rfl) ⟨a100, c101, rfl, rfl⟩ (H.sel' [0] rfl rfl)

theorem c_laws_keys {list_0 : List (Int × Int)} {alist_0 : Option Addr} {clist_0 : Nat} {r : (List Int)} (h : M.laws_keys list_0 = some r) :
    Cal2 Try.prog 16 [(Sl alist_0 list_0 clist_0)] [Ch.ro 0 (Sl alist_0 list_0 clist_0) list_0] (fun n0 v L => ∃ (az1 : Option Addr), ∃ (cz2 : Nat), v = (Sl az1 r cz2) ∧ L = [Ch.own n0 n0 (Sl az1 r cz2) r]) := by
 refine cal2 (n := 21) Try.func16 rfl rfl rfl rfl ?_
 intro S0 σ0 n0 hn0 H
 unfold M.laws_keys at h
 refine c_seq ?_
 refine rg ?_
 refine st (v := (.slice none 0 0)) (rv_assign rfl) ?_
 refine w_end ?_
 refine q_then ?_
 refine c_seq ?_
 refine rg ?_
 refine st_ex (ex_buildSlice (el := n0) (xs := ([] : List Int)) (ps := []) (cs := []) H hn0 Try.underlying26 ti3 rfl rfl (by kernel_rfl) (.nil) rfl) wn ?_
 rintro _ σ2 ⟨b1, rfl, H, -⟩
 refine st (v := (Sl (some ⟨b1, 0, none⟩) ([] : List Int) 0)) (rv_assign rfl) ?_
 refine w_end ?_
 refine q_then ?_
 refine c_seq ?_
 refine c_seq ?_
 refine rg ?_
 refine st (v := (I 0)) (rv_assign rfl) ?_
 refine w_end ?_
 refine q_then ?_
 obtain ⟨o3, hj, h'⟩ := bind_some h
 clear h
 refine c_cut (fun e a w => e = .normal ∧ ∃ (ρ : Nat → Value) (σ : St) (aj1 : Option Addr) (cj2 : Nat), a = fr 21 (updL ρ [(3, (Sl aj1 o3 cj2))]) ∧ w = σ.w ∧ Hp S0 σ0 σ [Ch.own n0 n0 (Sl aj1 o3 cj2) o3]) ?_ ?_
 ·clear h'
  rename _ = some o3 => h
  refine c_blk ?_
  refine wp_loopM _ h (fun s4 a w => ∃ (ρ : Nat → Value) (σ : St) (aj1 : Option Addr) (cj2 : Nat), a = fr 21 (updL ρ [(0, (Sl alist_0 list_0 clist_0)), (3, (Sl aj1 s4.1 cj2)), (4, (I s4.2))]) ∧ w = σ.w ∧ Hp S0 σ0 σ [Ch.ro 0 (Sl alist_0 list_0 clist_0) list_0, Ch.own n0 n0 (Sl aj1 s4.1 cj2) s4.1]) ⟨_, σ2, (some ⟨b1, 0, none⟩), 0, fr_join ⟨rfl, rfl, rfl, trivial⟩, rfl, H.sel' [1, 0] rfl rfl⟩ ?_
  clear h H
  rintro s4 a w o ⟨ρ, σ5, a6, c7, rfl, rfl, H⟩ h hres
  refine c_seq ?_
  refine c_seq ?_
  refine rg ?_
  refine st (v := (I s4.2)) (rv_move rfl) ?_
  refine st (v := (Sl alist_0 list_0 clist_0)) (rv_move rfl) ?_
  refine st (v := (I (list_0.length : Int))) (rv_len Try.underlying23 rfl) ?_
  refine st (v := (B (decide (s4.2 < (list_0.length : Int))))) (rv_lss (a := s4.2) (b := (list_0.length : Int)) rfl rfl) ?_
  refine w_end ?_
  refine q_then ?_
  refine cd_cond (decide (s4.2 < (list_0.length : Int))) rfl (fun hb8 => ?_) (fun hb8 => ?_)
  ·replace h := bif_t hb8 h
   refine c_skip ?_
   refine q_then ?_
   refine c_seq ?_
   refine c_blk ?_
   refine rg ?_
   refine st (v := (Sl a6 s4.1 c7)) (rv_move rfl) ?_
   refine st (v := (Sl alist_0 list_0 clist_0)) (rv_move rfl) ?_
   refine st (v := (I s4.2)) (rv_move rfl) ?_
   obtain ⟨x9, hx10, h'⟩ := bind_some h
   clear h
   have h := h'; clear h'
   obtain ⟨b12, o13, hi11, -⟩ := (H.ro 0 rfl).ix hx10
   refine st (v := (pt b12 o13)) (rv_ix Try.underlying23 ti40 rfl rfl hi11) ?_
   refine st (v := (pt b12 (o13 + 0))) (rv_fieldAddr (off := 0) (ft := 3) Try.underlying40 rfl ti3 rfl rfl) ?_
   have hc14 := ((H.ro 0 rfl).at hx10 hi11).fst.int
   refine st (v := (I x9.1)) (rv_load1 Try.underlying3 rfl rfl hc14) ?_
   refine st_ex (ex_buildSlice (el := n0) (xs := ([x9.1] : List Int)) (ps := [(0, (I x9.1))]) (cs := [(I x9.1)]) H hn0 Try.underlying26 ti3 rfl rfl (by kernel_rfl) (.cons (c := [(I x9.1)]) rfl (.nil)) rfl) wn ?_
   rintro _ σ16 ⟨b15, rfl, H, -⟩
   obtain ⟨xs17, hx18, h'⟩ := bind_some h
   clear h
   have h := h'; clear h'
   refine st_ex (ex_append H (i := 2) rfl Try.underlying26 Try.underlying26 ti3 rfl rfl (by decide) (H.own 0 rfl).rd hx18 hn0 rfl rfl) wn ?_
   rintro _ σ21 ⟨a19, c20, rfl, H, -⟩
   refine st (v := (Sl a19 xs17 c20)) (rv_assign rfl) ?_
   refine w_end ?_
   refine q_blk ?_
   refine q_then ?_
   refine rg ?_
   refine st (v := (I s4.2)) (rv_move rfl) ?_
   refine st (v := (I (w64 (s4.2 + 1)))) (rv_add (a := s4.2) (b := 1) rfl rfl) ?_
   refine st (v := (I (w64 (s4.2 + 1)))) (rv_assign rfl) ?_
   refine w_end ?_
   refine q_then ?_
   obtain rfl := Option.some.inj h
   exact ⟨_, rfl, _, σ21, a19, c20, fr_join ⟨rfl, rfl, rfl, trivial⟩, rfl, H.sel' [2, 0] rfl rfl⟩
  ·replace h := bif_f hb8 h
   refine c_exit ?_
   refine q_then_x ?_
   refine q_then_x ?_
   refine q_blk_hit ?_
   obtain rfl := Option.some.inj h
   obtain rfl := hres _ rfl
   exact ⟨rfl, _, σ5, a6, c7, fr_join ⟨rfl, trivial⟩, rfl, H.sel' [1] rfl rfl⟩
 ·clear hj
  have h := h'
  clear h' H
  rintro e a w ⟨rfl, ρ, σ22, a23, c24, rfl, rfl, H⟩
  refine q_then ?_
  refine c_seq ?_
  refine rg ?_
  refine st (v := (Sl a23 o3 c24)) (rv_move rfl) ?_
  refine st (v := (Sl a23 o3 c24)) (rv_assign rfl) ?_
  refine w_end ?_
  refine q_then ?_
  refine c_ret ?_
  obtain rfl := Option.some.inj h
  exact fin_ret (v := (Sl a23 o3 c24)) (results_ok Try.results16 (res_tmp (v := (Sl a23 o3 c24)) rfl res_nil) rfl) ⟨a23, c24, rfl, rfl⟩ (H.sel' [0] rfl rfl)

theorem c_laws_FnFuseRanksSelf {code_0 : List UInt8} {acode_0 : Option Addr} {ccode_0 : Nat} {r : Bool} (h : M.laws_FnFuseRanksSelf code_0 = some r) :
    Cal2 Try.prog 3 [(Sl acode_0 code_0 ccode_0)] [Ch.ro 0 (Sl acode_0 code_0 ccode_0) code_0] (fun n0 v L => v = (B r) ∧ L = []) := by
 refine cal2 (n := 58) Try.func3 rfl rfl rfl rfl ?_
 intro S0 σ0 n0 hn0 H
 unfold M.laws_FnFuseRanksSelf at h
 refine c_seq ?_
 refine rg ?_
 refine st (v := (B false)) (rv_assign rfl) ?_
 refine w_end ?_
 refine q_then ?_
 refine c_seq ?_
 refine c_seq ?_
 refine rg ?_
 refine st (v := (Sl acode_0 code_0 ccode_0)) (rv_move rfl) ?_
 refine st (v := (I (code_0.length : Int))) (rv_len Try.underlying22 rfl) ?_
 refine st (v := (B (decide (1048576 < (code_0.length : Int))))) (rv_gtr (a := (code_0.length : Int)) (b := 1048576) rfl rfl) ?_
 refine w_end ?_
 refine q_then ?_
 refine cd_cond (decide (1048576 < (code_0.length : Int))) rfl (fun hb1 => ?_) (fun hb1 => ?_)
 ·replace h := bif_t hb1 h
  refine c_seq ?_
  refine rg ?_
  refine st (v := (B true)) (rv_assign rfl) ?_
  refine w_end ?_
  refine q_then ?_
  refine c_ret ?_
  refine q_then_r ?_
  obtain rfl := Option.some.inj h
  exact fin_ret (v := (B true)) (results_ok Try.results3 (res_tmp (v := (B true)) rfl res_nil) rfl) ⟨rfl, rfl⟩ (H.sel' [] rfl rfl)
 ·replace h := bif_f hb1 h
  refine c_skip ?_
  refine q_then ?_
  refine c_seq ?_
  refine rg ?_
  refine st (v := (Sl acode_0 code_0 ccode_0)) (rv_move rfl) ?_
  obtain ⟨r2, hx3, h'⟩ := bind_some h
  clear h
  have h := h'; clear h'
  have hc4 := c_spec_DrawFuseRanks (acode_0 := acode_0) (ccode_0 := ccode_0) hx3
  refine st_call (cx_call hc4 (ent_f hc4.fn rfl) hn0 (show Hp S0 σ0 _ ([Ch.ro 0 (Sl acode_0 code_0 ccode_0) code_0] ++ [Ch.ro 0 (Sl acode_0 code_0 ccode_0) code_0]) from (H.sel' [0, 0] rfl rfl))) wn ?_
  rintro _ σ9 ⟨_, ⟨a5, c6, a7, c8, rfl, rfl⟩, H, -⟩
  replace H : Hp S0 σ0 σ9 [Ch.own n0 n0 (Sl a5 r2.1 c6) r2.1, Ch.own n0 n0 (Sl a7 r2.2 c8) r2.2, Ch.ro 0 (Sl acode_0 code_0 ccode_0) code_0] := H
  refine st (v := (.tuple #[(Sl a5 r2.1 c6), (Sl a7 r2.2 c8)])) (rv_move rfl) ?_
  refine st (v := (Sl a5 r2.1 c6)) (rv_extract rfl rfl) ?_
  refine st (v := (Sl a7 r2.2 c8)) (rv_extract rfl rfl) ?_
  refine st (v := (Sl a5 r2.1 c6)) (rv_assign rfl) ?_
  refine st (v := (Sl a7 r2.2 c8)) (rv_assign rfl) ?_
  refine w_end ?_
  refine q_then ?_
  refine c_seq ?_
  refine rg ?_
  refine st (v := (Sl a5 r2.1 c6)) (rv_move rfl) ?_
  refine st (v := (Sl a7 r2.2 c8)) (rv_move rfl) ?_
  obtain ⟨r10, hx11, h'⟩ := bind_some h
  clear h
  have h := h'; clear h'
  have hc12 := c_impl_FuseRanks (aa_0 := a5) (ca_0 := c6) (ab_1 := a7) (cb_1 := c8) hx11
  have hle := Nat.le_trans hn0 H.size
  refine st_call (cx_lend (Loan.lend (Loan.lend Loan.nil)) hc12 (ent_f hc12.fn rfl) (show Hp S0 σ0 _ ([Ch.own n0 n0 (Sl a5 r2.1 c6) r2.1, Ch.own n0 n0 (Sl a7 r2.2 c8) r2.2] ++ ([] ++ [Ch.ro 0 (Sl acode_0 code_0 ccode_0) code_0])) from (H.sel' [0, 1, 2] rfl rfl)) (by rintro _ _ _ ⟨_, _, rfl, rfl⟩; exact ⟨Ab.ownSc, trivial⟩)) wn ?_
  rintro _ σ15 ⟨_, ⟨a13, c14, rfl, rfl⟩, H, -, -⟩
  replace H : Hp S0 σ0 σ15 [Ch.own 0 σ9.size (Sl a13 r10 c14) r10, Ch.own n0 n0 (Sl a5 r2.1 c6) r2.1, Ch.own n0 n0 (Sl a7 r2.2 c8) r2.2, Ch.ro 0 (Sl acode_0 code_0 ccode_0) code_0] := H
  replace H := H.ownLow 0 0 n0 rfl (Nat.le_refl _) hle
  clear hle
  replace H : Hp S0 σ0 σ15 [Ch.own 0 n0 (Sl a13 r10 c14) r10, Ch.own n0 n0 (Sl a5 r2.1 c6) r2.1, Ch.own n0 n0 (Sl a7 r2.2 c8) r2.2, Ch.ro 0 (Sl acode_0 code_0 ccode_0) code_0] := H
  refine st (v := (Sl a13 r10 c14)) (rv_assign rfl) ?_
  refine w_end ?_
  refine q_then ?_
  refine c_seq ?_
  refine c_seq ?_
  obtain ⟨o16, hj, h'⟩ := bind_some h
  clear h
  refine c_cut (fun e a w => e = .normal ∧ ∃ (ρ : Nat → Value) (σ : St), a = fr 58 (updL ρ [(3, (Sl a5 r2.1 c6)), (4, (Sl a7 r2.2 c8)), (5, (Sl a13 r10 c14)), (32, (B o16))]) ∧ w = σ.w ∧ Hp S0 σ0 σ [Ch.own n0 n0 (Sl a5 r2.1 c6) r2.1, Ch.own n0 n0 (Sl a7 r2.2 c8) r2.2, Ch.own 0 n0 (Sl a13 r10 c14) r10]) ?_ ?_
  ·clear h'
   rename _ = some o16 => h
   refine rg ?_
   refine st (v := (Sl a13 r10 c14)) (rv_move rfl) ?_
   refine st (v := (Sl a5 r2.1 c6)) (rv_move rfl) ?_
   refine st (v := (Sl a7 r2.2 c8)) (rv_move rfl) ?_
   obtain ⟨r17, hx18, h'⟩ := bind_some h
   clear h
   have h := h'; clear h'
   have hc19 := c_spec_FuseRanks (aa_0 := a5) (ca_0 := c6) (ab_1 := a7) (cb_1 := c8) hx18
   have hle := Nat.le_trans hn0 H.size
   refine st_call (cx_lend (Loan.lend (Loan.lend Loan.nil)) hc19 (ent_f hc19.fn rfl) (show Hp S0 σ0 _ ([Ch.own n0 n0 (Sl a5 r2.1 c6) r2.1, Ch.own n0 n0 (Sl a7 r2.2 c8) r2.2] ++ ([] ++ [Ch.own 0 n0 (Sl a13 r10 c14) r10, Ch.ro 0 (Sl acode_0 code_0 ccode_0) code_0])) from (H.sel' [1, 2, 0, 3] rfl rfl)) (by rintro _ _ _ ⟨_, _, rfl, rfl⟩; exact ⟨Ab.ownSc, trivial⟩)) wn ?_
   rintro _ σ22 ⟨_, ⟨a20, c21, rfl, rfl⟩, H, -, -⟩
   replace H : Hp S0 σ0 σ22 [Ch.own σ15.size σ15.size (Sl a20 r17 c21) r17, Ch.own n0 n0 (Sl a5 r2.1 c6) r2.1, Ch.own n0 n0 (Sl a7 r2.2 c8) r2.2, Ch.own 0 n0 (Sl a13 r10 c14) r10, Ch.ro 0 (Sl acode_0 code_0 ccode_0) code_0] := H
   replace H := H.ownLow 0 n0 n0 rfl hle hle
   clear hle
   replace H : Hp S0 σ0 σ22 [Ch.own n0 n0 (Sl a20 r17 c21) r17, Ch.own n0 n0 (Sl a5 r2.1 c6) r2.1, Ch.own n0 n0 (Sl a7 r2.2 c8) r2.2, Ch.own 0 n0 (Sl a13 r10 c14) r10, Ch.ro 0 (Sl acode_0 code_0 ccode_0) code_0] := H
   obtain ⟨σ23, hw24, H, -⟩ := H.pub 0 rfl (Nat.le_refl _)
   rw [← hw24]; clear hw24
   replace H := H.roLow 0 0 rfl (Nat.zero_le _)
   obtain ⟨r25, hx26, h'⟩ := bind_some h
   clear h
   have h := h'; clear h'
   have hc27 := c_laws_equalInts (aa_0 := a13) (ca_0 := c14) (ab_1 := a20) (cb_1 := c21) hx26
   have hle := Nat.le_trans hn0 H.size
   refine st_call (cx_lend (Loan.lend (Loan.same Loan.nil)) hc27 (ent_f hc27.fn rfl) (show Hp S0 σ0 _ ([Ch.own 0 n0 (Sl a13 r10 c14) r10] ++ ([Ch.ro 0 (Sl a20 r17 c21) r17] ++ [Ch.ro 0 (Sl a20 r17 c21) r17, Ch.ro n0 (Sl a20 r17 c21) r17, Ch.own n0 n0 (Sl a5 r2.1 c6) r2.1, Ch.own n0 n0 (Sl a7 r2.2 c8) r2.2, Ch.ro 0 (Sl acode_0 code_0 ccode_0) code_0])) from (H.sel' [4, 0, 0, 1, 2, 3, 5] rfl rfl)) (by rintro _ _ _ ⟨rfl, rfl⟩; exact trivial)) wn ?_
   rintro _ σ28 ⟨_, ⟨rfl, rfl⟩, H, -, -⟩
   replace H : Hp S0 σ0 σ28 [Ch.own 0 n0 (Sl a13 r10 c14) r10, Ch.ro 0 (Sl a20 r17 c21) r17, Ch.ro n0 (Sl a20 r17 c21) r17, Ch.own n0 n0 (Sl a5 r2.1 c6) r2.1, Ch.own n0 n0 (Sl a7 r2.2 c8) r2.2, Ch.ro 0 (Sl acode_0 code_0 ccode_0) code_0] := H
   clear hle
   replace H : Hp S0 σ0 σ28 [Ch.own 0 n0 (Sl a13 r10 c14) r10, Ch.ro 0 (Sl a20 r17 c21) r17, Ch.ro n0 (Sl a20 r17 c21) r17, Ch.own n0 n0 (Sl a5 r2.1 c6) r2.1, Ch.own n0 n0 (Sl a7 r2.2 c8) r2.2, Ch.ro 0 (Sl acode_0 code_0 ccode_0) code_0] := H
   refine st (v := (B (!r25))) (rv_not rfl) ?_
   refine st (v := (B (!r25))) (rv_move rfl) ?_
   rcases Bool.eq_false_or_eq_true (!r25) with hb29 | hb29
   ·replace h := bif_t hb29 h
    refine st_skip (congrArg some hb29) ?_
    refine st_skip (congrArg some hb29) ?_
    refine st_skip (congrArg some hb29) ?_
    refine st (v := (B true)) (rv_pick_t (congrArg B hb29) rfl) ?_
    refine st (v := (B true)) (rv_move rfl) ?_
    refine st_skip rfl ?_
    refine st_skip rfl ?_
    refine st_skip rfl ?_
    refine st (v := (B true)) (rv_pick_t rfl rfl) ?_
    refine w_end ?_
    obtain rfl := Option.some.inj h
    exact ⟨rfl, _, σ28, fr_join ⟨rfl, rfl, rfl, rfl, trivial⟩, rfl, H.sel' [3, 4, 0] rfl rfl⟩
   ·replace h := bif_f hb29 h
    refine st_g (v := (Sl a5 r2.1 c6)) (congrArg some hb29) (rv_move rfl) ?_
    obtain ⟨r30, hx31, h'⟩ := bind_some h
    clear h
    have h := h'; clear h'
    have hc32 := c_impl_ValidHits (alist_0 := a5) (clist_0 := c6) hx31
    have hle := Nat.le_trans hn0 H.size
    refine st_call (cx_lend (Loan.lend Loan.nil) hc32 (ent_f hc32.fn rfl) (show Hp S0 σ0 _ ([Ch.own n0 n0 (Sl a5 r2.1 c6) r2.1] ++ ([] ++ [Ch.own 0 n0 (Sl a13 r10 c14) r10, Ch.ro 0 (Sl a20 r17 c21) r17, Ch.ro n0 (Sl a20 r17 c21) r17, Ch.own n0 n0 (Sl a7 r2.2 c8) r2.2, Ch.ro 0 (Sl acode_0 code_0 ccode_0) code_0])) from (H.sel' [3, 0, 1, 2, 4, 5] rfl rfl)) (by rintro _ _ _ ⟨rfl, rfl⟩; exact trivial)) (wanted_yes rfl (by exact (congrArg some hb29))) ?_
    rintro _ σ33 ⟨_, ⟨rfl, rfl⟩, H, -, -⟩
    replace H : Hp S0 σ0 σ33 [Ch.own n0 n0 (Sl a5 r2.1 c6) r2.1, Ch.own 0 n0 (Sl a13 r10 c14) r10, Ch.ro 0 (Sl a20 r17 c21) r17, Ch.ro n0 (Sl a20 r17 c21) r17, Ch.own n0 n0 (Sl a7 r2.2 c8) r2.2, Ch.ro 0 (Sl acode_0 code_0 ccode_0) code_0] := H
    clear hle
    replace H : Hp S0 σ0 σ33 [Ch.own n0 n0 (Sl a5 r2.1 c6) r2.1, Ch.own 0 n0 (Sl a13 r10 c14) r10, Ch.ro 0 (Sl a20 r17 c21) r17, Ch.ro n0 (Sl a20 r17 c21) r17, Ch.own n0 n0 (Sl a7 r2.2 c8) r2.2, Ch.ro 0 (Sl acode_0 code_0 ccode_0) code_0] := H
    refine st_g (v := (B (!r30))) (congrArg some hb29) (rv_not rfl) ?_
    refine st (v := (B (!r30))) (rv_pick_f (congrArg B hb29) rfl) ?_
    refine st (v := (B (!r30))) (rv_move rfl) ?_
    rcases Bool.eq_false_or_eq_true (!r30) with hb34 | hb34
    ·replace h := bif_t hb34 h
     refine st_skip (congrArg some hb34) ?_
     refine st_skip (congrArg some hb34) ?_
     refine st_skip (congrArg some hb34) ?_
     refine st (v := (B true)) (rv_pick_t (congrArg B hb34) rfl) ?_
     refine w_end ?_
     obtain rfl := Option.some.inj h
     exact ⟨rfl, _, σ33, fr_join ⟨rfl, rfl, rfl, rfl, trivial⟩, rfl, H.sel' [0, 4, 1] rfl rfl⟩
    ·replace h := bif_f hb34 h
     refine st_g (v := (Sl a7 r2.2 c8)) (congrArg some hb34) (rv_move rfl) ?_
     obtain ⟨r35, hx36, h'⟩ := bind_some h
     clear h
     have h := h'; clear h'
     have hc37 := c_impl_ValidHits (alist_0 := a7) (clist_0 := c8) hx36
     have hle := Nat.le_trans hn0 H.size
     refine st_call (cx_lend (Loan.lend Loan.nil) hc37 (ent_f hc37.fn rfl) (show Hp S0 σ0 _ ([Ch.own n0 n0 (Sl a7 r2.2 c8) r2.2] ++ ([] ++ [Ch.own n0 n0 (Sl a5 r2.1 c6) r2.1, Ch.own 0 n0 (Sl a13 r10 c14) r10, Ch.ro 0 (Sl a20 r17 c21) r17, Ch.ro n0 (Sl a20 r17 c21) r17, Ch.ro 0 (Sl acode_0 code_0 ccode_0) code_0])) from (H.sel' [4, 0, 1, 2, 3, 5] rfl rfl)) (by rintro _ _ _ ⟨rfl, rfl⟩; exact trivial)) (wanted_yes rfl (by exact (congrArg some hb34))) ?_
     rintro _ σ38 ⟨_, ⟨rfl, rfl⟩, H, -, -⟩
     replace H : Hp S0 σ0 σ38 [Ch.own n0 n0 (Sl a7 r2.2 c8) r2.2, Ch.own n0 n0 (Sl a5 r2.1 c6) r2.1, Ch.own 0 n0 (Sl a13 r10 c14) r10, Ch.ro 0 (Sl a20 r17 c21) r17, Ch.ro n0 (Sl a20 r17 c21) r17, Ch.ro 0 (Sl acode_0 code_0 ccode_0) code_0] := H
     clear hle
     replace H : Hp S0 σ0 σ38 [Ch.own n0 n0 (Sl a7 r2.2 c8) r2.2, Ch.own n0 n0 (Sl a5 r2.1 c6) r2.1, Ch.own 0 n0 (Sl a13 r10 c14) r10, Ch.ro 0 (Sl a20 r17 c21) r17, Ch.ro n0 (Sl a20 r17 c21) r17, Ch.ro 0 (Sl acode_0 code_0 ccode_0) code_0] := H
     refine st_g (v := (B (!r35))) (congrArg some hb34) (rv_not rfl) ?_
     refine st (v := (B (!r35))) (rv_pick_f (congrArg B hb34) rfl) ?_
     refine w_end ?_
     obtain rfl := Option.some.inj h
     exact ⟨rfl, _, σ38, fr_join ⟨rfl, rfl, rfl, rfl, trivial⟩, rfl, H.sel' [1, 0, 2] rfl rfl⟩
  ·clear hj
   have h := h'
   clear h' H
   rintro e a w ⟨rfl, ρ, σ39, rfl, rfl, H⟩
   refine q_then ?_
   refine cd_cond o16 rfl (fun hb40 => ?_) (fun hb40 => ?_)
   ·replace h := bif_t hb40 h
    refine c_seq ?_
    refine rg ?_
    refine st (v := (Sl a13 r10 c14)) (rv_move rfl) ?_
    refine st (v := (Sl a5 r2.1 c6)) (rv_move rfl) ?_
    refine st (v := (Sl a7 r2.2 c8)) (rv_move rfl) ?_
    obtain ⟨σ41, hw42, H, -⟩ := H.pub 0 rfl (Nat.le_refl _)
    rw [← hw42]; clear hw42
    obtain ⟨σ43, hw44, H, -⟩ := H.pub 1 rfl (Nat.le_refl _)
    rw [← hw44]; clear hw44
    replace H := H.roLow 1 0 rfl (Nat.zero_le _)
    replace H := H.roLow 1 0 rfl (Nat.zero_le _)
    obtain ⟨r45, hx46, h'⟩ := bind_some h
    clear h
    have h := h'; clear h'
    have hc47 := c_spec_FuseRanks (aa_0 := a5) (ca_0 := c6) (ab_1 := a7) (cb_1 := c8) hx46
    refine st_call (cx_call hc47 (ent_f hc47.fn rfl) hn0 (show Hp S0 σ0 _ ([Ch.ro 0 (Sl a5 r2.1 c6) r2.1, Ch.ro 0 (Sl a7 r2.2 c8) r2.2] ++ [Ch.ro 0 (Sl a7 r2.2 c8) r2.2, Ch.ro 0 (Sl a5 r2.1 c6) r2.1, Ch.ro n0 (Sl a7 r2.2 c8) r2.2, Ch.ro n0 (Sl a5 r2.1 c6) r2.1, Ch.own 0 n0 (Sl a13 r10 c14) r10]) from (H.sel' [1, 0, 0, 1, 2, 3, 4] rfl rfl))) wn ?_
    rintro _ σ50 ⟨_, ⟨a48, c49, rfl, rfl⟩, H, -⟩
    replace H : Hp S0 σ0 σ50 [Ch.own n0 n0 (Sl a48 r45 c49) r45, Ch.ro 0 (Sl a7 r2.2 c8) r2.2, Ch.ro 0 (Sl a5 r2.1 c6) r2.1, Ch.ro n0 (Sl a7 r2.2 c8) r2.2, Ch.ro n0 (Sl a5 r2.1 c6) r2.1, Ch.own 0 n0 (Sl a13 r10 c14) r10] := H
    replace H := H.ownLow 5 0 0 rfl (Nat.le_refl _) (Nat.zero_le _)
    obtain ⟨σ51, hw52, H, -⟩ := H.pub 0 rfl (Nat.le_refl _)
    rw [← hw52]; clear hw52
    obtain ⟨σ53, hw54, H, -⟩ := H.pub 1 rfl (Nat.le_refl _)
    rw [← hw54]; clear hw54
    replace H := H.roLow 0 0 rfl (Nat.zero_le _)
    obtain ⟨r55, hx56, h'⟩ := bind_some h
    clear h
    have h := h'; clear h'
    have hc57 := c_laws_equalInts (aa_0 := a13) (ca_0 := c14) (ab_1 := a48) (cb_1 := c49) hx56
    refine st_call (cx_call hc57 (ent_f hc57.fn rfl) hn0 (show Hp S0 σ0 _ ([Ch.ro 0 (Sl a13 r10 c14) r10, Ch.ro 0 (Sl a48 r45 c49) r45] ++ [Ch.ro 0 (Sl a48 r45 c49) r45, Ch.ro n0 (Sl a48 r45 c49) r45, Ch.ro 0 (Sl a13 r10 c14) r10, Ch.ro 0 (Sl a7 r2.2 c8) r2.2, Ch.ro 0 (Sl a5 r2.1 c6) r2.1, Ch.ro n0 (Sl a7 r2.2 c8) r2.2, Ch.ro n0 (Sl a5 r2.1 c6) r2.1]) from (H.sel' [2, 0, 0, 1, 2, 3, 4, 5, 6] rfl rfl))) wn ?_
    rintro _ σ58 ⟨_, ⟨rfl, rfl⟩, H, -⟩
    replace H : Hp S0 σ0 σ58 [Ch.ro 0 (Sl a48 r45 c49) r45, Ch.ro n0 (Sl a48 r45 c49) r45, Ch.ro 0 (Sl a13 r10 c14) r10, Ch.ro 0 (Sl a7 r2.2 c8) r2.2, Ch.ro 0 (Sl a5 r2.1 c6) r2.1, Ch.ro n0 (Sl a7 r2.2 c8) r2.2, Ch.ro n0 (Sl a5 r2.1 c6) r2.1] := H
    refine st (v := (B r55)) (rv_assign rfl) ?_
    refine w_end ?_
    refine q_then ?_
    refine c_ret ?_
    refine q_then_r ?_
    obtain rfl := Option.some.inj h
    exact fin_ret (v := (B r55)) (results_ok Try.results3 (res_tmp (v := (B r55)) rfl res_nil) rfl) ⟨rfl, rfl⟩ (H.sel' [] rfl rfl)
   ·replace h := bif_f hb40 h
    refine c_skip ?_
    refine q_then ?_
    refine c_seq ?_
    refine rg ?_
    refine st (v := (Sl a5 r2.1 c6)) (rv_move rfl) ?_
    refine st (v := (Sl a5 r2.1 c6)) (rv_move rfl) ?_
    obtain ⟨r59, hx60, h'⟩ := bind_some h
    clear h
    have h := h'; clear h'
    have hc61 := c_impl_FuseRanks (aa_0 := a5) (ca_0 := c6) (ab_1 := a5) (cb_1 := c6) hx60
    have hle := Nat.le_trans hn0 H.size
    refine st_call (cx_lend (Loan.again (k := 0) (Loan.lend Loan.nil) rfl) hc61 (ent_f hc61.fn rfl) (show Hp S0 σ0 _ ([Ch.own n0 n0 (Sl a5 r2.1 c6) r2.1] ++ ([] ++ [Ch.own n0 n0 (Sl a7 r2.2 c8) r2.2, Ch.own 0 n0 (Sl a13 r10 c14) r10])) from (H.sel' [0, 1, 2] rfl rfl)) (by rintro _ _ _ ⟨_, _, rfl, rfl⟩; exact ⟨Ab.ownSc, trivial⟩)) wn ?_
    rintro _ σ64 ⟨_, ⟨a62, c63, rfl, rfl⟩, H, -, -⟩
    replace H : Hp S0 σ0 σ64 [Ch.own 0 σ39.size (Sl a62 r59 c63) r59, Ch.own n0 n0 (Sl a5 r2.1 c6) r2.1, Ch.own n0 n0 (Sl a7 r2.2 c8) r2.2, Ch.own 0 n0 (Sl a13 r10 c14) r10] := H
    replace H := H.ownLow 0 0 n0 rfl (Nat.le_refl _) hle
    clear hle
    replace H : Hp S0 σ0 σ64 [Ch.own 0 n0 (Sl a62 r59 c63) r59, Ch.own n0 n0 (Sl a5 r2.1 c6) r2.1, Ch.own n0 n0 (Sl a7 r2.2 c8) r2.2, Ch.own 0 n0 (Sl a13 r10 c14) r10] := H
    refine st (v := (Sl a5 r2.1 c6)) (rv_move rfl) ?_
    obtain ⟨r65, hx66, h'⟩ := bind_some h
    clear h
    have h := h'; clear h'
    have hc67 := c_laws_keys (alist_0 := a5) (clist_0 := c6) hx66
    have hle := Nat.le_trans hn0 H.size
    refine st_call (cx_lend (Loan.lend Loan.nil) hc67 (ent_f hc67.fn rfl) (show Hp S0 σ0 _ ([Ch.own n0 n0 (Sl a5 r2.1 c6) r2.1] ++ ([] ++ [Ch.own 0 n0 (Sl a62 r59 c63) r59, Ch.own n0 n0 (Sl a7 r2.2 c8) r2.2, Ch.own 0 n0 (Sl a13 r10 c14) r10])) from (H.sel' [1, 0, 2, 3] rfl rfl)) (by rintro _ _ _ ⟨_, _, rfl, rfl⟩; exact ⟨Ab.ownSc, trivial⟩)) wn ?_
    rintro _ σ70 ⟨_, ⟨a68, c69, rfl, rfl⟩, H, -, -⟩
    replace H : Hp S0 σ0 σ70 [Ch.own σ64.size σ64.size (Sl a68 r65 c69) r65, Ch.own n0 n0 (Sl a5 r2.1 c6) r2.1, Ch.own 0 n0 (Sl a62 r59 c63) r59, Ch.own n0 n0 (Sl a7 r2.2 c8) r2.2, Ch.own 0 n0 (Sl a13 r10 c14) r10] := H
    replace H := H.ownLow 0 n0 n0 rfl hle hle
    clear hle
    replace H : Hp S0 σ0 σ70 [Ch.own n0 n0 (Sl a68 r65 c69) r65, Ch.own n0 n0 (Sl a5 r2.1 c6) r2.1, Ch.own 0 n0 (Sl a62 r59 c63) r59, Ch.own n0 n0 (Sl a7 r2.2 c8) r2.2, Ch.own 0 n0 (Sl a13 r10 c14) r10] := H
    replace H := H.ownLow 2 0 0 rfl (Nat.le_refl _) (Nat.zero_le _)
    obtain ⟨σ71, hw72, H, -⟩ := H.pub 0 rfl (Nat.le_refl _)
    rw [← hw72]; clear hw72
    obtain ⟨σ73, hw74, H, -⟩ := H.pub 1 rfl (Nat.le_refl _)
    rw [← hw74]; clear hw74
    replace H := H.roLow 0 0 rfl (Nat.zero_le _)
    obtain ⟨r75, hx76, h'⟩ := bind_some h
    clear h
    have h := h'; clear h'
    have hc77 := c_laws_equalInts (aa_0 := a62) (ca_0 := c63) (ab_1 := a68) (cb_1 := c69) hx76
    refine st_call (cx_call hc77 (ent_f hc77.fn rfl) hn0 (show Hp S0 σ0 _ ([Ch.ro 0 (Sl a62 r59 c63) r59, Ch.ro 0 (Sl a68 r65 c69) r65] ++ [Ch.ro 0 (Sl a68 r65 c69) r65, Ch.ro n0 (Sl a68 r65 c69) r65, Ch.ro 0 (Sl a62 r59 c63) r59, Ch.own n0 n0 (Sl a5 r2.1 c6) r2.1, Ch.own n0 n0 (Sl a7 r2.2 c8) r2.2, Ch.own 0 n0 (Sl a13 r10 c14) r10]) from (H.sel' [2, 0, 0, 1, 2, 3, 4, 5] rfl rfl))) wn ?_
    rintro _ σ78 ⟨_, ⟨rfl, rfl⟩, H, -⟩
    replace H : Hp S0 σ0 σ78 [Ch.ro 0 (Sl a68 r65 c69) r65, Ch.ro n0 (Sl a68 r65 c69) r65, Ch.ro 0 (Sl a62 r59 c63) r59, Ch.own n0 n0 (Sl a5 r2.1 c6) r2.1, Ch.own n0 n0 (Sl a7 r2.2 c8) r2.2, Ch.own 0 n0 (Sl a13 r10 c14) r10] := H
    refine st (v := (B r75)) (rv_move rfl) ?_
    rcases Bool.eq_false_or_eq_true r75 with hb79 | hb79
    ·replace h := bif_t hb79 h
     refine st_g (v := (Sl a5 r2.1 c6)) (congrArg some hb79) (rv_move rfl) ?_
     replace H := H.nilRo (Int × Int) 0
     obtain ⟨r80, hx81, h'⟩ := bind_some h
     clear h
     have h := h'; clear h'
     have hc82 := c_impl_FuseRanks (aa_0 := a5) (ca_0 := c6) (ab_1 := none) (cb_1 := 0) hx81
     have hle := Nat.le_trans hn0 H.size
     refine st_call (cx_lend (Loan.lend (Loan.same Loan.nil)) hc82 (ent_f hc82.fn rfl) (show Hp S0 σ0 _ ([Ch.own n0 n0 (Sl a5 r2.1 c6) r2.1] ++ ([Ch.ro 0 (Sl none ([] : List (Int × Int)) 0) ([] : List (Int × Int))] ++ [Ch.ro 0 (Sl none ([] : List (Int × Int)) 0) ([] : List (Int × Int)), Ch.ro 0 (Sl a68 r65 c69) r65, Ch.ro n0 (Sl a68 r65 c69) r65, Ch.ro 0 (Sl a62 r59 c63) r59, Ch.own n0 n0 (Sl a7 r2.2 c8) r2.2, Ch.own 0 n0 (Sl a13 r10 c14) r10])) from (H.sel' [4, 0, 0, 1, 2, 3, 5, 6] rfl rfl)) (by rintro _ _ _ ⟨_, _, rfl, rfl⟩; exact ⟨Ab.ownSc, trivial⟩)) (wanted_yes rfl (by exact (congrArg some hb79))) ?_
     rintro _ σ85 ⟨_, ⟨a83, c84, rfl, rfl⟩, H, -, -⟩
     replace H : Hp S0 σ0 σ85 [Ch.own 0 σ78.size (Sl a83 r80 c84) r80, Ch.own n0 n0 (Sl a5 r2.1 c6) r2.1, Ch.ro 0 (Sl none ([] : List (Int × Int)) 0) ([] : List (Int × Int)), Ch.ro 0 (Sl a68 r65 c69) r65, Ch.ro n0 (Sl a68 r65 c69) r65, Ch.ro 0 (Sl a62 r59 c63) r59, Ch.own n0 n0 (Sl a7 r2.2 c8) r2.2, Ch.own 0 n0 (Sl a13 r10 c14) r10] := H
     replace H := H.ownLow 0 0 n0 rfl (Nat.le_refl _) hle
     clear hle
     replace H : Hp S0 σ0 σ85 [Ch.own 0 n0 (Sl a83 r80 c84) r80, Ch.own n0 n0 (Sl a5 r2.1 c6) r2.1, Ch.ro 0 (Sl none ([] : List (Int × Int)) 0) ([] : List (Int × Int)), Ch.ro 0 (Sl a68 r65 c69) r65, Ch.ro n0 (Sl a68 r65 c69) r65, Ch.ro 0 (Sl a62 r59 c63) r59, Ch.own n0 n0 (Sl a7 r2.2 c8) r2.2, Ch.own 0 n0 (Sl a13 r10 c14) r10] := H
     replace H : Hp S0 σ0 σ85 [Ch.own 0 n0 (Sl a83 r80 c84) r80, Ch.own n0 n0 (Sl a5 r2.1 c6) r2.1, Ch.own n0 n0 (Sl a7 r2.2 c8) r2.2, Ch.own 0 n0 (Sl a13 r10 c14) r10] := H.sel' [0, 1, 6, 7] rfl rfl
     refine st_g (v := (Sl a5 r2.1 c6)) (congrArg some hb79) (rv_move rfl) ?_
     obtain ⟨r86, hx87, h'⟩ := bind_some h
     clear h
     have h := h'; clear h'
     have hc88 := c_laws_keys (alist_0 := a5) (clist_0 := c6) hx87
     have hle := Nat.le_trans hn0 H.size
     refine st_call (cx_lend (Loan.lend Loan.nil) hc88 (ent_f hc88.fn rfl) (show Hp S0 σ0 _ ([Ch.own n0 n0 (Sl a5 r2.1 c6) r2.1] ++ ([] ++ [Ch.own 0 n0 (Sl a83 r80 c84) r80, Ch.own n0 n0 (Sl a7 r2.2 c8) r2.2, Ch.own 0 n0 (Sl a13 r10 c14) r10])) from (H.sel' [1, 0, 2, 3] rfl rfl)) (by rintro _ _ _ ⟨_, _, rfl, rfl⟩; exact ⟨Ab.ownSc, trivial⟩)) (wanted_yes rfl (by exact (congrArg some hb79))) ?_
     rintro _ σ91 ⟨_, ⟨a89, c90, rfl, rfl⟩, H, -, -⟩
     replace H : Hp S0 σ0 σ91 [Ch.own σ85.size σ85.size (Sl a89 r86 c90) r86, Ch.own n0 n0 (Sl a5 r2.1 c6) r2.1, Ch.own 0 n0 (Sl a83 r80 c84) r80, Ch.own n0 n0 (Sl a7 r2.2 c8) r2.2, Ch.own 0 n0 (Sl a13 r10 c14) r10] := H
     replace H := H.ownLow 0 n0 n0 rfl hle hle
     clear hle
     replace H : Hp S0 σ0 σ91 [Ch.own n0 n0 (Sl a89 r86 c90) r86, Ch.own n0 n0 (Sl a5 r2.1 c6) r2.1, Ch.own 0 n0 (Sl a83 r80 c84) r80, Ch.own n0 n0 (Sl a7 r2.2 c8) r2.2, Ch.own 0 n0 (Sl a13 r10 c14) r10] := H
     replace H := H.ownLow 2 0 0 rfl (Nat.le_refl _) (Nat.zero_le _)
     obtain ⟨σ92, hw93, H, -⟩ := H.pub 0 rfl (Nat.le_refl _)
     rw [← hw93]; clear hw93
     obtain ⟨σ94, hw95, H, -⟩ := H.pub 1 rfl (Nat.le_refl _)
     rw [← hw95]; clear hw95
     replace H := H.roLow 0 0 rfl (Nat.zero_le _)
     obtain ⟨r96, hx97, h'⟩ := bind_some h
     clear h
     have h := h'; clear h'
     have hc98 := c_laws_equalInts (aa_0 := a83) (ca_0 := c84) (ab_1 := a89) (cb_1 := c90) hx97
     refine st_call (cx_call hc98 (ent_f hc98.fn rfl) hn0 (show Hp S0 σ0 _ ([Ch.ro 0 (Sl a83 r80 c84) r80, Ch.ro 0 (Sl a89 r86 c90) r86] ++ [Ch.ro 0 (Sl a89 r86 c90) r86, Ch.ro n0 (Sl a89 r86 c90) r86, Ch.ro 0 (Sl a83 r80 c84) r80, Ch.own n0 n0 (Sl a5 r2.1 c6) r2.1, Ch.own n0 n0 (Sl a7 r2.2 c8) r2.2, Ch.own 0 n0 (Sl a13 r10 c14) r10]) from (H.sel' [2, 0, 0, 1, 2, 3, 4, 5] rfl rfl))) (wanted_yes rfl (by exact (congrArg some hb79))) ?_
     rintro _ σ99 ⟨_, ⟨rfl, rfl⟩, H, -⟩
     replace H : Hp S0 σ0 σ99 [Ch.ro 0 (Sl a89 r86 c90) r86, Ch.ro n0 (Sl a89 r86 c90) r86, Ch.ro 0 (Sl a83 r80 c84) r80, Ch.own n0 n0 (Sl a5 r2.1 c6) r2.1, Ch.own n0 n0 (Sl a7 r2.2 c8) r2.2, Ch.own 0 n0 (Sl a13 r10 c14) r10] := H
     refine st (v := (B r96)) (rv_pick_t (congrArg B hb79) rfl) ?_
     refine st (v := (B r96)) (rv_move rfl) ?_
     rcases Bool.eq_false_or_eq_true r96 with hb100 | hb100
     ·replace h := bif_t hb100 h
      refine st_g (v := (Sl a7 r2.2 c8)) (congrArg some hb100) (rv_move rfl) ?_
      refine st_g (v := (Sl a5 r2.1 c6)) (congrArg some hb100) (rv_move rfl) ?_
      obtain ⟨σ101, hw102, H, -⟩ := H.pub 4 rfl (Nat.le_refl _)
      rw [← hw102]; clear hw102
      obtain ⟨σ103, hw104, H, -⟩ := H.pub 4 rfl (Nat.le_refl _)
      rw [← hw104]; clear hw104
      replace H := H.roLow 1 0 rfl (Nat.zero_le _)
      replace H := H.roLow 1 0 rfl (Nat.zero_le _)
      obtain ⟨r105, hx106, h'⟩ := bind_some h
      clear h
      have h := h'; clear h'
      have hc107 := c_impl_FuseRanks (aa_0 := a7) (ca_0 := c8) (ab_1 := a5) (cb_1 := c6) hx106
      refine st_call (cx_call hc107 (ent_f hc107.fn rfl) hn0 (show Hp S0 σ0 _ ([Ch.ro 0 (Sl a7 r2.2 c8) r2.2, Ch.ro 0 (Sl a5 r2.1 c6) r2.1] ++ [Ch.ro 0 (Sl a5 r2.1 c6) r2.1, Ch.ro 0 (Sl a7 r2.2 c8) r2.2, Ch.ro n0 (Sl a5 r2.1 c6) r2.1, Ch.ro n0 (Sl a7 r2.2 c8) r2.2, Ch.ro 0 (Sl a89 r86 c90) r86, Ch.ro n0 (Sl a89 r86 c90) r86, Ch.ro 0 (Sl a83 r80 c84) r80, Ch.own 0 n0 (Sl a13 r10 c14) r10]) from (H.sel' [1, 0, 0, 1, 2, 3, 4, 5, 6, 7] rfl rfl))) (wanted_yes rfl (by exact (congrArg some hb100))) ?_
      rintro _ σ110 ⟨_, ⟨a108, c109, rfl, rfl⟩, H, -⟩
      replace H : Hp S0 σ0 σ110 [Ch.own 0 n0 (Sl a108 r105 c109) r105, Ch.ro 0 (Sl a5 r2.1 c6) r2.1, Ch.ro 0 (Sl a7 r2.2 c8) r2.2, Ch.ro n0 (Sl a5 r2.1 c6) r2.1, Ch.ro n0 (Sl a7 r2.2 c8) r2.2, Ch.ro 0 (Sl a89 r86 c90) r86, Ch.ro n0 (Sl a89 r86 c90) r86, Ch.ro 0 (Sl a83 r80 c84) r80, Ch.own 0 n0 (Sl a13 r10 c14) r10] := H
      replace H : Hp S0 σ0 σ110 [Ch.own 0 n0 (Sl a108 r105 c109) r105, Ch.own 0 n0 (Sl a13 r10 c14) r10] := H.sel' [0, 8] rfl rfl
      refine st_g (v := (Sl a13 r10 c14)) (congrArg some hb100) (rv_move rfl) ?_
      replace H := H.ownLow 0 0 0 rfl (Nat.le_refl _) (Nat.zero_le _)
      obtain ⟨σ111, hw112, H, -⟩ := H.pub 0 rfl (Nat.le_refl _)
      rw [← hw112]; clear hw112
      replace H := H.ownLow 1 0 0 rfl (Nat.le_refl _) (Nat.zero_le _)
      obtain ⟨σ113, hw114, H, -⟩ := H.pub 0 rfl (Nat.le_refl _)
      rw [← hw114]; clear hw114
      obtain ⟨r115, hx116, h'⟩ := bind_some h
      clear h
      have h := h'; clear h'
      have hc117 := c_laws_equalInts (aa_0 := a108) (ca_0 := c109) (ab_1 := a13) (cb_1 := c14) hx116
      refine st_call (cx_call hc117 (ent_f hc117.fn rfl) hn0 (show Hp S0 σ0 _ ([Ch.ro 0 (Sl a108 r105 c109) r105, Ch.ro 0 (Sl a13 r10 c14) r10] ++ [Ch.ro 0 (Sl a13 r10 c14) r10, Ch.ro 0 (Sl a108 r105 c109) r105]) from (H.sel' [1, 0, 0, 1] rfl rfl))) (wanted_yes rfl (by exact (congrArg some hb100))) ?_
      rintro _ σ118 ⟨_, ⟨rfl, rfl⟩, H, -⟩
      replace H : Hp S0 σ0 σ118 [Ch.ro 0 (Sl a13 r10 c14) r10, Ch.ro 0 (Sl a108 r105 c109) r105] := H
      refine st (v := (B r115)) (rv_pick_t (congrArg B hb100) rfl) ?_
      refine st (v := (B r115)) (rv_assign rfl) ?_
      refine w_end ?_
      refine q_then ?_
      refine c_ret ?_
      obtain rfl := Option.some.inj h
      exact fin_ret (v := (B r115)) (results_ok Try.results3 (res_tmp (v := (B r115)) rfl res_nil) rfl) ⟨rfl, rfl⟩ (H.sel' [] rfl rfl)
     ·replace h := bif_f hb100 h
      refine st_skip (congrArg some hb100) ?_
      refine st_skip (congrArg some hb100) ?_
      refine st_skip (congrArg some hb100) ?_
      refine st_skip (congrArg some hb100) ?_
      refine st_skip (congrArg some hb100) ?_
      refine st (v := (B false)) (rv_pick_f (congrArg B hb100) rfl) ?_
      refine st (v := (B false)) (rv_assign rfl) ?_
      refine w_end ?_
      refine q_then ?_
      refine c_ret ?_
      obtain rfl := Option.some.inj h
      exact fin_ret (v := (B false)) (results_ok Try.results3 (res_tmp (v := (B false)) rfl res_nil) rfl) ⟨rfl, rfl⟩ (H.sel' [] rfl rfl)
    ·replace h := bif_f hb79 h
     refine st_skip (congrArg some hb79) ?_
     refine st_skip (congrArg some hb79) ?_
     refine st_skip (congrArg some hb79) ?_
     refine st_skip (congrArg some hb79) ?_
     refine st_skip (congrArg some hb79) ?_
     refine st (v := (B false)) (rv_pick_f (congrArg B hb79) rfl) ?_
     refine st (v := (B false)) (rv_move rfl) ?_
     refine st_skip rfl ?_
     refine st_skip rfl ?_
     refine st_skip rfl ?_
     refine st_skip rfl ?_
     refine st_skip rfl ?_
     refine st (v := (B false)) (rv_pick_f rfl rfl) ?_
     refine st (v := (B false)) (rv_assign rfl) ?_
     refine w_end ?_
     refine q_then ?_
     refine c_ret ?_
     obtain rfl := Option.some.inj h
     exact fin_ret (v := (B false)) (results_ok Try.results3 (res_tmp (v := (B false)) rfl res_nil) rfl) ⟨rfl, rfl⟩ (H.sel' [] rfl rfl)

end Go.Vs
