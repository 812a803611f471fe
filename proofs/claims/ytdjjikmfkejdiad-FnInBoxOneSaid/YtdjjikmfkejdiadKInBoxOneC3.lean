/- The functions compute what their models say. -/
import Derived.Test.YtdjjikmfkejdiadKInBoxOneC2
set_option linter.unusedVariables false
set_option linter.unusedSimpArgs false
set_option maxRecDepth 20000
namespace Go.Vs
open Go Go.Proofs
attribute [local irreducible] Code.wp Code.wpIn wpList wpListIn wpQuiet Calls CallsIn

theorem c_spec_InBox {list_0 : List (Int × (List Int) × Int)} {low_1 : List Int} {high_2 : List Int} {alist_0 : Option Addr} {clist_0 : Nat} {alow_1 : Option Addr} {clow_1 : Nat} {ahigh_2 : Option Addr} {chigh_2 : Nat} {r : (List Int)} (h : M.spec_InBox list_0 low_1 high_2 = some r) :
    Cal2 Try.prog 17 [(Sl alist_0 list_0 clist_0), (Sl alow_1 low_1 clow_1), (Sl ahigh_2 high_2 chigh_2)] [Ch.ro 0 (Sl alist_0 list_0 clist_0) list_0, Ch.ro 0 (Sl alow_1 low_1 clow_1) low_1, Ch.ro 0 (Sl ahigh_2 high_2 chigh_2) high_2] (fun n0 v L => ∃ (az1 : Option Addr), ∃ (cz2 : Nat), v = (Sl az1 r cz2) ∧ L = [Ch.own n0 n0 (Sl az1 r cz2) r]) := by
 refine cal2 (n := 65) Try.func17 rfl rfl rfl rfl ?_
 intro S0 σ0 n0 hn0 H
 unfold M.spec_InBox at h
 refine c_seq ?_
 refine rg ?_
 refine st (v := (.slice none 0 0)) (rv_assign rfl) ?_
 refine w_end ?_
 refine q_then ?_
 refine c_seq ?_
 refine rg ?_
 refine st_ex (ex_buildSlice (el := n0) (xs := ([] : List Int)) (ps := []) (cs := []) H hn0 Try.underlying24 ti3 rfl rfl (by kernel_rfl) (.nil) rfl) wn ?_
 rintro _ σ2 ⟨b1, rfl, H, -⟩
 refine st (v := (Sl (some ⟨b1, 0, none⟩) ([] : List Int) 0)) (rv_assign rfl) ?_
 refine w_end ?_
 refine q_then ?_
 refine c_seq ?_
 refine c_seq ?_
 obtain ⟨o3, hj, h'⟩ := bind_some h
 clear h
 refine c_cut (fun e a w => e = .normal ∧ ∃ (ρ : Nat → Value) (σ : St), a = fr 65 (updL ρ [(0, (Sl alist_0 list_0 clist_0)), (1, (Sl alow_1 low_1 clow_1)), (2, (Sl ahigh_2 high_2 chigh_2)), (7, (Sl (some ⟨b1, 0, none⟩) ([] : List Int) 0)), (24, (B o3))]) ∧ w = σ.w ∧ Hp S0 σ0 σ [Ch.ro 0 (Sl alist_0 list_0 clist_0) list_0, Ch.ro 0 (Sl alow_1 low_1 clow_1) low_1, Ch.ro 0 (Sl ahigh_2 high_2 chigh_2) high_2, Ch.own n0 n0 (Sl (some ⟨b1, 0, none⟩) ([] : List Int) 0) ([] : List Int)]) ?_ ?_
 ·clear h'
  rename _ = some o3 => h
  refine rg ?_
  refine st (v := (Sl alist_0 list_0 clist_0)) (rv_move rfl) ?_
  obtain ⟨r4, hx5, h'⟩ := bind_some h
  clear h
  have h := h'; clear h'
  have hc6 := c_spec_validStore (alist_0 := alist_0) (clist_0 := clist_0) hx5
  refine st_call (cx_call hc6 (ent_f hc6.fn rfl) hn0 (show Hp S0 σ0 _ ([Ch.ro 0 (Sl alist_0 list_0 clist_0) list_0] ++ [Ch.own n0 n0 (Sl (some ⟨b1, 0, none⟩) ([] : List Int) 0) ([] : List Int), Ch.ro 0 (Sl alist_0 list_0 clist_0) list_0, Ch.ro 0 (Sl alow_1 low_1 clow_1) low_1, Ch.ro 0 (Sl ahigh_2 high_2 chigh_2) high_2]) from (H.sel' [1, 0, 1, 2, 3] rfl rfl))) wn ?_
  rintro _ σ7 ⟨_, ⟨rfl, rfl⟩, H, -⟩
  replace H : Hp S0 σ0 σ7 [Ch.own n0 n0 (Sl (some ⟨b1, 0, none⟩) ([] : List Int) 0) ([] : List Int), Ch.ro 0 (Sl alist_0 list_0 clist_0) list_0, Ch.ro 0 (Sl alow_1 low_1 clow_1) low_1, Ch.ro 0 (Sl ahigh_2 high_2 chigh_2) high_2] := H
  refine st (v := (B (!r4))) (rv_not rfl) ?_
  refine st (v := (B (!r4))) (rv_move rfl) ?_
  rcases Bool.eq_false_or_eq_true (!r4) with hb8 | hb8
  ·replace h := bif_t hb8 h
   refine st_skip (congrArg some hb8) ?_
   refine st_skip (congrArg some hb8) ?_
   refine st_skip (congrArg some hb8) ?_
   refine st (v := (B true)) (rv_pick_t (congrArg B hb8) rfl) ?_
   refine st (v := (B true)) (rv_move rfl) ?_
   refine st_skip rfl ?_
   refine st_skip rfl ?_
   refine st_skip rfl ?_
   refine st (v := (B true)) (rv_pick_t rfl rfl) ?_
   refine w_end ?_
   obtain rfl := Option.some.inj h
   exact ⟨rfl, _, σ7, fr_join ⟨rfl, rfl, rfl, rfl, rfl, trivial⟩, rfl, H.sel' [1, 2, 3, 0] rfl rfl⟩
  ·replace h := bif_f hb8 h
   refine st_g (v := (Sl alow_1 low_1 clow_1)) (congrArg some hb8) (rv_move rfl) ?_
   obtain ⟨r9, hx10, h'⟩ := bind_some h
   clear h
   have h := h'; clear h'
   have hc11 := c_spec_isVector (av_0 := alow_1) (cv_0 := clow_1) hx10
   refine st_call (cx_call hc11 (ent_f hc11.fn rfl) hn0 (show Hp S0 σ0 _ ([Ch.ro 0 (Sl alow_1 low_1 clow_1) low_1] ++ [Ch.own n0 n0 (Sl (some ⟨b1, 0, none⟩) ([] : List Int) 0) ([] : List Int), Ch.ro 0 (Sl alist_0 list_0 clist_0) list_0, Ch.ro 0 (Sl alow_1 low_1 clow_1) low_1, Ch.ro 0 (Sl ahigh_2 high_2 chigh_2) high_2]) from (H.sel' [2, 0, 1, 2, 3] rfl rfl))) (wanted_yes rfl (by exact (congrArg some hb8))) ?_
   rintro _ σ12 ⟨_, ⟨rfl, rfl⟩, H, -⟩
   replace H : Hp S0 σ0 σ12 [Ch.own n0 n0 (Sl (some ⟨b1, 0, none⟩) ([] : List Int) 0) ([] : List Int), Ch.ro 0 (Sl alist_0 list_0 clist_0) list_0, Ch.ro 0 (Sl alow_1 low_1 clow_1) low_1, Ch.ro 0 (Sl ahigh_2 high_2 chigh_2) high_2] := H
   refine st_g (v := (B (!r9))) (congrArg some hb8) (rv_not rfl) ?_
   refine st (v := (B (!r9))) (rv_pick_f (congrArg B hb8) rfl) ?_
   refine st (v := (B (!r9))) (rv_move rfl) ?_
   rcases Bool.eq_false_or_eq_true (!r9) with hb13 | hb13
   ·replace h := bif_t hb13 h
    refine st_skip (congrArg some hb13) ?_
    refine st_skip (congrArg some hb13) ?_
    refine st_skip (congrArg some hb13) ?_
    refine st (v := (B true)) (rv_pick_t (congrArg B hb13) rfl) ?_
    refine w_end ?_
    obtain rfl := Option.some.inj h
    exact ⟨rfl, _, σ12, fr_join ⟨rfl, rfl, rfl, rfl, rfl, trivial⟩, rfl, H.sel' [1, 2, 3, 0] rfl rfl⟩
   ·replace h := bif_f hb13 h
    refine st_g (v := (Sl ahigh_2 high_2 chigh_2)) (congrArg some hb13) (rv_move rfl) ?_
    obtain ⟨r14, hx15, h'⟩ := bind_some h
    clear h
    have h := h'; clear h'
    have hc16 := c_spec_isVector (av_0 := ahigh_2) (cv_0 := chigh_2) hx15
    refine st_call (cx_call hc16 (ent_f hc16.fn rfl) hn0 (show Hp S0 σ0 _ ([Ch.ro 0 (Sl ahigh_2 high_2 chigh_2) high_2] ++ [Ch.own n0 n0 (Sl (some ⟨b1, 0, none⟩) ([] : List Int) 0) ([] : List Int), Ch.ro 0 (Sl alist_0 list_0 clist_0) list_0, Ch.ro 0 (Sl alow_1 low_1 clow_1) low_1, Ch.ro 0 (Sl ahigh_2 high_2 chigh_2) high_2]) from (H.sel' [3, 0, 1, 2, 3] rfl rfl))) (wanted_yes rfl (by exact (congrArg some hb13))) ?_
    rintro _ σ17 ⟨_, ⟨rfl, rfl⟩, H, -⟩
    replace H : Hp S0 σ0 σ17 [Ch.own n0 n0 (Sl (some ⟨b1, 0, none⟩) ([] : List Int) 0) ([] : List Int), Ch.ro 0 (Sl alist_0 list_0 clist_0) list_0, Ch.ro 0 (Sl alow_1 low_1 clow_1) low_1, Ch.ro 0 (Sl ahigh_2 high_2 chigh_2) high_2] := H
    refine st_g (v := (B (!r14))) (congrArg some hb13) (rv_not rfl) ?_
    refine st (v := (B (!r14))) (rv_pick_f (congrArg B hb13) rfl) ?_
    refine w_end ?_
    obtain rfl := Option.some.inj h
    exact ⟨rfl, _, σ17, fr_join ⟨rfl, rfl, rfl, rfl, rfl, trivial⟩, rfl, H.sel' [1, 2, 3, 0] rfl rfl⟩
 ·clear hj
  have h := h'
  clear h' H
  rintro e a w ⟨rfl, ρ, σ18, rfl, rfl, H⟩
  refine q_then ?_
  refine cd_cond o3 rfl (fun hb19 => ?_) (fun hb19 => ?_)
  ·replace h := bif_t hb19 h
   refine c_seq ?_
   refine rg ?_
   refine st (v := (.slice none 0 0)) (rv_assign rfl) ?_
   refine w_end ?_
   refine q_then ?_
   refine c_ret ?_
   refine q_then_r ?_
   replace H := H.nilOwn Int n0 n0
   obtain rfl := Option.some.inj h
   exact fin_ret (v := (.slice none 0 0)) (results_ok Try.results17 (res_tmp (v := (.slice none 0 0)) rfl res_nil) rfl) ⟨none, 0, rfl, rfl⟩ (H.sel' [0] rfl rfl)
  ·replace h := bif_f hb19 h
   refine c_skip ?_
   refine q_then ?_
   refine c_seq ?_
   refine c_seq ?_
   refine rg ?_
   refine st (v := (I 0)) (rv_assign rfl) ?_
   refine w_end ?_
   refine q_then ?_
   obtain ⟨o20, hj, h'⟩ := bind_some h
   clear h
   refine c_cut (fun e a w => e = .normal ∧ ∃ (ρ : Nat → Value) (σ : St) (aj1 : Option Addr) (cj2 : Nat), a = fr 65 (updL ρ [(7, (Sl aj1 o20 cj2))]) ∧ w = σ.w ∧ Hp S0 σ0 σ [Ch.own n0 n0 (Sl aj1 o20 cj2) o20]) ?_ ?_
   ·clear h'
    rename _ = some o20 => h
    refine c_blk ?_
    refine wp_loopM _ h (fun s21 a w => ∃ (ρ : Nat → Value) (σ : St) (aj1 : Option Addr) (cj2 : Nat), a = fr 65 (updL ρ [(0, (Sl alist_0 list_0 clist_0)), (1, (Sl alow_1 low_1 clow_1)), (2, (Sl ahigh_2 high_2 chigh_2)), (7, (Sl aj1 s21.1 cj2)), (8, (I s21.2))]) ∧ w = σ.w ∧ Hp S0 σ0 σ [Ch.ro 0 (Sl alist_0 list_0 clist_0) list_0, Ch.ro 0 (Sl alow_1 low_1 clow_1) low_1, Ch.ro 0 (Sl ahigh_2 high_2 chigh_2) high_2, Ch.own n0 n0 (Sl aj1 s21.1 cj2) s21.1]) ⟨_, σ18, (some ⟨b1, 0, none⟩), 0, fr_join ⟨rfl, rfl, rfl, rfl, rfl, trivial⟩, rfl, H.sel' [0, 1, 2, 3] rfl rfl⟩ ?_
    clear h H
    rintro s21 a w o ⟨ρ, σ22, a23, c24, rfl, rfl, H⟩ h hres
    refine c_seq ?_
    refine c_seq ?_
    refine rg ?_
    refine st (v := (I s21.2)) (rv_move rfl) ?_
    refine st (v := (Sl alist_0 list_0 clist_0)) (rv_move rfl) ?_
    refine st (v := (I (list_0.length : Int))) (rv_len Try.underlying23 rfl) ?_
    refine st (v := (B (decide (s21.2 < (list_0.length : Int))))) (rv_lss (a := s21.2) (b := (list_0.length : Int)) rfl rfl) ?_
    refine w_end ?_
    refine q_then ?_
    refine cd_cond (decide (s21.2 < (list_0.length : Int))) rfl (fun hb25 => ?_) (fun hb25 => ?_)
    ·replace h := bif_t hb25 h
     refine c_skip ?_
     refine q_then ?_
     refine c_seq ?_
     obtain ⟨o26, hj, h'⟩ := bind_some h
     clear h
     refine c_cut (fun e a w => e = .normal ∧ ∃ (ρ : Nat → Value) (σ : St) (aj1 : Option Addr) (cj2 : Nat), a = fr 65 (updL ρ [(0, (Sl alist_0 list_0 clist_0)), (1, (Sl alow_1 low_1 clow_1)), (2, (Sl ahigh_2 high_2 chigh_2)), (7, (Sl aj1 o26 cj2)), (8, (I s21.2))]) ∧ w = σ.w ∧ Hp S0 σ0 σ [Ch.ro 0 (Sl alist_0 list_0 clist_0) list_0, Ch.ro 0 (Sl alow_1 low_1 clow_1) low_1, Ch.ro 0 (Sl ahigh_2 high_2 chigh_2) high_2, Ch.own n0 n0 (Sl aj1 o26 cj2) o26]) ?_ ?_
     ·clear h'
      rename _ = some o26 => h
      refine c_blk ?_
      refine c_seq ?_
      refine rg ?_
      refine st (v := (B true)) (rv_assign rfl) ?_
      refine w_end ?_
      refine q_then ?_
      refine c_seq ?_
      refine c_seq ?_
      refine rg ?_
      refine st (v := (I 0)) (rv_assign rfl) ?_
      refine w_end ?_
      refine q_then ?_
      obtain ⟨o27, hj, h'⟩ := bind_some h
      clear h
      refine c_cut (fun e a w => e = .normal ∧ ∃ (ρ : Nat → Value) (σ : St), a = fr 65 (updL ρ [(0, (Sl alist_0 list_0 clist_0)), (1, (Sl alow_1 low_1 clow_1)), (2, (Sl ahigh_2 high_2 chigh_2)), (7, (Sl a23 s21.1 c24)), (8, (I s21.2)), (9, (B o27))]) ∧ w = σ.w ∧ Hp S0 σ0 σ [Ch.ro 0 (Sl alist_0 list_0 clist_0) list_0, Ch.ro 0 (Sl alow_1 low_1 clow_1) low_1, Ch.ro 0 (Sl ahigh_2 high_2 chigh_2) high_2, Ch.own n0 n0 (Sl a23 s21.1 c24) s21.1]) ?_ ?_
      ·clear h'
       rename _ = some o27 => h
       refine c_blk ?_
       refine wp_loopM _ h (fun s28 a w => ∃ (ρ : Nat → Value) (σ : St), a = fr 65 (updL ρ [(0, (Sl alist_0 list_0 clist_0)), (1, (Sl alow_1 low_1 clow_1)), (2, (Sl ahigh_2 high_2 chigh_2)), (7, (Sl a23 s21.1 c24)), (8, (I s21.2)), (9, (B s28.1)), (10, (I s28.2))]) ∧ w = σ.w ∧ Hp S0 σ0 σ [Ch.ro 0 (Sl alist_0 list_0 clist_0) list_0, Ch.ro 0 (Sl alow_1 low_1 clow_1) low_1, Ch.ro 0 (Sl ahigh_2 high_2 chigh_2) high_2, Ch.own n0 n0 (Sl a23 s21.1 c24) s21.1]) ⟨_, σ22, fr_join ⟨rfl, rfl, rfl, rfl, rfl, rfl, rfl, trivial⟩, rfl, H.sel' [0, 1, 2, 3] rfl rfl⟩ ?_
       clear h H
       rintro s28 a w o ⟨ρ, σ29, rfl, rfl, H⟩ h hres
       refine c_seq ?_
       refine c_seq ?_
       refine rg ?_
       refine st (v := (I s28.2)) (rv_move rfl) ?_
       refine st (v := (B (decide (s28.2 < 4)))) (rv_lss (a := s28.2) (b := 4) rfl rfl) ?_
       refine w_end ?_
       refine q_then ?_
       refine cd_cond (decide (s28.2 < 4)) rfl (fun hb30 => ?_) (fun hb30 => ?_)
       ·replace h := bif_t hb30 h
        refine c_skip ?_
        refine q_then ?_
        refine c_seq ?_
        refine c_blk ?_
        obtain ⟨o31, hj, h'⟩ := bind_some h
        clear h
        refine c_cut (fun e a w => e = .normal ∧ ∃ (ρ : Nat → Value) (σ : St), a = fr 65 (updL ρ [(0, (Sl alist_0 list_0 clist_0)), (1, (Sl alow_1 low_1 clow_1)), (2, (Sl ahigh_2 high_2 chigh_2)), (7, (Sl a23 s21.1 c24)), (8, (I s21.2)), (9, (B o31)), (10, (I s28.2))]) ∧ w = σ.w ∧ Hp S0 σ0 σ [Ch.ro 0 (Sl alist_0 list_0 clist_0) list_0, Ch.ro 0 (Sl alow_1 low_1 clow_1) low_1, Ch.ro 0 (Sl ahigh_2 high_2 chigh_2) high_2, Ch.own n0 n0 (Sl a23 s21.1 c24) s21.1]) ?_ ?_
        ·clear h'
         rename _ = some o31 => h
         refine rgP (σ := σ29) 18 (by kernel_rfl) (by kernel_rfl) (by kernel_rfl) ?_
         refine sq (v := (B s28.1)) (rv_move rfl) ?_
         refine sq (v := (B s28.1)) (rv_move rfl) ?_
         rcases Bool.eq_false_or_eq_true s28.1 with hb32 | hb32
         ·replace h := bif_t hb32 h
          refine sq_g (v := (Sl alist_0 list_0 clist_0)) (congrArg some hb32) (rv_move rfl) ?_
          refine sq_g (v := (I s21.2)) (congrArg some hb32) (rv_move rfl) ?_
          obtain ⟨x33, hx34, h'⟩ := bind_some h
          clear h
          have h := h'; clear h'
          obtain ⟨b36, o37, hi35, -⟩ := (H.ro 0 rfl).ix hx34
          refine sq_g (v := (pt b36 o37)) (congrArg some hb32) (rv_ix Try.underlying23 ti40 rfl rfl hi35) ?_
          refine sq_g (v := (pt b36 (o37 + 1))) (congrArg some hb32) (rv_fieldAddr (off := 1) (ft := 24) Try.underlying40 rfl ti24 rfl rfl) ?_
          obtain ⟨v41, hc42, hR40⟩ := ((H.ro 0 rfl).at hx34 hi35).snd.fst.slice
          obtain ⟨a38, c39, rfl⟩ := hR40.isSl
          replace H := H.add (d := Ch.ro 0 (Sl a38 x33.2.1 c39) x33.2.1) hR40 (fun _ h => h)
          clear hR40
          refine sq_g (v := (Sl a38 x33.2.1 c39)) (congrArg some hb32) (rv_load1 Try.underlying24 rfl rfl hc42) ?_
          refine sq_g (v := (I s28.2)) (congrArg some hb32) (rv_move rfl) ?_
          obtain ⟨x43, hx44, h'⟩ := bind_some h
          clear h
          have h := h'; clear h'
          obtain ⟨b46, o47, hi45, -⟩ := (H.ro 0 rfl).ix hx44
          refine sq_g (v := (pt b46 o47)) (congrArg some hb32) (rv_ix Try.underlying24 ti3 rfl rfl hi45) ?_
          have hc48 := ((H.ro 0 rfl).at hx44 hi45).int
          refine sq_g (v := (I x43)) (congrArg some hb32) (rv_load1 Try.underlying3 rfl rfl hc48) ?_
          refine sq_g (v := (Sl alow_1 low_1 clow_1)) (congrArg some hb32) (rv_move rfl) ?_
          refine sq_g (v := (I s28.2)) (congrArg some hb32) (rv_move rfl) ?_
          obtain ⟨x49, hx50, h'⟩ := bind_some h
          clear h
          have h := h'; clear h'
          obtain ⟨b52, o53, hi51, -⟩ := (H.ro 2 rfl).ix hx50
          refine sq_g (v := (pt b52 o53)) (congrArg some hb32) (rv_ix Try.underlying24 ti3 rfl rfl hi51) ?_
          have hc54 := ((H.ro 2 rfl).at hx50 hi51).int
          refine sq_g (v := (I x49)) (congrArg some hb32) (rv_load1 Try.underlying3 rfl rfl hc54) ?_
          refine sq_g (v := (Sl ahigh_2 high_2 chigh_2)) (congrArg some hb32) (rv_move rfl) ?_
          refine sq_g (v := (I s28.2)) (congrArg some hb32) (rv_move rfl) ?_
          obtain ⟨x55, hx56, h'⟩ := bind_some h
          clear h
          have h := h'; clear h'
          obtain ⟨b58, o59, hi57, -⟩ := (H.ro 3 rfl).ix hx56
          refine sq_g (v := (pt b58 o59)) (congrArg some hb32) (rv_ix Try.underlying24 ti3 rfl rfl hi57) ?_
          have hc60 := ((H.ro 3 rfl).at hx56 hi57).int
          refine sq_g (v := (I x55)) (congrArg some hb32) (rv_load1 Try.underlying3 rfl rfl hc60) ?_
          refine sq_end ?_
          intro σ61 hm62
          replace H := H.grow (hm62.mono fun _ h => h); clear hm62
          obtain ⟨r63, hx64, h'⟩ := bind_some h
          clear h
          have h := h'; clear h'
          have hc65 := c_spec_inRange hx64
          refine st_call (cx_call hc65 (ent_f hc65.fn rfl) hn0 (show Hp S0 σ0 _ ([] ++ [Ch.ro 0 (Sl a38 x33.2.1 c39) x33.2.1, Ch.ro 0 (Sl alist_0 list_0 clist_0) list_0, Ch.ro 0 (Sl alow_1 low_1 clow_1) low_1, Ch.ro 0 (Sl ahigh_2 high_2 chigh_2) high_2, Ch.own n0 n0 (Sl a23 s21.1 c24) s21.1]) from (H.sel' [0, 1, 2, 3, 4] rfl rfl))) (wanted_yes rfl (by exact (congrArg some hb32))) ?_
          rintro _ σ66 ⟨_, ⟨rfl, rfl⟩, H, -⟩
          replace H : Hp S0 σ0 σ66 [Ch.ro 0 (Sl a38 x33.2.1 c39) x33.2.1, Ch.ro 0 (Sl alist_0 list_0 clist_0) list_0, Ch.ro 0 (Sl alow_1 low_1 clow_1) low_1, Ch.ro 0 (Sl ahigh_2 high_2 chigh_2) high_2, Ch.own n0 n0 (Sl a23 s21.1 c24) s21.1] := H
          refine st (v := (B r63)) (rv_pick_t (congrArg B hb32) rfl) ?_
          refine st (v := (B r63)) (rv_assign rfl) ?_
          refine w_end ?_
          obtain rfl := Option.some.inj h
          exact ⟨rfl, _, σ66, fr_join ⟨rfl, rfl, rfl, rfl, rfl, rfl, rfl, trivial⟩, rfl, H.sel' [1, 2, 3, 4] rfl rfl⟩
         ·replace h := bif_f hb32 h
          refine sq_skip (congrArg some hb32) ?_
          refine sq_skip (congrArg some hb32) ?_
          refine sq_skip (congrArg some hb32) ?_
          refine sq_skip (congrArg some hb32) ?_
          refine sq_skip (congrArg some hb32) ?_
          refine sq_skip (congrArg some hb32) ?_
          refine sq_skip (congrArg some hb32) ?_
          refine sq_skip (congrArg some hb32) ?_
          refine sq_skip (congrArg some hb32) ?_
          refine sq_skip (congrArg some hb32) ?_
          refine sq_skip (congrArg some hb32) ?_
          refine sq_skip (congrArg some hb32) ?_
          refine sq_skip (congrArg some hb32) ?_
          refine sq_skip (congrArg some hb32) ?_
          refine sq_skip (congrArg some hb32) ?_
          refine sq_skip (congrArg some hb32) ?_
          refine sq_end ?_
          intro σ67 hm68
          replace H := H.grow (hm68.mono fun _ h => h); clear hm68
          refine st_skip (congrArg some hb32) ?_
          refine st (v := (B false)) (rv_pick_f (congrArg B hb32) rfl) ?_
          refine st (v := (B false)) (rv_assign rfl) ?_
          refine w_end ?_
          obtain rfl := Option.some.inj h
          exact ⟨rfl, _, σ67, fr_join ⟨rfl, rfl, rfl, rfl, rfl, rfl, rfl, trivial⟩, rfl, H.sel' [0, 1, 2, 3] rfl rfl⟩
        ·clear hj
         have h := h'
         clear h' H
         rintro e a w ⟨rfl, ρ, σ69, rfl, rfl, H⟩
         refine q_blk ?_
         refine q_then ?_
         refine rg ?_
         refine st (v := (I s28.2)) (rv_move rfl) ?_
         refine st (v := (I (w64 (s28.2 + 1)))) (rv_add (a := s28.2) (b := 1) rfl rfl) ?_
         refine st (v := (I (w64 (s28.2 + 1)))) (rv_assign rfl) ?_
         refine w_end ?_
         refine q_then ?_
         obtain rfl := Option.some.inj h
         exact ⟨_, rfl, _, σ69, fr_join ⟨rfl, rfl, rfl, rfl, rfl, rfl, rfl, trivial⟩, rfl, H.sel' [0, 1, 2, 3] rfl rfl⟩
       ·replace h := bif_f hb30 h
        refine c_exit ?_
        refine q_then_x ?_
        refine q_then_x ?_
        refine q_blk_hit ?_
        obtain rfl := Option.some.inj h
        obtain rfl := hres _ rfl
        exact ⟨rfl, _, σ29, fr_join ⟨rfl, rfl, rfl, rfl, rfl, rfl, trivial⟩, rfl, H.sel' [0, 1, 2, 3] rfl rfl⟩
      ·clear hj
       have h := h'
       clear h' H
       rintro e a w ⟨rfl, ρ, σ70, rfl, rfl, H⟩
       refine q_then ?_
       refine c_seq ?_
       refine rg ?_
       refine st (v := (B o27)) (rv_move rfl) ?_
       refine w_end ?_
       refine q_then ?_
       refine cd_cond o27 rfl (fun hb71 => ?_) (fun hb71 => ?_)
       ·replace h := bif_t hb71 h
        refine rg ?_
        refine st (v := (Sl a23 s21.1 c24)) (rv_move rfl) ?_
        refine st (v := (Sl alist_0 list_0 clist_0)) (rv_move rfl) ?_
        refine st (v := (I s21.2)) (rv_move rfl) ?_
        obtain ⟨x72, hx73, h'⟩ := bind_some h
        clear h
        have h := h'; clear h'
        obtain ⟨b75, o76, hi74, -⟩ := (H.ro 0 rfl).ix hx73
        refine st (v := (pt b75 o76)) (rv_ix Try.underlying23 ti40 rfl rfl hi74) ?_
        refine st (v := (pt b75 (o76 + 0))) (rv_fieldAddr (off := 0) (ft := 3) Try.underlying40 rfl ti3 rfl rfl) ?_
        have hc77 := ((H.ro 0 rfl).at hx73 hi74).fst.int
        refine st (v := (I x72.1)) (rv_load1 Try.underlying3 rfl rfl hc77) ?_
        refine st_ex (ex_buildSlice (el := n0) (xs := ([x72.1] : List Int)) (ps := [(0, (I x72.1))]) (cs := [(I x72.1)]) H hn0 Try.underlying24 ti3 rfl rfl (by kernel_rfl) (.cons (c := [(I x72.1)]) rfl (.nil)) rfl) wn ?_
        rintro _ σ79 ⟨b78, rfl, H, -⟩
        obtain ⟨xs80, hx81, h'⟩ := bind_some h
        clear h
        have h := h'; clear h'
        refine st_ex (ex_append H (i := 4) rfl Try.underlying24 Try.underlying24 ti3 rfl rfl (by decide) (H.own 0 rfl).rd hx81 hn0 rfl rfl) wn ?_
        rintro _ σ84 ⟨a82, c83, rfl, H, -⟩
        refine st (v := (Sl a82 xs80 c83)) (rv_assign rfl) ?_
        refine w_end ?_
        refine q_blk ?_
        obtain rfl := Option.some.inj h
        exact ⟨rfl, _, σ84, a82, c83, fr_join ⟨rfl, rfl, rfl, rfl, rfl, trivial⟩, rfl, H.sel' [2, 3, 4, 0] rfl rfl⟩
       ·replace h := bif_f hb71 h
        refine c_skip ?_
        refine q_blk ?_
        obtain rfl := Option.some.inj h
        exact ⟨rfl, _, σ70, a23, c24, fr_join ⟨rfl, rfl, rfl, rfl, rfl, trivial⟩, rfl, H.sel' [0, 1, 2, 3] rfl rfl⟩
     ·clear hj
      have h := h'
      clear h' H
      rintro e a w ⟨rfl, ρ, σ85, a86, c87, rfl, rfl, H⟩
      refine q_then ?_
      refine rg ?_
      refine st (v := (I s21.2)) (rv_move rfl) ?_
      refine st (v := (I (w64 (s21.2 + 1)))) (rv_add (a := s21.2) (b := 1) rfl rfl) ?_
      refine st (v := (I (w64 (s21.2 + 1)))) (rv_assign rfl) ?_
      refine w_end ?_
      refine q_then ?_
      obtain rfl := Option.some.inj h
      exact ⟨_, rfl, _, σ85, a86, c87, fr_join ⟨rfl, rfl, rfl, rfl, rfl, trivial⟩, rfl, H.sel' [0, 1, 2, 3] rfl rfl⟩
    ·replace h := bif_f hb25 h
     refine c_exit ?_
     refine q_then_x ?_
     refine q_then_x ?_
     refine q_blk_hit ?_
     obtain rfl := Option.some.inj h
     obtain rfl := hres _ rfl
     exact ⟨rfl, _, σ22, a23, c24, fr_join ⟨rfl, trivial⟩, rfl, H.sel' [3] rfl rfl⟩
   ·clear hj
    have h := h'
    clear h' H
    rintro e a w ⟨rfl, ρ, σ88, a89, c90, rfl, rfl, H⟩
    refine q_then ?_
    refine c_seq ?_
    refine rg ?_
    refine st (v := (Sl a89 o20 c90)) (rv_move rfl) ?_
    refine st (v := (Sl a89 o20 c90)) (rv_assign rfl) ?_
    refine w_end ?_
    refine q_then ?_
    refine c_ret ?_
    obtain rfl := Option.some.inj h
    exact fin_ret (v := (Sl a89 o20 c90)) (results_ok Try.results17 (res_tmp (v := (Sl a89 o20 c90)) rfl res_nil) rfl) ⟨a89, c90, rfl, rfl⟩ (H.sel' [0] rfl rfl)

theorem c_laws_keys {list_0 : List (Int × Int)} {alist_0 : Option Addr} {clist_0 : Nat} {r : (List Int)} (h : M.laws_keys list_0 = some r) :
    Cal2 Try.prog 20 [(Sl alist_0 list_0 clist_0)] [Ch.ro 0 (Sl alist_0 list_0 clist_0) list_0] (fun n0 v L => ∃ (az1 : Option Addr), ∃ (cz2 : Nat), v = (Sl az1 r cz2) ∧ L = [Ch.own n0 n0 (Sl az1 r cz2) r]) := by
 refine cal2 (n := 21) Try.func20 rfl rfl rfl rfl ?_
 intro S0 σ0 n0 hn0 H
 unfold M.laws_keys at h
 refine c_seq ?_
 refine rg ?_
 refine st (v := (.slice none 0 0)) (rv_assign rfl) ?_
 refine w_end ?_
 refine q_then ?_
 refine c_seq ?_
 refine rg ?_
 refine st_ex (ex_buildSlice (el := n0) (xs := ([] : List Int)) (ps := []) (cs := []) H hn0 Try.underlying24 ti3 rfl rfl (by kernel_rfl) (.nil) rfl) wn ?_
 rintro _ σ2 ⟨b1, rfl, H, -⟩
 refine st (v := (Sl (some ⟨b1, 0, none⟩) ([] : List Int) 0)) (rv_assign rfl) ?_
 refine w_end ?_
 refine q_then ?_
 refine c_seq ?_
 refine c_seq ?_
 refine rg ?_
 refine st (v := (I 0)) (rv_assign rfl) ?_
 refine w_end ?_
 refine q_then ?_
 obtain ⟨o3, hj, h'⟩ := bind_some h
 clear h
 refine c_cut (fun e a w => e = .normal ∧ ∃ (ρ : Nat → Value) (σ : St) (aj1 : Option Addr) (cj2 : Nat), a = fr 21 (updL ρ [(3, (Sl aj1 o3 cj2))]) ∧ w = σ.w ∧ Hp S0 σ0 σ [Ch.own n0 n0 (Sl aj1 o3 cj2) o3]) ?_ ?_
 ·clear h'
  rename _ = some o3 => h
  refine c_blk ?_
  refine wp_loopM _ h (fun s4 a w => ∃ (ρ : Nat → Value) (σ : St) (aj1 : Option Addr) (cj2 : Nat), a = fr 21 (updL ρ [(0, (Sl alist_0 list_0 clist_0)), (3, (Sl aj1 s4.1 cj2)), (4, (I s4.2))]) ∧ w = σ.w ∧ Hp S0 σ0 σ [Ch.ro 0 (Sl alist_0 list_0 clist_0) list_0, Ch.own n0 n0 (Sl aj1 s4.1 cj2) s4.1]) ⟨_, σ2, (some ⟨b1, 0, none⟩), 0, fr_join ⟨rfl, rfl, rfl, trivial⟩, rfl, H.sel' [1, 0] rfl rfl⟩ ?_
  clear h H
  rintro s4 a w o ⟨ρ, σ5, a6, c7, rfl, rfl, H⟩ h hres
  refine c_seq ?_
  refine c_seq ?_
  refine rg ?_
  refine st (v := (I s4.2)) (rv_move rfl) ?_
  refine st (v := (Sl alist_0 list_0 clist_0)) (rv_move rfl) ?_
  refine st (v := (I (list_0.length : Int))) (rv_len Try.underlying32 rfl) ?_
  refine st (v := (B (decide (s4.2 < (list_0.length : Int))))) (rv_lss (a := s4.2) (b := (list_0.length : Int)) rfl rfl) ?_
  refine w_end ?_
  refine q_then ?_
  refine cd_cond (decide (s4.2 < (list_0.length : Int))) rfl (fun hb8 => ?_) (fun hb8 => ?_)
  ·replace h := bif_t hb8 h
   refine c_skip ?_
   refine q_then ?_
   refine c_seq ?_
   refine c_blk ?_
   refine rg ?_
   refine st (v := (Sl a6 s4.1 c7)) (rv_move rfl) ?_
   refine st (v := (Sl alist_0 list_0 clist_0)) (rv_move rfl) ?_
   refine st (v := (I s4.2)) (rv_move rfl) ?_
   obtain ⟨x9, hx10, h'⟩ := bind_some h
   clear h
   have h := h'; clear h'
   obtain ⟨b12, o13, hi11, -⟩ := (H.ro 0 rfl).ix hx10
   refine st (v := (pt b12 o13)) (rv_ix Try.underlying32 ti86 rfl rfl hi11) ?_
   refine st (v := (pt b12 (o13 + 0))) (rv_fieldAddr (off := 0) (ft := 3) Try.underlying86 rfl ti3 rfl rfl) ?_
   have hc14 := ((H.ro 0 rfl).at hx10 hi11).fst.int
   refine st (v := (I x9.1)) (rv_load1 Try.underlying3 rfl rfl hc14) ?_
   refine st_ex (ex_buildSlice (el := n0) (xs := ([x9.1] : List Int)) (ps := [(0, (I x9.1))]) (cs := [(I x9.1)]) H hn0 Try.underlying24 ti3 rfl rfl (by kernel_rfl) (.cons (c := [(I x9.1)]) rfl (.nil)) rfl) wn ?_
   rintro _ σ16 ⟨b15, rfl, H, -⟩
   obtain ⟨xs17, hx18, h'⟩ := bind_some h
   clear h
   have h := h'; clear h'
   refine st_ex (ex_append H (i := 2) rfl Try.underlying24 Try.underlying24 ti3 rfl rfl (by decide) (H.own 0 rfl).rd hx18 hn0 rfl rfl) wn ?_
   rintro _ σ21 ⟨a19, c20, rfl, H, -⟩
   refine st (v := (Sl a19 xs17 c20)) (rv_assign rfl) ?_
   refine w_end ?_
   refine q_blk ?_
   refine q_then ?_
   refine rg ?_
   refine st (v := (I s4.2)) (rv_move rfl) ?_
   refine st (v := (I (w64 (s4.2 + 1)))) (rv_add (a := s4.2) (b := 1) rfl rfl) ?_
   refine st (v := (I (w64 (s4.2 + 1)))) (rv_assign rfl) ?_
   refine w_end ?_
   refine q_then ?_
   obtain rfl := Option.some.inj h
   exact ⟨_, rfl, _, σ21, a19, c20, fr_join ⟨rfl, rfl, rfl, trivial⟩, rfl, H.sel' [2, 0] rfl rfl⟩
  ·replace h := bif_f hb8 h
   refine c_exit ?_
   refine q_then_x ?_
   refine q_then_x ?_
   refine q_blk_hit ?_
   obtain rfl := Option.some.inj h
   obtain rfl := hres _ rfl
   exact ⟨rfl, _, σ5, a6, c7, fr_join ⟨rfl, trivial⟩, rfl, H.sel' [1] rfl rfl⟩
 ·clear hj
  have h := h'
  clear h' H
  rintro e a w ⟨rfl, ρ, σ22, a23, c24, rfl, rfl, H⟩
  refine q_then ?_
  refine c_seq ?_
  refine rg ?_
  refine st (v := (Sl a23 o3 c24)) (rv_move rfl) ?_
  refine st (v := (Sl a23 o3 c24)) (rv_assign rfl) ?_
  refine w_end ?_
  refine q_then ?_
  refine c_ret ?_
  obtain rfl := Option.some.inj h
  exact fin_ret (v := (Sl a23 o3 c24)) (results_ok Try.results20 (res_tmp (v := (Sl a23 o3 c24)) rfl res_nil) rfl) ⟨a23, c24, rfl, rfl⟩ (H.sel' [0] rfl rfl)

theorem c_impl_validKind {kind_0 : Int}  {r : Bool} (h : M.impl_validKind kind_0 = some r) :
    Cal2 Try.prog 76 [(I kind_0)] [] (fun n0 v L => v = (B r) ∧ L = []) := by
 refine cal2 (n := 9) Try.func76 rfl rfl rfl rfl ?_
 intro S0 σ0 n0 hn0 H
 unfold M.impl_validKind at h
 refine c_seq ?_
 refine rg ?_
 refine st (v := (B false)) (rv_assign rfl) ?_
 refine w_end ?_
 refine q_then ?_
 refine c_seq ?_
 refine rg ?_
 refine st (v := (I kind_0)) (rv_move rfl) ?_
 refine st (v := (B (decide (1 ≤ kind_0)))) (rv_geq (a := kind_0) (b := 1) rfl rfl) ?_
 refine st (v := (B (decide (1 ≤ kind_0)))) (rv_move rfl) ?_
 rcases Bool.eq_false_or_eq_true (decide (1 ≤ kind_0)) with hb1 | hb1
 ·replace h := bif_t hb1 h
  refine st_g (v := (I kind_0)) (congrArg some hb1) (rv_move rfl) ?_
  refine st_g (v := (B (decide (kind_0 ≤ 4)))) (congrArg some hb1) (rv_leq (a := kind_0) (b := 4) rfl rfl) ?_
  refine st (v := (B (decide (kind_0 ≤ 4)))) (rv_pick_t (congrArg B hb1) rfl) ?_
  refine st (v := (B (decide (kind_0 ≤ 4)))) (rv_assign rfl) ?_
  refine w_end ?_
  refine q_then ?_
  refine c_ret ?_
  obtain rfl := Option.some.inj h
  exact fin_ret (v := (B (decide (kind_0 ≤ 4)))) (results_ok Try.results76 (res_tmp (v := (B (decide (kind_0 ≤ 4)))) rfl res_nil) rfl) ⟨rfl, rfl⟩ (H.sel' [] rfl rfl)
 ·replace h := bif_f hb1 h
  refine st_skip (congrArg some hb1) ?_
  refine st_skip (congrArg some hb1) ?_
  refine st (v := (B false)) (rv_pick_f (congrArg B hb1) rfl) ?_
  refine st (v := (B false)) (rv_assign rfl) ?_
  refine w_end ?_
  refine q_then ?_
  refine c_ret ?_
  obtain rfl := Option.some.inj h
  exact fin_ret (v := (B false)) (results_ok Try.results76 (res_tmp (v := (B false)) rfl res_nil) rfl) ⟨rfl, rfl⟩ (H.sel' [] rfl rfl)

theorem c_impl_validCount {k_0 : Int}  {r : Bool} (h : M.impl_validCount k_0 = some r) :
    Cal2 Try.prog 133 [(I k_0)] [] (fun n0 v L => v = (B r) ∧ L = []) := by
 refine cal2 (n := 9) Try.func133 rfl rfl rfl rfl ?_
 intro S0 σ0 n0 hn0 H
 unfold M.impl_validCount at h
 refine c_seq ?_
 refine rg ?_
 refine st (v := (B false)) (rv_assign rfl) ?_
 refine w_end ?_
 refine q_then ?_
 refine c_seq ?_
 refine rg ?_
 refine st (v := (I k_0)) (rv_move rfl) ?_
 refine st (v := (B (decide (1 ≤ k_0)))) (rv_geq (a := k_0) (b := 1) rfl rfl) ?_
 refine st (v := (B (decide (1 ≤ k_0)))) (rv_move rfl) ?_
 rcases Bool.eq_false_or_eq_true (decide (1 ≤ k_0)) with hb1 | hb1
 ·replace h := bif_t hb1 h
  refine st_g (v := (I k_0)) (congrArg some hb1) (rv_move rfl) ?_
  refine st_g (v := (B (decide (k_0 ≤ 16)))) (congrArg some hb1) (rv_leq (a := k_0) (b := 16) rfl rfl) ?_
  refine st (v := (B (decide (k_0 ≤ 16)))) (rv_pick_t (congrArg B hb1) rfl) ?_
  refine st (v := (B (decide (k_0 ≤ 16)))) (rv_assign rfl) ?_
  refine w_end ?_
  refine q_then ?_
  refine c_ret ?_
  obtain rfl := Option.some.inj h
  exact fin_ret (v := (B (decide (k_0 ≤ 16)))) (results_ok Try.results133 (res_tmp (v := (B (decide (k_0 ≤ 16)))) rfl res_nil) rfl) ⟨rfl, rfl⟩ (H.sel' [] rfl rfl)
 ·replace h := bif_f hb1 h
  refine st_skip (congrArg some hb1) ?_
  refine st_skip (congrArg some hb1) ?_
  refine st (v := (B false)) (rv_pick_f (congrArg B hb1) rfl) ?_
  refine st (v := (B false)) (rv_assign rfl) ?_
  refine w_end ?_
  refine q_then ?_
  refine c_ret ?_
  obtain rfl := Option.some.inj h
  exact fin_ret (v := (B false)) (results_ok Try.results133 (res_tmp (v := (B false)) rfl res_nil) rfl) ⟨rfl, rfl⟩ (H.sel' [] rfl rfl)

theorem c_impl_validSearch {list_0 : List (Int × (List Int) × Int)} {kind_1 : Int} {at_2 : List Int} {k_3 : Int} {alist_0 : Option Addr} {clist_0 : Nat} {aat_2 : Option Addr} {cat_2 : Nat} {r : Bool} (h : M.impl_validSearch list_0 kind_1 at_2 k_3 = some r) :
    Cal2 Try.prog 90 [(Sl alist_0 list_0 clist_0), (I kind_1), (Sl aat_2 at_2 cat_2), (I k_3)] [Ch.ro 0 (Sl alist_0 list_0 clist_0) list_0, Ch.ro 0 (Sl aat_2 at_2 cat_2) at_2] (fun n0 v L => v = (B r) ∧ L = []) := by
 refine cal2 (n := 23) Try.func90 rfl rfl rfl rfl ?_
 intro S0 σ0 n0 hn0 H
 unfold M.impl_validSearch at h
 refine c_seq ?_
 refine rg ?_
 refine st (v := (B false)) (rv_assign rfl) ?_
 refine w_end ?_
 refine q_then ?_
 refine c_seq ?_
 refine rg ?_
 refine st (v := (Sl alist_0 list_0 clist_0)) (rv_move rfl) ?_
 obtain ⟨r1, hx2, h'⟩ := bind_some h
 clear h
 have h := h'; clear h'
 have hc3 := c_impl_ValidStore (alist_0 := alist_0) (clist_0 := clist_0) hx2
 refine st_call (cx_call hc3 (ent_f hc3.fn rfl) hn0 (show Hp S0 σ0 _ ([Ch.ro 0 (Sl alist_0 list_0 clist_0) list_0] ++ [Ch.ro 0 (Sl alist_0 list_0 clist_0) list_0, Ch.ro 0 (Sl aat_2 at_2 cat_2) at_2]) from (H.sel' [0, 0, 1] rfl rfl))) wn ?_
 rintro _ σ4 ⟨_, ⟨rfl, rfl⟩, H, -⟩
 replace H : Hp S0 σ0 σ4 [Ch.ro 0 (Sl alist_0 list_0 clist_0) list_0, Ch.ro 0 (Sl aat_2 at_2 cat_2) at_2] := H
 refine st (v := (B r1)) (rv_move rfl) ?_
 rcases Bool.eq_false_or_eq_true r1 with hb5 | hb5
 ·replace h := bif_t hb5 h
  refine st_g (v := (I kind_1)) (congrArg some hb5) (rv_move rfl) ?_
  obtain ⟨r6, hx7, h'⟩ := bind_some h
  clear h
  have h := h'; clear h'
  have hc8 := c_impl_validKind hx7
  refine st_call (cx_call hc8 (ent_f hc8.fn rfl) hn0 (show Hp S0 σ0 _ ([] ++ [Ch.ro 0 (Sl alist_0 list_0 clist_0) list_0, Ch.ro 0 (Sl aat_2 at_2 cat_2) at_2]) from (H.sel' [0, 1] rfl rfl))) (wanted_yes rfl (by exact (congrArg some hb5))) ?_
  rintro _ σ9 ⟨_, ⟨rfl, rfl⟩, H, -⟩
  replace H : Hp S0 σ0 σ9 [Ch.ro 0 (Sl alist_0 list_0 clist_0) list_0, Ch.ro 0 (Sl aat_2 at_2 cat_2) at_2] := H
  refine st (v := (B r6)) (rv_pick_t (congrArg B hb5) rfl) ?_
  refine st (v := (B r6)) (rv_move rfl) ?_
  rcases Bool.eq_false_or_eq_true r6 with hb10 | hb10
  ·replace h := bif_t hb10 h
   refine st_g (v := (Sl aat_2 at_2 cat_2)) (congrArg some hb10) (rv_move rfl) ?_
   obtain ⟨r11, hx12, h'⟩ := bind_some h
   clear h
   have h := h'; clear h'
   have hc13 := c_impl_ValidVector (av_0 := aat_2) (cv_0 := cat_2) hx12
   refine st_call (cx_call hc13 (ent_f hc13.fn rfl) hn0 (show Hp S0 σ0 _ ([Ch.ro 0 (Sl aat_2 at_2 cat_2) at_2] ++ [Ch.ro 0 (Sl alist_0 list_0 clist_0) list_0, Ch.ro 0 (Sl aat_2 at_2 cat_2) at_2]) from (H.sel' [1, 0, 1] rfl rfl))) (wanted_yes rfl (by exact (congrArg some hb10))) ?_
   rintro _ σ14 ⟨_, ⟨rfl, rfl⟩, H, -⟩
   replace H : Hp S0 σ0 σ14 [Ch.ro 0 (Sl alist_0 list_0 clist_0) list_0, Ch.ro 0 (Sl aat_2 at_2 cat_2) at_2] := H
   refine st (v := (B r11)) (rv_pick_t (congrArg B hb10) rfl) ?_
   refine st (v := (B r11)) (rv_move rfl) ?_
   rcases Bool.eq_false_or_eq_true r11 with hb15 | hb15
   ·replace h := bif_t hb15 h
    refine st_g (v := (I k_3)) (congrArg some hb15) (rv_move rfl) ?_
    obtain ⟨r16, hx17, h'⟩ := bind_some h
    clear h
    have h := h'; clear h'
    have hc18 := c_impl_validCount hx17
    refine st_call (cx_call hc18 (ent_f hc18.fn rfl) hn0 (show Hp S0 σ0 _ ([] ++ [Ch.ro 0 (Sl alist_0 list_0 clist_0) list_0, Ch.ro 0 (Sl aat_2 at_2 cat_2) at_2]) from (H.sel' [0, 1] rfl rfl))) (wanted_yes rfl (by exact (congrArg some hb15))) ?_
    rintro _ σ19 ⟨_, ⟨rfl, rfl⟩, H, -⟩
    replace H : Hp S0 σ0 σ19 [Ch.ro 0 (Sl alist_0 list_0 clist_0) list_0, Ch.ro 0 (Sl aat_2 at_2 cat_2) at_2] := H
    refine st (v := (B r16)) (rv_pick_t (congrArg B hb15) rfl) ?_
    refine st (v := (B r16)) (rv_assign rfl) ?_
    refine w_end ?_
    refine q_then ?_
    refine c_ret ?_
    obtain rfl := Option.some.inj h
    exact fin_ret (v := (B r16)) (results_ok Try.results90 (res_tmp (v := (B r16)) rfl res_nil) rfl) ⟨rfl, rfl⟩ (H.sel' [] rfl rfl)
   ·replace h := bif_f hb15 h
    refine st_skip (congrArg some hb15) ?_
    refine st_skip (congrArg some hb15) ?_
    refine st (v := (B false)) (rv_pick_f (congrArg B hb15) rfl) ?_
    refine st (v := (B false)) (rv_assign rfl) ?_
    refine w_end ?_
    refine q_then ?_
    refine c_ret ?_
    obtain rfl := Option.some.inj h
    exact fin_ret (v := (B false)) (results_ok Try.results90 (res_tmp (v := (B false)) rfl res_nil) rfl) ⟨rfl, rfl⟩ (H.sel' [] rfl rfl)
  ·replace h := bif_f hb10 h
   refine st_skip (congrArg some hb10) ?_
   refine st_skip (congrArg some hb10) ?_
   refine st (v := (B false)) (rv_pick_f (congrArg B hb10) rfl) ?_
   refine st (v := (B false)) (rv_move rfl) ?_
   refine st_skip rfl ?_
   refine st_skip rfl ?_
   refine st (v := (B false)) (rv_pick_f rfl rfl) ?_
   refine st (v := (B false)) (rv_assign rfl) ?_
   refine w_end ?_
   refine q_then ?_
   refine c_ret ?_
   obtain rfl := Option.some.inj h
   exact fin_ret (v := (B false)) (results_ok Try.results90 (res_tmp (v := (B false)) rfl res_nil) rfl) ⟨rfl, rfl⟩ (H.sel' [] rfl rfl)
 ·replace h := bif_f hb5 h
  refine st_skip (congrArg some hb5) ?_
  refine st_skip (congrArg some hb5) ?_
  refine st (v := (B false)) (rv_pick_f (congrArg B hb5) rfl) ?_
  refine st (v := (B false)) (rv_move rfl) ?_
  refine st_skip rfl ?_
  refine st_skip rfl ?_
  refine st (v := (B false)) (rv_pick_f rfl rfl) ?_
  refine st (v := (B false)) (rv_move rfl) ?_
  refine st_skip rfl ?_
  refine st_skip rfl ?_
  refine st (v := (B false)) (rv_pick_f rfl rfl) ?_
  refine st (v := (B false)) (rv_assign rfl) ?_
  refine w_end ?_
  refine q_then ?_
  refine c_ret ?_
  obtain rfl := Option.some.inj h
  exact fin_ret (v := (B false)) (results_ok Try.results90 (res_tmp (v := (B false)) rfl res_nil) rfl) ⟨rfl, rfl⟩ (H.sel' [] rfl rfl)

theorem c_impl_hitHeap_Push__impl_Hit {h_0 : List (Int × Int)} {x_1 : Int × Int} {ah_0 : Option Addr} {ch_0 : Nat} {loh_0 bh_0 oh_0 : Nat} {preh_0 sufh_0 : List Value} {r : (List (Int × Int))} (h : M.impl_hitHeap_Push__impl_Hit h_0 x_1 = some r) :
    Cal2 Try.prog 231 [(pt bh_0 oh_0), (.iface 86 (.agg #[(I x_1.1), (I x_1.2)]))] [Ch.bx loh_0 bh_0 oh_0 [(Sl ah_0 h_0 ch_0)] preh_0 sufh_0, Ch.own 0 0 (Sl ah_0 h_0 ch_0) h_0] (fun n0 v L => ∃ (az1 : Option Addr), ∃ (cz2 : Nat), v = (.tuple #[]) ∧ L = [Ch.bx loh_0 bh_0 oh_0 [(Sl az1 r cz2)] preh_0 sufh_0, Ch.own 0 0 (Sl az1 r cz2) r]) := by
 refine cal2 (n := 13) Try.func231 rfl rfl rfl rfl ?_
 intro S0 σ0 n0 hn0 H
 unfold M.impl_hitHeap_Push__impl_Hit at h
 have hc1 := H.cell (u := (Sl ah_0 h_0 ch_0)) (o' := oh_0) 0 0 rfl rfl rfl
 obtain ⟨xs3, hx4, h'⟩ := bind_some h
 clear h
 have h := h'; clear h'
 have Hs := H
 refine rg2 (σ := σ0) (Nm := (Nat) × (Option Addr) × (Nat)) 8 [6, 7] [[false, false], [true, false], [true, true]] [[(0, 0), (1, 1), (2, 2)], [(0, 0), (1, 1)], [(0, 0), (1, 1)], [(0, 0), (1, 1)], [(0, 0)], [(0, 0)], [(0, 1)], [(1, 2)]] 2 [fun ((b2, a5, c6) : (Nat) × (Option Addr) × (Nat)) => fun σm => Hp S0 σ0 σm [Ch.bx loh_0 bh_0 oh_0 [(Sl ah_0 h_0 ch_0)] preh_0 sufh_0, Ch.own 0 0 (Sl ah_0 h_0 ch_0) h_0] ∧ Md (cov []) σ0 σm, fun ((b2, a5, c6) : (Nat) × (Option Addr) × (Nat)) => fun σm => Hp S0 σ0 σm [Ch.own n0 n0 (Sl (some ⟨b2, 0, none⟩) ([(x_1.1, x_1.2)] : List (Int × Int)) 1) ([(x_1.1, x_1.2)] : List (Int × Int)), Ch.bx loh_0 bh_0 oh_0 [(Sl ah_0 h_0 ch_0)] preh_0 sufh_0, Ch.own 0 0 (Sl ah_0 h_0 ch_0) h_0] ∧ Md (cov []) σ0 σm, fun ((b2, a5, c6) : (Nat) × (Option Addr) × (Nat)) => fun σm => Hp S0 σ0 σm [Ch.own 0 0 (Sl a5 xs3 c6) xs3, Ch.own n0 n0 (Sl (some ⟨b2, 0, none⟩) ([(x_1.1, x_1.2)] : List (Int × Int)) 1) ([(x_1.1, x_1.2)] : List (Int × Int)), Ch.bx loh_0 bh_0 oh_0 [(Sl ah_0 h_0 ch_0)] preh_0 sufh_0] ∧ Md (fun i => (cov []) i ∨ (fun b => blk (Sl ah_0 h_0 ch_0) = some b) i) σ0 σm] [fun ((b2, a5, c6) : (Nat) × (Option Addr) × (Nat)) => (pt bh_0 oh_0), fun ((b2, a5, c6) : (Nat) × (Option Addr) × (Nat)) => (pt bh_0 oh_0), fun ((b2, a5, c6) : (Nat) × (Option Addr) × (Nat)) => (pt bh_0 oh_0), fun ((b2, a5, c6) : (Nat) × (Option Addr) × (Nat)) => (Sl ah_0 h_0 ch_0), fun ((b2, a5, c6) : (Nat) × (Option Addr) × (Nat)) => (.iface 86 (.agg #[(I x_1.1), (I x_1.2)])), fun ((b2, a5, c6) : (Nat) × (Option Addr) × (Nat)) => (.agg #[(I x_1.1), (I x_1.2)]), fun ((b2, a5, c6) : (Nat) × (Option Addr) × (Nat)) => (Sl (some ⟨b2, 0, none⟩) ([(x_1.1, x_1.2)] : List (Int × Int)) 1), fun ((b2, a5, c6) : (Nat) × (Option Addr) × (Nat)) => (Sl a5 xs3 c6)] (0, none, 0) (by kernel_rfl) (by kernel_rfl) ?_ ?_ ?_
 ·intro σm m0
  exact ⟨H.grow (m0.mono fun _ h => h.elim), m0⟩
 ·refine ac rfl (by
    intro k; rintro ⟨b2, a5, c6⟩ ρ σm hJ hoff hdep
    have e0 := look_off (N := 13) (hoff 0 rfl) rfl
    exact dp_v (v := (pt bh_0 oh_0)) wn (rv_move e0) rfl hJ) ?_
  refine ac rfl (by
    intro k; rintro ⟨b2, a5, c6⟩ ρ σm hJ hoff hdep
    have e0 := look_off (N := 13) (hoff 0 rfl) rfl
    exact dp_v (v := (pt bh_0 oh_0)) wn (rv_move e0) rfl hJ) ?_
  refine ac rfl (by
    intro k; rintro ⟨b2, a5, c6⟩ ρ σm hJ hoff hdep
    have e5 := hdep 1 rfl rfl 5 rfl
    exact dp_v (v := (pt bh_0 oh_0)) wn (rv_nilCheck e5) rfl hJ) ?_
  refine all_cons (by
    refine ⟨?_, ?_⟩
    ·rintro ⟨b2, a5, c6⟩ ρ σm hJ hoff hdep
     have e6 := hdep 2 rfl rfl 6 rfl
     obtain ⟨H, m⟩ := id hJ
     have hc1 := H.cell (u := (Sl ah_0 h_0 ch_0)) (o' := oh_0) 0 0 rfl rfl rfl
     exact dp_v (v := (Sl ah_0 h_0 ch_0)) wn (rv_load1 Try.underlying104 rfl e6 hc1) rfl hJ
    refine ⟨?_, ?_⟩
    ·rintro ⟨b2, a5, c6⟩ ρ σm hJ hoff hdep
     have e6 := hdep 2 rfl rfl 6 rfl
     obtain ⟨H, m⟩ := id hJ
     have hc1 := H.cell (u := (Sl ah_0 h_0 ch_0)) (o' := oh_0) 1 0 rfl rfl rfl
     exact dp_v (v := (Sl ah_0 h_0 ch_0)) wn (rv_load1 Try.underlying104 rfl e6 hc1) rfl hJ
    trivial) ?_
  refine ac rfl (by
    intro k; rintro ⟨b2, a5, c6⟩ ρ σm hJ hoff hdep
    have e1 := look_off (N := 13) (hoff 1 rfl) rfl
    exact dp_v (v := (.iface 86 (.agg #[(I x_1.1), (I x_1.2)]))) wn (rv_move e1) rfl hJ) ?_
  refine ac rfl (by
    intro k; rintro ⟨b2, a5, c6⟩ ρ σm hJ hoff hdep
    have e8 := hdep 4 rfl rfl 8 rfl
    exact dp_v (v := (.agg #[(I x_1.1), (I x_1.2)])) wn (rv_typeAssert Try.underlying86 rfl e8) rfl hJ) ?_
  refine all_cons (by
    refine ⟨?_, ?_⟩
    ·rintro ⟨b2, a5, c6⟩ ρ σm hJ hoff hdep
     have e9 : look 13 ρ 9 = (.agg #[(I x_1.1), (I x_1.2)]) := hdep 5 rfl rfl 9 rfl
     obtain ⟨H, m⟩ := id hJ
     refine dp_ex wn (ex_buildSlice (el := n0) (xs := ([(x_1.1, x_1.2)] : List (Int × Int))) (ps := [(0, (.agg #[(I x_1.1), (I x_1.2)]))]) (cs := [(I x_1.1), (I x_1.2)]) H hn0 Try.underlying104 ti86 rfl (by show [(0, look 13 ρ 9)] = _; rw [e9]) (by kernel_rfl) (.cons (c := [(I x_1.1), (I x_1.2)]) ⟨[(I x_1.1)], [(I x_1.2)], rfl, rfl, rfl⟩ (.nil)) rfl) ?_
     rintro _ σq ⟨b2x, rfl, H2, m2⟩
     exact ⟨_, (b2x, a5, c6), rfl, rfl, ⟨H2.sel' [0, 1, 2] rfl rfl, m.comp0 m2⟩, stab [0, 1, 2, 3, 4, 5] (by kernel_rfl) ⟨rfl, rfl, rfl, rfl, rfl, rfl, trivial⟩⟩
    trivial) ?_
  refine all_cons (by
    refine ⟨?_, ?_⟩
    ·rintro ⟨b2, a5, c6⟩ ρ σm hJ hoff hdep
     have e7 := hdep 3 rfl rfl 7 rfl
     have e10 := hdep 6 rfl rfl 10 rfl
     obtain ⟨H, m⟩ := id hJ
     refine dp_ex wn (ex_append H (i := 2) rfl Try.underlying104 Try.underlying104 ti86 rfl rfl (by decide) ((H.own 0 rfl).rd.sc) hx4 (Nat.zero_le _) e7 e10) ?_
     rintro _ σq ⟨a5x, c6x, rfl, H2, m2⟩
     exact ⟨_, (b2, a5x, c6x), rfl, rfl, ⟨H2.sel' [0, 1, 2] rfl rfl, m.comp m2⟩, stab [0, 1, 2, 3, 4, 5, 6] (by kernel_rfl) ⟨rfl, rfl, rfl, rfl, rfl, rfl, rfl, trivial⟩⟩
    trivial) ?_
  exact all_nil
 ·rintro ⟨b2, a5, c6⟩ ρ σ7 hJ hoff hrel
  have e0 := look_off (N := 13) (hoff 0 rfl) rfl
  have e4 := hrel 0 rfl 4 rfl
  have e11 := hrel 7 rfl 11 rfl
  obtain ⟨H, -⟩ := (show Hp S0 σ0 σ7 [Ch.own 0 0 (Sl a5 xs3 c6) xs3, Ch.own n0 n0 (Sl (some ⟨b2, 0, none⟩) ([(x_1.1, x_1.2)] : List (Int × Int)) 1) ([(x_1.1, x_1.2)] : List (Int × Int)), Ch.bx loh_0 bh_0 oh_0 [(Sl ah_0 h_0 ch_0)] preh_0 sufh_0] ∧ Md (fun i => (cov []) i ∨ (fun b => blk (Sl ah_0 h_0 ch_0) = some b) i) σ0 σ7 from hJ)
  clear hJ Hs
  rw [fr_lookL (L := [(0, (pt bh_0 oh_0)), (4, (pt bh_0 oh_0)), (11, (Sl a5 xs3 c6))]) ⟨e0, e4, e11, trivial⟩]
  clear hoff hrel e0 e4 e11
  refine st (v := (pt bh_0 oh_0)) (rv_nilCheck rfl) ?_
  refine st_exS (ex_store_box (k := 0) (cs := [(Sl ah_0 h_0 ch_0)]) (vs := [(Sl a5 xs3 c6)]) (cs' := [(Sl a5 xs3 c6)]) H (i := 2) rfl ti104 rfl rfl rfl rfl rfl (Nat.le_of_ble_eq_true rfl) (by simp [plain]) rfl) wn ?_
  rintro σ8 ⟨H, -⟩
  refine w_end ?_
  obtain rfl := Option.some.inj h
  exact fin_end (v := (.tuple #[])) (results_ok Try.results231 res_nil rfl) ⟨a5, c6, rfl, rfl⟩ (H.sel' [0, 1] rfl rfl)

theorem c_impl_hitHeap_Len {h_0 : List (Int × Int)} {ah_0 : Option Addr} {ch_0 : Nat} {r : Int} (h : M.impl_hitHeap_Len h_0 = some r) :
    Cal2 Try.prog 227 [(Sl ah_0 h_0 ch_0)] [Ch.ro 0 (Sl ah_0 h_0 ch_0) h_0] (fun n0 v L => v = (I r) ∧ L = []) := by
 refine cal2 (n := 5) Try.func227 rfl rfl rfl rfl ?_
 intro S0 σ0 n0 hn0 H
 unfold M.impl_hitHeap_Len at h
 refine c_seq ?_
 refine rg ?_
 refine st (v := (I 0)) (rv_assign rfl) ?_
 refine w_end ?_
 refine q_then ?_
 refine c_seq ?_
 refine rg ?_
 refine st (v := (Sl ah_0 h_0 ch_0)) (rv_move rfl) ?_
 refine st (v := (I (h_0.length : Int))) (rv_len Try.underlying104 rfl) ?_
 refine st (v := (I (h_0.length : Int))) (rv_assign rfl) ?_
 refine w_end ?_
 refine q_then ?_
 refine c_ret ?_
 obtain rfl := Option.some.inj h
 exact fin_ret (v := (I (h_0.length : Int))) (results_ok Try.results227 (res_tmp (v := (I (h_0.length : Int))) rfl res_nil) rfl) ⟨rfl, rfl⟩ (H.sel' [] rfl rfl)

theorem c_cmp_isNaN_int {x_0 : Int}  {r : Bool} (h : M.cmp_isNaN_int x_0 = some r) :
    Cal2 Try.prog 149 [(I x_0)] [] (fun n0 v L => v = (B r) ∧ L = []) := by
 refine cal2 (n := 6) Try.func149 rfl rfl rfl rfl ?_
 intro S0 σ0 n0 hn0 H
 unfold M.cmp_isNaN_int at h
 refine c_seq ?_
 refine rg ?_
 refine st (v := (B false)) (rv_assign rfl) ?_
 refine w_end ?_
 refine q_then ?_
 refine c_seq ?_
 refine rg ?_
 refine st (v := (I x_0)) (rv_move rfl) ?_
 refine st (v := (I x_0)) (rv_move rfl) ?_
 refine st (v := (B (x_0 != x_0))) (rv_neq (a := x_0) (b := x_0) rfl rfl) ?_
 refine st (v := (B (x_0 != x_0))) (rv_assign rfl) ?_
 refine w_end ?_
 refine q_then ?_
 refine c_ret ?_
 obtain rfl := Option.some.inj h
 exact fin_ret (v := (B (x_0 != x_0))) (results_ok Try.results149 (res_tmp (v := (B (x_0 != x_0))) rfl res_nil) rfl) ⟨rfl, rfl⟩ (H.sel' [] rfl rfl)

theorem c_cmp_Compare_int {x_0 : Int} {y_1 : Int}  {r : Int} (h : M.cmp_Compare_int x_0 y_1 = some r) :
    Cal2 Try.prog 127 [(I x_0), (I y_1)] [] (fun n0 v L => v = (I r) ∧ L = []) := by
 refine cal2 (n := 20) Try.func127 rfl rfl rfl rfl ?_
 intro S0 σ0 n0 hn0 H
 unfold M.cmp_Compare_int at h
 refine c_seq ?_
 refine rg ?_
 refine st (v := (I 0)) (rv_assign rfl) ?_
 refine w_end ?_
 refine q_then ?_
 refine c_seq ?_
 refine rg ?_
 refine st (v := (I x_0)) (rv_move rfl) ?_
 obtain ⟨r1, hx2, h'⟩ := bind_some h
 clear h
 have h := h'; clear h'
 have hc3 := c_cmp_isNaN_int hx2
 refine st_call (cx_call hc3 (ent_f hc3.fn rfl) hn0 (show Hp S0 σ0 _ ([] ++ []) from (H.sel' [] rfl rfl))) wn ?_
 rintro _ σ4 ⟨_, ⟨rfl, rfl⟩, H, -⟩
 replace H : Hp S0 σ0 σ4 [] := H
 refine st (v := (B r1)) (rv_assign rfl) ?_
 refine w_end ?_
 refine q_then ?_
 refine c_seq ?_
 refine rg ?_
 refine st (v := (I y_1)) (rv_move rfl) ?_
 obtain ⟨r5, hx6, h'⟩ := bind_some h
 clear h
 have h := h'; clear h'
 have hc7 := c_cmp_isNaN_int hx6
 refine st_call (cx_call hc7 (ent_f hc7.fn rfl) hn0 (show Hp S0 σ0 _ ([] ++ []) from (H.sel' [] rfl rfl))) wn ?_
 rintro _ σ8 ⟨_, ⟨rfl, rfl⟩, H, -⟩
 replace H : Hp S0 σ0 σ8 [] := H
 refine st (v := (B r5)) (rv_assign rfl) ?_
 refine w_end ?_
 refine q_then ?_
 refine c_seq ?_
 refine c_seq ?_
 refine rg ?_
 refine st (v := (B r1)) (rv_move rfl) ?_
 refine w_end ?_
 refine q_then ?_
 refine cd_cond r1 rfl (fun hb9 => ?_) (fun hb9 => ?_)
 ·replace h := bif_t hb9 h
  refine c_seq ?_
  refine c_seq ?_
  refine rg ?_
  refine st (v := (B r5)) (rv_move rfl) ?_
  refine w_end ?_
  refine q_then ?_
  refine cd_cond r5 rfl (fun hb10 => ?_) (fun hb10 => ?_)
  ·replace h := bif_t hb10 h
   refine c_seq ?_
   refine rg ?_
   refine st (v := (I 0)) (rv_assign rfl) ?_
   refine w_end ?_
   refine q_then ?_
   refine c_ret ?_
   refine q_then_r ?_
   refine q_then_r ?_
   obtain rfl := Option.some.inj h
   exact fin_ret (v := (I 0)) (results_ok Try.results127 (res_tmp (v := (I 0)) rfl res_nil) rfl) ⟨rfl, rfl⟩ (H.sel' [] rfl rfl)
  ·replace h := bif_f hb10 h
   refine c_skip ?_
   refine q_then ?_
   refine c_seq ?_
   refine rg ?_
   refine st (v := (I (-1))) (rv_assign rfl) ?_
   refine w_end ?_
   refine q_then ?_
   refine c_ret ?_
   refine q_then_r ?_
   obtain rfl := Option.some.inj h
   exact fin_ret (v := (I (-1))) (results_ok Try.results127 (res_tmp (v := (I (-1))) rfl res_nil) rfl) ⟨rfl, rfl⟩ (H.sel' [] rfl rfl)
 ·replace h := bif_f hb9 h
  refine c_skip ?_
  refine q_then ?_
  refine c_seq ?_
  refine c_seq ?_
  refine rg ?_
  refine st (v := (B r5)) (rv_move rfl) ?_
  refine w_end ?_
  refine q_then ?_
  refine cd_cond r5 rfl (fun hb11 => ?_) (fun hb11 => ?_)
  ·replace h := bif_t hb11 h
   refine c_seq ?_
   refine rg ?_
   refine st (v := (I 1)) (rv_assign rfl) ?_
   refine w_end ?_
   refine q_then ?_
   refine c_ret ?_
   refine q_then_r ?_
   obtain rfl := Option.some.inj h
   exact fin_ret (v := (I 1)) (results_ok Try.results127 (res_tmp (v := (I 1)) rfl res_nil) rfl) ⟨rfl, rfl⟩ (H.sel' [] rfl rfl)
  ·replace h := bif_f hb11 h
   refine c_skip ?_
   refine q_then ?_
   refine c_seq ?_
   refine c_seq ?_
   refine rg ?_
   refine st (v := (I x_0)) (rv_move rfl) ?_
   refine st (v := (I y_1)) (rv_move rfl) ?_
   refine st (v := (B (decide (x_0 < y_1)))) (rv_lss (a := x_0) (b := y_1) rfl rfl) ?_
   refine w_end ?_
   refine q_then ?_
   refine cd_cond (decide (x_0 < y_1)) rfl (fun hb12 => ?_) (fun hb12 => ?_)
   ·replace h := bif_t hb12 h
    refine c_seq ?_
    refine rg ?_
    refine st (v := (I (-1))) (rv_assign rfl) ?_
    refine w_end ?_
    refine q_then ?_
    refine c_ret ?_
    refine q_then_r ?_
    obtain rfl := Option.some.inj h
    exact fin_ret (v := (I (-1))) (results_ok Try.results127 (res_tmp (v := (I (-1))) rfl res_nil) rfl) ⟨rfl, rfl⟩ (H.sel' [] rfl rfl)
   ·replace h := bif_f hb12 h
    refine c_skip ?_
    refine q_then ?_
    refine c_seq ?_
    refine c_seq ?_
    refine rg ?_
    refine st (v := (I x_0)) (rv_move rfl) ?_
    refine st (v := (I y_1)) (rv_move rfl) ?_
    refine st (v := (B (decide (y_1 < x_0)))) (rv_gtr (a := x_0) (b := y_1) rfl rfl) ?_
    refine w_end ?_
    refine q_then ?_
    refine cd_cond (decide (y_1 < x_0)) rfl (fun hb13 => ?_) (fun hb13 => ?_)
    ·replace h := bif_t hb13 h
     refine c_seq ?_
     refine rg ?_
     refine st (v := (I 1)) (rv_assign rfl) ?_
     refine w_end ?_
     refine q_then ?_
     refine c_ret ?_
     refine q_then_r ?_
     obtain rfl := Option.some.inj h
     exact fin_ret (v := (I 1)) (results_ok Try.results127 (res_tmp (v := (I 1)) rfl res_nil) rfl) ⟨rfl, rfl⟩ (H.sel' [] rfl rfl)
    ·replace h := bif_f hb13 h
     refine c_skip ?_
     refine q_then ?_
     refine c_seq ?_
     refine rg ?_
     refine st (v := (I 0)) (rv_assign rfl) ?_
     refine w_end ?_
     refine q_then ?_
     refine c_ret ?_
     obtain rfl := Option.some.inj h
     exact fin_ret (v := (I 0)) (results_ok Try.results127 (res_tmp (v := (I 0)) rfl res_nil) rfl) ⟨rfl, rfl⟩ (H.sel' [] rfl rfl)

theorem c_cmp_Or_int {vals_0 : List Int} {avals_0 : Option Addr} {cvals_0 : Nat} {r : Int} (h : M.cmp_Or_int vals_0 = some r) :
    Cal2 Try.prog 167 [(Sl avals_0 vals_0 cvals_0)] [Ch.ro 0 (Sl avals_0 vals_0 cvals_0) vals_0] (fun n0 v L => v = (I r) ∧ L = []) := by
 refine cal2 (n := 18) Try.func167 rfl rfl rfl rfl ?_
 intro S0 σ0 n0 hn0 H
 unfold M.cmp_Or_int at h
 refine c_seq ?_
 refine rg ?_
 refine st (v := (I 0)) (rv_assign rfl) ?_
 refine w_end ?_
 refine q_then ?_
 refine c_seq ?_
 refine rg ?_
 refine st (v := (I 0)) (rv_assign rfl) ?_
 refine w_end ?_
 refine q_then ?_
 refine c_seq ?_
 refine c_seq ?_
 refine rg ?_
 refine st (v := (Sl avals_0 vals_0 cvals_0)) (rv_move rfl) ?_
 refine st (v := (I (vals_0.length : Int))) (rv_len Try.underlying24 rfl) ?_
 refine st (v := (I 0)) (rv_move rfl) ?_
 refine w_end ?_
 refine q_then ?_
 obtain ⟨o1, hj, h'⟩ := bind_some h
 clear h
 refine c_cut (fun e a w => (∃ t, o1 = (.inl t) ∧ e = .normal ∧ ∃ (ρ : Nat → Value) (σ : St), a = fr 18 (updL ρ [(3, (I 0))]) ∧ w = σ.w ∧ Hp S0 σ0 σ []) ∨ (∃ t, o1 = (.inr t) ∧ e = .ret ∧ ∃ (ρ : Nat → Value) (σ : St), a = fr 18 (updL ρ [(2, (I t))]) ∧ w = σ.w ∧ Hp S0 σ0 σ [])) ?_ ?_
 ·clear h'
  rename _ = some o1 => h
  refine c_blk ?_
  refine wp_loopM _ h (fun s2 a w => ∃ (ρ : Nat → Value) (σ : St), a = fr 18 (updL ρ [(3, (I 0)), (6, (Sl avals_0 vals_0 cvals_0)), (7, (I (vals_0.length : Int))), (8, (I s2))]) ∧ w = σ.w ∧ Hp S0 σ0 σ [Ch.ro 0 (Sl avals_0 vals_0 cvals_0) vals_0]) ⟨_, σ0, fr_join ⟨rfl, rfl, rfl, rfl, trivial⟩, rfl, H.sel' [0] rfl rfl⟩ ?_
  clear h H
  rintro s2 a w o ⟨ρ, σ3, rfl, rfl, H⟩ h hres
  refine c_seq ?_
  refine rg ?_
  refine st (v := (B (decide (s2 < (vals_0.length : Int))))) (rv_lss (a := s2) (b := (vals_0.length : Int)) rfl rfl) ?_
  refine w_end ?_
  refine q_then ?_
  refine c_seq ?_
  refine cd_cond (decide (s2 < (vals_0.length : Int))) rfl (fun hb4 => ?_) (fun hb4 => ?_)
  ·replace h := bif_t hb4 h
   refine c_skip ?_
   refine q_then ?_
   refine c_seq ?_
   refine c_blk ?_
   refine c_seq ?_
   refine rg ?_
   obtain ⟨x5, hx6, h'⟩ := bind_some h
   clear h
   have h := h'; clear h'
   obtain ⟨b8, o9, hi7, -⟩ := (H.ro 0 rfl).ix hx6
   refine st (v := (pt b8 o9)) (rv_ix Try.underlying24 ti3 rfl rfl hi7) ?_
   have hc10 := ((H.ro 0 rfl).at hx6 hi7).int
   refine st (v := (I x5)) (rv_load1 Try.underlying3 rfl rfl hc10) ?_
   refine st (v := (I x5)) (rv_assign rfl) ?_
   refine w_end ?_
   refine q_then ?_
   refine c_seq ?_
   refine rg ?_
   refine st (v := (I x5)) (rv_move rfl) ?_
   refine st (v := (I 0)) (rv_move rfl) ?_
   refine st (v := (B (x5 != 0))) (rv_neq (a := x5) (b := 0) rfl rfl) ?_
   refine w_end ?_
   refine q_then ?_
   refine cd_cond (x5 != 0) rfl (fun hb11 => ?_) (fun hb11 => ?_)
   ·replace h := bif_t hb11 h
    refine c_seq ?_
    refine rg ?_
    refine st (v := (I x5)) (rv_move rfl) ?_
    refine st (v := (I x5)) (rv_assign rfl) ?_
    refine w_end ?_
    refine q_then ?_
    refine c_ret ?_
    refine q_blk_r ?_
    refine q_then_r ?_
    refine q_then_r ?_
    refine q_blk_r ?_
    obtain rfl := Option.some.inj h
    obtain rfl := hres _ rfl
    exact .inr (⟨_, rfl, rfl, _, σ3, fr_join ⟨rfl, trivial⟩, rfl, H.sel' [] rfl rfl⟩)
   ·replace h := bif_f hb11 h
    refine c_skip ?_
    refine q_blk ?_
    refine q_then ?_
    refine rg ?_
    refine st (v := (I (w64 (s2 + 1)))) (rv_add (a := s2) (b := 1) rfl rfl) ?_
    refine st (v := (I (w64 (s2 + 1)))) (rv_move rfl) ?_
    refine w_end ?_
    refine q_then ?_
    obtain rfl := Option.some.inj h
    exact ⟨_, rfl, _, σ3, fr_join ⟨rfl, rfl, rfl, rfl, trivial⟩, rfl, H.sel' [0] rfl rfl⟩
  ·replace h := bif_f hb4 h
   refine c_exit ?_
   refine q_then_x ?_
   refine q_then_x ?_
   refine q_blk_hit ?_
   obtain rfl := Option.some.inj h
   obtain rfl := hres _ rfl
   exact .inl ⟨_, rfl, rfl, _, σ3, fr_join ⟨rfl, trivial⟩, rfl, H.sel' [] rfl rfl⟩
 ·clear hj
  have h := h'
  clear h' H
  rintro e a w (⟨t12, rfl, rfl, ρ, σ13, rfl, rfl, H⟩ | ⟨t14, rfl, rfl, ρ, σ15, rfl, rfl, H⟩)
  ·replace h := selim_l h
   refine q_then ?_
   refine c_seq ?_
   refine rg ?_
   refine st (v := (I 0)) (rv_move rfl) ?_
   refine st (v := (I 0)) (rv_assign rfl) ?_
   refine w_end ?_
   refine q_then ?_
   refine c_ret ?_
   obtain rfl := Option.some.inj h
   exact fin_ret (v := (I 0)) (results_ok Try.results167 (res_tmp (v := (I 0)) rfl res_nil) rfl) ⟨rfl, rfl⟩ (H.sel' [] rfl rfl)
  ·replace h := selim_r h
   refine q_then_r ?_
   obtain rfl := Option.some.inj h
   exact fin_ret (v := (I t14)) (results_ok Try.results167 (res_tmp (v := (I t14)) rfl res_nil) rfl) ⟨rfl, rfl⟩ (H.sel' [] rfl rfl)

theorem c_impl_compareHits {a_0 : Int × Int} {b_1 : Int × Int}  {r : Int} (h : M.impl_compareHits a_0 b_1 = some r) :
    Cal2 Try.prog 154 [(.agg #[(I a_0.1), (I a_0.2)]), (.agg #[(I b_1.1), (I b_1.2)])] [] (fun n0 v L => v = (I r) ∧ L = []) := by
 refine cal2 (n := 17) Try.func154 rfl rfl rfl rfl ?_
 intro S0 σ0 n0 hn0 H
 unfold M.impl_compareHits at h
 refine c_seq ?_
 refine rg ?_
 refine st_ex (ex_box (cs := [(I a_0.1), (I a_0.2)]) H hn0 rfl rfl) wn ?_
 rintro _ σ2 ⟨b1, rfl, H, -⟩
 refine st_ex (ex_box (cs := [(I b_1.1), (I b_1.2)]) H hn0 rfl rfl) wn ?_
 rintro _ σ4 ⟨b3, rfl, H, -⟩
 refine st (v := (I 0)) (rv_assign rfl) ?_
 refine w_end ?_
 refine q_then ?_
 refine c_seq ?_
 have hc5 := H.cell (u := (I a_0.2)) (o' := 1) 1 1 rfl rfl rfl
 have hc6 := H.cell (u := (I b_1.2)) (o' := 1) 0 1 rfl rfl rfl
 obtain ⟨r7, hx8, h'⟩ := bind_some h
 clear h
 have h := h'; clear h'
 have hc9 := c_cmp_Compare_int hx8
 have hc10 := H.cell (u := (I a_0.1)) (o' := 0) 1 0 rfl rfl rfl
 have hc11 := H.cell (u := (I b_1.1)) (o' := 0) 0 0 rfl rfl rfl
 have Hs := H
 refine rg2 (σ := σ4) (Nm := Unit) 9 [4] [[false], [true]] [[(0, 0)], [(0, 0)], [(0, 0)], [(0, 0)], [(0, 1)], [(0, 0), (1, 1)], [(0, 0), (1, 1)], [(0, 0), (1, 1)], [(0, 0), (1, 1)]] 1 [fun _ => fun σm => Hp S0 σ0 σm [Ch.bx n0 b3 0 [(I b_1.1), (I b_1.2)] [] [], Ch.bx n0 b1 0 [(I a_0.1), (I a_0.2)] [] []] ∧ Md (cov []) σ4 σm, fun _ => fun σm => Hp S0 σ0 σm [Ch.bx n0 b3 0 [(I b_1.1), (I b_1.2)] [] [], Ch.bx n0 b1 0 [(I a_0.1), (I a_0.2)] [] []] ∧ Md (cov []) σ4 σm] [fun _ => (pt b1 1), fun _ => (I a_0.2), fun _ => (pt b3 1), fun _ => (I b_1.2), fun _ => (I r7), fun _ => (pt b1 0), fun _ => (I a_0.1), fun _ => (pt b3 0), fun _ => (I b_1.1)] () (by kernel_rfl) (by kernel_rfl) ?_ ?_ ?_
 ·intro σm m0
  exact ⟨H.grow (m0.mono fun _ h => h.elim), m0⟩
 ·refine ac rfl (by
    intro k _nm ρ σm hJ hoff hdep
    have e2 := look_off (N := 17) (hoff 2 rfl) rfl
    exact dp_v (v := (pt b1 1)) wn (rv_fieldAddr (off := 1) (ft := 3) Try.underlying86 rfl ti3 rfl e2) rfl hJ) ?_
  refine all_cons (by
    refine ⟨?_, ?_⟩
    ·intro _nm ρ σm hJ hoff hdep
     have e5 := hdep 0 rfl rfl 5 rfl
     obtain ⟨H, m⟩ := id hJ
     have hc5 := H.cell (u := (I a_0.2)) (o' := 1) 1 1 rfl rfl rfl
     exact dp_v (v := (I a_0.2)) wn (rv_load1 Try.underlying3 rfl e5 hc5) rfl hJ
    trivial) ?_
  refine ac rfl (by
    intro k _nm ρ σm hJ hoff hdep
    have e3 := look_off (N := 17) (hoff 3 rfl) rfl
    exact dp_v (v := (pt b3 1)) wn (rv_fieldAddr (off := 1) (ft := 3) Try.underlying86 rfl ti3 rfl e3) rfl hJ) ?_
  refine all_cons (by
    refine ⟨?_, ?_⟩
    ·intro _nm ρ σm hJ hoff hdep
     have e7 := hdep 2 rfl rfl 7 rfl
     obtain ⟨H, m⟩ := id hJ
     have hc6 := H.cell (u := (I b_1.2)) (o' := 1) 0 1 rfl rfl rfl
     exact dp_v (v := (I b_1.2)) wn (rv_load1 Try.underlying3 rfl e7 hc6) rfl hJ
    trivial) ?_
  refine all_cons (by
    refine ⟨?_, ?_⟩
    ·intro _nm ρ σm hJ hoff hdep
     have e6 : look 17 ρ 6 = (I a_0.2) := hdep 1 rfl rfl 6 rfl
     have e8 : look 17 ρ 8 = (I b_1.2) := hdep 3 rfl rfl 8 rfl
     obtain ⟨H, m⟩ := id hJ
     refine dp_cx wn (cx_call hc9 (ent_f hc9.fn (by show [look 17 ρ 6, look 17 ρ 8] = _; rw [e6, e8])) hn0 (show Hp S0 σ0 _ ([] ++ [Ch.bx n0 b3 0 [(I b_1.1), (I b_1.2)] [] [], Ch.bx n0 b1 0 [(I a_0.1), (I a_0.2)] [] []]) from (H.sel' [0, 1] rfl rfl))) ?_
     rintro _ σq ⟨_, ⟨rfl, rfl⟩, H2, m2⟩
     exact ⟨_, (), rfl, rfl, ⟨H2.sel' [0, 1] rfl rfl, m.comp0 m2⟩, stab [0, 1, 2, 3, 5, 6, 7, 8] (by kernel_rfl) ⟨rfl, rfl, rfl, rfl, rfl, rfl, rfl, rfl, trivial⟩⟩
    trivial) ?_
  refine ac rfl (by
    intro k _nm ρ σm hJ hoff hdep
    have e2 := look_off (N := 17) (hoff 2 rfl) rfl
    exact dp_v (v := (pt b1 0)) wn (rv_fieldAddr (off := 0) (ft := 3) Try.underlying86 rfl ti3 rfl e2) rfl hJ) ?_
  refine all_cons (by
    refine ⟨?_, ?_⟩
    ·intro _nm ρ σm hJ hoff hdep
     have e10 := hdep 5 rfl rfl 10 rfl
     obtain ⟨H, m⟩ := id hJ
     have hc10 := H.cell (u := (I a_0.1)) (o' := 0) 1 0 rfl rfl rfl
     exact dp_v (v := (I a_0.1)) wn (rv_load1 Try.underlying3 rfl e10 hc10) rfl hJ
    refine ⟨?_, ?_⟩
    ·intro _nm ρ σm hJ hoff hdep
     have e10 := hdep 5 rfl rfl 10 rfl
     obtain ⟨H, m⟩ := id hJ
     have hc10 := H.cell (u := (I a_0.1)) (o' := 0) 1 0 rfl rfl rfl
     exact dp_v (v := (I a_0.1)) wn (rv_load1 Try.underlying3 rfl e10 hc10) rfl hJ
    trivial) ?_
  refine ac rfl (by
    intro k _nm ρ σm hJ hoff hdep
    have e3 := look_off (N := 17) (hoff 3 rfl) rfl
    exact dp_v (v := (pt b3 0)) wn (rv_fieldAddr (off := 0) (ft := 3) Try.underlying86 rfl ti3 rfl e3) rfl hJ) ?_
  refine all_cons (by
    refine ⟨?_, ?_⟩
    ·intro _nm ρ σm hJ hoff hdep
     have e12 := hdep 7 rfl rfl 12 rfl
     obtain ⟨H, m⟩ := id hJ
     have hc11 := H.cell (u := (I b_1.1)) (o' := 0) 0 0 rfl rfl rfl
     exact dp_v (v := (I b_1.1)) wn (rv_load1 Try.underlying3 rfl e12 hc11) rfl hJ
    refine ⟨?_, ?_⟩
    ·intro _nm ρ σm hJ hoff hdep
     have e12 := hdep 7 rfl rfl 12 rfl
     obtain ⟨H, m⟩ := id hJ
     have hc11 := H.cell (u := (I b_1.1)) (o' := 0) 0 0 rfl rfl rfl
     exact dp_v (v := (I b_1.1)) wn (rv_load1 Try.underlying3 rfl e12 hc11) rfl hJ
    trivial) ?_
  exact all_nil
 ·intro _nm ρ σ12 hJ hoff hrel
  have e9 := hrel 4 rfl 9 rfl
  have e11 := hrel 6 rfl 11 rfl
  have e13 := hrel 8 rfl 13 rfl
  obtain ⟨H, -⟩ := (show Hp S0 σ0 σ12 [Ch.bx n0 b3 0 [(I b_1.1), (I b_1.2)] [] [], Ch.bx n0 b1 0 [(I a_0.1), (I a_0.2)] [] []] ∧ Md (cov []) σ4 σ12 from hJ)
  clear hJ Hs
  rw [fr_lookL (L := [(9, (I r7)), (11, (I a_0.1)), (13, (I b_1.1))]) ⟨e9, e11, e13, trivial⟩]
  clear hoff hrel e9 e11 e13
  obtain ⟨r13, hx14, h'⟩ := bind_some h
  clear h
  have h := h'; clear h'
  have hc15 := c_cmp_Compare_int hx14
  refine st_call (cx_call hc15 (ent_f hc15.fn rfl) hn0 (show Hp S0 σ0 _ ([] ++ [Ch.bx n0 b3 0 [(I b_1.1), (I b_1.2)] [] [], Ch.bx n0 b1 0 [(I a_0.1), (I a_0.2)] [] []]) from (H.sel' [0, 1] rfl rfl))) wn ?_
  rintro _ σ16 ⟨_, ⟨rfl, rfl⟩, H, -⟩
  replace H : Hp S0 σ0 σ16 [Ch.bx n0 b3 0 [(I b_1.1), (I b_1.2)] [] [], Ch.bx n0 b1 0 [(I a_0.1), (I a_0.2)] [] []] := H
  refine st_ex (ex_buildSlice (el := n0) (xs := ([r7, r13] : List Int)) (ps := [(0, (I r7)), (1, (I r13))]) (cs := [(I r7), (I r13)]) H hn0 Try.underlying24 ti3 rfl rfl (by kernel_rfl) (.cons (c := [(I r7)]) rfl (.cons (c := [(I r13)]) rfl (.nil))) rfl) wn ?_
  rintro _ σ18 ⟨b17, rfl, H, -⟩
  obtain ⟨σ19, hw20, H, -⟩ := H.pub 0 rfl (Nat.le_refl _)
  rw [← hw20]; clear hw20
  replace H := H.roLow 0 0 rfl (Nat.zero_le _)
  obtain ⟨r21, hx22, h'⟩ := bind_some h
  clear h
  have h := h'; clear h'
  have hc23 := c_cmp_Or_int (avals_0 := (some ⟨b17, 0, none⟩)) (cvals_0 := 2) hx22
  refine st_call (cx_call hc23 (ent_f hc23.fn rfl) hn0 (show Hp S0 σ0 _ ([Ch.ro 0 (Sl (some ⟨b17, 0, none⟩) ([r7, r13] : List Int) 2) ([r7, r13] : List Int)] ++ [Ch.ro 0 (Sl (some ⟨b17, 0, none⟩) ([r7, r13] : List Int) 2) ([r7, r13] : List Int), Ch.ro n0 (Sl (some ⟨b17, 0, none⟩) ([r7, r13] : List Int) 2) ([r7, r13] : List Int), Ch.bx n0 b3 0 [(I b_1.1), (I b_1.2)] [] [], Ch.bx n0 b1 0 [(I a_0.1), (I a_0.2)] [] []]) from (H.sel' [0, 0, 1, 2, 3] rfl rfl))) wn ?_
  rintro _ σ24 ⟨_, ⟨rfl, rfl⟩, H, -⟩
  replace H : Hp S0 σ0 σ24 [Ch.ro 0 (Sl (some ⟨b17, 0, none⟩) ([r7, r13] : List Int) 2) ([r7, r13] : List Int), Ch.ro n0 (Sl (some ⟨b17, 0, none⟩) ([r7, r13] : List Int) 2) ([r7, r13] : List Int), Ch.bx n0 b3 0 [(I b_1.1), (I b_1.2)] [] [], Ch.bx n0 b1 0 [(I a_0.1), (I a_0.2)] [] []] := H
  refine st (v := (I r21)) (rv_assign rfl) ?_
  refine w_end ?_
  refine q_then ?_
  refine c_ret ?_
  obtain rfl := Option.some.inj h
  exact fin_ret (v := (I r21)) (results_ok Try.results154 (res_tmp (v := (I r21)) rfl res_nil) rfl) ⟨rfl, rfl⟩ (H.sel' [] rfl rfl)

theorem c_impl_hitHeap_Less {h_0 : List (Int × Int)} {i_1 : Int} {j_2 : Int} {ah_0 : Option Addr} {ch_0 : Nat} {r : Bool} (h : M.impl_hitHeap_Less h_0 i_1 j_2 = some r) :
    Cal2 Try.prog 228 [(Sl ah_0 h_0 ch_0), (I i_1), (I j_2)] [Ch.ro 0 (Sl ah_0 h_0 ch_0) h_0] (fun n0 v L => v = (B r) ∧ L = []) := by
 refine cal2 (n := 17) Try.func228 rfl rfl rfl rfl ?_
 intro S0 σ0 n0 hn0 H
 unfold M.impl_hitHeap_Less at h
 refine c_seq ?_
 refine rg ?_
 refine st (v := (B false)) (rv_assign rfl) ?_
 refine w_end ?_
 refine q_then ?_
 refine c_seq ?_
 refine rgP (σ := σ0) 8 (by kernel_rfl) (by kernel_rfl) (by kernel_rfl) ?_
 refine sq (v := (Sl ah_0 h_0 ch_0)) (rv_move rfl) ?_
 refine sq (v := (I i_1)) (rv_move rfl) ?_
 obtain ⟨x1, hx2, h'⟩ := bind_some h
 clear h
 have h := h'; clear h'
 obtain ⟨b4, o5, hi3, -⟩ := (H.ro 0 rfl).ix hx2
 refine sq (v := (pt b4 o5)) (rv_ix Try.underlying104 ti86 rfl rfl hi3) ?_
 obtain ⟨_, ⟨_, _, rfl, rfl, rfl⟩, hl6, hc7⟩ := ((H.ro 0 rfl).at hx2 hi3).cells
 refine sq (v := (.agg #[(I x1.1), (I x1.2)])) (rv_load Try.underlying86 rfl ti86 rfl hl6 hc7) ?_
 refine sq (v := (Sl ah_0 h_0 ch_0)) (rv_move rfl) ?_
 refine sq (v := (I j_2)) (rv_move rfl) ?_
 obtain ⟨x8, hx9, h'⟩ := bind_some h
 clear h
 have h := h'; clear h'
 obtain ⟨b11, o12, hi10, -⟩ := (H.ro 0 rfl).ix hx9
 refine sq (v := (pt b11 o12)) (rv_ix Try.underlying104 ti86 rfl rfl hi10) ?_
 obtain ⟨_, ⟨_, _, rfl, rfl, rfl⟩, hl13, hc14⟩ := ((H.ro 0 rfl).at hx9 hi10).cells
 refine sq (v := (.agg #[(I x8.1), (I x8.2)])) (rv_load Try.underlying86 rfl ti86 rfl hl13 hc14) ?_
 refine sq_end ?_
 intro σ15 hm16
 replace H := H.grow (hm16.mono fun _ h => h); clear hm16
 obtain ⟨r17, hx18, h'⟩ := bind_some h
 clear h
 have h := h'; clear h'
 have hc19 := c_impl_compareHits hx18
 refine st_call (cx_call hc19 (ent_f hc19.fn rfl) hn0 (show Hp S0 σ0 _ ([] ++ [Ch.ro 0 (Sl ah_0 h_0 ch_0) h_0]) from (H.sel' [0] rfl rfl))) wn ?_
 rintro _ σ20 ⟨_, ⟨rfl, rfl⟩, H, -⟩
 replace H : Hp S0 σ0 σ20 [Ch.ro 0 (Sl ah_0 h_0 ch_0) h_0] := H
 refine st (v := (B (decide (0 < r17)))) (rv_gtr (a := r17) (b := 0) rfl rfl) ?_
 refine st (v := (B (decide (0 < r17)))) (rv_assign rfl) ?_
 refine w_end ?_
 refine q_then ?_
 refine c_ret ?_
 obtain rfl := Option.some.inj h
 exact fin_ret (v := (B (decide (0 < r17)))) (results_ok Try.results228 (res_tmp (v := (B (decide (0 < r17)))) rfl res_nil) rfl) ⟨rfl, rfl⟩ (H.sel' [] rfl rfl)

theorem c_impl_hitHeap_Swap {h_0 : List (Int × Int)} {i_1 : Int} {j_2 : Int} {ah_0 : Option Addr} {ch_0 : Nat} {r : (List (Int × Int))} (h : M.impl_hitHeap_Swap h_0 i_1 j_2 = some r) :
    Cal2 Try.prog 229 [(Sl ah_0 h_0 ch_0), (I i_1), (I j_2)] [Ch.own 0 0 (Sl ah_0 h_0 ch_0) h_0] (fun n0 v L => v = (.tuple #[]) ∧ L = [Ch.own 0 0 (Sl ah_0 r ch_0) r] ∧ r.length = h_0.length) := by
 refine cal2 (n := 20) Try.func229 rfl rfl rfl rfl ?_
 intro S0 σ0 n0 hn0 H
 unfold M.impl_hitHeap_Swap at h
 obtain ⟨x1, hx2, h'⟩ := bind_some h
 clear h
 have h := h'; clear h'
 obtain ⟨b4, o5, hi3, -⟩ := (H.own 0 rfl).ix hx2
 obtain ⟨_, ⟨_, _, rfl, rfl, rfl⟩, hl6, hc7⟩ := ((H.own 0 rfl).at hx2 hi3).cells
 obtain ⟨x8, hx9, h'⟩ := bind_some h
 clear h
 have h := h'; clear h'
 obtain ⟨b11, o12, hi10, -⟩ := (H.own 0 rfl).ix hx9
 obtain ⟨_, ⟨_, _, rfl, rfl, rfl⟩, hl13, hc14⟩ := ((H.own 0 rfl).at hx9 hi10).cells
 obtain ⟨x15, hx16, h'⟩ := bind_some h
 clear h
 have h := h'; clear h'
 obtain ⟨b18, o19, hi17, -⟩ := (H.own 0 rfl).ix hx16
 have Hs := H
 refine rg2 (σ := σ0) (Nm := Unit) 14 [13] [[false], [true]] [[(0, 0)], [(0, 0)], [(0, 0), (1, 1)], [(0, 0), (1, 1)], [(0, 0)], [(0, 0)], [(0, 0)], [(0, 0)], [(0, 0)], [(0, 0)], [(0, 0)], [(0, 0)], [(0, 0)], [(0, 1)]] 1 [fun _ => fun σm => Hp S0 σ0 σm [Ch.own 0 0 (Sl ah_0 h_0 ch_0) h_0] ∧ Md (cov []) σ0 σm, fun _ => fun σm => Hp S0 σ0 σm [Ch.own 0 0 (Sl ah_0 h_0 ch_0) (h_0.set i_1.toNat (x1.1, x1.2))] ∧ Md (fun i => (cov []) i ∨ (fun b => blk (Sl ah_0 h_0 ch_0) = some b) i) σ0 σm] [fun _ => (Sl ah_0 h_0 ch_0), fun _ => (I i_1), fun _ => (Sl ah_0 h_0 ch_0), fun _ => (I j_2), fun _ => (Sl ah_0 h_0 ch_0), fun _ => (I j_2), fun _ => (pt b4 o5), fun _ => (.agg #[(I x1.1), (I x1.2)]), fun _ => (Sl ah_0 h_0 ch_0), fun _ => (I i_1), fun _ => (pt b11 o12), fun _ => (.agg #[(I x8.1), (I x8.2)]), fun _ => (pt b18 o19), fun _ => undef] () (by kernel_rfl) (by kernel_rfl) ?_ ?_ ?_
 ·intro σm m0
  exact ⟨H.grow (m0.mono fun _ h => h.elim), m0⟩
 ·refine ac rfl (by
    intro k _nm ρ σm hJ hoff hdep
    have e0 := look_off (N := 20) (hoff 0 rfl) rfl
    exact dp_v (v := (Sl ah_0 h_0 ch_0)) wn (rv_move e0) rfl hJ) ?_
  refine ac rfl (by
    intro k _nm ρ σm hJ hoff hdep
    have e1 := look_off (N := 20) (hoff 1 rfl) rfl
    exact dp_v (v := (I i_1)) wn (rv_move e1) rfl hJ) ?_
  refine ac rfl (by
    intro k _nm ρ σm hJ hoff hdep
    have e0 := look_off (N := 20) (hoff 0 rfl) rfl
    exact dp_v (v := (Sl ah_0 h_0 ch_0)) wn (rv_move e0) rfl hJ) ?_
  refine ac rfl (by
    intro k _nm ρ σm hJ hoff hdep
    have e2 := look_off (N := 20) (hoff 2 rfl) rfl
    exact dp_v (v := (I j_2)) wn (rv_move e2) rfl hJ) ?_
  refine ac rfl (by
    intro k _nm ρ σm hJ hoff hdep
    have e0 := look_off (N := 20) (hoff 0 rfl) rfl
    exact dp_v (v := (Sl ah_0 h_0 ch_0)) wn (rv_move e0) rfl hJ) ?_
  refine ac rfl (by
    intro k _nm ρ σm hJ hoff hdep
    have e2 := look_off (N := 20) (hoff 2 rfl) rfl
    exact dp_v (v := (I j_2)) wn (rv_move e2) rfl hJ) ?_
  refine ac rfl (by
    intro k _nm ρ σm hJ hoff hdep
    have e10 := hdep 4 rfl rfl 10 rfl
    have e11 := hdep 5 rfl rfl 11 rfl
    exact dp_v (v := (pt b4 o5)) wn (rv_ix Try.underlying104 ti86 e10 e11 hi3) rfl hJ) ?_
  refine all_cons (by
    refine ⟨?_, ?_⟩
    ·intro _nm ρ σm hJ hoff hdep
     have e12 := hdep 6 rfl rfl 12 rfl
     obtain ⟨H, m⟩ := id hJ
     obtain ⟨_, ⟨_, _, rfl, rfl, rfl⟩, hl6, hc7⟩ := ((H.own 0 rfl).at hx2 hi3).cells
     exact dp_v (v := (.agg #[(I x1.1), (I x1.2)])) wn (rv_load Try.underlying86 rfl ti86 e12 hl6 hc7) rfl hJ
    trivial) ?_
  refine ac rfl (by
    intro k _nm ρ σm hJ hoff hdep
    have e0 := look_off (N := 20) (hoff 0 rfl) rfl
    exact dp_v (v := (Sl ah_0 h_0 ch_0)) wn (rv_move e0) rfl hJ) ?_
  refine ac rfl (by
    intro k _nm ρ σm hJ hoff hdep
    have e1 := look_off (N := 20) (hoff 1 rfl) rfl
    exact dp_v (v := (I i_1)) wn (rv_move e1) rfl hJ) ?_
  refine ac rfl (by
    intro k _nm ρ σm hJ hoff hdep
    have e14 := hdep 8 rfl rfl 14 rfl
    have e15 := hdep 9 rfl rfl 15 rfl
    exact dp_v (v := (pt b11 o12)) wn (rv_ix Try.underlying104 ti86 e14 e15 hi10) rfl hJ) ?_
  refine all_cons (by
    refine ⟨?_, ?_⟩
    ·intro _nm ρ σm hJ hoff hdep
     have e16 := hdep 10 rfl rfl 16 rfl
     obtain ⟨H, m⟩ := id hJ
     obtain ⟨_, ⟨_, _, rfl, rfl, rfl⟩, hl13, hc14⟩ := ((H.own 0 rfl).at hx9 hi10).cells
     exact dp_v (v := (.agg #[(I x8.1), (I x8.2)])) wn (rv_load Try.underlying86 rfl ti86 e16 hl13 hc14) rfl hJ
    trivial) ?_
  refine ac rfl (by
    intro k _nm ρ σm hJ hoff hdep
    have e6 := hdep 0 rfl rfl 6 rfl
    have e7 := hdep 1 rfl rfl 7 rfl
    exact dp_v (v := (pt b18 o19)) wn (rv_ix Try.underlying104 ti86 e6 e7 hi17) rfl hJ) ?_
  refine all_cons (by
    refine ⟨?_, ?_⟩
    ·intro _nm ρ σm hJ hoff hdep
     have e18 := hdep 12 rfl rfl 18 rfl
     have e13 := hdep 7 rfl rfl 13 rfl
     obtain ⟨H, m⟩ := id hJ
     refine dp_exS wn rfl (ex_store_own (e' := (x1.1, x1.2)) (vs := [(I x1.1), (I x1.2)]) (k := 0) H (i := 0) rfl ti86 hx16 hi17 e18 rfl e13 rfl rfl (Nat.le_of_ble_eq_true rfl) (by simp [plain]) (by rintro _ ⟨_, _, rfl, rfl, rfl⟩; exact ⟨[(I x1.1)], [(I x1.2)], rfl, rfl, rfl⟩)) ?_
     rintro σq ⟨H2, m2⟩
     exact ⟨_, (), rfl, ⟨H2.sel' [0] rfl rfl, m.comp m2⟩, stab [0, 1, 2, 3, 4, 5, 6, 7, 8, 9, 10, 11, 12] (by kernel_rfl) ⟨rfl, rfl, rfl, rfl, rfl, rfl, rfl, rfl, rfl, rfl, rfl, rfl, rfl, trivial⟩⟩
    trivial) ?_
  exact all_nil
 ·intro _nm ρ σ20 hJ hoff hrel
  have e0 := look_off (N := 20) (hoff 0 rfl) rfl
  have e8 := hrel 2 rfl 8 rfl
  have e9 := hrel 3 rfl 9 rfl
  have e17 := hrel 11 rfl 17 rfl
  obtain ⟨H, -⟩ := (show Hp S0 σ0 σ20 [Ch.own 0 0 (Sl ah_0 h_0 ch_0) (h_0.set i_1.toNat (x1.1, x1.2))] ∧ Md (fun i => (cov []) i ∨ (fun b => blk (Sl ah_0 h_0 ch_0) = some b) i) σ0 σ20 from hJ)
  clear hJ Hs
  rw [fr_lookL (L := [(0, (Sl ah_0 h_0 ch_0)), (8, (Sl ah_0 h_0 ch_0)), (9, (I j_2)), (17, (.agg #[(I x8.1), (I x8.2)]))]) ⟨e0, e8, e9, e17, trivial⟩]
  clear hoff hrel e0 e8 e9 e17
  have hsl : (Sl ah_0 h_0 ch_0) = (Sl ah_0 (h_0.set i_1.toNat (x1.1, x1.2)) ch_0) := sl_len (by simp)
  rw [hsl]; rw [hsl] at H; clear hsl
  obtain ⟨x21, hx22, h'⟩ := bind_some h
  clear h
  have h := h'; clear h'
  obtain ⟨b24, o25, hi23, -⟩ := (H.own 0 rfl).ix hx22
  refine st (v := (pt b24 o25)) (rv_ix Try.underlying104 ti86 rfl rfl hi23) ?_
  refine st_exS (ex_store_own (e' := (x8.1, x8.2)) (vs := [(I x8.1), (I x8.2)]) (k := 0) H (i := 0) rfl ti86 hx22 hi23 rfl rfl rfl rfl rfl (Nat.le_of_ble_eq_true rfl) (by simp [plain]) (by rintro _ ⟨_, _, rfl, rfl, rfl⟩; exact ⟨[(I x8.1)], [(I x8.2)], rfl, rfl, rfl⟩)) wn ?_
  rintro σ26 ⟨H, -⟩
  have hsl : (Sl ah_0 (h_0.set i_1.toNat (x1.1, x1.2)) ch_0) = (Sl ah_0 ((h_0.set i_1.toNat (x1.1, x1.2)).set j_2.toNat (x8.1, x8.2)) ch_0) := sl_len List.length_set.symm
  rw [hsl]; rw [hsl] at H; clear hsl
  refine w_end ?_
  obtain rfl := Option.some.inj h
  exact fin_end (v := (.tuple #[])) (results_ok Try.results229 res_nil rfl) ⟨rfl, rfl, (List.length_set.trans List.length_set)⟩ (H.sel' [0] rfl rfl)

theorem c_container_heap_up__impl_hitHeap {h_0 : List (Int × Int)} {j_1 : Int} {ah_0 : Option Addr} {ch_0 : Nat} {loh_0 bh_0 oh_0 : Nat} {preh_0 sufh_0 : List Value} {r : (List (Int × Int))} (h : M.container_heap_up__impl_hitHeap h_0 j_1 = some r) :
    Cal2 Try.prog 168 [(.iface 166 (pt bh_0 oh_0)), (I j_1)] [Ch.bx loh_0 bh_0 oh_0 [(Sl ah_0 h_0 ch_0)] preh_0 sufh_0, Ch.own 0 0 (Sl ah_0 h_0 ch_0) h_0] (fun n0 v L => ∃ (az1 : Option Addr), ∃ (cz2 : Nat), v = (.tuple #[]) ∧ L = [Ch.bx loh_0 bh_0 oh_0 [(Sl az1 r cz2)] preh_0 sufh_0, Ch.own 0 0 (Sl az1 r cz2) r]) := by
 refine cal2 (n := 23) Try.func168 rfl rfl rfl rfl ?_
 intro S0 σ0 n0 hn0 H
 unfold M.container_heap_up__impl_hitHeap at h
 obtain ⟨o1, hj, h'⟩ := bind_some h
 clear h
 refine c_cut (fun e a w => e = .normal ∧ ∃ (ρ : Nat → Value) (σ : St) (aj1 : Option Addr) (cj2 : Nat), a = fr 23 (updL ρ [(0, (.iface 166 (pt bh_0 oh_0)))]) ∧ w = σ.w ∧ Hp S0 σ0 σ [Ch.bx loh_0 bh_0 oh_0 [(Sl aj1 o1 cj2)] preh_0 sufh_0, Ch.own 0 0 (Sl aj1 o1 cj2) o1]) ?_ ?_
 ·clear h'
  rename _ = some o1 => h
  refine c_blk ?_
  refine wp_loopM _ h (fun s2 a w => ∃ (ρ : Nat → Value) (σ : St) (aj1 : Option Addr) (cj2 : Nat), a = fr 23 (updL ρ [(0, (.iface 166 (pt bh_0 oh_0))), (1, (I s2.2))]) ∧ w = σ.w ∧ Hp S0 σ0 σ [Ch.bx loh_0 bh_0 oh_0 [(Sl aj1 s2.1 cj2)] preh_0 sufh_0, Ch.own 0 0 (Sl aj1 s2.1 cj2) s2.1]) ⟨_, σ0, ah_0, ch_0, fr_join ⟨rfl, rfl, trivial⟩, rfl, H.sel' [0, 1] rfl rfl⟩ ?_
  clear h H
  rintro s2 a w o ⟨ρ, σ3, a4, c5, rfl, rfl, H⟩ h hres
  refine c_blk ?_
  refine c_seq ?_
  refine rg ?_
  refine st (v := (I s2.2)) (rv_move rfl) ?_
  refine st (v := (I (w64 (s2.2 - 1)))) (rv_sub (a := s2.2) (b := 1) rfl rfl) ?_
  refine st (v := (I (w64 ((w64 (s2.2 - 1)).tdiv 2)))) (rv_quo (a := (w64 (s2.2 - 1))) (b := 2) rfl rfl (by decide)) ?_
  refine st (v := (I (w64 ((w64 (s2.2 - 1)).tdiv 2)))) (rv_assign rfl) ?_
  refine w_end ?_
  refine q_then ?_
  refine c_seq ?_
  refine c_seq ?_
  obtain ⟨o6, hj, h'⟩ := bind_some h
  clear h
  refine c_cut (fun e a w => e = .normal ∧ ∃ (ρ : Nat → Value) (σ : St), a = fr 23 (updL ρ [(0, (.iface 166 (pt bh_0 oh_0))), (1, (I s2.2)), (4, (I (w64 ((w64 (s2.2 - 1)).tdiv 2)))), (17, (B o6))]) ∧ w = σ.w ∧ Hp S0 σ0 σ [Ch.own 0 0 (Sl a4 s2.1 c5) s2.1, Ch.bx loh_0 bh_0 oh_0 [(Sl a4 s2.1 c5)] preh_0 sufh_0]) ?_ ?_
  ·clear h'
   rename _ = some o6 => h
   refine rg ?_
   refine st (v := (I (w64 ((w64 (s2.2 - 1)).tdiv 2)))) (rv_move rfl) ?_
   refine st (v := (I s2.2)) (rv_move rfl) ?_
   refine st (v := (B ((w64 ((w64 (s2.2 - 1)).tdiv 2)) == s2.2))) (rv_eql (a := (w64 ((w64 (s2.2 - 1)).tdiv 2))) (b := s2.2) rfl rfl) ?_
   refine st (v := (B ((w64 ((w64 (s2.2 - 1)).tdiv 2)) == s2.2))) (rv_move rfl) ?_
   rcases Bool.eq_false_or_eq_true ((w64 ((w64 (s2.2 - 1)).tdiv 2)) == s2.2) with hb7 | hb7
   ·replace h := bif_t hb7 h
    refine st_skip (congrArg some hb7) ?_
    refine st_skip (congrArg some hb7) ?_
    refine st_skip (congrArg some hb7) ?_
    refine st_skip (congrArg some hb7) ?_
    refine st_skip (congrArg some hb7) ?_
    refine st (v := (B true)) (rv_pick_t (congrArg B hb7) rfl) ?_
    refine w_end ?_
    obtain rfl := Option.some.inj h
    exact ⟨rfl, _, σ3, fr_join ⟨rfl, rfl, rfl, rfl, trivial⟩, rfl, H.sel' [1, 0] rfl rfl⟩
   ·replace h := bif_f hb7 h
    refine st_g (v := (.iface 166 (pt bh_0 oh_0))) (congrArg some hb7) (rv_move rfl) ?_
    refine st_g (v := (I s2.2)) (congrArg some hb7) (rv_move rfl) ?_
    refine st_g (v := (I (w64 ((w64 (s2.2 - 1)).tdiv 2)))) (congrArg some hb7) (rv_move rfl) ?_
    obtain ⟨r8, hx9, h'⟩ := bind_some h
    clear h
    have h := h'; clear h'
    have hc10 := c_impl_hitHeap_Less (ah_0 := a4) (ch_0 := c5) hx9
    have hle := Nat.le_trans hn0 H.size
    refine st_call (cx_lend (Loan.lend Loan.nil) hc10 (ent_iv hc10.fn (by kernel_rfl) Try.underlying166 Try.underlying104 rfl rfl (H.cell (u := (Sl a4 s2.1 c5)) (o' := oh_0) 0 0 rfl rfl rfl) rfl) (show Hp S0 σ0 _ ([Ch.own 0 0 (Sl a4 s2.1 c5) s2.1] ++ ([] ++ [Ch.bx loh_0 bh_0 oh_0 [(Sl a4 s2.1 c5)] preh_0 sufh_0])) from (H.sel' [1, 0] rfl rfl)) (by rintro _ _ _ ⟨rfl, rfl⟩; exact trivial)) (wanted_yes rfl (by exact (congrArg some hb7))) ?_
    rintro _ σ11 ⟨_, ⟨rfl, rfl⟩, H, -, -⟩
    replace H : Hp S0 σ0 σ11 [Ch.own 0 0 (Sl a4 s2.1 c5) s2.1, Ch.bx loh_0 bh_0 oh_0 [(Sl a4 s2.1 c5)] preh_0 sufh_0] := H
    clear hle
    replace H : Hp S0 σ0 σ11 [Ch.own 0 0 (Sl a4 s2.1 c5) s2.1, Ch.bx loh_0 bh_0 oh_0 [(Sl a4 s2.1 c5)] preh_0 sufh_0] := H
    refine st_g (v := (B (!r8))) (congrArg some hb7) (rv_not rfl) ?_
    refine st (v := (B (!r8))) (rv_pick_f (congrArg B hb7) rfl) ?_
    refine w_end ?_
    obtain rfl := Option.some.inj h
    exact ⟨rfl, _, σ11, fr_join ⟨rfl, rfl, rfl, rfl, trivial⟩, rfl, H.sel' [0, 1] rfl rfl⟩
  ·clear hj
   have h := h'
   clear h' H
   rintro e a w ⟨rfl, ρ, σ12, rfl, rfl, H⟩
   refine q_then ?_
   refine cd_cond o6 rfl (fun hb13 => ?_) (fun hb13 => ?_)
   ·replace h := bif_t hb13 h
    refine c_exit ?_
    refine q_then_x ?_
    refine q_blk_x (by decide) ?_
    refine q_then_x ?_
    refine q_blk_hit ?_
    obtain rfl := Option.some.inj h
    obtain rfl := hres _ rfl
    exact ⟨rfl, _, σ12, a4, c5, fr_join ⟨rfl, trivial⟩, rfl, H.sel' [1, 0] rfl rfl⟩
   ·replace h := bif_f hb13 h
    refine c_skip ?_
    refine q_then ?_
    refine c_seq ?_
    refine rg ?_
    refine st (v := (.iface 166 (pt bh_0 oh_0))) (rv_move rfl) ?_
    refine st (v := (I (w64 ((w64 (s2.2 - 1)).tdiv 2)))) (rv_move rfl) ?_
    refine st (v := (I s2.2)) (rv_move rfl) ?_
    obtain ⟨r14, hx15, h'⟩ := bind_some h
    clear h
    have h := h'; clear h'
    have hc16 := c_impl_hitHeap_Swap (ah_0 := a4) (ch_0 := c5) hx15
    refine st_call (cx_call hc16 (ent_iv hc16.fn (by kernel_rfl) Try.underlying166 Try.underlying104 rfl rfl (H.cell (u := (Sl a4 s2.1 c5)) (o' := oh_0) 1 0 rfl rfl rfl) rfl) hn0 (show Hp S0 σ0 _ ([Ch.own 0 0 (Sl a4 s2.1 c5) s2.1] ++ [Ch.bx loh_0 bh_0 oh_0 [(Sl a4 s2.1 c5)] preh_0 sufh_0]) from (H.sel' [0, 1] rfl rfl))) wn ?_
    rintro _ σ18 ⟨_, ⟨rfl, rfl, hn17⟩, H, -⟩
    replace H : Hp S0 σ0 σ18 [Ch.own 0 0 (Sl a4 r14 c5) r14, Ch.bx loh_0 bh_0 oh_0 [(Sl a4 s2.1 c5)] preh_0 sufh_0] := H
    have hsl : (Sl a4 s2.1 c5) = (Sl a4 r14 c5) := sl_len hn17.symm
    try rw [hsl]
    try rw [hsl] at H
    clear hsl
    refine w_end ?_
    refine q_then ?_
    refine rg ?_
    refine st (v := (I (w64 ((w64 (s2.2 - 1)).tdiv 2)))) (rv_move rfl) ?_
    refine st (v := (I (w64 ((w64 (s2.2 - 1)).tdiv 2)))) (rv_assign rfl) ?_
    refine w_end ?_
    refine q_blk ?_
    refine q_then ?_
    obtain rfl := Option.some.inj h
    exact ⟨_, rfl, _, σ18, a4, c5, fr_join ⟨rfl, rfl, trivial⟩, rfl, H.sel' [1, 0] rfl rfl⟩
 ·clear hj
  have h := h'
  clear h' H
  rintro e a w ⟨rfl, ρ, σ19, a20, c21, rfl, rfl, H⟩
  obtain rfl := Option.some.inj h
  exact fin_end (v := (.tuple #[])) (results_ok Try.results168 res_nil rfl) ⟨a20, c21, rfl, rfl⟩ (H.sel' [0, 1] rfl rfl)

theorem c_container_heap_Push__impl_hitHeap__impl_Hit {h_0 : List (Int × Int)} {x_1 : Int × Int} {ah_0 : Option Addr} {ch_0 : Nat} {loh_0 bh_0 oh_0 : Nat} {preh_0 sufh_0 : List Value} {r : (List (Int × Int))} (h : M.container_heap_Push__impl_hitHeap__impl_Hit h_0 x_1 = some r) :
    Cal2 Try.prog 157 [(.iface 166 (pt bh_0 oh_0)), (.iface 86 (.agg #[(I x_1.1), (I x_1.2)]))] [Ch.bx loh_0 bh_0 oh_0 [(Sl ah_0 h_0 ch_0)] preh_0 sufh_0, Ch.own 0 0 (Sl ah_0 h_0 ch_0) h_0] (fun n0 v L => ∃ (az1 : Option Addr), ∃ (cz2 : Nat), v = (.tuple #[]) ∧ L = [Ch.bx loh_0 bh_0 oh_0 [(Sl az1 r cz2)] preh_0 sufh_0, Ch.own 0 0 (Sl az1 r cz2) r]) := by
 refine cal2 (n := 12) Try.func157 rfl rfl rfl rfl ?_
 intro S0 σ0 n0 hn0 H
 unfold M.container_heap_Push__impl_hitHeap__impl_Hit at h
 refine c_seq ?_
 refine rg ?_
 refine st (v := (.iface 166 (pt bh_0 oh_0))) (rv_move rfl) ?_
 refine st (v := (.iface 86 (.agg #[(I x_1.1), (I x_1.2)]))) (rv_move rfl) ?_
 obtain ⟨r1, hx2, h'⟩ := bind_some h
 clear h
 have h := h'; clear h'
 have hc3 := c_impl_hitHeap_Push__impl_Hit (loh_0 := loh_0) (bh_0 := bh_0) (oh_0 := oh_0) (preh_0 := preh_0) (sufh_0 := sufh_0) (ah_0 := ah_0) (ch_0 := ch_0) hx2
 refine st_call (cx_call hc3 (ent_ip hc3.fn (by kernel_rfl) Try.underlying166 rfl rfl) hn0 (show Hp S0 σ0 _ ([Ch.bx loh_0 bh_0 oh_0 [(Sl ah_0 h_0 ch_0)] preh_0 sufh_0, Ch.own 0 0 (Sl ah_0 h_0 ch_0) h_0] ++ []) from (H.sel' [0, 1] rfl rfl))) wn ?_
 rintro _ σ6 ⟨_, ⟨a4, c5, rfl, rfl⟩, H, -⟩
 replace H : Hp S0 σ0 σ6 [Ch.bx loh_0 bh_0 oh_0 [(Sl a4 r1 c5)] preh_0 sufh_0, Ch.own 0 0 (Sl a4 r1 c5) r1] := H
 refine w_end ?_
 refine q_then ?_
 refine rg ?_
 refine st (v := (.iface 166 (pt bh_0 oh_0))) (rv_move rfl) ?_
 refine st (v := (.iface 166 (pt bh_0 oh_0))) (rv_move rfl) ?_
 obtain ⟨r7, hx8, h'⟩ := bind_some h
 clear h
 have h := h'; clear h'
 have hc9 := c_impl_hitHeap_Len (ah_0 := a4) (ch_0 := c5) hx8
 have hle := Nat.le_trans hn0 H.size
 refine st_call (cx_lend (Loan.lend Loan.nil) hc9 (ent_iv hc9.fn (by kernel_rfl) Try.underlying166 Try.underlying104 rfl rfl (H.cell (u := (Sl a4 r1 c5)) (o' := oh_0) 0 0 rfl rfl rfl) rfl) (show Hp S0 σ0 _ ([Ch.own 0 0 (Sl a4 r1 c5) r1] ++ ([] ++ [Ch.bx loh_0 bh_0 oh_0 [(Sl a4 r1 c5)] preh_0 sufh_0])) from (H.sel' [1, 0] rfl rfl)) (by rintro _ _ _ ⟨rfl, rfl⟩; exact trivial)) wn ?_
 rintro _ σ10 ⟨_, ⟨rfl, rfl⟩, H, -, -⟩
 replace H : Hp S0 σ0 σ10 [Ch.own 0 0 (Sl a4 r1 c5) r1, Ch.bx loh_0 bh_0 oh_0 [(Sl a4 r1 c5)] preh_0 sufh_0] := H
 clear hle
 replace H : Hp S0 σ0 σ10 [Ch.own 0 0 (Sl a4 r1 c5) r1, Ch.bx loh_0 bh_0 oh_0 [(Sl a4 r1 c5)] preh_0 sufh_0] := H
 refine st (v := (I (w64 (r7 - 1)))) (rv_sub (a := r7) (b := 1) rfl rfl) ?_
 obtain ⟨r11, hx12, h'⟩ := bind_some h
 clear h
 have h := h'; clear h'
 have hc13 := c_container_heap_up__impl_hitHeap (loh_0 := loh_0) (bh_0 := bh_0) (oh_0 := oh_0) (preh_0 := preh_0) (sufh_0 := sufh_0) (ah_0 := a4) (ch_0 := c5) hx12
 refine st_call (cx_call hc13 (ent_f hc13.fn rfl) hn0 (show Hp S0 σ0 _ ([Ch.bx loh_0 bh_0 oh_0 [(Sl a4 r1 c5)] preh_0 sufh_0, Ch.own 0 0 (Sl a4 r1 c5) r1] ++ []) from (H.sel' [1, 0] rfl rfl))) wn ?_
 rintro _ σ16 ⟨_, ⟨a14, c15, rfl, rfl⟩, H, -⟩
 replace H : Hp S0 σ0 σ16 [Ch.bx loh_0 bh_0 oh_0 [(Sl a14 r11 c15)] preh_0 sufh_0, Ch.own 0 0 (Sl a14 r11 c15) r11] := H
 refine w_end ?_
 obtain rfl := Option.some.inj h
 exact fin_end (v := (.tuple #[])) (results_ok Try.results157 res_nil rfl) ⟨a14, c15, rfl, rfl⟩ (H.sel' [0, 1] rfl rfl)

theorem c_container_heap_down__impl_hitHeap {h_0 : List (Int × Int)} {i0_1 : Int} {n_2 : Int} {ah_0 : Option Addr} {ch_0 : Nat} {loh_0 bh_0 oh_0 : Nat} {preh_0 sufh_0 : List Value} {r : Bool × (List (Int × Int))} (h : M.container_heap_down__impl_hitHeap h_0 i0_1 n_2 = some r) :
    Cal2 Try.prog 169 [(.iface 166 (pt bh_0 oh_0)), (I i0_1), (I n_2)] [Ch.bx loh_0 bh_0 oh_0 [(Sl ah_0 h_0 ch_0)] preh_0 sufh_0, Ch.own 0 0 (Sl ah_0 h_0 ch_0) h_0] (fun n0 v L => ∃ (az1 : Option Addr), ∃ (cz2 : Nat), v = (B r.1) ∧ L = [Ch.bx loh_0 bh_0 oh_0 [(Sl az1 r.2 cz2)] preh_0 sufh_0, Ch.own 0 0 (Sl az1 r.2 cz2) r.2]) := by
 refine cal2 (n := 48) Try.func169 rfl rfl rfl rfl ?_
 intro S0 σ0 n0 hn0 H
 unfold M.container_heap_down__impl_hitHeap at h
 refine c_seq ?_
 refine rg ?_
 refine st (v := (B false)) (rv_assign rfl) ?_
 refine w_end ?_
 refine q_then ?_
 refine c_seq ?_
 refine rg ?_
 refine st (v := (I i0_1)) (rv_move rfl) ?_
 refine st (v := (I i0_1)) (rv_assign rfl) ?_
 refine w_end ?_
 refine q_then ?_
 refine c_seq ?_
 obtain ⟨o1, hj, h'⟩ := bind_some h
 clear h
 refine c_cut (fun e a w => e = .normal ∧ ∃ (ρ : Nat → Value) (σ : St) (aj1 : Option Addr) (cj2 : Nat), a = fr 48 (updL ρ [(0, (.iface 166 (pt bh_0 oh_0))), (1, (I i0_1)), (7, (I o1.2))]) ∧ w = σ.w ∧ Hp S0 σ0 σ [Ch.bx loh_0 bh_0 oh_0 [(Sl aj1 o1.1 cj2)] preh_0 sufh_0, Ch.own 0 0 (Sl aj1 o1.1 cj2) o1.1]) ?_ ?_
 ·clear h'
  rename _ = some o1 => h
  refine c_blk ?_
  refine wp_loopM _ h (fun s2 a w => ∃ (ρ : Nat → Value) (σ : St) (aj1 : Option Addr) (cj2 : Nat), a = fr 48 (updL ρ [(0, (.iface 166 (pt bh_0 oh_0))), (1, (I i0_1)), (2, (I n_2)), (7, (I s2.2))]) ∧ w = σ.w ∧ Hp S0 σ0 σ [Ch.bx loh_0 bh_0 oh_0 [(Sl aj1 s2.1 cj2)] preh_0 sufh_0, Ch.own 0 0 (Sl aj1 s2.1 cj2) s2.1]) ⟨_, σ0, ah_0, ch_0, fr_join ⟨rfl, rfl, rfl, rfl, trivial⟩, rfl, H.sel' [0, 1] rfl rfl⟩ ?_
  clear h H
  rintro s2 a w o ⟨ρ, σ3, a4, c5, rfl, rfl, H⟩ h hres
  refine c_blk ?_
  refine c_seq ?_
  refine rg ?_
  refine st (v := (I s2.2)) (rv_move rfl) ?_
  refine st (v := (I (w64 (2 * s2.2)))) (rv_mul (a := 2) (b := s2.2) rfl rfl) ?_
  refine st (v := (I (w64 ((w64 (2 * s2.2)) + 1)))) (rv_add (a := (w64 (2 * s2.2))) (b := 1) rfl rfl) ?_
  refine st (v := (I (w64 ((w64 (2 * s2.2)) + 1)))) (rv_assign rfl) ?_
  refine w_end ?_
  refine q_then ?_
  refine c_seq ?_
  refine c_seq ?_
  obtain ⟨o6, hj, h'⟩ := bind_some h
  clear h
  refine c_cut (fun e a w => e = .normal ∧ ∃ (ρ : Nat → Value) (σ : St), a = fr 48 (updL ρ [(0, (.iface 166 (pt bh_0 oh_0))), (1, (I i0_1)), (2, (I n_2)), (7, (I s2.2)), (8, (I (w64 ((w64 (2 * s2.2)) + 1)))), (21, (B o6))]) ∧ w = σ.w ∧ Hp S0 σ0 σ [Ch.own 0 0 (Sl a4 s2.1 c5) s2.1, Ch.bx loh_0 bh_0 oh_0 [(Sl a4 s2.1 c5)] preh_0 sufh_0]) ?_ ?_
  ·clear h'
   rename _ = some o6 => h
   refine rg ?_
   refine st (v := (I (w64 ((w64 (2 * s2.2)) + 1)))) (rv_move rfl) ?_
   refine st (v := (I n_2)) (rv_move rfl) ?_
   refine st (v := (B (decide (n_2 ≤ (w64 ((w64 (2 * s2.2)) + 1)))))) (rv_geq (a := (w64 ((w64 (2 * s2.2)) + 1))) (b := n_2) rfl rfl) ?_
   refine st (v := (B (decide (n_2 ≤ (w64 ((w64 (2 * s2.2)) + 1)))))) (rv_move rfl) ?_
   rcases Bool.eq_false_or_eq_true (decide (n_2 ≤ (w64 ((w64 (2 * s2.2)) + 1)))) with hb7 | hb7
   ·replace h := bif_t hb7 h
    refine st_skip (congrArg some hb7) ?_
    refine st_skip (congrArg some hb7) ?_
    refine st (v := (B true)) (rv_pick_t (congrArg B hb7) rfl) ?_
    refine w_end ?_
    obtain rfl := Option.some.inj h
    exact ⟨rfl, _, σ3, fr_join ⟨rfl, rfl, rfl, rfl, rfl, rfl, trivial⟩, rfl, H.sel' [1, 0] rfl rfl⟩
   ·replace h := bif_f hb7 h
    refine st_g (v := (I (w64 ((w64 (2 * s2.2)) + 1)))) (congrArg some hb7) (rv_move rfl) ?_
    refine st_g (v := (B (decide ((w64 ((w64 (2 * s2.2)) + 1)) < 0)))) (congrArg some hb7) (rv_lss (a := (w64 ((w64 (2 * s2.2)) + 1))) (b := 0) rfl rfl) ?_
    refine st (v := (B (decide ((w64 ((w64 (2 * s2.2)) + 1)) < 0)))) (rv_pick_f (congrArg B hb7) rfl) ?_
    refine w_end ?_
    obtain rfl := Option.some.inj h
    exact ⟨rfl, _, σ3, fr_join ⟨rfl, rfl, rfl, rfl, rfl, rfl, trivial⟩, rfl, H.sel' [1, 0] rfl rfl⟩
  ·clear hj
   have h := h'
   clear h' H
   rintro e a w ⟨rfl, ρ, σ8, rfl, rfl, H⟩
   refine q_then ?_
   refine cd_cond o6 rfl (fun hb9 => ?_) (fun hb9 => ?_)
   ·replace h := bif_t hb9 h
    refine c_exit ?_
    refine q_then_x ?_
    refine q_blk_x (by decide) ?_
    refine q_then_x ?_
    refine q_blk_hit ?_
    obtain rfl := Option.some.inj h
    obtain rfl := hres _ rfl
    exact ⟨rfl, _, σ8, a4, c5, fr_join ⟨rfl, rfl, rfl, trivial⟩, rfl, H.sel' [1, 0] rfl rfl⟩
   ·replace h := bif_f hb9 h
    refine c_skip ?_
    refine q_then ?_
    refine c_seq ?_
    refine rg ?_
    refine st (v := (I (w64 ((w64 (2 * s2.2)) + 1)))) (rv_move rfl) ?_
    refine st (v := (I (w64 ((w64 (2 * s2.2)) + 1)))) (rv_assign rfl) ?_
    refine w_end ?_
    refine q_then ?_
    refine c_seq ?_
    refine c_seq ?_
    refine rg ?_
    refine st (v := (I (w64 ((w64 (2 * s2.2)) + 1)))) (rv_move rfl) ?_
    refine st (v := (I (w64 ((w64 ((w64 (2 * s2.2)) + 1)) + 1)))) (rv_add (a := (w64 ((w64 (2 * s2.2)) + 1))) (b := 1) rfl rfl) ?_
    refine st (v := (I (w64 ((w64 ((w64 (2 * s2.2)) + 1)) + 1)))) (rv_assign rfl) ?_
    refine w_end ?_
    refine q_then ?_
    refine c_seq ?_
    obtain ⟨o10, hj, h'⟩ := bind_some h
    clear h
    refine c_cut (fun e a w => e = .normal ∧ ∃ (ρ : Nat → Value) (σ : St), a = fr 48 (updL ρ [(0, (.iface 166 (pt bh_0 oh_0))), (1, (I i0_1)), (2, (I n_2)), (7, (I s2.2)), (9, (I (w64 ((w64 (2 * s2.2)) + 1)))), (10, (I (w64 ((w64 ((w64 (2 * s2.2)) + 1)) + 1)))), (33, (B o10))]) ∧ w = σ.w ∧ Hp S0 σ0 σ [Ch.own 0 0 (Sl a4 s2.1 c5) s2.1, Ch.bx loh_0 bh_0 oh_0 [(Sl a4 s2.1 c5)] preh_0 sufh_0]) ?_ ?_
    ·clear h'
     rename _ = some o10 => h
     refine rg ?_
     refine st (v := (I (w64 ((w64 ((w64 (2 * s2.2)) + 1)) + 1)))) (rv_move rfl) ?_
     refine st (v := (I n_2)) (rv_move rfl) ?_
     refine st (v := (B (decide ((w64 ((w64 ((w64 (2 * s2.2)) + 1)) + 1)) < n_2)))) (rv_lss (a := (w64 ((w64 ((w64 (2 * s2.2)) + 1)) + 1))) (b := n_2) rfl rfl) ?_
     refine st (v := (B (decide ((w64 ((w64 ((w64 (2 * s2.2)) + 1)) + 1)) < n_2)))) (rv_move rfl) ?_
     rcases Bool.eq_false_or_eq_true (decide ((w64 ((w64 ((w64 (2 * s2.2)) + 1)) + 1)) < n_2)) with hb11 | hb11
     ·replace h := bif_t hb11 h
      refine st_g (v := (.iface 166 (pt bh_0 oh_0))) (congrArg some hb11) (rv_move rfl) ?_
      refine st_g (v := (I (w64 ((w64 ((w64 (2 * s2.2)) + 1)) + 1)))) (congrArg some hb11) (rv_move rfl) ?_
      refine st_g (v := (I (w64 ((w64 (2 * s2.2)) + 1)))) (congrArg some hb11) (rv_move rfl) ?_
      obtain ⟨r12, hx13, h'⟩ := bind_some h
      clear h
      have h := h'; clear h'
      have hc14 := c_impl_hitHeap_Less (ah_0 := a4) (ch_0 := c5) hx13
      have hle := Nat.le_trans hn0 H.size
      refine st_call (cx_lend (Loan.lend Loan.nil) hc14 (ent_iv hc14.fn (by kernel_rfl) Try.underlying166 Try.underlying104 rfl rfl (H.cell (u := (Sl a4 s2.1 c5)) (o' := oh_0) 1 0 rfl rfl rfl) rfl) (show Hp S0 σ0 _ ([Ch.own 0 0 (Sl a4 s2.1 c5) s2.1] ++ ([] ++ [Ch.bx loh_0 bh_0 oh_0 [(Sl a4 s2.1 c5)] preh_0 sufh_0])) from (H.sel' [0, 1] rfl rfl)) (by rintro _ _ _ ⟨rfl, rfl⟩; exact trivial)) (wanted_yes rfl (by exact (congrArg some hb11))) ?_
      rintro _ σ15 ⟨_, ⟨rfl, rfl⟩, H, -, -⟩
      replace H : Hp S0 σ0 σ15 [Ch.own 0 0 (Sl a4 s2.1 c5) s2.1, Ch.bx loh_0 bh_0 oh_0 [(Sl a4 s2.1 c5)] preh_0 sufh_0] := H
      clear hle
      replace H : Hp S0 σ0 σ15 [Ch.own 0 0 (Sl a4 s2.1 c5) s2.1, Ch.bx loh_0 bh_0 oh_0 [(Sl a4 s2.1 c5)] preh_0 sufh_0] := H
      refine st (v := (B r12)) (rv_pick_t (congrArg B hb11) rfl) ?_
      refine w_end ?_
      obtain rfl := Option.some.inj h
      exact ⟨rfl, _, σ15, fr_join ⟨rfl, rfl, rfl, rfl, rfl, rfl, rfl, trivial⟩, rfl, H.sel' [0, 1] rfl rfl⟩
     ·replace h := bif_f hb11 h
      refine st_skip (congrArg some hb11) ?_
      refine st_skip (congrArg some hb11) ?_
      refine st_skip (congrArg some hb11) ?_
      refine st_skip (congrArg some hb11) ?_
      refine st (v := (B false)) (rv_pick_f (congrArg B hb11) rfl) ?_
      refine w_end ?_
      obtain rfl := Option.some.inj h
      exact ⟨rfl, _, σ8, fr_join ⟨rfl, rfl, rfl, rfl, rfl, rfl, rfl, trivial⟩, rfl, H.sel' [0, 1] rfl rfl⟩
    ·clear hj
     have h := h'
     clear h' H
     rintro e a w ⟨rfl, ρ, σ16, rfl, rfl, H⟩
     refine q_then ?_
     obtain ⟨o17, hj, h'⟩ := bind_some h
     clear h
     refine c_cut (fun e a w => e = .normal ∧ ∃ (ρ : Nat → Value) (σ : St), a = fr 48 (updL ρ [(0, (.iface 166 (pt bh_0 oh_0))), (1, (I i0_1)), (2, (I n_2)), (7, (I s2.2)), (9, (I o17))]) ∧ w = σ.w ∧ Hp S0 σ0 σ [Ch.own 0 0 (Sl a4 s2.1 c5) s2.1, Ch.bx loh_0 bh_0 oh_0 [(Sl a4 s2.1 c5)] preh_0 sufh_0]) ?_ ?_
     ·clear h'
      rename _ = some o17 => h
      refine cd_cond o10 rfl (fun hb18 => ?_) (fun hb18 => ?_)
      ·replace h := bif_t hb18 h
       refine rg ?_
       refine st (v := (I (w64 ((w64 ((w64 (2 * s2.2)) + 1)) + 1)))) (rv_move rfl) ?_
       refine st (v := (I (w64 ((w64 ((w64 (2 * s2.2)) + 1)) + 1)))) (rv_assign rfl) ?_
       refine w_end ?_
       obtain rfl := Option.some.inj h
       exact ⟨rfl, _, σ16, fr_join ⟨rfl, rfl, rfl, rfl, rfl, trivial⟩, rfl, H.sel' [0, 1] rfl rfl⟩
      ·replace h := bif_f hb18 h
       refine c_skip ?_
       obtain rfl := Option.some.inj h
       exact ⟨rfl, _, σ16, fr_join ⟨rfl, rfl, rfl, rfl, rfl, trivial⟩, rfl, H.sel' [0, 1] rfl rfl⟩
     ·clear hj
      have h := h'
      clear h' H
      rintro e a w ⟨rfl, ρ, σ19, rfl, rfl, H⟩
      refine q_then ?_
      refine c_seq ?_
      refine c_seq ?_
      refine rg ?_
      refine st (v := (.iface 166 (pt bh_0 oh_0))) (rv_move rfl) ?_
      refine st (v := (I o17)) (rv_move rfl) ?_
      refine st (v := (I s2.2)) (rv_move rfl) ?_
      obtain ⟨r20, hx21, h'⟩ := bind_some h
      clear h
      have h := h'; clear h'
      have hc22 := c_impl_hitHeap_Less (ah_0 := a4) (ch_0 := c5) hx21
      have hle := Nat.le_trans hn0 H.size
      refine st_call (cx_lend (Loan.lend Loan.nil) hc22 (ent_iv hc22.fn (by kernel_rfl) Try.underlying166 Try.underlying104 rfl rfl (H.cell (u := (Sl a4 s2.1 c5)) (o' := oh_0) 1 0 rfl rfl rfl) rfl) (show Hp S0 σ0 _ ([Ch.own 0 0 (Sl a4 s2.1 c5) s2.1] ++ ([] ++ [Ch.bx loh_0 bh_0 oh_0 [(Sl a4 s2.1 c5)] preh_0 sufh_0])) from (H.sel' [0, 1] rfl rfl)) (by rintro _ _ _ ⟨rfl, rfl⟩; exact trivial)) wn ?_
      rintro _ σ23 ⟨_, ⟨rfl, rfl⟩, H, -, -⟩
      replace H : Hp S0 σ0 σ23 [Ch.own 0 0 (Sl a4 s2.1 c5) s2.1, Ch.bx loh_0 bh_0 oh_0 [(Sl a4 s2.1 c5)] preh_0 sufh_0] := H
      clear hle
      replace H : Hp S0 σ0 σ23 [Ch.own 0 0 (Sl a4 s2.1 c5) s2.1, Ch.bx loh_0 bh_0 oh_0 [(Sl a4 s2.1 c5)] preh_0 sufh_0] := H
      refine st (v := (B (!r20))) (rv_not rfl) ?_
      refine w_end ?_
      refine q_then ?_
      refine cd_cond (!r20) rfl (fun hb24 => ?_) (fun hb24 => ?_)
      ·replace h := bif_t hb24 h
       refine c_exit ?_
       refine q_then_x ?_
       refine q_blk_x (by decide) ?_
       refine q_then_x ?_
       refine q_blk_hit ?_
       obtain rfl := Option.some.inj h
       obtain rfl := hres _ rfl
       exact ⟨rfl, _, σ23, a4, c5, fr_join ⟨rfl, rfl, rfl, trivial⟩, rfl, H.sel' [1, 0] rfl rfl⟩
      ·replace h := bif_f hb24 h
       refine c_skip ?_
       refine q_then ?_
       refine c_seq ?_
       refine rg ?_
       refine st (v := (.iface 166 (pt bh_0 oh_0))) (rv_move rfl) ?_
       refine st (v := (I s2.2)) (rv_move rfl) ?_
       refine st (v := (I o17)) (rv_move rfl) ?_
       obtain ⟨r25, hx26, h'⟩ := bind_some h
       clear h
       have h := h'; clear h'
       have hc27 := c_impl_hitHeap_Swap (ah_0 := a4) (ch_0 := c5) hx26
       refine st_call (cx_call hc27 (ent_iv hc27.fn (by kernel_rfl) Try.underlying166 Try.underlying104 rfl rfl (H.cell (u := (Sl a4 s2.1 c5)) (o' := oh_0) 1 0 rfl rfl rfl) rfl) hn0 (show Hp S0 σ0 _ ([Ch.own 0 0 (Sl a4 s2.1 c5) s2.1] ++ [Ch.bx loh_0 bh_0 oh_0 [(Sl a4 s2.1 c5)] preh_0 sufh_0]) from (H.sel' [0, 1] rfl rfl))) wn ?_
       rintro _ σ29 ⟨_, ⟨rfl, rfl, hn28⟩, H, -⟩
       replace H : Hp S0 σ0 σ29 [Ch.own 0 0 (Sl a4 r25 c5) r25, Ch.bx loh_0 bh_0 oh_0 [(Sl a4 s2.1 c5)] preh_0 sufh_0] := H
       have hsl : (Sl a4 s2.1 c5) = (Sl a4 r25 c5) := sl_len hn28.symm
       try rw [hsl]
       try rw [hsl] at H
       clear hsl
       refine w_end ?_
       refine q_then ?_
       refine rg ?_
       refine st (v := (I o17)) (rv_move rfl) ?_
       refine st (v := (I o17)) (rv_assign rfl) ?_
       refine w_end ?_
       refine q_blk ?_
       refine q_then ?_
       obtain rfl := Option.some.inj h
       exact ⟨_, rfl, _, σ29, a4, c5, fr_join ⟨rfl, rfl, rfl, rfl, trivial⟩, rfl, H.sel' [1, 0] rfl rfl⟩
 ·clear hj
  have h := h'
  clear h' H
  rintro e a w ⟨rfl, ρ, σ30, a31, c32, rfl, rfl, H⟩
  refine q_then ?_
  refine c_seq ?_
  refine rg ?_
  refine st (v := (I o1.2)) (rv_move rfl) ?_
  refine st (v := (I i0_1)) (rv_move rfl) ?_
  refine st (v := (B (decide (i0_1 < o1.2)))) (rv_gtr (a := o1.2) (b := i0_1) rfl rfl) ?_
  refine st (v := (B (decide (i0_1 < o1.2)))) (rv_assign rfl) ?_
  refine w_end ?_
  refine q_then ?_
  refine c_ret ?_
  obtain rfl := Option.some.inj h
  exact fin_ret (v := (B (decide (i0_1 < o1.2)))) (results_ok Try.results169 (res_tmp (v := (B (decide (i0_1 < o1.2)))) rfl res_nil) rfl) ⟨a31, c32, rfl, rfl⟩ (H.sel' [0, 1] rfl rfl)

theorem c_impl_hitHeap_Pop {h_0 : List (Int × Int)} {ah_0 : Option Addr} {ch_0 : Nat} {loh_0 bh_0 oh_0 : Nat} {preh_0 sufh_0 : List Value} {r : ((Int) × (Int)) × (List (Int × Int))} (h : M.impl_hitHeap_Pop h_0 = some r) :
    Cal2 Try.prog 230 [(pt bh_0 oh_0)] [Ch.bx loh_0 bh_0 oh_0 [(Sl ah_0 h_0 ch_0)] preh_0 sufh_0, Ch.own 0 0 (Sl ah_0 h_0 ch_0) h_0] (fun n0 v L => ∃ (az1 : Option Addr), ∃ (cz2 : Nat), v = (.iface 86 (.agg #[(I r.1.1), (I r.1.2)])) ∧ L = [Ch.bx loh_0 bh_0 oh_0 [(Sl az1 r.2 cz2)] preh_0 sufh_0, Ch.own 0 0 (Sl az1 r.2 cz2) r.2]) := by
 refine cal2 (n := 25) Try.func230 rfl rfl rfl rfl ?_
 intro S0 σ0 n0 hn0 H
 unfold M.impl_hitHeap_Pop at h
 refine c_seq ?_
 refine rg ?_
 refine st (v := .nilIface) (rv_assign rfl) ?_
 refine w_end ?_
 refine q_then ?_
 refine c_seq ?_
 refine rg ?_
 refine st (v := (pt bh_0 oh_0)) (rv_move rfl) ?_
 refine st (v := (pt bh_0 oh_0)) (rv_nilCheck rfl) ?_
 have hc1 := H.cell (u := (Sl ah_0 h_0 ch_0)) (o' := oh_0) 0 0 rfl rfl rfl
 refine st (v := (Sl ah_0 h_0 ch_0)) (rv_load1 Try.underlying104 rfl rfl hc1) ?_
 refine st (v := (I (h_0.length : Int))) (rv_len Try.underlying104 rfl) ?_
 refine st (v := (I (w64 ((h_0.length : Int) - 1)))) (rv_sub (a := (h_0.length : Int)) (b := 1) rfl rfl) ?_
 refine st (v := (I (w64 ((h_0.length : Int) - 1)))) (rv_assign rfl) ?_
 refine w_end ?_
 refine q_then ?_
 refine c_seq ?_
 refine rg ?_
 refine st (v := (pt bh_0 oh_0)) (rv_move rfl) ?_
 refine st (v := (pt bh_0 oh_0)) (rv_nilCheck rfl) ?_
 have hc2 := H.cell (u := (Sl ah_0 h_0 ch_0)) (o' := oh_0) 0 0 rfl rfl rfl
 refine st (v := (Sl ah_0 h_0 ch_0)) (rv_load1 Try.underlying104 rfl rfl hc2) ?_
 refine st (v := (I (w64 ((h_0.length : Int) - 1)))) (rv_move rfl) ?_
 obtain ⟨x3, hx4, h'⟩ := bind_some h
 clear h
 have h := h'; clear h'
 obtain ⟨b6, o7, hi5, -⟩ := (H.own 1 rfl).ix hx4
 refine st (v := (pt b6 o7)) (rv_ix Try.underlying104 ti86 rfl rfl hi5) ?_
 obtain ⟨_, ⟨_, _, rfl, rfl, rfl⟩, hl8, hc9⟩ := ((H.own 1 rfl).at hx4 hi5).cells
 refine st (v := (.agg #[(I x3.1), (I x3.2)])) (rv_load Try.underlying86 rfl ti86 rfl hl8 hc9) ?_
 refine st_ex (ex_alloc (cs := [(I 0), (I 0)]) H hn0 ti86 rfl) wn ?_
 rintro _ σ11 ⟨b10, rfl, H, -⟩
 refine st_exS (ex_store_box (k := 0) (cs := [(I 0), (I 0)]) (vs := [(I x3.1), (I x3.2)]) (cs' := [(I x3.1), (I x3.2)]) H (i := 0) rfl ti86 rfl rfl rfl rfl rfl (Nat.le_of_ble_eq_true rfl) (by simp [plain]) rfl) wn ?_
 rintro σ12 ⟨H, -⟩
 refine w_end ?_
 refine q_then ?_
 refine c_seq ?_
 refine rg ?_
 refine st (v := (pt bh_0 oh_0)) (rv_move rfl) ?_
 refine st (v := (pt bh_0 oh_0)) (rv_move rfl) ?_
 refine st (v := (pt bh_0 oh_0)) (rv_nilCheck rfl) ?_
 have hc13 := H.cell (u := (Sl ah_0 h_0 ch_0)) (o' := oh_0) 1 0 rfl rfl rfl
 refine st (v := (Sl ah_0 h_0 ch_0)) (rv_load1 Try.underlying104 rfl rfl hc13) ?_
 refine st (v := (I (w64 ((h_0.length : Int) - 1)))) (rv_move rfl) ?_
 obtain ⟨xs14, hx15, h'⟩ := bind_some h
 clear h
 have h := h'; clear h'
 obtain ⟨a16, c17, hs18, -⟩ := (H.own 2 rfl).slice hx15
 refine st (v := (Sl a16 xs14 c17)) (rv_slice_h Try.underlying104 ti86 hs18 rfl rfl) ?_
 refine st (v := (pt bh_0 oh_0)) (rv_nilCheck rfl) ?_
 have hv20 := (H.own 2 rfl).view hx15 hs18
 replace H := (H.front (i := 2) rfl).turn (d := Ch.own 0 0 (Sl a16 xs14 c17) xs14) (fun _ => hv20.1) hv20.2; clear hv20
 refine st_exS (ex_store_box (k := 0) (cs := [(Sl ah_0 h_0 ch_0)]) (vs := [(Sl a16 xs14 c17)]) (cs' := [(Sl a16 xs14 c17)]) H (i := 2) rfl ti104 rfl rfl rfl rfl rfl (Nat.le_of_ble_eq_true rfl) (by simp [plain]) rfl) wn ?_
 rintro σ21 ⟨H, -⟩
 refine w_end ?_
 refine q_then ?_
 refine c_seq ?_
 refine rg ?_
 have hc22 := H.cells 2 rfl
 refine st (v := (.agg #[(I x3.1), (I x3.2)])) (rv_load (cs := [(I x3.1), (I x3.2)]) Try.underlying86 rfl ti86 rfl rfl hc22) ?_
 refine st (v := (.iface 86 (.agg #[(I x3.1), (I x3.2)]))) (rv_makeInterface Try.underlying86 rfl rfl) ?_
 refine st (v := (.iface 86 (.agg #[(I x3.1), (I x3.2)]))) (rv_assign rfl) ?_
 refine w_end ?_
 refine q_then ?_
 refine c_ret ?_
 obtain rfl := Option.some.inj h
 exact fin_ret (v := (.iface 86 (.agg #[(I x3.1), (I x3.2)]))) (results_ok Try.results230 (res_tmp (v := (.iface 86 (.agg #[(I x3.1), (I x3.2)]))) rfl res_nil) rfl) ⟨a16, c17, rfl, rfl⟩ (H.sel' [0, 1] rfl rfl)

theorem c_container_heap_Pop__impl_hitHeap {h_0 : List (Int × Int)} {ah_0 : Option Addr} {ch_0 : Nat} {loh_0 bh_0 oh_0 : Nat} {preh_0 sufh_0 : List Value} {r : ((Int) × (Int)) × (List (Int × Int))} (h : M.container_heap_Pop__impl_hitHeap h_0 = some r) :
    Cal2 Try.prog 158 [(.iface 166 (pt bh_0 oh_0))] [Ch.bx loh_0 bh_0 oh_0 [(Sl ah_0 h_0 ch_0)] preh_0 sufh_0, Ch.own 0 0 (Sl ah_0 h_0 ch_0) h_0] (fun n0 v L => ∃ (az1 : Option Addr), ∃ (cz2 : Nat), v = (.iface 86 (.agg #[(I r.1.1), (I r.1.2)])) ∧ L = [Ch.bx loh_0 bh_0 oh_0 [(Sl az1 r.2 cz2)] preh_0 sufh_0, Ch.own 0 0 (Sl az1 r.2 cz2) r.2]) := by
 refine cal2 (n := 15) Try.func158 rfl rfl rfl rfl ?_
 intro S0 σ0 n0 hn0 H
 unfold M.container_heap_Pop__impl_hitHeap at h
 refine c_seq ?_
 refine rg ?_
 refine st (v := .nilIface) (rv_assign rfl) ?_
 refine w_end ?_
 refine q_then ?_
 refine c_seq ?_
 refine rg ?_
 refine st (v := (.iface 166 (pt bh_0 oh_0))) (rv_move rfl) ?_
 obtain ⟨r1, hx2, h'⟩ := bind_some h
 clear h
 have h := h'; clear h'
 have hc3 := c_impl_hitHeap_Len (ah_0 := ah_0) (ch_0 := ch_0) hx2
 have hle := Nat.le_trans hn0 H.size
 refine st_call (cx_lend (Loan.lend Loan.nil) hc3 (ent_iv hc3.fn (by kernel_rfl) Try.underlying166 Try.underlying104 rfl rfl (H.cell (u := (Sl ah_0 h_0 ch_0)) (o' := oh_0) 0 0 rfl rfl rfl) rfl) (show Hp S0 σ0 _ ([Ch.own 0 0 (Sl ah_0 h_0 ch_0) h_0] ++ ([] ++ [Ch.bx loh_0 bh_0 oh_0 [(Sl ah_0 h_0 ch_0)] preh_0 sufh_0])) from (H.sel' [1, 0] rfl rfl)) (by rintro _ _ _ ⟨rfl, rfl⟩; exact trivial)) wn ?_
 rintro _ σ4 ⟨_, ⟨rfl, rfl⟩, H, -, -⟩
 replace H : Hp S0 σ0 σ4 [Ch.own 0 0 (Sl ah_0 h_0 ch_0) h_0, Ch.bx loh_0 bh_0 oh_0 [(Sl ah_0 h_0 ch_0)] preh_0 sufh_0] := H
 clear hle
 replace H : Hp S0 σ0 σ4 [Ch.own 0 0 (Sl ah_0 h_0 ch_0) h_0, Ch.bx loh_0 bh_0 oh_0 [(Sl ah_0 h_0 ch_0)] preh_0 sufh_0] := H
 refine st (v := (I (w64 (r1 - 1)))) (rv_sub (a := r1) (b := 1) rfl rfl) ?_
 refine st (v := (I (w64 (r1 - 1)))) (rv_assign rfl) ?_
 refine w_end ?_
 refine q_then ?_
 refine c_seq ?_
 refine rg ?_
 refine st (v := (.iface 166 (pt bh_0 oh_0))) (rv_move rfl) ?_
 refine st (v := (I (w64 (r1 - 1)))) (rv_move rfl) ?_
 obtain ⟨r5, hx6, h'⟩ := bind_some h
 clear h
 have h := h'; clear h'
 have hc7 := c_impl_hitHeap_Swap (ah_0 := ah_0) (ch_0 := ch_0) hx6
 refine st_call (cx_call hc7 (ent_iv hc7.fn (by kernel_rfl) Try.underlying166 Try.underlying104 rfl rfl (H.cell (u := (Sl ah_0 h_0 ch_0)) (o' := oh_0) 1 0 rfl rfl rfl) rfl) hn0 (show Hp S0 σ0 _ ([Ch.own 0 0 (Sl ah_0 h_0 ch_0) h_0] ++ [Ch.bx loh_0 bh_0 oh_0 [(Sl ah_0 h_0 ch_0)] preh_0 sufh_0]) from (H.sel' [0, 1] rfl rfl))) wn ?_
 rintro _ σ9 ⟨_, ⟨rfl, rfl, hn8⟩, H, -⟩
 replace H : Hp S0 σ0 σ9 [Ch.own 0 0 (Sl ah_0 r5 ch_0) r5, Ch.bx loh_0 bh_0 oh_0 [(Sl ah_0 h_0 ch_0)] preh_0 sufh_0] := H
 have hsl : (Sl ah_0 h_0 ch_0) = (Sl ah_0 r5 ch_0) := sl_len hn8.symm
 try rw [hsl]
 try rw [hsl] at H
 clear hsl
 refine w_end ?_
 refine q_then ?_
 refine c_seq ?_
 refine rg ?_
 refine st (v := (.iface 166 (pt bh_0 oh_0))) (rv_move rfl) ?_
 refine st (v := (I (w64 (r1 - 1)))) (rv_move rfl) ?_
 obtain ⟨r10, hx11, h'⟩ := bind_some h
 clear h
 have h := h'; clear h'
 have hc12 := c_container_heap_down__impl_hitHeap (loh_0 := loh_0) (bh_0 := bh_0) (oh_0 := oh_0) (preh_0 := preh_0) (sufh_0 := sufh_0) (ah_0 := ah_0) (ch_0 := ch_0) hx11
 refine st_call (cx_call hc12 (ent_f hc12.fn rfl) hn0 (show Hp S0 σ0 _ ([Ch.bx loh_0 bh_0 oh_0 [(Sl ah_0 r5 ch_0)] preh_0 sufh_0, Ch.own 0 0 (Sl ah_0 r5 ch_0) r5] ++ []) from (H.sel' [1, 0] rfl rfl))) wn ?_
 rintro _ σ15 ⟨_, ⟨a13, c14, rfl, rfl⟩, H, -⟩
 replace H : Hp S0 σ0 σ15 [Ch.bx loh_0 bh_0 oh_0 [(Sl a13 r10.2 c14)] preh_0 sufh_0, Ch.own 0 0 (Sl a13 r10.2 c14) r10.2] := H
 refine w_end ?_
 refine q_then ?_
 refine c_seq ?_
 refine rg ?_
 refine st (v := (.iface 166 (pt bh_0 oh_0))) (rv_move rfl) ?_
 obtain ⟨r16, hx17, h'⟩ := bind_some h
 clear h
 have h := h'; clear h'
 have hc18 := c_impl_hitHeap_Pop (loh_0 := loh_0) (bh_0 := bh_0) (oh_0 := oh_0) (preh_0 := preh_0) (sufh_0 := sufh_0) (ah_0 := a13) (ch_0 := c14) hx17
 refine st_call (cx_call hc18 (ent_ip hc18.fn (by kernel_rfl) Try.underlying166 rfl rfl) hn0 (show Hp S0 σ0 _ ([Ch.bx loh_0 bh_0 oh_0 [(Sl a13 r10.2 c14)] preh_0 sufh_0, Ch.own 0 0 (Sl a13 r10.2 c14) r10.2] ++ []) from (H.sel' [0, 1] rfl rfl))) wn ?_
 rintro _ σ21 ⟨_, ⟨a19, c20, rfl, rfl⟩, H, -⟩
 replace H : Hp S0 σ0 σ21 [Ch.bx loh_0 bh_0 oh_0 [(Sl a19 r16.2 c20)] preh_0 sufh_0, Ch.own 0 0 (Sl a19 r16.2 c20) r16.2] := H
 refine st (v := (.iface 86 (.agg #[(I r16.1.1), (I r16.1.2)]))) (rv_assign rfl) ?_
 refine w_end ?_
 refine q_then ?_
 refine c_ret ?_
 obtain rfl := Option.some.inj h
 exact fin_ret (v := (.iface 86 (.agg #[(I r16.1.1), (I r16.1.2)]))) (results_ok Try.results158 (res_tmp (v := (.iface 86 (.agg #[(I r16.1.1), (I r16.1.2)]))) rfl res_nil) rfl) ⟨a19, c20, rfl, rfl⟩ (H.sel' [0, 1] rfl rfl)

theorem c_impl_nearestHits_offer {n_0 : Int × (List (Int × Int))} {h_1 : Int × Int} {an_0_1 : Option Addr} {cn_0_1 : Nat} {lon_0 bn_0 on_0 : Nat} {pren_0 sufn_0 : List Value} {r : (Int × (List (Int × Int)))} (h : M.impl_nearestHits_offer n_0 h_1 = some r) :
    Cal2 Try.prog 136 [(pt bn_0 on_0), (.agg #[(I h_1.1), (I h_1.2)])] [Ch.bx lon_0 bn_0 on_0 [(I n_0.1), (Sl an_0_1 n_0.2 cn_0_1)] pren_0 sufn_0, Ch.own 0 0 (Sl an_0_1 n_0.2 cn_0_1) n_0.2] (fun n0 v L => ∃ (az1 : Option Addr), ∃ (cz2 : Nat), v = (.tuple #[]) ∧ L = [Ch.bx lon_0 bn_0 on_0 [(I r.1), (Sl az1 r.2 cz2)] pren_0 sufn_0, Ch.own 0 0 (Sl az1 r.2 cz2) r.2]) := by
 refine cal2 (n := 26) Try.func136 rfl rfl rfl rfl ?_
 intro S0 σ0 n0 hn0 H
 unfold M.impl_nearestHits_offer at h
 refine c_seq ?_
 refine rg ?_
 refine st_ex (ex_box (cs := [(I h_1.1), (I h_1.2)]) H hn0 rfl rfl) wn ?_
 rintro _ σ2 ⟨b1, rfl, H, -⟩
 refine w_end ?_
 refine q_then ?_
 refine c_seq ?_
 refine rgP (σ := σ2) 6 (by kernel_rfl) (by kernel_rfl) (by kernel_rfl) ?_
 refine sq (v := (pt bn_0 on_0)) (rv_move rfl) ?_
 refine sq (v := (pt bn_0 on_0)) (rv_nilCheck rfl) ?_
 refine sq (v := (pt bn_0 (on_0 + 1))) (rv_fieldAddr (off := 1) (ft := 104) Try.underlying106 rfl ti104 rfl rfl) ?_
 refine sq (v := (.iface 166 (pt bn_0 (on_0 + 1)))) (rv_makeInterface Try.underlying166 rfl rfl) ?_
 have hc3 := H.cells 0 rfl
 refine sq (v := (.agg #[(I h_1.1), (I h_1.2)])) (rv_load (cs := [(I h_1.1), (I h_1.2)]) Try.underlying86 rfl ti86 rfl rfl hc3) ?_
 refine sq (v := (.iface 86 (.agg #[(I h_1.1), (I h_1.2)]))) (rv_makeInterface Try.underlying86 rfl rfl) ?_
 refine sq_end ?_
 intro σ4 hm5
 replace H := H.grow (hm5.mono fun _ h => h); clear hm5
 replace H := Hp.focus (c1 := [(I n_0.1)]) (c2 := [(Sl an_0_1 n_0.2 cn_0_1)]) (c3 := []) (o' := (on_0 + 1)) H 1 rfl rfl
 obtain ⟨r6, hx7, h'⟩ := bind_some h
 clear h
 have h := h'; clear h'
 have hc8 := c_container_heap_Push__impl_hitHeap__impl_Hit (loh_0 := lon_0) (bh_0 := bn_0) (oh_0 := (on_0 + 1)) (preh_0 := (pren_0 ++ [(I n_0.1)])) (sufh_0 := ([] ++ sufn_0)) (ah_0 := an_0_1) (ch_0 := cn_0_1) hx7
 refine st_call (cx_call hc8 (ent_f hc8.fn rfl) hn0 (show Hp S0 σ0 _ ([Ch.bx lon_0 bn_0 (on_0 + 1) [(Sl an_0_1 n_0.2 cn_0_1)] (pren_0 ++ [(I n_0.1)]) ([] ++ sufn_0), Ch.own 0 0 (Sl an_0_1 n_0.2 cn_0_1) n_0.2] ++ [Ch.bx n0 b1 0 [(I h_1.1), (I h_1.2)] [] []]) from (H.sel' [0, 2, 1] rfl rfl))) wn ?_
 rintro _ σ11 ⟨_, ⟨a9, c10, rfl, rfl⟩, H, -⟩
 replace H : Hp S0 σ0 σ11 [Ch.bx lon_0 bn_0 (on_0 + 1) [(Sl a9 r6 c10)] (pren_0 ++ [(I n_0.1)]) ([] ++ sufn_0), Ch.own 0 0 (Sl a9 r6 c10) r6, Ch.bx n0 b1 0 [(I h_1.1), (I h_1.2)] [] []] := H
 replace H : Hp S0 σ0 σ11 [Ch.bx lon_0 bn_0 on_0 [(I n_0.1), (Sl a9 r6 c10)] pren_0 sufn_0, Ch.own 0 0 (Sl a9 r6 c10) r6, Ch.bx n0 b1 0 [(I h_1.1), (I h_1.2)] [] []] := Hp.unfocus (o := on_0) (c1 := [(I n_0.1)]) (c2 := [(Sl a9 r6 c10)]) (c3 := []) (pre := pren_0) (suf := sufn_0) H 0 rfl rfl
 refine w_end ?_
 refine q_then ?_
 refine c_seq ?_
 refine rgP (σ := σ11) 9 (by kernel_rfl) (by kernel_rfl) (by kernel_rfl) ?_
 refine sq (v := (pt bn_0 on_0)) (rv_move rfl) ?_
 refine sq (v := (pt bn_0 on_0)) (rv_nilCheck rfl) ?_
 refine sq (v := (pt bn_0 (on_0 + 1))) (rv_fieldAddr (off := 1) (ft := 104) Try.underlying106 rfl ti104 rfl rfl) ?_
 have hc12 := H.cell (u := (Sl a9 r6 c10)) (o' := (on_0 + 1)) 0 1 rfl rfl rfl
 refine sq (v := (Sl a9 r6 c10)) (rv_load1 Try.underlying104 rfl rfl hc12) ?_
 refine sq (v := (I (r6.length : Int))) (rv_len Try.underlying104 rfl) ?_
 refine sq (v := (pt bn_0 on_0)) (rv_move rfl) ?_
 refine sq (v := (pt bn_0 on_0)) (rv_nilCheck rfl) ?_
 refine sq (v := (pt bn_0 on_0)) (rv_fieldAddr (off := 0) (ft := 3) Try.underlying106 rfl ti3 rfl rfl) ?_
 have hc13 := H.cell (u := (I n_0.1)) (o' := on_0) 0 0 rfl rfl rfl
 refine sq (v := (I n_0.1)) (rv_load1 Try.underlying3 rfl rfl hc13) ?_
 refine sq_end ?_
 intro σ14 hm15
 replace H := H.grow (hm15.mono fun _ h => h); clear hm15
 refine st (v := (B (decide (n_0.1 < (r6.length : Int))))) (rv_gtr (a := (r6.length : Int)) (b := n_0.1) rfl rfl) ?_
 refine w_end ?_
 refine q_then ?_
 refine cd_cond (decide (n_0.1 < (r6.length : Int))) rfl (fun hb16 => ?_) (fun hb16 => ?_)
 ·replace h := bif_t hb16 h
  refine rg ?_
  refine st (v := (pt bn_0 on_0)) (rv_move rfl) ?_
  refine st (v := (pt bn_0 on_0)) (rv_nilCheck rfl) ?_
  refine st (v := (pt bn_0 (on_0 + 1))) (rv_fieldAddr (off := 1) (ft := 104) Try.underlying106 rfl ti104 rfl rfl) ?_
  refine st (v := (.iface 166 (pt bn_0 (on_0 + 1)))) (rv_makeInterface Try.underlying166 rfl rfl) ?_
  replace H := Hp.focus (c1 := [(I n_0.1)]) (c2 := [(Sl a9 r6 c10)]) (c3 := []) (o' := (on_0 + 1)) H 0 rfl rfl
  obtain ⟨r17, hx18, h'⟩ := bind_some h
  clear h
  have h := h'; clear h'
  have hc19 := c_container_heap_Pop__impl_hitHeap (loh_0 := lon_0) (bh_0 := bn_0) (oh_0 := (on_0 + 1)) (preh_0 := (pren_0 ++ [(I n_0.1)])) (sufh_0 := ([] ++ sufn_0)) (ah_0 := a9) (ch_0 := c10) hx18
  refine st_call (cx_call hc19 (ent_f hc19.fn rfl) hn0 (show Hp S0 σ0 _ ([Ch.bx lon_0 bn_0 (on_0 + 1) [(Sl a9 r6 c10)] (pren_0 ++ [(I n_0.1)]) ([] ++ sufn_0), Ch.own 0 0 (Sl a9 r6 c10) r6] ++ [Ch.bx n0 b1 0 [(I h_1.1), (I h_1.2)] [] []]) from (H.sel' [0, 1, 2] rfl rfl))) wn ?_
  rintro _ σ22 ⟨_, ⟨a20, c21, rfl, rfl⟩, H, -⟩
  replace H : Hp S0 σ0 σ22 [Ch.bx lon_0 bn_0 (on_0 + 1) [(Sl a20 r17.2 c21)] (pren_0 ++ [(I n_0.1)]) ([] ++ sufn_0), Ch.own 0 0 (Sl a20 r17.2 c21) r17.2, Ch.bx n0 b1 0 [(I h_1.1), (I h_1.2)] [] []] := H
  replace H : Hp S0 σ0 σ22 [Ch.bx lon_0 bn_0 on_0 [(I n_0.1), (Sl a20 r17.2 c21)] pren_0 sufn_0, Ch.own 0 0 (Sl a20 r17.2 c21) r17.2, Ch.bx n0 b1 0 [(I h_1.1), (I h_1.2)] [] []] := Hp.unfocus (o := on_0) (c1 := [(I n_0.1)]) (c2 := [(Sl a20 r17.2 c21)]) (c3 := []) (pre := pren_0) (suf := sufn_0) H 0 rfl rfl
  refine w_end ?_
  obtain rfl := Option.some.inj h
  exact fin_end (v := (.tuple #[])) (results_ok Try.results136 res_nil rfl) ⟨a20, c21, rfl, rfl⟩ (H.sel' [0, 1] rfl rfl)
 ·replace h := bif_f hb16 h
  refine c_skip ?_
  obtain rfl := Option.some.inj h
  exact fin_end (v := (.tuple #[])) (results_ok Try.results136 res_nil rfl) ⟨a9, c10, rfl, rfl⟩ (H.sel' [0, 1] rfl rfl)

theorem c_slices_xorshift_Next {r_0 : Int} {lor_0 br_0 or_0 : Nat} {prer_0 sufr_0 : List Value} {r : Int × Int} (h : M.slices_xorshift_Next r_0 = some r) :
    Cal2 Try.prog 191 [(pt br_0 or_0)] [Ch.bx lor_0 br_0 or_0 [(.int .u64 r_0)] prer_0 sufr_0] (fun n0 v L => v = (.int .u64 r.1) ∧ L = [Ch.bx lor_0 br_0 or_0 [(.int .u64 r.2)] prer_0 sufr_0]) := by
 refine cal2 (n := 33) Try.func191 rfl rfl rfl rfl ?_
 intro S0 σ0 n0 hn0 H
 unfold M.slices_xorshift_Next at h
 refine c_seq ?_
 refine rg ?_
 refine st (v := (.int .u64 0)) (rv_assign rfl) ?_
 refine w_end ?_
 refine q_then ?_
 refine c_seq ?_
 refine rgP (σ := σ0) 7 (by kernel_rfl) (by kernel_rfl) (by kernel_rfl) ?_
 refine sq (v := (pt br_0 or_0)) (rv_move rfl) ?_
 refine sq (v := (pt br_0 or_0)) (rv_nilCheck rfl) ?_
 have hc1 := H.cell (u := (.int .u64 r_0)) (o' := or_0) 0 0 rfl rfl rfl
 refine sq (v := (.int .u64 r_0)) (rv_load1 Try.underlying202 rfl rfl hc1) ?_
 refine sq (v := (pt br_0 or_0)) (rv_move rfl) ?_
 refine sq (v := (pt br_0 or_0)) (rv_nilCheck rfl) ?_
 have hc2 := H.cell (u := (.int .u64 r_0)) (o' := or_0) 0 0 rfl rfl rfl
 refine sq (v := (.int .u64 r_0)) (rv_load1 Try.underlying202 rfl rfl hc2) ?_
 refine sq (v := (.int .u64 (gshl .u64 r_0 13))) (rvk_shl (k := .u64) (k' := .u64) (a := r_0) (b := 13) rfl rfl (by decide)) ?_
 refine sq_end ?_
 intro σ3 hm4
 replace H := H.grow (hm4.mono fun _ h => h); clear hm4
 refine st (v := (.int .u64 (gxork .u64 r_0 (gshl .u64 r_0 13)))) (rvk_xor (k := .u64) (a := r_0) (b := (gshl .u64 r_0 13)) rfl rfl) ?_
 refine st (v := (pt br_0 or_0)) (rv_nilCheck rfl) ?_
 refine st_exS (ex_store_box (k := 0) (cs := [(.int .u64 r_0)]) (vs := [(.int .u64 (gxork .u64 r_0 (gshl .u64 r_0 13)))]) (cs' := [(.int .u64 (gxork .u64 r_0 (gshl .u64 r_0 13)))]) H (i := 0) rfl ti202 rfl rfl rfl rfl rfl (Nat.le_of_ble_eq_true rfl) (by simp [plain]) rfl) wn ?_
 rintro σ5 ⟨H, -⟩
 refine w_end ?_
 refine q_then ?_
 refine c_seq ?_
 refine rgP (σ := σ5) 7 (by kernel_rfl) (by kernel_rfl) (by kernel_rfl) ?_
 refine sq (v := (pt br_0 or_0)) (rv_move rfl) ?_
 refine sq (v := (pt br_0 or_0)) (rv_nilCheck rfl) ?_
 have hc6 := H.cell (u := (.int .u64 (gxork .u64 r_0 (gshl .u64 r_0 13)))) (o' := or_0) 0 0 rfl rfl rfl
 refine sq (v := (.int .u64 (gxork .u64 r_0 (gshl .u64 r_0 13)))) (rv_load1 Try.underlying202 rfl rfl hc6) ?_
 refine sq (v := (pt br_0 or_0)) (rv_move rfl) ?_
 refine sq (v := (pt br_0 or_0)) (rv_nilCheck rfl) ?_
 have hc7 := H.cell (u := (.int .u64 (gxork .u64 r_0 (gshl .u64 r_0 13)))) (o' := or_0) 0 0 rfl rfl rfl
 refine sq (v := (.int .u64 (gxork .u64 r_0 (gshl .u64 r_0 13)))) (rv_load1 Try.underlying202 rfl rfl hc7) ?_
 refine sq (v := (.int .u64 (gshr .u64 (gxork .u64 r_0 (gshl .u64 r_0 13)) 7))) (rvk_shr (k := .u64) (k' := .u64) (a := (gxork .u64 r_0 (gshl .u64 r_0 13))) (b := 7) rfl rfl (by decide)) ?_
 refine sq_end ?_
 intro σ8 hm9
 replace H := H.grow (hm9.mono fun _ h => h); clear hm9
 refine st (v := (.int .u64 (gxork .u64 (gxork .u64 r_0 (gshl .u64 r_0 13)) (gshr .u64 (gxork .u64 r_0 (gshl .u64 r_0 13)) 7)))) (rvk_xor (k := .u64) (a := (gxork .u64 r_0 (gshl .u64 r_0 13))) (b := (gshr .u64 (gxork .u64 r_0 (gshl .u64 r_0 13)) 7)) rfl rfl) ?_
 refine st (v := (pt br_0 or_0)) (rv_nilCheck rfl) ?_
 refine st_exS (ex_store_box (k := 0) (cs := [(.int .u64 (gxork .u64 r_0 (gshl .u64 r_0 13)))]) (vs := [(.int .u64 (gxork .u64 (gxork .u64 r_0 (gshl .u64 r_0 13)) (gshr .u64 (gxork .u64 r_0 (gshl .u64 r_0 13)) 7)))]) (cs' := [(.int .u64 (gxork .u64 (gxork .u64 r_0 (gshl .u64 r_0 13)) (gshr .u64 (gxork .u64 r_0 (gshl .u64 r_0 13)) 7)))]) H (i := 0) rfl ti202 rfl rfl rfl rfl rfl (Nat.le_of_ble_eq_true rfl) (by simp [plain]) rfl) wn ?_
 rintro σ10 ⟨H, -⟩
 refine w_end ?_
 refine q_then ?_
 refine c_seq ?_
 refine rgP (σ := σ10) 7 (by kernel_rfl) (by kernel_rfl) (by kernel_rfl) ?_
 refine sq (v := (pt br_0 or_0)) (rv_move rfl) ?_
 refine sq (v := (pt br_0 or_0)) (rv_nilCheck rfl) ?_
 have hc11 := H.cell (u := (.int .u64 (gxork .u64 (gxork .u64 r_0 (gshl .u64 r_0 13)) (gshr .u64 (gxork .u64 r_0 (gshl .u64 r_0 13)) 7)))) (o' := or_0) 0 0 rfl rfl rfl
 refine sq (v := (.int .u64 (gxork .u64 (gxork .u64 r_0 (gshl .u64 r_0 13)) (gshr .u64 (gxork .u64 r_0 (gshl .u64 r_0 13)) 7)))) (rv_load1 Try.underlying202 rfl rfl hc11) ?_
 refine sq (v := (pt br_0 or_0)) (rv_move rfl) ?_
 refine sq (v := (pt br_0 or_0)) (rv_nilCheck rfl) ?_
 have hc12 := H.cell (u := (.int .u64 (gxork .u64 (gxork .u64 r_0 (gshl .u64 r_0 13)) (gshr .u64 (gxork .u64 r_0 (gshl .u64 r_0 13)) 7)))) (o' := or_0) 0 0 rfl rfl rfl
 refine sq (v := (.int .u64 (gxork .u64 (gxork .u64 r_0 (gshl .u64 r_0 13)) (gshr .u64 (gxork .u64 r_0 (gshl .u64 r_0 13)) 7)))) (rv_load1 Try.underlying202 rfl rfl hc12) ?_
 refine sq (v := (.int .u64 (gshl .u64 (gxork .u64 (gxork .u64 r_0 (gshl .u64 r_0 13)) (gshr .u64 (gxork .u64 r_0 (gshl .u64 r_0 13)) 7)) 17))) (rvk_shl (k := .u64) (k' := .u64) (a := (gxork .u64 (gxork .u64 r_0 (gshl .u64 r_0 13)) (gshr .u64 (gxork .u64 r_0 (gshl .u64 r_0 13)) 7))) (b := 17) rfl rfl (by decide)) ?_
 refine sq_end ?_
 intro σ13 hm14
 replace H := H.grow (hm14.mono fun _ h => h); clear hm14
 refine st (v := (.int .u64 (gxork .u64 (gxork .u64 (gxork .u64 r_0 (gshl .u64 r_0 13)) (gshr .u64 (gxork .u64 r_0 (gshl .u64 r_0 13)) 7)) (gshl .u64 (gxork .u64 (gxork .u64 r_0 (gshl .u64 r_0 13)) (gshr .u64 (gxork .u64 r_0 (gshl .u64 r_0 13)) 7)) 17)))) (rvk_xor (k := .u64) (a := (gxork .u64 (gxork .u64 r_0 (gshl .u64 r_0 13)) (gshr .u64 (gxork .u64 r_0 (gshl .u64 r_0 13)) 7))) (b := (gshl .u64 (gxork .u64 (gxork .u64 r_0 (gshl .u64 r_0 13)) (gshr .u64 (gxork .u64 r_0 (gshl .u64 r_0 13)) 7)) 17)) rfl rfl) ?_
 refine st (v := (pt br_0 or_0)) (rv_nilCheck rfl) ?_
 refine st_exS (ex_store_box (k := 0) (cs := [(.int .u64 (gxork .u64 (gxork .u64 r_0 (gshl .u64 r_0 13)) (gshr .u64 (gxork .u64 r_0 (gshl .u64 r_0 13)) 7)))]) (vs := [(.int .u64 (gxork .u64 (gxork .u64 (gxork .u64 r_0 (gshl .u64 r_0 13)) (gshr .u64 (gxork .u64 r_0 (gshl .u64 r_0 13)) 7)) (gshl .u64 (gxork .u64 (gxork .u64 r_0 (gshl .u64 r_0 13)) (gshr .u64 (gxork .u64 r_0 (gshl .u64 r_0 13)) 7)) 17)))]) (cs' := [(.int .u64 (gxork .u64 (gxork .u64 (gxork .u64 r_0 (gshl .u64 r_0 13)) (gshr .u64 (gxork .u64 r_0 (gshl .u64 r_0 13)) 7)) (gshl .u64 (gxork .u64 (gxork .u64 r_0 (gshl .u64 r_0 13)) (gshr .u64 (gxork .u64 r_0 (gshl .u64 r_0 13)) 7)) 17)))]) H (i := 0) rfl ti202 rfl rfl rfl rfl rfl (Nat.le_of_ble_eq_true rfl) (by simp [plain]) rfl) wn ?_
 rintro σ15 ⟨H, -⟩
 refine w_end ?_
 refine q_then ?_
 refine c_seq ?_
 refine rg ?_
 refine st (v := (pt br_0 or_0)) (rv_move rfl) ?_
 refine st (v := (pt br_0 or_0)) (rv_nilCheck rfl) ?_
 have hc16 := H.cell (u := (.int .u64 (gxork .u64 (gxork .u64 (gxork .u64 r_0 (gshl .u64 r_0 13)) (gshr .u64 (gxork .u64 r_0 (gshl .u64 r_0 13)) 7)) (gshl .u64 (gxork .u64 (gxork .u64 r_0 (gshl .u64 r_0 13)) (gshr .u64 (gxork .u64 r_0 (gshl .u64 r_0 13)) 7)) 17)))) (o' := or_0) 0 0 rfl rfl rfl
 refine st (v := (.int .u64 (gxork .u64 (gxork .u64 (gxork .u64 r_0 (gshl .u64 r_0 13)) (gshr .u64 (gxork .u64 r_0 (gshl .u64 r_0 13)) 7)) (gshl .u64 (gxork .u64 (gxork .u64 r_0 (gshl .u64 r_0 13)) (gshr .u64 (gxork .u64 r_0 (gshl .u64 r_0 13)) 7)) 17)))) (rv_load1 Try.underlying202 rfl rfl hc16) ?_
 refine st (v := (.int .u64 (gxork .u64 (gxork .u64 (gxork .u64 r_0 (gshl .u64 r_0 13)) (gshr .u64 (gxork .u64 r_0 (gshl .u64 r_0 13)) 7)) (gshl .u64 (gxork .u64 (gxork .u64 r_0 (gshl .u64 r_0 13)) (gshr .u64 (gxork .u64 r_0 (gshl .u64 r_0 13)) 7)) 17)))) (rv_assign rfl) ?_
 refine w_end ?_
 refine q_then ?_
 refine c_ret ?_
 obtain rfl := Option.some.inj h
 exact fin_ret (v := (.int .u64 (gxork .u64 (gxork .u64 (gxork .u64 r_0 (gshl .u64 r_0 13)) (gshr .u64 (gxork .u64 r_0 (gshl .u64 r_0 13)) 7)) (gshl .u64 (gxork .u64 (gxork .u64 r_0 (gshl .u64 r_0 13)) (gshr .u64 (gxork .u64 r_0 (gshl .u64 r_0 13)) 7)) 17)))) (results_ok Try.results191 (res_tmp (v := (.int .u64 (gxork .u64 (gxork .u64 (gxork .u64 r_0 (gshl .u64 r_0 13)) (gshr .u64 (gxork .u64 r_0 (gshl .u64 r_0 13)) 7)) (gshl .u64 (gxork .u64 (gxork .u64 r_0 (gshl .u64 r_0 13)) (gshr .u64 (gxork .u64 r_0 (gshl .u64 r_0 13)) 7)) 17)))) rfl res_nil) rfl) ⟨rfl, rfl⟩ (H.sel' [0] rfl rfl)

theorem c_slices_Values_impl_hitHeap_impl_Hit {s_0 : List (Int × Int)} {as_0 : Option Addr} {cs_0 : Nat} {r : Unit} (h : M.slices_Values_impl_hitHeap_impl_Hit s_0 = some r) :
    Cal2 Try.prog 172 [(Sl as_0 s_0 cs_0)] [Ch.ro 0 (Sl as_0 s_0 cs_0) s_0] (fun n0 v L => ∃ (bz1 : Nat), v = (.func (.func 188) #[] #[(pt bz1 0)]) ∧ L = [Ch.bx n0 bz1 0 [(Sl as_0 s_0 cs_0)] [] []]) := by
 refine cal2 (n := 4) Try.func172 rfl rfl rfl rfl ?_
 intro S0 σ0 n0 hn0 H
 unfold M.slices_Values_impl_hitHeap_impl_Hit at h
 refine c_seq ?_
 refine rg ?_
 refine st_ex (ex_box (cs := [(Sl as_0 s_0 cs_0)]) H hn0 rfl rfl) wn ?_
 rintro _ σ2 ⟨b1, rfl, H, -⟩
 refine st (v := .nilFunc) (rv_assign rfl) ?_
 refine w_end ?_
 refine q_then ?_
 refine c_seq ?_
 refine rg ?_
 refine st (v := (.func (.func 188) #[] #[(pt b1 0)])) (rv_makeFunc (vs := [(pt b1 0)]) rfl) ?_
 refine st (v := (.func (.func 188) #[] #[(pt b1 0)])) (rv_assign rfl) ?_
 refine w_end ?_
 refine q_then ?_
 refine c_ret ?_
 obtain rfl := Option.some.inj h
 exact fin_ret (v := (.func (.func 188) #[] #[(pt b1 0)])) (results_ok Try.results172 (res_tmp (v := (.func (.func 188) #[] #[(pt b1 0)])) rfl res_nil) rfl) ⟨b1, rfl, rfl⟩ (H.sel' [0] rfl rfl)

/-- What the iterator does: it hands the elements over in their order. -/
theorem it_slices_AppendSeq_impl_Hit_impl_Hit__slices_Values_impl_hitHeap_impl_Hit_1 {b o c l : Nat} {a : Option Addr} {xs : List (Int × Int)} {J : Nat → St → Prop} (hst : ∀ {i σ σ'}, J i σ → Md (fun _ => False) σ σ' → J i σ')
    (hbx : ∀ {i σ}, J i σ → HCell σ.w.heap b o = some (Sl a xs c) ∧ Rd 0 σ (Sl a xs c) xs) (hn : xs.length ≤ 2147483648)
    (hy : ∀ i, (h : i < xs.length) → ∀ σ, J i σ → YieldAt Fence.wide 0 Try.prog l [(.agg #[(I (xs[i]).1), (I (xs[i]).2)])].toArray σ.w fun e W' => e = .returned (.bool true) ∧ ∃ σ', W' = σ'.w ∧ J (i + 1) σ')
    (σ : St) (h0 : J 0 σ) : CallsIn Fence.wide 0 Try.prog 188 [.func (.yield l) #[] #[], (pt b o)].toArray σ.w fun e W' => (∃ v, e = .returned v) ∧ ∃ σ', W' = σ'.w ∧ J xs.length σ' := by
  refine enterI (n := 16) Try.func188 rfl rfl rfl ?_
  refine wpIn_seq ?_
  obtain ⟨hc, -⟩ := hbx h0
  refine rgI ?_
  refine stI nofun (v := (Sl a xs c)) (rv_load1 Try.underlying104 rfl rfl hc) ?_
  refine stI nofun (v := (I (xs.length : Int))) (rv_len Try.underlying104 rfl) ?_
  refine stI nofun (v := (I 0)) (rv_move rfl) ?_
  refine endI ?_
  refine q_then ?_
  refine wpIn_block ?_
  refine wpIn_loop_ghost (fun k a' w' => ∃ i ρ σ, i + k = xs.length ∧ a' = fr 16 (updL ρ [(0, .func (.yield l) #[] #[]), (1, pt b o), (5, Sl a xs c), (6, I (xs.length : Int)), (7, I (i : Int))]) ∧ w' = σ.w ∧ J i σ) xs.length ⟨0, _, σ, by omega, fr_join ⟨rfl, rfl, rfl, rfl, rfl, trivial⟩, rfl, h0⟩ ?_
  clear hc h0
  rintro k _ _ ⟨i, ρ, σ, hik, rfl, rfl, hJ⟩
  refine wpIn_seq ?_
  refine rgI ?_
  refine stI nofun (v := (B (decide ((i : Int) < (xs.length : Int))))) (rv_lss (a := (i : Int)) (b := (xs.length : Int)) rfl rfl) ?_
  refine endI ?_
  refine q_then ?_
  refine wpIn_seq ?_
  refine cdI_cond (decide ((i : Int) < (xs.length : Int))) rfl (fun hb => ?_) (fun hb => ?_)
  · have hlt : i < xs.length := by have := of_decide_eq_true hb; omega
    refine wpIn_skip ?_
    refine q_then ?_
    refine wpIn_seq ?_
    refine wpIn_block ?_
    refine wpIn_seq ?_
    refine rgI ?_
    have hg : gidx xs (i : Int) = some xs[i] := gidx_at hlt
    obtain ⟨-, hR⟩ := hbx hJ
    obtain ⟨bx, ox, hi, hat⟩ := hR.ix hg
    obtain ⟨_, ⟨_, _, rfl, rfl, rfl⟩, hl, hcx⟩ := hat.cells
    refine stI nofun (v := (pt bx ox)) (rv_ix Try.underlying104 ti86 rfl rfl hi) ?_
    refine stI nofun (v := (.agg #[(I (xs[i]).1), (I (xs[i]).2)])) (rv_load (cs := [(I (xs[i]).1), (I (xs[i]).2)]) Try.underlying86 rfl ti86 rfl hl hcx) ?_
    have H : Hp (cov []) σ σ [] := Hp.begin trivial trivial
    refine stI_ex nofun (ex_alloc (lo := 0) H (Nat.zero_le _) ti86 rfl) ?_
    rintro _ σ2 ⟨b4, rfl, H, -⟩
    refine stI_exS nofun (ex_store_box (vs := [(I (xs[i]).1), (I (xs[i]).2)]) (k := 0) H (i := 0) rfl ti86 rfl rfl rfl rfl rfl (Nat.le_of_ble_eq_true rfl) (by simp [plain]) rfl) ?_
    rintro σ3 ⟨H, -⟩
    refine endI ?_
    refine q_then ?_
    refine wpIn_seq ?_
    refine rgI ?_
    refine stI nofun (v := (.func (.yield l) #[] #[])) (rv_move rfl) ?_
    have hc4 := H.cells 0 rfl
    refine stI nofun (v := (.agg #[(I (xs[i]).1), (I (xs[i]).2)])) (rv_load (cs := [(I (xs[i]).1), (I (xs[i]).2)]) Try.underlying86 rfl ti86 rfl rfl hc4) ?_
    refine stI_yield (args := [(.agg #[(I (xs[i]).1), (I (xs[i]).2)])]) rfl rfl (hy i hlt σ3 (hst hJ H.md)) ?_
    rintro e w' ⟨rfl, σ4, rfl, hJ4⟩
    refine ⟨_, rfl, ?_⟩
    refine stI nofun (v := (B (!true))) (rv_not rfl) ?_
    refine endI ?_
    refine q_then ?_
    refine cdI_cond false rfl (fun hb => by cases hb) (fun _ => ?_)
    refine wpIn_skip ?_
    refine q_blk ?_
    refine q_then ?_
    refine rgI ?_
    refine stI nofun (v := (I (w64 ((i : Int) + 1)))) (rv_add (a := (i : Int)) (b := 1) rfl rfl) ?_
    refine stI nofun (v := (I (w64 ((i : Int) + 1)))) (rv_move rfl) ?_
    refine endI ?_
    have e1 : w64 ((i : Int) + 1) = ((i + 1 : Nat) : Int) := w64_id (by omega) (by omega)
    rw [e1]
    refine q_then ?_
    exact ⟨k - 1, by omega, i + 1, _, σ4, by omega, fr_join ⟨rfl, rfl, rfl, rfl, rfl, trivial⟩, rfl, hJ4⟩
  · have hlt : ¬ i < xs.length := by have := of_decide_eq_false hb; omega
    have : i = xs.length := by omega
    subst this
    refine wpIn_exit ?_
    refine q_then_x ?_
    refine q_then_x ?_
    refine q_blk_hit ?_
    exact fin_plain' (v := .tuple #[]) (results_ok Try.results188 res_nil rfl) ⟨⟨_, rfl⟩, σ, rfl, hJ⟩
/-- append, over and over. -/
theorem c_slices_AppendSeq_impl_Hit_impl_Hit__slices_Values_impl_hitHeap_impl_Hit_1 {seq_1_0 : List (Int × Int)} {aseq_1_0 : Option Addr} {cseq_1_0 : Nat} {loseq_1_0 bseq_1_0 oseq_1_0 : Nat} {preseq_1_0 sufseq_1_0 : List Value} {r : List (Int × Int)} (h : M.slices_AppendSeq_impl_Hit_impl_Hit__slices_Values_impl_hitHeap_impl_Hit_1 seq_1_0 = some r) :
    Cal2 Try.prog 195 [.slice none 0 0, (.func (.func 188) #[] #[(pt bseq_1_0 oseq_1_0)])] [Ch.bx loseq_1_0 bseq_1_0 oseq_1_0 [(Sl aseq_1_0 seq_1_0 cseq_1_0)] preseq_1_0 sufseq_1_0, Ch.ro 0 (Sl aseq_1_0 seq_1_0 cseq_1_0) seq_1_0] (fun n0 v L => ∃ (az1 : Option Addr), ∃ (cz2 : Nat), v = (Sl az1 r cz2) ∧ L = [Ch.own n0 n0 (Sl az1 r cz2) r, Ch.bx loseq_1_0 bseq_1_0 oseq_1_0 [(Sl aseq_1_0 seq_1_0 cseq_1_0)] preseq_1_0 sufseq_1_0]) := by
  obtain ⟨hn, rfl⟩ := coll_some (show M.coll seq_1_0 = some r from h)
  refine ⟨⟨_, _, Try.func195, rfl, rfl⟩, fun σ0 n0 hn0 H => ?_⟩
  refine callsIn_wide.1 (enterI (n := 13) Try.func195 rfl rfl rfl ?_)
  refine wpIn_seq ?_
  refine rgI ?_
  refine stI_ex nofun (ex_box (cs := [.slice none 0 0]) H hn0 rfl rfl) ?_
  rintro _ σ1 ⟨b1, rfl, H, -⟩
  refine stI nofun (v := (.slice none 0 0)) (rv_assign rfl) ?_
  refine endI ?_
  refine q_then ?_
  refine wpIn_seq ?_
  refine wpIn_seq ?_
  refine rgI ?_
  refine stI nofun (v := (.func (.func 188) #[] #[(pt bseq_1_0 oseq_1_0)])) (rv_move rfl) ?_
  refine endI ?_
  refine q_then ?_
  refine wpIn_block ?_
  replace H := H.nilOwn (Int × Int) n0 n0
  refine wp_rangeF (gf := 188) (lb := #[(pt bseq_1_0 oseq_1_0)]) (N := r.length) (encs := fun i => [(.agg #[(I (r.getD i (0, 0)).1), (I (r.getD i (0, 0)).2)])].toArray) (by rw [fr_eval]; rfl) (eg_of ⟨_, _, Try.func188, rfl, rfl⟩) (fun _ _ => rfl)
    (fun i L => ∃ a' c', L = [Ch.own n0 n0 (Sl a' (r.take i) c') (r.take i), Ch.bx n0 b1 0 [(Sl a' (r.take i) c')] [] [], Ch.bx loseq_1_0 bseq_1_0 oseq_1_0 [(Sl aseq_1_0 r cseq_1_0)] preseq_1_0 sufseq_1_0, Ch.ro 0 (Sl aseq_1_0 r cseq_1_0) r]) ⟨none, 0, rfl⟩ H ?_ ?_ ?_
  · intro l J hst hJ hy σ h0
    refine it_slices_AppendSeq_impl_Hit_impl_Hit__slices_Values_impl_hitHeap_impl_Hit_1 (J := J) (a := aseq_1_0) (c := cseq_1_0) hst (fun {i σ} h => ?_) hn (fun i hi σ h => ?_) σ h0
    · obtain ⟨L, R, ⟨a', c', rfl⟩, H⟩ := hJ h
      have H2 := H.drop R
      exact ⟨H2.cells 2 rfl 0 (by simp), (H2.ro 3 rfl).rd⟩
    · have := hy i hi σ h
      simpa [List.getD, hi] using this
  · rintro l D i rc rc' hi σ _ ⟨a', c', rfl⟩ H
    have hgd : r.getD i (0, 0) = r[i] := by simp [List.getD, hi]
    simp only [hgd]
    rw [round_fr]
    refine rgI ?_
    refine stI_ex nofun (ex_alloc (lo := n0) H hn0 ti86 rfl) ?_
    rintro _ σ2 ⟨b5, rfl, H, -⟩
    refine stI_exS nofun (ex_store_box (vs := [(I (r[i]).1), (I (r[i]).2)]) (cs' := [(I (r[i]).1), (I (r[i]).2)]) (k := 0) H (i := 0) rfl ti86 rfl rfl rfl rfl rfl (Nat.le_of_ble_eq_true rfl) (by simp [plain]) rfl) ?_
    rintro σ3 ⟨H, -⟩
    refine endI ?_
    refine q_then ?_
    refine ⟨σ3, _, rfl, H.sel' [1, 2, 0, 3, 4, 5, 6] rfl rfl, ?_⟩
    clear H
    intro σ4 H
    refine wpIn_block ?_
    refine rgI ?_
    have hc1 := H.cells 4 rfl
    refine stI nofun (v := (Sl a' (r.take i) c')) (rv_load1 Try.underlying32 rfl rfl (hc1 0 (by simp))) ?_
    have hc5 := H.cells 2 rfl
    refine stI nofun (v := (.agg #[(I (r[i]).1), (I (r[i]).2)])) (rv_load (cs := [(I (r[i]).1), (I (r[i]).2)]) Try.underlying86 rfl ti86 rfl rfl hc5) ?_
    refine stI_ex nofun (ex_buildSlice (lo := n0) (el := n0) (xs := ([((r[i]).1, (r[i]).2)] : List (Int × Int))) (ps := [(0, (.agg #[(I (r[i]).1), (I (r[i]).2)]))]) (cs := [(I (r[i]).1), (I (r[i]).2)]) H hn0 Try.underlying32 ti86 rfl rfl (by kernel_rfl) (.cons (c := [(I (r[i]).1), (I (r[i]).2)]) ⟨_, _, rfl, rfl, rfl⟩ .nil) rfl) ?_
    rintro _ σ5 ⟨b10, rfl, H, -⟩
    refine stI_ex nofun (ex_append H (i := 4) rfl Try.underlying32 Try.underlying32 ti86 rfl rfl (by decide) (H.own 0 rfl).rd (take_gapp hi hn) hn0 rfl rfl) ?_
    rintro _ σ6 ⟨a2, c2, rfl, H, -⟩
    refine stI_exS nofun (ex_store_box (vs := [(Sl a2 (r.take (i + 1)) c2)]) (cs' := [(Sl a2 (r.take (i + 1)) c2)]) (k := 0) H (i := 5) rfl ti32 rfl rfl rfl rfl rfl (Nat.le_of_ble_eq_true rfl) (by simp [plain, Sl]) rfl) ?_
    rintro σ7 ⟨H, -⟩
    refine endI ?_
    refine q_blk ?_
    exact ⟨rfl, σ7, _, rfl, ⟨a2, c2, rfl⟩, H.sel' [3, 4, 1, 0, 6, 7] rfl rfl⟩
  · rintro D σ _ ⟨a', c', rfl⟩ H
    rw [List.take_length] at H
    refine q_blk ?_
    refine q_then ?_
    refine wpIn_seq ?_
    refine rgD (ds := [{ target := .collected D, args := #[] }]) ?_
    have hc1 := H.cells 2 rfl
    refine stD nofun (v := (Sl a' r c')) (rv_load1 Try.underlying32 rfl rfl (hc1 0 (by simp))) ?_
    refine stD nofun (v := (Sl a' r c')) (rv_assign rfl) ?_
    refine endD ?_
    refine q_then ?_
    refine wpIn_ret ?_
    exact fin_mark (v := Sl a' r c') H (results_ok Try.results195 (res_tmp (v := Sl a' r c') rfl res_nil) rfl) ⟨_, _, _, rfl, rfl, ⟨a', c', rfl, rfl⟩, (H.putDf _).sel' [0, 2] rfl rfl⟩

theorem c_slices_Collect_impl_Hit__slices_Values_impl_hitHeap_impl_Hit_1 {seq_0_0 : List (Int × Int)} {aseq_0_0 : Option Addr} {cseq_0_0 : Nat} {loseq_0_0 bseq_0_0 oseq_0_0 : Nat} {preseq_0_0 sufseq_0_0 : List Value} {r : (List (Int × Int))} (h : M.slices_Collect_impl_Hit__slices_Values_impl_hitHeap_impl_Hit_1 seq_0_0 = some r) :
    Cal2 Try.prog 186 [(.func (.func 188) #[] #[(pt bseq_0_0 oseq_0_0)])] [Ch.bx loseq_0_0 bseq_0_0 oseq_0_0 [(Sl aseq_0_0 seq_0_0 cseq_0_0)] preseq_0_0 sufseq_0_0, Ch.ro 0 (Sl aseq_0_0 seq_0_0 cseq_0_0) seq_0_0] (fun n0 v L => ∃ (az1 : Option Addr), ∃ (cz2 : Nat), v = (Sl az1 r cz2) ∧ L = [Ch.own n0 n0 (Sl az1 r cz2) r, Ch.bx loseq_0_0 bseq_0_0 oseq_0_0 [(Sl aseq_0_0 seq_0_0 cseq_0_0)] preseq_0_0 sufseq_0_0]) := by
 refine cal2 (n := 5) Try.func186 rfl rfl rfl rfl ?_
 intro S0 σ0 n0 hn0 H
 unfold M.slices_Collect_impl_Hit__slices_Values_impl_hitHeap_impl_Hit_1 at h
 refine c_seq ?_
 refine rg ?_
 refine st (v := (.slice none 0 0)) (rv_assign rfl) ?_
 refine w_end ?_
 refine q_then ?_
 refine c_seq ?_
 refine rg ?_
 refine st (v := (.func (.func 188) #[] #[(pt bseq_0_0 oseq_0_0)])) (rv_move rfl) ?_
 obtain ⟨r1, hx2, h'⟩ := bind_some h
 clear h
 have h := h'; clear h'
 have hc3 := c_slices_AppendSeq_impl_Hit_impl_Hit__slices_Values_impl_hitHeap_impl_Hit_1 (loseq_1_0 := loseq_0_0) (bseq_1_0 := bseq_0_0) (oseq_1_0 := oseq_0_0) (preseq_1_0 := preseq_0_0) (sufseq_1_0 := sufseq_0_0) (aseq_1_0 := aseq_0_0) (cseq_1_0 := cseq_0_0) hx2
 refine st_call (cx_call hc3 (ent_f hc3.fn rfl) hn0 (show Hp S0 σ0 _ ([Ch.bx loseq_0_0 bseq_0_0 oseq_0_0 [(Sl aseq_0_0 seq_0_0 cseq_0_0)] preseq_0_0 sufseq_0_0, Ch.ro 0 (Sl aseq_0_0 seq_0_0 cseq_0_0) seq_0_0] ++ [Ch.ro 0 (Sl aseq_0_0 seq_0_0 cseq_0_0) seq_0_0]) from (H.sel' [0, 1, 1] rfl rfl))) wn ?_
 rintro _ σ6 ⟨_, ⟨a4, c5, rfl, rfl⟩, H, -⟩
 replace H : Hp S0 σ0 σ6 [Ch.own n0 n0 (Sl a4 r1 c5) r1, Ch.bx loseq_0_0 bseq_0_0 oseq_0_0 [(Sl aseq_0_0 seq_0_0 cseq_0_0)] preseq_0_0 sufseq_0_0, Ch.ro 0 (Sl aseq_0_0 seq_0_0 cseq_0_0) seq_0_0] := H
 refine st (v := (Sl a4 r1 c5)) (rv_assign rfl) ?_
 refine w_end ?_
 refine q_then ?_
 refine c_ret ?_
 obtain rfl := Option.some.inj h
 exact fin_ret (v := (Sl a4 r1 c5)) (results_ok Try.results186 (res_tmp (v := (Sl a4 r1 c5)) rfl res_nil) rfl) ⟨a4, c5, rfl, rfl⟩ (H.sel' [0, 1] rfl rfl)

def sort187_ren : Go.Shelf.Ren := ⟨fun | 6 => 187 | 15 => 166 | 14 => 196 | 28 => 182 | 29 => 183 | 20 => 199 | 21 => 200 | 22 => 201 | 23 => 202 | 24 => 203 | 25 => 204 | 26 => 205 | 27 => 206 | 46 => 207 | 47 => 190 | 48 => 191 | 49 => 208 | 50 => 209 | 57 => 210 | n => n, fun | 22 => 32 | 24 => 86 | 25 => 162 | 3 => 3 | 39 => 160 | 0 => 0 | 53 => 194 | 55 => 196 | 4 => 4 | 46 => 188 | 45 => 187 | 50 => 91 | 5 => 5 | 9 => 9 | 66 => 202 | 70 => 206 | 76 => 210 | 77 => 211 | n => n, fun | n => n⟩
theorem sort187 : Go.Proofs.SlLaysF0.n6 Try.prog sort187_ren := {
  mixed := by kernel_rfl
  f6 := ⟨Try.f187.name, by decide, Try.func187.trans (congrArg some (by kernel_rfl))⟩
  f14 := ⟨Try.f196.name, by decide, Try.func196.trans (congrArg some (by kernel_rfl))⟩
  f15 := Try.func166.trans (congrArg some (by kernel_rfl))
  f20 := ⟨Try.f199.name, by decide, Try.func199.trans (congrArg some (by kernel_rfl))⟩
  f21 := ⟨Try.f200.name, by decide, Try.func200.trans (congrArg some (by kernel_rfl))⟩
  f22 := ⟨Try.f201.name, by decide, Try.func201.trans (congrArg some (by kernel_rfl))⟩
  f23 := ⟨Try.f202.name, by decide, Try.func202.trans (congrArg some (by kernel_rfl))⟩
  f24 := ⟨Try.f203.name, by decide, Try.func203.trans (congrArg some (by kernel_rfl))⟩
  f25 := ⟨Try.f204.name, by decide, Try.func204.trans (congrArg some (by kernel_rfl))⟩
  f26 := ⟨Try.f205.name, by decide, Try.func205.trans (congrArg some (by kernel_rfl))⟩
  f27 := ⟨Try.f206.name, by decide, Try.func206.trans (congrArg some (by kernel_rfl))⟩
  f28 := Try.func182.trans (congrArg some (by kernel_rfl))
  f29 := Try.func183.trans (congrArg some (by kernel_rfl))
  f46 := ⟨Try.f207.name, by decide, Try.func207.trans (congrArg some (by kernel_rfl))⟩
  f47 := Try.func190.trans (congrArg some (by kernel_rfl))
  f48 := Try.func191.trans (congrArg some (by kernel_rfl))
  f49 := ⟨Try.f208.name, by decide, Try.func208.trans (congrArg some (by kernel_rfl))⟩
  f50 := ⟨Try.f209.name, by decide, Try.func209.trans (congrArg some (by kernel_rfl))⟩
  f57 := ⟨Try.f210.name, by decide, Try.func210.trans (congrArg some (by kernel_rfl))⟩
  t0 := Try.underlying0
  a0 := Try.isAgg0
  z0 := Try.sizeOf0
  v0 := Try.zeroValue0
  t3 := Try.underlying3
  a3 := Try.isAgg3
  z3 := Try.sizeOf3
  v3 := Try.zeroValue3
  t4 := Try.underlying4
  a4 := Try.isAgg4
  z4 := Try.sizeOf4
  v4 := Try.zeroValue4
  t5 := Try.underlying5
  a5 := Try.isAgg5
  z5 := Try.sizeOf5
  v5 := Try.zeroValue5
  t9 := Try.underlying9
  a9 := Try.isAgg9
  z9 := Try.sizeOf9
  v9 := Try.zeroValue9
  t22 := Try.underlying32
  a22 := Try.isAgg32
  z22 := Try.sizeOf32
  v22 := Try.zeroValue32
  t25 := Try.underlying162
  a25 := Try.isAgg162
  z25 := Try.sizeOf162
  v25 := Try.zeroValue162
  t39 := Try.underlying160
  a39 := Try.isAgg160
  z39 := Try.sizeOf160
  v39 := Try.zeroValue160
  t45 := Try.underlying187
  a45 := Try.isAgg187
  z45 := Try.sizeOf187
  v45 := Try.zeroValue187
  t46 := Try.underlying188
  a46 := Try.isAgg188
  z46 := Try.sizeOf188
  v46 := Try.zeroValue188
  t50 := Try.underlying91
  a50 := Try.isAgg91
  z50 := Try.sizeOf91
  v50 := Try.zeroValue91
  t53 := Try.underlying194
  a53 := Try.isAgg194
  z53 := Try.sizeOf194
  v53 := Try.zeroValue194
  t55 := Try.underlying196
  a55 := Try.isAgg196
  z55 := Try.sizeOf196
  v55 := Try.zeroValue196
  t66 := Try.underlying202
  a66 := Try.isAgg202
  z66 := Try.sizeOf202
  v66 := Try.zeroValue202
  t70 := Try.underlying206
  a70 := Try.isAgg206
  z70 := Try.sizeOf206
  v70 := Try.zeroValue206
  t76 := Try.underlying210
  a76 := Try.isAgg210
  z76 := Try.sizeOf210
  v76 := Try.zeroValue210
  t77 := Try.underlying211
  a77 := Try.isAgg211
  z77 := Try.sizeOf211
  v77 := Try.zeroValue211 }

theorem c_slices_SortFunc_impl_Hit_impl_Hit__impl_compareHits {x_0 : List (Int × Int)} {ax_0 : Option Addr} {cx_0 : Nat} {r : List (Int × Int)} (h : M.slices_SortFunc_impl_Hit_impl_Hit__impl_compareHits x_0 = some r) :
    Cal2 Try.prog 187 [(Sl ax_0 x_0 cx_0), (.func (.func 154) #[] #[])] [Ch.own 0 0 (Sl ax_0 x_0 cx_0) x_0] (fun n0 v L => v = (.tuple #[]) ∧ L = [Ch.own 0 0 (Sl ax_0 r cx_0) r] ∧ r.length = x_0.length) := by
 obtain ⟨hn, hs, hL, rfl⟩ := sortD_some h
 have hE : ∀ σ σ' : St, Ext σ σ' → (True) → (True) := fun _ _ _ hp => hp
 have hB : ∀ σ : St, allAs σ [] → apart [] → ∃ σp, Pb (cov []) σ σp ∧ True := fun σ _ _ => ⟨σ, ⟨rfl, fun _ _ => rfl, fun _ => Nat.le_refl _⟩, trivial⟩
 have hC : ∀ σ : St, (True) → ∀ x ∈ x_0, ∀ y ∈ x_0, ∀ cx cy, Rp.rp 0 σ cx x → Rp.rp 0 σ cy y → Calls Try.prog 154 ([Value.agg cx.toArray, Value.agg cy.toArray] ++ []).toArray σ.w fun e w' => e = .returned (I ((M.impl_compareHits (x.1, x.2) (y.1, y.2)).getD 0)) ∧ ∃ q os, w' = Go.Sort.grow (σ.w.drewN q) os := by
     intro σ hp x hx y hy cx cy rx ry
     obtain ⟨r, hr⟩ := hs x hx y hy
     obtain ⟨_, _, rfl, rfl, rfl⟩ := rx
     obtain ⟨_, _, rfl, rfl, rfl⟩ := ry
     have hc := c_impl_compareHits  hr
     refine (hc.runs σ 0 (Nat.zero_le _) (Hp.begin trivial trivial)).mono ?_
     rintro e w' ⟨v, σ', L', rfl, rfl, ⟨rfl, -⟩, H⟩
     exact ⟨by rw [hr]; rfl, (H.md.mono fun i => fun h => h).grown⟩
 refine (sort_cal2 (α := (Int × Int)) sort187 Try.isAgg86 Try.sizeOf86 (xs := x_0) (a := ax_0) (c := cx_0) (g := 154) (cb := []) (B := []) (fun x y => (M.impl_compareHits (x.1, x.2) (y.1, y.2)).getD 0) hL hn ⟨_, _, Try.func154, rfl, rfl⟩ _ hE hB hC).conv ?_
 rintro m v L ⟨rfl, rfl⟩
 exact ⟨_, ⟨rfl, rfl, sortL_len⟩, fun H => H.sel' [0] rfl rfl⟩

theorem c_slices_SortedFunc_impl_Hit__slices_Values_impl_hitHeap_impl_Hit_1__impl_compareHits {seq_0_0 : List (Int × Int)} {aseq_0_0 : Option Addr} {cseq_0_0 : Nat} {loseq_0_0 bseq_0_0 oseq_0_0 : Nat} {preseq_0_0 sufseq_0_0 : List Value} {r : (List (Int × Int))} (h : M.slices_SortedFunc_impl_Hit__slices_Values_impl_hitHeap_impl_Hit_1__impl_compareHits seq_0_0 = some r) :
    Cal2 Try.prog 171 [(.func (.func 188) #[] #[(pt bseq_0_0 oseq_0_0)]), (.func (.func 154) #[] #[])] [Ch.bx loseq_0_0 bseq_0_0 oseq_0_0 [(Sl aseq_0_0 seq_0_0 cseq_0_0)] preseq_0_0 sufseq_0_0, Ch.ro 0 (Sl aseq_0_0 seq_0_0 cseq_0_0) seq_0_0] (fun n0 v L => ∃ (az1 : Option Addr), ∃ (cz2 : Nat), v = (Sl az1 r cz2) ∧ L = [Ch.own 0 n0 (Sl az1 r cz2) r, Ch.bx loseq_0_0 bseq_0_0 oseq_0_0 [(Sl aseq_0_0 seq_0_0 cseq_0_0)] preseq_0_0 sufseq_0_0]) := by
 refine cal2 (n := 12) Try.func171 rfl rfl rfl rfl ?_
 intro S0 σ0 n0 hn0 H
 unfold M.slices_SortedFunc_impl_Hit__slices_Values_impl_hitHeap_impl_Hit_1__impl_compareHits at h
 refine c_seq ?_
 refine rg ?_
 refine st (v := (.slice none 0 0)) (rv_assign rfl) ?_
 refine w_end ?_
 refine q_then ?_
 refine c_seq ?_
 refine rg ?_
 refine st (v := (.func (.func 188) #[] #[(pt bseq_0_0 oseq_0_0)])) (rv_move rfl) ?_
 obtain ⟨r1, hx2, h'⟩ := bind_some h
 clear h
 have h := h'; clear h'
 have hc3 := c_slices_Collect_impl_Hit__slices_Values_impl_hitHeap_impl_Hit_1 (loseq_0_0 := loseq_0_0) (bseq_0_0 := bseq_0_0) (oseq_0_0 := oseq_0_0) (preseq_0_0 := preseq_0_0) (sufseq_0_0 := sufseq_0_0) (aseq_0_0 := aseq_0_0) (cseq_0_0 := cseq_0_0) hx2
 refine st_call (cx_call hc3 (ent_f hc3.fn rfl) hn0 (show Hp S0 σ0 _ ([Ch.bx loseq_0_0 bseq_0_0 oseq_0_0 [(Sl aseq_0_0 seq_0_0 cseq_0_0)] preseq_0_0 sufseq_0_0, Ch.ro 0 (Sl aseq_0_0 seq_0_0 cseq_0_0) seq_0_0] ++ [Ch.ro 0 (Sl aseq_0_0 seq_0_0 cseq_0_0) seq_0_0]) from (H.sel' [0, 1, 1] rfl rfl))) wn ?_
 rintro _ σ6 ⟨_, ⟨a4, c5, rfl, rfl⟩, H, -⟩
 replace H : Hp S0 σ0 σ6 [Ch.own n0 n0 (Sl a4 r1 c5) r1, Ch.bx loseq_0_0 bseq_0_0 oseq_0_0 [(Sl aseq_0_0 seq_0_0 cseq_0_0)] preseq_0_0 sufseq_0_0, Ch.ro 0 (Sl aseq_0_0 seq_0_0 cseq_0_0) seq_0_0] := H
 refine st (v := (Sl a4 r1 c5)) (rv_assign rfl) ?_
 refine w_end ?_
 refine q_then ?_
 refine c_seq ?_
 refine rg ?_
 refine st (v := (Sl a4 r1 c5)) (rv_move rfl) ?_
 refine st (v := (.func (.func 154) #[] #[])) (rv_move rfl) ?_
 replace H := H.ownLow 0 0 0 rfl (Nat.zero_le _) (Nat.zero_le _)
 obtain ⟨r7, hx8, h'⟩ := bind_some h
 clear h
 have h := h'; clear h'
 have hc9 := c_slices_SortFunc_impl_Hit_impl_Hit__impl_compareHits (ax_0 := a4) (cx_0 := c5) hx8
 refine st_call (cx_call hc9 (ent_f hc9.fn rfl) hn0 (show Hp S0 σ0 _ ([Ch.own 0 0 (Sl a4 r1 c5) r1] ++ [Ch.bx loseq_0_0 bseq_0_0 oseq_0_0 [(Sl aseq_0_0 seq_0_0 cseq_0_0)] preseq_0_0 sufseq_0_0, Ch.ro 0 (Sl aseq_0_0 seq_0_0 cseq_0_0) seq_0_0]) from (H.sel' [0, 1, 2] rfl rfl))) wn ?_
 rintro _ σ11 ⟨_, ⟨rfl, rfl, hn10⟩, H, -⟩
 replace H : Hp S0 σ0 σ11 [Ch.own 0 0 (Sl a4 r7 c5) r7, Ch.bx loseq_0_0 bseq_0_0 oseq_0_0 [(Sl aseq_0_0 seq_0_0 cseq_0_0)] preseq_0_0 sufseq_0_0, Ch.ro 0 (Sl aseq_0_0 seq_0_0 cseq_0_0) seq_0_0] := H
 have hsl : (Sl a4 r1 c5) = (Sl a4 r7 c5) := sl_len hn10.symm
 try rw [hsl]
 try rw [hsl] at H
 clear hsl
 refine w_end ?_
 refine q_then ?_
 refine c_seq ?_
 refine rg ?_
 refine st (v := (Sl a4 r7 c5)) (rv_move rfl) ?_
 refine st (v := (Sl a4 r7 c5)) (rv_assign rfl) ?_
 refine w_end ?_
 refine q_then ?_
 refine c_ret ?_
 replace H := H.ownSc 0 0 n0 rfl (Nat.le_refl _)
 obtain rfl := Option.some.inj h
 exact fin_ret (v := (Sl a4 r7 c5)) (results_ok Try.results171 (res_tmp (v := (Sl a4 r7 c5)) rfl res_nil) rfl) ⟨a4, c5, rfl, rfl⟩ (H.sel' [0, 1] rfl rfl)

theorem c_impl_nearestHits_inOrder {n_0 : Int × (List (Int × Int))} {an_0_1 : Option Addr} {cn_0_1 : Nat} {lon_0 bn_0 on_0 : Nat} {pren_0 sufn_0 : List Value} {r : (List (Int × Int))} (h : M.impl_nearestHits_inOrder n_0 = some r) :
    Cal2 Try.prog 163 [(pt bn_0 on_0)] [Ch.bx lon_0 bn_0 on_0 [(I n_0.1), (Sl an_0_1 n_0.2 cn_0_1)] pren_0 sufn_0, Ch.ro 0 (Sl an_0_1 n_0.2 cn_0_1) n_0.2] (fun n0 v L => ∃ (az1 : Option Addr), ∃ (cz2 : Nat), v = (Sl az1 r cz2) ∧ L = [Ch.own 0 n0 (Sl az1 r cz2) r, Ch.bx lon_0 bn_0 on_0 [(I n_0.1), (Sl an_0_1 n_0.2 cn_0_1)] pren_0 sufn_0]) := by
 refine cal2 (n := 9) Try.func163 rfl rfl rfl rfl ?_
 intro S0 σ0 n0 hn0 H
 unfold M.impl_nearestHits_inOrder at h
 refine c_seq ?_
 refine rg ?_
 refine st (v := (.slice none 0 0)) (rv_assign rfl) ?_
 refine w_end ?_
 refine q_then ?_
 refine c_seq ?_
 refine rg ?_
 refine st (v := (pt bn_0 on_0)) (rv_move rfl) ?_
 refine st (v := (pt bn_0 on_0)) (rv_nilCheck rfl) ?_
 refine st (v := (pt bn_0 (on_0 + 1))) (rv_fieldAddr (off := 1) (ft := 104) Try.underlying106 rfl ti104 rfl rfl) ?_
 have hc1 := H.cell (u := (Sl an_0_1 n_0.2 cn_0_1)) (o' := (on_0 + 1)) 0 1 rfl rfl rfl
 refine st (v := (Sl an_0_1 n_0.2 cn_0_1)) (rv_load1 Try.underlying104 rfl rfl hc1) ?_
 obtain ⟨r2, hx3, h'⟩ := bind_some h
 clear h
 have h := h'; clear h'
 have hc4 := c_slices_Values_impl_hitHeap_impl_Hit (as_0 := an_0_1) (cs_0 := cn_0_1) hx3
 refine st_call (cx_call hc4 (ent_f hc4.fn rfl) hn0 (show Hp S0 σ0 _ ([Ch.ro 0 (Sl an_0_1 n_0.2 cn_0_1) n_0.2] ++ [Ch.bx lon_0 bn_0 on_0 [(I n_0.1), (Sl an_0_1 n_0.2 cn_0_1)] pren_0 sufn_0, Ch.ro 0 (Sl an_0_1 n_0.2 cn_0_1) n_0.2]) from (H.sel' [1, 0, 1] rfl rfl))) wn ?_
 rintro _ σ6 ⟨_, ⟨b5, rfl, rfl⟩, H, -⟩
 replace H : Hp S0 σ0 σ6 [Ch.bx n0 b5 0 [(Sl an_0_1 n_0.2 cn_0_1)] [] [], Ch.bx lon_0 bn_0 on_0 [(I n_0.1), (Sl an_0_1 n_0.2 cn_0_1)] pren_0 sufn_0, Ch.ro 0 (Sl an_0_1 n_0.2 cn_0_1) n_0.2] := H
 obtain ⟨r7, hx8, h'⟩ := bind_some h
 clear h
 have h := h'; clear h'
 have hc9 := c_slices_SortedFunc_impl_Hit__slices_Values_impl_hitHeap_impl_Hit_1__impl_compareHits (loseq_0_0 := n0) (bseq_0_0 := b5) (oseq_0_0 := 0) (preseq_0_0 := []) (sufseq_0_0 := []) (aseq_0_0 := an_0_1) (cseq_0_0 := cn_0_1) hx8
 refine st_call (cx_call hc9 (ent_f hc9.fn rfl) hn0 (show Hp S0 σ0 _ ([Ch.bx n0 b5 0 [(Sl an_0_1 n_0.2 cn_0_1)] [] [], Ch.ro 0 (Sl an_0_1 n_0.2 cn_0_1) n_0.2] ++ [Ch.bx lon_0 bn_0 on_0 [(I n_0.1), (Sl an_0_1 n_0.2 cn_0_1)] pren_0 sufn_0, Ch.ro 0 (Sl an_0_1 n_0.2 cn_0_1) n_0.2]) from (H.sel' [0, 2, 1, 2] rfl rfl))) wn ?_
 rintro _ σ12 ⟨_, ⟨a10, c11, rfl, rfl⟩, H, -⟩
 replace H : Hp S0 σ0 σ12 [Ch.own 0 n0 (Sl a10 r7 c11) r7, Ch.bx n0 b5 0 [(Sl an_0_1 n_0.2 cn_0_1)] [] [], Ch.bx lon_0 bn_0 on_0 [(I n_0.1), (Sl an_0_1 n_0.2 cn_0_1)] pren_0 sufn_0, Ch.ro 0 (Sl an_0_1 n_0.2 cn_0_1) n_0.2] := H
 refine st (v := (Sl a10 r7 c11)) (rv_assign rfl) ?_
 refine w_end ?_
 refine q_then ?_
 refine c_ret ?_
 obtain rfl := Option.some.inj h
 exact fin_ret (v := (Sl a10 r7 c11)) (results_ok Try.results163 (res_tmp (v := (Sl a10 r7 c11)) rfl res_nil) rfl) ⟨a10, c11, rfl, rfl⟩ (H.sel' [0, 2] rfl rfl)

end Go.Vs
