/- The functions compute what their models say. -/
import Derived.Test.YtdjjikmfkejdiaaKInBoxC2
set_option linter.unusedVariables false
set_option linter.unusedSimpArgs false
set_option maxRecDepth 20000
namespace Go.Vs
open Go Go.Proofs
attribute [local irreducible] Code.wp Code.wpIn wpList wpListIn wpQuiet Calls CallsIn

theorem c_spec_InBox {list_0 : List (Int × (List Int) × Int)} {low_1 : List Int} {high_2 : List Int} {alist_0 : Option Addr} {clist_0 : Nat} {alow_1 : Option Addr} {clow_1 : Nat} {ahigh_2 : Option Addr} {chigh_2 : Nat} {r : (List Int)} (h : M.spec_InBox list_0 low_1 high_2 = some r) :
    Cal2 Try.prog 30 [(Sl alist_0 list_0 clist_0), (Sl alow_1 low_1 clow_1), (Sl ahigh_2 high_2 chigh_2)] [Ch.ro 0 (Sl alist_0 list_0 clist_0) list_0, Ch.ro 0 (Sl alow_1 low_1 clow_1) low_1, Ch.ro 0 (Sl ahigh_2 high_2 chigh_2) high_2] (fun n0 v L => ∃ (az1 : Option Addr), ∃ (cz2 : Nat), v = (Sl az1 r cz2) ∧ L = [Ch.own n0 n0 (Sl az1 r cz2) r]) := by
 refine cal2 (n := 65) Try.func30 rfl rfl rfl rfl ?_
 intro S0 σ0 n0 hn0 H
 unfold M.spec_InBox at h
 refine c_seq ?_
 refine rg ?_
 refine st (v := (.slice none 0 0)) (rv_assign rfl) ?_
 refine w_end ?_
 refine q_then ?_
 refine c_seq ?_
 refine rg ?_
 refine st_ex (ex_buildSlice (el := n0) (xs := ([] : List Int)) (ps := []) (cs := []) H hn0 Try.underlying25 ti3 rfl rfl (by kernel_rfl) (.nil) rfl) wn ?_
 rintro _ σ2 ⟨b1, rfl, H, -⟩
 refine st (v := (Sl (some ⟨b1, 0, none⟩) ([] : List Int) 0)) (rv_assign rfl) ?_
 refine w_end ?_
 refine q_then ?_
 refine c_seq ?_
 refine c_seq ?_
 obtain ⟨o3, hj, h'⟩ := bind_some h
 clear h
 refine c_cut (fun e a w => e = .normal ∧ ∃ (ρ : Nat → Value) (σ : St), a = fr 65 (updL ρ [(0, (Sl alist_0 list_0 clist_0)), (1, (Sl alow_1 low_1 clow_1)), (2, (Sl ahigh_2 high_2 chigh_2)), (7, (Sl (some ⟨b1, 0, none⟩) ([] : List Int) 0)), (24, (B o3))]) ∧ w = σ.w ∧ Hp S0 σ0 σ [Ch.ro 0 (Sl alist_0 list_0 clist_0) list_0, Ch.ro 0 (Sl alow_1 low_1 clow_1) low_1, Ch.ro 0 (Sl ahigh_2 high_2 chigh_2) high_2, Ch.own n0 n0 (Sl (some ⟨b1, 0, none⟩) ([] : List Int) 0) ([] : List Int)]) ?_ ?_
 ·clear h'
  rename _ = some o3 => h
  refine rg ?_
  refine st (v := (Sl alist_0 list_0 clist_0)) (rv_move rfl) ?_
  obtain ⟨r4, hx5, h'⟩ := bind_some h
  clear h
  have h := h'; clear h'
  have hc6 := c_spec_validStore (alist_0 := alist_0) (clist_0 := clist_0) hx5
  refine st_call (cx_call hc6 (ent_f hc6.fn rfl) hn0 (show Hp S0 σ0 _ ([Ch.ro 0 (Sl alist_0 list_0 clist_0) list_0] ++ [Ch.own n0 n0 (Sl (some ⟨b1, 0, none⟩) ([] : List Int) 0) ([] : List Int), Ch.ro 0 (Sl alist_0 list_0 clist_0) list_0, Ch.ro 0 (Sl alow_1 low_1 clow_1) low_1, Ch.ro 0 (Sl ahigh_2 high_2 chigh_2) high_2]) from (H.sel' [1, 0, 1, 2, 3] rfl rfl))) wn ?_
  rintro _ σ7 ⟨_, ⟨rfl, rfl⟩, H, -⟩
  replace H : Hp S0 σ0 σ7 [Ch.own n0 n0 (Sl (some ⟨b1, 0, none⟩) ([] : List Int) 0) ([] : List Int), Ch.ro 0 (Sl alist_0 list_0 clist_0) list_0, Ch.ro 0 (Sl alow_1 low_1 clow_1) low_1, Ch.ro 0 (Sl ahigh_2 high_2 chigh_2) high_2] := H
  refine st (v := (B (!r4))) (rv_not rfl) ?_
  refine st (v := (B (!r4))) (rv_move rfl) ?_
  rcases Bool.eq_false_or_eq_true (!r4) with hb8 | hb8
  ·replace h := bif_t hb8 h
   refine st_skip (congrArg some hb8) ?_
   refine st_skip (congrArg some hb8) ?_
   refine st_skip (congrArg some hb8) ?_
   refine st (v := (B true)) (rv_pick_t (congrArg B hb8) rfl) ?_
   refine st (v := (B true)) (rv_move rfl) ?_
   refine st_skip rfl ?_
   refine st_skip rfl ?_
   refine st_skip rfl ?_
   refine st (v := (B true)) (rv_pick_t rfl rfl) ?_
   refine w_end ?_
   obtain rfl := Option.some.inj h
   exact ⟨rfl, _, σ7, fr_join ⟨rfl, rfl, rfl, rfl, rfl, trivial⟩, rfl, H.sel' [1, 2, 3, 0] rfl rfl⟩
  ·replace h := bif_f hb8 h
   refine st_g (v := (Sl alow_1 low_1 clow_1)) (congrArg some hb8) (rv_move rfl) ?_
   obtain ⟨r9, hx10, h'⟩ := bind_some h
   clear h
   have h := h'; clear h'
   have hc11 := c_spec_isVector (av_0 := alow_1) (cv_0 := clow_1) hx10
   refine st_call (cx_call hc11 (ent_f hc11.fn rfl) hn0 (show Hp S0 σ0 _ ([Ch.ro 0 (Sl alow_1 low_1 clow_1) low_1] ++ [Ch.own n0 n0 (Sl (some ⟨b1, 0, none⟩) ([] : List Int) 0) ([] : List Int), Ch.ro 0 (Sl alist_0 list_0 clist_0) list_0, Ch.ro 0 (Sl alow_1 low_1 clow_1) low_1, Ch.ro 0 (Sl ahigh_2 high_2 chigh_2) high_2]) from (H.sel' [2, 0, 1, 2, 3] rfl rfl))) (wanted_yes rfl (by exact (congrArg some hb8))) ?_
   rintro _ σ12 ⟨_, ⟨rfl, rfl⟩, H, -⟩
   replace H : Hp S0 σ0 σ12 [Ch.own n0 n0 (Sl (some ⟨b1, 0, none⟩) ([] : List Int) 0) ([] : List Int), Ch.ro 0 (Sl alist_0 list_0 clist_0) list_0, Ch.ro 0 (Sl alow_1 low_1 clow_1) low_1, Ch.ro 0 (Sl ahigh_2 high_2 chigh_2) high_2] := H
   refine st_g (v := (B (!r9))) (congrArg some hb8) (rv_not rfl) ?_
   refine st (v := (B (!r9))) (rv_pick_f (congrArg B hb8) rfl) ?_
   refine st (v := (B (!r9))) (rv_move rfl) ?_
   rcases Bool.eq_false_or_eq_true (!r9) with hb13 | hb13
   ·replace h := bif_t hb13 h
    refine st_skip (congrArg some hb13) ?_
    refine st_skip (congrArg some hb13) ?_
    refine st_skip (congrArg some hb13) ?_
    refine st (v := (B true)) (rv_pick_t (congrArg B hb13) rfl) ?_
    refine w_end ?_
    obtain rfl := Option.some.inj h
    exact ⟨rfl, _, σ12, fr_join ⟨rfl, rfl, rfl, rfl, rfl, trivial⟩, rfl, H.sel' [1, 2, 3, 0] rfl rfl⟩
   ·replace h := bif_f hb13 h
    refine st_g (v := (Sl ahigh_2 high_2 chigh_2)) (congrArg some hb13) (rv_move rfl) ?_
    obtain ⟨r14, hx15, h'⟩ := bind_some h
    clear h
    have h := h'; clear h'
    have hc16 := c_spec_isVector (av_0 := ahigh_2) (cv_0 := chigh_2) hx15
    refine st_call (cx_call hc16 (ent_f hc16.fn rfl) hn0 (show Hp S0 σ0 _ ([Ch.ro 0 (Sl ahigh_2 high_2 chigh_2) high_2] ++ [Ch.own n0 n0 (Sl (some ⟨b1, 0, none⟩) ([] : List Int) 0) ([] : List Int), Ch.ro 0 (Sl alist_0 list_0 clist_0) list_0, Ch.ro 0 (Sl alow_1 low_1 clow_1) low_1, Ch.ro 0 (Sl ahigh_2 high_2 chigh_2) high_2]) from (H.sel' [3, 0, 1, 2, 3] rfl rfl))) (wanted_yes rfl (by exact (congrArg some hb13))) ?_
    rintro _ σ17 ⟨_, ⟨rfl, rfl⟩, H, -⟩
    replace H : Hp S0 σ0 σ17 [Ch.own n0 n0 (Sl (some ⟨b1, 0, none⟩) ([] : List Int) 0) ([] : List Int), Ch.ro 0 (Sl alist_0 list_0 clist_0) list_0, Ch.ro 0 (Sl alow_1 low_1 clow_1) low_1, Ch.ro 0 (Sl ahigh_2 high_2 chigh_2) high_2] := H
    refine st_g (v := (B (!r14))) (congrArg some hb13) (rv_not rfl) ?_
    refine st (v := (B (!r14))) (rv_pick_f (congrArg B hb13) rfl) ?_
    refine w_end ?_
    obtain rfl := Option.some.inj h
    exact ⟨rfl, _, σ17, fr_join ⟨rfl, rfl, rfl, rfl, rfl, trivial⟩, rfl, H.sel' [1, 2, 3, 0] rfl rfl⟩
 ·clear hj
  have h := h'
  clear h' H
  rintro e a w ⟨rfl, ρ, σ18, rfl, rfl, H⟩
  refine q_then ?_
  refine cd_cond o3 rfl (fun hb19 => ?_) (fun hb19 => ?_)
  ·replace h := bif_t hb19 h
   refine c_seq ?_
   refine rg ?_
   refine st (v := (.slice none 0 0)) (rv_assign rfl) ?_
   refine w_end ?_
   refine q_then ?_
   refine c_ret ?_
   refine q_then_r ?_
   replace H := H.nilOwn Int n0 n0
   obtain rfl := Option.some.inj h
   exact fin_ret (v := (.slice none 0 0)) (results_ok Try.results30 (res_tmp (v := (.slice none 0 0)) rfl res_nil) rfl) ⟨none, 0, rfl, rfl⟩ (H.sel' [0] rfl rfl)
  ·replace h := bif_f hb19 h
   refine c_skip ?_
   refine q_then ?_
   refine c_seq ?_
   refine c_seq ?_
   refine rg ?_
   refine st (v := (I 0)) (rv_assign rfl) ?_
   refine w_end ?_
   refine q_then ?_
   obtain ⟨o20, hj, h'⟩ := bind_some h
   clear h
   refine c_cut (fun e a w => e = .normal ∧ ∃ (ρ : Nat → Value) (σ : St) (aj1 : Option Addr) (cj2 : Nat), a = fr 65 (updL ρ [(7, (Sl aj1 o20 cj2))]) ∧ w = σ.w ∧ Hp S0 σ0 σ [Ch.own n0 n0 (Sl aj1 o20 cj2) o20]) ?_ ?_
   ·clear h'
    rename _ = some o20 => h
    refine c_blk ?_
    refine wp_loopM _ h (fun s21 a w => ∃ (ρ : Nat → Value) (σ : St) (aj1 : Option Addr) (cj2 : Nat), a = fr 65 (updL ρ [(0, (Sl alist_0 list_0 clist_0)), (1, (Sl alow_1 low_1 clow_1)), (2, (Sl ahigh_2 high_2 chigh_2)), (7, (Sl aj1 s21.1 cj2)), (8, (I s21.2))]) ∧ w = σ.w ∧ Hp S0 σ0 σ [Ch.ro 0 (Sl alist_0 list_0 clist_0) list_0, Ch.ro 0 (Sl alow_1 low_1 clow_1) low_1, Ch.ro 0 (Sl ahigh_2 high_2 chigh_2) high_2, Ch.own n0 n0 (Sl aj1 s21.1 cj2) s21.1]) ⟨_, σ18, (some ⟨b1, 0, none⟩), 0, fr_join ⟨rfl, rfl, rfl, rfl, rfl, trivial⟩, rfl, H.sel' [0, 1, 2, 3] rfl rfl⟩ ?_
    clear h H
    rintro s21 a w o ⟨ρ, σ22, a23, c24, rfl, rfl, H⟩ h hres
    refine c_seq ?_
    refine c_seq ?_
    refine rg ?_
    refine st (v := (I s21.2)) (rv_move rfl) ?_
    refine st (v := (Sl alist_0 list_0 clist_0)) (rv_move rfl) ?_
    refine st (v := (I (list_0.length : Int))) (rv_len Try.underlying23 rfl) ?_
    refine st (v := (B (decide (s21.2 < (list_0.length : Int))))) (rv_lss (a := s21.2) (b := (list_0.length : Int)) rfl rfl) ?_
    refine w_end ?_
    refine q_then ?_
    refine cd_cond (decide (s21.2 < (list_0.length : Int))) rfl (fun hb25 => ?_) (fun hb25 => ?_)
    ·replace h := bif_t hb25 h
     refine c_skip ?_
     refine q_then ?_
     refine c_seq ?_
     obtain ⟨o26, hj, h'⟩ := bind_some h
     clear h
     refine c_cut (fun e a w => e = .normal ∧ ∃ (ρ : Nat → Value) (σ : St) (aj1 : Option Addr) (cj2 : Nat), a = fr 65 (updL ρ [(0, (Sl alist_0 list_0 clist_0)), (1, (Sl alow_1 low_1 clow_1)), (2, (Sl ahigh_2 high_2 chigh_2)), (7, (Sl aj1 o26 cj2)), (8, (I s21.2))]) ∧ w = σ.w ∧ Hp S0 σ0 σ [Ch.ro 0 (Sl alist_0 list_0 clist_0) list_0, Ch.ro 0 (Sl alow_1 low_1 clow_1) low_1, Ch.ro 0 (Sl ahigh_2 high_2 chigh_2) high_2, Ch.own n0 n0 (Sl aj1 o26 cj2) o26]) ?_ ?_
     ·clear h'
      rename _ = some o26 => h
      refine c_blk ?_
      refine c_seq ?_
      refine rg ?_
      refine st (v := (B true)) (rv_assign rfl) ?_
      refine w_end ?_
      refine q_then ?_
      refine c_seq ?_
      refine c_seq ?_
      refine rg ?_
      refine st (v := (I 0)) (rv_assign rfl) ?_
      refine w_end ?_
      refine q_then ?_
      obtain ⟨o27, hj, h'⟩ := bind_some h
      clear h
      refine c_cut (fun e a w => e = .normal ∧ ∃ (ρ : Nat → Value) (σ : St), a = fr 65 (updL ρ [(0, (Sl alist_0 list_0 clist_0)), (1, (Sl alow_1 low_1 clow_1)), (2, (Sl ahigh_2 high_2 chigh_2)), (7, (Sl a23 s21.1 c24)), (8, (I s21.2)), (9, (B o27))]) ∧ w = σ.w ∧ Hp S0 σ0 σ [Ch.ro 0 (Sl alist_0 list_0 clist_0) list_0, Ch.ro 0 (Sl alow_1 low_1 clow_1) low_1, Ch.ro 0 (Sl ahigh_2 high_2 chigh_2) high_2, Ch.own n0 n0 (Sl a23 s21.1 c24) s21.1]) ?_ ?_
      ·clear h'
       rename _ = some o27 => h
       refine c_blk ?_
       refine wp_loopM _ h (fun s28 a w => ∃ (ρ : Nat → Value) (σ : St), a = fr 65 (updL ρ [(0, (Sl alist_0 list_0 clist_0)), (1, (Sl alow_1 low_1 clow_1)), (2, (Sl ahigh_2 high_2 chigh_2)), (7, (Sl a23 s21.1 c24)), (8, (I s21.2)), (9, (B s28.1)), (10, (I s28.2))]) ∧ w = σ.w ∧ Hp S0 σ0 σ [Ch.ro 0 (Sl alist_0 list_0 clist_0) list_0, Ch.ro 0 (Sl alow_1 low_1 clow_1) low_1, Ch.ro 0 (Sl ahigh_2 high_2 chigh_2) high_2, Ch.own n0 n0 (Sl a23 s21.1 c24) s21.1]) ⟨_, σ22, fr_join ⟨rfl, rfl, rfl, rfl, rfl, rfl, rfl, trivial⟩, rfl, H.sel' [0, 1, 2, 3] rfl rfl⟩ ?_
       clear h H
       rintro s28 a w o ⟨ρ, σ29, rfl, rfl, H⟩ h hres
       refine c_seq ?_
       refine c_seq ?_
       refine rg ?_
       refine st (v := (I s28.2)) (rv_move rfl) ?_
       refine st (v := (B (decide (s28.2 < 4)))) (rv_lss (a := s28.2) (b := 4) rfl rfl) ?_
       refine w_end ?_
       refine q_then ?_
       refine cd_cond (decide (s28.2 < 4)) rfl (fun hb30 => ?_) (fun hb30 => ?_)
       ·replace h := bif_t hb30 h
        refine c_skip ?_
        refine q_then ?_
        refine c_seq ?_
        refine c_blk ?_
        obtain ⟨o31, hj, h'⟩ := bind_some h
        clear h
        refine c_cut (fun e a w => e = .normal ∧ ∃ (ρ : Nat → Value) (σ : St), a = fr 65 (updL ρ [(0, (Sl alist_0 list_0 clist_0)), (1, (Sl alow_1 low_1 clow_1)), (2, (Sl ahigh_2 high_2 chigh_2)), (7, (Sl a23 s21.1 c24)), (8, (I s21.2)), (9, (B o31)), (10, (I s28.2))]) ∧ w = σ.w ∧ Hp S0 σ0 σ [Ch.ro 0 (Sl alist_0 list_0 clist_0) list_0, Ch.ro 0 (Sl alow_1 low_1 clow_1) low_1, Ch.ro 0 (Sl ahigh_2 high_2 chigh_2) high_2, Ch.own n0 n0 (Sl a23 s21.1 c24) s21.1]) ?_ ?_
        ·clear h'
         rename _ = some o31 => h
         refine rgP (σ := σ29) 18 (by kernel_rfl) (by kernel_rfl) (by kernel_rfl) ?_
         refine sq (v := (B s28.1)) (rv_move rfl) ?_
         refine sq (v := (B s28.1)) (rv_move rfl) ?_
         rcases Bool.eq_false_or_eq_true s28.1 with hb32 | hb32
         ·replace h := bif_t hb32 h
          refine sq_g (v := (Sl alist_0 list_0 clist_0)) (congrArg some hb32) (rv_move rfl) ?_
          refine sq_g (v := (I s21.2)) (congrArg some hb32) (rv_move rfl) ?_
          obtain ⟨x33, hx34, h'⟩ := bind_some h
          clear h
          have h := h'; clear h'
          obtain ⟨b36, o37, hi35, -⟩ := (H.ro 0 rfl).ix hx34
          refine sq_g (v := (pt b36 o37)) (congrArg some hb32) (rv_ix Try.underlying23 ti38 rfl rfl hi35) ?_
          refine sq_g (v := (pt b36 (o37 + 1))) (congrArg some hb32) (rv_fieldAddr (off := 1) (ft := 25) Try.underlying38 rfl ti25 rfl rfl) ?_
          obtain ⟨v41, hc42, hR40⟩ := ((H.ro 0 rfl).at hx34 hi35).snd.fst.slice
          obtain ⟨a38, c39, rfl⟩ := hR40.isSl
          replace H := H.add (d := Ch.ro 0 (Sl a38 x33.2.1 c39) x33.2.1) hR40 (fun _ h => h)
          clear hR40
          refine sq_g (v := (Sl a38 x33.2.1 c39)) (congrArg some hb32) (rv_load1 Try.underlying25 rfl rfl hc42) ?_
          refine sq_g (v := (I s28.2)) (congrArg some hb32) (rv_move rfl) ?_
          obtain ⟨x43, hx44, h'⟩ := bind_some h
          clear h
          have h := h'; clear h'
          obtain ⟨b46, o47, hi45, -⟩ := (H.ro 0 rfl).ix hx44
          refine sq_g (v := (pt b46 o47)) (congrArg some hb32) (rv_ix Try.underlying25 ti3 rfl rfl hi45) ?_
          have hc48 := ((H.ro 0 rfl).at hx44 hi45).int
          refine sq_g (v := (I x43)) (congrArg some hb32) (rv_load1 Try.underlying3 rfl rfl hc48) ?_
          refine sq_g (v := (Sl alow_1 low_1 clow_1)) (congrArg some hb32) (rv_move rfl) ?_
          refine sq_g (v := (I s28.2)) (congrArg some hb32) (rv_move rfl) ?_
          obtain ⟨x49, hx50, h'⟩ := bind_some h
          clear h
          have h := h'; clear h'
          obtain ⟨b52, o53, hi51, -⟩ := (H.ro 2 rfl).ix hx50
          refine sq_g (v := (pt b52 o53)) (congrArg some hb32) (rv_ix Try.underlying25 ti3 rfl rfl hi51) ?_
          have hc54 := ((H.ro 2 rfl).at hx50 hi51).int
          refine sq_g (v := (I x49)) (congrArg some hb32) (rv_load1 Try.underlying3 rfl rfl hc54) ?_
          refine sq_g (v := (Sl ahigh_2 high_2 chigh_2)) (congrArg some hb32) (rv_move rfl) ?_
          refine sq_g (v := (I s28.2)) (congrArg some hb32) (rv_move rfl) ?_
          obtain ⟨x55, hx56, h'⟩ := bind_some h
          clear h
          have h := h'; clear h'
          obtain ⟨b58, o59, hi57, -⟩ := (H.ro 3 rfl).ix hx56
          refine sq_g (v := (pt b58 o59)) (congrArg some hb32) (rv_ix Try.underlying25 ti3 rfl rfl hi57) ?_
          have hc60 := ((H.ro 3 rfl).at hx56 hi57).int
          refine sq_g (v := (I x55)) (congrArg some hb32) (rv_load1 Try.underlying3 rfl rfl hc60) ?_
          refine sq_end ?_
          intro σ61 hm62
          replace H := H.grow (hm62.mono fun _ h => h); clear hm62
          obtain ⟨r63, hx64, h'⟩ := bind_some h
          clear h
          have h := h'; clear h'
          have hc65 := c_spec_inRange hx64
          refine st_call (cx_call hc65 (ent_f hc65.fn rfl) hn0 (show Hp S0 σ0 _ ([] ++ [Ch.ro 0 (Sl a38 x33.2.1 c39) x33.2.1, Ch.ro 0 (Sl alist_0 list_0 clist_0) list_0, Ch.ro 0 (Sl alow_1 low_1 clow_1) low_1, Ch.ro 0 (Sl ahigh_2 high_2 chigh_2) high_2, Ch.own n0 n0 (Sl a23 s21.1 c24) s21.1]) from (H.sel' [0, 1, 2, 3, 4] rfl rfl))) (wanted_yes rfl (by exact (congrArg some hb32))) ?_
          rintro _ σ66 ⟨_, ⟨rfl, rfl⟩, H, -⟩
          replace H : Hp S0 σ0 σ66 [Ch.ro 0 (Sl a38 x33.2.1 c39) x33.2.1, Ch.ro 0 (Sl alist_0 list_0 clist_0) list_0, Ch.ro 0 (Sl alow_1 low_1 clow_1) low_1, Ch.ro 0 (Sl ahigh_2 high_2 chigh_2) high_2, Ch.own n0 n0 (Sl a23 s21.1 c24) s21.1] := H
          refine st (v := (B r63)) (rv_pick_t (congrArg B hb32) rfl) ?_
          refine st (v := (B r63)) (rv_assign rfl) ?_
          refine w_end ?_
          obtain rfl := Option.some.inj h
          exact ⟨rfl, _, σ66, fr_join ⟨rfl, rfl, rfl, rfl, rfl, rfl, rfl, trivial⟩, rfl, H.sel' [1, 2, 3, 4] rfl rfl⟩
         ·replace h := bif_f hb32 h
          refine sq_skip (congrArg some hb32) ?_
          refine sq_skip (congrArg some hb32) ?_
          refine sq_skip (congrArg some hb32) ?_
          refine sq_skip (congrArg some hb32) ?_
          refine sq_skip (congrArg some hb32) ?_
          refine sq_skip (congrArg some hb32) ?_
          refine sq_skip (congrArg some hb32) ?_
          refine sq_skip (congrArg some hb32) ?_
          refine sq_skip (congrArg some hb32) ?_
          refine sq_skip (congrArg some hb32) ?_
          refine sq_skip (congrArg some hb32) ?_
          refine sq_skip (congrArg some hb32) ?_
          refine sq_skip (congrArg some hb32) ?_
          refine sq_skip (congrArg some hb32) ?_
          refine sq_skip (congrArg some hb32) ?_
          refine sq_skip (congrArg some hb32) ?_
          refine sq_end ?_
          intro σ67 hm68
          replace H := H.grow (hm68.mono fun _ h => h); clear hm68
          refine st_skip (congrArg some hb32) ?_
          refine st (v := (B false)) (rv_pick_f (congrArg B hb32) rfl) ?_
          refine st (v := (B false)) (rv_assign rfl) ?_
          refine w_end ?_
          obtain rfl := Option.some.inj h
          exact ⟨rfl, _, σ67, fr_join ⟨rfl, rfl, rfl, rfl, rfl, rfl, rfl, trivial⟩, rfl, H.sel' [0, 1, 2, 3] rfl rfl⟩
        ·clear hj
         have h := h'
         clear h' H
         rintro e a w ⟨rfl, ρ, σ69, rfl, rfl, H⟩
         refine q_blk ?_
         refine q_then ?_
         refine rg ?_
         refine st (v := (I s28.2)) (rv_move rfl) ?_
         refine st (v := (I (w64 (s28.2 + 1)))) (rv_add (a := s28.2) (b := 1) rfl rfl) ?_
         refine st (v := (I (w64 (s28.2 + 1)))) (rv_assign rfl) ?_
         refine w_end ?_
         refine q_then ?_
         obtain rfl := Option.some.inj h
         exact ⟨_, rfl, _, σ69, fr_join ⟨rfl, rfl, rfl, rfl, rfl, rfl, rfl, trivial⟩, rfl, H.sel' [0, 1, 2, 3] rfl rfl⟩
       ·replace h := bif_f hb30 h
        refine c_exit ?_
        refine q_then_x ?_
        refine q_then_x ?_
        refine q_blk_hit ?_
        obtain rfl := Option.some.inj h
        obtain rfl := hres _ rfl
        exact ⟨rfl, _, σ29, fr_join ⟨rfl, rfl, rfl, rfl, rfl, rfl, trivial⟩, rfl, H.sel' [0, 1, 2, 3] rfl rfl⟩
      ·clear hj
       have h := h'
       clear h' H
       rintro e a w ⟨rfl, ρ, σ70, rfl, rfl, H⟩
       refine q_then ?_
       refine c_seq ?_
       refine rg ?_
       refine st (v := (B o27)) (rv_move rfl) ?_
       refine w_end ?_
       refine q_then ?_
       refine cd_cond o27 rfl (fun hb71 => ?_) (fun hb71 => ?_)
       ·replace h := bif_t hb71 h
        refine rg ?_
        refine st (v := (Sl a23 s21.1 c24)) (rv_move rfl) ?_
        refine st (v := (Sl alist_0 list_0 clist_0)) (rv_move rfl) ?_
        refine st (v := (I s21.2)) (rv_move rfl) ?_
        obtain ⟨x72, hx73, h'⟩ := bind_some h
        clear h
        have h := h'; clear h'
        obtain ⟨b75, o76, hi74, -⟩ := (H.ro 0 rfl).ix hx73
        refine st (v := (pt b75 o76)) (rv_ix Try.underlying23 ti38 rfl rfl hi74) ?_
        refine st (v := (pt b75 (o76 + 0))) (rv_fieldAddr (off := 0) (ft := 3) Try.underlying38 rfl ti3 rfl rfl) ?_
        have hc77 := ((H.ro 0 rfl).at hx73 hi74).fst.int
        refine st (v := (I x72.1)) (rv_load1 Try.underlying3 rfl rfl hc77) ?_
        refine st_ex (ex_buildSlice (el := n0) (xs := ([x72.1] : List Int)) (ps := [(0, (I x72.1))]) (cs := [(I x72.1)]) H hn0 Try.underlying25 ti3 rfl rfl (by kernel_rfl) (.cons (c := [(I x72.1)]) rfl (.nil)) rfl) wn ?_
        rintro _ σ79 ⟨b78, rfl, H, -⟩
        obtain ⟨xs80, hx81, h'⟩ := bind_some h
        clear h
        have h := h'; clear h'
        refine st_ex (ex_append H (i := 4) rfl Try.underlying25 Try.underlying25 ti3 rfl rfl (by decide) (H.own 0 rfl).rd hx81 hn0 rfl rfl) wn ?_
        rintro _ σ84 ⟨a82, c83, rfl, H, -⟩
        refine st (v := (Sl a82 xs80 c83)) (rv_assign rfl) ?_
        refine w_end ?_
        refine q_blk ?_
        obtain rfl := Option.some.inj h
        exact ⟨rfl, _, σ84, a82, c83, fr_join ⟨rfl, rfl, rfl, rfl, rfl, trivial⟩, rfl, H.sel' [2, 3, 4, 0] rfl rfl⟩
       ·replace h := bif_f hb71 h
        refine c_skip ?_
        refine q_blk ?_
        obtain rfl := Option.some.inj h
        exact ⟨rfl, _, σ70, a23, c24, fr_join ⟨rfl, rfl, rfl, rfl, rfl, trivial⟩, rfl, H.sel' [0, 1, 2, 3] rfl rfl⟩
     ·clear hj
      have h := h'
      clear h' H
      rintro e a w ⟨rfl, ρ, σ85, a86, c87, rfl, rfl, H⟩
      refine q_then ?_
      refine rg ?_
      refine st (v := (I s21.2)) (rv_move rfl) ?_
      refine st (v := (I (w64 (s21.2 + 1)))) (rv_add (a := s21.2) (b := 1) rfl rfl) ?_
      refine st (v := (I (w64 (s21.2 + 1)))) (rv_assign rfl) ?_
      refine w_end ?_
      refine q_then ?_
      obtain rfl := Option.some.inj h
      exact ⟨_, rfl, _, σ85, a86, c87, fr_join ⟨rfl, rfl, rfl, rfl, rfl, trivial⟩, rfl, H.sel' [0, 1, 2, 3] rfl rfl⟩
    ·replace h := bif_f hb25 h
     refine c_exit ?_
     refine q_then_x ?_
     refine q_then_x ?_
     refine q_blk_hit ?_
     obtain rfl := Option.some.inj h
     obtain rfl := hres _ rfl
     exact ⟨rfl, _, σ22, a23, c24, fr_join ⟨rfl, trivial⟩, rfl, H.sel' [3] rfl rfl⟩
   ·clear hj
    have h := h'
    clear h' H
    rintro e a w ⟨rfl, ρ, σ88, a89, c90, rfl, rfl, H⟩
    refine q_then ?_
    refine c_seq ?_
    refine rg ?_
    refine st (v := (Sl a89 o20 c90)) (rv_move rfl) ?_
    refine st (v := (Sl a89 o20 c90)) (rv_assign rfl) ?_
    refine w_end ?_
    refine q_then ?_
    refine c_ret ?_
    obtain rfl := Option.some.inj h
    exact fin_ret (v := (Sl a89 o20 c90)) (results_ok Try.results30 (res_tmp (v := (Sl a89 o20 c90)) rfl res_nil) rfl) ⟨a89, c90, rfl, rfl⟩ (H.sel' [0] rfl rfl)

theorem c_laws_isIn {list_0 : List Int} {n_1 : Int} {alist_0 : Option Addr} {clist_0 : Nat} {r : Bool} (h : M.laws_isIn list_0 n_1 = some r) :
    Cal2 Try.prog 31 [(Sl alist_0 list_0 clist_0), (I n_1)] [Ch.ro 0 (Sl alist_0 list_0 clist_0) list_0] (fun n0 v L => v = (B r) ∧ L = []) := by
 refine cal2 (n := 18) Try.func31 rfl rfl rfl rfl ?_
 intro S0 σ0 n0 hn0 H
 unfold M.laws_isIn at h
 refine c_seq ?_
 refine rg ?_
 refine st (v := (B false)) (rv_assign rfl) ?_
 refine w_end ?_
 refine q_then ?_
 refine c_seq ?_
 refine c_seq ?_
 refine rg ?_
 refine st (v := (I 0)) (rv_assign rfl) ?_
 refine w_end ?_
 refine q_then ?_
 obtain ⟨o1, hj, h'⟩ := bind_some h
 clear h
 refine c_cut (fun e a w => (∃ t, o1 = (.inl t) ∧ e = .normal ∧ ∃ (ρ : Nat → Value) (σ : St), a = fr 18 (updL ρ []) ∧ w = σ.w ∧ Hp S0 σ0 σ []) ∨ (∃ t, o1 = (.inr t) ∧ e = .ret ∧ ∃ (ρ : Nat → Value) (σ : St), a = fr 18 (updL ρ [(4, (B t))]) ∧ w = σ.w ∧ Hp S0 σ0 σ [])) ?_ ?_
 ·clear h'
  rename _ = some o1 => h
  refine c_blk ?_
  refine wp_loopM _ h (fun s2 a w => ∃ (ρ : Nat → Value) (σ : St), a = fr 18 (updL ρ [(0, (Sl alist_0 list_0 clist_0)), (1, (I n_1)), (5, (I s2))]) ∧ w = σ.w ∧ Hp S0 σ0 σ [Ch.ro 0 (Sl alist_0 list_0 clist_0) list_0]) ⟨_, σ0, fr_join ⟨rfl, rfl, rfl, trivial⟩, rfl, H.sel' [0] rfl rfl⟩ ?_
  clear h H
  rintro s2 a w o ⟨ρ, σ3, rfl, rfl, H⟩ h hres
  refine c_seq ?_
  refine c_seq ?_
  refine rg ?_
  refine st (v := (I s2)) (rv_move rfl) ?_
  refine st (v := (Sl alist_0 list_0 clist_0)) (rv_move rfl) ?_
  refine st (v := (I (list_0.length : Int))) (rv_len Try.underlying25 rfl) ?_
  refine st (v := (B (decide (s2 < (list_0.length : Int))))) (rv_lss (a := s2) (b := (list_0.length : Int)) rfl rfl) ?_
  refine w_end ?_
  refine q_then ?_
  refine cd_cond (decide (s2 < (list_0.length : Int))) rfl (fun hb4 => ?_) (fun hb4 => ?_)
  ·replace h := bif_t hb4 h
   refine c_skip ?_
   refine q_then ?_
   refine c_seq ?_
   refine c_blk ?_
   refine c_seq ?_
   refine rg ?_
   refine st (v := (Sl alist_0 list_0 clist_0)) (rv_move rfl) ?_
   refine st (v := (I s2)) (rv_move rfl) ?_
   obtain ⟨x5, hx6, h'⟩ := bind_some h
   clear h
   have h := h'; clear h'
   obtain ⟨b8, o9, hi7, -⟩ := (H.ro 0 rfl).ix hx6
   refine st (v := (pt b8 o9)) (rv_ix Try.underlying25 ti3 rfl rfl hi7) ?_
   have hc10 := ((H.ro 0 rfl).at hx6 hi7).int
   refine st (v := (I x5)) (rv_load1 Try.underlying3 rfl rfl hc10) ?_
   refine st (v := (I n_1)) (rv_move rfl) ?_
   refine st (v := (B (x5 == n_1))) (rv_eql (a := x5) (b := n_1) rfl rfl) ?_
   refine w_end ?_
   refine q_then ?_
   refine cd_cond (x5 == n_1) rfl (fun hb11 => ?_) (fun hb11 => ?_)
   ·replace h := bif_t hb11 h
    refine c_seq ?_
    refine rg ?_
    refine st (v := (B true)) (rv_assign rfl) ?_
    refine w_end ?_
    refine q_then ?_
    refine c_ret ?_
    refine q_blk_r ?_
    refine q_then_r ?_
    refine q_then_r ?_
    refine q_blk_r ?_
    obtain rfl := Option.some.inj h
    obtain rfl := hres _ rfl
    exact .inr (⟨_, rfl, rfl, _, σ3, fr_join ⟨rfl, trivial⟩, rfl, H.sel' [] rfl rfl⟩)
   ·replace h := bif_f hb11 h
    refine c_skip ?_
    refine q_blk ?_
    refine q_then ?_
    refine rg ?_
    refine st (v := (I s2)) (rv_move rfl) ?_
    refine st (v := (I (w64 (s2 + 1)))) (rv_add (a := s2) (b := 1) rfl rfl) ?_
    refine st (v := (I (w64 (s2 + 1)))) (rv_assign rfl) ?_
    refine w_end ?_
    refine q_then ?_
    obtain rfl := Option.some.inj h
    exact ⟨_, rfl, _, σ3, fr_join ⟨rfl, rfl, rfl, trivial⟩, rfl, H.sel' [0] rfl rfl⟩
  ·replace h := bif_f hb4 h
   refine c_exit ?_
   refine q_then_x ?_
   refine q_then_x ?_
   refine q_blk_hit ?_
   obtain rfl := Option.some.inj h
   obtain rfl := hres _ rfl
   exact .inl ⟨_, rfl, rfl, _, σ3, fr_join trivial, rfl, H.sel' [] rfl rfl⟩
 ·clear hj
  have h := h'
  clear h' H
  rintro e a w (⟨t12, rfl, rfl, ρ, σ13, rfl, rfl, H⟩ | ⟨t14, rfl, rfl, ρ, σ15, rfl, rfl, H⟩)
  ·replace h := selim_l h
   refine q_then ?_
   refine c_seq ?_
   refine rg ?_
   refine st (v := (B false)) (rv_assign rfl) ?_
   refine w_end ?_
   refine q_then ?_
   refine c_ret ?_
   obtain rfl := Option.some.inj h
   exact fin_ret (v := (B false)) (results_ok Try.results31 (res_tmp (v := (B false)) rfl res_nil) rfl) ⟨rfl, rfl⟩ (H.sel' [] rfl rfl)
  ·replace h := selim_r h
   refine q_then_r ?_
   obtain rfl := Option.some.inj h
   exact fin_ret (v := (B t14)) (results_ok Try.results31 (res_tmp (v := (B t14)) rfl res_nil) rfl) ⟨rfl, rfl⟩ (H.sel' [] rfl rfl)

theorem c_laws_FnInBox {code_0 : List UInt8} {acode_0 : Option Addr} {ccode_0 : Nat} {r : Bool} (h : M.laws_FnInBox code_0 = some r) :
    Cal2 Try.prog 8 [(Sl acode_0 code_0 ccode_0)] [Ch.ro 0 (Sl acode_0 code_0 ccode_0) code_0] (fun n0 v L => v = (B r) ∧ L = []) := by
 refine cal2 (n := 96) Try.func8 rfl rfl rfl rfl ?_
 intro S0 σ0 n0 hn0 H
 unfold M.laws_FnInBox at h
 refine c_seq ?_
 refine rg ?_
 refine st (v := (B false)) (rv_assign rfl) ?_
 refine w_end ?_
 refine q_then ?_
 refine c_seq ?_
 refine c_seq ?_
 refine rg ?_
 refine st (v := (Sl acode_0 code_0 ccode_0)) (rv_move rfl) ?_
 refine st (v := (I (code_0.length : Int))) (rv_len Try.underlying22 rfl) ?_
 refine st (v := (B (decide (1048576 < (code_0.length : Int))))) (rv_gtr (a := (code_0.length : Int)) (b := 1048576) rfl rfl) ?_
 refine w_end ?_
 refine q_then ?_
 refine cd_cond (decide (1048576 < (code_0.length : Int))) rfl (fun hb1 => ?_) (fun hb1 => ?_)
 ·replace h := bif_t hb1 h
  refine c_seq ?_
  refine rg ?_
  refine st (v := (B true)) (rv_assign rfl) ?_
  refine w_end ?_
  refine q_then ?_
  refine c_ret ?_
  refine q_then_r ?_
  obtain rfl := Option.some.inj h
  exact fin_ret (v := (B true)) (results_ok Try.results8 (res_tmp (v := (B true)) rfl res_nil) rfl) ⟨rfl, rfl⟩ (H.sel' [] rfl rfl)
 ·replace h := bif_f hb1 h
  refine c_skip ?_
  refine q_then ?_
  refine c_seq ?_
  refine rg ?_
  refine st (v := (Sl acode_0 code_0 ccode_0)) (rv_move rfl) ?_
  obtain ⟨r2, hx3, h'⟩ := bind_some h
  clear h
  have h := h'; clear h'
  have hc4 := c_spec_DrawInBox (acode_0 := acode_0) (ccode_0 := ccode_0) hx3
  refine st_call (cx_call hc4 (ent_f hc4.fn rfl) hn0 (show Hp S0 σ0 _ ([Ch.ro 0 (Sl acode_0 code_0 ccode_0) code_0] ++ [Ch.ro 0 (Sl acode_0 code_0 ccode_0) code_0]) from (H.sel' [0, 0] rfl rfl))) wn ?_
  rintro _ σ11 ⟨_, ⟨a5, c6, a7, c8, a9, c10, rfl, rfl⟩, H, -⟩
  replace H : Hp S0 σ0 σ11 [Ch.own n0 n0 (Sl a5 r2.1 c6) r2.1, Ch.own n0 n0 (Sl a7 r2.2.1 c8) r2.2.1, Ch.own n0 n0 (Sl a9 r2.2.2 c10) r2.2.2, Ch.ro 0 (Sl acode_0 code_0 ccode_0) code_0] := H
  refine st (v := (.tuple #[(Sl a5 r2.1 c6), (Sl a7 r2.2.1 c8), (Sl a9 r2.2.2 c10)])) (rv_move rfl) ?_
  refine st (v := (Sl a5 r2.1 c6)) (rv_extract rfl rfl) ?_
  refine st (v := (Sl a7 r2.2.1 c8)) (rv_extract rfl rfl) ?_
  refine st (v := (Sl a9 r2.2.2 c10)) (rv_extract rfl rfl) ?_
  refine st (v := (Sl a5 r2.1 c6)) (rv_assign rfl) ?_
  refine st (v := (Sl a7 r2.2.1 c8)) (rv_assign rfl) ?_
  refine st (v := (Sl a9 r2.2.2 c10)) (rv_assign rfl) ?_
  refine w_end ?_
  refine q_then ?_
  refine c_seq ?_
  refine rg ?_
  refine st (v := (Sl a5 r2.1 c6)) (rv_move rfl) ?_
  refine st (v := (Sl a7 r2.2.1 c8)) (rv_move rfl) ?_
  refine st (v := (Sl a9 r2.2.2 c10)) (rv_move rfl) ?_
  obtain ⟨r12, hx13, h'⟩ := bind_some h
  clear h
  have h := h'; clear h'
  have hc14 := c_impl_InBox (alist_0 := a5) (clist_0 := c6) (alow_1 := a7) (clow_1 := c8) (ahigh_2 := a9) (chigh_2 := c10) hx13
  have hle := Nat.le_trans hn0 H.size
  refine st_call (cx_lend (Loan.lend (Loan.lend (Loan.lend Loan.nil))) hc14 (ent_f hc14.fn rfl) (show Hp S0 σ0 _ ([Ch.own n0 n0 (Sl a5 r2.1 c6) r2.1, Ch.own n0 n0 (Sl a7 r2.2.1 c8) r2.2.1, Ch.own n0 n0 (Sl a9 r2.2.2 c10) r2.2.2] ++ ([] ++ [Ch.ro 0 (Sl acode_0 code_0 ccode_0) code_0])) from (H.sel' [0, 1, 2, 3] rfl rfl)) (by rintro _ _ _ ⟨_, _, rfl, rfl, _⟩; exact ⟨Ab.ownSc, trivial⟩)) wn ?_
  rintro _ σ18 ⟨_, ⟨a15, c16, rfl, rfl, ht17⟩, H, -, -⟩
  replace H : Hp S0 σ0 σ18 [Ch.own σ11.size σ11.size (Sl a15 r12 c16) r12, Ch.own n0 n0 (Sl a5 r2.1 c6) r2.1, Ch.own n0 n0 (Sl a7 r2.2.1 c8) r2.2.1, Ch.own n0 n0 (Sl a9 r2.2.2 c10) r2.2.2, Ch.ro 0 (Sl acode_0 code_0 ccode_0) code_0] := H
  replace H := H.ownLow 0 n0 n0 rfl hle hle
  clear hle
  replace H : Hp S0 σ0 σ18 [Ch.own n0 n0 (Sl a15 r12 c16) r12, Ch.own n0 n0 (Sl a5 r2.1 c6) r2.1, Ch.own n0 n0 (Sl a7 r2.2.1 c8) r2.2.1, Ch.own n0 n0 (Sl a9 r2.2.2 c10) r2.2.2, Ch.ro 0 (Sl acode_0 code_0 ccode_0) code_0] := H
  refine st (v := (Sl a15 r12 c16)) (rv_assign rfl) ?_
  refine w_end ?_
  refine q_then ?_
  refine c_seq ?_
  refine c_seq ?_
  obtain ⟨o19, hj, h'⟩ := bind_some h
  clear h
  refine c_cut (fun e a w => e = .normal ∧ ∃ (ρ : Nat → Value) (σ : St), a = fr 96 (updL ρ [(3, (Sl a5 r2.1 c6)), (4, (Sl a7 r2.2.1 c8)), (5, (Sl a9 r2.2.2 c10)), (6, (Sl a15 r12 c16)), (34, (B o19))]) ∧ w = σ.w ∧ Hp S0 σ0 σ [Ch.own n0 n0 (Sl a5 r2.1 c6) r2.1, Ch.own n0 n0 (Sl a7 r2.2.1 c8) r2.2.1, Ch.own n0 n0 (Sl a9 r2.2.2 c10) r2.2.2, Ch.own n0 n0 (Sl a15 r12 c16) r12]) ?_ ?_
  ·clear h'
   rename _ = some o19 => h
   refine rg ?_
   refine st (v := (Sl a15 r12 c16)) (rv_move rfl) ?_
   refine st (v := (Sl a5 r2.1 c6)) (rv_move rfl) ?_
   refine st (v := (Sl a7 r2.2.1 c8)) (rv_move rfl) ?_
   refine st (v := (Sl a9 r2.2.2 c10)) (rv_move rfl) ?_
   obtain ⟨r20, hx21, h'⟩ := bind_some h
   clear h
   have h := h'; clear h'
   have hc22 := c_spec_InBox (alist_0 := a5) (clist_0 := c6) (alow_1 := a7) (clow_1 := c8) (ahigh_2 := a9) (chigh_2 := c10) hx21
   have hle := Nat.le_trans hn0 H.size
   refine st_call (cx_lend (Loan.lend (Loan.lend (Loan.lend Loan.nil))) hc22 (ent_f hc22.fn rfl) (show Hp S0 σ0 _ ([Ch.own n0 n0 (Sl a5 r2.1 c6) r2.1, Ch.own n0 n0 (Sl a7 r2.2.1 c8) r2.2.1, Ch.own n0 n0 (Sl a9 r2.2.2 c10) r2.2.2] ++ ([] ++ [Ch.own n0 n0 (Sl a15 r12 c16) r12, Ch.ro 0 (Sl acode_0 code_0 ccode_0) code_0])) from (H.sel' [1, 2, 3, 0, 4] rfl rfl)) (by rintro _ _ _ ⟨_, _, rfl, rfl⟩; exact ⟨Ab.ownSc, trivial⟩)) wn ?_
   rintro _ σ25 ⟨_, ⟨a23, c24, rfl, rfl⟩, H, -, -⟩
   replace H : Hp S0 σ0 σ25 [Ch.own σ18.size σ18.size (Sl a23 r20 c24) r20, Ch.own n0 n0 (Sl a5 r2.1 c6) r2.1, Ch.own n0 n0 (Sl a7 r2.2.1 c8) r2.2.1, Ch.own n0 n0 (Sl a9 r2.2.2 c10) r2.2.2, Ch.own n0 n0 (Sl a15 r12 c16) r12, Ch.ro 0 (Sl acode_0 code_0 ccode_0) code_0] := H
   replace H := H.ownLow 0 n0 n0 rfl hle hle
   clear hle
   replace H : Hp S0 σ0 σ25 [Ch.own n0 n0 (Sl a23 r20 c24) r20, Ch.own n0 n0 (Sl a5 r2.1 c6) r2.1, Ch.own n0 n0 (Sl a7 r2.2.1 c8) r2.2.1, Ch.own n0 n0 (Sl a9 r2.2.2 c10) r2.2.2, Ch.own n0 n0 (Sl a15 r12 c16) r12, Ch.ro 0 (Sl acode_0 code_0 ccode_0) code_0] := H
   obtain ⟨σ26, hw27, H, -⟩ := H.pub 0 rfl (Nat.le_refl _)
   rw [← hw27]; clear hw27
   replace H := H.roLow 0 0 rfl (Nat.zero_le _)
   obtain ⟨r28, hx29, h'⟩ := bind_some h
   clear h
   have h := h'; clear h'
   have hc30 := c_laws_equalInts (aa_0 := a15) (ca_0 := c16) (ab_1 := a23) (cb_1 := c24) hx29
   have hle := Nat.le_trans hn0 H.size
   refine st_call (cx_lend (Loan.lend (Loan.same Loan.nil)) hc30 (ent_f hc30.fn rfl) (show Hp S0 σ0 _ ([Ch.own n0 n0 (Sl a15 r12 c16) r12] ++ ([Ch.ro 0 (Sl a23 r20 c24) r20] ++ [Ch.ro 0 (Sl a23 r20 c24) r20, Ch.ro n0 (Sl a23 r20 c24) r20, Ch.own n0 n0 (Sl a5 r2.1 c6) r2.1, Ch.own n0 n0 (Sl a7 r2.2.1 c8) r2.2.1, Ch.own n0 n0 (Sl a9 r2.2.2 c10) r2.2.2, Ch.ro 0 (Sl acode_0 code_0 ccode_0) code_0])) from (H.sel' [5, 0, 0, 1, 2, 3, 4, 6] rfl rfl)) (by rintro _ _ _ ⟨rfl, rfl⟩; exact trivial)) wn ?_
   rintro _ σ31 ⟨_, ⟨rfl, rfl⟩, H, -, -⟩
   replace H : Hp S0 σ0 σ31 [Ch.own n0 n0 (Sl a15 r12 c16) r12, Ch.ro 0 (Sl a23 r20 c24) r20, Ch.ro n0 (Sl a23 r20 c24) r20, Ch.own n0 n0 (Sl a5 r2.1 c6) r2.1, Ch.own n0 n0 (Sl a7 r2.2.1 c8) r2.2.1, Ch.own n0 n0 (Sl a9 r2.2.2 c10) r2.2.2, Ch.ro 0 (Sl acode_0 code_0 ccode_0) code_0] := H
   clear hle
   replace H : Hp S0 σ0 σ31 [Ch.own n0 n0 (Sl a15 r12 c16) r12, Ch.ro 0 (Sl a23 r20 c24) r20, Ch.ro n0 (Sl a23 r20 c24) r20, Ch.own n0 n0 (Sl a5 r2.1 c6) r2.1, Ch.own n0 n0 (Sl a7 r2.2.1 c8) r2.2.1, Ch.own n0 n0 (Sl a9 r2.2.2 c10) r2.2.2, Ch.ro 0 (Sl acode_0 code_0 ccode_0) code_0] := H
   refine st (v := (B (!r28))) (rv_not rfl) ?_
   refine st (v := (B (!r28))) (rv_move rfl) ?_
   rcases Bool.eq_false_or_eq_true (!r28) with hb32 | hb32
   ·replace h := bif_t hb32 h
    refine st_skip (congrArg some hb32) ?_
    refine st_skip (congrArg some hb32) ?_
    refine st_skip (congrArg some hb32) ?_
    refine st (v := (B true)) (rv_pick_t (congrArg B hb32) rfl) ?_
    refine w_end ?_
    obtain rfl := Option.some.inj h
    exact ⟨rfl, _, σ31, fr_join ⟨rfl, rfl, rfl, rfl, rfl, trivial⟩, rfl, H.sel' [3, 4, 5, 0] rfl rfl⟩
   ·replace h := bif_f hb32 h
    refine st_g (v := (Sl a15 r12 c16)) (congrArg some hb32) (rv_move rfl) ?_
    refine st_g (v := (I (r12.length : Int))) (congrArg some hb32) (rv_len Try.underlying25 rfl) ?_
    refine st_g (v := (B ((r12.length : Int) == 0))) (congrArg some hb32) (rv_eql (a := (r12.length : Int)) (b := 0) rfl rfl) ?_
    refine st (v := (B ((r12.length : Int) == 0))) (rv_pick_f (congrArg B hb32) rfl) ?_
    refine w_end ?_
    obtain rfl := Option.some.inj h
    exact ⟨rfl, _, σ31, fr_join ⟨rfl, rfl, rfl, rfl, rfl, trivial⟩, rfl, H.sel' [3, 4, 5, 0] rfl rfl⟩
  ·clear hj
   have h := h'
   clear h' H
   rintro e a w ⟨rfl, ρ, σ33, rfl, rfl, H⟩
   refine q_then ?_
   refine cd_cond o19 rfl (fun hb34 => ?_) (fun hb34 => ?_)
   ·replace h := bif_t hb34 h
    refine c_seq ?_
    refine rg ?_
    refine st (v := (Sl a15 r12 c16)) (rv_move rfl) ?_
    refine st (v := (Sl a5 r2.1 c6)) (rv_move rfl) ?_
    refine st (v := (Sl a7 r2.2.1 c8)) (rv_move rfl) ?_
    refine st (v := (Sl a9 r2.2.2 c10)) (rv_move rfl) ?_
    obtain ⟨σ35, hw36, H, -⟩ := H.pub 0 rfl (Nat.le_refl _)
    rw [← hw36]; clear hw36
    obtain ⟨σ37, hw38, H, -⟩ := H.pub 1 rfl (Nat.le_refl _)
    rw [← hw38]; clear hw38
    obtain ⟨σ39, hw40, H, -⟩ := H.pub 2 rfl (Nat.le_refl _)
    rw [← hw40]; clear hw40
    replace H := H.roLow 2 0 rfl (Nat.zero_le _)
    replace H := H.roLow 2 0 rfl (Nat.zero_le _)
    replace H := H.roLow 2 0 rfl (Nat.zero_le _)
    obtain ⟨r41, hx42, h'⟩ := bind_some h
    clear h
    have h := h'; clear h'
    have hc43 := c_spec_InBox (alist_0 := a5) (clist_0 := c6) (alow_1 := a7) (clow_1 := c8) (ahigh_2 := a9) (chigh_2 := c10) hx42
    refine st_call (cx_call hc43 (ent_f hc43.fn rfl) hn0 (show Hp S0 σ0 _ ([Ch.ro 0 (Sl a5 r2.1 c6) r2.1, Ch.ro 0 (Sl a7 r2.2.1 c8) r2.2.1, Ch.ro 0 (Sl a9 r2.2.2 c10) r2.2.2] ++ [Ch.ro 0 (Sl a9 r2.2.2 c10) r2.2.2, Ch.ro 0 (Sl a7 r2.2.1 c8) r2.2.1, Ch.ro 0 (Sl a5 r2.1 c6) r2.1, Ch.ro n0 (Sl a9 r2.2.2 c10) r2.2.2, Ch.ro n0 (Sl a7 r2.2.1 c8) r2.2.1, Ch.ro n0 (Sl a5 r2.1 c6) r2.1, Ch.own n0 n0 (Sl a15 r12 c16) r12]) from (H.sel' [2, 1, 0, 0, 1, 2, 3, 4, 5, 6] rfl rfl))) wn ?_
    rintro _ σ46 ⟨_, ⟨a44, c45, rfl, rfl⟩, H, -⟩
    replace H : Hp S0 σ0 σ46 [Ch.own n0 n0 (Sl a44 r41 c45) r41, Ch.ro 0 (Sl a9 r2.2.2 c10) r2.2.2, Ch.ro 0 (Sl a7 r2.2.1 c8) r2.2.1, Ch.ro 0 (Sl a5 r2.1 c6) r2.1, Ch.ro n0 (Sl a9 r2.2.2 c10) r2.2.2, Ch.ro n0 (Sl a7 r2.2.1 c8) r2.2.1, Ch.ro n0 (Sl a5 r2.1 c6) r2.1, Ch.own n0 n0 (Sl a15 r12 c16) r12] := H
    replace H : Hp S0 σ0 σ46 [Ch.own n0 n0 (Sl a44 r41 c45) r41, Ch.own n0 n0 (Sl a15 r12 c16) r12] := H.sel' [0, 7] rfl rfl
    obtain ⟨σ47, hw48, H, -⟩ := H.pub 1 rfl (Nat.le_refl _)
    rw [← hw48]; clear hw48
    obtain ⟨σ49, hw50, H, -⟩ := H.pub 1 rfl (Nat.le_refl _)
    rw [← hw50]; clear hw50
    replace H := H.roLow 1 0 rfl (Nat.zero_le _)
    replace H := H.roLow 1 0 rfl (Nat.zero_le _)
    obtain ⟨r51, hx52, h'⟩ := bind_some h
    clear h
    have h := h'; clear h'
    have hc53 := c_laws_equalInts (aa_0 := a15) (ca_0 := c16) (ab_1 := a44) (cb_1 := c45) hx52
    refine st_call (cx_call hc53 (ent_f hc53.fn rfl) hn0 (show Hp S0 σ0 _ ([Ch.ro 0 (Sl a15 r12 c16) r12, Ch.ro 0 (Sl a44 r41 c45) r41] ++ [Ch.ro 0 (Sl a44 r41 c45) r41, Ch.ro 0 (Sl a15 r12 c16) r12, Ch.ro n0 (Sl a44 r41 c45) r41, Ch.ro n0 (Sl a15 r12 c16) r12]) from (H.sel' [1, 0, 0, 1, 2, 3] rfl rfl))) wn ?_
    rintro _ σ54 ⟨_, ⟨rfl, rfl⟩, H, -⟩
    replace H : Hp S0 σ0 σ54 [Ch.ro 0 (Sl a44 r41 c45) r41, Ch.ro 0 (Sl a15 r12 c16) r12, Ch.ro n0 (Sl a44 r41 c45) r41, Ch.ro n0 (Sl a15 r12 c16) r12] := H
    refine st (v := (B r51)) (rv_assign rfl) ?_
    refine w_end ?_
    refine q_then ?_
    refine c_ret ?_
    refine q_then_r ?_
    obtain rfl := Option.some.inj h
    exact fin_ret (v := (B r51)) (results_ok Try.results8 (res_tmp (v := (B r51)) rfl res_nil) rfl) ⟨rfl, rfl⟩ (H.sel' [] rfl rfl)
   ·replace h := bif_f hb34 h
    refine c_skip ?_
    refine q_then ?_
    refine c_seq ?_
    refine c_seq ?_
    refine rg ?_
    refine st (v := (I 0)) (rv_assign rfl) ?_
    refine w_end ?_
    refine q_then ?_
    obtain ⟨o55, hj, h'⟩ := bind_some h
    clear h
    refine c_cut (fun e a w => (∃ t, o55 = (.inl t) ∧ e = .normal ∧ ∃ (ρ : Nat → Value) (σ : St), a = fr 96 (updL ρ [(3, (Sl a5 r2.1 c6)), (6, (Sl a15 r12 c16))]) ∧ w = σ.w ∧ Hp S0 σ0 σ [Ch.own n0 n0 (Sl a5 r2.1 c6) r2.1, Ch.own n0 n0 (Sl a15 r12 c16) r12]) ∨ (∃ t, o55 = (.inr t) ∧ e = .ret ∧ ∃ (ρ : Nat → Value) (σ : St), a = fr 96 (updL ρ [(2, (B t))]) ∧ w = σ.w ∧ Hp S0 σ0 σ [])) ?_ ?_
    ·clear h'
     rename _ = some o55 => h
     refine c_blk ?_
     refine wp_loopM _ h (fun s56 a w => ∃ (ρ : Nat → Value) (σ : St), a = fr 96 (updL ρ [(3, (Sl a5 r2.1 c6)), (4, (Sl a7 r2.2.1 c8)), (5, (Sl a9 r2.2.2 c10)), (6, (Sl a15 r12 c16)), (7, (I s56))]) ∧ w = σ.w ∧ Hp S0 σ0 σ [Ch.own n0 n0 (Sl a5 r2.1 c6) r2.1, Ch.own n0 n0 (Sl a7 r2.2.1 c8) r2.2.1, Ch.own n0 n0 (Sl a9 r2.2.2 c10) r2.2.2, Ch.own n0 n0 (Sl a15 r12 c16) r12]) ⟨_, σ33, fr_join ⟨rfl, rfl, rfl, rfl, rfl, trivial⟩, rfl, H.sel' [0, 1, 2, 3] rfl rfl⟩ ?_
     clear h H
     rintro s56 a w o ⟨ρ, σ57, rfl, rfl, H⟩ h hres
     refine c_seq ?_
     refine c_seq ?_
     refine rg ?_
     refine st (v := (I s56)) (rv_move rfl) ?_
     refine st (v := (Sl a5 r2.1 c6)) (rv_move rfl) ?_
     refine st (v := (I (r2.1.length : Int))) (rv_len Try.underlying23 rfl) ?_
     refine st (v := (B (decide (s56 < (r2.1.length : Int))))) (rv_lss (a := s56) (b := (r2.1.length : Int)) rfl rfl) ?_
     refine w_end ?_
     refine q_then ?_
     refine cd_cond (decide (s56 < (r2.1.length : Int))) rfl (fun hb58 => ?_) (fun hb58 => ?_)
     ·replace h := bif_t hb58 h
      refine c_skip ?_
      refine q_then ?_
      refine c_seq ?_
      refine c_blk ?_
      refine c_seq ?_
      refine rg ?_
      refine st (v := (B true)) (rv_assign rfl) ?_
      refine w_end ?_
      refine q_then ?_
      refine c_seq ?_
      refine c_seq ?_
      refine rg ?_
      refine st (v := (I 0)) (rv_assign rfl) ?_
      refine w_end ?_
      refine q_then ?_
      obtain ⟨o59, hj, h'⟩ := bind_some h
      clear h
      refine c_cut (fun e a w => e = .normal ∧ ∃ (ρ : Nat → Value) (σ : St), a = fr 96 (updL ρ [(3, (Sl a5 r2.1 c6)), (4, (Sl a7 r2.2.1 c8)), (5, (Sl a9 r2.2.2 c10)), (6, (Sl a15 r12 c16)), (7, (I s56)), (8, (B o59))]) ∧ w = σ.w ∧ Hp S0 σ0 σ [Ch.own n0 n0 (Sl a5 r2.1 c6) r2.1, Ch.own n0 n0 (Sl a7 r2.2.1 c8) r2.2.1, Ch.own n0 n0 (Sl a9 r2.2.2 c10) r2.2.2, Ch.own n0 n0 (Sl a15 r12 c16) r12]) ?_ ?_
      ·clear h'
       rename _ = some o59 => h
       refine c_blk ?_
       refine wp_loopM _ h (fun s60 a w => ∃ (ρ : Nat → Value) (σ : St), a = fr 96 (updL ρ [(3, (Sl a5 r2.1 c6)), (4, (Sl a7 r2.2.1 c8)), (5, (Sl a9 r2.2.2 c10)), (6, (Sl a15 r12 c16)), (7, (I s56)), (8, (B s60.1)), (9, (I s60.2))]) ∧ w = σ.w ∧ Hp S0 σ0 σ [Ch.own n0 n0 (Sl a5 r2.1 c6) r2.1, Ch.own n0 n0 (Sl a7 r2.2.1 c8) r2.2.1, Ch.own n0 n0 (Sl a9 r2.2.2 c10) r2.2.2, Ch.own n0 n0 (Sl a15 r12 c16) r12]) ⟨_, σ57, fr_join ⟨rfl, rfl, rfl, rfl, rfl, rfl, rfl, trivial⟩, rfl, H.sel' [0, 1, 2, 3] rfl rfl⟩ ?_
       clear h H
       rintro s60 a w o ⟨ρ, σ61, rfl, rfl, H⟩ h hres
       refine c_seq ?_
       refine c_seq ?_
       refine rg ?_
       refine st (v := (I s60.2)) (rv_move rfl) ?_
       refine st (v := (B (decide (s60.2 < 4)))) (rv_lss (a := s60.2) (b := 4) rfl rfl) ?_
       refine w_end ?_
       refine q_then ?_
       refine cd_cond (decide (s60.2 < 4)) rfl (fun hb62 => ?_) (fun hb62 => ?_)
       ·replace h := bif_t hb62 h
        refine c_skip ?_
        refine q_then ?_
        refine c_seq ?_
        refine c_blk ?_
        obtain ⟨o63, hj, h'⟩ := bind_some h
        clear h
        refine c_cut (fun e a w => e = .normal ∧ ∃ (ρ : Nat → Value) (σ : St), a = fr 96 (updL ρ [(3, (Sl a5 r2.1 c6)), (4, (Sl a7 r2.2.1 c8)), (5, (Sl a9 r2.2.2 c10)), (6, (Sl a15 r12 c16)), (7, (I s56)), (8, (B o63)), (9, (I s60.2))]) ∧ w = σ.w ∧ Hp S0 σ0 σ [Ch.own n0 n0 (Sl a5 r2.1 c6) r2.1, Ch.own n0 n0 (Sl a7 r2.2.1 c8) r2.2.1, Ch.own n0 n0 (Sl a9 r2.2.2 c10) r2.2.2, Ch.own n0 n0 (Sl a15 r12 c16) r12]) ?_ ?_
        ·clear h'
         rename _ = some o63 => h
         refine rgP (σ := σ61) 29 (by kernel_rfl) (by kernel_rfl) (by kernel_rfl) ?_
         refine sq (v := (B s60.1)) (rv_move rfl) ?_
         refine sq (v := (B s60.1)) (rv_move rfl) ?_
         rcases Bool.eq_false_or_eq_true s60.1 with hb64 | hb64
         ·replace h := bif_t hb64 h
          refine sq_g (v := (Sl a7 r2.2.1 c8)) (congrArg some hb64) (rv_move rfl) ?_
          refine sq_g (v := (I s60.2)) (congrArg some hb64) (rv_move rfl) ?_
          obtain ⟨x65, hx66, h'⟩ := bind_some h
          clear h
          have h := h'; clear h'
          obtain ⟨b68, o69, hi67, -⟩ := (H.own 1 rfl).ix hx66
          refine sq_g (v := (pt b68 o69)) (congrArg some hb64) (rv_ix Try.underlying25 ti3 rfl rfl hi67) ?_
          have hc70 := ((H.own 1 rfl).at hx66 hi67).int
          refine sq_g (v := (I x65)) (congrArg some hb64) (rv_load1 Try.underlying3 rfl rfl hc70) ?_
          refine sq_g (v := (Sl a5 r2.1 c6)) (congrArg some hb64) (rv_move rfl) ?_
          refine sq_g (v := (I s56)) (congrArg some hb64) (rv_move rfl) ?_
          obtain ⟨x71, hx72, h'⟩ := bind_some h
          clear h
          have h := h'; clear h'
          obtain ⟨b74, o75, hi73, -⟩ := (H.own 0 rfl).ix hx72
          refine sq_g (v := (pt b74 o75)) (congrArg some hb64) (rv_ix Try.underlying23 ti38 rfl rfl hi73) ?_
          refine sq_g (v := (pt b74 (o75 + 1))) (congrArg some hb64) (rv_fieldAddr (off := 1) (ft := 25) Try.underlying38 rfl ti25 rfl rfl) ?_
          obtain ⟨v79, hc80, hR78⟩ := ((H.own 0 rfl).at hx72 hi73).snd.fst.slice
          obtain ⟨a76, c77, rfl⟩ := hR78.isSl
          replace H := H.add (d := Ch.ro n0 (Sl a76 x71.2.1 c77) x71.2.1) hR78 (fun _ h => h)
          clear hR78
          refine sq_g (v := (Sl a76 x71.2.1 c77)) (congrArg some hb64) (rv_load1 Try.underlying25 rfl rfl hc80) ?_
          refine sq_g (v := (I s60.2)) (congrArg some hb64) (rv_move rfl) ?_
          obtain ⟨x81, hx82, h'⟩ := bind_some h
          clear h
          have h := h'; clear h'
          obtain ⟨b84, o85, hi83, -⟩ := (H.ro 0 rfl).ix hx82
          refine sq_g (v := (pt b84 o85)) (congrArg some hb64) (rv_ix Try.underlying25 ti3 rfl rfl hi83) ?_
          have hc86 := ((H.ro 0 rfl).at hx82 hi83).int
          refine sq_g (v := (I x81)) (congrArg some hb64) (rv_load1 Try.underlying3 rfl rfl hc86) ?_
          refine sq_g (v := (B (decide (x65 ≤ x81)))) (congrArg some hb64) (rv_leq (a := x65) (b := x81) rfl rfl) ?_
          refine sq (v := (B (decide (x65 ≤ x81)))) (rv_pick_t (congrArg B hb64) rfl) ?_
          refine sq (v := (B (decide (x65 ≤ x81)))) (rv_move rfl) ?_
          rcases Bool.eq_false_or_eq_true (decide (x65 ≤ x81)) with hb87 | hb87
          ·replace h := bif_t hb87 h
           refine sq_g (v := (Sl a5 r2.1 c6)) (congrArg some hb87) (rv_move rfl) ?_
           refine sq_g (v := (I s56)) (congrArg some hb87) (rv_move rfl) ?_
           obtain ⟨x88, hx89, h'⟩ := bind_some h
           clear h
           have h := h'; clear h'
           obtain ⟨b91, o92, hi90, -⟩ := (H.own 1 rfl).ix hx89
           refine sq_g (v := (pt b91 o92)) (congrArg some hb87) (rv_ix Try.underlying23 ti38 rfl rfl hi90) ?_
           refine sq_g (v := (pt b91 (o92 + 1))) (congrArg some hb87) (rv_fieldAddr (off := 1) (ft := 25) Try.underlying38 rfl ti25 rfl rfl) ?_
           obtain ⟨v96, hc97, hR95⟩ := ((H.own 1 rfl).at hx89 hi90).snd.fst.slice
           obtain ⟨a93, c94, rfl⟩ := hR95.isSl
           replace H := H.add (d := Ch.ro n0 (Sl a93 x88.2.1 c94) x88.2.1) hR95 (fun _ h => h)
           clear hR95
           refine sq_g (v := (Sl a93 x88.2.1 c94)) (congrArg some hb87) (rv_load1 Try.underlying25 rfl rfl hc97) ?_
           refine sq_g (v := (I s60.2)) (congrArg some hb87) (rv_move rfl) ?_
           obtain ⟨x98, hx99, h'⟩ := bind_some h
           clear h
           have h := h'; clear h'
           obtain ⟨b101, o102, hi100, -⟩ := (H.ro 0 rfl).ix hx99
           refine sq_g (v := (pt b101 o102)) (congrArg some hb87) (rv_ix Try.underlying25 ti3 rfl rfl hi100) ?_
           have hc103 := ((H.ro 0 rfl).at hx99 hi100).int
           refine sq_g (v := (I x98)) (congrArg some hb87) (rv_load1 Try.underlying3 rfl rfl hc103) ?_
           refine sq_g (v := (Sl a9 r2.2.2 c10)) (congrArg some hb87) (rv_move rfl) ?_
           refine sq_g (v := (I s60.2)) (congrArg some hb87) (rv_move rfl) ?_
           obtain ⟨x104, hx105, h'⟩ := bind_some h
           clear h
           have h := h'; clear h'
           obtain ⟨b107, o108, hi106, -⟩ := (H.own 4 rfl).ix hx105
           refine sq_g (v := (pt b107 o108)) (congrArg some hb87) (rv_ix Try.underlying25 ti3 rfl rfl hi106) ?_
           have hc109 := ((H.own 4 rfl).at hx105 hi106).int
           refine sq_g (v := (I x104)) (congrArg some hb87) (rv_load1 Try.underlying3 rfl rfl hc109) ?_
           refine sq_end ?_
           intro σ110 hm111
           replace H := H.grow (hm111.mono fun _ h => h); clear hm111
           refine st_g (v := (B (decide (x98 ≤ x104)))) (congrArg some hb87) (rv_leq (a := x98) (b := x104) rfl rfl) ?_
           refine st (v := (B (decide (x98 ≤ x104)))) (rv_pick_t (congrArg B hb87) rfl) ?_
           refine st (v := (B (decide (x98 ≤ x104)))) (rv_assign rfl) ?_
           refine w_end ?_
           obtain rfl := Option.some.inj h
           exact ⟨rfl, _, σ110, fr_join ⟨rfl, rfl, rfl, rfl, rfl, rfl, rfl, trivial⟩, rfl, H.sel' [2, 3, 4, 5] rfl rfl⟩
          ·replace h := bif_f hb87 h
           refine sq_skip (congrArg some hb87) ?_
           refine sq_skip (congrArg some hb87) ?_
           refine sq_skip (congrArg some hb87) ?_
           refine sq_skip (congrArg some hb87) ?_
           refine sq_skip (congrArg some hb87) ?_
           refine sq_skip (congrArg some hb87) ?_
           refine sq_skip (congrArg some hb87) ?_
           refine sq_skip (congrArg some hb87) ?_
           refine sq_skip (congrArg some hb87) ?_
           refine sq_skip (congrArg some hb87) ?_
           refine sq_skip (congrArg some hb87) ?_
           refine sq_skip (congrArg some hb87) ?_
           refine sq_end ?_
           intro σ112 hm113
           replace H := H.grow (hm113.mono fun _ h => h); clear hm113
           refine st_skip (congrArg some hb87) ?_
           refine st (v := (B false)) (rv_pick_f (congrArg B hb87) rfl) ?_
           refine st (v := (B false)) (rv_assign rfl) ?_
           refine w_end ?_
           obtain rfl := Option.some.inj h
           exact ⟨rfl, _, σ112, fr_join ⟨rfl, rfl, rfl, rfl, rfl, rfl, rfl, trivial⟩, rfl, H.sel' [1, 2, 3, 4] rfl rfl⟩
         ·replace h := bif_f hb64 h
          refine sq_skip (congrArg some hb64) ?_
          refine sq_skip (congrArg some hb64) ?_
          refine sq_skip (congrArg some hb64) ?_
          refine sq_skip (congrArg some hb64) ?_
          refine sq_skip (congrArg some hb64) ?_
          refine sq_skip (congrArg some hb64) ?_
          refine sq_skip (congrArg some hb64) ?_
          refine sq_skip (congrArg some hb64) ?_
          refine sq_skip (congrArg some hb64) ?_
          refine sq_skip (congrArg some hb64) ?_
          refine sq_skip (congrArg some hb64) ?_
          refine sq_skip (congrArg some hb64) ?_
          refine sq_skip (congrArg some hb64) ?_
          refine sq (v := (B false)) (rv_pick_f (congrArg B hb64) rfl) ?_
          refine sq (v := (B false)) (rv_move rfl) ?_
          refine sq_skip rfl ?_
          refine sq_skip rfl ?_
          refine sq_skip rfl ?_
          refine sq_skip rfl ?_
          refine sq_skip rfl ?_
          refine sq_skip rfl ?_
          refine sq_skip rfl ?_
          refine sq_skip rfl ?_
          refine sq_skip rfl ?_
          refine sq_skip rfl ?_
          refine sq_skip rfl ?_
          refine sq_skip rfl ?_
          refine sq_end ?_
          intro σ114 hm115
          replace H := H.grow (hm115.mono fun _ h => h); clear hm115
          refine st_skip rfl ?_
          refine st (v := (B false)) (rv_pick_f rfl rfl) ?_
          refine st (v := (B false)) (rv_assign rfl) ?_
          refine w_end ?_
          obtain rfl := Option.some.inj h
          exact ⟨rfl, _, σ114, fr_join ⟨rfl, rfl, rfl, rfl, rfl, rfl, rfl, trivial⟩, rfl, H.sel' [0, 1, 2, 3] rfl rfl⟩
        ·clear hj
         have h := h'
         clear h' H
         rintro e a w ⟨rfl, ρ, σ116, rfl, rfl, H⟩
         refine q_blk ?_
         refine q_then ?_
         refine rg ?_
         refine st (v := (I s60.2)) (rv_move rfl) ?_
         refine st (v := (I (w64 (s60.2 + 1)))) (rv_add (a := s60.2) (b := 1) rfl rfl) ?_
         refine st (v := (I (w64 (s60.2 + 1)))) (rv_assign rfl) ?_
         refine w_end ?_
         refine q_then ?_
         obtain rfl := Option.some.inj h
         exact ⟨_, rfl, _, σ116, fr_join ⟨rfl, rfl, rfl, rfl, rfl, rfl, rfl, trivial⟩, rfl, H.sel' [0, 1, 2, 3] rfl rfl⟩
       ·replace h := bif_f hb62 h
        refine c_exit ?_
        refine q_then_x ?_
        refine q_then_x ?_
        refine q_blk_hit ?_
        obtain rfl := Option.some.inj h
        obtain rfl := hres _ rfl
        exact ⟨rfl, _, σ61, fr_join ⟨rfl, rfl, rfl, rfl, rfl, rfl, trivial⟩, rfl, H.sel' [0, 1, 2, 3] rfl rfl⟩
      ·clear hj
       have h := h'
       clear h' H
       rintro e a w ⟨rfl, ρ, σ117, rfl, rfl, H⟩
       refine q_then ?_
       refine c_seq ?_
       refine rg ?_
       refine st (v := (Sl a15 r12 c16)) (rv_move rfl) ?_
       refine st (v := (Sl a5 r2.1 c6)) (rv_move rfl) ?_
       refine st (v := (I s56)) (rv_move rfl) ?_
       obtain ⟨x118, hx119, h'⟩ := bind_some h
       clear h
       have h := h'; clear h'
       obtain ⟨b121, o122, hi120, -⟩ := (H.own 0 rfl).ix hx119
       refine st (v := (pt b121 o122)) (rv_ix Try.underlying23 ti38 rfl rfl hi120) ?_
       refine st (v := (pt b121 (o122 + 0))) (rv_fieldAddr (off := 0) (ft := 3) Try.underlying38 rfl ti3 rfl rfl) ?_
       have hc123 := ((H.own 0 rfl).at hx119 hi120).fst.int
       refine st (v := (I x118.1)) (rv_load1 Try.underlying3 rfl rfl hc123) ?_
       obtain ⟨r124, hx125, h'⟩ := bind_some h
       clear h
       have h := h'; clear h'
       have hc126 := c_laws_isIn (alist_0 := a15) (clist_0 := c16) hx125
       have hle := Nat.le_trans hn0 H.size
       refine st_call (cx_lend (Loan.lend Loan.nil) hc126 (ent_f hc126.fn rfl) (show Hp S0 σ0 _ ([Ch.own n0 n0 (Sl a15 r12 c16) r12] ++ ([] ++ [Ch.own n0 n0 (Sl a5 r2.1 c6) r2.1, Ch.own n0 n0 (Sl a7 r2.2.1 c8) r2.2.1, Ch.own n0 n0 (Sl a9 r2.2.2 c10) r2.2.2])) from (H.sel' [3, 0, 1, 2] rfl rfl)) (by rintro _ _ _ ⟨rfl, rfl⟩; exact trivial)) wn ?_
       rintro _ σ127 ⟨_, ⟨rfl, rfl⟩, H, -, -⟩
       replace H : Hp S0 σ0 σ127 [Ch.own n0 n0 (Sl a15 r12 c16) r12, Ch.own n0 n0 (Sl a5 r2.1 c6) r2.1, Ch.own n0 n0 (Sl a7 r2.2.1 c8) r2.2.1, Ch.own n0 n0 (Sl a9 r2.2.2 c10) r2.2.2] := H
       clear hle
       replace H : Hp S0 σ0 σ127 [Ch.own n0 n0 (Sl a15 r12 c16) r12, Ch.own n0 n0 (Sl a5 r2.1 c6) r2.1, Ch.own n0 n0 (Sl a7 r2.2.1 c8) r2.2.1, Ch.own n0 n0 (Sl a9 r2.2.2 c10) r2.2.2] := H
       refine st (v := (B o59)) (rv_move rfl) ?_
       refine st (v := (B (r124 != o59))) (rv_bneq Try.underlying4 rfl rfl) ?_
       refine w_end ?_
       refine q_then ?_
       refine cd_cond (r124 != o59) rfl (fun hb128 => ?_) (fun hb128 => ?_)
       ·replace h := bif_t hb128 h
        refine c_seq ?_
        refine rg ?_
        refine st (v := (B false)) (rv_assign rfl) ?_
        refine w_end ?_
        refine q_then ?_
        refine c_ret ?_
        refine q_blk_r ?_
        refine q_then_r ?_
        refine q_then_r ?_
        refine q_blk_r ?_
        obtain rfl := Option.some.inj h
        obtain rfl := hres _ rfl
        exact .inr (⟨_, rfl, rfl, _, σ127, fr_join ⟨rfl, trivial⟩, rfl, H.sel' [] rfl rfl⟩)
       ·replace h := bif_f hb128 h
        refine c_skip ?_
        refine q_blk ?_
        refine q_then ?_
        refine rg ?_
        refine st (v := (I s56)) (rv_move rfl) ?_
        refine st (v := (I (w64 (s56 + 1)))) (rv_add (a := s56) (b := 1) rfl rfl) ?_
        refine st (v := (I (w64 (s56 + 1)))) (rv_assign rfl) ?_
        refine w_end ?_
        refine q_then ?_
        obtain rfl := Option.some.inj h
        exact ⟨_, rfl, _, σ127, fr_join ⟨rfl, rfl, rfl, rfl, rfl, trivial⟩, rfl, H.sel' [1, 2, 3, 0] rfl rfl⟩
     ·replace h := bif_f hb58 h
      refine c_exit ?_
      refine q_then_x ?_
      refine q_then_x ?_
      refine q_blk_hit ?_
      obtain rfl := Option.some.inj h
      obtain rfl := hres _ rfl
      exact .inl ⟨_, rfl, rfl, _, σ57, fr_join ⟨rfl, rfl, trivial⟩, rfl, H.sel' [0, 3] rfl rfl⟩
    ·clear hj
     have h := h'
     clear h' H
     rintro e a w (⟨t129, rfl, rfl, ρ, σ130, rfl, rfl, H⟩ | ⟨t131, rfl, rfl, ρ, σ132, rfl, rfl, H⟩)
     ·replace h := selim_l h
      refine q_then ?_
      refine c_seq ?_
      refine rg ?_
      refine st (v := (Sl a15 r12 c16)) (rv_move rfl) ?_
      refine st (v := (I (r12.length : Int))) (rv_len Try.underlying25 rfl) ?_
      refine st (v := (Sl a5 r2.1 c6)) (rv_move rfl) ?_
      refine st (v := (I (r2.1.length : Int))) (rv_len Try.underlying23 rfl) ?_
      refine st (v := (B (decide ((r12.length : Int) ≤ (r2.1.length : Int))))) (rv_leq (a := (r12.length : Int)) (b := (r2.1.length : Int)) rfl rfl) ?_
      refine st (v := (B (decide ((r12.length : Int) ≤ (r2.1.length : Int))))) (rv_assign rfl) ?_
      refine w_end ?_
      refine q_then ?_
      refine c_ret ?_
      obtain rfl := Option.some.inj h
      exact fin_ret (v := (B (decide ((r12.length : Int) ≤ (r2.1.length : Int))))) (results_ok Try.results8 (res_tmp (v := (B (decide ((r12.length : Int) ≤ (r2.1.length : Int))))) rfl res_nil) rfl) ⟨rfl, rfl⟩ (H.sel' [] rfl rfl)
     ·replace h := selim_r h
      refine q_then_r ?_
      obtain rfl := Option.some.inj h
      exact fin_ret (v := (B t131)) (results_ok Try.results8 (res_tmp (v := (B t131)) rfl res_nil) rfl) ⟨rfl, rfl⟩ (H.sel' [] rfl rfl)

end Go.Vs
