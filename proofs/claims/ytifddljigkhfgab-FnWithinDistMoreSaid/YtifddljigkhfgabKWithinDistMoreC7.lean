/- The functions compute what their models say. -/
import Derived.Test.YtifddljigkhfgabKWithinDistMoreC6
set_option linter.unusedVariables false
set_option linter.unusedSimpArgs false
set_option maxRecDepth 20000
namespace Go.Vs
open Go Go.Proofs
attribute [local irreducible] Code.wp Code.wpIn wpList wpListIn wpQuiet Calls CallsIn

theorem c_spec_WithinDist {list_0 : List (Int × (List Int) × Int)} {kind_1 : Int} {at_2 : List Int} {most_3 : Int} {alist_0 : Option Addr} {clist_0 : Nat} {aat_2 : Option Addr} {cat_2 : Nat} {r : (List (Int × Int))} (h : M.spec_WithinDist list_0 kind_1 at_2 most_3 = some r) :
    Cal2 Try.prog 16 [(Sl alist_0 list_0 clist_0), (I kind_1), (Sl aat_2 at_2 cat_2), (I most_3)] [Ch.ro 0 (Sl alist_0 list_0 clist_0) list_0, Ch.ro 0 (Sl aat_2 at_2 cat_2) at_2] (fun n0 v L => ∃ (az1 : Option Addr), ∃ (cz2 : Nat), v = (Sl az1 r cz2) ∧ L = [Ch.own n0 n0 (Sl az1 r cz2) r]) := by
 refine cal2 (n := 47) Try.func16 rfl rfl rfl rfl ?_
 intro S0 σ0 n0 hn0 H
 unfold M.spec_WithinDist at h
 refine c_seq ?_
 refine rg ?_
 refine st (v := (.slice none 0 0)) (rv_assign rfl) ?_
 refine w_end ?_
 refine q_then ?_
 refine c_seq ?_
 refine rg ?_
 refine st_ex (ex_buildSlice (el := n0) (xs := ([] : List (Int × Int))) (ps := []) (cs := []) H hn0 Try.underlying27 ti64 rfl rfl (by kernel_rfl) (.nil) rfl) (wanted_none _ rfl _) ?_
 rintro _ σ2 ⟨b1, rfl, H, -⟩
 refine st (v := (Sl (some ⟨b1, 0, none⟩) ([] : List (Int × Int)) 0)) (rv_assign rfl) ?_
 refine w_end ?_
 refine q_then ?_
 refine c_seq ?_
 refine c_seq ?_
 obtain ⟨o3, hj, h'⟩ := bind_some h
 clear h
 refine c_cut (fun e a w => e = .normal ∧ ∃ (ρ : Nat → Value) (σ : St), a = fr 47 (updL ρ [(0, (Sl alist_0 list_0 clist_0)), (1, (I kind_1)), (2, (Sl aat_2 at_2 cat_2)), (3, (I most_3)), (9, (Sl (some ⟨b1, 0, none⟩) ([] : List (Int × Int)) 0)), (21, (B o3))]) ∧ w = σ.w ∧ Hp S0 σ0 σ [Ch.ro 0 (Sl alist_0 list_0 clist_0) list_0, Ch.ro 0 (Sl aat_2 at_2 cat_2) at_2, Ch.own n0 n0 (Sl (some ⟨b1, 0, none⟩) ([] : List (Int × Int)) 0) ([] : List (Int × Int))]) ?_ ?_
 ·clear h'
  rename _ = some o3 => h
  refine rg ?_
  refine st (v := (Sl alist_0 list_0 clist_0)) (rv_move rfl) ?_
  refine st (v := (I kind_1)) (rv_move rfl) ?_
  refine st (v := (Sl aat_2 at_2 cat_2)) (rv_move rfl) ?_
  obtain ⟨r4, hx5, h'⟩ := bind_some h
  clear h
  have h := h'; clear h'
  have hc6 := c_spec_validQuery (alist_0 := alist_0) (clist_0 := clist_0) (aat_2 := aat_2) (cat_2 := cat_2) hx5
  refine st_call (cx_call hc6 (ent_f hc6.fn rfl) hn0 (show Hp S0 σ0 _ ([Ch.ro 0 (Sl alist_0 list_0 clist_0) list_0, Ch.ro 0 (Sl aat_2 at_2 cat_2) at_2] ++ [Ch.own n0 n0 (Sl (some ⟨b1, 0, none⟩) ([] : List (Int × Int)) 0) ([] : List (Int × Int)), Ch.ro 0 (Sl alist_0 list_0 clist_0) list_0, Ch.ro 0 (Sl aat_2 at_2 cat_2) at_2]) from (H.sel' [1, 2, 0, 1, 2] rfl rfl))) (wanted_none _ rfl _) ?_
  rintro _ σ7 ⟨_, ⟨rfl, rfl⟩, H, -⟩
  replace H : Hp S0 σ0 σ7 [Ch.own n0 n0 (Sl (some ⟨b1, 0, none⟩) ([] : List (Int × Int)) 0) ([] : List (Int × Int)), Ch.ro 0 (Sl alist_0 list_0 clist_0) list_0, Ch.ro 0 (Sl aat_2 at_2 cat_2) at_2] := H
  refine st (v := (B (!r4))) (rv_not rfl) ?_
  refine st (v := (B (!r4))) (rv_move rfl) ?_
  rcases Bool.eq_false_or_eq_true (!r4) with hb8 | hb8
  ·replace h := bif_t hb8 h
   refine st_skip (congrArg some hb8) ?_
   refine st_skip (congrArg some hb8) ?_
   refine st (v := (B true)) (rv_pick_t (congrArg B hb8) rfl) ?_
   refine w_end ?_
   obtain rfl := Option.some.inj h
   exact ⟨rfl, _, σ7, fr_join ⟨rfl, rfl, rfl, rfl, rfl, rfl, trivial⟩, rfl, H.sel' [1, 2, 0] rfl rfl⟩
  ·replace h := bif_f hb8 h
   refine st_g (v := (I most_3)) (congrArg some hb8) (rv_move rfl) ?_
   refine st_g (v := (B (decide (most_3 < 0)))) (congrArg some hb8) (rv_lss (a := most_3) (b := 0) rfl rfl) ?_
   refine st (v := (B (decide (most_3 < 0)))) (rv_pick_f (congrArg B hb8) rfl) ?_
   refine w_end ?_
   obtain rfl := Option.some.inj h
   exact ⟨rfl, _, σ7, fr_join ⟨rfl, rfl, rfl, rfl, rfl, rfl, trivial⟩, rfl, H.sel' [1, 2, 0] rfl rfl⟩
 ·clear hj
  have h := h'
  clear h' H
  rintro e a w ⟨rfl, ρ, σ9, rfl, rfl, H⟩
  refine q_then ?_
  refine cd_cond o3 rfl (fun hb10 => ?_) (fun hb10 => ?_)
  ·replace h := bif_t hb10 h
   refine c_seq ?_
   refine rg ?_
   refine st (v := (.slice none 0 0)) (rv_assign rfl) ?_
   refine w_end ?_
   refine q_then ?_
   refine c_ret ?_
   refine q_then_r ?_
   replace H := H.nilOwn (Int × Int) n0 n0
   obtain rfl := Option.some.inj h
   exact fin_ret (v := (.slice none 0 0)) (results_ok Try.results16 (res_tmp (v := (.slice none 0 0)) rfl res_nil) rfl) ⟨none, 0, rfl, rfl⟩ (H.sel' [0] rfl rfl)
  ·replace h := bif_f hb10 h
   refine c_skip ?_
   refine q_then ?_
   refine c_seq ?_
   refine rg ?_
   refine st (v := (Sl alist_0 list_0 clist_0)) (rv_move rfl) ?_
   refine st (v := (I kind_1)) (rv_move rfl) ?_
   refine st (v := (Sl aat_2 at_2 cat_2)) (rv_move rfl) ?_
   obtain ⟨r11, hx12, h'⟩ := bind_some h
   clear h
   have h := h'; clear h'
   have hc13 := c_spec_nearest (alist_0 := alist_0) (clist_0 := clist_0) (aat_2 := aat_2) (cat_2 := cat_2) hx12
   refine st_call (cx_call hc13 (ent_f hc13.fn rfl) hn0 (show Hp S0 σ0 _ ([Ch.ro 0 (Sl alist_0 list_0 clist_0) list_0, Ch.ro 0 (Sl aat_2 at_2 cat_2) at_2] ++ [Ch.ro 0 (Sl alist_0 list_0 clist_0) list_0, Ch.ro 0 (Sl aat_2 at_2 cat_2) at_2, Ch.own n0 n0 (Sl (some ⟨b1, 0, none⟩) ([] : List (Int × Int)) 0) ([] : List (Int × Int))]) from (H.sel' [0, 1, 0, 1, 2] rfl rfl))) (wanted_none _ rfl _) ?_
   rintro _ σ16 ⟨_, ⟨a14, c15, rfl, rfl⟩, H, -⟩
   replace H : Hp S0 σ0 σ16 [Ch.own n0 n0 (Sl a14 r11 c15) r11, Ch.ro 0 (Sl alist_0 list_0 clist_0) list_0, Ch.ro 0 (Sl aat_2 at_2 cat_2) at_2, Ch.own n0 n0 (Sl (some ⟨b1, 0, none⟩) ([] : List (Int × Int)) 0) ([] : List (Int × Int))] := H
   refine st (v := (Sl a14 r11 c15)) (rv_assign rfl) ?_
   refine w_end ?_
   refine q_then ?_
   refine c_seq ?_
   refine c_seq ?_
   refine rg ?_
   refine st (v := (I 0)) (rv_assign rfl) ?_
   refine w_end ?_
   refine q_then ?_
   obtain ⟨o17, hj, h'⟩ := bind_some h
   clear h
   refine c_cut (fun e a w => e = .normal ∧ ∃ (ρ : Nat → Value) (σ : St) (aj1 : Option Addr) (cj2 : Nat), a = fr 47 (updL ρ [(9, (Sl aj1 o17 cj2))]) ∧ w = σ.w ∧ Hp S0 σ0 σ [Ch.own n0 n0 (Sl aj1 o17 cj2) o17]) ?_ ?_
   ·clear h'
    rename _ = some o17 => h
    refine c_blk ?_
    refine wp_loopM _ h (fun s18 a w => ∃ (ρ : Nat → Value) (σ : St) (aj1 : Option Addr) (cj2 : Nat), a = fr 47 (updL ρ [(3, (I most_3)), (9, (Sl aj1 s18.1 cj2)), (10, (Sl a14 r11 c15)), (11, (I s18.2))]) ∧ w = σ.w ∧ Hp S0 σ0 σ [Ch.own n0 n0 (Sl aj1 s18.1 cj2) s18.1, Ch.own n0 n0 (Sl a14 r11 c15) r11]) ⟨_, σ16, (some ⟨b1, 0, none⟩), 0, fr_join ⟨rfl, rfl, rfl, rfl, trivial⟩, rfl, H.sel' [3, 0] rfl rfl⟩ ?_
    clear h H
    rintro s18 a w o ⟨ρ, σ19, a20, c21, rfl, rfl, H⟩ h hres
    refine c_seq ?_
    refine c_seq ?_
    refine rg ?_
    refine st (v := (I s18.2)) (rv_move rfl) ?_
    refine st (v := (Sl a14 r11 c15)) (rv_move rfl) ?_
    refine st (v := (I (r11.length : Int))) (rv_len Try.underlying27 rfl) ?_
    refine st (v := (B (decide (s18.2 < (r11.length : Int))))) (rv_lss (a := s18.2) (b := (r11.length : Int)) rfl rfl) ?_
    refine w_end ?_
    refine q_then ?_
    refine cd_cond (decide (s18.2 < (r11.length : Int))) rfl (fun hb22 => ?_) (fun hb22 => ?_)
    ·replace h := bif_t hb22 h
     refine c_skip ?_
     refine q_then ?_
     refine c_seq ?_
     obtain ⟨o23, hj, h'⟩ := bind_some h
     clear h
     refine c_cut (fun e a w => e = .normal ∧ ∃ (ρ : Nat → Value) (σ : St) (aj1 : Option Addr) (cj2 : Nat), a = fr 47 (updL ρ [(3, (I most_3)), (9, (Sl aj1 o23 cj2)), (10, (Sl a14 r11 c15)), (11, (I s18.2))]) ∧ w = σ.w ∧ Hp S0 σ0 σ [Ch.own n0 n0 (Sl aj1 o23 cj2) o23, Ch.own n0 n0 (Sl a14 r11 c15) r11]) ?_ ?_
     ·clear h'
      rename _ = some o23 => h
      refine c_blk ?_
      refine c_seq ?_
      refine rg ?_
      refine st (v := (Sl a14 r11 c15)) (rv_move rfl) ?_
      refine st (v := (I s18.2)) (rv_move rfl) ?_
      obtain ⟨x24, hx25, h'⟩ := bind_some h
      clear h
      have h := h'; clear h'
      obtain ⟨b27, o28, hi26, -⟩ := (H.own 1 rfl).ix hx25
      refine st (v := (pt b27 o28)) (rv_ix Try.underlying27 ti64 rfl rfl hi26) ?_
      refine st (v := (pt b27 (o28 + 1))) (rv_fieldAddr (off := 1) (ft := 3) Try.underlying64 rfl ti3 rfl rfl) ?_
      have hc29 := ((H.own 1 rfl).at hx25 hi26).snd.int
      refine st (v := (I x24.2)) (rv_load1 Try.underlying3 rfl rfl hc29) ?_
      refine st (v := (I most_3)) (rv_move rfl) ?_
      refine st (v := (B (decide (x24.2 ≤ most_3)))) (rv_leq (a := x24.2) (b := most_3) rfl rfl) ?_
      refine w_end ?_
      refine q_then ?_
      refine cd_cond (decide (x24.2 ≤ most_3)) rfl (fun hb30 => ?_) (fun hb30 => ?_)
      ·replace h := bif_t hb30 h
       refine rg ?_
       refine st (v := (Sl a20 s18.1 c21)) (rv_move rfl) ?_
       refine st (v := (Sl a14 r11 c15)) (rv_move rfl) ?_
       refine st (v := (I s18.2)) (rv_move rfl) ?_
       obtain ⟨x31, hx32, h'⟩ := bind_some h
       clear h
       have h := h'; clear h'
       obtain ⟨b34, o35, hi33, -⟩ := (H.own 1 rfl).ix hx32
       refine st (v := (pt b34 o35)) (rv_ix Try.underlying27 ti64 rfl rfl hi33) ?_
       obtain ⟨_, ⟨_, _, rfl, rfl, rfl⟩, hl36, hc37⟩ := ((H.own 1 rfl).at hx32 hi33).cells
       refine st (v := (.agg #[(I x31.1), (I x31.2)])) (rv_load Try.underlying64 rfl ti64 rfl hl36 hc37) ?_
       refine st_ex (ex_buildSlice (el := n0) (xs := ([(x31.1, x31.2)] : List (Int × Int))) (ps := [(0, (.agg #[(I x31.1), (I x31.2)]))]) (cs := [(I x31.1), (I x31.2)]) H hn0 Try.underlying27 ti64 rfl rfl (by kernel_rfl) (.cons (c := [(I x31.1), (I x31.2)]) ⟨[(I x31.1)], [(I x31.2)], rfl, rfl, rfl⟩ (.nil)) rfl) (wanted_none _ rfl _) ?_
       rintro _ σ39 ⟨b38, rfl, H, -⟩
       obtain ⟨xs40, hx41, h'⟩ := bind_some h
       clear h
       have h := h'; clear h'
       refine st_ex (ex_append H (i := 1) rfl Try.underlying27 Try.underlying27 ti64 rfl rfl (by decide) (H.own 0 rfl).rd hx41 hn0 rfl rfl) (wanted_none _ rfl _) ?_
       rintro _ σ44 ⟨a42, c43, rfl, H, -⟩
       refine st (v := (Sl a42 xs40 c43)) (rv_assign rfl) ?_
       refine w_end ?_
       refine q_blk ?_
       obtain rfl := Option.some.inj h
       exact ⟨rfl, _, σ44, a42, c43, fr_join ⟨rfl, rfl, rfl, rfl, trivial⟩, rfl, H.sel' [0, 2] rfl rfl⟩
      ·replace h := bif_f hb30 h
       refine c_skip ?_
       refine q_blk ?_
       obtain rfl := Option.some.inj h
       exact ⟨rfl, _, σ19, a20, c21, fr_join ⟨rfl, rfl, rfl, rfl, trivial⟩, rfl, H.sel' [0, 1] rfl rfl⟩
     ·clear hj
      have h := h'
      clear h' H
      rintro e a w ⟨rfl, ρ, σ45, a46, c47, rfl, rfl, H⟩
      refine q_then ?_
      refine rg ?_
      refine st (v := (I s18.2)) (rv_move rfl) ?_
      refine st (v := (I (w64 (s18.2 + 1)))) (rv_add (a := s18.2) (b := 1) rfl rfl) ?_
      refine st (v := (I (w64 (s18.2 + 1)))) (rv_assign rfl) ?_
      refine w_end ?_
      refine q_then ?_
      obtain rfl := Option.some.inj h
      exact ⟨_, rfl, _, σ45, a46, c47, fr_join ⟨rfl, rfl, rfl, rfl, trivial⟩, rfl, H.sel' [0, 1] rfl rfl⟩
    ·replace h := bif_f hb22 h
     refine c_exit ?_
     refine q_then_x ?_
     refine q_then_x ?_
     refine q_blk_hit ?_
     obtain rfl := Option.some.inj h
     obtain rfl := hres _ rfl
     exact ⟨rfl, _, σ19, a20, c21, fr_join ⟨rfl, trivial⟩, rfl, H.sel' [0] rfl rfl⟩
   ·clear hj
    have h := h'
    clear h' H
    rintro e a w ⟨rfl, ρ, σ48, a49, c50, rfl, rfl, H⟩
    refine q_then ?_
    refine c_seq ?_
    refine rg ?_
    refine st (v := (Sl a49 o17 c50)) (rv_move rfl) ?_
    refine st (v := (Sl a49 o17 c50)) (rv_assign rfl) ?_
    refine w_end ?_
    refine q_then ?_
    refine c_ret ?_
    obtain rfl := Option.some.inj h
    exact fin_ret (v := (Sl a49 o17 c50)) (results_ok Try.results16 (res_tmp (v := (Sl a49 o17 c50)) rfl res_nil) rfl) ⟨a49, c50, rfl, rfl⟩ (H.sel' [0] rfl rfl)

theorem c_laws_FnWithinDistMore {code_0 : List UInt8} {acode_0 : Option Addr} {ccode_0 : Nat} {r : Bool} (h : M.laws_FnWithinDistMore code_0 = some r) :
    Cal2 Try.prog 3 [(Sl acode_0 code_0 ccode_0)] [Ch.ro 0 (Sl acode_0 code_0 ccode_0) code_0] (fun n0 v L => v = (B r) ∧ L = []) := by
 refine cal2 (n := 73) Try.func3 rfl rfl rfl rfl ?_
 intro S0 σ0 n0 hn0 H
 unfold M.laws_FnWithinDistMore at h
 refine c_seq ?_
 refine rg ?_
 refine st (v := (B false)) (rv_assign rfl) ?_
 refine w_end ?_
 refine q_then ?_
 refine c_seq ?_
 refine c_seq ?_
 refine rg ?_
 refine st (v := (Sl acode_0 code_0 ccode_0)) (rv_move rfl) ?_
 refine st (v := (I (code_0.length : Int))) (rv_len Try.underlying22 rfl) ?_
 refine st (v := (B (decide (1048576 < (code_0.length : Int))))) (rv_gtr (a := (code_0.length : Int)) (b := 1048576) rfl rfl) ?_
 refine w_end ?_
 refine q_then ?_
 refine cd_cond (decide (1048576 < (code_0.length : Int))) rfl (fun hb1 => ?_) (fun hb1 => ?_)
 ·replace h := bif_t hb1 h
  refine c_seq ?_
  refine rg ?_
  refine st (v := (B true)) (rv_assign rfl) ?_
  refine w_end ?_
  refine q_then ?_
  refine c_ret ?_
  refine q_then_r ?_
  obtain rfl := Option.some.inj h
  exact fin_ret (v := (B true)) (results_ok Try.results3 (res_tmp (v := (B true)) rfl res_nil) rfl) ⟨rfl, rfl⟩ (H.sel' [] rfl rfl)
 ·replace h := bif_f hb1 h
  refine c_skip ?_
  refine q_then ?_
  refine c_seq ?_
  refine rg ?_
  refine st (v := (Sl acode_0 code_0 ccode_0)) (rv_move rfl) ?_
  obtain ⟨r2, hx3, h'⟩ := bind_some h
  clear h
  have h := h'; clear h'
  have hc4 := c_spec_DrawWithinDist (acode_0 := acode_0) (ccode_0 := ccode_0) hx3
  refine st_call (cx_call hc4 (ent_f hc4.fn rfl) hn0 (show Hp S0 σ0 _ ([Ch.ro 0 (Sl acode_0 code_0 ccode_0) code_0] ++ [Ch.ro 0 (Sl acode_0 code_0 ccode_0) code_0]) from (H.sel' [0, 0] rfl rfl))) (wanted_none _ rfl _) ?_
  rintro _ σ9 ⟨_, ⟨a5, c6, a7, c8, rfl, rfl⟩, H, -⟩
  replace H : Hp S0 σ0 σ9 [Ch.own n0 n0 (Sl a5 r2.1 c6) r2.1, Ch.own n0 n0 (Sl a7 r2.2.2.1 c8) r2.2.2.1, Ch.ro 0 (Sl acode_0 code_0 ccode_0) code_0] := H
  refine st (v := (.tuple #[(Sl a5 r2.1 c6), (I r2.2.1), (Sl a7 r2.2.2.1 c8), (I r2.2.2.2)])) (rv_move rfl) ?_
  refine st (v := (Sl a5 r2.1 c6)) (rv_extract rfl rfl) ?_
  refine st (v := (I r2.2.1)) (rv_extract rfl rfl) ?_
  refine st (v := (Sl a7 r2.2.2.1 c8)) (rv_extract rfl rfl) ?_
  refine st (v := (I r2.2.2.2)) (rv_extract rfl rfl) ?_
  refine st (v := (Sl a5 r2.1 c6)) (rv_assign rfl) ?_
  refine st (v := (I r2.2.1)) (rv_assign rfl) ?_
  refine st (v := (Sl a7 r2.2.2.1 c8)) (rv_assign rfl) ?_
  refine st (v := (I r2.2.2.2)) (rv_assign rfl) ?_
  refine w_end ?_
  refine q_then ?_
  refine c_seq ?_
  refine rg ?_
  refine st (v := (Sl a5 r2.1 c6)) (rv_move rfl) ?_
  refine st (v := (I r2.2.1)) (rv_move rfl) ?_
  refine st (v := (Sl a7 r2.2.2.1 c8)) (rv_move rfl) ?_
  refine st (v := (I r2.2.2.2)) (rv_move rfl) ?_
  obtain ⟨r10, hx11, h'⟩ := bind_some h
  clear h
  have h := h'; clear h'
  have hc12 := c_impl_WithinDist (alist_0 := a5) (clist_0 := c6) (aat_2 := a7) (cat_2 := c8) hx11
  have hle := Nat.le_trans hn0 H.size
  refine st_call (cx_lend (Loan.lend (Loan.lend Loan.nil)) hc12 (ent_f hc12.fn rfl) (show Hp S0 σ0 _ ([Ch.own n0 n0 (Sl a5 r2.1 c6) r2.1, Ch.own n0 n0 (Sl a7 r2.2.2.1 c8) r2.2.2.1] ++ ([] ++ [Ch.ro 0 (Sl acode_0 code_0 ccode_0) code_0])) from (H.sel' [0, 1, 2] rfl rfl)) (by rintro _ _ _ ⟨_, _, rfl, rfl⟩; exact ⟨Ab.ownSc, trivial⟩)) (wanted_none _ rfl _) ?_
  rintro _ σ15 ⟨_, ⟨a13, c14, rfl, rfl⟩, H, -, -⟩
  replace H : Hp S0 σ0 σ15 [Ch.own 0 σ9.size (Sl a13 r10 c14) r10, Ch.own n0 n0 (Sl a5 r2.1 c6) r2.1, Ch.own n0 n0 (Sl a7 r2.2.2.1 c8) r2.2.2.1, Ch.ro 0 (Sl acode_0 code_0 ccode_0) code_0] := H
  replace H := H.ownLow 0 0 n0 rfl (Nat.le_refl _) hle
  clear hle
  replace H : Hp S0 σ0 σ15 [Ch.own 0 n0 (Sl a13 r10 c14) r10, Ch.own n0 n0 (Sl a5 r2.1 c6) r2.1, Ch.own n0 n0 (Sl a7 r2.2.2.1 c8) r2.2.2.1, Ch.ro 0 (Sl acode_0 code_0 ccode_0) code_0] := H
  refine st (v := (Sl a13 r10 c14)) (rv_assign rfl) ?_
  refine w_end ?_
  refine q_then ?_
  refine c_seq ?_
  refine c_seq ?_
  obtain ⟨o16, hj, h'⟩ := bind_some h
  clear h
  refine c_cut (fun e a w => e = .normal ∧ ∃ (ρ : Nat → Value) (σ : St), a = fr 73 (updL ρ [(3, (Sl a5 r2.1 c6)), (4, (I r2.2.1)), (5, (Sl a7 r2.2.2.1 c8)), (6, (I r2.2.2.2)), (7, (Sl a13 r10 c14)), (36, (B o16))]) ∧ w = σ.w ∧ Hp S0 σ0 σ [Ch.own n0 n0 (Sl a5 r2.1 c6) r2.1, Ch.own n0 n0 (Sl a7 r2.2.2.1 c8) r2.2.2.1, Ch.own 0 n0 (Sl a13 r10 c14) r10]) ?_ ?_
  ·clear h'
   rename _ = some o16 => h
   refine rg ?_
   refine st (v := (Sl a13 r10 c14)) (rv_move rfl) ?_
   refine st (v := (Sl a5 r2.1 c6)) (rv_move rfl) ?_
   refine st (v := (I r2.2.1)) (rv_move rfl) ?_
   refine st (v := (Sl a7 r2.2.2.1 c8)) (rv_move rfl) ?_
   refine st (v := (I r2.2.2.2)) (rv_move rfl) ?_
   obtain ⟨r17, hx18, h'⟩ := bind_some h
   clear h
   have h := h'; clear h'
   have hc19 := c_spec_WithinDist (alist_0 := a5) (clist_0 := c6) (aat_2 := a7) (cat_2 := c8) hx18
   have hle := Nat.le_trans hn0 H.size
   refine st_call (cx_lend (Loan.lend (Loan.lend Loan.nil)) hc19 (ent_f hc19.fn rfl) (show Hp S0 σ0 _ ([Ch.own n0 n0 (Sl a5 r2.1 c6) r2.1, Ch.own n0 n0 (Sl a7 r2.2.2.1 c8) r2.2.2.1] ++ ([] ++ [Ch.own 0 n0 (Sl a13 r10 c14) r10, Ch.ro 0 (Sl acode_0 code_0 ccode_0) code_0])) from (H.sel' [1, 2, 0, 3] rfl rfl)) (by rintro _ _ _ ⟨_, _, rfl, rfl⟩; exact ⟨Ab.ownSc, trivial⟩)) (wanted_none _ rfl _) ?_
   rintro _ σ22 ⟨_, ⟨a20, c21, rfl, rfl⟩, H, -, -⟩
   replace H : Hp S0 σ0 σ22 [Ch.own σ15.size σ15.size (Sl a20 r17 c21) r17, Ch.own n0 n0 (Sl a5 r2.1 c6) r2.1, Ch.own n0 n0 (Sl a7 r2.2.2.1 c8) r2.2.2.1, Ch.own 0 n0 (Sl a13 r10 c14) r10, Ch.ro 0 (Sl acode_0 code_0 ccode_0) code_0] := H
   replace H := H.ownLow 0 n0 n0 rfl hle hle
   clear hle
   replace H : Hp S0 σ0 σ22 [Ch.own n0 n0 (Sl a20 r17 c21) r17, Ch.own n0 n0 (Sl a5 r2.1 c6) r2.1, Ch.own n0 n0 (Sl a7 r2.2.2.1 c8) r2.2.2.1, Ch.own 0 n0 (Sl a13 r10 c14) r10, Ch.ro 0 (Sl acode_0 code_0 ccode_0) code_0] := H
   obtain ⟨σ23, hw24, H, -⟩ := H.pub 0 rfl (Nat.le_refl _)
   rw [← hw24]; clear hw24
   replace H := H.roLow 0 0 rfl (Nat.zero_le _)
   obtain ⟨r25, hx26, h'⟩ := bind_some h
   clear h
   have h := h'; clear h'
   have hc27 := c_laws_equalHits (aa_0 := a13) (ca_0 := c14) (ab_1 := a20) (cb_1 := c21) hx26
   have hle := Nat.le_trans hn0 H.size
   refine st_call (cx_lend (Loan.lend (Loan.same Loan.nil)) hc27 (ent_f hc27.fn rfl) (show Hp S0 σ0 _ ([Ch.own 0 n0 (Sl a13 r10 c14) r10] ++ ([Ch.ro 0 (Sl a20 r17 c21) r17] ++ [Ch.ro 0 (Sl a20 r17 c21) r17, Ch.ro n0 (Sl a20 r17 c21) r17, Ch.own n0 n0 (Sl a5 r2.1 c6) r2.1, Ch.own n0 n0 (Sl a7 r2.2.2.1 c8) r2.2.2.1, Ch.ro 0 (Sl acode_0 code_0 ccode_0) code_0])) from (H.sel' [4, 0, 0, 1, 2, 3, 5] rfl rfl)) (by rintro _ _ _ ⟨rfl, rfl⟩; exact trivial)) (wanted_none _ rfl _) ?_
   rintro _ σ28 ⟨_, ⟨rfl, rfl⟩, H, -, -⟩
   replace H : Hp S0 σ0 σ28 [Ch.own 0 n0 (Sl a13 r10 c14) r10, Ch.ro 0 (Sl a20 r17 c21) r17, Ch.ro n0 (Sl a20 r17 c21) r17, Ch.own n0 n0 (Sl a5 r2.1 c6) r2.1, Ch.own n0 n0 (Sl a7 r2.2.2.1 c8) r2.2.2.1, Ch.ro 0 (Sl acode_0 code_0 ccode_0) code_0] := H
   clear hle
   replace H : Hp S0 σ0 σ28 [Ch.own 0 n0 (Sl a13 r10 c14) r10, Ch.ro 0 (Sl a20 r17 c21) r17, Ch.ro n0 (Sl a20 r17 c21) r17, Ch.own n0 n0 (Sl a5 r2.1 c6) r2.1, Ch.own n0 n0 (Sl a7 r2.2.2.1 c8) r2.2.2.1, Ch.ro 0 (Sl acode_0 code_0 ccode_0) code_0] := H
   refine st (v := (B (!r25))) (rv_not rfl) ?_
   refine st (v := (B (!r25))) (rv_move rfl) ?_
   rcases Bool.eq_false_or_eq_true (!r25) with hb29 | hb29
   ·replace h := bif_t hb29 h
    refine st_skip (congrArg some hb29) ?_
    refine st_skip (congrArg some hb29) ?_
    refine st_skip (congrArg some hb29) ?_
    refine st (v := (B true)) (rv_pick_t (congrArg B hb29) rfl) ?_
    refine w_end ?_
    obtain rfl := Option.some.inj h
    exact ⟨rfl, _, σ28, fr_join ⟨rfl, rfl, rfl, rfl, rfl, rfl, trivial⟩, rfl, H.sel' [3, 4, 0] rfl rfl⟩
   ·replace h := bif_f hb29 h
    refine st_g (v := (Sl a13 r10 c14)) (congrArg some hb29) (rv_move rfl) ?_
    refine st_g (v := (I (r10.length : Int))) (congrArg some hb29) (rv_len Try.underlying27 rfl) ?_
    refine st_g (v := (B ((r10.length : Int) == 0))) (congrArg some hb29) (rv_eql (a := (r10.length : Int)) (b := 0) rfl rfl) ?_
    refine st (v := (B ((r10.length : Int) == 0))) (rv_pick_f (congrArg B hb29) rfl) ?_
    refine w_end ?_
    obtain rfl := Option.some.inj h
    exact ⟨rfl, _, σ28, fr_join ⟨rfl, rfl, rfl, rfl, rfl, rfl, trivial⟩, rfl, H.sel' [3, 4, 0] rfl rfl⟩
  ·clear hj
   have h := h'
   clear h' H
   rintro e a w ⟨rfl, ρ, σ30, rfl, rfl, H⟩
   refine q_then ?_
   refine cd_cond o16 rfl (fun hb31 => ?_) (fun hb31 => ?_)
   ·replace h := bif_t hb31 h
    refine c_seq ?_
    refine rg ?_
    refine st (v := (Sl a13 r10 c14)) (rv_move rfl) ?_
    refine st (v := (Sl a5 r2.1 c6)) (rv_move rfl) ?_
    refine st (v := (I r2.2.1)) (rv_move rfl) ?_
    refine st (v := (Sl a7 r2.2.2.1 c8)) (rv_move rfl) ?_
    refine st (v := (I r2.2.2.2)) (rv_move rfl) ?_
    obtain ⟨σ32, hw33, H, -⟩ := H.pub 0 rfl (Nat.le_refl _)
    rw [← hw33]; clear hw33
    obtain ⟨σ34, hw35, H, -⟩ := H.pub 1 rfl (Nat.le_refl _)
    rw [← hw35]; clear hw35
    replace H := H.roLow 1 0 rfl (Nat.zero_le _)
    replace H := H.roLow 1 0 rfl (Nat.zero_le _)
    obtain ⟨r36, hx37, h'⟩ := bind_some h
    clear h
    have h := h'; clear h'
    have hc38 := c_spec_WithinDist (alist_0 := a5) (clist_0 := c6) (aat_2 := a7) (cat_2 := c8) hx37
    refine st_call (cx_call hc38 (ent_f hc38.fn rfl) hn0 (show Hp S0 σ0 _ ([Ch.ro 0 (Sl a5 r2.1 c6) r2.1, Ch.ro 0 (Sl a7 r2.2.2.1 c8) r2.2.2.1] ++ [Ch.ro 0 (Sl a7 r2.2.2.1 c8) r2.2.2.1, Ch.ro 0 (Sl a5 r2.1 c6) r2.1, Ch.ro n0 (Sl a7 r2.2.2.1 c8) r2.2.2.1, Ch.ro n0 (Sl a5 r2.1 c6) r2.1, Ch.own 0 n0 (Sl a13 r10 c14) r10]) from (H.sel' [1, 0, 0, 1, 2, 3, 4] rfl rfl))) (wanted_none _ rfl _) ?_
    rintro _ σ41 ⟨_, ⟨a39, c40, rfl, rfl⟩, H, -⟩
    replace H : Hp S0 σ0 σ41 [Ch.own n0 n0 (Sl a39 r36 c40) r36, Ch.ro 0 (Sl a7 r2.2.2.1 c8) r2.2.2.1, Ch.ro 0 (Sl a5 r2.1 c6) r2.1, Ch.ro n0 (Sl a7 r2.2.2.1 c8) r2.2.2.1, Ch.ro n0 (Sl a5 r2.1 c6) r2.1, Ch.own 0 n0 (Sl a13 r10 c14) r10] := H
    replace H := H.ownLow 5 0 0 rfl (Nat.le_refl _) (Nat.zero_le _)
    obtain ⟨σ42, hw43, H, -⟩ := H.pub 0 rfl (Nat.le_refl _)
    rw [← hw43]; clear hw43
    obtain ⟨σ44, hw45, H, -⟩ := H.pub 1 rfl (Nat.le_refl _)
    rw [← hw45]; clear hw45
    replace H := H.roLow 0 0 rfl (Nat.zero_le _)
    obtain ⟨r46, hx47, h'⟩ := bind_some h
    clear h
    have h := h'; clear h'
    have hc48 := c_laws_equalHits (aa_0 := a13) (ca_0 := c14) (ab_1 := a39) (cb_1 := c40) hx47
    refine st_call (cx_call hc48 (ent_f hc48.fn rfl) hn0 (show Hp S0 σ0 _ ([Ch.ro 0 (Sl a13 r10 c14) r10, Ch.ro 0 (Sl a39 r36 c40) r36] ++ [Ch.ro 0 (Sl a39 r36 c40) r36, Ch.ro n0 (Sl a39 r36 c40) r36, Ch.ro 0 (Sl a13 r10 c14) r10, Ch.ro 0 (Sl a7 r2.2.2.1 c8) r2.2.2.1, Ch.ro 0 (Sl a5 r2.1 c6) r2.1, Ch.ro n0 (Sl a7 r2.2.2.1 c8) r2.2.2.1, Ch.ro n0 (Sl a5 r2.1 c6) r2.1]) from (H.sel' [2, 0, 0, 1, 2, 3, 4, 5, 6] rfl rfl))) (wanted_none _ rfl _) ?_
    rintro _ σ49 ⟨_, ⟨rfl, rfl⟩, H, -⟩
    replace H : Hp S0 σ0 σ49 [Ch.ro 0 (Sl a39 r36 c40) r36, Ch.ro n0 (Sl a39 r36 c40) r36, Ch.ro 0 (Sl a13 r10 c14) r10, Ch.ro 0 (Sl a7 r2.2.2.1 c8) r2.2.2.1, Ch.ro 0 (Sl a5 r2.1 c6) r2.1, Ch.ro n0 (Sl a7 r2.2.2.1 c8) r2.2.2.1, Ch.ro n0 (Sl a5 r2.1 c6) r2.1] := H
    refine st (v := (B r46)) (rv_assign rfl) ?_
    refine w_end ?_
    refine q_then ?_
    refine c_ret ?_
    refine q_then_r ?_
    obtain rfl := Option.some.inj h
    exact fin_ret (v := (B r46)) (results_ok Try.results3 (res_tmp (v := (B r46)) rfl res_nil) rfl) ⟨rfl, rfl⟩ (H.sel' [] rfl rfl)
   ·replace h := bif_f hb31 h
    refine c_skip ?_
    refine q_then ?_
    refine c_seq ?_
    refine rg ?_
    refine st (v := (Sl a5 r2.1 c6)) (rv_move rfl) ?_
    refine st (v := (I r2.2.1)) (rv_move rfl) ?_
    refine st (v := (Sl a7 r2.2.2.1 c8)) (rv_move rfl) ?_
    refine st (v := (I r2.2.2.2)) (rv_move rfl) ?_
    refine st (v := (I (w64 (r2.2.2.2 + 10)))) (rv_add (a := r2.2.2.2) (b := 10) rfl rfl) ?_
    obtain ⟨r50, hx51, h'⟩ := bind_some h
    clear h
    have h := h'; clear h'
    have hc52 := c_impl_WithinDist (alist_0 := a5) (clist_0 := c6) (aat_2 := a7) (cat_2 := c8) hx51
    have hle := Nat.le_trans hn0 H.size
    refine st_call (cx_lend (Loan.lend (Loan.lend Loan.nil)) hc52 (ent_f hc52.fn rfl) (show Hp S0 σ0 _ ([Ch.own n0 n0 (Sl a5 r2.1 c6) r2.1, Ch.own n0 n0 (Sl a7 r2.2.2.1 c8) r2.2.2.1] ++ ([] ++ [Ch.own 0 n0 (Sl a13 r10 c14) r10])) from (H.sel' [0, 1, 2] rfl rfl)) (by rintro _ _ _ ⟨_, _, rfl, rfl⟩; exact ⟨Ab.ownSc, trivial⟩)) (wanted_none _ rfl _) ?_
    rintro _ σ55 ⟨_, ⟨a53, c54, rfl, rfl⟩, H, -, -⟩
    replace H : Hp S0 σ0 σ55 [Ch.own 0 σ30.size (Sl a53 r50 c54) r50, Ch.own n0 n0 (Sl a5 r2.1 c6) r2.1, Ch.own n0 n0 (Sl a7 r2.2.2.1 c8) r2.2.2.1, Ch.own 0 n0 (Sl a13 r10 c14) r10] := H
    replace H := H.ownLow 0 0 n0 rfl (Nat.le_refl _) hle
    clear hle
    replace H : Hp S0 σ0 σ55 [Ch.own 0 n0 (Sl a53 r50 c54) r50, Ch.own n0 n0 (Sl a5 r2.1 c6) r2.1, Ch.own n0 n0 (Sl a7 r2.2.2.1 c8) r2.2.2.1, Ch.own 0 n0 (Sl a13 r10 c14) r10] := H
    refine st (v := (Sl a53 r50 c54)) (rv_assign rfl) ?_
    refine w_end ?_
    refine q_then ?_
    refine c_seq ?_
    refine rg ?_
    refine st (v := (Sl a53 r50 c54)) (rv_move rfl) ?_
    refine st (v := (I (r50.length : Int))) (rv_len Try.underlying27 rfl) ?_
    refine st (v := (Sl a13 r10 c14)) (rv_move rfl) ?_
    refine st (v := (I (r10.length : Int))) (rv_len Try.underlying27 rfl) ?_
    refine st (v := (B (decide ((r10.length : Int) ≤ (r50.length : Int))))) (rv_geq (a := (r50.length : Int)) (b := (r10.length : Int)) rfl rfl) ?_
    refine st (v := (B (decide ((r10.length : Int) ≤ (r50.length : Int))))) (rv_move rfl) ?_
    rcases Bool.eq_false_or_eq_true (decide ((r10.length : Int) ≤ (r50.length : Int))) with hb56 | hb56
    ·replace h := bif_t hb56 h
     refine st_g (v := (Sl a53 r50 c54)) (congrArg some hb56) (rv_move rfl) ?_
     refine st_g (v := (Sl a13 r10 c14)) (congrArg some hb56) (rv_move rfl) ?_
     refine st_g (v := (I (r10.length : Int))) (congrArg some hb56) (rv_len Try.underlying27 rfl) ?_
     obtain ⟨xs57, hx58, h'⟩ := bind_some h
     clear h
     have h := h'; clear h'
     obtain ⟨a59, c60, hs61, hR62, hb63⟩ := (H.own 0 rfl).slice hx58
     replace H := (H.front (i := 0) rfl).turn (d := Ch.own 0 n0 (Sl a59 xs57 c60) xs57) (fun _ => hR62) hb63; clear hR62 hb63
     refine st_g (v := (Sl a59 xs57 c60)) (congrArg some hb56) (rv_slice_h Try.underlying27 ti64 hs61 rfl rfl) ?_
     refine st_g (v := (Sl a13 r10 c14)) (congrArg some hb56) (rv_move rfl) ?_
     replace H := H.ownLow 0 0 0 rfl (Nat.le_refl _) (Nat.zero_le _)
     obtain ⟨σ64, hw65, H, -⟩ := H.pub 0 rfl (Nat.le_refl _)
     rw [← hw65]; clear hw65
     replace H := H.ownLow 3 0 0 rfl (Nat.le_refl _) (Nat.zero_le _)
     obtain ⟨σ66, hw67, H, -⟩ := H.pub 0 rfl (Nat.le_refl _)
     rw [← hw67]; clear hw67
     obtain ⟨r68, hx69, h'⟩ := bind_some h
     clear h
     have h := h'; clear h'
     have hc70 := c_laws_equalHits (aa_0 := a59) (ca_0 := c60) (ab_1 := a13) (cb_1 := c14) hx69
     refine st_call (cx_call hc70 (ent_f hc70.fn rfl) hn0 (show Hp S0 σ0 _ ([Ch.ro 0 (Sl a59 xs57 c60) xs57, Ch.ro 0 (Sl a13 r10 c14) r10] ++ [Ch.ro 0 (Sl a13 r10 c14) r10, Ch.ro 0 (Sl a59 xs57 c60) xs57, Ch.own n0 n0 (Sl a5 r2.1 c6) r2.1, Ch.own n0 n0 (Sl a7 r2.2.2.1 c8) r2.2.2.1]) from (H.sel' [1, 0, 0, 1, 2, 3] rfl rfl))) (wanted_yes rfl (by exact (congrArg some hb56))) ?_
     rintro _ σ71 ⟨_, ⟨rfl, rfl⟩, H, -⟩
     replace H : Hp S0 σ0 σ71 [Ch.ro 0 (Sl a13 r10 c14) r10, Ch.ro 0 (Sl a59 xs57 c60) xs57, Ch.own n0 n0 (Sl a5 r2.1 c6) r2.1, Ch.own n0 n0 (Sl a7 r2.2.2.1 c8) r2.2.2.1] := H
     refine st (v := (B r68)) (rv_pick_t (congrArg B hb56) rfl) ?_
     refine st (v := (B r68)) (rv_move rfl) ?_
     rcases Bool.eq_false_or_eq_true r68 with hb72 | hb72
     ·replace h := bif_t hb72 h
      refine st_g (v := (Sl a5 r2.1 c6)) (congrArg some hb72) (rv_move rfl) ?_
      refine st_g (v := (I r2.2.1)) (congrArg some hb72) (rv_move rfl) ?_
      refine st_g (v := (Sl a7 r2.2.2.1 c8)) (congrArg some hb72) (rv_move rfl) ?_
      obtain ⟨σ73, hw74, H, -⟩ := H.pub 3 rfl (Nat.le_refl _)
      rw [← hw74]; clear hw74
      replace H := H.roLow 0 0 rfl (Nat.zero_le _)
      obtain ⟨r75, hx76, h'⟩ := bind_some h
      clear h
      have h := h'; clear h'
      have hc77 := c_impl_WithinDist (alist_0 := a5) (clist_0 := c6) (aat_2 := a7) (cat_2 := c8) hx76
      have hle := Nat.le_trans hn0 H.size
      refine st_call (cx_lend (Loan.lend (Loan.same Loan.nil)) hc77 (ent_f hc77.fn rfl) (show Hp S0 σ0 _ ([Ch.own n0 n0 (Sl a5 r2.1 c6) r2.1] ++ ([Ch.ro 0 (Sl a7 r2.2.2.1 c8) r2.2.2.1] ++ [Ch.ro 0 (Sl a7 r2.2.2.1 c8) r2.2.2.1, Ch.ro n0 (Sl a7 r2.2.2.1 c8) r2.2.2.1, Ch.ro 0 (Sl a13 r10 c14) r10, Ch.ro 0 (Sl a59 xs57 c60) xs57])) from (H.sel' [4, 0, 0, 1, 2, 3] rfl rfl)) (by rintro _ _ _ ⟨_, _, rfl, rfl⟩; exact ⟨Ab.ownSc, trivial⟩)) (wanted_yes rfl (by exact (congrArg some hb72))) ?_
      rintro _ σ80 ⟨_, ⟨a78, c79, rfl, rfl⟩, H, -, -⟩
      replace H : Hp S0 σ0 σ80 [Ch.own 0 σ73.size (Sl a78 r75 c79) r75, Ch.own n0 n0 (Sl a5 r2.1 c6) r2.1, Ch.ro 0 (Sl a7 r2.2.2.1 c8) r2.2.2.1, Ch.ro n0 (Sl a7 r2.2.2.1 c8) r2.2.2.1, Ch.ro 0 (Sl a13 r10 c14) r10, Ch.ro 0 (Sl a59 xs57 c60) xs57] := H
      replace H := H.ownLow 0 0 n0 rfl (Nat.le_refl _) hle
      clear hle
      replace H : Hp S0 σ0 σ80 [Ch.own 0 n0 (Sl a78 r75 c79) r75, Ch.own n0 n0 (Sl a5 r2.1 c6) r2.1, Ch.ro 0 (Sl a7 r2.2.2.1 c8) r2.2.2.1, Ch.ro n0 (Sl a7 r2.2.2.1 c8) r2.2.2.1, Ch.ro 0 (Sl a13 r10 c14) r10, Ch.ro 0 (Sl a59 xs57 c60) xs57] := H
      refine st_g (v := (I (r75.length : Int))) (congrArg some hb72) (rv_len Try.underlying27 rfl) ?_
      refine st_g (v := (Sl a5 r2.1 c6)) (congrArg some hb72) (rv_move rfl) ?_
      refine st_g (v := (I (r2.1.length : Int))) (congrArg some hb72) (rv_len Try.underlying23 rfl) ?_
      refine st_g (v := (B ((r75.length : Int) == (r2.1.length : Int)))) (congrArg some hb72) (rv_eql (a := (r75.length : Int)) (b := (r2.1.length : Int)) rfl rfl) ?_
      refine st (v := (B ((r75.length : Int) == (r2.1.length : Int)))) (rv_pick_t (congrArg B hb72) rfl) ?_
      refine st (v := (B ((r75.length : Int) == (r2.1.length : Int)))) (rv_assign rfl) ?_
      refine w_end ?_
      refine q_then ?_
      refine c_ret ?_
      obtain rfl := Option.some.inj h
      exact fin_ret (v := (B ((r75.length : Int) == (r2.1.length : Int)))) (results_ok Try.results3 (res_tmp (v := (B ((r75.length : Int) == (r2.1.length : Int)))) rfl res_nil) rfl) ⟨rfl, rfl⟩ (H.sel' [] rfl rfl)
     ·replace h := bif_f hb72 h
      refine st_skip (congrArg some hb72) ?_
      refine st_skip (congrArg some hb72) ?_
      refine st_skip (congrArg some hb72) ?_
      refine st_skip (congrArg some hb72) ?_
      refine st_skip (congrArg some hb72) ?_
      refine st_skip (congrArg some hb72) ?_
      refine st_skip (congrArg some hb72) ?_
      refine st_skip (congrArg some hb72) ?_
      refine st (v := (B false)) (rv_pick_f (congrArg B hb72) rfl) ?_
      refine st (v := (B false)) (rv_assign rfl) ?_
      refine w_end ?_
      refine q_then ?_
      refine c_ret ?_
      obtain rfl := Option.some.inj h
      exact fin_ret (v := (B false)) (results_ok Try.results3 (res_tmp (v := (B false)) rfl res_nil) rfl) ⟨rfl, rfl⟩ (H.sel' [] rfl rfl)
    ·replace h := bif_f hb56 h
     refine st_skip (congrArg some hb56) ?_
     refine st_skip (congrArg some hb56) ?_
     refine st_skip (congrArg some hb56) ?_
     refine st_skip (congrArg some hb56) ?_
     refine st_skip (congrArg some hb56) ?_
     refine st_skip (congrArg some hb56) ?_
     refine st (v := (B false)) (rv_pick_f (congrArg B hb56) rfl) ?_
     refine st (v := (B false)) (rv_move rfl) ?_
     refine st_skip rfl ?_
     refine st_skip rfl ?_
     refine st_skip rfl ?_
     refine st_skip rfl ?_
     refine st_skip rfl ?_
     refine st_skip rfl ?_
     refine st_skip rfl ?_
     refine st_skip rfl ?_
     refine st (v := (B false)) (rv_pick_f rfl rfl) ?_
     refine st (v := (B false)) (rv_assign rfl) ?_
     refine w_end ?_
     refine q_then ?_
     refine c_ret ?_
     obtain rfl := Option.some.inj h
     exact fin_ret (v := (B false)) (results_ok Try.results3 (res_tmp (v := (B false)) rfl res_nil) rfl) ⟨rfl, rfl⟩ (H.sel' [] rfl rfl)

end Go.Vs
