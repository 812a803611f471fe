/- The functions compute what their models say. -/
import Derived.Test.YtgokepoinohioabKDropItemOrderC2
set_option linter.unusedVariables false
set_option linter.unusedSimpArgs false
set_option maxRecDepth 20000
namespace Go.Vs
open Go Go.Proofs
attribute [local irreducible] Code.wp Code.wpIn wpList wpListIn wpQuiet Calls CallsIn

theorem c_spec_DropItem {list_0 : List (Int × (List Int) × Int)} {key_1 : Int} {alist_0 : Option Addr} {clist_0 : Nat} {r : (List (Int × (List Int) × Int)) × Bool} (h : M.spec_DropItem list_0 key_1 = some r) :
    Cal2 Try.prog 23 [(Sl alist_0 list_0 clist_0), (I key_1)] [Ch.ro 0 (Sl alist_0 list_0 clist_0) list_0] (fun n0 v L => ∃ (az1 : Option Addr), ∃ (cz2 : Nat), v = (.tuple #[(Sl az1 r.1 cz2), (B r.2)]) ∧ L = [Ch.own n0 n0 (Sl az1 r.1 cz2) r.1]) := by
 refine cal2 (n := 40) Try.func23 rfl rfl rfl rfl ?_
 intro S0 σ0 n0 hn0 H
 unfold M.spec_DropItem at h
 refine c_seq ?_
 refine rg ?_
 refine st (v := (.slice none 0 0)) (rv_assign rfl) ?_
 refine st (v := (B false)) (rv_assign rfl) ?_
 refine w_end ?_
 refine q_then ?_
 refine c_seq ?_
 refine c_seq ?_
 obtain ⟨o1, hj, h'⟩ := bind_some h
 clear h
 refine c_cut (fun e a w => e = .normal ∧ ∃ (ρ : Nat → Value) (σ : St), a = fr 40 (updL ρ [(0, (Sl alist_0 list_0 clist_0)), (1, (I key_1)), (16, (B o1))]) ∧ w = σ.w ∧ Hp S0 σ0 σ [Ch.ro 0 (Sl alist_0 list_0 clist_0) list_0]) ?_ ?_
 ·clear h'
  rename _ = some o1 => h
  refine rg ?_
  refine st (v := (Sl alist_0 list_0 clist_0)) (rv_move rfl) ?_
  obtain ⟨r2, hx3, h'⟩ := bind_some h
  clear h
  have h := h'; clear h'
  have hc4 := c_spec_validStore (alist_0 := alist_0) (clist_0 := clist_0) hx3
  refine st_call (cx_call hc4 (ent_f hc4.fn rfl) hn0 (show Hp S0 σ0 _ ([Ch.ro 0 (Sl alist_0 list_0 clist_0) list_0] ++ [Ch.ro 0 (Sl alist_0 list_0 clist_0) list_0]) from (H.sel' [0, 0] rfl rfl))) wn ?_
  rintro _ σ5 ⟨_, ⟨rfl, rfl⟩, H, -⟩
  replace H : Hp S0 σ0 σ5 [Ch.ro 0 (Sl alist_0 list_0 clist_0) list_0] := H
  refine st (v := (B (!r2))) (rv_not rfl) ?_
  refine st (v := (B (!r2))) (rv_move rfl) ?_
  rcases Bool.eq_false_or_eq_true (!r2) with hb6 | hb6
  ·replace h := bif_t hb6 h
   refine st_skip (congrArg some hb6) ?_
   refine st_skip (congrArg some hb6) ?_
   refine st_skip (congrArg some hb6) ?_
   refine st_skip (congrArg some hb6) ?_
   refine st (v := (B true)) (rv_pick_t (congrArg B hb6) rfl) ?_
   refine w_end ?_
   obtain rfl := Option.some.inj h
   exact ⟨rfl, _, σ5, fr_join ⟨rfl, rfl, rfl, trivial⟩, rfl, H.sel' [0] rfl rfl⟩
  ·replace h := bif_f hb6 h
   refine st_g (v := (Sl alist_0 list_0 clist_0)) (congrArg some hb6) (rv_move rfl) ?_
   refine st_g (v := (I key_1)) (congrArg some hb6) (rv_move rfl) ?_
   obtain ⟨r7, hx8, h'⟩ := bind_some h
   clear h
   have h := h'; clear h'
   have hc9 := c_spec_keyAt (alist_0 := alist_0) (clist_0 := clist_0) hx8
   refine st_call (cx_call hc9 (ent_f hc9.fn rfl) hn0 (show Hp S0 σ0 _ ([Ch.ro 0 (Sl alist_0 list_0 clist_0) list_0] ++ [Ch.ro 0 (Sl alist_0 list_0 clist_0) list_0]) from (H.sel' [0, 0] rfl rfl))) (wanted_yes rfl (by exact (congrArg some hb6))) ?_
   rintro _ σ10 ⟨_, ⟨rfl, rfl⟩, H, -⟩
   replace H : Hp S0 σ0 σ10 [Ch.ro 0 (Sl alist_0 list_0 clist_0) list_0] := H
   refine st_g (v := (B (decide (r7 < 0)))) (congrArg some hb6) (rv_lss (a := r7) (b := 0) rfl rfl) ?_
   refine st (v := (B (decide (r7 < 0)))) (rv_pick_f (congrArg B hb6) rfl) ?_
   refine w_end ?_
   obtain rfl := Option.some.inj h
   exact ⟨rfl, _, σ10, fr_join ⟨rfl, rfl, rfl, trivial⟩, rfl, H.sel' [0] rfl rfl⟩
 ·clear hj
  have h := h'
  clear h' H
  rintro e a w ⟨rfl, ρ, σ11, rfl, rfl, H⟩
  refine q_then ?_
  refine cd_cond o1 rfl (fun hb12 => ?_) (fun hb12 => ?_)
  ·replace h := bif_t hb12 h
   refine c_seq ?_
   refine rg ?_
   refine st (v := (.slice none 0 0)) (rv_assign rfl) ?_
   refine st (v := (B false)) (rv_assign rfl) ?_
   refine w_end ?_
   refine q_then ?_
   refine c_ret ?_
   refine q_then_r ?_
   replace H := H.nilOwn (Int × (List Int) × Int) n0 n0
   obtain rfl := Option.some.inj h
   exact fin_ret (v := (.tuple #[(.slice none 0 0), (B false)])) (results_ok Try.results23 (res_tmp (v := (.slice none 0 0)) rfl (res_tmp (v := (B false)) rfl res_nil)) rfl) ⟨none, 0, rfl, rfl⟩ (H.sel' [0] rfl rfl)
  ·replace h := bif_f hb12 h
   refine c_skip ?_
   refine q_then ?_
   refine c_seq ?_
   refine rg ?_
   refine st_ex (ex_buildSlice (el := n0) (xs := ([] : List (Int × (List Int) × Int))) (ps := []) (cs := []) H hn0 Try.underlying23 ti26 rfl rfl (by kernel_rfl) (.nil) rfl) wn ?_
   rintro _ σ14 ⟨b13, rfl, H, -⟩
   refine st (v := (Sl (some ⟨b13, 0, none⟩) ([] : List (Int × (List Int) × Int)) 0)) (rv_assign rfl) ?_
   refine w_end ?_
   refine q_then ?_
   refine c_seq ?_
   refine c_seq ?_
   refine rg ?_
   refine st (v := (I 0)) (rv_assign rfl) ?_
   refine w_end ?_
   refine q_then ?_
   obtain ⟨o15, hj, h'⟩ := bind_some h
   clear h
   refine c_cut (fun e a w => e = .normal ∧ ∃ (ρ : Nat → Value) (σ : St) (aj1 : Option Addr) (cj2 : Nat), a = fr 40 (updL ρ [(6, (Sl aj1 o15 cj2))]) ∧ w = σ.w ∧ Hp S0 σ0 σ [Ch.own n0 n0 (Sl aj1 o15 cj2) o15]) ?_ ?_
   ·clear h'
    rename _ = some o15 => h
    refine c_blk ?_
    refine wp_loopM _ h (fun s16 a w => ∃ (ρ : Nat → Value) (σ : St) (aj1 : Option Addr) (cj2 : Nat), a = fr 40 (updL ρ [(0, (Sl alist_0 list_0 clist_0)), (1, (I key_1)), (6, (Sl aj1 s16.1 cj2)), (7, (I s16.2))]) ∧ w = σ.w ∧ Hp S0 σ0 σ [Ch.ro 0 (Sl alist_0 list_0 clist_0) list_0, Ch.own n0 n0 (Sl aj1 s16.1 cj2) s16.1]) ⟨_, σ14, (some ⟨b13, 0, none⟩), 0, fr_join ⟨rfl, rfl, rfl, rfl, trivial⟩, rfl, H.sel' [1, 0] rfl rfl⟩ ?_
    clear h H
    rintro s16 a w o ⟨ρ, σ17, a18, c19, rfl, rfl, H⟩ h hres
    refine c_seq ?_
    refine c_seq ?_
    refine rg ?_
    refine st (v := (I s16.2)) (rv_move rfl) ?_
    refine st (v := (Sl alist_0 list_0 clist_0)) (rv_move rfl) ?_
    refine st (v := (I (list_0.length : Int))) (rv_len Try.underlying23 rfl) ?_
    refine st (v := (B (decide (s16.2 < (list_0.length : Int))))) (rv_lss (a := s16.2) (b := (list_0.length : Int)) rfl rfl) ?_
    refine w_end ?_
    refine q_then ?_
    refine cd_cond (decide (s16.2 < (list_0.length : Int))) rfl (fun hb20 => ?_) (fun hb20 => ?_)
    ·replace h := bif_t hb20 h
     refine c_skip ?_
     refine q_then ?_
     refine c_seq ?_
     obtain ⟨o21, hj, h'⟩ := bind_some h
     clear h
     refine c_cut (fun e a w => e = .normal ∧ ∃ (ρ : Nat → Value) (σ : St) (aj1 : Option Addr) (cj2 : Nat), a = fr 40 (updL ρ [(0, (Sl alist_0 list_0 clist_0)), (1, (I key_1)), (6, (Sl aj1 o21 cj2)), (7, (I s16.2))]) ∧ w = σ.w ∧ Hp S0 σ0 σ [Ch.ro 0 (Sl alist_0 list_0 clist_0) list_0, Ch.own n0 n0 (Sl aj1 o21 cj2) o21]) ?_ ?_
     ·clear h'
      rename _ = some o21 => h
      refine c_blk ?_
      refine c_seq ?_
      refine rg ?_
      refine st (v := (Sl alist_0 list_0 clist_0)) (rv_move rfl) ?_
      refine st (v := (I s16.2)) (rv_move rfl) ?_
      obtain ⟨x22, hx23, h'⟩ := bind_some h
      clear h
      have h := h'; clear h'
      obtain ⟨b25, o26, hi24, -⟩ := (H.ro 0 rfl).ix hx23
      refine st (v := (pt b25 o26)) (rv_ix Try.underlying23 ti26 rfl rfl hi24) ?_
      refine st (v := (pt b25 (o26 + 0))) (rv_fieldAddr (off := 0) (ft := 3) Try.underlying26 rfl ti3 rfl rfl) ?_
      have hc27 := ((H.ro 0 rfl).at hx23 hi24).fst.int
      refine st (v := (I x22.1)) (rv_load1 Try.underlying3 rfl rfl hc27) ?_
      refine st (v := (I key_1)) (rv_move rfl) ?_
      refine st (v := (B (x22.1 != key_1))) (rv_neq (a := x22.1) (b := key_1) rfl rfl) ?_
      refine w_end ?_
      refine q_then ?_
      refine cd_cond (x22.1 != key_1) rfl (fun hb28 => ?_) (fun hb28 => ?_)
      ·replace h := bif_t hb28 h
       refine rg ?_
       refine st (v := (Sl a18 s16.1 c19)) (rv_move rfl) ?_
       refine st (v := (Sl alist_0 list_0 clist_0)) (rv_move rfl) ?_
       refine st (v := (I s16.2)) (rv_move rfl) ?_
       obtain ⟨x29, hx30, h'⟩ := bind_some h
       clear h
       have h := h'; clear h'
       obtain ⟨b32, o33, hi31, -⟩ := (H.ro 0 rfl).ix hx30
       refine st (v := (pt b32 o33)) (rv_ix Try.underlying23 ti26 rfl rfl hi31) ?_
       obtain ⟨_, ⟨_, _, rfl, rfl, ⟨_, _, rfl, ⟨_, rfl, hR38⟩, rfl⟩⟩, hl34, hc35⟩ := ((H.ro 0 rfl).at hx30 hi31).cells
       obtain ⟨a36, c37, rfl⟩ := hR38.isSl
       replace H := H.add (d := Ch.ro 0 (Sl a36 x29.2.1 c37) x29.2.1) hR38 (fun _ h => h)
       clear hR38
       refine st (v := (.agg #[(I x29.1), (Sl a36 x29.2.1 c37), (I x29.2.2)])) (rv_load Try.underlying26 rfl ti26 rfl hl34 hc35) ?_
       obtain ⟨r39, hx40, h'⟩ := bind_some h
       clear h
       have h := h'; clear h'
       have hc41 := c_spec_copyItem (ax_0_1 := a36) (cx_0_1 := c37) hx40
       refine st_call (cx_call hc41 (ent_f hc41.fn rfl) hn0 (show Hp S0 σ0 _ ([Ch.ro 0 (Sl a36 x29.2.1 c37) x29.2.1] ++ [Ch.ro 0 (Sl a36 x29.2.1 c37) x29.2.1, Ch.ro 0 (Sl alist_0 list_0 clist_0) list_0, Ch.own n0 n0 (Sl a18 s16.1 c19) s16.1]) from (H.sel' [0, 0, 1, 2] rfl rfl))) wn ?_
       rintro _ σ44 ⟨_, ⟨a42, c43, rfl, rfl⟩, H, -⟩
       replace H : Hp S0 σ0 σ44 [Ch.own n0 n0 (Sl a42 r39.2.1 c43) r39.2.1, Ch.ro 0 (Sl a36 x29.2.1 c37) x29.2.1, Ch.ro 0 (Sl alist_0 list_0 clist_0) list_0, Ch.own n0 n0 (Sl a18 s16.1 c19) s16.1] := H
       obtain ⟨σ45, hw46, H, -⟩ := H.pub 0 rfl (Nat.le_refl _)
       rw [← hw46]; clear hw46
       refine st_ex (ex_buildSlice (el := n0) (xs := ([(r39.1, r39.2.1, r39.2.2)] : List (Int × (List Int) × Int))) (ps := [(0, (.agg #[(I r39.1), (Sl a42 r39.2.1 c43), (I r39.2.2)]))]) (cs := [(I r39.1), (Sl a42 r39.2.1 c43), (I r39.2.2)]) H hn0 Try.underlying23 ti26 rfl rfl (by kernel_rfl) (.cons (c := [(I r39.1), (Sl a42 r39.2.1 c43), (I r39.2.2)]) ⟨[(I r39.1)], [(Sl a42 r39.2.1 c43), (I r39.2.2)], rfl, rfl, ⟨[(Sl a42 r39.2.1 c43)], [(I r39.2.2)], rfl, ⟨_, rfl, (H.ro 0 rfl)⟩, rfl⟩⟩ (.nil)) rfl) wn ?_
       rintro _ σ48 ⟨b47, rfl, H, -⟩
       obtain ⟨xs49, hx50, h'⟩ := bind_some h
       clear h
       have h := h'; clear h'
       refine st_ex (ex_append H (i := 4) rfl Try.underlying23 Try.underlying23 ti26 rfl rfl (by decide) (H.own 0 rfl).rd hx50 hn0 rfl rfl) wn ?_
       rintro _ σ53 ⟨a51, c52, rfl, H, -⟩
       refine st (v := (Sl a51 xs49 c52)) (rv_assign rfl) ?_
       refine w_end ?_
       refine q_blk ?_
       obtain rfl := Option.some.inj h
       exact ⟨rfl, _, σ53, a51, c52, fr_join ⟨rfl, rfl, rfl, rfl, trivial⟩, rfl, H.sel' [4, 0] rfl rfl⟩
      ·replace h := bif_f hb28 h
       refine c_skip ?_
       refine q_blk ?_
       obtain rfl := Option.some.inj h
       exact ⟨rfl, _, σ17, a18, c19, fr_join ⟨rfl, rfl, rfl, rfl, trivial⟩, rfl, H.sel' [0, 1] rfl rfl⟩
     ·clear hj
      have h := h'
      clear h' H
      rintro e a w ⟨rfl, ρ, σ54, a55, c56, rfl, rfl, H⟩
      refine q_then ?_
      refine rg ?_
      refine st (v := (I s16.2)) (rv_move rfl) ?_
      refine st (v := (I (w64 (s16.2 + 1)))) (rv_add (a := s16.2) (b := 1) rfl rfl) ?_
      refine st (v := (I (w64 (s16.2 + 1)))) (rv_assign rfl) ?_
      refine w_end ?_
      refine q_then ?_
      obtain rfl := Option.some.inj h
      exact ⟨_, rfl, _, σ54, a55, c56, fr_join ⟨rfl, rfl, rfl, rfl, trivial⟩, rfl, H.sel' [0, 1] rfl rfl⟩
    ·replace h := bif_f hb20 h
     refine c_exit ?_
     refine q_then_x ?_
     refine q_then_x ?_
     refine q_blk_hit ?_
     obtain rfl := Option.some.inj h
     obtain rfl := hres _ rfl
     exact ⟨rfl, _, σ17, a18, c19, fr_join ⟨rfl, trivial⟩, rfl, H.sel' [1] rfl rfl⟩
   ·clear hj
    have h := h'
    clear h' H
    rintro e a w ⟨rfl, ρ, σ57, a58, c59, rfl, rfl, H⟩
    refine q_then ?_
    refine c_seq ?_
    refine rg ?_
    refine st (v := (Sl a58 o15 c59)) (rv_move rfl) ?_
    refine st (v := (Sl a58 o15 c59)) (rv_assign rfl) ?_
    refine st (v := (B true)) (rv_assign rfl) ?_
    refine w_end ?_
    refine q_then ?_
    refine c_ret ?_
    obtain rfl := Option.some.inj h
    exact fin_ret (v := (.tuple #[(Sl a58 o15 c59), (B true)])) (results_ok Try.results23 (res_tmp (v := (Sl a58 o15 c59)) rfl (res_tmp (v := (B true)) rfl res_nil)) rfl) ⟨a58, c59, rfl, rfl⟩ (H.sel' [0] rfl rfl)

theorem c_laws_FnDropItemOrder {code_0 : List UInt8} {acode_0 : Option Addr} {ccode_0 : Nat} {r : Bool} (h : M.laws_FnDropItemOrder code_0 = some r) :
    Cal2 Try.prog 14 [(Sl acode_0 code_0 ccode_0)] [Ch.ro 0 (Sl acode_0 code_0 ccode_0) code_0] (fun n0 v L => v = (B r) ∧ L = []) := by
 refine cal2 (n := 101) Try.func14 rfl rfl rfl rfl ?_
 intro S0 σ0 n0 hn0 H
 unfold M.laws_FnDropItemOrder at h
 refine c_seq ?_
 refine rg ?_
 refine st (v := (B false)) (rv_assign rfl) ?_
 refine w_end ?_
 refine q_then ?_
 refine c_seq ?_
 refine c_seq ?_
 refine rg ?_
 refine st (v := (Sl acode_0 code_0 ccode_0)) (rv_move rfl) ?_
 refine st (v := (I (code_0.length : Int))) (rv_len Try.underlying22 rfl) ?_
 refine st (v := (B (decide (1048576 < (code_0.length : Int))))) (rv_gtr (a := (code_0.length : Int)) (b := 1048576) rfl rfl) ?_
 refine w_end ?_
 refine q_then ?_
 refine cd_cond (decide (1048576 < (code_0.length : Int))) rfl (fun hb1 => ?_) (fun hb1 => ?_)
 ·replace h := bif_t hb1 h
  refine c_seq ?_
  refine rg ?_
  refine st (v := (B true)) (rv_assign rfl) ?_
  refine w_end ?_
  refine q_then ?_
  refine c_ret ?_
  refine q_then_r ?_
  obtain rfl := Option.some.inj h
  exact fin_ret (v := (B true)) (results_ok Try.results14 (res_tmp (v := (B true)) rfl res_nil) rfl) ⟨rfl, rfl⟩ (H.sel' [] rfl rfl)
 ·replace h := bif_f hb1 h
  refine c_skip ?_
  refine q_then ?_
  refine c_seq ?_
  refine rg ?_
  refine st (v := (Sl acode_0 code_0 ccode_0)) (rv_move rfl) ?_
  obtain ⟨r2, hx3, h'⟩ := bind_some h
  clear h
  have h := h'; clear h'
  have hc4 := c_spec_DrawDropItem (acode_0 := acode_0) (ccode_0 := ccode_0) hx3
  refine st_call (cx_call hc4 (ent_f hc4.fn rfl) hn0 (show Hp S0 σ0 _ ([Ch.ro 0 (Sl acode_0 code_0 ccode_0) code_0] ++ [Ch.ro 0 (Sl acode_0 code_0 ccode_0) code_0]) from (H.sel' [0, 0] rfl rfl))) wn ?_
  rintro _ σ7 ⟨_, ⟨a5, c6, rfl, rfl⟩, H, -⟩
  replace H : Hp S0 σ0 σ7 [Ch.ro n0 (Sl a5 r2.1 c6) r2.1, Ch.ro 0 (Sl acode_0 code_0 ccode_0) code_0] := H
  refine st (v := (.tuple #[(Sl a5 r2.1 c6), (I r2.2)])) (rv_move rfl) ?_
  refine st (v := (Sl a5 r2.1 c6)) (rv_extract rfl rfl) ?_
  refine st (v := (I r2.2)) (rv_extract rfl rfl) ?_
  refine st (v := (Sl a5 r2.1 c6)) (rv_assign rfl) ?_
  refine st (v := (I r2.2)) (rv_assign rfl) ?_
  refine w_end ?_
  refine q_then ?_
  refine c_seq ?_
  refine rg ?_
  refine st (v := (Sl a5 r2.1 c6)) (rv_move rfl) ?_
  refine st (v := (I r2.2)) (rv_move rfl) ?_
  replace H := H.roLow 0 0 rfl (Nat.zero_le _)
  obtain ⟨r8, hx9, h'⟩ := bind_some h
  clear h
  have h := h'; clear h'
  have hc10 := c_impl_DropItem (alist_0 := a5) (clist_0 := c6) hx9
  refine st_call (cx_call hc10 (ent_f hc10.fn rfl) hn0 (show Hp S0 σ0 _ ([Ch.ro 0 (Sl a5 r2.1 c6) r2.1] ++ [Ch.ro 0 (Sl a5 r2.1 c6) r2.1, Ch.ro n0 (Sl a5 r2.1 c6) r2.1, Ch.ro 0 (Sl acode_0 code_0 ccode_0) code_0]) from (H.sel' [0, 0, 1, 2] rfl rfl))) wn ?_
  rintro _ σ13 ⟨_, ⟨a11, c12, rfl, rfl⟩, H, -⟩
  replace H : Hp S0 σ0 σ13 [Ch.own 0 0 (Sl a11 r8.1 c12) r8.1, Ch.ro 0 (Sl a5 r2.1 c6) r2.1, Ch.ro n0 (Sl a5 r2.1 c6) r2.1, Ch.ro 0 (Sl acode_0 code_0 ccode_0) code_0] := H
  refine st (v := (.tuple #[(Sl a11 r8.1 c12), (B r8.2)])) (rv_move rfl) ?_
  refine st (v := (Sl a11 r8.1 c12)) (rv_extract rfl rfl) ?_
  refine st (v := (B r8.2)) (rv_extract rfl rfl) ?_
  refine st (v := (Sl a11 r8.1 c12)) (rv_assign rfl) ?_
  refine st (v := (B r8.2)) (rv_assign rfl) ?_
  refine w_end ?_
  refine q_then ?_
  refine c_seq ?_
  refine rg ?_
  refine st (v := (Sl a5 r2.1 c6)) (rv_move rfl) ?_
  refine st (v := (I r2.2)) (rv_move rfl) ?_
  replace H := H.roLow 2 0 rfl (Nat.zero_le _)
  obtain ⟨r14, hx15, h'⟩ := bind_some h
  clear h
  have h := h'; clear h'
  have hc16 := c_spec_DropItem (alist_0 := a5) (clist_0 := c6) hx15
  refine st_call (cx_call hc16 (ent_f hc16.fn rfl) hn0 (show Hp S0 σ0 _ ([Ch.ro 0 (Sl a5 r2.1 c6) r2.1] ++ [Ch.ro 0 (Sl a5 r2.1 c6) r2.1, Ch.own 0 0 (Sl a11 r8.1 c12) r8.1, Ch.ro 0 (Sl a5 r2.1 c6) r2.1, Ch.ro n0 (Sl a5 r2.1 c6) r2.1, Ch.ro 0 (Sl acode_0 code_0 ccode_0) code_0]) from (H.sel' [0, 0, 1, 2, 3, 4] rfl rfl))) wn ?_
  rintro _ σ19 ⟨_, ⟨a17, c18, rfl, rfl⟩, H, -⟩
  replace H : Hp S0 σ0 σ19 [Ch.own n0 n0 (Sl a17 r14.1 c18) r14.1, Ch.ro 0 (Sl a5 r2.1 c6) r2.1, Ch.own 0 0 (Sl a11 r8.1 c12) r8.1, Ch.ro 0 (Sl a5 r2.1 c6) r2.1, Ch.ro n0 (Sl a5 r2.1 c6) r2.1, Ch.ro 0 (Sl acode_0 code_0 ccode_0) code_0] := H
  refine st (v := (.tuple #[(Sl a17 r14.1 c18), (B r14.2)])) (rv_move rfl) ?_
  refine st (v := (Sl a17 r14.1 c18)) (rv_extract rfl rfl) ?_
  refine st (v := (B r14.2)) (rv_extract rfl rfl) ?_
  refine st (v := (Sl a17 r14.1 c18)) (rv_assign rfl) ?_
  refine st (v := (B r14.2)) (rv_assign rfl) ?_
  refine w_end ?_
  refine q_then ?_
  refine c_seq ?_
  refine c_seq ?_
  obtain ⟨o20, hj, h'⟩ := bind_some h
  clear h
  refine c_cut (fun e a w => e = .normal ∧ ∃ (ρ : Nat → Value) (σ : St), a = fr 101 (updL ρ [(0, (Sl acode_0 code_0 ccode_0)), (3, (Sl a5 r2.1 c6)), (4, (I r2.2)), (5, (Sl a11 r8.1 c12)), (6, (B r8.2)), (7, (Sl a17 r14.1 c18)), (8, (B r14.2)), (53, (B o20))]) ∧ w = σ.w ∧ Hp S0 σ0 σ [Ch.ro 0 (Sl acode_0 code_0 ccode_0) code_0, Ch.ro n0 (Sl a5 r2.1 c6) r2.1, Ch.own 0 0 (Sl a11 r8.1 c12) r8.1, Ch.own n0 n0 (Sl a17 r14.1 c18) r14.1]) ?_ ?_
  ·clear h'
   rename _ = some o20 => h
   refine rg ?_
   refine st (v := (Sl a11 r8.1 c12)) (rv_move rfl) ?_
   refine st (v := (Sl a17 r14.1 c18)) (rv_move rfl) ?_
   obtain ⟨r21, hx22, h'⟩ := bind_some h
   clear h
   have h := h'; clear h'
   have hc23 := c_laws_equalItems (aa_0 := a11) (ca_0 := c12) (ab_1 := a17) (cb_1 := c18) hx22
   have hle := Nat.le_trans hn0 H.size
   refine st_call (cx_lend (Loan.lend (Loan.lend Loan.nil)) hc23 (ent_f hc23.fn rfl) (show Hp S0 σ0 _ ([Ch.own 0 0 (Sl a11 r8.1 c12) r8.1, Ch.own n0 n0 (Sl a17 r14.1 c18) r14.1] ++ ([] ++ [Ch.ro 0 (Sl a5 r2.1 c6) r2.1, Ch.ro 0 (Sl a5 r2.1 c6) r2.1, Ch.ro n0 (Sl a5 r2.1 c6) r2.1, Ch.ro 0 (Sl acode_0 code_0 ccode_0) code_0])) from (H.sel' [2, 0, 1, 3, 4, 5] rfl rfl)) (by rintro _ _ _ ⟨rfl, rfl⟩; exact trivial)) wn ?_
   rintro _ σ24 ⟨_, ⟨rfl, rfl⟩, H, -, -⟩
   replace H : Hp S0 σ0 σ24 [Ch.own 0 0 (Sl a11 r8.1 c12) r8.1, Ch.own n0 n0 (Sl a17 r14.1 c18) r14.1, Ch.ro 0 (Sl a5 r2.1 c6) r2.1, Ch.ro 0 (Sl a5 r2.1 c6) r2.1, Ch.ro n0 (Sl a5 r2.1 c6) r2.1, Ch.ro 0 (Sl acode_0 code_0 ccode_0) code_0] := H
   clear hle
   replace H : Hp S0 σ0 σ24 [Ch.own 0 0 (Sl a11 r8.1 c12) r8.1, Ch.own n0 n0 (Sl a17 r14.1 c18) r14.1, Ch.ro 0 (Sl a5 r2.1 c6) r2.1, Ch.ro 0 (Sl a5 r2.1 c6) r2.1, Ch.ro n0 (Sl a5 r2.1 c6) r2.1, Ch.ro 0 (Sl acode_0 code_0 ccode_0) code_0] := H
   refine st (v := (B (!r21))) (rv_not rfl) ?_
   refine st (v := (B (!r21))) (rv_move rfl) ?_
   rcases Bool.eq_false_or_eq_true (!r21) with hb25 | hb25
   ·replace h := bif_t hb25 h
    refine st_skip (congrArg some hb25) ?_
    refine st_skip (congrArg some hb25) ?_
    refine st_skip (congrArg some hb25) ?_
    refine st (v := (B true)) (rv_pick_t (congrArg B hb25) rfl) ?_
    refine st (v := (B true)) (rv_move rfl) ?_
    refine st_skip rfl ?_
    refine st_skip rfl ?_
    refine st (v := (B true)) (rv_pick_t rfl rfl) ?_
    refine st (v := (B true)) (rv_move rfl) ?_
    refine st_skip rfl ?_
    refine st_skip rfl ?_
    refine st_skip rfl ?_
    refine st (v := (B true)) (rv_pick_t rfl rfl) ?_
    refine w_end ?_
    obtain rfl := Option.some.inj h
    exact ⟨rfl, _, σ24, fr_join ⟨rfl, rfl, rfl, rfl, rfl, rfl, rfl, rfl, trivial⟩, rfl, H.sel' [5, 4, 0, 1] rfl rfl⟩
   ·replace h := bif_f hb25 h
    refine st_g (v := (B r8.2)) (congrArg some hb25) (rv_move rfl) ?_
    refine st_g (v := (B r14.2)) (congrArg some hb25) (rv_move rfl) ?_
    refine st_g (v := (B (r8.2 != r14.2))) (congrArg some hb25) (rv_bneq Try.underlying4 rfl rfl) ?_
    refine st (v := (B (r8.2 != r14.2))) (rv_pick_f (congrArg B hb25) rfl) ?_
    refine st (v := (B (r8.2 != r14.2))) (rv_move rfl) ?_
    rcases Bool.eq_false_or_eq_true (r8.2 != r14.2) with hb26 | hb26
    ·replace h := bif_t hb26 h
     refine st_skip (congrArg some hb26) ?_
     refine st_skip (congrArg some hb26) ?_
     refine st (v := (B true)) (rv_pick_t (congrArg B hb26) rfl) ?_
     refine st (v := (B true)) (rv_move rfl) ?_
     refine st_skip rfl ?_
     refine st_skip rfl ?_
     refine st_skip rfl ?_
     refine st (v := (B true)) (rv_pick_t rfl rfl) ?_
     refine w_end ?_
     obtain rfl := Option.some.inj h
     exact ⟨rfl, _, σ24, fr_join ⟨rfl, rfl, rfl, rfl, rfl, rfl, rfl, rfl, trivial⟩, rfl, H.sel' [5, 4, 0, 1] rfl rfl⟩
    ·replace h := bif_f hb26 h
     refine st_g (v := (B r8.2)) (congrArg some hb26) (rv_move rfl) ?_
     refine st_g (v := (B (!r8.2))) (congrArg some hb26) (rv_not rfl) ?_
     refine st (v := (B (!r8.2))) (rv_pick_f (congrArg B hb26) rfl) ?_
     refine st (v := (B (!r8.2))) (rv_move rfl) ?_
     rcases Bool.eq_false_or_eq_true (!r8.2) with hb27 | hb27
     ·replace h := bif_t hb27 h
      refine st_skip (congrArg some hb27) ?_
      refine st_skip (congrArg some hb27) ?_
      refine st_skip (congrArg some hb27) ?_
      refine st (v := (B true)) (rv_pick_t (congrArg B hb27) rfl) ?_
      refine w_end ?_
      obtain rfl := Option.some.inj h
      exact ⟨rfl, _, σ24, fr_join ⟨rfl, rfl, rfl, rfl, rfl, rfl, rfl, rfl, trivial⟩, rfl, H.sel' [5, 4, 0, 1] rfl rfl⟩
     ·replace h := bif_f hb27 h
      refine st_g (v := (Sl a11 r8.1 c12)) (congrArg some hb27) (rv_move rfl) ?_
      refine st_g (v := (I (r8.1.length : Int))) (congrArg some hb27) (rv_len Try.underlying23 rfl) ?_
      refine st_g (v := (B ((r8.1.length : Int) == 0))) (congrArg some hb27) (rv_eql (a := (r8.1.length : Int)) (b := 0) rfl rfl) ?_
      refine st (v := (B ((r8.1.length : Int) == 0))) (rv_pick_f (congrArg B hb27) rfl) ?_
      refine w_end ?_
      obtain rfl := Option.some.inj h
      exact ⟨rfl, _, σ24, fr_join ⟨rfl, rfl, rfl, rfl, rfl, rfl, rfl, rfl, trivial⟩, rfl, H.sel' [5, 4, 0, 1] rfl rfl⟩
  ·clear hj
   have h := h'
   clear h' H
   rintro e a w ⟨rfl, ρ, σ28, rfl, rfl, H⟩
   refine q_then ?_
   refine cd_cond o20 rfl (fun hb29 => ?_) (fun hb29 => ?_)
   ·replace h := bif_t hb29 h
    refine c_seq ?_
    refine rg ?_
    refine st (v := (Sl a11 r8.1 c12)) (rv_move rfl) ?_
    refine st (v := (Sl a17 r14.1 c18)) (rv_move rfl) ?_
    obtain ⟨σ30, hw31, H, -⟩ := H.pub 2 rfl (Nat.le_refl _)
    rw [← hw31]; clear hw31
    obtain ⟨σ32, hw33, H, -⟩ := H.pub 3 rfl (Nat.le_refl _)
    rw [← hw33]; clear hw33
    replace H := H.roLow 0 0 rfl (Nat.zero_le _)
    obtain ⟨r34, hx35, h'⟩ := bind_some h
    clear h
    have h := h'; clear h'
    have hc36 := c_laws_equalItems (aa_0 := a11) (ca_0 := c12) (ab_1 := a17) (cb_1 := c18) hx35
    refine st_call (cx_call hc36 (ent_f hc36.fn rfl) hn0 (show Hp S0 σ0 _ ([Ch.ro 0 (Sl a11 r8.1 c12) r8.1, Ch.ro 0 (Sl a17 r14.1 c18) r14.1] ++ [Ch.ro 0 (Sl a17 r14.1 c18) r14.1, Ch.ro n0 (Sl a17 r14.1 c18) r14.1, Ch.ro 0 (Sl a11 r8.1 c12) r8.1, Ch.ro 0 (Sl acode_0 code_0 ccode_0) code_0, Ch.ro n0 (Sl a5 r2.1 c6) r2.1]) from (H.sel' [2, 0, 0, 1, 2, 3, 4] rfl rfl))) wn ?_
    rintro _ σ37 ⟨_, ⟨rfl, rfl⟩, H, -⟩
    replace H : Hp S0 σ0 σ37 [Ch.ro 0 (Sl a17 r14.1 c18) r14.1, Ch.ro n0 (Sl a17 r14.1 c18) r14.1, Ch.ro 0 (Sl a11 r8.1 c12) r8.1, Ch.ro 0 (Sl acode_0 code_0 ccode_0) code_0, Ch.ro n0 (Sl a5 r2.1 c6) r2.1] := H
    refine st (v := (B r34)) (rv_move rfl) ?_
    rcases Bool.eq_false_or_eq_true r34 with hb38 | hb38
    ·replace h := bif_t hb38 h
     refine st_g (v := (B r8.2)) (congrArg some hb38) (rv_move rfl) ?_
     refine st_g (v := (B r14.2)) (congrArg some hb38) (rv_move rfl) ?_
     refine st_g (v := (B (r8.2 == r14.2))) (congrArg some hb38) (rv_beql Try.underlying4 rfl rfl) ?_
     refine st (v := (B (r8.2 == r14.2))) (rv_pick_t (congrArg B hb38) rfl) ?_
     refine st (v := (B (r8.2 == r14.2))) (rv_assign rfl) ?_
     refine w_end ?_
     refine q_then ?_
     refine c_ret ?_
     refine q_then_r ?_
     obtain rfl := Option.some.inj h
     exact fin_ret (v := (B (r8.2 == r14.2))) (results_ok Try.results14 (res_tmp (v := (B (r8.2 == r14.2))) rfl res_nil) rfl) ⟨rfl, rfl⟩ (H.sel' [] rfl rfl)
    ·replace h := bif_f hb38 h
     refine st_skip (congrArg some hb38) ?_
     refine st_skip (congrArg some hb38) ?_
     refine st_skip (congrArg some hb38) ?_
     refine st (v := (B false)) (rv_pick_f (congrArg B hb38) rfl) ?_
     refine st (v := (B false)) (rv_assign rfl) ?_
     refine w_end ?_
     refine q_then ?_
     refine c_ret ?_
     refine q_then_r ?_
     obtain rfl := Option.some.inj h
     exact fin_ret (v := (B false)) (results_ok Try.results14 (res_tmp (v := (B false)) rfl res_nil) rfl) ⟨rfl, rfl⟩ (H.sel' [] rfl rfl)
   ·replace h := bif_f hb29 h
    refine c_skip ?_
    refine q_then ?_
    refine c_seq ?_
    refine rg ?_
    refine st (v := (Sl a11 r8.1 c12)) (rv_move rfl) ?_
    refine st (v := (Sl acode_0 code_0 ccode_0)) (rv_move rfl) ?_
    refine st (v := (I (code_0.length : Int))) (rv_len Try.underlying22 rfl) ?_
    refine st (v := (Sl a11 r8.1 c12)) (rv_move rfl) ?_
    refine st (v := (I (r8.1.length : Int))) (rv_len Try.underlying23 rfl) ?_
    obtain ⟨q39, hx40, h'⟩ := bind_some h
    clear h
    have h := h'; clear h'
    refine st (v := (I q39)) (rv_remG (a := (code_0.length : Int)) (b := (r8.1.length : Int)) hx40 rfl rfl) ?_
    obtain ⟨x41, hx42, h'⟩ := bind_some h
    clear h
    have h := h'; clear h'
    obtain ⟨b44, o45, hi43, -⟩ := (H.own 2 rfl).ix hx42
    refine st (v := (pt b44 o45)) (rv_ix Try.underlying23 ti26 rfl rfl hi43) ?_
    refine st (v := (pt b44 (o45 + 0))) (rv_fieldAddr (off := 0) (ft := 3) Try.underlying26 rfl ti3 rfl rfl) ?_
    have hc46 := ((H.own 2 rfl).at hx42 hi43).fst.int
    refine st (v := (I x41.1)) (rv_load1 Try.underlying3 rfl rfl hc46) ?_
    refine st (v := (I x41.1)) (rv_assign rfl) ?_
    refine w_end ?_
    refine q_then ?_
    refine c_seq ?_
    refine rg ?_
    refine st (v := (Sl a11 r8.1 c12)) (rv_move rfl) ?_
    refine st (v := (I x41.1)) (rv_move rfl) ?_
    obtain ⟨σ47, hw48, H, -⟩ := H.pub 2 rfl (Nat.le_refl _)
    rw [← hw48]; clear hw48
    obtain ⟨r49, hx50, h'⟩ := bind_some h
    clear h
    have h := h'; clear h'
    have hc51 := c_impl_DropItem (alist_0 := a11) (clist_0 := c12) hx50
    refine st_call (cx_call hc51 (ent_f hc51.fn rfl) hn0 (show Hp S0 σ0 _ ([Ch.ro 0 (Sl a11 r8.1 c12) r8.1] ++ [Ch.ro 0 (Sl a11 r8.1 c12) r8.1, Ch.ro 0 (Sl acode_0 code_0 ccode_0) code_0, Ch.ro n0 (Sl a5 r2.1 c6) r2.1, Ch.own n0 n0 (Sl a17 r14.1 c18) r14.1]) from (H.sel' [0, 0, 1, 2, 3] rfl rfl))) wn ?_
    rintro _ σ54 ⟨_, ⟨a52, c53, rfl, rfl⟩, H, -⟩
    replace H : Hp S0 σ0 σ54 [Ch.own 0 0 (Sl a52 r49.1 c53) r49.1, Ch.ro 0 (Sl a11 r8.1 c12) r8.1, Ch.ro 0 (Sl acode_0 code_0 ccode_0) code_0, Ch.ro n0 (Sl a5 r2.1 c6) r2.1, Ch.own n0 n0 (Sl a17 r14.1 c18) r14.1] := H
    refine st (v := (.tuple #[(Sl a52 r49.1 c53), (B r49.2)])) (rv_move rfl) ?_
    refine st (v := (Sl a52 r49.1 c53)) (rv_extract rfl rfl) ?_
    refine st (v := (B r49.2)) (rv_extract rfl rfl) ?_
    refine st (v := (Sl a52 r49.1 c53)) (rv_assign rfl) ?_
    refine st (v := (B r49.2)) (rv_assign rfl) ?_
    refine w_end ?_
    refine q_then ?_
    refine c_seq ?_
    refine rg ?_
    refine st (v := (Sl a5 r2.1 c6)) (rv_move rfl) ?_
    refine st (v := (I x41.1)) (rv_move rfl) ?_
    replace H := H.roLow 3 0 rfl (Nat.zero_le _)
    obtain ⟨r55, hx56, h'⟩ := bind_some h
    clear h
    have h := h'; clear h'
    have hc57 := c_impl_DropItem (alist_0 := a5) (clist_0 := c6) hx56
    refine st_call (cx_call hc57 (ent_f hc57.fn rfl) hn0 (show Hp S0 σ0 _ ([Ch.ro 0 (Sl a5 r2.1 c6) r2.1] ++ [Ch.ro 0 (Sl a5 r2.1 c6) r2.1, Ch.own 0 0 (Sl a52 r49.1 c53) r49.1, Ch.ro 0 (Sl a11 r8.1 c12) r8.1, Ch.ro 0 (Sl acode_0 code_0 ccode_0) code_0, Ch.ro n0 (Sl a5 r2.1 c6) r2.1, Ch.own n0 n0 (Sl a17 r14.1 c18) r14.1]) from (H.sel' [0, 0, 1, 2, 3, 4, 5] rfl rfl))) wn ?_
    rintro _ σ60 ⟨_, ⟨a58, c59, rfl, rfl⟩, H, -⟩
    replace H : Hp S0 σ0 σ60 [Ch.own 0 0 (Sl a58 r55.1 c59) r55.1, Ch.ro 0 (Sl a5 r2.1 c6) r2.1, Ch.own 0 0 (Sl a52 r49.1 c53) r49.1, Ch.ro 0 (Sl a11 r8.1 c12) r8.1, Ch.ro 0 (Sl acode_0 code_0 ccode_0) code_0, Ch.ro n0 (Sl a5 r2.1 c6) r2.1, Ch.own n0 n0 (Sl a17 r14.1 c18) r14.1] := H
    refine st (v := (.tuple #[(Sl a58 r55.1 c59), (B r55.2)])) (rv_move rfl) ?_
    refine st (v := (Sl a58 r55.1 c59)) (rv_extract rfl rfl) ?_
    refine st (v := (B r55.2)) (rv_extract rfl rfl) ?_
    refine st (v := (Sl a58 r55.1 c59)) (rv_assign rfl) ?_
    refine st (v := (B r55.2)) (rv_assign rfl) ?_
    refine w_end ?_
    refine q_then ?_
    refine c_seq ?_
    refine rg ?_
    refine st (v := (Sl a58 r55.1 c59)) (rv_move rfl) ?_
    refine st (v := (I r2.2)) (rv_move rfl) ?_
    obtain ⟨σ61, hw62, H, -⟩ := H.pub 0 rfl (Nat.le_refl _)
    rw [← hw62]; clear hw62
    obtain ⟨r63, hx64, h'⟩ := bind_some h
    clear h
    have h := h'; clear h'
    have hc65 := c_impl_DropItem (alist_0 := a58) (clist_0 := c59) hx64
    refine st_call (cx_call hc65 (ent_f hc65.fn rfl) hn0 (show Hp S0 σ0 _ ([Ch.ro 0 (Sl a58 r55.1 c59) r55.1] ++ [Ch.ro 0 (Sl a58 r55.1 c59) r55.1, Ch.ro 0 (Sl a5 r2.1 c6) r2.1, Ch.own 0 0 (Sl a52 r49.1 c53) r49.1, Ch.ro 0 (Sl a11 r8.1 c12) r8.1, Ch.ro 0 (Sl acode_0 code_0 ccode_0) code_0, Ch.ro n0 (Sl a5 r2.1 c6) r2.1, Ch.own n0 n0 (Sl a17 r14.1 c18) r14.1]) from (H.sel' [0, 0, 1, 2, 3, 4, 5, 6] rfl rfl))) wn ?_
    rintro _ σ68 ⟨_, ⟨a66, c67, rfl, rfl⟩, H, -⟩
    replace H : Hp S0 σ0 σ68 [Ch.own 0 0 (Sl a66 r63.1 c67) r63.1, Ch.ro 0 (Sl a58 r55.1 c59) r55.1, Ch.ro 0 (Sl a5 r2.1 c6) r2.1, Ch.own 0 0 (Sl a52 r49.1 c53) r49.1, Ch.ro 0 (Sl a11 r8.1 c12) r8.1, Ch.ro 0 (Sl acode_0 code_0 ccode_0) code_0, Ch.ro n0 (Sl a5 r2.1 c6) r2.1, Ch.own n0 n0 (Sl a17 r14.1 c18) r14.1] := H
    replace H : Hp S0 σ0 σ68 [Ch.own 0 0 (Sl a66 r63.1 c67) r63.1, Ch.own 0 0 (Sl a52 r49.1 c53) r49.1] := H.sel' [0, 3] rfl rfl
    refine st (v := (.tuple #[(Sl a66 r63.1 c67), (B r63.2)])) (rv_move rfl) ?_
    refine st (v := (Sl a66 r63.1 c67)) (rv_extract rfl rfl) ?_
    refine st (v := (B r63.2)) (rv_extract rfl rfl) ?_
    refine st (v := (Sl a66 r63.1 c67)) (rv_assign rfl) ?_
    refine st (v := (B r63.2)) (rv_assign rfl) ?_
    refine w_end ?_
    refine q_then ?_
    refine c_seq ?_
    refine rg ?_
    refine st (v := (B r49.2)) (rv_move rfl) ?_
    refine st (v := (B r49.2)) (rv_move rfl) ?_
    rcases Bool.eq_false_or_eq_true r49.2 with hb69 | hb69
    ·replace h := bif_t hb69 h
     refine st_g (v := (B r55.2)) (congrArg some hb69) (rv_move rfl) ?_
     refine st (v := (B r55.2)) (rv_pick_t (congrArg B hb69) rfl) ?_
     refine st (v := (B r55.2)) (rv_move rfl) ?_
     rcases Bool.eq_false_or_eq_true r55.2 with hb70 | hb70
     ·replace h := bif_t hb70 h
      refine st_g (v := (B r63.2)) (congrArg some hb70) (rv_move rfl) ?_
      refine st (v := (B r63.2)) (rv_pick_t (congrArg B hb70) rfl) ?_
      refine st (v := (B r63.2)) (rv_move rfl) ?_
      rcases Bool.eq_false_or_eq_true r63.2 with hb71 | hb71
      ·replace h := bif_t hb71 h
       refine st_g (v := (Sl a52 r49.1 c53)) (congrArg some hb71) (rv_move rfl) ?_
       refine st_g (v := (Sl a66 r63.1 c67)) (congrArg some hb71) (rv_move rfl) ?_
       obtain ⟨σ72, hw73, H, -⟩ := H.pub 1 rfl (Nat.le_refl _)
       rw [← hw73]; clear hw73
       obtain ⟨σ74, hw75, H, -⟩ := H.pub 1 rfl (Nat.le_refl _)
       rw [← hw75]; clear hw75
       obtain ⟨r76, hx77, h'⟩ := bind_some h
       clear h
       have h := h'; clear h'
       have hc78 := c_laws_equalItems (aa_0 := a52) (ca_0 := c53) (ab_1 := a66) (cb_1 := c67) hx77
       refine st_call (cx_call hc78 (ent_f hc78.fn rfl) hn0 (show Hp S0 σ0 _ ([Ch.ro 0 (Sl a52 r49.1 c53) r49.1, Ch.ro 0 (Sl a66 r63.1 c67) r63.1] ++ [Ch.ro 0 (Sl a66 r63.1 c67) r63.1, Ch.ro 0 (Sl a52 r49.1 c53) r49.1]) from (H.sel' [1, 0, 0, 1] rfl rfl))) (wanted_yes rfl (by exact (congrArg some hb71))) ?_
       rintro _ σ79 ⟨_, ⟨rfl, rfl⟩, H, -⟩
       replace H : Hp S0 σ0 σ79 [Ch.ro 0 (Sl a66 r63.1 c67) r63.1, Ch.ro 0 (Sl a52 r49.1 c53) r49.1] := H
       refine st (v := (B r76)) (rv_pick_t (congrArg B hb71) rfl) ?_
       refine st (v := (B r76)) (rv_assign rfl) ?_
       refine w_end ?_
       refine q_then ?_
       refine c_ret ?_
       obtain rfl := Option.some.inj h
       exact fin_ret (v := (B r76)) (results_ok Try.results14 (res_tmp (v := (B r76)) rfl res_nil) rfl) ⟨rfl, rfl⟩ (H.sel' [] rfl rfl)
      ·replace h := bif_f hb71 h
       refine st_skip (congrArg some hb71) ?_
       refine st_skip (congrArg some hb71) ?_
       refine st_skip (congrArg some hb71) ?_
       refine st (v := (B false)) (rv_pick_f (congrArg B hb71) rfl) ?_
       refine st (v := (B false)) (rv_assign rfl) ?_
       refine w_end ?_
       refine q_then ?_
       refine c_ret ?_
       obtain rfl := Option.some.inj h
       exact fin_ret (v := (B false)) (results_ok Try.results14 (res_tmp (v := (B false)) rfl res_nil) rfl) ⟨rfl, rfl⟩ (H.sel' [] rfl rfl)
     ·replace h := bif_f hb70 h
      refine st_skip (congrArg some hb70) ?_
      refine st (v := (B false)) (rv_pick_f (congrArg B hb70) rfl) ?_
      refine st (v := (B false)) (rv_move rfl) ?_
      refine st_skip rfl ?_
      refine st_skip rfl ?_
      refine st_skip rfl ?_
      refine st (v := (B false)) (rv_pick_f rfl rfl) ?_
      refine st (v := (B false)) (rv_assign rfl) ?_
      refine w_end ?_
      refine q_then ?_
      refine c_ret ?_
      obtain rfl := Option.some.inj h
      exact fin_ret (v := (B false)) (results_ok Try.results14 (res_tmp (v := (B false)) rfl res_nil) rfl) ⟨rfl, rfl⟩ (H.sel' [] rfl rfl)
    ·replace h := bif_f hb69 h
     refine st_skip (congrArg some hb69) ?_
     refine st (v := (B false)) (rv_pick_f (congrArg B hb69) rfl) ?_
     refine st (v := (B false)) (rv_move rfl) ?_
     refine st_skip rfl ?_
     refine st (v := (B false)) (rv_pick_f rfl rfl) ?_
     refine st (v := (B false)) (rv_move rfl) ?_
     refine st_skip rfl ?_
     refine st_skip rfl ?_
     refine st_skip rfl ?_
     refine st (v := (B false)) (rv_pick_f rfl rfl) ?_
     refine st (v := (B false)) (rv_assign rfl) ?_
     refine w_end ?_
     refine q_then ?_
     refine c_ret ?_
     obtain rfl := Option.some.inj h
     exact fin_ret (v := (B false)) (results_ok Try.results14 (res_tmp (v := (B false)) rfl res_nil) rfl) ⟨rfl, rfl⟩ (H.sel' [] rfl rfl)

end Go.Vs
