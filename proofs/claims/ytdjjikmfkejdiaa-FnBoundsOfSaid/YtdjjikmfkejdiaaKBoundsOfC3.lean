/- The functions compute what their models say. -/
import Derived.Test.YtdjjikmfkejdiaaKBoundsOfC2
set_option linter.unusedVariables false
set_option linter.unusedSimpArgs false
set_option maxRecDepth 20000
namespace Go.Vs
open Go Go.Proofs
attribute [local irreducible] Code.wp Code.wpIn wpList wpListIn wpQuiet Calls CallsIn

theorem c_impl_InBox {list_0 : List (Int × (List Int) × Int)} {low_1 : List Int} {high_2 : List Int} {alist_0 : Option Addr} {clist_0 : Nat} {alow_1 : Option Addr} {clow_1 : Nat} {ahigh_2 : Option Addr} {chigh_2 : Nat} {r : (List Int)} (h : M.impl_InBox list_0 low_1 high_2 = some r) :
    Cal2 Try.prog 18 [(Sl alist_0 list_0 clist_0), (Sl alow_1 low_1 clow_1), (Sl ahigh_2 high_2 chigh_2)] [Ch.ro 0 (Sl alist_0 list_0 clist_0) list_0, Ch.ro 0 (Sl alow_1 low_1 clow_1) low_1, Ch.ro 0 (Sl ahigh_2 high_2 chigh_2) high_2] (fun n0 v L => ∃ (az1 : Option Addr), ∃ (cz2 : Nat), v = (Sl az1 r cz2) ∧ L = [Ch.own n0 n0 (Sl az1 r cz2) r] ∧ cz2 = r.length) := by
 refine cal2 (n := 24) Try.func18 rfl rfl rfl rfl ?_
 intro S0 σ0 n0 hn0 H
 unfold M.impl_InBox at h
 refine c_seq ?_
 refine rg ?_
 refine st_ex (ex_box (cs := [(Sl alow_1 low_1 clow_1)]) H hn0 rfl rfl) wn ?_
 rintro _ σ2 ⟨b1, rfl, H, -⟩
 refine st_ex (ex_box (cs := [(Sl ahigh_2 high_2 chigh_2)]) H hn0 rfl rfl) wn ?_
 rintro _ σ4 ⟨b3, rfl, H, -⟩
 refine st (v := (.slice none 0 0)) (rv_assign rfl) ?_
 refine w_end ?_
 refine q_then ?_
 refine c_seq ?_
 refine c_seq ?_
 obtain ⟨o5, hj, h'⟩ := bind_some h
 clear h
 refine c_cut (fun e a w => e = .normal ∧ ∃ (ρ : Nat → Value) (σ : St), a = fr 24 (updL ρ [(0, (Sl alist_0 list_0 clist_0)), (4, (pt b1 0)), (5, (pt b3 0)), (19, (B o5))]) ∧ w = σ.w ∧ Hp S0 σ0 σ [Ch.ro 0 (Sl alist_0 list_0 clist_0) list_0, Ch.ro 0 (Sl alow_1 low_1 clow_1) low_1, Ch.bx n0 b1 0 [(Sl alow_1 low_1 clow_1)] [] [], Ch.ro 0 (Sl ahigh_2 high_2 chigh_2) high_2, Ch.bx n0 b3 0 [(Sl ahigh_2 high_2 chigh_2)] [] []]) ?_ ?_
 ·clear h'
  rename _ = some o5 => h
  refine rg ?_
  refine st (v := (Sl alist_0 list_0 clist_0)) (rv_move rfl) ?_
  obtain ⟨r6, hx7, h'⟩ := bind_some h
  clear h
  have h := h'; clear h'
  have hc8 := c_impl_ValidStore (alist_0 := alist_0) (clist_0 := clist_0) hx7
  refine st_call (cx_call hc8 (ent_f hc8.fn rfl) hn0 (show Hp S0 σ0 _ ([Ch.ro 0 (Sl alist_0 list_0 clist_0) list_0] ++ [Ch.bx n0 b3 0 [(Sl ahigh_2 high_2 chigh_2)] [] [], Ch.bx n0 b1 0 [(Sl alow_1 low_1 clow_1)] [] [], Ch.ro 0 (Sl alist_0 list_0 clist_0) list_0, Ch.ro 0 (Sl alow_1 low_1 clow_1) low_1, Ch.ro 0 (Sl ahigh_2 high_2 chigh_2) high_2]) from (H.sel' [2, 0, 1, 2, 3, 4] rfl rfl))) wn ?_
  rintro _ σ9 ⟨_, ⟨rfl, rfl⟩, H, -⟩
  replace H : Hp S0 σ0 σ9 [Ch.bx n0 b3 0 [(Sl ahigh_2 high_2 chigh_2)] [] [], Ch.bx n0 b1 0 [(Sl alow_1 low_1 clow_1)] [] [], Ch.ro 0 (Sl alist_0 list_0 clist_0) list_0, Ch.ro 0 (Sl alow_1 low_1 clow_1) low_1, Ch.ro 0 (Sl ahigh_2 high_2 chigh_2) high_2] := H
  refine st (v := (B (!r6))) (rv_not rfl) ?_
  refine st (v := (B (!r6))) (rv_move rfl) ?_
  rcases Bool.eq_false_or_eq_true (!r6) with hb10 | hb10
  ·replace h := bif_t hb10 h
   refine st_skip (congrArg some hb10) ?_
   refine st_skip (congrArg some hb10) ?_
   refine st_skip (congrArg some hb10) ?_
   refine st (v := (B true)) (rv_pick_t (congrArg B hb10) rfl) ?_
   refine st (v := (B true)) (rv_move rfl) ?_
   refine st_skip rfl ?_
   refine st_skip rfl ?_
   refine st_skip rfl ?_
   refine st (v := (B true)) (rv_pick_t rfl rfl) ?_
   refine w_end ?_
   obtain rfl := Option.some.inj h
   exact ⟨rfl, _, σ9, fr_join ⟨rfl, rfl, rfl, rfl, trivial⟩, rfl, H.sel' [2, 3, 1, 4, 0] rfl rfl⟩
  ·replace h := bif_f hb10 h
   have hc11 := H.cell (u := (Sl alow_1 low_1 clow_1)) (o' := 0) 1 0 rfl rfl rfl
   refine st_g (v := (Sl alow_1 low_1 clow_1)) (congrArg some hb10) (rv_load1 Try.underlying25 rfl rfl hc11) ?_
   obtain ⟨r12, hx13, h'⟩ := bind_some h
   clear h
   have h := h'; clear h'
   have hc14 := c_impl_ValidVector (av_0 := alow_1) (cv_0 := clow_1) hx13
   refine st_call (cx_call hc14 (ent_f hc14.fn rfl) hn0 (show Hp S0 σ0 _ ([Ch.ro 0 (Sl alow_1 low_1 clow_1) low_1] ++ [Ch.bx n0 b3 0 [(Sl ahigh_2 high_2 chigh_2)] [] [], Ch.bx n0 b1 0 [(Sl alow_1 low_1 clow_1)] [] [], Ch.ro 0 (Sl alist_0 list_0 clist_0) list_0, Ch.ro 0 (Sl alow_1 low_1 clow_1) low_1, Ch.ro 0 (Sl ahigh_2 high_2 chigh_2) high_2]) from (H.sel' [3, 0, 1, 2, 3, 4] rfl rfl))) (wanted_yes rfl (by exact (congrArg some hb10))) ?_
   rintro _ σ15 ⟨_, ⟨rfl, rfl⟩, H, -⟩
   replace H : Hp S0 σ0 σ15 [Ch.bx n0 b3 0 [(Sl ahigh_2 high_2 chigh_2)] [] [], Ch.bx n0 b1 0 [(Sl alow_1 low_1 clow_1)] [] [], Ch.ro 0 (Sl alist_0 list_0 clist_0) list_0, Ch.ro 0 (Sl alow_1 low_1 clow_1) low_1, Ch.ro 0 (Sl ahigh_2 high_2 chigh_2) high_2] := H
   refine st_g (v := (B (!r12))) (congrArg some hb10) (rv_not rfl) ?_
   refine st (v := (B (!r12))) (rv_pick_f (congrArg B hb10) rfl) ?_
   refine st (v := (B (!r12))) (rv_move rfl) ?_
   rcases Bool.eq_false_or_eq_true (!r12) with hb16 | hb16
   ·replace h := bif_t hb16 h
    refine st_skip (congrArg some hb16) ?_
    refine st_skip (congrArg some hb16) ?_
    refine st_skip (congrArg some hb16) ?_
    refine st (v := (B true)) (rv_pick_t (congrArg B hb16) rfl) ?_
    refine w_end ?_
    obtain rfl := Option.some.inj h
    exact ⟨rfl, _, σ15, fr_join ⟨rfl, rfl, rfl, rfl, trivial⟩, rfl, H.sel' [2, 3, 1, 4, 0] rfl rfl⟩
   ·replace h := bif_f hb16 h
    have hc17 := H.cell (u := (Sl ahigh_2 high_2 chigh_2)) (o' := 0) 0 0 rfl rfl rfl
    refine st_g (v := (Sl ahigh_2 high_2 chigh_2)) (congrArg some hb16) (rv_load1 Try.underlying25 rfl rfl hc17) ?_
    obtain ⟨r18, hx19, h'⟩ := bind_some h
    clear h
    have h := h'; clear h'
    have hc20 := c_impl_ValidVector (av_0 := ahigh_2) (cv_0 := chigh_2) hx19
    refine st_call (cx_call hc20 (ent_f hc20.fn rfl) hn0 (show Hp S0 σ0 _ ([Ch.ro 0 (Sl ahigh_2 high_2 chigh_2) high_2] ++ [Ch.bx n0 b3 0 [(Sl ahigh_2 high_2 chigh_2)] [] [], Ch.bx n0 b1 0 [(Sl alow_1 low_1 clow_1)] [] [], Ch.ro 0 (Sl alist_0 list_0 clist_0) list_0, Ch.ro 0 (Sl alow_1 low_1 clow_1) low_1, Ch.ro 0 (Sl ahigh_2 high_2 chigh_2) high_2]) from (H.sel' [4, 0, 1, 2, 3, 4] rfl rfl))) (wanted_yes rfl (by exact (congrArg some hb16))) ?_
    rintro _ σ21 ⟨_, ⟨rfl, rfl⟩, H, -⟩
    replace H : Hp S0 σ0 σ21 [Ch.bx n0 b3 0 [(Sl ahigh_2 high_2 chigh_2)] [] [], Ch.bx n0 b1 0 [(Sl alow_1 low_1 clow_1)] [] [], Ch.ro 0 (Sl alist_0 list_0 clist_0) list_0, Ch.ro 0 (Sl alow_1 low_1 clow_1) low_1, Ch.ro 0 (Sl ahigh_2 high_2 chigh_2) high_2] := H
    refine st_g (v := (B (!r18))) (congrArg some hb16) (rv_not rfl) ?_
    refine st (v := (B (!r18))) (rv_pick_f (congrArg B hb16) rfl) ?_
    refine w_end ?_
    obtain rfl := Option.some.inj h
    exact ⟨rfl, _, σ21, fr_join ⟨rfl, rfl, rfl, rfl, trivial⟩, rfl, H.sel' [2, 3, 1, 4, 0] rfl rfl⟩
 ·clear hj
  have h := h'
  clear h' H
  rintro e a w ⟨rfl, ρ, σ22, rfl, rfl, H⟩
  refine q_then ?_
  refine cd_cond o5 rfl (fun hb23 => ?_) (fun hb23 => ?_)
  ·replace h := bif_t hb23 h
   refine c_seq ?_
   refine rg ?_
   refine st (v := (.slice none 0 0)) (rv_assign rfl) ?_
   refine w_end ?_
   refine q_then ?_
   refine c_ret ?_
   refine q_then_r ?_
   replace H := H.nilOwn Int n0 n0
   obtain rfl := Option.some.inj h
   exact fin_ret (v := (.slice none 0 0)) (results_ok Try.results18 (res_tmp (v := (.slice none 0 0)) rfl res_nil) rfl) ⟨none, 0, rfl, rfl, rfl⟩ (H.sel' [0] rfl rfl)
  ·replace h := bif_f hb23 h
   refine c_skip ?_
   refine q_then ?_
   refine c_seq ?_
   refine rg ?_
   refine st (v := (Sl alist_0 list_0 clist_0)) (rv_move rfl) ?_
   refine st (v := (.func (.func 51) #[] #[(pt b1 0), (pt b3 0)])) (rv_makeFunc (vs := [(pt b1 0), (pt b3 0)]) rfl) ?_
   obtain ⟨r24, hx25, h'⟩ := bind_some h
   clear h
   have h := h'; clear h'
   have hc26 := c_impl_itemsThat__impl_InBox_1 (alist_0 := alist_0) (clist_0 := clist_0) (lochosen_1_0 := n0) (bchosen_1_0 := b1) (ochosen_1_0 := 0) (prechosen_1_0 := []) (sufchosen_1_0 := []) (achosen_1_0 := alow_1) (cchosen_1_0 := clow_1) (lochosen_1_1 := n0) (bchosen_1_1 := b3) (ochosen_1_1 := 0) (prechosen_1_1 := []) (sufchosen_1_1 := []) (achosen_1_1 := ahigh_2) (cchosen_1_1 := chigh_2) hx25
   refine st_call (cx_call hc26 (ent_f hc26.fn rfl) hn0 (show Hp S0 σ0 _ ([Ch.ro 0 (Sl alist_0 list_0 clist_0) list_0, Ch.bx n0 b1 0 [(Sl alow_1 low_1 clow_1)] [] [], Ch.ro 0 (Sl alow_1 low_1 clow_1) low_1, Ch.bx n0 b3 0 [(Sl ahigh_2 high_2 chigh_2)] [] [], Ch.ro 0 (Sl ahigh_2 high_2 chigh_2) high_2] ++ [Ch.ro 0 (Sl alist_0 list_0 clist_0) list_0, Ch.ro 0 (Sl alow_1 low_1 clow_1) low_1, Ch.ro 0 (Sl ahigh_2 high_2 chigh_2) high_2]) from (H.sel' [0, 2, 1, 4, 3, 0, 1, 3] rfl rfl))) wn ?_
   rintro _ σ29 ⟨_, ⟨a27, c28, rfl, rfl⟩, H, -⟩
   replace H : Hp S0 σ0 σ29 [Ch.own n0 0 (Sl a27 r24 c28) r24, Ch.bx n0 b1 0 [(Sl alow_1 low_1 clow_1)] [] [], Ch.bx n0 b3 0 [(Sl ahigh_2 high_2 chigh_2)] [] [], Ch.ro 0 (Sl alist_0 list_0 clist_0) list_0, Ch.ro 0 (Sl alow_1 low_1 clow_1) low_1, Ch.ro 0 (Sl ahigh_2 high_2 chigh_2) high_2] := H
   obtain ⟨σ30, hw31, H, -⟩ := H.pub 0 rfl (Nat.zero_le _)
   rw [← hw31]; clear hw31
   obtain ⟨r32, hx33, h'⟩ := bind_some h
   clear h
   have h := h'; clear h'
   have hc34 := c_impl_keysOf (alist_0 := a27) (clist_0 := c28) hx33
   refine st_call (cx_call hc34 (ent_f hc34.fn rfl) hn0 (show Hp S0 σ0 _ ([Ch.ro 0 (Sl a27 r24 c28) r24] ++ [Ch.ro 0 (Sl a27 r24 c28) r24, Ch.bx n0 b1 0 [(Sl alow_1 low_1 clow_1)] [] [], Ch.bx n0 b3 0 [(Sl ahigh_2 high_2 chigh_2)] [] [], Ch.ro 0 (Sl alist_0 list_0 clist_0) list_0, Ch.ro 0 (Sl alow_1 low_1 clow_1) low_1, Ch.ro 0 (Sl ahigh_2 high_2 chigh_2) high_2]) from (H.sel' [0, 0, 1, 2, 3, 4, 5] rfl rfl))) wn ?_
   rintro _ σ38 ⟨_, ⟨a35, c36, rfl, rfl, ht37⟩, H, -⟩
   replace H : Hp S0 σ0 σ38 [Ch.own n0 n0 (Sl a35 r32 c36) r32, Ch.ro 0 (Sl a27 r24 c28) r24, Ch.bx n0 b1 0 [(Sl alow_1 low_1 clow_1)] [] [], Ch.bx n0 b3 0 [(Sl ahigh_2 high_2 chigh_2)] [] [], Ch.ro 0 (Sl alist_0 list_0 clist_0) list_0, Ch.ro 0 (Sl alow_1 low_1 clow_1) low_1, Ch.ro 0 (Sl ahigh_2 high_2 chigh_2) high_2] := H
   refine st (v := (Sl a35 r32 c36)) (rv_assign rfl) ?_
   refine w_end ?_
   refine q_then ?_
   refine c_ret ?_
   obtain rfl := Option.some.inj h
   exact fin_ret (v := (Sl a35 r32 c36)) (results_ok Try.results18 (res_tmp (v := (Sl a35 r32 c36)) rfl res_nil) rfl) ⟨a35, c36, rfl, rfl, ht37⟩ (H.sel' [0] rfl rfl)

theorem c_laws_FnBoundsOf {code_0 : List UInt8} {acode_0 : Option Addr} {ccode_0 : Nat} {r : Bool} (h : M.laws_FnBoundsOf code_0 = some r) :
    Cal2 Try.prog 3 [(Sl acode_0 code_0 ccode_0)] [Ch.ro 0 (Sl acode_0 code_0 ccode_0) code_0] (fun n0 v L => v = (B r) ∧ L = []) := by
 refine cal2 (n := 75) Try.func3 rfl rfl rfl rfl ?_
 intro S0 σ0 n0 hn0 H
 unfold M.laws_FnBoundsOf at h
 refine c_seq ?_
 refine rg ?_
 refine st (v := (B false)) (rv_assign rfl) ?_
 refine w_end ?_
 refine q_then ?_
 refine c_seq ?_
 refine c_seq ?_
 refine rg ?_
 refine st (v := (Sl acode_0 code_0 ccode_0)) (rv_move rfl) ?_
 refine st (v := (I (code_0.length : Int))) (rv_len Try.underlying22 rfl) ?_
 refine st (v := (B (decide (1048576 < (code_0.length : Int))))) (rv_gtr (a := (code_0.length : Int)) (b := 1048576) rfl rfl) ?_
 refine w_end ?_
 refine q_then ?_
 refine cd_cond (decide (1048576 < (code_0.length : Int))) rfl (fun hb1 => ?_) (fun hb1 => ?_)
 ·replace h := bif_t hb1 h
  refine c_seq ?_
  refine rg ?_
  refine st (v := (B true)) (rv_assign rfl) ?_
  refine w_end ?_
  refine q_then ?_
  refine c_ret ?_
  refine q_then_r ?_
  obtain rfl := Option.some.inj h
  exact fin_ret (v := (B true)) (results_ok Try.results3 (res_tmp (v := (B true)) rfl res_nil) rfl) ⟨rfl, rfl⟩ (H.sel' [] rfl rfl)
 ·replace h := bif_f hb1 h
  refine c_skip ?_
  refine q_then ?_
  refine c_seq ?_
  refine rg ?_
  refine st (v := (Sl acode_0 code_0 ccode_0)) (rv_move rfl) ?_
  obtain ⟨r2, hx3, h'⟩ := bind_some h
  clear h
  have h := h'; clear h'
  have hc4 := c_spec_DrawBoundsOf (acode_0 := acode_0) (ccode_0 := ccode_0) hx3
  refine st_call (cx_call hc4 (ent_f hc4.fn rfl) hn0 (show Hp S0 σ0 _ ([Ch.ro 0 (Sl acode_0 code_0 ccode_0) code_0] ++ [Ch.ro 0 (Sl acode_0 code_0 ccode_0) code_0]) from (H.sel' [0, 0] rfl rfl))) wn ?_
  rintro _ σ7 ⟨_, ⟨a5, c6, rfl, rfl⟩, H, -⟩
  replace H : Hp S0 σ0 σ7 [Ch.own n0 n0 (Sl a5 r2 c6) r2, Ch.ro 0 (Sl acode_0 code_0 ccode_0) code_0] := H
  refine st (v := (Sl a5 r2 c6)) (rv_assign rfl) ?_
  refine w_end ?_
  refine q_then ?_
  refine c_seq ?_
  refine rg ?_
  refine st (v := (Sl a5 r2 c6)) (rv_move rfl) ?_
  obtain ⟨r8, hx9, h'⟩ := bind_some h
  clear h
  have h := h'; clear h'
  have hc10 := c_impl_BoundsOf (alist_0 := a5) (clist_0 := c6) hx9
  have hle := Nat.le_trans hn0 H.size
  refine st_call (cx_lend (Loan.lend Loan.nil) hc10 (ent_f hc10.fn rfl) (show Hp S0 σ0 _ ([Ch.own n0 n0 (Sl a5 r2 c6) r2] ++ ([] ++ [Ch.ro 0 (Sl acode_0 code_0 ccode_0) code_0])) from (H.sel' [0, 1] rfl rfl)) (by rintro _ _ _ ⟨_, _, _, _, rfl, rfl, _, _⟩; exact ⟨Ab.ownSc, Ab.ownSc, trivial⟩)) wn ?_
  rintro _ σ17 ⟨_, ⟨a11, c12, a14, c15, rfl, rfl, ht13, ht16⟩, H, -, -⟩
  replace H : Hp S0 σ0 σ17 [Ch.own σ7.size σ7.size (Sl a11 r8.1 c12) r8.1, Ch.own σ7.size σ7.size (Sl a14 r8.2.1 c15) r8.2.1, Ch.own n0 n0 (Sl a5 r2 c6) r2, Ch.ro 0 (Sl acode_0 code_0 ccode_0) code_0] := H
  replace H := H.ownLow 0 n0 n0 rfl hle hle
  replace H := H.ownLow 1 n0 n0 rfl hle hle
  clear hle
  replace H : Hp S0 σ0 σ17 [Ch.own n0 n0 (Sl a14 r8.2.1 c15) r8.2.1, Ch.own n0 n0 (Sl a11 r8.1 c12) r8.1, Ch.own n0 n0 (Sl a5 r2 c6) r2, Ch.ro 0 (Sl acode_0 code_0 ccode_0) code_0] := H
  refine st (v := (.tuple #[(Sl a11 r8.1 c12), (Sl a14 r8.2.1 c15), (B r8.2.2)])) (rv_move rfl) ?_
  refine st (v := (Sl a11 r8.1 c12)) (rv_extract rfl rfl) ?_
  refine st (v := (Sl a14 r8.2.1 c15)) (rv_extract rfl rfl) ?_
  refine st (v := (B r8.2.2)) (rv_extract rfl rfl) ?_
  refine st (v := (Sl a11 r8.1 c12)) (rv_assign rfl) ?_
  refine st (v := (Sl a14 r8.2.1 c15)) (rv_assign rfl) ?_
  refine st (v := (B r8.2.2)) (rv_assign rfl) ?_
  refine w_end ?_
  refine q_then ?_
  refine c_seq ?_
  refine rg ?_
  refine st (v := (Sl a5 r2 c6)) (rv_move rfl) ?_
  obtain ⟨r18, hx19, h'⟩ := bind_some h
  clear h
  have h := h'; clear h'
  have hc20 := c_spec_BoundsOf (alist_0 := a5) (clist_0 := c6) hx19
  have hle := Nat.le_trans hn0 H.size
  refine st_call (cx_lend (Loan.lend Loan.nil) hc20 (ent_f hc20.fn rfl) (show Hp S0 σ0 _ ([Ch.own n0 n0 (Sl a5 r2 c6) r2] ++ ([] ++ [Ch.own n0 n0 (Sl a14 r8.2.1 c15) r8.2.1, Ch.own n0 n0 (Sl a11 r8.1 c12) r8.1, Ch.ro 0 (Sl acode_0 code_0 ccode_0) code_0])) from (H.sel' [2, 0, 1, 3] rfl rfl)) (by rintro _ _ _ ⟨_, _, _, _, rfl, rfl⟩; exact ⟨Ab.ownSc, Ab.ownSc, trivial⟩)) wn ?_
  rintro _ σ25 ⟨_, ⟨a21, c22, a23, c24, rfl, rfl⟩, H, -, -⟩
  replace H : Hp S0 σ0 σ25 [Ch.own σ17.size σ17.size (Sl a21 r18.1 c22) r18.1, Ch.own σ17.size σ17.size (Sl a23 r18.2.1 c24) r18.2.1, Ch.own n0 n0 (Sl a5 r2 c6) r2, Ch.own n0 n0 (Sl a14 r8.2.1 c15) r8.2.1, Ch.own n0 n0 (Sl a11 r8.1 c12) r8.1, Ch.ro 0 (Sl acode_0 code_0 ccode_0) code_0] := H
  replace H := H.ownLow 0 n0 n0 rfl hle hle
  replace H := H.ownLow 1 n0 n0 rfl hle hle
  clear hle
  replace H : Hp S0 σ0 σ25 [Ch.own n0 n0 (Sl a23 r18.2.1 c24) r18.2.1, Ch.own n0 n0 (Sl a21 r18.1 c22) r18.1, Ch.own n0 n0 (Sl a5 r2 c6) r2, Ch.own n0 n0 (Sl a14 r8.2.1 c15) r8.2.1, Ch.own n0 n0 (Sl a11 r8.1 c12) r8.1, Ch.ro 0 (Sl acode_0 code_0 ccode_0) code_0] := H
  refine st (v := (.tuple #[(Sl a21 r18.1 c22), (Sl a23 r18.2.1 c24), (B r18.2.2)])) (rv_move rfl) ?_
  refine st (v := (Sl a21 r18.1 c22)) (rv_extract rfl rfl) ?_
  refine st (v := (Sl a23 r18.2.1 c24)) (rv_extract rfl rfl) ?_
  refine st (v := (B r18.2.2)) (rv_extract rfl rfl) ?_
  refine st (v := (Sl a21 r18.1 c22)) (rv_assign rfl) ?_
  refine st (v := (Sl a23 r18.2.1 c24)) (rv_assign rfl) ?_
  refine st (v := (B r18.2.2)) (rv_assign rfl) ?_
  refine w_end ?_
  refine q_then ?_
  refine c_seq ?_
  refine c_seq ?_
  obtain ⟨o26, hj, h'⟩ := bind_some h
  clear h
  refine c_cut (fun e a w => e = .normal ∧ ∃ (ρ : Nat → Value) (σ : St), a = fr 75 (updL ρ [(3, (Sl a5 r2 c6)), (4, (Sl a11 r8.1 c12)), (5, (Sl a14 r8.2.1 c15)), (6, (B r8.2.2)), (7, (Sl a21 r18.1 c22)), (8, (Sl a23 r18.2.1 c24)), (9, (B r18.2.2)), (45, (B o26))]) ∧ w = σ.w ∧ Hp S0 σ0 σ [Ch.own n0 n0 (Sl a5 r2 c6) r2, Ch.own n0 n0 (Sl a11 r8.1 c12) r8.1, Ch.own n0 n0 (Sl a14 r8.2.1 c15) r8.2.1, Ch.own n0 n0 (Sl a21 r18.1 c22) r18.1, Ch.own n0 n0 (Sl a23 r18.2.1 c24) r18.2.1]) ?_ ?_
  ·clear h'
   rename _ = some o26 => h
   refine rg ?_
   refine st (v := (Sl a11 r8.1 c12)) (rv_move rfl) ?_
   refine st (v := (Sl a21 r18.1 c22)) (rv_move rfl) ?_
   obtain ⟨r27, hx28, h'⟩ := bind_some h
   clear h
   have h := h'; clear h'
   have hc29 := c_laws_equalInts (aa_0 := a11) (ca_0 := c12) (ab_1 := a21) (cb_1 := c22) hx28
   have hle := Nat.le_trans hn0 H.size
   refine st_call (cx_lend (Loan.lend (Loan.lend Loan.nil)) hc29 (ent_f hc29.fn rfl) (show Hp S0 σ0 _ ([Ch.own n0 n0 (Sl a11 r8.1 c12) r8.1, Ch.own n0 n0 (Sl a21 r18.1 c22) r18.1] ++ ([] ++ [Ch.own n0 n0 (Sl a23 r18.2.1 c24) r18.2.1, Ch.own n0 n0 (Sl a5 r2 c6) r2, Ch.own n0 n0 (Sl a14 r8.2.1 c15) r8.2.1, Ch.ro 0 (Sl acode_0 code_0 ccode_0) code_0])) from (H.sel' [4, 1, 0, 2, 3, 5] rfl rfl)) (by rintro _ _ _ ⟨rfl, rfl⟩; exact trivial)) wn ?_
   rintro _ σ30 ⟨_, ⟨rfl, rfl⟩, H, -, -⟩
   replace H : Hp S0 σ0 σ30 [Ch.own n0 n0 (Sl a11 r8.1 c12) r8.1, Ch.own n0 n0 (Sl a21 r18.1 c22) r18.1, Ch.own n0 n0 (Sl a23 r18.2.1 c24) r18.2.1, Ch.own n0 n0 (Sl a5 r2 c6) r2, Ch.own n0 n0 (Sl a14 r8.2.1 c15) r8.2.1, Ch.ro 0 (Sl acode_0 code_0 ccode_0) code_0] := H
   clear hle
   replace H : Hp S0 σ0 σ30 [Ch.own n0 n0 (Sl a11 r8.1 c12) r8.1, Ch.own n0 n0 (Sl a21 r18.1 c22) r18.1, Ch.own n0 n0 (Sl a23 r18.2.1 c24) r18.2.1, Ch.own n0 n0 (Sl a5 r2 c6) r2, Ch.own n0 n0 (Sl a14 r8.2.1 c15) r8.2.1, Ch.ro 0 (Sl acode_0 code_0 ccode_0) code_0] := H
   refine st (v := (B (!r27))) (rv_not rfl) ?_
   refine st (v := (B (!r27))) (rv_move rfl) ?_
   rcases Bool.eq_false_or_eq_true (!r27) with hb31 | hb31
   ·replace h := bif_t hb31 h
    refine st_skip (congrArg some hb31) ?_
    refine st_skip (congrArg some hb31) ?_
    refine st_skip (congrArg some hb31) ?_
    refine st_skip (congrArg some hb31) ?_
    refine st (v := (B true)) (rv_pick_t (congrArg B hb31) rfl) ?_
    refine st (v := (B true)) (rv_move rfl) ?_
    refine st_skip rfl ?_
    refine st_skip rfl ?_
    refine st_skip rfl ?_
    refine st (v := (B true)) (rv_pick_t rfl rfl) ?_
    refine st (v := (B true)) (rv_move rfl) ?_
    refine st_skip rfl ?_
    refine st_skip rfl ?_
    refine st (v := (B true)) (rv_pick_t rfl rfl) ?_
    refine w_end ?_
    obtain rfl := Option.some.inj h
    exact ⟨rfl, _, σ30, fr_join ⟨rfl, rfl, rfl, rfl, rfl, rfl, rfl, rfl, trivial⟩, rfl, H.sel' [3, 0, 4, 1, 2] rfl rfl⟩
   ·replace h := bif_f hb31 h
    refine st_g (v := (Sl a14 r8.2.1 c15)) (congrArg some hb31) (rv_move rfl) ?_
    refine st_g (v := (Sl a23 r18.2.1 c24)) (congrArg some hb31) (rv_move rfl) ?_
    obtain ⟨r32, hx33, h'⟩ := bind_some h
    clear h
    have h := h'; clear h'
    have hc34 := c_laws_equalInts (aa_0 := a14) (ca_0 := c15) (ab_1 := a23) (cb_1 := c24) hx33
    have hle := Nat.le_trans hn0 H.size
    refine st_call (cx_lend (Loan.lend (Loan.lend Loan.nil)) hc34 (ent_f hc34.fn rfl) (show Hp S0 σ0 _ ([Ch.own n0 n0 (Sl a14 r8.2.1 c15) r8.2.1, Ch.own n0 n0 (Sl a23 r18.2.1 c24) r18.2.1] ++ ([] ++ [Ch.own n0 n0 (Sl a11 r8.1 c12) r8.1, Ch.own n0 n0 (Sl a21 r18.1 c22) r18.1, Ch.own n0 n0 (Sl a5 r2 c6) r2, Ch.ro 0 (Sl acode_0 code_0 ccode_0) code_0])) from (H.sel' [4, 2, 0, 1, 3, 5] rfl rfl)) (by rintro _ _ _ ⟨rfl, rfl⟩; exact trivial)) (wanted_yes rfl (by exact (congrArg some hb31))) ?_
    rintro _ σ35 ⟨_, ⟨rfl, rfl⟩, H, -, -⟩
    replace H : Hp S0 σ0 σ35 [Ch.own n0 n0 (Sl a14 r8.2.1 c15) r8.2.1, Ch.own n0 n0 (Sl a23 r18.2.1 c24) r18.2.1, Ch.own n0 n0 (Sl a11 r8.1 c12) r8.1, Ch.own n0 n0 (Sl a21 r18.1 c22) r18.1, Ch.own n0 n0 (Sl a5 r2 c6) r2, Ch.ro 0 (Sl acode_0 code_0 ccode_0) code_0] := H
    clear hle
    replace H : Hp S0 σ0 σ35 [Ch.own n0 n0 (Sl a14 r8.2.1 c15) r8.2.1, Ch.own n0 n0 (Sl a23 r18.2.1 c24) r18.2.1, Ch.own n0 n0 (Sl a11 r8.1 c12) r8.1, Ch.own n0 n0 (Sl a21 r18.1 c22) r18.1, Ch.own n0 n0 (Sl a5 r2 c6) r2, Ch.ro 0 (Sl acode_0 code_0 ccode_0) code_0] := H
    refine st_g (v := (B (!r32))) (congrArg some hb31) (rv_not rfl) ?_
    refine st (v := (B (!r32))) (rv_pick_f (congrArg B hb31) rfl) ?_
    refine st (v := (B (!r32))) (rv_move rfl) ?_
    rcases Bool.eq_false_or_eq_true (!r32) with hb36 | hb36
    ·replace h := bif_t hb36 h
     refine st_skip (congrArg some hb36) ?_
     refine st_skip (congrArg some hb36) ?_
     refine st_skip (congrArg some hb36) ?_
     refine st (v := (B true)) (rv_pick_t (congrArg B hb36) rfl) ?_
     refine st (v := (B true)) (rv_move rfl) ?_
     refine st_skip rfl ?_
     refine st_skip rfl ?_
     refine st (v := (B true)) (rv_pick_t rfl rfl) ?_
     refine w_end ?_
     obtain rfl := Option.some.inj h
     exact ⟨rfl, _, σ35, fr_join ⟨rfl, rfl, rfl, rfl, rfl, rfl, rfl, rfl, trivial⟩, rfl, H.sel' [4, 2, 0, 3, 1] rfl rfl⟩
    ·replace h := bif_f hb36 h
     refine st_g (v := (B r8.2.2)) (congrArg some hb36) (rv_move rfl) ?_
     refine st_g (v := (B r18.2.2)) (congrArg some hb36) (rv_move rfl) ?_
     refine st_g (v := (B (r8.2.2 != r18.2.2))) (congrArg some hb36) (rv_bneq Try.underlying4 rfl rfl) ?_
     refine st (v := (B (r8.2.2 != r18.2.2))) (rv_pick_f (congrArg B hb36) rfl) ?_
     refine st (v := (B (r8.2.2 != r18.2.2))) (rv_move rfl) ?_
     rcases Bool.eq_false_or_eq_true (r8.2.2 != r18.2.2) with hb37 | hb37
     ·replace h := bif_t hb37 h
      refine st_skip (congrArg some hb37) ?_
      refine st_skip (congrArg some hb37) ?_
      refine st (v := (B true)) (rv_pick_t (congrArg B hb37) rfl) ?_
      refine w_end ?_
      obtain rfl := Option.some.inj h
      exact ⟨rfl, _, σ35, fr_join ⟨rfl, rfl, rfl, rfl, rfl, rfl, rfl, rfl, trivial⟩, rfl, H.sel' [4, 2, 0, 3, 1] rfl rfl⟩
     ·replace h := bif_f hb37 h
      refine st_g (v := (B r8.2.2)) (congrArg some hb37) (rv_move rfl) ?_
      refine st_g (v := (B (!r8.2.2))) (congrArg some hb37) (rv_not rfl) ?_
      refine st (v := (B (!r8.2.2))) (rv_pick_f (congrArg B hb37) rfl) ?_
      refine w_end ?_
      obtain rfl := Option.some.inj h
      exact ⟨rfl, _, σ35, fr_join ⟨rfl, rfl, rfl, rfl, rfl, rfl, rfl, rfl, trivial⟩, rfl, H.sel' [4, 2, 0, 3, 1] rfl rfl⟩
  ·clear hj
   have h := h'
   clear h' H
   rintro e a w ⟨rfl, ρ, σ38, rfl, rfl, H⟩
   refine q_then ?_
   refine cd_cond o26 rfl (fun hb39 => ?_) (fun hb39 => ?_)
   ·replace h := bif_t hb39 h
    refine c_seq ?_
    refine rg ?_
    refine st (v := (Sl a11 r8.1 c12)) (rv_move rfl) ?_
    refine st (v := (Sl a21 r18.1 c22)) (rv_move rfl) ?_
    obtain ⟨σ40, hw41, H, -⟩ := H.pub 1 rfl (Nat.le_refl _)
    rw [← hw41]; clear hw41
    obtain ⟨σ42, hw43, H, -⟩ := H.pub 3 rfl (Nat.le_refl _)
    rw [← hw43]; clear hw43
    replace H := H.roLow 1 0 rfl (Nat.zero_le _)
    replace H := H.roLow 1 0 rfl (Nat.zero_le _)
    obtain ⟨r44, hx45, h'⟩ := bind_some h
    clear h
    have h := h'; clear h'
    have hc46 := c_laws_equalInts (aa_0 := a11) (ca_0 := c12) (ab_1 := a21) (cb_1 := c22) hx45
    refine st_call (cx_call hc46 (ent_f hc46.fn rfl) hn0 (show Hp S0 σ0 _ ([Ch.ro 0 (Sl a11 r8.1 c12) r8.1, Ch.ro 0 (Sl a21 r18.1 c22) r18.1] ++ [Ch.ro 0 (Sl a21 r18.1 c22) r18.1, Ch.ro 0 (Sl a11 r8.1 c12) r8.1, Ch.ro n0 (Sl a21 r18.1 c22) r18.1, Ch.ro n0 (Sl a11 r8.1 c12) r8.1, Ch.own n0 n0 (Sl a5 r2 c6) r2, Ch.own n0 n0 (Sl a14 r8.2.1 c15) r8.2.1, Ch.own n0 n0 (Sl a23 r18.2.1 c24) r18.2.1]) from (H.sel' [1, 0, 0, 1, 2, 3, 4, 5, 6] rfl rfl))) wn ?_
    rintro _ σ47 ⟨_, ⟨rfl, rfl⟩, H, -⟩
    replace H : Hp S0 σ0 σ47 [Ch.ro 0 (Sl a21 r18.1 c22) r18.1, Ch.ro 0 (Sl a11 r8.1 c12) r8.1, Ch.ro n0 (Sl a21 r18.1 c22) r18.1, Ch.ro n0 (Sl a11 r8.1 c12) r8.1, Ch.own n0 n0 (Sl a5 r2 c6) r2, Ch.own n0 n0 (Sl a14 r8.2.1 c15) r8.2.1, Ch.own n0 n0 (Sl a23 r18.2.1 c24) r18.2.1] := H
    refine st (v := (B r44)) (rv_move rfl) ?_
    rcases Bool.eq_false_or_eq_true r44 with hb48 | hb48
    ·replace h := bif_t hb48 h
     refine st_g (v := (Sl a14 r8.2.1 c15)) (congrArg some hb48) (rv_move rfl) ?_
     refine st_g (v := (Sl a23 r18.2.1 c24)) (congrArg some hb48) (rv_move rfl) ?_
     obtain ⟨σ49, hw50, H, -⟩ := H.pub 5 rfl (Nat.le_refl _)
     rw [← hw50]; clear hw50
     obtain ⟨σ51, hw52, H, -⟩ := H.pub 6 rfl (Nat.le_refl _)
     rw [← hw52]; clear hw52
     replace H := H.roLow 1 0 rfl (Nat.zero_le _)
     replace H := H.roLow 1 0 rfl (Nat.zero_le _)
     obtain ⟨r53, hx54, h'⟩ := bind_some h
     clear h
     have h := h'; clear h'
     have hc55 := c_laws_equalInts (aa_0 := a14) (ca_0 := c15) (ab_1 := a23) (cb_1 := c24) hx54
     refine st_call (cx_call hc55 (ent_f hc55.fn rfl) hn0 (show Hp S0 σ0 _ ([Ch.ro 0 (Sl a14 r8.2.1 c15) r8.2.1, Ch.ro 0 (Sl a23 r18.2.1 c24) r18.2.1] ++ [Ch.ro 0 (Sl a23 r18.2.1 c24) r18.2.1, Ch.ro 0 (Sl a14 r8.2.1 c15) r8.2.1, Ch.ro n0 (Sl a23 r18.2.1 c24) r18.2.1, Ch.ro n0 (Sl a14 r8.2.1 c15) r8.2.1, Ch.ro 0 (Sl a21 r18.1 c22) r18.1, Ch.ro 0 (Sl a11 r8.1 c12) r8.1, Ch.ro n0 (Sl a21 r18.1 c22) r18.1, Ch.ro n0 (Sl a11 r8.1 c12) r8.1, Ch.own n0 n0 (Sl a5 r2 c6) r2]) from (H.sel' [1, 0, 0, 1, 2, 3, 4, 5, 6, 7, 8] rfl rfl))) (wanted_yes rfl (by exact (congrArg some hb48))) ?_
     rintro _ σ56 ⟨_, ⟨rfl, rfl⟩, H, -⟩
     replace H : Hp S0 σ0 σ56 [Ch.ro 0 (Sl a23 r18.2.1 c24) r18.2.1, Ch.ro 0 (Sl a14 r8.2.1 c15) r8.2.1, Ch.ro n0 (Sl a23 r18.2.1 c24) r18.2.1, Ch.ro n0 (Sl a14 r8.2.1 c15) r8.2.1, Ch.ro 0 (Sl a21 r18.1 c22) r18.1, Ch.ro 0 (Sl a11 r8.1 c12) r8.1, Ch.ro n0 (Sl a21 r18.1 c22) r18.1, Ch.ro n0 (Sl a11 r8.1 c12) r8.1, Ch.own n0 n0 (Sl a5 r2 c6) r2] := H
     replace H : Hp S0 σ0 σ56 [] := H.sel' [] rfl rfl
     refine st (v := (B r53)) (rv_pick_t (congrArg B hb48) rfl) ?_
     refine st (v := (B r53)) (rv_move rfl) ?_
     rcases Bool.eq_false_or_eq_true r53 with hb57 | hb57
     ·replace h := bif_t hb57 h
      refine st_g (v := (B r8.2.2)) (congrArg some hb57) (rv_move rfl) ?_
      refine st_g (v := (B r18.2.2)) (congrArg some hb57) (rv_move rfl) ?_
      refine st_g (v := (B (r8.2.2 == r18.2.2))) (congrArg some hb57) (rv_beql Try.underlying4 rfl rfl) ?_
      refine st (v := (B (r8.2.2 == r18.2.2))) (rv_pick_t (congrArg B hb57) rfl) ?_
      refine st (v := (B (r8.2.2 == r18.2.2))) (rv_assign rfl) ?_
      refine w_end ?_
      refine q_then ?_
      refine c_ret ?_
      refine q_then_r ?_
      obtain rfl := Option.some.inj h
      exact fin_ret (v := (B (r8.2.2 == r18.2.2))) (results_ok Try.results3 (res_tmp (v := (B (r8.2.2 == r18.2.2))) rfl res_nil) rfl) ⟨rfl, rfl⟩ (H.sel' [] rfl rfl)
     ·replace h := bif_f hb57 h
      refine st_skip (congrArg some hb57) ?_
      refine st_skip (congrArg some hb57) ?_
      refine st_skip (congrArg some hb57) ?_
      refine st (v := (B false)) (rv_pick_f (congrArg B hb57) rfl) ?_
      refine st (v := (B false)) (rv_assign rfl) ?_
      refine w_end ?_
      refine q_then ?_
      refine c_ret ?_
      refine q_then_r ?_
      obtain rfl := Option.some.inj h
      exact fin_ret (v := (B false)) (results_ok Try.results3 (res_tmp (v := (B false)) rfl res_nil) rfl) ⟨rfl, rfl⟩ (H.sel' [] rfl rfl)
    ·replace h := bif_f hb48 h
     refine st_skip (congrArg some hb48) ?_
     refine st_skip (congrArg some hb48) ?_
     refine st_skip (congrArg some hb48) ?_
     refine st (v := (B false)) (rv_pick_f (congrArg B hb48) rfl) ?_
     refine st (v := (B false)) (rv_move rfl) ?_
     refine st_skip rfl ?_
     refine st_skip rfl ?_
     refine st_skip rfl ?_
     refine st (v := (B false)) (rv_pick_f rfl rfl) ?_
     refine st (v := (B false)) (rv_assign rfl) ?_
     refine w_end ?_
     refine q_then ?_
     refine c_ret ?_
     refine q_then_r ?_
     obtain rfl := Option.some.inj h
     exact fin_ret (v := (B false)) (results_ok Try.results3 (res_tmp (v := (B false)) rfl res_nil) rfl) ⟨rfl, rfl⟩ (H.sel' [] rfl rfl)
   ·replace h := bif_f hb39 h
    refine c_skip ?_
    refine q_then ?_
    refine c_seq ?_
    refine rg ?_
    refine st (v := (Sl a5 r2 c6)) (rv_move rfl) ?_
    refine st (v := (Sl a11 r8.1 c12)) (rv_move rfl) ?_
    refine st (v := (Sl a14 r8.2.1 c15)) (rv_move rfl) ?_
    obtain ⟨r58, hx59, h'⟩ := bind_some h
    clear h
    have h := h'; clear h'
    have hc60 := c_impl_InBox (alist_0 := a5) (clist_0 := c6) (alow_1 := a11) (clow_1 := c12) (ahigh_2 := a14) (chigh_2 := c15) hx59
    have hle := Nat.le_trans hn0 H.size
    refine st_call (cx_lend (Loan.lend (Loan.lend (Loan.lend Loan.nil))) hc60 (ent_f hc60.fn rfl) (show Hp S0 σ0 _ ([Ch.own n0 n0 (Sl a5 r2 c6) r2, Ch.own n0 n0 (Sl a11 r8.1 c12) r8.1, Ch.own n0 n0 (Sl a14 r8.2.1 c15) r8.2.1] ++ ([] ++ [Ch.own n0 n0 (Sl a21 r18.1 c22) r18.1, Ch.own n0 n0 (Sl a23 r18.2.1 c24) r18.2.1])) from (H.sel' [0, 1, 2, 3, 4] rfl rfl)) (by rintro _ _ _ ⟨_, _, rfl, rfl, _⟩; exact ⟨Ab.ownSc, trivial⟩)) wn ?_
    rintro _ σ64 ⟨_, ⟨a61, c62, rfl, rfl, ht63⟩, H, -, -⟩
    replace H : Hp S0 σ0 σ64 [Ch.own σ38.size σ38.size (Sl a61 r58 c62) r58, Ch.own n0 n0 (Sl a5 r2 c6) r2, Ch.own n0 n0 (Sl a11 r8.1 c12) r8.1, Ch.own n0 n0 (Sl a14 r8.2.1 c15) r8.2.1, Ch.own n0 n0 (Sl a21 r18.1 c22) r18.1, Ch.own n0 n0 (Sl a23 r18.2.1 c24) r18.2.1] := H
    replace H := H.ownLow 0 n0 n0 rfl hle hle
    clear hle
    replace H : Hp S0 σ0 σ64 [Ch.own n0 n0 (Sl a61 r58 c62) r58, Ch.own n0 n0 (Sl a5 r2 c6) r2, Ch.own n0 n0 (Sl a11 r8.1 c12) r8.1, Ch.own n0 n0 (Sl a14 r8.2.1 c15) r8.2.1, Ch.own n0 n0 (Sl a21 r18.1 c22) r18.1, Ch.own n0 n0 (Sl a23 r18.2.1 c24) r18.2.1] := H
    refine st (v := (I (r58.length : Int))) (rv_len Try.underlying25 rfl) ?_
    refine st (v := (Sl a5 r2 c6)) (rv_move rfl) ?_
    refine st (v := (I (r2.length : Int))) (rv_len Try.underlying23 rfl) ?_
    refine st (v := (B ((r58.length : Int) == (r2.length : Int)))) (rv_eql (a := (r58.length : Int)) (b := (r2.length : Int)) rfl rfl) ?_
    refine st (v := (B ((r58.length : Int) == (r2.length : Int)))) (rv_move rfl) ?_
    rcases Bool.eq_false_or_eq_true ((r58.length : Int) == (r2.length : Int)) with hb65 | hb65
    ·replace h := bif_t hb65 h
     refine st_g (v := (Sl a11 r8.1 c12)) (congrArg some hb65) (rv_move rfl) ?_
     obtain ⟨σ66, hw67, H, -⟩ := H.pub 2 rfl (Nat.le_refl _)
     rw [← hw67]; clear hw67
     replace H := H.roLow 0 0 rfl (Nat.zero_le _)
     obtain ⟨r68, hx69, h'⟩ := bind_some h
     clear h
     have h := h'; clear h'
     have hc70 := c_impl_ValidVector (av_0 := a11) (cv_0 := c12) hx69
     refine st_call (cx_call hc70 (ent_f hc70.fn rfl) hn0 (show Hp S0 σ0 _ ([Ch.ro 0 (Sl a11 r8.1 c12) r8.1] ++ [Ch.ro 0 (Sl a11 r8.1 c12) r8.1, Ch.ro n0 (Sl a11 r8.1 c12) r8.1, Ch.own n0 n0 (Sl a61 r58 c62) r58, Ch.own n0 n0 (Sl a5 r2 c6) r2, Ch.own n0 n0 (Sl a14 r8.2.1 c15) r8.2.1, Ch.own n0 n0 (Sl a21 r18.1 c22) r18.1, Ch.own n0 n0 (Sl a23 r18.2.1 c24) r18.2.1]) from (H.sel' [0, 0, 1, 2, 3, 4, 5, 6] rfl rfl))) (wanted_yes rfl (by exact (congrArg some hb65))) ?_
     rintro _ σ71 ⟨_, ⟨rfl, rfl⟩, H, -⟩
     replace H : Hp S0 σ0 σ71 [Ch.ro 0 (Sl a11 r8.1 c12) r8.1, Ch.ro n0 (Sl a11 r8.1 c12) r8.1, Ch.own n0 n0 (Sl a61 r58 c62) r58, Ch.own n0 n0 (Sl a5 r2 c6) r2, Ch.own n0 n0 (Sl a14 r8.2.1 c15) r8.2.1, Ch.own n0 n0 (Sl a21 r18.1 c22) r18.1, Ch.own n0 n0 (Sl a23 r18.2.1 c24) r18.2.1] := H
     refine st (v := (B r68)) (rv_pick_t (congrArg B hb65) rfl) ?_
     refine st (v := (B r68)) (rv_move rfl) ?_
     rcases Bool.eq_false_or_eq_true r68 with hb72 | hb72
     ·replace h := bif_t hb72 h
      refine st_g (v := (Sl a14 r8.2.1 c15)) (congrArg some hb72) (rv_move rfl) ?_
      obtain ⟨σ73, hw74, H, -⟩ := H.pub 4 rfl (Nat.le_refl _)
      rw [← hw74]; clear hw74
      replace H := H.roLow 0 0 rfl (Nat.zero_le _)
      obtain ⟨r75, hx76, h'⟩ := bind_some h
      clear h
      have h := h'; clear h'
      have hc77 := c_impl_ValidVector (av_0 := a14) (cv_0 := c15) hx76
      refine st_call (cx_call hc77 (ent_f hc77.fn rfl) hn0 (show Hp S0 σ0 _ ([Ch.ro 0 (Sl a14 r8.2.1 c15) r8.2.1] ++ [Ch.ro 0 (Sl a14 r8.2.1 c15) r8.2.1, Ch.ro n0 (Sl a14 r8.2.1 c15) r8.2.1, Ch.ro 0 (Sl a11 r8.1 c12) r8.1, Ch.ro n0 (Sl a11 r8.1 c12) r8.1, Ch.own n0 n0 (Sl a61 r58 c62) r58, Ch.own n0 n0 (Sl a5 r2 c6) r2, Ch.own n0 n0 (Sl a21 r18.1 c22) r18.1, Ch.own n0 n0 (Sl a23 r18.2.1 c24) r18.2.1]) from (H.sel' [0, 0, 1, 2, 3, 4, 5, 6, 7] rfl rfl))) (wanted_yes rfl (by exact (congrArg some hb72))) ?_
      rintro _ σ78 ⟨_, ⟨rfl, rfl⟩, H, -⟩
      replace H : Hp S0 σ0 σ78 [Ch.ro 0 (Sl a14 r8.2.1 c15) r8.2.1, Ch.ro n0 (Sl a14 r8.2.1 c15) r8.2.1, Ch.ro 0 (Sl a11 r8.1 c12) r8.1, Ch.ro n0 (Sl a11 r8.1 c12) r8.1, Ch.own n0 n0 (Sl a61 r58 c62) r58, Ch.own n0 n0 (Sl a5 r2 c6) r2, Ch.own n0 n0 (Sl a21 r18.1 c22) r18.1, Ch.own n0 n0 (Sl a23 r18.2.1 c24) r18.2.1] := H
      replace H : Hp S0 σ0 σ78 [] := H.sel' [] rfl rfl
      refine st (v := (B r75)) (rv_pick_t (congrArg B hb72) rfl) ?_
      refine st (v := (B r75)) (rv_assign rfl) ?_
      refine w_end ?_
      refine q_then ?_
      refine c_ret ?_
      obtain rfl := Option.some.inj h
      exact fin_ret (v := (B r75)) (results_ok Try.results3 (res_tmp (v := (B r75)) rfl res_nil) rfl) ⟨rfl, rfl⟩ (H.sel' [] rfl rfl)
     ·replace h := bif_f hb72 h
      refine st_skip (congrArg some hb72) ?_
      refine st_skip (congrArg some hb72) ?_
      refine st (v := (B false)) (rv_pick_f (congrArg B hb72) rfl) ?_
      refine st (v := (B false)) (rv_assign rfl) ?_
      refine w_end ?_
      refine q_then ?_
      refine c_ret ?_
      obtain rfl := Option.some.inj h
      exact fin_ret (v := (B false)) (results_ok Try.results3 (res_tmp (v := (B false)) rfl res_nil) rfl) ⟨rfl, rfl⟩ (H.sel' [] rfl rfl)
    ·replace h := bif_f hb65 h
     refine st_skip (congrArg some hb65) ?_
     refine st_skip (congrArg some hb65) ?_
     refine st (v := (B false)) (rv_pick_f (congrArg B hb65) rfl) ?_
     refine st (v := (B false)) (rv_move rfl) ?_
     refine st_skip rfl ?_
     refine st_skip rfl ?_
     refine st (v := (B false)) (rv_pick_f rfl rfl) ?_
     refine st (v := (B false)) (rv_assign rfl) ?_
     refine w_end ?_
     refine q_then ?_
     refine c_ret ?_
     obtain rfl := Option.some.inj h
     exact fin_ret (v := (B false)) (results_ok Try.results3 (res_tmp (v := (B false)) rfl res_nil) rfl) ⟨rfl, rfl⟩ (H.sel' [] rfl rfl)

end Go.Vs
