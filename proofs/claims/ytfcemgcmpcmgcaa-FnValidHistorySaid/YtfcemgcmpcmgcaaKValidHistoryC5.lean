/- The functions compute what their models say. -/
import Derived.Test.YtfcemgcmpcmgcaaKValidHistoryC4
set_option linter.unusedVariables false
set_option linter.unusedSimpArgs false
set_option maxRecDepth 20000
namespace Go.Vs
open Go Go.Proofs
attribute [local irreducible] Code.wp Code.wpIn wpList wpListIn wpQuiet Calls CallsIn

theorem c_impl_ValidHistory {h_0 : (List (Int × (Int × (List Int) × Int))) × (List Int)} {ah_0_0 : Option Addr} {ch_0_0 : Nat} {ah_0_1 : Option Addr} {ch_0_1 : Nat} {r : Bool} (h : M.impl_ValidHistory h_0 = some r) :
    Cal2 Try.prog 16 [(.agg #[(Sl ah_0_0 h_0.1 ch_0_0), (Sl ah_0_1 h_0.2 ch_0_1)])] [Ch.ro 0 (Sl ah_0_0 h_0.1 ch_0_0) h_0.1, Ch.ro 0 (Sl ah_0_1 h_0.2 ch_0_1) h_0.2] (fun n0 v L => v = (B r) ∧ L = []) := by
 refine cal2 (n := 29) Try.func16 rfl rfl rfl rfl ?_
 intro S0 σ0 n0 hn0 H
 unfold M.impl_ValidHistory at h
 refine c_seq ?_
 refine rg ?_
 refine st_ex (ex_box (cs := [(Sl ah_0_0 h_0.1 ch_0_0), (Sl ah_0_1 h_0.2 ch_0_1)]) H hn0 rfl rfl) wn ?_
 rintro _ σ2 ⟨b1, rfl, H, -⟩
 refine st (v := (B false)) (rv_assign rfl) ?_
 refine w_end ?_
 refine q_then ?_
 refine c_seq ?_
 refine c_seq ?_
 obtain ⟨o3, hj, h'⟩ := bind_some h
 clear h
 refine c_cut (fun e a w => e = .normal ∧ ∃ (ρ : Nat → Value) (σ : St), a = fr 29 (updL ρ [(1, (pt b1 0)), (17, (B o3))]) ∧ w = σ.w ∧ Hp S0 σ0 σ [Ch.ro 0 (Sl ah_0_0 h_0.1 ch_0_0) h_0.1, Ch.ro 0 (Sl ah_0_1 h_0.2 ch_0_1) h_0.2, Ch.bx n0 b1 0 [(Sl ah_0_0 h_0.1 ch_0_0), (Sl ah_0_1 h_0.2 ch_0_1)] [] []]) ?_ ?_
 ·clear h'
  rename _ = some o3 => h
  refine rg ?_
  refine st (v := (pt b1 1)) (rv_fieldAddr (off := 1) (ft := 24) Try.underlying26 rfl ti24 rfl rfl) ?_
  have hc4 := H.cell (u := (Sl ah_0_1 h_0.2 ch_0_1)) (o' := 1) 0 1 rfl rfl rfl
  refine st (v := (Sl ah_0_1 h_0.2 ch_0_1)) (rv_load1 Try.underlying24 rfl rfl hc4) ?_
  refine st (v := (I (h_0.2.length : Int))) (rv_len Try.underlying24 rfl) ?_
  refine st (v := (pt b1 0)) (rv_fieldAddr (off := 0) (ft := 23) Try.underlying26 rfl ti23 rfl rfl) ?_
  have hc5 := H.cell (u := (Sl ah_0_0 h_0.1 ch_0_0)) (o' := 0) 0 0 rfl rfl rfl
  refine st (v := (Sl ah_0_0 h_0.1 ch_0_0)) (rv_load1 Try.underlying23 rfl rfl hc5) ?_
  refine st (v := (I (h_0.1.length : Int))) (rv_len Try.underlying23 rfl) ?_
  refine st (v := (B ((h_0.2.length : Int) != (h_0.1.length : Int)))) (rv_neq (a := (h_0.2.length : Int)) (b := (h_0.1.length : Int)) rfl rfl) ?_
  refine st (v := (B ((h_0.2.length : Int) != (h_0.1.length : Int)))) (rv_move rfl) ?_
  rcases Bool.eq_false_or_eq_true ((h_0.2.length : Int) != (h_0.1.length : Int)) with hb6 | hb6
  ·replace h := bif_t hb6 h
   refine st_skip (congrArg some hb6) ?_
   refine st_skip (congrArg some hb6) ?_
   refine st_skip (congrArg some hb6) ?_
   refine st_skip (congrArg some hb6) ?_
   refine st (v := (B true)) (rv_pick_t (congrArg B hb6) rfl) ?_
   refine w_end ?_
   obtain rfl := Option.some.inj h
   exact ⟨rfl, _, σ2, fr_join ⟨rfl, rfl, trivial⟩, rfl, H.sel' [1, 2, 0] rfl rfl⟩
  ·replace h := bif_f hb6 h
   refine st_g (v := (pt b1 1)) (congrArg some hb6) (rv_fieldAddr (off := 1) (ft := 24) Try.underlying26 rfl ti24 rfl rfl) ?_
   have hc7 := H.cell (u := (Sl ah_0_1 h_0.2 ch_0_1)) (o' := 1) 0 1 rfl rfl rfl
   refine st_g (v := (Sl ah_0_1 h_0.2 ch_0_1)) (congrArg some hb6) (rv_load1 Try.underlying24 rfl rfl hc7) ?_
   obtain ⟨r8, hx9, h'⟩ := bind_some h
   clear h
   have h := h'; clear h'
   have hc10 := c_impl_validTimes (atimes_0 := ah_0_1) (ctimes_0 := ch_0_1) hx9
   refine st_call (cx_call hc10 (ent_f hc10.fn rfl) hn0 (show Hp S0 σ0 _ ([Ch.ro 0 (Sl ah_0_1 h_0.2 ch_0_1) h_0.2] ++ [Ch.bx n0 b1 0 [(Sl ah_0_0 h_0.1 ch_0_0), (Sl ah_0_1 h_0.2 ch_0_1)] [] [], Ch.ro 0 (Sl ah_0_0 h_0.1 ch_0_0) h_0.1, Ch.ro 0 (Sl ah_0_1 h_0.2 ch_0_1) h_0.2]) from (H.sel' [2, 0, 1, 2] rfl rfl))) (wanted_yes rfl (by exact (congrArg some hb6))) ?_
   rintro _ σ11 ⟨_, ⟨rfl, rfl⟩, H, -⟩
   replace H : Hp S0 σ0 σ11 [Ch.bx n0 b1 0 [(Sl ah_0_0 h_0.1 ch_0_0), (Sl ah_0_1 h_0.2 ch_0_1)] [] [], Ch.ro 0 (Sl ah_0_0 h_0.1 ch_0_0) h_0.1, Ch.ro 0 (Sl ah_0_1 h_0.2 ch_0_1) h_0.2] := H
   refine st_g (v := (B (!r8))) (congrArg some hb6) (rv_not rfl) ?_
   refine st (v := (B (!r8))) (rv_pick_f (congrArg B hb6) rfl) ?_
   refine w_end ?_
   obtain rfl := Option.some.inj h
   exact ⟨rfl, _, σ11, fr_join ⟨rfl, rfl, trivial⟩, rfl, H.sel' [1, 2, 0] rfl rfl⟩
 ·clear hj
  have h := h'
  clear h' H
  rintro e a w ⟨rfl, ρ, σ12, rfl, rfl, H⟩
  refine q_then ?_
  refine cd_cond o3 rfl (fun hb13 => ?_) (fun hb13 => ?_)
  ·replace h := bif_t hb13 h
   refine c_seq ?_
   refine rg ?_
   refine st (v := (B false)) (rv_assign rfl) ?_
   refine w_end ?_
   refine q_then ?_
   refine c_ret ?_
   refine q_then_r ?_
   obtain rfl := Option.some.inj h
   exact fin_ret (v := (B false)) (results_ok Try.results16 (res_tmp (v := (B false)) rfl res_nil) rfl) ⟨rfl, rfl⟩ (H.sel' [] rfl rfl)
  ·replace h := bif_f hb13 h
   refine c_skip ?_
   refine q_then ?_
   refine c_seq ?_
   refine rg ?_
   refine st (v := (pt b1 0)) (rv_fieldAddr (off := 0) (ft := 23) Try.underlying26 rfl ti23 rfl rfl) ?_
   have hc14 := H.cell (u := (Sl ah_0_0 h_0.1 ch_0_0)) (o' := 0) 2 0 rfl rfl rfl
   refine st (v := (Sl ah_0_0 h_0.1 ch_0_0)) (rv_load1 Try.underlying23 rfl rfl hc14) ?_
   replace H := H.nilRo (Int × (List Int) × Int) 0
   obtain ⟨r15, hx16, h'⟩ := bind_some h
   clear h
   have h := h'; clear h'
   have hc17 := c_impl_ReplayLog (alist_0 := none) (clist_0 := 0) (alog_1 := ah_0_0) (clog_1 := ch_0_0) hx16
   refine st_call (cx_call hc17 (ent_f hc17.fn rfl) hn0 (show Hp S0 σ0 _ ([Ch.ro 0 (Sl none ([] : List (Int × (List Int) × Int)) 0) ([] : List (Int × (List Int) × Int)), Ch.ro 0 (Sl ah_0_0 h_0.1 ch_0_0) h_0.1] ++ [Ch.ro 0 (Sl none ([] : List (Int × (List Int) × Int)) 0) ([] : List (Int × (List Int) × Int)), Ch.ro 0 (Sl ah_0_0 h_0.1 ch_0_0) h_0.1, Ch.ro 0 (Sl ah_0_1 h_0.2 ch_0_1) h_0.2, Ch.bx n0 b1 0 [(Sl ah_0_0 h_0.1 ch_0_0), (Sl ah_0_1 h_0.2 ch_0_1)] [] []]) from (H.sel' [0, 1, 0, 1, 2, 3] rfl rfl))) wn ?_
   rintro _ σ20 ⟨_, ⟨a18, c19, rfl, rfl⟩, H, -⟩
   replace H : Hp S0 σ0 σ20 [Ch.ro 0 (Sl a18 r15.1 c19) r15.1, Ch.ro 0 (Sl none ([] : List (Int × (List Int) × Int)) 0) ([] : List (Int × (List Int) × Int)), Ch.ro 0 (Sl ah_0_0 h_0.1 ch_0_0) h_0.1, Ch.ro 0 (Sl ah_0_1 h_0.2 ch_0_1) h_0.2, Ch.bx n0 b1 0 [(Sl ah_0_0 h_0.1 ch_0_0), (Sl ah_0_1 h_0.2 ch_0_1)] [] []] := H
   refine st (v := (.tuple #[(Sl a18 r15.1 c19), (I r15.2)])) (rv_move rfl) ?_
   refine st (v := (Sl a18 r15.1 c19)) (rv_extract rfl rfl) ?_
   refine st (v := (I r15.2)) (rv_extract rfl rfl) ?_
   refine st (v := (Sl a18 r15.1 c19)) (rv_assign rfl) ?_
   refine st (v := (I r15.2)) (rv_assign rfl) ?_
   refine w_end ?_
   refine q_then ?_
   refine c_seq ?_
   refine rg ?_
   refine st (v := (I r15.2)) (rv_move rfl) ?_
   refine st (v := (pt b1 0)) (rv_fieldAddr (off := 0) (ft := 23) Try.underlying26 rfl ti23 rfl rfl) ?_
   have hc21 := H.cell (u := (Sl ah_0_0 h_0.1 ch_0_0)) (o' := 0) 4 0 rfl rfl rfl
   refine st (v := (Sl ah_0_0 h_0.1 ch_0_0)) (rv_load1 Try.underlying23 rfl rfl hc21) ?_
   refine st (v := (I (h_0.1.length : Int))) (rv_len Try.underlying23 rfl) ?_
   refine st (v := (B (r15.2 == (h_0.1.length : Int)))) (rv_eql (a := r15.2) (b := (h_0.1.length : Int)) rfl rfl) ?_
   refine st (v := (B (r15.2 == (h_0.1.length : Int)))) (rv_assign rfl) ?_
   refine w_end ?_
   refine q_then ?_
   refine c_ret ?_
   obtain rfl := Option.some.inj h
   exact fin_ret (v := (B (r15.2 == (h_0.1.length : Int)))) (results_ok Try.results16 (res_tmp (v := (B (r15.2 == (h_0.1.length : Int)))) rfl res_nil) rfl) ⟨rfl, rfl⟩ (H.sel' [] rfl rfl)

theorem c_spec_ValidHistory {h_0 : (List (Int × (Int × (List Int) × Int))) × (List Int)} {ah_0_0 : Option Addr} {ch_0_0 : Nat} {ah_0_1 : Option Addr} {ch_0_1 : Nat} {r : Bool} (h : M.spec_ValidHistory h_0 = some r) :
    Cal2 Try.prog 17 [(.agg #[(Sl ah_0_0 h_0.1 ch_0_0), (Sl ah_0_1 h_0.2 ch_0_1)])] [Ch.ro 0 (Sl ah_0_0 h_0.1 ch_0_0) h_0.1, Ch.ro 0 (Sl ah_0_1 h_0.2 ch_0_1) h_0.2] (fun n0 v L => v = (B r) ∧ L = []) := by
 refine cal2 (n := 5) Try.func17 rfl rfl rfl rfl ?_
 intro S0 σ0 n0 hn0 H
 unfold M.spec_ValidHistory at h
 refine c_seq ?_
 refine rg ?_
 refine st_ex (ex_box (cs := [(Sl ah_0_0 h_0.1 ch_0_0), (Sl ah_0_1 h_0.2 ch_0_1)]) H hn0 rfl rfl) wn ?_
 rintro _ σ2 ⟨b1, rfl, H, -⟩
 refine st (v := (B false)) (rv_assign rfl) ?_
 refine w_end ?_
 refine q_then ?_
 refine c_seq ?_
 refine rg ?_
 have hc3 := H.cells 0 rfl
 refine st (v := (.agg #[(Sl ah_0_0 h_0.1 ch_0_0), (Sl ah_0_1 h_0.2 ch_0_1)])) (rv_load (cs := [(Sl ah_0_0 h_0.1 ch_0_0), (Sl ah_0_1 h_0.2 ch_0_1)]) Try.underlying26 rfl ti26 rfl rfl hc3) ?_
 obtain ⟨r4, hx5, h'⟩ := bind_some h
 clear h
 have h := h'; clear h'
 have hc6 := c_spec_validHistory (ah_0_0 := ah_0_0) (ch_0_0 := ch_0_0) (ah_0_1 := ah_0_1) (ch_0_1 := ch_0_1) hx5
 refine st_call (cx_call hc6 (ent_f hc6.fn rfl) hn0 (show Hp S0 σ0 _ ([Ch.ro 0 (Sl ah_0_0 h_0.1 ch_0_0) h_0.1, Ch.ro 0 (Sl ah_0_1 h_0.2 ch_0_1) h_0.2] ++ [Ch.bx n0 b1 0 [(Sl ah_0_0 h_0.1 ch_0_0), (Sl ah_0_1 h_0.2 ch_0_1)] [] [], Ch.ro 0 (Sl ah_0_0 h_0.1 ch_0_0) h_0.1, Ch.ro 0 (Sl ah_0_1 h_0.2 ch_0_1) h_0.2]) from (H.sel' [1, 2, 0, 1, 2] rfl rfl))) wn ?_
 rintro _ σ7 ⟨_, ⟨rfl, rfl⟩, H, -⟩
 replace H : Hp S0 σ0 σ7 [Ch.bx n0 b1 0 [(Sl ah_0_0 h_0.1 ch_0_0), (Sl ah_0_1 h_0.2 ch_0_1)] [] [], Ch.ro 0 (Sl ah_0_0 h_0.1 ch_0_0) h_0.1, Ch.ro 0 (Sl ah_0_1 h_0.2 ch_0_1) h_0.2] := H
 refine st (v := (B r4)) (rv_assign rfl) ?_
 refine w_end ?_
 refine q_then ?_
 refine c_ret ?_
 obtain rfl := Option.some.inj h
 exact fin_ret (v := (B r4)) (results_ok Try.results17 (res_tmp (v := (B r4)) rfl res_nil) rfl) ⟨rfl, rfl⟩ (H.sel' [] rfl rfl)

theorem c_impl_ValidLog {list_0 : List (Int × (Int × (List Int) × Int))} {alist_0 : Option Addr} {clist_0 : Nat} {r : Bool} (h : M.impl_ValidLog list_0 = some r) :
    Cal2 Try.prog 18 [(Sl alist_0 list_0 clist_0)] [Ch.ro 0 (Sl alist_0 list_0 clist_0) list_0] (fun n0 v L => v = (B r) ∧ L = []) := by
 refine cal2 (n := 11) Try.func18 rfl rfl rfl rfl ?_
 intro S0 σ0 n0 hn0 H
 unfold M.impl_ValidLog at h
 refine c_seq ?_
 refine rg ?_
 refine st (v := (B false)) (rv_assign rfl) ?_
 refine w_end ?_
 refine q_then ?_
 refine c_seq ?_
 refine rg ?_
 refine st (v := (Sl alist_0 list_0 clist_0)) (rv_move rfl) ?_
 obtain ⟨r1, hx2, h'⟩ := bind_some h
 clear h
 have h := h'; clear h'
 have hc3 := c_impl_changesOf (alog_0 := alist_0) (clog_0 := clist_0) hx2
 refine st_call (cx_call hc3 (ent_f hc3.fn rfl) hn0 (show Hp S0 σ0 _ ([Ch.ro 0 (Sl alist_0 list_0 clist_0) list_0] ++ [Ch.ro 0 (Sl alist_0 list_0 clist_0) list_0]) from (H.sel' [0, 0] rfl rfl))) wn ?_
 rintro _ σ6 ⟨_, ⟨a4, c5, rfl, rfl⟩, H, -⟩
 replace H : Hp S0 σ0 σ6 [Ch.own n0 0 (Sl a4 r1.1 c5) r1.1, Ch.ro 0 (Sl alist_0 list_0 clist_0) list_0] := H
 refine st (v := (.tuple #[(Sl a4 r1.1 c5), (B r1.2)])) (rv_move rfl) ?_
 refine st (v := (Sl a4 r1.1 c5)) (rv_extract rfl rfl) ?_
 refine st (v := (B r1.2)) (rv_extract rfl rfl) ?_
 refine st (v := (Sl a4 r1.1 c5)) (rv_assign rfl) ?_
 refine st (v := (B r1.2)) (rv_assign rfl) ?_
 refine w_end ?_
 refine q_then ?_
 refine c_seq ?_
 refine rg ?_
 refine st (v := (B r1.2)) (rv_move rfl) ?_
 refine st (v := (B r1.2)) (rv_assign rfl) ?_
 refine w_end ?_
 refine q_then ?_
 refine c_ret ?_
 obtain rfl := Option.some.inj h
 exact fin_ret (v := (B r1.2)) (results_ok Try.results18 (res_tmp (v := (B r1.2)) rfl res_nil) rfl) ⟨rfl, rfl⟩ (H.sel' [] rfl rfl)

theorem c_laws_FnValidHistory {code_0 : List UInt8} {acode_0 : Option Addr} {ccode_0 : Nat} {r : Bool} (h : M.laws_FnValidHistory code_0 = some r) :
    Cal2 Try.prog 3 [(Sl acode_0 code_0 ccode_0)] [Ch.ro 0 (Sl acode_0 code_0 ccode_0) code_0] (fun n0 v L => v = (B r) ∧ L = []) := by
 refine cal2 (n := 50) Try.func3 rfl rfl rfl rfl ?_
 intro S0 σ0 n0 hn0 H
 unfold M.laws_FnValidHistory at h
 refine c_seq ?_
 refine rg ?_
 refine st (v := (B false)) (rv_assign rfl) ?_
 refine w_end ?_
 refine q_then ?_
 refine c_seq ?_
 refine c_seq ?_
 refine rg ?_
 refine st (v := (Sl acode_0 code_0 ccode_0)) (rv_move rfl) ?_
 refine st (v := (I (code_0.length : Int))) (rv_len Try.underlying22 rfl) ?_
 refine st (v := (B (decide (1048576 < (code_0.length : Int))))) (rv_gtr (a := (code_0.length : Int)) (b := 1048576) rfl rfl) ?_
 refine w_end ?_
 refine q_then ?_
 refine cd_cond (decide (1048576 < (code_0.length : Int))) rfl (fun hb1 => ?_) (fun hb1 => ?_)
 ·replace h := bif_t hb1 h
  refine c_seq ?_
  refine rg ?_
  refine st (v := (B true)) (rv_assign rfl) ?_
  refine w_end ?_
  refine q_then ?_
  refine c_ret ?_
  refine q_then_r ?_
  obtain rfl := Option.some.inj h
  exact fin_ret (v := (B true)) (results_ok Try.results3 (res_tmp (v := (B true)) rfl res_nil) rfl) ⟨rfl, rfl⟩ (H.sel' [] rfl rfl)
 ·replace h := bif_f hb1 h
  refine c_skip ?_
  refine q_then ?_
  refine c_seq ?_
  refine rg ?_
  refine st (v := (Sl acode_0 code_0 ccode_0)) (rv_move rfl) ?_
  obtain ⟨r2, hx3, h'⟩ := bind_some h
  clear h
  have h := h'; clear h'
  have hc4 := c_spec_DrawValidHistory (acode_0 := acode_0) (ccode_0 := ccode_0) hx3
  refine st_call (cx_call hc4 (ent_f hc4.fn rfl) hn0 (show Hp S0 σ0 _ ([Ch.ro 0 (Sl acode_0 code_0 ccode_0) code_0] ++ [Ch.ro 0 (Sl acode_0 code_0 ccode_0) code_0]) from (H.sel' [0, 0] rfl rfl))) wn ?_
  rintro _ σ9 ⟨_, ⟨a5, c6, a7, c8, rfl, rfl⟩, H, -⟩
  replace H : Hp S0 σ0 σ9 [Ch.own n0 n0 (Sl a5 r2.1 c6) r2.1, Ch.own n0 n0 (Sl a7 r2.2 c8) r2.2, Ch.ro 0 (Sl acode_0 code_0 ccode_0) code_0] := H
  refine st_ex (ex_alloc (cs := [(.slice none 0 0), (.slice none 0 0)]) H hn0 ti26 rfl) wn ?_
  rintro _ σ11 ⟨b10, rfl, H, -⟩
  refine st_exS (ex_store_box (k := 0) (cs := [(.slice none 0 0), (.slice none 0 0)]) (vs := [(Sl a5 r2.1 c6), (Sl a7 r2.2 c8)]) (cs' := [(Sl a5 r2.1 c6), (Sl a7 r2.2 c8)]) H (i := 0) rfl ti26 rfl rfl rfl rfl rfl (Nat.le_of_ble_eq_true rfl) (by simp [plain]) rfl) wn ?_
  rintro σ12 ⟨H, -⟩
  refine w_end ?_
  refine q_then ?_
  refine c_seq ?_
  refine rg ?_
  have hc13 := H.cells 0 rfl
  refine st (v := (.agg #[(Sl a5 r2.1 c6), (Sl a7 r2.2 c8)])) (rv_load (cs := [(Sl a5 r2.1 c6), (Sl a7 r2.2 c8)]) Try.underlying26 rfl ti26 rfl rfl hc13) ?_
  obtain ⟨r14, hx15, h'⟩ := bind_some h
  clear h
  have h := h'; clear h'
  have hc16 := c_impl_ValidHistory (ah_0_0 := a5) (ch_0_0 := c6) (ah_0_1 := a7) (ch_0_1 := c8) hx15
  have hle := Nat.le_trans hn0 H.size
  refine st_call (cx_lend (Loan.lend (Loan.lend Loan.nil)) hc16 (ent_f hc16.fn rfl) (show Hp S0 σ0 _ ([Ch.own n0 n0 (Sl a5 r2.1 c6) r2.1, Ch.own n0 n0 (Sl a7 r2.2 c8) r2.2] ++ ([] ++ [Ch.bx n0 b10 0 [(Sl a5 r2.1 c6), (Sl a7 r2.2 c8)] [] [], Ch.ro 0 (Sl acode_0 code_0 ccode_0) code_0])) from (H.sel' [1, 2, 0, 3] rfl rfl)) (by rintro _ _ _ ⟨rfl, rfl⟩; exact trivial)) wn ?_
  rintro _ σ17 ⟨_, ⟨rfl, rfl⟩, H, -, -⟩
  replace H : Hp S0 σ0 σ17 [Ch.own n0 n0 (Sl a5 r2.1 c6) r2.1, Ch.own n0 n0 (Sl a7 r2.2 c8) r2.2, Ch.bx n0 b10 0 [(Sl a5 r2.1 c6), (Sl a7 r2.2 c8)] [] [], Ch.ro 0 (Sl acode_0 code_0 ccode_0) code_0] := H
  clear hle
  replace H : Hp S0 σ0 σ17 [Ch.own n0 n0 (Sl a5 r2.1 c6) r2.1, Ch.own n0 n0 (Sl a7 r2.2 c8) r2.2, Ch.bx n0 b10 0 [(Sl a5 r2.1 c6), (Sl a7 r2.2 c8)] [] [], Ch.ro 0 (Sl acode_0 code_0 ccode_0) code_0] := H
  refine st (v := (B r14)) (rv_assign rfl) ?_
  refine w_end ?_
  refine q_then ?_
  refine c_seq ?_
  refine c_seq ?_
  obtain ⟨o18, hj, h'⟩ := bind_some h
  clear h
  refine c_cut (fun e a w => e = .normal ∧ ∃ (ρ : Nat → Value) (σ : St), a = fr 50 (updL ρ [(3, (pt b10 0)), (4, (B r14)), (26, (B o18))]) ∧ w = σ.w ∧ Hp S0 σ0 σ [Ch.own n0 n0 (Sl a5 r2.1 c6) r2.1, Ch.own n0 n0 (Sl a7 r2.2 c8) r2.2, Ch.bx n0 b10 0 [(Sl a5 r2.1 c6), (Sl a7 r2.2 c8)] [] []]) ?_ ?_
  ·clear h'
   rename _ = some o18 => h
   refine rg ?_
   refine st (v := (B r14)) (rv_move rfl) ?_
   have hc19 := H.cells 2 rfl
   refine st (v := (.agg #[(Sl a5 r2.1 c6), (Sl a7 r2.2 c8)])) (rv_load (cs := [(Sl a5 r2.1 c6), (Sl a7 r2.2 c8)]) Try.underlying26 rfl ti26 rfl rfl hc19) ?_
   obtain ⟨r20, hx21, h'⟩ := bind_some h
   clear h
   have h := h'; clear h'
   have hc22 := c_spec_ValidHistory (ah_0_0 := a5) (ch_0_0 := c6) (ah_0_1 := a7) (ch_0_1 := c8) hx21
   have hle := Nat.le_trans hn0 H.size
   refine st_call (cx_lend (Loan.lend (Loan.lend Loan.nil)) hc22 (ent_f hc22.fn rfl) (show Hp S0 σ0 _ ([Ch.own n0 n0 (Sl a5 r2.1 c6) r2.1, Ch.own n0 n0 (Sl a7 r2.2 c8) r2.2] ++ ([] ++ [Ch.bx n0 b10 0 [(Sl a5 r2.1 c6), (Sl a7 r2.2 c8)] [] [], Ch.ro 0 (Sl acode_0 code_0 ccode_0) code_0])) from (H.sel' [0, 1, 2, 3] rfl rfl)) (by rintro _ _ _ ⟨rfl, rfl⟩; exact trivial)) wn ?_
   rintro _ σ23 ⟨_, ⟨rfl, rfl⟩, H, -, -⟩
   replace H : Hp S0 σ0 σ23 [Ch.own n0 n0 (Sl a5 r2.1 c6) r2.1, Ch.own n0 n0 (Sl a7 r2.2 c8) r2.2, Ch.bx n0 b10 0 [(Sl a5 r2.1 c6), (Sl a7 r2.2 c8)] [] [], Ch.ro 0 (Sl acode_0 code_0 ccode_0) code_0] := H
   clear hle
   replace H : Hp S0 σ0 σ23 [Ch.own n0 n0 (Sl a5 r2.1 c6) r2.1, Ch.own n0 n0 (Sl a7 r2.2 c8) r2.2, Ch.bx n0 b10 0 [(Sl a5 r2.1 c6), (Sl a7 r2.2 c8)] [] [], Ch.ro 0 (Sl acode_0 code_0 ccode_0) code_0] := H
   refine st (v := (B (r14 != r20))) (rv_bneq Try.underlying4 rfl rfl) ?_
   refine st (v := (B (r14 != r20))) (rv_move rfl) ?_
   rcases Bool.eq_false_or_eq_true (r14 != r20) with hb24 | hb24
   ·replace h := bif_t hb24 h
    refine st_skip (congrArg some hb24) ?_
    refine st_skip (congrArg some hb24) ?_
    refine st (v := (B true)) (rv_pick_t (congrArg B hb24) rfl) ?_
    refine st (v := (B true)) (rv_move rfl) ?_
    refine st_skip rfl ?_
    refine st_skip rfl ?_
    refine st_skip rfl ?_
    refine st_skip rfl ?_
    refine st (v := (B true)) (rv_pick_t rfl rfl) ?_
    refine w_end ?_
    obtain rfl := Option.some.inj h
    exact ⟨rfl, _, σ23, fr_join ⟨rfl, rfl, rfl, trivial⟩, rfl, H.sel' [0, 1, 2] rfl rfl⟩
   ·replace h := bif_f hb24 h
    refine st_g (v := (B r14)) (congrArg some hb24) (rv_move rfl) ?_
    refine st_g (v := (B (!r14))) (congrArg some hb24) (rv_not rfl) ?_
    refine st (v := (B (!r14))) (rv_pick_f (congrArg B hb24) rfl) ?_
    refine st (v := (B (!r14))) (rv_move rfl) ?_
    rcases Bool.eq_false_or_eq_true (!r14) with hb25 | hb25
    ·replace h := bif_t hb25 h
     refine st_skip (congrArg some hb25) ?_
     refine st_skip (congrArg some hb25) ?_
     refine st_skip (congrArg some hb25) ?_
     refine st_skip (congrArg some hb25) ?_
     refine st (v := (B true)) (rv_pick_t (congrArg B hb25) rfl) ?_
     refine w_end ?_
     obtain rfl := Option.some.inj h
     exact ⟨rfl, _, σ23, fr_join ⟨rfl, rfl, rfl, trivial⟩, rfl, H.sel' [0, 1, 2] rfl rfl⟩
    ·replace h := bif_f hb25 h
     refine st_g (v := (pt b10 0)) (congrArg some hb25) (rv_fieldAddr (off := 0) (ft := 23) Try.underlying26 rfl ti23 rfl rfl) ?_
     have hc26 := H.cell (u := (Sl a5 r2.1 c6)) (o' := 0) 2 0 rfl rfl rfl
     refine st_g (v := (Sl a5 r2.1 c6)) (congrArg some hb25) (rv_load1 Try.underlying23 rfl rfl hc26) ?_
     refine st_g (v := (I (r2.1.length : Int))) (congrArg some hb25) (rv_len Try.underlying23 rfl) ?_
     refine st_g (v := (B ((r2.1.length : Int) == 0))) (congrArg some hb25) (rv_eql (a := (r2.1.length : Int)) (b := 0) rfl rfl) ?_
     refine st (v := (B ((r2.1.length : Int) == 0))) (rv_pick_f (congrArg B hb25) rfl) ?_
     refine w_end ?_
     obtain rfl := Option.some.inj h
     exact ⟨rfl, _, σ23, fr_join ⟨rfl, rfl, rfl, trivial⟩, rfl, H.sel' [0, 1, 2] rfl rfl⟩
  ·clear hj
   have h := h'
   clear h' H
   rintro e a w ⟨rfl, ρ, σ27, rfl, rfl, H⟩
   refine q_then ?_
   refine cd_cond o18 rfl (fun hb28 => ?_) (fun hb28 => ?_)
   ·replace h := bif_t hb28 h
    refine c_seq ?_
    refine rg ?_
    refine st (v := (B r14)) (rv_move rfl) ?_
    have hc29 := H.cells 2 rfl
    refine st (v := (.agg #[(Sl a5 r2.1 c6), (Sl a7 r2.2 c8)])) (rv_load (cs := [(Sl a5 r2.1 c6), (Sl a7 r2.2 c8)]) Try.underlying26 rfl ti26 rfl rfl hc29) ?_
    obtain ⟨σ30, hw31, H, -⟩ := H.pub 0 rfl (Nat.le_refl _)
    rw [← hw31]; clear hw31
    obtain ⟨σ32, hw33, H, -⟩ := H.pub 1 rfl (Nat.le_refl _)
    rw [← hw33]; clear hw33
    replace H := H.roLow 1 0 rfl (Nat.zero_le _)
    replace H := H.roLow 1 0 rfl (Nat.zero_le _)
    obtain ⟨r34, hx35, h'⟩ := bind_some h
    clear h
    have h := h'; clear h'
    have hc36 := c_spec_ValidHistory (ah_0_0 := a5) (ch_0_0 := c6) (ah_0_1 := a7) (ch_0_1 := c8) hx35
    refine st_call (cx_call hc36 (ent_f hc36.fn rfl) hn0 (show Hp S0 σ0 _ ([Ch.ro 0 (Sl a5 r2.1 c6) r2.1, Ch.ro 0 (Sl a7 r2.2 c8) r2.2] ++ [Ch.ro 0 (Sl a7 r2.2 c8) r2.2, Ch.ro 0 (Sl a5 r2.1 c6) r2.1, Ch.ro n0 (Sl a7 r2.2 c8) r2.2, Ch.ro n0 (Sl a5 r2.1 c6) r2.1, Ch.bx n0 b10 0 [(Sl a5 r2.1 c6), (Sl a7 r2.2 c8)] [] []]) from (H.sel' [1, 0, 0, 1, 2, 3, 4] rfl rfl))) wn ?_
    rintro _ σ37 ⟨_, ⟨rfl, rfl⟩, H, -⟩
    replace H : Hp S0 σ0 σ37 [Ch.ro 0 (Sl a7 r2.2 c8) r2.2, Ch.ro 0 (Sl a5 r2.1 c6) r2.1, Ch.ro n0 (Sl a7 r2.2 c8) r2.2, Ch.ro n0 (Sl a5 r2.1 c6) r2.1, Ch.bx n0 b10 0 [(Sl a5 r2.1 c6), (Sl a7 r2.2 c8)] [] []] := H
    refine st (v := (B (r14 == r34))) (rv_beql Try.underlying4 rfl rfl) ?_
    refine st (v := (B (r14 == r34))) (rv_assign rfl) ?_
    refine w_end ?_
    refine q_then ?_
    refine c_ret ?_
    refine q_then_r ?_
    obtain rfl := Option.some.inj h
    exact fin_ret (v := (B (r14 == r34))) (results_ok Try.results3 (res_tmp (v := (B (r14 == r34))) rfl res_nil) rfl) ⟨rfl, rfl⟩ (H.sel' [] rfl rfl)
   ·replace h := bif_f hb28 h
    refine c_skip ?_
    refine q_then ?_
    refine c_seq ?_
    refine rg ?_
    refine st (v := (pt b10 0)) (rv_fieldAddr (off := 0) (ft := 23) Try.underlying26 rfl ti23 rfl rfl) ?_
    have hc38 := H.cell (u := (Sl a5 r2.1 c6)) (o' := 0) 2 0 rfl rfl rfl
    refine st (v := (Sl a5 r2.1 c6)) (rv_load1 Try.underlying23 rfl rfl hc38) ?_
    refine st (v := (I (r2.1.length : Int))) (rv_len Try.underlying23 rfl) ?_
    refine st (v := (I (w64 ((r2.1.length : Int) - 1)))) (rv_sub (a := (r2.1.length : Int)) (b := 1) rfl rfl) ?_
    refine st (v := (I (w64 ((r2.1.length : Int) - 1)))) (rv_assign rfl) ?_
    refine w_end ?_
    refine q_then ?_
    refine c_seq ?_
    refine rgP (σ := σ27) 8 (by kernel_rfl) (by kernel_rfl) (by kernel_rfl) ?_
    refine sq (v := (pt b10 0)) (rv_fieldAddr (off := 0) (ft := 23) Try.underlying26 rfl ti23 rfl rfl) ?_
    have hc39 := H.cell (u := (Sl a5 r2.1 c6)) (o' := 0) 2 0 rfl rfl rfl
    refine sq (v := (Sl a5 r2.1 c6)) (rv_load1 Try.underlying23 rfl rfl hc39) ?_
    refine sq (v := (I (w64 ((r2.1.length : Int) - 1)))) (rv_move rfl) ?_
    obtain ⟨xs40, hx41, h'⟩ := bind_some h
    clear h
    have h := h'; clear h'
    obtain ⟨a42, c43, hs44, -⟩ := (H.own 0 rfl).slice hx41
    refine sq (v := (Sl a42 xs40 c43)) (rv_slice_h Try.underlying23 ti43 hs44 rfl rfl) ?_
    refine sq (v := (pt b10 1)) (rv_fieldAddr (off := 1) (ft := 24) Try.underlying26 rfl ti24 rfl rfl) ?_
    have hc46 := H.cell (u := (Sl a7 r2.2 c8)) (o' := 1) 2 1 rfl rfl rfl
    refine sq (v := (Sl a7 r2.2 c8)) (rv_load1 Try.underlying24 rfl rfl hc46) ?_
    refine sq (v := (I (w64 ((r2.1.length : Int) - 1)))) (rv_move rfl) ?_
    obtain ⟨xs47, hx48, h'⟩ := bind_some h
    clear h
    have h := h'; clear h'
    obtain ⟨a49, c50, hs51, -⟩ := (H.own 1 rfl).slice hx48
    refine sq (v := (Sl a49 xs47 c50)) (rv_slice_h Try.underlying24 ti3 hs51 rfl rfl) ?_
    refine sq_end ?_
    intro σ53 hm54
    replace H := H.grow (hm54.mono fun _ h => h); clear hm54
    refine st (v := (.agg #[(Sl a42 xs40 c43), (Sl a49 xs47 c50)])) (rv_build (ps := [(0, (Sl a42 xs40 c43)), (1, (Sl a49 xs47 c50))]) Try.underlying26 ti26 (bp26 Try.underlying26) rfl (by kernel_rfl)) ?_
    obtain ⟨r55, hx56, h'⟩ := bind_some h
    clear h
    have h := h'; clear h'
    have hc57 := c_impl_ValidHistory (ah_0_0 := a42) (ch_0_0 := c43) (ah_0_1 := a49) (ch_0_1 := c50) hx56
    have hle := Nat.le_trans hn0 H.size
    refine st_call (cx_lend (Loan.lendV (fun _ hO => Ow.view hO hx41 hs44) (Loan.lendV (fun _ hO => Ow.view hO hx48 hs51) Loan.nil)) hc57 (ent_f hc57.fn rfl) (show Hp S0 σ0 _ ([Ch.own n0 n0 (Sl a5 r2.1 c6) r2.1, Ch.own n0 n0 (Sl a7 r2.2 c8) r2.2] ++ ([] ++ [Ch.bx n0 b10 0 [(Sl a5 r2.1 c6), (Sl a7 r2.2 c8)] [] []])) from (H.sel' [0, 1, 2] rfl rfl)) (by rintro _ _ _ ⟨rfl, rfl⟩; exact trivial)) wn ?_
    rintro _ σ58 ⟨_, ⟨rfl, rfl⟩, H, -, -⟩
    replace H : Hp S0 σ0 σ58 [Ch.own n0 n0 (Sl a5 r2.1 c6) r2.1, Ch.own n0 n0 (Sl a7 r2.2 c8) r2.2, Ch.bx n0 b10 0 [(Sl a5 r2.1 c6), (Sl a7 r2.2 c8)] [] []] := H
    clear hle
    replace H : Hp S0 σ0 σ58 [Ch.own n0 n0 (Sl a5 r2.1 c6) r2.1, Ch.own n0 n0 (Sl a7 r2.2 c8) r2.2, Ch.bx n0 b10 0 [(Sl a5 r2.1 c6), (Sl a7 r2.2 c8)] [] []] := H
    refine st (v := (B r55)) (rv_move rfl) ?_
    rcases Bool.eq_false_or_eq_true r55 with hb59 | hb59
    ·replace h := bif_t hb59 h
     refine st_g (v := (pt b10 0)) (congrArg some hb59) (rv_fieldAddr (off := 0) (ft := 23) Try.underlying26 rfl ti23 rfl rfl) ?_
     have hc60 := H.cell (u := (Sl a5 r2.1 c6)) (o' := 0) 2 0 rfl rfl rfl
     refine st_g (v := (Sl a5 r2.1 c6)) (congrArg some hb59) (rv_load1 Try.underlying23 rfl rfl hc60) ?_
     obtain ⟨σ61, hw62, H, -⟩ := H.pub 0 rfl (Nat.le_refl _)
     rw [← hw62]; clear hw62
     replace H := H.roLow 0 0 rfl (Nat.zero_le _)
     obtain ⟨r63, hx64, h'⟩ := bind_some h
     clear h
     have h := h'; clear h'
     have hc65 := c_impl_ValidLog (alist_0 := a5) (clist_0 := c6) hx64
     refine st_call (cx_call hc65 (ent_f hc65.fn rfl) hn0 (show Hp S0 σ0 _ ([Ch.ro 0 (Sl a5 r2.1 c6) r2.1] ++ [Ch.ro 0 (Sl a5 r2.1 c6) r2.1, Ch.ro n0 (Sl a5 r2.1 c6) r2.1, Ch.own n0 n0 (Sl a7 r2.2 c8) r2.2, Ch.bx n0 b10 0 [(Sl a5 r2.1 c6), (Sl a7 r2.2 c8)] [] []]) from (H.sel' [0, 0, 1, 2, 3] rfl rfl))) (wanted_yes rfl (by exact (congrArg some hb59))) ?_
     rintro _ σ66 ⟨_, ⟨rfl, rfl⟩, H, -⟩
     replace H : Hp S0 σ0 σ66 [Ch.ro 0 (Sl a5 r2.1 c6) r2.1, Ch.ro n0 (Sl a5 r2.1 c6) r2.1, Ch.own n0 n0 (Sl a7 r2.2 c8) r2.2, Ch.bx n0 b10 0 [(Sl a5 r2.1 c6), (Sl a7 r2.2 c8)] [] []] := H
     refine st (v := (B r63)) (rv_pick_t (congrArg B hb59) rfl) ?_
     refine st (v := (B r63)) (rv_assign rfl) ?_
     refine w_end ?_
     refine q_then ?_
     refine c_ret ?_
     obtain rfl := Option.some.inj h
     exact fin_ret (v := (B r63)) (results_ok Try.results3 (res_tmp (v := (B r63)) rfl res_nil) rfl) ⟨rfl, rfl⟩ (H.sel' [] rfl rfl)
    ·replace h := bif_f hb59 h
     refine st_skip (congrArg some hb59) ?_
     refine st_skip (congrArg some hb59) ?_
     refine st_skip (congrArg some hb59) ?_
     refine st (v := (B false)) (rv_pick_f (congrArg B hb59) rfl) ?_
     refine st (v := (B false)) (rv_assign rfl) ?_
     refine w_end ?_
     refine q_then ?_
     refine c_ret ?_
     obtain rfl := Option.some.inj h
     exact fin_ret (v := (B false)) (results_ok Try.results3 (res_tmp (v := (B false)) rfl res_nil) rfl) ⟨rfl, rfl⟩ (H.sel' [] rfl rfl)

end Go.Vs
