/- The functions compute what their models say. -/
import Derived.Test.YtnkflplbeagljabKRankScoreFirstC1
set_option linter.unusedVariables false
set_option linter.unusedSimpArgs false
set_option maxRecDepth 20000
namespace Go.Vs
open Go Go.Proofs
attribute [local irreducible] Code.wp Code.wpIn wpList wpListIn wpQuiet Calls CallsIn

theorem c_spec_PutItem {list_0 : List (Int × (List Int) × Int)} {x_1 : Int × (List Int) × Int} {alist_0 : Option Addr} {clist_0 : Nat} {ax_1_1 : Option Addr} {cx_1_1 : Nat} {r : (List (Int × (List Int) × Int)) × Bool} (h : M.spec_PutItem list_0 x_1 = some r) :
    Cal2 Try.prog 88 [(Sl alist_0 list_0 clist_0), (.agg #[(I x_1.1), (Sl ax_1_1 x_1.2.1 cx_1_1), (I x_1.2.2)])] [Ch.ro 0 (Sl alist_0 list_0 clist_0) list_0, Ch.ro 0 (Sl ax_1_1 x_1.2.1 cx_1_1) x_1.2.1] (fun n0 v L => ∃ (az1 : Option Addr), ∃ (cz2 : Nat), v = (.tuple #[(Sl az1 r.1 cz2), (B r.2)]) ∧ L = [Ch.own n0 n0 (Sl az1 r.1 cz2) r.1]) := by
 refine cal2 (n := 22) Try.func88 rfl rfl rfl rfl ?_
 intro S0 σ0 n0 hn0 H
 unfold M.spec_PutItem at h
 refine c_seq ?_
 refine rg ?_
 refine st_ex (ex_box (cs := [(I x_1.1), (Sl ax_1_1 x_1.2.1 cx_1_1), (I x_1.2.2)]) H hn0 rfl rfl) wn ?_
 rintro _ σ2 ⟨b1, rfl, H, -⟩
 refine st (v := (.slice none 0 0)) (rv_assign rfl) ?_
 refine st (v := (B false)) (rv_assign rfl) ?_
 refine w_end ?_
 refine q_then ?_
 refine c_seq ?_
 refine c_seq ?_
 obtain ⟨o3, hj, h'⟩ := bind_some h
 clear h
 refine c_cut (fun e a w => e = .normal ∧ ∃ (ρ : Nat → Value) (σ : St), a = fr 22 (updL ρ [(0, (Sl alist_0 list_0 clist_0)), (3, (pt b1 0)), (14, (B o3))]) ∧ w = σ.w ∧ Hp S0 σ0 σ [Ch.ro 0 (Sl alist_0 list_0 clist_0) list_0, Ch.ro 0 (Sl ax_1_1 x_1.2.1 cx_1_1) x_1.2.1, Ch.bx n0 b1 0 [(I x_1.1), (Sl ax_1_1 x_1.2.1 cx_1_1), (I x_1.2.2)] [] []]) ?_ ?_
 ·clear h'
  rename _ = some o3 => h
  refine rg ?_
  refine st (v := (Sl alist_0 list_0 clist_0)) (rv_move rfl) ?_
  obtain ⟨r4, hx5, h'⟩ := bind_some h
  clear h
  have h := h'; clear h'
  have hc6 := c_spec_validStore (alist_0 := alist_0) (clist_0 := clist_0) hx5
  refine st_call (cx_call hc6 (ent_f hc6.fn rfl) hn0 (show Hp S0 σ0 _ ([Ch.ro 0 (Sl alist_0 list_0 clist_0) list_0] ++ [Ch.bx n0 b1 0 [(I x_1.1), (Sl ax_1_1 x_1.2.1 cx_1_1), (I x_1.2.2)] [] [], Ch.ro 0 (Sl alist_0 list_0 clist_0) list_0, Ch.ro 0 (Sl ax_1_1 x_1.2.1 cx_1_1) x_1.2.1]) from (H.sel' [1, 0, 1, 2] rfl rfl))) wn ?_
  rintro _ σ7 ⟨_, ⟨rfl, rfl⟩, H, -⟩
  replace H : Hp S0 σ0 σ7 [Ch.bx n0 b1 0 [(I x_1.1), (Sl ax_1_1 x_1.2.1 cx_1_1), (I x_1.2.2)] [] [], Ch.ro 0 (Sl alist_0 list_0 clist_0) list_0, Ch.ro 0 (Sl ax_1_1 x_1.2.1 cx_1_1) x_1.2.1] := H
  refine st (v := (B (!r4))) (rv_not rfl) ?_
  refine st (v := (B (!r4))) (rv_move rfl) ?_
  rcases Bool.eq_false_or_eq_true (!r4) with hb8 | hb8
  ·replace h := bif_t hb8 h
   refine st_skip (congrArg some hb8) ?_
   refine st_skip (congrArg some hb8) ?_
   refine st_skip (congrArg some hb8) ?_
   refine st (v := (B true)) (rv_pick_t (congrArg B hb8) rfl) ?_
   refine w_end ?_
   obtain rfl := Option.some.inj h
   exact ⟨rfl, _, σ7, fr_join ⟨rfl, rfl, rfl, trivial⟩, rfl, H.sel' [1, 2, 0] rfl rfl⟩
  ·replace h := bif_f hb8 h
   have hc9 := H.cells 0 rfl
   refine st_g (v := (.agg #[(I x_1.1), (Sl ax_1_1 x_1.2.1 cx_1_1), (I x_1.2.2)])) (congrArg some hb8) (rv_load (cs := [(I x_1.1), (Sl ax_1_1 x_1.2.1 cx_1_1), (I x_1.2.2)]) Try.underlying73 rfl ti73 rfl rfl hc9) ?_
   obtain ⟨r10, hx11, h'⟩ := bind_some h
   clear h
   have h := h'; clear h'
   have hc12 := c_spec_validItem (ax_0_1 := ax_1_1) (cx_0_1 := cx_1_1) hx11
   refine st_call (cx_call hc12 (ent_f hc12.fn rfl) hn0 (show Hp S0 σ0 _ ([Ch.ro 0 (Sl ax_1_1 x_1.2.1 cx_1_1) x_1.2.1] ++ [Ch.bx n0 b1 0 [(I x_1.1), (Sl ax_1_1 x_1.2.1 cx_1_1), (I x_1.2.2)] [] [], Ch.ro 0 (Sl alist_0 list_0 clist_0) list_0, Ch.ro 0 (Sl ax_1_1 x_1.2.1 cx_1_1) x_1.2.1]) from (H.sel' [2, 0, 1, 2] rfl rfl))) (wanted_yes rfl (by exact (congrArg some hb8))) ?_
   rintro _ σ13 ⟨_, ⟨rfl, rfl⟩, H, -⟩
   replace H : Hp S0 σ0 σ13 [Ch.bx n0 b1 0 [(I x_1.1), (Sl ax_1_1 x_1.2.1 cx_1_1), (I x_1.2.2)] [] [], Ch.ro 0 (Sl alist_0 list_0 clist_0) list_0, Ch.ro 0 (Sl ax_1_1 x_1.2.1 cx_1_1) x_1.2.1] := H
   refine st_g (v := (B (!r10))) (congrArg some hb8) (rv_not rfl) ?_
   refine st (v := (B (!r10))) (rv_pick_f (congrArg B hb8) rfl) ?_
   refine w_end ?_
   obtain rfl := Option.some.inj h
   exact ⟨rfl, _, σ13, fr_join ⟨rfl, rfl, rfl, trivial⟩, rfl, H.sel' [1, 2, 0] rfl rfl⟩
 ·clear hj
  have h := h'
  clear h' H
  rintro e a w ⟨rfl, ρ, σ14, rfl, rfl, H⟩
  refine q_then ?_
  refine cd_cond o3 rfl (fun hb15 => ?_) (fun hb15 => ?_)
  ·replace h := bif_t hb15 h
   refine c_seq ?_
   refine rg ?_
   refine st (v := (.slice none 0 0)) (rv_assign rfl) ?_
   refine st (v := (B false)) (rv_assign rfl) ?_
   refine w_end ?_
   refine q_then ?_
   refine c_ret ?_
   refine q_then_r ?_
   replace H := H.nilOwn (Int × (List Int) × Int) n0 n0
   obtain rfl := Option.some.inj h
   exact fin_ret (v := (.tuple #[(.slice none 0 0), (B false)])) (results_ok Try.results88 (res_tmp (v := (.slice none 0 0)) rfl (res_tmp (v := (B false)) rfl res_nil)) rfl) ⟨none, 0, rfl, rfl⟩ (H.sel' [0] rfl rfl)
  ·replace h := bif_f hb15 h
   refine c_skip ?_
   refine q_then ?_
   refine c_seq ?_
   refine rg ?_
   refine st (v := (Sl alist_0 list_0 clist_0)) (rv_move rfl) ?_
   have hc16 := H.cells 2 rfl
   refine st (v := (.agg #[(I x_1.1), (Sl ax_1_1 x_1.2.1 cx_1_1), (I x_1.2.2)])) (rv_load (cs := [(I x_1.1), (Sl ax_1_1 x_1.2.1 cx_1_1), (I x_1.2.2)]) Try.underlying73 rfl ti73 rfl rfl hc16) ?_
   obtain ⟨r17, hx18, h'⟩ := bind_some h
   clear h
   have h := h'; clear h'
   have hc19 := c_spec_put (alist_0 := alist_0) (clist_0 := clist_0) (ax_1_1 := ax_1_1) (cx_1_1 := cx_1_1) hx18
   refine st_call (cx_call hc19 (ent_f hc19.fn rfl) hn0 (show Hp S0 σ0 _ ([Ch.ro 0 (Sl alist_0 list_0 clist_0) list_0, Ch.ro 0 (Sl ax_1_1 x_1.2.1 cx_1_1) x_1.2.1] ++ [Ch.ro 0 (Sl alist_0 list_0 clist_0) list_0, Ch.ro 0 (Sl ax_1_1 x_1.2.1 cx_1_1) x_1.2.1, Ch.bx n0 b1 0 [(I x_1.1), (Sl ax_1_1 x_1.2.1 cx_1_1), (I x_1.2.2)] [] []]) from (H.sel' [0, 1, 0, 1, 2] rfl rfl))) wn ?_
   rintro _ σ22 ⟨_, ⟨a20, c21, rfl, rfl⟩, H, -⟩
   replace H : Hp S0 σ0 σ22 [Ch.own n0 n0 (Sl a20 r17 c21) r17, Ch.ro 0 (Sl alist_0 list_0 clist_0) list_0, Ch.ro 0 (Sl ax_1_1 x_1.2.1 cx_1_1) x_1.2.1, Ch.bx n0 b1 0 [(I x_1.1), (Sl ax_1_1 x_1.2.1 cx_1_1), (I x_1.2.2)] [] []] := H
   refine st (v := (Sl a20 r17 c21)) (rv_assign rfl) ?_
   refine w_end ?_
   refine q_then ?_
   refine c_seq ?_
   refine c_seq ?_
   refine rg ?_
   refine st (v := (Sl a20 r17 c21)) (rv_move rfl) ?_
   obtain ⟨r23, hx24, h'⟩ := bind_some h
   clear h
   have h := h'; clear h'
   have hc25 := c_spec_validStore (alist_0 := a20) (clist_0 := c21) hx24
   have hle := Nat.le_trans hn0 H.size
   refine st_call (cx_lend (Loan.lend Loan.nil) hc25 (ent_f hc25.fn rfl) (show Hp S0 σ0 _ ([Ch.own n0 n0 (Sl a20 r17 c21) r17] ++ ([] ++ [Ch.ro 0 (Sl alist_0 list_0 clist_0) list_0, Ch.ro 0 (Sl ax_1_1 x_1.2.1 cx_1_1) x_1.2.1, Ch.bx n0 b1 0 [(I x_1.1), (Sl ax_1_1 x_1.2.1 cx_1_1), (I x_1.2.2)] [] []])) from (H.sel' [0, 1, 2, 3] rfl rfl)) (by rintro _ _ _ ⟨rfl, rfl⟩; exact trivial)) wn ?_
   rintro _ σ26 ⟨_, ⟨rfl, rfl⟩, H, -, -⟩
   replace H : Hp S0 σ0 σ26 [Ch.own n0 n0 (Sl a20 r17 c21) r17, Ch.ro 0 (Sl alist_0 list_0 clist_0) list_0, Ch.ro 0 (Sl ax_1_1 x_1.2.1 cx_1_1) x_1.2.1, Ch.bx n0 b1 0 [(I x_1.1), (Sl ax_1_1 x_1.2.1 cx_1_1), (I x_1.2.2)] [] []] := H
   clear hle
   replace H : Hp S0 σ0 σ26 [Ch.own n0 n0 (Sl a20 r17 c21) r17, Ch.ro 0 (Sl alist_0 list_0 clist_0) list_0, Ch.ro 0 (Sl ax_1_1 x_1.2.1 cx_1_1) x_1.2.1, Ch.bx n0 b1 0 [(I x_1.1), (Sl ax_1_1 x_1.2.1 cx_1_1), (I x_1.2.2)] [] []] := H
   refine st (v := (B (!r23))) (rv_not rfl) ?_
   refine w_end ?_
   refine q_then ?_
   refine cd_cond (!r23) rfl (fun hb27 => ?_) (fun hb27 => ?_)
   ·replace h := bif_t hb27 h
    refine c_seq ?_
    refine rg ?_
    refine st (v := (.slice none 0 0)) (rv_assign rfl) ?_
    refine st (v := (B false)) (rv_assign rfl) ?_
    refine w_end ?_
    refine q_then ?_
    refine c_ret ?_
    refine q_then_r ?_
    replace H := H.nilOwn (Int × (List Int) × Int) n0 n0
    obtain rfl := Option.some.inj h
    exact fin_ret (v := (.tuple #[(.slice none 0 0), (B false)])) (results_ok Try.results88 (res_tmp (v := (.slice none 0 0)) rfl (res_tmp (v := (B false)) rfl res_nil)) rfl) ⟨none, 0, rfl, rfl⟩ (H.sel' [0] rfl rfl)
   ·replace h := bif_f hb27 h
    refine c_skip ?_
    refine q_then ?_
    refine c_seq ?_
    refine rg ?_
    refine st (v := (Sl a20 r17 c21)) (rv_move rfl) ?_
    refine st (v := (Sl a20 r17 c21)) (rv_assign rfl) ?_
    refine st (v := (B true)) (rv_assign rfl) ?_
    refine w_end ?_
    refine q_then ?_
    refine c_ret ?_
    obtain rfl := Option.some.inj h
    exact fin_ret (v := (.tuple #[(Sl a20 r17 c21), (B true)])) (results_ok Try.results88 (res_tmp (v := (Sl a20 r17 c21)) rfl (res_tmp (v := (B true)) rfl res_nil)) rfl) ⟨a20, c21, rfl, rfl⟩ (H.sel' [0] rfl rfl)

theorem c_spec_someCoord {r_0 : (List UInt8) × Int} {ar_0_0 : Option Addr} {cr_0_0 : Nat} {lor_0 br_0 or_0 : Nat} {prer_0 sufr_0 : List Value} {r : Int × ((List UInt8) × Int)} (h : M.spec_someCoord r_0 = some r) :
    Cal2 Try.prog 90 [(pt br_0 or_0)] [Ch.bx lor_0 br_0 or_0 [(Sl ar_0_0 r_0.1 cr_0_0), (I r_0.2)] prer_0 sufr_0, Ch.ro 0 (Sl ar_0_0 r_0.1 cr_0_0) r_0.1] (fun n0 v L => ∃ (az1 : Option Addr), ∃ (cz2 : Nat), v = (I r.1) ∧ L = [Ch.bx lor_0 br_0 or_0 [(Sl az1 r.2.1 cz2), (I r.2.2)] prer_0 sufr_0, Ch.ro 0 (Sl az1 r.2.1 cz2) r.2.1]) := by
 refine cal2 (n := 12) Try.func90 rfl rfl rfl rfl ?_
 intro S0 σ0 n0 hn0 H
 unfold M.spec_someCoord at h
 refine c_seq ?_
 refine rg ?_
 refine st (v := (I 0)) (rv_assign rfl) ?_
 refine w_end ?_
 refine q_then ?_
 refine c_seq ?_
 refine rg ?_
 refine st (v := (pt br_0 or_0)) (rv_move rfl) ?_
 refine st (v := (pt br_0 or_0)) (rv_move rfl) ?_
 obtain ⟨r1, hx2, h'⟩ := bind_some h
 clear h
 have h := h'; clear h'
 have hc3 := c_spec_reader_pick (lor_0 := lor_0) (br_0 := br_0) (or_0 := or_0) (prer_0 := prer_0) (sufr_0 := sufr_0) (ar_0_0 := ar_0_0) (cr_0_0 := cr_0_0) hx2
 refine st_call (cx_call hc3 (ent_f hc3.fn rfl) hn0 (show Hp S0 σ0 _ ([Ch.bx lor_0 br_0 or_0 [(Sl ar_0_0 r_0.1 cr_0_0), (I r_0.2)] prer_0 sufr_0, Ch.ro 0 (Sl ar_0_0 r_0.1 cr_0_0) r_0.1] ++ [Ch.ro 0 (Sl ar_0_0 r_0.1 cr_0_0) r_0.1]) from (H.sel' [0, 1, 1] rfl rfl))) wn ?_
 rintro _ σ6 ⟨_, ⟨a4, c5, rfl, rfl⟩, H, -⟩
 replace H : Hp S0 σ0 σ6 [Ch.bx lor_0 br_0 or_0 [(Sl a4 r1.2.1 c5), (I r1.2.2)] prer_0 sufr_0, Ch.ro 0 (Sl a4 r1.2.1 c5) r1.2.1, Ch.ro 0 (Sl ar_0_0 r_0.1 cr_0_0) r_0.1] := H
 refine st (v := (I (w64 (r1.1 - 100)))) (rv_sub (a := r1.1) (b := 100) rfl rfl) ?_
 refine st (v := (pt br_0 or_0)) (rv_move rfl) ?_
 obtain ⟨r7, hx8, h'⟩ := bind_some h
 clear h
 have h := h'; clear h'
 have hc9 := c_spec_reader_pick (lor_0 := lor_0) (br_0 := br_0) (or_0 := or_0) (prer_0 := prer_0) (sufr_0 := sufr_0) (ar_0_0 := a4) (cr_0_0 := c5) hx8
 refine st_call (cx_call hc9 (ent_f hc9.fn rfl) hn0 (show Hp S0 σ0 _ ([Ch.bx lor_0 br_0 or_0 [(Sl a4 r1.2.1 c5), (I r1.2.2)] prer_0 sufr_0, Ch.ro 0 (Sl a4 r1.2.1 c5) r1.2.1] ++ [Ch.ro 0 (Sl a4 r1.2.1 c5) r1.2.1, Ch.ro 0 (Sl ar_0_0 r_0.1 cr_0_0) r_0.1]) from (H.sel' [0, 1, 1, 2] rfl rfl))) wn ?_
 rintro _ σ12 ⟨_, ⟨a10, c11, rfl, rfl⟩, H, -⟩
 replace H : Hp S0 σ0 σ12 [Ch.bx lor_0 br_0 or_0 [(Sl a10 r7.2.1 c11), (I r7.2.2)] prer_0 sufr_0, Ch.ro 0 (Sl a10 r7.2.1 c11) r7.2.1, Ch.ro 0 (Sl a4 r1.2.1 c5) r1.2.1, Ch.ro 0 (Sl ar_0_0 r_0.1 cr_0_0) r_0.1] := H
 refine st (v := (I (w64 (r7.1 - 10)))) (rv_sub (a := r7.1) (b := 10) rfl rfl) ?_
 refine st_ex (ex_buildSlice (el := n0) (xs := ([0, 1, -1, 5, -7, 10, 3, 100, -100, w64 (r1.1 - 100), w64 (r7.1 - 10)] : List Int)) (ps := [(0, (I 0)), (1, (I 1)), (2, (I (-1))), (3, (I 5)), (4, (I (-7))), (5, (I 10)), (6, (I 3)), (7, (I 100)), (8, (I (-100))), (9, (I (w64 (r1.1 - 100)))), (10, (I (w64 (r7.1 - 10))))]) (cs := [(I 0), (I 1), (I (-1)), (I 5), (I (-7)), (I 10), (I 3), (I 100), (I (-100)), (I (w64 (r1.1 - 100))), (I (w64 (r7.1 - 10)))]) H hn0 Try.underlying26 ti3 rfl rfl (by kernel_rfl) (.cons (c := [(I 0)]) rfl (.cons (c := [(I 1)]) rfl (.cons (c := [(I (-1))]) rfl (.cons (c := [(I 5)]) rfl (.cons (c := [(I (-7))]) rfl (.cons (c := [(I 10)]) rfl (.cons (c := [(I 3)]) rfl (.cons (c := [(I 100)]) rfl (.cons (c := [(I (-100))]) rfl (.cons (c := [(I (w64 (r1.1 - 100)))]) rfl (.cons (c := [(I (w64 (r7.1 - 10)))]) rfl (.nil)))))))))))) rfl) wn ?_
 rintro _ σ14 ⟨b13, rfl, H, -⟩
 obtain ⟨σ15, hw16, H, -⟩ := H.pub 0 rfl (Nat.le_refl _)
 rw [← hw16]; clear hw16
 replace H := H.roLow 0 0 rfl (Nat.zero_le _)
 obtain ⟨r17, hx18, h'⟩ := bind_some h
 clear h
 have h := h'; clear h'
 have hc19 := c_spec_reader_one (lor_0 := lor_0) (br_0 := br_0) (or_0 := or_0) (prer_0 := prer_0) (sufr_0 := sufr_0) (ar_0_0 := a10) (cr_0_0 := c11) (alist_1 := (some ⟨b13, 0, none⟩)) (clist_1 := 11) hx18
 refine st_call (cx_call hc19 (ent_f hc19.fn rfl) hn0 (show Hp S0 σ0 _ ([Ch.bx lor_0 br_0 or_0 [(Sl a10 r7.2.1 c11), (I r7.2.2)] prer_0 sufr_0, Ch.ro 0 (Sl a10 r7.2.1 c11) r7.2.1, Ch.ro 0 (Sl (some ⟨b13, 0, none⟩) ([0, 1, -1, 5, -7, 10, 3, 100, -100, w64 (r1.1 - 100), w64 (r7.1 - 10)] : List Int) 11) ([0, 1, -1, 5, -7, 10, 3, 100, -100, w64 (r1.1 - 100), w64 (r7.1 - 10)] : List Int)] ++ [Ch.ro 0 (Sl (some ⟨b13, 0, none⟩) ([0, 1, -1, 5, -7, 10, 3, 100, -100, w64 (r1.1 - 100), w64 (r7.1 - 10)] : List Int) 11) ([0, 1, -1, 5, -7, 10, 3, 100, -100, w64 (r1.1 - 100), w64 (r7.1 - 10)] : List Int), Ch.ro n0 (Sl (some ⟨b13, 0, none⟩) ([0, 1, -1, 5, -7, 10, 3, 100, -100, w64 (r1.1 - 100), w64 (r7.1 - 10)] : List Int) 11) ([0, 1, -1, 5, -7, 10, 3, 100, -100, w64 (r1.1 - 100), w64 (r7.1 - 10)] : List Int), Ch.ro 0 (Sl a10 r7.2.1 c11) r7.2.1, Ch.ro 0 (Sl a4 r1.2.1 c5) r1.2.1, Ch.ro 0 (Sl ar_0_0 r_0.1 cr_0_0) r_0.1]) from (H.sel' [2, 3, 0, 0, 1, 3, 4, 5] rfl rfl))) wn ?_
 rintro _ σ22 ⟨_, ⟨a20, c21, rfl, rfl⟩, H, -⟩
 replace H : Hp S0 σ0 σ22 [Ch.bx lor_0 br_0 or_0 [(Sl a20 r17.2.1 c21), (I r17.2.2)] prer_0 sufr_0, Ch.ro 0 (Sl a20 r17.2.1 c21) r17.2.1, Ch.ro 0 (Sl (some ⟨b13, 0, none⟩) ([0, 1, -1, 5, -7, 10, 3, 100, -100, w64 (r1.1 - 100), w64 (r7.1 - 10)] : List Int) 11) ([0, 1, -1, 5, -7, 10, 3, 100, -100, w64 (r1.1 - 100), w64 (r7.1 - 10)] : List Int), Ch.ro n0 (Sl (some ⟨b13, 0, none⟩) ([0, 1, -1, 5, -7, 10, 3, 100, -100, w64 (r1.1 - 100), w64 (r7.1 - 10)] : List Int) 11) ([0, 1, -1, 5, -7, 10, 3, 100, -100, w64 (r1.1 - 100), w64 (r7.1 - 10)] : List Int), Ch.ro 0 (Sl a10 r7.2.1 c11) r7.2.1, Ch.ro 0 (Sl a4 r1.2.1 c5) r1.2.1, Ch.ro 0 (Sl ar_0_0 r_0.1 cr_0_0) r_0.1] := H
 refine st (v := (I r17.1)) (rv_assign rfl) ?_
 refine w_end ?_
 refine q_then ?_
 refine c_ret ?_
 obtain rfl := Option.some.inj h
 exact fin_ret (v := (I r17.1)) (results_ok Try.results90 (res_tmp (v := (I r17.1)) rfl res_nil) rfl) ⟨a20, c21, rfl, rfl⟩ (H.sel' [0, 1] rfl rfl)

theorem c_spec_someVector {r_0 : (List UInt8) × Int} {ar_0_0 : Option Addr} {cr_0_0 : Nat} {lor_0 br_0 or_0 : Nat} {prer_0 sufr_0 : List Value} {r : (List Int) × ((List UInt8) × Int)} (h : M.spec_someVector r_0 = some r) :
    Cal2 Try.prog 65 [(pt br_0 or_0)] [Ch.bx lor_0 br_0 or_0 [(Sl ar_0_0 r_0.1 cr_0_0), (I r_0.2)] prer_0 sufr_0, Ch.ro 0 (Sl ar_0_0 r_0.1 cr_0_0) r_0.1] (fun n0 v L => ∃ (az1 : Option Addr), ∃ (cz2 : Nat), ∃ (az3 : Option Addr), ∃ (cz4 : Nat), v = (Sl az1 r.1 cz2) ∧ L = [Ch.own n0 n0 (Sl az1 r.1 cz2) r.1, Ch.bx lor_0 br_0 or_0 [(Sl az3 r.2.1 cz4), (I r.2.2)] prer_0 sufr_0, Ch.ro 0 (Sl az3 r.2.1 cz4) r.2.1]) := by
 refine cal2 (n := 16) Try.func65 rfl rfl rfl rfl ?_
 intro S0 σ0 n0 hn0 H
 unfold M.spec_someVector at h
 refine c_seq ?_
 refine rg ?_
 refine st (v := (.slice none 0 0)) (rv_assign rfl) ?_
 refine w_end ?_
 refine q_then ?_
 refine c_seq ?_
 refine rg ?_
 refine st_ex (ex_buildSlice (el := n0) (xs := ([] : List Int)) (ps := []) (cs := []) H hn0 Try.underlying26 ti3 rfl rfl (by kernel_rfl) (.nil) rfl) wn ?_
 rintro _ σ2 ⟨b1, rfl, H, -⟩
 refine st (v := (Sl (some ⟨b1, 0, none⟩) ([] : List Int) 0)) (rv_assign rfl) ?_
 refine w_end ?_
 refine q_then ?_
 refine c_seq ?_
 refine c_seq ?_
 refine rg ?_
 refine st (v := (I 0)) (rv_assign rfl) ?_
 refine w_end ?_
 refine q_then ?_
 obtain ⟨o3, hj, h'⟩ := bind_some h
 clear h
 refine c_cut (fun e a w => e = .normal ∧ ∃ (ρ : Nat → Value) (σ : St) (aj1 : Option Addr) (cj2 : Nat) (aj3 : Option Addr) (cj4 : Nat), a = fr 16 (updL ρ [(0, (pt br_0 or_0)), (3, (Sl aj3 o3.2 cj4))]) ∧ w = σ.w ∧ Hp S0 σ0 σ [Ch.bx lor_0 br_0 or_0 [(Sl aj1 o3.1.1 cj2), (I o3.1.2)] prer_0 sufr_0, Ch.ro 0 (Sl aj1 o3.1.1 cj2) o3.1.1, Ch.own n0 n0 (Sl aj3 o3.2 cj4) o3.2]) ?_ ?_
 ·clear h'
  rename _ = some o3 => h
  refine c_blk ?_
  refine wp_loopM _ h (fun s4 a w => ∃ (ρ : Nat → Value) (σ : St) (aj1 : Option Addr) (cj2 : Nat) (aj3 : Option Addr) (cj4 : Nat), a = fr 16 (updL ρ [(0, (pt br_0 or_0)), (3, (Sl aj3 s4.2.1 cj4)), (4, (I s4.2.2))]) ∧ w = σ.w ∧ Hp S0 σ0 σ [Ch.bx lor_0 br_0 or_0 [(Sl aj1 s4.1.1 cj2), (I s4.1.2)] prer_0 sufr_0, Ch.ro 0 (Sl aj1 s4.1.1 cj2) s4.1.1, Ch.own n0 n0 (Sl aj3 s4.2.1 cj4) s4.2.1]) ⟨_, σ2, ar_0_0, cr_0_0, (some ⟨b1, 0, none⟩), 0, fr_join ⟨rfl, rfl, rfl, trivial⟩, rfl, H.sel' [1, 2, 0] rfl rfl⟩ ?_
  clear h H
  rintro s4 a w o ⟨ρ, σ5, a6, c7, a8, c9, rfl, rfl, H⟩ h hres
  refine c_seq ?_
  refine c_seq ?_
  refine rg ?_
  refine st (v := (I s4.2.2)) (rv_move rfl) ?_
  refine st (v := (B (decide (s4.2.2 < 4)))) (rv_lss (a := s4.2.2) (b := 4) rfl rfl) ?_
  refine w_end ?_
  refine q_then ?_
  refine cd_cond (decide (s4.2.2 < 4)) rfl (fun hb10 => ?_) (fun hb10 => ?_)
  ·replace h := bif_t hb10 h
   refine c_skip ?_
   refine q_then ?_
   refine c_seq ?_
   refine c_blk ?_
   refine rg ?_
   refine st (v := (Sl a8 s4.2.1 c9)) (rv_move rfl) ?_
   refine st (v := (pt br_0 or_0)) (rv_move rfl) ?_
   obtain ⟨r11, hx12, h'⟩ := bind_some h
   clear h
   have h := h'; clear h'
   have hc13 := c_spec_someCoord (lor_0 := lor_0) (br_0 := br_0) (or_0 := or_0) (prer_0 := prer_0) (sufr_0 := sufr_0) (ar_0_0 := a6) (cr_0_0 := c7) hx12
   refine st_call (cx_call hc13 (ent_f hc13.fn rfl) hn0 (show Hp S0 σ0 _ ([Ch.bx lor_0 br_0 or_0 [(Sl a6 s4.1.1 c7), (I s4.1.2)] prer_0 sufr_0, Ch.ro 0 (Sl a6 s4.1.1 c7) s4.1.1] ++ [Ch.ro 0 (Sl a6 s4.1.1 c7) s4.1.1, Ch.own n0 n0 (Sl a8 s4.2.1 c9) s4.2.1]) from (H.sel' [0, 1, 1, 2] rfl rfl))) wn ?_
   rintro _ σ16 ⟨_, ⟨a14, c15, rfl, rfl⟩, H, -⟩
   replace H : Hp S0 σ0 σ16 [Ch.bx lor_0 br_0 or_0 [(Sl a14 r11.2.1 c15), (I r11.2.2)] prer_0 sufr_0, Ch.ro 0 (Sl a14 r11.2.1 c15) r11.2.1, Ch.ro 0 (Sl a6 s4.1.1 c7) s4.1.1, Ch.own n0 n0 (Sl a8 s4.2.1 c9) s4.2.1] := H
   refine st_ex (ex_buildSlice (el := n0) (xs := ([r11.1] : List Int)) (ps := [(0, (I r11.1))]) (cs := [(I r11.1)]) H hn0 Try.underlying26 ti3 rfl rfl (by kernel_rfl) (.cons (c := [(I r11.1)]) rfl (.nil)) rfl) wn ?_
   rintro _ σ18 ⟨b17, rfl, H, -⟩
   obtain ⟨xs19, hx20, h'⟩ := bind_some h
   clear h
   have h := h'; clear h'
   refine st_ex (ex_append H (i := 4) rfl Try.underlying26 Try.underlying26 ti3 rfl rfl (by decide) (H.own 0 rfl).rd hx20 hn0 rfl rfl) wn ?_
   rintro _ σ23 ⟨a21, c22, rfl, H, -⟩
   refine st (v := (Sl a21 xs19 c22)) (rv_assign rfl) ?_
   refine w_end ?_
   refine q_blk ?_
   refine q_then ?_
   refine rg ?_
   refine st (v := (I s4.2.2)) (rv_move rfl) ?_
   refine st (v := (I (w64 (s4.2.2 + 1)))) (rv_add (a := s4.2.2) (b := 1) rfl rfl) ?_
   refine st (v := (I (w64 (s4.2.2 + 1)))) (rv_assign rfl) ?_
   refine w_end ?_
   refine q_then ?_
   obtain rfl := Option.some.inj h
   exact ⟨_, rfl, _, σ23, a14, c15, a21, c22, fr_join ⟨rfl, rfl, rfl, trivial⟩, rfl, H.sel' [2, 3, 0] rfl rfl⟩
  ·replace h := bif_f hb10 h
   refine c_exit ?_
   refine q_then_x ?_
   refine q_then_x ?_
   refine q_blk_hit ?_
   obtain rfl := Option.some.inj h
   obtain rfl := hres _ rfl
   exact ⟨rfl, _, σ5, a6, c7, a8, c9, fr_join ⟨rfl, rfl, trivial⟩, rfl, H.sel' [0, 1, 2] rfl rfl⟩
 ·clear hj
  have h := h'
  clear h' H
  rintro e a w ⟨rfl, ρ, σ24, a25, c26, a27, c28, rfl, rfl, H⟩
  refine q_then ?_
  refine c_seq ?_
  refine rg ?_
  refine st (v := (Sl a27 o3.2 c28)) (rv_move rfl) ?_
  refine st (v := (Sl a27 o3.2 c28)) (rv_assign rfl) ?_
  refine w_end ?_
  refine q_then ?_
  refine c_ret ?_
  obtain rfl := Option.some.inj h
  exact fin_ret (v := (Sl a27 o3.2 c28)) (results_ok Try.results65 (res_tmp (v := (Sl a27 o3.2 c28)) rfl res_nil) rfl) ⟨a27, c28, a25, c26, rfl, rfl⟩ (H.sel' [2, 0, 1] rfl rfl)

theorem c_spec_someItem {r_0 : (List UInt8) × Int} {ar_0_0 : Option Addr} {cr_0_0 : Nat} {lor_0 br_0 or_0 : Nat} {prer_0 sufr_0 : List Value} {r : (Int × (List Int) × Int) × ((List UInt8) × Int)} (h : M.spec_someItem r_0 = some r) :
    Cal2 Try.prog 89 [(pt br_0 or_0)] [Ch.bx lor_0 br_0 or_0 [(Sl ar_0_0 r_0.1 cr_0_0), (I r_0.2)] prer_0 sufr_0, Ch.ro 0 (Sl ar_0_0 r_0.1 cr_0_0) r_0.1] (fun n0 v L => ∃ (az1 : Option Addr), ∃ (cz2 : Nat), ∃ (az3 : Option Addr), ∃ (cz4 : Nat), v = (.agg #[(I r.1.1), (Sl az1 r.1.2.1 cz2), (I r.1.2.2)]) ∧ L = [Ch.own n0 n0 (Sl az1 r.1.2.1 cz2) r.1.2.1, Ch.bx lor_0 br_0 or_0 [(Sl az3 r.2.1 cz4), (I r.2.2)] prer_0 sufr_0, Ch.ro 0 (Sl az3 r.2.1 cz4) r.2.1]) := by
 refine cal2 (n := 11) Try.func89 rfl rfl rfl rfl ?_
 intro S0 σ0 n0 hn0 H
 unfold M.spec_someItem at h
 refine c_seq ?_
 refine rg ?_
 refine st_ex (ex_alloc (cs := [(I 0), (.slice none 0 0), (I 0)]) H hn0 ti73 rfl) wn ?_
 rintro _ σ2 ⟨b1, rfl, H, -⟩
 refine w_end ?_
 refine q_then ?_
 refine c_seq ?_
 refine rg ?_
 refine st (v := (pt br_0 or_0)) (rv_move rfl) ?_
 obtain ⟨r3, hx4, h'⟩ := bind_some h
 clear h
 have h := h'; clear h'
 have hc5 := c_spec_reader_pick (lor_0 := lor_0) (br_0 := br_0) (or_0 := or_0) (prer_0 := prer_0) (sufr_0 := sufr_0) (ar_0_0 := ar_0_0) (cr_0_0 := cr_0_0) hx4
 refine st_call (cx_call hc5 (ent_f hc5.fn rfl) hn0 (show Hp S0 σ0 _ ([Ch.bx lor_0 br_0 or_0 [(Sl ar_0_0 r_0.1 cr_0_0), (I r_0.2)] prer_0 sufr_0, Ch.ro 0 (Sl ar_0_0 r_0.1 cr_0_0) r_0.1] ++ [Ch.bx n0 b1 0 [(I 0), (.slice none 0 0), (I 0)] [] [], Ch.ro 0 (Sl ar_0_0 r_0.1 cr_0_0) r_0.1]) from (H.sel' [1, 2, 0, 2] rfl rfl))) wn ?_
 rintro _ σ8 ⟨_, ⟨a6, c7, rfl, rfl⟩, H, -⟩
 replace H : Hp S0 σ0 σ8 [Ch.bx lor_0 br_0 or_0 [(Sl a6 r3.2.1 c7), (I r3.2.2)] prer_0 sufr_0, Ch.ro 0 (Sl a6 r3.2.1 c7) r3.2.1, Ch.bx n0 b1 0 [(I 0), (.slice none 0 0), (I 0)] [] [], Ch.ro 0 (Sl ar_0_0 r_0.1 cr_0_0) r_0.1] := H
 refine st (v := (I (w64 (1 + r3.1)))) (rv_add (a := 1) (b := r3.1) rfl rfl) ?_
 refine st (v := (pt br_0 or_0)) (rv_move rfl) ?_
 obtain ⟨r9, hx10, h'⟩ := bind_some h
 clear h
 have h := h'; clear h'
 have hc11 := c_spec_someVector (lor_0 := lor_0) (br_0 := br_0) (or_0 := or_0) (prer_0 := prer_0) (sufr_0 := sufr_0) (ar_0_0 := a6) (cr_0_0 := c7) hx10
 refine st_call (cx_call hc11 (ent_f hc11.fn rfl) hn0 (show Hp S0 σ0 _ ([Ch.bx lor_0 br_0 or_0 [(Sl a6 r3.2.1 c7), (I r3.2.2)] prer_0 sufr_0, Ch.ro 0 (Sl a6 r3.2.1 c7) r3.2.1] ++ [Ch.ro 0 (Sl a6 r3.2.1 c7) r3.2.1, Ch.bx n0 b1 0 [(I 0), (.slice none 0 0), (I 0)] [] [], Ch.ro 0 (Sl ar_0_0 r_0.1 cr_0_0) r_0.1]) from (H.sel' [0, 1, 1, 2, 3] rfl rfl))) wn ?_
 rintro _ σ16 ⟨_, ⟨a12, c13, a14, c15, rfl, rfl⟩, H, -⟩
 replace H : Hp S0 σ0 σ16 [Ch.own n0 n0 (Sl a12 r9.1 c13) r9.1, Ch.bx lor_0 br_0 or_0 [(Sl a14 r9.2.1 c15), (I r9.2.2)] prer_0 sufr_0, Ch.ro 0 (Sl a14 r9.2.1 c15) r9.2.1, Ch.ro 0 (Sl a6 r3.2.1 c7) r3.2.1, Ch.bx n0 b1 0 [(I 0), (.slice none 0 0), (I 0)] [] [], Ch.ro 0 (Sl ar_0_0 r_0.1 cr_0_0) r_0.1] := H
 refine st (v := (pt br_0 or_0)) (rv_move rfl) ?_
 obtain ⟨r17, hx18, h'⟩ := bind_some h
 clear h
 have h := h'; clear h'
 have hc19 := c_spec_reader_pick (lor_0 := lor_0) (br_0 := br_0) (or_0 := or_0) (prer_0 := prer_0) (sufr_0 := sufr_0) (ar_0_0 := a14) (cr_0_0 := c15) hx18
 refine st_call (cx_call hc19 (ent_f hc19.fn rfl) hn0 (show Hp S0 σ0 _ ([Ch.bx lor_0 br_0 or_0 [(Sl a14 r9.2.1 c15), (I r9.2.2)] prer_0 sufr_0, Ch.ro 0 (Sl a14 r9.2.1 c15) r9.2.1] ++ [Ch.own n0 n0 (Sl a12 r9.1 c13) r9.1, Ch.ro 0 (Sl a14 r9.2.1 c15) r9.2.1, Ch.ro 0 (Sl a6 r3.2.1 c7) r3.2.1, Ch.bx n0 b1 0 [(I 0), (.slice none 0 0), (I 0)] [] [], Ch.ro 0 (Sl ar_0_0 r_0.1 cr_0_0) r_0.1]) from (H.sel' [1, 2, 0, 2, 3, 4, 5] rfl rfl))) wn ?_
 rintro _ σ22 ⟨_, ⟨a20, c21, rfl, rfl⟩, H, -⟩
 replace H : Hp S0 σ0 σ22 [Ch.bx lor_0 br_0 or_0 [(Sl a20 r17.2.1 c21), (I r17.2.2)] prer_0 sufr_0, Ch.ro 0 (Sl a20 r17.2.1 c21) r17.2.1, Ch.own n0 n0 (Sl a12 r9.1 c13) r9.1, Ch.ro 0 (Sl a14 r9.2.1 c15) r9.2.1, Ch.ro 0 (Sl a6 r3.2.1 c7) r3.2.1, Ch.bx n0 b1 0 [(I 0), (.slice none 0 0), (I 0)] [] [], Ch.ro 0 (Sl ar_0_0 r_0.1 cr_0_0) r_0.1] := H
 refine st (v := (.agg #[(I (w64 (1 + r3.1))), (Sl a12 r9.1 c13), (I r17.1)])) (rv_build (ps := [(0, (I (w64 (1 + r3.1)))), (1, (Sl a12 r9.1 c13)), (2, (I r17.1))]) Try.underlying73 ti73 (bp73 Try.underlying73) rfl (by kernel_rfl)) ?_
 refine st_exS (ex_store_box (k := 0) (cs := [(I 0), (.slice none 0 0), (I 0)]) (vs := [(I (w64 (1 + r3.1))), (Sl a12 r9.1 c13), (I r17.1)]) (cs' := [(I (w64 (1 + r3.1))), (Sl a12 r9.1 c13), (I r17.1)]) H (i := 5) rfl ti73 rfl rfl rfl rfl rfl (Nat.le_of_ble_eq_true rfl) (by simp [plain]) rfl) wn ?_
 rintro σ23 ⟨H, -⟩
 refine w_end ?_
 refine q_then ?_
 refine c_ret ?_
 obtain rfl := Option.some.inj h
 exact fin_ret (v := (.agg #[(I (w64 (1 + r3.1))), (Sl a12 r9.1 c13), (I r17.1)])) (results_ok Try.results89 (res_cell rfl (run_cellRes (cs := [(I (w64 (1 + r3.1))), (Sl a12 r9.1 c13), (I r17.1)]) Try.underlying73 rfl ti73 rfl (H.cells 0 rfl)) res_nil) rfl) ⟨a12, c13, a20, c21, rfl, rfl⟩ (H.sel' [3, 1, 2] rfl rfl)

theorem c_spec_someStore {r_0 : (List UInt8) × Int} {ar_0_0 : Option Addr} {cr_0_0 : Nat} {lor_0 br_0 or_0 : Nat} {prer_0 sufr_0 : List Value} {r : (List (Int × (List Int) × Int)) × ((List UInt8) × Int)} (h : M.spec_someStore r_0 = some r) :
    Cal2 Try.prog 64 [(pt br_0 or_0)] [Ch.bx lor_0 br_0 or_0 [(Sl ar_0_0 r_0.1 cr_0_0), (I r_0.2)] prer_0 sufr_0, Ch.ro 0 (Sl ar_0_0 r_0.1 cr_0_0) r_0.1] (fun n0 v L => ∃ (az1 : Option Addr), ∃ (cz2 : Nat), ∃ (az3 : Option Addr), ∃ (cz4 : Nat), v = (Sl az1 r.1 cz2) ∧ L = [Ch.own n0 n0 (Sl az1 r.1 cz2) r.1, Ch.bx lor_0 br_0 or_0 [(Sl az3 r.2.1 cz4), (I r.2.2)] prer_0 sufr_0, Ch.ro 0 (Sl az3 r.2.1 cz4) r.2.1]) := by
 refine cal2 (n := 25) Try.func64 rfl rfl rfl rfl ?_
 intro S0 σ0 n0 hn0 H
 unfold M.spec_someStore at h
 refine c_seq ?_
 refine rg ?_
 refine st (v := (.slice none 0 0)) (rv_assign rfl) ?_
 refine w_end ?_
 refine q_then ?_
 refine c_seq ?_
 refine rg ?_
 refine st_ex (ex_buildSlice (el := n0) (xs := ([] : List (Int × (List Int) × Int))) (ps := []) (cs := []) H hn0 Try.underlying44 ti73 rfl rfl (by kernel_rfl) (.nil) rfl) wn ?_
 rintro _ σ2 ⟨b1, rfl, H, -⟩
 refine st (v := (Sl (some ⟨b1, 0, none⟩) ([] : List (Int × (List Int) × Int)) 0)) (rv_assign rfl) ?_
 refine w_end ?_
 refine q_then ?_
 refine c_seq ?_
 refine c_seq ?_
 refine rg ?_
 refine st (v := (pt br_0 or_0)) (rv_move rfl) ?_
 refine st_ex (ex_buildSlice (el := n0) (xs := ([4, 6, 8, 3, 1, 0, 20, 12] : List Int)) (ps := [(0, (I 4)), (1, (I 6)), (2, (I 8)), (3, (I 3)), (4, (I 1)), (5, (I 0)), (6, (I 20)), (7, (I 12))]) (cs := [(I 4), (I 6), (I 8), (I 3), (I 1), (I 0), (I 20), (I 12)]) H hn0 Try.underlying26 ti3 rfl rfl (by kernel_rfl) (.cons (c := [(I 4)]) rfl (.cons (c := [(I 6)]) rfl (.cons (c := [(I 8)]) rfl (.cons (c := [(I 3)]) rfl (.cons (c := [(I 1)]) rfl (.cons (c := [(I 0)]) rfl (.cons (c := [(I 20)]) rfl (.cons (c := [(I 12)]) rfl (.nil))))))))) rfl) wn ?_
 rintro _ σ4 ⟨b3, rfl, H, -⟩
 obtain ⟨σ5, hw6, H, -⟩ := H.pub 0 rfl (Nat.le_refl _)
 rw [← hw6]; clear hw6
 replace H := H.roLow 0 0 rfl (Nat.zero_le _)
 obtain ⟨r7, hx8, h'⟩ := bind_some h
 clear h
 have h := h'; clear h'
 have hc9 := c_spec_reader_one (lor_0 := lor_0) (br_0 := br_0) (or_0 := or_0) (prer_0 := prer_0) (sufr_0 := sufr_0) (ar_0_0 := ar_0_0) (cr_0_0 := cr_0_0) (alist_1 := (some ⟨b3, 0, none⟩)) (clist_1 := 8) hx8
 refine st_call (cx_call hc9 (ent_f hc9.fn rfl) hn0 (show Hp S0 σ0 _ ([Ch.bx lor_0 br_0 or_0 [(Sl ar_0_0 r_0.1 cr_0_0), (I r_0.2)] prer_0 sufr_0, Ch.ro 0 (Sl ar_0_0 r_0.1 cr_0_0) r_0.1, Ch.ro 0 (Sl (some ⟨b3, 0, none⟩) ([4, 6, 8, 3, 1, 0, 20, 12] : List Int) 8) ([4, 6, 8, 3, 1, 0, 20, 12] : List Int)] ++ [Ch.ro 0 (Sl (some ⟨b3, 0, none⟩) ([4, 6, 8, 3, 1, 0, 20, 12] : List Int) 8) ([4, 6, 8, 3, 1, 0, 20, 12] : List Int), Ch.ro n0 (Sl (some ⟨b3, 0, none⟩) ([4, 6, 8, 3, 1, 0, 20, 12] : List Int) 8) ([4, 6, 8, 3, 1, 0, 20, 12] : List Int), Ch.own n0 n0 (Sl (some ⟨b1, 0, none⟩) ([] : List (Int × (List Int) × Int)) 0) ([] : List (Int × (List Int) × Int)), Ch.ro 0 (Sl ar_0_0 r_0.1 cr_0_0) r_0.1]) from (H.sel' [3, 4, 0, 0, 1, 2, 4] rfl rfl))) wn ?_
 rintro _ σ12 ⟨_, ⟨a10, c11, rfl, rfl⟩, H, -⟩
 replace H : Hp S0 σ0 σ12 [Ch.bx lor_0 br_0 or_0 [(Sl a10 r7.2.1 c11), (I r7.2.2)] prer_0 sufr_0, Ch.ro 0 (Sl a10 r7.2.1 c11) r7.2.1, Ch.ro 0 (Sl (some ⟨b3, 0, none⟩) ([4, 6, 8, 3, 1, 0, 20, 12] : List Int) 8) ([4, 6, 8, 3, 1, 0, 20, 12] : List Int), Ch.ro n0 (Sl (some ⟨b3, 0, none⟩) ([4, 6, 8, 3, 1, 0, 20, 12] : List Int) 8) ([4, 6, 8, 3, 1, 0, 20, 12] : List Int), Ch.own n0 n0 (Sl (some ⟨b1, 0, none⟩) ([] : List (Int × (List Int) × Int)) 0) ([] : List (Int × (List Int) × Int)), Ch.ro 0 (Sl ar_0_0 r_0.1 cr_0_0) r_0.1] := H
 refine st (v := (I r7.1)) (rv_assign rfl) ?_
 refine w_end ?_
 refine q_then ?_
 obtain ⟨o13, hj, h'⟩ := bind_some h
 clear h
 refine c_cut (fun e a w => e = .normal ∧ ∃ (ρ : Nat → Value) (σ : St) (aj1 : Option Addr) (cj2 : Nat) (aj3 : Option Addr) (cj4 : Nat), a = fr 25 (updL ρ [(0, (pt br_0 or_0)), (3, (Sl aj3 o13.2 cj4))]) ∧ w = σ.w ∧ Hp S0 σ0 σ [Ch.bx lor_0 br_0 or_0 [(Sl aj1 o13.1.1 cj2), (I o13.1.2)] prer_0 sufr_0, Ch.ro 0 (Sl aj1 o13.1.1 cj2) o13.1.1, Ch.own n0 n0 (Sl aj3 o13.2 cj4) o13.2]) ?_ ?_
 ·clear h'
  rename _ = some o13 => h
  refine c_blk ?_
  refine wp_loopM _ h (fun s14 a w => ∃ (ρ : Nat → Value) (σ : St) (aj1 : Option Addr) (cj2 : Nat) (aj3 : Option Addr) (cj4 : Nat), a = fr 25 (updL ρ [(0, (pt br_0 or_0)), (3, (Sl aj3 s14.2.1 cj4)), (4, (I s14.2.2))]) ∧ w = σ.w ∧ Hp S0 σ0 σ [Ch.bx lor_0 br_0 or_0 [(Sl aj1 s14.1.1 cj2), (I s14.1.2)] prer_0 sufr_0, Ch.ro 0 (Sl aj1 s14.1.1 cj2) s14.1.1, Ch.own n0 n0 (Sl aj3 s14.2.1 cj4) s14.2.1]) ⟨_, σ12, a10, c11, (some ⟨b1, 0, none⟩), 0, fr_join ⟨rfl, rfl, rfl, trivial⟩, rfl, H.sel' [0, 1, 4] rfl rfl⟩ ?_
  clear h H
  rintro s14 a w o ⟨ρ, σ15, a16, c17, a18, c19, rfl, rfl, H⟩ h hres
  refine c_seq ?_
  refine c_seq ?_
  refine rg ?_
  refine st (v := (I s14.2.2)) (rv_move rfl) ?_
  refine st (v := (B (decide (0 < s14.2.2)))) (rv_gtr (a := s14.2.2) (b := 0) rfl rfl) ?_
  refine w_end ?_
  refine q_then ?_
  refine cd_cond (decide (0 < s14.2.2)) rfl (fun hb20 => ?_) (fun hb20 => ?_)
  ·replace h := bif_t hb20 h
   refine c_skip ?_
   refine q_then ?_
   refine c_seq ?_
   obtain ⟨o21, hj, h'⟩ := bind_some h
   clear h
   refine c_cut (fun e a w => e = .normal ∧ ∃ (ρ : Nat → Value) (σ : St) (aj1 : Option Addr) (cj2 : Nat) (aj3 : Option Addr) (cj4 : Nat), a = fr 25 (updL ρ [(0, (pt br_0 or_0)), (3, (Sl aj3 o21.2 cj4)), (4, (I s14.2.2))]) ∧ w = σ.w ∧ Hp S0 σ0 σ [Ch.bx lor_0 br_0 or_0 [(Sl aj1 o21.1.1 cj2), (I o21.1.2)] prer_0 sufr_0, Ch.ro 0 (Sl aj1 o21.1.1 cj2) o21.1.1, Ch.own n0 n0 (Sl aj3 o21.2 cj4) o21.2]) ?_ ?_
   ·clear h'
    rename _ = some o21 => h
    refine c_blk ?_
    refine c_seq ?_
    refine rg ?_
    refine st (v := (Sl a18 s14.2.1 c19)) (rv_move rfl) ?_
    refine st (v := (pt br_0 or_0)) (rv_move rfl) ?_
    obtain ⟨r22, hx23, h'⟩ := bind_some h
    clear h
    have h := h'; clear h'
    have hc24 := c_spec_someItem (lor_0 := lor_0) (br_0 := br_0) (or_0 := or_0) (prer_0 := prer_0) (sufr_0 := sufr_0) (ar_0_0 := a16) (cr_0_0 := c17) hx23
    refine st_call (cx_call hc24 (ent_f hc24.fn rfl) hn0 (show Hp S0 σ0 _ ([Ch.bx lor_0 br_0 or_0 [(Sl a16 s14.1.1 c17), (I s14.1.2)] prer_0 sufr_0, Ch.ro 0 (Sl a16 s14.1.1 c17) s14.1.1] ++ [Ch.ro 0 (Sl a16 s14.1.1 c17) s14.1.1, Ch.own n0 n0 (Sl a18 s14.2.1 c19) s14.2.1]) from (H.sel' [0, 1, 1, 2] rfl rfl))) wn ?_
    rintro _ σ29 ⟨_, ⟨a25, c26, a27, c28, rfl, rfl⟩, H, -⟩
    replace H : Hp S0 σ0 σ29 [Ch.own n0 n0 (Sl a25 r22.1.2.1 c26) r22.1.2.1, Ch.bx lor_0 br_0 or_0 [(Sl a27 r22.2.1 c28), (I r22.2.2)] prer_0 sufr_0, Ch.ro 0 (Sl a27 r22.2.1 c28) r22.2.1, Ch.ro 0 (Sl a16 s14.1.1 c17) s14.1.1, Ch.own n0 n0 (Sl a18 s14.2.1 c19) s14.2.1] := H
    obtain ⟨σ30, hw31, H, -⟩ := H.pub 0 rfl (Nat.le_refl _)
    rw [← hw31]; clear hw31
    replace H := H.roLow 0 0 rfl (Nat.zero_le _)
    obtain ⟨r32, hx33, h'⟩ := bind_some h
    clear h
    have h := h'; clear h'
    have hc34 := c_spec_PutItem (alist_0 := a18) (clist_0 := c19) (ax_1_1 := a25) (cx_1_1 := c26) hx33
    have hle := Nat.le_trans hn0 H.size
    refine st_call (cx_lend (Loan.lend (Loan.same Loan.nil)) hc34 (ent_f hc34.fn rfl) (show Hp S0 σ0 _ ([Ch.own n0 n0 (Sl a18 s14.2.1 c19) s14.2.1] ++ ([Ch.ro 0 (Sl a25 r22.1.2.1 c26) r22.1.2.1] ++ [Ch.ro 0 (Sl a25 r22.1.2.1 c26) r22.1.2.1, Ch.ro n0 (Sl a25 r22.1.2.1 c26) r22.1.2.1, Ch.bx lor_0 br_0 or_0 [(Sl a27 r22.2.1 c28), (I r22.2.2)] prer_0 sufr_0, Ch.ro 0 (Sl a27 r22.2.1 c28) r22.2.1, Ch.ro 0 (Sl a16 s14.1.1 c17) s14.1.1])) from (H.sel' [5, 0, 0, 1, 2, 3, 4] rfl rfl)) (by rintro _ _ _ ⟨_, _, rfl, rfl⟩; exact ⟨Ab.own (Nat.le_refl _), trivial⟩)) wn ?_
    rintro _ σ37 ⟨_, ⟨a35, c36, rfl, rfl⟩, H, -, -⟩
    replace H : Hp S0 σ0 σ37 [Ch.own σ30.size σ30.size (Sl a35 r32.1 c36) r32.1, Ch.own n0 n0 (Sl a18 s14.2.1 c19) s14.2.1, Ch.ro 0 (Sl a25 r22.1.2.1 c26) r22.1.2.1, Ch.ro n0 (Sl a25 r22.1.2.1 c26) r22.1.2.1, Ch.bx lor_0 br_0 or_0 [(Sl a27 r22.2.1 c28), (I r22.2.2)] prer_0 sufr_0, Ch.ro 0 (Sl a27 r22.2.1 c28) r22.2.1, Ch.ro 0 (Sl a16 s14.1.1 c17) s14.1.1] := H
    replace H := H.ownLow 0 n0 n0 rfl hle hle
    clear hle
    replace H : Hp S0 σ0 σ37 [Ch.own n0 n0 (Sl a35 r32.1 c36) r32.1, Ch.own n0 n0 (Sl a18 s14.2.1 c19) s14.2.1, Ch.ro 0 (Sl a25 r22.1.2.1 c26) r22.1.2.1, Ch.ro n0 (Sl a25 r22.1.2.1 c26) r22.1.2.1, Ch.bx lor_0 br_0 or_0 [(Sl a27 r22.2.1 c28), (I r22.2.2)] prer_0 sufr_0, Ch.ro 0 (Sl a27 r22.2.1 c28) r22.2.1, Ch.ro 0 (Sl a16 s14.1.1 c17) s14.1.1] := H
    refine st (v := (.tuple #[(Sl a35 r32.1 c36), (B r32.2)])) (rv_move rfl) ?_
    refine st (v := (Sl a35 r32.1 c36)) (rv_extract rfl rfl) ?_
    refine st (v := (B r32.2)) (rv_extract rfl rfl) ?_
    refine st (v := (Sl a35 r32.1 c36)) (rv_assign rfl) ?_
    refine st (v := (B r32.2)) (rv_assign rfl) ?_
    refine w_end ?_
    refine q_then ?_
    refine c_seq ?_
    refine rg ?_
    refine st (v := (B r32.2)) (rv_move rfl) ?_
    refine w_end ?_
    refine q_then ?_
    refine cd_cond r32.2 rfl (fun hb38 => ?_) (fun hb38 => ?_)
    ·replace h := bif_t hb38 h
     refine rg ?_
     refine st (v := (Sl a35 r32.1 c36)) (rv_move rfl) ?_
     refine st (v := (Sl a35 r32.1 c36)) (rv_assign rfl) ?_
     refine w_end ?_
     refine q_blk ?_
     obtain rfl := Option.some.inj h
     exact ⟨rfl, _, σ37, a27, c28, a35, c36, fr_join ⟨rfl, rfl, rfl, trivial⟩, rfl, H.sel' [4, 5, 0] rfl rfl⟩
    ·replace h := bif_f hb38 h
     refine c_skip ?_
     refine q_blk ?_
     obtain rfl := Option.some.inj h
     exact ⟨rfl, _, σ37, a27, c28, a18, c19, fr_join ⟨rfl, rfl, rfl, trivial⟩, rfl, H.sel' [4, 5, 1] rfl rfl⟩
   ·clear hj
    have h := h'
    clear h' H
    rintro e a w ⟨rfl, ρ, σ39, a40, c41, a42, c43, rfl, rfl, H⟩
    refine q_then ?_
    refine rg ?_
    refine st (v := (I s14.2.2)) (rv_move rfl) ?_
    refine st (v := (I (w64 (s14.2.2 - 1)))) (rv_sub (a := s14.2.2) (b := 1) rfl rfl) ?_
    refine st (v := (I (w64 (s14.2.2 - 1)))) (rv_assign rfl) ?_
    refine w_end ?_
    refine q_then ?_
    obtain rfl := Option.some.inj h
    exact ⟨_, rfl, _, σ39, a40, c41, a42, c43, fr_join ⟨rfl, rfl, rfl, trivial⟩, rfl, H.sel' [0, 1, 2] rfl rfl⟩
  ·replace h := bif_f hb20 h
   refine c_exit ?_
   refine q_then_x ?_
   refine q_then_x ?_
   refine q_blk_hit ?_
   obtain rfl := Option.some.inj h
   obtain rfl := hres _ rfl
   exact ⟨rfl, _, σ15, a16, c17, a18, c19, fr_join ⟨rfl, rfl, trivial⟩, rfl, H.sel' [0, 1, 2] rfl rfl⟩
 ·clear hj
  have h := h'
  clear h' H
  rintro e a w ⟨rfl, ρ, σ44, a45, c46, a47, c48, rfl, rfl, H⟩
  refine q_then ?_
  refine c_seq ?_
  refine rg ?_
  refine st (v := (Sl a47 o13.2 c48)) (rv_move rfl) ?_
  refine st (v := (Sl a47 o13.2 c48)) (rv_assign rfl) ?_
  refine w_end ?_
  refine q_then ?_
  refine c_ret ?_
  obtain rfl := Option.some.inj h
  exact fin_ret (v := (Sl a47 o13.2 c48)) (results_ok Try.results64 (res_tmp (v := (Sl a47 o13.2 c48)) rfl res_nil) rfl) ⟨a47, c48, a45, c46, rfl, rfl⟩ (H.sel' [2, 0, 1] rfl rfl)

theorem c_spec_anyHits {r_0 : (List UInt8) × Int} {ar_0_0 : Option Addr} {cr_0_0 : Nat} {lor_0 br_0 or_0 : Nat} {prer_0 sufr_0 : List Value} {r : (List (Int × Int)) × ((List UInt8) × Int)} (h : M.spec_anyHits r_0 = some r) :
    Cal2 Try.prog 34 [(pt br_0 or_0)] [Ch.bx lor_0 br_0 or_0 [(Sl ar_0_0 r_0.1 cr_0_0), (I r_0.2)] prer_0 sufr_0, Ch.ro 0 (Sl ar_0_0 r_0.1 cr_0_0) r_0.1] (fun n0 v L => ∃ (az1 : Option Addr), ∃ (cz2 : Nat), ∃ (az3 : Option Addr), ∃ (cz4 : Nat), v = (Sl az1 r.1 cz2) ∧ L = [Ch.own n0 n0 (Sl az1 r.1 cz2) r.1, Ch.bx lor_0 br_0 or_0 [(Sl az3 r.2.1 cz4), (I r.2.2)] prer_0 sufr_0, Ch.ro 0 (Sl az3 r.2.1 cz4) r.2.1]) := by
 refine cal2 (n := 41) Try.func34 rfl rfl rfl rfl ?_
 intro S0 σ0 n0 hn0 H
 unfold M.spec_anyHits at h
 refine c_seq ?_
 refine rg ?_
 refine st (v := (.slice none 0 0)) (rv_assign rfl) ?_
 refine w_end ?_
 refine q_then ?_
 refine c_seq ?_
 refine rg ?_
 refine st (v := (pt br_0 or_0)) (rv_move rfl) ?_
 obtain ⟨r1, hx2, h'⟩ := bind_some h
 clear h
 have h := h'; clear h'
 have hc3 := c_spec_someStore (lor_0 := lor_0) (br_0 := br_0) (or_0 := or_0) (prer_0 := prer_0) (sufr_0 := sufr_0) (ar_0_0 := ar_0_0) (cr_0_0 := cr_0_0) hx2
 refine st_call (cx_call hc3 (ent_f hc3.fn rfl) hn0 (show Hp S0 σ0 _ ([Ch.bx lor_0 br_0 or_0 [(Sl ar_0_0 r_0.1 cr_0_0), (I r_0.2)] prer_0 sufr_0, Ch.ro 0 (Sl ar_0_0 r_0.1 cr_0_0) r_0.1] ++ [Ch.ro 0 (Sl ar_0_0 r_0.1 cr_0_0) r_0.1]) from (H.sel' [0, 1, 1] rfl rfl))) wn ?_
 rintro _ σ8 ⟨_, ⟨a4, c5, a6, c7, rfl, rfl⟩, H, -⟩
 replace H : Hp S0 σ0 σ8 [Ch.own n0 n0 (Sl a4 r1.1 c5) r1.1, Ch.bx lor_0 br_0 or_0 [(Sl a6 r1.2.1 c7), (I r1.2.2)] prer_0 sufr_0, Ch.ro 0 (Sl a6 r1.2.1 c7) r1.2.1, Ch.ro 0 (Sl ar_0_0 r_0.1 cr_0_0) r_0.1] := H
 refine st (v := (pt br_0 or_0)) (rv_move rfl) ?_
 obtain ⟨r9, hx10, h'⟩ := bind_some h
 clear h
 have h := h'; clear h'
 have hc11 := c_spec_reader_pick (lor_0 := lor_0) (br_0 := br_0) (or_0 := or_0) (prer_0 := prer_0) (sufr_0 := sufr_0) (ar_0_0 := a6) (cr_0_0 := c7) hx10
 refine st_call (cx_call hc11 (ent_f hc11.fn rfl) hn0 (show Hp S0 σ0 _ ([Ch.bx lor_0 br_0 or_0 [(Sl a6 r1.2.1 c7), (I r1.2.2)] prer_0 sufr_0, Ch.ro 0 (Sl a6 r1.2.1 c7) r1.2.1] ++ [Ch.own n0 n0 (Sl a4 r1.1 c5) r1.1, Ch.ro 0 (Sl a6 r1.2.1 c7) r1.2.1, Ch.ro 0 (Sl ar_0_0 r_0.1 cr_0_0) r_0.1]) from (H.sel' [1, 2, 0, 2, 3] rfl rfl))) wn ?_
 rintro _ σ14 ⟨_, ⟨a12, c13, rfl, rfl⟩, H, -⟩
 replace H : Hp S0 σ0 σ14 [Ch.bx lor_0 br_0 or_0 [(Sl a12 r9.2.1 c13), (I r9.2.2)] prer_0 sufr_0, Ch.ro 0 (Sl a12 r9.2.1 c13) r9.2.1, Ch.own n0 n0 (Sl a4 r1.1 c5) r1.1, Ch.ro 0 (Sl a6 r1.2.1 c7) r1.2.1, Ch.ro 0 (Sl ar_0_0 r_0.1 cr_0_0) r_0.1] := H
 refine st (v := (I (w64 (1 + r9.1)))) (rv_add (a := 1) (b := r9.1) rfl rfl) ?_
 refine st (v := (pt br_0 or_0)) (rv_move rfl) ?_
 obtain ⟨r15, hx16, h'⟩ := bind_some h
 clear h
 have h := h'; clear h'
 have hc17 := c_spec_someVector (lor_0 := lor_0) (br_0 := br_0) (or_0 := or_0) (prer_0 := prer_0) (sufr_0 := sufr_0) (ar_0_0 := a12) (cr_0_0 := c13) hx16
 refine st_call (cx_call hc17 (ent_f hc17.fn rfl) hn0 (show Hp S0 σ0 _ ([Ch.bx lor_0 br_0 or_0 [(Sl a12 r9.2.1 c13), (I r9.2.2)] prer_0 sufr_0, Ch.ro 0 (Sl a12 r9.2.1 c13) r9.2.1] ++ [Ch.ro 0 (Sl a12 r9.2.1 c13) r9.2.1, Ch.own n0 n0 (Sl a4 r1.1 c5) r1.1, Ch.ro 0 (Sl a6 r1.2.1 c7) r1.2.1, Ch.ro 0 (Sl ar_0_0 r_0.1 cr_0_0) r_0.1]) from (H.sel' [0, 1, 1, 2, 3, 4] rfl rfl))) wn ?_
 rintro _ σ22 ⟨_, ⟨a18, c19, a20, c21, rfl, rfl⟩, H, -⟩
 replace H : Hp S0 σ0 σ22 [Ch.own n0 n0 (Sl a18 r15.1 c19) r15.1, Ch.bx lor_0 br_0 or_0 [(Sl a20 r15.2.1 c21), (I r15.2.2)] prer_0 sufr_0, Ch.ro 0 (Sl a20 r15.2.1 c21) r15.2.1, Ch.ro 0 (Sl a12 r9.2.1 c13) r9.2.1, Ch.own n0 n0 (Sl a4 r1.1 c5) r1.1, Ch.ro 0 (Sl a6 r1.2.1 c7) r1.2.1, Ch.ro 0 (Sl ar_0_0 r_0.1 cr_0_0) r_0.1] := H
 refine st (v := (pt br_0 or_0)) (rv_move rfl) ?_
 refine st_ex (ex_buildSlice (el := n0) (xs := ([3, 5, 16, 1, 8] : List Int)) (ps := [(0, (I 3)), (1, (I 5)), (2, (I 16)), (3, (I 1)), (4, (I 8))]) (cs := [(I 3), (I 5), (I 16), (I 1), (I 8)]) H hn0 Try.underlying26 ti3 rfl rfl (by kernel_rfl) (.cons (c := [(I 3)]) rfl (.cons (c := [(I 5)]) rfl (.cons (c := [(I 16)]) rfl (.cons (c := [(I 1)]) rfl (.cons (c := [(I 8)]) rfl (.nil)))))) rfl) wn ?_
 rintro _ σ24 ⟨b23, rfl, H, -⟩
 replace H : Hp S0 σ0 σ24 [Ch.own n0 n0 (Sl (some ⟨b23, 0, none⟩) ([3, 5, 16, 1, 8] : List Int) 5) ([3, 5, 16, 1, 8] : List Int), Ch.own n0 n0 (Sl a18 r15.1 c19) r15.1, Ch.bx lor_0 br_0 or_0 [(Sl a20 r15.2.1 c21), (I r15.2.2)] prer_0 sufr_0, Ch.ro 0 (Sl a20 r15.2.1 c21) r15.2.1, Ch.own n0 n0 (Sl a4 r1.1 c5) r1.1] := H.sel' [0, 1, 2, 3, 5] rfl rfl
 obtain ⟨σ25, hw26, H, -⟩ := H.pub 0 rfl (Nat.le_refl _)
 rw [← hw26]; clear hw26
 replace H := H.roLow 0 0 rfl (Nat.zero_le _)
 obtain ⟨r27, hx28, h'⟩ := bind_some h
 clear h
 have h := h'; clear h'
 have hc29 := c_spec_reader_one (lor_0 := lor_0) (br_0 := br_0) (or_0 := or_0) (prer_0 := prer_0) (sufr_0 := sufr_0) (ar_0_0 := a20) (cr_0_0 := c21) (alist_1 := (some ⟨b23, 0, none⟩)) (clist_1 := 5) hx28
 refine st_call (cx_call hc29 (ent_f hc29.fn rfl) hn0 (show Hp S0 σ0 _ ([Ch.bx lor_0 br_0 or_0 [(Sl a20 r15.2.1 c21), (I r15.2.2)] prer_0 sufr_0, Ch.ro 0 (Sl a20 r15.2.1 c21) r15.2.1, Ch.ro 0 (Sl (some ⟨b23, 0, none⟩) ([3, 5, 16, 1, 8] : List Int) 5) ([3, 5, 16, 1, 8] : List Int)] ++ [Ch.ro 0 (Sl (some ⟨b23, 0, none⟩) ([3, 5, 16, 1, 8] : List Int) 5) ([3, 5, 16, 1, 8] : List Int), Ch.ro n0 (Sl (some ⟨b23, 0, none⟩) ([3, 5, 16, 1, 8] : List Int) 5) ([3, 5, 16, 1, 8] : List Int), Ch.own n0 n0 (Sl a18 r15.1 c19) r15.1, Ch.ro 0 (Sl a20 r15.2.1 c21) r15.2.1, Ch.own n0 n0 (Sl a4 r1.1 c5) r1.1]) from (H.sel' [3, 4, 0, 0, 1, 2, 4, 5] rfl rfl))) wn ?_
 rintro _ σ32 ⟨_, ⟨a30, c31, rfl, rfl⟩, H, -⟩
 replace H : Hp S0 σ0 σ32 [Ch.bx lor_0 br_0 or_0 [(Sl a30 r27.2.1 c31), (I r27.2.2)] prer_0 sufr_0, Ch.ro 0 (Sl a30 r27.2.1 c31) r27.2.1, Ch.ro 0 (Sl (some ⟨b23, 0, none⟩) ([3, 5, 16, 1, 8] : List Int) 5) ([3, 5, 16, 1, 8] : List Int), Ch.ro n0 (Sl (some ⟨b23, 0, none⟩) ([3, 5, 16, 1, 8] : List Int) 5) ([3, 5, 16, 1, 8] : List Int), Ch.own n0 n0 (Sl a18 r15.1 c19) r15.1, Ch.ro 0 (Sl a20 r15.2.1 c21) r15.2.1, Ch.own n0 n0 (Sl a4 r1.1 c5) r1.1] := H
 obtain ⟨σ33, hw34, H, -⟩ := H.pub 6 rfl (Nat.le_refl _)
 rw [← hw34]; clear hw34
 obtain ⟨σ35, hw36, H, -⟩ := H.pub 5 rfl (Nat.le_refl _)
 rw [← hw36]; clear hw36
 replace H := H.roLow 1 0 rfl (Nat.zero_le _)
 replace H := H.roLow 1 0 rfl (Nat.zero_le _)
 obtain ⟨r37, hx38, h'⟩ := bind_some h
 clear h
 have h := h'; clear h'
 have hc39 := c_spec_nearest (alist_0 := a4) (clist_0 := c5) (aat_2 := a18) (cat_2 := c19) hx38
 refine st_call (cx_call hc39 (ent_f hc39.fn rfl) hn0 (show Hp S0 σ0 _ ([Ch.ro 0 (Sl a4 r1.1 c5) r1.1, Ch.ro 0 (Sl a18 r15.1 c19) r15.1] ++ [Ch.ro 0 (Sl a18 r15.1 c19) r15.1, Ch.ro 0 (Sl a4 r1.1 c5) r1.1, Ch.ro n0 (Sl a18 r15.1 c19) r15.1, Ch.ro n0 (Sl a4 r1.1 c5) r1.1, Ch.bx lor_0 br_0 or_0 [(Sl a30 r27.2.1 c31), (I r27.2.2)] prer_0 sufr_0, Ch.ro 0 (Sl a30 r27.2.1 c31) r27.2.1, Ch.ro 0 (Sl (some ⟨b23, 0, none⟩) ([3, 5, 16, 1, 8] : List Int) 5) ([3, 5, 16, 1, 8] : List Int), Ch.ro n0 (Sl (some ⟨b23, 0, none⟩) ([3, 5, 16, 1, 8] : List Int) 5) ([3, 5, 16, 1, 8] : List Int), Ch.ro 0 (Sl a20 r15.2.1 c21) r15.2.1]) from (H.sel' [1, 0, 0, 1, 2, 3, 4, 5, 6, 7, 8] rfl rfl))) wn ?_
 rintro _ σ42 ⟨_, ⟨a40, c41, rfl, rfl⟩, H, -⟩
 replace H : Hp S0 σ0 σ42 [Ch.own n0 n0 (Sl a40 r37 c41) r37, Ch.ro 0 (Sl a18 r15.1 c19) r15.1, Ch.ro 0 (Sl a4 r1.1 c5) r1.1, Ch.ro n0 (Sl a18 r15.1 c19) r15.1, Ch.ro n0 (Sl a4 r1.1 c5) r1.1, Ch.bx lor_0 br_0 or_0 [(Sl a30 r27.2.1 c31), (I r27.2.2)] prer_0 sufr_0, Ch.ro 0 (Sl a30 r27.2.1 c31) r27.2.1, Ch.ro 0 (Sl (some ⟨b23, 0, none⟩) ([3, 5, 16, 1, 8] : List Int) 5) ([3, 5, 16, 1, 8] : List Int), Ch.ro n0 (Sl (some ⟨b23, 0, none⟩) ([3, 5, 16, 1, 8] : List Int) 5) ([3, 5, 16, 1, 8] : List Int), Ch.ro 0 (Sl a20 r15.2.1 c21) r15.2.1] := H
 replace H : Hp S0 σ0 σ42 [Ch.own n0 n0 (Sl a40 r37 c41) r37, Ch.bx lor_0 br_0 or_0 [(Sl a30 r27.2.1 c31), (I r27.2.2)] prer_0 sufr_0, Ch.ro 0 (Sl a30 r27.2.1 c31) r27.2.1] := H.sel' [0, 5, 6] rfl rfl
 refine st (v := (Sl a40 r37 c41)) (rv_assign rfl) ?_
 refine w_end ?_
 refine q_then ?_
 refine c_seq ?_
 refine c_seq ?_
 refine rg ?_
 refine st (v := (pt br_0 or_0)) (rv_move rfl) ?_
 obtain ⟨r43, hx44, h'⟩ := bind_some h
 clear h
 have h := h'; clear h'
 have hc45 := c_spec_reader_pick (lor_0 := lor_0) (br_0 := br_0) (or_0 := or_0) (prer_0 := prer_0) (sufr_0 := sufr_0) (ar_0_0 := a30) (cr_0_0 := c31) hx44
 refine st_call (cx_call hc45 (ent_f hc45.fn rfl) hn0 (show Hp S0 σ0 _ ([Ch.bx lor_0 br_0 or_0 [(Sl a30 r27.2.1 c31), (I r27.2.2)] prer_0 sufr_0, Ch.ro 0 (Sl a30 r27.2.1 c31) r27.2.1] ++ [Ch.own n0 n0 (Sl a40 r37 c41) r37, Ch.ro 0 (Sl a30 r27.2.1 c31) r27.2.1]) from (H.sel' [1, 2, 0, 2] rfl rfl))) wn ?_
 rintro _ σ48 ⟨_, ⟨a46, c47, rfl, rfl⟩, H, -⟩
 replace H : Hp S0 σ0 σ48 [Ch.bx lor_0 br_0 or_0 [(Sl a46 r43.2.1 c47), (I r43.2.2)] prer_0 sufr_0, Ch.ro 0 (Sl a46 r43.2.1 c47) r43.2.1, Ch.own n0 n0 (Sl a40 r37 c41) r37, Ch.ro 0 (Sl a30 r27.2.1 c31) r27.2.1] := H
 refine w_end ?_
 refine q_then ?_
 obtain ⟨o49, hj, h'⟩ := bind_some h
 clear h
 refine c_cut (fun e a w => e = .normal ∧ ∃ (ρ : Nat → Value) (σ : St) (aj1 : Option Addr) (cj2 : Nat) (aj3 : Option Addr) (cj4 : Nat), a = fr 41 (updL ρ [(0, (pt br_0 or_0)), (3, (Sl aj3 o49.2 cj4))]) ∧ w = σ.w ∧ Hp S0 σ0 σ [Ch.bx lor_0 br_0 or_0 [(Sl aj1 o49.1.1 cj2), (I o49.1.2)] prer_0 sufr_0, Ch.ro 0 (Sl aj1 o49.1.1 cj2) o49.1.1, Ch.own n0 n0 (Sl aj3 o49.2 cj4) o49.2]) ?_ ?_
 ·clear h'
  rename _ = some o49 => h
  refine c_blk ?_
  refine c_seq ?_
  refine rg ?_
  refine st (v := (B (r43.1 == 0))) (rv_eql (a := r43.1) (b := 0) rfl rfl) ?_
  refine st (v := (B (r43.1 == 0))) (rv_assign rfl) ?_
  refine w_end ?_
  refine q_then ?_
  refine cd_cond (r43.1 == 0) rfl (fun hb50 => ?_) (fun hb50 => ?_)
  ·replace h := bif_t hb50 h
   refine rg ?_
   refine st (v := (Sl a40 r37 c41)) (rv_move rfl) ?_
   refine st (v := (pt br_0 or_0)) (rv_move rfl) ?_
   refine st_ex (ex_buildSlice (el := n0) (xs := ([0, 5, 100] : List Int)) (ps := [(0, (I 0)), (1, (I 5)), (2, (I 100))]) (cs := [(I 0), (I 5), (I 100)]) H hn0 Try.underlying26 ti3 rfl rfl (by kernel_rfl) (.cons (c := [(I 0)]) rfl (.cons (c := [(I 5)]) rfl (.cons (c := [(I 100)]) rfl (.nil)))) rfl) wn ?_
   rintro _ σ52 ⟨b51, rfl, H, -⟩
   obtain ⟨σ53, hw54, H, -⟩ := H.pub 0 rfl (Nat.le_refl _)
   rw [← hw54]; clear hw54
   replace H := H.roLow 0 0 rfl (Nat.zero_le _)
   obtain ⟨r55, hx56, h'⟩ := bind_some h
   clear h
   have h := h'; clear h'
   have hc57 := c_spec_reader_one (lor_0 := lor_0) (br_0 := br_0) (or_0 := or_0) (prer_0 := prer_0) (sufr_0 := sufr_0) (ar_0_0 := a46) (cr_0_0 := c47) (alist_1 := (some ⟨b51, 0, none⟩)) (clist_1 := 3) hx56
   refine st_call (cx_call hc57 (ent_f hc57.fn rfl) hn0 (show Hp S0 σ0 _ ([Ch.bx lor_0 br_0 or_0 [(Sl a46 r43.2.1 c47), (I r43.2.2)] prer_0 sufr_0, Ch.ro 0 (Sl a46 r43.2.1 c47) r43.2.1, Ch.ro 0 (Sl (some ⟨b51, 0, none⟩) ([0, 5, 100] : List Int) 3) ([0, 5, 100] : List Int)] ++ [Ch.ro 0 (Sl (some ⟨b51, 0, none⟩) ([0, 5, 100] : List Int) 3) ([0, 5, 100] : List Int), Ch.ro n0 (Sl (some ⟨b51, 0, none⟩) ([0, 5, 100] : List Int) 3) ([0, 5, 100] : List Int), Ch.ro 0 (Sl a46 r43.2.1 c47) r43.2.1, Ch.own n0 n0 (Sl a40 r37 c41) r37, Ch.ro 0 (Sl a30 r27.2.1 c31) r27.2.1]) from (H.sel' [2, 3, 0, 0, 1, 3, 4, 5] rfl rfl))) wn ?_
   rintro _ σ60 ⟨_, ⟨a58, c59, rfl, rfl⟩, H, -⟩
   replace H : Hp S0 σ0 σ60 [Ch.bx lor_0 br_0 or_0 [(Sl a58 r55.2.1 c59), (I r55.2.2)] prer_0 sufr_0, Ch.ro 0 (Sl a58 r55.2.1 c59) r55.2.1, Ch.ro 0 (Sl (some ⟨b51, 0, none⟩) ([0, 5, 100] : List Int) 3) ([0, 5, 100] : List Int), Ch.ro n0 (Sl (some ⟨b51, 0, none⟩) ([0, 5, 100] : List Int) 3) ([0, 5, 100] : List Int), Ch.ro 0 (Sl a46 r43.2.1 c47) r43.2.1, Ch.own n0 n0 (Sl a40 r37 c41) r37, Ch.ro 0 (Sl a30 r27.2.1 c31) r27.2.1] := H
   refine st (v := (pt br_0 or_0)) (rv_move rfl) ?_
   refine st_ex (ex_buildSlice (el := n0) (xs := ([0, 1000000, 1000001] : List Int)) (ps := [(0, (I 0)), (1, (I 1000000)), (2, (I 1000001))]) (cs := [(I 0), (I 1000000), (I 1000001)]) H hn0 Try.underlying26 ti3 rfl rfl (by kernel_rfl) (.cons (c := [(I 0)]) rfl (.cons (c := [(I 1000000)]) rfl (.cons (c := [(I 1000001)]) rfl (.nil)))) rfl) wn ?_
   rintro _ σ62 ⟨b61, rfl, H, -⟩
   replace H : Hp S0 σ0 σ62 [Ch.own n0 n0 (Sl (some ⟨b61, 0, none⟩) ([0, 1000000, 1000001] : List Int) 3) ([0, 1000000, 1000001] : List Int), Ch.bx lor_0 br_0 or_0 [(Sl a58 r55.2.1 c59), (I r55.2.2)] prer_0 sufr_0, Ch.ro 0 (Sl a58 r55.2.1 c59) r55.2.1, Ch.own n0 n0 (Sl a40 r37 c41) r37] := H.sel' [0, 1, 2, 6] rfl rfl
   obtain ⟨σ63, hw64, H, -⟩ := H.pub 0 rfl (Nat.le_refl _)
   rw [← hw64]; clear hw64
   replace H := H.roLow 0 0 rfl (Nat.zero_le _)
   obtain ⟨r65, hx66, h'⟩ := bind_some h
   clear h
   have h := h'; clear h'
   have hc67 := c_spec_reader_one (lor_0 := lor_0) (br_0 := br_0) (or_0 := or_0) (prer_0 := prer_0) (sufr_0 := sufr_0) (ar_0_0 := a58) (cr_0_0 := c59) (alist_1 := (some ⟨b61, 0, none⟩)) (clist_1 := 3) hx66
   refine st_call (cx_call hc67 (ent_f hc67.fn rfl) hn0 (show Hp S0 σ0 _ ([Ch.bx lor_0 br_0 or_0 [(Sl a58 r55.2.1 c59), (I r55.2.2)] prer_0 sufr_0, Ch.ro 0 (Sl a58 r55.2.1 c59) r55.2.1, Ch.ro 0 (Sl (some ⟨b61, 0, none⟩) ([0, 1000000, 1000001] : List Int) 3) ([0, 1000000, 1000001] : List Int)] ++ [Ch.ro 0 (Sl (some ⟨b61, 0, none⟩) ([0, 1000000, 1000001] : List Int) 3) ([0, 1000000, 1000001] : List Int), Ch.ro n0 (Sl (some ⟨b61, 0, none⟩) ([0, 1000000, 1000001] : List Int) 3) ([0, 1000000, 1000001] : List Int), Ch.ro 0 (Sl a58 r55.2.1 c59) r55.2.1, Ch.own n0 n0 (Sl a40 r37 c41) r37]) from (H.sel' [2, 3, 0, 0, 1, 3, 4] rfl rfl))) wn ?_
   rintro _ σ70 ⟨_, ⟨a68, c69, rfl, rfl⟩, H, -⟩
   replace H : Hp S0 σ0 σ70 [Ch.bx lor_0 br_0 or_0 [(Sl a68 r65.2.1 c69), (I r65.2.2)] prer_0 sufr_0, Ch.ro 0 (Sl a68 r65.2.1 c69) r65.2.1, Ch.ro 0 (Sl (some ⟨b61, 0, none⟩) ([0, 1000000, 1000001] : List Int) 3) ([0, 1000000, 1000001] : List Int), Ch.ro n0 (Sl (some ⟨b61, 0, none⟩) ([0, 1000000, 1000001] : List Int) 3) ([0, 1000000, 1000001] : List Int), Ch.ro 0 (Sl a58 r55.2.1 c59) r55.2.1, Ch.own n0 n0 (Sl a40 r37 c41) r37] := H
   refine st (v := (.agg #[(I r55.1), (I r65.1)])) (rv_build (ps := [(0, (I r55.1)), (1, (I r65.1))]) Try.underlying40 ti40 (bp40 Try.underlying40) rfl (by kernel_rfl)) ?_
   refine st_ex (ex_buildSlice (el := n0) (xs := ([(r55.1, r65.1)] : List (Int × Int))) (ps := [(0, (.agg #[(I r55.1), (I r65.1)]))]) (cs := [(I r55.1), (I r65.1)]) H hn0 Try.underlying23 ti40 rfl rfl (by kernel_rfl) (.cons (c := [(I r55.1), (I r65.1)]) ⟨[(I r55.1)], [(I r65.1)], rfl, rfl, rfl⟩ (.nil)) rfl) wn ?_
   rintro _ σ72 ⟨b71, rfl, H, -⟩
   obtain ⟨xs73, hx74, h'⟩ := bind_some h
   clear h
   have h := h'; clear h'
   refine st_ex (ex_append H (i := 6) rfl Try.underlying23 Try.underlying23 ti40 rfl rfl (by decide) (H.own 0 rfl).rd hx74 hn0 rfl rfl) wn ?_
   rintro _ σ77 ⟨a75, c76, rfl, H, -⟩
   refine st (v := (Sl a75 xs73 c76)) (rv_assign rfl) ?_
   refine w_end ?_
   refine q_blk ?_
   obtain rfl := Option.some.inj h
   exact ⟨rfl, _, σ77, a68, c69, a75, c76, fr_join ⟨rfl, rfl, trivial⟩, rfl, H.sel' [2, 3, 0] rfl rfl⟩
  ·replace h := bif_f hb50 h
   refine c_seq ?_
   refine rg ?_
   refine st (v := (B (r43.1 == 1))) (rv_eql (a := r43.1) (b := 1) rfl rfl) ?_
   refine st (v := (B (r43.1 == 1))) (rv_assign rfl) ?_
   refine w_end ?_
   refine q_then ?_
   refine cd_cond (r43.1 == 1) rfl (fun hb78 => ?_) (fun hb78 => ?_)
   ·replace h := bif_t hb78 h
    refine c_seq ?_
    refine rg ?_
    refine st (v := (Sl a40 r37 c41)) (rv_move rfl) ?_
    refine st (v := (I (r37.length : Int))) (rv_len Try.underlying23 rfl) ?_
    refine st (v := (B (decide (0 < (r37.length : Int))))) (rv_gtr (a := (r37.length : Int)) (b := 0) rfl rfl) ?_
    refine w_end ?_
    refine q_then ?_
    refine cd_cond (decide (0 < (r37.length : Int))) rfl (fun hb79 => ?_) (fun hb79 => ?_)
    ·replace h := bif_t hb79 h
     refine rg ?_
     refine st (v := (Sl a40 r37 c41)) (rv_move rfl) ?_
     refine st (v := (Sl a40 r37 c41)) (rv_move rfl) ?_
     obtain ⟨x80, hx81, h'⟩ := bind_some h
     clear h
     have h := h'; clear h'
     obtain ⟨b83, o84, hi82, -⟩ := (H.own 2 rfl).ix hx81
     refine st (v := (pt b83 o84)) (rv_ix Try.underlying23 ti40 rfl rfl hi82) ?_
     obtain ⟨_, ⟨_, _, rfl, rfl, rfl⟩, hl85, hc86⟩ := ((H.own 2 rfl).at hx81 hi82).cells
     refine st (v := (.agg #[(I x80.1), (I x80.2)])) (rv_load Try.underlying40 rfl ti40 rfl hl85 hc86) ?_
     refine st_ex (ex_buildSlice (el := n0) (xs := ([(x80.1, x80.2)] : List (Int × Int))) (ps := [(0, (.agg #[(I x80.1), (I x80.2)]))]) (cs := [(I x80.1), (I x80.2)]) H hn0 Try.underlying23 ti40 rfl rfl (by kernel_rfl) (.cons (c := [(I x80.1), (I x80.2)]) ⟨[(I x80.1)], [(I x80.2)], rfl, rfl, rfl⟩ (.nil)) rfl) wn ?_
     rintro _ σ88 ⟨b87, rfl, H, -⟩
     obtain ⟨xs89, hx90, h'⟩ := bind_some h
     clear h
     have h := h'; clear h'
     refine st_ex (ex_append H (i := 3) rfl Try.underlying23 Try.underlying23 ti40 rfl rfl (by decide) (H.own 0 rfl).rd hx90 hn0 rfl rfl) wn ?_
     rintro _ σ93 ⟨a91, c92, rfl, H, -⟩
     refine st (v := (Sl a91 xs89 c92)) (rv_assign rfl) ?_
     refine w_end ?_
     refine q_blk ?_
     obtain rfl := Option.some.inj h
     exact ⟨rfl, _, σ93, a46, c47, a91, c92, fr_join ⟨rfl, rfl, trivial⟩, rfl, H.sel' [2, 3, 0] rfl rfl⟩
    ·replace h := bif_f hb79 h
     refine c_skip ?_
     refine q_blk ?_
     obtain rfl := Option.some.inj h
     exact ⟨rfl, _, σ48, a46, c47, a40, c41, fr_join ⟨rfl, rfl, trivial⟩, rfl, H.sel' [0, 1, 2] rfl rfl⟩
   ·replace h := bif_f hb78 h
    refine c_skip ?_
    refine q_blk ?_
    obtain rfl := Option.some.inj h
    exact ⟨rfl, _, σ48, a46, c47, a40, c41, fr_join ⟨rfl, rfl, trivial⟩, rfl, H.sel' [0, 1, 2] rfl rfl⟩
 ·clear hj
  have h := h'
  clear h' H
  rintro e a w ⟨rfl, ρ, σ94, a95, c96, a97, c98, rfl, rfl, H⟩
  refine q_then ?_
  refine c_seq ?_
  refine rg ?_
  refine st (v := (Sl a97 o49.2 c98)) (rv_move rfl) ?_
  refine st (v := (Sl a97 o49.2 c98)) (rv_assign rfl) ?_
  refine w_end ?_
  refine q_then ?_
  refine c_ret ?_
  obtain rfl := Option.some.inj h
  exact fin_ret (v := (Sl a97 o49.2 c98)) (results_ok Try.results34 (res_tmp (v := (Sl a97 o49.2 c98)) rfl res_nil) rfl) ⟨a97, c98, a95, c96, rfl, rfl⟩ (H.sel' [2, 0, 1] rfl rfl)

theorem c_spec_DrawRankScore {code_0 : List UInt8} {acode_0 : Option Addr} {ccode_0 : Nat} {r : (List (Int × Int)) × Int} (h : M.spec_DrawRankScore code_0 = some r) :
    Cal2 Try.prog 27 [(Sl acode_0 code_0 ccode_0)] [Ch.ro 0 (Sl acode_0 code_0 ccode_0) code_0] (fun n0 v L => ∃ (az1 : Option Addr), ∃ (cz2 : Nat), v = (.tuple #[(Sl az1 r.1 cz2), (I r.2)]) ∧ L = [Ch.own n0 n0 (Sl az1 r.1 cz2) r.1]) := by
 refine cal2 (n := 30) Try.func27 rfl rfl rfl rfl ?_
 intro S0 σ0 n0 hn0 H
 unfold M.spec_DrawRankScore at h
 refine c_seq ?_
 refine rg ?_
 refine st (v := (.slice none 0 0)) (rv_assign rfl) ?_
 refine st (v := (I 0)) (rv_assign rfl) ?_
 refine w_end ?_
 refine q_then ?_
 refine c_seq ?_
 refine rg ?_
 refine st (v := (Sl acode_0 code_0 ccode_0)) (rv_move rfl) ?_
 obtain ⟨r1, hx2, h'⟩ := bind_some h
 clear h
 have h := h'; clear h'
 have hc3 := c_spec_newReader (acode_0 := acode_0) (ccode_0 := ccode_0) hx2
 refine st_call (cx_call hc3 (ent_f hc3.fn rfl) hn0 (show Hp S0 σ0 _ ([Ch.ro 0 (Sl acode_0 code_0 ccode_0) code_0] ++ [Ch.ro 0 (Sl acode_0 code_0 ccode_0) code_0]) from (H.sel' [0, 0] rfl rfl))) wn ?_
 rintro _ σ7 ⟨_, ⟨b4, a5, c6, rfl, rfl⟩, H, -⟩
 replace H : Hp S0 σ0 σ7 [Ch.bx n0 b4 0 [(Sl a5 r1.1 c6), (I r1.2)] [] [], Ch.ro 0 (Sl a5 r1.1 c6) r1.1, Ch.ro 0 (Sl acode_0 code_0 ccode_0) code_0] := H
 refine st (v := (pt b4 0)) (rv_assign rfl) ?_
 refine w_end ?_
 refine q_then ?_
 refine c_seq ?_
 refine rg ?_
 refine st (v := (pt b4 0)) (rv_move rfl) ?_
 obtain ⟨r8, hx9, h'⟩ := bind_some h
 clear h
 have h := h'; clear h'
 have hc10 := c_spec_anyHits (lor_0 := n0) (br_0 := b4) (or_0 := 0) (prer_0 := []) (sufr_0 := []) (ar_0_0 := a5) (cr_0_0 := c6) hx9
 refine st_call (cx_call hc10 (ent_f hc10.fn rfl) hn0 (show Hp S0 σ0 _ ([Ch.bx n0 b4 0 [(Sl a5 r1.1 c6), (I r1.2)] [] [], Ch.ro 0 (Sl a5 r1.1 c6) r1.1] ++ [Ch.ro 0 (Sl a5 r1.1 c6) r1.1, Ch.ro 0 (Sl acode_0 code_0 ccode_0) code_0]) from (H.sel' [0, 1, 1, 2] rfl rfl))) wn ?_
 rintro _ σ15 ⟨_, ⟨a11, c12, a13, c14, rfl, rfl⟩, H, -⟩
 replace H : Hp S0 σ0 σ15 [Ch.own n0 n0 (Sl a11 r8.1 c12) r8.1, Ch.bx n0 b4 0 [(Sl a13 r8.2.1 c14), (I r8.2.2)] [] [], Ch.ro 0 (Sl a13 r8.2.1 c14) r8.2.1, Ch.ro 0 (Sl a5 r1.1 c6) r1.1, Ch.ro 0 (Sl acode_0 code_0 ccode_0) code_0] := H
 refine st (v := (Sl a11 r8.1 c12)) (rv_assign rfl) ?_
 refine w_end ?_
 refine q_then ?_
 refine c_seq ?_
 refine c_seq ?_
 obtain ⟨o16, hj, h'⟩ := bind_some h
 clear h
 refine c_cut (fun e a w => e = .normal ∧ ∃ (ρ : Nat → Value) (σ : St) (aj1 : Option Addr) (cj2 : Nat), a = fr 30 (updL ρ [(4, (pt b4 0)), (5, (Sl a11 r8.1 c12)), (17, (B o16.2))]) ∧ w = σ.w ∧ Hp S0 σ0 σ [Ch.bx n0 b4 0 [(Sl aj1 o16.1.1 cj2), (I o16.1.2)] [] [], Ch.ro 0 (Sl aj1 o16.1.1 cj2) o16.1.1, Ch.own n0 n0 (Sl a11 r8.1 c12) r8.1]) ?_ ?_
 ·clear h'
  rename _ = some o16 => h
  refine rg ?_
  refine st (v := (Sl a11 r8.1 c12)) (rv_move rfl) ?_
  refine st (v := (I (r8.1.length : Int))) (rv_len Try.underlying23 rfl) ?_
  refine st (v := (B (decide (0 < (r8.1.length : Int))))) (rv_gtr (a := (r8.1.length : Int)) (b := 0) rfl rfl) ?_
  refine st (v := (B (decide (0 < (r8.1.length : Int))))) (rv_move rfl) ?_
  rcases Bool.eq_false_or_eq_true (decide (0 < (r8.1.length : Int))) with hb17 | hb17
  ·replace h := bif_t hb17 h
   refine st_g (v := (pt b4 0)) (congrArg some hb17) (rv_move rfl) ?_
   obtain ⟨r18, hx19, h'⟩ := bind_some h
   clear h
   have h := h'; clear h'
   have hc20 := c_spec_reader_pick (lor_0 := n0) (br_0 := b4) (or_0 := 0) (prer_0 := []) (sufr_0 := []) (ar_0_0 := a13) (cr_0_0 := c14) hx19
   refine st_call (cx_call hc20 (ent_f hc20.fn rfl) hn0 (show Hp S0 σ0 _ ([Ch.bx n0 b4 0 [(Sl a13 r8.2.1 c14), (I r8.2.2)] [] [], Ch.ro 0 (Sl a13 r8.2.1 c14) r8.2.1] ++ [Ch.own n0 n0 (Sl a11 r8.1 c12) r8.1, Ch.ro 0 (Sl a13 r8.2.1 c14) r8.2.1, Ch.ro 0 (Sl a5 r1.1 c6) r1.1, Ch.ro 0 (Sl acode_0 code_0 ccode_0) code_0]) from (H.sel' [1, 2, 0, 2, 3, 4] rfl rfl))) (wanted_yes rfl (by exact (congrArg some hb17))) ?_
   rintro _ σ23 ⟨_, ⟨a21, c22, rfl, rfl⟩, H, -⟩
   replace H : Hp S0 σ0 σ23 [Ch.bx n0 b4 0 [(Sl a21 r18.2.1 c22), (I r18.2.2)] [] [], Ch.ro 0 (Sl a21 r18.2.1 c22) r18.2.1, Ch.own n0 n0 (Sl a11 r8.1 c12) r8.1, Ch.ro 0 (Sl a13 r8.2.1 c14) r8.2.1, Ch.ro 0 (Sl a5 r1.1 c6) r1.1, Ch.ro 0 (Sl acode_0 code_0 ccode_0) code_0] := H
   refine st_g (v := (B (decide (0 < r18.1)))) (congrArg some hb17) (rv_gtr (a := r18.1) (b := 0) rfl rfl) ?_
   refine st (v := (B (decide (0 < r18.1)))) (rv_pick_t (congrArg B hb17) rfl) ?_
   refine w_end ?_
   obtain rfl := Option.some.inj h
   exact ⟨rfl, _, σ23, a21, c22, fr_join ⟨rfl, rfl, rfl, trivial⟩, rfl, H.sel' [0, 1, 2] rfl rfl⟩
  ·replace h := bif_f hb17 h
   refine st_skip (congrArg some hb17) ?_
   refine st_skip (congrArg some hb17) ?_
   refine st_skip (congrArg some hb17) ?_
   refine st (v := (B false)) (rv_pick_f (congrArg B hb17) rfl) ?_
   refine w_end ?_
   obtain rfl := Option.some.inj h
   exact ⟨rfl, _, σ15, a13, c14, fr_join ⟨rfl, rfl, rfl, trivial⟩, rfl, H.sel' [1, 2, 0] rfl rfl⟩
 ·clear hj
  have h := h'
  clear h' H
  rintro e a w ⟨rfl, ρ, σ24, a25, c26, rfl, rfl, H⟩
  refine q_then ?_
  refine cd_cond o16.2 rfl (fun hb27 => ?_) (fun hb27 => ?_)
  ·replace h := bif_t hb27 h
   refine c_seq ?_
   obtain ⟨r28, hx29, h'⟩ := bind_some h
   clear h
   have h := h'; clear h'
   have hc30 := c_spec_reader_pick (lor_0 := n0) (br_0 := b4) (or_0 := 0) (prer_0 := []) (sufr_0 := []) (ar_0_0 := a25) (cr_0_0 := c26) hx29
   obtain ⟨x33, hx34, h'⟩ := bind_some h
   clear h
   have h := h'; clear h'
   obtain ⟨b36, o37, hi35, -⟩ := (H.own 2 rfl).ix hx34
   have hc38 := ((H.own 2 rfl).at hx34 hi35).fst.int
   have Hs := H
   refine rg2 (σ := σ24) (Nm := (Option Addr) × (Nat)) 10 [5] [[false], [true]] [[(0, 0), (1, 1)], [(0, 0), (1, 1)], [(0, 0)], [(0, 0)], [(0, 0)], [(0, 1)], [(1, 1)], [(1, 1)], [(1, 1)], [(1, 1)]] 1 [fun ((a31, c32) : (Option Addr) × (Nat)) => fun σm => Hp S0 σ0 σm [Ch.bx n0 b4 0 [(Sl a25 o16.1.1 c26), (I o16.1.2)] [] [], Ch.ro 0 (Sl a25 o16.1.1 c26) o16.1.1, Ch.own n0 n0 (Sl a11 r8.1 c12) r8.1] ∧ Md (cov []) σ24 σm, fun ((a31, c32) : (Option Addr) × (Nat)) => fun σm => Hp S0 σ0 σm [Ch.bx n0 b4 0 [(Sl a31 r28.2.1 c32), (I r28.2.2)] [] [], Ch.ro 0 (Sl a31 r28.2.1 c32) r28.2.1, Ch.ro 0 (Sl a25 o16.1.1 c26) o16.1.1, Ch.own n0 n0 (Sl a11 r8.1 c12) r8.1] ∧ Md (fun i => (cov []) i ∨ (cov [Ch.bx n0 b4 0 [(Sl a25 o16.1.1 c26), (I o16.1.2)] [] [], Ch.ro 0 (Sl a25 o16.1.1 c26) o16.1.1]) i) σ24 σm] [fun ((a31, c32) : (Option Addr) × (Nat)) => (Sl a11 r8.1 c12), fun ((a31, c32) : (Option Addr) × (Nat)) => (Sl a11 r8.1 c12), fun ((a31, c32) : (Option Addr) × (Nat)) => (pt b4 0), fun ((a31, c32) : (Option Addr) × (Nat)) => (Sl a11 r8.1 c12), fun ((a31, c32) : (Option Addr) × (Nat)) => (I (r8.1.length : Int)), fun ((a31, c32) : (Option Addr) × (Nat)) => (I r28.1), fun ((a31, c32) : (Option Addr) × (Nat)) => (pt b36 o37), fun ((a31, c32) : (Option Addr) × (Nat)) => (pt b36 (o37 + 0)), fun ((a31, c32) : (Option Addr) × (Nat)) => (I x33.1), fun ((a31, c32) : (Option Addr) × (Nat)) => (Sl a11 r8.1 c12)] (none, 0) (by kernel_rfl) (by kernel_rfl) ?_ ?_ ?_
   ·intro σm m0
    exact ⟨H.grow (m0.mono fun _ h => h.elim), m0⟩
   ·refine ac rfl (by
      intro k; rintro ⟨a31, c32⟩ ρ σm hJ hoff hdep
      have e5 := look_off (N := 30) (hoff 5 rfl) rfl
      exact dp_v (v := (Sl a11 r8.1 c12)) wn (rv_move e5) rfl hJ) ?_
    refine ac rfl (by
      intro k; rintro ⟨a31, c32⟩ ρ σm hJ hoff hdep
      have e5 := look_off (N := 30) (hoff 5 rfl) rfl
      exact dp_v (v := (Sl a11 r8.1 c12)) wn (rv_move e5) rfl hJ) ?_
    refine ac rfl (by
      intro k; rintro ⟨a31, c32⟩ ρ σm hJ hoff hdep
      have e4 := look_off (N := 30) (hoff 4 rfl) rfl
      exact dp_v (v := (pt b4 0)) wn (rv_move e4) rfl hJ) ?_
    refine ac rfl (by
      intro k; rintro ⟨a31, c32⟩ ρ σm hJ hoff hdep
      have e5 := look_off (N := 30) (hoff 5 rfl) rfl
      exact dp_v (v := (Sl a11 r8.1 c12)) wn (rv_move e5) rfl hJ) ?_
    refine ac rfl (by
      intro k; rintro ⟨a31, c32⟩ ρ σm hJ hoff hdep
      have e21 := hdep 3 rfl rfl 21 rfl
      exact dp_v (v := (I (r8.1.length : Int))) wn (rv_len Try.underlying23 e21) rfl hJ) ?_
    refine all_cons (by
      refine ⟨?_, ?_⟩
      ·rintro ⟨a31, c32⟩ ρ σm hJ hoff hdep
       have e20 : look 30 ρ 20 = (pt b4 0) := hdep 2 rfl rfl 20 rfl
       have e22 : look 30 ρ 22 = (I (r8.1.length : Int)) := hdep 4 rfl rfl 22 rfl
       obtain ⟨H, m⟩ := id hJ
       refine dp_cx wn (cx_call hc30 (ent_f hc30.fn (by show [look 30 ρ 20, look 30 ρ 22] = _; rw [e20, e22])) hn0 (show Hp S0 σ0 _ ([Ch.bx n0 b4 0 [(Sl a25 o16.1.1 c26), (I o16.1.2)] [] [], Ch.ro 0 (Sl a25 o16.1.1 c26) o16.1.1] ++ [Ch.ro 0 (Sl a25 o16.1.1 c26) o16.1.1, Ch.own n0 n0 (Sl a11 r8.1 c12) r8.1]) from (H.sel' [0, 1, 1, 2] rfl rfl))) ?_
       rintro _ σq ⟨_, ⟨a31x, c32x, rfl, rfl⟩, H2, m2⟩
       exact ⟨_, (a31x, c32x), rfl, rfl, ⟨H2.sel' [0, 1, 2, 3] rfl rfl, m.comp m2⟩, stab [0, 1, 2, 3, 4] (by kernel_rfl) ⟨rfl, rfl, rfl, rfl, rfl, trivial⟩⟩
      trivial) ?_
    refine ac rfl (by
      intro k; rintro ⟨a31, c32⟩ ρ σm hJ hoff hdep
      have e19 := hdep 1 rfl rfl 19 rfl
      have e23 := hdep 5 rfl rfl 23 rfl
      exact dp_v (v := (pt b36 o37)) wn (rv_ix Try.underlying23 ti40 e19 e23 hi35) rfl hJ) ?_
    refine ac rfl (by
      intro k; rintro ⟨a31, c32⟩ ρ σm hJ hoff hdep
      have e24 := hdep 6 rfl rfl 24 rfl
      exact dp_v (v := (pt b36 (o37 + 0))) wn (rv_fieldAddr (off := 0) (ft := 3) Try.underlying40 rfl ti3 rfl e24) rfl hJ) ?_
    refine all_cons (by
      refine ⟨?_, ?_⟩
      ·rintro ⟨a31, c32⟩ ρ σm hJ hoff hdep
       have e25 := hdep 7 rfl rfl 25 rfl
       obtain ⟨H, m⟩ := id hJ
       have hc38 := ((H.own 3 rfl).at hx34 hi35).fst.int
       exact dp_v (v := (I x33.1)) wn (rv_load1 Try.underlying3 rfl e25 hc38) rfl hJ
      trivial) ?_
    refine ac rfl (by
      intro k; rintro ⟨a31, c32⟩ ρ σm hJ hoff hdep
      have e18 := hdep 0 rfl rfl 18 rfl
      exact dp_v (v := (Sl a11 r8.1 c12)) wn (rv_assign e18) rfl hJ) ?_
    exact all_nil
   ·rintro ⟨a31, c32⟩ ρ σ39 hJ hoff hrel
    have e2 := hrel 9 rfl 2 rfl
    have e26 := hrel 8 rfl 26 rfl
    obtain ⟨H, -⟩ := (show Hp S0 σ0 σ39 [Ch.bx n0 b4 0 [(Sl a31 r28.2.1 c32), (I r28.2.2)] [] [], Ch.ro 0 (Sl a31 r28.2.1 c32) r28.2.1, Ch.ro 0 (Sl a25 o16.1.1 c26) o16.1.1, Ch.own n0 n0 (Sl a11 r8.1 c12) r8.1] ∧ Md (fun i => (cov []) i ∨ (cov [Ch.bx n0 b4 0 [(Sl a25 o16.1.1 c26), (I o16.1.2)] [] [], Ch.ro 0 (Sl a25 o16.1.1 c26) o16.1.1]) i) σ24 σ39 from hJ)
    clear hJ Hs
    rw [fr_lookL (L := [(2, (Sl a11 r8.1 c12)), (26, (I x33.1))]) ⟨e2, e26, trivial⟩]
    clear hoff hrel e2 e26
    refine st (v := (I x33.1)) (rv_assign rfl) ?_
    refine w_end ?_
    refine q_then ?_
    refine c_ret ?_
    refine q_then_r ?_
    obtain rfl := Option.some.inj h
    exact fin_ret (v := (.tuple #[(Sl a11 r8.1 c12), (I x33.1)])) (results_ok Try.results27 (res_tmp (v := (Sl a11 r8.1 c12)) rfl (res_tmp (v := (I x33.1)) rfl res_nil)) rfl) ⟨a11, c12, rfl, rfl⟩ (H.sel' [3] rfl rfl)
  ·replace h := bif_f hb27 h
   refine c_skip ?_
   refine q_then ?_
   refine c_seq ?_
   refine rg ?_
   refine st (v := (Sl a11 r8.1 c12)) (rv_move rfl) ?_
   refine st (v := (pt b4 0)) (rv_move rfl) ?_
   obtain ⟨r40, hx41, h'⟩ := bind_some h
   clear h
   have h := h'; clear h'
   have hc42 := c_spec_reader_pick (lor_0 := n0) (br_0 := b4) (or_0 := 0) (prer_0 := []) (sufr_0 := []) (ar_0_0 := a25) (cr_0_0 := c26) hx41
   refine st_call (cx_call hc42 (ent_f hc42.fn rfl) hn0 (show Hp S0 σ0 _ ([Ch.bx n0 b4 0 [(Sl a25 o16.1.1 c26), (I o16.1.2)] [] [], Ch.ro 0 (Sl a25 o16.1.1 c26) o16.1.1] ++ [Ch.ro 0 (Sl a25 o16.1.1 c26) o16.1.1, Ch.own n0 n0 (Sl a11 r8.1 c12) r8.1]) from (H.sel' [0, 1, 1, 2] rfl rfl))) wn ?_
   rintro _ σ45 ⟨_, ⟨a43, c44, rfl, rfl⟩, H, -⟩
   replace H : Hp S0 σ0 σ45 [Ch.bx n0 b4 0 [(Sl a43 r40.2.1 c44), (I r40.2.2)] [] [], Ch.ro 0 (Sl a43 r40.2.1 c44) r40.2.1, Ch.ro 0 (Sl a25 o16.1.1 c26) o16.1.1, Ch.own n0 n0 (Sl a11 r8.1 c12) r8.1] := H
   refine st (v := (Sl a11 r8.1 c12)) (rv_assign rfl) ?_
   refine st (v := (I r40.1)) (rv_assign rfl) ?_
   refine w_end ?_
   refine q_then ?_
   refine c_ret ?_
   obtain rfl := Option.some.inj h
   exact fin_ret (v := (.tuple #[(Sl a11 r8.1 c12), (I r40.1)])) (results_ok Try.results27 (res_tmp (v := (Sl a11 r8.1 c12)) rfl (res_tmp (v := (I r40.1)) rfl res_nil)) rfl) ⟨a11, c12, rfl, rfl⟩ (H.sel' [3] rfl rfl)

theorem c_impl_validKey {key_0 : Int}  {r : Bool} (h : M.impl_validKey key_0 = some r) :
    Cal2 Try.prog 73 [(I key_0)] [] (fun n0 v L => v = (B r) ∧ L = []) := by
 refine cal2 (n := 9) Try.func73 rfl rfl rfl rfl ?_
 intro S0 σ0 n0 hn0 H
 unfold M.impl_validKey at h
 refine c_seq ?_
 refine rg ?_
 refine st (v := (B false)) (rv_assign rfl) ?_
 refine w_end ?_
 refine q_then ?_
 refine c_seq ?_
 refine rg ?_
 refine st (v := (I key_0)) (rv_move rfl) ?_
 refine st (v := (B (decide (1 ≤ key_0)))) (rv_geq (a := key_0) (b := 1) rfl rfl) ?_
 refine st (v := (B (decide (1 ≤ key_0)))) (rv_move rfl) ?_
 rcases Bool.eq_false_or_eq_true (decide (1 ≤ key_0)) with hb1 | hb1
 ·replace h := bif_t hb1 h
  refine st_g (v := (I key_0)) (congrArg some hb1) (rv_move rfl) ?_
  refine st_g (v := (B (decide (key_0 ≤ 99)))) (congrArg some hb1) (rv_leq (a := key_0) (b := 99) rfl rfl) ?_
  refine st (v := (B (decide (key_0 ≤ 99)))) (rv_pick_t (congrArg B hb1) rfl) ?_
  refine st (v := (B (decide (key_0 ≤ 99)))) (rv_assign rfl) ?_
  refine w_end ?_
  refine q_then ?_
  refine c_ret ?_
  obtain rfl := Option.some.inj h
  exact fin_ret (v := (B (decide (key_0 ≤ 99)))) (results_ok Try.results73 (res_tmp (v := (B (decide (key_0 ≤ 99)))) rfl res_nil) rfl) ⟨rfl, rfl⟩ (H.sel' [] rfl rfl)
 ·replace h := bif_f hb1 h
  refine st_skip (congrArg some hb1) ?_
  refine st_skip (congrArg some hb1) ?_
  refine st (v := (B false)) (rv_pick_f (congrArg B hb1) rfl) ?_
  refine st (v := (B false)) (rv_assign rfl) ?_
  refine w_end ?_
  refine q_then ?_
  refine c_ret ?_
  obtain rfl := Option.some.inj h
  exact fin_ret (v := (B false)) (results_ok Try.results73 (res_tmp (v := (B false)) rfl res_nil) rfl) ⟨rfl, rfl⟩ (H.sel' [] rfl rfl)

theorem c_impl_validHit {h_0 : Int × Int}  {r : Bool} (h : M.impl_validHit h_0 = some r) :
    Cal2 Try.prog 44 [(.agg #[(I h_0.1), (I h_0.2)])] [] (fun n0 v L => v = (B r) ∧ L = []) := by
 refine cal2 (n := 16) Try.func44 rfl rfl rfl rfl ?_
 intro S0 σ0 n0 hn0 H
 unfold M.impl_validHit at h
 refine c_seq ?_
 refine rg ?_
 refine st_ex (ex_box (cs := [(I h_0.1), (I h_0.2)]) H hn0 rfl rfl) wn ?_
 rintro _ σ2 ⟨b1, rfl, H, -⟩
 refine st (v := (B false)) (rv_assign rfl) ?_
 refine w_end ?_
 refine q_then ?_
 refine c_seq ?_
 refine rg ?_
 refine st (v := (pt b1 0)) (rv_fieldAddr (off := 0) (ft := 3) Try.underlying40 rfl ti3 rfl rfl) ?_
 have hc3 := H.cell (u := (I h_0.1)) (o' := 0) 0 0 rfl rfl rfl
 refine st (v := (I h_0.1)) (rv_load1 Try.underlying3 rfl rfl hc3) ?_
 obtain ⟨r4, hx5, h'⟩ := bind_some h
 clear h
 have h := h'; clear h'
 have hc6 := c_impl_validKey hx5
 refine st_call (cx_call hc6 (ent_f hc6.fn rfl) hn0 (show Hp S0 σ0 _ ([] ++ [Ch.bx n0 b1 0 [(I h_0.1), (I h_0.2)] [] []]) from (H.sel' [0] rfl rfl))) wn ?_
 rintro _ σ7 ⟨_, ⟨rfl, rfl⟩, H, -⟩
 replace H : Hp S0 σ0 σ7 [Ch.bx n0 b1 0 [(I h_0.1), (I h_0.2)] [] []] := H
 refine st (v := (B r4)) (rv_move rfl) ?_
 rcases Bool.eq_false_or_eq_true r4 with hb8 | hb8
 ·replace h := bif_t hb8 h
  refine st_g (v := (pt b1 1)) (congrArg some hb8) (rv_fieldAddr (off := 1) (ft := 3) Try.underlying40 rfl ti3 rfl rfl) ?_
  have hc9 := H.cell (u := (I h_0.2)) (o' := 1) 0 1 rfl rfl rfl
  refine st_g (v := (I h_0.2)) (congrArg some hb8) (rv_load1 Try.underlying3 rfl rfl hc9) ?_
  refine st_g (v := (B (decide (0 ≤ h_0.2)))) (congrArg some hb8) (rv_geq (a := h_0.2) (b := 0) rfl rfl) ?_
  refine st (v := (B (decide (0 ≤ h_0.2)))) (rv_pick_t (congrArg B hb8) rfl) ?_
  refine st (v := (B (decide (0 ≤ h_0.2)))) (rv_move rfl) ?_
  rcases Bool.eq_false_or_eq_true (decide (0 ≤ h_0.2)) with hb10 | hb10
  ·replace h := bif_t hb10 h
   refine st_g (v := (pt b1 1)) (congrArg some hb10) (rv_fieldAddr (off := 1) (ft := 3) Try.underlying40 rfl ti3 rfl rfl) ?_
   have hc11 := H.cell (u := (I h_0.2)) (o' := 1) 0 1 rfl rfl rfl
   refine st_g (v := (I h_0.2)) (congrArg some hb10) (rv_load1 Try.underlying3 rfl rfl hc11) ?_
   refine st_g (v := (B (decide (h_0.2 ≤ 1000000)))) (congrArg some hb10) (rv_leq (a := h_0.2) (b := 1000000) rfl rfl) ?_
   refine st (v := (B (decide (h_0.2 ≤ 1000000)))) (rv_pick_t (congrArg B hb10) rfl) ?_
   refine st (v := (B (decide (h_0.2 ≤ 1000000)))) (rv_assign rfl) ?_
   refine w_end ?_
   refine q_then ?_
   refine c_ret ?_
   obtain rfl := Option.some.inj h
   exact fin_ret (v := (B (decide (h_0.2 ≤ 1000000)))) (results_ok Try.results44 (res_tmp (v := (B (decide (h_0.2 ≤ 1000000)))) rfl res_nil) rfl) ⟨rfl, rfl⟩ (H.sel' [] rfl rfl)
  ·replace h := bif_f hb10 h
   refine st_skip (congrArg some hb10) ?_
   refine st_skip (congrArg some hb10) ?_
   refine st_skip (congrArg some hb10) ?_
   refine st (v := (B false)) (rv_pick_f (congrArg B hb10) rfl) ?_
   refine st (v := (B false)) (rv_assign rfl) ?_
   refine w_end ?_
   refine q_then ?_
   refine c_ret ?_
   obtain rfl := Option.some.inj h
   exact fin_ret (v := (B false)) (results_ok Try.results44 (res_tmp (v := (B false)) rfl res_nil) rfl) ⟨rfl, rfl⟩ (H.sel' [] rfl rfl)
 ·replace h := bif_f hb8 h
  refine st_skip (congrArg some hb8) ?_
  refine st_skip (congrArg some hb8) ?_
  refine st_skip (congrArg some hb8) ?_
  refine st (v := (B false)) (rv_pick_f (congrArg B hb8) rfl) ?_
  refine st (v := (B false)) (rv_move rfl) ?_
  refine st_skip rfl ?_
  refine st_skip rfl ?_
  refine st_skip rfl ?_
  refine st (v := (B false)) (rv_pick_f rfl rfl) ?_
  refine st (v := (B false)) (rv_assign rfl) ?_
  refine w_end ?_
  refine q_then ?_
  refine c_ret ?_
  obtain rfl := Option.some.inj h
  exact fin_ret (v := (B false)) (results_ok Try.results44 (res_tmp (v := (B false)) rfl res_nil) rfl) ⟨rfl, rfl⟩ (H.sel' [] rfl rfl)

theorem c_cmp_Or_int {vals_0 : List Int} {avals_0 : Option Addr} {cvals_0 : Nat} {r : Int} (h : M.cmp_Or_int vals_0 = some r) :
    Cal2 Try.prog 39 [(Sl avals_0 vals_0 cvals_0)] [Ch.ro 0 (Sl avals_0 vals_0 cvals_0) vals_0] (fun n0 v L => v = (I r) ∧ L = []) := by
 refine cal2 (n := 18) Try.func39 rfl rfl rfl rfl ?_
 intro S0 σ0 n0 hn0 H
 unfold M.cmp_Or_int at h
 refine c_seq ?_
 refine rg ?_
 refine st (v := (I 0)) (rv_assign rfl) ?_
 refine w_end ?_
 refine q_then ?_
 refine c_seq ?_
 refine rg ?_
 refine st (v := (I 0)) (rv_assign rfl) ?_
 refine w_end ?_
 refine q_then ?_
 refine c_seq ?_
 refine c_seq ?_
 refine rg ?_
 refine st (v := (Sl avals_0 vals_0 cvals_0)) (rv_move rfl) ?_
 refine st (v := (I (vals_0.length : Int))) (rv_len Try.underlying26 rfl) ?_
 refine st (v := (I 0)) (rv_move rfl) ?_
 refine w_end ?_
 refine q_then ?_
 obtain ⟨o1, hj, h'⟩ := bind_some h
 clear h
 refine c_cut (fun e a w => (∃ t, o1 = (.inl t) ∧ e = .normal ∧ ∃ (ρ : Nat → Value) (σ : St), a = fr 18 (updL ρ [(3, (I 0))]) ∧ w = σ.w ∧ Hp S0 σ0 σ []) ∨ (∃ t, o1 = (.inr t) ∧ e = .ret ∧ ∃ (ρ : Nat → Value) (σ : St), a = fr 18 (updL ρ [(2, (I t))]) ∧ w = σ.w ∧ Hp S0 σ0 σ [])) ?_ ?_
 ·clear h'
  rename _ = some o1 => h
  refine c_blk ?_
  refine wp_loopM _ h (fun s2 a w => ∃ (ρ : Nat → Value) (σ : St), a = fr 18 (updL ρ [(3, (I 0)), (6, (Sl avals_0 vals_0 cvals_0)), (7, (I (vals_0.length : Int))), (8, (I s2))]) ∧ w = σ.w ∧ Hp S0 σ0 σ [Ch.ro 0 (Sl avals_0 vals_0 cvals_0) vals_0]) ⟨_, σ0, fr_join ⟨rfl, rfl, rfl, rfl, trivial⟩, rfl, H.sel' [0] rfl rfl⟩ ?_
  clear h H
  rintro s2 a w o ⟨ρ, σ3, rfl, rfl, H⟩ h hres
  refine c_seq ?_
  refine rg ?_
  refine st (v := (B (decide (s2 < (vals_0.length : Int))))) (rv_lss (a := s2) (b := (vals_0.length : Int)) rfl rfl) ?_
  refine w_end ?_
  refine q_then ?_
  refine c_seq ?_
  refine cd_cond (decide (s2 < (vals_0.length : Int))) rfl (fun hb4 => ?_) (fun hb4 => ?_)
  ·replace h := bif_t hb4 h
   refine c_skip ?_
   refine q_then ?_
   refine c_seq ?_
   refine c_blk ?_
   refine c_seq ?_
   refine rg ?_
   obtain ⟨x5, hx6, h'⟩ := bind_some h
   clear h
   have h := h'; clear h'
   obtain ⟨b8, o9, hi7, -⟩ := (H.ro 0 rfl).ix hx6
   refine st (v := (pt b8 o9)) (rv_ix Try.underlying26 ti3 rfl rfl hi7) ?_
   have hc10 := ((H.ro 0 rfl).at hx6 hi7).int
   refine st (v := (I x5)) (rv_load1 Try.underlying3 rfl rfl hc10) ?_
   refine st (v := (I x5)) (rv_assign rfl) ?_
   refine w_end ?_
   refine q_then ?_
   refine c_seq ?_
   refine rg ?_
   refine st (v := (I x5)) (rv_move rfl) ?_
   refine st (v := (I 0)) (rv_move rfl) ?_
   refine st (v := (B (x5 != 0))) (rv_neq (a := x5) (b := 0) rfl rfl) ?_
   refine w_end ?_
   refine q_then ?_
   refine cd_cond (x5 != 0) rfl (fun hb11 => ?_) (fun hb11 => ?_)
   ·replace h := bif_t hb11 h
    refine c_seq ?_
    refine rg ?_
    refine st (v := (I x5)) (rv_move rfl) ?_
    refine st (v := (I x5)) (rv_assign rfl) ?_
    refine w_end ?_
    refine q_then ?_
    refine c_ret ?_
    refine q_blk_r ?_
    refine q_then_r ?_
    refine q_then_r ?_
    refine q_blk_r ?_
    obtain rfl := Option.some.inj h
    obtain rfl := hres _ rfl
    exact .inr (⟨_, rfl, rfl, _, σ3, fr_join ⟨rfl, trivial⟩, rfl, H.sel' [] rfl rfl⟩)
   ·replace h := bif_f hb11 h
    refine c_skip ?_
    refine q_blk ?_
    refine q_then ?_
    refine rg ?_
    refine st (v := (I (w64 (s2 + 1)))) (rv_add (a := s2) (b := 1) rfl rfl) ?_
    refine st (v := (I (w64 (s2 + 1)))) (rv_move rfl) ?_
    refine w_end ?_
    refine q_then ?_
    obtain rfl := Option.some.inj h
    exact ⟨_, rfl, _, σ3, fr_join ⟨rfl, rfl, rfl, rfl, trivial⟩, rfl, H.sel' [0] rfl rfl⟩
  ·replace h := bif_f hb4 h
   refine c_exit ?_
   refine q_then_x ?_
   refine q_then_x ?_
   refine q_blk_hit ?_
   obtain rfl := Option.some.inj h
   obtain rfl := hres _ rfl
   exact .inl ⟨_, rfl, rfl, _, σ3, fr_join ⟨rfl, trivial⟩, rfl, H.sel' [] rfl rfl⟩
 ·clear hj
  have h := h'
  clear h' H
  rintro e a w (⟨t12, rfl, rfl, ρ, σ13, rfl, rfl, H⟩ | ⟨t14, rfl, rfl, ρ, σ15, rfl, rfl, H⟩)
  ·replace h := selim_l h
   refine q_then ?_
   refine c_seq ?_
   refine rg ?_
   refine st (v := (I 0)) (rv_move rfl) ?_
   refine st (v := (I 0)) (rv_assign rfl) ?_
   refine w_end ?_
   refine q_then ?_
   refine c_ret ?_
   obtain rfl := Option.some.inj h
   exact fin_ret (v := (I 0)) (results_ok Try.results39 (res_tmp (v := (I 0)) rfl res_nil) rfl) ⟨rfl, rfl⟩ (H.sel' [] rfl rfl)
  ·replace h := selim_r h
   refine q_then_r ?_
   obtain rfl := Option.some.inj h
   exact fin_ret (v := (I t14)) (results_ok Try.results39 (res_tmp (v := (I t14)) rfl res_nil) rfl) ⟨rfl, rfl⟩ (H.sel' [] rfl rfl)

theorem c_cmp_isNaN_int {x_0 : Int}  {r : Bool} (h : M.cmp_isNaN_int x_0 = some r) :
    Cal2 Try.prog 71 [(I x_0)] [] (fun n0 v L => v = (B r) ∧ L = []) := by
 refine cal2 (n := 6) Try.func71 rfl rfl rfl rfl ?_
 intro S0 σ0 n0 hn0 H
 unfold M.cmp_isNaN_int at h
 refine c_seq ?_
 refine rg ?_
 refine st (v := (B false)) (rv_assign rfl) ?_
 refine w_end ?_
 refine q_then ?_
 refine c_seq ?_
 refine rg ?_
 refine st (v := (I x_0)) (rv_move rfl) ?_
 refine st (v := (I x_0)) (rv_move rfl) ?_
 refine st (v := (B (x_0 != x_0))) (rv_neq (a := x_0) (b := x_0) rfl rfl) ?_
 refine st (v := (B (x_0 != x_0))) (rv_assign rfl) ?_
 refine w_end ?_
 refine q_then ?_
 refine c_ret ?_
 obtain rfl := Option.some.inj h
 exact fin_ret (v := (B (x_0 != x_0))) (results_ok Try.results71 (res_tmp (v := (B (x_0 != x_0))) rfl res_nil) rfl) ⟨rfl, rfl⟩ (H.sel' [] rfl rfl)

theorem c_cmp_Compare_int {x_0 : Int} {y_1 : Int}  {r : Int} (h : M.cmp_Compare_int x_0 y_1 = some r) :
    Cal2 Try.prog 40 [(I x_0), (I y_1)] [] (fun n0 v L => v = (I r) ∧ L = []) := by
 refine cal2 (n := 20) Try.func40 rfl rfl rfl rfl ?_
 intro S0 σ0 n0 hn0 H
 unfold M.cmp_Compare_int at h
 refine c_seq ?_
 refine rg ?_
 refine st (v := (I 0)) (rv_assign rfl) ?_
 refine w_end ?_
 refine q_then ?_
 refine c_seq ?_
 refine rg ?_
 refine st (v := (I x_0)) (rv_move rfl) ?_
 obtain ⟨r1, hx2, h'⟩ := bind_some h
 clear h
 have h := h'; clear h'
 have hc3 := c_cmp_isNaN_int hx2
 refine st_call (cx_call hc3 (ent_f hc3.fn rfl) hn0 (show Hp S0 σ0 _ ([] ++ []) from (H.sel' [] rfl rfl))) wn ?_
 rintro _ σ4 ⟨_, ⟨rfl, rfl⟩, H, -⟩
 replace H : Hp S0 σ0 σ4 [] := H
 refine st (v := (B r1)) (rv_assign rfl) ?_
 refine w_end ?_
 refine q_then ?_
 refine c_seq ?_
 refine rg ?_
 refine st (v := (I y_1)) (rv_move rfl) ?_
 obtain ⟨r5, hx6, h'⟩ := bind_some h
 clear h
 have h := h'; clear h'
 have hc7 := c_cmp_isNaN_int hx6
 refine st_call (cx_call hc7 (ent_f hc7.fn rfl) hn0 (show Hp S0 σ0 _ ([] ++ []) from (H.sel' [] rfl rfl))) wn ?_
 rintro _ σ8 ⟨_, ⟨rfl, rfl⟩, H, -⟩
 replace H : Hp S0 σ0 σ8 [] := H
 refine st (v := (B r5)) (rv_assign rfl) ?_
 refine w_end ?_
 refine q_then ?_
 refine c_seq ?_
 refine c_seq ?_
 refine rg ?_
 refine st (v := (B r1)) (rv_move rfl) ?_
 refine w_end ?_
 refine q_then ?_
 refine cd_cond r1 rfl (fun hb9 => ?_) (fun hb9 => ?_)
 ·replace h := bif_t hb9 h
  refine c_seq ?_
  refine c_seq ?_
  refine rg ?_
  refine st (v := (B r5)) (rv_move rfl) ?_
  refine w_end ?_
  refine q_then ?_
  refine cd_cond r5 rfl (fun hb10 => ?_) (fun hb10 => ?_)
  ·replace h := bif_t hb10 h
   refine c_seq ?_
   refine rg ?_
   refine st (v := (I 0)) (rv_assign rfl) ?_
   refine w_end ?_
   refine q_then ?_
   refine c_ret ?_
   refine q_then_r ?_
   refine q_then_r ?_
   obtain rfl := Option.some.inj h
   exact fin_ret (v := (I 0)) (results_ok Try.results40 (res_tmp (v := (I 0)) rfl res_nil) rfl) ⟨rfl, rfl⟩ (H.sel' [] rfl rfl)
  ·replace h := bif_f hb10 h
   refine c_skip ?_
   refine q_then ?_
   refine c_seq ?_
   refine rg ?_
   refine st (v := (I (-1))) (rv_assign rfl) ?_
   refine w_end ?_
   refine q_then ?_
   refine c_ret ?_
   refine q_then_r ?_
   obtain rfl := Option.some.inj h
   exact fin_ret (v := (I (-1))) (results_ok Try.results40 (res_tmp (v := (I (-1))) rfl res_nil) rfl) ⟨rfl, rfl⟩ (H.sel' [] rfl rfl)
 ·replace h := bif_f hb9 h
  refine c_skip ?_
  refine q_then ?_
  refine c_seq ?_
  refine c_seq ?_
  refine rg ?_
  refine st (v := (B r5)) (rv_move rfl) ?_
  refine w_end ?_
  refine q_then ?_
  refine cd_cond r5 rfl (fun hb11 => ?_) (fun hb11 => ?_)
  ·replace h := bif_t hb11 h
   refine c_seq ?_
   refine rg ?_
   refine st (v := (I 1)) (rv_assign rfl) ?_
   refine w_end ?_
   refine q_then ?_
   refine c_ret ?_
   refine q_then_r ?_
   obtain rfl := Option.some.inj h
   exact fin_ret (v := (I 1)) (results_ok Try.results40 (res_tmp (v := (I 1)) rfl res_nil) rfl) ⟨rfl, rfl⟩ (H.sel' [] rfl rfl)
  ·replace h := bif_f hb11 h
   refine c_skip ?_
   refine q_then ?_
   refine c_seq ?_
   refine c_seq ?_
   refine rg ?_
   refine st (v := (I x_0)) (rv_move rfl) ?_
   refine st (v := (I y_1)) (rv_move rfl) ?_
   refine st (v := (B (decide (x_0 < y_1)))) (rv_lss (a := x_0) (b := y_1) rfl rfl) ?_
   refine w_end ?_
   refine q_then ?_
   refine cd_cond (decide (x_0 < y_1)) rfl (fun hb12 => ?_) (fun hb12 => ?_)
   ·replace h := bif_t hb12 h
    refine c_seq ?_
    refine rg ?_
    refine st (v := (I (-1))) (rv_assign rfl) ?_
    refine w_end ?_
    refine q_then ?_
    refine c_ret ?_
    refine q_then_r ?_
    obtain rfl := Option.some.inj h
    exact fin_ret (v := (I (-1))) (results_ok Try.results40 (res_tmp (v := (I (-1))) rfl res_nil) rfl) ⟨rfl, rfl⟩ (H.sel' [] rfl rfl)
   ·replace h := bif_f hb12 h
    refine c_skip ?_
    refine q_then ?_
    refine c_seq ?_
    refine c_seq ?_
    refine rg ?_
    refine st (v := (I x_0)) (rv_move rfl) ?_
    refine st (v := (I y_1)) (rv_move rfl) ?_
    refine st (v := (B (decide (y_1 < x_0)))) (rv_gtr (a := x_0) (b := y_1) rfl rfl) ?_
    refine w_end ?_
    refine q_then ?_
    refine cd_cond (decide (y_1 < x_0)) rfl (fun hb13 => ?_) (fun hb13 => ?_)
    ·replace h := bif_t hb13 h
     refine c_seq ?_
     refine rg ?_
     refine st (v := (I 1)) (rv_assign rfl) ?_
     refine w_end ?_
     refine q_then ?_
     refine c_ret ?_
     refine q_then_r ?_
     obtain rfl := Option.some.inj h
     exact fin_ret (v := (I 1)) (results_ok Try.results40 (res_tmp (v := (I 1)) rfl res_nil) rfl) ⟨rfl, rfl⟩ (H.sel' [] rfl rfl)
    ·replace h := bif_f hb13 h
     refine c_skip ?_
     refine q_then ?_
     refine c_seq ?_
     refine rg ?_
     refine st (v := (I 0)) (rv_assign rfl) ?_
     refine w_end ?_
     refine q_then ?_
     refine c_ret ?_
     obtain rfl := Option.some.inj h
     exact fin_ret (v := (I 0)) (results_ok Try.results40 (res_tmp (v := (I 0)) rfl res_nil) rfl) ⟨rfl, rfl⟩ (H.sel' [] rfl rfl)

theorem c_impl_compareHits {a_0 : Int × Int} {b_1 : Int × Int}  {r : Int} (h : M.impl_compareHits a_0 b_1 = some r) :
    Cal2 Try.prog 45 [(.agg #[(I a_0.1), (I a_0.2)]), (.agg #[(I b_1.1), (I b_1.2)])] [] (fun n0 v L => v = (I r) ∧ L = []) := by
 refine cal2 (n := 17) Try.func45 rfl rfl rfl rfl ?_
 intro S0 σ0 n0 hn0 H
 unfold M.impl_compareHits at h
 refine c_seq ?_
 refine rg ?_
 refine st_ex (ex_box (cs := [(I a_0.1), (I a_0.2)]) H hn0 rfl rfl) wn ?_
 rintro _ σ2 ⟨b1, rfl, H, -⟩
 refine st_ex (ex_box (cs := [(I b_1.1), (I b_1.2)]) H hn0 rfl rfl) wn ?_
 rintro _ σ4 ⟨b3, rfl, H, -⟩
 refine st (v := (I 0)) (rv_assign rfl) ?_
 refine w_end ?_
 refine q_then ?_
 refine c_seq ?_
 have hc5 := H.cell (u := (I a_0.2)) (o' := 1) 1 1 rfl rfl rfl
 have hc6 := H.cell (u := (I b_1.2)) (o' := 1) 0 1 rfl rfl rfl
 obtain ⟨r7, hx8, h'⟩ := bind_some h
 clear h
 have h := h'; clear h'
 have hc9 := c_cmp_Compare_int hx8
 have hc10 := H.cell (u := (I a_0.1)) (o' := 0) 1 0 rfl rfl rfl
 have hc11 := H.cell (u := (I b_1.1)) (o' := 0) 0 0 rfl rfl rfl
 have Hs := H
 refine rg2 (σ := σ4) (Nm := Unit) 9 [4] [[false], [true]] [[(0, 0)], [(0, 0)], [(0, 0)], [(0, 0)], [(0, 1)], [(0, 0), (1, 1)], [(0, 0), (1, 1)], [(0, 0), (1, 1)], [(0, 0), (1, 1)]] 1 [fun _ => fun σm => Hp S0 σ0 σm [Ch.bx n0 b3 0 [(I b_1.1), (I b_1.2)] [] [], Ch.bx n0 b1 0 [(I a_0.1), (I a_0.2)] [] []] ∧ Md (cov []) σ4 σm, fun _ => fun σm => Hp S0 σ0 σm [Ch.bx n0 b3 0 [(I b_1.1), (I b_1.2)] [] [], Ch.bx n0 b1 0 [(I a_0.1), (I a_0.2)] [] []] ∧ Md (cov []) σ4 σm] [fun _ => (pt b1 1), fun _ => (I a_0.2), fun _ => (pt b3 1), fun _ => (I b_1.2), fun _ => (I r7), fun _ => (pt b1 0), fun _ => (I a_0.1), fun _ => (pt b3 0), fun _ => (I b_1.1)] () (by kernel_rfl) (by kernel_rfl) ?_ ?_ ?_
 ·intro σm m0
  exact ⟨H.grow (m0.mono fun _ h => h.elim), m0⟩
 ·refine ac rfl (by
    intro k _nm ρ σm hJ hoff hdep
    have e2 := look_off (N := 17) (hoff 2 rfl) rfl
    exact dp_v (v := (pt b1 1)) wn (rv_fieldAddr (off := 1) (ft := 3) Try.underlying40 rfl ti3 rfl e2) rfl hJ) ?_
  refine all_cons (by
    refine ⟨?_, ?_⟩
    ·intro _nm ρ σm hJ hoff hdep
     have e5 := hdep 0 rfl rfl 5 rfl
     obtain ⟨H, m⟩ := id hJ
     have hc5 := H.cell (u := (I a_0.2)) (o' := 1) 1 1 rfl rfl rfl
     exact dp_v (v := (I a_0.2)) wn (rv_load1 Try.underlying3 rfl e5 hc5) rfl hJ
    trivial) ?_
  refine ac rfl (by
    intro k _nm ρ σm hJ hoff hdep
    have e3 := look_off (N := 17) (hoff 3 rfl) rfl
    exact dp_v (v := (pt b3 1)) wn (rv_fieldAddr (off := 1) (ft := 3) Try.underlying40 rfl ti3 rfl e3) rfl hJ) ?_
  refine all_cons (by
    refine ⟨?_, ?_⟩
    ·intro _nm ρ σm hJ hoff hdep
     have e7 := hdep 2 rfl rfl 7 rfl
     obtain ⟨H, m⟩ := id hJ
     have hc6 := H.cell (u := (I b_1.2)) (o' := 1) 0 1 rfl rfl rfl
     exact dp_v (v := (I b_1.2)) wn (rv_load1 Try.underlying3 rfl e7 hc6) rfl hJ
    trivial) ?_
  refine all_cons (by
    refine ⟨?_, ?_⟩
    ·intro _nm ρ σm hJ hoff hdep
     have e6 : look 17 ρ 6 = (I a_0.2) := hdep 1 rfl rfl 6 rfl
     have e8 : look 17 ρ 8 = (I b_1.2) := hdep 3 rfl rfl 8 rfl
     obtain ⟨H, m⟩ := id hJ
     refine dp_cx wn (cx_call hc9 (ent_f hc9.fn (by show [look 17 ρ 6, look 17 ρ 8] = _; rw [e6, e8])) hn0 (show Hp S0 σ0 _ ([] ++ [Ch.bx n0 b3 0 [(I b_1.1), (I b_1.2)] [] [], Ch.bx n0 b1 0 [(I a_0.1), (I a_0.2)] [] []]) from (H.sel' [0, 1] rfl rfl))) ?_
     rintro _ σq ⟨_, ⟨rfl, rfl⟩, H2, m2⟩
     exact ⟨_, (), rfl, rfl, ⟨H2.sel' [0, 1] rfl rfl, m.comp0 m2⟩, stab [0, 1, 2, 3, 5, 6, 7, 8] (by kernel_rfl) ⟨rfl, rfl, rfl, rfl, rfl, rfl, rfl, rfl, trivial⟩⟩
    trivial) ?_
  refine ac rfl (by
    intro k _nm ρ σm hJ hoff hdep
    have e2 := look_off (N := 17) (hoff 2 rfl) rfl
    exact dp_v (v := (pt b1 0)) wn (rv_fieldAddr (off := 0) (ft := 3) Try.underlying40 rfl ti3 rfl e2) rfl hJ) ?_
  refine all_cons (by
    refine ⟨?_, ?_⟩
    ·intro _nm ρ σm hJ hoff hdep
     have e10 := hdep 5 rfl rfl 10 rfl
     obtain ⟨H, m⟩ := id hJ
     have hc10 := H.cell (u := (I a_0.1)) (o' := 0) 1 0 rfl rfl rfl
     exact dp_v (v := (I a_0.1)) wn (rv_load1 Try.underlying3 rfl e10 hc10) rfl hJ
    refine ⟨?_, ?_⟩
    ·intro _nm ρ σm hJ hoff hdep
     have e10 := hdep 5 rfl rfl 10 rfl
     obtain ⟨H, m⟩ := id hJ
     have hc10 := H.cell (u := (I a_0.1)) (o' := 0) 1 0 rfl rfl rfl
     exact dp_v (v := (I a_0.1)) wn (rv_load1 Try.underlying3 rfl e10 hc10) rfl hJ
    trivial) ?_
  refine ac rfl (by
    intro k _nm ρ σm hJ hoff hdep
    have e3 := look_off (N := 17) (hoff 3 rfl) rfl
    exact dp_v (v := (pt b3 0)) wn (rv_fieldAddr (off := 0) (ft := 3) Try.underlying40 rfl ti3 rfl e3) rfl hJ) ?_
  refine all_cons (by
    refine ⟨?_, ?_⟩
    ·intro _nm ρ σm hJ hoff hdep
     have e12 := hdep 7 rfl rfl 12 rfl
     obtain ⟨H, m⟩ := id hJ
     have hc11 := H.cell (u := (I b_1.1)) (o' := 0) 0 0 rfl rfl rfl
     exact dp_v (v := (I b_1.1)) wn (rv_load1 Try.underlying3 rfl e12 hc11) rfl hJ
    refine ⟨?_, ?_⟩
    ·intro _nm ρ σm hJ hoff hdep
     have e12 := hdep 7 rfl rfl 12 rfl
     obtain ⟨H, m⟩ := id hJ
     have hc11 := H.cell (u := (I b_1.1)) (o' := 0) 0 0 rfl rfl rfl
     exact dp_v (v := (I b_1.1)) wn (rv_load1 Try.underlying3 rfl e12 hc11) rfl hJ
    trivial) ?_
  exact all_nil
 ·intro _nm ρ σ12 hJ hoff hrel
  have e9 := hrel 4 rfl 9 rfl
  have e11 := hrel 6 rfl 11 rfl
  have e13 := hrel 8 rfl 13 rfl
  obtain ⟨H, -⟩ := (show Hp S0 σ0 σ12 [Ch.bx n0 b3 0 [(I b_1.1), (I b_1.2)] [] [], Ch.bx n0 b1 0 [(I a_0.1), (I a_0.2)] [] []] ∧ Md (cov []) σ4 σ12 from hJ)
  clear hJ Hs
  rw [fr_lookL (L := [(9, (I r7)), (11, (I a_0.1)), (13, (I b_1.1))]) ⟨e9, e11, e13, trivial⟩]
  clear hoff hrel e9 e11 e13
  obtain ⟨r13, hx14, h'⟩ := bind_some h
  clear h
  have h := h'; clear h'
  have hc15 := c_cmp_Compare_int hx14
  refine st_call (cx_call hc15 (ent_f hc15.fn rfl) hn0 (show Hp S0 σ0 _ ([] ++ [Ch.bx n0 b3 0 [(I b_1.1), (I b_1.2)] [] [], Ch.bx n0 b1 0 [(I a_0.1), (I a_0.2)] [] []]) from (H.sel' [0, 1] rfl rfl))) wn ?_
  rintro _ σ16 ⟨_, ⟨rfl, rfl⟩, H, -⟩
  replace H : Hp S0 σ0 σ16 [Ch.bx n0 b3 0 [(I b_1.1), (I b_1.2)] [] [], Ch.bx n0 b1 0 [(I a_0.1), (I a_0.2)] [] []] := H
  refine st_ex (ex_buildSlice (el := n0) (xs := ([r7, r13] : List Int)) (ps := [(0, (I r7)), (1, (I r13))]) (cs := [(I r7), (I r13)]) H hn0 Try.underlying26 ti3 rfl rfl (by kernel_rfl) (.cons (c := [(I r7)]) rfl (.cons (c := [(I r13)]) rfl (.nil))) rfl) wn ?_
  rintro _ σ18 ⟨b17, rfl, H, -⟩
  obtain ⟨σ19, hw20, H, -⟩ := H.pub 0 rfl (Nat.le_refl _)
  rw [← hw20]; clear hw20
  replace H := H.roLow 0 0 rfl (Nat.zero_le _)
  obtain ⟨r21, hx22, h'⟩ := bind_some h
  clear h
  have h := h'; clear h'
  have hc23 := c_cmp_Or_int (avals_0 := (some ⟨b17, 0, none⟩)) (cvals_0 := 2) hx22
  refine st_call (cx_call hc23 (ent_f hc23.fn rfl) hn0 (show Hp S0 σ0 _ ([Ch.ro 0 (Sl (some ⟨b17, 0, none⟩) ([r7, r13] : List Int) 2) ([r7, r13] : List Int)] ++ [Ch.ro 0 (Sl (some ⟨b17, 0, none⟩) ([r7, r13] : List Int) 2) ([r7, r13] : List Int), Ch.ro n0 (Sl (some ⟨b17, 0, none⟩) ([r7, r13] : List Int) 2) ([r7, r13] : List Int), Ch.bx n0 b3 0 [(I b_1.1), (I b_1.2)] [] [], Ch.bx n0 b1 0 [(I a_0.1), (I a_0.2)] [] []]) from (H.sel' [0, 0, 1, 2, 3] rfl rfl))) wn ?_
  rintro _ σ24 ⟨_, ⟨rfl, rfl⟩, H, -⟩
  replace H : Hp S0 σ0 σ24 [Ch.ro 0 (Sl (some ⟨b17, 0, none⟩) ([r7, r13] : List Int) 2) ([r7, r13] : List Int), Ch.ro n0 (Sl (some ⟨b17, 0, none⟩) ([r7, r13] : List Int) 2) ([r7, r13] : List Int), Ch.bx n0 b3 0 [(I b_1.1), (I b_1.2)] [] [], Ch.bx n0 b1 0 [(I a_0.1), (I a_0.2)] [] []] := H
  refine st (v := (I r21)) (rv_assign rfl) ?_
  refine w_end ?_
  refine q_then ?_
  refine c_ret ?_
  obtain rfl := Option.some.inj h
  exact fin_ret (v := (I r21)) (results_ok Try.results45 (res_tmp (v := (I r21)) rfl res_nil) rfl) ⟨rfl, rfl⟩ (H.sel' [] rfl rfl)

theorem c_impl_placeIn_1__p3 {h_0 : Int × Int} {p_1 : Int} {lop_1 bp_1 op_1 : Nat} {prep_1 sufp_1 : List Value} {r : Bool} (h : M.impl_placeIn_1__p3 h_0 p_1 = some r) :
    Cal2 Try.prog 75 [(.agg #[(I h_0.1), (I h_0.2)]), (pt bp_1 op_1)] [Ch.bx lop_1 bp_1 op_1 [(I p_1)] prep_1 sufp_1] (fun n0 v L => v = (B r) ∧ L = [Ch.bx lop_1 bp_1 op_1 [(I p_1)] prep_1 sufp_1]) := by
 refine cal2 (n := 8) Try.func75 rfl rfl rfl rfl ?_
 intro S0 σ0 n0 hn0 H
 unfold M.impl_placeIn_1__p3 at h
 refine c_seq ?_
 refine rg ?_
 refine st_ex (ex_box (cs := [(I h_0.1), (I h_0.2)]) H hn0 rfl rfl) wn ?_
 rintro _ σ2 ⟨b1, rfl, H, -⟩
 refine st (v := (B false)) (rv_assign rfl) ?_
 refine w_end ?_
 refine q_then ?_
 refine c_seq ?_
 refine rg ?_
 refine st (v := (pt b1 0)) (rv_fieldAddr (off := 0) (ft := 3) Try.underlying40 rfl ti3 rfl rfl) ?_
 have hc3 := H.cell (u := (I h_0.1)) (o' := 0) 0 0 rfl rfl rfl
 refine st (v := (I h_0.1)) (rv_load1 Try.underlying3 rfl rfl hc3) ?_
 have hc4 := H.cell (u := (I p_1)) (o' := op_1) 1 0 rfl rfl rfl
 refine st (v := (I p_1)) (rv_load1 Try.underlying3 rfl rfl hc4) ?_
 refine st (v := (B (h_0.1 == p_1))) (rv_eql (a := h_0.1) (b := p_1) rfl rfl) ?_
 refine st (v := (B (h_0.1 == p_1))) (rv_assign rfl) ?_
 refine w_end ?_
 refine q_then ?_
 refine c_ret ?_
 obtain rfl := Option.some.inj h
 exact fin_ret (v := (B (h_0.1 == p_1))) (results_ok Try.results75 (res_tmp (v := (B (h_0.1 == p_1))) rfl res_nil) rfl) ⟨rfl, rfl⟩ (H.sel' [1] rfl rfl)

theorem c_slices_IndexFunc_impl_Hit_impl_Hit__impl_placeIn_1 {s_0 : List (Int × Int)} {f_1_0 : Int} {as_0 : Option Addr} {cs_0 : Nat} {lof_1_0 bf_1_0 of_1_0 : Nat} {pref_1_0 suff_1_0 : List Value} {r : Int} (h : M.slices_IndexFunc_impl_Hit_impl_Hit__impl_placeIn_1 s_0 f_1_0 = some r) :
    Cal2 Try.prog 74 [(Sl as_0 s_0 cs_0), (.func (.func 75) #[] #[(pt bf_1_0 of_1_0)])] [Ch.ro 0 (Sl as_0 s_0 cs_0) s_0, Ch.bx lof_1_0 bf_1_0 of_1_0 [(I f_1_0)] pref_1_0 suff_1_0] (fun n0 v L => v = (I r) ∧ L = [Ch.bx lof_1_0 bf_1_0 of_1_0 [(I f_1_0)] pref_1_0 suff_1_0]) := by
 refine cal2 (n := 19) Try.func74 rfl rfl rfl rfl ?_
 intro S0 σ0 n0 hn0 H
 unfold M.slices_IndexFunc_impl_Hit_impl_Hit__impl_placeIn_1 at h
 refine c_seq ?_
 refine rg ?_
 refine st (v := (I 0)) (rv_assign rfl) ?_
 refine w_end ?_
 refine q_then ?_
 refine c_seq ?_
 refine c_seq ?_
 refine rg ?_
 refine st (v := (Sl as_0 s_0 cs_0)) (rv_move rfl) ?_
 refine st (v := (I (s_0.length : Int))) (rv_len Try.underlying23 rfl) ?_
 refine st (v := (I 0)) (rv_move rfl) ?_
 refine w_end ?_
 refine q_then ?_
 obtain ⟨o1, hj, h'⟩ := bind_some h
 clear h
 refine c_cut (fun e a w => (∃ t, o1 = (.inl t) ∧ e = .normal ∧ ∃ (ρ : Nat → Value) (σ : St), a = fr 19 (updL ρ [(1, (.func (.func 75) #[] #[(pt bf_1_0 of_1_0)]))]) ∧ w = σ.w ∧ Hp S0 σ0 σ [Ch.bx lof_1_0 bf_1_0 of_1_0 [(I f_1_0)] pref_1_0 suff_1_0]) ∨ (∃ t, o1 = (.inr t) ∧ e = .ret ∧ ∃ (ρ : Nat → Value) (σ : St), a = fr 19 (updL ρ [(1, (.func (.func 75) #[] #[(pt bf_1_0 of_1_0)])), (4, (I t))]) ∧ w = σ.w ∧ Hp S0 σ0 σ [Ch.bx lof_1_0 bf_1_0 of_1_0 [(I f_1_0)] pref_1_0 suff_1_0])) ?_ ?_
 ·clear h'
  rename _ = some o1 => h
  refine c_blk ?_
  refine wp_loopM _ h (fun s2 a w => ∃ (ρ : Nat → Value) (σ : St), a = fr 19 (updL ρ [(0, (Sl as_0 s_0 cs_0)), (1, (.func (.func 75) #[] #[(pt bf_1_0 of_1_0)])), (7, (I (s_0.length : Int))), (8, (I s2))]) ∧ w = σ.w ∧ Hp S0 σ0 σ [Ch.ro 0 (Sl as_0 s_0 cs_0) s_0, Ch.bx lof_1_0 bf_1_0 of_1_0 [(I f_1_0)] pref_1_0 suff_1_0]) ⟨_, σ0, fr_join ⟨rfl, rfl, rfl, rfl, trivial⟩, rfl, H.sel' [0, 1] rfl rfl⟩ ?_
  clear h H
  rintro s2 a w o ⟨ρ, σ3, rfl, rfl, H⟩ h hres
  refine c_seq ?_
  refine rg ?_
  refine st (v := (B (decide (s2 < (s_0.length : Int))))) (rv_lss (a := s2) (b := (s_0.length : Int)) rfl rfl) ?_
  refine w_end ?_
  refine q_then ?_
  refine c_seq ?_
  refine cd_cond (decide (s2 < (s_0.length : Int))) rfl (fun hb4 => ?_) (fun hb4 => ?_)
  ·replace h := bif_t hb4 h
   refine c_skip ?_
   refine q_then ?_
   refine c_seq ?_
   refine c_blk ?_
   refine c_seq ?_
   refine rg ?_
   refine st (v := (I s2)) (rv_move rfl) ?_
   refine st (v := (I s2)) (rv_assign rfl) ?_
   refine w_end ?_
   refine q_then ?_
   refine c_seq ?_
   refine rg ?_
   refine st (v := (.func (.func 75) #[] #[(pt bf_1_0 of_1_0)])) (rv_move rfl) ?_
   refine st (v := (Sl as_0 s_0 cs_0)) (rv_move rfl) ?_
   refine st (v := (I s2)) (rv_move rfl) ?_
   obtain ⟨x5, hx6, h'⟩ := bind_some h
   clear h
   have h := h'; clear h'
   obtain ⟨b8, o9, hi7, -⟩ := (H.ro 0 rfl).ix hx6
   refine st (v := (pt b8 o9)) (rv_ix Try.underlying23 ti40 rfl rfl hi7) ?_
   obtain ⟨_, ⟨_, _, rfl, rfl, rfl⟩, hl10, hc11⟩ := ((H.ro 0 rfl).at hx6 hi7).cells
   refine st (v := (.agg #[(I x5.1), (I x5.2)])) (rv_load Try.underlying40 rfl ti40 rfl hl10 hc11) ?_
   obtain ⟨r12, hx13, h'⟩ := bind_some h
   clear h
   have h := h'; clear h'
   have hc14 := c_impl_placeIn_1__p3 (lop_1 := lof_1_0) (bp_1 := bf_1_0) (op_1 := of_1_0) (prep_1 := pref_1_0) (sufp_1 := suff_1_0) hx13
   refine st_call (cx_call hc14 (ent_v (cap := [(pt bf_1_0 of_1_0)]) hc14.fn rfl rfl) hn0 (show Hp S0 σ0 _ ([Ch.bx lof_1_0 bf_1_0 of_1_0 [(I f_1_0)] pref_1_0 suff_1_0] ++ [Ch.ro 0 (Sl as_0 s_0 cs_0) s_0]) from (H.sel' [1, 0] rfl rfl))) wn ?_
   rintro _ σ15 ⟨_, ⟨rfl, rfl⟩, H, -⟩
   replace H : Hp S0 σ0 σ15 [Ch.bx lof_1_0 bf_1_0 of_1_0 [(I f_1_0)] pref_1_0 suff_1_0, Ch.ro 0 (Sl as_0 s_0 cs_0) s_0] := H
   refine w_end ?_
   refine q_then ?_
   refine cd_cond r12 rfl (fun hb16 => ?_) (fun hb16 => ?_)
   ·replace h := bif_t hb16 h
    refine c_seq ?_
    refine rg ?_
    refine st (v := (I s2)) (rv_move rfl) ?_
    refine st (v := (I s2)) (rv_assign rfl) ?_
    refine w_end ?_
    refine q_then ?_
    refine c_ret ?_
    refine q_blk_r ?_
    refine q_then_r ?_
    refine q_then_r ?_
    refine q_blk_r ?_
    obtain rfl := Option.some.inj h
    obtain rfl := hres _ rfl
    exact .inr (⟨_, rfl, rfl, _, σ15, fr_join ⟨rfl, rfl, trivial⟩, rfl, H.sel' [0] rfl rfl⟩)
   ·replace h := bif_f hb16 h
    refine c_skip ?_
    refine q_blk ?_
    refine q_then ?_
    refine rg ?_
    refine st (v := (I (w64 (s2 + 1)))) (rv_add (a := s2) (b := 1) rfl rfl) ?_
    refine st (v := (I (w64 (s2 + 1)))) (rv_move rfl) ?_
    refine w_end ?_
    refine q_then ?_
    obtain rfl := Option.some.inj h
    exact ⟨_, rfl, _, σ15, fr_join ⟨rfl, rfl, rfl, rfl, trivial⟩, rfl, H.sel' [1, 0] rfl rfl⟩
  ·replace h := bif_f hb4 h
   refine c_exit ?_
   refine q_then_x ?_
   refine q_then_x ?_
   refine q_blk_hit ?_
   obtain rfl := Option.some.inj h
   obtain rfl := hres _ rfl
   exact .inl ⟨_, rfl, rfl, _, σ3, fr_join ⟨rfl, trivial⟩, rfl, H.sel' [1] rfl rfl⟩
 ·clear hj
  have h := h'
  clear h' H
  rintro e a w (⟨t17, rfl, rfl, ρ, σ18, rfl, rfl, H⟩ | ⟨t19, rfl, rfl, ρ, σ20, rfl, rfl, H⟩)
  ·replace h := selim_l h
   refine q_then ?_
   refine c_seq ?_
   refine rg ?_
   refine st (v := (I (-1))) (rv_assign rfl) ?_
   refine w_end ?_
   refine q_then ?_
   refine c_ret ?_
   obtain rfl := Option.some.inj h
   exact fin_ret (v := (I (-1))) (results_ok Try.results74 (res_tmp (v := (I (-1))) rfl res_nil) rfl) ⟨rfl, rfl⟩ (H.sel' [0] rfl rfl)
  ·replace h := selim_r h
   refine q_then_r ?_
   obtain rfl := Option.some.inj h
   exact fin_ret (v := (I t19)) (results_ok Try.results74 (res_tmp (v := (I t19)) rfl res_nil) rfl) ⟨rfl, rfl⟩ (H.sel' [0] rfl rfl)

theorem c_impl_placeIn {list_0 : List (Int × Int)} {key_1 : Int} {alist_0 : Option Addr} {clist_0 : Nat} {r : Int} (h : M.impl_placeIn list_0 key_1 = some r) :
    Cal2 Try.prog 46 [(Sl alist_0 list_0 clist_0), (I key_1)] [Ch.ro 0 (Sl alist_0 list_0 clist_0) list_0] (fun n0 v L => v = (I r) ∧ L = []) := by
 refine cal2 (n := 8) Try.func46 rfl rfl rfl rfl ?_
 intro S0 σ0 n0 hn0 H
 unfold M.impl_placeIn at h
 refine c_seq ?_
 refine rg ?_
 refine st_ex (ex_box (cs := [(I key_1)]) H hn0 rfl rfl) wn ?_
 rintro _ σ2 ⟨b1, rfl, H, -⟩
 refine st (v := (I 0)) (rv_assign rfl) ?_
 refine w_end ?_
 refine q_then ?_
 refine c_seq ?_
 refine rg ?_
 refine st (v := (Sl alist_0 list_0 clist_0)) (rv_move rfl) ?_
 refine st (v := (.func (.func 75) #[] #[(pt b1 0)])) (rv_makeFunc (vs := [(pt b1 0)]) rfl) ?_
 obtain ⟨r3, hx4, h'⟩ := bind_some h
 clear h
 have h := h'; clear h'
 have hc5 := c_slices_IndexFunc_impl_Hit_impl_Hit__impl_placeIn_1 (as_0 := alist_0) (cs_0 := clist_0) (lof_1_0 := n0) (bf_1_0 := b1) (of_1_0 := 0) (pref_1_0 := []) (suff_1_0 := []) hx4
 refine st_call (cx_call hc5 (ent_f hc5.fn rfl) hn0 (show Hp S0 σ0 _ ([Ch.ro 0 (Sl alist_0 list_0 clist_0) list_0, Ch.bx n0 b1 0 [(I key_1)] [] []] ++ [Ch.ro 0 (Sl alist_0 list_0 clist_0) list_0]) from (H.sel' [1, 0, 1] rfl rfl))) wn ?_
 rintro _ σ6 ⟨_, ⟨rfl, rfl⟩, H, -⟩
 replace H : Hp S0 σ0 σ6 [Ch.bx n0 b1 0 [(I key_1)] [] [], Ch.ro 0 (Sl alist_0 list_0 clist_0) list_0] := H
 refine st (v := (I r3)) (rv_assign rfl) ?_
 refine w_end ?_
 refine q_then ?_
 refine c_ret ?_
 obtain rfl := Option.some.inj h
 exact fin_ret (v := (I r3)) (results_ok Try.results46 (res_tmp (v := (I r3)) rfl res_nil) rfl) ⟨rfl, rfl⟩ (H.sel' [] rfl rfl)

theorem c_impl_ValidHits {list_0 : List (Int × Int)} {alist_0 : Option Addr} {clist_0 : Nat} {r : Bool} (h : M.impl_ValidHits list_0 = some r) :
    Cal2 Try.prog 15 [(Sl alist_0 list_0 clist_0)] [Ch.ro 0 (Sl alist_0 list_0 clist_0) list_0] (fun n0 v L => v = (B r) ∧ L = []) := by
 refine cal2 (n := 40) Try.func15 rfl rfl rfl rfl ?_
 intro S0 σ0 n0 hn0 H
 unfold M.impl_ValidHits at h
 refine c_seq ?_
 refine rg ?_
 refine st (v := (B false)) (rv_assign rfl) ?_
 refine w_end ?_
 refine q_then ?_
 refine c_seq ?_
 refine c_seq ?_
 refine rg ?_
 refine st (v := (Sl alist_0 list_0 clist_0)) (rv_move rfl) ?_
 refine st (v := (I (list_0.length : Int))) (rv_len Try.underlying23 rfl) ?_
 refine st (v := (B (decide (16 < (list_0.length : Int))))) (rv_gtr (a := (list_0.length : Int)) (b := 16) rfl rfl) ?_
 refine w_end ?_
 refine q_then ?_
 refine cd_cond (decide (16 < (list_0.length : Int))) rfl (fun hb1 => ?_) (fun hb1 => ?_)
 ·replace h := bif_t hb1 h
  refine c_seq ?_
  refine rg ?_
  refine st (v := (B false)) (rv_assign rfl) ?_
  refine w_end ?_
  refine q_then ?_
  refine c_ret ?_
  refine q_then_r ?_
  obtain rfl := Option.some.inj h
  exact fin_ret (v := (B false)) (results_ok Try.results15 (res_tmp (v := (B false)) rfl res_nil) rfl) ⟨rfl, rfl⟩ (H.sel' [] rfl rfl)
 ·replace h := bif_f hb1 h
  refine c_skip ?_
  refine q_then ?_
  refine c_seq ?_
  refine c_seq ?_
  refine rg ?_
  refine st (v := (Sl alist_0 list_0 clist_0)) (rv_move rfl) ?_
  refine st (v := (I (list_0.length : Int))) (rv_len Try.underlying23 rfl) ?_
  refine st (v := (I 0)) (rv_move rfl) ?_
  refine w_end ?_
  refine q_then ?_
  obtain ⟨o2, hj, h'⟩ := bind_some h
  clear h
  refine c_cut (fun e a w => (∃ t, o2 = (.inl t) ∧ e = .normal ∧ ∃ (ρ : Nat → Value) (σ : St), a = fr 40 (updL ρ []) ∧ w = σ.w ∧ Hp S0 σ0 σ []) ∨ (∃ t, o2 = (.inr t) ∧ e = .ret ∧ ∃ (ρ : Nat → Value) (σ : St), a = fr 40 (updL ρ [(2, (B t))]) ∧ w = σ.w ∧ Hp S0 σ0 σ [])) ?_ ?_
  ·clear h'
   rename _ = some o2 => h
   refine c_blk ?_
   refine wp_loopM _ h (fun s3 a w => ∃ (ρ : Nat → Value) (σ : St), a = fr 40 (updL ρ [(0, (Sl alist_0 list_0 clist_0)), (8, (Sl alist_0 list_0 clist_0)), (9, (I (list_0.length : Int))), (10, (I s3))]) ∧ w = σ.w ∧ Hp S0 σ0 σ [Ch.ro 0 (Sl alist_0 list_0 clist_0) list_0]) ⟨_, σ0, fr_join ⟨rfl, rfl, rfl, rfl, trivial⟩, rfl, H.sel' [0] rfl rfl⟩ ?_
   clear h H
   rintro s3 a w o ⟨ρ, σ4, rfl, rfl, H⟩ h hres
   refine c_seq ?_
   refine rg ?_
   refine st (v := (B (decide (s3 < (list_0.length : Int))))) (rv_lss (a := s3) (b := (list_0.length : Int)) rfl rfl) ?_
   refine w_end ?_
   refine q_then ?_
   refine c_seq ?_
   refine cd_cond (decide (s3 < (list_0.length : Int))) rfl (fun hb5 => ?_) (fun hb5 => ?_)
   ·replace h := bif_t hb5 h
    refine c_skip ?_
    refine q_then ?_
    refine c_seq ?_
    refine c_blk ?_
    refine c_seq ?_
    refine rg ?_
    refine st (v := (I s3)) (rv_move rfl) ?_
    obtain ⟨x6, hx7, h'⟩ := bind_some h
    clear h
    have h := h'; clear h'
    obtain ⟨b9, o10, hi8, -⟩ := (H.ro 0 rfl).ix hx7
    refine st (v := (pt b9 o10)) (rv_ix Try.underlying23 ti40 rfl rfl hi8) ?_
    obtain ⟨_, ⟨_, _, rfl, rfl, rfl⟩, hl11, hc12⟩ := ((H.ro 0 rfl).at hx7 hi8).cells
    refine st (v := (.agg #[(I x6.1), (I x6.2)])) (rv_load Try.underlying40 rfl ti40 rfl hl11 hc12) ?_
    refine st_ex (ex_alloc (cs := [(I 0), (I 0)]) H hn0 ti40 rfl) wn ?_
    rintro _ σ14 ⟨b13, rfl, H, -⟩
    refine st (v := (I s3)) (rv_assign rfl) ?_
    refine st_exS (ex_store_box (k := 0) (cs := [(I 0), (I 0)]) (vs := [(I x6.1), (I x6.2)]) (cs' := [(I x6.1), (I x6.2)]) H (i := 0) rfl ti40 rfl rfl rfl rfl rfl (Nat.le_of_ble_eq_true rfl) (by simp [plain]) rfl) wn ?_
    rintro σ15 ⟨H, -⟩
    refine w_end ?_
    refine q_then ?_
    refine c_seq ?_
    refine c_seq ?_
    obtain ⟨o16, hj, h'⟩ := bind_some h
    clear h
    refine c_cut (fun e a w => e = .normal ∧ ∃ (ρ : Nat → Value) (σ : St), a = fr 40 (updL ρ [(0, (Sl alist_0 list_0 clist_0)), (3, (I s3)), (4, (pt b13 0)), (8, (Sl alist_0 list_0 clist_0)), (9, (I (list_0.length : Int))), (10, (I s3)), (31, (B o16))]) ∧ w = σ.w ∧ Hp S0 σ0 σ [Ch.ro 0 (Sl alist_0 list_0 clist_0) list_0, Ch.bx n0 b13 0 [(I x6.1), (I x6.2)] [] []]) ?_ ?_
    ·clear h'
     rename _ = some o16 => h
     have hc17 := H.cells 0 rfl
     obtain ⟨r18, hx19, h'⟩ := bind_some h
     clear h
     have h := h'; clear h'
     have hc20 := c_impl_validHit hx19
     rcases Bool.eq_false_or_eq_true (!r18) with hb21 | hb21
     ·replace h := bif_t hb21 h
      have Hs := H
      refine rg2 (σ := σ15) (Nm := Unit) 13 [1] [[false], [true]] [[(0, 0)], [(0, 1)], [(1, 1)], [(1, 1)], [(1, 1)], [(1, 1)], [(1, 1)], [(1, 1)], [(1, 1)], [(1, 1)], [(1, 1)], [(1, 1)], [(1, 1)]] 1 [fun _ => fun σm => Hp S0 σ0 σm [Ch.bx n0 b13 0 [(I x6.1), (I x6.2)] [] [], Ch.ro 0 (Sl alist_0 list_0 clist_0) list_0] ∧ Md (cov []) σ15 σm, fun _ => fun σm => Hp S0 σ0 σm [Ch.bx n0 b13 0 [(I x6.1), (I x6.2)] [] [], Ch.ro 0 (Sl alist_0 list_0 clist_0) list_0] ∧ Md (cov []) σ15 σm] [fun _ => (.agg #[(I x6.1), (I x6.2)]), fun _ => (B r18), fun _ => (B (!r18)), fun _ => (B (!r18)), fun _ => undef, fun _ => undef, fun _ => undef, fun _ => undef, fun _ => undef, fun _ => undef, fun _ => undef, fun _ => undef, fun _ => undef] () (by kernel_rfl) (by kernel_rfl) ?_ ?_ ?_
      ·intro σm m0
       exact ⟨H.grow (m0.mono fun _ h => h.elim), m0⟩
      ·refine all_cons (by
         refine ⟨?_, ?_⟩
         ·intro _nm ρ σm hJ hoff hdep
          have e4 := look_off (N := 40) (hoff 4 rfl) rfl
          obtain ⟨H, m⟩ := id hJ
          have hc17 := H.cells 0 rfl
          exact dp_v (v := (.agg #[(I x6.1), (I x6.2)])) wn (rv_load (cs := [(I x6.1), (I x6.2)]) Try.underlying40 rfl ti40 e4 rfl hc17) rfl hJ
         trivial) ?_
       refine all_cons (by
         refine ⟨?_, ?_⟩
         ·intro _nm ρ σm hJ hoff hdep
          have e15 : look 40 ρ 15 = (.agg #[(I x6.1), (I x6.2)]) := hdep 0 rfl rfl 15 rfl
          obtain ⟨H, m⟩ := id hJ
          refine dp_cx wn (cx_call hc20 (ent_f hc20.fn (by show [look 40 ρ 15] = _; rw [e15])) hn0 (show Hp S0 σ0 _ ([] ++ [Ch.bx n0 b13 0 [(I x6.1), (I x6.2)] [] [], Ch.ro 0 (Sl alist_0 list_0 clist_0) list_0]) from (H.sel' [0, 1] rfl rfl))) ?_
          rintro _ σq ⟨_, ⟨rfl, rfl⟩, H2, m2⟩
          exact ⟨_, (), rfl, rfl, ⟨H2.sel' [0, 1] rfl rfl, m.comp0 m2⟩, stab [0] (by kernel_rfl) ⟨rfl, trivial⟩⟩
         trivial) ?_
       refine ac rfl (by
         intro k _nm ρ σm hJ hoff hdep
         have e16 := hdep 1 rfl rfl 16 rfl
         exact dp_v (v := (B (!r18))) wn (rv_not e16) rfl hJ) ?_
       refine ac rfl (by
         intro k _nm ρ σm hJ hoff hdep
         have e17 := hdep 2 rfl rfl 17 rfl
         exact dp_v (v := (B (!r18))) wn (rv_move e17) rfl hJ) ?_
       refine ac rfl (by
         intro k _nm ρ σm hJ hoff hdep
         have e18 := hdep 3 rfl rfl 18 rfl
         exact dp_skip (wanted_no rfl (yv_of rfl (e18.trans (congrArg B hb21)))) rfl hJ) ?_
       refine ac rfl (by
         intro k _nm ρ σm hJ hoff hdep
         have e18 := hdep 3 rfl rfl 18 rfl
         exact dp_skip (wanted_no rfl (yv_of rfl (e18.trans (congrArg B hb21)))) rfl hJ) ?_
       refine ac rfl (by
         intro k _nm ρ σm hJ hoff hdep
         have e18 := hdep 3 rfl rfl 18 rfl
         exact dp_skip (wanted_no rfl (yv_of rfl (e18.trans (congrArg B hb21)))) rfl hJ) ?_
       refine ac rfl (by
         intro k _nm ρ σm hJ hoff hdep
         have e21 := hdep 6 rfl rfl 21 rfl
         exact dp_skip (wanted_u rfl (yv_undef rfl e21)) rfl hJ) ?_
       refine ac rfl (by
         intro k _nm ρ σm hJ hoff hdep
         have e21 := hdep 6 rfl rfl 21 rfl
         exact dp_skip (wanted_u rfl (yv_undef rfl e21)) rfl hJ) ?_
       refine ac rfl (by
         intro k _nm ρ σm hJ hoff hdep
         have e21 := hdep 6 rfl rfl 21 rfl
         exact dp_skip (wanted_u rfl (yv_undef rfl e21)) rfl hJ) ?_
       refine ac rfl (by
         intro k _nm ρ σm hJ hoff hdep
         have e21 := hdep 6 rfl rfl 21 rfl
         exact dp_skip (wanted_u rfl (yv_undef rfl e21)) rfl hJ) ?_
       refine ac rfl (by
         intro k _nm ρ σm hJ hoff hdep
         have e21 := hdep 6 rfl rfl 21 rfl
         exact dp_skip (wanted_u rfl (yv_undef rfl e21)) rfl hJ) ?_
       refine ac rfl (by
         intro k _nm ρ σm hJ hoff hdep
         have e21 := hdep 6 rfl rfl 21 rfl
         exact dp_skip (wanted_u rfl (yv_undef rfl e21)) rfl hJ) ?_
       exact all_nil
      ·intro _nm ρ σ22 hJ hoff hrel
       have e0 := look_off (N := 40) (hoff 0 rfl) rfl
       have e3 := look_off (N := 40) (hoff 3 rfl) rfl
       have e4 := look_off (N := 40) (hoff 4 rfl) rfl
       have e8 := look_off (N := 40) (hoff 8 rfl) rfl
       have e9 := look_off (N := 40) (hoff 9 rfl) rfl
       have e10 := look_off (N := 40) (hoff 10 rfl) rfl
       have e18 := hrel 3 rfl 18 rfl
       have e21 := hrel 6 rfl 21 rfl
       have e26 := hrel 11 rfl 26 rfl
       have e27 := hrel 12 rfl 27 rfl
       obtain ⟨H, -⟩ := (show Hp S0 σ0 σ22 [Ch.bx n0 b13 0 [(I x6.1), (I x6.2)] [] [], Ch.ro 0 (Sl alist_0 list_0 clist_0) list_0] ∧ Md (cov []) σ15 σ22 from hJ)
       clear hJ Hs
       rw [fr_lookL (L := [(0, (Sl alist_0 list_0 clist_0)), (3, (I s3)), (4, (pt b13 0)), (8, (Sl alist_0 list_0 clist_0)), (9, (I (list_0.length : Int))), (10, (I s3)), (18, (B (!r18))), (21, undef), (26, undef), (27, undef)]) ⟨e0, e3, e4, e8, e9, e10, e18, e21, e26, e27, trivial⟩]
       clear hoff hrel e0 e3 e4 e8 e9 e10 e18 e21 e26 e27
       refine st_skip_u rfl ?_
       refine st_skip_u rfl ?_
       refine st_skip (congrArg some hb21) ?_
       refine st (v := (B true)) (rv_pick_t (congrArg B hb21) rfl) ?_
       refine w_end ?_
       obtain rfl := Option.some.inj h
       exact ⟨rfl, _, σ22, fr_join ⟨rfl, rfl, rfl, rfl, rfl, rfl, rfl, trivial⟩, rfl, H.sel' [1, 0] rfl rfl⟩
     ·replace h := bif_f hb21 h
      rcases Bool.eq_false_or_eq_true (decide (0 < s3)) with hb23 | hb23
      ·replace h := bif_t hb23 h
       obtain ⟨x24, hx25, h'⟩ := bind_some h
       clear h
       have h := h'; clear h'
       obtain ⟨b27, o28, hi26, -⟩ := (H.ro 1 rfl).ix hx25
       obtain ⟨_, ⟨_, _, rfl, rfl, rfl⟩, hl29, hc30⟩ := ((H.ro 1 rfl).at hx25 hi26).cells
       have hc31 := H.cells 0 rfl
       have Hs := H
       refine rg2 (σ := σ15) (Nm := Unit) 13 [1] [[false], [true]] [[(0, 0)], [(0, 1)], [(1, 1)], [(1, 1)], [(1, 1)], [(1, 1)], [(1, 1)], [(1, 1)], [(1, 1)], [(1, 1)], [(1, 1)], [(1, 1)], [(1, 1)]] 1 [fun _ => fun σm => Hp S0 σ0 σm [Ch.bx n0 b13 0 [(I x6.1), (I x6.2)] [] [], Ch.ro 0 (Sl alist_0 list_0 clist_0) list_0] ∧ Md (cov []) σ15 σm, fun _ => fun σm => Hp S0 σ0 σm [Ch.bx n0 b13 0 [(I x6.1), (I x6.2)] [] [], Ch.ro 0 (Sl alist_0 list_0 clist_0) list_0] ∧ Md (cov []) σ15 σm] [fun _ => (.agg #[(I x6.1), (I x6.2)]), fun _ => (B r18), fun _ => (B (!r18)), fun _ => (B (!r18)), fun _ => (I s3), fun _ => (B (decide (0 < s3))), fun _ => (B (decide (0 < s3))), fun _ => (Sl alist_0 list_0 clist_0), fun _ => (I s3), fun _ => (I (w64 (s3 - 1))), fun _ => (pt b27 o28), fun _ => (.agg #[(I x24.1), (I x24.2)]), fun _ => (.agg #[(I x6.1), (I x6.2)])] () (by kernel_rfl) (by kernel_rfl) ?_ ?_ ?_
       ·intro σm m0
        exact ⟨H.grow (m0.mono fun _ h => h.elim), m0⟩
       ·refine all_cons (by
          refine ⟨?_, ?_⟩
          ·intro _nm ρ σm hJ hoff hdep
           have e4 := look_off (N := 40) (hoff 4 rfl) rfl
           obtain ⟨H, m⟩ := id hJ
           have hc17 := H.cells 0 rfl
           exact dp_v (v := (.agg #[(I x6.1), (I x6.2)])) wn (rv_load (cs := [(I x6.1), (I x6.2)]) Try.underlying40 rfl ti40 e4 rfl hc17) rfl hJ
          trivial) ?_
        refine all_cons (by
          refine ⟨?_, ?_⟩
          ·intro _nm ρ σm hJ hoff hdep
           have e15 : look 40 ρ 15 = (.agg #[(I x6.1), (I x6.2)]) := hdep 0 rfl rfl 15 rfl
           obtain ⟨H, m⟩ := id hJ
           refine dp_cx wn (cx_call hc20 (ent_f hc20.fn (by show [look 40 ρ 15] = _; rw [e15])) hn0 (show Hp S0 σ0 _ ([] ++ [Ch.bx n0 b13 0 [(I x6.1), (I x6.2)] [] [], Ch.ro 0 (Sl alist_0 list_0 clist_0) list_0]) from (H.sel' [0, 1] rfl rfl))) ?_
           rintro _ σq ⟨_, ⟨rfl, rfl⟩, H2, m2⟩
           exact ⟨_, (), rfl, rfl, ⟨H2.sel' [0, 1] rfl rfl, m.comp0 m2⟩, stab [0] (by kernel_rfl) ⟨rfl, trivial⟩⟩
          trivial) ?_
        refine ac rfl (by
          intro k _nm ρ σm hJ hoff hdep
          have e16 := hdep 1 rfl rfl 16 rfl
          exact dp_v (v := (B (!r18))) wn (rv_not e16) rfl hJ) ?_
        refine ac rfl (by
          intro k _nm ρ σm hJ hoff hdep
          have e17 := hdep 2 rfl rfl 17 rfl
          exact dp_v (v := (B (!r18))) wn (rv_move e17) rfl hJ) ?_
        refine ac rfl (by
          intro k _nm ρ σm hJ hoff hdep
          have e3 := look_off (N := 40) (hoff 3 rfl) rfl
          have e18 := hdep 3 rfl rfl 18 rfl
          exact dp_v (v := (I s3)) (wanted_yes rfl (yv_of rfl (e18.trans (congrArg B hb21)))) (rv_move e3) rfl hJ) ?_
        refine ac rfl (by
          intro k _nm ρ σm hJ hoff hdep
          have e19 := hdep 4 rfl rfl 19 rfl
          have e18 := hdep 3 rfl rfl 18 rfl
          exact dp_v (v := (B (decide (0 < s3)))) (wanted_yes rfl (yv_of rfl (e18.trans (congrArg B hb21)))) (rv_gtr (a := s3) (b := 0) e19 rfl) rfl hJ) ?_
        refine ac rfl (by
          intro k _nm ρ σm hJ hoff hdep
          have e20 := hdep 5 rfl rfl 20 rfl
          have e18 := hdep 3 rfl rfl 18 rfl
          exact dp_v (v := (B (decide (0 < s3)))) (wanted_yes rfl (yv_of rfl (e18.trans (congrArg B hb21)))) (rv_move e20) rfl hJ) ?_
        refine ac rfl (by
          intro k _nm ρ σm hJ hoff hdep
          have e0 := look_off (N := 40) (hoff 0 rfl) rfl
          have e21 := hdep 6 rfl rfl 21 rfl
          exact dp_v (v := (Sl alist_0 list_0 clist_0)) (wanted_yes rfl (yv_of rfl (e21.trans (congrArg B hb23)))) (rv_move e0) rfl hJ) ?_
        refine ac rfl (by
          intro k _nm ρ σm hJ hoff hdep
          have e3 := look_off (N := 40) (hoff 3 rfl) rfl
          have e21 := hdep 6 rfl rfl 21 rfl
          exact dp_v (v := (I s3)) (wanted_yes rfl (yv_of rfl (e21.trans (congrArg B hb23)))) (rv_move e3) rfl hJ) ?_
        refine ac rfl (by
          intro k _nm ρ σm hJ hoff hdep
          have e23 := hdep 8 rfl rfl 23 rfl
          have e21 := hdep 6 rfl rfl 21 rfl
          exact dp_v (v := (I (w64 (s3 - 1)))) (wanted_yes rfl (yv_of rfl (e21.trans (congrArg B hb23)))) (rv_sub (a := s3) (b := 1) e23 rfl) rfl hJ) ?_
        refine ac rfl (by
          intro k _nm ρ σm hJ hoff hdep
          have e22 := hdep 7 rfl rfl 22 rfl
          have e24 := hdep 9 rfl rfl 24 rfl
          have e21 := hdep 6 rfl rfl 21 rfl
          exact dp_v (v := (pt b27 o28)) (wanted_yes rfl (yv_of rfl (e21.trans (congrArg B hb23)))) (rv_ix Try.underlying23 ti40 e22 e24 hi26) rfl hJ) ?_
        refine all_cons (by
          refine ⟨?_, ?_⟩
          ·intro _nm ρ σm hJ hoff hdep
           have e25 := hdep 10 rfl rfl 25 rfl
           have e21 := hdep 6 rfl rfl 21 rfl
           obtain ⟨H, m⟩ := id hJ
           replace hc30 := fun j hj => (Hs.ro 1 rfl).hmd hx25 hi26 (k := j) (Nat.lt_of_lt_of_eq hj hl29) (hc30 j hj) m
           exact dp_v (v := (.agg #[(I x24.1), (I x24.2)])) (wanted_yes rfl (yv_of rfl (e21.trans (congrArg B hb23)))) (rv_load Try.underlying40 rfl ti40 e25 hl29 hc30) rfl hJ
          trivial) ?_
        refine all_cons (by
          refine ⟨?_, ?_⟩
          ·intro _nm ρ σm hJ hoff hdep
           have e4 := look_off (N := 40) (hoff 4 rfl) rfl
           have e21 := hdep 6 rfl rfl 21 rfl
           obtain ⟨H, m⟩ := id hJ
           have hc31 := H.cells 0 rfl
           exact dp_v (v := (.agg #[(I x6.1), (I x6.2)])) (wanted_yes rfl (yv_of rfl (e21.trans (congrArg B hb23)))) (rv_load (cs := [(I x6.1), (I x6.2)]) Try.underlying40 rfl ti40 e4 rfl hc31) rfl hJ
          trivial) ?_
        exact all_nil
       ·intro _nm ρ σ32 hJ hoff hrel
        have e0 := look_off (N := 40) (hoff 0 rfl) rfl
        have e3 := look_off (N := 40) (hoff 3 rfl) rfl
        have e4 := look_off (N := 40) (hoff 4 rfl) rfl
        have e8 := look_off (N := 40) (hoff 8 rfl) rfl
        have e9 := look_off (N := 40) (hoff 9 rfl) rfl
        have e10 := look_off (N := 40) (hoff 10 rfl) rfl
        have e18 := hrel 3 rfl 18 rfl
        have e21 := hrel 6 rfl 21 rfl
        have e26 := hrel 11 rfl 26 rfl
        have e27 := hrel 12 rfl 27 rfl
        obtain ⟨H, -⟩ := (show Hp S0 σ0 σ32 [Ch.bx n0 b13 0 [(I x6.1), (I x6.2)] [] [], Ch.ro 0 (Sl alist_0 list_0 clist_0) list_0] ∧ Md (cov []) σ15 σ32 from hJ)
        clear hJ Hs
        rw [fr_lookL (L := [(0, (Sl alist_0 list_0 clist_0)), (3, (I s3)), (4, (pt b13 0)), (8, (Sl alist_0 list_0 clist_0)), (9, (I (list_0.length : Int))), (10, (I s3)), (18, (B (!r18))), (21, (B (decide (0 < s3)))), (26, (.agg #[(I x24.1), (I x24.2)])), (27, (.agg #[(I x6.1), (I x6.2)]))]) ⟨e0, e3, e4, e8, e9, e10, e18, e21, e26, e27, trivial⟩]
        clear hoff hrel e0 e3 e4 e8 e9 e10 e18 e21 e26 e27
        obtain ⟨r33, hx34, h'⟩ := bind_some h
        clear h
        have h := h'; clear h'
        have hc35 := c_impl_compareHits hx34
        refine st_call (cx_call hc35 (ent_f hc35.fn rfl) hn0 (show Hp S0 σ0 _ ([] ++ [Ch.bx n0 b13 0 [(I x6.1), (I x6.2)] [] [], Ch.ro 0 (Sl alist_0 list_0 clist_0) list_0]) from (H.sel' [0, 1] rfl rfl))) (wanted_yes rfl (by exact (congrArg some hb23))) ?_
        rintro _ σ36 ⟨_, ⟨rfl, rfl⟩, H, -⟩
        replace H : Hp S0 σ0 σ36 [Ch.bx n0 b13 0 [(I x6.1), (I x6.2)] [] [], Ch.ro 0 (Sl alist_0 list_0 clist_0) list_0] := H
        refine st_g (v := (B (decide (0 ≤ r33)))) (congrArg some hb23) (rv_geq (a := r33) (b := 0) rfl rfl) ?_
        refine st_g (v := (B (decide (0 ≤ r33)))) (congrArg some hb21) (rv_pick_t (congrArg B hb23) rfl) ?_
        refine st (v := (B (decide (0 ≤ r33)))) (rv_pick_f (congrArg B hb21) rfl) ?_
        refine w_end ?_
        obtain rfl := Option.some.inj h
        exact ⟨rfl, _, σ36, fr_join ⟨rfl, rfl, rfl, rfl, rfl, rfl, rfl, trivial⟩, rfl, H.sel' [1, 0] rfl rfl⟩
      ·replace h := bif_f hb23 h
       have Hs := H
       refine rg2 (σ := σ15) (Nm := Unit) 13 [1] [[false], [true]] [[(0, 0)], [(0, 1)], [(1, 1)], [(1, 1)], [(1, 1)], [(1, 1)], [(1, 1)], [(1, 1)], [(1, 1)], [(1, 1)], [(1, 1)], [(1, 1)], [(1, 1)]] 1 [fun _ => fun σm => Hp S0 σ0 σm [Ch.bx n0 b13 0 [(I x6.1), (I x6.2)] [] [], Ch.ro 0 (Sl alist_0 list_0 clist_0) list_0] ∧ Md (cov []) σ15 σm, fun _ => fun σm => Hp S0 σ0 σm [Ch.bx n0 b13 0 [(I x6.1), (I x6.2)] [] [], Ch.ro 0 (Sl alist_0 list_0 clist_0) list_0] ∧ Md (cov []) σ15 σm] [fun _ => (.agg #[(I x6.1), (I x6.2)]), fun _ => (B r18), fun _ => (B (!r18)), fun _ => (B (!r18)), fun _ => (I s3), fun _ => (B (decide (0 < s3))), fun _ => (B (decide (0 < s3))), fun _ => undef, fun _ => undef, fun _ => undef, fun _ => undef, fun _ => undef, fun _ => undef] () (by kernel_rfl) (by kernel_rfl) ?_ ?_ ?_
       ·intro σm m0
        exact ⟨H.grow (m0.mono fun _ h => h.elim), m0⟩
       ·refine all_cons (by
          refine ⟨?_, ?_⟩
          ·intro _nm ρ σm hJ hoff hdep
           have e4 := look_off (N := 40) (hoff 4 rfl) rfl
           obtain ⟨H, m⟩ := id hJ
           have hc17 := H.cells 0 rfl
           exact dp_v (v := (.agg #[(I x6.1), (I x6.2)])) wn (rv_load (cs := [(I x6.1), (I x6.2)]) Try.underlying40 rfl ti40 e4 rfl hc17) rfl hJ
          trivial) ?_
        refine all_cons (by
          refine ⟨?_, ?_⟩
          ·intro _nm ρ σm hJ hoff hdep
           have e15 : look 40 ρ 15 = (.agg #[(I x6.1), (I x6.2)]) := hdep 0 rfl rfl 15 rfl
           obtain ⟨H, m⟩ := id hJ
           refine dp_cx wn (cx_call hc20 (ent_f hc20.fn (by show [look 40 ρ 15] = _; rw [e15])) hn0 (show Hp S0 σ0 _ ([] ++ [Ch.bx n0 b13 0 [(I x6.1), (I x6.2)] [] [], Ch.ro 0 (Sl alist_0 list_0 clist_0) list_0]) from (H.sel' [0, 1] rfl rfl))) ?_
           rintro _ σq ⟨_, ⟨rfl, rfl⟩, H2, m2⟩
           exact ⟨_, (), rfl, rfl, ⟨H2.sel' [0, 1] rfl rfl, m.comp0 m2⟩, stab [0] (by kernel_rfl) ⟨rfl, trivial⟩⟩
          trivial) ?_
        refine ac rfl (by
          intro k _nm ρ σm hJ hoff hdep
          have e16 := hdep 1 rfl rfl 16 rfl
          exact dp_v (v := (B (!r18))) wn (rv_not e16) rfl hJ) ?_
        refine ac rfl (by
          intro k _nm ρ σm hJ hoff hdep
          have e17 := hdep 2 rfl rfl 17 rfl
          exact dp_v (v := (B (!r18))) wn (rv_move e17) rfl hJ) ?_
        refine ac rfl (by
          intro k _nm ρ σm hJ hoff hdep
          have e3 := look_off (N := 40) (hoff 3 rfl) rfl
          have e18 := hdep 3 rfl rfl 18 rfl
          exact dp_v (v := (I s3)) (wanted_yes rfl (yv_of rfl (e18.trans (congrArg B hb21)))) (rv_move e3) rfl hJ) ?_
        refine ac rfl (by
          intro k _nm ρ σm hJ hoff hdep
          have e19 := hdep 4 rfl rfl 19 rfl
          have e18 := hdep 3 rfl rfl 18 rfl
          exact dp_v (v := (B (decide (0 < s3)))) (wanted_yes rfl (yv_of rfl (e18.trans (congrArg B hb21)))) (rv_gtr (a := s3) (b := 0) e19 rfl) rfl hJ) ?_
        refine ac rfl (by
          intro k _nm ρ σm hJ hoff hdep
          have e20 := hdep 5 rfl rfl 20 rfl
          have e18 := hdep 3 rfl rfl 18 rfl
          exact dp_v (v := (B (decide (0 < s3)))) (wanted_yes rfl (yv_of rfl (e18.trans (congrArg B hb21)))) (rv_move e20) rfl hJ) ?_
        refine ac rfl (by
          intro k _nm ρ σm hJ hoff hdep
          have e21 := hdep 6 rfl rfl 21 rfl
          exact dp_skip (wanted_no rfl (yv_of rfl (e21.trans (congrArg B hb23)))) rfl hJ) ?_
        refine ac rfl (by
          intro k _nm ρ σm hJ hoff hdep
          have e21 := hdep 6 rfl rfl 21 rfl
          exact dp_skip (wanted_no rfl (yv_of rfl (e21.trans (congrArg B hb23)))) rfl hJ) ?_
        refine ac rfl (by
          intro k _nm ρ σm hJ hoff hdep
          have e21 := hdep 6 rfl rfl 21 rfl
          exact dp_skip (wanted_no rfl (yv_of rfl (e21.trans (congrArg B hb23)))) rfl hJ) ?_
        refine ac rfl (by
          intro k _nm ρ σm hJ hoff hdep
          have e21 := hdep 6 rfl rfl 21 rfl
          exact dp_skip (wanted_no rfl (yv_of rfl (e21.trans (congrArg B hb23)))) rfl hJ) ?_
        refine ac rfl (by
          intro k _nm ρ σm hJ hoff hdep
          have e21 := hdep 6 rfl rfl 21 rfl
          exact dp_skip (wanted_no rfl (yv_of rfl (e21.trans (congrArg B hb23)))) rfl hJ) ?_
        refine ac rfl (by
          intro k _nm ρ σm hJ hoff hdep
          have e21 := hdep 6 rfl rfl 21 rfl
          exact dp_skip (wanted_no rfl (yv_of rfl (e21.trans (congrArg B hb23)))) rfl hJ) ?_
        exact all_nil
       ·intro _nm ρ σ37 hJ hoff hrel
        have e0 := look_off (N := 40) (hoff 0 rfl) rfl
        have e3 := look_off (N := 40) (hoff 3 rfl) rfl
        have e4 := look_off (N := 40) (hoff 4 rfl) rfl
        have e8 := look_off (N := 40) (hoff 8 rfl) rfl
        have e9 := look_off (N := 40) (hoff 9 rfl) rfl
        have e10 := look_off (N := 40) (hoff 10 rfl) rfl
        have e18 := hrel 3 rfl 18 rfl
        have e21 := hrel 6 rfl 21 rfl
        have e26 := hrel 11 rfl 26 rfl
        have e27 := hrel 12 rfl 27 rfl
        obtain ⟨H, -⟩ := (show Hp S0 σ0 σ37 [Ch.bx n0 b13 0 [(I x6.1), (I x6.2)] [] [], Ch.ro 0 (Sl alist_0 list_0 clist_0) list_0] ∧ Md (cov []) σ15 σ37 from hJ)
        clear hJ Hs
        rw [fr_lookL (L := [(0, (Sl alist_0 list_0 clist_0)), (3, (I s3)), (4, (pt b13 0)), (8, (Sl alist_0 list_0 clist_0)), (9, (I (list_0.length : Int))), (10, (I s3)), (18, (B (!r18))), (21, (B (decide (0 < s3)))), (26, undef), (27, undef)]) ⟨e0, e3, e4, e8, e9, e10, e18, e21, e26, e27, trivial⟩]
        clear hoff hrel e0 e3 e4 e8 e9 e10 e18 e21 e26 e27
        refine st_skip (congrArg some hb23) ?_
        refine st_skip (congrArg some hb23) ?_
        refine st_g (v := (B false)) (congrArg some hb21) (rv_pick_f (congrArg B hb23) rfl) ?_
        refine st (v := (B false)) (rv_pick_f (congrArg B hb21) rfl) ?_
        refine w_end ?_
        obtain rfl := Option.some.inj h
        exact ⟨rfl, _, σ37, fr_join ⟨rfl, rfl, rfl, rfl, rfl, rfl, rfl, trivial⟩, rfl, H.sel' [1, 0] rfl rfl⟩
    ·clear hj
     have h := h'
     clear h' H
     rintro e a w ⟨rfl, ρ, σ38, rfl, rfl, H⟩
     refine q_then ?_
     refine cd_cond o16 rfl (fun hb39 => ?_) (fun hb39 => ?_)
     ·replace h := bif_t hb39 h
      refine c_seq ?_
      refine rg ?_
      refine st (v := (B false)) (rv_assign rfl) ?_
      refine w_end ?_
      refine q_then ?_
      refine c_ret ?_
      refine q_then_r ?_
      refine q_blk_r ?_
      refine q_then_r ?_
      refine q_then_r ?_
      refine q_blk_r ?_
      obtain rfl := Option.some.inj h
      obtain rfl := hres _ rfl
      exact .inr (⟨_, rfl, rfl, _, σ38, fr_join ⟨rfl, trivial⟩, rfl, H.sel' [] rfl rfl⟩)
     ·replace h := bif_f hb39 h
      refine c_skip ?_
      refine q_then ?_
      refine c_seq ?_
      refine rgP (σ := σ38) 5 (by kernel_rfl) (by kernel_rfl) (by kernel_rfl) ?_
      refine sq (v := (Sl alist_0 list_0 clist_0)) (rv_move rfl) ?_
      refine sq (v := (I s3)) (rv_move rfl) ?_
      obtain ⟨xs40, hx41, h'⟩ := bind_some h
      clear h
      have h := h'; clear h'
      obtain ⟨a42, c43, hs44, hR45⟩ := (H.ro 0 rfl).slice hx41
      replace H := H.add (d := Ch.ro 0 (Sl a42 xs40 c43) xs40) hR45 (fun _ h => h)
      clear hR45
      refine sq (v := (Sl a42 xs40 c43)) (rv_slice_h Try.underlying23 ti40 hs44 rfl rfl) ?_
      refine sq (v := (pt b13 0)) (rv_fieldAddr (off := 0) (ft := 3) Try.underlying40 rfl ti3 rfl rfl) ?_
      have hc46 := H.cell (u := (I x6.1)) (o' := 0) 2 0 rfl rfl rfl
      refine sq (v := (I x6.1)) (rv_load1 Try.underlying3 rfl rfl hc46) ?_
      refine sq_end ?_
      intro σ47 hm48
      replace H := H.grow (hm48.mono fun _ h => h); clear hm48
      obtain ⟨r49, hx50, h'⟩ := bind_some h
      clear h
      have h := h'; clear h'
      have hc51 := c_impl_placeIn (alist_0 := a42) (clist_0 := c43) hx50
      refine st_call (cx_call hc51 (ent_f hc51.fn rfl) hn0 (show Hp S0 σ0 _ ([Ch.ro 0 (Sl a42 xs40 c43) xs40] ++ [Ch.ro 0 (Sl a42 xs40 c43) xs40, Ch.ro 0 (Sl alist_0 list_0 clist_0) list_0, Ch.bx n0 b13 0 [(I x6.1), (I x6.2)] [] []]) from (H.sel' [0, 0, 1, 2] rfl rfl))) wn ?_
      rintro _ σ52 ⟨_, ⟨rfl, rfl⟩, H, -⟩
      replace H : Hp S0 σ0 σ52 [Ch.ro 0 (Sl a42 xs40 c43) xs40, Ch.ro 0 (Sl alist_0 list_0 clist_0) list_0, Ch.bx n0 b13 0 [(I x6.1), (I x6.2)] [] []] := H
      refine st (v := (B (decide (0 ≤ r49)))) (rv_geq (a := r49) (b := 0) rfl rfl) ?_
      refine w_end ?_
      refine q_then ?_
      refine cd_cond (decide (0 ≤ r49)) rfl (fun hb53 => ?_) (fun hb53 => ?_)
      ·replace h := bif_t hb53 h
       refine c_seq ?_
       refine rg ?_
       refine st (v := (B false)) (rv_assign rfl) ?_
       refine w_end ?_
       refine q_then ?_
       refine c_ret ?_
       refine q_blk_r ?_
       refine q_then_r ?_
       refine q_then_r ?_
       refine q_blk_r ?_
       obtain rfl := Option.some.inj h
       obtain rfl := hres _ rfl
       exact .inr (⟨_, rfl, rfl, _, σ52, fr_join ⟨rfl, trivial⟩, rfl, H.sel' [] rfl rfl⟩)
      ·replace h := bif_f hb53 h
       refine c_skip ?_
       refine q_blk ?_
       refine q_then ?_
       refine rg ?_
       refine st (v := (I (w64 (s3 + 1)))) (rv_add (a := s3) (b := 1) rfl rfl) ?_
       refine st (v := (I (w64 (s3 + 1)))) (rv_move rfl) ?_
       refine w_end ?_
       refine q_then ?_
       obtain rfl := Option.some.inj h
       exact ⟨_, rfl, _, σ52, fr_join ⟨rfl, rfl, rfl, rfl, trivial⟩, rfl, H.sel' [1] rfl rfl⟩
   ·replace h := bif_f hb5 h
    refine c_exit ?_
    refine q_then_x ?_
    refine q_then_x ?_
    refine q_blk_hit ?_
    obtain rfl := Option.some.inj h
    obtain rfl := hres _ rfl
    exact .inl ⟨_, rfl, rfl, _, σ4, fr_join trivial, rfl, H.sel' [] rfl rfl⟩
  ·clear hj
   have h := h'
   clear h' H
   rintro e a w (⟨t54, rfl, rfl, ρ, σ55, rfl, rfl, H⟩ | ⟨t56, rfl, rfl, ρ, σ57, rfl, rfl, H⟩)
   ·replace h := selim_l h
    refine q_then ?_
    refine c_seq ?_
    refine rg ?_
    refine st (v := (B true)) (rv_assign rfl) ?_
    refine w_end ?_
    refine q_then ?_
    refine c_ret ?_
    obtain rfl := Option.some.inj h
    exact fin_ret (v := (B true)) (results_ok Try.results15 (res_tmp (v := (B true)) rfl res_nil) rfl) ⟨rfl, rfl⟩ (H.sel' [] rfl rfl)
   ·replace h := selim_r h
    refine q_then_r ?_
    obtain rfl := Option.some.inj h
    exact fin_ret (v := (B t56)) (results_ok Try.results15 (res_tmp (v := (B t56)) rfl res_nil) rfl) ⟨rfl, rfl⟩ (H.sel' [] rfl rfl)

theorem c_impl_RankScore {list_0 : List (Int × Int)} {key_1 : Int} {alist_0 : Option Addr} {clist_0 : Nat} {r : Int} (h : M.impl_RankScore list_0 key_1 = some r) :
    Cal2 Try.prog 28 [(Sl alist_0 list_0 clist_0), (I key_1)] [Ch.ro 0 (Sl alist_0 list_0 clist_0) list_0] (fun n0 v L => v = (I r) ∧ L = []) := by
 refine cal2 (n := 18) Try.func28 rfl rfl rfl rfl ?_
 intro S0 σ0 n0 hn0 H
 unfold M.impl_RankScore at h
 refine c_seq ?_
 refine rg ?_
 refine st (v := (I 0)) (rv_assign rfl) ?_
 refine w_end ?_
 refine q_then ?_
 refine c_seq ?_
 refine c_seq ?_
 refine rg ?_
 refine st (v := (Sl alist_0 list_0 clist_0)) (rv_move rfl) ?_
 obtain ⟨r1, hx2, h'⟩ := bind_some h
 clear h
 have h := h'; clear h'
 have hc3 := c_impl_ValidHits (alist_0 := alist_0) (clist_0 := clist_0) hx2
 refine st_call (cx_call hc3 (ent_f hc3.fn rfl) hn0 (show Hp S0 σ0 _ ([Ch.ro 0 (Sl alist_0 list_0 clist_0) list_0] ++ [Ch.ro 0 (Sl alist_0 list_0 clist_0) list_0]) from (H.sel' [0, 0] rfl rfl))) wn ?_
 rintro _ σ4 ⟨_, ⟨rfl, rfl⟩, H, -⟩
 replace H : Hp S0 σ0 σ4 [Ch.ro 0 (Sl alist_0 list_0 clist_0) list_0] := H
 refine st (v := (B (!r1))) (rv_not rfl) ?_
 refine w_end ?_
 refine q_then ?_
 refine cd_cond (!r1) rfl (fun hb5 => ?_) (fun hb5 => ?_)
 ·replace h := bif_t hb5 h
  refine c_seq ?_
  refine rg ?_
  refine st (v := (I (-1))) (rv_assign rfl) ?_
  refine w_end ?_
  refine q_then ?_
  refine c_ret ?_
  refine q_then_r ?_
  obtain rfl := Option.some.inj h
  exact fin_ret (v := (I (-1))) (results_ok Try.results28 (res_tmp (v := (I (-1))) rfl res_nil) rfl) ⟨rfl, rfl⟩ (H.sel' [] rfl rfl)
 ·replace h := bif_f hb5 h
  refine c_skip ?_
  refine q_then ?_
  refine c_seq ?_
  refine rg ?_
  refine st (v := (Sl alist_0 list_0 clist_0)) (rv_move rfl) ?_
  refine st (v := (I key_1)) (rv_move rfl) ?_
  obtain ⟨r6, hx7, h'⟩ := bind_some h
  clear h
  have h := h'; clear h'
  have hc8 := c_impl_placeIn (alist_0 := alist_0) (clist_0 := clist_0) hx7
  refine st_call (cx_call hc8 (ent_f hc8.fn rfl) hn0 (show Hp S0 σ0 _ ([Ch.ro 0 (Sl alist_0 list_0 clist_0) list_0] ++ [Ch.ro 0 (Sl alist_0 list_0 clist_0) list_0]) from (H.sel' [0, 0] rfl rfl))) wn ?_
  rintro _ σ9 ⟨_, ⟨rfl, rfl⟩, H, -⟩
  replace H : Hp S0 σ0 σ9 [Ch.ro 0 (Sl alist_0 list_0 clist_0) list_0] := H
  refine st (v := (I r6)) (rv_assign rfl) ?_
  refine w_end ?_
  refine q_then ?_
  refine c_seq ?_
  refine c_seq ?_
  refine rg ?_
  refine st (v := (I r6)) (rv_move rfl) ?_
  refine st (v := (B (decide (r6 < 0)))) (rv_lss (a := r6) (b := 0) rfl rfl) ?_
  refine w_end ?_
  refine q_then ?_
  refine cd_cond (decide (r6 < 0)) rfl (fun hb10 => ?_) (fun hb10 => ?_)
  ·replace h := bif_t hb10 h
   refine c_seq ?_
   refine rg ?_
   refine st (v := (I 0)) (rv_assign rfl) ?_
   refine w_end ?_
   refine q_then ?_
   refine c_ret ?_
   refine q_then_r ?_
   obtain rfl := Option.some.inj h
   exact fin_ret (v := (I 0)) (results_ok Try.results28 (res_tmp (v := (I 0)) rfl res_nil) rfl) ⟨rfl, rfl⟩ (H.sel' [] rfl rfl)
  ·replace h := bif_f hb10 h
   refine c_skip ?_
   refine q_then ?_
   refine c_seq ?_
   refine rg ?_
   refine st (v := (I r6)) (rv_move rfl) ?_
   refine st (v := (I (w64 (60 + r6)))) (rv_add (a := 60) (b := r6) rfl rfl) ?_
   refine st (v := (I (w64 ((w64 (60 + r6)) + 1)))) (rv_add (a := (w64 (60 + r6))) (b := 1) rfl rfl) ?_
   obtain ⟨q11, hx12, h'⟩ := bind_some h
   clear h
   have h := h'; clear h'
   refine st (v := (I q11)) (rv_quoG (a := 100000) (b := (w64 ((w64 (60 + r6)) + 1))) hx12 rfl rfl) ?_
   refine st (v := (I q11)) (rv_assign rfl) ?_
   refine w_end ?_
   refine q_then ?_
   refine c_ret ?_
   obtain rfl := Option.some.inj h
   exact fin_ret (v := (I q11)) (results_ok Try.results28 (res_tmp (v := (I q11)) rfl res_nil) rfl) ⟨rfl, rfl⟩ (H.sel' [] rfl rfl)

end Go.Vs
