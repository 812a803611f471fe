/- The functions compute what their models say. -/
import Derived.Test.YtpccmkphddipdaaKShardItemsNoneC1
set_option linter.unusedVariables false
set_option linter.unusedSimpArgs false
set_option maxRecDepth 20000
namespace Go.Vs
open Go Go.Proofs
attribute [local irreducible] Code.wp Code.wpIn wpList wpListIn wpQuiet Calls CallsIn

theorem c_spec_PutItem {list_0 : List (Int × (List Int) × Int)} {x_1 : Int × (List Int) × Int} {alist_0 : Option Addr} {clist_0 : Nat} {ax_1_1 : Option Addr} {cx_1_1 : Nat} {r : (List (Int × (List Int) × Int)) × Bool} (h : M.spec_PutItem list_0 x_1 = some r) :
    Cal2 Try.prog 79 [(Sl alist_0 list_0 clist_0), (.agg #[(I x_1.1), (Sl ax_1_1 x_1.2.1 cx_1_1), (I x_1.2.2)])] [Ch.ro 0 (Sl alist_0 list_0 clist_0) list_0, Ch.ro 0 (Sl ax_1_1 x_1.2.1 cx_1_1) x_1.2.1] (fun n0 v L => ∃ (az1 : Option Addr), ∃ (cz2 : Nat), v = (.tuple #[(Sl az1 r.1 cz2), (B r.2)]) ∧ L = [Ch.own n0 n0 (Sl az1 r.1 cz2) r.1]) := by
 refine cal2 (n := 22) Try.func79 rfl rfl rfl rfl ?_
 intro S0 σ0 n0 hn0 H
 unfold M.spec_PutItem at h
 refine c_seq ?_
 refine rg ?_
 refine st_ex (ex_box (cs := [(I x_1.1), (Sl ax_1_1 x_1.2.1 cx_1_1), (I x_1.2.2)]) H hn0 rfl rfl) wn ?_
 rintro _ σ2 ⟨b1, rfl, H, -⟩
 refine st (v := (.slice none 0 0)) (rv_assign rfl) ?_
 refine st (v := (B false)) (rv_assign rfl) ?_
 refine w_end ?_
 refine q_then ?_
 refine c_seq ?_
 refine c_seq ?_
 obtain ⟨o3, hj, h'⟩ := bind_some h
 clear h
 refine c_cut (fun e a w => e = .normal ∧ ∃ (ρ : Nat → Value) (σ : St), a = fr 22 (updL ρ [(0, (Sl alist_0 list_0 clist_0)), (3, (pt b1 0)), (14, (B o3))]) ∧ w = σ.w ∧ Hp S0 σ0 σ [Ch.ro 0 (Sl alist_0 list_0 clist_0) list_0, Ch.ro 0 (Sl ax_1_1 x_1.2.1 cx_1_1) x_1.2.1, Ch.bx n0 b1 0 [(I x_1.1), (Sl ax_1_1 x_1.2.1 cx_1_1), (I x_1.2.2)] [] []]) ?_ ?_
 ·clear h'
  rename _ = some o3 => h
  refine rg ?_
  refine st (v := (Sl alist_0 list_0 clist_0)) (rv_move rfl) ?_
  obtain ⟨r4, hx5, h'⟩ := bind_some h
  clear h
  have h := h'; clear h'
  have hc6 := c_spec_validStore (alist_0 := alist_0) (clist_0 := clist_0) hx5
  refine st_call (cx_call hc6 (ent_f hc6.fn rfl) hn0 (show Hp S0 σ0 _ ([Ch.ro 0 (Sl alist_0 list_0 clist_0) list_0] ++ [Ch.bx n0 b1 0 [(I x_1.1), (Sl ax_1_1 x_1.2.1 cx_1_1), (I x_1.2.2)] [] [], Ch.ro 0 (Sl alist_0 list_0 clist_0) list_0, Ch.ro 0 (Sl ax_1_1 x_1.2.1 cx_1_1) x_1.2.1]) from (H.sel' [1, 0, 1, 2] rfl rfl))) wn ?_
  rintro _ σ7 ⟨_, ⟨rfl, rfl⟩, H, -⟩
  replace H : Hp S0 σ0 σ7 [Ch.bx n0 b1 0 [(I x_1.1), (Sl ax_1_1 x_1.2.1 cx_1_1), (I x_1.2.2)] [] [], Ch.ro 0 (Sl alist_0 list_0 clist_0) list_0, Ch.ro 0 (Sl ax_1_1 x_1.2.1 cx_1_1) x_1.2.1] := H
  refine st (v := (B (!r4))) (rv_not rfl) ?_
  refine st (v := (B (!r4))) (rv_move rfl) ?_
  rcases Bool.eq_false_or_eq_true (!r4) with hb8 | hb8
  ·replace h := bif_t hb8 h
   refine st_skip (congrArg some hb8) ?_
   refine st_skip (congrArg some hb8) ?_
   refine st_skip (congrArg some hb8) ?_
   refine st (v := (B true)) (rv_pick_t (congrArg B hb8) rfl) ?_
   refine w_end ?_
   obtain rfl := Option.some.inj h
   exact ⟨rfl, _, σ7, fr_join ⟨rfl, rfl, rfl, trivial⟩, rfl, H.sel' [1, 2, 0] rfl rfl⟩
  ·replace h := bif_f hb8 h
   have hc9 := H.cells 0 rfl
   refine st_g (v := (.agg #[(I x_1.1), (Sl ax_1_1 x_1.2.1 cx_1_1), (I x_1.2.2)])) (congrArg some hb8) (rv_load (cs := [(I x_1.1), (Sl ax_1_1 x_1.2.1 cx_1_1), (I x_1.2.2)]) Try.underlying36 rfl ti36 rfl rfl hc9) ?_
   obtain ⟨r10, hx11, h'⟩ := bind_some h
   clear h
   have h := h'; clear h'
   have hc12 := c_spec_validItem (ax_0_1 := ax_1_1) (cx_0_1 := cx_1_1) hx11
   refine st_call (cx_call hc12 (ent_f hc12.fn rfl) hn0 (show Hp S0 σ0 _ ([Ch.ro 0 (Sl ax_1_1 x_1.2.1 cx_1_1) x_1.2.1] ++ [Ch.bx n0 b1 0 [(I x_1.1), (Sl ax_1_1 x_1.2.1 cx_1_1), (I x_1.2.2)] [] [], Ch.ro 0 (Sl alist_0 list_0 clist_0) list_0, Ch.ro 0 (Sl ax_1_1 x_1.2.1 cx_1_1) x_1.2.1]) from (H.sel' [2, 0, 1, 2] rfl rfl))) (wanted_yes rfl (by exact (congrArg some hb8))) ?_
   rintro _ σ13 ⟨_, ⟨rfl, rfl⟩, H, -⟩
   replace H : Hp S0 σ0 σ13 [Ch.bx n0 b1 0 [(I x_1.1), (Sl ax_1_1 x_1.2.1 cx_1_1), (I x_1.2.2)] [] [], Ch.ro 0 (Sl alist_0 list_0 clist_0) list_0, Ch.ro 0 (Sl ax_1_1 x_1.2.1 cx_1_1) x_1.2.1] := H
   refine st_g (v := (B (!r10))) (congrArg some hb8) (rv_not rfl) ?_
   refine st (v := (B (!r10))) (rv_pick_f (congrArg B hb8) rfl) ?_
   refine w_end ?_
   obtain rfl := Option.some.inj h
   exact ⟨rfl, _, σ13, fr_join ⟨rfl, rfl, rfl, trivial⟩, rfl, H.sel' [1, 2, 0] rfl rfl⟩
 ·clear hj
  have h := h'
  clear h' H
  rintro e a w ⟨rfl, ρ, σ14, rfl, rfl, H⟩
  refine q_then ?_
  refine cd_cond o3 rfl (fun hb15 => ?_) (fun hb15 => ?_)
  ·replace h := bif_t hb15 h
   refine c_seq ?_
   refine rg ?_
   refine st (v := (.slice none 0 0)) (rv_assign rfl) ?_
   refine st (v := (B false)) (rv_assign rfl) ?_
   refine w_end ?_
   refine q_then ?_
   refine c_ret ?_
   refine q_then_r ?_
   replace H := H.nilOwn (Int × (List Int) × Int) n0 n0
   obtain rfl := Option.some.inj h
   exact fin_ret (v := (.tuple #[(.slice none 0 0), (B false)])) (results_ok Try.results79 (res_tmp (v := (.slice none 0 0)) rfl (res_tmp (v := (B false)) rfl res_nil)) rfl) ⟨none, 0, rfl, rfl⟩ (H.sel' [0] rfl rfl)
  ·replace h := bif_f hb15 h
   refine c_skip ?_
   refine q_then ?_
   refine c_seq ?_
   refine rg ?_
   refine st (v := (Sl alist_0 list_0 clist_0)) (rv_move rfl) ?_
   have hc16 := H.cells 2 rfl
   refine st (v := (.agg #[(I x_1.1), (Sl ax_1_1 x_1.2.1 cx_1_1), (I x_1.2.2)])) (rv_load (cs := [(I x_1.1), (Sl ax_1_1 x_1.2.1 cx_1_1), (I x_1.2.2)]) Try.underlying36 rfl ti36 rfl rfl hc16) ?_
   obtain ⟨r17, hx18, h'⟩ := bind_some h
   clear h
   have h := h'; clear h'
   have hc19 := c_spec_put (alist_0 := alist_0) (clist_0 := clist_0) (ax_1_1 := ax_1_1) (cx_1_1 := cx_1_1) hx18
   refine st_call (cx_call hc19 (ent_f hc19.fn rfl) hn0 (show Hp S0 σ0 _ ([Ch.ro 0 (Sl alist_0 list_0 clist_0) list_0, Ch.ro 0 (Sl ax_1_1 x_1.2.1 cx_1_1) x_1.2.1] ++ [Ch.ro 0 (Sl alist_0 list_0 clist_0) list_0, Ch.ro 0 (Sl ax_1_1 x_1.2.1 cx_1_1) x_1.2.1, Ch.bx n0 b1 0 [(I x_1.1), (Sl ax_1_1 x_1.2.1 cx_1_1), (I x_1.2.2)] [] []]) from (H.sel' [0, 1, 0, 1, 2] rfl rfl))) wn ?_
   rintro _ σ22 ⟨_, ⟨a20, c21, rfl, rfl⟩, H, -⟩
   replace H : Hp S0 σ0 σ22 [Ch.own n0 n0 (Sl a20 r17 c21) r17, Ch.ro 0 (Sl alist_0 list_0 clist_0) list_0, Ch.ro 0 (Sl ax_1_1 x_1.2.1 cx_1_1) x_1.2.1, Ch.bx n0 b1 0 [(I x_1.1), (Sl ax_1_1 x_1.2.1 cx_1_1), (I x_1.2.2)] [] []] := H
   refine st (v := (Sl a20 r17 c21)) (rv_assign rfl) ?_
   refine w_end ?_
   refine q_then ?_
   refine c_seq ?_
   refine c_seq ?_
   refine rg ?_
   refine st (v := (Sl a20 r17 c21)) (rv_move rfl) ?_
   obtain ⟨r23, hx24, h'⟩ := bind_some h
   clear h
   have h := h'; clear h'
   have hc25 := c_spec_validStore (alist_0 := a20) (clist_0 := c21) hx24
   have hle := Nat.le_trans hn0 H.size
   refine st_call (cx_lend (Loan.lend Loan.nil) hc25 (ent_f hc25.fn rfl) (show Hp S0 σ0 _ ([Ch.own n0 n0 (Sl a20 r17 c21) r17] ++ ([] ++ [Ch.ro 0 (Sl alist_0 list_0 clist_0) list_0, Ch.ro 0 (Sl ax_1_1 x_1.2.1 cx_1_1) x_1.2.1, Ch.bx n0 b1 0 [(I x_1.1), (Sl ax_1_1 x_1.2.1 cx_1_1), (I x_1.2.2)] [] []])) from (H.sel' [0, 1, 2, 3] rfl rfl)) (by rintro _ _ _ ⟨rfl, rfl⟩; exact trivial)) wn ?_
   rintro _ σ26 ⟨_, ⟨rfl, rfl⟩, H, -, -⟩
   replace H : Hp S0 σ0 σ26 [Ch.own n0 n0 (Sl a20 r17 c21) r17, Ch.ro 0 (Sl alist_0 list_0 clist_0) list_0, Ch.ro 0 (Sl ax_1_1 x_1.2.1 cx_1_1) x_1.2.1, Ch.bx n0 b1 0 [(I x_1.1), (Sl ax_1_1 x_1.2.1 cx_1_1), (I x_1.2.2)] [] []] := H
   clear hle
   replace H : Hp S0 σ0 σ26 [Ch.own n0 n0 (Sl a20 r17 c21) r17, Ch.ro 0 (Sl alist_0 list_0 clist_0) list_0, Ch.ro 0 (Sl ax_1_1 x_1.2.1 cx_1_1) x_1.2.1, Ch.bx n0 b1 0 [(I x_1.1), (Sl ax_1_1 x_1.2.1 cx_1_1), (I x_1.2.2)] [] []] := H
   refine st (v := (B (!r23))) (rv_not rfl) ?_
   refine w_end ?_
   refine q_then ?_
   refine cd_cond (!r23) rfl (fun hb27 => ?_) (fun hb27 => ?_)
   ·replace h := bif_t hb27 h
    refine c_seq ?_
    refine rg ?_
    refine st (v := (.slice none 0 0)) (rv_assign rfl) ?_
    refine st (v := (B false)) (rv_assign rfl) ?_
    refine w_end ?_
    refine q_then ?_
    refine c_ret ?_
    refine q_then_r ?_
    replace H := H.nilOwn (Int × (List Int) × Int) n0 n0
    obtain rfl := Option.some.inj h
    exact fin_ret (v := (.tuple #[(.slice none 0 0), (B false)])) (results_ok Try.results79 (res_tmp (v := (.slice none 0 0)) rfl (res_tmp (v := (B false)) rfl res_nil)) rfl) ⟨none, 0, rfl, rfl⟩ (H.sel' [0] rfl rfl)
   ·replace h := bif_f hb27 h
    refine c_skip ?_
    refine q_then ?_
    refine c_seq ?_
    refine rg ?_
    refine st (v := (Sl a20 r17 c21)) (rv_move rfl) ?_
    refine st (v := (Sl a20 r17 c21)) (rv_assign rfl) ?_
    refine st (v := (B true)) (rv_assign rfl) ?_
    refine w_end ?_
    refine q_then ?_
    refine c_ret ?_
    obtain rfl := Option.some.inj h
    exact fin_ret (v := (.tuple #[(Sl a20 r17 c21), (B true)])) (results_ok Try.results79 (res_tmp (v := (Sl a20 r17 c21)) rfl (res_tmp (v := (B true)) rfl res_nil)) rfl) ⟨a20, c21, rfl, rfl⟩ (H.sel' [0] rfl rfl)

theorem c_spec_someCoord {r_0 : (List UInt8) × Int} {ar_0_0 : Option Addr} {cr_0_0 : Nat} {lor_0 br_0 or_0 : Nat} {prer_0 sufr_0 : List Value} {r : Int × ((List UInt8) × Int)} (h : M.spec_someCoord r_0 = some r) :
    Cal2 Try.prog 107 [(pt br_0 or_0)] [Ch.bx lor_0 br_0 or_0 [(Sl ar_0_0 r_0.1 cr_0_0), (I r_0.2)] prer_0 sufr_0, Ch.ro 0 (Sl ar_0_0 r_0.1 cr_0_0) r_0.1] (fun n0 v L => ∃ (az1 : Option Addr), ∃ (cz2 : Nat), v = (I r.1) ∧ L = [Ch.bx lor_0 br_0 or_0 [(Sl az1 r.2.1 cz2), (I r.2.2)] prer_0 sufr_0, Ch.ro 0 (Sl az1 r.2.1 cz2) r.2.1]) := by
 refine cal2 (n := 12) Try.func107 rfl rfl rfl rfl ?_
 intro S0 σ0 n0 hn0 H
 unfold M.spec_someCoord at h
 refine c_seq ?_
 refine rg ?_
 refine st (v := (I 0)) (rv_assign rfl) ?_
 refine w_end ?_
 refine q_then ?_
 refine c_seq ?_
 refine rg ?_
 refine st (v := (pt br_0 or_0)) (rv_move rfl) ?_
 refine st (v := (pt br_0 or_0)) (rv_move rfl) ?_
 obtain ⟨r1, hx2, h'⟩ := bind_some h
 clear h
 have h := h'; clear h'
 have hc3 := c_spec_reader_pick (lor_0 := lor_0) (br_0 := br_0) (or_0 := or_0) (prer_0 := prer_0) (sufr_0 := sufr_0) (ar_0_0 := ar_0_0) (cr_0_0 := cr_0_0) hx2
 refine st_call (cx_call hc3 (ent_f hc3.fn rfl) hn0 (show Hp S0 σ0 _ ([Ch.bx lor_0 br_0 or_0 [(Sl ar_0_0 r_0.1 cr_0_0), (I r_0.2)] prer_0 sufr_0, Ch.ro 0 (Sl ar_0_0 r_0.1 cr_0_0) r_0.1] ++ [Ch.ro 0 (Sl ar_0_0 r_0.1 cr_0_0) r_0.1]) from (H.sel' [0, 1, 1] rfl rfl))) wn ?_
 rintro _ σ6 ⟨_, ⟨a4, c5, rfl, rfl⟩, H, -⟩
 replace H : Hp S0 σ0 σ6 [Ch.bx lor_0 br_0 or_0 [(Sl a4 r1.2.1 c5), (I r1.2.2)] prer_0 sufr_0, Ch.ro 0 (Sl a4 r1.2.1 c5) r1.2.1, Ch.ro 0 (Sl ar_0_0 r_0.1 cr_0_0) r_0.1] := H
 refine st (v := (I (w64 (r1.1 - 100)))) (rv_sub (a := r1.1) (b := 100) rfl rfl) ?_
 refine st (v := (pt br_0 or_0)) (rv_move rfl) ?_
 obtain ⟨r7, hx8, h'⟩ := bind_some h
 clear h
 have h := h'; clear h'
 have hc9 := c_spec_reader_pick (lor_0 := lor_0) (br_0 := br_0) (or_0 := or_0) (prer_0 := prer_0) (sufr_0 := sufr_0) (ar_0_0 := a4) (cr_0_0 := c5) hx8
 refine st_call (cx_call hc9 (ent_f hc9.fn rfl) hn0 (show Hp S0 σ0 _ ([Ch.bx lor_0 br_0 or_0 [(Sl a4 r1.2.1 c5), (I r1.2.2)] prer_0 sufr_0, Ch.ro 0 (Sl a4 r1.2.1 c5) r1.2.1] ++ [Ch.ro 0 (Sl a4 r1.2.1 c5) r1.2.1, Ch.ro 0 (Sl ar_0_0 r_0.1 cr_0_0) r_0.1]) from (H.sel' [0, 1, 1, 2] rfl rfl))) wn ?_
 rintro _ σ12 ⟨_, ⟨a10, c11, rfl, rfl⟩, H, -⟩
 replace H : Hp S0 σ0 σ12 [Ch.bx lor_0 br_0 or_0 [(Sl a10 r7.2.1 c11), (I r7.2.2)] prer_0 sufr_0, Ch.ro 0 (Sl a10 r7.2.1 c11) r7.2.1, Ch.ro 0 (Sl a4 r1.2.1 c5) r1.2.1, Ch.ro 0 (Sl ar_0_0 r_0.1 cr_0_0) r_0.1] := H
 refine st (v := (I (w64 (r7.1 - 10)))) (rv_sub (a := r7.1) (b := 10) rfl rfl) ?_
 refine st_ex (ex_buildSlice (el := n0) (xs := ([0, 1, -1, 5, -7, 10, 3, 100, -100, w64 (r1.1 - 100), w64 (r7.1 - 10)] : List Int)) (ps := [(0, (I 0)), (1, (I 1)), (2, (I (-1))), (3, (I 5)), (4, (I (-7))), (5, (I 10)), (6, (I 3)), (7, (I 100)), (8, (I (-100))), (9, (I (w64 (r1.1 - 100)))), (10, (I (w64 (r7.1 - 10))))]) (cs := [(I 0), (I 1), (I (-1)), (I 5), (I (-7)), (I 10), (I 3), (I 100), (I (-100)), (I (w64 (r1.1 - 100))), (I (w64 (r7.1 - 10)))]) H hn0 Try.underlying34 ti3 rfl rfl (by kernel_rfl) (.cons (c := [(I 0)]) rfl (.cons (c := [(I 1)]) rfl (.cons (c := [(I (-1))]) rfl (.cons (c := [(I 5)]) rfl (.cons (c := [(I (-7))]) rfl (.cons (c := [(I 10)]) rfl (.cons (c := [(I 3)]) rfl (.cons (c := [(I 100)]) rfl (.cons (c := [(I (-100))]) rfl (.cons (c := [(I (w64 (r1.1 - 100)))]) rfl (.cons (c := [(I (w64 (r7.1 - 10)))]) rfl (.nil)))))))))))) rfl) wn ?_
 rintro _ σ14 ⟨b13, rfl, H, -⟩
 obtain ⟨σ15, hw16, H, -⟩ := H.pub 0 rfl (Nat.le_refl _)
 rw [← hw16]; clear hw16
 replace H := H.roLow 0 0 rfl (Nat.zero_le _)
 obtain ⟨r17, hx18, h'⟩ := bind_some h
 clear h
 have h := h'; clear h'
 have hc19 := c_spec_reader_one (lor_0 := lor_0) (br_0 := br_0) (or_0 := or_0) (prer_0 := prer_0) (sufr_0 := sufr_0) (ar_0_0 := a10) (cr_0_0 := c11) (alist_1 := (some ⟨b13, 0, none⟩)) (clist_1 := 11) hx18
 refine st_call (cx_call hc19 (ent_f hc19.fn rfl) hn0 (show Hp S0 σ0 _ ([Ch.bx lor_0 br_0 or_0 [(Sl a10 r7.2.1 c11), (I r7.2.2)] prer_0 sufr_0, Ch.ro 0 (Sl a10 r7.2.1 c11) r7.2.1, Ch.ro 0 (Sl (some ⟨b13, 0, none⟩) ([0, 1, -1, 5, -7, 10, 3, 100, -100, w64 (r1.1 - 100), w64 (r7.1 - 10)] : List Int) 11) ([0, 1, -1, 5, -7, 10, 3, 100, -100, w64 (r1.1 - 100), w64 (r7.1 - 10)] : List Int)] ++ [Ch.ro 0 (Sl (some ⟨b13, 0, none⟩) ([0, 1, -1, 5, -7, 10, 3, 100, -100, w64 (r1.1 - 100), w64 (r7.1 - 10)] : List Int) 11) ([0, 1, -1, 5, -7, 10, 3, 100, -100, w64 (r1.1 - 100), w64 (r7.1 - 10)] : List Int), Ch.ro n0 (Sl (some ⟨b13, 0, none⟩) ([0, 1, -1, 5, -7, 10, 3, 100, -100, w64 (r1.1 - 100), w64 (r7.1 - 10)] : List Int) 11) ([0, 1, -1, 5, -7, 10, 3, 100, -100, w64 (r1.1 - 100), w64 (r7.1 - 10)] : List Int), Ch.ro 0 (Sl a10 r7.2.1 c11) r7.2.1, Ch.ro 0 (Sl a4 r1.2.1 c5) r1.2.1, Ch.ro 0 (Sl ar_0_0 r_0.1 cr_0_0) r_0.1]) from (H.sel' [2, 3, 0, 0, 1, 3, 4, 5] rfl rfl))) wn ?_
 rintro _ σ22 ⟨_, ⟨a20, c21, rfl, rfl⟩, H, -⟩
 replace H : Hp S0 σ0 σ22 [Ch.bx lor_0 br_0 or_0 [(Sl a20 r17.2.1 c21), (I r17.2.2)] prer_0 sufr_0, Ch.ro 0 (Sl a20 r17.2.1 c21) r17.2.1, Ch.ro 0 (Sl (some ⟨b13, 0, none⟩) ([0, 1, -1, 5, -7, 10, 3, 100, -100, w64 (r1.1 - 100), w64 (r7.1 - 10)] : List Int) 11) ([0, 1, -1, 5, -7, 10, 3, 100, -100, w64 (r1.1 - 100), w64 (r7.1 - 10)] : List Int), Ch.ro n0 (Sl (some ⟨b13, 0, none⟩) ([0, 1, -1, 5, -7, 10, 3, 100, -100, w64 (r1.1 - 100), w64 (r7.1 - 10)] : List Int) 11) ([0, 1, -1, 5, -7, 10, 3, 100, -100, w64 (r1.1 - 100), w64 (r7.1 - 10)] : List Int), Ch.ro 0 (Sl a10 r7.2.1 c11) r7.2.1, Ch.ro 0 (Sl a4 r1.2.1 c5) r1.2.1, Ch.ro 0 (Sl ar_0_0 r_0.1 cr_0_0) r_0.1] := H
 refine st (v := (I r17.1)) (rv_assign rfl) ?_
 refine w_end ?_
 refine q_then ?_
 refine c_ret ?_
 obtain rfl := Option.some.inj h
 exact fin_ret (v := (I r17.1)) (results_ok Try.results107 (res_tmp (v := (I r17.1)) rfl res_nil) rfl) ⟨a20, c21, rfl, rfl⟩ (H.sel' [0, 1] rfl rfl)

theorem c_spec_someVector {r_0 : (List UInt8) × Int} {ar_0_0 : Option Addr} {cr_0_0 : Nat} {lor_0 br_0 or_0 : Nat} {prer_0 sufr_0 : List Value} {r : (List Int) × ((List UInt8) × Int)} (h : M.spec_someVector r_0 = some r) :
    Cal2 Try.prog 97 [(pt br_0 or_0)] [Ch.bx lor_0 br_0 or_0 [(Sl ar_0_0 r_0.1 cr_0_0), (I r_0.2)] prer_0 sufr_0, Ch.ro 0 (Sl ar_0_0 r_0.1 cr_0_0) r_0.1] (fun n0 v L => ∃ (az1 : Option Addr), ∃ (cz2 : Nat), ∃ (az3 : Option Addr), ∃ (cz4 : Nat), v = (Sl az1 r.1 cz2) ∧ L = [Ch.own n0 n0 (Sl az1 r.1 cz2) r.1, Ch.bx lor_0 br_0 or_0 [(Sl az3 r.2.1 cz4), (I r.2.2)] prer_0 sufr_0, Ch.ro 0 (Sl az3 r.2.1 cz4) r.2.1]) := by
 refine cal2 (n := 16) Try.func97 rfl rfl rfl rfl ?_
 intro S0 σ0 n0 hn0 H
 unfold M.spec_someVector at h
 refine c_seq ?_
 refine rg ?_
 refine st (v := (.slice none 0 0)) (rv_assign rfl) ?_
 refine w_end ?_
 refine q_then ?_
 refine c_seq ?_
 refine rg ?_
 refine st_ex (ex_buildSlice (el := n0) (xs := ([] : List Int)) (ps := []) (cs := []) H hn0 Try.underlying34 ti3 rfl rfl (by kernel_rfl) (.nil) rfl) wn ?_
 rintro _ σ2 ⟨b1, rfl, H, -⟩
 refine st (v := (Sl (some ⟨b1, 0, none⟩) ([] : List Int) 0)) (rv_assign rfl) ?_
 refine w_end ?_
 refine q_then ?_
 refine c_seq ?_
 refine c_seq ?_
 refine rg ?_
 refine st (v := (I 0)) (rv_assign rfl) ?_
 refine w_end ?_
 refine q_then ?_
 obtain ⟨o3, hj, h'⟩ := bind_some h
 clear h
 refine c_cut (fun e a w => e = .normal ∧ ∃ (ρ : Nat → Value) (σ : St) (aj1 : Option Addr) (cj2 : Nat) (aj3 : Option Addr) (cj4 : Nat), a = fr 16 (updL ρ [(0, (pt br_0 or_0)), (3, (Sl aj3 o3.2 cj4))]) ∧ w = σ.w ∧ Hp S0 σ0 σ [Ch.bx lor_0 br_0 or_0 [(Sl aj1 o3.1.1 cj2), (I o3.1.2)] prer_0 sufr_0, Ch.ro 0 (Sl aj1 o3.1.1 cj2) o3.1.1, Ch.own n0 n0 (Sl aj3 o3.2 cj4) o3.2]) ?_ ?_
 ·clear h'
  rename _ = some o3 => h
  refine c_blk ?_
  refine wp_loopM _ h (fun s4 a w => ∃ (ρ : Nat → Value) (σ : St) (aj1 : Option Addr) (cj2 : Nat) (aj3 : Option Addr) (cj4 : Nat), a = fr 16 (updL ρ [(0, (pt br_0 or_0)), (3, (Sl aj3 s4.2.1 cj4)), (4, (I s4.2.2))]) ∧ w = σ.w ∧ Hp S0 σ0 σ [Ch.bx lor_0 br_0 or_0 [(Sl aj1 s4.1.1 cj2), (I s4.1.2)] prer_0 sufr_0, Ch.ro 0 (Sl aj1 s4.1.1 cj2) s4.1.1, Ch.own n0 n0 (Sl aj3 s4.2.1 cj4) s4.2.1]) ⟨_, σ2, ar_0_0, cr_0_0, (some ⟨b1, 0, none⟩), 0, fr_join ⟨rfl, rfl, rfl, trivial⟩, rfl, H.sel' [1, 2, 0] rfl rfl⟩ ?_
  clear h H
  rintro s4 a w o ⟨ρ, σ5, a6, c7, a8, c9, rfl, rfl, H⟩ h hres
  refine c_seq ?_
  refine c_seq ?_
  refine rg ?_
  refine st (v := (I s4.2.2)) (rv_move rfl) ?_
  refine st (v := (B (decide (s4.2.2 < 4)))) (rv_lss (a := s4.2.2) (b := 4) rfl rfl) ?_
  refine w_end ?_
  refine q_then ?_
  refine cd_cond (decide (s4.2.2 < 4)) rfl (fun hb10 => ?_) (fun hb10 => ?_)
  ·replace h := bif_t hb10 h
   refine c_skip ?_
   refine q_then ?_
   refine c_seq ?_
   refine c_blk ?_
   refine rg ?_
   refine st (v := (Sl a8 s4.2.1 c9)) (rv_move rfl) ?_
   refine st (v := (pt br_0 or_0)) (rv_move rfl) ?_
   obtain ⟨r11, hx12, h'⟩ := bind_some h
   clear h
   have h := h'; clear h'
   have hc13 := c_spec_someCoord (lor_0 := lor_0) (br_0 := br_0) (or_0 := or_0) (prer_0 := prer_0) (sufr_0 := sufr_0) (ar_0_0 := a6) (cr_0_0 := c7) hx12
   refine st_call (cx_call hc13 (ent_f hc13.fn rfl) hn0 (show Hp S0 σ0 _ ([Ch.bx lor_0 br_0 or_0 [(Sl a6 s4.1.1 c7), (I s4.1.2)] prer_0 sufr_0, Ch.ro 0 (Sl a6 s4.1.1 c7) s4.1.1] ++ [Ch.ro 0 (Sl a6 s4.1.1 c7) s4.1.1, Ch.own n0 n0 (Sl a8 s4.2.1 c9) s4.2.1]) from (H.sel' [0, 1, 1, 2] rfl rfl))) wn ?_
   rintro _ σ16 ⟨_, ⟨a14, c15, rfl, rfl⟩, H, -⟩
   replace H : Hp S0 σ0 σ16 [Ch.bx lor_0 br_0 or_0 [(Sl a14 r11.2.1 c15), (I r11.2.2)] prer_0 sufr_0, Ch.ro 0 (Sl a14 r11.2.1 c15) r11.2.1, Ch.ro 0 (Sl a6 s4.1.1 c7) s4.1.1, Ch.own n0 n0 (Sl a8 s4.2.1 c9) s4.2.1] := H
   refine st_ex (ex_buildSlice (el := n0) (xs := ([r11.1] : List Int)) (ps := [(0, (I r11.1))]) (cs := [(I r11.1)]) H hn0 Try.underlying34 ti3 rfl rfl (by kernel_rfl) (.cons (c := [(I r11.1)]) rfl (.nil)) rfl) wn ?_
   rintro _ σ18 ⟨b17, rfl, H, -⟩
   obtain ⟨xs19, hx20, h'⟩ := bind_some h
   clear h
   have h := h'; clear h'
   refine st_ex (ex_append H (i := 4) rfl Try.underlying34 Try.underlying34 ti3 rfl rfl (by decide) (H.own 0 rfl).rd hx20 hn0 rfl rfl) wn ?_
   rintro _ σ23 ⟨a21, c22, rfl, H, -⟩
   refine st (v := (Sl a21 xs19 c22)) (rv_assign rfl) ?_
   refine w_end ?_
   refine q_blk ?_
   refine q_then ?_
   refine rg ?_
   refine st (v := (I s4.2.2)) (rv_move rfl) ?_
   refine st (v := (I (w64 (s4.2.2 + 1)))) (rv_add (a := s4.2.2) (b := 1) rfl rfl) ?_
   refine st (v := (I (w64 (s4.2.2 + 1)))) (rv_assign rfl) ?_
   refine w_end ?_
   refine q_then ?_
   obtain rfl := Option.some.inj h
   exact ⟨_, rfl, _, σ23, a14, c15, a21, c22, fr_join ⟨rfl, rfl, rfl, trivial⟩, rfl, H.sel' [2, 3, 0] rfl rfl⟩
  ·replace h := bif_f hb10 h
   refine c_exit ?_
   refine q_then_x ?_
   refine q_then_x ?_
   refine q_blk_hit ?_
   obtain rfl := Option.some.inj h
   obtain rfl := hres _ rfl
   exact ⟨rfl, _, σ5, a6, c7, a8, c9, fr_join ⟨rfl, rfl, trivial⟩, rfl, H.sel' [0, 1, 2] rfl rfl⟩
 ·clear hj
  have h := h'
  clear h' H
  rintro e a w ⟨rfl, ρ, σ24, a25, c26, a27, c28, rfl, rfl, H⟩
  refine q_then ?_
  refine c_seq ?_
  refine rg ?_
  refine st (v := (Sl a27 o3.2 c28)) (rv_move rfl) ?_
  refine st (v := (Sl a27 o3.2 c28)) (rv_assign rfl) ?_
  refine w_end ?_
  refine q_then ?_
  refine c_ret ?_
  obtain rfl := Option.some.inj h
  exact fin_ret (v := (Sl a27 o3.2 c28)) (results_ok Try.results97 (res_tmp (v := (Sl a27 o3.2 c28)) rfl res_nil) rfl) ⟨a27, c28, a25, c26, rfl, rfl⟩ (H.sel' [2, 0, 1] rfl rfl)

theorem c_spec_someItem {r_0 : (List UInt8) × Int} {ar_0_0 : Option Addr} {cr_0_0 : Nat} {lor_0 br_0 or_0 : Nat} {prer_0 sufr_0 : List Value} {r : (Int × (List Int) × Int) × ((List UInt8) × Int)} (h : M.spec_someItem r_0 = some r) :
    Cal2 Try.prog 94 [(pt br_0 or_0)] [Ch.bx lor_0 br_0 or_0 [(Sl ar_0_0 r_0.1 cr_0_0), (I r_0.2)] prer_0 sufr_0, Ch.ro 0 (Sl ar_0_0 r_0.1 cr_0_0) r_0.1] (fun n0 v L => ∃ (az1 : Option Addr), ∃ (cz2 : Nat), ∃ (az3 : Option Addr), ∃ (cz4 : Nat), v = (.agg #[(I r.1.1), (Sl az1 r.1.2.1 cz2), (I r.1.2.2)]) ∧ L = [Ch.own n0 n0 (Sl az1 r.1.2.1 cz2) r.1.2.1, Ch.bx lor_0 br_0 or_0 [(Sl az3 r.2.1 cz4), (I r.2.2)] prer_0 sufr_0, Ch.ro 0 (Sl az3 r.2.1 cz4) r.2.1]) := by
 refine cal2 (n := 11) Try.func94 rfl rfl rfl rfl ?_
 intro S0 σ0 n0 hn0 H
 unfold M.spec_someItem at h
 refine c_seq ?_
 refine rg ?_
 refine st_ex (ex_alloc (cs := [(I 0), (.slice none 0 0), (I 0)]) H hn0 ti36 rfl) wn ?_
 rintro _ σ2 ⟨b1, rfl, H, -⟩
 refine w_end ?_
 refine q_then ?_
 refine c_seq ?_
 refine rg ?_
 refine st (v := (pt br_0 or_0)) (rv_move rfl) ?_
 obtain ⟨r3, hx4, h'⟩ := bind_some h
 clear h
 have h := h'; clear h'
 have hc5 := c_spec_reader_pick (lor_0 := lor_0) (br_0 := br_0) (or_0 := or_0) (prer_0 := prer_0) (sufr_0 := sufr_0) (ar_0_0 := ar_0_0) (cr_0_0 := cr_0_0) hx4
 refine st_call (cx_call hc5 (ent_f hc5.fn rfl) hn0 (show Hp S0 σ0 _ ([Ch.bx lor_0 br_0 or_0 [(Sl ar_0_0 r_0.1 cr_0_0), (I r_0.2)] prer_0 sufr_0, Ch.ro 0 (Sl ar_0_0 r_0.1 cr_0_0) r_0.1] ++ [Ch.bx n0 b1 0 [(I 0), (.slice none 0 0), (I 0)] [] [], Ch.ro 0 (Sl ar_0_0 r_0.1 cr_0_0) r_0.1]) from (H.sel' [1, 2, 0, 2] rfl rfl))) wn ?_
 rintro _ σ8 ⟨_, ⟨a6, c7, rfl, rfl⟩, H, -⟩
 replace H : Hp S0 σ0 σ8 [Ch.bx lor_0 br_0 or_0 [(Sl a6 r3.2.1 c7), (I r3.2.2)] prer_0 sufr_0, Ch.ro 0 (Sl a6 r3.2.1 c7) r3.2.1, Ch.bx n0 b1 0 [(I 0), (.slice none 0 0), (I 0)] [] [], Ch.ro 0 (Sl ar_0_0 r_0.1 cr_0_0) r_0.1] := H
 refine st (v := (I (w64 (1 + r3.1)))) (rv_add (a := 1) (b := r3.1) rfl rfl) ?_
 refine st (v := (pt br_0 or_0)) (rv_move rfl) ?_
 obtain ⟨r9, hx10, h'⟩ := bind_some h
 clear h
 have h := h'; clear h'
 have hc11 := c_spec_someVector (lor_0 := lor_0) (br_0 := br_0) (or_0 := or_0) (prer_0 := prer_0) (sufr_0 := sufr_0) (ar_0_0 := a6) (cr_0_0 := c7) hx10
 refine st_call (cx_call hc11 (ent_f hc11.fn rfl) hn0 (show Hp S0 σ0 _ ([Ch.bx lor_0 br_0 or_0 [(Sl a6 r3.2.1 c7), (I r3.2.2)] prer_0 sufr_0, Ch.ro 0 (Sl a6 r3.2.1 c7) r3.2.1] ++ [Ch.ro 0 (Sl a6 r3.2.1 c7) r3.2.1, Ch.bx n0 b1 0 [(I 0), (.slice none 0 0), (I 0)] [] [], Ch.ro 0 (Sl ar_0_0 r_0.1 cr_0_0) r_0.1]) from (H.sel' [0, 1, 1, 2, 3] rfl rfl))) wn ?_
 rintro _ σ16 ⟨_, ⟨a12, c13, a14, c15, rfl, rfl⟩, H, -⟩
 replace H : Hp S0 σ0 σ16 [Ch.own n0 n0 (Sl a12 r9.1 c13) r9.1, Ch.bx lor_0 br_0 or_0 [(Sl a14 r9.2.1 c15), (I r9.2.2)] prer_0 sufr_0, Ch.ro 0 (Sl a14 r9.2.1 c15) r9.2.1, Ch.ro 0 (Sl a6 r3.2.1 c7) r3.2.1, Ch.bx n0 b1 0 [(I 0), (.slice none 0 0), (I 0)] [] [], Ch.ro 0 (Sl ar_0_0 r_0.1 cr_0_0) r_0.1] := H
 refine st (v := (pt br_0 or_0)) (rv_move rfl) ?_
 obtain ⟨r17, hx18, h'⟩ := bind_some h
 clear h
 have h := h'; clear h'
 have hc19 := c_spec_reader_pick (lor_0 := lor_0) (br_0 := br_0) (or_0 := or_0) (prer_0 := prer_0) (sufr_0 := sufr_0) (ar_0_0 := a14) (cr_0_0 := c15) hx18
 refine st_call (cx_call hc19 (ent_f hc19.fn rfl) hn0 (show Hp S0 σ0 _ ([Ch.bx lor_0 br_0 or_0 [(Sl a14 r9.2.1 c15), (I r9.2.2)] prer_0 sufr_0, Ch.ro 0 (Sl a14 r9.2.1 c15) r9.2.1] ++ [Ch.own n0 n0 (Sl a12 r9.1 c13) r9.1, Ch.ro 0 (Sl a14 r9.2.1 c15) r9.2.1, Ch.ro 0 (Sl a6 r3.2.1 c7) r3.2.1, Ch.bx n0 b1 0 [(I 0), (.slice none 0 0), (I 0)] [] [], Ch.ro 0 (Sl ar_0_0 r_0.1 cr_0_0) r_0.1]) from (H.sel' [1, 2, 0, 2, 3, 4, 5] rfl rfl))) wn ?_
 rintro _ σ22 ⟨_, ⟨a20, c21, rfl, rfl⟩, H, -⟩
 replace H : Hp S0 σ0 σ22 [Ch.bx lor_0 br_0 or_0 [(Sl a20 r17.2.1 c21), (I r17.2.2)] prer_0 sufr_0, Ch.ro 0 (Sl a20 r17.2.1 c21) r17.2.1, Ch.own n0 n0 (Sl a12 r9.1 c13) r9.1, Ch.ro 0 (Sl a14 r9.2.1 c15) r9.2.1, Ch.ro 0 (Sl a6 r3.2.1 c7) r3.2.1, Ch.bx n0 b1 0 [(I 0), (.slice none 0 0), (I 0)] [] [], Ch.ro 0 (Sl ar_0_0 r_0.1 cr_0_0) r_0.1] := H
 refine st (v := (.agg #[(I (w64 (1 + r3.1))), (Sl a12 r9.1 c13), (I r17.1)])) (rv_build (ps := [(0, (I (w64 (1 + r3.1)))), (1, (Sl a12 r9.1 c13)), (2, (I r17.1))]) Try.underlying36 ti36 (bp36 Try.underlying36) rfl (by kernel_rfl)) ?_
 refine st_exS (ex_store_box (k := 0) (cs := [(I 0), (.slice none 0 0), (I 0)]) (vs := [(I (w64 (1 + r3.1))), (Sl a12 r9.1 c13), (I r17.1)]) (cs' := [(I (w64 (1 + r3.1))), (Sl a12 r9.1 c13), (I r17.1)]) H (i := 5) rfl ti36 rfl rfl rfl rfl rfl (Nat.le_of_ble_eq_true rfl) (by simp [plain]) rfl) wn ?_
 rintro σ23 ⟨H, -⟩
 refine w_end ?_
 refine q_then ?_
 refine c_ret ?_
 obtain rfl := Option.some.inj h
 exact fin_ret (v := (.agg #[(I (w64 (1 + r3.1))), (Sl a12 r9.1 c13), (I r17.1)])) (results_ok Try.results94 (res_cell rfl (run_cellRes (cs := [(I (w64 (1 + r3.1))), (Sl a12 r9.1 c13), (I r17.1)]) Try.underlying36 rfl ti36 rfl (H.cells 0 rfl)) res_nil) rfl) ⟨a12, c13, a20, c21, rfl, rfl⟩ (H.sel' [3, 1, 2] rfl rfl)

theorem c_spec_someStore {r_0 : (List UInt8) × Int} {ar_0_0 : Option Addr} {cr_0_0 : Nat} {lor_0 br_0 or_0 : Nat} {prer_0 sufr_0 : List Value} {r : (List (Int × (List Int) × Int)) × ((List UInt8) × Int)} (h : M.spec_someStore r_0 = some r) :
    Cal2 Try.prog 75 [(pt br_0 or_0)] [Ch.bx lor_0 br_0 or_0 [(Sl ar_0_0 r_0.1 cr_0_0), (I r_0.2)] prer_0 sufr_0, Ch.ro 0 (Sl ar_0_0 r_0.1 cr_0_0) r_0.1] (fun n0 v L => ∃ (az1 : Option Addr), ∃ (cz2 : Nat), ∃ (az3 : Option Addr), ∃ (cz4 : Nat), v = (Sl az1 r.1 cz2) ∧ L = [Ch.own n0 n0 (Sl az1 r.1 cz2) r.1, Ch.bx lor_0 br_0 or_0 [(Sl az3 r.2.1 cz4), (I r.2.2)] prer_0 sufr_0, Ch.ro 0 (Sl az3 r.2.1 cz4) r.2.1]) := by
 refine cal2 (n := 25) Try.func75 rfl rfl rfl rfl ?_
 intro S0 σ0 n0 hn0 H
 unfold M.spec_someStore at h
 refine c_seq ?_
 refine rg ?_
 refine st (v := (.slice none 0 0)) (rv_assign rfl) ?_
 refine w_end ?_
 refine q_then ?_
 refine c_seq ?_
 refine rg ?_
 refine st_ex (ex_buildSlice (el := n0) (xs := ([] : List (Int × (List Int) × Int))) (ps := []) (cs := []) H hn0 Try.underlying27 ti36 rfl rfl (by kernel_rfl) (.nil) rfl) wn ?_
 rintro _ σ2 ⟨b1, rfl, H, -⟩
 refine st (v := (Sl (some ⟨b1, 0, none⟩) ([] : List (Int × (List Int) × Int)) 0)) (rv_assign rfl) ?_
 refine w_end ?_
 refine q_then ?_
 refine c_seq ?_
 refine c_seq ?_
 refine rg ?_
 refine st (v := (pt br_0 or_0)) (rv_move rfl) ?_
 refine st_ex (ex_buildSlice (el := n0) (xs := ([4, 6, 8, 3, 1, 0, 20, 12] : List Int)) (ps := [(0, (I 4)), (1, (I 6)), (2, (I 8)), (3, (I 3)), (4, (I 1)), (5, (I 0)), (6, (I 20)), (7, (I 12))]) (cs := [(I 4), (I 6), (I 8), (I 3), (I 1), (I 0), (I 20), (I 12)]) H hn0 Try.underlying34 ti3 rfl rfl (by kernel_rfl) (.cons (c := [(I 4)]) rfl (.cons (c := [(I 6)]) rfl (.cons (c := [(I 8)]) rfl (.cons (c := [(I 3)]) rfl (.cons (c := [(I 1)]) rfl (.cons (c := [(I 0)]) rfl (.cons (c := [(I 20)]) rfl (.cons (c := [(I 12)]) rfl (.nil))))))))) rfl) wn ?_
 rintro _ σ4 ⟨b3, rfl, H, -⟩
 obtain ⟨σ5, hw6, H, -⟩ := H.pub 0 rfl (Nat.le_refl _)
 rw [← hw6]; clear hw6
 replace H := H.roLow 0 0 rfl (Nat.zero_le _)
 obtain ⟨r7, hx8, h'⟩ := bind_some h
 clear h
 have h := h'; clear h'
 have hc9 := c_spec_reader_one (lor_0 := lor_0) (br_0 := br_0) (or_0 := or_0) (prer_0 := prer_0) (sufr_0 := sufr_0) (ar_0_0 := ar_0_0) (cr_0_0 := cr_0_0) (alist_1 := (some ⟨b3, 0, none⟩)) (clist_1 := 8) hx8
 refine st_call (cx_call hc9 (ent_f hc9.fn rfl) hn0 (show Hp S0 σ0 _ ([Ch.bx lor_0 br_0 or_0 [(Sl ar_0_0 r_0.1 cr_0_0), (I r_0.2)] prer_0 sufr_0, Ch.ro 0 (Sl ar_0_0 r_0.1 cr_0_0) r_0.1, Ch.ro 0 (Sl (some ⟨b3, 0, none⟩) ([4, 6, 8, 3, 1, 0, 20, 12] : List Int) 8) ([4, 6, 8, 3, 1, 0, 20, 12] : List Int)] ++ [Ch.ro 0 (Sl (some ⟨b3, 0, none⟩) ([4, 6, 8, 3, 1, 0, 20, 12] : List Int) 8) ([4, 6, 8, 3, 1, 0, 20, 12] : List Int), Ch.ro n0 (Sl (some ⟨b3, 0, none⟩) ([4, 6, 8, 3, 1, 0, 20, 12] : List Int) 8) ([4, 6, 8, 3, 1, 0, 20, 12] : List Int), Ch.own n0 n0 (Sl (some ⟨b1, 0, none⟩) ([] : List (Int × (List Int) × Int)) 0) ([] : List (Int × (List Int) × Int)), Ch.ro 0 (Sl ar_0_0 r_0.1 cr_0_0) r_0.1]) from (H.sel' [3, 4, 0, 0, 1, 2, 4] rfl rfl))) wn ?_
 rintro _ σ12 ⟨_, ⟨a10, c11, rfl, rfl⟩, H, -⟩
 replace H : Hp S0 σ0 σ12 [Ch.bx lor_0 br_0 or_0 [(Sl a10 r7.2.1 c11), (I r7.2.2)] prer_0 sufr_0, Ch.ro 0 (Sl a10 r7.2.1 c11) r7.2.1, Ch.ro 0 (Sl (some ⟨b3, 0, none⟩) ([4, 6, 8, 3, 1, 0, 20, 12] : List Int) 8) ([4, 6, 8, 3, 1, 0, 20, 12] : List Int), Ch.ro n0 (Sl (some ⟨b3, 0, none⟩) ([4, 6, 8, 3, 1, 0, 20, 12] : List Int) 8) ([4, 6, 8, 3, 1, 0, 20, 12] : List Int), Ch.own n0 n0 (Sl (some ⟨b1, 0, none⟩) ([] : List (Int × (List Int) × Int)) 0) ([] : List (Int × (List Int) × Int)), Ch.ro 0 (Sl ar_0_0 r_0.1 cr_0_0) r_0.1] := H
 refine st (v := (I r7.1)) (rv_assign rfl) ?_
 refine w_end ?_
 refine q_then ?_
 obtain ⟨o13, hj, h'⟩ := bind_some h
 clear h
 refine c_cut (fun e a w => e = .normal ∧ ∃ (ρ : Nat → Value) (σ : St) (aj1 : Option Addr) (cj2 : Nat) (aj3 : Option Addr) (cj4 : Nat), a = fr 25 (updL ρ [(0, (pt br_0 or_0)), (3, (Sl aj3 o13.2 cj4))]) ∧ w = σ.w ∧ Hp S0 σ0 σ [Ch.bx lor_0 br_0 or_0 [(Sl aj1 o13.1.1 cj2), (I o13.1.2)] prer_0 sufr_0, Ch.ro 0 (Sl aj1 o13.1.1 cj2) o13.1.1, Ch.own n0 n0 (Sl aj3 o13.2 cj4) o13.2]) ?_ ?_
 ·clear h'
  rename _ = some o13 => h
  refine c_blk ?_
  refine wp_loopM _ h (fun s14 a w => ∃ (ρ : Nat → Value) (σ : St) (aj1 : Option Addr) (cj2 : Nat) (aj3 : Option Addr) (cj4 : Nat), a = fr 25 (updL ρ [(0, (pt br_0 or_0)), (3, (Sl aj3 s14.2.1 cj4)), (4, (I s14.2.2))]) ∧ w = σ.w ∧ Hp S0 σ0 σ [Ch.bx lor_0 br_0 or_0 [(Sl aj1 s14.1.1 cj2), (I s14.1.2)] prer_0 sufr_0, Ch.ro 0 (Sl aj1 s14.1.1 cj2) s14.1.1, Ch.own n0 n0 (Sl aj3 s14.2.1 cj4) s14.2.1]) ⟨_, σ12, a10, c11, (some ⟨b1, 0, none⟩), 0, fr_join ⟨rfl, rfl, rfl, trivial⟩, rfl, H.sel' [0, 1, 4] rfl rfl⟩ ?_
  clear h H
  rintro s14 a w o ⟨ρ, σ15, a16, c17, a18, c19, rfl, rfl, H⟩ h hres
  refine c_seq ?_
  refine c_seq ?_
  refine rg ?_
  refine st (v := (I s14.2.2)) (rv_move rfl) ?_
  refine st (v := (B (decide (0 < s14.2.2)))) (rv_gtr (a := s14.2.2) (b := 0) rfl rfl) ?_
  refine w_end ?_
  refine q_then ?_
  refine cd_cond (decide (0 < s14.2.2)) rfl (fun hb20 => ?_) (fun hb20 => ?_)
  ·replace h := bif_t hb20 h
   refine c_skip ?_
   refine q_then ?_
   refine c_seq ?_
   obtain ⟨o21, hj, h'⟩ := bind_some h
   clear h
   refine c_cut (fun e a w => e = .normal ∧ ∃ (ρ : Nat → Value) (σ : St) (aj1 : Option Addr) (cj2 : Nat) (aj3 : Option Addr) (cj4 : Nat), a = fr 25 (updL ρ [(0, (pt br_0 or_0)), (3, (Sl aj3 o21.2 cj4)), (4, (I s14.2.2))]) ∧ w = σ.w ∧ Hp S0 σ0 σ [Ch.bx lor_0 br_0 or_0 [(Sl aj1 o21.1.1 cj2), (I o21.1.2)] prer_0 sufr_0, Ch.ro 0 (Sl aj1 o21.1.1 cj2) o21.1.1, Ch.own n0 n0 (Sl aj3 o21.2 cj4) o21.2]) ?_ ?_
   ·clear h'
    rename _ = some o21 => h
    refine c_blk ?_
    refine c_seq ?_
    refine rg ?_
    refine st (v := (Sl a18 s14.2.1 c19)) (rv_move rfl) ?_
    refine st (v := (pt br_0 or_0)) (rv_move rfl) ?_
    obtain ⟨r22, hx23, h'⟩ := bind_some h
    clear h
    have h := h'; clear h'
    have hc24 := c_spec_someItem (lor_0 := lor_0) (br_0 := br_0) (or_0 := or_0) (prer_0 := prer_0) (sufr_0 := sufr_0) (ar_0_0 := a16) (cr_0_0 := c17) hx23
    refine st_call (cx_call hc24 (ent_f hc24.fn rfl) hn0 (show Hp S0 σ0 _ ([Ch.bx lor_0 br_0 or_0 [(Sl a16 s14.1.1 c17), (I s14.1.2)] prer_0 sufr_0, Ch.ro 0 (Sl a16 s14.1.1 c17) s14.1.1] ++ [Ch.ro 0 (Sl a16 s14.1.1 c17) s14.1.1, Ch.own n0 n0 (Sl a18 s14.2.1 c19) s14.2.1]) from (H.sel' [0, 1, 1, 2] rfl rfl))) wn ?_
    rintro _ σ29 ⟨_, ⟨a25, c26, a27, c28, rfl, rfl⟩, H, -⟩
    replace H : Hp S0 σ0 σ29 [Ch.own n0 n0 (Sl a25 r22.1.2.1 c26) r22.1.2.1, Ch.bx lor_0 br_0 or_0 [(Sl a27 r22.2.1 c28), (I r22.2.2)] prer_0 sufr_0, Ch.ro 0 (Sl a27 r22.2.1 c28) r22.2.1, Ch.ro 0 (Sl a16 s14.1.1 c17) s14.1.1, Ch.own n0 n0 (Sl a18 s14.2.1 c19) s14.2.1] := H
    obtain ⟨σ30, hw31, H, -⟩ := H.pub 0 rfl (Nat.le_refl _)
    rw [← hw31]; clear hw31
    replace H := H.roLow 0 0 rfl (Nat.zero_le _)
    obtain ⟨r32, hx33, h'⟩ := bind_some h
    clear h
    have h := h'; clear h'
    have hc34 := c_spec_PutItem (alist_0 := a18) (clist_0 := c19) (ax_1_1 := a25) (cx_1_1 := c26) hx33
    have hle := Nat.le_trans hn0 H.size
    refine st_call (cx_lend (Loan.lend (Loan.same Loan.nil)) hc34 (ent_f hc34.fn rfl) (show Hp S0 σ0 _ ([Ch.own n0 n0 (Sl a18 s14.2.1 c19) s14.2.1] ++ ([Ch.ro 0 (Sl a25 r22.1.2.1 c26) r22.1.2.1] ++ [Ch.ro 0 (Sl a25 r22.1.2.1 c26) r22.1.2.1, Ch.ro n0 (Sl a25 r22.1.2.1 c26) r22.1.2.1, Ch.bx lor_0 br_0 or_0 [(Sl a27 r22.2.1 c28), (I r22.2.2)] prer_0 sufr_0, Ch.ro 0 (Sl a27 r22.2.1 c28) r22.2.1, Ch.ro 0 (Sl a16 s14.1.1 c17) s14.1.1])) from (H.sel' [5, 0, 0, 1, 2, 3, 4] rfl rfl)) (by rintro _ _ _ ⟨_, _, rfl, rfl⟩; exact ⟨Ab.own (Nat.le_refl _), trivial⟩)) wn ?_
    rintro _ σ37 ⟨_, ⟨a35, c36, rfl, rfl⟩, H, -, -⟩
    replace H : Hp S0 σ0 σ37 [Ch.own σ30.size σ30.size (Sl a35 r32.1 c36) r32.1, Ch.own n0 n0 (Sl a18 s14.2.1 c19) s14.2.1, Ch.ro 0 (Sl a25 r22.1.2.1 c26) r22.1.2.1, Ch.ro n0 (Sl a25 r22.1.2.1 c26) r22.1.2.1, Ch.bx lor_0 br_0 or_0 [(Sl a27 r22.2.1 c28), (I r22.2.2)] prer_0 sufr_0, Ch.ro 0 (Sl a27 r22.2.1 c28) r22.2.1, Ch.ro 0 (Sl a16 s14.1.1 c17) s14.1.1] := H
    replace H := H.ownLow 0 n0 n0 rfl hle hle
    clear hle
    replace H : Hp S0 σ0 σ37 [Ch.own n0 n0 (Sl a35 r32.1 c36) r32.1, Ch.own n0 n0 (Sl a18 s14.2.1 c19) s14.2.1, Ch.ro 0 (Sl a25 r22.1.2.1 c26) r22.1.2.1, Ch.ro n0 (Sl a25 r22.1.2.1 c26) r22.1.2.1, Ch.bx lor_0 br_0 or_0 [(Sl a27 r22.2.1 c28), (I r22.2.2)] prer_0 sufr_0, Ch.ro 0 (Sl a27 r22.2.1 c28) r22.2.1, Ch.ro 0 (Sl a16 s14.1.1 c17) s14.1.1] := H
    refine st (v := (.tuple #[(Sl a35 r32.1 c36), (B r32.2)])) (rv_move rfl) ?_
    refine st (v := (Sl a35 r32.1 c36)) (rv_extract rfl rfl) ?_
    refine st (v := (B r32.2)) (rv_extract rfl rfl) ?_
    refine st (v := (Sl a35 r32.1 c36)) (rv_assign rfl) ?_
    refine st (v := (B r32.2)) (rv_assign rfl) ?_
    refine w_end ?_
    refine q_then ?_
    refine c_seq ?_
    refine rg ?_
    refine st (v := (B r32.2)) (rv_move rfl) ?_
    refine w_end ?_
    refine q_then ?_
    refine cd_cond r32.2 rfl (fun hb38 => ?_) (fun hb38 => ?_)
    ·replace h := bif_t hb38 h
     refine rg ?_
     refine st (v := (Sl a35 r32.1 c36)) (rv_move rfl) ?_
     refine st (v := (Sl a35 r32.1 c36)) (rv_assign rfl) ?_
     refine w_end ?_
     refine q_blk ?_
     obtain rfl := Option.some.inj h
     exact ⟨rfl, _, σ37, a27, c28, a35, c36, fr_join ⟨rfl, rfl, rfl, trivial⟩, rfl, H.sel' [4, 5, 0] rfl rfl⟩
    ·replace h := bif_f hb38 h
     refine c_skip ?_
     refine q_blk ?_
     obtain rfl := Option.some.inj h
     exact ⟨rfl, _, σ37, a27, c28, a18, c19, fr_join ⟨rfl, rfl, rfl, trivial⟩, rfl, H.sel' [4, 5, 1] rfl rfl⟩
   ·clear hj
    have h := h'
    clear h' H
    rintro e a w ⟨rfl, ρ, σ39, a40, c41, a42, c43, rfl, rfl, H⟩
    refine q_then ?_
    refine rg ?_
    refine st (v := (I s14.2.2)) (rv_move rfl) ?_
    refine st (v := (I (w64 (s14.2.2 - 1)))) (rv_sub (a := s14.2.2) (b := 1) rfl rfl) ?_
    refine st (v := (I (w64 (s14.2.2 - 1)))) (rv_assign rfl) ?_
    refine w_end ?_
    refine q_then ?_
    obtain rfl := Option.some.inj h
    exact ⟨_, rfl, _, σ39, a40, c41, a42, c43, fr_join ⟨rfl, rfl, rfl, trivial⟩, rfl, H.sel' [0, 1, 2] rfl rfl⟩
  ·replace h := bif_f hb20 h
   refine c_exit ?_
   refine q_then_x ?_
   refine q_then_x ?_
   refine q_blk_hit ?_
   obtain rfl := Option.some.inj h
   obtain rfl := hres _ rfl
   exact ⟨rfl, _, σ15, a16, c17, a18, c19, fr_join ⟨rfl, rfl, trivial⟩, rfl, H.sel' [0, 1, 2] rfl rfl⟩
 ·clear hj
  have h := h'
  clear h' H
  rintro e a w ⟨rfl, ρ, σ44, a45, c46, a47, c48, rfl, rfl, H⟩
  refine q_then ?_
  refine c_seq ?_
  refine rg ?_
  refine st (v := (Sl a47 o13.2 c48)) (rv_move rfl) ?_
  refine st (v := (Sl a47 o13.2 c48)) (rv_assign rfl) ?_
  refine w_end ?_
  refine q_then ?_
  refine c_ret ?_
  obtain rfl := Option.some.inj h
  exact fin_ret (v := (Sl a47 o13.2 c48)) (results_ok Try.results75 (res_tmp (v := (Sl a47 o13.2 c48)) rfl res_nil) rfl) ⟨a47, c48, a45, c46, rfl, rfl⟩ (H.sel' [2, 0, 1] rfl rfl)

theorem c_spec_reader_spoil {r_0 : (List UInt8) × Int} {list_1 : List Int} {n_2 : Int} {ar_0_0 : Option Addr} {cr_0_0 : Nat} {lor_0 br_0 or_0 : Nat} {prer_0 sufr_0 : List Value} {alist_1 : Option Addr} {clist_1 : Nat} {r : (List Int) × ((List UInt8) × Int)} (h : M.spec_reader_spoil r_0 list_1 n_2 = some r) :
    Cal2 Try.prog 96 [(pt br_0 or_0), (Sl alist_1 list_1 clist_1), (I n_2)] [Ch.bx lor_0 br_0 or_0 [(Sl ar_0_0 r_0.1 cr_0_0), (I r_0.2)] prer_0 sufr_0, Ch.ro 0 (Sl ar_0_0 r_0.1 cr_0_0) r_0.1, Ch.ro 0 (Sl alist_1 list_1 clist_1) list_1] (fun n0 v L => ∃ (az1 : Option Addr), ∃ (cz2 : Nat), ∃ (az3 : Option Addr), ∃ (cz4 : Nat), v = (Sl az1 r.1 cz2) ∧ L = [Ch.own n0 n0 (Sl az1 r.1 cz2) r.1, Ch.bx lor_0 br_0 or_0 [(Sl az3 r.2.1 cz4), (I r.2.2)] prer_0 sufr_0, Ch.ro 0 (Sl az3 r.2.1 cz4) r.2.1]) := by
 refine cal2 (n := 41) Try.func96 rfl rfl rfl rfl ?_
 intro S0 σ0 n0 hn0 H
 unfold M.spec_reader_spoil at h
 refine c_seq ?_
 refine rg ?_
 refine st (v := (.slice none 0 0)) (rv_assign rfl) ?_
 refine w_end ?_
 refine q_then ?_
 refine c_seq ?_
 refine rg ?_
 refine st (v := (Sl alist_1 list_1 clist_1)) (rv_move rfl) ?_
 obtain ⟨r1, hx2, h'⟩ := bind_some h
 clear h
 have h := h'; clear h'
 have hc3 := c_spec_copyInts (alist_0 := alist_1) (clist_0 := clist_1) hx2
 refine st_call (cx_call hc3 (ent_f hc3.fn rfl) hn0 (show Hp S0 σ0 _ ([Ch.ro 0 (Sl alist_1 list_1 clist_1) list_1] ++ [Ch.bx lor_0 br_0 or_0 [(Sl ar_0_0 r_0.1 cr_0_0), (I r_0.2)] prer_0 sufr_0, Ch.ro 0 (Sl ar_0_0 r_0.1 cr_0_0) r_0.1, Ch.ro 0 (Sl alist_1 list_1 clist_1) list_1]) from (H.sel' [2, 0, 1, 2] rfl rfl))) wn ?_
 rintro _ σ6 ⟨_, ⟨a4, c5, rfl, rfl⟩, H, -⟩
 replace H : Hp S0 σ0 σ6 [Ch.own n0 n0 (Sl a4 r1 c5) r1, Ch.bx lor_0 br_0 or_0 [(Sl ar_0_0 r_0.1 cr_0_0), (I r_0.2)] prer_0 sufr_0, Ch.ro 0 (Sl ar_0_0 r_0.1 cr_0_0) r_0.1, Ch.ro 0 (Sl alist_1 list_1 clist_1) list_1] := H
 refine st (v := (Sl a4 r1 c5)) (rv_assign rfl) ?_
 refine w_end ?_
 refine q_then ?_
 refine c_seq ?_
 refine c_seq ?_
 refine rg ?_
 refine st (v := (pt br_0 or_0)) (rv_move rfl) ?_
 obtain ⟨r7, hx8, h'⟩ := bind_some h
 clear h
 have h := h'; clear h'
 have hc9 := c_spec_reader_pick (lor_0 := lor_0) (br_0 := br_0) (or_0 := or_0) (prer_0 := prer_0) (sufr_0 := sufr_0) (ar_0_0 := ar_0_0) (cr_0_0 := cr_0_0) hx8
 refine st_call (cx_call hc9 (ent_f hc9.fn rfl) hn0 (show Hp S0 σ0 _ ([Ch.bx lor_0 br_0 or_0 [(Sl ar_0_0 r_0.1 cr_0_0), (I r_0.2)] prer_0 sufr_0, Ch.ro 0 (Sl ar_0_0 r_0.1 cr_0_0) r_0.1] ++ [Ch.own n0 n0 (Sl a4 r1 c5) r1, Ch.ro 0 (Sl ar_0_0 r_0.1 cr_0_0) r_0.1, Ch.ro 0 (Sl alist_1 list_1 clist_1) list_1]) from (H.sel' [1, 2, 0, 2, 3] rfl rfl))) wn ?_
 rintro _ σ12 ⟨_, ⟨a10, c11, rfl, rfl⟩, H, -⟩
 replace H : Hp S0 σ0 σ12 [Ch.bx lor_0 br_0 or_0 [(Sl a10 r7.2.1 c11), (I r7.2.2)] prer_0 sufr_0, Ch.ro 0 (Sl a10 r7.2.1 c11) r7.2.1, Ch.own n0 n0 (Sl a4 r1 c5) r1, Ch.ro 0 (Sl ar_0_0 r_0.1 cr_0_0) r_0.1, Ch.ro 0 (Sl alist_1 list_1 clist_1) list_1] := H
 refine w_end ?_
 refine q_then ?_
 obtain ⟨o13, hj, h'⟩ := bind_some h
 clear h
 refine c_cut (fun e a w => e = .normal ∧ ∃ (ρ : Nat → Value) (σ : St) (aj1 : Option Addr) (cj2 : Nat) (aj3 : Option Addr) (cj4 : Nat), a = fr 41 (updL ρ [(0, (pt br_0 or_0)), (7, (Sl aj3 o13.2 cj4))]) ∧ w = σ.w ∧ Hp S0 σ0 σ [Ch.bx lor_0 br_0 or_0 [(Sl aj1 o13.1.1 cj2), (I o13.1.2)] prer_0 sufr_0, Ch.ro 0 (Sl aj1 o13.1.1 cj2) o13.1.1, Ch.own n0 n0 (Sl aj3 o13.2 cj4) o13.2]) ?_ ?_
 ·clear h'
  rename _ = some o13 => h
  refine c_blk ?_
  refine c_seq ?_
  refine rg ?_
  refine st (v := (B (r7.1 == 0))) (rv_eql (a := r7.1) (b := 0) rfl rfl) ?_
  refine st (v := (B (r7.1 == 0))) (rv_assign rfl) ?_
  refine w_end ?_
  refine q_then ?_
  refine cd_cond (r7.1 == 0) rfl (fun hb14 => ?_) (fun hb14 => ?_)
  ·replace h := bif_t hb14 h
   refine rg ?_
   refine st (v := (Sl a4 r1 c5)) (rv_move rfl) ?_
   refine st (v := (I n_2)) (rv_move rfl) ?_
   refine st_ex (ex_buildSlice (el := n0) (xs := ([n_2] : List Int)) (ps := [(0, (I n_2))]) (cs := [(I n_2)]) H hn0 Try.underlying34 ti3 rfl rfl (by kernel_rfl) (.cons (c := [(I n_2)]) rfl (.nil)) rfl) wn ?_
   rintro _ σ16 ⟨b15, rfl, H, -⟩
   obtain ⟨xs17, hx18, h'⟩ := bind_some h
   clear h
   have h := h'; clear h'
   refine st_ex (ex_append H (i := 3) rfl Try.underlying34 Try.underlying34 ti3 rfl rfl (by decide) (H.own 0 rfl).rd hx18 hn0 rfl rfl) wn ?_
   rintro _ σ21 ⟨a19, c20, rfl, H, -⟩
   refine st (v := (Sl a19 xs17 c20)) (rv_assign rfl) ?_
   refine w_end ?_
   refine q_blk ?_
   obtain rfl := Option.some.inj h
   exact ⟨rfl, _, σ21, a10, c11, a19, c20, fr_join ⟨rfl, rfl, trivial⟩, rfl, H.sel' [2, 3, 0] rfl rfl⟩
  ·replace h := bif_f hb14 h
   refine c_seq ?_
   refine rg ?_
   refine st (v := (B (r7.1 == 1))) (rv_eql (a := r7.1) (b := 1) rfl rfl) ?_
   refine st (v := (B (r7.1 == 1))) (rv_assign rfl) ?_
   refine w_end ?_
   refine q_then ?_
   refine cd_cond (r7.1 == 1) rfl (fun hb22 => ?_) (fun hb22 => ?_)
   ·replace h := bif_t hb22 h
    refine c_seq ?_
    refine rg ?_
    refine st (v := (Sl a4 r1 c5)) (rv_move rfl) ?_
    refine st (v := (I (r1.length : Int))) (rv_len Try.underlying34 rfl) ?_
    refine st (v := (B (decide (0 < (r1.length : Int))))) (rv_gtr (a := (r1.length : Int)) (b := 0) rfl rfl) ?_
    refine w_end ?_
    refine q_then ?_
    refine cd_cond (decide (0 < (r1.length : Int))) rfl (fun hb23 => ?_) (fun hb23 => ?_)
    ·replace h := bif_t hb23 h
     refine rg ?_
     refine st (v := (Sl a4 r1 c5)) (rv_move rfl) ?_
     obtain ⟨xs24, hx25, h'⟩ := bind_some h
     clear h
     have h := h'; clear h'
     obtain ⟨a26, c27, hs28, hR29, hb30⟩ := (H.own 2 rfl).slice hx25
     replace H := (H.front (i := 2) rfl).turn (d := Ch.own n0 n0 (Sl a26 xs24 c27) xs24) (fun _ => hR29) hb30; clear hR29 hb30
     refine st (v := (Sl a26 xs24 c27)) (rv_slice_l Try.underlying34 ti3 hs28 rfl rfl) ?_
     refine st (v := (Sl a26 xs24 c27)) (rv_assign rfl) ?_
     refine w_end ?_
     refine q_blk ?_
     obtain rfl := Option.some.inj h
     exact ⟨rfl, _, σ12, a10, c11, a26, c27, fr_join ⟨rfl, rfl, trivial⟩, rfl, H.sel' [1, 2, 0] rfl rfl⟩
    ·replace h := bif_f hb23 h
     refine c_skip ?_
     refine q_blk ?_
     obtain rfl := Option.some.inj h
     exact ⟨rfl, _, σ12, a10, c11, a4, c5, fr_join ⟨rfl, rfl, trivial⟩, rfl, H.sel' [0, 1, 2] rfl rfl⟩
   ·replace h := bif_f hb22 h
    refine c_seq ?_
    refine rg ?_
    refine st (v := (B (r7.1 == 2))) (rv_eql (a := r7.1) (b := 2) rfl rfl) ?_
    refine st (v := (B (r7.1 == 2))) (rv_assign rfl) ?_
    refine w_end ?_
    refine q_then ?_
    refine cd_cond (r7.1 == 2) rfl (fun hb31 => ?_) (fun hb31 => ?_)
    ·replace h := bif_t hb31 h
     refine c_seq ?_
     refine rg ?_
     refine st (v := (Sl a4 r1 c5)) (rv_move rfl) ?_
     refine st (v := (I (r1.length : Int))) (rv_len Try.underlying34 rfl) ?_
     refine st (v := (B (decide (0 < (r1.length : Int))))) (rv_gtr (a := (r1.length : Int)) (b := 0) rfl rfl) ?_
     refine w_end ?_
     refine q_then ?_
     refine cd_cond (decide (0 < (r1.length : Int))) rfl (fun hb32 => ?_) (fun hb32 => ?_)
     ·replace h := bif_t hb32 h
      refine rg ?_
      refine st (v := (Sl a4 r1 c5)) (rv_move rfl) ?_
      refine st (v := (pt br_0 or_0)) (rv_move rfl) ?_
      refine st (v := (Sl a4 r1 c5)) (rv_move rfl) ?_
      refine st (v := (I (r1.length : Int))) (rv_len Try.underlying34 rfl) ?_
      obtain ⟨r33, hx34, h'⟩ := bind_some h
      clear h
      have h := h'; clear h'
      have hc35 := c_spec_reader_pick (lor_0 := lor_0) (br_0 := br_0) (or_0 := or_0) (prer_0 := prer_0) (sufr_0 := sufr_0) (ar_0_0 := a10) (cr_0_0 := c11) hx34
      refine st_call (cx_call hc35 (ent_f hc35.fn rfl) hn0 (show Hp S0 σ0 _ ([Ch.bx lor_0 br_0 or_0 [(Sl a10 r7.2.1 c11), (I r7.2.2)] prer_0 sufr_0, Ch.ro 0 (Sl a10 r7.2.1 c11) r7.2.1] ++ [Ch.ro 0 (Sl a10 r7.2.1 c11) r7.2.1, Ch.own n0 n0 (Sl a4 r1 c5) r1, Ch.ro 0 (Sl ar_0_0 r_0.1 cr_0_0) r_0.1, Ch.ro 0 (Sl alist_1 list_1 clist_1) list_1]) from (H.sel' [0, 1, 1, 2, 3, 4] rfl rfl))) wn ?_
      rintro _ σ38 ⟨_, ⟨a36, c37, rfl, rfl⟩, H, -⟩
      replace H : Hp S0 σ0 σ38 [Ch.bx lor_0 br_0 or_0 [(Sl a36 r33.2.1 c37), (I r33.2.2)] prer_0 sufr_0, Ch.ro 0 (Sl a36 r33.2.1 c37) r33.2.1, Ch.ro 0 (Sl a10 r7.2.1 c11) r7.2.1, Ch.own n0 n0 (Sl a4 r1 c5) r1, Ch.ro 0 (Sl ar_0_0 r_0.1 cr_0_0) r_0.1, Ch.ro 0 (Sl alist_1 list_1 clist_1) list_1] := H
      refine st (v := (pt br_0 or_0)) (rv_move rfl) ?_
      refine st (v := (I n_2)) (rv_move rfl) ?_
      refine st_ex (ex_buildSlice (el := n0) (xs := ([-1, n_2, 0, 1] : List Int)) (ps := [(0, (I (-1))), (1, (I n_2)), (2, (I 0)), (3, (I 1))]) (cs := [(I (-1)), (I n_2), (I 0), (I 1)]) H hn0 Try.underlying34 ti3 rfl rfl (by kernel_rfl) (.cons (c := [(I (-1))]) rfl (.cons (c := [(I n_2)]) rfl (.cons (c := [(I 0)]) rfl (.cons (c := [(I 1)]) rfl (.nil))))) rfl) wn ?_
      rintro _ σ40 ⟨b39, rfl, H, -⟩
      obtain ⟨σ41, hw42, H, -⟩ := H.pub 0 rfl (Nat.le_refl _)
      rw [← hw42]; clear hw42
      replace H := H.roLow 0 0 rfl (Nat.zero_le _)
      obtain ⟨r43, hx44, h'⟩ := bind_some h
      clear h
      have h := h'; clear h'
      have hc45 := c_spec_reader_one (lor_0 := lor_0) (br_0 := br_0) (or_0 := or_0) (prer_0 := prer_0) (sufr_0 := sufr_0) (ar_0_0 := a36) (cr_0_0 := c37) (alist_1 := (some ⟨b39, 0, none⟩)) (clist_1 := 4) hx44
      refine st_call (cx_call hc45 (ent_f hc45.fn rfl) hn0 (show Hp S0 σ0 _ ([Ch.bx lor_0 br_0 or_0 [(Sl a36 r33.2.1 c37), (I r33.2.2)] prer_0 sufr_0, Ch.ro 0 (Sl a36 r33.2.1 c37) r33.2.1, Ch.ro 0 (Sl (some ⟨b39, 0, none⟩) ([-1, n_2, 0, 1] : List Int) 4) ([-1, n_2, 0, 1] : List Int)] ++ [Ch.ro 0 (Sl (some ⟨b39, 0, none⟩) ([-1, n_2, 0, 1] : List Int) 4) ([-1, n_2, 0, 1] : List Int), Ch.ro n0 (Sl (some ⟨b39, 0, none⟩) ([-1, n_2, 0, 1] : List Int) 4) ([-1, n_2, 0, 1] : List Int), Ch.ro 0 (Sl a36 r33.2.1 c37) r33.2.1, Ch.ro 0 (Sl a10 r7.2.1 c11) r7.2.1, Ch.own n0 n0 (Sl a4 r1 c5) r1, Ch.ro 0 (Sl ar_0_0 r_0.1 cr_0_0) r_0.1, Ch.ro 0 (Sl alist_1 list_1 clist_1) list_1]) from (H.sel' [2, 3, 0, 0, 1, 3, 4, 5, 6, 7] rfl rfl))) wn ?_
      rintro _ σ48 ⟨_, ⟨a46, c47, rfl, rfl⟩, H, -⟩
      replace H : Hp S0 σ0 σ48 [Ch.bx lor_0 br_0 or_0 [(Sl a46 r43.2.1 c47), (I r43.2.2)] prer_0 sufr_0, Ch.ro 0 (Sl a46 r43.2.1 c47) r43.2.1, Ch.ro 0 (Sl (some ⟨b39, 0, none⟩) ([-1, n_2, 0, 1] : List Int) 4) ([-1, n_2, 0, 1] : List Int), Ch.ro n0 (Sl (some ⟨b39, 0, none⟩) ([-1, n_2, 0, 1] : List Int) 4) ([-1, n_2, 0, 1] : List Int), Ch.ro 0 (Sl a36 r33.2.1 c37) r33.2.1, Ch.ro 0 (Sl a10 r7.2.1 c11) r7.2.1, Ch.own n0 n0 (Sl a4 r1 c5) r1, Ch.ro 0 (Sl ar_0_0 r_0.1 cr_0_0) r_0.1, Ch.ro 0 (Sl alist_1 list_1 clist_1) list_1] := H
      replace H : Hp S0 σ0 σ48 [Ch.bx lor_0 br_0 or_0 [(Sl a46 r43.2.1 c47), (I r43.2.2)] prer_0 sufr_0, Ch.ro 0 (Sl a46 r43.2.1 c47) r43.2.1, Ch.own n0 n0 (Sl a4 r1 c5) r1] := H.sel' [0, 1, 6] rfl rfl
      obtain ⟨x49, hx50, h'⟩ := bind_some h
      clear h
      have h := h'; clear h'
      obtain ⟨b52, o53, hi51, -⟩ := (H.own 2 rfl).ix hx50
      refine st (v := (pt b52 o53)) (rv_ix Try.underlying34 ti3 rfl rfl hi51) ?_
      refine st_exS (ex_store_own (e' := r43.1) (vs := [(I r43.1)]) (k := 0) H (i := 2) rfl ti3 hx50 hi51 rfl rfl rfl rfl rfl (Nat.le_of_ble_eq_true rfl) (by simp [plain]) (by rintro _ rfl; exact rfl)) wn ?_
      rintro σ54 ⟨H, -⟩
      have hsl : (Sl a4 r1 c5) = (Sl a4 (r1.set r33.1.toNat r43.1) c5) := sl_len List.length_set.symm
      rw [hsl]; rw [hsl] at H; clear hsl
      refine w_end ?_
      refine q_blk ?_
      obtain rfl := Option.some.inj h
      exact ⟨rfl, _, σ54, a46, c47, a4, c5, fr_join ⟨rfl, rfl, trivial⟩, rfl, H.sel' [1, 2, 0] rfl rfl⟩
     ·replace h := bif_f hb32 h
      refine c_skip ?_
      refine q_blk ?_
      obtain rfl := Option.some.inj h
      exact ⟨rfl, _, σ12, a10, c11, a4, c5, fr_join ⟨rfl, rfl, trivial⟩, rfl, H.sel' [0, 1, 2] rfl rfl⟩
    ·replace h := bif_f hb31 h
     refine c_skip ?_
     refine q_blk ?_
     obtain rfl := Option.some.inj h
     exact ⟨rfl, _, σ12, a10, c11, a4, c5, fr_join ⟨rfl, rfl, trivial⟩, rfl, H.sel' [0, 1, 2] rfl rfl⟩
 ·clear hj
  have h := h'
  clear h' H
  rintro e a w ⟨rfl, ρ, σ55, a56, c57, a58, c59, rfl, rfl, H⟩
  refine q_then ?_
  refine c_seq ?_
  refine rg ?_
  refine st (v := (Sl a58 o13.2 c59)) (rv_move rfl) ?_
  refine st (v := (Sl a58 o13.2 c59)) (rv_assign rfl) ?_
  refine w_end ?_
  refine q_then ?_
  refine c_ret ?_
  obtain rfl := Option.some.inj h
  exact fin_ret (v := (Sl a58 o13.2 c59)) (results_ok Try.results96 (res_tmp (v := (Sl a58 o13.2 c59)) rfl res_nil) rfl) ⟨a58, c59, a56, c57, rfl, rfl⟩ (H.sel' [2, 0, 1] rfl rfl)

theorem c_spec_anyVector {r_0 : (List UInt8) × Int} {ar_0_0 : Option Addr} {cr_0_0 : Nat} {lor_0 br_0 or_0 : Nat} {prer_0 sufr_0 : List Value} {r : (List Int) × ((List UInt8) × Int)} (h : M.spec_anyVector r_0 = some r) :
    Cal2 Try.prog 77 [(pt br_0 or_0)] [Ch.bx lor_0 br_0 or_0 [(Sl ar_0_0 r_0.1 cr_0_0), (I r_0.2)] prer_0 sufr_0, Ch.ro 0 (Sl ar_0_0 r_0.1 cr_0_0) r_0.1] (fun n0 v L => ∃ (az1 : Option Addr), ∃ (cz2 : Nat), ∃ (az3 : Option Addr), ∃ (cz4 : Nat), v = (Sl az1 r.1 cz2) ∧ L = [Ch.own n0 n0 (Sl az1 r.1 cz2) r.1, Ch.bx lor_0 br_0 or_0 [(Sl az3 r.2.1 cz4), (I r.2.2)] prer_0 sufr_0, Ch.ro 0 (Sl az3 r.2.1 cz4) r.2.1]) := by
 refine cal2 (n := 12) Try.func77 rfl rfl rfl rfl ?_
 intro S0 σ0 n0 hn0 H
 unfold M.spec_anyVector at h
 refine c_seq ?_
 refine rg ?_
 refine st (v := (.slice none 0 0)) (rv_assign rfl) ?_
 refine w_end ?_
 refine q_then ?_
 refine c_seq ?_
 refine c_seq ?_
 refine rg ?_
 refine st (v := (pt br_0 or_0)) (rv_move rfl) ?_
 obtain ⟨r1, hx2, h'⟩ := bind_some h
 clear h
 have h := h'; clear h'
 have hc3 := c_spec_reader_pick (lor_0 := lor_0) (br_0 := br_0) (or_0 := or_0) (prer_0 := prer_0) (sufr_0 := sufr_0) (ar_0_0 := ar_0_0) (cr_0_0 := cr_0_0) hx2
 refine st_call (cx_call hc3 (ent_f hc3.fn rfl) hn0 (show Hp S0 σ0 _ ([Ch.bx lor_0 br_0 or_0 [(Sl ar_0_0 r_0.1 cr_0_0), (I r_0.2)] prer_0 sufr_0, Ch.ro 0 (Sl ar_0_0 r_0.1 cr_0_0) r_0.1] ++ [Ch.ro 0 (Sl ar_0_0 r_0.1 cr_0_0) r_0.1]) from (H.sel' [0, 1, 1] rfl rfl))) wn ?_
 rintro _ σ6 ⟨_, ⟨a4, c5, rfl, rfl⟩, H, -⟩
 replace H : Hp S0 σ0 σ6 [Ch.bx lor_0 br_0 or_0 [(Sl a4 r1.2.1 c5), (I r1.2.2)] prer_0 sufr_0, Ch.ro 0 (Sl a4 r1.2.1 c5) r1.2.1, Ch.ro 0 (Sl ar_0_0 r_0.1 cr_0_0) r_0.1] := H
 refine st (v := (B (r1.1 == 0))) (rv_eql (a := r1.1) (b := 0) rfl rfl) ?_
 refine w_end ?_
 refine q_then ?_
 refine cd_cond (r1.1 == 0) rfl (fun hb7 => ?_) (fun hb7 => ?_)
 ·replace h := bif_t hb7 h
  refine c_seq ?_
  refine rg ?_
  refine st (v := (pt br_0 or_0)) (rv_move rfl) ?_
  refine st (v := (pt br_0 or_0)) (rv_move rfl) ?_
  obtain ⟨r8, hx9, h'⟩ := bind_some h
  clear h
  have h := h'; clear h'
  have hc10 := c_spec_someVector (lor_0 := lor_0) (br_0 := br_0) (or_0 := or_0) (prer_0 := prer_0) (sufr_0 := sufr_0) (ar_0_0 := a4) (cr_0_0 := c5) hx9
  refine st_call (cx_call hc10 (ent_f hc10.fn rfl) hn0 (show Hp S0 σ0 _ ([Ch.bx lor_0 br_0 or_0 [(Sl a4 r1.2.1 c5), (I r1.2.2)] prer_0 sufr_0, Ch.ro 0 (Sl a4 r1.2.1 c5) r1.2.1] ++ [Ch.ro 0 (Sl a4 r1.2.1 c5) r1.2.1, Ch.ro 0 (Sl ar_0_0 r_0.1 cr_0_0) r_0.1]) from (H.sel' [0, 1, 1, 2] rfl rfl))) wn ?_
  rintro _ σ15 ⟨_, ⟨a11, c12, a13, c14, rfl, rfl⟩, H, -⟩
  replace H : Hp S0 σ0 σ15 [Ch.own n0 n0 (Sl a11 r8.1 c12) r8.1, Ch.bx lor_0 br_0 or_0 [(Sl a13 r8.2.1 c14), (I r8.2.2)] prer_0 sufr_0, Ch.ro 0 (Sl a13 r8.2.1 c14) r8.2.1, Ch.ro 0 (Sl a4 r1.2.1 c5) r1.2.1, Ch.ro 0 (Sl ar_0_0 r_0.1 cr_0_0) r_0.1] := H
  obtain ⟨σ16, hw17, H, -⟩ := H.pub 0 rfl (Nat.le_refl _)
  rw [← hw17]; clear hw17
  replace H := H.roLow 0 0 rfl (Nat.zero_le _)
  obtain ⟨r18, hx19, h'⟩ := bind_some h
  clear h
  have h := h'; clear h'
  have hc20 := c_spec_reader_spoil (lor_0 := lor_0) (br_0 := br_0) (or_0 := or_0) (prer_0 := prer_0) (sufr_0 := sufr_0) (ar_0_0 := a13) (cr_0_0 := c14) (alist_1 := a11) (clist_1 := c12) hx19
  refine st_call (cx_call hc20 (ent_f hc20.fn rfl) hn0 (show Hp S0 σ0 _ ([Ch.bx lor_0 br_0 or_0 [(Sl a13 r8.2.1 c14), (I r8.2.2)] prer_0 sufr_0, Ch.ro 0 (Sl a13 r8.2.1 c14) r8.2.1, Ch.ro 0 (Sl a11 r8.1 c12) r8.1] ++ [Ch.ro 0 (Sl a11 r8.1 c12) r8.1, Ch.ro n0 (Sl a11 r8.1 c12) r8.1, Ch.ro 0 (Sl a13 r8.2.1 c14) r8.2.1, Ch.ro 0 (Sl a4 r1.2.1 c5) r1.2.1, Ch.ro 0 (Sl ar_0_0 r_0.1 cr_0_0) r_0.1]) from (H.sel' [2, 3, 0, 0, 1, 3, 4, 5] rfl rfl))) wn ?_
  rintro _ σ25 ⟨_, ⟨a21, c22, a23, c24, rfl, rfl⟩, H, -⟩
  replace H : Hp S0 σ0 σ25 [Ch.own n0 n0 (Sl a21 r18.1 c22) r18.1, Ch.bx lor_0 br_0 or_0 [(Sl a23 r18.2.1 c24), (I r18.2.2)] prer_0 sufr_0, Ch.ro 0 (Sl a23 r18.2.1 c24) r18.2.1, Ch.ro 0 (Sl a11 r8.1 c12) r8.1, Ch.ro n0 (Sl a11 r8.1 c12) r8.1, Ch.ro 0 (Sl a13 r8.2.1 c14) r8.2.1, Ch.ro 0 (Sl a4 r1.2.1 c5) r1.2.1, Ch.ro 0 (Sl ar_0_0 r_0.1 cr_0_0) r_0.1] := H
  replace H : Hp S0 σ0 σ25 [Ch.own n0 n0 (Sl a21 r18.1 c22) r18.1, Ch.bx lor_0 br_0 or_0 [(Sl a23 r18.2.1 c24), (I r18.2.2)] prer_0 sufr_0, Ch.ro 0 (Sl a23 r18.2.1 c24) r18.2.1] := H.sel' [0, 1, 2] rfl rfl
  refine st (v := (Sl a21 r18.1 c22)) (rv_assign rfl) ?_
  refine w_end ?_
  refine q_then ?_
  refine c_ret ?_
  refine q_then_r ?_
  obtain rfl := Option.some.inj h
  exact fin_ret (v := (Sl a21 r18.1 c22)) (results_ok Try.results77 (res_tmp (v := (Sl a21 r18.1 c22)) rfl res_nil) rfl) ⟨a21, c22, a23, c24, rfl, rfl⟩ (H.sel' [0, 1, 2] rfl rfl)
 ·replace h := bif_f hb7 h
  refine c_skip ?_
  refine q_then ?_
  refine c_seq ?_
  refine rg ?_
  refine st (v := (pt br_0 or_0)) (rv_move rfl) ?_
  obtain ⟨r26, hx27, h'⟩ := bind_some h
  clear h
  have h := h'; clear h'
  have hc28 := c_spec_someVector (lor_0 := lor_0) (br_0 := br_0) (or_0 := or_0) (prer_0 := prer_0) (sufr_0 := sufr_0) (ar_0_0 := a4) (cr_0_0 := c5) hx27
  refine st_call (cx_call hc28 (ent_f hc28.fn rfl) hn0 (show Hp S0 σ0 _ ([Ch.bx lor_0 br_0 or_0 [(Sl a4 r1.2.1 c5), (I r1.2.2)] prer_0 sufr_0, Ch.ro 0 (Sl a4 r1.2.1 c5) r1.2.1] ++ [Ch.ro 0 (Sl a4 r1.2.1 c5) r1.2.1, Ch.ro 0 (Sl ar_0_0 r_0.1 cr_0_0) r_0.1]) from (H.sel' [0, 1, 1, 2] rfl rfl))) wn ?_
  rintro _ σ33 ⟨_, ⟨a29, c30, a31, c32, rfl, rfl⟩, H, -⟩
  replace H : Hp S0 σ0 σ33 [Ch.own n0 n0 (Sl a29 r26.1 c30) r26.1, Ch.bx lor_0 br_0 or_0 [(Sl a31 r26.2.1 c32), (I r26.2.2)] prer_0 sufr_0, Ch.ro 0 (Sl a31 r26.2.1 c32) r26.2.1, Ch.ro 0 (Sl a4 r1.2.1 c5) r1.2.1, Ch.ro 0 (Sl ar_0_0 r_0.1 cr_0_0) r_0.1] := H
  refine st (v := (Sl a29 r26.1 c30)) (rv_assign rfl) ?_
  refine w_end ?_
  refine q_then ?_
  refine c_ret ?_
  obtain rfl := Option.some.inj h
  exact fin_ret (v := (Sl a29 r26.1 c30)) (results_ok Try.results77 (res_tmp (v := (Sl a29 r26.1 c30)) rfl res_nil) rfl) ⟨a29, c30, a31, c32, rfl, rfl⟩ (H.sel' [0, 1, 2] rfl rfl)

theorem c_spec_anyItem {r_0 : (List UInt8) × Int} {ar_0_0 : Option Addr} {cr_0_0 : Nat} {lor_0 br_0 or_0 : Nat} {prer_0 sufr_0 : List Value} {r : (Int × (List Int) × Int) × ((List UInt8) × Int)} (h : M.spec_anyItem r_0 = some r) :
    Cal2 Try.prog 76 [(pt br_0 or_0)] [Ch.bx lor_0 br_0 or_0 [(Sl ar_0_0 r_0.1 cr_0_0), (I r_0.2)] prer_0 sufr_0, Ch.ro 0 (Sl ar_0_0 r_0.1 cr_0_0) r_0.1] (fun n0 v L => ∃ (az1 : Option Addr), ∃ (cz2 : Nat), ∃ (az3 : Option Addr), ∃ (cz4 : Nat), v = (.agg #[(I r.1.1), (Sl az1 r.1.2.1 cz2), (I r.1.2.2)]) ∧ L = [Ch.own n0 n0 (Sl az1 r.1.2.1 cz2) r.1.2.1, Ch.bx lor_0 br_0 or_0 [(Sl az3 r.2.1 cz4), (I r.2.2)] prer_0 sufr_0, Ch.ro 0 (Sl az3 r.2.1 cz4) r.2.1]) := by
 refine cal2 (n := 26) Try.func76 rfl rfl rfl rfl ?_
 intro S0 σ0 n0 hn0 H
 unfold M.spec_anyItem at h
 refine c_seq ?_
 refine rg ?_
 refine st_ex (ex_alloc (cs := [(I 0), (.slice none 0 0), (I 0)]) H hn0 ti36 rfl) wn ?_
 rintro _ σ2 ⟨b1, rfl, H, -⟩
 refine w_end ?_
 refine q_then ?_
 refine c_seq ?_
 refine rg ?_
 refine st (v := (pt br_0 or_0)) (rv_move rfl) ?_
 obtain ⟨r3, hx4, h'⟩ := bind_some h
 clear h
 have h := h'; clear h'
 have hc5 := c_spec_someItem (lor_0 := lor_0) (br_0 := br_0) (or_0 := or_0) (prer_0 := prer_0) (sufr_0 := sufr_0) (ar_0_0 := ar_0_0) (cr_0_0 := cr_0_0) hx4
 refine st_call (cx_call hc5 (ent_f hc5.fn rfl) hn0 (show Hp S0 σ0 _ ([Ch.bx lor_0 br_0 or_0 [(Sl ar_0_0 r_0.1 cr_0_0), (I r_0.2)] prer_0 sufr_0, Ch.ro 0 (Sl ar_0_0 r_0.1 cr_0_0) r_0.1] ++ [Ch.bx n0 b1 0 [(I 0), (.slice none 0 0), (I 0)] [] [], Ch.ro 0 (Sl ar_0_0 r_0.1 cr_0_0) r_0.1]) from (H.sel' [1, 2, 0, 2] rfl rfl))) wn ?_
 rintro _ σ10 ⟨_, ⟨a6, c7, a8, c9, rfl, rfl⟩, H, -⟩
 replace H : Hp S0 σ0 σ10 [Ch.own n0 n0 (Sl a6 r3.1.2.1 c7) r3.1.2.1, Ch.bx lor_0 br_0 or_0 [(Sl a8 r3.2.1 c9), (I r3.2.2)] prer_0 sufr_0, Ch.ro 0 (Sl a8 r3.2.1 c9) r3.2.1, Ch.bx n0 b1 0 [(I 0), (.slice none 0 0), (I 0)] [] [], Ch.ro 0 (Sl ar_0_0 r_0.1 cr_0_0) r_0.1] := H
 refine st_ex (ex_alloc (cs := [(I 0), (.slice none 0 0), (I 0)]) H hn0 ti36 rfl) wn ?_
 rintro _ σ12 ⟨b11, rfl, H, -⟩
 refine st_exS (ex_store_box (k := 0) (cs := [(I 0), (.slice none 0 0), (I 0)]) (vs := [(I r3.1.1), (Sl a6 r3.1.2.1 c7), (I r3.1.2.2)]) (cs' := [(I r3.1.1), (Sl a6 r3.1.2.1 c7), (I r3.1.2.2)]) H (i := 0) rfl ti36 rfl rfl rfl rfl rfl (Nat.le_of_ble_eq_true rfl) (by simp [plain]) rfl) wn ?_
 rintro σ13 ⟨H, -⟩
 refine w_end ?_
 refine q_then ?_
 refine c_seq ?_
 refine c_seq ?_
 refine rg ?_
 refine st (v := (pt br_0 or_0)) (rv_move rfl) ?_
 obtain ⟨r14, hx15, h'⟩ := bind_some h
 clear h
 have h := h'; clear h'
 have hc16 := c_spec_reader_pick (lor_0 := lor_0) (br_0 := br_0) (or_0 := or_0) (prer_0 := prer_0) (sufr_0 := sufr_0) (ar_0_0 := a8) (cr_0_0 := c9) hx15
 refine st_call (cx_call hc16 (ent_f hc16.fn rfl) hn0 (show Hp S0 σ0 _ ([Ch.bx lor_0 br_0 or_0 [(Sl a8 r3.2.1 c9), (I r3.2.2)] prer_0 sufr_0, Ch.ro 0 (Sl a8 r3.2.1 c9) r3.2.1] ++ [Ch.bx n0 b11 0 [(I r3.1.1), (Sl a6 r3.1.2.1 c7), (I r3.1.2.2)] [] [], Ch.own n0 n0 (Sl a6 r3.1.2.1 c7) r3.1.2.1, Ch.ro 0 (Sl a8 r3.2.1 c9) r3.2.1, Ch.bx n0 b1 0 [(I 0), (.slice none 0 0), (I 0)] [] [], Ch.ro 0 (Sl ar_0_0 r_0.1 cr_0_0) r_0.1]) from (H.sel' [2, 3, 0, 1, 3, 4, 5] rfl rfl))) wn ?_
 rintro _ σ19 ⟨_, ⟨a17, c18, rfl, rfl⟩, H, -⟩
 replace H : Hp S0 σ0 σ19 [Ch.bx lor_0 br_0 or_0 [(Sl a17 r14.2.1 c18), (I r14.2.2)] prer_0 sufr_0, Ch.ro 0 (Sl a17 r14.2.1 c18) r14.2.1, Ch.bx n0 b11 0 [(I r3.1.1), (Sl a6 r3.1.2.1 c7), (I r3.1.2.2)] [] [], Ch.own n0 n0 (Sl a6 r3.1.2.1 c7) r3.1.2.1, Ch.ro 0 (Sl a8 r3.2.1 c9) r3.2.1, Ch.bx n0 b1 0 [(I 0), (.slice none 0 0), (I 0)] [] [], Ch.ro 0 (Sl ar_0_0 r_0.1 cr_0_0) r_0.1] := H
 refine w_end ?_
 refine q_then ?_
 obtain ⟨o20, hj, h'⟩ := bind_some h
 clear h
 refine c_cut (fun e a w => e = .normal ∧ ∃ (ρ : Nat → Value) (σ : St) (aj1 : Option Addr) (cj2 : Nat) (aj3 : Option Addr) (cj4 : Nat), a = fr 26 (updL ρ [(0, (pt br_0 or_0)), (2, (pt b1 0)), (3, (pt b11 0))]) ∧ w = σ.w ∧ Hp S0 σ0 σ [Ch.bx lor_0 br_0 or_0 [(Sl aj1 o20.1.1 cj2), (I o20.1.2)] prer_0 sufr_0, Ch.ro 0 (Sl aj1 o20.1.1 cj2) o20.1.1, Ch.bx n0 b11 0 [(I o20.2.1), (Sl aj3 o20.2.2.1 cj4), (I o20.2.2.2)] [] [], Ch.own n0 n0 (Sl aj3 o20.2.2.1 cj4) o20.2.2.1, Ch.bx n0 b1 0 [(I 0), (.slice none 0 0), (I 0)] [] []]) ?_ ?_
 ·clear h'
  rename _ = some o20 => h
  refine c_blk ?_
  refine c_seq ?_
  refine rg ?_
  refine st (v := (B (r14.1 == 0))) (rv_eql (a := r14.1) (b := 0) rfl rfl) ?_
  refine st (v := (B (r14.1 == 0))) (rv_assign rfl) ?_
  refine w_end ?_
  refine q_then ?_
  refine cd_cond (r14.1 == 0) rfl (fun hb21 => ?_) (fun hb21 => ?_)
  ·replace h := bif_t hb21 h
   refine rg ?_
   refine st (v := (pt br_0 or_0)) (rv_move rfl) ?_
   refine st_ex (ex_buildSlice (el := n0) (xs := ([0, 99, 100] : List Int)) (ps := [(0, (I 0)), (1, (I 99)), (2, (I 100))]) (cs := [(I 0), (I 99), (I 100)]) H hn0 Try.underlying34 ti3 rfl rfl (by kernel_rfl) (.cons (c := [(I 0)]) rfl (.cons (c := [(I 99)]) rfl (.cons (c := [(I 100)]) rfl (.nil)))) rfl) wn ?_
   rintro _ σ23 ⟨b22, rfl, H, -⟩
   replace H : Hp S0 σ0 σ23 [Ch.own n0 n0 (Sl (some ⟨b22, 0, none⟩) ([0, 99, 100] : List Int) 3) ([0, 99, 100] : List Int), Ch.bx lor_0 br_0 or_0 [(Sl a17 r14.2.1 c18), (I r14.2.2)] prer_0 sufr_0, Ch.ro 0 (Sl a17 r14.2.1 c18) r14.2.1, Ch.bx n0 b11 0 [(I r3.1.1), (Sl a6 r3.1.2.1 c7), (I r3.1.2.2)] [] [], Ch.own n0 n0 (Sl a6 r3.1.2.1 c7) r3.1.2.1, Ch.bx n0 b1 0 [(I 0), (.slice none 0 0), (I 0)] [] []] := H.sel' [0, 1, 2, 3, 4, 6] rfl rfl
   obtain ⟨σ24, hw25, H, -⟩ := H.pub 0 rfl (Nat.le_refl _)
   rw [← hw25]; clear hw25
   replace H := H.roLow 0 0 rfl (Nat.zero_le _)
   obtain ⟨r26, hx27, h'⟩ := bind_some h
   clear h
   have h := h'; clear h'
   have hc28 := c_spec_reader_one (lor_0 := lor_0) (br_0 := br_0) (or_0 := or_0) (prer_0 := prer_0) (sufr_0 := sufr_0) (ar_0_0 := a17) (cr_0_0 := c18) (alist_1 := (some ⟨b22, 0, none⟩)) (clist_1 := 3) hx27
   refine st_call (cx_call hc28 (ent_f hc28.fn rfl) hn0 (show Hp S0 σ0 _ ([Ch.bx lor_0 br_0 or_0 [(Sl a17 r14.2.1 c18), (I r14.2.2)] prer_0 sufr_0, Ch.ro 0 (Sl a17 r14.2.1 c18) r14.2.1, Ch.ro 0 (Sl (some ⟨b22, 0, none⟩) ([0, 99, 100] : List Int) 3) ([0, 99, 100] : List Int)] ++ [Ch.ro 0 (Sl (some ⟨b22, 0, none⟩) ([0, 99, 100] : List Int) 3) ([0, 99, 100] : List Int), Ch.ro n0 (Sl (some ⟨b22, 0, none⟩) ([0, 99, 100] : List Int) 3) ([0, 99, 100] : List Int), Ch.ro 0 (Sl a17 r14.2.1 c18) r14.2.1, Ch.bx n0 b11 0 [(I r3.1.1), (Sl a6 r3.1.2.1 c7), (I r3.1.2.2)] [] [], Ch.own n0 n0 (Sl a6 r3.1.2.1 c7) r3.1.2.1, Ch.bx n0 b1 0 [(I 0), (.slice none 0 0), (I 0)] [] []]) from (H.sel' [2, 3, 0, 0, 1, 3, 4, 5, 6] rfl rfl))) wn ?_
   rintro _ σ31 ⟨_, ⟨a29, c30, rfl, rfl⟩, H, -⟩
   replace H : Hp S0 σ0 σ31 [Ch.bx lor_0 br_0 or_0 [(Sl a29 r26.2.1 c30), (I r26.2.2)] prer_0 sufr_0, Ch.ro 0 (Sl a29 r26.2.1 c30) r26.2.1, Ch.ro 0 (Sl (some ⟨b22, 0, none⟩) ([0, 99, 100] : List Int) 3) ([0, 99, 100] : List Int), Ch.ro n0 (Sl (some ⟨b22, 0, none⟩) ([0, 99, 100] : List Int) 3) ([0, 99, 100] : List Int), Ch.ro 0 (Sl a17 r14.2.1 c18) r14.2.1, Ch.bx n0 b11 0 [(I r3.1.1), (Sl a6 r3.1.2.1 c7), (I r3.1.2.2)] [] [], Ch.own n0 n0 (Sl a6 r3.1.2.1 c7) r3.1.2.1, Ch.bx n0 b1 0 [(I 0), (.slice none 0 0), (I 0)] [] []] := H
   replace H : Hp S0 σ0 σ31 [Ch.bx lor_0 br_0 or_0 [(Sl a29 r26.2.1 c30), (I r26.2.2)] prer_0 sufr_0, Ch.ro 0 (Sl a29 r26.2.1 c30) r26.2.1, Ch.bx n0 b11 0 [(I r3.1.1), (Sl a6 r3.1.2.1 c7), (I r3.1.2.2)] [] [], Ch.own n0 n0 (Sl a6 r3.1.2.1 c7) r3.1.2.1, Ch.bx n0 b1 0 [(I 0), (.slice none 0 0), (I 0)] [] []] := H.sel' [0, 1, 5, 6, 7] rfl rfl
   refine st (v := (pt b11 0)) (rv_fieldAddr (off := 0) (ft := 3) Try.underlying36 rfl ti3 rfl rfl) ?_
   refine st_exS (ex_store_box (k := 0) (cs := [(I r3.1.1), (Sl a6 r3.1.2.1 c7), (I r3.1.2.2)]) (vs := [(I r26.1)]) (cs' := [(I r26.1), (Sl a6 r3.1.2.1 c7), (I r3.1.2.2)]) H (i := 2) rfl ti3 rfl rfl rfl rfl rfl (Nat.le_of_ble_eq_true rfl) (by simp [plain]) rfl) wn ?_
   rintro σ32 ⟨H, -⟩
   refine w_end ?_
   refine q_blk ?_
   obtain rfl := Option.some.inj h
   exact ⟨rfl, _, σ32, a29, c30, a6, c7, fr_join ⟨rfl, rfl, rfl, trivial⟩, rfl, H.sel' [1, 2, 0, 3, 4] rfl rfl⟩
  ·replace h := bif_f hb21 h
   refine c_seq ?_
   refine rg ?_
   refine st (v := (B (r14.1 == 1))) (rv_eql (a := r14.1) (b := 1) rfl rfl) ?_
   refine st (v := (B (r14.1 == 1))) (rv_assign rfl) ?_
   refine w_end ?_
   refine q_then ?_
   refine cd_cond (r14.1 == 1) rfl (fun hb33 => ?_) (fun hb33 => ?_)
   ·replace h := bif_t hb33 h
    refine rg ?_
    refine st (v := (pt br_0 or_0)) (rv_move rfl) ?_
    obtain ⟨r34, hx35, h'⟩ := bind_some h
    clear h
    have h := h'; clear h'
    have hc36 := c_spec_anyVector (lor_0 := lor_0) (br_0 := br_0) (or_0 := or_0) (prer_0 := prer_0) (sufr_0 := sufr_0) (ar_0_0 := a17) (cr_0_0 := c18) hx35
    refine st_call (cx_call hc36 (ent_f hc36.fn rfl) hn0 (show Hp S0 σ0 _ ([Ch.bx lor_0 br_0 or_0 [(Sl a17 r14.2.1 c18), (I r14.2.2)] prer_0 sufr_0, Ch.ro 0 (Sl a17 r14.2.1 c18) r14.2.1] ++ [Ch.ro 0 (Sl a17 r14.2.1 c18) r14.2.1, Ch.bx n0 b11 0 [(I r3.1.1), (Sl a6 r3.1.2.1 c7), (I r3.1.2.2)] [] [], Ch.own n0 n0 (Sl a6 r3.1.2.1 c7) r3.1.2.1, Ch.ro 0 (Sl a8 r3.2.1 c9) r3.2.1, Ch.bx n0 b1 0 [(I 0), (.slice none 0 0), (I 0)] [] [], Ch.ro 0 (Sl ar_0_0 r_0.1 cr_0_0) r_0.1]) from (H.sel' [0, 1, 1, 2, 3, 4, 5, 6] rfl rfl))) wn ?_
    rintro _ σ41 ⟨_, ⟨a37, c38, a39, c40, rfl, rfl⟩, H, -⟩
    replace H : Hp S0 σ0 σ41 [Ch.own n0 n0 (Sl a37 r34.1 c38) r34.1, Ch.bx lor_0 br_0 or_0 [(Sl a39 r34.2.1 c40), (I r34.2.2)] prer_0 sufr_0, Ch.ro 0 (Sl a39 r34.2.1 c40) r34.2.1, Ch.ro 0 (Sl a17 r14.2.1 c18) r14.2.1, Ch.bx n0 b11 0 [(I r3.1.1), (Sl a6 r3.1.2.1 c7), (I r3.1.2.2)] [] [], Ch.own n0 n0 (Sl a6 r3.1.2.1 c7) r3.1.2.1, Ch.ro 0 (Sl a8 r3.2.1 c9) r3.2.1, Ch.bx n0 b1 0 [(I 0), (.slice none 0 0), (I 0)] [] [], Ch.ro 0 (Sl ar_0_0 r_0.1 cr_0_0) r_0.1] := H
    replace H : Hp S0 σ0 σ41 [Ch.own n0 n0 (Sl a37 r34.1 c38) r34.1, Ch.bx lor_0 br_0 or_0 [(Sl a39 r34.2.1 c40), (I r34.2.2)] prer_0 sufr_0, Ch.ro 0 (Sl a39 r34.2.1 c40) r34.2.1, Ch.bx n0 b11 0 [(I r3.1.1), (Sl a6 r3.1.2.1 c7), (I r3.1.2.2)] [] [], Ch.own n0 n0 (Sl a6 r3.1.2.1 c7) r3.1.2.1, Ch.bx n0 b1 0 [(I 0), (.slice none 0 0), (I 0)] [] []] := H.sel' [0, 1, 2, 4, 5, 7] rfl rfl
    refine st (v := (pt b11 1)) (rv_fieldAddr (off := 1) (ft := 34) Try.underlying36 rfl ti34 rfl rfl) ?_
    refine st_exS (ex_store_box (k := 1) (cs := [(I r3.1.1), (Sl a6 r3.1.2.1 c7), (I r3.1.2.2)]) (vs := [(Sl a37 r34.1 c38)]) (cs' := [(I r3.1.1), (Sl a37 r34.1 c38), (I r3.1.2.2)]) H (i := 3) rfl ti34 rfl rfl rfl rfl rfl (Nat.le_of_ble_eq_true rfl) (by simp [plain]) rfl) wn ?_
    rintro σ42 ⟨H, -⟩
    refine w_end ?_
    refine q_blk ?_
    obtain rfl := Option.some.inj h
    exact ⟨rfl, _, σ42, a39, c40, a37, c38, fr_join ⟨rfl, rfl, rfl, trivial⟩, rfl, H.sel' [2, 3, 0, 1, 5] rfl rfl⟩
   ·replace h := bif_f hb33 h
    refine c_seq ?_
    refine rg ?_
    refine st (v := (B (r14.1 == 2))) (rv_eql (a := r14.1) (b := 2) rfl rfl) ?_
    refine st (v := (B (r14.1 == 2))) (rv_assign rfl) ?_
    refine w_end ?_
    refine q_then ?_
    refine cd_cond (r14.1 == 2) rfl (fun hb43 => ?_) (fun hb43 => ?_)
    ·replace h := bif_t hb43 h
     refine rg ?_
     refine st (v := (pt br_0 or_0)) (rv_move rfl) ?_
     refine st_ex (ex_buildSlice (el := n0) (xs := ([-1, 16] : List Int)) (ps := [(0, (I (-1))), (1, (I 16))]) (cs := [(I (-1)), (I 16)]) H hn0 Try.underlying34 ti3 rfl rfl (by kernel_rfl) (.cons (c := [(I (-1))]) rfl (.cons (c := [(I 16)]) rfl (.nil))) rfl) wn ?_
     rintro _ σ45 ⟨b44, rfl, H, -⟩
     replace H : Hp S0 σ0 σ45 [Ch.own n0 n0 (Sl (some ⟨b44, 0, none⟩) ([-1, 16] : List Int) 2) ([-1, 16] : List Int), Ch.bx lor_0 br_0 or_0 [(Sl a17 r14.2.1 c18), (I r14.2.2)] prer_0 sufr_0, Ch.ro 0 (Sl a17 r14.2.1 c18) r14.2.1, Ch.bx n0 b11 0 [(I r3.1.1), (Sl a6 r3.1.2.1 c7), (I r3.1.2.2)] [] [], Ch.own n0 n0 (Sl a6 r3.1.2.1 c7) r3.1.2.1, Ch.bx n0 b1 0 [(I 0), (.slice none 0 0), (I 0)] [] []] := H.sel' [0, 1, 2, 3, 4, 6] rfl rfl
     obtain ⟨σ46, hw47, H, -⟩ := H.pub 0 rfl (Nat.le_refl _)
     rw [← hw47]; clear hw47
     replace H := H.roLow 0 0 rfl (Nat.zero_le _)
     obtain ⟨r48, hx49, h'⟩ := bind_some h
     clear h
     have h := h'; clear h'
     have hc50 := c_spec_reader_one (lor_0 := lor_0) (br_0 := br_0) (or_0 := or_0) (prer_0 := prer_0) (sufr_0 := sufr_0) (ar_0_0 := a17) (cr_0_0 := c18) (alist_1 := (some ⟨b44, 0, none⟩)) (clist_1 := 2) hx49
     refine st_call (cx_call hc50 (ent_f hc50.fn rfl) hn0 (show Hp S0 σ0 _ ([Ch.bx lor_0 br_0 or_0 [(Sl a17 r14.2.1 c18), (I r14.2.2)] prer_0 sufr_0, Ch.ro 0 (Sl a17 r14.2.1 c18) r14.2.1, Ch.ro 0 (Sl (some ⟨b44, 0, none⟩) ([-1, 16] : List Int) 2) ([-1, 16] : List Int)] ++ [Ch.ro 0 (Sl (some ⟨b44, 0, none⟩) ([-1, 16] : List Int) 2) ([-1, 16] : List Int), Ch.ro n0 (Sl (some ⟨b44, 0, none⟩) ([-1, 16] : List Int) 2) ([-1, 16] : List Int), Ch.ro 0 (Sl a17 r14.2.1 c18) r14.2.1, Ch.bx n0 b11 0 [(I r3.1.1), (Sl a6 r3.1.2.1 c7), (I r3.1.2.2)] [] [], Ch.own n0 n0 (Sl a6 r3.1.2.1 c7) r3.1.2.1, Ch.bx n0 b1 0 [(I 0), (.slice none 0 0), (I 0)] [] []]) from (H.sel' [2, 3, 0, 0, 1, 3, 4, 5, 6] rfl rfl))) wn ?_
     rintro _ σ53 ⟨_, ⟨a51, c52, rfl, rfl⟩, H, -⟩
     replace H : Hp S0 σ0 σ53 [Ch.bx lor_0 br_0 or_0 [(Sl a51 r48.2.1 c52), (I r48.2.2)] prer_0 sufr_0, Ch.ro 0 (Sl a51 r48.2.1 c52) r48.2.1, Ch.ro 0 (Sl (some ⟨b44, 0, none⟩) ([-1, 16] : List Int) 2) ([-1, 16] : List Int), Ch.ro n0 (Sl (some ⟨b44, 0, none⟩) ([-1, 16] : List Int) 2) ([-1, 16] : List Int), Ch.ro 0 (Sl a17 r14.2.1 c18) r14.2.1, Ch.bx n0 b11 0 [(I r3.1.1), (Sl a6 r3.1.2.1 c7), (I r3.1.2.2)] [] [], Ch.own n0 n0 (Sl a6 r3.1.2.1 c7) r3.1.2.1, Ch.bx n0 b1 0 [(I 0), (.slice none 0 0), (I 0)] [] []] := H
     replace H : Hp S0 σ0 σ53 [Ch.bx lor_0 br_0 or_0 [(Sl a51 r48.2.1 c52), (I r48.2.2)] prer_0 sufr_0, Ch.ro 0 (Sl a51 r48.2.1 c52) r48.2.1, Ch.bx n0 b11 0 [(I r3.1.1), (Sl a6 r3.1.2.1 c7), (I r3.1.2.2)] [] [], Ch.own n0 n0 (Sl a6 r3.1.2.1 c7) r3.1.2.1, Ch.bx n0 b1 0 [(I 0), (.slice none 0 0), (I 0)] [] []] := H.sel' [0, 1, 5, 6, 7] rfl rfl
     refine st (v := (pt b11 2)) (rv_fieldAddr (off := 2) (ft := 3) Try.underlying36 rfl ti3 rfl rfl) ?_
     refine st_exS (ex_store_box (k := 2) (cs := [(I r3.1.1), (Sl a6 r3.1.2.1 c7), (I r3.1.2.2)]) (vs := [(I r48.1)]) (cs' := [(I r3.1.1), (Sl a6 r3.1.2.1 c7), (I r48.1)]) H (i := 2) rfl ti3 rfl rfl rfl rfl rfl (Nat.le_of_ble_eq_true rfl) (by simp [plain]) rfl) wn ?_
     rintro σ54 ⟨H, -⟩
     refine w_end ?_
     refine q_blk ?_
     obtain rfl := Option.some.inj h
     exact ⟨rfl, _, σ54, a51, c52, a6, c7, fr_join ⟨rfl, rfl, rfl, trivial⟩, rfl, H.sel' [1, 2, 0, 3, 4] rfl rfl⟩
    ·replace h := bif_f hb43 h
     refine c_skip ?_
     refine q_blk ?_
     obtain rfl := Option.some.inj h
     exact ⟨rfl, _, σ19, a17, c18, a6, c7, fr_join ⟨rfl, rfl, rfl, trivial⟩, rfl, H.sel' [0, 1, 2, 3, 5] rfl rfl⟩
 ·clear hj
  have h := h'
  clear h' H
  rintro e a w ⟨rfl, ρ, σ55, a56, c57, a58, c59, rfl, rfl, H⟩
  refine q_then ?_
  refine c_seq ?_
  refine rg ?_
  have hc60 := H.cells 2 rfl
  refine st (v := (.agg #[(I o20.2.1), (Sl a58 o20.2.2.1 c59), (I o20.2.2.2)])) (rv_load (cs := [(I o20.2.1), (Sl a58 o20.2.2.1 c59), (I o20.2.2.2)]) Try.underlying36 rfl ti36 rfl rfl hc60) ?_
  refine st_exS (ex_store_box (k := 0) (cs := [(I 0), (.slice none 0 0), (I 0)]) (vs := [(I o20.2.1), (Sl a58 o20.2.2.1 c59), (I o20.2.2.2)]) (cs' := [(I o20.2.1), (Sl a58 o20.2.2.1 c59), (I o20.2.2.2)]) H (i := 4) rfl ti36 rfl rfl rfl rfl rfl (Nat.le_of_ble_eq_true rfl) (by simp [plain]) rfl) wn ?_
  rintro σ61 ⟨H, -⟩
  refine w_end ?_
  refine q_then ?_
  refine c_ret ?_
  obtain rfl := Option.some.inj h
  exact fin_ret (v := (.agg #[(I o20.2.1), (Sl a58 o20.2.2.1 c59), (I o20.2.2.2)])) (results_ok Try.results76 (res_cell rfl (run_cellRes (cs := [(I o20.2.1), (Sl a58 o20.2.2.1 c59), (I o20.2.2.2)]) Try.underlying36 rfl ti36 rfl (H.cells 0 rfl)) res_nil) rfl) ⟨a58, c59, a56, c57, rfl, rfl⟩ (H.sel' [4, 1, 2] rfl rfl)

theorem c_spec_anyStore {r_0 : (List UInt8) × Int} {ar_0_0 : Option Addr} {cr_0_0 : Nat} {lor_0 br_0 or_0 : Nat} {prer_0 sufr_0 : List Value} {r : (List (Int × (List Int) × Int)) × ((List UInt8) × Int)} (h : M.spec_anyStore r_0 = some r) :
    Cal2 Try.prog 44 [(pt br_0 or_0)] [Ch.bx lor_0 br_0 or_0 [(Sl ar_0_0 r_0.1 cr_0_0), (I r_0.2)] prer_0 sufr_0, Ch.ro 0 (Sl ar_0_0 r_0.1 cr_0_0) r_0.1] (fun n0 v L => ∃ (az1 : Option Addr), ∃ (cz2 : Nat), ∃ (az3 : Option Addr), ∃ (cz4 : Nat), v = (Sl az1 r.1 cz2) ∧ L = [Ch.own n0 n0 (Sl az1 r.1 cz2) r.1, Ch.bx lor_0 br_0 or_0 [(Sl az3 r.2.1 cz4), (I r.2.2)] prer_0 sufr_0, Ch.ro 0 (Sl az3 r.2.1 cz4) r.2.1]) := by
 refine cal2 (n := 30) Try.func44 rfl rfl rfl rfl ?_
 intro S0 σ0 n0 hn0 H
 unfold M.spec_anyStore at h
 refine c_seq ?_
 refine rg ?_
 refine st (v := (.slice none 0 0)) (rv_assign rfl) ?_
 refine w_end ?_
 refine q_then ?_
 refine c_seq ?_
 refine rg ?_
 refine st (v := (pt br_0 or_0)) (rv_move rfl) ?_
 obtain ⟨r1, hx2, h'⟩ := bind_some h
 clear h
 have h := h'; clear h'
 have hc3 := c_spec_someStore (lor_0 := lor_0) (br_0 := br_0) (or_0 := or_0) (prer_0 := prer_0) (sufr_0 := sufr_0) (ar_0_0 := ar_0_0) (cr_0_0 := cr_0_0) hx2
 refine st_call (cx_call hc3 (ent_f hc3.fn rfl) hn0 (show Hp S0 σ0 _ ([Ch.bx lor_0 br_0 or_0 [(Sl ar_0_0 r_0.1 cr_0_0), (I r_0.2)] prer_0 sufr_0, Ch.ro 0 (Sl ar_0_0 r_0.1 cr_0_0) r_0.1] ++ [Ch.ro 0 (Sl ar_0_0 r_0.1 cr_0_0) r_0.1]) from (H.sel' [0, 1, 1] rfl rfl))) wn ?_
 rintro _ σ8 ⟨_, ⟨a4, c5, a6, c7, rfl, rfl⟩, H, -⟩
 replace H : Hp S0 σ0 σ8 [Ch.own n0 n0 (Sl a4 r1.1 c5) r1.1, Ch.bx lor_0 br_0 or_0 [(Sl a6 r1.2.1 c7), (I r1.2.2)] prer_0 sufr_0, Ch.ro 0 (Sl a6 r1.2.1 c7) r1.2.1, Ch.ro 0 (Sl ar_0_0 r_0.1 cr_0_0) r_0.1] := H
 refine st (v := (Sl a4 r1.1 c5)) (rv_assign rfl) ?_
 refine w_end ?_
 refine q_then ?_
 refine c_seq ?_
 refine c_seq ?_
 refine rg ?_
 refine st (v := (pt br_0 or_0)) (rv_move rfl) ?_
 obtain ⟨r9, hx10, h'⟩ := bind_some h
 clear h
 have h := h'; clear h'
 have hc11 := c_spec_reader_pick (lor_0 := lor_0) (br_0 := br_0) (or_0 := or_0) (prer_0 := prer_0) (sufr_0 := sufr_0) (ar_0_0 := a6) (cr_0_0 := c7) hx10
 refine st_call (cx_call hc11 (ent_f hc11.fn rfl) hn0 (show Hp S0 σ0 _ ([Ch.bx lor_0 br_0 or_0 [(Sl a6 r1.2.1 c7), (I r1.2.2)] prer_0 sufr_0, Ch.ro 0 (Sl a6 r1.2.1 c7) r1.2.1] ++ [Ch.own n0 n0 (Sl a4 r1.1 c5) r1.1, Ch.ro 0 (Sl a6 r1.2.1 c7) r1.2.1, Ch.ro 0 (Sl ar_0_0 r_0.1 cr_0_0) r_0.1]) from (H.sel' [1, 2, 0, 2, 3] rfl rfl))) wn ?_
 rintro _ σ14 ⟨_, ⟨a12, c13, rfl, rfl⟩, H, -⟩
 replace H : Hp S0 σ0 σ14 [Ch.bx lor_0 br_0 or_0 [(Sl a12 r9.2.1 c13), (I r9.2.2)] prer_0 sufr_0, Ch.ro 0 (Sl a12 r9.2.1 c13) r9.2.1, Ch.own n0 n0 (Sl a4 r1.1 c5) r1.1, Ch.ro 0 (Sl a6 r1.2.1 c7) r1.2.1, Ch.ro 0 (Sl ar_0_0 r_0.1 cr_0_0) r_0.1] := H
 refine w_end ?_
 refine q_then ?_
 obtain ⟨o15, hj, h'⟩ := bind_some h
 clear h
 refine c_cut (fun e a w => e = .normal ∧ ∃ (ρ : Nat → Value) (σ : St) (aj1 : Option Addr) (cj2 : Nat) (aj3 : Option Addr) (cj4 : Nat), a = fr 30 (updL ρ [(0, (pt br_0 or_0)), (3, (Sl aj3 o15.2 cj4))]) ∧ w = σ.w ∧ Hp S0 σ0 σ [Ch.bx lor_0 br_0 or_0 [(Sl aj1 o15.1.1 cj2), (I o15.1.2)] prer_0 sufr_0, Ch.ro 0 (Sl aj1 o15.1.1 cj2) o15.1.1, Ch.own n0 n0 (Sl aj3 o15.2 cj4) o15.2]) ?_ ?_
 ·clear h'
  rename _ = some o15 => h
  refine c_blk ?_
  refine c_seq ?_
  refine rg ?_
  refine st (v := (B (r9.1 == 0))) (rv_eql (a := r9.1) (b := 0) rfl rfl) ?_
  refine st (v := (B (r9.1 == 0))) (rv_assign rfl) ?_
  refine w_end ?_
  refine q_then ?_
  refine cd_cond (r9.1 == 0) rfl (fun hb16 => ?_) (fun hb16 => ?_)
  ·replace h := bif_t hb16 h
   refine rg ?_
   refine st (v := (Sl a4 r1.1 c5)) (rv_move rfl) ?_
   refine st (v := (pt br_0 or_0)) (rv_move rfl) ?_
   obtain ⟨r17, hx18, h'⟩ := bind_some h
   clear h
   have h := h'; clear h'
   have hc19 := c_spec_anyItem (lor_0 := lor_0) (br_0 := br_0) (or_0 := or_0) (prer_0 := prer_0) (sufr_0 := sufr_0) (ar_0_0 := a12) (cr_0_0 := c13) hx18
   refine st_call (cx_call hc19 (ent_f hc19.fn rfl) hn0 (show Hp S0 σ0 _ ([Ch.bx lor_0 br_0 or_0 [(Sl a12 r9.2.1 c13), (I r9.2.2)] prer_0 sufr_0, Ch.ro 0 (Sl a12 r9.2.1 c13) r9.2.1] ++ [Ch.ro 0 (Sl a12 r9.2.1 c13) r9.2.1, Ch.own n0 n0 (Sl a4 r1.1 c5) r1.1, Ch.ro 0 (Sl a6 r1.2.1 c7) r1.2.1, Ch.ro 0 (Sl ar_0_0 r_0.1 cr_0_0) r_0.1]) from (H.sel' [0, 1, 1, 2, 3, 4] rfl rfl))) wn ?_
   rintro _ σ24 ⟨_, ⟨a20, c21, a22, c23, rfl, rfl⟩, H, -⟩
   replace H : Hp S0 σ0 σ24 [Ch.own n0 n0 (Sl a20 r17.1.2.1 c21) r17.1.2.1, Ch.bx lor_0 br_0 or_0 [(Sl a22 r17.2.1 c23), (I r17.2.2)] prer_0 sufr_0, Ch.ro 0 (Sl a22 r17.2.1 c23) r17.2.1, Ch.ro 0 (Sl a12 r9.2.1 c13) r9.2.1, Ch.own n0 n0 (Sl a4 r1.1 c5) r1.1, Ch.ro 0 (Sl a6 r1.2.1 c7) r1.2.1, Ch.ro 0 (Sl ar_0_0 r_0.1 cr_0_0) r_0.1] := H
   obtain ⟨σ25, hw26, H, -⟩ := H.pub 0 rfl (Nat.le_refl _)
   rw [← hw26]; clear hw26
   refine st_ex (ex_buildSlice (el := n0) (xs := ([(r17.1.1, r17.1.2.1, r17.1.2.2)] : List (Int × (List Int) × Int))) (ps := [(0, (.agg #[(I r17.1.1), (Sl a20 r17.1.2.1 c21), (I r17.1.2.2)]))]) (cs := [(I r17.1.1), (Sl a20 r17.1.2.1 c21), (I r17.1.2.2)]) H hn0 Try.underlying27 ti36 rfl rfl (by kernel_rfl) (.cons (c := [(I r17.1.1), (Sl a20 r17.1.2.1 c21), (I r17.1.2.2)]) ⟨[(I r17.1.1)], [(Sl a20 r17.1.2.1 c21), (I r17.1.2.2)], rfl, rfl, ⟨[(Sl a20 r17.1.2.1 c21)], [(I r17.1.2.2)], rfl, ⟨_, rfl, (H.ro 0 rfl)⟩, rfl⟩⟩ (.nil)) rfl) wn ?_
   rintro _ σ28 ⟨b27, rfl, H, -⟩
   replace H : Hp S0 σ0 σ28 [Ch.own n0 n0 (Sl (some ⟨b27, 0, none⟩) ([(r17.1.1, r17.1.2.1, r17.1.2.2)] : List (Int × (List Int) × Int)) 1) ([(r17.1.1, r17.1.2.1, r17.1.2.2)] : List (Int × (List Int) × Int)), Ch.bx lor_0 br_0 or_0 [(Sl a22 r17.2.1 c23), (I r17.2.2)] prer_0 sufr_0, Ch.ro 0 (Sl a22 r17.2.1 c23) r17.2.1, Ch.own n0 n0 (Sl a4 r1.1 c5) r1.1] := H.sel' [0, 2, 3, 5] rfl rfl
   obtain ⟨xs29, hx30, h'⟩ := bind_some h
   clear h
   have h := h'; clear h'
   refine st_ex (ex_append H (i := 3) rfl Try.underlying27 Try.underlying27 ti36 rfl rfl (by decide) (H.own 0 rfl).rd hx30 hn0 rfl rfl) wn ?_
   rintro _ σ33 ⟨a31, c32, rfl, H, -⟩
   refine st (v := (Sl a31 xs29 c32)) (rv_assign rfl) ?_
   refine w_end ?_
   refine q_blk ?_
   obtain rfl := Option.some.inj h
   exact ⟨rfl, _, σ33, a22, c23, a31, c32, fr_join ⟨rfl, rfl, trivial⟩, rfl, H.sel' [2, 3, 0] rfl rfl⟩
  ·replace h := bif_f hb16 h
   refine c_seq ?_
   refine rg ?_
   refine st (v := (B (r9.1 == 1))) (rv_eql (a := r9.1) (b := 1) rfl rfl) ?_
   refine st (v := (B (r9.1 == 1))) (rv_assign rfl) ?_
   refine w_end ?_
   refine q_then ?_
   refine cd_cond (r9.1 == 1) rfl (fun hb34 => ?_) (fun hb34 => ?_)
   ·replace h := bif_t hb34 h
    refine c_seq ?_
    refine rg ?_
    refine st (v := (Sl a4 r1.1 c5)) (rv_move rfl) ?_
    refine st (v := (I (r1.1.length : Int))) (rv_len Try.underlying27 rfl) ?_
    refine st (v := (B (decide (0 < (r1.1.length : Int))))) (rv_gtr (a := (r1.1.length : Int)) (b := 0) rfl rfl) ?_
    refine w_end ?_
    refine q_then ?_
    refine cd_cond (decide (0 < (r1.1.length : Int))) rfl (fun hb35 => ?_) (fun hb35 => ?_)
    ·replace h := bif_t hb35 h
     refine rg ?_
     refine st (v := (Sl a4 r1.1 c5)) (rv_move rfl) ?_
     refine st (v := (pt br_0 or_0)) (rv_move rfl) ?_
     refine st (v := (Sl a4 r1.1 c5)) (rv_move rfl) ?_
     refine st (v := (I (r1.1.length : Int))) (rv_len Try.underlying27 rfl) ?_
     obtain ⟨r36, hx37, h'⟩ := bind_some h
     clear h
     have h := h'; clear h'
     have hc38 := c_spec_reader_pick (lor_0 := lor_0) (br_0 := br_0) (or_0 := or_0) (prer_0 := prer_0) (sufr_0 := sufr_0) (ar_0_0 := a12) (cr_0_0 := c13) hx37
     refine st_call (cx_call hc38 (ent_f hc38.fn rfl) hn0 (show Hp S0 σ0 _ ([Ch.bx lor_0 br_0 or_0 [(Sl a12 r9.2.1 c13), (I r9.2.2)] prer_0 sufr_0, Ch.ro 0 (Sl a12 r9.2.1 c13) r9.2.1] ++ [Ch.ro 0 (Sl a12 r9.2.1 c13) r9.2.1, Ch.own n0 n0 (Sl a4 r1.1 c5) r1.1, Ch.ro 0 (Sl a6 r1.2.1 c7) r1.2.1, Ch.ro 0 (Sl ar_0_0 r_0.1 cr_0_0) r_0.1]) from (H.sel' [0, 1, 1, 2, 3, 4] rfl rfl))) wn ?_
     rintro _ σ41 ⟨_, ⟨a39, c40, rfl, rfl⟩, H, -⟩
     replace H : Hp S0 σ0 σ41 [Ch.bx lor_0 br_0 or_0 [(Sl a39 r36.2.1 c40), (I r36.2.2)] prer_0 sufr_0, Ch.ro 0 (Sl a39 r36.2.1 c40) r36.2.1, Ch.ro 0 (Sl a12 r9.2.1 c13) r9.2.1, Ch.own n0 n0 (Sl a4 r1.1 c5) r1.1, Ch.ro 0 (Sl a6 r1.2.1 c7) r1.2.1, Ch.ro 0 (Sl ar_0_0 r_0.1 cr_0_0) r_0.1] := H
     refine st (v := (pt br_0 or_0)) (rv_move rfl) ?_
     obtain ⟨r42, hx43, h'⟩ := bind_some h
     clear h
     have h := h'; clear h'
     have hc44 := c_spec_anyVector (lor_0 := lor_0) (br_0 := br_0) (or_0 := or_0) (prer_0 := prer_0) (sufr_0 := sufr_0) (ar_0_0 := a39) (cr_0_0 := c40) hx43
     refine st_call (cx_call hc44 (ent_f hc44.fn rfl) hn0 (show Hp S0 σ0 _ ([Ch.bx lor_0 br_0 or_0 [(Sl a39 r36.2.1 c40), (I r36.2.2)] prer_0 sufr_0, Ch.ro 0 (Sl a39 r36.2.1 c40) r36.2.1] ++ [Ch.ro 0 (Sl a39 r36.2.1 c40) r36.2.1, Ch.ro 0 (Sl a12 r9.2.1 c13) r9.2.1, Ch.own n0 n0 (Sl a4 r1.1 c5) r1.1, Ch.ro 0 (Sl a6 r1.2.1 c7) r1.2.1, Ch.ro 0 (Sl ar_0_0 r_0.1 cr_0_0) r_0.1]) from (H.sel' [0, 1, 1, 2, 3, 4, 5] rfl rfl))) wn ?_
     rintro _ σ49 ⟨_, ⟨a45, c46, a47, c48, rfl, rfl⟩, H, -⟩
     replace H : Hp S0 σ0 σ49 [Ch.own n0 n0 (Sl a45 r42.1 c46) r42.1, Ch.bx lor_0 br_0 or_0 [(Sl a47 r42.2.1 c48), (I r42.2.2)] prer_0 sufr_0, Ch.ro 0 (Sl a47 r42.2.1 c48) r42.2.1, Ch.ro 0 (Sl a39 r36.2.1 c40) r36.2.1, Ch.ro 0 (Sl a12 r9.2.1 c13) r9.2.1, Ch.own n0 n0 (Sl a4 r1.1 c5) r1.1, Ch.ro 0 (Sl a6 r1.2.1 c7) r1.2.1, Ch.ro 0 (Sl ar_0_0 r_0.1 cr_0_0) r_0.1] := H
     replace H : Hp S0 σ0 σ49 [Ch.own n0 n0 (Sl a45 r42.1 c46) r42.1, Ch.bx lor_0 br_0 or_0 [(Sl a47 r42.2.1 c48), (I r42.2.2)] prer_0 sufr_0, Ch.ro 0 (Sl a47 r42.2.1 c48) r42.2.1, Ch.own n0 n0 (Sl a4 r1.1 c5) r1.1] := H.sel' [0, 1, 2, 5] rfl rfl
     obtain ⟨x50, hx51, h'⟩ := bind_some h
     clear h
     have h := h'; clear h'
     obtain ⟨b53, o54, hi52, -⟩ := (H.own 3 rfl).ix hx51
     refine st (v := (pt b53 o54)) (rv_ix Try.underlying27 ti36 rfl rfl hi52) ?_
     refine st (v := (pt b53 (o54 + 1))) (rv_fieldAddr (off := 1) (ft := 34) Try.underlying36 rfl ti34 rfl rfl) ?_
     obtain ⟨σ55, hw56, H, -⟩ := H.pub 0 rfl (Nat.le_refl _)
     rw [← hw56]; clear hw56
     refine st_exS (ex_store_own (e' := (x50.1, r42.1, x50.2.2)) (vs := [(Sl a45 r42.1 c46)]) (k := 1) H (i := 3) rfl ti34 hx51 hi52 rfl rfl rfl rfl rfl (Nat.le_of_ble_eq_true rfl) (by simp [plain]) (by rintro _ ⟨_, _, rfl, rfl, ⟨_, _, rfl, ⟨_, rfl, hR59⟩, rfl⟩⟩; exact ⟨[(I x50.1)], [(Sl a45 r42.1 c46), (I x50.2.2)], rfl, rfl, ⟨[(Sl a45 r42.1 c46)], [(I x50.2.2)], rfl, ⟨_, rfl, (H.ro 0 rfl)⟩, rfl⟩⟩)) wn ?_
     rintro σ60 ⟨H, -⟩
     have hsl : (Sl a4 r1.1 c5) = (Sl a4 (r1.1.set r36.1.toNat (x50.1, r42.1, x50.2.2)) c5) := sl_len List.length_set.symm
     rw [hsl]; rw [hsl] at H; clear hsl
     refine w_end ?_
     refine q_blk ?_
     obtain rfl := Option.some.inj h
     exact ⟨rfl, _, σ60, a47, c48, a4, c5, fr_join ⟨rfl, rfl, trivial⟩, rfl, H.sel' [2, 3, 0] rfl rfl⟩
    ·replace h := bif_f hb35 h
     refine c_skip ?_
     refine q_blk ?_
     obtain rfl := Option.some.inj h
     exact ⟨rfl, _, σ14, a12, c13, a4, c5, fr_join ⟨rfl, rfl, trivial⟩, rfl, H.sel' [0, 1, 2] rfl rfl⟩
   ·replace h := bif_f hb34 h
    refine c_skip ?_
    refine q_blk ?_
    obtain rfl := Option.some.inj h
    exact ⟨rfl, _, σ14, a12, c13, a4, c5, fr_join ⟨rfl, rfl, trivial⟩, rfl, H.sel' [0, 1, 2] rfl rfl⟩
 ·clear hj
  have h := h'
  clear h' H
  rintro e a w ⟨rfl, ρ, σ61, a62, c63, a64, c65, rfl, rfl, H⟩
  refine q_then ?_
  refine c_seq ?_
  refine rg ?_
  refine st (v := (Sl a64 o15.2 c65)) (rv_move rfl) ?_
  refine st (v := (Sl a64 o15.2 c65)) (rv_assign rfl) ?_
  refine w_end ?_
  refine q_then ?_
  refine c_ret ?_
  obtain rfl := Option.some.inj h
  exact fin_ret (v := (Sl a64 o15.2 c65)) (results_ok Try.results44 (res_tmp (v := (Sl a64 o15.2 c65)) rfl res_nil) rfl) ⟨a64, c65, a62, c63, rfl, rfl⟩ (H.sel' [2, 0, 1] rfl rfl)

theorem c_spec_someShards {r_0 : (List UInt8) × Int} {ar_0_0 : Option Addr} {cr_0_0 : Nat} {lor_0 br_0 or_0 : Nat} {prer_0 sufr_0 : List Value} {r : Int × ((List UInt8) × Int)} (h : M.spec_someShards r_0 = some r) :
    Cal2 Try.prog 63 [(pt br_0 or_0)] [Ch.bx lor_0 br_0 or_0 [(Sl ar_0_0 r_0.1 cr_0_0), (I r_0.2)] prer_0 sufr_0, Ch.ro 0 (Sl ar_0_0 r_0.1 cr_0_0) r_0.1] (fun n0 v L => ∃ (az1 : Option Addr), ∃ (cz2 : Nat), v = (I r.1) ∧ L = [Ch.bx lor_0 br_0 or_0 [(Sl az1 r.2.1 cz2), (I r.2.2)] prer_0 sufr_0, Ch.ro 0 (Sl az1 r.2.1 cz2) r.2.1]) := by
 refine cal2 (n := 6) Try.func63 rfl rfl rfl rfl ?_
 intro S0 σ0 n0 hn0 H
 unfold M.spec_someShards at h
 refine c_seq ?_
 refine rg ?_
 refine st (v := (I 0)) (rv_assign rfl) ?_
 refine w_end ?_
 refine q_then ?_
 refine c_seq ?_
 refine rg ?_
 refine st (v := (pt br_0 or_0)) (rv_move rfl) ?_
 refine st_ex (ex_buildSlice (el := n0) (xs := ([1, 2, 3, 4, 8, 0, 9, 5] : List Int)) (ps := [(0, (I 1)), (1, (I 2)), (2, (I 3)), (3, (I 4)), (4, (I 8)), (5, (I 0)), (6, (I 9)), (7, (I 5))]) (cs := [(I 1), (I 2), (I 3), (I 4), (I 8), (I 0), (I 9), (I 5)]) H hn0 Try.underlying34 ti3 rfl rfl (by kernel_rfl) (.cons (c := [(I 1)]) rfl (.cons (c := [(I 2)]) rfl (.cons (c := [(I 3)]) rfl (.cons (c := [(I 4)]) rfl (.cons (c := [(I 8)]) rfl (.cons (c := [(I 0)]) rfl (.cons (c := [(I 9)]) rfl (.cons (c := [(I 5)]) rfl (.nil))))))))) rfl) wn ?_
 rintro _ σ2 ⟨b1, rfl, H, -⟩
 obtain ⟨σ3, hw4, H, -⟩ := H.pub 0 rfl (Nat.le_refl _)
 rw [← hw4]; clear hw4
 replace H := H.roLow 0 0 rfl (Nat.zero_le _)
 obtain ⟨r5, hx6, h'⟩ := bind_some h
 clear h
 have h := h'; clear h'
 have hc7 := c_spec_reader_one (lor_0 := lor_0) (br_0 := br_0) (or_0 := or_0) (prer_0 := prer_0) (sufr_0 := sufr_0) (ar_0_0 := ar_0_0) (cr_0_0 := cr_0_0) (alist_1 := (some ⟨b1, 0, none⟩)) (clist_1 := 8) hx6
 refine st_call (cx_call hc7 (ent_f hc7.fn rfl) hn0 (show Hp S0 σ0 _ ([Ch.bx lor_0 br_0 or_0 [(Sl ar_0_0 r_0.1 cr_0_0), (I r_0.2)] prer_0 sufr_0, Ch.ro 0 (Sl ar_0_0 r_0.1 cr_0_0) r_0.1, Ch.ro 0 (Sl (some ⟨b1, 0, none⟩) ([1, 2, 3, 4, 8, 0, 9, 5] : List Int) 8) ([1, 2, 3, 4, 8, 0, 9, 5] : List Int)] ++ [Ch.ro 0 (Sl (some ⟨b1, 0, none⟩) ([1, 2, 3, 4, 8, 0, 9, 5] : List Int) 8) ([1, 2, 3, 4, 8, 0, 9, 5] : List Int), Ch.ro n0 (Sl (some ⟨b1, 0, none⟩) ([1, 2, 3, 4, 8, 0, 9, 5] : List Int) 8) ([1, 2, 3, 4, 8, 0, 9, 5] : List Int), Ch.ro 0 (Sl ar_0_0 r_0.1 cr_0_0) r_0.1]) from (H.sel' [2, 3, 0, 0, 1, 3] rfl rfl))) wn ?_
 rintro _ σ10 ⟨_, ⟨a8, c9, rfl, rfl⟩, H, -⟩
 replace H : Hp S0 σ0 σ10 [Ch.bx lor_0 br_0 or_0 [(Sl a8 r5.2.1 c9), (I r5.2.2)] prer_0 sufr_0, Ch.ro 0 (Sl a8 r5.2.1 c9) r5.2.1, Ch.ro 0 (Sl (some ⟨b1, 0, none⟩) ([1, 2, 3, 4, 8, 0, 9, 5] : List Int) 8) ([1, 2, 3, 4, 8, 0, 9, 5] : List Int), Ch.ro n0 (Sl (some ⟨b1, 0, none⟩) ([1, 2, 3, 4, 8, 0, 9, 5] : List Int) 8) ([1, 2, 3, 4, 8, 0, 9, 5] : List Int), Ch.ro 0 (Sl ar_0_0 r_0.1 cr_0_0) r_0.1] := H
 refine st (v := (I r5.1)) (rv_assign rfl) ?_
 refine w_end ?_
 refine q_then ?_
 refine c_ret ?_
 obtain rfl := Option.some.inj h
 exact fin_ret (v := (I r5.1)) (results_ok Try.results63 (res_tmp (v := (I r5.1)) rfl res_nil) rfl) ⟨a8, c9, rfl, rfl⟩ (H.sel' [0, 1] rfl rfl)

theorem c_spec_DrawShardItems {code_0 : List UInt8} {acode_0 : Option Addr} {ccode_0 : Nat} {r : (List (Int × (List Int) × Int)) × Int × Int} (h : M.spec_DrawShardItems code_0 = some r) :
    Cal2 Try.prog 36 [(Sl acode_0 code_0 ccode_0)] [Ch.ro 0 (Sl acode_0 code_0 ccode_0) code_0] (fun n0 v L => ∃ (az1 : Option Addr), ∃ (cz2 : Nat), v = (.tuple #[(Sl az1 r.1 cz2), (I r.2.1), (I r.2.2)]) ∧ L = [Ch.own n0 n0 (Sl az1 r.1 cz2) r.1]) := by
 refine cal2 (n := 24) Try.func36 rfl rfl rfl rfl ?_
 intro S0 σ0 n0 hn0 H
 unfold M.spec_DrawShardItems at h
 refine c_seq ?_
 refine rg ?_
 refine st (v := (.slice none 0 0)) (rv_assign rfl) ?_
 refine st (v := (I 0)) (rv_assign rfl) ?_
 refine st (v := (I 0)) (rv_assign rfl) ?_
 refine w_end ?_
 refine q_then ?_
 refine c_seq ?_
 refine rg ?_
 refine st (v := (Sl acode_0 code_0 ccode_0)) (rv_move rfl) ?_
 obtain ⟨r1, hx2, h'⟩ := bind_some h
 clear h
 have h := h'; clear h'
 have hc3 := c_spec_newReader (acode_0 := acode_0) (ccode_0 := ccode_0) hx2
 refine st_call (cx_call hc3 (ent_f hc3.fn rfl) hn0 (show Hp S0 σ0 _ ([Ch.ro 0 (Sl acode_0 code_0 ccode_0) code_0] ++ [Ch.ro 0 (Sl acode_0 code_0 ccode_0) code_0]) from (H.sel' [0, 0] rfl rfl))) wn ?_
 rintro _ σ7 ⟨_, ⟨b4, a5, c6, rfl, rfl⟩, H, -⟩
 replace H : Hp S0 σ0 σ7 [Ch.bx n0 b4 0 [(Sl a5 r1.1 c6), (I r1.2)] [] [], Ch.ro 0 (Sl a5 r1.1 c6) r1.1, Ch.ro 0 (Sl acode_0 code_0 ccode_0) code_0] := H
 refine st (v := (pt b4 0)) (rv_assign rfl) ?_
 refine w_end ?_
 refine q_then ?_
 refine c_seq ?_
 refine rg ?_
 refine st (v := (pt b4 0)) (rv_move rfl) ?_
 obtain ⟨r8, hx9, h'⟩ := bind_some h
 clear h
 have h := h'; clear h'
 have hc10 := c_spec_anyStore (lor_0 := n0) (br_0 := b4) (or_0 := 0) (prer_0 := []) (sufr_0 := []) (ar_0_0 := a5) (cr_0_0 := c6) hx9
 refine st_call (cx_call hc10 (ent_f hc10.fn rfl) hn0 (show Hp S0 σ0 _ ([Ch.bx n0 b4 0 [(Sl a5 r1.1 c6), (I r1.2)] [] [], Ch.ro 0 (Sl a5 r1.1 c6) r1.1] ++ [Ch.ro 0 (Sl a5 r1.1 c6) r1.1, Ch.ro 0 (Sl acode_0 code_0 ccode_0) code_0]) from (H.sel' [0, 1, 1, 2] rfl rfl))) wn ?_
 rintro _ σ15 ⟨_, ⟨a11, c12, a13, c14, rfl, rfl⟩, H, -⟩
 replace H : Hp S0 σ0 σ15 [Ch.own n0 n0 (Sl a11 r8.1 c12) r8.1, Ch.bx n0 b4 0 [(Sl a13 r8.2.1 c14), (I r8.2.2)] [] [], Ch.ro 0 (Sl a13 r8.2.1 c14) r8.2.1, Ch.ro 0 (Sl a5 r1.1 c6) r1.1, Ch.ro 0 (Sl acode_0 code_0 ccode_0) code_0] := H
 refine st (v := (Sl a11 r8.1 c12)) (rv_assign rfl) ?_
 refine w_end ?_
 refine q_then ?_
 refine c_seq ?_
 refine rg ?_
 refine st (v := (pt b4 0)) (rv_move rfl) ?_
 obtain ⟨r16, hx17, h'⟩ := bind_some h
 clear h
 have h := h'; clear h'
 have hc18 := c_spec_someShards (lor_0 := n0) (br_0 := b4) (or_0 := 0) (prer_0 := []) (sufr_0 := []) (ar_0_0 := a13) (cr_0_0 := c14) hx17
 refine st_call (cx_call hc18 (ent_f hc18.fn rfl) hn0 (show Hp S0 σ0 _ ([Ch.bx n0 b4 0 [(Sl a13 r8.2.1 c14), (I r8.2.2)] [] [], Ch.ro 0 (Sl a13 r8.2.1 c14) r8.2.1] ++ [Ch.own n0 n0 (Sl a11 r8.1 c12) r8.1, Ch.ro 0 (Sl a13 r8.2.1 c14) r8.2.1, Ch.ro 0 (Sl a5 r1.1 c6) r1.1, Ch.ro 0 (Sl acode_0 code_0 ccode_0) code_0]) from (H.sel' [1, 2, 0, 2, 3, 4] rfl rfl))) wn ?_
 rintro _ σ21 ⟨_, ⟨a19, c20, rfl, rfl⟩, H, -⟩
 replace H : Hp S0 σ0 σ21 [Ch.bx n0 b4 0 [(Sl a19 r16.2.1 c20), (I r16.2.2)] [] [], Ch.ro 0 (Sl a19 r16.2.1 c20) r16.2.1, Ch.own n0 n0 (Sl a11 r8.1 c12) r8.1, Ch.ro 0 (Sl a13 r8.2.1 c14) r8.2.1, Ch.ro 0 (Sl a5 r1.1 c6) r1.1, Ch.ro 0 (Sl acode_0 code_0 ccode_0) code_0] := H
 refine st (v := (I r16.1)) (rv_assign rfl) ?_
 refine w_end ?_
 refine q_then ?_
 refine c_seq ?_
 refine rg ?_
 refine st (v := (Sl a11 r8.1 c12)) (rv_move rfl) ?_
 refine st (v := (I r16.1)) (rv_move rfl) ?_
 refine st (v := (pt b4 0)) (rv_move rfl) ?_
 refine st (v := (I r16.1)) (rv_move rfl) ?_
 refine st (v := (I (max 1 r16.1))) (rv_max rfl rfl) ?_
 refine st (v := (I (w64 ((max 1 r16.1) + 1)))) (rv_add (a := (max 1 r16.1)) (b := 1) rfl rfl) ?_
 obtain ⟨r22, hx23, h'⟩ := bind_some h
 clear h
 have h := h'; clear h'
 have hc24 := c_spec_reader_pick (lor_0 := n0) (br_0 := b4) (or_0 := 0) (prer_0 := []) (sufr_0 := []) (ar_0_0 := a19) (cr_0_0 := c20) hx23
 refine st_call (cx_call hc24 (ent_f hc24.fn rfl) hn0 (show Hp S0 σ0 _ ([Ch.bx n0 b4 0 [(Sl a19 r16.2.1 c20), (I r16.2.2)] [] [], Ch.ro 0 (Sl a19 r16.2.1 c20) r16.2.1] ++ [Ch.ro 0 (Sl a19 r16.2.1 c20) r16.2.1, Ch.own n0 n0 (Sl a11 r8.1 c12) r8.1, Ch.ro 0 (Sl a13 r8.2.1 c14) r8.2.1, Ch.ro 0 (Sl a5 r1.1 c6) r1.1, Ch.ro 0 (Sl acode_0 code_0 ccode_0) code_0]) from (H.sel' [0, 1, 1, 2, 3, 4, 5] rfl rfl))) wn ?_
 rintro _ σ27 ⟨_, ⟨a25, c26, rfl, rfl⟩, H, -⟩
 replace H : Hp S0 σ0 σ27 [Ch.bx n0 b4 0 [(Sl a25 r22.2.1 c26), (I r22.2.2)] [] [], Ch.ro 0 (Sl a25 r22.2.1 c26) r22.2.1, Ch.ro 0 (Sl a19 r16.2.1 c20) r16.2.1, Ch.own n0 n0 (Sl a11 r8.1 c12) r8.1, Ch.ro 0 (Sl a13 r8.2.1 c14) r8.2.1, Ch.ro 0 (Sl a5 r1.1 c6) r1.1, Ch.ro 0 (Sl acode_0 code_0 ccode_0) code_0] := H
 refine st (v := (pt b4 0)) (rv_move rfl) ?_
 obtain ⟨r28, hx29, h'⟩ := bind_some h
 clear h
 have h := h'; clear h'
 have hc30 := c_spec_reader_pick (lor_0 := n0) (br_0 := b4) (or_0 := 0) (prer_0 := []) (sufr_0 := []) (ar_0_0 := a25) (cr_0_0 := c26) hx29
 refine st_call (cx_call hc30 (ent_f hc30.fn rfl) hn0 (show Hp S0 σ0 _ ([Ch.bx n0 b4 0 [(Sl a25 r22.2.1 c26), (I r22.2.2)] [] [], Ch.ro 0 (Sl a25 r22.2.1 c26) r22.2.1] ++ [Ch.ro 0 (Sl a25 r22.2.1 c26) r22.2.1, Ch.ro 0 (Sl a19 r16.2.1 c20) r16.2.1, Ch.own n0 n0 (Sl a11 r8.1 c12) r8.1, Ch.ro 0 (Sl a13 r8.2.1 c14) r8.2.1, Ch.ro 0 (Sl a5 r1.1 c6) r1.1, Ch.ro 0 (Sl acode_0 code_0 ccode_0) code_0]) from (H.sel' [0, 1, 1, 2, 3, 4, 5, 6] rfl rfl))) wn ?_
 rintro _ σ33 ⟨_, ⟨a31, c32, rfl, rfl⟩, H, -⟩
 replace H : Hp S0 σ0 σ33 [Ch.bx n0 b4 0 [(Sl a31 r28.2.1 c32), (I r28.2.2)] [] [], Ch.ro 0 (Sl a31 r28.2.1 c32) r28.2.1, Ch.ro 0 (Sl a25 r22.2.1 c26) r22.2.1, Ch.ro 0 (Sl a19 r16.2.1 c20) r16.2.1, Ch.own n0 n0 (Sl a11 r8.1 c12) r8.1, Ch.ro 0 (Sl a13 r8.2.1 c14) r8.2.1, Ch.ro 0 (Sl a5 r1.1 c6) r1.1, Ch.ro 0 (Sl acode_0 code_0 ccode_0) code_0] := H
 replace H : Hp S0 σ0 σ33 [Ch.own n0 n0 (Sl a11 r8.1 c12) r8.1] := H.sel' [4] rfl rfl
 refine st (v := (I (w64 (r22.1 - r28.1)))) (rv_sub (a := r22.1) (b := r28.1) rfl rfl) ?_
 refine st (v := (Sl a11 r8.1 c12)) (rv_assign rfl) ?_
 refine st (v := (I r16.1)) (rv_assign rfl) ?_
 refine st (v := (I (w64 (r22.1 - r28.1)))) (rv_assign rfl) ?_
 refine w_end ?_
 refine q_then ?_
 refine c_ret ?_
 obtain rfl := Option.some.inj h
 exact fin_ret (v := (.tuple #[(Sl a11 r8.1 c12), (I r16.1), (I (w64 (r22.1 - r28.1)))])) (results_ok Try.results36 (res_tmp (v := (Sl a11 r8.1 c12)) rfl (res_tmp (v := (I r16.1)) rfl (res_tmp (v := (I (w64 (r22.1 - r28.1)))) rfl res_nil))) rfl) ⟨a11, c12, rfl, rfl⟩ (H.sel' [0] rfl rfl)

theorem c_slices_Clone_int_int {s_0 : List Int} {as_0 : Option Addr} {cs_0 : Nat} {r : (List Int)} (h : M.slices_Clone_int_int s_0 = some r) :
    Cal2 Try.prog 86 [(Sl as_0 s_0 cs_0)] [Ch.ro 0 (Sl as_0 s_0 cs_0) s_0] (fun n0 v L => ∃ (az1 : Option Addr), ∃ (cz2 : Nat), v = (Sl az1 r cz2) ∧ L = [Ch.own n0 n0 (Sl az1 r cz2) r]) := by
 refine cal2 (n := 8) Try.func86 rfl rfl rfl rfl ?_
 intro S0 σ0 n0 hn0 H
 unfold M.slices_Clone_int_int at h
 refine c_seq ?_
 refine rg ?_
 refine st (v := (.slice none 0 0)) (rv_assign rfl) ?_
 refine w_end ?_
 refine q_then ?_
 refine c_seq ?_
 refine c_seq ?_
 refine rg ?_
 refine st (v := (Sl as_0 s_0 cs_0)) (rv_move rfl) ?_
 refine st (v := (B as_0.isNone)) (rv_nilS Try.underlying34 rfl rfl) ?_
 refine w_end ?_
 refine q_then ?_
 refine cd_cond as_0.isNone rfl (fun hb1 => ?_) (fun hb1 => ?_)
 ·have hq := RS.nilOf hb1 (H.ro 0 rfl)
  subst hq
  replace h : some [] = some r := by simpa [gapp] using h
  refine c_seq ?_
  refine rg ?_
  refine st (v := (.slice none 0 0)) (rv_assign rfl) ?_
  refine w_end ?_
  refine q_then ?_
  refine c_ret ?_
  refine q_then_r ?_
  replace H := H.nilOwn Int n0 n0
  obtain rfl := Option.some.inj h
  exact fin_ret (v := (.slice none 0 0)) (results_ok Try.results86 (res_tmp (v := (.slice none 0 0)) rfl res_nil) rfl) ⟨none, 0, rfl, rfl⟩ (H.sel' [0] rfl rfl)
 ·refine c_skip ?_
  refine q_then ?_
  refine c_seq ?_
  refine rg ?_
  refine st_ex (ex_buildSlice (el := n0) (xs := ([] : List Int)) (ps := []) (cs := []) H hn0 Try.underlying34 ti3 rfl rfl (by kernel_rfl) (.nil) rfl) wn ?_
  rintro _ σ3 ⟨b2, rfl, H, -⟩
  refine st (v := (Sl as_0 s_0 cs_0)) (rv_move rfl) ?_
  obtain ⟨xs4, hx5, h'⟩ := bind_some h
  clear h
  have h := h'; clear h'
  refine st_ex (ex_append H (i := 0) rfl Try.underlying34 Try.underlying34 ti3 rfl rfl (by decide) ((H.ro 1 rfl).rd.sc) hx5 hn0 rfl rfl) wn ?_
  rintro _ σ8 ⟨a6, c7, rfl, H, -⟩
  refine st (v := (Sl a6 xs4 c7)) (rv_assign rfl) ?_
  refine w_end ?_
  refine q_then ?_
  refine c_ret ?_
  obtain rfl := Option.some.inj h
  exact fin_ret (v := (Sl a6 xs4 c7)) (results_ok Try.results86 (res_tmp (v := (Sl a6 xs4 c7)) rfl res_nil) rfl) ⟨a6, c7, rfl, rfl⟩ (H.sel' [0] rfl rfl)

theorem c_impl_copyItem {x_0 : Int × (List Int) × Int} {ax_0_1 : Option Addr} {cx_0_1 : Nat} {r : (Int × (List Int) × Int)} (h : M.impl_copyItem x_0 = some r) :
    Cal2 Try.prog 53 [(.agg #[(I x_0.1), (Sl ax_0_1 x_0.2.1 cx_0_1), (I x_0.2.2)])] [Ch.ro 0 (Sl ax_0_1 x_0.2.1 cx_0_1) x_0.2.1] (fun n0 v L => ∃ (az1 : Option Addr), ∃ (cz2 : Nat), v = (.agg #[(I r.1), (Sl az1 r.2.1 cz2), (I r.2.2)]) ∧ L = [Ch.own n0 n0 (Sl az1 r.2.1 cz2) r.2.1]) := by
 refine cal2 (n := 11) Try.func53 rfl rfl rfl rfl ?_
 intro S0 σ0 n0 hn0 H
 unfold M.impl_copyItem at h
 refine c_seq ?_
 refine rg ?_
 refine st_ex (ex_box (cs := [(I x_0.1), (Sl ax_0_1 x_0.2.1 cx_0_1), (I x_0.2.2)]) H hn0 rfl rfl) wn ?_
 rintro _ σ2 ⟨b1, rfl, H, -⟩
 refine st_ex (ex_alloc (cs := [(I 0), (.slice none 0 0), (I 0)]) H hn0 ti36 rfl) wn ?_
 rintro _ σ4 ⟨b3, rfl, H, -⟩
 refine w_end ?_
 refine q_then ?_
 refine c_seq ?_
 have hc5 := H.cell (u := (I x_0.1)) (o' := 0) 1 0 rfl rfl rfl
 have hc6 := H.cell (u := (Sl ax_0_1 x_0.2.1 cx_0_1)) (o' := 1) 1 1 rfl rfl rfl
 obtain ⟨r7, hx8, h'⟩ := bind_some h
 clear h
 have h := h'; clear h'
 have hc9 := c_slices_Clone_int_int (as_0 := ax_0_1) (cs_0 := cx_0_1) hx8
 have hc12 := H.cell (u := (I x_0.2.2)) (o' := 2) 1 2 rfl rfl rfl
 have Hs := H
 refine rg2 (σ := σ4) (Nm := (Option Addr) × (Nat)) 7 [4] [[false], [true]] [[(0, 0), (1, 1)], [(0, 0), (1, 1)], [(0, 0)], [(0, 0)], [(0, 1)], [(0, 0), (1, 1)], [(0, 0), (1, 1)]] 1 [fun ((a10, c11) : (Option Addr) × (Nat)) => fun σm => Hp S0 σ0 σm [Ch.bx n0 b3 0 [(I 0), (.slice none 0 0), (I 0)] [] [], Ch.bx n0 b1 0 [(I x_0.1), (Sl ax_0_1 x_0.2.1 cx_0_1), (I x_0.2.2)] [] [], Ch.ro 0 (Sl ax_0_1 x_0.2.1 cx_0_1) x_0.2.1] ∧ Md (cov []) σ4 σm, fun ((a10, c11) : (Option Addr) × (Nat)) => fun σm => Hp S0 σ0 σm [Ch.own n0 n0 (Sl a10 r7 c11) r7, Ch.bx n0 b3 0 [(I 0), (.slice none 0 0), (I 0)] [] [], Ch.bx n0 b1 0 [(I x_0.1), (Sl ax_0_1 x_0.2.1 cx_0_1), (I x_0.2.2)] [] [], Ch.ro 0 (Sl ax_0_1 x_0.2.1 cx_0_1) x_0.2.1] ∧ Md (cov []) σ4 σm] [fun ((a10, c11) : (Option Addr) × (Nat)) => (pt b1 0), fun ((a10, c11) : (Option Addr) × (Nat)) => (I x_0.1), fun ((a10, c11) : (Option Addr) × (Nat)) => (pt b1 1), fun ((a10, c11) : (Option Addr) × (Nat)) => (Sl ax_0_1 x_0.2.1 cx_0_1), fun ((a10, c11) : (Option Addr) × (Nat)) => (Sl a10 r7 c11), fun ((a10, c11) : (Option Addr) × (Nat)) => (pt b1 2), fun ((a10, c11) : (Option Addr) × (Nat)) => (I x_0.2.2)] (none, 0) (by kernel_rfl) (by kernel_rfl) ?_ ?_ ?_
 ·intro σm m0
  exact ⟨H.grow (m0.mono fun _ h => h.elim), m0⟩
 ·refine ac rfl (by
    intro k; rintro ⟨a10, c11⟩ ρ σm hJ hoff hdep
    have e1 := look_off (N := 11) (hoff 1 rfl) rfl
    exact dp_v (v := (pt b1 0)) wn (rv_fieldAddr (off := 0) (ft := 3) Try.underlying36 rfl ti3 rfl e1) rfl hJ) ?_
  refine all_cons (by
    refine ⟨?_, ?_⟩
    ·rintro ⟨a10, c11⟩ ρ σm hJ hoff hdep
     have e3 := hdep 0 rfl rfl 3 rfl
     obtain ⟨H, m⟩ := id hJ
     have hc5 := H.cell (u := (I x_0.1)) (o' := 0) 1 0 rfl rfl rfl
     exact dp_v (v := (I x_0.1)) wn (rv_load1 Try.underlying3 rfl e3 hc5) rfl hJ
    refine ⟨?_, ?_⟩
    ·rintro ⟨a10, c11⟩ ρ σm hJ hoff hdep
     have e3 := hdep 0 rfl rfl 3 rfl
     obtain ⟨H, m⟩ := id hJ
     have hc5 := H.cell (u := (I x_0.1)) (o' := 0) 2 0 rfl rfl rfl
     exact dp_v (v := (I x_0.1)) wn (rv_load1 Try.underlying3 rfl e3 hc5) rfl hJ
    trivial) ?_
  refine ac rfl (by
    intro k; rintro ⟨a10, c11⟩ ρ σm hJ hoff hdep
    have e1 := look_off (N := 11) (hoff 1 rfl) rfl
    exact dp_v (v := (pt b1 1)) wn (rv_fieldAddr (off := 1) (ft := 34) Try.underlying36 rfl ti34 rfl e1) rfl hJ) ?_
  refine all_cons (by
    refine ⟨?_, ?_⟩
    ·rintro ⟨a10, c11⟩ ρ σm hJ hoff hdep
     have e5 := hdep 2 rfl rfl 5 rfl
     obtain ⟨H, m⟩ := id hJ
     have hc6 := H.cell (u := (Sl ax_0_1 x_0.2.1 cx_0_1)) (o' := 1) 1 1 rfl rfl rfl
     exact dp_v (v := (Sl ax_0_1 x_0.2.1 cx_0_1)) wn (rv_load1 Try.underlying34 rfl e5 hc6) rfl hJ
    trivial) ?_
  refine all_cons (by
    refine ⟨?_, ?_⟩
    ·rintro ⟨a10, c11⟩ ρ σm hJ hoff hdep
     have e6 : look 11 ρ 6 = (Sl ax_0_1 x_0.2.1 cx_0_1) := hdep 3 rfl rfl 6 rfl
     obtain ⟨H, m⟩ := id hJ
     refine dp_cx wn (cx_call hc9 (ent_f hc9.fn (by show [look 11 ρ 6] = _; rw [e6])) hn0 (show Hp S0 σ0 _ ([Ch.ro 0 (Sl ax_0_1 x_0.2.1 cx_0_1) x_0.2.1] ++ [Ch.bx n0 b3 0 [(I 0), (.slice none 0 0), (I 0)] [] [], Ch.bx n0 b1 0 [(I x_0.1), (Sl ax_0_1 x_0.2.1 cx_0_1), (I x_0.2.2)] [] [], Ch.ro 0 (Sl ax_0_1 x_0.2.1 cx_0_1) x_0.2.1]) from (H.sel' [2, 0, 1, 2] rfl rfl))) ?_
     rintro _ σq ⟨_, ⟨a10x, c11x, rfl, rfl⟩, H2, m2⟩
     exact ⟨_, (a10x, c11x), rfl, rfl, ⟨H2.sel' [0, 1, 2, 3] rfl rfl, m.comp0 (m2.mono (fun i h => by simp [cov, Ch.ro] at h))⟩, stab [0, 1, 2, 3, 5, 6] (by kernel_rfl) ⟨rfl, rfl, rfl, rfl, rfl, rfl, trivial⟩⟩
    trivial) ?_
  refine ac rfl (by
    intro k; rintro ⟨a10, c11⟩ ρ σm hJ hoff hdep
    have e1 := look_off (N := 11) (hoff 1 rfl) rfl
    exact dp_v (v := (pt b1 2)) wn (rv_fieldAddr (off := 2) (ft := 3) Try.underlying36 rfl ti3 rfl e1) rfl hJ) ?_
  refine all_cons (by
    refine ⟨?_, ?_⟩
    ·rintro ⟨a10, c11⟩ ρ σm hJ hoff hdep
     have e8 := hdep 5 rfl rfl 8 rfl
     obtain ⟨H, m⟩ := id hJ
     have hc12 := H.cell (u := (I x_0.2.2)) (o' := 2) 1 2 rfl rfl rfl
     exact dp_v (v := (I x_0.2.2)) wn (rv_load1 Try.underlying3 rfl e8 hc12) rfl hJ
    refine ⟨?_, ?_⟩
    ·rintro ⟨a10, c11⟩ ρ σm hJ hoff hdep
     have e8 := hdep 5 rfl rfl 8 rfl
     obtain ⟨H, m⟩ := id hJ
     have hc12 := H.cell (u := (I x_0.2.2)) (o' := 2) 2 2 rfl rfl rfl
     exact dp_v (v := (I x_0.2.2)) wn (rv_load1 Try.underlying3 rfl e8 hc12) rfl hJ
    trivial) ?_
  exact all_nil
 ·rintro ⟨a10, c11⟩ ρ σ13 hJ hoff hrel
  have e2 := look_off (N := 11) (hoff 2 rfl) rfl
  have e4 := hrel 1 rfl 4 rfl
  have e7 := hrel 4 rfl 7 rfl
  have e9 := hrel 6 rfl 9 rfl
  obtain ⟨H, -⟩ := (show Hp S0 σ0 σ13 [Ch.own n0 n0 (Sl a10 r7 c11) r7, Ch.bx n0 b3 0 [(I 0), (.slice none 0 0), (I 0)] [] [], Ch.bx n0 b1 0 [(I x_0.1), (Sl ax_0_1 x_0.2.1 cx_0_1), (I x_0.2.2)] [] [], Ch.ro 0 (Sl ax_0_1 x_0.2.1 cx_0_1) x_0.2.1] ∧ Md (cov []) σ4 σ13 from hJ)
  clear hJ Hs
  rw [fr_lookL (L := [(2, (pt b3 0)), (4, (I x_0.1)), (7, (Sl a10 r7 c11)), (9, (I x_0.2.2))]) ⟨e2, e4, e7, e9, trivial⟩]
  clear hoff hrel e2 e4 e7 e9
  refine st (v := (.agg #[(I x_0.1), (Sl a10 r7 c11), (I x_0.2.2)])) (rv_build (ps := [(0, (I x_0.1)), (1, (Sl a10 r7 c11)), (2, (I x_0.2.2))]) Try.underlying36 ti36 (bp36 Try.underlying36) rfl (by kernel_rfl)) ?_
  refine st_exS (ex_store_box (k := 0) (cs := [(I 0), (.slice none 0 0), (I 0)]) (vs := [(I x_0.1), (Sl a10 r7 c11), (I x_0.2.2)]) (cs' := [(I x_0.1), (Sl a10 r7 c11), (I x_0.2.2)]) H (i := 1) rfl ti36 rfl rfl rfl rfl rfl (Nat.le_of_ble_eq_true rfl) (by simp [plain]) rfl) wn ?_
  rintro σ14 ⟨H, -⟩
  refine w_end ?_
  refine q_then ?_
  refine c_ret ?_
  obtain rfl := Option.some.inj h
  exact fin_ret (v := (.agg #[(I x_0.1), (Sl a10 r7 c11), (I x_0.2.2)])) (results_ok Try.results53 (res_cell rfl (run_cellRes (cs := [(I x_0.1), (Sl a10 r7 c11), (I x_0.2.2)]) Try.underlying36 rfl ti36 rfl (H.cells 0 rfl)) res_nil) rfl) ⟨a10, c11, rfl, rfl⟩ (H.sel' [1] rfl rfl)

theorem c_impl_copyItems {list_0 : List (Int × (List Int) × Int)} {alist_0 : Option Addr} {clist_0 : Nat} {r : (List (Int × (List Int) × Int))} (h : M.impl_copyItems list_0 = some r) :
    Cal2 Try.prog 46 [(Sl alist_0 list_0 clist_0)] [Ch.ro 0 (Sl alist_0 list_0 clist_0) list_0] (fun n0 v L => ∃ (az1 : Option Addr), ∃ (cz2 : Nat), v = (Sl az1 r cz2) ∧ L = [Ch.own n0 n0 (Sl az1 r cz2) r] ∧ cz2 = r.length) := by
 refine cal2 (n := 23) Try.func46 rfl rfl rfl rfl ?_
 intro S0 σ0 n0 hn0 H
 unfold M.impl_copyItems at h
 refine c_seq ?_
 refine rg ?_
 refine st (v := (.slice none 0 0)) (rv_assign rfl) ?_
 refine w_end ?_
 refine q_then ?_
 refine c_seq ?_
 refine rg ?_
 refine st (v := (Sl alist_0 list_0 clist_0)) (rv_move rfl) ?_
 refine st (v := (I (list_0.length : Int))) (rv_len Try.underlying27 rfl) ?_
 obtain ⟨xs1, hx2, h'⟩ := bind_some h
 clear h
 have h := h'; clear h'
 refine st_ex (ex_make (el := n0) (z0 := ((0, [], 0) : Int × (List Int) × Int)) (zs := [(I 0), (.slice none 0 0), (I 0)]) H hn0 Try.underlying27 ti36 rfl rfl (⟨[(I 0)], [(.slice none 0 0), (I 0)], rfl, rfl, ⟨[(.slice none 0 0)], [(I 0)], rfl, ⟨_, rfl, RS.nil⟩, rfl⟩⟩) (by decide) hx2 rfl rfl) wn ?_
 rintro _ σ6 ⟨b3, c4, rfl, ht5, H, -⟩
 replace ht5 := ht5.trans (gmake_len hx2).symm
 refine st (v := (Sl (some ⟨b3, 0, none⟩) xs1 c4)) (rv_assign rfl) ?_
 refine w_end ?_
 refine q_then ?_
 refine c_seq ?_
 refine c_seq ?_
 refine rg ?_
 refine st (v := (Sl alist_0 list_0 clist_0)) (rv_move rfl) ?_
 refine st (v := (I (list_0.length : Int))) (rv_len Try.underlying27 rfl) ?_
 refine st (v := (I 0)) (rv_move rfl) ?_
 refine w_end ?_
 refine q_then ?_
 obtain ⟨o7, hj, h'⟩ := bind_some h
 clear h
 refine c_cut (fun e a w => e = .normal ∧ ∃ (ρ : Nat → Value) (σ : St), a = fr 23 (updL ρ [(3, (Sl (some ⟨b3, 0, none⟩) o7 c4))]) ∧ w = σ.w ∧ Hp S0 σ0 σ [Ch.own n0 n0 (Sl (some ⟨b3, 0, none⟩) o7 c4) o7] ∧ c4 = o7.length ∧ o7.length = xs1.length) ?_ ?_
 ·clear h'
  rename _ = some o7 => h
  refine c_blk ?_
  refine wp_loopM _ h (fun s8 a w => ∃ (ρ : Nat → Value) (σ : St), a = fr 23 (updL ρ [(3, (Sl (some ⟨b3, 0, none⟩) s8.1 c4)), (9, (Sl alist_0 list_0 clist_0)), (10, (I (list_0.length : Int))), (11, (I s8.2))]) ∧ w = σ.w ∧ Hp S0 σ0 σ [Ch.own n0 n0 (Sl (some ⟨b3, 0, none⟩) s8.1 c4) s8.1, Ch.ro 0 (Sl alist_0 list_0 clist_0) list_0] ∧ c4 = s8.1.length ∧ s8.1.length = xs1.length) ⟨_, σ6, fr_join ⟨rfl, rfl, rfl, rfl, trivial⟩, rfl, H.sel' [0, 1] rfl rfl, ht5, rfl⟩ ?_
  clear h H
  rintro s8 a w o ⟨ρ, σ9, rfl, rfl, H, ht10, hn11⟩ h hres
  refine c_seq ?_
  refine rg ?_
  refine st (v := (B (decide (s8.2 < (list_0.length : Int))))) (rv_lss (a := s8.2) (b := (list_0.length : Int)) rfl rfl) ?_
  refine w_end ?_
  refine q_then ?_
  refine c_seq ?_
  refine cd_cond (decide (s8.2 < (list_0.length : Int))) rfl (fun hb12 => ?_) (fun hb12 => ?_)
  ·replace h := bif_t hb12 h
   refine c_skip ?_
   refine q_then ?_
   refine c_seq ?_
   refine c_blk ?_
   refine c_seq ?_
   refine rg ?_
   refine st (v := (I s8.2)) (rv_move rfl) ?_
   obtain ⟨x13, hx14, h'⟩ := bind_some h
   clear h
   have h := h'; clear h'
   obtain ⟨b16, o17, hi15, -⟩ := (H.ro 1 rfl).ix hx14
   refine st (v := (pt b16 o17)) (rv_ix Try.underlying27 ti36 rfl rfl hi15) ?_
   obtain ⟨_, ⟨_, _, rfl, rfl, ⟨_, _, rfl, ⟨_, rfl, hR22⟩, rfl⟩⟩, hl18, hc19⟩ := ((H.ro 1 rfl).at hx14 hi15).cells
   obtain ⟨a20, c21, rfl⟩ := hR22.isSl
   replace H := H.add (d := Ch.ro 0 (Sl a20 x13.2.1 c21) x13.2.1) hR22 (fun _ h => h)
   clear hR22
   refine st (v := (.agg #[(I x13.1), (Sl a20 x13.2.1 c21), (I x13.2.2)])) (rv_load Try.underlying36 rfl ti36 rfl hl18 hc19) ?_
   refine st_ex (ex_alloc (cs := [(I 0), (.slice none 0 0), (I 0)]) H hn0 ti36 rfl) wn ?_
   rintro _ σ24 ⟨b23, rfl, H, -⟩
   refine st (v := (I s8.2)) (rv_assign rfl) ?_
   refine st_exS (ex_store_box (k := 0) (cs := [(I 0), (.slice none 0 0), (I 0)]) (vs := [(I x13.1), (Sl a20 x13.2.1 c21), (I x13.2.2)]) (cs' := [(I x13.1), (Sl a20 x13.2.1 c21), (I x13.2.2)]) H (i := 0) rfl ti36 rfl rfl rfl rfl rfl (Nat.le_of_ble_eq_true rfl) (by simp [plain]) rfl) wn ?_
   rintro σ25 ⟨H, -⟩
   refine w_end ?_
   refine q_then ?_
   refine rg ?_
   refine st (v := (Sl (some ⟨b3, 0, none⟩) s8.1 c4)) (rv_move rfl) ?_
   refine st (v := (I s8.2)) (rv_move rfl) ?_
   have hc26 := H.cells 0 rfl
   refine st (v := (.agg #[(I x13.1), (Sl a20 x13.2.1 c21), (I x13.2.2)])) (rv_load (cs := [(I x13.1), (Sl a20 x13.2.1 c21), (I x13.2.2)]) Try.underlying36 rfl ti36 rfl rfl hc26) ?_
   obtain ⟨r27, hx28, h'⟩ := bind_some h
   clear h
   have h := h'; clear h'
   have hc29 := c_impl_copyItem (ax_0_1 := a20) (cx_0_1 := c21) hx28
   refine st_call (cx_call hc29 (ent_f hc29.fn rfl) hn0 (show Hp S0 σ0 _ ([Ch.ro 0 (Sl a20 x13.2.1 c21) x13.2.1] ++ [Ch.bx n0 b23 0 [(I x13.1), (Sl a20 x13.2.1 c21), (I x13.2.2)] [] [], Ch.ro 0 (Sl a20 x13.2.1 c21) x13.2.1, Ch.own n0 n0 (Sl (some ⟨b3, 0, none⟩) s8.1 c4) s8.1, Ch.ro 0 (Sl alist_0 list_0 clist_0) list_0]) from (H.sel' [1, 0, 1, 2, 3] rfl rfl))) wn ?_
   rintro _ σ32 ⟨_, ⟨a30, c31, rfl, rfl⟩, H, -⟩
   replace H : Hp S0 σ0 σ32 [Ch.own n0 n0 (Sl a30 r27.2.1 c31) r27.2.1, Ch.bx n0 b23 0 [(I x13.1), (Sl a20 x13.2.1 c21), (I x13.2.2)] [] [], Ch.ro 0 (Sl a20 x13.2.1 c21) x13.2.1, Ch.own n0 n0 (Sl (some ⟨b3, 0, none⟩) s8.1 c4) s8.1, Ch.ro 0 (Sl alist_0 list_0 clist_0) list_0] := H
   obtain ⟨x33, hx34, h'⟩ := bind_some h
   clear h
   have h := h'; clear h'
   obtain ⟨b36, o37, hi35, -⟩ := (H.own 3 rfl).ix hx34
   refine st (v := (pt b36 o37)) (rv_ix Try.underlying27 ti36 rfl rfl hi35) ?_
   obtain ⟨σ38, hw39, H, -⟩ := H.pub 0 rfl (Nat.le_refl _)
   rw [← hw39]; clear hw39
   refine st_exS (ex_store_own (e' := (r27.1, r27.2.1, r27.2.2)) (vs := [(I r27.1), (Sl a30 r27.2.1 c31), (I r27.2.2)]) (k := 0) H (i := 3) rfl ti36 hx34 hi35 rfl rfl rfl rfl rfl (Nat.le_of_ble_eq_true rfl) (by simp [plain]) (by rintro _ ⟨_, _, rfl, rfl, ⟨_, _, rfl, ⟨_, rfl, hR42⟩, rfl⟩⟩; exact ⟨[(I r27.1)], [(Sl a30 r27.2.1 c31), (I r27.2.2)], rfl, rfl, ⟨[(Sl a30 r27.2.1 c31)], [(I r27.2.2)], rfl, ⟨_, rfl, (H.ro 0 rfl)⟩, rfl⟩⟩)) wn ?_
   rintro σ43 ⟨H, -⟩
   have hsl : (Sl (some ⟨b3, 0, none⟩) s8.1 c4) = (Sl (some ⟨b3, 0, none⟩) (s8.1.set s8.2.toNat (r27.1, r27.2.1, r27.2.2)) c4) := sl_len List.length_set.symm
   rw [hsl]; rw [hsl] at H; clear hsl
   refine w_end ?_
   refine q_blk ?_
   refine q_then ?_
   refine rg ?_
   refine st (v := (I (w64 (s8.2 + 1)))) (rv_add (a := s8.2) (b := 1) rfl rfl) ?_
   refine st (v := (I (w64 (s8.2 + 1)))) (rv_move rfl) ?_
   refine w_end ?_
   refine q_then ?_
   obtain rfl := Option.some.inj h
   exact ⟨_, rfl, _, σ43, fr_join ⟨rfl, rfl, rfl, rfl, trivial⟩, rfl, H.sel' [0, 4] rfl rfl, (ht10.trans List.length_set.symm), (List.length_set.trans hn11)⟩
  ·replace h := bif_f hb12 h
   refine c_exit ?_
   refine q_then_x ?_
   refine q_then_x ?_
   refine q_blk_hit ?_
   obtain rfl := Option.some.inj h
   obtain rfl := hres _ rfl
   exact ⟨rfl, _, σ9, fr_join ⟨rfl, trivial⟩, rfl, H.sel' [0] rfl rfl, ht10, hn11⟩
 ·clear hj
  have h := h'
  clear h' H
  rintro e a w ⟨rfl, ρ, σ44, rfl, rfl, H, ht45, hn46⟩
  refine q_then ?_
  refine c_seq ?_
  refine rg ?_
  refine st (v := (Sl (some ⟨b3, 0, none⟩) o7 c4)) (rv_move rfl) ?_
  refine st (v := (Sl (some ⟨b3, 0, none⟩) o7 c4)) (rv_assign rfl) ?_
  refine w_end ?_
  refine q_then ?_
  refine c_ret ?_
  obtain rfl := Option.some.inj h
  exact fin_ret (v := (Sl (some ⟨b3, 0, none⟩) o7 c4)) (results_ok Try.results46 (res_tmp (v := (Sl (some ⟨b3, 0, none⟩) o7 c4)) rfl res_nil) rfl) ⟨(some ⟨b3, 0, none⟩), c4, rfl, rfl, ht45⟩ (H.sel' [0] rfl rfl)

theorem c_impl_validShards {shards_0 : Int}  {r : Bool} (h : M.impl_validShards shards_0 = some r) :
    Cal2 Try.prog 65 [(I shards_0)] [] (fun n0 v L => v = (B r) ∧ L = []) := by
 refine cal2 (n := 9) Try.func65 rfl rfl rfl rfl ?_
 intro S0 σ0 n0 hn0 H
 unfold M.impl_validShards at h
 refine c_seq ?_
 refine rg ?_
 refine st (v := (B false)) (rv_assign rfl) ?_
 refine w_end ?_
 refine q_then ?_
 refine c_seq ?_
 refine rg ?_
 refine st (v := (I shards_0)) (rv_move rfl) ?_
 refine st (v := (B (decide (1 ≤ shards_0)))) (rv_geq (a := shards_0) (b := 1) rfl rfl) ?_
 refine st (v := (B (decide (1 ≤ shards_0)))) (rv_move rfl) ?_
 rcases Bool.eq_false_or_eq_true (decide (1 ≤ shards_0)) with hb1 | hb1
 ·replace h := bif_t hb1 h
  refine st_g (v := (I shards_0)) (congrArg some hb1) (rv_move rfl) ?_
  refine st_g (v := (B (decide (shards_0 ≤ 8)))) (congrArg some hb1) (rv_leq (a := shards_0) (b := 8) rfl rfl) ?_
  refine st (v := (B (decide (shards_0 ≤ 8)))) (rv_pick_t (congrArg B hb1) rfl) ?_
  refine st (v := (B (decide (shards_0 ≤ 8)))) (rv_assign rfl) ?_
  refine w_end ?_
  refine q_then ?_
  refine c_ret ?_
  obtain rfl := Option.some.inj h
  exact fin_ret (v := (B (decide (shards_0 ≤ 8)))) (results_ok Try.results65 (res_tmp (v := (B (decide (shards_0 ≤ 8)))) rfl res_nil) rfl) ⟨rfl, rfl⟩ (H.sel' [] rfl rfl)
 ·replace h := bif_f hb1 h
  refine st_skip (congrArg some hb1) ?_
  refine st_skip (congrArg some hb1) ?_
  refine st (v := (B false)) (rv_pick_f (congrArg B hb1) rfl) ?_
  refine st (v := (B false)) (rv_assign rfl) ?_
  refine w_end ?_
  refine q_then ?_
  refine c_ret ?_
  obtain rfl := Option.some.inj h
  exact fin_ret (v := (B false)) (results_ok Try.results65 (res_tmp (v := (B false)) rfl res_nil) rfl) ⟨rfl, rfl⟩ (H.sel' [] rfl rfl)

theorem c_impl_ShardOf {key_0 : Int} {shards_1 : Int}  {r : Int} (h : M.impl_ShardOf key_0 shards_1 = some r) :
    Cal2 Try.prog 34 [(I key_0), (I shards_1)] [] (fun n0 v L => v = (I r) ∧ L = []) := by
 refine cal2 (n := 19) Try.func34 rfl rfl rfl rfl ?_
 intro S0 σ0 n0 hn0 H
 unfold M.impl_ShardOf at h
 refine c_seq ?_
 refine rg ?_
 refine st (v := (I 0)) (rv_assign rfl) ?_
 refine w_end ?_
 refine q_then ?_
 refine c_seq ?_
 refine c_seq ?_
 obtain ⟨o1, hj, h'⟩ := bind_some h
 clear h
 refine c_cut (fun e a w => e = .normal ∧ ∃ (ρ : Nat → Value) (σ : St), a = fr 19 (updL ρ [(0, (I key_0)), (1, (I shards_1)), (12, (B o1))]) ∧ w = σ.w ∧ Hp S0 σ0 σ []) ?_ ?_
 ·clear h'
  rename _ = some o1 => h
  refine rg ?_
  refine st (v := (I key_0)) (rv_move rfl) ?_
  obtain ⟨r2, hx3, h'⟩ := bind_some h
  clear h
  have h := h'; clear h'
  have hc4 := c_impl_validKey hx3
  refine st_call (cx_call hc4 (ent_f hc4.fn rfl) hn0 (show Hp S0 σ0 _ ([] ++ []) from (H.sel' [] rfl rfl))) wn ?_
  rintro _ σ5 ⟨_, ⟨rfl, rfl⟩, H, -⟩
  replace H : Hp S0 σ0 σ5 [] := H
  refine st (v := (B (!r2))) (rv_not rfl) ?_
  refine st (v := (B (!r2))) (rv_move rfl) ?_
  rcases Bool.eq_false_or_eq_true (!r2) with hb6 | hb6
  ·replace h := bif_t hb6 h
   refine st_skip (congrArg some hb6) ?_
   refine st_skip (congrArg some hb6) ?_
   refine st_skip (congrArg some hb6) ?_
   refine st (v := (B true)) (rv_pick_t (congrArg B hb6) rfl) ?_
   refine w_end ?_
   obtain rfl := Option.some.inj h
   exact ⟨rfl, _, σ5, fr_join ⟨rfl, rfl, rfl, trivial⟩, rfl, H.sel' [] rfl rfl⟩
  ·replace h := bif_f hb6 h
   refine st_g (v := (I shards_1)) (congrArg some hb6) (rv_move rfl) ?_
   obtain ⟨r7, hx8, h'⟩ := bind_some h
   clear h
   have h := h'; clear h'
   have hc9 := c_impl_validShards hx8
   refine st_call (cx_call hc9 (ent_f hc9.fn rfl) hn0 (show Hp S0 σ0 _ ([] ++ []) from (H.sel' [] rfl rfl))) (wanted_yes rfl (by exact (congrArg some hb6))) ?_
   rintro _ σ10 ⟨_, ⟨rfl, rfl⟩, H, -⟩
   replace H : Hp S0 σ0 σ10 [] := H
   refine st_g (v := (B (!r7))) (congrArg some hb6) (rv_not rfl) ?_
   refine st (v := (B (!r7))) (rv_pick_f (congrArg B hb6) rfl) ?_
   refine w_end ?_
   obtain rfl := Option.some.inj h
   exact ⟨rfl, _, σ10, fr_join ⟨rfl, rfl, rfl, trivial⟩, rfl, H.sel' [] rfl rfl⟩
 ·clear hj
  have h := h'
  clear h' H
  rintro e a w ⟨rfl, ρ, σ11, rfl, rfl, H⟩
  refine q_then ?_
  refine cd_cond o1 rfl (fun hb12 => ?_) (fun hb12 => ?_)
  ·replace h := bif_t hb12 h
   refine c_seq ?_
   refine rg ?_
   refine st (v := (I (-1))) (rv_assign rfl) ?_
   refine w_end ?_
   refine q_then ?_
   refine c_ret ?_
   refine q_then_r ?_
   obtain rfl := Option.some.inj h
   exact fin_ret (v := (I (-1))) (results_ok Try.results34 (res_tmp (v := (I (-1))) rfl res_nil) rfl) ⟨rfl, rfl⟩ (H.sel' [] rfl rfl)
  ·replace h := bif_f hb12 h
   refine c_skip ?_
   refine q_then ?_
   refine c_seq ?_
   refine rg ?_
   refine st (v := (I key_0)) (rv_move rfl) ?_
   refine st (v := (I (w64 (389 * key_0)))) (rv_mul (a := 389) (b := key_0) rfl rfl) ?_
   refine st (v := (I ((w64 (389 * key_0)).tmod 1009))) (rv_rem (a := (w64 (389 * key_0))) (b := 1009) rfl rfl (by decide)) ?_
   refine st (v := (I shards_1)) (rv_move rfl) ?_
   refine st (v := (I (w64 (((w64 (389 * key_0)).tmod 1009) * shards_1)))) (rv_mul (a := ((w64 (389 * key_0)).tmod 1009)) (b := shards_1) rfl rfl) ?_
   refine st (v := (I (w64 ((w64 (((w64 (389 * key_0)).tmod 1009) * shards_1)).tdiv 1009)))) (rv_quo (a := (w64 (((w64 (389 * key_0)).tmod 1009) * shards_1))) (b := 1009) rfl rfl (by decide)) ?_
   refine st (v := (I (w64 ((w64 (((w64 (389 * key_0)).tmod 1009) * shards_1)).tdiv 1009)))) (rv_assign rfl) ?_
   refine w_end ?_
   refine q_then ?_
   refine c_ret ?_
   obtain rfl := Option.some.inj h
   exact fin_ret (v := (I (w64 ((w64 (((w64 (389 * key_0)).tmod 1009) * shards_1)).tdiv 1009)))) (results_ok Try.results34 (res_tmp (v := (I (w64 ((w64 (((w64 (389 * key_0)).tmod 1009) * shards_1)).tdiv 1009)))) rfl res_nil) rfl) ⟨rfl, rfl⟩ (H.sel' [] rfl rfl)

theorem c_impl_ShardItems_1__p3__p3 {x_0 : Int × (List Int) × Int} {p_1 : Int} {p_2 : Int} {ax_0_1 : Option Addr} {cx_0_1 : Nat} {lop_1 bp_1 op_1 : Nat} {prep_1 sufp_1 : List Value} {lop_2 bp_2 op_2 : Nat} {prep_2 sufp_2 : List Value} {r : Bool} (h : M.impl_ShardItems_1__p3__p3 x_0 p_1 p_2 = some r) :
    Cal2 Try.prog 69 [(.agg #[(I x_0.1), (Sl ax_0_1 x_0.2.1 cx_0_1), (I x_0.2.2)]), (pt bp_1 op_1), (pt bp_2 op_2)] [Ch.ro 0 (Sl ax_0_1 x_0.2.1 cx_0_1) x_0.2.1, Ch.bx lop_1 bp_1 op_1 [(I p_1)] prep_1 sufp_1, Ch.bx lop_2 bp_2 op_2 [(I p_2)] prep_2 sufp_2] (fun n0 v L => v = (B r) ∧ L = [Ch.bx lop_1 bp_1 op_1 [(I p_1)] prep_1 sufp_1, Ch.bx lop_2 bp_2 op_2 [(I p_2)] prep_2 sufp_2]) := by
 refine cal2 (n := 11) Try.func69 rfl rfl rfl rfl ?_
 intro S0 σ0 n0 hn0 H
 unfold M.impl_ShardItems_1__p3__p3 at h
 refine c_seq ?_
 refine rg ?_
 refine st_ex (ex_box (cs := [(I x_0.1), (Sl ax_0_1 x_0.2.1 cx_0_1), (I x_0.2.2)]) H hn0 rfl rfl) wn ?_
 rintro _ σ2 ⟨b1, rfl, H, -⟩
 refine st (v := (B false)) (rv_assign rfl) ?_
 refine w_end ?_
 refine q_then ?_
 refine c_seq ?_
 have hc3 := H.cell (u := (I x_0.1)) (o' := 0) 0 0 rfl rfl rfl
 have hc4 := H.cell (u := (I p_1)) (o' := op_1) 2 0 rfl rfl rfl
 obtain ⟨r5, hx6, h'⟩ := bind_some h
 clear h
 have h := h'; clear h'
 have hc7 := c_impl_ShardOf hx6
 have hc8 := H.cell (u := (I p_2)) (o' := op_2) 3 0 rfl rfl rfl
 have Hs := H
 refine rg2 (σ := σ2) (Nm := Unit) 5 [3] [[false], [true]] [[(0, 0)], [(0, 0)], [(0, 0)], [(0, 1)], [(0, 0), (1, 1)]] 1 [fun _ => fun σm => Hp S0 σ0 σm [Ch.bx n0 b1 0 [(I x_0.1), (Sl ax_0_1 x_0.2.1 cx_0_1), (I x_0.2.2)] [] [], Ch.ro 0 (Sl ax_0_1 x_0.2.1 cx_0_1) x_0.2.1, Ch.bx lop_1 bp_1 op_1 [(I p_1)] prep_1 sufp_1, Ch.bx lop_2 bp_2 op_2 [(I p_2)] prep_2 sufp_2] ∧ Md (cov []) σ2 σm, fun _ => fun σm => Hp S0 σ0 σm [Ch.bx n0 b1 0 [(I x_0.1), (Sl ax_0_1 x_0.2.1 cx_0_1), (I x_0.2.2)] [] [], Ch.ro 0 (Sl ax_0_1 x_0.2.1 cx_0_1) x_0.2.1, Ch.bx lop_1 bp_1 op_1 [(I p_1)] prep_1 sufp_1, Ch.bx lop_2 bp_2 op_2 [(I p_2)] prep_2 sufp_2] ∧ Md (cov []) σ2 σm] [fun _ => (pt b1 0), fun _ => (I x_0.1), fun _ => (I p_1), fun _ => (I r5), fun _ => (I p_2)] () (by kernel_rfl) (by kernel_rfl) ?_ ?_ ?_
 ·intro σm m0
  exact ⟨H.grow (m0.mono fun _ h => h.elim), m0⟩
 ·refine ac rfl (by
    intro k _nm ρ σm hJ hoff hdep
    have e3 := look_off (N := 11) (hoff 3 rfl) rfl
    exact dp_v (v := (pt b1 0)) wn (rv_fieldAddr (off := 0) (ft := 3) Try.underlying36 rfl ti3 rfl e3) rfl hJ) ?_
  refine all_cons (by
    refine ⟨?_, ?_⟩
    ·intro _nm ρ σm hJ hoff hdep
     have e5 := hdep 0 rfl rfl 5 rfl
     obtain ⟨H, m⟩ := id hJ
     have hc3 := H.cell (u := (I x_0.1)) (o' := 0) 0 0 rfl rfl rfl
     exact dp_v (v := (I x_0.1)) wn (rv_load1 Try.underlying3 rfl e5 hc3) rfl hJ
    trivial) ?_
  refine all_cons (by
    refine ⟨?_, ?_⟩
    ·intro _nm ρ σm hJ hoff hdep
     have e1 := look_off (N := 11) (hoff 1 rfl) rfl
     obtain ⟨H, m⟩ := id hJ
     have hc4 := H.cell (u := (I p_1)) (o' := op_1) 2 0 rfl rfl rfl
     exact dp_v (v := (I p_1)) wn (rv_load1 Try.underlying3 rfl e1 hc4) rfl hJ
    trivial) ?_
  refine all_cons (by
    refine ⟨?_, ?_⟩
    ·intro _nm ρ σm hJ hoff hdep
     have e6 : look 11 ρ 6 = (I x_0.1) := hdep 1 rfl rfl 6 rfl
     have e7 : look 11 ρ 7 = (I p_1) := hdep 2 rfl rfl 7 rfl
     obtain ⟨H, m⟩ := id hJ
     refine dp_cx wn (cx_call hc7 (ent_f hc7.fn (by show [look 11 ρ 6, look 11 ρ 7] = _; rw [e6, e7])) hn0 (show Hp S0 σ0 _ ([] ++ [Ch.bx n0 b1 0 [(I x_0.1), (Sl ax_0_1 x_0.2.1 cx_0_1), (I x_0.2.2)] [] [], Ch.ro 0 (Sl ax_0_1 x_0.2.1 cx_0_1) x_0.2.1, Ch.bx lop_1 bp_1 op_1 [(I p_1)] prep_1 sufp_1, Ch.bx lop_2 bp_2 op_2 [(I p_2)] prep_2 sufp_2]) from (H.sel' [0, 1, 2, 3] rfl rfl))) ?_
     rintro _ σq ⟨_, ⟨rfl, rfl⟩, H2, m2⟩
     exact ⟨_, (), rfl, rfl, ⟨H2.sel' [0, 1, 2, 3] rfl rfl, m.comp0 m2⟩, stab [0, 1, 2, 4] (by kernel_rfl) ⟨rfl, rfl, rfl, rfl, trivial⟩⟩
    trivial) ?_
  refine all_cons (by
    refine ⟨?_, ?_⟩
    ·intro _nm ρ σm hJ hoff hdep
     have e2 := look_off (N := 11) (hoff 2 rfl) rfl
     obtain ⟨H, m⟩ := id hJ
     have hc8 := H.cell (u := (I p_2)) (o' := op_2) 3 0 rfl rfl rfl
     exact dp_v (v := (I p_2)) wn (rv_load1 Try.underlying3 rfl e2 hc8) rfl hJ
    refine ⟨?_, ?_⟩
    ·intro _nm ρ σm hJ hoff hdep
     have e2 := look_off (N := 11) (hoff 2 rfl) rfl
     obtain ⟨H, m⟩ := id hJ
     have hc8 := H.cell (u := (I p_2)) (o' := op_2) 3 0 rfl rfl rfl
     exact dp_v (v := (I p_2)) wn (rv_load1 Try.underlying3 rfl e2 hc8) rfl hJ
    trivial) ?_
  exact all_nil
 ·intro _nm ρ σ9 hJ hoff hrel
  have e1 := look_off (N := 11) (hoff 1 rfl) rfl
  have e2 := look_off (N := 11) (hoff 2 rfl) rfl
  have e8 := hrel 3 rfl 8 rfl
  have e9 := hrel 4 rfl 9 rfl
  obtain ⟨H, -⟩ := (show Hp S0 σ0 σ9 [Ch.bx n0 b1 0 [(I x_0.1), (Sl ax_0_1 x_0.2.1 cx_0_1), (I x_0.2.2)] [] [], Ch.ro 0 (Sl ax_0_1 x_0.2.1 cx_0_1) x_0.2.1, Ch.bx lop_1 bp_1 op_1 [(I p_1)] prep_1 sufp_1, Ch.bx lop_2 bp_2 op_2 [(I p_2)] prep_2 sufp_2] ∧ Md (cov []) σ2 σ9 from hJ)
  clear hJ Hs
  rw [fr_lookL (L := [(1, (pt bp_1 op_1)), (2, (pt bp_2 op_2)), (8, (I r5)), (9, (I p_2))]) ⟨e1, e2, e8, e9, trivial⟩]
  clear hoff hrel e1 e2 e8 e9
  refine st (v := (B (r5 == p_2))) (rv_eql (a := r5) (b := p_2) rfl rfl) ?_
  refine st (v := (B (r5 == p_2))) (rv_assign rfl) ?_
  refine w_end ?_
  refine q_then ?_
  refine c_ret ?_
  obtain rfl := Option.some.inj h
  exact fin_ret (v := (B (r5 == p_2))) (results_ok Try.results69 (res_tmp (v := (B (r5 == p_2))) rfl res_nil) rfl) ⟨rfl, rfl⟩ (H.sel' [2, 3] rfl rfl)

theorem c_impl_itemsThat__impl_ShardItems_1 {list_0 : List (Int × (List Int) × Int)} {chosen_1_0 : Int} {chosen_1_1 : Int} {alist_0 : Option Addr} {clist_0 : Nat} {lochosen_1_0 bchosen_1_0 ochosen_1_0 : Nat} {prechosen_1_0 sufchosen_1_0 : List Value} {lochosen_1_1 bchosen_1_1 ochosen_1_1 : Nat} {prechosen_1_1 sufchosen_1_1 : List Value} {r : (List (Int × (List Int) × Int))} (h : M.impl_itemsThat__impl_ShardItems_1 list_0 chosen_1_0 chosen_1_1 = some r) :
    Cal2 Try.prog 68 [(Sl alist_0 list_0 clist_0), (.func (.func 69) #[] #[(pt bchosen_1_0 ochosen_1_0), (pt bchosen_1_1 ochosen_1_1)])] [Ch.ro 0 (Sl alist_0 list_0 clist_0) list_0, Ch.bx lochosen_1_0 bchosen_1_0 ochosen_1_0 [(I chosen_1_0)] prechosen_1_0 sufchosen_1_0, Ch.bx lochosen_1_1 bchosen_1_1 ochosen_1_1 [(I chosen_1_1)] prechosen_1_1 sufchosen_1_1] (fun n0 v L => ∃ (az1 : Option Addr), ∃ (cz2 : Nat), v = (Sl az1 r cz2) ∧ L = [Ch.own n0 0 (Sl az1 r cz2) r, Ch.bx lochosen_1_0 bchosen_1_0 ochosen_1_0 [(I chosen_1_0)] prechosen_1_0 sufchosen_1_0, Ch.bx lochosen_1_1 bchosen_1_1 ochosen_1_1 [(I chosen_1_1)] prechosen_1_1 sufchosen_1_1]) := by
 refine cal2 (n := 23) Try.func68 rfl rfl rfl rfl ?_
 intro S0 σ0 n0 hn0 H
 unfold M.impl_itemsThat__impl_ShardItems_1 at h
 refine c_seq ?_
 refine rg ?_
 refine st (v := (.slice none 0 0)) (rv_assign rfl) ?_
 refine w_end ?_
 refine q_then ?_
 refine c_seq ?_
 refine rg ?_
 refine st (v := (.slice none 0 0)) (rv_assign rfl) ?_
 refine w_end ?_
 refine q_then ?_
 refine c_seq ?_
 refine c_seq ?_
 refine rg ?_
 refine st (v := (Sl alist_0 list_0 clist_0)) (rv_move rfl) ?_
 refine st (v := (I (list_0.length : Int))) (rv_len Try.underlying27 rfl) ?_
 refine st (v := (I 0)) (rv_move rfl) ?_
 refine w_end ?_
 refine q_then ?_
 obtain ⟨o1, hj, h'⟩ := bind_some h
 clear h
 refine c_cut (fun e a w => e = .normal ∧ ∃ (ρ : Nat → Value) (σ : St) (aj1 : Option Addr) (cj2 : Nat), a = fr 23 (updL ρ [(1, (.func (.func 69) #[] #[(pt bchosen_1_0 ochosen_1_0), (pt bchosen_1_1 ochosen_1_1)])), (5, (Sl aj1 o1 cj2))]) ∧ w = σ.w ∧ Hp S0 σ0 σ [Ch.bx lochosen_1_0 bchosen_1_0 ochosen_1_0 [(I chosen_1_0)] prechosen_1_0 sufchosen_1_0, Ch.bx lochosen_1_1 bchosen_1_1 ochosen_1_1 [(I chosen_1_1)] prechosen_1_1 sufchosen_1_1, Ch.own n0 0 (Sl aj1 o1 cj2) o1]) ?_ ?_
 ·clear h'
  rename _ = some o1 => h
  refine c_blk ?_
  replace H := H.nilOwn (Int × (List Int) × Int) n0 0
  refine wp_loopM _ h (fun s2 a w => ∃ (ρ : Nat → Value) (σ : St) (aj1 : Option Addr) (cj2 : Nat), a = fr 23 (updL ρ [(1, (.func (.func 69) #[] #[(pt bchosen_1_0 ochosen_1_0), (pt bchosen_1_1 ochosen_1_1)])), (5, (Sl aj1 s2.1 cj2)), (8, (Sl alist_0 list_0 clist_0)), (9, (I (list_0.length : Int))), (10, (I s2.2))]) ∧ w = σ.w ∧ Hp S0 σ0 σ [Ch.bx lochosen_1_0 bchosen_1_0 ochosen_1_0 [(I chosen_1_0)] prechosen_1_0 sufchosen_1_0, Ch.bx lochosen_1_1 bchosen_1_1 ochosen_1_1 [(I chosen_1_1)] prechosen_1_1 sufchosen_1_1, Ch.own n0 0 (Sl aj1 s2.1 cj2) s2.1, Ch.ro 0 (Sl alist_0 list_0 clist_0) list_0]) ⟨_, σ0, none, 0, fr_join ⟨rfl, rfl, rfl, rfl, rfl, trivial⟩, rfl, H.sel' [2, 3, 0, 1] rfl rfl⟩ ?_
  clear h H
  rintro s2 a w o ⟨ρ, σ3, a4, c5, rfl, rfl, H⟩ h hres
  refine c_seq ?_
  refine rg ?_
  refine st (v := (B (decide (s2.2 < (list_0.length : Int))))) (rv_lss (a := s2.2) (b := (list_0.length : Int)) rfl rfl) ?_
  refine w_end ?_
  refine q_then ?_
  refine c_seq ?_
  refine cd_cond (decide (s2.2 < (list_0.length : Int))) rfl (fun hb6 => ?_) (fun hb6 => ?_)
  ·replace h := bif_t hb6 h
   refine c_skip ?_
   refine q_then ?_
   refine c_seq ?_
   obtain ⟨o7, hj, h'⟩ := bind_some h
   clear h
   refine c_cut (fun e a w => e = .normal ∧ ∃ (ρ : Nat → Value) (σ : St) (aj1 : Option Addr) (cj2 : Nat), a = fr 23 (updL ρ [(1, (.func (.func 69) #[] #[(pt bchosen_1_0 ochosen_1_0), (pt bchosen_1_1 ochosen_1_1)])), (5, (Sl aj1 o7 cj2)), (8, (Sl alist_0 list_0 clist_0)), (9, (I (list_0.length : Int))), (10, (I s2.2))]) ∧ w = σ.w ∧ Hp S0 σ0 σ [Ch.bx lochosen_1_0 bchosen_1_0 ochosen_1_0 [(I chosen_1_0)] prechosen_1_0 sufchosen_1_0, Ch.bx lochosen_1_1 bchosen_1_1 ochosen_1_1 [(I chosen_1_1)] prechosen_1_1 sufchosen_1_1, Ch.own n0 0 (Sl aj1 o7 cj2) o7, Ch.ro 0 (Sl alist_0 list_0 clist_0) list_0]) ?_ ?_
   ·clear h'
    rename _ = some o7 => h
    refine c_blk ?_
    refine c_seq ?_
    refine rg ?_
    obtain ⟨x8, hx9, h'⟩ := bind_some h
    clear h
    have h := h'; clear h'
    obtain ⟨b11, o12, hi10, -⟩ := (H.ro 3 rfl).ix hx9
    refine st (v := (pt b11 o12)) (rv_ix Try.underlying27 ti36 rfl rfl hi10) ?_
    obtain ⟨_, ⟨_, _, rfl, rfl, ⟨_, _, rfl, ⟨_, rfl, hR17⟩, rfl⟩⟩, hl13, hc14⟩ := ((H.ro 3 rfl).at hx9 hi10).cells
    obtain ⟨a15, c16, rfl⟩ := hR17.isSl
    replace H := H.add (d := Ch.ro 0 (Sl a15 x8.2.1 c16) x8.2.1) hR17 (fun _ h => h)
    clear hR17
    refine st (v := (.agg #[(I x8.1), (Sl a15 x8.2.1 c16), (I x8.2.2)])) (rv_load Try.underlying36 rfl ti36 rfl hl13 hc14) ?_
    refine st_ex (ex_alloc (cs := [(I 0), (.slice none 0 0), (I 0)]) H hn0 ti36 rfl) wn ?_
    rintro _ σ19 ⟨b18, rfl, H, -⟩
    refine st_exS (ex_store_box (k := 0) (cs := [(I 0), (.slice none 0 0), (I 0)]) (vs := [(I x8.1), (Sl a15 x8.2.1 c16), (I x8.2.2)]) (cs' := [(I x8.1), (Sl a15 x8.2.1 c16), (I x8.2.2)]) H (i := 0) rfl ti36 rfl rfl rfl rfl rfl (Nat.le_of_ble_eq_true rfl) (by simp [plain]) rfl) wn ?_
    rintro σ20 ⟨H, -⟩
    refine w_end ?_
    refine q_then ?_
    refine c_seq ?_
    refine rg ?_
    refine st (v := (.func (.func 69) #[] #[(pt bchosen_1_0 ochosen_1_0), (pt bchosen_1_1 ochosen_1_1)])) (rv_move rfl) ?_
    have hc21 := H.cells 0 rfl
    refine st (v := (.agg #[(I x8.1), (Sl a15 x8.2.1 c16), (I x8.2.2)])) (rv_load (cs := [(I x8.1), (Sl a15 x8.2.1 c16), (I x8.2.2)]) Try.underlying36 rfl ti36 rfl rfl hc21) ?_
    obtain ⟨r22, hx23, h'⟩ := bind_some h
    clear h
    have h := h'; clear h'
    have hc24 := c_impl_ShardItems_1__p3__p3 (ax_0_1 := a15) (cx_0_1 := c16) (lop_1 := lochosen_1_0) (bp_1 := bchosen_1_0) (op_1 := ochosen_1_0) (prep_1 := prechosen_1_0) (sufp_1 := sufchosen_1_0) (lop_2 := lochosen_1_1) (bp_2 := bchosen_1_1) (op_2 := ochosen_1_1) (prep_2 := prechosen_1_1) (sufp_2 := sufchosen_1_1) hx23
    refine st_call (cx_call hc24 (ent_v (cap := [(pt bchosen_1_0 ochosen_1_0), (pt bchosen_1_1 ochosen_1_1)]) hc24.fn rfl rfl) hn0 (show Hp S0 σ0 _ ([Ch.ro 0 (Sl a15 x8.2.1 c16) x8.2.1, Ch.bx lochosen_1_0 bchosen_1_0 ochosen_1_0 [(I chosen_1_0)] prechosen_1_0 sufchosen_1_0, Ch.bx lochosen_1_1 bchosen_1_1 ochosen_1_1 [(I chosen_1_1)] prechosen_1_1 sufchosen_1_1] ++ [Ch.bx n0 b18 0 [(I x8.1), (Sl a15 x8.2.1 c16), (I x8.2.2)] [] [], Ch.ro 0 (Sl a15 x8.2.1 c16) x8.2.1, Ch.own n0 0 (Sl a4 s2.1 c5) s2.1, Ch.ro 0 (Sl alist_0 list_0 clist_0) list_0]) from (H.sel' [1, 2, 3, 0, 1, 4, 5] rfl rfl))) wn ?_
    rintro _ σ25 ⟨_, ⟨rfl, rfl⟩, H, -⟩
    replace H : Hp S0 σ0 σ25 [Ch.bx lochosen_1_0 bchosen_1_0 ochosen_1_0 [(I chosen_1_0)] prechosen_1_0 sufchosen_1_0, Ch.bx lochosen_1_1 bchosen_1_1 ochosen_1_1 [(I chosen_1_1)] prechosen_1_1 sufchosen_1_1, Ch.bx n0 b18 0 [(I x8.1), (Sl a15 x8.2.1 c16), (I x8.2.2)] [] [], Ch.ro 0 (Sl a15 x8.2.1 c16) x8.2.1, Ch.own n0 0 (Sl a4 s2.1 c5) s2.1, Ch.ro 0 (Sl alist_0 list_0 clist_0) list_0] := H
    refine w_end ?_
    refine q_then ?_
    refine cd_cond r22 rfl (fun hb26 => ?_) (fun hb26 => ?_)
    ·replace h := bif_t hb26 h
     refine rg ?_
     refine st (v := (Sl a4 s2.1 c5)) (rv_move rfl) ?_
     have hc27 := H.cells 2 rfl
     refine st (v := (.agg #[(I x8.1), (Sl a15 x8.2.1 c16), (I x8.2.2)])) (rv_load (cs := [(I x8.1), (Sl a15 x8.2.1 c16), (I x8.2.2)]) Try.underlying36 rfl ti36 rfl rfl hc27) ?_
     refine st_ex (ex_buildSlice (el := 0) (xs := ([(x8.1, x8.2.1, x8.2.2)] : List (Int × (List Int) × Int))) (ps := [(0, (.agg #[(I x8.1), (Sl a15 x8.2.1 c16), (I x8.2.2)]))]) (cs := [(I x8.1), (Sl a15 x8.2.1 c16), (I x8.2.2)]) H hn0 Try.underlying27 ti36 rfl rfl (by kernel_rfl) (.cons (c := [(I x8.1), (Sl a15 x8.2.1 c16), (I x8.2.2)]) ⟨[(I x8.1)], [(Sl a15 x8.2.1 c16), (I x8.2.2)], rfl, rfl, ⟨[(Sl a15 x8.2.1 c16)], [(I x8.2.2)], rfl, ⟨_, rfl, (H.ro 3 rfl)⟩, rfl⟩⟩ (.nil)) rfl) wn ?_
     rintro _ σ29 ⟨b28, rfl, H, -⟩
     obtain ⟨xs30, hx31, h'⟩ := bind_some h
     clear h
     have h := h'; clear h'
     refine st_ex (ex_append H (i := 5) rfl Try.underlying27 Try.underlying27 ti36 rfl rfl (by decide) (H.own 0 rfl).rd hx31 hn0 rfl rfl) wn ?_
     rintro _ σ34 ⟨a32, c33, rfl, H, -⟩
     refine st (v := (Sl a32 xs30 c33)) (rv_assign rfl) ?_
     refine w_end ?_
     refine q_blk ?_
     obtain rfl := Option.some.inj h
     exact ⟨rfl, _, σ34, a32, c33, fr_join ⟨rfl, rfl, rfl, rfl, rfl, trivial⟩, rfl, H.sel' [2, 3, 0, 6] rfl rfl⟩
    ·replace h := bif_f hb26 h
     refine c_skip ?_
     refine q_blk ?_
     obtain rfl := Option.some.inj h
     exact ⟨rfl, _, σ25, a4, c5, fr_join ⟨rfl, rfl, rfl, rfl, rfl, trivial⟩, rfl, H.sel' [0, 1, 4, 5] rfl rfl⟩
   ·clear hj
    have h := h'
    clear h' H
    rintro e a w ⟨rfl, ρ, σ35, a36, c37, rfl, rfl, H⟩
    refine q_then ?_
    refine rg ?_
    refine st (v := (I (w64 (s2.2 + 1)))) (rv_add (a := s2.2) (b := 1) rfl rfl) ?_
    refine st (v := (I (w64 (s2.2 + 1)))) (rv_move rfl) ?_
    refine w_end ?_
    refine q_then ?_
    obtain rfl := Option.some.inj h
    exact ⟨_, rfl, _, σ35, a36, c37, fr_join ⟨rfl, rfl, rfl, rfl, rfl, trivial⟩, rfl, H.sel' [0, 1, 2, 3] rfl rfl⟩
  ·replace h := bif_f hb6 h
   refine c_exit ?_
   refine q_then_x ?_
   refine q_then_x ?_
   refine q_blk_hit ?_
   obtain rfl := Option.some.inj h
   obtain rfl := hres _ rfl
   exact ⟨rfl, _, σ3, a4, c5, fr_join ⟨rfl, rfl, trivial⟩, rfl, H.sel' [0, 1, 2] rfl rfl⟩
 ·clear hj
  have h := h'
  clear h' H
  rintro e a w ⟨rfl, ρ, σ38, a39, c40, rfl, rfl, H⟩
  refine q_then ?_
  refine c_seq ?_
  refine rg ?_
  refine st (v := (Sl a39 o1 c40)) (rv_move rfl) ?_
  refine st (v := (Sl a39 o1 c40)) (rv_assign rfl) ?_
  refine w_end ?_
  refine q_then ?_
  refine c_ret ?_
  obtain rfl := Option.some.inj h
  exact fin_ret (v := (Sl a39 o1 c40)) (results_ok Try.results68 (res_tmp (v := (Sl a39 o1 c40)) rfl res_nil) rfl) ⟨a39, c40, rfl, rfl⟩ (H.sel' [2, 0, 1] rfl rfl)

theorem c_impl_ShardItems {list_0 : List (Int × (List Int) × Int)} {shards_1 : Int} {n_2 : Int} {alist_0 : Option Addr} {clist_0 : Nat} {r : (List (Int × (List Int) × Int))} (h : M.impl_ShardItems list_0 shards_1 n_2 = some r) :
    Cal2 Try.prog 37 [(Sl alist_0 list_0 clist_0), (I shards_1), (I n_2)] [Ch.ro 0 (Sl alist_0 list_0 clist_0) list_0] (fun n0 v L => ∃ (az1 : Option Addr), ∃ (cz2 : Nat), v = (Sl az1 r cz2) ∧ L = [Ch.own n0 n0 (Sl az1 r cz2) r] ∧ cz2 = r.length) := by
 refine cal2 (n := 19) Try.func37 rfl rfl rfl rfl ?_
 intro S0 σ0 n0 hn0 H
 unfold M.impl_ShardItems at h
 refine c_seq ?_
 refine rg ?_
 refine st_ex (ex_box (cs := [(I shards_1)]) H hn0 rfl rfl) wn ?_
 rintro _ σ2 ⟨b1, rfl, H, -⟩
 refine st_ex (ex_box (cs := [(I n_2)]) H hn0 rfl rfl) wn ?_
 rintro _ σ4 ⟨b3, rfl, H, -⟩
 refine st (v := (.slice none 0 0)) (rv_assign rfl) ?_
 refine w_end ?_
 refine q_then ?_
 refine c_seq ?_
 refine c_seq ?_
 obtain ⟨o5, hj, h'⟩ := bind_some h
 clear h
 refine c_cut (fun e a w => e = .normal ∧ ∃ (ρ : Nat → Value) (σ : St), a = fr 19 (updL ρ [(0, (Sl alist_0 list_0 clist_0)), (4, (pt b1 0)), (5, (pt b3 0)), (14, (B o5))]) ∧ w = σ.w ∧ Hp S0 σ0 σ [Ch.ro 0 (Sl alist_0 list_0 clist_0) list_0, Ch.bx n0 b1 0 [(I shards_1)] [] [], Ch.bx n0 b3 0 [(I n_2)] [] []]) ?_ ?_
 ·clear h'
  rename _ = some o5 => h
  refine rg ?_
  refine st (v := (Sl alist_0 list_0 clist_0)) (rv_move rfl) ?_
  obtain ⟨r6, hx7, h'⟩ := bind_some h
  clear h
  have h := h'; clear h'
  have hc8 := c_impl_ValidStore (alist_0 := alist_0) (clist_0 := clist_0) hx7
  refine st_call (cx_call hc8 (ent_f hc8.fn rfl) hn0 (show Hp S0 σ0 _ ([Ch.ro 0 (Sl alist_0 list_0 clist_0) list_0] ++ [Ch.bx n0 b3 0 [(I n_2)] [] [], Ch.bx n0 b1 0 [(I shards_1)] [] [], Ch.ro 0 (Sl alist_0 list_0 clist_0) list_0]) from (H.sel' [2, 0, 1, 2] rfl rfl))) wn ?_
  rintro _ σ9 ⟨_, ⟨rfl, rfl⟩, H, -⟩
  replace H : Hp S0 σ0 σ9 [Ch.bx n0 b3 0 [(I n_2)] [] [], Ch.bx n0 b1 0 [(I shards_1)] [] [], Ch.ro 0 (Sl alist_0 list_0 clist_0) list_0] := H
  refine st (v := (B (!r6))) (rv_not rfl) ?_
  refine st (v := (B (!r6))) (rv_move rfl) ?_
  rcases Bool.eq_false_or_eq_true (!r6) with hb10 | hb10
  ·replace h := bif_t hb10 h
   refine st_skip (congrArg some hb10) ?_
   refine st_skip (congrArg some hb10) ?_
   refine st_skip (congrArg some hb10) ?_
   refine st (v := (B true)) (rv_pick_t (congrArg B hb10) rfl) ?_
   refine w_end ?_
   obtain rfl := Option.some.inj h
   exact ⟨rfl, _, σ9, fr_join ⟨rfl, rfl, rfl, rfl, trivial⟩, rfl, H.sel' [2, 1, 0] rfl rfl⟩
  ·replace h := bif_f hb10 h
   have hc11 := H.cell (u := (I shards_1)) (o' := 0) 1 0 rfl rfl rfl
   refine st_g (v := (I shards_1)) (congrArg some hb10) (rv_load1 Try.underlying3 rfl rfl hc11) ?_
   obtain ⟨r12, hx13, h'⟩ := bind_some h
   clear h
   have h := h'; clear h'
   have hc14 := c_impl_validShards hx13
   refine st_call (cx_call hc14 (ent_f hc14.fn rfl) hn0 (show Hp S0 σ0 _ ([] ++ [Ch.bx n0 b3 0 [(I n_2)] [] [], Ch.bx n0 b1 0 [(I shards_1)] [] [], Ch.ro 0 (Sl alist_0 list_0 clist_0) list_0]) from (H.sel' [0, 1, 2] rfl rfl))) (wanted_yes rfl (by exact (congrArg some hb10))) ?_
   rintro _ σ15 ⟨_, ⟨rfl, rfl⟩, H, -⟩
   replace H : Hp S0 σ0 σ15 [Ch.bx n0 b3 0 [(I n_2)] [] [], Ch.bx n0 b1 0 [(I shards_1)] [] [], Ch.ro 0 (Sl alist_0 list_0 clist_0) list_0] := H
   refine st_g (v := (B (!r12))) (congrArg some hb10) (rv_not rfl) ?_
   refine st (v := (B (!r12))) (rv_pick_f (congrArg B hb10) rfl) ?_
   refine w_end ?_
   obtain rfl := Option.some.inj h
   exact ⟨rfl, _, σ15, fr_join ⟨rfl, rfl, rfl, rfl, trivial⟩, rfl, H.sel' [2, 1, 0] rfl rfl⟩
 ·clear hj
  have h := h'
  clear h' H
  rintro e a w ⟨rfl, ρ, σ16, rfl, rfl, H⟩
  refine q_then ?_
  refine cd_cond o5 rfl (fun hb17 => ?_) (fun hb17 => ?_)
  ·replace h := bif_t hb17 h
   refine c_seq ?_
   refine rg ?_
   refine st (v := (.slice none 0 0)) (rv_assign rfl) ?_
   refine w_end ?_
   refine q_then ?_
   refine c_ret ?_
   refine q_then_r ?_
   replace H := H.nilOwn (Int × (List Int) × Int) n0 n0
   obtain rfl := Option.some.inj h
   exact fin_ret (v := (.slice none 0 0)) (results_ok Try.results37 (res_tmp (v := (.slice none 0 0)) rfl res_nil) rfl) ⟨none, 0, rfl, rfl, rfl⟩ (H.sel' [0] rfl rfl)
  ·replace h := bif_f hb17 h
   refine c_skip ?_
   refine q_then ?_
   refine c_seq ?_
   refine rg ?_
   refine st (v := (Sl alist_0 list_0 clist_0)) (rv_move rfl) ?_
   refine st (v := (.func (.func 69) #[] #[(pt b1 0), (pt b3 0)])) (rv_makeFunc (vs := [(pt b1 0), (pt b3 0)]) rfl) ?_
   obtain ⟨r18, hx19, h'⟩ := bind_some h
   clear h
   have h := h'; clear h'
   have hc20 := c_impl_itemsThat__impl_ShardItems_1 (alist_0 := alist_0) (clist_0 := clist_0) (lochosen_1_0 := n0) (bchosen_1_0 := b1) (ochosen_1_0 := 0) (prechosen_1_0 := []) (sufchosen_1_0 := []) (lochosen_1_1 := n0) (bchosen_1_1 := b3) (ochosen_1_1 := 0) (prechosen_1_1 := []) (sufchosen_1_1 := []) hx19
   refine st_call (cx_call hc20 (ent_f hc20.fn rfl) hn0 (show Hp S0 σ0 _ ([Ch.ro 0 (Sl alist_0 list_0 clist_0) list_0, Ch.bx n0 b1 0 [(I shards_1)] [] [], Ch.bx n0 b3 0 [(I n_2)] [] []] ++ [Ch.ro 0 (Sl alist_0 list_0 clist_0) list_0]) from (H.sel' [0, 1, 2, 0] rfl rfl))) wn ?_
   rintro _ σ23 ⟨_, ⟨a21, c22, rfl, rfl⟩, H, -⟩
   replace H : Hp S0 σ0 σ23 [Ch.own n0 0 (Sl a21 r18 c22) r18, Ch.bx n0 b1 0 [(I shards_1)] [] [], Ch.bx n0 b3 0 [(I n_2)] [] [], Ch.ro 0 (Sl alist_0 list_0 clist_0) list_0] := H
   obtain ⟨σ24, hw25, H, -⟩ := H.pub 0 rfl (Nat.zero_le _)
   rw [← hw25]; clear hw25
   obtain ⟨r26, hx27, h'⟩ := bind_some h
   clear h
   have h := h'; clear h'
   have hc28 := c_impl_copyItems (alist_0 := a21) (clist_0 := c22) hx27
   refine st_call (cx_call hc28 (ent_f hc28.fn rfl) hn0 (show Hp S0 σ0 _ ([Ch.ro 0 (Sl a21 r18 c22) r18] ++ [Ch.ro 0 (Sl a21 r18 c22) r18, Ch.bx n0 b1 0 [(I shards_1)] [] [], Ch.bx n0 b3 0 [(I n_2)] [] [], Ch.ro 0 (Sl alist_0 list_0 clist_0) list_0]) from (H.sel' [0, 0, 1, 2, 3] rfl rfl))) wn ?_
   rintro _ σ32 ⟨_, ⟨a29, c30, rfl, rfl, ht31⟩, H, -⟩
   replace H : Hp S0 σ0 σ32 [Ch.own n0 n0 (Sl a29 r26 c30) r26, Ch.ro 0 (Sl a21 r18 c22) r18, Ch.bx n0 b1 0 [(I shards_1)] [] [], Ch.bx n0 b3 0 [(I n_2)] [] [], Ch.ro 0 (Sl alist_0 list_0 clist_0) list_0] := H
   refine st (v := (Sl a29 r26 c30)) (rv_assign rfl) ?_
   refine w_end ?_
   refine q_then ?_
   refine c_ret ?_
   obtain rfl := Option.some.inj h
   exact fin_ret (v := (Sl a29 r26 c30)) (results_ok Try.results37 (res_tmp (v := (Sl a29 r26 c30)) rfl res_nil) rfl) ⟨a29, c30, rfl, rfl, ht31⟩ (H.sel' [0] rfl rfl)

theorem c_spec_shardOf {key_0 : Int} {shards_1 : Int}  {r : Int} (h : M.spec_shardOf key_0 shards_1 = some r) :
    Cal2 Try.prog 67 [(I key_0), (I shards_1)] [] (fun n0 v L => v = (I r) ∧ L = []) := by
 refine cal2 (n := 11) Try.func67 rfl rfl rfl rfl ?_
 intro S0 σ0 n0 hn0 H
 unfold M.spec_shardOf at h
 refine c_seq ?_
 refine rg ?_
 refine st (v := (I 0)) (rv_assign rfl) ?_
 refine w_end ?_
 refine q_then ?_
 refine c_seq ?_
 refine rg ?_
 refine st (v := (I key_0)) (rv_move rfl) ?_
 refine st (v := (I (w64 (389 * key_0)))) (rv_mul (a := 389) (b := key_0) rfl rfl) ?_
 refine st (v := (I ((w64 (389 * key_0)).tmod 1009))) (rv_rem (a := (w64 (389 * key_0))) (b := 1009) rfl rfl (by decide)) ?_
 refine st (v := (I shards_1)) (rv_move rfl) ?_
 refine st (v := (I (w64 (((w64 (389 * key_0)).tmod 1009) * shards_1)))) (rv_mul (a := ((w64 (389 * key_0)).tmod 1009)) (b := shards_1) rfl rfl) ?_
 refine st (v := (I (w64 ((w64 (((w64 (389 * key_0)).tmod 1009) * shards_1)).tdiv 1009)))) (rv_quo (a := (w64 (((w64 (389 * key_0)).tmod 1009) * shards_1))) (b := 1009) rfl rfl (by decide)) ?_
 refine st (v := (I (w64 ((w64 (((w64 (389 * key_0)).tmod 1009) * shards_1)).tdiv 1009)))) (rv_assign rfl) ?_
 refine w_end ?_
 refine q_then ?_
 refine c_ret ?_
 obtain rfl := Option.some.inj h
 exact fin_ret (v := (I (w64 ((w64 (((w64 (389 * key_0)).tmod 1009) * shards_1)).tdiv 1009)))) (results_ok Try.results67 (res_tmp (v := (I (w64 ((w64 (((w64 (389 * key_0)).tmod 1009) * shards_1)).tdiv 1009)))) rfl res_nil) rfl) ⟨rfl, rfl⟩ (H.sel' [] rfl rfl)

end Go.Vs
