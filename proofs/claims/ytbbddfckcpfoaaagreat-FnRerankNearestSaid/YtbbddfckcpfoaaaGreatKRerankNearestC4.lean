/- The functions compute what their models say. -/
import Derived.Test.YtbbddfckcpfoaaaGreatKRerankNearestC3
set_option linter.unusedVariables false
set_option linter.unusedSimpArgs false
set_option maxRecDepth 20000
namespace Go.Vs
open Go Go.Proofs
attribute [local irreducible] Code.wp Code.wpIn wpList wpListIn wpQuiet Calls CallsIn

theorem c_impl_validSide {Fq : List (List Int)} {Fr : Option Addr} {Fs : Nat} {r : Bool} (h : M.impl_validSide Fq = some r) :
    Cal2 Tryz.prog 117 [(Sl Fr Fq Fs)] [Ch.ro 0 (Sl Fr Fq Fs) Fq] (fun n0 v L => v = (B r) ∧ L = []) := by
 refine cal2 (n := 23) Tryz.func117 rfl rfl rfl rfl ?_
 intro S0 σ0 n0 hn0 H
 unfold M.impl_validSide at h
 refine c_seq (rg (sa (B false) rfl (w_end (q_then (c_seq (c_seq (rg (sm (Sl Fr Fq Fs) rfl (st (v := (I (Fq.length : Int))) (rv_len Tryz.underlying23 rfl) (st (v := (B ((Fq.length : Int) != 4))) (rv_neq (a := (Fq.length : Int)) (b := 4) rfl rfl) (w_end ?_)))))))))))
 refine q_then ?_
 refine cd_cond ((Fq.length : Int) != 4) rfl (fun hb1 => ?_) (fun hb1 => ?_)
 ·replace h := bif_t hb1 h
  refine c_seq (rg (sa (B false) rfl (w_end (q_then (c_ret (q_then_r ?_))))))
  obtain rfl := sj h
  exact fin_ret (v := (B false)) (results_ok Tryz.results117 (res_tmp (v := (B false)) rfl res_nil) rfl) ⟨rfl, rfl⟩ (H.sel' [] rfl rfl)
 ·replace h := bif_f hb1 h
  refine c_skip (q_then (c_seq (c_seq (rg (sm (Sl Fr Fq Fs) rfl (st (v := (I (Fq.length : Int))) (rv_len Tryz.underlying23 rfl) (sm (I 0) rfl (w_end (q_then ?_)))))))))
  obtain ⟨o2, hj, h'⟩ := bind_some h
  clear h
  refine c_cut (fun e a w => (∃ t, o2 = (.inl t) ∧ e = .normal ∧ ∃ (ρ : Nat → Value) (σ : St), a = fr 23 (updL ρ []) ∧ w = σ.w ∧ Hp S0 σ0 σ []) ∨ (∃ t, o2 = (.inr t) ∧ e = .ret ∧ ∃ (ρ : Nat → Value) (σ : St), a = fr 23 (updL ρ [(2, (B t))]) ∧ w = σ.w ∧ Hp S0 σ0 σ [])) ?_ ?_
  ·clear h'
   rename _ = some o2 => h
   refine c_blk (wp_loopM _ h (fun s3 a w => ∃ (ρ : Nat → Value) (σ : St), a = fr 23 (updL ρ [(8, (Sl Fr Fq Fs)), (9, (I (Fq.length : Int))), (10, (I s3))]) ∧ w = σ.w ∧ Hp S0 σ0 σ [Ch.ro 0 (Sl Fr Fq Fs) Fq]) ⟨_, σ0, fr_join ⟨rfl, rfl, rfl, trivial⟩, rfl, H.sel' [0] rfl rfl⟩ ?_)
   clear h H
   rintro s3 a w o ⟨ρ, σ4, rfl, rfl, H⟩ h hres
   refine c_seq (rg (st (v := (B (decide (s3 < (Fq.length : Int))))) (rv_lss (a := s3) (b := (Fq.length : Int)) rfl rfl) (w_end (q_then (c_seq ?_)))))
   refine cd_cond (decide (s3 < (Fq.length : Int))) rfl (fun hb5 => ?_) (fun hb5 => ?_)
   ·replace h := bif_t hb5 h
    refine c_skip (q_then (c_seq (c_blk (c_seq (rg ?_)))))
    revert h; refine br fun x6 hx7 h => ?_
    obtain ⟨b9, o10, hi8, -⟩ := (H.ro 0 rfl).ix hx7
    refine st (v := (pt b9 o10)) (rv_ix Tryz.underlying23 ti27 rfl rfl hi8) ?_
    obtain ⟨v14, hc15, hR13⟩ := ((H.ro 0 rfl).at hx7 hi8).slice
    obtain ⟨a11, c12, rfl⟩ := hR13.isSl
    replace H := H.add (d := Ch.ro 0 (Sl a11 x6 c12) x6) hR13 (fun _ h => h)
    clear hR13
    refine st (v := (Sl a11 x6 c12)) (rv_load1 Tryz.underlying27 rfl rfl hc15) (sa (Sl a11 x6 c12) rfl (w_end (q_then (c_seq ?_))))
    obtain ⟨o16, hj, h'⟩ := bind_some h
    clear h
    refine c_cut (fun e a w => e = .normal ∧ ∃ (ρ : Nat → Value) (σ : St), a = fr 23 (updL ρ [(8, (Sl Fr Fq Fs)), (9, (I (Fq.length : Int))), (10, (I s3)), (21, (B o16))]) ∧ w = σ.w ∧ Hp S0 σ0 σ [Ch.ro 0 (Sl Fr Fq Fs) Fq]) ?_ ?_
    ·clear h'
     rename _ = some o16 => h
     refine rg (sm (Sl a11 x6 c12) rfl (st (v := (I (x6.length : Int))) (rv_len Tryz.underlying27 rfl) (st (v := (B ((x6.length : Int) != 2))) (rv_neq (a := (x6.length : Int)) (b := 2) rfl rfl) (sm (B ((x6.length : Int) != 2)) rfl ?_))))
     rcases Bool.eq_false_or_eq_true ((x6.length : Int) != 2) with hb17 | hb17
     ·replace h := bif_t hb17 h
      refine st_skip (congrArg some hb17) (st_skip (congrArg some hb17) (st_skip (congrArg some hb17) (st (v := (B true)) (rv_pick_t (congrArg B hb17) rfl) (w_end ?_))))
      obtain rfl := sj h
      exact ⟨rfl, _, σ4, fr_join ⟨rfl, rfl, rfl, rfl, trivial⟩, rfl, H.sel' [1] rfl rfl⟩
     ·replace h := bif_f hb17 h
      refine st_g (v := (Sl a11 x6 c12)) (congrArg some hb17) (rv_move rfl) ?_
      revert h; refine br fun r18 hx19 h => ?_
      have hc20 := c_impl_validCoords (Ai := a11) (Aj := c12) hx19
      refine st_call (cx_call hc20 (ent_f hc20.fn rfl) hn0 (H.sel' [0, 0, 1] rfl rfl : Hp S0 σ0 _ ([_] ++ _))) (wanted_yes rfl (by exact (congrArg some hb17))) ?_
      rintro _ σ21 ⟨_, ⟨rfl, rfl⟩, H, -⟩
      replace H : Hp _ _ _ [_, _] := H
      refine st_g (v := (B (!r18))) (congrArg some hb17) (rv_not rfl) (st (v := (B (!r18))) (rv_pick_f (congrArg B hb17) rfl) (w_end ?_))
      obtain rfl := sj h
      exact ⟨rfl, _, σ21, fr_join ⟨rfl, rfl, rfl, rfl, trivial⟩, rfl, H.sel' [1] rfl rfl⟩
    ·clear hj
     have h := h'
     clear h' H
     rintro e a w ⟨rfl, ρ, σ22, rfl, rfl, H⟩
     refine q_then ?_
     refine cd_cond o16 rfl (fun hb23 => ?_) (fun hb23 => ?_)
     ·replace h := bif_t hb23 h
      refine c_seq (rg (sa (B false) rfl (w_end (q_then (c_ret (q_blk_r (q_then_r (q_then_r (q_blk_r ?_)))))))))
      obtain rfl := sj h
      obtain rfl := hres _ rfl
      exact .inr (⟨_, rfl, rfl, _, σ22, fr_join ⟨rfl, trivial⟩, rfl, H.sel' [] rfl rfl⟩)
     ·replace h := bif_f hb23 h
      refine c_skip (q_blk (q_then (rg (st (v := (I (w64 (s3 + 1)))) (rv_add (a := s3) (b := 1) rfl rfl) (sm (I (w64 (s3 + 1))) rfl (w_end (q_then ?_)))))))
      obtain rfl := sj h
      exact ⟨_, rfl, _, σ22, fr_join ⟨rfl, rfl, rfl, trivial⟩, rfl, H.sel' [0] rfl rfl⟩
   ·replace h := bif_f hb5 h
    refine c_exit (q_then_x (q_then_x (q_blk_hit ?_)))
    obtain rfl := sj h
    obtain rfl := hres _ rfl
    exact .inl ⟨_, rfl, rfl, _, σ4, fr_join trivial, rfl, H.sel' [] rfl rfl⟩
  ·clear hj
   have h := h'
   clear h' H
   rintro e a w (⟨t24, rfl, rfl, ρ, σ25, rfl, rfl, H⟩ | ⟨t26, rfl, rfl, ρ, σ27, rfl, rfl, H⟩)
   ·replace h := selim_l h
    refine q_then (c_seq (rg (sa (B true) rfl (w_end (q_then (c_ret ?_))))))
    obtain rfl := sj h
    exact fin_ret (v := (B true)) (results_ok Tryz.results117 (res_tmp (v := (B true)) rfl res_nil) rfl) ⟨rfl, rfl⟩ (H.sel' [] rfl rfl)
   ·replace h := selim_r h
    refine q_then_r ?_
    obtain rfl := sj h
    exact fin_ret (v := (B t26)) (results_ok Tryz.results117 (res_tmp (v := (B t26)) rfl res_nil) rfl) ⟨rfl, rfl⟩ (H.sel' [] rfl rfl)

theorem c_impl_ValidBook {Ft : (List (List Int)) × (List (List Int))} {Fu : Option Addr} {Fv : Nat} {Fw : Option Addr} {Fx : Nat} {r : Bool} (h : M.impl_ValidBook Ft = some r) :
    Cal2 Tryz.prog 53 [(.agg #[(Sl Fu Ft.1 Fv), (Sl Fw Ft.2 Fx)])] [Ch.ro 0 (Sl Fu Ft.1 Fv) Ft.1, Ch.ro 0 (Sl Fw Ft.2 Fx) Ft.2] (fun n0 v L => v = (B r) ∧ L = []) := by
 refine cal2 (n := 11) Tryz.func53 rfl rfl rfl rfl ?_
 intro S0 σ0 n0 hn0 H
 unfold M.impl_ValidBook at h
 refine c_seq (rg (st_ex (ex_box (cs := [(Sl Fu Ft.1 Fv), (Sl Fw Ft.2 Fx)]) H hn0 rfl rfl) wn ?_))
 rintro _ σ2 ⟨b1, rfl, H, -⟩
 refine sa (B false) rfl (w_end (q_then (c_seq (rg (st (v := (pt b1 0)) (rv_fieldAddr (off := 0) (ft := 23) Tryz.underlying25 rfl ti23 rfl rfl) ?_)))))
 have hc3 := H.cell (u := (Sl Fu Ft.1 Fv)) (o' := 0) 0 0 rfl rfl rfl
 refine st (v := (Sl Fu Ft.1 Fv)) (rv_load1 Tryz.underlying23 rfl rfl hc3) ?_
 revert h; refine br fun r4 hx5 h => ?_
 have hc6 := c_impl_validSide (Fr := Fu) (Fs := Fv) hx5
 refine st_call (cx_call hc6 (ent_f hc6.fn rfl) hn0 (H.sel' [1, 0, 1, 2] rfl rfl : Hp S0 σ0 _ ([_] ++ _))) wn ?_
 rintro _ σ7 ⟨_, ⟨rfl, rfl⟩, H, -⟩
 replace H : Hp _ _ _ [_, _, _] := H
 refine sm (B r4) rfl ?_
 rcases Bool.eq_false_or_eq_true r4 with hb8 | hb8
 ·replace h := bif_t hb8 h
  refine st_g (v := (pt b1 1)) (congrArg some hb8) (rv_fieldAddr (off := 1) (ft := 23) Tryz.underlying25 rfl ti23 rfl rfl) ?_
  have hc9 := H.cell (u := (Sl Fw Ft.2 Fx)) (o' := 1) 0 1 rfl rfl rfl
  refine st_g (v := (Sl Fw Ft.2 Fx)) (congrArg some hb8) (rv_load1 Tryz.underlying23 rfl rfl hc9) ?_
  revert h; refine br fun r10 hx11 h => ?_
  have hc12 := c_impl_validSide (Fr := Fw) (Fs := Fx) hx11
  refine st_call (cx_call hc12 (ent_f hc12.fn rfl) hn0 (H.sel' [2, 0, 1, 2] rfl rfl : Hp S0 σ0 _ ([_] ++ _))) (wanted_yes rfl (by exact (congrArg some hb8))) ?_
  rintro _ σ13 ⟨_, ⟨rfl, rfl⟩, H, -⟩
  replace H : Hp _ _ _ [_, _, _] := H
  refine st (v := (B r10)) (rv_pick_t (congrArg B hb8) rfl) (sa (B r10) rfl (w_end (q_then (c_ret ?_))))
  obtain rfl := sj h
  exact fin_ret (v := (B r10)) (results_ok Tryz.results53 (res_tmp (v := (B r10)) rfl res_nil) rfl) ⟨rfl, rfl⟩ (H.sel' [] rfl rfl)
 ·replace h := bif_f hb8 h
  refine st_skip (congrArg some hb8) (st_skip (congrArg some hb8) (st_skip (congrArg some hb8) (st (v := (B false)) (rv_pick_f (congrArg B hb8) rfl) (sa (B false) rfl (w_end (q_then (c_ret ?_)))))))
  obtain rfl := sj h
  exact fin_ret (v := (B false)) (results_ok Tryz.results53 (res_tmp (v := (B false)) rfl res_nil) rfl) ⟨rfl, rfl⟩ (H.sel' [] rfl rfl)

theorem c_impl_tableOf {Fq : List (List Int)} {Fy : List Int} {Fr : Option Addr} {Fs : Nat} {Ga : Option Addr} {Gb : Nat} {r : (List Int)} (h : M.impl_tableOf Fq Fy = some r) :
    Cal2 Tryz.prog 128 [(Sl Fr Fq Fs), (Sl Ga Fy Gb)] [Ch.ro 0 (Sl Fr Fq Fs) Fq, Ch.ro 0 (Sl Ga Fy Gb) Fy] (fun n0 v L => v = (.agg (List.map I r).toArray) ∧ L = [] ∧ r.length = 4) := by
 refine cal2 (n := 45) Tryz.func128 rfl rfl rfl rfl ?_
 intro S0 σ0 n0 hn0 H
 unfold M.impl_tableOf at h
 refine c_seq (rg (st_ex (ex_alloc (cs := (List.map I (List.replicate 4 0))) H hn0 ti90 rfl) wn ?_))
 rintro _ σ2 ⟨b1, rfl, H, -⟩
 refine w_end (q_then (c_seq (rg (st_ex (ex_alloc (cs := (List.map I (List.replicate 4 0))) H hn0 ti90 rfl) wn ?_))))
 rintro _ σ4 ⟨b3, rfl, H, -⟩
 refine w_end (q_then (c_seq (c_seq (rg (sm (Sl Fr Fq Fs) rfl (st (v := (I (Fq.length : Int))) (rv_len Tryz.underlying23 rfl) (sm (I 0) rfl (w_end (q_then ?_)))))))))
 obtain ⟨o5, hj, h'⟩ := bind_some h
 clear h
 refine c_cut (fun e a w => e = .normal ∧ ∃ (ρ : Nat → Value) (σ : St), a = fr 45 (updL ρ [(4, (pt b1 0)), (5, (pt b3 0))]) ∧ w = σ.w ∧ Hp S0 σ0 σ [Ch.bx n0 b3 0 (List.map I o5) [] [], Ch.bx n0 b1 0 (List.map I (List.replicate 4 0)) [] []] ∧ o5.length = 4) ?_ ?_
 ·clear h'
  rename _ = some o5 => h
  refine c_blk (wp_loopM _ h (fun s6 a w => ∃ (ρ : Nat → Value) (σ : St), a = fr 45 (updL ρ [(1, (Sl Ga Fy Gb)), (4, (pt b1 0)), (5, (pt b3 0)), (10, (Sl Fr Fq Fs)), (11, (I (Fq.length : Int))), (12, (I s6.2))]) ∧ w = σ.w ∧ Hp S0 σ0 σ [Ch.bx n0 b3 0 (List.map I s6.1) [] [], Ch.ro 0 (Sl Ga Fy Gb) Fy, Ch.bx n0 b1 0 (List.map I (List.replicate 4 0)) [] [], Ch.ro 0 (Sl Fr Fq Fs) Fq] ∧ s6.1.length = 4) ⟨_, σ4, fr_join ⟨rfl, rfl, rfl, rfl, rfl, rfl, trivial⟩, rfl, H.sel' [0, 3, 1, 2] rfl rfl, rfl⟩ ?_)
  clear h H
  rintro s6 a w o ⟨ρ, σ7, rfl, rfl, H, hl8⟩ h hres
  refine c_seq (rg (st (v := (B (decide (s6.2 < (Fq.length : Int))))) (rv_lss (a := s6.2) (b := (Fq.length : Int)) rfl rfl) (w_end (q_then (c_seq ?_)))))
  refine cd_cond (decide (s6.2 < (Fq.length : Int))) rfl (fun hb9 => ?_) (fun hb9 => ?_)
  ·replace h := bif_t hb9 h
   refine c_skip (q_then (c_seq (c_blk (c_seq (rg (sm (I s6.2) rfl ?_))))))
   revert h; refine br fun x10 hx11 h => ?_
   obtain ⟨b13, o14, hi12, -⟩ := (H.ro 3 rfl).ix hx11
   refine st (v := (pt b13 o14)) (rv_ix Tryz.underlying23 ti27 rfl rfl hi12) ?_
   obtain ⟨v18, hc19, hR17⟩ := ((H.ro 3 rfl).at hx11 hi12).slice
   obtain ⟨a15, c16, rfl⟩ := hR17.isSl
   replace H := H.add (d := Ch.ro 0 (Sl a15 x10 c16) x10) hR17 (fun _ h => h)
   clear hR17
   refine st (v := (Sl a15 x10 c16)) (rv_load1 Tryz.underlying27 rfl rfl hc19) (sa (I s6.2) rfl (sa (Sl a15 x10 c16) rfl (w_end (q_then (c_seq (rg (sm (Sl Ga Fy Gb) rfl (st (v := (I (Fy.length : Int))) (rv_len Tryz.underlying27 rfl) (sm (I 0) rfl (w_end (q_then ?_)))))))))))
   obtain ⟨o20, hj, h'⟩ := bind_some h
   clear h
   refine c_cut (fun e a w => e = .normal ∧ ∃ (ρ : Nat → Value) (σ : St), a = fr 45 (updL ρ [(1, (Sl Ga Fy Gb)), (4, (pt b1 0)), (5, (pt b3 0)), (10, (Sl Fr Fq Fs)), (11, (I (Fq.length : Int))), (12, (I s6.2))]) ∧ w = σ.w ∧ Hp S0 σ0 σ [Ch.bx n0 b3 0 (List.map I o20) [] [], Ch.ro 0 (Sl Ga Fy Gb) Fy, Ch.bx n0 b1 0 (List.map I (List.replicate 4 0)) [] [], Ch.ro 0 (Sl Fr Fq Fs) Fq] ∧ o20.length = 4) ?_ ?_
   ·clear h'
    rename _ = some o20 => h
    refine c_blk (wp_loopM _ h (fun s21 a w => ∃ (ρ : Nat → Value) (σ : St), a = fr 45 (updL ρ [(1, (Sl Ga Fy Gb)), (4, (pt b1 0)), (5, (pt b3 0)), (6, (I s6.2)), (7, (Sl a15 x10 c16)), (10, (Sl Fr Fq Fs)), (11, (I (Fq.length : Int))), (12, (I s6.2)), (17, (Sl Ga Fy Gb)), (18, (I (Fy.length : Int))), (19, (I s21.2))]) ∧ w = σ.w ∧ Hp S0 σ0 σ [Ch.bx n0 b3 0 (List.map I s21.1) [] [], Ch.ro 0 (Sl Ga Fy Gb) Fy, Ch.bx n0 b1 0 (List.map I (List.replicate 4 0)) [] [], Ch.ro 0 (Sl a15 x10 c16) x10, Ch.ro 0 (Sl Fr Fq Fs) Fq] ∧ s21.1.length = 4) ⟨_, σ7, fr_join ⟨rfl, rfl, rfl, rfl, rfl, rfl, rfl, rfl, rfl, rfl, rfl, trivial⟩, rfl, H.sel' [1, 2, 3, 0, 4] rfl rfl, hl8⟩ ?_)
    clear h H
    rintro s21 a w o ⟨ρ, σ22, rfl, rfl, H, hl23⟩ h hres
    refine c_seq (rg (st (v := (B (decide (s21.2 < (Fy.length : Int))))) (rv_lss (a := s21.2) (b := (Fy.length : Int)) rfl rfl) (w_end (q_then (c_seq ?_)))))
    refine cd_cond (decide (s21.2 < (Fy.length : Int))) rfl (fun hb24 => ?_) (fun hb24 => ?_)
    ·replace h := bif_t hb24 h
     refine c_skip (q_then (c_seq (c_blk (c_seq (rg (sm (I s21.2) rfl ?_))))))
     revert h; refine br fun x25 hx26 h => ?_
     obtain ⟨b28, o29, hi27, -⟩ := (H.ro 1 rfl).ix hx26
     refine st (v := (pt b28 o29)) (rv_ix Tryz.underlying27 ti3 rfl rfl hi27) ?_
     have hc30 := ((H.ro 1 rfl).at hx26 hi27).int
     refine st (v := (I x25)) (rv_load1 Tryz.underlying3 rfl rfl hc30) (sa (I s21.2) rfl (sa (I x25) rfl (w_end (q_then ?_))))
     refine rgP (σ := σ22) 16 (by kernel_rfl) (by kernel_rfl) (by kernel_rfl) ?_
     refine sq (v := (I s6.2)) (rv_move rfl) ?_
     revert h; refine br fun x31 hx32 h => ?_
     have hl33 := gidx_lt hx32 hl23
     refine sq (v := (pt b3 (0 + s6.2.toNat * 1))) (rv_indexAddr_array Tryz.underlying90 ti3 rfl rfl hl33.1 hl33.2) ?_
     have hc34 := Hp.arrCell H 0 rfl hx32
     refine sq (v := (I x31)) (rv_load1 Tryz.underlying3 rfl rfl hc34) (sq (v := (I x25)) (rv_move rfl) (sq (v := (Sl a15 x10 c16)) (rv_move rfl) (sq (v := (I s21.2)) (rv_move rfl) ?_)))
     revert h; refine br fun x35 hx36 h => ?_
     obtain ⟨b38, o39, hi37, -⟩ := (H.ro 3 rfl).ix hx36
     refine sq (v := (pt b38 o39)) (rv_ix Tryz.underlying27 ti3 rfl rfl hi37) ?_
     have hc40 := ((H.ro 3 rfl).at hx36 hi37).int
     refine sq (v := (I x35)) (rv_load1 Tryz.underlying3 rfl rfl hc40) (sq (v := (I (w64 (x25 - x35)))) (rv_sub (a := x25) (b := x35) rfl rfl) (sq (v := (I x25)) (rv_move rfl) (sq (v := (Sl a15 x10 c16)) (rv_move rfl) (sq (v := (I s21.2)) (rv_move rfl) ?_))))
     revert h; refine br fun x41 hx42 h => ?_
     obtain ⟨b44, o45, hi43, -⟩ := (H.ro 3 rfl).ix hx42
     refine sq (v := (pt b44 o45)) (rv_ix Tryz.underlying27 ti3 rfl rfl hi43) ?_
     have hc46 := ((H.ro 3 rfl).at hx42 hi43).int
     refine sq (v := (I x41)) (rv_load1 Tryz.underlying3 rfl rfl hc46) (sq (v := (I (w64 (x25 - x41)))) (rv_sub (a := x25) (b := x41) rfl rfl) (sq (v := (I (w64 ((w64 (x25 - x35)) * (w64 (x25 - x41)))))) (rv_mul (a := (w64 (x25 - x35))) (b := (w64 (x25 - x41))) rfl rfl) (sq_end ?_)))
     intro σ47 hm48
     replace H := H.grow (hm48.mono fun _ h => h); clear hm48
     refine st (v := (I (w64 (x31 + (w64 ((w64 (x25 - x35)) * (w64 (x25 - x41)))))))) (rv_add (a := x31) (b := (w64 ((w64 (x25 - x35)) * (w64 (x25 - x41))))) rfl rfl) ?_
     revert h; refine br fun x49 hx50 h => ?_
     have hl51 := gidx_lt hx50 hl23
     refine st (v := (pt b3 (0 + s6.2.toNat * 1))) (rv_indexAddr_array Tryz.underlying90 ti3 rfl rfl hl51.1 hl51.2) ?_
     have hl52 := gidx_lt hx50 hl23
     refine st_exS (ex_store_box (k := s6.2.toNat * 1) (vs := [(I (w64 (x31 + (w64 ((w64 (x25 - x35)) * (w64 (x25 - x41)))))))]) (cs' := (List.map I (s21.1.set s6.2.toNat (w64 (x31 + (w64 ((w64 (x25 - x35)) * (w64 (x25 - x41))))))))) H (i := 0) rfl ti3 rfl rfl rfl rfl rfl (by rw [List.length_map, hl23]; simp; omega) (by simp [plain]) (arr_set' _ _ _)) wn ?_
     rintro σ53 ⟨H, -⟩
     refine w_end (q_blk (q_then (rg (st (v := (I (w64 (s21.2 + 1)))) (rv_add (a := s21.2) (b := 1) rfl rfl) (sm (I (w64 (s21.2 + 1))) rfl (w_end (q_then ?_)))))))
     obtain rfl := sj h
     exact ⟨_, rfl, _, σ53, fr_join ⟨rfl, rfl, rfl, rfl, rfl, rfl, rfl, rfl, rfl, rfl, rfl, trivial⟩, rfl, H.sel' [0, 1, 2, 3, 4] rfl rfl, (set_len hl23)⟩
    ·replace h := bif_f hb24 h
     refine c_exit (q_then_x (q_then_x (q_blk_hit ?_)))
     obtain rfl := sj h
     obtain rfl := hres _ rfl
     exact ⟨rfl, _, σ22, fr_join ⟨rfl, rfl, rfl, rfl, rfl, rfl, trivial⟩, rfl, H.sel' [0, 1, 2, 4] rfl rfl, hl23⟩
   ·clear hj
    have h := h'
    clear h' H
    rintro e a w ⟨rfl, ρ, σ54, rfl, rfl, H, hl55⟩
    refine q_blk (q_then (rg (st (v := (I (w64 (s6.2 + 1)))) (rv_add (a := s6.2) (b := 1) rfl rfl) (sm (I (w64 (s6.2 + 1))) rfl (w_end (q_then ?_))))))
    obtain rfl := sj h
    exact ⟨_, rfl, _, σ54, fr_join ⟨rfl, rfl, rfl, rfl, rfl, rfl, trivial⟩, rfl, H.sel' [0, 1, 2, 3] rfl rfl, hl55⟩
  ·replace h := bif_f hb9 h
   refine c_exit (q_then_x (q_then_x (q_blk_hit ?_)))
   obtain rfl := sj h
   obtain rfl := hres _ rfl
   exact ⟨rfl, _, σ7, fr_join ⟨rfl, rfl, trivial⟩, rfl, H.sel' [0, 2] rfl rfl, hl8⟩
 ·clear hj
  have h := h'
  clear h' H
  rintro e a w ⟨rfl, ρ, σ56, rfl, rfl, H, hl57⟩
  refine q_then (c_seq (rg ?_))
  have hc58 := H.cells 0 rfl
  refine st (v := (.agg (List.map I o5).toArray)) (rv_load (cs := (List.map I o5)) Tryz.underlying90 rfl ti90 rfl (by rw [List.length_map]; exact hl57) hc58) ?_
  refine st_exS (ex_store_box (k := 0) (cs := (List.map I (List.replicate 4 0))) (vs := (List.map I o5)) (cs' := (List.map I o5)) H (i := 1) rfl ti90 rfl rfl rfl rfl ((List.length_map _).trans hl57) (arr_fits (k := 4) hl57 rfl) (plain_ints _) (arr_all (k := 4) hl57 rfl)) wn ?_
  rintro σ59 ⟨H, -⟩
  refine w_end (q_then (c_ret ?_))
  obtain rfl := sj h
  exact fin_ret (v := (.agg (List.map I o5).toArray)) (results_ok Tryz.results128 (res_cell rfl (run_cellRes (cs := (List.map I o5)) Tryz.underlying90 rfl ti90 (by rw [List.length_map]; exact hl57) (H.cells 0 rfl)) res_nil) rfl) ⟨rfl, rfl, hl57⟩ (H.sel' [] rfl rfl)

theorem c_impl_tablesOf {Ft : (List (List Int)) × (List (List Int))} {Gc : List Int} {Fu : Option Addr} {Fv : Nat} {Fw : Option Addr} {Fx : Nat} {Gd : Option Addr} {Ge : Nat} {r : (List Int) × (List Int)} (h : M.impl_tablesOf Ft Gc = some r) :
    Cal2 Tryz.prog 67 [(.agg #[(Sl Fu Ft.1 Fv), (Sl Fw Ft.2 Fx)]), (Sl Gd Gc Ge)] [Ch.ro 0 (Sl Fu Ft.1 Fv) Ft.1, Ch.ro 0 (Sl Fw Ft.2 Fx) Ft.2, Ch.ro 0 (Sl Gd Gc Ge) Gc] (fun n0 v L => v = (.tuple #[(.agg (List.map I r.1).toArray), (.agg (List.map I r.2).toArray)]) ∧ L = [] ∧ r.1.length = 4 ∧ r.2.length = 4) := by
 refine cal2 (n := 16) Tryz.func67 rfl rfl rfl rfl ?_
 intro S0 σ0 n0 hn0 H
 unfold M.impl_tablesOf at h
 refine c_seq (rg (st_ex (ex_box (cs := [(Sl Fu Ft.1 Fv), (Sl Fw Ft.2 Fx)]) H hn0 rfl rfl) wn ?_))
 rintro _ σ2 ⟨b1, rfl, H, -⟩
 refine st_ex (ex_alloc (cs := (List.map I (List.replicate 4 0))) H hn0 ti90 rfl) wn ?_
 rintro _ σ4 ⟨b3, rfl, H, -⟩
 refine st_ex (ex_alloc (cs := (List.map I (List.replicate 4 0))) H hn0 ti90 rfl) wn ?_
 rintro _ σ6 ⟨b5, rfl, H, -⟩
 refine w_end (q_then (c_seq ?_))
 have hc7 := H.cell (u := (Sl Fu Ft.1 Fv)) (o' := 0) 2 0 rfl rfl rfl
 revert h; refine br fun xs8 hx9 h => ?_
 obtain ⟨a10, c11, hs12, hR13⟩ := (H.ro 5 rfl).slice hx9
 replace H := H.add (d := Ch.ro 0 (Sl a10 xs8 c11) xs8) hR13 (fun _ h => h)
 clear hR13
 revert h; refine br fun r14 hx15 h => ?_
 have hc16 := c_impl_tableOf (Fr := Fu) (Fs := Fv) (Ga := a10) (Gb := c11) hx15
 have hc18 := H.cell (u := (Sl Fw Ft.2 Fx)) (o' := 1) 3 1 rfl rfl rfl
 revert h; refine br fun xs19 hx20 h => ?_
 obtain ⟨a21, c22, hs23, hR24⟩ := (H.ro 6 rfl).slice hx20
 replace H := H.add (d := Ch.ro 0 (Sl a21 xs19 c22) xs19) hR24 (fun _ h => h)
 clear hR24
 have Hs := H
 refine rg2 (σ := σ6) (Nm := Unit) 9 [4] [[false], [true]] [[(0, 0)], [(0, 0)], [(0, 0)], [(0, 0)], [(0, 1)], [(0, 0), (1, 1)], [(0, 0), (1, 1)], [(0, 0), (1, 1)], [(0, 0), (1, 1)]] 1 [fun _ => fun σm => Hp S0 σ0 σm [Ch.ro 0 (Sl a21 xs19 c22) xs19, Ch.ro 0 (Sl a10 xs8 c11) xs8, Ch.bx n0 b5 0 (List.map I (List.replicate 4 0)) [] [], Ch.bx n0 b3 0 (List.map I (List.replicate 4 0)) [] [], Ch.bx n0 b1 0 [(Sl Fu Ft.1 Fv), (Sl Fw Ft.2 Fx)] [] [], Ch.ro 0 (Sl Fu Ft.1 Fv) Ft.1, Ch.ro 0 (Sl Fw Ft.2 Fx) Ft.2, Ch.ro 0 (Sl Gd Gc Ge) Gc] ∧ Md (cov []) σ6 σm, fun _ => fun σm => Hp S0 σ0 σm [Ch.ro 0 (Sl a21 xs19 c22) xs19, Ch.ro 0 (Sl a10 xs8 c11) xs8, Ch.bx n0 b5 0 (List.map I (List.replicate 4 0)) [] [], Ch.bx n0 b3 0 (List.map I (List.replicate 4 0)) [] [], Ch.bx n0 b1 0 [(Sl Fu Ft.1 Fv), (Sl Fw Ft.2 Fx)] [] [], Ch.ro 0 (Sl Fu Ft.1 Fv) Ft.1, Ch.ro 0 (Sl Fw Ft.2 Fx) Ft.2, Ch.ro 0 (Sl Gd Gc Ge) Gc] ∧ Md (cov []) σ6 σm ∧ r14.length = 4] [fun _ => (pt b1 0), fun _ => (Sl Fu Ft.1 Fv), fun _ => (Sl Gd Gc Ge), fun _ => (Sl a10 xs8 c11), fun _ => (.agg (List.map I r14).toArray), fun _ => (pt b1 1), fun _ => (Sl Fw Ft.2 Fx), fun _ => (Sl Gd Gc Ge), fun _ => (Sl a21 xs19 c22)] () (by kernel_rfl) (by kernel_rfl) ?_ ?_ ?_
 ·intro σm m0
  exact ⟨H.grow (m0.mono fun _ h => h.elim), m0⟩
 ·refine ac rfl (by
    intro k _nm ρ σm hJ hoff hdep
    have e2 := look_off (N := 16) (hoff 2 rfl) rfl
    exact dp_v (v := (pt b1 0)) wn (rv_fieldAddr (off := 0) (ft := 23) Tryz.underlying25 rfl ti23 rfl e2) rfl hJ) ?_
  refine all_cons (by
    refine ⟨?_, ?_⟩
    ·intro _nm ρ σm hJ hoff hdep
     have e6 := hdep 0 rfl rfl 6 rfl
     obtain ⟨H, m⟩ := id hJ
     have hc7 := H.cell (u := (Sl Fu Ft.1 Fv)) (o' := 0) 4 0 rfl rfl rfl
     exact dp_v (v := (Sl Fu Ft.1 Fv)) wn (rv_load1 Tryz.underlying23 rfl e6 hc7) rfl hJ
    trivial) ?_
  refine ac rfl (by
    intro k _nm ρ σm hJ hoff hdep
    have e1 := look_off (N := 16) (hoff 1 rfl) rfl
    exact dp_v (v := (Sl Gd Gc Ge)) wn (rv_move e1) rfl hJ) ?_
  refine ac rfl (by
    intro k _nm ρ σm hJ hoff hdep
    have e8 := hdep 2 rfl rfl 8 rfl
    exact dp_v (v := (Sl a10 xs8 c11)) wn (rv_slice_h Tryz.underlying27 ti3 hs12 e8 rfl) rfl hJ) ?_
  refine all_cons (by
    refine ⟨?_, ?_⟩
    ·intro _nm ρ σm hJ hoff hdep
     have e7 : look 16 ρ 7 = (Sl Fu Ft.1 Fv) := hdep 1 rfl rfl 7 rfl
     have e9 : look 16 ρ 9 = (Sl a10 xs8 c11) := hdep 3 rfl rfl 9 rfl
     obtain ⟨H, m⟩ := id hJ
     refine dp_cx wn (cx_call hc16 (ent_f hc16.fn (by show [look 16 ρ 7, look 16 ρ 9] = _; rw [e7, e9])) hn0 (H.sel' [5, 1, 0, 1, 2, 3, 4, 5, 6, 7] rfl rfl : Hp S0 σ0 _ ([_, _] ++ _))) ?_
     rintro _ σq ⟨_, ⟨rfl, rfl, hl17⟩, H2, m2⟩
     exact ⟨_, (), rfl, rfl, ⟨H2.sel' [0, 1, 2, 3, 4, 5, 6, 7] rfl rfl, m.comp0 (m2.mono (fun i h => by simp [cov, Ch.ro] at h)), hl17⟩, stab [0, 1, 2, 3, 5, 6, 7, 8] (by kernel_rfl) ⟨rfl, rfl, rfl, rfl, rfl, rfl, rfl, rfl, trivial⟩⟩
    trivial) ?_
  refine ac rfl (by
    intro k _nm ρ σm hJ hoff hdep
    have e2 := look_off (N := 16) (hoff 2 rfl) rfl
    exact dp_v (v := (pt b1 1)) wn (rv_fieldAddr (off := 1) (ft := 23) Tryz.underlying25 rfl ti23 rfl e2) rfl hJ) ?_
  refine all_cons (by
    refine ⟨?_, ?_⟩
    ·intro _nm ρ σm hJ hoff hdep
     have e11 := hdep 5 rfl rfl 11 rfl
     obtain ⟨H, m⟩ := id hJ
     have hc18 := H.cell (u := (Sl Fw Ft.2 Fx)) (o' := 1) 4 1 rfl rfl rfl
     exact dp_v (v := (Sl Fw Ft.2 Fx)) wn (rv_load1 Tryz.underlying23 rfl e11 hc18) rfl hJ
    refine ⟨?_, ?_⟩
    ·intro _nm ρ σm hJ hoff hdep
     have e11 := hdep 5 rfl rfl 11 rfl
     obtain ⟨H, m, hl17⟩ := id hJ
     have hc18 := H.cell (u := (Sl Fw Ft.2 Fx)) (o' := 1) 4 1 rfl rfl rfl
     exact dp_v (v := (Sl Fw Ft.2 Fx)) wn (rv_load1 Tryz.underlying23 rfl e11 hc18) rfl hJ
    trivial) ?_
  refine ac rfl (by
    intro k _nm ρ σm hJ hoff hdep
    have e1 := look_off (N := 16) (hoff 1 rfl) rfl
    exact dp_v (v := (Sl Gd Gc Ge)) wn (rv_move e1) rfl hJ) ?_
  refine ac rfl (by
    intro k _nm ρ σm hJ hoff hdep
    have e13 := hdep 7 rfl rfl 13 rfl
    exact dp_v (v := (Sl a21 xs19 c22)) wn (rv_slice_l Tryz.underlying27 ti3 hs23 e13 rfl) rfl hJ) ?_
  exact all_nil
 ·intro _nm ρ σ25 hJ hoff hrel
  have e4 := look_off (N := 16) (hoff 4 rfl) rfl
  have e5 := look_off (N := 16) (hoff 5 rfl) rfl
  have e10 := hrel 4 rfl 10 rfl
  have e12 := hrel 6 rfl 12 rfl
  have e14 := hrel 8 rfl 14 rfl
  obtain ⟨H, -, hl17⟩ := (show Hp S0 σ0 σ25 [Ch.ro 0 (Sl a21 xs19 c22) xs19, Ch.ro 0 (Sl a10 xs8 c11) xs8, Ch.bx n0 b5 0 (List.map I (List.replicate 4 0)) [] [], Ch.bx n0 b3 0 (List.map I (List.replicate 4 0)) [] [], Ch.bx n0 b1 0 [(Sl Fu Ft.1 Fv), (Sl Fw Ft.2 Fx)] [] [], Ch.ro 0 (Sl Fu Ft.1 Fv) Ft.1, Ch.ro 0 (Sl Fw Ft.2 Fx) Ft.2, Ch.ro 0 (Sl Gd Gc Ge) Gc] ∧ Md (cov []) σ6 σ25 ∧ r14.length = 4 from hJ)
  clear hJ Hs
  rw [fr_lookL (L := [(4, (pt b3 0)), (5, (pt b5 0)), (10, (.agg (List.map I r14).toArray)), (12, (Sl Fw Ft.2 Fx)), (14, (Sl a21 xs19 c22))]) ⟨e4, e5, e10, e12, e14, trivial⟩]
  clear hoff hrel e4 e5 e10 e12 e14
  revert h; refine br fun r26 hx27 h => ?_
  have hc28 := c_impl_tableOf (Fr := Fw) (Fs := Fx) (Ga := a21) (Gb := c22) hx27
  refine st_call (cx_call hc28 (ent_f hc28.fn rfl) hn0 (H.sel' [6, 0, 0, 1, 2, 3, 4, 5, 6, 7] rfl rfl : Hp S0 σ0 _ ([_, _] ++ _))) wn ?_
  rintro _ σ30 ⟨_, ⟨rfl, rfl, hl29⟩, H, -⟩
  replace H : Hp _ _ _ [_, _, _, _, _, _, _, _] := H
  replace H : Hp S0 σ0 σ30 [Ch.bx n0 b5 0 (List.map I (List.replicate 4 0)) [] [], Ch.bx n0 b3 0 (List.map I (List.replicate 4 0)) [] []] := H.sel' [2, 3] rfl rfl
  refine st_exS (ex_store_box (k := 0) (cs := (List.map I (List.replicate 4 0))) (vs := (List.map I r14)) (cs' := (List.map I r14)) H (i := 1) rfl ti90 rfl rfl rfl rfl ((List.length_map _).trans hl17) (arr_fits (k := 4) hl17 rfl) (plain_ints _) (arr_all (k := 4) hl17 rfl)) wn ?_
  rintro σ31 ⟨H, -⟩
  refine st_exS (ex_store_box (k := 0) (cs := (List.map I (List.replicate 4 0))) (vs := (List.map I r26)) (cs' := (List.map I r26)) H (i := 1) rfl ti90 rfl rfl rfl rfl ((List.length_map _).trans hl29) (arr_fits (k := 4) hl29 rfl) (plain_ints _) (arr_all (k := 4) hl29 rfl)) wn ?_
  rintro σ32 ⟨H, -⟩
  refine w_end (q_then (c_ret ?_))
  obtain rfl := sj h
  exact fin_ret (v := (.tuple #[(.agg (List.map I r14).toArray), (.agg (List.map I r26).toArray)])) (results_ok Tryz.results67 (res_cell rfl (run_cellRes (cs := (List.map I r14)) Tryz.underlying90 rfl ti90 (by rw [List.length_map]; exact hl17) (H.cells 1 rfl)) (res_cell rfl (run_cellRes (cs := (List.map I r26)) Tryz.underlying90 rfl ti90 (by rw [List.length_map]; exact hl29) (H.cells 0 rfl)) res_nil)) rfl) ⟨rfl, rfl, hl17, hl29⟩ (H.sel' [] rfl rfl)

theorem c_impl_CodeDistances {Ft : (List (List Int)) × (List (List Int))} {Gc : List Int} {Fu : Option Addr} {Fv : Nat} {Fw : Option Addr} {Fx : Nat} {Gd : Option Addr} {Ge : Nat} {r : (List Int)} (h : M.impl_CodeDistances Ft Gc = some r) :
    Cal2 Tryz.prog 55 [(.agg #[(Sl Fu Ft.1 Fv), (Sl Fw Ft.2 Fx)]), (Sl Gd Gc Ge)] [Ch.ro 0 (Sl Fu Ft.1 Fv) Ft.1, Ch.ro 0 (Sl Fw Ft.2 Fx) Ft.2, Ch.ro 0 (Sl Gd Gc Ge) Gc] (fun n0 v L => ∃ (az1 : Option Addr), ∃ (cz2 : Nat), v = (Sl az1 r cz2) ∧ L = [Ch.own n0 n0 (Sl az1 r cz2) r]) := by
 refine cal2 (n := 44) Tryz.func55 rfl rfl rfl rfl ?_
 intro S0 σ0 n0 hn0 H
 unfold M.impl_CodeDistances at h
 refine c_seq (rg (st_ex (ex_box (cs := [(Sl Fu Ft.1 Fv), (Sl Fw Ft.2 Fx)]) H hn0 rfl rfl) wn ?_))
 rintro _ σ2 ⟨b1, rfl, H, -⟩
 refine sa (.slice none 0 0) rfl (w_end (q_then (c_seq (c_seq ?_))))
 obtain ⟨o3, hj, h'⟩ := bind_some h
 clear h
 refine c_cut (fun e a w => e = .normal ∧ ∃ (ρ : Nat → Value) (σ : St), a = fr 44 (updL ρ [(1, (Sl Gd Gc Ge)), (2, (pt b1 0)), (19, (B o3))]) ∧ w = σ.w ∧ Hp S0 σ0 σ [Ch.ro 0 (Sl Gd Gc Ge) Gc, Ch.ro 0 (Sl Fu Ft.1 Fv) Ft.1, Ch.ro 0 (Sl Fw Ft.2 Fx) Ft.2, Ch.bx n0 b1 0 [(Sl Fu Ft.1 Fv), (Sl Fw Ft.2 Fx)] [] []]) ?_ ?_
 ·clear h'
  rename _ = some o3 => h
  refine rg ?_
  have hc4 := H.cells 0 rfl
  refine st (v := (.agg #[(Sl Fu Ft.1 Fv), (Sl Fw Ft.2 Fx)])) (rv_load (cs := [(Sl Fu Ft.1 Fv), (Sl Fw Ft.2 Fx)]) Tryz.underlying25 rfl ti25 rfl rfl hc4) ?_
  revert h; refine br fun r5 hx6 h => ?_
  have hc7 := c_impl_ValidBook (Fu := Fu) (Fv := Fv) (Fw := Fw) (Fx := Fx) hx6
  refine st_call (cx_call hc7 (ent_f hc7.fn rfl) hn0 (H.sel' [1, 2, 0, 1, 2, 3] rfl rfl : Hp S0 σ0 _ ([_, _] ++ _))) wn ?_
  rintro _ σ8 ⟨_, ⟨rfl, rfl⟩, H, -⟩
  replace H : Hp _ _ _ [_, _, _, _] := H
  refine st (v := (B (!r5))) (rv_not rfl) (sm (B (!r5)) rfl ?_)
  rcases Bool.eq_false_or_eq_true (!r5) with hb9 | hb9
  ·replace h := bif_t hb9 h
   refine st_skip (congrArg some hb9) (st_skip (congrArg some hb9) (st_skip (congrArg some hb9) (st (v := (B true)) (rv_pick_t (congrArg B hb9) rfl) (w_end ?_))))
   obtain rfl := sj h
   exact ⟨rfl, _, σ8, fr_join ⟨rfl, rfl, rfl, trivial⟩, rfl, H.sel' [3, 1, 2, 0] rfl rfl⟩
  ·replace h := bif_f hb9 h
   refine st_g (v := (Sl Gd Gc Ge)) (congrArg some hb9) (rv_move rfl) ?_
   revert h; refine br fun r10 hx11 h => ?_
   have hc12 := c_impl_ValidVector (Am := Gd) (Ao := Ge) hx11
   refine st_call (cx_call hc12 (ent_f hc12.fn rfl) hn0 (H.sel' [3, 0, 1, 2, 3] rfl rfl : Hp S0 σ0 _ ([_] ++ _))) (wanted_yes rfl (by exact (congrArg some hb9))) ?_
   rintro _ σ13 ⟨_, ⟨rfl, rfl⟩, H, -⟩
   replace H : Hp _ _ _ [_, _, _, _] := H
   refine st_g (v := (B (!r10))) (congrArg some hb9) (rv_not rfl) (st (v := (B (!r10))) (rv_pick_f (congrArg B hb9) rfl) (w_end ?_))
   obtain rfl := sj h
   exact ⟨rfl, _, σ13, fr_join ⟨rfl, rfl, rfl, trivial⟩, rfl, H.sel' [3, 1, 2, 0] rfl rfl⟩
 ·clear hj
  have h := h'
  clear h' H
  rintro e a w ⟨rfl, ρ, σ14, rfl, rfl, H⟩
  refine q_then ?_
  refine cd_cond o3 rfl (fun hb15 => ?_) (fun hb15 => ?_)
  ·replace h := bif_t hb15 h
   refine c_seq (rg (sa (.slice none 0 0) rfl (w_end (q_then (c_ret (q_then_r ?_))))))
   replace H := H.nilOwn Int n0 n0
   obtain rfl := sj h
   exact fin_ret (v := (.slice none 0 0)) (results_ok Tryz.results55 (res_tmp (v := (.slice none 0 0)) rfl res_nil) rfl) ⟨none, 0, rfl, rfl⟩ (H.sel' [0] rfl rfl)
  ·replace h := bif_f hb15 h
   refine c_skip (q_then (c_seq (rg ?_)))
   have hc16 := H.cells 3 rfl
   refine st (v := (.agg #[(Sl Fu Ft.1 Fv), (Sl Fw Ft.2 Fx)])) (rv_load (cs := [(Sl Fu Ft.1 Fv), (Sl Fw Ft.2 Fx)]) Tryz.underlying25 rfl ti25 rfl rfl hc16) (sm (Sl Gd Gc Ge) rfl ?_)
   revert h; refine br fun r17 hx18 h => ?_
   have hc19 := c_impl_tablesOf (Fu := Fu) (Fv := Fv) (Fw := Fw) (Fx := Fx) (Gd := Gd) (Ge := Ge) hx18
   refine st_call (cx_call hc19 (ent_f hc19.fn rfl) hn0 (H.sel' [1, 2, 0, 0, 1, 2, 3] rfl rfl : Hp S0 σ0 _ ([_, _, _] ++ _))) wn ?_
   rintro _ σ22 ⟨_, ⟨rfl, rfl, hl20, hl21⟩, H, -⟩
   replace H : Hp _ _ _ [_, _, _, _] := H
   refine sm (.tuple #[(.agg (List.map I r17.1).toArray), (.agg (List.map I r17.2).toArray)]) rfl (st (v := (.agg (List.map I r17.1).toArray)) (rv_extract rfl rfl) (st (v := (.agg (List.map I r17.2).toArray)) (rv_extract rfl rfl) (st_ex (ex_alloc (cs := (List.map I (List.replicate 4 0))) H hn0 ti90 rfl) wn ?_)))
   rintro _ σ24 ⟨b23, rfl, H, -⟩
   refine st_ex (ex_alloc (cs := (List.map I (List.replicate 4 0))) H hn0 ti90 rfl) wn ?_
   rintro _ σ26 ⟨b25, rfl, H, -⟩
   refine st_exS (ex_store_box (k := 0) (cs := (List.map I (List.replicate 4 0))) (vs := (List.map I r17.1)) (cs' := (List.map I r17.1)) H (i := 1) rfl ti90 rfl rfl rfl rfl ((List.length_map _).trans hl20) (arr_fits (k := 4) hl20 rfl) (plain_ints _) (arr_all (k := 4) hl20 rfl)) wn ?_
   rintro σ27 ⟨H, -⟩
   refine st_exS (ex_store_box (k := 0) (cs := (List.map I (List.replicate 4 0))) (vs := (List.map I r17.2)) (cs' := (List.map I r17.2)) H (i := 1) rfl ti90 rfl rfl rfl rfl ((List.length_map _).trans hl21) (arr_fits (k := 4) hl21 rfl) (plain_ints _) (arr_all (k := 4) hl21 rfl)) wn ?_
   rintro σ28 ⟨H, -⟩
   refine w_end (q_then (c_seq (rg ?_)))
   revert h; refine br fun xs29 hx30 h => ?_
   refine st_ex (ex_makeC (el := n0) (z0 := (0 : Int)) (zs := [(I 0)]) H hn0 Tryz.underlying27 ti3 rfl rfl rfl (by decide) hx30 rfl rfl) wn ?_
   rintro _ σ34 ⟨b31, c32, rfl, H, -⟩
   refine sa (Sl (some ⟨b31, 0, none⟩) xs29 c32) rfl (w_end (q_then (c_seq (c_seq (rg ?_)))))
   have hc35 := H.cells 2 rfl
   refine st (v := (.agg (List.map I r17.1).toArray)) (rv_load (cs := (List.map I r17.1)) Tryz.underlying90 rfl ti90 rfl (by rw [List.length_map]; exact hl20) hc35) ?_
   refine sm (I 0) rfl (w_end (q_then ?_))
   obtain ⟨o36, hj, h'⟩ := bind_some h
   clear h
   refine c_cut (fun e a w => e = .normal ∧ ∃ (ρ : Nat → Value) (σ : St) (aj1 : Option Addr) (cj2 : Nat), a = fr 44 (updL ρ [(7, (Sl aj1 o36 cj2))]) ∧ w = σ.w ∧ Hp S0 σ0 σ [Ch.own n0 n0 (Sl aj1 o36 cj2) o36]) ?_ ?_
   ·clear h'
    rename _ = some o36 => h
    refine c_blk (wp_loopM _ h (fun s37 a w => ∃ (ρ : Nat → Value) (σ : St) (aj1 : Option Addr) (cj2 : Nat), a = fr 44 (updL ρ [(6, (pt b25 0)), (7, (Sl aj1 s37.1 cj2)), (27, (.agg (List.map I r17.1).toArray)), (28, (I s37.2))]) ∧ w = σ.w ∧ Hp S0 σ0 σ [Ch.bx n0 b25 0 (List.map I r17.2) [] [], Ch.own n0 n0 (Sl aj1 s37.1 cj2) s37.1]) ⟨_, σ34, (some ⟨b31, 0, none⟩), c32, fr_join ⟨rfl, rfl, rfl, rfl, trivial⟩, rfl, H.sel' [1, 0] rfl rfl⟩ ?_)
    clear h H
    rintro s37 a w o ⟨ρ, σ38, a39, c40, rfl, rfl, H⟩ h hres
    refine c_seq (rg (st (v := (B (decide (s37.2 < 4)))) (rv_lss (a := s37.2) (b := 4) rfl rfl) (w_end (q_then (c_seq ?_)))))
    refine cd_cond (decide (s37.2 < 4)) rfl (fun hb41 => ?_) (fun hb41 => ?_)
    ·replace h := bif_t hb41 h
     refine c_skip (q_then (c_seq (c_blk (c_seq (rg ?_)))))
     revert h; refine br fun x42 hx43 h => ?_
     refine st (v := (I x42)) (rv_idx Tryz.underlying90 ti3 Tryz.underlying3 rfl rfl hx43 hl20) (sa (I x42) rfl (w_end (q_then (c_seq (rg ?_)))))
     have hc44 := H.cells 0 rfl
     refine st (v := (.agg (List.map I r17.2).toArray)) (rv_load (cs := (List.map I r17.2)) Tryz.underlying90 rfl ti90 rfl (by rw [List.length_map]; exact hl21) hc44) ?_
     refine sm (I 0) rfl (w_end (q_then ?_))
     obtain ⟨o45, hj, h'⟩ := bind_some h
     clear h
     refine c_cut (fun e a w => e = .normal ∧ ∃ (ρ : Nat → Value) (σ : St) (aj1 : Option Addr) (cj2 : Nat), a = fr 44 (updL ρ [(6, (pt b25 0)), (7, (Sl aj1 o45 cj2)), (27, (.agg (List.map I r17.1).toArray)), (28, (I s37.2))]) ∧ w = σ.w ∧ Hp S0 σ0 σ [Ch.bx n0 b25 0 (List.map I r17.2) [] [], Ch.own n0 n0 (Sl aj1 o45 cj2) o45]) ?_ ?_
     ·clear h'
      rename _ = some o45 => h
      refine c_blk (wp_loopM _ h (fun s46 a w => ∃ (ρ : Nat → Value) (σ : St) (aj1 : Option Addr) (cj2 : Nat), a = fr 44 (updL ρ [(6, (pt b25 0)), (7, (Sl aj1 s46.1 cj2)), (9, (I x42)), (27, (.agg (List.map I r17.1).toArray)), (28, (I s37.2)), (31, (.agg (List.map I r17.2).toArray)), (32, (I s46.2))]) ∧ w = σ.w ∧ Hp S0 σ0 σ [Ch.bx n0 b25 0 (List.map I r17.2) [] [], Ch.own n0 n0 (Sl aj1 s46.1 cj2) s46.1]) ⟨_, σ38, a39, c40, fr_join ⟨rfl, rfl, rfl, rfl, rfl, rfl, rfl, trivial⟩, rfl, H.sel' [0, 1] rfl rfl⟩ ?_)
      clear h H
      rintro s46 a w o ⟨ρ, σ47, a48, c49, rfl, rfl, H⟩ h hres
      refine c_seq (rg (st (v := (B (decide (s46.2 < 4)))) (rv_lss (a := s46.2) (b := 4) rfl rfl) (w_end (q_then (c_seq ?_)))))
      refine cd_cond (decide (s46.2 < 4)) rfl (fun hb50 => ?_) (fun hb50 => ?_)
      ·replace h := bif_t hb50 h
       refine c_skip (q_then (c_seq (c_blk (c_seq (rg ?_)))))
       revert h; refine br fun x51 hx52 h => ?_
       refine st (v := (I x51)) (rv_idx Tryz.underlying90 ti3 Tryz.underlying3 rfl rfl hx52 hl21) (sa (I x51) rfl (w_end (q_then (rg (sm (Sl a48 s46.1 c49) rfl (sm (I x42) rfl (sm (I x51) rfl (st (v := (I (w64 (x42 + x51)))) (rv_add (a := x42) (b := x51) rfl rfl) ?_))))))))
       refine st_ex (ex_buildSlice (el := n0) (xs := ([w64 (x42 + x51)] : List Int)) (ps := [(0, (I (w64 (x42 + x51))))]) (cs := [(I (w64 (x42 + x51)))]) H hn0 Tryz.underlying27 ti3 rfl rfl (by kernel_rfl) (.cons (c := [(I (w64 (x42 + x51)))]) rfl (.nil)) rfl) wn ?_
       rintro _ σ54 ⟨b53, rfl, H, -⟩
       revert h; refine br fun xs55 hx56 h => ?_
       refine st_ex (ex_append H (i := 2) rfl Tryz.underlying27 Tryz.underlying27 ti3 rfl rfl (by decide) (H.own 0 rfl).rd hx56 hn0 rfl rfl) wn ?_
       rintro _ σ59 ⟨a57, c58, rfl, H, -⟩
       refine sa (Sl a57 xs55 c58) rfl (w_end (q_blk (q_then (rg (st (v := (I (w64 (s46.2 + 1)))) (rv_add (a := s46.2) (b := 1) rfl rfl) (sm (I (w64 (s46.2 + 1))) rfl (w_end (q_then ?_))))))))
       obtain rfl := sj h
       exact ⟨_, rfl, _, σ59, a57, c58, fr_join ⟨rfl, rfl, rfl, rfl, rfl, rfl, rfl, trivial⟩, rfl, H.sel' [2, 0] rfl rfl⟩
      ·replace h := bif_f hb50 h
       refine c_exit (q_then_x (q_then_x (q_blk_hit ?_)))
       obtain rfl := sj h
       obtain rfl := hres _ rfl
       exact ⟨rfl, _, σ47, a48, c49, fr_join ⟨rfl, rfl, rfl, rfl, trivial⟩, rfl, H.sel' [0, 1] rfl rfl⟩
     ·clear hj
      have h := h'
      clear h' H
      rintro e a w ⟨rfl, ρ, σ60, a61, c62, rfl, rfl, H⟩
      refine q_blk (q_then (rg (st (v := (I (w64 (s37.2 + 1)))) (rv_add (a := s37.2) (b := 1) rfl rfl) (sm (I (w64 (s37.2 + 1))) rfl (w_end (q_then ?_))))))
      obtain rfl := sj h
      exact ⟨_, rfl, _, σ60, a61, c62, fr_join ⟨rfl, rfl, rfl, rfl, trivial⟩, rfl, H.sel' [0, 1] rfl rfl⟩
    ·replace h := bif_f hb41 h
     refine c_exit (q_then_x (q_then_x (q_blk_hit ?_)))
     obtain rfl := sj h
     obtain rfl := hres _ rfl
     exact ⟨rfl, _, σ38, a39, c40, fr_join ⟨rfl, trivial⟩, rfl, H.sel' [1] rfl rfl⟩
   ·clear hj
    have h := h'
    clear h' H
    rintro e a w ⟨rfl, ρ, σ63, a64, c65, rfl, rfl, H⟩
    refine q_then (c_seq (rg (sm (Sl a64 o36 c65) rfl (sa (Sl a64 o36 c65) rfl (w_end (q_then (c_ret ?_)))))))
    obtain rfl := sj h
    exact fin_ret (v := (Sl a64 o36 c65)) (results_ok Tryz.results55 (res_tmp (v := (Sl a64 o36 c65)) rfl res_nil) rfl) ⟨a64, c65, rfl, rfl⟩ (H.sel' [0] rfl rfl)

theorem c_slices_Min_int_int {Ar : List Int} {Dk : Option Addr} {Dm : Nat} {r : Int} (h : M.slices_Min_int_int Ar = some r) :
    Cal2 Tryz.prog 130 [(Sl Dk Ar Dm)] [Ch.ro 0 (Sl Dk Ar Dm) Ar] (fun n0 v L => v = (I r) ∧ L = []) := by
 refine cal2 (n := 25) Tryz.func130 rfl rfl rfl rfl ?_
 intro S0 σ0 n0 hn0 H
 unfold M.slices_Min_int_int at h
 refine c_seq (rg (sa (I 0) rfl (w_end (q_then (c_seq (c_seq (rg (sm (Sl Dk Ar Dm) rfl (st (v := (I (Ar.length : Int))) (rv_len Tryz.underlying27 rfl) (st (v := (B (decide ((Ar.length : Int) < 1)))) (rv_lss (a := (Ar.length : Int)) (b := 1) rfl rfl) (w_end ?_)))))))))))
 refine q_then ?_
 refine cd_cond (decide ((Ar.length : Int) < 1)) rfl (fun hb1 => ?_) (fun hb1 => ?_)
 ·replace h := bif_t hb1 h
  refine rg (st (v := (.iface 9 (.string (ByteArray.mk #[115, 108, 105, 99, 101, 115, 46, 77, 105, 110, 58, 32, 101, 109, 112, 116, 121, 32, 108, 105, 115, 116])))) (rv_makeInterface Tryz.underlying9 rfl rfl) ?_)
  cases h
 ·replace h := bif_f hb1 h
  refine c_skip (q_then (c_seq (rg (sm (Sl Dk Ar Dm) rfl ?_))))
  revert h; refine br fun x2 hx3 h => ?_
  obtain ⟨b5, o6, hi4, -⟩ := (H.ro 0 rfl).ix hx3
  refine st (v := (pt b5 o6)) (rv_ix Tryz.underlying27 ti3 rfl rfl hi4) ?_
  have hc7 := ((H.ro 0 rfl).at hx3 hi4).int
  refine st (v := (I x2)) (rv_load1 Tryz.underlying3 rfl rfl hc7) (sa (I x2) rfl (w_end (q_then (c_seq (c_seq (rg (sa (I 1) rfl (w_end (q_then ?_)))))))))
  obtain ⟨o8, hj, h'⟩ := bind_some h
  clear h
  refine c_cut (fun e a w => e = .normal ∧ ∃ (ρ : Nat → Value) (σ : St), a = fr 25 (updL ρ [(3, (I o8))]) ∧ w = σ.w ∧ Hp S0 σ0 σ []) ?_ ?_
  ·clear h'
   rename _ = some o8 => h
   refine c_blk (wp_loopM _ h (fun s9 a w => ∃ (ρ : Nat → Value) (σ : St), a = fr 25 (updL ρ [(0, (Sl Dk Ar Dm)), (3, (I s9.1)), (4, (I s9.2))]) ∧ w = σ.w ∧ Hp S0 σ0 σ [Ch.ro 0 (Sl Dk Ar Dm) Ar]) ⟨_, σ0, fr_join ⟨rfl, rfl, rfl, trivial⟩, rfl, H.sel' [0] rfl rfl⟩ ?_)
   clear h H
   rintro s9 a w o ⟨ρ, σ10, rfl, rfl, H⟩ h hres
   refine c_seq (c_seq (rg (sm (I s9.2) rfl (sm (Sl Dk Ar Dm) rfl (st (v := (I (Ar.length : Int))) (rv_len Tryz.underlying27 rfl) (st (v := (B (decide (s9.2 < (Ar.length : Int))))) (rv_lss (a := s9.2) (b := (Ar.length : Int)) rfl rfl) (w_end (q_then ?_))))))))
   refine cd_cond (decide (s9.2 < (Ar.length : Int))) rfl (fun hb11 => ?_) (fun hb11 => ?_)
   ·replace h := bif_t hb11 h
    refine c_skip (q_then (c_seq (c_blk (rg (sm (I s9.1) rfl (sm (Sl Dk Ar Dm) rfl (sm (I s9.2) rfl ?_)))))))
    revert h; refine br fun x12 hx13 h => ?_
    obtain ⟨b15, o16, hi14, -⟩ := (H.ro 0 rfl).ix hx13
    refine st (v := (pt b15 o16)) (rv_ix Tryz.underlying27 ti3 rfl rfl hi14) ?_
    have hc17 := ((H.ro 0 rfl).at hx13 hi14).int
    refine st (v := (I x12)) (rv_load1 Tryz.underlying3 rfl rfl hc17) (st (v := (I (min s9.1 x12))) (rv_min rfl rfl) (sa (I (min s9.1 x12)) rfl (w_end (q_blk (q_then (rg (sm (I s9.2) rfl (st (v := (I (w64 (s9.2 + 1)))) (rv_add (a := s9.2) (b := 1) rfl rfl) (sa (I (w64 (s9.2 + 1))) rfl (w_end (q_then ?_)))))))))))
    obtain rfl := sj h
    exact ⟨_, rfl, _, σ10, fr_join ⟨rfl, rfl, rfl, trivial⟩, rfl, H.sel' [0] rfl rfl⟩
   ·replace h := bif_f hb11 h
    refine c_exit (q_then_x (q_then_x (q_blk_hit ?_)))
    obtain rfl := sj h
    obtain rfl := hres _ rfl
    exact ⟨rfl, _, σ10, fr_join ⟨rfl, trivial⟩, rfl, H.sel' [] rfl rfl⟩
  ·clear hj
   have h := h'
   clear h' H
   rintro e a w ⟨rfl, ρ, σ18, rfl, rfl, H⟩
   refine q_then (c_seq (rg (sm (I o8) rfl (sa (I o8) rfl (w_end (q_then (c_ret ?_)))))))
   obtain rfl := sj h
   exact fin_ret (v := (I o8)) (results_ok Tryz.results130 (res_tmp (v := (I o8)) rfl res_nil) rfl) ⟨rfl, rfl⟩ (H.sel' [] rfl rfl)

theorem c_slices_Index_int_int {Cp : List Int} {Gf : Int} {Cq : Option Addr} {Cr : Nat} {r : Int} (h : M.slices_Index_int_int Cp Gf = some r) :
    Cal2 Tryz.prog 129 [(Sl Cq Cp Cr), (I Gf)] [Ch.ro 0 (Sl Cq Cp Cr) Cp] (fun n0 v L => v = (I r) ∧ L = []) := by
 refine cal2 (n := 19) Tryz.func129 rfl rfl rfl rfl ?_
 intro S0 σ0 n0 hn0 H
 unfold M.slices_Index_int_int at h
 refine c_seq (rg (sa (I 0) rfl (w_end (q_then (c_seq (c_seq (rg (sm (Sl Cq Cp Cr) rfl (st (v := (I (Cp.length : Int))) (rv_len Tryz.underlying27 rfl) (sm (I 0) rfl (w_end ?_)))))))))))
 refine q_then ?_
 obtain ⟨o1, hj, h'⟩ := bind_some h
 clear h
 refine c_cut (fun e a w => (∃ t, o1 = (.inl t) ∧ e = .normal ∧ ∃ (ρ : Nat → Value) (σ : St), a = fr 19 (updL ρ []) ∧ w = σ.w ∧ Hp S0 σ0 σ []) ∨ (∃ t, o1 = (.inr t) ∧ e = .ret ∧ ∃ (ρ : Nat → Value) (σ : St), a = fr 19 (updL ρ [(4, (I t))]) ∧ w = σ.w ∧ Hp S0 σ0 σ [])) ?_ ?_
 ·clear h'
  rename _ = some o1 => h
  refine c_blk (wp_loopM _ h (fun s2 a w => ∃ (ρ : Nat → Value) (σ : St), a = fr 19 (updL ρ [(0, (Sl Cq Cp Cr)), (1, (I Gf)), (7, (I (Cp.length : Int))), (8, (I s2))]) ∧ w = σ.w ∧ Hp S0 σ0 σ [Ch.ro 0 (Sl Cq Cp Cr) Cp]) ⟨_, σ0, fr_join ⟨rfl, rfl, rfl, rfl, trivial⟩, rfl, H.sel' [0] rfl rfl⟩ ?_)
  clear h H
  rintro s2 a w o ⟨ρ, σ3, rfl, rfl, H⟩ h hres
  refine c_seq (rg (st (v := (B (decide (s2 < (Cp.length : Int))))) (rv_lss (a := s2) (b := (Cp.length : Int)) rfl rfl) (w_end (q_then (c_seq ?_)))))
  refine cd_cond (decide (s2 < (Cp.length : Int))) rfl (fun hb4 => ?_) (fun hb4 => ?_)
  ·replace h := bif_t hb4 h
   refine c_skip (q_then (c_seq (c_blk (c_seq (rg (sm (I s2) rfl (sa (I s2) rfl (w_end (q_then (c_seq (rg ?_)))))))))))
   refine sm (I Gf) rfl (sm (Sl Cq Cp Cr) rfl (sm (I s2) rfl ?_))
   revert h; refine br fun x5 hx6 h => ?_
   obtain ⟨b8, o9, hi7, -⟩ := (H.ro 0 rfl).ix hx6
   refine st (v := (pt b8 o9)) (rv_ix Tryz.underlying27 ti3 rfl rfl hi7) ?_
   have hc10 := ((H.ro 0 rfl).at hx6 hi7).int
   refine st (v := (I x5)) (rv_load1 Tryz.underlying3 rfl rfl hc10) (st (v := (B (Gf == x5))) (rv_eql (a := Gf) (b := x5) rfl rfl) (w_end (q_then ?_)))
   refine cd_cond (Gf == x5) rfl (fun hb11 => ?_) (fun hb11 => ?_)
   ·replace h := bif_t hb11 h
    refine c_seq (rg (sm (I s2) rfl (sa (I s2) rfl (w_end (q_then (c_ret (q_blk_r (q_then_r (q_then_r (q_blk_r ?_))))))))))
    obtain rfl := sj h
    obtain rfl := hres _ rfl
    exact .inr (⟨_, rfl, rfl, _, σ3, fr_join ⟨rfl, trivial⟩, rfl, H.sel' [] rfl rfl⟩)
   ·replace h := bif_f hb11 h
    refine c_skip (q_blk (q_then (rg (st (v := (I (w64 (s2 + 1)))) (rv_add (a := s2) (b := 1) rfl rfl) (sm (I (w64 (s2 + 1))) rfl (w_end (q_then ?_)))))))
    obtain rfl := sj h
    exact ⟨_, rfl, _, σ3, fr_join ⟨rfl, rfl, rfl, rfl, trivial⟩, rfl, H.sel' [0] rfl rfl⟩
  ·replace h := bif_f hb4 h
   refine c_exit (q_then_x (q_then_x (q_blk_hit ?_)))
   obtain rfl := sj h
   obtain rfl := hres _ rfl
   exact .inl ⟨_, rfl, rfl, _, σ3, fr_join trivial, rfl, H.sel' [] rfl rfl⟩
 ·clear hj
  have h := h'
  clear h' H
  rintro e a w (⟨t12, rfl, rfl, ρ, σ13, rfl, rfl, H⟩ | ⟨t14, rfl, rfl, ρ, σ15, rfl, rfl, H⟩)
  ·replace h := selim_l h
   refine q_then (c_seq (rg (sa (I (-1)) rfl (w_end (q_then (c_ret ?_))))))
   obtain rfl := sj h
   exact fin_ret (v := (I (-1))) (results_ok Tryz.results129 (res_tmp (v := (I (-1))) rfl res_nil) rfl) ⟨rfl, rfl⟩ (H.sel' [] rfl rfl)
  ·replace h := selim_r h
   refine q_then_r ?_
   obtain rfl := sj h
   exact fin_ret (v := (I t14)) (results_ok Tryz.results129 (res_tmp (v := (I t14)) rfl res_nil) rfl) ⟨rfl, rfl⟩ (H.sel' [] rfl rfl)

theorem c_impl_sideTable_nearest {Gg : List Int} (Gh : Gg.length = 4) {r : Int} (h : M.impl_sideTable_nearest Gg = some r) :
    Cal2 Tryz.prog 68 [(.agg (List.map I Gg).toArray)] [] (fun n0 v L => v = (I r) ∧ L = []) := by
 refine cal2 (n := 7) Tryz.func68 rfl rfl rfl rfl ?_
 intro S0 σ0 n0 hn0 H
 unfold M.impl_sideTable_nearest at h
 refine c_seq (rg (st_ex (ex_box (cs := (List.map I Gg)) H hn0 rfl rfl) wn ?_))
 rintro _ σ2 ⟨b1, rfl, H, -⟩
 refine sa (I 0) rfl (w_end (q_then (c_seq ?_)))
 replace H := Hp.arr (el := n0) H (i := 0) rfl Gh
 obtain ⟨σ3, hw4, H, -⟩ := H.pub 0 rfl (Nat.le_refl _)
 rw [← hw4]; clear hw4
 replace H := H.roLow 0 0 rfl (Nat.zero_le _)
 revert h; refine br fun r5 hx6 h => ?_
 have hc7 := c_slices_Min_int_int (Dk := (some ⟨b1, 0, none⟩)) (Dm := 4) hx6
 have Hs := H
 refine rg2 (σ := σ3) (Nm := Unit) 3 [2] [[false], [true]] [[(0, 0), (1, 1)], [(0, 0)], [(0, 1)]] 1 [fun _ => fun σm => Hp S0 σ0 σm [Ch.ro 0 (Sl (some ⟨b1, 0, none⟩) Gg 4) Gg, Ch.ro n0 (Sl (some ⟨b1, 0, none⟩) Gg 4) Gg] ∧ Md (cov []) σ3 σm, fun _ => fun σm => Hp S0 σ0 σm [Ch.ro 0 (Sl (some ⟨b1, 0, none⟩) Gg 4) Gg, Ch.ro n0 (Sl (some ⟨b1, 0, none⟩) Gg 4) Gg] ∧ Md (cov []) σ3 σm] [fun _ => (Sl (some ⟨b1, 0, none⟩) Gg 4), fun _ => (Sl (some ⟨b1, 0, none⟩) Gg 4), fun _ => (I r5)] () (by kernel_rfl) (by kernel_rfl) ?_ ?_ ?_
 ·intro σm m0
  exact ⟨H.grow (m0.mono fun _ h => h.elim), m0⟩
 ·refine ac rfl (by
    intro k _nm ρ σm hJ hoff hdep
    have e1 := look_off (N := 7) (hoff 1 rfl) rfl
    exact dp_v (v := (Sl (some ⟨b1, 0, none⟩) Gg 4)) wn (rv_slice_arrL Tryz.underlying90 ti3 (by decide) e1 Gh) rfl hJ) ?_
  refine ac rfl (by
    intro k _nm ρ σm hJ hoff hdep
    have e1 := look_off (N := 7) (hoff 1 rfl) rfl
    exact dp_v (v := (Sl (some ⟨b1, 0, none⟩) Gg 4)) wn (rv_slice_arrL Tryz.underlying90 ti3 (by decide) e1 Gh) rfl hJ) ?_
  refine all_cons (by
    refine ⟨?_, ?_⟩
    ·intro _nm ρ σm hJ hoff hdep
     have e4 : look 7 ρ 4 = (Sl (some ⟨b1, 0, none⟩) Gg 4) := hdep 1 rfl rfl 4 rfl
     obtain ⟨H, m⟩ := id hJ
     refine dp_cx wn (cx_call hc7 (ent_f hc7.fn (by show [look 7 ρ 4] = _; rw [e4])) hn0 (H.sel' [0, 0, 1] rfl rfl : Hp S0 σ0 _ ([_] ++ _))) ?_
     rintro _ σq ⟨_, ⟨rfl, rfl⟩, H2, m2⟩
     exact ⟨_, (), rfl, rfl, ⟨H2.sel' [0, 1] rfl rfl, m.comp0 (m2.mono (fun i h => by simp [cov, Ch.ro] at h))⟩, stab [0, 1] (by kernel_rfl) ⟨rfl, rfl, trivial⟩⟩
    trivial) ?_
  exact all_nil
 ·intro _nm ρ σ8 hJ hoff hrel
  have e3 := hrel 0 rfl 3 rfl
  have e5 := hrel 2 rfl 5 rfl
  obtain ⟨H, -⟩ := (show Hp S0 σ0 σ8 [Ch.ro 0 (Sl (some ⟨b1, 0, none⟩) Gg 4) Gg, Ch.ro n0 (Sl (some ⟨b1, 0, none⟩) Gg 4) Gg] ∧ Md (cov []) σ3 σ8 from hJ)
  clear hJ Hs
  rw [fr_lookL (L := [(3, (Sl (some ⟨b1, 0, none⟩) Gg 4)), (5, (I r5))]) ⟨e3, e5, trivial⟩]
  clear hoff hrel e3 e5
  replace H := H.roLow 1 0 rfl (Nat.zero_le _)
  revert h; refine br fun r9 hx10 h => ?_
  have hc11 := c_slices_Index_int_int (Cq := (some ⟨b1, 0, none⟩)) (Cr := 4) hx10
  refine st_call (cx_call hc11 (ent_f hc11.fn rfl) hn0 (H.sel' [0, 0, 1, 2] rfl rfl : Hp S0 σ0 _ ([_] ++ _))) wn ?_
  rintro _ σ12 ⟨_, ⟨rfl, rfl⟩, H, -⟩
  replace H : Hp _ _ _ [_, _, _] := H
  refine sa (I r9) rfl (w_end (q_then (c_ret ?_)))
  obtain rfl := sj h
  exact fin_ret (v := (I r9)) (results_ok Tryz.results68 (res_tmp (v := (I r9)) rfl res_nil) rfl) ⟨rfl, rfl⟩ (H.sel' [] rfl rfl)

theorem c_impl_EncodeVector {Ft : (List (List Int)) × (List (List Int))} {Gc : List Int} {Fu : Option Addr} {Fv : Nat} {Fw : Option Addr} {Fx : Nat} {Gd : Option Addr} {Ge : Nat} {r : Int} (h : M.impl_EncodeVector Ft Gc = some r) :
    Cal2 Tryz.prog 18 [(.agg #[(Sl Fu Ft.1 Fv), (Sl Fw Ft.2 Fx)]), (Sl Gd Gc Ge)] [Ch.ro 0 (Sl Fu Ft.1 Fv) Ft.1, Ch.ro 0 (Sl Fw Ft.2 Fx) Ft.2, Ch.ro 0 (Sl Gd Gc Ge) Gc] (fun n0 v L => v = (I r) ∧ L = []) := by
 refine cal2 (n := 27) Tryz.func18 rfl rfl rfl rfl ?_
 intro S0 σ0 n0 hn0 H
 unfold M.impl_EncodeVector at h
 refine c_seq (rg (st_ex (ex_box (cs := [(Sl Fu Ft.1 Fv), (Sl Fw Ft.2 Fx)]) H hn0 rfl rfl) wn ?_))
 rintro _ σ2 ⟨b1, rfl, H, -⟩
 refine sa (I 0) rfl (w_end (q_then (c_seq (c_seq ?_))))
 obtain ⟨o3, hj, h'⟩ := bind_some h
 clear h
 refine c_cut (fun e a w => e = .normal ∧ ∃ (ρ : Nat → Value) (σ : St), a = fr 27 (updL ρ [(1, (Sl Gd Gc Ge)), (2, (pt b1 0)), (14, (B o3))]) ∧ w = σ.w ∧ Hp S0 σ0 σ [Ch.ro 0 (Sl Gd Gc Ge) Gc, Ch.ro 0 (Sl Fu Ft.1 Fv) Ft.1, Ch.ro 0 (Sl Fw Ft.2 Fx) Ft.2, Ch.bx n0 b1 0 [(Sl Fu Ft.1 Fv), (Sl Fw Ft.2 Fx)] [] []]) ?_ ?_
 ·clear h'
  rename _ = some o3 => h
  refine rg ?_
  have hc4 := H.cells 0 rfl
  refine st (v := (.agg #[(Sl Fu Ft.1 Fv), (Sl Fw Ft.2 Fx)])) (rv_load (cs := [(Sl Fu Ft.1 Fv), (Sl Fw Ft.2 Fx)]) Tryz.underlying25 rfl ti25 rfl rfl hc4) ?_
  revert h; refine br fun r5 hx6 h => ?_
  have hc7 := c_impl_ValidBook (Fu := Fu) (Fv := Fv) (Fw := Fw) (Fx := Fx) hx6
  refine st_call (cx_call hc7 (ent_f hc7.fn rfl) hn0 (H.sel' [1, 2, 0, 1, 2, 3] rfl rfl : Hp S0 σ0 _ ([_, _] ++ _))) wn ?_
  rintro _ σ8 ⟨_, ⟨rfl, rfl⟩, H, -⟩
  replace H : Hp _ _ _ [_, _, _, _] := H
  refine st (v := (B (!r5))) (rv_not rfl) (sm (B (!r5)) rfl ?_)
  rcases Bool.eq_false_or_eq_true (!r5) with hb9 | hb9
  ·replace h := bif_t hb9 h
   refine st_skip (congrArg some hb9) (st_skip (congrArg some hb9) (st_skip (congrArg some hb9) (st (v := (B true)) (rv_pick_t (congrArg B hb9) rfl) (w_end ?_))))
   obtain rfl := sj h
   exact ⟨rfl, _, σ8, fr_join ⟨rfl, rfl, rfl, trivial⟩, rfl, H.sel' [3, 1, 2, 0] rfl rfl⟩
  ·replace h := bif_f hb9 h
   refine st_g (v := (Sl Gd Gc Ge)) (congrArg some hb9) (rv_move rfl) ?_
   revert h; refine br fun r10 hx11 h => ?_
   have hc12 := c_impl_ValidVector (Am := Gd) (Ao := Ge) hx11
   refine st_call (cx_call hc12 (ent_f hc12.fn rfl) hn0 (H.sel' [3, 0, 1, 2, 3] rfl rfl : Hp S0 σ0 _ ([_] ++ _))) (wanted_yes rfl (by exact (congrArg some hb9))) ?_
   rintro _ σ13 ⟨_, ⟨rfl, rfl⟩, H, -⟩
   replace H : Hp _ _ _ [_, _, _, _] := H
   refine st_g (v := (B (!r10))) (congrArg some hb9) (rv_not rfl) (st (v := (B (!r10))) (rv_pick_f (congrArg B hb9) rfl) (w_end ?_))
   obtain rfl := sj h
   exact ⟨rfl, _, σ13, fr_join ⟨rfl, rfl, rfl, trivial⟩, rfl, H.sel' [3, 1, 2, 0] rfl rfl⟩
 ·clear hj
  have h := h'
  clear h' H
  rintro e a w ⟨rfl, ρ, σ14, rfl, rfl, H⟩
  refine q_then ?_
  refine cd_cond o3 rfl (fun hb15 => ?_) (fun hb15 => ?_)
  ·replace h := bif_t hb15 h
   refine c_seq (rg (sa (I (-1)) rfl (w_end (q_then (c_ret (q_then_r ?_))))))
   obtain rfl := sj h
   exact fin_ret (v := (I (-1))) (results_ok Tryz.results18 (res_tmp (v := (I (-1))) rfl res_nil) rfl) ⟨rfl, rfl⟩ (H.sel' [] rfl rfl)
  ·replace h := bif_f hb15 h
   refine c_skip (q_then (c_seq (rg ?_)))
   have hc16 := H.cells 3 rfl
   refine st (v := (.agg #[(Sl Fu Ft.1 Fv), (Sl Fw Ft.2 Fx)])) (rv_load (cs := [(Sl Fu Ft.1 Fv), (Sl Fw Ft.2 Fx)]) Tryz.underlying25 rfl ti25 rfl rfl hc16) (sm (Sl Gd Gc Ge) rfl ?_)
   revert h; refine br fun r17 hx18 h => ?_
   have hc19 := c_impl_tablesOf (Fu := Fu) (Fv := Fv) (Fw := Fw) (Fx := Fx) (Gd := Gd) (Ge := Ge) hx18
   refine st_call (cx_call hc19 (ent_f hc19.fn rfl) hn0 (H.sel' [1, 2, 0, 0, 1, 2, 3] rfl rfl : Hp S0 σ0 _ ([_, _, _] ++ _))) wn ?_
   rintro _ σ22 ⟨_, ⟨rfl, rfl, hl20, hl21⟩, H, -⟩
   replace H : Hp _ _ _ [_, _, _, _] := H
   refine sm (.tuple #[(.agg (List.map I r17.1).toArray), (.agg (List.map I r17.2).toArray)]) rfl (st (v := (.agg (List.map I r17.1).toArray)) (rv_extract rfl rfl) (st (v := (.agg (List.map I r17.2).toArray)) (rv_extract rfl rfl) (st_ex (ex_alloc (cs := (List.map I (List.replicate 4 0))) H hn0 ti90 rfl) wn ?_)))
   rintro _ σ24 ⟨b23, rfl, H, -⟩
   refine st_ex (ex_alloc (cs := (List.map I (List.replicate 4 0))) H hn0 ti90 rfl) wn ?_
   rintro _ σ26 ⟨b25, rfl, H, -⟩
   refine st_exS (ex_store_box (k := 0) (cs := (List.map I (List.replicate 4 0))) (vs := (List.map I r17.1)) (cs' := (List.map I r17.1)) H (i := 1) rfl ti90 rfl rfl rfl rfl ((List.length_map _).trans hl20) (arr_fits (k := 4) hl20 rfl) (plain_ints _) (arr_all (k := 4) hl20 rfl)) wn ?_
   rintro σ27 ⟨H, -⟩
   refine st_exS (ex_store_box (k := 0) (cs := (List.map I (List.replicate 4 0))) (vs := (List.map I r17.2)) (cs' := (List.map I r17.2)) H (i := 1) rfl ti90 rfl rfl rfl rfl ((List.length_map _).trans hl21) (arr_fits (k := 4) hl21 rfl) (plain_ints _) (arr_all (k := 4) hl21 rfl)) wn ?_
   rintro σ28 ⟨H, -⟩
   refine w_end (q_then (c_seq ?_))
   have hc29 := H.cells 1 rfl
   revert h; refine br fun r30 hx31 h => ?_
   have hc32 := c_impl_sideTable_nearest hl20 hx31
   have hc33 := H.cells 0 rfl
   revert h; refine br fun r34 hx35 h => ?_
   have hc36 := c_impl_sideTable_nearest hl21 hx35
   have Hs := H
   refine rg2 (σ := σ28) (Nm := Unit) 5 [1, 4] [[false, false], [true, false], [true, true]] [[(0, 0)], [(0, 1)], [(1, 1), (2, 2)], [(0, 0), (1, 1)], [(1, 2)]] 2 [fun _ => fun σm => Hp S0 σ0 σm [Ch.bx n0 b25 0 (List.map I r17.2) [] [], Ch.bx n0 b23 0 (List.map I r17.1) [] [], Ch.ro 0 (Sl Gd Gc Ge) Gc, Ch.ro 0 (Sl Fu Ft.1 Fv) Ft.1, Ch.ro 0 (Sl Fw Ft.2 Fx) Ft.2, Ch.bx n0 b1 0 [(Sl Fu Ft.1 Fv), (Sl Fw Ft.2 Fx)] [] []] ∧ Md (cov []) σ28 σm, fun _ => fun σm => Hp S0 σ0 σm [Ch.bx n0 b25 0 (List.map I r17.2) [] [], Ch.bx n0 b23 0 (List.map I r17.1) [] [], Ch.ro 0 (Sl Gd Gc Ge) Gc, Ch.ro 0 (Sl Fu Ft.1 Fv) Ft.1, Ch.ro 0 (Sl Fw Ft.2 Fx) Ft.2, Ch.bx n0 b1 0 [(Sl Fu Ft.1 Fv), (Sl Fw Ft.2 Fx)] [] []] ∧ Md (cov []) σ28 σm, fun _ => fun σm => Hp S0 σ0 σm [Ch.bx n0 b25 0 (List.map I r17.2) [] [], Ch.bx n0 b23 0 (List.map I r17.1) [] [], Ch.ro 0 (Sl Gd Gc Ge) Gc, Ch.ro 0 (Sl Fu Ft.1 Fv) Ft.1, Ch.ro 0 (Sl Fw Ft.2 Fx) Ft.2, Ch.bx n0 b1 0 [(Sl Fu Ft.1 Fv), (Sl Fw Ft.2 Fx)] [] []] ∧ Md (cov []) σ28 σm] [fun _ => (.agg (List.map I r17.1).toArray), fun _ => (I r30), fun _ => (I (w64 (4 * r30))), fun _ => (.agg (List.map I r17.2).toArray), fun _ => (I r34)] () (by kernel_rfl) (by kernel_rfl) ?_ ?_ ?_
   ·intro σm m0
    exact ⟨H.grow (m0.mono fun _ h => h.elim), m0⟩
   ·refine all_cons (by
      refine ⟨?_, ?_⟩
      ·intro _nm ρ σm hJ hoff hdep
       have e5 := look_off (N := 27) (hoff 5 rfl) rfl
       obtain ⟨H, m⟩ := id hJ
       have hc29 := H.cells 1 rfl
       exact dp_v (v := (.agg (List.map I r17.1).toArray)) wn (rv_load (cs := (List.map I r17.1)) Tryz.underlying90 rfl ti90 e5 (by rw [List.length_map]; exact hl20) hc29) rfl hJ
      trivial) ?_
    refine all_cons (by
      refine ⟨?_, ?_⟩
      ·intro _nm ρ σm hJ hoff hdep
       have e21 : look 27 ρ 21 = (.agg (List.map I r17.1).toArray) := hdep 0 rfl rfl 21 rfl
       obtain ⟨H, m⟩ := id hJ
       refine dp_cx wn (cx_call hc32 (ent_f hc32.fn (by show [look 27 ρ 21] = _; rw [e21])) hn0 (H.sel' [0, 1, 2, 3, 4, 5] rfl rfl : Hp S0 σ0 _ ([] ++ _))) ?_
       rintro _ σq ⟨_, ⟨rfl, rfl⟩, H2, m2⟩
       exact ⟨_, (), rfl, rfl, ⟨H2.sel' [0, 1, 2, 3, 4, 5] rfl rfl, m.comp0 m2⟩, stab [0, 3] (by kernel_rfl) ⟨rfl, rfl, trivial⟩⟩
      trivial) ?_
    refine ac rfl (by
      intro k _nm ρ σm hJ hoff hdep
      have e22 := hdep 1 rfl rfl 22 rfl
      exact dp_v (v := (I (w64 (4 * r30)))) wn (rv_mul (a := 4) (b := r30) rfl e22) rfl hJ) ?_
    refine all_cons (by
      refine ⟨?_, ?_⟩
      ·intro _nm ρ σm hJ hoff hdep
       have e6 := look_off (N := 27) (hoff 6 rfl) rfl
       obtain ⟨H, m⟩ := id hJ
       have hc33 := H.cells 0 rfl
       exact dp_v (v := (.agg (List.map I r17.2).toArray)) wn (rv_load (cs := (List.map I r17.2)) Tryz.underlying90 rfl ti90 e6 (by rw [List.length_map]; exact hl21) hc33) rfl hJ
      refine ⟨?_, ?_⟩
      ·intro _nm ρ σm hJ hoff hdep
       have e6 := look_off (N := 27) (hoff 6 rfl) rfl
       obtain ⟨H, m⟩ := id hJ
       have hc33 := H.cells 0 rfl
       exact dp_v (v := (.agg (List.map I r17.2).toArray)) wn (rv_load (cs := (List.map I r17.2)) Tryz.underlying90 rfl ti90 e6 (by rw [List.length_map]; exact hl21) hc33) rfl hJ
      trivial) ?_
    refine all_cons (by
      refine ⟨?_, ?_⟩
      ·intro _nm ρ σm hJ hoff hdep
       have e24 : look 27 ρ 24 = (.agg (List.map I r17.2).toArray) := hdep 3 rfl rfl 24 rfl
       obtain ⟨H, m⟩ := id hJ
       refine dp_cx wn (cx_call hc36 (ent_f hc36.fn (by show [look 27 ρ 24] = _; rw [e24])) hn0 (H.sel' [0, 1, 2, 3, 4, 5] rfl rfl : Hp S0 σ0 _ ([] ++ _))) ?_
       rintro _ σq ⟨_, ⟨rfl, rfl⟩, H2, m2⟩
       exact ⟨_, (), rfl, rfl, ⟨H2.sel' [0, 1, 2, 3, 4, 5] rfl rfl, m.comp0 m2⟩, stab [0, 1, 2, 3] (by kernel_rfl) ⟨rfl, rfl, rfl, rfl, trivial⟩⟩
      trivial) ?_
    exact all_nil
   ·intro _nm ρ σ37 hJ hoff hrel
    have e23 := hrel 2 rfl 23 rfl
    have e25 := hrel 4 rfl 25 rfl
    obtain ⟨H, -⟩ := (show Hp S0 σ0 σ37 [Ch.bx n0 b25 0 (List.map I r17.2) [] [], Ch.bx n0 b23 0 (List.map I r17.1) [] [], Ch.ro 0 (Sl Gd Gc Ge) Gc, Ch.ro 0 (Sl Fu Ft.1 Fv) Ft.1, Ch.ro 0 (Sl Fw Ft.2 Fx) Ft.2, Ch.bx n0 b1 0 [(Sl Fu Ft.1 Fv), (Sl Fw Ft.2 Fx)] [] []] ∧ Md (cov []) σ28 σ37 from hJ)
    clear hJ Hs
    rw [fr_lookL (L := [(23, (I (w64 (4 * r30)))), (25, (I r34))]) ⟨e23, e25, trivial⟩]
    clear hoff hrel e23 e25
    refine st (v := (I (w64 ((w64 (4 * r30)) + r34)))) (rv_add (a := (w64 (4 * r30))) (b := r34) rfl rfl) (sa (I (w64 ((w64 (4 * r30)) + r34))) rfl (w_end (q_then (c_ret ?_))))
    obtain rfl := sj h
    exact fin_ret (v := (I (w64 ((w64 (4 * r30)) + r34)))) (results_ok Tryz.results18 (res_tmp (v := (I (w64 ((w64 (4 * r30)) + r34)))) rfl res_nil) rfl) ⟨rfl, rfl⟩ (H.sel' [] rfl rfl)

theorem c_impl_CodeNearest_1__p24__p_impl_Book {Ar : Int × (List Int) × Int} {Dy : List Int} {Dz : (List (List Int)) × (List (List Int))} {As : Option Addr} {Au : Nat} {Gi : Option Addr} {Gj : Nat} {Ea Eb Ec : Nat} {Ed Ee : List Value} {Gk : Option Addr} {Gl : Nat} {Gm : Option Addr} {Gn : Nat} {Eh Ei Ej : Nat} {Ek El : List Value} {r : Int} (h : M.impl_CodeNearest_1__p24__p_impl_Book Ar Dy Dz = some r) :
    Cal2 Tryz.prog 57 [(.agg #[(I Ar.1), (Sl As Ar.2.1 Au), (I Ar.2.2)]), (pt Eb Ec), (pt Ei Ej)] [Ch.ro 0 (Sl As Ar.2.1 Au) Ar.2.1, Ch.bx Ea Eb Ec [(Sl Gi Dy Gj)] Ed Ee, Ch.ro 0 (Sl Gi Dy Gj) Dy, Ch.bx Eh Ei Ej [(Sl Gk Dz.1 Gl), (Sl Gm Dz.2 Gn)] Ek El, Ch.ro 0 (Sl Gk Dz.1 Gl) Dz.1, Ch.ro 0 (Sl Gm Dz.2 Gn) Dz.2] (fun n0 v L => v = (I r) ∧ L = [Ch.bx Ea Eb Ec [(Sl Gi Dy Gj)] Ed Ee, Ch.bx Eh Ei Ej [(Sl Gk Dz.1 Gl), (Sl Gm Dz.2 Gn)] Ek El]) := by
 refine cal2 (n := 12) Tryz.func57 rfl rfl rfl rfl ?_
 intro S0 σ0 n0 hn0 H
 unfold M.impl_CodeNearest_1__p24__p_impl_Book at h
 refine c_seq (rg (st_ex (ex_box (cs := [(I Ar.1), (Sl As Ar.2.1 Au), (I Ar.2.2)]) H hn0 rfl rfl) wn ?_))
 rintro _ σ2 ⟨b1, rfl, H, -⟩
 refine sa (I 0) rfl (w_end (q_then (c_seq ?_)))
 have hc3 := H.cell (u := (Sl Gi Dy Gj)) (o' := Ec) 2 0 rfl rfl rfl
 have hc4 := H.cells 4 rfl
 have hc5 := H.cell (u := (Sl As Ar.2.1 Au)) (o' := 1) 0 1 rfl rfl rfl
 revert h; refine br fun r6 hx7 h => ?_
 have hc8 := c_impl_EncodeVector (Fu := Gk) (Fv := Gl) (Fw := Gm) (Fx := Gn) (Gd := As) (Ge := Au) hx7
 have Hs := H
 refine rg2 (σ := σ2) (Nm := Unit) 5 [4] [[false], [true]] [[(0, 0), (1, 1)], [(0, 0)], [(0, 0)], [(0, 0)], [(0, 1)]] 1 [fun _ => fun σm => Hp S0 σ0 σm [Ch.bx n0 b1 0 [(I Ar.1), (Sl As Ar.2.1 Au), (I Ar.2.2)] [] [], Ch.ro 0 (Sl As Ar.2.1 Au) Ar.2.1, Ch.bx Ea Eb Ec [(Sl Gi Dy Gj)] Ed Ee, Ch.ro 0 (Sl Gi Dy Gj) Dy, Ch.bx Eh Ei Ej [(Sl Gk Dz.1 Gl), (Sl Gm Dz.2 Gn)] Ek El, Ch.ro 0 (Sl Gk Dz.1 Gl) Dz.1, Ch.ro 0 (Sl Gm Dz.2 Gn) Dz.2] ∧ Md (cov []) σ2 σm, fun _ => fun σm => Hp S0 σ0 σm [Ch.bx n0 b1 0 [(I Ar.1), (Sl As Ar.2.1 Au), (I Ar.2.2)] [] [], Ch.ro 0 (Sl As Ar.2.1 Au) Ar.2.1, Ch.bx Ea Eb Ec [(Sl Gi Dy Gj)] Ed Ee, Ch.ro 0 (Sl Gi Dy Gj) Dy, Ch.bx Eh Ei Ej [(Sl Gk Dz.1 Gl), (Sl Gm Dz.2 Gn)] Ek El, Ch.ro 0 (Sl Gk Dz.1 Gl) Dz.1, Ch.ro 0 (Sl Gm Dz.2 Gn) Dz.2] ∧ Md (cov []) σ2 σm] [fun _ => (Sl Gi Dy Gj), fun _ => (.agg #[(Sl Gk Dz.1 Gl), (Sl Gm Dz.2 Gn)]), fun _ => (pt b1 1), fun _ => (Sl As Ar.2.1 Au), fun _ => (I r6)] () (by kernel_rfl) (by kernel_rfl) ?_ ?_ ?_
 ·intro σm m0
  exact ⟨H.grow (m0.mono fun _ h => h.elim), m0⟩
 ·refine all_cons (by
    refine ⟨?_, ?_⟩
    ·intro _nm ρ σm hJ hoff hdep
     have e1 := look_off (N := 12) (hoff 1 rfl) rfl
     obtain ⟨H, m⟩ := id hJ
     have hc3 := H.cell (u := (Sl Gi Dy Gj)) (o' := Ec) 2 0 rfl rfl rfl
     exact dp_v (v := (Sl Gi Dy Gj)) wn (rv_load1 Tryz.underlying27 rfl e1 hc3) rfl hJ
    refine ⟨?_, ?_⟩
    ·intro _nm ρ σm hJ hoff hdep
     have e1 := look_off (N := 12) (hoff 1 rfl) rfl
     obtain ⟨H, m⟩ := id hJ
     have hc3 := H.cell (u := (Sl Gi Dy Gj)) (o' := Ec) 2 0 rfl rfl rfl
     exact dp_v (v := (Sl Gi Dy Gj)) wn (rv_load1 Tryz.underlying27 rfl e1 hc3) rfl hJ
    trivial) ?_
  refine all_cons (by
    refine ⟨?_, ?_⟩
    ·intro _nm ρ σm hJ hoff hdep
     have e2 := look_off (N := 12) (hoff 2 rfl) rfl
     obtain ⟨H, m⟩ := id hJ
     have hc4 := H.cells 4 rfl
     exact dp_v (v := (.agg #[(Sl Gk Dz.1 Gl), (Sl Gm Dz.2 Gn)])) wn (rv_load (cs := [(Sl Gk Dz.1 Gl), (Sl Gm Dz.2 Gn)]) Tryz.underlying25 rfl ti25 e2 rfl hc4) rfl hJ
    trivial) ?_
  refine ac rfl (by
    intro k _nm ρ σm hJ hoff hdep
    have e3 := look_off (N := 12) (hoff 3 rfl) rfl
    exact dp_v (v := (pt b1 1)) wn (rv_fieldAddr (off := 1) (ft := 27) Tryz.underlying34 rfl ti27 rfl e3) rfl hJ) ?_
  refine all_cons (by
    refine ⟨?_, ?_⟩
    ·intro _nm ρ σm hJ hoff hdep
     have e7 := hdep 2 rfl rfl 7 rfl
     obtain ⟨H, m⟩ := id hJ
     have hc5 := H.cell (u := (Sl As Ar.2.1 Au)) (o' := 1) 0 1 rfl rfl rfl
     exact dp_v (v := (Sl As Ar.2.1 Au)) wn (rv_load1 Tryz.underlying27 rfl e7 hc5) rfl hJ
    trivial) ?_
  refine all_cons (by
    refine ⟨?_, ?_⟩
    ·intro _nm ρ σm hJ hoff hdep
     have e6 : look 12 ρ 6 = (.agg #[(Sl Gk Dz.1 Gl), (Sl Gm Dz.2 Gn)]) := hdep 1 rfl rfl 6 rfl
     have e8 : look 12 ρ 8 = (Sl As Ar.2.1 Au) := hdep 3 rfl rfl 8 rfl
     obtain ⟨H, m⟩ := id hJ
     refine dp_cx wn (cx_call hc8 (ent_f hc8.fn (by show [look 12 ρ 6, look 12 ρ 8] = _; rw [e6, e8])) hn0 (H.sel' [5, 6, 1, 0, 1, 2, 3, 4, 5, 6] rfl rfl : Hp S0 σ0 _ ([_, _, _] ++ _))) ?_
     rintro _ σq ⟨_, ⟨rfl, rfl⟩, H2, m2⟩
     exact ⟨_, (), rfl, rfl, ⟨H2.sel' [0, 1, 2, 3, 4, 5, 6] rfl rfl, m.comp0 (m2.mono (fun i h => by simp [cov, Ch.ro] at h))⟩, stab [0, 1, 2, 3] (by kernel_rfl) ⟨rfl, rfl, rfl, rfl, trivial⟩⟩
    trivial) ?_
  exact all_nil
 ·intro _nm ρ σ9 hJ hoff hrel
  have e1 := look_off (N := 12) (hoff 1 rfl) rfl
  have e2 := look_off (N := 12) (hoff 2 rfl) rfl
  have e5 := hrel 0 rfl 5 rfl
  have e9 := hrel 4 rfl 9 rfl
  obtain ⟨H, -⟩ := (show Hp S0 σ0 σ9 [Ch.bx n0 b1 0 [(I Ar.1), (Sl As Ar.2.1 Au), (I Ar.2.2)] [] [], Ch.ro 0 (Sl As Ar.2.1 Au) Ar.2.1, Ch.bx Ea Eb Ec [(Sl Gi Dy Gj)] Ed Ee, Ch.ro 0 (Sl Gi Dy Gj) Dy, Ch.bx Eh Ei Ej [(Sl Gk Dz.1 Gl), (Sl Gm Dz.2 Gn)] Ek El, Ch.ro 0 (Sl Gk Dz.1 Gl) Dz.1, Ch.ro 0 (Sl Gm Dz.2 Gn) Dz.2] ∧ Md (cov []) σ2 σ9 from hJ)
  clear hJ Hs
  rw [fr_lookL (L := [(1, (pt Eb Ec)), (2, (pt Ei Ej)), (5, (Sl Gi Dy Gj)), (9, (I r6))]) ⟨e1, e2, e5, e9, trivial⟩]
  clear hoff hrel e1 e2 e5 e9
  revert h; refine br fun x10 hx11 h => ?_
  obtain ⟨b13, o14, hi12, -⟩ := (H.ro 3 rfl).ix hx11
  refine st (v := (pt b13 o14)) (rv_ix Tryz.underlying27 ti3 rfl rfl hi12) ?_
  have hc15 := ((H.ro 3 rfl).at hx11 hi12).int
  refine st (v := (I x10)) (rv_load1 Tryz.underlying3 rfl rfl hc15) (sa (I x10) rfl (w_end (q_then (c_ret ?_))))
  obtain rfl := sj h
  exact fin_ret (v := (I x10)) (results_ok Tryz.results57 (res_tmp (v := (I x10)) rfl res_nil) rfl) ⟨rfl, rfl⟩ (H.sel' [2, 4] rfl rfl)

theorem c_impl_nearestBy__impl_CodeNearest_1 {Av : List (Int × (List Int) × Int)} {Em : Int} {En : List Int} {Eo : (List (List Int)) × (List (List Int))} {Aw : Option Addr} {Ax : Nat} {Gp : Option Addr} {Gq : Nat} {Ep Er Es : Nat} {Et Eu : List Value} {Gr : Option Addr} {Gs : Nat} {Gt : Option Addr} {Gu : Nat} {Ey Ez Fa : Nat} {Fb Fc : List Value} {r : (List (Int × Int))} (h : M.impl_nearestBy__impl_CodeNearest_1 Av Em En Eo = some r) :
    Cal2 Tryz.prog 56 [(Sl Aw Av Ax), (I Em), (.func (.func 57) #[] #[(pt Er Es), (pt Ez Fa)])] [Ch.ro 0 (Sl Aw Av Ax) Av, Ch.bx Ep Er Es [(Sl Gp En Gq)] Et Eu, Ch.ro 0 (Sl Gp En Gq) En, Ch.bx Ey Ez Fa [(Sl Gr Eo.1 Gs), (Sl Gt Eo.2 Gu)] Fb Fc, Ch.ro 0 (Sl Gr Eo.1 Gs) Eo.1, Ch.ro 0 (Sl Gt Eo.2 Gu) Eo.2] (fun n0 v L => ∃ (az1 : Option Addr), ∃ (cz2 : Nat), v = (Sl az1 r cz2) ∧ L = [Ch.own 0 n0 (Sl az1 r cz2) r, Ch.bx Ep Er Es [(Sl Gp En Gq)] Et Eu, Ch.bx Ey Ez Fa [(Sl Gr Eo.1 Gs), (Sl Gt Eo.2 Gu)] Fb Fc]) := by
 refine cal2 (n := 27) Tryz.func56 rfl rfl rfl rfl ?_
 intro S0 σ0 n0 hn0 H
 unfold M.impl_nearestBy__impl_CodeNearest_1 at h
 refine c_seq (rg (sa (.slice none 0 0) rfl (w_end (q_then (c_seq (rg (sm (I Em) rfl ?_)))))))
 refine st (v := (.agg #[(I Em), (.slice none 0 0)])) (rv_build (ps := [(0, (I Em))]) Tryz.underlying134 ti134 (bp134 Tryz.underlying134) rfl (by kernel_rfl)) ?_
 refine st_ex (ex_alloc (cs := [(I 0), (.slice none 0 0)]) H hn0 ti134 rfl) wn ?_
 rintro _ σ2 ⟨b1, rfl, H, -⟩
 refine st_exS (ex_store_box (k := 0) (cs := [(I 0), (.slice none 0 0)]) (vs := [(I Em), (.slice none 0 0)]) (cs' := [(I Em), (.slice none 0 0)]) H (i := 0) rfl ti134 rfl rfl rfl rfl rfl (Nat.le_of_ble_eq_true rfl) (by simp [plain]) rfl) wn ?_
 rintro σ3 ⟨H, -⟩
 refine w_end (q_then (c_seq (c_seq (rg (sm (Sl Aw Av Ax) rfl (st (v := (I (Av.length : Int))) (rv_len Tryz.underlying26 rfl) (sm (I 0) rfl (w_end (q_then ?_)))))))))
 obtain ⟨o4, hj, h'⟩ := bind_some h
 clear h
 refine c_cut (fun e a w => e = .normal ∧ ∃ (ρ : Nat → Value) (σ : St) (aj1 : Option Addr) (cj2 : Nat), a = fr 27 (updL ρ [(2, (.func (.func 57) #[] #[(pt Er Es), (pt Ez Fa)])), (7, (pt b1 0))]) ∧ w = σ.w ∧ Hp S0 σ0 σ [Ch.bx n0 b1 0 [(I o4.1), (Sl aj1 o4.2 cj2)] [] [], Ch.own 0 0 (Sl aj1 o4.2 cj2) o4.2, Ch.ro 0 (Sl Gp En Gq) En, Ch.bx Ep Er Es [(Sl Gp En Gq)] Et Eu, Ch.ro 0 (Sl Gr Eo.1 Gs) Eo.1, Ch.ro 0 (Sl Gt Eo.2 Gu) Eo.2, Ch.bx Ey Ez Fa [(Sl Gr Eo.1 Gs), (Sl Gt Eo.2 Gu)] Fb Fc]) ?_ ?_
 ·clear h'
  rename _ = some o4 => h
  refine c_blk ?_
  replace H := H.nilOwn (Int × Int) 0 0
  refine wp_loopM _ h (fun s5 a w => ∃ (ρ : Nat → Value) (σ : St) (aj1 : Option Addr) (cj2 : Nat), a = fr 27 (updL ρ [(2, (.func (.func 57) #[] #[(pt Er Es), (pt Ez Fa)])), (7, (pt b1 0)), (12, (Sl Aw Av Ax)), (13, (I (Av.length : Int))), (14, (I s5.2))]) ∧ w = σ.w ∧ Hp S0 σ0 σ [Ch.bx n0 b1 0 [(I s5.1.1), (Sl aj1 s5.1.2 cj2)] [] [], Ch.own 0 0 (Sl aj1 s5.1.2 cj2) s5.1.2, Ch.ro 0 (Sl Gp En Gq) En, Ch.bx Ep Er Es [(Sl Gp En Gq)] Et Eu, Ch.ro 0 (Sl Gr Eo.1 Gs) Eo.1, Ch.ro 0 (Sl Gt Eo.2 Gu) Eo.2, Ch.bx Ey Ez Fa [(Sl Gr Eo.1 Gs), (Sl Gt Eo.2 Gu)] Fb Fc, Ch.ro 0 (Sl Aw Av Ax) Av]) ⟨_, σ3, none, 0, fr_join ⟨rfl, rfl, rfl, rfl, rfl, trivial⟩, rfl, H.sel' [1, 0, 4, 3, 6, 7, 5, 2] rfl rfl⟩ ?_
  clear h H
  rintro s5 a w o ⟨ρ, σ6, a7, c8, rfl, rfl, H⟩ h hres
  refine c_seq (rg (st (v := (B (decide (s5.2 < (Av.length : Int))))) (rv_lss (a := s5.2) (b := (Av.length : Int)) rfl rfl) (w_end (q_then (c_seq ?_)))))
  refine cd_cond (decide (s5.2 < (Av.length : Int))) rfl (fun hb9 => ?_) (fun hb9 => ?_)
  ·replace h := bif_t hb9 h
   refine c_skip (q_then (c_seq (c_blk (c_seq (rg ?_)))))
   revert h; refine br fun x10 hx11 h => ?_
   obtain ⟨b13, o14, hi12, -⟩ := (H.ro 7 rfl).ix hx11
   refine st (v := (pt b13 o14)) (rv_ix Tryz.underlying26 ti34 rfl rfl hi12) ?_
   obtain ⟨_, ⟨_, _, rfl, rfl, ⟨_, _, rfl, ⟨_, rfl, hR19⟩, rfl⟩⟩, hl15, hc16⟩ := ((H.ro 7 rfl).at hx11 hi12).cells
   obtain ⟨a17, c18, rfl⟩ := hR19.isSl
   replace H := H.add (d := Ch.ro 0 (Sl a17 x10.2.1 c18) x10.2.1) hR19 (fun _ h => h)
   clear hR19
   refine st (v := (.agg #[(I x10.1), (Sl a17 x10.2.1 c18), (I x10.2.2)])) (rv_load Tryz.underlying34 rfl ti34 rfl hl15 hc16) (st_ex (ex_alloc (cs := [(I 0), (.slice none 0 0), (I 0)]) H hn0 ti34 rfl) wn ?_)
   rintro _ σ21 ⟨b20, rfl, H, -⟩
   refine st_exS (ex_store_box (k := 0) (cs := [(I 0), (.slice none 0 0), (I 0)]) (vs := [(I x10.1), (Sl a17 x10.2.1 c18), (I x10.2.2)]) (cs' := [(I x10.1), (Sl a17 x10.2.1 c18), (I x10.2.2)]) H (i := 0) rfl ti34 rfl rfl rfl rfl rfl (Nat.le_of_ble_eq_true rfl) (by simp [plain]) rfl) wn ?_
   rintro σ22 ⟨H, -⟩
   refine w_end (q_then ?_)
   have hc23 := H.cell (u := (I x10.1)) (o' := 0) 0 0 rfl rfl rfl
   have hc24 := H.cells 0 rfl
   revert h; refine br fun r25 hx26 h => ?_
   have hc27 := c_impl_CodeNearest_1__p24__p_impl_Book (As := a17) (Au := c18) (Ea := Ep) (Eb := Er) (Ec := Es) (Ed := Et) (Ee := Eu) (Gi := Gp) (Gj := Gq) (Eh := Ey) (Ei := Ez) (Ej := Fa) (Ek := Fb) (El := Fc) (Gk := Gr) (Gl := Gs) (Gm := Gt) (Gn := Gu) hx26
   have Hs := H
   refine rg2 (σ := σ22) (Nm := Unit) 5 [4] [[false], [true]] [[(0, 0), (1, 1)], [(0, 0), (1, 1)], [(0, 0)], [(0, 0)], [(0, 1)]] 1 [fun _ => fun σm => Hp S0 σ0 σm [Ch.bx n0 b20 0 [(I x10.1), (Sl a17 x10.2.1 c18), (I x10.2.2)] [] [], Ch.ro 0 (Sl a17 x10.2.1 c18) x10.2.1, Ch.bx n0 b1 0 [(I s5.1.1), (Sl a7 s5.1.2 c8)] [] [], Ch.own 0 0 (Sl a7 s5.1.2 c8) s5.1.2, Ch.ro 0 (Sl Gp En Gq) En, Ch.bx Ep Er Es [(Sl Gp En Gq)] Et Eu, Ch.ro 0 (Sl Gr Eo.1 Gs) Eo.1, Ch.ro 0 (Sl Gt Eo.2 Gu) Eo.2, Ch.bx Ey Ez Fa [(Sl Gr Eo.1 Gs), (Sl Gt Eo.2 Gu)] Fb Fc, Ch.ro 0 (Sl Aw Av Ax) Av] ∧ Md (cov []) σ22 σm, fun _ => fun σm => Hp S0 σ0 σm [Ch.bx Ep Er Es [(Sl Gp En Gq)] Et Eu, Ch.bx Ey Ez Fa [(Sl Gr Eo.1 Gs), (Sl Gt Eo.2 Gu)] Fb Fc, Ch.bx n0 b20 0 [(I x10.1), (Sl a17 x10.2.1 c18), (I x10.2.2)] [] [], Ch.ro 0 (Sl a17 x10.2.1 c18) x10.2.1, Ch.bx n0 b1 0 [(I s5.1.1), (Sl a7 s5.1.2 c8)] [] [], Ch.own 0 0 (Sl a7 s5.1.2 c8) s5.1.2, Ch.ro 0 (Sl Gp En Gq) En, Ch.ro 0 (Sl Gr Eo.1 Gs) Eo.1, Ch.ro 0 (Sl Gt Eo.2 Gu) Eo.2, Ch.ro 0 (Sl Aw Av Ax) Av] ∧ Md (fun i => (cov []) i ∨ (cov [Ch.ro 0 (Sl a17 x10.2.1 c18) x10.2.1, Ch.bx Ep Er Es [(Sl Gp En Gq)] Et Eu, Ch.ro 0 (Sl Gp En Gq) En, Ch.bx Ey Ez Fa [(Sl Gr Eo.1 Gs), (Sl Gt Eo.2 Gu)] Fb Fc, Ch.ro 0 (Sl Gr Eo.1 Gs) Eo.1, Ch.ro 0 (Sl Gt Eo.2 Gu) Eo.2]) i) σ22 σm] [fun _ => (pt b20 0), fun _ => (I x10.1), fun _ => (.func (.func 57) #[] #[(pt Er Es), (pt Ez Fa)]), fun _ => (.agg #[(I x10.1), (Sl a17 x10.2.1 c18), (I x10.2.2)]), fun _ => (I r25)] () (by kernel_rfl) (by kernel_rfl) ?_ ?_ ?_
   ·intro σm m0
    exact ⟨H.grow (m0.mono fun _ h => h.elim), m0⟩
   ·refine ac rfl (by
      intro k _nm ρ σm hJ hoff hdep
      have e9 := look_off (N := 27) (hoff 9 rfl) rfl
      exact dp_v (v := (pt b20 0)) wn (rv_fieldAddr (off := 0) (ft := 3) Tryz.underlying34 rfl ti3 rfl e9) rfl hJ) ?_
    refine all_cons (by
      refine ⟨?_, ?_⟩
      ·intro _nm ρ σm hJ hoff hdep
       have e18 := hdep 0 rfl rfl 18 rfl
       obtain ⟨H, m⟩ := id hJ
       have hc23 := H.cell (u := (I x10.1)) (o' := 0) 0 0 rfl rfl rfl
       exact dp_v (v := (I x10.1)) wn (rv_load1 Tryz.underlying3 rfl e18 hc23) rfl hJ
      refine ⟨?_, ?_⟩
      ·intro _nm ρ σm hJ hoff hdep
       have e18 := hdep 0 rfl rfl 18 rfl
       obtain ⟨H, m⟩ := id hJ
       have hc23 := H.cell (u := (I x10.1)) (o' := 0) 2 0 rfl rfl rfl
       exact dp_v (v := (I x10.1)) wn (rv_load1 Tryz.underlying3 rfl e18 hc23) rfl hJ
      trivial) ?_
    refine ac rfl (by
      intro k _nm ρ σm hJ hoff hdep
      have e2 := look_off (N := 27) (hoff 2 rfl) rfl
      exact dp_v (v := (.func (.func 57) #[] #[(pt Er Es), (pt Ez Fa)])) wn (rv_move e2) rfl hJ) ?_
    refine all_cons (by
      refine ⟨?_, ?_⟩
      ·intro _nm ρ σm hJ hoff hdep
       have e9 := look_off (N := 27) (hoff 9 rfl) rfl
       obtain ⟨H, m⟩ := id hJ
       have hc24 := H.cells 0 rfl
       exact dp_v (v := (.agg #[(I x10.1), (Sl a17 x10.2.1 c18), (I x10.2.2)])) wn (rv_load (cs := [(I x10.1), (Sl a17 x10.2.1 c18), (I x10.2.2)]) Tryz.underlying34 rfl ti34 e9 rfl hc24) rfl hJ
      trivial) ?_
    refine all_cons (by
      refine ⟨?_, ?_⟩
      ·intro _nm ρ σm hJ hoff hdep
       have e21 : look 27 ρ 21 = (.agg #[(I x10.1), (Sl a17 x10.2.1 c18), (I x10.2.2)]) := hdep 3 rfl rfl 21 rfl
       have e20 := hdep 2 rfl rfl 20 rfl
       obtain ⟨H, m⟩ := id hJ
       refine dp_cx wn (cx_call hc27 (ent_v (cap := [(pt Er Es), (pt Ez Fa)]) hc27.fn e20 (by show [look 27 ρ 21] ++ [(pt Er Es), (pt Ez Fa)] = _; rw [e21]; rfl)) hn0 (H.sel' [1, 5, 4, 8, 6, 7, 0, 1, 2, 3, 4, 6, 7, 9] rfl rfl : Hp S0 σ0 _ ([_, _, _, _, _, _] ++ _))) ?_
       rintro _ σq ⟨_, ⟨rfl, rfl⟩, H2, m2⟩
       exact ⟨_, (), rfl, rfl, ⟨H2.sel' [0, 1, 2, 3, 4, 5, 6, 7, 8, 9] rfl rfl, m.comp m2⟩, stab [0, 1, 2, 3] (by kernel_rfl) ⟨rfl, rfl, rfl, rfl, trivial⟩⟩
      trivial) ?_
    exact all_nil
   ·intro _nm ρ σ28 hJ hoff hrel
    have e2 := look_off (N := 27) (hoff 2 rfl) rfl
    have e7 := look_off (N := 27) (hoff 7 rfl) rfl
    have e12 := look_off (N := 27) (hoff 12 rfl) rfl
    have e13 := look_off (N := 27) (hoff 13 rfl) rfl
    have e14 := look_off (N := 27) (hoff 14 rfl) rfl
    have e19 := hrel 1 rfl 19 rfl
    have e22 := hrel 4 rfl 22 rfl
    obtain ⟨H, -⟩ := (show Hp S0 σ0 σ28 [Ch.bx Ep Er Es [(Sl Gp En Gq)] Et Eu, Ch.bx Ey Ez Fa [(Sl Gr Eo.1 Gs), (Sl Gt Eo.2 Gu)] Fb Fc, Ch.bx n0 b20 0 [(I x10.1), (Sl a17 x10.2.1 c18), (I x10.2.2)] [] [], Ch.ro 0 (Sl a17 x10.2.1 c18) x10.2.1, Ch.bx n0 b1 0 [(I s5.1.1), (Sl a7 s5.1.2 c8)] [] [], Ch.own 0 0 (Sl a7 s5.1.2 c8) s5.1.2, Ch.ro 0 (Sl Gp En Gq) En, Ch.ro 0 (Sl Gr Eo.1 Gs) Eo.1, Ch.ro 0 (Sl Gt Eo.2 Gu) Eo.2, Ch.ro 0 (Sl Aw Av Ax) Av] ∧ Md (fun i => (cov []) i ∨ (cov [Ch.ro 0 (Sl a17 x10.2.1 c18) x10.2.1, Ch.bx Ep Er Es [(Sl Gp En Gq)] Et Eu, Ch.ro 0 (Sl Gp En Gq) En, Ch.bx Ey Ez Fa [(Sl Gr Eo.1 Gs), (Sl Gt Eo.2 Gu)] Fb Fc, Ch.ro 0 (Sl Gr Eo.1 Gs) Eo.1, Ch.ro 0 (Sl Gt Eo.2 Gu) Eo.2]) i) σ22 σ28 from hJ)
    clear hJ Hs
    rw [fr_lookL (L := [(2, (.func (.func 57) #[] #[(pt Er Es), (pt Ez Fa)])), (7, (pt b1 0)), (12, (Sl Aw Av Ax)), (13, (I (Av.length : Int))), (14, (I s5.2)), (19, (I x10.1)), (22, (I r25))]) ⟨e2, e7, e12, e13, e14, e19, e22, trivial⟩]
    clear hoff hrel e2 e7 e12 e13 e14 e19 e22
    refine st (v := (.agg #[(I x10.1), (I r25)])) (rv_build (ps := [(0, (I x10.1)), (1, (I r25))]) Tryz.underlying43 ti43 (bp43 Tryz.underlying43) rfl (by kernel_rfl)) ?_
    revert h; refine br fun r29 hx30 h => ?_
    have hc31 := c_impl_nearestHits_offer (Cc := n0) (Cd := b1) (Ce := 0) (Cf := []) (Cg := []) (Ca := a7) (Cb := c8) hx30
    refine st_call (cx_call hc31 (ent_f hc31.fn rfl) hn0 (H.sel' [4, 5, 0, 1, 2, 3, 6, 7, 8, 9] rfl rfl : Hp S0 σ0 _ ([_, _] ++ _))) wn ?_
    rintro _ σ34 ⟨_, ⟨a32, c33, rfl, rfl⟩, H, -⟩
    replace H : Hp _ _ _ [_, _, _, _, _, _, _, _, _, _] := H
    replace H : Hp S0 σ0 σ34 [Ch.bx n0 b1 0 [(I r29.1), (Sl a32 r29.2 c33)] [] [], Ch.own 0 0 (Sl a32 r29.2 c33) r29.2, Ch.bx Ep Er Es [(Sl Gp En Gq)] Et Eu, Ch.bx Ey Ez Fa [(Sl Gr Eo.1 Gs), (Sl Gt Eo.2 Gu)] Fb Fc, Ch.ro 0 (Sl Gp En Gq) En, Ch.ro 0 (Sl Gr Eo.1 Gs) Eo.1, Ch.ro 0 (Sl Gt Eo.2 Gu) Eo.2, Ch.ro 0 (Sl Aw Av Ax) Av] := H.sel' [0, 1, 2, 3, 6, 7, 8, 9] rfl rfl
    refine w_end (q_blk (q_then (rg (st (v := (I (w64 (s5.2 + 1)))) (rv_add (a := s5.2) (b := 1) rfl rfl) (sm (I (w64 (s5.2 + 1))) rfl (w_end (q_then ?_)))))))
    obtain rfl := sj h
    exact ⟨_, rfl, _, σ34, a32, c33, fr_join ⟨rfl, rfl, rfl, rfl, rfl, trivial⟩, rfl, H.sel' [0, 1, 4, 2, 5, 6, 3, 7] rfl rfl⟩
  ·replace h := bif_f hb9 h
   refine c_exit (q_then_x (q_then_x (q_blk_hit ?_)))
   obtain rfl := sj h
   obtain rfl := hres _ rfl
   exact ⟨rfl, _, σ6, a7, c8, fr_join ⟨rfl, rfl, trivial⟩, rfl, H.sel' [0, 1, 2, 3, 4, 5, 6] rfl rfl⟩
 ·clear hj
  have h := h'
  clear h' H
  rintro e a w ⟨rfl, ρ, σ35, a36, c37, rfl, rfl, H⟩
  refine q_then (c_seq (rg ?_))
  obtain ⟨σ38, hw39, H, -⟩ := H.pub 1 rfl (Nat.le_refl _)
  rw [← hw39]; clear hw39
  revert h; refine br fun r40 hx41 h => ?_
  have hc42 := c_impl_nearestHits_inOrder (Cc := n0) (Cd := b1) (Ce := 0) (Cf := []) (Cg := []) (Ca := a36) (Cb := c37) hx41
  refine st_call (cx_call hc42 (ent_f hc42.fn rfl) hn0 (H.sel' [1, 0, 0, 2, 3, 4, 5, 6] rfl rfl : Hp S0 σ0 _ ([_, _] ++ _))) wn ?_
  rintro _ σ45 ⟨_, ⟨a43, c44, rfl, rfl⟩, H, -⟩
  replace H : Hp _ _ _ [_, _, _, _, _, _, _, _] := H
  replace H : Hp S0 σ0 σ45 [Ch.own 0 n0 (Sl a43 r40 c44) r40, Ch.ro 0 (Sl Gp En Gq) En, Ch.bx Ep Er Es [(Sl Gp En Gq)] Et Eu, Ch.ro 0 (Sl Gr Eo.1 Gs) Eo.1, Ch.ro 0 (Sl Gt Eo.2 Gu) Eo.2, Ch.bx Ey Ez Fa [(Sl Gr Eo.1 Gs), (Sl Gt Eo.2 Gu)] Fb Fc] := H.sel' [0, 3, 4, 5, 6, 7] rfl rfl
  refine sa (Sl a43 r40 c44) rfl (w_end (q_then (c_ret ?_)))
  obtain rfl := sj h
  exact fin_ret (v := (Sl a43 r40 c44)) (results_ok Tryz.results56 (res_tmp (v := (Sl a43 r40 c44)) rfl res_nil) rfl) ⟨a43, c44, rfl, rfl⟩ (H.sel' [0, 2, 5] rfl rfl)

theorem c_impl_CodeNearest {Ft : (List (List Int)) × (List (List Int))} {Fj : List (Int × (List Int) × Int)} {Bb : List Int} {Bc : Int} {Fu : Option Addr} {Fv : Nat} {Fw : Option Addr} {Fx : Nat} {Fk : Option Addr} {Fl : Nat} {Bd : Option Addr} {Be : Nat} {r : (List (Int × Int))} (h : M.impl_CodeNearest Ft Fj Bb Bc = some r) :
    Cal2 Tryz.prog 14 [(.agg #[(Sl Fu Ft.1 Fv), (Sl Fw Ft.2 Fx)]), (Sl Fk Fj Fl), (Sl Bd Bb Be), (I Bc)] [Ch.ro 0 (Sl Fu Ft.1 Fv) Ft.1, Ch.ro 0 (Sl Fw Ft.2 Fx) Ft.2, Ch.ro 0 (Sl Fk Fj Fl) Fj, Ch.ro 0 (Sl Bd Bb Be) Bb] (fun n0 v L => ∃ (az1 : Option Addr), ∃ (cz2 : Nat), v = (Sl az1 r cz2) ∧ L = [Ch.own 0 n0 (Sl az1 r cz2) r]) := by
 refine cal2 (n := 27) Tryz.func14 rfl rfl rfl rfl ?_
 intro S0 σ0 n0 hn0 H
 unfold M.impl_CodeNearest at h
 refine c_seq (rg (st_ex (ex_box (cs := [(Sl Fu Ft.1 Fv), (Sl Fw Ft.2 Fx)]) H hn0 rfl rfl) wn ?_))
 rintro _ σ2 ⟨b1, rfl, H, -⟩
 refine sa (.slice none 0 0) rfl (w_end (q_then (c_seq (c_seq ?_))))
 obtain ⟨o3, hj, h'⟩ := bind_some h
 clear h
 refine c_cut (fun e a w => e = .normal ∧ ∃ (ρ : Nat → Value) (σ : St), a = fr 27 (updL ρ [(1, (Sl Fk Fj Fl)), (2, (Sl Bd Bb Be)), (3, (I Bc)), (4, (pt b1 0)), (19, (B o3))]) ∧ w = σ.w ∧ Hp S0 σ0 σ [Ch.ro 0 (Sl Fk Fj Fl) Fj, Ch.ro 0 (Sl Bd Bb Be) Bb, Ch.ro 0 (Sl Fu Ft.1 Fv) Ft.1, Ch.ro 0 (Sl Fw Ft.2 Fx) Ft.2, Ch.bx n0 b1 0 [(Sl Fu Ft.1 Fv), (Sl Fw Ft.2 Fx)] [] []]) ?_ ?_
 ·clear h'
  rename _ = some o3 => h
  refine rg ?_
  have hc4 := H.cells 0 rfl
  refine st (v := (.agg #[(Sl Fu Ft.1 Fv), (Sl Fw Ft.2 Fx)])) (rv_load (cs := [(Sl Fu Ft.1 Fv), (Sl Fw Ft.2 Fx)]) Tryz.underlying25 rfl ti25 rfl rfl hc4) ?_
  revert h; refine br fun r5 hx6 h => ?_
  have hc7 := c_impl_ValidBook (Fu := Fu) (Fv := Fv) (Fw := Fw) (Fx := Fx) hx6
  refine st_call (cx_call hc7 (ent_f hc7.fn rfl) hn0 (H.sel' [1, 2, 0, 1, 2, 3, 4] rfl rfl : Hp S0 σ0 _ ([_, _] ++ _))) wn ?_
  rintro _ σ8 ⟨_, ⟨rfl, rfl⟩, H, -⟩
  replace H : Hp _ _ _ [_, _, _, _, _] := H
  refine st (v := (B (!r5))) (rv_not rfl) (sm (B (!r5)) rfl ?_)
  rcases Bool.eq_false_or_eq_true (!r5) with hb9 | hb9
  ·replace h := bif_t hb9 h
   refine st_skip (congrArg some hb9) (st_skip (congrArg some hb9) (st_skip (congrArg some hb9) (st_skip (congrArg some hb9) (st_skip (congrArg some hb9) (st (v := (B true)) (rv_pick_t (congrArg B hb9) rfl) (w_end ?_))))))
   obtain rfl := sj h
   exact ⟨rfl, _, σ8, fr_join ⟨rfl, rfl, rfl, rfl, rfl, trivial⟩, rfl, H.sel' [3, 4, 1, 2, 0] rfl rfl⟩
  ·replace h := bif_f hb9 h
   refine st_g (v := (Sl Fk Fj Fl)) (congrArg some hb9) (rv_move rfl) (st_g (v := (Sl Bd Bb Be)) (congrArg some hb9) (rv_move rfl) (st_g (v := (I Bc)) (congrArg some hb9) (rv_move rfl) ?_))
   revert h; refine br fun r10 hx11 h => ?_
   have hc12 := c_impl_validSearch (Aw := Fk) (Ax := Fl) (Bd := Bd) (Be := Be) hx11
   refine st_call (cx_call hc12 (ent_f hc12.fn rfl) hn0 (H.sel' [3, 4, 0, 1, 2, 3, 4] rfl rfl : Hp S0 σ0 _ ([_, _] ++ _))) (wanted_yes rfl (by exact (congrArg some hb9))) ?_
   rintro _ σ13 ⟨_, ⟨rfl, rfl⟩, H, -⟩
   replace H : Hp _ _ _ [_, _, _, _, _] := H
   refine st_g (v := (B (!r10))) (congrArg some hb9) (rv_not rfl) (st (v := (B (!r10))) (rv_pick_f (congrArg B hb9) rfl) (w_end ?_))
   obtain rfl := sj h
   exact ⟨rfl, _, σ13, fr_join ⟨rfl, rfl, rfl, rfl, rfl, trivial⟩, rfl, H.sel' [3, 4, 1, 2, 0] rfl rfl⟩
 ·clear hj
  have h := h'
  clear h' H
  rintro e a w ⟨rfl, ρ, σ14, rfl, rfl, H⟩
  refine q_then ?_
  refine cd_cond o3 rfl (fun hb15 => ?_) (fun hb15 => ?_)
  ·replace h := bif_t hb15 h
   refine c_seq (rg (sa (.slice none 0 0) rfl (w_end (q_then (c_ret (q_then_r ?_))))))
   replace H := H.nilOwn (Int × Int) 0 n0
   obtain rfl := sj h
   exact fin_ret (v := (.slice none 0 0)) (results_ok Tryz.results14 (res_tmp (v := (.slice none 0 0)) rfl res_nil) rfl) ⟨none, 0, rfl, rfl⟩ (H.sel' [0] rfl rfl)
  ·replace h := bif_f hb15 h
   refine c_skip (q_then (c_seq (rg ?_)))
   have hc16 := H.cells 4 rfl
   refine st (v := (.agg #[(Sl Fu Ft.1 Fv), (Sl Fw Ft.2 Fx)])) (rv_load (cs := [(Sl Fu Ft.1 Fv), (Sl Fw Ft.2 Fx)]) Tryz.underlying25 rfl ti25 rfl rfl hc16) (sm (Sl Bd Bb Be) rfl ?_)
   revert h; refine br fun r17 hx18 h => ?_
   have hc19 := c_impl_CodeDistances (Fu := Fu) (Fv := Fv) (Fw := Fw) (Fx := Fx) (Gd := Bd) (Ge := Be) hx18
   refine st_call (cx_call hc19 (ent_f hc19.fn rfl) hn0 (H.sel' [2, 3, 1, 0, 1, 2, 3, 4] rfl rfl : Hp S0 σ0 _ ([_, _, _] ++ _))) wn ?_
   rintro _ σ22 ⟨_, ⟨a20, c21, rfl, rfl⟩, H, -⟩
   replace H : Hp _ _ _ [_, _, _, _, _, _] := H
   refine st_ex (ex_alloc (cs := [(.slice none 0 0)]) H hn0 ti27 rfl) wn ?_
   rintro _ σ24 ⟨b23, rfl, H, -⟩
   refine st_exS (ex_store_box (k := 0) (cs := [(.slice none 0 0)]) (vs := [(Sl a20 r17 c21)]) (cs' := [(Sl a20 r17 c21)]) H (i := 0) rfl ti27 rfl rfl rfl rfl rfl (Nat.le_of_ble_eq_true rfl) (by simp [plain]) rfl) wn ?_
   rintro σ25 ⟨H, -⟩
   refine w_end (q_then (c_seq (rg (sm (Sl Fk Fj Fl) rfl (sm (I Bc) rfl (st (v := (.func (.func 57) #[] #[(pt b23 0), (pt b1 0)])) (rv_makeFunc (vs := [(pt b23 0), (pt b1 0)]) rfl) ?_))))))
   obtain ⟨σ26, hw27, H, -⟩ := H.pub 1 rfl (Nat.le_refl _)
   rw [← hw27]; clear hw27
   replace H := H.roLow 0 0 rfl (Nat.zero_le _)
   revert h; refine br fun r28 hx29 h => ?_
   have hc30 := c_impl_nearestBy__impl_CodeNearest_1 (Aw := Fk) (Ax := Fl) (Ep := n0) (Er := b23) (Es := 0) (Et := []) (Eu := []) (Gp := a20) (Gq := c21) (Ey := n0) (Ez := b1) (Fa := 0) (Fb := []) (Fc := []) (Gr := Fu) (Gs := Fv) (Gt := Fw) (Gu := Fx) hx29
   refine st_call (cx_call hc30 (ent_f hc30.fn rfl) hn0 (H.sel' [3, 2, 0, 7, 5, 6, 0, 1, 3, 4, 5, 6] rfl rfl : Hp S0 σ0 _ ([_, _, _, _, _, _] ++ _))) wn ?_
   rintro _ σ33 ⟨_, ⟨a31, c32, rfl, rfl⟩, H, -⟩
   replace H : Hp _ _ _ [_, _, _, _, _, _, _, _, _] := H
   replace H : Hp S0 σ0 σ33 [Ch.own 0 n0 (Sl a31 r28 c32) r28] := H.sel' [0] rfl rfl
   refine sa (Sl a31 r28 c32) rfl (w_end (q_then (c_ret ?_)))
   obtain rfl := sj h
   exact fin_ret (v := (Sl a31 r28 c32)) (results_ok Tryz.results14 (res_tmp (v := (Sl a31 r28 c32)) rfl res_nil) rfl) ⟨a31, c32, rfl, rfl⟩ (H.sel' [0] rfl rfl)

theorem c_impl_RerankNearest_1_1__p_impl_Item {Bf : Int × Int} {Dy : Int × (List Int) × Int} {Gv : Option Addr} {Gw : Nat} {Ea Eb Ec : Nat} {Ed Ee : List Value} {r : Bool} (h : M.impl_RerankNearest_1_1__p_impl_Item Bf Dy = some r) :
    Cal2 Tryz.prog 74 [(.agg #[(I Bf.1), (I Bf.2)]), (pt Eb Ec)] [Ch.bx Ea Eb Ec [(I Dy.1), (Sl Gv Dy.2.1 Gw), (I Dy.2.2)] Ed Ee, Ch.ro 0 (Sl Gv Dy.2.1 Gw) Dy.2.1] (fun n0 v L => v = (B r) ∧ L = [Ch.bx Ea Eb Ec [(I Dy.1), (Sl Gv Dy.2.1 Gw), (I Dy.2.2)] Ed Ee]) := by
 refine cal2 (n := 9) Tryz.func74 rfl rfl rfl rfl ?_
 intro S0 σ0 n0 hn0 H
 unfold M.impl_RerankNearest_1_1__p_impl_Item at h
 refine c_seq (rg (st_ex (ex_box (cs := [(I Bf.1), (I Bf.2)]) H hn0 rfl rfl) wn ?_))
 rintro _ σ2 ⟨b1, rfl, H, -⟩
 refine sa (B false) rfl (w_end (q_then (c_seq (rg (st (v := (pt b1 0)) (rv_fieldAddr (off := 0) (ft := 3) Tryz.underlying43 rfl ti3 rfl rfl) ?_)))))
 have hc3 := H.cell (u := (I Bf.1)) (o' := 0) 0 0 rfl rfl rfl
 refine st (v := (I Bf.1)) (rv_load1 Tryz.underlying3 rfl rfl hc3) (st (v := (pt Eb Ec)) (rv_fieldAddr (off := 0) (ft := 3) Tryz.underlying34 rfl ti3 rfl rfl) ?_)
 have hc4 := H.cell (u := (I Dy.1)) (o' := Ec) 1 0 rfl rfl rfl
 refine st (v := (I Dy.1)) (rv_load1 Tryz.underlying3 rfl rfl hc4) (st (v := (B (Bf.1 == Dy.1))) (rv_eql (a := Bf.1) (b := Dy.1) rfl rfl) (sa (B (Bf.1 == Dy.1)) rfl (w_end (q_then (c_ret ?_)))))
 obtain rfl := sj h
 exact fin_ret (v := (B (Bf.1 == Dy.1))) (results_ok Tryz.results74 (res_tmp (v := (B (Bf.1 == Dy.1))) rfl res_nil) rfl) ⟨rfl, rfl⟩ (H.sel' [1] rfl rfl)

theorem c_slices_IndexFunc_impl_Hit_impl_Hit__impl_RerankNearest_1_1 {Cp : List (Int × Int)} {Gx : Int × (List Int) × Int} {Cq : Option Addr} {Cr : Nat} {Gy : Option Addr} {Gz : Nat} {Ha Hc Hd : Nat} {He Hf : List Value} {r : Int} (h : M.slices_IndexFunc_impl_Hit_impl_Hit__impl_RerankNearest_1_1 Cp Gx = some r) :
    Cal2 Tryz.prog 132 [(Sl Cq Cp Cr), (.func (.func 74) #[] #[(pt Hc Hd)])] [Ch.ro 0 (Sl Cq Cp Cr) Cp, Ch.bx Ha Hc Hd [(I Gx.1), (Sl Gy Gx.2.1 Gz), (I Gx.2.2)] He Hf, Ch.ro 0 (Sl Gy Gx.2.1 Gz) Gx.2.1] (fun n0 v L => v = (I r) ∧ L = [Ch.bx Ha Hc Hd [(I Gx.1), (Sl Gy Gx.2.1 Gz), (I Gx.2.2)] He Hf]) := by
 refine cal2 (n := 19) Tryz.func132 rfl rfl rfl rfl ?_
 intro S0 σ0 n0 hn0 H
 unfold M.slices_IndexFunc_impl_Hit_impl_Hit__impl_RerankNearest_1_1 at h
 refine c_seq (rg (sa (I 0) rfl (w_end (q_then (c_seq (c_seq (rg (sm (Sl Cq Cp Cr) rfl (st (v := (I (Cp.length : Int))) (rv_len Tryz.underlying30 rfl) (sm (I 0) rfl (w_end ?_)))))))))))
 refine q_then ?_
 obtain ⟨o1, hj, h'⟩ := bind_some h
 clear h
 refine c_cut (fun e a w => (∃ t, o1 = (.inl t) ∧ e = .normal ∧ ∃ (ρ : Nat → Value) (σ : St), a = fr 19 (updL ρ [(1, (.func (.func 74) #[] #[(pt Hc Hd)]))]) ∧ w = σ.w ∧ Hp S0 σ0 σ [Ch.ro 0 (Sl Gy Gx.2.1 Gz) Gx.2.1, Ch.bx Ha Hc Hd [(I Gx.1), (Sl Gy Gx.2.1 Gz), (I Gx.2.2)] He Hf]) ∨ (∃ t, o1 = (.inr t) ∧ e = .ret ∧ ∃ (ρ : Nat → Value) (σ : St), a = fr 19 (updL ρ [(1, (.func (.func 74) #[] #[(pt Hc Hd)])), (4, (I t))]) ∧ w = σ.w ∧ Hp S0 σ0 σ [Ch.ro 0 (Sl Gy Gx.2.1 Gz) Gx.2.1, Ch.bx Ha Hc Hd [(I Gx.1), (Sl Gy Gx.2.1 Gz), (I Gx.2.2)] He Hf])) ?_ ?_
 ·clear h'
  rename _ = some o1 => h
  refine c_blk (wp_loopM _ h (fun s2 a w => ∃ (ρ : Nat → Value) (σ : St), a = fr 19 (updL ρ [(0, (Sl Cq Cp Cr)), (1, (.func (.func 74) #[] #[(pt Hc Hd)])), (7, (I (Cp.length : Int))), (8, (I s2))]) ∧ w = σ.w ∧ Hp S0 σ0 σ [Ch.ro 0 (Sl Cq Cp Cr) Cp, Ch.ro 0 (Sl Gy Gx.2.1 Gz) Gx.2.1, Ch.bx Ha Hc Hd [(I Gx.1), (Sl Gy Gx.2.1 Gz), (I Gx.2.2)] He Hf]) ⟨_, σ0, fr_join ⟨rfl, rfl, rfl, rfl, trivial⟩, rfl, H.sel' [0, 2, 1] rfl rfl⟩ ?_)
  clear h H
  rintro s2 a w o ⟨ρ, σ3, rfl, rfl, H⟩ h hres
  refine c_seq (rg (st (v := (B (decide (s2 < (Cp.length : Int))))) (rv_lss (a := s2) (b := (Cp.length : Int)) rfl rfl) (w_end (q_then (c_seq ?_)))))
  refine cd_cond (decide (s2 < (Cp.length : Int))) rfl (fun hb4 => ?_) (fun hb4 => ?_)
  ·replace h := bif_t hb4 h
   refine c_skip (q_then (c_seq (c_blk (c_seq (rg (sm (I s2) rfl (sa (I s2) rfl (w_end (q_then (c_seq (rg ?_)))))))))))
   refine sm (.func (.func 74) #[] #[(pt Hc Hd)]) rfl (sm (Sl Cq Cp Cr) rfl (sm (I s2) rfl ?_))
   revert h; refine br fun x5 hx6 h => ?_
   obtain ⟨b8, o9, hi7, -⟩ := (H.ro 0 rfl).ix hx6
   refine st (v := (pt b8 o9)) (rv_ix Tryz.underlying30 ti43 rfl rfl hi7) ?_
   obtain ⟨_, ⟨_, _, rfl, rfl, rfl⟩, hl10, hc11⟩ := ((H.ro 0 rfl).at hx6 hi7).cells
   refine st (v := (.agg #[(I x5.1), (I x5.2)])) (rv_load Tryz.underlying43 rfl ti43 rfl hl10 hc11) ?_
   revert h; refine br fun r12 hx13 h => ?_
   have hc14 := c_impl_RerankNearest_1_1__p_impl_Item (Ea := Ha) (Eb := Hc) (Ec := Hd) (Ed := He) (Ee := Hf) (Gv := Gy) (Gw := Gz) hx13
   refine st_call (cx_call hc14 (ent_v (cap := [(pt Hc Hd)]) hc14.fn rfl rfl) hn0 (H.sel' [2, 1, 0, 1] rfl rfl : Hp S0 σ0 _ ([_, _] ++ _))) wn ?_
   rintro _ σ15 ⟨_, ⟨rfl, rfl⟩, H, -⟩
   replace H : Hp _ _ _ [_, _, _] := H
   refine w_end (q_then ?_)
   refine cd_cond r12 rfl (fun hb16 => ?_) (fun hb16 => ?_)
   ·replace h := bif_t hb16 h
    refine c_seq (rg (sm (I s2) rfl (sa (I s2) rfl (w_end (q_then (c_ret (q_blk_r (q_then_r (q_then_r (q_blk_r ?_))))))))))
    obtain rfl := sj h
    obtain rfl := hres _ rfl
    exact .inr (⟨_, rfl, rfl, _, σ15, fr_join ⟨rfl, rfl, trivial⟩, rfl, H.sel' [2, 0] rfl rfl⟩)
   ·replace h := bif_f hb16 h
    refine c_skip (q_blk (q_then (rg (st (v := (I (w64 (s2 + 1)))) (rv_add (a := s2) (b := 1) rfl rfl) (sm (I (w64 (s2 + 1))) rfl (w_end (q_then ?_)))))))
    obtain rfl := sj h
    exact ⟨_, rfl, _, σ15, fr_join ⟨rfl, rfl, rfl, rfl, trivial⟩, rfl, H.sel' [1, 2, 0] rfl rfl⟩
  ·replace h := bif_f hb4 h
   refine c_exit (q_then_x (q_then_x (q_blk_hit ?_)))
   obtain rfl := sj h
   obtain rfl := hres _ rfl
   exact .inl ⟨_, rfl, rfl, _, σ3, fr_join ⟨rfl, trivial⟩, rfl, H.sel' [1, 2] rfl rfl⟩
 ·clear hj
  have h := h'
  clear h' H
  rintro e a w (⟨t17, rfl, rfl, ρ, σ18, rfl, rfl, H⟩ | ⟨t19, rfl, rfl, ρ, σ20, rfl, rfl, H⟩)
  ·replace h := selim_l h
   refine q_then (c_seq (rg (sa (I (-1)) rfl (w_end (q_then (c_ret ?_))))))
   obtain rfl := sj h
   exact fin_ret (v := (I (-1))) (results_ok Tryz.results132 (res_tmp (v := (I (-1))) rfl res_nil) rfl) ⟨rfl, rfl⟩ (H.sel' [1] rfl rfl)
  ·replace h := selim_r h
   refine q_then_r ?_
   obtain rfl := sj h
   exact fin_ret (v := (I t19)) (results_ok Tryz.results132 (res_tmp (v := (I t19)) rfl res_nil) rfl) ⟨rfl, rfl⟩ (H.sel' [1] rfl rfl)

theorem c_slices_ContainsFunc_impl_Hit_impl_Hit__impl_RerankNearest_1_1 {Cp : List (Int × Int)} {Gx : Int × (List Int) × Int} {Cq : Option Addr} {Cr : Nat} {Gy : Option Addr} {Gz : Nat} {Ha Hc Hd : Nat} {He Hf : List Value} {r : Bool} (h : M.slices_ContainsFunc_impl_Hit_impl_Hit__impl_RerankNearest_1_1 Cp Gx = some r) :
    Cal2 Tryz.prog 73 [(Sl Cq Cp Cr), (.func (.func 74) #[] #[(pt Hc Hd)])] [Ch.ro 0 (Sl Cq Cp Cr) Cp, Ch.bx Ha Hc Hd [(I Gx.1), (Sl Gy Gx.2.1 Gz), (I Gx.2.2)] He Hf, Ch.ro 0 (Sl Gy Gx.2.1 Gz) Gx.2.1] (fun n0 v L => v = (B r) ∧ L = [Ch.bx Ha Hc Hd [(I Gx.1), (Sl Gy Gx.2.1 Gz), (I Gx.2.2)] He Hf]) := by
 refine cal2 (n := 9) Tryz.func73 rfl rfl rfl rfl ?_
 intro S0 σ0 n0 hn0 H
 unfold M.slices_ContainsFunc_impl_Hit_impl_Hit__impl_RerankNearest_1_1 at h
 refine c_seq (rg (sa (B false) rfl (w_end (q_then (c_seq (rg (sm (Sl Cq Cp Cr) rfl (sm (.func (.func 74) #[] #[(pt Hc Hd)]) rfl ?_))))))))
 revert h; refine br fun r1 hx2 h => ?_
 have hc3 := c_slices_IndexFunc_impl_Hit_impl_Hit__impl_RerankNearest_1_1 (Cq := Cq) (Cr := Cr) (Ha := Ha) (Hc := Hc) (Hd := Hd) (He := He) (Hf := Hf) (Gy := Gy) (Gz := Gz) hx2
 refine st_call (cx_call hc3 (ent_f hc3.fn rfl) hn0 (H.sel' [0, 1, 2, 0, 2] rfl rfl : Hp S0 σ0 _ ([_, _, _] ++ _))) wn ?_
 rintro _ σ4 ⟨_, ⟨rfl, rfl⟩, H, -⟩
 replace H : Hp _ _ _ [_, _, _] := H
 refine st (v := (B (decide (0 ≤ r1)))) (rv_geq (a := r1) (b := 0) rfl rfl) (sa (B (decide (0 ≤ r1))) rfl (w_end (q_then (c_ret ?_))))
 obtain rfl := sj h
 exact fin_ret (v := (B (decide (0 ≤ r1)))) (results_ok Tryz.results73 (res_tmp (v := (B (decide (0 ≤ r1)))) rfl res_nil) rfl) ⟨rfl, rfl⟩ (H.sel' [0] rfl rfl)

theorem c_impl_RerankNearest_1__p_Simpl_Hit {Ar : Int × (List Int) × Int} {Dy : List (Int × Int)} {As : Option Addr} {Au : Nat} {Gi : Option Addr} {Gj : Nat} {Ea Eb Ec : Nat} {Ed Ee : List Value} {r : Bool} (h : M.impl_RerankNearest_1__p_Simpl_Hit Ar Dy = some r) :
    Cal2 Tryz.prog 72 [(.agg #[(I Ar.1), (Sl As Ar.2.1 Au), (I Ar.2.2)]), (pt Eb Ec)] [Ch.ro 0 (Sl As Ar.2.1 Au) Ar.2.1, Ch.bx Ea Eb Ec [(Sl Gi Dy Gj)] Ed Ee, Ch.ro 0 (Sl Gi Dy Gj) Dy] (fun n0 v L => v = (B r) ∧ L = [Ch.bx Ea Eb Ec [(Sl Gi Dy Gj)] Ed Ee]) := by
 refine cal2 (n := 7) Tryz.func72 rfl rfl rfl rfl ?_
 intro S0 σ0 n0 hn0 H
 unfold M.impl_RerankNearest_1__p_Simpl_Hit at h
 refine c_seq (rg (st_ex (ex_box (cs := [(I Ar.1), (Sl As Ar.2.1 Au), (I Ar.2.2)]) H hn0 rfl rfl) wn ?_))
 rintro _ σ2 ⟨b1, rfl, H, -⟩
 refine sa (B false) rfl (w_end (q_then (c_seq (rg ?_))))
 have hc3 := H.cell (u := (Sl Gi Dy Gj)) (o' := Ec) 2 0 rfl rfl rfl
 refine st (v := (Sl Gi Dy Gj)) (rv_load1 Tryz.underlying30 rfl rfl hc3) (st (v := (.func (.func 74) #[] #[(pt b1 0)])) (rv_makeFunc (vs := [(pt b1 0)]) rfl) ?_)
 revert h; refine br fun r4 hx5 h => ?_
 have hc6 := c_slices_ContainsFunc_impl_Hit_impl_Hit__impl_RerankNearest_1_1 (Cq := Gi) (Cr := Gj) (Ha := n0) (Hc := b1) (Hd := 0) (He := []) (Hf := []) (Gy := As) (Gz := Au) hx5
 refine st_call (cx_call hc6 (ent_f hc6.fn rfl) hn0 (H.sel' [3, 0, 1, 1, 2, 3] rfl rfl : Hp S0 σ0 _ ([_, _, _] ++ _))) wn ?_
 rintro _ σ7 ⟨_, ⟨rfl, rfl⟩, H, -⟩
 replace H : Hp _ _ _ [_, _, _, _] := H
 refine sa (B r4) rfl (w_end (q_then (c_ret ?_)))
 obtain rfl := sj h
 exact fin_ret (v := (B r4)) (results_ok Tryz.results72 (res_tmp (v := (B r4)) rfl res_nil) rfl) ⟨rfl, rfl⟩ (H.sel' [2] rfl rfl)

theorem c_impl_itemsThat__impl_RerankNearest_1 {Av : List (Int × (List Int) × Int)} {Hg : List (Int × Int)} {Aw : Option Addr} {Ax : Nat} {Hi : Option Addr} {Hj : Nat} {Hk Hl Hm : Nat} {Hn Ho : List Value} {r : (List (Int × (List Int) × Int))} (h : M.impl_itemsThat__impl_RerankNearest_1 Av Hg = some r) :
    Cal2 Tryz.prog 71 [(Sl Aw Av Ax), (.func (.func 72) #[] #[(pt Hl Hm)])] [Ch.ro 0 (Sl Aw Av Ax) Av, Ch.bx Hk Hl Hm [(Sl Hi Hg Hj)] Hn Ho, Ch.ro 0 (Sl Hi Hg Hj) Hg] (fun n0 v L => ∃ (az1 : Option Addr), ∃ (cz2 : Nat), v = (Sl az1 r cz2) ∧ L = [Ch.own n0 0 (Sl az1 r cz2) r, Ch.bx Hk Hl Hm [(Sl Hi Hg Hj)] Hn Ho]) := by
 refine cal2 (n := 23) Tryz.func71 rfl rfl rfl rfl ?_
 intro S0 σ0 n0 hn0 H
 unfold M.impl_itemsThat__impl_RerankNearest_1 at h
 refine c_seq (rg (sa (.slice none 0 0) rfl (w_end (q_then (c_seq (rg (sa (.slice none 0 0) rfl (w_end (q_then (c_seq (c_seq ?_)))))))))))
 refine rg (sm (Sl Aw Av Ax) rfl (st (v := (I (Av.length : Int))) (rv_len Tryz.underlying26 rfl) (sm (I 0) rfl (w_end (q_then ?_)))))
 obtain ⟨o1, hj, h'⟩ := bind_some h
 clear h
 refine c_cut (fun e a w => e = .normal ∧ ∃ (ρ : Nat → Value) (σ : St) (aj1 : Option Addr) (cj2 : Nat), a = fr 23 (updL ρ [(1, (.func (.func 72) #[] #[(pt Hl Hm)])), (5, (Sl aj1 o1 cj2))]) ∧ w = σ.w ∧ Hp S0 σ0 σ [Ch.ro 0 (Sl Hi Hg Hj) Hg, Ch.bx Hk Hl Hm [(Sl Hi Hg Hj)] Hn Ho, Ch.own n0 0 (Sl aj1 o1 cj2) o1]) ?_ ?_
 ·clear h'
  rename _ = some o1 => h
  refine c_blk ?_
  replace H := H.nilOwn (Int × (List Int) × Int) n0 0
  refine wp_loopM _ h (fun s2 a w => ∃ (ρ : Nat → Value) (σ : St) (aj1 : Option Addr) (cj2 : Nat), a = fr 23 (updL ρ [(1, (.func (.func 72) #[] #[(pt Hl Hm)])), (5, (Sl aj1 s2.1 cj2)), (8, (Sl Aw Av Ax)), (9, (I (Av.length : Int))), (10, (I s2.2))]) ∧ w = σ.w ∧ Hp S0 σ0 σ [Ch.ro 0 (Sl Hi Hg Hj) Hg, Ch.bx Hk Hl Hm [(Sl Hi Hg Hj)] Hn Ho, Ch.own n0 0 (Sl aj1 s2.1 cj2) s2.1, Ch.ro 0 (Sl Aw Av Ax) Av]) ⟨_, σ0, none, 0, fr_join ⟨rfl, rfl, rfl, rfl, rfl, trivial⟩, rfl, H.sel' [3, 2, 0, 1] rfl rfl⟩ ?_
  clear h H
  rintro s2 a w o ⟨ρ, σ3, a4, c5, rfl, rfl, H⟩ h hres
  refine c_seq (rg (st (v := (B (decide (s2.2 < (Av.length : Int))))) (rv_lss (a := s2.2) (b := (Av.length : Int)) rfl rfl) (w_end (q_then (c_seq ?_)))))
  refine cd_cond (decide (s2.2 < (Av.length : Int))) rfl (fun hb6 => ?_) (fun hb6 => ?_)
  ·replace h := bif_t hb6 h
   refine c_skip (q_then (c_seq ?_))
   obtain ⟨o7, hj, h'⟩ := bind_some h
   clear h
   refine c_cut (fun e a w => e = .normal ∧ ∃ (ρ : Nat → Value) (σ : St) (aj1 : Option Addr) (cj2 : Nat), a = fr 23 (updL ρ [(1, (.func (.func 72) #[] #[(pt Hl Hm)])), (5, (Sl aj1 o7 cj2)), (8, (Sl Aw Av Ax)), (9, (I (Av.length : Int))), (10, (I s2.2))]) ∧ w = σ.w ∧ Hp S0 σ0 σ [Ch.ro 0 (Sl Hi Hg Hj) Hg, Ch.bx Hk Hl Hm [(Sl Hi Hg Hj)] Hn Ho, Ch.own n0 0 (Sl aj1 o7 cj2) o7, Ch.ro 0 (Sl Aw Av Ax) Av]) ?_ ?_
   ·clear h'
    rename _ = some o7 => h
    refine c_blk (c_seq (rg ?_))
    revert h; refine br fun x8 hx9 h => ?_
    obtain ⟨b11, o12, hi10, -⟩ := (H.ro 3 rfl).ix hx9
    refine st (v := (pt b11 o12)) (rv_ix Tryz.underlying26 ti34 rfl rfl hi10) ?_
    obtain ⟨_, ⟨_, _, rfl, rfl, ⟨_, _, rfl, ⟨_, rfl, hR17⟩, rfl⟩⟩, hl13, hc14⟩ := ((H.ro 3 rfl).at hx9 hi10).cells
    obtain ⟨a15, c16, rfl⟩ := hR17.isSl
    replace H := H.add (d := Ch.ro 0 (Sl a15 x8.2.1 c16) x8.2.1) hR17 (fun _ h => h)
    clear hR17
    refine st (v := (.agg #[(I x8.1), (Sl a15 x8.2.1 c16), (I x8.2.2)])) (rv_load Tryz.underlying34 rfl ti34 rfl hl13 hc14) (st_ex (ex_alloc (cs := [(I 0), (.slice none 0 0), (I 0)]) H hn0 ti34 rfl) wn ?_)
    rintro _ σ19 ⟨b18, rfl, H, -⟩
    refine st_exS (ex_store_box (k := 0) (cs := [(I 0), (.slice none 0 0), (I 0)]) (vs := [(I x8.1), (Sl a15 x8.2.1 c16), (I x8.2.2)]) (cs' := [(I x8.1), (Sl a15 x8.2.1 c16), (I x8.2.2)]) H (i := 0) rfl ti34 rfl rfl rfl rfl rfl (Nat.le_of_ble_eq_true rfl) (by simp [plain]) rfl) wn ?_
    rintro σ20 ⟨H, -⟩
    refine w_end (q_then (c_seq (rg (sm (.func (.func 72) #[] #[(pt Hl Hm)]) rfl ?_))))
    have hc21 := H.cells 0 rfl
    refine st (v := (.agg #[(I x8.1), (Sl a15 x8.2.1 c16), (I x8.2.2)])) (rv_load (cs := [(I x8.1), (Sl a15 x8.2.1 c16), (I x8.2.2)]) Tryz.underlying34 rfl ti34 rfl rfl hc21) ?_
    revert h; refine br fun r22 hx23 h => ?_
    have hc24 := c_impl_RerankNearest_1__p_Simpl_Hit (As := a15) (Au := c16) (Ea := Hk) (Eb := Hl) (Ec := Hm) (Ed := Hn) (Ee := Ho) (Gi := Hi) (Gj := Hj) hx23
    refine st_call (cx_call hc24 (ent_v (cap := [(pt Hl Hm)]) hc24.fn rfl rfl) hn0 (H.sel' [1, 3, 2, 0, 1, 2, 4, 5] rfl rfl : Hp S0 σ0 _ ([_, _, _] ++ _))) wn ?_
    rintro _ σ25 ⟨_, ⟨rfl, rfl⟩, H, -⟩
    replace H : Hp _ _ _ [_, _, _, _, _, _] := H
    refine w_end (q_then ?_)
    refine cd_cond r22 rfl (fun hb26 => ?_) (fun hb26 => ?_)
    ·replace h := bif_t hb26 h
     refine rg (sm (Sl a4 s2.1 c5) rfl ?_)
     have hc27 := H.cells 1 rfl
     refine st (v := (.agg #[(I x8.1), (Sl a15 x8.2.1 c16), (I x8.2.2)])) (rv_load (cs := [(I x8.1), (Sl a15 x8.2.1 c16), (I x8.2.2)]) Tryz.underlying34 rfl ti34 rfl rfl hc27) ?_
     refine st_ex (ex_buildSlice (el := 0) (xs := ([(x8.1, x8.2.1, x8.2.2)] : List (Int × (List Int) × Int))) (ps := [(0, (.agg #[(I x8.1), (Sl a15 x8.2.1 c16), (I x8.2.2)]))]) (cs := [(I x8.1), (Sl a15 x8.2.1 c16), (I x8.2.2)]) H hn0 Tryz.underlying26 ti34 rfl rfl (by kernel_rfl) (.cons (c := [(I x8.1), (Sl a15 x8.2.1 c16), (I x8.2.2)]) ⟨[(I x8.1)], [(Sl a15 x8.2.1 c16), (I x8.2.2)], rfl, rfl, ⟨[(Sl a15 x8.2.1 c16)], [(I x8.2.2)], rfl, ⟨_, rfl, (H.ro 2 rfl)⟩, rfl⟩⟩ (.nil)) rfl) wn ?_
     rintro _ σ29 ⟨b28, rfl, H, -⟩
     revert h; refine br fun xs30 hx31 h => ?_
     refine st_ex (ex_append H (i := 5) rfl Tryz.underlying26 Tryz.underlying26 ti34 rfl rfl (by decide) (H.own 0 rfl).rd hx31 hn0 rfl rfl) wn ?_
     rintro _ σ34 ⟨a32, c33, rfl, H, -⟩
     refine sa (Sl a32 xs30 c33) rfl (w_end (q_blk ?_))
     obtain rfl := sj h
     exact ⟨rfl, _, σ34, a32, c33, fr_join ⟨rfl, rfl, rfl, rfl, rfl, trivial⟩, rfl, H.sel' [5, 2, 0, 6] rfl rfl⟩
    ·replace h := bif_f hb26 h
     refine c_skip (q_blk ?_)
     obtain rfl := sj h
     exact ⟨rfl, _, σ25, a4, c5, fr_join ⟨rfl, rfl, rfl, rfl, rfl, trivial⟩, rfl, H.sel' [3, 0, 4, 5] rfl rfl⟩
   ·clear hj
    have h := h'
    clear h' H
    rintro e a w ⟨rfl, ρ, σ35, a36, c37, rfl, rfl, H⟩
    refine q_then (rg (st (v := (I (w64 (s2.2 + 1)))) (rv_add (a := s2.2) (b := 1) rfl rfl) (sm (I (w64 (s2.2 + 1))) rfl (w_end (q_then ?_)))))
    obtain rfl := sj h
    exact ⟨_, rfl, _, σ35, a36, c37, fr_join ⟨rfl, rfl, rfl, rfl, rfl, trivial⟩, rfl, H.sel' [0, 1, 2, 3] rfl rfl⟩
  ·replace h := bif_f hb6 h
   refine c_exit (q_then_x (q_then_x (q_blk_hit ?_)))
   obtain rfl := sj h
   obtain rfl := hres _ rfl
   exact ⟨rfl, _, σ3, a4, c5, fr_join ⟨rfl, rfl, trivial⟩, rfl, H.sel' [0, 1, 2] rfl rfl⟩
 ·clear hj
  have h := h'
  clear h' H
  rintro e a w ⟨rfl, ρ, σ38, a39, c40, rfl, rfl, H⟩
  refine q_then (c_seq (rg (sm (Sl a39 o1 c40) rfl (sa (Sl a39 o1 c40) rfl (w_end (q_then (c_ret ?_)))))))
  obtain rfl := sj h
  exact fin_ret (v := (Sl a39 o1 c40)) (results_ok Tryz.results71 (res_tmp (v := (Sl a39 o1 c40)) rfl res_nil) rfl) ⟨a39, c40, rfl, rfl⟩ (H.sel' [2, 1] rfl rfl)

end Go.Vs
