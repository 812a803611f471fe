/- The functions compute what their models say. -/
import Derived.Test.YtjcaokajkkkniacKExactCodeDistancesC1
set_option linter.unusedVariables false
set_option linter.unusedSimpArgs false
set_option maxRecDepth 20000
namespace Go.Vs
open Go Go.Proofs
attribute [local irreducible] Code.wp Code.wpIn wpList wpListIn wpQuiet Calls CallsIn

theorem c_laws_eqIntS {Aa : List Int} {Bu : List Int} {Ad : Option Addr} {Ae : Nat} {Bv : Option Addr} {Bw : Nat} {r : Bool} (h : M.laws_eqIntS Aa Bu = some r) :
    Cal2 Try.prog 13 [(Sl Ad Aa Ae), (Sl Bv Bu Bw)] [Ch.ro 0 (Sl Ad Aa Ae) Aa, Ch.ro 0 (Sl Bv Bu Bw) Bu] (fun n0 v L => v = (B r) ∧ L = []) := by
 refine cal2 (n := 26) Try.func13 rfl rfl rfl rfl ?_
 intro S0 σ0 n0 hn0 H
 unfold M.laws_eqIntS at h
 refine c_seq (rg (sa (B false) rfl (w_end (q_then (c_seq (c_seq (rg (sm (Sl Ad Aa Ae) rfl (st (v := (I (Aa.length : Int))) (rv_len Try.underlying25 rfl) (sm (Sl Bv Bu Bw) rfl (st (v := (I (Bu.length : Int))) (rv_len Try.underlying25 rfl) ?_)))))))))))
 refine st (v := (B ((Aa.length : Int) != (Bu.length : Int)))) (rv_neq (a := (Aa.length : Int)) (b := (Bu.length : Int)) rfl rfl) (w_end (q_then ?_))
 refine cd_cond ((Aa.length : Int) != (Bu.length : Int)) rfl (fun hb1 => ?_) (fun hb1 => ?_)
 ·replace h := bif_t hb1 h
  refine c_seq (rg (sa (B false) rfl (w_end (q_then (c_ret (q_then_r ?_))))))
  obtain rfl := sj h
  exact fin_ret (v := (B false)) (results_ok Try.results13 (res_tmp (v := (B false)) rfl res_nil) rfl) ⟨rfl, rfl⟩ (H.sel' [] rfl rfl)
 ·replace h := bif_f hb1 h
  refine c_skip (q_then (c_seq (c_seq (rg (sa (I 0) rfl (w_end (q_then ?_)))))))
  obtain ⟨o2, hj, h'⟩ := bind_some h
  clear h
  refine c_cut (fun e a w => (∃ t, o2 = (.inl t) ∧ e = .normal ∧ ∃ (ρ : Nat → Value) (σ : St), a = fr 26 (updL ρ []) ∧ w = σ.w ∧ Hp S0 σ0 σ []) ∨ (∃ t, o2 = (.inr t) ∧ e = .ret ∧ ∃ (ρ : Nat → Value) (σ : St), a = fr 26 (updL ρ [(4, (B t))]) ∧ w = σ.w ∧ Hp S0 σ0 σ [])) ?_ ?_
  ·clear h'
   rename _ = some o2 => h
   refine c_blk (wp_loopM _ h (fun s3 a w => ∃ (ρ : Nat → Value) (σ : St), a = fr 26 (updL ρ [(0, (Sl Ad Aa Ae)), (1, (Sl Bv Bu Bw)), (5, (I s3))]) ∧ w = σ.w ∧ Hp S0 σ0 σ [Ch.ro 0 (Sl Ad Aa Ae) Aa, Ch.ro 0 (Sl Bv Bu Bw) Bu]) ⟨_, σ0, fr_join ⟨rfl, rfl, rfl, trivial⟩, rfl, H.sel' [0, 1] rfl rfl⟩ ?_)
   clear h H
   rintro s3 a w o ⟨ρ, σ4, rfl, rfl, H⟩ h hres
   refine c_seq (c_seq (rg (sm (I s3) rfl (sm (Sl Ad Aa Ae) rfl (st (v := (I (Aa.length : Int))) (rv_len Try.underlying25 rfl) (st (v := (B (decide (s3 < (Aa.length : Int))))) (rv_lss (a := s3) (b := (Aa.length : Int)) rfl rfl) (w_end (q_then ?_))))))))
   refine cd_cond (decide (s3 < (Aa.length : Int))) rfl (fun hb5 => ?_) (fun hb5 => ?_)
   ·replace h := bif_t hb5 h
    refine c_skip (q_then (c_seq (c_blk (c_seq ?_))))
    refine rgP (σ := σ4) 8 (by kernel_rfl) (by kernel_rfl) (by kernel_rfl) ?_
    refine sq (v := (Sl Ad Aa Ae)) (rv_move rfl) (sq (v := (I s3)) (rv_move rfl) ?_)
    revert h; refine br fun x6 hx7 h => ?_
    obtain ⟨b9, o10, hi8, -⟩ := (H.ro 0 rfl).ix hx7
    refine sq (v := (pt b9 o10)) (rv_ix Try.underlying25 ti3 rfl rfl hi8) ?_
    have hc11 := ((H.ro 0 rfl).at hx7 hi8).int
    refine sq (v := (I x6)) (rv_load1 Try.underlying3 rfl rfl hc11) (sq (v := (Sl Bv Bu Bw)) (rv_move rfl) (sq (v := (I s3)) (rv_move rfl) ?_))
    revert h; refine br fun x12 hx13 h => ?_
    obtain ⟨b15, o16, hi14, -⟩ := (H.ro 1 rfl).ix hx13
    refine sq (v := (pt b15 o16)) (rv_ix Try.underlying25 ti3 rfl rfl hi14) ?_
    have hc17 := ((H.ro 1 rfl).at hx13 hi14).int
    refine sq (v := (I x12)) (rv_load1 Try.underlying3 rfl rfl hc17) (sq_end ?_)
    intro σ18 hm19
    replace H := H.grow (hm19.mono fun _ h => h); clear hm19
    refine st (v := (B (x6 != x12))) (rv_neq (a := x6) (b := x12) rfl rfl) (w_end (q_then ?_))
    refine cd_cond (x6 != x12) rfl (fun hb20 => ?_) (fun hb20 => ?_)
    ·replace h := bif_t hb20 h
     refine c_seq (rg (sa (B false) rfl (w_end (q_then (c_ret (q_blk_r (q_then_r (q_then_r (q_blk_r ?_)))))))))
     obtain rfl := sj h
     obtain rfl := hres _ rfl
     exact .inr (⟨_, rfl, rfl, _, σ18, fr_join ⟨rfl, trivial⟩, rfl, H.sel' [] rfl rfl⟩)
    ·replace h := bif_f hb20 h
     refine c_skip (q_blk (q_then (rg (sm (I s3) rfl (st (v := (I (w64 (s3 + 1)))) (rv_add (a := s3) (b := 1) rfl rfl) (sa (I (w64 (s3 + 1))) rfl (w_end (q_then ?_))))))))
     obtain rfl := sj h
     exact ⟨_, rfl, _, σ18, fr_join ⟨rfl, rfl, rfl, trivial⟩, rfl, H.sel' [0, 1] rfl rfl⟩
   ·replace h := bif_f hb5 h
    refine c_exit (q_then_x (q_then_x (q_blk_hit ?_)))
    obtain rfl := sj h
    obtain rfl := hres _ rfl
    exact .inl ⟨_, rfl, rfl, _, σ4, fr_join trivial, rfl, H.sel' [] rfl rfl⟩
  ·clear hj
   have h := h'
   clear h' H
   rintro e a w (⟨t21, rfl, rfl, ρ, σ22, rfl, rfl, H⟩ | ⟨t23, rfl, rfl, ρ, σ24, rfl, rfl, H⟩)
   ·replace h := selim_l h
    refine q_then (c_seq (rg (sa (B true) rfl (w_end (q_then (c_ret ?_))))))
    obtain rfl := sj h
    exact fin_ret (v := (B true)) (results_ok Try.results13 (res_tmp (v := (B true)) rfl res_nil) rfl) ⟨rfl, rfl⟩ (H.sel' [] rfl rfl)
   ·replace h := selim_r h
    refine q_then_r ?_
    obtain rfl := sj h
    exact fin_ret (v := (B t23)) (results_ok Try.results13 (res_tmp (v := (B t23)) rfl res_nil) rfl) ⟨rfl, rfl⟩ (H.sel' [] rfl rfl)

theorem c_laws_eqIntSS {Aa : List (List Int)} {Bu : List (List Int)} {Ad : Option Addr} {Ae : Nat} {Bv : Option Addr} {Bw : Nat} {r : Bool} (h : M.laws_eqIntSS Aa Bu = some r) :
    Cal2 Try.prog 22 [(Sl Ad Aa Ae), (Sl Bv Bu Bw)] [Ch.ro 0 (Sl Ad Aa Ae) Aa, Ch.ro 0 (Sl Bv Bu Bw) Bu] (fun n0 v L => v = (B r) ∧ L = []) := by
 refine cal2 (n := 27) Try.func22 rfl rfl rfl rfl ?_
 intro S0 σ0 n0 hn0 H
 unfold M.laws_eqIntSS at h
 refine c_seq (rg (sa (B false) rfl (w_end (q_then (c_seq (c_seq (rg (sm (Sl Ad Aa Ae) rfl (st (v := (I (Aa.length : Int))) (rv_len Try.underlying22 rfl) (sm (Sl Bv Bu Bw) rfl (st (v := (I (Bu.length : Int))) (rv_len Try.underlying22 rfl) ?_)))))))))))
 refine st (v := (B ((Aa.length : Int) != (Bu.length : Int)))) (rv_neq (a := (Aa.length : Int)) (b := (Bu.length : Int)) rfl rfl) (w_end (q_then ?_))
 refine cd_cond ((Aa.length : Int) != (Bu.length : Int)) rfl (fun hb1 => ?_) (fun hb1 => ?_)
 ·replace h := bif_t hb1 h
  refine c_seq (rg (sa (B false) rfl (w_end (q_then (c_ret (q_then_r ?_))))))
  obtain rfl := sj h
  exact fin_ret (v := (B false)) (results_ok Try.results22 (res_tmp (v := (B false)) rfl res_nil) rfl) ⟨rfl, rfl⟩ (H.sel' [] rfl rfl)
 ·replace h := bif_f hb1 h
  refine c_skip (q_then (c_seq (c_seq (rg (sa (I 0) rfl (w_end (q_then ?_)))))))
  obtain ⟨o2, hj, h'⟩ := bind_some h
  clear h
  refine c_cut (fun e a w => (∃ t, o2 = (.inl t) ∧ e = .normal ∧ ∃ (ρ : Nat → Value) (σ : St), a = fr 27 (updL ρ []) ∧ w = σ.w ∧ Hp S0 σ0 σ []) ∨ (∃ t, o2 = (.inr t) ∧ e = .ret ∧ ∃ (ρ : Nat → Value) (σ : St), a = fr 27 (updL ρ [(4, (B t))]) ∧ w = σ.w ∧ Hp S0 σ0 σ [])) ?_ ?_
  ·clear h'
   rename _ = some o2 => h
   refine c_blk (wp_loopM _ h (fun s3 a w => ∃ (ρ : Nat → Value) (σ : St), a = fr 27 (updL ρ [(0, (Sl Ad Aa Ae)), (1, (Sl Bv Bu Bw)), (5, (I s3))]) ∧ w = σ.w ∧ Hp S0 σ0 σ [Ch.ro 0 (Sl Ad Aa Ae) Aa, Ch.ro 0 (Sl Bv Bu Bw) Bu]) ⟨_, σ0, fr_join ⟨rfl, rfl, rfl, trivial⟩, rfl, H.sel' [0, 1] rfl rfl⟩ ?_)
   clear h H
   rintro s3 a w o ⟨ρ, σ4, rfl, rfl, H⟩ h hres
   refine c_seq (c_seq (rg (sm (I s3) rfl (sm (Sl Ad Aa Ae) rfl (st (v := (I (Aa.length : Int))) (rv_len Try.underlying22 rfl) (st (v := (B (decide (s3 < (Aa.length : Int))))) (rv_lss (a := s3) (b := (Aa.length : Int)) rfl rfl) (w_end (q_then ?_))))))))
   refine cd_cond (decide (s3 < (Aa.length : Int))) rfl (fun hb5 => ?_) (fun hb5 => ?_)
   ·replace h := bif_t hb5 h
    refine c_skip (q_then (c_seq (c_blk (c_seq ?_))))
    refine rgP (σ := σ4) 8 (by kernel_rfl) (by kernel_rfl) (by kernel_rfl) ?_
    refine sq (v := (Sl Ad Aa Ae)) (rv_move rfl) (sq (v := (I s3)) (rv_move rfl) ?_)
    revert h; refine br fun x6 hx7 h => ?_
    obtain ⟨b9, o10, hi8, -⟩ := (H.ro 0 rfl).ix hx7
    refine sq (v := (pt b9 o10)) (rv_ix Try.underlying22 ti25 rfl rfl hi8) ?_
    obtain ⟨v14, hc15, hR13⟩ := ((H.ro 0 rfl).at hx7 hi8).slice
    obtain ⟨a11, c12, rfl⟩ := hR13.isSl
    replace H := H.add (d := Ch.ro 0 (Sl a11 x6 c12) x6) hR13 (fun _ h => h)
    clear hR13
    refine sq (v := (Sl a11 x6 c12)) (rv_load1 Try.underlying25 rfl rfl hc15) (sq (v := (Sl Bv Bu Bw)) (rv_move rfl) (sq (v := (I s3)) (rv_move rfl) ?_))
    revert h; refine br fun x16 hx17 h => ?_
    obtain ⟨b19, o20, hi18, -⟩ := (H.ro 2 rfl).ix hx17
    refine sq (v := (pt b19 o20)) (rv_ix Try.underlying22 ti25 rfl rfl hi18) ?_
    obtain ⟨v24, hc25, hR23⟩ := ((H.ro 2 rfl).at hx17 hi18).slice
    obtain ⟨a21, c22, rfl⟩ := hR23.isSl
    replace H := H.add (d := Ch.ro 0 (Sl a21 x16 c22) x16) hR23 (fun _ h => h)
    clear hR23
    refine sq (v := (Sl a21 x16 c22)) (rv_load1 Try.underlying25 rfl rfl hc25) (sq_end ?_)
    intro σ26 hm27
    replace H := H.grow (hm27.mono fun _ h => h); clear hm27
    revert h; refine br fun r28 hx29 h => ?_
    have hc30 := c_laws_eqIntS (Ad := a11) (Ae := c12) (Bv := a21) (Bw := c22) hx29
    refine st_call (cx_call hc30 (ent_f hc30.fn rfl) hn0 (H.sel' [1, 0, 0, 1, 2, 3] rfl rfl : Hp S0 σ0 _ ([_, _] ++ _))) wn ?_
    rintro _ σ31 ⟨_, ⟨rfl, rfl⟩, H, -⟩
    replace H : Hp _ _ _ [_, _, _, _] := H
    refine st (v := (B (!r28))) (rv_not rfl) (w_end (q_then ?_))
    refine cd_cond (!r28) rfl (fun hb32 => ?_) (fun hb32 => ?_)
    ·replace h := bif_t hb32 h
     refine c_seq (rg (sa (B false) rfl (w_end (q_then (c_ret (q_blk_r (q_then_r (q_then_r (q_blk_r ?_)))))))))
     obtain rfl := sj h
     obtain rfl := hres _ rfl
     exact .inr (⟨_, rfl, rfl, _, σ31, fr_join ⟨rfl, trivial⟩, rfl, H.sel' [] rfl rfl⟩)
    ·replace h := bif_f hb32 h
     refine c_skip (q_blk (q_then (rg (sm (I s3) rfl (st (v := (I (w64 (s3 + 1)))) (rv_add (a := s3) (b := 1) rfl rfl) (sa (I (w64 (s3 + 1))) rfl (w_end (q_then ?_))))))))
     obtain rfl := sj h
     exact ⟨_, rfl, _, σ31, fr_join ⟨rfl, rfl, rfl, trivial⟩, rfl, H.sel' [2, 3] rfl rfl⟩
   ·replace h := bif_f hb5 h
    refine c_exit (q_then_x (q_then_x (q_blk_hit ?_)))
    obtain rfl := sj h
    obtain rfl := hres _ rfl
    exact .inl ⟨_, rfl, rfl, _, σ4, fr_join trivial, rfl, H.sel' [] rfl rfl⟩
  ·clear hj
   have h := h'
   clear h' H
   rintro e a w (⟨t33, rfl, rfl, ρ, σ34, rfl, rfl, H⟩ | ⟨t35, rfl, rfl, ρ, σ36, rfl, rfl, H⟩)
   ·replace h := selim_l h
    refine q_then (c_seq (rg (sa (B true) rfl (w_end (q_then (c_ret ?_))))))
    obtain rfl := sj h
    exact fin_ret (v := (B true)) (results_ok Try.results22 (res_tmp (v := (B true)) rfl res_nil) rfl) ⟨rfl, rfl⟩ (H.sel' [] rfl rfl)
   ·replace h := selim_r h
    refine q_then_r ?_
    obtain rfl := sj h
    exact fin_ret (v := (B t35)) (results_ok Try.results22 (res_tmp (v := (B t35)) rfl res_nil) rfl) ⟨rfl, rfl⟩ (H.sel' [] rfl rfl)

theorem c_laws_eqBook {Aa : (List (List Int)) × (List (List Int))} {Bu : (List (List Int)) × (List (List Int))} {Af : Option Addr} {Ag : Nat} {Ah : Option Addr} {Ai : Nat} {By : Option Addr} {Bz : Nat} {Ca : Option Addr} {Cb : Nat} {r : Bool} (h : M.laws_eqBook Aa Bu = some r) :
    Cal2 Try.prog 14 [(.agg #[(Sl Af Aa.1 Ag), (Sl Ah Aa.2 Ai)]), (.agg #[(Sl By Bu.1 Bz), (Sl Ca Bu.2 Cb)])] [Ch.ro 0 (Sl Af Aa.1 Ag) Aa.1, Ch.ro 0 (Sl Ah Aa.2 Ai) Aa.2, Ch.ro 0 (Sl By Bu.1 Bz) Bu.1, Ch.ro 0 (Sl Ca Bu.2 Cb) Bu.2] (fun n0 v L => v = (B r) ∧ L = []) := by
 refine cal2 (n := 17) Try.func14 rfl rfl rfl rfl ?_
 intro S0 σ0 n0 hn0 H
 unfold M.laws_eqBook at h
 refine c_seq (rg (st_ex (ex_box (cs := [(Sl Af Aa.1 Ag), (Sl Ah Aa.2 Ai)]) H hn0 rfl rfl) wn ?_))
 rintro _ σ2 ⟨b1, rfl, H, -⟩
 refine st_ex (ex_box (cs := [(Sl By Bu.1 Bz), (Sl Ca Bu.2 Cb)]) H hn0 rfl rfl) wn ?_
 rintro _ σ4 ⟨b3, rfl, H, -⟩
 refine sa (B false) rfl (w_end (q_then (c_seq (c_seq (rg (st (v := (pt b1 0)) (rv_fieldAddr (off := 0) (ft := 22) Try.underlying28 rfl ti22 rfl rfl) ?_))))))
 have hc5 := H.cell (u := (Sl Af Aa.1 Ag)) (o' := 0) 1 0 rfl rfl rfl
 refine st (v := (Sl Af Aa.1 Ag)) (rv_load1 Try.underlying22 rfl rfl hc5) (st (v := (pt b3 0)) (rv_fieldAddr (off := 0) (ft := 22) Try.underlying28 rfl ti22 rfl rfl) ?_)
 have hc6 := H.cell (u := (Sl By Bu.1 Bz)) (o' := 0) 0 0 rfl rfl rfl
 refine st (v := (Sl By Bu.1 Bz)) (rv_load1 Try.underlying22 rfl rfl hc6) ?_
 revert h; refine br fun r7 hx8 h => ?_
 have hc9 := c_laws_eqIntSS (Ad := Af) (Ae := Ag) (Bv := By) (Bw := Bz) hx8
 refine st_call (cx_call hc9 (ent_f hc9.fn rfl) hn0 (H.sel' [2, 4, 0, 1, 2, 3, 4, 5] rfl rfl : Hp S0 σ0 _ ([_, _] ++ _))) wn ?_
 rintro _ σ10 ⟨_, ⟨rfl, rfl⟩, H, -⟩
 replace H : Hp _ _ _ [_, _, _, _, _, _] := H
 refine st (v := (B (!r7))) (rv_not rfl) (w_end (q_then ?_))
 refine cd_cond (!r7) rfl (fun hb11 => ?_) (fun hb11 => ?_)
 ·replace h := bif_t hb11 h
  refine c_seq (rg (sa (B false) rfl (w_end (q_then (c_ret (q_then_r ?_))))))
  obtain rfl := sj h
  exact fin_ret (v := (B false)) (results_ok Try.results14 (res_tmp (v := (B false)) rfl res_nil) rfl) ⟨rfl, rfl⟩ (H.sel' [] rfl rfl)
 ·replace h := bif_f hb11 h
  refine c_skip (q_then (c_seq (c_seq (rg (st (v := (pt b1 1)) (rv_fieldAddr (off := 1) (ft := 22) Try.underlying28 rfl ti22 rfl rfl) ?_)))))
  have hc12 := H.cell (u := (Sl Ah Aa.2 Ai)) (o' := 1) 1 1 rfl rfl rfl
  refine st (v := (Sl Ah Aa.2 Ai)) (rv_load1 Try.underlying22 rfl rfl hc12) (st (v := (pt b3 1)) (rv_fieldAddr (off := 1) (ft := 22) Try.underlying28 rfl ti22 rfl rfl) ?_)
  have hc13 := H.cell (u := (Sl Ca Bu.2 Cb)) (o' := 1) 0 1 rfl rfl rfl
  refine st (v := (Sl Ca Bu.2 Cb)) (rv_load1 Try.underlying22 rfl rfl hc13) ?_
  revert h; refine br fun r14 hx15 h => ?_
  have hc16 := c_laws_eqIntSS (Ad := Ah) (Ae := Ai) (Bv := Ca) (Bw := Cb) hx15
  refine st_call (cx_call hc16 (ent_f hc16.fn rfl) hn0 (H.sel' [3, 5, 0, 1, 2, 3, 4, 5] rfl rfl : Hp S0 σ0 _ ([_, _] ++ _))) wn ?_
  rintro _ σ17 ⟨_, ⟨rfl, rfl⟩, H, -⟩
  replace H : Hp _ _ _ [_, _, _, _, _, _] := H
  refine st (v := (B (!r14))) (rv_not rfl) (w_end (q_then ?_))
  refine cd_cond (!r14) rfl (fun hb18 => ?_) (fun hb18 => ?_)
  ·replace h := bif_t hb18 h
   refine c_seq (rg (sa (B false) rfl (w_end (q_then (c_ret (q_then_r ?_))))))
   obtain rfl := sj h
   exact fin_ret (v := (B false)) (results_ok Try.results14 (res_tmp (v := (B false)) rfl res_nil) rfl) ⟨rfl, rfl⟩ (H.sel' [] rfl rfl)
  ·replace h := bif_f hb18 h
   refine c_skip (q_then (c_seq (rg (sa (B true) rfl (w_end (q_then (c_ret ?_)))))))
   obtain rfl := sj h
   exact fin_ret (v := (B true)) (results_ok Try.results14 (res_tmp (v := (B true)) rfl res_nil) rfl) ⟨rfl, rfl⟩ (H.sel' [] rfl rfl)

theorem c_laws_markIntS {Aa : List Int} {Cc : Int} {Ad : Option Addr} {Ae : Nat} {r : Int × (List Int)} (h : M.laws_markIntS Aa Cc = some r) :
    Cal2 Try.prog 16 [(Sl Ad Aa Ae), (I Cc)] [Ch.own 0 0 (Sl Ad Aa Ae) Aa] (fun n0 v L => v = (I r.1) ∧ L = [Ch.own 0 0 (Sl Ad r.2 Ae) r.2] ∧ r.2.length = Aa.length) := by
 refine cal2 (n := 19) Try.func16 rfl rfl rfl rfl ?_
 intro S0 σ0 n0 hn0 H
 unfold M.laws_markIntS at h
 refine c_seq (rg (sa (I 0) rfl (w_end (q_then (c_seq (c_seq (rg (sa (I 0) rfl (w_end (q_then ?_))))))))))
 obtain ⟨o1, hj, h'⟩ := bind_some h
 clear h
 refine c_cut (fun e a w => e = .normal ∧ ∃ (ρ : Nat → Value) (σ : St), a = fr 19 (updL ρ [(0, (Sl Ad o1.1 Ae)), (1, (I o1.2))]) ∧ w = σ.w ∧ Hp S0 σ0 σ [Ch.own 0 0 (Sl Ad o1.1 Ae) o1.1] ∧ o1.1.length = Aa.length) ?_ ?_
 ·clear h'
  rename _ = some o1 => h
  refine c_blk (wp_loopM _ h (fun s2 a w => ∃ (ρ : Nat → Value) (σ : St), a = fr 19 (updL ρ [(0, (Sl Ad s2.1 Ae)), (1, (I s2.2.1)), (5, (I s2.2.2))]) ∧ w = σ.w ∧ Hp S0 σ0 σ [Ch.own 0 0 (Sl Ad s2.1 Ae) s2.1] ∧ s2.1.length = Aa.length) ⟨_, σ0, fr_join ⟨rfl, rfl, rfl, trivial⟩, rfl, H.sel' [0] rfl rfl, rfl⟩ ?_)
  clear h H
  rintro s2 a w o ⟨ρ, σ3, rfl, rfl, H, hn4⟩ h hres
  refine c_seq (c_seq (rg (sm (I s2.2.2) rfl (sm (Sl Ad s2.1 Ae) rfl (st (v := (I (s2.1.length : Int))) (rv_len Try.underlying25 rfl) (st (v := (B (decide (s2.2.2 < (s2.1.length : Int))))) (rv_lss (a := s2.2.2) (b := (s2.1.length : Int)) rfl rfl) (w_end (q_then ?_))))))))
  refine cd_cond (decide (s2.2.2 < (s2.1.length : Int))) rfl (fun hb5 => ?_) (fun hb5 => ?_)
  ·replace h := bif_t hb5 h
   refine c_skip (q_then (c_seq (c_blk (c_seq (rg (sm (Sl Ad s2.1 Ae) rfl (sm (I s2.2.2) rfl (sm (I s2.2.1) rfl ?_))))))))
   revert h; refine br fun x6 hx7 h => ?_
   obtain ⟨b9, o10, hi8, -⟩ := (H.own 0 rfl).ix hx7
   refine st (v := (pt b9 o10)) (rv_ix Try.underlying25 ti3 rfl rfl hi8) ?_
   refine st_exS (ex_store_own (e' := s2.2.1) (vs := [(I s2.2.1)]) (k := 0) H (i := 0) rfl ti3 hx7 hi8 rfl rfl rfl rfl rfl (Nat.le_of_ble_eq_true rfl) (by simp [plain]) (by rintro _ rfl; exact rfl)) wn ?_
   rintro σ11 ⟨H, -⟩
   have hsl : (Sl Ad s2.1 Ae) = (Sl Ad (s2.1.set s2.2.2.toNat s2.2.1) Ae) := sl_len List.length_set.symm
   rw [hsl]; rw [hsl] at H; clear hsl
   refine w_end (q_then (rg (sm (I s2.2.1) rfl (st (v := (I (w64 (s2.2.1 + 1)))) (rv_add (a := s2.2.1) (b := 1) rfl rfl) (sa (I (w64 (s2.2.1 + 1))) rfl (w_end (q_blk (q_then (rg (sm (I s2.2.2) rfl (st (v := (I (w64 (s2.2.2 + 1)))) (rv_add (a := s2.2.2) (b := 1) rfl rfl) ?_)))))))))))
   refine sa (I (w64 (s2.2.2 + 1))) rfl (w_end (q_then ?_))
   obtain rfl := sj h
   exact ⟨_, rfl, _, σ11, fr_join ⟨rfl, rfl, rfl, trivial⟩, rfl, H.sel' [0] rfl rfl, (List.length_set.trans hn4)⟩
  ·replace h := bif_f hb5 h
   refine c_exit (q_then_x (q_then_x (q_blk_hit ?_)))
   obtain rfl := sj h
   obtain rfl := hres _ rfl
   exact ⟨rfl, _, σ3, fr_join ⟨rfl, rfl, trivial⟩, rfl, H.sel' [0] rfl rfl, hn4⟩
 ·clear hj
  have h := h'
  clear h' H
  rintro e a w ⟨rfl, ρ, σ12, rfl, rfl, H, hn13⟩
  refine q_then (c_seq (rg (sm (I o1.2) rfl (sa (I o1.2) rfl (w_end (q_then (c_ret ?_)))))))
  obtain rfl := sj h
  exact fin_ret (v := (I o1.2)) (results_ok Try.results16 (res_tmp (v := (I o1.2)) rfl res_nil) rfl) ⟨rfl, rfl, hn13⟩ (H.sel' [0] rfl rfl)

theorem c_laws_markIntSS {Aa : List (List Int)} {Cc : Int} {Ad : Option Addr} {Ae : Nat} {lo : Nat} {K : List Ch} (hK : Dp lo (Sl Ad Aa Ae) Aa K) {r : Int} (h : M.markIntSD Aa Cc = some r) :
    Cal2 Try.prog 32 [(Sl Ad Aa Ae), (I Cc)] [Ch.big K] (fun n0 v L => v = (I r) ∧ L = []) := by
 obtain ⟨hn, h⟩ := markIntSD_some h
 obtain ⟨ps, hps, rfl⟩ := hK.ex
 refine cal2 (n := 19) Try.func32 rfl rfl rfl rfl ?_
 intro S0 σ0 n0 hn0 H
 refine c_seq (rg (sa (I 0) rfl (w_end (q_then (c_seq (c_seq (rg (sa (I 0) rfl (w_end (q_then ?_))))))))))
 refine c_cut (fun e a w => e = .normal ∧ ∃ (ρ : Nat → Value) (σ : St), a = fr 19 (updL ρ [(1, (I r))]) ∧ w = σ.w ∧ Hp S0 σ0 σ []) ?_ ?_
 ·refine c_blk ?_
  have hlen : ps.length = Aa.length := by rw [hps]; simp
  refine wp_loop_ghost (fun m a w => ∃ (i : Nat) (ρ : Nat → Value) (σ : St) (ys : List Value) (qs : List ((List Int) × Value)) (k : Int), i + m = Aa.length ∧ qs.length = m ∧ ys.drop i = qs.map dsh ∧ M.dmarkIntSS (qs.map (·.1)) k = some r ∧ a = fr 19 (updL ρ [(0, (Sl Ad Aa Ae)), (1, (I k)), (5, (I (i : Int)))]) ∧ w = σ.w ∧ Hp S0 σ0 σ [Ch.own lo lo (Sl Ad Aa Ae) ys, Ch.big (qs.map (dow lo))]) Aa.length ⟨0, _, σ0, _, ps, Cc, by omega, hlen, rfl, hps ▸ h, fr_join ⟨rfl, rfl, rfl, trivial⟩, rfl, H.unbig⟩ ?_
  clear H
  rintro m _ _ ⟨i, ρ, σ3, ys, qs, k, him, hqs, hys, hk, rfl, rfl, H⟩
  refine c_seq (c_seq (rg (sm (I (i : Int)) rfl (sm (Sl Ad Aa Ae) rfl (st (v := (I (Aa.length : Int))) (rv_len Try.underlying22 rfl) (st (v := (B (decide ((i : Int) < (Aa.length : Int))))) (rv_lss (a := (i : Int)) (b := (Aa.length : Int)) rfl rfl) (w_end (q_then ?_))))))))
  refine cd_cond (decide ((i : Int) < (Aa.length : Int))) rfl (fun hb => ?_) (fun hb => ?_)
  ·have hlt : i < Aa.length := by have := of_decide_eq_true hb; omega
   obtain ⟨m, rfl⟩ : ∃ m', m = m' + 1 := ⟨m - 1, by omega⟩
   obtain ⟨p, qs, rfl⟩ : ∃ p qs', qs = p :: qs' := by cases qs with
    | nil => cases hqs
    | cons p qs => exact ⟨p, qs, rfl⟩
   obtain ⟨q, hq, hk'⟩ := bind_some (show (M.laws_markIntS p.1 k).bind (fun q => M.dmarkIntSS (qs.map (·.1)) q.1) = some r from hk)
   replace hys : ys.drop i = dsh p :: qs.map dsh := hys
   refine c_skip (q_then (c_seq (c_blk (rg (sm (Sl Ad Aa Ae) rfl (sm (I (i : Int)) rfl ?_))))))
   have hx7 := gidx_drop hys
   obtain ⟨b9, o10, hi8, -⟩ := (H.own 0 rfl).ix hx7
   refine st (v := (pt b9 o10)) (rv_ix Try.underlying22 ti25 rfl rfl hi8) ?_
   obtain ⟨_, ⟨rfl, hpl⟩, hl18, hc19⟩ := ((H.own 0 rfl).at hx7 hi8).cells
   replace H := Hp.unbig (H.sel' [1, 0] rfl rfl)
   obtain ⟨a20, c21, h22⟩ : IsSl p.2 p.1.length := (show Ow σ3 lo lo p.2 p.1 from H.head).isSl
   obtain ⟨px, hd⟩ := p
   dsimp only at h22 hq hys hc19
   subst h22
   have hc20 := hc19 0 (by simp)
   refine st (v := (Sl a20 px c21)) (rv_load1 Try.underlying25 rfl rfl hc20) (sm (I k) rfl ?_)
   replace H : Hp _ _ _ [_, _, _] := H
   replace H := H.ownSc 0 0 0 rfl (Nat.zero_le _)
   have hc25 := c_laws_markIntS (Ad := a20) (Ae := c21) hq
   refine st_call (cx_call hc25 (ent_f hc25.fn rfl) hn0 (H.sel' [0, 1, 2] rfl rfl : Hp S0 σ0 _ ([_] ++ _))) (wanted_none _ rfl _) ?_
   rintro _ σ29 ⟨_, ⟨rfl, rfl, -⟩, H, -⟩
   replace H : Hp _ _ _ [_, _, _] := H
   replace H := H.sel' [2, 1] rfl rfl
   refine sa (I q.1) rfl (w_end (q_blk (q_then (rg (sm (I (i : Int)) rfl (st (v := (I (w64 ((i : Int) + 1)))) (rv_add (a := (i : Int)) (b := 1) rfl rfl) (sa (I (w64 ((i : Int) + 1))) rfl (w_end ?_))))))))
   have e1 : w64 ((i : Int) + 1) = ((i + 1 : Nat) : Int) := w64_id (by omega) (by omega)
   rw [e1]
   refine q_then ?_
   exact ⟨m, by omega, i + 1, _, σ29, _, qs, _, by omega, by simpa using hqs, drop_next hys, hk', fr_join ⟨rfl, rfl, rfl, trivial⟩, rfl, H⟩
  ·have hlt : ¬ i < Aa.length := by have := of_decide_eq_false hb; omega
   obtain rfl : m = 0 := by omega
   obtain rfl : qs = [] := List.eq_nil_of_length_eq_zero hqs
   obtain rfl : k = r := Option.some.inj hk
   refine c_exit (q_then_x (q_then_x (q_blk_hit ?_)))
   exact ⟨rfl, _, σ3, fr_join ⟨rfl, trivial⟩, rfl, H.sel' [] rfl rfl⟩
 ·clear H
  rintro e a w ⟨rfl, ρ, σ41, rfl, rfl, H⟩
  refine q_then (c_seq (rg (sm (I r) rfl (sa (I r) rfl (w_end (q_then (c_ret ?_)))))))
  exact fin_ret (v := (I r)) (results_ok Try.results32 (res_tmp (v := (I r)) rfl res_nil) rfl) ⟨rfl, rfl⟩ H


theorem c_laws_markBook {Aa : (List (List Int)) × (List (List Int))} {Cc : Int} {Af : Option Addr} {Ag : Nat} {Cd : Nat} {Ce : List Ch} (Cf : Dp Cd (Sl Af Aa.1 Ag) Aa.1 Ce) {Ah : Option Addr} {Ai : Nat} {Cg : Nat} {Ci : List Ch} (Cj : Dp Cg (Sl Ah Aa.2 Ai) Aa.2 Ci) {r : Int} (h : M.laws_markBook Aa Cc = some r) :
    Cal2 Try.prog 15 [(.agg #[(Sl Af Aa.1 Ag), (Sl Ah Aa.2 Ai)]), (I Cc)] [Ch.big Ce, Ch.big Ci] (fun n0 v L => v = (I r) ∧ L = []) := by
 refine cal2 (n := 14) Try.func15 rfl rfl rfl rfl ?_
 intro S0 σ0 n0 hn0 H
 unfold M.laws_markBook at h
 refine c_seq (rg (st_ex (ex_box (cs := [(Sl Af Aa.1 Ag), (Sl Ah Aa.2 Ai)]) H hn0 rfl rfl) wn ?_))
 rintro _ σ2 ⟨b1, rfl, H, -⟩
 refine sa (I 0) rfl (w_end (q_then (c_seq (rg (st (v := (pt b1 0)) (rv_fieldAddr (off := 0) (ft := 22) Try.underlying28 rfl ti22 rfl rfl) ?_)))))
 have hc3 := H.cell (u := (Sl Af Aa.1 Ag)) (o' := 0) 0 0 rfl rfl rfl
 refine st (v := (Sl Af Aa.1 Ag)) (rv_load1 Try.underlying22 rfl rfl hc3) (sm (I Cc) rfl ?_)
 revert h; refine br fun r4 hx5 h => ?_
 have hc6 := c_laws_markIntSS (Ad := Af) (Ae := Ag) (hK := Cf) hx5
 refine st_call (cx_call hc6 (ent_f hc6.fn rfl) hn0 (H.sel' [1, 0, 2] rfl rfl : Hp S0 σ0 _ ([_] ++ _))) wn ?_
 rintro _ σ7 ⟨_, ⟨rfl, rfl⟩, H, -⟩
 replace H : Hp _ _ _ [_, _] := H
 refine sa (I r4) rfl (w_end (q_then (c_seq (rg (st (v := (pt b1 1)) (rv_fieldAddr (off := 1) (ft := 22) Try.underlying28 rfl ti22 rfl rfl) ?_)))))
 have hc8 := H.cell (u := (Sl Ah Aa.2 Ai)) (o' := 1) 0 1 rfl rfl rfl
 refine st (v := (Sl Ah Aa.2 Ai)) (rv_load1 Try.underlying22 rfl rfl hc8) (sm (I r4) rfl ?_)
 revert h; refine br fun r9 hx10 h => ?_
 have hc11 := c_laws_markIntSS (Ad := Ah) (Ae := Ai) (hK := Cj) hx10
 refine st_call (cx_call hc11 (ent_f hc11.fn rfl) hn0 (H.sel' [1, 0] rfl rfl : Hp S0 σ0 _ ([_] ++ _))) wn ?_
 rintro _ σ12 ⟨_, ⟨rfl, rfl⟩, H, -⟩
 replace H : Hp _ _ _ [_] := H
 refine sa (I r9) rfl (w_end (q_then (c_seq (rg (sm (I r9) rfl (sa (I r9) rfl (w_end (q_then (c_ret ?_)))))))))
 obtain rfl := sj h
 exact fin_ret (v := (I r9)) (results_ok Try.results15 (res_tmp (v := (I r9)) rfl res_nil) rfl) ⟨rfl, rfl⟩ (H.sel' [] rfl rfl)

theorem c_laws_heldIntS {Aa : List Int} {Cc : Int} {Ad : Option Addr} {Ae : Nat} {r : Int} (h : M.laws_heldIntS Aa Cc = some r) :
    Cal2 Try.prog 17 [(Sl Ad Aa Ae), (I Cc)] [Ch.ro 0 (Sl Ad Aa Ae) Aa] (fun n0 v L => v = (I r) ∧ L = []) := by
 refine cal2 (n := 21) Try.func17 rfl rfl rfl rfl ?_
 intro S0 σ0 n0 hn0 H
 unfold M.laws_heldIntS at h
 refine c_seq (rg (sa (I 0) rfl (w_end (q_then (c_seq (c_seq (rg (sa (I 0) rfl (w_end (q_then ?_))))))))))
 obtain ⟨o1, hj, h'⟩ := bind_some h
 clear h
 refine c_cut (fun e a w => (∃ t, o1 = (.inl t) ∧ e = .normal ∧ ∃ (ρ : Nat → Value) (σ : St), a = fr 21 (updL ρ [(1, (I t))]) ∧ w = σ.w ∧ Hp S0 σ0 σ []) ∨ (∃ t, o1 = (.inr t) ∧ e = .ret ∧ ∃ (ρ : Nat → Value) (σ : St), a = fr 21 (updL ρ [(4, (I t))]) ∧ w = σ.w ∧ Hp S0 σ0 σ [])) ?_ ?_
 ·clear h'
  rename _ = some o1 => h
  refine c_blk (wp_loopM _ h (fun s2 a w => ∃ (ρ : Nat → Value) (σ : St), a = fr 21 (updL ρ [(0, (Sl Ad Aa Ae)), (1, (I s2.1)), (5, (I s2.2))]) ∧ w = σ.w ∧ Hp S0 σ0 σ [Ch.ro 0 (Sl Ad Aa Ae) Aa]) ⟨_, σ0, fr_join ⟨rfl, rfl, rfl, trivial⟩, rfl, H.sel' [0] rfl rfl⟩ ?_)
  clear h H
  rintro s2 a w o ⟨ρ, σ3, rfl, rfl, H⟩ h hres
  refine c_seq (c_seq (rg (sm (I s2.2) rfl (sm (Sl Ad Aa Ae) rfl (st (v := (I (Aa.length : Int))) (rv_len Try.underlying25 rfl) (st (v := (B (decide (s2.2 < (Aa.length : Int))))) (rv_lss (a := s2.2) (b := (Aa.length : Int)) rfl rfl) (w_end (q_then ?_))))))))
  refine cd_cond (decide (s2.2 < (Aa.length : Int))) rfl (fun hb4 => ?_) (fun hb4 => ?_)
  ·replace h := bif_t hb4 h
   refine c_skip (q_then (c_seq (c_blk (c_seq (c_seq (rg (sm (Sl Ad Aa Ae) rfl (sm (I s2.2) rfl ?_))))))))
   revert h; refine br fun x5 hx6 h => ?_
   obtain ⟨b8, o9, hi7, -⟩ := (H.ro 0 rfl).ix hx6
   refine st (v := (pt b8 o9)) (rv_ix Try.underlying25 ti3 rfl rfl hi7) ?_
   have hc10 := ((H.ro 0 rfl).at hx6 hi7).int
   refine st (v := (I x5)) (rv_load1 Try.underlying3 rfl rfl hc10) (sm (I s2.1) rfl (st (v := (B (x5 != s2.1))) (rv_neq (a := x5) (b := s2.1) rfl rfl) (w_end (q_then ?_))))
   refine cd_cond (x5 != s2.1) rfl (fun hb11 => ?_) (fun hb11 => ?_)
   ·replace h := bif_t hb11 h
    refine c_seq (rg (sa (I (-1)) rfl (w_end (q_then (c_ret (q_then_r (q_blk_r (q_then_r (q_then_r (q_blk_r ?_))))))))))
    obtain rfl := sj h
    obtain rfl := hres _ rfl
    exact .inr (⟨_, rfl, rfl, _, σ3, fr_join ⟨rfl, trivial⟩, rfl, H.sel' [] rfl rfl⟩)
   ·replace h := bif_f hb11 h
    refine c_skip (q_then (rg (sm (I s2.1) rfl (st (v := (I (w64 (s2.1 + 1)))) (rv_add (a := s2.1) (b := 1) rfl rfl) (sa (I (w64 (s2.1 + 1))) rfl (w_end (q_blk (q_then (rg (sm (I s2.2) rfl (st (v := (I (w64 (s2.2 + 1)))) (rv_add (a := s2.2) (b := 1) rfl rfl) ?_)))))))))))
    refine sa (I (w64 (s2.2 + 1))) rfl (w_end (q_then ?_))
    obtain rfl := sj h
    exact ⟨_, rfl, _, σ3, fr_join ⟨rfl, rfl, rfl, trivial⟩, rfl, H.sel' [0] rfl rfl⟩
  ·replace h := bif_f hb4 h
   refine c_exit (q_then_x (q_then_x (q_blk_hit ?_)))
   obtain rfl := sj h
   obtain rfl := hres _ rfl
   exact .inl ⟨_, rfl, rfl, _, σ3, fr_join ⟨rfl, trivial⟩, rfl, H.sel' [] rfl rfl⟩
 ·clear hj
  have h := h'
  clear h' H
  rintro e a w (⟨t12, rfl, rfl, ρ, σ13, rfl, rfl, H⟩ | ⟨t14, rfl, rfl, ρ, σ15, rfl, rfl, H⟩)
  ·replace h := selim_l h
   refine q_then (c_seq (rg (sm (I t12) rfl (sa (I t12) rfl (w_end (q_then (c_ret ?_)))))))
   obtain rfl := sj h
   exact fin_ret (v := (I t12)) (results_ok Try.results17 (res_tmp (v := (I t12)) rfl res_nil) rfl) ⟨rfl, rfl⟩ (H.sel' [] rfl rfl)
  ·replace h := selim_r h
   refine q_then_r ?_
   obtain rfl := sj h
   exact fin_ret (v := (I t14)) (results_ok Try.results17 (res_tmp (v := (I t14)) rfl res_nil) rfl) ⟨rfl, rfl⟩ (H.sel' [] rfl rfl)

theorem c_laws_FnExactCodeDistances {Ck : (List (List Int)) × (List (List Int))} {Cl : List Int} {Cm : Option Addr} {Cn : Nat} {Cp : Option Addr} {Cq : Nat} {Cr : Option Addr} {Cs : Nat} {r : Bool} (h : M.laws_FnExactCodeDistances Ck Cl = some r) :
    Cal2 Try.prog 3 [(.agg #[(Sl Cm Ck.1 Cn), (Sl Cp Ck.2 Cq)]), (Sl Cr Cl Cs)] [Ch.ro 0 (Sl Cm Ck.1 Cn) Ck.1, Ch.ro 0 (Sl Cp Ck.2 Cq) Ck.2, Ch.ro 0 (Sl Cr Cl Cs) Cl] (fun n0 v L => v = (B r) ∧ L = []) := by
 refine cal2 (n := 90) Try.func3 rfl rfl rfl rfl ?_
 intro S0 σ0 n0 hn0 H
 unfold M.laws_FnExactCodeDistances at h
 refine c_seq (rg (st_ex (ex_box (cs := [(Sl Cm Ck.1 Cn), (Sl Cp Ck.2 Cq)]) H hn0 rfl rfl) wn ?_))
 rintro _ σ2 ⟨b1, rfl, H, -⟩
 refine sa (B false) rfl (w_end (q_then (c_seq (c_seq (rg (sm (Sl Cr Cl Cs) rfl (st (v := (I (Cl.length : Int))) (rv_len Try.underlying25 rfl) (st (v := (B (decide (1048576 < (Cl.length : Int))))) (rv_gtr (a := (Cl.length : Int)) (b := 1048576) rfl rfl) (w_end (q_then ?_))))))))))
 refine cd_cond (decide (1048576 < (Cl.length : Int))) rfl (fun hb3 => ?_) (fun hb3 => ?_)
 ·replace h := bif_t hb3 h
  refine c_seq (rg (sa (B true) rfl (w_end (q_then (c_ret (q_then_r ?_))))))
  obtain rfl := sj h
  exact fin_ret (v := (B true)) (results_ok Try.results3 (res_tmp (v := (B true)) rfl res_nil) rfl) ⟨rfl, rfl⟩ (H.sel' [] rfl rfl)
 ·replace h := bif_f hb3 h
  refine c_skip (q_then (c_seq (rg (sa (I 1048576) rfl (w_end (q_then (c_seq (rg ?_))))))))
  have hc4 := H.cells 0 rfl
  refine st (v := (.agg #[(Sl Cm Ck.1 Cn), (Sl Cp Ck.2 Cq)])) (rv_load (cs := [(Sl Cm Ck.1 Cn), (Sl Cp Ck.2 Cq)]) Try.underlying24 rfl ti24 rfl rfl hc4) (sm (I 1048576) rfl ?_)
  revert h; refine br fun r5 hx6 h => ?_
  have hc7 := c_laws_szBook (Af := Cm) (Ag := Cn) (Ah := Cp) (Ai := Cq) hx6
  refine st_call (cx_call hc7 (ent_f hc7.fn rfl) hn0 (H.sel' [1, 2, 0, 1, 2, 3] rfl rfl : Hp S0 σ0 _ ([_, _] ++ _))) wn ?_
  rintro _ σ8 ⟨_, ⟨rfl, rfl⟩, H, -⟩
  replace H : Hp _ _ _ [_, _, _, _] := H
  refine sa (I r5) rfl (w_end (q_then (c_seq (c_seq (rg (sm (I r5) rfl (st (v := (B (decide (r5 < 0)))) (rv_lss (a := r5) (b := 0) rfl rfl) (w_end (q_then ?_)))))))))
  refine cd_cond (decide (r5 < 0)) rfl (fun hb9 => ?_) (fun hb9 => ?_)
  ·replace h := bif_t hb9 h
   refine c_seq (rg (sa (B true) rfl (w_end (q_then (c_ret (q_then_r ?_))))))
   obtain rfl := sj h
   exact fin_ret (v := (B true)) (results_ok Try.results3 (res_tmp (v := (B true)) rfl res_nil) rfl) ⟨rfl, rfl⟩ (H.sel' [] rfl rfl)
  ·replace h := bif_f hb9 h
   refine c_skip (q_then (c_seq (rg ?_)))
   have hc10 := H.cells 0 rfl
   refine st (v := (.agg #[(Sl Cm Ck.1 Cn), (Sl Cp Ck.2 Cq)])) (rv_load (cs := [(Sl Cm Ck.1 Cn), (Sl Cp Ck.2 Cq)]) Try.underlying24 rfl ti24 rfl rfl hc10) ?_
   revert h; refine br fun r11 hx12 h => ?_
   have hc13 := c_laws_toBookD (Af := Cm) (Ag := Cn) (Ah := Cp) (Ai := Cq) hx12
   refine st_call (cx_call hc13 (ent_f hc13.fn rfl) hn0 (H.sel' [1, 2, 0, 1, 2, 3] rfl rfl : Hp S0 σ0 _ ([_, _] ++ _))) wn ?_
   rintro _ σ22 ⟨_, ⟨a14, c15, K16, a18, c19, K20, rfl, rfl, hK17, hK21⟩, H, -⟩
   replace H : Hp _ _ _ [_, _, _, _, _, _] := H
   refine sm (Sl Cr Cl Cs) rfl ?_
   revert h; refine br fun r23 hx24 h => ?_
   have hc25 := c_laws_toIntS (Ad := Cr) (Ae := Cs) hx24
   refine st_call (cx_call hc25 (ent_f hc25.fn rfl) hn0 (H.sel' [5, 0, 1, 2, 3, 4, 5] rfl rfl : Hp S0 σ0 _ ([_] ++ _))) wn ?_
   rintro _ σ29 ⟨_, ⟨a26, c27, rfl, rfl, ht28⟩, H, -⟩
   replace H : Hp _ _ _ [_, _, _, _, _, _, _] := H
   obtain ⟨σ30, hw31, H, -⟩ := H.pub 0 rfl (Nat.le_refl _)
   rw [← hw31]; clear hw31
   replace H := H.roLow 0 0 rfl (Nat.zero_le _)
   revert h; refine br fun r32 hx33 h => ?_
   have hc34 := c_spec_CodeDistances (As := a14) (Au := c15) (Av := a18) (Aw := c19) (Bj := a26) (Bk := c27) hx33
   have hle := Nat.le_trans hn0 H.size
   refine st_call (cx_lend (Loan.lendB hK17.lends (Loan.lendB hK21.lends (Loan.same Loan.nil))) hc34 (ent_f hc34.fn rfl) (show Hp S0 σ0 _ ([Ch.big K16, Ch.big K20] ++ ([Ch.ro 0 (Sl a26 r23 c27) r23] ++ [Ch.ro 0 (Sl a26 r23 c27) r23, Ch.ro n0 (Sl a26 r23 c27) r23, Ch.bx n0 b1 0 [(Sl Cm Ck.1 Cn), (Sl Cp Ck.2 Cq)] [] [], Ch.ro 0 (Sl Cm Ck.1 Cn) Ck.1, Ch.ro 0 (Sl Cp Ck.2 Cq) Ck.2, Ch.ro 0 (Sl Cr Cl Cs) Cl])) from (H.sel' [2, 3, 0, 0, 1, 4, 5, 6, 7] rfl rfl)) (by rintro _ _ _ ⟨_, _, rfl, rfl⟩; exact ⟨Ab.ownSc, trivial⟩)) wn ?_
   rintro _ σ37 ⟨_, ⟨a35, c36, rfl, rfl⟩, H, -, -⟩
   replace H : Hp _ _ _ [_, _, _, _, _, _, _, _, _] := H
   replace H := H.ownLow 0 n0 n0 rfl hle hle
   clear hle
   replace H : Hp _ _ _ [_, _, _, _, _, _, _, _, _] := H
   replace H : Hp S0 σ0 σ37 [Ch.own n0 n0 (Sl a35 r32 c36) r32, Ch.bx n0 b1 0 [(Sl Cm Ck.1 Cn), (Sl Cp Ck.2 Cq)] [] [], Ch.ro 0 (Sl Cm Ck.1 Cn) Ck.1, Ch.ro 0 (Sl Cp Ck.2 Cq) Ck.2, Ch.ro 0 (Sl Cr Cl Cs) Cl] := H.sel' [0, 5, 6, 7, 8] rfl rfl
   refine sa (Sl a35 r32 c36) rfl (w_end (q_then (c_seq (rg ?_))))
   have hc38 := H.cells 1 rfl
   refine st (v := (.agg #[(Sl Cm Ck.1 Cn), (Sl Cp Ck.2 Cq)])) (rv_load (cs := [(Sl Cm Ck.1 Cn), (Sl Cp Ck.2 Cq)]) Try.underlying24 rfl ti24 rfl rfl hc38) ?_
   revert h; refine br fun r39 hx40 h => ?_
   have hc41 := c_laws_toBookD (Af := Cm) (Ag := Cn) (Ah := Cp) (Ai := Cq) hx40
   refine st_call (cx_call hc41 (ent_f hc41.fn rfl) hn0 (H.sel' [2, 3, 0, 1, 2, 3, 4] rfl rfl : Hp S0 σ0 _ ([_, _] ++ _))) wn ?_
   rintro _ σ50 ⟨_, ⟨a42, c43, K44, a46, c47, K48, rfl, rfl, hK45, hK49⟩, H, -⟩
   replace H : Hp _ _ _ [_, _, _, _, _, _, _] := H
   refine st_ex (ex_alloc (cs := [(.slice none 0 0), (.slice none 0 0)]) H hn0 ti28 rfl) wn ?_
   rintro _ σ52 ⟨b51, rfl, H, -⟩
   refine st_exS (ex_store_box (k := 0) (cs := [(.slice none 0 0), (.slice none 0 0)]) (vs := [(Sl a42 r39.1 c43), (Sl a46 r39.2 c47)]) (cs' := [(Sl a42 r39.1 c43), (Sl a46 r39.2 c47)]) H (i := 0) rfl ti28 rfl rfl rfl rfl rfl (Nat.le_of_ble_eq_true rfl) (by simp [plain]) rfl) wn ?_
   rintro σ53 ⟨H, -⟩
   refine w_end (q_then (c_seq (rg (sm (Sl Cr Cl Cs) rfl ?_))))
   revert h; refine br fun r54 hx55 h => ?_
   have hc56 := c_laws_toIntS (Ad := Cr) (Ae := Cs) hx55
   refine st_call (cx_call hc56 (ent_f hc56.fn rfl) hn0 (H.sel' [7, 0, 1, 2, 3, 4, 5, 6, 7] rfl rfl : Hp S0 σ0 _ ([_] ++ _))) wn ?_
   rintro _ σ60 ⟨_, ⟨a57, c58, rfl, rfl, ht59⟩, H, -⟩
   replace H : Hp _ _ _ [_, _, _, _, _, _, _, _, _] := H
   refine sa (Sl a57 r54 c58) rfl (w_end (q_then (c_seq (rg ?_))))
   have hc61 := H.cells 1 rfl
   refine st (v := (.agg #[(Sl a42 r39.1 c43), (Sl a46 r39.2 c47)])) (rv_load (cs := [(Sl a42 r39.1 c43), (Sl a46 r39.2 c47)]) Try.underlying28 rfl ti28 rfl rfl hc61) (sm (Sl a57 r54 c58) rfl ?_)
   revert h; refine br fun r62 hx63 h => ?_
   have hc64 := c_impl_CodeDistances (As := a42) (Au := c43) (Av := a46) (Aw := c47) (Bj := a57) (Bk := c58) hx63
   have hle := Nat.le_trans hn0 H.size
   refine st_call (cx_lend (Loan.lendB hK45.lends (Loan.lendB hK49.lends (Loan.lend Loan.nil))) hc64 (ent_f hc64.fn rfl) (show Hp S0 σ0 _ ([Ch.big K44, Ch.big K48, Ch.own n0 n0 (Sl a57 r54 c58) r54] ++ ([] ++ [Ch.bx n0 b51 0 [(Sl a42 r39.1 c43), (Sl a46 r39.2 c47)] [] [], Ch.own n0 n0 (Sl a35 r32 c36) r32, Ch.bx n0 b1 0 [(Sl Cm Ck.1 Cn), (Sl Cp Ck.2 Cq)] [] [], Ch.ro 0 (Sl Cm Ck.1 Cn) Ck.1, Ch.ro 0 (Sl Cp Ck.2 Cq) Ck.2, Ch.ro 0 (Sl Cr Cl Cs) Cl])) from (H.sel' [2, 3, 0, 1, 4, 5, 6, 7, 8] rfl rfl)) (by rintro _ _ _ ⟨_, _, rfl, rfl⟩; exact ⟨Ab.ownSc, trivial⟩)) wn ?_
   rintro _ σ67 ⟨_, ⟨a65, c66, rfl, rfl⟩, H, -, -⟩
   replace H : Hp _ _ _ [_, _, _, _, _, _, _, _, _, _] := H
   replace H := H.ownLow 0 n0 n0 rfl hle hle
   clear hle
   replace H : Hp _ _ _ [_, _, _, _, _, _, _, _, _, _] := H
   refine sa (Sl a65 r62 c66) rfl (w_end (q_then (c_seq (c_seq (rg (sm (Sl a65 r62 c66) rfl (sm (Sl a35 r32 c36) rfl ?_)))))))
   revert h; refine br fun r68 hx69 h => ?_
   have hc70 := c_laws_eqIntS (Ad := a65) (Ae := c66) (Bv := a35) (Bw := c36) hx69
   have hle := Nat.le_trans hn0 H.size
   refine st_call (cx_lend (Loan.lend (Loan.lend Loan.nil)) hc70 (ent_f hc70.fn rfl) (show Hp S0 σ0 _ ([Ch.own n0 n0 (Sl a65 r62 c66) r62, Ch.own n0 n0 (Sl a35 r32 c36) r32] ++ ([] ++ [Ch.big K44, Ch.big K48, Ch.own n0 n0 (Sl a57 r54 c58) r54, Ch.bx n0 b51 0 [(Sl a42 r39.1 c43), (Sl a46 r39.2 c47)] [] [], Ch.bx n0 b1 0 [(Sl Cm Ck.1 Cn), (Sl Cp Ck.2 Cq)] [] [], Ch.ro 0 (Sl Cm Ck.1 Cn) Ck.1, Ch.ro 0 (Sl Cp Ck.2 Cq) Ck.2, Ch.ro 0 (Sl Cr Cl Cs) Cl])) from (H.sel' [0, 5, 1, 2, 3, 4, 6, 7, 8, 9] rfl rfl)) (by rintro _ _ _ ⟨rfl, rfl⟩; exact trivial)) wn ?_
   rintro _ σ71 ⟨_, ⟨rfl, rfl⟩, H, -, -⟩
   replace H : Hp _ _ _ [_, _, _, _, _, _, _, _, _, _] := H
   clear hle
   replace H : Hp _ _ _ [_, _, _, _, _, _, _, _, _, _] := H
   refine st (v := (B (!r68))) (rv_not rfl) (w_end (q_then ?_))
   refine cd_cond (!r68) rfl (fun hb72 => ?_) (fun hb72 => ?_)
   ·replace h := bif_t hb72 h
    refine c_seq (rg (sa (B false) rfl (w_end (q_then (c_ret (q_then_r ?_))))))
    obtain rfl := sj h
    exact fin_ret (v := (B false)) (results_ok Try.results3 (res_tmp (v := (B false)) rfl res_nil) rfl) ⟨rfl, rfl⟩ (H.sel' [] rfl rfl)
   ·replace h := bif_f hb72 h
    refine c_skip (q_then (c_seq (c_seq ?_)))
    have hc73 := H.cells 5 rfl
    have hc74 := H.cells 6 rfl
    revert h; refine br fun r75 hx76 h => ?_
    have hc77 := c_laws_toBookD (Af := Cm) (Ag := Cn) (Ah := Cp) (Ai := Cq) hx76
    have Hs := H
    refine rg2 (σ := σ71) (Nm := (Option Addr) × (Nat) × (List Ch) × (Option Addr) × (Nat) × (List Ch)) 3 [2] [[false], [true]] [[(0, 0), (1, 1)], [(0, 0)], [(0, 1)]] 1 [fun ((a78, c79, K80, a82, c83, K84) : (Option Addr) × (Nat) × (List Ch) × (Option Addr) × (Nat) × (List Ch)) => fun σm => Hp S0 σ0 σm [Ch.own n0 n0 (Sl a65 r62 c66) r62, Ch.own n0 n0 (Sl a35 r32 c36) r32, Ch.big K44, Ch.big K48, Ch.own n0 n0 (Sl a57 r54 c58) r54, Ch.bx n0 b51 0 [(Sl a42 r39.1 c43), (Sl a46 r39.2 c47)] [] [], Ch.bx n0 b1 0 [(Sl Cm Ck.1 Cn), (Sl Cp Ck.2 Cq)] [] [], Ch.ro 0 (Sl Cm Ck.1 Cn) Ck.1, Ch.ro 0 (Sl Cp Ck.2 Cq) Ck.2, Ch.ro 0 (Sl Cr Cl Cs) Cl] ∧ Md (cov []) σ71 σm, fun ((a78, c79, K80, a82, c83, K84) : (Option Addr) × (Nat) × (List Ch) × (Option Addr) × (Nat) × (List Ch)) => fun σm => Hp S0 σ0 σm [Ch.big K80, Ch.big K84, Ch.own n0 n0 (Sl a65 r62 c66) r62, Ch.own n0 n0 (Sl a35 r32 c36) r32, Ch.big K44, Ch.big K48, Ch.own n0 n0 (Sl a57 r54 c58) r54, Ch.bx n0 b51 0 [(Sl a42 r39.1 c43), (Sl a46 r39.2 c47)] [] [], Ch.bx n0 b1 0 [(Sl Cm Ck.1 Cn), (Sl Cp Ck.2 Cq)] [] [], Ch.ro 0 (Sl Cm Ck.1 Cn) Ck.1, Ch.ro 0 (Sl Cp Ck.2 Cq) Ck.2, Ch.ro 0 (Sl Cr Cl Cs) Cl] ∧ Md (cov []) σ71 σm ∧ Dp 0 (Sl a78 r75.1 c79) r75.1 K80 ∧ Dp 0 (Sl a82 r75.2 c83) r75.2 K84] [fun ((a78, c79, K80, a82, c83, K84) : (Option Addr) × (Nat) × (List Ch) × (Option Addr) × (Nat) × (List Ch)) => (.agg #[(Sl a42 r39.1 c43), (Sl a46 r39.2 c47)]), fun ((a78, c79, K80, a82, c83, K84) : (Option Addr) × (Nat) × (List Ch) × (Option Addr) × (Nat) × (List Ch)) => (.agg #[(Sl Cm Ck.1 Cn), (Sl Cp Ck.2 Cq)]), fun ((a78, c79, K80, a82, c83, K84) : (Option Addr) × (Nat) × (List Ch) × (Option Addr) × (Nat) × (List Ch)) => (.agg #[(Sl a78 r75.1 c79), (Sl a82 r75.2 c83)])] (none, 0, [], none, 0, []) (by kernel_rfl) (by kernel_rfl) ?_ ?_ ?_
    ·intro σm m0
     exact ⟨H.grow (m0.mono fun _ h => h.elim), m0⟩
    ·refine all_cons (by
       refine ⟨?_, ?_⟩
       ·rintro ⟨a78, c79, K80, a82, c83, K84⟩ ρ σm hJ hoff hdep
        have e7 := look_off (N := 90) (hoff 7 rfl) rfl
        obtain ⟨H, m⟩ := id hJ
        have hc73 := H.cells 5 rfl
        exact dp_v (v := (.agg #[(Sl a42 r39.1 c43), (Sl a46 r39.2 c47)])) wn (rv_load (cs := [(Sl a42 r39.1 c43), (Sl a46 r39.2 c47)]) Try.underlying28 rfl ti28 e7 rfl hc73) rfl hJ
       refine ⟨?_, ?_⟩
       ·rintro ⟨a78, c79, K80, a82, c83, K84⟩ ρ σm hJ hoff hdep
        have e7 := look_off (N := 90) (hoff 7 rfl) rfl
        obtain ⟨H, m, hK81, hK85⟩ := id hJ
        have hc73 := H.cells 7 rfl
        exact dp_v (v := (.agg #[(Sl a42 r39.1 c43), (Sl a46 r39.2 c47)])) wn (rv_load (cs := [(Sl a42 r39.1 c43), (Sl a46 r39.2 c47)]) Try.underlying28 rfl ti28 e7 rfl hc73) rfl hJ
       trivial) ?_
     refine all_cons (by
       refine ⟨?_, ?_⟩
       ·rintro ⟨a78, c79, K80, a82, c83, K84⟩ ρ σm hJ hoff hdep
        have e2 := look_off (N := 90) (hoff 2 rfl) rfl
        obtain ⟨H, m⟩ := id hJ
        have hc74 := H.cells 6 rfl
        exact dp_v (v := (.agg #[(Sl Cm Ck.1 Cn), (Sl Cp Ck.2 Cq)])) wn (rv_load (cs := [(Sl Cm Ck.1 Cn), (Sl Cp Ck.2 Cq)]) Try.underlying24 rfl ti24 e2 rfl hc74) rfl hJ
       trivial) ?_
     refine all_cons (by
       refine ⟨?_, ?_⟩
       ·rintro ⟨a78, c79, K80, a82, c83, K84⟩ ρ σm hJ hoff hdep
        have e39 : look 90 ρ 39 = (.agg #[(Sl Cm Ck.1 Cn), (Sl Cp Ck.2 Cq)]) := hdep 1 rfl rfl 39 rfl
        obtain ⟨H, m⟩ := id hJ
        refine dp_cx wn (cx_call hc77 (ent_f hc77.fn (by show [look 90 ρ 39] = _; rw [e39])) hn0 (H.sel' [7, 8, 0, 1, 2, 3, 4, 5, 6, 7, 8, 9] rfl rfl : Hp S0 σ0 _ ([_, _] ++ _))) ?_
        rintro _ σq ⟨_, ⟨a78x, c79x, K80x, a82x, c83x, K84x, rfl, rfl, hK81, hK85⟩, H2, m2⟩
        exact ⟨_, (a78x, c79x, K80x, a82x, c83x, K84x), rfl, rfl, ⟨H2.sel' [0, 1, 2, 3, 4, 5, 6, 7, 8, 9, 10, 11] rfl rfl, m.comp0 (m2.mono (fun i h => by simp [cov, Ch.ro] at h)), hK81, hK85⟩, stab [0, 1] (by kernel_rfl) ⟨rfl, rfl, trivial⟩⟩
       trivial) ?_
     exact all_nil
    ·rintro ⟨a78, c79, K80, a82, c83, K84⟩ ρ σ86 hJ hoff hrel
     have e1 := look_off (N := 90) (hoff 1 rfl) rfl
     have e2 := look_off (N := 90) (hoff 2 rfl) rfl
     have e6 := look_off (N := 90) (hoff 6 rfl) rfl
     have e7 := look_off (N := 90) (hoff 7 rfl) rfl
     have e8 := look_off (N := 90) (hoff 8 rfl) rfl
     have e9 := look_off (N := 90) (hoff 9 rfl) rfl
     have e38 := hrel 0 rfl 38 rfl
     have e40 := hrel 2 rfl 40 rfl
     obtain ⟨H, -, hK81, hK85⟩ := (show Hp S0 σ0 σ86 [Ch.big K80, Ch.big K84, Ch.own n0 n0 (Sl a65 r62 c66) r62, Ch.own n0 n0 (Sl a35 r32 c36) r32, Ch.big K44, Ch.big K48, Ch.own n0 n0 (Sl a57 r54 c58) r54, Ch.bx n0 b51 0 [(Sl a42 r39.1 c43), (Sl a46 r39.2 c47)] [] [], Ch.bx n0 b1 0 [(Sl Cm Ck.1 Cn), (Sl Cp Ck.2 Cq)] [] [], Ch.ro 0 (Sl Cm Ck.1 Cn) Ck.1, Ch.ro 0 (Sl Cp Ck.2 Cq) Ck.2, Ch.ro 0 (Sl Cr Cl Cs) Cl] ∧ Md (cov []) σ71 σ86 ∧ Dp 0 (Sl a78 r75.1 c79) r75.1 K80 ∧ Dp 0 (Sl a82 r75.2 c83) r75.2 K84 from hJ)
     clear hJ Hs
     rw [fr_lookL (L := [(1, (Sl Cr Cl Cs)), (2, (pt b1 0)), (6, (Sl a35 r32 c36)), (7, (pt b51 0)), (8, (Sl a57 r54 c58)), (9, (Sl a65 r62 c66)), (38, (.agg #[(Sl a42 r39.1 c43), (Sl a46 r39.2 c47)])), (40, (.agg #[(Sl a78 r75.1 c79), (Sl a82 r75.2 c83)]))]) ⟨e1, e2, e6, e7, e8, e9, e38, e40, trivial⟩]
     clear hoff hrel e1 e2 e6 e7 e8 e9 e38 e40
     revert h; refine br fun r87 hx88 h => ?_
     have hc89 := c_laws_eqBook (Af := a42) (Ag := c43) (Ah := a46) (Ai := c47) (By := a78) (Bz := c79) (Ca := a82) (Cb := c83) hx88
     have hle := Nat.le_trans hn0 H.size
     refine st_call (cx_lend (Loan.lendB hK45.lends (Loan.lendB hK49.lends (Loan.lendB hK81.lends (Loan.lendB hK85.lends Loan.nil)))) hc89 (ent_f hc89.fn rfl) (show Hp S0 σ0 _ ([Ch.big K44, Ch.big K48, Ch.big K80, Ch.big K84] ++ ([] ++ [Ch.own n0 n0 (Sl a65 r62 c66) r62, Ch.own n0 n0 (Sl a35 r32 c36) r32, Ch.own n0 n0 (Sl a57 r54 c58) r54, Ch.bx n0 b51 0 [(Sl a42 r39.1 c43), (Sl a46 r39.2 c47)] [] [], Ch.bx n0 b1 0 [(Sl Cm Ck.1 Cn), (Sl Cp Ck.2 Cq)] [] [], Ch.ro 0 (Sl Cm Ck.1 Cn) Ck.1, Ch.ro 0 (Sl Cp Ck.2 Cq) Ck.2, Ch.ro 0 (Sl Cr Cl Cs) Cl])) from (H.sel' [4, 5, 0, 1, 2, 3, 6, 7, 8, 9, 10, 11] rfl rfl)) (by rintro _ _ _ ⟨rfl, rfl⟩; exact trivial)) wn ?_
     rintro _ σ90 ⟨_, ⟨rfl, rfl⟩, H, -, -⟩
     replace H : Hp _ _ _ [_, _, _, _, _, _, _, _, _, _, _, _] := H
     clear hle
     replace H : Hp _ _ _ [_, _, _, _, _, _, _, _, _, _, _, _] := H
     replace H : Hp S0 σ0 σ90 [Ch.big K44, Ch.big K48, Ch.own n0 n0 (Sl a65 r62 c66) r62, Ch.own n0 n0 (Sl a35 r32 c36) r32, Ch.own n0 n0 (Sl a57 r54 c58) r54, Ch.bx n0 b51 0 [(Sl a42 r39.1 c43), (Sl a46 r39.2 c47)] [] [], Ch.bx n0 b1 0 [(Sl Cm Ck.1 Cn), (Sl Cp Ck.2 Cq)] [] [], Ch.ro 0 (Sl Cm Ck.1 Cn) Ck.1, Ch.ro 0 (Sl Cp Ck.2 Cq) Ck.2, Ch.ro 0 (Sl Cr Cl Cs) Cl] := H.sel' [0, 1, 4, 5, 6, 7, 8, 9, 10, 11] rfl rfl
     refine st (v := (B (!r87))) (rv_not rfl) (w_end (q_then ?_))
     refine cd_cond (!r87) rfl (fun hb91 => ?_) (fun hb91 => ?_)
     ·replace h := bif_t hb91 h
      refine c_seq (rg (sa (B false) rfl (w_end (q_then (c_ret (q_then_r ?_))))))
      obtain rfl := sj h
      exact fin_ret (v := (B false)) (results_ok Try.results3 (res_tmp (v := (B false)) rfl res_nil) rfl) ⟨rfl, rfl⟩ (H.sel' [] rfl rfl)
     ·replace h := bif_f hb91 h
      refine c_skip (q_then (c_seq (c_seq (rg (sm (Sl a57 r54 c58) rfl (sm (Sl Cr Cl Cs) rfl ?_))))))
      revert h; refine br fun r92 hx93 h => ?_
      have hc94 := c_laws_toIntS (Ad := Cr) (Ae := Cs) hx93
      refine st_call (cx_call hc94 (ent_f hc94.fn rfl) hn0 (H.sel' [9, 0, 1, 2, 3, 4, 5, 6, 7, 8, 9] rfl rfl : Hp S0 σ0 _ ([_] ++ _))) wn ?_
      rintro _ σ98 ⟨_, ⟨a95, c96, rfl, rfl, ht97⟩, H, -⟩
      replace H : Hp _ _ _ [_, _, _, _, _, _, _, _, _, _, _] := H
      obtain ⟨σ99, hw100, H, -⟩ := H.pub 0 rfl (Nat.le_refl _)
      rw [← hw100]; clear hw100
      replace H := H.roLow 0 0 rfl (Nat.zero_le _)
      revert h; refine br fun r101 hx102 h => ?_
      have hc103 := c_laws_eqIntS (Ad := a57) (Ae := c58) (Bv := a95) (Bw := c96) hx102
      have hle := Nat.le_trans hn0 H.size
      refine st_call (cx_lend (Loan.lend (Loan.same Loan.nil)) hc103 (ent_f hc103.fn rfl) (show Hp S0 σ0 _ ([Ch.own n0 n0 (Sl a57 r54 c58) r54] ++ ([Ch.ro 0 (Sl a95 r92 c96) r92] ++ [Ch.ro 0 (Sl a95 r92 c96) r92, Ch.ro n0 (Sl a95 r92 c96) r92, Ch.big K44, Ch.big K48, Ch.own n0 n0 (Sl a65 r62 c66) r62, Ch.own n0 n0 (Sl a35 r32 c36) r32, Ch.bx n0 b51 0 [(Sl a42 r39.1 c43), (Sl a46 r39.2 c47)] [] [], Ch.bx n0 b1 0 [(Sl Cm Ck.1 Cn), (Sl Cp Ck.2 Cq)] [] [], Ch.ro 0 (Sl Cm Ck.1 Cn) Ck.1, Ch.ro 0 (Sl Cp Ck.2 Cq) Ck.2, Ch.ro 0 (Sl Cr Cl Cs) Cl])) from (H.sel' [6, 0, 0, 1, 2, 3, 4, 5, 7, 8, 9, 10, 11] rfl rfl)) (by rintro _ _ _ ⟨rfl, rfl⟩; exact trivial)) wn ?_
      rintro _ σ104 ⟨_, ⟨rfl, rfl⟩, H, -, -⟩
      replace H : Hp _ _ _ [_, _, _, _, _, _, _, _, _, _, _, _] := H
      clear hle
      replace H : Hp _ _ _ [_, _, _, _, _, _, _, _, _, _, _, _] := H
      replace H : Hp S0 σ0 σ104 [Ch.own n0 n0 (Sl a57 r54 c58) r54, Ch.big K44, Ch.big K48, Ch.own n0 n0 (Sl a65 r62 c66) r62, Ch.own n0 n0 (Sl a35 r32 c36) r32, Ch.bx n0 b51 0 [(Sl a42 r39.1 c43), (Sl a46 r39.2 c47)] [] [], Ch.bx n0 b1 0 [(Sl Cm Ck.1 Cn), (Sl Cp Ck.2 Cq)] [] [], Ch.ro 0 (Sl Cm Ck.1 Cn) Ck.1, Ch.ro 0 (Sl Cp Ck.2 Cq) Ck.2, Ch.ro 0 (Sl Cr Cl Cs) Cl] := H.sel' [0, 3, 4, 5, 6, 7, 8, 9, 10, 11] rfl rfl
      refine st (v := (B (!r101))) (rv_not rfl) (w_end (q_then ?_))
      refine cd_cond (!r101) rfl (fun hb105 => ?_) (fun hb105 => ?_)
      ·replace h := bif_t hb105 h
       refine c_seq (rg (sa (B false) rfl (w_end (q_then (c_ret (q_then_r ?_))))))
       obtain rfl := sj h
       exact fin_ret (v := (B false)) (results_ok Try.results3 (res_tmp (v := (B false)) rfl res_nil) rfl) ⟨rfl, rfl⟩ (H.sel' [] rfl rfl)
      ·replace h := bif_f hb105 h
       refine c_skip (q_then (c_seq (rg (sa (I 1) rfl (w_end (q_then (c_seq (rg ?_))))))))
       have hc106 := H.cells 5 rfl
       refine st (v := (.agg #[(Sl a42 r39.1 c43), (Sl a46 r39.2 c47)])) (rv_load (cs := [(Sl a42 r39.1 c43), (Sl a46 r39.2 c47)]) Try.underlying28 rfl ti28 rfl rfl hc106) (sm (I 1) rfl ?_)
       revert h; refine br fun r107 hx108 h => ?_
       have hc109 := c_laws_markBook (Af := a42) (Ag := c43) (Cf := hK45) (Ah := a46) (Ai := c47) (Cj := hK49) hx108
       refine st_call (cx_call hc109 (ent_f hc109.fn rfl) hn0 (H.sel' [1, 2, 0, 3, 4, 5, 6, 7, 8, 9] rfl rfl : Hp S0 σ0 _ ([_, _] ++ _))) wn ?_
       rintro _ σ110 ⟨_, ⟨rfl, rfl⟩, H, -⟩
       replace H : Hp _ _ _ [_, _, _, _, _, _, _, _] := H
       replace H : Hp S0 σ0 σ110 [Ch.own n0 n0 (Sl a57 r54 c58) r54, Ch.own n0 n0 (Sl a65 r62 c66) r62, Ch.own n0 n0 (Sl a35 r32 c36) r32, Ch.bx n0 b1 0 [(Sl Cm Ck.1 Cn), (Sl Cp Ck.2 Cq)] [] [], Ch.ro 0 (Sl Cm Ck.1 Cn) Ck.1, Ch.ro 0 (Sl Cp Ck.2 Cq) Ck.2, Ch.ro 0 (Sl Cr Cl Cs) Cl] := H.sel' [0, 1, 2, 4, 5, 6, 7] rfl rfl
       refine sa (I r107) rfl (w_end (q_then (c_seq (rg (sm (Sl a57 r54 c58) rfl (sm (I r107) rfl ?_))))))
       replace H := H.ownLow 0 0 0 rfl (Nat.zero_le _) (Nat.zero_le _)
       revert h; refine br fun r111 hx112 h => ?_
       have hc113 := c_laws_markIntS (Ad := a57) (Ae := c58) hx112
       refine st_call (cx_call hc113 (ent_f hc113.fn rfl) hn0 (H.sel' [0, 1, 2, 3, 4, 5, 6] rfl rfl : Hp S0 σ0 _ ([_] ++ _))) wn ?_
       rintro _ σ115 ⟨_, ⟨rfl, rfl, hn114⟩, H, -⟩
       replace H : Hp _ _ _ [_, _, _, _, _, _, _] := H
       have hsl : (Sl a57 r54 c58) = (Sl a57 r111.2 c58) := sl_len hn114.symm
       try rw [hsl]
       try rw [hsl] at H
       clear hsl
       refine sa (I r111.1) rfl (w_end (q_then (c_seq (c_seq ?_))))
       obtain ⟨o116, hj, h'⟩ := bind_some h
       clear h
       refine c_cut (fun e a w => e = .normal ∧ ∃ (ρ : Nat → Value) (σ : St), a = fr 90 (updL ρ [(1, (Sl Cr Cl Cs)), (2, (pt b1 0)), (6, (Sl a35 r32 c36)), (9, (Sl a65 r62 c66)), (61, (B o116))]) ∧ w = σ.w ∧ Hp S0 σ0 σ [Ch.ro 0 (Sl Cr Cl Cs) Cl, Ch.ro 0 (Sl Cm Ck.1 Cn) Ck.1, Ch.ro 0 (Sl Cp Ck.2 Cq) Ck.2, Ch.bx n0 b1 0 [(Sl Cm Ck.1 Cn), (Sl Cp Ck.2 Cq)] [] [], Ch.own n0 n0 (Sl a35 r32 c36) r32, Ch.own n0 n0 (Sl a65 r62 c66) r62]) ?_ ?_
       ·clear h'
        rename _ = some o116 => h
        refine rg (sm (I r111.1) rfl (st (v := (B (decide (r111.1 < 0)))) (rv_lss (a := r111.1) (b := 0) rfl rfl) (sm (B (decide (r111.1 < 0))) rfl ?_)))
        rcases Bool.eq_false_or_eq_true (decide (r111.1 < 0)) with hb117 | hb117
        ·replace h := bif_t hb117 h
         refine st_skip (congrArg some hb117) (st_skip (congrArg some hb117) (st_skip (congrArg some hb117) (st_skip (congrArg some hb117) (st (v := (B true)) (rv_pick_t (congrArg B hb117) rfl) (w_end ?_)))))
         obtain rfl := sj h
         exact ⟨rfl, _, σ115, fr_join ⟨rfl, rfl, rfl, rfl, rfl, trivial⟩, rfl, H.sel' [6, 4, 5, 3, 2, 1] rfl rfl⟩
        ·replace h := bif_f hb117 h
         refine st_g (v := (Sl a65 r62 c66)) (congrArg some hb117) (rv_move rfl) (st_g (v := (Sl a35 r32 c36)) (congrArg some hb117) (rv_move rfl) ?_)
         revert h; refine br fun r118 hx119 h => ?_
         have hc120 := c_laws_eqIntS (Ad := a65) (Ae := c66) (Bv := a35) (Bw := c36) hx119
         have hle := Nat.le_trans hn0 H.size
         refine st_call (cx_lend (Loan.lend (Loan.lend Loan.nil)) hc120 (ent_f hc120.fn rfl) (show Hp S0 σ0 _ ([Ch.own n0 n0 (Sl a65 r62 c66) r62, Ch.own n0 n0 (Sl a35 r32 c36) r32] ++ ([] ++ [Ch.own 0 0 (Sl a57 r111.2 c58) r111.2, Ch.bx n0 b1 0 [(Sl Cm Ck.1 Cn), (Sl Cp Ck.2 Cq)] [] [], Ch.ro 0 (Sl Cm Ck.1 Cn) Ck.1, Ch.ro 0 (Sl Cp Ck.2 Cq) Ck.2, Ch.ro 0 (Sl Cr Cl Cs) Cl])) from (H.sel' [1, 2, 0, 3, 4, 5, 6] rfl rfl)) (by rintro _ _ _ ⟨rfl, rfl⟩; exact trivial)) (wanted_yes rfl (by exact (congrArg some hb117))) ?_
         rintro _ σ121 ⟨_, ⟨rfl, rfl⟩, H, -, -⟩
         replace H : Hp _ _ _ [_, _, _, _, _, _, _] := H
         clear hle
         replace H : Hp _ _ _ [_, _, _, _, _, _, _] := H
         refine st_g (v := (B (!r118))) (congrArg some hb117) (rv_not rfl) (st (v := (B (!r118))) (rv_pick_f (congrArg B hb117) rfl) (w_end ?_))
         obtain rfl := sj h
         exact ⟨rfl, _, σ121, fr_join ⟨rfl, rfl, rfl, rfl, rfl, trivial⟩, rfl, H.sel' [6, 4, 5, 3, 1, 0] rfl rfl⟩
       ·clear hj
        have h := h'
        clear h' H
        rintro e a w ⟨rfl, ρ, σ122, rfl, rfl, H⟩
        refine q_then ?_
        refine cd_cond o116 rfl (fun hb123 => ?_) (fun hb123 => ?_)
        ·replace h := bif_t hb123 h
         refine c_seq (rg (sa (B false) rfl (w_end (q_then (c_ret (q_then_r ?_))))))
         obtain rfl := sj h
         exact fin_ret (v := (B false)) (results_ok Try.results3 (res_tmp (v := (B false)) rfl res_nil) rfl) ⟨rfl, rfl⟩ (H.sel' [] rfl rfl)
        ·replace h := bif_f hb123 h
         refine c_skip (q_then (c_seq (rg (sa (I 1) rfl (w_end (q_then (c_seq (rg (sm (Sl a65 r62 c66) rfl (sm (I 1) rfl ?_))))))))))
         replace H := H.ownLow 5 0 0 rfl (Nat.zero_le _) (Nat.zero_le _)
         revert h; refine br fun r124 hx125 h => ?_
         have hc126 := c_laws_markIntS (Ad := a65) (Ae := c66) hx125
         refine st_call (cx_call hc126 (ent_f hc126.fn rfl) hn0 (H.sel' [0, 1, 2, 3, 4, 5] rfl rfl : Hp S0 σ0 _ ([_] ++ _))) wn ?_
         rintro _ σ128 ⟨_, ⟨rfl, rfl, hn127⟩, H, -⟩
         replace H : Hp _ _ _ [_, _, _, _, _, _] := H
         have hsl : (Sl a65 r62 c66) = (Sl a65 r124.2 c66) := sl_len hn127.symm
         try rw [hsl]
         try rw [hsl] at H
         clear hsl
         refine sa (I r124.1) rfl (w_end (q_then (c_seq (rg (sa (I 1) rfl (w_end (q_then (c_seq (rg (sm (Sl a65 r124.2 c66) rfl (sm (I 1) rfl ?_)))))))))))
         revert h; refine br fun r129 hx130 h => ?_
         have hc131 := c_laws_heldIntS (Ad := a65) (Ae := c66) hx130
         have hle := Nat.le_trans hn0 H.size
         refine st_call (cx_lend (Loan.lend Loan.nil) hc131 (ent_f hc131.fn rfl) (show Hp S0 σ0 _ ([Ch.own 0 0 (Sl a65 r124.2 c66) r124.2] ++ ([] ++ [Ch.ro 0 (Sl Cr Cl Cs) Cl, Ch.ro 0 (Sl Cm Ck.1 Cn) Ck.1, Ch.ro 0 (Sl Cp Ck.2 Cq) Ck.2, Ch.bx n0 b1 0 [(Sl Cm Ck.1 Cn), (Sl Cp Ck.2 Cq)] [] [], Ch.own n0 n0 (Sl a35 r32 c36) r32])) from (H.sel' [0, 1, 2, 3, 4, 5] rfl rfl)) (by rintro _ _ _ ⟨rfl, rfl⟩; exact trivial)) wn ?_
         rintro _ σ132 ⟨_, ⟨rfl, rfl⟩, H, -, -⟩
         replace H : Hp _ _ _ [_, _, _, _, _, _] := H
         clear hle
         replace H : Hp _ _ _ [_, _, _, _, _, _] := H
         refine sa (I r129) rfl (w_end (q_then (c_seq (c_seq (rg (sm (I r129) rfl (st (v := (B (decide (r129 < 0)))) (rv_lss (a := r129) (b := 0) rfl rfl) (w_end (q_then ?_)))))))))
         refine cd_cond (decide (r129 < 0)) rfl (fun hb133 => ?_) (fun hb133 => ?_)
         ·replace h := bif_t hb133 h
          refine c_seq (rg (sa (B false) rfl (w_end (q_then (c_ret (q_then_r ?_))))))
          obtain rfl := sj h
          exact fin_ret (v := (B false)) (results_ok Try.results3 (res_tmp (v := (B false)) rfl res_nil) rfl) ⟨rfl, rfl⟩ (H.sel' [] rfl rfl)
         ·replace h := bif_f hb133 h
          refine c_skip (q_then (c_seq (c_seq (rg (sm (I r129) rfl (sm (I r124.1) rfl (st (v := (B (r129 != r124.1))) (rv_neq (a := r129) (b := r124.1) rfl rfl) (w_end (q_then ?_)))))))))
          refine cd_cond (r129 != r124.1) rfl (fun hb134 => ?_) (fun hb134 => ?_)
          ·replace h := bif_t hb134 h
           refine c_seq (rg (sa (B false) rfl (w_end (q_then (c_ret (q_then_r ?_))))))
           obtain rfl := sj h
           exact fin_ret (v := (B false)) (results_ok Try.results3 (res_tmp (v := (B false)) rfl res_nil) rfl) ⟨rfl, rfl⟩ (H.sel' [] rfl rfl)
          ·replace h := bif_f hb134 h
           refine c_skip (q_then (c_seq (rg ?_)))
           have hc135 := H.cells 4 rfl
           refine st (v := (.agg #[(Sl Cm Ck.1 Cn), (Sl Cp Ck.2 Cq)])) (rv_load (cs := [(Sl Cm Ck.1 Cn), (Sl Cp Ck.2 Cq)]) Try.underlying24 rfl ti24 rfl rfl hc135) ?_
           revert h; refine br fun r136 hx137 h => ?_
           have hc138 := c_laws_toBookD (Af := Cm) (Ag := Cn) (Ah := Cp) (Ai := Cq) hx137
           refine st_call (cx_call hc138 (ent_f hc138.fn rfl) hn0 (H.sel' [2, 3, 0, 1, 2, 3, 4, 5] rfl rfl : Hp S0 σ0 _ ([_, _] ++ _))) wn ?_
           rintro _ σ147 ⟨_, ⟨a139, c140, K141, a143, c144, K145, rfl, rfl, hK142, hK146⟩, H, -⟩
           replace H : Hp _ _ _ [_, _, _, _, _, _, _, _] := H
           replace H : Hp S0 σ0 σ147 [Ch.big K141, Ch.big K145, Ch.own 0 0 (Sl a65 r124.2 c66) r124.2, Ch.ro 0 (Sl Cr Cl Cs) Cl, Ch.own n0 n0 (Sl a35 r32 c36) r32] := H.sel' [0, 1, 2, 3, 7] rfl rfl
           refine sm (Sl Cr Cl Cs) rfl ?_
           revert h; refine br fun r148 hx149 h => ?_
           have hc150 := c_laws_toIntS (Ad := Cr) (Ae := Cs) hx149
           refine st_call (cx_call hc150 (ent_f hc150.fn rfl) hn0 (H.sel' [3, 0, 1, 2, 3, 4] rfl rfl : Hp S0 σ0 _ ([_] ++ _))) wn ?_
           rintro _ σ154 ⟨_, ⟨a151, c152, rfl, rfl, ht153⟩, H, -⟩
           replace H : Hp _ _ _ [_, _, _, _, _, _] := H
           obtain ⟨σ155, hw156, H, -⟩ := H.pub 0 rfl (Nat.le_refl _)
           rw [← hw156]; clear hw156
           replace H := H.roLow 0 0 rfl (Nat.zero_le _)
           revert h; refine br fun r157 hx158 h => ?_
           have hc159 := c_impl_CodeDistances (As := a139) (Au := c140) (Av := a143) (Aw := c144) (Bj := a151) (Bk := c152) hx158
           have hle := Nat.le_trans hn0 H.size
           refine st_call (cx_lend (Loan.lendB hK142.lends (Loan.lendB hK146.lends (Loan.same Loan.nil))) hc159 (ent_f hc159.fn rfl) (show Hp S0 σ0 _ ([Ch.big K141, Ch.big K145] ++ ([Ch.ro 0 (Sl a151 r148 c152) r148] ++ [Ch.ro 0 (Sl a151 r148 c152) r148, Ch.ro n0 (Sl a151 r148 c152) r148, Ch.own 0 0 (Sl a65 r124.2 c66) r124.2, Ch.ro 0 (Sl Cr Cl Cs) Cl, Ch.own n0 n0 (Sl a35 r32 c36) r32])) from (H.sel' [2, 3, 0, 0, 1, 4, 5, 6] rfl rfl)) (by rintro _ _ _ ⟨_, _, rfl, rfl⟩; exact ⟨Ab.ownSc, trivial⟩)) wn ?_
           rintro _ σ162 ⟨_, ⟨a160, c161, rfl, rfl⟩, H, -, -⟩
           replace H : Hp _ _ _ [_, _, _, _, _, _, _, _] := H
           replace H := H.ownLow 0 n0 n0 rfl hle hle
           clear hle
           replace H : Hp _ _ _ [_, _, _, _, _, _, _, _] := H
           replace H : Hp S0 σ0 σ162 [Ch.own n0 n0 (Sl a160 r157 c161) r157, Ch.own 0 0 (Sl a65 r124.2 c66) r124.2, Ch.own n0 n0 (Sl a35 r32 c36) r32] := H.sel' [0, 5, 7] rfl rfl
           refine sa (Sl a160 r157 c161) rfl (w_end (q_then (c_seq (c_seq (rg (sm (Sl a160 r157 c161) rfl (sm (Sl a35 r32 c36) rfl ?_)))))))
           obtain ⟨σ163, hw164, H, -⟩ := H.pub 0 rfl (Nat.le_refl _)
           rw [← hw164]; clear hw164
           obtain ⟨σ165, hw166, H, -⟩ := H.pub 2 rfl (Nat.le_refl _)
           rw [← hw166]; clear hw166
           replace H := H.roLow 1 0 rfl (Nat.zero_le _)
           replace H := H.roLow 1 0 rfl (Nat.zero_le _)
           revert h; refine br fun r167 hx168 h => ?_
           have hc169 := c_laws_eqIntS (Ad := a160) (Ae := c161) (Bv := a35) (Bw := c36) hx168
           refine st_call (cx_call hc169 (ent_f hc169.fn rfl) hn0 (H.sel' [1, 0, 0, 1, 2, 3, 4] rfl rfl : Hp S0 σ0 _ ([_, _] ++ _))) wn ?_
           rintro _ σ170 ⟨_, ⟨rfl, rfl⟩, H, -⟩
           replace H : Hp _ _ _ [_, _, _, _, _] := H
           refine st (v := (B (!r167))) (rv_not rfl) (w_end (q_then ?_))
           refine cd_cond (!r167) rfl (fun hb171 => ?_) (fun hb171 => ?_)
           ·replace h := bif_t hb171 h
            refine c_seq (rg (sa (B false) rfl (w_end (q_then (c_ret (q_then_r ?_))))))
            obtain rfl := sj h
            exact fin_ret (v := (B false)) (results_ok Try.results3 (res_tmp (v := (B false)) rfl res_nil) rfl) ⟨rfl, rfl⟩ (H.sel' [] rfl rfl)
           ·replace h := bif_f hb171 h
            refine c_skip (q_then (c_seq (rg (sa (I 1) rfl (w_end (q_then (c_seq (rg (sm (Sl a65 r124.2 c66) rfl (sm (I 1) rfl ?_))))))))))
            obtain ⟨σ172, hw173, H, -⟩ := H.pub 4 rfl (Nat.le_refl _)
            rw [← hw173]; clear hw173
            revert h; refine br fun r174 hx175 h => ?_
            have hc176 := c_laws_heldIntS (Ad := a65) (Ae := c66) hx175
            refine st_call (cx_call hc176 (ent_f hc176.fn rfl) hn0 (H.sel' [0, 0, 1, 2, 3, 4] rfl rfl : Hp S0 σ0 _ ([_] ++ _))) wn ?_
            rintro _ σ177 ⟨_, ⟨rfl, rfl⟩, H, -⟩
            replace H : Hp _ _ _ [_, _, _, _, _] := H
            refine sa (I r174) rfl (w_end (q_then (c_seq (c_seq (rg (sm (I r174) rfl (st (v := (B (decide (r174 < 0)))) (rv_lss (a := r174) (b := 0) rfl rfl) (w_end (q_then ?_)))))))))
            refine cd_cond (decide (r174 < 0)) rfl (fun hb178 => ?_) (fun hb178 => ?_)
            ·replace h := bif_t hb178 h
             refine c_seq (rg (sa (B false) rfl (w_end (q_then (c_ret (q_then_r ?_))))))
             obtain rfl := sj h
             exact fin_ret (v := (B false)) (results_ok Try.results3 (res_tmp (v := (B false)) rfl res_nil) rfl) ⟨rfl, rfl⟩ (H.sel' [] rfl rfl)
            ·replace h := bif_f hb178 h
             refine c_skip (q_then (c_seq (c_seq (rg (sm (I r174) rfl (sm (I r124.1) rfl (st (v := (B (r174 != r124.1))) (rv_neq (a := r174) (b := r124.1) rfl rfl) (w_end (q_then ?_)))))))))
             refine cd_cond (r174 != r124.1) rfl (fun hb179 => ?_) (fun hb179 => ?_)
             ·replace h := bif_t hb179 h
              refine c_seq (rg (sa (B false) rfl (w_end (q_then (c_ret (q_then_r ?_))))))
              obtain rfl := sj h
              exact fin_ret (v := (B false)) (results_ok Try.results3 (res_tmp (v := (B false)) rfl res_nil) rfl) ⟨rfl, rfl⟩ (H.sel' [] rfl rfl)
             ·replace h := bif_f hb179 h
              refine c_skip (q_then (c_seq (rg (sa (B true) rfl (w_end (q_then (c_ret ?_)))))))
              obtain rfl := sj h
              exact fin_ret (v := (B true)) (results_ok Try.results3 (res_tmp (v := (B true)) rfl res_nil) rfl) ⟨rfl, rfl⟩ (H.sel' [] rfl rfl)

end Go.Vs
