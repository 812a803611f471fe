/- The functions compute what their models say. -/
import Derived.Test.YtjcaokajkkkniacKExactBucketOfC3
set_option linter.unusedVariables false
set_option linter.unusedSimpArgs false
set_option maxRecDepth 20000
namespace Go.Vs
open Go Go.Proofs
attribute [local irreducible] Code.wp Code.wpIn wpList wpListIn wpQuiet Calls CallsIn

theorem c_laws_eqItemS {Aa : List (Int × (List Int) × Int)} {Ae : List (Int × (List Int) × Int)} {Ac : Option Addr} {Ad : Nat} {Af : Option Addr} {Ag : Nat} {r : Bool} (h : M.laws_eqItemS Aa Ae = some r) :
    Cal2 Try.prog 31 [(Sl Ac Aa Ad), (Sl Af Ae Ag)] [Ch.ro 0 (Sl Ac Aa Ad) Aa, Ch.ro 0 (Sl Af Ae Ag) Ae] (fun n0 v L => v = (B r) ∧ L = []) := by
 refine cal2 (n := 27) Try.func31 rfl rfl rfl rfl ?_
 intro S0 σ0 n0 hn0 H
 unfold M.laws_eqItemS at h
 refine c_seq (rg (sa (B false) rfl (w_end (q_then (c_seq (c_seq (rg (sm (Sl Ac Aa Ad) rfl (st (v := (I (Aa.length : Int))) (rv_len Try.underlying47 rfl) (sm (Sl Af Ae Ag) rfl (st (v := (I (Ae.length : Int))) (rv_len Try.underlying47 rfl) ?_)))))))))))
 refine st (v := (B ((Aa.length : Int) != (Ae.length : Int)))) (rv_neq (a := (Aa.length : Int)) (b := (Ae.length : Int)) rfl rfl) (w_end (q_then ?_))
 refine cd_cond ((Aa.length : Int) != (Ae.length : Int)) rfl (fun hb1 => ?_) (fun hb1 => ?_)
 ·replace h := bif_t hb1 h
  refine c_seq (rg (sa (B false) rfl (w_end (q_then (c_ret (q_then_r ?_))))))
  obtain rfl := sj h
  exact fin_ret (v := (B false)) (results_ok Try.results31 (res_tmp (v := (B false)) rfl res_nil) rfl) ⟨rfl, rfl⟩ (H.sel' [] rfl rfl)
 ·replace h := bif_f hb1 h
  refine c_skip (q_then (c_seq (c_seq (rg (sa (I 0) rfl (w_end (q_then ?_)))))))
  obtain ⟨o2, hj, h'⟩ := bind_some h
  clear h
  refine c_cut (fun e a w => (∃ t, o2 = (.inl t) ∧ e = .normal ∧ ∃ (ρ : Nat → Value) (σ : St), a = fr 27 (updL ρ []) ∧ w = σ.w ∧ Hp S0 σ0 σ []) ∨ (∃ t, o2 = (.inr t) ∧ e = .ret ∧ ∃ (ρ : Nat → Value) (σ : St), a = fr 27 (updL ρ [(4, (B t))]) ∧ w = σ.w ∧ Hp S0 σ0 σ [])) ?_ ?_
  ·clear h'
   rename _ = some o2 => h
   refine c_blk (wp_loopM _ h (fun s3 a w => ∃ (ρ : Nat → Value) (σ : St), a = fr 27 (updL ρ [(0, (Sl Ac Aa Ad)), (1, (Sl Af Ae Ag)), (5, (I s3))]) ∧ w = σ.w ∧ Hp S0 σ0 σ [Ch.ro 0 (Sl Ac Aa Ad) Aa, Ch.ro 0 (Sl Af Ae Ag) Ae]) ⟨_, σ0, fr_join ⟨rfl, rfl, rfl, trivial⟩, rfl, H.sel' [0, 1] rfl rfl⟩ ?_)
   clear h H
   rintro s3 a w o ⟨ρ, σ4, rfl, rfl, H⟩ h hres
   refine c_seq (c_seq (rg (sm (I s3) rfl (sm (Sl Ac Aa Ad) rfl (st (v := (I (Aa.length : Int))) (rv_len Try.underlying47 rfl) (st (v := (B (decide (s3 < (Aa.length : Int))))) (rv_lss (a := s3) (b := (Aa.length : Int)) rfl rfl) (w_end (q_then ?_))))))))
   refine cd_cond (decide (s3 < (Aa.length : Int))) rfl (fun hb5 => ?_) (fun hb5 => ?_)
   ·replace h := bif_t hb5 h
    refine c_skip (q_then (c_seq (c_blk (c_seq ?_))))
    refine rgP (σ := σ4) 8 (by kernel_rfl) (by kernel_rfl) (by kernel_rfl) ?_
    refine sq (v := (Sl Ac Aa Ad)) (rv_move rfl) (sq (v := (I s3)) (rv_move rfl) ?_)
    revert h; refine br fun x6 hx7 h => ?_
    obtain ⟨b9, o10, hi8, -⟩ := (H.ro 0 rfl).ix hx7
    refine sq (v := (pt b9 o10)) (rv_ix Try.underlying47 ti71 rfl rfl hi8) ?_
    obtain ⟨_, ⟨_, _, rfl, rfl, ⟨_, _, rfl, ⟨_, rfl, hR15⟩, rfl⟩⟩, hl11, hc12⟩ := ((H.ro 0 rfl).at hx7 hi8).cells
    obtain ⟨a13, c14, rfl⟩ := hR15.isSl
    replace H := H.add (d := Ch.ro 0 (Sl a13 x6.2.1 c14) x6.2.1) hR15 (fun _ h => h)
    clear hR15
    refine sq (v := (.agg #[(I x6.1), (Sl a13 x6.2.1 c14), (I x6.2.2)])) (rv_load Try.underlying71 rfl ti71 rfl hl11 hc12) (sq (v := (Sl Af Ae Ag)) (rv_move rfl) (sq (v := (I s3)) (rv_move rfl) ?_))
    revert h; refine br fun x16 hx17 h => ?_
    obtain ⟨b19, o20, hi18, -⟩ := (H.ro 2 rfl).ix hx17
    refine sq (v := (pt b19 o20)) (rv_ix Try.underlying47 ti71 rfl rfl hi18) ?_
    obtain ⟨_, ⟨_, _, rfl, rfl, ⟨_, _, rfl, ⟨_, rfl, hR25⟩, rfl⟩⟩, hl21, hc22⟩ := ((H.ro 2 rfl).at hx17 hi18).cells
    obtain ⟨a23, c24, rfl⟩ := hR25.isSl
    replace H := H.add (d := Ch.ro 0 (Sl a23 x16.2.1 c24) x16.2.1) hR25 (fun _ h => h)
    clear hR25
    refine sq (v := (.agg #[(I x16.1), (Sl a23 x16.2.1 c24), (I x16.2.2)])) (rv_load Try.underlying71 rfl ti71 rfl hl21 hc22) (sq_end ?_)
    intro σ26 hm27
    replace H := H.grow (hm27.mono fun _ h => h); clear hm27
    revert h; refine br fun r28 hx29 h => ?_
    have hc30 := c_laws_eqItem (Aj := a13) (Ak := c14) (Dq := a23) (Dr := c24) hx29
    refine st_call (cx_call hc30 (ent_f hc30.fn rfl) hn0 (H.sel' [1, 0, 0, 1, 2, 3] rfl rfl : Hp S0 σ0 _ ([_, _] ++ _))) wn ?_
    rintro _ σ31 ⟨_, ⟨rfl, rfl⟩, H, -⟩
    replace H : Hp _ _ _ [_, _, _, _] := H
    refine st (v := (B (!r28))) (rv_not rfl) (w_end (q_then ?_))
    refine cd_cond (!r28) rfl (fun hb32 => ?_) (fun hb32 => ?_)
    ·replace h := bif_t hb32 h
     refine c_seq (rg (sa (B false) rfl (w_end (q_then (c_ret (q_blk_r (q_then_r (q_then_r (q_blk_r ?_)))))))))
     obtain rfl := sj h
     obtain rfl := hres _ rfl
     exact .inr (⟨_, rfl, rfl, _, σ31, fr_join ⟨rfl, trivial⟩, rfl, H.sel' [] rfl rfl⟩)
    ·replace h := bif_f hb32 h
     refine c_skip (q_blk (q_then (rg (sm (I s3) rfl (st (v := (I (w64 (s3 + 1)))) (rv_add (a := s3) (b := 1) rfl rfl) (sa (I (w64 (s3 + 1))) rfl (w_end (q_then ?_))))))))
     obtain rfl := sj h
     exact ⟨_, rfl, _, σ31, fr_join ⟨rfl, rfl, rfl, trivial⟩, rfl, H.sel' [2, 3] rfl rfl⟩
   ·replace h := bif_f hb5 h
    refine c_exit (q_then_x (q_then_x (q_blk_hit ?_)))
    obtain rfl := sj h
    obtain rfl := hres _ rfl
    exact .inl ⟨_, rfl, rfl, _, σ4, fr_join trivial, rfl, H.sel' [] rfl rfl⟩
  ·clear hj
   have h := h'
   clear h' H
   rintro e a w (⟨t33, rfl, rfl, ρ, σ34, rfl, rfl, H⟩ | ⟨t35, rfl, rfl, ρ, σ36, rfl, rfl, H⟩)
   ·replace h := selim_l h
    refine q_then (c_seq (rg (sa (B true) rfl (w_end (q_then (c_ret ?_))))))
    obtain rfl := sj h
    exact fin_ret (v := (B true)) (results_ok Try.results31 (res_tmp (v := (B true)) rfl res_nil) rfl) ⟨rfl, rfl⟩ (H.sel' [] rfl rfl)
   ·replace h := selim_r h
    refine q_then_r ?_
    obtain rfl := sj h
    exact fin_ret (v := (B t35)) (results_ok Try.results31 (res_tmp (v := (B t35)) rfl res_nil) rfl) ⟨rfl, rfl⟩ (H.sel' [] rfl rfl)

theorem c_laws_markIntSS {Aa : List (List Int)} {Ah : Int} {Ac : Option Addr} {Ad : Nat} {lo : Nat} {K : List Ch} (hK : Dp lo (Sl Ac Aa Ad) Aa K) {r : Int} (h : M.markIntSD Aa Ah = some r) :
    Cal2 Try.prog 32 [(Sl Ac Aa Ad), (I Ah)] [Ch.big K] (fun n0 v L => v = (I r) ∧ L = []) := by
 obtain ⟨hn, h⟩ := markIntSD_some h
 obtain ⟨ps, hps, rfl⟩ := hK.ex
 refine cal2 (n := 19) Try.func32 rfl rfl rfl rfl ?_
 intro S0 σ0 n0 hn0 H
 refine c_seq (rg (sa (I 0) rfl (w_end (q_then (c_seq (c_seq (rg (sa (I 0) rfl (w_end (q_then ?_))))))))))
 refine c_cut (fun e a w => e = .normal ∧ ∃ (ρ : Nat → Value) (σ : St), a = fr 19 (updL ρ [(1, (I r))]) ∧ w = σ.w ∧ Hp S0 σ0 σ []) ?_ ?_
 ·refine c_blk ?_
  have hlen : ps.length = Aa.length := by rw [hps]; simp
  refine wp_loop_ghost (fun m a w => ∃ (i : Nat) (ρ : Nat → Value) (σ : St) (ys : List Value) (qs : List ((List Int) × Value)) (k : Int), i + m = Aa.length ∧ qs.length = m ∧ ys.drop i = qs.map dsh ∧ M.dmarkIntSS (qs.map (·.1)) k = some r ∧ a = fr 19 (updL ρ [(0, (Sl Ac Aa Ad)), (1, (I k)), (5, (I (i : Int)))]) ∧ w = σ.w ∧ Hp S0 σ0 σ [Ch.own lo lo (Sl Ac Aa Ad) ys, Ch.big (qs.map (dow lo))]) Aa.length ⟨0, _, σ0, _, ps, Ah, by omega, hlen, rfl, hps ▸ h, fr_join ⟨rfl, rfl, rfl, trivial⟩, rfl, H.unbig⟩ ?_
  clear H
  rintro m _ _ ⟨i, ρ, σ3, ys, qs, k, him, hqs, hys, hk, rfl, rfl, H⟩
  refine c_seq (c_seq (rg (sm (I (i : Int)) rfl (sm (Sl Ac Aa Ad) rfl (st (v := (I (Aa.length : Int))) (rv_len Try.underlying22 rfl) (st (v := (B (decide ((i : Int) < (Aa.length : Int))))) (rv_lss (a := (i : Int)) (b := (Aa.length : Int)) rfl rfl) (w_end (q_then ?_))))))))
  refine cd_cond (decide ((i : Int) < (Aa.length : Int))) rfl (fun hb => ?_) (fun hb => ?_)
  ·have hlt : i < Aa.length := by have := of_decide_eq_true hb; omega
   obtain ⟨m, rfl⟩ : ∃ m', m = m' + 1 := ⟨m - 1, by omega⟩
   obtain ⟨p, qs, rfl⟩ : ∃ p qs', qs = p :: qs' := by cases qs with
    | nil => cases hqs
    | cons p qs => exact ⟨p, qs, rfl⟩
   obtain ⟨q, hq, hk'⟩ := bind_some (show (M.laws_markIntS p.1 k).bind (fun q => M.dmarkIntSS (qs.map (·.1)) q.1) = some r from hk)
   replace hys : ys.drop i = dsh p :: qs.map dsh := hys
   refine c_skip (q_then (c_seq (c_blk (rg (sm (Sl Ac Aa Ad) rfl (sm (I (i : Int)) rfl ?_))))))
   have hx7 := gidx_drop hys
   obtain ⟨b9, o10, hi8, -⟩ := (H.own 0 rfl).ix hx7
   refine st (v := (pt b9 o10)) (rv_ix Try.underlying22 ti25 rfl rfl hi8) ?_
   obtain ⟨_, ⟨rfl, hpl⟩, hl18, hc19⟩ := ((H.own 0 rfl).at hx7 hi8).cells
   replace H := Hp.unbig (H.sel' [1, 0] rfl rfl)
   obtain ⟨a20, c21, h22⟩ : IsSl p.2 p.1.length := (show Ow σ3 lo lo p.2 p.1 from H.head).isSl
   obtain ⟨px, hd⟩ := p
   dsimp only at h22 hq hys hc19
   subst h22
   have hc20 := hc19 0 (by simp)
   refine st (v := (Sl a20 px c21)) (rv_load1 Try.underlying25 rfl rfl hc20) (sm (I k) rfl ?_)
   replace H : Hp _ _ _ [_, _, _] := H
   replace H := H.ownSc 0 0 0 rfl (Nat.zero_le _)
   have hc25 := c_laws_markIntS (Ac := a20) (Ad := c21) hq
   refine st_call (cx_call hc25 (ent_f hc25.fn rfl) hn0 (H.sel' [0, 1, 2] rfl rfl : Hp S0 σ0 _ ([_] ++ _))) (wanted_none _ rfl _) ?_
   rintro _ σ29 ⟨_, ⟨rfl, rfl, -⟩, H, -⟩
   replace H : Hp _ _ _ [_, _, _] := H
   replace H := H.sel' [2, 1] rfl rfl
   refine sa (I q.1) rfl (w_end (q_blk (q_then (rg (sm (I (i : Int)) rfl (st (v := (I (w64 ((i : Int) + 1)))) (rv_add (a := (i : Int)) (b := 1) rfl rfl) (sa (I (w64 ((i : Int) + 1))) rfl (w_end ?_))))))))
   have e1 : w64 ((i : Int) + 1) = ((i + 1 : Nat) : Int) := w64_id (by omega) (by omega)
   rw [e1]
   refine q_then ?_
   exact ⟨m, by omega, i + 1, _, σ29, _, qs, _, by omega, by simpa using hqs, drop_next hys, hk', fr_join ⟨rfl, rfl, rfl, trivial⟩, rfl, H⟩
  ·have hlt : ¬ i < Aa.length := by have := of_decide_eq_false hb; omega
   obtain rfl : m = 0 := by omega
   obtain rfl : qs = [] := List.eq_nil_of_length_eq_zero hqs
   obtain rfl : k = r := Option.some.inj hk
   refine c_exit (q_then_x (q_then_x (q_blk_hit ?_)))
   exact ⟨rfl, _, σ3, fr_join ⟨rfl, trivial⟩, rfl, H.sel' [] rfl rfl⟩
 ·clear H
  rintro e a w ⟨rfl, ρ, σ41, rfl, rfl, H⟩
  refine q_then (c_seq (rg (sm (I r) rfl (sa (I r) rfl (w_end (q_then (c_ret ?_)))))))
  exact fin_ret (v := (I r)) (results_ok Try.results32 (res_tmp (v := (I r)) rfl res_nil) rfl) ⟨rfl, rfl⟩ H


theorem c_laws_markItemS {Aa : List (Int × (List Int) × Int)} {Ah : Int} {Ac : Option Addr} {Ad : Nat} {lo : Nat} {K : List Ch} (hK : Dp lo (Sl Ac Aa Ad) Aa K) {r : Int} (h : M.markItemD Aa Ah = some r) :
    Cal2 Try.prog 33 [(Sl Ac Aa Ad), (I Ah)] [Ch.big K] (fun n0 v L => v = (I r) ∧ L = []) := by
 obtain ⟨hn, h⟩ := markItemD_some h
 obtain ⟨ps, hps, rfl⟩ := hK.ex
 refine cal2 (n := 34) Try.func33 rfl rfl rfl rfl ?_
 intro S0 σ0 n0 hn0 H
 refine c_seq (rg (sa (I 0) rfl (w_end (q_then (c_seq (c_seq (rg (sa (I 0) rfl (w_end (q_then ?_))))))))))
 refine c_cut (fun e a w => e = .normal ∧ ∃ (ρ : Nat → Value) (σ : St), a = fr 34 (updL ρ [(1, (I r))]) ∧ w = σ.w ∧ Hp S0 σ0 σ []) ?_ ?_
 ·refine c_blk ?_
  have hlen : ps.length = Aa.length := by rw [hps]; simp
  refine wp_loop_ghost (fun m a w => ∃ (i : Nat) (ρ : Nat → Value) (σ : St) (ys : List (Int × Value × Int)) (qs : List ((Int × (List Int) × Int) × Value)) (k : Int), i + m = Aa.length ∧ qs.length = m ∧ ys.drop i = qs.map dsh ∧ M.dmarkItemS (qs.map (·.1)) k = some r ∧ a = fr 34 (updL ρ [(0, (Sl Ac Aa Ad)), (1, (I k)), (5, (I (i : Int)))]) ∧ w = σ.w ∧ Hp S0 σ0 σ [Ch.own lo lo (Sl Ac Aa Ad) ys, Ch.big (qs.map (dow lo))]) Aa.length ⟨0, _, σ0, _, ps, Ah, by omega, hlen, rfl, hps ▸ h, fr_join ⟨rfl, rfl, rfl, trivial⟩, rfl, H.unbig⟩ ?_
  clear H
  rintro m _ _ ⟨i, ρ, σ3, ys, qs, k, him, hqs, hys, hk, rfl, rfl, H⟩
  refine c_seq (c_seq (rg (sm (I (i : Int)) rfl (sm (Sl Ac Aa Ad) rfl (st (v := (I (Aa.length : Int))) (rv_len Try.underlying47 rfl) (st (v := (B (decide ((i : Int) < (Aa.length : Int))))) (rv_lss (a := (i : Int)) (b := (Aa.length : Int)) rfl rfl) (w_end (q_then ?_))))))))
  refine cd_cond (decide ((i : Int) < (Aa.length : Int))) rfl (fun hb => ?_) (fun hb => ?_)
  ·have hlt : i < Aa.length := by have := of_decide_eq_true hb; omega
   obtain ⟨m, rfl⟩ : ∃ m', m = m' + 1 := ⟨m - 1, by omega⟩
   obtain ⟨p, qs, rfl⟩ : ∃ p qs', qs = p :: qs' := by cases qs with
    | nil => cases hqs
    | cons p qs => exact ⟨p, qs, rfl⟩
   obtain ⟨q, hq, hk'⟩ := bind_some (show (M.laws_markIntS p.1.2.1 (w64 (k + 1))).bind (fun q => M.dmarkItemS (qs.map (·.1)) (w64 (q.1 + 1))) = some r from hk)
   replace hys : ys.drop i = dsh p :: qs.map dsh := hys
   refine c_skip (q_then (c_seq (c_blk (c_seq (rg (sm (Sl Ac Aa Ad) rfl (sm (I (i : Int)) rfl (sm (I k) rfl ?_))))))))
   have hx7 := gidx_drop hys
   obtain ⟨b9, o10, hi8, -⟩ := (H.own 0 rfl).ix hx7
   refine st (v := (pt b9 o10)) (rv_ix Try.underlying47 ti71 rfl rfl hi8) (st (v := (pt b9 (o10 + 0))) (rv_fieldAddr (off := 0) (ft := 3) Try.underlying71 rfl ti3 rfl rfl) ?_)
   refine st_exS (ex_store_own (e' := ((k, p.2, p.1.2.2) : Int × Value × Int)) (vs := [(I k)]) (k := 0) H (i := 0) rfl ti3 hx7 hi8 rfl rfl rfl rfl rfl (Nat.le_of_ble_eq_true rfl) (by simp [plain]) (by rintro _ ⟨_, _, rfl, rfl, ⟨_, _, rfl, ⟨rfl, hpl⟩, rfl⟩⟩; exact ⟨[(I k)], [p.2, (I p.1.2.2)], rfl, rfl, ⟨[p.2], [(I p.1.2.2)], rfl, ⟨rfl, hpl⟩, rfl⟩⟩)) (wanted_none _ rfl _) ?_
   rintro σ11 ⟨H, -⟩
   refine w_end (q_then (c_seq (rg (sm (I k) rfl (st (v := (I (w64 (k + 1)))) (rv_add (a := k) (b := 1) rfl rfl) (sa (I (w64 (k + 1))) rfl (w_end (q_then (c_seq (rg ?_))))))))))
   replace hys := drop_set (e' := ((k, p.2, p.1.2.2) : Int × Value × Int)) hys
   rw [Int.toNat_natCast] at H
   generalize ys.set i ((k, p.2, p.1.2.2) : Int × Value × Int) = ys at H hys
   have hx7 := gidx_drop hys
   refine sm (Sl Ac Aa Ad) rfl (sm (I (i : Int)) rfl ?_)
   obtain ⟨b9, o10, hi8, -⟩ := (H.own 0 rfl).ix hx7
   refine st (v := (pt b9 o10)) (rv_ix Try.underlying47 ti71 rfl rfl hi8) (st (v := (pt b9 (o10 + 1))) (rv_fieldAddr (off := 1) (ft := 25) Try.underlying71 rfl ti25 rfl rfl) ?_)
   obtain ⟨_, ⟨_, _, rfl, rfl, ⟨_, _, rfl, ⟨rfl, hpl⟩, rfl⟩⟩, hl18, hc19⟩ := ((H.own 0 rfl).at hx7 hi8).cells
   replace H := Hp.unbig (H.sel' [1, 0] rfl rfl)
   obtain ⟨a20, c21, h22⟩ : IsSl p.2 p.1.2.1.length := (show Ow σ11 lo lo p.2 p.1.2.1 from H.head).isSl
   obtain ⟨px, hd⟩ := p
   dsimp only at h22 hq hys hc19
   subst h22
   have hc20 := hc19 1 (by simp)
   refine st (v := (Sl a20 px.2.1 c21)) (rv_load1 Try.underlying25 rfl rfl hc20) (sm (I (w64 (k + 1))) rfl ?_)
   replace H : Hp _ _ _ [_, _, _] := H
   replace H := H.ownSc 0 0 0 rfl (Nat.zero_le _)
   have hc25 := c_laws_markIntS (Ac := a20) (Ad := c21) hq
   refine st_call (cx_call hc25 (ent_f hc25.fn rfl) hn0 (H.sel' [0, 1, 2] rfl rfl : Hp S0 σ0 _ ([_] ++ _))) (wanted_none _ rfl _) ?_
   rintro _ σ29 ⟨_, ⟨rfl, rfl, -⟩, H, -⟩
   replace H : Hp _ _ _ [_, _, _] := H
   replace H := H.sel' [2, 1] rfl rfl
   refine sa (I q.1) rfl (w_end (q_then (c_seq (rg (sm (Sl Ac Aa Ad) rfl (sm (I (i : Int)) rfl (sm (I q.1) rfl ?_)))))))
   obtain ⟨b9, o10, hi8, -⟩ := (H.own 0 rfl).ix hx7
   refine st (v := (pt b9 o10)) (rv_ix Try.underlying47 ti71 rfl rfl hi8) (st (v := (pt b9 (o10 + 2))) (rv_fieldAddr (off := 2) (ft := 3) Try.underlying71 rfl ti3 rfl rfl) ?_)
   refine st_exS (ex_store_own (e' := ((k, (Sl a20 px.2.1 c21), q.1) : Int × Value × Int)) (vs := [(I q.1)]) (k := 2) H (i := 0) rfl ti3 hx7 hi8 rfl rfl rfl rfl rfl (Nat.le_of_ble_eq_true rfl) (by simp [plain]) (by rintro _ ⟨_, _, rfl, rfl, ⟨_, _, rfl, ⟨rfl, hpl⟩, rfl⟩⟩; exact ⟨[(I k)], [(Sl a20 px.2.1 c21), (I q.1)], rfl, rfl, ⟨[(Sl a20 px.2.1 c21)], [(I q.1)], rfl, ⟨rfl, hpl⟩, rfl⟩⟩)) (wanted_none _ rfl _) ?_
   rintro σ30 ⟨H, -⟩
   refine w_end (q_then (rg (sm (I q.1) rfl (st (v := (I (w64 (q.1 + 1)))) (rv_add (a := q.1) (b := 1) rfl rfl) (sa (I (w64 (q.1 + 1))) rfl (w_end (q_blk (q_then (rg (sm (I (i : Int)) rfl (st (v := (I (w64 ((i : Int) + 1)))) (rv_add (a := (i : Int)) (b := 1) rfl rfl) ?_)))))))))))
   refine sa (I (w64 ((i : Int) + 1))) rfl (w_end ?_)
   have e1 : w64 ((i : Int) + 1) = ((i + 1 : Nat) : Int) := w64_id (by omega) (by omega)
   rw [e1]
   refine q_then ?_
   rw [Int.toNat_natCast] at H
   exact ⟨m, by omega, i + 1, _, σ30, _, qs, _, by omega, by simpa using hqs, drop_next (drop_set hys), hk', fr_join ⟨rfl, rfl, rfl, trivial⟩, rfl, H⟩
  ·have hlt : ¬ i < Aa.length := by have := of_decide_eq_false hb; omega
   obtain rfl : m = 0 := by omega
   obtain rfl : qs = [] := List.eq_nil_of_length_eq_zero hqs
   obtain rfl : k = r := Option.some.inj hk
   refine c_exit (q_then_x (q_then_x (q_blk_hit ?_)))
   exact ⟨rfl, _, σ3, fr_join ⟨rfl, trivial⟩, rfl, H.sel' [] rfl rfl⟩
 ·clear H
  rintro e a w ⟨rfl, ρ, σ41, rfl, rfl, H⟩
  refine q_then (c_seq (rg (sm (I r) rfl (sa (I r) rfl (w_end (q_then (c_ret ?_)))))))
  exact fin_ret (v := (I r)) (results_ok Try.results33 (res_tmp (v := (I r)) rfl res_nil) rfl) ⟨rfl, rfl⟩ H


theorem c_laws_FnExactBucketOf {Ds : List (List Int)} {Dt : List (Int × (List Int) × Int)} {Du : List Int} {Dv : Int} {Dw : Option Addr} {Dx : Nat} {Dy : Option Addr} {Dz : Nat} {Ea : Option Addr} {Eb : Nat} {r : Bool} (h : M.laws_FnExactBucketOf Ds Dt Du Dv = some r) :
    Cal2 Try.prog 7 [(Sl Dw Ds Dx), (Sl Dy Dt Dz), (Sl Ea Du Eb), (I Dv)] [Ch.ro 0 (Sl Dw Ds Dx) Ds, Ch.ro 0 (Sl Dy Dt Dz) Dt, Ch.ro 0 (Sl Ea Du Eb) Du] (fun n0 v L => v = (B r) ∧ L = []) := by
 refine cal2 (n := 118) Try.func7 rfl rfl rfl rfl ?_
 intro S0 σ0 n0 hn0 H
 unfold M.laws_FnExactBucketOf at h
 refine c_seq (rg (sa (B false) rfl (w_end (q_then (c_seq (c_seq (rg (sm (Sl Ea Du Eb) rfl (st (v := (I (Du.length : Int))) (rv_len Try.underlying25 rfl) (st (v := (B (decide (1048576 < (Du.length : Int))))) (rv_gtr (a := (Du.length : Int)) (b := 1048576) rfl rfl) (w_end ?_)))))))))))
 refine q_then ?_
 refine cd_cond (decide (1048576 < (Du.length : Int))) rfl (fun hb1 => ?_) (fun hb1 => ?_)
 ·replace h := bif_t hb1 h
  refine c_seq (rg (sa (B true) rfl (w_end (q_then (c_ret (q_then_r ?_))))))
  obtain rfl := sj h
  exact fin_ret (v := (B true)) (results_ok Try.results7 (res_tmp (v := (B true)) rfl res_nil) rfl) ⟨rfl, rfl⟩ (H.sel' [] rfl rfl)
 ·replace h := bif_f hb1 h
  refine c_skip (q_then (c_seq (rg (sa (I 1048576) rfl (w_end (q_then (c_seq (rg (sm (Sl Dw Ds Dx) rfl (sm (I 1048576) rfl ?_))))))))))
  revert h; refine br fun r2 hx3 h => ?_
  have hc4 := c_laws_szIntSS (Ac := Dw) (Ad := Dx) hx3
  refine st_call (cx_call hc4 (ent_f hc4.fn rfl) hn0 (H.sel' [0, 0, 1, 2] rfl rfl : Hp S0 σ0 _ ([_] ++ _))) wn ?_
  rintro _ σ5 ⟨_, ⟨rfl, rfl⟩, H, -⟩
  replace H : Hp _ _ _ [_, _, _] := H
  refine sa (I r2) rfl (w_end (q_then (c_seq (c_seq (rg (sm (I r2) rfl (st (v := (B (decide (r2 < 0)))) (rv_lss (a := r2) (b := 0) rfl rfl) (w_end (q_then ?_)))))))))
  refine cd_cond (decide (r2 < 0)) rfl (fun hb6 => ?_) (fun hb6 => ?_)
  ·replace h := bif_t hb6 h
   refine c_seq (rg (sa (B true) rfl (w_end (q_then (c_ret (q_then_r ?_))))))
   obtain rfl := sj h
   exact fin_ret (v := (B true)) (results_ok Try.results7 (res_tmp (v := (B true)) rfl res_nil) rfl) ⟨rfl, rfl⟩ (H.sel' [] rfl rfl)
  ·replace h := bif_f hb6 h
   refine c_skip (q_then (c_seq (rg (sm (Sl Dy Dt Dz) rfl (sm (I r2) rfl ?_)))))
   revert h; refine br fun r7 hx8 h => ?_
   have hc9 := c_laws_szItemS (Ac := Dy) (Ad := Dz) hx8
   refine st_call (cx_call hc9 (ent_f hc9.fn rfl) hn0 (H.sel' [1, 0, 1, 2] rfl rfl : Hp S0 σ0 _ ([_] ++ _))) wn ?_
   rintro _ σ10 ⟨_, ⟨rfl, rfl⟩, H, -⟩
   replace H : Hp _ _ _ [_, _, _] := H
   refine sa (I r7) rfl (w_end (q_then (c_seq (c_seq (rg (sm (I r7) rfl (st (v := (B (decide (r7 < 0)))) (rv_lss (a := r7) (b := 0) rfl rfl) (w_end (q_then ?_)))))))))
   refine cd_cond (decide (r7 < 0)) rfl (fun hb11 => ?_) (fun hb11 => ?_)
   ·replace h := bif_t hb11 h
    refine c_seq (rg (sa (B true) rfl (w_end (q_then (c_ret (q_then_r ?_))))))
    obtain rfl := sj h
    exact fin_ret (v := (B true)) (results_ok Try.results7 (res_tmp (v := (B true)) rfl res_nil) rfl) ⟨rfl, rfl⟩ (H.sel' [] rfl rfl)
   ·replace h := bif_f hb11 h
    refine c_skip (q_then (c_seq (rg (sm (Sl Dw Ds Dx) rfl ?_))))
    revert h; refine br fun r12 hx13 h => ?_
    have hc14 := c_laws_toIntSS (Ac := Dw) (Ad := Dx) hx13
    refine st_call (cx_call hc14 (ent_f hc14.fn rfl) hn0 (H.sel' [0, 0, 1, 2] rfl rfl : Hp S0 σ0 _ ([_] ++ _))) wn ?_
    rintro _ σ19 ⟨_, ⟨a15, c16, K17, rfl, rfl, hK18⟩, H, -⟩
    replace H : Hp _ _ _ [_, _, _, _] := H
    refine sm (Sl Dy Dt Dz) rfl ?_
    revert h; refine br fun r20 hx21 h => ?_
    have hc22 := c_laws_toItemS (Ac := Dy) (Ad := Dz) hx21
    refine st_call (cx_call hc22 (ent_f hc22.fn rfl) hn0 (H.sel' [2, 0, 1, 2, 3] rfl rfl : Hp S0 σ0 _ ([_] ++ _))) wn ?_
    rintro _ σ27 ⟨_, ⟨a23, c24, K25, rfl, rfl, hK26⟩, H, -⟩
    replace H : Hp _ _ _ [_, _, _, _, _] := H
    refine sm (Sl Ea Du Eb) rfl ?_
    revert h; refine br fun r28 hx29 h => ?_
    have hc30 := c_laws_toIntS (Ac := Ea) (Ad := Eb) hx29
    refine st_call (cx_call hc30 (ent_f hc30.fn rfl) hn0 (H.sel' [4, 0, 1, 2, 3, 4] rfl rfl : Hp S0 σ0 _ ([_] ++ _))) wn ?_
    rintro _ σ34 ⟨_, ⟨a31, c32, rfl, rfl, ht33⟩, H, -⟩
    replace H : Hp _ _ _ [_, _, _, _, _, _] := H
    refine sm (I Dv) rfl ?_
    obtain ⟨σ35, hw36, H, -⟩ := H.pub 0 rfl (Nat.le_refl _)
    rw [← hw36]; clear hw36
    replace H := H.roLow 0 0 rfl (Nat.zero_le _)
    revert h; refine br fun r37 hx38 h => ?_
    have hc39 := c_spec_BucketOf (Ba := a15) (Bb := c16) (Bk := a23) (Bl := c24) (Bm := a31) (Bn := c32) hx38
    have hle := Nat.le_trans hn0 H.size
    refine st_call (cx_lend (Loan.lendB hK18.lends (Loan.lendB hK26.lends (Loan.same Loan.nil))) hc39 (ent_f hc39.fn rfl) (show Hp S0 σ0 _ ([Ch.big K17, Ch.big K25] ++ ([Ch.ro 0 (Sl a31 r28 c32) r28] ++ [Ch.ro 0 (Sl a31 r28 c32) r28, Ch.ro n0 (Sl a31 r28 c32) r28, Ch.ro 0 (Sl Dw Ds Dx) Ds, Ch.ro 0 (Sl Dy Dt Dz) Dt, Ch.ro 0 (Sl Ea Du Eb) Du])) from (H.sel' [3, 2, 0, 0, 1, 4, 5, 6] rfl rfl)) (by rintro _ _ _ ⟨_, _, rfl, rfl⟩; exact ⟨Ab.ownSc, trivial⟩)) wn ?_
    rintro _ σ42 ⟨_, ⟨a40, c41, rfl, rfl⟩, H, -, -⟩
    replace H : Hp _ _ _ [_, _, _, _, _, _, _, _] := H
    replace H := H.ownLow 0 n0 n0 rfl hle hle
    clear hle
    replace H : Hp _ _ _ [_, _, _, _, _, _, _, _] := H
    replace H : Hp S0 σ0 σ42 [Ch.own n0 n0 (Sl a40 r37 c41) r37, Ch.ro 0 (Sl Dw Ds Dx) Ds, Ch.ro 0 (Sl Dy Dt Dz) Dt, Ch.ro 0 (Sl Ea Du Eb) Du] := H.sel' [0, 5, 6, 7] rfl rfl
    refine sa (Sl a40 r37 c41) rfl (w_end (q_then (c_seq (rg (sm (Sl Dw Ds Dx) rfl ?_)))))
    revert h; refine br fun r43 hx44 h => ?_
    have hc45 := c_laws_toIntSS (Ac := Dw) (Ad := Dx) hx44
    refine st_call (cx_call hc45 (ent_f hc45.fn rfl) hn0 (H.sel' [1, 0, 1, 2, 3] rfl rfl : Hp S0 σ0 _ ([_] ++ _))) wn ?_
    rintro _ σ50 ⟨_, ⟨a46, c47, K48, rfl, rfl, hK49⟩, H, -⟩
    replace H : Hp _ _ _ [_, _, _, _, _] := H
    refine sa (Sl a46 r43 c47) rfl (w_end (q_then (c_seq (rg (sm (Sl Dy Dt Dz) rfl ?_)))))
    revert h; refine br fun r51 hx52 h => ?_
    have hc53 := c_laws_toItemS (Ac := Dy) (Ad := Dz) hx52
    refine st_call (cx_call hc53 (ent_f hc53.fn rfl) hn0 (H.sel' [3, 0, 1, 2, 3, 4] rfl rfl : Hp S0 σ0 _ ([_] ++ _))) wn ?_
    rintro _ σ58 ⟨_, ⟨a54, c55, K56, rfl, rfl, hK57⟩, H, -⟩
    replace H : Hp _ _ _ [_, _, _, _, _, _] := H
    refine sa (Sl a54 r51 c55) rfl (w_end (q_then (c_seq (rg (sm (Sl Ea Du Eb) rfl ?_)))))
    revert h; refine br fun r59 hx60 h => ?_
    have hc61 := c_laws_toIntS (Ac := Ea) (Ad := Eb) hx60
    refine st_call (cx_call hc61 (ent_f hc61.fn rfl) hn0 (H.sel' [5, 0, 1, 2, 3, 4, 5] rfl rfl : Hp S0 σ0 _ ([_] ++ _))) wn ?_
    rintro _ σ65 ⟨_, ⟨a62, c63, rfl, rfl, ht64⟩, H, -⟩
    replace H : Hp _ _ _ [_, _, _, _, _, _, _] := H
    refine sa (Sl a62 r59 c63) rfl (w_end (q_then (c_seq (rg (sm (Sl a46 r43 c47) rfl (sm (Sl a54 r51 c55) rfl (sm (Sl a62 r59 c63) rfl (sm (I Dv) rfl ?_))))))))
    revert h; refine br fun r66 hx67 h => ?_
    have hc68 := c_impl_BucketOf (Ba := a46) (Bb := c47) (Bk := a54) (Bl := c55) (Bm := a62) (Bn := c63) hx67
    have hle := Nat.le_trans hn0 H.size
    refine st_call (cx_lend (Loan.lendB hK49.lends (Loan.lendB hK57.lends (Loan.lend Loan.nil))) hc68 (ent_f hc68.fn rfl) (show Hp S0 σ0 _ ([Ch.big K48, Ch.big K56, Ch.own n0 n0 (Sl a62 r59 c63) r59] ++ ([] ++ [Ch.own n0 n0 (Sl a40 r37 c41) r37, Ch.ro 0 (Sl Dw Ds Dx) Ds, Ch.ro 0 (Sl Dy Dt Dz) Dt, Ch.ro 0 (Sl Ea Du Eb) Du])) from (H.sel' [2, 1, 0, 3, 4, 5, 6] rfl rfl)) (by rintro _ _ _ ⟨_, _, rfl, rfl, _⟩; exact ⟨Ab.ownSc, trivial⟩)) wn ?_
    rintro _ σ72 ⟨_, ⟨a69, c70, rfl, rfl, ht71⟩, H, -, -⟩
    replace H : Hp _ _ _ [_, _, _, _, _, _, _, _] := H
    replace H := H.ownLow 0 n0 n0 rfl hle hle
    clear hle
    replace H : Hp _ _ _ [_, _, _, _, _, _, _, _] := H
    refine sa (Sl a69 r66 c70) rfl (w_end (q_then (c_seq (c_seq (rg (sm (Sl a69 r66 c70) rfl (sm (Sl a40 r37 c41) rfl ?_)))))))
    revert h; refine br fun r73 hx74 h => ?_
    have hc75 := c_laws_eqIntS (Ac := a69) (Ad := c70) (Af := a40) (Ag := c41) hx74
    have hle := Nat.le_trans hn0 H.size
    refine st_call (cx_lend (Loan.lend (Loan.lend Loan.nil)) hc75 (ent_f hc75.fn rfl) (show Hp S0 σ0 _ ([Ch.own n0 n0 (Sl a69 r66 c70) r66, Ch.own n0 n0 (Sl a40 r37 c41) r37] ++ ([] ++ [Ch.big K48, Ch.big K56, Ch.own n0 n0 (Sl a62 r59 c63) r59, Ch.ro 0 (Sl Dw Ds Dx) Ds, Ch.ro 0 (Sl Dy Dt Dz) Dt, Ch.ro 0 (Sl Ea Du Eb) Du])) from (H.sel' [0, 4, 1, 2, 3, 5, 6, 7] rfl rfl)) (by rintro _ _ _ ⟨rfl, rfl⟩; exact trivial)) wn ?_
    rintro _ σ76 ⟨_, ⟨rfl, rfl⟩, H, -, -⟩
    replace H : Hp _ _ _ [_, _, _, _, _, _, _, _] := H
    clear hle
    replace H : Hp _ _ _ [_, _, _, _, _, _, _, _] := H
    refine st (v := (B (!r73))) (rv_not rfl) (w_end (q_then ?_))
    refine cd_cond (!r73) rfl (fun hb77 => ?_) (fun hb77 => ?_)
    ·replace h := bif_t hb77 h
     refine c_seq (rg (sa (B false) rfl (w_end (q_then (c_ret (q_then_r ?_))))))
     obtain rfl := sj h
     exact fin_ret (v := (B false)) (results_ok Try.results7 (res_tmp (v := (B false)) rfl res_nil) rfl) ⟨rfl, rfl⟩ (H.sel' [] rfl rfl)
    ·replace h := bif_f hb77 h
     refine c_skip (q_then (c_seq (c_seq (rg (sm (Sl a46 r43 c47) rfl (sm (Sl Dw Ds Dx) rfl ?_))))))
     revert h; refine br fun r78 hx79 h => ?_
     have hc80 := c_laws_toIntSS (Ac := Dw) (Ad := Dx) hx79
     refine st_call (cx_call hc80 (ent_f hc80.fn rfl) hn0 (H.sel' [5, 0, 1, 2, 3, 4, 5, 6, 7] rfl rfl : Hp S0 σ0 _ ([_] ++ _))) wn ?_
     rintro _ σ85 ⟨_, ⟨a81, c82, K83, rfl, rfl, hK84⟩, H, -⟩
     replace H : Hp _ _ _ [_, _, _, _, _, _, _, _, _] := H
     revert h; refine br fun r86 hx87 h => ?_
     have hc88 := c_laws_eqIntSS (Ac := a46) (Ad := c47) (Af := a81) (Ag := c82) hx87
     have hle := Nat.le_trans hn0 H.size
     refine st_call (cx_lend (Loan.lendB hK49.lends (Loan.lendB hK84.lends Loan.nil)) hc88 (ent_f hc88.fn rfl) (show Hp S0 σ0 _ ([Ch.big K48, Ch.big K83] ++ ([] ++ [Ch.own n0 n0 (Sl a69 r66 c70) r66, Ch.own n0 n0 (Sl a40 r37 c41) r37, Ch.big K56, Ch.own n0 n0 (Sl a62 r59 c63) r59, Ch.ro 0 (Sl Dw Ds Dx) Ds, Ch.ro 0 (Sl Dy Dt Dz) Dt, Ch.ro 0 (Sl Ea Du Eb) Du])) from (H.sel' [3, 0, 1, 2, 4, 5, 6, 7, 8] rfl rfl)) (by rintro _ _ _ ⟨rfl, rfl⟩; exact trivial)) wn ?_
     rintro _ σ89 ⟨_, ⟨rfl, rfl⟩, H, -, -⟩
     replace H : Hp _ _ _ [_, _, _, _, _, _, _, _, _] := H
     clear hle
     replace H : Hp _ _ _ [_, _, _, _, _, _, _, _, _] := H
     replace H : Hp S0 σ0 σ89 [Ch.big K48, Ch.own n0 n0 (Sl a69 r66 c70) r66, Ch.own n0 n0 (Sl a40 r37 c41) r37, Ch.big K56, Ch.own n0 n0 (Sl a62 r59 c63) r59, Ch.ro 0 (Sl Dw Ds Dx) Ds, Ch.ro 0 (Sl Dy Dt Dz) Dt, Ch.ro 0 (Sl Ea Du Eb) Du] := H.sel' [0, 2, 3, 4, 5, 6, 7, 8] rfl rfl
     refine st (v := (B (!r86))) (rv_not rfl) (w_end (q_then ?_))
     refine cd_cond (!r86) rfl (fun hb90 => ?_) (fun hb90 => ?_)
     ·replace h := bif_t hb90 h
      refine c_seq (rg (sa (B false) rfl (w_end (q_then (c_ret (q_then_r ?_))))))
      obtain rfl := sj h
      exact fin_ret (v := (B false)) (results_ok Try.results7 (res_tmp (v := (B false)) rfl res_nil) rfl) ⟨rfl, rfl⟩ (H.sel' [] rfl rfl)
     ·replace h := bif_f hb90 h
      refine c_skip (q_then (c_seq (c_seq (rg (sm (Sl a54 r51 c55) rfl (sm (Sl Dy Dt Dz) rfl ?_))))))
      revert h; refine br fun r91 hx92 h => ?_
      have hc93 := c_laws_toItemS (Ac := Dy) (Ad := Dz) hx92
      refine st_call (cx_call hc93 (ent_f hc93.fn rfl) hn0 (H.sel' [6, 0, 1, 2, 3, 4, 5, 6, 7] rfl rfl : Hp S0 σ0 _ ([_] ++ _))) wn ?_
      rintro _ σ98 ⟨_, ⟨a94, c95, K96, rfl, rfl, hK97⟩, H, -⟩
      replace H : Hp _ _ _ [_, _, _, _, _, _, _, _, _] := H
      revert h; refine br fun r99 hx100 h => ?_
      have hc101 := c_laws_eqItemS (Ac := a54) (Ad := c55) (Af := a94) (Ag := c95) hx100
      have hle := Nat.le_trans hn0 H.size
      refine st_call (cx_lend (Loan.lendB hK57.lends (Loan.lendB hK97.lends Loan.nil)) hc101 (ent_f hc101.fn rfl) (show Hp S0 σ0 _ ([Ch.big K56, Ch.big K96] ++ ([] ++ [Ch.big K48, Ch.own n0 n0 (Sl a69 r66 c70) r66, Ch.own n0 n0 (Sl a40 r37 c41) r37, Ch.own n0 n0 (Sl a62 r59 c63) r59, Ch.ro 0 (Sl Dw Ds Dx) Ds, Ch.ro 0 (Sl Dy Dt Dz) Dt, Ch.ro 0 (Sl Ea Du Eb) Du])) from (H.sel' [4, 0, 1, 2, 3, 5, 6, 7, 8] rfl rfl)) (by rintro _ _ _ ⟨rfl, rfl⟩; exact trivial)) wn ?_
      rintro _ σ102 ⟨_, ⟨rfl, rfl⟩, H, -, -⟩
      replace H : Hp _ _ _ [_, _, _, _, _, _, _, _, _] := H
      clear hle
      replace H : Hp _ _ _ [_, _, _, _, _, _, _, _, _] := H
      replace H : Hp S0 σ0 σ102 [Ch.big K56, Ch.big K48, Ch.own n0 n0 (Sl a69 r66 c70) r66, Ch.own n0 n0 (Sl a40 r37 c41) r37, Ch.own n0 n0 (Sl a62 r59 c63) r59, Ch.ro 0 (Sl Dw Ds Dx) Ds, Ch.ro 0 (Sl Dy Dt Dz) Dt, Ch.ro 0 (Sl Ea Du Eb) Du] := H.sel' [0, 2, 3, 4, 5, 6, 7, 8] rfl rfl
      refine st (v := (B (!r99))) (rv_not rfl) (w_end (q_then ?_))
      refine cd_cond (!r99) rfl (fun hb103 => ?_) (fun hb103 => ?_)
      ·replace h := bif_t hb103 h
       refine c_seq (rg (sa (B false) rfl (w_end (q_then (c_ret (q_then_r ?_))))))
       obtain rfl := sj h
       exact fin_ret (v := (B false)) (results_ok Try.results7 (res_tmp (v := (B false)) rfl res_nil) rfl) ⟨rfl, rfl⟩ (H.sel' [] rfl rfl)
      ·replace h := bif_f hb103 h
       refine c_skip (q_then (c_seq (c_seq (rg (sm (Sl a62 r59 c63) rfl (sm (Sl Ea Du Eb) rfl ?_))))))
       revert h; refine br fun r104 hx105 h => ?_
       have hc106 := c_laws_toIntS (Ac := Ea) (Ad := Eb) hx105
       refine st_call (cx_call hc106 (ent_f hc106.fn rfl) hn0 (H.sel' [7, 0, 1, 2, 3, 4, 5, 6, 7] rfl rfl : Hp S0 σ0 _ ([_] ++ _))) wn ?_
       rintro _ σ110 ⟨_, ⟨a107, c108, rfl, rfl, ht109⟩, H, -⟩
       replace H : Hp _ _ _ [_, _, _, _, _, _, _, _, _] := H
       obtain ⟨σ111, hw112, H, -⟩ := H.pub 0 rfl (Nat.le_refl _)
       rw [← hw112]; clear hw112
       replace H := H.roLow 0 0 rfl (Nat.zero_le _)
       revert h; refine br fun r113 hx114 h => ?_
       have hc115 := c_laws_eqIntS (Ac := a62) (Ad := c63) (Af := a107) (Ag := c108) hx114
       have hle := Nat.le_trans hn0 H.size
       refine st_call (cx_lend (Loan.lend (Loan.same Loan.nil)) hc115 (ent_f hc115.fn rfl) (show Hp S0 σ0 _ ([Ch.own n0 n0 (Sl a62 r59 c63) r59] ++ ([Ch.ro 0 (Sl a107 r104 c108) r104] ++ [Ch.ro 0 (Sl a107 r104 c108) r104, Ch.ro n0 (Sl a107 r104 c108) r104, Ch.big K56, Ch.big K48, Ch.own n0 n0 (Sl a69 r66 c70) r66, Ch.own n0 n0 (Sl a40 r37 c41) r37, Ch.ro 0 (Sl Dw Ds Dx) Ds, Ch.ro 0 (Sl Dy Dt Dz) Dt, Ch.ro 0 (Sl Ea Du Eb) Du])) from (H.sel' [6, 0, 0, 1, 2, 3, 4, 5, 7, 8, 9] rfl rfl)) (by rintro _ _ _ ⟨rfl, rfl⟩; exact trivial)) wn ?_
       rintro _ σ116 ⟨_, ⟨rfl, rfl⟩, H, -, -⟩
       replace H : Hp _ _ _ [_, _, _, _, _, _, _, _, _, _] := H
       clear hle
       replace H : Hp _ _ _ [_, _, _, _, _, _, _, _, _, _] := H
       replace H : Hp S0 σ0 σ116 [Ch.own n0 n0 (Sl a62 r59 c63) r59, Ch.big K56, Ch.big K48, Ch.own n0 n0 (Sl a69 r66 c70) r66, Ch.own n0 n0 (Sl a40 r37 c41) r37, Ch.ro 0 (Sl Dw Ds Dx) Ds, Ch.ro 0 (Sl Dy Dt Dz) Dt, Ch.ro 0 (Sl Ea Du Eb) Du] := H.sel' [0, 3, 4, 5, 6, 7, 8, 9] rfl rfl
       refine st (v := (B (!r113))) (rv_not rfl) (w_end (q_then ?_))
       refine cd_cond (!r113) rfl (fun hb117 => ?_) (fun hb117 => ?_)
       ·replace h := bif_t hb117 h
        refine c_seq (rg (sa (B false) rfl (w_end (q_then (c_ret (q_then_r ?_))))))
        obtain rfl := sj h
        exact fin_ret (v := (B false)) (results_ok Try.results7 (res_tmp (v := (B false)) rfl res_nil) rfl) ⟨rfl, rfl⟩ (H.sel' [] rfl rfl)
       ·replace h := bif_f hb117 h
        refine c_skip (q_then (c_seq (rg (sa (I 1) rfl (w_end (q_then (c_seq (rg (sm (Sl a46 r43 c47) rfl (sm (I 1) rfl ?_))))))))))
        revert h; refine br fun r118 hx119 h => ?_
        have hc120 := c_laws_markIntSS (Ac := a46) (Ad := c47) (hK := hK49) hx119
        refine st_call (cx_call hc120 (ent_f hc120.fn rfl) hn0 (H.sel' [2, 0, 1, 3, 4, 5, 6, 7] rfl rfl : Hp S0 σ0 _ ([_] ++ _))) wn ?_
        rintro _ σ121 ⟨_, ⟨rfl, rfl⟩, H, -⟩
        replace H : Hp _ _ _ [_, _, _, _, _, _, _] := H
        refine sa (I r118) rfl (w_end (q_then (c_seq (rg (sm (Sl a54 r51 c55) rfl (sm (I r118) rfl ?_))))))
        revert h; refine br fun r122 hx123 h => ?_
        have hc124 := c_laws_markItemS (Ac := a54) (Ad := c55) (hK := hK57) hx123
        refine st_call (cx_call hc124 (ent_f hc124.fn rfl) hn0 (H.sel' [1, 0, 2, 3, 4, 5, 6] rfl rfl : Hp S0 σ0 _ ([_] ++ _))) wn ?_
        rintro _ σ125 ⟨_, ⟨rfl, rfl⟩, H, -⟩
        replace H : Hp _ _ _ [_, _, _, _, _, _] := H
        refine sa (I r122) rfl (w_end (q_then (c_seq (rg (sm (Sl a62 r59 c63) rfl (sm (I r122) rfl ?_))))))
        replace H := H.ownLow 0 0 0 rfl (Nat.zero_le _) (Nat.zero_le _)
        revert h; refine br fun r126 hx127 h => ?_
        have hc128 := c_laws_markIntS (Ac := a62) (Ad := c63) hx127
        refine st_call (cx_call hc128 (ent_f hc128.fn rfl) hn0 (H.sel' [0, 1, 2, 3, 4, 5] rfl rfl : Hp S0 σ0 _ ([_] ++ _))) wn ?_
        rintro _ σ130 ⟨_, ⟨rfl, rfl, hn129⟩, H, -⟩
        replace H : Hp _ _ _ [_, _, _, _, _, _] := H
        have hsl : (Sl a62 r59 c63) = (Sl a62 r126.2 c63) := sl_len hn129.symm
        try rw [hsl]
        try rw [hsl] at H
        clear hsl
        refine sa (I r126.1) rfl (w_end (q_then (c_seq (c_seq ?_))))
        obtain ⟨o131, hj, h'⟩ := bind_some h
        clear h
        refine c_cut (fun e a w => e = .normal ∧ ∃ (ρ : Nat → Value) (σ : St), a = fr 118 (updL ρ [(0, (Sl Dw Ds Dx)), (1, (Sl Dy Dt Dz)), (2, (Sl Ea Du Eb)), (3, (I Dv)), (10, (Sl a40 r37 c41)), (14, (Sl a69 r66 c70)), (86, (B o131))]) ∧ w = σ.w ∧ Hp S0 σ0 σ [Ch.ro 0 (Sl Dw Ds Dx) Ds, Ch.ro 0 (Sl Dy Dt Dz) Dt, Ch.ro 0 (Sl Ea Du Eb) Du, Ch.own n0 n0 (Sl a40 r37 c41) r37, Ch.own n0 n0 (Sl a69 r66 c70) r66]) ?_ ?_
        ·clear h'
         rename _ = some o131 => h
         refine rg (sm (I r126.1) rfl (st (v := (B (decide (r126.1 < 0)))) (rv_lss (a := r126.1) (b := 0) rfl rfl) (sm (B (decide (r126.1 < 0))) rfl ?_)))
         rcases Bool.eq_false_or_eq_true (decide (r126.1 < 0)) with hb132 | hb132
         ·replace h := bif_t hb132 h
          refine st_skip (congrArg some hb132) (st_skip (congrArg some hb132) (st_skip (congrArg some hb132) (st_skip (congrArg some hb132) (st (v := (B true)) (rv_pick_t (congrArg B hb132) rfl) (w_end ?_)))))
          obtain rfl := sj h
          exact ⟨rfl, _, σ130, fr_join ⟨rfl, rfl, rfl, rfl, rfl, rfl, rfl, trivial⟩, rfl, H.sel' [3, 4, 5, 2, 1] rfl rfl⟩
         ·replace h := bif_f hb132 h
          refine st_g (v := (Sl a69 r66 c70)) (congrArg some hb132) (rv_move rfl) (st_g (v := (Sl a40 r37 c41)) (congrArg some hb132) (rv_move rfl) ?_)
          revert h; refine br fun r133 hx134 h => ?_
          have hc135 := c_laws_eqIntS (Ac := a69) (Ad := c70) (Af := a40) (Ag := c41) hx134
          have hle := Nat.le_trans hn0 H.size
          refine st_call (cx_lend (Loan.lend (Loan.lend Loan.nil)) hc135 (ent_f hc135.fn rfl) (show Hp S0 σ0 _ ([Ch.own n0 n0 (Sl a69 r66 c70) r66, Ch.own n0 n0 (Sl a40 r37 c41) r37] ++ ([] ++ [Ch.own 0 0 (Sl a62 r126.2 c63) r126.2, Ch.ro 0 (Sl Dw Ds Dx) Ds, Ch.ro 0 (Sl Dy Dt Dz) Dt, Ch.ro 0 (Sl Ea Du Eb) Du])) from (H.sel' [1, 2, 0, 3, 4, 5] rfl rfl)) (by rintro _ _ _ ⟨rfl, rfl⟩; exact trivial)) (wanted_yes rfl (by exact (congrArg some hb132))) ?_
          rintro _ σ136 ⟨_, ⟨rfl, rfl⟩, H, -, -⟩
          replace H : Hp _ _ _ [_, _, _, _, _, _] := H
          clear hle
          replace H : Hp _ _ _ [_, _, _, _, _, _] := H
          refine st_g (v := (B (!r133))) (congrArg some hb132) (rv_not rfl) (st (v := (B (!r133))) (rv_pick_f (congrArg B hb132) rfl) (w_end ?_))
          obtain rfl := sj h
          exact ⟨rfl, _, σ136, fr_join ⟨rfl, rfl, rfl, rfl, rfl, rfl, rfl, trivial⟩, rfl, H.sel' [3, 4, 5, 1, 0] rfl rfl⟩
        ·clear hj
         have h := h'
         clear h' H
         rintro e a w ⟨rfl, ρ, σ137, rfl, rfl, H⟩
         refine q_then ?_
         refine cd_cond o131 rfl (fun hb138 => ?_) (fun hb138 => ?_)
         ·replace h := bif_t hb138 h
          refine c_seq (rg (sa (B false) rfl (w_end (q_then (c_ret (q_then_r ?_))))))
          obtain rfl := sj h
          exact fin_ret (v := (B false)) (results_ok Try.results7 (res_tmp (v := (B false)) rfl res_nil) rfl) ⟨rfl, rfl⟩ (H.sel' [] rfl rfl)
         ·replace h := bif_f hb138 h
          refine c_skip (q_then (c_seq (rg (sa (I 1) rfl (w_end (q_then (c_seq (rg (sm (Sl a69 r66 c70) rfl (sm (I 1) rfl ?_))))))))))
          replace H := H.ownLow 4 0 0 rfl (Nat.zero_le _) (Nat.zero_le _)
          revert h; refine br fun r139 hx140 h => ?_
          have hc141 := c_laws_markIntS (Ac := a69) (Ad := c70) hx140
          refine st_call (cx_call hc141 (ent_f hc141.fn rfl) hn0 (H.sel' [0, 1, 2, 3, 4] rfl rfl : Hp S0 σ0 _ ([_] ++ _))) wn ?_
          rintro _ σ143 ⟨_, ⟨rfl, rfl, hn142⟩, H, -⟩
          replace H : Hp _ _ _ [_, _, _, _, _] := H
          have hsl : (Sl a69 r66 c70) = (Sl a69 r139.2 c70) := sl_len hn142.symm
          try rw [hsl]
          try rw [hsl] at H
          clear hsl
          refine sa (I r139.1) rfl (w_end (q_then (c_seq (rg (sa (I 1) rfl (w_end (q_then (c_seq (rg (sm (Sl a69 r139.2 c70) rfl (sm (I 1) rfl ?_)))))))))))
          revert h; refine br fun r144 hx145 h => ?_
          have hc146 := c_laws_heldIntS (Ac := a69) (Ad := c70) hx145
          have hle := Nat.le_trans hn0 H.size
          refine st_call (cx_lend (Loan.lend Loan.nil) hc146 (ent_f hc146.fn rfl) (show Hp S0 σ0 _ ([Ch.own 0 0 (Sl a69 r139.2 c70) r139.2] ++ ([] ++ [Ch.ro 0 (Sl Dw Ds Dx) Ds, Ch.ro 0 (Sl Dy Dt Dz) Dt, Ch.ro 0 (Sl Ea Du Eb) Du, Ch.own n0 n0 (Sl a40 r37 c41) r37])) from (H.sel' [0, 1, 2, 3, 4] rfl rfl)) (by rintro _ _ _ ⟨rfl, rfl⟩; exact trivial)) wn ?_
          rintro _ σ147 ⟨_, ⟨rfl, rfl⟩, H, -, -⟩
          replace H : Hp _ _ _ [_, _, _, _, _] := H
          clear hle
          replace H : Hp _ _ _ [_, _, _, _, _] := H
          refine sa (I r144) rfl (w_end (q_then (c_seq (c_seq (rg (sm (I r144) rfl (st (v := (B (decide (r144 < 0)))) (rv_lss (a := r144) (b := 0) rfl rfl) (w_end (q_then ?_)))))))))
          refine cd_cond (decide (r144 < 0)) rfl (fun hb148 => ?_) (fun hb148 => ?_)
          ·replace h := bif_t hb148 h
           refine c_seq (rg (sa (B false) rfl (w_end (q_then (c_ret (q_then_r ?_))))))
           obtain rfl := sj h
           exact fin_ret (v := (B false)) (results_ok Try.results7 (res_tmp (v := (B false)) rfl res_nil) rfl) ⟨rfl, rfl⟩ (H.sel' [] rfl rfl)
          ·replace h := bif_f hb148 h
           refine c_skip (q_then (c_seq (c_seq (rg (sm (I r144) rfl (sm (I r139.1) rfl (st (v := (B (r144 != r139.1))) (rv_neq (a := r144) (b := r139.1) rfl rfl) (w_end (q_then ?_)))))))))
           refine cd_cond (r144 != r139.1) rfl (fun hb149 => ?_) (fun hb149 => ?_)
           ·replace h := bif_t hb149 h
            refine c_seq (rg (sa (B false) rfl (w_end (q_then (c_ret (q_then_r ?_))))))
            obtain rfl := sj h
            exact fin_ret (v := (B false)) (results_ok Try.results7 (res_tmp (v := (B false)) rfl res_nil) rfl) ⟨rfl, rfl⟩ (H.sel' [] rfl rfl)
           ·replace h := bif_f hb149 h
            refine c_skip (q_then (c_seq (rg (sm (Sl Dw Ds Dx) rfl ?_))))
            revert h; refine br fun r150 hx151 h => ?_
            have hc152 := c_laws_toIntSS (Ac := Dw) (Ad := Dx) hx151
            refine st_call (cx_call hc152 (ent_f hc152.fn rfl) hn0 (H.sel' [1, 0, 1, 2, 3, 4] rfl rfl : Hp S0 σ0 _ ([_] ++ _))) wn ?_
            rintro _ σ157 ⟨_, ⟨a153, c154, K155, rfl, rfl, hK156⟩, H, -⟩
            replace H : Hp _ _ _ [_, _, _, _, _, _] := H
            refine sm (Sl Dy Dt Dz) rfl ?_
            revert h; refine br fun r158 hx159 h => ?_
            have hc160 := c_laws_toItemS (Ac := Dy) (Ad := Dz) hx159
            refine st_call (cx_call hc160 (ent_f hc160.fn rfl) hn0 (H.sel' [3, 0, 1, 2, 3, 4, 5] rfl rfl : Hp S0 σ0 _ ([_] ++ _))) wn ?_
            rintro _ σ165 ⟨_, ⟨a161, c162, K163, rfl, rfl, hK164⟩, H, -⟩
            replace H : Hp _ _ _ [_, _, _, _, _, _, _] := H
            refine sm (Sl Ea Du Eb) rfl ?_
            revert h; refine br fun r166 hx167 h => ?_
            have hc168 := c_laws_toIntS (Ac := Ea) (Ad := Eb) hx167
            refine st_call (cx_call hc168 (ent_f hc168.fn rfl) hn0 (H.sel' [5, 0, 1, 2, 3, 4, 5, 6] rfl rfl : Hp S0 σ0 _ ([_] ++ _))) wn ?_
            rintro _ σ172 ⟨_, ⟨a169, c170, rfl, rfl, ht171⟩, H, -⟩
            replace H : Hp _ _ _ [_, _, _, _, _, _, _, _] := H
            replace H : Hp S0 σ0 σ172 [Ch.own n0 n0 (Sl a169 r166 c170) r166, Ch.big K163, Ch.big K155, Ch.own 0 0 (Sl a69 r139.2 c70) r139.2, Ch.own n0 n0 (Sl a40 r37 c41) r37] := H.sel' [0, 1, 2, 3, 7] rfl rfl
            refine sm (I Dv) rfl ?_
            obtain ⟨σ173, hw174, H, -⟩ := H.pub 0 rfl (Nat.le_refl _)
            rw [← hw174]; clear hw174
            replace H := H.roLow 0 0 rfl (Nat.zero_le _)
            revert h; refine br fun r175 hx176 h => ?_
            have hc177 := c_impl_BucketOf (Ba := a153) (Bb := c154) (Bk := a161) (Bl := c162) (Bm := a169) (Bn := c170) hx176
            have hle := Nat.le_trans hn0 H.size
            refine st_call (cx_lend (Loan.lendB hK156.lends (Loan.lendB hK164.lends (Loan.same Loan.nil))) hc177 (ent_f hc177.fn rfl) (show Hp S0 σ0 _ ([Ch.big K155, Ch.big K163] ++ ([Ch.ro 0 (Sl a169 r166 c170) r166] ++ [Ch.ro 0 (Sl a169 r166 c170) r166, Ch.ro n0 (Sl a169 r166 c170) r166, Ch.own 0 0 (Sl a69 r139.2 c70) r139.2, Ch.own n0 n0 (Sl a40 r37 c41) r37])) from (H.sel' [3, 2, 0, 0, 1, 4, 5] rfl rfl)) (by rintro _ _ _ ⟨_, _, rfl, rfl, _⟩; exact ⟨Ab.ownSc, trivial⟩)) wn ?_
            rintro _ σ181 ⟨_, ⟨a178, c179, rfl, rfl, ht180⟩, H, -, -⟩
            replace H : Hp _ _ _ [_, _, _, _, _, _, _] := H
            replace H := H.ownLow 0 n0 n0 rfl hle hle
            clear hle
            replace H : Hp _ _ _ [_, _, _, _, _, _, _] := H
            refine sa (Sl a178 r175 c179) rfl (w_end (q_then (c_seq (c_seq (rg (sm (Sl a178 r175 c179) rfl (sm (Sl a40 r37 c41) rfl ?_)))))))
            obtain ⟨σ182, hw183, H, -⟩ := H.pub 0 rfl (Nat.le_refl _)
            rw [← hw183]; clear hw183
            obtain ⟨σ184, hw185, H, -⟩ := H.pub 6 rfl (Nat.le_refl _)
            rw [← hw185]; clear hw185
            replace H := H.roLow 1 0 rfl (Nat.zero_le _)
            replace H := H.roLow 1 0 rfl (Nat.zero_le _)
            revert h; refine br fun r186 hx187 h => ?_
            have hc188 := c_laws_eqIntS (Ac := a178) (Ad := c179) (Af := a40) (Ag := c41) hx187
            refine st_call (cx_call hc188 (ent_f hc188.fn rfl) hn0 (H.sel' [1, 0, 0, 1, 2, 3, 4, 5, 6, 7, 8] rfl rfl : Hp S0 σ0 _ ([_, _] ++ _))) wn ?_
            rintro _ σ189 ⟨_, ⟨rfl, rfl⟩, H, -⟩
            replace H : Hp _ _ _ [_, _, _, _, _, _, _, _, _] := H
            replace H : Hp S0 σ0 σ189 [Ch.own 0 0 (Sl a69 r139.2 c70) r139.2] := H.sel' [8] rfl rfl
            refine st (v := (B (!r186))) (rv_not rfl) (w_end (q_then ?_))
            refine cd_cond (!r186) rfl (fun hb190 => ?_) (fun hb190 => ?_)
            ·replace h := bif_t hb190 h
             refine c_seq (rg (sa (B false) rfl (w_end (q_then (c_ret (q_then_r ?_))))))
             obtain rfl := sj h
             exact fin_ret (v := (B false)) (results_ok Try.results7 (res_tmp (v := (B false)) rfl res_nil) rfl) ⟨rfl, rfl⟩ (H.sel' [] rfl rfl)
            ·replace h := bif_f hb190 h
             refine c_skip (q_then (c_seq (rg (sa (I 1) rfl (w_end (q_then (c_seq (rg (sm (Sl a69 r139.2 c70) rfl (sm (I 1) rfl ?_))))))))))
             obtain ⟨σ191, hw192, H, -⟩ := H.pub 0 rfl (Nat.le_refl _)
             rw [← hw192]; clear hw192
             revert h; refine br fun r193 hx194 h => ?_
             have hc195 := c_laws_heldIntS (Ac := a69) (Ad := c70) hx194
             refine st_call (cx_call hc195 (ent_f hc195.fn rfl) hn0 (H.sel' [0, 0] rfl rfl : Hp S0 σ0 _ ([_] ++ _))) wn ?_
             rintro _ σ196 ⟨_, ⟨rfl, rfl⟩, H, -⟩
             replace H : Hp _ _ _ [_] := H
             refine sa (I r193) rfl (w_end (q_then (c_seq (c_seq (rg (sm (I r193) rfl (st (v := (B (decide (r193 < 0)))) (rv_lss (a := r193) (b := 0) rfl rfl) (w_end (q_then ?_)))))))))
             refine cd_cond (decide (r193 < 0)) rfl (fun hb197 => ?_) (fun hb197 => ?_)
             ·replace h := bif_t hb197 h
              refine c_seq (rg (sa (B false) rfl (w_end (q_then (c_ret (q_then_r ?_))))))
              obtain rfl := sj h
              exact fin_ret (v := (B false)) (results_ok Try.results7 (res_tmp (v := (B false)) rfl res_nil) rfl) ⟨rfl, rfl⟩ (H.sel' [] rfl rfl)
             ·replace h := bif_f hb197 h
              refine c_skip (q_then (c_seq (c_seq (rg (sm (I r193) rfl (sm (I r139.1) rfl (st (v := (B (r193 != r139.1))) (rv_neq (a := r193) (b := r139.1) rfl rfl) (w_end (q_then ?_)))))))))
              refine cd_cond (r193 != r139.1) rfl (fun hb198 => ?_) (fun hb198 => ?_)
              ·replace h := bif_t hb198 h
               refine c_seq (rg (sa (B false) rfl (w_end (q_then (c_ret (q_then_r ?_))))))
               obtain rfl := sj h
               exact fin_ret (v := (B false)) (results_ok Try.results7 (res_tmp (v := (B false)) rfl res_nil) rfl) ⟨rfl, rfl⟩ (H.sel' [] rfl rfl)
              ·replace h := bif_f hb198 h
               refine c_skip (q_then (c_seq (rg (sa (B true) rfl (w_end (q_then (c_ret ?_)))))))
               obtain rfl := sj h
               exact fin_ret (v := (B true)) (results_ok Try.results7 (res_tmp (v := (B true)) rfl res_nil) rfl) ⟨rfl, rfl⟩ (H.sel' [] rfl rfl)

end Go.Vs
