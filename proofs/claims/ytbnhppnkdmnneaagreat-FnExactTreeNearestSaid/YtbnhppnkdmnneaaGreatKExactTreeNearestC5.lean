/- The functions compute what their models say. -/
import Derived.Test.YtbnhppnkdmnneaaGreatKExactTreeNearestC4
set_option linter.unusedVariables false
set_option linter.unusedSimpArgs false
set_option maxRecDepth 20000
namespace Go.Vs
open Go Go.Proofs
attribute [local irreducible] Code.wp Code.wpIn wpList wpListIn wpQuiet Calls CallsIn

theorem c_laws_eqItemS {Aa : List (Int × (List Int) × Int)} {Bi : List (Int × (List Int) × Int)} {Ad : Option Addr} {Ae : Nat} {Gb : Option Addr} {Gc : Nat} {r : Bool} (h : M.laws_eqItemS Aa Bi = some r) :
    Cal2 Tryz.prog 11 [(Sl Ad Aa Ae), (Sl Gb Bi Gc)] [Ch.ro 0 (Sl Ad Aa Ae) Aa, Ch.ro 0 (Sl Gb Bi Gc) Bi] (fun n0 v L => v = (B r) ∧ L = []) := by
 refine cal2 (n := 27) Tryz.func11 rfl rfl rfl rfl ?_
 intro S0 σ0 n0 hn0 H
 unfold M.laws_eqItemS at h
 refine c_seq (rg (sa (B false) rfl (w_end (q_then (c_seq (c_seq (rg (sm (Sl Ad Aa Ae) rfl (st (v := (I (Aa.length : Int))) (rv_len Tryz.underlying27 rfl) (sm (Sl Gb Bi Gc) rfl (st (v := (I (Bi.length : Int))) (rv_len Tryz.underlying27 rfl) ?_)))))))))))
 refine st (v := (B ((Aa.length : Int) != (Bi.length : Int)))) (rv_neq (a := (Aa.length : Int)) (b := (Bi.length : Int)) rfl rfl) (w_end (q_then ?_))
 refine cd_cond ((Aa.length : Int) != (Bi.length : Int)) rfl (fun hb1 => ?_) (fun hb1 => ?_)
 ·replace h := bif_t hb1 h
  refine c_seq (rg (sa (B false) rfl (w_end (q_then (c_ret (q_then_r ?_))))))
  obtain rfl := sj h
  exact fin_ret (v := (B false)) (results_ok Tryz.results11 (res_tmp (v := (B false)) rfl res_nil) rfl) ⟨rfl, rfl⟩ (H.sel' [] rfl rfl)
 ·replace h := bif_f hb1 h
  refine c_skip (q_then (c_seq (c_seq (rg (sa (I 0) rfl (w_end (q_then ?_)))))))
  obtain ⟨o2, hj, h'⟩ := bind_some h
  clear h
  refine c_cut (fun e a w => (∃ t, o2 = (.inl t) ∧ e = .normal ∧ ∃ (ρ : Nat → Value) (σ : St), a = fr 27 (updL ρ []) ∧ w = σ.w ∧ Hp S0 σ0 σ []) ∨ (∃ t, o2 = (.inr t) ∧ e = .ret ∧ ∃ (ρ : Nat → Value) (σ : St), a = fr 27 (updL ρ [(4, (B t))]) ∧ w = σ.w ∧ Hp S0 σ0 σ [])) ?_ ?_
  ·clear h'
   rename _ = some o2 => h
   refine c_blk (wp_loopM _ h (fun s3 a w => ∃ (ρ : Nat → Value) (σ : St), a = fr 27 (updL ρ [(0, (Sl Ad Aa Ae)), (1, (Sl Gb Bi Gc)), (5, (I s3))]) ∧ w = σ.w ∧ Hp S0 σ0 σ [Ch.ro 0 (Sl Ad Aa Ae) Aa, Ch.ro 0 (Sl Gb Bi Gc) Bi]) ⟨_, σ0, fr_join ⟨rfl, rfl, rfl, trivial⟩, rfl, H.sel' [0, 1] rfl rfl⟩ ?_)
   clear h H
   rintro s3 a w o ⟨ρ, σ4, rfl, rfl, H⟩ h hres
   refine c_seq (c_seq (rg (sm (I s3) rfl (sm (Sl Ad Aa Ae) rfl (st (v := (I (Aa.length : Int))) (rv_len Tryz.underlying27 rfl) (st (v := (B (decide (s3 < (Aa.length : Int))))) (rv_lss (a := s3) (b := (Aa.length : Int)) rfl rfl) (w_end (q_then ?_))))))))
   refine cd_cond (decide (s3 < (Aa.length : Int))) rfl (fun hb5 => ?_) (fun hb5 => ?_)
   ·replace h := bif_t hb5 h
    refine c_skip (q_then (c_seq (c_blk (c_seq ?_))))
    refine rgP (σ := σ4) 8 (by kernel_rfl) (by kernel_rfl) (by kernel_rfl) ?_
    refine sq (v := (Sl Ad Aa Ae)) (rv_move rfl) (sq (v := (I s3)) (rv_move rfl) ?_)
    revert h; refine br fun x6 hx7 h => ?_
    obtain ⟨b9, o10, hi8, -⟩ := (H.ro 0 rfl).ix hx7
    refine sq (v := (pt b9 o10)) (rv_ix Tryz.underlying27 ti54 rfl rfl hi8) ?_
    obtain ⟨_, ⟨_, _, rfl, rfl, ⟨_, _, rfl, ⟨_, rfl, hR15⟩, rfl⟩⟩, hl11, hc12⟩ := ((H.ro 0 rfl).at hx7 hi8).cells
    obtain ⟨a13, c14, rfl⟩ := hR15.isSl
    replace H := H.add (d := Ch.ro 0 (Sl a13 x6.2.1 c14) x6.2.1) hR15 (fun _ h => h)
    clear hR15
    refine sq (v := (.agg #[(I x6.1), (Sl a13 x6.2.1 c14), (I x6.2.2)])) (rv_load Tryz.underlying54 rfl ti54 rfl hl11 hc12) (sq (v := (Sl Gb Bi Gc)) (rv_move rfl) (sq (v := (I s3)) (rv_move rfl) ?_))
    revert h; refine br fun x16 hx17 h => ?_
    obtain ⟨b19, o20, hi18, -⟩ := (H.ro 2 rfl).ix hx17
    refine sq (v := (pt b19 o20)) (rv_ix Tryz.underlying27 ti54 rfl rfl hi18) ?_
    obtain ⟨_, ⟨_, _, rfl, rfl, ⟨_, _, rfl, ⟨_, rfl, hR25⟩, rfl⟩⟩, hl21, hc22⟩ := ((H.ro 2 rfl).at hx17 hi18).cells
    obtain ⟨a23, c24, rfl⟩ := hR25.isSl
    replace H := H.add (d := Ch.ro 0 (Sl a23 x16.2.1 c24) x16.2.1) hR25 (fun _ h => h)
    clear hR25
    refine sq (v := (.agg #[(I x16.1), (Sl a23 x16.2.1 c24), (I x16.2.2)])) (rv_load Tryz.underlying54 rfl ti54 rfl hl21 hc22) (sq_end ?_)
    intro σ26 hm27
    replace H := H.grow (hm27.mono fun _ h => h); clear hm27
    revert h; refine br fun r28 hx29 h => ?_
    have hc30 := c_laws_eqItem (Af := a13) (Ag := c14) (Gd := a23) (Ge := c24) hx29
    refine st_call (cx_call hc30 (ent_f hc30.fn rfl) hn0 (H.sel' [1, 0, 0, 1, 2, 3] rfl rfl : Hp S0 σ0 _ ([_, _] ++ _))) wn ?_
    rintro _ σ31 ⟨_, ⟨rfl, rfl⟩, H, -⟩
    replace H : Hp _ _ _ [_, _, _, _] := H
    refine st (v := (B (!r28))) (rv_not rfl) (w_end (q_then ?_))
    refine cd_cond (!r28) rfl (fun hb32 => ?_) (fun hb32 => ?_)
    ·replace h := bif_t hb32 h
     refine c_seq (rg (sa (B false) rfl (w_end (q_then (c_ret (q_blk_r (q_then_r (q_then_r (q_blk_r ?_)))))))))
     obtain rfl := sj h
     obtain rfl := hres _ rfl
     exact .inr (⟨_, rfl, rfl, _, σ31, fr_join ⟨rfl, trivial⟩, rfl, H.sel' [] rfl rfl⟩)
    ·replace h := bif_f hb32 h
     refine c_skip (q_blk (q_then (rg (sm (I s3) rfl (st (v := (I (w64 (s3 + 1)))) (rv_add (a := s3) (b := 1) rfl rfl) (sa (I (w64 (s3 + 1))) rfl (w_end (q_then ?_))))))))
     obtain rfl := sj h
     exact ⟨_, rfl, _, σ31, fr_join ⟨rfl, rfl, rfl, trivial⟩, rfl, H.sel' [2, 3] rfl rfl⟩
   ·replace h := bif_f hb5 h
    refine c_exit (q_then_x (q_then_x (q_blk_hit ?_)))
    obtain rfl := sj h
    obtain rfl := hres _ rfl
    exact .inl ⟨_, rfl, rfl, _, σ4, fr_join trivial, rfl, H.sel' [] rfl rfl⟩
  ·clear hj
   have h := h'
   clear h' H
   rintro e a w (⟨t33, rfl, rfl, ρ, σ34, rfl, rfl, H⟩ | ⟨t35, rfl, rfl, ρ, σ36, rfl, rfl, H⟩)
   ·replace h := selim_l h
    refine q_then (c_seq (rg (sa (B true) rfl (w_end (q_then (c_ret ?_))))))
    obtain rfl := sj h
    exact fin_ret (v := (B true)) (results_ok Tryz.results11 (res_tmp (v := (B true)) rfl res_nil) rfl) ⟨rfl, rfl⟩ (H.sel' [] rfl rfl)
   ·replace h := selim_r h
    refine q_then_r ?_
    obtain rfl := sj h
    exact fin_ret (v := (B t35)) (results_ok Tryz.results11 (res_tmp (v := (B t35)) rfl res_nil) rfl) ⟨rfl, rfl⟩ (H.sel' [] rfl rfl)

theorem c_laws_markIntS {Aa : List Int} {Gf : Int} {Ad : Option Addr} {Ae : Nat} {r : Int × (List Int)} (h : M.laws_markIntS Aa Gf = some r) :
    Cal2 Tryz.prog 14 [(Sl Ad Aa Ae), (I Gf)] [Ch.own 0 0 (Sl Ad Aa Ae) Aa] (fun n0 v L => v = (I r.1) ∧ L = [Ch.own 0 0 (Sl Ad r.2 Ae) r.2] ∧ r.2.length = Aa.length) := by
 refine cal2 (n := 19) Tryz.func14 rfl rfl rfl rfl ?_
 intro S0 σ0 n0 hn0 H
 unfold M.laws_markIntS at h
 refine c_seq (rg (sa (I 0) rfl (w_end (q_then (c_seq (c_seq (rg (sa (I 0) rfl (w_end (q_then ?_))))))))))
 obtain ⟨o1, hj, h'⟩ := bind_some h
 clear h
 refine c_cut (fun e a w => e = .normal ∧ ∃ (ρ : Nat → Value) (σ : St), a = fr 19 (updL ρ [(0, (Sl Ad o1.1 Ae)), (1, (I o1.2))]) ∧ w = σ.w ∧ Hp S0 σ0 σ [Ch.own 0 0 (Sl Ad o1.1 Ae) o1.1] ∧ o1.1.length = Aa.length) ?_ ?_
 ·clear h'
  rename _ = some o1 => h
  refine c_blk (wp_loopM _ h (fun s2 a w => ∃ (ρ : Nat → Value) (σ : St), a = fr 19 (updL ρ [(0, (Sl Ad s2.1 Ae)), (1, (I s2.2.1)), (5, (I s2.2.2))]) ∧ w = σ.w ∧ Hp S0 σ0 σ [Ch.own 0 0 (Sl Ad s2.1 Ae) s2.1] ∧ s2.1.length = Aa.length) ⟨_, σ0, fr_join ⟨rfl, rfl, rfl, trivial⟩, rfl, H.sel' [0] rfl rfl, rfl⟩ ?_)
  clear h H
  rintro s2 a w o ⟨ρ, σ3, rfl, rfl, H, hn4⟩ h hres
  refine c_seq (c_seq (rg (sm (I s2.2.2) rfl (sm (Sl Ad s2.1 Ae) rfl (st (v := (I (s2.1.length : Int))) (rv_len Tryz.underlying23 rfl) (st (v := (B (decide (s2.2.2 < (s2.1.length : Int))))) (rv_lss (a := s2.2.2) (b := (s2.1.length : Int)) rfl rfl) (w_end (q_then ?_))))))))
  refine cd_cond (decide (s2.2.2 < (s2.1.length : Int))) rfl (fun hb5 => ?_) (fun hb5 => ?_)
  ·replace h := bif_t hb5 h
   refine c_skip (q_then (c_seq (c_blk (c_seq (rg (sm (Sl Ad s2.1 Ae) rfl (sm (I s2.2.2) rfl (sm (I s2.2.1) rfl ?_))))))))
   revert h; refine br fun x6 hx7 h => ?_
   obtain ⟨b9, o10, hi8, -⟩ := (H.own 0 rfl).ix hx7
   refine st (v := (pt b9 o10)) (rv_ix Tryz.underlying23 ti3 rfl rfl hi8) ?_
   refine st_exS (ex_store_own (e' := s2.2.1) (vs := [(I s2.2.1)]) (k := 0) H (i := 0) rfl ti3 hx7 hi8 rfl rfl rfl rfl rfl (Nat.le_of_ble_eq_true rfl) (by simp [plain]) (by rintro _ rfl; exact rfl)) wn ?_
   rintro σ11 ⟨H, -⟩
   have hsl : (Sl Ad s2.1 Ae) = (Sl Ad (s2.1.set s2.2.2.toNat s2.2.1) Ae) := sl_len List.length_set.symm
   rw [hsl]; rw [hsl] at H; clear hsl
   refine w_end (q_then (rg (sm (I s2.2.1) rfl (st (v := (I (w64 (s2.2.1 + 1)))) (rv_add (a := s2.2.1) (b := 1) rfl rfl) (sa (I (w64 (s2.2.1 + 1))) rfl (w_end (q_blk (q_then (rg (sm (I s2.2.2) rfl (st (v := (I (w64 (s2.2.2 + 1)))) (rv_add (a := s2.2.2) (b := 1) rfl rfl) ?_)))))))))))
   refine sa (I (w64 (s2.2.2 + 1))) rfl (w_end (q_then ?_))
   obtain rfl := sj h
   exact ⟨_, rfl, _, σ11, fr_join ⟨rfl, rfl, rfl, trivial⟩, rfl, H.sel' [0] rfl rfl, (List.length_set.trans hn4)⟩
  ·replace h := bif_f hb5 h
   refine c_exit (q_then_x (q_then_x (q_blk_hit ?_)))
   obtain rfl := sj h
   obtain rfl := hres _ rfl
   exact ⟨rfl, _, σ3, fr_join ⟨rfl, rfl, trivial⟩, rfl, H.sel' [0] rfl rfl, hn4⟩
 ·clear hj
  have h := h'
  clear h' H
  rintro e a w ⟨rfl, ρ, σ12, rfl, rfl, H, hn13⟩
  refine q_then (c_seq (rg (sm (I o1.2) rfl (sa (I o1.2) rfl (w_end (q_then (c_ret ?_)))))))
  obtain rfl := sj h
  exact fin_ret (v := (I o1.2)) (results_ok Tryz.results14 (res_tmp (v := (I o1.2)) rfl res_nil) rfl) ⟨rfl, rfl, hn13⟩ (H.sel' [0] rfl rfl)

theorem c_laws_markItemS {Aa : List (Int × (List Int) × Int)} {Gf : Int} {Ad : Option Addr} {Ae : Nat} {lo : Nat} {K : List Ch} (hK : Dp lo (Sl Ad Aa Ae) Aa K) {r : Int} (h : M.markItemD Aa Gf = some r) :
    Cal2 Tryz.prog 13 [(Sl Ad Aa Ae), (I Gf)] [Ch.big K] (fun n0 v L => v = (I r) ∧ L = []) := by
 obtain ⟨hn, h⟩ := markItemD_some h
 obtain ⟨ps, hps, rfl⟩ := hK.ex
 refine cal2 (n := 34) Tryz.func13 rfl rfl rfl rfl ?_
 intro S0 σ0 n0 hn0 H
 refine c_seq (rg (sa (I 0) rfl (w_end (q_then (c_seq (c_seq (rg (sa (I 0) rfl (w_end (q_then ?_))))))))))
 refine c_cut (fun e a w => e = .normal ∧ ∃ (ρ : Nat → Value) (σ : St), a = fr 34 (updL ρ [(1, (I r))]) ∧ w = σ.w ∧ Hp S0 σ0 σ []) ?_ ?_
 ·refine c_blk ?_
  have hlen : ps.length = Aa.length := by rw [hps]; simp
  refine wp_loop_ghost (fun m a w => ∃ (i : Nat) (ρ : Nat → Value) (σ : St) (ys : List (Int × Value × Int)) (qs : List ((Int × (List Int) × Int) × Value)) (k : Int), i + m = Aa.length ∧ qs.length = m ∧ ys.drop i = qs.map dsh ∧ M.dmarkItemS (qs.map (·.1)) k = some r ∧ a = fr 34 (updL ρ [(0, (Sl Ad Aa Ae)), (1, (I k)), (5, (I (i : Int)))]) ∧ w = σ.w ∧ Hp S0 σ0 σ [Ch.own lo lo (Sl Ad Aa Ae) ys, Ch.big (qs.map (dow lo))]) Aa.length ⟨0, _, σ0, _, ps, Gf, by omega, hlen, rfl, hps ▸ h, fr_join ⟨rfl, rfl, rfl, trivial⟩, rfl, H.unbig⟩ ?_
  clear H
  rintro m _ _ ⟨i, ρ, σ3, ys, qs, k, him, hqs, hys, hk, rfl, rfl, H⟩
  refine c_seq (c_seq (rg (sm (I (i : Int)) rfl (sm (Sl Ad Aa Ae) rfl (st (v := (I (Aa.length : Int))) (rv_len Tryz.underlying27 rfl) (st (v := (B (decide ((i : Int) < (Aa.length : Int))))) (rv_lss (a := (i : Int)) (b := (Aa.length : Int)) rfl rfl) (w_end (q_then ?_))))))))
  refine cd_cond (decide ((i : Int) < (Aa.length : Int))) rfl (fun hb => ?_) (fun hb => ?_)
  ·have hlt : i < Aa.length := by have := of_decide_eq_true hb; omega
   obtain ⟨m, rfl⟩ : ∃ m', m = m' + 1 := ⟨m - 1, by omega⟩
   obtain ⟨p, qs, rfl⟩ : ∃ p qs', qs = p :: qs' := by cases qs with
    | nil => cases hqs
    | cons p qs => exact ⟨p, qs, rfl⟩
   obtain ⟨q, hq, hk'⟩ := bind_some (show (M.laws_markIntS p.1.2.1 (w64 (k + 1))).bind (fun q => M.dmarkItemS (qs.map (·.1)) (w64 (q.1 + 1))) = some r from hk)
   replace hys : ys.drop i = dsh p :: qs.map dsh := hys
   refine c_skip (q_then (c_seq (c_blk (c_seq (rg (sm (Sl Ad Aa Ae) rfl (sm (I (i : Int)) rfl (sm (I k) rfl ?_))))))))
   have hx7 := gidx_drop hys
   obtain ⟨b9, o10, hi8, -⟩ := (H.own 0 rfl).ix hx7
   refine st (v := (pt b9 o10)) (rv_ix Tryz.underlying27 ti54 rfl rfl hi8) (st (v := (pt b9 (o10 + 0))) (rv_fieldAddr (off := 0) (ft := 3) Tryz.underlying54 rfl ti3 rfl rfl) ?_)
   refine st_exS (ex_store_own (e' := ((k, p.2, p.1.2.2) : Int × Value × Int)) (vs := [(I k)]) (k := 0) H (i := 0) rfl ti3 hx7 hi8 rfl rfl rfl rfl rfl (Nat.le_of_ble_eq_true rfl) (by simp [plain]) (by rintro _ ⟨_, _, rfl, rfl, ⟨_, _, rfl, ⟨rfl, hpl⟩, rfl⟩⟩; exact ⟨[(I k)], [p.2, (I p.1.2.2)], rfl, rfl, ⟨[p.2], [(I p.1.2.2)], rfl, ⟨rfl, hpl⟩, rfl⟩⟩)) (wanted_none _ rfl _) ?_
   rintro σ11 ⟨H, -⟩
   refine w_end (q_then (c_seq (rg (sm (I k) rfl (st (v := (I (w64 (k + 1)))) (rv_add (a := k) (b := 1) rfl rfl) (sa (I (w64 (k + 1))) rfl (w_end (q_then (c_seq (rg ?_))))))))))
   replace hys := drop_set (e' := ((k, p.2, p.1.2.2) : Int × Value × Int)) hys
   rw [Int.toNat_natCast] at H
   generalize ys.set i ((k, p.2, p.1.2.2) : Int × Value × Int) = ys at H hys
   have hx7 := gidx_drop hys
   refine sm (Sl Ad Aa Ae) rfl (sm (I (i : Int)) rfl ?_)
   obtain ⟨b9, o10, hi8, -⟩ := (H.own 0 rfl).ix hx7
   refine st (v := (pt b9 o10)) (rv_ix Tryz.underlying27 ti54 rfl rfl hi8) (st (v := (pt b9 (o10 + 1))) (rv_fieldAddr (off := 1) (ft := 23) Tryz.underlying54 rfl ti23 rfl rfl) ?_)
   obtain ⟨_, ⟨_, _, rfl, rfl, ⟨_, _, rfl, ⟨rfl, hpl⟩, rfl⟩⟩, hl18, hc19⟩ := ((H.own 0 rfl).at hx7 hi8).cells
   replace H := Hp.unbig (H.sel' [1, 0] rfl rfl)
   obtain ⟨a20, c21, h22⟩ : IsSl p.2 p.1.2.1.length := (show Ow σ11 lo lo p.2 p.1.2.1 from H.head).isSl
   obtain ⟨px, hd⟩ := p
   dsimp only at h22 hq hys hc19
   subst h22
   have hc20 := hc19 1 (by simp)
   refine st (v := (Sl a20 px.2.1 c21)) (rv_load1 Tryz.underlying23 rfl rfl hc20) (sm (I (w64 (k + 1))) rfl ?_)
   replace H : Hp _ _ _ [_, _, _] := H
   replace H := H.ownSc 0 0 0 rfl (Nat.zero_le _)
   have hc25 := c_laws_markIntS (Ad := a20) (Ae := c21) hq
   refine st_call (cx_call hc25 (ent_f hc25.fn rfl) hn0 (H.sel' [0, 1, 2] rfl rfl : Hp S0 σ0 _ ([_] ++ _))) (wanted_none _ rfl _) ?_
   rintro _ σ29 ⟨_, ⟨rfl, rfl, -⟩, H, -⟩
   replace H : Hp _ _ _ [_, _, _] := H
   replace H := H.sel' [2, 1] rfl rfl
   refine sa (I q.1) rfl (w_end (q_then (c_seq (rg (sm (Sl Ad Aa Ae) rfl (sm (I (i : Int)) rfl (sm (I q.1) rfl ?_)))))))
   obtain ⟨b9, o10, hi8, -⟩ := (H.own 0 rfl).ix hx7
   refine st (v := (pt b9 o10)) (rv_ix Tryz.underlying27 ti54 rfl rfl hi8) (st (v := (pt b9 (o10 + 2))) (rv_fieldAddr (off := 2) (ft := 3) Tryz.underlying54 rfl ti3 rfl rfl) ?_)
   refine st_exS (ex_store_own (e' := ((k, (Sl a20 px.2.1 c21), q.1) : Int × Value × Int)) (vs := [(I q.1)]) (k := 2) H (i := 0) rfl ti3 hx7 hi8 rfl rfl rfl rfl rfl (Nat.le_of_ble_eq_true rfl) (by simp [plain]) (by rintro _ ⟨_, _, rfl, rfl, ⟨_, _, rfl, ⟨rfl, hpl⟩, rfl⟩⟩; exact ⟨[(I k)], [(Sl a20 px.2.1 c21), (I q.1)], rfl, rfl, ⟨[(Sl a20 px.2.1 c21)], [(I q.1)], rfl, ⟨rfl, hpl⟩, rfl⟩⟩)) (wanted_none _ rfl _) ?_
   rintro σ30 ⟨H, -⟩
   refine w_end (q_then (rg (sm (I q.1) rfl (st (v := (I (w64 (q.1 + 1)))) (rv_add (a := q.1) (b := 1) rfl rfl) (sa (I (w64 (q.1 + 1))) rfl (w_end (q_blk (q_then (rg (sm (I (i : Int)) rfl (st (v := (I (w64 ((i : Int) + 1)))) (rv_add (a := (i : Int)) (b := 1) rfl rfl) ?_)))))))))))
   refine sa (I (w64 ((i : Int) + 1))) rfl (w_end ?_)
   have e1 : w64 ((i : Int) + 1) = ((i + 1 : Nat) : Int) := w64_id (by omega) (by omega)
   rw [e1]
   refine q_then ?_
   rw [Int.toNat_natCast] at H
   exact ⟨m, by omega, i + 1, _, σ30, _, qs, _, by omega, by simpa using hqs, drop_next (drop_set hys), hk', fr_join ⟨rfl, rfl, rfl, trivial⟩, rfl, H⟩
  ·have hlt : ¬ i < Aa.length := by have := of_decide_eq_false hb; omega
   obtain rfl : m = 0 := by omega
   obtain rfl : qs = [] := List.eq_nil_of_length_eq_zero hqs
   obtain rfl : k = r := Option.some.inj hk
   refine c_exit (q_then_x (q_then_x (q_blk_hit ?_)))
   exact ⟨rfl, _, σ3, fr_join ⟨rfl, trivial⟩, rfl, H.sel' [] rfl rfl⟩
 ·clear H
  rintro e a w ⟨rfl, ρ, σ41, rfl, rfl, H⟩
  refine q_then (c_seq (rg (sm (I r) rfl (sa (I r) rfl (w_end (q_then (c_ret ?_)))))))
  exact fin_ret (v := (I r)) (results_ok Tryz.results13 (res_tmp (v := (I r)) rfl res_nil) rfl) ⟨rfl, rfl⟩ H


theorem c_laws_markHitS {Aa : List (Int × Int)} {Gf : Int} {Ad : Option Addr} {Ae : Nat} {r : Int × (List (Int × Int))} (h : M.laws_markHitS Aa Gf = some r) :
    Cal2 Tryz.prog 15 [(Sl Ad Aa Ae), (I Gf)] [Ch.own 0 0 (Sl Ad Aa Ae) Aa] (fun n0 v L => v = (I r.1) ∧ L = [Ch.own 0 0 (Sl Ad r.2 Ae) r.2] ∧ r.2.length = Aa.length) := by
 refine cal2 (n := 27) Tryz.func15 rfl rfl rfl rfl ?_
 intro S0 σ0 n0 hn0 H
 unfold M.laws_markHitS at h
 refine c_seq (rg (sa (I 0) rfl (w_end (q_then (c_seq (c_seq (rg (sa (I 0) rfl (w_end (q_then ?_))))))))))
 obtain ⟨o1, hj, h'⟩ := bind_some h
 clear h
 refine c_cut (fun e a w => e = .normal ∧ ∃ (ρ : Nat → Value) (σ : St), a = fr 27 (updL ρ [(0, (Sl Ad o1.1 Ae)), (1, (I o1.2))]) ∧ w = σ.w ∧ Hp S0 σ0 σ [Ch.own 0 0 (Sl Ad o1.1 Ae) o1.1] ∧ o1.1.length = Aa.length) ?_ ?_
 ·clear h'
  rename _ = some o1 => h
  refine c_blk (wp_loopM _ h (fun s2 a w => ∃ (ρ : Nat → Value) (σ : St), a = fr 27 (updL ρ [(0, (Sl Ad s2.1 Ae)), (1, (I s2.2.1)), (5, (I s2.2.2))]) ∧ w = σ.w ∧ Hp S0 σ0 σ [Ch.own 0 0 (Sl Ad s2.1 Ae) s2.1] ∧ s2.1.length = Aa.length) ⟨_, σ0, fr_join ⟨rfl, rfl, rfl, trivial⟩, rfl, H.sel' [0] rfl rfl, rfl⟩ ?_)
  clear h H
  rintro s2 a w o ⟨ρ, σ3, rfl, rfl, H, hn4⟩ h hres
  refine c_seq (c_seq (rg (sm (I s2.2.2) rfl (sm (Sl Ad s2.1 Ae) rfl (st (v := (I (s2.1.length : Int))) (rv_len Tryz.underlying25 rfl) (st (v := (B (decide (s2.2.2 < (s2.1.length : Int))))) (rv_lss (a := s2.2.2) (b := (s2.1.length : Int)) rfl rfl) (w_end (q_then ?_))))))))
  refine cd_cond (decide (s2.2.2 < (s2.1.length : Int))) rfl (fun hb5 => ?_) (fun hb5 => ?_)
  ·replace h := bif_t hb5 h
   refine c_skip (q_then (c_seq (c_blk (c_seq (rg (sm (Sl Ad s2.1 Ae) rfl (sm (I s2.2.2) rfl (sm (I s2.2.1) rfl ?_))))))))
   revert h; refine br fun x6 hx7 h => ?_
   obtain ⟨b9, o10, hi8, -⟩ := (H.own 0 rfl).ix hx7
   refine st (v := (pt b9 o10)) (rv_ix Tryz.underlying25 ti67 rfl rfl hi8) (st (v := (pt b9 (o10 + 0))) (rv_fieldAddr (off := 0) (ft := 3) Tryz.underlying67 rfl ti3 rfl rfl) ?_)
   refine st_exS (ex_store_own (e' := (s2.2.1, x6.2)) (vs := [(I s2.2.1)]) (k := 0) H (i := 0) rfl ti3 hx7 hi8 rfl rfl rfl rfl rfl (Nat.le_of_ble_eq_true rfl) (by simp [plain]) (by rintro _ ⟨_, _, rfl, rfl, rfl⟩; exact ⟨[(I s2.2.1)], [(I x6.2)], rfl, rfl, rfl⟩)) wn ?_
   rintro σ11 ⟨H, -⟩
   have hsl : (Sl Ad s2.1 Ae) = (Sl Ad (s2.1.set s2.2.2.toNat (s2.2.1, x6.2)) Ae) := sl_len List.length_set.symm
   rw [hsl]; rw [hsl] at H; clear hsl
   refine w_end (q_then (c_seq (rg (sm (I s2.2.1) rfl (st (v := (I (w64 (s2.2.1 + 1)))) (rv_add (a := s2.2.1) (b := 1) rfl rfl) (sa (I (w64 (s2.2.1 + 1))) rfl (w_end (q_then (c_seq (rg (sm (Sl Ad (s2.1.set s2.2.2.toNat (s2.2.1, x6.2)) Ae) rfl ?_)))))))))))
   refine sm (I s2.2.2) rfl (sm (I (w64 (s2.2.1 + 1))) rfl ?_)
   revert h; refine br fun x12 hx13 h => ?_
   obtain ⟨b15, o16, hi14, -⟩ := (H.own 0 rfl).ix hx13
   refine st (v := (pt b15 o16)) (rv_ix Tryz.underlying25 ti67 rfl rfl hi14) (st (v := (pt b15 (o16 + 1))) (rv_fieldAddr (off := 1) (ft := 3) Tryz.underlying67 rfl ti3 rfl rfl) ?_)
   refine st_exS (ex_store_own (e' := (x12.1, w64 (s2.2.1 + 1))) (vs := [(I (w64 (s2.2.1 + 1)))]) (k := 1) H (i := 0) rfl ti3 hx13 hi14 rfl rfl rfl rfl rfl (Nat.le_of_ble_eq_true rfl) (by simp [plain]) (by rintro _ ⟨_, _, rfl, rfl, rfl⟩; exact ⟨[(I x12.1)], [(I (w64 (s2.2.1 + 1)))], rfl, rfl, rfl⟩)) wn ?_
   rintro σ17 ⟨H, -⟩
   have hsl : (Sl Ad (s2.1.set s2.2.2.toNat (s2.2.1, x6.2)) Ae) = (Sl Ad ((s2.1.set s2.2.2.toNat (s2.2.1, x6.2)).set s2.2.2.toNat (x12.1, w64 (s2.2.1 + 1))) Ae) := sl_len List.length_set.symm
   rw [hsl]; rw [hsl] at H; clear hsl
   refine w_end (q_then (rg (sm (I (w64 (s2.2.1 + 1))) rfl (st (v := (I (w64 ((w64 (s2.2.1 + 1)) + 1)))) (rv_add (a := (w64 (s2.2.1 + 1))) (b := 1) rfl rfl) (sa (I (w64 ((w64 (s2.2.1 + 1)) + 1))) rfl (w_end (q_blk (q_then (rg (sm (I s2.2.2) rfl (st (v := (I (w64 (s2.2.2 + 1)))) (rv_add (a := s2.2.2) (b := 1) rfl rfl) ?_)))))))))))
   refine sa (I (w64 (s2.2.2 + 1))) rfl (w_end (q_then ?_))
   obtain rfl := sj h
   exact ⟨_, rfl, _, σ17, fr_join ⟨rfl, rfl, rfl, trivial⟩, rfl, H.sel' [0] rfl rfl, (List.length_set.trans (List.length_set.trans hn4))⟩
  ·replace h := bif_f hb5 h
   refine c_exit (q_then_x (q_then_x (q_blk_hit ?_)))
   obtain rfl := sj h
   obtain rfl := hres _ rfl
   exact ⟨rfl, _, σ3, fr_join ⟨rfl, rfl, trivial⟩, rfl, H.sel' [0] rfl rfl, hn4⟩
 ·clear hj
  have h := h'
  clear h' H
  rintro e a w ⟨rfl, ρ, σ18, rfl, rfl, H, hn19⟩
  refine q_then (c_seq (rg (sm (I o1.2) rfl (sa (I o1.2) rfl (w_end (q_then (c_ret ?_)))))))
  obtain rfl := sj h
  exact fin_ret (v := (I o1.2)) (results_ok Tryz.results15 (res_tmp (v := (I o1.2)) rfl res_nil) rfl) ⟨rfl, rfl, hn19⟩ (H.sel' [0] rfl rfl)

theorem c_laws_heldHitS {Aa : List (Int × Int)} {Gf : Int} {Ad : Option Addr} {Ae : Nat} {r : Int} (h : M.laws_heldHitS Aa Gf = some r) :
    Cal2 Tryz.prog 16 [(Sl Ad Aa Ae), (I Gf)] [Ch.ro 0 (Sl Ad Aa Ae) Aa] (fun n0 v L => v = (I r) ∧ L = []) := by
 refine cal2 (n := 31) Tryz.func16 rfl rfl rfl rfl ?_
 intro S0 σ0 n0 hn0 H
 unfold M.laws_heldHitS at h
 refine c_seq (rg (sa (I 0) rfl (w_end (q_then (c_seq (c_seq (rg (sa (I 0) rfl (w_end (q_then ?_))))))))))
 obtain ⟨o1, hj, h'⟩ := bind_some h
 clear h
 refine c_cut (fun e a w => (∃ t, o1 = (.inl t) ∧ e = .normal ∧ ∃ (ρ : Nat → Value) (σ : St), a = fr 31 (updL ρ [(1, (I t))]) ∧ w = σ.w ∧ Hp S0 σ0 σ []) ∨ (∃ t, o1 = (.inr t) ∧ e = .ret ∧ ∃ (ρ : Nat → Value) (σ : St), a = fr 31 (updL ρ [(4, (I t))]) ∧ w = σ.w ∧ Hp S0 σ0 σ [])) ?_ ?_
 ·clear h'
  rename _ = some o1 => h
  refine c_blk (wp_loopM _ h (fun s2 a w => ∃ (ρ : Nat → Value) (σ : St), a = fr 31 (updL ρ [(0, (Sl Ad Aa Ae)), (1, (I s2.1)), (5, (I s2.2))]) ∧ w = σ.w ∧ Hp S0 σ0 σ [Ch.ro 0 (Sl Ad Aa Ae) Aa]) ⟨_, σ0, fr_join ⟨rfl, rfl, rfl, trivial⟩, rfl, H.sel' [0] rfl rfl⟩ ?_)
  clear h H
  rintro s2 a w o ⟨ρ, σ3, rfl, rfl, H⟩ h hres
  refine c_seq (c_seq (rg (sm (I s2.2) rfl (sm (Sl Ad Aa Ae) rfl (st (v := (I (Aa.length : Int))) (rv_len Tryz.underlying25 rfl) (st (v := (B (decide (s2.2 < (Aa.length : Int))))) (rv_lss (a := s2.2) (b := (Aa.length : Int)) rfl rfl) (w_end (q_then ?_))))))))
  refine cd_cond (decide (s2.2 < (Aa.length : Int))) rfl (fun hb4 => ?_) (fun hb4 => ?_)
  ·replace h := bif_t hb4 h
   refine c_skip (q_then (c_seq (c_blk (c_seq (c_seq (rg (sm (Sl Ad Aa Ae) rfl (sm (I s2.2) rfl ?_))))))))
   revert h; refine br fun x5 hx6 h => ?_
   obtain ⟨b8, o9, hi7, -⟩ := (H.ro 0 rfl).ix hx6
   refine st (v := (pt b8 o9)) (rv_ix Tryz.underlying25 ti67 rfl rfl hi7) (st (v := (pt b8 (o9 + 0))) (rv_fieldAddr (off := 0) (ft := 3) Tryz.underlying67 rfl ti3 rfl rfl) ?_)
   have hc10 := ((H.ro 0 rfl).at hx6 hi7).fst.int
   refine st (v := (I x5.1)) (rv_load1 Tryz.underlying3 rfl rfl hc10) (sm (I s2.1) rfl (st (v := (B (x5.1 != s2.1))) (rv_neq (a := x5.1) (b := s2.1) rfl rfl) (w_end (q_then ?_))))
   refine cd_cond (x5.1 != s2.1) rfl (fun hb11 => ?_) (fun hb11 => ?_)
   ·replace h := bif_t hb11 h
    refine c_seq (rg (sa (I (-1)) rfl (w_end (q_then (c_ret (q_then_r (q_blk_r (q_then_r (q_then_r (q_blk_r ?_))))))))))
    obtain rfl := sj h
    obtain rfl := hres _ rfl
    exact .inr (⟨_, rfl, rfl, _, σ3, fr_join ⟨rfl, trivial⟩, rfl, H.sel' [] rfl rfl⟩)
   ·replace h := bif_f hb11 h
    refine c_skip (q_then (c_seq (rg (sm (I s2.1) rfl (st (v := (I (w64 (s2.1 + 1)))) (rv_add (a := s2.1) (b := 1) rfl rfl) (sa (I (w64 (s2.1 + 1))) rfl (w_end (q_then (c_seq (c_seq (rg ?_)))))))))))
    refine sm (Sl Ad Aa Ae) rfl (sm (I s2.2) rfl ?_)
    revert h; refine br fun x12 hx13 h => ?_
    obtain ⟨b15, o16, hi14, -⟩ := (H.ro 0 rfl).ix hx13
    refine st (v := (pt b15 o16)) (rv_ix Tryz.underlying25 ti67 rfl rfl hi14) (st (v := (pt b15 (o16 + 1))) (rv_fieldAddr (off := 1) (ft := 3) Tryz.underlying67 rfl ti3 rfl rfl) ?_)
    have hc17 := ((H.ro 0 rfl).at hx13 hi14).snd.int
    refine st (v := (I x12.2)) (rv_load1 Tryz.underlying3 rfl rfl hc17) (sm (I (w64 (s2.1 + 1))) rfl (st (v := (B (x12.2 != (w64 (s2.1 + 1))))) (rv_neq (a := x12.2) (b := (w64 (s2.1 + 1))) rfl rfl) (w_end (q_then ?_))))
    refine cd_cond (x12.2 != (w64 (s2.1 + 1))) rfl (fun hb18 => ?_) (fun hb18 => ?_)
    ·replace h := bif_t hb18 h
     refine c_seq (rg (sa (I (-1)) rfl (w_end (q_then (c_ret (q_then_r (q_blk_r (q_then_r (q_then_r (q_blk_r ?_))))))))))
     obtain rfl := sj h
     obtain rfl := hres _ rfl
     exact .inr (⟨_, rfl, rfl, _, σ3, fr_join ⟨rfl, trivial⟩, rfl, H.sel' [] rfl rfl⟩)
    ·replace h := bif_f hb18 h
     refine c_skip (q_then (rg (sm (I (w64 (s2.1 + 1))) rfl (st (v := (I (w64 ((w64 (s2.1 + 1)) + 1)))) (rv_add (a := (w64 (s2.1 + 1))) (b := 1) rfl rfl) (sa (I (w64 ((w64 (s2.1 + 1)) + 1))) rfl (w_end (q_blk (q_then (rg (sm (I s2.2) rfl (st (v := (I (w64 (s2.2 + 1)))) (rv_add (a := s2.2) (b := 1) rfl rfl) ?_)))))))))))
     refine sa (I (w64 (s2.2 + 1))) rfl (w_end (q_then ?_))
     obtain rfl := sj h
     exact ⟨_, rfl, _, σ3, fr_join ⟨rfl, rfl, rfl, trivial⟩, rfl, H.sel' [0] rfl rfl⟩
  ·replace h := bif_f hb4 h
   refine c_exit (q_then_x (q_then_x (q_blk_hit ?_)))
   obtain rfl := sj h
   obtain rfl := hres _ rfl
   exact .inl ⟨_, rfl, rfl, _, σ3, fr_join ⟨rfl, trivial⟩, rfl, H.sel' [] rfl rfl⟩
 ·clear hj
  have h := h'
  clear h' H
  rintro e a w (⟨t19, rfl, rfl, ρ, σ20, rfl, rfl, H⟩ | ⟨t21, rfl, rfl, ρ, σ22, rfl, rfl, H⟩)
  ·replace h := selim_l h
   refine q_then (c_seq (rg (sm (I t19) rfl (sa (I t19) rfl (w_end (q_then (c_ret ?_)))))))
   obtain rfl := sj h
   exact fin_ret (v := (I t19)) (results_ok Tryz.results16 (res_tmp (v := (I t19)) rfl res_nil) rfl) ⟨rfl, rfl⟩ (H.sel' [] rfl rfl)
  ·replace h := selim_r h
   refine q_then_r ?_
   obtain rfl := sj h
   exact fin_ret (v := (I t21)) (results_ok Tryz.results16 (res_tmp (v := (I t21)) rfl res_nil) rfl) ⟨rfl, rfl⟩ (H.sel' [] rfl rfl)

theorem c_laws_FnExactTreeNearest {Gg : List (Int × (List Int) × Int)} {Gh : Int} {Gi : List Int} {Gj : Int} {Gk : Option Addr} {Gl : Nat} {Gm : Option Addr} {Gn : Nat} {r : Bool} (h : M.laws_FnExactTreeNearest Gg Gh Gi Gj = some r) :
    Cal2 Tryz.prog 3 [(Sl Gk Gg Gl), (I Gh), (Sl Gm Gi Gn), (I Gj)] [Ch.ro 0 (Sl Gk Gg Gl) Gg, Ch.ro 0 (Sl Gm Gi Gn) Gi] (fun n0 v L => v = (B r) ∧ L = []) := by
 refine cal2 (n := 100) Tryz.func3 rfl rfl rfl rfl ?_
 intro S0 σ0 n0 hn0 H
 unfold M.laws_FnExactTreeNearest at h
 refine c_seq (rg (sa (B false) rfl (w_end (q_then (c_seq (c_seq (rg (sm (Sl Gm Gi Gn) rfl (st (v := (I (Gi.length : Int))) (rv_len Tryz.underlying23 rfl) (st (v := (B (decide (1048576 < (Gi.length : Int))))) (rv_gtr (a := (Gi.length : Int)) (b := 1048576) rfl rfl) (w_end ?_)))))))))))
 refine q_then ?_
 refine cd_cond (decide (1048576 < (Gi.length : Int))) rfl (fun hb1 => ?_) (fun hb1 => ?_)
 ·replace h := bif_t hb1 h
  refine c_seq (rg (sa (B true) rfl (w_end (q_then (c_ret (q_then_r ?_))))))
  obtain rfl := sj h
  exact fin_ret (v := (B true)) (results_ok Tryz.results3 (res_tmp (v := (B true)) rfl res_nil) rfl) ⟨rfl, rfl⟩ (H.sel' [] rfl rfl)
 ·replace h := bif_f hb1 h
  refine c_skip (q_then (c_seq (rg (sa (I 1048576) rfl (w_end (q_then (c_seq (rg (sm (Sl Gk Gg Gl) rfl (sm (I 1048576) rfl ?_))))))))))
  revert h; refine br fun r2 hx3 h => ?_
  have hc4 := c_laws_szItemS (Ad := Gk) (Ae := Gl) hx3
  refine st_call (cx_call hc4 (ent_f hc4.fn rfl) hn0 (H.sel' [0, 0, 1] rfl rfl : Hp S0 σ0 _ ([_] ++ _))) wn ?_
  rintro _ σ5 ⟨_, ⟨rfl, rfl⟩, H, -⟩
  replace H : Hp _ _ _ [_, _] := H
  refine sa (I r2) rfl (w_end (q_then (c_seq (c_seq (rg (sm (I r2) rfl (st (v := (B (decide (r2 < 0)))) (rv_lss (a := r2) (b := 0) rfl rfl) (w_end (q_then ?_)))))))))
  refine cd_cond (decide (r2 < 0)) rfl (fun hb6 => ?_) (fun hb6 => ?_)
  ·replace h := bif_t hb6 h
   refine c_seq (rg (sa (B true) rfl (w_end (q_then (c_ret (q_then_r ?_))))))
   obtain rfl := sj h
   exact fin_ret (v := (B true)) (results_ok Tryz.results3 (res_tmp (v := (B true)) rfl res_nil) rfl) ⟨rfl, rfl⟩ (H.sel' [] rfl rfl)
  ·replace h := bif_f hb6 h
   refine c_skip (q_then (c_seq (rg (sm (Sl Gk Gg Gl) rfl ?_))))
   revert h; refine br fun r7 hx8 h => ?_
   have hc9 := c_laws_toItemS (Ad := Gk) (Ae := Gl) hx8
   refine st_call (cx_call hc9 (ent_f hc9.fn rfl) hn0 (H.sel' [0, 0, 1] rfl rfl : Hp S0 σ0 _ ([_] ++ _))) wn ?_
   rintro _ σ14 ⟨_, ⟨a10, c11, K12, rfl, rfl, hK13⟩, H, -⟩
   replace H : Hp _ _ _ [_, _, _] := H
   refine sm (I Gh) rfl (sm (Sl Gm Gi Gn) rfl ?_)
   revert h; refine br fun r15 hx16 h => ?_
   have hc17 := c_laws_toIntS (Ad := Gm) (Ae := Gn) hx16
   refine st_call (cx_call hc17 (ent_f hc17.fn rfl) hn0 (H.sel' [2, 0, 1, 2] rfl rfl : Hp S0 σ0 _ ([_] ++ _))) wn ?_
   rintro _ σ21 ⟨_, ⟨a18, c19, rfl, rfl, ht20⟩, H, -⟩
   replace H : Hp _ _ _ [_, _, _, _] := H
   refine sm (I Gj) rfl ?_
   obtain ⟨σ22, hw23, H, -⟩ := H.pub 0 rfl (Nat.le_refl _)
   rw [← hw23]; clear hw23
   replace H := H.roLow 0 0 rfl (Nat.zero_le _)
   revert h; refine br fun r24 hx25 h => ?_
   have hc26 := c_spec_TreeNearest (Am := a10) (Ao := c11) (Az := a18) (Ba := c19) hx25
   have hle := Nat.le_trans hn0 H.size
   refine st_call (cx_lend (Loan.lendB hK13.lends (Loan.same Loan.nil)) hc26 (ent_f hc26.fn rfl) (show Hp S0 σ0 _ ([Ch.big K12] ++ ([Ch.ro 0 (Sl a18 r15 c19) r15] ++ [Ch.ro 0 (Sl a18 r15 c19) r15, Ch.ro n0 (Sl a18 r15 c19) r15, Ch.ro 0 (Sl Gk Gg Gl) Gg, Ch.ro 0 (Sl Gm Gi Gn) Gi])) from (H.sel' [2, 0, 0, 1, 3, 4] rfl rfl)) (by rintro _ _ _ ⟨_, _, rfl, rfl⟩; exact ⟨Ab.ownSc, trivial⟩)) wn ?_
   rintro _ σ29 ⟨_, ⟨a27, c28, rfl, rfl⟩, H, -, -⟩
   replace H : Hp _ _ _ [_, _, _, _, _, _] := H
   replace H := H.ownLow 0 n0 n0 rfl hle hle
   clear hle
   replace H : Hp _ _ _ [_, _, _, _, _, _] := H
   refine sa (Sl a27 r24 c28) rfl (w_end (q_then (c_seq (rg (sm (Sl Gk Gg Gl) rfl ?_)))))
   revert h; refine br fun r30 hx31 h => ?_
   have hc32 := c_laws_toItemS (Ad := Gk) (Ae := Gl) hx31
   refine st_call (cx_call hc32 (ent_f hc32.fn rfl) hn0 (H.sel' [4, 0, 1, 2, 3, 4, 5] rfl rfl : Hp S0 σ0 _ ([_] ++ _))) wn ?_
   rintro _ σ37 ⟨_, ⟨a33, c34, K35, rfl, rfl, hK36⟩, H, -⟩
   replace H : Hp _ _ _ [_, _, _, _, _, _, _] := H
   refine sa (Sl a33 r30 c34) rfl (w_end (q_then (c_seq (rg (sm (Sl Gm Gi Gn) rfl ?_)))))
   revert h; refine br fun r38 hx39 h => ?_
   have hc40 := c_laws_toIntS (Ad := Gm) (Ae := Gn) hx39
   refine st_call (cx_call hc40 (ent_f hc40.fn rfl) hn0 (H.sel' [6, 0, 1, 2, 3, 4, 5, 6] rfl rfl : Hp S0 σ0 _ ([_] ++ _))) wn ?_
   rintro _ σ44 ⟨_, ⟨a41, c42, rfl, rfl, ht43⟩, H, -⟩
   replace H : Hp _ _ _ [_, _, _, _, _, _, _, _] := H
   replace H : Hp S0 σ0 σ44 [Ch.own n0 n0 (Sl a41 r38 c42) r38, Ch.big K35, Ch.own n0 n0 (Sl a27 r24 c28) r24, Ch.ro 0 (Sl Gk Gg Gl) Gg, Ch.ro 0 (Sl Gm Gi Gn) Gi] := H.sel' [0, 1, 2, 6, 7] rfl rfl
   refine sa (Sl a41 r38 c42) rfl (w_end (q_then (c_seq (rg (sm (Sl a33 r30 c34) rfl (sm (I Gh) rfl (sm (Sl a41 r38 c42) rfl (sm (I Gj) rfl ?_))))))))
   revert h; refine br fun r45 hx46 h => ?_
   have hc47 := c_impl_TreeNearest (Am := a33) (Ao := c34) (Az := a41) (Ba := c42) hx46
   have hle := Nat.le_trans hn0 H.size
   refine st_call (cx_lend (Loan.lendB hK36.lends (Loan.lend Loan.nil)) hc47 (ent_f hc47.fn rfl) (show Hp S0 σ0 _ ([Ch.big K35, Ch.own n0 n0 (Sl a41 r38 c42) r38] ++ ([] ++ [Ch.own n0 n0 (Sl a27 r24 c28) r24, Ch.ro 0 (Sl Gk Gg Gl) Gg, Ch.ro 0 (Sl Gm Gi Gn) Gi])) from (H.sel' [1, 0, 2, 3, 4] rfl rfl)) (by rintro _ _ _ ⟨_, _, rfl, rfl⟩; exact ⟨Ab.ownSc, trivial⟩)) wn ?_
   rintro _ σ50 ⟨_, ⟨a48, c49, rfl, rfl⟩, H, -, -⟩
   replace H : Hp _ _ _ [_, _, _, _, _, _] := H
   replace H := H.ownLow 0 0 n0 rfl (Nat.le_refl _) hle
   clear hle
   replace H : Hp _ _ _ [_, _, _, _, _, _] := H
   refine sa (Sl a48 r45 c49) rfl (w_end (q_then (c_seq (c_seq (rg (sm (Sl a48 r45 c49) rfl (sm (Sl a27 r24 c28) rfl ?_)))))))
   revert h; refine br fun r51 hx52 h => ?_
   have hc53 := c_laws_eqHitS (Ad := a48) (Ae := c49) (Gb := a27) (Gc := c28) hx52
   have hle := Nat.le_trans hn0 H.size
   refine st_call (cx_lend (Loan.lend (Loan.lend Loan.nil)) hc53 (ent_f hc53.fn rfl) (show Hp S0 σ0 _ ([Ch.own 0 n0 (Sl a48 r45 c49) r45, Ch.own n0 n0 (Sl a27 r24 c28) r24] ++ ([] ++ [Ch.big K35, Ch.own n0 n0 (Sl a41 r38 c42) r38, Ch.ro 0 (Sl Gk Gg Gl) Gg, Ch.ro 0 (Sl Gm Gi Gn) Gi])) from (H.sel' [0, 3, 1, 2, 4, 5] rfl rfl)) (by rintro _ _ _ ⟨rfl, rfl⟩; exact trivial)) wn ?_
   rintro _ σ54 ⟨_, ⟨rfl, rfl⟩, H, -, -⟩
   replace H : Hp _ _ _ [_, _, _, _, _, _] := H
   clear hle
   replace H : Hp _ _ _ [_, _, _, _, _, _] := H
   refine st (v := (B (!r51))) (rv_not rfl) (w_end (q_then ?_))
   refine cd_cond (!r51) rfl (fun hb55 => ?_) (fun hb55 => ?_)
   ·replace h := bif_t hb55 h
    refine c_seq (rg (sa (B false) rfl (w_end (q_then (c_ret (q_then_r ?_))))))
    obtain rfl := sj h
    exact fin_ret (v := (B false)) (results_ok Tryz.results3 (res_tmp (v := (B false)) rfl res_nil) rfl) ⟨rfl, rfl⟩ (H.sel' [] rfl rfl)
   ·replace h := bif_f hb55 h
    refine c_skip (q_then (c_seq (c_seq (rg (sm (Sl a33 r30 c34) rfl (sm (Sl Gk Gg Gl) rfl ?_))))))
    revert h; refine br fun r56 hx57 h => ?_
    have hc58 := c_laws_toItemS (Ad := Gk) (Ae := Gl) hx57
    refine st_call (cx_call hc58 (ent_f hc58.fn rfl) hn0 (H.sel' [4, 0, 1, 2, 3, 4, 5] rfl rfl : Hp S0 σ0 _ ([_] ++ _))) wn ?_
    rintro _ σ63 ⟨_, ⟨a59, c60, K61, rfl, rfl, hK62⟩, H, -⟩
    replace H : Hp _ _ _ [_, _, _, _, _, _, _] := H
    revert h; refine br fun r64 hx65 h => ?_
    have hc66 := c_laws_eqItemS (Ad := a33) (Ae := c34) (Gb := a59) (Gc := c60) hx65
    have hle := Nat.le_trans hn0 H.size
    refine st_call (cx_lend (Loan.lendB hK36.lends (Loan.lendB hK62.lends Loan.nil)) hc66 (ent_f hc66.fn rfl) (show Hp S0 σ0 _ ([Ch.big K35, Ch.big K61] ++ ([] ++ [Ch.own 0 n0 (Sl a48 r45 c49) r45, Ch.own n0 n0 (Sl a27 r24 c28) r24, Ch.own n0 n0 (Sl a41 r38 c42) r38, Ch.ro 0 (Sl Gk Gg Gl) Gg, Ch.ro 0 (Sl Gm Gi Gn) Gi])) from (H.sel' [3, 0, 1, 2, 4, 5, 6] rfl rfl)) (by rintro _ _ _ ⟨rfl, rfl⟩; exact trivial)) wn ?_
    rintro _ σ67 ⟨_, ⟨rfl, rfl⟩, H, -, -⟩
    replace H : Hp _ _ _ [_, _, _, _, _, _, _] := H
    clear hle
    replace H : Hp _ _ _ [_, _, _, _, _, _, _] := H
    refine st (v := (B (!r64))) (rv_not rfl) (w_end (q_then ?_))
    refine cd_cond (!r64) rfl (fun hb68 => ?_) (fun hb68 => ?_)
    ·replace h := bif_t hb68 h
     refine c_seq (rg (sa (B false) rfl (w_end (q_then (c_ret (q_then_r ?_))))))
     obtain rfl := sj h
     exact fin_ret (v := (B false)) (results_ok Tryz.results3 (res_tmp (v := (B false)) rfl res_nil) rfl) ⟨rfl, rfl⟩ (H.sel' [] rfl rfl)
    ·replace h := bif_f hb68 h
     refine c_skip (q_then (c_seq (c_seq (rg (sm (Sl a41 r38 c42) rfl (sm (Sl Gm Gi Gn) rfl ?_))))))
     revert h; refine br fun r69 hx70 h => ?_
     have hc71 := c_laws_toIntS (Ad := Gm) (Ae := Gn) hx70
     refine st_call (cx_call hc71 (ent_f hc71.fn rfl) hn0 (H.sel' [6, 0, 1, 2, 3, 4, 5, 6] rfl rfl : Hp S0 σ0 _ ([_] ++ _))) wn ?_
     rintro _ σ75 ⟨_, ⟨a72, c73, rfl, rfl, ht74⟩, H, -⟩
     replace H : Hp _ _ _ [_, _, _, _, _, _, _, _] := H
     replace H : Hp S0 σ0 σ75 [Ch.own n0 n0 (Sl a72 r69 c73) r69, Ch.big K35, Ch.own 0 n0 (Sl a48 r45 c49) r45, Ch.own n0 n0 (Sl a27 r24 c28) r24, Ch.own n0 n0 (Sl a41 r38 c42) r38, Ch.ro 0 (Sl Gk Gg Gl) Gg, Ch.ro 0 (Sl Gm Gi Gn) Gi] := H.sel' [0, 1, 3, 4, 5, 6, 7] rfl rfl
     obtain ⟨σ76, hw77, H, -⟩ := H.pub 0 rfl (Nat.le_refl _)
     rw [← hw77]; clear hw77
     replace H := H.roLow 0 0 rfl (Nat.zero_le _)
     revert h; refine br fun r78 hx79 h => ?_
     have hc80 := c_laws_eqIntS (Ad := a41) (Ae := c42) (Gb := a72) (Gc := c73) hx79
     have hle := Nat.le_trans hn0 H.size
     refine st_call (cx_lend (Loan.lend (Loan.same Loan.nil)) hc80 (ent_f hc80.fn rfl) (show Hp S0 σ0 _ ([Ch.own n0 n0 (Sl a41 r38 c42) r38] ++ ([Ch.ro 0 (Sl a72 r69 c73) r69] ++ [Ch.ro 0 (Sl a72 r69 c73) r69, Ch.ro n0 (Sl a72 r69 c73) r69, Ch.big K35, Ch.own 0 n0 (Sl a48 r45 c49) r45, Ch.own n0 n0 (Sl a27 r24 c28) r24, Ch.ro 0 (Sl Gk Gg Gl) Gg, Ch.ro 0 (Sl Gm Gi Gn) Gi])) from (H.sel' [5, 0, 0, 1, 2, 3, 4, 6, 7] rfl rfl)) (by rintro _ _ _ ⟨rfl, rfl⟩; exact trivial)) wn ?_
     rintro _ σ81 ⟨_, ⟨rfl, rfl⟩, H, -, -⟩
     replace H : Hp _ _ _ [_, _, _, _, _, _, _, _] := H
     clear hle
     replace H : Hp _ _ _ [_, _, _, _, _, _, _, _] := H
     replace H : Hp S0 σ0 σ81 [Ch.own n0 n0 (Sl a41 r38 c42) r38, Ch.big K35, Ch.own 0 n0 (Sl a48 r45 c49) r45, Ch.own n0 n0 (Sl a27 r24 c28) r24, Ch.ro 0 (Sl Gk Gg Gl) Gg, Ch.ro 0 (Sl Gm Gi Gn) Gi] := H.sel' [0, 3, 4, 5, 6, 7] rfl rfl
     refine st (v := (B (!r78))) (rv_not rfl) (w_end (q_then ?_))
     refine cd_cond (!r78) rfl (fun hb82 => ?_) (fun hb82 => ?_)
     ·replace h := bif_t hb82 h
      refine c_seq (rg (sa (B false) rfl (w_end (q_then (c_ret (q_then_r ?_))))))
      obtain rfl := sj h
      exact fin_ret (v := (B false)) (results_ok Tryz.results3 (res_tmp (v := (B false)) rfl res_nil) rfl) ⟨rfl, rfl⟩ (H.sel' [] rfl rfl)
     ·replace h := bif_f hb82 h
      refine c_skip (q_then (c_seq (rg (sa (I 1) rfl (w_end (q_then (c_seq (rg (sm (Sl a33 r30 c34) rfl (sm (I 1) rfl ?_))))))))))
      revert h; refine br fun r83 hx84 h => ?_
      have hc85 := c_laws_markItemS (Ad := a33) (Ae := c34) (hK := hK36) hx84
      refine st_call (cx_call hc85 (ent_f hc85.fn rfl) hn0 (H.sel' [1, 0, 2, 3, 4, 5] rfl rfl : Hp S0 σ0 _ ([_] ++ _))) wn ?_
      rintro _ σ86 ⟨_, ⟨rfl, rfl⟩, H, -⟩
      replace H : Hp _ _ _ [_, _, _, _, _] := H
      refine sa (I r83) rfl (w_end (q_then (c_seq (rg (sm (Sl a41 r38 c42) rfl (sm (I r83) rfl ?_))))))
      replace H := H.ownLow 0 0 0 rfl (Nat.zero_le _) (Nat.zero_le _)
      revert h; refine br fun r87 hx88 h => ?_
      have hc89 := c_laws_markIntS (Ad := a41) (Ae := c42) hx88
      refine st_call (cx_call hc89 (ent_f hc89.fn rfl) hn0 (H.sel' [0, 1, 2, 3, 4] rfl rfl : Hp S0 σ0 _ ([_] ++ _))) wn ?_
      rintro _ σ91 ⟨_, ⟨rfl, rfl, hn90⟩, H, -⟩
      replace H : Hp _ _ _ [_, _, _, _, _] := H
      have hsl : (Sl a41 r38 c42) = (Sl a41 r87.2 c42) := sl_len hn90.symm
      try rw [hsl]
      try rw [hsl] at H
      clear hsl
      refine sa (I r87.1) rfl (w_end (q_then (c_seq (c_seq ?_))))
      obtain ⟨o92, hj, h'⟩ := bind_some h
      clear h
      refine c_cut (fun e a w => e = .normal ∧ ∃ (ρ : Nat → Value) (σ : St), a = fr 100 (updL ρ [(0, (Sl Gk Gg Gl)), (1, (I Gh)), (2, (Sl Gm Gi Gn)), (3, (I Gj)), (10, (Sl a27 r24 c28)), (13, (Sl a48 r45 c49)), (69, (B o92))]) ∧ w = σ.w ∧ Hp S0 σ0 σ [Ch.ro 0 (Sl Gk Gg Gl) Gg, Ch.ro 0 (Sl Gm Gi Gn) Gi, Ch.own n0 n0 (Sl a27 r24 c28) r24, Ch.own 0 n0 (Sl a48 r45 c49) r45]) ?_ ?_
      ·clear h'
       rename _ = some o92 => h
       refine rg (sm (I r87.1) rfl (st (v := (B (decide (r87.1 < 0)))) (rv_lss (a := r87.1) (b := 0) rfl rfl) (sm (B (decide (r87.1 < 0))) rfl ?_)))
       rcases Bool.eq_false_or_eq_true (decide (r87.1 < 0)) with hb93 | hb93
       ·replace h := bif_t hb93 h
        refine st_skip (congrArg some hb93) (st_skip (congrArg some hb93) (st_skip (congrArg some hb93) (st_skip (congrArg some hb93) (st (v := (B true)) (rv_pick_t (congrArg B hb93) rfl) (w_end ?_)))))
        obtain rfl := sj h
        exact ⟨rfl, _, σ91, fr_join ⟨rfl, rfl, rfl, rfl, rfl, rfl, rfl, trivial⟩, rfl, H.sel' [3, 4, 2, 1] rfl rfl⟩
       ·replace h := bif_f hb93 h
        refine st_g (v := (Sl a48 r45 c49)) (congrArg some hb93) (rv_move rfl) (st_g (v := (Sl a27 r24 c28)) (congrArg some hb93) (rv_move rfl) ?_)
        revert h; refine br fun r94 hx95 h => ?_
        have hc96 := c_laws_eqHitS (Ad := a48) (Ae := c49) (Gb := a27) (Gc := c28) hx95
        have hle := Nat.le_trans hn0 H.size
        refine st_call (cx_lend (Loan.lend (Loan.lend Loan.nil)) hc96 (ent_f hc96.fn rfl) (show Hp S0 σ0 _ ([Ch.own 0 n0 (Sl a48 r45 c49) r45, Ch.own n0 n0 (Sl a27 r24 c28) r24] ++ ([] ++ [Ch.own 0 0 (Sl a41 r87.2 c42) r87.2, Ch.ro 0 (Sl Gk Gg Gl) Gg, Ch.ro 0 (Sl Gm Gi Gn) Gi])) from (H.sel' [1, 2, 0, 3, 4] rfl rfl)) (by rintro _ _ _ ⟨rfl, rfl⟩; exact trivial)) (wanted_yes rfl (by exact (congrArg some hb93))) ?_
        rintro _ σ97 ⟨_, ⟨rfl, rfl⟩, H, -, -⟩
        replace H : Hp _ _ _ [_, _, _, _, _] := H
        clear hle
        replace H : Hp _ _ _ [_, _, _, _, _] := H
        refine st_g (v := (B (!r94))) (congrArg some hb93) (rv_not rfl) (st (v := (B (!r94))) (rv_pick_f (congrArg B hb93) rfl) (w_end ?_))
        obtain rfl := sj h
        exact ⟨rfl, _, σ97, fr_join ⟨rfl, rfl, rfl, rfl, rfl, rfl, rfl, trivial⟩, rfl, H.sel' [3, 4, 1, 0] rfl rfl⟩
      ·clear hj
       have h := h'
       clear h' H
       rintro e a w ⟨rfl, ρ, σ98, rfl, rfl, H⟩
       refine q_then ?_
       refine cd_cond o92 rfl (fun hb99 => ?_) (fun hb99 => ?_)
       ·replace h := bif_t hb99 h
        refine c_seq (rg (sa (B false) rfl (w_end (q_then (c_ret (q_then_r ?_))))))
        obtain rfl := sj h
        exact fin_ret (v := (B false)) (results_ok Tryz.results3 (res_tmp (v := (B false)) rfl res_nil) rfl) ⟨rfl, rfl⟩ (H.sel' [] rfl rfl)
       ·replace h := bif_f hb99 h
        refine c_skip (q_then (c_seq (rg (sa (I 1) rfl (w_end (q_then (c_seq (rg (sm (Sl a48 r45 c49) rfl (sm (I 1) rfl ?_))))))))))
        replace H := H.ownLow 3 0 0 rfl (Nat.zero_le _) (Nat.zero_le _)
        revert h; refine br fun r100 hx101 h => ?_
        have hc102 := c_laws_markHitS (Ad := a48) (Ae := c49) hx101
        refine st_call (cx_call hc102 (ent_f hc102.fn rfl) hn0 (H.sel' [0, 1, 2, 3] rfl rfl : Hp S0 σ0 _ ([_] ++ _))) wn ?_
        rintro _ σ104 ⟨_, ⟨rfl, rfl, hn103⟩, H, -⟩
        replace H : Hp _ _ _ [_, _, _, _] := H
        have hsl : (Sl a48 r45 c49) = (Sl a48 r100.2 c49) := sl_len hn103.symm
        try rw [hsl]
        try rw [hsl] at H
        clear hsl
        refine sa (I r100.1) rfl (w_end (q_then (c_seq (rg (sa (I 1) rfl (w_end (q_then (c_seq (rg (sm (Sl a48 r100.2 c49) rfl (sm (I 1) rfl ?_)))))))))))
        revert h; refine br fun r105 hx106 h => ?_
        have hc107 := c_laws_heldHitS (Ad := a48) (Ae := c49) hx106
        have hle := Nat.le_trans hn0 H.size
        refine st_call (cx_lend (Loan.lend Loan.nil) hc107 (ent_f hc107.fn rfl) (show Hp S0 σ0 _ ([Ch.own 0 0 (Sl a48 r100.2 c49) r100.2] ++ ([] ++ [Ch.ro 0 (Sl Gk Gg Gl) Gg, Ch.ro 0 (Sl Gm Gi Gn) Gi, Ch.own n0 n0 (Sl a27 r24 c28) r24])) from (H.sel' [0, 1, 2, 3] rfl rfl)) (by rintro _ _ _ ⟨rfl, rfl⟩; exact trivial)) wn ?_
        rintro _ σ108 ⟨_, ⟨rfl, rfl⟩, H, -, -⟩
        replace H : Hp _ _ _ [_, _, _, _] := H
        clear hle
        replace H : Hp _ _ _ [_, _, _, _] := H
        refine sa (I r105) rfl (w_end (q_then (c_seq (c_seq (rg (sm (I r105) rfl (st (v := (B (decide (r105 < 0)))) (rv_lss (a := r105) (b := 0) rfl rfl) (w_end (q_then ?_)))))))))
        refine cd_cond (decide (r105 < 0)) rfl (fun hb109 => ?_) (fun hb109 => ?_)
        ·replace h := bif_t hb109 h
         refine c_seq (rg (sa (B false) rfl (w_end (q_then (c_ret (q_then_r ?_))))))
         obtain rfl := sj h
         exact fin_ret (v := (B false)) (results_ok Tryz.results3 (res_tmp (v := (B false)) rfl res_nil) rfl) ⟨rfl, rfl⟩ (H.sel' [] rfl rfl)
        ·replace h := bif_f hb109 h
         refine c_skip (q_then (c_seq (c_seq (rg (sm (I r105) rfl (sm (I r100.1) rfl (st (v := (B (r105 != r100.1))) (rv_neq (a := r105) (b := r100.1) rfl rfl) (w_end (q_then ?_)))))))))
         refine cd_cond (r105 != r100.1) rfl (fun hb110 => ?_) (fun hb110 => ?_)
         ·replace h := bif_t hb110 h
          refine c_seq (rg (sa (B false) rfl (w_end (q_then (c_ret (q_then_r ?_))))))
          obtain rfl := sj h
          exact fin_ret (v := (B false)) (results_ok Tryz.results3 (res_tmp (v := (B false)) rfl res_nil) rfl) ⟨rfl, rfl⟩ (H.sel' [] rfl rfl)
         ·replace h := bif_f hb110 h
          refine c_skip (q_then (c_seq (rg (sm (Sl Gk Gg Gl) rfl ?_))))
          revert h; refine br fun r111 hx112 h => ?_
          have hc113 := c_laws_toItemS (Ad := Gk) (Ae := Gl) hx112
          refine st_call (cx_call hc113 (ent_f hc113.fn rfl) hn0 (H.sel' [1, 0, 1, 2, 3] rfl rfl : Hp S0 σ0 _ ([_] ++ _))) wn ?_
          rintro _ σ118 ⟨_, ⟨a114, c115, K116, rfl, rfl, hK117⟩, H, -⟩
          replace H : Hp _ _ _ [_, _, _, _, _] := H
          refine sm (I Gh) rfl (sm (Sl Gm Gi Gn) rfl ?_)
          revert h; refine br fun r119 hx120 h => ?_
          have hc121 := c_laws_toIntS (Ad := Gm) (Ae := Gn) hx120
          refine st_call (cx_call hc121 (ent_f hc121.fn rfl) hn0 (H.sel' [3, 0, 1, 2, 3, 4] rfl rfl : Hp S0 σ0 _ ([_] ++ _))) wn ?_
          rintro _ σ125 ⟨_, ⟨a122, c123, rfl, rfl, ht124⟩, H, -⟩
          replace H : Hp _ _ _ [_, _, _, _, _, _] := H
          refine sm (I Gj) rfl ?_
          obtain ⟨σ126, hw127, H, -⟩ := H.pub 0 rfl (Nat.le_refl _)
          rw [← hw127]; clear hw127
          replace H := H.roLow 0 0 rfl (Nat.zero_le _)
          revert h; refine br fun r128 hx129 h => ?_
          have hc130 := c_impl_TreeNearest (Am := a114) (Ao := c115) (Az := a122) (Ba := c123) hx129
          have hle := Nat.le_trans hn0 H.size
          refine st_call (cx_lend (Loan.lendB hK117.lends (Loan.same Loan.nil)) hc130 (ent_f hc130.fn rfl) (show Hp S0 σ0 _ ([Ch.big K116] ++ ([Ch.ro 0 (Sl a122 r119 c123) r119] ++ [Ch.ro 0 (Sl a122 r119 c123) r119, Ch.ro n0 (Sl a122 r119 c123) r119, Ch.own 0 0 (Sl a48 r100.2 c49) r100.2, Ch.ro 0 (Sl Gk Gg Gl) Gg, Ch.ro 0 (Sl Gm Gi Gn) Gi, Ch.own n0 n0 (Sl a27 r24 c28) r24])) from (H.sel' [2, 0, 0, 1, 3, 4, 5, 6] rfl rfl)) (by rintro _ _ _ ⟨_, _, rfl, rfl⟩; exact ⟨Ab.ownSc, trivial⟩)) wn ?_
          rintro _ σ133 ⟨_, ⟨a131, c132, rfl, rfl⟩, H, -, -⟩
          replace H : Hp _ _ _ [_, _, _, _, _, _, _, _] := H
          replace H := H.ownLow 0 0 n0 rfl (Nat.le_refl _) hle
          clear hle
          replace H : Hp _ _ _ [_, _, _, _, _, _, _, _] := H
          replace H : Hp S0 σ0 σ133 [Ch.own 0 n0 (Sl a131 r128 c132) r128, Ch.own 0 0 (Sl a48 r100.2 c49) r100.2, Ch.own n0 n0 (Sl a27 r24 c28) r24] := H.sel' [0, 4, 7] rfl rfl
          refine sa (Sl a131 r128 c132) rfl (w_end (q_then (c_seq (c_seq (rg (sm (Sl a131 r128 c132) rfl (sm (Sl a27 r24 c28) rfl ?_)))))))
          replace H := H.ownLow 0 0 0 rfl (Nat.le_refl _) (Nat.zero_le _)
          obtain ⟨σ134, hw135, H, -⟩ := H.pub 0 rfl (Nat.le_refl _)
          rw [← hw135]; clear hw135
          obtain ⟨σ136, hw137, H, -⟩ := H.pub 2 rfl (Nat.le_refl _)
          rw [← hw137]; clear hw137
          replace H := H.roLow 0 0 rfl (Nat.zero_le _)
          revert h; refine br fun r138 hx139 h => ?_
          have hc140 := c_laws_eqHitS (Ad := a131) (Ae := c132) (Gb := a27) (Gc := c28) hx139
          refine st_call (cx_call hc140 (ent_f hc140.fn rfl) hn0 (H.sel' [2, 0, 0, 1, 2, 3] rfl rfl : Hp S0 σ0 _ ([_, _] ++ _))) wn ?_
          rintro _ σ141 ⟨_, ⟨rfl, rfl⟩, H, -⟩
          replace H : Hp _ _ _ [_, _, _, _] := H
          refine st (v := (B (!r138))) (rv_not rfl) (w_end (q_then ?_))
          refine cd_cond (!r138) rfl (fun hb142 => ?_) (fun hb142 => ?_)
          ·replace h := bif_t hb142 h
           refine c_seq (rg (sa (B false) rfl (w_end (q_then (c_ret (q_then_r ?_))))))
           obtain rfl := sj h
           exact fin_ret (v := (B false)) (results_ok Tryz.results3 (res_tmp (v := (B false)) rfl res_nil) rfl) ⟨rfl, rfl⟩ (H.sel' [] rfl rfl)
          ·replace h := bif_f hb142 h
           refine c_skip (q_then (c_seq (rg (sa (I 1) rfl (w_end (q_then (c_seq (rg (sm (Sl a48 r100.2 c49) rfl (sm (I 1) rfl ?_))))))))))
           obtain ⟨σ143, hw144, H, -⟩ := H.pub 3 rfl (Nat.le_refl _)
           rw [← hw144]; clear hw144
           revert h; refine br fun r145 hx146 h => ?_
           have hc147 := c_laws_heldHitS (Ad := a48) (Ae := c49) hx146
           refine st_call (cx_call hc147 (ent_f hc147.fn rfl) hn0 (H.sel' [0, 0, 1, 2, 3] rfl rfl : Hp S0 σ0 _ ([_] ++ _))) wn ?_
           rintro _ σ148 ⟨_, ⟨rfl, rfl⟩, H, -⟩
           replace H : Hp _ _ _ [_, _, _, _] := H
           refine sa (I r145) rfl (w_end (q_then (c_seq (c_seq (rg (sm (I r145) rfl (st (v := (B (decide (r145 < 0)))) (rv_lss (a := r145) (b := 0) rfl rfl) (w_end (q_then ?_)))))))))
           refine cd_cond (decide (r145 < 0)) rfl (fun hb149 => ?_) (fun hb149 => ?_)
           ·replace h := bif_t hb149 h
            refine c_seq (rg (sa (B false) rfl (w_end (q_then (c_ret (q_then_r ?_))))))
            obtain rfl := sj h
            exact fin_ret (v := (B false)) (results_ok Tryz.results3 (res_tmp (v := (B false)) rfl res_nil) rfl) ⟨rfl, rfl⟩ (H.sel' [] rfl rfl)
           ·replace h := bif_f hb149 h
            refine c_skip (q_then (c_seq (c_seq (rg (sm (I r145) rfl (sm (I r100.1) rfl (st (v := (B (r145 != r100.1))) (rv_neq (a := r145) (b := r100.1) rfl rfl) (w_end (q_then ?_)))))))))
            refine cd_cond (r145 != r100.1) rfl (fun hb150 => ?_) (fun hb150 => ?_)
            ·replace h := bif_t hb150 h
             refine c_seq (rg (sa (B false) rfl (w_end (q_then (c_ret (q_then_r ?_))))))
             obtain rfl := sj h
             exact fin_ret (v := (B false)) (results_ok Tryz.results3 (res_tmp (v := (B false)) rfl res_nil) rfl) ⟨rfl, rfl⟩ (H.sel' [] rfl rfl)
            ·replace h := bif_f hb150 h
             refine c_skip (q_then (c_seq (rg (sa (B true) rfl (w_end (q_then (c_ret ?_)))))))
             obtain rfl := sj h
             exact fin_ret (v := (B true)) (results_ok Tryz.results3 (res_tmp (v := (B true)) rfl res_nil) rfl) ⟨rfl, rfl⟩ (H.sel' [] rfl rfl)

end Go.Vs
