/- The functions compute what their models say. -/
import Derived.Test.YtfcemgcmpcmgcabKExactStoreAtC4
set_option linter.unusedVariables false
set_option linter.unusedSimpArgs false
set_option maxRecDepth 20000
namespace Go.Vs
open Go Go.Proofs
attribute [local irreducible] Code.wp Code.wpIn wpList wpListIn wpQuiet Calls CallsIn

theorem c_laws_markEntryS {a_0 : List (Int × (Int × (List Int) × Int))} {k_1 : Int} {aa_0 : Option Addr} {ca_0 : Nat} {lo : Nat} {K : List Ch} (hK : Dp lo (Sl aa_0 a_0 ca_0) a_0 K) {r : Int} (h : M.markEntD a_0 k_1 = some r) :
    Cal2 Try.prog 59 [(Sl aa_0 a_0 ca_0), (I k_1)] [Ch.big K] (fun n0 v L => v = (I r) ∧ L = []) := by
 obtain ⟨hn, h⟩ := markEntD_some h
 obtain ⟨ps, hps, rfl⟩ := hK.ex
 refine cal2 (n := 44) Try.func59 rfl rfl rfl rfl ?_
 intro S0 σ0 n0 hn0 H
 refine c_seq ?_
 refine rg ?_
 refine st (v := (I 0)) (rv_assign rfl) ?_
 refine w_end ?_
 refine q_then ?_
 refine c_seq ?_
 refine c_seq ?_
 refine rg ?_
 refine st (v := (I 0)) (rv_assign rfl) ?_
 refine w_end ?_
 refine q_then ?_
 refine c_cut (fun e a w => e = .normal ∧ ∃ (ρ : Nat → Value) (σ : St), a = fr 44 (updL ρ [(1, (I r))]) ∧ w = σ.w ∧ Hp S0 σ0 σ []) ?_ ?_
 ·refine c_blk ?_
  have hlen : ps.length = a_0.length := by rw [hps]; simp
  refine wp_loop_ghost (fun m a w => ∃ (i : Nat) (ρ : Nat → Value) (σ : St) (ys : List (Int × (Int × Value × Int))) (qs : List ((Int × (Int × (List Int) × Int)) × Value)) (k : Int), i + m = a_0.length ∧ qs.length = m ∧ ys.drop i = qs.map dsh ∧ M.dmarkEntS (qs.map (·.1)) k = some r ∧ a = fr 44 (updL ρ [(0, (Sl aa_0 a_0 ca_0)), (1, (I k)), (5, (I (i : Int)))]) ∧ w = σ.w ∧ Hp S0 σ0 σ [Ch.own lo lo (Sl aa_0 a_0 ca_0) ys, Ch.big (qs.map (dow lo))]) a_0.length ⟨0, _, σ0, _, ps, k_1, by omega, hlen, rfl, hps ▸ h, fr_join ⟨rfl, rfl, rfl, trivial⟩, rfl, H.unbig⟩ ?_
  clear H
  rintro m _ _ ⟨i, ρ, σ3, ys, qs, k, him, hqs, hys, hk, rfl, rfl, H⟩
  refine c_seq ?_
  refine c_seq ?_
  refine rg ?_
  refine st (v := (I (i : Int))) (rv_move rfl) ?_
  refine st (v := (Sl aa_0 a_0 ca_0)) (rv_move rfl) ?_
  refine st (v := (I (a_0.length : Int))) (rv_len Try.underlying23 rfl) ?_
  refine st (v := (B (decide ((i : Int) < (a_0.length : Int))))) (rv_lss (a := (i : Int)) (b := (a_0.length : Int)) rfl rfl) ?_
  refine w_end ?_
  refine q_then ?_
  refine cd_cond (decide ((i : Int) < (a_0.length : Int))) rfl (fun hb => ?_) (fun hb => ?_)
  ·have hlt : i < a_0.length := by have := of_decide_eq_true hb; omega
   obtain ⟨m, rfl⟩ : ∃ m', m = m' + 1 := ⟨m - 1, by omega⟩
   obtain ⟨p, qs, rfl⟩ : ∃ p qs', qs = p :: qs' := by cases qs with
    | nil => cases hqs
    | cons p qs => exact ⟨p, qs, rfl⟩
   obtain ⟨q, hq, hk'⟩ := bind_some (show (M.laws_markIntS p.1.2.2.1 (w64 (w64 (k + 1) + 1))).bind (fun q => M.dmarkEntS (qs.map (·.1)) (w64 (q.1 + 1))) = some r from hk)
   replace hys : ys.drop i = dsh p :: qs.map dsh := hys
   refine c_skip ?_
   refine q_then ?_
   refine c_seq ?_
   refine c_blk ?_
   refine c_seq ?_
   refine rg ?_
   refine st (v := (Sl aa_0 a_0 ca_0)) (rv_move rfl) ?_
   refine st (v := (I (i : Int))) (rv_move rfl) ?_
   refine st (v := (I k)) (rv_move rfl) ?_
   have hx7 := gidx_drop hys
   obtain ⟨b9, o10, hi8, -⟩ := (H.own 0 rfl).ix hx7
   refine st (v := (pt b9 o10)) (rv_ix Try.underlying23 ti56 rfl rfl hi8) ?_
   refine st (v := (pt b9 (o10 + 0))) (rv_fieldAddr (off := 0) (ft := 3) Try.underlying56 rfl ti3 rfl rfl) ?_
   refine st_exS (ex_store_own (e' := ((k, (p.1.2.1, p.2, p.1.2.2.2)) : Int × (Int × Value × Int))) (vs := [(I k)]) (k := 0) H (i := 0) rfl ti3 hx7 hi8 rfl rfl rfl rfl rfl (Nat.le_of_ble_eq_true rfl) (by simp [plain]) (by rintro _ ⟨_, _, rfl, rfl, ⟨_, _, rfl, rfl, ⟨_, _, rfl, ⟨rfl, hpl⟩, rfl⟩⟩⟩; exact ⟨[(I k)], [(I p.1.2.1), p.2, (I p.1.2.2.2)], rfl, rfl, ⟨[(I p.1.2.1)], [p.2, (I p.1.2.2.2)], rfl, rfl, ⟨[p.2], [(I p.1.2.2.2)], rfl, ⟨rfl, hpl⟩, rfl⟩⟩⟩)) (wanted_none _ rfl _) ?_
   rintro σ10 ⟨H, -⟩
   refine w_end ?_
   refine q_then ?_
   refine c_seq ?_
   refine rg ?_
   refine st (v := (I k)) (rv_move rfl) ?_
   refine st (v := (I (w64 (k + 1)))) (rv_add (a := k) (b := 1) rfl rfl) ?_
   refine st (v := (I (w64 (k + 1)))) (rv_assign rfl) ?_
   refine w_end ?_
   refine q_then ?_
   refine c_seq ?_
   refine rg ?_
   replace hys := drop_set (e' := ((k, (p.1.2.1, p.2, p.1.2.2.2)) : Int × (Int × Value × Int))) hys
   rw [Int.toNat_natCast] at H
   generalize ys.set i ((k, (p.1.2.1, p.2, p.1.2.2.2)) : Int × (Int × Value × Int)) = ys at H hys
   have hx7 := gidx_drop hys
   refine st (v := (Sl aa_0 a_0 ca_0)) (rv_move rfl) ?_
   refine st (v := (I (i : Int))) (rv_move rfl) ?_
   refine st (v := (I (w64 (k + 1)))) (rv_move rfl) ?_
   obtain ⟨b9, o10, hi8, -⟩ := (H.own 0 rfl).ix hx7
   refine st (v := (pt b9 o10)) (rv_ix Try.underlying23 ti56 rfl rfl hi8) ?_
   refine st (v := (pt b9 (o10 + 1))) (rv_fieldAddr (off := 1) (ft := 36) Try.underlying56 rfl ti36 rfl rfl) ?_
   refine st (v := (pt b9 (o10 + 1 + 0))) (rv_fieldAddr (off := 0) (ft := 3) Try.underlying36 rfl ti3 rfl rfl) ?_
   refine st_exS (ex_store_own (e' := ((k, ((w64 (k + 1)), p.2, p.1.2.2.2)) : Int × (Int × Value × Int))) (vs := [(I (w64 (k + 1)))]) (k := 1) H (i := 0) rfl ti3 hx7 hi8 rfl rfl rfl rfl rfl (Nat.le_of_ble_eq_true rfl) (by simp [plain]) (by rintro _ ⟨_, _, rfl, rfl, ⟨_, _, rfl, rfl, ⟨_, _, rfl, ⟨rfl, hpl⟩, rfl⟩⟩⟩; exact ⟨[(I k)], [(I (w64 (k + 1))), p.2, (I p.1.2.2.2)], rfl, rfl, ⟨[(I (w64 (k + 1)))], [p.2, (I p.1.2.2.2)], rfl, rfl, ⟨[p.2], [(I p.1.2.2.2)], rfl, ⟨rfl, hpl⟩, rfl⟩⟩⟩)) (wanted_none _ rfl _) ?_
   rintro σ11 ⟨H, -⟩
   refine w_end ?_
   refine q_then ?_
   refine c_seq ?_
   refine rg ?_
   refine st (v := (I (w64 (k + 1)))) (rv_move rfl) ?_
   refine st (v := (I (w64 (w64 (k + 1) + 1)))) (rv_add (a := (w64 (k + 1))) (b := 1) rfl rfl) ?_
   refine st (v := (I (w64 (w64 (k + 1) + 1)))) (rv_assign rfl) ?_
   refine w_end ?_
   refine q_then ?_
   refine c_seq ?_
   refine rg ?_
   replace hys := drop_set (e' := ((k, ((w64 (k + 1)), p.2, p.1.2.2.2)) : Int × (Int × Value × Int))) hys
   rw [Int.toNat_natCast] at H
   generalize ys.set i ((k, ((w64 (k + 1)), p.2, p.1.2.2.2)) : Int × (Int × Value × Int)) = ys at H hys
   have hx7 := gidx_drop hys
   refine st (v := (Sl aa_0 a_0 ca_0)) (rv_move rfl) ?_
   refine st (v := (I (i : Int))) (rv_move rfl) ?_
   obtain ⟨b9, o10, hi8, -⟩ := (H.own 0 rfl).ix hx7
   refine st (v := (pt b9 o10)) (rv_ix Try.underlying23 ti56 rfl rfl hi8) ?_
   refine st (v := (pt b9 (o10 + 1))) (rv_fieldAddr (off := 1) (ft := 36) Try.underlying56 rfl ti36 rfl rfl) ?_
   refine st (v := (pt b9 (o10 + 1 + 1))) (rv_fieldAddr (off := 1) (ft := 24) Try.underlying36 rfl ti24 rfl rfl) ?_
   obtain ⟨_, ⟨_, _, rfl, rfl, ⟨_, _, rfl, rfl, ⟨_, _, rfl, ⟨rfl, hpl⟩, rfl⟩⟩⟩, hl18, hc19⟩ := ((H.own 0 rfl).at hx7 hi8).cells
   replace H := Hp.unbig (H.sel' [1, 0] rfl rfl)
   obtain ⟨a20, c21, h22⟩ : IsSl p.2 p.1.2.2.1.length := (show Ow σ11 lo lo p.2 p.1.2.2.1 from H.head).isSl
   obtain ⟨px, hd⟩ := p
   dsimp only at h22 hq hys hc19
   subst h22
   have hc20 := hc19 2 (by simp)
   refine st (v := (Sl a20 px.2.2.1 c21)) (rv_load1 Try.underlying24 rfl rfl hc20) ?_
   refine st (v := (I (w64 (w64 (k + 1) + 1)))) (rv_move rfl) ?_
   replace H : Hp S0 σ0 σ11 [Ch.own lo lo (Sl a20 px.2.2.1 c21) px.2.2.1, Ch.big (qs.map (dow lo)), Ch.own lo lo (Sl aa_0 a_0 ca_0) ys] := H
   replace H := H.ownSc 0 0 0 rfl (Nat.zero_le _)
   have hc25 := c_laws_markIntS (aa_0 := a20) (ca_0 := c21) hq
   refine st_call (cx_call hc25 (ent_f hc25.fn rfl) hn0 (H.sel' [0, 1, 2] rfl rfl : Hp S0 σ0 _ ([_] ++ _))) (wanted_none _ rfl _) ?_
   rintro _ σ29 ⟨_, ⟨rfl, rfl, -⟩, H, -⟩
   replace H : Hp S0 σ0 σ29 [Ch.own 0 0 (Sl a20 q.2 c21) q.2, Ch.big (qs.map (dow lo)), Ch.own lo lo (Sl aa_0 a_0 ca_0) ys] := H
   replace H := H.sel' [2, 1] rfl rfl
   refine st (v := (I q.1)) (rv_assign rfl) ?_
   refine w_end ?_
   refine q_then ?_
   refine c_seq ?_
   refine rg ?_
   refine st (v := (Sl aa_0 a_0 ca_0)) (rv_move rfl) ?_
   refine st (v := (I (i : Int))) (rv_move rfl) ?_
   refine st (v := (I q.1)) (rv_move rfl) ?_
   obtain ⟨b9, o10, hi8, -⟩ := (H.own 0 rfl).ix hx7
   refine st (v := (pt b9 o10)) (rv_ix Try.underlying23 ti56 rfl rfl hi8) ?_
   refine st (v := (pt b9 (o10 + 1))) (rv_fieldAddr (off := 1) (ft := 36) Try.underlying56 rfl ti36 rfl rfl) ?_
   refine st (v := (pt b9 (o10 + 1 + 2))) (rv_fieldAddr (off := 2) (ft := 3) Try.underlying36 rfl ti3 rfl rfl) ?_
   refine st_exS (ex_store_own (e' := ((k, ((w64 (k + 1)), (Sl a20 px.2.2.1 c21), q.1)) : Int × (Int × Value × Int))) (vs := [(I q.1)]) (k := 3) H (i := 0) rfl ti3 hx7 hi8 rfl rfl rfl rfl rfl (Nat.le_of_ble_eq_true rfl) (by simp [plain]) (by rintro _ ⟨_, _, rfl, rfl, ⟨_, _, rfl, rfl, ⟨_, _, rfl, ⟨rfl, hpl⟩, rfl⟩⟩⟩; exact ⟨[(I k)], [(I (w64 (k + 1))), (Sl a20 px.2.2.1 c21), (I q.1)], rfl, rfl, ⟨[(I (w64 (k + 1)))], [(Sl a20 px.2.2.1 c21), (I q.1)], rfl, rfl, ⟨[(Sl a20 px.2.2.1 c21)], [(I q.1)], rfl, ⟨rfl, hpl⟩, rfl⟩⟩⟩)) (wanted_none _ rfl _) ?_
   rintro σ30 ⟨H, -⟩
   refine w_end ?_
   refine q_then ?_
   refine rg ?_
   refine st (v := (I q.1)) (rv_move rfl) ?_
   refine st (v := (I (w64 (q.1 + 1)))) (rv_add (a := q.1) (b := 1) rfl rfl) ?_
   refine st (v := (I (w64 (q.1 + 1)))) (rv_assign rfl) ?_
   refine w_end ?_
   refine q_blk ?_
   refine q_then ?_
   refine rg ?_
   refine st (v := (I (i : Int))) (rv_move rfl) ?_
   refine st (v := (I (w64 ((i : Int) + 1)))) (rv_add (a := (i : Int)) (b := 1) rfl rfl) ?_
   refine st (v := (I (w64 ((i : Int) + 1)))) (rv_assign rfl) ?_
   refine w_end ?_
   have e1 : w64 ((i : Int) + 1) = ((i + 1 : Nat) : Int) := w64_id (by omega) (by omega)
   rw [e1]
   refine q_then ?_
   rw [Int.toNat_natCast] at H
   exact ⟨m, by omega, i + 1, _, σ30, _, qs, _, by omega, by simpa using hqs, drop_next (drop_set hys), hk', fr_join ⟨rfl, rfl, rfl, trivial⟩, rfl, H⟩
  ·have hlt : ¬ i < a_0.length := by have := of_decide_eq_false hb; omega
   obtain rfl : m = 0 := by omega
   obtain rfl : qs = [] := List.eq_nil_of_length_eq_zero hqs
   obtain rfl : k = r := Option.some.inj hk
   refine c_exit ?_
   refine q_then_x ?_
   refine q_then_x ?_
   refine q_blk_hit ?_
   exact ⟨rfl, _, σ3, fr_join ⟨rfl, trivial⟩, rfl, H.sel' [] rfl rfl⟩
 ·clear H
  rintro e a w ⟨rfl, ρ, σ41, rfl, rfl, H⟩
  refine q_then ?_
  refine c_seq ?_
  refine rg ?_
  refine st (v := (I r)) (rv_move rfl) ?_
  refine st (v := (I r)) (rv_assign rfl) ?_
  refine w_end ?_
  refine q_then ?_
  refine c_ret ?_
  exact fin_ret (v := (I r)) (results_ok Try.results59 (res_tmp (v := (I r)) rfl res_nil) rfl) ⟨rfl, rfl⟩ H


theorem c_laws_markHistory {a_0 : (List (Int × (Int × (List Int) × Int))) × (List Int)} {k_1 : Int} {aa_0_0 : Option Addr} {ca_0_0 : Nat} {loa_0_0 : Nat} {Ka_0_0 : List Ch} (hKa_0_0 : Dp loa_0_0 (Sl aa_0_0 a_0.1 ca_0_0) a_0.1 Ka_0_0) {aa_0_1 : Option Addr} {ca_0_1 : Nat} {r : Int × (List Int)} (h : M.laws_markHistory a_0 k_1 = some r) :
    Cal2 Try.prog 22 [(.agg #[(Sl aa_0_0 a_0.1 ca_0_0), (Sl aa_0_1 a_0.2 ca_0_1)]), (I k_1)] [Ch.big Ka_0_0, Ch.own 0 0 (Sl aa_0_1 a_0.2 ca_0_1) a_0.2] (fun n0 v L => v = (I r.1) ∧ L = [Ch.own 0 0 (Sl aa_0_1 r.2 ca_0_1) r.2] ∧ r.2.length = a_0.2.length) := by
 refine cal2 (n := 14) Try.func22 rfl rfl rfl rfl ?_
 intro S0 σ0 n0 hn0 H
 unfold M.laws_markHistory at h
 refine c_seq ?_
 refine rg ?_
 refine st_ex (ex_box (cs := [(Sl aa_0_0 a_0.1 ca_0_0), (Sl aa_0_1 a_0.2 ca_0_1)]) H hn0 rfl rfl) wn ?_
 rintro _ σ2 ⟨b1, rfl, H, -⟩
 refine st (v := (I 0)) (rv_assign rfl) ?_
 refine w_end ?_
 refine q_then ?_
 refine c_seq ?_
 refine rg ?_
 refine st (v := (pt b1 0)) (rv_fieldAddr (off := 0) (ft := 23) Try.underlying26 rfl ti23 rfl rfl) ?_
 have hc3 := H.cell (u := (Sl aa_0_0 a_0.1 ca_0_0)) (o' := 0) 0 0 rfl rfl rfl
 refine st (v := (Sl aa_0_0 a_0.1 ca_0_0)) (rv_load1 Try.underlying23 rfl rfl hc3) ?_
 refine st (v := (I k_1)) (rv_move rfl) ?_
 obtain ⟨r4, hx5, h'⟩ := bind_some h
 clear h
 have h := h'; clear h'
 have hc6 := c_laws_markEntryS (aa_0 := aa_0_0) (ca_0 := ca_0_0) (hK := hKa_0_0) hx5
 refine st_call (cx_call hc6 (ent_f hc6.fn rfl) hn0 (show Hp S0 σ0 _ ([Ch.big Ka_0_0] ++ [Ch.bx n0 b1 0 [(Sl aa_0_0 a_0.1 ca_0_0), (Sl aa_0_1 a_0.2 ca_0_1)] [] [], Ch.own 0 0 (Sl aa_0_1 a_0.2 ca_0_1) a_0.2]) from (H.sel' [1, 0, 2] rfl rfl))) wn ?_
 rintro _ σ7 ⟨_, ⟨rfl, rfl⟩, H, -⟩
 replace H : Hp S0 σ0 σ7 [Ch.bx n0 b1 0 [(Sl aa_0_0 a_0.1 ca_0_0), (Sl aa_0_1 a_0.2 ca_0_1)] [] [], Ch.own 0 0 (Sl aa_0_1 a_0.2 ca_0_1) a_0.2] := H
 refine st (v := (I r4)) (rv_assign rfl) ?_
 refine w_end ?_
 refine q_then ?_
 refine c_seq ?_
 refine rg ?_
 refine st (v := (pt b1 1)) (rv_fieldAddr (off := 1) (ft := 24) Try.underlying26 rfl ti24 rfl rfl) ?_
 have hc8 := H.cell (u := (Sl aa_0_1 a_0.2 ca_0_1)) (o' := 1) 0 1 rfl rfl rfl
 refine st (v := (Sl aa_0_1 a_0.2 ca_0_1)) (rv_load1 Try.underlying24 rfl rfl hc8) ?_
 refine st (v := (I r4)) (rv_move rfl) ?_
 obtain ⟨r9, hx10, h'⟩ := bind_some h
 clear h
 have h := h'; clear h'
 have hc11 := c_laws_markIntS (aa_0 := aa_0_1) (ca_0 := ca_0_1) hx10
 refine st_call (cx_call hc11 (ent_f hc11.fn rfl) hn0 (show Hp S0 σ0 _ ([Ch.own 0 0 (Sl aa_0_1 a_0.2 ca_0_1) a_0.2] ++ [Ch.bx n0 b1 0 [(Sl aa_0_0 a_0.1 ca_0_0), (Sl aa_0_1 a_0.2 ca_0_1)] [] []]) from (H.sel' [1, 0] rfl rfl))) wn ?_
 rintro _ σ13 ⟨_, ⟨rfl, rfl, hn12⟩, H, -⟩
 replace H : Hp S0 σ0 σ13 [Ch.own 0 0 (Sl aa_0_1 r9.2 ca_0_1) r9.2, Ch.bx n0 b1 0 [(Sl aa_0_0 a_0.1 ca_0_0), (Sl aa_0_1 a_0.2 ca_0_1)] [] []] := H
 have hsl : (Sl aa_0_1 a_0.2 ca_0_1) = (Sl aa_0_1 r9.2 ca_0_1) := sl_len hn12.symm
 try rw [hsl]
 try rw [hsl] at H
 clear hsl
 refine st (v := (I r9.1)) (rv_assign rfl) ?_
 refine w_end ?_
 refine q_then ?_
 refine c_seq ?_
 refine rg ?_
 refine st (v := (I r9.1)) (rv_move rfl) ?_
 refine st (v := (I r9.1)) (rv_assign rfl) ?_
 refine w_end ?_
 refine q_then ?_
 refine c_ret ?_
 obtain rfl := Option.some.inj h
 exact fin_ret (v := (I r9.1)) (results_ok Try.results22 (res_tmp (v := (I r9.1)) rfl res_nil) rfl) ⟨rfl, rfl, hn12⟩ (H.sel' [0] rfl rfl)

theorem c_laws_markItemS {a_0 : List (Int × (List Int) × Int)} {k_1 : Int} {aa_0 : Option Addr} {ca_0 : Nat} {lo : Nat} {K : List Ch} (hK : Dp lo (Sl aa_0 a_0 ca_0) a_0 K) {r : Int × List (Int × (List Int) × Int)} (h : M.markItemB a_0 k_1 = some r) :
    Cal2 Try.prog 23 [(Sl aa_0 a_0 ca_0), (I k_1)] [Ch.big K] (fun n0 v L => v = (I r.1) ∧ L = [Ch.ro 0 (Sl aa_0 r.2 ca_0) r.2] ∧ r.2.length = a_0.length) := by
 obtain ⟨hn, h⟩ := markItemB_some h
 obtain ⟨ps, hps, rfl⟩ := hK.ex
 refine cal2 (n := 34) Try.func23 rfl rfl rfl rfl ?_
 intro S0 σ0 n0 hn0 H
 refine c_seq ?_
 refine rg ?_
 refine st (v := (I 0)) (rv_assign rfl) ?_
 refine w_end ?_
 refine q_then ?_
 refine c_seq ?_
 refine c_seq ?_
 refine rg ?_
 refine st (v := (I 0)) (rv_assign rfl) ?_
 refine w_end ?_
 refine q_then ?_
 refine c_cut (fun e a w => e = .normal ∧ ∃ (ρ : Nat → Value) (σ : St) (ds : List ((Int × (List Int) × Int) × Value)), a = fr 34 (updL ρ [(1, (I r.1))]) ∧ w = σ.w ∧ ds.length = a_0.length ∧ ds.map (·.1) = r.2 ∧ Hp S0 σ0 σ [Ch.own lo lo (Sl aa_0 a_0 ca_0) (ds.map dsh), Ch.big (ds.map (dow 0))]) ?_ ?_
 ·refine c_blk ?_
  have hlen : ps.length = a_0.length := by rw [hps]; simp
  refine wp_loop_ghost (fun m a w => ∃ (i : Nat) (ρ : Nat → Value) (σ : St) (ds qs : List ((Int × (List Int) × Int) × Value)) (k : Int), i + m = a_0.length ∧ qs.length = m ∧ ds.length = i ∧ (∃ q, M.dmarkItemSB (qs.map (·.1)) k = some q ∧ r = (q.1, ds.map (·.1) ++ q.2)) ∧ a = fr 34 (updL ρ [(0, (Sl aa_0 a_0 ca_0)), (1, (I k)), (5, (I (i : Int)))]) ∧ w = σ.w ∧ Hp S0 σ0 σ [Ch.own lo lo (Sl aa_0 a_0 ca_0) (ds.map dsh ++ qs.map dsh), Ch.big (qs.map (dow lo)), Ch.big (ds.map (dow 0))]) a_0.length ⟨0, _, σ0, [], ps, k_1, by omega, hlen, rfl, ⟨r, hps ▸ h, rfl⟩, fr_join ⟨rfl, rfl, rfl, trivial⟩, rfl, H.unbig.bigNil.sel' [1, 2, 0] rfl rfl⟩ ?_
  clear H
  rintro m _ _ ⟨i, ρ, σ3, ds, qs, k, him, hqs, hds, ⟨q0, hk, hr⟩, rfl, rfl, H⟩
  have hdl : (ds.map (dsh : (Int × (List Int) × Int) × Value → Int × Value × Int)).length = i := by rw [List.length_map]; exact hds
  refine c_seq ?_
  refine c_seq ?_
  refine rg ?_
  refine st (v := (I (i : Int))) (rv_move rfl) ?_
  refine st (v := (Sl aa_0 a_0 ca_0)) (rv_move rfl) ?_
  refine st (v := (I (a_0.length : Int))) (rv_len Try.underlying32 rfl) ?_
  refine st (v := (B (decide ((i : Int) < (a_0.length : Int))))) (rv_lss (a := (i : Int)) (b := (a_0.length : Int)) rfl rfl) ?_
  refine w_end ?_
  refine q_then ?_
  refine cd_cond (decide ((i : Int) < (a_0.length : Int))) rfl (fun hb => ?_) (fun hb => ?_)
  ·have hlt : i < a_0.length := by have := of_decide_eq_true hb; omega
   obtain ⟨m, rfl⟩ : ∃ m', m = m' + 1 := ⟨m - 1, by omega⟩
   obtain ⟨p, qs, rfl⟩ : ∃ p qs', qs = p :: qs' := by cases qs with
    | nil => cases hqs
    | cons p qs => exact ⟨p, qs, rfl⟩
   obtain ⟨q, hq, h1⟩ := bind_some (show (M.laws_markIntS p.1.2.1 (w64 (k + 1))).bind (fun q => (M.dmarkItemSB (qs.map (·.1)) (w64 (q.1 + 1))).bind fun t => some (t.1, (k, q.2, q.1) :: t.2)) = some q0 from hk)
   obtain ⟨t, ht, h2⟩ := bind_some h1
   obtain rfl := Option.some.inj h2
   replace H : Hp S0 σ0 σ3 [Ch.own lo lo (Sl aa_0 a_0 ca_0) (ds.map dsh ++ dsh p :: qs.map dsh), Ch.big (dow lo p :: qs.map (dow lo)), Ch.big (ds.map (dow 0))] := H
   refine c_skip ?_
   refine q_then ?_
   refine c_seq ?_
   refine c_blk ?_
   refine c_seq ?_
   refine rg ?_
   refine st (v := (Sl aa_0 a_0 ca_0)) (rv_move rfl) ?_
   refine st (v := (I (i : Int))) (rv_move rfl) ?_
   refine st (v := (I k)) (rv_move rfl) ?_
   have hx7 : gidx (ds.map dsh ++ dsh p :: qs.map dsh) (i : Int) = some (dsh p : Int × Value × Int) := gidx_mid hdl
   obtain ⟨b9, o10, hi8, -⟩ := (H.own 0 rfl).ix hx7
   refine st (v := (pt b9 o10)) (rv_ix Try.underlying32 ti36 rfl rfl hi8) ?_
   refine st (v := (pt b9 (o10 + 0))) (rv_fieldAddr (off := 0) (ft := 3) Try.underlying36 rfl ti3 rfl rfl) ?_
   refine st_exS (ex_store_own (e' := ((k, p.2, p.1.2.2) : Int × Value × Int)) (vs := [(I k)]) (k := 0) H (i := 0) rfl ti3 hx7 hi8 rfl rfl rfl rfl rfl (Nat.le_of_ble_eq_true rfl) (by simp [plain]) (by rintro _ ⟨_, _, rfl, rfl, ⟨_, _, rfl, ⟨rfl, hpl⟩, rfl⟩⟩; exact ⟨[(I k)], [p.2, (I p.1.2.2)], rfl, rfl, ⟨[p.2], [(I p.1.2.2)], rfl, ⟨rfl, hpl⟩, rfl⟩⟩)) (wanted_none _ rfl _) ?_
   rintro σ11 ⟨H, -⟩
   refine w_end ?_
   refine q_then ?_
   refine c_seq ?_
   refine rg ?_
   refine st (v := (I k)) (rv_move rfl) ?_
   refine st (v := (I (w64 (k + 1)))) (rv_add (a := k) (b := 1) rfl rfl) ?_
   refine st (v := (I (w64 (k + 1)))) (rv_assign rfl) ?_
   refine w_end ?_
   refine q_then ?_
   refine c_seq ?_
   refine rg ?_
   rw [Int.toNat_natCast, set_mid hdl] at H
   have hx7 : gidx (ds.map dsh ++ ((k, p.2, p.1.2.2) : Int × Value × Int) :: qs.map dsh) (i : Int) = some ((k, p.2, p.1.2.2) : Int × Value × Int) := gidx_mid hdl
   refine st (v := (Sl aa_0 a_0 ca_0)) (rv_move rfl) ?_
   refine st (v := (I (i : Int))) (rv_move rfl) ?_
   obtain ⟨b9, o10, hi8, -⟩ := (H.own 0 rfl).ix hx7
   refine st (v := (pt b9 o10)) (rv_ix Try.underlying32 ti36 rfl rfl hi8) ?_
   refine st (v := (pt b9 (o10 + 1))) (rv_fieldAddr (off := 1) (ft := 24) Try.underlying36 rfl ti24 rfl rfl) ?_
   obtain ⟨_, ⟨_, _, rfl, rfl, ⟨_, _, rfl, ⟨rfl, hpl⟩, rfl⟩⟩, hl18, hc19⟩ := ((H.own 0 rfl).at hx7 hi8).cells
   replace H := Hp.unbig (H.sel' [1, 0, 2] rfl rfl)
   obtain ⟨a20, c21, h22⟩ : IsSl p.2 p.1.2.1.length := (show Ow σ11 lo lo p.2 p.1.2.1 from H.head).isSl
   obtain ⟨px, hd⟩ := p
   dsimp only at h22 hq hx7 hc19
   subst h22
   have hc20 := hc19 1 (by simp)
   refine st (v := (Sl a20 px.2.1 c21)) (rv_load1 Try.underlying24 rfl rfl hc20) ?_
   refine st (v := (I (w64 (k + 1)))) (rv_move rfl) ?_
   replace H : Hp S0 σ0 σ11 [Ch.own lo lo (Sl a20 px.2.1 c21) px.2.1, Ch.big (qs.map (dow lo)), Ch.own lo lo (Sl aa_0 a_0 ca_0) (ds.map dsh ++ ((k, (Sl a20 px.2.1 c21), px.2.2) : Int × Value × Int) :: qs.map dsh), Ch.big (ds.map (dow 0))] := H
   replace H := H.ownSc 0 0 0 rfl (Nat.zero_le _)
   have hc25 := c_laws_markIntS (aa_0 := a20) (ca_0 := c21) hq
   refine st_call (cx_call hc25 (ent_f hc25.fn rfl) hn0 (H.sel' [0, 1, 2, 3] rfl rfl : Hp S0 σ0 _ ([_] ++ _))) (wanted_none _ rfl _) ?_
   rintro _ σ29 ⟨_, ⟨rfl, rfl, hn⟩, H, -⟩
   replace H : Hp S0 σ0 σ29 [Ch.own 0 0 (Sl a20 q.2 c21) q.2, Ch.big (qs.map (dow lo)), Ch.own lo lo (Sl aa_0 a_0 ca_0) (ds.map dsh ++ ((k, (Sl a20 px.2.1 c21), px.2.2) : Int × Value × Int) :: qs.map dsh), Ch.big (ds.map (dow 0))] := H
   replace H := H.sel' [2, 1, 0, 3] rfl rfl
   refine st (v := (I q.1)) (rv_assign rfl) ?_
   refine w_end ?_
   refine q_then ?_
   refine c_seq ?_
   refine rg ?_
   refine st (v := (Sl aa_0 a_0 ca_0)) (rv_move rfl) ?_
   refine st (v := (I (i : Int))) (rv_move rfl) ?_
   refine st (v := (I q.1)) (rv_move rfl) ?_
   obtain ⟨b9, o10, hi8, -⟩ := (H.own 0 rfl).ix hx7
   refine st (v := (pt b9 o10)) (rv_ix Try.underlying32 ti36 rfl rfl hi8) ?_
   refine st (v := (pt b9 (o10 + 2))) (rv_fieldAddr (off := 2) (ft := 3) Try.underlying36 rfl ti3 rfl rfl) ?_
   refine st_exS (ex_store_own (e' := ((k, (Sl a20 px.2.1 c21), q.1) : Int × Value × Int)) (vs := [(I q.1)]) (k := 2) H (i := 0) rfl ti3 hx7 hi8 rfl rfl rfl rfl rfl (Nat.le_of_ble_eq_true rfl) (by simp [plain]) (by rintro _ ⟨_, _, rfl, rfl, ⟨_, _, rfl, ⟨rfl, hpl⟩, rfl⟩⟩; exact ⟨[(I k)], [(Sl a20 px.2.1 c21), (I q.1)], rfl, rfl, ⟨[(Sl a20 px.2.1 c21)], [(I q.1)], rfl, ⟨rfl, hpl⟩, rfl⟩⟩)) (wanted_none _ rfl _) ?_
   rintro σ30 ⟨H, -⟩
   refine w_end ?_
   refine q_then ?_
   refine rg ?_
   refine st (v := (I q.1)) (rv_move rfl) ?_
   refine st (v := (I (w64 (q.1 + 1)))) (rv_add (a := q.1) (b := 1) rfl rfl) ?_
   refine st (v := (I (w64 (q.1 + 1)))) (rv_assign rfl) ?_
   refine w_end ?_
   refine q_blk ?_
   refine q_then ?_
   refine rg ?_
   refine st (v := (I (i : Int))) (rv_move rfl) ?_
   refine st (v := (I (w64 ((i : Int) + 1)))) (rv_add (a := (i : Int)) (b := 1) rfl rfl) ?_
   refine st (v := (I (w64 ((i : Int) + 1)))) (rv_assign rfl) ?_
   refine w_end ?_
   have e1 : w64 ((i : Int) + 1) = ((i + 1 : Nat) : Int) := w64_id (by omega) (by omega)
   rw [e1]
   refine q_then ?_
   have hsl : ((k, (Sl a20 px.2.1 c21), q.1) : Int × Value × Int) = dsh (((k, q.2, q.1) : Int × (List Int) × Int), (Sl a20 q.2 c21)) := congrArg (fun z => ((k, z, q.1) : Int × Value × Int)) (sl_len hn.symm)
   rw [Int.toNat_natCast, set_mid hdl, hsl] at H
   replace H := Hp.bigSnoc (H.sel' [2, 3, 1, 0] rfl rfl)
   replace H := H.sel' [2, 1, 0] rfl rfl
   refine ⟨m, by omega, i + 1, _, σ30, ds ++ [(((k, q.2, q.1) : Int × (List Int) × Int), (Sl a20 q.2 c21))], qs, _, by omega, by simpa using hqs, by simp [hds], ⟨t, ht, by rw [hr]; simp⟩, fr_join ⟨rfl, rfl, rfl, trivial⟩, rfl, ?_⟩
   rw [List.map_append, List.map_append, List.append_assoc]
   exact H
  ·have hlt : ¬ i < a_0.length := by have := of_decide_eq_false hb; omega
   obtain rfl : m = 0 := by omega
   obtain rfl : qs = [] := List.eq_nil_of_length_eq_zero hqs
   obtain rfl : (k, []) = q0 := Option.some.inj hk
   obtain rfl : k = r.1 := by rw [hr]
   have hr2 : ds.map (·.1) = r.2 := by rw [hr]; simp
   refine c_exit ?_
   refine q_then_x ?_
   refine q_then_x ?_
   refine q_blk_hit ?_
   rw [List.map_nil, List.append_nil] at H
   exact ⟨rfl, _, σ3, ds, fr_join ⟨rfl, trivial⟩, rfl, by omega, hr2, H.sel' [0, 2] rfl rfl⟩
 ·clear H
  rintro e a w ⟨rfl, ρ, σ41, ds, rfl, rfl, hdl, hds, H⟩
  have hlen : r.2.length = a_0.length := by rw [← hds, List.length_map]; exact hdl
  refine q_then ?_
  refine c_seq ?_
  refine rg ?_
  refine st (v := (I r.1)) (rv_move rfl) ?_
  refine st (v := (I r.1)) (rv_assign rfl) ?_
  refine w_end ?_
  refine q_then ?_
  refine c_ret ?_
  replace H := (H.ownLow 0 0 0 rfl (Nat.zero_le _) (Nat.zero_le _)).bigCons
  rw [show (Sl aa_0 a_0 ca_0) = (Sl aa_0 r.2 ca_0) from sl_len hlen.symm] at H
  obtain ⟨σ42, hw, H, -⟩ := H.dpPub 0 rfl (⟨⟨ds, hds.symm, rfl⟩⟩ : Dp 0 (Sl aa_0 r.2 ca_0) r.2 _)
  rw [← hw]
  exact fin_ret (v := (I r.1)) (results_ok Try.results23 (res_tmp (v := (I r.1)) rfl res_nil) rfl) ⟨rfl, rfl, hlen⟩ H


theorem c_laws_heldIntS {a_0 : List Int} {k_1 : Int} {aa_0 : Option Addr} {ca_0 : Nat} {r : Int} (h : M.laws_heldIntS a_0 k_1 = some r) :
    Cal2 Try.prog 36 [(Sl aa_0 a_0 ca_0), (I k_1)] [Ch.ro 0 (Sl aa_0 a_0 ca_0) a_0] (fun n0 v L => v = (I r) ∧ L = []) := by
 refine cal2 (n := 21) Try.func36 rfl rfl rfl rfl ?_
 intro S0 σ0 n0 hn0 H
 unfold M.laws_heldIntS at h
 refine c_seq ?_
 refine rg ?_
 refine st (v := (I 0)) (rv_assign rfl) ?_
 refine w_end ?_
 refine q_then ?_
 refine c_seq ?_
 refine c_seq ?_
 refine rg ?_
 refine st (v := (I 0)) (rv_assign rfl) ?_
 refine w_end ?_
 refine q_then ?_
 obtain ⟨o1, hj, h'⟩ := bind_some h
 clear h
 refine c_cut (fun e a w => (∃ t, o1 = (.inl t) ∧ e = .normal ∧ ∃ (ρ : Nat → Value) (σ : St), a = fr 21 (updL ρ [(1, (I t))]) ∧ w = σ.w ∧ Hp S0 σ0 σ []) ∨ (∃ t, o1 = (.inr t) ∧ e = .ret ∧ ∃ (ρ : Nat → Value) (σ : St), a = fr 21 (updL ρ [(4, (I t))]) ∧ w = σ.w ∧ Hp S0 σ0 σ [])) ?_ ?_
 ·clear h'
  rename _ = some o1 => h
  refine c_blk ?_
  refine wp_loopM _ h (fun s2 a w => ∃ (ρ : Nat → Value) (σ : St), a = fr 21 (updL ρ [(0, (Sl aa_0 a_0 ca_0)), (1, (I s2.1)), (5, (I s2.2))]) ∧ w = σ.w ∧ Hp S0 σ0 σ [Ch.ro 0 (Sl aa_0 a_0 ca_0) a_0]) ⟨_, σ0, fr_join ⟨rfl, rfl, rfl, trivial⟩, rfl, H.sel' [0] rfl rfl⟩ ?_
  clear h H
  rintro s2 a w o ⟨ρ, σ3, rfl, rfl, H⟩ h hres
  refine c_seq ?_
  refine c_seq ?_
  refine rg ?_
  refine st (v := (I s2.2)) (rv_move rfl) ?_
  refine st (v := (Sl aa_0 a_0 ca_0)) (rv_move rfl) ?_
  refine st (v := (I (a_0.length : Int))) (rv_len Try.underlying24 rfl) ?_
  refine st (v := (B (decide (s2.2 < (a_0.length : Int))))) (rv_lss (a := s2.2) (b := (a_0.length : Int)) rfl rfl) ?_
  refine w_end ?_
  refine q_then ?_
  refine cd_cond (decide (s2.2 < (a_0.length : Int))) rfl (fun hb4 => ?_) (fun hb4 => ?_)
  ·replace h := bif_t hb4 h
   refine c_skip ?_
   refine q_then ?_
   refine c_seq ?_
   refine c_blk ?_
   refine c_seq ?_
   refine c_seq ?_
   refine rg ?_
   refine st (v := (Sl aa_0 a_0 ca_0)) (rv_move rfl) ?_
   refine st (v := (I s2.2)) (rv_move rfl) ?_
   obtain ⟨x5, hx6, h'⟩ := bind_some h
   clear h
   have h := h'; clear h'
   obtain ⟨b8, o9, hi7, -⟩ := (H.ro 0 rfl).ix hx6
   refine st (v := (pt b8 o9)) (rv_ix Try.underlying24 ti3 rfl rfl hi7) ?_
   have hc10 := ((H.ro 0 rfl).at hx6 hi7).int
   refine st (v := (I x5)) (rv_load1 Try.underlying3 rfl rfl hc10) ?_
   refine st (v := (I s2.1)) (rv_move rfl) ?_
   refine st (v := (B (x5 != s2.1))) (rv_neq (a := x5) (b := s2.1) rfl rfl) ?_
   refine w_end ?_
   refine q_then ?_
   refine cd_cond (x5 != s2.1) rfl (fun hb11 => ?_) (fun hb11 => ?_)
   ·replace h := bif_t hb11 h
    refine c_seq ?_
    refine rg ?_
    refine st (v := (I (-1))) (rv_assign rfl) ?_
    refine w_end ?_
    refine q_then ?_
    refine c_ret ?_
    refine q_then_r ?_
    refine q_blk_r ?_
    refine q_then_r ?_
    refine q_then_r ?_
    refine q_blk_r ?_
    obtain rfl := Option.some.inj h
    obtain rfl := hres _ rfl
    exact .inr (⟨_, rfl, rfl, _, σ3, fr_join ⟨rfl, trivial⟩, rfl, H.sel' [] rfl rfl⟩)
   ·replace h := bif_f hb11 h
    refine c_skip ?_
    refine q_then ?_
    refine rg ?_
    refine st (v := (I s2.1)) (rv_move rfl) ?_
    refine st (v := (I (w64 (s2.1 + 1)))) (rv_add (a := s2.1) (b := 1) rfl rfl) ?_
    refine st (v := (I (w64 (s2.1 + 1)))) (rv_assign rfl) ?_
    refine w_end ?_
    refine q_blk ?_
    refine q_then ?_
    refine rg ?_
    refine st (v := (I s2.2)) (rv_move rfl) ?_
    refine st (v := (I (w64 (s2.2 + 1)))) (rv_add (a := s2.2) (b := 1) rfl rfl) ?_
    refine st (v := (I (w64 (s2.2 + 1)))) (rv_assign rfl) ?_
    refine w_end ?_
    refine q_then ?_
    obtain rfl := Option.some.inj h
    exact ⟨_, rfl, _, σ3, fr_join ⟨rfl, rfl, rfl, trivial⟩, rfl, H.sel' [0] rfl rfl⟩
  ·replace h := bif_f hb4 h
   refine c_exit ?_
   refine q_then_x ?_
   refine q_then_x ?_
   refine q_blk_hit ?_
   obtain rfl := Option.some.inj h
   obtain rfl := hres _ rfl
   exact .inl ⟨_, rfl, rfl, _, σ3, fr_join ⟨rfl, trivial⟩, rfl, H.sel' [] rfl rfl⟩
 ·clear hj
  have h := h'
  clear h' H
  rintro e a w (⟨t12, rfl, rfl, ρ, σ13, rfl, rfl, H⟩ | ⟨t14, rfl, rfl, ρ, σ15, rfl, rfl, H⟩)
  ·replace h := selim_l h
   refine q_then ?_
   refine c_seq ?_
   refine rg ?_
   refine st (v := (I t12)) (rv_move rfl) ?_
   refine st (v := (I t12)) (rv_assign rfl) ?_
   refine w_end ?_
   refine q_then ?_
   refine c_ret ?_
   obtain rfl := Option.some.inj h
   exact fin_ret (v := (I t12)) (results_ok Try.results36 (res_tmp (v := (I t12)) rfl res_nil) rfl) ⟨rfl, rfl⟩ (H.sel' [] rfl rfl)
  ·replace h := selim_r h
   refine q_then_r ?_
   obtain rfl := Option.some.inj h
   exact fin_ret (v := (I t14)) (results_ok Try.results36 (res_tmp (v := (I t14)) rfl res_nil) rfl) ⟨rfl, rfl⟩ (H.sel' [] rfl rfl)

theorem c_laws_heldItemS {a_0 : List (Int × (List Int) × Int)} {k_1 : Int} {aa_0 : Option Addr} {ca_0 : Nat} {r : Int} (h : M.laws_heldItemS a_0 k_1 = some r) :
    Cal2 Try.prog 24 [(Sl aa_0 a_0 ca_0), (I k_1)] [Ch.ro 0 (Sl aa_0 a_0 ca_0) a_0] (fun n0 v L => v = (I r) ∧ L = []) := by
 refine cal2 (n := 40) Try.func24 rfl rfl rfl rfl ?_
 intro S0 σ0 n0 hn0 H
 unfold M.laws_heldItemS at h
 refine c_seq ?_
 refine rg ?_
 refine st (v := (I 0)) (rv_assign rfl) ?_
 refine w_end ?_
 refine q_then ?_
 refine c_seq ?_
 refine c_seq ?_
 refine rg ?_
 refine st (v := (I 0)) (rv_assign rfl) ?_
 refine w_end ?_
 refine q_then ?_
 obtain ⟨o1, hj, h'⟩ := bind_some h
 clear h
 refine c_cut (fun e a w => (∃ t, o1 = (.inl t) ∧ e = .normal ∧ ∃ (ρ : Nat → Value) (σ : St), a = fr 40 (updL ρ [(1, (I t))]) ∧ w = σ.w ∧ Hp S0 σ0 σ []) ∨ (∃ t, o1 = (.inr t) ∧ e = .ret ∧ ∃ (ρ : Nat → Value) (σ : St), a = fr 40 (updL ρ [(4, (I t))]) ∧ w = σ.w ∧ Hp S0 σ0 σ [])) ?_ ?_
 ·clear h'
  rename _ = some o1 => h
  refine c_blk ?_
  refine wp_loopM _ h (fun s2 a w => ∃ (ρ : Nat → Value) (σ : St), a = fr 40 (updL ρ [(0, (Sl aa_0 a_0 ca_0)), (1, (I s2.1)), (5, (I s2.2))]) ∧ w = σ.w ∧ Hp S0 σ0 σ [Ch.ro 0 (Sl aa_0 a_0 ca_0) a_0]) ⟨_, σ0, fr_join ⟨rfl, rfl, rfl, trivial⟩, rfl, H.sel' [0] rfl rfl⟩ ?_
  clear h H
  rintro s2 a w o ⟨ρ, σ3, rfl, rfl, H⟩ h hres
  refine c_seq ?_
  refine c_seq ?_
  refine rg ?_
  refine st (v := (I s2.2)) (rv_move rfl) ?_
  refine st (v := (Sl aa_0 a_0 ca_0)) (rv_move rfl) ?_
  refine st (v := (I (a_0.length : Int))) (rv_len Try.underlying32 rfl) ?_
  refine st (v := (B (decide (s2.2 < (a_0.length : Int))))) (rv_lss (a := s2.2) (b := (a_0.length : Int)) rfl rfl) ?_
  refine w_end ?_
  refine q_then ?_
  refine cd_cond (decide (s2.2 < (a_0.length : Int))) rfl (fun hb4 => ?_) (fun hb4 => ?_)
  ·replace h := bif_t hb4 h
   refine c_skip ?_
   refine q_then ?_
   refine c_seq ?_
   refine c_blk ?_
   refine c_seq ?_
   refine c_seq ?_
   refine rg ?_
   refine st (v := (Sl aa_0 a_0 ca_0)) (rv_move rfl) ?_
   refine st (v := (I s2.2)) (rv_move rfl) ?_
   obtain ⟨x5, hx6, h'⟩ := bind_some h
   clear h
   have h := h'; clear h'
   obtain ⟨b8, o9, hi7, -⟩ := (H.ro 0 rfl).ix hx6
   refine st (v := (pt b8 o9)) (rv_ix Try.underlying32 ti36 rfl rfl hi7) ?_
   refine st (v := (pt b8 (o9 + 0))) (rv_fieldAddr (off := 0) (ft := 3) Try.underlying36 rfl ti3 rfl rfl) ?_
   have hc10 := ((H.ro 0 rfl).at hx6 hi7).fst.int
   refine st (v := (I x5.1)) (rv_load1 Try.underlying3 rfl rfl hc10) ?_
   refine st (v := (I s2.1)) (rv_move rfl) ?_
   refine st (v := (B (x5.1 != s2.1))) (rv_neq (a := x5.1) (b := s2.1) rfl rfl) ?_
   refine w_end ?_
   refine q_then ?_
   refine cd_cond (x5.1 != s2.1) rfl (fun hb11 => ?_) (fun hb11 => ?_)
   ·replace h := bif_t hb11 h
    refine c_seq ?_
    refine rg ?_
    refine st (v := (I (-1))) (rv_assign rfl) ?_
    refine w_end ?_
    refine q_then ?_
    refine c_ret ?_
    refine q_then_r ?_
    refine q_blk_r ?_
    refine q_then_r ?_
    refine q_then_r ?_
    refine q_blk_r ?_
    obtain rfl := Option.some.inj h
    obtain rfl := hres _ rfl
    exact .inr (⟨_, rfl, rfl, _, σ3, fr_join ⟨rfl, trivial⟩, rfl, H.sel' [] rfl rfl⟩)
   ·replace h := bif_f hb11 h
    refine c_skip ?_
    refine q_then ?_
    refine c_seq ?_
    refine rg ?_
    refine st (v := (I s2.1)) (rv_move rfl) ?_
    refine st (v := (I (w64 (s2.1 + 1)))) (rv_add (a := s2.1) (b := 1) rfl rfl) ?_
    refine st (v := (I (w64 (s2.1 + 1)))) (rv_assign rfl) ?_
    refine w_end ?_
    refine q_then ?_
    refine c_seq ?_
    refine rg ?_
    refine st (v := (Sl aa_0 a_0 ca_0)) (rv_move rfl) ?_
    refine st (v := (I s2.2)) (rv_move rfl) ?_
    obtain ⟨x12, hx13, h'⟩ := bind_some h
    clear h
    have h := h'; clear h'
    obtain ⟨b15, o16, hi14, -⟩ := (H.ro 0 rfl).ix hx13
    refine st (v := (pt b15 o16)) (rv_ix Try.underlying32 ti36 rfl rfl hi14) ?_
    refine st (v := (pt b15 (o16 + 1))) (rv_fieldAddr (off := 1) (ft := 24) Try.underlying36 rfl ti24 rfl rfl) ?_
    obtain ⟨v20, hc21, hR19⟩ := ((H.ro 0 rfl).at hx13 hi14).snd.fst.slice
    obtain ⟨a17, c18, rfl⟩ := hR19.isSl
    replace H := H.add (d := Ch.ro 0 (Sl a17 x12.2.1 c18) x12.2.1) hR19 (fun _ h => h)
    clear hR19
    refine st (v := (Sl a17 x12.2.1 c18)) (rv_load1 Try.underlying24 rfl rfl hc21) ?_
    refine st (v := (I (w64 (s2.1 + 1)))) (rv_move rfl) ?_
    obtain ⟨r22, hx23, h'⟩ := bind_some h
    clear h
    have h := h'; clear h'
    have hc24 := c_laws_heldIntS (aa_0 := a17) (ca_0 := c18) hx23
    refine st_call (cx_call hc24 (ent_f hc24.fn rfl) hn0 (show Hp S0 σ0 _ ([Ch.ro 0 (Sl a17 x12.2.1 c18) x12.2.1] ++ [Ch.ro 0 (Sl a17 x12.2.1 c18) x12.2.1, Ch.ro 0 (Sl aa_0 a_0 ca_0) a_0]) from (H.sel' [0, 0, 1] rfl rfl))) wn ?_
    rintro _ σ25 ⟨_, ⟨rfl, rfl⟩, H, -⟩
    replace H : Hp S0 σ0 σ25 [Ch.ro 0 (Sl a17 x12.2.1 c18) x12.2.1, Ch.ro 0 (Sl aa_0 a_0 ca_0) a_0] := H
    refine st (v := (I r22)) (rv_assign rfl) ?_
    refine w_end ?_
    refine q_then ?_
    refine c_seq ?_
    refine c_seq ?_
    refine rg ?_
    refine st (v := (I r22)) (rv_move rfl) ?_
    refine st (v := (B (decide (r22 < 0)))) (rv_lss (a := r22) (b := 0) rfl rfl) ?_
    refine w_end ?_
    refine q_then ?_
    refine cd_cond (decide (r22 < 0)) rfl (fun hb26 => ?_) (fun hb26 => ?_)
    ·replace h := bif_t hb26 h
     refine c_seq ?_
     refine rg ?_
     refine st (v := (I (-1))) (rv_assign rfl) ?_
     refine w_end ?_
     refine q_then ?_
     refine c_ret ?_
     refine q_then_r ?_
     refine q_blk_r ?_
     refine q_then_r ?_
     refine q_then_r ?_
     refine q_blk_r ?_
     obtain rfl := Option.some.inj h
     obtain rfl := hres _ rfl
     exact .inr (⟨_, rfl, rfl, _, σ25, fr_join ⟨rfl, trivial⟩, rfl, H.sel' [] rfl rfl⟩)
    ·replace h := bif_f hb26 h
     refine c_skip ?_
     refine q_then ?_
     refine c_seq ?_
     refine c_seq ?_
     refine rg ?_
     refine st (v := (Sl aa_0 a_0 ca_0)) (rv_move rfl) ?_
     refine st (v := (I s2.2)) (rv_move rfl) ?_
     obtain ⟨x27, hx28, h'⟩ := bind_some h
     clear h
     have h := h'; clear h'
     obtain ⟨b30, o31, hi29, -⟩ := (H.ro 1 rfl).ix hx28
     refine st (v := (pt b30 o31)) (rv_ix Try.underlying32 ti36 rfl rfl hi29) ?_
     refine st (v := (pt b30 (o31 + 2))) (rv_fieldAddr (off := 2) (ft := 3) Try.underlying36 rfl ti3 rfl rfl) ?_
     have hc32 := ((H.ro 1 rfl).at hx28 hi29).snd.snd.int
     refine st (v := (I x27.2.2)) (rv_load1 Try.underlying3 rfl rfl hc32) ?_
     refine st (v := (I r22)) (rv_move rfl) ?_
     refine st (v := (B (x27.2.2 != r22))) (rv_neq (a := x27.2.2) (b := r22) rfl rfl) ?_
     refine w_end ?_
     refine q_then ?_
     refine cd_cond (x27.2.2 != r22) rfl (fun hb33 => ?_) (fun hb33 => ?_)
     ·replace h := bif_t hb33 h
      refine c_seq ?_
      refine rg ?_
      refine st (v := (I (-1))) (rv_assign rfl) ?_
      refine w_end ?_
      refine q_then ?_
      refine c_ret ?_
      refine q_then_r ?_
      refine q_blk_r ?_
      refine q_then_r ?_
      refine q_then_r ?_
      refine q_blk_r ?_
      obtain rfl := Option.some.inj h
      obtain rfl := hres _ rfl
      exact .inr (⟨_, rfl, rfl, _, σ25, fr_join ⟨rfl, trivial⟩, rfl, H.sel' [] rfl rfl⟩)
     ·replace h := bif_f hb33 h
      refine c_skip ?_
      refine q_then ?_
      refine rg ?_
      refine st (v := (I r22)) (rv_move rfl) ?_
      refine st (v := (I (w64 (r22 + 1)))) (rv_add (a := r22) (b := 1) rfl rfl) ?_
      refine st (v := (I (w64 (r22 + 1)))) (rv_assign rfl) ?_
      refine w_end ?_
      refine q_blk ?_
      refine q_then ?_
      refine rg ?_
      refine st (v := (I s2.2)) (rv_move rfl) ?_
      refine st (v := (I (w64 (s2.2 + 1)))) (rv_add (a := s2.2) (b := 1) rfl rfl) ?_
      refine st (v := (I (w64 (s2.2 + 1)))) (rv_assign rfl) ?_
      refine w_end ?_
      refine q_then ?_
      obtain rfl := Option.some.inj h
      exact ⟨_, rfl, _, σ25, fr_join ⟨rfl, rfl, rfl, trivial⟩, rfl, H.sel' [1] rfl rfl⟩
  ·replace h := bif_f hb4 h
   refine c_exit ?_
   refine q_then_x ?_
   refine q_then_x ?_
   refine q_blk_hit ?_
   obtain rfl := Option.some.inj h
   obtain rfl := hres _ rfl
   exact .inl ⟨_, rfl, rfl, _, σ3, fr_join ⟨rfl, trivial⟩, rfl, H.sel' [] rfl rfl⟩
 ·clear hj
  have h := h'
  clear h' H
  rintro e a w (⟨t34, rfl, rfl, ρ, σ35, rfl, rfl, H⟩ | ⟨t36, rfl, rfl, ρ, σ37, rfl, rfl, H⟩)
  ·replace h := selim_l h
   refine q_then ?_
   refine c_seq ?_
   refine rg ?_
   refine st (v := (I t34)) (rv_move rfl) ?_
   refine st (v := (I t34)) (rv_assign rfl) ?_
   refine w_end ?_
   refine q_then ?_
   refine c_ret ?_
   obtain rfl := Option.some.inj h
   exact fin_ret (v := (I t34)) (results_ok Try.results24 (res_tmp (v := (I t34)) rfl res_nil) rfl) ⟨rfl, rfl⟩ (H.sel' [] rfl rfl)
  ·replace h := selim_r h
   refine q_then_r ?_
   obtain rfl := Option.some.inj h
   exact fin_ret (v := (I t36)) (results_ok Try.results24 (res_tmp (v := (I t36)) rfl res_nil) rfl) ⟨rfl, rfl⟩ (H.sel' [] rfl rfl)

theorem c_laws_FnExactStoreAt {aH_0 : (List (Int × (Int × (List Int) × Int))) × (List Int)} {aT_1 : Int} {aaH_0_0 : Option Addr} {caH_0_0 : Nat} {aaH_0_1 : Option Addr} {caH_0_1 : Nat} {r : Bool} (h : M.laws_FnExactStoreAt aH_0 aT_1 = some r) :
    Cal2 Try.prog 5 [(.agg #[(Sl aaH_0_0 aH_0.1 caH_0_0), (Sl aaH_0_1 aH_0.2 caH_0_1)]), (I aT_1)] [Ch.ro 0 (Sl aaH_0_0 aH_0.1 caH_0_0) aH_0.1, Ch.ro 0 (Sl aaH_0_1 aH_0.2 caH_0_1) aH_0.2] (fun n0 v L => v = (B r) ∧ L = []) := by
 refine cal2 (n := 74) Try.func5 rfl rfl rfl rfl ?_
 intro S0 σ0 n0 hn0 H
 unfold M.laws_FnExactStoreAt at h
 refine c_seq ?_
 refine rg ?_
 refine st_ex (ex_box (cs := [(Sl aaH_0_0 aH_0.1 caH_0_0), (Sl aaH_0_1 aH_0.2 caH_0_1)]) H hn0 rfl rfl) wn ?_
 rintro _ σ2 ⟨b1, rfl, H, -⟩
 refine st (v := (B false)) (rv_assign rfl) ?_
 refine w_end ?_
 refine q_then ?_
 refine c_seq ?_
 refine rg ?_
 refine st (v := (I 1048576)) (rv_assign rfl) ?_
 refine w_end ?_
 refine q_then ?_
 refine c_seq ?_
 refine rg ?_
 have hc3 := H.cells 0 rfl
 refine st (v := (.agg #[(Sl aaH_0_0 aH_0.1 caH_0_0), (Sl aaH_0_1 aH_0.2 caH_0_1)])) (rv_load (cs := [(Sl aaH_0_0 aH_0.1 caH_0_0), (Sl aaH_0_1 aH_0.2 caH_0_1)]) Try.underlying40 rfl ti40 rfl rfl hc3) ?_
 refine st (v := (I 1048576)) (rv_move rfl) ?_
 obtain ⟨r4, hx5, h'⟩ := bind_some h
 clear h
 have h := h'; clear h'
 have hc6 := c_laws_szHistory (aa_0_0 := aaH_0_0) (ca_0_0 := caH_0_0) (aa_0_1 := aaH_0_1) (ca_0_1 := caH_0_1) hx5
 refine st_call (cx_call hc6 (ent_f hc6.fn rfl) hn0 (show Hp S0 σ0 _ ([Ch.ro 0 (Sl aaH_0_0 aH_0.1 caH_0_0) aH_0.1, Ch.ro 0 (Sl aaH_0_1 aH_0.2 caH_0_1) aH_0.2] ++ [Ch.bx n0 b1 0 [(Sl aaH_0_0 aH_0.1 caH_0_0), (Sl aaH_0_1 aH_0.2 caH_0_1)] [] [], Ch.ro 0 (Sl aaH_0_0 aH_0.1 caH_0_0) aH_0.1, Ch.ro 0 (Sl aaH_0_1 aH_0.2 caH_0_1) aH_0.2]) from (H.sel' [1, 2, 0, 1, 2] rfl rfl))) wn ?_
 rintro _ σ7 ⟨_, ⟨rfl, rfl⟩, H, -⟩
 replace H : Hp S0 σ0 σ7 [Ch.bx n0 b1 0 [(Sl aaH_0_0 aH_0.1 caH_0_0), (Sl aaH_0_1 aH_0.2 caH_0_1)] [] [], Ch.ro 0 (Sl aaH_0_0 aH_0.1 caH_0_0) aH_0.1, Ch.ro 0 (Sl aaH_0_1 aH_0.2 caH_0_1) aH_0.2] := H
 refine st (v := (I r4)) (rv_assign rfl) ?_
 refine w_end ?_
 refine q_then ?_
 refine c_seq ?_
 refine c_seq ?_
 refine rg ?_
 refine st (v := (I r4)) (rv_move rfl) ?_
 refine st (v := (B (decide (r4 < 0)))) (rv_lss (a := r4) (b := 0) rfl rfl) ?_
 refine w_end ?_
 refine q_then ?_
 refine cd_cond (decide (r4 < 0)) rfl (fun hb8 => ?_) (fun hb8 => ?_)
 ·replace h := bif_t hb8 h
  refine c_seq ?_
  refine rg ?_
  refine st (v := (B true)) (rv_assign rfl) ?_
  refine w_end ?_
  refine q_then ?_
  refine c_ret ?_
  refine q_then_r ?_
  obtain rfl := Option.some.inj h
  exact fin_ret (v := (B true)) (results_ok Try.results5 (res_tmp (v := (B true)) rfl res_nil) rfl) ⟨rfl, rfl⟩ (H.sel' [] rfl rfl)
 ·replace h := bif_f hb8 h
  refine c_skip ?_
  refine q_then ?_
  refine c_seq ?_
  refine rg ?_
  have hc9 := H.cells 0 rfl
  refine st (v := (.agg #[(Sl aaH_0_0 aH_0.1 caH_0_0), (Sl aaH_0_1 aH_0.2 caH_0_1)])) (rv_load (cs := [(Sl aaH_0_0 aH_0.1 caH_0_0), (Sl aaH_0_1 aH_0.2 caH_0_1)]) Try.underlying40 rfl ti40 rfl rfl hc9) ?_
  obtain ⟨r10, hx11, h'⟩ := bind_some h
  clear h
  have h := h'; clear h'
  have hc12 := c_laws_toHistoryD (aa_0_0 := aaH_0_0) (ca_0_0 := caH_0_0) (aa_0_1 := aaH_0_1) (ca_0_1 := caH_0_1) hx11
  refine st_call (cx_call hc12 (ent_f hc12.fn rfl) hn0 (show Hp S0 σ0 _ ([Ch.ro 0 (Sl aaH_0_0 aH_0.1 caH_0_0) aH_0.1, Ch.ro 0 (Sl aaH_0_1 aH_0.2 caH_0_1) aH_0.2] ++ [Ch.bx n0 b1 0 [(Sl aaH_0_0 aH_0.1 caH_0_0), (Sl aaH_0_1 aH_0.2 caH_0_1)] [] [], Ch.ro 0 (Sl aaH_0_0 aH_0.1 caH_0_0) aH_0.1, Ch.ro 0 (Sl aaH_0_1 aH_0.2 caH_0_1) aH_0.2]) from (H.sel' [1, 2, 0, 1, 2] rfl rfl))) wn ?_
  rintro _ σ20 ⟨_, ⟨a13, c14, K15, a17, c18, rfl, rfl, hK16, ht19⟩, H, -⟩
  replace H : Hp S0 σ0 σ20 [Ch.big K15, Ch.own n0 n0 (Sl a17 r10.2 c18) r10.2, Ch.bx n0 b1 0 [(Sl aaH_0_0 aH_0.1 caH_0_0), (Sl aaH_0_1 aH_0.2 caH_0_1)] [] [], Ch.ro 0 (Sl aaH_0_0 aH_0.1 caH_0_0) aH_0.1, Ch.ro 0 (Sl aaH_0_1 aH_0.2 caH_0_1) aH_0.2] := H
  refine st (v := (I aT_1)) (rv_move rfl) ?_
  obtain ⟨σ21, hw22, H, -⟩ := H.pub 1 rfl (Nat.le_refl _)
  rw [← hw22]; clear hw22
  replace H := H.roLow 0 0 rfl (Nat.zero_le _)
  obtain ⟨r23, hx24, h'⟩ := bind_some h
  clear h
  have h := h'; clear h'
  have hc25 := c_spec_StoreAt (ah_0_0 := a13) (ch_0_0 := c14) (ah_0_1 := a17) (ch_0_1 := c18) hx24
  have hle := Nat.le_trans hn0 H.size
  refine st_call (cx_lend (Loan.lendB hK16.lends (Loan.same Loan.nil)) hc25 (ent_f hc25.fn rfl) (show Hp S0 σ0 _ ([Ch.big K15] ++ ([Ch.ro 0 (Sl a17 r10.2 c18) r10.2] ++ [Ch.ro 0 (Sl a17 r10.2 c18) r10.2, Ch.ro n0 (Sl a17 r10.2 c18) r10.2, Ch.bx n0 b1 0 [(Sl aaH_0_0 aH_0.1 caH_0_0), (Sl aaH_0_1 aH_0.2 caH_0_1)] [] [], Ch.ro 0 (Sl aaH_0_0 aH_0.1 caH_0_0) aH_0.1, Ch.ro 0 (Sl aaH_0_1 aH_0.2 caH_0_1) aH_0.2])) from (H.sel' [2, 0, 0, 1, 3, 4, 5] rfl rfl)) (by rintro _ _ _ ⟨_, _, rfl, rfl⟩; exact ⟨Ab.own (Nat.le_refl _), trivial⟩)) wn ?_
  rintro _ σ28 ⟨_, ⟨a26, c27, rfl, rfl⟩, H, -, -⟩
  replace H : Hp S0 σ0 σ28 [Ch.own σ21.size σ21.size (Sl a26 r23 c27) r23, Ch.big K15, Ch.ro 0 (Sl a17 r10.2 c18) r10.2, Ch.ro n0 (Sl a17 r10.2 c18) r10.2, Ch.bx n0 b1 0 [(Sl aaH_0_0 aH_0.1 caH_0_0), (Sl aaH_0_1 aH_0.2 caH_0_1)] [] [], Ch.ro 0 (Sl aaH_0_0 aH_0.1 caH_0_0) aH_0.1, Ch.ro 0 (Sl aaH_0_1 aH_0.2 caH_0_1) aH_0.2] := H
  replace H := H.ownLow 0 n0 n0 rfl hle hle
  clear hle
  replace H : Hp S0 σ0 σ28 [Ch.own n0 n0 (Sl a26 r23 c27) r23, Ch.big K15, Ch.ro 0 (Sl a17 r10.2 c18) r10.2, Ch.ro n0 (Sl a17 r10.2 c18) r10.2, Ch.bx n0 b1 0 [(Sl aaH_0_0 aH_0.1 caH_0_0), (Sl aaH_0_1 aH_0.2 caH_0_1)] [] [], Ch.ro 0 (Sl aaH_0_0 aH_0.1 caH_0_0) aH_0.1, Ch.ro 0 (Sl aaH_0_1 aH_0.2 caH_0_1) aH_0.2] := H
  refine st (v := (Sl a26 r23 c27)) (rv_assign rfl) ?_
  refine w_end ?_
  refine q_then ?_
  refine c_seq ?_
  refine rg ?_
  have hc29 := H.cells 4 rfl
  refine st (v := (.agg #[(Sl aaH_0_0 aH_0.1 caH_0_0), (Sl aaH_0_1 aH_0.2 caH_0_1)])) (rv_load (cs := [(Sl aaH_0_0 aH_0.1 caH_0_0), (Sl aaH_0_1 aH_0.2 caH_0_1)]) Try.underlying40 rfl ti40 rfl rfl hc29) ?_
  obtain ⟨r30, hx31, h'⟩ := bind_some h
  clear h
  have h := h'; clear h'
  have hc32 := c_laws_toHistoryD (aa_0_0 := aaH_0_0) (ca_0_0 := caH_0_0) (aa_0_1 := aaH_0_1) (ca_0_1 := caH_0_1) hx31
  refine st_call (cx_call hc32 (ent_f hc32.fn rfl) hn0 (show Hp S0 σ0 _ ([Ch.ro 0 (Sl aaH_0_0 aH_0.1 caH_0_0) aH_0.1, Ch.ro 0 (Sl aaH_0_1 aH_0.2 caH_0_1) aH_0.2] ++ [Ch.own n0 n0 (Sl a26 r23 c27) r23, Ch.big K15, Ch.ro 0 (Sl a17 r10.2 c18) r10.2, Ch.ro n0 (Sl a17 r10.2 c18) r10.2, Ch.bx n0 b1 0 [(Sl aaH_0_0 aH_0.1 caH_0_0), (Sl aaH_0_1 aH_0.2 caH_0_1)] [] [], Ch.ro 0 (Sl aaH_0_0 aH_0.1 caH_0_0) aH_0.1, Ch.ro 0 (Sl aaH_0_1 aH_0.2 caH_0_1) aH_0.2]) from (H.sel' [5, 6, 0, 1, 2, 3, 4, 5, 6] rfl rfl))) wn ?_
  rintro _ σ40 ⟨_, ⟨a33, c34, K35, a37, c38, rfl, rfl, hK36, ht39⟩, H, -⟩
  replace H : Hp S0 σ0 σ40 [Ch.big K35, Ch.own n0 n0 (Sl a37 r30.2 c38) r30.2, Ch.own n0 n0 (Sl a26 r23 c27) r23, Ch.big K15, Ch.ro 0 (Sl a17 r10.2 c18) r10.2, Ch.ro n0 (Sl a17 r10.2 c18) r10.2, Ch.bx n0 b1 0 [(Sl aaH_0_0 aH_0.1 caH_0_0), (Sl aaH_0_1 aH_0.2 caH_0_1)] [] [], Ch.ro 0 (Sl aaH_0_0 aH_0.1 caH_0_0) aH_0.1, Ch.ro 0 (Sl aaH_0_1 aH_0.2 caH_0_1) aH_0.2] := H
  replace H : Hp S0 σ0 σ40 [Ch.big K35, Ch.own n0 n0 (Sl a37 r30.2 c38) r30.2, Ch.own n0 n0 (Sl a26 r23 c27) r23, Ch.bx n0 b1 0 [(Sl aaH_0_0 aH_0.1 caH_0_0), (Sl aaH_0_1 aH_0.2 caH_0_1)] [] [], Ch.ro 0 (Sl aaH_0_0 aH_0.1 caH_0_0) aH_0.1, Ch.ro 0 (Sl aaH_0_1 aH_0.2 caH_0_1) aH_0.2] := H.sel' [0, 1, 2, 6, 7, 8] rfl rfl
  refine st_ex (ex_alloc (cs := [(.slice none 0 0), (.slice none 0 0)]) H hn0 ti26 rfl) wn ?_
  rintro _ σ42 ⟨b41, rfl, H, -⟩
  refine st_exS (ex_store_box (k := 0) (cs := [(.slice none 0 0), (.slice none 0 0)]) (vs := [(Sl a33 r30.1 c34), (Sl a37 r30.2 c38)]) (cs' := [(Sl a33 r30.1 c34), (Sl a37 r30.2 c38)]) H (i := 0) rfl ti26 rfl rfl rfl rfl rfl (Nat.le_of_ble_eq_true rfl) (by simp [plain]) rfl) wn ?_
  rintro σ43 ⟨H, -⟩
  refine w_end ?_
  refine q_then ?_
  refine c_seq ?_
  refine rg ?_
  have hc44 := H.cells 0 rfl
  refine st (v := (.agg #[(Sl a33 r30.1 c34), (Sl a37 r30.2 c38)])) (rv_load (cs := [(Sl a33 r30.1 c34), (Sl a37 r30.2 c38)]) Try.underlying26 rfl ti26 rfl rfl hc44) ?_
  refine st (v := (I aT_1)) (rv_move rfl) ?_
  obtain ⟨r45, hx46, h'⟩ := bind_some h
  clear h
  have h := h'; clear h'
  have hc47 := c_impl_StoreAtD (ah_0_0 := a33) (ch_0_0 := c34) (ah_0_1 := a37) (ch_0_1 := c38) hx46
  have hle := Nat.le_trans hn0 H.size
  refine st_call (cx_lend (Loan.lendB hK36.lends (Loan.lend Loan.nil)) hc47 (ent_f hc47.fn rfl) (show Hp S0 σ0 _ ([Ch.big K35, Ch.own n0 n0 (Sl a37 r30.2 c38) r30.2] ++ ([] ++ [Ch.bx n0 b41 0 [(Sl a33 r30.1 c34), (Sl a37 r30.2 c38)] [] [], Ch.own n0 n0 (Sl a26 r23 c27) r23, Ch.bx n0 b1 0 [(Sl aaH_0_0 aH_0.1 caH_0_0), (Sl aaH_0_1 aH_0.2 caH_0_1)] [] [], Ch.ro 0 (Sl aaH_0_0 aH_0.1 caH_0_0) aH_0.1, Ch.ro 0 (Sl aaH_0_1 aH_0.2 caH_0_1) aH_0.2])) from (H.sel' [1, 2, 0, 3, 4, 5, 6] rfl rfl)) (by rintro _ _ _ ⟨_, _, _, rfl, rfl, hK51⟩; exact ⟨Dp.abSc hK51, trivial⟩)) wn ?_
  rintro _ σ52 ⟨_, ⟨a48, c49, K50, rfl, rfl, hK51⟩, H, -, -⟩
  replace H : Hp S0 σ0 σ52 [Ch.big K50, Ch.big K35, Ch.own n0 n0 (Sl a37 r30.2 c38) r30.2, Ch.bx n0 b41 0 [(Sl a33 r30.1 c34), (Sl a37 r30.2 c38)] [] [], Ch.own n0 n0 (Sl a26 r23 c27) r23, Ch.bx n0 b1 0 [(Sl aaH_0_0 aH_0.1 caH_0_0), (Sl aaH_0_1 aH_0.2 caH_0_1)] [] [], Ch.ro 0 (Sl aaH_0_0 aH_0.1 caH_0_0) aH_0.1, Ch.ro 0 (Sl aaH_0_1 aH_0.2 caH_0_1) aH_0.2] := H
  clear hle
  replace H : Hp S0 σ0 σ52 [Ch.big K50, Ch.big K35, Ch.own n0 n0 (Sl a37 r30.2 c38) r30.2, Ch.bx n0 b41 0 [(Sl a33 r30.1 c34), (Sl a37 r30.2 c38)] [] [], Ch.own n0 n0 (Sl a26 r23 c27) r23, Ch.bx n0 b1 0 [(Sl aaH_0_0 aH_0.1 caH_0_0), (Sl aaH_0_1 aH_0.2 caH_0_1)] [] [], Ch.ro 0 (Sl aaH_0_0 aH_0.1 caH_0_0) aH_0.1, Ch.ro 0 (Sl aaH_0_1 aH_0.2 caH_0_1) aH_0.2] := H
  refine st (v := (Sl a48 r45 c49)) (rv_assign rfl) ?_
  refine w_end ?_
  refine q_then ?_
  refine c_seq ?_
  refine c_seq ?_
  refine rg ?_
  refine st (v := (Sl a48 r45 c49)) (rv_move rfl) ?_
  refine st (v := (Sl a26 r23 c27)) (rv_move rfl) ?_
  obtain ⟨r53, hx54, h'⟩ := bind_some h
  clear h
  have h := h'; clear h'
  have hc55 := c_laws_eqItemS (aa_0 := a48) (ca_0 := c49) (ab_1 := a26) (cb_1 := c27) hx54
  have hle := Nat.le_trans hn0 H.size
  refine st_call (cx_lend (Loan.lendB hK51.lends (Loan.lend Loan.nil)) hc55 (ent_f hc55.fn rfl) (show Hp S0 σ0 _ ([Ch.big K50, Ch.own n0 n0 (Sl a26 r23 c27) r23] ++ ([] ++ [Ch.big K35, Ch.own n0 n0 (Sl a37 r30.2 c38) r30.2, Ch.bx n0 b41 0 [(Sl a33 r30.1 c34), (Sl a37 r30.2 c38)] [] [], Ch.bx n0 b1 0 [(Sl aaH_0_0 aH_0.1 caH_0_0), (Sl aaH_0_1 aH_0.2 caH_0_1)] [] [], Ch.ro 0 (Sl aaH_0_0 aH_0.1 caH_0_0) aH_0.1, Ch.ro 0 (Sl aaH_0_1 aH_0.2 caH_0_1) aH_0.2])) from (H.sel' [0, 4, 1, 2, 3, 5, 6, 7] rfl rfl)) (by rintro _ _ _ ⟨rfl, rfl⟩; exact trivial)) wn ?_
  rintro _ σ56 ⟨_, ⟨rfl, rfl⟩, H, -, -⟩
  replace H : Hp S0 σ0 σ56 [Ch.big K50, Ch.own n0 n0 (Sl a26 r23 c27) r23, Ch.big K35, Ch.own n0 n0 (Sl a37 r30.2 c38) r30.2, Ch.bx n0 b41 0 [(Sl a33 r30.1 c34), (Sl a37 r30.2 c38)] [] [], Ch.bx n0 b1 0 [(Sl aaH_0_0 aH_0.1 caH_0_0), (Sl aaH_0_1 aH_0.2 caH_0_1)] [] [], Ch.ro 0 (Sl aaH_0_0 aH_0.1 caH_0_0) aH_0.1, Ch.ro 0 (Sl aaH_0_1 aH_0.2 caH_0_1) aH_0.2] := H
  clear hle
  replace H : Hp S0 σ0 σ56 [Ch.big K50, Ch.own n0 n0 (Sl a26 r23 c27) r23, Ch.big K35, Ch.own n0 n0 (Sl a37 r30.2 c38) r30.2, Ch.bx n0 b41 0 [(Sl a33 r30.1 c34), (Sl a37 r30.2 c38)] [] [], Ch.bx n0 b1 0 [(Sl aaH_0_0 aH_0.1 caH_0_0), (Sl aaH_0_1 aH_0.2 caH_0_1)] [] [], Ch.ro 0 (Sl aaH_0_0 aH_0.1 caH_0_0) aH_0.1, Ch.ro 0 (Sl aaH_0_1 aH_0.2 caH_0_1) aH_0.2] := H
  refine st (v := (B (!r53))) (rv_not rfl) ?_
  refine w_end ?_
  refine q_then ?_
  refine cd_cond (!r53) rfl (fun hb57 => ?_) (fun hb57 => ?_)
  ·replace h := bif_t hb57 h
   refine c_seq ?_
   refine rg ?_
   refine st (v := (B false)) (rv_assign rfl) ?_
   refine w_end ?_
   refine q_then ?_
   refine c_ret ?_
   refine q_then_r ?_
   obtain rfl := Option.some.inj h
   exact fin_ret (v := (B false)) (results_ok Try.results5 (res_tmp (v := (B false)) rfl res_nil) rfl) ⟨rfl, rfl⟩ (H.sel' [] rfl rfl)
  ·replace h := bif_f hb57 h
   refine c_skip ?_
   refine q_then ?_
   refine c_seq ?_
   refine c_seq ?_
   have hc58 := H.cells 4 rfl
   have hc59 := H.cells 5 rfl
   obtain ⟨r60, hx61, h'⟩ := bind_some h
   clear h
   have h := h'; clear h'
   have hc62 := c_laws_toHistoryD (aa_0_0 := aaH_0_0) (ca_0_0 := caH_0_0) (aa_0_1 := aaH_0_1) (ca_0_1 := caH_0_1) hx61
   have Hs := H
   refine rg2 (σ := σ56) (Nm := (Option Addr) × (Nat) × (List Ch) × (Option Addr) × (Nat)) 3 [2] [[false], [true]] [[(0, 0), (1, 1)], [(0, 0)], [(0, 1)]] 1 [fun ((a63, c64, K65, a67, c68) : (Option Addr) × (Nat) × (List Ch) × (Option Addr) × (Nat)) => fun σm => Hp S0 σ0 σm [Ch.big K50, Ch.own n0 n0 (Sl a26 r23 c27) r23, Ch.big K35, Ch.own n0 n0 (Sl a37 r30.2 c38) r30.2, Ch.bx n0 b41 0 [(Sl a33 r30.1 c34), (Sl a37 r30.2 c38)] [] [], Ch.bx n0 b1 0 [(Sl aaH_0_0 aH_0.1 caH_0_0), (Sl aaH_0_1 aH_0.2 caH_0_1)] [] [], Ch.ro 0 (Sl aaH_0_0 aH_0.1 caH_0_0) aH_0.1, Ch.ro 0 (Sl aaH_0_1 aH_0.2 caH_0_1) aH_0.2] ∧ Md (cov []) σ56 σm, fun ((a63, c64, K65, a67, c68) : (Option Addr) × (Nat) × (List Ch) × (Option Addr) × (Nat)) => fun σm => Hp S0 σ0 σm [Ch.big K65, Ch.own n0 n0 (Sl a67 r60.2 c68) r60.2, Ch.big K50, Ch.own n0 n0 (Sl a26 r23 c27) r23, Ch.big K35, Ch.own n0 n0 (Sl a37 r30.2 c38) r30.2, Ch.bx n0 b41 0 [(Sl a33 r30.1 c34), (Sl a37 r30.2 c38)] [] [], Ch.bx n0 b1 0 [(Sl aaH_0_0 aH_0.1 caH_0_0), (Sl aaH_0_1 aH_0.2 caH_0_1)] [] [], Ch.ro 0 (Sl aaH_0_0 aH_0.1 caH_0_0) aH_0.1, Ch.ro 0 (Sl aaH_0_1 aH_0.2 caH_0_1) aH_0.2] ∧ Md (cov []) σ56 σm ∧ Dp 0 (Sl a63 r60.1 c64) r60.1 K65 ∧ c68 = r60.2.length] [fun ((a63, c64, K65, a67, c68) : (Option Addr) × (Nat) × (List Ch) × (Option Addr) × (Nat)) => (.agg #[(Sl a33 r30.1 c34), (Sl a37 r30.2 c38)]), fun ((a63, c64, K65, a67, c68) : (Option Addr) × (Nat) × (List Ch) × (Option Addr) × (Nat)) => (.agg #[(Sl aaH_0_0 aH_0.1 caH_0_0), (Sl aaH_0_1 aH_0.2 caH_0_1)]), fun ((a63, c64, K65, a67, c68) : (Option Addr) × (Nat) × (List Ch) × (Option Addr) × (Nat)) => (.agg #[(Sl a63 r60.1 c64), (Sl a67 r60.2 c68)])] (none, 0, [], none, 0) (by kernel_rfl) (by kernel_rfl) ?_ ?_ ?_
   ·intro σm m0
    exact ⟨H.grow (m0.mono fun _ h => h.elim), m0⟩
   ·refine all_cons (by
      refine ⟨?_, ?_⟩
      ·rintro ⟨a63, c64, K65, a67, c68⟩ ρ σm hJ hoff hdep
       have e7 := look_off (N := 74) (hoff 7 rfl) rfl
       obtain ⟨H, m⟩ := id hJ
       have hc58 := H.cells 4 rfl
       exact dp_v (v := (.agg #[(Sl a33 r30.1 c34), (Sl a37 r30.2 c38)])) wn (rv_load (cs := [(Sl a33 r30.1 c34), (Sl a37 r30.2 c38)]) Try.underlying26 rfl ti26 e7 rfl hc58) rfl hJ
      refine ⟨?_, ?_⟩
      ·rintro ⟨a63, c64, K65, a67, c68⟩ ρ σm hJ hoff hdep
       have e7 := look_off (N := 74) (hoff 7 rfl) rfl
       obtain ⟨H, m, hK66, ht69⟩ := id hJ
       have hc58 := H.cells 6 rfl
       exact dp_v (v := (.agg #[(Sl a33 r30.1 c34), (Sl a37 r30.2 c38)])) wn (rv_load (cs := [(Sl a33 r30.1 c34), (Sl a37 r30.2 c38)]) Try.underlying26 rfl ti26 e7 rfl hc58) rfl hJ
      trivial) ?_
    refine all_cons (by
      refine ⟨?_, ?_⟩
      ·rintro ⟨a63, c64, K65, a67, c68⟩ ρ σm hJ hoff hdep
       have e2 := look_off (N := 74) (hoff 2 rfl) rfl
       obtain ⟨H, m⟩ := id hJ
       have hc59 := H.cells 5 rfl
       exact dp_v (v := (.agg #[(Sl aaH_0_0 aH_0.1 caH_0_0), (Sl aaH_0_1 aH_0.2 caH_0_1)])) wn (rv_load (cs := [(Sl aaH_0_0 aH_0.1 caH_0_0), (Sl aaH_0_1 aH_0.2 caH_0_1)]) Try.underlying40 rfl ti40 e2 rfl hc59) rfl hJ
      trivial) ?_
    refine all_cons (by
      refine ⟨?_, ?_⟩
      ·rintro ⟨a63, c64, K65, a67, c68⟩ ρ σm hJ hoff hdep
       have e32 : look 74 ρ 32 = (.agg #[(Sl aaH_0_0 aH_0.1 caH_0_0), (Sl aaH_0_1 aH_0.2 caH_0_1)]) := hdep 1 rfl rfl 32 rfl
       obtain ⟨H, m⟩ := id hJ
       refine dp_cx wn (cx_call hc62 (ent_f hc62.fn (by show [look 74 ρ 32] = _; rw [e32])) hn0 (show Hp S0 σ0 _ ([Ch.ro 0 (Sl aaH_0_0 aH_0.1 caH_0_0) aH_0.1, Ch.ro 0 (Sl aaH_0_1 aH_0.2 caH_0_1) aH_0.2] ++ [Ch.big K50, Ch.own n0 n0 (Sl a26 r23 c27) r23, Ch.big K35, Ch.own n0 n0 (Sl a37 r30.2 c38) r30.2, Ch.bx n0 b41 0 [(Sl a33 r30.1 c34), (Sl a37 r30.2 c38)] [] [], Ch.bx n0 b1 0 [(Sl aaH_0_0 aH_0.1 caH_0_0), (Sl aaH_0_1 aH_0.2 caH_0_1)] [] [], Ch.ro 0 (Sl aaH_0_0 aH_0.1 caH_0_0) aH_0.1, Ch.ro 0 (Sl aaH_0_1 aH_0.2 caH_0_1) aH_0.2]) from (H.sel' [6, 7, 0, 1, 2, 3, 4, 5, 6, 7] rfl rfl))) ?_
       rintro _ σq ⟨_, ⟨a63x, c64x, K65x, a67x, c68x, rfl, rfl, hK66, ht69⟩, H2, m2⟩
       exact ⟨_, (a63x, c64x, K65x, a67x, c68x), rfl, rfl, ⟨H2.sel' [0, 1, 2, 3, 4, 5, 6, 7, 8, 9] rfl rfl, m.comp0 (m2.mono (fun i h => by simp [cov, Ch.ro] at h)), hK66, ht69⟩, stab [0, 1] (by kernel_rfl) ⟨rfl, rfl, trivial⟩⟩
      trivial) ?_
    exact all_nil
   ·rintro ⟨a63, c64, K65, a67, c68⟩ ρ σ70 hJ hoff hrel
    have e1 := look_off (N := 74) (hoff 1 rfl) rfl
    have e2 := look_off (N := 74) (hoff 2 rfl) rfl
    have e6 := look_off (N := 74) (hoff 6 rfl) rfl
    have e7 := look_off (N := 74) (hoff 7 rfl) rfl
    have e8 := look_off (N := 74) (hoff 8 rfl) rfl
    have e31 := hrel 0 rfl 31 rfl
    have e33 := hrel 2 rfl 33 rfl
    obtain ⟨H, -, hK66, ht69⟩ := (show Hp S0 σ0 σ70 [Ch.big K65, Ch.own n0 n0 (Sl a67 r60.2 c68) r60.2, Ch.big K50, Ch.own n0 n0 (Sl a26 r23 c27) r23, Ch.big K35, Ch.own n0 n0 (Sl a37 r30.2 c38) r30.2, Ch.bx n0 b41 0 [(Sl a33 r30.1 c34), (Sl a37 r30.2 c38)] [] [], Ch.bx n0 b1 0 [(Sl aaH_0_0 aH_0.1 caH_0_0), (Sl aaH_0_1 aH_0.2 caH_0_1)] [] [], Ch.ro 0 (Sl aaH_0_0 aH_0.1 caH_0_0) aH_0.1, Ch.ro 0 (Sl aaH_0_1 aH_0.2 caH_0_1) aH_0.2] ∧ Md (cov []) σ56 σ70 ∧ Dp 0 (Sl a63 r60.1 c64) r60.1 K65 ∧ c68 = r60.2.length from hJ)
    clear hJ Hs
    rw [fr_lookL (L := [(1, (I aT_1)), (2, (pt b1 0)), (6, (Sl a26 r23 c27)), (7, (pt b41 0)), (8, (Sl a48 r45 c49)), (31, (.agg #[(Sl a33 r30.1 c34), (Sl a37 r30.2 c38)])), (33, (.agg #[(Sl a63 r60.1 c64), (Sl a67 r60.2 c68)]))]) ⟨e1, e2, e6, e7, e8, e31, e33, trivial⟩]
    clear hoff hrel e1 e2 e6 e7 e8 e31 e33
    obtain ⟨σ71, hw72, H, -⟩ := H.pub 1 rfl (Nat.le_refl _)
    rw [← hw72]; clear hw72
    replace H := H.roLow 0 0 rfl (Nat.zero_le _)
    obtain ⟨r73, hx74, h'⟩ := bind_some h
    clear h
    have h := h'; clear h'
    have hc75 := c_laws_eqHistory (aa_0_0 := a33) (ca_0_0 := c34) (aa_0_1 := a37) (ca_0_1 := c38) (ab_1_0 := a63) (cb_1_0 := c64) (ab_1_1 := a67) (cb_1_1 := c68) hx74
    have hle := Nat.le_trans hn0 H.size
    refine st_call (cx_lend (Loan.lendB hK36.lends (Loan.lend (Loan.lendB hK66.lends (Loan.same Loan.nil)))) hc75 (ent_f hc75.fn rfl) (show Hp S0 σ0 _ ([Ch.big K35, Ch.own n0 n0 (Sl a37 r30.2 c38) r30.2, Ch.big K65] ++ ([Ch.ro 0 (Sl a67 r60.2 c68) r60.2] ++ [Ch.ro 0 (Sl a67 r60.2 c68) r60.2, Ch.ro n0 (Sl a67 r60.2 c68) r60.2, Ch.big K50, Ch.own n0 n0 (Sl a26 r23 c27) r23, Ch.bx n0 b41 0 [(Sl a33 r30.1 c34), (Sl a37 r30.2 c38)] [] [], Ch.bx n0 b1 0 [(Sl aaH_0_0 aH_0.1 caH_0_0), (Sl aaH_0_1 aH_0.2 caH_0_1)] [] [], Ch.ro 0 (Sl aaH_0_0 aH_0.1 caH_0_0) aH_0.1, Ch.ro 0 (Sl aaH_0_1 aH_0.2 caH_0_1) aH_0.2])) from (H.sel' [5, 6, 2, 0, 0, 1, 3, 4, 7, 8, 9, 10] rfl rfl)) (by rintro _ _ _ ⟨rfl, rfl⟩; exact trivial)) wn ?_
    rintro _ σ76 ⟨_, ⟨rfl, rfl⟩, H, -, -⟩
    replace H : Hp S0 σ0 σ76 [Ch.big K35, Ch.own n0 n0 (Sl a37 r30.2 c38) r30.2, Ch.big K65, Ch.ro 0 (Sl a67 r60.2 c68) r60.2, Ch.ro n0 (Sl a67 r60.2 c68) r60.2, Ch.big K50, Ch.own n0 n0 (Sl a26 r23 c27) r23, Ch.bx n0 b41 0 [(Sl a33 r30.1 c34), (Sl a37 r30.2 c38)] [] [], Ch.bx n0 b1 0 [(Sl aaH_0_0 aH_0.1 caH_0_0), (Sl aaH_0_1 aH_0.2 caH_0_1)] [] [], Ch.ro 0 (Sl aaH_0_0 aH_0.1 caH_0_0) aH_0.1, Ch.ro 0 (Sl aaH_0_1 aH_0.2 caH_0_1) aH_0.2] := H
    clear hle
    replace H : Hp S0 σ0 σ76 [Ch.big K35, Ch.own n0 n0 (Sl a37 r30.2 c38) r30.2, Ch.big K65, Ch.ro 0 (Sl a67 r60.2 c68) r60.2, Ch.ro n0 (Sl a67 r60.2 c68) r60.2, Ch.big K50, Ch.own n0 n0 (Sl a26 r23 c27) r23, Ch.bx n0 b41 0 [(Sl a33 r30.1 c34), (Sl a37 r30.2 c38)] [] [], Ch.bx n0 b1 0 [(Sl aaH_0_0 aH_0.1 caH_0_0), (Sl aaH_0_1 aH_0.2 caH_0_1)] [] [], Ch.ro 0 (Sl aaH_0_0 aH_0.1 caH_0_0) aH_0.1, Ch.ro 0 (Sl aaH_0_1 aH_0.2 caH_0_1) aH_0.2] := H
    replace H : Hp S0 σ0 σ76 [Ch.big K35, Ch.own n0 n0 (Sl a37 r30.2 c38) r30.2, Ch.big K50, Ch.own n0 n0 (Sl a26 r23 c27) r23, Ch.bx n0 b41 0 [(Sl a33 r30.1 c34), (Sl a37 r30.2 c38)] [] [], Ch.bx n0 b1 0 [(Sl aaH_0_0 aH_0.1 caH_0_0), (Sl aaH_0_1 aH_0.2 caH_0_1)] [] [], Ch.ro 0 (Sl aaH_0_0 aH_0.1 caH_0_0) aH_0.1, Ch.ro 0 (Sl aaH_0_1 aH_0.2 caH_0_1) aH_0.2] := H.sel' [0, 1, 5, 6, 7, 8, 9, 10] rfl rfl
    refine st (v := (B (!r73))) (rv_not rfl) ?_
    refine w_end ?_
    refine q_then ?_
    refine cd_cond (!r73) rfl (fun hb77 => ?_) (fun hb77 => ?_)
    ·replace h := bif_t hb77 h
     refine c_seq ?_
     refine rg ?_
     refine st (v := (B false)) (rv_assign rfl) ?_
     refine w_end ?_
     refine q_then ?_
     refine c_ret ?_
     refine q_then_r ?_
     obtain rfl := Option.some.inj h
     exact fin_ret (v := (B false)) (results_ok Try.results5 (res_tmp (v := (B false)) rfl res_nil) rfl) ⟨rfl, rfl⟩ (H.sel' [] rfl rfl)
    ·replace h := bif_f hb77 h
     refine c_skip ?_
     refine q_then ?_
     refine c_seq ?_
     refine rg ?_
     refine st (v := (I 1)) (rv_assign rfl) ?_
     refine w_end ?_
     refine q_then ?_
     refine c_seq ?_
     refine rg ?_
     have hc78 := H.cells 4 rfl
     refine st (v := (.agg #[(Sl a33 r30.1 c34), (Sl a37 r30.2 c38)])) (rv_load (cs := [(Sl a33 r30.1 c34), (Sl a37 r30.2 c38)]) Try.underlying26 rfl ti26 rfl rfl hc78) ?_
     refine st (v := (I 1)) (rv_move rfl) ?_
     replace H := H.ownLow 1 0 0 rfl (Nat.zero_le _) (Nat.zero_le _)
     obtain ⟨r79, hx80, h'⟩ := bind_some h
     clear h
     have h := h'; clear h'
     have hc81 := c_laws_markHistory (aa_0_0 := a33) (ca_0_0 := c34) (hKa_0_0 := hK36) (aa_0_1 := a37) (ca_0_1 := c38) hx80
     refine st_call (cx_call hc81 (ent_f hc81.fn rfl) hn0 (show Hp S0 σ0 _ ([Ch.big K35, Ch.own 0 0 (Sl a37 r30.2 c38) r30.2] ++ [Ch.big K50, Ch.own n0 n0 (Sl a26 r23 c27) r23, Ch.bx n0 b41 0 [(Sl a33 r30.1 c34), (Sl a37 r30.2 c38)] [] [], Ch.bx n0 b1 0 [(Sl aaH_0_0 aH_0.1 caH_0_0), (Sl aaH_0_1 aH_0.2 caH_0_1)] [] [], Ch.ro 0 (Sl aaH_0_0 aH_0.1 caH_0_0) aH_0.1, Ch.ro 0 (Sl aaH_0_1 aH_0.2 caH_0_1) aH_0.2]) from (H.sel' [1, 0, 2, 3, 4, 5, 6, 7] rfl rfl))) wn ?_
     rintro _ σ83 ⟨_, ⟨rfl, rfl, hn82⟩, H, -⟩
     replace H : Hp S0 σ0 σ83 [Ch.own 0 0 (Sl a37 r79.2 c38) r79.2, Ch.big K50, Ch.own n0 n0 (Sl a26 r23 c27) r23, Ch.bx n0 b41 0 [(Sl a33 r30.1 c34), (Sl a37 r30.2 c38)] [] [], Ch.bx n0 b1 0 [(Sl aaH_0_0 aH_0.1 caH_0_0), (Sl aaH_0_1 aH_0.2 caH_0_1)] [] [], Ch.ro 0 (Sl aaH_0_0 aH_0.1 caH_0_0) aH_0.1, Ch.ro 0 (Sl aaH_0_1 aH_0.2 caH_0_1) aH_0.2] := H
     have hsl : (Sl a37 r30.2 c38) = (Sl a37 r79.2 c38) := sl_len hn82.symm
     try rw [hsl]
     try rw [hsl] at H
     clear hsl
     refine st (v := (I r79.1)) (rv_assign rfl) ?_
     refine w_end ?_
     refine q_then ?_
     refine c_seq ?_
     refine c_seq ?_
     obtain ⟨o84, hj, h'⟩ := bind_some h
     clear h
     refine c_cut (fun e a w => e = .normal ∧ ∃ (ρ : Nat → Value) (σ : St), a = fr 74 (updL ρ [(1, (I aT_1)), (2, (pt b1 0)), (6, (Sl a26 r23 c27)), (8, (Sl a48 r45 c49)), (46, (B o84))]) ∧ w = σ.w ∧ Hp S0 σ0 σ [Ch.ro 0 (Sl aaH_0_0 aH_0.1 caH_0_0) aH_0.1, Ch.ro 0 (Sl aaH_0_1 aH_0.2 caH_0_1) aH_0.2, Ch.bx n0 b1 0 [(Sl aaH_0_0 aH_0.1 caH_0_0), (Sl aaH_0_1 aH_0.2 caH_0_1)] [] [], Ch.own n0 n0 (Sl a26 r23 c27) r23, Ch.big K50]) ?_ ?_
     ·clear h'
      rename _ = some o84 => h
      refine rg ?_
      refine st (v := (I r79.1)) (rv_move rfl) ?_
      refine st (v := (B (decide (r79.1 < 0)))) (rv_lss (a := r79.1) (b := 0) rfl rfl) ?_
      refine st (v := (B (decide (r79.1 < 0)))) (rv_move rfl) ?_
      rcases Bool.eq_false_or_eq_true (decide (r79.1 < 0)) with hb85 | hb85
      ·replace h := bif_t hb85 h
       refine st_skip (congrArg some hb85) ?_
       refine st_skip (congrArg some hb85) ?_
       refine st_skip (congrArg some hb85) ?_
       refine st_skip (congrArg some hb85) ?_
       refine st (v := (B true)) (rv_pick_t (congrArg B hb85) rfl) ?_
       refine w_end ?_
       obtain rfl := Option.some.inj h
       exact ⟨rfl, _, σ83, fr_join ⟨rfl, rfl, rfl, rfl, rfl, trivial⟩, rfl, H.sel' [5, 6, 4, 2, 1] rfl rfl⟩
      ·replace h := bif_f hb85 h
       refine st_g (v := (Sl a48 r45 c49)) (congrArg some hb85) (rv_move rfl) ?_
       refine st_g (v := (Sl a26 r23 c27)) (congrArg some hb85) (rv_move rfl) ?_
       obtain ⟨r86, hx87, h'⟩ := bind_some h
       clear h
       have h := h'; clear h'
       have hc88 := c_laws_eqItemS (aa_0 := a48) (ca_0 := c49) (ab_1 := a26) (cb_1 := c27) hx87
       have hle := Nat.le_trans hn0 H.size
       refine st_call (cx_lend (Loan.lendB hK51.lends (Loan.lend Loan.nil)) hc88 (ent_f hc88.fn rfl) (show Hp S0 σ0 _ ([Ch.big K50, Ch.own n0 n0 (Sl a26 r23 c27) r23] ++ ([] ++ [Ch.own 0 0 (Sl a37 r79.2 c38) r79.2, Ch.bx n0 b41 0 [(Sl a33 r30.1 c34), (Sl a37 r79.2 c38)] [] [], Ch.bx n0 b1 0 [(Sl aaH_0_0 aH_0.1 caH_0_0), (Sl aaH_0_1 aH_0.2 caH_0_1)] [] [], Ch.ro 0 (Sl aaH_0_0 aH_0.1 caH_0_0) aH_0.1, Ch.ro 0 (Sl aaH_0_1 aH_0.2 caH_0_1) aH_0.2])) from (H.sel' [1, 2, 0, 3, 4, 5, 6] rfl rfl)) (by rintro _ _ _ ⟨rfl, rfl⟩; exact trivial)) (wanted_yes rfl (by exact (congrArg some hb85))) ?_
       rintro _ σ89 ⟨_, ⟨rfl, rfl⟩, H, -, -⟩
       replace H : Hp S0 σ0 σ89 [Ch.big K50, Ch.own n0 n0 (Sl a26 r23 c27) r23, Ch.own 0 0 (Sl a37 r79.2 c38) r79.2, Ch.bx n0 b41 0 [(Sl a33 r30.1 c34), (Sl a37 r79.2 c38)] [] [], Ch.bx n0 b1 0 [(Sl aaH_0_0 aH_0.1 caH_0_0), (Sl aaH_0_1 aH_0.2 caH_0_1)] [] [], Ch.ro 0 (Sl aaH_0_0 aH_0.1 caH_0_0) aH_0.1, Ch.ro 0 (Sl aaH_0_1 aH_0.2 caH_0_1) aH_0.2] := H
       clear hle
       replace H : Hp S0 σ0 σ89 [Ch.big K50, Ch.own n0 n0 (Sl a26 r23 c27) r23, Ch.own 0 0 (Sl a37 r79.2 c38) r79.2, Ch.bx n0 b41 0 [(Sl a33 r30.1 c34), (Sl a37 r79.2 c38)] [] [], Ch.bx n0 b1 0 [(Sl aaH_0_0 aH_0.1 caH_0_0), (Sl aaH_0_1 aH_0.2 caH_0_1)] [] [], Ch.ro 0 (Sl aaH_0_0 aH_0.1 caH_0_0) aH_0.1, Ch.ro 0 (Sl aaH_0_1 aH_0.2 caH_0_1) aH_0.2] := H
       refine st_g (v := (B (!r86))) (congrArg some hb85) (rv_not rfl) ?_
       refine st (v := (B (!r86))) (rv_pick_f (congrArg B hb85) rfl) ?_
       refine w_end ?_
       obtain rfl := Option.some.inj h
       exact ⟨rfl, _, σ89, fr_join ⟨rfl, rfl, rfl, rfl, rfl, trivial⟩, rfl, H.sel' [5, 6, 4, 1, 0] rfl rfl⟩
     ·clear hj
      have h := h'
      clear h' H
      rintro e a w ⟨rfl, ρ, σ90, rfl, rfl, H⟩
      refine q_then ?_
      refine cd_cond o84 rfl (fun hb91 => ?_) (fun hb91 => ?_)
      ·replace h := bif_t hb91 h
       refine c_seq ?_
       refine rg ?_
       refine st (v := (B false)) (rv_assign rfl) ?_
       refine w_end ?_
       refine q_then ?_
       refine c_ret ?_
       refine q_then_r ?_
       obtain rfl := Option.some.inj h
       exact fin_ret (v := (B false)) (results_ok Try.results5 (res_tmp (v := (B false)) rfl res_nil) rfl) ⟨rfl, rfl⟩ (H.sel' [] rfl rfl)
      ·replace h := bif_f hb91 h
       refine c_skip ?_
       refine q_then ?_
       refine c_seq ?_
       refine rg ?_
       refine st (v := (I 1)) (rv_assign rfl) ?_
       refine w_end ?_
       refine q_then ?_
       refine c_seq ?_
       refine rg ?_
       refine st (v := (Sl a48 r45 c49)) (rv_move rfl) ?_
       refine st (v := (I 1)) (rv_move rfl) ?_
       obtain ⟨r92, hx93, h'⟩ := bind_some h
       clear h
       have h := h'; clear h'
       have hc94 := c_laws_markItemS (aa_0 := a48) (ca_0 := c49) (hK := hK51) hx93
       refine st_call (cx_call hc94 (ent_f hc94.fn rfl) hn0 (show Hp S0 σ0 _ ([Ch.big K50] ++ [Ch.ro 0 (Sl aaH_0_0 aH_0.1 caH_0_0) aH_0.1, Ch.ro 0 (Sl aaH_0_1 aH_0.2 caH_0_1) aH_0.2, Ch.bx n0 b1 0 [(Sl aaH_0_0 aH_0.1 caH_0_0), (Sl aaH_0_1 aH_0.2 caH_0_1)] [] [], Ch.own n0 n0 (Sl a26 r23 c27) r23]) from (H.sel' [4, 0, 1, 2, 3] rfl rfl))) wn ?_
       rintro _ σ96 ⟨_, ⟨rfl, rfl, hn95⟩, H, -⟩
       replace H : Hp S0 σ0 σ96 [Ch.ro 0 (Sl a48 r92.2 c49) r92.2, Ch.ro 0 (Sl aaH_0_0 aH_0.1 caH_0_0) aH_0.1, Ch.ro 0 (Sl aaH_0_1 aH_0.2 caH_0_1) aH_0.2, Ch.bx n0 b1 0 [(Sl aaH_0_0 aH_0.1 caH_0_0), (Sl aaH_0_1 aH_0.2 caH_0_1)] [] [], Ch.own n0 n0 (Sl a26 r23 c27) r23] := H
       have hsl : (Sl a48 r45 c49) = (Sl a48 r92.2 c49) := sl_len hn95.symm
       try rw [hsl]
       try rw [hsl] at H
       clear hsl
       refine st (v := (I r92.1)) (rv_assign rfl) ?_
       refine w_end ?_
       refine q_then ?_
       refine c_seq ?_
       refine rg ?_
       refine st (v := (I 1)) (rv_assign rfl) ?_
       refine w_end ?_
       refine q_then ?_
       refine c_seq ?_
       refine rg ?_
       refine st (v := (Sl a48 r92.2 c49)) (rv_move rfl) ?_
       refine st (v := (I 1)) (rv_move rfl) ?_
       obtain ⟨r97, hx98, h'⟩ := bind_some h
       clear h
       have h := h'; clear h'
       have hc99 := c_laws_heldItemS (aa_0 := a48) (ca_0 := c49) hx98
       refine st_call (cx_call hc99 (ent_f hc99.fn rfl) hn0 (show Hp S0 σ0 _ ([Ch.ro 0 (Sl a48 r92.2 c49) r92.2] ++ [Ch.ro 0 (Sl a48 r92.2 c49) r92.2, Ch.ro 0 (Sl aaH_0_0 aH_0.1 caH_0_0) aH_0.1, Ch.ro 0 (Sl aaH_0_1 aH_0.2 caH_0_1) aH_0.2, Ch.bx n0 b1 0 [(Sl aaH_0_0 aH_0.1 caH_0_0), (Sl aaH_0_1 aH_0.2 caH_0_1)] [] [], Ch.own n0 n0 (Sl a26 r23 c27) r23]) from (H.sel' [0, 0, 1, 2, 3, 4] rfl rfl))) wn ?_
       rintro _ σ100 ⟨_, ⟨rfl, rfl⟩, H, -⟩
       replace H : Hp S0 σ0 σ100 [Ch.ro 0 (Sl a48 r92.2 c49) r92.2, Ch.ro 0 (Sl aaH_0_0 aH_0.1 caH_0_0) aH_0.1, Ch.ro 0 (Sl aaH_0_1 aH_0.2 caH_0_1) aH_0.2, Ch.bx n0 b1 0 [(Sl aaH_0_0 aH_0.1 caH_0_0), (Sl aaH_0_1 aH_0.2 caH_0_1)] [] [], Ch.own n0 n0 (Sl a26 r23 c27) r23] := H
       refine st (v := (I r97)) (rv_assign rfl) ?_
       refine w_end ?_
       refine q_then ?_
       refine c_seq ?_
       refine c_seq ?_
       refine rg ?_
       refine st (v := (I r97)) (rv_move rfl) ?_
       refine st (v := (B (decide (r97 < 0)))) (rv_lss (a := r97) (b := 0) rfl rfl) ?_
       refine w_end ?_
       refine q_then ?_
       refine cd_cond (decide (r97 < 0)) rfl (fun hb101 => ?_) (fun hb101 => ?_)
       ·replace h := bif_t hb101 h
        refine c_seq ?_
        refine rg ?_
        refine st (v := (B false)) (rv_assign rfl) ?_
        refine w_end ?_
        refine q_then ?_
        refine c_ret ?_
        refine q_then_r ?_
        obtain rfl := Option.some.inj h
        exact fin_ret (v := (B false)) (results_ok Try.results5 (res_tmp (v := (B false)) rfl res_nil) rfl) ⟨rfl, rfl⟩ (H.sel' [] rfl rfl)
       ·replace h := bif_f hb101 h
        refine c_skip ?_
        refine q_then ?_
        refine c_seq ?_
        refine c_seq ?_
        refine rg ?_
        refine st (v := (I r97)) (rv_move rfl) ?_
        refine st (v := (I r92.1)) (rv_move rfl) ?_
        refine st (v := (B (r97 != r92.1))) (rv_neq (a := r97) (b := r92.1) rfl rfl) ?_
        refine w_end ?_
        refine q_then ?_
        refine cd_cond (r97 != r92.1) rfl (fun hb102 => ?_) (fun hb102 => ?_)
        ·replace h := bif_t hb102 h
         refine c_seq ?_
         refine rg ?_
         refine st (v := (B false)) (rv_assign rfl) ?_
         refine w_end ?_
         refine q_then ?_
         refine c_ret ?_
         refine q_then_r ?_
         obtain rfl := Option.some.inj h
         exact fin_ret (v := (B false)) (results_ok Try.results5 (res_tmp (v := (B false)) rfl res_nil) rfl) ⟨rfl, rfl⟩ (H.sel' [] rfl rfl)
        ·replace h := bif_f hb102 h
         refine c_skip ?_
         refine q_then ?_
         refine c_seq ?_
         refine rg ?_
         have hc103 := H.cells 3 rfl
         refine st (v := (.agg #[(Sl aaH_0_0 aH_0.1 caH_0_0), (Sl aaH_0_1 aH_0.2 caH_0_1)])) (rv_load (cs := [(Sl aaH_0_0 aH_0.1 caH_0_0), (Sl aaH_0_1 aH_0.2 caH_0_1)]) Try.underlying40 rfl ti40 rfl rfl hc103) ?_
         obtain ⟨r104, hx105, h'⟩ := bind_some h
         clear h
         have h := h'; clear h'
         have hc106 := c_laws_toHistoryD (aa_0_0 := aaH_0_0) (ca_0_0 := caH_0_0) (aa_0_1 := aaH_0_1) (ca_0_1 := caH_0_1) hx105
         refine st_call (cx_call hc106 (ent_f hc106.fn rfl) hn0 (show Hp S0 σ0 _ ([Ch.ro 0 (Sl aaH_0_0 aH_0.1 caH_0_0) aH_0.1, Ch.ro 0 (Sl aaH_0_1 aH_0.2 caH_0_1) aH_0.2] ++ [Ch.ro 0 (Sl a48 r92.2 c49) r92.2, Ch.ro 0 (Sl aaH_0_0 aH_0.1 caH_0_0) aH_0.1, Ch.ro 0 (Sl aaH_0_1 aH_0.2 caH_0_1) aH_0.2, Ch.bx n0 b1 0 [(Sl aaH_0_0 aH_0.1 caH_0_0), (Sl aaH_0_1 aH_0.2 caH_0_1)] [] [], Ch.own n0 n0 (Sl a26 r23 c27) r23]) from (H.sel' [1, 2, 0, 1, 2, 3, 4] rfl rfl))) wn ?_
         rintro _ σ114 ⟨_, ⟨a107, c108, K109, a111, c112, rfl, rfl, hK110, ht113⟩, H, -⟩
         replace H : Hp S0 σ0 σ114 [Ch.big K109, Ch.own n0 n0 (Sl a111 r104.2 c112) r104.2, Ch.ro 0 (Sl a48 r92.2 c49) r92.2, Ch.ro 0 (Sl aaH_0_0 aH_0.1 caH_0_0) aH_0.1, Ch.ro 0 (Sl aaH_0_1 aH_0.2 caH_0_1) aH_0.2, Ch.bx n0 b1 0 [(Sl aaH_0_0 aH_0.1 caH_0_0), (Sl aaH_0_1 aH_0.2 caH_0_1)] [] [], Ch.own n0 n0 (Sl a26 r23 c27) r23] := H
         refine st (v := (I aT_1)) (rv_move rfl) ?_
         obtain ⟨σ115, hw116, H, -⟩ := H.pub 1 rfl (Nat.le_refl _)
         rw [← hw116]; clear hw116
         replace H := H.roLow 0 0 rfl (Nat.zero_le _)
         obtain ⟨r117, hx118, h'⟩ := bind_some h
         clear h
         have h := h'; clear h'
         have hc119 := c_impl_StoreAtD (ah_0_0 := a107) (ch_0_0 := c108) (ah_0_1 := a111) (ch_0_1 := c112) hx118
         have hle := Nat.le_trans hn0 H.size
         refine st_call (cx_lend (Loan.lendB hK110.lends (Loan.same Loan.nil)) hc119 (ent_f hc119.fn rfl) (show Hp S0 σ0 _ ([Ch.big K109] ++ ([Ch.ro 0 (Sl a111 r104.2 c112) r104.2] ++ [Ch.ro 0 (Sl a111 r104.2 c112) r104.2, Ch.ro n0 (Sl a111 r104.2 c112) r104.2, Ch.ro 0 (Sl a48 r92.2 c49) r92.2, Ch.ro 0 (Sl aaH_0_0 aH_0.1 caH_0_0) aH_0.1, Ch.ro 0 (Sl aaH_0_1 aH_0.2 caH_0_1) aH_0.2, Ch.bx n0 b1 0 [(Sl aaH_0_0 aH_0.1 caH_0_0), (Sl aaH_0_1 aH_0.2 caH_0_1)] [] [], Ch.own n0 n0 (Sl a26 r23 c27) r23])) from (H.sel' [2, 0, 0, 1, 3, 4, 5, 6, 7] rfl rfl)) (by rintro _ _ _ ⟨_, _, _, rfl, rfl, hK123⟩; exact ⟨Dp.abSc hK123, trivial⟩)) wn ?_
         rintro _ σ124 ⟨_, ⟨a120, c121, K122, rfl, rfl, hK123⟩, H, -, -⟩
         replace H : Hp S0 σ0 σ124 [Ch.big K122, Ch.big K109, Ch.ro 0 (Sl a111 r104.2 c112) r104.2, Ch.ro n0 (Sl a111 r104.2 c112) r104.2, Ch.ro 0 (Sl a48 r92.2 c49) r92.2, Ch.ro 0 (Sl aaH_0_0 aH_0.1 caH_0_0) aH_0.1, Ch.ro 0 (Sl aaH_0_1 aH_0.2 caH_0_1) aH_0.2, Ch.bx n0 b1 0 [(Sl aaH_0_0 aH_0.1 caH_0_0), (Sl aaH_0_1 aH_0.2 caH_0_1)] [] [], Ch.own n0 n0 (Sl a26 r23 c27) r23] := H
         clear hle
         replace H : Hp S0 σ0 σ124 [Ch.big K122, Ch.big K109, Ch.ro 0 (Sl a111 r104.2 c112) r104.2, Ch.ro n0 (Sl a111 r104.2 c112) r104.2, Ch.ro 0 (Sl a48 r92.2 c49) r92.2, Ch.ro 0 (Sl aaH_0_0 aH_0.1 caH_0_0) aH_0.1, Ch.ro 0 (Sl aaH_0_1 aH_0.2 caH_0_1) aH_0.2, Ch.bx n0 b1 0 [(Sl aaH_0_0 aH_0.1 caH_0_0), (Sl aaH_0_1 aH_0.2 caH_0_1)] [] [], Ch.own n0 n0 (Sl a26 r23 c27) r23] := H
         replace H : Hp S0 σ0 σ124 [Ch.big K122, Ch.ro 0 (Sl a48 r92.2 c49) r92.2, Ch.own n0 n0 (Sl a26 r23 c27) r23] := H.sel' [0, 4, 8] rfl rfl
         refine st (v := (Sl a120 r117 c121)) (rv_assign rfl) ?_
         refine w_end ?_
         refine q_then ?_
         refine c_seq ?_
         refine c_seq ?_
         refine rg ?_
         refine st (v := (Sl a120 r117 c121)) (rv_move rfl) ?_
         refine st (v := (Sl a26 r23 c27)) (rv_move rfl) ?_
         obtain ⟨σ125, hw126, H, -⟩ := H.pub 2 rfl (Nat.le_refl _)
         rw [← hw126]; clear hw126
         replace H := H.roLow 0 0 rfl (Nat.zero_le _)
         obtain ⟨r127, hx128, h'⟩ := bind_some h
         clear h
         have h := h'; clear h'
         have hc129 := c_laws_eqItemS (aa_0 := a120) (ca_0 := c121) (ab_1 := a26) (cb_1 := c27) hx128
         have hle := Nat.le_trans hn0 H.size
         refine st_call (cx_lend (Loan.lendB hK123.lends (Loan.same Loan.nil)) hc129 (ent_f hc129.fn rfl) (show Hp S0 σ0 _ ([Ch.big K122] ++ ([Ch.ro 0 (Sl a26 r23 c27) r23] ++ [Ch.ro 0 (Sl a26 r23 c27) r23, Ch.ro n0 (Sl a26 r23 c27) r23, Ch.ro 0 (Sl a48 r92.2 c49) r92.2])) from (H.sel' [2, 0, 0, 1, 3] rfl rfl)) (by rintro _ _ _ ⟨rfl, rfl⟩; exact trivial)) wn ?_
         rintro _ σ130 ⟨_, ⟨rfl, rfl⟩, H, -, -⟩
         replace H : Hp S0 σ0 σ130 [Ch.big K122, Ch.ro 0 (Sl a26 r23 c27) r23, Ch.ro n0 (Sl a26 r23 c27) r23, Ch.ro 0 (Sl a48 r92.2 c49) r92.2] := H
         clear hle
         replace H : Hp S0 σ0 σ130 [Ch.big K122, Ch.ro 0 (Sl a26 r23 c27) r23, Ch.ro n0 (Sl a26 r23 c27) r23, Ch.ro 0 (Sl a48 r92.2 c49) r92.2] := H
         refine st (v := (B (!r127))) (rv_not rfl) ?_
         refine w_end ?_
         refine q_then ?_
         refine cd_cond (!r127) rfl (fun hb131 => ?_) (fun hb131 => ?_)
         ·replace h := bif_t hb131 h
          refine c_seq ?_
          refine rg ?_
          refine st (v := (B false)) (rv_assign rfl) ?_
          refine w_end ?_
          refine q_then ?_
          refine c_ret ?_
          refine q_then_r ?_
          obtain rfl := Option.some.inj h
          exact fin_ret (v := (B false)) (results_ok Try.results5 (res_tmp (v := (B false)) rfl res_nil) rfl) ⟨rfl, rfl⟩ (H.sel' [] rfl rfl)
         ·replace h := bif_f hb131 h
          refine c_skip ?_
          refine q_then ?_
          refine c_seq ?_
          refine rg ?_
          refine st (v := (I 1)) (rv_assign rfl) ?_
          refine w_end ?_
          refine q_then ?_
          refine c_seq ?_
          refine rg ?_
          refine st (v := (Sl a48 r92.2 c49)) (rv_move rfl) ?_
          refine st (v := (I 1)) (rv_move rfl) ?_
          obtain ⟨r132, hx133, h'⟩ := bind_some h
          clear h
          have h := h'; clear h'
          have hc134 := c_laws_heldItemS (aa_0 := a48) (ca_0 := c49) hx133
          refine st_call (cx_call hc134 (ent_f hc134.fn rfl) hn0 (show Hp S0 σ0 _ ([Ch.ro 0 (Sl a48 r92.2 c49) r92.2] ++ [Ch.big K122, Ch.ro 0 (Sl a26 r23 c27) r23, Ch.ro n0 (Sl a26 r23 c27) r23, Ch.ro 0 (Sl a48 r92.2 c49) r92.2]) from (H.sel' [3, 0, 1, 2, 3] rfl rfl))) wn ?_
          rintro _ σ135 ⟨_, ⟨rfl, rfl⟩, H, -⟩
          replace H : Hp S0 σ0 σ135 [Ch.big K122, Ch.ro 0 (Sl a26 r23 c27) r23, Ch.ro n0 (Sl a26 r23 c27) r23, Ch.ro 0 (Sl a48 r92.2 c49) r92.2] := H
          refine st (v := (I r132)) (rv_assign rfl) ?_
          refine w_end ?_
          refine q_then ?_
          refine c_seq ?_
          refine c_seq ?_
          refine rg ?_
          refine st (v := (I r132)) (rv_move rfl) ?_
          refine st (v := (B (decide (r132 < 0)))) (rv_lss (a := r132) (b := 0) rfl rfl) ?_
          refine w_end ?_
          refine q_then ?_
          refine cd_cond (decide (r132 < 0)) rfl (fun hb136 => ?_) (fun hb136 => ?_)
          ·replace h := bif_t hb136 h
           refine c_seq ?_
           refine rg ?_
           refine st (v := (B false)) (rv_assign rfl) ?_
           refine w_end ?_
           refine q_then ?_
           refine c_ret ?_
           refine q_then_r ?_
           obtain rfl := Option.some.inj h
           exact fin_ret (v := (B false)) (results_ok Try.results5 (res_tmp (v := (B false)) rfl res_nil) rfl) ⟨rfl, rfl⟩ (H.sel' [] rfl rfl)
          ·replace h := bif_f hb136 h
           refine c_skip ?_
           refine q_then ?_
           refine c_seq ?_
           refine c_seq ?_
           refine rg ?_
           refine st (v := (I r132)) (rv_move rfl) ?_
           refine st (v := (I r92.1)) (rv_move rfl) ?_
           refine st (v := (B (r132 != r92.1))) (rv_neq (a := r132) (b := r92.1) rfl rfl) ?_
           refine w_end ?_
           refine q_then ?_
           refine cd_cond (r132 != r92.1) rfl (fun hb137 => ?_) (fun hb137 => ?_)
           ·replace h := bif_t hb137 h
            refine c_seq ?_
            refine rg ?_
            refine st (v := (B false)) (rv_assign rfl) ?_
            refine w_end ?_
            refine q_then ?_
            refine c_ret ?_
            refine q_then_r ?_
            obtain rfl := Option.some.inj h
            exact fin_ret (v := (B false)) (results_ok Try.results5 (res_tmp (v := (B false)) rfl res_nil) rfl) ⟨rfl, rfl⟩ (H.sel' [] rfl rfl)
           ·replace h := bif_f hb137 h
            refine c_skip ?_
            refine q_then ?_
            refine c_seq ?_
            refine rg ?_
            refine st (v := (B true)) (rv_assign rfl) ?_
            refine w_end ?_
            refine q_then ?_
            refine c_ret ?_
            obtain rfl := Option.some.inj h
            exact fin_ret (v := (B true)) (results_ok Try.results5 (res_tmp (v := (B true)) rfl res_nil) rfl) ⟨rfl, rfl⟩ (H.sel' [] rfl rfl)

end Go.Vs
