/- The functions compute what their models say. -/
import Derived.Test.YtfcemgcmpcmgcabKExactChangedKeysC4
set_option linter.unusedVariables false
set_option linter.unusedSimpArgs false
set_option maxRecDepth 20000
namespace Go.Vs
open Go Go.Proofs
attribute [local irreducible] Code.wp Code.wpIn wpList wpListIn wpQuiet Calls CallsIn

theorem c_laws_toItem {a_0 : Int × (List Int) × Int} {aa_0_1 : Option Addr} {ca_0_1 : Nat} {r : (Int × (List Int) × Int)} (h : M.laws_toItem a_0 = some r) :
    Cal2 Try.prog 64 [(.agg #[(I a_0.1), (Sl aa_0_1 a_0.2.1 ca_0_1), (I a_0.2.2)])] [Ch.ro 0 (Sl aa_0_1 a_0.2.1 ca_0_1) a_0.2.1] (fun n0 v L => ∃ (az1 : Option Addr), ∃ (cz2 : Nat), v = (.agg #[(I r.1), (Sl az1 r.2.1 cz2), (I r.2.2)]) ∧ L = [Ch.own n0 n0 (Sl az1 r.2.1 cz2) r.2.1] ∧ cz2 = r.2.1.length) := by
 refine cal2 (n := 15) Try.func64 rfl rfl rfl rfl ?_
 intro S0 σ0 n0 hn0 H
 unfold M.laws_toItem at h
 refine c_seq ?_
 refine rg ?_
 refine st_ex (ex_box (cs := [(I a_0.1), (Sl aa_0_1 a_0.2.1 ca_0_1), (I a_0.2.2)]) H hn0 rfl rfl) wn ?_
 rintro _ σ2 ⟨b1, rfl, H, -⟩
 refine st_ex (ex_alloc (cs := [(I 0), (.slice none 0 0), (I 0)]) H hn0 ti36 rfl) wn ?_
 rintro _ σ4 ⟨b3, rfl, H, -⟩
 refine w_end ?_
 refine q_then ?_
 refine c_seq ?_
 refine rg ?_
 refine st_ex (ex_alloc (cs := [(I 0), (.slice none 0 0), (I 0)]) H hn0 ti36 rfl) wn ?_
 rintro _ σ6 ⟨b5, rfl, H, -⟩
 refine w_end ?_
 refine q_then ?_
 refine c_seq ?_
 refine rg ?_
 refine st (v := (pt b1 0)) (rv_fieldAddr (off := 0) (ft := 3) Try.underlying49 rfl ti3 rfl rfl) ?_
 have hc7 := H.cell (u := (I a_0.1)) (o' := 0) 2 0 rfl rfl rfl
 refine st (v := (I a_0.1)) (rv_load1 Try.underlying3 rfl rfl hc7) ?_
 refine st (v := (pt b5 0)) (rv_fieldAddr (off := 0) (ft := 3) Try.underlying36 rfl ti3 rfl rfl) ?_
 refine st_exS (ex_store_box (k := 0) (cs := [(I 0), (.slice none 0 0), (I 0)]) (vs := [(I a_0.1)]) (cs' := [(I a_0.1), (.slice none 0 0), (I 0)]) H (i := 0) rfl ti3 rfl rfl rfl rfl rfl (Nat.le_of_ble_eq_true rfl) (by simp [plain]) rfl) wn ?_
 rintro σ8 ⟨H, -⟩
 refine w_end ?_
 refine q_then ?_
 refine c_seq ?_
 refine rg ?_
 refine st (v := (pt b1 1)) (rv_fieldAddr (off := 1) (ft := 24) Try.underlying49 rfl ti24 rfl rfl) ?_
 have hc9 := H.cell (u := (Sl aa_0_1 a_0.2.1 ca_0_1)) (o' := 1) 2 1 rfl rfl rfl
 refine st (v := (Sl aa_0_1 a_0.2.1 ca_0_1)) (rv_load1 Try.underlying24 rfl rfl hc9) ?_
 obtain ⟨r10, hx11, h'⟩ := bind_some h
 clear h
 have h := h'; clear h'
 have hc12 := c_laws_toIntS (aa_0 := aa_0_1) (ca_0 := ca_0_1) hx11
 refine st_call (cx_call hc12 (ent_f hc12.fn rfl) hn0 (show Hp S0 σ0 _ ([Ch.ro 0 (Sl aa_0_1 a_0.2.1 ca_0_1) a_0.2.1] ++ [Ch.bx n0 b5 0 [(I a_0.1), (.slice none 0 0), (I 0)] [] [], Ch.bx n0 b3 0 [(I 0), (.slice none 0 0), (I 0)] [] [], Ch.bx n0 b1 0 [(I a_0.1), (Sl aa_0_1 a_0.2.1 ca_0_1), (I a_0.2.2)] [] [], Ch.ro 0 (Sl aa_0_1 a_0.2.1 ca_0_1) a_0.2.1]) from (H.sel' [3, 0, 1, 2, 3] rfl rfl))) wn ?_
 rintro _ σ16 ⟨_, ⟨a13, c14, rfl, rfl, ht15⟩, H, -⟩
 replace H : Hp S0 σ0 σ16 [Ch.own n0 n0 (Sl a13 r10 c14) r10, Ch.bx n0 b5 0 [(I a_0.1), (.slice none 0 0), (I 0)] [] [], Ch.bx n0 b3 0 [(I 0), (.slice none 0 0), (I 0)] [] [], Ch.bx n0 b1 0 [(I a_0.1), (Sl aa_0_1 a_0.2.1 ca_0_1), (I a_0.2.2)] [] [], Ch.ro 0 (Sl aa_0_1 a_0.2.1 ca_0_1) a_0.2.1] := H
 refine st (v := (pt b5 1)) (rv_fieldAddr (off := 1) (ft := 24) Try.underlying36 rfl ti24 rfl rfl) ?_
 refine st_exS (ex_store_box (k := 1) (cs := [(I a_0.1), (.slice none 0 0), (I 0)]) (vs := [(Sl a13 r10 c14)]) (cs' := [(I a_0.1), (Sl a13 r10 c14), (I 0)]) H (i := 1) rfl ti24 rfl rfl rfl rfl rfl (Nat.le_of_ble_eq_true rfl) (by simp [plain]) rfl) wn ?_
 rintro σ17 ⟨H, -⟩
 refine w_end ?_
 refine q_then ?_
 refine c_seq ?_
 refine rg ?_
 refine st (v := (pt b1 2)) (rv_fieldAddr (off := 2) (ft := 3) Try.underlying49 rfl ti3 rfl rfl) ?_
 have hc18 := H.cell (u := (I a_0.2.2)) (o' := 2) 3 2 rfl rfl rfl
 refine st (v := (I a_0.2.2)) (rv_load1 Try.underlying3 rfl rfl hc18) ?_
 refine st (v := (pt b5 2)) (rv_fieldAddr (off := 2) (ft := 3) Try.underlying36 rfl ti3 rfl rfl) ?_
 refine st_exS (ex_store_box (k := 2) (cs := [(I a_0.1), (Sl a13 r10 c14), (I 0)]) (vs := [(I a_0.2.2)]) (cs' := [(I a_0.1), (Sl a13 r10 c14), (I a_0.2.2)]) H (i := 0) rfl ti3 rfl rfl rfl rfl rfl (Nat.le_of_ble_eq_true rfl) (by simp [plain]) rfl) wn ?_
 rintro σ19 ⟨H, -⟩
 refine w_end ?_
 refine q_then ?_
 refine c_seq ?_
 refine rg ?_
 have hc20 := H.cells 0 rfl
 refine st (v := (.agg #[(I a_0.1), (Sl a13 r10 c14), (I a_0.2.2)])) (rv_load (cs := [(I a_0.1), (Sl a13 r10 c14), (I a_0.2.2)]) Try.underlying36 rfl ti36 rfl rfl hc20) ?_
 refine st_exS (ex_store_box (k := 0) (cs := [(I 0), (.slice none 0 0), (I 0)]) (vs := [(I a_0.1), (Sl a13 r10 c14), (I a_0.2.2)]) (cs' := [(I a_0.1), (Sl a13 r10 c14), (I a_0.2.2)]) H (i := 2) rfl ti36 rfl rfl rfl rfl rfl (Nat.le_of_ble_eq_true rfl) (by simp [plain]) rfl) wn ?_
 rintro σ21 ⟨H, -⟩
 refine w_end ?_
 refine q_then ?_
 refine c_ret ?_
 obtain rfl := Option.some.inj h
 exact fin_ret (v := (.agg #[(I a_0.1), (Sl a13 r10 c14), (I a_0.2.2)])) (results_ok Try.results64 (res_cell rfl (run_cellRes (cs := [(I a_0.1), (Sl a13 r10 c14), (I a_0.2.2)]) Try.underlying36 rfl ti36 rfl (H.cells 0 rfl)) res_nil) rfl) ⟨a13, c14, rfl, rfl, ht15⟩ (H.sel' [2] rfl rfl)

theorem c_laws_toEntry {a_0 : Int × (Int × (List Int) × Int)} {aa_0_1_1 : Option Addr} {ca_0_1_1 : Nat} {r : (Int × (Int × (List Int) × Int))} (h : M.laws_toEntry a_0 = some r) :
    Cal2 Try.prog 27 [(.agg #[(I a_0.1), (I a_0.2.1), (Sl aa_0_1_1 a_0.2.2.1 ca_0_1_1), (I a_0.2.2.2)])] [Ch.ro 0 (Sl aa_0_1_1 a_0.2.2.1 ca_0_1_1) a_0.2.2.1] (fun n0 v L => ∃ (az1 : Option Addr), ∃ (cz2 : Nat), v = (.agg #[(I r.1), (I r.2.1), (Sl az1 r.2.2.1 cz2), (I r.2.2.2)]) ∧ L = [Ch.own n0 n0 (Sl az1 r.2.2.1 cz2) r.2.2.1] ∧ cz2 = r.2.2.1.length) := by
 refine cal2 (n := 12) Try.func27 rfl rfl rfl rfl ?_
 intro S0 σ0 n0 hn0 H
 unfold M.laws_toEntry at h
 refine c_seq ?_
 refine rg ?_
 refine st_ex (ex_box (cs := [(I a_0.1), (I a_0.2.1), (Sl aa_0_1_1 a_0.2.2.1 ca_0_1_1), (I a_0.2.2.2)]) H hn0 rfl rfl) wn ?_
 rintro _ σ2 ⟨b1, rfl, H, -⟩
 refine st_ex (ex_alloc (cs := [(I 0), (I 0), (.slice none 0 0), (I 0)]) H hn0 ti56 rfl) wn ?_
 rintro _ σ4 ⟨b3, rfl, H, -⟩
 refine w_end ?_
 refine q_then ?_
 refine c_seq ?_
 refine rg ?_
 refine st_ex (ex_alloc (cs := [(I 0), (I 0), (.slice none 0 0), (I 0)]) H hn0 ti56 rfl) wn ?_
 rintro _ σ6 ⟨b5, rfl, H, -⟩
 refine w_end ?_
 refine q_then ?_
 refine c_seq ?_
 refine rg ?_
 refine st (v := (pt b1 0)) (rv_fieldAddr (off := 0) (ft := 3) Try.underlying51 rfl ti3 rfl rfl) ?_
 have hc7 := H.cell (u := (I a_0.1)) (o' := 0) 2 0 rfl rfl rfl
 refine st (v := (I a_0.1)) (rv_load1 Try.underlying3 rfl rfl hc7) ?_
 refine st (v := (pt b5 0)) (rv_fieldAddr (off := 0) (ft := 3) Try.underlying56 rfl ti3 rfl rfl) ?_
 refine st_exS (ex_store_box (k := 0) (cs := [(I 0), (I 0), (.slice none 0 0), (I 0)]) (vs := [(I a_0.1)]) (cs' := [(I a_0.1), (I 0), (.slice none 0 0), (I 0)]) H (i := 0) rfl ti3 rfl rfl rfl rfl rfl (Nat.le_of_ble_eq_true rfl) (by simp [plain]) rfl) wn ?_
 rintro σ8 ⟨H, -⟩
 refine w_end ?_
 refine q_then ?_
 refine c_seq ?_
 refine rg ?_
 refine st (v := (pt b1 1)) (rv_fieldAddr (off := 1) (ft := 49) Try.underlying51 rfl ti49 rfl rfl) ?_
 have hc9 := H.part (us := [(I a_0.2.1), (Sl aa_0_1_1 a_0.2.2.1 ca_0_1_1), (I a_0.2.2.2)]) (o' := 1) 2 1 3 rfl rfl rfl rfl
 refine st (v := (.agg #[(I a_0.2.1), (Sl aa_0_1_1 a_0.2.2.1 ca_0_1_1), (I a_0.2.2.2)])) (rv_load (cs := [(I a_0.2.1), (Sl aa_0_1_1 a_0.2.2.1 ca_0_1_1), (I a_0.2.2.2)]) Try.underlying49 rfl ti49 rfl rfl hc9) ?_
 obtain ⟨r10, hx11, h'⟩ := bind_some h
 clear h
 have h := h'; clear h'
 have hc12 := c_laws_toItem (aa_0_1 := aa_0_1_1) (ca_0_1 := ca_0_1_1) hx11
 refine st_call (cx_call hc12 (ent_f hc12.fn rfl) hn0 (show Hp S0 σ0 _ ([Ch.ro 0 (Sl aa_0_1_1 a_0.2.2.1 ca_0_1_1) a_0.2.2.1] ++ [Ch.bx n0 b5 0 [(I a_0.1), (I 0), (.slice none 0 0), (I 0)] [] [], Ch.bx n0 b3 0 [(I 0), (I 0), (.slice none 0 0), (I 0)] [] [], Ch.bx n0 b1 0 [(I a_0.1), (I a_0.2.1), (Sl aa_0_1_1 a_0.2.2.1 ca_0_1_1), (I a_0.2.2.2)] [] [], Ch.ro 0 (Sl aa_0_1_1 a_0.2.2.1 ca_0_1_1) a_0.2.2.1]) from (H.sel' [3, 0, 1, 2, 3] rfl rfl))) wn ?_
 rintro _ σ16 ⟨_, ⟨a13, c14, rfl, rfl, ht15⟩, H, -⟩
 replace H : Hp S0 σ0 σ16 [Ch.own n0 n0 (Sl a13 r10.2.1 c14) r10.2.1, Ch.bx n0 b5 0 [(I a_0.1), (I 0), (.slice none 0 0), (I 0)] [] [], Ch.bx n0 b3 0 [(I 0), (I 0), (.slice none 0 0), (I 0)] [] [], Ch.bx n0 b1 0 [(I a_0.1), (I a_0.2.1), (Sl aa_0_1_1 a_0.2.2.1 ca_0_1_1), (I a_0.2.2.2)] [] [], Ch.ro 0 (Sl aa_0_1_1 a_0.2.2.1 ca_0_1_1) a_0.2.2.1] := H
 refine st (v := (pt b5 1)) (rv_fieldAddr (off := 1) (ft := 36) Try.underlying56 rfl ti36 rfl rfl) ?_
 refine st_exS (ex_store_box (k := 1) (cs := [(I a_0.1), (I 0), (.slice none 0 0), (I 0)]) (vs := [(I r10.1), (Sl a13 r10.2.1 c14), (I r10.2.2)]) (cs' := [(I a_0.1), (I r10.1), (Sl a13 r10.2.1 c14), (I r10.2.2)]) H (i := 1) rfl ti36 rfl rfl rfl rfl rfl (Nat.le_of_ble_eq_true rfl) (by simp [plain]) rfl) wn ?_
 rintro σ17 ⟨H, -⟩
 refine w_end ?_
 refine q_then ?_
 refine c_seq ?_
 refine rg ?_
 have hc18 := H.cells 0 rfl
 refine st (v := (.agg #[(I a_0.1), (I r10.1), (Sl a13 r10.2.1 c14), (I r10.2.2)])) (rv_load (cs := [(I a_0.1), (I r10.1), (Sl a13 r10.2.1 c14), (I r10.2.2)]) Try.underlying56 rfl ti56 rfl rfl hc18) ?_
 refine st_exS (ex_store_box (k := 0) (cs := [(I 0), (I 0), (.slice none 0 0), (I 0)]) (vs := [(I a_0.1), (I r10.1), (Sl a13 r10.2.1 c14), (I r10.2.2)]) (cs' := [(I a_0.1), (I r10.1), (Sl a13 r10.2.1 c14), (I r10.2.2)]) H (i := 2) rfl ti56 rfl rfl rfl rfl rfl (Nat.le_of_ble_eq_true rfl) (by simp [plain]) rfl) wn ?_
 rintro σ19 ⟨H, -⟩
 refine w_end ?_
 refine q_then ?_
 refine c_ret ?_
 obtain rfl := Option.some.inj h
 exact fin_ret (v := (.agg #[(I a_0.1), (I r10.1), (Sl a13 r10.2.1 c14), (I r10.2.2)])) (results_ok Try.results27 (res_cell rfl (run_cellRes (cs := [(I a_0.1), (I r10.1), (Sl a13 r10.2.1 c14), (I r10.2.2)]) Try.underlying56 rfl ti56 rfl (H.cells 0 rfl)) res_nil) rfl) ⟨a13, c14, rfl, rfl, ht15⟩ (H.sel' [2] rfl rfl)

theorem c_laws_toEntryS {a_0 : List (Int × (Int × (List Int) × Int))} {aa_0 : Option Addr} {ca_0 : Nat} {r : (List (Int × (Int × (List Int) × Int)))} (h : M.dEntS a_0 = some r) :
    Cal2 Try.prog 53 [(Sl aa_0 a_0 ca_0)] [Ch.ro 0 (Sl aa_0 a_0 ca_0) a_0] (fun n0 v L => ∃ (az1 : Option Addr), ∃ (cz2 : Nat), ∃ (K : List Ch), v = (Sl az1 r cz2) ∧ L = [Ch.big K] ∧ Dp n0 (Sl az1 r cz2) r K) := by
 obtain ⟨hn, hx, rfl⟩ := dEntS_some h
 clear h
 refine cal2 (n := 23) Try.func53 rfl rfl rfl rfl ?_
 intro S0 σ0 n0 hn0 H
 refine c_seq ?_
 refine rg ?_
 refine st (v := (.slice none 0 0)) (rv_assign rfl) ?_
 refine w_end ?_
 refine q_then ?_
 refine c_seq ?_
 refine rg ?_
 refine st (v := (Sl aa_0 r ca_0)) (rv_move rfl) ?_
 refine st (v := (I (r.length : Int))) (rv_len Try.underlying38 rfl) ?_
 refine st_ex (ex_make (el := n0) (z0 := ((0, (0, (.slice none 0 0), 0)) : Int × (Int × Value × Int))) (zs := [(I 0), (I 0), (.slice none 0 0), (I 0)]) H hn0 Try.underlying23 ti56 rfl rfl (⟨[(I 0)], [(I 0), (.slice none 0 0), (I 0)], rfl, rfl, ⟨[(I 0)], [(.slice none 0 0), (I 0)], rfl, rfl, ⟨[(.slice none 0 0)], [(I 0)], rfl, ⟨rfl, rfl⟩, rfl⟩⟩⟩) (by decide) (gmake_nat _ _ hn) rfl rfl) (wanted_none _ rfl _) ?_
 rintro _ σ6 ⟨b3, c4, rfl, ht5, H, -⟩
 rw [show (Sl (some ⟨b3, 0, none⟩) (List.replicate r.length ((0, (0, (.slice none 0 0), 0)) : Int × (Int × Value × Int))) c4) = (Sl (some ⟨b3, 0, none⟩) r c4) from sl_len (by simp)] at H ⊢
 refine st (v := (Sl (some ⟨b3, 0, none⟩) r c4)) (rv_assign rfl) ?_
 refine w_end ?_
 refine q_then ?_
 refine c_seq ?_
 refine c_seq ?_
 refine rg ?_
 refine st (v := (I 0)) (rv_assign rfl) ?_
 refine w_end ?_
 refine q_then ?_
 refine c_cut (fun e a w => e = .normal ∧ ∃ (ρ : Nat → Value) (σ : St) (ps : List ((Int × (Int × (List Int) × Int)) × Value)), a = fr 23 (updL ρ [(3, (Sl (some ⟨b3, 0, none⟩) r c4))]) ∧ w = σ.w ∧ ps.map (·.1) = r ∧ Hp S0 σ0 σ [Ch.own n0 n0 (Sl (some ⟨b3, 0, none⟩) r c4) (ps.map dsh), Ch.big (ps.map (dow n0))]) ?_ ?_
 ·refine c_blk ?_
  refine wp_loop_ghost (fun k a w => ∃ (i : Nat) (ρ : Nat → Value) (σ : St) (ps : List ((Int × (Int × (List Int) × Int)) × Value)), i + k = r.length ∧ ps.length = i ∧ ps.map (·.1) = r.take i ∧ a = fr 23 (updL ρ [(0, (Sl aa_0 r ca_0)), (3, (Sl (some ⟨b3, 0, none⟩) r c4)), (4, (I (i : Int)))]) ∧ w = σ.w ∧ Hp S0 σ0 σ [Ch.own n0 n0 (Sl (some ⟨b3, 0, none⟩) r c4) (ps.map dsh ++ List.replicate k ((0, (0, (.slice none 0 0), 0)) : Int × (Int × Value × Int))), Ch.ro 0 (Sl aa_0 r ca_0) r, Ch.big (ps.map (dow n0))]) r.length ⟨0, _, σ6, [], by omega, rfl, rfl, fr_join ⟨rfl, rfl, rfl, trivial⟩, rfl, H.bigNil.sel' [1, 2, 0] rfl rfl⟩ ?_
  clear H
  rintro k _ _ ⟨i, ρ, σ9, ps, hik, hps, hpr, rfl, rfl, H⟩
  refine c_seq ?_
  refine c_seq ?_
  refine rg ?_
  refine st (v := (I (i : Int))) (rv_move rfl) ?_
  refine st (v := (Sl aa_0 r ca_0)) (rv_move rfl) ?_
  refine st (v := (I (r.length : Int))) (rv_len Try.underlying38 rfl) ?_
  refine st (v := (B (decide ((i : Int) < (r.length : Int))))) (rv_lss (a := (i : Int)) (b := (r.length : Int)) rfl rfl) ?_
  refine w_end ?_
  refine q_then ?_
  refine cd_cond (decide ((i : Int) < (r.length : Int))) rfl (fun hb => ?_) (fun hb => ?_)
  ·have hlt : i < r.length := by have := of_decide_eq_true hb; omega
   obtain ⟨m, rfl⟩ : ∃ m, k = m + 1 := ⟨k - 1, by omega⟩
   refine c_skip ?_
   refine q_then ?_
   refine c_seq ?_
   refine c_blk ?_
   refine rg ?_
   refine st (v := (Sl (some ⟨b3, 0, none⟩) r c4)) (rv_move rfl) ?_
   refine st (v := (I (i : Int))) (rv_move rfl) ?_
   refine st (v := (Sl aa_0 r ca_0)) (rv_move rfl) ?_
   refine st (v := (I (i : Int))) (rv_move rfl) ?_
   have hx14 : gidx r (i : Int) = some r[i] := gidx_at hlt
   have hx24 := hx _ (List.getElem_mem hlt)
   have hpt : (ps.map (·.1)) ++ [r[i]] = r.take (i + 1) := by rw [hpr, List.take_succ_eq_append_getElem hlt]
   generalize r[i] = x13 at hx14 hx24 hpt
   obtain ⟨b16, o17, hi15, -⟩ := (H.ro 1 rfl).ix hx14
   refine st (v := (pt b16 o17)) (rv_ix Try.underlying38 ti51 rfl rfl hi15) ?_
   obtain ⟨_, ⟨_, _, rfl, rfl, ⟨_, _, rfl, rfl, ⟨_, _, rfl, ⟨_, rfl, hR22⟩, rfl⟩⟩⟩, hl18, hc19⟩ := ((H.ro 1 rfl).at hx14 hi15).cells
   obtain ⟨a20, c21, rfl⟩ := hR22.isSl
   replace H := H.add (d := Ch.ro 0 (Sl a20 x13.2.2.1 c21) x13.2.2.1) hR22 (fun _ h => h)
   clear hR22
   refine st (v := (.agg #[(I x13.1), (I x13.2.1), (Sl a20 x13.2.2.1 c21), (I x13.2.2.2)])) (rv_load Try.underlying51 rfl ti51 rfl hl18 hc19) ?_
   have hc25 := c_laws_toEntry (aa_0_1_1 := a20) (ca_0_1_1 := c21) hx24
   refine st_call (cx_call hc25 (ent_f hc25.fn rfl) hn0 (H.sel' [0, 1, 2, 3] rfl rfl : Hp S0 σ0 _ ([_] ++ _))) (wanted_none _ rfl _) ?_
   rintro _ σ29 ⟨_, ⟨a26, c27, rfl, rfl, ht28⟩, H, -⟩
   replace H : Hp S0 σ0 σ29 [Ch.own n0 n0 (Sl a26 x13.2.2.1 c27) x13.2.2.1, Ch.own n0 n0 (Sl (some ⟨b3, 0, none⟩) r c4) (ps.map dsh ++ List.replicate (m + 1) ((0, (0, (.slice none 0 0), 0)) : Int × (Int × Value × Int))), Ch.ro 0 (Sl aa_0 r ca_0) r, Ch.big (ps.map (dow n0))] := H
   have hx31 := gidx_step (ps.map dsh) ((0, (0, (.slice none 0 0), 0)) : Int × (Int × Value × Int)) m (i : Int) (by simp [hps])
   obtain ⟨b33, o34, hi32, -⟩ := (H.own 1 rfl).ix hx31
   refine st (v := (pt b33 o34)) (rv_ix Try.underlying23 ti56 rfl rfl hi32) ?_
   refine st_exS (ex_store_own (e' := ((x13.1, (x13.2.1, (Sl a26 x13.2.2.1 c27), x13.2.2.2)) : Int × (Int × Value × Int))) (vs := [(I x13.1), (I x13.2.1), (Sl a26 x13.2.2.1 c27), (I x13.2.2.2)]) (k := 0) H (i := 1) rfl ti56 hx31 hi32 rfl rfl rfl rfl rfl (Nat.le_of_ble_eq_true rfl) (by simp [plain]) (by rintro _ ⟨_, _, rfl, rfl, ⟨_, _, rfl, rfl, ⟨_, _, rfl, ⟨rfl, -⟩, rfl⟩⟩⟩; exact ⟨[(I x13.1)], [(I x13.2.1), (Sl a26 x13.2.2.1 c27), (I x13.2.2.2)], rfl, rfl, ⟨[(I x13.2.1)], [(Sl a26 x13.2.2.1 c27), (I x13.2.2.2)], rfl, rfl, ⟨[(Sl a26 x13.2.2.1 c27)], [(I x13.2.2.2)], rfl, ⟨rfl, rfl⟩, rfl⟩⟩⟩)) (wanted_none _ rfl _) ?_
   rintro σ40 ⟨H, -⟩
   refine w_end ?_
   refine q_blk ?_
   refine q_then ?_
   refine rg ?_
   refine st (v := (I (i : Int))) (rv_move rfl) ?_
   refine st (v := (I (w64 ((i : Int) + 1)))) (rv_add (a := (i : Int)) (b := 1) rfl rfl) ?_
   refine st (v := (I (w64 ((i : Int) + 1)))) (rv_assign rfl) ?_
   refine w_end ?_
   have e1 : w64 ((i : Int) + 1) = ((i + 1 : Nat) : Int) := w64_id (by omega) (by omega)
   rw [e1]
   refine q_then ?_
   have hset := set_step (ps.map dsh) ((0, (0, (.slice none 0 0), 0)) : Int × (Int × Value × Int)) (x13.1, (x13.2.1, (Sl a26 x13.2.2.1 c27), x13.2.2.2)) m
   rw [List.length_map, hps] at hset
   refine ⟨m, by omega, i + 1, _, σ40, ps ++ [(x13, (Sl a26 x13.2.2.1 c27))], by omega, by simp [hps], by simpa using hpt, fr_join ⟨rfl, rfl, rfl, trivial⟩, rfl, ?_⟩
   replace H := Hp.bigSnoc (H.sel' [1, 3, 0, 2] rfl rfl)
   replace H := H.sel' [1, 2, 0] rfl rfl
   simp only [Int.toNat_natCast, hset] at H
   rw [List.map_append, List.map_append]
   exact H
  ·have hlt : ¬ i < r.length := by have := of_decide_eq_false hb; omega
   obtain rfl : k = 0 := by omega
   obtain rfl : i = r.length := by omega
   refine c_exit ?_
   refine q_then_x ?_
   refine q_then_x ?_
   refine q_blk_hit ?_
   rw [List.take_length] at hpr
   simp only [List.replicate_zero, List.append_nil] at H
   exact ⟨rfl, _, σ9, ps, fr_join ⟨rfl, trivial⟩, rfl, hpr, H.sel' [0, 2] rfl rfl⟩
 ·clear H
  rintro e a w ⟨rfl, ρ, σ41, ps, rfl, rfl, hps, H⟩
  refine q_then ?_
  refine c_seq ?_
  refine rg ?_
  refine st (v := (Sl (some ⟨b3, 0, none⟩) r c4)) (rv_move rfl) ?_
  refine st (v := (Sl (some ⟨b3, 0, none⟩) r c4)) (rv_assign rfl) ?_
  refine w_end ?_
  refine q_then ?_
  refine c_ret ?_
  exact fin_ret (v := (Sl (some ⟨b3, 0, none⟩) r c4)) (results_ok Try.results53 (res_tmp (v := (Sl (some ⟨b3, 0, none⟩) r c4)) rfl res_nil) rfl) ⟨(some ⟨b3, 0, none⟩), c4, _, rfl, rfl, ⟨ps, hps.symm, rfl⟩⟩ H.bigCons


theorem c_laws_toHistoryD {a_0 : (List (Int × (Int × (List Int) × Int))) × (List Int)} {aa_0_0 : Option Addr} {ca_0_0 : Nat} {aa_0_1 : Option Addr} {ca_0_1 : Nat} {r : ((List (Int × (Int × (List Int) × Int))) × (List Int))} (h : M.laws_toHistoryD a_0 = some r) :
    Cal2 Try.prog 18 [(.agg #[(Sl aa_0_0 a_0.1 ca_0_0), (Sl aa_0_1 a_0.2 ca_0_1)])] [Ch.ro 0 (Sl aa_0_0 a_0.1 ca_0_0) a_0.1, Ch.ro 0 (Sl aa_0_1 a_0.2 ca_0_1) a_0.2] (fun n0 v L => ∃ (az1 : Option Addr), ∃ (cz2 : Nat), ∃ (Kz3 : List Ch), ∃ (az5 : Option Addr), ∃ (cz6 : Nat), v = (.agg #[(Sl az1 r.1 cz2), (Sl az5 r.2 cz6)]) ∧ L = [Ch.big Kz3, Ch.own n0 n0 (Sl az5 r.2 cz6) r.2] ∧ Dp 0 (Sl az1 r.1 cz2) r.1 Kz3 ∧ cz6 = r.2.length) := by
 refine cal2 (n := 13) Try.func18 rfl rfl rfl rfl ?_
 intro S0 σ0 n0 hn0 H
 unfold M.laws_toHistoryD at h
 refine c_seq ?_
 refine rg ?_
 refine st_ex (ex_box (cs := [(Sl aa_0_0 a_0.1 ca_0_0), (Sl aa_0_1 a_0.2 ca_0_1)]) H hn0 rfl rfl) wn ?_
 rintro _ σ2 ⟨b1, rfl, H, -⟩
 refine st_ex (ex_alloc (cs := [(.slice none 0 0), (.slice none 0 0)]) H hn0 ti26 rfl) wn ?_
 rintro _ σ4 ⟨b3, rfl, H, -⟩
 refine w_end ?_
 refine q_then ?_
 refine c_seq ?_
 refine rg ?_
 refine st_ex (ex_alloc (cs := [(.slice none 0 0), (.slice none 0 0)]) H hn0 ti26 rfl) wn ?_
 rintro _ σ6 ⟨b5, rfl, H, -⟩
 refine w_end ?_
 refine q_then ?_
 refine c_seq ?_
 refine rg ?_
 refine st (v := (pt b1 0)) (rv_fieldAddr (off := 0) (ft := 38) Try.underlying40 rfl ti38 rfl rfl) ?_
 have hc7 := H.cell (u := (Sl aa_0_0 a_0.1 ca_0_0)) (o' := 0) 2 0 rfl rfl rfl
 refine st (v := (Sl aa_0_0 a_0.1 ca_0_0)) (rv_load1 Try.underlying38 rfl rfl hc7) ?_
 obtain ⟨r8, hx9, h'⟩ := bind_some h
 clear h
 have h := h'; clear h'
 have hc10 := c_laws_toEntryS (aa_0 := aa_0_0) (ca_0 := ca_0_0) hx9
 refine st_call (cx_call hc10 (ent_f hc10.fn rfl) hn0 (show Hp S0 σ0 _ ([Ch.ro 0 (Sl aa_0_0 a_0.1 ca_0_0) a_0.1] ++ [Ch.bx n0 b5 0 [(.slice none 0 0), (.slice none 0 0)] [] [], Ch.bx n0 b3 0 [(.slice none 0 0), (.slice none 0 0)] [] [], Ch.bx n0 b1 0 [(Sl aa_0_0 a_0.1 ca_0_0), (Sl aa_0_1 a_0.2 ca_0_1)] [] [], Ch.ro 0 (Sl aa_0_0 a_0.1 ca_0_0) a_0.1, Ch.ro 0 (Sl aa_0_1 a_0.2 ca_0_1) a_0.2]) from (H.sel' [3, 0, 1, 2, 3, 4] rfl rfl))) wn ?_
 rintro _ σ15 ⟨_, ⟨a11, c12, K13, rfl, rfl, hK14⟩, H, -⟩
 replace H : Hp S0 σ0 σ15 [Ch.big K13, Ch.bx n0 b5 0 [(.slice none 0 0), (.slice none 0 0)] [] [], Ch.bx n0 b3 0 [(.slice none 0 0), (.slice none 0 0)] [] [], Ch.bx n0 b1 0 [(Sl aa_0_0 a_0.1 ca_0_0), (Sl aa_0_1 a_0.2 ca_0_1)] [] [], Ch.ro 0 (Sl aa_0_0 a_0.1 ca_0_0) a_0.1, Ch.ro 0 (Sl aa_0_1 a_0.2 ca_0_1) a_0.2] := H
 refine st (v := (pt b5 0)) (rv_fieldAddr (off := 0) (ft := 23) Try.underlying26 rfl ti23 rfl rfl) ?_
 refine st_exS (ex_store_box (k := 0) (cs := [(.slice none 0 0), (.slice none 0 0)]) (vs := [(Sl a11 r8 c12)]) (cs' := [(Sl a11 r8 c12), (.slice none 0 0)]) H (i := 1) rfl ti23 rfl rfl rfl rfl rfl (Nat.le_of_ble_eq_true rfl) (by simp [plain]) rfl) wn ?_
 rintro σ16 ⟨H, -⟩
 refine w_end ?_
 refine q_then ?_
 refine c_seq ?_
 refine rg ?_
 refine st (v := (pt b1 1)) (rv_fieldAddr (off := 1) (ft := 24) Try.underlying40 rfl ti24 rfl rfl) ?_
 have hc17 := H.cell (u := (Sl aa_0_1 a_0.2 ca_0_1)) (o' := 1) 3 1 rfl rfl rfl
 refine st (v := (Sl aa_0_1 a_0.2 ca_0_1)) (rv_load1 Try.underlying24 rfl rfl hc17) ?_
 obtain ⟨r18, hx19, h'⟩ := bind_some h
 clear h
 have h := h'; clear h'
 have hc20 := c_laws_toIntS (aa_0 := aa_0_1) (ca_0 := ca_0_1) hx19
 refine st_call (cx_call hc20 (ent_f hc20.fn rfl) hn0 (show Hp S0 σ0 _ ([Ch.ro 0 (Sl aa_0_1 a_0.2 ca_0_1) a_0.2] ++ [Ch.bx n0 b5 0 [(Sl a11 r8 c12), (.slice none 0 0)] [] [], Ch.big K13, Ch.bx n0 b3 0 [(.slice none 0 0), (.slice none 0 0)] [] [], Ch.bx n0 b1 0 [(Sl aa_0_0 a_0.1 ca_0_0), (Sl aa_0_1 a_0.2 ca_0_1)] [] [], Ch.ro 0 (Sl aa_0_0 a_0.1 ca_0_0) a_0.1, Ch.ro 0 (Sl aa_0_1 a_0.2 ca_0_1) a_0.2]) from (H.sel' [5, 0, 1, 2, 3, 4, 5] rfl rfl))) wn ?_
 rintro _ σ24 ⟨_, ⟨a21, c22, rfl, rfl, ht23⟩, H, -⟩
 replace H : Hp S0 σ0 σ24 [Ch.own n0 n0 (Sl a21 r18 c22) r18, Ch.bx n0 b5 0 [(Sl a11 r8 c12), (.slice none 0 0)] [] [], Ch.big K13, Ch.bx n0 b3 0 [(.slice none 0 0), (.slice none 0 0)] [] [], Ch.bx n0 b1 0 [(Sl aa_0_0 a_0.1 ca_0_0), (Sl aa_0_1 a_0.2 ca_0_1)] [] [], Ch.ro 0 (Sl aa_0_0 a_0.1 ca_0_0) a_0.1, Ch.ro 0 (Sl aa_0_1 a_0.2 ca_0_1) a_0.2] := H
 refine st (v := (pt b5 1)) (rv_fieldAddr (off := 1) (ft := 24) Try.underlying26 rfl ti24 rfl rfl) ?_
 refine st_exS (ex_store_box (k := 1) (cs := [(Sl a11 r8 c12), (.slice none 0 0)]) (vs := [(Sl a21 r18 c22)]) (cs' := [(Sl a11 r8 c12), (Sl a21 r18 c22)]) H (i := 1) rfl ti24 rfl rfl rfl rfl rfl (Nat.le_of_ble_eq_true rfl) (by simp [plain]) rfl) wn ?_
 rintro σ25 ⟨H, -⟩
 refine w_end ?_
 refine q_then ?_
 refine c_seq ?_
 refine rg ?_
 have hc26 := H.cells 0 rfl
 refine st (v := (.agg #[(Sl a11 r8 c12), (Sl a21 r18 c22)])) (rv_load (cs := [(Sl a11 r8 c12), (Sl a21 r18 c22)]) Try.underlying26 rfl ti26 rfl rfl hc26) ?_
 refine st_exS (ex_store_box (k := 0) (cs := [(.slice none 0 0), (.slice none 0 0)]) (vs := [(Sl a11 r8 c12), (Sl a21 r18 c22)]) (cs' := [(Sl a11 r8 c12), (Sl a21 r18 c22)]) H (i := 3) rfl ti26 rfl rfl rfl rfl rfl (Nat.le_of_ble_eq_true rfl) (by simp [plain]) rfl) wn ?_
 rintro σ27 ⟨H, -⟩
 refine w_end ?_
 refine q_then ?_
 refine c_ret ?_
 obtain ⟨K28, hK29, H⟩ := H.dpLow (lo' := 0) 3 rfl hK14 (Nat.zero_le _)
 obtain rfl := Option.some.inj h
 exact fin_ret (v := (.agg #[(Sl a11 r8 c12), (Sl a21 r18 c22)])) (results_ok Try.results18 (res_cell rfl (run_cellRes (cs := [(Sl a11 r8 c12), (Sl a21 r18 c22)]) Try.underlying26 rfl ti26 rfl (H.cells 1 rfl)) res_nil) rfl) ⟨a11, c12, K28, a21, c22, rfl, rfl, hK29, ht23⟩ (H.sel' [0, 3] rfl rfl)

theorem c_laws_eqIntS {a_0 : List Int} {b_1 : List Int} {aa_0 : Option Addr} {ca_0 : Nat} {ab_1 : Option Addr} {cb_1 : Nat} {r : Bool} (h : M.laws_eqIntS a_0 b_1 = some r) :
    Cal2 Try.prog 34 [(Sl aa_0 a_0 ca_0), (Sl ab_1 b_1 cb_1)] [Ch.ro 0 (Sl aa_0 a_0 ca_0) a_0, Ch.ro 0 (Sl ab_1 b_1 cb_1) b_1] (fun n0 v L => v = (B r) ∧ L = []) := by
 refine cal2 (n := 26) Try.func34 rfl rfl rfl rfl ?_
 intro S0 σ0 n0 hn0 H
 unfold M.laws_eqIntS at h
 refine c_seq ?_
 refine rg ?_
 refine st (v := (B false)) (rv_assign rfl) ?_
 refine w_end ?_
 refine q_then ?_
 refine c_seq ?_
 refine c_seq ?_
 refine rg ?_
 refine st (v := (Sl aa_0 a_0 ca_0)) (rv_move rfl) ?_
 refine st (v := (I (a_0.length : Int))) (rv_len Try.underlying24 rfl) ?_
 refine st (v := (Sl ab_1 b_1 cb_1)) (rv_move rfl) ?_
 refine st (v := (I (b_1.length : Int))) (rv_len Try.underlying24 rfl) ?_
 refine st (v := (B ((a_0.length : Int) != (b_1.length : Int)))) (rv_neq (a := (a_0.length : Int)) (b := (b_1.length : Int)) rfl rfl) ?_
 refine w_end ?_
 refine q_then ?_
 refine cd_cond ((a_0.length : Int) != (b_1.length : Int)) rfl (fun hb1 => ?_) (fun hb1 => ?_)
 ·replace h := bif_t hb1 h
  refine c_seq ?_
  refine rg ?_
  refine st (v := (B false)) (rv_assign rfl) ?_
  refine w_end ?_
  refine q_then ?_
  refine c_ret ?_
  refine q_then_r ?_
  obtain rfl := Option.some.inj h
  exact fin_ret (v := (B false)) (results_ok Try.results34 (res_tmp (v := (B false)) rfl res_nil) rfl) ⟨rfl, rfl⟩ (H.sel' [] rfl rfl)
 ·replace h := bif_f hb1 h
  refine c_skip ?_
  refine q_then ?_
  refine c_seq ?_
  refine c_seq ?_
  refine rg ?_
  refine st (v := (I 0)) (rv_assign rfl) ?_
  refine w_end ?_
  refine q_then ?_
  obtain ⟨o2, hj, h'⟩ := bind_some h
  clear h
  refine c_cut (fun e a w => (∃ t, o2 = (.inl t) ∧ e = .normal ∧ ∃ (ρ : Nat → Value) (σ : St), a = fr 26 (updL ρ []) ∧ w = σ.w ∧ Hp S0 σ0 σ []) ∨ (∃ t, o2 = (.inr t) ∧ e = .ret ∧ ∃ (ρ : Nat → Value) (σ : St), a = fr 26 (updL ρ [(4, (B t))]) ∧ w = σ.w ∧ Hp S0 σ0 σ [])) ?_ ?_
  ·clear h'
   rename _ = some o2 => h
   refine c_blk ?_
   refine wp_loopM _ h (fun s3 a w => ∃ (ρ : Nat → Value) (σ : St), a = fr 26 (updL ρ [(0, (Sl aa_0 a_0 ca_0)), (1, (Sl ab_1 b_1 cb_1)), (5, (I s3))]) ∧ w = σ.w ∧ Hp S0 σ0 σ [Ch.ro 0 (Sl aa_0 a_0 ca_0) a_0, Ch.ro 0 (Sl ab_1 b_1 cb_1) b_1]) ⟨_, σ0, fr_join ⟨rfl, rfl, rfl, trivial⟩, rfl, H.sel' [0, 1] rfl rfl⟩ ?_
   clear h H
   rintro s3 a w o ⟨ρ, σ4, rfl, rfl, H⟩ h hres
   refine c_seq ?_
   refine c_seq ?_
   refine rg ?_
   refine st (v := (I s3)) (rv_move rfl) ?_
   refine st (v := (Sl aa_0 a_0 ca_0)) (rv_move rfl) ?_
   refine st (v := (I (a_0.length : Int))) (rv_len Try.underlying24 rfl) ?_
   refine st (v := (B (decide (s3 < (a_0.length : Int))))) (rv_lss (a := s3) (b := (a_0.length : Int)) rfl rfl) ?_
   refine w_end ?_
   refine q_then ?_
   refine cd_cond (decide (s3 < (a_0.length : Int))) rfl (fun hb5 => ?_) (fun hb5 => ?_)
   ·replace h := bif_t hb5 h
    refine c_skip ?_
    refine q_then ?_
    refine c_seq ?_
    refine c_blk ?_
    refine c_seq ?_
    refine rgP (σ := σ4) 8 (by kernel_rfl) (by kernel_rfl) (by kernel_rfl) ?_
    refine sq (v := (Sl aa_0 a_0 ca_0)) (rv_move rfl) ?_
    refine sq (v := (I s3)) (rv_move rfl) ?_
    obtain ⟨x6, hx7, h'⟩ := bind_some h
    clear h
    have h := h'; clear h'
    obtain ⟨b9, o10, hi8, -⟩ := (H.ro 0 rfl).ix hx7
    refine sq (v := (pt b9 o10)) (rv_ix Try.underlying24 ti3 rfl rfl hi8) ?_
    have hc11 := ((H.ro 0 rfl).at hx7 hi8).int
    refine sq (v := (I x6)) (rv_load1 Try.underlying3 rfl rfl hc11) ?_
    refine sq (v := (Sl ab_1 b_1 cb_1)) (rv_move rfl) ?_
    refine sq (v := (I s3)) (rv_move rfl) ?_
    obtain ⟨x12, hx13, h'⟩ := bind_some h
    clear h
    have h := h'; clear h'
    obtain ⟨b15, o16, hi14, -⟩ := (H.ro 1 rfl).ix hx13
    refine sq (v := (pt b15 o16)) (rv_ix Try.underlying24 ti3 rfl rfl hi14) ?_
    have hc17 := ((H.ro 1 rfl).at hx13 hi14).int
    refine sq (v := (I x12)) (rv_load1 Try.underlying3 rfl rfl hc17) ?_
    refine sq_end ?_
    intro σ18 hm19
    replace H := H.grow (hm19.mono fun _ h => h); clear hm19
    refine st (v := (B (x6 != x12))) (rv_neq (a := x6) (b := x12) rfl rfl) ?_
    refine w_end ?_
    refine q_then ?_
    refine cd_cond (x6 != x12) rfl (fun hb20 => ?_) (fun hb20 => ?_)
    ·replace h := bif_t hb20 h
     refine c_seq ?_
     refine rg ?_
     refine st (v := (B false)) (rv_assign rfl) ?_
     refine w_end ?_
     refine q_then ?_
     refine c_ret ?_
     refine q_blk_r ?_
     refine q_then_r ?_
     refine q_then_r ?_
     refine q_blk_r ?_
     obtain rfl := Option.some.inj h
     obtain rfl := hres _ rfl
     exact .inr (⟨_, rfl, rfl, _, σ18, fr_join ⟨rfl, trivial⟩, rfl, H.sel' [] rfl rfl⟩)
    ·replace h := bif_f hb20 h
     refine c_skip ?_
     refine q_blk ?_
     refine q_then ?_
     refine rg ?_
     refine st (v := (I s3)) (rv_move rfl) ?_
     refine st (v := (I (w64 (s3 + 1)))) (rv_add (a := s3) (b := 1) rfl rfl) ?_
     refine st (v := (I (w64 (s3 + 1)))) (rv_assign rfl) ?_
     refine w_end ?_
     refine q_then ?_
     obtain rfl := Option.some.inj h
     exact ⟨_, rfl, _, σ18, fr_join ⟨rfl, rfl, rfl, trivial⟩, rfl, H.sel' [0, 1] rfl rfl⟩
   ·replace h := bif_f hb5 h
    refine c_exit ?_
    refine q_then_x ?_
    refine q_then_x ?_
    refine q_blk_hit ?_
    obtain rfl := Option.some.inj h
    obtain rfl := hres _ rfl
    exact .inl ⟨_, rfl, rfl, _, σ4, fr_join trivial, rfl, H.sel' [] rfl rfl⟩
  ·clear hj
   have h := h'
   clear h' H
   rintro e a w (⟨t21, rfl, rfl, ρ, σ22, rfl, rfl, H⟩ | ⟨t23, rfl, rfl, ρ, σ24, rfl, rfl, H⟩)
   ·replace h := selim_l h
    refine q_then ?_
    refine c_seq ?_
    refine rg ?_
    refine st (v := (B true)) (rv_assign rfl) ?_
    refine w_end ?_
    refine q_then ?_
    refine c_ret ?_
    obtain rfl := Option.some.inj h
    exact fin_ret (v := (B true)) (results_ok Try.results34 (res_tmp (v := (B true)) rfl res_nil) rfl) ⟨rfl, rfl⟩ (H.sel' [] rfl rfl)
   ·replace h := selim_r h
    refine q_then_r ?_
    obtain rfl := Option.some.inj h
    exact fin_ret (v := (B t23)) (results_ok Try.results34 (res_tmp (v := (B t23)) rfl res_nil) rfl) ⟨rfl, rfl⟩ (H.sel' [] rfl rfl)

theorem c_laws_eqItem {a_0 : Int × (List Int) × Int} {b_1 : Int × (List Int) × Int} {aa_0_1 : Option Addr} {ca_0_1 : Nat} {ab_1_1 : Option Addr} {cb_1_1 : Nat} {r : Bool} (h : M.laws_eqItem a_0 b_1 = some r) :
    Cal2 Try.prog 58 [(.agg #[(I a_0.1), (Sl aa_0_1 a_0.2.1 ca_0_1), (I a_0.2.2)]), (.agg #[(I b_1.1), (Sl ab_1_1 b_1.2.1 cb_1_1), (I b_1.2.2)])] [Ch.ro 0 (Sl aa_0_1 a_0.2.1 ca_0_1) a_0.2.1, Ch.ro 0 (Sl ab_1_1 b_1.2.1 cb_1_1) b_1.2.1] (fun n0 v L => v = (B r) ∧ L = []) := by
 refine cal2 (n := 21) Try.func58 rfl rfl rfl rfl ?_
 intro S0 σ0 n0 hn0 H
 unfold M.laws_eqItem at h
 refine c_seq ?_
 refine rg ?_
 refine st_ex (ex_box (cs := [(I a_0.1), (Sl aa_0_1 a_0.2.1 ca_0_1), (I a_0.2.2)]) H hn0 rfl rfl) wn ?_
 rintro _ σ2 ⟨b1, rfl, H, -⟩
 refine st_ex (ex_box (cs := [(I b_1.1), (Sl ab_1_1 b_1.2.1 cb_1_1), (I b_1.2.2)]) H hn0 rfl rfl) wn ?_
 rintro _ σ4 ⟨b3, rfl, H, -⟩
 refine st (v := (B false)) (rv_assign rfl) ?_
 refine w_end ?_
 refine q_then ?_
 refine c_seq ?_
 refine c_seq ?_
 refine rg ?_
 refine st (v := (pt b1 0)) (rv_fieldAddr (off := 0) (ft := 3) Try.underlying36 rfl ti3 rfl rfl) ?_
 have hc5 := H.cell (u := (I a_0.1)) (o' := 0) 1 0 rfl rfl rfl
 refine st (v := (I a_0.1)) (rv_load1 Try.underlying3 rfl rfl hc5) ?_
 refine st (v := (pt b3 0)) (rv_fieldAddr (off := 0) (ft := 3) Try.underlying36 rfl ti3 rfl rfl) ?_
 have hc6 := H.cell (u := (I b_1.1)) (o' := 0) 0 0 rfl rfl rfl
 refine st (v := (I b_1.1)) (rv_load1 Try.underlying3 rfl rfl hc6) ?_
 refine st (v := (B (a_0.1 != b_1.1))) (rv_neq (a := a_0.1) (b := b_1.1) rfl rfl) ?_
 refine w_end ?_
 refine q_then ?_
 refine cd_cond (a_0.1 != b_1.1) rfl (fun hb7 => ?_) (fun hb7 => ?_)
 ·replace h := bif_t hb7 h
  refine c_seq ?_
  refine rg ?_
  refine st (v := (B false)) (rv_assign rfl) ?_
  refine w_end ?_
  refine q_then ?_
  refine c_ret ?_
  refine q_then_r ?_
  obtain rfl := Option.some.inj h
  exact fin_ret (v := (B false)) (results_ok Try.results58 (res_tmp (v := (B false)) rfl res_nil) rfl) ⟨rfl, rfl⟩ (H.sel' [] rfl rfl)
 ·replace h := bif_f hb7 h
  refine c_skip ?_
  refine q_then ?_
  refine c_seq ?_
  refine c_seq ?_
  refine rg ?_
  refine st (v := (pt b1 1)) (rv_fieldAddr (off := 1) (ft := 24) Try.underlying36 rfl ti24 rfl rfl) ?_
  have hc8 := H.cell (u := (Sl aa_0_1 a_0.2.1 ca_0_1)) (o' := 1) 1 1 rfl rfl rfl
  refine st (v := (Sl aa_0_1 a_0.2.1 ca_0_1)) (rv_load1 Try.underlying24 rfl rfl hc8) ?_
  refine st (v := (pt b3 1)) (rv_fieldAddr (off := 1) (ft := 24) Try.underlying36 rfl ti24 rfl rfl) ?_
  have hc9 := H.cell (u := (Sl ab_1_1 b_1.2.1 cb_1_1)) (o' := 1) 0 1 rfl rfl rfl
  refine st (v := (Sl ab_1_1 b_1.2.1 cb_1_1)) (rv_load1 Try.underlying24 rfl rfl hc9) ?_
  obtain ⟨r10, hx11, h'⟩ := bind_some h
  clear h
  have h := h'; clear h'
  have hc12 := c_laws_eqIntS (aa_0 := aa_0_1) (ca_0 := ca_0_1) (ab_1 := ab_1_1) (cb_1 := cb_1_1) hx11
  refine st_call (cx_call hc12 (ent_f hc12.fn rfl) hn0 (show Hp S0 σ0 _ ([Ch.ro 0 (Sl aa_0_1 a_0.2.1 ca_0_1) a_0.2.1, Ch.ro 0 (Sl ab_1_1 b_1.2.1 cb_1_1) b_1.2.1] ++ [Ch.bx n0 b3 0 [(I b_1.1), (Sl ab_1_1 b_1.2.1 cb_1_1), (I b_1.2.2)] [] [], Ch.bx n0 b1 0 [(I a_0.1), (Sl aa_0_1 a_0.2.1 ca_0_1), (I a_0.2.2)] [] [], Ch.ro 0 (Sl aa_0_1 a_0.2.1 ca_0_1) a_0.2.1, Ch.ro 0 (Sl ab_1_1 b_1.2.1 cb_1_1) b_1.2.1]) from (H.sel' [2, 3, 0, 1, 2, 3] rfl rfl))) wn ?_
  rintro _ σ13 ⟨_, ⟨rfl, rfl⟩, H, -⟩
  replace H : Hp S0 σ0 σ13 [Ch.bx n0 b3 0 [(I b_1.1), (Sl ab_1_1 b_1.2.1 cb_1_1), (I b_1.2.2)] [] [], Ch.bx n0 b1 0 [(I a_0.1), (Sl aa_0_1 a_0.2.1 ca_0_1), (I a_0.2.2)] [] [], Ch.ro 0 (Sl aa_0_1 a_0.2.1 ca_0_1) a_0.2.1, Ch.ro 0 (Sl ab_1_1 b_1.2.1 cb_1_1) b_1.2.1] := H
  refine st (v := (B (!r10))) (rv_not rfl) ?_
  refine w_end ?_
  refine q_then ?_
  refine cd_cond (!r10) rfl (fun hb14 => ?_) (fun hb14 => ?_)
  ·replace h := bif_t hb14 h
   refine c_seq ?_
   refine rg ?_
   refine st (v := (B false)) (rv_assign rfl) ?_
   refine w_end ?_
   refine q_then ?_
   refine c_ret ?_
   refine q_then_r ?_
   obtain rfl := Option.some.inj h
   exact fin_ret (v := (B false)) (results_ok Try.results58 (res_tmp (v := (B false)) rfl res_nil) rfl) ⟨rfl, rfl⟩ (H.sel' [] rfl rfl)
  ·replace h := bif_f hb14 h
   refine c_skip ?_
   refine q_then ?_
   refine c_seq ?_
   refine c_seq ?_
   refine rg ?_
   refine st (v := (pt b1 2)) (rv_fieldAddr (off := 2) (ft := 3) Try.underlying36 rfl ti3 rfl rfl) ?_
   have hc15 := H.cell (u := (I a_0.2.2)) (o' := 2) 1 2 rfl rfl rfl
   refine st (v := (I a_0.2.2)) (rv_load1 Try.underlying3 rfl rfl hc15) ?_
   refine st (v := (pt b3 2)) (rv_fieldAddr (off := 2) (ft := 3) Try.underlying36 rfl ti3 rfl rfl) ?_
   have hc16 := H.cell (u := (I b_1.2.2)) (o' := 2) 0 2 rfl rfl rfl
   refine st (v := (I b_1.2.2)) (rv_load1 Try.underlying3 rfl rfl hc16) ?_
   refine st (v := (B (a_0.2.2 != b_1.2.2))) (rv_neq (a := a_0.2.2) (b := b_1.2.2) rfl rfl) ?_
   refine w_end ?_
   refine q_then ?_
   refine cd_cond (a_0.2.2 != b_1.2.2) rfl (fun hb17 => ?_) (fun hb17 => ?_)
   ·replace h := bif_t hb17 h
    refine c_seq ?_
    refine rg ?_
    refine st (v := (B false)) (rv_assign rfl) ?_
    refine w_end ?_
    refine q_then ?_
    refine c_ret ?_
    refine q_then_r ?_
    obtain rfl := Option.some.inj h
    exact fin_ret (v := (B false)) (results_ok Try.results58 (res_tmp (v := (B false)) rfl res_nil) rfl) ⟨rfl, rfl⟩ (H.sel' [] rfl rfl)
   ·replace h := bif_f hb17 h
    refine c_skip ?_
    refine q_then ?_
    refine c_seq ?_
    refine rg ?_
    refine st (v := (B true)) (rv_assign rfl) ?_
    refine w_end ?_
    refine q_then ?_
    refine c_ret ?_
    obtain rfl := Option.some.inj h
    exact fin_ret (v := (B true)) (results_ok Try.results58 (res_tmp (v := (B true)) rfl res_nil) rfl) ⟨rfl, rfl⟩ (H.sel' [] rfl rfl)

theorem c_laws_eqEntry {a_0 : Int × (Int × (List Int) × Int)} {b_1 : Int × (Int × (List Int) × Int)} {aa_0_1_1 : Option Addr} {ca_0_1_1 : Nat} {ab_1_1_1 : Option Addr} {cb_1_1_1 : Nat} {r : Bool} (h : M.laws_eqEntry a_0 b_1 = some r) :
    Cal2 Try.prog 29 [(.agg #[(I a_0.1), (I a_0.2.1), (Sl aa_0_1_1 a_0.2.2.1 ca_0_1_1), (I a_0.2.2.2)]), (.agg #[(I b_1.1), (I b_1.2.1), (Sl ab_1_1_1 b_1.2.2.1 cb_1_1_1), (I b_1.2.2.2)])] [Ch.ro 0 (Sl aa_0_1_1 a_0.2.2.1 ca_0_1_1) a_0.2.2.1, Ch.ro 0 (Sl ab_1_1_1 b_1.2.2.1 cb_1_1_1) b_1.2.2.1] (fun n0 v L => v = (B r) ∧ L = []) := by
 refine cal2 (n := 16) Try.func29 rfl rfl rfl rfl ?_
 intro S0 σ0 n0 hn0 H
 unfold M.laws_eqEntry at h
 refine c_seq ?_
 refine rg ?_
 refine st_ex (ex_box (cs := [(I a_0.1), (I a_0.2.1), (Sl aa_0_1_1 a_0.2.2.1 ca_0_1_1), (I a_0.2.2.2)]) H hn0 rfl rfl) wn ?_
 rintro _ σ2 ⟨b1, rfl, H, -⟩
 refine st_ex (ex_box (cs := [(I b_1.1), (I b_1.2.1), (Sl ab_1_1_1 b_1.2.2.1 cb_1_1_1), (I b_1.2.2.2)]) H hn0 rfl rfl) wn ?_
 rintro _ σ4 ⟨b3, rfl, H, -⟩
 refine st (v := (B false)) (rv_assign rfl) ?_
 refine w_end ?_
 refine q_then ?_
 refine c_seq ?_
 refine c_seq ?_
 refine rg ?_
 refine st (v := (pt b1 0)) (rv_fieldAddr (off := 0) (ft := 3) Try.underlying56 rfl ti3 rfl rfl) ?_
 have hc5 := H.cell (u := (I a_0.1)) (o' := 0) 1 0 rfl rfl rfl
 refine st (v := (I a_0.1)) (rv_load1 Try.underlying3 rfl rfl hc5) ?_
 refine st (v := (pt b3 0)) (rv_fieldAddr (off := 0) (ft := 3) Try.underlying56 rfl ti3 rfl rfl) ?_
 have hc6 := H.cell (u := (I b_1.1)) (o' := 0) 0 0 rfl rfl rfl
 refine st (v := (I b_1.1)) (rv_load1 Try.underlying3 rfl rfl hc6) ?_
 refine st (v := (B (a_0.1 != b_1.1))) (rv_neq (a := a_0.1) (b := b_1.1) rfl rfl) ?_
 refine w_end ?_
 refine q_then ?_
 refine cd_cond (a_0.1 != b_1.1) rfl (fun hb7 => ?_) (fun hb7 => ?_)
 ·replace h := bif_t hb7 h
  refine c_seq ?_
  refine rg ?_
  refine st (v := (B false)) (rv_assign rfl) ?_
  refine w_end ?_
  refine q_then ?_
  refine c_ret ?_
  refine q_then_r ?_
  obtain rfl := Option.some.inj h
  exact fin_ret (v := (B false)) (results_ok Try.results29 (res_tmp (v := (B false)) rfl res_nil) rfl) ⟨rfl, rfl⟩ (H.sel' [] rfl rfl)
 ·replace h := bif_f hb7 h
  refine c_skip ?_
  refine q_then ?_
  refine c_seq ?_
  refine c_seq ?_
  refine rg ?_
  refine st (v := (pt b1 1)) (rv_fieldAddr (off := 1) (ft := 36) Try.underlying56 rfl ti36 rfl rfl) ?_
  have hc8 := H.part (us := [(I a_0.2.1), (Sl aa_0_1_1 a_0.2.2.1 ca_0_1_1), (I a_0.2.2.2)]) (o' := 1) 1 1 3 rfl rfl rfl rfl
  refine st (v := (.agg #[(I a_0.2.1), (Sl aa_0_1_1 a_0.2.2.1 ca_0_1_1), (I a_0.2.2.2)])) (rv_load (cs := [(I a_0.2.1), (Sl aa_0_1_1 a_0.2.2.1 ca_0_1_1), (I a_0.2.2.2)]) Try.underlying36 rfl ti36 rfl rfl hc8) ?_
  refine st (v := (pt b3 1)) (rv_fieldAddr (off := 1) (ft := 36) Try.underlying56 rfl ti36 rfl rfl) ?_
  have hc9 := H.part (us := [(I b_1.2.1), (Sl ab_1_1_1 b_1.2.2.1 cb_1_1_1), (I b_1.2.2.2)]) (o' := 1) 0 1 3 rfl rfl rfl rfl
  refine st (v := (.agg #[(I b_1.2.1), (Sl ab_1_1_1 b_1.2.2.1 cb_1_1_1), (I b_1.2.2.2)])) (rv_load (cs := [(I b_1.2.1), (Sl ab_1_1_1 b_1.2.2.1 cb_1_1_1), (I b_1.2.2.2)]) Try.underlying36 rfl ti36 rfl rfl hc9) ?_
  obtain ⟨r10, hx11, h'⟩ := bind_some h
  clear h
  have h := h'; clear h'
  have hc12 := c_laws_eqItem (aa_0_1 := aa_0_1_1) (ca_0_1 := ca_0_1_1) (ab_1_1 := ab_1_1_1) (cb_1_1 := cb_1_1_1) hx11
  refine st_call (cx_call hc12 (ent_f hc12.fn rfl) hn0 (show Hp S0 σ0 _ ([Ch.ro 0 (Sl aa_0_1_1 a_0.2.2.1 ca_0_1_1) a_0.2.2.1, Ch.ro 0 (Sl ab_1_1_1 b_1.2.2.1 cb_1_1_1) b_1.2.2.1] ++ [Ch.bx n0 b3 0 [(I b_1.1), (I b_1.2.1), (Sl ab_1_1_1 b_1.2.2.1 cb_1_1_1), (I b_1.2.2.2)] [] [], Ch.bx n0 b1 0 [(I a_0.1), (I a_0.2.1), (Sl aa_0_1_1 a_0.2.2.1 ca_0_1_1), (I a_0.2.2.2)] [] [], Ch.ro 0 (Sl aa_0_1_1 a_0.2.2.1 ca_0_1_1) a_0.2.2.1, Ch.ro 0 (Sl ab_1_1_1 b_1.2.2.1 cb_1_1_1) b_1.2.2.1]) from (H.sel' [2, 3, 0, 1, 2, 3] rfl rfl))) wn ?_
  rintro _ σ13 ⟨_, ⟨rfl, rfl⟩, H, -⟩
  replace H : Hp S0 σ0 σ13 [Ch.bx n0 b3 0 [(I b_1.1), (I b_1.2.1), (Sl ab_1_1_1 b_1.2.2.1 cb_1_1_1), (I b_1.2.2.2)] [] [], Ch.bx n0 b1 0 [(I a_0.1), (I a_0.2.1), (Sl aa_0_1_1 a_0.2.2.1 ca_0_1_1), (I a_0.2.2.2)] [] [], Ch.ro 0 (Sl aa_0_1_1 a_0.2.2.1 ca_0_1_1) a_0.2.2.1, Ch.ro 0 (Sl ab_1_1_1 b_1.2.2.1 cb_1_1_1) b_1.2.2.1] := H
  refine st (v := (B (!r10))) (rv_not rfl) ?_
  refine w_end ?_
  refine q_then ?_
  refine cd_cond (!r10) rfl (fun hb14 => ?_) (fun hb14 => ?_)
  ·replace h := bif_t hb14 h
   refine c_seq ?_
   refine rg ?_
   refine st (v := (B false)) (rv_assign rfl) ?_
   refine w_end ?_
   refine q_then ?_
   refine c_ret ?_
   refine q_then_r ?_
   obtain rfl := Option.some.inj h
   exact fin_ret (v := (B false)) (results_ok Try.results29 (res_tmp (v := (B false)) rfl res_nil) rfl) ⟨rfl, rfl⟩ (H.sel' [] rfl rfl)
  ·replace h := bif_f hb14 h
   refine c_skip ?_
   refine q_then ?_
   refine c_seq ?_
   refine rg ?_
   refine st (v := (B true)) (rv_assign rfl) ?_
   refine w_end ?_
   refine q_then ?_
   refine c_ret ?_
   obtain rfl := Option.some.inj h
   exact fin_ret (v := (B true)) (results_ok Try.results29 (res_tmp (v := (B true)) rfl res_nil) rfl) ⟨rfl, rfl⟩ (H.sel' [] rfl rfl)

theorem c_laws_eqEntryS {a_0 : List (Int × (Int × (List Int) × Int))} {b_1 : List (Int × (Int × (List Int) × Int))} {aa_0 : Option Addr} {ca_0 : Nat} {ab_1 : Option Addr} {cb_1 : Nat} {r : Bool} (h : M.laws_eqEntryS a_0 b_1 = some r) :
    Cal2 Try.prog 55 [(Sl aa_0 a_0 ca_0), (Sl ab_1 b_1 cb_1)] [Ch.ro 0 (Sl aa_0 a_0 ca_0) a_0, Ch.ro 0 (Sl ab_1 b_1 cb_1) b_1] (fun n0 v L => v = (B r) ∧ L = []) := by
 refine cal2 (n := 27) Try.func55 rfl rfl rfl rfl ?_
 intro S0 σ0 n0 hn0 H
 unfold M.laws_eqEntryS at h
 refine c_seq ?_
 refine rg ?_
 refine st (v := (B false)) (rv_assign rfl) ?_
 refine w_end ?_
 refine q_then ?_
 refine c_seq ?_
 refine c_seq ?_
 refine rg ?_
 refine st (v := (Sl aa_0 a_0 ca_0)) (rv_move rfl) ?_
 refine st (v := (I (a_0.length : Int))) (rv_len Try.underlying23 rfl) ?_
 refine st (v := (Sl ab_1 b_1 cb_1)) (rv_move rfl) ?_
 refine st (v := (I (b_1.length : Int))) (rv_len Try.underlying23 rfl) ?_
 refine st (v := (B ((a_0.length : Int) != (b_1.length : Int)))) (rv_neq (a := (a_0.length : Int)) (b := (b_1.length : Int)) rfl rfl) ?_
 refine w_end ?_
 refine q_then ?_
 refine cd_cond ((a_0.length : Int) != (b_1.length : Int)) rfl (fun hb1 => ?_) (fun hb1 => ?_)
 ·replace h := bif_t hb1 h
  refine c_seq ?_
  refine rg ?_
  refine st (v := (B false)) (rv_assign rfl) ?_
  refine w_end ?_
  refine q_then ?_
  refine c_ret ?_
  refine q_then_r ?_
  obtain rfl := Option.some.inj h
  exact fin_ret (v := (B false)) (results_ok Try.results55 (res_tmp (v := (B false)) rfl res_nil) rfl) ⟨rfl, rfl⟩ (H.sel' [] rfl rfl)
 ·replace h := bif_f hb1 h
  refine c_skip ?_
  refine q_then ?_
  refine c_seq ?_
  refine c_seq ?_
  refine rg ?_
  refine st (v := (I 0)) (rv_assign rfl) ?_
  refine w_end ?_
  refine q_then ?_
  obtain ⟨o2, hj, h'⟩ := bind_some h
  clear h
  refine c_cut (fun e a w => (∃ t, o2 = (.inl t) ∧ e = .normal ∧ ∃ (ρ : Nat → Value) (σ : St), a = fr 27 (updL ρ []) ∧ w = σ.w ∧ Hp S0 σ0 σ []) ∨ (∃ t, o2 = (.inr t) ∧ e = .ret ∧ ∃ (ρ : Nat → Value) (σ : St), a = fr 27 (updL ρ [(4, (B t))]) ∧ w = σ.w ∧ Hp S0 σ0 σ [])) ?_ ?_
  ·clear h'
   rename _ = some o2 => h
   refine c_blk ?_
   refine wp_loopM _ h (fun s3 a w => ∃ (ρ : Nat → Value) (σ : St), a = fr 27 (updL ρ [(0, (Sl aa_0 a_0 ca_0)), (1, (Sl ab_1 b_1 cb_1)), (5, (I s3))]) ∧ w = σ.w ∧ Hp S0 σ0 σ [Ch.ro 0 (Sl aa_0 a_0 ca_0) a_0, Ch.ro 0 (Sl ab_1 b_1 cb_1) b_1]) ⟨_, σ0, fr_join ⟨rfl, rfl, rfl, trivial⟩, rfl, H.sel' [0, 1] rfl rfl⟩ ?_
   clear h H
   rintro s3 a w o ⟨ρ, σ4, rfl, rfl, H⟩ h hres
   refine c_seq ?_
   refine c_seq ?_
   refine rg ?_
   refine st (v := (I s3)) (rv_move rfl) ?_
   refine st (v := (Sl aa_0 a_0 ca_0)) (rv_move rfl) ?_
   refine st (v := (I (a_0.length : Int))) (rv_len Try.underlying23 rfl) ?_
   refine st (v := (B (decide (s3 < (a_0.length : Int))))) (rv_lss (a := s3) (b := (a_0.length : Int)) rfl rfl) ?_
   refine w_end ?_
   refine q_then ?_
   refine cd_cond (decide (s3 < (a_0.length : Int))) rfl (fun hb5 => ?_) (fun hb5 => ?_)
   ·replace h := bif_t hb5 h
    refine c_skip ?_
    refine q_then ?_
    refine c_seq ?_
    refine c_blk ?_
    refine c_seq ?_
    refine rgP (σ := σ4) 8 (by kernel_rfl) (by kernel_rfl) (by kernel_rfl) ?_
    refine sq (v := (Sl aa_0 a_0 ca_0)) (rv_move rfl) ?_
    refine sq (v := (I s3)) (rv_move rfl) ?_
    obtain ⟨x6, hx7, h'⟩ := bind_some h
    clear h
    have h := h'; clear h'
    obtain ⟨b9, o10, hi8, -⟩ := (H.ro 0 rfl).ix hx7
    refine sq (v := (pt b9 o10)) (rv_ix Try.underlying23 ti56 rfl rfl hi8) ?_
    obtain ⟨_, ⟨_, _, rfl, rfl, ⟨_, _, rfl, rfl, ⟨_, _, rfl, ⟨_, rfl, hR15⟩, rfl⟩⟩⟩, hl11, hc12⟩ := ((H.ro 0 rfl).at hx7 hi8).cells
    obtain ⟨a13, c14, rfl⟩ := hR15.isSl
    replace H := H.add (d := Ch.ro 0 (Sl a13 x6.2.2.1 c14) x6.2.2.1) hR15 (fun _ h => h)
    clear hR15
    refine sq (v := (.agg #[(I x6.1), (I x6.2.1), (Sl a13 x6.2.2.1 c14), (I x6.2.2.2)])) (rv_load Try.underlying56 rfl ti56 rfl hl11 hc12) ?_
    refine sq (v := (Sl ab_1 b_1 cb_1)) (rv_move rfl) ?_
    refine sq (v := (I s3)) (rv_move rfl) ?_
    obtain ⟨x16, hx17, h'⟩ := bind_some h
    clear h
    have h := h'; clear h'
    obtain ⟨b19, o20, hi18, -⟩ := (H.ro 2 rfl).ix hx17
    refine sq (v := (pt b19 o20)) (rv_ix Try.underlying23 ti56 rfl rfl hi18) ?_
    obtain ⟨_, ⟨_, _, rfl, rfl, ⟨_, _, rfl, rfl, ⟨_, _, rfl, ⟨_, rfl, hR25⟩, rfl⟩⟩⟩, hl21, hc22⟩ := ((H.ro 2 rfl).at hx17 hi18).cells
    obtain ⟨a23, c24, rfl⟩ := hR25.isSl
    replace H := H.add (d := Ch.ro 0 (Sl a23 x16.2.2.1 c24) x16.2.2.1) hR25 (fun _ h => h)
    clear hR25
    refine sq (v := (.agg #[(I x16.1), (I x16.2.1), (Sl a23 x16.2.2.1 c24), (I x16.2.2.2)])) (rv_load Try.underlying56 rfl ti56 rfl hl21 hc22) ?_
    refine sq_end ?_
    intro σ26 hm27
    replace H := H.grow (hm27.mono fun _ h => h); clear hm27
    obtain ⟨r28, hx29, h'⟩ := bind_some h
    clear h
    have h := h'; clear h'
    have hc30 := c_laws_eqEntry (aa_0_1_1 := a13) (ca_0_1_1 := c14) (ab_1_1_1 := a23) (cb_1_1_1 := c24) hx29
    refine st_call (cx_call hc30 (ent_f hc30.fn rfl) hn0 (show Hp S0 σ0 _ ([Ch.ro 0 (Sl a13 x6.2.2.1 c14) x6.2.2.1, Ch.ro 0 (Sl a23 x16.2.2.1 c24) x16.2.2.1] ++ [Ch.ro 0 (Sl a23 x16.2.2.1 c24) x16.2.2.1, Ch.ro 0 (Sl a13 x6.2.2.1 c14) x6.2.2.1, Ch.ro 0 (Sl aa_0 a_0 ca_0) a_0, Ch.ro 0 (Sl ab_1 b_1 cb_1) b_1]) from (H.sel' [1, 0, 0, 1, 2, 3] rfl rfl))) wn ?_
    rintro _ σ31 ⟨_, ⟨rfl, rfl⟩, H, -⟩
    replace H : Hp S0 σ0 σ31 [Ch.ro 0 (Sl a23 x16.2.2.1 c24) x16.2.2.1, Ch.ro 0 (Sl a13 x6.2.2.1 c14) x6.2.2.1, Ch.ro 0 (Sl aa_0 a_0 ca_0) a_0, Ch.ro 0 (Sl ab_1 b_1 cb_1) b_1] := H
    refine st (v := (B (!r28))) (rv_not rfl) ?_
    refine w_end ?_
    refine q_then ?_
    refine cd_cond (!r28) rfl (fun hb32 => ?_) (fun hb32 => ?_)
    ·replace h := bif_t hb32 h
     refine c_seq ?_
     refine rg ?_
     refine st (v := (B false)) (rv_assign rfl) ?_
     refine w_end ?_
     refine q_then ?_
     refine c_ret ?_
     refine q_blk_r ?_
     refine q_then_r ?_
     refine q_then_r ?_
     refine q_blk_r ?_
     obtain rfl := Option.some.inj h
     obtain rfl := hres _ rfl
     exact .inr (⟨_, rfl, rfl, _, σ31, fr_join ⟨rfl, trivial⟩, rfl, H.sel' [] rfl rfl⟩)
    ·replace h := bif_f hb32 h
     refine c_skip ?_
     refine q_blk ?_
     refine q_then ?_
     refine rg ?_
     refine st (v := (I s3)) (rv_move rfl) ?_
     refine st (v := (I (w64 (s3 + 1)))) (rv_add (a := s3) (b := 1) rfl rfl) ?_
     refine st (v := (I (w64 (s3 + 1)))) (rv_assign rfl) ?_
     refine w_end ?_
     refine q_then ?_
     obtain rfl := Option.some.inj h
     exact ⟨_, rfl, _, σ31, fr_join ⟨rfl, rfl, rfl, trivial⟩, rfl, H.sel' [2, 3] rfl rfl⟩
   ·replace h := bif_f hb5 h
    refine c_exit ?_
    refine q_then_x ?_
    refine q_then_x ?_
    refine q_blk_hit ?_
    obtain rfl := Option.some.inj h
    obtain rfl := hres _ rfl
    exact .inl ⟨_, rfl, rfl, _, σ4, fr_join trivial, rfl, H.sel' [] rfl rfl⟩
  ·clear hj
   have h := h'
   clear h' H
   rintro e a w (⟨t33, rfl, rfl, ρ, σ34, rfl, rfl, H⟩ | ⟨t35, rfl, rfl, ρ, σ36, rfl, rfl, H⟩)
   ·replace h := selim_l h
    refine q_then ?_
    refine c_seq ?_
    refine rg ?_
    refine st (v := (B true)) (rv_assign rfl) ?_
    refine w_end ?_
    refine q_then ?_
    refine c_ret ?_
    obtain rfl := Option.some.inj h
    exact fin_ret (v := (B true)) (results_ok Try.results55 (res_tmp (v := (B true)) rfl res_nil) rfl) ⟨rfl, rfl⟩ (H.sel' [] rfl rfl)
   ·replace h := selim_r h
    refine q_then_r ?_
    obtain rfl := Option.some.inj h
    exact fin_ret (v := (B t35)) (results_ok Try.results55 (res_tmp (v := (B t35)) rfl res_nil) rfl) ⟨rfl, rfl⟩ (H.sel' [] rfl rfl)

theorem c_laws_eqHistory {a_0 : (List (Int × (Int × (List Int) × Int))) × (List Int)} {b_1 : (List (Int × (Int × (List Int) × Int))) × (List Int)} {aa_0_0 : Option Addr} {ca_0_0 : Nat} {aa_0_1 : Option Addr} {ca_0_1 : Nat} {ab_1_0 : Option Addr} {cb_1_0 : Nat} {ab_1_1 : Option Addr} {cb_1_1 : Nat} {r : Bool} (h : M.laws_eqHistory a_0 b_1 = some r) :
    Cal2 Try.prog 19 [(.agg #[(Sl aa_0_0 a_0.1 ca_0_0), (Sl aa_0_1 a_0.2 ca_0_1)]), (.agg #[(Sl ab_1_0 b_1.1 cb_1_0), (Sl ab_1_1 b_1.2 cb_1_1)])] [Ch.ro 0 (Sl aa_0_0 a_0.1 ca_0_0) a_0.1, Ch.ro 0 (Sl aa_0_1 a_0.2 ca_0_1) a_0.2, Ch.ro 0 (Sl ab_1_0 b_1.1 cb_1_0) b_1.1, Ch.ro 0 (Sl ab_1_1 b_1.2 cb_1_1) b_1.2] (fun n0 v L => v = (B r) ∧ L = []) := by
 refine cal2 (n := 17) Try.func19 rfl rfl rfl rfl ?_
 intro S0 σ0 n0 hn0 H
 unfold M.laws_eqHistory at h
 refine c_seq ?_
 refine rg ?_
 refine st_ex (ex_box (cs := [(Sl aa_0_0 a_0.1 ca_0_0), (Sl aa_0_1 a_0.2 ca_0_1)]) H hn0 rfl rfl) wn ?_
 rintro _ σ2 ⟨b1, rfl, H, -⟩
 refine st_ex (ex_box (cs := [(Sl ab_1_0 b_1.1 cb_1_0), (Sl ab_1_1 b_1.2 cb_1_1)]) H hn0 rfl rfl) wn ?_
 rintro _ σ4 ⟨b3, rfl, H, -⟩
 refine st (v := (B false)) (rv_assign rfl) ?_
 refine w_end ?_
 refine q_then ?_
 refine c_seq ?_
 refine c_seq ?_
 refine rg ?_
 refine st (v := (pt b1 0)) (rv_fieldAddr (off := 0) (ft := 23) Try.underlying26 rfl ti23 rfl rfl) ?_
 have hc5 := H.cell (u := (Sl aa_0_0 a_0.1 ca_0_0)) (o' := 0) 1 0 rfl rfl rfl
 refine st (v := (Sl aa_0_0 a_0.1 ca_0_0)) (rv_load1 Try.underlying23 rfl rfl hc5) ?_
 refine st (v := (pt b3 0)) (rv_fieldAddr (off := 0) (ft := 23) Try.underlying26 rfl ti23 rfl rfl) ?_
 have hc6 := H.cell (u := (Sl ab_1_0 b_1.1 cb_1_0)) (o' := 0) 0 0 rfl rfl rfl
 refine st (v := (Sl ab_1_0 b_1.1 cb_1_0)) (rv_load1 Try.underlying23 rfl rfl hc6) ?_
 obtain ⟨r7, hx8, h'⟩ := bind_some h
 clear h
 have h := h'; clear h'
 have hc9 := c_laws_eqEntryS (aa_0 := aa_0_0) (ca_0 := ca_0_0) (ab_1 := ab_1_0) (cb_1 := cb_1_0) hx8
 refine st_call (cx_call hc9 (ent_f hc9.fn rfl) hn0 (show Hp S0 σ0 _ ([Ch.ro 0 (Sl aa_0_0 a_0.1 ca_0_0) a_0.1, Ch.ro 0 (Sl ab_1_0 b_1.1 cb_1_0) b_1.1] ++ [Ch.bx n0 b3 0 [(Sl ab_1_0 b_1.1 cb_1_0), (Sl ab_1_1 b_1.2 cb_1_1)] [] [], Ch.bx n0 b1 0 [(Sl aa_0_0 a_0.1 ca_0_0), (Sl aa_0_1 a_0.2 ca_0_1)] [] [], Ch.ro 0 (Sl aa_0_0 a_0.1 ca_0_0) a_0.1, Ch.ro 0 (Sl aa_0_1 a_0.2 ca_0_1) a_0.2, Ch.ro 0 (Sl ab_1_0 b_1.1 cb_1_0) b_1.1, Ch.ro 0 (Sl ab_1_1 b_1.2 cb_1_1) b_1.2]) from (H.sel' [2, 4, 0, 1, 2, 3, 4, 5] rfl rfl))) wn ?_
 rintro _ σ10 ⟨_, ⟨rfl, rfl⟩, H, -⟩
 replace H : Hp S0 σ0 σ10 [Ch.bx n0 b3 0 [(Sl ab_1_0 b_1.1 cb_1_0), (Sl ab_1_1 b_1.2 cb_1_1)] [] [], Ch.bx n0 b1 0 [(Sl aa_0_0 a_0.1 ca_0_0), (Sl aa_0_1 a_0.2 ca_0_1)] [] [], Ch.ro 0 (Sl aa_0_0 a_0.1 ca_0_0) a_0.1, Ch.ro 0 (Sl aa_0_1 a_0.2 ca_0_1) a_0.2, Ch.ro 0 (Sl ab_1_0 b_1.1 cb_1_0) b_1.1, Ch.ro 0 (Sl ab_1_1 b_1.2 cb_1_1) b_1.2] := H
 refine st (v := (B (!r7))) (rv_not rfl) ?_
 refine w_end ?_
 refine q_then ?_
 refine cd_cond (!r7) rfl (fun hb11 => ?_) (fun hb11 => ?_)
 ·replace h := bif_t hb11 h
  refine c_seq ?_
  refine rg ?_
  refine st (v := (B false)) (rv_assign rfl) ?_
  refine w_end ?_
  refine q_then ?_
  refine c_ret ?_
  refine q_then_r ?_
  obtain rfl := Option.some.inj h
  exact fin_ret (v := (B false)) (results_ok Try.results19 (res_tmp (v := (B false)) rfl res_nil) rfl) ⟨rfl, rfl⟩ (H.sel' [] rfl rfl)
 ·replace h := bif_f hb11 h
  refine c_skip ?_
  refine q_then ?_
  refine c_seq ?_
  refine c_seq ?_
  refine rg ?_
  refine st (v := (pt b1 1)) (rv_fieldAddr (off := 1) (ft := 24) Try.underlying26 rfl ti24 rfl rfl) ?_
  have hc12 := H.cell (u := (Sl aa_0_1 a_0.2 ca_0_1)) (o' := 1) 1 1 rfl rfl rfl
  refine st (v := (Sl aa_0_1 a_0.2 ca_0_1)) (rv_load1 Try.underlying24 rfl rfl hc12) ?_
  refine st (v := (pt b3 1)) (rv_fieldAddr (off := 1) (ft := 24) Try.underlying26 rfl ti24 rfl rfl) ?_
  have hc13 := H.cell (u := (Sl ab_1_1 b_1.2 cb_1_1)) (o' := 1) 0 1 rfl rfl rfl
  refine st (v := (Sl ab_1_1 b_1.2 cb_1_1)) (rv_load1 Try.underlying24 rfl rfl hc13) ?_
  obtain ⟨r14, hx15, h'⟩ := bind_some h
  clear h
  have h := h'; clear h'
  have hc16 := c_laws_eqIntS (aa_0 := aa_0_1) (ca_0 := ca_0_1) (ab_1 := ab_1_1) (cb_1 := cb_1_1) hx15
  refine st_call (cx_call hc16 (ent_f hc16.fn rfl) hn0 (show Hp S0 σ0 _ ([Ch.ro 0 (Sl aa_0_1 a_0.2 ca_0_1) a_0.2, Ch.ro 0 (Sl ab_1_1 b_1.2 cb_1_1) b_1.2] ++ [Ch.bx n0 b3 0 [(Sl ab_1_0 b_1.1 cb_1_0), (Sl ab_1_1 b_1.2 cb_1_1)] [] [], Ch.bx n0 b1 0 [(Sl aa_0_0 a_0.1 ca_0_0), (Sl aa_0_1 a_0.2 ca_0_1)] [] [], Ch.ro 0 (Sl aa_0_0 a_0.1 ca_0_0) a_0.1, Ch.ro 0 (Sl aa_0_1 a_0.2 ca_0_1) a_0.2, Ch.ro 0 (Sl ab_1_0 b_1.1 cb_1_0) b_1.1, Ch.ro 0 (Sl ab_1_1 b_1.2 cb_1_1) b_1.2]) from (H.sel' [3, 5, 0, 1, 2, 3, 4, 5] rfl rfl))) wn ?_
  rintro _ σ17 ⟨_, ⟨rfl, rfl⟩, H, -⟩
  replace H : Hp S0 σ0 σ17 [Ch.bx n0 b3 0 [(Sl ab_1_0 b_1.1 cb_1_0), (Sl ab_1_1 b_1.2 cb_1_1)] [] [], Ch.bx n0 b1 0 [(Sl aa_0_0 a_0.1 ca_0_0), (Sl aa_0_1 a_0.2 ca_0_1)] [] [], Ch.ro 0 (Sl aa_0_0 a_0.1 ca_0_0) a_0.1, Ch.ro 0 (Sl aa_0_1 a_0.2 ca_0_1) a_0.2, Ch.ro 0 (Sl ab_1_0 b_1.1 cb_1_0) b_1.1, Ch.ro 0 (Sl ab_1_1 b_1.2 cb_1_1) b_1.2] := H
  refine st (v := (B (!r14))) (rv_not rfl) ?_
  refine w_end ?_
  refine q_then ?_
  refine cd_cond (!r14) rfl (fun hb18 => ?_) (fun hb18 => ?_)
  ·replace h := bif_t hb18 h
   refine c_seq ?_
   refine rg ?_
   refine st (v := (B false)) (rv_assign rfl) ?_
   refine w_end ?_
   refine q_then ?_
   refine c_ret ?_
   refine q_then_r ?_
   obtain rfl := Option.some.inj h
   exact fin_ret (v := (B false)) (results_ok Try.results19 (res_tmp (v := (B false)) rfl res_nil) rfl) ⟨rfl, rfl⟩ (H.sel' [] rfl rfl)
  ·replace h := bif_f hb18 h
   refine c_skip ?_
   refine q_then ?_
   refine c_seq ?_
   refine rg ?_
   refine st (v := (B true)) (rv_assign rfl) ?_
   refine w_end ?_
   refine q_then ?_
   refine c_ret ?_
   obtain rfl := Option.some.inj h
   exact fin_ret (v := (B true)) (results_ok Try.results19 (res_tmp (v := (B true)) rfl res_nil) rfl) ⟨rfl, rfl⟩ (H.sel' [] rfl rfl)

theorem c_laws_markIntS {a_0 : List Int} {k_1 : Int} {aa_0 : Option Addr} {ca_0 : Nat} {r : Int × (List Int)} (h : M.laws_markIntS a_0 k_1 = some r) :
    Cal2 Try.prog 35 [(Sl aa_0 a_0 ca_0), (I k_1)] [Ch.own 0 0 (Sl aa_0 a_0 ca_0) a_0] (fun n0 v L => v = (I r.1) ∧ L = [Ch.own 0 0 (Sl aa_0 r.2 ca_0) r.2] ∧ r.2.length = a_0.length) := by
 refine cal2 (n := 19) Try.func35 rfl rfl rfl rfl ?_
 intro S0 σ0 n0 hn0 H
 unfold M.laws_markIntS at h
 refine c_seq ?_
 refine rg ?_
 refine st (v := (I 0)) (rv_assign rfl) ?_
 refine w_end ?_
 refine q_then ?_
 refine c_seq ?_
 refine c_seq ?_
 refine rg ?_
 refine st (v := (I 0)) (rv_assign rfl) ?_
 refine w_end ?_
 refine q_then ?_
 obtain ⟨o1, hj, h'⟩ := bind_some h
 clear h
 refine c_cut (fun e a w => e = .normal ∧ ∃ (ρ : Nat → Value) (σ : St), a = fr 19 (updL ρ [(0, (Sl aa_0 o1.1 ca_0)), (1, (I o1.2))]) ∧ w = σ.w ∧ Hp S0 σ0 σ [Ch.own 0 0 (Sl aa_0 o1.1 ca_0) o1.1] ∧ o1.1.length = a_0.length) ?_ ?_
 ·clear h'
  rename _ = some o1 => h
  refine c_blk ?_
  refine wp_loopM _ h (fun s2 a w => ∃ (ρ : Nat → Value) (σ : St), a = fr 19 (updL ρ [(0, (Sl aa_0 s2.1 ca_0)), (1, (I s2.2.1)), (5, (I s2.2.2))]) ∧ w = σ.w ∧ Hp S0 σ0 σ [Ch.own 0 0 (Sl aa_0 s2.1 ca_0) s2.1] ∧ s2.1.length = a_0.length) ⟨_, σ0, fr_join ⟨rfl, rfl, rfl, trivial⟩, rfl, H.sel' [0] rfl rfl, rfl⟩ ?_
  clear h H
  rintro s2 a w o ⟨ρ, σ3, rfl, rfl, H, hn4⟩ h hres
  refine c_seq ?_
  refine c_seq ?_
  refine rg ?_
  refine st (v := (I s2.2.2)) (rv_move rfl) ?_
  refine st (v := (Sl aa_0 s2.1 ca_0)) (rv_move rfl) ?_
  refine st (v := (I (s2.1.length : Int))) (rv_len Try.underlying24 rfl) ?_
  refine st (v := (B (decide (s2.2.2 < (s2.1.length : Int))))) (rv_lss (a := s2.2.2) (b := (s2.1.length : Int)) rfl rfl) ?_
  refine w_end ?_
  refine q_then ?_
  refine cd_cond (decide (s2.2.2 < (s2.1.length : Int))) rfl (fun hb5 => ?_) (fun hb5 => ?_)
  ·replace h := bif_t hb5 h
   refine c_skip ?_
   refine q_then ?_
   refine c_seq ?_
   refine c_blk ?_
   refine c_seq ?_
   refine rg ?_
   refine st (v := (Sl aa_0 s2.1 ca_0)) (rv_move rfl) ?_
   refine st (v := (I s2.2.2)) (rv_move rfl) ?_
   refine st (v := (I s2.2.1)) (rv_move rfl) ?_
   obtain ⟨x6, hx7, h'⟩ := bind_some h
   clear h
   have h := h'; clear h'
   obtain ⟨b9, o10, hi8, -⟩ := (H.own 0 rfl).ix hx7
   refine st (v := (pt b9 o10)) (rv_ix Try.underlying24 ti3 rfl rfl hi8) ?_
   refine st_exS (ex_store_own (e' := s2.2.1) (vs := [(I s2.2.1)]) (k := 0) H (i := 0) rfl ti3 hx7 hi8 rfl rfl rfl rfl rfl (Nat.le_of_ble_eq_true rfl) (by simp [plain]) (by rintro _ rfl; exact rfl)) wn ?_
   rintro σ11 ⟨H, -⟩
   have hsl : (Sl aa_0 s2.1 ca_0) = (Sl aa_0 (s2.1.set s2.2.2.toNat s2.2.1) ca_0) := sl_len List.length_set.symm
   rw [hsl]; rw [hsl] at H; clear hsl
   refine w_end ?_
   refine q_then ?_
   refine rg ?_
   refine st (v := (I s2.2.1)) (rv_move rfl) ?_
   refine st (v := (I (w64 (s2.2.1 + 1)))) (rv_add (a := s2.2.1) (b := 1) rfl rfl) ?_
   refine st (v := (I (w64 (s2.2.1 + 1)))) (rv_assign rfl) ?_
   refine w_end ?_
   refine q_blk ?_
   refine q_then ?_
   refine rg ?_
   refine st (v := (I s2.2.2)) (rv_move rfl) ?_
   refine st (v := (I (w64 (s2.2.2 + 1)))) (rv_add (a := s2.2.2) (b := 1) rfl rfl) ?_
   refine st (v := (I (w64 (s2.2.2 + 1)))) (rv_assign rfl) ?_
   refine w_end ?_
   refine q_then ?_
   obtain rfl := Option.some.inj h
   exact ⟨_, rfl, _, σ11, fr_join ⟨rfl, rfl, rfl, trivial⟩, rfl, H.sel' [0] rfl rfl, (List.length_set.trans hn4)⟩
  ·replace h := bif_f hb5 h
   refine c_exit ?_
   refine q_then_x ?_
   refine q_then_x ?_
   refine q_blk_hit ?_
   obtain rfl := Option.some.inj h
   obtain rfl := hres _ rfl
   exact ⟨rfl, _, σ3, fr_join ⟨rfl, rfl, trivial⟩, rfl, H.sel' [0] rfl rfl, hn4⟩
 ·clear hj
  have h := h'
  clear h' H
  rintro e a w ⟨rfl, ρ, σ12, rfl, rfl, H, hn13⟩
  refine q_then ?_
  refine c_seq ?_
  refine rg ?_
  refine st (v := (I o1.2)) (rv_move rfl) ?_
  refine st (v := (I o1.2)) (rv_assign rfl) ?_
  refine w_end ?_
  refine q_then ?_
  refine c_ret ?_
  obtain rfl := Option.some.inj h
  exact fin_ret (v := (I o1.2)) (results_ok Try.results35 (res_tmp (v := (I o1.2)) rfl res_nil) rfl) ⟨rfl, rfl, hn13⟩ (H.sel' [0] rfl rfl)

theorem c_laws_markEntryS {a_0 : List (Int × (Int × (List Int) × Int))} {k_1 : Int} {aa_0 : Option Addr} {ca_0 : Nat} {lo : Nat} {K : List Ch} (hK : Dp lo (Sl aa_0 a_0 ca_0) a_0 K) {r : Int} (h : M.markEntD a_0 k_1 = some r) :
    Cal2 Try.prog 59 [(Sl aa_0 a_0 ca_0), (I k_1)] [Ch.big K] (fun n0 v L => v = (I r) ∧ L = []) := by
 obtain ⟨hn, h⟩ := markEntD_some h
 obtain ⟨ps, hps, rfl⟩ := hK.ex
 refine cal2 (n := 44) Try.func59 rfl rfl rfl rfl ?_
 intro S0 σ0 n0 hn0 H
 refine c_seq ?_
 refine rg ?_
 refine st (v := (I 0)) (rv_assign rfl) ?_
 refine w_end ?_
 refine q_then ?_
 refine c_seq ?_
 refine c_seq ?_
 refine rg ?_
 refine st (v := (I 0)) (rv_assign rfl) ?_
 refine w_end ?_
 refine q_then ?_
 refine c_cut (fun e a w => e = .normal ∧ ∃ (ρ : Nat → Value) (σ : St), a = fr 44 (updL ρ [(1, (I r))]) ∧ w = σ.w ∧ Hp S0 σ0 σ []) ?_ ?_
 ·refine c_blk ?_
  have hlen : ps.length = a_0.length := by rw [hps]; simp
  refine wp_loop_ghost (fun m a w => ∃ (i : Nat) (ρ : Nat → Value) (σ : St) (ys : List (Int × (Int × Value × Int))) (qs : List ((Int × (Int × (List Int) × Int)) × Value)) (k : Int), i + m = a_0.length ∧ qs.length = m ∧ ys.drop i = qs.map dsh ∧ M.dmarkEntS (qs.map (·.1)) k = some r ∧ a = fr 44 (updL ρ [(0, (Sl aa_0 a_0 ca_0)), (1, (I k)), (5, (I (i : Int)))]) ∧ w = σ.w ∧ Hp S0 σ0 σ [Ch.own lo lo (Sl aa_0 a_0 ca_0) ys, Ch.big (qs.map (dow lo))]) a_0.length ⟨0, _, σ0, _, ps, k_1, by omega, hlen, rfl, hps ▸ h, fr_join ⟨rfl, rfl, rfl, trivial⟩, rfl, H.unbig⟩ ?_
  clear H
  rintro m _ _ ⟨i, ρ, σ3, ys, qs, k, him, hqs, hys, hk, rfl, rfl, H⟩
  refine c_seq ?_
  refine c_seq ?_
  refine rg ?_
  refine st (v := (I (i : Int))) (rv_move rfl) ?_
  refine st (v := (Sl aa_0 a_0 ca_0)) (rv_move rfl) ?_
  refine st (v := (I (a_0.length : Int))) (rv_len Try.underlying23 rfl) ?_
  refine st (v := (B (decide ((i : Int) < (a_0.length : Int))))) (rv_lss (a := (i : Int)) (b := (a_0.length : Int)) rfl rfl) ?_
  refine w_end ?_
  refine q_then ?_
  refine cd_cond (decide ((i : Int) < (a_0.length : Int))) rfl (fun hb => ?_) (fun hb => ?_)
  ·have hlt : i < a_0.length := by have := of_decide_eq_true hb; omega
   obtain ⟨m, rfl⟩ : ∃ m', m = m' + 1 := ⟨m - 1, by omega⟩
   obtain ⟨p, qs, rfl⟩ : ∃ p qs', qs = p :: qs' := by cases qs with
    | nil => cases hqs
    | cons p qs => exact ⟨p, qs, rfl⟩
   obtain ⟨q, hq, hk'⟩ := bind_some (show (M.laws_markIntS p.1.2.2.1 (w64 (w64 (k + 1) + 1))).bind (fun q => M.dmarkEntS (qs.map (·.1)) (w64 (q.1 + 1))) = some r from hk)
   replace hys : ys.drop i = dsh p :: qs.map dsh := hys
   refine c_skip ?_
   refine q_then ?_
   refine c_seq ?_
   refine c_blk ?_
   refine c_seq ?_
   refine rg ?_
   refine st (v := (Sl aa_0 a_0 ca_0)) (rv_move rfl) ?_
   refine st (v := (I (i : Int))) (rv_move rfl) ?_
   refine st (v := (I k)) (rv_move rfl) ?_
   have hx7 := gidx_drop hys
   obtain ⟨b9, o10, hi8, -⟩ := (H.own 0 rfl).ix hx7
   refine st (v := (pt b9 o10)) (rv_ix Try.underlying23 ti56 rfl rfl hi8) ?_
   refine st (v := (pt b9 (o10 + 0))) (rv_fieldAddr (off := 0) (ft := 3) Try.underlying56 rfl ti3 rfl rfl) ?_
   refine st_exS (ex_store_own (e' := ((k, (p.1.2.1, p.2, p.1.2.2.2)) : Int × (Int × Value × Int))) (vs := [(I k)]) (k := 0) H (i := 0) rfl ti3 hx7 hi8 rfl rfl rfl rfl rfl (Nat.le_of_ble_eq_true rfl) (by simp [plain]) (by rintro _ ⟨_, _, rfl, rfl, ⟨_, _, rfl, rfl, ⟨_, _, rfl, ⟨rfl, hpl⟩, rfl⟩⟩⟩; exact ⟨[(I k)], [(I p.1.2.1), p.2, (I p.1.2.2.2)], rfl, rfl, ⟨[(I p.1.2.1)], [p.2, (I p.1.2.2.2)], rfl, rfl, ⟨[p.2], [(I p.1.2.2.2)], rfl, ⟨rfl, hpl⟩, rfl⟩⟩⟩)) (wanted_none _ rfl _) ?_
   rintro σ10 ⟨H, -⟩
   refine w_end ?_
   refine q_then ?_
   refine c_seq ?_
   refine rg ?_
   refine st (v := (I k)) (rv_move rfl) ?_
   refine st (v := (I (w64 (k + 1)))) (rv_add (a := k) (b := 1) rfl rfl) ?_
   refine st (v := (I (w64 (k + 1)))) (rv_assign rfl) ?_
   refine w_end ?_
   refine q_then ?_
   refine c_seq ?_
   refine rg ?_
   replace hys := drop_set (e' := ((k, (p.1.2.1, p.2, p.1.2.2.2)) : Int × (Int × Value × Int))) hys
   rw [Int.toNat_natCast] at H
   generalize ys.set i ((k, (p.1.2.1, p.2, p.1.2.2.2)) : Int × (Int × Value × Int)) = ys at H hys
   have hx7 := gidx_drop hys
   refine st (v := (Sl aa_0 a_0 ca_0)) (rv_move rfl) ?_
   refine st (v := (I (i : Int))) (rv_move rfl) ?_
   refine st (v := (I (w64 (k + 1)))) (rv_move rfl) ?_
   obtain ⟨b9, o10, hi8, -⟩ := (H.own 0 rfl).ix hx7
   refine st (v := (pt b9 o10)) (rv_ix Try.underlying23 ti56 rfl rfl hi8) ?_
   refine st (v := (pt b9 (o10 + 1))) (rv_fieldAddr (off := 1) (ft := 36) Try.underlying56 rfl ti36 rfl rfl) ?_
   refine st (v := (pt b9 (o10 + 1 + 0))) (rv_fieldAddr (off := 0) (ft := 3) Try.underlying36 rfl ti3 rfl rfl) ?_
   refine st_exS (ex_store_own (e' := ((k, ((w64 (k + 1)), p.2, p.1.2.2.2)) : Int × (Int × Value × Int))) (vs := [(I (w64 (k + 1)))]) (k := 1) H (i := 0) rfl ti3 hx7 hi8 rfl rfl rfl rfl rfl (Nat.le_of_ble_eq_true rfl) (by simp [plain]) (by rintro _ ⟨_, _, rfl, rfl, ⟨_, _, rfl, rfl, ⟨_, _, rfl, ⟨rfl, hpl⟩, rfl⟩⟩⟩; exact ⟨[(I k)], [(I (w64 (k + 1))), p.2, (I p.1.2.2.2)], rfl, rfl, ⟨[(I (w64 (k + 1)))], [p.2, (I p.1.2.2.2)], rfl, rfl, ⟨[p.2], [(I p.1.2.2.2)], rfl, ⟨rfl, hpl⟩, rfl⟩⟩⟩)) (wanted_none _ rfl _) ?_
   rintro σ11 ⟨H, -⟩
   refine w_end ?_
   refine q_then ?_
   refine c_seq ?_
   refine rg ?_
   refine st (v := (I (w64 (k + 1)))) (rv_move rfl) ?_
   refine st (v := (I (w64 (w64 (k + 1) + 1)))) (rv_add (a := (w64 (k + 1))) (b := 1) rfl rfl) ?_
   refine st (v := (I (w64 (w64 (k + 1) + 1)))) (rv_assign rfl) ?_
   refine w_end ?_
   refine q_then ?_
   refine c_seq ?_
   refine rg ?_
   replace hys := drop_set (e' := ((k, ((w64 (k + 1)), p.2, p.1.2.2.2)) : Int × (Int × Value × Int))) hys
   rw [Int.toNat_natCast] at H
   generalize ys.set i ((k, ((w64 (k + 1)), p.2, p.1.2.2.2)) : Int × (Int × Value × Int)) = ys at H hys
   have hx7 := gidx_drop hys
   refine st (v := (Sl aa_0 a_0 ca_0)) (rv_move rfl) ?_
   refine st (v := (I (i : Int))) (rv_move rfl) ?_
   obtain ⟨b9, o10, hi8, -⟩ := (H.own 0 rfl).ix hx7
   refine st (v := (pt b9 o10)) (rv_ix Try.underlying23 ti56 rfl rfl hi8) ?_
   refine st (v := (pt b9 (o10 + 1))) (rv_fieldAddr (off := 1) (ft := 36) Try.underlying56 rfl ti36 rfl rfl) ?_
   refine st (v := (pt b9 (o10 + 1 + 1))) (rv_fieldAddr (off := 1) (ft := 24) Try.underlying36 rfl ti24 rfl rfl) ?_
   obtain ⟨_, ⟨_, _, rfl, rfl, ⟨_, _, rfl, rfl, ⟨_, _, rfl, ⟨rfl, hpl⟩, rfl⟩⟩⟩, hl18, hc19⟩ := ((H.own 0 rfl).at hx7 hi8).cells
   replace H := Hp.unbig (H.sel' [1, 0] rfl rfl)
   obtain ⟨a20, c21, h22⟩ : IsSl p.2 p.1.2.2.1.length := (show Ow σ11 lo lo p.2 p.1.2.2.1 from H.head).isSl
   obtain ⟨px, hd⟩ := p
   dsimp only at h22 hq hys hc19
   subst h22
   have hc20 := hc19 2 (by simp)
   refine st (v := (Sl a20 px.2.2.1 c21)) (rv_load1 Try.underlying24 rfl rfl hc20) ?_
   refine st (v := (I (w64 (w64 (k + 1) + 1)))) (rv_move rfl) ?_
   replace H : Hp S0 σ0 σ11 [Ch.own lo lo (Sl a20 px.2.2.1 c21) px.2.2.1, Ch.big (qs.map (dow lo)), Ch.own lo lo (Sl aa_0 a_0 ca_0) ys] := H
   replace H := H.ownSc 0 0 0 rfl (Nat.zero_le _)
   have hc25 := c_laws_markIntS (aa_0 := a20) (ca_0 := c21) hq
   refine st_call (cx_call hc25 (ent_f hc25.fn rfl) hn0 (H.sel' [0, 1, 2] rfl rfl : Hp S0 σ0 _ ([_] ++ _))) (wanted_none _ rfl _) ?_
   rintro _ σ29 ⟨_, ⟨rfl, rfl, -⟩, H, -⟩
   replace H : Hp S0 σ0 σ29 [Ch.own 0 0 (Sl a20 q.2 c21) q.2, Ch.big (qs.map (dow lo)), Ch.own lo lo (Sl aa_0 a_0 ca_0) ys] := H
   replace H := H.sel' [2, 1] rfl rfl
   refine st (v := (I q.1)) (rv_assign rfl) ?_
   refine w_end ?_
   refine q_then ?_
   refine c_seq ?_
   refine rg ?_
   refine st (v := (Sl aa_0 a_0 ca_0)) (rv_move rfl) ?_
   refine st (v := (I (i : Int))) (rv_move rfl) ?_
   refine st (v := (I q.1)) (rv_move rfl) ?_
   obtain ⟨b9, o10, hi8, -⟩ := (H.own 0 rfl).ix hx7
   refine st (v := (pt b9 o10)) (rv_ix Try.underlying23 ti56 rfl rfl hi8) ?_
   refine st (v := (pt b9 (o10 + 1))) (rv_fieldAddr (off := 1) (ft := 36) Try.underlying56 rfl ti36 rfl rfl) ?_
   refine st (v := (pt b9 (o10 + 1 + 2))) (rv_fieldAddr (off := 2) (ft := 3) Try.underlying36 rfl ti3 rfl rfl) ?_
   refine st_exS (ex_store_own (e' := ((k, ((w64 (k + 1)), (Sl a20 px.2.2.1 c21), q.1)) : Int × (Int × Value × Int))) (vs := [(I q.1)]) (k := 3) H (i := 0) rfl ti3 hx7 hi8 rfl rfl rfl rfl rfl (Nat.le_of_ble_eq_true rfl) (by simp [plain]) (by rintro _ ⟨_, _, rfl, rfl, ⟨_, _, rfl, rfl, ⟨_, _, rfl, ⟨rfl, hpl⟩, rfl⟩⟩⟩; exact ⟨[(I k)], [(I (w64 (k + 1))), (Sl a20 px.2.2.1 c21), (I q.1)], rfl, rfl, ⟨[(I (w64 (k + 1)))], [(Sl a20 px.2.2.1 c21), (I q.1)], rfl, rfl, ⟨[(Sl a20 px.2.2.1 c21)], [(I q.1)], rfl, ⟨rfl, hpl⟩, rfl⟩⟩⟩)) (wanted_none _ rfl _) ?_
   rintro σ30 ⟨H, -⟩
   refine w_end ?_
   refine q_then ?_
   refine rg ?_
   refine st (v := (I q.1)) (rv_move rfl) ?_
   refine st (v := (I (w64 (q.1 + 1)))) (rv_add (a := q.1) (b := 1) rfl rfl) ?_
   refine st (v := (I (w64 (q.1 + 1)))) (rv_assign rfl) ?_
   refine w_end ?_
   refine q_blk ?_
   refine q_then ?_
   refine rg ?_
   refine st (v := (I (i : Int))) (rv_move rfl) ?_
   refine st (v := (I (w64 ((i : Int) + 1)))) (rv_add (a := (i : Int)) (b := 1) rfl rfl) ?_
   refine st (v := (I (w64 ((i : Int) + 1)))) (rv_assign rfl) ?_
   refine w_end ?_
   have e1 : w64 ((i : Int) + 1) = ((i + 1 : Nat) : Int) := w64_id (by omega) (by omega)
   rw [e1]
   refine q_then ?_
   rw [Int.toNat_natCast] at H
   exact ⟨m, by omega, i + 1, _, σ30, _, qs, _, by omega, by simpa using hqs, drop_next (drop_set hys), hk', fr_join ⟨rfl, rfl, rfl, trivial⟩, rfl, H⟩
  ·have hlt : ¬ i < a_0.length := by have := of_decide_eq_false hb; omega
   obtain rfl : m = 0 := by omega
   obtain rfl : qs = [] := List.eq_nil_of_length_eq_zero hqs
   obtain rfl : k = r := Option.some.inj hk
   refine c_exit ?_
   refine q_then_x ?_
   refine q_then_x ?_
   refine q_blk_hit ?_
   exact ⟨rfl, _, σ3, fr_join ⟨rfl, trivial⟩, rfl, H.sel' [] rfl rfl⟩
 ·clear H
  rintro e a w ⟨rfl, ρ, σ41, rfl, rfl, H⟩
  refine q_then ?_
  refine c_seq ?_
  refine rg ?_
  refine st (v := (I r)) (rv_move rfl) ?_
  refine st (v := (I r)) (rv_assign rfl) ?_
  refine w_end ?_
  refine q_then ?_
  refine c_ret ?_
  exact fin_ret (v := (I r)) (results_ok Try.results59 (res_tmp (v := (I r)) rfl res_nil) rfl) ⟨rfl, rfl⟩ H


theorem c_laws_markHistory {a_0 : (List (Int × (Int × (List Int) × Int))) × (List Int)} {k_1 : Int} {aa_0_0 : Option Addr} {ca_0_0 : Nat} {loa_0_0 : Nat} {Ka_0_0 : List Ch} (hKa_0_0 : Dp loa_0_0 (Sl aa_0_0 a_0.1 ca_0_0) a_0.1 Ka_0_0) {aa_0_1 : Option Addr} {ca_0_1 : Nat} {r : Int × (List Int)} (h : M.laws_markHistory a_0 k_1 = some r) :
    Cal2 Try.prog 22 [(.agg #[(Sl aa_0_0 a_0.1 ca_0_0), (Sl aa_0_1 a_0.2 ca_0_1)]), (I k_1)] [Ch.big Ka_0_0, Ch.own 0 0 (Sl aa_0_1 a_0.2 ca_0_1) a_0.2] (fun n0 v L => v = (I r.1) ∧ L = [Ch.own 0 0 (Sl aa_0_1 r.2 ca_0_1) r.2] ∧ r.2.length = a_0.2.length) := by
 refine cal2 (n := 14) Try.func22 rfl rfl rfl rfl ?_
 intro S0 σ0 n0 hn0 H
 unfold M.laws_markHistory at h
 refine c_seq ?_
 refine rg ?_
 refine st_ex (ex_box (cs := [(Sl aa_0_0 a_0.1 ca_0_0), (Sl aa_0_1 a_0.2 ca_0_1)]) H hn0 rfl rfl) wn ?_
 rintro _ σ2 ⟨b1, rfl, H, -⟩
 refine st (v := (I 0)) (rv_assign rfl) ?_
 refine w_end ?_
 refine q_then ?_
 refine c_seq ?_
 refine rg ?_
 refine st (v := (pt b1 0)) (rv_fieldAddr (off := 0) (ft := 23) Try.underlying26 rfl ti23 rfl rfl) ?_
 have hc3 := H.cell (u := (Sl aa_0_0 a_0.1 ca_0_0)) (o' := 0) 0 0 rfl rfl rfl
 refine st (v := (Sl aa_0_0 a_0.1 ca_0_0)) (rv_load1 Try.underlying23 rfl rfl hc3) ?_
 refine st (v := (I k_1)) (rv_move rfl) ?_
 obtain ⟨r4, hx5, h'⟩ := bind_some h
 clear h
 have h := h'; clear h'
 have hc6 := c_laws_markEntryS (aa_0 := aa_0_0) (ca_0 := ca_0_0) (hK := hKa_0_0) hx5
 refine st_call (cx_call hc6 (ent_f hc6.fn rfl) hn0 (show Hp S0 σ0 _ ([Ch.big Ka_0_0] ++ [Ch.bx n0 b1 0 [(Sl aa_0_0 a_0.1 ca_0_0), (Sl aa_0_1 a_0.2 ca_0_1)] [] [], Ch.own 0 0 (Sl aa_0_1 a_0.2 ca_0_1) a_0.2]) from (H.sel' [1, 0, 2] rfl rfl))) wn ?_
 rintro _ σ7 ⟨_, ⟨rfl, rfl⟩, H, -⟩
 replace H : Hp S0 σ0 σ7 [Ch.bx n0 b1 0 [(Sl aa_0_0 a_0.1 ca_0_0), (Sl aa_0_1 a_0.2 ca_0_1)] [] [], Ch.own 0 0 (Sl aa_0_1 a_0.2 ca_0_1) a_0.2] := H
 refine st (v := (I r4)) (rv_assign rfl) ?_
 refine w_end ?_
 refine q_then ?_
 refine c_seq ?_
 refine rg ?_
 refine st (v := (pt b1 1)) (rv_fieldAddr (off := 1) (ft := 24) Try.underlying26 rfl ti24 rfl rfl) ?_
 have hc8 := H.cell (u := (Sl aa_0_1 a_0.2 ca_0_1)) (o' := 1) 0 1 rfl rfl rfl
 refine st (v := (Sl aa_0_1 a_0.2 ca_0_1)) (rv_load1 Try.underlying24 rfl rfl hc8) ?_
 refine st (v := (I r4)) (rv_move rfl) ?_
 obtain ⟨r9, hx10, h'⟩ := bind_some h
 clear h
 have h := h'; clear h'
 have hc11 := c_laws_markIntS (aa_0 := aa_0_1) (ca_0 := ca_0_1) hx10
 refine st_call (cx_call hc11 (ent_f hc11.fn rfl) hn0 (show Hp S0 σ0 _ ([Ch.own 0 0 (Sl aa_0_1 a_0.2 ca_0_1) a_0.2] ++ [Ch.bx n0 b1 0 [(Sl aa_0_0 a_0.1 ca_0_0), (Sl aa_0_1 a_0.2 ca_0_1)] [] []]) from (H.sel' [1, 0] rfl rfl))) wn ?_
 rintro _ σ13 ⟨_, ⟨rfl, rfl, hn12⟩, H, -⟩
 replace H : Hp S0 σ0 σ13 [Ch.own 0 0 (Sl aa_0_1 r9.2 ca_0_1) r9.2, Ch.bx n0 b1 0 [(Sl aa_0_0 a_0.1 ca_0_0), (Sl aa_0_1 a_0.2 ca_0_1)] [] []] := H
 have hsl : (Sl aa_0_1 a_0.2 ca_0_1) = (Sl aa_0_1 r9.2 ca_0_1) := sl_len hn12.symm
 try rw [hsl]
 try rw [hsl] at H
 clear hsl
 refine st (v := (I r9.1)) (rv_assign rfl) ?_
 refine w_end ?_
 refine q_then ?_
 refine c_seq ?_
 refine rg ?_
 refine st (v := (I r9.1)) (rv_move rfl) ?_
 refine st (v := (I r9.1)) (rv_assign rfl) ?_
 refine w_end ?_
 refine q_then ?_
 refine c_ret ?_
 obtain rfl := Option.some.inj h
 exact fin_ret (v := (I r9.1)) (results_ok Try.results22 (res_tmp (v := (I r9.1)) rfl res_nil) rfl) ⟨rfl, rfl, hn12⟩ (H.sel' [0] rfl rfl)

theorem c_laws_heldIntS {a_0 : List Int} {k_1 : Int} {aa_0 : Option Addr} {ca_0 : Nat} {r : Int} (h : M.laws_heldIntS a_0 k_1 = some r) :
    Cal2 Try.prog 36 [(Sl aa_0 a_0 ca_0), (I k_1)] [Ch.ro 0 (Sl aa_0 a_0 ca_0) a_0] (fun n0 v L => v = (I r) ∧ L = []) := by
 refine cal2 (n := 21) Try.func36 rfl rfl rfl rfl ?_
 intro S0 σ0 n0 hn0 H
 unfold M.laws_heldIntS at h
 refine c_seq ?_
 refine rg ?_
 refine st (v := (I 0)) (rv_assign rfl) ?_
 refine w_end ?_
 refine q_then ?_
 refine c_seq ?_
 refine c_seq ?_
 refine rg ?_
 refine st (v := (I 0)) (rv_assign rfl) ?_
 refine w_end ?_
 refine q_then ?_
 obtain ⟨o1, hj, h'⟩ := bind_some h
 clear h
 refine c_cut (fun e a w => (∃ t, o1 = (.inl t) ∧ e = .normal ∧ ∃ (ρ : Nat → Value) (σ : St), a = fr 21 (updL ρ [(1, (I t))]) ∧ w = σ.w ∧ Hp S0 σ0 σ []) ∨ (∃ t, o1 = (.inr t) ∧ e = .ret ∧ ∃ (ρ : Nat → Value) (σ : St), a = fr 21 (updL ρ [(4, (I t))]) ∧ w = σ.w ∧ Hp S0 σ0 σ [])) ?_ ?_
 ·clear h'
  rename _ = some o1 => h
  refine c_blk ?_
  refine wp_loopM _ h (fun s2 a w => ∃ (ρ : Nat → Value) (σ : St), a = fr 21 (updL ρ [(0, (Sl aa_0 a_0 ca_0)), (1, (I s2.1)), (5, (I s2.2))]) ∧ w = σ.w ∧ Hp S0 σ0 σ [Ch.ro 0 (Sl aa_0 a_0 ca_0) a_0]) ⟨_, σ0, fr_join ⟨rfl, rfl, rfl, trivial⟩, rfl, H.sel' [0] rfl rfl⟩ ?_
  clear h H
  rintro s2 a w o ⟨ρ, σ3, rfl, rfl, H⟩ h hres
  refine c_seq ?_
  refine c_seq ?_
  refine rg ?_
  refine st (v := (I s2.2)) (rv_move rfl) ?_
  refine st (v := (Sl aa_0 a_0 ca_0)) (rv_move rfl) ?_
  refine st (v := (I (a_0.length : Int))) (rv_len Try.underlying24 rfl) ?_
  refine st (v := (B (decide (s2.2 < (a_0.length : Int))))) (rv_lss (a := s2.2) (b := (a_0.length : Int)) rfl rfl) ?_
  refine w_end ?_
  refine q_then ?_
  refine cd_cond (decide (s2.2 < (a_0.length : Int))) rfl (fun hb4 => ?_) (fun hb4 => ?_)
  ·replace h := bif_t hb4 h
   refine c_skip ?_
   refine q_then ?_
   refine c_seq ?_
   refine c_blk ?_
   refine c_seq ?_
   refine c_seq ?_
   refine rg ?_
   refine st (v := (Sl aa_0 a_0 ca_0)) (rv_move rfl) ?_
   refine st (v := (I s2.2)) (rv_move rfl) ?_
   obtain ⟨x5, hx6, h'⟩ := bind_some h
   clear h
   have h := h'; clear h'
   obtain ⟨b8, o9, hi7, -⟩ := (H.ro 0 rfl).ix hx6
   refine st (v := (pt b8 o9)) (rv_ix Try.underlying24 ti3 rfl rfl hi7) ?_
   have hc10 := ((H.ro 0 rfl).at hx6 hi7).int
   refine st (v := (I x5)) (rv_load1 Try.underlying3 rfl rfl hc10) ?_
   refine st (v := (I s2.1)) (rv_move rfl) ?_
   refine st (v := (B (x5 != s2.1))) (rv_neq (a := x5) (b := s2.1) rfl rfl) ?_
   refine w_end ?_
   refine q_then ?_
   refine cd_cond (x5 != s2.1) rfl (fun hb11 => ?_) (fun hb11 => ?_)
   ·replace h := bif_t hb11 h
    refine c_seq ?_
    refine rg ?_
    refine st (v := (I (-1))) (rv_assign rfl) ?_
    refine w_end ?_
    refine q_then ?_
    refine c_ret ?_
    refine q_then_r ?_
    refine q_blk_r ?_
    refine q_then_r ?_
    refine q_then_r ?_
    refine q_blk_r ?_
    obtain rfl := Option.some.inj h
    obtain rfl := hres _ rfl
    exact .inr (⟨_, rfl, rfl, _, σ3, fr_join ⟨rfl, trivial⟩, rfl, H.sel' [] rfl rfl⟩)
   ·replace h := bif_f hb11 h
    refine c_skip ?_
    refine q_then ?_
    refine rg ?_
    refine st (v := (I s2.1)) (rv_move rfl) ?_
    refine st (v := (I (w64 (s2.1 + 1)))) (rv_add (a := s2.1) (b := 1) rfl rfl) ?_
    refine st (v := (I (w64 (s2.1 + 1)))) (rv_assign rfl) ?_
    refine w_end ?_
    refine q_blk ?_
    refine q_then ?_
    refine rg ?_
    refine st (v := (I s2.2)) (rv_move rfl) ?_
    refine st (v := (I (w64 (s2.2 + 1)))) (rv_add (a := s2.2) (b := 1) rfl rfl) ?_
    refine st (v := (I (w64 (s2.2 + 1)))) (rv_assign rfl) ?_
    refine w_end ?_
    refine q_then ?_
    obtain rfl := Option.some.inj h
    exact ⟨_, rfl, _, σ3, fr_join ⟨rfl, rfl, rfl, trivial⟩, rfl, H.sel' [0] rfl rfl⟩
  ·replace h := bif_f hb4 h
   refine c_exit ?_
   refine q_then_x ?_
   refine q_then_x ?_
   refine q_blk_hit ?_
   obtain rfl := Option.some.inj h
   obtain rfl := hres _ rfl
   exact .inl ⟨_, rfl, rfl, _, σ3, fr_join ⟨rfl, trivial⟩, rfl, H.sel' [] rfl rfl⟩
 ·clear hj
  have h := h'
  clear h' H
  rintro e a w (⟨t12, rfl, rfl, ρ, σ13, rfl, rfl, H⟩ | ⟨t14, rfl, rfl, ρ, σ15, rfl, rfl, H⟩)
  ·replace h := selim_l h
   refine q_then ?_
   refine c_seq ?_
   refine rg ?_
   refine st (v := (I t12)) (rv_move rfl) ?_
   refine st (v := (I t12)) (rv_assign rfl) ?_
   refine w_end ?_
   refine q_then ?_
   refine c_ret ?_
   obtain rfl := Option.some.inj h
   exact fin_ret (v := (I t12)) (results_ok Try.results36 (res_tmp (v := (I t12)) rfl res_nil) rfl) ⟨rfl, rfl⟩ (H.sel' [] rfl rfl)
  ·replace h := selim_r h
   refine q_then_r ?_
   obtain rfl := Option.some.inj h
   exact fin_ret (v := (I t14)) (results_ok Try.results36 (res_tmp (v := (I t14)) rfl res_nil) rfl) ⟨rfl, rfl⟩ (H.sel' [] rfl rfl)

theorem c_laws_FnExactChangedKeys {aH_0 : (List (Int × (Int × (List Int) × Int))) × (List Int)} {aA_1 : Int} {aB_2 : Int} {aaH_0_0 : Option Addr} {caH_0_0 : Nat} {aaH_0_1 : Option Addr} {caH_0_1 : Nat} {r : Bool} (h : M.laws_FnExactChangedKeys aH_0 aA_1 aB_2 = some r) :
    Cal2 Try.prog 8 [(.agg #[(Sl aaH_0_0 aH_0.1 caH_0_0), (Sl aaH_0_1 aH_0.2 caH_0_1)]), (I aA_1), (I aB_2)] [Ch.ro 0 (Sl aaH_0_0 aH_0.1 caH_0_0) aH_0.1, Ch.ro 0 (Sl aaH_0_1 aH_0.2 caH_0_1) aH_0.2] (fun n0 v L => v = (B r) ∧ L = []) := by
 refine cal2 (n := 79) Try.func8 rfl rfl rfl rfl ?_
 intro S0 σ0 n0 hn0 H
 unfold M.laws_FnExactChangedKeys at h
 refine c_seq ?_
 refine rg ?_
 refine st_ex (ex_box (cs := [(Sl aaH_0_0 aH_0.1 caH_0_0), (Sl aaH_0_1 aH_0.2 caH_0_1)]) H hn0 rfl rfl) wn ?_
 rintro _ σ2 ⟨b1, rfl, H, -⟩
 refine st (v := (B false)) (rv_assign rfl) ?_
 refine w_end ?_
 refine q_then ?_
 refine c_seq ?_
 refine rg ?_
 refine st (v := (I 1048576)) (rv_assign rfl) ?_
 refine w_end ?_
 refine q_then ?_
 refine c_seq ?_
 refine rg ?_
 have hc3 := H.cells 0 rfl
 refine st (v := (.agg #[(Sl aaH_0_0 aH_0.1 caH_0_0), (Sl aaH_0_1 aH_0.2 caH_0_1)])) (rv_load (cs := [(Sl aaH_0_0 aH_0.1 caH_0_0), (Sl aaH_0_1 aH_0.2 caH_0_1)]) Try.underlying40 rfl ti40 rfl rfl hc3) ?_
 refine st (v := (I 1048576)) (rv_move rfl) ?_
 obtain ⟨r4, hx5, h'⟩ := bind_some h
 clear h
 have h := h'; clear h'
 have hc6 := c_laws_szHistory (aa_0_0 := aaH_0_0) (ca_0_0 := caH_0_0) (aa_0_1 := aaH_0_1) (ca_0_1 := caH_0_1) hx5
 refine st_call (cx_call hc6 (ent_f hc6.fn rfl) hn0 (show Hp S0 σ0 _ ([Ch.ro 0 (Sl aaH_0_0 aH_0.1 caH_0_0) aH_0.1, Ch.ro 0 (Sl aaH_0_1 aH_0.2 caH_0_1) aH_0.2] ++ [Ch.bx n0 b1 0 [(Sl aaH_0_0 aH_0.1 caH_0_0), (Sl aaH_0_1 aH_0.2 caH_0_1)] [] [], Ch.ro 0 (Sl aaH_0_0 aH_0.1 caH_0_0) aH_0.1, Ch.ro 0 (Sl aaH_0_1 aH_0.2 caH_0_1) aH_0.2]) from (H.sel' [1, 2, 0, 1, 2] rfl rfl))) wn ?_
 rintro _ σ7 ⟨_, ⟨rfl, rfl⟩, H, -⟩
 replace H : Hp S0 σ0 σ7 [Ch.bx n0 b1 0 [(Sl aaH_0_0 aH_0.1 caH_0_0), (Sl aaH_0_1 aH_0.2 caH_0_1)] [] [], Ch.ro 0 (Sl aaH_0_0 aH_0.1 caH_0_0) aH_0.1, Ch.ro 0 (Sl aaH_0_1 aH_0.2 caH_0_1) aH_0.2] := H
 refine st (v := (I r4)) (rv_assign rfl) ?_
 refine w_end ?_
 refine q_then ?_
 refine c_seq ?_
 refine c_seq ?_
 refine rg ?_
 refine st (v := (I r4)) (rv_move rfl) ?_
 refine st (v := (B (decide (r4 < 0)))) (rv_lss (a := r4) (b := 0) rfl rfl) ?_
 refine w_end ?_
 refine q_then ?_
 refine cd_cond (decide (r4 < 0)) rfl (fun hb8 => ?_) (fun hb8 => ?_)
 ·replace h := bif_t hb8 h
  refine c_seq ?_
  refine rg ?_
  refine st (v := (B true)) (rv_assign rfl) ?_
  refine w_end ?_
  refine q_then ?_
  refine c_ret ?_
  refine q_then_r ?_
  obtain rfl := Option.some.inj h
  exact fin_ret (v := (B true)) (results_ok Try.results8 (res_tmp (v := (B true)) rfl res_nil) rfl) ⟨rfl, rfl⟩ (H.sel' [] rfl rfl)
 ·replace h := bif_f hb8 h
  refine c_skip ?_
  refine q_then ?_
  refine c_seq ?_
  refine rg ?_
  have hc9 := H.cells 0 rfl
  refine st (v := (.agg #[(Sl aaH_0_0 aH_0.1 caH_0_0), (Sl aaH_0_1 aH_0.2 caH_0_1)])) (rv_load (cs := [(Sl aaH_0_0 aH_0.1 caH_0_0), (Sl aaH_0_1 aH_0.2 caH_0_1)]) Try.underlying40 rfl ti40 rfl rfl hc9) ?_
  obtain ⟨r10, hx11, h'⟩ := bind_some h
  clear h
  have h := h'; clear h'
  have hc12 := c_laws_toHistoryD (aa_0_0 := aaH_0_0) (ca_0_0 := caH_0_0) (aa_0_1 := aaH_0_1) (ca_0_1 := caH_0_1) hx11
  refine st_call (cx_call hc12 (ent_f hc12.fn rfl) hn0 (show Hp S0 σ0 _ ([Ch.ro 0 (Sl aaH_0_0 aH_0.1 caH_0_0) aH_0.1, Ch.ro 0 (Sl aaH_0_1 aH_0.2 caH_0_1) aH_0.2] ++ [Ch.bx n0 b1 0 [(Sl aaH_0_0 aH_0.1 caH_0_0), (Sl aaH_0_1 aH_0.2 caH_0_1)] [] [], Ch.ro 0 (Sl aaH_0_0 aH_0.1 caH_0_0) aH_0.1, Ch.ro 0 (Sl aaH_0_1 aH_0.2 caH_0_1) aH_0.2]) from (H.sel' [1, 2, 0, 1, 2] rfl rfl))) wn ?_
  rintro _ σ20 ⟨_, ⟨a13, c14, K15, a17, c18, rfl, rfl, hK16, ht19⟩, H, -⟩
  replace H : Hp S0 σ0 σ20 [Ch.big K15, Ch.own n0 n0 (Sl a17 r10.2 c18) r10.2, Ch.bx n0 b1 0 [(Sl aaH_0_0 aH_0.1 caH_0_0), (Sl aaH_0_1 aH_0.2 caH_0_1)] [] [], Ch.ro 0 (Sl aaH_0_0 aH_0.1 caH_0_0) aH_0.1, Ch.ro 0 (Sl aaH_0_1 aH_0.2 caH_0_1) aH_0.2] := H
  refine st (v := (I aA_1)) (rv_move rfl) ?_
  refine st (v := (I aB_2)) (rv_move rfl) ?_
  obtain ⟨σ21, hw22, H, -⟩ := H.pub 1 rfl (Nat.le_refl _)
  rw [← hw22]; clear hw22
  replace H := H.roLow 0 0 rfl (Nat.zero_le _)
  obtain ⟨r23, hx24, h'⟩ := bind_some h
  clear h
  have h := h'; clear h'
  have hc25 := c_spec_ChangedKeys (ah_0_0 := a13) (ch_0_0 := c14) (ah_0_1 := a17) (ch_0_1 := c18) hx24
  have hle := Nat.le_trans hn0 H.size
  refine st_call (cx_lend (Loan.lendB hK16.lends (Loan.same Loan.nil)) hc25 (ent_f hc25.fn rfl) (show Hp S0 σ0 _ ([Ch.big K15] ++ ([Ch.ro 0 (Sl a17 r10.2 c18) r10.2] ++ [Ch.ro 0 (Sl a17 r10.2 c18) r10.2, Ch.ro n0 (Sl a17 r10.2 c18) r10.2, Ch.bx n0 b1 0 [(Sl aaH_0_0 aH_0.1 caH_0_0), (Sl aaH_0_1 aH_0.2 caH_0_1)] [] [], Ch.ro 0 (Sl aaH_0_0 aH_0.1 caH_0_0) aH_0.1, Ch.ro 0 (Sl aaH_0_1 aH_0.2 caH_0_1) aH_0.2])) from (H.sel' [2, 0, 0, 1, 3, 4, 5] rfl rfl)) (by rintro _ _ _ ⟨_, _, rfl, rfl⟩; exact ⟨Ab.ownSc, trivial⟩)) wn ?_
  rintro _ σ28 ⟨_, ⟨a26, c27, rfl, rfl⟩, H, -, -⟩
  replace H : Hp S0 σ0 σ28 [Ch.own σ21.size σ21.size (Sl a26 r23 c27) r23, Ch.big K15, Ch.ro 0 (Sl a17 r10.2 c18) r10.2, Ch.ro n0 (Sl a17 r10.2 c18) r10.2, Ch.bx n0 b1 0 [(Sl aaH_0_0 aH_0.1 caH_0_0), (Sl aaH_0_1 aH_0.2 caH_0_1)] [] [], Ch.ro 0 (Sl aaH_0_0 aH_0.1 caH_0_0) aH_0.1, Ch.ro 0 (Sl aaH_0_1 aH_0.2 caH_0_1) aH_0.2] := H
  replace H := H.ownLow 0 n0 n0 rfl hle hle
  clear hle
  replace H : Hp S0 σ0 σ28 [Ch.own n0 n0 (Sl a26 r23 c27) r23, Ch.big K15, Ch.ro 0 (Sl a17 r10.2 c18) r10.2, Ch.ro n0 (Sl a17 r10.2 c18) r10.2, Ch.bx n0 b1 0 [(Sl aaH_0_0 aH_0.1 caH_0_0), (Sl aaH_0_1 aH_0.2 caH_0_1)] [] [], Ch.ro 0 (Sl aaH_0_0 aH_0.1 caH_0_0) aH_0.1, Ch.ro 0 (Sl aaH_0_1 aH_0.2 caH_0_1) aH_0.2] := H
  refine st (v := (Sl a26 r23 c27)) (rv_assign rfl) ?_
  refine w_end ?_
  refine q_then ?_
  refine c_seq ?_
  refine rg ?_
  have hc29 := H.cells 4 rfl
  refine st (v := (.agg #[(Sl aaH_0_0 aH_0.1 caH_0_0), (Sl aaH_0_1 aH_0.2 caH_0_1)])) (rv_load (cs := [(Sl aaH_0_0 aH_0.1 caH_0_0), (Sl aaH_0_1 aH_0.2 caH_0_1)]) Try.underlying40 rfl ti40 rfl rfl hc29) ?_
  obtain ⟨r30, hx31, h'⟩ := bind_some h
  clear h
  have h := h'; clear h'
  have hc32 := c_laws_toHistoryD (aa_0_0 := aaH_0_0) (ca_0_0 := caH_0_0) (aa_0_1 := aaH_0_1) (ca_0_1 := caH_0_1) hx31
  refine st_call (cx_call hc32 (ent_f hc32.fn rfl) hn0 (show Hp S0 σ0 _ ([Ch.ro 0 (Sl aaH_0_0 aH_0.1 caH_0_0) aH_0.1, Ch.ro 0 (Sl aaH_0_1 aH_0.2 caH_0_1) aH_0.2] ++ [Ch.own n0 n0 (Sl a26 r23 c27) r23, Ch.big K15, Ch.ro 0 (Sl a17 r10.2 c18) r10.2, Ch.ro n0 (Sl a17 r10.2 c18) r10.2, Ch.bx n0 b1 0 [(Sl aaH_0_0 aH_0.1 caH_0_0), (Sl aaH_0_1 aH_0.2 caH_0_1)] [] [], Ch.ro 0 (Sl aaH_0_0 aH_0.1 caH_0_0) aH_0.1, Ch.ro 0 (Sl aaH_0_1 aH_0.2 caH_0_1) aH_0.2]) from (H.sel' [5, 6, 0, 1, 2, 3, 4, 5, 6] rfl rfl))) wn ?_
  rintro _ σ40 ⟨_, ⟨a33, c34, K35, a37, c38, rfl, rfl, hK36, ht39⟩, H, -⟩
  replace H : Hp S0 σ0 σ40 [Ch.big K35, Ch.own n0 n0 (Sl a37 r30.2 c38) r30.2, Ch.own n0 n0 (Sl a26 r23 c27) r23, Ch.big K15, Ch.ro 0 (Sl a17 r10.2 c18) r10.2, Ch.ro n0 (Sl a17 r10.2 c18) r10.2, Ch.bx n0 b1 0 [(Sl aaH_0_0 aH_0.1 caH_0_0), (Sl aaH_0_1 aH_0.2 caH_0_1)] [] [], Ch.ro 0 (Sl aaH_0_0 aH_0.1 caH_0_0) aH_0.1, Ch.ro 0 (Sl aaH_0_1 aH_0.2 caH_0_1) aH_0.2] := H
  replace H : Hp S0 σ0 σ40 [Ch.big K35, Ch.own n0 n0 (Sl a37 r30.2 c38) r30.2, Ch.own n0 n0 (Sl a26 r23 c27) r23, Ch.bx n0 b1 0 [(Sl aaH_0_0 aH_0.1 caH_0_0), (Sl aaH_0_1 aH_0.2 caH_0_1)] [] [], Ch.ro 0 (Sl aaH_0_0 aH_0.1 caH_0_0) aH_0.1, Ch.ro 0 (Sl aaH_0_1 aH_0.2 caH_0_1) aH_0.2] := H.sel' [0, 1, 2, 6, 7, 8] rfl rfl
  refine st_ex (ex_alloc (cs := [(.slice none 0 0), (.slice none 0 0)]) H hn0 ti26 rfl) wn ?_
  rintro _ σ42 ⟨b41, rfl, H, -⟩
  refine st_exS (ex_store_box (k := 0) (cs := [(.slice none 0 0), (.slice none 0 0)]) (vs := [(Sl a33 r30.1 c34), (Sl a37 r30.2 c38)]) (cs' := [(Sl a33 r30.1 c34), (Sl a37 r30.2 c38)]) H (i := 0) rfl ti26 rfl rfl rfl rfl rfl (Nat.le_of_ble_eq_true rfl) (by simp [plain]) rfl) wn ?_
  rintro σ43 ⟨H, -⟩
  refine w_end ?_
  refine q_then ?_
  refine c_seq ?_
  refine rg ?_
  have hc44 := H.cells 0 rfl
  refine st (v := (.agg #[(Sl a33 r30.1 c34), (Sl a37 r30.2 c38)])) (rv_load (cs := [(Sl a33 r30.1 c34), (Sl a37 r30.2 c38)]) Try.underlying26 rfl ti26 rfl rfl hc44) ?_
  refine st (v := (I aA_1)) (rv_move rfl) ?_
  refine st (v := (I aB_2)) (rv_move rfl) ?_
  obtain ⟨r45, hx46, h'⟩ := bind_some h
  clear h
  have h := h'; clear h'
  have hc47 := c_impl_ChangedKeys (ah_0_0 := a33) (ch_0_0 := c34) (ah_0_1 := a37) (ch_0_1 := c38) hx46
  have hle := Nat.le_trans hn0 H.size
  refine st_call (cx_lend (Loan.lendB hK36.lends (Loan.lend Loan.nil)) hc47 (ent_f hc47.fn rfl) (show Hp S0 σ0 _ ([Ch.big K35, Ch.own n0 n0 (Sl a37 r30.2 c38) r30.2] ++ ([] ++ [Ch.bx n0 b41 0 [(Sl a33 r30.1 c34), (Sl a37 r30.2 c38)] [] [], Ch.own n0 n0 (Sl a26 r23 c27) r23, Ch.bx n0 b1 0 [(Sl aaH_0_0 aH_0.1 caH_0_0), (Sl aaH_0_1 aH_0.2 caH_0_1)] [] [], Ch.ro 0 (Sl aaH_0_0 aH_0.1 caH_0_0) aH_0.1, Ch.ro 0 (Sl aaH_0_1 aH_0.2 caH_0_1) aH_0.2])) from (H.sel' [1, 2, 0, 3, 4, 5, 6] rfl rfl)) (by rintro _ _ _ ⟨_, _, rfl, rfl⟩; exact ⟨Ab.ownSc, trivial⟩)) wn ?_
  rintro _ σ50 ⟨_, ⟨a48, c49, rfl, rfl⟩, H, -, -⟩
  replace H : Hp S0 σ0 σ50 [Ch.own 0 σ43.size (Sl a48 r45 c49) r45, Ch.big K35, Ch.own n0 n0 (Sl a37 r30.2 c38) r30.2, Ch.bx n0 b41 0 [(Sl a33 r30.1 c34), (Sl a37 r30.2 c38)] [] [], Ch.own n0 n0 (Sl a26 r23 c27) r23, Ch.bx n0 b1 0 [(Sl aaH_0_0 aH_0.1 caH_0_0), (Sl aaH_0_1 aH_0.2 caH_0_1)] [] [], Ch.ro 0 (Sl aaH_0_0 aH_0.1 caH_0_0) aH_0.1, Ch.ro 0 (Sl aaH_0_1 aH_0.2 caH_0_1) aH_0.2] := H
  replace H := H.ownLow 0 0 n0 rfl (Nat.le_refl _) hle
  clear hle
  replace H : Hp S0 σ0 σ50 [Ch.own 0 n0 (Sl a48 r45 c49) r45, Ch.big K35, Ch.own n0 n0 (Sl a37 r30.2 c38) r30.2, Ch.bx n0 b41 0 [(Sl a33 r30.1 c34), (Sl a37 r30.2 c38)] [] [], Ch.own n0 n0 (Sl a26 r23 c27) r23, Ch.bx n0 b1 0 [(Sl aaH_0_0 aH_0.1 caH_0_0), (Sl aaH_0_1 aH_0.2 caH_0_1)] [] [], Ch.ro 0 (Sl aaH_0_0 aH_0.1 caH_0_0) aH_0.1, Ch.ro 0 (Sl aaH_0_1 aH_0.2 caH_0_1) aH_0.2] := H
  refine st (v := (Sl a48 r45 c49)) (rv_assign rfl) ?_
  refine w_end ?_
  refine q_then ?_
  refine c_seq ?_
  refine c_seq ?_
  refine rg ?_
  refine st (v := (Sl a48 r45 c49)) (rv_move rfl) ?_
  refine st (v := (Sl a26 r23 c27)) (rv_move rfl) ?_
  obtain ⟨r51, hx52, h'⟩ := bind_some h
  clear h
  have h := h'; clear h'
  have hc53 := c_laws_eqIntS (aa_0 := a48) (ca_0 := c49) (ab_1 := a26) (cb_1 := c27) hx52
  have hle := Nat.le_trans hn0 H.size
  refine st_call (cx_lend (Loan.lend (Loan.lend Loan.nil)) hc53 (ent_f hc53.fn rfl) (show Hp S0 σ0 _ ([Ch.own 0 n0 (Sl a48 r45 c49) r45, Ch.own n0 n0 (Sl a26 r23 c27) r23] ++ ([] ++ [Ch.big K35, Ch.own n0 n0 (Sl a37 r30.2 c38) r30.2, Ch.bx n0 b41 0 [(Sl a33 r30.1 c34), (Sl a37 r30.2 c38)] [] [], Ch.bx n0 b1 0 [(Sl aaH_0_0 aH_0.1 caH_0_0), (Sl aaH_0_1 aH_0.2 caH_0_1)] [] [], Ch.ro 0 (Sl aaH_0_0 aH_0.1 caH_0_0) aH_0.1, Ch.ro 0 (Sl aaH_0_1 aH_0.2 caH_0_1) aH_0.2])) from (H.sel' [0, 4, 1, 2, 3, 5, 6, 7] rfl rfl)) (by rintro _ _ _ ⟨rfl, rfl⟩; exact trivial)) wn ?_
  rintro _ σ54 ⟨_, ⟨rfl, rfl⟩, H, -, -⟩
  replace H : Hp S0 σ0 σ54 [Ch.own 0 n0 (Sl a48 r45 c49) r45, Ch.own n0 n0 (Sl a26 r23 c27) r23, Ch.big K35, Ch.own n0 n0 (Sl a37 r30.2 c38) r30.2, Ch.bx n0 b41 0 [(Sl a33 r30.1 c34), (Sl a37 r30.2 c38)] [] [], Ch.bx n0 b1 0 [(Sl aaH_0_0 aH_0.1 caH_0_0), (Sl aaH_0_1 aH_0.2 caH_0_1)] [] [], Ch.ro 0 (Sl aaH_0_0 aH_0.1 caH_0_0) aH_0.1, Ch.ro 0 (Sl aaH_0_1 aH_0.2 caH_0_1) aH_0.2] := H
  clear hle
  replace H : Hp S0 σ0 σ54 [Ch.own 0 n0 (Sl a48 r45 c49) r45, Ch.own n0 n0 (Sl a26 r23 c27) r23, Ch.big K35, Ch.own n0 n0 (Sl a37 r30.2 c38) r30.2, Ch.bx n0 b41 0 [(Sl a33 r30.1 c34), (Sl a37 r30.2 c38)] [] [], Ch.bx n0 b1 0 [(Sl aaH_0_0 aH_0.1 caH_0_0), (Sl aaH_0_1 aH_0.2 caH_0_1)] [] [], Ch.ro 0 (Sl aaH_0_0 aH_0.1 caH_0_0) aH_0.1, Ch.ro 0 (Sl aaH_0_1 aH_0.2 caH_0_1) aH_0.2] := H
  refine st (v := (B (!r51))) (rv_not rfl) ?_
  refine w_end ?_
  refine q_then ?_
  refine cd_cond (!r51) rfl (fun hb55 => ?_) (fun hb55 => ?_)
  ·replace h := bif_t hb55 h
   refine c_seq ?_
   refine rg ?_
   refine st (v := (B false)) (rv_assign rfl) ?_
   refine w_end ?_
   refine q_then ?_
   refine c_ret ?_
   refine q_then_r ?_
   obtain rfl := Option.some.inj h
   exact fin_ret (v := (B false)) (results_ok Try.results8 (res_tmp (v := (B false)) rfl res_nil) rfl) ⟨rfl, rfl⟩ (H.sel' [] rfl rfl)
  ·replace h := bif_f hb55 h
   refine c_skip ?_
   refine q_then ?_
   refine c_seq ?_
   refine c_seq ?_
   have hc56 := H.cells 4 rfl
   have hc57 := H.cells 5 rfl
   obtain ⟨r58, hx59, h'⟩ := bind_some h
   clear h
   have h := h'; clear h'
   have hc60 := c_laws_toHistoryD (aa_0_0 := aaH_0_0) (ca_0_0 := caH_0_0) (aa_0_1 := aaH_0_1) (ca_0_1 := caH_0_1) hx59
   have Hs := H
   refine rg2 (σ := σ54) (Nm := (Option Addr) × (Nat) × (List Ch) × (Option Addr) × (Nat)) 3 [2] [[false], [true]] [[(0, 0), (1, 1)], [(0, 0)], [(0, 1)]] 1 [fun ((a61, c62, K63, a65, c66) : (Option Addr) × (Nat) × (List Ch) × (Option Addr) × (Nat)) => fun σm => Hp S0 σ0 σm [Ch.own 0 n0 (Sl a48 r45 c49) r45, Ch.own n0 n0 (Sl a26 r23 c27) r23, Ch.big K35, Ch.own n0 n0 (Sl a37 r30.2 c38) r30.2, Ch.bx n0 b41 0 [(Sl a33 r30.1 c34), (Sl a37 r30.2 c38)] [] [], Ch.bx n0 b1 0 [(Sl aaH_0_0 aH_0.1 caH_0_0), (Sl aaH_0_1 aH_0.2 caH_0_1)] [] [], Ch.ro 0 (Sl aaH_0_0 aH_0.1 caH_0_0) aH_0.1, Ch.ro 0 (Sl aaH_0_1 aH_0.2 caH_0_1) aH_0.2] ∧ Md (cov []) σ54 σm, fun ((a61, c62, K63, a65, c66) : (Option Addr) × (Nat) × (List Ch) × (Option Addr) × (Nat)) => fun σm => Hp S0 σ0 σm [Ch.big K63, Ch.own n0 n0 (Sl a65 r58.2 c66) r58.2, Ch.own 0 n0 (Sl a48 r45 c49) r45, Ch.own n0 n0 (Sl a26 r23 c27) r23, Ch.big K35, Ch.own n0 n0 (Sl a37 r30.2 c38) r30.2, Ch.bx n0 b41 0 [(Sl a33 r30.1 c34), (Sl a37 r30.2 c38)] [] [], Ch.bx n0 b1 0 [(Sl aaH_0_0 aH_0.1 caH_0_0), (Sl aaH_0_1 aH_0.2 caH_0_1)] [] [], Ch.ro 0 (Sl aaH_0_0 aH_0.1 caH_0_0) aH_0.1, Ch.ro 0 (Sl aaH_0_1 aH_0.2 caH_0_1) aH_0.2] ∧ Md (cov []) σ54 σm ∧ Dp 0 (Sl a61 r58.1 c62) r58.1 K63 ∧ c66 = r58.2.length] [fun ((a61, c62, K63, a65, c66) : (Option Addr) × (Nat) × (List Ch) × (Option Addr) × (Nat)) => (.agg #[(Sl a33 r30.1 c34), (Sl a37 r30.2 c38)]), fun ((a61, c62, K63, a65, c66) : (Option Addr) × (Nat) × (List Ch) × (Option Addr) × (Nat)) => (.agg #[(Sl aaH_0_0 aH_0.1 caH_0_0), (Sl aaH_0_1 aH_0.2 caH_0_1)]), fun ((a61, c62, K63, a65, c66) : (Option Addr) × (Nat) × (List Ch) × (Option Addr) × (Nat)) => (.agg #[(Sl a61 r58.1 c62), (Sl a65 r58.2 c66)])] (none, 0, [], none, 0) (by kernel_rfl) (by kernel_rfl) ?_ ?_ ?_
   ·intro σm m0
    exact ⟨H.grow (m0.mono fun _ h => h.elim), m0⟩
   ·refine all_cons (by
      refine ⟨?_, ?_⟩
      ·rintro ⟨a61, c62, K63, a65, c66⟩ ρ σm hJ hoff hdep
       have e9 := look_off (N := 79) (hoff 9 rfl) rfl
       obtain ⟨H, m⟩ := id hJ
       have hc56 := H.cells 4 rfl
       exact dp_v (v := (.agg #[(Sl a33 r30.1 c34), (Sl a37 r30.2 c38)])) wn (rv_load (cs := [(Sl a33 r30.1 c34), (Sl a37 r30.2 c38)]) Try.underlying26 rfl ti26 e9 rfl hc56) rfl hJ
      refine ⟨?_, ?_⟩
      ·rintro ⟨a61, c62, K63, a65, c66⟩ ρ σm hJ hoff hdep
       have e9 := look_off (N := 79) (hoff 9 rfl) rfl
       obtain ⟨H, m, hK64, ht67⟩ := id hJ
       have hc56 := H.cells 6 rfl
       exact dp_v (v := (.agg #[(Sl a33 r30.1 c34), (Sl a37 r30.2 c38)])) wn (rv_load (cs := [(Sl a33 r30.1 c34), (Sl a37 r30.2 c38)]) Try.underlying26 rfl ti26 e9 rfl hc56) rfl hJ
      trivial) ?_
    refine all_cons (by
      refine ⟨?_, ?_⟩
      ·rintro ⟨a61, c62, K63, a65, c66⟩ ρ σm hJ hoff hdep
       have e3 := look_off (N := 79) (hoff 3 rfl) rfl
       obtain ⟨H, m⟩ := id hJ
       have hc57 := H.cells 5 rfl
       exact dp_v (v := (.agg #[(Sl aaH_0_0 aH_0.1 caH_0_0), (Sl aaH_0_1 aH_0.2 caH_0_1)])) wn (rv_load (cs := [(Sl aaH_0_0 aH_0.1 caH_0_0), (Sl aaH_0_1 aH_0.2 caH_0_1)]) Try.underlying40 rfl ti40 e3 rfl hc57) rfl hJ
      trivial) ?_
    refine all_cons (by
      refine ⟨?_, ?_⟩
      ·rintro ⟨a61, c62, K63, a65, c66⟩ ρ σm hJ hoff hdep
       have e36 : look 79 ρ 36 = (.agg #[(Sl aaH_0_0 aH_0.1 caH_0_0), (Sl aaH_0_1 aH_0.2 caH_0_1)]) := hdep 1 rfl rfl 36 rfl
       obtain ⟨H, m⟩ := id hJ
       refine dp_cx wn (cx_call hc60 (ent_f hc60.fn (by show [look 79 ρ 36] = _; rw [e36])) hn0 (show Hp S0 σ0 _ ([Ch.ro 0 (Sl aaH_0_0 aH_0.1 caH_0_0) aH_0.1, Ch.ro 0 (Sl aaH_0_1 aH_0.2 caH_0_1) aH_0.2] ++ [Ch.own 0 n0 (Sl a48 r45 c49) r45, Ch.own n0 n0 (Sl a26 r23 c27) r23, Ch.big K35, Ch.own n0 n0 (Sl a37 r30.2 c38) r30.2, Ch.bx n0 b41 0 [(Sl a33 r30.1 c34), (Sl a37 r30.2 c38)] [] [], Ch.bx n0 b1 0 [(Sl aaH_0_0 aH_0.1 caH_0_0), (Sl aaH_0_1 aH_0.2 caH_0_1)] [] [], Ch.ro 0 (Sl aaH_0_0 aH_0.1 caH_0_0) aH_0.1, Ch.ro 0 (Sl aaH_0_1 aH_0.2 caH_0_1) aH_0.2]) from (H.sel' [6, 7, 0, 1, 2, 3, 4, 5, 6, 7] rfl rfl))) ?_
       rintro _ σq ⟨_, ⟨a61x, c62x, K63x, a65x, c66x, rfl, rfl, hK64, ht67⟩, H2, m2⟩
       exact ⟨_, (a61x, c62x, K63x, a65x, c66x), rfl, rfl, ⟨H2.sel' [0, 1, 2, 3, 4, 5, 6, 7, 8, 9] rfl rfl, m.comp0 (m2.mono (fun i h => by simp [cov, Ch.ro] at h)), hK64, ht67⟩, stab [0, 1] (by kernel_rfl) ⟨rfl, rfl, trivial⟩⟩
      trivial) ?_
    exact all_nil
   ·rintro ⟨a61, c62, K63, a65, c66⟩ ρ σ68 hJ hoff hrel
    have e1 := look_off (N := 79) (hoff 1 rfl) rfl
    have e2 := look_off (N := 79) (hoff 2 rfl) rfl
    have e3 := look_off (N := 79) (hoff 3 rfl) rfl
    have e8 := look_off (N := 79) (hoff 8 rfl) rfl
    have e9 := look_off (N := 79) (hoff 9 rfl) rfl
    have e10 := look_off (N := 79) (hoff 10 rfl) rfl
    have e35 := hrel 0 rfl 35 rfl
    have e37 := hrel 2 rfl 37 rfl
    obtain ⟨H, -, hK64, ht67⟩ := (show Hp S0 σ0 σ68 [Ch.big K63, Ch.own n0 n0 (Sl a65 r58.2 c66) r58.2, Ch.own 0 n0 (Sl a48 r45 c49) r45, Ch.own n0 n0 (Sl a26 r23 c27) r23, Ch.big K35, Ch.own n0 n0 (Sl a37 r30.2 c38) r30.2, Ch.bx n0 b41 0 [(Sl a33 r30.1 c34), (Sl a37 r30.2 c38)] [] [], Ch.bx n0 b1 0 [(Sl aaH_0_0 aH_0.1 caH_0_0), (Sl aaH_0_1 aH_0.2 caH_0_1)] [] [], Ch.ro 0 (Sl aaH_0_0 aH_0.1 caH_0_0) aH_0.1, Ch.ro 0 (Sl aaH_0_1 aH_0.2 caH_0_1) aH_0.2] ∧ Md (cov []) σ54 σ68 ∧ Dp 0 (Sl a61 r58.1 c62) r58.1 K63 ∧ c66 = r58.2.length from hJ)
    clear hJ Hs
    rw [fr_lookL (L := [(1, (I aA_1)), (2, (I aB_2)), (3, (pt b1 0)), (8, (Sl a26 r23 c27)), (9, (pt b41 0)), (10, (Sl a48 r45 c49)), (35, (.agg #[(Sl a33 r30.1 c34), (Sl a37 r30.2 c38)])), (37, (.agg #[(Sl a61 r58.1 c62), (Sl a65 r58.2 c66)]))]) ⟨e1, e2, e3, e8, e9, e10, e35, e37, trivial⟩]
    clear hoff hrel e1 e2 e3 e8 e9 e10 e35 e37
    obtain ⟨σ69, hw70, H, -⟩ := H.pub 1 rfl (Nat.le_refl _)
    rw [← hw70]; clear hw70
    replace H := H.roLow 0 0 rfl (Nat.zero_le _)
    obtain ⟨r71, hx72, h'⟩ := bind_some h
    clear h
    have h := h'; clear h'
    have hc73 := c_laws_eqHistory (aa_0_0 := a33) (ca_0_0 := c34) (aa_0_1 := a37) (ca_0_1 := c38) (ab_1_0 := a61) (cb_1_0 := c62) (ab_1_1 := a65) (cb_1_1 := c66) hx72
    have hle := Nat.le_trans hn0 H.size
    refine st_call (cx_lend (Loan.lendB hK36.lends (Loan.lend (Loan.lendB hK64.lends (Loan.same Loan.nil)))) hc73 (ent_f hc73.fn rfl) (show Hp S0 σ0 _ ([Ch.big K35, Ch.own n0 n0 (Sl a37 r30.2 c38) r30.2, Ch.big K63] ++ ([Ch.ro 0 (Sl a65 r58.2 c66) r58.2] ++ [Ch.ro 0 (Sl a65 r58.2 c66) r58.2, Ch.ro n0 (Sl a65 r58.2 c66) r58.2, Ch.own 0 n0 (Sl a48 r45 c49) r45, Ch.own n0 n0 (Sl a26 r23 c27) r23, Ch.bx n0 b41 0 [(Sl a33 r30.1 c34), (Sl a37 r30.2 c38)] [] [], Ch.bx n0 b1 0 [(Sl aaH_0_0 aH_0.1 caH_0_0), (Sl aaH_0_1 aH_0.2 caH_0_1)] [] [], Ch.ro 0 (Sl aaH_0_0 aH_0.1 caH_0_0) aH_0.1, Ch.ro 0 (Sl aaH_0_1 aH_0.2 caH_0_1) aH_0.2])) from (H.sel' [5, 6, 2, 0, 0, 1, 3, 4, 7, 8, 9, 10] rfl rfl)) (by rintro _ _ _ ⟨rfl, rfl⟩; exact trivial)) wn ?_
    rintro _ σ74 ⟨_, ⟨rfl, rfl⟩, H, -, -⟩
    replace H : Hp S0 σ0 σ74 [Ch.big K35, Ch.own n0 n0 (Sl a37 r30.2 c38) r30.2, Ch.big K63, Ch.ro 0 (Sl a65 r58.2 c66) r58.2, Ch.ro n0 (Sl a65 r58.2 c66) r58.2, Ch.own 0 n0 (Sl a48 r45 c49) r45, Ch.own n0 n0 (Sl a26 r23 c27) r23, Ch.bx n0 b41 0 [(Sl a33 r30.1 c34), (Sl a37 r30.2 c38)] [] [], Ch.bx n0 b1 0 [(Sl aaH_0_0 aH_0.1 caH_0_0), (Sl aaH_0_1 aH_0.2 caH_0_1)] [] [], Ch.ro 0 (Sl aaH_0_0 aH_0.1 caH_0_0) aH_0.1, Ch.ro 0 (Sl aaH_0_1 aH_0.2 caH_0_1) aH_0.2] := H
    clear hle
    replace H : Hp S0 σ0 σ74 [Ch.big K35, Ch.own n0 n0 (Sl a37 r30.2 c38) r30.2, Ch.big K63, Ch.ro 0 (Sl a65 r58.2 c66) r58.2, Ch.ro n0 (Sl a65 r58.2 c66) r58.2, Ch.own 0 n0 (Sl a48 r45 c49) r45, Ch.own n0 n0 (Sl a26 r23 c27) r23, Ch.bx n0 b41 0 [(Sl a33 r30.1 c34), (Sl a37 r30.2 c38)] [] [], Ch.bx n0 b1 0 [(Sl aaH_0_0 aH_0.1 caH_0_0), (Sl aaH_0_1 aH_0.2 caH_0_1)] [] [], Ch.ro 0 (Sl aaH_0_0 aH_0.1 caH_0_0) aH_0.1, Ch.ro 0 (Sl aaH_0_1 aH_0.2 caH_0_1) aH_0.2] := H
    replace H : Hp S0 σ0 σ74 [Ch.big K35, Ch.own n0 n0 (Sl a37 r30.2 c38) r30.2, Ch.own 0 n0 (Sl a48 r45 c49) r45, Ch.own n0 n0 (Sl a26 r23 c27) r23, Ch.bx n0 b41 0 [(Sl a33 r30.1 c34), (Sl a37 r30.2 c38)] [] [], Ch.bx n0 b1 0 [(Sl aaH_0_0 aH_0.1 caH_0_0), (Sl aaH_0_1 aH_0.2 caH_0_1)] [] [], Ch.ro 0 (Sl aaH_0_0 aH_0.1 caH_0_0) aH_0.1, Ch.ro 0 (Sl aaH_0_1 aH_0.2 caH_0_1) aH_0.2] := H.sel' [0, 1, 5, 6, 7, 8, 9, 10] rfl rfl
    refine st (v := (B (!r71))) (rv_not rfl) ?_
    refine w_end ?_
    refine q_then ?_
    refine cd_cond (!r71) rfl (fun hb75 => ?_) (fun hb75 => ?_)
    ·replace h := bif_t hb75 h
     refine c_seq ?_
     refine rg ?_
     refine st (v := (B false)) (rv_assign rfl) ?_
     refine w_end ?_
     refine q_then ?_
     refine c_ret ?_
     refine q_then_r ?_
     obtain rfl := Option.some.inj h
     exact fin_ret (v := (B false)) (results_ok Try.results8 (res_tmp (v := (B false)) rfl res_nil) rfl) ⟨rfl, rfl⟩ (H.sel' [] rfl rfl)
    ·replace h := bif_f hb75 h
     refine c_skip ?_
     refine q_then ?_
     refine c_seq ?_
     refine rg ?_
     refine st (v := (I 1)) (rv_assign rfl) ?_
     refine w_end ?_
     refine q_then ?_
     refine c_seq ?_
     refine rg ?_
     have hc76 := H.cells 4 rfl
     refine st (v := (.agg #[(Sl a33 r30.1 c34), (Sl a37 r30.2 c38)])) (rv_load (cs := [(Sl a33 r30.1 c34), (Sl a37 r30.2 c38)]) Try.underlying26 rfl ti26 rfl rfl hc76) ?_
     refine st (v := (I 1)) (rv_move rfl) ?_
     replace H := H.ownLow 1 0 0 rfl (Nat.zero_le _) (Nat.zero_le _)
     obtain ⟨r77, hx78, h'⟩ := bind_some h
     clear h
     have h := h'; clear h'
     have hc79 := c_laws_markHistory (aa_0_0 := a33) (ca_0_0 := c34) (hKa_0_0 := hK36) (aa_0_1 := a37) (ca_0_1 := c38) hx78
     refine st_call (cx_call hc79 (ent_f hc79.fn rfl) hn0 (show Hp S0 σ0 _ ([Ch.big K35, Ch.own 0 0 (Sl a37 r30.2 c38) r30.2] ++ [Ch.own 0 n0 (Sl a48 r45 c49) r45, Ch.own n0 n0 (Sl a26 r23 c27) r23, Ch.bx n0 b41 0 [(Sl a33 r30.1 c34), (Sl a37 r30.2 c38)] [] [], Ch.bx n0 b1 0 [(Sl aaH_0_0 aH_0.1 caH_0_0), (Sl aaH_0_1 aH_0.2 caH_0_1)] [] [], Ch.ro 0 (Sl aaH_0_0 aH_0.1 caH_0_0) aH_0.1, Ch.ro 0 (Sl aaH_0_1 aH_0.2 caH_0_1) aH_0.2]) from (H.sel' [1, 0, 2, 3, 4, 5, 6, 7] rfl rfl))) wn ?_
     rintro _ σ81 ⟨_, ⟨rfl, rfl, hn80⟩, H, -⟩
     replace H : Hp S0 σ0 σ81 [Ch.own 0 0 (Sl a37 r77.2 c38) r77.2, Ch.own 0 n0 (Sl a48 r45 c49) r45, Ch.own n0 n0 (Sl a26 r23 c27) r23, Ch.bx n0 b41 0 [(Sl a33 r30.1 c34), (Sl a37 r30.2 c38)] [] [], Ch.bx n0 b1 0 [(Sl aaH_0_0 aH_0.1 caH_0_0), (Sl aaH_0_1 aH_0.2 caH_0_1)] [] [], Ch.ro 0 (Sl aaH_0_0 aH_0.1 caH_0_0) aH_0.1, Ch.ro 0 (Sl aaH_0_1 aH_0.2 caH_0_1) aH_0.2] := H
     have hsl : (Sl a37 r30.2 c38) = (Sl a37 r77.2 c38) := sl_len hn80.symm
     try rw [hsl]
     try rw [hsl] at H
     clear hsl
     refine st (v := (I r77.1)) (rv_assign rfl) ?_
     refine w_end ?_
     refine q_then ?_
     refine c_seq ?_
     refine c_seq ?_
     obtain ⟨o82, hj, h'⟩ := bind_some h
     clear h
     refine c_cut (fun e a w => e = .normal ∧ ∃ (ρ : Nat → Value) (σ : St), a = fr 79 (updL ρ [(1, (I aA_1)), (2, (I aB_2)), (3, (pt b1 0)), (8, (Sl a26 r23 c27)), (10, (Sl a48 r45 c49)), (50, (B o82))]) ∧ w = σ.w ∧ Hp S0 σ0 σ [Ch.ro 0 (Sl aaH_0_0 aH_0.1 caH_0_0) aH_0.1, Ch.ro 0 (Sl aaH_0_1 aH_0.2 caH_0_1) aH_0.2, Ch.bx n0 b1 0 [(Sl aaH_0_0 aH_0.1 caH_0_0), (Sl aaH_0_1 aH_0.2 caH_0_1)] [] [], Ch.own n0 n0 (Sl a26 r23 c27) r23, Ch.own 0 n0 (Sl a48 r45 c49) r45]) ?_ ?_
     ·clear h'
      rename _ = some o82 => h
      refine rg ?_
      refine st (v := (I r77.1)) (rv_move rfl) ?_
      refine st (v := (B (decide (r77.1 < 0)))) (rv_lss (a := r77.1) (b := 0) rfl rfl) ?_
      refine st (v := (B (decide (r77.1 < 0)))) (rv_move rfl) ?_
      rcases Bool.eq_false_or_eq_true (decide (r77.1 < 0)) with hb83 | hb83
      ·replace h := bif_t hb83 h
       refine st_skip (congrArg some hb83) ?_
       refine st_skip (congrArg some hb83) ?_
       refine st_skip (congrArg some hb83) ?_
       refine st_skip (congrArg some hb83) ?_
       refine st (v := (B true)) (rv_pick_t (congrArg B hb83) rfl) ?_
       refine w_end ?_
       obtain rfl := Option.some.inj h
       exact ⟨rfl, _, σ81, fr_join ⟨rfl, rfl, rfl, rfl, rfl, rfl, trivial⟩, rfl, H.sel' [5, 6, 4, 2, 1] rfl rfl⟩
      ·replace h := bif_f hb83 h
       refine st_g (v := (Sl a48 r45 c49)) (congrArg some hb83) (rv_move rfl) ?_
       refine st_g (v := (Sl a26 r23 c27)) (congrArg some hb83) (rv_move rfl) ?_
       obtain ⟨r84, hx85, h'⟩ := bind_some h
       clear h
       have h := h'; clear h'
       have hc86 := c_laws_eqIntS (aa_0 := a48) (ca_0 := c49) (ab_1 := a26) (cb_1 := c27) hx85
       have hle := Nat.le_trans hn0 H.size
       refine st_call (cx_lend (Loan.lend (Loan.lend Loan.nil)) hc86 (ent_f hc86.fn rfl) (show Hp S0 σ0 _ ([Ch.own 0 n0 (Sl a48 r45 c49) r45, Ch.own n0 n0 (Sl a26 r23 c27) r23] ++ ([] ++ [Ch.own 0 0 (Sl a37 r77.2 c38) r77.2, Ch.bx n0 b41 0 [(Sl a33 r30.1 c34), (Sl a37 r77.2 c38)] [] [], Ch.bx n0 b1 0 [(Sl aaH_0_0 aH_0.1 caH_0_0), (Sl aaH_0_1 aH_0.2 caH_0_1)] [] [], Ch.ro 0 (Sl aaH_0_0 aH_0.1 caH_0_0) aH_0.1, Ch.ro 0 (Sl aaH_0_1 aH_0.2 caH_0_1) aH_0.2])) from (H.sel' [1, 2, 0, 3, 4, 5, 6] rfl rfl)) (by rintro _ _ _ ⟨rfl, rfl⟩; exact trivial)) (wanted_yes rfl (by exact (congrArg some hb83))) ?_
       rintro _ σ87 ⟨_, ⟨rfl, rfl⟩, H, -, -⟩
       replace H : Hp S0 σ0 σ87 [Ch.own 0 n0 (Sl a48 r45 c49) r45, Ch.own n0 n0 (Sl a26 r23 c27) r23, Ch.own 0 0 (Sl a37 r77.2 c38) r77.2, Ch.bx n0 b41 0 [(Sl a33 r30.1 c34), (Sl a37 r77.2 c38)] [] [], Ch.bx n0 b1 0 [(Sl aaH_0_0 aH_0.1 caH_0_0), (Sl aaH_0_1 aH_0.2 caH_0_1)] [] [], Ch.ro 0 (Sl aaH_0_0 aH_0.1 caH_0_0) aH_0.1, Ch.ro 0 (Sl aaH_0_1 aH_0.2 caH_0_1) aH_0.2] := H
       clear hle
       replace H : Hp S0 σ0 σ87 [Ch.own 0 n0 (Sl a48 r45 c49) r45, Ch.own n0 n0 (Sl a26 r23 c27) r23, Ch.own 0 0 (Sl a37 r77.2 c38) r77.2, Ch.bx n0 b41 0 [(Sl a33 r30.1 c34), (Sl a37 r77.2 c38)] [] [], Ch.bx n0 b1 0 [(Sl aaH_0_0 aH_0.1 caH_0_0), (Sl aaH_0_1 aH_0.2 caH_0_1)] [] [], Ch.ro 0 (Sl aaH_0_0 aH_0.1 caH_0_0) aH_0.1, Ch.ro 0 (Sl aaH_0_1 aH_0.2 caH_0_1) aH_0.2] := H
       refine st_g (v := (B (!r84))) (congrArg some hb83) (rv_not rfl) ?_
       refine st (v := (B (!r84))) (rv_pick_f (congrArg B hb83) rfl) ?_
       refine w_end ?_
       obtain rfl := Option.some.inj h
       exact ⟨rfl, _, σ87, fr_join ⟨rfl, rfl, rfl, rfl, rfl, rfl, trivial⟩, rfl, H.sel' [5, 6, 4, 1, 0] rfl rfl⟩
     ·clear hj
      have h := h'
      clear h' H
      rintro e a w ⟨rfl, ρ, σ88, rfl, rfl, H⟩
      refine q_then ?_
      refine cd_cond o82 rfl (fun hb89 => ?_) (fun hb89 => ?_)
      ·replace h := bif_t hb89 h
       refine c_seq ?_
       refine rg ?_
       refine st (v := (B false)) (rv_assign rfl) ?_
       refine w_end ?_
       refine q_then ?_
       refine c_ret ?_
       refine q_then_r ?_
       obtain rfl := Option.some.inj h
       exact fin_ret (v := (B false)) (results_ok Try.results8 (res_tmp (v := (B false)) rfl res_nil) rfl) ⟨rfl, rfl⟩ (H.sel' [] rfl rfl)
      ·replace h := bif_f hb89 h
       refine c_skip ?_
       refine q_then ?_
       refine c_seq ?_
       refine rg ?_
       refine st (v := (I 1)) (rv_assign rfl) ?_
       refine w_end ?_
       refine q_then ?_
       refine c_seq ?_
       refine rg ?_
       refine st (v := (Sl a48 r45 c49)) (rv_move rfl) ?_
       refine st (v := (I 1)) (rv_move rfl) ?_
       replace H := H.ownLow 4 0 0 rfl (Nat.zero_le _) (Nat.zero_le _)
       obtain ⟨r90, hx91, h'⟩ := bind_some h
       clear h
       have h := h'; clear h'
       have hc92 := c_laws_markIntS (aa_0 := a48) (ca_0 := c49) hx91
       refine st_call (cx_call hc92 (ent_f hc92.fn rfl) hn0 (show Hp S0 σ0 _ ([Ch.own 0 0 (Sl a48 r45 c49) r45] ++ [Ch.ro 0 (Sl aaH_0_0 aH_0.1 caH_0_0) aH_0.1, Ch.ro 0 (Sl aaH_0_1 aH_0.2 caH_0_1) aH_0.2, Ch.bx n0 b1 0 [(Sl aaH_0_0 aH_0.1 caH_0_0), (Sl aaH_0_1 aH_0.2 caH_0_1)] [] [], Ch.own n0 n0 (Sl a26 r23 c27) r23]) from (H.sel' [0, 1, 2, 3, 4] rfl rfl))) wn ?_
       rintro _ σ94 ⟨_, ⟨rfl, rfl, hn93⟩, H, -⟩
       replace H : Hp S0 σ0 σ94 [Ch.own 0 0 (Sl a48 r90.2 c49) r90.2, Ch.ro 0 (Sl aaH_0_0 aH_0.1 caH_0_0) aH_0.1, Ch.ro 0 (Sl aaH_0_1 aH_0.2 caH_0_1) aH_0.2, Ch.bx n0 b1 0 [(Sl aaH_0_0 aH_0.1 caH_0_0), (Sl aaH_0_1 aH_0.2 caH_0_1)] [] [], Ch.own n0 n0 (Sl a26 r23 c27) r23] := H
       have hsl : (Sl a48 r45 c49) = (Sl a48 r90.2 c49) := sl_len hn93.symm
       try rw [hsl]
       try rw [hsl] at H
       clear hsl
       refine st (v := (I r90.1)) (rv_assign rfl) ?_
       refine w_end ?_
       refine q_then ?_
       refine c_seq ?_
       refine rg ?_
       refine st (v := (I 1)) (rv_assign rfl) ?_
       refine w_end ?_
       refine q_then ?_
       refine c_seq ?_
       refine rg ?_
       refine st (v := (Sl a48 r90.2 c49)) (rv_move rfl) ?_
       refine st (v := (I 1)) (rv_move rfl) ?_
       obtain ⟨r95, hx96, h'⟩ := bind_some h
       clear h
       have h := h'; clear h'
       have hc97 := c_laws_heldIntS (aa_0 := a48) (ca_0 := c49) hx96
       have hle := Nat.le_trans hn0 H.size
       refine st_call (cx_lend (Loan.lend Loan.nil) hc97 (ent_f hc97.fn rfl) (show Hp S0 σ0 _ ([Ch.own 0 0 (Sl a48 r90.2 c49) r90.2] ++ ([] ++ [Ch.ro 0 (Sl aaH_0_0 aH_0.1 caH_0_0) aH_0.1, Ch.ro 0 (Sl aaH_0_1 aH_0.2 caH_0_1) aH_0.2, Ch.bx n0 b1 0 [(Sl aaH_0_0 aH_0.1 caH_0_0), (Sl aaH_0_1 aH_0.2 caH_0_1)] [] [], Ch.own n0 n0 (Sl a26 r23 c27) r23])) from (H.sel' [0, 1, 2, 3, 4] rfl rfl)) (by rintro _ _ _ ⟨rfl, rfl⟩; exact trivial)) wn ?_
       rintro _ σ98 ⟨_, ⟨rfl, rfl⟩, H, -, -⟩
       replace H : Hp S0 σ0 σ98 [Ch.own 0 0 (Sl a48 r90.2 c49) r90.2, Ch.ro 0 (Sl aaH_0_0 aH_0.1 caH_0_0) aH_0.1, Ch.ro 0 (Sl aaH_0_1 aH_0.2 caH_0_1) aH_0.2, Ch.bx n0 b1 0 [(Sl aaH_0_0 aH_0.1 caH_0_0), (Sl aaH_0_1 aH_0.2 caH_0_1)] [] [], Ch.own n0 n0 (Sl a26 r23 c27) r23] := H
       clear hle
       replace H : Hp S0 σ0 σ98 [Ch.own 0 0 (Sl a48 r90.2 c49) r90.2, Ch.ro 0 (Sl aaH_0_0 aH_0.1 caH_0_0) aH_0.1, Ch.ro 0 (Sl aaH_0_1 aH_0.2 caH_0_1) aH_0.2, Ch.bx n0 b1 0 [(Sl aaH_0_0 aH_0.1 caH_0_0), (Sl aaH_0_1 aH_0.2 caH_0_1)] [] [], Ch.own n0 n0 (Sl a26 r23 c27) r23] := H
       refine st (v := (I r95)) (rv_assign rfl) ?_
       refine w_end ?_
       refine q_then ?_
       refine c_seq ?_
       refine c_seq ?_
       refine rg ?_
       refine st (v := (I r95)) (rv_move rfl) ?_
       refine st (v := (B (decide (r95 < 0)))) (rv_lss (a := r95) (b := 0) rfl rfl) ?_
       refine w_end ?_
       refine q_then ?_
       refine cd_cond (decide (r95 < 0)) rfl (fun hb99 => ?_) (fun hb99 => ?_)
       ·replace h := bif_t hb99 h
        refine c_seq ?_
        refine rg ?_
        refine st (v := (B false)) (rv_assign rfl) ?_
        refine w_end ?_
        refine q_then ?_
        refine c_ret ?_
        refine q_then_r ?_
        obtain rfl := Option.some.inj h
        exact fin_ret (v := (B false)) (results_ok Try.results8 (res_tmp (v := (B false)) rfl res_nil) rfl) ⟨rfl, rfl⟩ (H.sel' [] rfl rfl)
       ·replace h := bif_f hb99 h
        refine c_skip ?_
        refine q_then ?_
        refine c_seq ?_
        refine c_seq ?_
        refine rg ?_
        refine st (v := (I r95)) (rv_move rfl) ?_
        refine st (v := (I r90.1)) (rv_move rfl) ?_
        refine st (v := (B (r95 != r90.1))) (rv_neq (a := r95) (b := r90.1) rfl rfl) ?_
        refine w_end ?_
        refine q_then ?_
        refine cd_cond (r95 != r90.1) rfl (fun hb100 => ?_) (fun hb100 => ?_)
        ·replace h := bif_t hb100 h
         refine c_seq ?_
         refine rg ?_
         refine st (v := (B false)) (rv_assign rfl) ?_
         refine w_end ?_
         refine q_then ?_
         refine c_ret ?_
         refine q_then_r ?_
         obtain rfl := Option.some.inj h
         exact fin_ret (v := (B false)) (results_ok Try.results8 (res_tmp (v := (B false)) rfl res_nil) rfl) ⟨rfl, rfl⟩ (H.sel' [] rfl rfl)
        ·replace h := bif_f hb100 h
         refine c_skip ?_
         refine q_then ?_
         refine c_seq ?_
         refine rg ?_
         have hc101 := H.cells 3 rfl
         refine st (v := (.agg #[(Sl aaH_0_0 aH_0.1 caH_0_0), (Sl aaH_0_1 aH_0.2 caH_0_1)])) (rv_load (cs := [(Sl aaH_0_0 aH_0.1 caH_0_0), (Sl aaH_0_1 aH_0.2 caH_0_1)]) Try.underlying40 rfl ti40 rfl rfl hc101) ?_
         obtain ⟨r102, hx103, h'⟩ := bind_some h
         clear h
         have h := h'; clear h'
         have hc104 := c_laws_toHistoryD (aa_0_0 := aaH_0_0) (ca_0_0 := caH_0_0) (aa_0_1 := aaH_0_1) (ca_0_1 := caH_0_1) hx103
         refine st_call (cx_call hc104 (ent_f hc104.fn rfl) hn0 (show Hp S0 σ0 _ ([Ch.ro 0 (Sl aaH_0_0 aH_0.1 caH_0_0) aH_0.1, Ch.ro 0 (Sl aaH_0_1 aH_0.2 caH_0_1) aH_0.2] ++ [Ch.own 0 0 (Sl a48 r90.2 c49) r90.2, Ch.ro 0 (Sl aaH_0_0 aH_0.1 caH_0_0) aH_0.1, Ch.ro 0 (Sl aaH_0_1 aH_0.2 caH_0_1) aH_0.2, Ch.bx n0 b1 0 [(Sl aaH_0_0 aH_0.1 caH_0_0), (Sl aaH_0_1 aH_0.2 caH_0_1)] [] [], Ch.own n0 n0 (Sl a26 r23 c27) r23]) from (H.sel' [1, 2, 0, 1, 2, 3, 4] rfl rfl))) wn ?_
         rintro _ σ112 ⟨_, ⟨a105, c106, K107, a109, c110, rfl, rfl, hK108, ht111⟩, H, -⟩
         replace H : Hp S0 σ0 σ112 [Ch.big K107, Ch.own n0 n0 (Sl a109 r102.2 c110) r102.2, Ch.own 0 0 (Sl a48 r90.2 c49) r90.2, Ch.ro 0 (Sl aaH_0_0 aH_0.1 caH_0_0) aH_0.1, Ch.ro 0 (Sl aaH_0_1 aH_0.2 caH_0_1) aH_0.2, Ch.bx n0 b1 0 [(Sl aaH_0_0 aH_0.1 caH_0_0), (Sl aaH_0_1 aH_0.2 caH_0_1)] [] [], Ch.own n0 n0 (Sl a26 r23 c27) r23] := H
         refine st (v := (I aA_1)) (rv_move rfl) ?_
         refine st (v := (I aB_2)) (rv_move rfl) ?_
         obtain ⟨σ113, hw114, H, -⟩ := H.pub 1 rfl (Nat.le_refl _)
         rw [← hw114]; clear hw114
         replace H := H.roLow 0 0 rfl (Nat.zero_le _)
         obtain ⟨r115, hx116, h'⟩ := bind_some h
         clear h
         have h := h'; clear h'
         have hc117 := c_impl_ChangedKeys (ah_0_0 := a105) (ch_0_0 := c106) (ah_0_1 := a109) (ch_0_1 := c110) hx116
         have hle := Nat.le_trans hn0 H.size
         refine st_call (cx_lend (Loan.lendB hK108.lends (Loan.same Loan.nil)) hc117 (ent_f hc117.fn rfl) (show Hp S0 σ0 _ ([Ch.big K107] ++ ([Ch.ro 0 (Sl a109 r102.2 c110) r102.2] ++ [Ch.ro 0 (Sl a109 r102.2 c110) r102.2, Ch.ro n0 (Sl a109 r102.2 c110) r102.2, Ch.own 0 0 (Sl a48 r90.2 c49) r90.2, Ch.ro 0 (Sl aaH_0_0 aH_0.1 caH_0_0) aH_0.1, Ch.ro 0 (Sl aaH_0_1 aH_0.2 caH_0_1) aH_0.2, Ch.bx n0 b1 0 [(Sl aaH_0_0 aH_0.1 caH_0_0), (Sl aaH_0_1 aH_0.2 caH_0_1)] [] [], Ch.own n0 n0 (Sl a26 r23 c27) r23])) from (H.sel' [2, 0, 0, 1, 3, 4, 5, 6, 7] rfl rfl)) (by rintro _ _ _ ⟨_, _, rfl, rfl⟩; exact ⟨Ab.ownSc, trivial⟩)) wn ?_
         rintro _ σ120 ⟨_, ⟨a118, c119, rfl, rfl⟩, H, -, -⟩
         replace H : Hp S0 σ0 σ120 [Ch.own 0 σ113.size (Sl a118 r115 c119) r115, Ch.big K107, Ch.ro 0 (Sl a109 r102.2 c110) r102.2, Ch.ro n0 (Sl a109 r102.2 c110) r102.2, Ch.own 0 0 (Sl a48 r90.2 c49) r90.2, Ch.ro 0 (Sl aaH_0_0 aH_0.1 caH_0_0) aH_0.1, Ch.ro 0 (Sl aaH_0_1 aH_0.2 caH_0_1) aH_0.2, Ch.bx n0 b1 0 [(Sl aaH_0_0 aH_0.1 caH_0_0), (Sl aaH_0_1 aH_0.2 caH_0_1)] [] [], Ch.own n0 n0 (Sl a26 r23 c27) r23] := H
         replace H := H.ownLow 0 0 n0 rfl (Nat.le_refl _) hle
         clear hle
         replace H : Hp S0 σ0 σ120 [Ch.own 0 n0 (Sl a118 r115 c119) r115, Ch.big K107, Ch.ro 0 (Sl a109 r102.2 c110) r102.2, Ch.ro n0 (Sl a109 r102.2 c110) r102.2, Ch.own 0 0 (Sl a48 r90.2 c49) r90.2, Ch.ro 0 (Sl aaH_0_0 aH_0.1 caH_0_0) aH_0.1, Ch.ro 0 (Sl aaH_0_1 aH_0.2 caH_0_1) aH_0.2, Ch.bx n0 b1 0 [(Sl aaH_0_0 aH_0.1 caH_0_0), (Sl aaH_0_1 aH_0.2 caH_0_1)] [] [], Ch.own n0 n0 (Sl a26 r23 c27) r23] := H
         replace H : Hp S0 σ0 σ120 [Ch.own 0 n0 (Sl a118 r115 c119) r115, Ch.own 0 0 (Sl a48 r90.2 c49) r90.2, Ch.own n0 n0 (Sl a26 r23 c27) r23] := H.sel' [0, 4, 8] rfl rfl
         refine st (v := (Sl a118 r115 c119)) (rv_assign rfl) ?_
         refine w_end ?_
         refine q_then ?_
         refine c_seq ?_
         refine c_seq ?_
         refine rg ?_
         refine st (v := (Sl a118 r115 c119)) (rv_move rfl) ?_
         refine st (v := (Sl a26 r23 c27)) (rv_move rfl) ?_
         replace H := H.ownLow 0 0 0 rfl (Nat.le_refl _) (Nat.zero_le _)
         obtain ⟨σ121, hw122, H, -⟩ := H.pub 0 rfl (Nat.le_refl _)
         rw [← hw122]; clear hw122
         obtain ⟨σ123, hw124, H, -⟩ := H.pub 2 rfl (Nat.le_refl _)
         rw [← hw124]; clear hw124
         replace H := H.roLow 0 0 rfl (Nat.zero_le _)
         obtain ⟨r125, hx126, h'⟩ := bind_some h
         clear h
         have h := h'; clear h'
         have hc127 := c_laws_eqIntS (aa_0 := a118) (ca_0 := c119) (ab_1 := a26) (cb_1 := c27) hx126
         refine st_call (cx_call hc127 (ent_f hc127.fn rfl) hn0 (show Hp S0 σ0 _ ([Ch.ro 0 (Sl a118 r115 c119) r115, Ch.ro 0 (Sl a26 r23 c27) r23] ++ [Ch.ro 0 (Sl a26 r23 c27) r23, Ch.ro n0 (Sl a26 r23 c27) r23, Ch.ro 0 (Sl a118 r115 c119) r115, Ch.own 0 0 (Sl a48 r90.2 c49) r90.2]) from (H.sel' [2, 0, 0, 1, 2, 3] rfl rfl))) wn ?_
         rintro _ σ128 ⟨_, ⟨rfl, rfl⟩, H, -⟩
         replace H : Hp S0 σ0 σ128 [Ch.ro 0 (Sl a26 r23 c27) r23, Ch.ro n0 (Sl a26 r23 c27) r23, Ch.ro 0 (Sl a118 r115 c119) r115, Ch.own 0 0 (Sl a48 r90.2 c49) r90.2] := H
         refine st (v := (B (!r125))) (rv_not rfl) ?_
         refine w_end ?_
         refine q_then ?_
         refine cd_cond (!r125) rfl (fun hb129 => ?_) (fun hb129 => ?_)
         ·replace h := bif_t hb129 h
          refine c_seq ?_
          refine rg ?_
          refine st (v := (B false)) (rv_assign rfl) ?_
          refine w_end ?_
          refine q_then ?_
          refine c_ret ?_
          refine q_then_r ?_
          obtain rfl := Option.some.inj h
          exact fin_ret (v := (B false)) (results_ok Try.results8 (res_tmp (v := (B false)) rfl res_nil) rfl) ⟨rfl, rfl⟩ (H.sel' [] rfl rfl)
         ·replace h := bif_f hb129 h
          refine c_skip ?_
          refine q_then ?_
          refine c_seq ?_
          refine rg ?_
          refine st (v := (I 1)) (rv_assign rfl) ?_
          refine w_end ?_
          refine q_then ?_
          refine c_seq ?_
          refine rg ?_
          refine st (v := (Sl a48 r90.2 c49)) (rv_move rfl) ?_
          refine st (v := (I 1)) (rv_move rfl) ?_
          obtain ⟨σ130, hw131, H, -⟩ := H.pub 3 rfl (Nat.le_refl _)
          rw [← hw131]; clear hw131
          obtain ⟨r132, hx133, h'⟩ := bind_some h
          clear h
          have h := h'; clear h'
          have hc134 := c_laws_heldIntS (aa_0 := a48) (ca_0 := c49) hx133
          refine st_call (cx_call hc134 (ent_f hc134.fn rfl) hn0 (show Hp S0 σ0 _ ([Ch.ro 0 (Sl a48 r90.2 c49) r90.2] ++ [Ch.ro 0 (Sl a48 r90.2 c49) r90.2, Ch.ro 0 (Sl a26 r23 c27) r23, Ch.ro n0 (Sl a26 r23 c27) r23, Ch.ro 0 (Sl a118 r115 c119) r115]) from (H.sel' [0, 0, 1, 2, 3] rfl rfl))) wn ?_
          rintro _ σ135 ⟨_, ⟨rfl, rfl⟩, H, -⟩
          replace H : Hp S0 σ0 σ135 [Ch.ro 0 (Sl a48 r90.2 c49) r90.2, Ch.ro 0 (Sl a26 r23 c27) r23, Ch.ro n0 (Sl a26 r23 c27) r23, Ch.ro 0 (Sl a118 r115 c119) r115] := H
          refine st (v := (I r132)) (rv_assign rfl) ?_
          refine w_end ?_
          refine q_then ?_
          refine c_seq ?_
          refine c_seq ?_
          refine rg ?_
          refine st (v := (I r132)) (rv_move rfl) ?_
          refine st (v := (B (decide (r132 < 0)))) (rv_lss (a := r132) (b := 0) rfl rfl) ?_
          refine w_end ?_
          refine q_then ?_
          refine cd_cond (decide (r132 < 0)) rfl (fun hb136 => ?_) (fun hb136 => ?_)
          ·replace h := bif_t hb136 h
           refine c_seq ?_
           refine rg ?_
           refine st (v := (B false)) (rv_assign rfl) ?_
           refine w_end ?_
           refine q_then ?_
           refine c_ret ?_
           refine q_then_r ?_
           obtain rfl := Option.some.inj h
           exact fin_ret (v := (B false)) (results_ok Try.results8 (res_tmp (v := (B false)) rfl res_nil) rfl) ⟨rfl, rfl⟩ (H.sel' [] rfl rfl)
          ·replace h := bif_f hb136 h
           refine c_skip ?_
           refine q_then ?_
           refine c_seq ?_
           refine c_seq ?_
           refine rg ?_
           refine st (v := (I r132)) (rv_move rfl) ?_
           refine st (v := (I r90.1)) (rv_move rfl) ?_
           refine st (v := (B (r132 != r90.1))) (rv_neq (a := r132) (b := r90.1) rfl rfl) ?_
           refine w_end ?_
           refine q_then ?_
           refine cd_cond (r132 != r90.1) rfl (fun hb137 => ?_) (fun hb137 => ?_)
           ·replace h := bif_t hb137 h
            refine c_seq ?_
            refine rg ?_
            refine st (v := (B false)) (rv_assign rfl) ?_
            refine w_end ?_
            refine q_then ?_
            refine c_ret ?_
            refine q_then_r ?_
            obtain rfl := Option.some.inj h
            exact fin_ret (v := (B false)) (results_ok Try.results8 (res_tmp (v := (B false)) rfl res_nil) rfl) ⟨rfl, rfl⟩ (H.sel' [] rfl rfl)
           ·replace h := bif_f hb137 h
            refine c_skip ?_
            refine q_then ?_
            refine c_seq ?_
            refine rg ?_
            refine st (v := (B true)) (rv_assign rfl) ?_
            refine w_end ?_
            refine q_then ?_
            refine c_ret ?_
            obtain rfl := Option.some.inj h
            exact fin_ret (v := (B true)) (results_ok Try.results8 (res_tmp (v := (B true)) rfl res_nil) rfl) ⟨rfl, rfl⟩ (H.sel' [] rfl rfl)

end Go.Vs
