/- The functions compute what their models say. -/
import Derived.Test.YtnkflplbeagljacKExactFuseRanksM
import Derived.Test.YtnkflplbeagljacExactFuseRanksEng2
import Derived.Test.YtnkflplbeagljacProg
set_option linter.unusedVariables false
set_option linter.unusedSimpArgs false
set_option maxRecDepth 20000
namespace Go.Vs
open Go Go.Proofs
attribute [local irreducible] Code.wp Code.wpIn wpList wpListIn wpQuiet Calls CallsIn

theorem ti3 : TI Try.prog 3 (.int .i64 0) 1 8 := TI.mk' (by kernel_rfl)
theorem ti29 : TI Try.prog 29 (.slice none 0 0) 1 24 := TI.mk' (by kernel_rfl)
theorem ti37 : TI Try.prog 37 (.slice none 0 0) 1 24 := TI.mk' (by kernel_rfl)
theorem ti58 : TI Try.prog 58 (.agg #[(.int .i64 0), (.int .i64 0)]) 2 16 := TI.mk' (by kernel_rfl)
theorem ti60 : TI Try.prog 60 (.agg #[(.int .i64 0), (.int .i64 0)]) 2 16 := TI.mk' (by kernel_rfl)
theorem ti69 : TI Try.prog 69 (.map none) 1 8 := TI.mk' (by kernel_rfl)
theorem ti120 : TI Try.prog 120 (.int .u64 0) 1 8 := TI.mk' (by kernel_rfl)

theorem c_laws_szHitS {a_0 : List (Int × Int)} {left_1 : Int} {aa_0 : Option Addr} {ca_0 : Nat} {r : Int} (h : M.laws_szHitS a_0 left_1 = some r) :
    Cal2 Try.prog 14 [(Sl aa_0 a_0 ca_0), (I left_1)] [Ch.ro 0 (Sl aa_0 a_0 ca_0) a_0] (fun n0 v L => v = (I r) ∧ L = []) := by
 refine cal2 (n := 12) Try.func14 rfl rfl rfl rfl ?_
 intro S0 σ0 n0 hn0 H
 unfold M.laws_szHitS at h
 refine c_seq ?_
 refine rg ?_
 refine st (v := (I 0)) (rv_assign rfl) ?_
 refine w_end ?_
 refine q_then ?_
 refine c_seq ?_
 refine rg ?_
 refine st (v := (I left_1)) (rv_move rfl) ?_
 refine st (v := (Sl aa_0 a_0 ca_0)) (rv_move rfl) ?_
 refine st (v := (I (a_0.length : Int))) (rv_len Try.underlying26 rfl) ?_
 refine st (v := (I (w64 (left_1 - (a_0.length : Int))))) (rv_sub (a := left_1) (b := (a_0.length : Int)) rfl rfl) ?_
 refine st (v := (I (w64 (left_1 - (a_0.length : Int))))) (rv_assign rfl) ?_
 refine w_end ?_
 refine q_then ?_
 refine c_seq ?_
 refine c_seq ?_
 refine rg ?_
 refine st (v := (I (w64 (left_1 - (a_0.length : Int))))) (rv_move rfl) ?_
 refine st (v := (B (decide ((w64 (left_1 - (a_0.length : Int))) < 0)))) (rv_lss (a := (w64 (left_1 - (a_0.length : Int)))) (b := 0) rfl rfl) ?_
 refine w_end ?_
 refine q_then ?_
 refine cd_cond (decide ((w64 (left_1 - (a_0.length : Int))) < 0)) rfl (fun hb1 => ?_) (fun hb1 => ?_)
 ·replace h := bif_t hb1 h
  refine c_seq ?_
  refine rg ?_
  refine st (v := (I (-1))) (rv_assign rfl) ?_
  refine w_end ?_
  refine q_then ?_
  refine c_ret ?_
  refine q_then_r ?_
  obtain rfl := Option.some.inj h
  exact fin_ret (v := (I (-1))) (results_ok Try.results14 (res_tmp (v := (I (-1))) rfl res_nil) rfl) ⟨rfl, rfl⟩ (H.sel' [] rfl rfl)
 ·replace h := bif_f hb1 h
  refine c_skip ?_
  refine q_then ?_
  refine c_seq ?_
  refine rg ?_
  refine st (v := (I (w64 (left_1 - (a_0.length : Int))))) (rv_move rfl) ?_
  refine st (v := (I (w64 (left_1 - (a_0.length : Int))))) (rv_assign rfl) ?_
  refine w_end ?_
  refine q_then ?_
  refine c_ret ?_
  obtain rfl := Option.some.inj h
  exact fin_ret (v := (I (w64 (left_1 - (a_0.length : Int))))) (results_ok Try.results14 (res_tmp (v := (I (w64 (left_1 - (a_0.length : Int))))) rfl res_nil) rfl) ⟨rfl, rfl⟩ (H.sel' [] rfl rfl)

theorem c_laws_toHit {a_0 : Int × Int}  {r : (Int × Int)} (h : M.laws_toHit a_0 = some r) :
    Cal2 Try.prog 47 [(.agg #[(I a_0.1), (I a_0.2)])] [] (fun n0 v L => v = (.agg #[(I r.1), (I r.2)]) ∧ L = []) := by
 refine cal2 (n := 11) Try.func47 rfl rfl rfl rfl ?_
 intro S0 σ0 n0 hn0 H
 unfold M.laws_toHit at h
 refine c_seq ?_
 refine rg ?_
 refine st_ex (ex_box (cs := [(I a_0.1), (I a_0.2)]) H hn0 rfl rfl) wn ?_
 rintro _ σ2 ⟨b1, rfl, H, -⟩
 refine st_ex (ex_alloc (cs := [(I 0), (I 0)]) H hn0 ti58 rfl) wn ?_
 rintro _ σ4 ⟨b3, rfl, H, -⟩
 refine w_end ?_
 refine q_then ?_
 refine c_seq ?_
 refine rg ?_
 refine st_ex (ex_alloc (cs := [(I 0), (I 0)]) H hn0 ti58 rfl) wn ?_
 rintro _ σ6 ⟨b5, rfl, H, -⟩
 refine w_end ?_
 refine q_then ?_
 refine c_seq ?_
 refine rg ?_
 refine st (v := (pt b1 0)) (rv_fieldAddr (off := 0) (ft := 3) Try.underlying60 rfl ti3 rfl rfl) ?_
 have hc7 := H.cell (u := (I a_0.1)) (o' := 0) 2 0 rfl rfl rfl
 refine st (v := (I a_0.1)) (rv_load1 Try.underlying3 rfl rfl hc7) ?_
 refine st (v := (pt b5 0)) (rv_fieldAddr (off := 0) (ft := 3) Try.underlying58 rfl ti3 rfl rfl) ?_
 refine st_exS (ex_store_box (k := 0) (cs := [(I 0), (I 0)]) (vs := [(I a_0.1)]) (cs' := [(I a_0.1), (I 0)]) H (i := 0) rfl ti3 rfl rfl rfl rfl rfl (Nat.le_of_ble_eq_true rfl) (by simp [plain]) rfl) wn ?_
 rintro σ8 ⟨H, -⟩
 refine w_end ?_
 refine q_then ?_
 refine c_seq ?_
 refine rg ?_
 refine st (v := (pt b1 1)) (rv_fieldAddr (off := 1) (ft := 3) Try.underlying60 rfl ti3 rfl rfl) ?_
 have hc9 := H.cell (u := (I a_0.2)) (o' := 1) 2 1 rfl rfl rfl
 refine st (v := (I a_0.2)) (rv_load1 Try.underlying3 rfl rfl hc9) ?_
 refine st (v := (pt b5 1)) (rv_fieldAddr (off := 1) (ft := 3) Try.underlying58 rfl ti3 rfl rfl) ?_
 refine st_exS (ex_store_box (k := 1) (cs := [(I a_0.1), (I 0)]) (vs := [(I a_0.2)]) (cs' := [(I a_0.1), (I a_0.2)]) H (i := 0) rfl ti3 rfl rfl rfl rfl rfl (Nat.le_of_ble_eq_true rfl) (by simp [plain]) rfl) wn ?_
 rintro σ10 ⟨H, -⟩
 refine w_end ?_
 refine q_then ?_
 refine c_seq ?_
 refine rg ?_
 have hc11 := H.cells 0 rfl
 refine st (v := (.agg #[(I a_0.1), (I a_0.2)])) (rv_load (cs := [(I a_0.1), (I a_0.2)]) Try.underlying58 rfl ti58 rfl rfl hc11) ?_
 refine st_exS (ex_store_box (k := 0) (cs := [(I 0), (I 0)]) (vs := [(I a_0.1), (I a_0.2)]) (cs' := [(I a_0.1), (I a_0.2)]) H (i := 1) rfl ti58 rfl rfl rfl rfl rfl (Nat.le_of_ble_eq_true rfl) (by simp [plain]) rfl) wn ?_
 rintro σ12 ⟨H, -⟩
 refine w_end ?_
 refine q_then ?_
 refine c_ret ?_
 obtain rfl := Option.some.inj h
 exact fin_ret (v := (.agg #[(I a_0.1), (I a_0.2)])) (results_ok Try.results47 (res_cell rfl (run_cellRes (cs := [(I a_0.1), (I a_0.2)]) Try.underlying58 rfl ti58 rfl (H.cells 0 rfl)) res_nil) rfl) ⟨rfl, rfl⟩ (H.sel' [] rfl rfl)

theorem c_laws_toHitS {a_0 : List (Int × Int)} {aa_0 : Option Addr} {ca_0 : Nat} {r : (List (Int × Int))} (h : M.laws_toHitS a_0 = some r) :
    Cal2 Try.prog 16 [(Sl aa_0 a_0 ca_0)] [Ch.ro 0 (Sl aa_0 a_0 ca_0) a_0] (fun n0 v L => ∃ (az1 : Option Addr), ∃ (cz2 : Nat), v = (Sl az1 r cz2) ∧ L = [Ch.own n0 n0 (Sl az1 r cz2) r] ∧ cz2 = r.length) := by
 refine cal2 (n := 23) Try.func16 rfl rfl rfl rfl ?_
 intro S0 σ0 n0 hn0 H
 unfold M.laws_toHitS at h
 refine c_seq ?_
 refine rg ?_
 refine st (v := (.slice none 0 0)) (rv_assign rfl) ?_
 refine w_end ?_
 refine q_then ?_
 refine c_seq ?_
 refine rg ?_
 refine st (v := (Sl aa_0 a_0 ca_0)) (rv_move rfl) ?_
 refine st (v := (I (a_0.length : Int))) (rv_len Try.underlying26 rfl) ?_
 obtain ⟨xs1, hx2, h'⟩ := bind_some h
 clear h
 have h := h'; clear h'
 refine st_ex (ex_make (el := n0) (z0 := ((0, 0) : Int × Int)) (zs := [(I 0), (I 0)]) H hn0 Try.underlying29 ti58 rfl rfl (⟨[(I 0)], [(I 0)], rfl, rfl, rfl⟩) (by decide) hx2 rfl rfl) wn ?_
 rintro _ σ6 ⟨b3, c4, rfl, ht5, H, -⟩
 replace ht5 := ht5.trans (gmake_len hx2).symm
 refine st (v := (Sl (some ⟨b3, 0, none⟩) xs1 c4)) (rv_assign rfl) ?_
 refine w_end ?_
 refine q_then ?_
 refine c_seq ?_
 refine c_seq ?_
 refine rg ?_
 refine st (v := (I 0)) (rv_assign rfl) ?_
 refine w_end ?_
 refine q_then ?_
 obtain ⟨o7, hj, h'⟩ := bind_some h
 clear h
 refine c_cut (fun e a w => e = .normal ∧ ∃ (ρ : Nat → Value) (σ : St), a = fr 23 (updL ρ [(3, (Sl (some ⟨b3, 0, none⟩) o7 c4))]) ∧ w = σ.w ∧ Hp S0 σ0 σ [Ch.own n0 n0 (Sl (some ⟨b3, 0, none⟩) o7 c4) o7] ∧ c4 = o7.length ∧ o7.length = xs1.length) ?_ ?_
 ·clear h'
  rename _ = some o7 => h
  refine c_blk ?_
  refine wp_loopM _ h (fun s8 a w => ∃ (ρ : Nat → Value) (σ : St), a = fr 23 (updL ρ [(0, (Sl aa_0 a_0 ca_0)), (3, (Sl (some ⟨b3, 0, none⟩) s8.1 c4)), (4, (I s8.2))]) ∧ w = σ.w ∧ Hp S0 σ0 σ [Ch.ro 0 (Sl aa_0 a_0 ca_0) a_0, Ch.own n0 n0 (Sl (some ⟨b3, 0, none⟩) s8.1 c4) s8.1] ∧ c4 = s8.1.length ∧ s8.1.length = xs1.length) ⟨_, σ6, fr_join ⟨rfl, rfl, rfl, trivial⟩, rfl, H.sel' [1, 0] rfl rfl, ht5, rfl⟩ ?_
  clear h H
  rintro s8 a w o ⟨ρ, σ9, rfl, rfl, H, ht10, hn11⟩ h hres
  refine c_seq ?_
  refine c_seq ?_
  refine rg ?_
  refine st (v := (I s8.2)) (rv_move rfl) ?_
  refine st (v := (Sl aa_0 a_0 ca_0)) (rv_move rfl) ?_
  refine st (v := (I (a_0.length : Int))) (rv_len Try.underlying26 rfl) ?_
  refine st (v := (B (decide (s8.2 < (a_0.length : Int))))) (rv_lss (a := s8.2) (b := (a_0.length : Int)) rfl rfl) ?_
  refine w_end ?_
  refine q_then ?_
  refine cd_cond (decide (s8.2 < (a_0.length : Int))) rfl (fun hb12 => ?_) (fun hb12 => ?_)
  ·replace h := bif_t hb12 h
   refine c_skip ?_
   refine q_then ?_
   refine c_seq ?_
   refine c_blk ?_
   refine rg ?_
   refine st (v := (Sl (some ⟨b3, 0, none⟩) s8.1 c4)) (rv_move rfl) ?_
   refine st (v := (I s8.2)) (rv_move rfl) ?_
   refine st (v := (Sl aa_0 a_0 ca_0)) (rv_move rfl) ?_
   refine st (v := (I s8.2)) (rv_move rfl) ?_
   obtain ⟨x13, hx14, h'⟩ := bind_some h
   clear h
   have h := h'; clear h'
   obtain ⟨b16, o17, hi15, -⟩ := (H.ro 0 rfl).ix hx14
   refine st (v := (pt b16 o17)) (rv_ix Try.underlying26 ti60 rfl rfl hi15) ?_
   obtain ⟨_, ⟨_, _, rfl, rfl, rfl⟩, hl18, hc19⟩ := ((H.ro 0 rfl).at hx14 hi15).cells
   refine st (v := (.agg #[(I x13.1), (I x13.2)])) (rv_load Try.underlying60 rfl ti60 rfl hl18 hc19) ?_
   obtain ⟨r20, hx21, h'⟩ := bind_some h
   clear h
   have h := h'; clear h'
   have hc22 := c_laws_toHit hx21
   refine st_call (cx_call hc22 (ent_f hc22.fn rfl) hn0 (show Hp S0 σ0 _ ([] ++ [Ch.ro 0 (Sl aa_0 a_0 ca_0) a_0, Ch.own n0 n0 (Sl (some ⟨b3, 0, none⟩) s8.1 c4) s8.1]) from (H.sel' [0, 1] rfl rfl))) wn ?_
   rintro _ σ23 ⟨_, ⟨rfl, rfl⟩, H, -⟩
   replace H : Hp S0 σ0 σ23 [Ch.ro 0 (Sl aa_0 a_0 ca_0) a_0, Ch.own n0 n0 (Sl (some ⟨b3, 0, none⟩) s8.1 c4) s8.1] := H
   obtain ⟨x24, hx25, h'⟩ := bind_some h
   clear h
   have h := h'; clear h'
   obtain ⟨b27, o28, hi26, -⟩ := (H.own 1 rfl).ix hx25
   refine st (v := (pt b27 o28)) (rv_ix Try.underlying29 ti58 rfl rfl hi26) ?_
   refine st_exS (ex_store_own (e' := (r20.1, r20.2)) (vs := [(I r20.1), (I r20.2)]) (k := 0) H (i := 1) rfl ti58 hx25 hi26 rfl rfl rfl rfl rfl (Nat.le_of_ble_eq_true rfl) (by simp [plain]) (by rintro _ ⟨_, _, rfl, rfl, rfl⟩; exact ⟨[(I r20.1)], [(I r20.2)], rfl, rfl, rfl⟩)) wn ?_
   rintro σ29 ⟨H, -⟩
   have hsl : (Sl (some ⟨b3, 0, none⟩) s8.1 c4) = (Sl (some ⟨b3, 0, none⟩) (s8.1.set s8.2.toNat (r20.1, r20.2)) c4) := sl_len List.length_set.symm
   rw [hsl]; rw [hsl] at H; clear hsl
   refine w_end ?_
   refine q_blk ?_
   refine q_then ?_
   refine rg ?_
   refine st (v := (I s8.2)) (rv_move rfl) ?_
   refine st (v := (I (w64 (s8.2 + 1)))) (rv_add (a := s8.2) (b := 1) rfl rfl) ?_
   refine st (v := (I (w64 (s8.2 + 1)))) (rv_assign rfl) ?_
   refine w_end ?_
   refine q_then ?_
   obtain rfl := Option.some.inj h
   exact ⟨_, rfl, _, σ29, fr_join ⟨rfl, rfl, rfl, trivial⟩, rfl, H.sel' [1, 0] rfl rfl, (ht10.trans List.length_set.symm), (List.length_set.trans hn11)⟩
  ·replace h := bif_f hb12 h
   refine c_exit ?_
   refine q_then_x ?_
   refine q_then_x ?_
   refine q_blk_hit ?_
   obtain rfl := Option.some.inj h
   obtain rfl := hres _ rfl
   exact ⟨rfl, _, σ9, fr_join ⟨rfl, trivial⟩, rfl, H.sel' [1] rfl rfl, ht10, hn11⟩
 ·clear hj
  have h := h'
  clear h' H
  rintro e a w ⟨rfl, ρ, σ30, rfl, rfl, H, ht31, hn32⟩
  refine q_then ?_
  refine c_seq ?_
  refine rg ?_
  refine st (v := (Sl (some ⟨b3, 0, none⟩) o7 c4)) (rv_move rfl) ?_
  refine st (v := (Sl (some ⟨b3, 0, none⟩) o7 c4)) (rv_assign rfl) ?_
  refine w_end ?_
  refine q_then ?_
  refine c_ret ?_
  obtain rfl := Option.some.inj h
  exact fin_ret (v := (Sl (some ⟨b3, 0, none⟩) o7 c4)) (results_ok Try.results16 (res_tmp (v := (Sl (some ⟨b3, 0, none⟩) o7 c4)) rfl res_nil) rfl) ⟨(some ⟨b3, 0, none⟩), c4, rfl, rfl, ht31⟩ (H.sel' [0] rfl rfl)

theorem c_laws_eqHit {a_0 : Int × Int} {b_1 : Int × Int}  {r : Bool} (h : M.laws_eqHit a_0 b_1 = some r) :
    Cal2 Try.prog 51 [(.agg #[(I a_0.1), (I a_0.2)]), (.agg #[(I b_1.1), (I b_1.2)])] [] (fun n0 v L => v = (B r) ∧ L = []) := by
 refine cal2 (n := 15) Try.func51 rfl rfl rfl rfl ?_
 intro S0 σ0 n0 hn0 H
 unfold M.laws_eqHit at h
 refine c_seq ?_
 refine rg ?_
 refine st_ex (ex_box (cs := [(I a_0.1), (I a_0.2)]) H hn0 rfl rfl) wn ?_
 rintro _ σ2 ⟨b1, rfl, H, -⟩
 refine st_ex (ex_box (cs := [(I b_1.1), (I b_1.2)]) H hn0 rfl rfl) wn ?_
 rintro _ σ4 ⟨b3, rfl, H, -⟩
 refine st (v := (B false)) (rv_assign rfl) ?_
 refine w_end ?_
 refine q_then ?_
 refine c_seq ?_
 refine c_seq ?_
 refine rg ?_
 refine st (v := (pt b1 0)) (rv_fieldAddr (off := 0) (ft := 3) Try.underlying58 rfl ti3 rfl rfl) ?_
 have hc5 := H.cell (u := (I a_0.1)) (o' := 0) 1 0 rfl rfl rfl
 refine st (v := (I a_0.1)) (rv_load1 Try.underlying3 rfl rfl hc5) ?_
 refine st (v := (pt b3 0)) (rv_fieldAddr (off := 0) (ft := 3) Try.underlying58 rfl ti3 rfl rfl) ?_
 have hc6 := H.cell (u := (I b_1.1)) (o' := 0) 0 0 rfl rfl rfl
 refine st (v := (I b_1.1)) (rv_load1 Try.underlying3 rfl rfl hc6) ?_
 refine st (v := (B (a_0.1 != b_1.1))) (rv_neq (a := a_0.1) (b := b_1.1) rfl rfl) ?_
 refine w_end ?_
 refine q_then ?_
 refine cd_cond (a_0.1 != b_1.1) rfl (fun hb7 => ?_) (fun hb7 => ?_)
 ·replace h := bif_t hb7 h
  refine c_seq ?_
  refine rg ?_
  refine st (v := (B false)) (rv_assign rfl) ?_
  refine w_end ?_
  refine q_then ?_
  refine c_ret ?_
  refine q_then_r ?_
  obtain rfl := Option.some.inj h
  exact fin_ret (v := (B false)) (results_ok Try.results51 (res_tmp (v := (B false)) rfl res_nil) rfl) ⟨rfl, rfl⟩ (H.sel' [] rfl rfl)
 ·replace h := bif_f hb7 h
  refine c_skip ?_
  refine q_then ?_
  refine c_seq ?_
  refine c_seq ?_
  refine rg ?_
  refine st (v := (pt b1 1)) (rv_fieldAddr (off := 1) (ft := 3) Try.underlying58 rfl ti3 rfl rfl) ?_
  have hc8 := H.cell (u := (I a_0.2)) (o' := 1) 1 1 rfl rfl rfl
  refine st (v := (I a_0.2)) (rv_load1 Try.underlying3 rfl rfl hc8) ?_
  refine st (v := (pt b3 1)) (rv_fieldAddr (off := 1) (ft := 3) Try.underlying58 rfl ti3 rfl rfl) ?_
  have hc9 := H.cell (u := (I b_1.2)) (o' := 1) 0 1 rfl rfl rfl
  refine st (v := (I b_1.2)) (rv_load1 Try.underlying3 rfl rfl hc9) ?_
  refine st (v := (B (a_0.2 != b_1.2))) (rv_neq (a := a_0.2) (b := b_1.2) rfl rfl) ?_
  refine w_end ?_
  refine q_then ?_
  refine cd_cond (a_0.2 != b_1.2) rfl (fun hb10 => ?_) (fun hb10 => ?_)
  ·replace h := bif_t hb10 h
   refine c_seq ?_
   refine rg ?_
   refine st (v := (B false)) (rv_assign rfl) ?_
   refine w_end ?_
   refine q_then ?_
   refine c_ret ?_
   refine q_then_r ?_
   obtain rfl := Option.some.inj h
   exact fin_ret (v := (B false)) (results_ok Try.results51 (res_tmp (v := (B false)) rfl res_nil) rfl) ⟨rfl, rfl⟩ (H.sel' [] rfl rfl)
  ·replace h := bif_f hb10 h
   refine c_skip ?_
   refine q_then ?_
   refine c_seq ?_
   refine rg ?_
   refine st (v := (B true)) (rv_assign rfl) ?_
   refine w_end ?_
   refine q_then ?_
   refine c_ret ?_
   obtain rfl := Option.some.inj h
   exact fin_ret (v := (B true)) (results_ok Try.results51 (res_tmp (v := (B true)) rfl res_nil) rfl) ⟨rfl, rfl⟩ (H.sel' [] rfl rfl)

theorem c_laws_eqHitS {a_0 : List (Int × Int)} {b_1 : List (Int × Int)} {aa_0 : Option Addr} {ca_0 : Nat} {ab_1 : Option Addr} {cb_1 : Nat} {r : Bool} (h : M.laws_eqHitS a_0 b_1 = some r) :
    Cal2 Try.prog 18 [(Sl aa_0 a_0 ca_0), (Sl ab_1 b_1 cb_1)] [Ch.ro 0 (Sl aa_0 a_0 ca_0) a_0, Ch.ro 0 (Sl ab_1 b_1 cb_1) b_1] (fun n0 v L => v = (B r) ∧ L = []) := by
 refine cal2 (n := 27) Try.func18 rfl rfl rfl rfl ?_
 intro S0 σ0 n0 hn0 H
 unfold M.laws_eqHitS at h
 refine c_seq ?_
 refine rg ?_
 refine st (v := (B false)) (rv_assign rfl) ?_
 refine w_end ?_
 refine q_then ?_
 refine c_seq ?_
 refine c_seq ?_
 refine rg ?_
 refine st (v := (Sl aa_0 a_0 ca_0)) (rv_move rfl) ?_
 refine st (v := (I (a_0.length : Int))) (rv_len Try.underlying29 rfl) ?_
 refine st (v := (Sl ab_1 b_1 cb_1)) (rv_move rfl) ?_
 refine st (v := (I (b_1.length : Int))) (rv_len Try.underlying29 rfl) ?_
 refine st (v := (B ((a_0.length : Int) != (b_1.length : Int)))) (rv_neq (a := (a_0.length : Int)) (b := (b_1.length : Int)) rfl rfl) ?_
 refine w_end ?_
 refine q_then ?_
 refine cd_cond ((a_0.length : Int) != (b_1.length : Int)) rfl (fun hb1 => ?_) (fun hb1 => ?_)
 ·replace h := bif_t hb1 h
  refine c_seq ?_
  refine rg ?_
  refine st (v := (B false)) (rv_assign rfl) ?_
  refine w_end ?_
  refine q_then ?_
  refine c_ret ?_
  refine q_then_r ?_
  obtain rfl := Option.some.inj h
  exact fin_ret (v := (B false)) (results_ok Try.results18 (res_tmp (v := (B false)) rfl res_nil) rfl) ⟨rfl, rfl⟩ (H.sel' [] rfl rfl)
 ·replace h := bif_f hb1 h
  refine c_skip ?_
  refine q_then ?_
  refine c_seq ?_
  refine c_seq ?_
  refine rg ?_
  refine st (v := (I 0)) (rv_assign rfl) ?_
  refine w_end ?_
  refine q_then ?_
  obtain ⟨o2, hj, h'⟩ := bind_some h
  clear h
  refine c_cut (fun e a w => (∃ t, o2 = (.inl t) ∧ e = .normal ∧ ∃ (ρ : Nat → Value) (σ : St), a = fr 27 (updL ρ []) ∧ w = σ.w ∧ Hp S0 σ0 σ []) ∨ (∃ t, o2 = (.inr t) ∧ e = .ret ∧ ∃ (ρ : Nat → Value) (σ : St), a = fr 27 (updL ρ [(4, (B t))]) ∧ w = σ.w ∧ Hp S0 σ0 σ [])) ?_ ?_
  ·clear h'
   rename _ = some o2 => h
   refine c_blk ?_
   refine wp_loopM _ h (fun s3 a w => ∃ (ρ : Nat → Value) (σ : St), a = fr 27 (updL ρ [(0, (Sl aa_0 a_0 ca_0)), (1, (Sl ab_1 b_1 cb_1)), (5, (I s3))]) ∧ w = σ.w ∧ Hp S0 σ0 σ [Ch.ro 0 (Sl aa_0 a_0 ca_0) a_0, Ch.ro 0 (Sl ab_1 b_1 cb_1) b_1]) ⟨_, σ0, fr_join ⟨rfl, rfl, rfl, trivial⟩, rfl, H.sel' [0, 1] rfl rfl⟩ ?_
   clear h H
   rintro s3 a w o ⟨ρ, σ4, rfl, rfl, H⟩ h hres
   refine c_seq ?_
   refine c_seq ?_
   refine rg ?_
   refine st (v := (I s3)) (rv_move rfl) ?_
   refine st (v := (Sl aa_0 a_0 ca_0)) (rv_move rfl) ?_
   refine st (v := (I (a_0.length : Int))) (rv_len Try.underlying29 rfl) ?_
   refine st (v := (B (decide (s3 < (a_0.length : Int))))) (rv_lss (a := s3) (b := (a_0.length : Int)) rfl rfl) ?_
   refine w_end ?_
   refine q_then ?_
   refine cd_cond (decide (s3 < (a_0.length : Int))) rfl (fun hb5 => ?_) (fun hb5 => ?_)
   ·replace h := bif_t hb5 h
    refine c_skip ?_
    refine q_then ?_
    refine c_seq ?_
    refine c_blk ?_
    refine c_seq ?_
    refine rgP (σ := σ4) 8 (by kernel_rfl) (by kernel_rfl) (by kernel_rfl) ?_
    refine sq (v := (Sl aa_0 a_0 ca_0)) (rv_move rfl) ?_
    refine sq (v := (I s3)) (rv_move rfl) ?_
    obtain ⟨x6, hx7, h'⟩ := bind_some h
    clear h
    have h := h'; clear h'
    obtain ⟨b9, o10, hi8, -⟩ := (H.ro 0 rfl).ix hx7
    refine sq (v := (pt b9 o10)) (rv_ix Try.underlying29 ti58 rfl rfl hi8) ?_
    obtain ⟨_, ⟨_, _, rfl, rfl, rfl⟩, hl11, hc12⟩ := ((H.ro 0 rfl).at hx7 hi8).cells
    refine sq (v := (.agg #[(I x6.1), (I x6.2)])) (rv_load Try.underlying58 rfl ti58 rfl hl11 hc12) ?_
    refine sq (v := (Sl ab_1 b_1 cb_1)) (rv_move rfl) ?_
    refine sq (v := (I s3)) (rv_move rfl) ?_
    obtain ⟨x13, hx14, h'⟩ := bind_some h
    clear h
    have h := h'; clear h'
    obtain ⟨b16, o17, hi15, -⟩ := (H.ro 1 rfl).ix hx14
    refine sq (v := (pt b16 o17)) (rv_ix Try.underlying29 ti58 rfl rfl hi15) ?_
    obtain ⟨_, ⟨_, _, rfl, rfl, rfl⟩, hl18, hc19⟩ := ((H.ro 1 rfl).at hx14 hi15).cells
    refine sq (v := (.agg #[(I x13.1), (I x13.2)])) (rv_load Try.underlying58 rfl ti58 rfl hl18 hc19) ?_
    refine sq_end ?_
    intro σ20 hm21
    replace H := H.grow (hm21.mono fun _ h => h); clear hm21
    obtain ⟨r22, hx23, h'⟩ := bind_some h
    clear h
    have h := h'; clear h'
    have hc24 := c_laws_eqHit hx23
    refine st_call (cx_call hc24 (ent_f hc24.fn rfl) hn0 (show Hp S0 σ0 _ ([] ++ [Ch.ro 0 (Sl aa_0 a_0 ca_0) a_0, Ch.ro 0 (Sl ab_1 b_1 cb_1) b_1]) from (H.sel' [0, 1] rfl rfl))) wn ?_
    rintro _ σ25 ⟨_, ⟨rfl, rfl⟩, H, -⟩
    replace H : Hp S0 σ0 σ25 [Ch.ro 0 (Sl aa_0 a_0 ca_0) a_0, Ch.ro 0 (Sl ab_1 b_1 cb_1) b_1] := H
    refine st (v := (B (!r22))) (rv_not rfl) ?_
    refine w_end ?_
    refine q_then ?_
    refine cd_cond (!r22) rfl (fun hb26 => ?_) (fun hb26 => ?_)
    ·replace h := bif_t hb26 h
     refine c_seq ?_
     refine rg ?_
     refine st (v := (B false)) (rv_assign rfl) ?_
     refine w_end ?_
     refine q_then ?_
     refine c_ret ?_
     refine q_blk_r ?_
     refine q_then_r ?_
     refine q_then_r ?_
     refine q_blk_r ?_
     obtain rfl := Option.some.inj h
     obtain rfl := hres _ rfl
     exact .inr (⟨_, rfl, rfl, _, σ25, fr_join ⟨rfl, trivial⟩, rfl, H.sel' [] rfl rfl⟩)
    ·replace h := bif_f hb26 h
     refine c_skip ?_
     refine q_blk ?_
     refine q_then ?_
     refine rg ?_
     refine st (v := (I s3)) (rv_move rfl) ?_
     refine st (v := (I (w64 (s3 + 1)))) (rv_add (a := s3) (b := 1) rfl rfl) ?_
     refine st (v := (I (w64 (s3 + 1)))) (rv_assign rfl) ?_
     refine w_end ?_
     refine q_then ?_
     obtain rfl := Option.some.inj h
     exact ⟨_, rfl, _, σ25, fr_join ⟨rfl, rfl, rfl, trivial⟩, rfl, H.sel' [0, 1] rfl rfl⟩
   ·replace h := bif_f hb5 h
    refine c_exit ?_
    refine q_then_x ?_
    refine q_then_x ?_
    refine q_blk_hit ?_
    obtain rfl := Option.some.inj h
    obtain rfl := hres _ rfl
    exact .inl ⟨_, rfl, rfl, _, σ4, fr_join trivial, rfl, H.sel' [] rfl rfl⟩
  ·clear hj
   have h := h'
   clear h' H
   rintro e a w (⟨t27, rfl, rfl, ρ, σ28, rfl, rfl, H⟩ | ⟨t29, rfl, rfl, ρ, σ30, rfl, rfl, H⟩)
   ·replace h := selim_l h
    refine q_then ?_
    refine c_seq ?_
    refine rg ?_
    refine st (v := (B true)) (rv_assign rfl) ?_
    refine w_end ?_
    refine q_then ?_
    refine c_ret ?_
    obtain rfl := Option.some.inj h
    exact fin_ret (v := (B true)) (results_ok Try.results18 (res_tmp (v := (B true)) rfl res_nil) rfl) ⟨rfl, rfl⟩ (H.sel' [] rfl rfl)
   ·replace h := selim_r h
    refine q_then_r ?_
    obtain rfl := Option.some.inj h
    exact fin_ret (v := (B t29)) (results_ok Try.results18 (res_tmp (v := (B t29)) rfl res_nil) rfl) ⟨rfl, rfl⟩ (H.sel' [] rfl rfl)

theorem c_laws_markHitS {a_0 : List (Int × Int)} {k_1 : Int} {aa_0 : Option Addr} {ca_0 : Nat} {r : Int × (List (Int × Int))} (h : M.laws_markHitS a_0 k_1 = some r) :
    Cal2 Try.prog 21 [(Sl aa_0 a_0 ca_0), (I k_1)] [Ch.own 0 0 (Sl aa_0 a_0 ca_0) a_0] (fun n0 v L => v = (I r.1) ∧ L = [Ch.own 0 0 (Sl aa_0 r.2 ca_0) r.2] ∧ r.2.length = a_0.length) := by
 refine cal2 (n := 27) Try.func21 rfl rfl rfl rfl ?_
 intro S0 σ0 n0 hn0 H
 unfold M.laws_markHitS at h
 refine c_seq ?_
 refine rg ?_
 refine st (v := (I 0)) (rv_assign rfl) ?_
 refine w_end ?_
 refine q_then ?_
 refine c_seq ?_
 refine c_seq ?_
 refine rg ?_
 refine st (v := (I 0)) (rv_assign rfl) ?_
 refine w_end ?_
 refine q_then ?_
 obtain ⟨o1, hj, h'⟩ := bind_some h
 clear h
 refine c_cut (fun e a w => e = .normal ∧ ∃ (ρ : Nat → Value) (σ : St), a = fr 27 (updL ρ [(0, (Sl aa_0 o1.1 ca_0)), (1, (I o1.2))]) ∧ w = σ.w ∧ Hp S0 σ0 σ [Ch.own 0 0 (Sl aa_0 o1.1 ca_0) o1.1] ∧ o1.1.length = a_0.length) ?_ ?_
 ·clear h'
  rename _ = some o1 => h
  refine c_blk ?_
  refine wp_loopM _ h (fun s2 a w => ∃ (ρ : Nat → Value) (σ : St), a = fr 27 (updL ρ [(0, (Sl aa_0 s2.1 ca_0)), (1, (I s2.2.1)), (5, (I s2.2.2))]) ∧ w = σ.w ∧ Hp S0 σ0 σ [Ch.own 0 0 (Sl aa_0 s2.1 ca_0) s2.1] ∧ s2.1.length = a_0.length) ⟨_, σ0, fr_join ⟨rfl, rfl, rfl, trivial⟩, rfl, H.sel' [0] rfl rfl, rfl⟩ ?_
  clear h H
  rintro s2 a w o ⟨ρ, σ3, rfl, rfl, H, hn4⟩ h hres
  refine c_seq ?_
  refine c_seq ?_
  refine rg ?_
  refine st (v := (I s2.2.2)) (rv_move rfl) ?_
  refine st (v := (Sl aa_0 s2.1 ca_0)) (rv_move rfl) ?_
  refine st (v := (I (s2.1.length : Int))) (rv_len Try.underlying29 rfl) ?_
  refine st (v := (B (decide (s2.2.2 < (s2.1.length : Int))))) (rv_lss (a := s2.2.2) (b := (s2.1.length : Int)) rfl rfl) ?_
  refine w_end ?_
  refine q_then ?_
  refine cd_cond (decide (s2.2.2 < (s2.1.length : Int))) rfl (fun hb5 => ?_) (fun hb5 => ?_)
  ·replace h := bif_t hb5 h
   refine c_skip ?_
   refine q_then ?_
   refine c_seq ?_
   refine c_blk ?_
   refine c_seq ?_
   refine rg ?_
   refine st (v := (Sl aa_0 s2.1 ca_0)) (rv_move rfl) ?_
   refine st (v := (I s2.2.2)) (rv_move rfl) ?_
   refine st (v := (I s2.2.1)) (rv_move rfl) ?_
   obtain ⟨x6, hx7, h'⟩ := bind_some h
   clear h
   have h := h'; clear h'
   obtain ⟨b9, o10, hi8, -⟩ := (H.own 0 rfl).ix hx7
   refine st (v := (pt b9 o10)) (rv_ix Try.underlying29 ti58 rfl rfl hi8) ?_
   refine st (v := (pt b9 (o10 + 0))) (rv_fieldAddr (off := 0) (ft := 3) Try.underlying58 rfl ti3 rfl rfl) ?_
   refine st_exS (ex_store_own (e' := (s2.2.1, x6.2)) (vs := [(I s2.2.1)]) (k := 0) H (i := 0) rfl ti3 hx7 hi8 rfl rfl rfl rfl rfl (Nat.le_of_ble_eq_true rfl) (by simp [plain]) (by rintro _ ⟨_, _, rfl, rfl, rfl⟩; exact ⟨[(I s2.2.1)], [(I x6.2)], rfl, rfl, rfl⟩)) wn ?_
   rintro σ11 ⟨H, -⟩
   have hsl : (Sl aa_0 s2.1 ca_0) = (Sl aa_0 (s2.1.set s2.2.2.toNat (s2.2.1, x6.2)) ca_0) := sl_len List.length_set.symm
   rw [hsl]; rw [hsl] at H; clear hsl
   refine w_end ?_
   refine q_then ?_
   refine c_seq ?_
   refine rg ?_
   refine st (v := (I s2.2.1)) (rv_move rfl) ?_
   refine st (v := (I (w64 (s2.2.1 + 1)))) (rv_add (a := s2.2.1) (b := 1) rfl rfl) ?_
   refine st (v := (I (w64 (s2.2.1 + 1)))) (rv_assign rfl) ?_
   refine w_end ?_
   refine q_then ?_
   refine c_seq ?_
   refine rg ?_
   refine st (v := (Sl aa_0 (s2.1.set s2.2.2.toNat (s2.2.1, x6.2)) ca_0)) (rv_move rfl) ?_
   refine st (v := (I s2.2.2)) (rv_move rfl) ?_
   refine st (v := (I (w64 (s2.2.1 + 1)))) (rv_move rfl) ?_
   obtain ⟨x12, hx13, h'⟩ := bind_some h
   clear h
   have h := h'; clear h'
   obtain ⟨b15, o16, hi14, -⟩ := (H.own 0 rfl).ix hx13
   refine st (v := (pt b15 o16)) (rv_ix Try.underlying29 ti58 rfl rfl hi14) ?_
   refine st (v := (pt b15 (o16 + 1))) (rv_fieldAddr (off := 1) (ft := 3) Try.underlying58 rfl ti3 rfl rfl) ?_
   refine st_exS (ex_store_own (e' := (x12.1, w64 (s2.2.1 + 1))) (vs := [(I (w64 (s2.2.1 + 1)))]) (k := 1) H (i := 0) rfl ti3 hx13 hi14 rfl rfl rfl rfl rfl (Nat.le_of_ble_eq_true rfl) (by simp [plain]) (by rintro _ ⟨_, _, rfl, rfl, rfl⟩; exact ⟨[(I x12.1)], [(I (w64 (s2.2.1 + 1)))], rfl, rfl, rfl⟩)) wn ?_
   rintro σ17 ⟨H, -⟩
   have hsl : (Sl aa_0 (s2.1.set s2.2.2.toNat (s2.2.1, x6.2)) ca_0) = (Sl aa_0 ((s2.1.set s2.2.2.toNat (s2.2.1, x6.2)).set s2.2.2.toNat (x12.1, w64 (s2.2.1 + 1))) ca_0) := sl_len List.length_set.symm
   rw [hsl]; rw [hsl] at H; clear hsl
   refine w_end ?_
   refine q_then ?_
   refine rg ?_
   refine st (v := (I (w64 (s2.2.1 + 1)))) (rv_move rfl) ?_
   refine st (v := (I (w64 ((w64 (s2.2.1 + 1)) + 1)))) (rv_add (a := (w64 (s2.2.1 + 1))) (b := 1) rfl rfl) ?_
   refine st (v := (I (w64 ((w64 (s2.2.1 + 1)) + 1)))) (rv_assign rfl) ?_
   refine w_end ?_
   refine q_blk ?_
   refine q_then ?_
   refine rg ?_
   refine st (v := (I s2.2.2)) (rv_move rfl) ?_
   refine st (v := (I (w64 (s2.2.2 + 1)))) (rv_add (a := s2.2.2) (b := 1) rfl rfl) ?_
   refine st (v := (I (w64 (s2.2.2 + 1)))) (rv_assign rfl) ?_
   refine w_end ?_
   refine q_then ?_
   obtain rfl := Option.some.inj h
   exact ⟨_, rfl, _, σ17, fr_join ⟨rfl, rfl, rfl, trivial⟩, rfl, H.sel' [0] rfl rfl, (List.length_set.trans (List.length_set.trans hn4))⟩
  ·replace h := bif_f hb5 h
   refine c_exit ?_
   refine q_then_x ?_
   refine q_then_x ?_
   refine q_blk_hit ?_
   obtain rfl := Option.some.inj h
   obtain rfl := hres _ rfl
   exact ⟨rfl, _, σ3, fr_join ⟨rfl, rfl, trivial⟩, rfl, H.sel' [0] rfl rfl, hn4⟩
 ·clear hj
  have h := h'
  clear h' H
  rintro e a w ⟨rfl, ρ, σ18, rfl, rfl, H, hn19⟩
  refine q_then ?_
  refine c_seq ?_
  refine rg ?_
  refine st (v := (I o1.2)) (rv_move rfl) ?_
  refine st (v := (I o1.2)) (rv_assign rfl) ?_
  refine w_end ?_
  refine q_then ?_
  refine c_ret ?_
  obtain rfl := Option.some.inj h
  exact fin_ret (v := (I o1.2)) (results_ok Try.results21 (res_tmp (v := (I o1.2)) rfl res_nil) rfl) ⟨rfl, rfl, hn19⟩ (H.sel' [0] rfl rfl)

theorem c_spec_inRange {n_0 : Int} {low_1 : Int} {high_2 : Int}  {r : Bool} (h : M.spec_inRange n_0 low_1 high_2 = some r) :
    Cal2 Try.prog 52 [(I n_0), (I low_1), (I high_2)] [] (fun n0 v L => v = (B r) ∧ L = []) := by
 refine cal2 (n := 15) Try.func52 rfl rfl rfl rfl ?_
 intro S0 σ0 n0 hn0 H
 unfold M.spec_inRange at h
 refine c_seq ?_
 refine rg ?_
 refine st (v := (B false)) (rv_assign rfl) ?_
 refine w_end ?_
 refine q_then ?_
 refine c_seq ?_
 refine rg ?_
 refine st (v := (I low_1)) (rv_move rfl) ?_
 refine st (v := (I n_0)) (rv_move rfl) ?_
 refine st (v := (B (decide (low_1 ≤ n_0)))) (rv_leq (a := low_1) (b := n_0) rfl rfl) ?_
 refine st (v := (B (decide (low_1 ≤ n_0)))) (rv_move rfl) ?_
 rcases Bool.eq_false_or_eq_true (decide (low_1 ≤ n_0)) with hb1 | hb1
 ·replace h := bif_t hb1 h
  refine st_g (v := (I n_0)) (congrArg some hb1) (rv_move rfl) ?_
  refine st_g (v := (I high_2)) (congrArg some hb1) (rv_move rfl) ?_
  refine st_g (v := (B (decide (n_0 ≤ high_2)))) (congrArg some hb1) (rv_leq (a := n_0) (b := high_2) rfl rfl) ?_
  refine st (v := (B (decide (n_0 ≤ high_2)))) (rv_pick_t (congrArg B hb1) rfl) ?_
  refine st (v := (B (decide (n_0 ≤ high_2)))) (rv_assign rfl) ?_
  refine w_end ?_
  refine q_then ?_
  refine c_ret ?_
  obtain rfl := Option.some.inj h
  exact fin_ret (v := (B (decide (n_0 ≤ high_2)))) (results_ok Try.results52 (res_tmp (v := (B (decide (n_0 ≤ high_2)))) rfl res_nil) rfl) ⟨rfl, rfl⟩ (H.sel' [] rfl rfl)
 ·replace h := bif_f hb1 h
  refine st_skip (congrArg some hb1) ?_
  refine st_skip (congrArg some hb1) ?_
  refine st_skip (congrArg some hb1) ?_
  refine st (v := (B false)) (rv_pick_f (congrArg B hb1) rfl) ?_
  refine st (v := (B false)) (rv_assign rfl) ?_
  refine w_end ?_
  refine q_then ?_
  refine c_ret ?_
  obtain rfl := Option.some.inj h
  exact fin_ret (v := (B false)) (results_ok Try.results52 (res_tmp (v := (B false)) rfl res_nil) rfl) ⟨rfl, rfl⟩ (H.sel' [] rfl rfl)

theorem c_spec_nearer {a_0 : Int × Int} {b_1 : Int × Int}  {r : Bool} (h : M.spec_nearer a_0 b_1 = some r) :
    Cal2 Try.prog 71 [(.agg #[(I a_0.1), (I a_0.2)]), (.agg #[(I b_1.1), (I b_1.2)])] [] (fun n0 v L => v = (B r) ∧ L = []) := by
 refine cal2 (n := 24) Try.func71 rfl rfl rfl rfl ?_
 intro S0 σ0 n0 hn0 H
 unfold M.spec_nearer at h
 refine c_seq ?_
 refine rg ?_
 refine st_ex (ex_box (cs := [(I a_0.1), (I a_0.2)]) H hn0 rfl rfl) wn ?_
 rintro _ σ2 ⟨b1, rfl, H, -⟩
 refine st_ex (ex_box (cs := [(I b_1.1), (I b_1.2)]) H hn0 rfl rfl) wn ?_
 rintro _ σ4 ⟨b3, rfl, H, -⟩
 refine st (v := (B false)) (rv_assign rfl) ?_
 refine w_end ?_
 refine q_then ?_
 refine c_seq ?_
 refine rg ?_
 refine st (v := (pt b1 1)) (rv_fieldAddr (off := 1) (ft := 3) Try.underlying58 rfl ti3 rfl rfl) ?_
 have hc5 := H.cell (u := (I a_0.2)) (o' := 1) 1 1 rfl rfl rfl
 refine st (v := (I a_0.2)) (rv_load1 Try.underlying3 rfl rfl hc5) ?_
 refine st (v := (pt b3 1)) (rv_fieldAddr (off := 1) (ft := 3) Try.underlying58 rfl ti3 rfl rfl) ?_
 have hc6 := H.cell (u := (I b_1.2)) (o' := 1) 0 1 rfl rfl rfl
 refine st (v := (I b_1.2)) (rv_load1 Try.underlying3 rfl rfl hc6) ?_
 refine st (v := (B (decide (a_0.2 < b_1.2)))) (rv_lss (a := a_0.2) (b := b_1.2) rfl rfl) ?_
 refine st (v := (B (decide (a_0.2 < b_1.2)))) (rv_move rfl) ?_
 rcases Bool.eq_false_or_eq_true (decide (a_0.2 < b_1.2)) with hb7 | hb7
 ·replace h := bif_t hb7 h
  refine st_skip (congrArg some hb7) ?_
  refine st_skip (congrArg some hb7) ?_
  refine st_skip (congrArg some hb7) ?_
  refine st_skip (congrArg some hb7) ?_
  refine st_skip (congrArg some hb7) ?_
  refine st_skip (congrArg some hb7) ?_
  refine st_skip_u rfl ?_
  refine st_skip_u rfl ?_
  refine st_skip_u rfl ?_
  refine st_skip_u rfl ?_
  refine st_skip_u rfl ?_
  refine st_skip (congrArg some hb7) ?_
  refine st (v := (B true)) (rv_pick_t (congrArg B hb7) rfl) ?_
  refine st (v := (B true)) (rv_assign rfl) ?_
  refine w_end ?_
  refine q_then ?_
  refine c_ret ?_
  obtain rfl := Option.some.inj h
  exact fin_ret (v := (B true)) (results_ok Try.results71 (res_tmp (v := (B true)) rfl res_nil) rfl) ⟨rfl, rfl⟩ (H.sel' [] rfl rfl)
 ·replace h := bif_f hb7 h
  refine st_g (v := (pt b1 1)) (congrArg some hb7) (rv_fieldAddr (off := 1) (ft := 3) Try.underlying58 rfl ti3 rfl rfl) ?_
  have hc8 := H.cell (u := (I a_0.2)) (o' := 1) 1 1 rfl rfl rfl
  refine st_g (v := (I a_0.2)) (congrArg some hb7) (rv_load1 Try.underlying3 rfl rfl hc8) ?_
  refine st_g (v := (pt b3 1)) (congrArg some hb7) (rv_fieldAddr (off := 1) (ft := 3) Try.underlying58 rfl ti3 rfl rfl) ?_
  have hc9 := H.cell (u := (I b_1.2)) (o' := 1) 0 1 rfl rfl rfl
  refine st_g (v := (I b_1.2)) (congrArg some hb7) (rv_load1 Try.underlying3 rfl rfl hc9) ?_
  refine st_g (v := (B (a_0.2 == b_1.2))) (congrArg some hb7) (rv_eql (a := a_0.2) (b := b_1.2) rfl rfl) ?_
  refine st_g (v := (B (a_0.2 == b_1.2))) (congrArg some hb7) (rv_move rfl) ?_
  rcases Bool.eq_false_or_eq_true (a_0.2 == b_1.2) with hb10 | hb10
  ·replace h := bif_t hb10 h
   refine st_g (v := (pt b1 0)) (congrArg some hb10) (rv_fieldAddr (off := 0) (ft := 3) Try.underlying58 rfl ti3 rfl rfl) ?_
   have hc11 := H.cell (u := (I a_0.1)) (o' := 0) 1 0 rfl rfl rfl
   refine st_g (v := (I a_0.1)) (congrArg some hb10) (rv_load1 Try.underlying3 rfl rfl hc11) ?_
   refine st_g (v := (pt b3 0)) (congrArg some hb10) (rv_fieldAddr (off := 0) (ft := 3) Try.underlying58 rfl ti3 rfl rfl) ?_
   have hc12 := H.cell (u := (I b_1.1)) (o' := 0) 0 0 rfl rfl rfl
   refine st_g (v := (I b_1.1)) (congrArg some hb10) (rv_load1 Try.underlying3 rfl rfl hc12) ?_
   refine st_g (v := (B (decide (a_0.1 < b_1.1)))) (congrArg some hb10) (rv_lss (a := a_0.1) (b := b_1.1) rfl rfl) ?_
   refine st_g (v := (B (decide (a_0.1 < b_1.1)))) (congrArg some hb7) (rv_pick_t (congrArg B hb10) rfl) ?_
   refine st (v := (B (decide (a_0.1 < b_1.1)))) (rv_pick_f (congrArg B hb7) rfl) ?_
   refine st (v := (B (decide (a_0.1 < b_1.1)))) (rv_assign rfl) ?_
   refine w_end ?_
   refine q_then ?_
   refine c_ret ?_
   obtain rfl := Option.some.inj h
   exact fin_ret (v := (B (decide (a_0.1 < b_1.1)))) (results_ok Try.results71 (res_tmp (v := (B (decide (a_0.1 < b_1.1)))) rfl res_nil) rfl) ⟨rfl, rfl⟩ (H.sel' [] rfl rfl)
  ·replace h := bif_f hb10 h
   refine st_skip (congrArg some hb10) ?_
   refine st_skip (congrArg some hb10) ?_
   refine st_skip (congrArg some hb10) ?_
   refine st_skip (congrArg some hb10) ?_
   refine st_skip (congrArg some hb10) ?_
   refine st_g (v := (B false)) (congrArg some hb7) (rv_pick_f (congrArg B hb10) rfl) ?_
   refine st (v := (B false)) (rv_pick_f (congrArg B hb7) rfl) ?_
   refine st (v := (B false)) (rv_assign rfl) ?_
   refine w_end ?_
   refine q_then ?_
   refine c_ret ?_
   obtain rfl := Option.some.inj h
   exact fin_ret (v := (B false)) (results_ok Try.results71 (res_tmp (v := (B false)) rfl res_nil) rfl) ⟨rfl, rfl⟩ (H.sel' [] rfl rfl)

theorem c_spec_validHits {list_0 : List (Int × Int)} {alist_0 : Option Addr} {clist_0 : Nat} {r : Bool} (h : M.spec_validHits list_0 = some r) :
    Cal2 Try.prog 46 [(Sl alist_0 list_0 clist_0)] [Ch.ro 0 (Sl alist_0 list_0 clist_0) list_0] (fun n0 v L => v = (B r) ∧ L = []) := by
 refine cal2 (n := 63) Try.func46 rfl rfl rfl rfl ?_
 intro S0 σ0 n0 hn0 H
 unfold M.spec_validHits at h
 refine c_seq ?_
 refine rg ?_
 refine st (v := (B false)) (rv_assign rfl) ?_
 refine w_end ?_
 refine q_then ?_
 refine c_seq ?_
 refine c_seq ?_
 refine rg ?_
 refine st (v := (I 0)) (rv_assign rfl) ?_
 refine w_end ?_
 refine q_then ?_
 obtain ⟨o1, hj, h'⟩ := bind_some h
 clear h
 refine c_cut (fun e a w => (∃ t, o1 = (.inl t) ∧ e = .normal ∧ ∃ (ρ : Nat → Value) (σ : St), a = fr 63 (updL ρ [(0, (Sl alist_0 list_0 clist_0))]) ∧ w = σ.w ∧ Hp S0 σ0 σ [Ch.ro 0 (Sl alist_0 list_0 clist_0) list_0]) ∨ (∃ t, o1 = (.inr t) ∧ e = .ret ∧ ∃ (ρ : Nat → Value) (σ : St), a = fr 63 (updL ρ [(2, (B t))]) ∧ w = σ.w ∧ Hp S0 σ0 σ [])) ?_ ?_
 ·clear h'
  rename _ = some o1 => h
  refine c_blk ?_
  refine wp_loopM _ h (fun s2 a w => ∃ (ρ : Nat → Value) (σ : St), a = fr 63 (updL ρ [(0, (Sl alist_0 list_0 clist_0)), (3, (I s2))]) ∧ w = σ.w ∧ Hp S0 σ0 σ [Ch.ro 0 (Sl alist_0 list_0 clist_0) list_0]) ⟨_, σ0, fr_join ⟨rfl, rfl, trivial⟩, rfl, H.sel' [0] rfl rfl⟩ ?_
  clear h H
  rintro s2 a w o ⟨ρ, σ3, rfl, rfl, H⟩ h hres
  refine c_seq ?_
  refine c_seq ?_
  refine rg ?_
  refine st (v := (I s2)) (rv_move rfl) ?_
  refine st (v := (Sl alist_0 list_0 clist_0)) (rv_move rfl) ?_
  refine st (v := (I (list_0.length : Int))) (rv_len Try.underlying29 rfl) ?_
  refine st (v := (B (decide (s2 < (list_0.length : Int))))) (rv_lss (a := s2) (b := (list_0.length : Int)) rfl rfl) ?_
  refine w_end ?_
  refine q_then ?_
  refine cd_cond (decide (s2 < (list_0.length : Int))) rfl (fun hb4 => ?_) (fun hb4 => ?_)
  ·replace h := bif_t hb4 h
   refine c_skip ?_
   refine q_then ?_
   refine c_seq ?_
   refine c_blk ?_
   refine c_seq ?_
   refine c_seq ?_
   obtain ⟨o5, hj, h'⟩ := bind_some h
   clear h
   refine c_cut (fun e a w => e = .normal ∧ ∃ (ρ : Nat → Value) (σ : St), a = fr 63 (updL ρ [(0, (Sl alist_0 list_0 clist_0)), (3, (I s2)), (43, (B o5))]) ∧ w = σ.w ∧ Hp S0 σ0 σ [Ch.ro 0 (Sl alist_0 list_0 clist_0) list_0]) ?_ ?_
   ·clear h'
    rename _ = some o5 => h
    obtain ⟨x6, hx7, h'⟩ := bind_some h
    clear h
    have h := h'; clear h'
    obtain ⟨b9, o10, hi8, -⟩ := (H.ro 0 rfl).ix hx7
    have hc11 := ((H.ro 0 rfl).at hx7 hi8).fst.int
    obtain ⟨r12, hx13, h'⟩ := bind_some h
    clear h
    have h := h'; clear h'
    have hc14 := c_spec_inRange hx13
    rcases Bool.eq_false_or_eq_true (!r12) with hb15 | hb15
    ·replace h := bif_t hb15 h
     have Hs := H
     refine rg2 (σ := σ3) (Nm := Unit) 29 [5] [[false], [true]] [[(0, 0)], [(0, 0)], [(0, 0)], [(0, 0)], [(0, 0)], [(0, 1)], [(1, 1)], [(1, 1)], [(1, 1)], [(1, 1)], [(1, 1)], [(1, 1)], [(1, 1)], [(1, 1)], [(1, 1)], [(1, 1)], [(1, 1)], [(1, 1)], [(1, 1)], [(1, 1)], [(1, 1)], [(1, 1)], [(1, 1)], [(1, 1)], [(1, 1)], [(1, 1)], [(1, 1)], [(1, 1)], [(1, 1)]] 1 [fun _ => fun σm => Hp S0 σ0 σm [Ch.ro 0 (Sl alist_0 list_0 clist_0) list_0] ∧ Md (cov []) σ3 σm, fun _ => fun σm => Hp S0 σ0 σm [Ch.ro 0 (Sl alist_0 list_0 clist_0) list_0] ∧ Md (cov []) σ3 σm] [fun _ => (Sl alist_0 list_0 clist_0), fun _ => (I s2), fun _ => (pt b9 o10), fun _ => (pt b9 (o10 + 0)), fun _ => (I x6.1), fun _ => (B r12), fun _ => (B (!r12)), fun _ => (B (!r12)), fun _ => undef, fun _ => undef, fun _ => undef, fun _ => undef, fun _ => undef, fun _ => undef, fun _ => undef, fun _ => (B true), fun _ => (B true), fun _ => undef, fun _ => undef, fun _ => undef, fun _ => undef, fun _ => undef, fun _ => undef, fun _ => undef, fun _ => undef, fun _ => undef, fun _ => undef, fun _ => undef, fun _ => undef] () (by kernel_rfl) (by kernel_rfl) ?_ ?_ ?_
     ·intro σm m0
      exact ⟨H.grow (m0.mono fun _ h => h.elim), m0⟩
     ·refine ac rfl (by
        intro k _nm ρ σm hJ hoff hdep
        have e0 := look_off (N := 63) (hoff 0 rfl) rfl
        exact dp_v (v := (Sl alist_0 list_0 clist_0)) wn (rv_move e0) rfl hJ) ?_
      refine ac rfl (by
        intro k _nm ρ σm hJ hoff hdep
        have e3 := look_off (N := 63) (hoff 3 rfl) rfl
        exact dp_v (v := (I s2)) wn (rv_move e3) rfl hJ) ?_
      refine ac rfl (by
        intro k _nm ρ σm hJ hoff hdep
        have e11 := hdep 0 rfl rfl 11 rfl
        have e12 := hdep 1 rfl rfl 12 rfl
        exact dp_v (v := (pt b9 o10)) wn (rv_ix Try.underlying29 ti58 e11 e12 hi8) rfl hJ) ?_
      refine ac rfl (by
        intro k _nm ρ σm hJ hoff hdep
        have e13 := hdep 2 rfl rfl 13 rfl
        exact dp_v (v := (pt b9 (o10 + 0))) wn (rv_fieldAddr (off := 0) (ft := 3) Try.underlying58 rfl ti3 rfl e13) rfl hJ) ?_
      refine all_cons (by
        refine ⟨?_, ?_⟩
        ·intro _nm ρ σm hJ hoff hdep
         have e14 := hdep 3 rfl rfl 14 rfl
         obtain ⟨H, m⟩ := id hJ
         replace hc11 := (Hs.ro 0 rfl).hmd hx7 hi8 (k := 0) (by decide) hc11 m
         exact dp_v (v := (I x6.1)) wn (rv_load1 Try.underlying3 rfl e14 hc11) rfl hJ
        trivial) ?_
      refine all_cons (by
        refine ⟨?_, ?_⟩
        ·intro _nm ρ σm hJ hoff hdep
         have e15 : look 63 ρ 15 = (I x6.1) := hdep 4 rfl rfl 15 rfl
         obtain ⟨H, m⟩ := id hJ
         refine dp_cx wn (cx_call hc14 (ent_f hc14.fn (by show [look 63 ρ 15, (I 1), (I 99)] = _; rw [e15])) hn0 (show Hp S0 σ0 _ ([] ++ [Ch.ro 0 (Sl alist_0 list_0 clist_0) list_0]) from (H.sel' [0] rfl rfl))) ?_
         rintro _ σq ⟨_, ⟨rfl, rfl⟩, H2, m2⟩
         exact ⟨_, (), rfl, rfl, ⟨H2.sel' [0] rfl rfl, m.comp0 m2⟩, stab [0, 1, 2, 3, 4] (by kernel_rfl) ⟨rfl, rfl, rfl, rfl, rfl, trivial⟩⟩
        trivial) ?_
      refine ac rfl (by
        intro k _nm ρ σm hJ hoff hdep
        have e16 := hdep 5 rfl rfl 16 rfl
        exact dp_v (v := (B (!r12))) wn (rv_not e16) rfl hJ) ?_
      refine ac rfl (by
        intro k _nm ρ σm hJ hoff hdep
        have e17 := hdep 6 rfl rfl 17 rfl
        exact dp_v (v := (B (!r12))) wn (rv_move e17) rfl hJ) ?_
      refine ac rfl (by
        intro k _nm ρ σm hJ hoff hdep
        have e18 := hdep 7 rfl rfl 18 rfl
        exact dp_skip (wanted_no rfl (yv_of rfl (e18.trans (congrArg B hb15)))) rfl hJ) ?_
      refine ac rfl (by
        intro k _nm ρ σm hJ hoff hdep
        have e18 := hdep 7 rfl rfl 18 rfl
        exact dp_skip (wanted_no rfl (yv_of rfl (e18.trans (congrArg B hb15)))) rfl hJ) ?_
      refine ac rfl (by
        intro k _nm ρ σm hJ hoff hdep
        have e18 := hdep 7 rfl rfl 18 rfl
        exact dp_skip (wanted_no rfl (yv_of rfl (e18.trans (congrArg B hb15)))) rfl hJ) ?_
      refine ac rfl (by
        intro k _nm ρ σm hJ hoff hdep
        have e18 := hdep 7 rfl rfl 18 rfl
        exact dp_skip (wanted_no rfl (yv_of rfl (e18.trans (congrArg B hb15)))) rfl hJ) ?_
      refine ac rfl (by
        intro k _nm ρ σm hJ hoff hdep
        have e18 := hdep 7 rfl rfl 18 rfl
        exact dp_skip (wanted_no rfl (yv_of rfl (e18.trans (congrArg B hb15)))) rfl hJ) ?_
      refine ac rfl (by
        intro k _nm ρ σm hJ hoff hdep
        have e18 := hdep 7 rfl rfl 18 rfl
        exact dp_skip (wanted_no rfl (yv_of rfl (e18.trans (congrArg B hb15)))) rfl hJ) ?_
      refine ac rfl (by
        intro k _nm ρ σm hJ hoff hdep
        have e18 := hdep 7 rfl rfl 18 rfl
        exact dp_skip (wanted_no rfl (yv_of rfl (e18.trans (congrArg B hb15)))) rfl hJ) ?_
      refine ac rfl (by
        intro k _nm ρ σm hJ hoff hdep
        have e18 := hdep 7 rfl rfl 18 rfl
        exact dp_v (v := (B true)) wn (rv_pick_t (e18.trans (congrArg B hb15)) rfl) rfl hJ) ?_
      refine ac rfl (by
        intro k _nm ρ σm hJ hoff hdep
        have e26 := hdep 15 rfl rfl 26 rfl
        exact dp_v (v := (B true)) wn (rv_move e26) rfl hJ) ?_
      refine ac rfl (by
        intro k _nm ρ σm hJ hoff hdep
        have e27 := hdep 16 rfl rfl 27 rfl
        exact dp_skip (wanted_no rfl (yv_of rfl e27)) rfl hJ) ?_
      refine ac rfl (by
        intro k _nm ρ σm hJ hoff hdep
        have e27 := hdep 16 rfl rfl 27 rfl
        exact dp_skip (wanted_no rfl (yv_of rfl e27)) rfl hJ) ?_
      refine ac rfl (by
        intro k _nm ρ σm hJ hoff hdep
        have e27 := hdep 16 rfl rfl 27 rfl
        exact dp_skip (wanted_no rfl (yv_of rfl e27)) rfl hJ) ?_
      refine ac rfl (by
        intro k _nm ρ σm hJ hoff hdep
        have e30 := hdep 19 rfl rfl 30 rfl
        exact dp_skip (wanted_u rfl (yv_undef rfl e30)) rfl hJ) ?_
      refine ac rfl (by
        intro k _nm ρ σm hJ hoff hdep
        have e30 := hdep 19 rfl rfl 30 rfl
        exact dp_skip (wanted_u rfl (yv_undef rfl e30)) rfl hJ) ?_
      refine ac rfl (by
        intro k _nm ρ σm hJ hoff hdep
        have e30 := hdep 19 rfl rfl 30 rfl
        exact dp_skip (wanted_u rfl (yv_undef rfl e30)) rfl hJ) ?_
      refine ac rfl (by
        intro k _nm ρ σm hJ hoff hdep
        have e30 := hdep 19 rfl rfl 30 rfl
        exact dp_skip (wanted_u rfl (yv_undef rfl e30)) rfl hJ) ?_
      refine ac rfl (by
        intro k _nm ρ σm hJ hoff hdep
        have e30 := hdep 19 rfl rfl 30 rfl
        exact dp_skip (wanted_u rfl (yv_undef rfl e30)) rfl hJ) ?_
      refine ac rfl (by
        intro k _nm ρ σm hJ hoff hdep
        have e30 := hdep 19 rfl rfl 30 rfl
        exact dp_skip (wanted_u rfl (yv_undef rfl e30)) rfl hJ) ?_
      refine ac rfl (by
        intro k _nm ρ σm hJ hoff hdep
        have e30 := hdep 19 rfl rfl 30 rfl
        exact dp_skip (wanted_u rfl (yv_undef rfl e30)) rfl hJ) ?_
      refine ac rfl (by
        intro k _nm ρ σm hJ hoff hdep
        have e30 := hdep 19 rfl rfl 30 rfl
        exact dp_skip (wanted_u rfl (yv_undef rfl e30)) rfl hJ) ?_
      refine ac rfl (by
        intro k _nm ρ σm hJ hoff hdep
        have e30 := hdep 19 rfl rfl 30 rfl
        exact dp_skip (wanted_u rfl (yv_undef rfl e30)) rfl hJ) ?_
      exact all_nil
     ·intro _nm ρ σ16 hJ hoff hrel
      have e0 := look_off (N := 63) (hoff 0 rfl) rfl
      have e3 := look_off (N := 63) (hoff 3 rfl) rfl
      have e27 := hrel 16 rfl 27 rfl
      have e30 := hrel 19 rfl 30 rfl
      have e35 := hrel 24 rfl 35 rfl
      have e39 := hrel 28 rfl 39 rfl
      obtain ⟨H, -⟩ := (show Hp S0 σ0 σ16 [Ch.ro 0 (Sl alist_0 list_0 clist_0) list_0] ∧ Md (cov []) σ3 σ16 from hJ)
      clear hJ Hs
      rw [fr_lookL (L := [(0, (Sl alist_0 list_0 clist_0)), (3, (I s2)), (27, (B true)), (30, undef), (35, undef), (39, undef)]) ⟨e0, e3, e27, e30, e35, e39, trivial⟩]
      clear hoff hrel e0 e3 e27 e30 e35 e39
      refine st_skip_u rfl ?_
      refine st_skip_u rfl ?_
      refine st_skip rfl ?_
      refine st (v := (B true)) (rv_pick_t rfl rfl) ?_
      refine w_end ?_
      obtain rfl := Option.some.inj h
      exact ⟨rfl, _, σ16, fr_join ⟨rfl, rfl, rfl, trivial⟩, rfl, H.sel' [0] rfl rfl⟩
    ·replace h := bif_f hb15 h
     obtain ⟨x17, hx18, h'⟩ := bind_some h
     clear h
     have h := h'; clear h'
     obtain ⟨b20, o21, hi19, -⟩ := (H.ro 0 rfl).ix hx18
     have hc22 := ((H.ro 0 rfl).at hx18 hi19).snd.int
     obtain ⟨r23, hx24, h'⟩ := bind_some h
     clear h
     have h := h'; clear h'
     have hc25 := c_spec_inRange hx24
     rcases Bool.eq_false_or_eq_true (!r23) with hb26 | hb26
     ·replace h := bif_t hb26 h
      have Hs := H
      refine rg2 (σ := σ3) (Nm := Unit) 29 [5, 13] [[false, false], [true, false], [true, true]] [[(0, 0)], [(0, 0)], [(0, 0)], [(0, 0)], [(0, 0)], [(0, 1)], [(1, 1)], [(1, 1)], [(1, 1)], [(1, 1)], [(1, 1)], [(1, 1)], [(1, 1)], [(1, 2)], [(2, 2)], [(2, 2)], [(2, 2)], [(2, 2)], [(2, 2)], [(2, 2)], [(2, 2)], [(2, 2)], [(2, 2)], [(2, 2)], [(2, 2)], [(2, 2)], [(2, 2)], [(2, 2)], [(2, 2)]] 2 [fun _ => fun σm => Hp S0 σ0 σm [Ch.ro 0 (Sl alist_0 list_0 clist_0) list_0] ∧ Md (cov []) σ3 σm, fun _ => fun σm => Hp S0 σ0 σm [Ch.ro 0 (Sl alist_0 list_0 clist_0) list_0] ∧ Md (cov []) σ3 σm, fun _ => fun σm => Hp S0 σ0 σm [Ch.ro 0 (Sl alist_0 list_0 clist_0) list_0] ∧ Md (cov []) σ3 σm] [fun _ => (Sl alist_0 list_0 clist_0), fun _ => (I s2), fun _ => (pt b9 o10), fun _ => (pt b9 (o10 + 0)), fun _ => (I x6.1), fun _ => (B r12), fun _ => (B (!r12)), fun _ => (B (!r12)), fun _ => (Sl alist_0 list_0 clist_0), fun _ => (I s2), fun _ => (pt b20 o21), fun _ => (pt b20 (o21 + 1)), fun _ => (I x17.2), fun _ => (B r23), fun _ => (B (!r23)), fun _ => (B (!r23)), fun _ => (B (!r23)), fun _ => undef, fun _ => undef, fun _ => undef, fun _ => undef, fun _ => undef, fun _ => undef, fun _ => undef, fun _ => undef, fun _ => undef, fun _ => undef, fun _ => undef, fun _ => undef] () (by kernel_rfl) (by kernel_rfl) ?_ ?_ ?_
      ·intro σm m0
       exact ⟨H.grow (m0.mono fun _ h => h.elim), m0⟩
      ·refine ac rfl (by
         intro k _nm ρ σm hJ hoff hdep
         have e0 := look_off (N := 63) (hoff 0 rfl) rfl
         exact dp_v (v := (Sl alist_0 list_0 clist_0)) wn (rv_move e0) rfl hJ) ?_
       refine ac rfl (by
         intro k _nm ρ σm hJ hoff hdep
         have e3 := look_off (N := 63) (hoff 3 rfl) rfl
         exact dp_v (v := (I s2)) wn (rv_move e3) rfl hJ) ?_
       refine ac rfl (by
         intro k _nm ρ σm hJ hoff hdep
         have e11 := hdep 0 rfl rfl 11 rfl
         have e12 := hdep 1 rfl rfl 12 rfl
         exact dp_v (v := (pt b9 o10)) wn (rv_ix Try.underlying29 ti58 e11 e12 hi8) rfl hJ) ?_
       refine ac rfl (by
         intro k _nm ρ σm hJ hoff hdep
         have e13 := hdep 2 rfl rfl 13 rfl
         exact dp_v (v := (pt b9 (o10 + 0))) wn (rv_fieldAddr (off := 0) (ft := 3) Try.underlying58 rfl ti3 rfl e13) rfl hJ) ?_
       refine all_cons (by
         refine ⟨?_, ?_⟩
         ·intro _nm ρ σm hJ hoff hdep
          have e14 := hdep 3 rfl rfl 14 rfl
          obtain ⟨H, m⟩ := id hJ
          replace hc11 := (Hs.ro 0 rfl).hmd hx7 hi8 (k := 0) (by decide) hc11 m
          exact dp_v (v := (I x6.1)) wn (rv_load1 Try.underlying3 rfl e14 hc11) rfl hJ
         trivial) ?_
       refine all_cons (by
         refine ⟨?_, ?_⟩
         ·intro _nm ρ σm hJ hoff hdep
          have e15 : look 63 ρ 15 = (I x6.1) := hdep 4 rfl rfl 15 rfl
          obtain ⟨H, m⟩ := id hJ
          refine dp_cx wn (cx_call hc14 (ent_f hc14.fn (by show [look 63 ρ 15, (I 1), (I 99)] = _; rw [e15])) hn0 (show Hp S0 σ0 _ ([] ++ [Ch.ro 0 (Sl alist_0 list_0 clist_0) list_0]) from (H.sel' [0] rfl rfl))) ?_
          rintro _ σq ⟨_, ⟨rfl, rfl⟩, H2, m2⟩
          exact ⟨_, (), rfl, rfl, ⟨H2.sel' [0] rfl rfl, m.comp0 m2⟩, stab [0, 1, 2, 3, 4] (by kernel_rfl) ⟨rfl, rfl, rfl, rfl, rfl, trivial⟩⟩
         trivial) ?_
       refine ac rfl (by
         intro k _nm ρ σm hJ hoff hdep
         have e16 := hdep 5 rfl rfl 16 rfl
         exact dp_v (v := (B (!r12))) wn (rv_not e16) rfl hJ) ?_
       refine ac rfl (by
         intro k _nm ρ σm hJ hoff hdep
         have e17 := hdep 6 rfl rfl 17 rfl
         exact dp_v (v := (B (!r12))) wn (rv_move e17) rfl hJ) ?_
       refine ac rfl (by
         intro k _nm ρ σm hJ hoff hdep
         have e0 := look_off (N := 63) (hoff 0 rfl) rfl
         have e18 := hdep 7 rfl rfl 18 rfl
         exact dp_v (v := (Sl alist_0 list_0 clist_0)) (wanted_yes rfl (yv_of rfl (e18.trans (congrArg B hb15)))) (rv_move e0) rfl hJ) ?_
       refine ac rfl (by
         intro k _nm ρ σm hJ hoff hdep
         have e3 := look_off (N := 63) (hoff 3 rfl) rfl
         have e18 := hdep 7 rfl rfl 18 rfl
         exact dp_v (v := (I s2)) (wanted_yes rfl (yv_of rfl (e18.trans (congrArg B hb15)))) (rv_move e3) rfl hJ) ?_
       refine ac rfl (by
         intro k _nm ρ σm hJ hoff hdep
         have e19 := hdep 8 rfl rfl 19 rfl
         have e20 := hdep 9 rfl rfl 20 rfl
         have e18 := hdep 7 rfl rfl 18 rfl
         exact dp_v (v := (pt b20 o21)) (wanted_yes rfl (yv_of rfl (e18.trans (congrArg B hb15)))) (rv_ix Try.underlying29 ti58 e19 e20 hi19) rfl hJ) ?_
       refine ac rfl (by
         intro k _nm ρ σm hJ hoff hdep
         have e21 := hdep 10 rfl rfl 21 rfl
         have e18 := hdep 7 rfl rfl 18 rfl
         exact dp_v (v := (pt b20 (o21 + 1))) (wanted_yes rfl (yv_of rfl (e18.trans (congrArg B hb15)))) (rv_fieldAddr (off := 1) (ft := 3) Try.underlying58 rfl ti3 rfl e21) rfl hJ) ?_
       refine all_cons (by
         refine ⟨?_, ?_⟩
         ·intro _nm ρ σm hJ hoff hdep
          have e22 := hdep 11 rfl rfl 22 rfl
          have e18 := hdep 7 rfl rfl 18 rfl
          obtain ⟨H, m⟩ := id hJ
          replace hc22 := (Hs.ro 0 rfl).hmd hx18 hi19 (k := 1) (by decide) hc22 m
          exact dp_v (v := (I x17.2)) (wanted_yes rfl (yv_of rfl (e18.trans (congrArg B hb15)))) (rv_load1 Try.underlying3 rfl e22 hc22) rfl hJ
         trivial) ?_
       refine all_cons (by
         refine ⟨?_, ?_⟩
         ·intro _nm ρ σm hJ hoff hdep
          have e23 : look 63 ρ 23 = (I x17.2) := hdep 12 rfl rfl 23 rfl
          have e18 := hdep 7 rfl rfl 18 rfl
          obtain ⟨H, m⟩ := id hJ
          refine dp_cx (wanted_yes rfl (yv_of rfl (e18.trans (congrArg B hb15)))) (cx_call hc25 (ent_f hc25.fn (by show [look 63 ρ 23, (I 0), (I 1000000)] = _; rw [e23])) hn0 (show Hp S0 σ0 _ ([] ++ [Ch.ro 0 (Sl alist_0 list_0 clist_0) list_0]) from (H.sel' [0] rfl rfl))) ?_
          rintro _ σq ⟨_, ⟨rfl, rfl⟩, H2, m2⟩
          exact ⟨_, (), rfl, rfl, ⟨H2.sel' [0] rfl rfl, m.comp0 m2⟩, stab [0, 1, 2, 3, 4, 5, 6, 7, 8, 9, 10, 11, 12] (by kernel_rfl) ⟨rfl, rfl, rfl, rfl, rfl, rfl, rfl, rfl, rfl, rfl, rfl, rfl, rfl, trivial⟩⟩
         trivial) ?_
       refine ac rfl (by
         intro k _nm ρ σm hJ hoff hdep
         have e24 := hdep 13 rfl rfl 24 rfl
         have e18 := hdep 7 rfl rfl 18 rfl
         exact dp_v (v := (B (!r23))) (wanted_yes rfl (yv_of rfl (e18.trans (congrArg B hb15)))) (rv_not e24) rfl hJ) ?_
       refine ac rfl (by
         intro k _nm ρ σm hJ hoff hdep
         have e18 := hdep 7 rfl rfl 18 rfl
         have e25 := hdep 14 rfl rfl 25 rfl
         exact dp_v (v := (B (!r23))) wn (rv_pick_f (e18.trans (congrArg B hb15)) e25) rfl hJ) ?_
       refine ac rfl (by
         intro k _nm ρ σm hJ hoff hdep
         have e26 := hdep 15 rfl rfl 26 rfl
         exact dp_v (v := (B (!r23))) wn (rv_move e26) rfl hJ) ?_
       refine ac rfl (by
         intro k _nm ρ σm hJ hoff hdep
         have e27 := hdep 16 rfl rfl 27 rfl
         exact dp_skip (wanted_no rfl (yv_of rfl (e27.trans (congrArg B hb26)))) rfl hJ) ?_
       refine ac rfl (by
         intro k _nm ρ σm hJ hoff hdep
         have e27 := hdep 16 rfl rfl 27 rfl
         exact dp_skip (wanted_no rfl (yv_of rfl (e27.trans (congrArg B hb26)))) rfl hJ) ?_
       refine ac rfl (by
         intro k _nm ρ σm hJ hoff hdep
         have e27 := hdep 16 rfl rfl 27 rfl
         exact dp_skip (wanted_no rfl (yv_of rfl (e27.trans (congrArg B hb26)))) rfl hJ) ?_
       refine ac rfl (by
         intro k _nm ρ σm hJ hoff hdep
         have e30 := hdep 19 rfl rfl 30 rfl
         exact dp_skip (wanted_u rfl (yv_undef rfl e30)) rfl hJ) ?_
       refine ac rfl (by
         intro k _nm ρ σm hJ hoff hdep
         have e30 := hdep 19 rfl rfl 30 rfl
         exact dp_skip (wanted_u rfl (yv_undef rfl e30)) rfl hJ) ?_
       refine ac rfl (by
         intro k _nm ρ σm hJ hoff hdep
         have e30 := hdep 19 rfl rfl 30 rfl
         exact dp_skip (wanted_u rfl (yv_undef rfl e30)) rfl hJ) ?_
       refine ac rfl (by
         intro k _nm ρ σm hJ hoff hdep
         have e30 := hdep 19 rfl rfl 30 rfl
         exact dp_skip (wanted_u rfl (yv_undef rfl e30)) rfl hJ) ?_
       refine ac rfl (by
         intro k _nm ρ σm hJ hoff hdep
         have e30 := hdep 19 rfl rfl 30 rfl
         exact dp_skip (wanted_u rfl (yv_undef rfl e30)) rfl hJ) ?_
       refine ac rfl (by
         intro k _nm ρ σm hJ hoff hdep
         have e30 := hdep 19 rfl rfl 30 rfl
         exact dp_skip (wanted_u rfl (yv_undef rfl e30)) rfl hJ) ?_
       refine ac rfl (by
         intro k _nm ρ σm hJ hoff hdep
         have e30 := hdep 19 rfl rfl 30 rfl
         exact dp_skip (wanted_u rfl (yv_undef rfl e30)) rfl hJ) ?_
       refine ac rfl (by
         intro k _nm ρ σm hJ hoff hdep
         have e30 := hdep 19 rfl rfl 30 rfl
         exact dp_skip (wanted_u rfl (yv_undef rfl e30)) rfl hJ) ?_
       refine ac rfl (by
         intro k _nm ρ σm hJ hoff hdep
         have e30 := hdep 19 rfl rfl 30 rfl
         exact dp_skip (wanted_u rfl (yv_undef rfl e30)) rfl hJ) ?_
       exact all_nil
      ·intro _nm ρ σ27 hJ hoff hrel
       have e0 := look_off (N := 63) (hoff 0 rfl) rfl
       have e3 := look_off (N := 63) (hoff 3 rfl) rfl
       have e27 := hrel 16 rfl 27 rfl
       have e30 := hrel 19 rfl 30 rfl
       have e35 := hrel 24 rfl 35 rfl
       have e39 := hrel 28 rfl 39 rfl
       obtain ⟨H, -⟩ := (show Hp S0 σ0 σ27 [Ch.ro 0 (Sl alist_0 list_0 clist_0) list_0] ∧ Md (cov []) σ3 σ27 from hJ)
       clear hJ Hs
       rw [fr_lookL (L := [(0, (Sl alist_0 list_0 clist_0)), (3, (I s2)), (27, (B (!r23))), (30, undef), (35, undef), (39, undef)]) ⟨e0, e3, e27, e30, e35, e39, trivial⟩]
       clear hoff hrel e0 e3 e27 e30 e35 e39
       refine st_skip_u rfl ?_
       refine st_skip_u rfl ?_
       refine st_skip (congrArg some hb26) ?_
       refine st (v := (B true)) (rv_pick_t (congrArg B hb26) rfl) ?_
       refine w_end ?_
       obtain rfl := Option.some.inj h
       exact ⟨rfl, _, σ27, fr_join ⟨rfl, rfl, rfl, trivial⟩, rfl, H.sel' [0] rfl rfl⟩
     ·replace h := bif_f hb26 h
      rcases Bool.eq_false_or_eq_true (decide (0 < s2)) with hb28 | hb28
      ·replace h := bif_t hb28 h
       obtain ⟨x29, hx30, h'⟩ := bind_some h
       clear h
       have h := h'; clear h'
       obtain ⟨b32, o33, hi31, -⟩ := (H.ro 0 rfl).ix hx30
       obtain ⟨_, ⟨_, _, rfl, rfl, rfl⟩, hl34, hc35⟩ := ((H.ro 0 rfl).at hx30 hi31).cells
       obtain ⟨x36, hx37, h'⟩ := bind_some h
       clear h
       have h := h'; clear h'
       obtain ⟨b39, o40, hi38, -⟩ := (H.ro 0 rfl).ix hx37
       obtain ⟨_, ⟨_, _, rfl, rfl, rfl⟩, hl41, hc42⟩ := ((H.ro 0 rfl).at hx37 hi38).cells
       have Hs := H
       refine rg2 (σ := σ3) (Nm := Unit) 29 [5, 13] [[false, false], [true, false], [true, true]] [[(0, 0)], [(0, 0)], [(0, 0)], [(0, 0)], [(0, 0)], [(0, 1)], [(1, 1)], [(1, 1)], [(1, 1)], [(1, 1)], [(1, 1)], [(1, 1)], [(1, 1)], [(1, 2)], [(2, 2)], [(2, 2)], [(2, 2)], [(2, 2)], [(2, 2)], [(2, 2)], [(2, 2)], [(2, 2)], [(2, 2)], [(2, 2)], [(2, 2)], [(2, 2)], [(2, 2)], [(2, 2)], [(2, 2)]] 2 [fun _ => fun σm => Hp S0 σ0 σm [Ch.ro 0 (Sl alist_0 list_0 clist_0) list_0] ∧ Md (cov []) σ3 σm, fun _ => fun σm => Hp S0 σ0 σm [Ch.ro 0 (Sl alist_0 list_0 clist_0) list_0] ∧ Md (cov []) σ3 σm, fun _ => fun σm => Hp S0 σ0 σm [Ch.ro 0 (Sl alist_0 list_0 clist_0) list_0] ∧ Md (cov []) σ3 σm] [fun _ => (Sl alist_0 list_0 clist_0), fun _ => (I s2), fun _ => (pt b9 o10), fun _ => (pt b9 (o10 + 0)), fun _ => (I x6.1), fun _ => (B r12), fun _ => (B (!r12)), fun _ => (B (!r12)), fun _ => (Sl alist_0 list_0 clist_0), fun _ => (I s2), fun _ => (pt b20 o21), fun _ => (pt b20 (o21 + 1)), fun _ => (I x17.2), fun _ => (B r23), fun _ => (B (!r23)), fun _ => (B (!r23)), fun _ => (B (!r23)), fun _ => (I s2), fun _ => (B (decide (0 < s2))), fun _ => (B (decide (0 < s2))), fun _ => (Sl alist_0 list_0 clist_0), fun _ => (I s2), fun _ => (I (w64 (s2 - 1))), fun _ => (pt b32 o33), fun _ => (.agg #[(I x29.1), (I x29.2)]), fun _ => (Sl alist_0 list_0 clist_0), fun _ => (I s2), fun _ => (pt b39 o40), fun _ => (.agg #[(I x36.1), (I x36.2)])] () (by kernel_rfl) (by kernel_rfl) ?_ ?_ ?_
       ·intro σm m0
        exact ⟨H.grow (m0.mono fun _ h => h.elim), m0⟩
       ·refine ac rfl (by
          intro k _nm ρ σm hJ hoff hdep
          have e0 := look_off (N := 63) (hoff 0 rfl) rfl
          exact dp_v (v := (Sl alist_0 list_0 clist_0)) wn (rv_move e0) rfl hJ) ?_
        refine ac rfl (by
          intro k _nm ρ σm hJ hoff hdep
          have e3 := look_off (N := 63) (hoff 3 rfl) rfl
          exact dp_v (v := (I s2)) wn (rv_move e3) rfl hJ) ?_
        refine ac rfl (by
          intro k _nm ρ σm hJ hoff hdep
          have e11 := hdep 0 rfl rfl 11 rfl
          have e12 := hdep 1 rfl rfl 12 rfl
          exact dp_v (v := (pt b9 o10)) wn (rv_ix Try.underlying29 ti58 e11 e12 hi8) rfl hJ) ?_
        refine ac rfl (by
          intro k _nm ρ σm hJ hoff hdep
          have e13 := hdep 2 rfl rfl 13 rfl
          exact dp_v (v := (pt b9 (o10 + 0))) wn (rv_fieldAddr (off := 0) (ft := 3) Try.underlying58 rfl ti3 rfl e13) rfl hJ) ?_
        refine all_cons (by
          refine ⟨?_, ?_⟩
          ·intro _nm ρ σm hJ hoff hdep
           have e14 := hdep 3 rfl rfl 14 rfl
           obtain ⟨H, m⟩ := id hJ
           replace hc11 := (Hs.ro 0 rfl).hmd hx7 hi8 (k := 0) (by decide) hc11 m
           exact dp_v (v := (I x6.1)) wn (rv_load1 Try.underlying3 rfl e14 hc11) rfl hJ
          trivial) ?_
        refine all_cons (by
          refine ⟨?_, ?_⟩
          ·intro _nm ρ σm hJ hoff hdep
           have e15 : look 63 ρ 15 = (I x6.1) := hdep 4 rfl rfl 15 rfl
           obtain ⟨H, m⟩ := id hJ
           refine dp_cx wn (cx_call hc14 (ent_f hc14.fn (by show [look 63 ρ 15, (I 1), (I 99)] = _; rw [e15])) hn0 (show Hp S0 σ0 _ ([] ++ [Ch.ro 0 (Sl alist_0 list_0 clist_0) list_0]) from (H.sel' [0] rfl rfl))) ?_
           rintro _ σq ⟨_, ⟨rfl, rfl⟩, H2, m2⟩
           exact ⟨_, (), rfl, rfl, ⟨H2.sel' [0] rfl rfl, m.comp0 m2⟩, stab [0, 1, 2, 3, 4] (by kernel_rfl) ⟨rfl, rfl, rfl, rfl, rfl, trivial⟩⟩
          trivial) ?_
        refine ac rfl (by
          intro k _nm ρ σm hJ hoff hdep
          have e16 := hdep 5 rfl rfl 16 rfl
          exact dp_v (v := (B (!r12))) wn (rv_not e16) rfl hJ) ?_
        refine ac rfl (by
          intro k _nm ρ σm hJ hoff hdep
          have e17 := hdep 6 rfl rfl 17 rfl
          exact dp_v (v := (B (!r12))) wn (rv_move e17) rfl hJ) ?_
        refine ac rfl (by
          intro k _nm ρ σm hJ hoff hdep
          have e0 := look_off (N := 63) (hoff 0 rfl) rfl
          have e18 := hdep 7 rfl rfl 18 rfl
          exact dp_v (v := (Sl alist_0 list_0 clist_0)) (wanted_yes rfl (yv_of rfl (e18.trans (congrArg B hb15)))) (rv_move e0) rfl hJ) ?_
        refine ac rfl (by
          intro k _nm ρ σm hJ hoff hdep
          have e3 := look_off (N := 63) (hoff 3 rfl) rfl
          have e18 := hdep 7 rfl rfl 18 rfl
          exact dp_v (v := (I s2)) (wanted_yes rfl (yv_of rfl (e18.trans (congrArg B hb15)))) (rv_move e3) rfl hJ) ?_
        refine ac rfl (by
          intro k _nm ρ σm hJ hoff hdep
          have e19 := hdep 8 rfl rfl 19 rfl
          have e20 := hdep 9 rfl rfl 20 rfl
          have e18 := hdep 7 rfl rfl 18 rfl
          exact dp_v (v := (pt b20 o21)) (wanted_yes rfl (yv_of rfl (e18.trans (congrArg B hb15)))) (rv_ix Try.underlying29 ti58 e19 e20 hi19) rfl hJ) ?_
        refine ac rfl (by
          intro k _nm ρ σm hJ hoff hdep
          have e21 := hdep 10 rfl rfl 21 rfl
          have e18 := hdep 7 rfl rfl 18 rfl
          exact dp_v (v := (pt b20 (o21 + 1))) (wanted_yes rfl (yv_of rfl (e18.trans (congrArg B hb15)))) (rv_fieldAddr (off := 1) (ft := 3) Try.underlying58 rfl ti3 rfl e21) rfl hJ) ?_
        refine all_cons (by
          refine ⟨?_, ?_⟩
          ·intro _nm ρ σm hJ hoff hdep
           have e22 := hdep 11 rfl rfl 22 rfl
           have e18 := hdep 7 rfl rfl 18 rfl
           obtain ⟨H, m⟩ := id hJ
           replace hc22 := (Hs.ro 0 rfl).hmd hx18 hi19 (k := 1) (by decide) hc22 m
           exact dp_v (v := (I x17.2)) (wanted_yes rfl (yv_of rfl (e18.trans (congrArg B hb15)))) (rv_load1 Try.underlying3 rfl e22 hc22) rfl hJ
          trivial) ?_
        refine all_cons (by
          refine ⟨?_, ?_⟩
          ·intro _nm ρ σm hJ hoff hdep
           have e23 : look 63 ρ 23 = (I x17.2) := hdep 12 rfl rfl 23 rfl
           have e18 := hdep 7 rfl rfl 18 rfl
           obtain ⟨H, m⟩ := id hJ
           refine dp_cx (wanted_yes rfl (yv_of rfl (e18.trans (congrArg B hb15)))) (cx_call hc25 (ent_f hc25.fn (by show [look 63 ρ 23, (I 0), (I 1000000)] = _; rw [e23])) hn0 (show Hp S0 σ0 _ ([] ++ [Ch.ro 0 (Sl alist_0 list_0 clist_0) list_0]) from (H.sel' [0] rfl rfl))) ?_
           rintro _ σq ⟨_, ⟨rfl, rfl⟩, H2, m2⟩
           exact ⟨_, (), rfl, rfl, ⟨H2.sel' [0] rfl rfl, m.comp0 m2⟩, stab [0, 1, 2, 3, 4, 5, 6, 7, 8, 9, 10, 11, 12] (by kernel_rfl) ⟨rfl, rfl, rfl, rfl, rfl, rfl, rfl, rfl, rfl, rfl, rfl, rfl, rfl, trivial⟩⟩
          trivial) ?_
        refine ac rfl (by
          intro k _nm ρ σm hJ hoff hdep
          have e24 := hdep 13 rfl rfl 24 rfl
          have e18 := hdep 7 rfl rfl 18 rfl
          exact dp_v (v := (B (!r23))) (wanted_yes rfl (yv_of rfl (e18.trans (congrArg B hb15)))) (rv_not e24) rfl hJ) ?_
        refine ac rfl (by
          intro k _nm ρ σm hJ hoff hdep
          have e18 := hdep 7 rfl rfl 18 rfl
          have e25 := hdep 14 rfl rfl 25 rfl
          exact dp_v (v := (B (!r23))) wn (rv_pick_f (e18.trans (congrArg B hb15)) e25) rfl hJ) ?_
        refine ac rfl (by
          intro k _nm ρ σm hJ hoff hdep
          have e26 := hdep 15 rfl rfl 26 rfl
          exact dp_v (v := (B (!r23))) wn (rv_move e26) rfl hJ) ?_
        refine ac rfl (by
          intro k _nm ρ σm hJ hoff hdep
          have e3 := look_off (N := 63) (hoff 3 rfl) rfl
          have e27 := hdep 16 rfl rfl 27 rfl
          exact dp_v (v := (I s2)) (wanted_yes rfl (yv_of rfl (e27.trans (congrArg B hb26)))) (rv_move e3) rfl hJ) ?_
        refine ac rfl (by
          intro k _nm ρ σm hJ hoff hdep
          have e28 := hdep 17 rfl rfl 28 rfl
          have e27 := hdep 16 rfl rfl 27 rfl
          exact dp_v (v := (B (decide (0 < s2)))) (wanted_yes rfl (yv_of rfl (e27.trans (congrArg B hb26)))) (rv_gtr (a := s2) (b := 0) e28 rfl) rfl hJ) ?_
        refine ac rfl (by
          intro k _nm ρ σm hJ hoff hdep
          have e29 := hdep 18 rfl rfl 29 rfl
          have e27 := hdep 16 rfl rfl 27 rfl
          exact dp_v (v := (B (decide (0 < s2)))) (wanted_yes rfl (yv_of rfl (e27.trans (congrArg B hb26)))) (rv_move e29) rfl hJ) ?_
        refine ac rfl (by
          intro k _nm ρ σm hJ hoff hdep
          have e0 := look_off (N := 63) (hoff 0 rfl) rfl
          have e30 := hdep 19 rfl rfl 30 rfl
          exact dp_v (v := (Sl alist_0 list_0 clist_0)) (wanted_yes rfl (yv_of rfl (e30.trans (congrArg B hb28)))) (rv_move e0) rfl hJ) ?_
        refine ac rfl (by
          intro k _nm ρ σm hJ hoff hdep
          have e3 := look_off (N := 63) (hoff 3 rfl) rfl
          have e30 := hdep 19 rfl rfl 30 rfl
          exact dp_v (v := (I s2)) (wanted_yes rfl (yv_of rfl (e30.trans (congrArg B hb28)))) (rv_move e3) rfl hJ) ?_
        refine ac rfl (by
          intro k _nm ρ σm hJ hoff hdep
          have e32 := hdep 21 rfl rfl 32 rfl
          have e30 := hdep 19 rfl rfl 30 rfl
          exact dp_v (v := (I (w64 (s2 - 1)))) (wanted_yes rfl (yv_of rfl (e30.trans (congrArg B hb28)))) (rv_sub (a := s2) (b := 1) e32 rfl) rfl hJ) ?_
        refine ac rfl (by
          intro k _nm ρ σm hJ hoff hdep
          have e31 := hdep 20 rfl rfl 31 rfl
          have e33 := hdep 22 rfl rfl 33 rfl
          have e30 := hdep 19 rfl rfl 30 rfl
          exact dp_v (v := (pt b32 o33)) (wanted_yes rfl (yv_of rfl (e30.trans (congrArg B hb28)))) (rv_ix Try.underlying29 ti58 e31 e33 hi31) rfl hJ) ?_
        refine all_cons (by
          refine ⟨?_, ?_⟩
          ·intro _nm ρ σm hJ hoff hdep
           have e34 := hdep 23 rfl rfl 34 rfl
           have e30 := hdep 19 rfl rfl 30 rfl
           obtain ⟨H, m⟩ := id hJ
           replace hc35 := fun j hj => (Hs.ro 0 rfl).hmd hx30 hi31 (k := j) (Nat.lt_of_lt_of_eq hj hl34) (hc35 j hj) m
           exact dp_v (v := (.agg #[(I x29.1), (I x29.2)])) (wanted_yes rfl (yv_of rfl (e30.trans (congrArg B hb28)))) (rv_load Try.underlying58 rfl ti58 e34 hl34 hc35) rfl hJ
          trivial) ?_
        refine ac rfl (by
          intro k _nm ρ σm hJ hoff hdep
          have e0 := look_off (N := 63) (hoff 0 rfl) rfl
          have e30 := hdep 19 rfl rfl 30 rfl
          exact dp_v (v := (Sl alist_0 list_0 clist_0)) (wanted_yes rfl (yv_of rfl (e30.trans (congrArg B hb28)))) (rv_move e0) rfl hJ) ?_
        refine ac rfl (by
          intro k _nm ρ σm hJ hoff hdep
          have e3 := look_off (N := 63) (hoff 3 rfl) rfl
          have e30 := hdep 19 rfl rfl 30 rfl
          exact dp_v (v := (I s2)) (wanted_yes rfl (yv_of rfl (e30.trans (congrArg B hb28)))) (rv_move e3) rfl hJ) ?_
        refine ac rfl (by
          intro k _nm ρ σm hJ hoff hdep
          have e36 := hdep 25 rfl rfl 36 rfl
          have e37 := hdep 26 rfl rfl 37 rfl
          have e30 := hdep 19 rfl rfl 30 rfl
          exact dp_v (v := (pt b39 o40)) (wanted_yes rfl (yv_of rfl (e30.trans (congrArg B hb28)))) (rv_ix Try.underlying29 ti58 e36 e37 hi38) rfl hJ) ?_
        refine all_cons (by
          refine ⟨?_, ?_⟩
          ·intro _nm ρ σm hJ hoff hdep
           have e38 := hdep 27 rfl rfl 38 rfl
           have e30 := hdep 19 rfl rfl 30 rfl
           obtain ⟨H, m⟩ := id hJ
           replace hc42 := fun j hj => (Hs.ro 0 rfl).hmd hx37 hi38 (k := j) (Nat.lt_of_lt_of_eq hj hl41) (hc42 j hj) m
           exact dp_v (v := (.agg #[(I x36.1), (I x36.2)])) (wanted_yes rfl (yv_of rfl (e30.trans (congrArg B hb28)))) (rv_load Try.underlying58 rfl ti58 e38 hl41 hc42) rfl hJ
          trivial) ?_
        exact all_nil
       ·intro _nm ρ σ43 hJ hoff hrel
        have e0 := look_off (N := 63) (hoff 0 rfl) rfl
        have e3 := look_off (N := 63) (hoff 3 rfl) rfl
        have e27 := hrel 16 rfl 27 rfl
        have e30 := hrel 19 rfl 30 rfl
        have e35 := hrel 24 rfl 35 rfl
        have e39 := hrel 28 rfl 39 rfl
        obtain ⟨H, -⟩ := (show Hp S0 σ0 σ43 [Ch.ro 0 (Sl alist_0 list_0 clist_0) list_0] ∧ Md (cov []) σ3 σ43 from hJ)
        clear hJ Hs
        rw [fr_lookL (L := [(0, (Sl alist_0 list_0 clist_0)), (3, (I s2)), (27, (B (!r23))), (30, (B (decide (0 < s2)))), (35, (.agg #[(I x29.1), (I x29.2)])), (39, (.agg #[(I x36.1), (I x36.2)]))]) ⟨e0, e3, e27, e30, e35, e39, trivial⟩]
        clear hoff hrel e0 e3 e27 e30 e35 e39
        obtain ⟨r44, hx45, h'⟩ := bind_some h
        clear h
        have h := h'; clear h'
        have hc46 := c_spec_nearer hx45
        refine st_call (cx_call hc46 (ent_f hc46.fn rfl) hn0 (show Hp S0 σ0 _ ([] ++ [Ch.ro 0 (Sl alist_0 list_0 clist_0) list_0]) from (H.sel' [0] rfl rfl))) (wanted_yes rfl (by exact (congrArg some hb28))) ?_
        rintro _ σ47 ⟨_, ⟨rfl, rfl⟩, H, -⟩
        replace H : Hp S0 σ0 σ47 [Ch.ro 0 (Sl alist_0 list_0 clist_0) list_0] := H
        refine st_g (v := (B (!r44))) (congrArg some hb28) (rv_not rfl) ?_
        refine st_g (v := (B (!r44))) (congrArg some hb26) (rv_pick_t (congrArg B hb28) rfl) ?_
        refine st (v := (B (!r44))) (rv_pick_f (congrArg B hb26) rfl) ?_
        refine w_end ?_
        obtain rfl := Option.some.inj h
        exact ⟨rfl, _, σ47, fr_join ⟨rfl, rfl, rfl, trivial⟩, rfl, H.sel' [0] rfl rfl⟩
      ·replace h := bif_f hb28 h
       have Hs := H
       refine rg2 (σ := σ3) (Nm := Unit) 29 [5, 13] [[false, false], [true, false], [true, true]] [[(0, 0)], [(0, 0)], [(0, 0)], [(0, 0)], [(0, 0)], [(0, 1)], [(1, 1)], [(1, 1)], [(1, 1)], [(1, 1)], [(1, 1)], [(1, 1)], [(1, 1)], [(1, 2)], [(2, 2)], [(2, 2)], [(2, 2)], [(2, 2)], [(2, 2)], [(2, 2)], [(2, 2)], [(2, 2)], [(2, 2)], [(2, 2)], [(2, 2)], [(2, 2)], [(2, 2)], [(2, 2)], [(2, 2)]] 2 [fun _ => fun σm => Hp S0 σ0 σm [Ch.ro 0 (Sl alist_0 list_0 clist_0) list_0] ∧ Md (cov []) σ3 σm, fun _ => fun σm => Hp S0 σ0 σm [Ch.ro 0 (Sl alist_0 list_0 clist_0) list_0] ∧ Md (cov []) σ3 σm, fun _ => fun σm => Hp S0 σ0 σm [Ch.ro 0 (Sl alist_0 list_0 clist_0) list_0] ∧ Md (cov []) σ3 σm] [fun _ => (Sl alist_0 list_0 clist_0), fun _ => (I s2), fun _ => (pt b9 o10), fun _ => (pt b9 (o10 + 0)), fun _ => (I x6.1), fun _ => (B r12), fun _ => (B (!r12)), fun _ => (B (!r12)), fun _ => (Sl alist_0 list_0 clist_0), fun _ => (I s2), fun _ => (pt b20 o21), fun _ => (pt b20 (o21 + 1)), fun _ => (I x17.2), fun _ => (B r23), fun _ => (B (!r23)), fun _ => (B (!r23)), fun _ => (B (!r23)), fun _ => (I s2), fun _ => (B (decide (0 < s2))), fun _ => (B (decide (0 < s2))), fun _ => undef, fun _ => undef, fun _ => undef, fun _ => undef, fun _ => undef, fun _ => undef, fun _ => undef, fun _ => undef, fun _ => undef] () (by kernel_rfl) (by kernel_rfl) ?_ ?_ ?_
       ·intro σm m0
        exact ⟨H.grow (m0.mono fun _ h => h.elim), m0⟩
       ·refine ac rfl (by
          intro k _nm ρ σm hJ hoff hdep
          have e0 := look_off (N := 63) (hoff 0 rfl) rfl
          exact dp_v (v := (Sl alist_0 list_0 clist_0)) wn (rv_move e0) rfl hJ) ?_
        refine ac rfl (by
          intro k _nm ρ σm hJ hoff hdep
          have e3 := look_off (N := 63) (hoff 3 rfl) rfl
          exact dp_v (v := (I s2)) wn (rv_move e3) rfl hJ) ?_
        refine ac rfl (by
          intro k _nm ρ σm hJ hoff hdep
          have e11 := hdep 0 rfl rfl 11 rfl
          have e12 := hdep 1 rfl rfl 12 rfl
          exact dp_v (v := (pt b9 o10)) wn (rv_ix Try.underlying29 ti58 e11 e12 hi8) rfl hJ) ?_
        refine ac rfl (by
          intro k _nm ρ σm hJ hoff hdep
          have e13 := hdep 2 rfl rfl 13 rfl
          exact dp_v (v := (pt b9 (o10 + 0))) wn (rv_fieldAddr (off := 0) (ft := 3) Try.underlying58 rfl ti3 rfl e13) rfl hJ) ?_
        refine all_cons (by
          refine ⟨?_, ?_⟩
          ·intro _nm ρ σm hJ hoff hdep
           have e14 := hdep 3 rfl rfl 14 rfl
           obtain ⟨H, m⟩ := id hJ
           replace hc11 := (Hs.ro 0 rfl).hmd hx7 hi8 (k := 0) (by decide) hc11 m
           exact dp_v (v := (I x6.1)) wn (rv_load1 Try.underlying3 rfl e14 hc11) rfl hJ
          trivial) ?_
        refine all_cons (by
          refine ⟨?_, ?_⟩
          ·intro _nm ρ σm hJ hoff hdep
           have e15 : look 63 ρ 15 = (I x6.1) := hdep 4 rfl rfl 15 rfl
           obtain ⟨H, m⟩ := id hJ
           refine dp_cx wn (cx_call hc14 (ent_f hc14.fn (by show [look 63 ρ 15, (I 1), (I 99)] = _; rw [e15])) hn0 (show Hp S0 σ0 _ ([] ++ [Ch.ro 0 (Sl alist_0 list_0 clist_0) list_0]) from (H.sel' [0] rfl rfl))) ?_
           rintro _ σq ⟨_, ⟨rfl, rfl⟩, H2, m2⟩
           exact ⟨_, (), rfl, rfl, ⟨H2.sel' [0] rfl rfl, m.comp0 m2⟩, stab [0, 1, 2, 3, 4] (by kernel_rfl) ⟨rfl, rfl, rfl, rfl, rfl, trivial⟩⟩
          trivial) ?_
        refine ac rfl (by
          intro k _nm ρ σm hJ hoff hdep
          have e16 := hdep 5 rfl rfl 16 rfl
          exact dp_v (v := (B (!r12))) wn (rv_not e16) rfl hJ) ?_
        refine ac rfl (by
          intro k _nm ρ σm hJ hoff hdep
          have e17 := hdep 6 rfl rfl 17 rfl
          exact dp_v (v := (B (!r12))) wn (rv_move e17) rfl hJ) ?_
        refine ac rfl (by
          intro k _nm ρ σm hJ hoff hdep
          have e0 := look_off (N := 63) (hoff 0 rfl) rfl
          have e18 := hdep 7 rfl rfl 18 rfl
          exact dp_v (v := (Sl alist_0 list_0 clist_0)) (wanted_yes rfl (yv_of rfl (e18.trans (congrArg B hb15)))) (rv_move e0) rfl hJ) ?_
        refine ac rfl (by
          intro k _nm ρ σm hJ hoff hdep
          have e3 := look_off (N := 63) (hoff 3 rfl) rfl
          have e18 := hdep 7 rfl rfl 18 rfl
          exact dp_v (v := (I s2)) (wanted_yes rfl (yv_of rfl (e18.trans (congrArg B hb15)))) (rv_move e3) rfl hJ) ?_
        refine ac rfl (by
          intro k _nm ρ σm hJ hoff hdep
          have e19 := hdep 8 rfl rfl 19 rfl
          have e20 := hdep 9 rfl rfl 20 rfl
          have e18 := hdep 7 rfl rfl 18 rfl
          exact dp_v (v := (pt b20 o21)) (wanted_yes rfl (yv_of rfl (e18.trans (congrArg B hb15)))) (rv_ix Try.underlying29 ti58 e19 e20 hi19) rfl hJ) ?_
        refine ac rfl (by
          intro k _nm ρ σm hJ hoff hdep
          have e21 := hdep 10 rfl rfl 21 rfl
          have e18 := hdep 7 rfl rfl 18 rfl
          exact dp_v (v := (pt b20 (o21 + 1))) (wanted_yes rfl (yv_of rfl (e18.trans (congrArg B hb15)))) (rv_fieldAddr (off := 1) (ft := 3) Try.underlying58 rfl ti3 rfl e21) rfl hJ) ?_
        refine all_cons (by
          refine ⟨?_, ?_⟩
          ·intro _nm ρ σm hJ hoff hdep
           have e22 := hdep 11 rfl rfl 22 rfl
           have e18 := hdep 7 rfl rfl 18 rfl
           obtain ⟨H, m⟩ := id hJ
           replace hc22 := (Hs.ro 0 rfl).hmd hx18 hi19 (k := 1) (by decide) hc22 m
           exact dp_v (v := (I x17.2)) (wanted_yes rfl (yv_of rfl (e18.trans (congrArg B hb15)))) (rv_load1 Try.underlying3 rfl e22 hc22) rfl hJ
          trivial) ?_
        refine all_cons (by
          refine ⟨?_, ?_⟩
          ·intro _nm ρ σm hJ hoff hdep
           have e23 : look 63 ρ 23 = (I x17.2) := hdep 12 rfl rfl 23 rfl
           have e18 := hdep 7 rfl rfl 18 rfl
           obtain ⟨H, m⟩ := id hJ
           refine dp_cx (wanted_yes rfl (yv_of rfl (e18.trans (congrArg B hb15)))) (cx_call hc25 (ent_f hc25.fn (by show [look 63 ρ 23, (I 0), (I 1000000)] = _; rw [e23])) hn0 (show Hp S0 σ0 _ ([] ++ [Ch.ro 0 (Sl alist_0 list_0 clist_0) list_0]) from (H.sel' [0] rfl rfl))) ?_
           rintro _ σq ⟨_, ⟨rfl, rfl⟩, H2, m2⟩
           exact ⟨_, (), rfl, rfl, ⟨H2.sel' [0] rfl rfl, m.comp0 m2⟩, stab [0, 1, 2, 3, 4, 5, 6, 7, 8, 9, 10, 11, 12] (by kernel_rfl) ⟨rfl, rfl, rfl, rfl, rfl, rfl, rfl, rfl, rfl, rfl, rfl, rfl, rfl, trivial⟩⟩
          trivial) ?_
        refine ac rfl (by
          intro k _nm ρ σm hJ hoff hdep
          have e24 := hdep 13 rfl rfl 24 rfl
          have e18 := hdep 7 rfl rfl 18 rfl
          exact dp_v (v := (B (!r23))) (wanted_yes rfl (yv_of rfl (e18.trans (congrArg B hb15)))) (rv_not e24) rfl hJ) ?_
        refine ac rfl (by
          intro k _nm ρ σm hJ hoff hdep
          have e18 := hdep 7 rfl rfl 18 rfl
          have e25 := hdep 14 rfl rfl 25 rfl
          exact dp_v (v := (B (!r23))) wn (rv_pick_f (e18.trans (congrArg B hb15)) e25) rfl hJ) ?_
        refine ac rfl (by
          intro k _nm ρ σm hJ hoff hdep
          have e26 := hdep 15 rfl rfl 26 rfl
          exact dp_v (v := (B (!r23))) wn (rv_move e26) rfl hJ) ?_
        refine ac rfl (by
          intro k _nm ρ σm hJ hoff hdep
          have e3 := look_off (N := 63) (hoff 3 rfl) rfl
          have e27 := hdep 16 rfl rfl 27 rfl
          exact dp_v (v := (I s2)) (wanted_yes rfl (yv_of rfl (e27.trans (congrArg B hb26)))) (rv_move e3) rfl hJ) ?_
        refine ac rfl (by
          intro k _nm ρ σm hJ hoff hdep
          have e28 := hdep 17 rfl rfl 28 rfl
          have e27 := hdep 16 rfl rfl 27 rfl
          exact dp_v (v := (B (decide (0 < s2)))) (wanted_yes rfl (yv_of rfl (e27.trans (congrArg B hb26)))) (rv_gtr (a := s2) (b := 0) e28 rfl) rfl hJ) ?_
        refine ac rfl (by
          intro k _nm ρ σm hJ hoff hdep
          have e29 := hdep 18 rfl rfl 29 rfl
          have e27 := hdep 16 rfl rfl 27 rfl
          exact dp_v (v := (B (decide (0 < s2)))) (wanted_yes rfl (yv_of rfl (e27.trans (congrArg B hb26)))) (rv_move e29) rfl hJ) ?_
        refine ac rfl (by
          intro k _nm ρ σm hJ hoff hdep
          have e30 := hdep 19 rfl rfl 30 rfl
          exact dp_skip (wanted_no rfl (yv_of rfl (e30.trans (congrArg B hb28)))) rfl hJ) ?_
        refine ac rfl (by
          intro k _nm ρ σm hJ hoff hdep
          have e30 := hdep 19 rfl rfl 30 rfl
          exact dp_skip (wanted_no rfl (yv_of rfl (e30.trans (congrArg B hb28)))) rfl hJ) ?_
        refine ac rfl (by
          intro k _nm ρ σm hJ hoff hdep
          have e30 := hdep 19 rfl rfl 30 rfl
          exact dp_skip (wanted_no rfl (yv_of rfl (e30.trans (congrArg B hb28)))) rfl hJ) ?_
        refine ac rfl (by
          intro k _nm ρ σm hJ hoff hdep
          have e30 := hdep 19 rfl rfl 30 rfl
          exact dp_skip (wanted_no rfl (yv_of rfl (e30.trans (congrArg B hb28)))) rfl hJ) ?_
        refine ac rfl (by
          intro k _nm ρ σm hJ hoff hdep
          have e30 := hdep 19 rfl rfl 30 rfl
          exact dp_skip (wanted_no rfl (yv_of rfl (e30.trans (congrArg B hb28)))) rfl hJ) ?_
        refine ac rfl (by
          intro k _nm ρ σm hJ hoff hdep
          have e30 := hdep 19 rfl rfl 30 rfl
          exact dp_skip (wanted_no rfl (yv_of rfl (e30.trans (congrArg B hb28)))) rfl hJ) ?_
        refine ac rfl (by
          intro k _nm ρ σm hJ hoff hdep
          have e30 := hdep 19 rfl rfl 30 rfl
          exact dp_skip (wanted_no rfl (yv_of rfl (e30.trans (congrArg B hb28)))) rfl hJ) ?_
        refine ac rfl (by
          intro k _nm ρ σm hJ hoff hdep
          have e30 := hdep 19 rfl rfl 30 rfl
          exact dp_skip (wanted_no rfl (yv_of rfl (e30.trans (congrArg B hb28)))) rfl hJ) ?_
        refine ac rfl (by
          intro k _nm ρ σm hJ hoff hdep
          have e30 := hdep 19 rfl rfl 30 rfl
          exact dp_skip (wanted_no rfl (yv_of rfl (e30.trans (congrArg B hb28)))) rfl hJ) ?_
        exact all_nil
       ·intro _nm ρ σ48 hJ hoff hrel
        have e0 := look_off (N := 63) (hoff 0 rfl) rfl
        have e3 := look_off (N := 63) (hoff 3 rfl) rfl
        have e27 := hrel 16 rfl 27 rfl
        have e30 := hrel 19 rfl 30 rfl
        have e35 := hrel 24 rfl 35 rfl
        have e39 := hrel 28 rfl 39 rfl
        obtain ⟨H, -⟩ := (show Hp S0 σ0 σ48 [Ch.ro 0 (Sl alist_0 list_0 clist_0) list_0] ∧ Md (cov []) σ3 σ48 from hJ)
        clear hJ Hs
        rw [fr_lookL (L := [(0, (Sl alist_0 list_0 clist_0)), (3, (I s2)), (27, (B (!r23))), (30, (B (decide (0 < s2)))), (35, undef), (39, undef)]) ⟨e0, e3, e27, e30, e35, e39, trivial⟩]
        clear hoff hrel e0 e3 e27 e30 e35 e39
        refine st_skip (congrArg some hb28) ?_
        refine st_skip (congrArg some hb28) ?_
        refine st_g (v := (B false)) (congrArg some hb26) (rv_pick_f (congrArg B hb28) rfl) ?_
        refine st (v := (B false)) (rv_pick_f (congrArg B hb26) rfl) ?_
        refine w_end ?_
        obtain rfl := Option.some.inj h
        exact ⟨rfl, _, σ48, fr_join ⟨rfl, rfl, rfl, trivial⟩, rfl, H.sel' [0] rfl rfl⟩
   ·clear hj
    have h := h'
    clear h' H
    rintro e a w ⟨rfl, ρ, σ49, rfl, rfl, H⟩
    refine q_then ?_
    refine cd_cond o5 rfl (fun hb50 => ?_) (fun hb50 => ?_)
    ·replace h := bif_t hb50 h
     refine c_seq ?_
     refine rg ?_
     refine st (v := (B false)) (rv_assign rfl) ?_
     refine w_end ?_
     refine q_then ?_
     refine c_ret ?_
     refine q_then_r ?_
     refine q_blk_r ?_
     refine q_then_r ?_
     refine q_then_r ?_
     refine q_blk_r ?_
     obtain rfl := Option.some.inj h
     obtain rfl := hres _ rfl
     exact .inr (⟨_, rfl, rfl, _, σ49, fr_join ⟨rfl, trivial⟩, rfl, H.sel' [] rfl rfl⟩)
    ·replace h := bif_f hb50 h
     refine c_skip ?_
     refine q_then ?_
     refine c_seq ?_
     refine rg ?_
     refine st (v := (I 0)) (rv_assign rfl) ?_
     refine w_end ?_
     refine q_then ?_
     obtain ⟨o51, hj, h'⟩ := bind_some h
     clear h
     refine c_cut (fun e a w => (∃ t, o51 = (.inl t) ∧ e = .normal ∧ ∃ (ρ : Nat → Value) (σ : St), a = fr 63 (updL ρ [(0, (Sl alist_0 list_0 clist_0)), (3, (I s2))]) ∧ w = σ.w ∧ Hp S0 σ0 σ [Ch.ro 0 (Sl alist_0 list_0 clist_0) list_0]) ∨ (∃ t, o51 = (.inr t) ∧ e = .ret ∧ ∃ (ρ : Nat → Value) (σ : St), a = fr 63 (updL ρ [(2, (B t))]) ∧ w = σ.w ∧ Hp S0 σ0 σ [])) ?_ ?_
     ·clear h'
      rename _ = some o51 => h
      refine c_blk ?_
      refine wp_loopM _ h (fun s52 a w => ∃ (ρ : Nat → Value) (σ : St), a = fr 63 (updL ρ [(0, (Sl alist_0 list_0 clist_0)), (3, (I s2)), (4, (I s52))]) ∧ w = σ.w ∧ Hp S0 σ0 σ [Ch.ro 0 (Sl alist_0 list_0 clist_0) list_0]) ⟨_, σ49, fr_join ⟨rfl, rfl, rfl, trivial⟩, rfl, H.sel' [0] rfl rfl⟩ ?_
      clear h H
      rintro s52 a w o ⟨ρ, σ53, rfl, rfl, H⟩ h hres
      refine c_seq ?_
      refine c_seq ?_
      refine rg ?_
      refine st (v := (I s52)) (rv_move rfl) ?_
      refine st (v := (I s2)) (rv_move rfl) ?_
      refine st (v := (B (decide (s52 < s2)))) (rv_lss (a := s52) (b := s2) rfl rfl) ?_
      refine w_end ?_
      refine q_then ?_
      refine cd_cond (decide (s52 < s2)) rfl (fun hb54 => ?_) (fun hb54 => ?_)
      ·replace h := bif_t hb54 h
       refine c_skip ?_
       refine q_then ?_
       refine c_seq ?_
       refine c_blk ?_
       refine c_seq ?_
       refine rgP (σ := σ53) 10 (by kernel_rfl) (by kernel_rfl) (by kernel_rfl) ?_
       refine sq (v := (Sl alist_0 list_0 clist_0)) (rv_move rfl) ?_
       refine sq (v := (I s52)) (rv_move rfl) ?_
       obtain ⟨x55, hx56, h'⟩ := bind_some h
       clear h
       have h := h'; clear h'
       obtain ⟨b58, o59, hi57, -⟩ := (H.ro 0 rfl).ix hx56
       refine sq (v := (pt b58 o59)) (rv_ix Try.underlying29 ti58 rfl rfl hi57) ?_
       refine sq (v := (pt b58 (o59 + 0))) (rv_fieldAddr (off := 0) (ft := 3) Try.underlying58 rfl ti3 rfl rfl) ?_
       have hc60 := ((H.ro 0 rfl).at hx56 hi57).fst.int
       refine sq (v := (I x55.1)) (rv_load1 Try.underlying3 rfl rfl hc60) ?_
       refine sq (v := (Sl alist_0 list_0 clist_0)) (rv_move rfl) ?_
       refine sq (v := (I s2)) (rv_move rfl) ?_
       obtain ⟨x61, hx62, h'⟩ := bind_some h
       clear h
       have h := h'; clear h'
       obtain ⟨b64, o65, hi63, -⟩ := (H.ro 0 rfl).ix hx62
       refine sq (v := (pt b64 o65)) (rv_ix Try.underlying29 ti58 rfl rfl hi63) ?_
       refine sq (v := (pt b64 (o65 + 0))) (rv_fieldAddr (off := 0) (ft := 3) Try.underlying58 rfl ti3 rfl rfl) ?_
       have hc66 := ((H.ro 0 rfl).at hx62 hi63).fst.int
       refine sq (v := (I x61.1)) (rv_load1 Try.underlying3 rfl rfl hc66) ?_
       refine sq_end ?_
       intro σ67 hm68
       replace H := H.grow (hm68.mono fun _ h => h); clear hm68
       refine st (v := (B (x55.1 == x61.1))) (rv_eql (a := x55.1) (b := x61.1) rfl rfl) ?_
       refine w_end ?_
       refine q_then ?_
       refine cd_cond (x55.1 == x61.1) rfl (fun hb69 => ?_) (fun hb69 => ?_)
       ·replace h := bif_t hb69 h
        refine c_seq ?_
        refine rg ?_
        refine st (v := (B false)) (rv_assign rfl) ?_
        refine w_end ?_
        refine q_then ?_
        refine c_ret ?_
        refine q_blk_r ?_
        refine q_then_r ?_
        refine q_then_r ?_
        refine q_blk_r ?_
        obtain rfl := Option.some.inj h
        obtain rfl := hres _ rfl
        exact .inr (⟨_, rfl, rfl, _, σ67, fr_join ⟨rfl, trivial⟩, rfl, H.sel' [] rfl rfl⟩)
       ·replace h := bif_f hb69 h
        refine c_skip ?_
        refine q_blk ?_
        refine q_then ?_
        refine rg ?_
        refine st (v := (I s52)) (rv_move rfl) ?_
        refine st (v := (I (w64 (s52 + 1)))) (rv_add (a := s52) (b := 1) rfl rfl) ?_
        refine st (v := (I (w64 (s52 + 1)))) (rv_assign rfl) ?_
        refine w_end ?_
        refine q_then ?_
        obtain rfl := Option.some.inj h
        exact ⟨_, rfl, _, σ67, fr_join ⟨rfl, rfl, rfl, trivial⟩, rfl, H.sel' [0] rfl rfl⟩
      ·replace h := bif_f hb54 h
       refine c_exit ?_
       refine q_then_x ?_
       refine q_then_x ?_
       refine q_blk_hit ?_
       obtain rfl := Option.some.inj h
       obtain rfl := hres _ rfl
       exact .inl ⟨_, rfl, rfl, _, σ53, fr_join ⟨rfl, rfl, trivial⟩, rfl, H.sel' [0] rfl rfl⟩
     ·clear hj
      have h := h'
      clear h' H
      rintro e a w (⟨t70, rfl, rfl, ρ, σ71, rfl, rfl, H⟩ | ⟨t72, rfl, rfl, ρ, σ73, rfl, rfl, H⟩)
      ·replace h := selim_l h
       refine q_blk ?_
       refine q_then ?_
       refine rg ?_
       refine st (v := (I s2)) (rv_move rfl) ?_
       refine st (v := (I (w64 (s2 + 1)))) (rv_add (a := s2) (b := 1) rfl rfl) ?_
       refine st (v := (I (w64 (s2 + 1)))) (rv_assign rfl) ?_
       refine w_end ?_
       refine q_then ?_
       obtain rfl := Option.some.inj h
       exact ⟨_, rfl, _, σ71, fr_join ⟨rfl, rfl, trivial⟩, rfl, H.sel' [0] rfl rfl⟩
      ·replace h := selim_r h
       refine q_blk_r ?_
       refine q_then_r ?_
       refine q_then_r ?_
       refine q_blk_r ?_
       obtain rfl := Option.some.inj h
       obtain rfl := hres _ rfl
       exact .inr (⟨_, rfl, rfl, _, σ73, fr_join ⟨rfl, trivial⟩, rfl, H.sel' [] rfl rfl⟩)
  ·replace h := bif_f hb4 h
   refine c_exit ?_
   refine q_then_x ?_
   refine q_then_x ?_
   refine q_blk_hit ?_
   obtain rfl := Option.some.inj h
   obtain rfl := hres _ rfl
   exact .inl ⟨_, rfl, rfl, _, σ3, fr_join ⟨rfl, trivial⟩, rfl, H.sel' [0] rfl rfl⟩
 ·clear hj
  have h := h'
  clear h' H
  rintro e a w (⟨t74, rfl, rfl, ρ, σ75, rfl, rfl, H⟩ | ⟨t76, rfl, rfl, ρ, σ77, rfl, rfl, H⟩)
  ·replace h := selim_l h
   refine q_then ?_
   refine c_seq ?_
   refine rg ?_
   refine st (v := (Sl alist_0 list_0 clist_0)) (rv_move rfl) ?_
   refine st (v := (I (list_0.length : Int))) (rv_len Try.underlying29 rfl) ?_
   refine st (v := (B (decide ((list_0.length : Int) ≤ 16)))) (rv_leq (a := (list_0.length : Int)) (b := 16) rfl rfl) ?_
   refine st (v := (B (decide ((list_0.length : Int) ≤ 16)))) (rv_assign rfl) ?_
   refine w_end ?_
   refine q_then ?_
   refine c_ret ?_
   obtain rfl := Option.some.inj h
   exact fin_ret (v := (B (decide ((list_0.length : Int) ≤ 16)))) (results_ok Try.results46 (res_tmp (v := (B (decide ((list_0.length : Int) ≤ 16)))) rfl res_nil) rfl) ⟨rfl, rfl⟩ (H.sel' [] rfl rfl)
  ·replace h := selim_r h
   refine q_then_r ?_
   obtain rfl := Option.some.inj h
   exact fin_ret (v := (B t76)) (results_ok Try.results46 (res_tmp (v := (B t76)) rfl res_nil) rfl) ⟨rfl, rfl⟩ (H.sel' [] rfl rfl)

theorem c_spec_hitAt {list_0 : List (Int × Int)} {key_1 : Int} {alist_0 : Option Addr} {clist_0 : Nat} {r : Int} (h : M.spec_hitAt list_0 key_1 = some r) :
    Cal2 Try.prog 53 [(Sl alist_0 list_0 clist_0), (I key_1)] [Ch.ro 0 (Sl alist_0 list_0 clist_0) list_0] (fun n0 v L => v = (I r) ∧ L = []) := by
 refine cal2 (n := 20) Try.func53 rfl rfl rfl rfl ?_
 intro S0 σ0 n0 hn0 H
 unfold M.spec_hitAt at h
 refine c_seq ?_
 refine rg ?_
 refine st (v := (I 0)) (rv_assign rfl) ?_
 refine w_end ?_
 refine q_then ?_
 refine c_seq ?_
 refine c_seq ?_
 refine rg ?_
 refine st (v := (I 0)) (rv_assign rfl) ?_
 refine w_end ?_
 refine q_then ?_
 obtain ⟨o1, hj, h'⟩ := bind_some h
 clear h
 refine c_cut (fun e a w => (∃ t, o1 = (.inl t) ∧ e = .normal ∧ ∃ (ρ : Nat → Value) (σ : St), a = fr 20 (updL ρ []) ∧ w = σ.w ∧ Hp S0 σ0 σ []) ∨ (∃ t, o1 = (.inr t) ∧ e = .ret ∧ ∃ (ρ : Nat → Value) (σ : St), a = fr 20 (updL ρ [(4, (I t))]) ∧ w = σ.w ∧ Hp S0 σ0 σ [])) ?_ ?_
 ·clear h'
  rename _ = some o1 => h
  refine c_blk ?_
  refine wp_loopM _ h (fun s2 a w => ∃ (ρ : Nat → Value) (σ : St), a = fr 20 (updL ρ [(0, (Sl alist_0 list_0 clist_0)), (1, (I key_1)), (5, (I s2))]) ∧ w = σ.w ∧ Hp S0 σ0 σ [Ch.ro 0 (Sl alist_0 list_0 clist_0) list_0]) ⟨_, σ0, fr_join ⟨rfl, rfl, rfl, trivial⟩, rfl, H.sel' [0] rfl rfl⟩ ?_
  clear h H
  rintro s2 a w o ⟨ρ, σ3, rfl, rfl, H⟩ h hres
  refine c_seq ?_
  refine c_seq ?_
  refine rg ?_
  refine st (v := (I s2)) (rv_move rfl) ?_
  refine st (v := (Sl alist_0 list_0 clist_0)) (rv_move rfl) ?_
  refine st (v := (I (list_0.length : Int))) (rv_len Try.underlying29 rfl) ?_
  refine st (v := (B (decide (s2 < (list_0.length : Int))))) (rv_lss (a := s2) (b := (list_0.length : Int)) rfl rfl) ?_
  refine w_end ?_
  refine q_then ?_
  refine cd_cond (decide (s2 < (list_0.length : Int))) rfl (fun hb4 => ?_) (fun hb4 => ?_)
  ·replace h := bif_t hb4 h
   refine c_skip ?_
   refine q_then ?_
   refine c_seq ?_
   refine c_blk ?_
   refine c_seq ?_
   refine rg ?_
   refine st (v := (Sl alist_0 list_0 clist_0)) (rv_move rfl) ?_
   refine st (v := (I s2)) (rv_move rfl) ?_
   obtain ⟨x5, hx6, h'⟩ := bind_some h
   clear h
   have h := h'; clear h'
   obtain ⟨b8, o9, hi7, -⟩ := (H.ro 0 rfl).ix hx6
   refine st (v := (pt b8 o9)) (rv_ix Try.underlying29 ti58 rfl rfl hi7) ?_
   refine st (v := (pt b8 (o9 + 0))) (rv_fieldAddr (off := 0) (ft := 3) Try.underlying58 rfl ti3 rfl rfl) ?_
   have hc10 := ((H.ro 0 rfl).at hx6 hi7).fst.int
   refine st (v := (I x5.1)) (rv_load1 Try.underlying3 rfl rfl hc10) ?_
   refine st (v := (I key_1)) (rv_move rfl) ?_
   refine st (v := (B (x5.1 == key_1))) (rv_eql (a := x5.1) (b := key_1) rfl rfl) ?_
   refine w_end ?_
   refine q_then ?_
   refine cd_cond (x5.1 == key_1) rfl (fun hb11 => ?_) (fun hb11 => ?_)
   ·replace h := bif_t hb11 h
    refine c_seq ?_
    refine rg ?_
    refine st (v := (I s2)) (rv_move rfl) ?_
    refine st (v := (I s2)) (rv_assign rfl) ?_
    refine w_end ?_
    refine q_then ?_
    refine c_ret ?_
    refine q_blk_r ?_
    refine q_then_r ?_
    refine q_then_r ?_
    refine q_blk_r ?_
    obtain rfl := Option.some.inj h
    obtain rfl := hres _ rfl
    exact .inr (⟨_, rfl, rfl, _, σ3, fr_join ⟨rfl, trivial⟩, rfl, H.sel' [] rfl rfl⟩)
   ·replace h := bif_f hb11 h
    refine c_skip ?_
    refine q_blk ?_
    refine q_then ?_
    refine rg ?_
    refine st (v := (I s2)) (rv_move rfl) ?_
    refine st (v := (I (w64 (s2 + 1)))) (rv_add (a := s2) (b := 1) rfl rfl) ?_
    refine st (v := (I (w64 (s2 + 1)))) (rv_assign rfl) ?_
    refine w_end ?_
    refine q_then ?_
    obtain rfl := Option.some.inj h
    exact ⟨_, rfl, _, σ3, fr_join ⟨rfl, rfl, rfl, trivial⟩, rfl, H.sel' [0] rfl rfl⟩
  ·replace h := bif_f hb4 h
   refine c_exit ?_
   refine q_then_x ?_
   refine q_then_x ?_
   refine q_blk_hit ?_
   obtain rfl := Option.some.inj h
   obtain rfl := hres _ rfl
   exact .inl ⟨_, rfl, rfl, _, σ3, fr_join trivial, rfl, H.sel' [] rfl rfl⟩
 ·clear hj
  have h := h'
  clear h' H
  rintro e a w (⟨t12, rfl, rfl, ρ, σ13, rfl, rfl, H⟩ | ⟨t14, rfl, rfl, ρ, σ15, rfl, rfl, H⟩)
  ·replace h := selim_l h
   refine q_then ?_
   refine c_seq ?_
   refine rg ?_
   refine st (v := (I (-1))) (rv_assign rfl) ?_
   refine w_end ?_
   refine q_then ?_
   refine c_ret ?_
   obtain rfl := Option.some.inj h
   exact fin_ret (v := (I (-1))) (results_ok Try.results53 (res_tmp (v := (I (-1))) rfl res_nil) rfl) ⟨rfl, rfl⟩ (H.sel' [] rfl rfl)
  ·replace h := selim_r h
   refine q_then_r ?_
   obtain rfl := Option.some.inj h
   exact fin_ret (v := (I t14)) (results_ok Try.results53 (res_tmp (v := (I t14)) rfl res_nil) rfl) ⟨rfl, rfl⟩ (H.sel' [] rfl rfl)

theorem c_spec_rankScore {list_0 : List (Int × Int)} {key_1 : Int} {alist_0 : Option Addr} {clist_0 : Nat} {r : Int} (h : M.spec_rankScore list_0 key_1 = some r) :
    Cal2 Try.prog 57 [(Sl alist_0 list_0 clist_0), (I key_1)] [Ch.ro 0 (Sl alist_0 list_0 clist_0) list_0] (fun n0 v L => v = (I r) ∧ L = []) := by
 refine cal2 (n := 15) Try.func57 rfl rfl rfl rfl ?_
 intro S0 σ0 n0 hn0 H
 unfold M.spec_rankScore at h
 refine c_seq ?_
 refine rg ?_
 refine st (v := (I 0)) (rv_assign rfl) ?_
 refine w_end ?_
 refine q_then ?_
 refine c_seq ?_
 refine rg ?_
 refine st (v := (Sl alist_0 list_0 clist_0)) (rv_move rfl) ?_
 refine st (v := (I key_1)) (rv_move rfl) ?_
 obtain ⟨r1, hx2, h'⟩ := bind_some h
 clear h
 have h := h'; clear h'
 have hc3 := c_spec_hitAt (alist_0 := alist_0) (clist_0 := clist_0) hx2
 refine st_call (cx_call hc3 (ent_f hc3.fn rfl) hn0 (show Hp S0 σ0 _ ([Ch.ro 0 (Sl alist_0 list_0 clist_0) list_0] ++ [Ch.ro 0 (Sl alist_0 list_0 clist_0) list_0]) from (H.sel' [0, 0] rfl rfl))) wn ?_
 rintro _ σ4 ⟨_, ⟨rfl, rfl⟩, H, -⟩
 replace H : Hp S0 σ0 σ4 [Ch.ro 0 (Sl alist_0 list_0 clist_0) list_0] := H
 refine st (v := (I r1)) (rv_assign rfl) ?_
 refine w_end ?_
 refine q_then ?_
 refine c_seq ?_
 refine c_seq ?_
 refine rg ?_
 refine st (v := (I r1)) (rv_move rfl) ?_
 refine st (v := (B (decide (r1 < 0)))) (rv_lss (a := r1) (b := 0) rfl rfl) ?_
 refine w_end ?_
 refine q_then ?_
 refine cd_cond (decide (r1 < 0)) rfl (fun hb5 => ?_) (fun hb5 => ?_)
 ·replace h := bif_t hb5 h
  refine c_seq ?_
  refine rg ?_
  refine st (v := (I 0)) (rv_assign rfl) ?_
  refine w_end ?_
  refine q_then ?_
  refine c_ret ?_
  refine q_then_r ?_
  obtain rfl := Option.some.inj h
  exact fin_ret (v := (I 0)) (results_ok Try.results57 (res_tmp (v := (I 0)) rfl res_nil) rfl) ⟨rfl, rfl⟩ (H.sel' [] rfl rfl)
 ·replace h := bif_f hb5 h
  refine c_skip ?_
  refine q_then ?_
  refine c_seq ?_
  refine rg ?_
  refine st (v := (I r1)) (rv_move rfl) ?_
  refine st (v := (I (w64 (60 + r1)))) (rv_add (a := 60) (b := r1) rfl rfl) ?_
  refine st (v := (I (w64 ((w64 (60 + r1)) + 1)))) (rv_add (a := (w64 (60 + r1))) (b := 1) rfl rfl) ?_
  obtain ⟨q6, hx7, h'⟩ := bind_some h
  clear h
  have h := h'; clear h'
  refine st (v := (I q6)) (rv_quoG (a := 100000) (b := (w64 ((w64 (60 + r1)) + 1))) hx7 rfl rfl) ?_
  refine st (v := (I q6)) (rv_assign rfl) ?_
  refine w_end ?_
  refine q_then ?_
  refine c_ret ?_
  obtain rfl := Option.some.inj h
  exact fin_ret (v := (I q6)) (results_ok Try.results57 (res_tmp (v := (I q6)) rfl res_nil) rfl) ⟨rfl, rfl⟩ (H.sel' [] rfl rfl)

theorem c_spec_scoreOf {a_0 : List (Int × Int)} {b_1 : List (Int × Int)} {key_2 : Int} {aa_0 : Option Addr} {ca_0 : Nat} {ab_1 : Option Addr} {cb_1 : Nat} {r : Int} (h : M.spec_scoreOf a_0 b_1 key_2 = some r) :
    Cal2 Try.prog 58 [(Sl aa_0 a_0 ca_0), (Sl ab_1 b_1 cb_1), (I key_2)] [Ch.ro 0 (Sl aa_0 a_0 ca_0) a_0, Ch.ro 0 (Sl ab_1 b_1 cb_1) b_1] (fun n0 v L => v = (I r) ∧ L = []) := by
 refine cal2 (n := 14) Try.func58 rfl rfl rfl rfl ?_
 intro S0 σ0 n0 hn0 H
 unfold M.spec_scoreOf at h
 refine c_seq ?_
 refine rg ?_
 refine st (v := (I 0)) (rv_assign rfl) ?_
 refine w_end ?_
 refine q_then ?_
 refine c_seq ?_
 refine rg ?_
 refine st (v := (Sl aa_0 a_0 ca_0)) (rv_move rfl) ?_
 refine st (v := (I key_2)) (rv_move rfl) ?_
 obtain ⟨r1, hx2, h'⟩ := bind_some h
 clear h
 have h := h'; clear h'
 have hc3 := c_spec_rankScore (alist_0 := aa_0) (clist_0 := ca_0) hx2
 refine st_call (cx_call hc3 (ent_f hc3.fn rfl) hn0 (show Hp S0 σ0 _ ([Ch.ro 0 (Sl aa_0 a_0 ca_0) a_0] ++ [Ch.ro 0 (Sl aa_0 a_0 ca_0) a_0, Ch.ro 0 (Sl ab_1 b_1 cb_1) b_1]) from (H.sel' [0, 0, 1] rfl rfl))) wn ?_
 rintro _ σ4 ⟨_, ⟨rfl, rfl⟩, H, -⟩
 replace H : Hp S0 σ0 σ4 [Ch.ro 0 (Sl aa_0 a_0 ca_0) a_0, Ch.ro 0 (Sl ab_1 b_1 cb_1) b_1] := H
 refine st (v := (Sl ab_1 b_1 cb_1)) (rv_move rfl) ?_
 refine st (v := (I key_2)) (rv_move rfl) ?_
 obtain ⟨r5, hx6, h'⟩ := bind_some h
 clear h
 have h := h'; clear h'
 have hc7 := c_spec_rankScore (alist_0 := ab_1) (clist_0 := cb_1) hx6
 refine st_call (cx_call hc7 (ent_f hc7.fn rfl) hn0 (show Hp S0 σ0 _ ([Ch.ro 0 (Sl ab_1 b_1 cb_1) b_1] ++ [Ch.ro 0 (Sl aa_0 a_0 ca_0) a_0, Ch.ro 0 (Sl ab_1 b_1 cb_1) b_1]) from (H.sel' [1, 0, 1] rfl rfl))) wn ?_
 rintro _ σ8 ⟨_, ⟨rfl, rfl⟩, H, -⟩
 replace H : Hp S0 σ0 σ8 [Ch.ro 0 (Sl aa_0 a_0 ca_0) a_0, Ch.ro 0 (Sl ab_1 b_1 cb_1) b_1] := H
 refine st (v := (I (w64 (r1 + r5)))) (rv_add (a := r1) (b := r5) rfl rfl) ?_
 refine st (v := (I (w64 (r1 + r5)))) (rv_assign rfl) ?_
 refine w_end ?_
 refine q_then ?_
 refine c_ret ?_
 obtain rfl := Option.some.inj h
 exact fin_ret (v := (I (w64 (r1 + r5)))) (results_ok Try.results58 (res_tmp (v := (I (w64 (r1 + r5)))) rfl res_nil) rfl) ⟨rfl, rfl⟩ (H.sel' [] rfl rfl)

theorem c_spec_FuseRanks {a_0 : List (Int × Int)} {b_1 : List (Int × Int)} {aa_0 : Option Addr} {ca_0 : Nat} {ab_1 : Option Addr} {cb_1 : Nat} {r : (List Int)} (h : M.spec_FuseRanks a_0 b_1 = some r) :
    Cal2 Try.prog 25 [(Sl aa_0 a_0 ca_0), (Sl ab_1 b_1 cb_1)] [Ch.ro 0 (Sl aa_0 a_0 ca_0) a_0, Ch.ro 0 (Sl ab_1 b_1 cb_1) b_1] (fun n0 v L => ∃ (az1 : Option Addr), ∃ (cz2 : Nat), v = (Sl az1 r cz2) ∧ L = [Ch.own n0 n0 (Sl az1 r cz2) r]) := by
 refine cal2 (n := 79) Try.func25 rfl rfl rfl rfl ?_
 intro S0 σ0 n0 hn0 H
 unfold M.spec_FuseRanks at h
 refine c_seq ?_
 refine rg ?_
 refine st (v := (.slice none 0 0)) (rv_assign rfl) ?_
 refine w_end ?_
 refine q_then ?_
 refine c_seq ?_
 refine rg ?_
 refine st_ex (ex_buildSlice (el := n0) (xs := ([] : List Int)) (ps := []) (cs := []) H hn0 Try.underlying37 ti3 rfl rfl (by kernel_rfl) (.nil) rfl) wn ?_
 rintro _ σ2 ⟨b1, rfl, H, -⟩
 refine st (v := (Sl (some ⟨b1, 0, none⟩) ([] : List Int) 0)) (rv_assign rfl) ?_
 refine w_end ?_
 refine q_then ?_
 refine c_seq ?_
 refine c_seq ?_
 obtain ⟨o3, hj, h'⟩ := bind_some h
 clear h
 refine c_cut (fun e a w => e = .normal ∧ ∃ (ρ : Nat → Value) (σ : St), a = fr 79 (updL ρ [(0, (Sl aa_0 a_0 ca_0)), (1, (Sl ab_1 b_1 cb_1)), (5, (Sl (some ⟨b1, 0, none⟩) ([] : List Int) 0)), (17, (B o3))]) ∧ w = σ.w ∧ Hp S0 σ0 σ [Ch.ro 0 (Sl aa_0 a_0 ca_0) a_0, Ch.ro 0 (Sl ab_1 b_1 cb_1) b_1, Ch.own n0 n0 (Sl (some ⟨b1, 0, none⟩) ([] : List Int) 0) ([] : List Int)]) ?_ ?_
 ·clear h'
  rename _ = some o3 => h
  refine rg ?_
  refine st (v := (Sl aa_0 a_0 ca_0)) (rv_move rfl) ?_
  obtain ⟨r4, hx5, h'⟩ := bind_some h
  clear h
  have h := h'; clear h'
  have hc6 := c_spec_validHits (alist_0 := aa_0) (clist_0 := ca_0) hx5
  refine st_call (cx_call hc6 (ent_f hc6.fn rfl) hn0 (show Hp S0 σ0 _ ([Ch.ro 0 (Sl aa_0 a_0 ca_0) a_0] ++ [Ch.own n0 n0 (Sl (some ⟨b1, 0, none⟩) ([] : List Int) 0) ([] : List Int), Ch.ro 0 (Sl aa_0 a_0 ca_0) a_0, Ch.ro 0 (Sl ab_1 b_1 cb_1) b_1]) from (H.sel' [1, 0, 1, 2] rfl rfl))) wn ?_
  rintro _ σ7 ⟨_, ⟨rfl, rfl⟩, H, -⟩
  replace H : Hp S0 σ0 σ7 [Ch.own n0 n0 (Sl (some ⟨b1, 0, none⟩) ([] : List Int) 0) ([] : List Int), Ch.ro 0 (Sl aa_0 a_0 ca_0) a_0, Ch.ro 0 (Sl ab_1 b_1 cb_1) b_1] := H
  refine st (v := (B (!r4))) (rv_not rfl) ?_
  refine st (v := (B (!r4))) (rv_move rfl) ?_
  rcases Bool.eq_false_or_eq_true (!r4) with hb8 | hb8
  ·replace h := bif_t hb8 h
   refine st_skip (congrArg some hb8) ?_
   refine st_skip (congrArg some hb8) ?_
   refine st_skip (congrArg some hb8) ?_
   refine st (v := (B true)) (rv_pick_t (congrArg B hb8) rfl) ?_
   refine w_end ?_
   obtain rfl := Option.some.inj h
   exact ⟨rfl, _, σ7, fr_join ⟨rfl, rfl, rfl, rfl, trivial⟩, rfl, H.sel' [1, 2, 0] rfl rfl⟩
  ·replace h := bif_f hb8 h
   refine st_g (v := (Sl ab_1 b_1 cb_1)) (congrArg some hb8) (rv_move rfl) ?_
   obtain ⟨r9, hx10, h'⟩ := bind_some h
   clear h
   have h := h'; clear h'
   have hc11 := c_spec_validHits (alist_0 := ab_1) (clist_0 := cb_1) hx10
   refine st_call (cx_call hc11 (ent_f hc11.fn rfl) hn0 (show Hp S0 σ0 _ ([Ch.ro 0 (Sl ab_1 b_1 cb_1) b_1] ++ [Ch.own n0 n0 (Sl (some ⟨b1, 0, none⟩) ([] : List Int) 0) ([] : List Int), Ch.ro 0 (Sl aa_0 a_0 ca_0) a_0, Ch.ro 0 (Sl ab_1 b_1 cb_1) b_1]) from (H.sel' [2, 0, 1, 2] rfl rfl))) (wanted_yes rfl (by exact (congrArg some hb8))) ?_
   rintro _ σ12 ⟨_, ⟨rfl, rfl⟩, H, -⟩
   replace H : Hp S0 σ0 σ12 [Ch.own n0 n0 (Sl (some ⟨b1, 0, none⟩) ([] : List Int) 0) ([] : List Int), Ch.ro 0 (Sl aa_0 a_0 ca_0) a_0, Ch.ro 0 (Sl ab_1 b_1 cb_1) b_1] := H
   refine st_g (v := (B (!r9))) (congrArg some hb8) (rv_not rfl) ?_
   refine st (v := (B (!r9))) (rv_pick_f (congrArg B hb8) rfl) ?_
   refine w_end ?_
   obtain rfl := Option.some.inj h
   exact ⟨rfl, _, σ12, fr_join ⟨rfl, rfl, rfl, rfl, trivial⟩, rfl, H.sel' [1, 2, 0] rfl rfl⟩
 ·clear hj
  have h := h'
  clear h' H
  rintro e a w ⟨rfl, ρ, σ13, rfl, rfl, H⟩
  refine q_then ?_
  refine cd_cond o3 rfl (fun hb14 => ?_) (fun hb14 => ?_)
  ·replace h := bif_t hb14 h
   refine c_seq ?_
   refine rg ?_
   refine st (v := (.slice none 0 0)) (rv_assign rfl) ?_
   refine w_end ?_
   refine q_then ?_
   refine c_ret ?_
   refine q_then_r ?_
   replace H := H.nilOwn Int n0 n0
   obtain rfl := Option.some.inj h
   exact fin_ret (v := (.slice none 0 0)) (results_ok Try.results25 (res_tmp (v := (.slice none 0 0)) rfl res_nil) rfl) ⟨none, 0, rfl, rfl⟩ (H.sel' [0] rfl rfl)
  ·replace h := bif_f hb14 h
   refine c_skip ?_
   refine q_then ?_
   refine c_seq ?_
   refine c_seq ?_
   refine rg ?_
   refine st (v := (I 1)) (rv_assign rfl) ?_
   refine w_end ?_
   refine q_then ?_
   obtain ⟨o15, hj, h'⟩ := bind_some h
   clear h
   refine c_cut (fun e a w => e = .normal ∧ ∃ (ρ : Nat → Value) (σ : St) (aj1 : Option Addr) (cj2 : Nat), a = fr 79 (updL ρ [(5, (Sl aj1 o15 cj2))]) ∧ w = σ.w ∧ Hp S0 σ0 σ [Ch.own n0 n0 (Sl aj1 o15 cj2) o15]) ?_ ?_
   ·clear h'
    rename _ = some o15 => h
    refine c_blk ?_
    refine wp_loopM _ h (fun s16 a w => ∃ (ρ : Nat → Value) (σ : St) (aj1 : Option Addr) (cj2 : Nat), a = fr 79 (updL ρ [(0, (Sl aa_0 a_0 ca_0)), (1, (Sl ab_1 b_1 cb_1)), (5, (Sl aj1 s16.1 cj2)), (6, (I s16.2))]) ∧ w = σ.w ∧ Hp S0 σ0 σ [Ch.ro 0 (Sl aa_0 a_0 ca_0) a_0, Ch.ro 0 (Sl ab_1 b_1 cb_1) b_1, Ch.own n0 n0 (Sl aj1 s16.1 cj2) s16.1]) ⟨_, σ13, (some ⟨b1, 0, none⟩), 0, fr_join ⟨rfl, rfl, rfl, rfl, trivial⟩, rfl, H.sel' [0, 1, 2] rfl rfl⟩ ?_
    clear h H
    rintro s16 a w o ⟨ρ, σ17, a18, c19, rfl, rfl, H⟩ h hres
    refine c_seq ?_
    refine c_seq ?_
    refine rg ?_
    refine st (v := (I s16.2)) (rv_move rfl) ?_
    refine st (v := (B (decide (s16.2 ≤ 99)))) (rv_leq (a := s16.2) (b := 99) rfl rfl) ?_
    refine w_end ?_
    refine q_then ?_
    refine cd_cond (decide (s16.2 ≤ 99)) rfl (fun hb20 => ?_) (fun hb20 => ?_)
    ·replace h := bif_t hb20 h
     refine c_skip ?_
     refine q_then ?_
     refine c_seq ?_
     obtain ⟨o21, hj, h'⟩ := bind_some h
     clear h
     refine c_cut (fun e a w => e = .normal ∧ ∃ (ρ : Nat → Value) (σ : St) (aj1 : Option Addr) (cj2 : Nat), a = fr 79 (updL ρ [(0, (Sl aa_0 a_0 ca_0)), (1, (Sl ab_1 b_1 cb_1)), (5, (Sl aj1 o21 cj2)), (6, (I s16.2))]) ∧ w = σ.w ∧ Hp S0 σ0 σ [Ch.ro 0 (Sl aa_0 a_0 ca_0) a_0, Ch.ro 0 (Sl ab_1 b_1 cb_1) b_1, Ch.own n0 n0 (Sl aj1 o21 cj2) o21]) ?_ ?_
     ·clear h'
      rename _ = some o21 => h
      refine c_blk ?_
      refine c_seq ?_
      refine c_seq ?_
      obtain ⟨o22, hj, h'⟩ := bind_some h
      clear h
      refine c_cut (fun e a w => e = .normal ∧ ∃ (ρ : Nat → Value) (σ : St), a = fr 79 (updL ρ [(0, (Sl aa_0 a_0 ca_0)), (1, (Sl ab_1 b_1 cb_1)), (5, (Sl a18 s16.1 c19)), (6, (I s16.2)), (31, (B o22))]) ∧ w = σ.w ∧ Hp S0 σ0 σ [Ch.ro 0 (Sl aa_0 a_0 ca_0) a_0, Ch.ro 0 (Sl ab_1 b_1 cb_1) b_1, Ch.own n0 n0 (Sl a18 s16.1 c19) s16.1]) ?_ ?_
      ·clear h'
       rename _ = some o22 => h
       refine rg ?_
       refine st (v := (Sl aa_0 a_0 ca_0)) (rv_move rfl) ?_
       refine st (v := (I s16.2)) (rv_move rfl) ?_
       obtain ⟨r23, hx24, h'⟩ := bind_some h
       clear h
       have h := h'; clear h'
       have hc25 := c_spec_hitAt (alist_0 := aa_0) (clist_0 := ca_0) hx24
       refine st_call (cx_call hc25 (ent_f hc25.fn rfl) hn0 (show Hp S0 σ0 _ ([Ch.ro 0 (Sl aa_0 a_0 ca_0) a_0] ++ [Ch.ro 0 (Sl aa_0 a_0 ca_0) a_0, Ch.ro 0 (Sl ab_1 b_1 cb_1) b_1, Ch.own n0 n0 (Sl a18 s16.1 c19) s16.1]) from (H.sel' [0, 0, 1, 2] rfl rfl))) wn ?_
       rintro _ σ26 ⟨_, ⟨rfl, rfl⟩, H, -⟩
       replace H : Hp S0 σ0 σ26 [Ch.ro 0 (Sl aa_0 a_0 ca_0) a_0, Ch.ro 0 (Sl ab_1 b_1 cb_1) b_1, Ch.own n0 n0 (Sl a18 s16.1 c19) s16.1] := H
       refine st (v := (B (decide (r23 < 0)))) (rv_lss (a := r23) (b := 0) rfl rfl) ?_
       refine st (v := (B (decide (r23 < 0)))) (rv_move rfl) ?_
       rcases Bool.eq_false_or_eq_true (decide (r23 < 0)) with hb27 | hb27
       ·replace h := bif_t hb27 h
        refine st_g (v := (Sl ab_1 b_1 cb_1)) (congrArg some hb27) (rv_move rfl) ?_
        refine st_g (v := (I s16.2)) (congrArg some hb27) (rv_move rfl) ?_
        obtain ⟨r28, hx29, h'⟩ := bind_some h
        clear h
        have h := h'; clear h'
        have hc30 := c_spec_hitAt (alist_0 := ab_1) (clist_0 := cb_1) hx29
        refine st_call (cx_call hc30 (ent_f hc30.fn rfl) hn0 (show Hp S0 σ0 _ ([Ch.ro 0 (Sl ab_1 b_1 cb_1) b_1] ++ [Ch.ro 0 (Sl aa_0 a_0 ca_0) a_0, Ch.ro 0 (Sl ab_1 b_1 cb_1) b_1, Ch.own n0 n0 (Sl a18 s16.1 c19) s16.1]) from (H.sel' [1, 0, 1, 2] rfl rfl))) (wanted_yes rfl (by exact (congrArg some hb27))) ?_
        rintro _ σ31 ⟨_, ⟨rfl, rfl⟩, H, -⟩
        replace H : Hp S0 σ0 σ31 [Ch.ro 0 (Sl aa_0 a_0 ca_0) a_0, Ch.ro 0 (Sl ab_1 b_1 cb_1) b_1, Ch.own n0 n0 (Sl a18 s16.1 c19) s16.1] := H
        refine st_g (v := (B (decide (r28 < 0)))) (congrArg some hb27) (rv_lss (a := r28) (b := 0) rfl rfl) ?_
        refine st (v := (B (decide (r28 < 0)))) (rv_pick_t (congrArg B hb27) rfl) ?_
        refine w_end ?_
        obtain rfl := Option.some.inj h
        exact ⟨rfl, _, σ31, fr_join ⟨rfl, rfl, rfl, rfl, rfl, trivial⟩, rfl, H.sel' [0, 1, 2] rfl rfl⟩
       ·replace h := bif_f hb27 h
        refine st_skip (congrArg some hb27) ?_
        refine st_skip (congrArg some hb27) ?_
        refine st_skip (congrArg some hb27) ?_
        refine st_skip (congrArg some hb27) ?_
        refine st (v := (B false)) (rv_pick_f (congrArg B hb27) rfl) ?_
        refine w_end ?_
        obtain rfl := Option.some.inj h
        exact ⟨rfl, _, σ26, fr_join ⟨rfl, rfl, rfl, rfl, rfl, trivial⟩, rfl, H.sel' [0, 1, 2] rfl rfl⟩
      ·clear hj
       have h := h'
       clear h' H
       rintro e a w ⟨rfl, ρ, σ32, rfl, rfl, H⟩
       refine q_then ?_
       refine cd_cond o22 rfl (fun hb33 => ?_) (fun hb33 => ?_)
       ·replace h := bif_t hb33 h
        refine c_exit ?_
        refine q_then_x ?_
        refine q_blk_hit ?_
        obtain rfl := Option.some.inj h
        exact ⟨rfl, _, σ32, a18, c19, fr_join ⟨rfl, rfl, rfl, rfl, trivial⟩, rfl, H.sel' [0, 1, 2] rfl rfl⟩
       ·replace h := bif_f hb33 h
        refine c_skip ?_
        refine q_then ?_
        refine c_seq ?_
        refine rg ?_
        refine st (v := (Sl a18 s16.1 c19)) (rv_move rfl) ?_
        refine st (v := (I s16.2)) (rv_move rfl) ?_
        refine st_ex (ex_buildSlice (el := n0) (xs := ([s16.2] : List Int)) (ps := [(0, (I s16.2))]) (cs := [(I s16.2)]) H hn0 Try.underlying37 ti3 rfl rfl (by kernel_rfl) (.cons (c := [(I s16.2)]) rfl (.nil)) rfl) wn ?_
        rintro _ σ35 ⟨b34, rfl, H, -⟩
        obtain ⟨xs36, hx37, h'⟩ := bind_some h
        clear h
        have h := h'; clear h'
        refine st_ex (ex_append H (i := 3) rfl Try.underlying37 Try.underlying37 ti3 rfl rfl (by decide) (H.own 0 rfl).rd hx37 hn0 rfl rfl) wn ?_
        rintro _ σ40 ⟨a38, c39, rfl, H, -⟩
        refine st (v := (Sl a38 xs36 c39)) (rv_assign rfl) ?_
        refine w_end ?_
        refine q_then ?_
        refine c_seq ?_
        refine rg ?_
        refine st (v := (Sl a38 xs36 c39)) (rv_move rfl) ?_
        refine st (v := (I (xs36.length : Int))) (rv_len Try.underlying37 rfl) ?_
        refine st (v := (I (w64 ((xs36.length : Int) - 1)))) (rv_sub (a := (xs36.length : Int)) (b := 1) rfl rfl) ?_
        refine st (v := (I (w64 ((xs36.length : Int) - 1)))) (rv_assign rfl) ?_
        refine w_end ?_
        refine q_then ?_
        obtain ⟨o41, hj, h'⟩ := bind_some h
        clear h
        refine c_cut (fun e a w => e = .normal ∧ ∃ (ρ : Nat → Value) (σ : St), a = fr 79 (updL ρ [(0, (Sl aa_0 a_0 ca_0)), (1, (Sl ab_1 b_1 cb_1)), (5, (Sl a38 o41 c39)), (6, (I s16.2))]) ∧ w = σ.w ∧ Hp S0 σ0 σ [Ch.ro 0 (Sl aa_0 a_0 ca_0) a_0, Ch.ro 0 (Sl ab_1 b_1 cb_1) b_1, Ch.own n0 n0 (Sl a38 o41 c39) o41] ∧ o41.length = xs36.length) ?_ ?_
        ·clear h'
         rename _ = some o41 => h
         refine c_blk ?_
         refine wp_loopM _ h (fun s42 a w => ∃ (ρ : Nat → Value) (σ : St), a = fr 79 (updL ρ [(0, (Sl aa_0 a_0 ca_0)), (1, (Sl ab_1 b_1 cb_1)), (5, (Sl a38 s42.1 c39)), (6, (I s16.2)), (7, (I s42.2))]) ∧ w = σ.w ∧ Hp S0 σ0 σ [Ch.ro 0 (Sl aa_0 a_0 ca_0) a_0, Ch.ro 0 (Sl ab_1 b_1 cb_1) b_1, Ch.own n0 n0 (Sl a38 s42.1 c39) s42.1] ∧ s42.1.length = xs36.length) ⟨_, σ40, fr_join ⟨rfl, rfl, rfl, rfl, rfl, trivial⟩, rfl, H.sel' [2, 3, 0] rfl rfl, rfl⟩ ?_
         clear h H
         rintro s42 a w o ⟨ρ, σ43, rfl, rfl, H, hn44⟩ h hres
         refine c_seq ?_
         refine c_seq ?_
         obtain ⟨o45, hj, h'⟩ := bind_some h
         clear h
         refine c_cut (fun e a w => e = .normal ∧ ∃ (ρ : Nat → Value) (σ : St), a = fr 79 (updL ρ [(0, (Sl aa_0 a_0 ca_0)), (1, (Sl ab_1 b_1 cb_1)), (5, (Sl a38 s42.1 c39)), (6, (I s16.2)), (7, (I s42.2)), (58, (B o45))]) ∧ w = σ.w ∧ Hp S0 σ0 σ [Ch.ro 0 (Sl aa_0 a_0 ca_0) a_0, Ch.ro 0 (Sl ab_1 b_1 cb_1) b_1, Ch.own n0 n0 (Sl a38 s42.1 c39) s42.1]) ?_ ?_
         ·clear h'
          rename _ = some o45 => h
          rcases Bool.eq_false_or_eq_true (decide (0 < s42.2)) with hb46 | hb46
          ·replace h := bif_t hb46 h
           obtain ⟨x47, hx48, h'⟩ := bind_some h
           clear h
           have h := h'; clear h'
           obtain ⟨b50, o51, hi49, -⟩ := (H.own 2 rfl).ix hx48
           have hc52 := ((H.own 2 rfl).at hx48 hi49).int
           obtain ⟨r53, hx54, h'⟩ := bind_some h
           clear h
           have h := h'; clear h'
           have hc55 := c_spec_scoreOf (aa_0 := aa_0) (ca_0 := ca_0) (ab_1 := ab_1) (cb_1 := cb_1) hx54
           obtain ⟨x56, hx57, h'⟩ := bind_some h
           clear h
           have h := h'; clear h'
           obtain ⟨b59, o60, hi58, -⟩ := (H.own 2 rfl).ix hx57
           have hc61 := ((H.own 2 rfl).at hx57 hi58).int
           have Hs := H
           refine rg2 (σ := σ43) (Nm := Unit) 17 [9] [[false], [true]] [[(0, 0)], [(0, 0)], [(0, 0)], [(0, 0)], [(0, 0)], [(0, 0)], [(0, 0)], [(0, 0)], [(0, 0)], [(0, 1)], [(0, 0), (1, 1)], [(0, 0), (1, 1)], [(0, 0), (1, 1)], [(0, 0), (1, 1)], [(0, 0), (1, 1)], [(0, 0), (1, 1)], [(0, 0), (1, 1)]] 1 [fun _ => fun σm => Hp S0 σ0 σm [Ch.ro 0 (Sl aa_0 a_0 ca_0) a_0, Ch.ro 0 (Sl ab_1 b_1 cb_1) b_1, Ch.own n0 n0 (Sl a38 s42.1 c39) s42.1] ∧ Md (cov []) σ43 σm, fun _ => fun σm => Hp S0 σ0 σm [Ch.ro 0 (Sl aa_0 a_0 ca_0) a_0, Ch.ro 0 (Sl ab_1 b_1 cb_1) b_1, Ch.own n0 n0 (Sl a38 s42.1 c39) s42.1] ∧ Md (cov []) σ43 σm] [fun _ => (I s42.2), fun _ => (B (decide (0 < s42.2))), fun _ => (B (decide (0 < s42.2))), fun _ => (Sl aa_0 a_0 ca_0), fun _ => (Sl ab_1 b_1 cb_1), fun _ => (Sl a38 s42.1 c39), fun _ => (I s42.2), fun _ => (pt b50 o51), fun _ => (I x47), fun _ => (I r53), fun _ => (Sl aa_0 a_0 ca_0), fun _ => (Sl ab_1 b_1 cb_1), fun _ => (Sl a38 s42.1 c39), fun _ => (I s42.2), fun _ => (I (w64 (s42.2 - 1))), fun _ => (pt b59 o60), fun _ => (I x56)] () (by kernel_rfl) (by kernel_rfl) ?_ ?_ ?_
           ·intro σm m0
            exact ⟨H.grow (m0.mono fun _ h => h.elim), m0⟩
           ·refine ac rfl (by
              intro k _nm ρ σm hJ hoff hdep
              have e7 := look_off (N := 79) (hoff 7 rfl) rfl
              exact dp_v (v := (I s42.2)) wn (rv_move e7) rfl hJ) ?_
            refine ac rfl (by
              intro k _nm ρ σm hJ hoff hdep
              have e39 := hdep 0 rfl rfl 39 rfl
              exact dp_v (v := (B (decide (0 < s42.2)))) wn (rv_gtr (a := s42.2) (b := 0) e39 rfl) rfl hJ) ?_
            refine ac rfl (by
              intro k _nm ρ σm hJ hoff hdep
              have e40 := hdep 1 rfl rfl 40 rfl
              exact dp_v (v := (B (decide (0 < s42.2)))) wn (rv_move e40) rfl hJ) ?_
            refine ac rfl (by
              intro k _nm ρ σm hJ hoff hdep
              have e0 := look_off (N := 79) (hoff 0 rfl) rfl
              have e41 := hdep 2 rfl rfl 41 rfl
              exact dp_v (v := (Sl aa_0 a_0 ca_0)) (wanted_yes rfl (yv_of rfl (e41.trans (congrArg B hb46)))) (rv_move e0) rfl hJ) ?_
            refine ac rfl (by
              intro k _nm ρ σm hJ hoff hdep
              have e1 := look_off (N := 79) (hoff 1 rfl) rfl
              have e41 := hdep 2 rfl rfl 41 rfl
              exact dp_v (v := (Sl ab_1 b_1 cb_1)) (wanted_yes rfl (yv_of rfl (e41.trans (congrArg B hb46)))) (rv_move e1) rfl hJ) ?_
            refine ac rfl (by
              intro k _nm ρ σm hJ hoff hdep
              have e5 := look_off (N := 79) (hoff 5 rfl) rfl
              have e41 := hdep 2 rfl rfl 41 rfl
              exact dp_v (v := (Sl a38 s42.1 c39)) (wanted_yes rfl (yv_of rfl (e41.trans (congrArg B hb46)))) (rv_move e5) rfl hJ) ?_
            refine ac rfl (by
              intro k _nm ρ σm hJ hoff hdep
              have e7 := look_off (N := 79) (hoff 7 rfl) rfl
              have e41 := hdep 2 rfl rfl 41 rfl
              exact dp_v (v := (I s42.2)) (wanted_yes rfl (yv_of rfl (e41.trans (congrArg B hb46)))) (rv_move e7) rfl hJ) ?_
            refine ac rfl (by
              intro k _nm ρ σm hJ hoff hdep
              have e44 := hdep 5 rfl rfl 44 rfl
              have e45 := hdep 6 rfl rfl 45 rfl
              have e41 := hdep 2 rfl rfl 41 rfl
              exact dp_v (v := (pt b50 o51)) (wanted_yes rfl (yv_of rfl (e41.trans (congrArg B hb46)))) (rv_ix Try.underlying37 ti3 e44 e45 hi49) rfl hJ) ?_
            refine all_cons (by
              refine ⟨?_, ?_⟩
              ·intro _nm ρ σm hJ hoff hdep
               have e46 := hdep 7 rfl rfl 46 rfl
               have e41 := hdep 2 rfl rfl 41 rfl
               obtain ⟨H, m⟩ := id hJ
               have hc52 := ((H.own 2 rfl).at hx48 hi49).int
               exact dp_v (v := (I x47)) (wanted_yes rfl (yv_of rfl (e41.trans (congrArg B hb46)))) (rv_load1 Try.underlying3 rfl e46 hc52) rfl hJ
              trivial) ?_
            refine all_cons (by
              refine ⟨?_, ?_⟩
              ·intro _nm ρ σm hJ hoff hdep
               have e42 : look 79 ρ 42 = (Sl aa_0 a_0 ca_0) := hdep 3 rfl rfl 42 rfl
               have e43 : look 79 ρ 43 = (Sl ab_1 b_1 cb_1) := hdep 4 rfl rfl 43 rfl
               have e47 : look 79 ρ 47 = (I x47) := hdep 8 rfl rfl 47 rfl
               have e41 := hdep 2 rfl rfl 41 rfl
               obtain ⟨H, m⟩ := id hJ
               refine dp_cx (wanted_yes rfl (yv_of rfl (e41.trans (congrArg B hb46)))) (cx_call hc55 (ent_f hc55.fn (by show [look 79 ρ 42, look 79 ρ 43, look 79 ρ 47] = _; rw [e42, e43, e47])) hn0 (show Hp S0 σ0 _ ([Ch.ro 0 (Sl aa_0 a_0 ca_0) a_0, Ch.ro 0 (Sl ab_1 b_1 cb_1) b_1] ++ [Ch.ro 0 (Sl aa_0 a_0 ca_0) a_0, Ch.ro 0 (Sl ab_1 b_1 cb_1) b_1, Ch.own n0 n0 (Sl a38 s42.1 c39) s42.1]) from (H.sel' [0, 1, 0, 1, 2] rfl rfl))) ?_
               rintro _ σq ⟨_, ⟨rfl, rfl⟩, H2, m2⟩
               exact ⟨_, (), rfl, rfl, ⟨H2.sel' [0, 1, 2] rfl rfl, m.comp0 (m2.mono (fun i h => by simp [cov, Ch.ro] at h))⟩, stab [0, 1, 2, 3, 4, 5, 6, 7, 8, 10, 11, 12, 13, 14, 15, 16] (by kernel_rfl) ⟨rfl, rfl, rfl, rfl, rfl, rfl, rfl, rfl, rfl, rfl, rfl, rfl, rfl, rfl, rfl, rfl, trivial⟩⟩
              trivial) ?_
            refine ac rfl (by
              intro k _nm ρ σm hJ hoff hdep
              have e0 := look_off (N := 79) (hoff 0 rfl) rfl
              have e41 := hdep 2 rfl rfl 41 rfl
              exact dp_v (v := (Sl aa_0 a_0 ca_0)) (wanted_yes rfl (yv_of rfl (e41.trans (congrArg B hb46)))) (rv_move e0) rfl hJ) ?_
            refine ac rfl (by
              intro k _nm ρ σm hJ hoff hdep
              have e1 := look_off (N := 79) (hoff 1 rfl) rfl
              have e41 := hdep 2 rfl rfl 41 rfl
              exact dp_v (v := (Sl ab_1 b_1 cb_1)) (wanted_yes rfl (yv_of rfl (e41.trans (congrArg B hb46)))) (rv_move e1) rfl hJ) ?_
            refine ac rfl (by
              intro k _nm ρ σm hJ hoff hdep
              have e5 := look_off (N := 79) (hoff 5 rfl) rfl
              have e41 := hdep 2 rfl rfl 41 rfl
              exact dp_v (v := (Sl a38 s42.1 c39)) (wanted_yes rfl (yv_of rfl (e41.trans (congrArg B hb46)))) (rv_move e5) rfl hJ) ?_
            refine ac rfl (by
              intro k _nm ρ σm hJ hoff hdep
              have e7 := look_off (N := 79) (hoff 7 rfl) rfl
              have e41 := hdep 2 rfl rfl 41 rfl
              exact dp_v (v := (I s42.2)) (wanted_yes rfl (yv_of rfl (e41.trans (congrArg B hb46)))) (rv_move e7) rfl hJ) ?_
            refine ac rfl (by
              intro k _nm ρ σm hJ hoff hdep
              have e52 := hdep 13 rfl rfl 52 rfl
              have e41 := hdep 2 rfl rfl 41 rfl
              exact dp_v (v := (I (w64 (s42.2 - 1)))) (wanted_yes rfl (yv_of rfl (e41.trans (congrArg B hb46)))) (rv_sub (a := s42.2) (b := 1) e52 rfl) rfl hJ) ?_
            refine ac rfl (by
              intro k _nm ρ σm hJ hoff hdep
              have e51 := hdep 12 rfl rfl 51 rfl
              have e53 := hdep 14 rfl rfl 53 rfl
              have e41 := hdep 2 rfl rfl 41 rfl
              exact dp_v (v := (pt b59 o60)) (wanted_yes rfl (yv_of rfl (e41.trans (congrArg B hb46)))) (rv_ix Try.underlying37 ti3 e51 e53 hi58) rfl hJ) ?_
            refine all_cons (by
              refine ⟨?_, ?_⟩
              ·intro _nm ρ σm hJ hoff hdep
               have e54 := hdep 15 rfl rfl 54 rfl
               have e41 := hdep 2 rfl rfl 41 rfl
               obtain ⟨H, m⟩ := id hJ
               have hc61 := ((H.own 2 rfl).at hx57 hi58).int
               exact dp_v (v := (I x56)) (wanted_yes rfl (yv_of rfl (e41.trans (congrArg B hb46)))) (rv_load1 Try.underlying3 rfl e54 hc61) rfl hJ
              refine ⟨?_, ?_⟩
              ·intro _nm ρ σm hJ hoff hdep
               have e54 := hdep 15 rfl rfl 54 rfl
               have e41 := hdep 2 rfl rfl 41 rfl
               obtain ⟨H, m⟩ := id hJ
               have hc61 := ((H.own 2 rfl).at hx57 hi58).int
               exact dp_v (v := (I x56)) (wanted_yes rfl (yv_of rfl (e41.trans (congrArg B hb46)))) (rv_load1 Try.underlying3 rfl e54 hc61) rfl hJ
              trivial) ?_
            exact all_nil
           ·intro _nm ρ σ62 hJ hoff hrel
            have e0 := look_off (N := 79) (hoff 0 rfl) rfl
            have e1 := look_off (N := 79) (hoff 1 rfl) rfl
            have e5 := look_off (N := 79) (hoff 5 rfl) rfl
            have e6 := look_off (N := 79) (hoff 6 rfl) rfl
            have e7 := look_off (N := 79) (hoff 7 rfl) rfl
            have e41 := hrel 2 rfl 41 rfl
            have e48 := hrel 9 rfl 48 rfl
            have e49 := hrel 10 rfl 49 rfl
            have e50 := hrel 11 rfl 50 rfl
            have e55 := hrel 16 rfl 55 rfl
            obtain ⟨H, -⟩ := (show Hp S0 σ0 σ62 [Ch.ro 0 (Sl aa_0 a_0 ca_0) a_0, Ch.ro 0 (Sl ab_1 b_1 cb_1) b_1, Ch.own n0 n0 (Sl a38 s42.1 c39) s42.1] ∧ Md (cov []) σ43 σ62 from hJ)
            clear hJ Hs
            rw [fr_lookL (L := [(0, (Sl aa_0 a_0 ca_0)), (1, (Sl ab_1 b_1 cb_1)), (5, (Sl a38 s42.1 c39)), (6, (I s16.2)), (7, (I s42.2)), (41, (B (decide (0 < s42.2)))), (48, (I r53)), (49, (Sl aa_0 a_0 ca_0)), (50, (Sl ab_1 b_1 cb_1)), (55, (I x56))]) ⟨e0, e1, e5, e6, e7, e41, e48, e49, e50, e55, trivial⟩]
            clear hoff hrel e0 e1 e5 e6 e7 e41 e48 e49 e50 e55
            obtain ⟨r63, hx64, h'⟩ := bind_some h
            clear h
            have h := h'; clear h'
            have hc65 := c_spec_scoreOf (aa_0 := aa_0) (ca_0 := ca_0) (ab_1 := ab_1) (cb_1 := cb_1) hx64
            refine st_call (cx_call hc65 (ent_f hc65.fn rfl) hn0 (show Hp S0 σ0 _ ([Ch.ro 0 (Sl aa_0 a_0 ca_0) a_0, Ch.ro 0 (Sl ab_1 b_1 cb_1) b_1] ++ [Ch.ro 0 (Sl aa_0 a_0 ca_0) a_0, Ch.ro 0 (Sl ab_1 b_1 cb_1) b_1, Ch.own n0 n0 (Sl a38 s42.1 c39) s42.1]) from (H.sel' [0, 1, 0, 1, 2] rfl rfl))) (wanted_yes rfl (by exact (congrArg some hb46))) ?_
            rintro _ σ66 ⟨_, ⟨rfl, rfl⟩, H, -⟩
            replace H : Hp S0 σ0 σ66 [Ch.ro 0 (Sl aa_0 a_0 ca_0) a_0, Ch.ro 0 (Sl ab_1 b_1 cb_1) b_1, Ch.own n0 n0 (Sl a38 s42.1 c39) s42.1] := H
            refine st_g (v := (B (decide (r63 < r53)))) (congrArg some hb46) (rv_gtr (a := r53) (b := r63) rfl rfl) ?_
            refine st (v := (B (decide (r63 < r53)))) (rv_pick_t (congrArg B hb46) rfl) ?_
            refine w_end ?_
            obtain rfl := Option.some.inj h
            exact ⟨rfl, _, σ66, fr_join ⟨rfl, rfl, rfl, rfl, rfl, rfl, trivial⟩, rfl, H.sel' [0, 1, 2] rfl rfl⟩
          ·replace h := bif_f hb46 h
           have Hs := H
           refine rg2 (σ := σ43) (Nm := Unit) 17 [] [[]] [[(0, 0)], [(0, 0)], [(0, 0)], [(0, 0)], [(0, 0)], [(0, 0)], [(0, 0)], [(0, 0)], [(0, 0)], [(0, 0)], [(0, 0)], [(0, 0)], [(0, 0)], [(0, 0)], [(0, 0)], [(0, 0)], [(0, 0)]] 0 [fun _ => fun σm => Hp S0 σ0 σm [Ch.ro 0 (Sl aa_0 a_0 ca_0) a_0, Ch.ro 0 (Sl ab_1 b_1 cb_1) b_1, Ch.own n0 n0 (Sl a38 s42.1 c39) s42.1] ∧ Md (cov []) σ43 σm] [fun _ => (I s42.2), fun _ => (B (decide (0 < s42.2))), fun _ => (B (decide (0 < s42.2))), fun _ => undef, fun _ => undef, fun _ => undef, fun _ => undef, fun _ => undef, fun _ => undef, fun _ => undef, fun _ => undef, fun _ => undef, fun _ => undef, fun _ => undef, fun _ => undef, fun _ => undef, fun _ => undef] () (by kernel_rfl) (by kernel_rfl) ?_ ?_ ?_
           ·intro σm m0
            exact ⟨H.grow (m0.mono fun _ h => h.elim), m0⟩
           ·refine ac rfl (by
              intro k _nm ρ σm hJ hoff hdep
              have e7 := look_off (N := 79) (hoff 7 rfl) rfl
              exact dp_v (v := (I s42.2)) wn (rv_move e7) rfl hJ) ?_
            refine ac rfl (by
              intro k _nm ρ σm hJ hoff hdep
              have e39 := hdep 0 rfl rfl 39 rfl
              exact dp_v (v := (B (decide (0 < s42.2)))) wn (rv_gtr (a := s42.2) (b := 0) e39 rfl) rfl hJ) ?_
            refine ac rfl (by
              intro k _nm ρ σm hJ hoff hdep
              have e40 := hdep 1 rfl rfl 40 rfl
              exact dp_v (v := (B (decide (0 < s42.2)))) wn (rv_move e40) rfl hJ) ?_
            refine ac rfl (by
              intro k _nm ρ σm hJ hoff hdep
              have e41 := hdep 2 rfl rfl 41 rfl
              exact dp_skip (wanted_no rfl (yv_of rfl (e41.trans (congrArg B hb46)))) rfl hJ) ?_
            refine ac rfl (by
              intro k _nm ρ σm hJ hoff hdep
              have e41 := hdep 2 rfl rfl 41 rfl
              exact dp_skip (wanted_no rfl (yv_of rfl (e41.trans (congrArg B hb46)))) rfl hJ) ?_
            refine ac rfl (by
              intro k _nm ρ σm hJ hoff hdep
              have e41 := hdep 2 rfl rfl 41 rfl
              exact dp_skip (wanted_no rfl (yv_of rfl (e41.trans (congrArg B hb46)))) rfl hJ) ?_
            refine ac rfl (by
              intro k _nm ρ σm hJ hoff hdep
              have e41 := hdep 2 rfl rfl 41 rfl
              exact dp_skip (wanted_no rfl (yv_of rfl (e41.trans (congrArg B hb46)))) rfl hJ) ?_
            refine ac rfl (by
              intro k _nm ρ σm hJ hoff hdep
              have e41 := hdep 2 rfl rfl 41 rfl
              exact dp_skip (wanted_no rfl (yv_of rfl (e41.trans (congrArg B hb46)))) rfl hJ) ?_
            refine ac rfl (by
              intro k _nm ρ σm hJ hoff hdep
              have e41 := hdep 2 rfl rfl 41 rfl
              exact dp_skip (wanted_no rfl (yv_of rfl (e41.trans (congrArg B hb46)))) rfl hJ) ?_
            refine ac rfl (by
              intro k _nm ρ σm hJ hoff hdep
              have e41 := hdep 2 rfl rfl 41 rfl
              exact dp_skip (wanted_no rfl (yv_of rfl (e41.trans (congrArg B hb46)))) rfl hJ) ?_
            refine ac rfl (by
              intro k _nm ρ σm hJ hoff hdep
              have e41 := hdep 2 rfl rfl 41 rfl
              exact dp_skip (wanted_no rfl (yv_of rfl (e41.trans (congrArg B hb46)))) rfl hJ) ?_
            refine ac rfl (by
              intro k _nm ρ σm hJ hoff hdep
              have e41 := hdep 2 rfl rfl 41 rfl
              exact dp_skip (wanted_no rfl (yv_of rfl (e41.trans (congrArg B hb46)))) rfl hJ) ?_
            refine ac rfl (by
              intro k _nm ρ σm hJ hoff hdep
              have e41 := hdep 2 rfl rfl 41 rfl
              exact dp_skip (wanted_no rfl (yv_of rfl (e41.trans (congrArg B hb46)))) rfl hJ) ?_
            refine ac rfl (by
              intro k _nm ρ σm hJ hoff hdep
              have e41 := hdep 2 rfl rfl 41 rfl
              exact dp_skip (wanted_no rfl (yv_of rfl (e41.trans (congrArg B hb46)))) rfl hJ) ?_
            refine ac rfl (by
              intro k _nm ρ σm hJ hoff hdep
              have e41 := hdep 2 rfl rfl 41 rfl
              exact dp_skip (wanted_no rfl (yv_of rfl (e41.trans (congrArg B hb46)))) rfl hJ) ?_
            refine ac rfl (by
              intro k _nm ρ σm hJ hoff hdep
              have e41 := hdep 2 rfl rfl 41 rfl
              exact dp_skip (wanted_no rfl (yv_of rfl (e41.trans (congrArg B hb46)))) rfl hJ) ?_
            refine ac rfl (by
              intro k _nm ρ σm hJ hoff hdep
              have e41 := hdep 2 rfl rfl 41 rfl
              exact dp_skip (wanted_no rfl (yv_of rfl (e41.trans (congrArg B hb46)))) rfl hJ) ?_
            exact all_nil
           ·intro _nm ρ σ67 hJ hoff hrel
            have e0 := look_off (N := 79) (hoff 0 rfl) rfl
            have e1 := look_off (N := 79) (hoff 1 rfl) rfl
            have e5 := look_off (N := 79) (hoff 5 rfl) rfl
            have e6 := look_off (N := 79) (hoff 6 rfl) rfl
            have e7 := look_off (N := 79) (hoff 7 rfl) rfl
            have e41 := hrel 2 rfl 41 rfl
            have e48 := hrel 9 rfl 48 rfl
            have e49 := hrel 10 rfl 49 rfl
            have e50 := hrel 11 rfl 50 rfl
            have e55 := hrel 16 rfl 55 rfl
            obtain ⟨H, -⟩ := (show Hp S0 σ0 σ67 [Ch.ro 0 (Sl aa_0 a_0 ca_0) a_0, Ch.ro 0 (Sl ab_1 b_1 cb_1) b_1, Ch.own n0 n0 (Sl a38 s42.1 c39) s42.1] ∧ Md (cov []) σ43 σ67 from hJ)
            clear hJ Hs
            rw [fr_lookL (L := [(0, (Sl aa_0 a_0 ca_0)), (1, (Sl ab_1 b_1 cb_1)), (5, (Sl a38 s42.1 c39)), (6, (I s16.2)), (7, (I s42.2)), (41, (B (decide (0 < s42.2)))), (48, undef), (49, undef), (50, undef), (55, undef)]) ⟨e0, e1, e5, e6, e7, e41, e48, e49, e50, e55, trivial⟩]
            clear hoff hrel e0 e1 e5 e6 e7 e41 e48 e49 e50 e55
            refine st_skip (congrArg some hb46) ?_
            refine st_skip (congrArg some hb46) ?_
            refine st (v := (B false)) (rv_pick_f (congrArg B hb46) rfl) ?_
            refine w_end ?_
            obtain rfl := Option.some.inj h
            exact ⟨rfl, _, σ67, fr_join ⟨rfl, rfl, rfl, rfl, rfl, rfl, trivial⟩, rfl, H.sel' [0, 1, 2] rfl rfl⟩
         ·clear hj
          have h := h'
          clear h' H
          rintro e a w ⟨rfl, ρ, σ68, rfl, rfl, H⟩
          refine q_then ?_
          refine cd_cond o45 rfl (fun hb69 => ?_) (fun hb69 => ?_)
          ·replace h := bif_t hb69 h
           refine c_skip ?_
           refine q_then ?_
           refine c_seq ?_
           refine c_blk ?_
           refine c_seq ?_
           refine rg ?_
           refine st (v := (Sl a38 s42.1 c39)) (rv_move rfl) ?_
           refine st (v := (I s42.2)) (rv_move rfl) ?_
           obtain ⟨x70, hx71, h'⟩ := bind_some h
           clear h
           have h := h'; clear h'
           obtain ⟨b73, o74, hi72, -⟩ := (H.own 2 rfl).ix hx71
           refine st (v := (pt b73 o74)) (rv_ix Try.underlying37 ti3 rfl rfl hi72) ?_
           have hc75 := ((H.own 2 rfl).at hx71 hi72).int
           refine st (v := (I x70)) (rv_load1 Try.underlying3 rfl rfl hc75) ?_
           refine st (v := (I x70)) (rv_assign rfl) ?_
           refine w_end ?_
           refine q_then ?_
           refine c_seq ?_
           refine rg ?_
           refine st (v := (Sl a38 s42.1 c39)) (rv_move rfl) ?_
           refine st (v := (I s42.2)) (rv_move rfl) ?_
           refine st (v := (Sl a38 s42.1 c39)) (rv_move rfl) ?_
           refine st (v := (I s42.2)) (rv_move rfl) ?_
           refine st (v := (I (w64 (s42.2 - 1)))) (rv_sub (a := s42.2) (b := 1) rfl rfl) ?_
           obtain ⟨x76, hx77, h'⟩ := bind_some h
           clear h
           have h := h'; clear h'
           obtain ⟨b79, o80, hi78, -⟩ := (H.own 2 rfl).ix hx77
           refine st (v := (pt b79 o80)) (rv_ix Try.underlying37 ti3 rfl rfl hi78) ?_
           have hc81 := ((H.own 2 rfl).at hx77 hi78).int
           refine st (v := (I x76)) (rv_load1 Try.underlying3 rfl rfl hc81) ?_
           obtain ⟨x82, hx83, h'⟩ := bind_some h
           clear h
           have h := h'; clear h'
           obtain ⟨b85, o86, hi84, -⟩ := (H.own 2 rfl).ix hx83
           refine st (v := (pt b85 o86)) (rv_ix Try.underlying37 ti3 rfl rfl hi84) ?_
           refine st_exS (ex_store_own (e' := x76) (vs := [(I x76)]) (k := 0) H (i := 2) rfl ti3 hx83 hi84 rfl rfl rfl rfl rfl (Nat.le_of_ble_eq_true rfl) (by simp [plain]) (by rintro _ rfl; exact rfl)) wn ?_
           rintro σ87 ⟨H, -⟩
           have hsl : (Sl a38 s42.1 c39) = (Sl a38 (s42.1.set s42.2.toNat x76) c39) := sl_len List.length_set.symm
           rw [hsl]; rw [hsl] at H; clear hsl
           refine w_end ?_
           refine q_then ?_
           refine rg ?_
           refine st (v := (Sl a38 (s42.1.set s42.2.toNat x76) c39)) (rv_move rfl) ?_
           refine st (v := (I s42.2)) (rv_move rfl) ?_
           refine st (v := (I (w64 (s42.2 - 1)))) (rv_sub (a := s42.2) (b := 1) rfl rfl) ?_
           refine st (v := (I x70)) (rv_move rfl) ?_
           obtain ⟨x88, hx89, h'⟩ := bind_some h
           clear h
           have h := h'; clear h'
           obtain ⟨b91, o92, hi90, -⟩ := (H.own 0 rfl).ix hx89
           refine st (v := (pt b91 o92)) (rv_ix Try.underlying37 ti3 rfl rfl hi90) ?_
           refine st_exS (ex_store_own (e' := x70) (vs := [(I x70)]) (k := 0) H (i := 0) rfl ti3 hx89 hi90 rfl rfl rfl rfl rfl (Nat.le_of_ble_eq_true rfl) (by simp [plain]) (by rintro _ rfl; exact rfl)) wn ?_
           rintro σ93 ⟨H, -⟩
           have hsl : (Sl a38 (s42.1.set s42.2.toNat x76) c39) = (Sl a38 ((s42.1.set s42.2.toNat x76).set (w64 (s42.2 - 1)).toNat x70) c39) := sl_len List.length_set.symm
           rw [hsl]; rw [hsl] at H; clear hsl
           refine w_end ?_
           refine q_blk ?_
           refine q_then ?_
           refine rg ?_
           refine st (v := (I s42.2)) (rv_move rfl) ?_
           refine st (v := (I (w64 (s42.2 - 1)))) (rv_sub (a := s42.2) (b := 1) rfl rfl) ?_
           refine st (v := (I (w64 (s42.2 - 1)))) (rv_assign rfl) ?_
           refine w_end ?_
           refine q_then ?_
           obtain rfl := Option.some.inj h
           exact ⟨_, rfl, _, σ93, fr_join ⟨rfl, rfl, rfl, rfl, rfl, trivial⟩, rfl, H.sel' [1, 2, 0] rfl rfl, (List.length_set.trans (List.length_set.trans hn44))⟩
          ·replace h := bif_f hb69 h
           refine c_exit ?_
           refine q_then_x ?_
           refine q_then_x ?_
           refine q_blk_hit ?_
           obtain rfl := Option.some.inj h
           obtain rfl := hres _ rfl
           exact ⟨rfl, _, σ68, fr_join ⟨rfl, rfl, rfl, rfl, trivial⟩, rfl, H.sel' [0, 1, 2] rfl rfl, hn44⟩
        ·clear hj
         have h := h'
         clear h' H
         rintro e a w ⟨rfl, ρ, σ94, rfl, rfl, H, hn95⟩
         refine q_blk ?_
         obtain rfl := Option.some.inj h
         exact ⟨rfl, _, σ94, a38, c39, fr_join ⟨rfl, rfl, rfl, rfl, trivial⟩, rfl, H.sel' [0, 1, 2] rfl rfl⟩
     ·clear hj
      have h := h'
      clear h' H
      rintro e a w ⟨rfl, ρ, σ96, a97, c98, rfl, rfl, H⟩
      refine q_then ?_
      refine rg ?_
      refine st (v := (I s16.2)) (rv_move rfl) ?_
      refine st (v := (I (w64 (s16.2 + 1)))) (rv_add (a := s16.2) (b := 1) rfl rfl) ?_
      refine st (v := (I (w64 (s16.2 + 1)))) (rv_assign rfl) ?_
      refine w_end ?_
      refine q_then ?_
      obtain rfl := Option.some.inj h
      exact ⟨_, rfl, _, σ96, a97, c98, fr_join ⟨rfl, rfl, rfl, rfl, trivial⟩, rfl, H.sel' [0, 1, 2] rfl rfl⟩
    ·replace h := bif_f hb20 h
     refine c_exit ?_
     refine q_then_x ?_
     refine q_then_x ?_
     refine q_blk_hit ?_
     obtain rfl := Option.some.inj h
     obtain rfl := hres _ rfl
     exact ⟨rfl, _, σ17, a18, c19, fr_join ⟨rfl, trivial⟩, rfl, H.sel' [2] rfl rfl⟩
   ·clear hj
    have h := h'
    clear h' H
    rintro e a w ⟨rfl, ρ, σ99, a100, c101, rfl, rfl, H⟩
    refine q_then ?_
    refine c_seq ?_
    refine rg ?_
    refine st (v := (Sl a100 o15 c101)) (rv_move rfl) ?_
    refine st (v := (Sl a100 o15 c101)) (rv_assign rfl) ?_
    refine w_end ?_
    refine q_then ?_
    refine c_ret ?_
    obtain rfl := Option.some.inj h
    exact fin_ret (v := (Sl a100 o15 c101)) (results_ok Try.results25 (res_tmp (v := (Sl a100 o15 c101)) rfl res_nil) rfl) ⟨a100, c101, rfl, rfl⟩ (H.sel' [0] rfl rfl)

theorem c_impl_validKey {key_0 : Int}  {r : Bool} (h : M.impl_validKey key_0 = some r) :
    Cal2 Try.prog 72 [(I key_0)] [] (fun n0 v L => v = (B r) ∧ L = []) := by
 refine cal2 (n := 9) Try.func72 rfl rfl rfl rfl ?_
 intro S0 σ0 n0 hn0 H
 unfold M.impl_validKey at h
 refine c_seq ?_
 refine rg ?_
 refine st (v := (B false)) (rv_assign rfl) ?_
 refine w_end ?_
 refine q_then ?_
 refine c_seq ?_
 refine rg ?_
 refine st (v := (I key_0)) (rv_move rfl) ?_
 refine st (v := (B (decide (1 ≤ key_0)))) (rv_geq (a := key_0) (b := 1) rfl rfl) ?_
 refine st (v := (B (decide (1 ≤ key_0)))) (rv_move rfl) ?_
 rcases Bool.eq_false_or_eq_true (decide (1 ≤ key_0)) with hb1 | hb1
 ·replace h := bif_t hb1 h
  refine st_g (v := (I key_0)) (congrArg some hb1) (rv_move rfl) ?_
  refine st_g (v := (B (decide (key_0 ≤ 99)))) (congrArg some hb1) (rv_leq (a := key_0) (b := 99) rfl rfl) ?_
  refine st (v := (B (decide (key_0 ≤ 99)))) (rv_pick_t (congrArg B hb1) rfl) ?_
  refine st (v := (B (decide (key_0 ≤ 99)))) (rv_assign rfl) ?_
  refine w_end ?_
  refine q_then ?_
  refine c_ret ?_
  obtain rfl := Option.some.inj h
  exact fin_ret (v := (B (decide (key_0 ≤ 99)))) (results_ok Try.results72 (res_tmp (v := (B (decide (key_0 ≤ 99)))) rfl res_nil) rfl) ⟨rfl, rfl⟩ (H.sel' [] rfl rfl)
 ·replace h := bif_f hb1 h
  refine st_skip (congrArg some hb1) ?_
  refine st_skip (congrArg some hb1) ?_
  refine st (v := (B false)) (rv_pick_f (congrArg B hb1) rfl) ?_
  refine st (v := (B false)) (rv_assign rfl) ?_
  refine w_end ?_
  refine q_then ?_
  refine c_ret ?_
  obtain rfl := Option.some.inj h
  exact fin_ret (v := (B false)) (results_ok Try.results72 (res_tmp (v := (B false)) rfl res_nil) rfl) ⟨rfl, rfl⟩ (H.sel' [] rfl rfl)

theorem c_impl_validHit {h_0 : Int × Int}  {r : Bool} (h : M.impl_validHit h_0 = some r) :
    Cal2 Try.prog 48 [(.agg #[(I h_0.1), (I h_0.2)])] [] (fun n0 v L => v = (B r) ∧ L = []) := by
 refine cal2 (n := 16) Try.func48 rfl rfl rfl rfl ?_
 intro S0 σ0 n0 hn0 H
 unfold M.impl_validHit at h
 refine c_seq ?_
 refine rg ?_
 refine st_ex (ex_box (cs := [(I h_0.1), (I h_0.2)]) H hn0 rfl rfl) wn ?_
 rintro _ σ2 ⟨b1, rfl, H, -⟩
 refine st (v := (B false)) (rv_assign rfl) ?_
 refine w_end ?_
 refine q_then ?_
 refine c_seq ?_
 refine rg ?_
 refine st (v := (pt b1 0)) (rv_fieldAddr (off := 0) (ft := 3) Try.underlying58 rfl ti3 rfl rfl) ?_
 have hc3 := H.cell (u := (I h_0.1)) (o' := 0) 0 0 rfl rfl rfl
 refine st (v := (I h_0.1)) (rv_load1 Try.underlying3 rfl rfl hc3) ?_
 obtain ⟨r4, hx5, h'⟩ := bind_some h
 clear h
 have h := h'; clear h'
 have hc6 := c_impl_validKey hx5
 refine st_call (cx_call hc6 (ent_f hc6.fn rfl) hn0 (show Hp S0 σ0 _ ([] ++ [Ch.bx n0 b1 0 [(I h_0.1), (I h_0.2)] [] []]) from (H.sel' [0] rfl rfl))) wn ?_
 rintro _ σ7 ⟨_, ⟨rfl, rfl⟩, H, -⟩
 replace H : Hp S0 σ0 σ7 [Ch.bx n0 b1 0 [(I h_0.1), (I h_0.2)] [] []] := H
 refine st (v := (B r4)) (rv_move rfl) ?_
 rcases Bool.eq_false_or_eq_true r4 with hb8 | hb8
 ·replace h := bif_t hb8 h
  refine st_g (v := (pt b1 1)) (congrArg some hb8) (rv_fieldAddr (off := 1) (ft := 3) Try.underlying58 rfl ti3 rfl rfl) ?_
  have hc9 := H.cell (u := (I h_0.2)) (o' := 1) 0 1 rfl rfl rfl
  refine st_g (v := (I h_0.2)) (congrArg some hb8) (rv_load1 Try.underlying3 rfl rfl hc9) ?_
  refine st_g (v := (B (decide (0 ≤ h_0.2)))) (congrArg some hb8) (rv_geq (a := h_0.2) (b := 0) rfl rfl) ?_
  refine st (v := (B (decide (0 ≤ h_0.2)))) (rv_pick_t (congrArg B hb8) rfl) ?_
  refine st (v := (B (decide (0 ≤ h_0.2)))) (rv_move rfl) ?_
  rcases Bool.eq_false_or_eq_true (decide (0 ≤ h_0.2)) with hb10 | hb10
  ·replace h := bif_t hb10 h
   refine st_g (v := (pt b1 1)) (congrArg some hb10) (rv_fieldAddr (off := 1) (ft := 3) Try.underlying58 rfl ti3 rfl rfl) ?_
   have hc11 := H.cell (u := (I h_0.2)) (o' := 1) 0 1 rfl rfl rfl
   refine st_g (v := (I h_0.2)) (congrArg some hb10) (rv_load1 Try.underlying3 rfl rfl hc11) ?_
   refine st_g (v := (B (decide (h_0.2 ≤ 1000000)))) (congrArg some hb10) (rv_leq (a := h_0.2) (b := 1000000) rfl rfl) ?_
   refine st (v := (B (decide (h_0.2 ≤ 1000000)))) (rv_pick_t (congrArg B hb10) rfl) ?_
   refine st (v := (B (decide (h_0.2 ≤ 1000000)))) (rv_assign rfl) ?_
   refine w_end ?_
   refine q_then ?_
   refine c_ret ?_
   obtain rfl := Option.some.inj h
   exact fin_ret (v := (B (decide (h_0.2 ≤ 1000000)))) (results_ok Try.results48 (res_tmp (v := (B (decide (h_0.2 ≤ 1000000)))) rfl res_nil) rfl) ⟨rfl, rfl⟩ (H.sel' [] rfl rfl)
  ·replace h := bif_f hb10 h
   refine st_skip (congrArg some hb10) ?_
   refine st_skip (congrArg some hb10) ?_
   refine st_skip (congrArg some hb10) ?_
   refine st (v := (B false)) (rv_pick_f (congrArg B hb10) rfl) ?_
   refine st (v := (B false)) (rv_assign rfl) ?_
   refine w_end ?_
   refine q_then ?_
   refine c_ret ?_
   obtain rfl := Option.some.inj h
   exact fin_ret (v := (B false)) (results_ok Try.results48 (res_tmp (v := (B false)) rfl res_nil) rfl) ⟨rfl, rfl⟩ (H.sel' [] rfl rfl)
 ·replace h := bif_f hb8 h
  refine st_skip (congrArg some hb8) ?_
  refine st_skip (congrArg some hb8) ?_
  refine st_skip (congrArg some hb8) ?_
  refine st (v := (B false)) (rv_pick_f (congrArg B hb8) rfl) ?_
  refine st (v := (B false)) (rv_move rfl) ?_
  refine st_skip rfl ?_
  refine st_skip rfl ?_
  refine st_skip rfl ?_
  refine st (v := (B false)) (rv_pick_f rfl rfl) ?_
  refine st (v := (B false)) (rv_assign rfl) ?_
  refine w_end ?_
  refine q_then ?_
  refine c_ret ?_
  obtain rfl := Option.some.inj h
  exact fin_ret (v := (B false)) (results_ok Try.results48 (res_tmp (v := (B false)) rfl res_nil) rfl) ⟨rfl, rfl⟩ (H.sel' [] rfl rfl)

theorem c_cmp_Or_int {vals_0 : List Int} {avals_0 : Option Addr} {cvals_0 : Nat} {r : Int} (h : M.cmp_Or_int vals_0 = some r) :
    Cal2 Try.prog 62 [(Sl avals_0 vals_0 cvals_0)] [Ch.ro 0 (Sl avals_0 vals_0 cvals_0) vals_0] (fun n0 v L => v = (I r) ∧ L = []) := by
 refine cal2 (n := 18) Try.func62 rfl rfl rfl rfl ?_
 intro S0 σ0 n0 hn0 H
 unfold M.cmp_Or_int at h
 refine c_seq ?_
 refine rg ?_
 refine st (v := (I 0)) (rv_assign rfl) ?_
 refine w_end ?_
 refine q_then ?_
 refine c_seq ?_
 refine rg ?_
 refine st (v := (I 0)) (rv_assign rfl) ?_
 refine w_end ?_
 refine q_then ?_
 refine c_seq ?_
 refine c_seq ?_
 refine rg ?_
 refine st (v := (Sl avals_0 vals_0 cvals_0)) (rv_move rfl) ?_
 refine st (v := (I (vals_0.length : Int))) (rv_len Try.underlying37 rfl) ?_
 refine st (v := (I 0)) (rv_move rfl) ?_
 refine w_end ?_
 refine q_then ?_
 obtain ⟨o1, hj, h'⟩ := bind_some h
 clear h
 refine c_cut (fun e a w => (∃ t, o1 = (.inl t) ∧ e = .normal ∧ ∃ (ρ : Nat → Value) (σ : St), a = fr 18 (updL ρ [(3, (I 0))]) ∧ w = σ.w ∧ Hp S0 σ0 σ []) ∨ (∃ t, o1 = (.inr t) ∧ e = .ret ∧ ∃ (ρ : Nat → Value) (σ : St), a = fr 18 (updL ρ [(2, (I t))]) ∧ w = σ.w ∧ Hp S0 σ0 σ [])) ?_ ?_
 ·clear h'
  rename _ = some o1 => h
  refine c_blk ?_
  refine wp_loopM _ h (fun s2 a w => ∃ (ρ : Nat → Value) (σ : St), a = fr 18 (updL ρ [(3, (I 0)), (6, (Sl avals_0 vals_0 cvals_0)), (7, (I (vals_0.length : Int))), (8, (I s2))]) ∧ w = σ.w ∧ Hp S0 σ0 σ [Ch.ro 0 (Sl avals_0 vals_0 cvals_0) vals_0]) ⟨_, σ0, fr_join ⟨rfl, rfl, rfl, rfl, trivial⟩, rfl, H.sel' [0] rfl rfl⟩ ?_
  clear h H
  rintro s2 a w o ⟨ρ, σ3, rfl, rfl, H⟩ h hres
  refine c_seq ?_
  refine rg ?_
  refine st (v := (B (decide (s2 < (vals_0.length : Int))))) (rv_lss (a := s2) (b := (vals_0.length : Int)) rfl rfl) ?_
  refine w_end ?_
  refine q_then ?_
  refine c_seq ?_
  refine cd_cond (decide (s2 < (vals_0.length : Int))) rfl (fun hb4 => ?_) (fun hb4 => ?_)
  ·replace h := bif_t hb4 h
   refine c_skip ?_
   refine q_then ?_
   refine c_seq ?_
   refine c_blk ?_
   refine c_seq ?_
   refine rg ?_
   obtain ⟨x5, hx6, h'⟩ := bind_some h
   clear h
   have h := h'; clear h'
   obtain ⟨b8, o9, hi7, -⟩ := (H.ro 0 rfl).ix hx6
   refine st (v := (pt b8 o9)) (rv_ix Try.underlying37 ti3 rfl rfl hi7) ?_
   have hc10 := ((H.ro 0 rfl).at hx6 hi7).int
   refine st (v := (I x5)) (rv_load1 Try.underlying3 rfl rfl hc10) ?_
   refine st (v := (I x5)) (rv_assign rfl) ?_
   refine w_end ?_
   refine q_then ?_
   refine c_seq ?_
   refine rg ?_
   refine st (v := (I x5)) (rv_move rfl) ?_
   refine st (v := (I 0)) (rv_move rfl) ?_
   refine st (v := (B (x5 != 0))) (rv_neq (a := x5) (b := 0) rfl rfl) ?_
   refine w_end ?_
   refine q_then ?_
   refine cd_cond (x5 != 0) rfl (fun hb11 => ?_) (fun hb11 => ?_)
   ·replace h := bif_t hb11 h
    refine c_seq ?_
    refine rg ?_
    refine st (v := (I x5)) (rv_move rfl) ?_
    refine st (v := (I x5)) (rv_assign rfl) ?_
    refine w_end ?_
    refine q_then ?_
    refine c_ret ?_
    refine q_blk_r ?_
    refine q_then_r ?_
    refine q_then_r ?_
    refine q_blk_r ?_
    obtain rfl := Option.some.inj h
    obtain rfl := hres _ rfl
    exact .inr (⟨_, rfl, rfl, _, σ3, fr_join ⟨rfl, trivial⟩, rfl, H.sel' [] rfl rfl⟩)
   ·replace h := bif_f hb11 h
    refine c_skip ?_
    refine q_blk ?_
    refine q_then ?_
    refine rg ?_
    refine st (v := (I (w64 (s2 + 1)))) (rv_add (a := s2) (b := 1) rfl rfl) ?_
    refine st (v := (I (w64 (s2 + 1)))) (rv_move rfl) ?_
    refine w_end ?_
    refine q_then ?_
    obtain rfl := Option.some.inj h
    exact ⟨_, rfl, _, σ3, fr_join ⟨rfl, rfl, rfl, rfl, trivial⟩, rfl, H.sel' [0] rfl rfl⟩
  ·replace h := bif_f hb4 h
   refine c_exit ?_
   refine q_then_x ?_
   refine q_then_x ?_
   refine q_blk_hit ?_
   obtain rfl := Option.some.inj h
   obtain rfl := hres _ rfl
   exact .inl ⟨_, rfl, rfl, _, σ3, fr_join ⟨rfl, trivial⟩, rfl, H.sel' [] rfl rfl⟩
 ·clear hj
  have h := h'
  clear h' H
  rintro e a w (⟨t12, rfl, rfl, ρ, σ13, rfl, rfl, H⟩ | ⟨t14, rfl, rfl, ρ, σ15, rfl, rfl, H⟩)
  ·replace h := selim_l h
   refine q_then ?_
   refine c_seq ?_
   refine rg ?_
   refine st (v := (I 0)) (rv_move rfl) ?_
   refine st (v := (I 0)) (rv_assign rfl) ?_
   refine w_end ?_
   refine q_then ?_
   refine c_ret ?_
   obtain rfl := Option.some.inj h
   exact fin_ret (v := (I 0)) (results_ok Try.results62 (res_tmp (v := (I 0)) rfl res_nil) rfl) ⟨rfl, rfl⟩ (H.sel' [] rfl rfl)
  ·replace h := selim_r h
   refine q_then_r ?_
   obtain rfl := Option.some.inj h
   exact fin_ret (v := (I t14)) (results_ok Try.results62 (res_tmp (v := (I t14)) rfl res_nil) rfl) ⟨rfl, rfl⟩ (H.sel' [] rfl rfl)

theorem c_cmp_isNaN_int {x_0 : Int}  {r : Bool} (h : M.cmp_isNaN_int x_0 = some r) :
    Cal2 Try.prog 80 [(I x_0)] [] (fun n0 v L => v = (B r) ∧ L = []) := by
 refine cal2 (n := 6) Try.func80 rfl rfl rfl rfl ?_
 intro S0 σ0 n0 hn0 H
 unfold M.cmp_isNaN_int at h
 refine c_seq ?_
 refine rg ?_
 refine st (v := (B false)) (rv_assign rfl) ?_
 refine w_end ?_
 refine q_then ?_
 refine c_seq ?_
 refine rg ?_
 refine st (v := (I x_0)) (rv_move rfl) ?_
 refine st (v := (I x_0)) (rv_move rfl) ?_
 refine st (v := (B (x_0 != x_0))) (rv_neq (a := x_0) (b := x_0) rfl rfl) ?_
 refine st (v := (B (x_0 != x_0))) (rv_assign rfl) ?_
 refine w_end ?_
 refine q_then ?_
 refine c_ret ?_
 obtain rfl := Option.some.inj h
 exact fin_ret (v := (B (x_0 != x_0))) (results_ok Try.results80 (res_tmp (v := (B (x_0 != x_0))) rfl res_nil) rfl) ⟨rfl, rfl⟩ (H.sel' [] rfl rfl)

end Go.Vs
