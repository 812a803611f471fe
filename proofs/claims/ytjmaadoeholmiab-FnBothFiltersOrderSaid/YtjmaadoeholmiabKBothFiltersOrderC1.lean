/- The functions compute what their models say. -/
import Derived.Test.YtjmaadoeholmiabKBothFiltersOrderM
import Derived.Test.YtjmaadoeholmiabBothFiltersOrderEng1
import Derived.Test.YtjmaadoeholmiabProg
set_option linter.unusedVariables false
set_option linter.unusedSimpArgs false
set_option maxRecDepth 20000
namespace Go.Vs
open Go Go.Proofs
attribute [local irreducible] Code.wp Code.wpIn wpList wpListIn wpQuiet Calls CallsIn

theorem ti3 : TI Try.prog 3 (.int .i64 0) 1 8 := TI.mk' (by kernel_rfl)
theorem ti5 : TI Try.prog 5 (.int .u8 0) 1 1 := TI.mk' (by kernel_rfl)
theorem ti22 : TI Try.prog 22 (.slice none 0 0) 1 24 := TI.mk' (by kernel_rfl)
theorem ti25 : TI Try.prog 25 (.agg #[(.int .i64 0), (.int .i64 0), (.int .i64 0)]) 3 24 := TI.mk' (by kernel_rfl)
theorem ti71 : TI Try.prog 71 (.agg #[(.slice none 0 0), (.int .i64 0)]) 2 32 := TI.mk' (by kernel_rfl)
theorem bp25 {fs : Array Field} (hT : Try.prog.underlying 25 = some (.struct fs)) (w : World) : (fs.mapM (fun f => do pure (f.offset, ← sizeOf f.type)) : Sem (Array (Nat × Nat))).run Try.prog w = .ok #[(0, 1), (1, 1), (2, 1)] w := by
  rw [Try.underlying25] at hT; cases hT
  simp [run_typeInfo ti3]
theorem bp71 {fs : Array Field} (hT : Try.prog.underlying 71 = some (.struct fs)) (w : World) : (fs.mapM (fun f => do pure (f.offset, ← sizeOf f.type)) : Sem (Array (Nat × Nat))).run Try.prog w = .ok #[(0, 1), (1, 1)] w := by
  rw [Try.underlying71] at hT; cases hT
  simp [run_typeInfo ti22, run_typeInfo ti3]
theorem intfs25 : IntFs Try.prog 0 (Try.prog.fieldsOf 25).toList := by
  rw [Program.fieldsOf, Try.underlying25]
  exact ⟨rfl, by decide, Try.underlying3, ⟨rfl, by decide, Try.underlying3, ⟨rfl, by decide, Try.underlying3, trivial⟩⟩⟩

theorem c_spec_newReader {code_0 : List UInt8} {acode_0 : Option Addr} {ccode_0 : Nat} {r : ((List UInt8) × Int)} (h : M.spec_newReader code_0 = some r) :
    Cal2 Try.prog 32 [(Sl acode_0 code_0 ccode_0)] [Ch.ro 0 (Sl acode_0 code_0 ccode_0) code_0] (fun n0 v L => ∃ (bz1 : Nat), ∃ (az2 : Option Addr), ∃ (cz3 : Nat), v = (pt bz1 0) ∧ L = [Ch.bx n0 bz1 0 [(Sl az2 r.1 cz3), (I r.2)] [] [], Ch.ro 0 (Sl az2 r.1 cz3) r.1]) := by
 refine cal2 (n := 11) Try.func32 rfl rfl rfl rfl ?_
 intro S0 σ0 n0 hn0 H
 unfold M.spec_newReader at h
 refine c_seq ?_
 refine rg ?_
 refine st (v := (.pointer none)) (rv_assign rfl) ?_
 refine w_end ?_
 refine q_then ?_
 refine c_seq ?_
 refine c_seq ?_
 refine rg ?_
 refine st (v := (Sl acode_0 code_0 ccode_0)) (rv_move rfl) ?_
 refine st (v := (I (code_0.length : Int))) (rv_len Try.underlying22 rfl) ?_
 refine st (v := (B (decide (2000 < (code_0.length : Int))))) (rv_gtr (a := (code_0.length : Int)) (b := 2000) rfl rfl) ?_
 refine w_end ?_
 refine q_then ?_
 obtain ⟨o1, hj, h'⟩ := bind_some h
 clear h
 refine c_cut (fun e a w => e = .normal ∧ ∃ (ρ : Nat → Value) (σ : St) (aj1 : Option Addr) (cj2 : Nat), a = fr 11 (updL ρ [(0, (Sl aj1 o1 cj2))]) ∧ w = σ.w ∧ Hp S0 σ0 σ [Ch.ro 0 (Sl aj1 o1 cj2) o1]) ?_ ?_
 ·clear h'
  rename _ = some o1 => h
  refine cd_cond (decide (2000 < (code_0.length : Int))) rfl (fun hb2 => ?_) (fun hb2 => ?_)
  ·replace h := bif_t hb2 h
   refine rg ?_
   refine st (v := (Sl acode_0 code_0 ccode_0)) (rv_move rfl) ?_
   obtain ⟨xs3, hx4, h'⟩ := bind_some h
   clear h
   have h := h'; clear h'
   obtain ⟨a5, c6, hs7, hR8⟩ := (H.ro 0 rfl).slice hx4
   replace H := H.add (d := Ch.ro 0 (Sl a5 xs3 c6) xs3) hR8 (fun _ h => h)
   clear hR8
   refine st (v := (Sl a5 xs3 c6)) (rv_slice_h Try.underlying22 ti5 hs7 rfl rfl) ?_
   refine st (v := (Sl a5 xs3 c6)) (rv_assign rfl) ?_
   refine w_end ?_
   obtain rfl := Option.some.inj h
   exact ⟨rfl, _, σ0, a5, c6, fr_join ⟨rfl, trivial⟩, rfl, H.sel' [0] rfl rfl⟩
  ·replace h := bif_f hb2 h
   refine c_skip ?_
   obtain rfl := Option.some.inj h
   exact ⟨rfl, _, σ0, acode_0, ccode_0, fr_join ⟨rfl, trivial⟩, rfl, H.sel' [0] rfl rfl⟩
 ·clear hj
  have h := h'
  clear h' H
  rintro e a w ⟨rfl, ρ, σ9, a10, c11, rfl, rfl, H⟩
  refine q_then ?_
  refine c_seq ?_
  refine rg ?_
  refine st (v := (Sl a10 o1 c11)) (rv_move rfl) ?_
  refine st (v := (.agg #[(Sl a10 o1 c11), (I 0)])) (rv_build (ps := [(0, (Sl a10 o1 c11))]) Try.underlying71 ti71 (bp71 Try.underlying71) rfl (by kernel_rfl)) ?_
  refine st_ex (ex_box (cs := [(Sl a10 o1 c11), (I 0)]) H hn0 rfl rfl) wn ?_
  rintro _ σ13 ⟨b12, rfl, H, -⟩
  refine st (v := (pt b12 0)) (rv_assign rfl) ?_
  refine w_end ?_
  refine q_then ?_
  refine c_ret ?_
  obtain rfl := Option.some.inj h
  exact fin_ret (v := (pt b12 0)) (results_ok Try.results32 (res_tmp (v := (pt b12 0)) rfl res_nil) rfl) ⟨b12, a10, c11, rfl, rfl⟩ (H.sel' [0, 1] rfl rfl)

theorem c_spec_reader_pick {r_0 : (List UInt8) × Int} {n_1 : Int} {ar_0_0 : Option Addr} {cr_0_0 : Nat} {lor_0 br_0 or_0 : Nat} {prer_0 sufr_0 : List Value} {r : Int × ((List UInt8) × Int)} (h : M.spec_reader_pick r_0 n_1 = some r) :
    Cal2 Try.prog 55 [(pt br_0 or_0), (I n_1)] [Ch.bx lor_0 br_0 or_0 [(Sl ar_0_0 r_0.1 cr_0_0), (I r_0.2)] prer_0 sufr_0, Ch.ro 0 (Sl ar_0_0 r_0.1 cr_0_0) r_0.1] (fun n0 v L => ∃ (az1 : Option Addr), ∃ (cz2 : Nat), v = (I r.1) ∧ L = [Ch.bx lor_0 br_0 or_0 [(Sl az1 r.2.1 cz2), (I r.2.2)] prer_0 sufr_0, Ch.ro 0 (Sl az1 r.2.1 cz2) r.2.1]) := by
 refine cal2 (n := 99) Try.func55 rfl rfl rfl rfl ?_
 intro S0 σ0 n0 hn0 H
 unfold M.spec_reader_pick at h
 refine c_seq ?_
 refine rg ?_
 refine st (v := (I 0)) (rv_assign rfl) ?_
 refine w_end ?_
 refine q_then ?_
 refine c_seq ?_
 refine rg ?_
 refine st (v := (pt br_0 or_0)) (rv_move rfl) ?_
 refine st (v := (pt br_0 or_0)) (rv_move rfl) ?_
 refine st (v := (pt br_0 or_0)) (rv_nilCheck rfl) ?_
 refine st (v := (pt br_0 (or_0 + 1))) (rv_fieldAddr (off := 1) (ft := 3) Try.underlying71 rfl ti3 rfl rfl) ?_
 have hc1 := H.cell (u := (I r_0.2)) (o' := (or_0 + 1)) 0 1 rfl rfl rfl
 refine st (v := (I r_0.2)) (rv_load1 Try.underlying3 rfl rfl hc1) ?_
 refine st (v := (I (w64 (r_0.2 + 1)))) (rv_add (a := r_0.2) (b := 1) rfl rfl) ?_
 refine st (v := (pt br_0 or_0)) (rv_nilCheck rfl) ?_
 refine st (v := (pt br_0 (or_0 + 1))) (rv_fieldAddr (off := 1) (ft := 3) Try.underlying71 rfl ti3 rfl rfl) ?_
 refine st_exS (ex_store_box (k := 1) (cs := [(Sl ar_0_0 r_0.1 cr_0_0), (I r_0.2)]) (vs := [(I (w64 (r_0.2 + 1)))]) (cs' := [(Sl ar_0_0 r_0.1 cr_0_0), (I (w64 (r_0.2 + 1)))]) H (i := 0) rfl ti3 rfl rfl rfl rfl rfl (Nat.le_of_ble_eq_true rfl) (by simp [plain]) rfl) wn ?_
 rintro σ2 ⟨H, -⟩
 refine w_end ?_
 refine q_then ?_
 refine c_seq ?_
 refine c_seq ?_
 obtain ⟨o3, hj, h'⟩ := bind_some h
 clear h
 refine c_cut (fun e a w => e = .normal ∧ ∃ (ρ : Nat → Value) (σ : St), a = fr 99 (updL ρ [(0, (pt br_0 or_0)), (1, (I n_1)), (24, (B o3))]) ∧ w = σ.w ∧ Hp S0 σ0 σ [Ch.ro 0 (Sl ar_0_0 r_0.1 cr_0_0) r_0.1, Ch.bx lor_0 br_0 or_0 [(Sl ar_0_0 r_0.1 cr_0_0), (I (w64 (r_0.2 + 1)))] prer_0 sufr_0]) ?_ ?_
 ·clear h'
  rename _ = some o3 => h
  refine rg ?_
  refine st (v := (I n_1)) (rv_move rfl) ?_
  refine st (v := (B (decide (n_1 < 1)))) (rv_lss (a := n_1) (b := 1) rfl rfl) ?_
  refine st (v := (B (decide (n_1 < 1)))) (rv_move rfl) ?_
  rcases Bool.eq_false_or_eq_true (decide (n_1 < 1)) with hb4 | hb4
  ·replace h := bif_t hb4 h
   refine st_skip (congrArg some hb4) ?_
   refine st_skip (congrArg some hb4) ?_
   refine st_skip (congrArg some hb4) ?_
   refine st_skip (congrArg some hb4) ?_
   refine st_skip (congrArg some hb4) ?_
   refine st_skip (congrArg some hb4) ?_
   refine st (v := (B true)) (rv_pick_t (congrArg B hb4) rfl) ?_
   refine w_end ?_
   obtain rfl := Option.some.inj h
   exact ⟨rfl, _, σ2, fr_join ⟨rfl, rfl, rfl, trivial⟩, rfl, H.sel' [1, 0] rfl rfl⟩
  ·replace h := bif_f hb4 h
   refine st_g (v := (pt br_0 or_0)) (congrArg some hb4) (rv_move rfl) ?_
   refine st_g (v := (pt br_0 or_0)) (congrArg some hb4) (rv_nilCheck rfl) ?_
   refine st_g (v := (pt br_0 or_0)) (congrArg some hb4) (rv_fieldAddr (off := 0) (ft := 22) Try.underlying71 rfl ti22 rfl rfl) ?_
   have hc5 := H.cell (u := (Sl ar_0_0 r_0.1 cr_0_0)) (o' := or_0) 0 0 rfl rfl rfl
   refine st_g (v := (Sl ar_0_0 r_0.1 cr_0_0)) (congrArg some hb4) (rv_load1 Try.underlying22 rfl rfl hc5) ?_
   refine st_g (v := (I (r_0.1.length : Int))) (congrArg some hb4) (rv_len Try.underlying22 rfl) ?_
   refine st_g (v := (B ((r_0.1.length : Int) == 0))) (congrArg some hb4) (rv_eql (a := (r_0.1.length : Int)) (b := 0) rfl rfl) ?_
   refine st (v := (B ((r_0.1.length : Int) == 0))) (rv_pick_f (congrArg B hb4) rfl) ?_
   refine w_end ?_
   obtain rfl := Option.some.inj h
   exact ⟨rfl, _, σ2, fr_join ⟨rfl, rfl, rfl, trivial⟩, rfl, H.sel' [1, 0] rfl rfl⟩
 ·clear hj
  have h := h'
  clear h' H
  rintro e a w ⟨rfl, ρ, σ6, rfl, rfl, H⟩
  refine q_then ?_
  refine cd_cond o3 rfl (fun hb7 => ?_) (fun hb7 => ?_)
  ·replace h := bif_t hb7 h
   refine c_seq ?_
   refine rg ?_
   refine st (v := (I 0)) (rv_assign rfl) ?_
   refine w_end ?_
   refine q_then ?_
   refine c_ret ?_
   refine q_then_r ?_
   obtain rfl := Option.some.inj h
   exact fin_ret (v := (I 0)) (results_ok Try.results55 (res_tmp (v := (I 0)) rfl res_nil) rfl) ⟨ar_0_0, cr_0_0, rfl, rfl⟩ (H.sel' [1, 0] rfl rfl)
  ·replace h := bif_f hb7 h
   refine c_skip ?_
   refine q_then ?_
   refine c_seq ?_
   refine rg ?_
   refine st (v := (pt br_0 or_0)) (rv_move rfl) ?_
   refine st (v := (pt br_0 or_0)) (rv_nilCheck rfl) ?_
   refine st (v := (pt br_0 (or_0 + 1))) (rv_fieldAddr (off := 1) (ft := 3) Try.underlying71 rfl ti3 rfl rfl) ?_
   have hc8 := H.cell (u := (I (w64 (r_0.2 + 1)))) (o' := (or_0 + 1)) 1 1 rfl rfl rfl
   refine st (v := (I (w64 (r_0.2 + 1)))) (rv_load1 Try.underlying3 rfl rfl hc8) ?_
   refine st (v := (I (w64 ((w64 (r_0.2 + 1)) - 1)))) (rv_sub (a := (w64 (r_0.2 + 1))) (b := 1) rfl rfl) ?_
   refine st (v := (I (w64 ((w64 (r_0.2 + 1)) - 1)))) (rv_assign rfl) ?_
   refine w_end ?_
   refine q_then ?_
   refine c_seq ?_
   refine c_seq ?_
   refine rg ?_
   refine st (v := (I (w64 ((w64 (r_0.2 + 1)) - 1)))) (rv_move rfl) ?_
   refine st (v := (pt br_0 or_0)) (rv_move rfl) ?_
   refine st (v := (pt br_0 or_0)) (rv_nilCheck rfl) ?_
   refine st (v := (pt br_0 or_0)) (rv_fieldAddr (off := 0) (ft := 22) Try.underlying71 rfl ti22 rfl rfl) ?_
   have hc9 := H.cell (u := (Sl ar_0_0 r_0.1 cr_0_0)) (o' := or_0) 1 0 rfl rfl rfl
   refine st (v := (Sl ar_0_0 r_0.1 cr_0_0)) (rv_load1 Try.underlying22 rfl rfl hc9) ?_
   refine st (v := (I (r_0.1.length : Int))) (rv_len Try.underlying22 rfl) ?_
   refine st (v := (B (decide ((w64 ((w64 (r_0.2 + 1)) - 1)) < (r_0.1.length : Int))))) (rv_lss (a := (w64 ((w64 (r_0.2 + 1)) - 1))) (b := (r_0.1.length : Int)) rfl rfl) ?_
   refine w_end ?_
   refine q_then ?_
   refine cd_cond (decide ((w64 ((w64 (r_0.2 + 1)) - 1)) < (r_0.1.length : Int))) rfl (fun hb10 => ?_) (fun hb10 => ?_)
   ·replace h := bif_t hb10 h
    refine c_seq ?_
    refine rg ?_
    refine st (v := (pt br_0 or_0)) (rv_move rfl) ?_
    refine st (v := (pt br_0 or_0)) (rv_nilCheck rfl) ?_
    refine st (v := (pt br_0 or_0)) (rv_fieldAddr (off := 0) (ft := 22) Try.underlying71 rfl ti22 rfl rfl) ?_
    have hc11 := H.cell (u := (Sl ar_0_0 r_0.1 cr_0_0)) (o' := or_0) 1 0 rfl rfl rfl
    refine st (v := (Sl ar_0_0 r_0.1 cr_0_0)) (rv_load1 Try.underlying22 rfl rfl hc11) ?_
    refine st (v := (I (w64 ((w64 (r_0.2 + 1)) - 1)))) (rv_move rfl) ?_
    obtain ⟨x12, hx13, h'⟩ := bind_some h
    clear h
    have h := h'; clear h'
    obtain ⟨b15, o16, hi14, -⟩ := (H.ro 0 rfl).ix hx13
    refine st (v := (pt b15 o16)) (rv_ix Try.underlying22 ti5 rfl rfl hi14) ?_
    have hc17 := ((H.ro 0 rfl).at hx13 hi14).byte
    refine st (v := (.int .u8 (x12.toNat : Int))) (rv_load1 Try.underlying5 rfl rfl hc17) ?_
    refine st (v := (I (w64 (x12.toNat : Int)))) (rv_conv Try.underlying5 Try.underlying3 rfl) ?_
    refine st (v := (I n_1)) (rv_move rfl) ?_
    obtain ⟨q18, hx19, h'⟩ := bind_some h
    clear h
    have h := h'; clear h'
    refine st (v := (I q18)) (rv_remG (a := (w64 (x12.toNat : Int))) (b := n_1) hx19 rfl rfl) ?_
    refine st (v := (I q18)) (rv_assign rfl) ?_
    refine w_end ?_
    refine q_then ?_
    refine c_ret ?_
    refine q_then_r ?_
    obtain rfl := Option.some.inj h
    exact fin_ret (v := (I q18)) (results_ok Try.results55 (res_tmp (v := (I q18)) rfl res_nil) rfl) ⟨ar_0_0, cr_0_0, rfl, rfl⟩ (H.sel' [1, 0] rfl rfl)
   ·replace h := bif_f hb10 h
    refine c_skip ?_
    refine q_then ?_
    refine c_seq ?_
    refine rgP (σ := σ6) 44 (by kernel_rfl) (by kernel_rfl) (by kernel_rfl) ?_
    refine sq (v := (pt br_0 or_0)) (rv_move rfl) ?_
    refine sq (v := (pt br_0 or_0)) (rv_nilCheck rfl) ?_
    refine sq (v := (pt br_0 or_0)) (rv_fieldAddr (off := 0) (ft := 22) Try.underlying71 rfl ti22 rfl rfl) ?_
    have hc20 := H.cell (u := (Sl ar_0_0 r_0.1 cr_0_0)) (o' := or_0) 1 0 rfl rfl rfl
    refine sq (v := (Sl ar_0_0 r_0.1 cr_0_0)) (rv_load1 Try.underlying22 rfl rfl hc20) ?_
    refine sq (v := (I (w64 ((w64 (r_0.2 + 1)) - 1)))) (rv_move rfl) ?_
    refine sq (v := (pt br_0 or_0)) (rv_move rfl) ?_
    refine sq (v := (pt br_0 or_0)) (rv_nilCheck rfl) ?_
    refine sq (v := (pt br_0 or_0)) (rv_fieldAddr (off := 0) (ft := 22) Try.underlying71 rfl ti22 rfl rfl) ?_
    have hc21 := H.cell (u := (Sl ar_0_0 r_0.1 cr_0_0)) (o' := or_0) 1 0 rfl rfl rfl
    refine sq (v := (Sl ar_0_0 r_0.1 cr_0_0)) (rv_load1 Try.underlying22 rfl rfl hc21) ?_
    refine sq (v := (I (r_0.1.length : Int))) (rv_len Try.underlying22 rfl) ?_
    obtain ⟨q22, hx23, h'⟩ := bind_some h
    clear h
    have h := h'; clear h'
    refine sq (v := (I q22)) (rv_remG (a := (w64 ((w64 (r_0.2 + 1)) - 1))) (b := (r_0.1.length : Int)) hx23 rfl rfl) ?_
    obtain ⟨x24, hx25, h'⟩ := bind_some h
    clear h
    have h := h'; clear h'
    obtain ⟨b27, o28, hi26, -⟩ := (H.ro 0 rfl).ix hx25
    refine sq (v := (pt b27 o28)) (rv_ix Try.underlying22 ti5 rfl rfl hi26) ?_
    have hc29 := ((H.ro 0 rfl).at hx25 hi26).byte
    refine sq (v := (.int .u8 (x24.toNat : Int))) (rv_load1 Try.underlying5 rfl rfl hc29) ?_
    refine sq (v := (I (w64 (x24.toNat : Int)))) (rv_conv Try.underlying5 Try.underlying3 rfl) ?_
    refine sq (v := (I (w64 ((w64 (x24.toNat : Int)) * 131)))) (rv_mul (a := (w64 (x24.toNat : Int))) (b := 131) rfl rfl) ?_
    refine sq (v := (pt br_0 or_0)) (rv_move rfl) ?_
    refine sq (v := (pt br_0 or_0)) (rv_nilCheck rfl) ?_
    refine sq (v := (pt br_0 or_0)) (rv_fieldAddr (off := 0) (ft := 22) Try.underlying71 rfl ti22 rfl rfl) ?_
    have hc30 := H.cell (u := (Sl ar_0_0 r_0.1 cr_0_0)) (o' := or_0) 1 0 rfl rfl rfl
    refine sq (v := (Sl ar_0_0 r_0.1 cr_0_0)) (rv_load1 Try.underlying22 rfl rfl hc30) ?_
    refine sq (v := (I (w64 ((w64 (r_0.2 + 1)) - 1)))) (rv_move rfl) ?_
    refine sq (v := (I (w64 ((w64 ((w64 (r_0.2 + 1)) - 1)) * 7)))) (rv_mul (a := (w64 ((w64 (r_0.2 + 1)) - 1))) (b := 7) rfl rfl) ?_
    refine sq (v := (I (w64 ((w64 ((w64 ((w64 (r_0.2 + 1)) - 1)) * 7)) + 3)))) (rv_add (a := (w64 ((w64 ((w64 (r_0.2 + 1)) - 1)) * 7))) (b := 3) rfl rfl) ?_
    refine sq (v := (pt br_0 or_0)) (rv_move rfl) ?_
    refine sq (v := (pt br_0 or_0)) (rv_nilCheck rfl) ?_
    refine sq (v := (pt br_0 or_0)) (rv_fieldAddr (off := 0) (ft := 22) Try.underlying71 rfl ti22 rfl rfl) ?_
    have hc31 := H.cell (u := (Sl ar_0_0 r_0.1 cr_0_0)) (o' := or_0) 1 0 rfl rfl rfl
    refine sq (v := (Sl ar_0_0 r_0.1 cr_0_0)) (rv_load1 Try.underlying22 rfl rfl hc31) ?_
    refine sq (v := (I (r_0.1.length : Int))) (rv_len Try.underlying22 rfl) ?_
    obtain ⟨q32, hx33, h'⟩ := bind_some h
    clear h
    have h := h'; clear h'
    refine sq (v := (I q32)) (rv_remG (a := (w64 ((w64 ((w64 ((w64 (r_0.2 + 1)) - 1)) * 7)) + 3))) (b := (r_0.1.length : Int)) hx33 rfl rfl) ?_
    obtain ⟨x34, hx35, h'⟩ := bind_some h
    clear h
    have h := h'; clear h'
    obtain ⟨b37, o38, hi36, -⟩ := (H.ro 0 rfl).ix hx35
    refine sq (v := (pt b37 o38)) (rv_ix Try.underlying22 ti5 rfl rfl hi36) ?_
    have hc39 := ((H.ro 0 rfl).at hx35 hi36).byte
    refine sq (v := (.int .u8 (x34.toNat : Int))) (rv_load1 Try.underlying5 rfl rfl hc39) ?_
    refine sq (v := (I (w64 (x34.toNat : Int)))) (rv_conv Try.underlying5 Try.underlying3 rfl) ?_
    refine sq (v := (I (w64 ((w64 (x34.toNat : Int)) * 1117)))) (rv_mul (a := (w64 (x34.toNat : Int))) (b := 1117) rfl rfl) ?_
    refine sq (v := (I (w64 ((w64 ((w64 (x24.toNat : Int)) * 131)) + (w64 ((w64 (x34.toNat : Int)) * 1117)))))) (rv_add (a := (w64 ((w64 (x24.toNat : Int)) * 131))) (b := (w64 ((w64 (x34.toNat : Int)) * 1117))) rfl rfl) ?_
    refine sq (v := (I (w64 ((w64 (r_0.2 + 1)) - 1)))) (rv_move rfl) ?_
    refine sq (v := (I (w64 ((w64 ((w64 (r_0.2 + 1)) - 1)) * 29)))) (rv_mul (a := (w64 ((w64 (r_0.2 + 1)) - 1))) (b := 29) rfl rfl) ?_
    refine sq (v := (I (w64 ((w64 ((w64 ((w64 (x24.toNat : Int)) * 131)) + (w64 ((w64 (x34.toNat : Int)) * 1117)))) + (w64 ((w64 ((w64 (r_0.2 + 1)) - 1)) * 29)))))) (rv_add (a := (w64 ((w64 ((w64 (x24.toNat : Int)) * 131)) + (w64 ((w64 (x34.toNat : Int)) * 1117))))) (b := (w64 ((w64 ((w64 (r_0.2 + 1)) - 1)) * 29))) rfl rfl) ?_
    refine sq (v := (I (w64 ((w64 (r_0.2 + 1)) - 1)))) (rv_move rfl) ?_
    refine sq (v := (pt br_0 or_0)) (rv_move rfl) ?_
    refine sq (v := (pt br_0 or_0)) (rv_nilCheck rfl) ?_
    refine sq (v := (pt br_0 or_0)) (rv_fieldAddr (off := 0) (ft := 22) Try.underlying71 rfl ti22 rfl rfl) ?_
    have hc40 := H.cell (u := (Sl ar_0_0 r_0.1 cr_0_0)) (o' := or_0) 1 0 rfl rfl rfl
    refine sq (v := (Sl ar_0_0 r_0.1 cr_0_0)) (rv_load1 Try.underlying22 rfl rfl hc40) ?_
    refine sq (v := (I (r_0.1.length : Int))) (rv_len Try.underlying22 rfl) ?_
    obtain ⟨q41, hx42, h'⟩ := bind_some h
    clear h
    have h := h'; clear h'
    refine sq (v := (I q41)) (rv_quoG (a := (w64 ((w64 (r_0.2 + 1)) - 1))) (b := (r_0.1.length : Int)) hx42 rfl rfl) ?_
    refine sq (v := (I (w64 (q41 * 53)))) (rv_mul (a := q41) (b := 53) rfl rfl) ?_
    refine sq_end ?_
    intro σ43 hm44
    replace H := H.grow (hm44.mono fun _ h => h); clear hm44
    refine st (v := (I (w64 ((w64 ((w64 ((w64 ((w64 (x24.toNat : Int)) * 131)) + (w64 ((w64 (x34.toNat : Int)) * 1117)))) + (w64 ((w64 ((w64 (r_0.2 + 1)) - 1)) * 29)))) + (w64 (q41 * 53)))))) (rv_add (a := (w64 ((w64 ((w64 ((w64 (x24.toNat : Int)) * 131)) + (w64 ((w64 (x34.toNat : Int)) * 1117)))) + (w64 ((w64 ((w64 (r_0.2 + 1)) - 1)) * 29))))) (b := (w64 (q41 * 53))) rfl rfl) ?_
    refine st (v := (I (w64 ((w64 ((w64 ((w64 ((w64 (x24.toNat : Int)) * 131)) + (w64 ((w64 (x34.toNat : Int)) * 1117)))) + (w64 ((w64 ((w64 (r_0.2 + 1)) - 1)) * 29)))) + (w64 (q41 * 53)))))) (rv_assign rfl) ?_
    refine w_end ?_
    refine q_then ?_
    refine c_seq ?_
    refine rg ?_
    refine st (v := (I (w64 ((w64 ((w64 ((w64 ((w64 (x24.toNat : Int)) * 131)) + (w64 ((w64 (x34.toNat : Int)) * 1117)))) + (w64 ((w64 ((w64 (r_0.2 + 1)) - 1)) * 29)))) + (w64 (q41 * 53)))))) (rv_move rfl) ?_
    refine st (v := (I (w64 ((w64 ((w64 ((w64 ((w64 (x24.toNat : Int)) * 131)) + (w64 ((w64 (x34.toNat : Int)) * 1117)))) + (w64 ((w64 ((w64 (r_0.2 + 1)) - 1)) * 29)))) + (w64 (q41 * 53)))))) (rv_move rfl) ?_
    refine st (v := (I (w64 ((w64 ((w64 ((w64 ((w64 ((w64 (x24.toNat : Int)) * 131)) + (w64 ((w64 (x34.toNat : Int)) * 1117)))) + (w64 ((w64 ((w64 (r_0.2 + 1)) - 1)) * 29)))) + (w64 (q41 * 53)))).tdiv 64)))) (rv_quo (a := (w64 ((w64 ((w64 ((w64 ((w64 (x24.toNat : Int)) * 131)) + (w64 ((w64 (x34.toNat : Int)) * 1117)))) + (w64 ((w64 ((w64 (r_0.2 + 1)) - 1)) * 29)))) + (w64 (q41 * 53))))) (b := 64) rfl rfl (by decide)) ?_
    refine st (v := (I (gxor (w64 ((w64 ((w64 ((w64 ((w64 (x24.toNat : Int)) * 131)) + (w64 ((w64 (x34.toNat : Int)) * 1117)))) + (w64 ((w64 ((w64 (r_0.2 + 1)) - 1)) * 29)))) + (w64 (q41 * 53)))) (w64 ((w64 ((w64 ((w64 ((w64 ((w64 (x24.toNat : Int)) * 131)) + (w64 ((w64 (x34.toNat : Int)) * 1117)))) + (w64 ((w64 ((w64 (r_0.2 + 1)) - 1)) * 29)))) + (w64 (q41 * 53)))).tdiv 64))))) (rv_xor (a := (w64 ((w64 ((w64 ((w64 ((w64 (x24.toNat : Int)) * 131)) + (w64 ((w64 (x34.toNat : Int)) * 1117)))) + (w64 ((w64 ((w64 (r_0.2 + 1)) - 1)) * 29)))) + (w64 (q41 * 53))))) (b := (w64 ((w64 ((w64 ((w64 ((w64 ((w64 (x24.toNat : Int)) * 131)) + (w64 ((w64 (x34.toNat : Int)) * 1117)))) + (w64 ((w64 ((w64 (r_0.2 + 1)) - 1)) * 29)))) + (w64 (q41 * 53)))).tdiv 64))) rfl rfl) ?_
    refine st (v := (I (gxor (w64 ((w64 ((w64 ((w64 ((w64 (x24.toNat : Int)) * 131)) + (w64 ((w64 (x34.toNat : Int)) * 1117)))) + (w64 ((w64 ((w64 (r_0.2 + 1)) - 1)) * 29)))) + (w64 (q41 * 53)))) (w64 ((w64 ((w64 ((w64 ((w64 ((w64 (x24.toNat : Int)) * 131)) + (w64 ((w64 (x34.toNat : Int)) * 1117)))) + (w64 ((w64 ((w64 (r_0.2 + 1)) - 1)) * 29)))) + (w64 (q41 * 53)))).tdiv 64))))) (rv_assign rfl) ?_
    refine w_end ?_
    refine q_then ?_
    refine c_seq ?_
    refine rg ?_
    refine st (v := (I (gxor (w64 ((w64 ((w64 ((w64 ((w64 (x24.toNat : Int)) * 131)) + (w64 ((w64 (x34.toNat : Int)) * 1117)))) + (w64 ((w64 ((w64 (r_0.2 + 1)) - 1)) * 29)))) + (w64 (q41 * 53)))) (w64 ((w64 ((w64 ((w64 ((w64 ((w64 (x24.toNat : Int)) * 131)) + (w64 ((w64 (x34.toNat : Int)) * 1117)))) + (w64 ((w64 ((w64 (r_0.2 + 1)) - 1)) * 29)))) + (w64 (q41 * 53)))).tdiv 64))))) (rv_move rfl) ?_
    refine st (v := (I n_1)) (rv_move rfl) ?_
    obtain ⟨q45, hx46, h'⟩ := bind_some h
    clear h
    have h := h'; clear h'
    refine st (v := (I q45)) (rv_remG (a := (gxor (w64 ((w64 ((w64 ((w64 ((w64 (x24.toNat : Int)) * 131)) + (w64 ((w64 (x34.toNat : Int)) * 1117)))) + (w64 ((w64 ((w64 (r_0.2 + 1)) - 1)) * 29)))) + (w64 (q41 * 53)))) (w64 ((w64 ((w64 ((w64 ((w64 ((w64 (x24.toNat : Int)) * 131)) + (w64 ((w64 (x34.toNat : Int)) * 1117)))) + (w64 ((w64 ((w64 (r_0.2 + 1)) - 1)) * 29)))) + (w64 (q41 * 53)))).tdiv 64)))) (b := n_1) hx46 rfl rfl) ?_
    refine st (v := (I q45)) (rv_assign rfl) ?_
    refine w_end ?_
    refine q_then ?_
    refine c_ret ?_
    obtain rfl := Option.some.inj h
    exact fin_ret (v := (I q45)) (results_ok Try.results55 (res_tmp (v := (I q45)) rfl res_nil) rfl) ⟨ar_0_0, cr_0_0, rfl, rfl⟩ (H.sel' [1, 0] rfl rfl)

theorem c_spec_reader_one {r_0 : (List UInt8) × Int} {list_1 : List Int} {ar_0_0 : Option Addr} {cr_0_0 : Nat} {lor_0 br_0 or_0 : Nat} {prer_0 sufr_0 : List Value} {alist_1 : Option Addr} {clist_1 : Nat} {r : Int × ((List UInt8) × Int)} (h : M.spec_reader_one r_0 list_1 = some r) :
    Cal2 Try.prog 58 [(pt br_0 or_0), (Sl alist_1 list_1 clist_1)] [Ch.bx lor_0 br_0 or_0 [(Sl ar_0_0 r_0.1 cr_0_0), (I r_0.2)] prer_0 sufr_0, Ch.ro 0 (Sl ar_0_0 r_0.1 cr_0_0) r_0.1, Ch.ro 0 (Sl alist_1 list_1 clist_1) list_1] (fun n0 v L => ∃ (az1 : Option Addr), ∃ (cz2 : Nat), v = (I r.1) ∧ L = [Ch.bx lor_0 br_0 or_0 [(Sl az1 r.2.1 cz2), (I r.2.2)] prer_0 sufr_0, Ch.ro 0 (Sl az1 r.2.1 cz2) r.2.1]) := by
 refine cal2 (n := 12) Try.func58 rfl rfl rfl rfl ?_
 intro S0 σ0 n0 hn0 H
 unfold M.spec_reader_one at h
 refine c_seq ?_
 refine rg ?_
 refine st (v := (I 0)) (rv_assign rfl) ?_
 refine w_end ?_
 refine q_then ?_
 refine c_seq ?_
 refine rg ?_
 refine st (v := (Sl alist_1 list_1 clist_1)) (rv_move rfl) ?_
 refine st (v := (pt br_0 or_0)) (rv_move rfl) ?_
 refine st (v := (Sl alist_1 list_1 clist_1)) (rv_move rfl) ?_
 refine st (v := (I (list_1.length : Int))) (rv_len Try.underlying31 rfl) ?_
 obtain ⟨r1, hx2, h'⟩ := bind_some h
 clear h
 have h := h'; clear h'
 have hc3 := c_spec_reader_pick (lor_0 := lor_0) (br_0 := br_0) (or_0 := or_0) (prer_0 := prer_0) (sufr_0 := sufr_0) (ar_0_0 := ar_0_0) (cr_0_0 := cr_0_0) hx2
 refine st_call (cx_call hc3 (ent_f hc3.fn rfl) hn0 (show Hp S0 σ0 _ ([Ch.bx lor_0 br_0 or_0 [(Sl ar_0_0 r_0.1 cr_0_0), (I r_0.2)] prer_0 sufr_0, Ch.ro 0 (Sl ar_0_0 r_0.1 cr_0_0) r_0.1] ++ [Ch.ro 0 (Sl ar_0_0 r_0.1 cr_0_0) r_0.1, Ch.ro 0 (Sl alist_1 list_1 clist_1) list_1]) from (H.sel' [0, 1, 1, 2] rfl rfl))) wn ?_
 rintro _ σ6 ⟨_, ⟨a4, c5, rfl, rfl⟩, H, -⟩
 replace H : Hp S0 σ0 σ6 [Ch.bx lor_0 br_0 or_0 [(Sl a4 r1.2.1 c5), (I r1.2.2)] prer_0 sufr_0, Ch.ro 0 (Sl a4 r1.2.1 c5) r1.2.1, Ch.ro 0 (Sl ar_0_0 r_0.1 cr_0_0) r_0.1, Ch.ro 0 (Sl alist_1 list_1 clist_1) list_1] := H
 obtain ⟨x7, hx8, h'⟩ := bind_some h
 clear h
 have h := h'; clear h'
 obtain ⟨b10, o11, hi9, -⟩ := (H.ro 3 rfl).ix hx8
 refine st (v := (pt b10 o11)) (rv_ix Try.underlying31 ti3 rfl rfl hi9) ?_
 have hc12 := ((H.ro 3 rfl).at hx8 hi9).int
 refine st (v := (I x7)) (rv_load1 Try.underlying3 rfl rfl hc12) ?_
 refine st (v := (I x7)) (rv_assign rfl) ?_
 refine w_end ?_
 refine q_then ?_
 refine c_ret ?_
 obtain rfl := Option.some.inj h
 exact fin_ret (v := (I x7)) (results_ok Try.results58 (res_tmp (v := (I x7)) rfl res_nil) rfl) ⟨a4, c5, rfl, rfl⟩ (H.sel' [0, 1] rfl rfl)

theorem c_spec_anyFilter {r_0 : (List UInt8) × Int} {ar_0_0 : Option Addr} {cr_0_0 : Nat} {lor_0 br_0 or_0 : Nat} {prer_0 sufr_0 : List Value} {r : (Int × Int × Int) × ((List UInt8) × Int)} (h : M.spec_anyFilter r_0 = some r) :
    Cal2 Try.prog 34 [(pt br_0 or_0)] [Ch.bx lor_0 br_0 or_0 [(Sl ar_0_0 r_0.1 cr_0_0), (I r_0.2)] prer_0 sufr_0, Ch.ro 0 (Sl ar_0_0 r_0.1 cr_0_0) r_0.1] (fun n0 v L => ∃ (az1 : Option Addr), ∃ (cz2 : Nat), v = (.agg #[(I r.1.1), (I r.1.2.1), (I r.1.2.2)]) ∧ L = [Ch.bx lor_0 br_0 or_0 [(Sl az1 r.2.1 cz2), (I r.2.2)] prer_0 sufr_0, Ch.ro 0 (Sl az1 r.2.1 cz2) r.2.1]) := by
 refine cal2 (n := 22) Try.func34 rfl rfl rfl rfl ?_
 intro S0 σ0 n0 hn0 H
 unfold M.spec_anyFilter at h
 refine c_seq ?_
 refine rg ?_
 refine st_ex (ex_alloc (cs := [(I 0), (I 0), (I 0)]) H hn0 ti25 rfl) wn ?_
 rintro _ σ2 ⟨b1, rfl, H, -⟩
 refine w_end ?_
 refine q_then ?_
 refine c_seq ?_
 refine rg ?_
 refine st (v := (pt br_0 or_0)) (rv_move rfl) ?_
 refine st_ex (ex_buildSlice (el := n0) (xs := ([0, 1, 2, 0, 4, 3] : List Int)) (ps := [(0, (I 0)), (1, (I 1)), (2, (I 2)), (3, (I 0)), (4, (I 4)), (5, (I 3))]) (cs := [(I 0), (I 1), (I 2), (I 0), (I 4), (I 3)]) H hn0 Try.underlying31 ti3 rfl rfl (by kernel_rfl) (.cons (c := [(I 0)]) rfl (.cons (c := [(I 1)]) rfl (.cons (c := [(I 2)]) rfl (.cons (c := [(I 0)]) rfl (.cons (c := [(I 4)]) rfl (.cons (c := [(I 3)]) rfl (.nil))))))) rfl) wn ?_
 rintro _ σ4 ⟨b3, rfl, H, -⟩
 obtain ⟨σ5, hw6, H, -⟩ := H.pub 0 rfl (Nat.le_refl _)
 rw [← hw6]; clear hw6
 replace H := H.roLow 0 0 rfl (Nat.zero_le _)
 obtain ⟨r7, hx8, h'⟩ := bind_some h
 clear h
 have h := h'; clear h'
 have hc9 := c_spec_reader_one (lor_0 := lor_0) (br_0 := br_0) (or_0 := or_0) (prer_0 := prer_0) (sufr_0 := sufr_0) (ar_0_0 := ar_0_0) (cr_0_0 := cr_0_0) (alist_1 := (some ⟨b3, 0, none⟩)) (clist_1 := 6) hx8
 refine st_call (cx_call hc9 (ent_f hc9.fn rfl) hn0 (show Hp S0 σ0 _ ([Ch.bx lor_0 br_0 or_0 [(Sl ar_0_0 r_0.1 cr_0_0), (I r_0.2)] prer_0 sufr_0, Ch.ro 0 (Sl ar_0_0 r_0.1 cr_0_0) r_0.1, Ch.ro 0 (Sl (some ⟨b3, 0, none⟩) ([0, 1, 2, 0, 4, 3] : List Int) 6) ([0, 1, 2, 0, 4, 3] : List Int)] ++ [Ch.ro 0 (Sl (some ⟨b3, 0, none⟩) ([0, 1, 2, 0, 4, 3] : List Int) 6) ([0, 1, 2, 0, 4, 3] : List Int), Ch.ro n0 (Sl (some ⟨b3, 0, none⟩) ([0, 1, 2, 0, 4, 3] : List Int) 6) ([0, 1, 2, 0, 4, 3] : List Int), Ch.bx n0 b1 0 [(I 0), (I 0), (I 0)] [] [], Ch.ro 0 (Sl ar_0_0 r_0.1 cr_0_0) r_0.1]) from (H.sel' [3, 4, 0, 0, 1, 2, 4] rfl rfl))) wn ?_
 rintro _ σ12 ⟨_, ⟨a10, c11, rfl, rfl⟩, H, -⟩
 replace H : Hp S0 σ0 σ12 [Ch.bx lor_0 br_0 or_0 [(Sl a10 r7.2.1 c11), (I r7.2.2)] prer_0 sufr_0, Ch.ro 0 (Sl a10 r7.2.1 c11) r7.2.1, Ch.ro 0 (Sl (some ⟨b3, 0, none⟩) ([0, 1, 2, 0, 4, 3] : List Int) 6) ([0, 1, 2, 0, 4, 3] : List Int), Ch.ro n0 (Sl (some ⟨b3, 0, none⟩) ([0, 1, 2, 0, 4, 3] : List Int) 6) ([0, 1, 2, 0, 4, 3] : List Int), Ch.bx n0 b1 0 [(I 0), (I 0), (I 0)] [] [], Ch.ro 0 (Sl ar_0_0 r_0.1 cr_0_0) r_0.1] := H
 refine st (v := (pt br_0 or_0)) (rv_move rfl) ?_
 refine st_ex (ex_buildSlice (el := n0) (xs := ([0, 8, 1, 0, 2] : List Int)) (ps := [(0, (I 0)), (1, (I 8)), (2, (I 1)), (3, (I 0)), (4, (I 2))]) (cs := [(I 0), (I 8), (I 1), (I 0), (I 2)]) H hn0 Try.underlying31 ti3 rfl rfl (by kernel_rfl) (.cons (c := [(I 0)]) rfl (.cons (c := [(I 8)]) rfl (.cons (c := [(I 1)]) rfl (.cons (c := [(I 0)]) rfl (.cons (c := [(I 2)]) rfl (.nil)))))) rfl) wn ?_
 rintro _ σ14 ⟨b13, rfl, H, -⟩
 obtain ⟨σ15, hw16, H, -⟩ := H.pub 0 rfl (Nat.le_refl _)
 rw [← hw16]; clear hw16
 replace H := H.roLow 0 0 rfl (Nat.zero_le _)
 obtain ⟨r17, hx18, h'⟩ := bind_some h
 clear h
 have h := h'; clear h'
 have hc19 := c_spec_reader_one (lor_0 := lor_0) (br_0 := br_0) (or_0 := or_0) (prer_0 := prer_0) (sufr_0 := sufr_0) (ar_0_0 := a10) (cr_0_0 := c11) (alist_1 := (some ⟨b13, 0, none⟩)) (clist_1 := 5) hx18
 refine st_call (cx_call hc19 (ent_f hc19.fn rfl) hn0 (show Hp S0 σ0 _ ([Ch.bx lor_0 br_0 or_0 [(Sl a10 r7.2.1 c11), (I r7.2.2)] prer_0 sufr_0, Ch.ro 0 (Sl a10 r7.2.1 c11) r7.2.1, Ch.ro 0 (Sl (some ⟨b13, 0, none⟩) ([0, 8, 1, 0, 2] : List Int) 5) ([0, 8, 1, 0, 2] : List Int)] ++ [Ch.ro 0 (Sl (some ⟨b13, 0, none⟩) ([0, 8, 1, 0, 2] : List Int) 5) ([0, 8, 1, 0, 2] : List Int), Ch.ro n0 (Sl (some ⟨b13, 0, none⟩) ([0, 8, 1, 0, 2] : List Int) 5) ([0, 8, 1, 0, 2] : List Int), Ch.ro 0 (Sl a10 r7.2.1 c11) r7.2.1, Ch.ro 0 (Sl (some ⟨b3, 0, none⟩) ([0, 1, 2, 0, 4, 3] : List Int) 6) ([0, 1, 2, 0, 4, 3] : List Int), Ch.ro n0 (Sl (some ⟨b3, 0, none⟩) ([0, 1, 2, 0, 4, 3] : List Int) 6) ([0, 1, 2, 0, 4, 3] : List Int), Ch.bx n0 b1 0 [(I 0), (I 0), (I 0)] [] [], Ch.ro 0 (Sl ar_0_0 r_0.1 cr_0_0) r_0.1]) from (H.sel' [2, 3, 0, 0, 1, 3, 4, 5, 6, 7] rfl rfl))) wn ?_
 rintro _ σ22 ⟨_, ⟨a20, c21, rfl, rfl⟩, H, -⟩
 replace H : Hp S0 σ0 σ22 [Ch.bx lor_0 br_0 or_0 [(Sl a20 r17.2.1 c21), (I r17.2.2)] prer_0 sufr_0, Ch.ro 0 (Sl a20 r17.2.1 c21) r17.2.1, Ch.ro 0 (Sl (some ⟨b13, 0, none⟩) ([0, 8, 1, 0, 2] : List Int) 5) ([0, 8, 1, 0, 2] : List Int), Ch.ro n0 (Sl (some ⟨b13, 0, none⟩) ([0, 8, 1, 0, 2] : List Int) 5) ([0, 8, 1, 0, 2] : List Int), Ch.ro 0 (Sl a10 r7.2.1 c11) r7.2.1, Ch.ro 0 (Sl (some ⟨b3, 0, none⟩) ([0, 1, 2, 0, 4, 3] : List Int) 6) ([0, 1, 2, 0, 4, 3] : List Int), Ch.ro n0 (Sl (some ⟨b3, 0, none⟩) ([0, 1, 2, 0, 4, 3] : List Int) 6) ([0, 1, 2, 0, 4, 3] : List Int), Ch.bx n0 b1 0 [(I 0), (I 0), (I 0)] [] [], Ch.ro 0 (Sl ar_0_0 r_0.1 cr_0_0) r_0.1] := H
 replace H : Hp S0 σ0 σ22 [Ch.bx lor_0 br_0 or_0 [(Sl a20 r17.2.1 c21), (I r17.2.2)] prer_0 sufr_0, Ch.ro 0 (Sl a20 r17.2.1 c21) r17.2.1, Ch.bx n0 b1 0 [(I 0), (I 0), (I 0)] [] []] := H.sel' [0, 1, 7] rfl rfl
 refine st (v := (pt br_0 or_0)) (rv_move rfl) ?_
 refine st_ex (ex_buildSlice (el := n0) (xs := ([0, 0, 3, 12, 15] : List Int)) (ps := [(0, (I 0)), (1, (I 0)), (2, (I 3)), (3, (I 12)), (4, (I 15))]) (cs := [(I 0), (I 0), (I 3), (I 12), (I 15)]) H hn0 Try.underlying31 ti3 rfl rfl (by kernel_rfl) (.cons (c := [(I 0)]) rfl (.cons (c := [(I 0)]) rfl (.cons (c := [(I 3)]) rfl (.cons (c := [(I 12)]) rfl (.cons (c := [(I 15)]) rfl (.nil)))))) rfl) wn ?_
 rintro _ σ24 ⟨b23, rfl, H, -⟩
 obtain ⟨σ25, hw26, H, -⟩ := H.pub 0 rfl (Nat.le_refl _)
 rw [← hw26]; clear hw26
 replace H := H.roLow 0 0 rfl (Nat.zero_le _)
 obtain ⟨r27, hx28, h'⟩ := bind_some h
 clear h
 have h := h'; clear h'
 have hc29 := c_spec_reader_one (lor_0 := lor_0) (br_0 := br_0) (or_0 := or_0) (prer_0 := prer_0) (sufr_0 := sufr_0) (ar_0_0 := a20) (cr_0_0 := c21) (alist_1 := (some ⟨b23, 0, none⟩)) (clist_1 := 5) hx28
 refine st_call (cx_call hc29 (ent_f hc29.fn rfl) hn0 (show Hp S0 σ0 _ ([Ch.bx lor_0 br_0 or_0 [(Sl a20 r17.2.1 c21), (I r17.2.2)] prer_0 sufr_0, Ch.ro 0 (Sl a20 r17.2.1 c21) r17.2.1, Ch.ro 0 (Sl (some ⟨b23, 0, none⟩) ([0, 0, 3, 12, 15] : List Int) 5) ([0, 0, 3, 12, 15] : List Int)] ++ [Ch.ro 0 (Sl (some ⟨b23, 0, none⟩) ([0, 0, 3, 12, 15] : List Int) 5) ([0, 0, 3, 12, 15] : List Int), Ch.ro n0 (Sl (some ⟨b23, 0, none⟩) ([0, 0, 3, 12, 15] : List Int) 5) ([0, 0, 3, 12, 15] : List Int), Ch.ro 0 (Sl a20 r17.2.1 c21) r17.2.1, Ch.bx n0 b1 0 [(I 0), (I 0), (I 0)] [] []]) from (H.sel' [2, 3, 0, 0, 1, 3, 4] rfl rfl))) wn ?_
 rintro _ σ32 ⟨_, ⟨a30, c31, rfl, rfl⟩, H, -⟩
 replace H : Hp S0 σ0 σ32 [Ch.bx lor_0 br_0 or_0 [(Sl a30 r27.2.1 c31), (I r27.2.2)] prer_0 sufr_0, Ch.ro 0 (Sl a30 r27.2.1 c31) r27.2.1, Ch.ro 0 (Sl (some ⟨b23, 0, none⟩) ([0, 0, 3, 12, 15] : List Int) 5) ([0, 0, 3, 12, 15] : List Int), Ch.ro n0 (Sl (some ⟨b23, 0, none⟩) ([0, 0, 3, 12, 15] : List Int) 5) ([0, 0, 3, 12, 15] : List Int), Ch.ro 0 (Sl a20 r17.2.1 c21) r17.2.1, Ch.bx n0 b1 0 [(I 0), (I 0), (I 0)] [] []] := H
 refine st (v := (.agg #[(I r7.1), (I r17.1), (I r27.1)])) (rv_build (ps := [(0, (I r7.1)), (1, (I r17.1)), (2, (I r27.1))]) Try.underlying25 ti25 (bp25 Try.underlying25) rfl (by kernel_rfl)) ?_
 refine st_ex (ex_alloc (cs := [(I 0), (I 0), (I 0)]) H hn0 ti25 rfl) wn ?_
 rintro _ σ34 ⟨b33, rfl, H, -⟩
 refine st_exS (ex_store_box (k := 0) (cs := [(I 0), (I 0), (I 0)]) (vs := [(I r7.1), (I r17.1), (I r27.1)]) (cs' := [(I r7.1), (I r17.1), (I r27.1)]) H (i := 0) rfl ti25 rfl rfl rfl rfl rfl (Nat.le_of_ble_eq_true rfl) (by simp [plain]) rfl) wn ?_
 rintro σ35 ⟨H, -⟩
 refine w_end ?_
 refine q_then ?_
 refine c_seq ?_
 refine c_seq ?_
 refine rg ?_
 refine st (v := (pt br_0 or_0)) (rv_move rfl) ?_
 obtain ⟨r36, hx37, h'⟩ := bind_some h
 clear h
 have h := h'; clear h'
 have hc38 := c_spec_reader_pick (lor_0 := lor_0) (br_0 := br_0) (or_0 := or_0) (prer_0 := prer_0) (sufr_0 := sufr_0) (ar_0_0 := a30) (cr_0_0 := c31) hx37
 refine st_call (cx_call hc38 (ent_f hc38.fn rfl) hn0 (show Hp S0 σ0 _ ([Ch.bx lor_0 br_0 or_0 [(Sl a30 r27.2.1 c31), (I r27.2.2)] prer_0 sufr_0, Ch.ro 0 (Sl a30 r27.2.1 c31) r27.2.1] ++ [Ch.bx n0 b33 0 [(I r7.1), (I r17.1), (I r27.1)] [] [], Ch.ro 0 (Sl a30 r27.2.1 c31) r27.2.1, Ch.ro 0 (Sl (some ⟨b23, 0, none⟩) ([0, 0, 3, 12, 15] : List Int) 5) ([0, 0, 3, 12, 15] : List Int), Ch.ro n0 (Sl (some ⟨b23, 0, none⟩) ([0, 0, 3, 12, 15] : List Int) 5) ([0, 0, 3, 12, 15] : List Int), Ch.ro 0 (Sl a20 r17.2.1 c21) r17.2.1, Ch.bx n0 b1 0 [(I 0), (I 0), (I 0)] [] []]) from (H.sel' [1, 2, 0, 2, 3, 4, 5, 6] rfl rfl))) wn ?_
 rintro _ σ41 ⟨_, ⟨a39, c40, rfl, rfl⟩, H, -⟩
 replace H : Hp S0 σ0 σ41 [Ch.bx lor_0 br_0 or_0 [(Sl a39 r36.2.1 c40), (I r36.2.2)] prer_0 sufr_0, Ch.ro 0 (Sl a39 r36.2.1 c40) r36.2.1, Ch.bx n0 b33 0 [(I r7.1), (I r17.1), (I r27.1)] [] [], Ch.ro 0 (Sl a30 r27.2.1 c31) r27.2.1, Ch.ro 0 (Sl (some ⟨b23, 0, none⟩) ([0, 0, 3, 12, 15] : List Int) 5) ([0, 0, 3, 12, 15] : List Int), Ch.ro n0 (Sl (some ⟨b23, 0, none⟩) ([0, 0, 3, 12, 15] : List Int) 5) ([0, 0, 3, 12, 15] : List Int), Ch.ro 0 (Sl a20 r17.2.1 c21) r17.2.1, Ch.bx n0 b1 0 [(I 0), (I 0), (I 0)] [] []] := H
 replace H : Hp S0 σ0 σ41 [Ch.bx lor_0 br_0 or_0 [(Sl a39 r36.2.1 c40), (I r36.2.2)] prer_0 sufr_0, Ch.ro 0 (Sl a39 r36.2.1 c40) r36.2.1, Ch.bx n0 b33 0 [(I r7.1), (I r17.1), (I r27.1)] [] [], Ch.bx n0 b1 0 [(I 0), (I 0), (I 0)] [] []] := H.sel' [0, 1, 2, 7] rfl rfl
 refine st (v := (B (r36.1 == 0))) (rv_eql (a := r36.1) (b := 0) rfl rfl) ?_
 refine w_end ?_
 refine q_then ?_
 obtain ⟨o42, hj, h'⟩ := bind_some h
 clear h
 refine c_cut (fun e a w => e = .normal ∧ ∃ (ρ : Nat → Value) (σ : St) (aj1 : Option Addr) (cj2 : Nat), a = fr 22 (updL ρ [(0, (pt br_0 or_0)), (2, (pt b1 0)), (3, (pt b33 0))]) ∧ w = σ.w ∧ Hp S0 σ0 σ [Ch.bx lor_0 br_0 or_0 [(Sl aj1 o42.1.1 cj2), (I o42.1.2)] prer_0 sufr_0, Ch.ro 0 (Sl aj1 o42.1.1 cj2) o42.1.1, Ch.bx n0 b33 0 [(I o42.2.1), (I o42.2.2.1), (I o42.2.2.2)] [] [], Ch.bx n0 b1 0 [(I 0), (I 0), (I 0)] [] []]) ?_ ?_
 ·clear h'
  rename _ = some o42 => h
  refine cd_cond (r36.1 == 0) rfl (fun hb43 => ?_) (fun hb43 => ?_)
  ·replace h := bif_t hb43 h
   refine rg ?_
   refine st (v := (pt br_0 or_0)) (rv_move rfl) ?_
   refine st_ex (ex_buildSlice (el := n0) (xs := ([-1, 16] : List Int)) (ps := [(0, (I (-1))), (1, (I 16))]) (cs := [(I (-1)), (I 16)]) H hn0 Try.underlying31 ti3 rfl rfl (by kernel_rfl) (.cons (c := [(I (-1))]) rfl (.cons (c := [(I 16)]) rfl (.nil))) rfl) wn ?_
   rintro _ σ45 ⟨b44, rfl, H, -⟩
   obtain ⟨σ46, hw47, H, -⟩ := H.pub 0 rfl (Nat.le_refl _)
   rw [← hw47]; clear hw47
   replace H := H.roLow 0 0 rfl (Nat.zero_le _)
   obtain ⟨r48, hx49, h'⟩ := bind_some h
   clear h
   have h := h'; clear h'
   have hc50 := c_spec_reader_one (lor_0 := lor_0) (br_0 := br_0) (or_0 := or_0) (prer_0 := prer_0) (sufr_0 := sufr_0) (ar_0_0 := a39) (cr_0_0 := c40) (alist_1 := (some ⟨b44, 0, none⟩)) (clist_1 := 2) hx49
   refine st_call (cx_call hc50 (ent_f hc50.fn rfl) hn0 (show Hp S0 σ0 _ ([Ch.bx lor_0 br_0 or_0 [(Sl a39 r36.2.1 c40), (I r36.2.2)] prer_0 sufr_0, Ch.ro 0 (Sl a39 r36.2.1 c40) r36.2.1, Ch.ro 0 (Sl (some ⟨b44, 0, none⟩) ([-1, 16] : List Int) 2) ([-1, 16] : List Int)] ++ [Ch.ro 0 (Sl (some ⟨b44, 0, none⟩) ([-1, 16] : List Int) 2) ([-1, 16] : List Int), Ch.ro n0 (Sl (some ⟨b44, 0, none⟩) ([-1, 16] : List Int) 2) ([-1, 16] : List Int), Ch.ro 0 (Sl a39 r36.2.1 c40) r36.2.1, Ch.bx n0 b33 0 [(I r7.1), (I r17.1), (I r27.1)] [] [], Ch.bx n0 b1 0 [(I 0), (I 0), (I 0)] [] []]) from (H.sel' [2, 3, 0, 0, 1, 3, 4, 5] rfl rfl))) wn ?_
   rintro _ σ53 ⟨_, ⟨a51, c52, rfl, rfl⟩, H, -⟩
   replace H : Hp S0 σ0 σ53 [Ch.bx lor_0 br_0 or_0 [(Sl a51 r48.2.1 c52), (I r48.2.2)] prer_0 sufr_0, Ch.ro 0 (Sl a51 r48.2.1 c52) r48.2.1, Ch.ro 0 (Sl (some ⟨b44, 0, none⟩) ([-1, 16] : List Int) 2) ([-1, 16] : List Int), Ch.ro n0 (Sl (some ⟨b44, 0, none⟩) ([-1, 16] : List Int) 2) ([-1, 16] : List Int), Ch.ro 0 (Sl a39 r36.2.1 c40) r36.2.1, Ch.bx n0 b33 0 [(I r7.1), (I r17.1), (I r27.1)] [] [], Ch.bx n0 b1 0 [(I 0), (I 0), (I 0)] [] []] := H
   refine st (v := (pt b33 2)) (rv_fieldAddr (off := 2) (ft := 3) Try.underlying25 rfl ti3 rfl rfl) ?_
   refine st_exS (ex_store_box (k := 2) (cs := [(I r7.1), (I r17.1), (I r27.1)]) (vs := [(I r48.1)]) (cs' := [(I r7.1), (I r17.1), (I r48.1)]) H (i := 5) rfl ti3 rfl rfl rfl rfl rfl (Nat.le_of_ble_eq_true rfl) (by simp [plain]) rfl) wn ?_
   rintro σ54 ⟨H, -⟩
   refine w_end ?_
   obtain rfl := Option.some.inj h
   exact ⟨rfl, _, σ54, a51, c52, fr_join ⟨rfl, rfl, rfl, trivial⟩, rfl, H.sel' [1, 2, 0, 6] rfl rfl⟩
  ·replace h := bif_f hb43 h
   refine c_skip ?_
   obtain rfl := Option.some.inj h
   exact ⟨rfl, _, σ41, a39, c40, fr_join ⟨rfl, rfl, rfl, trivial⟩, rfl, H.sel' [0, 1, 2, 3] rfl rfl⟩
 ·clear hj
  have h := h'
  clear h' H
  rintro e a w ⟨rfl, ρ, σ55, a56, c57, rfl, rfl, H⟩
  refine q_then ?_
  refine c_seq ?_
  refine rg ?_
  have hc58 := H.cells 2 rfl
  refine st (v := (.agg #[(I o42.2.1), (I o42.2.2.1), (I o42.2.2.2)])) (rv_load (cs := [(I o42.2.1), (I o42.2.2.1), (I o42.2.2.2)]) Try.underlying25 rfl ti25 rfl rfl hc58) ?_
  refine st_exS (ex_store_box (k := 0) (cs := [(I 0), (I 0), (I 0)]) (vs := [(I o42.2.1), (I o42.2.2.1), (I o42.2.2.2)]) (cs' := [(I o42.2.1), (I o42.2.2.1), (I o42.2.2.2)]) H (i := 3) rfl ti25 rfl rfl rfl rfl rfl (Nat.le_of_ble_eq_true rfl) (by simp [plain]) rfl) wn ?_
  rintro σ59 ⟨H, -⟩
  refine w_end ?_
  refine q_then ?_
  refine c_ret ?_
  obtain rfl := Option.some.inj h
  exact fin_ret (v := (.agg #[(I o42.2.1), (I o42.2.2.1), (I o42.2.2.2)])) (results_ok Try.results34 (res_cell rfl (run_cellRes (cs := [(I o42.2.1), (I o42.2.2.1), (I o42.2.2.2)]) Try.underlying25 rfl ti25 rfl (H.cells 0 rfl)) res_nil) rfl) ⟨a56, c57, rfl, rfl⟩ (H.sel' [1, 2] rfl rfl)

theorem c_spec_DrawBothFilters {code_0 : List UInt8} {acode_0 : Option Addr} {ccode_0 : Nat} {r : (Int × Int × Int) × (Int × Int × Int)} (h : M.spec_DrawBothFilters code_0 = some r) :
    Cal2 Try.prog 19 [(Sl acode_0 code_0 ccode_0)] [Ch.ro 0 (Sl acode_0 code_0 ccode_0) code_0] (fun n0 v L => v = (.tuple #[(.agg #[(I r.1.1), (I r.1.2.1), (I r.1.2.2)]), (.agg #[(I r.2.1), (I r.2.2.1), (I r.2.2.2)])]) ∧ L = []) := by
 refine cal2 (n := 13) Try.func19 rfl rfl rfl rfl ?_
 intro S0 σ0 n0 hn0 H
 unfold M.spec_DrawBothFilters at h
 refine c_seq ?_
 refine rg ?_
 refine st_ex (ex_alloc (cs := [(I 0), (I 0), (I 0)]) H hn0 ti25 rfl) wn ?_
 rintro _ σ2 ⟨b1, rfl, H, -⟩
 refine st_ex (ex_alloc (cs := [(I 0), (I 0), (I 0)]) H hn0 ti25 rfl) wn ?_
 rintro _ σ4 ⟨b3, rfl, H, -⟩
 refine w_end ?_
 refine q_then ?_
 refine c_seq ?_
 refine rg ?_
 refine st (v := (Sl acode_0 code_0 ccode_0)) (rv_move rfl) ?_
 obtain ⟨r5, hx6, h'⟩ := bind_some h
 clear h
 have h := h'; clear h'
 have hc7 := c_spec_newReader (acode_0 := acode_0) (ccode_0 := ccode_0) hx6
 refine st_call (cx_call hc7 (ent_f hc7.fn rfl) hn0 (show Hp S0 σ0 _ ([Ch.ro 0 (Sl acode_0 code_0 ccode_0) code_0] ++ [Ch.bx n0 b3 0 [(I 0), (I 0), (I 0)] [] [], Ch.bx n0 b1 0 [(I 0), (I 0), (I 0)] [] [], Ch.ro 0 (Sl acode_0 code_0 ccode_0) code_0]) from (H.sel' [2, 0, 1, 2] rfl rfl))) wn ?_
 rintro _ σ11 ⟨_, ⟨b8, a9, c10, rfl, rfl⟩, H, -⟩
 replace H : Hp S0 σ0 σ11 [Ch.bx n0 b8 0 [(Sl a9 r5.1 c10), (I r5.2)] [] [], Ch.ro 0 (Sl a9 r5.1 c10) r5.1, Ch.bx n0 b3 0 [(I 0), (I 0), (I 0)] [] [], Ch.bx n0 b1 0 [(I 0), (I 0), (I 0)] [] [], Ch.ro 0 (Sl acode_0 code_0 ccode_0) code_0] := H
 refine st (v := (pt b8 0)) (rv_assign rfl) ?_
 refine w_end ?_
 refine q_then ?_
 refine c_seq ?_
 refine rg ?_
 refine st (v := (pt b8 0)) (rv_move rfl) ?_
 obtain ⟨r12, hx13, h'⟩ := bind_some h
 clear h
 have h := h'; clear h'
 have hc14 := c_spec_anyFilter (lor_0 := n0) (br_0 := b8) (or_0 := 0) (prer_0 := []) (sufr_0 := []) (ar_0_0 := a9) (cr_0_0 := c10) hx13
 refine st_call (cx_call hc14 (ent_f hc14.fn rfl) hn0 (show Hp S0 σ0 _ ([Ch.bx n0 b8 0 [(Sl a9 r5.1 c10), (I r5.2)] [] [], Ch.ro 0 (Sl a9 r5.1 c10) r5.1] ++ [Ch.ro 0 (Sl a9 r5.1 c10) r5.1, Ch.bx n0 b3 0 [(I 0), (I 0), (I 0)] [] [], Ch.bx n0 b1 0 [(I 0), (I 0), (I 0)] [] [], Ch.ro 0 (Sl acode_0 code_0 ccode_0) code_0]) from (H.sel' [0, 1, 1, 2, 3, 4] rfl rfl))) wn ?_
 rintro _ σ17 ⟨_, ⟨a15, c16, rfl, rfl⟩, H, -⟩
 replace H : Hp S0 σ0 σ17 [Ch.bx n0 b8 0 [(Sl a15 r12.2.1 c16), (I r12.2.2)] [] [], Ch.ro 0 (Sl a15 r12.2.1 c16) r12.2.1, Ch.ro 0 (Sl a9 r5.1 c10) r5.1, Ch.bx n0 b3 0 [(I 0), (I 0), (I 0)] [] [], Ch.bx n0 b1 0 [(I 0), (I 0), (I 0)] [] [], Ch.ro 0 (Sl acode_0 code_0 ccode_0) code_0] := H
 refine st_ex (ex_alloc (cs := [(I 0), (I 0), (I 0)]) H hn0 ti25 rfl) wn ?_
 rintro _ σ19 ⟨b18, rfl, H, -⟩
 refine st_exS (ex_store_box (k := 0) (cs := [(I 0), (I 0), (I 0)]) (vs := [(I r12.1.1), (I r12.1.2.1), (I r12.1.2.2)]) (cs' := [(I r12.1.1), (I r12.1.2.1), (I r12.1.2.2)]) H (i := 0) rfl ti25 rfl rfl rfl rfl rfl (Nat.le_of_ble_eq_true rfl) (by simp [plain]) rfl) wn ?_
 rintro σ20 ⟨H, -⟩
 refine w_end ?_
 refine q_then ?_
 refine c_seq ?_
 have hc21 := H.cells 0 rfl
 obtain ⟨r22, hx23, h'⟩ := bind_some h
 clear h
 have h := h'; clear h'
 have hc24 := c_spec_anyFilter (lor_0 := n0) (br_0 := b8) (or_0 := 0) (prer_0 := []) (sufr_0 := []) (ar_0_0 := a15) (cr_0_0 := c16) hx23
 have Hs := H
 refine rg2 (σ := σ20) (Nm := (Option Addr) × (Nat)) 3 [2] [[false], [true]] [[(0, 0), (1, 1)], [(0, 0)], [(0, 1)]] 1 [fun ((a25, c26) : (Option Addr) × (Nat)) => fun σm => Hp S0 σ0 σm [Ch.bx n0 b18 0 [(I r12.1.1), (I r12.1.2.1), (I r12.1.2.2)] [] [], Ch.bx n0 b8 0 [(Sl a15 r12.2.1 c16), (I r12.2.2)] [] [], Ch.ro 0 (Sl a15 r12.2.1 c16) r12.2.1, Ch.ro 0 (Sl a9 r5.1 c10) r5.1, Ch.bx n0 b3 0 [(I 0), (I 0), (I 0)] [] [], Ch.bx n0 b1 0 [(I 0), (I 0), (I 0)] [] [], Ch.ro 0 (Sl acode_0 code_0 ccode_0) code_0] ∧ Md (cov []) σ20 σm, fun ((a25, c26) : (Option Addr) × (Nat)) => fun σm => Hp S0 σ0 σm [Ch.bx n0 b8 0 [(Sl a25 r22.2.1 c26), (I r22.2.2)] [] [], Ch.ro 0 (Sl a25 r22.2.1 c26) r22.2.1, Ch.bx n0 b18 0 [(I r12.1.1), (I r12.1.2.1), (I r12.1.2.2)] [] [], Ch.ro 0 (Sl a15 r12.2.1 c16) r12.2.1, Ch.ro 0 (Sl a9 r5.1 c10) r5.1, Ch.bx n0 b3 0 [(I 0), (I 0), (I 0)] [] [], Ch.bx n0 b1 0 [(I 0), (I 0), (I 0)] [] [], Ch.ro 0 (Sl acode_0 code_0 ccode_0) code_0] ∧ Md (fun i => (cov []) i ∨ (cov [Ch.bx n0 b8 0 [(Sl a15 r12.2.1 c16), (I r12.2.2)] [] [], Ch.ro 0 (Sl a15 r12.2.1 c16) r12.2.1]) i) σ20 σm] [fun ((a25, c26) : (Option Addr) × (Nat)) => (.agg #[(I r12.1.1), (I r12.1.2.1), (I r12.1.2.2)]), fun ((a25, c26) : (Option Addr) × (Nat)) => (pt b8 0), fun ((a25, c26) : (Option Addr) × (Nat)) => (.agg #[(I r22.1.1), (I r22.1.2.1), (I r22.1.2.2)])] (none, 0) (by kernel_rfl) (by kernel_rfl) ?_ ?_ ?_
 ·intro σm m0
  exact ⟨H.grow (m0.mono fun _ h => h.elim), m0⟩
 ·refine all_cons (by
    refine ⟨?_, ?_⟩
    ·rintro ⟨a25, c26⟩ ρ σm hJ hoff hdep
     have e5 := look_off (N := 13) (hoff 5 rfl) rfl
     obtain ⟨H, m⟩ := id hJ
     have hc21 := H.cells 0 rfl
     exact dp_v (v := (.agg #[(I r12.1.1), (I r12.1.2.1), (I r12.1.2.2)])) wn (rv_load (cs := [(I r12.1.1), (I r12.1.2.1), (I r12.1.2.2)]) Try.underlying25 rfl ti25 e5 rfl hc21) rfl hJ
    refine ⟨?_, ?_⟩
    ·rintro ⟨a25, c26⟩ ρ σm hJ hoff hdep
     have e5 := look_off (N := 13) (hoff 5 rfl) rfl
     obtain ⟨H, m⟩ := id hJ
     have hc21 := H.cells 2 rfl
     exact dp_v (v := (.agg #[(I r12.1.1), (I r12.1.2.1), (I r12.1.2.2)])) wn (rv_load (cs := [(I r12.1.1), (I r12.1.2.1), (I r12.1.2.2)]) Try.underlying25 rfl ti25 e5 rfl hc21) rfl hJ
    trivial) ?_
  refine ac rfl (by
    intro k; rintro ⟨a25, c26⟩ ρ σm hJ hoff hdep
    have e4 := look_off (N := 13) (hoff 4 rfl) rfl
    exact dp_v (v := (pt b8 0)) wn (rv_move e4) rfl hJ) ?_
  refine all_cons (by
    refine ⟨?_, ?_⟩
    ·rintro ⟨a25, c26⟩ ρ σm hJ hoff hdep
     have e11 : look 13 ρ 11 = (pt b8 0) := hdep 1 rfl rfl 11 rfl
     obtain ⟨H, m⟩ := id hJ
     refine dp_cx wn (cx_call hc24 (ent_f hc24.fn (by show [look 13 ρ 11] = _; rw [e11])) hn0 (show Hp S0 σ0 _ ([Ch.bx n0 b8 0 [(Sl a15 r12.2.1 c16), (I r12.2.2)] [] [], Ch.ro 0 (Sl a15 r12.2.1 c16) r12.2.1] ++ [Ch.bx n0 b18 0 [(I r12.1.1), (I r12.1.2.1), (I r12.1.2.2)] [] [], Ch.ro 0 (Sl a15 r12.2.1 c16) r12.2.1, Ch.ro 0 (Sl a9 r5.1 c10) r5.1, Ch.bx n0 b3 0 [(I 0), (I 0), (I 0)] [] [], Ch.bx n0 b1 0 [(I 0), (I 0), (I 0)] [] [], Ch.ro 0 (Sl acode_0 code_0 ccode_0) code_0]) from (H.sel' [1, 2, 0, 2, 3, 4, 5, 6] rfl rfl))) ?_
     rintro _ σq ⟨_, ⟨a25x, c26x, rfl, rfl⟩, H2, m2⟩
     exact ⟨_, (a25x, c26x), rfl, rfl, ⟨H2.sel' [0, 1, 2, 3, 4, 5, 6, 7] rfl rfl, m.comp m2⟩, stab [0, 1] (by kernel_rfl) ⟨rfl, rfl, trivial⟩⟩
    trivial) ?_
  exact all_nil
 ·rintro ⟨a25, c26⟩ ρ σ27 hJ hoff hrel
  have e2 := look_off (N := 13) (hoff 2 rfl) rfl
  have e3 := look_off (N := 13) (hoff 3 rfl) rfl
  have e10 := hrel 0 rfl 10 rfl
  have e12 := hrel 2 rfl 12 rfl
  obtain ⟨H, -⟩ := (show Hp S0 σ0 σ27 [Ch.bx n0 b8 0 [(Sl a25 r22.2.1 c26), (I r22.2.2)] [] [], Ch.ro 0 (Sl a25 r22.2.1 c26) r22.2.1, Ch.bx n0 b18 0 [(I r12.1.1), (I r12.1.2.1), (I r12.1.2.2)] [] [], Ch.ro 0 (Sl a15 r12.2.1 c16) r12.2.1, Ch.ro 0 (Sl a9 r5.1 c10) r5.1, Ch.bx n0 b3 0 [(I 0), (I 0), (I 0)] [] [], Ch.bx n0 b1 0 [(I 0), (I 0), (I 0)] [] [], Ch.ro 0 (Sl acode_0 code_0 ccode_0) code_0] ∧ Md (fun i => (cov []) i ∨ (cov [Ch.bx n0 b8 0 [(Sl a15 r12.2.1 c16), (I r12.2.2)] [] [], Ch.ro 0 (Sl a15 r12.2.1 c16) r12.2.1]) i) σ20 σ27 from hJ)
  clear hJ Hs
  rw [fr_lookL (L := [(2, (pt b1 0)), (3, (pt b3 0)), (10, (.agg #[(I r12.1.1), (I r12.1.2.1), (I r12.1.2.2)])), (12, (.agg #[(I r22.1.1), (I r22.1.2.1), (I r22.1.2.2)]))]) ⟨e2, e3, e10, e12, trivial⟩]
  clear hoff hrel e2 e3 e10 e12
  refine st_exS (ex_store_box (k := 0) (cs := [(I 0), (I 0), (I 0)]) (vs := [(I r12.1.1), (I r12.1.2.1), (I r12.1.2.2)]) (cs' := [(I r12.1.1), (I r12.1.2.1), (I r12.1.2.2)]) H (i := 6) rfl ti25 rfl rfl rfl rfl rfl (Nat.le_of_ble_eq_true rfl) (by simp [plain]) rfl) wn ?_
  rintro σ28 ⟨H, -⟩
  replace H : Hp S0 σ0 σ28 [Ch.bx n0 b1 0 [(I r12.1.1), (I r12.1.2.1), (I r12.1.2.2)] [] [], Ch.bx n0 b3 0 [(I 0), (I 0), (I 0)] [] []] := H.sel' [0, 6] rfl rfl
  refine st_exS (ex_store_box (k := 0) (cs := [(I 0), (I 0), (I 0)]) (vs := [(I r22.1.1), (I r22.1.2.1), (I r22.1.2.2)]) (cs' := [(I r22.1.1), (I r22.1.2.1), (I r22.1.2.2)]) H (i := 1) rfl ti25 rfl rfl rfl rfl rfl (Nat.le_of_ble_eq_true rfl) (by simp [plain]) rfl) wn ?_
  rintro σ29 ⟨H, -⟩
  refine w_end ?_
  refine q_then ?_
  refine c_ret ?_
  obtain rfl := Option.some.inj h
  exact fin_ret (v := (.tuple #[(.agg #[(I r12.1.1), (I r12.1.2.1), (I r12.1.2.2)]), (.agg #[(I r22.1.1), (I r22.1.2.1), (I r22.1.2.2)])])) (results_ok Try.results19 (res_cell rfl (run_cellRes (cs := [(I r12.1.1), (I r12.1.2.1), (I r12.1.2.2)]) Try.underlying25 rfl ti25 rfl (H.cells 1 rfl)) (res_cell rfl (run_cellRes (cs := [(I r22.1.1), (I r22.1.2.1), (I r22.1.2.2)]) Try.underlying25 rfl ti25 rfl (H.cells 0 rfl)) res_nil)) rfl) ⟨rfl, rfl⟩ (H.sel' [] rfl rfl)

theorem c_impl_validTags {tags_0 : Int}  {r : Bool} (h : M.impl_validTags tags_0 = some r) :
    Cal2 Try.prog 41 [(I tags_0)] [] (fun n0 v L => v = (B r) ∧ L = []) := by
 refine cal2 (n := 9) Try.func41 rfl rfl rfl rfl ?_
 intro S0 σ0 n0 hn0 H
 unfold M.impl_validTags at h
 refine c_seq ?_
 refine rg ?_
 refine st (v := (B false)) (rv_assign rfl) ?_
 refine w_end ?_
 refine q_then ?_
 refine c_seq ?_
 refine rg ?_
 refine st (v := (I tags_0)) (rv_move rfl) ?_
 refine st (v := (B (decide (0 ≤ tags_0)))) (rv_geq (a := tags_0) (b := 0) rfl rfl) ?_
 refine st (v := (B (decide (0 ≤ tags_0)))) (rv_move rfl) ?_
 rcases Bool.eq_false_or_eq_true (decide (0 ≤ tags_0)) with hb1 | hb1
 ·replace h := bif_t hb1 h
  refine st_g (v := (I tags_0)) (congrArg some hb1) (rv_move rfl) ?_
  refine st_g (v := (B (decide (tags_0 ≤ 15)))) (congrArg some hb1) (rv_leq (a := tags_0) (b := 15) rfl rfl) ?_
  refine st (v := (B (decide (tags_0 ≤ 15)))) (rv_pick_t (congrArg B hb1) rfl) ?_
  refine st (v := (B (decide (tags_0 ≤ 15)))) (rv_assign rfl) ?_
  refine w_end ?_
  refine q_then ?_
  refine c_ret ?_
  obtain rfl := Option.some.inj h
  exact fin_ret (v := (B (decide (tags_0 ≤ 15)))) (results_ok Try.results41 (res_tmp (v := (B (decide (tags_0 ≤ 15)))) rfl res_nil) rfl) ⟨rfl, rfl⟩ (H.sel' [] rfl rfl)
 ·replace h := bif_f hb1 h
  refine st_skip (congrArg some hb1) ?_
  refine st_skip (congrArg some hb1) ?_
  refine st (v := (B false)) (rv_pick_f (congrArg B hb1) rfl) ?_
  refine st (v := (B false)) (rv_assign rfl) ?_
  refine w_end ?_
  refine q_then ?_
  refine c_ret ?_
  obtain rfl := Option.some.inj h
  exact fin_ret (v := (B false)) (results_ok Try.results41 (res_tmp (v := (B false)) rfl res_nil) rfl) ⟨rfl, rfl⟩ (H.sel' [] rfl rfl)

theorem c_impl_ValidFilter {f_0 : Int × Int × Int}  {r : Bool} (h : M.impl_ValidFilter f_0 = some r) :
    Cal2 Try.prog 18 [(.agg #[(I f_0.1), (I f_0.2.1), (I f_0.2.2)])] [] (fun n0 v L => v = (B r) ∧ L = []) := by
 refine cal2 (n := 16) Try.func18 rfl rfl rfl rfl ?_
 intro S0 σ0 n0 hn0 H
 unfold M.impl_ValidFilter at h
 refine c_seq ?_
 refine rg ?_
 refine st_ex (ex_box (cs := [(I f_0.1), (I f_0.2.1), (I f_0.2.2)]) H hn0 rfl rfl) wn ?_
 rintro _ σ2 ⟨b1, rfl, H, -⟩
 refine st (v := (B false)) (rv_assign rfl) ?_
 refine w_end ?_
 refine q_then ?_
 refine c_seq ?_
 refine rg ?_
 refine st (v := (pt b1 0)) (rv_fieldAddr (off := 0) (ft := 3) Try.underlying25 rfl ti3 rfl rfl) ?_
 have hc3 := H.cell (u := (I f_0.1)) (o' := 0) 0 0 rfl rfl rfl
 refine st (v := (I f_0.1)) (rv_load1 Try.underlying3 rfl rfl hc3) ?_
 obtain ⟨r4, hx5, h'⟩ := bind_some h
 clear h
 have h := h'; clear h'
 have hc6 := c_impl_validTags hx5
 refine st_call (cx_call hc6 (ent_f hc6.fn rfl) hn0 (show Hp S0 σ0 _ ([] ++ [Ch.bx n0 b1 0 [(I f_0.1), (I f_0.2.1), (I f_0.2.2)] [] []]) from (H.sel' [0] rfl rfl))) wn ?_
 rintro _ σ7 ⟨_, ⟨rfl, rfl⟩, H, -⟩
 replace H : Hp S0 σ0 σ7 [Ch.bx n0 b1 0 [(I f_0.1), (I f_0.2.1), (I f_0.2.2)] [] []] := H
 refine st (v := (B r4)) (rv_move rfl) ?_
 rcases Bool.eq_false_or_eq_true r4 with hb8 | hb8
 ·replace h := bif_t hb8 h
  refine st_g (v := (pt b1 1)) (congrArg some hb8) (rv_fieldAddr (off := 1) (ft := 3) Try.underlying25 rfl ti3 rfl rfl) ?_
  have hc9 := H.cell (u := (I f_0.2.1)) (o' := 1) 0 1 rfl rfl rfl
  refine st_g (v := (I f_0.2.1)) (congrArg some hb8) (rv_load1 Try.underlying3 rfl rfl hc9) ?_
  obtain ⟨r10, hx11, h'⟩ := bind_some h
  clear h
  have h := h'; clear h'
  have hc12 := c_impl_validTags hx11
  refine st_call (cx_call hc12 (ent_f hc12.fn rfl) hn0 (show Hp S0 σ0 _ ([] ++ [Ch.bx n0 b1 0 [(I f_0.1), (I f_0.2.1), (I f_0.2.2)] [] []]) from (H.sel' [0] rfl rfl))) (wanted_yes rfl (by exact (congrArg some hb8))) ?_
  rintro _ σ13 ⟨_, ⟨rfl, rfl⟩, H, -⟩
  replace H : Hp S0 σ0 σ13 [Ch.bx n0 b1 0 [(I f_0.1), (I f_0.2.1), (I f_0.2.2)] [] []] := H
  refine st (v := (B r10)) (rv_pick_t (congrArg B hb8) rfl) ?_
  refine st (v := (B r10)) (rv_move rfl) ?_
  rcases Bool.eq_false_or_eq_true r10 with hb14 | hb14
  ·replace h := bif_t hb14 h
   refine st_g (v := (pt b1 2)) (congrArg some hb14) (rv_fieldAddr (off := 2) (ft := 3) Try.underlying25 rfl ti3 rfl rfl) ?_
   have hc15 := H.cell (u := (I f_0.2.2)) (o' := 2) 0 2 rfl rfl rfl
   refine st_g (v := (I f_0.2.2)) (congrArg some hb14) (rv_load1 Try.underlying3 rfl rfl hc15) ?_
   obtain ⟨r16, hx17, h'⟩ := bind_some h
   clear h
   have h := h'; clear h'
   have hc18 := c_impl_validTags hx17
   refine st_call (cx_call hc18 (ent_f hc18.fn rfl) hn0 (show Hp S0 σ0 _ ([] ++ [Ch.bx n0 b1 0 [(I f_0.1), (I f_0.2.1), (I f_0.2.2)] [] []]) from (H.sel' [0] rfl rfl))) (wanted_yes rfl (by exact (congrArg some hb14))) ?_
   rintro _ σ19 ⟨_, ⟨rfl, rfl⟩, H, -⟩
   replace H : Hp S0 σ0 σ19 [Ch.bx n0 b1 0 [(I f_0.1), (I f_0.2.1), (I f_0.2.2)] [] []] := H
   refine st (v := (B r16)) (rv_pick_t (congrArg B hb14) rfl) ?_
   refine st (v := (B r16)) (rv_assign rfl) ?_
   refine w_end ?_
   refine q_then ?_
   refine c_ret ?_
   obtain rfl := Option.some.inj h
   exact fin_ret (v := (B r16)) (results_ok Try.results18 (res_tmp (v := (B r16)) rfl res_nil) rfl) ⟨rfl, rfl⟩ (H.sel' [] rfl rfl)
  ·replace h := bif_f hb14 h
   refine st_skip (congrArg some hb14) ?_
   refine st_skip (congrArg some hb14) ?_
   refine st_skip (congrArg some hb14) ?_
   refine st (v := (B false)) (rv_pick_f (congrArg B hb14) rfl) ?_
   refine st (v := (B false)) (rv_assign rfl) ?_
   refine w_end ?_
   refine q_then ?_
   refine c_ret ?_
   obtain rfl := Option.some.inj h
   exact fin_ret (v := (B false)) (results_ok Try.results18 (res_tmp (v := (B false)) rfl res_nil) rfl) ⟨rfl, rfl⟩ (H.sel' [] rfl rfl)
 ·replace h := bif_f hb8 h
  refine st_skip (congrArg some hb8) ?_
  refine st_skip (congrArg some hb8) ?_
  refine st_skip (congrArg some hb8) ?_
  refine st (v := (B false)) (rv_pick_f (congrArg B hb8) rfl) ?_
  refine st (v := (B false)) (rv_move rfl) ?_
  refine st_skip rfl ?_
  refine st_skip rfl ?_
  refine st_skip rfl ?_
  refine st (v := (B false)) (rv_pick_f rfl rfl) ?_
  refine st (v := (B false)) (rv_assign rfl) ?_
  refine w_end ?_
  refine q_then ?_
  refine c_ret ?_
  obtain rfl := Option.some.inj h
  exact fin_ret (v := (B false)) (results_ok Try.results18 (res_tmp (v := (B false)) rfl res_nil) rfl) ⟨rfl, rfl⟩ (H.sel' [] rfl rfl)

theorem c_impl_BothFilters {f_0 : Int × Int × Int} {g_1 : Int × Int × Int}  {r : (Int × Int × Int) × Bool} (h : M.impl_BothFilters f_0 g_1 = some r) :
    Cal2 Try.prog 20 [(.agg #[(I f_0.1), (I f_0.2.1), (I f_0.2.2)]), (.agg #[(I g_1.1), (I g_1.2.1), (I g_1.2.2)])] [] (fun n0 v L => v = (.tuple #[(.agg #[(I r.1.1), (I r.1.2.1), (I r.1.2.2)]), (B r.2)]) ∧ L = []) := by
 refine cal2 (n := 41) Try.func20 rfl rfl rfl rfl ?_
 intro S0 σ0 n0 hn0 H
 unfold M.impl_BothFilters at h
 refine c_seq ?_
 refine rg ?_
 refine st_ex (ex_box (cs := [(I f_0.1), (I f_0.2.1), (I f_0.2.2)]) H hn0 rfl rfl) wn ?_
 rintro _ σ2 ⟨b1, rfl, H, -⟩
 refine st_ex (ex_box (cs := [(I g_1.1), (I g_1.2.1), (I g_1.2.2)]) H hn0 rfl rfl) wn ?_
 rintro _ σ4 ⟨b3, rfl, H, -⟩
 refine st_ex (ex_alloc (cs := [(I 0), (I 0), (I 0)]) H hn0 ti25 rfl) wn ?_
 rintro _ σ6 ⟨b5, rfl, H, -⟩
 refine st (v := (B false)) (rv_assign rfl) ?_
 refine w_end ?_
 refine q_then ?_
 refine c_seq ?_
 refine c_seq ?_
 obtain ⟨o7, hj, h'⟩ := bind_some h
 clear h
 refine c_cut (fun e a w => e = .normal ∧ ∃ (ρ : Nat → Value) (σ : St), a = fr 41 (updL ρ [(2, (pt b1 0)), (3, (pt b3 0)), (4, (pt b5 0)), (23, (B o7))]) ∧ w = σ.w ∧ Hp S0 σ0 σ [Ch.bx n0 b1 0 [(I f_0.1), (I f_0.2.1), (I f_0.2.2)] [] [], Ch.bx n0 b3 0 [(I g_1.1), (I g_1.2.1), (I g_1.2.2)] [] [], Ch.bx n0 b5 0 [(I 0), (I 0), (I 0)] [] []]) ?_ ?_
 ·clear h'
  rename _ = some o7 => h
  refine rg ?_
  have hc8 := H.cells 2 rfl
  refine st (v := (.agg #[(I f_0.1), (I f_0.2.1), (I f_0.2.2)])) (rv_load (cs := [(I f_0.1), (I f_0.2.1), (I f_0.2.2)]) Try.underlying25 rfl ti25 rfl rfl hc8) ?_
  obtain ⟨r9, hx10, h'⟩ := bind_some h
  clear h
  have h := h'; clear h'
  have hc11 := c_impl_ValidFilter hx10
  refine st_call (cx_call hc11 (ent_f hc11.fn rfl) hn0 (show Hp S0 σ0 _ ([] ++ [Ch.bx n0 b5 0 [(I 0), (I 0), (I 0)] [] [], Ch.bx n0 b3 0 [(I g_1.1), (I g_1.2.1), (I g_1.2.2)] [] [], Ch.bx n0 b1 0 [(I f_0.1), (I f_0.2.1), (I f_0.2.2)] [] []]) from (H.sel' [0, 1, 2] rfl rfl))) wn ?_
  rintro _ σ12 ⟨_, ⟨rfl, rfl⟩, H, -⟩
  replace H : Hp S0 σ0 σ12 [Ch.bx n0 b5 0 [(I 0), (I 0), (I 0)] [] [], Ch.bx n0 b3 0 [(I g_1.1), (I g_1.2.1), (I g_1.2.2)] [] [], Ch.bx n0 b1 0 [(I f_0.1), (I f_0.2.1), (I f_0.2.2)] [] []] := H
  refine st (v := (B (!r9))) (rv_not rfl) ?_
  refine st (v := (B (!r9))) (rv_move rfl) ?_
  rcases Bool.eq_false_or_eq_true (!r9) with hb13 | hb13
  ·replace h := bif_t hb13 h
   refine st_skip (congrArg some hb13) ?_
   refine st_skip (congrArg some hb13) ?_
   refine st_skip (congrArg some hb13) ?_
   refine st (v := (B true)) (rv_pick_t (congrArg B hb13) rfl) ?_
   refine st (v := (B true)) (rv_move rfl) ?_
   refine st_skip rfl ?_
   refine st_skip rfl ?_
   refine st_skip rfl ?_
   refine st_skip rfl ?_
   refine st_skip_u rfl ?_
   refine st_skip_u rfl ?_
   refine st_skip_u rfl ?_
   refine st_skip rfl ?_
   refine st (v := (B true)) (rv_pick_t rfl rfl) ?_
   refine w_end ?_
   obtain rfl := Option.some.inj h
   exact ⟨rfl, _, σ12, fr_join ⟨rfl, rfl, rfl, rfl, trivial⟩, rfl, H.sel' [2, 1, 0] rfl rfl⟩
  ·replace h := bif_f hb13 h
   have hc14 := H.cells 1 rfl
   refine st_g (v := (.agg #[(I g_1.1), (I g_1.2.1), (I g_1.2.2)])) (congrArg some hb13) (rv_load (cs := [(I g_1.1), (I g_1.2.1), (I g_1.2.2)]) Try.underlying25 rfl ti25 rfl rfl hc14) ?_
   obtain ⟨r15, hx16, h'⟩ := bind_some h
   clear h
   have h := h'; clear h'
   have hc17 := c_impl_ValidFilter hx16
   refine st_call (cx_call hc17 (ent_f hc17.fn rfl) hn0 (show Hp S0 σ0 _ ([] ++ [Ch.bx n0 b5 0 [(I 0), (I 0), (I 0)] [] [], Ch.bx n0 b3 0 [(I g_1.1), (I g_1.2.1), (I g_1.2.2)] [] [], Ch.bx n0 b1 0 [(I f_0.1), (I f_0.2.1), (I f_0.2.2)] [] []]) from (H.sel' [0, 1, 2] rfl rfl))) (wanted_yes rfl (by exact (congrArg some hb13))) ?_
   rintro _ σ18 ⟨_, ⟨rfl, rfl⟩, H, -⟩
   replace H : Hp S0 σ0 σ18 [Ch.bx n0 b5 0 [(I 0), (I 0), (I 0)] [] [], Ch.bx n0 b3 0 [(I g_1.1), (I g_1.2.1), (I g_1.2.2)] [] [], Ch.bx n0 b1 0 [(I f_0.1), (I f_0.2.1), (I f_0.2.2)] [] []] := H
   refine st_g (v := (B (!r15))) (congrArg some hb13) (rv_not rfl) ?_
   refine st (v := (B (!r15))) (rv_pick_f (congrArg B hb13) rfl) ?_
   refine st (v := (B (!r15))) (rv_move rfl) ?_
   rcases Bool.eq_false_or_eq_true (!r15) with hb19 | hb19
   ·replace h := bif_t hb19 h
    refine st_skip (congrArg some hb19) ?_
    refine st_skip (congrArg some hb19) ?_
    refine st_skip (congrArg some hb19) ?_
    refine st_skip (congrArg some hb19) ?_
    refine st_skip_u rfl ?_
    refine st_skip_u rfl ?_
    refine st_skip_u rfl ?_
    refine st_skip (congrArg some hb19) ?_
    refine st (v := (B true)) (rv_pick_t (congrArg B hb19) rfl) ?_
    refine w_end ?_
    obtain rfl := Option.some.inj h
    exact ⟨rfl, _, σ18, fr_join ⟨rfl, rfl, rfl, rfl, trivial⟩, rfl, H.sel' [2, 1, 0] rfl rfl⟩
   ·replace h := bif_f hb19 h
    refine st_g (v := (pt b1 2)) (congrArg some hb19) (rv_fieldAddr (off := 2) (ft := 3) Try.underlying25 rfl ti3 rfl rfl) ?_
    have hc20 := H.cell (u := (I f_0.2.2)) (o' := 2) 2 2 rfl rfl rfl
    refine st_g (v := (I f_0.2.2)) (congrArg some hb19) (rv_load1 Try.underlying3 rfl rfl hc20) ?_
    refine st_g (v := (B (f_0.2.2 != 0))) (congrArg some hb19) (rv_neq (a := f_0.2.2) (b := 0) rfl rfl) ?_
    refine st_g (v := (B (f_0.2.2 != 0))) (congrArg some hb19) (rv_move rfl) ?_
    rcases Bool.eq_false_or_eq_true (f_0.2.2 != 0) with hb21 | hb21
    ·replace h := bif_t hb21 h
     refine st_g (v := (pt b3 2)) (congrArg some hb21) (rv_fieldAddr (off := 2) (ft := 3) Try.underlying25 rfl ti3 rfl rfl) ?_
     have hc22 := H.cell (u := (I g_1.2.2)) (o' := 2) 1 2 rfl rfl rfl
     refine st_g (v := (I g_1.2.2)) (congrArg some hb21) (rv_load1 Try.underlying3 rfl rfl hc22) ?_
     refine st_g (v := (B (g_1.2.2 != 0))) (congrArg some hb21) (rv_neq (a := g_1.2.2) (b := 0) rfl rfl) ?_
     refine st_g (v := (B (g_1.2.2 != 0))) (congrArg some hb19) (rv_pick_t (congrArg B hb21) rfl) ?_
     refine st (v := (B (g_1.2.2 != 0))) (rv_pick_f (congrArg B hb19) rfl) ?_
     refine w_end ?_
     obtain rfl := Option.some.inj h
     exact ⟨rfl, _, σ18, fr_join ⟨rfl, rfl, rfl, rfl, trivial⟩, rfl, H.sel' [2, 1, 0] rfl rfl⟩
    ·replace h := bif_f hb21 h
     refine st_skip (congrArg some hb21) ?_
     refine st_skip (congrArg some hb21) ?_
     refine st_skip (congrArg some hb21) ?_
     refine st_g (v := (B false)) (congrArg some hb19) (rv_pick_f (congrArg B hb21) rfl) ?_
     refine st (v := (B false)) (rv_pick_f (congrArg B hb19) rfl) ?_
     refine w_end ?_
     obtain rfl := Option.some.inj h
     exact ⟨rfl, _, σ18, fr_join ⟨rfl, rfl, rfl, rfl, trivial⟩, rfl, H.sel' [2, 1, 0] rfl rfl⟩
 ·clear hj
  have h := h'
  clear h' H
  rintro e a w ⟨rfl, ρ, σ23, rfl, rfl, H⟩
  refine q_then ?_
  refine cd_cond o7 rfl (fun hb24 => ?_) (fun hb24 => ?_)
  ·replace h := bif_t hb24 h
   refine c_seq ?_
   refine rg ?_
   refine st (v := (.agg #[(I 0), (I 0), (I 0)])) (rv_build (ps := []) Try.underlying25 ti25 (bp25 Try.underlying25) rfl (by kernel_rfl)) ?_
   refine st_exS (ex_store_box (k := 0) (cs := [(I 0), (I 0), (I 0)]) (vs := [(I 0), (I 0), (I 0)]) (cs' := [(I 0), (I 0), (I 0)]) H (i := 2) rfl ti25 rfl rfl rfl rfl rfl (Nat.le_of_ble_eq_true rfl) (by simp [plain]) rfl) wn ?_
   rintro σ25 ⟨H, -⟩
   refine st (v := (B false)) (rv_assign rfl) ?_
   refine w_end ?_
   refine q_then ?_
   refine c_ret ?_
   refine q_then_r ?_
   obtain rfl := Option.some.inj h
   exact fin_ret (v := (.tuple #[(.agg #[(I 0), (I 0), (I 0)]), (B false)])) (results_ok Try.results20 (res_cell rfl (run_cellRes (cs := [(I 0), (I 0), (I 0)]) Try.underlying25 rfl ti25 rfl (H.cells 0 rfl)) (res_tmp (v := (B false)) rfl res_nil)) rfl) ⟨rfl, rfl⟩ (H.sel' [] rfl rfl)
  ·replace h := bif_f hb24 h
   refine c_skip ?_
   refine q_then ?_
   refine c_seq ?_
   refine rg ?_
   refine st (v := (pt b1 0)) (rv_fieldAddr (off := 0) (ft := 3) Try.underlying25 rfl ti3 rfl rfl) ?_
   have hc26 := H.cell (u := (I f_0.1)) (o' := 0) 0 0 rfl rfl rfl
   refine st (v := (I f_0.1)) (rv_load1 Try.underlying3 rfl rfl hc26) ?_
   refine st (v := (pt b3 0)) (rv_fieldAddr (off := 0) (ft := 3) Try.underlying25 rfl ti3 rfl rfl) ?_
   have hc27 := H.cell (u := (I g_1.1)) (o' := 0) 1 0 rfl rfl rfl
   refine st (v := (I g_1.1)) (rv_load1 Try.underlying3 rfl rfl hc27) ?_
   refine st (v := (I (gor f_0.1 g_1.1))) (rv_or (a := f_0.1) (b := g_1.1) rfl rfl) ?_
   refine st (v := (pt b1 1)) (rv_fieldAddr (off := 1) (ft := 3) Try.underlying25 rfl ti3 rfl rfl) ?_
   have hc28 := H.cell (u := (I f_0.2.1)) (o' := 1) 0 1 rfl rfl rfl
   refine st (v := (I f_0.2.1)) (rv_load1 Try.underlying3 rfl rfl hc28) ?_
   refine st (v := (pt b3 1)) (rv_fieldAddr (off := 1) (ft := 3) Try.underlying25 rfl ti3 rfl rfl) ?_
   have hc29 := H.cell (u := (I g_1.2.1)) (o' := 1) 1 1 rfl rfl rfl
   refine st (v := (I g_1.2.1)) (rv_load1 Try.underlying3 rfl rfl hc29) ?_
   refine st (v := (I (gor f_0.2.1 g_1.2.1))) (rv_or (a := f_0.2.1) (b := g_1.2.1) rfl rfl) ?_
   refine st (v := (pt b1 2)) (rv_fieldAddr (off := 2) (ft := 3) Try.underlying25 rfl ti3 rfl rfl) ?_
   have hc30 := H.cell (u := (I f_0.2.2)) (o' := 2) 0 2 rfl rfl rfl
   refine st (v := (I f_0.2.2)) (rv_load1 Try.underlying3 rfl rfl hc30) ?_
   refine st (v := (pt b3 2)) (rv_fieldAddr (off := 2) (ft := 3) Try.underlying25 rfl ti3 rfl rfl) ?_
   have hc31 := H.cell (u := (I g_1.2.2)) (o' := 2) 1 2 rfl rfl rfl
   refine st (v := (I g_1.2.2)) (rv_load1 Try.underlying3 rfl rfl hc31) ?_
   refine st (v := (I (gor f_0.2.2 g_1.2.2))) (rv_or (a := f_0.2.2) (b := g_1.2.2) rfl rfl) ?_
   refine st (v := (.agg #[(I (gor f_0.1 g_1.1)), (I (gor f_0.2.1 g_1.2.1)), (I (gor f_0.2.2 g_1.2.2))])) (rv_build (ps := [(0, (I (gor f_0.1 g_1.1))), (1, (I (gor f_0.2.1 g_1.2.1))), (2, (I (gor f_0.2.2 g_1.2.2)))]) Try.underlying25 ti25 (bp25 Try.underlying25) rfl (by kernel_rfl)) ?_
   refine st_exS (ex_store_box (k := 0) (cs := [(I 0), (I 0), (I 0)]) (vs := [(I (gor f_0.1 g_1.1)), (I (gor f_0.2.1 g_1.2.1)), (I (gor f_0.2.2 g_1.2.2))]) (cs' := [(I (gor f_0.1 g_1.1)), (I (gor f_0.2.1 g_1.2.1)), (I (gor f_0.2.2 g_1.2.2))]) H (i := 2) rfl ti25 rfl rfl rfl rfl rfl (Nat.le_of_ble_eq_true rfl) (by simp [plain]) rfl) wn ?_
   rintro σ32 ⟨H, -⟩
   refine st (v := (B true)) (rv_assign rfl) ?_
   refine w_end ?_
   refine q_then ?_
   refine c_ret ?_
   obtain rfl := Option.some.inj h
   exact fin_ret (v := (.tuple #[(.agg #[(I (gor f_0.1 g_1.1)), (I (gor f_0.2.1 g_1.2.1)), (I (gor f_0.2.2 g_1.2.2))]), (B true)])) (results_ok Try.results20 (res_cell rfl (run_cellRes (cs := [(I (gor f_0.1 g_1.1)), (I (gor f_0.2.1 g_1.2.1)), (I (gor f_0.2.2 g_1.2.2))]) Try.underlying25 rfl ti25 rfl (H.cells 0 rfl)) (res_tmp (v := (B true)) rfl res_nil)) rfl) ⟨rfl, rfl⟩ (H.sel' [] rfl rfl)

theorem c_spec_inRange {n_0 : Int} {low_1 : Int} {high_2 : Int}  {r : Bool} (h : M.spec_inRange n_0 low_1 high_2 = some r) :
    Cal2 Try.prog 50 [(I n_0), (I low_1), (I high_2)] [] (fun n0 v L => v = (B r) ∧ L = []) := by
 refine cal2 (n := 15) Try.func50 rfl rfl rfl rfl ?_
 intro S0 σ0 n0 hn0 H
 unfold M.spec_inRange at h
 refine c_seq ?_
 refine rg ?_
 refine st (v := (B false)) (rv_assign rfl) ?_
 refine w_end ?_
 refine q_then ?_
 refine c_seq ?_
 refine rg ?_
 refine st (v := (I low_1)) (rv_move rfl) ?_
 refine st (v := (I n_0)) (rv_move rfl) ?_
 refine st (v := (B (decide (low_1 ≤ n_0)))) (rv_leq (a := low_1) (b := n_0) rfl rfl) ?_
 refine st (v := (B (decide (low_1 ≤ n_0)))) (rv_move rfl) ?_
 rcases Bool.eq_false_or_eq_true (decide (low_1 ≤ n_0)) with hb1 | hb1
 ·replace h := bif_t hb1 h
  refine st_g (v := (I n_0)) (congrArg some hb1) (rv_move rfl) ?_
  refine st_g (v := (I high_2)) (congrArg some hb1) (rv_move rfl) ?_
  refine st_g (v := (B (decide (n_0 ≤ high_2)))) (congrArg some hb1) (rv_leq (a := n_0) (b := high_2) rfl rfl) ?_
  refine st (v := (B (decide (n_0 ≤ high_2)))) (rv_pick_t (congrArg B hb1) rfl) ?_
  refine st (v := (B (decide (n_0 ≤ high_2)))) (rv_assign rfl) ?_
  refine w_end ?_
  refine q_then ?_
  refine c_ret ?_
  obtain rfl := Option.some.inj h
  exact fin_ret (v := (B (decide (n_0 ≤ high_2)))) (results_ok Try.results50 (res_tmp (v := (B (decide (n_0 ≤ high_2)))) rfl res_nil) rfl) ⟨rfl, rfl⟩ (H.sel' [] rfl rfl)
 ·replace h := bif_f hb1 h
  refine st_skip (congrArg some hb1) ?_
  refine st_skip (congrArg some hb1) ?_
  refine st_skip (congrArg some hb1) ?_
  refine st (v := (B false)) (rv_pick_f (congrArg B hb1) rfl) ?_
  refine st (v := (B false)) (rv_assign rfl) ?_
  refine w_end ?_
  refine q_then ?_
  refine c_ret ?_
  obtain rfl := Option.some.inj h
  exact fin_ret (v := (B false)) (results_ok Try.results50 (res_tmp (v := (B false)) rfl res_nil) rfl) ⟨rfl, rfl⟩ (H.sel' [] rfl rfl)

theorem c_spec_validFilter {f_0 : Int × Int × Int}  {r : Bool} (h : M.spec_validFilter f_0 = some r) :
    Cal2 Try.prog 38 [(.agg #[(I f_0.1), (I f_0.2.1), (I f_0.2.2)])] [] (fun n0 v L => v = (B r) ∧ L = []) := by
 refine cal2 (n := 16) Try.func38 rfl rfl rfl rfl ?_
 intro S0 σ0 n0 hn0 H
 unfold M.spec_validFilter at h
 refine c_seq ?_
 refine rg ?_
 refine st_ex (ex_box (cs := [(I f_0.1), (I f_0.2.1), (I f_0.2.2)]) H hn0 rfl rfl) wn ?_
 rintro _ σ2 ⟨b1, rfl, H, -⟩
 refine st (v := (B false)) (rv_assign rfl) ?_
 refine w_end ?_
 refine q_then ?_
 refine c_seq ?_
 refine rg ?_
 refine st (v := (pt b1 0)) (rv_fieldAddr (off := 0) (ft := 3) Try.underlying25 rfl ti3 rfl rfl) ?_
 have hc3 := H.cell (u := (I f_0.1)) (o' := 0) 0 0 rfl rfl rfl
 refine st (v := (I f_0.1)) (rv_load1 Try.underlying3 rfl rfl hc3) ?_
 obtain ⟨r4, hx5, h'⟩ := bind_some h
 clear h
 have h := h'; clear h'
 have hc6 := c_spec_inRange hx5
 refine st_call (cx_call hc6 (ent_f hc6.fn rfl) hn0 (show Hp S0 σ0 _ ([] ++ [Ch.bx n0 b1 0 [(I f_0.1), (I f_0.2.1), (I f_0.2.2)] [] []]) from (H.sel' [0] rfl rfl))) wn ?_
 rintro _ σ7 ⟨_, ⟨rfl, rfl⟩, H, -⟩
 replace H : Hp S0 σ0 σ7 [Ch.bx n0 b1 0 [(I f_0.1), (I f_0.2.1), (I f_0.2.2)] [] []] := H
 refine st (v := (B r4)) (rv_move rfl) ?_
 rcases Bool.eq_false_or_eq_true r4 with hb8 | hb8
 ·replace h := bif_t hb8 h
  refine st_g (v := (pt b1 1)) (congrArg some hb8) (rv_fieldAddr (off := 1) (ft := 3) Try.underlying25 rfl ti3 rfl rfl) ?_
  have hc9 := H.cell (u := (I f_0.2.1)) (o' := 1) 0 1 rfl rfl rfl
  refine st_g (v := (I f_0.2.1)) (congrArg some hb8) (rv_load1 Try.underlying3 rfl rfl hc9) ?_
  obtain ⟨r10, hx11, h'⟩ := bind_some h
  clear h
  have h := h'; clear h'
  have hc12 := c_spec_inRange hx11
  refine st_call (cx_call hc12 (ent_f hc12.fn rfl) hn0 (show Hp S0 σ0 _ ([] ++ [Ch.bx n0 b1 0 [(I f_0.1), (I f_0.2.1), (I f_0.2.2)] [] []]) from (H.sel' [0] rfl rfl))) (wanted_yes rfl (by exact (congrArg some hb8))) ?_
  rintro _ σ13 ⟨_, ⟨rfl, rfl⟩, H, -⟩
  replace H : Hp S0 σ0 σ13 [Ch.bx n0 b1 0 [(I f_0.1), (I f_0.2.1), (I f_0.2.2)] [] []] := H
  refine st (v := (B r10)) (rv_pick_t (congrArg B hb8) rfl) ?_
  refine st (v := (B r10)) (rv_move rfl) ?_
  rcases Bool.eq_false_or_eq_true r10 with hb14 | hb14
  ·replace h := bif_t hb14 h
   refine st_g (v := (pt b1 2)) (congrArg some hb14) (rv_fieldAddr (off := 2) (ft := 3) Try.underlying25 rfl ti3 rfl rfl) ?_
   have hc15 := H.cell (u := (I f_0.2.2)) (o' := 2) 0 2 rfl rfl rfl
   refine st_g (v := (I f_0.2.2)) (congrArg some hb14) (rv_load1 Try.underlying3 rfl rfl hc15) ?_
   obtain ⟨r16, hx17, h'⟩ := bind_some h
   clear h
   have h := h'; clear h'
   have hc18 := c_spec_inRange hx17
   refine st_call (cx_call hc18 (ent_f hc18.fn rfl) hn0 (show Hp S0 σ0 _ ([] ++ [Ch.bx n0 b1 0 [(I f_0.1), (I f_0.2.1), (I f_0.2.2)] [] []]) from (H.sel' [0] rfl rfl))) (wanted_yes rfl (by exact (congrArg some hb14))) ?_
   rintro _ σ19 ⟨_, ⟨rfl, rfl⟩, H, -⟩
   replace H : Hp S0 σ0 σ19 [Ch.bx n0 b1 0 [(I f_0.1), (I f_0.2.1), (I f_0.2.2)] [] []] := H
   refine st (v := (B r16)) (rv_pick_t (congrArg B hb14) rfl) ?_
   refine st (v := (B r16)) (rv_assign rfl) ?_
   refine w_end ?_
   refine q_then ?_
   refine c_ret ?_
   obtain rfl := Option.some.inj h
   exact fin_ret (v := (B r16)) (results_ok Try.results38 (res_tmp (v := (B r16)) rfl res_nil) rfl) ⟨rfl, rfl⟩ (H.sel' [] rfl rfl)
  ·replace h := bif_f hb14 h
   refine st_skip (congrArg some hb14) ?_
   refine st_skip (congrArg some hb14) ?_
   refine st_skip (congrArg some hb14) ?_
   refine st (v := (B false)) (rv_pick_f (congrArg B hb14) rfl) ?_
   refine st (v := (B false)) (rv_assign rfl) ?_
   refine w_end ?_
   refine q_then ?_
   refine c_ret ?_
   obtain rfl := Option.some.inj h
   exact fin_ret (v := (B false)) (results_ok Try.results38 (res_tmp (v := (B false)) rfl res_nil) rfl) ⟨rfl, rfl⟩ (H.sel' [] rfl rfl)
 ·replace h := bif_f hb8 h
  refine st_skip (congrArg some hb8) ?_
  refine st_skip (congrArg some hb8) ?_
  refine st_skip (congrArg some hb8) ?_
  refine st (v := (B false)) (rv_pick_f (congrArg B hb8) rfl) ?_
  refine st (v := (B false)) (rv_move rfl) ?_
  refine st_skip rfl ?_
  refine st_skip rfl ?_
  refine st_skip rfl ?_
  refine st (v := (B false)) (rv_pick_f rfl rfl) ?_
  refine st (v := (B false)) (rv_assign rfl) ?_
  refine w_end ?_
  refine q_then ?_
  refine c_ret ?_
  obtain rfl := Option.some.inj h
  exact fin_ret (v := (B false)) (results_ok Try.results38 (res_tmp (v := (B false)) rfl res_nil) rfl) ⟨rfl, rfl⟩ (H.sel' [] rfl rfl)

theorem c_spec_BothFilters {f_0 : Int × Int × Int} {g_1 : Int × Int × Int}  {r : (Int × Int × Int) × Bool} (h : M.spec_BothFilters f_0 g_1 = some r) :
    Cal2 Try.prog 21 [(.agg #[(I f_0.1), (I f_0.2.1), (I f_0.2.2)]), (.agg #[(I g_1.1), (I g_1.2.1), (I g_1.2.2)])] [] (fun n0 v L => v = (.tuple #[(.agg #[(I r.1.1), (I r.1.2.1), (I r.1.2.2)]), (B r.2)]) ∧ L = []) := by
 refine cal2 (n := 41) Try.func21 rfl rfl rfl rfl ?_
 intro S0 σ0 n0 hn0 H
 unfold M.spec_BothFilters at h
 refine c_seq ?_
 refine rg ?_
 refine st_ex (ex_box (cs := [(I f_0.1), (I f_0.2.1), (I f_0.2.2)]) H hn0 rfl rfl) wn ?_
 rintro _ σ2 ⟨b1, rfl, H, -⟩
 refine st_ex (ex_box (cs := [(I g_1.1), (I g_1.2.1), (I g_1.2.2)]) H hn0 rfl rfl) wn ?_
 rintro _ σ4 ⟨b3, rfl, H, -⟩
 refine st_ex (ex_alloc (cs := [(I 0), (I 0), (I 0)]) H hn0 ti25 rfl) wn ?_
 rintro _ σ6 ⟨b5, rfl, H, -⟩
 refine st (v := (B false)) (rv_assign rfl) ?_
 refine w_end ?_
 refine q_then ?_
 refine c_seq ?_
 refine c_seq ?_
 obtain ⟨o7, hj, h'⟩ := bind_some h
 clear h
 refine c_cut (fun e a w => e = .normal ∧ ∃ (ρ : Nat → Value) (σ : St), a = fr 41 (updL ρ [(2, (pt b1 0)), (3, (pt b3 0)), (4, (pt b5 0)), (23, (B o7))]) ∧ w = σ.w ∧ Hp S0 σ0 σ [Ch.bx n0 b1 0 [(I f_0.1), (I f_0.2.1), (I f_0.2.2)] [] [], Ch.bx n0 b3 0 [(I g_1.1), (I g_1.2.1), (I g_1.2.2)] [] [], Ch.bx n0 b5 0 [(I 0), (I 0), (I 0)] [] []]) ?_ ?_
 ·clear h'
  rename _ = some o7 => h
  refine rg ?_
  have hc8 := H.cells 2 rfl
  refine st (v := (.agg #[(I f_0.1), (I f_0.2.1), (I f_0.2.2)])) (rv_load (cs := [(I f_0.1), (I f_0.2.1), (I f_0.2.2)]) Try.underlying25 rfl ti25 rfl rfl hc8) ?_
  obtain ⟨r9, hx10, h'⟩ := bind_some h
  clear h
  have h := h'; clear h'
  have hc11 := c_spec_validFilter hx10
  refine st_call (cx_call hc11 (ent_f hc11.fn rfl) hn0 (show Hp S0 σ0 _ ([] ++ [Ch.bx n0 b5 0 [(I 0), (I 0), (I 0)] [] [], Ch.bx n0 b3 0 [(I g_1.1), (I g_1.2.1), (I g_1.2.2)] [] [], Ch.bx n0 b1 0 [(I f_0.1), (I f_0.2.1), (I f_0.2.2)] [] []]) from (H.sel' [0, 1, 2] rfl rfl))) wn ?_
  rintro _ σ12 ⟨_, ⟨rfl, rfl⟩, H, -⟩
  replace H : Hp S0 σ0 σ12 [Ch.bx n0 b5 0 [(I 0), (I 0), (I 0)] [] [], Ch.bx n0 b3 0 [(I g_1.1), (I g_1.2.1), (I g_1.2.2)] [] [], Ch.bx n0 b1 0 [(I f_0.1), (I f_0.2.1), (I f_0.2.2)] [] []] := H
  refine st (v := (B (!r9))) (rv_not rfl) ?_
  refine st (v := (B (!r9))) (rv_move rfl) ?_
  rcases Bool.eq_false_or_eq_true (!r9) with hb13 | hb13
  ·replace h := bif_t hb13 h
   refine st_skip (congrArg some hb13) ?_
   refine st_skip (congrArg some hb13) ?_
   refine st_skip (congrArg some hb13) ?_
   refine st (v := (B true)) (rv_pick_t (congrArg B hb13) rfl) ?_
   refine st (v := (B true)) (rv_move rfl) ?_
   refine st_skip rfl ?_
   refine st_skip rfl ?_
   refine st_skip rfl ?_
   refine st_skip rfl ?_
   refine st_skip_u rfl ?_
   refine st_skip_u rfl ?_
   refine st_skip_u rfl ?_
   refine st_skip rfl ?_
   refine st (v := (B true)) (rv_pick_t rfl rfl) ?_
   refine w_end ?_
   obtain rfl := Option.some.inj h
   exact ⟨rfl, _, σ12, fr_join ⟨rfl, rfl, rfl, rfl, trivial⟩, rfl, H.sel' [2, 1, 0] rfl rfl⟩
  ·replace h := bif_f hb13 h
   have hc14 := H.cells 1 rfl
   refine st_g (v := (.agg #[(I g_1.1), (I g_1.2.1), (I g_1.2.2)])) (congrArg some hb13) (rv_load (cs := [(I g_1.1), (I g_1.2.1), (I g_1.2.2)]) Try.underlying25 rfl ti25 rfl rfl hc14) ?_
   obtain ⟨r15, hx16, h'⟩ := bind_some h
   clear h
   have h := h'; clear h'
   have hc17 := c_spec_validFilter hx16
   refine st_call (cx_call hc17 (ent_f hc17.fn rfl) hn0 (show Hp S0 σ0 _ ([] ++ [Ch.bx n0 b5 0 [(I 0), (I 0), (I 0)] [] [], Ch.bx n0 b3 0 [(I g_1.1), (I g_1.2.1), (I g_1.2.2)] [] [], Ch.bx n0 b1 0 [(I f_0.1), (I f_0.2.1), (I f_0.2.2)] [] []]) from (H.sel' [0, 1, 2] rfl rfl))) (wanted_yes rfl (by exact (congrArg some hb13))) ?_
   rintro _ σ18 ⟨_, ⟨rfl, rfl⟩, H, -⟩
   replace H : Hp S0 σ0 σ18 [Ch.bx n0 b5 0 [(I 0), (I 0), (I 0)] [] [], Ch.bx n0 b3 0 [(I g_1.1), (I g_1.2.1), (I g_1.2.2)] [] [], Ch.bx n0 b1 0 [(I f_0.1), (I f_0.2.1), (I f_0.2.2)] [] []] := H
   refine st_g (v := (B (!r15))) (congrArg some hb13) (rv_not rfl) ?_
   refine st (v := (B (!r15))) (rv_pick_f (congrArg B hb13) rfl) ?_
   refine st (v := (B (!r15))) (rv_move rfl) ?_
   rcases Bool.eq_false_or_eq_true (!r15) with hb19 | hb19
   ·replace h := bif_t hb19 h
    refine st_skip (congrArg some hb19) ?_
    refine st_skip (congrArg some hb19) ?_
    refine st_skip (congrArg some hb19) ?_
    refine st_skip (congrArg some hb19) ?_
    refine st_skip_u rfl ?_
    refine st_skip_u rfl ?_
    refine st_skip_u rfl ?_
    refine st_skip (congrArg some hb19) ?_
    refine st (v := (B true)) (rv_pick_t (congrArg B hb19) rfl) ?_
    refine w_end ?_
    obtain rfl := Option.some.inj h
    exact ⟨rfl, _, σ18, fr_join ⟨rfl, rfl, rfl, rfl, trivial⟩, rfl, H.sel' [2, 1, 0] rfl rfl⟩
   ·replace h := bif_f hb19 h
    refine st_g (v := (pt b1 2)) (congrArg some hb19) (rv_fieldAddr (off := 2) (ft := 3) Try.underlying25 rfl ti3 rfl rfl) ?_
    have hc20 := H.cell (u := (I f_0.2.2)) (o' := 2) 2 2 rfl rfl rfl
    refine st_g (v := (I f_0.2.2)) (congrArg some hb19) (rv_load1 Try.underlying3 rfl rfl hc20) ?_
    refine st_g (v := (B (f_0.2.2 != 0))) (congrArg some hb19) (rv_neq (a := f_0.2.2) (b := 0) rfl rfl) ?_
    refine st_g (v := (B (f_0.2.2 != 0))) (congrArg some hb19) (rv_move rfl) ?_
    rcases Bool.eq_false_or_eq_true (f_0.2.2 != 0) with hb21 | hb21
    ·replace h := bif_t hb21 h
     refine st_g (v := (pt b3 2)) (congrArg some hb21) (rv_fieldAddr (off := 2) (ft := 3) Try.underlying25 rfl ti3 rfl rfl) ?_
     have hc22 := H.cell (u := (I g_1.2.2)) (o' := 2) 1 2 rfl rfl rfl
     refine st_g (v := (I g_1.2.2)) (congrArg some hb21) (rv_load1 Try.underlying3 rfl rfl hc22) ?_
     refine st_g (v := (B (g_1.2.2 != 0))) (congrArg some hb21) (rv_neq (a := g_1.2.2) (b := 0) rfl rfl) ?_
     refine st_g (v := (B (g_1.2.2 != 0))) (congrArg some hb19) (rv_pick_t (congrArg B hb21) rfl) ?_
     refine st (v := (B (g_1.2.2 != 0))) (rv_pick_f (congrArg B hb19) rfl) ?_
     refine w_end ?_
     obtain rfl := Option.some.inj h
     exact ⟨rfl, _, σ18, fr_join ⟨rfl, rfl, rfl, rfl, trivial⟩, rfl, H.sel' [2, 1, 0] rfl rfl⟩
    ·replace h := bif_f hb21 h
     refine st_skip (congrArg some hb21) ?_
     refine st_skip (congrArg some hb21) ?_
     refine st_skip (congrArg some hb21) ?_
     refine st_g (v := (B false)) (congrArg some hb19) (rv_pick_f (congrArg B hb21) rfl) ?_
     refine st (v := (B false)) (rv_pick_f (congrArg B hb19) rfl) ?_
     refine w_end ?_
     obtain rfl := Option.some.inj h
     exact ⟨rfl, _, σ18, fr_join ⟨rfl, rfl, rfl, rfl, trivial⟩, rfl, H.sel' [2, 1, 0] rfl rfl⟩
 ·clear hj
  have h := h'
  clear h' H
  rintro e a w ⟨rfl, ρ, σ23, rfl, rfl, H⟩
  refine q_then ?_
  refine cd_cond o7 rfl (fun hb24 => ?_) (fun hb24 => ?_)
  ·replace h := bif_t hb24 h
   refine c_seq ?_
   refine rg ?_
   refine st (v := (.agg #[(I 0), (I 0), (I 0)])) (rv_build (ps := []) Try.underlying25 ti25 (bp25 Try.underlying25) rfl (by kernel_rfl)) ?_
   refine st_exS (ex_store_box (k := 0) (cs := [(I 0), (I 0), (I 0)]) (vs := [(I 0), (I 0), (I 0)]) (cs' := [(I 0), (I 0), (I 0)]) H (i := 2) rfl ti25 rfl rfl rfl rfl rfl (Nat.le_of_ble_eq_true rfl) (by simp [plain]) rfl) wn ?_
   rintro σ25 ⟨H, -⟩
   refine st (v := (B false)) (rv_assign rfl) ?_
   refine w_end ?_
   refine q_then ?_
   refine c_ret ?_
   refine q_then_r ?_
   obtain rfl := Option.some.inj h
   exact fin_ret (v := (.tuple #[(.agg #[(I 0), (I 0), (I 0)]), (B false)])) (results_ok Try.results21 (res_cell rfl (run_cellRes (cs := [(I 0), (I 0), (I 0)]) Try.underlying25 rfl ti25 rfl (H.cells 0 rfl)) (res_tmp (v := (B false)) rfl res_nil)) rfl) ⟨rfl, rfl⟩ (H.sel' [] rfl rfl)
  ·replace h := bif_f hb24 h
   refine c_skip ?_
   refine q_then ?_
   refine c_seq ?_
   refine rg ?_
   refine st (v := (pt b1 0)) (rv_fieldAddr (off := 0) (ft := 3) Try.underlying25 rfl ti3 rfl rfl) ?_
   have hc26 := H.cell (u := (I f_0.1)) (o' := 0) 0 0 rfl rfl rfl
   refine st (v := (I f_0.1)) (rv_load1 Try.underlying3 rfl rfl hc26) ?_
   refine st (v := (pt b3 0)) (rv_fieldAddr (off := 0) (ft := 3) Try.underlying25 rfl ti3 rfl rfl) ?_
   have hc27 := H.cell (u := (I g_1.1)) (o' := 0) 1 0 rfl rfl rfl
   refine st (v := (I g_1.1)) (rv_load1 Try.underlying3 rfl rfl hc27) ?_
   refine st (v := (I (gor f_0.1 g_1.1))) (rv_or (a := f_0.1) (b := g_1.1) rfl rfl) ?_
   refine st (v := (pt b1 1)) (rv_fieldAddr (off := 1) (ft := 3) Try.underlying25 rfl ti3 rfl rfl) ?_
   have hc28 := H.cell (u := (I f_0.2.1)) (o' := 1) 0 1 rfl rfl rfl
   refine st (v := (I f_0.2.1)) (rv_load1 Try.underlying3 rfl rfl hc28) ?_
   refine st (v := (pt b3 1)) (rv_fieldAddr (off := 1) (ft := 3) Try.underlying25 rfl ti3 rfl rfl) ?_
   have hc29 := H.cell (u := (I g_1.2.1)) (o' := 1) 1 1 rfl rfl rfl
   refine st (v := (I g_1.2.1)) (rv_load1 Try.underlying3 rfl rfl hc29) ?_
   refine st (v := (I (gor f_0.2.1 g_1.2.1))) (rv_or (a := f_0.2.1) (b := g_1.2.1) rfl rfl) ?_
   refine st (v := (pt b1 2)) (rv_fieldAddr (off := 2) (ft := 3) Try.underlying25 rfl ti3 rfl rfl) ?_
   have hc30 := H.cell (u := (I f_0.2.2)) (o' := 2) 0 2 rfl rfl rfl
   refine st (v := (I f_0.2.2)) (rv_load1 Try.underlying3 rfl rfl hc30) ?_
   refine st (v := (pt b3 2)) (rv_fieldAddr (off := 2) (ft := 3) Try.underlying25 rfl ti3 rfl rfl) ?_
   have hc31 := H.cell (u := (I g_1.2.2)) (o' := 2) 1 2 rfl rfl rfl
   refine st (v := (I g_1.2.2)) (rv_load1 Try.underlying3 rfl rfl hc31) ?_
   refine st (v := (I (gor f_0.2.2 g_1.2.2))) (rv_or (a := f_0.2.2) (b := g_1.2.2) rfl rfl) ?_
   refine st (v := (.agg #[(I (gor f_0.1 g_1.1)), (I (gor f_0.2.1 g_1.2.1)), (I (gor f_0.2.2 g_1.2.2))])) (rv_build (ps := [(0, (I (gor f_0.1 g_1.1))), (1, (I (gor f_0.2.1 g_1.2.1))), (2, (I (gor f_0.2.2 g_1.2.2)))]) Try.underlying25 ti25 (bp25 Try.underlying25) rfl (by kernel_rfl)) ?_
   refine st_exS (ex_store_box (k := 0) (cs := [(I 0), (I 0), (I 0)]) (vs := [(I (gor f_0.1 g_1.1)), (I (gor f_0.2.1 g_1.2.1)), (I (gor f_0.2.2 g_1.2.2))]) (cs' := [(I (gor f_0.1 g_1.1)), (I (gor f_0.2.1 g_1.2.1)), (I (gor f_0.2.2 g_1.2.2))]) H (i := 2) rfl ti25 rfl rfl rfl rfl rfl (Nat.le_of_ble_eq_true rfl) (by simp [plain]) rfl) wn ?_
   rintro σ32 ⟨H, -⟩
   refine st (v := (B true)) (rv_assign rfl) ?_
   refine w_end ?_
   refine q_then ?_
   refine c_ret ?_
   obtain rfl := Option.some.inj h
   exact fin_ret (v := (.tuple #[(.agg #[(I (gor f_0.1 g_1.1)), (I (gor f_0.2.1 g_1.2.1)), (I (gor f_0.2.2 g_1.2.2))]), (B true)])) (results_ok Try.results21 (res_cell rfl (run_cellRes (cs := [(I (gor f_0.1 g_1.1)), (I (gor f_0.2.1 g_1.2.1)), (I (gor f_0.2.2 g_1.2.2))]) Try.underlying25 rfl ti25 rfl (H.cells 0 rfl)) (res_tmp (v := (B true)) rfl res_nil)) rfl) ⟨rfl, rfl⟩ (H.sel' [] rfl rfl)

theorem c_laws_FnBothFiltersOrder {code_0 : List UInt8} {acode_0 : Option Addr} {ccode_0 : Nat} {r : Bool} (h : M.laws_FnBothFiltersOrder code_0 = some r) :
    Cal2 Try.prog 6 [(Sl acode_0 code_0 ccode_0)] [Ch.ro 0 (Sl acode_0 code_0 ccode_0) code_0] (fun n0 v L => v = (B r) ∧ L = []) := by
 refine cal2 (n := 79) Try.func6 rfl rfl rfl rfl ?_
 intro S0 σ0 n0 hn0 H
 unfold M.laws_FnBothFiltersOrder at h
 refine c_seq ?_
 refine rg ?_
 refine st (v := (B false)) (rv_assign rfl) ?_
 refine w_end ?_
 refine q_then ?_
 refine c_seq ?_
 refine c_seq ?_
 refine rg ?_
 refine st (v := (Sl acode_0 code_0 ccode_0)) (rv_move rfl) ?_
 refine st (v := (I (code_0.length : Int))) (rv_len Try.underlying22 rfl) ?_
 refine st (v := (B (decide (1048576 < (code_0.length : Int))))) (rv_gtr (a := (code_0.length : Int)) (b := 1048576) rfl rfl) ?_
 refine w_end ?_
 refine q_then ?_
 refine cd_cond (decide (1048576 < (code_0.length : Int))) rfl (fun hb1 => ?_) (fun hb1 => ?_)
 ·replace h := bif_t hb1 h
  refine c_seq ?_
  refine rg ?_
  refine st (v := (B true)) (rv_assign rfl) ?_
  refine w_end ?_
  refine q_then ?_
  refine c_ret ?_
  refine q_then_r ?_
  obtain rfl := Option.some.inj h
  exact fin_ret (v := (B true)) (results_ok Try.results6 (res_tmp (v := (B true)) rfl res_nil) rfl) ⟨rfl, rfl⟩ (H.sel' [] rfl rfl)
 ·replace h := bif_f hb1 h
  refine c_skip ?_
  refine q_then ?_
  refine c_seq ?_
  refine rg ?_
  refine st (v := (Sl acode_0 code_0 ccode_0)) (rv_move rfl) ?_
  obtain ⟨r2, hx3, h'⟩ := bind_some h
  clear h
  have h := h'; clear h'
  have hc4 := c_spec_DrawBothFilters (acode_0 := acode_0) (ccode_0 := ccode_0) hx3
  refine st_call (cx_call hc4 (ent_f hc4.fn rfl) hn0 (show Hp S0 σ0 _ ([Ch.ro 0 (Sl acode_0 code_0 ccode_0) code_0] ++ [Ch.ro 0 (Sl acode_0 code_0 ccode_0) code_0]) from (H.sel' [0, 0] rfl rfl))) wn ?_
  rintro _ σ5 ⟨_, ⟨rfl, rfl⟩, H, -⟩
  replace H : Hp S0 σ0 σ5 [Ch.ro 0 (Sl acode_0 code_0 ccode_0) code_0] := H
  refine st (v := (.tuple #[(.agg #[(I r2.1.1), (I r2.1.2.1), (I r2.1.2.2)]), (.agg #[(I r2.2.1), (I r2.2.2.1), (I r2.2.2.2)])])) (rv_move rfl) ?_
  refine st (v := (.agg #[(I r2.1.1), (I r2.1.2.1), (I r2.1.2.2)])) (rv_extract rfl rfl) ?_
  refine st (v := (.agg #[(I r2.2.1), (I r2.2.2.1), (I r2.2.2.2)])) (rv_extract rfl rfl) ?_
  refine st_ex (ex_alloc (cs := [(I 0), (I 0), (I 0)]) H hn0 ti25 rfl) wn ?_
  rintro _ σ7 ⟨b6, rfl, H, -⟩
  refine st_ex (ex_alloc (cs := [(I 0), (I 0), (I 0)]) H hn0 ti25 rfl) wn ?_
  rintro _ σ9 ⟨b8, rfl, H, -⟩
  refine st_exS (ex_store_box (k := 0) (cs := [(I 0), (I 0), (I 0)]) (vs := [(I r2.1.1), (I r2.1.2.1), (I r2.1.2.2)]) (cs' := [(I r2.1.1), (I r2.1.2.1), (I r2.1.2.2)]) H (i := 1) rfl ti25 rfl rfl rfl rfl rfl (Nat.le_of_ble_eq_true rfl) (by simp [plain]) rfl) wn ?_
  rintro σ10 ⟨H, -⟩
  refine st_exS (ex_store_box (k := 0) (cs := [(I 0), (I 0), (I 0)]) (vs := [(I r2.2.1), (I r2.2.2.1), (I r2.2.2.2)]) (cs' := [(I r2.2.1), (I r2.2.2.1), (I r2.2.2.2)]) H (i := 1) rfl ti25 rfl rfl rfl rfl rfl (Nat.le_of_ble_eq_true rfl) (by simp [plain]) rfl) wn ?_
  rintro σ11 ⟨H, -⟩
  refine w_end ?_
  refine q_then ?_
  refine c_seq ?_
  refine rg ?_
  have hc12 := H.cells 1 rfl
  refine st (v := (.agg #[(I r2.1.1), (I r2.1.2.1), (I r2.1.2.2)])) (rv_load (cs := [(I r2.1.1), (I r2.1.2.1), (I r2.1.2.2)]) Try.underlying25 rfl ti25 rfl rfl hc12) ?_
  have hc13 := H.cells 0 rfl
  refine st (v := (.agg #[(I r2.2.1), (I r2.2.2.1), (I r2.2.2.2)])) (rv_load (cs := [(I r2.2.1), (I r2.2.2.1), (I r2.2.2.2)]) Try.underlying25 rfl ti25 rfl rfl hc13) ?_
  obtain ⟨r14, hx15, h'⟩ := bind_some h
  clear h
  have h := h'; clear h'
  have hc16 := c_impl_BothFilters hx15
  refine st_call (cx_call hc16 (ent_f hc16.fn rfl) hn0 (show Hp S0 σ0 _ ([] ++ [Ch.bx n0 b8 0 [(I r2.2.1), (I r2.2.2.1), (I r2.2.2.2)] [] [], Ch.bx n0 b6 0 [(I r2.1.1), (I r2.1.2.1), (I r2.1.2.2)] [] [], Ch.ro 0 (Sl acode_0 code_0 ccode_0) code_0]) from (H.sel' [0, 1, 2] rfl rfl))) wn ?_
  rintro _ σ17 ⟨_, ⟨rfl, rfl⟩, H, -⟩
  replace H : Hp S0 σ0 σ17 [Ch.bx n0 b8 0 [(I r2.2.1), (I r2.2.2.1), (I r2.2.2.2)] [] [], Ch.bx n0 b6 0 [(I r2.1.1), (I r2.1.2.1), (I r2.1.2.2)] [] [], Ch.ro 0 (Sl acode_0 code_0 ccode_0) code_0] := H
  refine st (v := (.tuple #[(.agg #[(I r14.1.1), (I r14.1.2.1), (I r14.1.2.2)]), (B r14.2)])) (rv_move rfl) ?_
  refine st (v := (.agg #[(I r14.1.1), (I r14.1.2.1), (I r14.1.2.2)])) (rv_extract rfl rfl) ?_
  refine st (v := (B r14.2)) (rv_extract rfl rfl) ?_
  refine st_ex (ex_alloc (cs := [(I 0), (I 0), (I 0)]) H hn0 ti25 rfl) wn ?_
  rintro _ σ19 ⟨b18, rfl, H, -⟩
  refine st_exS (ex_store_box (k := 0) (cs := [(I 0), (I 0), (I 0)]) (vs := [(I r14.1.1), (I r14.1.2.1), (I r14.1.2.2)]) (cs' := [(I r14.1.1), (I r14.1.2.1), (I r14.1.2.2)]) H (i := 0) rfl ti25 rfl rfl rfl rfl rfl (Nat.le_of_ble_eq_true rfl) (by simp [plain]) rfl) wn ?_
  rintro σ20 ⟨H, -⟩
  refine st (v := (B r14.2)) (rv_assign rfl) ?_
  refine w_end ?_
  refine q_then ?_
  refine c_seq ?_
  refine rg ?_
  have hc21 := H.cells 2 rfl
  refine st (v := (.agg #[(I r2.1.1), (I r2.1.2.1), (I r2.1.2.2)])) (rv_load (cs := [(I r2.1.1), (I r2.1.2.1), (I r2.1.2.2)]) Try.underlying25 rfl ti25 rfl rfl hc21) ?_
  have hc22 := H.cells 1 rfl
  refine st (v := (.agg #[(I r2.2.1), (I r2.2.2.1), (I r2.2.2.2)])) (rv_load (cs := [(I r2.2.1), (I r2.2.2.1), (I r2.2.2.2)]) Try.underlying25 rfl ti25 rfl rfl hc22) ?_
  obtain ⟨r23, hx24, h'⟩ := bind_some h
  clear h
  have h := h'; clear h'
  have hc25 := c_spec_BothFilters hx24
  refine st_call (cx_call hc25 (ent_f hc25.fn rfl) hn0 (show Hp S0 σ0 _ ([] ++ [Ch.bx n0 b18 0 [(I r14.1.1), (I r14.1.2.1), (I r14.1.2.2)] [] [], Ch.bx n0 b8 0 [(I r2.2.1), (I r2.2.2.1), (I r2.2.2.2)] [] [], Ch.bx n0 b6 0 [(I r2.1.1), (I r2.1.2.1), (I r2.1.2.2)] [] [], Ch.ro 0 (Sl acode_0 code_0 ccode_0) code_0]) from (H.sel' [0, 1, 2, 3] rfl rfl))) wn ?_
  rintro _ σ26 ⟨_, ⟨rfl, rfl⟩, H, -⟩
  replace H : Hp S0 σ0 σ26 [Ch.bx n0 b18 0 [(I r14.1.1), (I r14.1.2.1), (I r14.1.2.2)] [] [], Ch.bx n0 b8 0 [(I r2.2.1), (I r2.2.2.1), (I r2.2.2.2)] [] [], Ch.bx n0 b6 0 [(I r2.1.1), (I r2.1.2.1), (I r2.1.2.2)] [] [], Ch.ro 0 (Sl acode_0 code_0 ccode_0) code_0] := H
  refine st (v := (.tuple #[(.agg #[(I r23.1.1), (I r23.1.2.1), (I r23.1.2.2)]), (B r23.2)])) (rv_move rfl) ?_
  refine st (v := (.agg #[(I r23.1.1), (I r23.1.2.1), (I r23.1.2.2)])) (rv_extract rfl rfl) ?_
  refine st (v := (B r23.2)) (rv_extract rfl rfl) ?_
  refine st_ex (ex_alloc (cs := [(I 0), (I 0), (I 0)]) H hn0 ti25 rfl) wn ?_
  rintro _ σ28 ⟨b27, rfl, H, -⟩
  refine st_exS (ex_store_box (k := 0) (cs := [(I 0), (I 0), (I 0)]) (vs := [(I r23.1.1), (I r23.1.2.1), (I r23.1.2.2)]) (cs' := [(I r23.1.1), (I r23.1.2.1), (I r23.1.2.2)]) H (i := 0) rfl ti25 rfl rfl rfl rfl rfl (Nat.le_of_ble_eq_true rfl) (by simp [plain]) rfl) wn ?_
  rintro σ29 ⟨H, -⟩
  refine st (v := (B r23.2)) (rv_assign rfl) ?_
  refine w_end ?_
  refine q_then ?_
  refine c_seq ?_
  refine c_seq ?_
  obtain ⟨o30, hj, h'⟩ := bind_some h
  clear h
  refine c_cut (fun e a w => e = .normal ∧ ∃ (ρ : Nat → Value) (σ : St), a = fr 79 (updL ρ [(3, (pt b6 0)), (4, (pt b8 0)), (5, (pt b18 0)), (6, (B r14.2)), (7, (pt b27 0)), (8, (B r23.2)), (44, (B o30))]) ∧ w = σ.w ∧ Hp S0 σ0 σ [Ch.bx n0 b6 0 [(I r2.1.1), (I r2.1.2.1), (I r2.1.2.2)] [] [], Ch.bx n0 b8 0 [(I r2.2.1), (I r2.2.2.1), (I r2.2.2.2)] [] [], Ch.bx n0 b18 0 [(I r14.1.1), (I r14.1.2.1), (I r14.1.2.2)] [] [], Ch.bx n0 b27 0 [(I r23.1.1), (I r23.1.2.1), (I r23.1.2.2)] [] []]) ?_ ?_
  ·clear h'
   rename _ = some o30 => h
   refine rg ?_
   have hc31 := H.cells 1 rfl
   refine st (v := (.agg #[(I r14.1.1), (I r14.1.2.1), (I r14.1.2.2)])) (rv_load (cs := [(I r14.1.1), (I r14.1.2.1), (I r14.1.2.2)]) Try.underlying25 rfl ti25 rfl rfl hc31) ?_
   have hc32 := H.cells 0 rfl
   refine st (v := (.agg #[(I r23.1.1), (I r23.1.2.1), (I r23.1.2.2)])) (rv_load (cs := [(I r23.1.1), (I r23.1.2.1), (I r23.1.2.2)]) Try.underlying25 rfl ti25 rfl rfl hc32) ?_
   refine st (v := (B (!(([r14.1.1, r14.1.2.1, r14.1.2.2] : List Int) == ([r23.1.1, r23.1.2.1, r23.1.2.2] : List Int))))) (rv_neqI (xs := ([r14.1.1, r14.1.2.1, r14.1.2.2] : List Int)) (ys := ([r23.1.1, r23.1.2.1, r23.1.2.2] : List Int)) (by kernel_rfl) (by kernel_rfl) (by kernel_rfl) rfl (by kernel_rfl) (by exact intfs25) rfl rfl) ?_
   refine st (v := (B (!(([r14.1.1, r14.1.2.1, r14.1.2.2] : List Int) == ([r23.1.1, r23.1.2.1, r23.1.2.2] : List Int))))) (rv_move rfl) ?_
   rcases Bool.eq_false_or_eq_true (!(([r14.1.1, r14.1.2.1, r14.1.2.2] : List Int) == ([r23.1.1, r23.1.2.1, r23.1.2.2] : List Int))) with hb33 | hb33
   ·replace h := bif_t hb33 h
    refine st_skip (congrArg some hb33) ?_
    refine st_skip (congrArg some hb33) ?_
    refine st_skip (congrArg some hb33) ?_
    refine st (v := (B true)) (rv_pick_t (congrArg B hb33) rfl) ?_
    refine st (v := (B true)) (rv_move rfl) ?_
    refine st_skip rfl ?_
    refine st_skip rfl ?_
    refine st (v := (B true)) (rv_pick_t rfl rfl) ?_
    refine w_end ?_
    obtain rfl := Option.some.inj h
    exact ⟨rfl, _, σ29, fr_join ⟨rfl, rfl, rfl, rfl, rfl, rfl, rfl, trivial⟩, rfl, H.sel' [3, 2, 1, 0] rfl rfl⟩
   ·replace h := bif_f hb33 h
    refine st_g (v := (B r14.2)) (congrArg some hb33) (rv_move rfl) ?_
    refine st_g (v := (B r23.2)) (congrArg some hb33) (rv_move rfl) ?_
    refine st_g (v := (B (r14.2 != r23.2))) (congrArg some hb33) (rv_bneq Try.underlying4 rfl rfl) ?_
    refine st (v := (B (r14.2 != r23.2))) (rv_pick_f (congrArg B hb33) rfl) ?_
    refine st (v := (B (r14.2 != r23.2))) (rv_move rfl) ?_
    rcases Bool.eq_false_or_eq_true (r14.2 != r23.2) with hb34 | hb34
    ·replace h := bif_t hb34 h
     refine st_skip (congrArg some hb34) ?_
     refine st_skip (congrArg some hb34) ?_
     refine st (v := (B true)) (rv_pick_t (congrArg B hb34) rfl) ?_
     refine w_end ?_
     obtain rfl := Option.some.inj h
     exact ⟨rfl, _, σ29, fr_join ⟨rfl, rfl, rfl, rfl, rfl, rfl, rfl, trivial⟩, rfl, H.sel' [3, 2, 1, 0] rfl rfl⟩
    ·replace h := bif_f hb34 h
     refine st_g (v := (B r14.2)) (congrArg some hb34) (rv_move rfl) ?_
     refine st_g (v := (B (!r14.2))) (congrArg some hb34) (rv_not rfl) ?_
     refine st (v := (B (!r14.2))) (rv_pick_f (congrArg B hb34) rfl) ?_
     refine w_end ?_
     obtain rfl := Option.some.inj h
     exact ⟨rfl, _, σ29, fr_join ⟨rfl, rfl, rfl, rfl, rfl, rfl, rfl, trivial⟩, rfl, H.sel' [3, 2, 1, 0] rfl rfl⟩
  ·clear hj
   have h := h'
   clear h' H
   rintro e a w ⟨rfl, ρ, σ35, rfl, rfl, H⟩
   refine q_then ?_
   refine cd_cond o30 rfl (fun hb36 => ?_) (fun hb36 => ?_)
   ·replace h := bif_t hb36 h
    refine c_seq ?_
    refine rg ?_
    have hc37 := H.cells 2 rfl
    refine st (v := (.agg #[(I r14.1.1), (I r14.1.2.1), (I r14.1.2.2)])) (rv_load (cs := [(I r14.1.1), (I r14.1.2.1), (I r14.1.2.2)]) Try.underlying25 rfl ti25 rfl rfl hc37) ?_
    have hc38 := H.cells 3 rfl
    refine st (v := (.agg #[(I r23.1.1), (I r23.1.2.1), (I r23.1.2.2)])) (rv_load (cs := [(I r23.1.1), (I r23.1.2.1), (I r23.1.2.2)]) Try.underlying25 rfl ti25 rfl rfl hc38) ?_
    refine st (v := (B (([r14.1.1, r14.1.2.1, r14.1.2.2] : List Int) == ([r23.1.1, r23.1.2.1, r23.1.2.2] : List Int)))) (rv_eqlI (xs := ([r14.1.1, r14.1.2.1, r14.1.2.2] : List Int)) (ys := ([r23.1.1, r23.1.2.1, r23.1.2.2] : List Int)) (by kernel_rfl) (by kernel_rfl) (by kernel_rfl) rfl (by kernel_rfl) (by exact intfs25) rfl rfl) ?_
    refine st (v := (B (([r14.1.1, r14.1.2.1, r14.1.2.2] : List Int) == ([r23.1.1, r23.1.2.1, r23.1.2.2] : List Int)))) (rv_move rfl) ?_
    rcases Bool.eq_false_or_eq_true (([r14.1.1, r14.1.2.1, r14.1.2.2] : List Int) == ([r23.1.1, r23.1.2.1, r23.1.2.2] : List Int)) with hb39 | hb39
    ·replace h := bif_t hb39 h
     refine st_g (v := (B r14.2)) (congrArg some hb39) (rv_move rfl) ?_
     refine st_g (v := (B r23.2)) (congrArg some hb39) (rv_move rfl) ?_
     refine st_g (v := (B (r14.2 == r23.2))) (congrArg some hb39) (rv_beql Try.underlying4 rfl rfl) ?_
     refine st (v := (B (r14.2 == r23.2))) (rv_pick_t (congrArg B hb39) rfl) ?_
     refine st (v := (B (r14.2 == r23.2))) (rv_assign rfl) ?_
     refine w_end ?_
     refine q_then ?_
     refine c_ret ?_
     refine q_then_r ?_
     obtain rfl := Option.some.inj h
     exact fin_ret (v := (B (r14.2 == r23.2))) (results_ok Try.results6 (res_tmp (v := (B (r14.2 == r23.2))) rfl res_nil) rfl) ⟨rfl, rfl⟩ (H.sel' [] rfl rfl)
    ·replace h := bif_f hb39 h
     refine st_skip (congrArg some hb39) ?_
     refine st_skip (congrArg some hb39) ?_
     refine st_skip (congrArg some hb39) ?_
     refine st (v := (B false)) (rv_pick_f (congrArg B hb39) rfl) ?_
     refine st (v := (B false)) (rv_assign rfl) ?_
     refine w_end ?_
     refine q_then ?_
     refine c_ret ?_
     refine q_then_r ?_
     obtain rfl := Option.some.inj h
     exact fin_ret (v := (B false)) (results_ok Try.results6 (res_tmp (v := (B false)) rfl res_nil) rfl) ⟨rfl, rfl⟩ (H.sel' [] rfl rfl)
   ·replace h := bif_f hb36 h
    refine c_skip ?_
    refine q_then ?_
    refine c_seq ?_
    refine rg ?_
    have hc40 := H.cells 1 rfl
    refine st (v := (.agg #[(I r2.2.1), (I r2.2.2.1), (I r2.2.2.2)])) (rv_load (cs := [(I r2.2.1), (I r2.2.2.1), (I r2.2.2.2)]) Try.underlying25 rfl ti25 rfl rfl hc40) ?_
    have hc41 := H.cells 0 rfl
    refine st (v := (.agg #[(I r2.1.1), (I r2.1.2.1), (I r2.1.2.2)])) (rv_load (cs := [(I r2.1.1), (I r2.1.2.1), (I r2.1.2.2)]) Try.underlying25 rfl ti25 rfl rfl hc41) ?_
    obtain ⟨r42, hx43, h'⟩ := bind_some h
    clear h
    have h := h'; clear h'
    have hc44 := c_impl_BothFilters hx43
    refine st_call (cx_call hc44 (ent_f hc44.fn rfl) hn0 (show Hp S0 σ0 _ ([] ++ [Ch.bx n0 b6 0 [(I r2.1.1), (I r2.1.2.1), (I r2.1.2.2)] [] [], Ch.bx n0 b8 0 [(I r2.2.1), (I r2.2.2.1), (I r2.2.2.2)] [] [], Ch.bx n0 b18 0 [(I r14.1.1), (I r14.1.2.1), (I r14.1.2.2)] [] [], Ch.bx n0 b27 0 [(I r23.1.1), (I r23.1.2.1), (I r23.1.2.2)] [] []]) from (H.sel' [0, 1, 2, 3] rfl rfl))) wn ?_
    rintro _ σ45 ⟨_, ⟨rfl, rfl⟩, H, -⟩
    replace H : Hp S0 σ0 σ45 [Ch.bx n0 b6 0 [(I r2.1.1), (I r2.1.2.1), (I r2.1.2.2)] [] [], Ch.bx n0 b8 0 [(I r2.2.1), (I r2.2.2.1), (I r2.2.2.2)] [] [], Ch.bx n0 b18 0 [(I r14.1.1), (I r14.1.2.1), (I r14.1.2.2)] [] [], Ch.bx n0 b27 0 [(I r23.1.1), (I r23.1.2.1), (I r23.1.2.2)] [] []] := H
    refine st (v := (.tuple #[(.agg #[(I r42.1.1), (I r42.1.2.1), (I r42.1.2.2)]), (B r42.2)])) (rv_move rfl) ?_
    refine st (v := (.agg #[(I r42.1.1), (I r42.1.2.1), (I r42.1.2.2)])) (rv_extract rfl rfl) ?_
    refine st (v := (B r42.2)) (rv_extract rfl rfl) ?_
    refine st_ex (ex_alloc (cs := [(I 0), (I 0), (I 0)]) H hn0 ti25 rfl) wn ?_
    rintro _ σ47 ⟨b46, rfl, H, -⟩
    refine st_exS (ex_store_box (k := 0) (cs := [(I 0), (I 0), (I 0)]) (vs := [(I r42.1.1), (I r42.1.2.1), (I r42.1.2.2)]) (cs' := [(I r42.1.1), (I r42.1.2.1), (I r42.1.2.2)]) H (i := 0) rfl ti25 rfl rfl rfl rfl rfl (Nat.le_of_ble_eq_true rfl) (by simp [plain]) rfl) wn ?_
    rintro σ48 ⟨H, -⟩
    refine st (v := (B r42.2)) (rv_assign rfl) ?_
    refine w_end ?_
    refine q_then ?_
    refine c_seq ?_
    refine rg ?_
    have hc49 := H.cells 1 rfl
    refine st (v := (.agg #[(I r2.1.1), (I r2.1.2.1), (I r2.1.2.2)])) (rv_load (cs := [(I r2.1.1), (I r2.1.2.1), (I r2.1.2.2)]) Try.underlying25 rfl ti25 rfl rfl hc49) ?_
    refine st (v := (.agg #[(I 0), (I 0), (I 0)])) (rv_build (ps := []) Try.underlying25 ti25 (bp25 Try.underlying25) rfl (by kernel_rfl)) ?_
    obtain ⟨r50, hx51, h'⟩ := bind_some h
    clear h
    have h := h'; clear h'
    have hc52 := c_impl_BothFilters hx51
    refine st_call (cx_call hc52 (ent_f hc52.fn rfl) hn0 (show Hp S0 σ0 _ ([] ++ [Ch.bx n0 b46 0 [(I r42.1.1), (I r42.1.2.1), (I r42.1.2.2)] [] [], Ch.bx n0 b6 0 [(I r2.1.1), (I r2.1.2.1), (I r2.1.2.2)] [] [], Ch.bx n0 b8 0 [(I r2.2.1), (I r2.2.2.1), (I r2.2.2.2)] [] [], Ch.bx n0 b18 0 [(I r14.1.1), (I r14.1.2.1), (I r14.1.2.2)] [] [], Ch.bx n0 b27 0 [(I r23.1.1), (I r23.1.2.1), (I r23.1.2.2)] [] []]) from (H.sel' [0, 1, 2, 3, 4] rfl rfl))) wn ?_
    rintro _ σ53 ⟨_, ⟨rfl, rfl⟩, H, -⟩
    replace H : Hp S0 σ0 σ53 [Ch.bx n0 b46 0 [(I r42.1.1), (I r42.1.2.1), (I r42.1.2.2)] [] [], Ch.bx n0 b6 0 [(I r2.1.1), (I r2.1.2.1), (I r2.1.2.2)] [] [], Ch.bx n0 b8 0 [(I r2.2.1), (I r2.2.2.1), (I r2.2.2.2)] [] [], Ch.bx n0 b18 0 [(I r14.1.1), (I r14.1.2.1), (I r14.1.2.2)] [] [], Ch.bx n0 b27 0 [(I r23.1.1), (I r23.1.2.1), (I r23.1.2.2)] [] []] := H
    refine st (v := (.tuple #[(.agg #[(I r50.1.1), (I r50.1.2.1), (I r50.1.2.2)]), (B r50.2)])) (rv_move rfl) ?_
    refine st (v := (.agg #[(I r50.1.1), (I r50.1.2.1), (I r50.1.2.2)])) (rv_extract rfl rfl) ?_
    refine st (v := (B r50.2)) (rv_extract rfl rfl) ?_
    refine st_ex (ex_alloc (cs := [(I 0), (I 0), (I 0)]) H hn0 ti25 rfl) wn ?_
    rintro _ σ55 ⟨b54, rfl, H, -⟩
    refine st_exS (ex_store_box (k := 0) (cs := [(I 0), (I 0), (I 0)]) (vs := [(I r50.1.1), (I r50.1.2.1), (I r50.1.2.2)]) (cs' := [(I r50.1.1), (I r50.1.2.1), (I r50.1.2.2)]) H (i := 0) rfl ti25 rfl rfl rfl rfl rfl (Nat.le_of_ble_eq_true rfl) (by simp [plain]) rfl) wn ?_
    rintro σ56 ⟨H, -⟩
    refine st (v := (B r50.2)) (rv_assign rfl) ?_
    refine w_end ?_
    refine q_then ?_
    refine c_seq ?_
    refine rg ?_
    refine st (v := (B r42.2)) (rv_move rfl) ?_
    refine st (v := (B r42.2)) (rv_move rfl) ?_
    rcases Bool.eq_false_or_eq_true r42.2 with hb57 | hb57
    ·replace h := bif_t hb57 h
     have hc58 := H.cells 1 rfl
     refine st_g (v := (.agg #[(I r42.1.1), (I r42.1.2.1), (I r42.1.2.2)])) (congrArg some hb57) (rv_load (cs := [(I r42.1.1), (I r42.1.2.1), (I r42.1.2.2)]) Try.underlying25 rfl ti25 rfl rfl hc58) ?_
     have hc59 := H.cells 4 rfl
     refine st_g (v := (.agg #[(I r14.1.1), (I r14.1.2.1), (I r14.1.2.2)])) (congrArg some hb57) (rv_load (cs := [(I r14.1.1), (I r14.1.2.1), (I r14.1.2.2)]) Try.underlying25 rfl ti25 rfl rfl hc59) ?_
     refine st_g (v := (B (([r42.1.1, r42.1.2.1, r42.1.2.2] : List Int) == ([r14.1.1, r14.1.2.1, r14.1.2.2] : List Int)))) (congrArg some hb57) (rv_eqlI (xs := ([r42.1.1, r42.1.2.1, r42.1.2.2] : List Int)) (ys := ([r14.1.1, r14.1.2.1, r14.1.2.2] : List Int)) (by kernel_rfl) (by kernel_rfl) (by kernel_rfl) rfl (by kernel_rfl) (by exact intfs25) rfl rfl) ?_
     refine st (v := (B (([r42.1.1, r42.1.2.1, r42.1.2.2] : List Int) == ([r14.1.1, r14.1.2.1, r14.1.2.2] : List Int)))) (rv_pick_t (congrArg B hb57) rfl) ?_
     refine st (v := (B (([r42.1.1, r42.1.2.1, r42.1.2.2] : List Int) == ([r14.1.1, r14.1.2.1, r14.1.2.2] : List Int)))) (rv_move rfl) ?_
     rcases Bool.eq_false_or_eq_true (([r42.1.1, r42.1.2.1, r42.1.2.2] : List Int) == ([r14.1.1, r14.1.2.1, r14.1.2.2] : List Int)) with hb60 | hb60
     ·replace h := bif_t hb60 h
      refine st_g (v := (B r50.2)) (congrArg some hb60) (rv_move rfl) ?_
      refine st (v := (B r50.2)) (rv_pick_t (congrArg B hb60) rfl) ?_
      refine st (v := (B r50.2)) (rv_move rfl) ?_
      rcases Bool.eq_false_or_eq_true r50.2 with hb61 | hb61
      ·replace h := bif_t hb61 h
       have hc62 := H.cells 0 rfl
       refine st_g (v := (.agg #[(I r50.1.1), (I r50.1.2.1), (I r50.1.2.2)])) (congrArg some hb61) (rv_load (cs := [(I r50.1.1), (I r50.1.2.1), (I r50.1.2.2)]) Try.underlying25 rfl ti25 rfl rfl hc62) ?_
       have hc63 := H.cells 2 rfl
       refine st_g (v := (.agg #[(I r2.1.1), (I r2.1.2.1), (I r2.1.2.2)])) (congrArg some hb61) (rv_load (cs := [(I r2.1.1), (I r2.1.2.1), (I r2.1.2.2)]) Try.underlying25 rfl ti25 rfl rfl hc63) ?_
       refine st_g (v := (B (([r50.1.1, r50.1.2.1, r50.1.2.2] : List Int) == ([r2.1.1, r2.1.2.1, r2.1.2.2] : List Int)))) (congrArg some hb61) (rv_eqlI (xs := ([r50.1.1, r50.1.2.1, r50.1.2.2] : List Int)) (ys := ([r2.1.1, r2.1.2.1, r2.1.2.2] : List Int)) (by kernel_rfl) (by kernel_rfl) (by kernel_rfl) rfl (by kernel_rfl) (by exact intfs25) rfl rfl) ?_
       refine st (v := (B (([r50.1.1, r50.1.2.1, r50.1.2.2] : List Int) == ([r2.1.1, r2.1.2.1, r2.1.2.2] : List Int)))) (rv_pick_t (congrArg B hb61) rfl) ?_
       refine st (v := (B (([r50.1.1, r50.1.2.1, r50.1.2.2] : List Int) == ([r2.1.1, r2.1.2.1, r2.1.2.2] : List Int)))) (rv_assign rfl) ?_
       refine w_end ?_
       refine q_then ?_
       refine c_ret ?_
       obtain rfl := Option.some.inj h
       exact fin_ret (v := (B (([r50.1.1, r50.1.2.1, r50.1.2.2] : List Int) == ([r2.1.1, r2.1.2.1, r2.1.2.2] : List Int)))) (results_ok Try.results6 (res_tmp (v := (B (([r50.1.1, r50.1.2.1, r50.1.2.2] : List Int) == ([r2.1.1, r2.1.2.1, r2.1.2.2] : List Int)))) rfl res_nil) rfl) ⟨rfl, rfl⟩ (H.sel' [] rfl rfl)
      ·replace h := bif_f hb61 h
       refine st_skip (congrArg some hb61) ?_
       refine st_skip (congrArg some hb61) ?_
       refine st_skip (congrArg some hb61) ?_
       refine st (v := (B false)) (rv_pick_f (congrArg B hb61) rfl) ?_
       refine st (v := (B false)) (rv_assign rfl) ?_
       refine w_end ?_
       refine q_then ?_
       refine c_ret ?_
       obtain rfl := Option.some.inj h
       exact fin_ret (v := (B false)) (results_ok Try.results6 (res_tmp (v := (B false)) rfl res_nil) rfl) ⟨rfl, rfl⟩ (H.sel' [] rfl rfl)
     ·replace h := bif_f hb60 h
      refine st_skip (congrArg some hb60) ?_
      refine st (v := (B false)) (rv_pick_f (congrArg B hb60) rfl) ?_
      refine st (v := (B false)) (rv_move rfl) ?_
      refine st_skip rfl ?_
      refine st_skip rfl ?_
      refine st_skip rfl ?_
      refine st (v := (B false)) (rv_pick_f rfl rfl) ?_
      refine st (v := (B false)) (rv_assign rfl) ?_
      refine w_end ?_
      refine q_then ?_
      refine c_ret ?_
      obtain rfl := Option.some.inj h
      exact fin_ret (v := (B false)) (results_ok Try.results6 (res_tmp (v := (B false)) rfl res_nil) rfl) ⟨rfl, rfl⟩ (H.sel' [] rfl rfl)
    ·replace h := bif_f hb57 h
     refine st_skip (congrArg some hb57) ?_
     refine st_skip (congrArg some hb57) ?_
     refine st_skip (congrArg some hb57) ?_
     refine st (v := (B false)) (rv_pick_f (congrArg B hb57) rfl) ?_
     refine st (v := (B false)) (rv_move rfl) ?_
     refine st_skip rfl ?_
     refine st (v := (B false)) (rv_pick_f rfl rfl) ?_
     refine st (v := (B false)) (rv_move rfl) ?_
     refine st_skip rfl ?_
     refine st_skip rfl ?_
     refine st_skip rfl ?_
     refine st (v := (B false)) (rv_pick_f rfl rfl) ?_
     refine st (v := (B false)) (rv_assign rfl) ?_
     refine w_end ?_
     refine q_then ?_
     refine c_ret ?_
     obtain rfl := Option.some.inj h
     exact fin_ret (v := (B false)) (results_ok Try.results6 (res_tmp (v := (B false)) rfl res_nil) rfl) ⟨rfl, rfl⟩ (H.sel' [] rfl rfl)

end Go.Vs
