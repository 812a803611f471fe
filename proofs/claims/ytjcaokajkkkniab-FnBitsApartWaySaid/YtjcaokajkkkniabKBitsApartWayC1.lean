/- The functions compute what their models say. -/
import Derived.Test.YtjcaokajkkkniabKBitsApartWayM
import Derived.Test.YtjcaokajkkkniabBitsApartWayEng1
import Derived.Test.YtjcaokajkkkniabProg
set_option linter.unusedVariables false
set_option linter.unusedSimpArgs false
set_option maxRecDepth 20000
namespace Go.Vs
open Go Go.Proofs
attribute [local irreducible] Code.wp Code.wpIn wpList wpListIn wpQuiet Calls CallsIn

theorem ti3 : TI Try.prog 3 (.int .i64 0) 1 8 := TI.mk' (by kernel_rfl)
theorem ti5 : TI Try.prog 5 (.int .u8 0) 1 1 := TI.mk' (by kernel_rfl)
theorem ti22 : TI Try.prog 22 (.slice none 0 0) 1 24 := TI.mk' (by kernel_rfl)
theorem ti89 : TI Try.prog 89 (.agg #[(.slice none 0 0), (.int .i64 0)]) 2 32 := TI.mk' (by kernel_rfl)
theorem bp89 {fs : Array Field} (hT : Try.prog.underlying 89 = some (.struct fs)) (w : World) : (fs.mapM (fun f => do pure (f.offset, ← sizeOf f.type)) : Sem (Array (Nat × Nat))).run Try.prog w = .ok #[(0, 1), (1, 1)] w := by
  rw [Try.underlying89] at hT; cases hT
  simp [run_typeInfo ti22, run_typeInfo ti3]

theorem c_spec_newReader {code_0 : List UInt8} {acode_0 : Option Addr} {ccode_0 : Nat} {r : ((List UInt8) × Int)} (h : M.spec_newReader code_0 = some r) :
    Cal2 Try.prog 42 [(Sl acode_0 code_0 ccode_0)] [Ch.ro 0 (Sl acode_0 code_0 ccode_0) code_0] (fun n0 v L => ∃ (bz1 : Nat), ∃ (az2 : Option Addr), ∃ (cz3 : Nat), v = (pt bz1 0) ∧ L = [Ch.bx n0 bz1 0 [(Sl az2 r.1 cz3), (I r.2)] [] [], Ch.ro 0 (Sl az2 r.1 cz3) r.1]) := by
 refine cal2 (n := 11) Try.func42 rfl rfl rfl rfl ?_
 intro S0 σ0 n0 hn0 H
 unfold M.spec_newReader at h
 refine c_seq ?_
 refine rg ?_
 refine st (v := (.pointer none)) (rv_assign rfl) ?_
 refine w_end ?_
 refine q_then ?_
 refine c_seq ?_
 refine c_seq ?_
 refine rg ?_
 refine st (v := (Sl acode_0 code_0 ccode_0)) (rv_move rfl) ?_
 refine st (v := (I (code_0.length : Int))) (rv_len Try.underlying22 rfl) ?_
 refine st (v := (B (decide (2000 < (code_0.length : Int))))) (rv_gtr (a := (code_0.length : Int)) (b := 2000) rfl rfl) ?_
 refine w_end ?_
 refine q_then ?_
 obtain ⟨o1, hj, h'⟩ := bind_some h
 clear h
 refine c_cut (fun e a w => e = .normal ∧ ∃ (ρ : Nat → Value) (σ : St) (aj1 : Option Addr) (cj2 : Nat), a = fr 11 (updL ρ [(0, (Sl aj1 o1 cj2))]) ∧ w = σ.w ∧ Hp S0 σ0 σ [Ch.ro 0 (Sl aj1 o1 cj2) o1]) ?_ ?_
 ·clear h'
  rename _ = some o1 => h
  refine cd_cond (decide (2000 < (code_0.length : Int))) rfl (fun hb2 => ?_) (fun hb2 => ?_)
  ·replace h := bif_t hb2 h
   refine rg ?_
   refine st (v := (Sl acode_0 code_0 ccode_0)) (rv_move rfl) ?_
   obtain ⟨xs3, hx4, h'⟩ := bind_some h
   clear h
   have h := h'; clear h'
   obtain ⟨a5, c6, hs7, hR8⟩ := (H.ro 0 rfl).slice hx4
   replace H := H.add (d := Ch.ro 0 (Sl a5 xs3 c6) xs3) hR8 (fun _ h => h)
   clear hR8
   refine st (v := (Sl a5 xs3 c6)) (rv_slice_h Try.underlying22 ti5 hs7 rfl rfl) ?_
   refine st (v := (Sl a5 xs3 c6)) (rv_assign rfl) ?_
   refine w_end ?_
   obtain rfl := Option.some.inj h
   exact ⟨rfl, _, σ0, a5, c6, fr_join ⟨rfl, trivial⟩, rfl, H.sel' [0] rfl rfl⟩
  ·replace h := bif_f hb2 h
   refine c_skip ?_
   obtain rfl := Option.some.inj h
   exact ⟨rfl, _, σ0, acode_0, ccode_0, fr_join ⟨rfl, trivial⟩, rfl, H.sel' [0] rfl rfl⟩
 ·clear hj
  have h := h'
  clear h' H
  rintro e a w ⟨rfl, ρ, σ9, a10, c11, rfl, rfl, H⟩
  refine q_then ?_
  refine c_seq ?_
  refine rg ?_
  refine st (v := (Sl a10 o1 c11)) (rv_move rfl) ?_
  refine st (v := (.agg #[(Sl a10 o1 c11), (I 0)])) (rv_build (ps := [(0, (Sl a10 o1 c11))]) Try.underlying89 ti89 (bp89 Try.underlying89) rfl (by kernel_rfl)) ?_
  refine st_ex (ex_box (cs := [(Sl a10 o1 c11), (I 0)]) H hn0 rfl rfl) wn ?_
  rintro _ σ13 ⟨b12, rfl, H, -⟩
  refine st (v := (pt b12 0)) (rv_assign rfl) ?_
  refine w_end ?_
  refine q_then ?_
  refine c_ret ?_
  obtain rfl := Option.some.inj h
  exact fin_ret (v := (pt b12 0)) (results_ok Try.results42 (res_tmp (v := (pt b12 0)) rfl res_nil) rfl) ⟨b12, a10, c11, rfl, rfl⟩ (H.sel' [0, 1] rfl rfl)

theorem c_spec_reader_pick {r_0 : (List UInt8) × Int} {n_1 : Int} {ar_0_0 : Option Addr} {cr_0_0 : Nat} {lor_0 br_0 or_0 : Nat} {prer_0 sufr_0 : List Value} {r : Int × ((List UInt8) × Int)} (h : M.spec_reader_pick r_0 n_1 = some r) :
    Cal2 Try.prog 43 [(pt br_0 or_0), (I n_1)] [Ch.bx lor_0 br_0 or_0 [(Sl ar_0_0 r_0.1 cr_0_0), (I r_0.2)] prer_0 sufr_0, Ch.ro 0 (Sl ar_0_0 r_0.1 cr_0_0) r_0.1] (fun n0 v L => ∃ (az1 : Option Addr), ∃ (cz2 : Nat), v = (I r.1) ∧ L = [Ch.bx lor_0 br_0 or_0 [(Sl az1 r.2.1 cz2), (I r.2.2)] prer_0 sufr_0, Ch.ro 0 (Sl az1 r.2.1 cz2) r.2.1]) := by
 refine cal2 (n := 99) Try.func43 rfl rfl rfl rfl ?_
 intro S0 σ0 n0 hn0 H
 unfold M.spec_reader_pick at h
 refine c_seq ?_
 refine rg ?_
 refine st (v := (I 0)) (rv_assign rfl) ?_
 refine w_end ?_
 refine q_then ?_
 refine c_seq ?_
 refine rg ?_
 refine st (v := (pt br_0 or_0)) (rv_move rfl) ?_
 refine st (v := (pt br_0 or_0)) (rv_move rfl) ?_
 refine st (v := (pt br_0 or_0)) (rv_nilCheck rfl) ?_
 refine st (v := (pt br_0 (or_0 + 1))) (rv_fieldAddr (off := 1) (ft := 3) Try.underlying89 rfl ti3 rfl rfl) ?_
 have hc1 := H.cell (u := (I r_0.2)) (o' := (or_0 + 1)) 0 1 rfl rfl rfl
 refine st (v := (I r_0.2)) (rv_load1 Try.underlying3 rfl rfl hc1) ?_
 refine st (v := (I (w64 (r_0.2 + 1)))) (rv_add (a := r_0.2) (b := 1) rfl rfl) ?_
 refine st (v := (pt br_0 or_0)) (rv_nilCheck rfl) ?_
 refine st (v := (pt br_0 (or_0 + 1))) (rv_fieldAddr (off := 1) (ft := 3) Try.underlying89 rfl ti3 rfl rfl) ?_
 refine st_exS (ex_store_box (k := 1) (cs := [(Sl ar_0_0 r_0.1 cr_0_0), (I r_0.2)]) (vs := [(I (w64 (r_0.2 + 1)))]) (cs' := [(Sl ar_0_0 r_0.1 cr_0_0), (I (w64 (r_0.2 + 1)))]) H (i := 0) rfl ti3 rfl rfl rfl rfl rfl (Nat.le_of_ble_eq_true rfl) (by simp [plain]) rfl) wn ?_
 rintro σ2 ⟨H, -⟩
 refine w_end ?_
 refine q_then ?_
 refine c_seq ?_
 refine c_seq ?_
 obtain ⟨o3, hj, h'⟩ := bind_some h
 clear h
 refine c_cut (fun e a w => e = .normal ∧ ∃ (ρ : Nat → Value) (σ : St), a = fr 99 (updL ρ [(0, (pt br_0 or_0)), (1, (I n_1)), (24, (B o3))]) ∧ w = σ.w ∧ Hp S0 σ0 σ [Ch.ro 0 (Sl ar_0_0 r_0.1 cr_0_0) r_0.1, Ch.bx lor_0 br_0 or_0 [(Sl ar_0_0 r_0.1 cr_0_0), (I (w64 (r_0.2 + 1)))] prer_0 sufr_0]) ?_ ?_
 ·clear h'
  rename _ = some o3 => h
  refine rg ?_
  refine st (v := (I n_1)) (rv_move rfl) ?_
  refine st (v := (B (decide (n_1 < 1)))) (rv_lss (a := n_1) (b := 1) rfl rfl) ?_
  refine st (v := (B (decide (n_1 < 1)))) (rv_move rfl) ?_
  rcases Bool.eq_false_or_eq_true (decide (n_1 < 1)) with hb4 | hb4
  ·replace h := bif_t hb4 h
   refine st_skip (congrArg some hb4) ?_
   refine st_skip (congrArg some hb4) ?_
   refine st_skip (congrArg some hb4) ?_
   refine st_skip (congrArg some hb4) ?_
   refine st_skip (congrArg some hb4) ?_
   refine st_skip (congrArg some hb4) ?_
   refine st (v := (B true)) (rv_pick_t (congrArg B hb4) rfl) ?_
   refine w_end ?_
   obtain rfl := Option.some.inj h
   exact ⟨rfl, _, σ2, fr_join ⟨rfl, rfl, rfl, trivial⟩, rfl, H.sel' [1, 0] rfl rfl⟩
  ·replace h := bif_f hb4 h
   refine st_g (v := (pt br_0 or_0)) (congrArg some hb4) (rv_move rfl) ?_
   refine st_g (v := (pt br_0 or_0)) (congrArg some hb4) (rv_nilCheck rfl) ?_
   refine st_g (v := (pt br_0 or_0)) (congrArg some hb4) (rv_fieldAddr (off := 0) (ft := 22) Try.underlying89 rfl ti22 rfl rfl) ?_
   have hc5 := H.cell (u := (Sl ar_0_0 r_0.1 cr_0_0)) (o' := or_0) 0 0 rfl rfl rfl
   refine st_g (v := (Sl ar_0_0 r_0.1 cr_0_0)) (congrArg some hb4) (rv_load1 Try.underlying22 rfl rfl hc5) ?_
   refine st_g (v := (I (r_0.1.length : Int))) (congrArg some hb4) (rv_len Try.underlying22 rfl) ?_
   refine st_g (v := (B ((r_0.1.length : Int) == 0))) (congrArg some hb4) (rv_eql (a := (r_0.1.length : Int)) (b := 0) rfl rfl) ?_
   refine st (v := (B ((r_0.1.length : Int) == 0))) (rv_pick_f (congrArg B hb4) rfl) ?_
   refine w_end ?_
   obtain rfl := Option.some.inj h
   exact ⟨rfl, _, σ2, fr_join ⟨rfl, rfl, rfl, trivial⟩, rfl, H.sel' [1, 0] rfl rfl⟩
 ·clear hj
  have h := h'
  clear h' H
  rintro e a w ⟨rfl, ρ, σ6, rfl, rfl, H⟩
  refine q_then ?_
  refine cd_cond o3 rfl (fun hb7 => ?_) (fun hb7 => ?_)
  ·replace h := bif_t hb7 h
   refine c_seq ?_
   refine rg ?_
   refine st (v := (I 0)) (rv_assign rfl) ?_
   refine w_end ?_
   refine q_then ?_
   refine c_ret ?_
   refine q_then_r ?_
   obtain rfl := Option.some.inj h
   exact fin_ret (v := (I 0)) (results_ok Try.results43 (res_tmp (v := (I 0)) rfl res_nil) rfl) ⟨ar_0_0, cr_0_0, rfl, rfl⟩ (H.sel' [1, 0] rfl rfl)
  ·replace h := bif_f hb7 h
   refine c_skip ?_
   refine q_then ?_
   refine c_seq ?_
   refine rg ?_
   refine st (v := (pt br_0 or_0)) (rv_move rfl) ?_
   refine st (v := (pt br_0 or_0)) (rv_nilCheck rfl) ?_
   refine st (v := (pt br_0 (or_0 + 1))) (rv_fieldAddr (off := 1) (ft := 3) Try.underlying89 rfl ti3 rfl rfl) ?_
   have hc8 := H.cell (u := (I (w64 (r_0.2 + 1)))) (o' := (or_0 + 1)) 1 1 rfl rfl rfl
   refine st (v := (I (w64 (r_0.2 + 1)))) (rv_load1 Try.underlying3 rfl rfl hc8) ?_
   refine st (v := (I (w64 ((w64 (r_0.2 + 1)) - 1)))) (rv_sub (a := (w64 (r_0.2 + 1))) (b := 1) rfl rfl) ?_
   refine st (v := (I (w64 ((w64 (r_0.2 + 1)) - 1)))) (rv_assign rfl) ?_
   refine w_end ?_
   refine q_then ?_
   refine c_seq ?_
   refine c_seq ?_
   refine rg ?_
   refine st (v := (I (w64 ((w64 (r_0.2 + 1)) - 1)))) (rv_move rfl) ?_
   refine st (v := (pt br_0 or_0)) (rv_move rfl) ?_
   refine st (v := (pt br_0 or_0)) (rv_nilCheck rfl) ?_
   refine st (v := (pt br_0 or_0)) (rv_fieldAddr (off := 0) (ft := 22) Try.underlying89 rfl ti22 rfl rfl) ?_
   have hc9 := H.cell (u := (Sl ar_0_0 r_0.1 cr_0_0)) (o' := or_0) 1 0 rfl rfl rfl
   refine st (v := (Sl ar_0_0 r_0.1 cr_0_0)) (rv_load1 Try.underlying22 rfl rfl hc9) ?_
   refine st (v := (I (r_0.1.length : Int))) (rv_len Try.underlying22 rfl) ?_
   refine st (v := (B (decide ((w64 ((w64 (r_0.2 + 1)) - 1)) < (r_0.1.length : Int))))) (rv_lss (a := (w64 ((w64 (r_0.2 + 1)) - 1))) (b := (r_0.1.length : Int)) rfl rfl) ?_
   refine w_end ?_
   refine q_then ?_
   refine cd_cond (decide ((w64 ((w64 (r_0.2 + 1)) - 1)) < (r_0.1.length : Int))) rfl (fun hb10 => ?_) (fun hb10 => ?_)
   ·replace h := bif_t hb10 h
    refine c_seq ?_
    refine rg ?_
    refine st (v := (pt br_0 or_0)) (rv_move rfl) ?_
    refine st (v := (pt br_0 or_0)) (rv_nilCheck rfl) ?_
    refine st (v := (pt br_0 or_0)) (rv_fieldAddr (off := 0) (ft := 22) Try.underlying89 rfl ti22 rfl rfl) ?_
    have hc11 := H.cell (u := (Sl ar_0_0 r_0.1 cr_0_0)) (o' := or_0) 1 0 rfl rfl rfl
    refine st (v := (Sl ar_0_0 r_0.1 cr_0_0)) (rv_load1 Try.underlying22 rfl rfl hc11) ?_
    refine st (v := (I (w64 ((w64 (r_0.2 + 1)) - 1)))) (rv_move rfl) ?_
    obtain ⟨x12, hx13, h'⟩ := bind_some h
    clear h
    have h := h'; clear h'
    obtain ⟨b15, o16, hi14, -⟩ := (H.ro 0 rfl).ix hx13
    refine st (v := (pt b15 o16)) (rv_ix Try.underlying22 ti5 rfl rfl hi14) ?_
    have hc17 := ((H.ro 0 rfl).at hx13 hi14).byte
    refine st (v := (.int .u8 (x12.toNat : Int))) (rv_load1 Try.underlying5 rfl rfl hc17) ?_
    refine st (v := (I (w64 (x12.toNat : Int)))) (rv_conv Try.underlying5 Try.underlying3 rfl) ?_
    refine st (v := (I n_1)) (rv_move rfl) ?_
    obtain ⟨q18, hx19, h'⟩ := bind_some h
    clear h
    have h := h'; clear h'
    refine st (v := (I q18)) (rv_remG (a := (w64 (x12.toNat : Int))) (b := n_1) hx19 rfl rfl) ?_
    refine st (v := (I q18)) (rv_assign rfl) ?_
    refine w_end ?_
    refine q_then ?_
    refine c_ret ?_
    refine q_then_r ?_
    obtain rfl := Option.some.inj h
    exact fin_ret (v := (I q18)) (results_ok Try.results43 (res_tmp (v := (I q18)) rfl res_nil) rfl) ⟨ar_0_0, cr_0_0, rfl, rfl⟩ (H.sel' [1, 0] rfl rfl)
   ·replace h := bif_f hb10 h
    refine c_skip ?_
    refine q_then ?_
    refine c_seq ?_
    refine rgP (σ := σ6) 44 (by kernel_rfl) (by kernel_rfl) (by kernel_rfl) ?_
    refine sq (v := (pt br_0 or_0)) (rv_move rfl) ?_
    refine sq (v := (pt br_0 or_0)) (rv_nilCheck rfl) ?_
    refine sq (v := (pt br_0 or_0)) (rv_fieldAddr (off := 0) (ft := 22) Try.underlying89 rfl ti22 rfl rfl) ?_
    have hc20 := H.cell (u := (Sl ar_0_0 r_0.1 cr_0_0)) (o' := or_0) 1 0 rfl rfl rfl
    refine sq (v := (Sl ar_0_0 r_0.1 cr_0_0)) (rv_load1 Try.underlying22 rfl rfl hc20) ?_
    refine sq (v := (I (w64 ((w64 (r_0.2 + 1)) - 1)))) (rv_move rfl) ?_
    refine sq (v := (pt br_0 or_0)) (rv_move rfl) ?_
    refine sq (v := (pt br_0 or_0)) (rv_nilCheck rfl) ?_
    refine sq (v := (pt br_0 or_0)) (rv_fieldAddr (off := 0) (ft := 22) Try.underlying89 rfl ti22 rfl rfl) ?_
    have hc21 := H.cell (u := (Sl ar_0_0 r_0.1 cr_0_0)) (o' := or_0) 1 0 rfl rfl rfl
    refine sq (v := (Sl ar_0_0 r_0.1 cr_0_0)) (rv_load1 Try.underlying22 rfl rfl hc21) ?_
    refine sq (v := (I (r_0.1.length : Int))) (rv_len Try.underlying22 rfl) ?_
    obtain ⟨q22, hx23, h'⟩ := bind_some h
    clear h
    have h := h'; clear h'
    refine sq (v := (I q22)) (rv_remG (a := (w64 ((w64 (r_0.2 + 1)) - 1))) (b := (r_0.1.length : Int)) hx23 rfl rfl) ?_
    obtain ⟨x24, hx25, h'⟩ := bind_some h
    clear h
    have h := h'; clear h'
    obtain ⟨b27, o28, hi26, -⟩ := (H.ro 0 rfl).ix hx25
    refine sq (v := (pt b27 o28)) (rv_ix Try.underlying22 ti5 rfl rfl hi26) ?_
    have hc29 := ((H.ro 0 rfl).at hx25 hi26).byte
    refine sq (v := (.int .u8 (x24.toNat : Int))) (rv_load1 Try.underlying5 rfl rfl hc29) ?_
    refine sq (v := (I (w64 (x24.toNat : Int)))) (rv_conv Try.underlying5 Try.underlying3 rfl) ?_
    refine sq (v := (I (w64 ((w64 (x24.toNat : Int)) * 131)))) (rv_mul (a := (w64 (x24.toNat : Int))) (b := 131) rfl rfl) ?_
    refine sq (v := (pt br_0 or_0)) (rv_move rfl) ?_
    refine sq (v := (pt br_0 or_0)) (rv_nilCheck rfl) ?_
    refine sq (v := (pt br_0 or_0)) (rv_fieldAddr (off := 0) (ft := 22) Try.underlying89 rfl ti22 rfl rfl) ?_
    have hc30 := H.cell (u := (Sl ar_0_0 r_0.1 cr_0_0)) (o' := or_0) 1 0 rfl rfl rfl
    refine sq (v := (Sl ar_0_0 r_0.1 cr_0_0)) (rv_load1 Try.underlying22 rfl rfl hc30) ?_
    refine sq (v := (I (w64 ((w64 (r_0.2 + 1)) - 1)))) (rv_move rfl) ?_
    refine sq (v := (I (w64 ((w64 ((w64 (r_0.2 + 1)) - 1)) * 7)))) (rv_mul (a := (w64 ((w64 (r_0.2 + 1)) - 1))) (b := 7) rfl rfl) ?_
    refine sq (v := (I (w64 ((w64 ((w64 ((w64 (r_0.2 + 1)) - 1)) * 7)) + 3)))) (rv_add (a := (w64 ((w64 ((w64 (r_0.2 + 1)) - 1)) * 7))) (b := 3) rfl rfl) ?_
    refine sq (v := (pt br_0 or_0)) (rv_move rfl) ?_
    refine sq (v := (pt br_0 or_0)) (rv_nilCheck rfl) ?_
    refine sq (v := (pt br_0 or_0)) (rv_fieldAddr (off := 0) (ft := 22) Try.underlying89 rfl ti22 rfl rfl) ?_
    have hc31 := H.cell (u := (Sl ar_0_0 r_0.1 cr_0_0)) (o' := or_0) 1 0 rfl rfl rfl
    refine sq (v := (Sl ar_0_0 r_0.1 cr_0_0)) (rv_load1 Try.underlying22 rfl rfl hc31) ?_
    refine sq (v := (I (r_0.1.length : Int))) (rv_len Try.underlying22 rfl) ?_
    obtain ⟨q32, hx33, h'⟩ := bind_some h
    clear h
    have h := h'; clear h'
    refine sq (v := (I q32)) (rv_remG (a := (w64 ((w64 ((w64 ((w64 (r_0.2 + 1)) - 1)) * 7)) + 3))) (b := (r_0.1.length : Int)) hx33 rfl rfl) ?_
    obtain ⟨x34, hx35, h'⟩ := bind_some h
    clear h
    have h := h'; clear h'
    obtain ⟨b37, o38, hi36, -⟩ := (H.ro 0 rfl).ix hx35
    refine sq (v := (pt b37 o38)) (rv_ix Try.underlying22 ti5 rfl rfl hi36) ?_
    have hc39 := ((H.ro 0 rfl).at hx35 hi36).byte
    refine sq (v := (.int .u8 (x34.toNat : Int))) (rv_load1 Try.underlying5 rfl rfl hc39) ?_
    refine sq (v := (I (w64 (x34.toNat : Int)))) (rv_conv Try.underlying5 Try.underlying3 rfl) ?_
    refine sq (v := (I (w64 ((w64 (x34.toNat : Int)) * 1117)))) (rv_mul (a := (w64 (x34.toNat : Int))) (b := 1117) rfl rfl) ?_
    refine sq (v := (I (w64 ((w64 ((w64 (x24.toNat : Int)) * 131)) + (w64 ((w64 (x34.toNat : Int)) * 1117)))))) (rv_add (a := (w64 ((w64 (x24.toNat : Int)) * 131))) (b := (w64 ((w64 (x34.toNat : Int)) * 1117))) rfl rfl) ?_
    refine sq (v := (I (w64 ((w64 (r_0.2 + 1)) - 1)))) (rv_move rfl) ?_
    refine sq (v := (I (w64 ((w64 ((w64 (r_0.2 + 1)) - 1)) * 29)))) (rv_mul (a := (w64 ((w64 (r_0.2 + 1)) - 1))) (b := 29) rfl rfl) ?_
    refine sq (v := (I (w64 ((w64 ((w64 ((w64 (x24.toNat : Int)) * 131)) + (w64 ((w64 (x34.toNat : Int)) * 1117)))) + (w64 ((w64 ((w64 (r_0.2 + 1)) - 1)) * 29)))))) (rv_add (a := (w64 ((w64 ((w64 (x24.toNat : Int)) * 131)) + (w64 ((w64 (x34.toNat : Int)) * 1117))))) (b := (w64 ((w64 ((w64 (r_0.2 + 1)) - 1)) * 29))) rfl rfl) ?_
    refine sq (v := (I (w64 ((w64 (r_0.2 + 1)) - 1)))) (rv_move rfl) ?_
    refine sq (v := (pt br_0 or_0)) (rv_move rfl) ?_
    refine sq (v := (pt br_0 or_0)) (rv_nilCheck rfl) ?_
    refine sq (v := (pt br_0 or_0)) (rv_fieldAddr (off := 0) (ft := 22) Try.underlying89 rfl ti22 rfl rfl) ?_
    have hc40 := H.cell (u := (Sl ar_0_0 r_0.1 cr_0_0)) (o' := or_0) 1 0 rfl rfl rfl
    refine sq (v := (Sl ar_0_0 r_0.1 cr_0_0)) (rv_load1 Try.underlying22 rfl rfl hc40) ?_
    refine sq (v := (I (r_0.1.length : Int))) (rv_len Try.underlying22 rfl) ?_
    obtain ⟨q41, hx42, h'⟩ := bind_some h
    clear h
    have h := h'; clear h'
    refine sq (v := (I q41)) (rv_quoG (a := (w64 ((w64 (r_0.2 + 1)) - 1))) (b := (r_0.1.length : Int)) hx42 rfl rfl) ?_
    refine sq (v := (I (w64 (q41 * 53)))) (rv_mul (a := q41) (b := 53) rfl rfl) ?_
    refine sq_end ?_
    intro σ43 hm44
    replace H := H.grow (hm44.mono fun _ h => h); clear hm44
    refine st (v := (I (w64 ((w64 ((w64 ((w64 ((w64 (x24.toNat : Int)) * 131)) + (w64 ((w64 (x34.toNat : Int)) * 1117)))) + (w64 ((w64 ((w64 (r_0.2 + 1)) - 1)) * 29)))) + (w64 (q41 * 53)))))) (rv_add (a := (w64 ((w64 ((w64 ((w64 (x24.toNat : Int)) * 131)) + (w64 ((w64 (x34.toNat : Int)) * 1117)))) + (w64 ((w64 ((w64 (r_0.2 + 1)) - 1)) * 29))))) (b := (w64 (q41 * 53))) rfl rfl) ?_
    refine st (v := (I (w64 ((w64 ((w64 ((w64 ((w64 (x24.toNat : Int)) * 131)) + (w64 ((w64 (x34.toNat : Int)) * 1117)))) + (w64 ((w64 ((w64 (r_0.2 + 1)) - 1)) * 29)))) + (w64 (q41 * 53)))))) (rv_assign rfl) ?_
    refine w_end ?_
    refine q_then ?_
    refine c_seq ?_
    refine rg ?_
    refine st (v := (I (w64 ((w64 ((w64 ((w64 ((w64 (x24.toNat : Int)) * 131)) + (w64 ((w64 (x34.toNat : Int)) * 1117)))) + (w64 ((w64 ((w64 (r_0.2 + 1)) - 1)) * 29)))) + (w64 (q41 * 53)))))) (rv_move rfl) ?_
    refine st (v := (I (w64 ((w64 ((w64 ((w64 ((w64 (x24.toNat : Int)) * 131)) + (w64 ((w64 (x34.toNat : Int)) * 1117)))) + (w64 ((w64 ((w64 (r_0.2 + 1)) - 1)) * 29)))) + (w64 (q41 * 53)))))) (rv_move rfl) ?_
    refine st (v := (I (w64 ((w64 ((w64 ((w64 ((w64 ((w64 (x24.toNat : Int)) * 131)) + (w64 ((w64 (x34.toNat : Int)) * 1117)))) + (w64 ((w64 ((w64 (r_0.2 + 1)) - 1)) * 29)))) + (w64 (q41 * 53)))).tdiv 64)))) (rv_quo (a := (w64 ((w64 ((w64 ((w64 ((w64 (x24.toNat : Int)) * 131)) + (w64 ((w64 (x34.toNat : Int)) * 1117)))) + (w64 ((w64 ((w64 (r_0.2 + 1)) - 1)) * 29)))) + (w64 (q41 * 53))))) (b := 64) rfl rfl (by decide)) ?_
    refine st (v := (I (gxor (w64 ((w64 ((w64 ((w64 ((w64 (x24.toNat : Int)) * 131)) + (w64 ((w64 (x34.toNat : Int)) * 1117)))) + (w64 ((w64 ((w64 (r_0.2 + 1)) - 1)) * 29)))) + (w64 (q41 * 53)))) (w64 ((w64 ((w64 ((w64 ((w64 ((w64 (x24.toNat : Int)) * 131)) + (w64 ((w64 (x34.toNat : Int)) * 1117)))) + (w64 ((w64 ((w64 (r_0.2 + 1)) - 1)) * 29)))) + (w64 (q41 * 53)))).tdiv 64))))) (rv_xor (a := (w64 ((w64 ((w64 ((w64 ((w64 (x24.toNat : Int)) * 131)) + (w64 ((w64 (x34.toNat : Int)) * 1117)))) + (w64 ((w64 ((w64 (r_0.2 + 1)) - 1)) * 29)))) + (w64 (q41 * 53))))) (b := (w64 ((w64 ((w64 ((w64 ((w64 ((w64 (x24.toNat : Int)) * 131)) + (w64 ((w64 (x34.toNat : Int)) * 1117)))) + (w64 ((w64 ((w64 (r_0.2 + 1)) - 1)) * 29)))) + (w64 (q41 * 53)))).tdiv 64))) rfl rfl) ?_
    refine st (v := (I (gxor (w64 ((w64 ((w64 ((w64 ((w64 (x24.toNat : Int)) * 131)) + (w64 ((w64 (x34.toNat : Int)) * 1117)))) + (w64 ((w64 ((w64 (r_0.2 + 1)) - 1)) * 29)))) + (w64 (q41 * 53)))) (w64 ((w64 ((w64 ((w64 ((w64 ((w64 (x24.toNat : Int)) * 131)) + (w64 ((w64 (x34.toNat : Int)) * 1117)))) + (w64 ((w64 ((w64 (r_0.2 + 1)) - 1)) * 29)))) + (w64 (q41 * 53)))).tdiv 64))))) (rv_assign rfl) ?_
    refine w_end ?_
    refine q_then ?_
    refine c_seq ?_
    refine rg ?_
    refine st (v := (I (gxor (w64 ((w64 ((w64 ((w64 ((w64 (x24.toNat : Int)) * 131)) + (w64 ((w64 (x34.toNat : Int)) * 1117)))) + (w64 ((w64 ((w64 (r_0.2 + 1)) - 1)) * 29)))) + (w64 (q41 * 53)))) (w64 ((w64 ((w64 ((w64 ((w64 ((w64 (x24.toNat : Int)) * 131)) + (w64 ((w64 (x34.toNat : Int)) * 1117)))) + (w64 ((w64 ((w64 (r_0.2 + 1)) - 1)) * 29)))) + (w64 (q41 * 53)))).tdiv 64))))) (rv_move rfl) ?_
    refine st (v := (I n_1)) (rv_move rfl) ?_
    obtain ⟨q45, hx46, h'⟩ := bind_some h
    clear h
    have h := h'; clear h'
    refine st (v := (I q45)) (rv_remG (a := (gxor (w64 ((w64 ((w64 ((w64 ((w64 (x24.toNat : Int)) * 131)) + (w64 ((w64 (x34.toNat : Int)) * 1117)))) + (w64 ((w64 ((w64 (r_0.2 + 1)) - 1)) * 29)))) + (w64 (q41 * 53)))) (w64 ((w64 ((w64 ((w64 ((w64 ((w64 (x24.toNat : Int)) * 131)) + (w64 ((w64 (x34.toNat : Int)) * 1117)))) + (w64 ((w64 ((w64 (r_0.2 + 1)) - 1)) * 29)))) + (w64 (q41 * 53)))).tdiv 64)))) (b := n_1) hx46 rfl rfl) ?_
    refine st (v := (I q45)) (rv_assign rfl) ?_
    refine w_end ?_
    refine q_then ?_
    refine c_ret ?_
    obtain rfl := Option.some.inj h
    exact fin_ret (v := (I q45)) (results_ok Try.results43 (res_tmp (v := (I q45)) rfl res_nil) rfl) ⟨ar_0_0, cr_0_0, rfl, rfl⟩ (H.sel' [1, 0] rfl rfl)

theorem c_spec_DrawBitsApart {code_0 : List UInt8} {acode_0 : Option Addr} {ccode_0 : Nat} {r : Int × Int} (h : M.spec_DrawBitsApart code_0 = some r) :
    Cal2 Try.prog 14 [(Sl acode_0 code_0 ccode_0)] [Ch.ro 0 (Sl acode_0 code_0 ccode_0) code_0] (fun n0 v L => v = (.tuple #[(I r.1), (I r.2)]) ∧ L = []) := by
 refine cal2 (n := 15) Try.func14 rfl rfl rfl rfl ?_
 intro S0 σ0 n0 hn0 H
 unfold M.spec_DrawBitsApart at h
 refine c_seq ?_
 refine rg ?_
 refine st (v := (I 0)) (rv_assign rfl) ?_
 refine st (v := (I 0)) (rv_assign rfl) ?_
 refine w_end ?_
 refine q_then ?_
 refine c_seq ?_
 refine rg ?_
 refine st (v := (Sl acode_0 code_0 ccode_0)) (rv_move rfl) ?_
 obtain ⟨r1, hx2, h'⟩ := bind_some h
 clear h
 have h := h'; clear h'
 have hc3 := c_spec_newReader (acode_0 := acode_0) (ccode_0 := ccode_0) hx2
 refine st_call (cx_call hc3 (ent_f hc3.fn rfl) hn0 (show Hp S0 σ0 _ ([Ch.ro 0 (Sl acode_0 code_0 ccode_0) code_0] ++ [Ch.ro 0 (Sl acode_0 code_0 ccode_0) code_0]) from (H.sel' [0, 0] rfl rfl))) wn ?_
 rintro _ σ7 ⟨_, ⟨b4, a5, c6, rfl, rfl⟩, H, -⟩
 replace H : Hp S0 σ0 σ7 [Ch.bx n0 b4 0 [(Sl a5 r1.1 c6), (I r1.2)] [] [], Ch.ro 0 (Sl a5 r1.1 c6) r1.1, Ch.ro 0 (Sl acode_0 code_0 ccode_0) code_0] := H
 refine st (v := (pt b4 0)) (rv_assign rfl) ?_
 refine w_end ?_
 refine q_then ?_
 refine c_seq ?_
 refine rg ?_
 refine st (v := (pt b4 0)) (rv_move rfl) ?_
 obtain ⟨r8, hx9, h'⟩ := bind_some h
 clear h
 have h := h'; clear h'
 have hc10 := c_spec_reader_pick (lor_0 := n0) (br_0 := b4) (or_0 := 0) (prer_0 := []) (sufr_0 := []) (ar_0_0 := a5) (cr_0_0 := c6) hx9
 refine st_call (cx_call hc10 (ent_f hc10.fn rfl) hn0 (show Hp S0 σ0 _ ([Ch.bx n0 b4 0 [(Sl a5 r1.1 c6), (I r1.2)] [] [], Ch.ro 0 (Sl a5 r1.1 c6) r1.1] ++ [Ch.ro 0 (Sl a5 r1.1 c6) r1.1, Ch.ro 0 (Sl acode_0 code_0 ccode_0) code_0]) from (H.sel' [0, 1, 1, 2] rfl rfl))) wn ?_
 rintro _ σ13 ⟨_, ⟨a11, c12, rfl, rfl⟩, H, -⟩
 replace H : Hp S0 σ0 σ13 [Ch.bx n0 b4 0 [(Sl a11 r8.2.1 c12), (I r8.2.2)] [] [], Ch.ro 0 (Sl a11 r8.2.1 c12) r8.2.1, Ch.ro 0 (Sl a5 r1.1 c6) r1.1, Ch.ro 0 (Sl acode_0 code_0 ccode_0) code_0] := H
 refine st (v := (I (w64 (r8.1 - 1)))) (rv_sub (a := r8.1) (b := 1) rfl rfl) ?_
 refine st (v := (I (w64 (r8.1 - 1)))) (rv_assign rfl) ?_
 refine w_end ?_
 refine q_then ?_
 refine c_seq ?_
 refine rg ?_
 refine st (v := (I (w64 (r8.1 - 1)))) (rv_move rfl) ?_
 refine st (v := (pt b4 0)) (rv_move rfl) ?_
 obtain ⟨r14, hx15, h'⟩ := bind_some h
 clear h
 have h := h'; clear h'
 have hc16 := c_spec_reader_pick (lor_0 := n0) (br_0 := b4) (or_0 := 0) (prer_0 := []) (sufr_0 := []) (ar_0_0 := a11) (cr_0_0 := c12) hx15
 refine st_call (cx_call hc16 (ent_f hc16.fn rfl) hn0 (show Hp S0 σ0 _ ([Ch.bx n0 b4 0 [(Sl a11 r8.2.1 c12), (I r8.2.2)] [] [], Ch.ro 0 (Sl a11 r8.2.1 c12) r8.2.1] ++ [Ch.ro 0 (Sl a11 r8.2.1 c12) r8.2.1, Ch.ro 0 (Sl a5 r1.1 c6) r1.1, Ch.ro 0 (Sl acode_0 code_0 ccode_0) code_0]) from (H.sel' [0, 1, 1, 2, 3] rfl rfl))) wn ?_
 rintro _ σ19 ⟨_, ⟨a17, c18, rfl, rfl⟩, H, -⟩
 replace H : Hp S0 σ0 σ19 [Ch.bx n0 b4 0 [(Sl a17 r14.2.1 c18), (I r14.2.2)] [] [], Ch.ro 0 (Sl a17 r14.2.1 c18) r14.2.1, Ch.ro 0 (Sl a11 r8.2.1 c12) r8.2.1, Ch.ro 0 (Sl a5 r1.1 c6) r1.1, Ch.ro 0 (Sl acode_0 code_0 ccode_0) code_0] := H
 refine st (v := (I (w64 (r14.1 - 1)))) (rv_sub (a := r14.1) (b := 1) rfl rfl) ?_
 refine st (v := (I (w64 (r8.1 - 1)))) (rv_assign rfl) ?_
 refine st (v := (I (w64 (r14.1 - 1)))) (rv_assign rfl) ?_
 refine w_end ?_
 refine q_then ?_
 refine c_ret ?_
 obtain rfl := Option.some.inj h
 exact fin_ret (v := (.tuple #[(I (w64 (r8.1 - 1))), (I (w64 (r14.1 - 1)))])) (results_ok Try.results14 (res_tmp (v := (I (w64 (r8.1 - 1)))) rfl (res_tmp (v := (I (w64 (r14.1 - 1)))) rfl res_nil)) rfl) ⟨rfl, rfl⟩ (H.sel' [] rfl rfl)

theorem c_impl_validHash {hash_0 : Int}  {r : Bool} (h : M.impl_validHash hash_0 = some r) :
    Cal2 Try.prog 44 [(I hash_0)] [] (fun n0 v L => v = (B r) ∧ L = []) := by
 refine cal2 (n := 9) Try.func44 rfl rfl rfl rfl ?_
 intro S0 σ0 n0 hn0 H
 unfold M.impl_validHash at h
 refine c_seq ?_
 refine rg ?_
 refine st (v := (B false)) (rv_assign rfl) ?_
 refine w_end ?_
 refine q_then ?_
 refine c_seq ?_
 refine rg ?_
 refine st (v := (I hash_0)) (rv_move rfl) ?_
 refine st (v := (B (decide (0 ≤ hash_0)))) (rv_geq (a := hash_0) (b := 0) rfl rfl) ?_
 refine st (v := (B (decide (0 ≤ hash_0)))) (rv_move rfl) ?_
 rcases Bool.eq_false_or_eq_true (decide (0 ≤ hash_0)) with hb1 | hb1
 ·replace h := bif_t hb1 h
  refine st_g (v := (I hash_0)) (congrArg some hb1) (rv_move rfl) ?_
  refine st_g (v := (B (decide (hash_0 ≤ 63)))) (congrArg some hb1) (rv_leq (a := hash_0) (b := 63) rfl rfl) ?_
  refine st (v := (B (decide (hash_0 ≤ 63)))) (rv_pick_t (congrArg B hb1) rfl) ?_
  refine st (v := (B (decide (hash_0 ≤ 63)))) (rv_assign rfl) ?_
  refine w_end ?_
  refine q_then ?_
  refine c_ret ?_
  obtain rfl := Option.some.inj h
  exact fin_ret (v := (B (decide (hash_0 ≤ 63)))) (results_ok Try.results44 (res_tmp (v := (B (decide (hash_0 ≤ 63)))) rfl res_nil) rfl) ⟨rfl, rfl⟩ (H.sel' [] rfl rfl)
 ·replace h := bif_f hb1 h
  refine st_skip (congrArg some hb1) ?_
  refine st_skip (congrArg some hb1) ?_
  refine st (v := (B false)) (rv_pick_f (congrArg B hb1) rfl) ?_
  refine st (v := (B false)) (rv_assign rfl) ?_
  refine w_end ?_
  refine q_then ?_
  refine c_ret ?_
  obtain rfl := Option.some.inj h
  exact fin_ret (v := (B false)) (results_ok Try.results44 (res_tmp (v := (B false)) rfl res_nil) rfl) ⟨rfl, rfl⟩ (H.sel' [] rfl rfl)

theorem c_math_bits_OnesCount32 {x_0 : Int}  {r : Int} (h : M.math_bits_OnesCount32 x_0 = some r) :
    Cal2 Try.prog 74 [(.int .u32 x_0)] [] (fun n0 v L => v = (I r) ∧ L = []) := by
 refine cal2 (n := 21) Try.func74 rfl rfl rfl rfl ?_
 intro S0 σ0 n0 hn0 H
 unfold M.math_bits_OnesCount32 at h
 refine c_seq ?_
 refine rg ?_
 refine st (v := (I 0)) (rv_assign rfl) ?_
 refine w_end ?_
 refine q_then ?_
 refine c_seq ?_
 refine rgP (σ := σ0) 16 (by kernel_rfl) (by kernel_rfl) (by kernel_rfl) ?_
 refine sq (v := (.int .u32 x_0)) (rv_move rfl) ?_
 refine sq (v := (.int .u32 (gshr .u32 x_0 24))) (rvk_shr (k := .u32) (k' := .u64) (a := x_0) (b := 24) rfl rfl (by decide)) ?_
 obtain ⟨x1, hx2, h'⟩ := bind_some h
 clear h
 have h := h'; clear h'
 refine sq (v := (.int .u8 x1)) (rv_sidx (bs := [0, 1, 1, 2, 1, 2, 2, 3, 1, 2, 2, 3, 2, 3, 3, 4, 1, 2, 2, 3, 2, 3, 3, 4, 2, 3, 3, 4, 3, 4, 4, 5, 1, 2, 2, 3, 2, 3, 3, 4, 2, 3, 3, 4, 3, 4, 4, 5, 2, 3, 3, 4, 3, 4, 4, 5, 3, 4, 4, 5, 4, 5, 5, 6, 1, 2, 2, 3, 2, 3, 3, 4, 2, 3, 3, 4, 3, 4, 4, 5, 2, 3, 3, 4, 3, 4, 4, 5, 3, 4, 4, 5, 4, 5, 5, 6, 2, 3, 3, 4, 3, 4, 4, 5, 3, 4, 4, 5, 4, 5, 5, 6, 3, 4, 4, 5, 4, 5, 5, 6, 4, 5, 5, 6, 5, 6, 6, 7, 1, 2, 2, 3, 2, 3, 3, 4, 2, 3, 3, 4, 3, 4, 4, 5, 2, 3, 3, 4, 3, 4, 4, 5, 3, 4, 4, 5, 4, 5, 5, 6, 2, 3, 3, 4, 3, 4, 4, 5, 3, 4, 4, 5, 4, 5, 5, 6, 3, 4, 4, 5, 4, 5, 5, 6, 4, 5, 5, 6, 5, 6, 6, 7, 2, 3, 3, 4, 3, 4, 4, 5, 3, 4, 4, 5, 4, 5, 5, 6, 3, 4, 4, 5, 4, 5, 5, 6, 4, 5, 5, 6, 5, 6, 6, 7, 3, 4, 4, 5, 4, 5, 5, 6, 4, 5, 5, 6, 5, 6, 6, 7, 4, 5, 5, 6, 5, 6, 6, 7, 5, 6, 6, 7, 6, 7, 7, 8]) Try.underlying9 rfl rfl hx2) ?_
 refine sq (v := (.int .u32 x_0)) (rv_move rfl) ?_
 refine sq (v := (.int .u32 (gshr .u32 x_0 16))) (rvk_shr (k := .u32) (k' := .u64) (a := x_0) (b := 16) rfl rfl (by decide)) ?_
 refine sq (v := (.int .u32 (gandk .u32 (gshr .u32 x_0 16) 255))) (rvk_and (k := .u32) (a := (gshr .u32 x_0 16)) (b := 255) rfl rfl) ?_
 obtain ⟨x3, hx4, h'⟩ := bind_some h
 clear h
 have h := h'; clear h'
 refine sq (v := (.int .u8 x3)) (rv_sidx (bs := [0, 1, 1, 2, 1, 2, 2, 3, 1, 2, 2, 3, 2, 3, 3, 4, 1, 2, 2, 3, 2, 3, 3, 4, 2, 3, 3, 4, 3, 4, 4, 5, 1, 2, 2, 3, 2, 3, 3, 4, 2, 3, 3, 4, 3, 4, 4, 5, 2, 3, 3, 4, 3, 4, 4, 5, 3, 4, 4, 5, 4, 5, 5, 6, 1, 2, 2, 3, 2, 3, 3, 4, 2, 3, 3, 4, 3, 4, 4, 5, 2, 3, 3, 4, 3, 4, 4, 5, 3, 4, 4, 5, 4, 5, 5, 6, 2, 3, 3, 4, 3, 4, 4, 5, 3, 4, 4, 5, 4, 5, 5, 6, 3, 4, 4, 5, 4, 5, 5, 6, 4, 5, 5, 6, 5, 6, 6, 7, 1, 2, 2, 3, 2, 3, 3, 4, 2, 3, 3, 4, 3, 4, 4, 5, 2, 3, 3, 4, 3, 4, 4, 5, 3, 4, 4, 5, 4, 5, 5, 6, 2, 3, 3, 4, 3, 4, 4, 5, 3, 4, 4, 5, 4, 5, 5, 6, 3, 4, 4, 5, 4, 5, 5, 6, 4, 5, 5, 6, 5, 6, 6, 7, 2, 3, 3, 4, 3, 4, 4, 5, 3, 4, 4, 5, 4, 5, 5, 6, 3, 4, 4, 5, 4, 5, 5, 6, 4, 5, 5, 6, 5, 6, 6, 7, 3, 4, 4, 5, 4, 5, 5, 6, 4, 5, 5, 6, 5, 6, 6, 7, 4, 5, 5, 6, 5, 6, 6, 7, 5, 6, 6, 7, 6, 7, 7, 8]) Try.underlying9 rfl rfl hx4) ?_
 refine sq (v := (.int .u8 (wk .u8 (x1 + x3)))) (rvk_add (k := .u8) (a := x1) (b := x3) rfl rfl) ?_
 refine sq (v := (.int .u32 x_0)) (rv_move rfl) ?_
 refine sq (v := (.int .u32 (gshr .u32 x_0 8))) (rvk_shr (k := .u32) (k' := .u64) (a := x_0) (b := 8) rfl rfl (by decide)) ?_
 refine sq (v := (.int .u32 (gandk .u32 (gshr .u32 x_0 8) 255))) (rvk_and (k := .u32) (a := (gshr .u32 x_0 8)) (b := 255) rfl rfl) ?_
 obtain ⟨x5, hx6, h'⟩ := bind_some h
 clear h
 have h := h'; clear h'
 refine sq (v := (.int .u8 x5)) (rv_sidx (bs := [0, 1, 1, 2, 1, 2, 2, 3, 1, 2, 2, 3, 2, 3, 3, 4, 1, 2, 2, 3, 2, 3, 3, 4, 2, 3, 3, 4, 3, 4, 4, 5, 1, 2, 2, 3, 2, 3, 3, 4, 2, 3, 3, 4, 3, 4, 4, 5, 2, 3, 3, 4, 3, 4, 4, 5, 3, 4, 4, 5, 4, 5, 5, 6, 1, 2, 2, 3, 2, 3, 3, 4, 2, 3, 3, 4, 3, 4, 4, 5, 2, 3, 3, 4, 3, 4, 4, 5, 3, 4, 4, 5, 4, 5, 5, 6, 2, 3, 3, 4, 3, 4, 4, 5, 3, 4, 4, 5, 4, 5, 5, 6, 3, 4, 4, 5, 4, 5, 5, 6, 4, 5, 5, 6, 5, 6, 6, 7, 1, 2, 2, 3, 2, 3, 3, 4, 2, 3, 3, 4, 3, 4, 4, 5, 2, 3, 3, 4, 3, 4, 4, 5, 3, 4, 4, 5, 4, 5, 5, 6, 2, 3, 3, 4, 3, 4, 4, 5, 3, 4, 4, 5, 4, 5, 5, 6, 3, 4, 4, 5, 4, 5, 5, 6, 4, 5, 5, 6, 5, 6, 6, 7, 2, 3, 3, 4, 3, 4, 4, 5, 3, 4, 4, 5, 4, 5, 5, 6, 3, 4, 4, 5, 4, 5, 5, 6, 4, 5, 5, 6, 5, 6, 6, 7, 3, 4, 4, 5, 4, 5, 5, 6, 4, 5, 5, 6, 5, 6, 6, 7, 4, 5, 5, 6, 5, 6, 6, 7, 5, 6, 6, 7, 6, 7, 7, 8]) Try.underlying9 rfl rfl hx6) ?_
 refine sq (v := (.int .u8 (wk .u8 ((wk .u8 (x1 + x3)) + x5)))) (rvk_add (k := .u8) (a := (wk .u8 (x1 + x3))) (b := x5) rfl rfl) ?_
 refine sq (v := (.int .u32 x_0)) (rv_move rfl) ?_
 refine sq (v := (.int .u32 (gandk .u32 x_0 255))) (rvk_and (k := .u32) (a := x_0) (b := 255) rfl rfl) ?_
 obtain ⟨x7, hx8, h'⟩ := bind_some h
 clear h
 have h := h'; clear h'
 refine sq (v := (.int .u8 x7)) (rv_sidx (bs := [0, 1, 1, 2, 1, 2, 2, 3, 1, 2, 2, 3, 2, 3, 3, 4, 1, 2, 2, 3, 2, 3, 3, 4, 2, 3, 3, 4, 3, 4, 4, 5, 1, 2, 2, 3, 2, 3, 3, 4, 2, 3, 3, 4, 3, 4, 4, 5, 2, 3, 3, 4, 3, 4, 4, 5, 3, 4, 4, 5, 4, 5, 5, 6, 1, 2, 2, 3, 2, 3, 3, 4, 2, 3, 3, 4, 3, 4, 4, 5, 2, 3, 3, 4, 3, 4, 4, 5, 3, 4, 4, 5, 4, 5, 5, 6, 2, 3, 3, 4, 3, 4, 4, 5, 3, 4, 4, 5, 4, 5, 5, 6, 3, 4, 4, 5, 4, 5, 5, 6, 4, 5, 5, 6, 5, 6, 6, 7, 1, 2, 2, 3, 2, 3, 3, 4, 2, 3, 3, 4, 3, 4, 4, 5, 2, 3, 3, 4, 3, 4, 4, 5, 3, 4, 4, 5, 4, 5, 5, 6, 2, 3, 3, 4, 3, 4, 4, 5, 3, 4, 4, 5, 4, 5, 5, 6, 3, 4, 4, 5, 4, 5, 5, 6, 4, 5, 5, 6, 5, 6, 6, 7, 2, 3, 3, 4, 3, 4, 4, 5, 3, 4, 4, 5, 4, 5, 5, 6, 3, 4, 4, 5, 4, 5, 5, 6, 4, 5, 5, 6, 5, 6, 6, 7, 3, 4, 4, 5, 4, 5, 5, 6, 4, 5, 5, 6, 5, 6, 6, 7, 4, 5, 5, 6, 5, 6, 6, 7, 5, 6, 6, 7, 6, 7, 7, 8]) Try.underlying9 rfl rfl hx8) ?_
 refine sq_end ?_
 intro σ9 hm10
 replace H := H.grow (hm10.mono fun _ h => h); clear hm10
 refine st (v := (.int .u8 (wk .u8 ((wk .u8 ((wk .u8 (x1 + x3)) + x5)) + x7)))) (rvk_add (k := .u8) (a := (wk .u8 ((wk .u8 (x1 + x3)) + x5))) (b := x7) rfl rfl) ?_
 refine st (v := (I (wk .i64 (wk .u8 ((wk .u8 ((wk .u8 (x1 + x3)) + x5)) + x7))))) (rvk_conv (k := .u8) (k' := .i64) (a := (wk .u8 ((wk .u8 ((wk .u8 (x1 + x3)) + x5)) + x7))) Try.underlying5 Try.underlying3 rfl) ?_
 refine st (v := (I (wk .i64 (wk .u8 ((wk .u8 ((wk .u8 (x1 + x3)) + x5)) + x7))))) (rv_assign rfl) ?_
 refine w_end ?_
 refine q_then ?_
 refine c_ret ?_
 obtain rfl := Option.some.inj h
 exact fin_ret (v := (I (wk .i64 (wk .u8 ((wk .u8 ((wk .u8 (x1 + x3)) + x5)) + x7))))) (results_ok Try.results74 (res_tmp (v := (I (wk .i64 (wk .u8 ((wk .u8 ((wk .u8 (x1 + x3)) + x5)) + x7))))) rfl res_nil) rfl) ⟨rfl, rfl⟩ (H.sel' [] rfl rfl)

theorem c_math_bits_OnesCount64 {x_0 : Int}  {r : Int} (h : M.math_bits_OnesCount64 x_0 = some r) :
    Cal2 Try.prog 75 [(.int .u64 x_0)] [] (fun n0 v L => v = (I r) ∧ L = []) := by
 refine cal2 (n := 35) Try.func75 rfl rfl rfl rfl ?_
 intro S0 σ0 n0 hn0 H
 unfold M.math_bits_OnesCount64 at h
 refine c_seq ?_
 refine rg ?_
 refine st (v := (I 0)) (rv_assign rfl) ?_
 refine w_end ?_
 refine q_then ?_
 refine c_seq ?_
 refine rg ?_
 refine st (v := (.int .u64 x_0)) (rv_move rfl) ?_
 refine st (v := (.int .u64 (gshr .u64 x_0 1))) (rvk_shr (k := .u64) (k' := .u64) (a := x_0) (b := 1) rfl rfl (by decide)) ?_
 refine st (v := (.int .u64 (gandk .u64 (gshr .u64 x_0 1) 6148914691236517205))) (rvk_and (k := .u64) (a := (gshr .u64 x_0 1)) (b := 6148914691236517205) rfl rfl) ?_
 refine st (v := (.int .u64 x_0)) (rv_move rfl) ?_
 refine st (v := (.int .u64 (gandk .u64 x_0 6148914691236517205))) (rvk_and (k := .u64) (a := x_0) (b := 6148914691236517205) rfl rfl) ?_
 refine st (v := (.int .u64 (wk .u64 ((gandk .u64 (gshr .u64 x_0 1) 6148914691236517205) + (gandk .u64 x_0 6148914691236517205))))) (rvk_add (k := .u64) (a := (gandk .u64 (gshr .u64 x_0 1) 6148914691236517205)) (b := (gandk .u64 x_0 6148914691236517205)) rfl rfl) ?_
 refine st (v := (.int .u64 (wk .u64 ((gandk .u64 (gshr .u64 x_0 1) 6148914691236517205) + (gandk .u64 x_0 6148914691236517205))))) (rv_assign rfl) ?_
 refine w_end ?_
 refine q_then ?_
 refine c_seq ?_
 refine rg ?_
 refine st (v := (.int .u64 (wk .u64 ((gandk .u64 (gshr .u64 x_0 1) 6148914691236517205) + (gandk .u64 x_0 6148914691236517205))))) (rv_move rfl) ?_
 refine st (v := (.int .u64 (gshr .u64 (wk .u64 ((gandk .u64 (gshr .u64 x_0 1) 6148914691236517205) + (gandk .u64 x_0 6148914691236517205))) 2))) (rvk_shr (k := .u64) (k' := .u64) (a := (wk .u64 ((gandk .u64 (gshr .u64 x_0 1) 6148914691236517205) + (gandk .u64 x_0 6148914691236517205)))) (b := 2) rfl rfl (by decide)) ?_
 refine st (v := (.int .u64 (gandk .u64 (gshr .u64 (wk .u64 ((gandk .u64 (gshr .u64 x_0 1) 6148914691236517205) + (gandk .u64 x_0 6148914691236517205))) 2) 3689348814741910323))) (rvk_and (k := .u64) (a := (gshr .u64 (wk .u64 ((gandk .u64 (gshr .u64 x_0 1) 6148914691236517205) + (gandk .u64 x_0 6148914691236517205))) 2)) (b := 3689348814741910323) rfl rfl) ?_
 refine st (v := (.int .u64 (wk .u64 ((gandk .u64 (gshr .u64 x_0 1) 6148914691236517205) + (gandk .u64 x_0 6148914691236517205))))) (rv_move rfl) ?_
 refine st (v := (.int .u64 (gandk .u64 (wk .u64 ((gandk .u64 (gshr .u64 x_0 1) 6148914691236517205) + (gandk .u64 x_0 6148914691236517205))) 3689348814741910323))) (rvk_and (k := .u64) (a := (wk .u64 ((gandk .u64 (gshr .u64 x_0 1) 6148914691236517205) + (gandk .u64 x_0 6148914691236517205)))) (b := 3689348814741910323) rfl rfl) ?_
 refine st (v := (.int .u64 (wk .u64 ((gandk .u64 (gshr .u64 (wk .u64 ((gandk .u64 (gshr .u64 x_0 1) 6148914691236517205) + (gandk .u64 x_0 6148914691236517205))) 2) 3689348814741910323) + (gandk .u64 (wk .u64 ((gandk .u64 (gshr .u64 x_0 1) 6148914691236517205) + (gandk .u64 x_0 6148914691236517205))) 3689348814741910323))))) (rvk_add (k := .u64) (a := (gandk .u64 (gshr .u64 (wk .u64 ((gandk .u64 (gshr .u64 x_0 1) 6148914691236517205) + (gandk .u64 x_0 6148914691236517205))) 2) 3689348814741910323)) (b := (gandk .u64 (wk .u64 ((gandk .u64 (gshr .u64 x_0 1) 6148914691236517205) + (gandk .u64 x_0 6148914691236517205))) 3689348814741910323)) rfl rfl) ?_
 refine st (v := (.int .u64 (wk .u64 ((gandk .u64 (gshr .u64 (wk .u64 ((gandk .u64 (gshr .u64 x_0 1) 6148914691236517205) + (gandk .u64 x_0 6148914691236517205))) 2) 3689348814741910323) + (gandk .u64 (wk .u64 ((gandk .u64 (gshr .u64 x_0 1) 6148914691236517205) + (gandk .u64 x_0 6148914691236517205))) 3689348814741910323))))) (rv_assign rfl) ?_
 refine w_end ?_
 refine q_then ?_
 refine c_seq ?_
 refine rg ?_
 refine st (v := (.int .u64 (wk .u64 ((gandk .u64 (gshr .u64 (wk .u64 ((gandk .u64 (gshr .u64 x_0 1) 6148914691236517205) + (gandk .u64 x_0 6148914691236517205))) 2) 3689348814741910323) + (gandk .u64 (wk .u64 ((gandk .u64 (gshr .u64 x_0 1) 6148914691236517205) + (gandk .u64 x_0 6148914691236517205))) 3689348814741910323))))) (rv_move rfl) ?_
 refine st (v := (.int .u64 (gshr .u64 (wk .u64 ((gandk .u64 (gshr .u64 (wk .u64 ((gandk .u64 (gshr .u64 x_0 1) 6148914691236517205) + (gandk .u64 x_0 6148914691236517205))) 2) 3689348814741910323) + (gandk .u64 (wk .u64 ((gandk .u64 (gshr .u64 x_0 1) 6148914691236517205) + (gandk .u64 x_0 6148914691236517205))) 3689348814741910323))) 4))) (rvk_shr (k := .u64) (k' := .u64) (a := (wk .u64 ((gandk .u64 (gshr .u64 (wk .u64 ((gandk .u64 (gshr .u64 x_0 1) 6148914691236517205) + (gandk .u64 x_0 6148914691236517205))) 2) 3689348814741910323) + (gandk .u64 (wk .u64 ((gandk .u64 (gshr .u64 x_0 1) 6148914691236517205) + (gandk .u64 x_0 6148914691236517205))) 3689348814741910323)))) (b := 4) rfl rfl (by decide)) ?_
 refine st (v := (.int .u64 (wk .u64 ((gandk .u64 (gshr .u64 (wk .u64 ((gandk .u64 (gshr .u64 x_0 1) 6148914691236517205) + (gandk .u64 x_0 6148914691236517205))) 2) 3689348814741910323) + (gandk .u64 (wk .u64 ((gandk .u64 (gshr .u64 x_0 1) 6148914691236517205) + (gandk .u64 x_0 6148914691236517205))) 3689348814741910323))))) (rv_move rfl) ?_
 refine st (v := (.int .u64 (wk .u64 ((gshr .u64 (wk .u64 ((gandk .u64 (gshr .u64 (wk .u64 ((gandk .u64 (gshr .u64 x_0 1) 6148914691236517205) + (gandk .u64 x_0 6148914691236517205))) 2) 3689348814741910323) + (gandk .u64 (wk .u64 ((gandk .u64 (gshr .u64 x_0 1) 6148914691236517205) + (gandk .u64 x_0 6148914691236517205))) 3689348814741910323))) 4) + (wk .u64 ((gandk .u64 (gshr .u64 (wk .u64 ((gandk .u64 (gshr .u64 x_0 1) 6148914691236517205) + (gandk .u64 x_0 6148914691236517205))) 2) 3689348814741910323) + (gandk .u64 (wk .u64 ((gandk .u64 (gshr .u64 x_0 1) 6148914691236517205) + (gandk .u64 x_0 6148914691236517205))) 3689348814741910323))))))) (rvk_add (k := .u64) (a := (gshr .u64 (wk .u64 ((gandk .u64 (gshr .u64 (wk .u64 ((gandk .u64 (gshr .u64 x_0 1) 6148914691236517205) + (gandk .u64 x_0 6148914691236517205))) 2) 3689348814741910323) + (gandk .u64 (wk .u64 ((gandk .u64 (gshr .u64 x_0 1) 6148914691236517205) + (gandk .u64 x_0 6148914691236517205))) 3689348814741910323))) 4)) (b := (wk .u64 ((gandk .u64 (gshr .u64 (wk .u64 ((gandk .u64 (gshr .u64 x_0 1) 6148914691236517205) + (gandk .u64 x_0 6148914691236517205))) 2) 3689348814741910323) + (gandk .u64 (wk .u64 ((gandk .u64 (gshr .u64 x_0 1) 6148914691236517205) + (gandk .u64 x_0 6148914691236517205))) 3689348814741910323)))) rfl rfl) ?_
 refine st (v := (.int .u64 (gandk .u64 (wk .u64 ((gshr .u64 (wk .u64 ((gandk .u64 (gshr .u64 (wk .u64 ((gandk .u64 (gshr .u64 x_0 1) 6148914691236517205) + (gandk .u64 x_0 6148914691236517205))) 2) 3689348814741910323) + (gandk .u64 (wk .u64 ((gandk .u64 (gshr .u64 x_0 1) 6148914691236517205) + (gandk .u64 x_0 6148914691236517205))) 3689348814741910323))) 4) + (wk .u64 ((gandk .u64 (gshr .u64 (wk .u64 ((gandk .u64 (gshr .u64 x_0 1) 6148914691236517205) + (gandk .u64 x_0 6148914691236517205))) 2) 3689348814741910323) + (gandk .u64 (wk .u64 ((gandk .u64 (gshr .u64 x_0 1) 6148914691236517205) + (gandk .u64 x_0 6148914691236517205))) 3689348814741910323))))) 1085102592571150095))) (rvk_and (k := .u64) (a := (wk .u64 ((gshr .u64 (wk .u64 ((gandk .u64 (gshr .u64 (wk .u64 ((gandk .u64 (gshr .u64 x_0 1) 6148914691236517205) + (gandk .u64 x_0 6148914691236517205))) 2) 3689348814741910323) + (gandk .u64 (wk .u64 ((gandk .u64 (gshr .u64 x_0 1) 6148914691236517205) + (gandk .u64 x_0 6148914691236517205))) 3689348814741910323))) 4) + (wk .u64 ((gandk .u64 (gshr .u64 (wk .u64 ((gandk .u64 (gshr .u64 x_0 1) 6148914691236517205) + (gandk .u64 x_0 6148914691236517205))) 2) 3689348814741910323) + (gandk .u64 (wk .u64 ((gandk .u64 (gshr .u64 x_0 1) 6148914691236517205) + (gandk .u64 x_0 6148914691236517205))) 3689348814741910323)))))) (b := 1085102592571150095) rfl rfl) ?_
 refine st (v := (.int .u64 (gandk .u64 (wk .u64 ((gshr .u64 (wk .u64 ((gandk .u64 (gshr .u64 (wk .u64 ((gandk .u64 (gshr .u64 x_0 1) 6148914691236517205) + (gandk .u64 x_0 6148914691236517205))) 2) 3689348814741910323) + (gandk .u64 (wk .u64 ((gandk .u64 (gshr .u64 x_0 1) 6148914691236517205) + (gandk .u64 x_0 6148914691236517205))) 3689348814741910323))) 4) + (wk .u64 ((gandk .u64 (gshr .u64 (wk .u64 ((gandk .u64 (gshr .u64 x_0 1) 6148914691236517205) + (gandk .u64 x_0 6148914691236517205))) 2) 3689348814741910323) + (gandk .u64 (wk .u64 ((gandk .u64 (gshr .u64 x_0 1) 6148914691236517205) + (gandk .u64 x_0 6148914691236517205))) 3689348814741910323))))) 1085102592571150095))) (rv_assign rfl) ?_
 refine w_end ?_
 refine q_then ?_
 refine c_seq ?_
 refine rg ?_
 refine st (v := (.int .u64 (gandk .u64 (wk .u64 ((gshr .u64 (wk .u64 ((gandk .u64 (gshr .u64 (wk .u64 ((gandk .u64 (gshr .u64 x_0 1) 6148914691236517205) + (gandk .u64 x_0 6148914691236517205))) 2) 3689348814741910323) + (gandk .u64 (wk .u64 ((gandk .u64 (gshr .u64 x_0 1) 6148914691236517205) + (gandk .u64 x_0 6148914691236517205))) 3689348814741910323))) 4) + (wk .u64 ((gandk .u64 (gshr .u64 (wk .u64 ((gandk .u64 (gshr .u64 x_0 1) 6148914691236517205) + (gandk .u64 x_0 6148914691236517205))) 2) 3689348814741910323) + (gandk .u64 (wk .u64 ((gandk .u64 (gshr .u64 x_0 1) 6148914691236517205) + (gandk .u64 x_0 6148914691236517205))) 3689348814741910323))))) 1085102592571150095))) (rv_move rfl) ?_
 refine st (v := (.int .u64 (gandk .u64 (wk .u64 ((gshr .u64 (wk .u64 ((gandk .u64 (gshr .u64 (wk .u64 ((gandk .u64 (gshr .u64 x_0 1) 6148914691236517205) + (gandk .u64 x_0 6148914691236517205))) 2) 3689348814741910323) + (gandk .u64 (wk .u64 ((gandk .u64 (gshr .u64 x_0 1) 6148914691236517205) + (gandk .u64 x_0 6148914691236517205))) 3689348814741910323))) 4) + (wk .u64 ((gandk .u64 (gshr .u64 (wk .u64 ((gandk .u64 (gshr .u64 x_0 1) 6148914691236517205) + (gandk .u64 x_0 6148914691236517205))) 2) 3689348814741910323) + (gandk .u64 (wk .u64 ((gandk .u64 (gshr .u64 x_0 1) 6148914691236517205) + (gandk .u64 x_0 6148914691236517205))) 3689348814741910323))))) 1085102592571150095))) (rv_move rfl) ?_
 refine st (v := (.int .u64 (gshr .u64 (gandk .u64 (wk .u64 ((gshr .u64 (wk .u64 ((gandk .u64 (gshr .u64 (wk .u64 ((gandk .u64 (gshr .u64 x_0 1) 6148914691236517205) + (gandk .u64 x_0 6148914691236517205))) 2) 3689348814741910323) + (gandk .u64 (wk .u64 ((gandk .u64 (gshr .u64 x_0 1) 6148914691236517205) + (gandk .u64 x_0 6148914691236517205))) 3689348814741910323))) 4) + (wk .u64 ((gandk .u64 (gshr .u64 (wk .u64 ((gandk .u64 (gshr .u64 x_0 1) 6148914691236517205) + (gandk .u64 x_0 6148914691236517205))) 2) 3689348814741910323) + (gandk .u64 (wk .u64 ((gandk .u64 (gshr .u64 x_0 1) 6148914691236517205) + (gandk .u64 x_0 6148914691236517205))) 3689348814741910323))))) 1085102592571150095) 8))) (rvk_shr (k := .u64) (k' := .u64) (a := (gandk .u64 (wk .u64 ((gshr .u64 (wk .u64 ((gandk .u64 (gshr .u64 (wk .u64 ((gandk .u64 (gshr .u64 x_0 1) 6148914691236517205) + (gandk .u64 x_0 6148914691236517205))) 2) 3689348814741910323) + (gandk .u64 (wk .u64 ((gandk .u64 (gshr .u64 x_0 1) 6148914691236517205) + (gandk .u64 x_0 6148914691236517205))) 3689348814741910323))) 4) + (wk .u64 ((gandk .u64 (gshr .u64 (wk .u64 ((gandk .u64 (gshr .u64 x_0 1) 6148914691236517205) + (gandk .u64 x_0 6148914691236517205))) 2) 3689348814741910323) + (gandk .u64 (wk .u64 ((gandk .u64 (gshr .u64 x_0 1) 6148914691236517205) + (gandk .u64 x_0 6148914691236517205))) 3689348814741910323))))) 1085102592571150095)) (b := 8) rfl rfl (by decide)) ?_
 refine st (v := (.int .u64 (wk .u64 ((gandk .u64 (wk .u64 ((gshr .u64 (wk .u64 ((gandk .u64 (gshr .u64 (wk .u64 ((gandk .u64 (gshr .u64 x_0 1) 6148914691236517205) + (gandk .u64 x_0 6148914691236517205))) 2) 3689348814741910323) + (gandk .u64 (wk .u64 ((gandk .u64 (gshr .u64 x_0 1) 6148914691236517205) + (gandk .u64 x_0 6148914691236517205))) 3689348814741910323))) 4) + (wk .u64 ((gandk .u64 (gshr .u64 (wk .u64 ((gandk .u64 (gshr .u64 x_0 1) 6148914691236517205) + (gandk .u64 x_0 6148914691236517205))) 2) 3689348814741910323) + (gandk .u64 (wk .u64 ((gandk .u64 (gshr .u64 x_0 1) 6148914691236517205) + (gandk .u64 x_0 6148914691236517205))) 3689348814741910323))))) 1085102592571150095) + (gshr .u64 (gandk .u64 (wk .u64 ((gshr .u64 (wk .u64 ((gandk .u64 (gshr .u64 (wk .u64 ((gandk .u64 (gshr .u64 x_0 1) 6148914691236517205) + (gandk .u64 x_0 6148914691236517205))) 2) 3689348814741910323) + (gandk .u64 (wk .u64 ((gandk .u64 (gshr .u64 x_0 1) 6148914691236517205) + (gandk .u64 x_0 6148914691236517205))) 3689348814741910323))) 4) + (wk .u64 ((gandk .u64 (gshr .u64 (wk .u64 ((gandk .u64 (gshr .u64 x_0 1) 6148914691236517205) + (gandk .u64 x_0 6148914691236517205))) 2) 3689348814741910323) + (gandk .u64 (wk .u64 ((gandk .u64 (gshr .u64 x_0 1) 6148914691236517205) + (gandk .u64 x_0 6148914691236517205))) 3689348814741910323))))) 1085102592571150095) 8))))) (rvk_add (k := .u64) (a := (gandk .u64 (wk .u64 ((gshr .u64 (wk .u64 ((gandk .u64 (gshr .u64 (wk .u64 ((gandk .u64 (gshr .u64 x_0 1) 6148914691236517205) + (gandk .u64 x_0 6148914691236517205))) 2) 3689348814741910323) + (gandk .u64 (wk .u64 ((gandk .u64 (gshr .u64 x_0 1) 6148914691236517205) + (gandk .u64 x_0 6148914691236517205))) 3689348814741910323))) 4) + (wk .u64 ((gandk .u64 (gshr .u64 (wk .u64 ((gandk .u64 (gshr .u64 x_0 1) 6148914691236517205) + (gandk .u64 x_0 6148914691236517205))) 2) 3689348814741910323) + (gandk .u64 (wk .u64 ((gandk .u64 (gshr .u64 x_0 1) 6148914691236517205) + (gandk .u64 x_0 6148914691236517205))) 3689348814741910323))))) 1085102592571150095)) (b := (gshr .u64 (gandk .u64 (wk .u64 ((gshr .u64 (wk .u64 ((gandk .u64 (gshr .u64 (wk .u64 ((gandk .u64 (gshr .u64 x_0 1) 6148914691236517205) + (gandk .u64 x_0 6148914691236517205))) 2) 3689348814741910323) + (gandk .u64 (wk .u64 ((gandk .u64 (gshr .u64 x_0 1) 6148914691236517205) + (gandk .u64 x_0 6148914691236517205))) 3689348814741910323))) 4) + (wk .u64 ((gandk .u64 (gshr .u64 (wk .u64 ((gandk .u64 (gshr .u64 x_0 1) 6148914691236517205) + (gandk .u64 x_0 6148914691236517205))) 2) 3689348814741910323) + (gandk .u64 (wk .u64 ((gandk .u64 (gshr .u64 x_0 1) 6148914691236517205) + (gandk .u64 x_0 6148914691236517205))) 3689348814741910323))))) 1085102592571150095) 8)) rfl rfl) ?_
 refine st (v := (.int .u64 (wk .u64 ((gandk .u64 (wk .u64 ((gshr .u64 (wk .u64 ((gandk .u64 (gshr .u64 (wk .u64 ((gandk .u64 (gshr .u64 x_0 1) 6148914691236517205) + (gandk .u64 x_0 6148914691236517205))) 2) 3689348814741910323) + (gandk .u64 (wk .u64 ((gandk .u64 (gshr .u64 x_0 1) 6148914691236517205) + (gandk .u64 x_0 6148914691236517205))) 3689348814741910323))) 4) + (wk .u64 ((gandk .u64 (gshr .u64 (wk .u64 ((gandk .u64 (gshr .u64 x_0 1) 6148914691236517205) + (gandk .u64 x_0 6148914691236517205))) 2) 3689348814741910323) + (gandk .u64 (wk .u64 ((gandk .u64 (gshr .u64 x_0 1) 6148914691236517205) + (gandk .u64 x_0 6148914691236517205))) 3689348814741910323))))) 1085102592571150095) + (gshr .u64 (gandk .u64 (wk .u64 ((gshr .u64 (wk .u64 ((gandk .u64 (gshr .u64 (wk .u64 ((gandk .u64 (gshr .u64 x_0 1) 6148914691236517205) + (gandk .u64 x_0 6148914691236517205))) 2) 3689348814741910323) + (gandk .u64 (wk .u64 ((gandk .u64 (gshr .u64 x_0 1) 6148914691236517205) + (gandk .u64 x_0 6148914691236517205))) 3689348814741910323))) 4) + (wk .u64 ((gandk .u64 (gshr .u64 (wk .u64 ((gandk .u64 (gshr .u64 x_0 1) 6148914691236517205) + (gandk .u64 x_0 6148914691236517205))) 2) 3689348814741910323) + (gandk .u64 (wk .u64 ((gandk .u64 (gshr .u64 x_0 1) 6148914691236517205) + (gandk .u64 x_0 6148914691236517205))) 3689348814741910323))))) 1085102592571150095) 8))))) (rv_assign rfl) ?_
 refine w_end ?_
 refine q_then ?_
 refine c_seq ?_
 refine rg ?_
 refine st (v := (.int .u64 (wk .u64 ((gandk .u64 (wk .u64 ((gshr .u64 (wk .u64 ((gandk .u64 (gshr .u64 (wk .u64 ((gandk .u64 (gshr .u64 x_0 1) 6148914691236517205) + (gandk .u64 x_0 6148914691236517205))) 2) 3689348814741910323) + (gandk .u64 (wk .u64 ((gandk .u64 (gshr .u64 x_0 1) 6148914691236517205) + (gandk .u64 x_0 6148914691236517205))) 3689348814741910323))) 4) + (wk .u64 ((gandk .u64 (gshr .u64 (wk .u64 ((gandk .u64 (gshr .u64 x_0 1) 6148914691236517205) + (gandk .u64 x_0 6148914691236517205))) 2) 3689348814741910323) + (gandk .u64 (wk .u64 ((gandk .u64 (gshr .u64 x_0 1) 6148914691236517205) + (gandk .u64 x_0 6148914691236517205))) 3689348814741910323))))) 1085102592571150095) + (gshr .u64 (gandk .u64 (wk .u64 ((gshr .u64 (wk .u64 ((gandk .u64 (gshr .u64 (wk .u64 ((gandk .u64 (gshr .u64 x_0 1) 6148914691236517205) + (gandk .u64 x_0 6148914691236517205))) 2) 3689348814741910323) + (gandk .u64 (wk .u64 ((gandk .u64 (gshr .u64 x_0 1) 6148914691236517205) + (gandk .u64 x_0 6148914691236517205))) 3689348814741910323))) 4) + (wk .u64 ((gandk .u64 (gshr .u64 (wk .u64 ((gandk .u64 (gshr .u64 x_0 1) 6148914691236517205) + (gandk .u64 x_0 6148914691236517205))) 2) 3689348814741910323) + (gandk .u64 (wk .u64 ((gandk .u64 (gshr .u64 x_0 1) 6148914691236517205) + (gandk .u64 x_0 6148914691236517205))) 3689348814741910323))))) 1085102592571150095) 8))))) (rv_move rfl) ?_
 refine st (v := (.int .u64 (wk .u64 ((gandk .u64 (wk .u64 ((gshr .u64 (wk .u64 ((gandk .u64 (gshr .u64 (wk .u64 ((gandk .u64 (gshr .u64 x_0 1) 6148914691236517205) + (gandk .u64 x_0 6148914691236517205))) 2) 3689348814741910323) + (gandk .u64 (wk .u64 ((gandk .u64 (gshr .u64 x_0 1) 6148914691236517205) + (gandk .u64 x_0 6148914691236517205))) 3689348814741910323))) 4) + (wk .u64 ((gandk .u64 (gshr .u64 (wk .u64 ((gandk .u64 (gshr .u64 x_0 1) 6148914691236517205) + (gandk .u64 x_0 6148914691236517205))) 2) 3689348814741910323) + (gandk .u64 (wk .u64 ((gandk .u64 (gshr .u64 x_0 1) 6148914691236517205) + (gandk .u64 x_0 6148914691236517205))) 3689348814741910323))))) 1085102592571150095) + (gshr .u64 (gandk .u64 (wk .u64 ((gshr .u64 (wk .u64 ((gandk .u64 (gshr .u64 (wk .u64 ((gandk .u64 (gshr .u64 x_0 1) 6148914691236517205) + (gandk .u64 x_0 6148914691236517205))) 2) 3689348814741910323) + (gandk .u64 (wk .u64 ((gandk .u64 (gshr .u64 x_0 1) 6148914691236517205) + (gandk .u64 x_0 6148914691236517205))) 3689348814741910323))) 4) + (wk .u64 ((gandk .u64 (gshr .u64 (wk .u64 ((gandk .u64 (gshr .u64 x_0 1) 6148914691236517205) + (gandk .u64 x_0 6148914691236517205))) 2) 3689348814741910323) + (gandk .u64 (wk .u64 ((gandk .u64 (gshr .u64 x_0 1) 6148914691236517205) + (gandk .u64 x_0 6148914691236517205))) 3689348814741910323))))) 1085102592571150095) 8))))) (rv_move rfl) ?_
 refine st (v := (.int .u64 (gshr .u64 (wk .u64 ((gandk .u64 (wk .u64 ((gshr .u64 (wk .u64 ((gandk .u64 (gshr .u64 (wk .u64 ((gandk .u64 (gshr .u64 x_0 1) 6148914691236517205) + (gandk .u64 x_0 6148914691236517205))) 2) 3689348814741910323) + (gandk .u64 (wk .u64 ((gandk .u64 (gshr .u64 x_0 1) 6148914691236517205) + (gandk .u64 x_0 6148914691236517205))) 3689348814741910323))) 4) + (wk .u64 ((gandk .u64 (gshr .u64 (wk .u64 ((gandk .u64 (gshr .u64 x_0 1) 6148914691236517205) + (gandk .u64 x_0 6148914691236517205))) 2) 3689348814741910323) + (gandk .u64 (wk .u64 ((gandk .u64 (gshr .u64 x_0 1) 6148914691236517205) + (gandk .u64 x_0 6148914691236517205))) 3689348814741910323))))) 1085102592571150095) + (gshr .u64 (gandk .u64 (wk .u64 ((gshr .u64 (wk .u64 ((gandk .u64 (gshr .u64 (wk .u64 ((gandk .u64 (gshr .u64 x_0 1) 6148914691236517205) + (gandk .u64 x_0 6148914691236517205))) 2) 3689348814741910323) + (gandk .u64 (wk .u64 ((gandk .u64 (gshr .u64 x_0 1) 6148914691236517205) + (gandk .u64 x_0 6148914691236517205))) 3689348814741910323))) 4) + (wk .u64 ((gandk .u64 (gshr .u64 (wk .u64 ((gandk .u64 (gshr .u64 x_0 1) 6148914691236517205) + (gandk .u64 x_0 6148914691236517205))) 2) 3689348814741910323) + (gandk .u64 (wk .u64 ((gandk .u64 (gshr .u64 x_0 1) 6148914691236517205) + (gandk .u64 x_0 6148914691236517205))) 3689348814741910323))))) 1085102592571150095) 8))) 16))) (rvk_shr (k := .u64) (k' := .u64) (a := (wk .u64 ((gandk .u64 (wk .u64 ((gshr .u64 (wk .u64 ((gandk .u64 (gshr .u64 (wk .u64 ((gandk .u64 (gshr .u64 x_0 1) 6148914691236517205) + (gandk .u64 x_0 6148914691236517205))) 2) 3689348814741910323) + (gandk .u64 (wk .u64 ((gandk .u64 (gshr .u64 x_0 1) 6148914691236517205) + (gandk .u64 x_0 6148914691236517205))) 3689348814741910323))) 4) + (wk .u64 ((gandk .u64 (gshr .u64 (wk .u64 ((gandk .u64 (gshr .u64 x_0 1) 6148914691236517205) + (gandk .u64 x_0 6148914691236517205))) 2) 3689348814741910323) + (gandk .u64 (wk .u64 ((gandk .u64 (gshr .u64 x_0 1) 6148914691236517205) + (gandk .u64 x_0 6148914691236517205))) 3689348814741910323))))) 1085102592571150095) + (gshr .u64 (gandk .u64 (wk .u64 ((gshr .u64 (wk .u64 ((gandk .u64 (gshr .u64 (wk .u64 ((gandk .u64 (gshr .u64 x_0 1) 6148914691236517205) + (gandk .u64 x_0 6148914691236517205))) 2) 3689348814741910323) + (gandk .u64 (wk .u64 ((gandk .u64 (gshr .u64 x_0 1) 6148914691236517205) + (gandk .u64 x_0 6148914691236517205))) 3689348814741910323))) 4) + (wk .u64 ((gandk .u64 (gshr .u64 (wk .u64 ((gandk .u64 (gshr .u64 x_0 1) 6148914691236517205) + (gandk .u64 x_0 6148914691236517205))) 2) 3689348814741910323) + (gandk .u64 (wk .u64 ((gandk .u64 (gshr .u64 x_0 1) 6148914691236517205) + (gandk .u64 x_0 6148914691236517205))) 3689348814741910323))))) 1085102592571150095) 8)))) (b := 16) rfl rfl (by decide)) ?_
 refine st (v := (.int .u64 (wk .u64 ((wk .u64 ((gandk .u64 (wk .u64 ((gshr .u64 (wk .u64 ((gandk .u64 (gshr .u64 (wk .u64 ((gandk .u64 (gshr .u64 x_0 1) 6148914691236517205) + (gandk .u64 x_0 6148914691236517205))) 2) 3689348814741910323) + (gandk .u64 (wk .u64 ((gandk .u64 (gshr .u64 x_0 1) 6148914691236517205) + (gandk .u64 x_0 6148914691236517205))) 3689348814741910323))) 4) + (wk .u64 ((gandk .u64 (gshr .u64 (wk .u64 ((gandk .u64 (gshr .u64 x_0 1) 6148914691236517205) + (gandk .u64 x_0 6148914691236517205))) 2) 3689348814741910323) + (gandk .u64 (wk .u64 ((gandk .u64 (gshr .u64 x_0 1) 6148914691236517205) + (gandk .u64 x_0 6148914691236517205))) 3689348814741910323))))) 1085102592571150095) + (gshr .u64 (gandk .u64 (wk .u64 ((gshr .u64 (wk .u64 ((gandk .u64 (gshr .u64 (wk .u64 ((gandk .u64 (gshr .u64 x_0 1) 6148914691236517205) + (gandk .u64 x_0 6148914691236517205))) 2) 3689348814741910323) + (gandk .u64 (wk .u64 ((gandk .u64 (gshr .u64 x_0 1) 6148914691236517205) + (gandk .u64 x_0 6148914691236517205))) 3689348814741910323))) 4) + (wk .u64 ((gandk .u64 (gshr .u64 (wk .u64 ((gandk .u64 (gshr .u64 x_0 1) 6148914691236517205) + (gandk .u64 x_0 6148914691236517205))) 2) 3689348814741910323) + (gandk .u64 (wk .u64 ((gandk .u64 (gshr .u64 x_0 1) 6148914691236517205) + (gandk .u64 x_0 6148914691236517205))) 3689348814741910323))))) 1085102592571150095) 8))) + (gshr .u64 (wk .u64 ((gandk .u64 (wk .u64 ((gshr .u64 (wk .u64 ((gandk .u64 (gshr .u64 (wk .u64 ((gandk .u64 (gshr .u64 x_0 1) 6148914691236517205) + (gandk .u64 x_0 6148914691236517205))) 2) 3689348814741910323) + (gandk .u64 (wk .u64 ((gandk .u64 (gshr .u64 x_0 1) 6148914691236517205) + (gandk .u64 x_0 6148914691236517205))) 3689348814741910323))) 4) + (wk .u64 ((gandk .u64 (gshr .u64 (wk .u64 ((gandk .u64 (gshr .u64 x_0 1) 6148914691236517205) + (gandk .u64 x_0 6148914691236517205))) 2) 3689348814741910323) + (gandk .u64 (wk .u64 ((gandk .u64 (gshr .u64 x_0 1) 6148914691236517205) + (gandk .u64 x_0 6148914691236517205))) 3689348814741910323))))) 1085102592571150095) + (gshr .u64 (gandk .u64 (wk .u64 ((gshr .u64 (wk .u64 ((gandk .u64 (gshr .u64 (wk .u64 ((gandk .u64 (gshr .u64 x_0 1) 6148914691236517205) + (gandk .u64 x_0 6148914691236517205))) 2) 3689348814741910323) + (gandk .u64 (wk .u64 ((gandk .u64 (gshr .u64 x_0 1) 6148914691236517205) + (gandk .u64 x_0 6148914691236517205))) 3689348814741910323))) 4) + (wk .u64 ((gandk .u64 (gshr .u64 (wk .u64 ((gandk .u64 (gshr .u64 x_0 1) 6148914691236517205) + (gandk .u64 x_0 6148914691236517205))) 2) 3689348814741910323) + (gandk .u64 (wk .u64 ((gandk .u64 (gshr .u64 x_0 1) 6148914691236517205) + (gandk .u64 x_0 6148914691236517205))) 3689348814741910323))))) 1085102592571150095) 8))) 16))))) (rvk_add (k := .u64) (a := (wk .u64 ((gandk .u64 (wk .u64 ((gshr .u64 (wk .u64 ((gandk .u64 (gshr .u64 (wk .u64 ((gandk .u64 (gshr .u64 x_0 1) 6148914691236517205) + (gandk .u64 x_0 6148914691236517205))) 2) 3689348814741910323) + (gandk .u64 (wk .u64 ((gandk .u64 (gshr .u64 x_0 1) 6148914691236517205) + (gandk .u64 x_0 6148914691236517205))) 3689348814741910323))) 4) + (wk .u64 ((gandk .u64 (gshr .u64 (wk .u64 ((gandk .u64 (gshr .u64 x_0 1) 6148914691236517205) + (gandk .u64 x_0 6148914691236517205))) 2) 3689348814741910323) + (gandk .u64 (wk .u64 ((gandk .u64 (gshr .u64 x_0 1) 6148914691236517205) + (gandk .u64 x_0 6148914691236517205))) 3689348814741910323))))) 1085102592571150095) + (gshr .u64 (gandk .u64 (wk .u64 ((gshr .u64 (wk .u64 ((gandk .u64 (gshr .u64 (wk .u64 ((gandk .u64 (gshr .u64 x_0 1) 6148914691236517205) + (gandk .u64 x_0 6148914691236517205))) 2) 3689348814741910323) + (gandk .u64 (wk .u64 ((gandk .u64 (gshr .u64 x_0 1) 6148914691236517205) + (gandk .u64 x_0 6148914691236517205))) 3689348814741910323))) 4) + (wk .u64 ((gandk .u64 (gshr .u64 (wk .u64 ((gandk .u64 (gshr .u64 x_0 1) 6148914691236517205) + (gandk .u64 x_0 6148914691236517205))) 2) 3689348814741910323) + (gandk .u64 (wk .u64 ((gandk .u64 (gshr .u64 x_0 1) 6148914691236517205) + (gandk .u64 x_0 6148914691236517205))) 3689348814741910323))))) 1085102592571150095) 8)))) (b := (gshr .u64 (wk .u64 ((gandk .u64 (wk .u64 ((gshr .u64 (wk .u64 ((gandk .u64 (gshr .u64 (wk .u64 ((gandk .u64 (gshr .u64 x_0 1) 6148914691236517205) + (gandk .u64 x_0 6148914691236517205))) 2) 3689348814741910323) + (gandk .u64 (wk .u64 ((gandk .u64 (gshr .u64 x_0 1) 6148914691236517205) + (gandk .u64 x_0 6148914691236517205))) 3689348814741910323))) 4) + (wk .u64 ((gandk .u64 (gshr .u64 (wk .u64 ((gandk .u64 (gshr .u64 x_0 1) 6148914691236517205) + (gandk .u64 x_0 6148914691236517205))) 2) 3689348814741910323) + (gandk .u64 (wk .u64 ((gandk .u64 (gshr .u64 x_0 1) 6148914691236517205) + (gandk .u64 x_0 6148914691236517205))) 3689348814741910323))))) 1085102592571150095) + (gshr .u64 (gandk .u64 (wk .u64 ((gshr .u64 (wk .u64 ((gandk .u64 (gshr .u64 (wk .u64 ((gandk .u64 (gshr .u64 x_0 1) 6148914691236517205) + (gandk .u64 x_0 6148914691236517205))) 2) 3689348814741910323) + (gandk .u64 (wk .u64 ((gandk .u64 (gshr .u64 x_0 1) 6148914691236517205) + (gandk .u64 x_0 6148914691236517205))) 3689348814741910323))) 4) + (wk .u64 ((gandk .u64 (gshr .u64 (wk .u64 ((gandk .u64 (gshr .u64 x_0 1) 6148914691236517205) + (gandk .u64 x_0 6148914691236517205))) 2) 3689348814741910323) + (gandk .u64 (wk .u64 ((gandk .u64 (gshr .u64 x_0 1) 6148914691236517205) + (gandk .u64 x_0 6148914691236517205))) 3689348814741910323))))) 1085102592571150095) 8))) 16)) rfl rfl) ?_
 refine st (v := (.int .u64 (wk .u64 ((wk .u64 ((gandk .u64 (wk .u64 ((gshr .u64 (wk .u64 ((gandk .u64 (gshr .u64 (wk .u64 ((gandk .u64 (gshr .u64 x_0 1) 6148914691236517205) + (gandk .u64 x_0 6148914691236517205))) 2) 3689348814741910323) + (gandk .u64 (wk .u64 ((gandk .u64 (gshr .u64 x_0 1) 6148914691236517205) + (gandk .u64 x_0 6148914691236517205))) 3689348814741910323))) 4) + (wk .u64 ((gandk .u64 (gshr .u64 (wk .u64 ((gandk .u64 (gshr .u64 x_0 1) 6148914691236517205) + (gandk .u64 x_0 6148914691236517205))) 2) 3689348814741910323) + (gandk .u64 (wk .u64 ((gandk .u64 (gshr .u64 x_0 1) 6148914691236517205) + (gandk .u64 x_0 6148914691236517205))) 3689348814741910323))))) 1085102592571150095) + (gshr .u64 (gandk .u64 (wk .u64 ((gshr .u64 (wk .u64 ((gandk .u64 (gshr .u64 (wk .u64 ((gandk .u64 (gshr .u64 x_0 1) 6148914691236517205) + (gandk .u64 x_0 6148914691236517205))) 2) 3689348814741910323) + (gandk .u64 (wk .u64 ((gandk .u64 (gshr .u64 x_0 1) 6148914691236517205) + (gandk .u64 x_0 6148914691236517205))) 3689348814741910323))) 4) + (wk .u64 ((gandk .u64 (gshr .u64 (wk .u64 ((gandk .u64 (gshr .u64 x_0 1) 6148914691236517205) + (gandk .u64 x_0 6148914691236517205))) 2) 3689348814741910323) + (gandk .u64 (wk .u64 ((gandk .u64 (gshr .u64 x_0 1) 6148914691236517205) + (gandk .u64 x_0 6148914691236517205))) 3689348814741910323))))) 1085102592571150095) 8))) + (gshr .u64 (wk .u64 ((gandk .u64 (wk .u64 ((gshr .u64 (wk .u64 ((gandk .u64 (gshr .u64 (wk .u64 ((gandk .u64 (gshr .u64 x_0 1) 6148914691236517205) + (gandk .u64 x_0 6148914691236517205))) 2) 3689348814741910323) + (gandk .u64 (wk .u64 ((gandk .u64 (gshr .u64 x_0 1) 6148914691236517205) + (gandk .u64 x_0 6148914691236517205))) 3689348814741910323))) 4) + (wk .u64 ((gandk .u64 (gshr .u64 (wk .u64 ((gandk .u64 (gshr .u64 x_0 1) 6148914691236517205) + (gandk .u64 x_0 6148914691236517205))) 2) 3689348814741910323) + (gandk .u64 (wk .u64 ((gandk .u64 (gshr .u64 x_0 1) 6148914691236517205) + (gandk .u64 x_0 6148914691236517205))) 3689348814741910323))))) 1085102592571150095) + (gshr .u64 (gandk .u64 (wk .u64 ((gshr .u64 (wk .u64 ((gandk .u64 (gshr .u64 (wk .u64 ((gandk .u64 (gshr .u64 x_0 1) 6148914691236517205) + (gandk .u64 x_0 6148914691236517205))) 2) 3689348814741910323) + (gandk .u64 (wk .u64 ((gandk .u64 (gshr .u64 x_0 1) 6148914691236517205) + (gandk .u64 x_0 6148914691236517205))) 3689348814741910323))) 4) + (wk .u64 ((gandk .u64 (gshr .u64 (wk .u64 ((gandk .u64 (gshr .u64 x_0 1) 6148914691236517205) + (gandk .u64 x_0 6148914691236517205))) 2) 3689348814741910323) + (gandk .u64 (wk .u64 ((gandk .u64 (gshr .u64 x_0 1) 6148914691236517205) + (gandk .u64 x_0 6148914691236517205))) 3689348814741910323))))) 1085102592571150095) 8))) 16))))) (rv_assign rfl) ?_
 refine w_end ?_
 refine q_then ?_
 refine c_seq ?_
 refine rg ?_
 refine st (v := (.int .u64 (wk .u64 ((wk .u64 ((gandk .u64 (wk .u64 ((gshr .u64 (wk .u64 ((gandk .u64 (gshr .u64 (wk .u64 ((gandk .u64 (gshr .u64 x_0 1) 6148914691236517205) + (gandk .u64 x_0 6148914691236517205))) 2) 3689348814741910323) + (gandk .u64 (wk .u64 ((gandk .u64 (gshr .u64 x_0 1) 6148914691236517205) + (gandk .u64 x_0 6148914691236517205))) 3689348814741910323))) 4) + (wk .u64 ((gandk .u64 (gshr .u64 (wk .u64 ((gandk .u64 (gshr .u64 x_0 1) 6148914691236517205) + (gandk .u64 x_0 6148914691236517205))) 2) 3689348814741910323) + (gandk .u64 (wk .u64 ((gandk .u64 (gshr .u64 x_0 1) 6148914691236517205) + (gandk .u64 x_0 6148914691236517205))) 3689348814741910323))))) 1085102592571150095) + (gshr .u64 (gandk .u64 (wk .u64 ((gshr .u64 (wk .u64 ((gandk .u64 (gshr .u64 (wk .u64 ((gandk .u64 (gshr .u64 x_0 1) 6148914691236517205) + (gandk .u64 x_0 6148914691236517205))) 2) 3689348814741910323) + (gandk .u64 (wk .u64 ((gandk .u64 (gshr .u64 x_0 1) 6148914691236517205) + (gandk .u64 x_0 6148914691236517205))) 3689348814741910323))) 4) + (wk .u64 ((gandk .u64 (gshr .u64 (wk .u64 ((gandk .u64 (gshr .u64 x_0 1) 6148914691236517205) + (gandk .u64 x_0 6148914691236517205))) 2) 3689348814741910323) + (gandk .u64 (wk .u64 ((gandk .u64 (gshr .u64 x_0 1) 6148914691236517205) + (gandk .u64 x_0 6148914691236517205))) 3689348814741910323))))) 1085102592571150095) 8))) + (gshr .u64 (wk .u64 ((gandk .u64 (wk .u64 ((gshr .u64 (wk .u64 ((gandk .u64 (gshr .u64 (wk .u64 ((gandk .u64 (gshr .u64 x_0 1) 6148914691236517205) + (gandk .u64 x_0 6148914691236517205))) 2) 3689348814741910323) + (gandk .u64 (wk .u64 ((gandk .u64 (gshr .u64 x_0 1) 6148914691236517205) + (gandk .u64 x_0 6148914691236517205))) 3689348814741910323))) 4) + (wk .u64 ((gandk .u64 (gshr .u64 (wk .u64 ((gandk .u64 (gshr .u64 x_0 1) 6148914691236517205) + (gandk .u64 x_0 6148914691236517205))) 2) 3689348814741910323) + (gandk .u64 (wk .u64 ((gandk .u64 (gshr .u64 x_0 1) 6148914691236517205) + (gandk .u64 x_0 6148914691236517205))) 3689348814741910323))))) 1085102592571150095) + (gshr .u64 (gandk .u64 (wk .u64 ((gshr .u64 (wk .u64 ((gandk .u64 (gshr .u64 (wk .u64 ((gandk .u64 (gshr .u64 x_0 1) 6148914691236517205) + (gandk .u64 x_0 6148914691236517205))) 2) 3689348814741910323) + (gandk .u64 (wk .u64 ((gandk .u64 (gshr .u64 x_0 1) 6148914691236517205) + (gandk .u64 x_0 6148914691236517205))) 3689348814741910323))) 4) + (wk .u64 ((gandk .u64 (gshr .u64 (wk .u64 ((gandk .u64 (gshr .u64 x_0 1) 6148914691236517205) + (gandk .u64 x_0 6148914691236517205))) 2) 3689348814741910323) + (gandk .u64 (wk .u64 ((gandk .u64 (gshr .u64 x_0 1) 6148914691236517205) + (gandk .u64 x_0 6148914691236517205))) 3689348814741910323))))) 1085102592571150095) 8))) 16))))) (rv_move rfl) ?_
 refine st (v := (.int .u64 (wk .u64 ((wk .u64 ((gandk .u64 (wk .u64 ((gshr .u64 (wk .u64 ((gandk .u64 (gshr .u64 (wk .u64 ((gandk .u64 (gshr .u64 x_0 1) 6148914691236517205) + (gandk .u64 x_0 6148914691236517205))) 2) 3689348814741910323) + (gandk .u64 (wk .u64 ((gandk .u64 (gshr .u64 x_0 1) 6148914691236517205) + (gandk .u64 x_0 6148914691236517205))) 3689348814741910323))) 4) + (wk .u64 ((gandk .u64 (gshr .u64 (wk .u64 ((gandk .u64 (gshr .u64 x_0 1) 6148914691236517205) + (gandk .u64 x_0 6148914691236517205))) 2) 3689348814741910323) + (gandk .u64 (wk .u64 ((gandk .u64 (gshr .u64 x_0 1) 6148914691236517205) + (gandk .u64 x_0 6148914691236517205))) 3689348814741910323))))) 1085102592571150095) + (gshr .u64 (gandk .u64 (wk .u64 ((gshr .u64 (wk .u64 ((gandk .u64 (gshr .u64 (wk .u64 ((gandk .u64 (gshr .u64 x_0 1) 6148914691236517205) + (gandk .u64 x_0 6148914691236517205))) 2) 3689348814741910323) + (gandk .u64 (wk .u64 ((gandk .u64 (gshr .u64 x_0 1) 6148914691236517205) + (gandk .u64 x_0 6148914691236517205))) 3689348814741910323))) 4) + (wk .u64 ((gandk .u64 (gshr .u64 (wk .u64 ((gandk .u64 (gshr .u64 x_0 1) 6148914691236517205) + (gandk .u64 x_0 6148914691236517205))) 2) 3689348814741910323) + (gandk .u64 (wk .u64 ((gandk .u64 (gshr .u64 x_0 1) 6148914691236517205) + (gandk .u64 x_0 6148914691236517205))) 3689348814741910323))))) 1085102592571150095) 8))) + (gshr .u64 (wk .u64 ((gandk .u64 (wk .u64 ((gshr .u64 (wk .u64 ((gandk .u64 (gshr .u64 (wk .u64 ((gandk .u64 (gshr .u64 x_0 1) 6148914691236517205) + (gandk .u64 x_0 6148914691236517205))) 2) 3689348814741910323) + (gandk .u64 (wk .u64 ((gandk .u64 (gshr .u64 x_0 1) 6148914691236517205) + (gandk .u64 x_0 6148914691236517205))) 3689348814741910323))) 4) + (wk .u64 ((gandk .u64 (gshr .u64 (wk .u64 ((gandk .u64 (gshr .u64 x_0 1) 6148914691236517205) + (gandk .u64 x_0 6148914691236517205))) 2) 3689348814741910323) + (gandk .u64 (wk .u64 ((gandk .u64 (gshr .u64 x_0 1) 6148914691236517205) + (gandk .u64 x_0 6148914691236517205))) 3689348814741910323))))) 1085102592571150095) + (gshr .u64 (gandk .u64 (wk .u64 ((gshr .u64 (wk .u64 ((gandk .u64 (gshr .u64 (wk .u64 ((gandk .u64 (gshr .u64 x_0 1) 6148914691236517205) + (gandk .u64 x_0 6148914691236517205))) 2) 3689348814741910323) + (gandk .u64 (wk .u64 ((gandk .u64 (gshr .u64 x_0 1) 6148914691236517205) + (gandk .u64 x_0 6148914691236517205))) 3689348814741910323))) 4) + (wk .u64 ((gandk .u64 (gshr .u64 (wk .u64 ((gandk .u64 (gshr .u64 x_0 1) 6148914691236517205) + (gandk .u64 x_0 6148914691236517205))) 2) 3689348814741910323) + (gandk .u64 (wk .u64 ((gandk .u64 (gshr .u64 x_0 1) 6148914691236517205) + (gandk .u64 x_0 6148914691236517205))) 3689348814741910323))))) 1085102592571150095) 8))) 16))))) (rv_move rfl) ?_
 refine st (v := (.int .u64 (gshr .u64 (wk .u64 ((wk .u64 ((gandk .u64 (wk .u64 ((gshr .u64 (wk .u64 ((gandk .u64 (gshr .u64 (wk .u64 ((gandk .u64 (gshr .u64 x_0 1) 6148914691236517205) + (gandk .u64 x_0 6148914691236517205))) 2) 3689348814741910323) + (gandk .u64 (wk .u64 ((gandk .u64 (gshr .u64 x_0 1) 6148914691236517205) + (gandk .u64 x_0 6148914691236517205))) 3689348814741910323))) 4) + (wk .u64 ((gandk .u64 (gshr .u64 (wk .u64 ((gandk .u64 (gshr .u64 x_0 1) 6148914691236517205) + (gandk .u64 x_0 6148914691236517205))) 2) 3689348814741910323) + (gandk .u64 (wk .u64 ((gandk .u64 (gshr .u64 x_0 1) 6148914691236517205) + (gandk .u64 x_0 6148914691236517205))) 3689348814741910323))))) 1085102592571150095) + (gshr .u64 (gandk .u64 (wk .u64 ((gshr .u64 (wk .u64 ((gandk .u64 (gshr .u64 (wk .u64 ((gandk .u64 (gshr .u64 x_0 1) 6148914691236517205) + (gandk .u64 x_0 6148914691236517205))) 2) 3689348814741910323) + (gandk .u64 (wk .u64 ((gandk .u64 (gshr .u64 x_0 1) 6148914691236517205) + (gandk .u64 x_0 6148914691236517205))) 3689348814741910323))) 4) + (wk .u64 ((gandk .u64 (gshr .u64 (wk .u64 ((gandk .u64 (gshr .u64 x_0 1) 6148914691236517205) + (gandk .u64 x_0 6148914691236517205))) 2) 3689348814741910323) + (gandk .u64 (wk .u64 ((gandk .u64 (gshr .u64 x_0 1) 6148914691236517205) + (gandk .u64 x_0 6148914691236517205))) 3689348814741910323))))) 1085102592571150095) 8))) + (gshr .u64 (wk .u64 ((gandk .u64 (wk .u64 ((gshr .u64 (wk .u64 ((gandk .u64 (gshr .u64 (wk .u64 ((gandk .u64 (gshr .u64 x_0 1) 6148914691236517205) + (gandk .u64 x_0 6148914691236517205))) 2) 3689348814741910323) + (gandk .u64 (wk .u64 ((gandk .u64 (gshr .u64 x_0 1) 6148914691236517205) + (gandk .u64 x_0 6148914691236517205))) 3689348814741910323))) 4) + (wk .u64 ((gandk .u64 (gshr .u64 (wk .u64 ((gandk .u64 (gshr .u64 x_0 1) 6148914691236517205) + (gandk .u64 x_0 6148914691236517205))) 2) 3689348814741910323) + (gandk .u64 (wk .u64 ((gandk .u64 (gshr .u64 x_0 1) 6148914691236517205) + (gandk .u64 x_0 6148914691236517205))) 3689348814741910323))))) 1085102592571150095) + (gshr .u64 (gandk .u64 (wk .u64 ((gshr .u64 (wk .u64 ((gandk .u64 (gshr .u64 (wk .u64 ((gandk .u64 (gshr .u64 x_0 1) 6148914691236517205) + (gandk .u64 x_0 6148914691236517205))) 2) 3689348814741910323) + (gandk .u64 (wk .u64 ((gandk .u64 (gshr .u64 x_0 1) 6148914691236517205) + (gandk .u64 x_0 6148914691236517205))) 3689348814741910323))) 4) + (wk .u64 ((gandk .u64 (gshr .u64 (wk .u64 ((gandk .u64 (gshr .u64 x_0 1) 6148914691236517205) + (gandk .u64 x_0 6148914691236517205))) 2) 3689348814741910323) + (gandk .u64 (wk .u64 ((gandk .u64 (gshr .u64 x_0 1) 6148914691236517205) + (gandk .u64 x_0 6148914691236517205))) 3689348814741910323))))) 1085102592571150095) 8))) 16))) 32))) (rvk_shr (k := .u64) (k' := .u64) (a := (wk .u64 ((wk .u64 ((gandk .u64 (wk .u64 ((gshr .u64 (wk .u64 ((gandk .u64 (gshr .u64 (wk .u64 ((gandk .u64 (gshr .u64 x_0 1) 6148914691236517205) + (gandk .u64 x_0 6148914691236517205))) 2) 3689348814741910323) + (gandk .u64 (wk .u64 ((gandk .u64 (gshr .u64 x_0 1) 6148914691236517205) + (gandk .u64 x_0 6148914691236517205))) 3689348814741910323))) 4) + (wk .u64 ((gandk .u64 (gshr .u64 (wk .u64 ((gandk .u64 (gshr .u64 x_0 1) 6148914691236517205) + (gandk .u64 x_0 6148914691236517205))) 2) 3689348814741910323) + (gandk .u64 (wk .u64 ((gandk .u64 (gshr .u64 x_0 1) 6148914691236517205) + (gandk .u64 x_0 6148914691236517205))) 3689348814741910323))))) 1085102592571150095) + (gshr .u64 (gandk .u64 (wk .u64 ((gshr .u64 (wk .u64 ((gandk .u64 (gshr .u64 (wk .u64 ((gandk .u64 (gshr .u64 x_0 1) 6148914691236517205) + (gandk .u64 x_0 6148914691236517205))) 2) 3689348814741910323) + (gandk .u64 (wk .u64 ((gandk .u64 (gshr .u64 x_0 1) 6148914691236517205) + (gandk .u64 x_0 6148914691236517205))) 3689348814741910323))) 4) + (wk .u64 ((gandk .u64 (gshr .u64 (wk .u64 ((gandk .u64 (gshr .u64 x_0 1) 6148914691236517205) + (gandk .u64 x_0 6148914691236517205))) 2) 3689348814741910323) + (gandk .u64 (wk .u64 ((gandk .u64 (gshr .u64 x_0 1) 6148914691236517205) + (gandk .u64 x_0 6148914691236517205))) 3689348814741910323))))) 1085102592571150095) 8))) + (gshr .u64 (wk .u64 ((gandk .u64 (wk .u64 ((gshr .u64 (wk .u64 ((gandk .u64 (gshr .u64 (wk .u64 ((gandk .u64 (gshr .u64 x_0 1) 6148914691236517205) + (gandk .u64 x_0 6148914691236517205))) 2) 3689348814741910323) + (gandk .u64 (wk .u64 ((gandk .u64 (gshr .u64 x_0 1) 6148914691236517205) + (gandk .u64 x_0 6148914691236517205))) 3689348814741910323))) 4) + (wk .u64 ((gandk .u64 (gshr .u64 (wk .u64 ((gandk .u64 (gshr .u64 x_0 1) 6148914691236517205) + (gandk .u64 x_0 6148914691236517205))) 2) 3689348814741910323) + (gandk .u64 (wk .u64 ((gandk .u64 (gshr .u64 x_0 1) 6148914691236517205) + (gandk .u64 x_0 6148914691236517205))) 3689348814741910323))))) 1085102592571150095) + (gshr .u64 (gandk .u64 (wk .u64 ((gshr .u64 (wk .u64 ((gandk .u64 (gshr .u64 (wk .u64 ((gandk .u64 (gshr .u64 x_0 1) 6148914691236517205) + (gandk .u64 x_0 6148914691236517205))) 2) 3689348814741910323) + (gandk .u64 (wk .u64 ((gandk .u64 (gshr .u64 x_0 1) 6148914691236517205) + (gandk .u64 x_0 6148914691236517205))) 3689348814741910323))) 4) + (wk .u64 ((gandk .u64 (gshr .u64 (wk .u64 ((gandk .u64 (gshr .u64 x_0 1) 6148914691236517205) + (gandk .u64 x_0 6148914691236517205))) 2) 3689348814741910323) + (gandk .u64 (wk .u64 ((gandk .u64 (gshr .u64 x_0 1) 6148914691236517205) + (gandk .u64 x_0 6148914691236517205))) 3689348814741910323))))) 1085102592571150095) 8))) 16)))) (b := 32) rfl rfl (by decide)) ?_
 refine st (v := (.int .u64 (wk .u64 ((wk .u64 ((wk .u64 ((gandk .u64 (wk .u64 ((gshr .u64 (wk .u64 ((gandk .u64 (gshr .u64 (wk .u64 ((gandk .u64 (gshr .u64 x_0 1) 6148914691236517205) + (gandk .u64 x_0 6148914691236517205))) 2) 3689348814741910323) + (gandk .u64 (wk .u64 ((gandk .u64 (gshr .u64 x_0 1) 6148914691236517205) + (gandk .u64 x_0 6148914691236517205))) 3689348814741910323))) 4) + (wk .u64 ((gandk .u64 (gshr .u64 (wk .u64 ((gandk .u64 (gshr .u64 x_0 1) 6148914691236517205) + (gandk .u64 x_0 6148914691236517205))) 2) 3689348814741910323) + (gandk .u64 (wk .u64 ((gandk .u64 (gshr .u64 x_0 1) 6148914691236517205) + (gandk .u64 x_0 6148914691236517205))) 3689348814741910323))))) 1085102592571150095) + (gshr .u64 (gandk .u64 (wk .u64 ((gshr .u64 (wk .u64 ((gandk .u64 (gshr .u64 (wk .u64 ((gandk .u64 (gshr .u64 x_0 1) 6148914691236517205) + (gandk .u64 x_0 6148914691236517205))) 2) 3689348814741910323) + (gandk .u64 (wk .u64 ((gandk .u64 (gshr .u64 x_0 1) 6148914691236517205) + (gandk .u64 x_0 6148914691236517205))) 3689348814741910323))) 4) + (wk .u64 ((gandk .u64 (gshr .u64 (wk .u64 ((gandk .u64 (gshr .u64 x_0 1) 6148914691236517205) + (gandk .u64 x_0 6148914691236517205))) 2) 3689348814741910323) + (gandk .u64 (wk .u64 ((gandk .u64 (gshr .u64 x_0 1) 6148914691236517205) + (gandk .u64 x_0 6148914691236517205))) 3689348814741910323))))) 1085102592571150095) 8))) + (gshr .u64 (wk .u64 ((gandk .u64 (wk .u64 ((gshr .u64 (wk .u64 ((gandk .u64 (gshr .u64 (wk .u64 ((gandk .u64 (gshr .u64 x_0 1) 6148914691236517205) + (gandk .u64 x_0 6148914691236517205))) 2) 3689348814741910323) + (gandk .u64 (wk .u64 ((gandk .u64 (gshr .u64 x_0 1) 6148914691236517205) + (gandk .u64 x_0 6148914691236517205))) 3689348814741910323))) 4) + (wk .u64 ((gandk .u64 (gshr .u64 (wk .u64 ((gandk .u64 (gshr .u64 x_0 1) 6148914691236517205) + (gandk .u64 x_0 6148914691236517205))) 2) 3689348814741910323) + (gandk .u64 (wk .u64 ((gandk .u64 (gshr .u64 x_0 1) 6148914691236517205) + (gandk .u64 x_0 6148914691236517205))) 3689348814741910323))))) 1085102592571150095) + (gshr .u64 (gandk .u64 (wk .u64 ((gshr .u64 (wk .u64 ((gandk .u64 (gshr .u64 (wk .u64 ((gandk .u64 (gshr .u64 x_0 1) 6148914691236517205) + (gandk .u64 x_0 6148914691236517205))) 2) 3689348814741910323) + (gandk .u64 (wk .u64 ((gandk .u64 (gshr .u64 x_0 1) 6148914691236517205) + (gandk .u64 x_0 6148914691236517205))) 3689348814741910323))) 4) + (wk .u64 ((gandk .u64 (gshr .u64 (wk .u64 ((gandk .u64 (gshr .u64 x_0 1) 6148914691236517205) + (gandk .u64 x_0 6148914691236517205))) 2) 3689348814741910323) + (gandk .u64 (wk .u64 ((gandk .u64 (gshr .u64 x_0 1) 6148914691236517205) + (gandk .u64 x_0 6148914691236517205))) 3689348814741910323))))) 1085102592571150095) 8))) 16))) + (gshr .u64 (wk .u64 ((wk .u64 ((gandk .u64 (wk .u64 ((gshr .u64 (wk .u64 ((gandk .u64 (gshr .u64 (wk .u64 ((gandk .u64 (gshr .u64 x_0 1) 6148914691236517205) + (gandk .u64 x_0 6148914691236517205))) 2) 3689348814741910323) + (gandk .u64 (wk .u64 ((gandk .u64 (gshr .u64 x_0 1) 6148914691236517205) + (gandk .u64 x_0 6148914691236517205))) 3689348814741910323))) 4) + (wk .u64 ((gandk .u64 (gshr .u64 (wk .u64 ((gandk .u64 (gshr .u64 x_0 1) 6148914691236517205) + (gandk .u64 x_0 6148914691236517205))) 2) 3689348814741910323) + (gandk .u64 (wk .u64 ((gandk .u64 (gshr .u64 x_0 1) 6148914691236517205) + (gandk .u64 x_0 6148914691236517205))) 3689348814741910323))))) 1085102592571150095) + (gshr .u64 (gandk .u64 (wk .u64 ((gshr .u64 (wk .u64 ((gandk .u64 (gshr .u64 (wk .u64 ((gandk .u64 (gshr .u64 x_0 1) 6148914691236517205) + (gandk .u64 x_0 6148914691236517205))) 2) 3689348814741910323) + (gandk .u64 (wk .u64 ((gandk .u64 (gshr .u64 x_0 1) 6148914691236517205) + (gandk .u64 x_0 6148914691236517205))) 3689348814741910323))) 4) + (wk .u64 ((gandk .u64 (gshr .u64 (wk .u64 ((gandk .u64 (gshr .u64 x_0 1) 6148914691236517205) + (gandk .u64 x_0 6148914691236517205))) 2) 3689348814741910323) + (gandk .u64 (wk .u64 ((gandk .u64 (gshr .u64 x_0 1) 6148914691236517205) + (gandk .u64 x_0 6148914691236517205))) 3689348814741910323))))) 1085102592571150095) 8))) + (gshr .u64 (wk .u64 ((gandk .u64 (wk .u64 ((gshr .u64 (wk .u64 ((gandk .u64 (gshr .u64 (wk .u64 ((gandk .u64 (gshr .u64 x_0 1) 6148914691236517205) + (gandk .u64 x_0 6148914691236517205))) 2) 3689348814741910323) + (gandk .u64 (wk .u64 ((gandk .u64 (gshr .u64 x_0 1) 6148914691236517205) + (gandk .u64 x_0 6148914691236517205))) 3689348814741910323))) 4) + (wk .u64 ((gandk .u64 (gshr .u64 (wk .u64 ((gandk .u64 (gshr .u64 x_0 1) 6148914691236517205) + (gandk .u64 x_0 6148914691236517205))) 2) 3689348814741910323) + (gandk .u64 (wk .u64 ((gandk .u64 (gshr .u64 x_0 1) 6148914691236517205) + (gandk .u64 x_0 6148914691236517205))) 3689348814741910323))))) 1085102592571150095) + (gshr .u64 (gandk .u64 (wk .u64 ((gshr .u64 (wk .u64 ((gandk .u64 (gshr .u64 (wk .u64 ((gandk .u64 (gshr .u64 x_0 1) 6148914691236517205) + (gandk .u64 x_0 6148914691236517205))) 2) 3689348814741910323) + (gandk .u64 (wk .u64 ((gandk .u64 (gshr .u64 x_0 1) 6148914691236517205) + (gandk .u64 x_0 6148914691236517205))) 3689348814741910323))) 4) + (wk .u64 ((gandk .u64 (gshr .u64 (wk .u64 ((gandk .u64 (gshr .u64 x_0 1) 6148914691236517205) + (gandk .u64 x_0 6148914691236517205))) 2) 3689348814741910323) + (gandk .u64 (wk .u64 ((gandk .u64 (gshr .u64 x_0 1) 6148914691236517205) + (gandk .u64 x_0 6148914691236517205))) 3689348814741910323))))) 1085102592571150095) 8))) 16))) 32))))) (rvk_add (k := .u64) (a := (wk .u64 ((wk .u64 ((gandk .u64 (wk .u64 ((gshr .u64 (wk .u64 ((gandk .u64 (gshr .u64 (wk .u64 ((gandk .u64 (gshr .u64 x_0 1) 6148914691236517205) + (gandk .u64 x_0 6148914691236517205))) 2) 3689348814741910323) + (gandk .u64 (wk .u64 ((gandk .u64 (gshr .u64 x_0 1) 6148914691236517205) + (gandk .u64 x_0 6148914691236517205))) 3689348814741910323))) 4) + (wk .u64 ((gandk .u64 (gshr .u64 (wk .u64 ((gandk .u64 (gshr .u64 x_0 1) 6148914691236517205) + (gandk .u64 x_0 6148914691236517205))) 2) 3689348814741910323) + (gandk .u64 (wk .u64 ((gandk .u64 (gshr .u64 x_0 1) 6148914691236517205) + (gandk .u64 x_0 6148914691236517205))) 3689348814741910323))))) 1085102592571150095) + (gshr .u64 (gandk .u64 (wk .u64 ((gshr .u64 (wk .u64 ((gandk .u64 (gshr .u64 (wk .u64 ((gandk .u64 (gshr .u64 x_0 1) 6148914691236517205) + (gandk .u64 x_0 6148914691236517205))) 2) 3689348814741910323) + (gandk .u64 (wk .u64 ((gandk .u64 (gshr .u64 x_0 1) 6148914691236517205) + (gandk .u64 x_0 6148914691236517205))) 3689348814741910323))) 4) + (wk .u64 ((gandk .u64 (gshr .u64 (wk .u64 ((gandk .u64 (gshr .u64 x_0 1) 6148914691236517205) + (gandk .u64 x_0 6148914691236517205))) 2) 3689348814741910323) + (gandk .u64 (wk .u64 ((gandk .u64 (gshr .u64 x_0 1) 6148914691236517205) + (gandk .u64 x_0 6148914691236517205))) 3689348814741910323))))) 1085102592571150095) 8))) + (gshr .u64 (wk .u64 ((gandk .u64 (wk .u64 ((gshr .u64 (wk .u64 ((gandk .u64 (gshr .u64 (wk .u64 ((gandk .u64 (gshr .u64 x_0 1) 6148914691236517205) + (gandk .u64 x_0 6148914691236517205))) 2) 3689348814741910323) + (gandk .u64 (wk .u64 ((gandk .u64 (gshr .u64 x_0 1) 6148914691236517205) + (gandk .u64 x_0 6148914691236517205))) 3689348814741910323))) 4) + (wk .u64 ((gandk .u64 (gshr .u64 (wk .u64 ((gandk .u64 (gshr .u64 x_0 1) 6148914691236517205) + (gandk .u64 x_0 6148914691236517205))) 2) 3689348814741910323) + (gandk .u64 (wk .u64 ((gandk .u64 (gshr .u64 x_0 1) 6148914691236517205) + (gandk .u64 x_0 6148914691236517205))) 3689348814741910323))))) 1085102592571150095) + (gshr .u64 (gandk .u64 (wk .u64 ((gshr .u64 (wk .u64 ((gandk .u64 (gshr .u64 (wk .u64 ((gandk .u64 (gshr .u64 x_0 1) 6148914691236517205) + (gandk .u64 x_0 6148914691236517205))) 2) 3689348814741910323) + (gandk .u64 (wk .u64 ((gandk .u64 (gshr .u64 x_0 1) 6148914691236517205) + (gandk .u64 x_0 6148914691236517205))) 3689348814741910323))) 4) + (wk .u64 ((gandk .u64 (gshr .u64 (wk .u64 ((gandk .u64 (gshr .u64 x_0 1) 6148914691236517205) + (gandk .u64 x_0 6148914691236517205))) 2) 3689348814741910323) + (gandk .u64 (wk .u64 ((gandk .u64 (gshr .u64 x_0 1) 6148914691236517205) + (gandk .u64 x_0 6148914691236517205))) 3689348814741910323))))) 1085102592571150095) 8))) 16)))) (b := (gshr .u64 (wk .u64 ((wk .u64 ((gandk .u64 (wk .u64 ((gshr .u64 (wk .u64 ((gandk .u64 (gshr .u64 (wk .u64 ((gandk .u64 (gshr .u64 x_0 1) 6148914691236517205) + (gandk .u64 x_0 6148914691236517205))) 2) 3689348814741910323) + (gandk .u64 (wk .u64 ((gandk .u64 (gshr .u64 x_0 1) 6148914691236517205) + (gandk .u64 x_0 6148914691236517205))) 3689348814741910323))) 4) + (wk .u64 ((gandk .u64 (gshr .u64 (wk .u64 ((gandk .u64 (gshr .u64 x_0 1) 6148914691236517205) + (gandk .u64 x_0 6148914691236517205))) 2) 3689348814741910323) + (gandk .u64 (wk .u64 ((gandk .u64 (gshr .u64 x_0 1) 6148914691236517205) + (gandk .u64 x_0 6148914691236517205))) 3689348814741910323))))) 1085102592571150095) + (gshr .u64 (gandk .u64 (wk .u64 ((gshr .u64 (wk .u64 ((gandk .u64 (gshr .u64 (wk .u64 ((gandk .u64 (gshr .u64 x_0 1) 6148914691236517205) + (gandk .u64 x_0 6148914691236517205))) 2) 3689348814741910323) + (gandk .u64 (wk .u64 ((gandk .u64 (gshr .u64 x_0 1) 6148914691236517205) + (gandk .u64 x_0 6148914691236517205))) 3689348814741910323))) 4) + (wk .u64 ((gandk .u64 (gshr .u64 (wk .u64 ((gandk .u64 (gshr .u64 x_0 1) 6148914691236517205) + (gandk .u64 x_0 6148914691236517205))) 2) 3689348814741910323) + (gandk .u64 (wk .u64 ((gandk .u64 (gshr .u64 x_0 1) 6148914691236517205) + (gandk .u64 x_0 6148914691236517205))) 3689348814741910323))))) 1085102592571150095) 8))) + (gshr .u64 (wk .u64 ((gandk .u64 (wk .u64 ((gshr .u64 (wk .u64 ((gandk .u64 (gshr .u64 (wk .u64 ((gandk .u64 (gshr .u64 x_0 1) 6148914691236517205) + (gandk .u64 x_0 6148914691236517205))) 2) 3689348814741910323) + (gandk .u64 (wk .u64 ((gandk .u64 (gshr .u64 x_0 1) 6148914691236517205) + (gandk .u64 x_0 6148914691236517205))) 3689348814741910323))) 4) + (wk .u64 ((gandk .u64 (gshr .u64 (wk .u64 ((gandk .u64 (gshr .u64 x_0 1) 6148914691236517205) + (gandk .u64 x_0 6148914691236517205))) 2) 3689348814741910323) + (gandk .u64 (wk .u64 ((gandk .u64 (gshr .u64 x_0 1) 6148914691236517205) + (gandk .u64 x_0 6148914691236517205))) 3689348814741910323))))) 1085102592571150095) + (gshr .u64 (gandk .u64 (wk .u64 ((gshr .u64 (wk .u64 ((gandk .u64 (gshr .u64 (wk .u64 ((gandk .u64 (gshr .u64 x_0 1) 6148914691236517205) + (gandk .u64 x_0 6148914691236517205))) 2) 3689348814741910323) + (gandk .u64 (wk .u64 ((gandk .u64 (gshr .u64 x_0 1) 6148914691236517205) + (gandk .u64 x_0 6148914691236517205))) 3689348814741910323))) 4) + (wk .u64 ((gandk .u64 (gshr .u64 (wk .u64 ((gandk .u64 (gshr .u64 x_0 1) 6148914691236517205) + (gandk .u64 x_0 6148914691236517205))) 2) 3689348814741910323) + (gandk .u64 (wk .u64 ((gandk .u64 (gshr .u64 x_0 1) 6148914691236517205) + (gandk .u64 x_0 6148914691236517205))) 3689348814741910323))))) 1085102592571150095) 8))) 16))) 32)) rfl rfl) ?_
 refine st (v := (.int .u64 (wk .u64 ((wk .u64 ((wk .u64 ((gandk .u64 (wk .u64 ((gshr .u64 (wk .u64 ((gandk .u64 (gshr .u64 (wk .u64 ((gandk .u64 (gshr .u64 x_0 1) 6148914691236517205) + (gandk .u64 x_0 6148914691236517205))) 2) 3689348814741910323) + (gandk .u64 (wk .u64 ((gandk .u64 (gshr .u64 x_0 1) 6148914691236517205) + (gandk .u64 x_0 6148914691236517205))) 3689348814741910323))) 4) + (wk .u64 ((gandk .u64 (gshr .u64 (wk .u64 ((gandk .u64 (gshr .u64 x_0 1) 6148914691236517205) + (gandk .u64 x_0 6148914691236517205))) 2) 3689348814741910323) + (gandk .u64 (wk .u64 ((gandk .u64 (gshr .u64 x_0 1) 6148914691236517205) + (gandk .u64 x_0 6148914691236517205))) 3689348814741910323))))) 1085102592571150095) + (gshr .u64 (gandk .u64 (wk .u64 ((gshr .u64 (wk .u64 ((gandk .u64 (gshr .u64 (wk .u64 ((gandk .u64 (gshr .u64 x_0 1) 6148914691236517205) + (gandk .u64 x_0 6148914691236517205))) 2) 3689348814741910323) + (gandk .u64 (wk .u64 ((gandk .u64 (gshr .u64 x_0 1) 6148914691236517205) + (gandk .u64 x_0 6148914691236517205))) 3689348814741910323))) 4) + (wk .u64 ((gandk .u64 (gshr .u64 (wk .u64 ((gandk .u64 (gshr .u64 x_0 1) 6148914691236517205) + (gandk .u64 x_0 6148914691236517205))) 2) 3689348814741910323) + (gandk .u64 (wk .u64 ((gandk .u64 (gshr .u64 x_0 1) 6148914691236517205) + (gandk .u64 x_0 6148914691236517205))) 3689348814741910323))))) 1085102592571150095) 8))) + (gshr .u64 (wk .u64 ((gandk .u64 (wk .u64 ((gshr .u64 (wk .u64 ((gandk .u64 (gshr .u64 (wk .u64 ((gandk .u64 (gshr .u64 x_0 1) 6148914691236517205) + (gandk .u64 x_0 6148914691236517205))) 2) 3689348814741910323) + (gandk .u64 (wk .u64 ((gandk .u64 (gshr .u64 x_0 1) 6148914691236517205) + (gandk .u64 x_0 6148914691236517205))) 3689348814741910323))) 4) + (wk .u64 ((gandk .u64 (gshr .u64 (wk .u64 ((gandk .u64 (gshr .u64 x_0 1) 6148914691236517205) + (gandk .u64 x_0 6148914691236517205))) 2) 3689348814741910323) + (gandk .u64 (wk .u64 ((gandk .u64 (gshr .u64 x_0 1) 6148914691236517205) + (gandk .u64 x_0 6148914691236517205))) 3689348814741910323))))) 1085102592571150095) + (gshr .u64 (gandk .u64 (wk .u64 ((gshr .u64 (wk .u64 ((gandk .u64 (gshr .u64 (wk .u64 ((gandk .u64 (gshr .u64 x_0 1) 6148914691236517205) + (gandk .u64 x_0 6148914691236517205))) 2) 3689348814741910323) + (gandk .u64 (wk .u64 ((gandk .u64 (gshr .u64 x_0 1) 6148914691236517205) + (gandk .u64 x_0 6148914691236517205))) 3689348814741910323))) 4) + (wk .u64 ((gandk .u64 (gshr .u64 (wk .u64 ((gandk .u64 (gshr .u64 x_0 1) 6148914691236517205) + (gandk .u64 x_0 6148914691236517205))) 2) 3689348814741910323) + (gandk .u64 (wk .u64 ((gandk .u64 (gshr .u64 x_0 1) 6148914691236517205) + (gandk .u64 x_0 6148914691236517205))) 3689348814741910323))))) 1085102592571150095) 8))) 16))) + (gshr .u64 (wk .u64 ((wk .u64 ((gandk .u64 (wk .u64 ((gshr .u64 (wk .u64 ((gandk .u64 (gshr .u64 (wk .u64 ((gandk .u64 (gshr .u64 x_0 1) 6148914691236517205) + (gandk .u64 x_0 6148914691236517205))) 2) 3689348814741910323) + (gandk .u64 (wk .u64 ((gandk .u64 (gshr .u64 x_0 1) 6148914691236517205) + (gandk .u64 x_0 6148914691236517205))) 3689348814741910323))) 4) + (wk .u64 ((gandk .u64 (gshr .u64 (wk .u64 ((gandk .u64 (gshr .u64 x_0 1) 6148914691236517205) + (gandk .u64 x_0 6148914691236517205))) 2) 3689348814741910323) + (gandk .u64 (wk .u64 ((gandk .u64 (gshr .u64 x_0 1) 6148914691236517205) + (gandk .u64 x_0 6148914691236517205))) 3689348814741910323))))) 1085102592571150095) + (gshr .u64 (gandk .u64 (wk .u64 ((gshr .u64 (wk .u64 ((gandk .u64 (gshr .u64 (wk .u64 ((gandk .u64 (gshr .u64 x_0 1) 6148914691236517205) + (gandk .u64 x_0 6148914691236517205))) 2) 3689348814741910323) + (gandk .u64 (wk .u64 ((gandk .u64 (gshr .u64 x_0 1) 6148914691236517205) + (gandk .u64 x_0 6148914691236517205))) 3689348814741910323))) 4) + (wk .u64 ((gandk .u64 (gshr .u64 (wk .u64 ((gandk .u64 (gshr .u64 x_0 1) 6148914691236517205) + (gandk .u64 x_0 6148914691236517205))) 2) 3689348814741910323) + (gandk .u64 (wk .u64 ((gandk .u64 (gshr .u64 x_0 1) 6148914691236517205) + (gandk .u64 x_0 6148914691236517205))) 3689348814741910323))))) 1085102592571150095) 8))) + (gshr .u64 (wk .u64 ((gandk .u64 (wk .u64 ((gshr .u64 (wk .u64 ((gandk .u64 (gshr .u64 (wk .u64 ((gandk .u64 (gshr .u64 x_0 1) 6148914691236517205) + (gandk .u64 x_0 6148914691236517205))) 2) 3689348814741910323) + (gandk .u64 (wk .u64 ((gandk .u64 (gshr .u64 x_0 1) 6148914691236517205) + (gandk .u64 x_0 6148914691236517205))) 3689348814741910323))) 4) + (wk .u64 ((gandk .u64 (gshr .u64 (wk .u64 ((gandk .u64 (gshr .u64 x_0 1) 6148914691236517205) + (gandk .u64 x_0 6148914691236517205))) 2) 3689348814741910323) + (gandk .u64 (wk .u64 ((gandk .u64 (gshr .u64 x_0 1) 6148914691236517205) + (gandk .u64 x_0 6148914691236517205))) 3689348814741910323))))) 1085102592571150095) + (gshr .u64 (gandk .u64 (wk .u64 ((gshr .u64 (wk .u64 ((gandk .u64 (gshr .u64 (wk .u64 ((gandk .u64 (gshr .u64 x_0 1) 6148914691236517205) + (gandk .u64 x_0 6148914691236517205))) 2) 3689348814741910323) + (gandk .u64 (wk .u64 ((gandk .u64 (gshr .u64 x_0 1) 6148914691236517205) + (gandk .u64 x_0 6148914691236517205))) 3689348814741910323))) 4) + (wk .u64 ((gandk .u64 (gshr .u64 (wk .u64 ((gandk .u64 (gshr .u64 x_0 1) 6148914691236517205) + (gandk .u64 x_0 6148914691236517205))) 2) 3689348814741910323) + (gandk .u64 (wk .u64 ((gandk .u64 (gshr .u64 x_0 1) 6148914691236517205) + (gandk .u64 x_0 6148914691236517205))) 3689348814741910323))))) 1085102592571150095) 8))) 16))) 32))))) (rv_assign rfl) ?_
 refine w_end ?_
 refine q_then ?_
 refine c_seq ?_
 refine rg ?_
 refine st (v := (.int .u64 (wk .u64 ((wk .u64 ((wk .u64 ((gandk .u64 (wk .u64 ((gshr .u64 (wk .u64 ((gandk .u64 (gshr .u64 (wk .u64 ((gandk .u64 (gshr .u64 x_0 1) 6148914691236517205) + (gandk .u64 x_0 6148914691236517205))) 2) 3689348814741910323) + (gandk .u64 (wk .u64 ((gandk .u64 (gshr .u64 x_0 1) 6148914691236517205) + (gandk .u64 x_0 6148914691236517205))) 3689348814741910323))) 4) + (wk .u64 ((gandk .u64 (gshr .u64 (wk .u64 ((gandk .u64 (gshr .u64 x_0 1) 6148914691236517205) + (gandk .u64 x_0 6148914691236517205))) 2) 3689348814741910323) + (gandk .u64 (wk .u64 ((gandk .u64 (gshr .u64 x_0 1) 6148914691236517205) + (gandk .u64 x_0 6148914691236517205))) 3689348814741910323))))) 1085102592571150095) + (gshr .u64 (gandk .u64 (wk .u64 ((gshr .u64 (wk .u64 ((gandk .u64 (gshr .u64 (wk .u64 ((gandk .u64 (gshr .u64 x_0 1) 6148914691236517205) + (gandk .u64 x_0 6148914691236517205))) 2) 3689348814741910323) + (gandk .u64 (wk .u64 ((gandk .u64 (gshr .u64 x_0 1) 6148914691236517205) + (gandk .u64 x_0 6148914691236517205))) 3689348814741910323))) 4) + (wk .u64 ((gandk .u64 (gshr .u64 (wk .u64 ((gandk .u64 (gshr .u64 x_0 1) 6148914691236517205) + (gandk .u64 x_0 6148914691236517205))) 2) 3689348814741910323) + (gandk .u64 (wk .u64 ((gandk .u64 (gshr .u64 x_0 1) 6148914691236517205) + (gandk .u64 x_0 6148914691236517205))) 3689348814741910323))))) 1085102592571150095) 8))) + (gshr .u64 (wk .u64 ((gandk .u64 (wk .u64 ((gshr .u64 (wk .u64 ((gandk .u64 (gshr .u64 (wk .u64 ((gandk .u64 (gshr .u64 x_0 1) 6148914691236517205) + (gandk .u64 x_0 6148914691236517205))) 2) 3689348814741910323) + (gandk .u64 (wk .u64 ((gandk .u64 (gshr .u64 x_0 1) 6148914691236517205) + (gandk .u64 x_0 6148914691236517205))) 3689348814741910323))) 4) + (wk .u64 ((gandk .u64 (gshr .u64 (wk .u64 ((gandk .u64 (gshr .u64 x_0 1) 6148914691236517205) + (gandk .u64 x_0 6148914691236517205))) 2) 3689348814741910323) + (gandk .u64 (wk .u64 ((gandk .u64 (gshr .u64 x_0 1) 6148914691236517205) + (gandk .u64 x_0 6148914691236517205))) 3689348814741910323))))) 1085102592571150095) + (gshr .u64 (gandk .u64 (wk .u64 ((gshr .u64 (wk .u64 ((gandk .u64 (gshr .u64 (wk .u64 ((gandk .u64 (gshr .u64 x_0 1) 6148914691236517205) + (gandk .u64 x_0 6148914691236517205))) 2) 3689348814741910323) + (gandk .u64 (wk .u64 ((gandk .u64 (gshr .u64 x_0 1) 6148914691236517205) + (gandk .u64 x_0 6148914691236517205))) 3689348814741910323))) 4) + (wk .u64 ((gandk .u64 (gshr .u64 (wk .u64 ((gandk .u64 (gshr .u64 x_0 1) 6148914691236517205) + (gandk .u64 x_0 6148914691236517205))) 2) 3689348814741910323) + (gandk .u64 (wk .u64 ((gandk .u64 (gshr .u64 x_0 1) 6148914691236517205) + (gandk .u64 x_0 6148914691236517205))) 3689348814741910323))))) 1085102592571150095) 8))) 16))) + (gshr .u64 (wk .u64 ((wk .u64 ((gandk .u64 (wk .u64 ((gshr .u64 (wk .u64 ((gandk .u64 (gshr .u64 (wk .u64 ((gandk .u64 (gshr .u64 x_0 1) 6148914691236517205) + (gandk .u64 x_0 6148914691236517205))) 2) 3689348814741910323) + (gandk .u64 (wk .u64 ((gandk .u64 (gshr .u64 x_0 1) 6148914691236517205) + (gandk .u64 x_0 6148914691236517205))) 3689348814741910323))) 4) + (wk .u64 ((gandk .u64 (gshr .u64 (wk .u64 ((gandk .u64 (gshr .u64 x_0 1) 6148914691236517205) + (gandk .u64 x_0 6148914691236517205))) 2) 3689348814741910323) + (gandk .u64 (wk .u64 ((gandk .u64 (gshr .u64 x_0 1) 6148914691236517205) + (gandk .u64 x_0 6148914691236517205))) 3689348814741910323))))) 1085102592571150095) + (gshr .u64 (gandk .u64 (wk .u64 ((gshr .u64 (wk .u64 ((gandk .u64 (gshr .u64 (wk .u64 ((gandk .u64 (gshr .u64 x_0 1) 6148914691236517205) + (gandk .u64 x_0 6148914691236517205))) 2) 3689348814741910323) + (gandk .u64 (wk .u64 ((gandk .u64 (gshr .u64 x_0 1) 6148914691236517205) + (gandk .u64 x_0 6148914691236517205))) 3689348814741910323))) 4) + (wk .u64 ((gandk .u64 (gshr .u64 (wk .u64 ((gandk .u64 (gshr .u64 x_0 1) 6148914691236517205) + (gandk .u64 x_0 6148914691236517205))) 2) 3689348814741910323) + (gandk .u64 (wk .u64 ((gandk .u64 (gshr .u64 x_0 1) 6148914691236517205) + (gandk .u64 x_0 6148914691236517205))) 3689348814741910323))))) 1085102592571150095) 8))) + (gshr .u64 (wk .u64 ((gandk .u64 (wk .u64 ((gshr .u64 (wk .u64 ((gandk .u64 (gshr .u64 (wk .u64 ((gandk .u64 (gshr .u64 x_0 1) 6148914691236517205) + (gandk .u64 x_0 6148914691236517205))) 2) 3689348814741910323) + (gandk .u64 (wk .u64 ((gandk .u64 (gshr .u64 x_0 1) 6148914691236517205) + (gandk .u64 x_0 6148914691236517205))) 3689348814741910323))) 4) + (wk .u64 ((gandk .u64 (gshr .u64 (wk .u64 ((gandk .u64 (gshr .u64 x_0 1) 6148914691236517205) + (gandk .u64 x_0 6148914691236517205))) 2) 3689348814741910323) + (gandk .u64 (wk .u64 ((gandk .u64 (gshr .u64 x_0 1) 6148914691236517205) + (gandk .u64 x_0 6148914691236517205))) 3689348814741910323))))) 1085102592571150095) + (gshr .u64 (gandk .u64 (wk .u64 ((gshr .u64 (wk .u64 ((gandk .u64 (gshr .u64 (wk .u64 ((gandk .u64 (gshr .u64 x_0 1) 6148914691236517205) + (gandk .u64 x_0 6148914691236517205))) 2) 3689348814741910323) + (gandk .u64 (wk .u64 ((gandk .u64 (gshr .u64 x_0 1) 6148914691236517205) + (gandk .u64 x_0 6148914691236517205))) 3689348814741910323))) 4) + (wk .u64 ((gandk .u64 (gshr .u64 (wk .u64 ((gandk .u64 (gshr .u64 x_0 1) 6148914691236517205) + (gandk .u64 x_0 6148914691236517205))) 2) 3689348814741910323) + (gandk .u64 (wk .u64 ((gandk .u64 (gshr .u64 x_0 1) 6148914691236517205) + (gandk .u64 x_0 6148914691236517205))) 3689348814741910323))))) 1085102592571150095) 8))) 16))) 32))))) (rv_move rfl) ?_
 refine st (v := (I (wk .i64 (wk .u64 ((wk .u64 ((wk .u64 ((gandk .u64 (wk .u64 ((gshr .u64 (wk .u64 ((gandk .u64 (gshr .u64 (wk .u64 ((gandk .u64 (gshr .u64 x_0 1) 6148914691236517205) + (gandk .u64 x_0 6148914691236517205))) 2) 3689348814741910323) + (gandk .u64 (wk .u64 ((gandk .u64 (gshr .u64 x_0 1) 6148914691236517205) + (gandk .u64 x_0 6148914691236517205))) 3689348814741910323))) 4) + (wk .u64 ((gandk .u64 (gshr .u64 (wk .u64 ((gandk .u64 (gshr .u64 x_0 1) 6148914691236517205) + (gandk .u64 x_0 6148914691236517205))) 2) 3689348814741910323) + (gandk .u64 (wk .u64 ((gandk .u64 (gshr .u64 x_0 1) 6148914691236517205) + (gandk .u64 x_0 6148914691236517205))) 3689348814741910323))))) 1085102592571150095) + (gshr .u64 (gandk .u64 (wk .u64 ((gshr .u64 (wk .u64 ((gandk .u64 (gshr .u64 (wk .u64 ((gandk .u64 (gshr .u64 x_0 1) 6148914691236517205) + (gandk .u64 x_0 6148914691236517205))) 2) 3689348814741910323) + (gandk .u64 (wk .u64 ((gandk .u64 (gshr .u64 x_0 1) 6148914691236517205) + (gandk .u64 x_0 6148914691236517205))) 3689348814741910323))) 4) + (wk .u64 ((gandk .u64 (gshr .u64 (wk .u64 ((gandk .u64 (gshr .u64 x_0 1) 6148914691236517205) + (gandk .u64 x_0 6148914691236517205))) 2) 3689348814741910323) + (gandk .u64 (wk .u64 ((gandk .u64 (gshr .u64 x_0 1) 6148914691236517205) + (gandk .u64 x_0 6148914691236517205))) 3689348814741910323))))) 1085102592571150095) 8))) + (gshr .u64 (wk .u64 ((gandk .u64 (wk .u64 ((gshr .u64 (wk .u64 ((gandk .u64 (gshr .u64 (wk .u64 ((gandk .u64 (gshr .u64 x_0 1) 6148914691236517205) + (gandk .u64 x_0 6148914691236517205))) 2) 3689348814741910323) + (gandk .u64 (wk .u64 ((gandk .u64 (gshr .u64 x_0 1) 6148914691236517205) + (gandk .u64 x_0 6148914691236517205))) 3689348814741910323))) 4) + (wk .u64 ((gandk .u64 (gshr .u64 (wk .u64 ((gandk .u64 (gshr .u64 x_0 1) 6148914691236517205) + (gandk .u64 x_0 6148914691236517205))) 2) 3689348814741910323) + (gandk .u64 (wk .u64 ((gandk .u64 (gshr .u64 x_0 1) 6148914691236517205) + (gandk .u64 x_0 6148914691236517205))) 3689348814741910323))))) 1085102592571150095) + (gshr .u64 (gandk .u64 (wk .u64 ((gshr .u64 (wk .u64 ((gandk .u64 (gshr .u64 (wk .u64 ((gandk .u64 (gshr .u64 x_0 1) 6148914691236517205) + (gandk .u64 x_0 6148914691236517205))) 2) 3689348814741910323) + (gandk .u64 (wk .u64 ((gandk .u64 (gshr .u64 x_0 1) 6148914691236517205) + (gandk .u64 x_0 6148914691236517205))) 3689348814741910323))) 4) + (wk .u64 ((gandk .u64 (gshr .u64 (wk .u64 ((gandk .u64 (gshr .u64 x_0 1) 6148914691236517205) + (gandk .u64 x_0 6148914691236517205))) 2) 3689348814741910323) + (gandk .u64 (wk .u64 ((gandk .u64 (gshr .u64 x_0 1) 6148914691236517205) + (gandk .u64 x_0 6148914691236517205))) 3689348814741910323))))) 1085102592571150095) 8))) 16))) + (gshr .u64 (wk .u64 ((wk .u64 ((gandk .u64 (wk .u64 ((gshr .u64 (wk .u64 ((gandk .u64 (gshr .u64 (wk .u64 ((gandk .u64 (gshr .u64 x_0 1) 6148914691236517205) + (gandk .u64 x_0 6148914691236517205))) 2) 3689348814741910323) + (gandk .u64 (wk .u64 ((gandk .u64 (gshr .u64 x_0 1) 6148914691236517205) + (gandk .u64 x_0 6148914691236517205))) 3689348814741910323))) 4) + (wk .u64 ((gandk .u64 (gshr .u64 (wk .u64 ((gandk .u64 (gshr .u64 x_0 1) 6148914691236517205) + (gandk .u64 x_0 6148914691236517205))) 2) 3689348814741910323) + (gandk .u64 (wk .u64 ((gandk .u64 (gshr .u64 x_0 1) 6148914691236517205) + (gandk .u64 x_0 6148914691236517205))) 3689348814741910323))))) 1085102592571150095) + (gshr .u64 (gandk .u64 (wk .u64 ((gshr .u64 (wk .u64 ((gandk .u64 (gshr .u64 (wk .u64 ((gandk .u64 (gshr .u64 x_0 1) 6148914691236517205) + (gandk .u64 x_0 6148914691236517205))) 2) 3689348814741910323) + (gandk .u64 (wk .u64 ((gandk .u64 (gshr .u64 x_0 1) 6148914691236517205) + (gandk .u64 x_0 6148914691236517205))) 3689348814741910323))) 4) + (wk .u64 ((gandk .u64 (gshr .u64 (wk .u64 ((gandk .u64 (gshr .u64 x_0 1) 6148914691236517205) + (gandk .u64 x_0 6148914691236517205))) 2) 3689348814741910323) + (gandk .u64 (wk .u64 ((gandk .u64 (gshr .u64 x_0 1) 6148914691236517205) + (gandk .u64 x_0 6148914691236517205))) 3689348814741910323))))) 1085102592571150095) 8))) + (gshr .u64 (wk .u64 ((gandk .u64 (wk .u64 ((gshr .u64 (wk .u64 ((gandk .u64 (gshr .u64 (wk .u64 ((gandk .u64 (gshr .u64 x_0 1) 6148914691236517205) + (gandk .u64 x_0 6148914691236517205))) 2) 3689348814741910323) + (gandk .u64 (wk .u64 ((gandk .u64 (gshr .u64 x_0 1) 6148914691236517205) + (gandk .u64 x_0 6148914691236517205))) 3689348814741910323))) 4) + (wk .u64 ((gandk .u64 (gshr .u64 (wk .u64 ((gandk .u64 (gshr .u64 x_0 1) 6148914691236517205) + (gandk .u64 x_0 6148914691236517205))) 2) 3689348814741910323) + (gandk .u64 (wk .u64 ((gandk .u64 (gshr .u64 x_0 1) 6148914691236517205) + (gandk .u64 x_0 6148914691236517205))) 3689348814741910323))))) 1085102592571150095) + (gshr .u64 (gandk .u64 (wk .u64 ((gshr .u64 (wk .u64 ((gandk .u64 (gshr .u64 (wk .u64 ((gandk .u64 (gshr .u64 x_0 1) 6148914691236517205) + (gandk .u64 x_0 6148914691236517205))) 2) 3689348814741910323) + (gandk .u64 (wk .u64 ((gandk .u64 (gshr .u64 x_0 1) 6148914691236517205) + (gandk .u64 x_0 6148914691236517205))) 3689348814741910323))) 4) + (wk .u64 ((gandk .u64 (gshr .u64 (wk .u64 ((gandk .u64 (gshr .u64 x_0 1) 6148914691236517205) + (gandk .u64 x_0 6148914691236517205))) 2) 3689348814741910323) + (gandk .u64 (wk .u64 ((gandk .u64 (gshr .u64 x_0 1) 6148914691236517205) + (gandk .u64 x_0 6148914691236517205))) 3689348814741910323))))) 1085102592571150095) 8))) 16))) 32)))))) (rvk_conv (k := .u64) (k' := .i64) (a := (wk .u64 ((wk .u64 ((wk .u64 ((gandk .u64 (wk .u64 ((gshr .u64 (wk .u64 ((gandk .u64 (gshr .u64 (wk .u64 ((gandk .u64 (gshr .u64 x_0 1) 6148914691236517205) + (gandk .u64 x_0 6148914691236517205))) 2) 3689348814741910323) + (gandk .u64 (wk .u64 ((gandk .u64 (gshr .u64 x_0 1) 6148914691236517205) + (gandk .u64 x_0 6148914691236517205))) 3689348814741910323))) 4) + (wk .u64 ((gandk .u64 (gshr .u64 (wk .u64 ((gandk .u64 (gshr .u64 x_0 1) 6148914691236517205) + (gandk .u64 x_0 6148914691236517205))) 2) 3689348814741910323) + (gandk .u64 (wk .u64 ((gandk .u64 (gshr .u64 x_0 1) 6148914691236517205) + (gandk .u64 x_0 6148914691236517205))) 3689348814741910323))))) 1085102592571150095) + (gshr .u64 (gandk .u64 (wk .u64 ((gshr .u64 (wk .u64 ((gandk .u64 (gshr .u64 (wk .u64 ((gandk .u64 (gshr .u64 x_0 1) 6148914691236517205) + (gandk .u64 x_0 6148914691236517205))) 2) 3689348814741910323) + (gandk .u64 (wk .u64 ((gandk .u64 (gshr .u64 x_0 1) 6148914691236517205) + (gandk .u64 x_0 6148914691236517205))) 3689348814741910323))) 4) + (wk .u64 ((gandk .u64 (gshr .u64 (wk .u64 ((gandk .u64 (gshr .u64 x_0 1) 6148914691236517205) + (gandk .u64 x_0 6148914691236517205))) 2) 3689348814741910323) + (gandk .u64 (wk .u64 ((gandk .u64 (gshr .u64 x_0 1) 6148914691236517205) + (gandk .u64 x_0 6148914691236517205))) 3689348814741910323))))) 1085102592571150095) 8))) + (gshr .u64 (wk .u64 ((gandk .u64 (wk .u64 ((gshr .u64 (wk .u64 ((gandk .u64 (gshr .u64 (wk .u64 ((gandk .u64 (gshr .u64 x_0 1) 6148914691236517205) + (gandk .u64 x_0 6148914691236517205))) 2) 3689348814741910323) + (gandk .u64 (wk .u64 ((gandk .u64 (gshr .u64 x_0 1) 6148914691236517205) + (gandk .u64 x_0 6148914691236517205))) 3689348814741910323))) 4) + (wk .u64 ((gandk .u64 (gshr .u64 (wk .u64 ((gandk .u64 (gshr .u64 x_0 1) 6148914691236517205) + (gandk .u64 x_0 6148914691236517205))) 2) 3689348814741910323) + (gandk .u64 (wk .u64 ((gandk .u64 (gshr .u64 x_0 1) 6148914691236517205) + (gandk .u64 x_0 6148914691236517205))) 3689348814741910323))))) 1085102592571150095) + (gshr .u64 (gandk .u64 (wk .u64 ((gshr .u64 (wk .u64 ((gandk .u64 (gshr .u64 (wk .u64 ((gandk .u64 (gshr .u64 x_0 1) 6148914691236517205) + (gandk .u64 x_0 6148914691236517205))) 2) 3689348814741910323) + (gandk .u64 (wk .u64 ((gandk .u64 (gshr .u64 x_0 1) 6148914691236517205) + (gandk .u64 x_0 6148914691236517205))) 3689348814741910323))) 4) + (wk .u64 ((gandk .u64 (gshr .u64 (wk .u64 ((gandk .u64 (gshr .u64 x_0 1) 6148914691236517205) + (gandk .u64 x_0 6148914691236517205))) 2) 3689348814741910323) + (gandk .u64 (wk .u64 ((gandk .u64 (gshr .u64 x_0 1) 6148914691236517205) + (gandk .u64 x_0 6148914691236517205))) 3689348814741910323))))) 1085102592571150095) 8))) 16))) + (gshr .u64 (wk .u64 ((wk .u64 ((gandk .u64 (wk .u64 ((gshr .u64 (wk .u64 ((gandk .u64 (gshr .u64 (wk .u64 ((gandk .u64 (gshr .u64 x_0 1) 6148914691236517205) + (gandk .u64 x_0 6148914691236517205))) 2) 3689348814741910323) + (gandk .u64 (wk .u64 ((gandk .u64 (gshr .u64 x_0 1) 6148914691236517205) + (gandk .u64 x_0 6148914691236517205))) 3689348814741910323))) 4) + (wk .u64 ((gandk .u64 (gshr .u64 (wk .u64 ((gandk .u64 (gshr .u64 x_0 1) 6148914691236517205) + (gandk .u64 x_0 6148914691236517205))) 2) 3689348814741910323) + (gandk .u64 (wk .u64 ((gandk .u64 (gshr .u64 x_0 1) 6148914691236517205) + (gandk .u64 x_0 6148914691236517205))) 3689348814741910323))))) 1085102592571150095) + (gshr .u64 (gandk .u64 (wk .u64 ((gshr .u64 (wk .u64 ((gandk .u64 (gshr .u64 (wk .u64 ((gandk .u64 (gshr .u64 x_0 1) 6148914691236517205) + (gandk .u64 x_0 6148914691236517205))) 2) 3689348814741910323) + (gandk .u64 (wk .u64 ((gandk .u64 (gshr .u64 x_0 1) 6148914691236517205) + (gandk .u64 x_0 6148914691236517205))) 3689348814741910323))) 4) + (wk .u64 ((gandk .u64 (gshr .u64 (wk .u64 ((gandk .u64 (gshr .u64 x_0 1) 6148914691236517205) + (gandk .u64 x_0 6148914691236517205))) 2) 3689348814741910323) + (gandk .u64 (wk .u64 ((gandk .u64 (gshr .u64 x_0 1) 6148914691236517205) + (gandk .u64 x_0 6148914691236517205))) 3689348814741910323))))) 1085102592571150095) 8))) + (gshr .u64 (wk .u64 ((gandk .u64 (wk .u64 ((gshr .u64 (wk .u64 ((gandk .u64 (gshr .u64 (wk .u64 ((gandk .u64 (gshr .u64 x_0 1) 6148914691236517205) + (gandk .u64 x_0 6148914691236517205))) 2) 3689348814741910323) + (gandk .u64 (wk .u64 ((gandk .u64 (gshr .u64 x_0 1) 6148914691236517205) + (gandk .u64 x_0 6148914691236517205))) 3689348814741910323))) 4) + (wk .u64 ((gandk .u64 (gshr .u64 (wk .u64 ((gandk .u64 (gshr .u64 x_0 1) 6148914691236517205) + (gandk .u64 x_0 6148914691236517205))) 2) 3689348814741910323) + (gandk .u64 (wk .u64 ((gandk .u64 (gshr .u64 x_0 1) 6148914691236517205) + (gandk .u64 x_0 6148914691236517205))) 3689348814741910323))))) 1085102592571150095) + (gshr .u64 (gandk .u64 (wk .u64 ((gshr .u64 (wk .u64 ((gandk .u64 (gshr .u64 (wk .u64 ((gandk .u64 (gshr .u64 x_0 1) 6148914691236517205) + (gandk .u64 x_0 6148914691236517205))) 2) 3689348814741910323) + (gandk .u64 (wk .u64 ((gandk .u64 (gshr .u64 x_0 1) 6148914691236517205) + (gandk .u64 x_0 6148914691236517205))) 3689348814741910323))) 4) + (wk .u64 ((gandk .u64 (gshr .u64 (wk .u64 ((gandk .u64 (gshr .u64 x_0 1) 6148914691236517205) + (gandk .u64 x_0 6148914691236517205))) 2) 3689348814741910323) + (gandk .u64 (wk .u64 ((gandk .u64 (gshr .u64 x_0 1) 6148914691236517205) + (gandk .u64 x_0 6148914691236517205))) 3689348814741910323))))) 1085102592571150095) 8))) 16))) 32)))) Try.underlying93 Try.underlying3 rfl) ?_
 refine st (v := (I (gand (wk .i64 (wk .u64 ((wk .u64 ((wk .u64 ((gandk .u64 (wk .u64 ((gshr .u64 (wk .u64 ((gandk .u64 (gshr .u64 (wk .u64 ((gandk .u64 (gshr .u64 x_0 1) 6148914691236517205) + (gandk .u64 x_0 6148914691236517205))) 2) 3689348814741910323) + (gandk .u64 (wk .u64 ((gandk .u64 (gshr .u64 x_0 1) 6148914691236517205) + (gandk .u64 x_0 6148914691236517205))) 3689348814741910323))) 4) + (wk .u64 ((gandk .u64 (gshr .u64 (wk .u64 ((gandk .u64 (gshr .u64 x_0 1) 6148914691236517205) + (gandk .u64 x_0 6148914691236517205))) 2) 3689348814741910323) + (gandk .u64 (wk .u64 ((gandk .u64 (gshr .u64 x_0 1) 6148914691236517205) + (gandk .u64 x_0 6148914691236517205))) 3689348814741910323))))) 1085102592571150095) + (gshr .u64 (gandk .u64 (wk .u64 ((gshr .u64 (wk .u64 ((gandk .u64 (gshr .u64 (wk .u64 ((gandk .u64 (gshr .u64 x_0 1) 6148914691236517205) + (gandk .u64 x_0 6148914691236517205))) 2) 3689348814741910323) + (gandk .u64 (wk .u64 ((gandk .u64 (gshr .u64 x_0 1) 6148914691236517205) + (gandk .u64 x_0 6148914691236517205))) 3689348814741910323))) 4) + (wk .u64 ((gandk .u64 (gshr .u64 (wk .u64 ((gandk .u64 (gshr .u64 x_0 1) 6148914691236517205) + (gandk .u64 x_0 6148914691236517205))) 2) 3689348814741910323) + (gandk .u64 (wk .u64 ((gandk .u64 (gshr .u64 x_0 1) 6148914691236517205) + (gandk .u64 x_0 6148914691236517205))) 3689348814741910323))))) 1085102592571150095) 8))) + (gshr .u64 (wk .u64 ((gandk .u64 (wk .u64 ((gshr .u64 (wk .u64 ((gandk .u64 (gshr .u64 (wk .u64 ((gandk .u64 (gshr .u64 x_0 1) 6148914691236517205) + (gandk .u64 x_0 6148914691236517205))) 2) 3689348814741910323) + (gandk .u64 (wk .u64 ((gandk .u64 (gshr .u64 x_0 1) 6148914691236517205) + (gandk .u64 x_0 6148914691236517205))) 3689348814741910323))) 4) + (wk .u64 ((gandk .u64 (gshr .u64 (wk .u64 ((gandk .u64 (gshr .u64 x_0 1) 6148914691236517205) + (gandk .u64 x_0 6148914691236517205))) 2) 3689348814741910323) + (gandk .u64 (wk .u64 ((gandk .u64 (gshr .u64 x_0 1) 6148914691236517205) + (gandk .u64 x_0 6148914691236517205))) 3689348814741910323))))) 1085102592571150095) + (gshr .u64 (gandk .u64 (wk .u64 ((gshr .u64 (wk .u64 ((gandk .u64 (gshr .u64 (wk .u64 ((gandk .u64 (gshr .u64 x_0 1) 6148914691236517205) + (gandk .u64 x_0 6148914691236517205))) 2) 3689348814741910323) + (gandk .u64 (wk .u64 ((gandk .u64 (gshr .u64 x_0 1) 6148914691236517205) + (gandk .u64 x_0 6148914691236517205))) 3689348814741910323))) 4) + (wk .u64 ((gandk .u64 (gshr .u64 (wk .u64 ((gandk .u64 (gshr .u64 x_0 1) 6148914691236517205) + (gandk .u64 x_0 6148914691236517205))) 2) 3689348814741910323) + (gandk .u64 (wk .u64 ((gandk .u64 (gshr .u64 x_0 1) 6148914691236517205) + (gandk .u64 x_0 6148914691236517205))) 3689348814741910323))))) 1085102592571150095) 8))) 16))) + (gshr .u64 (wk .u64 ((wk .u64 ((gandk .u64 (wk .u64 ((gshr .u64 (wk .u64 ((gandk .u64 (gshr .u64 (wk .u64 ((gandk .u64 (gshr .u64 x_0 1) 6148914691236517205) + (gandk .u64 x_0 6148914691236517205))) 2) 3689348814741910323) + (gandk .u64 (wk .u64 ((gandk .u64 (gshr .u64 x_0 1) 6148914691236517205) + (gandk .u64 x_0 6148914691236517205))) 3689348814741910323))) 4) + (wk .u64 ((gandk .u64 (gshr .u64 (wk .u64 ((gandk .u64 (gshr .u64 x_0 1) 6148914691236517205) + (gandk .u64 x_0 6148914691236517205))) 2) 3689348814741910323) + (gandk .u64 (wk .u64 ((gandk .u64 (gshr .u64 x_0 1) 6148914691236517205) + (gandk .u64 x_0 6148914691236517205))) 3689348814741910323))))) 1085102592571150095) + (gshr .u64 (gandk .u64 (wk .u64 ((gshr .u64 (wk .u64 ((gandk .u64 (gshr .u64 (wk .u64 ((gandk .u64 (gshr .u64 x_0 1) 6148914691236517205) + (gandk .u64 x_0 6148914691236517205))) 2) 3689348814741910323) + (gandk .u64 (wk .u64 ((gandk .u64 (gshr .u64 x_0 1) 6148914691236517205) + (gandk .u64 x_0 6148914691236517205))) 3689348814741910323))) 4) + (wk .u64 ((gandk .u64 (gshr .u64 (wk .u64 ((gandk .u64 (gshr .u64 x_0 1) 6148914691236517205) + (gandk .u64 x_0 6148914691236517205))) 2) 3689348814741910323) + (gandk .u64 (wk .u64 ((gandk .u64 (gshr .u64 x_0 1) 6148914691236517205) + (gandk .u64 x_0 6148914691236517205))) 3689348814741910323))))) 1085102592571150095) 8))) + (gshr .u64 (wk .u64 ((gandk .u64 (wk .u64 ((gshr .u64 (wk .u64 ((gandk .u64 (gshr .u64 (wk .u64 ((gandk .u64 (gshr .u64 x_0 1) 6148914691236517205) + (gandk .u64 x_0 6148914691236517205))) 2) 3689348814741910323) + (gandk .u64 (wk .u64 ((gandk .u64 (gshr .u64 x_0 1) 6148914691236517205) + (gandk .u64 x_0 6148914691236517205))) 3689348814741910323))) 4) + (wk .u64 ((gandk .u64 (gshr .u64 (wk .u64 ((gandk .u64 (gshr .u64 x_0 1) 6148914691236517205) + (gandk .u64 x_0 6148914691236517205))) 2) 3689348814741910323) + (gandk .u64 (wk .u64 ((gandk .u64 (gshr .u64 x_0 1) 6148914691236517205) + (gandk .u64 x_0 6148914691236517205))) 3689348814741910323))))) 1085102592571150095) + (gshr .u64 (gandk .u64 (wk .u64 ((gshr .u64 (wk .u64 ((gandk .u64 (gshr .u64 (wk .u64 ((gandk .u64 (gshr .u64 x_0 1) 6148914691236517205) + (gandk .u64 x_0 6148914691236517205))) 2) 3689348814741910323) + (gandk .u64 (wk .u64 ((gandk .u64 (gshr .u64 x_0 1) 6148914691236517205) + (gandk .u64 x_0 6148914691236517205))) 3689348814741910323))) 4) + (wk .u64 ((gandk .u64 (gshr .u64 (wk .u64 ((gandk .u64 (gshr .u64 x_0 1) 6148914691236517205) + (gandk .u64 x_0 6148914691236517205))) 2) 3689348814741910323) + (gandk .u64 (wk .u64 ((gandk .u64 (gshr .u64 x_0 1) 6148914691236517205) + (gandk .u64 x_0 6148914691236517205))) 3689348814741910323))))) 1085102592571150095) 8))) 16))) 32)))) 127))) (rv_and (a := (wk .i64 (wk .u64 ((wk .u64 ((wk .u64 ((gandk .u64 (wk .u64 ((gshr .u64 (wk .u64 ((gandk .u64 (gshr .u64 (wk .u64 ((gandk .u64 (gshr .u64 x_0 1) 6148914691236517205) + (gandk .u64 x_0 6148914691236517205))) 2) 3689348814741910323) + (gandk .u64 (wk .u64 ((gandk .u64 (gshr .u64 x_0 1) 6148914691236517205) + (gandk .u64 x_0 6148914691236517205))) 3689348814741910323))) 4) + (wk .u64 ((gandk .u64 (gshr .u64 (wk .u64 ((gandk .u64 (gshr .u64 x_0 1) 6148914691236517205) + (gandk .u64 x_0 6148914691236517205))) 2) 3689348814741910323) + (gandk .u64 (wk .u64 ((gandk .u64 (gshr .u64 x_0 1) 6148914691236517205) + (gandk .u64 x_0 6148914691236517205))) 3689348814741910323))))) 1085102592571150095) + (gshr .u64 (gandk .u64 (wk .u64 ((gshr .u64 (wk .u64 ((gandk .u64 (gshr .u64 (wk .u64 ((gandk .u64 (gshr .u64 x_0 1) 6148914691236517205) + (gandk .u64 x_0 6148914691236517205))) 2) 3689348814741910323) + (gandk .u64 (wk .u64 ((gandk .u64 (gshr .u64 x_0 1) 6148914691236517205) + (gandk .u64 x_0 6148914691236517205))) 3689348814741910323))) 4) + (wk .u64 ((gandk .u64 (gshr .u64 (wk .u64 ((gandk .u64 (gshr .u64 x_0 1) 6148914691236517205) + (gandk .u64 x_0 6148914691236517205))) 2) 3689348814741910323) + (gandk .u64 (wk .u64 ((gandk .u64 (gshr .u64 x_0 1) 6148914691236517205) + (gandk .u64 x_0 6148914691236517205))) 3689348814741910323))))) 1085102592571150095) 8))) + (gshr .u64 (wk .u64 ((gandk .u64 (wk .u64 ((gshr .u64 (wk .u64 ((gandk .u64 (gshr .u64 (wk .u64 ((gandk .u64 (gshr .u64 x_0 1) 6148914691236517205) + (gandk .u64 x_0 6148914691236517205))) 2) 3689348814741910323) + (gandk .u64 (wk .u64 ((gandk .u64 (gshr .u64 x_0 1) 6148914691236517205) + (gandk .u64 x_0 6148914691236517205))) 3689348814741910323))) 4) + (wk .u64 ((gandk .u64 (gshr .u64 (wk .u64 ((gandk .u64 (gshr .u64 x_0 1) 6148914691236517205) + (gandk .u64 x_0 6148914691236517205))) 2) 3689348814741910323) + (gandk .u64 (wk .u64 ((gandk .u64 (gshr .u64 x_0 1) 6148914691236517205) + (gandk .u64 x_0 6148914691236517205))) 3689348814741910323))))) 1085102592571150095) + (gshr .u64 (gandk .u64 (wk .u64 ((gshr .u64 (wk .u64 ((gandk .u64 (gshr .u64 (wk .u64 ((gandk .u64 (gshr .u64 x_0 1) 6148914691236517205) + (gandk .u64 x_0 6148914691236517205))) 2) 3689348814741910323) + (gandk .u64 (wk .u64 ((gandk .u64 (gshr .u64 x_0 1) 6148914691236517205) + (gandk .u64 x_0 6148914691236517205))) 3689348814741910323))) 4) + (wk .u64 ((gandk .u64 (gshr .u64 (wk .u64 ((gandk .u64 (gshr .u64 x_0 1) 6148914691236517205) + (gandk .u64 x_0 6148914691236517205))) 2) 3689348814741910323) + (gandk .u64 (wk .u64 ((gandk .u64 (gshr .u64 x_0 1) 6148914691236517205) + (gandk .u64 x_0 6148914691236517205))) 3689348814741910323))))) 1085102592571150095) 8))) 16))) + (gshr .u64 (wk .u64 ((wk .u64 ((gandk .u64 (wk .u64 ((gshr .u64 (wk .u64 ((gandk .u64 (gshr .u64 (wk .u64 ((gandk .u64 (gshr .u64 x_0 1) 6148914691236517205) + (gandk .u64 x_0 6148914691236517205))) 2) 3689348814741910323) + (gandk .u64 (wk .u64 ((gandk .u64 (gshr .u64 x_0 1) 6148914691236517205) + (gandk .u64 x_0 6148914691236517205))) 3689348814741910323))) 4) + (wk .u64 ((gandk .u64 (gshr .u64 (wk .u64 ((gandk .u64 (gshr .u64 x_0 1) 6148914691236517205) + (gandk .u64 x_0 6148914691236517205))) 2) 3689348814741910323) + (gandk .u64 (wk .u64 ((gandk .u64 (gshr .u64 x_0 1) 6148914691236517205) + (gandk .u64 x_0 6148914691236517205))) 3689348814741910323))))) 1085102592571150095) + (gshr .u64 (gandk .u64 (wk .u64 ((gshr .u64 (wk .u64 ((gandk .u64 (gshr .u64 (wk .u64 ((gandk .u64 (gshr .u64 x_0 1) 6148914691236517205) + (gandk .u64 x_0 6148914691236517205))) 2) 3689348814741910323) + (gandk .u64 (wk .u64 ((gandk .u64 (gshr .u64 x_0 1) 6148914691236517205) + (gandk .u64 x_0 6148914691236517205))) 3689348814741910323))) 4) + (wk .u64 ((gandk .u64 (gshr .u64 (wk .u64 ((gandk .u64 (gshr .u64 x_0 1) 6148914691236517205) + (gandk .u64 x_0 6148914691236517205))) 2) 3689348814741910323) + (gandk .u64 (wk .u64 ((gandk .u64 (gshr .u64 x_0 1) 6148914691236517205) + (gandk .u64 x_0 6148914691236517205))) 3689348814741910323))))) 1085102592571150095) 8))) + (gshr .u64 (wk .u64 ((gandk .u64 (wk .u64 ((gshr .u64 (wk .u64 ((gandk .u64 (gshr .u64 (wk .u64 ((gandk .u64 (gshr .u64 x_0 1) 6148914691236517205) + (gandk .u64 x_0 6148914691236517205))) 2) 3689348814741910323) + (gandk .u64 (wk .u64 ((gandk .u64 (gshr .u64 x_0 1) 6148914691236517205) + (gandk .u64 x_0 6148914691236517205))) 3689348814741910323))) 4) + (wk .u64 ((gandk .u64 (gshr .u64 (wk .u64 ((gandk .u64 (gshr .u64 x_0 1) 6148914691236517205) + (gandk .u64 x_0 6148914691236517205))) 2) 3689348814741910323) + (gandk .u64 (wk .u64 ((gandk .u64 (gshr .u64 x_0 1) 6148914691236517205) + (gandk .u64 x_0 6148914691236517205))) 3689348814741910323))))) 1085102592571150095) + (gshr .u64 (gandk .u64 (wk .u64 ((gshr .u64 (wk .u64 ((gandk .u64 (gshr .u64 (wk .u64 ((gandk .u64 (gshr .u64 x_0 1) 6148914691236517205) + (gandk .u64 x_0 6148914691236517205))) 2) 3689348814741910323) + (gandk .u64 (wk .u64 ((gandk .u64 (gshr .u64 x_0 1) 6148914691236517205) + (gandk .u64 x_0 6148914691236517205))) 3689348814741910323))) 4) + (wk .u64 ((gandk .u64 (gshr .u64 (wk .u64 ((gandk .u64 (gshr .u64 x_0 1) 6148914691236517205) + (gandk .u64 x_0 6148914691236517205))) 2) 3689348814741910323) + (gandk .u64 (wk .u64 ((gandk .u64 (gshr .u64 x_0 1) 6148914691236517205) + (gandk .u64 x_0 6148914691236517205))) 3689348814741910323))))) 1085102592571150095) 8))) 16))) 32))))) (b := 127) rfl rfl) ?_
 refine st (v := (I (gand (wk .i64 (wk .u64 ((wk .u64 ((wk .u64 ((gandk .u64 (wk .u64 ((gshr .u64 (wk .u64 ((gandk .u64 (gshr .u64 (wk .u64 ((gandk .u64 (gshr .u64 x_0 1) 6148914691236517205) + (gandk .u64 x_0 6148914691236517205))) 2) 3689348814741910323) + (gandk .u64 (wk .u64 ((gandk .u64 (gshr .u64 x_0 1) 6148914691236517205) + (gandk .u64 x_0 6148914691236517205))) 3689348814741910323))) 4) + (wk .u64 ((gandk .u64 (gshr .u64 (wk .u64 ((gandk .u64 (gshr .u64 x_0 1) 6148914691236517205) + (gandk .u64 x_0 6148914691236517205))) 2) 3689348814741910323) + (gandk .u64 (wk .u64 ((gandk .u64 (gshr .u64 x_0 1) 6148914691236517205) + (gandk .u64 x_0 6148914691236517205))) 3689348814741910323))))) 1085102592571150095) + (gshr .u64 (gandk .u64 (wk .u64 ((gshr .u64 (wk .u64 ((gandk .u64 (gshr .u64 (wk .u64 ((gandk .u64 (gshr .u64 x_0 1) 6148914691236517205) + (gandk .u64 x_0 6148914691236517205))) 2) 3689348814741910323) + (gandk .u64 (wk .u64 ((gandk .u64 (gshr .u64 x_0 1) 6148914691236517205) + (gandk .u64 x_0 6148914691236517205))) 3689348814741910323))) 4) + (wk .u64 ((gandk .u64 (gshr .u64 (wk .u64 ((gandk .u64 (gshr .u64 x_0 1) 6148914691236517205) + (gandk .u64 x_0 6148914691236517205))) 2) 3689348814741910323) + (gandk .u64 (wk .u64 ((gandk .u64 (gshr .u64 x_0 1) 6148914691236517205) + (gandk .u64 x_0 6148914691236517205))) 3689348814741910323))))) 1085102592571150095) 8))) + (gshr .u64 (wk .u64 ((gandk .u64 (wk .u64 ((gshr .u64 (wk .u64 ((gandk .u64 (gshr .u64 (wk .u64 ((gandk .u64 (gshr .u64 x_0 1) 6148914691236517205) + (gandk .u64 x_0 6148914691236517205))) 2) 3689348814741910323) + (gandk .u64 (wk .u64 ((gandk .u64 (gshr .u64 x_0 1) 6148914691236517205) + (gandk .u64 x_0 6148914691236517205))) 3689348814741910323))) 4) + (wk .u64 ((gandk .u64 (gshr .u64 (wk .u64 ((gandk .u64 (gshr .u64 x_0 1) 6148914691236517205) + (gandk .u64 x_0 6148914691236517205))) 2) 3689348814741910323) + (gandk .u64 (wk .u64 ((gandk .u64 (gshr .u64 x_0 1) 6148914691236517205) + (gandk .u64 x_0 6148914691236517205))) 3689348814741910323))))) 1085102592571150095) + (gshr .u64 (gandk .u64 (wk .u64 ((gshr .u64 (wk .u64 ((gandk .u64 (gshr .u64 (wk .u64 ((gandk .u64 (gshr .u64 x_0 1) 6148914691236517205) + (gandk .u64 x_0 6148914691236517205))) 2) 3689348814741910323) + (gandk .u64 (wk .u64 ((gandk .u64 (gshr .u64 x_0 1) 6148914691236517205) + (gandk .u64 x_0 6148914691236517205))) 3689348814741910323))) 4) + (wk .u64 ((gandk .u64 (gshr .u64 (wk .u64 ((gandk .u64 (gshr .u64 x_0 1) 6148914691236517205) + (gandk .u64 x_0 6148914691236517205))) 2) 3689348814741910323) + (gandk .u64 (wk .u64 ((gandk .u64 (gshr .u64 x_0 1) 6148914691236517205) + (gandk .u64 x_0 6148914691236517205))) 3689348814741910323))))) 1085102592571150095) 8))) 16))) + (gshr .u64 (wk .u64 ((wk .u64 ((gandk .u64 (wk .u64 ((gshr .u64 (wk .u64 ((gandk .u64 (gshr .u64 (wk .u64 ((gandk .u64 (gshr .u64 x_0 1) 6148914691236517205) + (gandk .u64 x_0 6148914691236517205))) 2) 3689348814741910323) + (gandk .u64 (wk .u64 ((gandk .u64 (gshr .u64 x_0 1) 6148914691236517205) + (gandk .u64 x_0 6148914691236517205))) 3689348814741910323))) 4) + (wk .u64 ((gandk .u64 (gshr .u64 (wk .u64 ((gandk .u64 (gshr .u64 x_0 1) 6148914691236517205) + (gandk .u64 x_0 6148914691236517205))) 2) 3689348814741910323) + (gandk .u64 (wk .u64 ((gandk .u64 (gshr .u64 x_0 1) 6148914691236517205) + (gandk .u64 x_0 6148914691236517205))) 3689348814741910323))))) 1085102592571150095) + (gshr .u64 (gandk .u64 (wk .u64 ((gshr .u64 (wk .u64 ((gandk .u64 (gshr .u64 (wk .u64 ((gandk .u64 (gshr .u64 x_0 1) 6148914691236517205) + (gandk .u64 x_0 6148914691236517205))) 2) 3689348814741910323) + (gandk .u64 (wk .u64 ((gandk .u64 (gshr .u64 x_0 1) 6148914691236517205) + (gandk .u64 x_0 6148914691236517205))) 3689348814741910323))) 4) + (wk .u64 ((gandk .u64 (gshr .u64 (wk .u64 ((gandk .u64 (gshr .u64 x_0 1) 6148914691236517205) + (gandk .u64 x_0 6148914691236517205))) 2) 3689348814741910323) + (gandk .u64 (wk .u64 ((gandk .u64 (gshr .u64 x_0 1) 6148914691236517205) + (gandk .u64 x_0 6148914691236517205))) 3689348814741910323))))) 1085102592571150095) 8))) + (gshr .u64 (wk .u64 ((gandk .u64 (wk .u64 ((gshr .u64 (wk .u64 ((gandk .u64 (gshr .u64 (wk .u64 ((gandk .u64 (gshr .u64 x_0 1) 6148914691236517205) + (gandk .u64 x_0 6148914691236517205))) 2) 3689348814741910323) + (gandk .u64 (wk .u64 ((gandk .u64 (gshr .u64 x_0 1) 6148914691236517205) + (gandk .u64 x_0 6148914691236517205))) 3689348814741910323))) 4) + (wk .u64 ((gandk .u64 (gshr .u64 (wk .u64 ((gandk .u64 (gshr .u64 x_0 1) 6148914691236517205) + (gandk .u64 x_0 6148914691236517205))) 2) 3689348814741910323) + (gandk .u64 (wk .u64 ((gandk .u64 (gshr .u64 x_0 1) 6148914691236517205) + (gandk .u64 x_0 6148914691236517205))) 3689348814741910323))))) 1085102592571150095) + (gshr .u64 (gandk .u64 (wk .u64 ((gshr .u64 (wk .u64 ((gandk .u64 (gshr .u64 (wk .u64 ((gandk .u64 (gshr .u64 x_0 1) 6148914691236517205) + (gandk .u64 x_0 6148914691236517205))) 2) 3689348814741910323) + (gandk .u64 (wk .u64 ((gandk .u64 (gshr .u64 x_0 1) 6148914691236517205) + (gandk .u64 x_0 6148914691236517205))) 3689348814741910323))) 4) + (wk .u64 ((gandk .u64 (gshr .u64 (wk .u64 ((gandk .u64 (gshr .u64 x_0 1) 6148914691236517205) + (gandk .u64 x_0 6148914691236517205))) 2) 3689348814741910323) + (gandk .u64 (wk .u64 ((gandk .u64 (gshr .u64 x_0 1) 6148914691236517205) + (gandk .u64 x_0 6148914691236517205))) 3689348814741910323))))) 1085102592571150095) 8))) 16))) 32)))) 127))) (rv_assign rfl) ?_
 refine w_end ?_
 refine q_then ?_
 refine c_ret ?_
 obtain rfl := Option.some.inj h
 exact fin_ret (v := (I (gand (wk .i64 (wk .u64 ((wk .u64 ((wk .u64 ((gandk .u64 (wk .u64 ((gshr .u64 (wk .u64 ((gandk .u64 (gshr .u64 (wk .u64 ((gandk .u64 (gshr .u64 x_0 1) 6148914691236517205) + (gandk .u64 x_0 6148914691236517205))) 2) 3689348814741910323) + (gandk .u64 (wk .u64 ((gandk .u64 (gshr .u64 x_0 1) 6148914691236517205) + (gandk .u64 x_0 6148914691236517205))) 3689348814741910323))) 4) + (wk .u64 ((gandk .u64 (gshr .u64 (wk .u64 ((gandk .u64 (gshr .u64 x_0 1) 6148914691236517205) + (gandk .u64 x_0 6148914691236517205))) 2) 3689348814741910323) + (gandk .u64 (wk .u64 ((gandk .u64 (gshr .u64 x_0 1) 6148914691236517205) + (gandk .u64 x_0 6148914691236517205))) 3689348814741910323))))) 1085102592571150095) + (gshr .u64 (gandk .u64 (wk .u64 ((gshr .u64 (wk .u64 ((gandk .u64 (gshr .u64 (wk .u64 ((gandk .u64 (gshr .u64 x_0 1) 6148914691236517205) + (gandk .u64 x_0 6148914691236517205))) 2) 3689348814741910323) + (gandk .u64 (wk .u64 ((gandk .u64 (gshr .u64 x_0 1) 6148914691236517205) + (gandk .u64 x_0 6148914691236517205))) 3689348814741910323))) 4) + (wk .u64 ((gandk .u64 (gshr .u64 (wk .u64 ((gandk .u64 (gshr .u64 x_0 1) 6148914691236517205) + (gandk .u64 x_0 6148914691236517205))) 2) 3689348814741910323) + (gandk .u64 (wk .u64 ((gandk .u64 (gshr .u64 x_0 1) 6148914691236517205) + (gandk .u64 x_0 6148914691236517205))) 3689348814741910323))))) 1085102592571150095) 8))) + (gshr .u64 (wk .u64 ((gandk .u64 (wk .u64 ((gshr .u64 (wk .u64 ((gandk .u64 (gshr .u64 (wk .u64 ((gandk .u64 (gshr .u64 x_0 1) 6148914691236517205) + (gandk .u64 x_0 6148914691236517205))) 2) 3689348814741910323) + (gandk .u64 (wk .u64 ((gandk .u64 (gshr .u64 x_0 1) 6148914691236517205) + (gandk .u64 x_0 6148914691236517205))) 3689348814741910323))) 4) + (wk .u64 ((gandk .u64 (gshr .u64 (wk .u64 ((gandk .u64 (gshr .u64 x_0 1) 6148914691236517205) + (gandk .u64 x_0 6148914691236517205))) 2) 3689348814741910323) + (gandk .u64 (wk .u64 ((gandk .u64 (gshr .u64 x_0 1) 6148914691236517205) + (gandk .u64 x_0 6148914691236517205))) 3689348814741910323))))) 1085102592571150095) + (gshr .u64 (gandk .u64 (wk .u64 ((gshr .u64 (wk .u64 ((gandk .u64 (gshr .u64 (wk .u64 ((gandk .u64 (gshr .u64 x_0 1) 6148914691236517205) + (gandk .u64 x_0 6148914691236517205))) 2) 3689348814741910323) + (gandk .u64 (wk .u64 ((gandk .u64 (gshr .u64 x_0 1) 6148914691236517205) + (gandk .u64 x_0 6148914691236517205))) 3689348814741910323))) 4) + (wk .u64 ((gandk .u64 (gshr .u64 (wk .u64 ((gandk .u64 (gshr .u64 x_0 1) 6148914691236517205) + (gandk .u64 x_0 6148914691236517205))) 2) 3689348814741910323) + (gandk .u64 (wk .u64 ((gandk .u64 (gshr .u64 x_0 1) 6148914691236517205) + (gandk .u64 x_0 6148914691236517205))) 3689348814741910323))))) 1085102592571150095) 8))) 16))) + (gshr .u64 (wk .u64 ((wk .u64 ((gandk .u64 (wk .u64 ((gshr .u64 (wk .u64 ((gandk .u64 (gshr .u64 (wk .u64 ((gandk .u64 (gshr .u64 x_0 1) 6148914691236517205) + (gandk .u64 x_0 6148914691236517205))) 2) 3689348814741910323) + (gandk .u64 (wk .u64 ((gandk .u64 (gshr .u64 x_0 1) 6148914691236517205) + (gandk .u64 x_0 6148914691236517205))) 3689348814741910323))) 4) + (wk .u64 ((gandk .u64 (gshr .u64 (wk .u64 ((gandk .u64 (gshr .u64 x_0 1) 6148914691236517205) + (gandk .u64 x_0 6148914691236517205))) 2) 3689348814741910323) + (gandk .u64 (wk .u64 ((gandk .u64 (gshr .u64 x_0 1) 6148914691236517205) + (gandk .u64 x_0 6148914691236517205))) 3689348814741910323))))) 1085102592571150095) + (gshr .u64 (gandk .u64 (wk .u64 ((gshr .u64 (wk .u64 ((gandk .u64 (gshr .u64 (wk .u64 ((gandk .u64 (gshr .u64 x_0 1) 6148914691236517205) + (gandk .u64 x_0 6148914691236517205))) 2) 3689348814741910323) + (gandk .u64 (wk .u64 ((gandk .u64 (gshr .u64 x_0 1) 6148914691236517205) + (gandk .u64 x_0 6148914691236517205))) 3689348814741910323))) 4) + (wk .u64 ((gandk .u64 (gshr .u64 (wk .u64 ((gandk .u64 (gshr .u64 x_0 1) 6148914691236517205) + (gandk .u64 x_0 6148914691236517205))) 2) 3689348814741910323) + (gandk .u64 (wk .u64 ((gandk .u64 (gshr .u64 x_0 1) 6148914691236517205) + (gandk .u64 x_0 6148914691236517205))) 3689348814741910323))))) 1085102592571150095) 8))) + (gshr .u64 (wk .u64 ((gandk .u64 (wk .u64 ((gshr .u64 (wk .u64 ((gandk .u64 (gshr .u64 (wk .u64 ((gandk .u64 (gshr .u64 x_0 1) 6148914691236517205) + (gandk .u64 x_0 6148914691236517205))) 2) 3689348814741910323) + (gandk .u64 (wk .u64 ((gandk .u64 (gshr .u64 x_0 1) 6148914691236517205) + (gandk .u64 x_0 6148914691236517205))) 3689348814741910323))) 4) + (wk .u64 ((gandk .u64 (gshr .u64 (wk .u64 ((gandk .u64 (gshr .u64 x_0 1) 6148914691236517205) + (gandk .u64 x_0 6148914691236517205))) 2) 3689348814741910323) + (gandk .u64 (wk .u64 ((gandk .u64 (gshr .u64 x_0 1) 6148914691236517205) + (gandk .u64 x_0 6148914691236517205))) 3689348814741910323))))) 1085102592571150095) + (gshr .u64 (gandk .u64 (wk .u64 ((gshr .u64 (wk .u64 ((gandk .u64 (gshr .u64 (wk .u64 ((gandk .u64 (gshr .u64 x_0 1) 6148914691236517205) + (gandk .u64 x_0 6148914691236517205))) 2) 3689348814741910323) + (gandk .u64 (wk .u64 ((gandk .u64 (gshr .u64 x_0 1) 6148914691236517205) + (gandk .u64 x_0 6148914691236517205))) 3689348814741910323))) 4) + (wk .u64 ((gandk .u64 (gshr .u64 (wk .u64 ((gandk .u64 (gshr .u64 x_0 1) 6148914691236517205) + (gandk .u64 x_0 6148914691236517205))) 2) 3689348814741910323) + (gandk .u64 (wk .u64 ((gandk .u64 (gshr .u64 x_0 1) 6148914691236517205) + (gandk .u64 x_0 6148914691236517205))) 3689348814741910323))))) 1085102592571150095) 8))) 16))) 32)))) 127))) (results_ok Try.results75 (res_tmp (v := (I (gand (wk .i64 (wk .u64 ((wk .u64 ((wk .u64 ((gandk .u64 (wk .u64 ((gshr .u64 (wk .u64 ((gandk .u64 (gshr .u64 (wk .u64 ((gandk .u64 (gshr .u64 x_0 1) 6148914691236517205) + (gandk .u64 x_0 6148914691236517205))) 2) 3689348814741910323) + (gandk .u64 (wk .u64 ((gandk .u64 (gshr .u64 x_0 1) 6148914691236517205) + (gandk .u64 x_0 6148914691236517205))) 3689348814741910323))) 4) + (wk .u64 ((gandk .u64 (gshr .u64 (wk .u64 ((gandk .u64 (gshr .u64 x_0 1) 6148914691236517205) + (gandk .u64 x_0 6148914691236517205))) 2) 3689348814741910323) + (gandk .u64 (wk .u64 ((gandk .u64 (gshr .u64 x_0 1) 6148914691236517205) + (gandk .u64 x_0 6148914691236517205))) 3689348814741910323))))) 1085102592571150095) + (gshr .u64 (gandk .u64 (wk .u64 ((gshr .u64 (wk .u64 ((gandk .u64 (gshr .u64 (wk .u64 ((gandk .u64 (gshr .u64 x_0 1) 6148914691236517205) + (gandk .u64 x_0 6148914691236517205))) 2) 3689348814741910323) + (gandk .u64 (wk .u64 ((gandk .u64 (gshr .u64 x_0 1) 6148914691236517205) + (gandk .u64 x_0 6148914691236517205))) 3689348814741910323))) 4) + (wk .u64 ((gandk .u64 (gshr .u64 (wk .u64 ((gandk .u64 (gshr .u64 x_0 1) 6148914691236517205) + (gandk .u64 x_0 6148914691236517205))) 2) 3689348814741910323) + (gandk .u64 (wk .u64 ((gandk .u64 (gshr .u64 x_0 1) 6148914691236517205) + (gandk .u64 x_0 6148914691236517205))) 3689348814741910323))))) 1085102592571150095) 8))) + (gshr .u64 (wk .u64 ((gandk .u64 (wk .u64 ((gshr .u64 (wk .u64 ((gandk .u64 (gshr .u64 (wk .u64 ((gandk .u64 (gshr .u64 x_0 1) 6148914691236517205) + (gandk .u64 x_0 6148914691236517205))) 2) 3689348814741910323) + (gandk .u64 (wk .u64 ((gandk .u64 (gshr .u64 x_0 1) 6148914691236517205) + (gandk .u64 x_0 6148914691236517205))) 3689348814741910323))) 4) + (wk .u64 ((gandk .u64 (gshr .u64 (wk .u64 ((gandk .u64 (gshr .u64 x_0 1) 6148914691236517205) + (gandk .u64 x_0 6148914691236517205))) 2) 3689348814741910323) + (gandk .u64 (wk .u64 ((gandk .u64 (gshr .u64 x_0 1) 6148914691236517205) + (gandk .u64 x_0 6148914691236517205))) 3689348814741910323))))) 1085102592571150095) + (gshr .u64 (gandk .u64 (wk .u64 ((gshr .u64 (wk .u64 ((gandk .u64 (gshr .u64 (wk .u64 ((gandk .u64 (gshr .u64 x_0 1) 6148914691236517205) + (gandk .u64 x_0 6148914691236517205))) 2) 3689348814741910323) + (gandk .u64 (wk .u64 ((gandk .u64 (gshr .u64 x_0 1) 6148914691236517205) + (gandk .u64 x_0 6148914691236517205))) 3689348814741910323))) 4) + (wk .u64 ((gandk .u64 (gshr .u64 (wk .u64 ((gandk .u64 (gshr .u64 x_0 1) 6148914691236517205) + (gandk .u64 x_0 6148914691236517205))) 2) 3689348814741910323) + (gandk .u64 (wk .u64 ((gandk .u64 (gshr .u64 x_0 1) 6148914691236517205) + (gandk .u64 x_0 6148914691236517205))) 3689348814741910323))))) 1085102592571150095) 8))) 16))) + (gshr .u64 (wk .u64 ((wk .u64 ((gandk .u64 (wk .u64 ((gshr .u64 (wk .u64 ((gandk .u64 (gshr .u64 (wk .u64 ((gandk .u64 (gshr .u64 x_0 1) 6148914691236517205) + (gandk .u64 x_0 6148914691236517205))) 2) 3689348814741910323) + (gandk .u64 (wk .u64 ((gandk .u64 (gshr .u64 x_0 1) 6148914691236517205) + (gandk .u64 x_0 6148914691236517205))) 3689348814741910323))) 4) + (wk .u64 ((gandk .u64 (gshr .u64 (wk .u64 ((gandk .u64 (gshr .u64 x_0 1) 6148914691236517205) + (gandk .u64 x_0 6148914691236517205))) 2) 3689348814741910323) + (gandk .u64 (wk .u64 ((gandk .u64 (gshr .u64 x_0 1) 6148914691236517205) + (gandk .u64 x_0 6148914691236517205))) 3689348814741910323))))) 1085102592571150095) + (gshr .u64 (gandk .u64 (wk .u64 ((gshr .u64 (wk .u64 ((gandk .u64 (gshr .u64 (wk .u64 ((gandk .u64 (gshr .u64 x_0 1) 6148914691236517205) + (gandk .u64 x_0 6148914691236517205))) 2) 3689348814741910323) + (gandk .u64 (wk .u64 ((gandk .u64 (gshr .u64 x_0 1) 6148914691236517205) + (gandk .u64 x_0 6148914691236517205))) 3689348814741910323))) 4) + (wk .u64 ((gandk .u64 (gshr .u64 (wk .u64 ((gandk .u64 (gshr .u64 x_0 1) 6148914691236517205) + (gandk .u64 x_0 6148914691236517205))) 2) 3689348814741910323) + (gandk .u64 (wk .u64 ((gandk .u64 (gshr .u64 x_0 1) 6148914691236517205) + (gandk .u64 x_0 6148914691236517205))) 3689348814741910323))))) 1085102592571150095) 8))) + (gshr .u64 (wk .u64 ((gandk .u64 (wk .u64 ((gshr .u64 (wk .u64 ((gandk .u64 (gshr .u64 (wk .u64 ((gandk .u64 (gshr .u64 x_0 1) 6148914691236517205) + (gandk .u64 x_0 6148914691236517205))) 2) 3689348814741910323) + (gandk .u64 (wk .u64 ((gandk .u64 (gshr .u64 x_0 1) 6148914691236517205) + (gandk .u64 x_0 6148914691236517205))) 3689348814741910323))) 4) + (wk .u64 ((gandk .u64 (gshr .u64 (wk .u64 ((gandk .u64 (gshr .u64 x_0 1) 6148914691236517205) + (gandk .u64 x_0 6148914691236517205))) 2) 3689348814741910323) + (gandk .u64 (wk .u64 ((gandk .u64 (gshr .u64 x_0 1) 6148914691236517205) + (gandk .u64 x_0 6148914691236517205))) 3689348814741910323))))) 1085102592571150095) + (gshr .u64 (gandk .u64 (wk .u64 ((gshr .u64 (wk .u64 ((gandk .u64 (gshr .u64 (wk .u64 ((gandk .u64 (gshr .u64 x_0 1) 6148914691236517205) + (gandk .u64 x_0 6148914691236517205))) 2) 3689348814741910323) + (gandk .u64 (wk .u64 ((gandk .u64 (gshr .u64 x_0 1) 6148914691236517205) + (gandk .u64 x_0 6148914691236517205))) 3689348814741910323))) 4) + (wk .u64 ((gandk .u64 (gshr .u64 (wk .u64 ((gandk .u64 (gshr .u64 x_0 1) 6148914691236517205) + (gandk .u64 x_0 6148914691236517205))) 2) 3689348814741910323) + (gandk .u64 (wk .u64 ((gandk .u64 (gshr .u64 x_0 1) 6148914691236517205) + (gandk .u64 x_0 6148914691236517205))) 3689348814741910323))))) 1085102592571150095) 8))) 16))) 32)))) 127))) rfl res_nil) rfl) ⟨rfl, rfl⟩ (H.sel' [] rfl rfl)

theorem c_math_bits_OnesCount {x_0 : Int}  {r : Int} (h : M.math_bits_OnesCount x_0 = some r) :
    Cal2 Try.prog 45 [(.int .u64 x_0)] [] (fun n0 v L => v = (I r) ∧ L = []) := by
 refine cal2 (n := 8) Try.func45 rfl rfl rfl rfl ?_
 intro S0 σ0 n0 hn0 H
 unfold M.math_bits_OnesCount at h
 refine c_seq ?_
 refine rg ?_
 refine st (v := (I 0)) (rv_assign rfl) ?_
 refine w_end ?_
 refine q_then ?_
 refine c_seq ?_
 refine cd_false rfl ?_
 refine c_skip ?_
 refine q_then ?_
 refine c_seq ?_
 refine rg ?_
 refine st (v := (.int .u64 x_0)) (rv_move rfl) ?_
 obtain ⟨r1, hx2, h'⟩ := bind_some h
 clear h
 have h := h'; clear h'
 have hc3 := c_math_bits_OnesCount64 hx2
 refine st_call (cx_call hc3 (ent_f hc3.fn rfl) hn0 (show Hp S0 σ0 _ ([] ++ []) from (H.sel' [] rfl rfl))) wn ?_
 rintro _ σ4 ⟨_, ⟨rfl, rfl⟩, H, -⟩
 replace H : Hp S0 σ0 σ4 [] := H
 refine st (v := (I r1)) (rv_assign rfl) ?_
 refine w_end ?_
 refine q_then ?_
 refine c_ret ?_
 obtain rfl := Option.some.inj h
 exact fin_ret (v := (I r1)) (results_ok Try.results45 (res_tmp (v := (I r1)) rfl res_nil) rfl) ⟨rfl, rfl⟩ (H.sel' [] rfl rfl)

theorem c_impl_BitsApart {a_0 : Int} {b_1 : Int}  {r : Int} (h : M.impl_BitsApart a_0 b_1 = some r) :
    Cal2 Try.prog 15 [(I a_0), (I b_1)] [] (fun n0 v L => v = (I r) ∧ L = []) := by
 refine cal2 (n := 18) Try.func15 rfl rfl rfl rfl ?_
 intro S0 σ0 n0 hn0 H
 unfold M.impl_BitsApart at h
 refine c_seq ?_
 refine rg ?_
 refine st (v := (I 0)) (rv_assign rfl) ?_
 refine w_end ?_
 refine q_then ?_
 refine c_seq ?_
 refine c_seq ?_
 obtain ⟨o1, hj, h'⟩ := bind_some h
 clear h
 refine c_cut (fun e a w => e = .normal ∧ ∃ (ρ : Nat → Value) (σ : St), a = fr 18 (updL ρ [(0, (I a_0)), (1, (I b_1)), (12, (B o1))]) ∧ w = σ.w ∧ Hp S0 σ0 σ []) ?_ ?_
 ·clear h'
  rename _ = some o1 => h
  refine rg ?_
  refine st (v := (I a_0)) (rv_move rfl) ?_
  obtain ⟨r2, hx3, h'⟩ := bind_some h
  clear h
  have h := h'; clear h'
  have hc4 := c_impl_validHash hx3
  refine st_call (cx_call hc4 (ent_f hc4.fn rfl) hn0 (show Hp S0 σ0 _ ([] ++ []) from (H.sel' [] rfl rfl))) wn ?_
  rintro _ σ5 ⟨_, ⟨rfl, rfl⟩, H, -⟩
  replace H : Hp S0 σ0 σ5 [] := H
  refine st (v := (B (!r2))) (rv_not rfl) ?_
  refine st (v := (B (!r2))) (rv_move rfl) ?_
  rcases Bool.eq_false_or_eq_true (!r2) with hb6 | hb6
  ·replace h := bif_t hb6 h
   refine st_skip (congrArg some hb6) ?_
   refine st_skip (congrArg some hb6) ?_
   refine st_skip (congrArg some hb6) ?_
   refine st (v := (B true)) (rv_pick_t (congrArg B hb6) rfl) ?_
   refine w_end ?_
   obtain rfl := Option.some.inj h
   exact ⟨rfl, _, σ5, fr_join ⟨rfl, rfl, rfl, trivial⟩, rfl, H.sel' [] rfl rfl⟩
  ·replace h := bif_f hb6 h
   refine st_g (v := (I b_1)) (congrArg some hb6) (rv_move rfl) ?_
   obtain ⟨r7, hx8, h'⟩ := bind_some h
   clear h
   have h := h'; clear h'
   have hc9 := c_impl_validHash hx8
   refine st_call (cx_call hc9 (ent_f hc9.fn rfl) hn0 (show Hp S0 σ0 _ ([] ++ []) from (H.sel' [] rfl rfl))) (wanted_yes rfl (by exact (congrArg some hb6))) ?_
   rintro _ σ10 ⟨_, ⟨rfl, rfl⟩, H, -⟩
   replace H : Hp S0 σ0 σ10 [] := H
   refine st_g (v := (B (!r7))) (congrArg some hb6) (rv_not rfl) ?_
   refine st (v := (B (!r7))) (rv_pick_f (congrArg B hb6) rfl) ?_
   refine w_end ?_
   obtain rfl := Option.some.inj h
   exact ⟨rfl, _, σ10, fr_join ⟨rfl, rfl, rfl, trivial⟩, rfl, H.sel' [] rfl rfl⟩
 ·clear hj
  have h := h'
  clear h' H
  rintro e a w ⟨rfl, ρ, σ11, rfl, rfl, H⟩
  refine q_then ?_
  refine cd_cond o1 rfl (fun hb12 => ?_) (fun hb12 => ?_)
  ·replace h := bif_t hb12 h
   refine c_seq ?_
   refine rg ?_
   refine st (v := (I (-1))) (rv_assign rfl) ?_
   refine w_end ?_
   refine q_then ?_
   refine c_ret ?_
   refine q_then_r ?_
   obtain rfl := Option.some.inj h
   exact fin_ret (v := (I (-1))) (results_ok Try.results15 (res_tmp (v := (I (-1))) rfl res_nil) rfl) ⟨rfl, rfl⟩ (H.sel' [] rfl rfl)
  ·replace h := bif_f hb12 h
   refine c_skip ?_
   refine q_then ?_
   refine c_seq ?_
   refine rg ?_
   refine st (v := (I a_0)) (rv_move rfl) ?_
   refine st (v := (I b_1)) (rv_move rfl) ?_
   refine st (v := (I (gxor a_0 b_1))) (rv_xor (a := a_0) (b := b_1) rfl rfl) ?_
   refine st (v := (.int .u64 (wk .u64 (gxor a_0 b_1)))) (rvk_conv (k := .i64) (k' := .u64) (a := (gxor a_0 b_1)) Try.underlying3 Try.underlying65 rfl) ?_
   obtain ⟨r13, hx14, h'⟩ := bind_some h
   clear h
   have h := h'; clear h'
   have hc15 := c_math_bits_OnesCount hx14
   refine st_call (cx_call hc15 (ent_f hc15.fn rfl) hn0 (show Hp S0 σ0 _ ([] ++ []) from (H.sel' [] rfl rfl))) wn ?_
   rintro _ σ16 ⟨_, ⟨rfl, rfl⟩, H, -⟩
   replace H : Hp S0 σ0 σ16 [] := H
   refine st (v := (I r13)) (rv_assign rfl) ?_
   refine w_end ?_
   refine q_then ?_
   refine c_ret ?_
   obtain rfl := Option.some.inj h
   exact fin_ret (v := (I r13)) (results_ok Try.results15 (res_tmp (v := (I r13)) rfl res_nil) rfl) ⟨rfl, rfl⟩ (H.sel' [] rfl rfl)

theorem c_spec_inRange {n_0 : Int} {low_1 : Int} {high_2 : Int}  {r : Bool} (h : M.spec_inRange n_0 low_1 high_2 = some r) :
    Cal2 Try.prog 46 [(I n_0), (I low_1), (I high_2)] [] (fun n0 v L => v = (B r) ∧ L = []) := by
 refine cal2 (n := 15) Try.func46 rfl rfl rfl rfl ?_
 intro S0 σ0 n0 hn0 H
 unfold M.spec_inRange at h
 refine c_seq ?_
 refine rg ?_
 refine st (v := (B false)) (rv_assign rfl) ?_
 refine w_end ?_
 refine q_then ?_
 refine c_seq ?_
 refine rg ?_
 refine st (v := (I low_1)) (rv_move rfl) ?_
 refine st (v := (I n_0)) (rv_move rfl) ?_
 refine st (v := (B (decide (low_1 ≤ n_0)))) (rv_leq (a := low_1) (b := n_0) rfl rfl) ?_
 refine st (v := (B (decide (low_1 ≤ n_0)))) (rv_move rfl) ?_
 rcases Bool.eq_false_or_eq_true (decide (low_1 ≤ n_0)) with hb1 | hb1
 ·replace h := bif_t hb1 h
  refine st_g (v := (I n_0)) (congrArg some hb1) (rv_move rfl) ?_
  refine st_g (v := (I high_2)) (congrArg some hb1) (rv_move rfl) ?_
  refine st_g (v := (B (decide (n_0 ≤ high_2)))) (congrArg some hb1) (rv_leq (a := n_0) (b := high_2) rfl rfl) ?_
  refine st (v := (B (decide (n_0 ≤ high_2)))) (rv_pick_t (congrArg B hb1) rfl) ?_
  refine st (v := (B (decide (n_0 ≤ high_2)))) (rv_assign rfl) ?_
  refine w_end ?_
  refine q_then ?_
  refine c_ret ?_
  obtain rfl := Option.some.inj h
  exact fin_ret (v := (B (decide (n_0 ≤ high_2)))) (results_ok Try.results46 (res_tmp (v := (B (decide (n_0 ≤ high_2)))) rfl res_nil) rfl) ⟨rfl, rfl⟩ (H.sel' [] rfl rfl)
 ·replace h := bif_f hb1 h
  refine st_skip (congrArg some hb1) ?_
  refine st_skip (congrArg some hb1) ?_
  refine st_skip (congrArg some hb1) ?_
  refine st (v := (B false)) (rv_pick_f (congrArg B hb1) rfl) ?_
  refine st (v := (B false)) (rv_assign rfl) ?_
  refine w_end ?_
  refine q_then ?_
  refine c_ret ?_
  obtain rfl := Option.some.inj h
  exact fin_ret (v := (B false)) (results_ok Try.results46 (res_tmp (v := (B false)) rfl res_nil) rfl) ⟨rfl, rfl⟩ (H.sel' [] rfl rfl)

theorem c_spec_bitsApart {a_0 : Int} {b_1 : Int}  {r : Int} (h : M.spec_bitsApart a_0 b_1 = some r) :
    Cal2 Try.prog 47 [(I a_0), (I b_1)] [] (fun n0 v L => v = (I r) ∧ L = []) := by
 refine cal2 (n := 19) Try.func47 rfl rfl rfl rfl ?_
 intro S0 σ0 n0 hn0 H
 unfold M.spec_bitsApart at h
 refine c_seq ?_
 refine rg ?_
 refine st (v := (I 0)) (rv_assign rfl) ?_
 refine w_end ?_
 refine q_then ?_
 refine c_seq ?_
 refine rg ?_
 refine st (v := (I 0)) (rv_assign rfl) ?_
 refine w_end ?_
 refine q_then ?_
 refine c_seq ?_
 refine c_seq ?_
 refine rg ?_
 refine st (v := (I a_0)) (rv_move rfl) ?_
 refine st (v := (I b_1)) (rv_move rfl) ?_
 refine st (v := (I (gxor a_0 b_1))) (rv_xor (a := a_0) (b := b_1) rfl rfl) ?_
 refine st (v := (I (gxor a_0 b_1))) (rv_assign rfl) ?_
 refine w_end ?_
 refine q_then ?_
 obtain ⟨o1, hj, h'⟩ := bind_some h
 clear h
 refine c_cut (fun e a w => e = .normal ∧ ∃ (ρ : Nat → Value) (σ : St), a = fr 19 (updL ρ [(5, (I o1))]) ∧ w = σ.w ∧ Hp S0 σ0 σ []) ?_ ?_
 ·clear h'
  rename _ = some o1 => h
  refine c_blk ?_
  refine wp_loopM _ h (fun s2 a w => ∃ (ρ : Nat → Value) (σ : St), a = fr 19 (updL ρ [(5, (I s2.1)), (6, (I s2.2))]) ∧ w = σ.w ∧ Hp S0 σ0 σ []) ⟨_, σ0, fr_join ⟨rfl, rfl, trivial⟩, rfl, H.sel' [] rfl rfl⟩ ?_
  clear h H
  rintro s2 a w o ⟨ρ, σ3, rfl, rfl, H⟩ h hres
  refine c_seq ?_
  refine c_seq ?_
  refine rg ?_
  refine st (v := (I s2.2)) (rv_move rfl) ?_
  refine st (v := (B (decide (0 < s2.2)))) (rv_gtr (a := s2.2) (b := 0) rfl rfl) ?_
  refine w_end ?_
  refine q_then ?_
  refine cd_cond (decide (0 < s2.2)) rfl (fun hb4 => ?_) (fun hb4 => ?_)
  ·replace h := bif_t hb4 h
   refine c_skip ?_
   refine q_then ?_
   refine c_seq ?_
   refine c_blk ?_
   refine rg ?_
   refine st (v := (I s2.1)) (rv_move rfl) ?_
   refine st (v := (I s2.2)) (rv_move rfl) ?_
   refine st (v := (I (s2.2.tmod 2))) (rv_rem (a := s2.2) (b := 2) rfl rfl (by decide)) ?_
   refine st (v := (I (w64 (s2.1 + (s2.2.tmod 2))))) (rv_add (a := s2.1) (b := (s2.2.tmod 2)) rfl rfl) ?_
   refine st (v := (I (w64 (s2.1 + (s2.2.tmod 2))))) (rv_assign rfl) ?_
   refine w_end ?_
   refine q_blk ?_
   refine q_then ?_
   refine rg ?_
   refine st (v := (I s2.2)) (rv_move rfl) ?_
   refine st (v := (I (w64 (s2.2.tdiv 2)))) (rv_quo (a := s2.2) (b := 2) rfl rfl (by decide)) ?_
   refine st (v := (I (w64 (s2.2.tdiv 2)))) (rv_assign rfl) ?_
   refine w_end ?_
   refine q_then ?_
   obtain rfl := Option.some.inj h
   exact ⟨_, rfl, _, σ3, fr_join ⟨rfl, rfl, trivial⟩, rfl, H.sel' [] rfl rfl⟩
  ·replace h := bif_f hb4 h
   refine c_exit ?_
   refine q_then_x ?_
   refine q_then_x ?_
   refine q_blk_hit ?_
   obtain rfl := Option.some.inj h
   obtain rfl := hres _ rfl
   exact ⟨rfl, _, σ3, fr_join ⟨rfl, trivial⟩, rfl, H.sel' [] rfl rfl⟩
 ·clear hj
  have h := h'
  clear h' H
  rintro e a w ⟨rfl, ρ, σ5, rfl, rfl, H⟩
  refine q_then ?_
  refine c_seq ?_
  refine rg ?_
  refine st (v := (I o1)) (rv_move rfl) ?_
  refine st (v := (I o1)) (rv_assign rfl) ?_
  refine w_end ?_
  refine q_then ?_
  refine c_ret ?_
  obtain rfl := Option.some.inj h
  exact fin_ret (v := (I o1)) (results_ok Try.results47 (res_tmp (v := (I o1)) rfl res_nil) rfl) ⟨rfl, rfl⟩ (H.sel' [] rfl rfl)

theorem c_spec_BitsApart {a_0 : Int} {b_1 : Int}  {r : Int} (h : M.spec_BitsApart a_0 b_1 = some r) :
    Cal2 Try.prog 16 [(I a_0), (I b_1)] [] (fun n0 v L => v = (I r) ∧ L = []) := by
 refine cal2 (n := 16) Try.func16 rfl rfl rfl rfl ?_
 intro S0 σ0 n0 hn0 H
 unfold M.spec_BitsApart at h
 refine c_seq ?_
 refine rg ?_
 refine st (v := (I 0)) (rv_assign rfl) ?_
 refine w_end ?_
 refine q_then ?_
 refine c_seq ?_
 refine c_seq ?_
 obtain ⟨o1, hj, h'⟩ := bind_some h
 clear h
 refine c_cut (fun e a w => e = .normal ∧ ∃ (ρ : Nat → Value) (σ : St), a = fr 16 (updL ρ [(0, (I a_0)), (1, (I b_1)), (12, (B o1))]) ∧ w = σ.w ∧ Hp S0 σ0 σ []) ?_ ?_
 ·clear h'
  rename _ = some o1 => h
  refine rg ?_
  refine st (v := (I a_0)) (rv_move rfl) ?_
  obtain ⟨r2, hx3, h'⟩ := bind_some h
  clear h
  have h := h'; clear h'
  have hc4 := c_spec_inRange hx3
  refine st_call (cx_call hc4 (ent_f hc4.fn rfl) hn0 (show Hp S0 σ0 _ ([] ++ []) from (H.sel' [] rfl rfl))) wn ?_
  rintro _ σ5 ⟨_, ⟨rfl, rfl⟩, H, -⟩
  replace H : Hp S0 σ0 σ5 [] := H
  refine st (v := (B (!r2))) (rv_not rfl) ?_
  refine st (v := (B (!r2))) (rv_move rfl) ?_
  rcases Bool.eq_false_or_eq_true (!r2) with hb6 | hb6
  ·replace h := bif_t hb6 h
   refine st_skip (congrArg some hb6) ?_
   refine st_skip (congrArg some hb6) ?_
   refine st_skip (congrArg some hb6) ?_
   refine st (v := (B true)) (rv_pick_t (congrArg B hb6) rfl) ?_
   refine w_end ?_
   obtain rfl := Option.some.inj h
   exact ⟨rfl, _, σ5, fr_join ⟨rfl, rfl, rfl, trivial⟩, rfl, H.sel' [] rfl rfl⟩
  ·replace h := bif_f hb6 h
   refine st_g (v := (I b_1)) (congrArg some hb6) (rv_move rfl) ?_
   obtain ⟨r7, hx8, h'⟩ := bind_some h
   clear h
   have h := h'; clear h'
   have hc9 := c_spec_inRange hx8
   refine st_call (cx_call hc9 (ent_f hc9.fn rfl) hn0 (show Hp S0 σ0 _ ([] ++ []) from (H.sel' [] rfl rfl))) (wanted_yes rfl (by exact (congrArg some hb6))) ?_
   rintro _ σ10 ⟨_, ⟨rfl, rfl⟩, H, -⟩
   replace H : Hp S0 σ0 σ10 [] := H
   refine st_g (v := (B (!r7))) (congrArg some hb6) (rv_not rfl) ?_
   refine st (v := (B (!r7))) (rv_pick_f (congrArg B hb6) rfl) ?_
   refine w_end ?_
   obtain rfl := Option.some.inj h
   exact ⟨rfl, _, σ10, fr_join ⟨rfl, rfl, rfl, trivial⟩, rfl, H.sel' [] rfl rfl⟩
 ·clear hj
  have h := h'
  clear h' H
  rintro e a w ⟨rfl, ρ, σ11, rfl, rfl, H⟩
  refine q_then ?_
  refine cd_cond o1 rfl (fun hb12 => ?_) (fun hb12 => ?_)
  ·replace h := bif_t hb12 h
   refine c_seq ?_
   refine rg ?_
   refine st (v := (I (-1))) (rv_assign rfl) ?_
   refine w_end ?_
   refine q_then ?_
   refine c_ret ?_
   refine q_then_r ?_
   obtain rfl := Option.some.inj h
   exact fin_ret (v := (I (-1))) (results_ok Try.results16 (res_tmp (v := (I (-1))) rfl res_nil) rfl) ⟨rfl, rfl⟩ (H.sel' [] rfl rfl)
  ·replace h := bif_f hb12 h
   refine c_skip ?_
   refine q_then ?_
   refine c_seq ?_
   refine rg ?_
   refine st (v := (I a_0)) (rv_move rfl) ?_
   refine st (v := (I b_1)) (rv_move rfl) ?_
   obtain ⟨r13, hx14, h'⟩ := bind_some h
   clear h
   have h := h'; clear h'
   have hc15 := c_spec_bitsApart hx14
   refine st_call (cx_call hc15 (ent_f hc15.fn rfl) hn0 (show Hp S0 σ0 _ ([] ++ []) from (H.sel' [] rfl rfl))) wn ?_
   rintro _ σ16 ⟨_, ⟨rfl, rfl⟩, H, -⟩
   replace H : Hp S0 σ0 σ16 [] := H
   refine st (v := (I r13)) (rv_assign rfl) ?_
   refine w_end ?_
   refine q_then ?_
   refine c_ret ?_
   obtain rfl := Option.some.inj h
   exact fin_ret (v := (I r13)) (results_ok Try.results16 (res_tmp (v := (I r13)) rfl res_nil) rfl) ⟨rfl, rfl⟩ (H.sel' [] rfl rfl)

end Go.Vs
