/- The functions compute what their models say. -/
import Derived.Test.YtaknnhnckdifiacAcM
import Derived.Test.YtaknnhnckdifiacVsMono
import Derived.Test.YtaknnhnckdifiacProg
set_option linter.unusedVariables false
set_option linter.unusedSimpArgs false
set_option maxRecDepth 20000
namespace Go.Vs
open Go Go.Proofs
attribute [local irreducible] Code.wp wpList wpQuiet Calls

theorem ti3 : TI Try.prog 3 (.int .i64 0) 1 8 := TI.mk' (by kernel_rfl)
theorem ti5 : TI Try.prog 5 (.int .u8 0) 1 1 := TI.mk' (by kernel_rfl)
theorem ti22 : TI Try.prog 22 (.slice none 0 0) 1 24 := TI.mk' (by kernel_rfl)
theorem ti24 : TI Try.prog 24 (.slice none 0 0) 1 24 := TI.mk' (by kernel_rfl)
theorem ti26 : TI Try.prog 26 (.agg #[(.int .i64 0), (.slice none 0 0), (.int .i64 0)]) 3 40 := TI.mk' (by kernel_rfl)
theorem ti56 : TI Try.prog 56 (.agg #[(.int .i64 0), (.slice none 0 0), (.int .i64 0)]) 3 40 := TI.mk' (by kernel_rfl)
theorem ti78 : TI Try.prog 78 (.agg #[(.int .i64 0), (.int .i64 0), (.int .i64 0), (.int .i64 0)]) 4 32 := TI.mk' (by kernel_rfl)
theorem ti86 : TI Try.prog 86 (.agg #[(.slice none 0 0), (.int .i64 0)]) 2 32 := TI.mk' (by kernel_rfl)
theorem bp26 {fs : Array Field} (hT : Try.prog.underlying 26 = some (.struct fs)) (w : World) : (fs.mapM (fun f => do pure (f.offset, ← sizeOf f.type)) : Sem (Array (Nat × Nat))).run Try.prog w = .ok #[(0, 1), (1, 1), (2, 1)] w := by
  rw [Try.underlying26] at hT; cases hT
  simp [run_typeInfo ti24, run_typeInfo ti3]
theorem bp86 {fs : Array Field} (hT : Try.prog.underlying 86 = some (.struct fs)) (w : World) : (fs.mapM (fun f => do pure (f.offset, ← sizeOf f.type)) : Sem (Array (Nat × Nat))).run Try.prog w = .ok #[(0, 1), (1, 1)] w := by
  rw [Try.underlying86] at hT; cases hT
  simp [run_typeInfo ti22, run_typeInfo ti3]

theorem c_spec_newReader {σ0 : St} {code_0 : List UInt8} {acode_0 : Option Addr} {ccode_0 : Nat} (hRcode_0 : RS 0 σ0 (Sl acode_0 code_0 ccode_0) code_0) {r : ((List UInt8) × Int)} (h : M.spec_newReader code_0 = some r) :
    Cal Try.prog 54 [(Sl acode_0 code_0 ccode_0)] none σ0 (fun v σ' => ∃ (bq0 : Nat), ∃ (a1 : Option Addr) (c1 : Nat), v = (pt bq0 0) ∧ RS 0 σ' (Sl a1 r.1 c1) r.1 ∧ σ0.size ≤ bq0 ∧ Bx σ' bq0 [(Sl a1 r.1 c1), (I r.2)]) := by
  refine ⟨⟨_, _, Try.func54, rfl, rfl⟩, ?_⟩
  refine enter (n := 11) Try.func54 rfl rfl rfl ?_
  unfold M.spec_newReader at h
  have hK : Mod none σ0 σ0 := Mod.refl _ _
  refine c_seq ?_
  refine rg ?_
  refine st (v := (.pointer none)) (rv_assign rfl) ?_
  refine w_end ?_
  refine q_then ?_
  refine c_seq ?_
  refine c_seq ?_
  refine rg ?_
  refine st (v := (Sl acode_0 code_0 ccode_0)) (rv_move rfl) ?_
  refine st (v := (I (code_0.length : Int))) (rv_len Try.underlying22 rfl) ?_
  refine st (v := (B (decide (2000 < (code_0.length : Int))))) (rv_gtr (a := (code_0.length : Int)) (b := 2000) rfl rfl) ?_
  refine w_end ?_
  refine q_then ?_
  obtain ⟨o1, hj, h'⟩ := bind_some h
  clear h
  refine c_cut (fun e a w => e = .normal ∧ ∃ (ρ : Nat → Value) (σ : St) (aj1 : Option Addr) (cj2 : Nat), a = fr 11 (updL ρ [(0, (Sl aj1 o1 cj2))]) ∧ w = σ.w ∧ Mod none σ0 σ ∧ RS 0 σ (Sl aj1 o1 cj2) o1) ?_ ?_
  · clear h'
    rename _ = some o1 => h
    refine cd_cond (decide (2000 < (code_0.length : Int))) rfl (fun hb2 => ?_) (fun hb2 => ?_)
    · replace h := bif_t hb2 h
      refine rg ?_
      refine st (v := (Sl acode_0 code_0 ccode_0)) (rv_move rfl) ?_
      obtain ⟨xs3, hx4, h'⟩ := bind_some h
      clear h
      have h := h'; clear h'
      obtain ⟨a5, c6, hs7, hR8⟩ := hRcode_0.slice hx4
      refine st (v := (Sl a5 xs3 c6)) (rv_slice_h Try.underlying22 ti5 hs7 rfl rfl) ?_
      refine st (v := (Sl a5 xs3 c6)) (rv_assign rfl) ?_
      refine w_end ?_
      obtain rfl := Option.some.inj h
      exact ⟨rfl, _, σ0, a5, c6, fr_join ⟨rfl, trivial⟩, rfl, hK, hR8⟩
    · replace h := bif_f hb2 h
      refine c_skip ?_
      obtain rfl := Option.some.inj h
      exact ⟨rfl, _, σ0, acode_0, ccode_0, fr_join ⟨rfl, trivial⟩, rfl, hK, hRcode_0⟩
  · clear hj
    have h := h'
    clear h'
    rintro e a w ⟨rfl, ρ, σ9, a10, c11, rfl, rfl, hK, hR12⟩
    refine q_then ?_
    refine c_seq ?_
    refine rg ?_
    refine st (v := (Sl a10 o1 c11)) (rv_move rfl) ?_
    refine st (v := (.agg #[(Sl a10 o1 c11), (I 0)])) (rv_build (ps := [(0, (Sl a10 o1 c11))]) Try.underlying86 ti86 (bp86 Try.underlying86) rfl (by kernel_rfl)) ?_
    refine st_box (cs := [(Sl a10 o1 c11), (I 0)]) rfl rfl ?_ (wanted_none _ rfl _)
    intro b14 σ16 hbn18 m17 hB13
    have hge15 := Nat.le_trans hK.size (Nat.le_of_eq hbn18)
    replace hR12 := hR12.mod m17
    replace hK := hK.none m17
    clear hbn18 m17
    refine st (v := (pt b14 0)) (rv_assign rfl) ?_
    refine w_end ?_
    refine q_then ?_
    refine c_ret ?_
    obtain rfl := Option.some.inj h
    exact bodyPost_ret (v := (pt b14 0)) (results_fr1 Try.results54 rfl _) rfl ⟨_, σ16, rfl, rfl, hK, b14, a10, c11, rfl, hR12, hge15, hB13⟩

theorem c_spec_reader_pick {σ0 : St} {r_0 : (List UInt8) × Int} {n_1 : Int} {ar_0_0 : Option Addr} {cr_0_0 : Nat} (hRr_0_0 : RS 0 σ0 (Sl ar_0_0 r_0.1 cr_0_0) r_0.1) {br_0 : Nat} (hBr_0 : Bx σ0 br_0 [(Sl ar_0_0 r_0.1 cr_0_0), (I r_0.2)])  (hltr_0 : br_0 < σ0.size) {r : Int × ((List UInt8) × Int)} (h : M.spec_reader_pick r_0 n_1 = some r) :
    Cal Try.prog 81 [(pt br_0 0), (I n_1)] (some br_0) σ0 (fun v σ' => ∃ (a0 : Option Addr) (c0 : Nat), v = (I r.1) ∧ RS 0 σ' (Sl a0 r.2.1 c0) r.2.1 ∧ Bx σ' br_0 [(Sl a0 r.2.1 c0), (I r.2.2)]) := by
  refine ⟨⟨_, _, Try.func81, rfl, rfl⟩, ?_⟩
  refine enter (n := 99) Try.func81 rfl rfl rfl ?_
  unfold M.spec_reader_pick at h
  have hK : Mod (some br_0) σ0 σ0 := Mod.refl _ _
  refine c_seq ?_
  refine rg ?_
  refine st (v := (I 0)) (rv_assign rfl) ?_
  refine w_end ?_
  refine q_then ?_
  refine c_seq ?_
  refine rg ?_
  refine st (v := (pt br_0 0)) (rv_move rfl) ?_
  refine st (v := (pt br_0 0)) (rv_move rfl) ?_
  refine st (v := (pt br_0 0)) (rv_nilCheck rfl) ?_
  refine st (v := (pt br_0 1)) (rv_fieldAddr (off := 1) (ft := 3) Try.underlying86 rfl ti3 rfl rfl) ?_
  refine st (v := (I r_0.2)) (rv_load1 Try.underlying3 rfl rfl (hBr_0.cell' 1 rfl rfl)) ?_
  refine st (v := (I (w64 (r_0.2 + 1)))) (rv_add (a := r_0.2) (b := 1) rfl rfl) ?_
  refine st (v := (pt br_0 0)) (rv_nilCheck rfl) ?_
  refine st (v := (pt br_0 1)) (rv_fieldAddr (off := 1) (ft := 3) Try.underlying86 rfl ti3 rfl rfl) ?_
  refine st_store_box (cs := [(Sl ar_0_0 r_0.1 cr_0_0), (I r_0.2)]) (vs := [(I (w64 (r_0.2 + 1)))]) ti3 hBr_0 rfl rfl rfl rfl (Nat.le_of_ble_eq_true rfl) (by simp [plain]) ?_
  intro σ1 m2 hB4 hs3; clear hs3
  replace hRr_0_0 := hRr_0_0.mod m2
  replace hK := hK.self m2
  replace hB4 := Bx.cast (cs' := [(Sl ar_0_0 r_0.1 cr_0_0), (I (w64 (r_0.2 + 1)))]) hB4 rfl
  clear hBr_0
  refine w_end ?_
  refine q_then ?_
  refine c_seq ?_
  refine c_seq ?_
  obtain ⟨o5, hj, h'⟩ := bind_some h
  clear h
  refine c_cut (fun e a w => e = .normal ∧ ∃ (ρ : Nat → Value) (σ : St), a = fr 99 (updL ρ [(0, (pt br_0 0)), (1, (I n_1)), (24, (B o5))]) ∧ w = σ.w ∧ Mod (some br_0) σ0 σ ∧ RS 0 σ (Sl ar_0_0 r_0.1 cr_0_0) r_0.1 ∧ Bx σ br_0 [(Sl ar_0_0 r_0.1 cr_0_0), (I (w64 (r_0.2 + 1)))]) ?_ ?_
  · clear h'
    rename _ = some o5 => h
    refine rg ?_
    refine st (v := (I n_1)) (rv_move rfl) ?_
    refine st (v := (B (decide (n_1 < 1)))) (rv_lss (a := n_1) (b := 1) rfl rfl) ?_
    refine st (v := (B (decide (n_1 < 1)))) (rv_move rfl) ?_
    rcases Bool.eq_false_or_eq_true (decide (n_1 < 1)) with hb6 | hb6
    · replace h := bif_t hb6 h
      refine st_skip (congrArg some hb6) ?_
      refine st_skip (congrArg some hb6) ?_
      refine st_skip (congrArg some hb6) ?_
      refine st_skip (congrArg some hb6) ?_
      refine st_skip (congrArg some hb6) ?_
      refine st_skip (congrArg some hb6) ?_
      refine st (v := (B true)) (rv_pick_t (congrArg B hb6) rfl) ?_
      refine w_end ?_
      obtain rfl := Option.some.inj h
      exact ⟨rfl, _, σ1, fr_join ⟨rfl, rfl, rfl, trivial⟩, rfl, hK, hRr_0_0, hB4⟩
    · replace h := bif_f hb6 h
      refine st_g (v := (pt br_0 0)) (congrArg some hb6) (rv_move rfl) ?_
      refine st_g (v := (pt br_0 0)) (congrArg some hb6) (rv_nilCheck rfl) ?_
      refine st_g (v := (pt br_0 0)) (congrArg some hb6) (rv_fieldAddr (off := 0) (ft := 22) Try.underlying86 rfl ti22 rfl rfl) ?_
      refine st_g (v := (Sl ar_0_0 r_0.1 cr_0_0)) (congrArg some hb6) (rv_load1 Try.underlying22 rfl rfl (hB4.cell' 0 rfl rfl)) ?_
      refine st_g (v := (I (r_0.1.length : Int))) (congrArg some hb6) (rv_len Try.underlying22 rfl) ?_
      refine st_g (v := (B ((r_0.1.length : Int) == 0))) (congrArg some hb6) (rv_eql (a := (r_0.1.length : Int)) (b := 0) rfl rfl) ?_
      refine st (v := (B ((r_0.1.length : Int) == 0))) (rv_pick_f (congrArg B hb6) rfl) ?_
      refine w_end ?_
      obtain rfl := Option.some.inj h
      exact ⟨rfl, _, σ1, fr_join ⟨rfl, rfl, rfl, trivial⟩, rfl, hK, hRr_0_0, hB4⟩
  · clear hj
    have h := h'
    clear h'
    rintro e a w ⟨rfl, ρ, σ7, rfl, rfl, hK, hR8, hB9⟩
    refine q_then ?_
    refine cd_cond o5 rfl (fun hb10 => ?_) (fun hb10 => ?_)
    · replace h := bif_t hb10 h
      refine c_seq ?_
      refine rg ?_
      refine st (v := (I 0)) (rv_assign rfl) ?_
      refine w_end ?_
      refine q_then ?_
      refine c_ret ?_
      refine q_then_r ?_
      obtain rfl := Option.some.inj h
      exact bodyPost_ret (v := (I 0)) (results_fr1 Try.results81 rfl _) rfl ⟨_, σ7, rfl, rfl, hK, ar_0_0, cr_0_0, rfl, hR8, hB9⟩
    · replace h := bif_f hb10 h
      refine c_skip ?_
      refine q_then ?_
      refine c_seq ?_
      refine rg ?_
      refine st (v := (pt br_0 0)) (rv_move rfl) ?_
      refine st (v := (pt br_0 0)) (rv_nilCheck rfl) ?_
      refine st (v := (pt br_0 1)) (rv_fieldAddr (off := 1) (ft := 3) Try.underlying86 rfl ti3 rfl rfl) ?_
      refine st (v := (I (w64 (r_0.2 + 1)))) (rv_load1 Try.underlying3 rfl rfl (hB9.cell' 1 rfl rfl)) ?_
      refine st (v := (I (w64 ((w64 (r_0.2 + 1)) - 1)))) (rv_sub (a := (w64 (r_0.2 + 1))) (b := 1) rfl rfl) ?_
      refine st (v := (I (w64 ((w64 (r_0.2 + 1)) - 1)))) (rv_assign rfl) ?_
      refine w_end ?_
      refine q_then ?_
      refine c_seq ?_
      refine c_seq ?_
      refine rg ?_
      refine st (v := (I (w64 ((w64 (r_0.2 + 1)) - 1)))) (rv_move rfl) ?_
      refine st (v := (pt br_0 0)) (rv_move rfl) ?_
      refine st (v := (pt br_0 0)) (rv_nilCheck rfl) ?_
      refine st (v := (pt br_0 0)) (rv_fieldAddr (off := 0) (ft := 22) Try.underlying86 rfl ti22 rfl rfl) ?_
      refine st (v := (Sl ar_0_0 r_0.1 cr_0_0)) (rv_load1 Try.underlying22 rfl rfl (hB9.cell' 0 rfl rfl)) ?_
      refine st (v := (I (r_0.1.length : Int))) (rv_len Try.underlying22 rfl) ?_
      refine st (v := (B (decide ((w64 ((w64 (r_0.2 + 1)) - 1)) < (r_0.1.length : Int))))) (rv_lss (a := (w64 ((w64 (r_0.2 + 1)) - 1))) (b := (r_0.1.length : Int)) rfl rfl) ?_
      refine w_end ?_
      refine q_then ?_
      refine cd_cond (decide ((w64 ((w64 (r_0.2 + 1)) - 1)) < (r_0.1.length : Int))) rfl (fun hb11 => ?_) (fun hb11 => ?_)
      · replace h := bif_t hb11 h
        refine c_seq ?_
        refine rg ?_
        refine st (v := (pt br_0 0)) (rv_move rfl) ?_
        refine st (v := (pt br_0 0)) (rv_nilCheck rfl) ?_
        refine st (v := (pt br_0 0)) (rv_fieldAddr (off := 0) (ft := 22) Try.underlying86 rfl ti22 rfl rfl) ?_
        refine st (v := (Sl ar_0_0 r_0.1 cr_0_0)) (rv_load1 Try.underlying22 rfl rfl (hB9.cell' 0 rfl rfl)) ?_
        refine st (v := (I (w64 ((w64 (r_0.2 + 1)) - 1)))) (rv_move rfl) ?_
        obtain ⟨x12, hx13, h'⟩ := bind_some h
        clear h
        have h := h'; clear h'
        obtain ⟨b15, o16, hi14, -⟩ := hR8.ix hx13
        refine st (v := (pt b15 o16)) (rv_ix Try.underlying22 ti5 rfl rfl hi14) ?_
        refine st (v := (.int .u8 (x12.toNat : Int))) (rv_load1 Try.underlying5 rfl rfl (hR8.at hx13 hi14).byte) ?_
        refine st (v := (I (w64 (x12.toNat : Int)))) (rv_conv Try.underlying5 Try.underlying3 rfl) ?_
        refine st (v := (I n_1)) (rv_move rfl) ?_
        obtain ⟨q17, hx18, h'⟩ := bind_some h
        clear h
        have h := h'; clear h'
        refine st (v := (I q17)) (rv_remG (a := (w64 (x12.toNat : Int))) (b := n_1) hx18 rfl rfl) ?_
        refine st (v := (I q17)) (rv_assign rfl) ?_
        refine w_end ?_
        refine q_then ?_
        refine c_ret ?_
        refine q_then_r ?_
        obtain rfl := Option.some.inj h
        exact bodyPost_ret (v := (I q17)) (results_fr1 Try.results81 rfl _) rfl ⟨_, σ7, rfl, rfl, hK, ar_0_0, cr_0_0, rfl, hR8, hB9⟩
      · replace h := bif_f hb11 h
        refine c_skip ?_
        refine q_then ?_
        refine c_seq ?_
        obtain ⟨q19, hx20, h'⟩ := bind_some h
        clear h
        have h := h'; clear h'
        obtain ⟨x21, hx22, h'⟩ := bind_some h
        clear h
        have h := h'; clear h'
        obtain ⟨b24, o25, hi23, -⟩ := hR8.ix hx22
        obtain ⟨q26, hx27, h'⟩ := bind_some h
        clear h
        have h := h'; clear h'
        obtain ⟨x28, hx29, h'⟩ := bind_some h
        clear h
        have h := h'; clear h'
        obtain ⟨b31, o32, hi30, -⟩ := hR8.ix hx29
        obtain ⟨q33, hx34, h'⟩ := bind_some h
        clear h
        have h := h'; clear h'
        refine rg_monoL (σ := σ7) 44 [eqv (pt br_0 0), eqv (pt br_0 0), eqv (pt br_0 0), eqv (Sl ar_0_0 r_0.1 cr_0_0), eqv (I (w64 ((w64 (r_0.2 + 1)) - 1))), eqv (pt br_0 0), eqv (pt br_0 0), eqv (pt br_0 0), eqv (Sl ar_0_0 r_0.1 cr_0_0), eqv (I (r_0.1.length : Int)), eqv (I q19), eqv (pt b24 o25), eqv (.int .u8 (x21.toNat : Int)), eqv (I (w64 (x21.toNat : Int))), eqv (I (w64 ((w64 (x21.toNat : Int)) * 131))), eqv (pt br_0 0), eqv (pt br_0 0), eqv (pt br_0 0), eqv (Sl ar_0_0 r_0.1 cr_0_0), eqv (I (w64 ((w64 (r_0.2 + 1)) - 1))), eqv (I (w64 ((w64 ((w64 (r_0.2 + 1)) - 1)) * 7))), eqv (I (w64 ((w64 ((w64 ((w64 (r_0.2 + 1)) - 1)) * 7)) + 3))), eqv (pt br_0 0), eqv (pt br_0 0), eqv (pt br_0 0), eqv (Sl ar_0_0 r_0.1 cr_0_0), eqv (I (r_0.1.length : Int)), eqv (I q26), eqv (pt b31 o32), eqv (.int .u8 (x28.toNat : Int)), eqv (I (w64 (x28.toNat : Int))), eqv (I (w64 ((w64 (x28.toNat : Int)) * 1117))), eqv (I (w64 ((w64 ((w64 (x21.toNat : Int)) * 131)) + (w64 ((w64 (x28.toNat : Int)) * 1117))))), eqv (I (w64 ((w64 (r_0.2 + 1)) - 1))), eqv (I (w64 ((w64 ((w64 (r_0.2 + 1)) - 1)) * 29))), eqv (I (w64 ((w64 ((w64 ((w64 (x21.toNat : Int)) * 131)) + (w64 ((w64 (x28.toNat : Int)) * 1117)))) + (w64 ((w64 ((w64 (r_0.2 + 1)) - 1)) * 29))))), eqv (I (w64 ((w64 (r_0.2 + 1)) - 1))), eqv (pt br_0 0), eqv (pt br_0 0), eqv (pt br_0 0), eqv (Sl ar_0_0 r_0.1 cr_0_0), eqv (I (r_0.1.length : Int)), eqv (I q33), eqv (I (w64 (q33 * 53)))] (by kernel_rfl) (by kernel_rfl) (mono_cons mono_eqv (mono_cons mono_eqv (mono_cons mono_eqv (mono_cons mono_eqv (mono_cons mono_eqv (mono_cons mono_eqv (mono_cons mono_eqv (mono_cons mono_eqv (mono_cons mono_eqv (mono_cons mono_eqv (mono_cons mono_eqv (mono_cons mono_eqv (mono_cons mono_eqv (mono_cons mono_eqv (mono_cons mono_eqv (mono_cons mono_eqv (mono_cons mono_eqv (mono_cons mono_eqv (mono_cons mono_eqv (mono_cons mono_eqv (mono_cons mono_eqv (mono_cons mono_eqv (mono_cons mono_eqv (mono_cons mono_eqv (mono_cons mono_eqv (mono_cons mono_eqv (mono_cons mono_eqv (mono_cons mono_eqv (mono_cons mono_eqv (mono_cons mono_eqv (mono_cons mono_eqv (mono_cons mono_eqv (mono_cons mono_eqv (mono_cons mono_eqv (mono_cons mono_eqv (mono_cons mono_eqv (mono_cons mono_eqv (mono_cons mono_eqv (mono_cons mono_eqv (mono_cons mono_eqv (mono_cons mono_eqv (mono_cons mono_eqv (mono_cons mono_eqv (mono_cons mono_eqv (mono_nil))))))))))))))))))))))))))))))))))))))))))))) ?_ ?_
        · refine all_cons (by
              intro ρ σm m hoff hdep
              have e0 : look 99 ρ 0 = (pt br_0 0) := look_off (hoff 0 rfl) rfl
              exact does_v (v := (pt br_0 0)) (wanted_none _ rfl _) (rv_move e0) rfl) ?_
          refine all_cons (by
              intro ρ σm m hoff hdep
              have e47 : look 99 ρ 47 = (pt br_0 0) := hdep 0 rfl rfl 47 rfl
              exact does_v (v := (pt br_0 0)) (wanted_none _ rfl _) (rv_nilCheck e47) rfl) ?_
          refine all_cons (by
              intro ρ σm m hoff hdep
              have e48 : look 99 ρ 48 = (pt br_0 0) := hdep 1 rfl rfl 48 rfl
              exact does_v (v := (pt br_0 0)) (wanted_none _ rfl _) (rv_fieldAddr (off := 0) (ft := 22) Try.underlying86 rfl ti22 rfl e48) rfl) ?_
          refine all_cons (by
              intro ρ σm m hoff hdep
              have e49 : look 99 ρ 49 = (pt br_0 0) := hdep 2 rfl rfl 49 rfl
              replace hB9 := hB9.mod0 m
              exact does_v (v := (Sl ar_0_0 r_0.1 cr_0_0)) (wanted_none _ rfl _) (rv_load1 Try.underlying22 rfl e49 (hB9.cell' 0 rfl rfl)) rfl) ?_
          refine all_cons (by
              intro ρ σm m hoff hdep
              have e5 : look 99 ρ 5 = (I (w64 ((w64 (r_0.2 + 1)) - 1))) := look_off (hoff 5 rfl) rfl
              exact does_v (v := (I (w64 ((w64 (r_0.2 + 1)) - 1)))) (wanted_none _ rfl _) (rv_move e5) rfl) ?_
          refine all_cons (by
              intro ρ σm m hoff hdep
              have e0 : look 99 ρ 0 = (pt br_0 0) := look_off (hoff 0 rfl) rfl
              exact does_v (v := (pt br_0 0)) (wanted_none _ rfl _) (rv_move e0) rfl) ?_
          refine all_cons (by
              intro ρ σm m hoff hdep
              have e52 : look 99 ρ 52 = (pt br_0 0) := hdep 5 rfl rfl 52 rfl
              exact does_v (v := (pt br_0 0)) (wanted_none _ rfl _) (rv_nilCheck e52) rfl) ?_
          refine all_cons (by
              intro ρ σm m hoff hdep
              have e53 : look 99 ρ 53 = (pt br_0 0) := hdep 6 rfl rfl 53 rfl
              exact does_v (v := (pt br_0 0)) (wanted_none _ rfl _) (rv_fieldAddr (off := 0) (ft := 22) Try.underlying86 rfl ti22 rfl e53) rfl) ?_
          refine all_cons (by
              intro ρ σm m hoff hdep
              have e54 : look 99 ρ 54 = (pt br_0 0) := hdep 7 rfl rfl 54 rfl
              replace hB9 := hB9.mod0 m
              exact does_v (v := (Sl ar_0_0 r_0.1 cr_0_0)) (wanted_none _ rfl _) (rv_load1 Try.underlying22 rfl e54 (hB9.cell' 0 rfl rfl)) rfl) ?_
          refine all_cons (by
              intro ρ σm m hoff hdep
              have e55 : look 99 ρ 55 = (Sl ar_0_0 r_0.1 cr_0_0) := hdep 8 rfl rfl 55 rfl
              exact does_v (v := (I (r_0.1.length : Int))) (wanted_none _ rfl _) (rv_len Try.underlying22 e55) rfl) ?_
          refine all_cons (by
              intro ρ σm m hoff hdep
              have e51 : look 99 ρ 51 = (I (w64 ((w64 (r_0.2 + 1)) - 1))) := hdep 4 rfl rfl 51 rfl
              have e56 : look 99 ρ 56 = (I (r_0.1.length : Int)) := hdep 9 rfl rfl 56 rfl
              exact does_v (v := (I q19)) (wanted_none _ rfl _) (rv_remG (a := (w64 ((w64 (r_0.2 + 1)) - 1))) (b := (r_0.1.length : Int)) hx20 e51 e56) rfl) ?_
          refine all_cons (by
              intro ρ σm m hoff hdep
              have e50 : look 99 ρ 50 = (Sl ar_0_0 r_0.1 cr_0_0) := hdep 3 rfl rfl 50 rfl
              have e57 : look 99 ρ 57 = (I q19) := hdep 10 rfl rfl 57 rfl
              exact does_v (v := (pt b24 o25)) (wanted_none _ rfl _) (rv_ix Try.underlying22 ti5 e50 e57 hi23) rfl) ?_
          refine all_cons (by
              intro ρ σm m hoff hdep
              have e58 : look 99 ρ 58 = (pt b24 o25) := hdep 11 rfl rfl 58 rfl
              replace hR8 := hR8.mod m
              exact does_v (v := (.int .u8 (x21.toNat : Int))) (wanted_none _ rfl _) (rv_load1 Try.underlying5 rfl e58 (hR8.at hx22 hi23).byte) rfl) ?_
          refine all_cons (by
              intro ρ σm m hoff hdep
              have e59 : look 99 ρ 59 = (.int .u8 (x21.toNat : Int)) := hdep 12 rfl rfl 59 rfl
              exact does_v (v := (I (w64 (x21.toNat : Int)))) (wanted_none _ rfl _) (rv_conv Try.underlying5 Try.underlying3 e59) rfl) ?_
          refine all_cons (by
              intro ρ σm m hoff hdep
              have e60 : look 99 ρ 60 = (I (w64 (x21.toNat : Int))) := hdep 13 rfl rfl 60 rfl
              exact does_v (v := (I (w64 ((w64 (x21.toNat : Int)) * 131)))) (wanted_none _ rfl _) (rv_mul (a := (w64 (x21.toNat : Int))) (b := 131) e60 rfl) rfl) ?_
          refine all_cons (by
              intro ρ σm m hoff hdep
              have e0 : look 99 ρ 0 = (pt br_0 0) := look_off (hoff 0 rfl) rfl
              exact does_v (v := (pt br_0 0)) (wanted_none _ rfl _) (rv_move e0) rfl) ?_
          refine all_cons (by
              intro ρ σm m hoff hdep
              have e62 : look 99 ρ 62 = (pt br_0 0) := hdep 15 rfl rfl 62 rfl
              exact does_v (v := (pt br_0 0)) (wanted_none _ rfl _) (rv_nilCheck e62) rfl) ?_
          refine all_cons (by
              intro ρ σm m hoff hdep
              have e63 : look 99 ρ 63 = (pt br_0 0) := hdep 16 rfl rfl 63 rfl
              exact does_v (v := (pt br_0 0)) (wanted_none _ rfl _) (rv_fieldAddr (off := 0) (ft := 22) Try.underlying86 rfl ti22 rfl e63) rfl) ?_
          refine all_cons (by
              intro ρ σm m hoff hdep
              have e64 : look 99 ρ 64 = (pt br_0 0) := hdep 17 rfl rfl 64 rfl
              replace hB9 := hB9.mod0 m
              exact does_v (v := (Sl ar_0_0 r_0.1 cr_0_0)) (wanted_none _ rfl _) (rv_load1 Try.underlying22 rfl e64 (hB9.cell' 0 rfl rfl)) rfl) ?_
          refine all_cons (by
              intro ρ σm m hoff hdep
              have e5 : look 99 ρ 5 = (I (w64 ((w64 (r_0.2 + 1)) - 1))) := look_off (hoff 5 rfl) rfl
              exact does_v (v := (I (w64 ((w64 (r_0.2 + 1)) - 1)))) (wanted_none _ rfl _) (rv_move e5) rfl) ?_
          refine all_cons (by
              intro ρ σm m hoff hdep
              have e66 : look 99 ρ 66 = (I (w64 ((w64 (r_0.2 + 1)) - 1))) := hdep 19 rfl rfl 66 rfl
              exact does_v (v := (I (w64 ((w64 ((w64 (r_0.2 + 1)) - 1)) * 7)))) (wanted_none _ rfl _) (rv_mul (a := (w64 ((w64 (r_0.2 + 1)) - 1))) (b := 7) e66 rfl) rfl) ?_
          refine all_cons (by
              intro ρ σm m hoff hdep
              have e67 : look 99 ρ 67 = (I (w64 ((w64 ((w64 (r_0.2 + 1)) - 1)) * 7))) := hdep 20 rfl rfl 67 rfl
              exact does_v (v := (I (w64 ((w64 ((w64 ((w64 (r_0.2 + 1)) - 1)) * 7)) + 3)))) (wanted_none _ rfl _) (rv_add (a := (w64 ((w64 ((w64 (r_0.2 + 1)) - 1)) * 7))) (b := 3) e67 rfl) rfl) ?_
          refine all_cons (by
              intro ρ σm m hoff hdep
              have e0 : look 99 ρ 0 = (pt br_0 0) := look_off (hoff 0 rfl) rfl
              exact does_v (v := (pt br_0 0)) (wanted_none _ rfl _) (rv_move e0) rfl) ?_
          refine all_cons (by
              intro ρ σm m hoff hdep
              have e69 : look 99 ρ 69 = (pt br_0 0) := hdep 22 rfl rfl 69 rfl
              exact does_v (v := (pt br_0 0)) (wanted_none _ rfl _) (rv_nilCheck e69) rfl) ?_
          refine all_cons (by
              intro ρ σm m hoff hdep
              have e70 : look 99 ρ 70 = (pt br_0 0) := hdep 23 rfl rfl 70 rfl
              exact does_v (v := (pt br_0 0)) (wanted_none _ rfl _) (rv_fieldAddr (off := 0) (ft := 22) Try.underlying86 rfl ti22 rfl e70) rfl) ?_
          refine all_cons (by
              intro ρ σm m hoff hdep
              have e71 : look 99 ρ 71 = (pt br_0 0) := hdep 24 rfl rfl 71 rfl
              replace hB9 := hB9.mod0 m
              exact does_v (v := (Sl ar_0_0 r_0.1 cr_0_0)) (wanted_none _ rfl _) (rv_load1 Try.underlying22 rfl e71 (hB9.cell' 0 rfl rfl)) rfl) ?_
          refine all_cons (by
              intro ρ σm m hoff hdep
              have e72 : look 99 ρ 72 = (Sl ar_0_0 r_0.1 cr_0_0) := hdep 25 rfl rfl 72 rfl
              exact does_v (v := (I (r_0.1.length : Int))) (wanted_none _ rfl _) (rv_len Try.underlying22 e72) rfl) ?_
          refine all_cons (by
              intro ρ σm m hoff hdep
              have e68 : look 99 ρ 68 = (I (w64 ((w64 ((w64 ((w64 (r_0.2 + 1)) - 1)) * 7)) + 3))) := hdep 21 rfl rfl 68 rfl
              have e73 : look 99 ρ 73 = (I (r_0.1.length : Int)) := hdep 26 rfl rfl 73 rfl
              exact does_v (v := (I q26)) (wanted_none _ rfl _) (rv_remG (a := (w64 ((w64 ((w64 ((w64 (r_0.2 + 1)) - 1)) * 7)) + 3))) (b := (r_0.1.length : Int)) hx27 e68 e73) rfl) ?_
          refine all_cons (by
              intro ρ σm m hoff hdep
              have e65 : look 99 ρ 65 = (Sl ar_0_0 r_0.1 cr_0_0) := hdep 18 rfl rfl 65 rfl
              have e74 : look 99 ρ 74 = (I q26) := hdep 27 rfl rfl 74 rfl
              exact does_v (v := (pt b31 o32)) (wanted_none _ rfl _) (rv_ix Try.underlying22 ti5 e65 e74 hi30) rfl) ?_
          refine all_cons (by
              intro ρ σm m hoff hdep
              have e75 : look 99 ρ 75 = (pt b31 o32) := hdep 28 rfl rfl 75 rfl
              replace hR8 := hR8.mod m
              exact does_v (v := (.int .u8 (x28.toNat : Int))) (wanted_none _ rfl _) (rv_load1 Try.underlying5 rfl e75 (hR8.at hx29 hi30).byte) rfl) ?_
          refine all_cons (by
              intro ρ σm m hoff hdep
              have e76 : look 99 ρ 76 = (.int .u8 (x28.toNat : Int)) := hdep 29 rfl rfl 76 rfl
              exact does_v (v := (I (w64 (x28.toNat : Int)))) (wanted_none _ rfl _) (rv_conv Try.underlying5 Try.underlying3 e76) rfl) ?_
          refine all_cons (by
              intro ρ σm m hoff hdep
              have e77 : look 99 ρ 77 = (I (w64 (x28.toNat : Int))) := hdep 30 rfl rfl 77 rfl
              exact does_v (v := (I (w64 ((w64 (x28.toNat : Int)) * 1117)))) (wanted_none _ rfl _) (rv_mul (a := (w64 (x28.toNat : Int))) (b := 1117) e77 rfl) rfl) ?_
          refine all_cons (by
              intro ρ σm m hoff hdep
              have e61 : look 99 ρ 61 = (I (w64 ((w64 (x21.toNat : Int)) * 131))) := hdep 14 rfl rfl 61 rfl
              have e78 : look 99 ρ 78 = (I (w64 ((w64 (x28.toNat : Int)) * 1117))) := hdep 31 rfl rfl 78 rfl
              exact does_v (v := (I (w64 ((w64 ((w64 (x21.toNat : Int)) * 131)) + (w64 ((w64 (x28.toNat : Int)) * 1117)))))) (wanted_none _ rfl _) (rv_add (a := (w64 ((w64 (x21.toNat : Int)) * 131))) (b := (w64 ((w64 (x28.toNat : Int)) * 1117))) e61 e78) rfl) ?_
          refine all_cons (by
              intro ρ σm m hoff hdep
              have e5 : look 99 ρ 5 = (I (w64 ((w64 (r_0.2 + 1)) - 1))) := look_off (hoff 5 rfl) rfl
              exact does_v (v := (I (w64 ((w64 (r_0.2 + 1)) - 1)))) (wanted_none _ rfl _) (rv_move e5) rfl) ?_
          refine all_cons (by
              intro ρ σm m hoff hdep
              have e80 : look 99 ρ 80 = (I (w64 ((w64 (r_0.2 + 1)) - 1))) := hdep 33 rfl rfl 80 rfl
              exact does_v (v := (I (w64 ((w64 ((w64 (r_0.2 + 1)) - 1)) * 29)))) (wanted_none _ rfl _) (rv_mul (a := (w64 ((w64 (r_0.2 + 1)) - 1))) (b := 29) e80 rfl) rfl) ?_
          refine all_cons (by
              intro ρ σm m hoff hdep
              have e79 : look 99 ρ 79 = (I (w64 ((w64 ((w64 (x21.toNat : Int)) * 131)) + (w64 ((w64 (x28.toNat : Int)) * 1117))))) := hdep 32 rfl rfl 79 rfl
              have e81 : look 99 ρ 81 = (I (w64 ((w64 ((w64 (r_0.2 + 1)) - 1)) * 29))) := hdep 34 rfl rfl 81 rfl
              exact does_v (v := (I (w64 ((w64 ((w64 ((w64 (x21.toNat : Int)) * 131)) + (w64 ((w64 (x28.toNat : Int)) * 1117)))) + (w64 ((w64 ((w64 (r_0.2 + 1)) - 1)) * 29)))))) (wanted_none _ rfl _) (rv_add (a := (w64 ((w64 ((w64 (x21.toNat : Int)) * 131)) + (w64 ((w64 (x28.toNat : Int)) * 1117))))) (b := (w64 ((w64 ((w64 (r_0.2 + 1)) - 1)) * 29))) e79 e81) rfl) ?_
          refine all_cons (by
              intro ρ σm m hoff hdep
              have e5 : look 99 ρ 5 = (I (w64 ((w64 (r_0.2 + 1)) - 1))) := look_off (hoff 5 rfl) rfl
              exact does_v (v := (I (w64 ((w64 (r_0.2 + 1)) - 1)))) (wanted_none _ rfl _) (rv_move e5) rfl) ?_
          refine all_cons (by
              intro ρ σm m hoff hdep
              have e0 : look 99 ρ 0 = (pt br_0 0) := look_off (hoff 0 rfl) rfl
              exact does_v (v := (pt br_0 0)) (wanted_none _ rfl _) (rv_move e0) rfl) ?_
          refine all_cons (by
              intro ρ σm m hoff hdep
              have e84 : look 99 ρ 84 = (pt br_0 0) := hdep 37 rfl rfl 84 rfl
              exact does_v (v := (pt br_0 0)) (wanted_none _ rfl _) (rv_nilCheck e84) rfl) ?_
          refine all_cons (by
              intro ρ σm m hoff hdep
              have e85 : look 99 ρ 85 = (pt br_0 0) := hdep 38 rfl rfl 85 rfl
              exact does_v (v := (pt br_0 0)) (wanted_none _ rfl _) (rv_fieldAddr (off := 0) (ft := 22) Try.underlying86 rfl ti22 rfl e85) rfl) ?_
          refine all_cons (by
              intro ρ σm m hoff hdep
              have e86 : look 99 ρ 86 = (pt br_0 0) := hdep 39 rfl rfl 86 rfl
              replace hB9 := hB9.mod0 m
              exact does_v (v := (Sl ar_0_0 r_0.1 cr_0_0)) (wanted_none _ rfl _) (rv_load1 Try.underlying22 rfl e86 (hB9.cell' 0 rfl rfl)) rfl) ?_
          refine all_cons (by
              intro ρ σm m hoff hdep
              have e87 : look 99 ρ 87 = (Sl ar_0_0 r_0.1 cr_0_0) := hdep 40 rfl rfl 87 rfl
              exact does_v (v := (I (r_0.1.length : Int))) (wanted_none _ rfl _) (rv_len Try.underlying22 e87) rfl) ?_
          refine all_cons (by
              intro ρ σm m hoff hdep
              have e83 : look 99 ρ 83 = (I (w64 ((w64 (r_0.2 + 1)) - 1))) := hdep 36 rfl rfl 83 rfl
              have e88 : look 99 ρ 88 = (I (r_0.1.length : Int)) := hdep 41 rfl rfl 88 rfl
              exact does_v (v := (I q33)) (wanted_none _ rfl _) (rv_quoG (a := (w64 ((w64 (r_0.2 + 1)) - 1))) (b := (r_0.1.length : Int)) hx34 e83 e88) rfl) ?_
          refine all_cons (by
              intro ρ σm m hoff hdep
              have e89 : look 99 ρ 89 = (I q33) := hdep 42 rfl rfl 89 rfl
              exact does_v (v := (I (w64 (q33 * 53)))) (wanted_none _ rfl _) (rv_mul (a := q33) (b := 53) e89 rfl) rfl) ?_
          exact all_nil
        · intro ρ σ35 m hoff hrel
          have e0 : look 99 ρ 0 = (pt br_0 0) := look_off (hoff 0 rfl) rfl
          have e1 : look 99 ρ 1 = (I n_1) := look_off (hoff 1 rfl) rfl
          have e82 : look 99 ρ 82 = (I (w64 ((w64 ((w64 ((w64 (x21.toNat : Int)) * 131)) + (w64 ((w64 (x28.toNat : Int)) * 1117)))) + (w64 ((w64 ((w64 (r_0.2 + 1)) - 1)) * 29))))) := hrel 35 rfl 82 rfl
          have e90 : look 99 ρ 90 = (I (w64 (q33 * 53))) := hrel 43 rfl 90 rfl
          replace hR8 := hR8.mod m
          replace hB9 := hB9.mod0 m
          replace hK := hK.none m
          rw [fr_lookL (L := [(0, (pt br_0 0)), (1, (I n_1)), (82, (I (w64 ((w64 ((w64 ((w64 (x21.toNat : Int)) * 131)) + (w64 ((w64 (x28.toNat : Int)) * 1117)))) + (w64 ((w64 ((w64 (r_0.2 + 1)) - 1)) * 29)))))), (90, (I (w64 (q33 * 53))))]) ⟨e0, e1, e82, e90, trivial⟩]
          clear hoff hrel m e0 e1 e82 e90
          refine st (v := (I (w64 ((w64 ((w64 ((w64 ((w64 (x21.toNat : Int)) * 131)) + (w64 ((w64 (x28.toNat : Int)) * 1117)))) + (w64 ((w64 ((w64 (r_0.2 + 1)) - 1)) * 29)))) + (w64 (q33 * 53)))))) (rv_add (a := (w64 ((w64 ((w64 ((w64 (x21.toNat : Int)) * 131)) + (w64 ((w64 (x28.toNat : Int)) * 1117)))) + (w64 ((w64 ((w64 (r_0.2 + 1)) - 1)) * 29))))) (b := (w64 (q33 * 53))) rfl rfl) ?_
          refine st (v := (I (w64 ((w64 ((w64 ((w64 ((w64 (x21.toNat : Int)) * 131)) + (w64 ((w64 (x28.toNat : Int)) * 1117)))) + (w64 ((w64 ((w64 (r_0.2 + 1)) - 1)) * 29)))) + (w64 (q33 * 53)))))) (rv_assign rfl) ?_
          refine w_end ?_
          refine q_then ?_
          refine c_seq ?_
          refine rg ?_
          refine st (v := (I (w64 ((w64 ((w64 ((w64 ((w64 (x21.toNat : Int)) * 131)) + (w64 ((w64 (x28.toNat : Int)) * 1117)))) + (w64 ((w64 ((w64 (r_0.2 + 1)) - 1)) * 29)))) + (w64 (q33 * 53)))))) (rv_move rfl) ?_
          refine st (v := (I (w64 ((w64 ((w64 ((w64 ((w64 (x21.toNat : Int)) * 131)) + (w64 ((w64 (x28.toNat : Int)) * 1117)))) + (w64 ((w64 ((w64 (r_0.2 + 1)) - 1)) * 29)))) + (w64 (q33 * 53)))))) (rv_move rfl) ?_
          refine st (v := (I (w64 ((w64 ((w64 ((w64 ((w64 ((w64 (x21.toNat : Int)) * 131)) + (w64 ((w64 (x28.toNat : Int)) * 1117)))) + (w64 ((w64 ((w64 (r_0.2 + 1)) - 1)) * 29)))) + (w64 (q33 * 53)))).tdiv 64)))) (rv_quo (a := (w64 ((w64 ((w64 ((w64 ((w64 (x21.toNat : Int)) * 131)) + (w64 ((w64 (x28.toNat : Int)) * 1117)))) + (w64 ((w64 ((w64 (r_0.2 + 1)) - 1)) * 29)))) + (w64 (q33 * 53))))) (b := 64) rfl rfl (by decide)) ?_
          refine st (v := (I (gxor (w64 ((w64 ((w64 ((w64 ((w64 (x21.toNat : Int)) * 131)) + (w64 ((w64 (x28.toNat : Int)) * 1117)))) + (w64 ((w64 ((w64 (r_0.2 + 1)) - 1)) * 29)))) + (w64 (q33 * 53)))) (w64 ((w64 ((w64 ((w64 ((w64 ((w64 (x21.toNat : Int)) * 131)) + (w64 ((w64 (x28.toNat : Int)) * 1117)))) + (w64 ((w64 ((w64 (r_0.2 + 1)) - 1)) * 29)))) + (w64 (q33 * 53)))).tdiv 64))))) (rv_xor (a := (w64 ((w64 ((w64 ((w64 ((w64 (x21.toNat : Int)) * 131)) + (w64 ((w64 (x28.toNat : Int)) * 1117)))) + (w64 ((w64 ((w64 (r_0.2 + 1)) - 1)) * 29)))) + (w64 (q33 * 53))))) (b := (w64 ((w64 ((w64 ((w64 ((w64 ((w64 (x21.toNat : Int)) * 131)) + (w64 ((w64 (x28.toNat : Int)) * 1117)))) + (w64 ((w64 ((w64 (r_0.2 + 1)) - 1)) * 29)))) + (w64 (q33 * 53)))).tdiv 64))) rfl rfl) ?_
          refine st (v := (I (gxor (w64 ((w64 ((w64 ((w64 ((w64 (x21.toNat : Int)) * 131)) + (w64 ((w64 (x28.toNat : Int)) * 1117)))) + (w64 ((w64 ((w64 (r_0.2 + 1)) - 1)) * 29)))) + (w64 (q33 * 53)))) (w64 ((w64 ((w64 ((w64 ((w64 ((w64 (x21.toNat : Int)) * 131)) + (w64 ((w64 (x28.toNat : Int)) * 1117)))) + (w64 ((w64 ((w64 (r_0.2 + 1)) - 1)) * 29)))) + (w64 (q33 * 53)))).tdiv 64))))) (rv_assign rfl) ?_
          refine w_end ?_
          refine q_then ?_
          refine c_seq ?_
          refine rg ?_
          refine st (v := (I (gxor (w64 ((w64 ((w64 ((w64 ((w64 (x21.toNat : Int)) * 131)) + (w64 ((w64 (x28.toNat : Int)) * 1117)))) + (w64 ((w64 ((w64 (r_0.2 + 1)) - 1)) * 29)))) + (w64 (q33 * 53)))) (w64 ((w64 ((w64 ((w64 ((w64 ((w64 (x21.toNat : Int)) * 131)) + (w64 ((w64 (x28.toNat : Int)) * 1117)))) + (w64 ((w64 ((w64 (r_0.2 + 1)) - 1)) * 29)))) + (w64 (q33 * 53)))).tdiv 64))))) (rv_move rfl) ?_
          refine st (v := (I n_1)) (rv_move rfl) ?_
          obtain ⟨q36, hx37, h'⟩ := bind_some h
          clear h
          have h := h'; clear h'
          refine st (v := (I q36)) (rv_remG (a := (gxor (w64 ((w64 ((w64 ((w64 ((w64 (x21.toNat : Int)) * 131)) + (w64 ((w64 (x28.toNat : Int)) * 1117)))) + (w64 ((w64 ((w64 (r_0.2 + 1)) - 1)) * 29)))) + (w64 (q33 * 53)))) (w64 ((w64 ((w64 ((w64 ((w64 ((w64 (x21.toNat : Int)) * 131)) + (w64 ((w64 (x28.toNat : Int)) * 1117)))) + (w64 ((w64 ((w64 (r_0.2 + 1)) - 1)) * 29)))) + (w64 (q33 * 53)))).tdiv 64)))) (b := n_1) hx37 rfl rfl) ?_
          refine st (v := (I q36)) (rv_assign rfl) ?_
          refine w_end ?_
          refine q_then ?_
          refine c_ret ?_
          obtain rfl := Option.some.inj h
          exact bodyPost_ret (v := (I q36)) (results_fr1 Try.results81 rfl _) rfl ⟨_, σ35, rfl, rfl, hK, ar_0_0, cr_0_0, rfl, hR8, hB9⟩

theorem c_spec_copyInts {σ0 : St} {list_0 : List Int} {alist_0 : Option Addr} {clist_0 : Nat} (hRlist_0 : RS 0 σ0 (Sl alist_0 list_0 clist_0) list_0) {r : (List Int)} (h : M.spec_copyInts list_0 = some r) :
    Cal Try.prog 79 [(Sl alist_0 list_0 clist_0)] none σ0 (fun v σ' => ∃ (a0 : Option Addr) (c0 : Nat), v = (Sl a0 r c0) ∧ Ow σ' σ0.size σ0.size (Sl a0 r c0) r) := by
  refine ⟨⟨_, _, Try.func79, rfl, rfl⟩, ?_⟩
  refine enter (n := 6) Try.func79 rfl rfl rfl ?_
  unfold M.spec_copyInts at h
  have hK : Mod none σ0 σ0 := Mod.refl _ _
  refine c_seq ?_
  refine rg ?_
  refine st (v := (.slice none 0 0)) (rv_assign rfl) ?_
  refine w_end ?_
  refine q_then ?_
  refine c_seq ?_
  refine rg ?_
  refine st_buildSlice (lo := σ0.size) (el := σ0.size) (xs := ([] : List Int)) (ps := []) (cs := []) Try.underlying24 ti3 rfl rfl (by kernel_rfl) (.nil) rfl ?_ hK.size (wanted_none _ rfl _)
  intro b2 σ3 hbn5 m4 hO1
  replace hRlist_0 := hRlist_0.mod m4
  replace hK := hK.none m4
  clear hbn5 m4
  refine st (v := (Sl alist_0 list_0 clist_0)) (rv_move rfl) ?_
  obtain ⟨xs6, hx7, h'⟩ := bind_some h
  clear h
  have h := h'; clear h'
  have hg8 := hO1.ge
  refine st_append Try.underlying24 Try.underlying24 ti3 rfl rfl (by decide) hO1 (hRlist_0.rd.sc) hx7 hK.size rfl rfl ?_ (wanted_none _ rfl _)
  intro a13 c14 σ9 m10 hO11 hq12
  replace hRlist_0 := hRlist_0.mod m10
  replace hK := hK.own m10 hg8
  clear hq12 m10
  refine st (v := (Sl a13 xs6 c14)) (rv_assign rfl) ?_
  refine w_end ?_
  refine q_then ?_
  refine c_ret ?_
  obtain rfl := Option.some.inj h
  exact bodyPost_ret (v := (Sl a13 xs6 c14)) (results_fr1 Try.results79 rfl _) rfl ⟨_, σ9, rfl, rfl, hK, a13, c14, rfl, hO11⟩

theorem c_spec_reader_one {σ0 : St} {r_0 : (List UInt8) × Int} {list_1 : List Int} {ar_0_0 : Option Addr} {cr_0_0 : Nat} (hRr_0_0 : RS 0 σ0 (Sl ar_0_0 r_0.1 cr_0_0) r_0.1) {br_0 : Nat} (hBr_0 : Bx σ0 br_0 [(Sl ar_0_0 r_0.1 cr_0_0), (I r_0.2)])  (hltr_0 : br_0 < σ0.size) {alist_1 : Option Addr} {clist_1 : Nat} (hRlist_1 : RS 0 σ0 (Sl alist_1 list_1 clist_1) list_1) {r : Int × ((List UInt8) × Int)} (h : M.spec_reader_one r_0 list_1 = some r) :
    Cal Try.prog 84 [(pt br_0 0), (Sl alist_1 list_1 clist_1)] (some br_0) σ0 (fun v σ' => ∃ (a0 : Option Addr) (c0 : Nat), v = (I r.1) ∧ RS 0 σ' (Sl a0 r.2.1 c0) r.2.1 ∧ Bx σ' br_0 [(Sl a0 r.2.1 c0), (I r.2.2)]) := by
  refine ⟨⟨_, _, Try.func84, rfl, rfl⟩, ?_⟩
  refine enter (n := 12) Try.func84 rfl rfl rfl ?_
  unfold M.spec_reader_one at h
  have hK : Mod (some br_0) σ0 σ0 := Mod.refl _ _
  refine c_seq ?_
  refine rg ?_
  refine st (v := (I 0)) (rv_assign rfl) ?_
  refine w_end ?_
  refine q_then ?_
  refine c_seq ?_
  refine rg ?_
  refine st (v := (Sl alist_1 list_1 clist_1)) (rv_move rfl) ?_
  refine st (v := (pt br_0 0)) (rv_move rfl) ?_
  refine st (v := (Sl alist_1 list_1 clist_1)) (rv_move rfl) ?_
  refine st (v := (I (list_1.length : Int))) (rv_len Try.underlying24 rfl) ?_
  obtain ⟨r1, hx2, h'⟩ := bind_some h
  clear h
  have h := h'; clear h'
  refine st_call (c_spec_reader_pick hRr_0_0 hBr_0 hBr_0.lt hx2) rfl ?_
  have hKs := hK.size
  rintro _ σ3 m4 ⟨a5, c6, rfl, hR7, hB8⟩
  replace hRr_0_0 := hRr_0_0.mod m4
  replace hRlist_1 := hRlist_1.mod m4
  replace hK := hK.self m4
  clear hKs m4
  obtain ⟨x9, hx10, h'⟩ := bind_some h
  clear h
  have h := h'; clear h'
  obtain ⟨b12, o13, hi11, -⟩ := hRlist_1.ix hx10
  refine st (v := (pt b12 o13)) (rv_ix Try.underlying24 ti3 rfl rfl hi11) ?_
  refine st (v := (I x9)) (rv_load1 Try.underlying3 rfl rfl (hRlist_1.at hx10 hi11).int) ?_
  refine st (v := (I x9)) (rv_assign rfl) ?_
  refine w_end ?_
  refine q_then ?_
  refine c_ret ?_
  obtain rfl := Option.some.inj h
  exact bodyPost_ret (v := (I x9)) (results_fr1 Try.results84 rfl _) rfl ⟨_, σ3, rfl, rfl, hK, a5, c6, rfl, hR7, hB8⟩

theorem c_spec_reader_spoil {σ0 : St} {r_0 : (List UInt8) × Int} {list_1 : List Int} {n_2 : Int} {ar_0_0 : Option Addr} {cr_0_0 : Nat} (hRr_0_0 : RS 0 σ0 (Sl ar_0_0 r_0.1 cr_0_0) r_0.1) {br_0 : Nat} (hBr_0 : Bx σ0 br_0 [(Sl ar_0_0 r_0.1 cr_0_0), (I r_0.2)])  (hltr_0 : br_0 < σ0.size) {alist_1 : Option Addr} {clist_1 : Nat} (hRlist_1 : RS 0 σ0 (Sl alist_1 list_1 clist_1) list_1) {r : (List Int) × ((List UInt8) × Int)} (h : M.spec_reader_spoil r_0 list_1 n_2 = some r) :
    Cal Try.prog 95 [(pt br_0 0), (Sl alist_1 list_1 clist_1), (I n_2)] (some br_0) σ0 (fun v σ' => ∃ (a0 : Option Addr) (c0 : Nat), ∃ (a1 : Option Addr) (c1 : Nat), v = (Sl a0 r.1 c0) ∧ Ow σ' σ0.size σ0.size (Sl a0 r.1 c0) r.1 ∧ RS 0 σ' (Sl a1 r.2.1 c1) r.2.1 ∧ Bx σ' br_0 [(Sl a1 r.2.1 c1), (I r.2.2)]) := by
  refine ⟨⟨_, _, Try.func95, rfl, rfl⟩, ?_⟩
  refine enter (n := 41) Try.func95 rfl rfl rfl ?_
  unfold M.spec_reader_spoil at h
  have hK : Mod (some br_0) σ0 σ0 := Mod.refl _ _
  refine c_seq ?_
  refine rg ?_
  refine st (v := (.slice none 0 0)) (rv_assign rfl) ?_
  refine w_end ?_
  refine q_then ?_
  refine c_seq ?_
  refine rg ?_
  refine st (v := (Sl alist_1 list_1 clist_1)) (rv_move rfl) ?_
  obtain ⟨r1, hx2, h'⟩ := bind_some h
  clear h
  have h := h'; clear h'
  refine st_call (c_spec_copyInts hRlist_1 hx2) rfl ?_
  have hKs := hK.size
  rintro _ σ3 m4 ⟨a5, c6, rfl, hO7⟩
  replace hRr_0_0 := hRr_0_0.mod m4
  replace hRlist_1 := hRlist_1.mod m4
  replace hBr_0 := hBr_0.mod0 m4
  replace hK := hK.none m4
  have hO7g := hO7.ge
  replace hO7 := hO7.lo hKs
  replace hO7 := hO7.low' hKs
  clear hKs m4 hO7g
  refine st (v := (Sl a5 r1 c6)) (rv_assign rfl) ?_
  refine w_end ?_
  refine q_then ?_
  refine c_seq ?_
  refine c_seq ?_
  refine rg ?_
  refine st (v := (pt br_0 0)) (rv_move rfl) ?_
  obtain ⟨r8, hx9, h'⟩ := bind_some h
  clear h
  have h := h'; clear h'
  refine st_call (c_spec_reader_pick hRr_0_0 hBr_0 hBr_0.lt hx9) rfl ?_
  have hd16 := hO7.ltb
  have hKs := hK.size
  rintro _ σ10 m11 ⟨a12, c13, rfl, hR14, hB15⟩
  replace hRr_0_0 := hRr_0_0.mod m11
  replace hO7 := hO7.mod' m11 (Df.ge (by rintro _ ⟨⟩; exact hltr_0) hO7.ge).symm
  replace hK := hK.self m11
  clear hKs m11
  refine w_end ?_
  refine q_then ?_
  obtain ⟨o17, hj, h'⟩ := bind_some h
  clear h
  refine c_cut (fun e a w => e = .normal ∧ ∃ (ρ : Nat → Value) (σ : St) (aj1 : Option Addr) (cj2 : Nat) (aj5 : Option Addr) (cj6 : Nat), a = fr 41 (updL ρ [(0, (pt br_0 0)), (7, (Sl aj5 o17.2 cj6))]) ∧ w = σ.w ∧ Mod (some br_0) σ0 σ ∧ RS 0 σ (Sl aj1 o17.1.1 cj2) o17.1.1 ∧ Bx σ br_0 [(Sl aj1 o17.1.1 cj2), (I o17.1.2)] ∧ Ow σ σ0.size σ0.size (Sl aj5 o17.2 cj6) o17.2) ?_ ?_
  · clear h'
    rename _ = some o17 => h
    refine c_blk ?_
    refine c_seq ?_
    refine rg ?_
    refine st (v := (B (r8.1 == 0))) (rv_eql (a := r8.1) (b := 0) rfl rfl) ?_
    refine st (v := (B (r8.1 == 0))) (rv_assign rfl) ?_
    refine w_end ?_
    refine q_then ?_
    refine cd_cond (r8.1 == 0) rfl (fun hb18 => ?_) (fun hb18 => ?_)
    · replace h := bif_t hb18 h
      refine rg ?_
      refine st (v := (Sl a5 r1 c6)) (rv_move rfl) ?_
      refine st (v := (I n_2)) (rv_move rfl) ?_
      refine st_buildSlice (lo := σ0.size) (el := σ0.size) (xs := ([n_2] : List Int)) (ps := [(0, (I n_2))]) (cs := [(I n_2)]) Try.underlying24 ti3 rfl rfl (by kernel_rfl) (.cons (c := [(I n_2)]) rfl (.nil)) rfl ?_ hK.size (wanted_none _ rfl _)
      intro b20 σ21 hbn23 m22 hO19
      have hd24 := hO7.df' hbn23
      replace hR14 := hR14.mod m22
      replace hO7 := hO7.mod0 m22
      replace hB15 := hB15.mod0 m22
      replace hK := hK.none m22
      clear hbn23 m22
      obtain ⟨xs25, hx26, h'⟩ := bind_some h
      clear h
      have h := h'; clear h'
      have hg27 := hO7.ge
      refine st_append Try.underlying24 Try.underlying24 ti3 rfl rfl (by decide) hO7 hO19.rd hx26 hK.size rfl rfl ?_ (wanted_none _ rfl _)
      intro a32 c33 σ28 m29 hO30 hq31
      replace hR14 := hR14.mod m29
      replace hB15 := hB15.mod' m29 (Df.ge (by rintro _ ⟨⟩; exact hltr_0) hO7.ge)
      replace hK := hK.own m29 hg27
      clear hq31 m29
      refine st (v := (Sl a32 xs25 c33)) (rv_assign rfl) ?_
      refine w_end ?_
      refine q_blk ?_
      obtain rfl := Option.some.inj h
      exact ⟨rfl, _, σ28, a12, c13, a32, c33, fr_join ⟨rfl, rfl, trivial⟩, rfl, hK, hR14, hB15, hO30⟩
    · replace h := bif_f hb18 h
      refine c_seq ?_
      refine rg ?_
      refine st (v := (B (r8.1 == 1))) (rv_eql (a := r8.1) (b := 1) rfl rfl) ?_
      refine st (v := (B (r8.1 == 1))) (rv_assign rfl) ?_
      refine w_end ?_
      refine q_then ?_
      refine cd_cond (r8.1 == 1) rfl (fun hb34 => ?_) (fun hb34 => ?_)
      · replace h := bif_t hb34 h
        refine c_seq ?_
        refine rg ?_
        refine st (v := (Sl a5 r1 c6)) (rv_move rfl) ?_
        refine st (v := (I (r1.length : Int))) (rv_len Try.underlying24 rfl) ?_
        refine st (v := (B (decide (0 < (r1.length : Int))))) (rv_gtr (a := (r1.length : Int)) (b := 0) rfl rfl) ?_
        refine w_end ?_
        refine q_then ?_
        refine cd_cond (decide (0 < (r1.length : Int))) rfl (fun hb35 => ?_) (fun hb35 => ?_)
        · replace h := bif_t hb35 h
          refine rg ?_
          refine st (v := (Sl a5 r1 c6)) (rv_move rfl) ?_
          obtain ⟨xs36, hx37, h'⟩ := bind_some h
          clear h
          have h := h'; clear h'
          obtain ⟨a38, c39, hs40, hO41, hO41b⟩ := hO7.slice hx37
          refine st (v := (Sl a38 xs36 c39)) (rv_slice_l Try.underlying24 ti3 hs40 rfl rfl) ?_
          refine st (v := (Sl a38 xs36 c39)) (rv_assign rfl) ?_
          refine w_end ?_
          refine q_blk ?_
          obtain rfl := Option.some.inj h
          exact ⟨rfl, _, σ10, a12, c13, a38, c39, fr_join ⟨rfl, rfl, trivial⟩, rfl, hK, hR14, hB15, hO41⟩
        · replace h := bif_f hb35 h
          refine c_skip ?_
          refine q_blk ?_
          obtain rfl := Option.some.inj h
          exact ⟨rfl, _, σ10, a12, c13, a5, c6, fr_join ⟨rfl, rfl, trivial⟩, rfl, hK, hR14, hB15, hO7⟩
      · replace h := bif_f hb34 h
        refine c_seq ?_
        refine rg ?_
        refine st (v := (B (r8.1 == 2))) (rv_eql (a := r8.1) (b := 2) rfl rfl) ?_
        refine st (v := (B (r8.1 == 2))) (rv_assign rfl) ?_
        refine w_end ?_
        refine q_then ?_
        refine cd_cond (r8.1 == 2) rfl (fun hb42 => ?_) (fun hb42 => ?_)
        · replace h := bif_t hb42 h
          refine c_seq ?_
          refine rg ?_
          refine st (v := (Sl a5 r1 c6)) (rv_move rfl) ?_
          refine st (v := (I (r1.length : Int))) (rv_len Try.underlying24 rfl) ?_
          refine st (v := (B (decide (0 < (r1.length : Int))))) (rv_gtr (a := (r1.length : Int)) (b := 0) rfl rfl) ?_
          refine w_end ?_
          refine q_then ?_
          refine cd_cond (decide (0 < (r1.length : Int))) rfl (fun hb43 => ?_) (fun hb43 => ?_)
          · replace h := bif_t hb43 h
            refine rg ?_
            refine st (v := (Sl a5 r1 c6)) (rv_move rfl) ?_
            refine st (v := (pt br_0 0)) (rv_move rfl) ?_
            refine st (v := (Sl a5 r1 c6)) (rv_move rfl) ?_
            refine st (v := (I (r1.length : Int))) (rv_len Try.underlying24 rfl) ?_
            obtain ⟨r44, hx45, h'⟩ := bind_some h
            clear h
            have h := h'; clear h'
            refine st_call (c_spec_reader_pick hR14 hB15 hB15.lt hx45) rfl ?_
            have hd52 := hO7.ltb
            have hKs := hK.size
            rintro _ σ46 m47 ⟨a48, c49, rfl, hR50, hB51⟩
            replace hR14 := hR14.mod m47
            replace hO7 := hO7.mod' m47 (Df.ge (by rintro _ ⟨⟩; exact hltr_0) hO7.ge).symm
            replace hK := hK.self m47
            clear hKs m47
            refine st (v := (pt br_0 0)) (rv_move rfl) ?_
            refine st (v := (I n_2)) (rv_move rfl) ?_
            refine st_buildSlice (lo := σ0.size) (el := σ0.size) (xs := ([-1, n_2, 0, 1] : List Int)) (ps := [(0, (I (-1))), (1, (I n_2)), (2, (I 0)), (3, (I 1))]) (cs := [(I (-1)), (I n_2), (I 0), (I 1)]) Try.underlying24 ti3 rfl rfl (by kernel_rfl) (.cons (c := [(I (-1))]) rfl (.cons (c := [(I n_2)]) rfl (.cons (c := [(I 0)]) rfl (.cons (c := [(I 1)]) rfl (.nil))))) rfl ?_ hK.size (wanted_none _ rfl _)
            intro b54 σ55 hbn57 m56 hO53
            have hd58 := hO7.df' hbn57
            replace hR50 := hR50.mod m56
            replace hO7 := hO7.mod0 m56
            replace hB51 := hB51.mod0 m56
            replace hK := hK.none m56
            clear hbn57 m56
            have hg63 := hO53.ge
            obtain ⟨σ59, hw62, m60, hR61⟩ := hO53.pub' (Nat.le_refl _)
            rw [← hw62]; clear hw62
            replace hR50 := hR50.mod m60
            replace hO7 := hO7.mod' m60 (by first | exact hd58 | exact Df.re hd58)
            replace hB51 := hB51.mod' m60 (Df.ge (by rintro _ ⟨⟩; exact hltr_0) hO53.ge)
            replace hK := hK.own m60 hg63
            obtain ⟨r64, hx65, h'⟩ := bind_some h
            clear h
            have h := h'; clear h'
            refine st_call (c_spec_reader_one hR50 hB51 hB51.lt (hR61.low (Nat.zero_le _)) hx65) rfl ?_
            have hd72 := hO7.ltb
            have hKs := hK.size
            rintro _ σ66 m67 ⟨a68, c69, rfl, hR70, hB71⟩
            replace hR50 := hR50.mod m67
            replace hO7 := hO7.mod' m67 (Df.ge (by rintro _ ⟨⟩; exact hltr_0) hO7.ge).symm
            replace hR61 := hR61.mod m67
            replace hK := hK.self m67
            clear hKs m67
            obtain ⟨x73, hx74, h'⟩ := bind_some h
            clear h
            have h := h'; clear h'
            obtain ⟨b76, o77, hi75, -⟩ := hO7.ix hx74
            refine st (v := (pt b76 o77)) (rv_ix Try.underlying24 ti3 rfl rfl hi75) ?_
            have hg82 := hO7.ge
            refine st_store_own (e' := r64.1) (vs := [(I r64.1)]) (k := 0) ti3 hO7 hx74 hi75 rfl rfl rfl rfl rfl (Nat.le_of_ble_eq_true rfl) (by simp [plain]) (by rintro _ rfl; exact rfl) ?_
            intro σ78 m79 hO81 hs80; clear hs80
            replace hR70 := hR70.mod m79
            replace hB71 := hB71.mod' m79 (Df.ge (by rintro _ ⟨⟩; exact hltr_0) hO7.ge)
            replace hK := hK.own m79 hg82
            replace hO81 := Ow.relen hO81 List.length_set.symm
            rw [show (Sl a5 r1 c6) = (Sl a5 (r1.set r44.1.toNat r64.1) c6) from sl_len List.length_set.symm]
            refine w_end ?_
            refine q_blk ?_
            obtain rfl := Option.some.inj h
            exact ⟨rfl, _, σ78, a68, c69, a5, c6, fr_join ⟨rfl, rfl, trivial⟩, rfl, hK, hR70, hB71, hO81⟩
          · replace h := bif_f hb43 h
            refine c_skip ?_
            refine q_blk ?_
            obtain rfl := Option.some.inj h
            exact ⟨rfl, _, σ10, a12, c13, a5, c6, fr_join ⟨rfl, rfl, trivial⟩, rfl, hK, hR14, hB15, hO7⟩
        · replace h := bif_f hb42 h
          refine c_skip ?_
          refine q_blk ?_
          obtain rfl := Option.some.inj h
          exact ⟨rfl, _, σ10, a12, c13, a5, c6, fr_join ⟨rfl, rfl, trivial⟩, rfl, hK, hR14, hB15, hO7⟩
  · clear hj
    have h := h'
    clear h'
    rintro e a w ⟨rfl, ρ, σ83, a84, c85, a88, c89, rfl, rfl, hK, hR86, hB87, hO90⟩
    refine q_then ?_
    refine c_seq ?_
    refine rg ?_
    refine st (v := (Sl a88 o17.2 c89)) (rv_move rfl) ?_
    refine st (v := (Sl a88 o17.2 c89)) (rv_assign rfl) ?_
    refine w_end ?_
    refine q_then ?_
    refine c_ret ?_
    obtain rfl := Option.some.inj h
    exact bodyPost_ret (v := (Sl a88 o17.2 c89)) (results_fr1 Try.results95 rfl _) rfl ⟨_, σ83, rfl, rfl, hK, a88, c89, a84, c85, rfl, hO90, hR86, hB87⟩

theorem c_spec_someCoord {σ0 : St} {r_0 : (List UInt8) × Int} {ar_0_0 : Option Addr} {cr_0_0 : Nat} (hRr_0_0 : RS 0 σ0 (Sl ar_0_0 r_0.1 cr_0_0) r_0.1) {br_0 : Nat} (hBr_0 : Bx σ0 br_0 [(Sl ar_0_0 r_0.1 cr_0_0), (I r_0.2)])  (hltr_0 : br_0 < σ0.size) {r : Int × ((List UInt8) × Int)} (h : M.spec_someCoord r_0 = some r) :
    Cal Try.prog 99 [(pt br_0 0)] (some br_0) σ0 (fun v σ' => ∃ (a0 : Option Addr) (c0 : Nat), v = (I r.1) ∧ RS 0 σ' (Sl a0 r.2.1 c0) r.2.1 ∧ Bx σ' br_0 [(Sl a0 r.2.1 c0), (I r.2.2)]) := by
  refine ⟨⟨_, _, Try.func99, rfl, rfl⟩, ?_⟩
  refine enter (n := 12) Try.func99 rfl rfl rfl ?_
  unfold M.spec_someCoord at h
  have hK : Mod (some br_0) σ0 σ0 := Mod.refl _ _
  refine c_seq ?_
  refine rg ?_
  refine st (v := (I 0)) (rv_assign rfl) ?_
  refine w_end ?_
  refine q_then ?_
  refine c_seq ?_
  refine rg ?_
  refine st (v := (pt br_0 0)) (rv_move rfl) ?_
  refine st (v := (pt br_0 0)) (rv_move rfl) ?_
  obtain ⟨r1, hx2, h'⟩ := bind_some h
  clear h
  have h := h'; clear h'
  refine st_call (c_spec_reader_pick hRr_0_0 hBr_0 hBr_0.lt hx2) rfl ?_
  have hKs := hK.size
  rintro _ σ3 m4 ⟨a5, c6, rfl, hR7, hB8⟩
  replace hRr_0_0 := hRr_0_0.mod m4
  replace hK := hK.self m4
  clear hKs m4
  refine st (v := (I (w64 (r1.1 - 100)))) (rv_sub (a := r1.1) (b := 100) rfl rfl) ?_
  refine st (v := (pt br_0 0)) (rv_move rfl) ?_
  obtain ⟨r9, hx10, h'⟩ := bind_some h
  clear h
  have h := h'; clear h'
  refine st_call (c_spec_reader_pick hR7 hB8 hB8.lt hx10) rfl ?_
  have hKs := hK.size
  rintro _ σ11 m12 ⟨a13, c14, rfl, hR15, hB16⟩
  replace hR7 := hR7.mod m12
  replace hK := hK.self m12
  clear hKs m12
  refine st (v := (I (w64 (r9.1 - 10)))) (rv_sub (a := r9.1) (b := 10) rfl rfl) ?_
  refine st_buildSlice (lo := σ0.size) (el := σ0.size) (xs := ([0, 1, -1, 5, -7, 10, 3, 100, -100, w64 (r1.1 - 100), w64 (r9.1 - 10)] : List Int)) (ps := [(0, (I 0)), (1, (I 1)), (2, (I (-1))), (3, (I 5)), (4, (I (-7))), (5, (I 10)), (6, (I 3)), (7, (I 100)), (8, (I (-100))), (9, (I (w64 (r1.1 - 100)))), (10, (I (w64 (r9.1 - 10))))]) (cs := [(I 0), (I 1), (I (-1)), (I 5), (I (-7)), (I 10), (I 3), (I 100), (I (-100)), (I (w64 (r1.1 - 100))), (I (w64 (r9.1 - 10)))]) Try.underlying24 ti3 rfl rfl (by kernel_rfl) (.cons (c := [(I 0)]) rfl (.cons (c := [(I 1)]) rfl (.cons (c := [(I (-1))]) rfl (.cons (c := [(I 5)]) rfl (.cons (c := [(I (-7))]) rfl (.cons (c := [(I 10)]) rfl (.cons (c := [(I 3)]) rfl (.cons (c := [(I 100)]) rfl (.cons (c := [(I (-100))]) rfl (.cons (c := [(I (w64 (r1.1 - 100)))]) rfl (.cons (c := [(I (w64 (r9.1 - 10)))]) rfl (.nil)))))))))))) rfl ?_ hK.size (wanted_none _ rfl _)
  intro b18 σ19 hbn21 m20 hO17
  replace hR15 := hR15.mod m20
  replace hB16 := hB16.mod0 m20
  replace hK := hK.none m20
  clear hbn21 m20
  have hg26 := hO17.ge
  obtain ⟨σ22, hw25, m23, hR24⟩ := hO17.pub' (Nat.le_refl _)
  rw [← hw25]; clear hw25
  replace hR15 := hR15.mod m23
  replace hB16 := hB16.mod' m23 (Df.ge (by rintro _ ⟨⟩; exact hltr_0) hO17.ge)
  replace hK := hK.own m23 hg26
  obtain ⟨r27, hx28, h'⟩ := bind_some h
  clear h
  have h := h'; clear h'
  refine st_call (c_spec_reader_one hR15 hB16 hB16.lt (hR24.low (Nat.zero_le _)) hx28) rfl ?_
  have hKs := hK.size
  rintro _ σ29 m30 ⟨a31, c32, rfl, hR33, hB34⟩
  replace hR15 := hR15.mod m30
  replace hR24 := hR24.mod m30
  replace hK := hK.self m30
  clear hKs m30
  refine st (v := (I r27.1)) (rv_assign rfl) ?_
  refine w_end ?_
  refine q_then ?_
  refine c_ret ?_
  obtain rfl := Option.some.inj h
  exact bodyPost_ret (v := (I r27.1)) (results_fr1 Try.results99 rfl _) rfl ⟨_, σ29, rfl, rfl, hK, a31, c32, rfl, hR33, hB34⟩

theorem c_spec_someVector {σ0 : St} {r_0 : (List UInt8) × Int} {ar_0_0 : Option Addr} {cr_0_0 : Nat} (hRr_0_0 : RS 0 σ0 (Sl ar_0_0 r_0.1 cr_0_0) r_0.1) {br_0 : Nat} (hBr_0 : Bx σ0 br_0 [(Sl ar_0_0 r_0.1 cr_0_0), (I r_0.2)])  (hltr_0 : br_0 < σ0.size) {r : (List Int) × ((List UInt8) × Int)} (h : M.spec_someVector r_0 = some r) :
    Cal Try.prog 96 [(pt br_0 0)] (some br_0) σ0 (fun v σ' => ∃ (a0 : Option Addr) (c0 : Nat), ∃ (a1 : Option Addr) (c1 : Nat), v = (Sl a0 r.1 c0) ∧ Ow σ' σ0.size σ0.size (Sl a0 r.1 c0) r.1 ∧ RS 0 σ' (Sl a1 r.2.1 c1) r.2.1 ∧ Bx σ' br_0 [(Sl a1 r.2.1 c1), (I r.2.2)]) := by
  refine ⟨⟨_, _, Try.func96, rfl, rfl⟩, ?_⟩
  refine enter (n := 16) Try.func96 rfl rfl rfl ?_
  unfold M.spec_someVector at h
  have hK : Mod (some br_0) σ0 σ0 := Mod.refl _ _
  refine c_seq ?_
  refine rg ?_
  refine st (v := (.slice none 0 0)) (rv_assign rfl) ?_
  refine w_end ?_
  refine q_then ?_
  refine c_seq ?_
  refine rg ?_
  refine st_buildSlice (lo := σ0.size) (el := σ0.size) (xs := ([] : List Int)) (ps := []) (cs := []) Try.underlying24 ti3 rfl rfl (by kernel_rfl) (.nil) rfl ?_ hK.size (wanted_none _ rfl _)
  intro b2 σ3 hbn5 m4 hO1
  replace hRr_0_0 := hRr_0_0.mod m4
  replace hBr_0 := hBr_0.mod0 m4
  replace hK := hK.none m4
  clear hbn5 m4
  refine st (v := (Sl (some ⟨b2, 0, none⟩) ([] : List Int) 0)) (rv_assign rfl) ?_
  refine w_end ?_
  refine q_then ?_
  refine c_seq ?_
  refine c_seq ?_
  refine rg ?_
  refine st (v := (I 0)) (rv_assign rfl) ?_
  refine w_end ?_
  refine q_then ?_
  obtain ⟨o6, hj, h'⟩ := bind_some h
  clear h
  refine c_cut (fun e a w => e = .normal ∧ ∃ (ρ : Nat → Value) (σ : St) (aj1 : Option Addr) (cj2 : Nat) (aj5 : Option Addr) (cj6 : Nat), a = fr 16 (updL ρ [(0, (pt br_0 0)), (3, (Sl aj5 o6.2 cj6))]) ∧ w = σ.w ∧ Mod (some br_0) σ0 σ ∧ RS 0 σ (Sl aj1 o6.1.1 cj2) o6.1.1 ∧ Bx σ br_0 [(Sl aj1 o6.1.1 cj2), (I o6.1.2)] ∧ Ow σ σ0.size σ0.size (Sl aj5 o6.2 cj6) o6.2) ?_ ?_
  · clear h'
    rename _ = some o6 => h
    refine c_blk ?_
    refine wp_loopM _ h (fun s7 a w => ∃ (ρ : Nat → Value) (σ : St) (aj1 : Option Addr) (cj2 : Nat) (aj5 : Option Addr) (cj6 : Nat), a = fr 16 (updL ρ [(0, (pt br_0 0)), (3, (Sl aj5 s7.2.1 cj6)), (4, (I s7.2.2))]) ∧ w = σ.w ∧ Mod (some br_0) σ0 σ ∧ RS 0 σ (Sl aj1 s7.1.1 cj2) s7.1.1 ∧ Bx σ br_0 [(Sl aj1 s7.1.1 cj2), (I s7.1.2)] ∧ Ow σ σ0.size σ0.size (Sl aj5 s7.2.1 cj6) s7.2.1) ⟨_, σ3, ar_0_0, cr_0_0, (some ⟨b2, 0, none⟩), 0, fr_join ⟨rfl, rfl, rfl, trivial⟩, rfl, hK, hRr_0_0, hBr_0, hO1⟩ ?_
    clear h
    rintro s7 a w o ⟨ρ, σ9, a10, c11, a14, c15, rfl, rfl, hK, hR12, hB13, hO16⟩ h hres
    refine c_seq ?_
    refine c_seq ?_
    refine rg ?_
    refine st (v := (I s7.2.2)) (rv_move rfl) ?_
    refine st (v := (B (decide (s7.2.2 < 4)))) (rv_lss (a := s7.2.2) (b := 4) rfl rfl) ?_
    refine w_end ?_
    refine q_then ?_
    refine cd_cond (decide (s7.2.2 < 4)) rfl (fun hb17 => ?_) (fun hb17 => ?_)
    · replace h := bif_t hb17 h
      refine c_skip ?_
      refine q_then ?_
      refine c_seq ?_
      refine c_blk ?_
      refine rg ?_
      refine st (v := (Sl a14 s7.2.1 c15)) (rv_move rfl) ?_
      refine st (v := (pt br_0 0)) (rv_move rfl) ?_
      obtain ⟨r18, hx19, h'⟩ := bind_some h
      clear h
      have h := h'; clear h'
      refine st_call (c_spec_someCoord hR12 hB13 hB13.lt hx19) rfl ?_
      have hd26 := hO16.ltb
      have hKs := hK.size
      rintro _ σ20 m21 ⟨a22, c23, rfl, hR24, hB25⟩
      replace hR12 := hR12.mod m21
      replace hO16 := hO16.mod' m21 (Df.ge (by rintro _ ⟨⟩; exact hltr_0) hO16.ge).symm
      replace hK := hK.self m21
      clear hKs m21
      refine st_buildSlice (lo := σ0.size) (el := σ0.size) (xs := ([r18.1] : List Int)) (ps := [(0, (I r18.1))]) (cs := [(I r18.1)]) Try.underlying24 ti3 rfl rfl (by kernel_rfl) (.cons (c := [(I r18.1)]) rfl (.nil)) rfl ?_ hK.size (wanted_none _ rfl _)
      intro b28 σ29 hbn31 m30 hO27
      have hd32 := hO16.df' hbn31
      replace hR24 := hR24.mod m30
      replace hO16 := hO16.mod0 m30
      replace hB25 := hB25.mod0 m30
      replace hK := hK.none m30
      clear hbn31 m30
      obtain ⟨xs33, hx34, h'⟩ := bind_some h
      clear h
      have h := h'; clear h'
      have hg35 := hO16.ge
      refine st_append Try.underlying24 Try.underlying24 ti3 rfl rfl (by decide) hO16 hO27.rd hx34 hK.size rfl rfl ?_ (wanted_none _ rfl _)
      intro a40 c41 σ36 m37 hO38 hq39
      replace hR24 := hR24.mod m37
      replace hB25 := hB25.mod' m37 (Df.ge (by rintro _ ⟨⟩; exact hltr_0) hO16.ge)
      replace hK := hK.own m37 hg35
      clear hq39 m37
      refine st (v := (Sl a40 xs33 c41)) (rv_assign rfl) ?_
      refine w_end ?_
      refine q_blk ?_
      refine q_then ?_
      refine rg ?_
      refine st (v := (I s7.2.2)) (rv_move rfl) ?_
      refine st (v := (I (w64 (s7.2.2 + 1)))) (rv_add (a := s7.2.2) (b := 1) rfl rfl) ?_
      refine st (v := (I (w64 (s7.2.2 + 1)))) (rv_assign rfl) ?_
      refine w_end ?_
      refine q_then ?_
      obtain rfl := Option.some.inj h
      exact ⟨_, rfl, _, σ36, a22, c23, a40, c41, fr_join ⟨rfl, rfl, rfl, trivial⟩, rfl, hK, hR24, hB25, hO38⟩
    · replace h := bif_f hb17 h
      refine c_exit ?_
      refine q_then_x ?_
      refine q_then_x ?_
      refine q_blk_hit ?_
      obtain rfl := Option.some.inj h
      obtain rfl := hres _ rfl
      exact ⟨rfl, _, σ9, a10, c11, a14, c15, fr_join ⟨rfl, rfl, trivial⟩, rfl, hK, hR12, hB13, hO16⟩
  · clear hj
    have h := h'
    clear h'
    rintro e a w ⟨rfl, ρ, σ42, a43, c44, a47, c48, rfl, rfl, hK, hR45, hB46, hO49⟩
    refine q_then ?_
    refine c_seq ?_
    refine rg ?_
    refine st (v := (Sl a47 o6.2 c48)) (rv_move rfl) ?_
    refine st (v := (Sl a47 o6.2 c48)) (rv_assign rfl) ?_
    refine w_end ?_
    refine q_then ?_
    refine c_ret ?_
    obtain rfl := Option.some.inj h
    exact bodyPost_ret (v := (Sl a47 o6.2 c48)) (results_fr1 Try.results96 rfl _) rfl ⟨_, σ42, rfl, rfl, hK, a47, c48, a43, c44, rfl, hO49, hR45, hB46⟩

theorem c_spec_anyVector {σ0 : St} {r_0 : (List UInt8) × Int} {ar_0_0 : Option Addr} {cr_0_0 : Nat} (hRr_0_0 : RS 0 σ0 (Sl ar_0_0 r_0.1 cr_0_0) r_0.1) {br_0 : Nat} (hBr_0 : Bx σ0 br_0 [(Sl ar_0_0 r_0.1 cr_0_0), (I r_0.2)])  (hltr_0 : br_0 < σ0.size) {r : (List Int) × ((List UInt8) × Int)} (h : M.spec_anyVector r_0 = some r) :
    Cal Try.prog 82 [(pt br_0 0)] (some br_0) σ0 (fun v σ' => ∃ (a0 : Option Addr) (c0 : Nat), ∃ (a1 : Option Addr) (c1 : Nat), v = (Sl a0 r.1 c0) ∧ Ow σ' σ0.size σ0.size (Sl a0 r.1 c0) r.1 ∧ RS 0 σ' (Sl a1 r.2.1 c1) r.2.1 ∧ Bx σ' br_0 [(Sl a1 r.2.1 c1), (I r.2.2)]) := by
  refine ⟨⟨_, _, Try.func82, rfl, rfl⟩, ?_⟩
  refine enter (n := 12) Try.func82 rfl rfl rfl ?_
  unfold M.spec_anyVector at h
  have hK : Mod (some br_0) σ0 σ0 := Mod.refl _ _
  refine c_seq ?_
  refine rg ?_
  refine st (v := (.slice none 0 0)) (rv_assign rfl) ?_
  refine w_end ?_
  refine q_then ?_
  refine c_seq ?_
  refine c_seq ?_
  refine rg ?_
  refine st (v := (pt br_0 0)) (rv_move rfl) ?_
  obtain ⟨r1, hx2, h'⟩ := bind_some h
  clear h
  have h := h'; clear h'
  refine st_call (c_spec_reader_pick hRr_0_0 hBr_0 hBr_0.lt hx2) rfl ?_
  have hKs := hK.size
  rintro _ σ3 m4 ⟨a5, c6, rfl, hR7, hB8⟩
  replace hRr_0_0 := hRr_0_0.mod m4
  replace hK := hK.self m4
  clear hKs m4
  refine st (v := (B (r1.1 == 0))) (rv_eql (a := r1.1) (b := 0) rfl rfl) ?_
  refine w_end ?_
  refine q_then ?_
  refine cd_cond (r1.1 == 0) rfl (fun hb9 => ?_) (fun hb9 => ?_)
  · replace h := bif_t hb9 h
    refine c_seq ?_
    refine rg ?_
    refine st (v := (pt br_0 0)) (rv_move rfl) ?_
    refine st (v := (pt br_0 0)) (rv_move rfl) ?_
    obtain ⟨r10, hx11, h'⟩ := bind_some h
    clear h
    have h := h'; clear h'
    refine st_call (c_spec_someVector hR7 hB8 hB8.lt hx11) rfl ?_
    have hKs := hK.size
    rintro _ σ12 m13 ⟨a14, c15, a17, c18, rfl, hO16, hR19, hB20⟩
    replace hR7 := hR7.mod m13
    replace hK := hK.self m13
    have hO16g := hO16.ge
    replace hO16 := hO16.lo hKs
    replace hO16 := hO16.low' hKs
    clear hKs m13 hO16g
    have hg25 := hO16.ge
    obtain ⟨σ21, hw24, m22, hR23⟩ := hO16.pub' (Nat.le_refl _)
    rw [← hw24]; clear hw24
    replace hR19 := hR19.mod m22
    replace hB20 := hB20.mod' m22 (Df.ge (by rintro _ ⟨⟩; exact hltr_0) hO16.ge)
    replace hK := hK.own m22 hg25
    obtain ⟨r26, hx27, h'⟩ := bind_some h
    clear h
    have h := h'; clear h'
    refine st_call (c_spec_reader_spoil hR19 hB20 hB20.lt (hR23.low (Nat.zero_le _)) hx27) rfl ?_
    have hKs := hK.size
    rintro _ σ28 m29 ⟨a30, c31, a33, c34, rfl, hO32, hR35, hB36⟩
    replace hR19 := hR19.mod m29
    replace hR23 := hR23.mod m29
    replace hK := hK.self m29
    have hO32g := hO32.ge
    replace hO32 := hO32.lo hKs
    replace hO32 := hO32.low' hKs
    clear hKs m29 hO32g
    refine st (v := (Sl a30 r26.1 c31)) (rv_assign rfl) ?_
    refine w_end ?_
    refine q_then ?_
    refine c_ret ?_
    refine q_then_r ?_
    obtain rfl := Option.some.inj h
    exact bodyPost_ret (v := (Sl a30 r26.1 c31)) (results_fr1 Try.results82 rfl _) rfl ⟨_, σ28, rfl, rfl, hK, a30, c31, a33, c34, rfl, hO32, hR35, hB36⟩
  · replace h := bif_f hb9 h
    refine c_skip ?_
    refine q_then ?_
    refine c_seq ?_
    refine rg ?_
    refine st (v := (pt br_0 0)) (rv_move rfl) ?_
    obtain ⟨r37, hx38, h'⟩ := bind_some h
    clear h
    have h := h'; clear h'
    refine st_call (c_spec_someVector hR7 hB8 hB8.lt hx38) rfl ?_
    have hKs := hK.size
    rintro _ σ39 m40 ⟨a41, c42, a44, c45, rfl, hO43, hR46, hB47⟩
    replace hR7 := hR7.mod m40
    replace hK := hK.self m40
    have hO43g := hO43.ge
    replace hO43 := hO43.lo hKs
    replace hO43 := hO43.low' hKs
    clear hKs m40 hO43g
    refine st (v := (Sl a41 r37.1 c42)) (rv_assign rfl) ?_
    refine w_end ?_
    refine q_then ?_
    refine c_ret ?_
    obtain rfl := Option.some.inj h
    exact bodyPost_ret (v := (Sl a41 r37.1 c42)) (results_fr1 Try.results82 rfl _) rfl ⟨_, σ39, rfl, rfl, hK, a41, c42, a44, c45, rfl, hO43, hR46, hB47⟩

theorem c_spec_someItem {σ0 : St} {r_0 : (List UInt8) × Int} {ar_0_0 : Option Addr} {cr_0_0 : Nat} (hRr_0_0 : RS 0 σ0 (Sl ar_0_0 r_0.1 cr_0_0) r_0.1) {br_0 : Nat} (hBr_0 : Bx σ0 br_0 [(Sl ar_0_0 r_0.1 cr_0_0), (I r_0.2)])  (hltr_0 : br_0 < σ0.size) {r : (Int × (List Int) × Int) × ((List UInt8) × Int)} (h : M.spec_someItem r_0 = some r) :
    Cal Try.prog 83 [(pt br_0 0)] (some br_0) σ0 (fun v σ' => ∃ (a0 : Option Addr) (c0 : Nat), ∃ (a1 : Option Addr) (c1 : Nat), v = (.agg #[(I r.1.1), (Sl a0 r.1.2.1 c0), (I r.1.2.2)]) ∧ RS σ0.size σ' (Sl a0 r.1.2.1 c0) r.1.2.1 ∧ RS 0 σ' (Sl a1 r.2.1 c1) r.2.1 ∧ Bx σ' br_0 [(Sl a1 r.2.1 c1), (I r.2.2)]) := by
  refine ⟨⟨_, _, Try.func83, rfl, rfl⟩, ?_⟩
  refine enter (n := 11) Try.func83 rfl rfl rfl ?_
  unfold M.spec_someItem at h
  have hK : Mod (some br_0) σ0 σ0 := Mod.refl _ _
  refine c_seq ?_
  refine rg ?_
  refine st_alloc (cs := [(I 0), (.slice none 0 0), (I 0)]) ti26 rfl ?_ (wanted_none _ rfl _)
  intro b2 σ4 hbn6 m5 hB1
  have hge3 := Nat.le_trans hK.size (Nat.le_of_eq hbn6)
  replace hRr_0_0 := hRr_0_0.mod m5
  replace hBr_0 := hBr_0.mod0 m5
  replace hK := hK.none m5
  clear hbn6 m5
  refine w_end ?_
  refine q_then ?_
  refine c_seq ?_
  refine rg ?_
  refine st (v := (pt br_0 0)) (rv_move rfl) ?_
  obtain ⟨r7, hx8, h'⟩ := bind_some h
  clear h
  have h := h'; clear h'
  refine st_call (c_spec_reader_pick hRr_0_0 hBr_0 hBr_0.lt hx8) rfl ?_
  have hd15 := hB1.ltb
  have hKs := hK.size
  rintro _ σ9 m10 ⟨a11, c12, rfl, hR13, hB14⟩
  replace hRr_0_0 := hRr_0_0.mod m10
  replace hB1 := hB1.mod' m10 (Df.ge (by rintro _ ⟨⟩; exact hltr_0) (by rintro _ ⟨⟩; exact hge3)).symm
  replace hK := hK.self m10
  clear hKs m10
  refine st (v := (I (w64 (1 + r7.1)))) (rv_add (a := 1) (b := r7.1) rfl rfl) ?_
  refine st (v := (pt br_0 0)) (rv_move rfl) ?_
  obtain ⟨r16, hx17, h'⟩ := bind_some h
  clear h
  have h := h'; clear h'
  refine st_call (c_spec_someVector hR13 hB14 hB14.lt hx17) rfl ?_
  have hd27 := hB1.ltb
  have hKs := hK.size
  rintro _ σ18 m19 ⟨a20, c21, a23, c24, rfl, hO22, hR25, hB26⟩
  replace hR13 := hR13.mod m19
  replace hB1 := hB1.mod' m19 (Df.ge (by rintro _ ⟨⟩; exact hltr_0) (by rintro _ ⟨⟩; exact hge3)).symm
  replace hK := hK.self m19
  have hO22g := hO22.ge
  replace hO22 := hO22.lo hKs
  replace hO22 := hO22.low' hKs
  have hd28 := Df.ge hd27 hO22g
  clear hKs m19 hO22g
  refine st (v := (pt br_0 0)) (rv_move rfl) ?_
  obtain ⟨r29, hx30, h'⟩ := bind_some h
  clear h
  have h := h'; clear h'
  refine st_call (c_spec_reader_pick hR25 hB26 hB26.lt hx30) rfl ?_
  have hd37 := hO22.ltb
  have hd38 := hB1.ltb
  have hKs := hK.size
  rintro _ σ31 m32 ⟨a33, c34, rfl, hR35, hB36⟩
  replace hR25 := hR25.mod m32
  replace hO22 := hO22.mod' m32 (Df.ge (by rintro _ ⟨⟩; exact hltr_0) hO22.ge).symm
  replace hB1 := hB1.mod' m32 (Df.ge (by rintro _ ⟨⟩; exact hltr_0) (by rintro _ ⟨⟩; exact hge3)).symm
  replace hK := hK.self m32
  clear hKs m32
  refine st (v := (.agg #[(I (w64 (1 + r7.1))), (Sl a20 r16.1 c21), (I r29.1)])) (rv_build (ps := [(0, (I (w64 (1 + r7.1)))), (1, (Sl a20 r16.1 c21)), (2, (I r29.1))]) Try.underlying26 ti26 (bp26 Try.underlying26) rfl (by kernel_rfl)) ?_
  have hg43 := hO22.ge
  obtain ⟨σ39, hw42, m40, hR41⟩ := hO22.pub' (Nat.le_refl _)
  rw [← hw42]; clear hw42
  replace hR35 := hR35.mod m40
  replace hB36 := hB36.mod' m40 (Df.ge (by rintro _ ⟨⟩; exact hltr_0) hO22.ge)
  replace hB1 := hB1.mod' m40 (by first | exact hd28 | exact Df.reR hd28)
  replace hK := hK.own m40 hg43
  refine st_store_box (cs := [(I 0), (.slice none 0 0), (I 0)]) (vs := [(I (w64 (1 + r7.1))), (Sl a20 r16.1 c21), (I r29.1)]) ti26 hB1 rfl rfl rfl rfl (Nat.le_of_ble_eq_true rfl) (by simp [plain]) ?_
  intro σ44 m45 hB47 hs46; clear hs46
  replace hR35 := hR35.mod m45
  replace hR41 := hR41.mod m45
  replace hB36 := hB36.mod' m45 (Df.ge (by rintro _ ⟨⟩; exact hltr_0) (by rintro _ ⟨⟩; exact hge3))
  replace hK := hK.some m45 hge3
  replace hB47 := Bx.cast (cs' := [(I (w64 (1 + r7.1))), (Sl a20 r16.1 c21), (I r29.1)]) hB47 rfl
  clear hB1
  refine w_end ?_
  refine q_then ?_
  refine c_ret ?_
  obtain rfl := Option.some.inj h
  exact bodyPost_ret (v := (.agg #[(I (w64 (1 + r7.1))), (Sl a20 r16.1 c21), (I r29.1)])) (results_cell (cs := [(I (w64 (1 + r7.1))), (Sl a20 r16.1 c21), (I r29.1)]) Try.results83 Try.underlying26 rfl ti26 rfl rfl hB47) rfl ⟨_, σ44, rfl, rfl, hK, a20, c21, a33, c34, rfl, hR41, hR35, hB36⟩

theorem c_spec_anyItem {σ0 : St} {r_0 : (List UInt8) × Int} {ar_0_0 : Option Addr} {cr_0_0 : Nat} (hRr_0_0 : RS 0 σ0 (Sl ar_0_0 r_0.1 cr_0_0) r_0.1) {br_0 : Nat} (hBr_0 : Bx σ0 br_0 [(Sl ar_0_0 r_0.1 cr_0_0), (I r_0.2)])  (hltr_0 : br_0 < σ0.size) {r : (Int × (List Int) × Int) × ((List UInt8) × Int)} (h : M.spec_anyItem r_0 = some r) :
    Cal Try.prog 56 [(pt br_0 0)] (some br_0) σ0 (fun v σ' => ∃ (a0 : Option Addr) (c0 : Nat), ∃ (a1 : Option Addr) (c1 : Nat), v = (.agg #[(I r.1.1), (Sl a0 r.1.2.1 c0), (I r.1.2.2)]) ∧ RS σ0.size σ' (Sl a0 r.1.2.1 c0) r.1.2.1 ∧ RS 0 σ' (Sl a1 r.2.1 c1) r.2.1 ∧ Bx σ' br_0 [(Sl a1 r.2.1 c1), (I r.2.2)]) := by
  refine ⟨⟨_, _, Try.func56, rfl, rfl⟩, ?_⟩
  refine enter (n := 26) Try.func56 rfl rfl rfl ?_
  unfold M.spec_anyItem at h
  have hK : Mod (some br_0) σ0 σ0 := Mod.refl _ _
  refine c_seq ?_
  refine rg ?_
  refine st_alloc (cs := [(I 0), (.slice none 0 0), (I 0)]) ti26 rfl ?_ (wanted_none _ rfl _)
  intro b2 σ4 hbn6 m5 hB1
  have hge3 := Nat.le_trans hK.size (Nat.le_of_eq hbn6)
  replace hRr_0_0 := hRr_0_0.mod m5
  replace hBr_0 := hBr_0.mod0 m5
  replace hK := hK.none m5
  clear hbn6 m5
  refine w_end ?_
  refine q_then ?_
  refine c_seq ?_
  refine rg ?_
  refine st (v := (pt br_0 0)) (rv_move rfl) ?_
  obtain ⟨r7, hx8, h'⟩ := bind_some h
  clear h
  have h := h'; clear h'
  refine st_call (c_spec_someItem hRr_0_0 hBr_0 hBr_0.lt hx8) rfl ?_
  have hd18 := hB1.ltb
  have hKs := hK.size
  rintro _ σ9 m10 ⟨a11, c12, a14, c15, rfl, hR13, hR16, hB17⟩
  replace hRr_0_0 := hRr_0_0.mod m10
  replace hB1 := hB1.mod' m10 (Df.ge (by rintro _ ⟨⟩; exact hltr_0) (by rintro _ ⟨⟩; exact hge3)).symm
  replace hK := hK.self m10
  replace hR13 := hR13.low hKs
  clear hKs m10
  refine st_alloc (cs := [(I 0), (.slice none 0 0), (I 0)]) ti26 rfl ?_ (wanted_none _ rfl _)
  intro b20 σ22 hbn24 m23 hB19
  have hd25 := hB1.df' hbn24
  have hge21 := Nat.le_trans hK.size (Nat.le_of_eq hbn24)
  replace hR16 := hR16.mod m23
  replace hR13 := hR13.mod m23
  replace hB17 := hB17.mod0 m23
  replace hB1 := hB1.mod0 m23
  replace hK := hK.none m23
  clear hbn24 m23
  refine st_store_box (cs := [(I 0), (.slice none 0 0), (I 0)]) (vs := [(I r7.1.1), (Sl a11 r7.1.2.1 c12), (I r7.1.2.2)]) ti26 hB19 rfl rfl rfl rfl (Nat.le_of_ble_eq_true rfl) (by simp [plain]) ?_
  intro σ26 m27 hB29 hs28; clear hs28
  replace hR16 := hR16.mod m27
  replace hR13 := hR13.mod m27
  replace hB17 := hB17.mod' m27 (Df.ge (by rintro _ ⟨⟩; exact hltr_0) (by rintro _ ⟨⟩; exact hge21))
  replace hB1 := hB1.mod' m27 hd25
  replace hK := hK.some m27 hge21
  replace hB29 := Bx.cast (cs' := [(I r7.1.1), (Sl a11 r7.1.2.1 c12), (I r7.1.2.2)]) hB29 rfl
  clear hB19
  refine w_end ?_
  refine q_then ?_
  refine c_seq ?_
  refine c_seq ?_
  refine rg ?_
  refine st (v := (pt br_0 0)) (rv_move rfl) ?_
  obtain ⟨r30, hx31, h'⟩ := bind_some h
  clear h
  have h := h'; clear h'
  refine st_call (c_spec_reader_pick hR16 hB17 hB17.lt hx31) rfl ?_
  have hd38 := hB1.ltb
  have hd39 := hB29.ltb
  have hKs := hK.size
  rintro _ σ32 m33 ⟨a34, c35, rfl, hR36, hB37⟩
  replace hR16 := hR16.mod m33
  replace hR13 := hR13.mod m33
  replace hB1 := hB1.mod' m33 (Df.ge (by rintro _ ⟨⟩; exact hltr_0) (by rintro _ ⟨⟩; exact hge3)).symm
  replace hB29 := hB29.mod' m33 (Df.ge (by rintro _ ⟨⟩; exact hltr_0) (by rintro _ ⟨⟩; exact hge21)).symm
  replace hK := hK.self m33
  clear hKs m33
  refine w_end ?_
  refine q_then ?_
  obtain ⟨o40, hj, h'⟩ := bind_some h
  clear h
  refine c_cut (fun e a w => e = .normal ∧ ∃ (ρ : Nat → Value) (σ : St) (aj1 : Option Addr) (cj2 : Nat) (aj6 : Option Addr) (cj7 : Nat), a = fr 26 (updL ρ [(0, (pt br_0 0)), (2, (pt b2 0)), (3, (pt b20 0))]) ∧ w = σ.w ∧ Mod (some br_0) σ0 σ ∧ RS 0 σ (Sl aj1 o40.1.1 cj2) o40.1.1 ∧ Bx σ br_0 [(Sl aj1 o40.1.1 cj2), (I o40.1.2)] ∧ Bx σ b2 [(I 0), (.slice none 0 0), (I 0)] ∧ RS σ0.size σ (Sl aj6 o40.2.2.1 cj7) o40.2.2.1 ∧ Bx σ b20 [(I o40.2.1), (Sl aj6 o40.2.2.1 cj7), (I o40.2.2.2)] ∧ Df (some b20) (some b2)) ?_ ?_
  · clear h'
    rename _ = some o40 => h
    refine c_blk ?_
    refine c_seq ?_
    refine rg ?_
    refine st (v := (B (r30.1 == 0))) (rv_eql (a := r30.1) (b := 0) rfl rfl) ?_
    refine st (v := (B (r30.1 == 0))) (rv_assign rfl) ?_
    refine w_end ?_
    refine q_then ?_
    refine cd_cond (r30.1 == 0) rfl (fun hb41 => ?_) (fun hb41 => ?_)
    · replace h := bif_t hb41 h
      refine rg ?_
      refine st (v := (pt br_0 0)) (rv_move rfl) ?_
      refine st_buildSlice (lo := σ0.size) (el := σ0.size) (xs := ([0, 99, 100] : List Int)) (ps := [(0, (I 0)), (1, (I 99)), (2, (I 100))]) (cs := [(I 0), (I 99), (I 100)]) Try.underlying24 ti3 rfl rfl (by kernel_rfl) (.cons (c := [(I 0)]) rfl (.cons (c := [(I 99)]) rfl (.cons (c := [(I 100)]) rfl (.nil)))) rfl ?_ hK.size (wanted_none _ rfl _)
      intro b43 σ44 hbn46 m45 hO42
      have hd47 := hB1.df' hbn46
      have hd48 := hB29.df' hbn46
      replace hR36 := hR36.mod m45
      replace hR13 := hR13.mod m45
      replace hB37 := hB37.mod0 m45
      replace hB1 := hB1.mod0 m45
      replace hB29 := hB29.mod0 m45
      replace hK := hK.none m45
      clear hbn46 m45
      have hg53 := hO42.ge
      obtain ⟨σ49, hw52, m50, hR51⟩ := hO42.pub' (Nat.le_refl _)
      rw [← hw52]; clear hw52
      replace hR36 := hR36.mod m50
      replace hR13 := hR13.mod m50
      replace hB37 := hB37.mod' m50 (Df.ge (by rintro _ ⟨⟩; exact hltr_0) hO42.ge)
      replace hB1 := hB1.mod' m50 (by first | exact hd47 | exact Df.reR hd47)
      replace hB29 := hB29.mod' m50 (by first | exact hd48 | exact Df.reR hd48)
      replace hK := hK.own m50 hg53
      obtain ⟨r54, hx55, h'⟩ := bind_some h
      clear h
      have h := h'; clear h'
      refine st_call (c_spec_reader_one hR36 hB37 hB37.lt (hR51.low (Nat.zero_le _)) hx55) rfl ?_
      have hd62 := hB1.ltb
      have hd63 := hB29.ltb
      have hKs := hK.size
      rintro _ σ56 m57 ⟨a58, c59, rfl, hR60, hB61⟩
      replace hR36 := hR36.mod m57
      replace hR13 := hR13.mod m57
      replace hR51 := hR51.mod m57
      replace hB1 := hB1.mod' m57 (Df.ge (by rintro _ ⟨⟩; exact hltr_0) (by rintro _ ⟨⟩; exact hge3)).symm
      replace hB29 := hB29.mod' m57 (Df.ge (by rintro _ ⟨⟩; exact hltr_0) (by rintro _ ⟨⟩; exact hge21)).symm
      replace hK := hK.self m57
      clear hKs m57
      refine st (v := (pt b20 0)) (rv_fieldAddr (off := 0) (ft := 3) Try.underlying26 rfl ti3 rfl rfl) ?_
      refine st_store_box (cs := [(I r7.1.1), (Sl a11 r7.1.2.1 c12), (I r7.1.2.2)]) (vs := [(I r54.1)]) ti3 hB29 rfl rfl rfl rfl (Nat.le_of_ble_eq_true rfl) (by simp [plain]) ?_
      intro σ64 m65 hB67 hs66; clear hs66
      replace hR60 := hR60.mod m65
      replace hR13 := hR13.mod m65
      replace hB61 := hB61.mod' m65 (Df.ge (by rintro _ ⟨⟩; exact hltr_0) (by rintro _ ⟨⟩; exact hge21))
      replace hB1 := hB1.mod' m65 hd25
      replace hK := hK.some m65 hge21
      replace hB67 := Bx.cast (cs' := [(I r54.1), (Sl a11 r7.1.2.1 c12), (I r7.1.2.2)]) hB67 rfl
      clear hB29
      refine w_end ?_
      refine q_blk ?_
      obtain rfl := Option.some.inj h
      exact ⟨rfl, _, σ64, a58, c59, a11, c12, fr_join ⟨rfl, rfl, rfl, trivial⟩, rfl, hK, hR60, hB61, hB1, hR13, hB67, (hd25).symm⟩
    · replace h := bif_f hb41 h
      refine c_seq ?_
      refine rg ?_
      refine st (v := (B (r30.1 == 1))) (rv_eql (a := r30.1) (b := 1) rfl rfl) ?_
      refine st (v := (B (r30.1 == 1))) (rv_assign rfl) ?_
      refine w_end ?_
      refine q_then ?_
      refine cd_cond (r30.1 == 1) rfl (fun hb68 => ?_) (fun hb68 => ?_)
      · replace h := bif_t hb68 h
        refine rg ?_
        refine st (v := (pt br_0 0)) (rv_move rfl) ?_
        obtain ⟨r69, hx70, h'⟩ := bind_some h
        clear h
        have h := h'; clear h'
        refine st_call (c_spec_anyVector hR36 hB37 hB37.lt hx70) rfl ?_
        have hd80 := hB1.ltb
        have hd81 := hB29.ltb
        have hKs := hK.size
        rintro _ σ71 m72 ⟨a73, c74, a76, c77, rfl, hO75, hR78, hB79⟩
        replace hR36 := hR36.mod m72
        replace hR13 := hR13.mod m72
        replace hB1 := hB1.mod' m72 (Df.ge (by rintro _ ⟨⟩; exact hltr_0) (by rintro _ ⟨⟩; exact hge3)).symm
        replace hB29 := hB29.mod' m72 (Df.ge (by rintro _ ⟨⟩; exact hltr_0) (by rintro _ ⟨⟩; exact hge21)).symm
        replace hK := hK.self m72
        have hO75g := hO75.ge
        replace hO75 := hO75.lo hKs
        replace hO75 := hO75.low' hKs
        have hd82 := Df.ge hd80 hO75g
        have hd83 := Df.ge hd81 hO75g
        clear hKs m72 hO75g
        refine st (v := (pt b20 1)) (rv_fieldAddr (off := 1) (ft := 24) Try.underlying26 rfl ti24 rfl rfl) ?_
        have hg88 := hO75.ge
        obtain ⟨σ84, hw87, m85, hR86⟩ := hO75.pub' (Nat.le_refl _)
        rw [← hw87]; clear hw87
        replace hR78 := hR78.mod m85
        replace hR13 := hR13.mod m85
        replace hB79 := hB79.mod' m85 (Df.ge (by rintro _ ⟨⟩; exact hltr_0) hO75.ge)
        replace hB1 := hB1.mod' m85 (by first | exact hd82 | exact Df.reR hd82)
        replace hB29 := hB29.mod' m85 (by first | exact hd83 | exact Df.reR hd83)
        replace hK := hK.own m85 hg88
        refine st_store_box (cs := [(I r7.1.1), (Sl a11 r7.1.2.1 c12), (I r7.1.2.2)]) (vs := [(Sl a73 r69.1 c74)]) ti24 hB29 rfl rfl rfl rfl (Nat.le_of_ble_eq_true rfl) (by simp [plain]) ?_
        intro σ89 m90 hB92 hs91; clear hs91
        replace hR78 := hR78.mod m90
        replace hR13 := hR13.mod m90
        replace hR86 := hR86.mod m90
        replace hB79 := hB79.mod' m90 (Df.ge (by rintro _ ⟨⟩; exact hltr_0) (by rintro _ ⟨⟩; exact hge21))
        replace hB1 := hB1.mod' m90 hd25
        replace hK := hK.some m90 hge21
        replace hB92 := Bx.cast (cs' := [(I r7.1.1), (Sl a73 r69.1 c74), (I r7.1.2.2)]) hB92 rfl
        clear hB29
        refine w_end ?_
        refine q_blk ?_
        obtain rfl := Option.some.inj h
        exact ⟨rfl, _, σ89, a76, c77, a73, c74, fr_join ⟨rfl, rfl, rfl, trivial⟩, rfl, hK, hR78, hB79, hB1, hR86, hB92, (hd25).symm⟩
      · replace h := bif_f hb68 h
        refine c_seq ?_
        refine rg ?_
        refine st (v := (B (r30.1 == 2))) (rv_eql (a := r30.1) (b := 2) rfl rfl) ?_
        refine st (v := (B (r30.1 == 2))) (rv_assign rfl) ?_
        refine w_end ?_
        refine q_then ?_
        refine cd_cond (r30.1 == 2) rfl (fun hb93 => ?_) (fun hb93 => ?_)
        · replace h := bif_t hb93 h
          refine rg ?_
          refine st (v := (pt br_0 0)) (rv_move rfl) ?_
          refine st_buildSlice (lo := σ0.size) (el := σ0.size) (xs := ([-1, 16] : List Int)) (ps := [(0, (I (-1))), (1, (I 16))]) (cs := [(I (-1)), (I 16)]) Try.underlying24 ti3 rfl rfl (by kernel_rfl) (.cons (c := [(I (-1))]) rfl (.cons (c := [(I 16)]) rfl (.nil))) rfl ?_ hK.size (wanted_none _ rfl _)
          intro b95 σ96 hbn98 m97 hO94
          have hd99 := hB1.df' hbn98
          have hd100 := hB29.df' hbn98
          replace hR36 := hR36.mod m97
          replace hR13 := hR13.mod m97
          replace hB37 := hB37.mod0 m97
          replace hB1 := hB1.mod0 m97
          replace hB29 := hB29.mod0 m97
          replace hK := hK.none m97
          clear hbn98 m97
          have hg105 := hO94.ge
          obtain ⟨σ101, hw104, m102, hR103⟩ := hO94.pub' (Nat.le_refl _)
          rw [← hw104]; clear hw104
          replace hR36 := hR36.mod m102
          replace hR13 := hR13.mod m102
          replace hB37 := hB37.mod' m102 (Df.ge (by rintro _ ⟨⟩; exact hltr_0) hO94.ge)
          replace hB1 := hB1.mod' m102 (by first | exact hd99 | exact Df.reR hd99)
          replace hB29 := hB29.mod' m102 (by first | exact hd100 | exact Df.reR hd100)
          replace hK := hK.own m102 hg105
          obtain ⟨r106, hx107, h'⟩ := bind_some h
          clear h
          have h := h'; clear h'
          refine st_call (c_spec_reader_one hR36 hB37 hB37.lt (hR103.low (Nat.zero_le _)) hx107) rfl ?_
          have hd114 := hB1.ltb
          have hd115 := hB29.ltb
          have hKs := hK.size
          rintro _ σ108 m109 ⟨a110, c111, rfl, hR112, hB113⟩
          replace hR36 := hR36.mod m109
          replace hR13 := hR13.mod m109
          replace hR103 := hR103.mod m109
          replace hB1 := hB1.mod' m109 (Df.ge (by rintro _ ⟨⟩; exact hltr_0) (by rintro _ ⟨⟩; exact hge3)).symm
          replace hB29 := hB29.mod' m109 (Df.ge (by rintro _ ⟨⟩; exact hltr_0) (by rintro _ ⟨⟩; exact hge21)).symm
          replace hK := hK.self m109
          clear hKs m109
          refine st (v := (pt b20 2)) (rv_fieldAddr (off := 2) (ft := 3) Try.underlying26 rfl ti3 rfl rfl) ?_
          refine st_store_box (cs := [(I r7.1.1), (Sl a11 r7.1.2.1 c12), (I r7.1.2.2)]) (vs := [(I r106.1)]) ti3 hB29 rfl rfl rfl rfl (Nat.le_of_ble_eq_true rfl) (by simp [plain]) ?_
          intro σ116 m117 hB119 hs118; clear hs118
          replace hR112 := hR112.mod m117
          replace hR13 := hR13.mod m117
          replace hB113 := hB113.mod' m117 (Df.ge (by rintro _ ⟨⟩; exact hltr_0) (by rintro _ ⟨⟩; exact hge21))
          replace hB1 := hB1.mod' m117 hd25
          replace hK := hK.some m117 hge21
          replace hB119 := Bx.cast (cs' := [(I r7.1.1), (Sl a11 r7.1.2.1 c12), (I r106.1)]) hB119 rfl
          clear hB29
          refine w_end ?_
          refine q_blk ?_
          obtain rfl := Option.some.inj h
          exact ⟨rfl, _, σ116, a110, c111, a11, c12, fr_join ⟨rfl, rfl, rfl, trivial⟩, rfl, hK, hR112, hB113, hB1, hR13, hB119, (hd25).symm⟩
        · replace h := bif_f hb93 h
          refine c_skip ?_
          refine q_blk ?_
          obtain rfl := Option.some.inj h
          exact ⟨rfl, _, σ32, a34, c35, a11, c12, fr_join ⟨rfl, rfl, rfl, trivial⟩, rfl, hK, hR36, hB37, hB1, hR13, hB29, (hd25).symm⟩
  · clear hj
    have h := h'
    clear h'
    rintro e a w ⟨rfl, ρ, σ120, a121, c122, a126, c127, rfl, rfl, hK, hR123, hB124, hB125, hR128, hB129, hd130⟩
    refine q_then ?_
    refine c_seq ?_
    refine rg ?_
    refine st (v := (.agg #[(I o40.2.1), (Sl a126 o40.2.2.1 c127), (I o40.2.2.2)])) (rv_load (cs := [(I o40.2.1), (Sl a126 o40.2.2.1 c127), (I o40.2.2.2)]) Try.underlying26 rfl ti26 rfl rfl hB129.all) ?_
    refine st_store_box (cs := [(I 0), (.slice none 0 0), (I 0)]) (vs := [(I o40.2.1), (Sl a126 o40.2.2.1 c127), (I o40.2.2.2)]) ti26 hB125 rfl rfl rfl rfl (Nat.le_of_ble_eq_true rfl) (by simp [plain]) ?_
    intro σ131 m132 hB134 hs133; clear hs133
    replace hR123 := hR123.mod m132
    replace hR128 := hR128.mod m132
    replace hB124 := hB124.mod' m132 (Df.ge (by rintro _ ⟨⟩; exact hltr_0) (by rintro _ ⟨⟩; exact hge3))
    replace hK := hK.some m132 hge3
    replace hB134 := Bx.cast (cs' := [(I o40.2.1), (Sl a126 o40.2.2.1 c127), (I o40.2.2.2)]) hB134 rfl
    clear hB125
    refine w_end ?_
    refine q_then ?_
    refine c_ret ?_
    obtain rfl := Option.some.inj h
    exact bodyPost_ret (v := (.agg #[(I o40.2.1), (Sl a126 o40.2.2.1 c127), (I o40.2.2.2)])) (results_cell (cs := [(I o40.2.1), (Sl a126 o40.2.2.1 c127), (I o40.2.2.2)]) Try.results56 Try.underlying26 rfl ti26 rfl rfl hB134) rfl ⟨_, σ131, rfl, rfl, hK, a126, c127, a121, c122, rfl, hR128, hR123, hB124⟩

theorem c_spec_inRange {σ0 : St} {n_0 : Int} {low_1 : Int} {high_2 : Int}  {r : Bool} (h : M.spec_inRange n_0 low_1 high_2 = some r) :
    Cal Try.prog 72 [(I n_0), (I low_1), (I high_2)] none σ0 (fun v σ' => v = (B r)) := by
  refine ⟨⟨_, _, Try.func72, rfl, rfl⟩, ?_⟩
  refine enter (n := 15) Try.func72 rfl rfl rfl ?_
  unfold M.spec_inRange at h
  have hK : Mod none σ0 σ0 := Mod.refl _ _
  refine c_seq ?_
  refine rg ?_
  refine st (v := (B false)) (rv_assign rfl) ?_
  refine w_end ?_
  refine q_then ?_
  refine c_seq ?_
  refine rg ?_
  refine st (v := (I low_1)) (rv_move rfl) ?_
  refine st (v := (I n_0)) (rv_move rfl) ?_
  refine st (v := (B (decide (low_1 ≤ n_0)))) (rv_leq (a := low_1) (b := n_0) rfl rfl) ?_
  refine st (v := (B (decide (low_1 ≤ n_0)))) (rv_move rfl) ?_
  rcases Bool.eq_false_or_eq_true (decide (low_1 ≤ n_0)) with hb1 | hb1
  · replace h := bif_t hb1 h
    refine st_g (v := (I n_0)) (congrArg some hb1) (rv_move rfl) ?_
    refine st_g (v := (I high_2)) (congrArg some hb1) (rv_move rfl) ?_
    refine st_g (v := (B (decide (n_0 ≤ high_2)))) (congrArg some hb1) (rv_leq (a := n_0) (b := high_2) rfl rfl) ?_
    refine st (v := (B (decide (n_0 ≤ high_2)))) (rv_pick_t (congrArg B hb1) rfl) ?_
    refine st (v := (B (decide (n_0 ≤ high_2)))) (rv_assign rfl) ?_
    refine w_end ?_
    refine q_then ?_
    refine c_ret ?_
    obtain rfl := Option.some.inj h
    exact bodyPost_ret (v := (B (decide (n_0 ≤ high_2)))) (results_fr1 Try.results72 rfl _) rfl ⟨_, σ0, rfl, rfl, hK, rfl⟩
  · replace h := bif_f hb1 h
    refine st_skip (congrArg some hb1) ?_
    refine st_skip (congrArg some hb1) ?_
    refine st_skip (congrArg some hb1) ?_
    refine st (v := (B false)) (rv_pick_f (congrArg B hb1) rfl) ?_
    refine st (v := (B false)) (rv_assign rfl) ?_
    refine w_end ?_
    refine q_then ?_
    refine c_ret ?_
    obtain rfl := Option.some.inj h
    exact bodyPost_ret (v := (B false)) (results_fr1 Try.results72 rfl _) rfl ⟨_, σ0, rfl, rfl, hK, rfl⟩

theorem c_spec_allIn {σ0 : St} {list_0 : List Int} {low_1 : Int} {high_2 : Int} {alist_0 : Option Addr} {clist_0 : Nat} (hRlist_0 : RS 0 σ0 (Sl alist_0 list_0 clist_0) list_0) {r : Bool} (h : M.spec_allIn list_0 low_1 high_2 = some r) :
    Cal Try.prog 92 [(Sl alist_0 list_0 clist_0), (I low_1), (I high_2)] none σ0 (fun v σ' => v = (B r)) := by
  refine ⟨⟨_, _, Try.func92, rfl, rfl⟩, ?_⟩
  refine enter (n := 22) Try.func92 rfl rfl rfl ?_
  unfold M.spec_allIn at h
  have hK : Mod none σ0 σ0 := Mod.refl _ _
  refine c_seq ?_
  refine rg ?_
  refine st (v := (B false)) (rv_assign rfl) ?_
  refine w_end ?_
  refine q_then ?_
  refine c_seq ?_
  refine c_seq ?_
  refine rg ?_
  refine st (v := (I 0)) (rv_assign rfl) ?_
  refine w_end ?_
  refine q_then ?_
  obtain ⟨o1, hj, h'⟩ := bind_some h
  clear h
  refine c_cut (fun e a w => (∃ t, o1 = (.inl t) ∧ e = .normal ∧ ∃ (ρ : Nat → Value) (σ : St), a = fr 22 (updL ρ []) ∧ w = σ.w ∧ Mod none σ0 σ) ∨ (∃ t, o1 = (.inr t) ∧ e = .ret ∧ ∃ (ρ : Nat → Value) (σ : St), a = fr 22 (updL ρ [(6, (B t))]) ∧ w = σ.w ∧ Mod none σ0 σ)) ?_ ?_
  · clear h'
    rename _ = some o1 => h
    refine c_blk ?_
    refine wp_loopM _ h (fun s2 a w => ∃ (ρ : Nat → Value) (σ : St), a = fr 22 (updL ρ [(0, (Sl alist_0 list_0 clist_0)), (1, (I low_1)), (2, (I high_2)), (7, (I s2))]) ∧ w = σ.w ∧ Mod none σ0 σ ∧ RS 0 σ (Sl alist_0 list_0 clist_0) list_0) ⟨_, σ0, fr_join ⟨rfl, rfl, rfl, rfl, trivial⟩, rfl, hK, hRlist_0⟩ ?_
    clear h
    rintro s2 a w o ⟨ρ, σ4, rfl, rfl, hK, hR5⟩ h hres
    refine c_seq ?_
    refine c_seq ?_
    refine rg ?_
    refine st (v := (I s2)) (rv_move rfl) ?_
    refine st (v := (Sl alist_0 list_0 clist_0)) (rv_move rfl) ?_
    refine st (v := (I (list_0.length : Int))) (rv_len Try.underlying24 rfl) ?_
    refine st (v := (B (decide (s2 < (list_0.length : Int))))) (rv_lss (a := s2) (b := (list_0.length : Int)) rfl rfl) ?_
    refine w_end ?_
    refine q_then ?_
    refine cd_cond (decide (s2 < (list_0.length : Int))) rfl (fun hb6 => ?_) (fun hb6 => ?_)
    · replace h := bif_t hb6 h
      refine c_skip ?_
      refine q_then ?_
      refine c_seq ?_
      refine c_blk ?_
      refine c_seq ?_
      refine rg ?_
      refine st (v := (Sl alist_0 list_0 clist_0)) (rv_move rfl) ?_
      refine st (v := (I s2)) (rv_move rfl) ?_
      obtain ⟨x7, hx8, h'⟩ := bind_some h
      clear h
      have h := h'; clear h'
      obtain ⟨b10, o11, hi9, -⟩ := hR5.ix hx8
      refine st (v := (pt b10 o11)) (rv_ix Try.underlying24 ti3 rfl rfl hi9) ?_
      refine st (v := (I x7)) (rv_load1 Try.underlying3 rfl rfl (hR5.at hx8 hi9).int) ?_
      refine st (v := (I low_1)) (rv_move rfl) ?_
      refine st (v := (I high_2)) (rv_move rfl) ?_
      obtain ⟨r12, hx13, h'⟩ := bind_some h
      clear h
      have h := h'; clear h'
      refine st_call (c_spec_inRange  hx13) rfl ?_
      have hKs := hK.size
      rintro _ σ14 m15 rfl
      replace hR5 := hR5.mod m15
      replace hK := hK.none m15
      clear hKs m15
      refine st (v := (B (!r12))) (rv_not rfl) ?_
      refine w_end ?_
      refine q_then ?_
      refine cd_cond (!r12) rfl (fun hb16 => ?_) (fun hb16 => ?_)
      · replace h := bif_t hb16 h
        refine c_seq ?_
        refine rg ?_
        refine st (v := (B false)) (rv_assign rfl) ?_
        refine w_end ?_
        refine q_then ?_
        refine c_ret ?_
        refine q_blk_r ?_
        refine q_then_r ?_
        refine q_then_r ?_
        refine q_blk_r ?_
        obtain rfl := Option.some.inj h
        obtain rfl := hres _ rfl
        exact .inr (⟨_, rfl, rfl, _, σ14, fr_join ⟨rfl, trivial⟩, rfl, hK⟩)
      · replace h := bif_f hb16 h
        refine c_skip ?_
        refine q_blk ?_
        refine q_then ?_
        refine rg ?_
        refine st (v := (I s2)) (rv_move rfl) ?_
        refine st (v := (I (w64 (s2 + 1)))) (rv_add (a := s2) (b := 1) rfl rfl) ?_
        refine st (v := (I (w64 (s2 + 1)))) (rv_assign rfl) ?_
        refine w_end ?_
        refine q_then ?_
        obtain rfl := Option.some.inj h
        exact ⟨_, rfl, _, σ14, fr_join ⟨rfl, rfl, rfl, rfl, trivial⟩, rfl, hK, hR5⟩
    · replace h := bif_f hb6 h
      refine c_exit ?_
      refine q_then_x ?_
      refine q_then_x ?_
      refine q_blk_hit ?_
      obtain rfl := Option.some.inj h
      obtain rfl := hres _ rfl
      exact .inl ⟨_, rfl, rfl, _, σ4, fr_join trivial, rfl, hK⟩
  · clear hj
    have h := h'
    clear h'
    rintro e a w (⟨t17, rfl, rfl, ρ, σ18, rfl, rfl, hK⟩ | ⟨t19, rfl, rfl, ρ, σ20, rfl, rfl, hK⟩)
    · replace h := selim_l h
      refine q_then ?_
      refine c_seq ?_
      refine rg ?_
      refine st (v := (B true)) (rv_assign rfl) ?_
      refine w_end ?_
      refine q_then ?_
      refine c_ret ?_
      obtain rfl := Option.some.inj h
      exact bodyPost_ret (v := (B true)) (results_fr1 Try.results92 rfl _) rfl ⟨_, σ18, rfl, rfl, hK, rfl⟩
    · replace h := selim_r h
      refine q_then_r ?_
      obtain rfl := Option.some.inj h
      exact bodyPost_ret (v := (B t19)) (results_fr1 Try.results92 rfl _) rfl ⟨_, σ20, rfl, rfl, hK, rfl⟩

theorem c_spec_isVector {σ0 : St} {v_0 : List Int} {av_0 : Option Addr} {cv_0 : Nat} (hRv_0 : RS 0 σ0 (Sl av_0 v_0 cv_0) v_0) {r : Bool} (h : M.spec_isVector v_0 = some r) :
    Cal Try.prog 66 [(Sl av_0 v_0 cv_0)] none σ0 (fun v σ' => v = (B r)) := by
  refine ⟨⟨_, _, Try.func66, rfl, rfl⟩, ?_⟩
  refine enter (n := 10) Try.func66 rfl rfl rfl ?_
  unfold M.spec_isVector at h
  have hK : Mod none σ0 σ0 := Mod.refl _ _
  refine c_seq ?_
  refine rg ?_
  refine st (v := (B false)) (rv_assign rfl) ?_
  refine w_end ?_
  refine q_then ?_
  refine c_seq ?_
  refine rg ?_
  refine st (v := (Sl av_0 v_0 cv_0)) (rv_move rfl) ?_
  refine st (v := (I (v_0.length : Int))) (rv_len Try.underlying24 rfl) ?_
  refine st (v := (B ((v_0.length : Int) == 4))) (rv_eql (a := (v_0.length : Int)) (b := 4) rfl rfl) ?_
  refine st (v := (B ((v_0.length : Int) == 4))) (rv_move rfl) ?_
  rcases Bool.eq_false_or_eq_true ((v_0.length : Int) == 4) with hb1 | hb1
  · replace h := bif_t hb1 h
    refine st_g (v := (Sl av_0 v_0 cv_0)) (congrArg some hb1) (rv_move rfl) ?_
    obtain ⟨r2, hx3, h'⟩ := bind_some h
    clear h
    have h := h'; clear h'
    refine st_call_g (by exact (congrArg some hb1)) (c_spec_allIn hRv_0 hx3) rfl ?_
    have hKs := hK.size
    rintro _ σ4 m5 rfl
    replace hRv_0 := hRv_0.mod m5
    replace hK := hK.none m5
    clear hKs m5
    refine st (v := (B r2)) (rv_pick_t (congrArg B hb1) rfl) ?_
    refine st (v := (B r2)) (rv_assign rfl) ?_
    refine w_end ?_
    refine q_then ?_
    refine c_ret ?_
    obtain rfl := Option.some.inj h
    exact bodyPost_ret (v := (B r2)) (results_fr1 Try.results66 rfl _) rfl ⟨_, σ4, rfl, rfl, hK, rfl⟩
  · replace h := bif_f hb1 h
    refine st_skip (congrArg some hb1) ?_
    refine st_skip (congrArg some hb1) ?_
    refine st (v := (B false)) (rv_pick_f (congrArg B hb1) rfl) ?_
    refine st (v := (B false)) (rv_assign rfl) ?_
    refine w_end ?_
    refine q_then ?_
    refine c_ret ?_
    obtain rfl := Option.some.inj h
    exact bodyPost_ret (v := (B false)) (results_fr1 Try.results66 rfl _) rfl ⟨_, σ0, rfl, rfl, hK, rfl⟩

theorem c_spec_validItem {σ0 : St} {x_0 : Int × (List Int) × Int} {ax_0_1 : Option Addr} {cx_0_1 : Nat} (hRx_0_1 : RS 0 σ0 (Sl ax_0_1 x_0.2.1 cx_0_1) x_0.2.1) {r : Bool} (h : M.spec_validItem x_0 = some r) :
    Cal Try.prog 63 [(.agg #[(I x_0.1), (Sl ax_0_1 x_0.2.1 cx_0_1), (I x_0.2.2)])] none σ0 (fun v σ' => v = (B r)) := by
  refine ⟨⟨_, _, Try.func63, rfl, rfl⟩, ?_⟩
  refine enter (n := 16) Try.func63 rfl rfl rfl ?_
  unfold M.spec_validItem at h
  have hK : Mod none σ0 σ0 := Mod.refl _ _
  refine c_seq ?_
  refine rg ?_
  refine st_box (cs := [(I x_0.1), (Sl ax_0_1 x_0.2.1 cx_0_1), (I x_0.2.2)]) rfl rfl ?_ (wanted_none _ rfl _)
  intro b2 σ4 hbn6 m5 hB1
  have hge3 := Nat.le_trans hK.size (Nat.le_of_eq hbn6)
  replace hRx_0_1 := hRx_0_1.mod m5
  replace hK := hK.none m5
  clear hbn6 m5
  refine st (v := (B false)) (rv_assign rfl) ?_
  refine w_end ?_
  refine q_then ?_
  refine c_seq ?_
  refine rg ?_
  refine st (v := (pt b2 0)) (rv_fieldAddr (off := 0) (ft := 3) Try.underlying26 rfl ti3 rfl rfl) ?_
  refine st (v := (I x_0.1)) (rv_load1 Try.underlying3 rfl rfl (hB1.cell' 0 rfl rfl)) ?_
  obtain ⟨r7, hx8, h'⟩ := bind_some h
  clear h
  have h := h'; clear h'
  refine st_call (c_spec_inRange  hx8) rfl ?_
  have hd11 := hB1.ltb
  have hKs := hK.size
  rintro _ σ9 m10 rfl
  replace hRx_0_1 := hRx_0_1.mod m10
  replace hB1 := hB1.mod0 m10
  replace hK := hK.none m10
  clear hKs m10
  refine st (v := (B r7)) (rv_move rfl) ?_
  rcases Bool.eq_false_or_eq_true r7 with hb12 | hb12
  · replace h := bif_t hb12 h
    refine st_g (v := (pt b2 1)) (congrArg some hb12) (rv_fieldAddr (off := 1) (ft := 24) Try.underlying26 rfl ti24 rfl rfl) ?_
    refine st_g (v := (Sl ax_0_1 x_0.2.1 cx_0_1)) (congrArg some hb12) (rv_load1 Try.underlying24 rfl rfl (hB1.cell' 1 rfl rfl)) ?_
    obtain ⟨r13, hx14, h'⟩ := bind_some h
    clear h
    have h := h'; clear h'
    refine st_call_g (by exact (congrArg some hb12)) (c_spec_isVector hRx_0_1 hx14) rfl ?_
    have hd17 := hB1.ltb
    have hKs := hK.size
    rintro _ σ15 m16 rfl
    replace hRx_0_1 := hRx_0_1.mod m16
    replace hB1 := hB1.mod0 m16
    replace hK := hK.none m16
    clear hKs m16
    refine st (v := (B r13)) (rv_pick_t (congrArg B hb12) rfl) ?_
    refine st (v := (B r13)) (rv_move rfl) ?_
    rcases Bool.eq_false_or_eq_true r13 with hb18 | hb18
    · replace h := bif_t hb18 h
      refine st_g (v := (pt b2 2)) (congrArg some hb18) (rv_fieldAddr (off := 2) (ft := 3) Try.underlying26 rfl ti3 rfl rfl) ?_
      refine st_g (v := (I x_0.2.2)) (congrArg some hb18) (rv_load1 Try.underlying3 rfl rfl (hB1.cell' 2 rfl rfl)) ?_
      obtain ⟨r19, hx20, h'⟩ := bind_some h
      clear h
      have h := h'; clear h'
      refine st_call_g (by exact (congrArg some hb18)) (c_spec_inRange  hx20) rfl ?_
      have hKs := hK.size
      rintro _ σ21 m22 rfl
      replace hK := hK.none m22
      clear hKs m22
      refine st (v := (B r19)) (rv_pick_t (congrArg B hb18) rfl) ?_
      refine st (v := (B r19)) (rv_assign rfl) ?_
      refine w_end ?_
      refine q_then ?_
      refine c_ret ?_
      obtain rfl := Option.some.inj h
      exact bodyPost_ret (v := (B r19)) (results_fr1 Try.results63 rfl _) rfl ⟨_, σ21, rfl, rfl, hK, rfl⟩
    · replace h := bif_f hb18 h
      refine st_skip (congrArg some hb18) ?_
      refine st_skip (congrArg some hb18) ?_
      refine st_skip (congrArg some hb18) ?_
      refine st (v := (B false)) (rv_pick_f (congrArg B hb18) rfl) ?_
      refine st (v := (B false)) (rv_assign rfl) ?_
      refine w_end ?_
      refine q_then ?_
      refine c_ret ?_
      obtain rfl := Option.some.inj h
      exact bodyPost_ret (v := (B false)) (results_fr1 Try.results63 rfl _) rfl ⟨_, σ15, rfl, rfl, hK, rfl⟩
  · replace h := bif_f hb12 h
    refine st_skip (congrArg some hb12) ?_
    refine st_skip (congrArg some hb12) ?_
    refine st_skip (congrArg some hb12) ?_
    refine st (v := (B false)) (rv_pick_f (congrArg B hb12) rfl) ?_
    refine st (v := (B false)) (rv_move rfl) ?_
    refine st_skip rfl ?_
    refine st_skip rfl ?_
    refine st_skip rfl ?_
    refine st (v := (B false)) (rv_pick_f rfl rfl) ?_
    refine st (v := (B false)) (rv_assign rfl) ?_
    refine w_end ?_
    refine q_then ?_
    refine c_ret ?_
    obtain rfl := Option.some.inj h
    exact bodyPost_ret (v := (B false)) (results_fr1 Try.results63 rfl _) rfl ⟨_, σ9, rfl, rfl, hK, rfl⟩

theorem c_spec_validStore {σ0 : St} {list_0 : List (Int × (List Int) × Int)} {alist_0 : Option Addr} {clist_0 : Nat} (hRlist_0 : RS 0 σ0 (Sl alist_0 list_0 clist_0) list_0) {r : Bool} (h : M.spec_validStore list_0 = some r) :
    Cal Try.prog 62 [(Sl alist_0 list_0 clist_0)] none σ0 (fun v σ' => v = (B r)) := by
  refine ⟨⟨_, _, Try.func62, rfl, rfl⟩, ?_⟩
  refine enter (n := 37) Try.func62 rfl rfl rfl ?_
  unfold M.spec_validStore at h
  have hK : Mod none σ0 σ0 := Mod.refl _ _
  refine c_seq ?_
  refine rg ?_
  refine st (v := (B false)) (rv_assign rfl) ?_
  refine w_end ?_
  refine q_then ?_
  refine c_seq ?_
  refine c_seq ?_
  refine rg ?_
  refine st (v := (I 0)) (rv_assign rfl) ?_
  refine w_end ?_
  refine q_then ?_
  obtain ⟨o1, hj, h'⟩ := bind_some h
  clear h
  refine c_cut (fun e a w => (∃ t, o1 = (.inl t) ∧ e = .normal ∧ ∃ (ρ : Nat → Value) (σ : St), a = fr 37 (updL ρ [(0, (Sl alist_0 list_0 clist_0))]) ∧ w = σ.w ∧ Mod none σ0 σ ∧ RS 0 σ (Sl alist_0 list_0 clist_0) list_0) ∨ (∃ t, o1 = (.inr t) ∧ e = .ret ∧ ∃ (ρ : Nat → Value) (σ : St), a = fr 37 (updL ρ [(2, (B t))]) ∧ w = σ.w ∧ Mod none σ0 σ)) ?_ ?_
  · clear h'
    rename _ = some o1 => h
    refine c_blk ?_
    refine wp_loopM _ h (fun s2 a w => ∃ (ρ : Nat → Value) (σ : St), a = fr 37 (updL ρ [(0, (Sl alist_0 list_0 clist_0)), (3, (I s2))]) ∧ w = σ.w ∧ Mod none σ0 σ ∧ RS 0 σ (Sl alist_0 list_0 clist_0) list_0) ⟨_, σ0, fr_join ⟨rfl, rfl, trivial⟩, rfl, hK, hRlist_0⟩ ?_
    clear h
    rintro s2 a w o ⟨ρ, σ4, rfl, rfl, hK, hR5⟩ h hres
    refine c_seq ?_
    refine c_seq ?_
    refine rg ?_
    refine st (v := (I s2)) (rv_move rfl) ?_
    refine st (v := (Sl alist_0 list_0 clist_0)) (rv_move rfl) ?_
    refine st (v := (I (list_0.length : Int))) (rv_len Try.underlying23 rfl) ?_
    refine st (v := (B (decide (s2 < (list_0.length : Int))))) (rv_lss (a := s2) (b := (list_0.length : Int)) rfl rfl) ?_
    refine w_end ?_
    refine q_then ?_
    refine cd_cond (decide (s2 < (list_0.length : Int))) rfl (fun hb6 => ?_) (fun hb6 => ?_)
    · replace h := bif_t hb6 h
      refine c_skip ?_
      refine q_then ?_
      refine c_seq ?_
      refine c_blk ?_
      refine c_seq ?_
      obtain ⟨o7, hj, h'⟩ := bind_some h
      clear h
      refine c_cut (fun e a w => e = .normal ∧ ∃ (ρ : Nat → Value) (σ : St), a = fr 37 (updL ρ [(0, (Sl alist_0 list_0 clist_0)), (3, (I s2)), (33, (B o7))]) ∧ w = σ.w ∧ Mod none σ0 σ ∧ RS 0 σ (Sl alist_0 list_0 clist_0) list_0) ?_ ?_
      · clear h'
        rename _ = some o7 => h
        obtain ⟨x8, hx9, h'⟩ := bind_some h
        clear h
        have h := h'; clear h'
        obtain ⟨b11, o12, hi10, -⟩ := hR5.ix hx9
        obtain ⟨_, ⟨_, _, rfl, rfl, ⟨_, _, rfl, ⟨_, rfl, hR18⟩, rfl⟩⟩, hl14, hc15⟩ := (hR5.at hx9 hi10).cells
        obtain ⟨a16, c17, rfl⟩ := hR18.isSl
        obtain ⟨r19, hx20, h'⟩ := bind_some h
        clear h
        have h := h'; clear h'
        rcases Bool.eq_false_or_eq_true (!r19) with hb21 | hb21
        · replace h := bif_t hb21 h
          refine rg_monoL (σ := σ4) 21 [eqv (Sl alist_0 list_0 clist_0), eqv (I s2), eqv (pt b11 o12), eqv (.agg #[(I x8.1), (Sl a16 x8.2.1 c17), (I x8.2.2)]), eqv (B r19), eqv (B (!r19)), eqv (B (!r19)), eqv undef, eqv undef, eqv undef, eqv undef, eqv undef, eqv undef, eqv undef, eqv undef, eqv undef, eqv undef, eqv undef, eqv undef, eqv undef, eqv undef] (by kernel_rfl) (by kernel_rfl) (mono_cons mono_eqv (mono_cons mono_eqv (mono_cons mono_eqv (mono_cons mono_eqv (mono_cons mono_eqv (mono_cons mono_eqv (mono_cons mono_eqv (mono_cons mono_eqv (mono_cons mono_eqv (mono_cons mono_eqv (mono_cons mono_eqv (mono_cons mono_eqv (mono_cons mono_eqv (mono_cons mono_eqv (mono_cons mono_eqv (mono_cons mono_eqv (mono_cons mono_eqv (mono_cons mono_eqv (mono_cons mono_eqv (mono_cons mono_eqv (mono_cons mono_eqv (mono_nil)))))))))))))))))))))) ?_ ?_
          · refine all_cons (by
                intro ρ σm m hoff hdep
                have e0 : look 37 ρ 0 = (Sl alist_0 list_0 clist_0) := look_off (hoff 0 rfl) rfl
                exact does_v (v := (Sl alist_0 list_0 clist_0)) (wanted_none _ rfl _) (rv_move e0) rfl) ?_
            refine all_cons (by
                intro ρ σm m hoff hdep
                have e3 : look 37 ρ 3 = (I s2) := look_off (hoff 3 rfl) rfl
                exact does_v (v := (I s2)) (wanted_none _ rfl _) (rv_move e3) rfl) ?_
            refine all_cons (by
                intro ρ σm m hoff hdep
                have e10 : look 37 ρ 10 = (Sl alist_0 list_0 clist_0) := hdep 0 rfl rfl 10 rfl
                have e11 : look 37 ρ 11 = (I s2) := hdep 1 rfl rfl 11 rfl
                exact does_v (v := (pt b11 o12)) (wanted_none _ rfl _) (rv_ix Try.underlying23 ti26 e10 e11 hi10) rfl) ?_
            refine all_cons (by
                intro ρ σm m hoff hdep
                have e12 : look 37 ρ 12 = (pt b11 o12) := hdep 2 rfl rfl 12 rfl
                replace hc15 := fun j hj => hR5.hmod hx9 hi10 (k := j) (Nat.lt_of_lt_of_eq hj hl14) (hc15 j hj) m
                exact does_v (v := (.agg #[(I x8.1), (Sl a16 x8.2.1 c17), (I x8.2.2)])) (wanted_none _ rfl _) (rv_load Try.underlying26 rfl ti26 e12 hl14 hc15) rfl) ?_
            refine all_cons (by
                intro ρ σm m hoff hdep
                have e13 : look 37 ρ 13 = (.agg #[(I x8.1), (Sl a16 x8.2.1 c17), (I x8.2.2)]) := hdep 3 rfl rfl 13 rfl
                replace hR18 := hR18.mod m
                have hKs : σ4.size ≤ σm.size := m.size
                exact does_call (wanted_none _ rfl _) (c_spec_validItem hR18 hx20) (by show [look 37 ρ 13] = _; rw [e13]) (by rintro v σ2 m2 rfl; exact rfl)) ?_
            refine all_cons (by
                intro ρ σm m hoff hdep
                have e14 : look 37 ρ 14 = (B r19) := hdep 4 rfl rfl 14 rfl
                exact does_v (v := (B (!r19))) (wanted_none _ rfl _) (rv_not e14) rfl) ?_
            refine all_cons (by
                intro ρ σm m hoff hdep
                have e15 : look 37 ρ 15 = (B (!r19)) := hdep 5 rfl rfl 15 rfl
                exact does_v (v := (B (!r19))) (wanted_none _ rfl _) (rv_move e15) rfl) ?_
            refine all_cons (by
                intro ρ σm m hoff hdep
                have e16 : look 37 ρ 16 = (B (!r19)) := hdep 6 rfl rfl 16 rfl
                exact does_skip (wanted_no rfl (yv_of rfl (e16.trans (congrArg B hb21)))) rfl) ?_
            refine all_cons (by
                intro ρ σm m hoff hdep
                have e16 : look 37 ρ 16 = (B (!r19)) := hdep 6 rfl rfl 16 rfl
                exact does_skip (wanted_no rfl (yv_of rfl (e16.trans (congrArg B hb21)))) rfl) ?_
            refine all_cons (by
                intro ρ σm m hoff hdep
                have e16 : look 37 ρ 16 = (B (!r19)) := hdep 6 rfl rfl 16 rfl
                exact does_skip (wanted_no rfl (yv_of rfl (e16.trans (congrArg B hb21)))) rfl) ?_
            refine all_cons (by
                intro ρ σm m hoff hdep
                have e19 : look 37 ρ 19 = undef := hdep 9 rfl rfl 19 rfl
                exact does_skip (wanted_u rfl (yv_undef rfl e19)) rfl) ?_
            refine all_cons (by
                intro ρ σm m hoff hdep
                have e19 : look 37 ρ 19 = undef := hdep 9 rfl rfl 19 rfl
                exact does_skip (wanted_u rfl (yv_undef rfl e19)) rfl) ?_
            refine all_cons (by
                intro ρ σm m hoff hdep
                have e19 : look 37 ρ 19 = undef := hdep 9 rfl rfl 19 rfl
                exact does_skip (wanted_u rfl (yv_undef rfl e19)) rfl) ?_
            refine all_cons (by
                intro ρ σm m hoff hdep
                have e19 : look 37 ρ 19 = undef := hdep 9 rfl rfl 19 rfl
                exact does_skip (wanted_u rfl (yv_undef rfl e19)) rfl) ?_
            refine all_cons (by
                intro ρ σm m hoff hdep
                have e19 : look 37 ρ 19 = undef := hdep 9 rfl rfl 19 rfl
                exact does_skip (wanted_u rfl (yv_undef rfl e19)) rfl) ?_
            refine all_cons (by
                intro ρ σm m hoff hdep
                have e19 : look 37 ρ 19 = undef := hdep 9 rfl rfl 19 rfl
                exact does_skip (wanted_u rfl (yv_undef rfl e19)) rfl) ?_
            refine all_cons (by
                intro ρ σm m hoff hdep
                have e19 : look 37 ρ 19 = undef := hdep 9 rfl rfl 19 rfl
                exact does_skip (wanted_u rfl (yv_undef rfl e19)) rfl) ?_
            refine all_cons (by
                intro ρ σm m hoff hdep
                have e19 : look 37 ρ 19 = undef := hdep 9 rfl rfl 19 rfl
                exact does_skip (wanted_u rfl (yv_undef rfl e19)) rfl) ?_
            refine all_cons (by
                intro ρ σm m hoff hdep
                have e19 : look 37 ρ 19 = undef := hdep 9 rfl rfl 19 rfl
                exact does_skip (wanted_u rfl (yv_undef rfl e19)) rfl) ?_
            refine all_cons (by
                intro ρ σm m hoff hdep
                have e19 : look 37 ρ 19 = undef := hdep 9 rfl rfl 19 rfl
                exact does_skip (wanted_u rfl (yv_undef rfl e19)) rfl) ?_
            refine all_cons (by
                intro ρ σm m hoff hdep
                have e19 : look 37 ρ 19 = undef := hdep 9 rfl rfl 19 rfl
                exact does_skip (wanted_u rfl (yv_undef rfl e19)) rfl) ?_
            exact all_nil
          · intro ρ σ22 m hoff hrel
            have e0 : look 37 ρ 0 = (Sl alist_0 list_0 clist_0) := look_off (hoff 0 rfl) rfl
            have e3 : look 37 ρ 3 = (I s2) := look_off (hoff 3 rfl) rfl
            have e16 : look 37 ρ 16 = (B (!r19)) := hrel 6 rfl 16 rfl
            have e19 : look 37 ρ 19 = undef := hrel 9 rfl 19 rfl
            have e24 : look 37 ρ 24 = undef := hrel 14 rfl 24 rfl
            have e30 : look 37 ρ 30 = undef := hrel 20 rfl 30 rfl
            replace hR5 := hR5.mod m
            replace hK := hK.none m
            rw [fr_lookL (L := [(0, (Sl alist_0 list_0 clist_0)), (3, (I s2)), (16, (B (!r19))), (19, undef), (24, undef), (30, undef)]) ⟨e0, e3, e16, e19, e24, e30, trivial⟩]
            clear hoff hrel m e0 e3 e16 e19 e24 e30
            refine st_skip_u rfl ?_
            refine st_skip (congrArg some hb21) ?_
            refine st (v := (B true)) (rv_pick_t (congrArg B hb21) rfl) ?_
            refine w_end ?_
            obtain rfl := Option.some.inj h
            exact ⟨rfl, _, σ22, fr_join ⟨rfl, rfl, rfl, trivial⟩, rfl, hK, hR5⟩
        · replace h := bif_f hb21 h
          rcases Bool.eq_false_or_eq_true (decide (0 < s2)) with hb23 | hb23
          · replace h := bif_t hb23 h
            obtain ⟨x24, hx25, h'⟩ := bind_some h
            clear h
            have h := h'; clear h'
            obtain ⟨b27, o28, hi26, -⟩ := hR5.ix hx25
            obtain ⟨x29, hx30, h'⟩ := bind_some h
            clear h
            have h := h'; clear h'
            obtain ⟨b32, o33, hi31, -⟩ := hR5.ix hx30
            refine rg_monoL (σ := σ4) 21 [eqv (Sl alist_0 list_0 clist_0), eqv (I s2), eqv (pt b11 o12), eqv (.agg #[(I x8.1), (Sl a16 x8.2.1 c17), (I x8.2.2)]), eqv (B r19), eqv (B (!r19)), eqv (B (!r19)), eqv (I s2), eqv (B (decide (0 < s2))), eqv (B (decide (0 < s2))), eqv (Sl alist_0 list_0 clist_0), eqv (I s2), eqv (pt b27 o28), eqv (pt b27 (o28 + 0)), eqv (I x24.1), eqv (Sl alist_0 list_0 clist_0), eqv (I s2), eqv (I (w64 (s2 - 1))), eqv (pt b32 o33), eqv (pt b32 (o33 + 0)), eqv (I x29.1)] (by kernel_rfl) (by kernel_rfl) (mono_cons mono_eqv (mono_cons mono_eqv (mono_cons mono_eqv (mono_cons mono_eqv (mono_cons mono_eqv (mono_cons mono_eqv (mono_cons mono_eqv (mono_cons mono_eqv (mono_cons mono_eqv (mono_cons mono_eqv (mono_cons mono_eqv (mono_cons mono_eqv (mono_cons mono_eqv (mono_cons mono_eqv (mono_cons mono_eqv (mono_cons mono_eqv (mono_cons mono_eqv (mono_cons mono_eqv (mono_cons mono_eqv (mono_cons mono_eqv (mono_cons mono_eqv (mono_nil)))))))))))))))))))))) ?_ ?_
            · refine all_cons (by
                  intro ρ σm m hoff hdep
                  have e0 : look 37 ρ 0 = (Sl alist_0 list_0 clist_0) := look_off (hoff 0 rfl) rfl
                  exact does_v (v := (Sl alist_0 list_0 clist_0)) (wanted_none _ rfl _) (rv_move e0) rfl) ?_
              refine all_cons (by
                  intro ρ σm m hoff hdep
                  have e3 : look 37 ρ 3 = (I s2) := look_off (hoff 3 rfl) rfl
                  exact does_v (v := (I s2)) (wanted_none _ rfl _) (rv_move e3) rfl) ?_
              refine all_cons (by
                  intro ρ σm m hoff hdep
                  have e10 : look 37 ρ 10 = (Sl alist_0 list_0 clist_0) := hdep 0 rfl rfl 10 rfl
                  have e11 : look 37 ρ 11 = (I s2) := hdep 1 rfl rfl 11 rfl
                  exact does_v (v := (pt b11 o12)) (wanted_none _ rfl _) (rv_ix Try.underlying23 ti26 e10 e11 hi10) rfl) ?_
              refine all_cons (by
                  intro ρ σm m hoff hdep
                  have e12 : look 37 ρ 12 = (pt b11 o12) := hdep 2 rfl rfl 12 rfl
                  replace hc15 := fun j hj => hR5.hmod hx9 hi10 (k := j) (Nat.lt_of_lt_of_eq hj hl14) (hc15 j hj) m
                  exact does_v (v := (.agg #[(I x8.1), (Sl a16 x8.2.1 c17), (I x8.2.2)])) (wanted_none _ rfl _) (rv_load Try.underlying26 rfl ti26 e12 hl14 hc15) rfl) ?_
              refine all_cons (by
                  intro ρ σm m hoff hdep
                  have e13 : look 37 ρ 13 = (.agg #[(I x8.1), (Sl a16 x8.2.1 c17), (I x8.2.2)]) := hdep 3 rfl rfl 13 rfl
                  replace hR18 := hR18.mod m
                  have hKs : σ4.size ≤ σm.size := m.size
                  exact does_call (wanted_none _ rfl _) (c_spec_validItem hR18 hx20) (by show [look 37 ρ 13] = _; rw [e13]) (by rintro v σ2 m2 rfl; exact rfl)) ?_
              refine all_cons (by
                  intro ρ σm m hoff hdep
                  have e14 : look 37 ρ 14 = (B r19) := hdep 4 rfl rfl 14 rfl
                  exact does_v (v := (B (!r19))) (wanted_none _ rfl _) (rv_not e14) rfl) ?_
              refine all_cons (by
                  intro ρ σm m hoff hdep
                  have e15 : look 37 ρ 15 = (B (!r19)) := hdep 5 rfl rfl 15 rfl
                  exact does_v (v := (B (!r19))) (wanted_none _ rfl _) (rv_move e15) rfl) ?_
              refine all_cons (by
                  intro ρ σm m hoff hdep
                  have e3 : look 37 ρ 3 = (I s2) := look_off (hoff 3 rfl) rfl
                  have e16 : look 37 ρ 16 = (B (!r19)) := hdep 6 rfl rfl 16 rfl
                  exact does_v (v := (I s2)) (wanted_yes rfl (yv_of rfl (e16.trans (congrArg B hb21)))) (rv_move e3) rfl) ?_
              refine all_cons (by
                  intro ρ σm m hoff hdep
                  have e17 : look 37 ρ 17 = (I s2) := hdep 7 rfl rfl 17 rfl
                  have e16 : look 37 ρ 16 = (B (!r19)) := hdep 6 rfl rfl 16 rfl
                  exact does_v (v := (B (decide (0 < s2)))) (wanted_yes rfl (yv_of rfl (e16.trans (congrArg B hb21)))) (rv_gtr (a := s2) (b := 0) e17 rfl) rfl) ?_
              refine all_cons (by
                  intro ρ σm m hoff hdep
                  have e18 : look 37 ρ 18 = (B (decide (0 < s2))) := hdep 8 rfl rfl 18 rfl
                  have e16 : look 37 ρ 16 = (B (!r19)) := hdep 6 rfl rfl 16 rfl
                  exact does_v (v := (B (decide (0 < s2)))) (wanted_yes rfl (yv_of rfl (e16.trans (congrArg B hb21)))) (rv_move e18) rfl) ?_
              refine all_cons (by
                  intro ρ σm m hoff hdep
                  have e0 : look 37 ρ 0 = (Sl alist_0 list_0 clist_0) := look_off (hoff 0 rfl) rfl
                  have e19 : look 37 ρ 19 = (B (decide (0 < s2))) := hdep 9 rfl rfl 19 rfl
                  exact does_v (v := (Sl alist_0 list_0 clist_0)) (wanted_yes rfl (yv_of rfl (e19.trans (congrArg B hb23)))) (rv_move e0) rfl) ?_
              refine all_cons (by
                  intro ρ σm m hoff hdep
                  have e3 : look 37 ρ 3 = (I s2) := look_off (hoff 3 rfl) rfl
                  have e19 : look 37 ρ 19 = (B (decide (0 < s2))) := hdep 9 rfl rfl 19 rfl
                  exact does_v (v := (I s2)) (wanted_yes rfl (yv_of rfl (e19.trans (congrArg B hb23)))) (rv_move e3) rfl) ?_
              refine all_cons (by
                  intro ρ σm m hoff hdep
                  have e20 : look 37 ρ 20 = (Sl alist_0 list_0 clist_0) := hdep 10 rfl rfl 20 rfl
                  have e21 : look 37 ρ 21 = (I s2) := hdep 11 rfl rfl 21 rfl
                  have e19 : look 37 ρ 19 = (B (decide (0 < s2))) := hdep 9 rfl rfl 19 rfl
                  exact does_v (v := (pt b27 o28)) (wanted_yes rfl (yv_of rfl (e19.trans (congrArg B hb23)))) (rv_ix Try.underlying23 ti26 e20 e21 hi26) rfl) ?_
              refine all_cons (by
                  intro ρ σm m hoff hdep
                  have e22 : look 37 ρ 22 = (pt b27 o28) := hdep 12 rfl rfl 22 rfl
                  have e19 : look 37 ρ 19 = (B (decide (0 < s2))) := hdep 9 rfl rfl 19 rfl
                  exact does_v (v := (pt b27 (o28 + 0))) (wanted_yes rfl (yv_of rfl (e19.trans (congrArg B hb23)))) (rv_fieldAddr (off := 0) (ft := 3) Try.underlying26 rfl ti3 rfl e22) rfl) ?_
              refine all_cons (by
                  intro ρ σm m hoff hdep
                  have e23 : look 37 ρ 23 = (pt b27 (o28 + 0)) := hdep 13 rfl rfl 23 rfl
                  have e19 : look 37 ρ 19 = (B (decide (0 < s2))) := hdep 9 rfl rfl 19 rfl
                  replace hR5 := hR5.mod m
                  exact does_v (v := (I x24.1)) (wanted_yes rfl (yv_of rfl (e19.trans (congrArg B hb23)))) (rv_load1 Try.underlying3 rfl e23 (hR5.at hx25 hi26).fst.int) rfl) ?_
              refine all_cons (by
                  intro ρ σm m hoff hdep
                  have e0 : look 37 ρ 0 = (Sl alist_0 list_0 clist_0) := look_off (hoff 0 rfl) rfl
                  have e19 : look 37 ρ 19 = (B (decide (0 < s2))) := hdep 9 rfl rfl 19 rfl
                  exact does_v (v := (Sl alist_0 list_0 clist_0)) (wanted_yes rfl (yv_of rfl (e19.trans (congrArg B hb23)))) (rv_move e0) rfl) ?_
              refine all_cons (by
                  intro ρ σm m hoff hdep
                  have e3 : look 37 ρ 3 = (I s2) := look_off (hoff 3 rfl) rfl
                  have e19 : look 37 ρ 19 = (B (decide (0 < s2))) := hdep 9 rfl rfl 19 rfl
                  exact does_v (v := (I s2)) (wanted_yes rfl (yv_of rfl (e19.trans (congrArg B hb23)))) (rv_move e3) rfl) ?_
              refine all_cons (by
                  intro ρ σm m hoff hdep
                  have e26 : look 37 ρ 26 = (I s2) := hdep 16 rfl rfl 26 rfl
                  have e19 : look 37 ρ 19 = (B (decide (0 < s2))) := hdep 9 rfl rfl 19 rfl
                  exact does_v (v := (I (w64 (s2 - 1)))) (wanted_yes rfl (yv_of rfl (e19.trans (congrArg B hb23)))) (rv_sub (a := s2) (b := 1) e26 rfl) rfl) ?_
              refine all_cons (by
                  intro ρ σm m hoff hdep
                  have e25 : look 37 ρ 25 = (Sl alist_0 list_0 clist_0) := hdep 15 rfl rfl 25 rfl
                  have e27 : look 37 ρ 27 = (I (w64 (s2 - 1))) := hdep 17 rfl rfl 27 rfl
                  have e19 : look 37 ρ 19 = (B (decide (0 < s2))) := hdep 9 rfl rfl 19 rfl
                  exact does_v (v := (pt b32 o33)) (wanted_yes rfl (yv_of rfl (e19.trans (congrArg B hb23)))) (rv_ix Try.underlying23 ti26 e25 e27 hi31) rfl) ?_
              refine all_cons (by
                  intro ρ σm m hoff hdep
                  have e28 : look 37 ρ 28 = (pt b32 o33) := hdep 18 rfl rfl 28 rfl
                  have e19 : look 37 ρ 19 = (B (decide (0 < s2))) := hdep 9 rfl rfl 19 rfl
                  exact does_v (v := (pt b32 (o33 + 0))) (wanted_yes rfl (yv_of rfl (e19.trans (congrArg B hb23)))) (rv_fieldAddr (off := 0) (ft := 3) Try.underlying26 rfl ti3 rfl e28) rfl) ?_
              refine all_cons (by
                  intro ρ σm m hoff hdep
                  have e29 : look 37 ρ 29 = (pt b32 (o33 + 0)) := hdep 19 rfl rfl 29 rfl
                  have e19 : look 37 ρ 19 = (B (decide (0 < s2))) := hdep 9 rfl rfl 19 rfl
                  replace hR5 := hR5.mod m
                  exact does_v (v := (I x29.1)) (wanted_yes rfl (yv_of rfl (e19.trans (congrArg B hb23)))) (rv_load1 Try.underlying3 rfl e29 (hR5.at hx30 hi31).fst.int) rfl) ?_
              exact all_nil
            · intro ρ σ34 m hoff hrel
              have e0 : look 37 ρ 0 = (Sl alist_0 list_0 clist_0) := look_off (hoff 0 rfl) rfl
              have e3 : look 37 ρ 3 = (I s2) := look_off (hoff 3 rfl) rfl
              have e16 : look 37 ρ 16 = (B (!r19)) := hrel 6 rfl 16 rfl
              have e19 : look 37 ρ 19 = (B (decide (0 < s2))) := hrel 9 rfl 19 rfl
              have e24 : look 37 ρ 24 = (I x24.1) := hrel 14 rfl 24 rfl
              have e30 : look 37 ρ 30 = (I x29.1) := hrel 20 rfl 30 rfl
              replace hR5 := hR5.mod m
              replace hK := hK.none m
              rw [fr_lookL (L := [(0, (Sl alist_0 list_0 clist_0)), (3, (I s2)), (16, (B (!r19))), (19, (B (decide (0 < s2)))), (24, (I x24.1)), (30, (I x29.1))]) ⟨e0, e3, e16, e19, e24, e30, trivial⟩]
              clear hoff hrel m e0 e3 e16 e19 e24 e30
              refine st_g (v := (B (decide (x24.1 ≤ x29.1)))) (congrArg some hb23) (rv_leq (a := x24.1) (b := x29.1) rfl rfl) ?_
              refine st_g (v := (B (decide (x24.1 ≤ x29.1)))) (congrArg some hb21) (rv_pick_t (congrArg B hb23) rfl) ?_
              refine st (v := (B (decide (x24.1 ≤ x29.1)))) (rv_pick_f (congrArg B hb21) rfl) ?_
              refine w_end ?_
              obtain rfl := Option.some.inj h
              exact ⟨rfl, _, σ34, fr_join ⟨rfl, rfl, rfl, trivial⟩, rfl, hK, hR5⟩
          · replace h := bif_f hb23 h
            refine rg_monoL (σ := σ4) 21 [eqv (Sl alist_0 list_0 clist_0), eqv (I s2), eqv (pt b11 o12), eqv (.agg #[(I x8.1), (Sl a16 x8.2.1 c17), (I x8.2.2)]), eqv (B r19), eqv (B (!r19)), eqv (B (!r19)), eqv (I s2), eqv (B (decide (0 < s2))), eqv (B (decide (0 < s2))), eqv undef, eqv undef, eqv undef, eqv undef, eqv undef, eqv undef, eqv undef, eqv undef, eqv undef, eqv undef, eqv undef] (by kernel_rfl) (by kernel_rfl) (mono_cons mono_eqv (mono_cons mono_eqv (mono_cons mono_eqv (mono_cons mono_eqv (mono_cons mono_eqv (mono_cons mono_eqv (mono_cons mono_eqv (mono_cons mono_eqv (mono_cons mono_eqv (mono_cons mono_eqv (mono_cons mono_eqv (mono_cons mono_eqv (mono_cons mono_eqv (mono_cons mono_eqv (mono_cons mono_eqv (mono_cons mono_eqv (mono_cons mono_eqv (mono_cons mono_eqv (mono_cons mono_eqv (mono_cons mono_eqv (mono_cons mono_eqv (mono_nil)))))))))))))))))))))) ?_ ?_
            · refine all_cons (by
                  intro ρ σm m hoff hdep
                  have e0 : look 37 ρ 0 = (Sl alist_0 list_0 clist_0) := look_off (hoff 0 rfl) rfl
                  exact does_v (v := (Sl alist_0 list_0 clist_0)) (wanted_none _ rfl _) (rv_move e0) rfl) ?_
              refine all_cons (by
                  intro ρ σm m hoff hdep
                  have e3 : look 37 ρ 3 = (I s2) := look_off (hoff 3 rfl) rfl
                  exact does_v (v := (I s2)) (wanted_none _ rfl _) (rv_move e3) rfl) ?_
              refine all_cons (by
                  intro ρ σm m hoff hdep
                  have e10 : look 37 ρ 10 = (Sl alist_0 list_0 clist_0) := hdep 0 rfl rfl 10 rfl
                  have e11 : look 37 ρ 11 = (I s2) := hdep 1 rfl rfl 11 rfl
                  exact does_v (v := (pt b11 o12)) (wanted_none _ rfl _) (rv_ix Try.underlying23 ti26 e10 e11 hi10) rfl) ?_
              refine all_cons (by
                  intro ρ σm m hoff hdep
                  have e12 : look 37 ρ 12 = (pt b11 o12) := hdep 2 rfl rfl 12 rfl
                  replace hc15 := fun j hj => hR5.hmod hx9 hi10 (k := j) (Nat.lt_of_lt_of_eq hj hl14) (hc15 j hj) m
                  exact does_v (v := (.agg #[(I x8.1), (Sl a16 x8.2.1 c17), (I x8.2.2)])) (wanted_none _ rfl _) (rv_load Try.underlying26 rfl ti26 e12 hl14 hc15) rfl) ?_
              refine all_cons (by
                  intro ρ σm m hoff hdep
                  have e13 : look 37 ρ 13 = (.agg #[(I x8.1), (Sl a16 x8.2.1 c17), (I x8.2.2)]) := hdep 3 rfl rfl 13 rfl
                  replace hR18 := hR18.mod m
                  have hKs : σ4.size ≤ σm.size := m.size
                  exact does_call (wanted_none _ rfl _) (c_spec_validItem hR18 hx20) (by show [look 37 ρ 13] = _; rw [e13]) (by rintro v σ2 m2 rfl; exact rfl)) ?_
              refine all_cons (by
                  intro ρ σm m hoff hdep
                  have e14 : look 37 ρ 14 = (B r19) := hdep 4 rfl rfl 14 rfl
                  exact does_v (v := (B (!r19))) (wanted_none _ rfl _) (rv_not e14) rfl) ?_
              refine all_cons (by
                  intro ρ σm m hoff hdep
                  have e15 : look 37 ρ 15 = (B (!r19)) := hdep 5 rfl rfl 15 rfl
                  exact does_v (v := (B (!r19))) (wanted_none _ rfl _) (rv_move e15) rfl) ?_
              refine all_cons (by
                  intro ρ σm m hoff hdep
                  have e3 : look 37 ρ 3 = (I s2) := look_off (hoff 3 rfl) rfl
                  have e16 : look 37 ρ 16 = (B (!r19)) := hdep 6 rfl rfl 16 rfl
                  exact does_v (v := (I s2)) (wanted_yes rfl (yv_of rfl (e16.trans (congrArg B hb21)))) (rv_move e3) rfl) ?_
              refine all_cons (by
                  intro ρ σm m hoff hdep
                  have e17 : look 37 ρ 17 = (I s2) := hdep 7 rfl rfl 17 rfl
                  have e16 : look 37 ρ 16 = (B (!r19)) := hdep 6 rfl rfl 16 rfl
                  exact does_v (v := (B (decide (0 < s2)))) (wanted_yes rfl (yv_of rfl (e16.trans (congrArg B hb21)))) (rv_gtr (a := s2) (b := 0) e17 rfl) rfl) ?_
              refine all_cons (by
                  intro ρ σm m hoff hdep
                  have e18 : look 37 ρ 18 = (B (decide (0 < s2))) := hdep 8 rfl rfl 18 rfl
                  have e16 : look 37 ρ 16 = (B (!r19)) := hdep 6 rfl rfl 16 rfl
                  exact does_v (v := (B (decide (0 < s2)))) (wanted_yes rfl (yv_of rfl (e16.trans (congrArg B hb21)))) (rv_move e18) rfl) ?_
              refine all_cons (by
                  intro ρ σm m hoff hdep
                  have e19 : look 37 ρ 19 = (B (decide (0 < s2))) := hdep 9 rfl rfl 19 rfl
                  exact does_skip (wanted_no rfl (yv_of rfl (e19.trans (congrArg B hb23)))) rfl) ?_
              refine all_cons (by
                  intro ρ σm m hoff hdep
                  have e19 : look 37 ρ 19 = (B (decide (0 < s2))) := hdep 9 rfl rfl 19 rfl
                  exact does_skip (wanted_no rfl (yv_of rfl (e19.trans (congrArg B hb23)))) rfl) ?_
              refine all_cons (by
                  intro ρ σm m hoff hdep
                  have e19 : look 37 ρ 19 = (B (decide (0 < s2))) := hdep 9 rfl rfl 19 rfl
                  exact does_skip (wanted_no rfl (yv_of rfl (e19.trans (congrArg B hb23)))) rfl) ?_
              refine all_cons (by
                  intro ρ σm m hoff hdep
                  have e19 : look 37 ρ 19 = (B (decide (0 < s2))) := hdep 9 rfl rfl 19 rfl
                  exact does_skip (wanted_no rfl (yv_of rfl (e19.trans (congrArg B hb23)))) rfl) ?_
              refine all_cons (by
                  intro ρ σm m hoff hdep
                  have e19 : look 37 ρ 19 = (B (decide (0 < s2))) := hdep 9 rfl rfl 19 rfl
                  exact does_skip (wanted_no rfl (yv_of rfl (e19.trans (congrArg B hb23)))) rfl) ?_
              refine all_cons (by
                  intro ρ σm m hoff hdep
                  have e19 : look 37 ρ 19 = (B (decide (0 < s2))) := hdep 9 rfl rfl 19 rfl
                  exact does_skip (wanted_no rfl (yv_of rfl (e19.trans (congrArg B hb23)))) rfl) ?_
              refine all_cons (by
                  intro ρ σm m hoff hdep
                  have e19 : look 37 ρ 19 = (B (decide (0 < s2))) := hdep 9 rfl rfl 19 rfl
                  exact does_skip (wanted_no rfl (yv_of rfl (e19.trans (congrArg B hb23)))) rfl) ?_
              refine all_cons (by
                  intro ρ σm m hoff hdep
                  have e19 : look 37 ρ 19 = (B (decide (0 < s2))) := hdep 9 rfl rfl 19 rfl
                  exact does_skip (wanted_no rfl (yv_of rfl (e19.trans (congrArg B hb23)))) rfl) ?_
              refine all_cons (by
                  intro ρ σm m hoff hdep
                  have e19 : look 37 ρ 19 = (B (decide (0 < s2))) := hdep 9 rfl rfl 19 rfl
                  exact does_skip (wanted_no rfl (yv_of rfl (e19.trans (congrArg B hb23)))) rfl) ?_
              refine all_cons (by
                  intro ρ σm m hoff hdep
                  have e19 : look 37 ρ 19 = (B (decide (0 < s2))) := hdep 9 rfl rfl 19 rfl
                  exact does_skip (wanted_no rfl (yv_of rfl (e19.trans (congrArg B hb23)))) rfl) ?_
              refine all_cons (by
                  intro ρ σm m hoff hdep
                  have e19 : look 37 ρ 19 = (B (decide (0 < s2))) := hdep 9 rfl rfl 19 rfl
                  exact does_skip (wanted_no rfl (yv_of rfl (e19.trans (congrArg B hb23)))) rfl) ?_
              exact all_nil
            · intro ρ σ35 m hoff hrel
              have e0 : look 37 ρ 0 = (Sl alist_0 list_0 clist_0) := look_off (hoff 0 rfl) rfl
              have e3 : look 37 ρ 3 = (I s2) := look_off (hoff 3 rfl) rfl
              have e16 : look 37 ρ 16 = (B (!r19)) := hrel 6 rfl 16 rfl
              have e19 : look 37 ρ 19 = (B (decide (0 < s2))) := hrel 9 rfl 19 rfl
              have e24 : look 37 ρ 24 = undef := hrel 14 rfl 24 rfl
              have e30 : look 37 ρ 30 = undef := hrel 20 rfl 30 rfl
              replace hR5 := hR5.mod m
              replace hK := hK.none m
              rw [fr_lookL (L := [(0, (Sl alist_0 list_0 clist_0)), (3, (I s2)), (16, (B (!r19))), (19, (B (decide (0 < s2)))), (24, undef), (30, undef)]) ⟨e0, e3, e16, e19, e24, e30, trivial⟩]
              clear hoff hrel m e0 e3 e16 e19 e24 e30
              refine st_skip (congrArg some hb23) ?_
              refine st_g (v := (B false)) (congrArg some hb21) (rv_pick_f (congrArg B hb23) rfl) ?_
              refine st (v := (B false)) (rv_pick_f (congrArg B hb21) rfl) ?_
              refine w_end ?_
              obtain rfl := Option.some.inj h
              exact ⟨rfl, _, σ35, fr_join ⟨rfl, rfl, rfl, trivial⟩, rfl, hK, hR5⟩
      · clear hj
        have h := h'
        clear h'
        rintro e a w ⟨rfl, ρ, σ36, rfl, rfl, hK, hR37⟩
        refine q_then ?_
        refine cd_cond o7 rfl (fun hb38 => ?_) (fun hb38 => ?_)
        · replace h := bif_t hb38 h
          refine c_seq ?_
          refine rg ?_
          refine st (v := (B false)) (rv_assign rfl) ?_
          refine w_end ?_
          refine q_then ?_
          refine c_ret ?_
          refine q_blk_r ?_
          refine q_then_r ?_
          refine q_then_r ?_
          refine q_blk_r ?_
          obtain rfl := Option.some.inj h
          obtain rfl := hres _ rfl
          exact .inr (⟨_, rfl, rfl, _, σ36, fr_join ⟨rfl, trivial⟩, rfl, hK⟩)
        · replace h := bif_f hb38 h
          refine c_skip ?_
          refine q_blk ?_
          refine q_then ?_
          refine rg ?_
          refine st (v := (I s2)) (rv_move rfl) ?_
          refine st (v := (I (w64 (s2 + 1)))) (rv_add (a := s2) (b := 1) rfl rfl) ?_
          refine st (v := (I (w64 (s2 + 1)))) (rv_assign rfl) ?_
          refine w_end ?_
          refine q_then ?_
          obtain rfl := Option.some.inj h
          exact ⟨_, rfl, _, σ36, fr_join ⟨rfl, rfl, trivial⟩, rfl, hK, hR37⟩
    · replace h := bif_f hb6 h
      refine c_exit ?_
      refine q_then_x ?_
      refine q_then_x ?_
      refine q_blk_hit ?_
      obtain rfl := Option.some.inj h
      obtain rfl := hres _ rfl
      exact .inl ⟨_, rfl, rfl, _, σ4, fr_join ⟨rfl, trivial⟩, rfl, hK, hR5⟩
  · clear hj
    have h := h'
    clear h'
    rintro e a w (⟨t39, rfl, rfl, ρ, σ40, rfl, rfl, hK, hR41⟩ | ⟨t42, rfl, rfl, ρ, σ43, rfl, rfl, hK⟩)
    · replace h := selim_l h
      refine q_then ?_
      refine c_seq ?_
      refine rg ?_
      refine st (v := (Sl alist_0 list_0 clist_0)) (rv_move rfl) ?_
      refine st (v := (I (list_0.length : Int))) (rv_len Try.underlying23 rfl) ?_
      refine st (v := (B (decide ((list_0.length : Int) ≤ 16)))) (rv_leq (a := (list_0.length : Int)) (b := 16) rfl rfl) ?_
      refine st (v := (B (decide ((list_0.length : Int) ≤ 16)))) (rv_assign rfl) ?_
      refine w_end ?_
      refine q_then ?_
      refine c_ret ?_
      obtain rfl := Option.some.inj h
      exact bodyPost_ret (v := (B (decide ((list_0.length : Int) ≤ 16)))) (results_fr1 Try.results62 rfl _) rfl ⟨_, σ40, rfl, rfl, hK, rfl⟩
    · replace h := selim_r h
      refine q_then_r ?_
      obtain rfl := Option.some.inj h
      exact bodyPost_ret (v := (B t42)) (results_fr1 Try.results62 rfl _) rfl ⟨_, σ43, rfl, rfl, hK, rfl⟩

theorem c_spec_copyItem {σ0 : St} {x_0 : Int × (List Int) × Int} {ax_0_1 : Option Addr} {cx_0_1 : Nat} (hRx_0_1 : RS 0 σ0 (Sl ax_0_1 x_0.2.1 cx_0_1) x_0.2.1) {r : (Int × (List Int) × Int)} (h : M.spec_copyItem x_0 = some r) :
    Cal Try.prog 77 [(.agg #[(I x_0.1), (Sl ax_0_1 x_0.2.1 cx_0_1), (I x_0.2.2)])] none σ0 (fun v σ' => ∃ (a0 : Option Addr) (c0 : Nat), v = (.agg #[(I r.1), (Sl a0 r.2.1 c0), (I r.2.2)]) ∧ RS σ0.size σ' (Sl a0 r.2.1 c0) r.2.1) := by
  refine ⟨⟨_, _, Try.func77, rfl, rfl⟩, ?_⟩
  refine enter (n := 11) Try.func77 rfl rfl rfl ?_
  unfold M.spec_copyItem at h
  have hK : Mod none σ0 σ0 := Mod.refl _ _
  refine c_seq ?_
  refine rg ?_
  refine st_box (cs := [(I x_0.1), (Sl ax_0_1 x_0.2.1 cx_0_1), (I x_0.2.2)]) rfl rfl ?_ (wanted_none _ rfl _)
  intro b2 σ4 hbn6 m5 hB1
  have hge3 := Nat.le_trans hK.size (Nat.le_of_eq hbn6)
  replace hRx_0_1 := hRx_0_1.mod m5
  replace hK := hK.none m5
  clear hbn6 m5
  refine st_alloc (cs := [(I 0), (.slice none 0 0), (I 0)]) ti26 rfl ?_ (wanted_none _ rfl _)
  intro b8 σ10 hbn12 m11 hB7
  have hd13 := hB1.df' hbn12
  have hge9 := Nat.le_trans hK.size (Nat.le_of_eq hbn12)
  replace hRx_0_1 := hRx_0_1.mod m11
  replace hB1 := hB1.mod0 m11
  replace hK := hK.none m11
  clear hbn12 m11
  refine w_end ?_
  refine q_then ?_
  refine c_seq ?_
  obtain ⟨r14, hx15, h'⟩ := bind_some h
  clear h
  have h := h'; clear h'
  refine rg_monoL (σ := σ10) 7 [eqv (pt b2 0), eqv (I x_0.1), eqv (pt b2 1), eqv (Sl ax_0_1 x_0.2.1 cx_0_1), (fun v σ => ∃ (a16 : Option Addr) (c17 : Nat), v = (Sl a16 r14 c17) ∧ Ow σ σ10.size σ10.size (Sl a16 r14 c17) r14), eqv (pt b2 2), eqv (I x_0.2.2)] (by kernel_rfl) (by kernel_rfl) (mono_cons mono_eqv (mono_cons mono_eqv (mono_cons mono_eqv (mono_cons mono_eqv (mono_cons (fun _ _ _ ⟨a16, c17, h0, hO18⟩ m => ⟨a16, c17, h0, hO18.mod0 m⟩) (mono_cons mono_eqv (mono_cons mono_eqv (mono_nil)))))))) ?_ ?_
  · refine all_cons (by
        intro ρ σm m hoff hdep
        have e1 : look 11 ρ 1 = (pt b2 0) := look_off (hoff 1 rfl) rfl
        exact does_v (v := (pt b2 0)) (wanted_none _ rfl _) (rv_fieldAddr (off := 0) (ft := 3) Try.underlying26 rfl ti3 rfl e1) rfl) ?_
    refine all_cons (by
        intro ρ σm m hoff hdep
        have e3 : look 11 ρ 3 = (pt b2 0) := hdep 0 rfl rfl 3 rfl
        replace hB1 := hB1.mod0 m
        exact does_v (v := (I x_0.1)) (wanted_none _ rfl _) (rv_load1 Try.underlying3 rfl e3 (hB1.cell' 0 rfl rfl)) rfl) ?_
    refine all_cons (by
        intro ρ σm m hoff hdep
        have e1 : look 11 ρ 1 = (pt b2 0) := look_off (hoff 1 rfl) rfl
        exact does_v (v := (pt b2 1)) (wanted_none _ rfl _) (rv_fieldAddr (off := 1) (ft := 24) Try.underlying26 rfl ti24 rfl e1) rfl) ?_
    refine all_cons (by
        intro ρ σm m hoff hdep
        have e5 : look 11 ρ 5 = (pt b2 1) := hdep 2 rfl rfl 5 rfl
        replace hB1 := hB1.mod0 m
        exact does_v (v := (Sl ax_0_1 x_0.2.1 cx_0_1)) (wanted_none _ rfl _) (rv_load1 Try.underlying24 rfl e5 (hB1.cell' 1 rfl rfl)) rfl) ?_
    refine all_cons (by
        intro ρ σm m hoff hdep
        have e6 : look 11 ρ 6 = (Sl ax_0_1 x_0.2.1 cx_0_1) := hdep 3 rfl rfl 6 rfl
        replace hRx_0_1 := hRx_0_1.mod m
        have hKs : σ10.size ≤ σm.size := m.size
        exact does_call (wanted_none _ rfl _) (c_spec_copyInts hRx_0_1 hx15) (by show [look 11 ρ 6] = _; rw [e6]) (by rintro v σ2 m2 ⟨a16, c17, rfl, hO18⟩; exact ⟨a16, c17, rfl, (hO18.lo hKs).low' hKs⟩)) ?_
    refine all_cons (by
        intro ρ σm m hoff hdep
        have e1 : look 11 ρ 1 = (pt b2 0) := look_off (hoff 1 rfl) rfl
        exact does_v (v := (pt b2 2)) (wanted_none _ rfl _) (rv_fieldAddr (off := 2) (ft := 3) Try.underlying26 rfl ti3 rfl e1) rfl) ?_
    refine all_cons (by
        intro ρ σm m hoff hdep
        have e8 : look 11 ρ 8 = (pt b2 2) := hdep 5 rfl rfl 8 rfl
        replace hB1 := hB1.mod0 m
        exact does_v (v := (I x_0.2.2)) (wanted_none _ rfl _) (rv_load1 Try.underlying3 rfl e8 (hB1.cell' 2 rfl rfl)) rfl) ?_
    exact all_nil
  · intro ρ σ19 m hoff hrel
    have e2 : look 11 ρ 2 = (pt b8 0) := look_off (hoff 2 rfl) rfl
    have e4 : look 11 ρ 4 = (I x_0.1) := hrel 1 rfl 4 rfl
    obtain ⟨a16, c17, e7, hO18⟩ := hrel 4 rfl 7 rfl
    have e9 : look 11 ρ 9 = (I x_0.2.2) := hrel 6 rfl 9 rfl
    have hd20 := hB7.ltb
    have hg21 := hO18.ge
    have hd22 := Df.ge hd20 hg21
    replace hO18 := hO18.lo hK.size
    replace hO18 := hO18.low' hK.size
    replace hB7 := hB7.mod0 m
    replace hK := hK.none m
    rw [fr_lookL (L := [(2, (pt b8 0)), (4, (I x_0.1)), (7, (Sl a16 r14 c17)), (9, (I x_0.2.2))]) ⟨e2, e4, e7, e9, trivial⟩]
    clear hoff hrel m e2 e4 e7 e9
    refine st (v := (.agg #[(I x_0.1), (Sl a16 r14 c17), (I x_0.2.2)])) (rv_build (ps := [(0, (I x_0.1)), (1, (Sl a16 r14 c17)), (2, (I x_0.2.2))]) Try.underlying26 ti26 (bp26 Try.underlying26) rfl (by kernel_rfl)) ?_
    have hg27 := hO18.ge
    obtain ⟨σ23, hw26, m24, hR25⟩ := hO18.pub' (Nat.le_refl _)
    rw [← hw26]; clear hw26
    replace hB7 := hB7.mod' m24 (by first | exact hd22 | exact Df.reR hd22)
    replace hK := hK.own m24 hg27
    refine st_store_box (cs := [(I 0), (.slice none 0 0), (I 0)]) (vs := [(I x_0.1), (Sl a16 r14 c17), (I x_0.2.2)]) ti26 hB7 rfl rfl rfl rfl (Nat.le_of_ble_eq_true rfl) (by simp [plain]) ?_
    intro σ28 m29 hB31 hs30; clear hs30
    replace hR25 := hR25.mod m29
    replace hK := hK.some m29 hge9
    replace hB31 := Bx.cast (cs' := [(I x_0.1), (Sl a16 r14 c17), (I x_0.2.2)]) hB31 rfl
    clear hB7
    refine w_end ?_
    refine q_then ?_
    refine c_ret ?_
    obtain rfl := Option.some.inj h
    exact bodyPost_ret (v := (.agg #[(I x_0.1), (Sl a16 r14 c17), (I x_0.2.2)])) (results_cell (cs := [(I x_0.1), (Sl a16 r14 c17), (I x_0.2.2)]) Try.results77 Try.underlying26 rfl ti26 rfl rfl hB31) rfl ⟨_, σ28, rfl, rfl, hK, a16, c17, rfl, hR25⟩

end Go.Vs
