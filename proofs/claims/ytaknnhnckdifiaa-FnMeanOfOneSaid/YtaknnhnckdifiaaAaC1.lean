/- The functions compute what their models say. -/
import Derived.Test.YtaknnhnckdifiaaAaM
import Derived.Test.YtaknnhnckdifiaaVsMono
import Derived.Test.YtaknnhnckdifiaaProg
set_option linter.unusedVariables false
set_option linter.unusedSimpArgs false
set_option maxRecDepth 20000
namespace Go.Vs
open Go Go.Proofs
attribute [local irreducible] Code.wp wpList wpQuiet Calls

theorem ti3 : TI Try.prog 3 (.int .i64 0) 1 8 := TI.mk' (by kernel_rfl)
theorem ti5 : TI Try.prog 5 (.int .u8 0) 1 1 := TI.mk' (by kernel_rfl)
theorem ti22 : TI Try.prog 22 (.slice none 0 0) 1 24 := TI.mk' (by kernel_rfl)
theorem ti23 : TI Try.prog 23 (.slice none 0 0) 1 24 := TI.mk' (by kernel_rfl)
theorem ti45 : TI Try.prog 45 (.agg #[(.int .i64 0), (.slice none 0 0), (.int .i64 0)]) 3 40 := TI.mk' (by kernel_rfl)
theorem ti60 : TI Try.prog 60 (.agg #[(.int .i64 0), (.int .i64 0), (.int .i64 0), (.int .i64 0)]) 4 32 := TI.mk' (by kernel_rfl)
theorem ti77 : TI Try.prog 77 (.agg #[(.slice none 0 0), (.int .i64 0)]) 2 32 := TI.mk' (by kernel_rfl)
theorem bp45 {fs : Array Field} (hT : Try.prog.underlying 45 = some (.struct fs)) (w : World) : (fs.mapM (fun f => do pure (f.offset, ← sizeOf f.type)) : Sem (Array (Nat × Nat))).run Try.prog w = .ok #[(0, 1), (1, 1), (2, 1)] w := by
  rw [Try.underlying45] at hT; cases hT
  simp [run_typeInfo ti23, run_typeInfo ti3]
theorem bp77 {fs : Array Field} (hT : Try.prog.underlying 77 = some (.struct fs)) (w : World) : (fs.mapM (fun f => do pure (f.offset, ← sizeOf f.type)) : Sem (Array (Nat × Nat))).run Try.prog w = .ok #[(0, 1), (1, 1)] w := by
  rw [Try.underlying77] at hT; cases hT
  simp [run_typeInfo ti22, run_typeInfo ti3]

theorem c_spec_reader_pick {σ0 : St} {r_0 : (List UInt8) × Int} {n_1 : Int} {ar_0_0 : Option Addr} {cr_0_0 : Nat} (hRr_0_0 : RS 0 σ0 (Sl ar_0_0 r_0.1 cr_0_0) r_0.1) {br_0 : Nat} (hBr_0 : Bx σ0 br_0 [(Sl ar_0_0 r_0.1 cr_0_0), (I r_0.2)])  (hltr_0 : br_0 < σ0.size) {r : Int × ((List UInt8) × Int)} (h : M.spec_reader_pick r_0 n_1 = some r) :
    Cal Try.prog 50 [(pt br_0 0), (I n_1)] (some br_0) σ0 (fun v σ' => ∃ (a0 : Option Addr) (c0 : Nat), v = (I r.1) ∧ RS 0 σ' (Sl a0 r.2.1 c0) r.2.1 ∧ Bx σ' br_0 [(Sl a0 r.2.1 c0), (I r.2.2)]) := by
  refine ⟨⟨_, _, Try.func50, rfl, rfl⟩, ?_⟩
  refine enter (n := 99) Try.func50 rfl rfl rfl ?_
  unfold M.spec_reader_pick at h
  have hK : Mod (some br_0) σ0 σ0 := Mod.refl _ _
  refine c_seq ?_
  refine rg ?_
  refine st (v := (I 0)) (rv_assign rfl) ?_
  refine w_end ?_
  refine q_then ?_
  refine c_seq ?_
  refine rg ?_
  refine st (v := (pt br_0 0)) (rv_move rfl) ?_
  refine st (v := (pt br_0 0)) (rv_move rfl) ?_
  refine st (v := (pt br_0 0)) (rv_nilCheck rfl) ?_
  refine st (v := (pt br_0 1)) (rv_fieldAddr (off := 1) (ft := 3) Try.underlying77 rfl ti3 rfl rfl) ?_
  refine st (v := (I r_0.2)) (rv_load1 Try.underlying3 rfl rfl (hBr_0.cell' 1 rfl rfl)) ?_
  refine st (v := (I (w64 (r_0.2 + 1)))) (rv_add (a := r_0.2) (b := 1) rfl rfl) ?_
  refine st (v := (pt br_0 0)) (rv_nilCheck rfl) ?_
  refine st (v := (pt br_0 1)) (rv_fieldAddr (off := 1) (ft := 3) Try.underlying77 rfl ti3 rfl rfl) ?_
  refine st_store_box (cs := [(Sl ar_0_0 r_0.1 cr_0_0), (I r_0.2)]) (vs := [(I (w64 (r_0.2 + 1)))]) ti3 hBr_0 rfl rfl rfl rfl (Nat.le_of_ble_eq_true rfl) (by simp [plain]) ?_
  intro σ1 m2 hB4 hs3; clear hs3
  replace hRr_0_0 := hRr_0_0.mod m2
  replace hK := hK.self m2
  replace hB4 := Bx.cast (cs' := [(Sl ar_0_0 r_0.1 cr_0_0), (I (w64 (r_0.2 + 1)))]) hB4 rfl
  clear hBr_0
  refine w_end ?_
  refine q_then ?_
  refine c_seq ?_
  refine c_seq ?_
  obtain ⟨o5, hj, h'⟩ := bind_some h
  clear h
  refine c_cut (fun e a w => e = .normal ∧ ∃ (ρ : Nat → Value) (σ : St), a = fr 99 (updL ρ [(0, (pt br_0 0)), (1, (I n_1)), (24, (B o5))]) ∧ w = σ.w ∧ Mod (some br_0) σ0 σ ∧ RS 0 σ (Sl ar_0_0 r_0.1 cr_0_0) r_0.1 ∧ Bx σ br_0 [(Sl ar_0_0 r_0.1 cr_0_0), (I (w64 (r_0.2 + 1)))]) ?_ ?_
  · clear h'
    rename _ = some o5 => h
    refine rg ?_
    refine st (v := (I n_1)) (rv_move rfl) ?_
    refine st (v := (B (decide (n_1 < 1)))) (rv_lss (a := n_1) (b := 1) rfl rfl) ?_
    refine st (v := (B (decide (n_1 < 1)))) (rv_move rfl) ?_
    rcases Bool.eq_false_or_eq_true (decide (n_1 < 1)) with hb6 | hb6
    · replace h := bif_t hb6 h
      refine st_skip (congrArg some hb6) ?_
      refine st_skip (congrArg some hb6) ?_
      refine st_skip (congrArg some hb6) ?_
      refine st_skip (congrArg some hb6) ?_
      refine st_skip (congrArg some hb6) ?_
      refine st_skip (congrArg some hb6) ?_
      refine st (v := (B true)) (rv_pick_t (congrArg B hb6) rfl) ?_
      refine w_end ?_
      obtain rfl := Option.some.inj h
      exact ⟨rfl, _, σ1, fr_join ⟨rfl, rfl, rfl, trivial⟩, rfl, hK, hRr_0_0, hB4⟩
    · replace h := bif_f hb6 h
      refine st_g (v := (pt br_0 0)) (congrArg some hb6) (rv_move rfl) ?_
      refine st_g (v := (pt br_0 0)) (congrArg some hb6) (rv_nilCheck rfl) ?_
      refine st_g (v := (pt br_0 0)) (congrArg some hb6) (rv_fieldAddr (off := 0) (ft := 22) Try.underlying77 rfl ti22 rfl rfl) ?_
      refine st_g (v := (Sl ar_0_0 r_0.1 cr_0_0)) (congrArg some hb6) (rv_load1 Try.underlying22 rfl rfl (hB4.cell' 0 rfl rfl)) ?_
      refine st_g (v := (I (r_0.1.length : Int))) (congrArg some hb6) (rv_len Try.underlying22 rfl) ?_
      refine st_g (v := (B ((r_0.1.length : Int) == 0))) (congrArg some hb6) (rv_eql (a := (r_0.1.length : Int)) (b := 0) rfl rfl) ?_
      refine st (v := (B ((r_0.1.length : Int) == 0))) (rv_pick_f (congrArg B hb6) rfl) ?_
      refine w_end ?_
      obtain rfl := Option.some.inj h
      exact ⟨rfl, _, σ1, fr_join ⟨rfl, rfl, rfl, trivial⟩, rfl, hK, hRr_0_0, hB4⟩
  · clear hj
    have h := h'
    clear h'
    rintro e a w ⟨rfl, ρ, σ7, rfl, rfl, hK, hR8, hB9⟩
    refine q_then ?_
    refine cd_cond o5 rfl (fun hb10 => ?_) (fun hb10 => ?_)
    · replace h := bif_t hb10 h
      refine c_seq ?_
      refine rg ?_
      refine st (v := (I 0)) (rv_assign rfl) ?_
      refine w_end ?_
      refine q_then ?_
      refine c_ret ?_
      refine q_then_r ?_
      obtain rfl := Option.some.inj h
      exact bodyPost_ret (v := (I 0)) (results_fr1 Try.results50 rfl _) rfl ⟨_, σ7, rfl, rfl, hK, ar_0_0, cr_0_0, rfl, hR8, hB9⟩
    · replace h := bif_f hb10 h
      refine c_skip ?_
      refine q_then ?_
      refine c_seq ?_
      refine rg ?_
      refine st (v := (pt br_0 0)) (rv_move rfl) ?_
      refine st (v := (pt br_0 0)) (rv_nilCheck rfl) ?_
      refine st (v := (pt br_0 1)) (rv_fieldAddr (off := 1) (ft := 3) Try.underlying77 rfl ti3 rfl rfl) ?_
      refine st (v := (I (w64 (r_0.2 + 1)))) (rv_load1 Try.underlying3 rfl rfl (hB9.cell' 1 rfl rfl)) ?_
      refine st (v := (I (w64 ((w64 (r_0.2 + 1)) - 1)))) (rv_sub (a := (w64 (r_0.2 + 1))) (b := 1) rfl rfl) ?_
      refine st (v := (I (w64 ((w64 (r_0.2 + 1)) - 1)))) (rv_assign rfl) ?_
      refine w_end ?_
      refine q_then ?_
      refine c_seq ?_
      refine c_seq ?_
      refine rg ?_
      refine st (v := (I (w64 ((w64 (r_0.2 + 1)) - 1)))) (rv_move rfl) ?_
      refine st (v := (pt br_0 0)) (rv_move rfl) ?_
      refine st (v := (pt br_0 0)) (rv_nilCheck rfl) ?_
      refine st (v := (pt br_0 0)) (rv_fieldAddr (off := 0) (ft := 22) Try.underlying77 rfl ti22 rfl rfl) ?_
      refine st (v := (Sl ar_0_0 r_0.1 cr_0_0)) (rv_load1 Try.underlying22 rfl rfl (hB9.cell' 0 rfl rfl)) ?_
      refine st (v := (I (r_0.1.length : Int))) (rv_len Try.underlying22 rfl) ?_
      refine st (v := (B (decide ((w64 ((w64 (r_0.2 + 1)) - 1)) < (r_0.1.length : Int))))) (rv_lss (a := (w64 ((w64 (r_0.2 + 1)) - 1))) (b := (r_0.1.length : Int)) rfl rfl) ?_
      refine w_end ?_
      refine q_then ?_
      refine cd_cond (decide ((w64 ((w64 (r_0.2 + 1)) - 1)) < (r_0.1.length : Int))) rfl (fun hb11 => ?_) (fun hb11 => ?_)
      · replace h := bif_t hb11 h
        refine c_seq ?_
        refine rg ?_
        refine st (v := (pt br_0 0)) (rv_move rfl) ?_
        refine st (v := (pt br_0 0)) (rv_nilCheck rfl) ?_
        refine st (v := (pt br_0 0)) (rv_fieldAddr (off := 0) (ft := 22) Try.underlying77 rfl ti22 rfl rfl) ?_
        refine st (v := (Sl ar_0_0 r_0.1 cr_0_0)) (rv_load1 Try.underlying22 rfl rfl (hB9.cell' 0 rfl rfl)) ?_
        refine st (v := (I (w64 ((w64 (r_0.2 + 1)) - 1)))) (rv_move rfl) ?_
        obtain ⟨x12, hx13, h'⟩ := bind_some h
        clear h
        have h := h'; clear h'
        obtain ⟨b15, o16, hi14, -⟩ := hR8.ix hx13
        refine st (v := (pt b15 o16)) (rv_ix Try.underlying22 ti5 rfl rfl hi14) ?_
        refine st (v := (.int .u8 (x12.toNat : Int))) (rv_load1 Try.underlying5 rfl rfl (hR8.at hx13 hi14).byte) ?_
        refine st (v := (I (w64 (x12.toNat : Int)))) (rv_conv Try.underlying5 Try.underlying3 rfl) ?_
        refine st (v := (I n_1)) (rv_move rfl) ?_
        obtain ⟨q17, hx18, h'⟩ := bind_some h
        clear h
        have h := h'; clear h'
        refine st (v := (I q17)) (rv_remG (a := (w64 (x12.toNat : Int))) (b := n_1) hx18 rfl rfl) ?_
        refine st (v := (I q17)) (rv_assign rfl) ?_
        refine w_end ?_
        refine q_then ?_
        refine c_ret ?_
        refine q_then_r ?_
        obtain rfl := Option.some.inj h
        exact bodyPost_ret (v := (I q17)) (results_fr1 Try.results50 rfl _) rfl ⟨_, σ7, rfl, rfl, hK, ar_0_0, cr_0_0, rfl, hR8, hB9⟩
      · replace h := bif_f hb11 h
        refine c_skip ?_
        refine q_then ?_
        refine c_seq ?_
        obtain ⟨q19, hx20, h'⟩ := bind_some h
        clear h
        have h := h'; clear h'
        obtain ⟨x21, hx22, h'⟩ := bind_some h
        clear h
        have h := h'; clear h'
        obtain ⟨b24, o25, hi23, -⟩ := hR8.ix hx22
        obtain ⟨q26, hx27, h'⟩ := bind_some h
        clear h
        have h := h'; clear h'
        obtain ⟨x28, hx29, h'⟩ := bind_some h
        clear h
        have h := h'; clear h'
        obtain ⟨b31, o32, hi30, -⟩ := hR8.ix hx29
        obtain ⟨q33, hx34, h'⟩ := bind_some h
        clear h
        have h := h'; clear h'
        refine rg_monoL (σ := σ7) 44 [eqv (pt br_0 0), eqv (pt br_0 0), eqv (pt br_0 0), eqv (Sl ar_0_0 r_0.1 cr_0_0), eqv (I (w64 ((w64 (r_0.2 + 1)) - 1))), eqv (pt br_0 0), eqv (pt br_0 0), eqv (pt br_0 0), eqv (Sl ar_0_0 r_0.1 cr_0_0), eqv (I (r_0.1.length : Int)), eqv (I q19), eqv (pt b24 o25), eqv (.int .u8 (x21.toNat : Int)), eqv (I (w64 (x21.toNat : Int))), eqv (I (w64 ((w64 (x21.toNat : Int)) * 131))), eqv (pt br_0 0), eqv (pt br_0 0), eqv (pt br_0 0), eqv (Sl ar_0_0 r_0.1 cr_0_0), eqv (I (w64 ((w64 (r_0.2 + 1)) - 1))), eqv (I (w64 ((w64 ((w64 (r_0.2 + 1)) - 1)) * 7))), eqv (I (w64 ((w64 ((w64 ((w64 (r_0.2 + 1)) - 1)) * 7)) + 3))), eqv (pt br_0 0), eqv (pt br_0 0), eqv (pt br_0 0), eqv (Sl ar_0_0 r_0.1 cr_0_0), eqv (I (r_0.1.length : Int)), eqv (I q26), eqv (pt b31 o32), eqv (.int .u8 (x28.toNat : Int)), eqv (I (w64 (x28.toNat : Int))), eqv (I (w64 ((w64 (x28.toNat : Int)) * 1117))), eqv (I (w64 ((w64 ((w64 (x21.toNat : Int)) * 131)) + (w64 ((w64 (x28.toNat : Int)) * 1117))))), eqv (I (w64 ((w64 (r_0.2 + 1)) - 1))), eqv (I (w64 ((w64 ((w64 (r_0.2 + 1)) - 1)) * 29))), eqv (I (w64 ((w64 ((w64 ((w64 (x21.toNat : Int)) * 131)) + (w64 ((w64 (x28.toNat : Int)) * 1117)))) + (w64 ((w64 ((w64 (r_0.2 + 1)) - 1)) * 29))))), eqv (I (w64 ((w64 (r_0.2 + 1)) - 1))), eqv (pt br_0 0), eqv (pt br_0 0), eqv (pt br_0 0), eqv (Sl ar_0_0 r_0.1 cr_0_0), eqv (I (r_0.1.length : Int)), eqv (I q33), eqv (I (w64 (q33 * 53)))] (by kernel_rfl) (by kernel_rfl) (mono_cons mono_eqv (mono_cons mono_eqv (mono_cons mono_eqv (mono_cons mono_eqv (mono_cons mono_eqv (mono_cons mono_eqv (mono_cons mono_eqv (mono_cons mono_eqv (mono_cons mono_eqv (mono_cons mono_eqv (mono_cons mono_eqv (mono_cons mono_eqv (mono_cons mono_eqv (mono_cons mono_eqv (mono_cons mono_eqv (mono_cons mono_eqv (mono_cons mono_eqv (mono_cons mono_eqv (mono_cons mono_eqv (mono_cons mono_eqv (mono_cons mono_eqv (mono_cons mono_eqv (mono_cons mono_eqv (mono_cons mono_eqv (mono_cons mono_eqv (mono_cons mono_eqv (mono_cons mono_eqv (mono_cons mono_eqv (mono_cons mono_eqv (mono_cons mono_eqv (mono_cons mono_eqv (mono_cons mono_eqv (mono_cons mono_eqv (mono_cons mono_eqv (mono_cons mono_eqv (mono_cons mono_eqv (mono_cons mono_eqv (mono_cons mono_eqv (mono_cons mono_eqv (mono_cons mono_eqv (mono_cons mono_eqv (mono_cons mono_eqv (mono_cons mono_eqv (mono_cons mono_eqv (mono_nil))))))))))))))))))))))))))))))))))))))))))))) ?_ ?_
        · refine all_cons (by
              intro ρ σm m hoff hdep
              have e0 : look 99 ρ 0 = (pt br_0 0) := look_off (hoff 0 rfl) rfl
              exact does_v (v := (pt br_0 0)) (wanted_none _ rfl _) (rv_move e0) rfl) ?_
          refine all_cons (by
              intro ρ σm m hoff hdep
              have e47 : look 99 ρ 47 = (pt br_0 0) := hdep 0 rfl rfl 47 rfl
              exact does_v (v := (pt br_0 0)) (wanted_none _ rfl _) (rv_nilCheck e47) rfl) ?_
          refine all_cons (by
              intro ρ σm m hoff hdep
              have e48 : look 99 ρ 48 = (pt br_0 0) := hdep 1 rfl rfl 48 rfl
              exact does_v (v := (pt br_0 0)) (wanted_none _ rfl _) (rv_fieldAddr (off := 0) (ft := 22) Try.underlying77 rfl ti22 rfl e48) rfl) ?_
          refine all_cons (by
              intro ρ σm m hoff hdep
              have e49 : look 99 ρ 49 = (pt br_0 0) := hdep 2 rfl rfl 49 rfl
              replace hB9 := hB9.mod0 m
              exact does_v (v := (Sl ar_0_0 r_0.1 cr_0_0)) (wanted_none _ rfl _) (rv_load1 Try.underlying22 rfl e49 (hB9.cell' 0 rfl rfl)) rfl) ?_
          refine all_cons (by
              intro ρ σm m hoff hdep
              have e5 : look 99 ρ 5 = (I (w64 ((w64 (r_0.2 + 1)) - 1))) := look_off (hoff 5 rfl) rfl
              exact does_v (v := (I (w64 ((w64 (r_0.2 + 1)) - 1)))) (wanted_none _ rfl _) (rv_move e5) rfl) ?_
          refine all_cons (by
              intro ρ σm m hoff hdep
              have e0 : look 99 ρ 0 = (pt br_0 0) := look_off (hoff 0 rfl) rfl
              exact does_v (v := (pt br_0 0)) (wanted_none _ rfl _) (rv_move e0) rfl) ?_
          refine all_cons (by
              intro ρ σm m hoff hdep
              have e52 : look 99 ρ 52 = (pt br_0 0) := hdep 5 rfl rfl 52 rfl
              exact does_v (v := (pt br_0 0)) (wanted_none _ rfl _) (rv_nilCheck e52) rfl) ?_
          refine all_cons (by
              intro ρ σm m hoff hdep
              have e53 : look 99 ρ 53 = (pt br_0 0) := hdep 6 rfl rfl 53 rfl
              exact does_v (v := (pt br_0 0)) (wanted_none _ rfl _) (rv_fieldAddr (off := 0) (ft := 22) Try.underlying77 rfl ti22 rfl e53) rfl) ?_
          refine all_cons (by
              intro ρ σm m hoff hdep
              have e54 : look 99 ρ 54 = (pt br_0 0) := hdep 7 rfl rfl 54 rfl
              replace hB9 := hB9.mod0 m
              exact does_v (v := (Sl ar_0_0 r_0.1 cr_0_0)) (wanted_none _ rfl _) (rv_load1 Try.underlying22 rfl e54 (hB9.cell' 0 rfl rfl)) rfl) ?_
          refine all_cons (by
              intro ρ σm m hoff hdep
              have e55 : look 99 ρ 55 = (Sl ar_0_0 r_0.1 cr_0_0) := hdep 8 rfl rfl 55 rfl
              exact does_v (v := (I (r_0.1.length : Int))) (wanted_none _ rfl _) (rv_len Try.underlying22 e55) rfl) ?_
          refine all_cons (by
              intro ρ σm m hoff hdep
              have e51 : look 99 ρ 51 = (I (w64 ((w64 (r_0.2 + 1)) - 1))) := hdep 4 rfl rfl 51 rfl
              have e56 : look 99 ρ 56 = (I (r_0.1.length : Int)) := hdep 9 rfl rfl 56 rfl
              exact does_v (v := (I q19)) (wanted_none _ rfl _) (rv_remG (a := (w64 ((w64 (r_0.2 + 1)) - 1))) (b := (r_0.1.length : Int)) hx20 e51 e56) rfl) ?_
          refine all_cons (by
              intro ρ σm m hoff hdep
              have e50 : look 99 ρ 50 = (Sl ar_0_0 r_0.1 cr_0_0) := hdep 3 rfl rfl 50 rfl
              have e57 : look 99 ρ 57 = (I q19) := hdep 10 rfl rfl 57 rfl
              exact does_v (v := (pt b24 o25)) (wanted_none _ rfl _) (rv_ix Try.underlying22 ti5 e50 e57 hi23) rfl) ?_
          refine all_cons (by
              intro ρ σm m hoff hdep
              have e58 : look 99 ρ 58 = (pt b24 o25) := hdep 11 rfl rfl 58 rfl
              replace hR8 := hR8.mod m
              exact does_v (v := (.int .u8 (x21.toNat : Int))) (wanted_none _ rfl _) (rv_load1 Try.underlying5 rfl e58 (hR8.at hx22 hi23).byte) rfl) ?_
          refine all_cons (by
              intro ρ σm m hoff hdep
              have e59 : look 99 ρ 59 = (.int .u8 (x21.toNat : Int)) := hdep 12 rfl rfl 59 rfl
              exact does_v (v := (I (w64 (x21.toNat : Int)))) (wanted_none _ rfl _) (rv_conv Try.underlying5 Try.underlying3 e59) rfl) ?_
          refine all_cons (by
              intro ρ σm m hoff hdep
              have e60 : look 99 ρ 60 = (I (w64 (x21.toNat : Int))) := hdep 13 rfl rfl 60 rfl
              exact does_v (v := (I (w64 ((w64 (x21.toNat : Int)) * 131)))) (wanted_none _ rfl _) (rv_mul (a := (w64 (x21.toNat : Int))) (b := 131) e60 rfl) rfl) ?_
          refine all_cons (by
              intro ρ σm m hoff hdep
              have e0 : look 99 ρ 0 = (pt br_0 0) := look_off (hoff 0 rfl) rfl
              exact does_v (v := (pt br_0 0)) (wanted_none _ rfl _) (rv_move e0) rfl) ?_
          refine all_cons (by
              intro ρ σm m hoff hdep
              have e62 : look 99 ρ 62 = (pt br_0 0) := hdep 15 rfl rfl 62 rfl
              exact does_v (v := (pt br_0 0)) (wanted_none _ rfl _) (rv_nilCheck e62) rfl) ?_
          refine all_cons (by
              intro ρ σm m hoff hdep
              have e63 : look 99 ρ 63 = (pt br_0 0) := hdep 16 rfl rfl 63 rfl
              exact does_v (v := (pt br_0 0)) (wanted_none _ rfl _) (rv_fieldAddr (off := 0) (ft := 22) Try.underlying77 rfl ti22 rfl e63) rfl) ?_
          refine all_cons (by
              intro ρ σm m hoff hdep
              have e64 : look 99 ρ 64 = (pt br_0 0) := hdep 17 rfl rfl 64 rfl
              replace hB9 := hB9.mod0 m
              exact does_v (v := (Sl ar_0_0 r_0.1 cr_0_0)) (wanted_none _ rfl _) (rv_load1 Try.underlying22 rfl e64 (hB9.cell' 0 rfl rfl)) rfl) ?_
          refine all_cons (by
              intro ρ σm m hoff hdep
              have e5 : look 99 ρ 5 = (I (w64 ((w64 (r_0.2 + 1)) - 1))) := look_off (hoff 5 rfl) rfl
              exact does_v (v := (I (w64 ((w64 (r_0.2 + 1)) - 1)))) (wanted_none _ rfl _) (rv_move e5) rfl) ?_
          refine all_cons (by
              intro ρ σm m hoff hdep
              have e66 : look 99 ρ 66 = (I (w64 ((w64 (r_0.2 + 1)) - 1))) := hdep 19 rfl rfl 66 rfl
              exact does_v (v := (I (w64 ((w64 ((w64 (r_0.2 + 1)) - 1)) * 7)))) (wanted_none _ rfl _) (rv_mul (a := (w64 ((w64 (r_0.2 + 1)) - 1))) (b := 7) e66 rfl) rfl) ?_
          refine all_cons (by
              intro ρ σm m hoff hdep
              have e67 : look 99 ρ 67 = (I (w64 ((w64 ((w64 (r_0.2 + 1)) - 1)) * 7))) := hdep 20 rfl rfl 67 rfl
              exact does_v (v := (I (w64 ((w64 ((w64 ((w64 (r_0.2 + 1)) - 1)) * 7)) + 3)))) (wanted_none _ rfl _) (rv_add (a := (w64 ((w64 ((w64 (r_0.2 + 1)) - 1)) * 7))) (b := 3) e67 rfl) rfl) ?_
          refine all_cons (by
              intro ρ σm m hoff hdep
              have e0 : look 99 ρ 0 = (pt br_0 0) := look_off (hoff 0 rfl) rfl
              exact does_v (v := (pt br_0 0)) (wanted_none _ rfl _) (rv_move e0) rfl) ?_
          refine all_cons (by
              intro ρ σm m hoff hdep
              have e69 : look 99 ρ 69 = (pt br_0 0) := hdep 22 rfl rfl 69 rfl
              exact does_v (v := (pt br_0 0)) (wanted_none _ rfl _) (rv_nilCheck e69) rfl) ?_
          refine all_cons (by
              intro ρ σm m hoff hdep
              have e70 : look 99 ρ 70 = (pt br_0 0) := hdep 23 rfl rfl 70 rfl
              exact does_v (v := (pt br_0 0)) (wanted_none _ rfl _) (rv_fieldAddr (off := 0) (ft := 22) Try.underlying77 rfl ti22 rfl e70) rfl) ?_
          refine all_cons (by
              intro ρ σm m hoff hdep
              have e71 : look 99 ρ 71 = (pt br_0 0) := hdep 24 rfl rfl 71 rfl
              replace hB9 := hB9.mod0 m
              exact does_v (v := (Sl ar_0_0 r_0.1 cr_0_0)) (wanted_none _ rfl _) (rv_load1 Try.underlying22 rfl e71 (hB9.cell' 0 rfl rfl)) rfl) ?_
          refine all_cons (by
              intro ρ σm m hoff hdep
              have e72 : look 99 ρ 72 = (Sl ar_0_0 r_0.1 cr_0_0) := hdep 25 rfl rfl 72 rfl
              exact does_v (v := (I (r_0.1.length : Int))) (wanted_none _ rfl _) (rv_len Try.underlying22 e72) rfl) ?_
          refine all_cons (by
              intro ρ σm m hoff hdep
              have e68 : look 99 ρ 68 = (I (w64 ((w64 ((w64 ((w64 (r_0.2 + 1)) - 1)) * 7)) + 3))) := hdep 21 rfl rfl 68 rfl
              have e73 : look 99 ρ 73 = (I (r_0.1.length : Int)) := hdep 26 rfl rfl 73 rfl
              exact does_v (v := (I q26)) (wanted_none _ rfl _) (rv_remG (a := (w64 ((w64 ((w64 ((w64 (r_0.2 + 1)) - 1)) * 7)) + 3))) (b := (r_0.1.length : Int)) hx27 e68 e73) rfl) ?_
          refine all_cons (by
              intro ρ σm m hoff hdep
              have e65 : look 99 ρ 65 = (Sl ar_0_0 r_0.1 cr_0_0) := hdep 18 rfl rfl 65 rfl
              have e74 : look 99 ρ 74 = (I q26) := hdep 27 rfl rfl 74 rfl
              exact does_v (v := (pt b31 o32)) (wanted_none _ rfl _) (rv_ix Try.underlying22 ti5 e65 e74 hi30) rfl) ?_
          refine all_cons (by
              intro ρ σm m hoff hdep
              have e75 : look 99 ρ 75 = (pt b31 o32) := hdep 28 rfl rfl 75 rfl
              replace hR8 := hR8.mod m
              exact does_v (v := (.int .u8 (x28.toNat : Int))) (wanted_none _ rfl _) (rv_load1 Try.underlying5 rfl e75 (hR8.at hx29 hi30).byte) rfl) ?_
          refine all_cons (by
              intro ρ σm m hoff hdep
              have e76 : look 99 ρ 76 = (.int .u8 (x28.toNat : Int)) := hdep 29 rfl rfl 76 rfl
              exact does_v (v := (I (w64 (x28.toNat : Int)))) (wanted_none _ rfl _) (rv_conv Try.underlying5 Try.underlying3 e76) rfl) ?_
          refine all_cons (by
              intro ρ σm m hoff hdep
              have e77 : look 99 ρ 77 = (I (w64 (x28.toNat : Int))) := hdep 30 rfl rfl 77 rfl
              exact does_v (v := (I (w64 ((w64 (x28.toNat : Int)) * 1117)))) (wanted_none _ rfl _) (rv_mul (a := (w64 (x28.toNat : Int))) (b := 1117) e77 rfl) rfl) ?_
          refine all_cons (by
              intro ρ σm m hoff hdep
              have e61 : look 99 ρ 61 = (I (w64 ((w64 (x21.toNat : Int)) * 131))) := hdep 14 rfl rfl 61 rfl
              have e78 : look 99 ρ 78 = (I (w64 ((w64 (x28.toNat : Int)) * 1117))) := hdep 31 rfl rfl 78 rfl
              exact does_v (v := (I (w64 ((w64 ((w64 (x21.toNat : Int)) * 131)) + (w64 ((w64 (x28.toNat : Int)) * 1117)))))) (wanted_none _ rfl _) (rv_add (a := (w64 ((w64 (x21.toNat : Int)) * 131))) (b := (w64 ((w64 (x28.toNat : Int)) * 1117))) e61 e78) rfl) ?_
          refine all_cons (by
              intro ρ σm m hoff hdep
              have e5 : look 99 ρ 5 = (I (w64 ((w64 (r_0.2 + 1)) - 1))) := look_off (hoff 5 rfl) rfl
              exact does_v (v := (I (w64 ((w64 (r_0.2 + 1)) - 1)))) (wanted_none _ rfl _) (rv_move e5) rfl) ?_
          refine all_cons (by
              intro ρ σm m hoff hdep
              have e80 : look 99 ρ 80 = (I (w64 ((w64 (r_0.2 + 1)) - 1))) := hdep 33 rfl rfl 80 rfl
              exact does_v (v := (I (w64 ((w64 ((w64 (r_0.2 + 1)) - 1)) * 29)))) (wanted_none _ rfl _) (rv_mul (a := (w64 ((w64 (r_0.2 + 1)) - 1))) (b := 29) e80 rfl) rfl) ?_
          refine all_cons (by
              intro ρ σm m hoff hdep
              have e79 : look 99 ρ 79 = (I (w64 ((w64 ((w64 (x21.toNat : Int)) * 131)) + (w64 ((w64 (x28.toNat : Int)) * 1117))))) := hdep 32 rfl rfl 79 rfl
              have e81 : look 99 ρ 81 = (I (w64 ((w64 ((w64 (r_0.2 + 1)) - 1)) * 29))) := hdep 34 rfl rfl 81 rfl
              exact does_v (v := (I (w64 ((w64 ((w64 ((w64 (x21.toNat : Int)) * 131)) + (w64 ((w64 (x28.toNat : Int)) * 1117)))) + (w64 ((w64 ((w64 (r_0.2 + 1)) - 1)) * 29)))))) (wanted_none _ rfl _) (rv_add (a := (w64 ((w64 ((w64 (x21.toNat : Int)) * 131)) + (w64 ((w64 (x28.toNat : Int)) * 1117))))) (b := (w64 ((w64 ((w64 (r_0.2 + 1)) - 1)) * 29))) e79 e81) rfl) ?_
          refine all_cons (by
              intro ρ σm m hoff hdep
              have e5 : look 99 ρ 5 = (I (w64 ((w64 (r_0.2 + 1)) - 1))) := look_off (hoff 5 rfl) rfl
              exact does_v (v := (I (w64 ((w64 (r_0.2 + 1)) - 1)))) (wanted_none _ rfl _) (rv_move e5) rfl) ?_
          refine all_cons (by
              intro ρ σm m hoff hdep
              have e0 : look 99 ρ 0 = (pt br_0 0) := look_off (hoff 0 rfl) rfl
              exact does_v (v := (pt br_0 0)) (wanted_none _ rfl _) (rv_move e0) rfl) ?_
          refine all_cons (by
              intro ρ σm m hoff hdep
              have e84 : look 99 ρ 84 = (pt br_0 0) := hdep 37 rfl rfl 84 rfl
              exact does_v (v := (pt br_0 0)) (wanted_none _ rfl _) (rv_nilCheck e84) rfl) ?_
          refine all_cons (by
              intro ρ σm m hoff hdep
              have e85 : look 99 ρ 85 = (pt br_0 0) := hdep 38 rfl rfl 85 rfl
              exact does_v (v := (pt br_0 0)) (wanted_none _ rfl _) (rv_fieldAddr (off := 0) (ft := 22) Try.underlying77 rfl ti22 rfl e85) rfl) ?_
          refine all_cons (by
              intro ρ σm m hoff hdep
              have e86 : look 99 ρ 86 = (pt br_0 0) := hdep 39 rfl rfl 86 rfl
              replace hB9 := hB9.mod0 m
              exact does_v (v := (Sl ar_0_0 r_0.1 cr_0_0)) (wanted_none _ rfl _) (rv_load1 Try.underlying22 rfl e86 (hB9.cell' 0 rfl rfl)) rfl) ?_
          refine all_cons (by
              intro ρ σm m hoff hdep
              have e87 : look 99 ρ 87 = (Sl ar_0_0 r_0.1 cr_0_0) := hdep 40 rfl rfl 87 rfl
              exact does_v (v := (I (r_0.1.length : Int))) (wanted_none _ rfl _) (rv_len Try.underlying22 e87) rfl) ?_
          refine all_cons (by
              intro ρ σm m hoff hdep
              have e83 : look 99 ρ 83 = (I (w64 ((w64 (r_0.2 + 1)) - 1))) := hdep 36 rfl rfl 83 rfl
              have e88 : look 99 ρ 88 = (I (r_0.1.length : Int)) := hdep 41 rfl rfl 88 rfl
              exact does_v (v := (I q33)) (wanted_none _ rfl _) (rv_quoG (a := (w64 ((w64 (r_0.2 + 1)) - 1))) (b := (r_0.1.length : Int)) hx34 e83 e88) rfl) ?_
          refine all_cons (by
              intro ρ σm m hoff hdep
              have e89 : look 99 ρ 89 = (I q33) := hdep 42 rfl rfl 89 rfl
              exact does_v (v := (I (w64 (q33 * 53)))) (wanted_none _ rfl _) (rv_mul (a := q33) (b := 53) e89 rfl) rfl) ?_
          exact all_nil
        · intro ρ σ35 m hoff hrel
          have e0 : look 99 ρ 0 = (pt br_0 0) := look_off (hoff 0 rfl) rfl
          have e1 : look 99 ρ 1 = (I n_1) := look_off (hoff 1 rfl) rfl
          have e82 : look 99 ρ 82 = (I (w64 ((w64 ((w64 ((w64 (x21.toNat : Int)) * 131)) + (w64 ((w64 (x28.toNat : Int)) * 1117)))) + (w64 ((w64 ((w64 (r_0.2 + 1)) - 1)) * 29))))) := hrel 35 rfl 82 rfl
          have e90 : look 99 ρ 90 = (I (w64 (q33 * 53))) := hrel 43 rfl 90 rfl
          replace hR8 := hR8.mod m
          replace hB9 := hB9.mod0 m
          replace hK := hK.none m
          rw [fr_lookL (L := [(0, (pt br_0 0)), (1, (I n_1)), (82, (I (w64 ((w64 ((w64 ((w64 (x21.toNat : Int)) * 131)) + (w64 ((w64 (x28.toNat : Int)) * 1117)))) + (w64 ((w64 ((w64 (r_0.2 + 1)) - 1)) * 29)))))), (90, (I (w64 (q33 * 53))))]) ⟨e0, e1, e82, e90, trivial⟩]
          clear hoff hrel m e0 e1 e82 e90
          refine st (v := (I (w64 ((w64 ((w64 ((w64 ((w64 (x21.toNat : Int)) * 131)) + (w64 ((w64 (x28.toNat : Int)) * 1117)))) + (w64 ((w64 ((w64 (r_0.2 + 1)) - 1)) * 29)))) + (w64 (q33 * 53)))))) (rv_add (a := (w64 ((w64 ((w64 ((w64 (x21.toNat : Int)) * 131)) + (w64 ((w64 (x28.toNat : Int)) * 1117)))) + (w64 ((w64 ((w64 (r_0.2 + 1)) - 1)) * 29))))) (b := (w64 (q33 * 53))) rfl rfl) ?_
          refine st (v := (I (w64 ((w64 ((w64 ((w64 ((w64 (x21.toNat : Int)) * 131)) + (w64 ((w64 (x28.toNat : Int)) * 1117)))) + (w64 ((w64 ((w64 (r_0.2 + 1)) - 1)) * 29)))) + (w64 (q33 * 53)))))) (rv_assign rfl) ?_
          refine w_end ?_
          refine q_then ?_
          refine c_seq ?_
          refine rg ?_
          refine st (v := (I (w64 ((w64 ((w64 ((w64 ((w64 (x21.toNat : Int)) * 131)) + (w64 ((w64 (x28.toNat : Int)) * 1117)))) + (w64 ((w64 ((w64 (r_0.2 + 1)) - 1)) * 29)))) + (w64 (q33 * 53)))))) (rv_move rfl) ?_
          refine st (v := (I (w64 ((w64 ((w64 ((w64 ((w64 (x21.toNat : Int)) * 131)) + (w64 ((w64 (x28.toNat : Int)) * 1117)))) + (w64 ((w64 ((w64 (r_0.2 + 1)) - 1)) * 29)))) + (w64 (q33 * 53)))))) (rv_move rfl) ?_
          refine st (v := (I (w64 ((w64 ((w64 ((w64 ((w64 ((w64 (x21.toNat : Int)) * 131)) + (w64 ((w64 (x28.toNat : Int)) * 1117)))) + (w64 ((w64 ((w64 (r_0.2 + 1)) - 1)) * 29)))) + (w64 (q33 * 53)))).tdiv 64)))) (rv_quo (a := (w64 ((w64 ((w64 ((w64 ((w64 (x21.toNat : Int)) * 131)) + (w64 ((w64 (x28.toNat : Int)) * 1117)))) + (w64 ((w64 ((w64 (r_0.2 + 1)) - 1)) * 29)))) + (w64 (q33 * 53))))) (b := 64) rfl rfl (by decide)) ?_
          refine st (v := (I (gxor (w64 ((w64 ((w64 ((w64 ((w64 (x21.toNat : Int)) * 131)) + (w64 ((w64 (x28.toNat : Int)) * 1117)))) + (w64 ((w64 ((w64 (r_0.2 + 1)) - 1)) * 29)))) + (w64 (q33 * 53)))) (w64 ((w64 ((w64 ((w64 ((w64 ((w64 (x21.toNat : Int)) * 131)) + (w64 ((w64 (x28.toNat : Int)) * 1117)))) + (w64 ((w64 ((w64 (r_0.2 + 1)) - 1)) * 29)))) + (w64 (q33 * 53)))).tdiv 64))))) (rv_xor (a := (w64 ((w64 ((w64 ((w64 ((w64 (x21.toNat : Int)) * 131)) + (w64 ((w64 (x28.toNat : Int)) * 1117)))) + (w64 ((w64 ((w64 (r_0.2 + 1)) - 1)) * 29)))) + (w64 (q33 * 53))))) (b := (w64 ((w64 ((w64 ((w64 ((w64 ((w64 (x21.toNat : Int)) * 131)) + (w64 ((w64 (x28.toNat : Int)) * 1117)))) + (w64 ((w64 ((w64 (r_0.2 + 1)) - 1)) * 29)))) + (w64 (q33 * 53)))).tdiv 64))) rfl rfl) ?_
          refine st (v := (I (gxor (w64 ((w64 ((w64 ((w64 ((w64 (x21.toNat : Int)) * 131)) + (w64 ((w64 (x28.toNat : Int)) * 1117)))) + (w64 ((w64 ((w64 (r_0.2 + 1)) - 1)) * 29)))) + (w64 (q33 * 53)))) (w64 ((w64 ((w64 ((w64 ((w64 ((w64 (x21.toNat : Int)) * 131)) + (w64 ((w64 (x28.toNat : Int)) * 1117)))) + (w64 ((w64 ((w64 (r_0.2 + 1)) - 1)) * 29)))) + (w64 (q33 * 53)))).tdiv 64))))) (rv_assign rfl) ?_
          refine w_end ?_
          refine q_then ?_
          refine c_seq ?_
          refine rg ?_
          refine st (v := (I (gxor (w64 ((w64 ((w64 ((w64 ((w64 (x21.toNat : Int)) * 131)) + (w64 ((w64 (x28.toNat : Int)) * 1117)))) + (w64 ((w64 ((w64 (r_0.2 + 1)) - 1)) * 29)))) + (w64 (q33 * 53)))) (w64 ((w64 ((w64 ((w64 ((w64 ((w64 (x21.toNat : Int)) * 131)) + (w64 ((w64 (x28.toNat : Int)) * 1117)))) + (w64 ((w64 ((w64 (r_0.2 + 1)) - 1)) * 29)))) + (w64 (q33 * 53)))).tdiv 64))))) (rv_move rfl) ?_
          refine st (v := (I n_1)) (rv_move rfl) ?_
          obtain ⟨q36, hx37, h'⟩ := bind_some h
          clear h
          have h := h'; clear h'
          refine st (v := (I q36)) (rv_remG (a := (gxor (w64 ((w64 ((w64 ((w64 ((w64 (x21.toNat : Int)) * 131)) + (w64 ((w64 (x28.toNat : Int)) * 1117)))) + (w64 ((w64 ((w64 (r_0.2 + 1)) - 1)) * 29)))) + (w64 (q33 * 53)))) (w64 ((w64 ((w64 ((w64 ((w64 ((w64 (x21.toNat : Int)) * 131)) + (w64 ((w64 (x28.toNat : Int)) * 1117)))) + (w64 ((w64 ((w64 (r_0.2 + 1)) - 1)) * 29)))) + (w64 (q33 * 53)))).tdiv 64)))) (b := n_1) hx37 rfl rfl) ?_
          refine st (v := (I q36)) (rv_assign rfl) ?_
          refine w_end ?_
          refine q_then ?_
          refine c_ret ?_
          obtain rfl := Option.some.inj h
          exact bodyPost_ret (v := (I q36)) (results_fr1 Try.results50 rfl _) rfl ⟨_, σ35, rfl, rfl, hK, ar_0_0, cr_0_0, rfl, hR8, hB9⟩

theorem c_spec_reader_one {σ0 : St} {r_0 : (List UInt8) × Int} {list_1 : List Int} {ar_0_0 : Option Addr} {cr_0_0 : Nat} (hRr_0_0 : RS 0 σ0 (Sl ar_0_0 r_0.1 cr_0_0) r_0.1) {br_0 : Nat} (hBr_0 : Bx σ0 br_0 [(Sl ar_0_0 r_0.1 cr_0_0), (I r_0.2)])  (hltr_0 : br_0 < σ0.size) {alist_1 : Option Addr} {clist_1 : Nat} (hRlist_1 : RS 0 σ0 (Sl alist_1 list_1 clist_1) list_1) {r : Int × ((List UInt8) × Int)} (h : M.spec_reader_one r_0 list_1 = some r) :
    Cal Try.prog 48 [(pt br_0 0), (Sl alist_1 list_1 clist_1)] (some br_0) σ0 (fun v σ' => ∃ (a0 : Option Addr) (c0 : Nat), v = (I r.1) ∧ RS 0 σ' (Sl a0 r.2.1 c0) r.2.1 ∧ Bx σ' br_0 [(Sl a0 r.2.1 c0), (I r.2.2)]) := by
  refine ⟨⟨_, _, Try.func48, rfl, rfl⟩, ?_⟩
  refine enter (n := 12) Try.func48 rfl rfl rfl ?_
  unfold M.spec_reader_one at h
  have hK : Mod (some br_0) σ0 σ0 := Mod.refl _ _
  refine c_seq ?_
  refine rg ?_
  refine st (v := (I 0)) (rv_assign rfl) ?_
  refine w_end ?_
  refine q_then ?_
  refine c_seq ?_
  refine rg ?_
  refine st (v := (Sl alist_1 list_1 clist_1)) (rv_move rfl) ?_
  refine st (v := (pt br_0 0)) (rv_move rfl) ?_
  refine st (v := (Sl alist_1 list_1 clist_1)) (rv_move rfl) ?_
  refine st (v := (I (list_1.length : Int))) (rv_len Try.underlying23 rfl) ?_
  obtain ⟨r1, hx2, h'⟩ := bind_some h
  clear h
  have h := h'; clear h'
  refine st_call (c_spec_reader_pick hRr_0_0 hBr_0 hBr_0.lt hx2) rfl ?_
  have hKs := hK.size
  rintro _ σ3 m4 ⟨a5, c6, rfl, hR7, hB8⟩
  replace hRr_0_0 := hRr_0_0.mod m4
  replace hRlist_1 := hRlist_1.mod m4
  replace hK := hK.self m4
  clear hKs m4
  obtain ⟨x9, hx10, h'⟩ := bind_some h
  clear h
  have h := h'; clear h'
  obtain ⟨b12, o13, hi11, -⟩ := hRlist_1.ix hx10
  refine st (v := (pt b12 o13)) (rv_ix Try.underlying23 ti3 rfl rfl hi11) ?_
  refine st (v := (I x9)) (rv_load1 Try.underlying3 rfl rfl (hRlist_1.at hx10 hi11).int) ?_
  refine st (v := (I x9)) (rv_assign rfl) ?_
  refine w_end ?_
  refine q_then ?_
  refine c_ret ?_
  obtain rfl := Option.some.inj h
  exact bodyPost_ret (v := (I x9)) (results_fr1 Try.results48 rfl _) rfl ⟨_, σ3, rfl, rfl, hK, a5, c6, rfl, hR7, hB8⟩

theorem c_spec_someCoord {σ0 : St} {r_0 : (List UInt8) × Int} {ar_0_0 : Option Addr} {cr_0_0 : Nat} (hRr_0_0 : RS 0 σ0 (Sl ar_0_0 r_0.1 cr_0_0) r_0.1) {br_0 : Nat} (hBr_0 : Bx σ0 br_0 [(Sl ar_0_0 r_0.1 cr_0_0), (I r_0.2)])  (hltr_0 : br_0 < σ0.size) {r : Int × ((List UInt8) × Int)} (h : M.spec_someCoord r_0 = some r) :
    Cal Try.prog 69 [(pt br_0 0)] (some br_0) σ0 (fun v σ' => ∃ (a0 : Option Addr) (c0 : Nat), v = (I r.1) ∧ RS 0 σ' (Sl a0 r.2.1 c0) r.2.1 ∧ Bx σ' br_0 [(Sl a0 r.2.1 c0), (I r.2.2)]) := by
  refine ⟨⟨_, _, Try.func69, rfl, rfl⟩, ?_⟩
  refine enter (n := 12) Try.func69 rfl rfl rfl ?_
  unfold M.spec_someCoord at h
  have hK : Mod (some br_0) σ0 σ0 := Mod.refl _ _
  refine c_seq ?_
  refine rg ?_
  refine st (v := (I 0)) (rv_assign rfl) ?_
  refine w_end ?_
  refine q_then ?_
  refine c_seq ?_
  refine rg ?_
  refine st (v := (pt br_0 0)) (rv_move rfl) ?_
  refine st (v := (pt br_0 0)) (rv_move rfl) ?_
  obtain ⟨r1, hx2, h'⟩ := bind_some h
  clear h
  have h := h'; clear h'
  refine st_call (c_spec_reader_pick hRr_0_0 hBr_0 hBr_0.lt hx2) rfl ?_
  have hKs := hK.size
  rintro _ σ3 m4 ⟨a5, c6, rfl, hR7, hB8⟩
  replace hRr_0_0 := hRr_0_0.mod m4
  replace hK := hK.self m4
  clear hKs m4
  refine st (v := (I (w64 (r1.1 - 100)))) (rv_sub (a := r1.1) (b := 100) rfl rfl) ?_
  refine st (v := (pt br_0 0)) (rv_move rfl) ?_
  obtain ⟨r9, hx10, h'⟩ := bind_some h
  clear h
  have h := h'; clear h'
  refine st_call (c_spec_reader_pick hR7 hB8 hB8.lt hx10) rfl ?_
  have hKs := hK.size
  rintro _ σ11 m12 ⟨a13, c14, rfl, hR15, hB16⟩
  replace hR7 := hR7.mod m12
  replace hK := hK.self m12
  clear hKs m12
  refine st (v := (I (w64 (r9.1 - 10)))) (rv_sub (a := r9.1) (b := 10) rfl rfl) ?_
  refine st_buildSlice (lo := σ0.size) (el := σ0.size) (xs := ([0, 1, -1, 5, -7, 10, 3, 100, -100, w64 (r1.1 - 100), w64 (r9.1 - 10)] : List Int)) (ps := [(0, (I 0)), (1, (I 1)), (2, (I (-1))), (3, (I 5)), (4, (I (-7))), (5, (I 10)), (6, (I 3)), (7, (I 100)), (8, (I (-100))), (9, (I (w64 (r1.1 - 100)))), (10, (I (w64 (r9.1 - 10))))]) (cs := [(I 0), (I 1), (I (-1)), (I 5), (I (-7)), (I 10), (I 3), (I 100), (I (-100)), (I (w64 (r1.1 - 100))), (I (w64 (r9.1 - 10)))]) Try.underlying23 ti3 rfl rfl (by kernel_rfl) (.cons (c := [(I 0)]) rfl (.cons (c := [(I 1)]) rfl (.cons (c := [(I (-1))]) rfl (.cons (c := [(I 5)]) rfl (.cons (c := [(I (-7))]) rfl (.cons (c := [(I 10)]) rfl (.cons (c := [(I 3)]) rfl (.cons (c := [(I 100)]) rfl (.cons (c := [(I (-100))]) rfl (.cons (c := [(I (w64 (r1.1 - 100)))]) rfl (.cons (c := [(I (w64 (r9.1 - 10)))]) rfl (.nil)))))))))))) rfl ?_ hK.size (wanted_none _ rfl _)
  intro b18 σ19 hbn21 m20 hO17
  replace hR15 := hR15.mod m20
  replace hB16 := hB16.mod0 m20
  replace hK := hK.none m20
  clear hbn21 m20
  have hg26 := hO17.ge
  obtain ⟨σ22, hw25, m23, hR24⟩ := hO17.pub' (Nat.le_refl _)
  rw [← hw25]; clear hw25
  replace hR15 := hR15.mod m23
  replace hB16 := hB16.mod' m23 (Df.ge (by rintro _ ⟨⟩; exact hltr_0) hO17.ge)
  replace hK := hK.own m23 hg26
  obtain ⟨r27, hx28, h'⟩ := bind_some h
  clear h
  have h := h'; clear h'
  refine st_call (c_spec_reader_one hR15 hB16 hB16.lt (hR24.low (Nat.zero_le _)) hx28) rfl ?_
  have hKs := hK.size
  rintro _ σ29 m30 ⟨a31, c32, rfl, hR33, hB34⟩
  replace hR15 := hR15.mod m30
  replace hR24 := hR24.mod m30
  replace hK := hK.self m30
  clear hKs m30
  refine st (v := (I r27.1)) (rv_assign rfl) ?_
  refine w_end ?_
  refine q_then ?_
  refine c_ret ?_
  obtain rfl := Option.some.inj h
  exact bodyPost_ret (v := (I r27.1)) (results_fr1 Try.results69 rfl _) rfl ⟨_, σ29, rfl, rfl, hK, a31, c32, rfl, hR33, hB34⟩

theorem c_spec_someVector {σ0 : St} {r_0 : (List UInt8) × Int} {ar_0_0 : Option Addr} {cr_0_0 : Nat} (hRr_0_0 : RS 0 σ0 (Sl ar_0_0 r_0.1 cr_0_0) r_0.1) {br_0 : Nat} (hBr_0 : Bx σ0 br_0 [(Sl ar_0_0 r_0.1 cr_0_0), (I r_0.2)])  (hltr_0 : br_0 < σ0.size) {r : (List Int) × ((List UInt8) × Int)} (h : M.spec_someVector r_0 = some r) :
    Cal Try.prog 49 [(pt br_0 0)] (some br_0) σ0 (fun v σ' => ∃ (a0 : Option Addr) (c0 : Nat), ∃ (a1 : Option Addr) (c1 : Nat), v = (Sl a0 r.1 c0) ∧ Ow σ' σ0.size σ0.size (Sl a0 r.1 c0) r.1 ∧ RS 0 σ' (Sl a1 r.2.1 c1) r.2.1 ∧ Bx σ' br_0 [(Sl a1 r.2.1 c1), (I r.2.2)]) := by
  refine ⟨⟨_, _, Try.func49, rfl, rfl⟩, ?_⟩
  refine enter (n := 16) Try.func49 rfl rfl rfl ?_
  unfold M.spec_someVector at h
  have hK : Mod (some br_0) σ0 σ0 := Mod.refl _ _
  refine c_seq ?_
  refine rg ?_
  refine st (v := (.slice none 0 0)) (rv_assign rfl) ?_
  refine w_end ?_
  refine q_then ?_
  refine c_seq ?_
  refine rg ?_
  refine st_buildSlice (lo := σ0.size) (el := σ0.size) (xs := ([] : List Int)) (ps := []) (cs := []) Try.underlying23 ti3 rfl rfl (by kernel_rfl) (.nil) rfl ?_ hK.size (wanted_none _ rfl _)
  intro b2 σ3 hbn5 m4 hO1
  replace hRr_0_0 := hRr_0_0.mod m4
  replace hBr_0 := hBr_0.mod0 m4
  replace hK := hK.none m4
  clear hbn5 m4
  refine st (v := (Sl (some ⟨b2, 0, none⟩) ([] : List Int) 0)) (rv_assign rfl) ?_
  refine w_end ?_
  refine q_then ?_
  refine c_seq ?_
  refine c_seq ?_
  refine rg ?_
  refine st (v := (I 0)) (rv_assign rfl) ?_
  refine w_end ?_
  refine q_then ?_
  obtain ⟨o6, hj, h'⟩ := bind_some h
  clear h
  refine c_cut (fun e a w => e = .normal ∧ ∃ (ρ : Nat → Value) (σ : St) (aj1 : Option Addr) (cj2 : Nat) (aj5 : Option Addr) (cj6 : Nat), a = fr 16 (updL ρ [(0, (pt br_0 0)), (3, (Sl aj5 o6.2 cj6))]) ∧ w = σ.w ∧ Mod (some br_0) σ0 σ ∧ RS 0 σ (Sl aj1 o6.1.1 cj2) o6.1.1 ∧ Bx σ br_0 [(Sl aj1 o6.1.1 cj2), (I o6.1.2)] ∧ Ow σ σ0.size σ0.size (Sl aj5 o6.2 cj6) o6.2) ?_ ?_
  · clear h'
    rename _ = some o6 => h
    refine c_blk ?_
    refine wp_loopM _ h (fun s7 a w => ∃ (ρ : Nat → Value) (σ : St) (aj1 : Option Addr) (cj2 : Nat) (aj5 : Option Addr) (cj6 : Nat), a = fr 16 (updL ρ [(0, (pt br_0 0)), (3, (Sl aj5 s7.2.1 cj6)), (4, (I s7.2.2))]) ∧ w = σ.w ∧ Mod (some br_0) σ0 σ ∧ RS 0 σ (Sl aj1 s7.1.1 cj2) s7.1.1 ∧ Bx σ br_0 [(Sl aj1 s7.1.1 cj2), (I s7.1.2)] ∧ Ow σ σ0.size σ0.size (Sl aj5 s7.2.1 cj6) s7.2.1) ⟨_, σ3, ar_0_0, cr_0_0, (some ⟨b2, 0, none⟩), 0, fr_join ⟨rfl, rfl, rfl, trivial⟩, rfl, hK, hRr_0_0, hBr_0, hO1⟩ ?_
    clear h
    rintro s7 a w o ⟨ρ, σ9, a10, c11, a14, c15, rfl, rfl, hK, hR12, hB13, hO16⟩ h hres
    refine c_seq ?_
    refine c_seq ?_
    refine rg ?_
    refine st (v := (I s7.2.2)) (rv_move rfl) ?_
    refine st (v := (B (decide (s7.2.2 < 4)))) (rv_lss (a := s7.2.2) (b := 4) rfl rfl) ?_
    refine w_end ?_
    refine q_then ?_
    refine cd_cond (decide (s7.2.2 < 4)) rfl (fun hb17 => ?_) (fun hb17 => ?_)
    · replace h := bif_t hb17 h
      refine c_skip ?_
      refine q_then ?_
      refine c_seq ?_
      refine c_blk ?_
      refine rg ?_
      refine st (v := (Sl a14 s7.2.1 c15)) (rv_move rfl) ?_
      refine st (v := (pt br_0 0)) (rv_move rfl) ?_
      obtain ⟨r18, hx19, h'⟩ := bind_some h
      clear h
      have h := h'; clear h'
      refine st_call (c_spec_someCoord hR12 hB13 hB13.lt hx19) rfl ?_
      have hd26 := hO16.ltb
      have hKs := hK.size
      rintro _ σ20 m21 ⟨a22, c23, rfl, hR24, hB25⟩
      replace hR12 := hR12.mod m21
      replace hO16 := hO16.mod' m21 (Df.ge (by rintro _ ⟨⟩; exact hltr_0) hO16.ge).symm
      replace hK := hK.self m21
      clear hKs m21
      refine st_buildSlice (lo := σ0.size) (el := σ0.size) (xs := ([r18.1] : List Int)) (ps := [(0, (I r18.1))]) (cs := [(I r18.1)]) Try.underlying23 ti3 rfl rfl (by kernel_rfl) (.cons (c := [(I r18.1)]) rfl (.nil)) rfl ?_ hK.size (wanted_none _ rfl _)
      intro b28 σ29 hbn31 m30 hO27
      have hd32 := hO16.df' hbn31
      replace hR24 := hR24.mod m30
      replace hO16 := hO16.mod0 m30
      replace hB25 := hB25.mod0 m30
      replace hK := hK.none m30
      clear hbn31 m30
      obtain ⟨xs33, hx34, h'⟩ := bind_some h
      clear h
      have h := h'; clear h'
      have hg35 := hO16.ge
      refine st_append Try.underlying23 Try.underlying23 ti3 rfl rfl (by decide) hO16 hO27.rd hx34 hK.size rfl rfl ?_ (wanted_none _ rfl _)
      intro a40 c41 σ36 m37 hO38 hq39
      replace hR24 := hR24.mod m37
      replace hB25 := hB25.mod' m37 (Df.ge (by rintro _ ⟨⟩; exact hltr_0) hO16.ge)
      replace hK := hK.own m37 hg35
      clear hq39 m37
      refine st (v := (Sl a40 xs33 c41)) (rv_assign rfl) ?_
      refine w_end ?_
      refine q_blk ?_
      refine q_then ?_
      refine rg ?_
      refine st (v := (I s7.2.2)) (rv_move rfl) ?_
      refine st (v := (I (w64 (s7.2.2 + 1)))) (rv_add (a := s7.2.2) (b := 1) rfl rfl) ?_
      refine st (v := (I (w64 (s7.2.2 + 1)))) (rv_assign rfl) ?_
      refine w_end ?_
      refine q_then ?_
      obtain rfl := Option.some.inj h
      exact ⟨_, rfl, _, σ36, a22, c23, a40, c41, fr_join ⟨rfl, rfl, rfl, trivial⟩, rfl, hK, hR24, hB25, hO38⟩
    · replace h := bif_f hb17 h
      refine c_exit ?_
      refine q_then_x ?_
      refine q_then_x ?_
      refine q_blk_hit ?_
      obtain rfl := Option.some.inj h
      obtain rfl := hres _ rfl
      exact ⟨rfl, _, σ9, a10, c11, a14, c15, fr_join ⟨rfl, rfl, trivial⟩, rfl, hK, hR12, hB13, hO16⟩
  · clear hj
    have h := h'
    clear h'
    rintro e a w ⟨rfl, ρ, σ42, a43, c44, a47, c48, rfl, rfl, hK, hR45, hB46, hO49⟩
    refine q_then ?_
    refine c_seq ?_
    refine rg ?_
    refine st (v := (Sl a47 o6.2 c48)) (rv_move rfl) ?_
    refine st (v := (Sl a47 o6.2 c48)) (rv_assign rfl) ?_
    refine w_end ?_
    refine q_then ?_
    refine c_ret ?_
    obtain rfl := Option.some.inj h
    exact bodyPost_ret (v := (Sl a47 o6.2 c48)) (results_fr1 Try.results49 rfl _) rfl ⟨_, σ42, rfl, rfl, hK, a47, c48, a43, c44, rfl, hO49, hR45, hB46⟩

theorem c_spec_copyInts {σ0 : St} {list_0 : List Int} {alist_0 : Option Addr} {clist_0 : Nat} (hRlist_0 : RS 0 σ0 (Sl alist_0 list_0 clist_0) list_0) {r : (List Int)} (h : M.spec_copyInts list_0 = some r) :
    Cal Try.prog 80 [(Sl alist_0 list_0 clist_0)] none σ0 (fun v σ' => ∃ (a0 : Option Addr) (c0 : Nat), v = (Sl a0 r c0) ∧ Ow σ' σ0.size σ0.size (Sl a0 r c0) r) := by
  refine ⟨⟨_, _, Try.func80, rfl, rfl⟩, ?_⟩
  refine enter (n := 6) Try.func80 rfl rfl rfl ?_
  unfold M.spec_copyInts at h
  have hK : Mod none σ0 σ0 := Mod.refl _ _
  refine c_seq ?_
  refine rg ?_
  refine st (v := (.slice none 0 0)) (rv_assign rfl) ?_
  refine w_end ?_
  refine q_then ?_
  refine c_seq ?_
  refine rg ?_
  refine st_buildSlice (lo := σ0.size) (el := σ0.size) (xs := ([] : List Int)) (ps := []) (cs := []) Try.underlying23 ti3 rfl rfl (by kernel_rfl) (.nil) rfl ?_ hK.size (wanted_none _ rfl _)
  intro b2 σ3 hbn5 m4 hO1
  replace hRlist_0 := hRlist_0.mod m4
  replace hK := hK.none m4
  clear hbn5 m4
  refine st (v := (Sl alist_0 list_0 clist_0)) (rv_move rfl) ?_
  obtain ⟨xs6, hx7, h'⟩ := bind_some h
  clear h
  have h := h'; clear h'
  have hg8 := hO1.ge
  refine st_append Try.underlying23 Try.underlying23 ti3 rfl rfl (by decide) hO1 (hRlist_0.rd.sc) hx7 hK.size rfl rfl ?_ (wanted_none _ rfl _)
  intro a13 c14 σ9 m10 hO11 hq12
  replace hRlist_0 := hRlist_0.mod m10
  replace hK := hK.own m10 hg8
  clear hq12 m10
  refine st (v := (Sl a13 xs6 c14)) (rv_assign rfl) ?_
  refine w_end ?_
  refine q_then ?_
  refine c_ret ?_
  obtain rfl := Option.some.inj h
  exact bodyPost_ret (v := (Sl a13 xs6 c14)) (results_fr1 Try.results80 rfl _) rfl ⟨_, σ9, rfl, rfl, hK, a13, c14, rfl, hO11⟩

theorem c_spec_reader_spoil {σ0 : St} {r_0 : (List UInt8) × Int} {list_1 : List Int} {n_2 : Int} {ar_0_0 : Option Addr} {cr_0_0 : Nat} (hRr_0_0 : RS 0 σ0 (Sl ar_0_0 r_0.1 cr_0_0) r_0.1) {br_0 : Nat} (hBr_0 : Bx σ0 br_0 [(Sl ar_0_0 r_0.1 cr_0_0), (I r_0.2)])  (hltr_0 : br_0 < σ0.size) {alist_1 : Option Addr} {clist_1 : Nat} (hRlist_1 : RS 0 σ0 (Sl alist_1 list_1 clist_1) list_1) {r : (List Int) × ((List UInt8) × Int)} (h : M.spec_reader_spoil r_0 list_1 n_2 = some r) :
    Cal Try.prog 65 [(pt br_0 0), (Sl alist_1 list_1 clist_1), (I n_2)] (some br_0) σ0 (fun v σ' => ∃ (a0 : Option Addr) (c0 : Nat), ∃ (a1 : Option Addr) (c1 : Nat), v = (Sl a0 r.1 c0) ∧ Ow σ' σ0.size σ0.size (Sl a0 r.1 c0) r.1 ∧ RS 0 σ' (Sl a1 r.2.1 c1) r.2.1 ∧ Bx σ' br_0 [(Sl a1 r.2.1 c1), (I r.2.2)]) := by
  refine ⟨⟨_, _, Try.func65, rfl, rfl⟩, ?_⟩
  refine enter (n := 41) Try.func65 rfl rfl rfl ?_
  unfold M.spec_reader_spoil at h
  have hK : Mod (some br_0) σ0 σ0 := Mod.refl _ _
  refine c_seq ?_
  refine rg ?_
  refine st (v := (.slice none 0 0)) (rv_assign rfl) ?_
  refine w_end ?_
  refine q_then ?_
  refine c_seq ?_
  refine rg ?_
  refine st (v := (Sl alist_1 list_1 clist_1)) (rv_move rfl) ?_
  obtain ⟨r1, hx2, h'⟩ := bind_some h
  clear h
  have h := h'; clear h'
  refine st_call (c_spec_copyInts hRlist_1 hx2) rfl ?_
  have hKs := hK.size
  rintro _ σ3 m4 ⟨a5, c6, rfl, hO7⟩
  replace hRr_0_0 := hRr_0_0.mod m4
  replace hRlist_1 := hRlist_1.mod m4
  replace hBr_0 := hBr_0.mod0 m4
  replace hK := hK.none m4
  have hO7g := hO7.ge
  replace hO7 := hO7.lo hKs
  replace hO7 := hO7.low' hKs
  clear hKs m4 hO7g
  refine st (v := (Sl a5 r1 c6)) (rv_assign rfl) ?_
  refine w_end ?_
  refine q_then ?_
  refine c_seq ?_
  refine c_seq ?_
  refine rg ?_
  refine st (v := (pt br_0 0)) (rv_move rfl) ?_
  obtain ⟨r8, hx9, h'⟩ := bind_some h
  clear h
  have h := h'; clear h'
  refine st_call (c_spec_reader_pick hRr_0_0 hBr_0 hBr_0.lt hx9) rfl ?_
  have hd16 := hO7.ltb
  have hKs := hK.size
  rintro _ σ10 m11 ⟨a12, c13, rfl, hR14, hB15⟩
  replace hRr_0_0 := hRr_0_0.mod m11
  replace hO7 := hO7.mod' m11 (Df.ge (by rintro _ ⟨⟩; exact hltr_0) hO7.ge).symm
  replace hK := hK.self m11
  clear hKs m11
  refine w_end ?_
  refine q_then ?_
  obtain ⟨o17, hj, h'⟩ := bind_some h
  clear h
  refine c_cut (fun e a w => e = .normal ∧ ∃ (ρ : Nat → Value) (σ : St) (aj1 : Option Addr) (cj2 : Nat) (aj5 : Option Addr) (cj6 : Nat), a = fr 41 (updL ρ [(0, (pt br_0 0)), (7, (Sl aj5 o17.2 cj6))]) ∧ w = σ.w ∧ Mod (some br_0) σ0 σ ∧ RS 0 σ (Sl aj1 o17.1.1 cj2) o17.1.1 ∧ Bx σ br_0 [(Sl aj1 o17.1.1 cj2), (I o17.1.2)] ∧ Ow σ σ0.size σ0.size (Sl aj5 o17.2 cj6) o17.2) ?_ ?_
  · clear h'
    rename _ = some o17 => h
    refine c_blk ?_
    refine c_seq ?_
    refine rg ?_
    refine st (v := (B (r8.1 == 0))) (rv_eql (a := r8.1) (b := 0) rfl rfl) ?_
    refine st (v := (B (r8.1 == 0))) (rv_assign rfl) ?_
    refine w_end ?_
    refine q_then ?_
    refine cd_cond (r8.1 == 0) rfl (fun hb18 => ?_) (fun hb18 => ?_)
    · replace h := bif_t hb18 h
      refine rg ?_
      refine st (v := (Sl a5 r1 c6)) (rv_move rfl) ?_
      refine st (v := (I n_2)) (rv_move rfl) ?_
      refine st_buildSlice (lo := σ0.size) (el := σ0.size) (xs := ([n_2] : List Int)) (ps := [(0, (I n_2))]) (cs := [(I n_2)]) Try.underlying23 ti3 rfl rfl (by kernel_rfl) (.cons (c := [(I n_2)]) rfl (.nil)) rfl ?_ hK.size (wanted_none _ rfl _)
      intro b20 σ21 hbn23 m22 hO19
      have hd24 := hO7.df' hbn23
      replace hR14 := hR14.mod m22
      replace hO7 := hO7.mod0 m22
      replace hB15 := hB15.mod0 m22
      replace hK := hK.none m22
      clear hbn23 m22
      obtain ⟨xs25, hx26, h'⟩ := bind_some h
      clear h
      have h := h'; clear h'
      have hg27 := hO7.ge
      refine st_append Try.underlying23 Try.underlying23 ti3 rfl rfl (by decide) hO7 hO19.rd hx26 hK.size rfl rfl ?_ (wanted_none _ rfl _)
      intro a32 c33 σ28 m29 hO30 hq31
      replace hR14 := hR14.mod m29
      replace hB15 := hB15.mod' m29 (Df.ge (by rintro _ ⟨⟩; exact hltr_0) hO7.ge)
      replace hK := hK.own m29 hg27
      clear hq31 m29
      refine st (v := (Sl a32 xs25 c33)) (rv_assign rfl) ?_
      refine w_end ?_
      refine q_blk ?_
      obtain rfl := Option.some.inj h
      exact ⟨rfl, _, σ28, a12, c13, a32, c33, fr_join ⟨rfl, rfl, trivial⟩, rfl, hK, hR14, hB15, hO30⟩
    · replace h := bif_f hb18 h
      refine c_seq ?_
      refine rg ?_
      refine st (v := (B (r8.1 == 1))) (rv_eql (a := r8.1) (b := 1) rfl rfl) ?_
      refine st (v := (B (r8.1 == 1))) (rv_assign rfl) ?_
      refine w_end ?_
      refine q_then ?_
      refine cd_cond (r8.1 == 1) rfl (fun hb34 => ?_) (fun hb34 => ?_)
      · replace h := bif_t hb34 h
        refine c_seq ?_
        refine rg ?_
        refine st (v := (Sl a5 r1 c6)) (rv_move rfl) ?_
        refine st (v := (I (r1.length : Int))) (rv_len Try.underlying23 rfl) ?_
        refine st (v := (B (decide (0 < (r1.length : Int))))) (rv_gtr (a := (r1.length : Int)) (b := 0) rfl rfl) ?_
        refine w_end ?_
        refine q_then ?_
        refine cd_cond (decide (0 < (r1.length : Int))) rfl (fun hb35 => ?_) (fun hb35 => ?_)
        · replace h := bif_t hb35 h
          refine rg ?_
          refine st (v := (Sl a5 r1 c6)) (rv_move rfl) ?_
          obtain ⟨xs36, hx37, h'⟩ := bind_some h
          clear h
          have h := h'; clear h'
          obtain ⟨a38, c39, hs40, hO41, hO41b⟩ := hO7.slice hx37
          refine st (v := (Sl a38 xs36 c39)) (rv_slice_l Try.underlying23 ti3 hs40 rfl rfl) ?_
          refine st (v := (Sl a38 xs36 c39)) (rv_assign rfl) ?_
          refine w_end ?_
          refine q_blk ?_
          obtain rfl := Option.some.inj h
          exact ⟨rfl, _, σ10, a12, c13, a38, c39, fr_join ⟨rfl, rfl, trivial⟩, rfl, hK, hR14, hB15, hO41⟩
        · replace h := bif_f hb35 h
          refine c_skip ?_
          refine q_blk ?_
          obtain rfl := Option.some.inj h
          exact ⟨rfl, _, σ10, a12, c13, a5, c6, fr_join ⟨rfl, rfl, trivial⟩, rfl, hK, hR14, hB15, hO7⟩
      · replace h := bif_f hb34 h
        refine c_seq ?_
        refine rg ?_
        refine st (v := (B (r8.1 == 2))) (rv_eql (a := r8.1) (b := 2) rfl rfl) ?_
        refine st (v := (B (r8.1 == 2))) (rv_assign rfl) ?_
        refine w_end ?_
        refine q_then ?_
        refine cd_cond (r8.1 == 2) rfl (fun hb42 => ?_) (fun hb42 => ?_)
        · replace h := bif_t hb42 h
          refine c_seq ?_
          refine rg ?_
          refine st (v := (Sl a5 r1 c6)) (rv_move rfl) ?_
          refine st (v := (I (r1.length : Int))) (rv_len Try.underlying23 rfl) ?_
          refine st (v := (B (decide (0 < (r1.length : Int))))) (rv_gtr (a := (r1.length : Int)) (b := 0) rfl rfl) ?_
          refine w_end ?_
          refine q_then ?_
          refine cd_cond (decide (0 < (r1.length : Int))) rfl (fun hb43 => ?_) (fun hb43 => ?_)
          · replace h := bif_t hb43 h
            refine rg ?_
            refine st (v := (Sl a5 r1 c6)) (rv_move rfl) ?_
            refine st (v := (pt br_0 0)) (rv_move rfl) ?_
            refine st (v := (Sl a5 r1 c6)) (rv_move rfl) ?_
            refine st (v := (I (r1.length : Int))) (rv_len Try.underlying23 rfl) ?_
            obtain ⟨r44, hx45, h'⟩ := bind_some h
            clear h
            have h := h'; clear h'
            refine st_call (c_spec_reader_pick hR14 hB15 hB15.lt hx45) rfl ?_
            have hd52 := hO7.ltb
            have hKs := hK.size
            rintro _ σ46 m47 ⟨a48, c49, rfl, hR50, hB51⟩
            replace hR14 := hR14.mod m47
            replace hO7 := hO7.mod' m47 (Df.ge (by rintro _ ⟨⟩; exact hltr_0) hO7.ge).symm
            replace hK := hK.self m47
            clear hKs m47
            refine st (v := (pt br_0 0)) (rv_move rfl) ?_
            refine st (v := (I n_2)) (rv_move rfl) ?_
            refine st_buildSlice (lo := σ0.size) (el := σ0.size) (xs := ([-1, n_2, 0, 1] : List Int)) (ps := [(0, (I (-1))), (1, (I n_2)), (2, (I 0)), (3, (I 1))]) (cs := [(I (-1)), (I n_2), (I 0), (I 1)]) Try.underlying23 ti3 rfl rfl (by kernel_rfl) (.cons (c := [(I (-1))]) rfl (.cons (c := [(I n_2)]) rfl (.cons (c := [(I 0)]) rfl (.cons (c := [(I 1)]) rfl (.nil))))) rfl ?_ hK.size (wanted_none _ rfl _)
            intro b54 σ55 hbn57 m56 hO53
            have hd58 := hO7.df' hbn57
            replace hR50 := hR50.mod m56
            replace hO7 := hO7.mod0 m56
            replace hB51 := hB51.mod0 m56
            replace hK := hK.none m56
            clear hbn57 m56
            have hg63 := hO53.ge
            obtain ⟨σ59, hw62, m60, hR61⟩ := hO53.pub' (Nat.le_refl _)
            rw [← hw62]; clear hw62
            replace hR50 := hR50.mod m60
            replace hO7 := hO7.mod' m60 (by first | exact hd58 | exact Df.re hd58)
            replace hB51 := hB51.mod' m60 (Df.ge (by rintro _ ⟨⟩; exact hltr_0) hO53.ge)
            replace hK := hK.own m60 hg63
            obtain ⟨r64, hx65, h'⟩ := bind_some h
            clear h
            have h := h'; clear h'
            refine st_call (c_spec_reader_one hR50 hB51 hB51.lt (hR61.low (Nat.zero_le _)) hx65) rfl ?_
            have hd72 := hO7.ltb
            have hKs := hK.size
            rintro _ σ66 m67 ⟨a68, c69, rfl, hR70, hB71⟩
            replace hR50 := hR50.mod m67
            replace hO7 := hO7.mod' m67 (Df.ge (by rintro _ ⟨⟩; exact hltr_0) hO7.ge).symm
            replace hR61 := hR61.mod m67
            replace hK := hK.self m67
            clear hKs m67
            obtain ⟨x73, hx74, h'⟩ := bind_some h
            clear h
            have h := h'; clear h'
            obtain ⟨b76, o77, hi75, -⟩ := hO7.ix hx74
            refine st (v := (pt b76 o77)) (rv_ix Try.underlying23 ti3 rfl rfl hi75) ?_
            have hg82 := hO7.ge
            refine st_store_own (e' := r64.1) (vs := [(I r64.1)]) (k := 0) ti3 hO7 hx74 hi75 rfl rfl rfl rfl rfl (Nat.le_of_ble_eq_true rfl) (by simp [plain]) (by rintro _ rfl; exact rfl) ?_
            intro σ78 m79 hO81 hs80; clear hs80
            replace hR70 := hR70.mod m79
            replace hB71 := hB71.mod' m79 (Df.ge (by rintro _ ⟨⟩; exact hltr_0) hO7.ge)
            replace hK := hK.own m79 hg82
            replace hO81 := Ow.relen hO81 List.length_set.symm
            rw [show (Sl a5 r1 c6) = (Sl a5 (r1.set r44.1.toNat r64.1) c6) from sl_len List.length_set.symm]
            refine w_end ?_
            refine q_blk ?_
            obtain rfl := Option.some.inj h
            exact ⟨rfl, _, σ78, a68, c69, a5, c6, fr_join ⟨rfl, rfl, trivial⟩, rfl, hK, hR70, hB71, hO81⟩
          · replace h := bif_f hb43 h
            refine c_skip ?_
            refine q_blk ?_
            obtain rfl := Option.some.inj h
            exact ⟨rfl, _, σ10, a12, c13, a5, c6, fr_join ⟨rfl, rfl, trivial⟩, rfl, hK, hR14, hB15, hO7⟩
        · replace h := bif_f hb42 h
          refine c_skip ?_
          refine q_blk ?_
          obtain rfl := Option.some.inj h
          exact ⟨rfl, _, σ10, a12, c13, a5, c6, fr_join ⟨rfl, rfl, trivial⟩, rfl, hK, hR14, hB15, hO7⟩
  · clear hj
    have h := h'
    clear h'
    rintro e a w ⟨rfl, ρ, σ83, a84, c85, a88, c89, rfl, rfl, hK, hR86, hB87, hO90⟩
    refine q_then ?_
    refine c_seq ?_
    refine rg ?_
    refine st (v := (Sl a88 o17.2 c89)) (rv_move rfl) ?_
    refine st (v := (Sl a88 o17.2 c89)) (rv_assign rfl) ?_
    refine w_end ?_
    refine q_then ?_
    refine c_ret ?_
    obtain rfl := Option.some.inj h
    exact bodyPost_ret (v := (Sl a88 o17.2 c89)) (results_fr1 Try.results65 rfl _) rfl ⟨_, σ83, rfl, rfl, hK, a88, c89, a84, c85, rfl, hO90, hR86, hB87⟩

theorem c_spec_anyVector {σ0 : St} {r_0 : (List UInt8) × Int} {ar_0_0 : Option Addr} {cr_0_0 : Nat} (hRr_0_0 : RS 0 σ0 (Sl ar_0_0 r_0.1 cr_0_0) r_0.1) {br_0 : Nat} (hBr_0 : Bx σ0 br_0 [(Sl ar_0_0 r_0.1 cr_0_0), (I r_0.2)])  (hltr_0 : br_0 < σ0.size) {r : (List Int) × ((List UInt8) × Int)} (h : M.spec_anyVector r_0 = some r) :
    Cal Try.prog 40 [(pt br_0 0)] (some br_0) σ0 (fun v σ' => ∃ (a0 : Option Addr) (c0 : Nat), ∃ (a1 : Option Addr) (c1 : Nat), v = (Sl a0 r.1 c0) ∧ Ow σ' σ0.size σ0.size (Sl a0 r.1 c0) r.1 ∧ RS 0 σ' (Sl a1 r.2.1 c1) r.2.1 ∧ Bx σ' br_0 [(Sl a1 r.2.1 c1), (I r.2.2)]) := by
  refine ⟨⟨_, _, Try.func40, rfl, rfl⟩, ?_⟩
  refine enter (n := 12) Try.func40 rfl rfl rfl ?_
  unfold M.spec_anyVector at h
  have hK : Mod (some br_0) σ0 σ0 := Mod.refl _ _
  refine c_seq ?_
  refine rg ?_
  refine st (v := (.slice none 0 0)) (rv_assign rfl) ?_
  refine w_end ?_
  refine q_then ?_
  refine c_seq ?_
  refine c_seq ?_
  refine rg ?_
  refine st (v := (pt br_0 0)) (rv_move rfl) ?_
  obtain ⟨r1, hx2, h'⟩ := bind_some h
  clear h
  have h := h'; clear h'
  refine st_call (c_spec_reader_pick hRr_0_0 hBr_0 hBr_0.lt hx2) rfl ?_
  have hKs := hK.size
  rintro _ σ3 m4 ⟨a5, c6, rfl, hR7, hB8⟩
  replace hRr_0_0 := hRr_0_0.mod m4
  replace hK := hK.self m4
  clear hKs m4
  refine st (v := (B (r1.1 == 0))) (rv_eql (a := r1.1) (b := 0) rfl rfl) ?_
  refine w_end ?_
  refine q_then ?_
  refine cd_cond (r1.1 == 0) rfl (fun hb9 => ?_) (fun hb9 => ?_)
  · replace h := bif_t hb9 h
    refine c_seq ?_
    refine rg ?_
    refine st (v := (pt br_0 0)) (rv_move rfl) ?_
    refine st (v := (pt br_0 0)) (rv_move rfl) ?_
    obtain ⟨r10, hx11, h'⟩ := bind_some h
    clear h
    have h := h'; clear h'
    refine st_call (c_spec_someVector hR7 hB8 hB8.lt hx11) rfl ?_
    have hKs := hK.size
    rintro _ σ12 m13 ⟨a14, c15, a17, c18, rfl, hO16, hR19, hB20⟩
    replace hR7 := hR7.mod m13
    replace hK := hK.self m13
    have hO16g := hO16.ge
    replace hO16 := hO16.lo hKs
    replace hO16 := hO16.low' hKs
    clear hKs m13 hO16g
    have hg25 := hO16.ge
    obtain ⟨σ21, hw24, m22, hR23⟩ := hO16.pub' (Nat.le_refl _)
    rw [← hw24]; clear hw24
    replace hR19 := hR19.mod m22
    replace hB20 := hB20.mod' m22 (Df.ge (by rintro _ ⟨⟩; exact hltr_0) hO16.ge)
    replace hK := hK.own m22 hg25
    obtain ⟨r26, hx27, h'⟩ := bind_some h
    clear h
    have h := h'; clear h'
    refine st_call (c_spec_reader_spoil hR19 hB20 hB20.lt (hR23.low (Nat.zero_le _)) hx27) rfl ?_
    have hKs := hK.size
    rintro _ σ28 m29 ⟨a30, c31, a33, c34, rfl, hO32, hR35, hB36⟩
    replace hR19 := hR19.mod m29
    replace hR23 := hR23.mod m29
    replace hK := hK.self m29
    have hO32g := hO32.ge
    replace hO32 := hO32.lo hKs
    replace hO32 := hO32.low' hKs
    clear hKs m29 hO32g
    refine st (v := (Sl a30 r26.1 c31)) (rv_assign rfl) ?_
    refine w_end ?_
    refine q_then ?_
    refine c_ret ?_
    refine q_then_r ?_
    obtain rfl := Option.some.inj h
    exact bodyPost_ret (v := (Sl a30 r26.1 c31)) (results_fr1 Try.results40 rfl _) rfl ⟨_, σ28, rfl, rfl, hK, a30, c31, a33, c34, rfl, hO32, hR35, hB36⟩
  · replace h := bif_f hb9 h
    refine c_skip ?_
    refine q_then ?_
    refine c_seq ?_
    refine rg ?_
    refine st (v := (pt br_0 0)) (rv_move rfl) ?_
    obtain ⟨r37, hx38, h'⟩ := bind_some h
    clear h
    have h := h'; clear h'
    refine st_call (c_spec_someVector hR7 hB8 hB8.lt hx38) rfl ?_
    have hKs := hK.size
    rintro _ σ39 m40 ⟨a41, c42, a44, c45, rfl, hO43, hR46, hB47⟩
    replace hR7 := hR7.mod m40
    replace hK := hK.self m40
    have hO43g := hO43.ge
    replace hO43 := hO43.lo hKs
    replace hO43 := hO43.low' hKs
    clear hKs m40 hO43g
    refine st (v := (Sl a41 r37.1 c42)) (rv_assign rfl) ?_
    refine w_end ?_
    refine q_then ?_
    refine c_ret ?_
    obtain rfl := Option.some.inj h
    exact bodyPost_ret (v := (Sl a41 r37.1 c42)) (results_fr1 Try.results40 rfl _) rfl ⟨_, σ39, rfl, rfl, hK, a41, c42, a44, c45, rfl, hO43, hR46, hB47⟩

theorem c_spec_newReader {σ0 : St} {code_0 : List UInt8} {acode_0 : Option Addr} {ccode_0 : Nat} (hRcode_0 : RS 0 σ0 (Sl acode_0 code_0 ccode_0) code_0) {r : ((List UInt8) × Int)} (h : M.spec_newReader code_0 = some r) :
    Cal Try.prog 41 [(Sl acode_0 code_0 ccode_0)] none σ0 (fun v σ' => ∃ (bq0 : Nat), ∃ (a1 : Option Addr) (c1 : Nat), v = (pt bq0 0) ∧ RS 0 σ' (Sl a1 r.1 c1) r.1 ∧ σ0.size ≤ bq0 ∧ Bx σ' bq0 [(Sl a1 r.1 c1), (I r.2)]) := by
  refine ⟨⟨_, _, Try.func41, rfl, rfl⟩, ?_⟩
  refine enter (n := 11) Try.func41 rfl rfl rfl ?_
  unfold M.spec_newReader at h
  have hK : Mod none σ0 σ0 := Mod.refl _ _
  refine c_seq ?_
  refine rg ?_
  refine st (v := (.pointer none)) (rv_assign rfl) ?_
  refine w_end ?_
  refine q_then ?_
  refine c_seq ?_
  refine c_seq ?_
  refine rg ?_
  refine st (v := (Sl acode_0 code_0 ccode_0)) (rv_move rfl) ?_
  refine st (v := (I (code_0.length : Int))) (rv_len Try.underlying22 rfl) ?_
  refine st (v := (B (decide (2000 < (code_0.length : Int))))) (rv_gtr (a := (code_0.length : Int)) (b := 2000) rfl rfl) ?_
  refine w_end ?_
  refine q_then ?_
  obtain ⟨o1, hj, h'⟩ := bind_some h
  clear h
  refine c_cut (fun e a w => e = .normal ∧ ∃ (ρ : Nat → Value) (σ : St) (aj1 : Option Addr) (cj2 : Nat), a = fr 11 (updL ρ [(0, (Sl aj1 o1 cj2))]) ∧ w = σ.w ∧ Mod none σ0 σ ∧ RS 0 σ (Sl aj1 o1 cj2) o1) ?_ ?_
  · clear h'
    rename _ = some o1 => h
    refine cd_cond (decide (2000 < (code_0.length : Int))) rfl (fun hb2 => ?_) (fun hb2 => ?_)
    · replace h := bif_t hb2 h
      refine rg ?_
      refine st (v := (Sl acode_0 code_0 ccode_0)) (rv_move rfl) ?_
      obtain ⟨xs3, hx4, h'⟩ := bind_some h
      clear h
      have h := h'; clear h'
      obtain ⟨a5, c6, hs7, hR8⟩ := hRcode_0.slice hx4
      refine st (v := (Sl a5 xs3 c6)) (rv_slice_h Try.underlying22 ti5 hs7 rfl rfl) ?_
      refine st (v := (Sl a5 xs3 c6)) (rv_assign rfl) ?_
      refine w_end ?_
      obtain rfl := Option.some.inj h
      exact ⟨rfl, _, σ0, a5, c6, fr_join ⟨rfl, trivial⟩, rfl, hK, hR8⟩
    · replace h := bif_f hb2 h
      refine c_skip ?_
      obtain rfl := Option.some.inj h
      exact ⟨rfl, _, σ0, acode_0, ccode_0, fr_join ⟨rfl, trivial⟩, rfl, hK, hRcode_0⟩
  · clear hj
    have h := h'
    clear h'
    rintro e a w ⟨rfl, ρ, σ9, a10, c11, rfl, rfl, hK, hR12⟩
    refine q_then ?_
    refine c_seq ?_
    refine rg ?_
    refine st (v := (Sl a10 o1 c11)) (rv_move rfl) ?_
    refine st (v := (.agg #[(Sl a10 o1 c11), (I 0)])) (rv_build (ps := [(0, (Sl a10 o1 c11))]) Try.underlying77 ti77 (bp77 Try.underlying77) rfl (by kernel_rfl)) ?_
    refine st_box (cs := [(Sl a10 o1 c11), (I 0)]) rfl rfl ?_ (wanted_none _ rfl _)
    intro b14 σ16 hbn18 m17 hB13
    have hge15 := Nat.le_trans hK.size (Nat.le_of_eq hbn18)
    replace hR12 := hR12.mod m17
    replace hK := hK.none m17
    clear hbn18 m17
    refine st (v := (pt b14 0)) (rv_assign rfl) ?_
    refine w_end ?_
    refine q_then ?_
    refine c_ret ?_
    obtain rfl := Option.some.inj h
    exact bodyPost_ret (v := (pt b14 0)) (results_fr1 Try.results41 rfl _) rfl ⟨_, σ16, rfl, rfl, hK, b14, a10, c11, rfl, hR12, hge15, hB13⟩

theorem c_spec_DrawValidVector {σ0 : St} {code_0 : List UInt8} {acode_0 : Option Addr} {ccode_0 : Nat} (hRcode_0 : RS 0 σ0 (Sl acode_0 code_0 ccode_0) code_0) {r : (List Int)} (h : M.spec_DrawValidVector code_0 = some r) :
    Cal Try.prog 15 [(Sl acode_0 code_0 ccode_0)] none σ0 (fun v σ' => ∃ (a0 : Option Addr) (c0 : Nat), v = (Sl a0 r c0) ∧ Ow σ' σ0.size σ0.size (Sl a0 r c0) r) := by
  refine ⟨⟨_, _, Try.func15, rfl, rfl⟩, ?_⟩
  refine enter (n := 6) Try.func15 rfl rfl rfl ?_
  unfold M.spec_DrawValidVector at h
  have hK : Mod none σ0 σ0 := Mod.refl _ _
  refine c_seq ?_
  refine rg ?_
  refine st (v := (.slice none 0 0)) (rv_assign rfl) ?_
  refine w_end ?_
  refine q_then ?_
  refine c_seq ?_
  refine rg ?_
  refine st (v := (Sl acode_0 code_0 ccode_0)) (rv_move rfl) ?_
  obtain ⟨r1, hx2, h'⟩ := bind_some h
  clear h
  have h := h'; clear h'
  refine st_call (c_spec_newReader hRcode_0 hx2) rfl ?_
  have hKs := hK.size
  rintro _ σ3 m4 ⟨b5, a8, c9, rfl, hR10, hge6, hB7⟩
  replace hRcode_0 := hRcode_0.mod m4
  replace hK := hK.none m4
  replace hge6 := Nat.le_trans hKs hge6
  clear hKs m4
  obtain ⟨r11, hx12, h'⟩ := bind_some h
  clear h
  have h := h'; clear h'
  refine st_call (c_spec_anyVector hR10 hB7 hB7.lt hx12) rfl ?_
  have hd22 := hB7.ltb
  have hKs := hK.size
  rintro _ σ13 m14 ⟨a15, c16, a18, c19, rfl, hO17, hR20, hB21⟩
  replace hR10 := hR10.mod m14
  replace hK := hK.some m14 hge6
  have hO17g := hO17.ge
  replace hO17 := hO17.lo hKs
  replace hO17 := hO17.low' hKs
  have hd23 := Df.ge hd22 hO17g
  clear hKs m14 hO17g
  refine st (v := (Sl a15 r11.1 c16)) (rv_assign rfl) ?_
  refine w_end ?_
  refine q_then ?_
  refine c_ret ?_
  obtain rfl := Option.some.inj h
  exact bodyPost_ret (v := (Sl a15 r11.1 c16)) (results_fr1 Try.results15 rfl _) rfl ⟨_, σ13, rfl, rfl, hK, a15, c16, rfl, hO17⟩

theorem c_impl_ValidVector {σ0 : St} {v_0 : List Int} {av_0 : Option Addr} {cv_0 : Nat} (hRv_0 : RS 0 σ0 (Sl av_0 v_0 cv_0) v_0) {r : Bool} (h : M.impl_ValidVector v_0 = some r) :
    Cal Try.prog 16 [(Sl av_0 v_0 cv_0)] none σ0 (fun v σ' => v = (B r)) := by
  refine ⟨⟨_, _, Try.func16, rfl, rfl⟩, ?_⟩
  refine enter (n := 21) Try.func16 rfl rfl rfl ?_
  unfold M.impl_ValidVector at h
  have hK : Mod none σ0 σ0 := Mod.refl _ _
  refine c_seq ?_
  refine rg ?_
  refine st (v := (B false)) (rv_assign rfl) ?_
  refine w_end ?_
  refine q_then ?_
  refine c_seq ?_
  refine c_seq ?_
  refine rg ?_
  refine st (v := (Sl av_0 v_0 cv_0)) (rv_move rfl) ?_
  refine st (v := (I (v_0.length : Int))) (rv_len Try.underlying23 rfl) ?_
  refine st (v := (B ((v_0.length : Int) != 4))) (rv_neq (a := (v_0.length : Int)) (b := 4) rfl rfl) ?_
  refine w_end ?_
  refine q_then ?_
  refine cd_cond ((v_0.length : Int) != 4) rfl (fun hb1 => ?_) (fun hb1 => ?_)
  · replace h := bif_t hb1 h
    refine c_seq ?_
    refine rg ?_
    refine st (v := (B false)) (rv_assign rfl) ?_
    refine w_end ?_
    refine q_then ?_
    refine c_ret ?_
    refine q_then_r ?_
    obtain rfl := Option.some.inj h
    exact bodyPost_ret (v := (B false)) (results_fr1 Try.results16 rfl _) rfl ⟨_, σ0, rfl, rfl, hK, rfl⟩
  · replace h := bif_f hb1 h
    refine c_skip ?_
    refine q_then ?_
    refine c_seq ?_
    refine c_seq ?_
    refine rg ?_
    refine st (v := (Sl av_0 v_0 cv_0)) (rv_move rfl) ?_
    refine st (v := (I (v_0.length : Int))) (rv_len Try.underlying23 rfl) ?_
    refine st (v := (I 0)) (rv_move rfl) ?_
    refine w_end ?_
    refine q_then ?_
    obtain ⟨o2, hj, h'⟩ := bind_some h
    clear h
    refine c_cut (fun e a w => (∃ t, o2 = (.inl t) ∧ e = .normal ∧ ∃ (ρ : Nat → Value) (σ : St), a = fr 21 (updL ρ []) ∧ w = σ.w ∧ Mod none σ0 σ) ∨ (∃ t, o2 = (.inr t) ∧ e = .ret ∧ ∃ (ρ : Nat → Value) (σ : St), a = fr 21 (updL ρ [(2, (B t))]) ∧ w = σ.w ∧ Mod none σ0 σ)) ?_ ?_
    · clear h'
      rename _ = some o2 => h
      refine c_blk ?_
      refine wp_loopM _ h (fun s3 a w => ∃ (ρ : Nat → Value) (σ : St), a = fr 21 (updL ρ [(8, (Sl av_0 v_0 cv_0)), (9, (I (v_0.length : Int))), (10, (I s3))]) ∧ w = σ.w ∧ Mod none σ0 σ ∧ RS 0 σ (Sl av_0 v_0 cv_0) v_0) ⟨_, σ0, fr_join ⟨rfl, rfl, rfl, trivial⟩, rfl, hK, hRv_0⟩ ?_
      clear h
      rintro s3 a w o ⟨ρ, σ5, rfl, rfl, hK, hR6⟩ h hres
      refine c_seq ?_
      refine rg ?_
      refine st (v := (B (decide (s3 < (v_0.length : Int))))) (rv_lss (a := s3) (b := (v_0.length : Int)) rfl rfl) ?_
      refine w_end ?_
      refine q_then ?_
      refine c_seq ?_
      refine cd_cond (decide (s3 < (v_0.length : Int))) rfl (fun hb7 => ?_) (fun hb7 => ?_)
      · replace h := bif_t hb7 h
        refine c_skip ?_
        refine q_then ?_
        refine c_seq ?_
        refine c_blk ?_
        refine c_seq ?_
        refine rg ?_
        obtain ⟨x8, hx9, h'⟩ := bind_some h
        clear h
        have h := h'; clear h'
        obtain ⟨b11, o12, hi10, -⟩ := hR6.ix hx9
        refine st (v := (pt b11 o12)) (rv_ix Try.underlying23 ti3 rfl rfl hi10) ?_
        refine st (v := (I x8)) (rv_load1 Try.underlying3 rfl rfl (hR6.at hx9 hi10).int) ?_
        refine st (v := (I x8)) (rv_assign rfl) ?_
        refine w_end ?_
        refine q_then ?_
        refine c_seq ?_
        obtain ⟨o13, hj, h'⟩ := bind_some h
        clear h
        refine c_cut (fun e a w => e = .normal ∧ ∃ (ρ : Nat → Value) (σ : St), a = fr 21 (updL ρ [(8, (Sl av_0 v_0 cv_0)), (9, (I (v_0.length : Int))), (10, (I s3)), (19, (B o13))]) ∧ w = σ.w ∧ Mod none σ0 σ ∧ RS 0 σ (Sl av_0 v_0 cv_0) v_0) ?_ ?_
        · clear h'
          rename _ = some o13 => h
          refine rg ?_
          refine st (v := (I x8)) (rv_move rfl) ?_
          refine st (v := (B (decide (x8 < (-100))))) (rv_lss (a := x8) (b := (-100)) rfl rfl) ?_
          refine st (v := (B (decide (x8 < (-100))))) (rv_move rfl) ?_
          rcases Bool.eq_false_or_eq_true (decide (x8 < (-100))) with hb14 | hb14
          · replace h := bif_t hb14 h
            refine st_skip (congrArg some hb14) ?_
            refine st_skip (congrArg some hb14) ?_
            refine st (v := (B true)) (rv_pick_t (congrArg B hb14) rfl) ?_
            refine w_end ?_
            obtain rfl := Option.some.inj h
            exact ⟨rfl, _, σ5, fr_join ⟨rfl, rfl, rfl, rfl, trivial⟩, rfl, hK, hR6⟩
          · replace h := bif_f hb14 h
            refine st_g (v := (I x8)) (congrArg some hb14) (rv_move rfl) ?_
            refine st_g (v := (B (decide (100 < x8)))) (congrArg some hb14) (rv_gtr (a := x8) (b := 100) rfl rfl) ?_
            refine st (v := (B (decide (100 < x8)))) (rv_pick_f (congrArg B hb14) rfl) ?_
            refine w_end ?_
            obtain rfl := Option.some.inj h
            exact ⟨rfl, _, σ5, fr_join ⟨rfl, rfl, rfl, rfl, trivial⟩, rfl, hK, hR6⟩
        · clear hj
          have h := h'
          clear h'
          rintro e a w ⟨rfl, ρ, σ15, rfl, rfl, hK, hR16⟩
          refine q_then ?_
          refine cd_cond o13 rfl (fun hb17 => ?_) (fun hb17 => ?_)
          · replace h := bif_t hb17 h
            refine c_seq ?_
            refine rg ?_
            refine st (v := (B false)) (rv_assign rfl) ?_
            refine w_end ?_
            refine q_then ?_
            refine c_ret ?_
            refine q_blk_r ?_
            refine q_then_r ?_
            refine q_then_r ?_
            refine q_blk_r ?_
            obtain rfl := Option.some.inj h
            obtain rfl := hres _ rfl
            exact .inr (⟨_, rfl, rfl, _, σ15, fr_join ⟨rfl, trivial⟩, rfl, hK⟩)
          · replace h := bif_f hb17 h
            refine c_skip ?_
            refine q_blk ?_
            refine q_then ?_
            refine rg ?_
            refine st (v := (I (w64 (s3 + 1)))) (rv_add (a := s3) (b := 1) rfl rfl) ?_
            refine st (v := (I (w64 (s3 + 1)))) (rv_move rfl) ?_
            refine w_end ?_
            refine q_then ?_
            obtain rfl := Option.some.inj h
            exact ⟨_, rfl, _, σ15, fr_join ⟨rfl, rfl, rfl, trivial⟩, rfl, hK, hR16⟩
      · replace h := bif_f hb7 h
        refine c_exit ?_
        refine q_then_x ?_
        refine q_then_x ?_
        refine q_blk_hit ?_
        obtain rfl := Option.some.inj h
        obtain rfl := hres _ rfl
        exact .inl ⟨_, rfl, rfl, _, σ5, fr_join trivial, rfl, hK⟩
    · clear hj
      have h := h'
      clear h'
      rintro e a w (⟨t18, rfl, rfl, ρ, σ19, rfl, rfl, hK⟩ | ⟨t20, rfl, rfl, ρ, σ21, rfl, rfl, hK⟩)
      · replace h := selim_l h
        refine q_then ?_
        refine c_seq ?_
        refine rg ?_
        refine st (v := (B true)) (rv_assign rfl) ?_
        refine w_end ?_
        refine q_then ?_
        refine c_ret ?_
        obtain rfl := Option.some.inj h
        exact bodyPost_ret (v := (B true)) (results_fr1 Try.results16 rfl _) rfl ⟨_, σ19, rfl, rfl, hK, rfl⟩
      · replace h := selim_r h
        refine q_then_r ?_
        obtain rfl := Option.some.inj h
        exact bodyPost_ret (v := (B t20)) (results_fr1 Try.results16 rfl _) rfl ⟨_, σ21, rfl, rfl, hK, rfl⟩

theorem c_spec_inRange {σ0 : St} {n_0 : Int} {low_1 : Int} {high_2 : Int}  {r : Bool} (h : M.spec_inRange n_0 low_1 high_2 = some r) :
    Cal Try.prog 52 [(I n_0), (I low_1), (I high_2)] none σ0 (fun v σ' => v = (B r)) := by
  refine ⟨⟨_, _, Try.func52, rfl, rfl⟩, ?_⟩
  refine enter (n := 15) Try.func52 rfl rfl rfl ?_
  unfold M.spec_inRange at h
  have hK : Mod none σ0 σ0 := Mod.refl _ _
  refine c_seq ?_
  refine rg ?_
  refine st (v := (B false)) (rv_assign rfl) ?_
  refine w_end ?_
  refine q_then ?_
  refine c_seq ?_
  refine rg ?_
  refine st (v := (I low_1)) (rv_move rfl) ?_
  refine st (v := (I n_0)) (rv_move rfl) ?_
  refine st (v := (B (decide (low_1 ≤ n_0)))) (rv_leq (a := low_1) (b := n_0) rfl rfl) ?_
  refine st (v := (B (decide (low_1 ≤ n_0)))) (rv_move rfl) ?_
  rcases Bool.eq_false_or_eq_true (decide (low_1 ≤ n_0)) with hb1 | hb1
  · replace h := bif_t hb1 h
    refine st_g (v := (I n_0)) (congrArg some hb1) (rv_move rfl) ?_
    refine st_g (v := (I high_2)) (congrArg some hb1) (rv_move rfl) ?_
    refine st_g (v := (B (decide (n_0 ≤ high_2)))) (congrArg some hb1) (rv_leq (a := n_0) (b := high_2) rfl rfl) ?_
    refine st (v := (B (decide (n_0 ≤ high_2)))) (rv_pick_t (congrArg B hb1) rfl) ?_
    refine st (v := (B (decide (n_0 ≤ high_2)))) (rv_assign rfl) ?_
    refine w_end ?_
    refine q_then ?_
    refine c_ret ?_
    obtain rfl := Option.some.inj h
    exact bodyPost_ret (v := (B (decide (n_0 ≤ high_2)))) (results_fr1 Try.results52 rfl _) rfl ⟨_, σ0, rfl, rfl, hK, rfl⟩
  · replace h := bif_f hb1 h
    refine st_skip (congrArg some hb1) ?_
    refine st_skip (congrArg some hb1) ?_
    refine st_skip (congrArg some hb1) ?_
    refine st (v := (B false)) (rv_pick_f (congrArg B hb1) rfl) ?_
    refine st (v := (B false)) (rv_assign rfl) ?_
    refine w_end ?_
    refine q_then ?_
    refine c_ret ?_
    obtain rfl := Option.some.inj h
    exact bodyPost_ret (v := (B false)) (results_fr1 Try.results52 rfl _) rfl ⟨_, σ0, rfl, rfl, hK, rfl⟩

theorem c_spec_allIn {σ0 : St} {list_0 : List Int} {low_1 : Int} {high_2 : Int} {alist_0 : Option Addr} {clist_0 : Nat} (hRlist_0 : RS 0 σ0 (Sl alist_0 list_0 clist_0) list_0) {r : Bool} (h : M.spec_allIn list_0 low_1 high_2 = some r) :
    Cal Try.prog 66 [(Sl alist_0 list_0 clist_0), (I low_1), (I high_2)] none σ0 (fun v σ' => v = (B r)) := by
  refine ⟨⟨_, _, Try.func66, rfl, rfl⟩, ?_⟩
  refine enter (n := 22) Try.func66 rfl rfl rfl ?_
  unfold M.spec_allIn at h
  have hK : Mod none σ0 σ0 := Mod.refl _ _
  refine c_seq ?_
  refine rg ?_
  refine st (v := (B false)) (rv_assign rfl) ?_
  refine w_end ?_
  refine q_then ?_
  refine c_seq ?_
  refine c_seq ?_
  refine rg ?_
  refine st (v := (I 0)) (rv_assign rfl) ?_
  refine w_end ?_
  refine q_then ?_
  obtain ⟨o1, hj, h'⟩ := bind_some h
  clear h
  refine c_cut (fun e a w => (∃ t, o1 = (.inl t) ∧ e = .normal ∧ ∃ (ρ : Nat → Value) (σ : St), a = fr 22 (updL ρ []) ∧ w = σ.w ∧ Mod none σ0 σ) ∨ (∃ t, o1 = (.inr t) ∧ e = .ret ∧ ∃ (ρ : Nat → Value) (σ : St), a = fr 22 (updL ρ [(6, (B t))]) ∧ w = σ.w ∧ Mod none σ0 σ)) ?_ ?_
  · clear h'
    rename _ = some o1 => h
    refine c_blk ?_
    refine wp_loopM _ h (fun s2 a w => ∃ (ρ : Nat → Value) (σ : St), a = fr 22 (updL ρ [(0, (Sl alist_0 list_0 clist_0)), (1, (I low_1)), (2, (I high_2)), (7, (I s2))]) ∧ w = σ.w ∧ Mod none σ0 σ ∧ RS 0 σ (Sl alist_0 list_0 clist_0) list_0) ⟨_, σ0, fr_join ⟨rfl, rfl, rfl, rfl, trivial⟩, rfl, hK, hRlist_0⟩ ?_
    clear h
    rintro s2 a w o ⟨ρ, σ4, rfl, rfl, hK, hR5⟩ h hres
    refine c_seq ?_
    refine c_seq ?_
    refine rg ?_
    refine st (v := (I s2)) (rv_move rfl) ?_
    refine st (v := (Sl alist_0 list_0 clist_0)) (rv_move rfl) ?_
    refine st (v := (I (list_0.length : Int))) (rv_len Try.underlying23 rfl) ?_
    refine st (v := (B (decide (s2 < (list_0.length : Int))))) (rv_lss (a := s2) (b := (list_0.length : Int)) rfl rfl) ?_
    refine w_end ?_
    refine q_then ?_
    refine cd_cond (decide (s2 < (list_0.length : Int))) rfl (fun hb6 => ?_) (fun hb6 => ?_)
    · replace h := bif_t hb6 h
      refine c_skip ?_
      refine q_then ?_
      refine c_seq ?_
      refine c_blk ?_
      refine c_seq ?_
      refine rg ?_
      refine st (v := (Sl alist_0 list_0 clist_0)) (rv_move rfl) ?_
      refine st (v := (I s2)) (rv_move rfl) ?_
      obtain ⟨x7, hx8, h'⟩ := bind_some h
      clear h
      have h := h'; clear h'
      obtain ⟨b10, o11, hi9, -⟩ := hR5.ix hx8
      refine st (v := (pt b10 o11)) (rv_ix Try.underlying23 ti3 rfl rfl hi9) ?_
      refine st (v := (I x7)) (rv_load1 Try.underlying3 rfl rfl (hR5.at hx8 hi9).int) ?_
      refine st (v := (I low_1)) (rv_move rfl) ?_
      refine st (v := (I high_2)) (rv_move rfl) ?_
      obtain ⟨r12, hx13, h'⟩ := bind_some h
      clear h
      have h := h'; clear h'
      refine st_call (c_spec_inRange  hx13) rfl ?_
      have hKs := hK.size
      rintro _ σ14 m15 rfl
      replace hR5 := hR5.mod m15
      replace hK := hK.none m15
      clear hKs m15
      refine st (v := (B (!r12))) (rv_not rfl) ?_
      refine w_end ?_
      refine q_then ?_
      refine cd_cond (!r12) rfl (fun hb16 => ?_) (fun hb16 => ?_)
      · replace h := bif_t hb16 h
        refine c_seq ?_
        refine rg ?_
        refine st (v := (B false)) (rv_assign rfl) ?_
        refine w_end ?_
        refine q_then ?_
        refine c_ret ?_
        refine q_blk_r ?_
        refine q_then_r ?_
        refine q_then_r ?_
        refine q_blk_r ?_
        obtain rfl := Option.some.inj h
        obtain rfl := hres _ rfl
        exact .inr (⟨_, rfl, rfl, _, σ14, fr_join ⟨rfl, trivial⟩, rfl, hK⟩)
      · replace h := bif_f hb16 h
        refine c_skip ?_
        refine q_blk ?_
        refine q_then ?_
        refine rg ?_
        refine st (v := (I s2)) (rv_move rfl) ?_
        refine st (v := (I (w64 (s2 + 1)))) (rv_add (a := s2) (b := 1) rfl rfl) ?_
        refine st (v := (I (w64 (s2 + 1)))) (rv_assign rfl) ?_
        refine w_end ?_
        refine q_then ?_
        obtain rfl := Option.some.inj h
        exact ⟨_, rfl, _, σ14, fr_join ⟨rfl, rfl, rfl, rfl, trivial⟩, rfl, hK, hR5⟩
    · replace h := bif_f hb6 h
      refine c_exit ?_
      refine q_then_x ?_
      refine q_then_x ?_
      refine q_blk_hit ?_
      obtain rfl := Option.some.inj h
      obtain rfl := hres _ rfl
      exact .inl ⟨_, rfl, rfl, _, σ4, fr_join trivial, rfl, hK⟩
  · clear hj
    have h := h'
    clear h'
    rintro e a w (⟨t17, rfl, rfl, ρ, σ18, rfl, rfl, hK⟩ | ⟨t19, rfl, rfl, ρ, σ20, rfl, rfl, hK⟩)
    · replace h := selim_l h
      refine q_then ?_
      refine c_seq ?_
      refine rg ?_
      refine st (v := (B true)) (rv_assign rfl) ?_
      refine w_end ?_
      refine q_then ?_
      refine c_ret ?_
      obtain rfl := Option.some.inj h
      exact bodyPost_ret (v := (B true)) (results_fr1 Try.results66 rfl _) rfl ⟨_, σ18, rfl, rfl, hK, rfl⟩
    · replace h := selim_r h
      refine q_then_r ?_
      obtain rfl := Option.some.inj h
      exact bodyPost_ret (v := (B t19)) (results_fr1 Try.results66 rfl _) rfl ⟨_, σ20, rfl, rfl, hK, rfl⟩

theorem c_spec_isVector {σ0 : St} {v_0 : List Int} {av_0 : Option Addr} {cv_0 : Nat} (hRv_0 : RS 0 σ0 (Sl av_0 v_0 cv_0) v_0) {r : Bool} (h : M.spec_isVector v_0 = some r) :
    Cal Try.prog 42 [(Sl av_0 v_0 cv_0)] none σ0 (fun v σ' => v = (B r)) := by
  refine ⟨⟨_, _, Try.func42, rfl, rfl⟩, ?_⟩
  refine enter (n := 10) Try.func42 rfl rfl rfl ?_
  unfold M.spec_isVector at h
  have hK : Mod none σ0 σ0 := Mod.refl _ _
  refine c_seq ?_
  refine rg ?_
  refine st (v := (B false)) (rv_assign rfl) ?_
  refine w_end ?_
  refine q_then ?_
  refine c_seq ?_
  refine rg ?_
  refine st (v := (Sl av_0 v_0 cv_0)) (rv_move rfl) ?_
  refine st (v := (I (v_0.length : Int))) (rv_len Try.underlying23 rfl) ?_
  refine st (v := (B ((v_0.length : Int) == 4))) (rv_eql (a := (v_0.length : Int)) (b := 4) rfl rfl) ?_
  refine st (v := (B ((v_0.length : Int) == 4))) (rv_move rfl) ?_
  rcases Bool.eq_false_or_eq_true ((v_0.length : Int) == 4) with hb1 | hb1
  · replace h := bif_t hb1 h
    refine st_g (v := (Sl av_0 v_0 cv_0)) (congrArg some hb1) (rv_move rfl) ?_
    obtain ⟨r2, hx3, h'⟩ := bind_some h
    clear h
    have h := h'; clear h'
    refine st_call_g (by exact (congrArg some hb1)) (c_spec_allIn hRv_0 hx3) rfl ?_
    have hKs := hK.size
    rintro _ σ4 m5 rfl
    replace hRv_0 := hRv_0.mod m5
    replace hK := hK.none m5
    clear hKs m5
    refine st (v := (B r2)) (rv_pick_t (congrArg B hb1) rfl) ?_
    refine st (v := (B r2)) (rv_assign rfl) ?_
    refine w_end ?_
    refine q_then ?_
    refine c_ret ?_
    obtain rfl := Option.some.inj h
    exact bodyPost_ret (v := (B r2)) (results_fr1 Try.results42 rfl _) rfl ⟨_, σ4, rfl, rfl, hK, rfl⟩
  · replace h := bif_f hb1 h
    refine st_skip (congrArg some hb1) ?_
    refine st_skip (congrArg some hb1) ?_
    refine st (v := (B false)) (rv_pick_f (congrArg B hb1) rfl) ?_
    refine st (v := (B false)) (rv_assign rfl) ?_
    refine w_end ?_
    refine q_then ?_
    refine c_ret ?_
    obtain rfl := Option.some.inj h
    exact bodyPost_ret (v := (B false)) (results_fr1 Try.results42 rfl _) rfl ⟨_, σ0, rfl, rfl, hK, rfl⟩

theorem c_spec_ValidVector {σ0 : St} {v_0 : List Int} {av_0 : Option Addr} {cv_0 : Nat} (hRv_0 : RS 0 σ0 (Sl av_0 v_0 cv_0) v_0) {r : Bool} (h : M.spec_ValidVector v_0 = some r) :
    Cal Try.prog 17 [(Sl av_0 v_0 cv_0)] none σ0 (fun v σ' => v = (B r)) := by
  refine ⟨⟨_, _, Try.func17, rfl, rfl⟩, ?_⟩
  refine enter (n := 5) Try.func17 rfl rfl rfl ?_
  unfold M.spec_ValidVector at h
  have hK : Mod none σ0 σ0 := Mod.refl _ _
  refine c_seq ?_
  refine rg ?_
  refine st (v := (B false)) (rv_assign rfl) ?_
  refine w_end ?_
  refine q_then ?_
  refine c_seq ?_
  refine rg ?_
  refine st (v := (Sl av_0 v_0 cv_0)) (rv_move rfl) ?_
  obtain ⟨r1, hx2, h'⟩ := bind_some h
  clear h
  have h := h'; clear h'
  refine st_call (c_spec_isVector hRv_0 hx2) rfl ?_
  have hKs := hK.size
  rintro _ σ3 m4 rfl
  replace hRv_0 := hRv_0.mod m4
  replace hK := hK.none m4
  clear hKs m4
  refine st (v := (B r1)) (rv_assign rfl) ?_
  refine w_end ?_
  refine q_then ?_
  refine c_ret ?_
  obtain rfl := Option.some.inj h
  exact bodyPost_ret (v := (B r1)) (results_fr1 Try.results17 rfl _) rfl ⟨_, σ3, rfl, rfl, hK, rfl⟩

theorem c_laws_FnValidVector {σ0 : St} {code_0 : List UInt8} {acode_0 : Option Addr} {ccode_0 : Nat} (hRcode_0 : RS 0 σ0 (Sl acode_0 code_0 ccode_0) code_0) {r : Bool} (h : M.laws_FnValidVector code_0 = some r) :
    Cal Try.prog 3 [(Sl acode_0 code_0 ccode_0)] none σ0 (fun v σ' => v = (B r)) := by
  refine ⟨⟨_, _, Try.func3, rfl, rfl⟩, ?_⟩
  refine enter (n := 54) Try.func3 rfl rfl rfl ?_
  unfold M.laws_FnValidVector at h
  have hK : Mod none σ0 σ0 := Mod.refl _ _
  refine c_seq ?_
  refine rg ?_
  refine st (v := (B false)) (rv_assign rfl) ?_
  refine w_end ?_
  refine q_then ?_
  refine c_seq ?_
  refine c_seq ?_
  refine rg ?_
  refine st (v := (Sl acode_0 code_0 ccode_0)) (rv_move rfl) ?_
  refine st (v := (I (code_0.length : Int))) (rv_len Try.underlying22 rfl) ?_
  refine st (v := (B (decide (1048576 < (code_0.length : Int))))) (rv_gtr (a := (code_0.length : Int)) (b := 1048576) rfl rfl) ?_
  refine w_end ?_
  refine q_then ?_
  refine cd_cond (decide (1048576 < (code_0.length : Int))) rfl (fun hb1 => ?_) (fun hb1 => ?_)
  · replace h := bif_t hb1 h
    refine c_seq ?_
    refine rg ?_
    refine st (v := (B true)) (rv_assign rfl) ?_
    refine w_end ?_
    refine q_then ?_
    refine c_ret ?_
    refine q_then_r ?_
    obtain rfl := Option.some.inj h
    exact bodyPost_ret (v := (B true)) (results_fr1 Try.results3 rfl _) rfl ⟨_, σ0, rfl, rfl, hK, rfl⟩
  · replace h := bif_f hb1 h
    refine c_skip ?_
    refine q_then ?_
    refine c_seq ?_
    refine rg ?_
    refine st (v := (Sl acode_0 code_0 ccode_0)) (rv_move rfl) ?_
    obtain ⟨r2, hx3, h'⟩ := bind_some h
    clear h
    have h := h'; clear h'
    refine st_call (c_spec_DrawValidVector hRcode_0 hx3) rfl ?_
    have hKs := hK.size
    rintro _ σ4 m5 ⟨a6, c7, rfl, hO8⟩
    replace hRcode_0 := hRcode_0.mod m5
    replace hK := hK.none m5
    have hO8g := hO8.ge
    replace hO8 := hO8.lo hKs
    replace hO8 := hO8.low' hKs
    clear hKs m5 hO8g
    refine st (v := (Sl a6 r2 c7)) (rv_assign rfl) ?_
    refine w_end ?_
    refine q_then ?_
    refine c_seq ?_
    refine rg ?_
    refine st (v := (Sl a6 r2 c7)) (rv_move rfl) ?_
    obtain ⟨σ9, hw10, m11, hR12⟩ := hO8.pub' (Nat.le_refl _)
    rw [← hw10]
    obtain ⟨r13, hx14, h'⟩ := bind_some h
    clear h
    have h := h'; clear h'
    refine st_call (c_impl_ValidVector (hR12.low (Nat.zero_le _)) hx14) rfl ?_
    have hd17 := ltb_size hO8.ltb hw10
    have hKs := size_le hK.size hw10
    rintro _ σ15 m16 rfl
    obtain ⟨σ18, hw19, m20, hxl21, hvl22⟩ := lent hw10 m16
    rw [← hw19]
    replace hO8 := hO8.mod0 m20
    replace hK := hK.none m20
    clear hKs m20
    refine st (v := (B r13)) (rv_assign rfl) ?_
    refine w_end ?_
    refine q_then ?_
    refine c_seq ?_
    refine c_seq ?_
    refine rg ?_
    refine st (v := (B r13)) (rv_move rfl) ?_
    refine st (v := (Sl a6 r2 c7)) (rv_move rfl) ?_
    obtain ⟨σ23, hw24, m25, hR26⟩ := hO8.pub' (Nat.le_refl _)
    rw [← hw24]
    obtain ⟨r27, hx28, h'⟩ := bind_some h
    clear h
    have h := h'; clear h'
    refine st_call (c_spec_ValidVector (hR26.low (Nat.zero_le _)) hx28) rfl ?_
    have hd31 := ltb_size hO8.ltb hw24
    have hKs := size_le hK.size hw24
    rintro _ σ29 m30 rfl
    obtain ⟨σ32, hw33, m34, hxl35, hvl36⟩ := lent hw24 m30
    rw [← hw33]
    replace hO8 := hO8.mod0 m34
    replace hK := hK.none m34
    clear hKs m34
    refine st (v := (B (r13 != r27))) (rv_bneq Try.underlying4 rfl rfl) ?_
    refine w_end ?_
    refine q_then ?_
    refine cd_cond (r13 != r27) rfl (fun hb37 => ?_) (fun hb37 => ?_)
    · replace h := bif_t hb37 h
      refine c_seq ?_
      refine rg ?_
      refine st (v := (B false)) (rv_assign rfl) ?_
      refine w_end ?_
      refine q_then ?_
      refine c_ret ?_
      refine q_then_r ?_
      obtain rfl := Option.some.inj h
      exact bodyPost_ret (v := (B false)) (results_fr1 Try.results3 rfl _) rfl ⟨_, σ32, rfl, rfl, hK, rfl⟩
    · replace h := bif_f hb37 h
      refine c_skip ?_
      refine q_then ?_
      refine c_seq ?_
      refine rg ?_
      refine st_buildSlice (lo := σ0.size) (el := σ0.size) (xs := ([] : List Int)) (ps := []) (cs := []) Try.underlying23 ti3 rfl rfl (by kernel_rfl) (.nil) rfl ?_ hK.size (wanted_none _ rfl _)
      intro b39 σ40 hbn42 m41 hO38
      have hd43 := hO8.df' hbn42
      replace hO8 := hO8.mod0 m41
      replace hK := hK.none m41
      clear hbn42 m41
      refine st (v := (Sl (some ⟨b39, 0, none⟩) ([] : List Int) 0)) (rv_assign rfl) ?_
      refine w_end ?_
      refine q_then ?_
      refine c_seq ?_
      refine c_seq ?_
      refine rg ?_
      refine st (v := (I 0)) (rv_assign rfl) ?_
      refine w_end ?_
      refine q_then ?_
      obtain ⟨o44, hj, h'⟩ := bind_some h
      clear h
      refine c_cut (fun e a w => e = .normal ∧ ∃ (ρ : Nat → Value) (σ : St) (aj2 : Option Addr) (cj3 : Nat), a = fr 54 (updL ρ [(3, (Sl a6 r2 c7)), (4, (B r13)), (5, (Sl aj2 o44 cj3))]) ∧ w = σ.w ∧ Mod none σ0 σ ∧ Ow σ σ0.size σ0.size (Sl a6 r2 c7) r2 ∧ Ow σ σ0.size σ0.size (Sl aj2 o44 cj3) o44 ∧ Df (blk (Sl aj2 o44 cj3)) (blk (Sl a6 r2 c7))) ?_ ?_
      · clear h'
        rename _ = some o44 => h
        refine c_blk ?_
        refine wp_loopM _ h (fun s45 a w => ∃ (ρ : Nat → Value) (σ : St) (aj2 : Option Addr) (cj3 : Nat), a = fr 54 (updL ρ [(3, (Sl a6 r2 c7)), (4, (B r13)), (5, (Sl aj2 s45.1 cj3)), (6, (I s45.2))]) ∧ w = σ.w ∧ Mod none σ0 σ ∧ Ow σ σ0.size σ0.size (Sl a6 r2 c7) r2 ∧ Ow σ σ0.size σ0.size (Sl aj2 s45.1 cj3) s45.1 ∧ Df (blk (Sl aj2 s45.1 cj3)) (blk (Sl a6 r2 c7))) ⟨_, σ40, (some ⟨b39, 0, none⟩), 0, fr_join ⟨rfl, rfl, rfl, rfl, trivial⟩, rfl, hK, hO8, hO38, (by first | exact (hd43).symm | exact Df.re (hd43).symm)⟩ ?_
        clear h
        rintro s45 a w o ⟨ρ, σ47, a49, c50, rfl, rfl, hK, hO48, hO51, hd52⟩ h hres
        refine c_seq ?_
        refine c_seq ?_
        refine rg ?_
        refine st (v := (I s45.2)) (rv_move rfl) ?_
        refine st (v := (Sl a6 r2 c7)) (rv_move rfl) ?_
        refine st (v := (I (r2.length : Int))) (rv_len Try.underlying23 rfl) ?_
        refine st (v := (B (decide (s45.2 < (r2.length : Int))))) (rv_lss (a := s45.2) (b := (r2.length : Int)) rfl rfl) ?_
        refine w_end ?_
        refine q_then ?_
        refine cd_cond (decide (s45.2 < (r2.length : Int))) rfl (fun hb53 => ?_) (fun hb53 => ?_)
        · replace h := bif_t hb53 h
          refine c_skip ?_
          refine q_then ?_
          refine c_seq ?_
          refine c_blk ?_
          refine rg ?_
          refine st (v := (Sl a49 s45.1 c50)) (rv_move rfl) ?_
          refine st (v := (Sl a6 r2 c7)) (rv_move rfl) ?_
          refine st (v := (I s45.2)) (rv_move rfl) ?_
          obtain ⟨x54, hx55, h'⟩ := bind_some h
          clear h
          have h := h'; clear h'
          obtain ⟨b57, o58, hi56, -⟩ := hO48.ix hx55
          refine st (v := (pt b57 o58)) (rv_ix Try.underlying23 ti3 rfl rfl hi56) ?_
          refine st (v := (I x54)) (rv_load1 Try.underlying3 rfl rfl (hO48.at hx55 hi56).int) ?_
          refine st (v := (I (w64 (0 - x54)))) (rv_neg (a := x54) rfl) ?_
          refine st_buildSlice (lo := σ0.size) (el := σ0.size) (xs := ([w64 (0 - x54)] : List Int)) (ps := [(0, (I (w64 (0 - x54))))]) (cs := [(I (w64 (0 - x54)))]) Try.underlying23 ti3 rfl rfl (by kernel_rfl) (.cons (c := [(I (w64 (0 - x54)))]) rfl (.nil)) rfl ?_ hK.size (wanted_none _ rfl _)
          intro b60 σ61 hbn63 m62 hO59
          have hd64 := hO48.df' hbn63
          have hd65 := hO51.df' hbn63
          replace hO48 := hO48.mod0 m62
          replace hO51 := hO51.mod0 m62
          replace hK := hK.none m62
          clear hbn63 m62
          obtain ⟨xs66, hx67, h'⟩ := bind_some h
          clear h
          have h := h'; clear h'
          have hg68 := hO51.ge
          refine st_append Try.underlying23 Try.underlying23 ti3 rfl rfl (by decide) hO51 hO59.rd hx67 hK.size rfl rfl ?_ (wanted_none _ rfl _)
          have hd75 := hO48.ltb
          intro a73 c74 σ69 m70 hO71 hq72
          replace hO48 := hO48.mod' m70 (by first | exact (hd52).symm | exact Df.re (hd52).symm)
          replace hK := hK.own m70 hg68
          have hd76 := Df.app (hd52).symm hd75 hq72
          clear hq72 m70
          refine st (v := (Sl a73 xs66 c74)) (rv_assign rfl) ?_
          refine w_end ?_
          refine q_blk ?_
          refine q_then ?_
          refine rg ?_
          refine st (v := (I s45.2)) (rv_move rfl) ?_
          refine st (v := (I (w64 (s45.2 + 1)))) (rv_add (a := s45.2) (b := 1) rfl rfl) ?_
          refine st (v := (I (w64 (s45.2 + 1)))) (rv_assign rfl) ?_
          refine w_end ?_
          refine q_then ?_
          obtain rfl := Option.some.inj h
          exact ⟨_, rfl, _, σ69, a73, c74, fr_join ⟨rfl, rfl, rfl, rfl, trivial⟩, rfl, hK, hO48, hO71, (by first | exact (hd76).symm | exact Df.re (hd76).symm)⟩
        · replace h := bif_f hb53 h
          refine c_exit ?_
          refine q_then_x ?_
          refine q_then_x ?_
          refine q_blk_hit ?_
          obtain rfl := Option.some.inj h
          obtain rfl := hres _ rfl
          exact ⟨rfl, _, σ47, a49, c50, fr_join ⟨rfl, rfl, rfl, trivial⟩, rfl, hK, hO48, hO51, (by first | exact hd52 | exact Df.re hd52)⟩
      · clear hj
        have h := h'
        clear h'
        rintro e a w ⟨rfl, ρ, σ77, a79, c80, rfl, rfl, hK, hO78, hO81, hd82⟩
        refine q_then ?_
        refine c_seq ?_
        refine rg ?_
        refine st (v := (Sl a79 o44 c80)) (rv_move rfl) ?_
        obtain ⟨σ83, hw84, m85, hR86⟩ := hO81.pub' (Nat.le_refl _)
        rw [← hw84]
        obtain ⟨r87, hx88, h'⟩ := bind_some h
        clear h
        have h := h'; clear h'
        refine st_call (c_impl_ValidVector (hR86.low (Nat.zero_le _)) hx88) rfl ?_
        have hd91 := ltb_size hO78.ltb hw84
        have hd92 := ltb_size hO81.ltb hw84
        have hKs := size_le hK.size hw84
        rintro _ σ89 m90 rfl
        obtain ⟨σ93, hw94, m95, hxl96, hvl97⟩ := lent hw84 m90
        rw [← hw94]
        replace hO78 := hO78.mod0 m95
        replace hO81 := hO81.mod0 m95
        replace hK := hK.none m95
        clear hKs m95
        refine st (v := (B r13)) (rv_move rfl) ?_
        refine st (v := (B (r87 == r13))) (rv_beql Try.underlying4 rfl rfl) ?_
        refine st (v := (B (r87 == r13))) (rv_move rfl) ?_
        rcases Bool.eq_false_or_eq_true (r87 == r13) with hb98 | hb98
        · replace h := bif_t hb98 h
          refine st_g (v := (Sl a79 o44 c80)) (congrArg some hb98) (rv_move rfl) ?_
          refine st_buildSlice (lo := σ0.size) (el := σ0.size) (xs := ([0] : List Int)) (ps := [(0, (I 0))]) (cs := [(I 0)]) Try.underlying23 ti3 rfl rfl (by kernel_rfl) (.cons (c := [(I 0)]) rfl (.nil)) rfl ?_ hK.size (wanted_yes rfl (by exact (congrArg some hb98)))
          intro b100 σ101 hbn103 m102 hO99
          have hd104 := hO78.df' hbn103
          have hd105 := hO81.df' hbn103
          replace hO78 := hO78.mod0 m102
          replace hO81 := hO81.mod0 m102
          replace hK := hK.none m102
          clear hbn103 m102
          obtain ⟨xs106, hx107, h'⟩ := bind_some h
          clear h
          have h := h'; clear h'
          have hg108 := hO81.ge
          refine st_append Try.underlying23 Try.underlying23 ti3 rfl rfl (by decide) hO81 hO99.rd hx107 hK.size rfl rfl ?_ (wanted_yes rfl (by exact (congrArg some hb98)))
          have hd115 := hO78.ltb
          intro a113 c114 σ109 m110 hO111 hq112
          replace hO78 := hO78.mod' m110 (by first | exact (hd82).symm | exact Df.re (hd82).symm)
          replace hK := hK.own m110 hg108
          have hd116 := Df.app (hd82).symm hd115 hq112
          clear hq112 m110
          have hg121 := hO111.ge
          obtain ⟨σ117, hw120, m118, hR119⟩ := hO111.pub' (Nat.le_refl _)
          rw [← hw120]; clear hw120
          replace hO78 := hO78.mod' m118 (by first | exact hd116 | exact Df.re hd116)
          replace hK := hK.own m118 hg121
          obtain ⟨r122, hx123, h'⟩ := bind_some h
          clear h
          have h := h'; clear h'
          refine st_call_g (by exact (congrArg some hb98)) (c_impl_ValidVector (hR119.low (Nat.zero_le _)) hx123) rfl ?_
          have hd126 := hO78.ltb
          have hKs := hK.size
          rintro _ σ124 m125 rfl
          replace hO78 := hO78.mod0 m125
          replace hR119 := hR119.mod m125
          replace hK := hK.none m125
          clear hKs m125
          refine st_g (v := (B (!r122))) (congrArg some hb98) (rv_not rfl) ?_
          refine st (v := (B (!r122))) (rv_pick_t (congrArg B hb98) rfl) ?_
          refine st (v := (B (!r122))) (rv_move rfl) ?_
          rcases Bool.eq_false_or_eq_true (!r122) with hb127 | hb127
          · replace h := bif_t hb127 h
            refine st_skip (congrArg some hb127) ?_
            refine st_skip (congrArg some hb127) ?_
            refine st_skip (congrArg some hb127) ?_
            refine st_skip_u rfl ?_
            refine st_skip_u rfl ?_
            refine st_skip_u rfl ?_
            refine st_skip_u rfl ?_
            refine st_skip (congrArg some hb127) ?_
            refine st (v := (B true)) (rv_pick_t (congrArg B hb127) rfl) ?_
            refine st (v := (B true)) (rv_assign rfl) ?_
            refine w_end ?_
            refine q_then ?_
            refine c_ret ?_
            obtain rfl := Option.some.inj h
            exact bodyPost_ret (v := (B true)) (results_fr1 Try.results3 rfl _) rfl ⟨_, σ124, rfl, rfl, hK, rfl⟩
          · replace h := bif_f hb127 h
            refine st_g (v := (B r13)) (congrArg some hb127) (rv_move rfl) ?_
            refine st_g (v := (B (!r13))) (congrArg some hb127) (rv_not rfl) ?_
            refine st_g (v := (B (!r13))) (congrArg some hb127) (rv_move rfl) ?_
            rcases Bool.eq_false_or_eq_true (!r13) with hb128 | hb128
            · replace h := bif_t hb128 h
              refine st_g (v := (Sl a6 r2 c7)) (congrArg some hb128) (rv_move rfl) ?_
              refine st_g (v := (I (r2.length : Int))) (congrArg some hb128) (rv_len Try.underlying23 rfl) ?_
              refine st_g (v := (I (w64 ((r2.length : Int) + 1)))) (congrArg some hb128) (rv_add (a := (r2.length : Int)) (b := 1) rfl rfl) ?_
              refine st_g (v := (B ((w64 ((r2.length : Int) + 1)) == 4))) (congrArg some hb128) (rv_eql (a := (w64 ((r2.length : Int) + 1))) (b := 4) rfl rfl) ?_
              refine st_g (v := (B ((w64 ((r2.length : Int) + 1)) == 4))) (congrArg some hb127) (rv_pick_t (congrArg B hb128) rfl) ?_
              refine st (v := (B ((w64 ((r2.length : Int) + 1)) == 4))) (rv_pick_f (congrArg B hb127) rfl) ?_
              refine st (v := (B ((w64 ((r2.length : Int) + 1)) == 4))) (rv_assign rfl) ?_
              refine w_end ?_
              refine q_then ?_
              refine c_ret ?_
              obtain rfl := Option.some.inj h
              exact bodyPost_ret (v := (B ((w64 ((r2.length : Int) + 1)) == 4))) (results_fr1 Try.results3 rfl _) rfl ⟨_, σ124, rfl, rfl, hK, rfl⟩
            · replace h := bif_f hb128 h
              refine st_skip (congrArg some hb128) ?_
              refine st_skip (congrArg some hb128) ?_
              refine st_skip (congrArg some hb128) ?_
              refine st_skip (congrArg some hb128) ?_
              refine st_g (v := (B false)) (congrArg some hb127) (rv_pick_f (congrArg B hb128) rfl) ?_
              refine st (v := (B false)) (rv_pick_f (congrArg B hb127) rfl) ?_
              refine st (v := (B false)) (rv_assign rfl) ?_
              refine w_end ?_
              refine q_then ?_
              refine c_ret ?_
              obtain rfl := Option.some.inj h
              exact bodyPost_ret (v := (B false)) (results_fr1 Try.results3 rfl _) rfl ⟨_, σ124, rfl, rfl, hK, rfl⟩
        · replace h := bif_f hb98 h
          refine st_skip (congrArg some hb98) ?_
          refine st_skip (congrArg some hb98) ?_
          refine st_skip (congrArg some hb98) ?_
          refine st_skip (congrArg some hb98) ?_
          refine st_skip (congrArg some hb98) ?_
          refine st (v := (B false)) (rv_pick_f (congrArg B hb98) rfl) ?_
          refine st (v := (B false)) (rv_move rfl) ?_
          refine st_g (v := (B r13)) rfl (rv_move rfl) ?_
          refine st_g (v := (B (!r13))) rfl (rv_not rfl) ?_
          refine st_g (v := (B (!r13))) rfl (rv_move rfl) ?_
          rcases Bool.eq_false_or_eq_true (!r13) with hb129 | hb129
          · replace h := bif_t hb129 h
            refine st_g (v := (Sl a6 r2 c7)) (congrArg some hb129) (rv_move rfl) ?_
            refine st_g (v := (I (r2.length : Int))) (congrArg some hb129) (rv_len Try.underlying23 rfl) ?_
            refine st_g (v := (I (w64 ((r2.length : Int) + 1)))) (congrArg some hb129) (rv_add (a := (r2.length : Int)) (b := 1) rfl rfl) ?_
            refine st_g (v := (B ((w64 ((r2.length : Int) + 1)) == 4))) (congrArg some hb129) (rv_eql (a := (w64 ((r2.length : Int) + 1))) (b := 4) rfl rfl) ?_
            refine st_g (v := (B ((w64 ((r2.length : Int) + 1)) == 4))) rfl (rv_pick_t (congrArg B hb129) rfl) ?_
            refine st (v := (B ((w64 ((r2.length : Int) + 1)) == 4))) (rv_pick_f rfl rfl) ?_
            refine st (v := (B ((w64 ((r2.length : Int) + 1)) == 4))) (rv_assign rfl) ?_
            refine w_end ?_
            refine q_then ?_
            refine c_ret ?_
            obtain rfl := Option.some.inj h
            exact bodyPost_ret (v := (B ((w64 ((r2.length : Int) + 1)) == 4))) (results_fr1 Try.results3 rfl _) rfl ⟨_, σ93, rfl, rfl, hK, rfl⟩
          · replace h := bif_f hb129 h
            refine st_skip (congrArg some hb129) ?_
            refine st_skip (congrArg some hb129) ?_
            refine st_skip (congrArg some hb129) ?_
            refine st_skip (congrArg some hb129) ?_
            refine st_g (v := (B false)) rfl (rv_pick_f (congrArg B hb129) rfl) ?_
            refine st (v := (B false)) (rv_pick_f rfl rfl) ?_
            refine st (v := (B false)) (rv_assign rfl) ?_
            refine w_end ?_
            refine q_then ?_
            refine c_ret ?_
            obtain rfl := Option.some.inj h
            exact bodyPost_ret (v := (B false)) (results_fr1 Try.results3 rfl _) rfl ⟨_, σ93, rfl, rfl, hK, rfl⟩

theorem c_spec_anyKind {σ0 : St} {r_0 : (List UInt8) × Int} {ar_0_0 : Option Addr} {cr_0_0 : Nat} (hRr_0_0 : RS 0 σ0 (Sl ar_0_0 r_0.1 cr_0_0) r_0.1) {br_0 : Nat} (hBr_0 : Bx σ0 br_0 [(Sl ar_0_0 r_0.1 cr_0_0), (I r_0.2)])  (hltr_0 : br_0 < σ0.size) {r : Int × ((List UInt8) × Int)} (h : M.spec_anyKind r_0 = some r) :
    Cal Try.prog 43 [(pt br_0 0)] (some br_0) σ0 (fun v σ' => ∃ (a0 : Option Addr) (c0 : Nat), v = (I r.1) ∧ RS 0 σ' (Sl a0 r.2.1 c0) r.2.1 ∧ Bx σ' br_0 [(Sl a0 r.2.1 c0), (I r.2.2)]) := by
  refine ⟨⟨_, _, Try.func43, rfl, rfl⟩, ?_⟩
  refine enter (n := 6) Try.func43 rfl rfl rfl ?_
  unfold M.spec_anyKind at h
  have hK : Mod (some br_0) σ0 σ0 := Mod.refl _ _
  refine c_seq ?_
  refine rg ?_
  refine st (v := (I 0)) (rv_assign rfl) ?_
  refine w_end ?_
  refine q_then ?_
  refine c_seq ?_
  refine rg ?_
  refine st (v := (pt br_0 0)) (rv_move rfl) ?_
  refine st_buildSlice (lo := σ0.size) (el := σ0.size) (xs := ([1, 2, 3, 4, 1, 2, 3, 4, 1, 2, 0, 5] : List Int)) (ps := [(0, (I 1)), (1, (I 2)), (2, (I 3)), (3, (I 4)), (4, (I 1)), (5, (I 2)), (6, (I 3)), (7, (I 4)), (8, (I 1)), (9, (I 2)), (10, (I 0)), (11, (I 5))]) (cs := [(I 1), (I 2), (I 3), (I 4), (I 1), (I 2), (I 3), (I 4), (I 1), (I 2), (I 0), (I 5)]) Try.underlying23 ti3 rfl rfl (by kernel_rfl) (.cons (c := [(I 1)]) rfl (.cons (c := [(I 2)]) rfl (.cons (c := [(I 3)]) rfl (.cons (c := [(I 4)]) rfl (.cons (c := [(I 1)]) rfl (.cons (c := [(I 2)]) rfl (.cons (c := [(I 3)]) rfl (.cons (c := [(I 4)]) rfl (.cons (c := [(I 1)]) rfl (.cons (c := [(I 2)]) rfl (.cons (c := [(I 0)]) rfl (.cons (c := [(I 5)]) rfl (.nil))))))))))))) rfl ?_ hK.size (wanted_none _ rfl _)
  intro b2 σ3 hbn5 m4 hO1
  replace hRr_0_0 := hRr_0_0.mod m4
  replace hBr_0 := hBr_0.mod0 m4
  replace hK := hK.none m4
  clear hbn5 m4
  have hg10 := hO1.ge
  obtain ⟨σ6, hw9, m7, hR8⟩ := hO1.pub' (Nat.le_refl _)
  rw [← hw9]; clear hw9
  replace hRr_0_0 := hRr_0_0.mod m7
  replace hBr_0 := hBr_0.mod' m7 (Df.ge (by rintro _ ⟨⟩; exact hltr_0) hO1.ge)
  replace hK := hK.own m7 hg10
  obtain ⟨r11, hx12, h'⟩ := bind_some h
  clear h
  have h := h'; clear h'
  refine st_call (c_spec_reader_one hRr_0_0 hBr_0 hBr_0.lt (hR8.low (Nat.zero_le _)) hx12) rfl ?_
  have hKs := hK.size
  rintro _ σ13 m14 ⟨a15, c16, rfl, hR17, hB18⟩
  replace hRr_0_0 := hRr_0_0.mod m14
  replace hR8 := hR8.mod m14
  replace hK := hK.self m14
  clear hKs m14
  refine st (v := (I r11.1)) (rv_assign rfl) ?_
  refine w_end ?_
  refine q_then ?_
  refine c_ret ?_
  obtain rfl := Option.some.inj h
  exact bodyPost_ret (v := (I r11.1)) (results_fr1 Try.results43 rfl _) rfl ⟨_, σ13, rfl, rfl, hK, a15, c16, rfl, hR17, hB18⟩

theorem c_spec_DrawDistance {σ0 : St} {code_0 : List UInt8} {acode_0 : Option Addr} {ccode_0 : Nat} (hRcode_0 : RS 0 σ0 (Sl acode_0 code_0 ccode_0) code_0) {r : Int × (List Int) × (List Int)} (h : M.spec_DrawDistance code_0 = some r) :
    Cal Try.prog 18 [(Sl acode_0 code_0 ccode_0)] none σ0 (fun v σ' => ∃ (a0 : Option Addr) (c0 : Nat), ∃ (a1 : Option Addr) (c1 : Nat), v = (.tuple #[(I r.1), (Sl a0 r.2.1 c0), (Sl a1 r.2.2 c1)]) ∧ Ow σ' σ0.size σ0.size (Sl a0 r.2.1 c0) r.2.1 ∧ Ow σ' σ0.size σ0.size (Sl a1 r.2.2 c1) r.2.2 ∧ Df (blk (Sl a1 r.2.2 c1)) (blk (Sl a0 r.2.1 c0))) := by
  refine ⟨⟨_, _, Try.func18, rfl, rfl⟩, ?_⟩
  refine enter (n := 18) Try.func18 rfl rfl rfl ?_
  unfold M.spec_DrawDistance at h
  have hK : Mod none σ0 σ0 := Mod.refl _ _
  refine c_seq ?_
  refine rg ?_
  refine st (v := (I 0)) (rv_assign rfl) ?_
  refine st (v := (.slice none 0 0)) (rv_assign rfl) ?_
  refine st (v := (.slice none 0 0)) (rv_assign rfl) ?_
  refine w_end ?_
  refine q_then ?_
  refine c_seq ?_
  refine rg ?_
  refine st (v := (Sl acode_0 code_0 ccode_0)) (rv_move rfl) ?_
  obtain ⟨r1, hx2, h'⟩ := bind_some h
  clear h
  have h := h'; clear h'
  refine st_call (c_spec_newReader hRcode_0 hx2) rfl ?_
  have hKs := hK.size
  rintro _ σ3 m4 ⟨b5, a8, c9, rfl, hR10, hge6, hB7⟩
  replace hRcode_0 := hRcode_0.mod m4
  replace hK := hK.none m4
  replace hge6 := Nat.le_trans hKs hge6
  clear hKs m4
  refine st (v := (pt b5 0)) (rv_assign rfl) ?_
  refine w_end ?_
  refine q_then ?_
  refine c_seq ?_
  refine rg ?_
  refine st (v := (pt b5 0)) (rv_move rfl) ?_
  obtain ⟨r11, hx12, h'⟩ := bind_some h
  clear h
  have h := h'; clear h'
  refine st_call (c_spec_anyKind hR10 hB7 hB7.lt hx12) rfl ?_
  have hd19 := hB7.ltb
  have hKs := hK.size
  rintro _ σ13 m14 ⟨a15, c16, rfl, hR17, hB18⟩
  replace hR10 := hR10.mod m14
  replace hK := hK.some m14 hge6
  clear hKs m14
  refine st (v := (I r11.1)) (rv_assign rfl) ?_
  refine w_end ?_
  refine q_then ?_
  refine c_seq ?_
  refine rg ?_
  refine st (v := (pt b5 0)) (rv_move rfl) ?_
  obtain ⟨r20, hx21, h'⟩ := bind_some h
  clear h
  have h := h'; clear h'
  refine st_call (c_spec_anyVector hR17 hB18 hB18.lt hx21) rfl ?_
  have hd31 := hB18.ltb
  have hKs := hK.size
  rintro _ σ22 m23 ⟨a24, c25, a27, c28, rfl, hO26, hR29, hB30⟩
  replace hR17 := hR17.mod m23
  replace hK := hK.some m23 hge6
  have hO26g := hO26.ge
  replace hO26 := hO26.lo hKs
  replace hO26 := hO26.low' hKs
  have hd32 := Df.ge hd31 hO26g
  clear hKs m23 hO26g
  refine st (v := (Sl a24 r20.1 c25)) (rv_assign rfl) ?_
  refine w_end ?_
  refine q_then ?_
  refine c_seq ?_
  refine rg ?_
  refine st (v := (I r11.1)) (rv_move rfl) ?_
  refine st (v := (Sl a24 r20.1 c25)) (rv_move rfl) ?_
  refine st (v := (pt b5 0)) (rv_move rfl) ?_
  obtain ⟨r33, hx34, h'⟩ := bind_some h
  clear h
  have h := h'; clear h'
  refine st_call (c_spec_anyVector hR29 hB30 hB30.lt hx34) rfl ?_
  have hd44 := hO26.ltb
  have hd45 := hB30.ltb
  have hKs := hK.size
  rintro _ σ35 m36 ⟨a37, c38, a40, c41, rfl, hO39, hR42, hB43⟩
  replace hO26 := hO26.mod' m36 (by first | exact (hd32).symm | exact Df.reL (hd32).symm)
  replace hR29 := hR29.mod m36
  replace hK := hK.some m36 hge6
  have hO39g := hO39.ge
  replace hO39 := hO39.lo hKs
  replace hO39 := hO39.low' hKs
  have hd46 := Df.ge hd44 hO39g
  have hd47 := Df.ge hd45 hO39g
  clear hKs m36 hO39g
  refine st (v := (I r11.1)) (rv_assign rfl) ?_
  refine st (v := (Sl a24 r20.1 c25)) (rv_assign rfl) ?_
  refine st (v := (Sl a37 r33.1 c38)) (rv_assign rfl) ?_
  refine w_end ?_
  refine q_then ?_
  refine c_ret ?_
  obtain rfl := Option.some.inj h
  exact bodyPost_ret (v := (.tuple #[(I r11.1), (Sl a24 r20.1 c25), (Sl a37 r33.1 c38)])) (results_fr3 Try.results18 rfl rfl rfl _) rfl ⟨_, σ35, rfl, rfl, hK, a24, c25, a37, c38, rfl, hO26, hO39, (by first | exact (hd46).symm | exact Df.re (hd46).symm)⟩

theorem c_impl_distanceOf {σ0 : St} {kind_0 : Int} {gaps_1 : List Int} (hlgaps_1 : gaps_1.length = 4) {r : Int} (h : M.impl_distanceOf kind_0 gaps_1 = some r) :
    Cal Try.prog 44 [(I kind_0), (.agg (List.map I gaps_1).toArray)] none σ0 (fun v σ' => v = (I r)) := by
  refine ⟨⟨_, _, Try.func44, rfl, rfl⟩, ?_⟩
  refine enter (n := 38) Try.func44 rfl rfl rfl ?_
  unfold M.impl_distanceOf at h
  have hK : Mod none σ0 σ0 := Mod.refl _ _
  refine c_seq ?_
  refine rg ?_
  refine st_box (cs := (List.map I gaps_1)) rfl rfl ?_ (wanted_none _ rfl _)
  intro b2 σ4 hbn6 m5 hB1
  have hge3 := Nat.le_trans hK.size (Nat.le_of_eq hbn6)
  replace hK := hK.none m5
  clear hbn6 m5
  refine st (v := (I 0)) (rv_assign rfl) ?_
  refine w_end ?_
  refine q_then ?_
  refine c_seq ?_
  refine rg ?_
  refine st (v := (I 0)) (rv_assign rfl) ?_
  refine w_end ?_
  refine q_then ?_
  refine c_seq ?_
  refine c_seq ?_
  refine rg ?_
  refine st (v := (.agg (List.map I gaps_1).toArray)) (rv_load (cs := (List.map I gaps_1)) Try.underlying60 rfl ti60 rfl (by rw [List.length_map]; exact hlgaps_1) hB1.all) ?_
  refine st (v := (I 0)) (rv_move rfl) ?_
  refine w_end ?_
  refine q_then ?_
  obtain ⟨o7, hj, h'⟩ := bind_some h
  clear h
  refine c_cut (fun e a w => (∃ t, o7 = (.inl t) ∧ e = .normal ∧ ∃ (ρ : Nat → Value) (σ : St), a = fr 38 (updL ρ [(5, (I t))]) ∧ w = σ.w ∧ Mod none σ0 σ) ∨ (∃ t, o7 = (.inr t) ∧ e = .ret ∧ ∃ (ρ : Nat → Value) (σ : St), a = fr 38 (updL ρ [(4, (I t))]) ∧ w = σ.w ∧ Mod none σ0 σ)) ?_ ?_
  · clear h'
    rename _ = some o7 => h
    refine c_blk ?_
    refine wp_loopM _ h (fun s8 a w => ∃ (ρ : Nat → Value) (σ : St), a = fr 38 (updL ρ [(0, (I kind_0)), (5, (I s8.1)), (8, (.agg (List.map I gaps_1).toArray)), (9, (I s8.2))]) ∧ w = σ.w ∧ Mod none σ0 σ) ⟨_, σ4, fr_join ⟨rfl, rfl, rfl, rfl, trivial⟩, rfl, hK⟩ ?_
    clear h
    rintro s8 a w o ⟨ρ, σ10, rfl, rfl, hK⟩ h hres
    refine c_seq ?_
    refine rg ?_
    refine st (v := (B (decide (s8.2 < 4)))) (rv_lss (a := s8.2) (b := 4) rfl rfl) ?_
    refine w_end ?_
    refine q_then ?_
    refine c_seq ?_
    refine cd_cond (decide (s8.2 < 4)) rfl (fun hb11 => ?_) (fun hb11 => ?_)
    · replace h := bif_t hb11 h
      refine c_skip ?_
      refine q_then ?_
      refine c_seq ?_
      obtain ⟨o12, hj, h'⟩ := bind_some h
      clear h
      refine c_cut (fun e a w => (∃ t, o12 = (.inl t) ∧ e = .normal ∧ ∃ (ρ : Nat → Value) (σ : St), a = fr 38 (updL ρ [(0, (I kind_0)), (5, (I t)), (8, (.agg (List.map I gaps_1).toArray)), (9, (I s8.2))]) ∧ w = σ.w ∧ Mod none σ0 σ) ∨ (∃ t, o12 = (.inr t) ∧ e = .ret ∧ ∃ (ρ : Nat → Value) (σ : St), a = fr 38 (updL ρ [(4, (I t))]) ∧ w = σ.w ∧ Mod none σ0 σ)) ?_ ?_
      · clear h'
        rename _ = some o12 => h
        refine c_blk ?_
        refine c_seq ?_
        refine rg ?_
        obtain ⟨x13, hx14, h'⟩ := bind_some h
        clear h
        have h := h'; clear h'
        refine st (v := (I x13)) (rv_idx Try.underlying60 ti3 Try.underlying3 rfl rfl hx14 hlgaps_1) ?_
        refine st (v := (I x13)) (rv_assign rfl) ?_
        refine w_end ?_
        refine q_then ?_
        refine c_seq ?_
        refine rg ?_
        refine st (v := (I kind_0)) (rv_move rfl) ?_
        refine w_end ?_
        refine q_then ?_
        refine c_blk ?_
        refine c_seq ?_
        refine rg ?_
        refine st (v := (B (kind_0 == 1))) (rv_eql (a := kind_0) (b := 1) rfl rfl) ?_
        refine st (v := (B (kind_0 == 1))) (rv_assign rfl) ?_
        refine w_end ?_
        refine q_then ?_
        refine cd_cond (kind_0 == 1) rfl (fun hb15 => ?_) (fun hb15 => ?_)
        · replace h := bif_t hb15 h
          refine rg ?_
          refine st (v := (I s8.1)) (rv_move rfl) ?_
          refine st (v := (I x13)) (rv_move rfl) ?_
          refine st (v := (I (w64 (s8.1 + x13)))) (rv_add (a := s8.1) (b := x13) rfl rfl) ?_
          refine st (v := (I (w64 (s8.1 + x13)))) (rv_assign rfl) ?_
          refine w_end ?_
          refine q_blk ?_
          refine q_blk ?_
          obtain rfl := Option.some.inj h
          exact .inl ⟨_, rfl, rfl, _, σ10, fr_join ⟨rfl, rfl, rfl, rfl, trivial⟩, rfl, hK⟩
        · replace h := bif_f hb15 h
          refine c_seq ?_
          refine rg ?_
          refine st (v := (B (kind_0 == 2))) (rv_eql (a := kind_0) (b := 2) rfl rfl) ?_
          refine st (v := (B (kind_0 == 2))) (rv_assign rfl) ?_
          refine w_end ?_
          refine q_then ?_
          refine cd_cond (kind_0 == 2) rfl (fun hb16 => ?_) (fun hb16 => ?_)
          · replace h := bif_t hb16 h
            refine rg ?_
            refine st (v := (I s8.1)) (rv_move rfl) ?_
            refine st (v := (I x13)) (rv_move rfl) ?_
            refine st (v := (I (max s8.1 x13))) (rv_max rfl rfl) ?_
            refine st (v := (I (max s8.1 x13))) (rv_assign rfl) ?_
            refine w_end ?_
            refine q_blk ?_
            refine q_blk ?_
            obtain rfl := Option.some.inj h
            exact .inl ⟨_, rfl, rfl, _, σ10, fr_join ⟨rfl, rfl, rfl, rfl, trivial⟩, rfl, hK⟩
          · replace h := bif_f hb16 h
            refine c_seq ?_
            refine rg ?_
            refine st (v := (B (kind_0 == 3))) (rv_eql (a := kind_0) (b := 3) rfl rfl) ?_
            refine st (v := (B (kind_0 == 3))) (rv_assign rfl) ?_
            refine w_end ?_
            refine q_then ?_
            refine cd_cond (kind_0 == 3) rfl (fun hb17 => ?_) (fun hb17 => ?_)
            · replace h := bif_t hb17 h
              refine rg ?_
              refine st (v := (I s8.1)) (rv_move rfl) ?_
              refine st (v := (I x13)) (rv_move rfl) ?_
              refine st (v := (I x13)) (rv_move rfl) ?_
              refine st (v := (I (w64 (x13 * x13)))) (rv_mul (a := x13) (b := x13) rfl rfl) ?_
              refine st (v := (I (w64 (s8.1 + (w64 (x13 * x13)))))) (rv_add (a := s8.1) (b := (w64 (x13 * x13))) rfl rfl) ?_
              refine st (v := (I (w64 (s8.1 + (w64 (x13 * x13)))))) (rv_assign rfl) ?_
              refine w_end ?_
              refine q_blk ?_
              refine q_blk ?_
              obtain rfl := Option.some.inj h
              exact .inl ⟨_, rfl, rfl, _, σ10, fr_join ⟨rfl, rfl, rfl, rfl, trivial⟩, rfl, hK⟩
            · replace h := bif_f hb17 h
              refine c_seq ?_
              refine rg ?_
              refine st (v := (B (kind_0 == 4))) (rv_eql (a := kind_0) (b := 4) rfl rfl) ?_
              refine st (v := (B (kind_0 == 4))) (rv_assign rfl) ?_
              refine w_end ?_
              refine q_then ?_
              refine cd_cond (kind_0 == 4) rfl (fun hb18 => ?_) (fun hb18 => ?_)
              · replace h := bif_t hb18 h
                refine rg ?_
                refine st (v := (I s8.1)) (rv_move rfl) ?_
                refine st (v := (I x13)) (rv_move rfl) ?_
                refine st (v := (I (min x13 1))) (rv_min rfl rfl) ?_
                refine st (v := (I (w64 (s8.1 + (min x13 1))))) (rv_add (a := s8.1) (b := (min x13 1)) rfl rfl) ?_
                refine st (v := (I (w64 (s8.1 + (min x13 1))))) (rv_assign rfl) ?_
                refine w_end ?_
                refine q_blk ?_
                refine q_blk ?_
                obtain rfl := Option.some.inj h
                exact .inl ⟨_, rfl, rfl, _, σ10, fr_join ⟨rfl, rfl, rfl, rfl, trivial⟩, rfl, hK⟩
              · replace h := bif_f hb18 h
                refine c_seq ?_
                refine rg ?_
                refine st (v := (I (-1))) (rv_assign rfl) ?_
                refine w_end ?_
                refine q_then ?_
                refine c_ret ?_
                refine q_blk_r ?_
                refine q_blk_r ?_
                obtain rfl := Option.some.inj h
                exact .inr (⟨_, rfl, rfl, _, σ10, fr_join ⟨rfl, trivial⟩, rfl, hK⟩)
      · clear hj
        have h := h'
        clear h'
        rintro e a w (⟨t19, rfl, rfl, ρ, σ20, rfl, rfl, hK⟩ | ⟨t21, rfl, rfl, ρ, σ22, rfl, rfl, hK⟩)
        · replace h := selim_l h
          refine q_then ?_
          refine rg ?_
          refine st (v := (I (w64 (s8.2 + 1)))) (rv_add (a := s8.2) (b := 1) rfl rfl) ?_
          refine st (v := (I (w64 (s8.2 + 1)))) (rv_move rfl) ?_
          refine w_end ?_
          refine q_then ?_
          obtain rfl := Option.some.inj h
          exact ⟨_, rfl, _, σ20, fr_join ⟨rfl, rfl, rfl, rfl, trivial⟩, rfl, hK⟩
        · replace h := selim_r h
          refine q_then_r ?_
          refine q_then_r ?_
          refine q_blk_r ?_
          obtain rfl := Option.some.inj h
          obtain rfl := hres _ rfl
          exact .inr (⟨_, rfl, rfl, _, σ22, fr_join ⟨rfl, trivial⟩, rfl, hK⟩)
    · replace h := bif_f hb11 h
      refine c_exit ?_
      refine q_then_x ?_
      refine q_then_x ?_
      refine q_blk_hit ?_
      obtain rfl := Option.some.inj h
      obtain rfl := hres _ rfl
      exact .inl ⟨_, rfl, rfl, _, σ10, fr_join ⟨rfl, trivial⟩, rfl, hK⟩
  · clear hj
    have h := h'
    clear h'
    rintro e a w (⟨t23, rfl, rfl, ρ, σ24, rfl, rfl, hK⟩ | ⟨t25, rfl, rfl, ρ, σ26, rfl, rfl, hK⟩)
    · replace h := selim_l h
      refine q_then ?_
      refine c_seq ?_
      refine rg ?_
      refine st (v := (I t23)) (rv_move rfl) ?_
      refine st (v := (I t23)) (rv_assign rfl) ?_
      refine w_end ?_
      refine q_then ?_
      refine c_ret ?_
      obtain rfl := Option.some.inj h
      exact bodyPost_ret (v := (I t23)) (results_fr1 Try.results44 rfl _) rfl ⟨_, σ24, rfl, rfl, hK, rfl⟩
    · replace h := selim_r h
      refine q_then_r ?_
      obtain rfl := Option.some.inj h
      exact bodyPost_ret (v := (I t25)) (results_fr1 Try.results44 rfl _) rfl ⟨_, σ26, rfl, rfl, hK, rfl⟩

theorem c_impl_gapsOf {σ0 : St} {a_0 : List Int} {b_1 : List Int} (hla_0 : a_0.length = 4) (hlb_1 : b_1.length = 4) {r : (List Int)} (h : M.impl_gapsOf a_0 b_1 = some r) :
    Cal Try.prog 45 [(.agg (List.map I a_0).toArray), (.agg (List.map I b_1).toArray)] none σ0 (fun v σ' => v = (.agg (List.map I r).toArray) ∧ r.length = 4) := by
  refine ⟨⟨_, _, Try.func45, rfl, rfl⟩, ?_⟩
  refine enter (n := 29) Try.func45 rfl rfl rfl ?_
  unfold M.impl_gapsOf at h
  have hK : Mod none σ0 σ0 := Mod.refl _ _
  refine c_seq ?_
  refine rg ?_
  refine st_box (cs := (List.map I a_0)) rfl rfl ?_ (wanted_none _ rfl _)
  intro b2 σ4 hbn6 m5 hB1
  have hge3 := Nat.le_trans hK.size (Nat.le_of_eq hbn6)
  replace hK := hK.none m5
  clear hbn6 m5
  refine st_box (cs := (List.map I b_1)) rfl rfl ?_ (wanted_none _ rfl _)
  intro b8 σ10 hbn12 m11 hB7
  have hd13 := hB1.df' hbn12
  have hge9 := Nat.le_trans hK.size (Nat.le_of_eq hbn12)
  replace hB1 := hB1.mod0 m11
  replace hK := hK.none m11
  clear hbn12 m11
  refine st_alloc (cs := (List.map I (List.replicate 4 0))) ti60 rfl ?_ (wanted_none _ rfl _)
  intro b15 σ17 hbn19 m18 hB14
  have hd20 := hB1.df' hbn19
  have hd21 := hB7.df' hbn19
  have hge16 := Nat.le_trans hK.size (Nat.le_of_eq hbn19)
  replace hB1 := hB1.mod0 m18
  replace hB7 := hB7.mod0 m18
  replace hK := hK.none m18
  clear hbn19 m18
  refine w_end ?_
  refine q_then ?_
  refine c_seq ?_
  refine rg ?_
  refine st_alloc (cs := (List.map I (List.replicate 4 0))) ti60 rfl ?_ (wanted_none _ rfl _)
  intro b23 σ25 hbn27 m26 hB22
  have hd28 := hB1.df' hbn27
  have hd29 := hB7.df' hbn27
  have hd30 := hB14.df' hbn27
  have hge24 := Nat.le_trans hK.size (Nat.le_of_eq hbn27)
  replace hB1 := hB1.mod0 m26
  replace hB7 := hB7.mod0 m26
  replace hB14 := hB14.mod0 m26
  replace hK := hK.none m26
  clear hbn27 m26
  refine w_end ?_
  refine q_then ?_
  refine c_seq ?_
  refine c_seq ?_
  refine rg ?_
  refine st (v := (I 0)) (rv_move rfl) ?_
  refine w_end ?_
  refine q_then ?_
  obtain ⟨o31, hj, h'⟩ := bind_some h
  clear h
  refine c_cut (fun e a w => e = .normal ∧ ∃ (ρ : Nat → Value) (σ : St), a = fr 29 (updL ρ [(4, (pt b15 0)), (5, (pt b23 0))]) ∧ w = σ.w ∧ Mod none σ0 σ ∧ Bx σ b15 (List.map I (List.replicate 4 0)) ∧ o31.length = 4 ∧ Bx σ b23 (List.map I o31) ∧ Df (some b23) (some b15)) ?_ ?_
  · clear h'
    rename _ = some o31 => h
    refine c_blk ?_
    refine wp_loopM _ h (fun s32 a w => ∃ (ρ : Nat → Value) (σ : St), a = fr 29 (updL ρ [(2, (pt b2 0)), (3, (pt b8 0)), (4, (pt b15 0)), (5, (pt b23 0)), (7, (I s32.2))]) ∧ w = σ.w ∧ Mod none σ0 σ ∧ Bx σ b2 (List.map I a_0) ∧ Bx σ b8 (List.map I b_1) ∧ Bx σ b15 (List.map I (List.replicate 4 0)) ∧ s32.1.length = 4 ∧ Bx σ b23 (List.map I s32.1) ∧ Df (some b8) (some b2) ∧ Df (some b15) (some b2) ∧ Df (some b15) (some b8) ∧ Df (some b23) (some b2) ∧ Df (some b23) (some b8) ∧ Df (some b23) (some b15)) ⟨_, σ25, fr_join ⟨rfl, rfl, rfl, rfl, rfl, trivial⟩, rfl, hK, hB1, hB7, hB14, rfl, hB22, (hd13).symm, (hd20).symm, (hd21).symm, (hd28).symm, (hd29).symm, (hd30).symm⟩ ?_
    clear h
    rintro s32 a w o ⟨ρ, σ34, rfl, rfl, hK, hB35, hB36, hB37, hl38, hB39, hd40, hd41, hd42, hd43, hd44, hd45⟩ h hres
    refine c_seq ?_
    refine rg ?_
    refine st (v := (B (decide (s32.2 < 4)))) (rv_lss (a := s32.2) (b := 4) rfl rfl) ?_
    refine w_end ?_
    refine q_then ?_
    refine c_seq ?_
    refine cd_cond (decide (s32.2 < 4)) rfl (fun hb46 => ?_) (fun hb46 => ?_)
    · replace h := bif_t hb46 h
      refine c_skip ?_
      refine q_then ?_
      refine c_seq ?_
      refine c_blk ?_
      refine c_seq ?_
      refine rg ?_
      refine st (v := (I s32.2)) (rv_move rfl) ?_
      refine st (v := (I s32.2)) (rv_assign rfl) ?_
      refine w_end ?_
      refine q_then ?_
      obtain ⟨x47, hx48, h'⟩ := bind_some h
      clear h
      have h := h'; clear h'
      have hl49 := gidx_lt hx48 hla_0
      obtain ⟨x50, hx51, h'⟩ := bind_some h
      clear h
      have h := h'; clear h'
      have hl52 := gidx_lt hx51 hlb_1
      obtain ⟨x53, hx54, h'⟩ := bind_some h
      clear h
      have h := h'; clear h'
      have hl55 := gidx_lt hx54 hlb_1
      obtain ⟨x56, hx57, h'⟩ := bind_some h
      clear h
      have h := h'; clear h'
      have hl58 := gidx_lt hx57 hla_0
      refine rg_monoL (σ := σ34) 16 [eqv (I s32.2), eqv (I s32.2), eqv (pt b2 (0 + s32.2.toNat * 1)), eqv (I x47), eqv (I s32.2), eqv (pt b8 (0 + s32.2.toNat * 1)), eqv (I x50), eqv (I (w64 (x47 - x50))), eqv (I s32.2), eqv (pt b8 (0 + s32.2.toNat * 1)), eqv (I x53), eqv (I s32.2), eqv (pt b2 (0 + s32.2.toNat * 1)), eqv (I x56), eqv (I (w64 (x53 - x56))), eqv (I (max (w64 (x47 - x50)) (w64 (x53 - x56))))] (by kernel_rfl) (by kernel_rfl) (mono_cons mono_eqv (mono_cons mono_eqv (mono_cons mono_eqv (mono_cons mono_eqv (mono_cons mono_eqv (mono_cons mono_eqv (mono_cons mono_eqv (mono_cons mono_eqv (mono_cons mono_eqv (mono_cons mono_eqv (mono_cons mono_eqv (mono_cons mono_eqv (mono_cons mono_eqv (mono_cons mono_eqv (mono_cons mono_eqv (mono_cons mono_eqv (mono_nil))))))))))))))))) ?_ ?_
      · refine all_cons (by
            intro ρ σm m hoff hdep
            have e6 : look 29 ρ 6 = (I s32.2) := look_off (hoff 6 rfl) rfl
            exact does_v (v := (I s32.2)) (wanted_none _ rfl _) (rv_move e6) rfl) ?_
        refine all_cons (by
            intro ρ σm m hoff hdep
            have e6 : look 29 ρ 6 = (I s32.2) := look_off (hoff 6 rfl) rfl
            exact does_v (v := (I s32.2)) (wanted_none _ rfl _) (rv_move e6) rfl) ?_
        refine all_cons (by
            intro ρ σm m hoff hdep
            have e2 : look 29 ρ 2 = (pt b2 0) := look_off (hoff 2 rfl) rfl
            have e11 : look 29 ρ 11 = (I s32.2) := hdep 1 rfl rfl 11 rfl
            exact does_v (v := (pt b2 (0 + s32.2.toNat * 1))) (wanted_none _ rfl _) (rv_indexAddr_array Try.underlying60 ti3 e2 e11 hl49.1 hl49.2) rfl) ?_
        refine all_cons (by
            intro ρ σm m hoff hdep
            have e12 : look 29 ρ 12 = (pt b2 (0 + s32.2.toNat * 1)) := hdep 2 rfl rfl 12 rfl
            replace hB35 := hB35.mod0 m
            exact does_v (v := (I x47)) (wanted_none _ rfl _) (rv_load1 Try.underlying3 rfl e12 (hB35.arr hx48)) rfl) ?_
        refine all_cons (by
            intro ρ σm m hoff hdep
            have e6 : look 29 ρ 6 = (I s32.2) := look_off (hoff 6 rfl) rfl
            exact does_v (v := (I s32.2)) (wanted_none _ rfl _) (rv_move e6) rfl) ?_
        refine all_cons (by
            intro ρ σm m hoff hdep
            have e3 : look 29 ρ 3 = (pt b8 0) := look_off (hoff 3 rfl) rfl
            have e14 : look 29 ρ 14 = (I s32.2) := hdep 4 rfl rfl 14 rfl
            exact does_v (v := (pt b8 (0 + s32.2.toNat * 1))) (wanted_none _ rfl _) (rv_indexAddr_array Try.underlying60 ti3 e3 e14 hl52.1 hl52.2) rfl) ?_
        refine all_cons (by
            intro ρ σm m hoff hdep
            have e15 : look 29 ρ 15 = (pt b8 (0 + s32.2.toNat * 1)) := hdep 5 rfl rfl 15 rfl
            replace hB36 := hB36.mod0 m
            exact does_v (v := (I x50)) (wanted_none _ rfl _) (rv_load1 Try.underlying3 rfl e15 (hB36.arr hx51)) rfl) ?_
        refine all_cons (by
            intro ρ σm m hoff hdep
            have e13 : look 29 ρ 13 = (I x47) := hdep 3 rfl rfl 13 rfl
            have e16 : look 29 ρ 16 = (I x50) := hdep 6 rfl rfl 16 rfl
            exact does_v (v := (I (w64 (x47 - x50)))) (wanted_none _ rfl _) (rv_sub (a := x47) (b := x50) e13 e16) rfl) ?_
        refine all_cons (by
            intro ρ σm m hoff hdep
            have e6 : look 29 ρ 6 = (I s32.2) := look_off (hoff 6 rfl) rfl
            exact does_v (v := (I s32.2)) (wanted_none _ rfl _) (rv_move e6) rfl) ?_
        refine all_cons (by
            intro ρ σm m hoff hdep
            have e3 : look 29 ρ 3 = (pt b8 0) := look_off (hoff 3 rfl) rfl
            have e18 : look 29 ρ 18 = (I s32.2) := hdep 8 rfl rfl 18 rfl
            exact does_v (v := (pt b8 (0 + s32.2.toNat * 1))) (wanted_none _ rfl _) (rv_indexAddr_array Try.underlying60 ti3 e3 e18 hl55.1 hl55.2) rfl) ?_
        refine all_cons (by
            intro ρ σm m hoff hdep
            have e19 : look 29 ρ 19 = (pt b8 (0 + s32.2.toNat * 1)) := hdep 9 rfl rfl 19 rfl
            replace hB36 := hB36.mod0 m
            exact does_v (v := (I x53)) (wanted_none _ rfl _) (rv_load1 Try.underlying3 rfl e19 (hB36.arr hx54)) rfl) ?_
        refine all_cons (by
            intro ρ σm m hoff hdep
            have e6 : look 29 ρ 6 = (I s32.2) := look_off (hoff 6 rfl) rfl
            exact does_v (v := (I s32.2)) (wanted_none _ rfl _) (rv_move e6) rfl) ?_
        refine all_cons (by
            intro ρ σm m hoff hdep
            have e2 : look 29 ρ 2 = (pt b2 0) := look_off (hoff 2 rfl) rfl
            have e21 : look 29 ρ 21 = (I s32.2) := hdep 11 rfl rfl 21 rfl
            exact does_v (v := (pt b2 (0 + s32.2.toNat * 1))) (wanted_none _ rfl _) (rv_indexAddr_array Try.underlying60 ti3 e2 e21 hl58.1 hl58.2) rfl) ?_
        refine all_cons (by
            intro ρ σm m hoff hdep
            have e22 : look 29 ρ 22 = (pt b2 (0 + s32.2.toNat * 1)) := hdep 12 rfl rfl 22 rfl
            replace hB35 := hB35.mod0 m
            exact does_v (v := (I x56)) (wanted_none _ rfl _) (rv_load1 Try.underlying3 rfl e22 (hB35.arr hx57)) rfl) ?_
        refine all_cons (by
            intro ρ σm m hoff hdep
            have e20 : look 29 ρ 20 = (I x53) := hdep 10 rfl rfl 20 rfl
            have e23 : look 29 ρ 23 = (I x56) := hdep 13 rfl rfl 23 rfl
            exact does_v (v := (I (w64 (x53 - x56)))) (wanted_none _ rfl _) (rv_sub (a := x53) (b := x56) e20 e23) rfl) ?_
        refine all_cons (by
            intro ρ σm m hoff hdep
            have e17 : look 29 ρ 17 = (I (w64 (x47 - x50))) := hdep 7 rfl rfl 17 rfl
            have e24 : look 29 ρ 24 = (I (w64 (x53 - x56))) := hdep 14 rfl rfl 24 rfl
            exact does_v (v := (I (max (w64 (x47 - x50)) (w64 (x53 - x56))))) (wanted_none _ rfl _) (rv_max e17 e24) rfl) ?_
        exact all_nil
      · intro ρ σ59 m hoff hrel
        have e2 : look 29 ρ 2 = (pt b2 0) := look_off (hoff 2 rfl) rfl
        have e3 : look 29 ρ 3 = (pt b8 0) := look_off (hoff 3 rfl) rfl
        have e4 : look 29 ρ 4 = (pt b15 0) := look_off (hoff 4 rfl) rfl
        have e5 : look 29 ρ 5 = (pt b23 0) := look_off (hoff 5 rfl) rfl
        have e7 : look 29 ρ 7 = (I s32.2) := look_off (hoff 7 rfl) rfl
        have e10 : look 29 ρ 10 = (I s32.2) := hrel 0 rfl 10 rfl
        have e25 : look 29 ρ 25 = (I (max (w64 (x47 - x50)) (w64 (x53 - x56)))) := hrel 15 rfl 25 rfl
        replace hB35 := hB35.mod0 m
        replace hB36 := hB36.mod0 m
        replace hB37 := hB37.mod0 m
        replace hB39 := hB39.mod0 m
        replace hK := hK.none m
        rw [fr_lookL (L := [(2, (pt b2 0)), (3, (pt b8 0)), (4, (pt b15 0)), (5, (pt b23 0)), (7, (I s32.2)), (10, (I s32.2)), (25, (I (max (w64 (x47 - x50)) (w64 (x53 - x56)))))]) ⟨e2, e3, e4, e5, e7, e10, e25, trivial⟩]
        clear hoff hrel m e2 e3 e4 e5 e7 e10 e25
        obtain ⟨x60, hx61, h'⟩ := bind_some h
        clear h
        have h := h'; clear h'
        have hl62 := gidx_lt hx61 hl38
        refine st (v := (pt b23 (0 + s32.2.toNat * 1))) (rv_indexAddr_array Try.underlying60 ti3 rfl rfl hl62.1 hl62.2) ?_
        have hl67 := gidx_lt hx61 hl38
        refine st_store_box (vs := [(I (max (w64 (x47 - x50)) (w64 (x53 - x56))))]) ti3 hB39 rfl rfl rfl rfl (by rw [List.length_map, hl38]; simp; omega) (by simp [plain]) ?_
        intro σ63 m64 hB66 hs65; clear hs65
        replace hB35 := hB35.mod' m64 (hd43).symm
        replace hB36 := hB36.mod' m64 (hd44).symm
        replace hB37 := hB37.mod' m64 (hd45).symm
        replace hK := hK.some m64 hge24
        replace hB66 := Bx.cast (cs' := (List.map I (s32.1.set s32.2.toNat (max (w64 (x47 - x50)) (w64 (x53 - x56)))))) hB66 (arr_set _ _ _)
        clear hB39
        refine w_end ?_
        refine q_blk ?_
        refine q_then ?_
        refine rg ?_
        refine st (v := (I (w64 (s32.2 + 1)))) (rv_add (a := s32.2) (b := 1) rfl rfl) ?_
        refine st (v := (I (w64 (s32.2 + 1)))) (rv_move rfl) ?_
        refine w_end ?_
        refine q_then ?_
        obtain rfl := Option.some.inj h
        exact ⟨_, rfl, _, σ63, fr_join ⟨rfl, rfl, rfl, rfl, rfl, trivial⟩, rfl, hK, hB35, hB36, hB37, (set_len hl38), hB66, hd40, hd41, hd42, hd43, hd44, hd45⟩
    · replace h := bif_f hb46 h
      refine c_exit ?_
      refine q_then_x ?_
      refine q_then_x ?_
      refine q_blk_hit ?_
      obtain rfl := Option.some.inj h
      obtain rfl := hres _ rfl
      exact ⟨rfl, _, σ34, fr_join ⟨rfl, rfl, trivial⟩, rfl, hK, hB37, hl38, hB39, hd45⟩
  · clear hj
    have h := h'
    clear h'
    rintro e a w ⟨rfl, ρ, σ68, rfl, rfl, hK, hB69, hl70, hB71, hd72⟩
    refine q_then ?_
    refine c_seq ?_
    refine rg ?_
    refine st (v := (.agg (List.map I o31).toArray)) (rv_load (cs := (List.map I o31)) Try.underlying60 rfl ti60 rfl (by rw [List.length_map]; exact hl70) hB71.all) ?_
    refine st_store_box (cs := (List.map I (List.replicate 4 0))) (vs := (List.map I o31)) ti60 hB69 rfl rfl rfl (by rw [List.length_map]; exact hl70) (arr_fits hl70 rfl) (by simp [plain]) ?_
    intro σ73 m74 hB76 hs75; clear hs75
    replace hK := hK.some m74 hge16
    replace hB76 := Bx.cast (cs' := (List.map I o31)) hB76 (arr_all hl70 rfl)
    clear hB69
    refine w_end ?_
    refine q_then ?_
    refine c_ret ?_
    obtain rfl := Option.some.inj h
    exact bodyPost_ret (v := (.agg (List.map I o31).toArray)) (results_cell (cs := (List.map I o31)) Try.results45 Try.underlying60 rfl ti60 rfl (by rw [List.length_map]; exact hl70) hB76) rfl ⟨_, σ73, rfl, rfl, hK, rfl, hl70⟩

theorem c_impl_Distance {σ0 : St} {kind_0 : Int} {a_1 : List Int} {b_2 : List Int} {aa_1 : Option Addr} {ca_1 : Nat} (hRa_1 : RS 0 σ0 (Sl aa_1 a_1 ca_1) a_1) {ab_2 : Option Addr} {cb_2 : Nat} (hRb_2 : RS 0 σ0 (Sl ab_2 b_2 cb_2) b_2) {r : Int} (h : M.impl_Distance kind_0 a_1 b_2 = some r) :
    Cal Try.prog 19 [(I kind_0), (Sl aa_1 a_1 ca_1), (Sl ab_2 b_2 cb_2)] none σ0 (fun v σ' => v = (I r)) := by
  refine ⟨⟨_, _, Try.func19, rfl, rfl⟩, ?_⟩
  refine enter (n := 24) Try.func19 rfl rfl rfl ?_
  unfold M.impl_Distance at h
  have hK : Mod none σ0 σ0 := Mod.refl _ _
  refine c_seq ?_
  refine rg ?_
  refine st (v := (I 0)) (rv_assign rfl) ?_
  refine w_end ?_
  refine q_then ?_
  refine c_seq ?_
  refine c_seq ?_
  obtain ⟨o1, hj, h'⟩ := bind_some h
  clear h
  refine c_cut (fun e a w => e = .normal ∧ ∃ (ρ : Nat → Value) (σ : St), a = fr 24 (updL ρ [(0, (I kind_0)), (1, (Sl aa_1 a_1 ca_1)), (2, (Sl ab_2 b_2 cb_2)), (14, (B o1))]) ∧ w = σ.w ∧ Mod none σ0 σ ∧ RS 0 σ (Sl aa_1 a_1 ca_1) a_1 ∧ RS 0 σ (Sl ab_2 b_2 cb_2) b_2) ?_ ?_
  · clear h'
    rename _ = some o1 => h
    refine rg ?_
    refine st (v := (Sl aa_1 a_1 ca_1)) (rv_move rfl) ?_
    obtain ⟨r2, hx3, h'⟩ := bind_some h
    clear h
    have h := h'; clear h'
    refine st_call (c_impl_ValidVector hRa_1 hx3) rfl ?_
    have hKs := hK.size
    rintro _ σ4 m5 rfl
    replace hRa_1 := hRa_1.mod m5
    replace hRb_2 := hRb_2.mod m5
    replace hK := hK.none m5
    clear hKs m5
    refine st (v := (B (!r2))) (rv_not rfl) ?_
    refine st (v := (B (!r2))) (rv_move rfl) ?_
    rcases Bool.eq_false_or_eq_true (!r2) with hb6 | hb6
    · replace h := bif_t hb6 h
      refine st_skip (congrArg some hb6) ?_
      refine st_skip (congrArg some hb6) ?_
      refine st_skip (congrArg some hb6) ?_
      refine st (v := (B true)) (rv_pick_t (congrArg B hb6) rfl) ?_
      refine w_end ?_
      obtain rfl := Option.some.inj h
      exact ⟨rfl, _, σ4, fr_join ⟨rfl, rfl, rfl, rfl, trivial⟩, rfl, hK, hRa_1, hRb_2⟩
    · replace h := bif_f hb6 h
      refine st_g (v := (Sl ab_2 b_2 cb_2)) (congrArg some hb6) (rv_move rfl) ?_
      obtain ⟨r7, hx8, h'⟩ := bind_some h
      clear h
      have h := h'; clear h'
      refine st_call_g (by exact (congrArg some hb6)) (c_impl_ValidVector hRb_2 hx8) rfl ?_
      have hKs := hK.size
      rintro _ σ9 m10 rfl
      replace hRa_1 := hRa_1.mod m10
      replace hRb_2 := hRb_2.mod m10
      replace hK := hK.none m10
      clear hKs m10
      refine st_g (v := (B (!r7))) (congrArg some hb6) (rv_not rfl) ?_
      refine st (v := (B (!r7))) (rv_pick_f (congrArg B hb6) rfl) ?_
      refine w_end ?_
      obtain rfl := Option.some.inj h
      exact ⟨rfl, _, σ9, fr_join ⟨rfl, rfl, rfl, rfl, trivial⟩, rfl, hK, hRa_1, hRb_2⟩
  · clear hj
    have h := h'
    clear h'
    rintro e a w ⟨rfl, ρ, σ11, rfl, rfl, hK, hR12, hR13⟩
    refine q_then ?_
    refine cd_cond o1 rfl (fun hb14 => ?_) (fun hb14 => ?_)
    · replace h := bif_t hb14 h
      refine c_seq ?_
      refine rg ?_
      refine st (v := (I (-1))) (rv_assign rfl) ?_
      refine w_end ?_
      refine q_then ?_
      refine c_ret ?_
      refine q_then_r ?_
      obtain rfl := Option.some.inj h
      exact bodyPost_ret (v := (I (-1))) (results_fr1 Try.results19 rfl _) rfl ⟨_, σ11, rfl, rfl, hK, rfl⟩
    · replace h := bif_f hb14 h
      refine c_skip ?_
      refine q_then ?_
      refine c_seq ?_
      obtain ⟨xs15, hx16, h'⟩ := bind_some h
      clear h
      have h := h'; clear h'
      obtain ⟨hl20, hq21⟩ := garr_some hx16
      clear hx16 hq21
      obtain ⟨b17, o18, rfl, hc19⟩ := hR12.arr (Nat.lt_of_lt_of_le (by decide) hl20)
      obtain ⟨xs22, hx23, h'⟩ := bind_some h
      clear h
      have h := h'; clear h'
      obtain ⟨hl27, hq28⟩ := garr_some hx23
      clear hx23 hq28
      obtain ⟨b24, o25, rfl, hc26⟩ := hR13.arr (Nat.lt_of_lt_of_le (by decide) hl27)
      obtain ⟨r29, hx30, h'⟩ := bind_some h
      clear h
      have h := h'; clear h'
      refine rg_monoL (σ := σ11) 8 [eqv (I kind_0), eqv (Sl (some ⟨b17, o18, none⟩) a_1 ca_1), eqv (.pointer (some ⟨b17, o18, none⟩)), eqv (.agg (List.map I (List.take 4 a_1)).toArray), eqv (Sl (some ⟨b24, o25, none⟩) b_2 cb_2), eqv (.pointer (some ⟨b24, o25, none⟩)), eqv (.agg (List.map I (List.take 4 b_2)).toArray), (fun v σ => v = (.agg (List.map I r29).toArray) ∧ r29.length = 4)] (by kernel_rfl) (by kernel_rfl) (mono_cons mono_eqv (mono_cons mono_eqv (mono_cons mono_eqv (mono_cons mono_eqv (mono_cons mono_eqv (mono_cons mono_eqv (mono_cons mono_eqv (mono_cons (fun _ _ _ ⟨h0, hl31⟩ m => ⟨h0, hl31⟩) (mono_nil))))))))) ?_ ?_
      · refine all_cons (by
            intro ρ σm m hoff hdep
            have e0 : look 24 ρ 0 = (I kind_0) := look_off (hoff 0 rfl) rfl
            exact does_v (v := (I kind_0)) (wanted_none _ rfl _) (rv_move e0) rfl) ?_
        refine all_cons (by
            intro ρ σm m hoff hdep
            have e1 : look 24 ρ 1 = (Sl (some ⟨b17, o18, none⟩) a_1 ca_1) := look_off (hoff 1 rfl) rfl
            exact does_v (v := (Sl (some ⟨b17, o18, none⟩) a_1 ca_1)) (wanted_none _ rfl _) (rv_move e1) rfl) ?_
        refine all_cons (by
            intro ρ σm m hoff hdep
            have e16 : look 24 ρ 16 = (Sl (some ⟨b17, o18, none⟩) a_1 ca_1) := hdep 1 rfl rfl 16 rfl
            exact does_v (v := (.pointer (some ⟨b17, o18, none⟩))) (wanted_none _ rfl _) (rv_arrPtr Try.underlying60 e16 hl20) rfl) ?_
        refine all_cons (by
            intro ρ σm m hoff hdep
            have e17 : look 24 ρ 17 = (.pointer (some ⟨b17, o18, none⟩)) := hdep 2 rfl rfl 17 rfl
            replace hc19 := hR12.arr_mod hc19 m
            exact does_v (v := (.agg (List.map I (List.take 4 a_1)).toArray)) (wanted_none _ rfl _) (rv_load (cs := List.map I (List.take 4 a_1)) Try.underlying60 rfl ti60 e17 (by rw [List.length_map, List.length_take]; have := hl20; omega) (arr_take hc19)) rfl) ?_
        refine all_cons (by
            intro ρ σm m hoff hdep
            have e2 : look 24 ρ 2 = (Sl (some ⟨b24, o25, none⟩) b_2 cb_2) := look_off (hoff 2 rfl) rfl
            exact does_v (v := (Sl (some ⟨b24, o25, none⟩) b_2 cb_2)) (wanted_none _ rfl _) (rv_move e2) rfl) ?_
        refine all_cons (by
            intro ρ σm m hoff hdep
            have e19 : look 24 ρ 19 = (Sl (some ⟨b24, o25, none⟩) b_2 cb_2) := hdep 4 rfl rfl 19 rfl
            exact does_v (v := (.pointer (some ⟨b24, o25, none⟩))) (wanted_none _ rfl _) (rv_arrPtr Try.underlying60 e19 hl27) rfl) ?_
        refine all_cons (by
            intro ρ σm m hoff hdep
            have e20 : look 24 ρ 20 = (.pointer (some ⟨b24, o25, none⟩)) := hdep 5 rfl rfl 20 rfl
            replace hc26 := hR13.arr_mod hc26 m
            exact does_v (v := (.agg (List.map I (List.take 4 b_2)).toArray)) (wanted_none _ rfl _) (rv_load (cs := List.map I (List.take 4 b_2)) Try.underlying60 rfl ti60 e20 (by rw [List.length_map, List.length_take]; have := hl27; omega) (arr_take hc26)) rfl) ?_
        refine all_cons (by
            intro ρ σm m hoff hdep
            have e18 : look 24 ρ 18 = (.agg (List.map I (List.take 4 a_1)).toArray) := hdep 3 rfl rfl 18 rfl
            have e21 : look 24 ρ 21 = (.agg (List.map I (List.take 4 b_2)).toArray) := hdep 6 rfl rfl 21 rfl
            have hKs : σ11.size ≤ σm.size := m.size
            exact does_call (wanted_none _ rfl _) (c_impl_gapsOf (by rw [List.length_take]; have := hl20; omega) (by rw [List.length_take]; have := hl27; omega) hx30) (by show [look 24 ρ 18, look 24 ρ 21] = _; rw [e18, e21]) (by rintro v σ2 m2 ⟨rfl, hl31⟩; exact ⟨rfl, hl31⟩)) ?_
        exact all_nil
      · intro ρ σ32 m hoff hrel
        have e15 : look 24 ρ 15 = (I kind_0) := hrel 0 rfl 15 rfl
        obtain ⟨e22, hl31⟩ := hrel 7 rfl 22 rfl
        replace hK := hK.none m
        rw [fr_lookL (L := [(15, (I kind_0)), (22, (.agg (List.map I r29).toArray))]) ⟨e15, e22, trivial⟩]
        clear hoff hrel m e15 e22
        obtain ⟨r33, hx34, h'⟩ := bind_some h
        clear h
        have h := h'; clear h'
        refine st_call (c_impl_distanceOf hl31 hx34) rfl ?_
        have hKs := hK.size
        rintro _ σ35 m36 rfl
        replace hK := hK.none m36
        clear hKs m36
        refine st (v := (I r33)) (rv_assign rfl) ?_
        refine w_end ?_
        refine q_then ?_
        refine c_ret ?_
        obtain rfl := Option.some.inj h
        exact bodyPost_ret (v := (I r33)) (results_fr1 Try.results19 rfl _) rfl ⟨_, σ35, rfl, rfl, hK, rfl⟩

theorem c_spec_validKind {σ0 : St} {kind_0 : Int}  {r : Bool} (h : M.spec_validKind kind_0 = some r) :
    Cal Try.prog 46 [(I kind_0)] none σ0 (fun v σ' => v = (B r)) := by
  refine ⟨⟨_, _, Try.func46, rfl, rfl⟩, ?_⟩
  refine enter (n := 5) Try.func46 rfl rfl rfl ?_
  unfold M.spec_validKind at h
  have hK : Mod none σ0 σ0 := Mod.refl _ _
  refine c_seq ?_
  refine rg ?_
  refine st (v := (B false)) (rv_assign rfl) ?_
  refine w_end ?_
  refine q_then ?_
  refine c_seq ?_
  refine rg ?_
  refine st (v := (I kind_0)) (rv_move rfl) ?_
  obtain ⟨r1, hx2, h'⟩ := bind_some h
  clear h
  have h := h'; clear h'
  refine st_call (c_spec_inRange  hx2) rfl ?_
  have hKs := hK.size
  rintro _ σ3 m4 rfl
  replace hK := hK.none m4
  clear hKs m4
  refine st (v := (B r1)) (rv_assign rfl) ?_
  refine w_end ?_
  refine q_then ?_
  refine c_ret ?_
  obtain rfl := Option.some.inj h
  exact bodyPost_ret (v := (B r1)) (results_fr1 Try.results46 rfl _) rfl ⟨_, σ3, rfl, rfl, hK, rfl⟩

theorem c_spec_size {σ0 : St} {n_0 : Int}  {r : Int} (h : M.spec_size n_0 = some r) :
    Cal Try.prog 67 [(I n_0)] none σ0 (fun v σ' => v = (I r)) := by
  refine ⟨⟨_, _, Try.func67, rfl, rfl⟩, ?_⟩
  refine enter (n := 7) Try.func67 rfl rfl rfl ?_
  unfold M.spec_size at h
  have hK : Mod none σ0 σ0 := Mod.refl _ _
  refine c_seq ?_
  refine rg ?_
  refine st (v := (I 0)) (rv_assign rfl) ?_
  refine w_end ?_
  refine q_then ?_
  refine c_seq ?_
  refine rg ?_
  refine st (v := (I n_0)) (rv_move rfl) ?_
  refine st (v := (I n_0)) (rv_move rfl) ?_
  refine st (v := (I (w64 (0 - n_0)))) (rv_neg (a := n_0) rfl) ?_
  refine st (v := (I (max n_0 (w64 (0 - n_0))))) (rv_max rfl rfl) ?_
  refine st (v := (I (max n_0 (w64 (0 - n_0))))) (rv_assign rfl) ?_
  refine w_end ?_
  refine q_then ?_
  refine c_ret ?_
  obtain rfl := Option.some.inj h
  exact bodyPost_ret (v := (I (max n_0 (w64 (0 - n_0))))) (results_fr1 Try.results67 rfl _) rfl ⟨_, σ0, rfl, rfl, hK, rfl⟩

theorem c_spec_toInt {σ0 : St} {b_0 : Bool}  {r : Int} (h : M.spec_toInt b_0 = some r) :
    Cal Try.prog 68 [(B b_0)] none σ0 (fun v σ' => v = (I r)) := by
  refine ⟨⟨_, _, Try.func68, rfl, rfl⟩, ?_⟩
  refine enter (n := 4) Try.func68 rfl rfl rfl ?_
  unfold M.spec_toInt at h
  have hK : Mod none σ0 σ0 := Mod.refl _ _
  refine c_seq ?_
  refine rg ?_
  refine st (v := (I 0)) (rv_assign rfl) ?_
  refine w_end ?_
  refine q_then ?_
  refine c_seq ?_
  refine c_seq ?_
  refine rg ?_
  refine st (v := (B b_0)) (rv_move rfl) ?_
  refine w_end ?_
  refine q_then ?_
  refine cd_cond b_0 rfl (fun hb1 => ?_) (fun hb1 => ?_)
  · replace h := bif_t hb1 h
    refine c_seq ?_
    refine rg ?_
    refine st (v := (I 1)) (rv_assign rfl) ?_
    refine w_end ?_
    refine q_then ?_
    refine c_ret ?_
    refine q_then_r ?_
    obtain rfl := Option.some.inj h
    exact bodyPost_ret (v := (I 1)) (results_fr1 Try.results68 rfl _) rfl ⟨_, σ0, rfl, rfl, hK, rfl⟩
  · replace h := bif_f hb1 h
    refine c_skip ?_
    refine q_then ?_
    refine c_seq ?_
    refine rg ?_
    refine st (v := (I 0)) (rv_assign rfl) ?_
    refine w_end ?_
    refine q_then ?_
    refine c_ret ?_
    obtain rfl := Option.some.inj h
    exact bodyPost_ret (v := (I 0)) (results_fr1 Try.results68 rfl _) rfl ⟨_, σ0, rfl, rfl, hK, rfl⟩

end Go.Vs
