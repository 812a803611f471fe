/- The functions compute what their models say. -/
import Derived.Test.YtpccmkphddipdabKExactValidLogM
import Derived.Test.YtpccmkphddipdabExactValidLogEng1
import Derived.Test.YtpccmkphddipdabProg
set_option linter.unusedVariables false
set_option linter.unusedSimpArgs false
set_option maxRecDepth 20000
namespace Go.Vs
open Go Go.Proofs
attribute [local irreducible] Code.wp Code.wpIn wpList wpListIn wpQuiet Calls CallsIn

instance : Rp (If2 Int ((Int × (List Int) × Int))) := rp2 91 95
theorem ti3 : TI Try.prog 3 (.int .i64 0) 1 8 := TI.mk' (by kernel_rfl)
theorem ti26 : TI Try.prog 26 (.slice none 0 0) 1 24 := TI.mk' (by kernel_rfl)
theorem ti32 : TI Try.prog 32 (.agg #[(.int .i64 0), (.slice none 0 0), (.int .i64 0)]) 3 40 := TI.mk' (by kernel_rfl)
theorem ti42 : TI Try.prog 42 (.agg #[(.int .i64 0), (.int .i64 0), (.slice none 0 0), (.int .i64 0)]) 4 48 := TI.mk' (by kernel_rfl)
theorem ti83 : TI Try.prog 83 .nilIface 1 16 := TI.mk' (by kernel_rfl)
theorem ti91 : TI Try.prog 91 (.agg #[(.int .i64 0)]) 1 8 := TI.mk' (by kernel_rfl)
theorem ti95 : TI Try.prog 95 (.agg #[(.int .i64 0), (.slice none 0 0), (.int .i64 0)]) 3 40 := TI.mk' (by kernel_rfl)
theorem ti98 : TI Try.prog 98 (.agg #[(.int .i64 0), (.slice none 0 0), (.int .i64 0)]) 3 40 := TI.mk' (by kernel_rfl)
theorem ti100 : TI Try.prog 100 (.agg #[(.int .i64 0), (.int .i64 0), (.slice none 0 0), (.int .i64 0)]) 4 48 := TI.mk' (by kernel_rfl)
theorem bp91 {fs : Array Field} (hT : Try.prog.underlying 91 = some (.struct fs)) (w : World) : (fs.mapM (fun f => do pure (f.offset, ← sizeOf f.type)) : Sem (Array (Nat × Nat))).run Try.prog w = .ok #[(0, 1)] w := by
  rw [Try.underlying91] at hT; cases hT
  simp [run_typeInfo ti3]
theorem bp95 {fs : Array Field} (hT : Try.prog.underlying 95 = some (.struct fs)) (w : World) : (fs.mapM (fun f => do pure (f.offset, ← sizeOf f.type)) : Sem (Array (Nat × Nat))).run Try.prog w = .ok #[(0, 3)] w := by
  rw [Try.underlying95] at hT; cases hT
  simp [run_typeInfo ti32]

theorem c_laws_szIntS {a_0 : List Int} {left_1 : Int} {aa_0 : Option Addr} {ca_0 : Nat} {r : Int} (h : M.laws_szIntS a_0 left_1 = some r) :
    Cal2 Try.prog 107 [(Sl aa_0 a_0 ca_0), (I left_1)] [Ch.ro 0 (Sl aa_0 a_0 ca_0) a_0] (fun n0 v L => v = (I r) ∧ L = []) := by
 refine cal2 (n := 12) Try.func107 rfl rfl rfl rfl ?_
 intro S0 σ0 n0 hn0 H
 unfold M.laws_szIntS at h
 refine c_seq ?_
 refine rg ?_
 refine st (v := (I 0)) (rv_assign rfl) ?_
 refine w_end ?_
 refine q_then ?_
 refine c_seq ?_
 refine rg ?_
 refine st (v := (I left_1)) (rv_move rfl) ?_
 refine st (v := (Sl aa_0 a_0 ca_0)) (rv_move rfl) ?_
 refine st (v := (I (a_0.length : Int))) (rv_len Try.underlying26 rfl) ?_
 refine st (v := (I (w64 (left_1 - (a_0.length : Int))))) (rv_sub (a := left_1) (b := (a_0.length : Int)) rfl rfl) ?_
 refine st (v := (I (w64 (left_1 - (a_0.length : Int))))) (rv_assign rfl) ?_
 refine w_end ?_
 refine q_then ?_
 refine c_seq ?_
 refine c_seq ?_
 refine rg ?_
 refine st (v := (I (w64 (left_1 - (a_0.length : Int))))) (rv_move rfl) ?_
 refine st (v := (B (decide ((w64 (left_1 - (a_0.length : Int))) < 0)))) (rv_lss (a := (w64 (left_1 - (a_0.length : Int)))) (b := 0) rfl rfl) ?_
 refine w_end ?_
 refine q_then ?_
 refine cd_cond (decide ((w64 (left_1 - (a_0.length : Int))) < 0)) rfl (fun hb1 => ?_) (fun hb1 => ?_)
 ·replace h := bif_t hb1 h
  refine c_seq ?_
  refine rg ?_
  refine st (v := (I (-1))) (rv_assign rfl) ?_
  refine w_end ?_
  refine q_then ?_
  refine c_ret ?_
  refine q_then_r ?_
  obtain rfl := Option.some.inj h
  exact fin_ret (v := (I (-1))) (results_ok Try.results107 (res_tmp (v := (I (-1))) rfl res_nil) rfl) ⟨rfl, rfl⟩ (H.sel' [] rfl rfl)
 ·replace h := bif_f hb1 h
  refine c_skip ?_
  refine q_then ?_
  refine c_seq ?_
  refine rg ?_
  refine st (v := (I (w64 (left_1 - (a_0.length : Int))))) (rv_move rfl) ?_
  refine st (v := (I (w64 (left_1 - (a_0.length : Int))))) (rv_assign rfl) ?_
  refine w_end ?_
  refine q_then ?_
  refine c_ret ?_
  obtain rfl := Option.some.inj h
  exact fin_ret (v := (I (w64 (left_1 - (a_0.length : Int))))) (results_ok Try.results107 (res_tmp (v := (I (w64 (left_1 - (a_0.length : Int))))) rfl res_nil) rfl) ⟨rfl, rfl⟩ (H.sel' [] rfl rfl)

theorem c_laws_szItem {a_0 : Int × (List Int) × Int} {left_1 : Int} {aa_0_1 : Option Addr} {ca_0_1 : Nat} {r : Int} (h : M.laws_szItem a_0 left_1 = some r) :
    Cal2 Try.prog 79 [(.agg #[(I a_0.1), (Sl aa_0_1 a_0.2.1 ca_0_1), (I a_0.2.2)]), (I left_1)] [Ch.ro 0 (Sl aa_0_1 a_0.2.1 ca_0_1) a_0.2.1] (fun n0 v L => v = (I r) ∧ L = []) := by
 refine cal2 (n := 12) Try.func79 rfl rfl rfl rfl ?_
 intro S0 σ0 n0 hn0 H
 unfold M.laws_szItem at h
 refine c_seq ?_
 refine rg ?_
 refine st_ex (ex_box (cs := [(I a_0.1), (Sl aa_0_1 a_0.2.1 ca_0_1), (I a_0.2.2)]) H hn0 rfl rfl) wn ?_
 rintro _ σ2 ⟨b1, rfl, H, -⟩
 refine st (v := (I 0)) (rv_assign rfl) ?_
 refine w_end ?_
 refine q_then ?_
 refine c_seq ?_
 refine rg ?_
 refine st (v := (pt b1 1)) (rv_fieldAddr (off := 1) (ft := 26) Try.underlying98 rfl ti26 rfl rfl) ?_
 have hc3 := H.cell (u := (Sl aa_0_1 a_0.2.1 ca_0_1)) (o' := 1) 0 1 rfl rfl rfl
 refine st (v := (Sl aa_0_1 a_0.2.1 ca_0_1)) (rv_load1 Try.underlying26 rfl rfl hc3) ?_
 refine st (v := (I left_1)) (rv_move rfl) ?_
 obtain ⟨r4, hx5, h'⟩ := bind_some h
 clear h
 have h := h'; clear h'
 have hc6 := c_laws_szIntS (aa_0 := aa_0_1) (ca_0 := ca_0_1) hx5
 refine st_call (cx_call hc6 (ent_f hc6.fn rfl) hn0 (show Hp S0 σ0 _ ([Ch.ro 0 (Sl aa_0_1 a_0.2.1 ca_0_1) a_0.2.1] ++ [Ch.bx n0 b1 0 [(I a_0.1), (Sl aa_0_1 a_0.2.1 ca_0_1), (I a_0.2.2)] [] [], Ch.ro 0 (Sl aa_0_1 a_0.2.1 ca_0_1) a_0.2.1]) from (H.sel' [1, 0, 1] rfl rfl))) wn ?_
 rintro _ σ7 ⟨_, ⟨rfl, rfl⟩, H, -⟩
 replace H : Hp S0 σ0 σ7 [Ch.bx n0 b1 0 [(I a_0.1), (Sl aa_0_1 a_0.2.1 ca_0_1), (I a_0.2.2)] [] [], Ch.ro 0 (Sl aa_0_1 a_0.2.1 ca_0_1) a_0.2.1] := H
 refine st (v := (I r4)) (rv_assign rfl) ?_
 refine w_end ?_
 refine q_then ?_
 refine c_seq ?_
 refine c_seq ?_
 refine rg ?_
 refine st (v := (I r4)) (rv_move rfl) ?_
 refine st (v := (B (decide (r4 < 0)))) (rv_lss (a := r4) (b := 0) rfl rfl) ?_
 refine w_end ?_
 refine q_then ?_
 refine cd_cond (decide (r4 < 0)) rfl (fun hb8 => ?_) (fun hb8 => ?_)
 ·replace h := bif_t hb8 h
  refine c_seq ?_
  refine rg ?_
  refine st (v := (I (-1))) (rv_assign rfl) ?_
  refine w_end ?_
  refine q_then ?_
  refine c_ret ?_
  refine q_then_r ?_
  obtain rfl := Option.some.inj h
  exact fin_ret (v := (I (-1))) (results_ok Try.results79 (res_tmp (v := (I (-1))) rfl res_nil) rfl) ⟨rfl, rfl⟩ (H.sel' [] rfl rfl)
 ·replace h := bif_f hb8 h
  refine c_skip ?_
  refine q_then ?_
  refine c_seq ?_
  refine rg ?_
  refine st (v := (I r4)) (rv_move rfl) ?_
  refine st (v := (I r4)) (rv_assign rfl) ?_
  refine w_end ?_
  refine q_then ?_
  refine c_ret ?_
  obtain rfl := Option.some.inj h
  exact fin_ret (v := (I r4)) (results_ok Try.results79 (res_tmp (v := (I r4)) rfl res_nil) rfl) ⟨rfl, rfl⟩ (H.sel' [] rfl rfl)

theorem c_laws_szEntry {a_0 : Int × (Int × (List Int) × Int)} {left_1 : Int} {aa_0_1_1 : Option Addr} {ca_0_1_1 : Nat} {r : Int} (h : M.laws_szEntry a_0 left_1 = some r) :
    Cal2 Try.prog 76 [(.agg #[(I a_0.1), (I a_0.2.1), (Sl aa_0_1_1 a_0.2.2.1 ca_0_1_1), (I a_0.2.2.2)]), (I left_1)] [Ch.ro 0 (Sl aa_0_1_1 a_0.2.2.1 ca_0_1_1) a_0.2.2.1] (fun n0 v L => v = (I r) ∧ L = []) := by
 refine cal2 (n := 12) Try.func76 rfl rfl rfl rfl ?_
 intro S0 σ0 n0 hn0 H
 unfold M.laws_szEntry at h
 refine c_seq ?_
 refine rg ?_
 refine st_ex (ex_box (cs := [(I a_0.1), (I a_0.2.1), (Sl aa_0_1_1 a_0.2.2.1 ca_0_1_1), (I a_0.2.2.2)]) H hn0 rfl rfl) wn ?_
 rintro _ σ2 ⟨b1, rfl, H, -⟩
 refine st (v := (I 0)) (rv_assign rfl) ?_
 refine w_end ?_
 refine q_then ?_
 refine c_seq ?_
 refine rg ?_
 refine st (v := (pt b1 1)) (rv_fieldAddr (off := 1) (ft := 98) Try.underlying100 rfl ti98 rfl rfl) ?_
 have hc3 := H.part (us := [(I a_0.2.1), (Sl aa_0_1_1 a_0.2.2.1 ca_0_1_1), (I a_0.2.2.2)]) (o' := 1) 0 1 3 rfl rfl rfl rfl
 refine st (v := (.agg #[(I a_0.2.1), (Sl aa_0_1_1 a_0.2.2.1 ca_0_1_1), (I a_0.2.2.2)])) (rv_load (cs := [(I a_0.2.1), (Sl aa_0_1_1 a_0.2.2.1 ca_0_1_1), (I a_0.2.2.2)]) Try.underlying98 rfl ti98 rfl rfl hc3) ?_
 refine st (v := (I left_1)) (rv_move rfl) ?_
 obtain ⟨r4, hx5, h'⟩ := bind_some h
 clear h
 have h := h'; clear h'
 have hc6 := c_laws_szItem (aa_0_1 := aa_0_1_1) (ca_0_1 := ca_0_1_1) hx5
 refine st_call (cx_call hc6 (ent_f hc6.fn rfl) hn0 (show Hp S0 σ0 _ ([Ch.ro 0 (Sl aa_0_1_1 a_0.2.2.1 ca_0_1_1) a_0.2.2.1] ++ [Ch.bx n0 b1 0 [(I a_0.1), (I a_0.2.1), (Sl aa_0_1_1 a_0.2.2.1 ca_0_1_1), (I a_0.2.2.2)] [] [], Ch.ro 0 (Sl aa_0_1_1 a_0.2.2.1 ca_0_1_1) a_0.2.2.1]) from (H.sel' [1, 0, 1] rfl rfl))) wn ?_
 rintro _ σ7 ⟨_, ⟨rfl, rfl⟩, H, -⟩
 replace H : Hp S0 σ0 σ7 [Ch.bx n0 b1 0 [(I a_0.1), (I a_0.2.1), (Sl aa_0_1_1 a_0.2.2.1 ca_0_1_1), (I a_0.2.2.2)] [] [], Ch.ro 0 (Sl aa_0_1_1 a_0.2.2.1 ca_0_1_1) a_0.2.2.1] := H
 refine st (v := (I r4)) (rv_assign rfl) ?_
 refine w_end ?_
 refine q_then ?_
 refine c_seq ?_
 refine c_seq ?_
 refine rg ?_
 refine st (v := (I r4)) (rv_move rfl) ?_
 refine st (v := (B (decide (r4 < 0)))) (rv_lss (a := r4) (b := 0) rfl rfl) ?_
 refine w_end ?_
 refine q_then ?_
 refine cd_cond (decide (r4 < 0)) rfl (fun hb8 => ?_) (fun hb8 => ?_)
 ·replace h := bif_t hb8 h
  refine c_seq ?_
  refine rg ?_
  refine st (v := (I (-1))) (rv_assign rfl) ?_
  refine w_end ?_
  refine q_then ?_
  refine c_ret ?_
  refine q_then_r ?_
  obtain rfl := Option.some.inj h
  exact fin_ret (v := (I (-1))) (results_ok Try.results76 (res_tmp (v := (I (-1))) rfl res_nil) rfl) ⟨rfl, rfl⟩ (H.sel' [] rfl rfl)
 ·replace h := bif_f hb8 h
  refine c_skip ?_
  refine q_then ?_
  refine c_seq ?_
  refine rg ?_
  refine st (v := (I r4)) (rv_move rfl) ?_
  refine st (v := (I r4)) (rv_assign rfl) ?_
  refine w_end ?_
  refine q_then ?_
  refine c_ret ?_
  obtain rfl := Option.some.inj h
  exact fin_ret (v := (I r4)) (results_ok Try.results76 (res_tmp (v := (I r4)) rfl res_nil) rfl) ⟨rfl, rfl⟩ (H.sel' [] rfl rfl)

theorem c_laws_szEntryS {a_0 : List (Int × (Int × (List Int) × Int))} {left_1 : Int} {aa_0 : Option Addr} {ca_0 : Nat} {r : Int} (h : M.laws_szEntryS a_0 left_1 = some r) :
    Cal2 Try.prog 33 [(Sl aa_0 a_0 ca_0), (I left_1)] [Ch.ro 0 (Sl aa_0 a_0 ca_0) a_0] (fun n0 v L => v = (I r) ∧ L = []) := by
 refine cal2 (n := 27) Try.func33 rfl rfl rfl rfl ?_
 intro S0 σ0 n0 hn0 H
 unfold M.laws_szEntryS at h
 refine c_seq ?_
 refine rg ?_
 refine st (v := (I 0)) (rv_assign rfl) ?_
 refine w_end ?_
 refine q_then ?_
 refine c_seq ?_
 refine rg ?_
 refine st (v := (I left_1)) (rv_move rfl) ?_
 refine st (v := (Sl aa_0 a_0 ca_0)) (rv_move rfl) ?_
 refine st (v := (I (a_0.length : Int))) (rv_len Try.underlying53 rfl) ?_
 refine st (v := (I (w64 (left_1 - (a_0.length : Int))))) (rv_sub (a := left_1) (b := (a_0.length : Int)) rfl rfl) ?_
 refine st (v := (I (w64 (left_1 - (a_0.length : Int))))) (rv_assign rfl) ?_
 refine w_end ?_
 refine q_then ?_
 refine c_seq ?_
 refine c_seq ?_
 refine rg ?_
 refine st (v := (I (w64 (left_1 - (a_0.length : Int))))) (rv_move rfl) ?_
 refine st (v := (B (decide ((w64 (left_1 - (a_0.length : Int))) < 0)))) (rv_lss (a := (w64 (left_1 - (a_0.length : Int)))) (b := 0) rfl rfl) ?_
 refine w_end ?_
 refine q_then ?_
 refine cd_cond (decide ((w64 (left_1 - (a_0.length : Int))) < 0)) rfl (fun hb1 => ?_) (fun hb1 => ?_)
 ·replace h := bif_t hb1 h
  refine c_seq ?_
  refine rg ?_
  refine st (v := (I (-1))) (rv_assign rfl) ?_
  refine w_end ?_
  refine q_then ?_
  refine c_ret ?_
  refine q_then_r ?_
  obtain rfl := Option.some.inj h
  exact fin_ret (v := (I (-1))) (results_ok Try.results33 (res_tmp (v := (I (-1))) rfl res_nil) rfl) ⟨rfl, rfl⟩ (H.sel' [] rfl rfl)
 ·replace h := bif_f hb1 h
  refine c_skip ?_
  refine q_then ?_
  refine c_seq ?_
  refine c_seq ?_
  refine rg ?_
  refine st (v := (I 0)) (rv_assign rfl) ?_
  refine w_end ?_
  refine q_then ?_
  obtain ⟨o2, hj, h'⟩ := bind_some h
  clear h
  refine c_cut (fun e a w => (∃ t, o2 = (.inl t) ∧ e = .normal ∧ ∃ (ρ : Nat → Value) (σ : St), a = fr 27 (updL ρ [(1, (I t))]) ∧ w = σ.w ∧ Hp S0 σ0 σ []) ∨ (∃ t, o2 = (.inr t) ∧ e = .ret ∧ ∃ (ρ : Nat → Value) (σ : St), a = fr 27 (updL ρ [(4, (I t))]) ∧ w = σ.w ∧ Hp S0 σ0 σ [])) ?_ ?_
  ·clear h'
   rename _ = some o2 => h
   refine c_blk ?_
   refine wp_loopM _ h (fun s3 a w => ∃ (ρ : Nat → Value) (σ : St), a = fr 27 (updL ρ [(0, (Sl aa_0 a_0 ca_0)), (1, (I s3.1)), (5, (I s3.2))]) ∧ w = σ.w ∧ Hp S0 σ0 σ [Ch.ro 0 (Sl aa_0 a_0 ca_0) a_0]) ⟨_, σ0, fr_join ⟨rfl, rfl, rfl, trivial⟩, rfl, H.sel' [0] rfl rfl⟩ ?_
   clear h H
   rintro s3 a w o ⟨ρ, σ4, rfl, rfl, H⟩ h hres
   refine c_seq ?_
   refine c_seq ?_
   refine rg ?_
   refine st (v := (I s3.2)) (rv_move rfl) ?_
   refine st (v := (Sl aa_0 a_0 ca_0)) (rv_move rfl) ?_
   refine st (v := (I (a_0.length : Int))) (rv_len Try.underlying53 rfl) ?_
   refine st (v := (B (decide (s3.2 < (a_0.length : Int))))) (rv_lss (a := s3.2) (b := (a_0.length : Int)) rfl rfl) ?_
   refine w_end ?_
   refine q_then ?_
   refine cd_cond (decide (s3.2 < (a_0.length : Int))) rfl (fun hb5 => ?_) (fun hb5 => ?_)
   ·replace h := bif_t hb5 h
    refine c_skip ?_
    refine q_then ?_
    refine c_seq ?_
    refine c_blk ?_
    refine c_seq ?_
    refine rg ?_
    refine st (v := (Sl aa_0 a_0 ca_0)) (rv_move rfl) ?_
    refine st (v := (I s3.2)) (rv_move rfl) ?_
    obtain ⟨x6, hx7, h'⟩ := bind_some h
    clear h
    have h := h'; clear h'
    obtain ⟨b9, o10, hi8, -⟩ := (H.ro 0 rfl).ix hx7
    refine st (v := (pt b9 o10)) (rv_ix Try.underlying53 ti100 rfl rfl hi8) ?_
    obtain ⟨_, ⟨_, _, rfl, rfl, ⟨_, _, rfl, rfl, ⟨_, _, rfl, ⟨_, rfl, hR15⟩, rfl⟩⟩⟩, hl11, hc12⟩ := ((H.ro 0 rfl).at hx7 hi8).cells
    obtain ⟨a13, c14, rfl⟩ := hR15.isSl
    replace H := H.add (d := Ch.ro 0 (Sl a13 x6.2.2.1 c14) x6.2.2.1) hR15 (fun _ h => h)
    clear hR15
    refine st (v := (.agg #[(I x6.1), (I x6.2.1), (Sl a13 x6.2.2.1 c14), (I x6.2.2.2)])) (rv_load Try.underlying100 rfl ti100 rfl hl11 hc12) ?_
    refine st (v := (I s3.1)) (rv_move rfl) ?_
    obtain ⟨r16, hx17, h'⟩ := bind_some h
    clear h
    have h := h'; clear h'
    have hc18 := c_laws_szEntry (aa_0_1_1 := a13) (ca_0_1_1 := c14) hx17
    refine st_call (cx_call hc18 (ent_f hc18.fn rfl) hn0 (show Hp S0 σ0 _ ([Ch.ro 0 (Sl a13 x6.2.2.1 c14) x6.2.2.1] ++ [Ch.ro 0 (Sl a13 x6.2.2.1 c14) x6.2.2.1, Ch.ro 0 (Sl aa_0 a_0 ca_0) a_0]) from (H.sel' [0, 0, 1] rfl rfl))) wn ?_
    rintro _ σ19 ⟨_, ⟨rfl, rfl⟩, H, -⟩
    replace H : Hp S0 σ0 σ19 [Ch.ro 0 (Sl a13 x6.2.2.1 c14) x6.2.2.1, Ch.ro 0 (Sl aa_0 a_0 ca_0) a_0] := H
    refine st (v := (I r16)) (rv_assign rfl) ?_
    refine w_end ?_
    refine q_then ?_
    refine c_seq ?_
    refine rg ?_
    refine st (v := (I r16)) (rv_move rfl) ?_
    refine st (v := (B (decide (r16 < 0)))) (rv_lss (a := r16) (b := 0) rfl rfl) ?_
    refine w_end ?_
    refine q_then ?_
    refine cd_cond (decide (r16 < 0)) rfl (fun hb20 => ?_) (fun hb20 => ?_)
    ·replace h := bif_t hb20 h
     refine c_seq ?_
     refine rg ?_
     refine st (v := (I (-1))) (rv_assign rfl) ?_
     refine w_end ?_
     refine q_then ?_
     refine c_ret ?_
     refine q_blk_r ?_
     refine q_then_r ?_
     refine q_then_r ?_
     refine q_blk_r ?_
     obtain rfl := Option.some.inj h
     obtain rfl := hres _ rfl
     exact .inr (⟨_, rfl, rfl, _, σ19, fr_join ⟨rfl, trivial⟩, rfl, H.sel' [] rfl rfl⟩)
    ·replace h := bif_f hb20 h
     refine c_skip ?_
     refine q_blk ?_
     refine q_then ?_
     refine rg ?_
     refine st (v := (I s3.2)) (rv_move rfl) ?_
     refine st (v := (I (w64 (s3.2 + 1)))) (rv_add (a := s3.2) (b := 1) rfl rfl) ?_
     refine st (v := (I (w64 (s3.2 + 1)))) (rv_assign rfl) ?_
     refine w_end ?_
     refine q_then ?_
     obtain rfl := Option.some.inj h
     exact ⟨_, rfl, _, σ19, fr_join ⟨rfl, rfl, rfl, trivial⟩, rfl, H.sel' [1] rfl rfl⟩
   ·replace h := bif_f hb5 h
    refine c_exit ?_
    refine q_then_x ?_
    refine q_then_x ?_
    refine q_blk_hit ?_
    obtain rfl := Option.some.inj h
    obtain rfl := hres _ rfl
    exact .inl ⟨_, rfl, rfl, _, σ4, fr_join ⟨rfl, trivial⟩, rfl, H.sel' [] rfl rfl⟩
  ·clear hj
   have h := h'
   clear h' H
   rintro e a w (⟨t21, rfl, rfl, ρ, σ22, rfl, rfl, H⟩ | ⟨t23, rfl, rfl, ρ, σ24, rfl, rfl, H⟩)
   ·replace h := selim_l h
    refine q_then ?_
    refine c_seq ?_
    refine rg ?_
    refine st (v := (I t21)) (rv_move rfl) ?_
    refine st (v := (I t21)) (rv_assign rfl) ?_
    refine w_end ?_
    refine q_then ?_
    refine c_ret ?_
    obtain rfl := Option.some.inj h
    exact fin_ret (v := (I t21)) (results_ok Try.results33 (res_tmp (v := (I t21)) rfl res_nil) rfl) ⟨rfl, rfl⟩ (H.sel' [] rfl rfl)
   ·replace h := selim_r h
    refine q_then_r ?_
    obtain rfl := Option.some.inj h
    exact fin_ret (v := (I t23)) (results_ok Try.results33 (res_tmp (v := (I t23)) rfl res_nil) rfl) ⟨rfl, rfl⟩ (H.sel' [] rfl rfl)

theorem c_spec_inRange {n_0 : Int} {low_1 : Int} {high_2 : Int}  {r : Bool} (h : M.spec_inRange n_0 low_1 high_2 = some r) :
    Cal2 Try.prog 55 [(I n_0), (I low_1), (I high_2)] [] (fun n0 v L => v = (B r) ∧ L = []) := by
 refine cal2 (n := 15) Try.func55 rfl rfl rfl rfl ?_
 intro S0 σ0 n0 hn0 H
 unfold M.spec_inRange at h
 refine c_seq ?_
 refine rg ?_
 refine st (v := (B false)) (rv_assign rfl) ?_
 refine w_end ?_
 refine q_then ?_
 refine c_seq ?_
 refine rg ?_
 refine st (v := (I low_1)) (rv_move rfl) ?_
 refine st (v := (I n_0)) (rv_move rfl) ?_
 refine st (v := (B (decide (low_1 ≤ n_0)))) (rv_leq (a := low_1) (b := n_0) rfl rfl) ?_
 refine st (v := (B (decide (low_1 ≤ n_0)))) (rv_move rfl) ?_
 rcases Bool.eq_false_or_eq_true (decide (low_1 ≤ n_0)) with hb1 | hb1
 ·replace h := bif_t hb1 h
  refine st_g (v := (I n_0)) (congrArg some hb1) (rv_move rfl) ?_
  refine st_g (v := (I high_2)) (congrArg some hb1) (rv_move rfl) ?_
  refine st_g (v := (B (decide (n_0 ≤ high_2)))) (congrArg some hb1) (rv_leq (a := n_0) (b := high_2) rfl rfl) ?_
  refine st (v := (B (decide (n_0 ≤ high_2)))) (rv_pick_t (congrArg B hb1) rfl) ?_
  refine st (v := (B (decide (n_0 ≤ high_2)))) (rv_assign rfl) ?_
  refine w_end ?_
  refine q_then ?_
  refine c_ret ?_
  obtain rfl := Option.some.inj h
  exact fin_ret (v := (B (decide (n_0 ≤ high_2)))) (results_ok Try.results55 (res_tmp (v := (B (decide (n_0 ≤ high_2)))) rfl res_nil) rfl) ⟨rfl, rfl⟩ (H.sel' [] rfl rfl)
 ·replace h := bif_f hb1 h
  refine st_skip (congrArg some hb1) ?_
  refine st_skip (congrArg some hb1) ?_
  refine st_skip (congrArg some hb1) ?_
  refine st (v := (B false)) (rv_pick_f (congrArg B hb1) rfl) ?_
  refine st (v := (B false)) (rv_assign rfl) ?_
  refine w_end ?_
  refine q_then ?_
  refine c_ret ?_
  obtain rfl := Option.some.inj h
  exact fin_ret (v := (B false)) (results_ok Try.results55 (res_tmp (v := (B false)) rfl res_nil) rfl) ⟨rfl, rfl⟩ (H.sel' [] rfl rfl)

theorem c_spec_allIn {list_0 : List Int} {low_1 : Int} {high_2 : Int} {alist_0 : Option Addr} {clist_0 : Nat} {r : Bool} (h : M.spec_allIn list_0 low_1 high_2 = some r) :
    Cal2 Try.prog 126 [(Sl alist_0 list_0 clist_0), (I low_1), (I high_2)] [Ch.ro 0 (Sl alist_0 list_0 clist_0) list_0] (fun n0 v L => v = (B r) ∧ L = []) := by
 refine cal2 (n := 22) Try.func126 rfl rfl rfl rfl ?_
 intro S0 σ0 n0 hn0 H
 unfold M.spec_allIn at h
 refine c_seq ?_
 refine rg ?_
 refine st (v := (B false)) (rv_assign rfl) ?_
 refine w_end ?_
 refine q_then ?_
 refine c_seq ?_
 refine c_seq ?_
 refine rg ?_
 refine st (v := (I 0)) (rv_assign rfl) ?_
 refine w_end ?_
 refine q_then ?_
 obtain ⟨o1, hj, h'⟩ := bind_some h
 clear h
 refine c_cut (fun e a w => (∃ t, o1 = (.inl t) ∧ e = .normal ∧ ∃ (ρ : Nat → Value) (σ : St), a = fr 22 (updL ρ []) ∧ w = σ.w ∧ Hp S0 σ0 σ []) ∨ (∃ t, o1 = (.inr t) ∧ e = .ret ∧ ∃ (ρ : Nat → Value) (σ : St), a = fr 22 (updL ρ [(6, (B t))]) ∧ w = σ.w ∧ Hp S0 σ0 σ [])) ?_ ?_
 ·clear h'
  rename _ = some o1 => h
  refine c_blk ?_
  refine wp_loopM _ h (fun s2 a w => ∃ (ρ : Nat → Value) (σ : St), a = fr 22 (updL ρ [(0, (Sl alist_0 list_0 clist_0)), (1, (I low_1)), (2, (I high_2)), (7, (I s2))]) ∧ w = σ.w ∧ Hp S0 σ0 σ [Ch.ro 0 (Sl alist_0 list_0 clist_0) list_0]) ⟨_, σ0, fr_join ⟨rfl, rfl, rfl, rfl, trivial⟩, rfl, H.sel' [0] rfl rfl⟩ ?_
  clear h H
  rintro s2 a w o ⟨ρ, σ3, rfl, rfl, H⟩ h hres
  refine c_seq ?_
  refine c_seq ?_
  refine rg ?_
  refine st (v := (I s2)) (rv_move rfl) ?_
  refine st (v := (Sl alist_0 list_0 clist_0)) (rv_move rfl) ?_
  refine st (v := (I (list_0.length : Int))) (rv_len Try.underlying26 rfl) ?_
  refine st (v := (B (decide (s2 < (list_0.length : Int))))) (rv_lss (a := s2) (b := (list_0.length : Int)) rfl rfl) ?_
  refine w_end ?_
  refine q_then ?_
  refine cd_cond (decide (s2 < (list_0.length : Int))) rfl (fun hb4 => ?_) (fun hb4 => ?_)
  ·replace h := bif_t hb4 h
   refine c_skip ?_
   refine q_then ?_
   refine c_seq ?_
   refine c_blk ?_
   refine c_seq ?_
   refine rg ?_
   refine st (v := (Sl alist_0 list_0 clist_0)) (rv_move rfl) ?_
   refine st (v := (I s2)) (rv_move rfl) ?_
   obtain ⟨x5, hx6, h'⟩ := bind_some h
   clear h
   have h := h'; clear h'
   obtain ⟨b8, o9, hi7, -⟩ := (H.ro 0 rfl).ix hx6
   refine st (v := (pt b8 o9)) (rv_ix Try.underlying26 ti3 rfl rfl hi7) ?_
   have hc10 := ((H.ro 0 rfl).at hx6 hi7).int
   refine st (v := (I x5)) (rv_load1 Try.underlying3 rfl rfl hc10) ?_
   refine st (v := (I low_1)) (rv_move rfl) ?_
   refine st (v := (I high_2)) (rv_move rfl) ?_
   obtain ⟨r11, hx12, h'⟩ := bind_some h
   clear h
   have h := h'; clear h'
   have hc13 := c_spec_inRange hx12
   refine st_call (cx_call hc13 (ent_f hc13.fn rfl) hn0 (show Hp S0 σ0 _ ([] ++ [Ch.ro 0 (Sl alist_0 list_0 clist_0) list_0]) from (H.sel' [0] rfl rfl))) wn ?_
   rintro _ σ14 ⟨_, ⟨rfl, rfl⟩, H, -⟩
   replace H : Hp S0 σ0 σ14 [Ch.ro 0 (Sl alist_0 list_0 clist_0) list_0] := H
   refine st (v := (B (!r11))) (rv_not rfl) ?_
   refine w_end ?_
   refine q_then ?_
   refine cd_cond (!r11) rfl (fun hb15 => ?_) (fun hb15 => ?_)
   ·replace h := bif_t hb15 h
    refine c_seq ?_
    refine rg ?_
    refine st (v := (B false)) (rv_assign rfl) ?_
    refine w_end ?_
    refine q_then ?_
    refine c_ret ?_
    refine q_blk_r ?_
    refine q_then_r ?_
    refine q_then_r ?_
    refine q_blk_r ?_
    obtain rfl := Option.some.inj h
    obtain rfl := hres _ rfl
    exact .inr (⟨_, rfl, rfl, _, σ14, fr_join ⟨rfl, trivial⟩, rfl, H.sel' [] rfl rfl⟩)
   ·replace h := bif_f hb15 h
    refine c_skip ?_
    refine q_blk ?_
    refine q_then ?_
    refine rg ?_
    refine st (v := (I s2)) (rv_move rfl) ?_
    refine st (v := (I (w64 (s2 + 1)))) (rv_add (a := s2) (b := 1) rfl rfl) ?_
    refine st (v := (I (w64 (s2 + 1)))) (rv_assign rfl) ?_
    refine w_end ?_
    refine q_then ?_
    obtain rfl := Option.some.inj h
    exact ⟨_, rfl, _, σ14, fr_join ⟨rfl, rfl, rfl, rfl, trivial⟩, rfl, H.sel' [0] rfl rfl⟩
  ·replace h := bif_f hb4 h
   refine c_exit ?_
   refine q_then_x ?_
   refine q_then_x ?_
   refine q_blk_hit ?_
   obtain rfl := Option.some.inj h
   obtain rfl := hres _ rfl
   exact .inl ⟨_, rfl, rfl, _, σ3, fr_join trivial, rfl, H.sel' [] rfl rfl⟩
 ·clear hj
  have h := h'
  clear h' H
  rintro e a w (⟨t16, rfl, rfl, ρ, σ17, rfl, rfl, H⟩ | ⟨t18, rfl, rfl, ρ, σ19, rfl, rfl, H⟩)
  ·replace h := selim_l h
   refine q_then ?_
   refine c_seq ?_
   refine rg ?_
   refine st (v := (B true)) (rv_assign rfl) ?_
   refine w_end ?_
   refine q_then ?_
   refine c_ret ?_
   obtain rfl := Option.some.inj h
   exact fin_ret (v := (B true)) (results_ok Try.results126 (res_tmp (v := (B true)) rfl res_nil) rfl) ⟨rfl, rfl⟩ (H.sel' [] rfl rfl)
  ·replace h := selim_r h
   refine q_then_r ?_
   obtain rfl := Option.some.inj h
   exact fin_ret (v := (B t18)) (results_ok Try.results126 (res_tmp (v := (B t18)) rfl res_nil) rfl) ⟨rfl, rfl⟩ (H.sel' [] rfl rfl)

theorem c_spec_isVector {v_0 : List Int} {av_0 : Option Addr} {cv_0 : Nat} {r : Bool} (h : M.spec_isVector v_0 = some r) :
    Cal2 Try.prog 115 [(Sl av_0 v_0 cv_0)] [Ch.ro 0 (Sl av_0 v_0 cv_0) v_0] (fun n0 v L => v = (B r) ∧ L = []) := by
 refine cal2 (n := 10) Try.func115 rfl rfl rfl rfl ?_
 intro S0 σ0 n0 hn0 H
 unfold M.spec_isVector at h
 refine c_seq ?_
 refine rg ?_
 refine st (v := (B false)) (rv_assign rfl) ?_
 refine w_end ?_
 refine q_then ?_
 refine c_seq ?_
 refine rg ?_
 refine st (v := (Sl av_0 v_0 cv_0)) (rv_move rfl) ?_
 refine st (v := (I (v_0.length : Int))) (rv_len Try.underlying26 rfl) ?_
 refine st (v := (B ((v_0.length : Int) == 4))) (rv_eql (a := (v_0.length : Int)) (b := 4) rfl rfl) ?_
 refine st (v := (B ((v_0.length : Int) == 4))) (rv_move rfl) ?_
 rcases Bool.eq_false_or_eq_true ((v_0.length : Int) == 4) with hb1 | hb1
 ·replace h := bif_t hb1 h
  refine st_g (v := (Sl av_0 v_0 cv_0)) (congrArg some hb1) (rv_move rfl) ?_
  obtain ⟨r2, hx3, h'⟩ := bind_some h
  clear h
  have h := h'; clear h'
  have hc4 := c_spec_allIn (alist_0 := av_0) (clist_0 := cv_0) hx3
  refine st_call (cx_call hc4 (ent_f hc4.fn rfl) hn0 (show Hp S0 σ0 _ ([Ch.ro 0 (Sl av_0 v_0 cv_0) v_0] ++ [Ch.ro 0 (Sl av_0 v_0 cv_0) v_0]) from (H.sel' [0, 0] rfl rfl))) (wanted_yes rfl (by exact (congrArg some hb1))) ?_
  rintro _ σ5 ⟨_, ⟨rfl, rfl⟩, H, -⟩
  replace H : Hp S0 σ0 σ5 [Ch.ro 0 (Sl av_0 v_0 cv_0) v_0] := H
  refine st (v := (B r2)) (rv_pick_t (congrArg B hb1) rfl) ?_
  refine st (v := (B r2)) (rv_assign rfl) ?_
  refine w_end ?_
  refine q_then ?_
  refine c_ret ?_
  obtain rfl := Option.some.inj h
  exact fin_ret (v := (B r2)) (results_ok Try.results115 (res_tmp (v := (B r2)) rfl res_nil) rfl) ⟨rfl, rfl⟩ (H.sel' [] rfl rfl)
 ·replace h := bif_f hb1 h
  refine st_skip (congrArg some hb1) ?_
  refine st_skip (congrArg some hb1) ?_
  refine st (v := (B false)) (rv_pick_f (congrArg B hb1) rfl) ?_
  refine st (v := (B false)) (rv_assign rfl) ?_
  refine w_end ?_
  refine q_then ?_
  refine c_ret ?_
  obtain rfl := Option.some.inj h
  exact fin_ret (v := (B false)) (results_ok Try.results115 (res_tmp (v := (B false)) rfl res_nil) rfl) ⟨rfl, rfl⟩ (H.sel' [] rfl rfl)

theorem c_spec_validItem {x_0 : Int × (List Int) × Int} {ax_0_1 : Option Addr} {cx_0_1 : Nat} {r : Bool} (h : M.spec_validItem x_0 = some r) :
    Cal2 Try.prog 89 [(.agg #[(I x_0.1), (Sl ax_0_1 x_0.2.1 cx_0_1), (I x_0.2.2)])] [Ch.ro 0 (Sl ax_0_1 x_0.2.1 cx_0_1) x_0.2.1] (fun n0 v L => v = (B r) ∧ L = []) := by
 refine cal2 (n := 16) Try.func89 rfl rfl rfl rfl ?_
 intro S0 σ0 n0 hn0 H
 unfold M.spec_validItem at h
 refine c_seq ?_
 refine rg ?_
 refine st_ex (ex_box (cs := [(I x_0.1), (Sl ax_0_1 x_0.2.1 cx_0_1), (I x_0.2.2)]) H hn0 rfl rfl) wn ?_
 rintro _ σ2 ⟨b1, rfl, H, -⟩
 refine st (v := (B false)) (rv_assign rfl) ?_
 refine w_end ?_
 refine q_then ?_
 refine c_seq ?_
 refine rg ?_
 refine st (v := (pt b1 0)) (rv_fieldAddr (off := 0) (ft := 3) Try.underlying32 rfl ti3 rfl rfl) ?_
 have hc3 := H.cell (u := (I x_0.1)) (o' := 0) 0 0 rfl rfl rfl
 refine st (v := (I x_0.1)) (rv_load1 Try.underlying3 rfl rfl hc3) ?_
 obtain ⟨r4, hx5, h'⟩ := bind_some h
 clear h
 have h := h'; clear h'
 have hc6 := c_spec_inRange hx5
 refine st_call (cx_call hc6 (ent_f hc6.fn rfl) hn0 (show Hp S0 σ0 _ ([] ++ [Ch.bx n0 b1 0 [(I x_0.1), (Sl ax_0_1 x_0.2.1 cx_0_1), (I x_0.2.2)] [] [], Ch.ro 0 (Sl ax_0_1 x_0.2.1 cx_0_1) x_0.2.1]) from (H.sel' [0, 1] rfl rfl))) wn ?_
 rintro _ σ7 ⟨_, ⟨rfl, rfl⟩, H, -⟩
 replace H : Hp S0 σ0 σ7 [Ch.bx n0 b1 0 [(I x_0.1), (Sl ax_0_1 x_0.2.1 cx_0_1), (I x_0.2.2)] [] [], Ch.ro 0 (Sl ax_0_1 x_0.2.1 cx_0_1) x_0.2.1] := H
 refine st (v := (B r4)) (rv_move rfl) ?_
 rcases Bool.eq_false_or_eq_true r4 with hb8 | hb8
 ·replace h := bif_t hb8 h
  refine st_g (v := (pt b1 1)) (congrArg some hb8) (rv_fieldAddr (off := 1) (ft := 26) Try.underlying32 rfl ti26 rfl rfl) ?_
  have hc9 := H.cell (u := (Sl ax_0_1 x_0.2.1 cx_0_1)) (o' := 1) 0 1 rfl rfl rfl
  refine st_g (v := (Sl ax_0_1 x_0.2.1 cx_0_1)) (congrArg some hb8) (rv_load1 Try.underlying26 rfl rfl hc9) ?_
  obtain ⟨r10, hx11, h'⟩ := bind_some h
  clear h
  have h := h'; clear h'
  have hc12 := c_spec_isVector (av_0 := ax_0_1) (cv_0 := cx_0_1) hx11
  refine st_call (cx_call hc12 (ent_f hc12.fn rfl) hn0 (show Hp S0 σ0 _ ([Ch.ro 0 (Sl ax_0_1 x_0.2.1 cx_0_1) x_0.2.1] ++ [Ch.bx n0 b1 0 [(I x_0.1), (Sl ax_0_1 x_0.2.1 cx_0_1), (I x_0.2.2)] [] [], Ch.ro 0 (Sl ax_0_1 x_0.2.1 cx_0_1) x_0.2.1]) from (H.sel' [1, 0, 1] rfl rfl))) (wanted_yes rfl (by exact (congrArg some hb8))) ?_
  rintro _ σ13 ⟨_, ⟨rfl, rfl⟩, H, -⟩
  replace H : Hp S0 σ0 σ13 [Ch.bx n0 b1 0 [(I x_0.1), (Sl ax_0_1 x_0.2.1 cx_0_1), (I x_0.2.2)] [] [], Ch.ro 0 (Sl ax_0_1 x_0.2.1 cx_0_1) x_0.2.1] := H
  refine st (v := (B r10)) (rv_pick_t (congrArg B hb8) rfl) ?_
  refine st (v := (B r10)) (rv_move rfl) ?_
  rcases Bool.eq_false_or_eq_true r10 with hb14 | hb14
  ·replace h := bif_t hb14 h
   refine st_g (v := (pt b1 2)) (congrArg some hb14) (rv_fieldAddr (off := 2) (ft := 3) Try.underlying32 rfl ti3 rfl rfl) ?_
   have hc15 := H.cell (u := (I x_0.2.2)) (o' := 2) 0 2 rfl rfl rfl
   refine st_g (v := (I x_0.2.2)) (congrArg some hb14) (rv_load1 Try.underlying3 rfl rfl hc15) ?_
   obtain ⟨r16, hx17, h'⟩ := bind_some h
   clear h
   have h := h'; clear h'
   have hc18 := c_spec_inRange hx17
   refine st_call (cx_call hc18 (ent_f hc18.fn rfl) hn0 (show Hp S0 σ0 _ ([] ++ [Ch.bx n0 b1 0 [(I x_0.1), (Sl ax_0_1 x_0.2.1 cx_0_1), (I x_0.2.2)] [] [], Ch.ro 0 (Sl ax_0_1 x_0.2.1 cx_0_1) x_0.2.1]) from (H.sel' [0, 1] rfl rfl))) (wanted_yes rfl (by exact (congrArg some hb14))) ?_
   rintro _ σ19 ⟨_, ⟨rfl, rfl⟩, H, -⟩
   replace H : Hp S0 σ0 σ19 [Ch.bx n0 b1 0 [(I x_0.1), (Sl ax_0_1 x_0.2.1 cx_0_1), (I x_0.2.2)] [] [], Ch.ro 0 (Sl ax_0_1 x_0.2.1 cx_0_1) x_0.2.1] := H
   refine st (v := (B r16)) (rv_pick_t (congrArg B hb14) rfl) ?_
   refine st (v := (B r16)) (rv_assign rfl) ?_
   refine w_end ?_
   refine q_then ?_
   refine c_ret ?_
   obtain rfl := Option.some.inj h
   exact fin_ret (v := (B r16)) (results_ok Try.results89 (res_tmp (v := (B r16)) rfl res_nil) rfl) ⟨rfl, rfl⟩ (H.sel' [] rfl rfl)
  ·replace h := bif_f hb14 h
   refine st_skip (congrArg some hb14) ?_
   refine st_skip (congrArg some hb14) ?_
   refine st_skip (congrArg some hb14) ?_
   refine st (v := (B false)) (rv_pick_f (congrArg B hb14) rfl) ?_
   refine st (v := (B false)) (rv_assign rfl) ?_
   refine w_end ?_
   refine q_then ?_
   refine c_ret ?_
   obtain rfl := Option.some.inj h
   exact fin_ret (v := (B false)) (results_ok Try.results89 (res_tmp (v := (B false)) rfl res_nil) rfl) ⟨rfl, rfl⟩ (H.sel' [] rfl rfl)
 ·replace h := bif_f hb8 h
  refine st_skip (congrArg some hb8) ?_
  refine st_skip (congrArg some hb8) ?_
  refine st_skip (congrArg some hb8) ?_
  refine st (v := (B false)) (rv_pick_f (congrArg B hb8) rfl) ?_
  refine st (v := (B false)) (rv_move rfl) ?_
  refine st_skip rfl ?_
  refine st_skip rfl ?_
  refine st_skip rfl ?_
  refine st (v := (B false)) (rv_pick_f rfl rfl) ?_
  refine st (v := (B false)) (rv_assign rfl) ?_
  refine w_end ?_
  refine q_then ?_
  refine c_ret ?_
  obtain rfl := Option.some.inj h
  exact fin_ret (v := (B false)) (results_ok Try.results89 (res_tmp (v := (B false)) rfl res_nil) rfl) ⟨rfl, rfl⟩ (H.sel' [] rfl rfl)

theorem c_spec_validEntry {e_0 : Int × (Int × (List Int) × Int)} {ae_0_1_1 : Option Addr} {ce_0_1_1 : Nat} {r : Bool} (h : M.spec_validEntry e_0 = some r) :
    Cal2 Try.prog 93 [(.agg #[(I e_0.1), (I e_0.2.1), (Sl ae_0_1_1 e_0.2.2.1 ce_0_1_1), (I e_0.2.2.2)])] [Ch.ro 0 (Sl ae_0_1_1 e_0.2.2.1 ce_0_1_1) e_0.2.2.1] (fun n0 v L => v = (B r) ∧ L = []) := by
 refine cal2 (n := 31) Try.func93 rfl rfl rfl rfl ?_
 intro S0 σ0 n0 hn0 H
 unfold M.spec_validEntry at h
 refine c_seq ?_
 refine rg ?_
 refine st_ex (ex_box (cs := [(I e_0.1), (I e_0.2.1), (Sl ae_0_1_1 e_0.2.2.1 ce_0_1_1), (I e_0.2.2.2)]) H hn0 rfl rfl) wn ?_
 rintro _ σ2 ⟨b1, rfl, H, -⟩
 refine st (v := (B false)) (rv_assign rfl) ?_
 refine w_end ?_
 refine q_then ?_
 refine c_seq ?_
 refine c_seq ?_
 refine rg ?_
 refine st (v := (pt b1 0)) (rv_fieldAddr (off := 0) (ft := 3) Try.underlying42 rfl ti3 rfl rfl) ?_
 have hc3 := H.cell (u := (I e_0.1)) (o' := 0) 0 0 rfl rfl rfl
 refine st (v := (I e_0.1)) (rv_load1 Try.underlying3 rfl rfl hc3) ?_
 refine st (v := (B (e_0.1 == 1))) (rv_eql (a := e_0.1) (b := 1) rfl rfl) ?_
 refine w_end ?_
 refine q_then ?_
 refine cd_cond (e_0.1 == 1) rfl (fun hb4 => ?_) (fun hb4 => ?_)
 ·replace h := bif_t hb4 h
  refine c_seq ?_
  refine rg ?_
  refine st (v := (pt b1 1)) (rv_fieldAddr (off := 1) (ft := 32) Try.underlying42 rfl ti32 rfl rfl) ?_
  have hc5 := H.part (us := [(I e_0.2.1), (Sl ae_0_1_1 e_0.2.2.1 ce_0_1_1), (I e_0.2.2.2)]) (o' := 1) 0 1 3 rfl rfl rfl rfl
  refine st (v := (.agg #[(I e_0.2.1), (Sl ae_0_1_1 e_0.2.2.1 ce_0_1_1), (I e_0.2.2.2)])) (rv_load (cs := [(I e_0.2.1), (Sl ae_0_1_1 e_0.2.2.1 ce_0_1_1), (I e_0.2.2.2)]) Try.underlying32 rfl ti32 rfl rfl hc5) ?_
  obtain ⟨r6, hx7, h'⟩ := bind_some h
  clear h
  have h := h'; clear h'
  have hc8 := c_spec_validItem (ax_0_1 := ae_0_1_1) (cx_0_1 := ce_0_1_1) hx7
  refine st_call (cx_call hc8 (ent_f hc8.fn rfl) hn0 (show Hp S0 σ0 _ ([Ch.ro 0 (Sl ae_0_1_1 e_0.2.2.1 ce_0_1_1) e_0.2.2.1] ++ [Ch.bx n0 b1 0 [(I e_0.1), (I e_0.2.1), (Sl ae_0_1_1 e_0.2.2.1 ce_0_1_1), (I e_0.2.2.2)] [] [], Ch.ro 0 (Sl ae_0_1_1 e_0.2.2.1 ce_0_1_1) e_0.2.2.1]) from (H.sel' [1, 0, 1] rfl rfl))) wn ?_
  rintro _ σ9 ⟨_, ⟨rfl, rfl⟩, H, -⟩
  replace H : Hp S0 σ0 σ9 [Ch.bx n0 b1 0 [(I e_0.1), (I e_0.2.1), (Sl ae_0_1_1 e_0.2.2.1 ce_0_1_1), (I e_0.2.2.2)] [] [], Ch.ro 0 (Sl ae_0_1_1 e_0.2.2.1 ce_0_1_1) e_0.2.2.1] := H
  refine st (v := (B r6)) (rv_assign rfl) ?_
  refine w_end ?_
  refine q_then ?_
  refine c_ret ?_
  refine q_then_r ?_
  obtain rfl := Option.some.inj h
  exact fin_ret (v := (B r6)) (results_ok Try.results93 (res_tmp (v := (B r6)) rfl res_nil) rfl) ⟨rfl, rfl⟩ (H.sel' [] rfl rfl)
 ·replace h := bif_f hb4 h
  refine c_skip ?_
  refine q_then ?_
  refine c_seq ?_
  refine rg ?_
  refine st (v := (pt b1 0)) (rv_fieldAddr (off := 0) (ft := 3) Try.underlying42 rfl ti3 rfl rfl) ?_
  have hc10 := H.cell (u := (I e_0.1)) (o' := 0) 0 0 rfl rfl rfl
  refine st (v := (I e_0.1)) (rv_load1 Try.underlying3 rfl rfl hc10) ?_
  refine st (v := (B (e_0.1 == 2))) (rv_eql (a := e_0.1) (b := 2) rfl rfl) ?_
  refine st (v := (B (e_0.1 == 2))) (rv_move rfl) ?_
  rcases Bool.eq_false_or_eq_true (e_0.1 == 2) with hb11 | hb11
  ·replace h := bif_t hb11 h
   refine st_g (v := (pt b1 1)) (congrArg some hb11) (rv_fieldAddr (off := 1) (ft := 32) Try.underlying42 rfl ti32 rfl rfl) ?_
   refine st_g (v := (pt b1 1)) (congrArg some hb11) (rv_fieldAddr (off := 0) (ft := 3) Try.underlying32 rfl ti3 rfl rfl) ?_
   have hc12 := H.cell (u := (I e_0.2.1)) (o' := 1) 0 1 rfl rfl rfl
   refine st_g (v := (I e_0.2.1)) (congrArg some hb11) (rv_load1 Try.underlying3 rfl rfl hc12) ?_
   obtain ⟨r13, hx14, h'⟩ := bind_some h
   clear h
   have h := h'; clear h'
   have hc15 := c_spec_inRange hx14
   refine st_call (cx_call hc15 (ent_f hc15.fn rfl) hn0 (show Hp S0 σ0 _ ([] ++ [Ch.bx n0 b1 0 [(I e_0.1), (I e_0.2.1), (Sl ae_0_1_1 e_0.2.2.1 ce_0_1_1), (I e_0.2.2.2)] [] [], Ch.ro 0 (Sl ae_0_1_1 e_0.2.2.1 ce_0_1_1) e_0.2.2.1]) from (H.sel' [0, 1] rfl rfl))) (wanted_yes rfl (by exact (congrArg some hb11))) ?_
   rintro _ σ16 ⟨_, ⟨rfl, rfl⟩, H, -⟩
   replace H : Hp S0 σ0 σ16 [Ch.bx n0 b1 0 [(I e_0.1), (I e_0.2.1), (Sl ae_0_1_1 e_0.2.2.1 ce_0_1_1), (I e_0.2.2.2)] [] [], Ch.ro 0 (Sl ae_0_1_1 e_0.2.2.1 ce_0_1_1) e_0.2.2.1] := H
   refine st (v := (B r13)) (rv_pick_t (congrArg B hb11) rfl) ?_
   refine st (v := (B r13)) (rv_move rfl) ?_
   rcases Bool.eq_false_or_eq_true r13 with hb17 | hb17
   ·replace h := bif_t hb17 h
    refine st_g (v := (pt b1 1)) (congrArg some hb17) (rv_fieldAddr (off := 1) (ft := 32) Try.underlying42 rfl ti32 rfl rfl) ?_
    refine st_g (v := (pt b1 2)) (congrArg some hb17) (rv_fieldAddr (off := 1) (ft := 26) Try.underlying32 rfl ti26 rfl rfl) ?_
    have hc18 := H.cell (u := (Sl ae_0_1_1 e_0.2.2.1 ce_0_1_1)) (o' := 2) 0 2 rfl rfl rfl
    refine st_g (v := (Sl ae_0_1_1 e_0.2.2.1 ce_0_1_1)) (congrArg some hb17) (rv_load1 Try.underlying26 rfl rfl hc18) ?_
    refine st_g (v := (I (e_0.2.2.1.length : Int))) (congrArg some hb17) (rv_len Try.underlying26 rfl) ?_
    refine st_g (v := (B ((e_0.2.2.1.length : Int) == 0))) (congrArg some hb17) (rv_eql (a := (e_0.2.2.1.length : Int)) (b := 0) rfl rfl) ?_
    refine st (v := (B ((e_0.2.2.1.length : Int) == 0))) (rv_pick_t (congrArg B hb17) rfl) ?_
    refine st (v := (B ((e_0.2.2.1.length : Int) == 0))) (rv_move rfl) ?_
    rcases Bool.eq_false_or_eq_true ((e_0.2.2.1.length : Int) == 0) with hb19 | hb19
    ·replace h := bif_t hb19 h
     refine st_g (v := (pt b1 1)) (congrArg some hb19) (rv_fieldAddr (off := 1) (ft := 32) Try.underlying42 rfl ti32 rfl rfl) ?_
     refine st_g (v := (pt b1 3)) (congrArg some hb19) (rv_fieldAddr (off := 2) (ft := 3) Try.underlying32 rfl ti3 rfl rfl) ?_
     have hc20 := H.cell (u := (I e_0.2.2.2)) (o' := 3) 0 3 rfl rfl rfl
     refine st_g (v := (I e_0.2.2.2)) (congrArg some hb19) (rv_load1 Try.underlying3 rfl rfl hc20) ?_
     refine st_g (v := (B (e_0.2.2.2 == 0))) (congrArg some hb19) (rv_eql (a := e_0.2.2.2) (b := 0) rfl rfl) ?_
     refine st (v := (B (e_0.2.2.2 == 0))) (rv_pick_t (congrArg B hb19) rfl) ?_
     refine st (v := (B (e_0.2.2.2 == 0))) (rv_assign rfl) ?_
     refine w_end ?_
     refine q_then ?_
     refine c_ret ?_
     obtain rfl := Option.some.inj h
     exact fin_ret (v := (B (e_0.2.2.2 == 0))) (results_ok Try.results93 (res_tmp (v := (B (e_0.2.2.2 == 0))) rfl res_nil) rfl) ⟨rfl, rfl⟩ (H.sel' [] rfl rfl)
    ·replace h := bif_f hb19 h
     refine st_skip (congrArg some hb19) ?_
     refine st_skip (congrArg some hb19) ?_
     refine st_skip (congrArg some hb19) ?_
     refine st_skip (congrArg some hb19) ?_
     refine st (v := (B false)) (rv_pick_f (congrArg B hb19) rfl) ?_
     refine st (v := (B false)) (rv_assign rfl) ?_
     refine w_end ?_
     refine q_then ?_
     refine c_ret ?_
     obtain rfl := Option.some.inj h
     exact fin_ret (v := (B false)) (results_ok Try.results93 (res_tmp (v := (B false)) rfl res_nil) rfl) ⟨rfl, rfl⟩ (H.sel' [] rfl rfl)
   ·replace h := bif_f hb17 h
    refine st_skip (congrArg some hb17) ?_
    refine st_skip (congrArg some hb17) ?_
    refine st_skip (congrArg some hb17) ?_
    refine st_skip (congrArg some hb17) ?_
    refine st_skip (congrArg some hb17) ?_
    refine st (v := (B false)) (rv_pick_f (congrArg B hb17) rfl) ?_
    refine st (v := (B false)) (rv_move rfl) ?_
    refine st_skip rfl ?_
    refine st_skip rfl ?_
    refine st_skip rfl ?_
    refine st_skip rfl ?_
    refine st (v := (B false)) (rv_pick_f rfl rfl) ?_
    refine st (v := (B false)) (rv_assign rfl) ?_
    refine w_end ?_
    refine q_then ?_
    refine c_ret ?_
    obtain rfl := Option.some.inj h
    exact fin_ret (v := (B false)) (results_ok Try.results93 (res_tmp (v := (B false)) rfl res_nil) rfl) ⟨rfl, rfl⟩ (H.sel' [] rfl rfl)
  ·replace h := bif_f hb11 h
   refine st_skip (congrArg some hb11) ?_
   refine st_skip (congrArg some hb11) ?_
   refine st_skip (congrArg some hb11) ?_
   refine st_skip (congrArg some hb11) ?_
   refine st (v := (B false)) (rv_pick_f (congrArg B hb11) rfl) ?_
   refine st (v := (B false)) (rv_move rfl) ?_
   refine st_skip rfl ?_
   refine st_skip rfl ?_
   refine st_skip rfl ?_
   refine st_skip rfl ?_
   refine st_skip rfl ?_
   refine st (v := (B false)) (rv_pick_f rfl rfl) ?_
   refine st (v := (B false)) (rv_move rfl) ?_
   refine st_skip rfl ?_
   refine st_skip rfl ?_
   refine st_skip rfl ?_
   refine st_skip rfl ?_
   refine st (v := (B false)) (rv_pick_f rfl rfl) ?_
   refine st (v := (B false)) (rv_assign rfl) ?_
   refine w_end ?_
   refine q_then ?_
   refine c_ret ?_
   obtain rfl := Option.some.inj h
   exact fin_ret (v := (B false)) (results_ok Try.results93 (res_tmp (v := (B false)) rfl res_nil) rfl) ⟨rfl, rfl⟩ (H.sel' [] rfl rfl)

theorem c_spec_validLog {list_0 : List (Int × (Int × (List Int) × Int))} {alist_0 : Option Addr} {clist_0 : Nat} {r : Bool} (h : M.spec_validLog list_0 = some r) :
    Cal2 Try.prog 63 [(Sl alist_0 list_0 clist_0)] [Ch.ro 0 (Sl alist_0 list_0 clist_0) list_0] (fun n0 v L => v = (B r) ∧ L = []) := by
 refine cal2 (n := 19) Try.func63 rfl rfl rfl rfl ?_
 intro S0 σ0 n0 hn0 H
 unfold M.spec_validLog at h
 refine c_seq ?_
 refine rg ?_
 refine st (v := (B false)) (rv_assign rfl) ?_
 refine w_end ?_
 refine q_then ?_
 refine c_seq ?_
 refine c_seq ?_
 refine rg ?_
 refine st (v := (I 0)) (rv_assign rfl) ?_
 refine w_end ?_
 refine q_then ?_
 obtain ⟨o1, hj, h'⟩ := bind_some h
 clear h
 refine c_cut (fun e a w => (∃ t, o1 = (.inl t) ∧ e = .normal ∧ ∃ (ρ : Nat → Value) (σ : St), a = fr 19 (updL ρ [(0, (Sl alist_0 list_0 clist_0))]) ∧ w = σ.w ∧ Hp S0 σ0 σ [Ch.ro 0 (Sl alist_0 list_0 clist_0) list_0]) ∨ (∃ t, o1 = (.inr t) ∧ e = .ret ∧ ∃ (ρ : Nat → Value) (σ : St), a = fr 19 (updL ρ [(2, (B t))]) ∧ w = σ.w ∧ Hp S0 σ0 σ [])) ?_ ?_
 ·clear h'
  rename _ = some o1 => h
  refine c_blk ?_
  refine wp_loopM _ h (fun s2 a w => ∃ (ρ : Nat → Value) (σ : St), a = fr 19 (updL ρ [(0, (Sl alist_0 list_0 clist_0)), (3, (I s2))]) ∧ w = σ.w ∧ Hp S0 σ0 σ [Ch.ro 0 (Sl alist_0 list_0 clist_0) list_0]) ⟨_, σ0, fr_join ⟨rfl, rfl, trivial⟩, rfl, H.sel' [0] rfl rfl⟩ ?_
  clear h H
  rintro s2 a w o ⟨ρ, σ3, rfl, rfl, H⟩ h hres
  refine c_seq ?_
  refine c_seq ?_
  refine rg ?_
  refine st (v := (I s2)) (rv_move rfl) ?_
  refine st (v := (Sl alist_0 list_0 clist_0)) (rv_move rfl) ?_
  refine st (v := (I (list_0.length : Int))) (rv_len Try.underlying35 rfl) ?_
  refine st (v := (B (decide (s2 < (list_0.length : Int))))) (rv_lss (a := s2) (b := (list_0.length : Int)) rfl rfl) ?_
  refine w_end ?_
  refine q_then ?_
  refine cd_cond (decide (s2 < (list_0.length : Int))) rfl (fun hb4 => ?_) (fun hb4 => ?_)
  ·replace h := bif_t hb4 h
   refine c_skip ?_
   refine q_then ?_
   refine c_seq ?_
   refine c_blk ?_
   refine c_seq ?_
   refine rg ?_
   refine st (v := (Sl alist_0 list_0 clist_0)) (rv_move rfl) ?_
   refine st (v := (I s2)) (rv_move rfl) ?_
   obtain ⟨x5, hx6, h'⟩ := bind_some h
   clear h
   have h := h'; clear h'
   obtain ⟨b8, o9, hi7, -⟩ := (H.ro 0 rfl).ix hx6
   refine st (v := (pt b8 o9)) (rv_ix Try.underlying35 ti42 rfl rfl hi7) ?_
   obtain ⟨_, ⟨_, _, rfl, rfl, ⟨_, _, rfl, rfl, ⟨_, _, rfl, ⟨_, rfl, hR14⟩, rfl⟩⟩⟩, hl10, hc11⟩ := ((H.ro 0 rfl).at hx6 hi7).cells
   obtain ⟨a12, c13, rfl⟩ := hR14.isSl
   replace H := H.add (d := Ch.ro 0 (Sl a12 x5.2.2.1 c13) x5.2.2.1) hR14 (fun _ h => h)
   clear hR14
   refine st (v := (.agg #[(I x5.1), (I x5.2.1), (Sl a12 x5.2.2.1 c13), (I x5.2.2.2)])) (rv_load Try.underlying42 rfl ti42 rfl hl10 hc11) ?_
   obtain ⟨r15, hx16, h'⟩ := bind_some h
   clear h
   have h := h'; clear h'
   have hc17 := c_spec_validEntry (ae_0_1_1 := a12) (ce_0_1_1 := c13) hx16
   refine st_call (cx_call hc17 (ent_f hc17.fn rfl) hn0 (show Hp S0 σ0 _ ([Ch.ro 0 (Sl a12 x5.2.2.1 c13) x5.2.2.1] ++ [Ch.ro 0 (Sl a12 x5.2.2.1 c13) x5.2.2.1, Ch.ro 0 (Sl alist_0 list_0 clist_0) list_0]) from (H.sel' [0, 0, 1] rfl rfl))) wn ?_
   rintro _ σ18 ⟨_, ⟨rfl, rfl⟩, H, -⟩
   replace H : Hp S0 σ0 σ18 [Ch.ro 0 (Sl a12 x5.2.2.1 c13) x5.2.2.1, Ch.ro 0 (Sl alist_0 list_0 clist_0) list_0] := H
   refine st (v := (B (!r15))) (rv_not rfl) ?_
   refine w_end ?_
   refine q_then ?_
   refine cd_cond (!r15) rfl (fun hb19 => ?_) (fun hb19 => ?_)
   ·replace h := bif_t hb19 h
    refine c_seq ?_
    refine rg ?_
    refine st (v := (B false)) (rv_assign rfl) ?_
    refine w_end ?_
    refine q_then ?_
    refine c_ret ?_
    refine q_blk_r ?_
    refine q_then_r ?_
    refine q_then_r ?_
    refine q_blk_r ?_
    obtain rfl := Option.some.inj h
    obtain rfl := hres _ rfl
    exact .inr (⟨_, rfl, rfl, _, σ18, fr_join ⟨rfl, trivial⟩, rfl, H.sel' [] rfl rfl⟩)
   ·replace h := bif_f hb19 h
    refine c_skip ?_
    refine q_blk ?_
    refine q_then ?_
    refine rg ?_
    refine st (v := (I s2)) (rv_move rfl) ?_
    refine st (v := (I (w64 (s2 + 1)))) (rv_add (a := s2) (b := 1) rfl rfl) ?_
    refine st (v := (I (w64 (s2 + 1)))) (rv_assign rfl) ?_
    refine w_end ?_
    refine q_then ?_
    obtain rfl := Option.some.inj h
    exact ⟨_, rfl, _, σ18, fr_join ⟨rfl, rfl, trivial⟩, rfl, H.sel' [1] rfl rfl⟩
  ·replace h := bif_f hb4 h
   refine c_exit ?_
   refine q_then_x ?_
   refine q_then_x ?_
   refine q_blk_hit ?_
   obtain rfl := Option.some.inj h
   obtain rfl := hres _ rfl
   exact .inl ⟨_, rfl, rfl, _, σ3, fr_join ⟨rfl, trivial⟩, rfl, H.sel' [0] rfl rfl⟩
 ·clear hj
  have h := h'
  clear h' H
  rintro e a w (⟨t20, rfl, rfl, ρ, σ21, rfl, rfl, H⟩ | ⟨t22, rfl, rfl, ρ, σ23, rfl, rfl, H⟩)
  ·replace h := selim_l h
   refine q_then ?_
   refine c_seq ?_
   refine rg ?_
   refine st (v := (Sl alist_0 list_0 clist_0)) (rv_move rfl) ?_
   refine st (v := (I (list_0.length : Int))) (rv_len Try.underlying35 rfl) ?_
   refine st (v := (B (decide ((list_0.length : Int) ≤ 32)))) (rv_leq (a := (list_0.length : Int)) (b := 32) rfl rfl) ?_
   refine st (v := (B (decide ((list_0.length : Int) ≤ 32)))) (rv_assign rfl) ?_
   refine w_end ?_
   refine q_then ?_
   refine c_ret ?_
   obtain rfl := Option.some.inj h
   exact fin_ret (v := (B (decide ((list_0.length : Int) ≤ 32)))) (results_ok Try.results63 (res_tmp (v := (B (decide ((list_0.length : Int) ≤ 32)))) rfl res_nil) rfl) ⟨rfl, rfl⟩ (H.sel' [] rfl rfl)
  ·replace h := selim_r h
   refine q_then_r ?_
   obtain rfl := Option.some.inj h
   exact fin_ret (v := (B t22)) (results_ok Try.results63 (res_tmp (v := (B t22)) rfl res_nil) rfl) ⟨rfl, rfl⟩ (H.sel' [] rfl rfl)

theorem c_spec_ValidLog {list_0 : List (Int × (Int × (List Int) × Int))} {alist_0 : Option Addr} {clist_0 : Nat} {r : Bool} (h : M.spec_ValidLog list_0 = some r) :
    Cal2 Try.prog 34 [(Sl alist_0 list_0 clist_0)] [Ch.ro 0 (Sl alist_0 list_0 clist_0) list_0] (fun n0 v L => v = (B r) ∧ L = []) := by
 refine cal2 (n := 5) Try.func34 rfl rfl rfl rfl ?_
 intro S0 σ0 n0 hn0 H
 unfold M.spec_ValidLog at h
 refine c_seq ?_
 refine rg ?_
 refine st (v := (B false)) (rv_assign rfl) ?_
 refine w_end ?_
 refine q_then ?_
 refine c_seq ?_
 refine rg ?_
 refine st (v := (Sl alist_0 list_0 clist_0)) (rv_move rfl) ?_
 obtain ⟨r1, hx2, h'⟩ := bind_some h
 clear h
 have h := h'; clear h'
 have hc3 := c_spec_validLog (alist_0 := alist_0) (clist_0 := clist_0) hx2
 refine st_call (cx_call hc3 (ent_f hc3.fn rfl) hn0 (show Hp S0 σ0 _ ([Ch.ro 0 (Sl alist_0 list_0 clist_0) list_0] ++ [Ch.ro 0 (Sl alist_0 list_0 clist_0) list_0]) from (H.sel' [0, 0] rfl rfl))) wn ?_
 rintro _ σ4 ⟨_, ⟨rfl, rfl⟩, H, -⟩
 replace H : Hp S0 σ0 σ4 [Ch.ro 0 (Sl alist_0 list_0 clist_0) list_0] := H
 refine st (v := (B r1)) (rv_assign rfl) ?_
 refine w_end ?_
 refine q_then ?_
 refine c_ret ?_
 obtain rfl := Option.some.inj h
 exact fin_ret (v := (B r1)) (results_ok Try.results34 (res_tmp (v := (B r1)) rfl res_nil) rfl) ⟨rfl, rfl⟩ (H.sel' [] rfl rfl)

theorem c_laws_toIntS {a_0 : List Int} {aa_0 : Option Addr} {ca_0 : Nat} {r : (List Int)} (h : M.laws_toIntS a_0 = some r) :
    Cal2 Try.prog 108 [(Sl aa_0 a_0 ca_0)] [Ch.ro 0 (Sl aa_0 a_0 ca_0) a_0] (fun n0 v L => ∃ (az1 : Option Addr), ∃ (cz2 : Nat), v = (Sl az1 r cz2) ∧ L = [Ch.own n0 n0 (Sl az1 r cz2) r] ∧ cz2 = r.length) := by
 refine cal2 (n := 22) Try.func108 rfl rfl rfl rfl ?_
 intro S0 σ0 n0 hn0 H
 unfold M.laws_toIntS at h
 refine c_seq ?_
 refine rg ?_
 refine st (v := (.slice none 0 0)) (rv_assign rfl) ?_
 refine w_end ?_
 refine q_then ?_
 refine c_seq ?_
 refine rg ?_
 refine st (v := (Sl aa_0 a_0 ca_0)) (rv_move rfl) ?_
 refine st (v := (I (a_0.length : Int))) (rv_len Try.underlying26 rfl) ?_
 obtain ⟨xs1, hx2, h'⟩ := bind_some h
 clear h
 have h := h'; clear h'
 refine st_ex (ex_make (el := n0) (z0 := (0 : Int)) (zs := [(I 0)]) H hn0 Try.underlying26 ti3 rfl rfl rfl (by decide) hx2 rfl rfl) wn ?_
 rintro _ σ6 ⟨b3, c4, rfl, ht5, H, -⟩
 replace ht5 := ht5.trans (gmake_len hx2).symm
 refine st (v := (Sl (some ⟨b3, 0, none⟩) xs1 c4)) (rv_assign rfl) ?_
 refine w_end ?_
 refine q_then ?_
 refine c_seq ?_
 refine c_seq ?_
 refine rg ?_
 refine st (v := (I 0)) (rv_assign rfl) ?_
 refine w_end ?_
 refine q_then ?_
 obtain ⟨o7, hj, h'⟩ := bind_some h
 clear h
 refine c_cut (fun e a w => e = .normal ∧ ∃ (ρ : Nat → Value) (σ : St), a = fr 22 (updL ρ [(3, (Sl (some ⟨b3, 0, none⟩) o7 c4))]) ∧ w = σ.w ∧ Hp S0 σ0 σ [Ch.own n0 n0 (Sl (some ⟨b3, 0, none⟩) o7 c4) o7] ∧ c4 = o7.length ∧ o7.length = xs1.length) ?_ ?_
 ·clear h'
  rename _ = some o7 => h
  refine c_blk ?_
  refine wp_loopM _ h (fun s8 a w => ∃ (ρ : Nat → Value) (σ : St), a = fr 22 (updL ρ [(0, (Sl aa_0 a_0 ca_0)), (3, (Sl (some ⟨b3, 0, none⟩) s8.1 c4)), (4, (I s8.2))]) ∧ w = σ.w ∧ Hp S0 σ0 σ [Ch.ro 0 (Sl aa_0 a_0 ca_0) a_0, Ch.own n0 n0 (Sl (some ⟨b3, 0, none⟩) s8.1 c4) s8.1] ∧ c4 = s8.1.length ∧ s8.1.length = xs1.length) ⟨_, σ6, fr_join ⟨rfl, rfl, rfl, trivial⟩, rfl, H.sel' [1, 0] rfl rfl, ht5, rfl⟩ ?_
  clear h H
  rintro s8 a w o ⟨ρ, σ9, rfl, rfl, H, ht10, hn11⟩ h hres
  refine c_seq ?_
  refine c_seq ?_
  refine rg ?_
  refine st (v := (I s8.2)) (rv_move rfl) ?_
  refine st (v := (Sl aa_0 a_0 ca_0)) (rv_move rfl) ?_
  refine st (v := (I (a_0.length : Int))) (rv_len Try.underlying26 rfl) ?_
  refine st (v := (B (decide (s8.2 < (a_0.length : Int))))) (rv_lss (a := s8.2) (b := (a_0.length : Int)) rfl rfl) ?_
  refine w_end ?_
  refine q_then ?_
  refine cd_cond (decide (s8.2 < (a_0.length : Int))) rfl (fun hb12 => ?_) (fun hb12 => ?_)
  ·replace h := bif_t hb12 h
   refine c_skip ?_
   refine q_then ?_
   refine c_seq ?_
   refine c_blk ?_
   refine rg ?_
   refine st (v := (Sl (some ⟨b3, 0, none⟩) s8.1 c4)) (rv_move rfl) ?_
   refine st (v := (I s8.2)) (rv_move rfl) ?_
   refine st (v := (Sl aa_0 a_0 ca_0)) (rv_move rfl) ?_
   refine st (v := (I s8.2)) (rv_move rfl) ?_
   obtain ⟨x13, hx14, h'⟩ := bind_some h
   clear h
   have h := h'; clear h'
   obtain ⟨b16, o17, hi15, -⟩ := (H.ro 0 rfl).ix hx14
   refine st (v := (pt b16 o17)) (rv_ix Try.underlying26 ti3 rfl rfl hi15) ?_
   have hc18 := ((H.ro 0 rfl).at hx14 hi15).int
   refine st (v := (I x13)) (rv_load1 Try.underlying3 rfl rfl hc18) ?_
   obtain ⟨x19, hx20, h'⟩ := bind_some h
   clear h
   have h := h'; clear h'
   obtain ⟨b22, o23, hi21, -⟩ := (H.own 1 rfl).ix hx20
   refine st (v := (pt b22 o23)) (rv_ix Try.underlying26 ti3 rfl rfl hi21) ?_
   refine st_exS (ex_store_own (e' := x13) (vs := [(I x13)]) (k := 0) H (i := 1) rfl ti3 hx20 hi21 rfl rfl rfl rfl rfl (Nat.le_of_ble_eq_true rfl) (by simp [plain]) (by rintro _ rfl; exact rfl)) wn ?_
   rintro σ24 ⟨H, -⟩
   have hsl : (Sl (some ⟨b3, 0, none⟩) s8.1 c4) = (Sl (some ⟨b3, 0, none⟩) (s8.1.set s8.2.toNat x13) c4) := sl_len List.length_set.symm
   rw [hsl]; rw [hsl] at H; clear hsl
   refine w_end ?_
   refine q_blk ?_
   refine q_then ?_
   refine rg ?_
   refine st (v := (I s8.2)) (rv_move rfl) ?_
   refine st (v := (I (w64 (s8.2 + 1)))) (rv_add (a := s8.2) (b := 1) rfl rfl) ?_
   refine st (v := (I (w64 (s8.2 + 1)))) (rv_assign rfl) ?_
   refine w_end ?_
   refine q_then ?_
   obtain rfl := Option.some.inj h
   exact ⟨_, rfl, _, σ24, fr_join ⟨rfl, rfl, rfl, trivial⟩, rfl, H.sel' [1, 0] rfl rfl, (ht10.trans List.length_set.symm), (List.length_set.trans hn11)⟩
  ·replace h := bif_f hb12 h
   refine c_exit ?_
   refine q_then_x ?_
   refine q_then_x ?_
   refine q_blk_hit ?_
   obtain rfl := Option.some.inj h
   obtain rfl := hres _ rfl
   exact ⟨rfl, _, σ9, fr_join ⟨rfl, trivial⟩, rfl, H.sel' [1] rfl rfl, ht10, hn11⟩
 ·clear hj
  have h := h'
  clear h' H
  rintro e a w ⟨rfl, ρ, σ25, rfl, rfl, H, ht26, hn27⟩
  refine q_then ?_
  refine c_seq ?_
  refine rg ?_
  refine st (v := (Sl (some ⟨b3, 0, none⟩) o7 c4)) (rv_move rfl) ?_
  refine st (v := (Sl (some ⟨b3, 0, none⟩) o7 c4)) (rv_assign rfl) ?_
  refine w_end ?_
  refine q_then ?_
  refine c_ret ?_
  obtain rfl := Option.some.inj h
  exact fin_ret (v := (Sl (some ⟨b3, 0, none⟩) o7 c4)) (results_ok Try.results108 (res_tmp (v := (Sl (some ⟨b3, 0, none⟩) o7 c4)) rfl res_nil) rfl) ⟨(some ⟨b3, 0, none⟩), c4, rfl, rfl, ht26⟩ (H.sel' [0] rfl rfl)

theorem c_laws_toItem {a_0 : Int × (List Int) × Int} {aa_0_1 : Option Addr} {ca_0_1 : Nat} {r : (Int × (List Int) × Int)} (h : M.laws_toItem a_0 = some r) :
    Cal2 Try.prog 80 [(.agg #[(I a_0.1), (Sl aa_0_1 a_0.2.1 ca_0_1), (I a_0.2.2)])] [Ch.ro 0 (Sl aa_0_1 a_0.2.1 ca_0_1) a_0.2.1] (fun n0 v L => ∃ (az1 : Option Addr), ∃ (cz2 : Nat), v = (.agg #[(I r.1), (Sl az1 r.2.1 cz2), (I r.2.2)]) ∧ L = [Ch.own n0 n0 (Sl az1 r.2.1 cz2) r.2.1] ∧ cz2 = r.2.1.length) := by
 refine cal2 (n := 15) Try.func80 rfl rfl rfl rfl ?_
 intro S0 σ0 n0 hn0 H
 unfold M.laws_toItem at h
 refine c_seq ?_
 refine rg ?_
 refine st_ex (ex_box (cs := [(I a_0.1), (Sl aa_0_1 a_0.2.1 ca_0_1), (I a_0.2.2)]) H hn0 rfl rfl) wn ?_
 rintro _ σ2 ⟨b1, rfl, H, -⟩
 refine st_ex (ex_alloc (cs := [(I 0), (.slice none 0 0), (I 0)]) H hn0 ti32 rfl) wn ?_
 rintro _ σ4 ⟨b3, rfl, H, -⟩
 refine w_end ?_
 refine q_then ?_
 refine c_seq ?_
 refine rg ?_
 refine st_ex (ex_alloc (cs := [(I 0), (.slice none 0 0), (I 0)]) H hn0 ti32 rfl) wn ?_
 rintro _ σ6 ⟨b5, rfl, H, -⟩
 refine w_end ?_
 refine q_then ?_
 refine c_seq ?_
 refine rg ?_
 refine st (v := (pt b1 0)) (rv_fieldAddr (off := 0) (ft := 3) Try.underlying98 rfl ti3 rfl rfl) ?_
 have hc7 := H.cell (u := (I a_0.1)) (o' := 0) 2 0 rfl rfl rfl
 refine st (v := (I a_0.1)) (rv_load1 Try.underlying3 rfl rfl hc7) ?_
 refine st (v := (pt b5 0)) (rv_fieldAddr (off := 0) (ft := 3) Try.underlying32 rfl ti3 rfl rfl) ?_
 refine st_exS (ex_store_box (k := 0) (cs := [(I 0), (.slice none 0 0), (I 0)]) (vs := [(I a_0.1)]) (cs' := [(I a_0.1), (.slice none 0 0), (I 0)]) H (i := 0) rfl ti3 rfl rfl rfl rfl rfl (Nat.le_of_ble_eq_true rfl) (by simp [plain]) rfl) wn ?_
 rintro σ8 ⟨H, -⟩
 refine w_end ?_
 refine q_then ?_
 refine c_seq ?_
 refine rg ?_
 refine st (v := (pt b1 1)) (rv_fieldAddr (off := 1) (ft := 26) Try.underlying98 rfl ti26 rfl rfl) ?_
 have hc9 := H.cell (u := (Sl aa_0_1 a_0.2.1 ca_0_1)) (o' := 1) 2 1 rfl rfl rfl
 refine st (v := (Sl aa_0_1 a_0.2.1 ca_0_1)) (rv_load1 Try.underlying26 rfl rfl hc9) ?_
 obtain ⟨r10, hx11, h'⟩ := bind_some h
 clear h
 have h := h'; clear h'
 have hc12 := c_laws_toIntS (aa_0 := aa_0_1) (ca_0 := ca_0_1) hx11
 refine st_call (cx_call hc12 (ent_f hc12.fn rfl) hn0 (show Hp S0 σ0 _ ([Ch.ro 0 (Sl aa_0_1 a_0.2.1 ca_0_1) a_0.2.1] ++ [Ch.bx n0 b5 0 [(I a_0.1), (.slice none 0 0), (I 0)] [] [], Ch.bx n0 b3 0 [(I 0), (.slice none 0 0), (I 0)] [] [], Ch.bx n0 b1 0 [(I a_0.1), (Sl aa_0_1 a_0.2.1 ca_0_1), (I a_0.2.2)] [] [], Ch.ro 0 (Sl aa_0_1 a_0.2.1 ca_0_1) a_0.2.1]) from (H.sel' [3, 0, 1, 2, 3] rfl rfl))) wn ?_
 rintro _ σ16 ⟨_, ⟨a13, c14, rfl, rfl, ht15⟩, H, -⟩
 replace H : Hp S0 σ0 σ16 [Ch.own n0 n0 (Sl a13 r10 c14) r10, Ch.bx n0 b5 0 [(I a_0.1), (.slice none 0 0), (I 0)] [] [], Ch.bx n0 b3 0 [(I 0), (.slice none 0 0), (I 0)] [] [], Ch.bx n0 b1 0 [(I a_0.1), (Sl aa_0_1 a_0.2.1 ca_0_1), (I a_0.2.2)] [] [], Ch.ro 0 (Sl aa_0_1 a_0.2.1 ca_0_1) a_0.2.1] := H
 refine st (v := (pt b5 1)) (rv_fieldAddr (off := 1) (ft := 26) Try.underlying32 rfl ti26 rfl rfl) ?_
 refine st_exS (ex_store_box (k := 1) (cs := [(I a_0.1), (.slice none 0 0), (I 0)]) (vs := [(Sl a13 r10 c14)]) (cs' := [(I a_0.1), (Sl a13 r10 c14), (I 0)]) H (i := 1) rfl ti26 rfl rfl rfl rfl rfl (Nat.le_of_ble_eq_true rfl) (by simp [plain]) rfl) wn ?_
 rintro σ17 ⟨H, -⟩
 refine w_end ?_
 refine q_then ?_
 refine c_seq ?_
 refine rg ?_
 refine st (v := (pt b1 2)) (rv_fieldAddr (off := 2) (ft := 3) Try.underlying98 rfl ti3 rfl rfl) ?_
 have hc18 := H.cell (u := (I a_0.2.2)) (o' := 2) 3 2 rfl rfl rfl
 refine st (v := (I a_0.2.2)) (rv_load1 Try.underlying3 rfl rfl hc18) ?_
 refine st (v := (pt b5 2)) (rv_fieldAddr (off := 2) (ft := 3) Try.underlying32 rfl ti3 rfl rfl) ?_
 refine st_exS (ex_store_box (k := 2) (cs := [(I a_0.1), (Sl a13 r10 c14), (I 0)]) (vs := [(I a_0.2.2)]) (cs' := [(I a_0.1), (Sl a13 r10 c14), (I a_0.2.2)]) H (i := 0) rfl ti3 rfl rfl rfl rfl rfl (Nat.le_of_ble_eq_true rfl) (by simp [plain]) rfl) wn ?_
 rintro σ19 ⟨H, -⟩
 refine w_end ?_
 refine q_then ?_
 refine c_seq ?_
 refine rg ?_
 have hc20 := H.cells 0 rfl
 refine st (v := (.agg #[(I a_0.1), (Sl a13 r10 c14), (I a_0.2.2)])) (rv_load (cs := [(I a_0.1), (Sl a13 r10 c14), (I a_0.2.2)]) Try.underlying32 rfl ti32 rfl rfl hc20) ?_
 refine st_exS (ex_store_box (k := 0) (cs := [(I 0), (.slice none 0 0), (I 0)]) (vs := [(I a_0.1), (Sl a13 r10 c14), (I a_0.2.2)]) (cs' := [(I a_0.1), (Sl a13 r10 c14), (I a_0.2.2)]) H (i := 2) rfl ti32 rfl rfl rfl rfl rfl (Nat.le_of_ble_eq_true rfl) (by simp [plain]) rfl) wn ?_
 rintro σ21 ⟨H, -⟩
 refine w_end ?_
 refine q_then ?_
 refine c_ret ?_
 obtain rfl := Option.some.inj h
 exact fin_ret (v := (.agg #[(I a_0.1), (Sl a13 r10 c14), (I a_0.2.2)])) (results_ok Try.results80 (res_cell rfl (run_cellRes (cs := [(I a_0.1), (Sl a13 r10 c14), (I a_0.2.2)]) Try.underlying32 rfl ti32 rfl (H.cells 0 rfl)) res_nil) rfl) ⟨a13, c14, rfl, rfl, ht15⟩ (H.sel' [2] rfl rfl)

theorem c_laws_toEntry {a_0 : Int × (Int × (List Int) × Int)} {aa_0_1_1 : Option Addr} {ca_0_1_1 : Nat} {r : (Int × (Int × (List Int) × Int))} (h : M.laws_toEntry a_0 = some r) :
    Cal2 Try.prog 77 [(.agg #[(I a_0.1), (I a_0.2.1), (Sl aa_0_1_1 a_0.2.2.1 ca_0_1_1), (I a_0.2.2.2)])] [Ch.ro 0 (Sl aa_0_1_1 a_0.2.2.1 ca_0_1_1) a_0.2.2.1] (fun n0 v L => ∃ (az1 : Option Addr), ∃ (cz2 : Nat), v = (.agg #[(I r.1), (I r.2.1), (Sl az1 r.2.2.1 cz2), (I r.2.2.2)]) ∧ L = [Ch.own n0 n0 (Sl az1 r.2.2.1 cz2) r.2.2.1] ∧ cz2 = r.2.2.1.length) := by
 refine cal2 (n := 12) Try.func77 rfl rfl rfl rfl ?_
 intro S0 σ0 n0 hn0 H
 unfold M.laws_toEntry at h
 refine c_seq ?_
 refine rg ?_
 refine st_ex (ex_box (cs := [(I a_0.1), (I a_0.2.1), (Sl aa_0_1_1 a_0.2.2.1 ca_0_1_1), (I a_0.2.2.2)]) H hn0 rfl rfl) wn ?_
 rintro _ σ2 ⟨b1, rfl, H, -⟩
 refine st_ex (ex_alloc (cs := [(I 0), (I 0), (.slice none 0 0), (I 0)]) H hn0 ti42 rfl) wn ?_
 rintro _ σ4 ⟨b3, rfl, H, -⟩
 refine w_end ?_
 refine q_then ?_
 refine c_seq ?_
 refine rg ?_
 refine st_ex (ex_alloc (cs := [(I 0), (I 0), (.slice none 0 0), (I 0)]) H hn0 ti42 rfl) wn ?_
 rintro _ σ6 ⟨b5, rfl, H, -⟩
 refine w_end ?_
 refine q_then ?_
 refine c_seq ?_
 refine rg ?_
 refine st (v := (pt b1 0)) (rv_fieldAddr (off := 0) (ft := 3) Try.underlying100 rfl ti3 rfl rfl) ?_
 have hc7 := H.cell (u := (I a_0.1)) (o' := 0) 2 0 rfl rfl rfl
 refine st (v := (I a_0.1)) (rv_load1 Try.underlying3 rfl rfl hc7) ?_
 refine st (v := (pt b5 0)) (rv_fieldAddr (off := 0) (ft := 3) Try.underlying42 rfl ti3 rfl rfl) ?_
 refine st_exS (ex_store_box (k := 0) (cs := [(I 0), (I 0), (.slice none 0 0), (I 0)]) (vs := [(I a_0.1)]) (cs' := [(I a_0.1), (I 0), (.slice none 0 0), (I 0)]) H (i := 0) rfl ti3 rfl rfl rfl rfl rfl (Nat.le_of_ble_eq_true rfl) (by simp [plain]) rfl) wn ?_
 rintro σ8 ⟨H, -⟩
 refine w_end ?_
 refine q_then ?_
 refine c_seq ?_
 refine rg ?_
 refine st (v := (pt b1 1)) (rv_fieldAddr (off := 1) (ft := 98) Try.underlying100 rfl ti98 rfl rfl) ?_
 have hc9 := H.part (us := [(I a_0.2.1), (Sl aa_0_1_1 a_0.2.2.1 ca_0_1_1), (I a_0.2.2.2)]) (o' := 1) 2 1 3 rfl rfl rfl rfl
 refine st (v := (.agg #[(I a_0.2.1), (Sl aa_0_1_1 a_0.2.2.1 ca_0_1_1), (I a_0.2.2.2)])) (rv_load (cs := [(I a_0.2.1), (Sl aa_0_1_1 a_0.2.2.1 ca_0_1_1), (I a_0.2.2.2)]) Try.underlying98 rfl ti98 rfl rfl hc9) ?_
 obtain ⟨r10, hx11, h'⟩ := bind_some h
 clear h
 have h := h'; clear h'
 have hc12 := c_laws_toItem (aa_0_1 := aa_0_1_1) (ca_0_1 := ca_0_1_1) hx11
 refine st_call (cx_call hc12 (ent_f hc12.fn rfl) hn0 (show Hp S0 σ0 _ ([Ch.ro 0 (Sl aa_0_1_1 a_0.2.2.1 ca_0_1_1) a_0.2.2.1] ++ [Ch.bx n0 b5 0 [(I a_0.1), (I 0), (.slice none 0 0), (I 0)] [] [], Ch.bx n0 b3 0 [(I 0), (I 0), (.slice none 0 0), (I 0)] [] [], Ch.bx n0 b1 0 [(I a_0.1), (I a_0.2.1), (Sl aa_0_1_1 a_0.2.2.1 ca_0_1_1), (I a_0.2.2.2)] [] [], Ch.ro 0 (Sl aa_0_1_1 a_0.2.2.1 ca_0_1_1) a_0.2.2.1]) from (H.sel' [3, 0, 1, 2, 3] rfl rfl))) wn ?_
 rintro _ σ16 ⟨_, ⟨a13, c14, rfl, rfl, ht15⟩, H, -⟩
 replace H : Hp S0 σ0 σ16 [Ch.own n0 n0 (Sl a13 r10.2.1 c14) r10.2.1, Ch.bx n0 b5 0 [(I a_0.1), (I 0), (.slice none 0 0), (I 0)] [] [], Ch.bx n0 b3 0 [(I 0), (I 0), (.slice none 0 0), (I 0)] [] [], Ch.bx n0 b1 0 [(I a_0.1), (I a_0.2.1), (Sl aa_0_1_1 a_0.2.2.1 ca_0_1_1), (I a_0.2.2.2)] [] [], Ch.ro 0 (Sl aa_0_1_1 a_0.2.2.1 ca_0_1_1) a_0.2.2.1] := H
 refine st (v := (pt b5 1)) (rv_fieldAddr (off := 1) (ft := 32) Try.underlying42 rfl ti32 rfl rfl) ?_
 refine st_exS (ex_store_box (k := 1) (cs := [(I a_0.1), (I 0), (.slice none 0 0), (I 0)]) (vs := [(I r10.1), (Sl a13 r10.2.1 c14), (I r10.2.2)]) (cs' := [(I a_0.1), (I r10.1), (Sl a13 r10.2.1 c14), (I r10.2.2)]) H (i := 1) rfl ti32 rfl rfl rfl rfl rfl (Nat.le_of_ble_eq_true rfl) (by simp [plain]) rfl) wn ?_
 rintro σ17 ⟨H, -⟩
 refine w_end ?_
 refine q_then ?_
 refine c_seq ?_
 refine rg ?_
 have hc18 := H.cells 0 rfl
 refine st (v := (.agg #[(I a_0.1), (I r10.1), (Sl a13 r10.2.1 c14), (I r10.2.2)])) (rv_load (cs := [(I a_0.1), (I r10.1), (Sl a13 r10.2.1 c14), (I r10.2.2)]) Try.underlying42 rfl ti42 rfl rfl hc18) ?_
 refine st_exS (ex_store_box (k := 0) (cs := [(I 0), (I 0), (.slice none 0 0), (I 0)]) (vs := [(I a_0.1), (I r10.1), (Sl a13 r10.2.1 c14), (I r10.2.2)]) (cs' := [(I a_0.1), (I r10.1), (Sl a13 r10.2.1 c14), (I r10.2.2)]) H (i := 2) rfl ti42 rfl rfl rfl rfl rfl (Nat.le_of_ble_eq_true rfl) (by simp [plain]) rfl) wn ?_
 rintro σ19 ⟨H, -⟩
 refine w_end ?_
 refine q_then ?_
 refine c_ret ?_
 obtain rfl := Option.some.inj h
 exact fin_ret (v := (.agg #[(I a_0.1), (I r10.1), (Sl a13 r10.2.1 c14), (I r10.2.2)])) (results_ok Try.results77 (res_cell rfl (run_cellRes (cs := [(I a_0.1), (I r10.1), (Sl a13 r10.2.1 c14), (I r10.2.2)]) Try.underlying42 rfl ti42 rfl (H.cells 0 rfl)) res_nil) rfl) ⟨a13, c14, rfl, rfl, ht15⟩ (H.sel' [2] rfl rfl)

theorem c_laws_toEntryS {a_0 : List (Int × (Int × (List Int) × Int))} {aa_0 : Option Addr} {ca_0 : Nat} {r : (List (Int × (Int × (List Int) × Int)))} (h : M.laws_toEntryS a_0 = some r) :
    Cal2 Try.prog 35 [(Sl aa_0 a_0 ca_0)] [Ch.ro 0 (Sl aa_0 a_0 ca_0) a_0] (fun n0 v L => ∃ (az1 : Option Addr), ∃ (cz2 : Nat), v = (Sl az1 r cz2) ∧ L = [Ch.own n0 n0 (Sl az1 r cz2) r] ∧ cz2 = r.length) := by
 refine cal2 (n := 23) Try.func35 rfl rfl rfl rfl ?_
 intro S0 σ0 n0 hn0 H
 unfold M.laws_toEntryS at h
 refine c_seq ?_
 refine rg ?_
 refine st (v := (.slice none 0 0)) (rv_assign rfl) ?_
 refine w_end ?_
 refine q_then ?_
 refine c_seq ?_
 refine rg ?_
 refine st (v := (Sl aa_0 a_0 ca_0)) (rv_move rfl) ?_
 refine st (v := (I (a_0.length : Int))) (rv_len Try.underlying53 rfl) ?_
 obtain ⟨xs1, hx2, h'⟩ := bind_some h
 clear h
 have h := h'; clear h'
 refine st_ex (ex_make (el := n0) (z0 := ((0, (0, [], 0)) : Int × (Int × (List Int) × Int))) (zs := [(I 0), (I 0), (.slice none 0 0), (I 0)]) H hn0 Try.underlying35 ti42 rfl rfl (⟨[(I 0)], [(I 0), (.slice none 0 0), (I 0)], rfl, rfl, ⟨[(I 0)], [(.slice none 0 0), (I 0)], rfl, rfl, ⟨[(.slice none 0 0)], [(I 0)], rfl, ⟨_, rfl, RS.nil⟩, rfl⟩⟩⟩) (by decide) hx2 rfl rfl) wn ?_
 rintro _ σ6 ⟨b3, c4, rfl, ht5, H, -⟩
 replace ht5 := ht5.trans (gmake_len hx2).symm
 refine st (v := (Sl (some ⟨b3, 0, none⟩) xs1 c4)) (rv_assign rfl) ?_
 refine w_end ?_
 refine q_then ?_
 refine c_seq ?_
 refine c_seq ?_
 refine rg ?_
 refine st (v := (I 0)) (rv_assign rfl) ?_
 refine w_end ?_
 refine q_then ?_
 obtain ⟨o7, hj, h'⟩ := bind_some h
 clear h
 refine c_cut (fun e a w => e = .normal ∧ ∃ (ρ : Nat → Value) (σ : St), a = fr 23 (updL ρ [(3, (Sl (some ⟨b3, 0, none⟩) o7 c4))]) ∧ w = σ.w ∧ Hp S0 σ0 σ [Ch.own n0 n0 (Sl (some ⟨b3, 0, none⟩) o7 c4) o7] ∧ c4 = o7.length ∧ o7.length = xs1.length) ?_ ?_
 ·clear h'
  rename _ = some o7 => h
  refine c_blk ?_
  refine wp_loopM _ h (fun s8 a w => ∃ (ρ : Nat → Value) (σ : St), a = fr 23 (updL ρ [(0, (Sl aa_0 a_0 ca_0)), (3, (Sl (some ⟨b3, 0, none⟩) s8.1 c4)), (4, (I s8.2))]) ∧ w = σ.w ∧ Hp S0 σ0 σ [Ch.ro 0 (Sl aa_0 a_0 ca_0) a_0, Ch.own n0 n0 (Sl (some ⟨b3, 0, none⟩) s8.1 c4) s8.1] ∧ c4 = s8.1.length ∧ s8.1.length = xs1.length) ⟨_, σ6, fr_join ⟨rfl, rfl, rfl, trivial⟩, rfl, H.sel' [1, 0] rfl rfl, ht5, rfl⟩ ?_
  clear h H
  rintro s8 a w o ⟨ρ, σ9, rfl, rfl, H, ht10, hn11⟩ h hres
  refine c_seq ?_
  refine c_seq ?_
  refine rg ?_
  refine st (v := (I s8.2)) (rv_move rfl) ?_
  refine st (v := (Sl aa_0 a_0 ca_0)) (rv_move rfl) ?_
  refine st (v := (I (a_0.length : Int))) (rv_len Try.underlying53 rfl) ?_
  refine st (v := (B (decide (s8.2 < (a_0.length : Int))))) (rv_lss (a := s8.2) (b := (a_0.length : Int)) rfl rfl) ?_
  refine w_end ?_
  refine q_then ?_
  refine cd_cond (decide (s8.2 < (a_0.length : Int))) rfl (fun hb12 => ?_) (fun hb12 => ?_)
  ·replace h := bif_t hb12 h
   refine c_skip ?_
   refine q_then ?_
   refine c_seq ?_
   refine c_blk ?_
   refine rg ?_
   refine st (v := (Sl (some ⟨b3, 0, none⟩) s8.1 c4)) (rv_move rfl) ?_
   refine st (v := (I s8.2)) (rv_move rfl) ?_
   refine st (v := (Sl aa_0 a_0 ca_0)) (rv_move rfl) ?_
   refine st (v := (I s8.2)) (rv_move rfl) ?_
   obtain ⟨x13, hx14, h'⟩ := bind_some h
   clear h
   have h := h'; clear h'
   obtain ⟨b16, o17, hi15, -⟩ := (H.ro 0 rfl).ix hx14
   refine st (v := (pt b16 o17)) (rv_ix Try.underlying53 ti100 rfl rfl hi15) ?_
   obtain ⟨_, ⟨_, _, rfl, rfl, ⟨_, _, rfl, rfl, ⟨_, _, rfl, ⟨_, rfl, hR22⟩, rfl⟩⟩⟩, hl18, hc19⟩ := ((H.ro 0 rfl).at hx14 hi15).cells
   obtain ⟨a20, c21, rfl⟩ := hR22.isSl
   replace H := H.add (d := Ch.ro 0 (Sl a20 x13.2.2.1 c21) x13.2.2.1) hR22 (fun _ h => h)
   clear hR22
   refine st (v := (.agg #[(I x13.1), (I x13.2.1), (Sl a20 x13.2.2.1 c21), (I x13.2.2.2)])) (rv_load Try.underlying100 rfl ti100 rfl hl18 hc19) ?_
   obtain ⟨r23, hx24, h'⟩ := bind_some h
   clear h
   have h := h'; clear h'
   have hc25 := c_laws_toEntry (aa_0_1_1 := a20) (ca_0_1_1 := c21) hx24
   refine st_call (cx_call hc25 (ent_f hc25.fn rfl) hn0 (show Hp S0 σ0 _ ([Ch.ro 0 (Sl a20 x13.2.2.1 c21) x13.2.2.1] ++ [Ch.ro 0 (Sl a20 x13.2.2.1 c21) x13.2.2.1, Ch.ro 0 (Sl aa_0 a_0 ca_0) a_0, Ch.own n0 n0 (Sl (some ⟨b3, 0, none⟩) s8.1 c4) s8.1]) from (H.sel' [0, 0, 1, 2] rfl rfl))) wn ?_
   rintro _ σ29 ⟨_, ⟨a26, c27, rfl, rfl, ht28⟩, H, -⟩
   replace H : Hp S0 σ0 σ29 [Ch.own n0 n0 (Sl a26 r23.2.2.1 c27) r23.2.2.1, Ch.ro 0 (Sl a20 x13.2.2.1 c21) x13.2.2.1, Ch.ro 0 (Sl aa_0 a_0 ca_0) a_0, Ch.own n0 n0 (Sl (some ⟨b3, 0, none⟩) s8.1 c4) s8.1] := H
   obtain ⟨x30, hx31, h'⟩ := bind_some h
   clear h
   have h := h'; clear h'
   obtain ⟨b33, o34, hi32, -⟩ := (H.own 3 rfl).ix hx31
   refine st (v := (pt b33 o34)) (rv_ix Try.underlying35 ti42 rfl rfl hi32) ?_
   obtain ⟨σ35, hw36, H, -⟩ := H.pub 0 rfl (Nat.le_refl _)
   rw [← hw36]; clear hw36
   refine st_exS (ex_store_own (e' := (r23.1, (r23.2.1, r23.2.2.1, r23.2.2.2))) (vs := [(I r23.1), (I r23.2.1), (Sl a26 r23.2.2.1 c27), (I r23.2.2.2)]) (k := 0) H (i := 3) rfl ti42 hx31 hi32 rfl rfl rfl rfl rfl (Nat.le_of_ble_eq_true rfl) (by simp [plain]) (by rintro _ ⟨_, _, rfl, rfl, ⟨_, _, rfl, rfl, ⟨_, _, rfl, ⟨_, rfl, hR39⟩, rfl⟩⟩⟩; exact ⟨[(I r23.1)], [(I r23.2.1), (Sl a26 r23.2.2.1 c27), (I r23.2.2.2)], rfl, rfl, ⟨[(I r23.2.1)], [(Sl a26 r23.2.2.1 c27), (I r23.2.2.2)], rfl, rfl, ⟨[(Sl a26 r23.2.2.1 c27)], [(I r23.2.2.2)], rfl, ⟨_, rfl, (H.ro 0 rfl)⟩, rfl⟩⟩⟩)) wn ?_
   rintro σ40 ⟨H, -⟩
   have hsl : (Sl (some ⟨b3, 0, none⟩) s8.1 c4) = (Sl (some ⟨b3, 0, none⟩) (s8.1.set s8.2.toNat (r23.1, (r23.2.1, r23.2.2.1, r23.2.2.2))) c4) := sl_len List.length_set.symm
   rw [hsl]; rw [hsl] at H; clear hsl
   refine w_end ?_
   refine q_blk ?_
   refine q_then ?_
   refine rg ?_
   refine st (v := (I s8.2)) (rv_move rfl) ?_
   refine st (v := (I (w64 (s8.2 + 1)))) (rv_add (a := s8.2) (b := 1) rfl rfl) ?_
   refine st (v := (I (w64 (s8.2 + 1)))) (rv_assign rfl) ?_
   refine w_end ?_
   refine q_then ?_
   obtain rfl := Option.some.inj h
   exact ⟨_, rfl, _, σ40, fr_join ⟨rfl, rfl, rfl, trivial⟩, rfl, H.sel' [3, 0] rfl rfl, (ht10.trans List.length_set.symm), (List.length_set.trans hn11)⟩
  ·replace h := bif_f hb12 h
   refine c_exit ?_
   refine q_then_x ?_
   refine q_then_x ?_
   refine q_blk_hit ?_
   obtain rfl := Option.some.inj h
   obtain rfl := hres _ rfl
   exact ⟨rfl, _, σ9, fr_join ⟨rfl, trivial⟩, rfl, H.sel' [1] rfl rfl, ht10, hn11⟩
 ·clear hj
  have h := h'
  clear h' H
  rintro e a w ⟨rfl, ρ, σ41, rfl, rfl, H, ht42, hn43⟩
  refine q_then ?_
  refine c_seq ?_
  refine rg ?_
  refine st (v := (Sl (some ⟨b3, 0, none⟩) o7 c4)) (rv_move rfl) ?_
  refine st (v := (Sl (some ⟨b3, 0, none⟩) o7 c4)) (rv_assign rfl) ?_
  refine w_end ?_
  refine q_then ?_
  refine c_ret ?_
  obtain rfl := Option.some.inj h
  exact fin_ret (v := (Sl (some ⟨b3, 0, none⟩) o7 c4)) (results_ok Try.results35 (res_tmp (v := (Sl (some ⟨b3, 0, none⟩) o7 c4)) rfl res_nil) rfl) ⟨(some ⟨b3, 0, none⟩), c4, rfl, rfl, ht42⟩ (H.sel' [0] rfl rfl)

theorem c_impl_validKey {key_0 : Int}  {r : Bool} (h : M.impl_validKey key_0 = some r) :
    Cal2 Try.prog 59 [(I key_0)] [] (fun n0 v L => v = (B r) ∧ L = []) := by
 refine cal2 (n := 9) Try.func59 rfl rfl rfl rfl ?_
 intro S0 σ0 n0 hn0 H
 unfold M.impl_validKey at h
 refine c_seq ?_
 refine rg ?_
 refine st (v := (B false)) (rv_assign rfl) ?_
 refine w_end ?_
 refine q_then ?_
 refine c_seq ?_
 refine rg ?_
 refine st (v := (I key_0)) (rv_move rfl) ?_
 refine st (v := (B (decide (1 ≤ key_0)))) (rv_geq (a := key_0) (b := 1) rfl rfl) ?_
 refine st (v := (B (decide (1 ≤ key_0)))) (rv_move rfl) ?_
 rcases Bool.eq_false_or_eq_true (decide (1 ≤ key_0)) with hb1 | hb1
 ·replace h := bif_t hb1 h
  refine st_g (v := (I key_0)) (congrArg some hb1) (rv_move rfl) ?_
  refine st_g (v := (B (decide (key_0 ≤ 99)))) (congrArg some hb1) (rv_leq (a := key_0) (b := 99) rfl rfl) ?_
  refine st (v := (B (decide (key_0 ≤ 99)))) (rv_pick_t (congrArg B hb1) rfl) ?_
  refine st (v := (B (decide (key_0 ≤ 99)))) (rv_assign rfl) ?_
  refine w_end ?_
  refine q_then ?_
  refine c_ret ?_
  obtain rfl := Option.some.inj h
  exact fin_ret (v := (B (decide (key_0 ≤ 99)))) (results_ok Try.results59 (res_tmp (v := (B (decide (key_0 ≤ 99)))) rfl res_nil) rfl) ⟨rfl, rfl⟩ (H.sel' [] rfl rfl)
 ·replace h := bif_f hb1 h
  refine st_skip (congrArg some hb1) ?_
  refine st_skip (congrArg some hb1) ?_
  refine st (v := (B false)) (rv_pick_f (congrArg B hb1) rfl) ?_
  refine st (v := (B false)) (rv_assign rfl) ?_
  refine w_end ?_
  refine q_then ?_
  refine c_ret ?_
  obtain rfl := Option.some.inj h
  exact fin_ret (v := (B false)) (results_ok Try.results59 (res_tmp (v := (B false)) rfl res_nil) rfl) ⟨rfl, rfl⟩ (H.sel' [] rfl rfl)

theorem c_impl_validCoords {coords_0 : List Int} {acoords_0 : Option Addr} {ccoords_0 : Nat} {r : Bool} (h : M.impl_validCoords coords_0 = some r) :
    Cal2 Try.prog 119 [(Sl acoords_0 coords_0 ccoords_0)] [Ch.ro 0 (Sl acoords_0 coords_0 ccoords_0) coords_0] (fun n0 v L => v = (B r) ∧ L = []) := by
 refine cal2 (n := 18) Try.func119 rfl rfl rfl rfl ?_
 intro S0 σ0 n0 hn0 H
 unfold M.impl_validCoords at h
 refine c_seq ?_
 refine rg ?_
 refine st (v := (B false)) (rv_assign rfl) ?_
 refine w_end ?_
 refine q_then ?_
 refine c_seq ?_
 refine c_seq ?_
 refine rg ?_
 refine st (v := (Sl acoords_0 coords_0 ccoords_0)) (rv_move rfl) ?_
 refine st (v := (I (coords_0.length : Int))) (rv_len Try.underlying26 rfl) ?_
 refine st (v := (I 0)) (rv_move rfl) ?_
 refine w_end ?_
 refine q_then ?_
 obtain ⟨o1, hj, h'⟩ := bind_some h
 clear h
 refine c_cut (fun e a w => (∃ t, o1 = (.inl t) ∧ e = .normal ∧ ∃ (ρ : Nat → Value) (σ : St), a = fr 18 (updL ρ []) ∧ w = σ.w ∧ Hp S0 σ0 σ []) ∨ (∃ t, o1 = (.inr t) ∧ e = .ret ∧ ∃ (ρ : Nat → Value) (σ : St), a = fr 18 (updL ρ [(2, (B t))]) ∧ w = σ.w ∧ Hp S0 σ0 σ [])) ?_ ?_
 ·clear h'
  rename _ = some o1 => h
  refine c_blk ?_
  refine wp_loopM _ h (fun s2 a w => ∃ (ρ : Nat → Value) (σ : St), a = fr 18 (updL ρ [(5, (Sl acoords_0 coords_0 ccoords_0)), (6, (I (coords_0.length : Int))), (7, (I s2))]) ∧ w = σ.w ∧ Hp S0 σ0 σ [Ch.ro 0 (Sl acoords_0 coords_0 ccoords_0) coords_0]) ⟨_, σ0, fr_join ⟨rfl, rfl, rfl, trivial⟩, rfl, H.sel' [0] rfl rfl⟩ ?_
  clear h H
  rintro s2 a w o ⟨ρ, σ3, rfl, rfl, H⟩ h hres
  refine c_seq ?_
  refine rg ?_
  refine st (v := (B (decide (s2 < (coords_0.length : Int))))) (rv_lss (a := s2) (b := (coords_0.length : Int)) rfl rfl) ?_
  refine w_end ?_
  refine q_then ?_
  refine c_seq ?_
  refine cd_cond (decide (s2 < (coords_0.length : Int))) rfl (fun hb4 => ?_) (fun hb4 => ?_)
  ·replace h := bif_t hb4 h
   refine c_skip ?_
   refine q_then ?_
   refine c_seq ?_
   refine c_blk ?_
   refine c_seq ?_
   refine rg ?_
   obtain ⟨x5, hx6, h'⟩ := bind_some h
   clear h
   have h := h'; clear h'
   obtain ⟨b8, o9, hi7, -⟩ := (H.ro 0 rfl).ix hx6
   refine st (v := (pt b8 o9)) (rv_ix Try.underlying26 ti3 rfl rfl hi7) ?_
   have hc10 := ((H.ro 0 rfl).at hx6 hi7).int
   refine st (v := (I x5)) (rv_load1 Try.underlying3 rfl rfl hc10) ?_
   refine st (v := (I x5)) (rv_assign rfl) ?_
   refine w_end ?_
   refine q_then ?_
   refine c_seq ?_
   obtain ⟨o11, hj, h'⟩ := bind_some h
   clear h
   refine c_cut (fun e a w => e = .normal ∧ ∃ (ρ : Nat → Value) (σ : St), a = fr 18 (updL ρ [(5, (Sl acoords_0 coords_0 ccoords_0)), (6, (I (coords_0.length : Int))), (7, (I s2)), (16, (B o11))]) ∧ w = σ.w ∧ Hp S0 σ0 σ [Ch.ro 0 (Sl acoords_0 coords_0 ccoords_0) coords_0]) ?_ ?_
   ·clear h'
    rename _ = some o11 => h
    refine rg ?_
    refine st (v := (I x5)) (rv_move rfl) ?_
    refine st (v := (B (decide (x5 < (-100))))) (rv_lss (a := x5) (b := (-100)) rfl rfl) ?_
    refine st (v := (B (decide (x5 < (-100))))) (rv_move rfl) ?_
    rcases Bool.eq_false_or_eq_true (decide (x5 < (-100))) with hb12 | hb12
    ·replace h := bif_t hb12 h
     refine st_skip (congrArg some hb12) ?_
     refine st_skip (congrArg some hb12) ?_
     refine st (v := (B true)) (rv_pick_t (congrArg B hb12) rfl) ?_
     refine w_end ?_
     obtain rfl := Option.some.inj h
     exact ⟨rfl, _, σ3, fr_join ⟨rfl, rfl, rfl, rfl, trivial⟩, rfl, H.sel' [0] rfl rfl⟩
    ·replace h := bif_f hb12 h
     refine st_g (v := (I x5)) (congrArg some hb12) (rv_move rfl) ?_
     refine st_g (v := (B (decide (100 < x5)))) (congrArg some hb12) (rv_gtr (a := x5) (b := 100) rfl rfl) ?_
     refine st (v := (B (decide (100 < x5)))) (rv_pick_f (congrArg B hb12) rfl) ?_
     refine w_end ?_
     obtain rfl := Option.some.inj h
     exact ⟨rfl, _, σ3, fr_join ⟨rfl, rfl, rfl, rfl, trivial⟩, rfl, H.sel' [0] rfl rfl⟩
   ·clear hj
    have h := h'
    clear h' H
    rintro e a w ⟨rfl, ρ, σ13, rfl, rfl, H⟩
    refine q_then ?_
    refine cd_cond o11 rfl (fun hb14 => ?_) (fun hb14 => ?_)
    ·replace h := bif_t hb14 h
     refine c_seq ?_
     refine rg ?_
     refine st (v := (B false)) (rv_assign rfl) ?_
     refine w_end ?_
     refine q_then ?_
     refine c_ret ?_
     refine q_blk_r ?_
     refine q_then_r ?_
     refine q_then_r ?_
     refine q_blk_r ?_
     obtain rfl := Option.some.inj h
     obtain rfl := hres _ rfl
     exact .inr (⟨_, rfl, rfl, _, σ13, fr_join ⟨rfl, trivial⟩, rfl, H.sel' [] rfl rfl⟩)
    ·replace h := bif_f hb14 h
     refine c_skip ?_
     refine q_blk ?_
     refine q_then ?_
     refine rg ?_
     refine st (v := (I (w64 (s2 + 1)))) (rv_add (a := s2) (b := 1) rfl rfl) ?_
     refine st (v := (I (w64 (s2 + 1)))) (rv_move rfl) ?_
     refine w_end ?_
     refine q_then ?_
     obtain rfl := Option.some.inj h
     exact ⟨_, rfl, _, σ13, fr_join ⟨rfl, rfl, rfl, trivial⟩, rfl, H.sel' [0] rfl rfl⟩
  ·replace h := bif_f hb4 h
   refine c_exit ?_
   refine q_then_x ?_
   refine q_then_x ?_
   refine q_blk_hit ?_
   obtain rfl := Option.some.inj h
   obtain rfl := hres _ rfl
   exact .inl ⟨_, rfl, rfl, _, σ3, fr_join trivial, rfl, H.sel' [] rfl rfl⟩
 ·clear hj
  have h := h'
  clear h' H
  rintro e a w (⟨t15, rfl, rfl, ρ, σ16, rfl, rfl, H⟩ | ⟨t17, rfl, rfl, ρ, σ18, rfl, rfl, H⟩)
  ·replace h := selim_l h
   refine q_then ?_
   refine c_seq ?_
   refine rg ?_
   refine st (v := (B true)) (rv_assign rfl) ?_
   refine w_end ?_
   refine q_then ?_
   refine c_ret ?_
   obtain rfl := Option.some.inj h
   exact fin_ret (v := (B true)) (results_ok Try.results119 (res_tmp (v := (B true)) rfl res_nil) rfl) ⟨rfl, rfl⟩ (H.sel' [] rfl rfl)
  ·replace h := selim_r h
   refine q_then_r ?_
   obtain rfl := Option.some.inj h
   exact fin_ret (v := (B t17)) (results_ok Try.results119 (res_tmp (v := (B t17)) rfl res_nil) rfl) ⟨rfl, rfl⟩ (H.sel' [] rfl rfl)

theorem c_impl_ValidVector {v_0 : List Int} {av_0 : Option Addr} {cv_0 : Nat} {r : Bool} (h : M.impl_ValidVector v_0 = some r) :
    Cal2 Try.prog 100 [(Sl av_0 v_0 cv_0)] [Ch.ro 0 (Sl av_0 v_0 cv_0) v_0] (fun n0 v L => v = (B r) ∧ L = []) := by
 refine cal2 (n := 10) Try.func100 rfl rfl rfl rfl ?_
 intro S0 σ0 n0 hn0 H
 unfold M.impl_ValidVector at h
 refine c_seq ?_
 refine rg ?_
 refine st (v := (B false)) (rv_assign rfl) ?_
 refine w_end ?_
 refine q_then ?_
 refine c_seq ?_
 refine rg ?_
 refine st (v := (Sl av_0 v_0 cv_0)) (rv_move rfl) ?_
 refine st (v := (I (v_0.length : Int))) (rv_len Try.underlying26 rfl) ?_
 refine st (v := (B ((v_0.length : Int) == 4))) (rv_eql (a := (v_0.length : Int)) (b := 4) rfl rfl) ?_
 refine st (v := (B ((v_0.length : Int) == 4))) (rv_move rfl) ?_
 rcases Bool.eq_false_or_eq_true ((v_0.length : Int) == 4) with hb1 | hb1
 ·replace h := bif_t hb1 h
  refine st_g (v := (Sl av_0 v_0 cv_0)) (congrArg some hb1) (rv_move rfl) ?_
  obtain ⟨r2, hx3, h'⟩ := bind_some h
  clear h
  have h := h'; clear h'
  have hc4 := c_impl_validCoords (acoords_0 := av_0) (ccoords_0 := cv_0) hx3
  refine st_call (cx_call hc4 (ent_f hc4.fn rfl) hn0 (show Hp S0 σ0 _ ([Ch.ro 0 (Sl av_0 v_0 cv_0) v_0] ++ [Ch.ro 0 (Sl av_0 v_0 cv_0) v_0]) from (H.sel' [0, 0] rfl rfl))) (wanted_yes rfl (by exact (congrArg some hb1))) ?_
  rintro _ σ5 ⟨_, ⟨rfl, rfl⟩, H, -⟩
  replace H : Hp S0 σ0 σ5 [Ch.ro 0 (Sl av_0 v_0 cv_0) v_0] := H
  refine st (v := (B r2)) (rv_pick_t (congrArg B hb1) rfl) ?_
  refine st (v := (B r2)) (rv_assign rfl) ?_
  refine w_end ?_
  refine q_then ?_
  refine c_ret ?_
  obtain rfl := Option.some.inj h
  exact fin_ret (v := (B r2)) (results_ok Try.results100 (res_tmp (v := (B r2)) rfl res_nil) rfl) ⟨rfl, rfl⟩ (H.sel' [] rfl rfl)
 ·replace h := bif_f hb1 h
  refine st_skip (congrArg some hb1) ?_
  refine st_skip (congrArg some hb1) ?_
  refine st (v := (B false)) (rv_pick_f (congrArg B hb1) rfl) ?_
  refine st (v := (B false)) (rv_assign rfl) ?_
  refine w_end ?_
  refine q_then ?_
  refine c_ret ?_
  obtain rfl := Option.some.inj h
  exact fin_ret (v := (B false)) (results_ok Try.results100 (res_tmp (v := (B false)) rfl res_nil) rfl) ⟨rfl, rfl⟩ (H.sel' [] rfl rfl)

theorem c_impl_validTags {tags_0 : Int}  {r : Bool} (h : M.impl_validTags tags_0 = some r) :
    Cal2 Try.prog 101 [(I tags_0)] [] (fun n0 v L => v = (B r) ∧ L = []) := by
 refine cal2 (n := 9) Try.func101 rfl rfl rfl rfl ?_
 intro S0 σ0 n0 hn0 H
 unfold M.impl_validTags at h
 refine c_seq ?_
 refine rg ?_
 refine st (v := (B false)) (rv_assign rfl) ?_
 refine w_end ?_
 refine q_then ?_
 refine c_seq ?_
 refine rg ?_
 refine st (v := (I tags_0)) (rv_move rfl) ?_
 refine st (v := (B (decide (0 ≤ tags_0)))) (rv_geq (a := tags_0) (b := 0) rfl rfl) ?_
 refine st (v := (B (decide (0 ≤ tags_0)))) (rv_move rfl) ?_
 rcases Bool.eq_false_or_eq_true (decide (0 ≤ tags_0)) with hb1 | hb1
 ·replace h := bif_t hb1 h
  refine st_g (v := (I tags_0)) (congrArg some hb1) (rv_move rfl) ?_
  refine st_g (v := (B (decide (tags_0 ≤ 15)))) (congrArg some hb1) (rv_leq (a := tags_0) (b := 15) rfl rfl) ?_
  refine st (v := (B (decide (tags_0 ≤ 15)))) (rv_pick_t (congrArg B hb1) rfl) ?_
  refine st (v := (B (decide (tags_0 ≤ 15)))) (rv_assign rfl) ?_
  refine w_end ?_
  refine q_then ?_
  refine c_ret ?_
  obtain rfl := Option.some.inj h
  exact fin_ret (v := (B (decide (tags_0 ≤ 15)))) (results_ok Try.results101 (res_tmp (v := (B (decide (tags_0 ≤ 15)))) rfl res_nil) rfl) ⟨rfl, rfl⟩ (H.sel' [] rfl rfl)
 ·replace h := bif_f hb1 h
  refine st_skip (congrArg some hb1) ?_
  refine st_skip (congrArg some hb1) ?_
  refine st (v := (B false)) (rv_pick_f (congrArg B hb1) rfl) ?_
  refine st (v := (B false)) (rv_assign rfl) ?_
  refine w_end ?_
  refine q_then ?_
  refine c_ret ?_
  obtain rfl := Option.some.inj h
  exact fin_ret (v := (B false)) (results_ok Try.results101 (res_tmp (v := (B false)) rfl res_nil) rfl) ⟨rfl, rfl⟩ (H.sel' [] rfl rfl)

theorem c_impl_validItem {x_0 : Int × (List Int) × Int} {ax_0_1 : Option Addr} {cx_0_1 : Nat} {r : Bool} (h : M.impl_validItem x_0 = some r) :
    Cal2 Try.prog 68 [(.agg #[(I x_0.1), (Sl ax_0_1 x_0.2.1 cx_0_1), (I x_0.2.2)])] [Ch.ro 0 (Sl ax_0_1 x_0.2.1 cx_0_1) x_0.2.1] (fun n0 v L => v = (B r) ∧ L = []) := by
 refine cal2 (n := 16) Try.func68 rfl rfl rfl rfl ?_
 intro S0 σ0 n0 hn0 H
 unfold M.impl_validItem at h
 refine c_seq ?_
 refine rg ?_
 refine st_ex (ex_box (cs := [(I x_0.1), (Sl ax_0_1 x_0.2.1 cx_0_1), (I x_0.2.2)]) H hn0 rfl rfl) wn ?_
 rintro _ σ2 ⟨b1, rfl, H, -⟩
 refine st (v := (B false)) (rv_assign rfl) ?_
 refine w_end ?_
 refine q_then ?_
 refine c_seq ?_
 refine rg ?_
 refine st (v := (pt b1 0)) (rv_fieldAddr (off := 0) (ft := 3) Try.underlying32 rfl ti3 rfl rfl) ?_
 have hc3 := H.cell (u := (I x_0.1)) (o' := 0) 0 0 rfl rfl rfl
 refine st (v := (I x_0.1)) (rv_load1 Try.underlying3 rfl rfl hc3) ?_
 obtain ⟨r4, hx5, h'⟩ := bind_some h
 clear h
 have h := h'; clear h'
 have hc6 := c_impl_validKey hx5
 refine st_call (cx_call hc6 (ent_f hc6.fn rfl) hn0 (show Hp S0 σ0 _ ([] ++ [Ch.bx n0 b1 0 [(I x_0.1), (Sl ax_0_1 x_0.2.1 cx_0_1), (I x_0.2.2)] [] [], Ch.ro 0 (Sl ax_0_1 x_0.2.1 cx_0_1) x_0.2.1]) from (H.sel' [0, 1] rfl rfl))) wn ?_
 rintro _ σ7 ⟨_, ⟨rfl, rfl⟩, H, -⟩
 replace H : Hp S0 σ0 σ7 [Ch.bx n0 b1 0 [(I x_0.1), (Sl ax_0_1 x_0.2.1 cx_0_1), (I x_0.2.2)] [] [], Ch.ro 0 (Sl ax_0_1 x_0.2.1 cx_0_1) x_0.2.1] := H
 refine st (v := (B r4)) (rv_move rfl) ?_
 rcases Bool.eq_false_or_eq_true r4 with hb8 | hb8
 ·replace h := bif_t hb8 h
  refine st_g (v := (pt b1 1)) (congrArg some hb8) (rv_fieldAddr (off := 1) (ft := 26) Try.underlying32 rfl ti26 rfl rfl) ?_
  have hc9 := H.cell (u := (Sl ax_0_1 x_0.2.1 cx_0_1)) (o' := 1) 0 1 rfl rfl rfl
  refine st_g (v := (Sl ax_0_1 x_0.2.1 cx_0_1)) (congrArg some hb8) (rv_load1 Try.underlying26 rfl rfl hc9) ?_
  obtain ⟨r10, hx11, h'⟩ := bind_some h
  clear h
  have h := h'; clear h'
  have hc12 := c_impl_ValidVector (av_0 := ax_0_1) (cv_0 := cx_0_1) hx11
  refine st_call (cx_call hc12 (ent_f hc12.fn rfl) hn0 (show Hp S0 σ0 _ ([Ch.ro 0 (Sl ax_0_1 x_0.2.1 cx_0_1) x_0.2.1] ++ [Ch.bx n0 b1 0 [(I x_0.1), (Sl ax_0_1 x_0.2.1 cx_0_1), (I x_0.2.2)] [] [], Ch.ro 0 (Sl ax_0_1 x_0.2.1 cx_0_1) x_0.2.1]) from (H.sel' [1, 0, 1] rfl rfl))) (wanted_yes rfl (by exact (congrArg some hb8))) ?_
  rintro _ σ13 ⟨_, ⟨rfl, rfl⟩, H, -⟩
  replace H : Hp S0 σ0 σ13 [Ch.bx n0 b1 0 [(I x_0.1), (Sl ax_0_1 x_0.2.1 cx_0_1), (I x_0.2.2)] [] [], Ch.ro 0 (Sl ax_0_1 x_0.2.1 cx_0_1) x_0.2.1] := H
  refine st (v := (B r10)) (rv_pick_t (congrArg B hb8) rfl) ?_
  refine st (v := (B r10)) (rv_move rfl) ?_
  rcases Bool.eq_false_or_eq_true r10 with hb14 | hb14
  ·replace h := bif_t hb14 h
   refine st_g (v := (pt b1 2)) (congrArg some hb14) (rv_fieldAddr (off := 2) (ft := 3) Try.underlying32 rfl ti3 rfl rfl) ?_
   have hc15 := H.cell (u := (I x_0.2.2)) (o' := 2) 0 2 rfl rfl rfl
   refine st_g (v := (I x_0.2.2)) (congrArg some hb14) (rv_load1 Try.underlying3 rfl rfl hc15) ?_
   obtain ⟨r16, hx17, h'⟩ := bind_some h
   clear h
   have h := h'; clear h'
   have hc18 := c_impl_validTags hx17
   refine st_call (cx_call hc18 (ent_f hc18.fn rfl) hn0 (show Hp S0 σ0 _ ([] ++ [Ch.bx n0 b1 0 [(I x_0.1), (Sl ax_0_1 x_0.2.1 cx_0_1), (I x_0.2.2)] [] [], Ch.ro 0 (Sl ax_0_1 x_0.2.1 cx_0_1) x_0.2.1]) from (H.sel' [0, 1] rfl rfl))) (wanted_yes rfl (by exact (congrArg some hb14))) ?_
   rintro _ σ19 ⟨_, ⟨rfl, rfl⟩, H, -⟩
   replace H : Hp S0 σ0 σ19 [Ch.bx n0 b1 0 [(I x_0.1), (Sl ax_0_1 x_0.2.1 cx_0_1), (I x_0.2.2)] [] [], Ch.ro 0 (Sl ax_0_1 x_0.2.1 cx_0_1) x_0.2.1] := H
   refine st (v := (B r16)) (rv_pick_t (congrArg B hb14) rfl) ?_
   refine st (v := (B r16)) (rv_assign rfl) ?_
   refine w_end ?_
   refine q_then ?_
   refine c_ret ?_
   obtain rfl := Option.some.inj h
   exact fin_ret (v := (B r16)) (results_ok Try.results68 (res_tmp (v := (B r16)) rfl res_nil) rfl) ⟨rfl, rfl⟩ (H.sel' [] rfl rfl)
  ·replace h := bif_f hb14 h
   refine st_skip (congrArg some hb14) ?_
   refine st_skip (congrArg some hb14) ?_
   refine st_skip (congrArg some hb14) ?_
   refine st (v := (B false)) (rv_pick_f (congrArg B hb14) rfl) ?_
   refine st (v := (B false)) (rv_assign rfl) ?_
   refine w_end ?_
   refine q_then ?_
   refine c_ret ?_
   obtain rfl := Option.some.inj h
   exact fin_ret (v := (B false)) (results_ok Try.results68 (res_tmp (v := (B false)) rfl res_nil) rfl) ⟨rfl, rfl⟩ (H.sel' [] rfl rfl)
 ·replace h := bif_f hb8 h
  refine st_skip (congrArg some hb8) ?_
  refine st_skip (congrArg some hb8) ?_
  refine st_skip (congrArg some hb8) ?_
  refine st (v := (B false)) (rv_pick_f (congrArg B hb8) rfl) ?_
  refine st (v := (B false)) (rv_move rfl) ?_
  refine st_skip rfl ?_
  refine st_skip rfl ?_
  refine st_skip rfl ?_
  refine st (v := (B false)) (rv_pick_f rfl rfl) ?_
  refine st (v := (B false)) (rv_assign rfl) ?_
  refine w_end ?_
  refine q_then ?_
  refine c_ret ?_
  obtain rfl := Option.some.inj h
  exact fin_ret (v := (B false)) (results_ok Try.results68 (res_tmp (v := (B false)) rfl res_nil) rfl) ⟨rfl, rfl⟩ (H.sel' [] rfl rfl)

theorem c_impl_onlyKey {x_0 : Int × (List Int) × Int} {ax_0_1 : Option Addr} {cx_0_1 : Nat} {r : Bool} (h : M.impl_onlyKey x_0 = some r) :
    Cal2 Try.prog 116 [(.agg #[(I x_0.1), (Sl ax_0_1 x_0.2.1 cx_0_1), (I x_0.2.2)])] [Ch.ro 0 (Sl ax_0_1 x_0.2.1 cx_0_1) x_0.2.1] (fun n0 v L => v = (B r) ∧ L = []) := by
 refine cal2 (n := 17) Try.func116 rfl rfl rfl rfl ?_
 intro S0 σ0 n0 hn0 H
 unfold M.impl_onlyKey at h
 refine c_seq ?_
 refine rg ?_
 refine st_ex (ex_box (cs := [(I x_0.1), (Sl ax_0_1 x_0.2.1 cx_0_1), (I x_0.2.2)]) H hn0 rfl rfl) wn ?_
 rintro _ σ2 ⟨b1, rfl, H, -⟩
 refine st (v := (B false)) (rv_assign rfl) ?_
 refine w_end ?_
 refine q_then ?_
 refine c_seq ?_
 refine rg ?_
 refine st (v := (pt b1 0)) (rv_fieldAddr (off := 0) (ft := 3) Try.underlying32 rfl ti3 rfl rfl) ?_
 have hc3 := H.cell (u := (I x_0.1)) (o' := 0) 0 0 rfl rfl rfl
 refine st (v := (I x_0.1)) (rv_load1 Try.underlying3 rfl rfl hc3) ?_
 obtain ⟨r4, hx5, h'⟩ := bind_some h
 clear h
 have h := h'; clear h'
 have hc6 := c_impl_validKey hx5
 refine st_call (cx_call hc6 (ent_f hc6.fn rfl) hn0 (show Hp S0 σ0 _ ([] ++ [Ch.bx n0 b1 0 [(I x_0.1), (Sl ax_0_1 x_0.2.1 cx_0_1), (I x_0.2.2)] [] [], Ch.ro 0 (Sl ax_0_1 x_0.2.1 cx_0_1) x_0.2.1]) from (H.sel' [0, 1] rfl rfl))) wn ?_
 rintro _ σ7 ⟨_, ⟨rfl, rfl⟩, H, -⟩
 replace H : Hp S0 σ0 σ7 [Ch.bx n0 b1 0 [(I x_0.1), (Sl ax_0_1 x_0.2.1 cx_0_1), (I x_0.2.2)] [] [], Ch.ro 0 (Sl ax_0_1 x_0.2.1 cx_0_1) x_0.2.1] := H
 refine st (v := (B r4)) (rv_move rfl) ?_
 rcases Bool.eq_false_or_eq_true r4 with hb8 | hb8
 ·replace h := bif_t hb8 h
  refine st_g (v := (pt b1 1)) (congrArg some hb8) (rv_fieldAddr (off := 1) (ft := 26) Try.underlying32 rfl ti26 rfl rfl) ?_
  have hc9 := H.cell (u := (Sl ax_0_1 x_0.2.1 cx_0_1)) (o' := 1) 0 1 rfl rfl rfl
  refine st_g (v := (Sl ax_0_1 x_0.2.1 cx_0_1)) (congrArg some hb8) (rv_load1 Try.underlying26 rfl rfl hc9) ?_
  refine st_g (v := (I (x_0.2.1.length : Int))) (congrArg some hb8) (rv_len Try.underlying26 rfl) ?_
  refine st_g (v := (B ((x_0.2.1.length : Int) == 0))) (congrArg some hb8) (rv_eql (a := (x_0.2.1.length : Int)) (b := 0) rfl rfl) ?_
  refine st (v := (B ((x_0.2.1.length : Int) == 0))) (rv_pick_t (congrArg B hb8) rfl) ?_
  refine st (v := (B ((x_0.2.1.length : Int) == 0))) (rv_move rfl) ?_
  rcases Bool.eq_false_or_eq_true ((x_0.2.1.length : Int) == 0) with hb10 | hb10
  ·replace h := bif_t hb10 h
   refine st_g (v := (pt b1 2)) (congrArg some hb10) (rv_fieldAddr (off := 2) (ft := 3) Try.underlying32 rfl ti3 rfl rfl) ?_
   have hc11 := H.cell (u := (I x_0.2.2)) (o' := 2) 0 2 rfl rfl rfl
   refine st_g (v := (I x_0.2.2)) (congrArg some hb10) (rv_load1 Try.underlying3 rfl rfl hc11) ?_
   refine st_g (v := (B (x_0.2.2 == 0))) (congrArg some hb10) (rv_eql (a := x_0.2.2) (b := 0) rfl rfl) ?_
   refine st (v := (B (x_0.2.2 == 0))) (rv_pick_t (congrArg B hb10) rfl) ?_
   refine st (v := (B (x_0.2.2 == 0))) (rv_assign rfl) ?_
   refine w_end ?_
   refine q_then ?_
   refine c_ret ?_
   obtain rfl := Option.some.inj h
   exact fin_ret (v := (B (x_0.2.2 == 0))) (results_ok Try.results116 (res_tmp (v := (B (x_0.2.2 == 0))) rfl res_nil) rfl) ⟨rfl, rfl⟩ (H.sel' [] rfl rfl)
  ·replace h := bif_f hb10 h
   refine st_skip (congrArg some hb10) ?_
   refine st_skip (congrArg some hb10) ?_
   refine st_skip (congrArg some hb10) ?_
   refine st (v := (B false)) (rv_pick_f (congrArg B hb10) rfl) ?_
   refine st (v := (B false)) (rv_assign rfl) ?_
   refine w_end ?_
   refine q_then ?_
   refine c_ret ?_
   obtain rfl := Option.some.inj h
   exact fin_ret (v := (B false)) (results_ok Try.results116 (res_tmp (v := (B false)) rfl res_nil) rfl) ⟨rfl, rfl⟩ (H.sel' [] rfl rfl)
 ·replace h := bif_f hb8 h
  refine st_skip (congrArg some hb8) ?_
  refine st_skip (congrArg some hb8) ?_
  refine st_skip (congrArg some hb8) ?_
  refine st_skip (congrArg some hb8) ?_
  refine st (v := (B false)) (rv_pick_f (congrArg B hb8) rfl) ?_
  refine st (v := (B false)) (rv_move rfl) ?_
  refine st_skip rfl ?_
  refine st_skip rfl ?_
  refine st_skip rfl ?_
  refine st (v := (B false)) (rv_pick_f rfl rfl) ?_
  refine st (v := (B false)) (rv_assign rfl) ?_
  refine w_end ?_
  refine q_then ?_
  refine c_ret ?_
  obtain rfl := Option.some.inj h
  exact fin_ret (v := (B false)) (results_ok Try.results116 (res_tmp (v := (B false)) rfl res_nil) rfl) ⟨rfl, rfl⟩ (H.sel' [] rfl rfl)

theorem c_impl_changeOf {e_0 : Int × (Int × (List Int) × Int)} {ae_0_1_1 : Option Addr} {ce_0_1_1 : Nat} {r : (If2 Int ((Int × (List Int) × Int))) × Bool} (h : M.impl_changeOf e_0 = some r) :
    Cal2 Try.prog 92 [(.agg #[(I e_0.1), (I e_0.2.1), (Sl ae_0_1_1 e_0.2.2.1 ce_0_1_1), (I e_0.2.2.2)])] [Ch.ro 0 (Sl ae_0_1_1 e_0.2.2.1 ce_0_1_1) e_0.2.2.1] (fun n0 v L => ∃ (az1 : Option Addr), ∃ (cz2 : Nat), v = (.tuple #[(ifs2 r.1.1 (.iface 91 (.agg #[(I r.1.2.1)])) (.iface 95 (.agg #[(I r.1.2.2.1), (Sl az1 r.1.2.2.2.1 cz2), (I r.1.2.2.2.2)]))), (B r.2)]) ∧ L = [Ch.ro 0 (Sl az1 r.1.2.2.2.1 cz2) r.1.2.2.2.1]) := by
 refine cal2 (n := 31) Try.func92 rfl rfl rfl rfl ?_
 intro S0 σ0 n0 hn0 H
 unfold M.impl_changeOf at h
 refine c_seq ?_
 refine rg ?_
 refine st_ex (ex_box (cs := [(I e_0.1), (I e_0.2.1), (Sl ae_0_1_1 e_0.2.2.1 ce_0_1_1), (I e_0.2.2.2)]) H hn0 rfl rfl) wn ?_
 rintro _ σ2 ⟨b1, rfl, H, -⟩
 refine st (v := .nilIface) (rv_assign rfl) ?_
 refine st (v := (B false)) (rv_assign rfl) ?_
 refine w_end ?_
 refine q_then ?_
 refine c_seq ?_
 refine c_blk ?_
 refine c_seq ?_
 obtain ⟨o3, hj, h'⟩ := bind_some h
 clear h
 refine c_cut (fun e a w => e = .normal ∧ ∃ (ρ : Nat → Value) (σ : St), a = fr 31 (updL ρ [(1, (pt b1 0)), (4, (B o3))]) ∧ w = σ.w ∧ Hp S0 σ0 σ [Ch.ro 0 (Sl ae_0_1_1 e_0.2.2.1 ce_0_1_1) e_0.2.2.1, Ch.bx n0 b1 0 [(I e_0.1), (I e_0.2.1), (Sl ae_0_1_1 e_0.2.2.1 ce_0_1_1), (I e_0.2.2.2)] [] []]) ?_ ?_
 ·clear h'
  rename _ = some o3 => h
  refine rg ?_
  refine st (v := (pt b1 0)) (rv_fieldAddr (off := 0) (ft := 3) Try.underlying42 rfl ti3 rfl rfl) ?_
  have hc4 := H.cell (u := (I e_0.1)) (o' := 0) 0 0 rfl rfl rfl
  refine st (v := (I e_0.1)) (rv_load1 Try.underlying3 rfl rfl hc4) ?_
  refine st (v := (B (e_0.1 == 1))) (rv_eql (a := e_0.1) (b := 1) rfl rfl) ?_
  refine st (v := (B (e_0.1 == 1))) (rv_move rfl) ?_
  rcases Bool.eq_false_or_eq_true (e_0.1 == 1) with hb5 | hb5
  ·replace h := bif_t hb5 h
   refine st_g (v := (pt b1 1)) (congrArg some hb5) (rv_fieldAddr (off := 1) (ft := 32) Try.underlying42 rfl ti32 rfl rfl) ?_
   have hc6 := H.part (us := [(I e_0.2.1), (Sl ae_0_1_1 e_0.2.2.1 ce_0_1_1), (I e_0.2.2.2)]) (o' := 1) 0 1 3 rfl rfl rfl rfl
   refine st_g (v := (.agg #[(I e_0.2.1), (Sl ae_0_1_1 e_0.2.2.1 ce_0_1_1), (I e_0.2.2.2)])) (congrArg some hb5) (rv_load (cs := [(I e_0.2.1), (Sl ae_0_1_1 e_0.2.2.1 ce_0_1_1), (I e_0.2.2.2)]) Try.underlying32 rfl ti32 rfl rfl hc6) ?_
   obtain ⟨r7, hx8, h'⟩ := bind_some h
   clear h
   have h := h'; clear h'
   have hc9 := c_impl_validItem (ax_0_1 := ae_0_1_1) (cx_0_1 := ce_0_1_1) hx8
   refine st_call (cx_call hc9 (ent_f hc9.fn rfl) hn0 (show Hp S0 σ0 _ ([Ch.ro 0 (Sl ae_0_1_1 e_0.2.2.1 ce_0_1_1) e_0.2.2.1] ++ [Ch.bx n0 b1 0 [(I e_0.1), (I e_0.2.1), (Sl ae_0_1_1 e_0.2.2.1 ce_0_1_1), (I e_0.2.2.2)] [] [], Ch.ro 0 (Sl ae_0_1_1 e_0.2.2.1 ce_0_1_1) e_0.2.2.1]) from (H.sel' [1, 0, 1] rfl rfl))) (wanted_yes rfl (by exact (congrArg some hb5))) ?_
   rintro _ σ10 ⟨_, ⟨rfl, rfl⟩, H, -⟩
   replace H : Hp S0 σ0 σ10 [Ch.bx n0 b1 0 [(I e_0.1), (I e_0.2.1), (Sl ae_0_1_1 e_0.2.2.1 ce_0_1_1), (I e_0.2.2.2)] [] [], Ch.ro 0 (Sl ae_0_1_1 e_0.2.2.1 ce_0_1_1) e_0.2.2.1] := H
   refine st (v := (B r7)) (rv_pick_t (congrArg B hb5) rfl) ?_
   refine st (v := (B r7)) (rv_assign rfl) ?_
   refine w_end ?_
   obtain rfl := Option.some.inj h
   exact ⟨rfl, _, σ10, fr_join ⟨rfl, rfl, trivial⟩, rfl, H.sel' [1, 0] rfl rfl⟩
  ·replace h := bif_f hb5 h
   refine st_skip (congrArg some hb5) ?_
   refine st_skip (congrArg some hb5) ?_
   refine st_skip (congrArg some hb5) ?_
   refine st (v := (B false)) (rv_pick_f (congrArg B hb5) rfl) ?_
   refine st (v := (B false)) (rv_assign rfl) ?_
   refine w_end ?_
   obtain rfl := Option.some.inj h
   exact ⟨rfl, _, σ2, fr_join ⟨rfl, rfl, trivial⟩, rfl, H.sel' [1, 0] rfl rfl⟩
 ·clear hj
  have h := h'
  clear h' H
  rintro e a w ⟨rfl, ρ, σ11, rfl, rfl, H⟩
  refine q_then ?_
  refine cd_cond o3 rfl (fun hb12 => ?_) (fun hb12 => ?_)
  ·replace h := bif_t hb12 h
   refine c_seq ?_
   refine rg ?_
   refine st (v := (pt b1 1)) (rv_fieldAddr (off := 1) (ft := 32) Try.underlying42 rfl ti32 rfl rfl) ?_
   have hc13 := H.part (us := [(I e_0.2.1), (Sl ae_0_1_1 e_0.2.2.1 ce_0_1_1), (I e_0.2.2.2)]) (o' := 1) 1 1 3 rfl rfl rfl rfl
   refine st (v := (.agg #[(I e_0.2.1), (Sl ae_0_1_1 e_0.2.2.1 ce_0_1_1), (I e_0.2.2.2)])) (rv_load (cs := [(I e_0.2.1), (Sl ae_0_1_1 e_0.2.2.1 ce_0_1_1), (I e_0.2.2.2)]) Try.underlying32 rfl ti32 rfl rfl hc13) ?_
   refine st (v := (.agg #[(I e_0.2.1), (Sl ae_0_1_1 e_0.2.2.1 ce_0_1_1), (I e_0.2.2.2)])) (rv_build (ps := [(0, (.agg #[(I e_0.2.1), (Sl ae_0_1_1 e_0.2.2.1 ce_0_1_1), (I e_0.2.2.2)]))]) Try.underlying95 ti95 (bp95 Try.underlying95) rfl (by kernel_rfl)) ?_
   refine st (v := (.iface 95 (.agg #[(I e_0.2.1), (Sl ae_0_1_1 e_0.2.2.1 ce_0_1_1), (I e_0.2.2.2)]))) (rv_makeInterface Try.underlying95 rfl rfl) ?_
   refine st (v := (.iface 95 (.agg #[(I e_0.2.1), (Sl ae_0_1_1 e_0.2.2.1 ce_0_1_1), (I e_0.2.2.2)]))) (rv_assign rfl) ?_
   refine st (v := (B true)) (rv_assign rfl) ?_
   refine w_end ?_
   refine q_then ?_
   refine c_ret ?_
   refine q_blk_r ?_
   refine q_then_r ?_
   obtain rfl := Option.some.inj h
   exact fin_ret (v := (.tuple #[(ifs2 2 (.iface 91 (.agg #[(I 0)])) (.iface 95 (.agg #[(I e_0.2.1), (Sl ae_0_1_1 e_0.2.2.1 ce_0_1_1), (I e_0.2.2.2)]))), (B true)])) (results_ok Try.results92 (res_tmp (v := (ifs2 2 (.iface 91 (.agg #[(I 0)])) (.iface 95 (.agg #[(I e_0.2.1), (Sl ae_0_1_1 e_0.2.2.1 ce_0_1_1), (I e_0.2.2.2)])))) rfl (res_tmp (v := (B true)) rfl res_nil)) rfl) ⟨ae_0_1_1, ce_0_1_1, rfl, rfl⟩ (H.sel' [0] rfl rfl)
  ·replace h := bif_f hb12 h
   refine c_seq ?_
   obtain ⟨o14, hj, h'⟩ := bind_some h
   clear h
   refine c_cut (fun e a w => e = .normal ∧ ∃ (ρ : Nat → Value) (σ : St), a = fr 31 (updL ρ [(1, (pt b1 0)), (17, (B o14))]) ∧ w = σ.w ∧ Hp S0 σ0 σ [Ch.ro 0 (Sl ae_0_1_1 e_0.2.2.1 ce_0_1_1) e_0.2.2.1, Ch.bx n0 b1 0 [(I e_0.1), (I e_0.2.1), (Sl ae_0_1_1 e_0.2.2.1 ce_0_1_1), (I e_0.2.2.2)] [] []]) ?_ ?_
   ·clear h'
    rename _ = some o14 => h
    refine rg ?_
    refine st (v := (pt b1 0)) (rv_fieldAddr (off := 0) (ft := 3) Try.underlying42 rfl ti3 rfl rfl) ?_
    have hc15 := H.cell (u := (I e_0.1)) (o' := 0) 1 0 rfl rfl rfl
    refine st (v := (I e_0.1)) (rv_load1 Try.underlying3 rfl rfl hc15) ?_
    refine st (v := (B (e_0.1 == 2))) (rv_eql (a := e_0.1) (b := 2) rfl rfl) ?_
    refine st (v := (B (e_0.1 == 2))) (rv_move rfl) ?_
    rcases Bool.eq_false_or_eq_true (e_0.1 == 2) with hb16 | hb16
    ·replace h := bif_t hb16 h
     refine st_g (v := (pt b1 1)) (congrArg some hb16) (rv_fieldAddr (off := 1) (ft := 32) Try.underlying42 rfl ti32 rfl rfl) ?_
     have hc17 := H.part (us := [(I e_0.2.1), (Sl ae_0_1_1 e_0.2.2.1 ce_0_1_1), (I e_0.2.2.2)]) (o' := 1) 1 1 3 rfl rfl rfl rfl
     refine st_g (v := (.agg #[(I e_0.2.1), (Sl ae_0_1_1 e_0.2.2.1 ce_0_1_1), (I e_0.2.2.2)])) (congrArg some hb16) (rv_load (cs := [(I e_0.2.1), (Sl ae_0_1_1 e_0.2.2.1 ce_0_1_1), (I e_0.2.2.2)]) Try.underlying32 rfl ti32 rfl rfl hc17) ?_
     obtain ⟨r18, hx19, h'⟩ := bind_some h
     clear h
     have h := h'; clear h'
     have hc20 := c_impl_onlyKey (ax_0_1 := ae_0_1_1) (cx_0_1 := ce_0_1_1) hx19
     refine st_call (cx_call hc20 (ent_f hc20.fn rfl) hn0 (show Hp S0 σ0 _ ([Ch.ro 0 (Sl ae_0_1_1 e_0.2.2.1 ce_0_1_1) e_0.2.2.1] ++ [Ch.ro 0 (Sl ae_0_1_1 e_0.2.2.1 ce_0_1_1) e_0.2.2.1, Ch.bx n0 b1 0 [(I e_0.1), (I e_0.2.1), (Sl ae_0_1_1 e_0.2.2.1 ce_0_1_1), (I e_0.2.2.2)] [] []]) from (H.sel' [0, 0, 1] rfl rfl))) (wanted_yes rfl (by exact (congrArg some hb16))) ?_
     rintro _ σ21 ⟨_, ⟨rfl, rfl⟩, H, -⟩
     replace H : Hp S0 σ0 σ21 [Ch.ro 0 (Sl ae_0_1_1 e_0.2.2.1 ce_0_1_1) e_0.2.2.1, Ch.bx n0 b1 0 [(I e_0.1), (I e_0.2.1), (Sl ae_0_1_1 e_0.2.2.1 ce_0_1_1), (I e_0.2.2.2)] [] []] := H
     refine st (v := (B r18)) (rv_pick_t (congrArg B hb16) rfl) ?_
     refine st (v := (B r18)) (rv_assign rfl) ?_
     refine w_end ?_
     obtain rfl := Option.some.inj h
     exact ⟨rfl, _, σ21, fr_join ⟨rfl, rfl, trivial⟩, rfl, H.sel' [0, 1] rfl rfl⟩
    ·replace h := bif_f hb16 h
     refine st_skip (congrArg some hb16) ?_
     refine st_skip (congrArg some hb16) ?_
     refine st_skip (congrArg some hb16) ?_
     refine st (v := (B false)) (rv_pick_f (congrArg B hb16) rfl) ?_
     refine st (v := (B false)) (rv_assign rfl) ?_
     refine w_end ?_
     obtain rfl := Option.some.inj h
     exact ⟨rfl, _, σ11, fr_join ⟨rfl, rfl, trivial⟩, rfl, H.sel' [0, 1] rfl rfl⟩
   ·clear hj
    have h := h'
    clear h' H
    rintro e a w ⟨rfl, ρ, σ22, rfl, rfl, H⟩
    refine q_then ?_
    refine cd_cond o14 rfl (fun hb23 => ?_) (fun hb23 => ?_)
    ·replace h := bif_t hb23 h
     refine c_seq ?_
     refine rg ?_
     refine st (v := (pt b1 1)) (rv_fieldAddr (off := 1) (ft := 32) Try.underlying42 rfl ti32 rfl rfl) ?_
     refine st (v := (pt b1 1)) (rv_fieldAddr (off := 0) (ft := 3) Try.underlying32 rfl ti3 rfl rfl) ?_
     have hc24 := H.cell (u := (I e_0.2.1)) (o' := 1) 1 1 rfl rfl rfl
     refine st (v := (I e_0.2.1)) (rv_load1 Try.underlying3 rfl rfl hc24) ?_
     refine st (v := (.agg #[(I e_0.2.1)])) (rv_build (ps := [(0, (I e_0.2.1))]) Try.underlying91 ti91 (bp91 Try.underlying91) rfl (by kernel_rfl)) ?_
     refine st (v := (.iface 91 (.agg #[(I e_0.2.1)]))) (rv_makeInterface Try.underlying91 rfl rfl) ?_
     refine st (v := (.iface 91 (.agg #[(I e_0.2.1)]))) (rv_assign rfl) ?_
     refine st (v := (B true)) (rv_assign rfl) ?_
     refine w_end ?_
     refine q_then ?_
     refine c_ret ?_
     refine q_blk_r ?_
     refine q_then_r ?_
     replace H := H.nilRo Int 0
     obtain rfl := Option.some.inj h
     exact fin_ret (v := (.tuple #[(ifs2 1 (.iface 91 (.agg #[(I e_0.2.1)])) (.iface 95 (.agg #[(I 0), (.slice none 0 0), (I 0)]))), (B true)])) (results_ok Try.results92 (res_tmp (v := (ifs2 1 (.iface 91 (.agg #[(I e_0.2.1)])) (.iface 95 (.agg #[(I 0), (.slice none 0 0), (I 0)])))) rfl (res_tmp (v := (B true)) rfl res_nil)) rfl) ⟨none, 0, rfl, rfl⟩ (H.sel' [0] rfl rfl)
    ·replace h := bif_f hb23 h
     refine c_skip ?_
     refine q_blk ?_
     refine q_then ?_
     refine c_seq ?_
     refine rg ?_
     refine st (v := .nilIface) (rv_assign rfl) ?_
     refine st (v := (B false)) (rv_assign rfl) ?_
     refine w_end ?_
     refine q_then ?_
     refine c_ret ?_
     replace H := H.nilRo Int 0
     obtain rfl := Option.some.inj h
     exact fin_ret (v := (.tuple #[(ifs2 0 (.iface 91 (.agg #[(I 0)])) (.iface 95 (.agg #[(I 0), (.slice none 0 0), (I 0)]))), (B false)])) (results_ok Try.results92 (res_tmp (v := (ifs2 0 (.iface 91 (.agg #[(I 0)])) (.iface 95 (.agg #[(I 0), (.slice none 0 0), (I 0)])))) rfl (res_tmp (v := (B false)) rfl res_nil)) rfl) ⟨none, 0, rfl, rfl⟩ (H.sel' [0] rfl rfl)

theorem c_impl_changesOf {log_0 : List (Int × (Int × (List Int) × Int))} {alog_0 : Option Addr} {clog_0 : Nat} {r : (List (If2 Int ((Int × (List Int) × Int)))) × Bool} (h : M.impl_changesOf log_0 = some r) :
    Cal2 Try.prog 62 [(Sl alog_0 log_0 clog_0)] [Ch.ro 0 (Sl alog_0 log_0 clog_0) log_0] (fun n0 v L => ∃ (az1 : Option Addr), ∃ (cz2 : Nat), v = (.tuple #[(Sl az1 r.1 cz2), (B r.2)]) ∧ L = [Ch.own n0 0 (Sl az1 r.1 cz2) r.1]) := by
 refine cal2 (n := 35) Try.func62 rfl rfl rfl rfl ?_
 intro S0 σ0 n0 hn0 H
 unfold M.impl_changesOf at h
 refine c_seq ?_
 refine rg ?_
 refine st (v := (.slice none 0 0)) (rv_assign rfl) ?_
 refine st (v := (B false)) (rv_assign rfl) ?_
 refine w_end ?_
 refine q_then ?_
 refine c_seq ?_
 refine c_seq ?_
 refine rg ?_
 refine st (v := (Sl alog_0 log_0 clog_0)) (rv_move rfl) ?_
 refine st (v := (I (log_0.length : Int))) (rv_len Try.underlying35 rfl) ?_
 refine st (v := (B (decide (32 < (log_0.length : Int))))) (rv_gtr (a := (log_0.length : Int)) (b := 32) rfl rfl) ?_
 refine w_end ?_
 refine q_then ?_
 refine cd_cond (decide (32 < (log_0.length : Int))) rfl (fun hb1 => ?_) (fun hb1 => ?_)
 ·replace h := bif_t hb1 h
  refine c_seq ?_
  refine rg ?_
  refine st (v := (.slice none 0 0)) (rv_assign rfl) ?_
  refine st (v := (B false)) (rv_assign rfl) ?_
  refine w_end ?_
  refine q_then ?_
  refine c_ret ?_
  refine q_then_r ?_
  replace H := H.nilOwn (If2 Int ((Int × (List Int) × Int))) n0 0
  obtain rfl := Option.some.inj h
  exact fin_ret (v := (.tuple #[(.slice none 0 0), (B false)])) (results_ok Try.results62 (res_tmp (v := (.slice none 0 0)) rfl (res_tmp (v := (B false)) rfl res_nil)) rfl) ⟨none, 0, rfl, rfl⟩ (H.sel' [0] rfl rfl)
 ·replace h := bif_f hb1 h
  refine c_skip ?_
  refine q_then ?_
  refine c_seq ?_
  refine rg ?_
  refine st (v := (Sl alog_0 log_0 clog_0)) (rv_move rfl) ?_
  refine st (v := (I (log_0.length : Int))) (rv_len Try.underlying35 rfl) ?_
  obtain ⟨xs2, hx3, h'⟩ := bind_some h
  clear h
  have h := h'; clear h'
  refine st_ex (ex_make (el := n0) (z0 := ((If2.mk 0 0 (0, [], 0)) : If2 Int ((Int × (List Int) × Int)))) (zs := [(ifs2 0 (.iface 91 (.agg #[(I 0)])) (.iface 95 (.agg #[(I 0), (.slice none 0 0), (I 0)])))]) H hn0 Try.underlying79 ti83 rfl rfl (⟨[(I 0)], [(I 0), (.slice none 0 0), (I 0)], rfl, ⟨[(I 0)], [(.slice none 0 0), (I 0)], rfl, rfl, ⟨[(.slice none 0 0)], [(I 0)], rfl, ⟨_, rfl, RS.nil⟩, rfl⟩⟩, rfl⟩) (by decide) hx3 rfl rfl) wn ?_
  rintro _ σ7 ⟨b4, c5, rfl, ht6, H, -⟩
  replace ht6 := ht6.trans (gmake_len hx3).symm
  refine st (v := (Sl (some ⟨b4, 0, none⟩) xs2 c5)) (rv_assign rfl) ?_
  refine w_end ?_
  refine q_then ?_
  refine c_seq ?_
  refine c_seq ?_
  refine rg ?_
  refine st (v := (Sl alog_0 log_0 clog_0)) (rv_move rfl) ?_
  refine st (v := (I (log_0.length : Int))) (rv_len Try.underlying35 rfl) ?_
  refine st (v := (I 0)) (rv_move rfl) ?_
  refine w_end ?_
  refine q_then ?_
  obtain ⟨o8, hj, h'⟩ := bind_some h
  clear h
  refine c_cut (fun e a w => (∃ t, o8 = (.inl t) ∧ e = .normal ∧ ∃ (ρ : Nat → Value) (σ : St), a = fr 35 (updL ρ [(4, (Sl (some ⟨b4, 0, none⟩) t c5))]) ∧ w = σ.w ∧ Hp S0 σ0 σ [Ch.own n0 0 (Sl (some ⟨b4, 0, none⟩) t c5) t] ∧ c5 = t.length ∧ t.length = xs2.length) ∨ (∃ t, o8 = (.inr t) ∧ e = .ret ∧ ∃ (ρ : Nat → Value) (σ : St) (aj1 : Option Addr) (cj2 : Nat), a = fr 35 (updL ρ [(2, (Sl aj1 t.1 cj2)), (3, (B t.2))]) ∧ w = σ.w ∧ Hp S0 σ0 σ [Ch.own n0 n0 (Sl aj1 t.1 cj2) t.1])) ?_ ?_
  ·clear h'
   rename _ = some o8 => h
   refine c_blk ?_
   replace H := H.ownLow 0 n0 0 rfl (Nat.le_refl _) (Nat.zero_le _)
   refine wp_loopM _ h (fun s9 a w => ∃ (ρ : Nat → Value) (σ : St), a = fr 35 (updL ρ [(4, (Sl (some ⟨b4, 0, none⟩) s9.1 c5)), (15, (Sl alog_0 log_0 clog_0)), (16, (I (log_0.length : Int))), (17, (I s9.2))]) ∧ w = σ.w ∧ Hp S0 σ0 σ [Ch.own n0 0 (Sl (some ⟨b4, 0, none⟩) s9.1 c5) s9.1, Ch.ro 0 (Sl alog_0 log_0 clog_0) log_0] ∧ c5 = s9.1.length ∧ s9.1.length = xs2.length) ⟨_, σ7, fr_join ⟨rfl, rfl, rfl, rfl, trivial⟩, rfl, H.sel' [0, 1] rfl rfl, ht6, rfl⟩ ?_
   clear h H
   rintro s9 a w o ⟨ρ, σ10, rfl, rfl, H, ht11, hn12⟩ h hres
   refine c_seq ?_
   refine rg ?_
   refine st (v := (B (decide (s9.2 < (log_0.length : Int))))) (rv_lss (a := s9.2) (b := (log_0.length : Int)) rfl rfl) ?_
   refine w_end ?_
   refine q_then ?_
   refine c_seq ?_
   refine cd_cond (decide (s9.2 < (log_0.length : Int))) rfl (fun hb13 => ?_) (fun hb13 => ?_)
   ·replace h := bif_t hb13 h
    refine c_skip ?_
    refine q_then ?_
    refine c_seq ?_
    refine c_blk ?_
    refine c_seq ?_
    refine rg ?_
    refine st (v := (I s9.2)) (rv_move rfl) ?_
    obtain ⟨x14, hx15, h'⟩ := bind_some h
    clear h
    have h := h'; clear h'
    obtain ⟨b17, o18, hi16, -⟩ := (H.ro 1 rfl).ix hx15
    refine st (v := (pt b17 o18)) (rv_ix Try.underlying35 ti42 rfl rfl hi16) ?_
    obtain ⟨_, ⟨_, _, rfl, rfl, ⟨_, _, rfl, rfl, ⟨_, _, rfl, ⟨_, rfl, hR23⟩, rfl⟩⟩⟩, hl19, hc20⟩ := ((H.ro 1 rfl).at hx15 hi16).cells
    obtain ⟨a21, c22, rfl⟩ := hR23.isSl
    replace H := H.add (d := Ch.ro 0 (Sl a21 x14.2.2.1 c22) x14.2.2.1) hR23 (fun _ h => h)
    clear hR23
    refine st (v := (.agg #[(I x14.1), (I x14.2.1), (Sl a21 x14.2.2.1 c22), (I x14.2.2.2)])) (rv_load Try.underlying42 rfl ti42 rfl hl19 hc20) ?_
    refine st_ex (ex_alloc (cs := [(I 0), (I 0), (.slice none 0 0), (I 0)]) H hn0 ti42 rfl) wn ?_
    rintro _ σ25 ⟨b24, rfl, H, -⟩
    refine st (v := (I s9.2)) (rv_assign rfl) ?_
    refine st_exS (ex_store_box (k := 0) (cs := [(I 0), (I 0), (.slice none 0 0), (I 0)]) (vs := [(I x14.1), (I x14.2.1), (Sl a21 x14.2.2.1 c22), (I x14.2.2.2)]) (cs' := [(I x14.1), (I x14.2.1), (Sl a21 x14.2.2.1 c22), (I x14.2.2.2)]) H (i := 0) rfl ti42 rfl rfl rfl rfl rfl (Nat.le_of_ble_eq_true rfl) (by simp [plain]) rfl) wn ?_
    rintro σ26 ⟨H, -⟩
    refine w_end ?_
    refine q_then ?_
    refine c_seq ?_
    refine rg ?_
    have hc27 := H.cells 0 rfl
    refine st (v := (.agg #[(I x14.1), (I x14.2.1), (Sl a21 x14.2.2.1 c22), (I x14.2.2.2)])) (rv_load (cs := [(I x14.1), (I x14.2.1), (Sl a21 x14.2.2.1 c22), (I x14.2.2.2)]) Try.underlying42 rfl ti42 rfl rfl hc27) ?_
    obtain ⟨r28, hx29, h'⟩ := bind_some h
    clear h
    have h := h'; clear h'
    have hc30 := c_impl_changeOf (ae_0_1_1 := a21) (ce_0_1_1 := c22) hx29
    refine st_call (cx_call hc30 (ent_f hc30.fn rfl) hn0 (show Hp S0 σ0 _ ([Ch.ro 0 (Sl a21 x14.2.2.1 c22) x14.2.2.1] ++ [Ch.bx n0 b24 0 [(I x14.1), (I x14.2.1), (Sl a21 x14.2.2.1 c22), (I x14.2.2.2)] [] [], Ch.ro 0 (Sl a21 x14.2.2.1 c22) x14.2.2.1, Ch.own n0 0 (Sl (some ⟨b4, 0, none⟩) s9.1 c5) s9.1, Ch.ro 0 (Sl alog_0 log_0 clog_0) log_0]) from (H.sel' [1, 0, 1, 2, 3] rfl rfl))) wn ?_
    rintro _ σ33 ⟨_, ⟨a31, c32, rfl, rfl⟩, H, -⟩
    replace H : Hp S0 σ0 σ33 [Ch.ro 0 (Sl a31 r28.1.2.2.2.1 c32) r28.1.2.2.2.1, Ch.bx n0 b24 0 [(I x14.1), (I x14.2.1), (Sl a21 x14.2.2.1 c22), (I x14.2.2.2)] [] [], Ch.ro 0 (Sl a21 x14.2.2.1 c22) x14.2.2.1, Ch.own n0 0 (Sl (some ⟨b4, 0, none⟩) s9.1 c5) s9.1, Ch.ro 0 (Sl alog_0 log_0 clog_0) log_0] := H
    refine st (v := (.tuple #[(ifs2 r28.1.1 (.iface 91 (.agg #[(I r28.1.2.1)])) (.iface 95 (.agg #[(I r28.1.2.2.1), (Sl a31 r28.1.2.2.2.1 c32), (I r28.1.2.2.2.2)]))), (B r28.2)])) (rv_move rfl) ?_
    refine st (v := (ifs2 r28.1.1 (.iface 91 (.agg #[(I r28.1.2.1)])) (.iface 95 (.agg #[(I r28.1.2.2.1), (Sl a31 r28.1.2.2.2.1 c32), (I r28.1.2.2.2.2)])))) (rv_extract rfl rfl) ?_
    refine st (v := (B r28.2)) (rv_extract rfl rfl) ?_
    refine st (v := (ifs2 r28.1.1 (.iface 91 (.agg #[(I r28.1.2.1)])) (.iface 95 (.agg #[(I r28.1.2.2.1), (Sl a31 r28.1.2.2.2.1 c32), (I r28.1.2.2.2.2)])))) (rv_assign rfl) ?_
    refine st (v := (B r28.2)) (rv_assign rfl) ?_
    refine w_end ?_
    refine q_then ?_
    refine c_seq ?_
    refine c_seq ?_
    refine rg ?_
    refine st (v := (B r28.2)) (rv_move rfl) ?_
    refine st (v := (B (!r28.2))) (rv_not rfl) ?_
    refine w_end ?_
    refine q_then ?_
    refine cd_cond (!r28.2) rfl (fun hb34 => ?_) (fun hb34 => ?_)
    ·replace h := bif_t hb34 h
     refine c_seq ?_
     refine rg ?_
     refine st (v := (.slice none 0 0)) (rv_assign rfl) ?_
     refine st (v := (B false)) (rv_assign rfl) ?_
     refine w_end ?_
     refine q_then ?_
     refine c_ret ?_
     refine q_then_r ?_
     refine q_blk_r ?_
     refine q_then_r ?_
     refine q_then_r ?_
     refine q_blk_r ?_
     obtain rfl := Option.some.inj h
     obtain rfl := hres _ rfl
     replace H := H.nilOwn (If2 Int ((Int × (List Int) × Int))) n0 n0
     exact .inr (⟨_, rfl, rfl, _, σ33, none, 0, fr_join ⟨rfl, rfl, trivial⟩, rfl, H.sel' [0] rfl rfl⟩)
    ·replace h := bif_f hb34 h
     refine c_skip ?_
     refine q_then ?_
     refine rg ?_
     refine st (v := (Sl (some ⟨b4, 0, none⟩) s9.1 c5)) (rv_move rfl) ?_
     refine st (v := (I s9.2)) (rv_move rfl) ?_
     refine st (v := (ifs2 r28.1.1 (.iface 91 (.agg #[(I r28.1.2.1)])) (.iface 95 (.agg #[(I r28.1.2.2.1), (Sl a31 r28.1.2.2.2.1 c32), (I r28.1.2.2.2.2)])))) (rv_move rfl) ?_
     obtain ⟨x35, hx36, h'⟩ := bind_some h
     clear h
     have h := h'; clear h'
     obtain ⟨b38, o39, hi37, -⟩ := (H.own 3 rfl).ix hx36
     refine st (v := (pt b38 o39)) (rv_ix Try.underlying79 ti83 rfl rfl hi37) ?_
     refine st_exS (ex_store_own (e' := (If2.mk r28.1.1 r28.1.2.1 (r28.1.2.2.1, r28.1.2.2.2.1, r28.1.2.2.2.2))) (vs := [(ifs2 r28.1.1 (.iface 91 (.agg #[(I r28.1.2.1)])) (.iface 95 (.agg #[(I r28.1.2.2.1), (Sl a31 r28.1.2.2.2.1 c32), (I r28.1.2.2.2.2)])))]) (k := 0) H (i := 3) rfl ti83 hx36 hi37 rfl rfl rfl ifs2_cells rfl (Nat.le_of_ble_eq_true rfl) plain2 (by rintro _ ⟨_, _, rfl, ⟨_, _, rfl, rfl, ⟨_, _, rfl, ⟨_, rfl, hR42⟩, rfl⟩⟩, rfl⟩; exact ⟨[(I r28.1.2.1)], [(I r28.1.2.2.1), (Sl a31 r28.1.2.2.2.1 c32), (I r28.1.2.2.2.2)], rfl, ⟨[(I r28.1.2.2.1)], [(Sl a31 r28.1.2.2.2.1 c32), (I r28.1.2.2.2.2)], rfl, rfl, ⟨[(Sl a31 r28.1.2.2.2.1 c32)], [(I r28.1.2.2.2.2)], rfl, ⟨_, rfl, (H.ro 0 rfl)⟩, rfl⟩⟩, rfl⟩)) wn ?_
     rintro σ43 ⟨H, -⟩
     have hsl : (Sl (some ⟨b4, 0, none⟩) s9.1 c5) = (Sl (some ⟨b4, 0, none⟩) (s9.1.set s9.2.toNat (If2.mk r28.1.1 r28.1.2.1 (r28.1.2.2.1, r28.1.2.2.2.1, r28.1.2.2.2.2))) c5) := sl_len List.length_set.symm
     rw [hsl]; rw [hsl] at H; clear hsl
     refine w_end ?_
     refine q_blk ?_
     refine q_then ?_
     refine rg ?_
     refine st (v := (I (w64 (s9.2 + 1)))) (rv_add (a := s9.2) (b := 1) rfl rfl) ?_
     refine st (v := (I (w64 (s9.2 + 1)))) (rv_move rfl) ?_
     refine w_end ?_
     refine q_then ?_
     obtain rfl := Option.some.inj h
     exact ⟨_, rfl, _, σ43, fr_join ⟨rfl, rfl, rfl, rfl, trivial⟩, rfl, H.sel' [0, 4] rfl rfl, (ht11.trans List.length_set.symm), (List.length_set.trans hn12)⟩
   ·replace h := bif_f hb13 h
    refine c_exit ?_
    refine q_then_x ?_
    refine q_then_x ?_
    refine q_blk_hit ?_
    obtain rfl := Option.some.inj h
    obtain rfl := hres _ rfl
    exact .inl ⟨_, rfl, rfl, _, σ10, fr_join ⟨rfl, trivial⟩, rfl, H.sel' [0] rfl rfl, ht11, hn12⟩
  ·clear hj
   have h := h'
   clear h' H
   rintro e a w (⟨t44, rfl, rfl, ρ, σ45, rfl, rfl, H, ht46, hn47⟩ | ⟨t48, rfl, rfl, ρ, σ49, a50, c51, rfl, rfl, H⟩)
   ·replace h := selim_l h
    refine q_then ?_
    refine c_seq ?_
    refine rg ?_
    refine st (v := (Sl (some ⟨b4, 0, none⟩) t44 c5)) (rv_move rfl) ?_
    refine st (v := (Sl (some ⟨b4, 0, none⟩) t44 c5)) (rv_assign rfl) ?_
    refine st (v := (B true)) (rv_assign rfl) ?_
    refine w_end ?_
    refine q_then ?_
    refine c_ret ?_
    obtain rfl := Option.some.inj h
    exact fin_ret (v := (.tuple #[(Sl (some ⟨b4, 0, none⟩) t44 c5), (B true)])) (results_ok Try.results62 (res_tmp (v := (Sl (some ⟨b4, 0, none⟩) t44 c5)) rfl (res_tmp (v := (B true)) rfl res_nil)) rfl) ⟨(some ⟨b4, 0, none⟩), c5, rfl, rfl⟩ (H.sel' [0] rfl rfl)
   ·replace h := selim_r h
    refine q_then_r ?_
    replace H := H.ownLow 0 n0 0 rfl (Nat.le_refl _) (Nat.zero_le _)
    obtain rfl := Option.some.inj h
    exact fin_ret (v := (.tuple #[(Sl a50 t48.1 c51), (B t48.2)])) (results_ok Try.results62 (res_tmp (v := (Sl a50 t48.1 c51)) rfl (res_tmp (v := (B t48.2)) rfl res_nil)) rfl) ⟨a50, c51, rfl, rfl⟩ (H.sel' [0] rfl rfl)

theorem c_impl_ValidLog {list_0 : List (Int × (Int × (List Int) × Int))} {alist_0 : Option Addr} {clist_0 : Nat} {r : Bool} (h : M.impl_ValidLog list_0 = some r) :
    Cal2 Try.prog 36 [(Sl alist_0 list_0 clist_0)] [Ch.ro 0 (Sl alist_0 list_0 clist_0) list_0] (fun n0 v L => v = (B r) ∧ L = []) := by
 refine cal2 (n := 11) Try.func36 rfl rfl rfl rfl ?_
 intro S0 σ0 n0 hn0 H
 unfold M.impl_ValidLog at h
 refine c_seq ?_
 refine rg ?_
 refine st (v := (B false)) (rv_assign rfl) ?_
 refine w_end ?_
 refine q_then ?_
 refine c_seq ?_
 refine rg ?_
 refine st (v := (Sl alist_0 list_0 clist_0)) (rv_move rfl) ?_
 obtain ⟨r1, hx2, h'⟩ := bind_some h
 clear h
 have h := h'; clear h'
 have hc3 := c_impl_changesOf (alog_0 := alist_0) (clog_0 := clist_0) hx2
 refine st_call (cx_call hc3 (ent_f hc3.fn rfl) hn0 (show Hp S0 σ0 _ ([Ch.ro 0 (Sl alist_0 list_0 clist_0) list_0] ++ [Ch.ro 0 (Sl alist_0 list_0 clist_0) list_0]) from (H.sel' [0, 0] rfl rfl))) wn ?_
 rintro _ σ6 ⟨_, ⟨a4, c5, rfl, rfl⟩, H, -⟩
 replace H : Hp S0 σ0 σ6 [Ch.own n0 0 (Sl a4 r1.1 c5) r1.1, Ch.ro 0 (Sl alist_0 list_0 clist_0) list_0] := H
 refine st (v := (.tuple #[(Sl a4 r1.1 c5), (B r1.2)])) (rv_move rfl) ?_
 refine st (v := (Sl a4 r1.1 c5)) (rv_extract rfl rfl) ?_
 refine st (v := (B r1.2)) (rv_extract rfl rfl) ?_
 refine st (v := (Sl a4 r1.1 c5)) (rv_assign rfl) ?_
 refine st (v := (B r1.2)) (rv_assign rfl) ?_
 refine w_end ?_
 refine q_then ?_
 refine c_seq ?_
 refine rg ?_
 refine st (v := (B r1.2)) (rv_move rfl) ?_
 refine st (v := (B r1.2)) (rv_assign rfl) ?_
 refine w_end ?_
 refine q_then ?_
 refine c_ret ?_
 obtain rfl := Option.some.inj h
 exact fin_ret (v := (B r1.2)) (results_ok Try.results36 (res_tmp (v := (B r1.2)) rfl res_nil) rfl) ⟨rfl, rfl⟩ (H.sel' [] rfl rfl)

theorem c_laws_eqIntS {a_0 : List Int} {b_1 : List Int} {aa_0 : Option Addr} {ca_0 : Nat} {ab_1 : Option Addr} {cb_1 : Nat} {r : Bool} (h : M.laws_eqIntS a_0 b_1 = some r) :
    Cal2 Try.prog 109 [(Sl aa_0 a_0 ca_0), (Sl ab_1 b_1 cb_1)] [Ch.ro 0 (Sl aa_0 a_0 ca_0) a_0, Ch.ro 0 (Sl ab_1 b_1 cb_1) b_1] (fun n0 v L => v = (B r) ∧ L = []) := by
 refine cal2 (n := 26) Try.func109 rfl rfl rfl rfl ?_
 intro S0 σ0 n0 hn0 H
 unfold M.laws_eqIntS at h
 refine c_seq ?_
 refine rg ?_
 refine st (v := (B false)) (rv_assign rfl) ?_
 refine w_end ?_
 refine q_then ?_
 refine c_seq ?_
 refine c_seq ?_
 refine rg ?_
 refine st (v := (Sl aa_0 a_0 ca_0)) (rv_move rfl) ?_
 refine st (v := (I (a_0.length : Int))) (rv_len Try.underlying26 rfl) ?_
 refine st (v := (Sl ab_1 b_1 cb_1)) (rv_move rfl) ?_
 refine st (v := (I (b_1.length : Int))) (rv_len Try.underlying26 rfl) ?_
 refine st (v := (B ((a_0.length : Int) != (b_1.length : Int)))) (rv_neq (a := (a_0.length : Int)) (b := (b_1.length : Int)) rfl rfl) ?_
 refine w_end ?_
 refine q_then ?_
 refine cd_cond ((a_0.length : Int) != (b_1.length : Int)) rfl (fun hb1 => ?_) (fun hb1 => ?_)
 ·replace h := bif_t hb1 h
  refine c_seq ?_
  refine rg ?_
  refine st (v := (B false)) (rv_assign rfl) ?_
  refine w_end ?_
  refine q_then ?_
  refine c_ret ?_
  refine q_then_r ?_
  obtain rfl := Option.some.inj h
  exact fin_ret (v := (B false)) (results_ok Try.results109 (res_tmp (v := (B false)) rfl res_nil) rfl) ⟨rfl, rfl⟩ (H.sel' [] rfl rfl)
 ·replace h := bif_f hb1 h
  refine c_skip ?_
  refine q_then ?_
  refine c_seq ?_
  refine c_seq ?_
  refine rg ?_
  refine st (v := (I 0)) (rv_assign rfl) ?_
  refine w_end ?_
  refine q_then ?_
  obtain ⟨o2, hj, h'⟩ := bind_some h
  clear h
  refine c_cut (fun e a w => (∃ t, o2 = (.inl t) ∧ e = .normal ∧ ∃ (ρ : Nat → Value) (σ : St), a = fr 26 (updL ρ []) ∧ w = σ.w ∧ Hp S0 σ0 σ []) ∨ (∃ t, o2 = (.inr t) ∧ e = .ret ∧ ∃ (ρ : Nat → Value) (σ : St), a = fr 26 (updL ρ [(4, (B t))]) ∧ w = σ.w ∧ Hp S0 σ0 σ [])) ?_ ?_
  ·clear h'
   rename _ = some o2 => h
   refine c_blk ?_
   refine wp_loopM _ h (fun s3 a w => ∃ (ρ : Nat → Value) (σ : St), a = fr 26 (updL ρ [(0, (Sl aa_0 a_0 ca_0)), (1, (Sl ab_1 b_1 cb_1)), (5, (I s3))]) ∧ w = σ.w ∧ Hp S0 σ0 σ [Ch.ro 0 (Sl aa_0 a_0 ca_0) a_0, Ch.ro 0 (Sl ab_1 b_1 cb_1) b_1]) ⟨_, σ0, fr_join ⟨rfl, rfl, rfl, trivial⟩, rfl, H.sel' [0, 1] rfl rfl⟩ ?_
   clear h H
   rintro s3 a w o ⟨ρ, σ4, rfl, rfl, H⟩ h hres
   refine c_seq ?_
   refine c_seq ?_
   refine rg ?_
   refine st (v := (I s3)) (rv_move rfl) ?_
   refine st (v := (Sl aa_0 a_0 ca_0)) (rv_move rfl) ?_
   refine st (v := (I (a_0.length : Int))) (rv_len Try.underlying26 rfl) ?_
   refine st (v := (B (decide (s3 < (a_0.length : Int))))) (rv_lss (a := s3) (b := (a_0.length : Int)) rfl rfl) ?_
   refine w_end ?_
   refine q_then ?_
   refine cd_cond (decide (s3 < (a_0.length : Int))) rfl (fun hb5 => ?_) (fun hb5 => ?_)
   ·replace h := bif_t hb5 h
    refine c_skip ?_
    refine q_then ?_
    refine c_seq ?_
    refine c_blk ?_
    refine c_seq ?_
    refine rgP (σ := σ4) 8 (by kernel_rfl) (by kernel_rfl) (by kernel_rfl) ?_
    refine sq (v := (Sl aa_0 a_0 ca_0)) (rv_move rfl) ?_
    refine sq (v := (I s3)) (rv_move rfl) ?_
    obtain ⟨x6, hx7, h'⟩ := bind_some h
    clear h
    have h := h'; clear h'
    obtain ⟨b9, o10, hi8, -⟩ := (H.ro 0 rfl).ix hx7
    refine sq (v := (pt b9 o10)) (rv_ix Try.underlying26 ti3 rfl rfl hi8) ?_
    have hc11 := ((H.ro 0 rfl).at hx7 hi8).int
    refine sq (v := (I x6)) (rv_load1 Try.underlying3 rfl rfl hc11) ?_
    refine sq (v := (Sl ab_1 b_1 cb_1)) (rv_move rfl) ?_
    refine sq (v := (I s3)) (rv_move rfl) ?_
    obtain ⟨x12, hx13, h'⟩ := bind_some h
    clear h
    have h := h'; clear h'
    obtain ⟨b15, o16, hi14, -⟩ := (H.ro 1 rfl).ix hx13
    refine sq (v := (pt b15 o16)) (rv_ix Try.underlying26 ti3 rfl rfl hi14) ?_
    have hc17 := ((H.ro 1 rfl).at hx13 hi14).int
    refine sq (v := (I x12)) (rv_load1 Try.underlying3 rfl rfl hc17) ?_
    refine sq_end ?_
    intro σ18 hm19
    replace H := H.grow (hm19.mono fun _ h => h); clear hm19
    refine st (v := (B (x6 != x12))) (rv_neq (a := x6) (b := x12) rfl rfl) ?_
    refine w_end ?_
    refine q_then ?_
    refine cd_cond (x6 != x12) rfl (fun hb20 => ?_) (fun hb20 => ?_)
    ·replace h := bif_t hb20 h
     refine c_seq ?_
     refine rg ?_
     refine st (v := (B false)) (rv_assign rfl) ?_
     refine w_end ?_
     refine q_then ?_
     refine c_ret ?_
     refine q_blk_r ?_
     refine q_then_r ?_
     refine q_then_r ?_
     refine q_blk_r ?_
     obtain rfl := Option.some.inj h
     obtain rfl := hres _ rfl
     exact .inr (⟨_, rfl, rfl, _, σ18, fr_join ⟨rfl, trivial⟩, rfl, H.sel' [] rfl rfl⟩)
    ·replace h := bif_f hb20 h
     refine c_skip ?_
     refine q_blk ?_
     refine q_then ?_
     refine rg ?_
     refine st (v := (I s3)) (rv_move rfl) ?_
     refine st (v := (I (w64 (s3 + 1)))) (rv_add (a := s3) (b := 1) rfl rfl) ?_
     refine st (v := (I (w64 (s3 + 1)))) (rv_assign rfl) ?_
     refine w_end ?_
     refine q_then ?_
     obtain rfl := Option.some.inj h
     exact ⟨_, rfl, _, σ18, fr_join ⟨rfl, rfl, rfl, trivial⟩, rfl, H.sel' [0, 1] rfl rfl⟩
   ·replace h := bif_f hb5 h
    refine c_exit ?_
    refine q_then_x ?_
    refine q_then_x ?_
    refine q_blk_hit ?_
    obtain rfl := Option.some.inj h
    obtain rfl := hres _ rfl
    exact .inl ⟨_, rfl, rfl, _, σ4, fr_join trivial, rfl, H.sel' [] rfl rfl⟩
  ·clear hj
   have h := h'
   clear h' H
   rintro e a w (⟨t21, rfl, rfl, ρ, σ22, rfl, rfl, H⟩ | ⟨t23, rfl, rfl, ρ, σ24, rfl, rfl, H⟩)
   ·replace h := selim_l h
    refine q_then ?_
    refine c_seq ?_
    refine rg ?_
    refine st (v := (B true)) (rv_assign rfl) ?_
    refine w_end ?_
    refine q_then ?_
    refine c_ret ?_
    obtain rfl := Option.some.inj h
    exact fin_ret (v := (B true)) (results_ok Try.results109 (res_tmp (v := (B true)) rfl res_nil) rfl) ⟨rfl, rfl⟩ (H.sel' [] rfl rfl)
   ·replace h := selim_r h
    refine q_then_r ?_
    obtain rfl := Option.some.inj h
    exact fin_ret (v := (B t23)) (results_ok Try.results109 (res_tmp (v := (B t23)) rfl res_nil) rfl) ⟨rfl, rfl⟩ (H.sel' [] rfl rfl)

theorem c_laws_eqItem {a_0 : Int × (List Int) × Int} {b_1 : Int × (List Int) × Int} {aa_0_1 : Option Addr} {ca_0_1 : Nat} {ab_1_1 : Option Addr} {cb_1_1 : Nat} {r : Bool} (h : M.laws_eqItem a_0 b_1 = some r) :
    Cal2 Try.prog 81 [(.agg #[(I a_0.1), (Sl aa_0_1 a_0.2.1 ca_0_1), (I a_0.2.2)]), (.agg #[(I b_1.1), (Sl ab_1_1 b_1.2.1 cb_1_1), (I b_1.2.2)])] [Ch.ro 0 (Sl aa_0_1 a_0.2.1 ca_0_1) a_0.2.1, Ch.ro 0 (Sl ab_1_1 b_1.2.1 cb_1_1) b_1.2.1] (fun n0 v L => v = (B r) ∧ L = []) := by
 refine cal2 (n := 21) Try.func81 rfl rfl rfl rfl ?_
 intro S0 σ0 n0 hn0 H
 unfold M.laws_eqItem at h
 refine c_seq ?_
 refine rg ?_
 refine st_ex (ex_box (cs := [(I a_0.1), (Sl aa_0_1 a_0.2.1 ca_0_1), (I a_0.2.2)]) H hn0 rfl rfl) wn ?_
 rintro _ σ2 ⟨b1, rfl, H, -⟩
 refine st_ex (ex_box (cs := [(I b_1.1), (Sl ab_1_1 b_1.2.1 cb_1_1), (I b_1.2.2)]) H hn0 rfl rfl) wn ?_
 rintro _ σ4 ⟨b3, rfl, H, -⟩
 refine st (v := (B false)) (rv_assign rfl) ?_
 refine w_end ?_
 refine q_then ?_
 refine c_seq ?_
 refine c_seq ?_
 refine rg ?_
 refine st (v := (pt b1 0)) (rv_fieldAddr (off := 0) (ft := 3) Try.underlying32 rfl ti3 rfl rfl) ?_
 have hc5 := H.cell (u := (I a_0.1)) (o' := 0) 1 0 rfl rfl rfl
 refine st (v := (I a_0.1)) (rv_load1 Try.underlying3 rfl rfl hc5) ?_
 refine st (v := (pt b3 0)) (rv_fieldAddr (off := 0) (ft := 3) Try.underlying32 rfl ti3 rfl rfl) ?_
 have hc6 := H.cell (u := (I b_1.1)) (o' := 0) 0 0 rfl rfl rfl
 refine st (v := (I b_1.1)) (rv_load1 Try.underlying3 rfl rfl hc6) ?_
 refine st (v := (B (a_0.1 != b_1.1))) (rv_neq (a := a_0.1) (b := b_1.1) rfl rfl) ?_
 refine w_end ?_
 refine q_then ?_
 refine cd_cond (a_0.1 != b_1.1) rfl (fun hb7 => ?_) (fun hb7 => ?_)
 ·replace h := bif_t hb7 h
  refine c_seq ?_
  refine rg ?_
  refine st (v := (B false)) (rv_assign rfl) ?_
  refine w_end ?_
  refine q_then ?_
  refine c_ret ?_
  refine q_then_r ?_
  obtain rfl := Option.some.inj h
  exact fin_ret (v := (B false)) (results_ok Try.results81 (res_tmp (v := (B false)) rfl res_nil) rfl) ⟨rfl, rfl⟩ (H.sel' [] rfl rfl)
 ·replace h := bif_f hb7 h
  refine c_skip ?_
  refine q_then ?_
  refine c_seq ?_
  refine c_seq ?_
  refine rg ?_
  refine st (v := (pt b1 1)) (rv_fieldAddr (off := 1) (ft := 26) Try.underlying32 rfl ti26 rfl rfl) ?_
  have hc8 := H.cell (u := (Sl aa_0_1 a_0.2.1 ca_0_1)) (o' := 1) 1 1 rfl rfl rfl
  refine st (v := (Sl aa_0_1 a_0.2.1 ca_0_1)) (rv_load1 Try.underlying26 rfl rfl hc8) ?_
  refine st (v := (pt b3 1)) (rv_fieldAddr (off := 1) (ft := 26) Try.underlying32 rfl ti26 rfl rfl) ?_
  have hc9 := H.cell (u := (Sl ab_1_1 b_1.2.1 cb_1_1)) (o' := 1) 0 1 rfl rfl rfl
  refine st (v := (Sl ab_1_1 b_1.2.1 cb_1_1)) (rv_load1 Try.underlying26 rfl rfl hc9) ?_
  obtain ⟨r10, hx11, h'⟩ := bind_some h
  clear h
  have h := h'; clear h'
  have hc12 := c_laws_eqIntS (aa_0 := aa_0_1) (ca_0 := ca_0_1) (ab_1 := ab_1_1) (cb_1 := cb_1_1) hx11
  refine st_call (cx_call hc12 (ent_f hc12.fn rfl) hn0 (show Hp S0 σ0 _ ([Ch.ro 0 (Sl aa_0_1 a_0.2.1 ca_0_1) a_0.2.1, Ch.ro 0 (Sl ab_1_1 b_1.2.1 cb_1_1) b_1.2.1] ++ [Ch.bx n0 b3 0 [(I b_1.1), (Sl ab_1_1 b_1.2.1 cb_1_1), (I b_1.2.2)] [] [], Ch.bx n0 b1 0 [(I a_0.1), (Sl aa_0_1 a_0.2.1 ca_0_1), (I a_0.2.2)] [] [], Ch.ro 0 (Sl aa_0_1 a_0.2.1 ca_0_1) a_0.2.1, Ch.ro 0 (Sl ab_1_1 b_1.2.1 cb_1_1) b_1.2.1]) from (H.sel' [2, 3, 0, 1, 2, 3] rfl rfl))) wn ?_
  rintro _ σ13 ⟨_, ⟨rfl, rfl⟩, H, -⟩
  replace H : Hp S0 σ0 σ13 [Ch.bx n0 b3 0 [(I b_1.1), (Sl ab_1_1 b_1.2.1 cb_1_1), (I b_1.2.2)] [] [], Ch.bx n0 b1 0 [(I a_0.1), (Sl aa_0_1 a_0.2.1 ca_0_1), (I a_0.2.2)] [] [], Ch.ro 0 (Sl aa_0_1 a_0.2.1 ca_0_1) a_0.2.1, Ch.ro 0 (Sl ab_1_1 b_1.2.1 cb_1_1) b_1.2.1] := H
  refine st (v := (B (!r10))) (rv_not rfl) ?_
  refine w_end ?_
  refine q_then ?_
  refine cd_cond (!r10) rfl (fun hb14 => ?_) (fun hb14 => ?_)
  ·replace h := bif_t hb14 h
   refine c_seq ?_
   refine rg ?_
   refine st (v := (B false)) (rv_assign rfl) ?_
   refine w_end ?_
   refine q_then ?_
   refine c_ret ?_
   refine q_then_r ?_
   obtain rfl := Option.some.inj h
   exact fin_ret (v := (B false)) (results_ok Try.results81 (res_tmp (v := (B false)) rfl res_nil) rfl) ⟨rfl, rfl⟩ (H.sel' [] rfl rfl)
  ·replace h := bif_f hb14 h
   refine c_skip ?_
   refine q_then ?_
   refine c_seq ?_
   refine c_seq ?_
   refine rg ?_
   refine st (v := (pt b1 2)) (rv_fieldAddr (off := 2) (ft := 3) Try.underlying32 rfl ti3 rfl rfl) ?_
   have hc15 := H.cell (u := (I a_0.2.2)) (o' := 2) 1 2 rfl rfl rfl
   refine st (v := (I a_0.2.2)) (rv_load1 Try.underlying3 rfl rfl hc15) ?_
   refine st (v := (pt b3 2)) (rv_fieldAddr (off := 2) (ft := 3) Try.underlying32 rfl ti3 rfl rfl) ?_
   have hc16 := H.cell (u := (I b_1.2.2)) (o' := 2) 0 2 rfl rfl rfl
   refine st (v := (I b_1.2.2)) (rv_load1 Try.underlying3 rfl rfl hc16) ?_
   refine st (v := (B (a_0.2.2 != b_1.2.2))) (rv_neq (a := a_0.2.2) (b := b_1.2.2) rfl rfl) ?_
   refine w_end ?_
   refine q_then ?_
   refine cd_cond (a_0.2.2 != b_1.2.2) rfl (fun hb17 => ?_) (fun hb17 => ?_)
   ·replace h := bif_t hb17 h
    refine c_seq ?_
    refine rg ?_
    refine st (v := (B false)) (rv_assign rfl) ?_
    refine w_end ?_
    refine q_then ?_
    refine c_ret ?_
    refine q_then_r ?_
    obtain rfl := Option.some.inj h
    exact fin_ret (v := (B false)) (results_ok Try.results81 (res_tmp (v := (B false)) rfl res_nil) rfl) ⟨rfl, rfl⟩ (H.sel' [] rfl rfl)
   ·replace h := bif_f hb17 h
    refine c_skip ?_
    refine q_then ?_
    refine c_seq ?_
    refine rg ?_
    refine st (v := (B true)) (rv_assign rfl) ?_
    refine w_end ?_
    refine q_then ?_
    refine c_ret ?_
    obtain rfl := Option.some.inj h
    exact fin_ret (v := (B true)) (results_ok Try.results81 (res_tmp (v := (B true)) rfl res_nil) rfl) ⟨rfl, rfl⟩ (H.sel' [] rfl rfl)

theorem c_laws_eqEntry {a_0 : Int × (Int × (List Int) × Int)} {b_1 : Int × (Int × (List Int) × Int)} {aa_0_1_1 : Option Addr} {ca_0_1_1 : Nat} {ab_1_1_1 : Option Addr} {cb_1_1_1 : Nat} {r : Bool} (h : M.laws_eqEntry a_0 b_1 = some r) :
    Cal2 Try.prog 78 [(.agg #[(I a_0.1), (I a_0.2.1), (Sl aa_0_1_1 a_0.2.2.1 ca_0_1_1), (I a_0.2.2.2)]), (.agg #[(I b_1.1), (I b_1.2.1), (Sl ab_1_1_1 b_1.2.2.1 cb_1_1_1), (I b_1.2.2.2)])] [Ch.ro 0 (Sl aa_0_1_1 a_0.2.2.1 ca_0_1_1) a_0.2.2.1, Ch.ro 0 (Sl ab_1_1_1 b_1.2.2.1 cb_1_1_1) b_1.2.2.1] (fun n0 v L => v = (B r) ∧ L = []) := by
 refine cal2 (n := 16) Try.func78 rfl rfl rfl rfl ?_
 intro S0 σ0 n0 hn0 H
 unfold M.laws_eqEntry at h
 refine c_seq ?_
 refine rg ?_
 refine st_ex (ex_box (cs := [(I a_0.1), (I a_0.2.1), (Sl aa_0_1_1 a_0.2.2.1 ca_0_1_1), (I a_0.2.2.2)]) H hn0 rfl rfl) wn ?_
 rintro _ σ2 ⟨b1, rfl, H, -⟩
 refine st_ex (ex_box (cs := [(I b_1.1), (I b_1.2.1), (Sl ab_1_1_1 b_1.2.2.1 cb_1_1_1), (I b_1.2.2.2)]) H hn0 rfl rfl) wn ?_
 rintro _ σ4 ⟨b3, rfl, H, -⟩
 refine st (v := (B false)) (rv_assign rfl) ?_
 refine w_end ?_
 refine q_then ?_
 refine c_seq ?_
 refine c_seq ?_
 refine rg ?_
 refine st (v := (pt b1 0)) (rv_fieldAddr (off := 0) (ft := 3) Try.underlying42 rfl ti3 rfl rfl) ?_
 have hc5 := H.cell (u := (I a_0.1)) (o' := 0) 1 0 rfl rfl rfl
 refine st (v := (I a_0.1)) (rv_load1 Try.underlying3 rfl rfl hc5) ?_
 refine st (v := (pt b3 0)) (rv_fieldAddr (off := 0) (ft := 3) Try.underlying42 rfl ti3 rfl rfl) ?_
 have hc6 := H.cell (u := (I b_1.1)) (o' := 0) 0 0 rfl rfl rfl
 refine st (v := (I b_1.1)) (rv_load1 Try.underlying3 rfl rfl hc6) ?_
 refine st (v := (B (a_0.1 != b_1.1))) (rv_neq (a := a_0.1) (b := b_1.1) rfl rfl) ?_
 refine w_end ?_
 refine q_then ?_
 refine cd_cond (a_0.1 != b_1.1) rfl (fun hb7 => ?_) (fun hb7 => ?_)
 ·replace h := bif_t hb7 h
  refine c_seq ?_
  refine rg ?_
  refine st (v := (B false)) (rv_assign rfl) ?_
  refine w_end ?_
  refine q_then ?_
  refine c_ret ?_
  refine q_then_r ?_
  obtain rfl := Option.some.inj h
  exact fin_ret (v := (B false)) (results_ok Try.results78 (res_tmp (v := (B false)) rfl res_nil) rfl) ⟨rfl, rfl⟩ (H.sel' [] rfl rfl)
 ·replace h := bif_f hb7 h
  refine c_skip ?_
  refine q_then ?_
  refine c_seq ?_
  refine c_seq ?_
  refine rg ?_
  refine st (v := (pt b1 1)) (rv_fieldAddr (off := 1) (ft := 32) Try.underlying42 rfl ti32 rfl rfl) ?_
  have hc8 := H.part (us := [(I a_0.2.1), (Sl aa_0_1_1 a_0.2.2.1 ca_0_1_1), (I a_0.2.2.2)]) (o' := 1) 1 1 3 rfl rfl rfl rfl
  refine st (v := (.agg #[(I a_0.2.1), (Sl aa_0_1_1 a_0.2.2.1 ca_0_1_1), (I a_0.2.2.2)])) (rv_load (cs := [(I a_0.2.1), (Sl aa_0_1_1 a_0.2.2.1 ca_0_1_1), (I a_0.2.2.2)]) Try.underlying32 rfl ti32 rfl rfl hc8) ?_
  refine st (v := (pt b3 1)) (rv_fieldAddr (off := 1) (ft := 32) Try.underlying42 rfl ti32 rfl rfl) ?_
  have hc9 := H.part (us := [(I b_1.2.1), (Sl ab_1_1_1 b_1.2.2.1 cb_1_1_1), (I b_1.2.2.2)]) (o' := 1) 0 1 3 rfl rfl rfl rfl
  refine st (v := (.agg #[(I b_1.2.1), (Sl ab_1_1_1 b_1.2.2.1 cb_1_1_1), (I b_1.2.2.2)])) (rv_load (cs := [(I b_1.2.1), (Sl ab_1_1_1 b_1.2.2.1 cb_1_1_1), (I b_1.2.2.2)]) Try.underlying32 rfl ti32 rfl rfl hc9) ?_
  obtain ⟨r10, hx11, h'⟩ := bind_some h
  clear h
  have h := h'; clear h'
  have hc12 := c_laws_eqItem (aa_0_1 := aa_0_1_1) (ca_0_1 := ca_0_1_1) (ab_1_1 := ab_1_1_1) (cb_1_1 := cb_1_1_1) hx11
  refine st_call (cx_call hc12 (ent_f hc12.fn rfl) hn0 (show Hp S0 σ0 _ ([Ch.ro 0 (Sl aa_0_1_1 a_0.2.2.1 ca_0_1_1) a_0.2.2.1, Ch.ro 0 (Sl ab_1_1_1 b_1.2.2.1 cb_1_1_1) b_1.2.2.1] ++ [Ch.bx n0 b3 0 [(I b_1.1), (I b_1.2.1), (Sl ab_1_1_1 b_1.2.2.1 cb_1_1_1), (I b_1.2.2.2)] [] [], Ch.bx n0 b1 0 [(I a_0.1), (I a_0.2.1), (Sl aa_0_1_1 a_0.2.2.1 ca_0_1_1), (I a_0.2.2.2)] [] [], Ch.ro 0 (Sl aa_0_1_1 a_0.2.2.1 ca_0_1_1) a_0.2.2.1, Ch.ro 0 (Sl ab_1_1_1 b_1.2.2.1 cb_1_1_1) b_1.2.2.1]) from (H.sel' [2, 3, 0, 1, 2, 3] rfl rfl))) wn ?_
  rintro _ σ13 ⟨_, ⟨rfl, rfl⟩, H, -⟩
  replace H : Hp S0 σ0 σ13 [Ch.bx n0 b3 0 [(I b_1.1), (I b_1.2.1), (Sl ab_1_1_1 b_1.2.2.1 cb_1_1_1), (I b_1.2.2.2)] [] [], Ch.bx n0 b1 0 [(I a_0.1), (I a_0.2.1), (Sl aa_0_1_1 a_0.2.2.1 ca_0_1_1), (I a_0.2.2.2)] [] [], Ch.ro 0 (Sl aa_0_1_1 a_0.2.2.1 ca_0_1_1) a_0.2.2.1, Ch.ro 0 (Sl ab_1_1_1 b_1.2.2.1 cb_1_1_1) b_1.2.2.1] := H
  refine st (v := (B (!r10))) (rv_not rfl) ?_
  refine w_end ?_
  refine q_then ?_
  refine cd_cond (!r10) rfl (fun hb14 => ?_) (fun hb14 => ?_)
  ·replace h := bif_t hb14 h
   refine c_seq ?_
   refine rg ?_
   refine st (v := (B false)) (rv_assign rfl) ?_
   refine w_end ?_
   refine q_then ?_
   refine c_ret ?_
   refine q_then_r ?_
   obtain rfl := Option.some.inj h
   exact fin_ret (v := (B false)) (results_ok Try.results78 (res_tmp (v := (B false)) rfl res_nil) rfl) ⟨rfl, rfl⟩ (H.sel' [] rfl rfl)
  ·replace h := bif_f hb14 h
   refine c_skip ?_
   refine q_then ?_
   refine c_seq ?_
   refine rg ?_
   refine st (v := (B true)) (rv_assign rfl) ?_
   refine w_end ?_
   refine q_then ?_
   refine c_ret ?_
   obtain rfl := Option.some.inj h
   exact fin_ret (v := (B true)) (results_ok Try.results78 (res_tmp (v := (B true)) rfl res_nil) rfl) ⟨rfl, rfl⟩ (H.sel' [] rfl rfl)

theorem c_laws_eqEntryS {a_0 : List (Int × (Int × (List Int) × Int))} {b_1 : List (Int × (Int × (List Int) × Int))} {aa_0 : Option Addr} {ca_0 : Nat} {ab_1 : Option Addr} {cb_1 : Nat} {r : Bool} (h : M.laws_eqEntryS a_0 b_1 = some r) :
    Cal2 Try.prog 37 [(Sl aa_0 a_0 ca_0), (Sl ab_1 b_1 cb_1)] [Ch.ro 0 (Sl aa_0 a_0 ca_0) a_0, Ch.ro 0 (Sl ab_1 b_1 cb_1) b_1] (fun n0 v L => v = (B r) ∧ L = []) := by
 refine cal2 (n := 27) Try.func37 rfl rfl rfl rfl ?_
 intro S0 σ0 n0 hn0 H
 unfold M.laws_eqEntryS at h
 refine c_seq ?_
 refine rg ?_
 refine st (v := (B false)) (rv_assign rfl) ?_
 refine w_end ?_
 refine q_then ?_
 refine c_seq ?_
 refine c_seq ?_
 refine rg ?_
 refine st (v := (Sl aa_0 a_0 ca_0)) (rv_move rfl) ?_
 refine st (v := (I (a_0.length : Int))) (rv_len Try.underlying35 rfl) ?_
 refine st (v := (Sl ab_1 b_1 cb_1)) (rv_move rfl) ?_
 refine st (v := (I (b_1.length : Int))) (rv_len Try.underlying35 rfl) ?_
 refine st (v := (B ((a_0.length : Int) != (b_1.length : Int)))) (rv_neq (a := (a_0.length : Int)) (b := (b_1.length : Int)) rfl rfl) ?_
 refine w_end ?_
 refine q_then ?_
 refine cd_cond ((a_0.length : Int) != (b_1.length : Int)) rfl (fun hb1 => ?_) (fun hb1 => ?_)
 ·replace h := bif_t hb1 h
  refine c_seq ?_
  refine rg ?_
  refine st (v := (B false)) (rv_assign rfl) ?_
  refine w_end ?_
  refine q_then ?_
  refine c_ret ?_
  refine q_then_r ?_
  obtain rfl := Option.some.inj h
  exact fin_ret (v := (B false)) (results_ok Try.results37 (res_tmp (v := (B false)) rfl res_nil) rfl) ⟨rfl, rfl⟩ (H.sel' [] rfl rfl)
 ·replace h := bif_f hb1 h
  refine c_skip ?_
  refine q_then ?_
  refine c_seq ?_
  refine c_seq ?_
  refine rg ?_
  refine st (v := (I 0)) (rv_assign rfl) ?_
  refine w_end ?_
  refine q_then ?_
  obtain ⟨o2, hj, h'⟩ := bind_some h
  clear h
  refine c_cut (fun e a w => (∃ t, o2 = (.inl t) ∧ e = .normal ∧ ∃ (ρ : Nat → Value) (σ : St), a = fr 27 (updL ρ []) ∧ w = σ.w ∧ Hp S0 σ0 σ []) ∨ (∃ t, o2 = (.inr t) ∧ e = .ret ∧ ∃ (ρ : Nat → Value) (σ : St), a = fr 27 (updL ρ [(4, (B t))]) ∧ w = σ.w ∧ Hp S0 σ0 σ [])) ?_ ?_
  ·clear h'
   rename _ = some o2 => h
   refine c_blk ?_
   refine wp_loopM _ h (fun s3 a w => ∃ (ρ : Nat → Value) (σ : St), a = fr 27 (updL ρ [(0, (Sl aa_0 a_0 ca_0)), (1, (Sl ab_1 b_1 cb_1)), (5, (I s3))]) ∧ w = σ.w ∧ Hp S0 σ0 σ [Ch.ro 0 (Sl aa_0 a_0 ca_0) a_0, Ch.ro 0 (Sl ab_1 b_1 cb_1) b_1]) ⟨_, σ0, fr_join ⟨rfl, rfl, rfl, trivial⟩, rfl, H.sel' [0, 1] rfl rfl⟩ ?_
   clear h H
   rintro s3 a w o ⟨ρ, σ4, rfl, rfl, H⟩ h hres
   refine c_seq ?_
   refine c_seq ?_
   refine rg ?_
   refine st (v := (I s3)) (rv_move rfl) ?_
   refine st (v := (Sl aa_0 a_0 ca_0)) (rv_move rfl) ?_
   refine st (v := (I (a_0.length : Int))) (rv_len Try.underlying35 rfl) ?_
   refine st (v := (B (decide (s3 < (a_0.length : Int))))) (rv_lss (a := s3) (b := (a_0.length : Int)) rfl rfl) ?_
   refine w_end ?_
   refine q_then ?_
   refine cd_cond (decide (s3 < (a_0.length : Int))) rfl (fun hb5 => ?_) (fun hb5 => ?_)
   ·replace h := bif_t hb5 h
    refine c_skip ?_
    refine q_then ?_
    refine c_seq ?_
    refine c_blk ?_
    refine c_seq ?_
    refine rgP (σ := σ4) 8 (by kernel_rfl) (by kernel_rfl) (by kernel_rfl) ?_
    refine sq (v := (Sl aa_0 a_0 ca_0)) (rv_move rfl) ?_
    refine sq (v := (I s3)) (rv_move rfl) ?_
    obtain ⟨x6, hx7, h'⟩ := bind_some h
    clear h
    have h := h'; clear h'
    obtain ⟨b9, o10, hi8, -⟩ := (H.ro 0 rfl).ix hx7
    refine sq (v := (pt b9 o10)) (rv_ix Try.underlying35 ti42 rfl rfl hi8) ?_
    obtain ⟨_, ⟨_, _, rfl, rfl, ⟨_, _, rfl, rfl, ⟨_, _, rfl, ⟨_, rfl, hR15⟩, rfl⟩⟩⟩, hl11, hc12⟩ := ((H.ro 0 rfl).at hx7 hi8).cells
    obtain ⟨a13, c14, rfl⟩ := hR15.isSl
    replace H := H.add (d := Ch.ro 0 (Sl a13 x6.2.2.1 c14) x6.2.2.1) hR15 (fun _ h => h)
    clear hR15
    refine sq (v := (.agg #[(I x6.1), (I x6.2.1), (Sl a13 x6.2.2.1 c14), (I x6.2.2.2)])) (rv_load Try.underlying42 rfl ti42 rfl hl11 hc12) ?_
    refine sq (v := (Sl ab_1 b_1 cb_1)) (rv_move rfl) ?_
    refine sq (v := (I s3)) (rv_move rfl) ?_
    obtain ⟨x16, hx17, h'⟩ := bind_some h
    clear h
    have h := h'; clear h'
    obtain ⟨b19, o20, hi18, -⟩ := (H.ro 2 rfl).ix hx17
    refine sq (v := (pt b19 o20)) (rv_ix Try.underlying35 ti42 rfl rfl hi18) ?_
    obtain ⟨_, ⟨_, _, rfl, rfl, ⟨_, _, rfl, rfl, ⟨_, _, rfl, ⟨_, rfl, hR25⟩, rfl⟩⟩⟩, hl21, hc22⟩ := ((H.ro 2 rfl).at hx17 hi18).cells
    obtain ⟨a23, c24, rfl⟩ := hR25.isSl
    replace H := H.add (d := Ch.ro 0 (Sl a23 x16.2.2.1 c24) x16.2.2.1) hR25 (fun _ h => h)
    clear hR25
    refine sq (v := (.agg #[(I x16.1), (I x16.2.1), (Sl a23 x16.2.2.1 c24), (I x16.2.2.2)])) (rv_load Try.underlying42 rfl ti42 rfl hl21 hc22) ?_
    refine sq_end ?_
    intro σ26 hm27
    replace H := H.grow (hm27.mono fun _ h => h); clear hm27
    obtain ⟨r28, hx29, h'⟩ := bind_some h
    clear h
    have h := h'; clear h'
    have hc30 := c_laws_eqEntry (aa_0_1_1 := a13) (ca_0_1_1 := c14) (ab_1_1_1 := a23) (cb_1_1_1 := c24) hx29
    refine st_call (cx_call hc30 (ent_f hc30.fn rfl) hn0 (show Hp S0 σ0 _ ([Ch.ro 0 (Sl a13 x6.2.2.1 c14) x6.2.2.1, Ch.ro 0 (Sl a23 x16.2.2.1 c24) x16.2.2.1] ++ [Ch.ro 0 (Sl a23 x16.2.2.1 c24) x16.2.2.1, Ch.ro 0 (Sl a13 x6.2.2.1 c14) x6.2.2.1, Ch.ro 0 (Sl aa_0 a_0 ca_0) a_0, Ch.ro 0 (Sl ab_1 b_1 cb_1) b_1]) from (H.sel' [1, 0, 0, 1, 2, 3] rfl rfl))) wn ?_
    rintro _ σ31 ⟨_, ⟨rfl, rfl⟩, H, -⟩
    replace H : Hp S0 σ0 σ31 [Ch.ro 0 (Sl a23 x16.2.2.1 c24) x16.2.2.1, Ch.ro 0 (Sl a13 x6.2.2.1 c14) x6.2.2.1, Ch.ro 0 (Sl aa_0 a_0 ca_0) a_0, Ch.ro 0 (Sl ab_1 b_1 cb_1) b_1] := H
    refine st (v := (B (!r28))) (rv_not rfl) ?_
    refine w_end ?_
    refine q_then ?_
    refine cd_cond (!r28) rfl (fun hb32 => ?_) (fun hb32 => ?_)
    ·replace h := bif_t hb32 h
     refine c_seq ?_
     refine rg ?_
     refine st (v := (B false)) (rv_assign rfl) ?_
     refine w_end ?_
     refine q_then ?_
     refine c_ret ?_
     refine q_blk_r ?_
     refine q_then_r ?_
     refine q_then_r ?_
     refine q_blk_r ?_
     obtain rfl := Option.some.inj h
     obtain rfl := hres _ rfl
     exact .inr (⟨_, rfl, rfl, _, σ31, fr_join ⟨rfl, trivial⟩, rfl, H.sel' [] rfl rfl⟩)
    ·replace h := bif_f hb32 h
     refine c_skip ?_
     refine q_blk ?_
     refine q_then ?_
     refine rg ?_
     refine st (v := (I s3)) (rv_move rfl) ?_
     refine st (v := (I (w64 (s3 + 1)))) (rv_add (a := s3) (b := 1) rfl rfl) ?_
     refine st (v := (I (w64 (s3 + 1)))) (rv_assign rfl) ?_
     refine w_end ?_
     refine q_then ?_
     obtain rfl := Option.some.inj h
     exact ⟨_, rfl, _, σ31, fr_join ⟨rfl, rfl, rfl, trivial⟩, rfl, H.sel' [2, 3] rfl rfl⟩
   ·replace h := bif_f hb5 h
    refine c_exit ?_
    refine q_then_x ?_
    refine q_then_x ?_
    refine q_blk_hit ?_
    obtain rfl := Option.some.inj h
    obtain rfl := hres _ rfl
    exact .inl ⟨_, rfl, rfl, _, σ4, fr_join trivial, rfl, H.sel' [] rfl rfl⟩
  ·clear hj
   have h := h'
   clear h' H
   rintro e a w (⟨t33, rfl, rfl, ρ, σ34, rfl, rfl, H⟩ | ⟨t35, rfl, rfl, ρ, σ36, rfl, rfl, H⟩)
   ·replace h := selim_l h
    refine q_then ?_
    refine c_seq ?_
    refine rg ?_
    refine st (v := (B true)) (rv_assign rfl) ?_
    refine w_end ?_
    refine q_then ?_
    refine c_ret ?_
    obtain rfl := Option.some.inj h
    exact fin_ret (v := (B true)) (results_ok Try.results37 (res_tmp (v := (B true)) rfl res_nil) rfl) ⟨rfl, rfl⟩ (H.sel' [] rfl rfl)
   ·replace h := selim_r h
    refine q_then_r ?_
    obtain rfl := Option.some.inj h
    exact fin_ret (v := (B t35)) (results_ok Try.results37 (res_tmp (v := (B t35)) rfl res_nil) rfl) ⟨rfl, rfl⟩ (H.sel' [] rfl rfl)

theorem c_laws_FnExactValidLog {aList_0 : List (Int × (Int × (List Int) × Int))} {aaList_0 : Option Addr} {caList_0 : Nat} {r : Bool} (h : M.laws_FnExactValidLog aList_0 = some r) :
    Cal2 Try.prog 8 [(Sl aaList_0 aList_0 caList_0)] [Ch.ro 0 (Sl aaList_0 aList_0 caList_0) aList_0] (fun n0 v L => v = (B r) ∧ L = []) := by
 refine cal2 (n := 27) Try.func8 rfl rfl rfl rfl ?_
 intro S0 σ0 n0 hn0 H
 unfold M.laws_FnExactValidLog at h
 refine c_seq ?_
 refine rg ?_
 refine st (v := (B false)) (rv_assign rfl) ?_
 refine w_end ?_
 refine q_then ?_
 refine c_seq ?_
 refine rg ?_
 refine st (v := (I 1048576)) (rv_assign rfl) ?_
 refine w_end ?_
 refine q_then ?_
 refine c_seq ?_
 refine rg ?_
 refine st (v := (Sl aaList_0 aList_0 caList_0)) (rv_move rfl) ?_
 refine st (v := (I 1048576)) (rv_move rfl) ?_
 obtain ⟨r1, hx2, h'⟩ := bind_some h
 clear h
 have h := h'; clear h'
 have hc3 := c_laws_szEntryS (aa_0 := aaList_0) (ca_0 := caList_0) hx2
 refine st_call (cx_call hc3 (ent_f hc3.fn rfl) hn0 (show Hp S0 σ0 _ ([Ch.ro 0 (Sl aaList_0 aList_0 caList_0) aList_0] ++ [Ch.ro 0 (Sl aaList_0 aList_0 caList_0) aList_0]) from (H.sel' [0, 0] rfl rfl))) wn ?_
 rintro _ σ4 ⟨_, ⟨rfl, rfl⟩, H, -⟩
 replace H : Hp S0 σ0 σ4 [Ch.ro 0 (Sl aaList_0 aList_0 caList_0) aList_0] := H
 refine st (v := (I r1)) (rv_assign rfl) ?_
 refine w_end ?_
 refine q_then ?_
 refine c_seq ?_
 refine c_seq ?_
 refine rg ?_
 refine st (v := (I r1)) (rv_move rfl) ?_
 refine st (v := (B (decide (r1 < 0)))) (rv_lss (a := r1) (b := 0) rfl rfl) ?_
 refine w_end ?_
 refine q_then ?_
 refine cd_cond (decide (r1 < 0)) rfl (fun hb5 => ?_) (fun hb5 => ?_)
 ·replace h := bif_t hb5 h
  refine c_seq ?_
  refine rg ?_
  refine st (v := (B true)) (rv_assign rfl) ?_
  refine w_end ?_
  refine q_then ?_
  refine c_ret ?_
  refine q_then_r ?_
  obtain rfl := Option.some.inj h
  exact fin_ret (v := (B true)) (results_ok Try.results8 (res_tmp (v := (B true)) rfl res_nil) rfl) ⟨rfl, rfl⟩ (H.sel' [] rfl rfl)
 ·replace h := bif_f hb5 h
  refine c_skip ?_
  refine q_then ?_
  refine c_seq ?_
  refine rg ?_
  refine st (v := (Sl aaList_0 aList_0 caList_0)) (rv_move rfl) ?_
  obtain ⟨r6, hx7, h'⟩ := bind_some h
  clear h
  have h := h'; clear h'
  have hc8 := c_laws_toEntryS (aa_0 := aaList_0) (ca_0 := caList_0) hx7
  refine st_call (cx_call hc8 (ent_f hc8.fn rfl) hn0 (show Hp S0 σ0 _ ([Ch.ro 0 (Sl aaList_0 aList_0 caList_0) aList_0] ++ [Ch.ro 0 (Sl aaList_0 aList_0 caList_0) aList_0]) from (H.sel' [0, 0] rfl rfl))) wn ?_
  rintro _ σ12 ⟨_, ⟨a9, c10, rfl, rfl, ht11⟩, H, -⟩
  replace H : Hp S0 σ0 σ12 [Ch.own n0 n0 (Sl a9 r6 c10) r6, Ch.ro 0 (Sl aaList_0 aList_0 caList_0) aList_0] := H
  obtain ⟨σ13, hw14, H, -⟩ := H.pub 0 rfl (Nat.le_refl _)
  rw [← hw14]; clear hw14
  replace H := H.roLow 0 0 rfl (Nat.zero_le _)
  obtain ⟨r15, hx16, h'⟩ := bind_some h
  clear h
  have h := h'; clear h'
  have hc17 := c_spec_ValidLog (alist_0 := a9) (clist_0 := c10) hx16
  refine st_call (cx_call hc17 (ent_f hc17.fn rfl) hn0 (show Hp S0 σ0 _ ([Ch.ro 0 (Sl a9 r6 c10) r6] ++ [Ch.ro 0 (Sl a9 r6 c10) r6, Ch.ro n0 (Sl a9 r6 c10) r6, Ch.ro 0 (Sl aaList_0 aList_0 caList_0) aList_0]) from (H.sel' [0, 0, 1, 2] rfl rfl))) wn ?_
  rintro _ σ18 ⟨_, ⟨rfl, rfl⟩, H, -⟩
  replace H : Hp S0 σ0 σ18 [Ch.ro 0 (Sl a9 r6 c10) r6, Ch.ro n0 (Sl a9 r6 c10) r6, Ch.ro 0 (Sl aaList_0 aList_0 caList_0) aList_0] := H
  refine st (v := (B r15)) (rv_assign rfl) ?_
  refine w_end ?_
  refine q_then ?_
  refine c_seq ?_
  refine rg ?_
  refine st (v := (Sl aaList_0 aList_0 caList_0)) (rv_move rfl) ?_
  obtain ⟨r19, hx20, h'⟩ := bind_some h
  clear h
  have h := h'; clear h'
  have hc21 := c_laws_toEntryS (aa_0 := aaList_0) (ca_0 := caList_0) hx20
  refine st_call (cx_call hc21 (ent_f hc21.fn rfl) hn0 (show Hp S0 σ0 _ ([Ch.ro 0 (Sl aaList_0 aList_0 caList_0) aList_0] ++ [Ch.ro 0 (Sl a9 r6 c10) r6, Ch.ro n0 (Sl a9 r6 c10) r6, Ch.ro 0 (Sl aaList_0 aList_0 caList_0) aList_0]) from (H.sel' [2, 0, 1, 2] rfl rfl))) wn ?_
  rintro _ σ25 ⟨_, ⟨a22, c23, rfl, rfl, ht24⟩, H, -⟩
  replace H : Hp S0 σ0 σ25 [Ch.own n0 n0 (Sl a22 r19 c23) r19, Ch.ro 0 (Sl a9 r6 c10) r6, Ch.ro n0 (Sl a9 r6 c10) r6, Ch.ro 0 (Sl aaList_0 aList_0 caList_0) aList_0] := H
  refine st (v := (Sl a22 r19 c23)) (rv_assign rfl) ?_
  refine w_end ?_
  refine q_then ?_
  refine c_seq ?_
  refine rg ?_
  refine st (v := (Sl a22 r19 c23)) (rv_move rfl) ?_
  obtain ⟨r26, hx27, h'⟩ := bind_some h
  clear h
  have h := h'; clear h'
  have hc28 := c_impl_ValidLog (alist_0 := a22) (clist_0 := c23) hx27
  have hle := Nat.le_trans hn0 H.size
  refine st_call (cx_lend (Loan.lend Loan.nil) hc28 (ent_f hc28.fn rfl) (show Hp S0 σ0 _ ([Ch.own n0 n0 (Sl a22 r19 c23) r19] ++ ([] ++ [Ch.ro 0 (Sl a9 r6 c10) r6, Ch.ro n0 (Sl a9 r6 c10) r6, Ch.ro 0 (Sl aaList_0 aList_0 caList_0) aList_0])) from (H.sel' [0, 1, 2, 3] rfl rfl)) (by rintro _ _ _ ⟨rfl, rfl⟩; exact trivial)) wn ?_
  rintro _ σ29 ⟨_, ⟨rfl, rfl⟩, H, -, -⟩
  replace H : Hp S0 σ0 σ29 [Ch.own n0 n0 (Sl a22 r19 c23) r19, Ch.ro 0 (Sl a9 r6 c10) r6, Ch.ro n0 (Sl a9 r6 c10) r6, Ch.ro 0 (Sl aaList_0 aList_0 caList_0) aList_0] := H
  clear hle
  replace H : Hp S0 σ0 σ29 [Ch.own n0 n0 (Sl a22 r19 c23) r19, Ch.ro 0 (Sl a9 r6 c10) r6, Ch.ro n0 (Sl a9 r6 c10) r6, Ch.ro 0 (Sl aaList_0 aList_0 caList_0) aList_0] := H
  refine st (v := (B r26)) (rv_assign rfl) ?_
  refine w_end ?_
  refine q_then ?_
  refine c_seq ?_
  refine c_seq ?_
  refine rg ?_
  refine st (v := (B r26)) (rv_move rfl) ?_
  refine st (v := (B r15)) (rv_move rfl) ?_
  refine st (v := (B (r26 != r15))) (rv_bneq Try.underlying4 rfl rfl) ?_
  refine w_end ?_
  refine q_then ?_
  refine cd_cond (r26 != r15) rfl (fun hb30 => ?_) (fun hb30 => ?_)
  ·replace h := bif_t hb30 h
   refine c_seq ?_
   refine rg ?_
   refine st (v := (B false)) (rv_assign rfl) ?_
   refine w_end ?_
   refine q_then ?_
   refine c_ret ?_
   refine q_then_r ?_
   obtain rfl := Option.some.inj h
   exact fin_ret (v := (B false)) (results_ok Try.results8 (res_tmp (v := (B false)) rfl res_nil) rfl) ⟨rfl, rfl⟩ (H.sel' [] rfl rfl)
  ·replace h := bif_f hb30 h
   refine c_skip ?_
   refine q_then ?_
   refine c_seq ?_
   refine c_seq ?_
   refine rg ?_
   refine st (v := (Sl a22 r19 c23)) (rv_move rfl) ?_
   refine st (v := (Sl aaList_0 aList_0 caList_0)) (rv_move rfl) ?_
   obtain ⟨r31, hx32, h'⟩ := bind_some h
   clear h
   have h := h'; clear h'
   have hc33 := c_laws_toEntryS (aa_0 := aaList_0) (ca_0 := caList_0) hx32
   refine st_call (cx_call hc33 (ent_f hc33.fn rfl) hn0 (show Hp S0 σ0 _ ([Ch.ro 0 (Sl aaList_0 aList_0 caList_0) aList_0] ++ [Ch.own n0 n0 (Sl a22 r19 c23) r19, Ch.ro 0 (Sl a9 r6 c10) r6, Ch.ro n0 (Sl a9 r6 c10) r6, Ch.ro 0 (Sl aaList_0 aList_0 caList_0) aList_0]) from (H.sel' [3, 0, 1, 2, 3] rfl rfl))) wn ?_
   rintro _ σ37 ⟨_, ⟨a34, c35, rfl, rfl, ht36⟩, H, -⟩
   replace H : Hp S0 σ0 σ37 [Ch.own n0 n0 (Sl a34 r31 c35) r31, Ch.own n0 n0 (Sl a22 r19 c23) r19, Ch.ro 0 (Sl a9 r6 c10) r6, Ch.ro n0 (Sl a9 r6 c10) r6, Ch.ro 0 (Sl aaList_0 aList_0 caList_0) aList_0] := H
   obtain ⟨σ38, hw39, H, -⟩ := H.pub 1 rfl (Nat.le_refl _)
   rw [← hw39]; clear hw39
   obtain ⟨σ40, hw41, H, -⟩ := H.pub 1 rfl (Nat.le_refl _)
   rw [← hw41]; clear hw41
   replace H := H.roLow 1 0 rfl (Nat.zero_le _)
   replace H := H.roLow 1 0 rfl (Nat.zero_le _)
   obtain ⟨r42, hx43, h'⟩ := bind_some h
   clear h
   have h := h'; clear h'
   have hc44 := c_laws_eqEntryS (aa_0 := a22) (ca_0 := c23) (ab_1 := a34) (cb_1 := c35) hx43
   refine st_call (cx_call hc44 (ent_f hc44.fn rfl) hn0 (show Hp S0 σ0 _ ([Ch.ro 0 (Sl a22 r19 c23) r19, Ch.ro 0 (Sl a34 r31 c35) r31] ++ [Ch.ro 0 (Sl a34 r31 c35) r31, Ch.ro 0 (Sl a22 r19 c23) r19, Ch.ro n0 (Sl a34 r31 c35) r31, Ch.ro n0 (Sl a22 r19 c23) r19, Ch.ro 0 (Sl a9 r6 c10) r6, Ch.ro n0 (Sl a9 r6 c10) r6, Ch.ro 0 (Sl aaList_0 aList_0 caList_0) aList_0]) from (H.sel' [1, 0, 0, 1, 2, 3, 4, 5, 6] rfl rfl))) wn ?_
   rintro _ σ45 ⟨_, ⟨rfl, rfl⟩, H, -⟩
   replace H : Hp S0 σ0 σ45 [Ch.ro 0 (Sl a34 r31 c35) r31, Ch.ro 0 (Sl a22 r19 c23) r19, Ch.ro n0 (Sl a34 r31 c35) r31, Ch.ro n0 (Sl a22 r19 c23) r19, Ch.ro 0 (Sl a9 r6 c10) r6, Ch.ro n0 (Sl a9 r6 c10) r6, Ch.ro 0 (Sl aaList_0 aList_0 caList_0) aList_0] := H
   refine st (v := (B (!r42))) (rv_not rfl) ?_
   refine w_end ?_
   refine q_then ?_
   refine cd_cond (!r42) rfl (fun hb46 => ?_) (fun hb46 => ?_)
   ·replace h := bif_t hb46 h
    refine c_seq ?_
    refine rg ?_
    refine st (v := (B false)) (rv_assign rfl) ?_
    refine w_end ?_
    refine q_then ?_
    refine c_ret ?_
    refine q_then_r ?_
    obtain rfl := Option.some.inj h
    exact fin_ret (v := (B false)) (results_ok Try.results8 (res_tmp (v := (B false)) rfl res_nil) rfl) ⟨rfl, rfl⟩ (H.sel' [] rfl rfl)
   ·replace h := bif_f hb46 h
    refine c_skip ?_
    refine q_then ?_
    refine c_seq ?_
    refine rg ?_
    refine st (v := (B true)) (rv_assign rfl) ?_
    refine w_end ?_
    refine q_then ?_
    refine c_ret ?_
    obtain rfl := Option.some.inj h
    exact fin_ret (v := (B true)) (results_ok Try.results8 (res_tmp (v := (B true)) rfl res_nil) rfl) ⟨rfl, rfl⟩ (H.sel' [] rfl rfl)

end Go.Vs
