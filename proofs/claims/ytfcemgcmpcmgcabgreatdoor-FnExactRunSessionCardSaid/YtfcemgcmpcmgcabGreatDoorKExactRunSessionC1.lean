/- The functions compute what their models say. -/
import Derived.Test.YtfcemgcmpcmgcabGreatDoorKExactRunSessionM
import Derived.Test.YtfcemgcmpcmgcabGreatDoorExactRunSessionEng2
import Derived.Test.YtfcemgcmpcmgcabGreatDoorProg
set_option linter.unusedVariables false
set_option linter.unusedSimpArgs false
set_option maxRecDepth 20000
namespace Go.Vs
open Go Go.Proofs
attribute [local irreducible] Code.wp Code.wpIn wpList wpListIn wpQuiet Calls CallsIn

theorem ti3 : TI Tryz.prog 3 (.int .i64 0) 1 8 := TI.mk' (by kernel_rfl)
theorem ti5 : TI Tryz.prog 5 (.int .u8 0) 1 1 := TI.mk' (by kernel_rfl)
theorem ti9 : TI Tryz.prog 9 (.string ⟨#[]⟩) 1 16 := TI.mk' (by kernel_rfl)
theorem ti24 : TI Tryz.prog 24 .nilFunc 1 8 := TI.mk' (by kernel_rfl)
theorem ti29 : TI Tryz.prog 29 (.slice none 0 0) 1 24 := TI.mk' (by kernel_rfl)
theorem ti31 : TI Tryz.prog 31 (.agg #[(.slice none 0 0), (.int .i64 0)]) 2 32 := TI.mk' (by kernel_rfl)
theorem ti34 : TI Tryz.prog 34 (.agg #[(.slice none 0 0), (.int .i64 0)]) 2 32 := TI.mk' (by kernel_rfl)
theorem ti40 : TI Tryz.prog 40 (.agg #[(.pointer none), (.slice none 0 0)]) 2 32 := TI.mk' (by kernel_rfl)
theorem ti51 : TI Tryz.prog 51 (.slice none 0 0) 1 24 := TI.mk' (by kernel_rfl)
theorem ti60 : TI Tryz.prog 60 (.agg #[(.int .i64 0), .nilFunc]) 2 16 := TI.mk' (by kernel_rfl)
theorem ti67 : TI Tryz.prog 67 (.agg #[(.int .i64 0), (.slice none 0 0), (.int .i64 0)]) 3 40 := TI.mk' (by kernel_rfl)
theorem ti74 : TI Tryz.prog 74 (.slice none 0 0) 1 24 := TI.mk' (by kernel_rfl)
theorem ti81 : TI Tryz.prog 81 (.agg #[(.int .i64 0), (.int .i64 0)]) 2 16 := TI.mk' (by kernel_rfl)
theorem ti113 : TI Tryz.prog 113 (.agg #[(.int .i64 0), (.int .i64 0), (.int .i64 0), (.int .i64 0)]) 4 32 := TI.mk' (by kernel_rfl)
theorem ti120 : TI Tryz.prog 120 (.slice none 0 0) 1 24 := TI.mk' (by kernel_rfl)
theorem ti122 : TI Tryz.prog 122 (.agg #[(.int .i64 0), (.slice none 0 0)]) 2 32 := TI.mk' (by kernel_rfl)
theorem bp31 {fs : Array Field} (hT : Tryz.prog.underlying 31 = some (.struct fs)) (w : World) : (fs.mapM (fun f => do pure (f.offset, ← sizeOf f.type)) : Sem (Array (Nat × Nat))).run Tryz.prog w = .ok #[(0, 1), (1, 1)] w := by
  rw [Tryz.underlying31] at hT; cases hT
  simp [run_typeInfo ti29, run_typeInfo ti3]
theorem bp34 {fs : Array Field} (hT : Tryz.prog.underlying 34 = some (.struct fs)) (w : World) : (fs.mapM (fun f => do pure (f.offset, ← sizeOf f.type)) : Sem (Array (Nat × Nat))).run Tryz.prog w = .ok #[(0, 1), (1, 1)] w := by
  rw [Tryz.underlying34] at hT; cases hT
  simp [run_typeInfo ti29, run_typeInfo ti3]
theorem bp60 {fs : Array Field} (hT : Tryz.prog.underlying 60 = some (.struct fs)) (w : World) : (fs.mapM (fun f => do pure (f.offset, ← sizeOf f.type)) : Sem (Array (Nat × Nat))).run Tryz.prog w = .ok #[(0, 1), (1, 1)] w := by
  rw [Tryz.underlying60] at hT; cases hT
  simp [run_typeInfo ti24, run_typeInfo ti3]
theorem bp67 {fs : Array Field} (hT : Tryz.prog.underlying 67 = some (.struct fs)) (w : World) : (fs.mapM (fun f => do pure (f.offset, ← sizeOf f.type)) : Sem (Array (Nat × Nat))).run Tryz.prog w = .ok #[(0, 1), (1, 1), (2, 1)] w := by
  rw [Tryz.underlying67] at hT; cases hT
  simp [run_typeInfo ti3, run_typeInfo ti51]
theorem bp81 {fs : Array Field} (hT : Tryz.prog.underlying 81 = some (.struct fs)) (w : World) : (fs.mapM (fun f => do pure (f.offset, ← sizeOf f.type)) : Sem (Array (Nat × Nat))).run Tryz.prog w = .ok #[(0, 1), (1, 1)] w := by
  rw [Tryz.underlying81] at hT; cases hT
  simp [run_typeInfo ti3]
theorem bp122 {fs : Array Field} (hT : Tryz.prog.underlying 122 = some (.struct fs)) (w : World) : (fs.mapM (fun f => do pure (f.offset, ← sizeOf f.type)) : Sem (Array (Nat × Nat))).run Tryz.prog w = .ok #[(0, 1), (1, 1)] w := by
  rw [Tryz.underlying122] at hT; cases hT
  simp [run_typeInfo ti120, run_typeInfo ti3]

theorem c_laws_szStringS {Aa : List ByteArray} {Ac : Int} {Ad : Option Addr} {Ae : Nat} {r : Int} (h : M.laws_szStringS Aa Ac = some r) :
    Cal2 Tryz.prog 4 [(Sl Ad Aa Ae), (I Ac)] [Ch.ro 0 (Sl Ad Aa Ae) Aa] (fun n0 v L => v = (I r) ∧ L = []) := by
 refine cal2 (n := 28) Tryz.func4 rfl rfl rfl rfl ?_
 intro S0 σ0 n0 hn0 H
 unfold M.laws_szStringS at h
 refine c_seq (rg (sa (I 0) rfl (w_end (q_then (c_seq (rg (sm (I Ac) rfl (sm (Sl Ad Aa Ae) rfl (st (v := (I (Aa.length : Int))) (rv_len Tryz.underlying22 rfl) (st (v := (I (w64 (Ac - (Aa.length : Int))))) (rv_sub (a := Ac) (b := (Aa.length : Int)) rfl rfl) (sa (I (w64 (Ac - (Aa.length : Int)))) rfl ?_)))))))))))
 refine w_end (q_then (c_seq (c_seq (rg (sm (I (w64 (Ac - (Aa.length : Int)))) rfl (st (v := (B (decide ((w64 (Ac - (Aa.length : Int))) < 0)))) (rv_lss (a := (w64 (Ac - (Aa.length : Int)))) (b := 0) rfl rfl) (w_end (q_then ?_))))))))
 refine cd_cond (decide ((w64 (Ac - (Aa.length : Int))) < 0)) rfl (fun hb1 => ?_) (fun hb1 => ?_)
 ·replace h := bif_t hb1 h
  refine c_seq (rg (sa (I (-1)) rfl (w_end (q_then (c_ret (q_then_r ?_))))))
  obtain rfl := sj h
  exact fin_ret (v := (I (-1))) (results_ok Tryz.results4 (res_tmp (v := (I (-1))) rfl res_nil) rfl) ⟨rfl, rfl⟩ (H.sel' [] rfl rfl)
 ·replace h := bif_f hb1 h
  refine c_skip (q_then (c_seq (c_seq (rg (sa (I 0) rfl (w_end (q_then ?_)))))))
  obtain ⟨o2, hj, h'⟩ := bind_some h
  clear h
  refine c_cut (fun e a w => (∃ t, o2 = (.inl t) ∧ e = .normal ∧ ∃ (ρ : Nat → Value) (σ : St), a = fr 28 (updL ρ [(1, (I t))]) ∧ w = σ.w ∧ Hp S0 σ0 σ []) ∨ (∃ t, o2 = (.inr t) ∧ e = .ret ∧ ∃ (ρ : Nat → Value) (σ : St), a = fr 28 (updL ρ [(4, (I t))]) ∧ w = σ.w ∧ Hp S0 σ0 σ [])) ?_ ?_
  ·clear h'
   rename _ = some o2 => h
   refine c_blk (wp_loopM _ h (fun s3 a w => ∃ (ρ : Nat → Value) (σ : St), a = fr 28 (updL ρ [(0, (Sl Ad Aa Ae)), (1, (I s3.1)), (5, (I s3.2))]) ∧ w = σ.w ∧ Hp S0 σ0 σ [Ch.ro 0 (Sl Ad Aa Ae) Aa]) ⟨_, σ0, fr_join ⟨rfl, rfl, rfl, trivial⟩, rfl, H.sel' [0] rfl rfl⟩ ?_)
   clear h H
   rintro s3 a w o ⟨ρ, σ4, rfl, rfl, H⟩ h hres
   refine c_seq (c_seq (rg (sm (I s3.2) rfl (sm (Sl Ad Aa Ae) rfl (st (v := (I (Aa.length : Int))) (rv_len Tryz.underlying22 rfl) (st (v := (B (decide (s3.2 < (Aa.length : Int))))) (rv_lss (a := s3.2) (b := (Aa.length : Int)) rfl rfl) (w_end (q_then ?_))))))))
   refine cd_cond (decide (s3.2 < (Aa.length : Int))) rfl (fun hb5 => ?_) (fun hb5 => ?_)
   ·replace h := bif_t hb5 h
    refine c_skip (q_then (c_seq (c_blk (c_seq (rg (sm (I s3.1) rfl (sm (Sl Ad Aa Ae) rfl (sm (I s3.2) rfl ?_))))))))
    revert h; refine br fun x6 hx7 h => ?_
    obtain ⟨b9, o10, hi8, -⟩ := (H.ro 0 rfl).ix hx7
    refine st (v := (pt b9 o10)) (rv_ix Tryz.underlying22 ti9 rfl rfl hi8) ?_
    have hc11 := ((H.ro 0 rfl).at hx7 hi8).str
    refine st (v := (.string x6)) (rv_load1 Tryz.underlying9 rfl rfl hc11) (st (v := (I (x6.size : Int))) (rv_slen Tryz.underlying9 rfl) (st (v := (I (w64 (s3.1 - (x6.size : Int))))) (rv_sub (a := s3.1) (b := (x6.size : Int)) rfl rfl) (sa (I (w64 (s3.1 - (x6.size : Int)))) rfl (w_end (q_then (c_seq (rg (sm (I (w64 (s3.1 - (x6.size : Int)))) rfl (st (v := (B (decide ((w64 (s3.1 - (x6.size : Int))) < 0)))) (rv_lss (a := (w64 (s3.1 - (x6.size : Int)))) (b := 0) rfl rfl) (w_end (q_then ?_)))))))))))
    refine cd_cond (decide ((w64 (s3.1 - (x6.size : Int))) < 0)) rfl (fun hb12 => ?_) (fun hb12 => ?_)
    ·replace h := bif_t hb12 h
     refine c_seq (rg (sa (I (-1)) rfl (w_end (q_then (c_ret (q_blk_r (q_then_r (q_then_r (q_blk_r ?_)))))))))
     obtain rfl := sj h
     obtain rfl := hres _ rfl
     exact .inr (⟨_, rfl, rfl, _, σ4, fr_join ⟨rfl, trivial⟩, rfl, H.sel' [] rfl rfl⟩)
    ·replace h := bif_f hb12 h
     refine c_skip (q_blk (q_then (rg (sm (I s3.2) rfl (st (v := (I (w64 (s3.2 + 1)))) (rv_add (a := s3.2) (b := 1) rfl rfl) (sa (I (w64 (s3.2 + 1))) rfl (w_end (q_then ?_))))))))
     obtain rfl := sj h
     exact ⟨_, rfl, _, σ4, fr_join ⟨rfl, rfl, rfl, trivial⟩, rfl, H.sel' [0] rfl rfl⟩
   ·replace h := bif_f hb5 h
    refine c_exit (q_then_x (q_then_x (q_blk_hit ?_)))
    obtain rfl := sj h
    obtain rfl := hres _ rfl
    exact .inl ⟨_, rfl, rfl, _, σ4, fr_join ⟨rfl, trivial⟩, rfl, H.sel' [] rfl rfl⟩
  ·clear hj
   have h := h'
   clear h' H
   rintro e a w (⟨t13, rfl, rfl, ρ, σ14, rfl, rfl, H⟩ | ⟨t15, rfl, rfl, ρ, σ16, rfl, rfl, H⟩)
   ·replace h := selim_l h
    refine q_then (c_seq (rg (sm (I t13) rfl (sa (I t13) rfl (w_end (q_then (c_ret ?_)))))))
    obtain rfl := sj h
    exact fin_ret (v := (I t13)) (results_ok Tryz.results4 (res_tmp (v := (I t13)) rfl res_nil) rfl) ⟨rfl, rfl⟩ (H.sel' [] rfl rfl)
   ·replace h := selim_r h
    refine q_then_r ?_
    obtain rfl := sj h
    exact fin_ret (v := (I t15)) (results_ok Tryz.results4 (res_tmp (v := (I t15)) rfl res_nil) rfl) ⟨rfl, rfl⟩ (H.sel' [] rfl rfl)

theorem c_spec_splitAt {Af : ByteArray} {Ag : UInt8}  {r : (List ByteArray)} (h : M.spec_splitAt Af Ag = some r) :
    Cal2 Tryz.prog 15 [(.string Af), (.int .u8 (Ag.toNat : Int))] [] (fun n0 v L => ∃ (az1 : Option Addr), ∃ (cz2 : Nat), v = (Sl az1 r cz2) ∧ L = [Ch.own n0 n0 (Sl az1 r cz2) r]) := by
 refine cal2 (n := 35) Tryz.func15 rfl rfl rfl rfl ?_
 intro S0 σ0 n0 hn0 H
 unfold M.spec_splitAt at h
 refine c_seq (rg (sa (.slice none 0 0) rfl (w_end (q_then (c_seq (rg ?_))))))
 refine st_ex (ex_buildSlice (el := n0) (xs := ([] : List ByteArray)) (ps := []) (cs := []) H hn0 Tryz.underlying22 ti9 rfl rfl (by kernel_rfl) (.nil) rfl) wn ?_
 rintro _ σ2 ⟨b1, rfl, H, -⟩
 refine sa (Sl (some ⟨b1, 0, none⟩) ([] : List ByteArray) 0) rfl (w_end (q_then (c_seq (rg (sa (I 0) rfl (w_end (q_then (c_seq (c_seq (rg (sa (I 0) rfl ?_)))))))))))
 refine w_end (q_then ?_)
 obtain ⟨o3, hj, h'⟩ := bind_some h
 clear h
 refine c_cut (fun e a w => e = .normal ∧ ∃ (ρ : Nat → Value) (σ : St) (aj1 : Option Addr) (cj2 : Nat), a = fr 35 (updL ρ [(0, (.string Af)), (5, (Sl aj1 o3.1 cj2)), (6, (I o3.2))]) ∧ w = σ.w ∧ Hp S0 σ0 σ [Ch.own n0 n0 (Sl aj1 o3.1 cj2) o3.1]) ?_ ?_
 ·clear h'
  rename _ = some o3 => h
  refine c_blk (wp_loopM _ h (fun s4 a w => ∃ (ρ : Nat → Value) (σ : St) (aj1 : Option Addr) (cj2 : Nat), a = fr 35 (updL ρ [(0, (.string Af)), (1, (.int .u8 (Ag.toNat : Int))), (5, (Sl aj1 s4.1 cj2)), (6, (I s4.2.1)), (7, (I s4.2.2))]) ∧ w = σ.w ∧ Hp S0 σ0 σ [Ch.own n0 n0 (Sl aj1 s4.1 cj2) s4.1]) ⟨_, σ2, (some ⟨b1, 0, none⟩), 0, fr_join ⟨rfl, rfl, rfl, rfl, rfl, trivial⟩, rfl, H.sel' [0] rfl rfl⟩ ?_)
  clear h H
  rintro s4 a w o ⟨ρ, σ5, a6, c7, rfl, rfl, H⟩ h hres
  refine c_seq (c_seq (rg (sm (I s4.2.2) rfl (sm (.string Af) rfl (st (v := (I (Af.size : Int))) (rv_slen Tryz.underlying9 rfl) (st (v := (B (decide (s4.2.2 < (Af.size : Int))))) (rv_lss (a := s4.2.2) (b := (Af.size : Int)) rfl rfl) (w_end (q_then ?_))))))))
  refine cd_cond (decide (s4.2.2 < (Af.size : Int))) rfl (fun hb8 => ?_) (fun hb8 => ?_)
  ·replace h := bif_t hb8 h
   refine c_skip (q_then (c_seq ?_))
   obtain ⟨o9, hj, h'⟩ := bind_some h
   clear h
   refine c_cut (fun e a w => e = .normal ∧ ∃ (ρ : Nat → Value) (σ : St) (aj1 : Option Addr) (cj2 : Nat), a = fr 35 (updL ρ [(0, (.string Af)), (1, (.int .u8 (Ag.toNat : Int))), (5, (Sl aj1 o9.1 cj2)), (6, (I o9.2)), (7, (I s4.2.2))]) ∧ w = σ.w ∧ Hp S0 σ0 σ [Ch.own n0 n0 (Sl aj1 o9.1 cj2) o9.1]) ?_ ?_
   ·clear h'
    rename _ = some o9 => h
    refine c_blk (c_seq (rg (sm (.string Af) rfl (sm (I s4.2.2) rfl ?_))))
    revert h; refine br fun x10 hx11 h => ?_
    refine st (v := (.int .u8 (x10.toNat : Int))) (rv_six Tryz.underlying9 rfl rfl hx11) (sm (.int .u8 (Ag.toNat : Int)) rfl (st (v := (B ((x10.toNat : Int) == (Ag.toNat : Int)))) (rvk_eql (k := .u8) (a := (x10.toNat : Int)) (b := (Ag.toNat : Int)) rfl rfl) (w_end (q_then ?_))))
    refine cd_cond ((x10.toNat : Int) == (Ag.toNat : Int)) rfl (fun hb12 => ?_) (fun hb12 => ?_)
    ·replace h := bif_t hb12 h
     refine c_seq (rg (sm (Sl a6 s4.1 c7) rfl (sm (.string Af) rfl (sm (I s4.2.1) rfl (sm (I s4.2.2) rfl ?_)))))
     revert h; refine br fun s13 hx14 h => ?_
     refine st (v := (.string s13)) (rv_ssub Tryz.underlying9 rfl rfl rfl hx14) ?_
     refine st_ex (ex_buildSlice (el := n0) (xs := ([s13] : List ByteArray)) (ps := [(0, (.string s13))]) (cs := [(.string s13)]) H hn0 Tryz.underlying22 ti9 rfl rfl (by kernel_rfl) (.cons (c := [(.string s13)]) rfl (.nil)) rfl) wn ?_
     rintro _ σ16 ⟨b15, rfl, H, -⟩
     revert h; refine br fun xs17 hx18 h => ?_
     refine st_ex (ex_append H (i := 1) rfl Tryz.underlying22 Tryz.underlying22 ti9 rfl rfl (by decide) (H.own 0 rfl).rd hx18 hn0 rfl rfl) wn ?_
     rintro _ σ21 ⟨a19, c20, rfl, H, -⟩
     refine sa (Sl a19 xs17 c20) rfl (w_end (q_then (rg (sm (I s4.2.2) rfl (st (v := (I (w64 (s4.2.2 + 1)))) (rv_add (a := s4.2.2) (b := 1) rfl rfl) (sa (I (w64 (s4.2.2 + 1))) rfl (w_end (q_blk ?_))))))))
     obtain rfl := sj h
     exact ⟨rfl, _, σ21, a19, c20, fr_join ⟨rfl, rfl, rfl, rfl, rfl, trivial⟩, rfl, H.sel' [0] rfl rfl⟩
    ·replace h := bif_f hb12 h
     refine c_skip (q_blk ?_)
     obtain rfl := sj h
     exact ⟨rfl, _, σ5, a6, c7, fr_join ⟨rfl, rfl, rfl, rfl, rfl, trivial⟩, rfl, H.sel' [0] rfl rfl⟩
   ·clear hj
    have h := h'
    clear h' H
    rintro e a w ⟨rfl, ρ, σ22, a23, c24, rfl, rfl, H⟩
    refine q_then (rg (sm (I s4.2.2) rfl (st (v := (I (w64 (s4.2.2 + 1)))) (rv_add (a := s4.2.2) (b := 1) rfl rfl) (sa (I (w64 (s4.2.2 + 1))) rfl (w_end (q_then ?_))))))
    obtain rfl := sj h
    exact ⟨_, rfl, _, σ22, a23, c24, fr_join ⟨rfl, rfl, rfl, rfl, rfl, trivial⟩, rfl, H.sel' [0] rfl rfl⟩
  ·replace h := bif_f hb8 h
   refine c_exit (q_then_x (q_then_x (q_blk_hit ?_)))
   obtain rfl := sj h
   obtain rfl := hres _ rfl
   exact ⟨rfl, _, σ5, a6, c7, fr_join ⟨rfl, rfl, rfl, trivial⟩, rfl, H.sel' [0] rfl rfl⟩
 ·clear hj
  have h := h'
  clear h' H
  rintro e a w ⟨rfl, ρ, σ25, a26, c27, rfl, rfl, H⟩
  refine q_then (c_seq (rg (sm (Sl a26 o3.1 c27) rfl (sm (.string Af) rfl (sm (I o3.2) rfl ?_)))))
  revert h; refine br fun s28 hx29 h => ?_
  refine st (v := (.string s28)) (rv_ssubL Tryz.underlying9 rfl rfl hx29) ?_
  refine st_ex (ex_buildSlice (el := n0) (xs := ([s28] : List ByteArray)) (ps := [(0, (.string s28))]) (cs := [(.string s28)]) H hn0 Tryz.underlying22 ti9 rfl rfl (by kernel_rfl) (.cons (c := [(.string s28)]) rfl (.nil)) rfl) wn ?_
  rintro _ σ31 ⟨b30, rfl, H, -⟩
  revert h; refine br fun xs32 hx33 h => ?_
  refine st_ex (ex_append H (i := 1) rfl Tryz.underlying22 Tryz.underlying22 ti9 rfl rfl (by decide) (H.own 0 rfl).rd hx33 hn0 rfl rfl) wn ?_
  rintro _ σ36 ⟨a34, c35, rfl, H, -⟩
  refine sa (Sl a34 xs32 c35) rfl (w_end (q_then (c_ret ?_)))
  obtain rfl := sj h
  exact fin_ret (v := (Sl a34 xs32 c35)) (results_ok Tryz.results15 (res_tmp (v := (Sl a34 xs32 c35)) rfl res_nil) rfl) ⟨a34, c35, rfl, rfl⟩ (H.sel' [0] rfl rfl)

theorem c_spec_inRange {Ah : Int} {Ai : Int} {Aj : Int}  {r : Bool} (h : M.spec_inRange Ah Ai Aj = some r) :
    Cal2 Tryz.prog 36 [(I Ah), (I Ai), (I Aj)] [] (fun n0 v L => v = (B r) ∧ L = []) := by
 refine cal2 (n := 15) Tryz.func36 rfl rfl rfl rfl ?_
 intro S0 σ0 n0 hn0 H
 unfold M.spec_inRange at h
 refine c_seq (rg (sa (B false) rfl (w_end (q_then (c_seq (rg (sm (I Ai) rfl (sm (I Ah) rfl (st (v := (B (decide (Ai ≤ Ah)))) (rv_leq (a := Ai) (b := Ah) rfl rfl) (sm (B (decide (Ai ≤ Ah))) rfl ?_))))))))))
 rcases Bool.eq_false_or_eq_true (decide (Ai ≤ Ah)) with hb1 | hb1
 ·replace h := bif_t hb1 h
  refine st_g (v := (I Ah)) (congrArg some hb1) (rv_move rfl) (st_g (v := (I Aj)) (congrArg some hb1) (rv_move rfl) (st_g (v := (B (decide (Ah ≤ Aj)))) (congrArg some hb1) (rv_leq (a := Ah) (b := Aj) rfl rfl) (st (v := (B (decide (Ah ≤ Aj)))) (rv_pick_t (congrArg B hb1) rfl) (sa (B (decide (Ah ≤ Aj))) rfl (w_end (q_then (c_ret ?_)))))))
  obtain rfl := sj h
  exact fin_ret (v := (B (decide (Ah ≤ Aj)))) (results_ok Tryz.results36 (res_tmp (v := (B (decide (Ah ≤ Aj)))) rfl res_nil) rfl) ⟨rfl, rfl⟩ (H.sel' [] rfl rfl)
 ·replace h := bif_f hb1 h
  refine st_skip (congrArg some hb1) (st_skip (congrArg some hb1) (st_skip (congrArg some hb1) (st (v := (B false)) (rv_pick_f (congrArg B hb1) rfl) (sa (B false) rfl (w_end (q_then (c_ret ?_)))))))
  obtain rfl := sj h
  exact fin_ret (v := (B false)) (results_ok Tryz.results36 (res_tmp (v := (B false)) rfl res_nil) rfl) ⟨rfl, rfl⟩ (H.sel' [] rfl rfl)

theorem c_spec_allIn {Ak : List Int} {Ai : Int} {Aj : Int} {Am : Option Addr} {Ao : Nat} {r : Bool} (h : M.spec_allIn Ak Ai Aj = some r) :
    Cal2 Tryz.prog 58 [(Sl Am Ak Ao), (I Ai), (I Aj)] [Ch.ro 0 (Sl Am Ak Ao) Ak] (fun n0 v L => v = (B r) ∧ L = []) := by
 refine cal2 (n := 22) Tryz.func58 rfl rfl rfl rfl ?_
 intro S0 σ0 n0 hn0 H
 unfold M.spec_allIn at h
 refine c_seq (rg (sa (B false) rfl (w_end (q_then (c_seq (c_seq (rg (sa (I 0) rfl (w_end (q_then ?_))))))))))
 obtain ⟨o1, hj, h'⟩ := bind_some h
 clear h
 refine c_cut (fun e a w => (∃ t, o1 = (.inl t) ∧ e = .normal ∧ ∃ (ρ : Nat → Value) (σ : St), a = fr 22 (updL ρ []) ∧ w = σ.w ∧ Hp S0 σ0 σ []) ∨ (∃ t, o1 = (.inr t) ∧ e = .ret ∧ ∃ (ρ : Nat → Value) (σ : St), a = fr 22 (updL ρ [(6, (B t))]) ∧ w = σ.w ∧ Hp S0 σ0 σ [])) ?_ ?_
 ·clear h'
  rename _ = some o1 => h
  refine c_blk (wp_loopM _ h (fun s2 a w => ∃ (ρ : Nat → Value) (σ : St), a = fr 22 (updL ρ [(0, (Sl Am Ak Ao)), (1, (I Ai)), (2, (I Aj)), (7, (I s2))]) ∧ w = σ.w ∧ Hp S0 σ0 σ [Ch.ro 0 (Sl Am Ak Ao) Ak]) ⟨_, σ0, fr_join ⟨rfl, rfl, rfl, rfl, trivial⟩, rfl, H.sel' [0] rfl rfl⟩ ?_)
  clear h H
  rintro s2 a w o ⟨ρ, σ3, rfl, rfl, H⟩ h hres
  refine c_seq (c_seq (rg (sm (I s2) rfl (sm (Sl Am Ak Ao) rfl (st (v := (I (Ak.length : Int))) (rv_len Tryz.underlying51 rfl) (st (v := (B (decide (s2 < (Ak.length : Int))))) (rv_lss (a := s2) (b := (Ak.length : Int)) rfl rfl) (w_end (q_then ?_))))))))
  refine cd_cond (decide (s2 < (Ak.length : Int))) rfl (fun hb4 => ?_) (fun hb4 => ?_)
  ·replace h := bif_t hb4 h
   refine c_skip (q_then (c_seq (c_blk (c_seq (rg (sm (Sl Am Ak Ao) rfl (sm (I s2) rfl ?_)))))))
   revert h; refine br fun x5 hx6 h => ?_
   obtain ⟨b8, o9, hi7, -⟩ := (H.ro 0 rfl).ix hx6
   refine st (v := (pt b8 o9)) (rv_ix Tryz.underlying51 ti3 rfl rfl hi7) ?_
   have hc10 := ((H.ro 0 rfl).at hx6 hi7).int
   refine st (v := (I x5)) (rv_load1 Tryz.underlying3 rfl rfl hc10) (sm (I Ai) rfl (sm (I Aj) rfl ?_))
   revert h; refine br fun r11 hx12 h => ?_
   have hc13 := c_spec_inRange hx12
   refine st_call (cx_call hc13 (ent_f hc13.fn rfl) hn0 (H.sel' [0] rfl rfl : Hp S0 σ0 _ ([] ++ _))) wn ?_
   rintro _ σ14 ⟨_, ⟨rfl, rfl⟩, H, -⟩
   replace H : Hp _ _ _ [_] := H
   refine st (v := (B (!r11))) (rv_not rfl) (w_end (q_then ?_))
   refine cd_cond (!r11) rfl (fun hb15 => ?_) (fun hb15 => ?_)
   ·replace h := bif_t hb15 h
    refine c_seq (rg (sa (B false) rfl (w_end (q_then (c_ret (q_blk_r (q_then_r (q_then_r (q_blk_r ?_)))))))))
    obtain rfl := sj h
    obtain rfl := hres _ rfl
    exact .inr (⟨_, rfl, rfl, _, σ14, fr_join ⟨rfl, trivial⟩, rfl, H.sel' [] rfl rfl⟩)
   ·replace h := bif_f hb15 h
    refine c_skip (q_blk (q_then (rg (sm (I s2) rfl (st (v := (I (w64 (s2 + 1)))) (rv_add (a := s2) (b := 1) rfl rfl) (sa (I (w64 (s2 + 1))) rfl (w_end (q_then ?_))))))))
    obtain rfl := sj h
    exact ⟨_, rfl, _, σ14, fr_join ⟨rfl, rfl, rfl, rfl, trivial⟩, rfl, H.sel' [0] rfl rfl⟩
  ·replace h := bif_f hb4 h
   refine c_exit (q_then_x (q_then_x (q_blk_hit ?_)))
   obtain rfl := sj h
   obtain rfl := hres _ rfl
   exact .inl ⟨_, rfl, rfl, _, σ3, fr_join trivial, rfl, H.sel' [] rfl rfl⟩
 ·clear hj
  have h := h'
  clear h' H
  rintro e a w (⟨t16, rfl, rfl, ρ, σ17, rfl, rfl, H⟩ | ⟨t18, rfl, rfl, ρ, σ19, rfl, rfl, H⟩)
  ·replace h := selim_l h
   refine q_then (c_seq (rg (sa (B true) rfl (w_end (q_then (c_ret ?_))))))
   obtain rfl := sj h
   exact fin_ret (v := (B true)) (results_ok Tryz.results58 (res_tmp (v := (B true)) rfl res_nil) rfl) ⟨rfl, rfl⟩ (H.sel' [] rfl rfl)
  ·replace h := selim_r h
   refine q_then_r ?_
   obtain rfl := sj h
   exact fin_ret (v := (B t18)) (results_ok Tryz.results58 (res_tmp (v := (B t18)) rfl res_nil) rfl) ⟨rfl, rfl⟩ (H.sel' [] rfl rfl)

theorem c_spec_isVector {Ap : List Int} {Aq : Option Addr} {Ar : Nat} {r : Bool} (h : M.spec_isVector Ap = some r) :
    Cal2 Tryz.prog 35 [(Sl Aq Ap Ar)] [Ch.ro 0 (Sl Aq Ap Ar) Ap] (fun n0 v L => v = (B r) ∧ L = []) := by
 refine cal2 (n := 10) Tryz.func35 rfl rfl rfl rfl ?_
 intro S0 σ0 n0 hn0 H
 unfold M.spec_isVector at h
 refine c_seq (rg (sa (B false) rfl (w_end (q_then (c_seq (rg (sm (Sl Aq Ap Ar) rfl (st (v := (I (Ap.length : Int))) (rv_len Tryz.underlying51 rfl) (st (v := (B ((Ap.length : Int) == 4))) (rv_eql (a := (Ap.length : Int)) (b := 4) rfl rfl) (sm (B ((Ap.length : Int) == 4)) rfl ?_))))))))))
 rcases Bool.eq_false_or_eq_true ((Ap.length : Int) == 4) with hb1 | hb1
 ·replace h := bif_t hb1 h
  refine st_g (v := (Sl Aq Ap Ar)) (congrArg some hb1) (rv_move rfl) ?_
  revert h; refine br fun r2 hx3 h => ?_
  have hc4 := c_spec_allIn (Am := Aq) (Ao := Ar) hx3
  refine st_call (cx_call hc4 (ent_f hc4.fn rfl) hn0 (H.sel' [0, 0] rfl rfl : Hp S0 σ0 _ ([_] ++ _))) (wanted_yes rfl (by exact (congrArg some hb1))) ?_
  rintro _ σ5 ⟨_, ⟨rfl, rfl⟩, H, -⟩
  replace H : Hp _ _ _ [_] := H
  refine st (v := (B r2)) (rv_pick_t (congrArg B hb1) rfl) (sa (B r2) rfl (w_end (q_then (c_ret ?_))))
  obtain rfl := sj h
  exact fin_ret (v := (B r2)) (results_ok Tryz.results35 (res_tmp (v := (B r2)) rfl res_nil) rfl) ⟨rfl, rfl⟩ (H.sel' [] rfl rfl)
 ·replace h := bif_f hb1 h
  refine st_skip (congrArg some hb1) (st_skip (congrArg some hb1) (st (v := (B false)) (rv_pick_f (congrArg B hb1) rfl) (sa (B false) rfl (w_end (q_then (c_ret ?_))))))
  obtain rfl := sj h
  exact fin_ret (v := (B false)) (results_ok Tryz.results35 (res_tmp (v := (B false)) rfl res_nil) rfl) ⟨rfl, rfl⟩ (H.sel' [] rfl rfl)

theorem c_spec_validItem {Au : Int × (List Int) × Int} {Av : Option Addr} {Aw : Nat} {r : Bool} (h : M.spec_validItem Au = some r) :
    Cal2 Tryz.prog 54 [(.agg #[(I Au.1), (Sl Av Au.2.1 Aw), (I Au.2.2)])] [Ch.ro 0 (Sl Av Au.2.1 Aw) Au.2.1] (fun n0 v L => v = (B r) ∧ L = []) := by
 refine cal2 (n := 16) Tryz.func54 rfl rfl rfl rfl ?_
 intro S0 σ0 n0 hn0 H
 unfold M.spec_validItem at h
 refine c_seq (rg (st_ex (ex_box (cs := [(I Au.1), (Sl Av Au.2.1 Aw), (I Au.2.2)]) H hn0 rfl rfl) wn ?_))
 rintro _ σ2 ⟨b1, rfl, H, -⟩
 refine sa (B false) rfl (w_end (q_then (c_seq (rg (st (v := (pt b1 0)) (rv_fieldAddr (off := 0) (ft := 3) Tryz.underlying67 rfl ti3 rfl rfl) ?_)))))
 have hc3 := H.cell (u := (I Au.1)) (o' := 0) 0 0 rfl rfl rfl
 refine st (v := (I Au.1)) (rv_load1 Tryz.underlying3 rfl rfl hc3) ?_
 revert h; refine br fun r4 hx5 h => ?_
 have hc6 := c_spec_inRange hx5
 refine st_call (cx_call hc6 (ent_f hc6.fn rfl) hn0 (H.sel' [0, 1] rfl rfl : Hp S0 σ0 _ ([] ++ _))) wn ?_
 rintro _ σ7 ⟨_, ⟨rfl, rfl⟩, H, -⟩
 replace H : Hp _ _ _ [_, _] := H
 refine sm (B r4) rfl ?_
 rcases Bool.eq_false_or_eq_true r4 with hb8 | hb8
 ·replace h := bif_t hb8 h
  refine st_g (v := (pt b1 1)) (congrArg some hb8) (rv_fieldAddr (off := 1) (ft := 51) Tryz.underlying67 rfl ti51 rfl rfl) ?_
  have hc9 := H.cell (u := (Sl Av Au.2.1 Aw)) (o' := 1) 0 1 rfl rfl rfl
  refine st_g (v := (Sl Av Au.2.1 Aw)) (congrArg some hb8) (rv_load1 Tryz.underlying51 rfl rfl hc9) ?_
  revert h; refine br fun r10 hx11 h => ?_
  have hc12 := c_spec_isVector (Aq := Av) (Ar := Aw) hx11
  refine st_call (cx_call hc12 (ent_f hc12.fn rfl) hn0 (H.sel' [1, 0, 1] rfl rfl : Hp S0 σ0 _ ([_] ++ _))) (wanted_yes rfl (by exact (congrArg some hb8))) ?_
  rintro _ σ13 ⟨_, ⟨rfl, rfl⟩, H, -⟩
  replace H : Hp _ _ _ [_, _] := H
  refine st (v := (B r10)) (rv_pick_t (congrArg B hb8) rfl) (sm (B r10) rfl ?_)
  rcases Bool.eq_false_or_eq_true r10 with hb14 | hb14
  ·replace h := bif_t hb14 h
   refine st_g (v := (pt b1 2)) (congrArg some hb14) (rv_fieldAddr (off := 2) (ft := 3) Tryz.underlying67 rfl ti3 rfl rfl) ?_
   have hc15 := H.cell (u := (I Au.2.2)) (o' := 2) 0 2 rfl rfl rfl
   refine st_g (v := (I Au.2.2)) (congrArg some hb14) (rv_load1 Tryz.underlying3 rfl rfl hc15) ?_
   revert h; refine br fun r16 hx17 h => ?_
   have hc18 := c_spec_inRange hx17
   refine st_call (cx_call hc18 (ent_f hc18.fn rfl) hn0 (H.sel' [0, 1] rfl rfl : Hp S0 σ0 _ ([] ++ _))) (wanted_yes rfl (by exact (congrArg some hb14))) ?_
   rintro _ σ19 ⟨_, ⟨rfl, rfl⟩, H, -⟩
   replace H : Hp _ _ _ [_, _] := H
   refine st (v := (B r16)) (rv_pick_t (congrArg B hb14) rfl) (sa (B r16) rfl (w_end (q_then (c_ret ?_))))
   obtain rfl := sj h
   exact fin_ret (v := (B r16)) (results_ok Tryz.results54 (res_tmp (v := (B r16)) rfl res_nil) rfl) ⟨rfl, rfl⟩ (H.sel' [] rfl rfl)
  ·replace h := bif_f hb14 h
   refine st_skip (congrArg some hb14) (st_skip (congrArg some hb14) (st_skip (congrArg some hb14) (st (v := (B false)) (rv_pick_f (congrArg B hb14) rfl) (sa (B false) rfl (w_end (q_then (c_ret ?_)))))))
   obtain rfl := sj h
   exact fin_ret (v := (B false)) (results_ok Tryz.results54 (res_tmp (v := (B false)) rfl res_nil) rfl) ⟨rfl, rfl⟩ (H.sel' [] rfl rfl)
 ·replace h := bif_f hb8 h
  refine st_skip (congrArg some hb8) (st_skip (congrArg some hb8) (st_skip (congrArg some hb8) (st (v := (B false)) (rv_pick_f (congrArg B hb8) rfl) (sm (B false) rfl (st_skip rfl (st_skip rfl (st_skip rfl (st (v := (B false)) (rv_pick_f rfl rfl) (sa (B false) rfl (w_end (q_then ?_)))))))))))
  refine c_ret ?_
  obtain rfl := sj h
  exact fin_ret (v := (B false)) (results_ok Tryz.results54 (res_tmp (v := (B false)) rfl res_nil) rfl) ⟨rfl, rfl⟩ (H.sel' [] rfl rfl)

theorem c_spec_validStore {Ak : List (Int × (List Int) × Int)} {Am : Option Addr} {Ao : Nat} {r : Bool} (h : M.spec_validStore Ak = some r) :
    Cal2 Tryz.prog 39 [(Sl Am Ak Ao)] [Ch.ro 0 (Sl Am Ak Ao) Ak] (fun n0 v L => v = (B r) ∧ L = []) := by
 refine cal2 (n := 37) Tryz.func39 rfl rfl rfl rfl ?_
 intro S0 σ0 n0 hn0 H
 unfold M.spec_validStore at h
 refine c_seq (rg (sa (B false) rfl (w_end (q_then (c_seq (c_seq (rg (sa (I 0) rfl (w_end (q_then ?_))))))))))
 obtain ⟨o1, hj, h'⟩ := bind_some h
 clear h
 refine c_cut (fun e a w => (∃ t, o1 = (.inl t) ∧ e = .normal ∧ ∃ (ρ : Nat → Value) (σ : St), a = fr 37 (updL ρ [(0, (Sl Am Ak Ao))]) ∧ w = σ.w ∧ Hp S0 σ0 σ [Ch.ro 0 (Sl Am Ak Ao) Ak]) ∨ (∃ t, o1 = (.inr t) ∧ e = .ret ∧ ∃ (ρ : Nat → Value) (σ : St), a = fr 37 (updL ρ [(2, (B t))]) ∧ w = σ.w ∧ Hp S0 σ0 σ [])) ?_ ?_
 ·clear h'
  rename _ = some o1 => h
  refine c_blk (wp_loopM _ h (fun s2 a w => ∃ (ρ : Nat → Value) (σ : St), a = fr 37 (updL ρ [(0, (Sl Am Ak Ao)), (3, (I s2))]) ∧ w = σ.w ∧ Hp S0 σ0 σ [Ch.ro 0 (Sl Am Ak Ao) Ak]) ⟨_, σ0, fr_join ⟨rfl, rfl, trivial⟩, rfl, H.sel' [0] rfl rfl⟩ ?_)
  clear h H
  rintro s2 a w o ⟨ρ, σ3, rfl, rfl, H⟩ h hres
  refine c_seq (c_seq (rg (sm (I s2) rfl (sm (Sl Am Ak Ao) rfl (st (v := (I (Ak.length : Int))) (rv_len Tryz.underlying29 rfl) (st (v := (B (decide (s2 < (Ak.length : Int))))) (rv_lss (a := s2) (b := (Ak.length : Int)) rfl rfl) (w_end (q_then ?_))))))))
  refine cd_cond (decide (s2 < (Ak.length : Int))) rfl (fun hb4 => ?_) (fun hb4 => ?_)
  ·replace h := bif_t hb4 h
   refine c_skip (q_then (c_seq (c_blk (c_seq ?_))))
   obtain ⟨o5, hj, h'⟩ := bind_some h
   clear h
   refine c_cut (fun e a w => e = .normal ∧ ∃ (ρ : Nat → Value) (σ : St), a = fr 37 (updL ρ [(0, (Sl Am Ak Ao)), (3, (I s2)), (33, (B o5))]) ∧ w = σ.w ∧ Hp S0 σ0 σ [Ch.ro 0 (Sl Am Ak Ao) Ak]) ?_ ?_
   ·clear h'
    rename _ = some o5 => h
    revert h; refine br fun x6 hx7 h => ?_
    obtain ⟨b9, o10, hi8, -⟩ := (H.ro 0 rfl).ix hx7
    obtain ⟨_, ⟨_, _, rfl, rfl, ⟨_, _, rfl, ⟨_, rfl, hR15⟩, rfl⟩⟩, hl11, hc12⟩ := ((H.ro 0 rfl).at hx7 hi8).cells
    obtain ⟨a13, c14, rfl⟩ := hR15.isSl
    replace H := H.add (d := Ch.ro 0 (Sl a13 x6.2.1 c14) x6.2.1) hR15 (fun _ h => h)
    clear hR15
    revert h; refine br fun r16 hx17 h => ?_
    have hc18 := c_spec_validItem (Av := a13) (Aw := c14) hx17
    rcases Bool.eq_false_or_eq_true (!r16) with hb19 | hb19
    ·replace h := bif_t hb19 h
     have Hs := H
     refine rg2 (σ := σ3) (Nm := Unit) 21 [4] [[false], [true]] [[(0, 0)], [(0, 0)], [(0, 0)], [(0, 0)], [(0, 1)], [(1, 1)], [(1, 1)], [(1, 1)], [(1, 1)], [(1, 1)], [(1, 1)], [(1, 1)], [(1, 1)], [(1, 1)], [(1, 1)], [(1, 1)], [(1, 1)], [(1, 1)], [(1, 1)], [(1, 1)], [(1, 1)]] 1 [fun _ => fun σm => Hp S0 σ0 σm [Ch.ro 0 (Sl a13 x6.2.1 c14) x6.2.1, Ch.ro 0 (Sl Am Ak Ao) Ak] ∧ Md (cov []) σ3 σm, fun _ => fun σm => Hp S0 σ0 σm [Ch.ro 0 (Sl a13 x6.2.1 c14) x6.2.1, Ch.ro 0 (Sl Am Ak Ao) Ak] ∧ Md (cov []) σ3 σm] [fun _ => (Sl Am Ak Ao), fun _ => (I s2), fun _ => (pt b9 o10), fun _ => (.agg #[(I x6.1), (Sl a13 x6.2.1 c14), (I x6.2.2)]), fun _ => (B r16), fun _ => (B (!r16)), fun _ => (B (!r16)), fun _ => undef, fun _ => undef, fun _ => undef, fun _ => undef, fun _ => undef, fun _ => undef, fun _ => undef, fun _ => undef, fun _ => undef, fun _ => undef, fun _ => undef, fun _ => undef, fun _ => undef, fun _ => undef] () (by kernel_rfl) (by kernel_rfl) ?_ ?_ ?_
     ·intro σm m0
      exact ⟨H.grow (m0.mono fun _ h => h.elim), m0⟩
     ·refine ac rfl (by
        intro k _nm ρ σm hJ hoff hdep
        have e0 := look_off (N := 37) (hoff 0 rfl) rfl
        exact dp_v (v := (Sl Am Ak Ao)) wn (rv_move e0) rfl hJ) ?_
      refine ac rfl (by
        intro k _nm ρ σm hJ hoff hdep
        have e3 := look_off (N := 37) (hoff 3 rfl) rfl
        exact dp_v (v := (I s2)) wn (rv_move e3) rfl hJ) ?_
      refine ac rfl (by
        intro k _nm ρ σm hJ hoff hdep
        have e10 := hdep 0 rfl rfl 10 rfl
        have e11 := hdep 1 rfl rfl 11 rfl
        exact dp_v (v := (pt b9 o10)) wn (rv_ix Tryz.underlying29 ti67 e10 e11 hi8) rfl hJ) ?_
      refine all_cons (by
        refine ⟨?_, ?_⟩
        ·intro _nm ρ σm hJ hoff hdep
         have e12 := hdep 2 rfl rfl 12 rfl
         obtain ⟨H, m⟩ := id hJ
         replace hc12 := fun j hj => (Hs.ro 1 rfl).hmd hx7 hi8 (k := j) (Nat.lt_of_lt_of_eq hj hl11) (hc12 j hj) m
         exact dp_v (v := (.agg #[(I x6.1), (Sl a13 x6.2.1 c14), (I x6.2.2)])) wn (rv_load Tryz.underlying67 rfl ti67 e12 hl11 hc12) rfl hJ
        trivial) ?_
      refine all_cons (by
        refine ⟨?_, ?_⟩
        ·intro _nm ρ σm hJ hoff hdep
         have e13 : look 37 ρ 13 = (.agg #[(I x6.1), (Sl a13 x6.2.1 c14), (I x6.2.2)]) := hdep 3 rfl rfl 13 rfl
         obtain ⟨H, m⟩ := id hJ
         refine dp_cx wn (cx_call hc18 (ent_f hc18.fn (by show [look 37 ρ 13] = _; rw [e13])) hn0 (H.sel' [0, 0, 1] rfl rfl : Hp S0 σ0 _ ([_] ++ _))) ?_
         rintro _ σq ⟨_, ⟨rfl, rfl⟩, H2, m2⟩
         exact ⟨_, (), rfl, rfl, ⟨H2.sel' [0, 1] rfl rfl, m.comp0 (m2.mono (fun i h => by simp [cov, Ch.ro] at h))⟩, stab [0, 1, 2, 3] (by kernel_rfl) ⟨rfl, rfl, rfl, rfl, trivial⟩⟩
        trivial) ?_
      refine ac rfl (by
        intro k _nm ρ σm hJ hoff hdep
        have e14 := hdep 4 rfl rfl 14 rfl
        exact dp_v (v := (B (!r16))) wn (rv_not e14) rfl hJ) ?_
      refine ac rfl (by
        intro k _nm ρ σm hJ hoff hdep
        have e15 := hdep 5 rfl rfl 15 rfl
        exact dp_v (v := (B (!r16))) wn (rv_move e15) rfl hJ) ?_
      refine ac rfl (by
        intro k _nm ρ σm hJ hoff hdep
        have e16 := hdep 6 rfl rfl 16 rfl
        exact dp_skip (wanted_no rfl (yv_of rfl (e16.trans (congrArg B hb19)))) rfl hJ) ?_
      refine ac rfl (by
        intro k _nm ρ σm hJ hoff hdep
        have e16 := hdep 6 rfl rfl 16 rfl
        exact dp_skip (wanted_no rfl (yv_of rfl (e16.trans (congrArg B hb19)))) rfl hJ) ?_
      refine ac rfl (by
        intro k _nm ρ σm hJ hoff hdep
        have e16 := hdep 6 rfl rfl 16 rfl
        exact dp_skip (wanted_no rfl (yv_of rfl (e16.trans (congrArg B hb19)))) rfl hJ) ?_
      refine ac rfl (by
        intro k _nm ρ σm hJ hoff hdep
        have e19 := hdep 9 rfl rfl 19 rfl
        exact dp_skip (wanted_u rfl (yv_undef rfl e19)) rfl hJ) ?_
      refine ac rfl (by
        intro k _nm ρ σm hJ hoff hdep
        have e19 := hdep 9 rfl rfl 19 rfl
        exact dp_skip (wanted_u rfl (yv_undef rfl e19)) rfl hJ) ?_
      refine ac rfl (by
        intro k _nm ρ σm hJ hoff hdep
        have e19 := hdep 9 rfl rfl 19 rfl
        exact dp_skip (wanted_u rfl (yv_undef rfl e19)) rfl hJ) ?_
      refine ac rfl (by
        intro k _nm ρ σm hJ hoff hdep
        have e19 := hdep 9 rfl rfl 19 rfl
        exact dp_skip (wanted_u rfl (yv_undef rfl e19)) rfl hJ) ?_
      refine ac rfl (by
        intro k _nm ρ σm hJ hoff hdep
        have e19 := hdep 9 rfl rfl 19 rfl
        exact dp_skip (wanted_u rfl (yv_undef rfl e19)) rfl hJ) ?_
      refine ac rfl (by
        intro k _nm ρ σm hJ hoff hdep
        have e19 := hdep 9 rfl rfl 19 rfl
        exact dp_skip (wanted_u rfl (yv_undef rfl e19)) rfl hJ) ?_
      refine ac rfl (by
        intro k _nm ρ σm hJ hoff hdep
        have e19 := hdep 9 rfl rfl 19 rfl
        exact dp_skip (wanted_u rfl (yv_undef rfl e19)) rfl hJ) ?_
      refine ac rfl (by
        intro k _nm ρ σm hJ hoff hdep
        have e19 := hdep 9 rfl rfl 19 rfl
        exact dp_skip (wanted_u rfl (yv_undef rfl e19)) rfl hJ) ?_
      refine ac rfl (by
        intro k _nm ρ σm hJ hoff hdep
        have e19 := hdep 9 rfl rfl 19 rfl
        exact dp_skip (wanted_u rfl (yv_undef rfl e19)) rfl hJ) ?_
      refine ac rfl (by
        intro k _nm ρ σm hJ hoff hdep
        have e19 := hdep 9 rfl rfl 19 rfl
        exact dp_skip (wanted_u rfl (yv_undef rfl e19)) rfl hJ) ?_
      refine ac rfl (by
        intro k _nm ρ σm hJ hoff hdep
        have e19 := hdep 9 rfl rfl 19 rfl
        exact dp_skip (wanted_u rfl (yv_undef rfl e19)) rfl hJ) ?_
      exact all_nil
     ·intro _nm ρ σ20 hJ hoff hrel
      have e0 := look_off (N := 37) (hoff 0 rfl) rfl
      have e3 := look_off (N := 37) (hoff 3 rfl) rfl
      have e16 := hrel 6 rfl 16 rfl
      have e19 := hrel 9 rfl 19 rfl
      have e24 := hrel 14 rfl 24 rfl
      have e30 := hrel 20 rfl 30 rfl
      obtain ⟨H, -⟩ := (show Hp S0 σ0 σ20 [Ch.ro 0 (Sl a13 x6.2.1 c14) x6.2.1, Ch.ro 0 (Sl Am Ak Ao) Ak] ∧ Md (cov []) σ3 σ20 from hJ)
      clear hJ Hs
      rw [fr_lookL (L := [(0, (Sl Am Ak Ao)), (3, (I s2)), (16, (B (!r16))), (19, undef), (24, undef), (30, undef)]) ⟨e0, e3, e16, e19, e24, e30, trivial⟩]
      clear hoff hrel e0 e3 e16 e19 e24 e30
      refine st_skip_u rfl (st_skip (congrArg some hb19) (st (v := (B true)) (rv_pick_t (congrArg B hb19) rfl) (w_end ?_)))
      obtain rfl := sj h
      exact ⟨rfl, _, σ20, fr_join ⟨rfl, rfl, rfl, trivial⟩, rfl, H.sel' [1] rfl rfl⟩
    ·replace h := bif_f hb19 h
     rcases Bool.eq_false_or_eq_true (decide (0 < s2)) with hb21 | hb21
     ·replace h := bif_t hb21 h
      revert h; refine br fun x22 hx23 h => ?_
      obtain ⟨b25, o26, hi24, -⟩ := (H.ro 1 rfl).ix hx23
      have hc27 := ((H.ro 1 rfl).at hx23 hi24).fst.int
      revert h; refine br fun x28 hx29 h => ?_
      obtain ⟨b31, o32, hi30, -⟩ := (H.ro 1 rfl).ix hx29
      have hc33 := ((H.ro 1 rfl).at hx29 hi30).fst.int
      have Hs := H
      refine rg2 (σ := σ3) (Nm := Unit) 21 [4] [[false], [true]] [[(0, 0)], [(0, 0)], [(0, 0)], [(0, 0)], [(0, 1)], [(1, 1)], [(1, 1)], [(1, 1)], [(1, 1)], [(1, 1)], [(1, 1)], [(1, 1)], [(1, 1)], [(1, 1)], [(1, 1)], [(1, 1)], [(1, 1)], [(1, 1)], [(1, 1)], [(1, 1)], [(1, 1)]] 1 [fun _ => fun σm => Hp S0 σ0 σm [Ch.ro 0 (Sl a13 x6.2.1 c14) x6.2.1, Ch.ro 0 (Sl Am Ak Ao) Ak] ∧ Md (cov []) σ3 σm, fun _ => fun σm => Hp S0 σ0 σm [Ch.ro 0 (Sl a13 x6.2.1 c14) x6.2.1, Ch.ro 0 (Sl Am Ak Ao) Ak] ∧ Md (cov []) σ3 σm] [fun _ => (Sl Am Ak Ao), fun _ => (I s2), fun _ => (pt b9 o10), fun _ => (.agg #[(I x6.1), (Sl a13 x6.2.1 c14), (I x6.2.2)]), fun _ => (B r16), fun _ => (B (!r16)), fun _ => (B (!r16)), fun _ => (I s2), fun _ => (B (decide (0 < s2))), fun _ => (B (decide (0 < s2))), fun _ => (Sl Am Ak Ao), fun _ => (I s2), fun _ => (pt b25 o26), fun _ => (pt b25 (o26 + 0)), fun _ => (I x22.1), fun _ => (Sl Am Ak Ao), fun _ => (I s2), fun _ => (I (w64 (s2 - 1))), fun _ => (pt b31 o32), fun _ => (pt b31 (o32 + 0)), fun _ => (I x28.1)] () (by kernel_rfl) (by kernel_rfl) ?_ ?_ ?_
      ·intro σm m0
       exact ⟨H.grow (m0.mono fun _ h => h.elim), m0⟩
      ·refine ac rfl (by
         intro k _nm ρ σm hJ hoff hdep
         have e0 := look_off (N := 37) (hoff 0 rfl) rfl
         exact dp_v (v := (Sl Am Ak Ao)) wn (rv_move e0) rfl hJ) ?_
       refine ac rfl (by
         intro k _nm ρ σm hJ hoff hdep
         have e3 := look_off (N := 37) (hoff 3 rfl) rfl
         exact dp_v (v := (I s2)) wn (rv_move e3) rfl hJ) ?_
       refine ac rfl (by
         intro k _nm ρ σm hJ hoff hdep
         have e10 := hdep 0 rfl rfl 10 rfl
         have e11 := hdep 1 rfl rfl 11 rfl
         exact dp_v (v := (pt b9 o10)) wn (rv_ix Tryz.underlying29 ti67 e10 e11 hi8) rfl hJ) ?_
       refine all_cons (by
         refine ⟨?_, ?_⟩
         ·intro _nm ρ σm hJ hoff hdep
          have e12 := hdep 2 rfl rfl 12 rfl
          obtain ⟨H, m⟩ := id hJ
          replace hc12 := fun j hj => (Hs.ro 1 rfl).hmd hx7 hi8 (k := j) (Nat.lt_of_lt_of_eq hj hl11) (hc12 j hj) m
          exact dp_v (v := (.agg #[(I x6.1), (Sl a13 x6.2.1 c14), (I x6.2.2)])) wn (rv_load Tryz.underlying67 rfl ti67 e12 hl11 hc12) rfl hJ
         trivial) ?_
       refine all_cons (by
         refine ⟨?_, ?_⟩
         ·intro _nm ρ σm hJ hoff hdep
          have e13 : look 37 ρ 13 = (.agg #[(I x6.1), (Sl a13 x6.2.1 c14), (I x6.2.2)]) := hdep 3 rfl rfl 13 rfl
          obtain ⟨H, m⟩ := id hJ
          refine dp_cx wn (cx_call hc18 (ent_f hc18.fn (by show [look 37 ρ 13] = _; rw [e13])) hn0 (H.sel' [0, 0, 1] rfl rfl : Hp S0 σ0 _ ([_] ++ _))) ?_
          rintro _ σq ⟨_, ⟨rfl, rfl⟩, H2, m2⟩
          exact ⟨_, (), rfl, rfl, ⟨H2.sel' [0, 1] rfl rfl, m.comp0 (m2.mono (fun i h => by simp [cov, Ch.ro] at h))⟩, stab [0, 1, 2, 3] (by kernel_rfl) ⟨rfl, rfl, rfl, rfl, trivial⟩⟩
         trivial) ?_
       refine ac rfl (by
         intro k _nm ρ σm hJ hoff hdep
         have e14 := hdep 4 rfl rfl 14 rfl
         exact dp_v (v := (B (!r16))) wn (rv_not e14) rfl hJ) ?_
       refine ac rfl (by
         intro k _nm ρ σm hJ hoff hdep
         have e15 := hdep 5 rfl rfl 15 rfl
         exact dp_v (v := (B (!r16))) wn (rv_move e15) rfl hJ) ?_
       refine ac rfl (by
         intro k _nm ρ σm hJ hoff hdep
         have e3 := look_off (N := 37) (hoff 3 rfl) rfl
         have e16 := hdep 6 rfl rfl 16 rfl
         exact dp_v (v := (I s2)) (wanted_yes rfl (yv_of rfl (e16.trans (congrArg B hb19)))) (rv_move e3) rfl hJ) ?_
       refine ac rfl (by
         intro k _nm ρ σm hJ hoff hdep
         have e17 := hdep 7 rfl rfl 17 rfl
         have e16 := hdep 6 rfl rfl 16 rfl
         exact dp_v (v := (B (decide (0 < s2)))) (wanted_yes rfl (yv_of rfl (e16.trans (congrArg B hb19)))) (rv_gtr (a := s2) (b := 0) e17 rfl) rfl hJ) ?_
       refine ac rfl (by
         intro k _nm ρ σm hJ hoff hdep
         have e18 := hdep 8 rfl rfl 18 rfl
         have e16 := hdep 6 rfl rfl 16 rfl
         exact dp_v (v := (B (decide (0 < s2)))) (wanted_yes rfl (yv_of rfl (e16.trans (congrArg B hb19)))) (rv_move e18) rfl hJ) ?_
       refine ac rfl (by
         intro k _nm ρ σm hJ hoff hdep
         have e0 := look_off (N := 37) (hoff 0 rfl) rfl
         have e19 := hdep 9 rfl rfl 19 rfl
         exact dp_v (v := (Sl Am Ak Ao)) (wanted_yes rfl (yv_of rfl (e19.trans (congrArg B hb21)))) (rv_move e0) rfl hJ) ?_
       refine ac rfl (by
         intro k _nm ρ σm hJ hoff hdep
         have e3 := look_off (N := 37) (hoff 3 rfl) rfl
         have e19 := hdep 9 rfl rfl 19 rfl
         exact dp_v (v := (I s2)) (wanted_yes rfl (yv_of rfl (e19.trans (congrArg B hb21)))) (rv_move e3) rfl hJ) ?_
       refine ac rfl (by
         intro k _nm ρ σm hJ hoff hdep
         have e20 := hdep 10 rfl rfl 20 rfl
         have e21 := hdep 11 rfl rfl 21 rfl
         have e19 := hdep 9 rfl rfl 19 rfl
         exact dp_v (v := (pt b25 o26)) (wanted_yes rfl (yv_of rfl (e19.trans (congrArg B hb21)))) (rv_ix Tryz.underlying29 ti67 e20 e21 hi24) rfl hJ) ?_
       refine ac rfl (by
         intro k _nm ρ σm hJ hoff hdep
         have e22 := hdep 12 rfl rfl 22 rfl
         have e19 := hdep 9 rfl rfl 19 rfl
         exact dp_v (v := (pt b25 (o26 + 0))) (wanted_yes rfl (yv_of rfl (e19.trans (congrArg B hb21)))) (rv_fieldAddr (off := 0) (ft := 3) Tryz.underlying67 rfl ti3 rfl e22) rfl hJ) ?_
       refine all_cons (by
         refine ⟨?_, ?_⟩
         ·intro _nm ρ σm hJ hoff hdep
          have e23 := hdep 13 rfl rfl 23 rfl
          have e19 := hdep 9 rfl rfl 19 rfl
          obtain ⟨H, m⟩ := id hJ
          replace hc27 := (Hs.ro 1 rfl).hmd hx23 hi24 (k := 0) (by decide) hc27 m
          exact dp_v (v := (I x22.1)) (wanted_yes rfl (yv_of rfl (e19.trans (congrArg B hb21)))) (rv_load1 Tryz.underlying3 rfl e23 hc27) rfl hJ
         trivial) ?_
       refine ac rfl (by
         intro k _nm ρ σm hJ hoff hdep
         have e0 := look_off (N := 37) (hoff 0 rfl) rfl
         have e19 := hdep 9 rfl rfl 19 rfl
         exact dp_v (v := (Sl Am Ak Ao)) (wanted_yes rfl (yv_of rfl (e19.trans (congrArg B hb21)))) (rv_move e0) rfl hJ) ?_
       refine ac rfl (by
         intro k _nm ρ σm hJ hoff hdep
         have e3 := look_off (N := 37) (hoff 3 rfl) rfl
         have e19 := hdep 9 rfl rfl 19 rfl
         exact dp_v (v := (I s2)) (wanted_yes rfl (yv_of rfl (e19.trans (congrArg B hb21)))) (rv_move e3) rfl hJ) ?_
       refine ac rfl (by
         intro k _nm ρ σm hJ hoff hdep
         have e26 := hdep 16 rfl rfl 26 rfl
         have e19 := hdep 9 rfl rfl 19 rfl
         exact dp_v (v := (I (w64 (s2 - 1)))) (wanted_yes rfl (yv_of rfl (e19.trans (congrArg B hb21)))) (rv_sub (a := s2) (b := 1) e26 rfl) rfl hJ) ?_
       refine ac rfl (by
         intro k _nm ρ σm hJ hoff hdep
         have e25 := hdep 15 rfl rfl 25 rfl
         have e27 := hdep 17 rfl rfl 27 rfl
         have e19 := hdep 9 rfl rfl 19 rfl
         exact dp_v (v := (pt b31 o32)) (wanted_yes rfl (yv_of rfl (e19.trans (congrArg B hb21)))) (rv_ix Tryz.underlying29 ti67 e25 e27 hi30) rfl hJ) ?_
       refine ac rfl (by
         intro k _nm ρ σm hJ hoff hdep
         have e28 := hdep 18 rfl rfl 28 rfl
         have e19 := hdep 9 rfl rfl 19 rfl
         exact dp_v (v := (pt b31 (o32 + 0))) (wanted_yes rfl (yv_of rfl (e19.trans (congrArg B hb21)))) (rv_fieldAddr (off := 0) (ft := 3) Tryz.underlying67 rfl ti3 rfl e28) rfl hJ) ?_
       refine all_cons (by
         refine ⟨?_, ?_⟩
         ·intro _nm ρ σm hJ hoff hdep
          have e29 := hdep 19 rfl rfl 29 rfl
          have e19 := hdep 9 rfl rfl 19 rfl
          obtain ⟨H, m⟩ := id hJ
          replace hc33 := (Hs.ro 1 rfl).hmd hx29 hi30 (k := 0) (by decide) hc33 m
          exact dp_v (v := (I x28.1)) (wanted_yes rfl (yv_of rfl (e19.trans (congrArg B hb21)))) (rv_load1 Tryz.underlying3 rfl e29 hc33) rfl hJ
         trivial) ?_
       exact all_nil
      ·intro _nm ρ σ34 hJ hoff hrel
       have e0 := look_off (N := 37) (hoff 0 rfl) rfl
       have e3 := look_off (N := 37) (hoff 3 rfl) rfl
       have e16 := hrel 6 rfl 16 rfl
       have e19 := hrel 9 rfl 19 rfl
       have e24 := hrel 14 rfl 24 rfl
       have e30 := hrel 20 rfl 30 rfl
       obtain ⟨H, -⟩ := (show Hp S0 σ0 σ34 [Ch.ro 0 (Sl a13 x6.2.1 c14) x6.2.1, Ch.ro 0 (Sl Am Ak Ao) Ak] ∧ Md (cov []) σ3 σ34 from hJ)
       clear hJ Hs
       rw [fr_lookL (L := [(0, (Sl Am Ak Ao)), (3, (I s2)), (16, (B (!r16))), (19, (B (decide (0 < s2)))), (24, (I x22.1)), (30, (I x28.1))]) ⟨e0, e3, e16, e19, e24, e30, trivial⟩]
       clear hoff hrel e0 e3 e16 e19 e24 e30
       refine st_g (v := (B (decide (x22.1 ≤ x28.1)))) (congrArg some hb21) (rv_leq (a := x22.1) (b := x28.1) rfl rfl) (st_g (v := (B (decide (x22.1 ≤ x28.1)))) (congrArg some hb19) (rv_pick_t (congrArg B hb21) rfl) (st (v := (B (decide (x22.1 ≤ x28.1)))) (rv_pick_f (congrArg B hb19) rfl) (w_end ?_)))
       obtain rfl := sj h
       exact ⟨rfl, _, σ34, fr_join ⟨rfl, rfl, rfl, trivial⟩, rfl, H.sel' [1] rfl rfl⟩
     ·replace h := bif_f hb21 h
      have Hs := H
      refine rg2 (σ := σ3) (Nm := Unit) 21 [4] [[false], [true]] [[(0, 0)], [(0, 0)], [(0, 0)], [(0, 0)], [(0, 1)], [(1, 1)], [(1, 1)], [(1, 1)], [(1, 1)], [(1, 1)], [(1, 1)], [(1, 1)], [(1, 1)], [(1, 1)], [(1, 1)], [(1, 1)], [(1, 1)], [(1, 1)], [(1, 1)], [(1, 1)], [(1, 1)]] 1 [fun _ => fun σm => Hp S0 σ0 σm [Ch.ro 0 (Sl a13 x6.2.1 c14) x6.2.1, Ch.ro 0 (Sl Am Ak Ao) Ak] ∧ Md (cov []) σ3 σm, fun _ => fun σm => Hp S0 σ0 σm [Ch.ro 0 (Sl a13 x6.2.1 c14) x6.2.1, Ch.ro 0 (Sl Am Ak Ao) Ak] ∧ Md (cov []) σ3 σm] [fun _ => (Sl Am Ak Ao), fun _ => (I s2), fun _ => (pt b9 o10), fun _ => (.agg #[(I x6.1), (Sl a13 x6.2.1 c14), (I x6.2.2)]), fun _ => (B r16), fun _ => (B (!r16)), fun _ => (B (!r16)), fun _ => (I s2), fun _ => (B (decide (0 < s2))), fun _ => (B (decide (0 < s2))), fun _ => undef, fun _ => undef, fun _ => undef, fun _ => undef, fun _ => undef, fun _ => undef, fun _ => undef, fun _ => undef, fun _ => undef, fun _ => undef, fun _ => undef] () (by kernel_rfl) (by kernel_rfl) ?_ ?_ ?_
      ·intro σm m0
       exact ⟨H.grow (m0.mono fun _ h => h.elim), m0⟩
      ·refine ac rfl (by
         intro k _nm ρ σm hJ hoff hdep
         have e0 := look_off (N := 37) (hoff 0 rfl) rfl
         exact dp_v (v := (Sl Am Ak Ao)) wn (rv_move e0) rfl hJ) ?_
       refine ac rfl (by
         intro k _nm ρ σm hJ hoff hdep
         have e3 := look_off (N := 37) (hoff 3 rfl) rfl
         exact dp_v (v := (I s2)) wn (rv_move e3) rfl hJ) ?_
       refine ac rfl (by
         intro k _nm ρ σm hJ hoff hdep
         have e10 := hdep 0 rfl rfl 10 rfl
         have e11 := hdep 1 rfl rfl 11 rfl
         exact dp_v (v := (pt b9 o10)) wn (rv_ix Tryz.underlying29 ti67 e10 e11 hi8) rfl hJ) ?_
       refine all_cons (by
         refine ⟨?_, ?_⟩
         ·intro _nm ρ σm hJ hoff hdep
          have e12 := hdep 2 rfl rfl 12 rfl
          obtain ⟨H, m⟩ := id hJ
          replace hc12 := fun j hj => (Hs.ro 1 rfl).hmd hx7 hi8 (k := j) (Nat.lt_of_lt_of_eq hj hl11) (hc12 j hj) m
          exact dp_v (v := (.agg #[(I x6.1), (Sl a13 x6.2.1 c14), (I x6.2.2)])) wn (rv_load Tryz.underlying67 rfl ti67 e12 hl11 hc12) rfl hJ
         trivial) ?_
       refine all_cons (by
         refine ⟨?_, ?_⟩
         ·intro _nm ρ σm hJ hoff hdep
          have e13 : look 37 ρ 13 = (.agg #[(I x6.1), (Sl a13 x6.2.1 c14), (I x6.2.2)]) := hdep 3 rfl rfl 13 rfl
          obtain ⟨H, m⟩ := id hJ
          refine dp_cx wn (cx_call hc18 (ent_f hc18.fn (by show [look 37 ρ 13] = _; rw [e13])) hn0 (H.sel' [0, 0, 1] rfl rfl : Hp S0 σ0 _ ([_] ++ _))) ?_
          rintro _ σq ⟨_, ⟨rfl, rfl⟩, H2, m2⟩
          exact ⟨_, (), rfl, rfl, ⟨H2.sel' [0, 1] rfl rfl, m.comp0 (m2.mono (fun i h => by simp [cov, Ch.ro] at h))⟩, stab [0, 1, 2, 3] (by kernel_rfl) ⟨rfl, rfl, rfl, rfl, trivial⟩⟩
         trivial) ?_
       refine ac rfl (by
         intro k _nm ρ σm hJ hoff hdep
         have e14 := hdep 4 rfl rfl 14 rfl
         exact dp_v (v := (B (!r16))) wn (rv_not e14) rfl hJ) ?_
       refine ac rfl (by
         intro k _nm ρ σm hJ hoff hdep
         have e15 := hdep 5 rfl rfl 15 rfl
         exact dp_v (v := (B (!r16))) wn (rv_move e15) rfl hJ) ?_
       refine ac rfl (by
         intro k _nm ρ σm hJ hoff hdep
         have e3 := look_off (N := 37) (hoff 3 rfl) rfl
         have e16 := hdep 6 rfl rfl 16 rfl
         exact dp_v (v := (I s2)) (wanted_yes rfl (yv_of rfl (e16.trans (congrArg B hb19)))) (rv_move e3) rfl hJ) ?_
       refine ac rfl (by
         intro k _nm ρ σm hJ hoff hdep
         have e17 := hdep 7 rfl rfl 17 rfl
         have e16 := hdep 6 rfl rfl 16 rfl
         exact dp_v (v := (B (decide (0 < s2)))) (wanted_yes rfl (yv_of rfl (e16.trans (congrArg B hb19)))) (rv_gtr (a := s2) (b := 0) e17 rfl) rfl hJ) ?_
       refine ac rfl (by
         intro k _nm ρ σm hJ hoff hdep
         have e18 := hdep 8 rfl rfl 18 rfl
         have e16 := hdep 6 rfl rfl 16 rfl
         exact dp_v (v := (B (decide (0 < s2)))) (wanted_yes rfl (yv_of rfl (e16.trans (congrArg B hb19)))) (rv_move e18) rfl hJ) ?_
       refine ac rfl (by
         intro k _nm ρ σm hJ hoff hdep
         have e19 := hdep 9 rfl rfl 19 rfl
         exact dp_skip (wanted_no rfl (yv_of rfl (e19.trans (congrArg B hb21)))) rfl hJ) ?_
       refine ac rfl (by
         intro k _nm ρ σm hJ hoff hdep
         have e19 := hdep 9 rfl rfl 19 rfl
         exact dp_skip (wanted_no rfl (yv_of rfl (e19.trans (congrArg B hb21)))) rfl hJ) ?_
       refine ac rfl (by
         intro k _nm ρ σm hJ hoff hdep
         have e19 := hdep 9 rfl rfl 19 rfl
         exact dp_skip (wanted_no rfl (yv_of rfl (e19.trans (congrArg B hb21)))) rfl hJ) ?_
       refine ac rfl (by
         intro k _nm ρ σm hJ hoff hdep
         have e19 := hdep 9 rfl rfl 19 rfl
         exact dp_skip (wanted_no rfl (yv_of rfl (e19.trans (congrArg B hb21)))) rfl hJ) ?_
       refine ac rfl (by
         intro k _nm ρ σm hJ hoff hdep
         have e19 := hdep 9 rfl rfl 19 rfl
         exact dp_skip (wanted_no rfl (yv_of rfl (e19.trans (congrArg B hb21)))) rfl hJ) ?_
       refine ac rfl (by
         intro k _nm ρ σm hJ hoff hdep
         have e19 := hdep 9 rfl rfl 19 rfl
         exact dp_skip (wanted_no rfl (yv_of rfl (e19.trans (congrArg B hb21)))) rfl hJ) ?_
       refine ac rfl (by
         intro k _nm ρ σm hJ hoff hdep
         have e19 := hdep 9 rfl rfl 19 rfl
         exact dp_skip (wanted_no rfl (yv_of rfl (e19.trans (congrArg B hb21)))) rfl hJ) ?_
       refine ac rfl (by
         intro k _nm ρ σm hJ hoff hdep
         have e19 := hdep 9 rfl rfl 19 rfl
         exact dp_skip (wanted_no rfl (yv_of rfl (e19.trans (congrArg B hb21)))) rfl hJ) ?_
       refine ac rfl (by
         intro k _nm ρ σm hJ hoff hdep
         have e19 := hdep 9 rfl rfl 19 rfl
         exact dp_skip (wanted_no rfl (yv_of rfl (e19.trans (congrArg B hb21)))) rfl hJ) ?_
       refine ac rfl (by
         intro k _nm ρ σm hJ hoff hdep
         have e19 := hdep 9 rfl rfl 19 rfl
         exact dp_skip (wanted_no rfl (yv_of rfl (e19.trans (congrArg B hb21)))) rfl hJ) ?_
       refine ac rfl (by
         intro k _nm ρ σm hJ hoff hdep
         have e19 := hdep 9 rfl rfl 19 rfl
         exact dp_skip (wanted_no rfl (yv_of rfl (e19.trans (congrArg B hb21)))) rfl hJ) ?_
       exact all_nil
      ·intro _nm ρ σ35 hJ hoff hrel
       have e0 := look_off (N := 37) (hoff 0 rfl) rfl
       have e3 := look_off (N := 37) (hoff 3 rfl) rfl
       have e16 := hrel 6 rfl 16 rfl
       have e19 := hrel 9 rfl 19 rfl
       have e24 := hrel 14 rfl 24 rfl
       have e30 := hrel 20 rfl 30 rfl
       obtain ⟨H, -⟩ := (show Hp S0 σ0 σ35 [Ch.ro 0 (Sl a13 x6.2.1 c14) x6.2.1, Ch.ro 0 (Sl Am Ak Ao) Ak] ∧ Md (cov []) σ3 σ35 from hJ)
       clear hJ Hs
       rw [fr_lookL (L := [(0, (Sl Am Ak Ao)), (3, (I s2)), (16, (B (!r16))), (19, (B (decide (0 < s2)))), (24, undef), (30, undef)]) ⟨e0, e3, e16, e19, e24, e30, trivial⟩]
       clear hoff hrel e0 e3 e16 e19 e24 e30
       refine st_skip (congrArg some hb21) (st_g (v := (B false)) (congrArg some hb19) (rv_pick_f (congrArg B hb21) rfl) (st (v := (B false)) (rv_pick_f (congrArg B hb19) rfl) (w_end ?_)))
       obtain rfl := sj h
       exact ⟨rfl, _, σ35, fr_join ⟨rfl, rfl, rfl, trivial⟩, rfl, H.sel' [1] rfl rfl⟩
   ·clear hj
    have h := h'
    clear h' H
    rintro e a w ⟨rfl, ρ, σ36, rfl, rfl, H⟩
    refine q_then ?_
    refine cd_cond o5 rfl (fun hb37 => ?_) (fun hb37 => ?_)
    ·replace h := bif_t hb37 h
     refine c_seq (rg (sa (B false) rfl (w_end (q_then (c_ret (q_blk_r (q_then_r (q_then_r (q_blk_r ?_)))))))))
     obtain rfl := sj h
     obtain rfl := hres _ rfl
     exact .inr (⟨_, rfl, rfl, _, σ36, fr_join ⟨rfl, trivial⟩, rfl, H.sel' [] rfl rfl⟩)
    ·replace h := bif_f hb37 h
     refine c_skip (q_blk (q_then (rg (sm (I s2) rfl (st (v := (I (w64 (s2 + 1)))) (rv_add (a := s2) (b := 1) rfl rfl) (sa (I (w64 (s2 + 1))) rfl (w_end (q_then ?_))))))))
     obtain rfl := sj h
     exact ⟨_, rfl, _, σ36, fr_join ⟨rfl, rfl, trivial⟩, rfl, H.sel' [0] rfl rfl⟩
  ·replace h := bif_f hb4 h
   refine c_exit (q_then_x (q_then_x (q_blk_hit ?_)))
   obtain rfl := sj h
   obtain rfl := hres _ rfl
   exact .inl ⟨_, rfl, rfl, _, σ3, fr_join ⟨rfl, trivial⟩, rfl, H.sel' [0] rfl rfl⟩
 ·clear hj
  have h := h'
  clear h' H
  rintro e a w (⟨t38, rfl, rfl, ρ, σ39, rfl, rfl, H⟩ | ⟨t40, rfl, rfl, ρ, σ41, rfl, rfl, H⟩)
  ·replace h := selim_l h
   refine q_then (c_seq (rg (sm (Sl Am Ak Ao) rfl (st (v := (I (Ak.length : Int))) (rv_len Tryz.underlying29 rfl) (st (v := (B (decide ((Ak.length : Int) ≤ 16)))) (rv_leq (a := (Ak.length : Int)) (b := 16) rfl rfl) (sa (B (decide ((Ak.length : Int) ≤ 16))) rfl (w_end (q_then (c_ret ?_)))))))))
   obtain rfl := sj h
   exact fin_ret (v := (B (decide ((Ak.length : Int) ≤ 16)))) (results_ok Tryz.results39 (res_tmp (v := (B (decide ((Ak.length : Int) ≤ 16)))) rfl res_nil) rfl) ⟨rfl, rfl⟩ (H.sel' [] rfl rfl)
  ·replace h := selim_r h
   refine q_then_r ?_
   obtain rfl := sj h
   exact fin_ret (v := (B t40)) (results_ok Tryz.results39 (res_tmp (v := (B t40)) rfl res_nil) rfl) ⟨rfl, rfl⟩ (H.sel' [] rfl rfl)

theorem c_spec_copyInts {Ak : List Int} {Am : Option Addr} {Ao : Nat} {r : (List Int)} (h : M.spec_copyInts Ak = some r) :
    Cal2 Tryz.prog 79 [(Sl Am Ak Ao)] [Ch.ro 0 (Sl Am Ak Ao) Ak] (fun n0 v L => ∃ (az1 : Option Addr), ∃ (cz2 : Nat), v = (Sl az1 r cz2) ∧ L = [Ch.own n0 n0 (Sl az1 r cz2) r]) := by
 refine cal2 (n := 6) Tryz.func79 rfl rfl rfl rfl ?_
 intro S0 σ0 n0 hn0 H
 unfold M.spec_copyInts at h
 refine c_seq (rg (sa (.slice none 0 0) rfl (w_end (q_then (c_seq (rg ?_))))))
 refine st_ex (ex_buildSlice (el := n0) (xs := ([] : List Int)) (ps := []) (cs := []) H hn0 Tryz.underlying51 ti3 rfl rfl (by kernel_rfl) (.nil) rfl) wn ?_
 rintro _ σ2 ⟨b1, rfl, H, -⟩
 refine sm (Sl Am Ak Ao) rfl ?_
 revert h; refine br fun xs3 hx4 h => ?_
 refine st_ex (ex_append H (i := 0) rfl Tryz.underlying51 Tryz.underlying51 ti3 rfl rfl (by decide) ((H.ro 1 rfl).rd.sc) hx4 hn0 rfl rfl) wn ?_
 rintro _ σ7 ⟨a5, c6, rfl, H, -⟩
 refine sa (Sl a5 xs3 c6) rfl (w_end (q_then (c_ret ?_)))
 obtain rfl := sj h
 exact fin_ret (v := (Sl a5 xs3 c6)) (results_ok Tryz.results79 (res_tmp (v := (Sl a5 xs3 c6)) rfl res_nil) rfl) ⟨a5, c6, rfl, rfl⟩ (H.sel' [0] rfl rfl)

theorem c_spec_copyItem {Au : Int × (List Int) × Int} {Av : Option Addr} {Aw : Nat} {r : (Int × (List Int) × Int)} (h : M.spec_copyItem Au = some r) :
    Cal2 Tryz.prog 57 [(.agg #[(I Au.1), (Sl Av Au.2.1 Aw), (I Au.2.2)])] [Ch.ro 0 (Sl Av Au.2.1 Aw) Au.2.1] (fun n0 v L => ∃ (az1 : Option Addr), ∃ (cz2 : Nat), v = (.agg #[(I r.1), (Sl az1 r.2.1 cz2), (I r.2.2)]) ∧ L = [Ch.own n0 n0 (Sl az1 r.2.1 cz2) r.2.1]) := by
 refine cal2 (n := 11) Tryz.func57 rfl rfl rfl rfl ?_
 intro S0 σ0 n0 hn0 H
 unfold M.spec_copyItem at h
 refine c_seq (rg (st_ex (ex_box (cs := [(I Au.1), (Sl Av Au.2.1 Aw), (I Au.2.2)]) H hn0 rfl rfl) wn ?_))
 rintro _ σ2 ⟨b1, rfl, H, -⟩
 refine st_ex (ex_alloc (cs := [(I 0), (.slice none 0 0), (I 0)]) H hn0 ti67 rfl) wn ?_
 rintro _ σ4 ⟨b3, rfl, H, -⟩
 refine w_end (q_then (c_seq ?_))
 have hc5 := H.cell (u := (I Au.1)) (o' := 0) 1 0 rfl rfl rfl
 have hc6 := H.cell (u := (Sl Av Au.2.1 Aw)) (o' := 1) 1 1 rfl rfl rfl
 revert h; refine br fun r7 hx8 h => ?_
 have hc9 := c_spec_copyInts (Am := Av) (Ao := Aw) hx8
 have hc12 := H.cell (u := (I Au.2.2)) (o' := 2) 1 2 rfl rfl rfl
 have Hs := H
 refine rg2 (σ := σ4) (Nm := (Option Addr) × (Nat)) 7 [4] [[false], [true]] [[(0, 0), (1, 1)], [(0, 0), (1, 1)], [(0, 0)], [(0, 0)], [(0, 1)], [(0, 0), (1, 1)], [(0, 0), (1, 1)]] 1 [fun ((a10, c11) : (Option Addr) × (Nat)) => fun σm => Hp S0 σ0 σm [Ch.bx n0 b3 0 [(I 0), (.slice none 0 0), (I 0)] [] [], Ch.bx n0 b1 0 [(I Au.1), (Sl Av Au.2.1 Aw), (I Au.2.2)] [] [], Ch.ro 0 (Sl Av Au.2.1 Aw) Au.2.1] ∧ Md (cov []) σ4 σm, fun ((a10, c11) : (Option Addr) × (Nat)) => fun σm => Hp S0 σ0 σm [Ch.own n0 n0 (Sl a10 r7 c11) r7, Ch.bx n0 b3 0 [(I 0), (.slice none 0 0), (I 0)] [] [], Ch.bx n0 b1 0 [(I Au.1), (Sl Av Au.2.1 Aw), (I Au.2.2)] [] [], Ch.ro 0 (Sl Av Au.2.1 Aw) Au.2.1] ∧ Md (cov []) σ4 σm] [fun ((a10, c11) : (Option Addr) × (Nat)) => (pt b1 0), fun ((a10, c11) : (Option Addr) × (Nat)) => (I Au.1), fun ((a10, c11) : (Option Addr) × (Nat)) => (pt b1 1), fun ((a10, c11) : (Option Addr) × (Nat)) => (Sl Av Au.2.1 Aw), fun ((a10, c11) : (Option Addr) × (Nat)) => (Sl a10 r7 c11), fun ((a10, c11) : (Option Addr) × (Nat)) => (pt b1 2), fun ((a10, c11) : (Option Addr) × (Nat)) => (I Au.2.2)] (none, 0) (by kernel_rfl) (by kernel_rfl) ?_ ?_ ?_
 ·intro σm m0
  exact ⟨H.grow (m0.mono fun _ h => h.elim), m0⟩
 ·refine ac rfl (by
    intro k; rintro ⟨a10, c11⟩ ρ σm hJ hoff hdep
    have e1 := look_off (N := 11) (hoff 1 rfl) rfl
    exact dp_v (v := (pt b1 0)) wn (rv_fieldAddr (off := 0) (ft := 3) Tryz.underlying67 rfl ti3 rfl e1) rfl hJ) ?_
  refine all_cons (by
    refine ⟨?_, ?_⟩
    ·rintro ⟨a10, c11⟩ ρ σm hJ hoff hdep
     have e3 := hdep 0 rfl rfl 3 rfl
     obtain ⟨H, m⟩ := id hJ
     have hc5 := H.cell (u := (I Au.1)) (o' := 0) 1 0 rfl rfl rfl
     exact dp_v (v := (I Au.1)) wn (rv_load1 Tryz.underlying3 rfl e3 hc5) rfl hJ
    refine ⟨?_, ?_⟩
    ·rintro ⟨a10, c11⟩ ρ σm hJ hoff hdep
     have e3 := hdep 0 rfl rfl 3 rfl
     obtain ⟨H, m⟩ := id hJ
     have hc5 := H.cell (u := (I Au.1)) (o' := 0) 2 0 rfl rfl rfl
     exact dp_v (v := (I Au.1)) wn (rv_load1 Tryz.underlying3 rfl e3 hc5) rfl hJ
    trivial) ?_
  refine ac rfl (by
    intro k; rintro ⟨a10, c11⟩ ρ σm hJ hoff hdep
    have e1 := look_off (N := 11) (hoff 1 rfl) rfl
    exact dp_v (v := (pt b1 1)) wn (rv_fieldAddr (off := 1) (ft := 51) Tryz.underlying67 rfl ti51 rfl e1) rfl hJ) ?_
  refine all_cons (by
    refine ⟨?_, ?_⟩
    ·rintro ⟨a10, c11⟩ ρ σm hJ hoff hdep
     have e5 := hdep 2 rfl rfl 5 rfl
     obtain ⟨H, m⟩ := id hJ
     have hc6 := H.cell (u := (Sl Av Au.2.1 Aw)) (o' := 1) 1 1 rfl rfl rfl
     exact dp_v (v := (Sl Av Au.2.1 Aw)) wn (rv_load1 Tryz.underlying51 rfl e5 hc6) rfl hJ
    trivial) ?_
  refine all_cons (by
    refine ⟨?_, ?_⟩
    ·rintro ⟨a10, c11⟩ ρ σm hJ hoff hdep
     have e6 : look 11 ρ 6 = (Sl Av Au.2.1 Aw) := hdep 3 rfl rfl 6 rfl
     obtain ⟨H, m⟩ := id hJ
     refine dp_cx wn (cx_call hc9 (ent_f hc9.fn (by show [look 11 ρ 6] = _; rw [e6])) hn0 (H.sel' [2, 0, 1, 2] rfl rfl : Hp S0 σ0 _ ([_] ++ _))) ?_
     rintro _ σq ⟨_, ⟨a10x, c11x, rfl, rfl⟩, H2, m2⟩
     exact ⟨_, (a10x, c11x), rfl, rfl, ⟨H2.sel' [0, 1, 2, 3] rfl rfl, m.comp0 (m2.mono (fun i h => by simp [cov, Ch.ro] at h))⟩, stab [0, 1, 2, 3, 5, 6] (by kernel_rfl) ⟨rfl, rfl, rfl, rfl, rfl, rfl, trivial⟩⟩
    trivial) ?_
  refine ac rfl (by
    intro k; rintro ⟨a10, c11⟩ ρ σm hJ hoff hdep
    have e1 := look_off (N := 11) (hoff 1 rfl) rfl
    exact dp_v (v := (pt b1 2)) wn (rv_fieldAddr (off := 2) (ft := 3) Tryz.underlying67 rfl ti3 rfl e1) rfl hJ) ?_
  refine all_cons (by
    refine ⟨?_, ?_⟩
    ·rintro ⟨a10, c11⟩ ρ σm hJ hoff hdep
     have e8 := hdep 5 rfl rfl 8 rfl
     obtain ⟨H, m⟩ := id hJ
     have hc12 := H.cell (u := (I Au.2.2)) (o' := 2) 1 2 rfl rfl rfl
     exact dp_v (v := (I Au.2.2)) wn (rv_load1 Tryz.underlying3 rfl e8 hc12) rfl hJ
    refine ⟨?_, ?_⟩
    ·rintro ⟨a10, c11⟩ ρ σm hJ hoff hdep
     have e8 := hdep 5 rfl rfl 8 rfl
     obtain ⟨H, m⟩ := id hJ
     have hc12 := H.cell (u := (I Au.2.2)) (o' := 2) 2 2 rfl rfl rfl
     exact dp_v (v := (I Au.2.2)) wn (rv_load1 Tryz.underlying3 rfl e8 hc12) rfl hJ
    trivial) ?_
  exact all_nil
 ·rintro ⟨a10, c11⟩ ρ σ13 hJ hoff hrel
  have e2 := look_off (N := 11) (hoff 2 rfl) rfl
  have e4 := hrel 1 rfl 4 rfl
  have e7 := hrel 4 rfl 7 rfl
  have e9 := hrel 6 rfl 9 rfl
  obtain ⟨H, -⟩ := (show Hp S0 σ0 σ13 [Ch.own n0 n0 (Sl a10 r7 c11) r7, Ch.bx n0 b3 0 [(I 0), (.slice none 0 0), (I 0)] [] [], Ch.bx n0 b1 0 [(I Au.1), (Sl Av Au.2.1 Aw), (I Au.2.2)] [] [], Ch.ro 0 (Sl Av Au.2.1 Aw) Au.2.1] ∧ Md (cov []) σ4 σ13 from hJ)
  clear hJ Hs
  rw [fr_lookL (L := [(2, (pt b3 0)), (4, (I Au.1)), (7, (Sl a10 r7 c11)), (9, (I Au.2.2))]) ⟨e2, e4, e7, e9, trivial⟩]
  clear hoff hrel e2 e4 e7 e9
  refine st (v := (.agg #[(I Au.1), (Sl a10 r7 c11), (I Au.2.2)])) (rv_build (ps := [(0, (I Au.1)), (1, (Sl a10 r7 c11)), (2, (I Au.2.2))]) Tryz.underlying67 ti67 (bp67 Tryz.underlying67) rfl (by kernel_rfl)) ?_
  refine st_exS (ex_store_box (k := 0) (cs := [(I 0), (.slice none 0 0), (I 0)]) (vs := [(I Au.1), (Sl a10 r7 c11), (I Au.2.2)]) (cs' := [(I Au.1), (Sl a10 r7 c11), (I Au.2.2)]) H (i := 1) rfl ti67 rfl rfl rfl rfl rfl (Nat.le_of_ble_eq_true rfl) (by simp [plain]) rfl) wn ?_
  rintro σ14 ⟨H, -⟩
  refine w_end (q_then (c_ret ?_))
  obtain rfl := sj h
  exact fin_ret (v := (.agg #[(I Au.1), (Sl a10 r7 c11), (I Au.2.2)])) (results_ok Tryz.results57 (res_cell rfl (run_cellRes (cs := [(I Au.1), (Sl a10 r7 c11), (I Au.2.2)]) Tryz.underlying67 rfl ti67 rfl (H.cells 0 rfl)) res_nil) rfl) ⟨a10, c11, rfl, rfl⟩ (H.sel' [1] rfl rfl)

theorem c_spec_put {Ak : List (Int × (List Int) × Int)} {Ax : Int × (List Int) × Int} {Am : Option Addr} {Ao : Nat} {Ay : Option Addr} {Az : Nat} {r : (List (Int × (List Int) × Int))} (h : M.spec_put Ak Ax = some r) :
    Cal2 Tryz.prog 55 [(Sl Am Ak Ao), (.agg #[(I Ax.1), (Sl Ay Ax.2.1 Az), (I Ax.2.2)])] [Ch.ro 0 (Sl Am Ak Ao) Ak, Ch.ro 0 (Sl Ay Ax.2.1 Az) Ax.2.1] (fun n0 v L => ∃ (az1 : Option Addr), ∃ (cz2 : Nat), v = (Sl az1 r cz2) ∧ L = [Ch.own n0 n0 (Sl az1 r cz2) r]) := by
 refine cal2 (n := 59) Tryz.func55 rfl rfl rfl rfl ?_
 intro S0 σ0 n0 hn0 H
 unfold M.spec_put at h
 refine c_seq (rg (st_ex (ex_box (cs := [(I Ax.1), (Sl Ay Ax.2.1 Az), (I Ax.2.2)]) H hn0 rfl rfl) wn ?_))
 rintro _ σ2 ⟨b1, rfl, H, -⟩
 refine sa (.slice none 0 0) rfl (w_end (q_then (c_seq (rg ?_))))
 refine st_ex (ex_buildSlice (el := n0) (xs := ([] : List (Int × (List Int) × Int))) (ps := []) (cs := []) H hn0 Tryz.underlying29 ti67 rfl rfl (by kernel_rfl) (.nil) rfl) wn ?_
 rintro _ σ4 ⟨b3, rfl, H, -⟩
 refine sa (Sl (some ⟨b3, 0, none⟩) ([] : List (Int × (List Int) × Int)) 0) rfl (w_end (q_then (c_seq (c_seq (rg (sa (I 0) rfl (w_end (q_then ?_))))))))
 obtain ⟨o5, hj, h'⟩ := bind_some h
 clear h
 refine c_cut (fun e a w => e = .normal ∧ ∃ (ρ : Nat → Value) (σ : St) (aj1 : Option Addr) (cj2 : Nat), a = fr 59 (updL ρ [(0, (Sl Am Ak Ao)), (3, (pt b1 0)), (5, (Sl aj1 o5 cj2))]) ∧ w = σ.w ∧ Hp S0 σ0 σ [Ch.ro 0 (Sl Am Ak Ao) Ak, Ch.ro 0 (Sl Ay Ax.2.1 Az) Ax.2.1, Ch.bx n0 b1 0 [(I Ax.1), (Sl Ay Ax.2.1 Az), (I Ax.2.2)] [] [], Ch.own n0 n0 (Sl aj1 o5 cj2) o5]) ?_ ?_
 ·clear h'
  rename _ = some o5 => h
  refine c_blk (wp_loopM _ h (fun s6 a w => ∃ (ρ : Nat → Value) (σ : St) (aj1 : Option Addr) (cj2 : Nat), a = fr 59 (updL ρ [(0, (Sl Am Ak Ao)), (3, (pt b1 0)), (5, (Sl aj1 s6.1 cj2)), (6, (I s6.2))]) ∧ w = σ.w ∧ Hp S0 σ0 σ [Ch.ro 0 (Sl Am Ak Ao) Ak, Ch.ro 0 (Sl Ay Ax.2.1 Az) Ax.2.1, Ch.bx n0 b1 0 [(I Ax.1), (Sl Ay Ax.2.1 Az), (I Ax.2.2)] [] [], Ch.own n0 n0 (Sl aj1 s6.1 cj2) s6.1]) ⟨_, σ4, (some ⟨b3, 0, none⟩), 0, fr_join ⟨rfl, rfl, rfl, rfl, trivial⟩, rfl, H.sel' [2, 3, 1, 0] rfl rfl⟩ ?_)
  clear h H
  rintro s6 a w o ⟨ρ, σ7, a8, c9, rfl, rfl, H⟩ h hres
  refine c_seq (c_seq (rg (sm (I s6.2) rfl (sm (Sl Am Ak Ao) rfl (st (v := (I (Ak.length : Int))) (rv_len Tryz.underlying29 rfl) (st (v := (B (decide (s6.2 < (Ak.length : Int))))) (rv_lss (a := s6.2) (b := (Ak.length : Int)) rfl rfl) (w_end (q_then ?_))))))))
  refine cd_cond (decide (s6.2 < (Ak.length : Int))) rfl (fun hb10 => ?_) (fun hb10 => ?_)
  ·replace h := bif_t hb10 h
   refine c_skip (q_then (c_seq ?_))
   obtain ⟨o11, hj, h'⟩ := bind_some h
   clear h
   refine c_cut (fun e a w => e = .normal ∧ ∃ (ρ : Nat → Value) (σ : St) (aj1 : Option Addr) (cj2 : Nat), a = fr 59 (updL ρ [(0, (Sl Am Ak Ao)), (3, (pt b1 0)), (5, (Sl aj1 o11 cj2)), (6, (I s6.2))]) ∧ w = σ.w ∧ Hp S0 σ0 σ [Ch.ro 0 (Sl Am Ak Ao) Ak, Ch.ro 0 (Sl Ay Ax.2.1 Az) Ax.2.1, Ch.bx n0 b1 0 [(I Ax.1), (Sl Ay Ax.2.1 Az), (I Ax.2.2)] [] [], Ch.own n0 n0 (Sl aj1 o11 cj2) o11]) ?_ ?_
   ·clear h'
    rename _ = some o11 => h
    refine c_blk (c_seq ?_)
    refine rgP (σ := σ7) 7 (by kernel_rfl) (by kernel_rfl) (by kernel_rfl) ?_
    refine sq (v := (Sl Am Ak Ao)) (rv_move rfl) (sq (v := (I s6.2)) (rv_move rfl) ?_)
    revert h; refine br fun x12 hx13 h => ?_
    obtain ⟨b15, o16, hi14, -⟩ := (H.ro 0 rfl).ix hx13
    refine sq (v := (pt b15 o16)) (rv_ix Tryz.underlying29 ti67 rfl rfl hi14) (sq (v := (pt b15 (o16 + 0))) (rv_fieldAddr (off := 0) (ft := 3) Tryz.underlying67 rfl ti3 rfl rfl) ?_)
    have hc17 := ((H.ro 0 rfl).at hx13 hi14).fst.int
    refine sq (v := (I x12.1)) (rv_load1 Tryz.underlying3 rfl rfl hc17) (sq (v := (pt b1 0)) (rv_fieldAddr (off := 0) (ft := 3) Tryz.underlying67 rfl ti3 rfl rfl) ?_)
    have hc18 := H.cell (u := (I Ax.1)) (o' := 0) 2 0 rfl rfl rfl
    refine sq (v := (I Ax.1)) (rv_load1 Tryz.underlying3 rfl rfl hc18) (sq_end ?_)
    intro σ19 hm20
    replace H := H.grow (hm20.mono fun _ h => h); clear hm20
    refine st (v := (B (decide (x12.1 < Ax.1)))) (rv_lss (a := x12.1) (b := Ax.1) rfl rfl) (w_end (q_then ?_))
    refine cd_cond (decide (x12.1 < Ax.1)) rfl (fun hb21 => ?_) (fun hb21 => ?_)
    ·replace h := bif_t hb21 h
     refine rg (sm (Sl a8 s6.1 c9) rfl (sm (Sl Am Ak Ao) rfl (sm (I s6.2) rfl ?_)))
     revert h; refine br fun x22 hx23 h => ?_
     obtain ⟨b25, o26, hi24, -⟩ := (H.ro 0 rfl).ix hx23
     refine st (v := (pt b25 o26)) (rv_ix Tryz.underlying29 ti67 rfl rfl hi24) ?_
     obtain ⟨_, ⟨_, _, rfl, rfl, ⟨_, _, rfl, ⟨_, rfl, hR31⟩, rfl⟩⟩, hl27, hc28⟩ := ((H.ro 0 rfl).at hx23 hi24).cells
     obtain ⟨a29, c30, rfl⟩ := hR31.isSl
     replace H := H.add (d := Ch.ro 0 (Sl a29 x22.2.1 c30) x22.2.1) hR31 (fun _ h => h)
     clear hR31
     refine st (v := (.agg #[(I x22.1), (Sl a29 x22.2.1 c30), (I x22.2.2)])) (rv_load Tryz.underlying67 rfl ti67 rfl hl27 hc28) ?_
     revert h; refine br fun r32 hx33 h => ?_
     have hc34 := c_spec_copyItem (Av := a29) (Aw := c30) hx33
     refine st_call (cx_call hc34 (ent_f hc34.fn rfl) hn0 (H.sel' [0, 0, 1, 2, 3, 4] rfl rfl : Hp S0 σ0 _ ([_] ++ _))) wn ?_
     rintro _ σ37 ⟨_, ⟨a35, c36, rfl, rfl⟩, H, -⟩
     replace H : Hp _ _ _ [_, _, _, _, _, _] := H
     obtain ⟨σ38, hw39, H, -⟩ := H.pub 0 rfl (Nat.le_refl _)
     rw [← hw39]; clear hw39
     refine st_ex (ex_buildSlice (el := n0) (xs := ([(r32.1, r32.2.1, r32.2.2)] : List (Int × (List Int) × Int))) (ps := [(0, (.agg #[(I r32.1), (Sl a35 r32.2.1 c36), (I r32.2.2)]))]) (cs := [(I r32.1), (Sl a35 r32.2.1 c36), (I r32.2.2)]) H hn0 Tryz.underlying29 ti67 rfl rfl (by kernel_rfl) (.cons (c := [(I r32.1), (Sl a35 r32.2.1 c36), (I r32.2.2)]) ⟨[(I r32.1)], [(Sl a35 r32.2.1 c36), (I r32.2.2)], rfl, rfl, ⟨[(Sl a35 r32.2.1 c36)], [(I r32.2.2)], rfl, ⟨_, rfl, (H.ro 0 rfl)⟩, rfl⟩⟩ (.nil)) rfl) wn ?_
     rintro _ σ41 ⟨b40, rfl, H, -⟩
     revert h; refine br fun xs42 hx43 h => ?_
     refine st_ex (ex_append H (i := 6) rfl Tryz.underlying29 Tryz.underlying29 ti67 rfl rfl (by decide) (H.own 0 rfl).rd hx43 hn0 rfl rfl) wn ?_
     rintro _ σ46 ⟨a44, c45, rfl, H, -⟩
     refine sa (Sl a44 xs42 c45) rfl (w_end (q_blk ?_))
     obtain rfl := sj h
     exact ⟨rfl, _, σ46, a44, c45, fr_join ⟨rfl, rfl, rfl, rfl, trivial⟩, rfl, H.sel' [4, 5, 6, 0] rfl rfl⟩
    ·replace h := bif_f hb21 h
     refine c_skip (q_blk ?_)
     obtain rfl := sj h
     exact ⟨rfl, _, σ19, a8, c9, fr_join ⟨rfl, rfl, rfl, rfl, trivial⟩, rfl, H.sel' [0, 1, 2, 3] rfl rfl⟩
   ·clear hj
    have h := h'
    clear h' H
    rintro e a w ⟨rfl, ρ, σ47, a48, c49, rfl, rfl, H⟩
    refine q_then (rg (sm (I s6.2) rfl (st (v := (I (w64 (s6.2 + 1)))) (rv_add (a := s6.2) (b := 1) rfl rfl) (sa (I (w64 (s6.2 + 1))) rfl (w_end (q_then ?_))))))
    obtain rfl := sj h
    exact ⟨_, rfl, _, σ47, a48, c49, fr_join ⟨rfl, rfl, rfl, rfl, trivial⟩, rfl, H.sel' [0, 1, 2, 3] rfl rfl⟩
  ·replace h := bif_f hb10 h
   refine c_exit (q_then_x (q_then_x (q_blk_hit ?_)))
   obtain rfl := sj h
   obtain rfl := hres _ rfl
   exact ⟨rfl, _, σ7, a8, c9, fr_join ⟨rfl, rfl, rfl, trivial⟩, rfl, H.sel' [0, 1, 2, 3] rfl rfl⟩
 ·clear hj
  have h := h'
  clear h' H
  rintro e a w ⟨rfl, ρ, σ50, a51, c52, rfl, rfl, H⟩
  refine q_then (c_seq (rg (sm (Sl a51 o5 c52) rfl ?_)))
  have hc53 := H.cells 2 rfl
  refine st (v := (.agg #[(I Ax.1), (Sl Ay Ax.2.1 Az), (I Ax.2.2)])) (rv_load (cs := [(I Ax.1), (Sl Ay Ax.2.1 Az), (I Ax.2.2)]) Tryz.underlying67 rfl ti67 rfl rfl hc53) ?_
  revert h; refine br fun r54 hx55 h => ?_
  have hc56 := c_spec_copyItem (Av := Ay) (Aw := Az) hx55
  refine st_call (cx_call hc56 (ent_f hc56.fn rfl) hn0 (H.sel' [1, 0, 1, 2, 3] rfl rfl : Hp S0 σ0 _ ([_] ++ _))) wn ?_
  rintro _ σ59 ⟨_, ⟨a57, c58, rfl, rfl⟩, H, -⟩
  replace H : Hp _ _ _ [_, _, _, _, _] := H
  obtain ⟨σ60, hw61, H, -⟩ := H.pub 0 rfl (Nat.le_refl _)
  rw [← hw61]; clear hw61
  refine st_ex (ex_buildSlice (el := n0) (xs := ([(r54.1, r54.2.1, r54.2.2)] : List (Int × (List Int) × Int))) (ps := [(0, (.agg #[(I r54.1), (Sl a57 r54.2.1 c58), (I r54.2.2)]))]) (cs := [(I r54.1), (Sl a57 r54.2.1 c58), (I r54.2.2)]) H hn0 Tryz.underlying29 ti67 rfl rfl (by kernel_rfl) (.cons (c := [(I r54.1), (Sl a57 r54.2.1 c58), (I r54.2.2)]) ⟨[(I r54.1)], [(Sl a57 r54.2.1 c58), (I r54.2.2)], rfl, rfl, ⟨[(Sl a57 r54.2.1 c58)], [(I r54.2.2)], rfl, ⟨_, rfl, (H.ro 0 rfl)⟩, rfl⟩⟩ (.nil)) rfl) wn ?_
  rintro _ σ63 ⟨b62, rfl, H, -⟩
  revert h; refine br fun xs64 hx65 h => ?_
  refine st_ex (ex_append H (i := 5) rfl Tryz.underlying29 Tryz.underlying29 ti67 rfl rfl (by decide) (H.own 0 rfl).rd hx65 hn0 rfl rfl) wn ?_
  rintro _ σ68 ⟨a66, c67, rfl, H, -⟩
  refine sa (Sl a66 xs64 c67) rfl (w_end (q_then (c_seq (c_seq (rg (sa (I 0) rfl (w_end (q_then ?_))))))))
  obtain ⟨o69, hj, h'⟩ := bind_some h
  clear h
  refine c_cut (fun e a w => e = .normal ∧ ∃ (ρ : Nat → Value) (σ : St) (aj1 : Option Addr) (cj2 : Nat), a = fr 59 (updL ρ [(5, (Sl aj1 o69 cj2))]) ∧ w = σ.w ∧ Hp S0 σ0 σ [Ch.own n0 n0 (Sl aj1 o69 cj2) o69]) ?_ ?_
  ·clear h'
   rename _ = some o69 => h
   refine c_blk (wp_loopM _ h (fun s70 a w => ∃ (ρ : Nat → Value) (σ : St) (aj1 : Option Addr) (cj2 : Nat), a = fr 59 (updL ρ [(0, (Sl Am Ak Ao)), (3, (pt b1 0)), (5, (Sl aj1 s70.1 cj2)), (7, (I s70.2))]) ∧ w = σ.w ∧ Hp S0 σ0 σ [Ch.ro 0 (Sl Am Ak Ao) Ak, Ch.ro 0 (Sl Ay Ax.2.1 Az) Ax.2.1, Ch.bx n0 b1 0 [(I Ax.1), (Sl Ay Ax.2.1 Az), (I Ax.2.2)] [] [], Ch.own n0 n0 (Sl aj1 s70.1 cj2) s70.1]) ⟨_, σ68, a66, c67, fr_join ⟨rfl, rfl, rfl, rfl, trivial⟩, rfl, H.sel' [3, 4, 5, 0] rfl rfl⟩ ?_)
   clear h H
   rintro s70 a w o ⟨ρ, σ71, a72, c73, rfl, rfl, H⟩ h hres
   refine c_seq (c_seq (rg (sm (I s70.2) rfl (sm (Sl Am Ak Ao) rfl (st (v := (I (Ak.length : Int))) (rv_len Tryz.underlying29 rfl) (st (v := (B (decide (s70.2 < (Ak.length : Int))))) (rv_lss (a := s70.2) (b := (Ak.length : Int)) rfl rfl) (w_end (q_then ?_))))))))
   refine cd_cond (decide (s70.2 < (Ak.length : Int))) rfl (fun hb74 => ?_) (fun hb74 => ?_)
   ·replace h := bif_t hb74 h
    refine c_skip (q_then (c_seq ?_))
    obtain ⟨o75, hj, h'⟩ := bind_some h
    clear h
    refine c_cut (fun e a w => e = .normal ∧ ∃ (ρ : Nat → Value) (σ : St) (aj1 : Option Addr) (cj2 : Nat), a = fr 59 (updL ρ [(0, (Sl Am Ak Ao)), (3, (pt b1 0)), (5, (Sl aj1 o75 cj2)), (7, (I s70.2))]) ∧ w = σ.w ∧ Hp S0 σ0 σ [Ch.ro 0 (Sl Am Ak Ao) Ak, Ch.ro 0 (Sl Ay Ax.2.1 Az) Ax.2.1, Ch.bx n0 b1 0 [(I Ax.1), (Sl Ay Ax.2.1 Az), (I Ax.2.2)] [] [], Ch.own n0 n0 (Sl aj1 o75 cj2) o75]) ?_ ?_
    ·clear h'
     rename _ = some o75 => h
     refine c_blk (c_seq ?_)
     refine rgP (σ := σ71) 7 (by kernel_rfl) (by kernel_rfl) (by kernel_rfl) ?_
     refine sq (v := (Sl Am Ak Ao)) (rv_move rfl) (sq (v := (I s70.2)) (rv_move rfl) ?_)
     revert h; refine br fun x76 hx77 h => ?_
     obtain ⟨b79, o80, hi78, -⟩ := (H.ro 0 rfl).ix hx77
     refine sq (v := (pt b79 o80)) (rv_ix Tryz.underlying29 ti67 rfl rfl hi78) (sq (v := (pt b79 (o80 + 0))) (rv_fieldAddr (off := 0) (ft := 3) Tryz.underlying67 rfl ti3 rfl rfl) ?_)
     have hc81 := ((H.ro 0 rfl).at hx77 hi78).fst.int
     refine sq (v := (I x76.1)) (rv_load1 Tryz.underlying3 rfl rfl hc81) (sq (v := (pt b1 0)) (rv_fieldAddr (off := 0) (ft := 3) Tryz.underlying67 rfl ti3 rfl rfl) ?_)
     have hc82 := H.cell (u := (I Ax.1)) (o' := 0) 2 0 rfl rfl rfl
     refine sq (v := (I Ax.1)) (rv_load1 Tryz.underlying3 rfl rfl hc82) (sq_end ?_)
     intro σ83 hm84
     replace H := H.grow (hm84.mono fun _ h => h); clear hm84
     refine st (v := (B (decide (Ax.1 < x76.1)))) (rv_gtr (a := x76.1) (b := Ax.1) rfl rfl) (w_end (q_then ?_))
     refine cd_cond (decide (Ax.1 < x76.1)) rfl (fun hb85 => ?_) (fun hb85 => ?_)
     ·replace h := bif_t hb85 h
      refine rg (sm (Sl a72 s70.1 c73) rfl (sm (Sl Am Ak Ao) rfl (sm (I s70.2) rfl ?_)))
      revert h; refine br fun x86 hx87 h => ?_
      obtain ⟨b89, o90, hi88, -⟩ := (H.ro 0 rfl).ix hx87
      refine st (v := (pt b89 o90)) (rv_ix Tryz.underlying29 ti67 rfl rfl hi88) ?_
      obtain ⟨_, ⟨_, _, rfl, rfl, ⟨_, _, rfl, ⟨_, rfl, hR95⟩, rfl⟩⟩, hl91, hc92⟩ := ((H.ro 0 rfl).at hx87 hi88).cells
      obtain ⟨a93, c94, rfl⟩ := hR95.isSl
      replace H := H.add (d := Ch.ro 0 (Sl a93 x86.2.1 c94) x86.2.1) hR95 (fun _ h => h)
      clear hR95
      refine st (v := (.agg #[(I x86.1), (Sl a93 x86.2.1 c94), (I x86.2.2)])) (rv_load Tryz.underlying67 rfl ti67 rfl hl91 hc92) ?_
      revert h; refine br fun r96 hx97 h => ?_
      have hc98 := c_spec_copyItem (Av := a93) (Aw := c94) hx97
      refine st_call (cx_call hc98 (ent_f hc98.fn rfl) hn0 (H.sel' [0, 0, 1, 2, 3, 4] rfl rfl : Hp S0 σ0 _ ([_] ++ _))) wn ?_
      rintro _ σ101 ⟨_, ⟨a99, c100, rfl, rfl⟩, H, -⟩
      replace H : Hp _ _ _ [_, _, _, _, _, _] := H
      obtain ⟨σ102, hw103, H, -⟩ := H.pub 0 rfl (Nat.le_refl _)
      rw [← hw103]; clear hw103
      refine st_ex (ex_buildSlice (el := n0) (xs := ([(r96.1, r96.2.1, r96.2.2)] : List (Int × (List Int) × Int))) (ps := [(0, (.agg #[(I r96.1), (Sl a99 r96.2.1 c100), (I r96.2.2)]))]) (cs := [(I r96.1), (Sl a99 r96.2.1 c100), (I r96.2.2)]) H hn0 Tryz.underlying29 ti67 rfl rfl (by kernel_rfl) (.cons (c := [(I r96.1), (Sl a99 r96.2.1 c100), (I r96.2.2)]) ⟨[(I r96.1)], [(Sl a99 r96.2.1 c100), (I r96.2.2)], rfl, rfl, ⟨[(Sl a99 r96.2.1 c100)], [(I r96.2.2)], rfl, ⟨_, rfl, (H.ro 0 rfl)⟩, rfl⟩⟩ (.nil)) rfl) wn ?_
      rintro _ σ105 ⟨b104, rfl, H, -⟩
      revert h; refine br fun xs106 hx107 h => ?_
      refine st_ex (ex_append H (i := 6) rfl Tryz.underlying29 Tryz.underlying29 ti67 rfl rfl (by decide) (H.own 0 rfl).rd hx107 hn0 rfl rfl) wn ?_
      rintro _ σ110 ⟨a108, c109, rfl, H, -⟩
      refine sa (Sl a108 xs106 c109) rfl (w_end (q_blk ?_))
      obtain rfl := sj h
      exact ⟨rfl, _, σ110, a108, c109, fr_join ⟨rfl, rfl, rfl, rfl, trivial⟩, rfl, H.sel' [4, 5, 6, 0] rfl rfl⟩
     ·replace h := bif_f hb85 h
      refine c_skip (q_blk ?_)
      obtain rfl := sj h
      exact ⟨rfl, _, σ83, a72, c73, fr_join ⟨rfl, rfl, rfl, rfl, trivial⟩, rfl, H.sel' [0, 1, 2, 3] rfl rfl⟩
    ·clear hj
     have h := h'
     clear h' H
     rintro e a w ⟨rfl, ρ, σ111, a112, c113, rfl, rfl, H⟩
     refine q_then (rg (sm (I s70.2) rfl (st (v := (I (w64 (s70.2 + 1)))) (rv_add (a := s70.2) (b := 1) rfl rfl) (sa (I (w64 (s70.2 + 1))) rfl (w_end (q_then ?_))))))
     obtain rfl := sj h
     exact ⟨_, rfl, _, σ111, a112, c113, fr_join ⟨rfl, rfl, rfl, rfl, trivial⟩, rfl, H.sel' [0, 1, 2, 3] rfl rfl⟩
   ·replace h := bif_f hb74 h
    refine c_exit (q_then_x (q_then_x (q_blk_hit ?_)))
    obtain rfl := sj h
    obtain rfl := hres _ rfl
    exact ⟨rfl, _, σ71, a72, c73, fr_join ⟨rfl, trivial⟩, rfl, H.sel' [3] rfl rfl⟩
  ·clear hj
   have h := h'
   clear h' H
   rintro e a w ⟨rfl, ρ, σ114, a115, c116, rfl, rfl, H⟩
   refine q_then (c_seq (rg (sm (Sl a115 o69 c116) rfl (sa (Sl a115 o69 c116) rfl (w_end (q_then (c_ret ?_)))))))
   obtain rfl := sj h
   exact fin_ret (v := (Sl a115 o69 c116)) (results_ok Tryz.results55 (res_tmp (v := (Sl a115 o69 c116)) rfl res_nil) rfl) ⟨a115, c116, rfl, rfl⟩ (H.sel' [0] rfl rfl)

theorem c_spec_PutItem {Ak : List (Int × (List Int) × Int)} {Ax : Int × (List Int) × Int} {Am : Option Addr} {Ao : Nat} {Ay : Option Addr} {Az : Nat} {r : (List (Int × (List Int) × Int)) × Bool} (h : M.spec_PutItem Ak Ax = some r) :
    Cal2 Tryz.prog 32 [(Sl Am Ak Ao), (.agg #[(I Ax.1), (Sl Ay Ax.2.1 Az), (I Ax.2.2)])] [Ch.ro 0 (Sl Am Ak Ao) Ak, Ch.ro 0 (Sl Ay Ax.2.1 Az) Ax.2.1] (fun n0 v L => ∃ (az1 : Option Addr), ∃ (cz2 : Nat), v = (.tuple #[(Sl az1 r.1 cz2), (B r.2)]) ∧ L = [Ch.own n0 n0 (Sl az1 r.1 cz2) r.1]) := by
 refine cal2 (n := 22) Tryz.func32 rfl rfl rfl rfl ?_
 intro S0 σ0 n0 hn0 H
 unfold M.spec_PutItem at h
 refine c_seq (rg (st_ex (ex_box (cs := [(I Ax.1), (Sl Ay Ax.2.1 Az), (I Ax.2.2)]) H hn0 rfl rfl) wn ?_))
 rintro _ σ2 ⟨b1, rfl, H, -⟩
 refine sa (.slice none 0 0) rfl (sa (B false) rfl (w_end (q_then (c_seq (c_seq ?_)))))
 obtain ⟨o3, hj, h'⟩ := bind_some h
 clear h
 refine c_cut (fun e a w => e = .normal ∧ ∃ (ρ : Nat → Value) (σ : St), a = fr 22 (updL ρ [(0, (Sl Am Ak Ao)), (3, (pt b1 0)), (14, (B o3))]) ∧ w = σ.w ∧ Hp S0 σ0 σ [Ch.ro 0 (Sl Am Ak Ao) Ak, Ch.ro 0 (Sl Ay Ax.2.1 Az) Ax.2.1, Ch.bx n0 b1 0 [(I Ax.1), (Sl Ay Ax.2.1 Az), (I Ax.2.2)] [] []]) ?_ ?_
 ·clear h'
  rename _ = some o3 => h
  refine rg (sm (Sl Am Ak Ao) rfl ?_)
  revert h; refine br fun r4 hx5 h => ?_
  have hc6 := c_spec_validStore (Am := Am) (Ao := Ao) hx5
  refine st_call (cx_call hc6 (ent_f hc6.fn rfl) hn0 (H.sel' [1, 0, 1, 2] rfl rfl : Hp S0 σ0 _ ([_] ++ _))) wn ?_
  rintro _ σ7 ⟨_, ⟨rfl, rfl⟩, H, -⟩
  replace H : Hp _ _ _ [_, _, _] := H
  refine st (v := (B (!r4))) (rv_not rfl) (sm (B (!r4)) rfl ?_)
  rcases Bool.eq_false_or_eq_true (!r4) with hb8 | hb8
  ·replace h := bif_t hb8 h
   refine st_skip (congrArg some hb8) (st_skip (congrArg some hb8) (st_skip (congrArg some hb8) (st (v := (B true)) (rv_pick_t (congrArg B hb8) rfl) (w_end ?_))))
   obtain rfl := sj h
   exact ⟨rfl, _, σ7, fr_join ⟨rfl, rfl, rfl, trivial⟩, rfl, H.sel' [1, 2, 0] rfl rfl⟩
  ·replace h := bif_f hb8 h
   have hc9 := H.cells 0 rfl
   refine st_g (v := (.agg #[(I Ax.1), (Sl Ay Ax.2.1 Az), (I Ax.2.2)])) (congrArg some hb8) (rv_load (cs := [(I Ax.1), (Sl Ay Ax.2.1 Az), (I Ax.2.2)]) Tryz.underlying67 rfl ti67 rfl rfl hc9) ?_
   revert h; refine br fun r10 hx11 h => ?_
   have hc12 := c_spec_validItem (Av := Ay) (Aw := Az) hx11
   refine st_call (cx_call hc12 (ent_f hc12.fn rfl) hn0 (H.sel' [2, 0, 1, 2] rfl rfl : Hp S0 σ0 _ ([_] ++ _))) (wanted_yes rfl (by exact (congrArg some hb8))) ?_
   rintro _ σ13 ⟨_, ⟨rfl, rfl⟩, H, -⟩
   replace H : Hp _ _ _ [_, _, _] := H
   refine st_g (v := (B (!r10))) (congrArg some hb8) (rv_not rfl) (st (v := (B (!r10))) (rv_pick_f (congrArg B hb8) rfl) (w_end ?_))
   obtain rfl := sj h
   exact ⟨rfl, _, σ13, fr_join ⟨rfl, rfl, rfl, trivial⟩, rfl, H.sel' [1, 2, 0] rfl rfl⟩
 ·clear hj
  have h := h'
  clear h' H
  rintro e a w ⟨rfl, ρ, σ14, rfl, rfl, H⟩
  refine q_then ?_
  refine cd_cond o3 rfl (fun hb15 => ?_) (fun hb15 => ?_)
  ·replace h := bif_t hb15 h
   refine c_seq (rg (sa (.slice none 0 0) rfl (sa (B false) rfl (w_end (q_then (c_ret (q_then_r ?_)))))))
   replace H := H.nilOwn (Int × (List Int) × Int) n0 n0
   obtain rfl := sj h
   exact fin_ret (v := (.tuple #[(.slice none 0 0), (B false)])) (results_ok Tryz.results32 (res_tmp (v := (.slice none 0 0)) rfl (res_tmp (v := (B false)) rfl res_nil)) rfl) ⟨none, 0, rfl, rfl⟩ (H.sel' [0] rfl rfl)
  ·replace h := bif_f hb15 h
   refine c_skip (q_then (c_seq (rg (sm (Sl Am Ak Ao) rfl ?_))))
   have hc16 := H.cells 2 rfl
   refine st (v := (.agg #[(I Ax.1), (Sl Ay Ax.2.1 Az), (I Ax.2.2)])) (rv_load (cs := [(I Ax.1), (Sl Ay Ax.2.1 Az), (I Ax.2.2)]) Tryz.underlying67 rfl ti67 rfl rfl hc16) ?_
   revert h; refine br fun r17 hx18 h => ?_
   have hc19 := c_spec_put (Am := Am) (Ao := Ao) (Ay := Ay) (Az := Az) hx18
   refine st_call (cx_call hc19 (ent_f hc19.fn rfl) hn0 (H.sel' [0, 1, 0, 1, 2] rfl rfl : Hp S0 σ0 _ ([_, _] ++ _))) wn ?_
   rintro _ σ22 ⟨_, ⟨a20, c21, rfl, rfl⟩, H, -⟩
   replace H : Hp _ _ _ [_, _, _, _] := H
   refine sa (Sl a20 r17 c21) rfl (w_end (q_then (c_seq (c_seq (rg (sm (Sl a20 r17 c21) rfl ?_))))))
   revert h; refine br fun r23 hx24 h => ?_
   have hc25 := c_spec_validStore (Am := a20) (Ao := c21) hx24
   have hle := Nat.le_trans hn0 H.size
   refine st_call (cx_lend (Loan.lend Loan.nil) hc25 (ent_f hc25.fn rfl) (show Hp S0 σ0 _ ([Ch.own n0 n0 (Sl a20 r17 c21) r17] ++ ([] ++ [Ch.ro 0 (Sl Am Ak Ao) Ak, Ch.ro 0 (Sl Ay Ax.2.1 Az) Ax.2.1, Ch.bx n0 b1 0 [(I Ax.1), (Sl Ay Ax.2.1 Az), (I Ax.2.2)] [] []])) from (H.sel' [0, 1, 2, 3] rfl rfl)) (by rintro _ _ _ ⟨rfl, rfl⟩; exact trivial)) wn ?_
   rintro _ σ26 ⟨_, ⟨rfl, rfl⟩, H, -, -⟩
   replace H : Hp _ _ _ [_, _, _, _] := H
   clear hle
   replace H : Hp _ _ _ [_, _, _, _] := H
   refine st (v := (B (!r23))) (rv_not rfl) (w_end (q_then ?_))
   refine cd_cond (!r23) rfl (fun hb27 => ?_) (fun hb27 => ?_)
   ·replace h := bif_t hb27 h
    refine c_seq (rg (sa (.slice none 0 0) rfl (sa (B false) rfl (w_end (q_then (c_ret (q_then_r ?_)))))))
    replace H := H.nilOwn (Int × (List Int) × Int) n0 n0
    obtain rfl := sj h
    exact fin_ret (v := (.tuple #[(.slice none 0 0), (B false)])) (results_ok Tryz.results32 (res_tmp (v := (.slice none 0 0)) rfl (res_tmp (v := (B false)) rfl res_nil)) rfl) ⟨none, 0, rfl, rfl⟩ (H.sel' [0] rfl rfl)
   ·replace h := bif_f hb27 h
    refine c_skip (q_then (c_seq (rg (sm (Sl a20 r17 c21) rfl (sa (Sl a20 r17 c21) rfl (sa (B true) rfl (w_end (q_then (c_ret ?_)))))))))
    obtain rfl := sj h
    exact fin_ret (v := (.tuple #[(Sl a20 r17 c21), (B true)])) (results_ok Tryz.results32 (res_tmp (v := (Sl a20 r17 c21)) rfl (res_tmp (v := (B true)) rfl res_nil)) rfl) ⟨a20, c21, rfl, rfl⟩ (H.sel' [0] rfl rfl)

theorem c_spec_desk_put {Ba : (List (Int × (List Int) × Int)) × Int} {Bb : Int} {Bc : List Int} {Bd : Int} {Be : Option Addr} {Bf : Nat} {Bg Bh Bi : Nat} {Bj Bk : List Value} {Bl : Option Addr} {Bm : Nat} {r : ByteArray × ((List (Int × (List Int) × Int)) × Int)} (h : M.spec_desk_put Ba Bb Bc Bd = some r) :
    Cal2 Tryz.prog 16 [(pt Bh Bi), (I Bb), (Sl Bl Bc Bm), (I Bd)] [Ch.bx Bg Bh Bi [(Sl Be Ba.1 Bf), (I Ba.2)] Bj Bk, Ch.ro 0 (Sl Be Ba.1 Bf) Ba.1, Ch.ro 0 (Sl Bl Bc Bm) Bc] (fun n0 v L => ∃ (az1 : Option Addr), ∃ (cz2 : Nat), v = (.string r.1) ∧ L = [Ch.bx Bg Bh Bi [(Sl az1 r.2.1 cz2), (I r.2.2)] Bj Bk, Ch.ro 0 (Sl az1 r.2.1 cz2) r.2.1]) := by
 refine cal2 (n := 29) Tryz.func16 rfl rfl rfl rfl ?_
 intro S0 σ0 n0 hn0 H
 unfold M.spec_desk_put at h
 refine c_seq (rg (sa (.string (ByteArray.mk #[])) rfl (w_end (q_then (c_seq (rg (sm (pt Bh Bi) rfl (st (v := (pt Bh Bi)) (rv_nilCheck rfl) (st (v := (pt Bh Bi)) (rv_fieldAddr (off := 0) (ft := 29) Tryz.underlying31 rfl ti29 rfl rfl) ?_)))))))))
 have hc1 := H.cell (u := (Sl Be Ba.1 Bf)) (o' := Bi) 0 0 rfl rfl rfl
 refine st (v := (Sl Be Ba.1 Bf)) (rv_load1 Tryz.underlying29 rfl rfl hc1) (sm (I Bb) rfl (sm (Sl Bl Bc Bm) rfl (sm (I Bd) rfl ?_)))
 refine st (v := (.agg #[(I Bb), (Sl Bl Bc Bm), (I Bd)])) (rv_build (ps := [(0, (I Bb)), (1, (Sl Bl Bc Bm)), (2, (I Bd))]) Tryz.underlying67 ti67 (bp67 Tryz.underlying67) rfl (by kernel_rfl)) ?_
 revert h; refine br fun r2 hx3 h => ?_
 have hc4 := c_spec_PutItem (Am := Be) (Ao := Bf) (Ay := Bl) (Az := Bm) hx3
 refine st_call (cx_call hc4 (ent_f hc4.fn rfl) hn0 (H.sel' [1, 2, 0, 1, 2] rfl rfl : Hp S0 σ0 _ ([_, _] ++ _))) wn ?_
 rintro _ σ7 ⟨_, ⟨a5, c6, rfl, rfl⟩, H, -⟩
 replace H : Hp _ _ _ [_, _, _, _] := H
 refine sm (.tuple #[(Sl a5 r2.1 c6), (B r2.2)]) rfl (st (v := (Sl a5 r2.1 c6)) (rv_extract rfl rfl) (st (v := (B r2.2)) (rv_extract rfl rfl) (sa (Sl a5 r2.1 c6) rfl (sa (B r2.2) rfl (w_end (q_then (c_seq (c_seq (rg (sm (B r2.2) rfl (st (v := (B (!r2.2))) (rv_not rfl) ?_)))))))))))
 refine w_end (q_then ?_)
 refine cd_cond (!r2.2) rfl (fun hb8 => ?_) (fun hb8 => ?_)
 ·replace h := bif_t hb8 h
  refine c_seq (rg (sa (.string (ByteArray.mk #[110, 111])) rfl (w_end (q_then (c_ret (q_then_r ?_))))))
  obtain rfl := sj h
  exact fin_ret (v := (.string (ByteArray.mk #[110, 111]))) (results_ok Tryz.results16 (res_tmp (v := (.string (ByteArray.mk #[110, 111]))) rfl res_nil) rfl) ⟨Be, Bf, rfl, rfl⟩ (H.sel' [1, 2] rfl rfl)
 ·replace h := bif_f hb8 h
  refine c_skip (q_then (c_seq (rg (sm (pt Bh Bi) rfl (sm (Sl a5 r2.1 c6) rfl (st (v := (pt Bh Bi)) (rv_nilCheck rfl) (st (v := (pt Bh Bi)) (rv_fieldAddr (off := 0) (ft := 29) Tryz.underlying31 rfl ti29 rfl rfl) ?_)))))))
  refine st_exS (ex_store_box (k := 0) (cs := [(Sl Be Ba.1 Bf), (I Ba.2)]) (vs := [(Sl a5 r2.1 c6)]) (cs' := [(Sl a5 r2.1 c6), (I Ba.2)]) H (i := 1) rfl ti29 rfl rfl rfl rfl rfl (Nat.le_of_ble_eq_true rfl) (by simp [plain]) rfl) wn ?_
  rintro σ9 ⟨H, -⟩
  refine w_end (q_then (c_seq (rg (sa (.string (ByteArray.mk #[111, 107])) rfl (w_end (q_then (c_ret ?_)))))))
  obtain ⟨σ10, hw11, H, -⟩ := H.pub 1 rfl (Nat.le_refl _)
  rw [← hw11]; clear hw11
  replace H := H.roLow 0 0 rfl (Nat.zero_le _)
  obtain rfl := sj h
  exact fin_ret (v := (.string (ByteArray.mk #[111, 107]))) (results_ok Tryz.results16 (res_tmp (v := (.string (ByteArray.mk #[111, 107]))) rfl res_nil) rfl) ⟨a5, c6, rfl, rfl⟩ (H.sel' [2, 0] rfl rfl)

theorem c_spec_decimal : ∀ (fuel : Nat) {Ah : Int}  {r : ByteArray} (h : M.spec_decimal fuel Ah = some r),
    Cal2 Tryz.prog 23 [(I Ah)] [] (fun n0 v L => v = (.string r) ∧ L = []) := by
 intro fuel
 induction fuel with
 | zero => intro _ r h; cases h
 | succ fuel ih =>
 ·intro Ah r h
  replace h : M.spec_decimal_F (M.spec_decimal fuel) Ah = some r := h
  refine cal2 (n := 34) Tryz.func23 rfl rfl rfl rfl ?_
  intro S0 σ0 n0 hn0 H
  unfold M.spec_decimal_F at h
  refine c_seq (rg (sa (.string (ByteArray.mk #[])) rfl (w_end (q_then (c_seq (c_seq ?_))))))
  obtain ⟨o1, hj, h'⟩ := bind_some h
  clear h
  refine c_cut (fun e a w => e = .normal ∧ ∃ (ρ : Nat → Value) (σ : St), a = fr 34 (updL ρ [(0, (I Ah)), (10, (B o1))]) ∧ w = σ.w ∧ Hp S0 σ0 σ []) ?_ ?_
  ·clear h'
   rename _ = some o1 => h
   refine rg (sm (I Ah) rfl (st (v := (B (decide (Ah < 0)))) (rv_lss (a := Ah) (b := 0) rfl rfl) (sm (B (decide (Ah < 0))) rfl ?_)))
   rcases Bool.eq_false_or_eq_true (decide (Ah < 0)) with hb2 | hb2
   ·replace h := bif_t hb2 h
    refine st_g (v := (I Ah)) (congrArg some hb2) (rv_move rfl) (st_g (v := (I Ah)) (congrArg some hb2) (rv_move rfl) (st_g (v := (I (w64 (0 - Ah)))) (congrArg some hb2) (rv_neg (a := Ah) rfl) (st_g (v := (B (Ah == (w64 (0 - Ah))))) (congrArg some hb2) (rv_eql (a := Ah) (b := (w64 (0 - Ah))) rfl rfl) (st (v := (B (Ah == (w64 (0 - Ah))))) (rv_pick_t (congrArg B hb2) rfl) (w_end ?_)))))
    obtain rfl := sj h
    exact ⟨rfl, _, σ0, fr_join ⟨rfl, rfl, trivial⟩, rfl, H.sel' [] rfl rfl⟩
   ·replace h := bif_f hb2 h
    refine st_skip (congrArg some hb2) (st_skip (congrArg some hb2) (st_skip (congrArg some hb2) (st_skip (congrArg some hb2) (st (v := (B false)) (rv_pick_f (congrArg B hb2) rfl) (w_end ?_)))))
    obtain rfl := sj h
    exact ⟨rfl, _, σ0, fr_join ⟨rfl, rfl, trivial⟩, rfl, H.sel' [] rfl rfl⟩
  ·clear hj
   have h := h'
   clear h' H
   rintro e a w ⟨rfl, ρ, σ3, rfl, rfl, H⟩
   refine q_then ?_
   refine cd_cond o1 rfl (fun hb4 => ?_) (fun hb4 => ?_)
   ·replace h := bif_t hb4 h
    refine c_seq (rg (sa (.string (ByteArray.mk #[45, 57, 50, 50, 51, 51, 55, 50, 48, 51, 54, 56, 53, 52, 55, 55, 53, 56, 48, 56])) rfl (w_end (q_then (c_ret (q_then_r ?_))))))
    obtain rfl := sj h
    exact fin_ret (v := (.string (ByteArray.mk #[45, 57, 50, 50, 51, 51, 55, 50, 48, 51, 54, 56, 53, 52, 55, 55, 53, 56, 48, 56]))) (results_ok Tryz.results23 (res_tmp (v := (.string (ByteArray.mk #[45, 57, 50, 50, 51, 51, 55, 50, 48, 51, 54, 56, 53, 52, 55, 55, 53, 56, 48, 56]))) rfl res_nil) rfl) ⟨rfl, rfl⟩ (H.sel' [] rfl rfl)
   ·replace h := bif_f hb4 h
    refine c_skip (q_then (c_seq (c_seq (rg (sm (I Ah) rfl (st (v := (B (decide (Ah < 0)))) (rv_lss (a := Ah) (b := 0) rfl rfl) (w_end (q_then ?_))))))))
    refine cd_cond (decide (Ah < 0)) rfl (fun hb5 => ?_) (fun hb5 => ?_)
    ·replace h := bif_t hb5 h
     refine c_seq (rg (sm (I Ah) rfl (st (v := (I (w64 (0 - Ah)))) (rv_neg (a := Ah) rfl) ?_)))
     revert h; refine br fun r6 hx7 h => ?_
     have hc8 := ih hx7
     refine st_call (cx_call hc8 (ent_f hc8.fn rfl) hn0 (H.sel' [] rfl rfl : Hp S0 σ0 _ ([] ++ _))) wn ?_
     rintro _ σ9 ⟨_, ⟨rfl, rfl⟩, H, -⟩
     replace H : Hp _ _ _ [] := H
     revert h; refine br fun s10 hx11 h => ?_
     refine st (v := (.string s10)) (rv_scat rfl rfl hx11) (sa (.string s10) rfl (w_end (q_then (c_ret (q_then_r ?_)))))
     obtain rfl := sj h
     exact fin_ret (v := (.string s10)) (results_ok Tryz.results23 (res_tmp (v := (.string s10)) rfl res_nil) rfl) ⟨rfl, rfl⟩ (H.sel' [] rfl rfl)
    ·replace h := bif_f hb5 h
     refine c_skip (q_then (c_seq (c_seq (rg (sm (I Ah) rfl (st (v := (B (decide (Ah < 10)))) (rv_lss (a := Ah) (b := 10) rfl rfl) (w_end (q_then ?_))))))))
     refine cd_cond (decide (Ah < 10)) rfl (fun hb12 => ?_) (fun hb12 => ?_)
     ·replace h := bif_t hb12 h
      refine c_seq (rg (sm (I Ah) rfl (st (v := (I (w64 (48 + Ah)))) (rv_add (a := 48) (b := Ah) rfl rfl) (st (v := (.int .u8 ((gb8 (w64 (48 + Ah))).toNat : Int))) (RunV.b8 (rvk_conv (k := .i64) (k' := .u8) (a := (w64 (48 + Ah))) Tryz.underlying3 Tryz.underlying5 rfl)) ?_))))
      refine st_ex (ex_buildSlice (el := n0) (xs := ([gb8 (w64 (48 + Ah))] : List UInt8)) (ps := [(0, (.int .u8 ((gb8 (w64 (48 + Ah))).toNat : Int)))]) (cs := [(.int .u8 ((gb8 (w64 (48 + Ah))).toNat : Int))]) H hn0 Tryz.underlying38 ti5 rfl rfl (by kernel_rfl) (.cons (c := [(.int .u8 ((gb8 (w64 (48 + Ah))).toNat : Int))]) rfl (.nil)) rfl) wn ?_
      rintro _ σ14 ⟨b13, rfl, H, -⟩
      have hR15 := (H.own 0 rfl).rd
      refine st (v := (.string (bstr ([gb8 (w64 (48 + Ah))] : List UInt8)))) (rv_b2s Tryz.underlying38 Tryz.underlying5 Tryz.underlying9 hR15 rfl) (sa (.string (bstr ([gb8 (w64 (48 + Ah))] : List UInt8))) rfl (w_end (q_then (c_ret (q_then_r ?_)))))
      obtain rfl := sj h
      exact fin_ret (v := (.string (bstr ([gb8 (w64 (48 + Ah))] : List UInt8)))) (results_ok Tryz.results23 (res_tmp (v := (.string (bstr ([gb8 (w64 (48 + Ah))] : List UInt8)))) rfl res_nil) rfl) ⟨rfl, rfl⟩ (H.sel' [] rfl rfl)
     ·replace h := bif_f hb12 h
      refine c_skip (q_then (c_seq ?_))
      revert h; refine br fun r16 hx17 h => ?_
      have hc18 := ih hx17
      have Hs := H
      refine rg2 (σ := σ3) (Nm := (Nat)) 9 [2, 7] [[false, false], [true, false], [false, true], [true, true]] [[(0, 0), (2, 2)], [(0, 0), (2, 2)], [(0, 1), (2, 3)], [(0, 0), (1, 1)], [(0, 0), (1, 1)], [(0, 0), (1, 1)], [(0, 0), (1, 1)], [(0, 2), (1, 3)], [(2, 2), (3, 3)]] 3 [fun (b19 : (Nat)) => fun σm => Hp S0 σ0 σm [] ∧ Md (cov []) σ3 σm, fun (b19 : (Nat)) => fun σm => Hp S0 σ0 σm [] ∧ Md (cov []) σ3 σm, fun (b19 : (Nat)) => fun σm => Hp S0 σ0 σm [Ch.own n0 n0 (Sl (some ⟨b19, 0, none⟩) ([gb8 (w64 (48 + (Ah.tmod 10)))] : List UInt8) 1) ([gb8 (w64 (48 + (Ah.tmod 10)))] : List UInt8)] ∧ Md (cov []) σ3 σm, fun (b19 : (Nat)) => fun σm => Hp S0 σ0 σm [Ch.own n0 n0 (Sl (some ⟨b19, 0, none⟩) ([gb8 (w64 (48 + (Ah.tmod 10)))] : List UInt8) 1) ([gb8 (w64 (48 + (Ah.tmod 10)))] : List UInt8)] ∧ Md (cov []) σ3 σm] [fun (b19 : (Nat)) => (I Ah), fun (b19 : (Nat)) => (I (w64 (Ah.tdiv 10))), fun (b19 : (Nat)) => (.string r16), fun (b19 : (Nat)) => (I Ah), fun (b19 : (Nat)) => (I (Ah.tmod 10)), fun (b19 : (Nat)) => (I (w64 (48 + (Ah.tmod 10)))), fun (b19 : (Nat)) => (.int .u8 ((gb8 (w64 (48 + (Ah.tmod 10)))).toNat : Int)), fun (b19 : (Nat)) => (Sl (some ⟨b19, 0, none⟩) ([gb8 (w64 (48 + (Ah.tmod 10)))] : List UInt8) 1), fun (b19 : (Nat)) => (.string (bstr ([gb8 (w64 (48 + (Ah.tmod 10)))] : List UInt8)))] (0) (by kernel_rfl) (by kernel_rfl) ?_ ?_ ?_
      ·intro σm m0
       exact ⟨H.grow (m0.mono fun _ h => h.elim), m0⟩
      ·refine ac rfl (by
         intro k b19 ρ σm hJ hoff hdep
         have e0 := look_off (N := 34) (hoff 0 rfl) rfl
         exact dp_v (v := (I Ah)) wn (rv_move e0) rfl hJ) ?_
       refine ac rfl (by
         intro k b19 ρ σm hJ hoff hdep
         have e24 := hdep 0 rfl rfl 24 rfl
         exact dp_v (v := (I (w64 (Ah.tdiv 10)))) wn (rv_quo (a := Ah) (b := 10) e24 rfl (by decide)) rfl hJ) ?_
       refine all_cons (by
         refine ⟨?_, ?_⟩
         ·intro b19 ρ σm hJ hoff hdep
          have e25 : look 34 ρ 25 = (I (w64 (Ah.tdiv 10))) := hdep 1 rfl rfl 25 rfl
          obtain ⟨H, m⟩ := id hJ
          refine dp_cx wn (cx_call hc18 (ent_f hc18.fn (by show [look 34 ρ 25] = _; rw [e25])) hn0 (H.sel' [] rfl rfl : Hp S0 σ0 _ ([] ++ _))) ?_
          rintro _ σq ⟨_, ⟨rfl, rfl⟩, H2, m2⟩
          exact ⟨_, b19, rfl, rfl, ⟨H2.sel' [] rfl rfl, m.comp0 m2⟩, stab [0, 1, 3, 4, 5, 6, 7, 8] (by kernel_rfl) ⟨rfl, rfl, rfl, rfl, rfl, rfl, rfl, rfl, trivial⟩⟩
         refine ⟨?_, ?_⟩
         ·intro b19 ρ σm hJ hoff hdep
          have e25 : look 34 ρ 25 = (I (w64 (Ah.tdiv 10))) := hdep 1 rfl rfl 25 rfl
          obtain ⟨H, m⟩ := id hJ
          refine dp_cx wn (cx_call hc18 (ent_f hc18.fn (by show [look 34 ρ 25] = _; rw [e25])) hn0 (H.sel' [0] rfl rfl : Hp S0 σ0 _ ([] ++ _))) ?_
          rintro _ σq ⟨_, ⟨rfl, rfl⟩, H2, m2⟩
          exact ⟨_, b19, rfl, rfl, ⟨H2.sel' [0] rfl rfl, m.comp0 m2⟩, stab [0, 1, 3, 4, 5, 6, 7, 8] (by kernel_rfl) ⟨rfl, rfl, rfl, rfl, rfl, rfl, rfl, rfl, trivial⟩⟩
         trivial) ?_
       refine ac rfl (by
         intro k b19 ρ σm hJ hoff hdep
         have e0 := look_off (N := 34) (hoff 0 rfl) rfl
         exact dp_v (v := (I Ah)) wn (rv_move e0) rfl hJ) ?_
       refine ac rfl (by
         intro k b19 ρ σm hJ hoff hdep
         have e27 := hdep 3 rfl rfl 27 rfl
         exact dp_v (v := (I (Ah.tmod 10))) wn (rv_rem (a := Ah) (b := 10) e27 rfl (by decide)) rfl hJ) ?_
       refine ac rfl (by
         intro k b19 ρ σm hJ hoff hdep
         have e28 := hdep 4 rfl rfl 28 rfl
         exact dp_v (v := (I (w64 (48 + (Ah.tmod 10))))) wn (rv_add (a := 48) (b := (Ah.tmod 10)) rfl e28) rfl hJ) ?_
       refine ac rfl (by
         intro k b19 ρ σm hJ hoff hdep
         have e29 := hdep 5 rfl rfl 29 rfl
         exact dp_v (v := (.int .u8 ((gb8 (w64 (48 + (Ah.tmod 10)))).toNat : Int))) wn (RunV.b8 (rvk_conv (k := .i64) (k' := .u8) (a := (w64 (48 + (Ah.tmod 10)))) Tryz.underlying3 Tryz.underlying5 e29)) rfl hJ) ?_
       refine all_cons (by
         refine ⟨?_, ?_⟩
         ·intro b19 ρ σm hJ hoff hdep
          have e30 : look 34 ρ 30 = (.int .u8 ((gb8 (w64 (48 + (Ah.tmod 10)))).toNat : Int)) := hdep 6 rfl rfl 30 rfl
          obtain ⟨H, m⟩ := id hJ
          refine dp_ex wn (ex_buildSlice (el := n0) (xs := ([gb8 (w64 (48 + (Ah.tmod 10)))] : List UInt8)) (ps := [(0, (.int .u8 ((gb8 (w64 (48 + (Ah.tmod 10)))).toNat : Int)))]) (cs := [(.int .u8 ((gb8 (w64 (48 + (Ah.tmod 10)))).toNat : Int))]) H hn0 Tryz.underlying38 ti5 rfl (by show [(0, look 34 ρ 30)] = _; rw [e30]) (by kernel_rfl) (.cons (c := [(.int .u8 ((gb8 (w64 (48 + (Ah.tmod 10)))).toNat : Int))]) rfl (.nil)) rfl) ?_
          rintro _ σq ⟨b19x, rfl, H2, m2⟩
          exact ⟨_, b19x, rfl, rfl, ⟨H2.sel' [0] rfl rfl, m.comp0 m2⟩, stab [0, 1, 2, 3, 4, 5, 6] (by kernel_rfl) ⟨rfl, rfl, rfl, rfl, rfl, rfl, rfl, trivial⟩⟩
         refine ⟨?_, ?_⟩
         ·intro b19 ρ σm hJ hoff hdep
          have e30 : look 34 ρ 30 = (.int .u8 ((gb8 (w64 (48 + (Ah.tmod 10)))).toNat : Int)) := hdep 6 rfl rfl 30 rfl
          obtain ⟨H, m⟩ := id hJ
          refine dp_ex wn (ex_buildSlice (el := n0) (xs := ([gb8 (w64 (48 + (Ah.tmod 10)))] : List UInt8)) (ps := [(0, (.int .u8 ((gb8 (w64 (48 + (Ah.tmod 10)))).toNat : Int)))]) (cs := [(.int .u8 ((gb8 (w64 (48 + (Ah.tmod 10)))).toNat : Int))]) H hn0 Tryz.underlying38 ti5 rfl (by show [(0, look 34 ρ 30)] = _; rw [e30]) (by kernel_rfl) (.cons (c := [(.int .u8 ((gb8 (w64 (48 + (Ah.tmod 10)))).toNat : Int))]) rfl (.nil)) rfl) ?_
          rintro _ σq ⟨b19x, rfl, H2, m2⟩
          exact ⟨_, b19x, rfl, rfl, ⟨H2.sel' [0] rfl rfl, m.comp0 m2⟩, stab [0, 1, 2, 3, 4, 5, 6] (by kernel_rfl) ⟨rfl, rfl, rfl, rfl, rfl, rfl, rfl, trivial⟩⟩
         trivial) ?_
       refine all_cons (by
         refine ⟨?_, ?_⟩
         ·intro b19 ρ σm hJ hoff hdep
          have e31 := hdep 7 rfl rfl 31 rfl
          obtain ⟨H, m⟩ := id hJ
          have hR20 := (H.own 0 rfl).rd
          exact dp_v (v := (.string (bstr ([gb8 (w64 (48 + (Ah.tmod 10)))] : List UInt8)))) wn (rv_b2s Tryz.underlying38 Tryz.underlying5 Tryz.underlying9 hR20 e31) rfl hJ
         refine ⟨?_, ?_⟩
         ·intro b19 ρ σm hJ hoff hdep
          have e31 := hdep 7 rfl rfl 31 rfl
          obtain ⟨H, m⟩ := id hJ
          have hR20 := (H.own 0 rfl).rd
          exact dp_v (v := (.string (bstr ([gb8 (w64 (48 + (Ah.tmod 10)))] : List UInt8)))) wn (rv_b2s Tryz.underlying38 Tryz.underlying5 Tryz.underlying9 hR20 e31) rfl hJ
         trivial) ?_
       exact all_nil
      ·intro b19 ρ σ21 hJ hoff hrel
       have e26 := hrel 2 rfl 26 rfl
       have e32 := hrel 8 rfl 32 rfl
       obtain ⟨H, -⟩ := (show Hp S0 σ0 σ21 [Ch.own n0 n0 (Sl (some ⟨b19, 0, none⟩) ([gb8 (w64 (48 + (Ah.tmod 10)))] : List UInt8) 1) ([gb8 (w64 (48 + (Ah.tmod 10)))] : List UInt8)] ∧ Md (cov []) σ3 σ21 from hJ)
       clear hJ Hs
       rw [fr_lookL (L := [(26, (.string r16)), (32, (.string (bstr ([gb8 (w64 (48 + (Ah.tmod 10)))] : List UInt8))))]) ⟨e26, e32, trivial⟩]
       clear hoff hrel e26 e32
       revert h; refine br fun s22 hx23 h => ?_
       refine st (v := (.string s22)) (rv_scat rfl rfl hx23) (sa (.string s22) rfl (w_end (q_then (c_ret ?_))))
       obtain rfl := sj h
       exact fin_ret (v := (.string s22)) (results_ok Tryz.results23 (res_tmp (v := (.string s22)) rfl res_nil) rfl) ⟨rfl, rfl⟩ (H.sel' [] rfl rfl)

theorem c_spec_parseInt {Af : ByteArray}  {r : Int × Bool} (h : M.spec_parseInt Af = some r) :
    Cal2 Tryz.prog 33 [(.string Af)] [] (fun n0 v L => v = (.tuple #[(I r.1), (B r.2)]) ∧ L = []) := by
 refine cal2 (n := 63) Tryz.func33 rfl rfl rfl rfl ?_
 intro S0 σ0 n0 hn0 H
 unfold M.spec_parseInt at h
 refine c_seq (rg (sa (I 0) rfl (sa (B false) rfl (w_end (q_then (c_seq (rg (sa (I 0) rfl (w_end (q_then (c_seq ?_)))))))))))
 refine c_seq (rg (sa (I 0) rfl (w_end (q_then ?_))))
 obtain ⟨o1, hj, h'⟩ := bind_some h
 clear h
 refine c_cut (fun e a w => (∃ t, o1 = (.inl t) ∧ e = .normal ∧ ∃ (ρ : Nat → Value) (σ : St), a = fr 63 (updL ρ [(0, (.string Af)), (4, (I t))]) ∧ w = σ.w ∧ Hp S0 σ0 σ []) ∨ (∃ t, o1 = (.inr t) ∧ e = .ret ∧ ∃ (ρ : Nat → Value) (σ : St), a = fr 63 (updL ρ [(2, (I t.1)), (3, (B t.2))]) ∧ w = σ.w ∧ Hp S0 σ0 σ [])) ?_ ?_
 ·clear h'
  rename _ = some o1 => h
  refine c_blk (wp_loopM _ h (fun s2 a w => ∃ (ρ : Nat → Value) (σ : St), a = fr 63 (updL ρ [(0, (.string Af)), (4, (I s2.1)), (5, (I s2.2))]) ∧ w = σ.w ∧ Hp S0 σ0 σ []) ⟨_, σ0, fr_join ⟨rfl, rfl, rfl, trivial⟩, rfl, H.sel' [] rfl rfl⟩ ?_)
  clear h H
  rintro s2 a w o ⟨ρ, σ3, rfl, rfl, H⟩ h hres
  refine c_seq (c_seq ?_)
  obtain ⟨o4, hj, h'⟩ := bind_some h
  clear h
  refine c_cut (fun e a w => e = .normal ∧ ∃ (ρ : Nat → Value) (σ : St), a = fr 63 (updL ρ [(0, (.string Af)), (4, (I s2.1)), (5, (I s2.2)), (14, (B o4))]) ∧ w = σ.w ∧ Hp S0 σ0 σ []) ?_ ?_
  ·clear h'
   rename _ = some o4 => h
   refine rg (sm (I s2.2) rfl (sm (.string Af) rfl (st (v := (I (Af.size : Int))) (rv_slen Tryz.underlying9 rfl) (st (v := (B (decide (s2.2 < (Af.size : Int))))) (rv_lss (a := s2.2) (b := (Af.size : Int)) rfl rfl) (sm (B (decide (s2.2 < (Af.size : Int)))) rfl ?_)))))
   rcases Bool.eq_false_or_eq_true (decide (s2.2 < (Af.size : Int))) with hb5 | hb5
   ·replace h := bif_t hb5 h
    refine st_g (v := (.string Af)) (congrArg some hb5) (rv_move rfl) (st_g (v := (I (Af.size : Int))) (congrArg some hb5) (rv_slen Tryz.underlying9 rfl) (st_g (v := (B (decide ((Af.size : Int) ≤ 4)))) (congrArg some hb5) (rv_leq (a := (Af.size : Int)) (b := 4) rfl rfl) (st (v := (B (decide ((Af.size : Int) ≤ 4)))) (rv_pick_t (congrArg B hb5) rfl) (w_end ?_))))
    obtain rfl := sj h
    exact ⟨rfl, _, σ3, fr_join ⟨rfl, rfl, rfl, rfl, trivial⟩, rfl, H.sel' [] rfl rfl⟩
   ·replace h := bif_f hb5 h
    refine st_skip (congrArg some hb5) (st_skip (congrArg some hb5) (st_skip (congrArg some hb5) (st (v := (B false)) (rv_pick_f (congrArg B hb5) rfl) (w_end ?_))))
    obtain rfl := sj h
    exact ⟨rfl, _, σ3, fr_join ⟨rfl, rfl, rfl, rfl, trivial⟩, rfl, H.sel' [] rfl rfl⟩
  ·clear hj
   have h := h'
   clear h' H
   rintro e a w ⟨rfl, ρ, σ6, rfl, rfl, H⟩
   refine q_then ?_
   refine cd_cond o4 rfl (fun hb7 => ?_) (fun hb7 => ?_)
   ·replace h := bif_t hb7 h
    refine c_skip (q_then (c_seq ?_))
    obtain ⟨o8, hj, h'⟩ := bind_some h
    clear h
    refine c_cut (fun e a w => (∃ t, o8 = (.inl t) ∧ e = .normal ∧ ∃ (ρ : Nat → Value) (σ : St), a = fr 63 (updL ρ [(0, (.string Af)), (4, (I t)), (5, (I s2.2))]) ∧ w = σ.w ∧ Hp S0 σ0 σ []) ∨ (∃ t, o8 = (.inr t) ∧ e = .ret ∧ ∃ (ρ : Nat → Value) (σ : St), a = fr 63 (updL ρ [(2, (I t.1)), (3, (B t.2))]) ∧ w = σ.w ∧ Hp S0 σ0 σ [])) ?_ ?_
    ·clear h'
     rename _ = some o8 => h
     refine c_blk (c_seq (rg (sm (.string Af) rfl (sm (I s2.2) rfl ?_))))
     revert h; refine br fun x9 hx10 h => ?_
     refine st (v := (.int .u8 (x9.toNat : Int))) (rv_six Tryz.underlying9 rfl rfl hx10) (st (v := (I (w64 (x9.toNat : Int)))) (rv_conv Tryz.underlying5 Tryz.underlying3 rfl) ?_)
     revert h; refine br fun r11 hx12 h => ?_
     have hc13 := c_spec_inRange hx12
     refine st_call (cx_call hc13 (ent_f hc13.fn rfl) hn0 (H.sel' [] rfl rfl : Hp S0 σ0 _ ([] ++ _))) wn ?_
     rintro _ σ14 ⟨_, ⟨rfl, rfl⟩, H, -⟩
     replace H : Hp _ _ _ [] := H
     refine w_end (q_then ?_)
     refine cd_cond r11 rfl (fun hb15 => ?_) (fun hb15 => ?_)
     ·replace h := bif_t hb15 h
      refine rg (sm (I s2.1) rfl (st (v := (I (w64 (10 * s2.1)))) (rv_mul (a := 10) (b := s2.1) rfl rfl) (sm (.string Af) rfl (sm (I s2.2) rfl ?_))))
      revert h; refine br fun x16 hx17 h => ?_
      refine st (v := (.int .u8 (x16.toNat : Int))) (rv_six Tryz.underlying9 rfl rfl hx17) (st (v := (I (w64 (x16.toNat : Int)))) (rv_conv Tryz.underlying5 Tryz.underlying3 rfl) (st (v := (I (w64 ((w64 (10 * s2.1)) + (w64 (x16.toNat : Int)))))) (rv_add (a := (w64 (10 * s2.1))) (b := (w64 (x16.toNat : Int))) rfl rfl) (st (v := (I (w64 ((w64 ((w64 (10 * s2.1)) + (w64 (x16.toNat : Int)))) - 48)))) (rv_sub (a := (w64 ((w64 (10 * s2.1)) + (w64 (x16.toNat : Int))))) (b := 48) rfl rfl) (sa (I (w64 ((w64 ((w64 (10 * s2.1)) + (w64 (x16.toNat : Int)))) - 48))) rfl (w_end (q_blk ?_))))))
      obtain rfl := sj h
      exact .inl ⟨_, rfl, rfl, _, σ14, fr_join ⟨rfl, rfl, rfl, trivial⟩, rfl, H.sel' [] rfl rfl⟩
     ·replace h := bif_f hb15 h
      refine c_seq ?_
      obtain ⟨o18, hj, h'⟩ := bind_some h
      clear h
      refine c_cut (fun e a w => e = .normal ∧ ∃ (ρ : Nat → Value) (σ : St), a = fr 63 (updL ρ [(0, (.string Af)), (4, (I s2.1)), (5, (I s2.2)), (37, (B o18))]) ∧ w = σ.w ∧ Hp S0 σ0 σ []) ?_ ?_
      ·clear h'
       rename _ = some o18 => h
       refine rg (sm (I s2.2) rfl (st (v := (B (decide (0 < s2.2)))) (rv_gtr (a := s2.2) (b := 0) rfl rfl) (sm (B (decide (0 < s2.2))) rfl ?_)))
       rcases Bool.eq_false_or_eq_true (decide (0 < s2.2)) with hb19 | hb19
       ·replace h := bif_t hb19 h
        refine st_skip (congrArg some hb19) (st_skip (congrArg some hb19) (st_skip (congrArg some hb19) (st_skip (congrArg some hb19) (st (v := (B true)) (rv_pick_t (congrArg B hb19) rfl) (w_end ?_)))))
        obtain rfl := sj h
        exact ⟨rfl, _, σ14, fr_join ⟨rfl, rfl, rfl, rfl, trivial⟩, rfl, H.sel' [] rfl rfl⟩
       ·replace h := bif_f hb19 h
        refine st_g (v := (.string Af)) (congrArg some hb19) (rv_move rfl) (st_g (v := (I s2.2)) (congrArg some hb19) (rv_move rfl) ?_)
        revert h; refine br fun x20 hx21 h => ?_
        refine st_g (v := (.int .u8 (x20.toNat : Int))) (congrArg some hb19) (rv_six Tryz.underlying9 rfl rfl hx21) (st_g (v := (B ((x20.toNat : Int) != ((45 : UInt8).toNat : Int)))) (congrArg some hb19) (rvk_neq (k := .u8) (a := (x20.toNat : Int)) (b := ((45 : UInt8).toNat : Int)) rfl rfl) (st (v := (B ((x20.toNat : Int) != ((45 : UInt8).toNat : Int)))) (rv_pick_f (congrArg B hb19) rfl) (w_end ?_)))
        obtain rfl := sj h
        exact ⟨rfl, _, σ14, fr_join ⟨rfl, rfl, rfl, rfl, trivial⟩, rfl, H.sel' [] rfl rfl⟩
      ·clear hj
       have h := h'
       clear h' H
       rintro e a w ⟨rfl, ρ, σ22, rfl, rfl, H⟩
       refine q_then ?_
       refine cd_cond o18 rfl (fun hb23 => ?_) (fun hb23 => ?_)
       ·replace h := bif_t hb23 h
        refine c_seq (rg (sa (I 0) rfl (sa (B false) rfl (w_end (q_then (c_ret (q_blk_r ?_)))))))
        obtain rfl := sj h
        exact .inr (⟨_, rfl, rfl, _, σ22, fr_join ⟨rfl, rfl, trivial⟩, rfl, H.sel' [] rfl rfl⟩)
       ·replace h := bif_f hb23 h
        refine c_skip (q_blk ?_)
        obtain rfl := sj h
        exact .inl ⟨_, rfl, rfl, _, σ22, fr_join ⟨rfl, rfl, rfl, trivial⟩, rfl, H.sel' [] rfl rfl⟩
    ·clear hj
     have h := h'
     clear h' H
     rintro e a w (⟨t24, rfl, rfl, ρ, σ25, rfl, rfl, H⟩ | ⟨t26, rfl, rfl, ρ, σ27, rfl, rfl, H⟩)
     ·replace h := selim_l h
      refine q_then (rg (sm (I s2.2) rfl (st (v := (I (w64 (s2.2 + 1)))) (rv_add (a := s2.2) (b := 1) rfl rfl) (sa (I (w64 (s2.2 + 1))) rfl (w_end (q_then ?_))))))
      obtain rfl := sj h
      exact ⟨_, rfl, _, σ25, fr_join ⟨rfl, rfl, rfl, trivial⟩, rfl, H.sel' [] rfl rfl⟩
     ·replace h := selim_r h
      refine q_then_r (q_then_r (q_blk_r ?_))
      obtain rfl := sj h
      obtain rfl := hres _ rfl
      exact .inr (⟨_, rfl, rfl, _, σ27, fr_join ⟨rfl, rfl, trivial⟩, rfl, H.sel' [] rfl rfl⟩)
   ·replace h := bif_f hb7 h
    refine c_exit (q_then_x (q_then_x (q_blk_hit ?_)))
    obtain rfl := sj h
    obtain rfl := hres _ rfl
    exact .inl ⟨_, rfl, rfl, _, σ6, fr_join ⟨rfl, rfl, trivial⟩, rfl, H.sel' [] rfl rfl⟩
 ·clear hj
  have h := h'
  clear h' H
  rintro e a w (⟨t28, rfl, rfl, ρ, σ29, rfl, rfl, H⟩ | ⟨t47, rfl, rfl, ρ, σ48, rfl, rfl, H⟩)
  ·replace h := selim_l h
   refine q_then (c_seq (c_seq ?_))
   obtain ⟨o30, hj, h'⟩ := bind_some h
   clear h
   refine c_cut (fun e a w => e = .normal ∧ ∃ (ρ : Nat → Value) (σ : St), a = fr 63 (updL ρ [(0, (.string Af)), (4, (I t28)), (45, (B o30))]) ∧ w = σ.w ∧ Hp S0 σ0 σ []) ?_ ?_
   ·clear h'
    rename _ = some o30 => h
    refine rg (sm (.string Af) rfl (st (v := (I (Af.size : Int))) (rv_slen Tryz.underlying9 rfl) (st (v := (B (decide (0 < (Af.size : Int))))) (rv_gtr (a := (Af.size : Int)) (b := 0) rfl rfl) (sm (B (decide (0 < (Af.size : Int)))) rfl ?_))))
    rcases Bool.eq_false_or_eq_true (decide (0 < (Af.size : Int))) with hb31 | hb31
    ·replace h := bif_t hb31 h
     refine st_g (v := (.string Af)) (congrArg some hb31) (rv_move rfl) ?_
     revert h; refine br fun x32 hx33 h => ?_
     refine st_g (v := (.int .u8 (x32.toNat : Int))) (congrArg some hb31) (rv_six Tryz.underlying9 rfl rfl hx33) (st_g (v := (B ((x32.toNat : Int) == ((45 : UInt8).toNat : Int)))) (congrArg some hb31) (rvk_eql (k := .u8) (a := (x32.toNat : Int)) (b := ((45 : UInt8).toNat : Int)) rfl rfl) (st (v := (B ((x32.toNat : Int) == ((45 : UInt8).toNat : Int)))) (rv_pick_t (congrArg B hb31) rfl) (w_end ?_)))
     obtain rfl := sj h
     exact ⟨rfl, _, σ29, fr_join ⟨rfl, rfl, rfl, trivial⟩, rfl, H.sel' [] rfl rfl⟩
    ·replace h := bif_f hb31 h
     refine st_skip (congrArg some hb31) (st_skip (congrArg some hb31) (st_skip (congrArg some hb31) (st (v := (B false)) (rv_pick_f (congrArg B hb31) rfl) (w_end ?_))))
     obtain rfl := sj h
     exact ⟨rfl, _, σ29, fr_join ⟨rfl, rfl, rfl, trivial⟩, rfl, H.sel' [] rfl rfl⟩
   ·clear hj
    have h := h'
    clear h' H
    rintro e a w ⟨rfl, ρ, σ34, rfl, rfl, H⟩
    refine q_then ?_
    obtain ⟨o35, hj, h'⟩ := bind_some h
    clear h
    refine c_cut (fun e a w => e = .normal ∧ ∃ (ρ : Nat → Value) (σ : St), a = fr 63 (updL ρ [(0, (.string Af)), (4, (I o35))]) ∧ w = σ.w ∧ Hp S0 σ0 σ []) ?_ ?_
    ·clear h'
     rename _ = some o35 => h
     refine cd_cond o30 rfl (fun hb36 => ?_) (fun hb36 => ?_)
     ·replace h := bif_t hb36 h
      refine rg (sm (I t28) rfl (st (v := (I (w64 (0 - t28)))) (rv_neg (a := t28) rfl) (sa (I (w64 (0 - t28))) rfl (w_end ?_))))
      obtain rfl := sj h
      exact ⟨rfl, _, σ34, fr_join ⟨rfl, rfl, trivial⟩, rfl, H.sel' [] rfl rfl⟩
     ·replace h := bif_f hb36 h
      refine c_skip ?_
      obtain rfl := sj h
      exact ⟨rfl, _, σ34, fr_join ⟨rfl, rfl, trivial⟩, rfl, H.sel' [] rfl rfl⟩
    ·clear hj
     have h := h'
     clear h' H
     rintro e a w ⟨rfl, ρ, σ37, rfl, rfl, H⟩
     refine q_then (c_seq (c_seq ?_))
     obtain ⟨o38, hj, h'⟩ := bind_some h
     clear h
     refine c_cut (fun e a w => e = .normal ∧ ∃ (ρ : Nat → Value) (σ : St), a = fr 63 (updL ρ [(4, (I o35)), (61, (B o38))]) ∧ w = σ.w ∧ Hp S0 σ0 σ []) ?_ ?_
     ·clear h'
      rename _ = some o38 => h
      refine rg (sm (.string Af) rfl (st (v := (I (Af.size : Int))) (rv_slen Tryz.underlying9 rfl) (st (v := (B ((Af.size : Int) == 0))) (rv_eql (a := (Af.size : Int)) (b := 0) rfl rfl) (sm (B ((Af.size : Int) == 0)) rfl ?_))))
      rcases Bool.eq_false_or_eq_true ((Af.size : Int) == 0) with hb39 | hb39
      ·replace h := bif_t hb39 h
       refine st_skip (congrArg some hb39) (st_skip (congrArg some hb39) (st_skip (congrArg some hb39) (st (v := (B true)) (rv_pick_t (congrArg B hb39) rfl) (sm (B true) rfl (st_skip rfl (st_skip rfl (st_skip rfl (st_skip rfl (st (v := (B true)) (rv_pick_t rfl rfl) (w_end ?_))))))))))
       obtain rfl := sj h
       exact ⟨rfl, _, σ37, fr_join ⟨rfl, rfl, trivial⟩, rfl, H.sel' [] rfl rfl⟩
      ·replace h := bif_f hb39 h
       refine st_g (v := (.string Af)) (congrArg some hb39) (rv_move rfl) (st_g (v := (I (Af.size : Int))) (congrArg some hb39) (rv_slen Tryz.underlying9 rfl) (st_g (v := (B (decide (4 < (Af.size : Int))))) (congrArg some hb39) (rv_gtr (a := (Af.size : Int)) (b := 4) rfl rfl) (st (v := (B (decide (4 < (Af.size : Int))))) (rv_pick_f (congrArg B hb39) rfl) (sm (B (decide (4 < (Af.size : Int)))) rfl ?_))))
       rcases Bool.eq_false_or_eq_true (decide (4 < (Af.size : Int))) with hb40 | hb40
       ·replace h := bif_t hb40 h
        refine st_skip (congrArg some hb40) (st_skip (congrArg some hb40) (st_skip (congrArg some hb40) (st_skip (congrArg some hb40) (st (v := (B true)) (rv_pick_t (congrArg B hb40) rfl) (w_end ?_)))))
        obtain rfl := sj h
        exact ⟨rfl, _, σ37, fr_join ⟨rfl, rfl, trivial⟩, rfl, H.sel' [] rfl rfl⟩
       ·replace h := bif_f hb40 h
        refine st_g (v := (I o35)) (congrArg some hb40) (rv_move rfl) ?_
        revert h; refine br fun r41 hx42 h => ?_
        have hc43 := c_spec_decimal 100 hx42
        refine st_call (cx_call hc43 (ent_f hc43.fn rfl) hn0 (H.sel' [] rfl rfl : Hp S0 σ0 _ ([] ++ _))) (wanted_yes rfl (by exact (congrArg some hb40))) ?_
        rintro _ σ44 ⟨_, ⟨rfl, rfl⟩, H, -⟩
        replace H : Hp _ _ _ [] := H
        refine st_g (v := (.string Af)) (congrArg some hb40) (rv_move rfl) (st_g (v := (B (!(r41.toList == Af.toList)))) (congrArg some hb40) (rv_sneq rfl rfl) (st (v := (B (!(r41.toList == Af.toList)))) (rv_pick_f (congrArg B hb40) rfl) (w_end ?_)))
        obtain rfl := sj h
        exact ⟨rfl, _, σ44, fr_join ⟨rfl, rfl, trivial⟩, rfl, H.sel' [] rfl rfl⟩
     ·clear hj
      have h := h'
      clear h' H
      rintro e a w ⟨rfl, ρ, σ45, rfl, rfl, H⟩
      refine q_then ?_
      refine cd_cond o38 rfl (fun hb46 => ?_) (fun hb46 => ?_)
      ·replace h := bif_t hb46 h
       refine c_seq (rg (sa (I 0) rfl (sa (B false) rfl (w_end (q_then (c_ret (q_then_r ?_)))))))
       obtain rfl := sj h
       exact fin_ret (v := (.tuple #[(I 0), (B false)])) (results_ok Tryz.results33 (res_tmp (v := (I 0)) rfl (res_tmp (v := (B false)) rfl res_nil)) rfl) ⟨rfl, rfl⟩ (H.sel' [] rfl rfl)
      ·replace h := bif_f hb46 h
       refine c_skip (q_then (c_seq (rg (sm (I o35) rfl (sa (I o35) rfl (sa (B true) rfl (w_end (q_then (c_ret ?_)))))))))
       obtain rfl := sj h
       exact fin_ret (v := (.tuple #[(I o35), (B true)])) (results_ok Tryz.results33 (res_tmp (v := (I o35)) rfl (res_tmp (v := (B true)) rfl res_nil)) rfl) ⟨rfl, rfl⟩ (H.sel' [] rfl rfl)
  ·replace h := selim_r h
   refine q_then_r ?_
   obtain rfl := sj h
   exact fin_ret (v := (.tuple #[(I t47.1), (B t47.2)])) (results_ok Tryz.results33 (res_tmp (v := (I t47.1)) rfl (res_tmp (v := (B t47.2)) rfl res_nil)) rfl) ⟨rfl, rfl⟩ (H.sel' [] rfl rfl)

theorem c_spec_numberOf {Af : ByteArray}  {r : Int} (h : M.spec_numberOf Af = some r) :
    Cal2 Tryz.prog 17 [(.string Af)] [] (fun n0 v L => v = (I r) ∧ L = []) := by
 refine cal2 (n := 13) Tryz.func17 rfl rfl rfl rfl ?_
 intro S0 σ0 n0 hn0 H
 unfold M.spec_numberOf at h
 refine c_seq (rg (sa (I 0) rfl (w_end (q_then (c_seq (rg (sm (.string Af) rfl ?_)))))))
 revert h; refine br fun r1 hx2 h => ?_
 have hc3 := c_spec_parseInt hx2
 refine st_call (cx_call hc3 (ent_f hc3.fn rfl) hn0 (H.sel' [] rfl rfl : Hp S0 σ0 _ ([] ++ _))) wn ?_
 rintro _ σ4 ⟨_, ⟨rfl, rfl⟩, H, -⟩
 replace H : Hp _ _ _ [] := H
 refine sm (.tuple #[(I r1.1), (B r1.2)]) rfl (st (v := (I r1.1)) (rv_extract rfl rfl) (st (v := (B r1.2)) (rv_extract rfl rfl) (sa (I r1.1) rfl (sa (B r1.2) rfl (w_end (q_then (c_seq (c_seq (rg (sm (B r1.2) rfl (st (v := (B (!r1.2))) (rv_not rfl) ?_)))))))))))
 refine w_end (q_then ?_)
 refine cd_cond (!r1.2) rfl (fun hb5 => ?_) (fun hb5 => ?_)
 ·replace h := bif_t hb5 h
  refine c_seq (rg (sa (I (-1)) rfl (w_end (q_then (c_ret (q_then_r ?_))))))
  obtain rfl := sj h
  exact fin_ret (v := (I (-1))) (results_ok Tryz.results17 (res_tmp (v := (I (-1))) rfl res_nil) rfl) ⟨rfl, rfl⟩ (H.sel' [] rfl rfl)
 ·replace h := bif_f hb5 h
  refine c_skip (q_then (c_seq (rg (sm (I r1.1) rfl (sa (I r1.1) rfl (w_end (q_then (c_ret ?_))))))))
  obtain rfl := sj h
  exact fin_ret (v := (I r1.1)) (results_ok Tryz.results17 (res_tmp (v := (I r1.1)) rfl res_nil) rfl) ⟨rfl, rfl⟩ (H.sel' [] rfl rfl)

theorem c_spec_vectorOf {Af : ByteArray}  {r : (List Int)} (h : M.spec_vectorOf Af = some r) :
    Cal2 Tryz.prog 18 [(.string Af)] [] (fun n0 v L => ∃ (az1 : Option Addr), ∃ (cz2 : Nat), v = (Sl az1 r cz2) ∧ L = [Ch.own n0 n0 (Sl az1 r cz2) r]) := by
 refine cal2 (n := 32) Tryz.func18 rfl rfl rfl rfl ?_
 intro S0 σ0 n0 hn0 H
 unfold M.spec_vectorOf at h
 refine c_seq (rg (sa (.slice none 0 0) rfl (w_end (q_then (c_seq (rg ?_))))))
 refine st_ex (ex_buildSlice (el := n0) (xs := ([] : List Int)) (ps := []) (cs := []) H hn0 Tryz.underlying51 ti3 rfl rfl (by kernel_rfl) (.nil) rfl) wn ?_
 rintro _ σ2 ⟨b1, rfl, H, -⟩
 refine sa (Sl (some ⟨b1, 0, none⟩) ([] : List Int) 0) rfl (w_end (q_then (c_seq (rg (sm (.string Af) rfl ?_)))))
 revert h; refine br fun r3 hx4 h => ?_
 have hc5 := c_spec_splitAt hx4
 refine st_call (cx_call hc5 (ent_f hc5.fn rfl) hn0 (H.sel' [0] rfl rfl : Hp S0 σ0 _ ([] ++ _))) wn ?_
 rintro _ σ8 ⟨_, ⟨a6, c7, rfl, rfl⟩, H, -⟩
 replace H : Hp _ _ _ [_, _] := H
 refine sa (Sl a6 r3 c7) rfl (w_end (q_then (c_seq (c_seq (rg (sa (I 0) rfl (w_end (q_then ?_))))))))
 obtain ⟨o9, hj, h'⟩ := bind_some h
 clear h
 refine c_cut (fun e a w => (∃ t, o9 = (.inl t) ∧ e = .normal ∧ ∃ (ρ : Nat → Value) (σ : St) (aj1 : Option Addr) (cj2 : Nat), a = fr 32 (updL ρ [(3, (Sl aj1 t cj2))]) ∧ w = σ.w ∧ Hp S0 σ0 σ [Ch.own n0 n0 (Sl aj1 t cj2) t]) ∨ (∃ t, o9 = (.inr t) ∧ e = .ret ∧ ∃ (ρ : Nat → Value) (σ : St) (aj1 : Option Addr) (cj2 : Nat), a = fr 32 (updL ρ [(2, (Sl aj1 t cj2))]) ∧ w = σ.w ∧ Hp S0 σ0 σ [Ch.own n0 n0 (Sl aj1 t cj2) t])) ?_ ?_
 ·clear h'
  rename _ = some o9 => h
  refine c_blk (wp_loopM _ h (fun s10 a w => ∃ (ρ : Nat → Value) (σ : St) (aj1 : Option Addr) (cj2 : Nat), a = fr 32 (updL ρ [(3, (Sl aj1 s10.1 cj2)), (4, (Sl a6 r3 c7)), (5, (I s10.2))]) ∧ w = σ.w ∧ Hp S0 σ0 σ [Ch.own n0 n0 (Sl aj1 s10.1 cj2) s10.1, Ch.own n0 n0 (Sl a6 r3 c7) r3]) ⟨_, σ8, (some ⟨b1, 0, none⟩), 0, fr_join ⟨rfl, rfl, rfl, trivial⟩, rfl, H.sel' [1, 0] rfl rfl⟩ ?_)
  clear h H
  rintro s10 a w o ⟨ρ, σ11, a12, c13, rfl, rfl, H⟩ h hres
  refine c_seq (c_seq (rg (sm (I s10.2) rfl (sm (Sl a6 r3 c7) rfl (st (v := (I (r3.length : Int))) (rv_len Tryz.underlying22 rfl) (st (v := (B (decide (s10.2 < (r3.length : Int))))) (rv_lss (a := s10.2) (b := (r3.length : Int)) rfl rfl) (w_end (q_then ?_))))))))
  refine cd_cond (decide (s10.2 < (r3.length : Int))) rfl (fun hb14 => ?_) (fun hb14 => ?_)
  ·replace h := bif_t hb14 h
   refine c_skip (q_then (c_seq (c_blk (c_seq (rg (sm (Sl a6 r3 c7) rfl (sm (I s10.2) rfl ?_)))))))
   revert h; refine br fun x15 hx16 h => ?_
   obtain ⟨b18, o19, hi17, -⟩ := (H.own 1 rfl).ix hx16
   refine st (v := (pt b18 o19)) (rv_ix Tryz.underlying22 ti9 rfl rfl hi17) ?_
   have hc20 := ((H.own 1 rfl).at hx16 hi17).str
   refine st (v := (.string x15)) (rv_load1 Tryz.underlying9 rfl rfl hc20) ?_
   revert h; refine br fun r21 hx22 h => ?_
   have hc23 := c_spec_parseInt hx22
   refine st_call (cx_call hc23 (ent_f hc23.fn rfl) hn0 (H.sel' [0, 1] rfl rfl : Hp S0 σ0 _ ([] ++ _))) wn ?_
   rintro _ σ24 ⟨_, ⟨rfl, rfl⟩, H, -⟩
   replace H : Hp _ _ _ [_, _] := H
   refine sm (.tuple #[(I r21.1), (B r21.2)]) rfl (st (v := (I r21.1)) (rv_extract rfl rfl) (st (v := (B r21.2)) (rv_extract rfl rfl) (sa (I r21.1) rfl (sa (B r21.2) rfl (w_end (q_then (c_seq (c_seq (rg (sm (B r21.2) rfl (st (v := (B (!r21.2))) (rv_not rfl) ?_)))))))))))
   refine w_end (q_then ?_)
   refine cd_cond (!r21.2) rfl (fun hb25 => ?_) (fun hb25 => ?_)
   ·replace h := bif_t hb25 h
    refine c_seq (rg (sa (.slice none 0 0) rfl (w_end (q_then (c_ret (q_then_r (q_blk_r (q_then_r (q_then_r (q_blk_r ?_))))))))))
    obtain rfl := sj h
    obtain rfl := hres _ rfl
    replace H := H.nilOwn Int n0 n0
    exact .inr (⟨_, rfl, rfl, _, σ24, none, 0, fr_join ⟨rfl, trivial⟩, rfl, H.sel' [0] rfl rfl⟩)
   ·replace h := bif_f hb25 h
    refine c_skip (q_then (rg (sm (Sl a12 s10.1 c13) rfl (sm (I r21.1) rfl ?_))))
    refine st_ex (ex_buildSlice (el := n0) (xs := ([r21.1] : List Int)) (ps := [(0, (I r21.1))]) (cs := [(I r21.1)]) H hn0 Tryz.underlying51 ti3 rfl rfl (by kernel_rfl) (.cons (c := [(I r21.1)]) rfl (.nil)) rfl) wn ?_
    rintro _ σ27 ⟨b26, rfl, H, -⟩
    revert h; refine br fun xs28 hx29 h => ?_
    refine st_ex (ex_append H (i := 1) rfl Tryz.underlying51 Tryz.underlying51 ti3 rfl rfl (by decide) (H.own 0 rfl).rd hx29 hn0 rfl rfl) wn ?_
    rintro _ σ32 ⟨a30, c31, rfl, H, -⟩
    refine sa (Sl a30 xs28 c31) rfl (w_end (q_blk (q_then (rg (sm (I s10.2) rfl (st (v := (I (w64 (s10.2 + 1)))) (rv_add (a := s10.2) (b := 1) rfl rfl) (sa (I (w64 (s10.2 + 1))) rfl (w_end (q_then ?_)))))))))
    obtain rfl := sj h
    exact ⟨_, rfl, _, σ32, a30, c31, fr_join ⟨rfl, rfl, rfl, trivial⟩, rfl, H.sel' [0, 2] rfl rfl⟩
  ·replace h := bif_f hb14 h
   refine c_exit (q_then_x (q_then_x (q_blk_hit ?_)))
   obtain rfl := sj h
   obtain rfl := hres _ rfl
   exact .inl ⟨_, rfl, rfl, _, σ11, a12, c13, fr_join ⟨rfl, trivial⟩, rfl, H.sel' [0] rfl rfl⟩
 ·clear hj
  have h := h'
  clear h' H
  rintro e a w (⟨t33, rfl, rfl, ρ, σ34, a35, c36, rfl, rfl, H⟩ | ⟨t37, rfl, rfl, ρ, σ38, a39, c40, rfl, rfl, H⟩)
  ·replace h := selim_l h
   refine q_then (c_seq (rg (sm (Sl a35 t33 c36) rfl (sa (Sl a35 t33 c36) rfl (w_end (q_then (c_ret ?_)))))))
   obtain rfl := sj h
   exact fin_ret (v := (Sl a35 t33 c36)) (results_ok Tryz.results18 (res_tmp (v := (Sl a35 t33 c36)) rfl res_nil) rfl) ⟨a35, c36, rfl, rfl⟩ (H.sel' [0] rfl rfl)
  ·replace h := selim_r h
   refine q_then_r ?_
   obtain rfl := sj h
   exact fin_ret (v := (Sl a39 t37 c40)) (results_ok Tryz.results18 (res_tmp (v := (Sl a39 t37 c40)) rfl res_nil) rfl) ⟨a39, c40, rfl, rfl⟩ (H.sel' [0] rfl rfl)

theorem c_spec_keyAt {Ak : List (Int × (List Int) × Int)} {Bb : Int} {Am : Option Addr} {Ao : Nat} {r : Int} (h : M.spec_keyAt Ak Bb = some r) :
    Cal2 Tryz.prog 56 [(Sl Am Ak Ao), (I Bb)] [Ch.ro 0 (Sl Am Ak Ao) Ak] (fun n0 v L => v = (I r) ∧ L = []) := by
 refine cal2 (n := 20) Tryz.func56 rfl rfl rfl rfl ?_
 intro S0 σ0 n0 hn0 H
 unfold M.spec_keyAt at h
 refine c_seq (rg (sa (I 0) rfl (w_end (q_then (c_seq (c_seq (rg (sa (I 0) rfl (w_end (q_then ?_))))))))))
 obtain ⟨o1, hj, h'⟩ := bind_some h
 clear h
 refine c_cut (fun e a w => (∃ t, o1 = (.inl t) ∧ e = .normal ∧ ∃ (ρ : Nat → Value) (σ : St), a = fr 20 (updL ρ []) ∧ w = σ.w ∧ Hp S0 σ0 σ []) ∨ (∃ t, o1 = (.inr t) ∧ e = .ret ∧ ∃ (ρ : Nat → Value) (σ : St), a = fr 20 (updL ρ [(4, (I t))]) ∧ w = σ.w ∧ Hp S0 σ0 σ [])) ?_ ?_
 ·clear h'
  rename _ = some o1 => h
  refine c_blk (wp_loopM _ h (fun s2 a w => ∃ (ρ : Nat → Value) (σ : St), a = fr 20 (updL ρ [(0, (Sl Am Ak Ao)), (1, (I Bb)), (5, (I s2))]) ∧ w = σ.w ∧ Hp S0 σ0 σ [Ch.ro 0 (Sl Am Ak Ao) Ak]) ⟨_, σ0, fr_join ⟨rfl, rfl, rfl, trivial⟩, rfl, H.sel' [0] rfl rfl⟩ ?_)
  clear h H
  rintro s2 a w o ⟨ρ, σ3, rfl, rfl, H⟩ h hres
  refine c_seq (c_seq (rg (sm (I s2) rfl (sm (Sl Am Ak Ao) rfl (st (v := (I (Ak.length : Int))) (rv_len Tryz.underlying29 rfl) (st (v := (B (decide (s2 < (Ak.length : Int))))) (rv_lss (a := s2) (b := (Ak.length : Int)) rfl rfl) (w_end (q_then ?_))))))))
  refine cd_cond (decide (s2 < (Ak.length : Int))) rfl (fun hb4 => ?_) (fun hb4 => ?_)
  ·replace h := bif_t hb4 h
   refine c_skip (q_then (c_seq (c_blk (c_seq (rg (sm (Sl Am Ak Ao) rfl (sm (I s2) rfl ?_)))))))
   revert h; refine br fun x5 hx6 h => ?_
   obtain ⟨b8, o9, hi7, -⟩ := (H.ro 0 rfl).ix hx6
   refine st (v := (pt b8 o9)) (rv_ix Tryz.underlying29 ti67 rfl rfl hi7) (st (v := (pt b8 (o9 + 0))) (rv_fieldAddr (off := 0) (ft := 3) Tryz.underlying67 rfl ti3 rfl rfl) ?_)
   have hc10 := ((H.ro 0 rfl).at hx6 hi7).fst.int
   refine st (v := (I x5.1)) (rv_load1 Tryz.underlying3 rfl rfl hc10) (sm (I Bb) rfl (st (v := (B (x5.1 == Bb))) (rv_eql (a := x5.1) (b := Bb) rfl rfl) (w_end (q_then ?_))))
   refine cd_cond (x5.1 == Bb) rfl (fun hb11 => ?_) (fun hb11 => ?_)
   ·replace h := bif_t hb11 h
    refine c_seq (rg (sm (I s2) rfl (sa (I s2) rfl (w_end (q_then (c_ret (q_blk_r (q_then_r (q_then_r (q_blk_r ?_))))))))))
    obtain rfl := sj h
    obtain rfl := hres _ rfl
    exact .inr (⟨_, rfl, rfl, _, σ3, fr_join ⟨rfl, trivial⟩, rfl, H.sel' [] rfl rfl⟩)
   ·replace h := bif_f hb11 h
    refine c_skip (q_blk (q_then (rg (sm (I s2) rfl (st (v := (I (w64 (s2 + 1)))) (rv_add (a := s2) (b := 1) rfl rfl) (sa (I (w64 (s2 + 1))) rfl (w_end (q_then ?_))))))))
    obtain rfl := sj h
    exact ⟨_, rfl, _, σ3, fr_join ⟨rfl, rfl, rfl, trivial⟩, rfl, H.sel' [0] rfl rfl⟩
  ·replace h := bif_f hb4 h
   refine c_exit (q_then_x (q_then_x (q_blk_hit ?_)))
   obtain rfl := sj h
   obtain rfl := hres _ rfl
   exact .inl ⟨_, rfl, rfl, _, σ3, fr_join trivial, rfl, H.sel' [] rfl rfl⟩
 ·clear hj
  have h := h'
  clear h' H
  rintro e a w (⟨t12, rfl, rfl, ρ, σ13, rfl, rfl, H⟩ | ⟨t14, rfl, rfl, ρ, σ15, rfl, rfl, H⟩)
  ·replace h := selim_l h
   refine q_then (c_seq (rg (sa (I (-1)) rfl (w_end (q_then (c_ret ?_))))))
   obtain rfl := sj h
   exact fin_ret (v := (I (-1))) (results_ok Tryz.results56 (res_tmp (v := (I (-1))) rfl res_nil) rfl) ⟨rfl, rfl⟩ (H.sel' [] rfl rfl)
  ·replace h := selim_r h
   refine q_then_r ?_
   obtain rfl := sj h
   exact fin_ret (v := (I t14)) (results_ok Tryz.results56 (res_tmp (v := (I t14)) rfl res_nil) rfl) ⟨rfl, rfl⟩ (H.sel' [] rfl rfl)

end Go.Vs
