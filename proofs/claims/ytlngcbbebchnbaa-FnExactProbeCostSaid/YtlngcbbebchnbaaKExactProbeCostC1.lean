/- The functions compute what their models say. -/
import Derived.Test.YtlngcbbebchnbaaKExactProbeCostM
import Derived.Test.YtlngcbbebchnbaaExactProbeCostEng1
import Derived.Test.YtlngcbbebchnbaaProg
set_option linter.unusedVariables false
set_option linter.unusedSimpArgs false
set_option maxRecDepth 20000
namespace Go.Vs
open Go Go.Proofs
attribute [local irreducible] Code.wp Code.wpIn wpList wpListIn wpQuiet Calls CallsIn

theorem ti3 : TI Try.prog 3 (.int .i64 0) 1 8 := TI.mk' (by kernel_rfl)
theorem ti23 : TI Try.prog 23 (.slice none 0 0) 1 24 := TI.mk' (by kernel_rfl)
theorem ti25 : TI Try.prog 25 (.agg #[(.int .i64 0), (.slice none 0 0), (.int .i64 0)]) 3 40 := TI.mk' (by kernel_rfl)
theorem ti28 : TI Try.prog 28 (.slice none 0 0) 1 24 := TI.mk' (by kernel_rfl)
theorem ti32 : TI Try.prog 32 (.agg #[(.int .i64 0), (.slice none 0 0), (.int .i64 0)]) 3 40 := TI.mk' (by kernel_rfl)
theorem ti93 : TI Try.prog 93 (.agg #[(.int .i64 0), (.int .i64 0), (.int .i64 0), (.int .i64 0)]) 4 32 := TI.mk' (by kernel_rfl)
theorem ti99 : TI Try.prog 99 (.agg #[(.int .i64 0), (.int .i64 0)]) 2 16 := TI.mk' (by kernel_rfl)
theorem bp99 {fs : Array Field} (hT : Try.prog.underlying 99 = some (.struct fs)) (w : World) : (fs.mapM (fun f => do pure (f.offset, ← sizeOf f.type)) : Sem (Array (Nat × Nat))).run Try.prog w = .ok #[(0, 1), (1, 1)] w := by
  rw [Try.underlying99] at hT; cases hT
  simp [run_typeInfo ti3]

theorem c_laws_szIntS {Aa : List Int} {Ac : Int} {Ad : Option Addr} {Ae : Nat} {r : Int} (h : M.laws_szIntS Aa Ac = some r) :
    Cal2 Try.prog 54 [(Sl Ad Aa Ae), (I Ac)] [Ch.ro 0 (Sl Ad Aa Ae) Aa] (fun n0 v L => v = (I r) ∧ L = []) := by
 refine cal2 (n := 12) Try.func54 rfl rfl rfl rfl ?_
 intro S0 σ0 n0 hn0 H
 unfold M.laws_szIntS at h
 refine c_seq (rg (st (v := (I 0)) (rv_assign rfl) (w_end (q_then (c_seq (rg (st (v := (I Ac)) (rv_move rfl) (st (v := (Sl Ad Aa Ae)) (rv_move rfl) (st (v := (I (Aa.length : Int))) (rv_len Try.underlying23 rfl) (st (v := (I (w64 (Ac - (Aa.length : Int))))) (rv_sub (a := Ac) (b := (Aa.length : Int)) rfl rfl) (st (v := (I (w64 (Ac - (Aa.length : Int))))) (rv_assign rfl) ?_)))))))))))
 refine w_end (q_then (c_seq (c_seq (rg (st (v := (I (w64 (Ac - (Aa.length : Int))))) (rv_move rfl) (st (v := (B (decide ((w64 (Ac - (Aa.length : Int))) < 0)))) (rv_lss (a := (w64 (Ac - (Aa.length : Int)))) (b := 0) rfl rfl) (w_end (q_then ?_))))))))
 refine cd_cond (decide ((w64 (Ac - (Aa.length : Int))) < 0)) rfl (fun hb1 => ?_) (fun hb1 => ?_)
 ·replace h := bif_t hb1 h
  refine c_seq (rg (st (v := (I (-1))) (rv_assign rfl) (w_end (q_then (c_ret (q_then_r ?_))))))
  obtain rfl := Option.some.inj h
  exact fin_ret (v := (I (-1))) (results_ok Try.results54 (res_tmp (v := (I (-1))) rfl res_nil) rfl) ⟨rfl, rfl⟩ (H.sel' [] rfl rfl)
 ·replace h := bif_f hb1 h
  refine c_skip (q_then (c_seq (rg (st (v := (I (w64 (Ac - (Aa.length : Int))))) (rv_move rfl) (st (v := (I (w64 (Ac - (Aa.length : Int))))) (rv_assign rfl) (w_end (q_then (c_ret ?_))))))))
  obtain rfl := Option.some.inj h
  exact fin_ret (v := (I (w64 (Ac - (Aa.length : Int))))) (results_ok Try.results54 (res_tmp (v := (I (w64 (Ac - (Aa.length : Int))))) rfl res_nil) rfl) ⟨rfl, rfl⟩ (H.sel' [] rfl rfl)

theorem c_laws_szItem {Aa : Int × (List Int) × Int} {Ac : Int} {Af : Option Addr} {Ag : Nat} {r : Int} (h : M.laws_szItem Aa Ac = some r) :
    Cal2 Try.prog 15 [(.agg #[(I Aa.1), (Sl Af Aa.2.1 Ag), (I Aa.2.2)]), (I Ac)] [Ch.ro 0 (Sl Af Aa.2.1 Ag) Aa.2.1] (fun n0 v L => v = (I r) ∧ L = []) := by
 refine cal2 (n := 12) Try.func15 rfl rfl rfl rfl ?_
 intro S0 σ0 n0 hn0 H
 unfold M.laws_szItem at h
 refine c_seq (rg (st_ex (ex_box (cs := [(I Aa.1), (Sl Af Aa.2.1 Ag), (I Aa.2.2)]) H hn0 rfl rfl) wn ?_))
 rintro _ σ2 ⟨b1, rfl, H, -⟩
 refine st (v := (I 0)) (rv_assign rfl) (w_end (q_then (c_seq (rg (st (v := (pt b1 1)) (rv_fieldAddr (off := 1) (ft := 23) Try.underlying25 rfl ti23 rfl rfl) ?_)))))
 have hc3 := H.cell (u := (Sl Af Aa.2.1 Ag)) (o' := 1) 0 1 rfl rfl rfl
 refine st (v := (Sl Af Aa.2.1 Ag)) (rv_load1 Try.underlying23 rfl rfl hc3) (st (v := (I Ac)) (rv_move rfl) ?_)
 obtain ⟨r4, hx5, h'⟩ := bind_some h
 clear h
 have h := h'; clear h'
 have hc6 := c_laws_szIntS (Ad := Af) (Ae := Ag) hx5
 refine st_call (cx_call hc6 (ent_f hc6.fn rfl) hn0 (H.sel' [1, 0, 1] rfl rfl : Hp S0 σ0 _ ([_] ++ _))) wn ?_
 rintro _ σ7 ⟨_, ⟨rfl, rfl⟩, H, -⟩
 replace H : Hp _ _ _ [_, _] := H
 refine st (v := (I r4)) (rv_assign rfl) (w_end (q_then (c_seq (c_seq (rg (st (v := (I r4)) (rv_move rfl) (st (v := (B (decide (r4 < 0)))) (rv_lss (a := r4) (b := 0) rfl rfl) (w_end (q_then ?_)))))))))
 refine cd_cond (decide (r4 < 0)) rfl (fun hb8 => ?_) (fun hb8 => ?_)
 ·replace h := bif_t hb8 h
  refine c_seq (rg (st (v := (I (-1))) (rv_assign rfl) (w_end (q_then (c_ret (q_then_r ?_))))))
  obtain rfl := Option.some.inj h
  exact fin_ret (v := (I (-1))) (results_ok Try.results15 (res_tmp (v := (I (-1))) rfl res_nil) rfl) ⟨rfl, rfl⟩ (H.sel' [] rfl rfl)
 ·replace h := bif_f hb8 h
  refine c_skip (q_then (c_seq (rg (st (v := (I r4)) (rv_move rfl) (st (v := (I r4)) (rv_assign rfl) (w_end (q_then (c_ret ?_))))))))
  obtain rfl := Option.some.inj h
  exact fin_ret (v := (I r4)) (results_ok Try.results15 (res_tmp (v := (I r4)) rfl res_nil) rfl) ⟨rfl, rfl⟩ (H.sel' [] rfl rfl)

theorem c_laws_szItemS {Aa : List (Int × (List Int) × Int)} {Ac : Int} {Ad : Option Addr} {Ae : Nat} {r : Int} (h : M.laws_szItemS Aa Ac = some r) :
    Cal2 Try.prog 14 [(Sl Ad Aa Ae), (I Ac)] [Ch.ro 0 (Sl Ad Aa Ae) Aa] (fun n0 v L => v = (I r) ∧ L = []) := by
 refine cal2 (n := 27) Try.func14 rfl rfl rfl rfl ?_
 intro S0 σ0 n0 hn0 H
 unfold M.laws_szItemS at h
 refine c_seq (rg (st (v := (I 0)) (rv_assign rfl) (w_end (q_then (c_seq (rg (st (v := (I Ac)) (rv_move rfl) (st (v := (Sl Ad Aa Ae)) (rv_move rfl) (st (v := (I (Aa.length : Int))) (rv_len Try.underlying22 rfl) (st (v := (I (w64 (Ac - (Aa.length : Int))))) (rv_sub (a := Ac) (b := (Aa.length : Int)) rfl rfl) (st (v := (I (w64 (Ac - (Aa.length : Int))))) (rv_assign rfl) ?_)))))))))))
 refine w_end (q_then (c_seq (c_seq (rg (st (v := (I (w64 (Ac - (Aa.length : Int))))) (rv_move rfl) (st (v := (B (decide ((w64 (Ac - (Aa.length : Int))) < 0)))) (rv_lss (a := (w64 (Ac - (Aa.length : Int)))) (b := 0) rfl rfl) (w_end (q_then ?_))))))))
 refine cd_cond (decide ((w64 (Ac - (Aa.length : Int))) < 0)) rfl (fun hb1 => ?_) (fun hb1 => ?_)
 ·replace h := bif_t hb1 h
  refine c_seq (rg (st (v := (I (-1))) (rv_assign rfl) (w_end (q_then (c_ret (q_then_r ?_))))))
  obtain rfl := Option.some.inj h
  exact fin_ret (v := (I (-1))) (results_ok Try.results14 (res_tmp (v := (I (-1))) rfl res_nil) rfl) ⟨rfl, rfl⟩ (H.sel' [] rfl rfl)
 ·replace h := bif_f hb1 h
  refine c_skip (q_then (c_seq (c_seq (rg (st (v := (I 0)) (rv_assign rfl) (w_end (q_then ?_)))))))
  obtain ⟨o2, hj, h'⟩ := bind_some h
  clear h
  refine c_cut (fun e a w => (∃ t, o2 = (.inl t) ∧ e = .normal ∧ ∃ (ρ : Nat → Value) (σ : St), a = fr 27 (updL ρ [(1, (I t))]) ∧ w = σ.w ∧ Hp S0 σ0 σ []) ∨ (∃ t, o2 = (.inr t) ∧ e = .ret ∧ ∃ (ρ : Nat → Value) (σ : St), a = fr 27 (updL ρ [(4, (I t))]) ∧ w = σ.w ∧ Hp S0 σ0 σ [])) ?_ ?_
  ·clear h'
   rename _ = some o2 => h
   refine c_blk (wp_loopM _ h (fun s3 a w => ∃ (ρ : Nat → Value) (σ : St), a = fr 27 (updL ρ [(0, (Sl Ad Aa Ae)), (1, (I s3.1)), (5, (I s3.2))]) ∧ w = σ.w ∧ Hp S0 σ0 σ [Ch.ro 0 (Sl Ad Aa Ae) Aa]) ⟨_, σ0, fr_join ⟨rfl, rfl, rfl, trivial⟩, rfl, H.sel' [0] rfl rfl⟩ ?_)
   clear h H
   rintro s3 a w o ⟨ρ, σ4, rfl, rfl, H⟩ h hres
   refine c_seq (c_seq (rg (st (v := (I s3.2)) (rv_move rfl) (st (v := (Sl Ad Aa Ae)) (rv_move rfl) (st (v := (I (Aa.length : Int))) (rv_len Try.underlying22 rfl) (st (v := (B (decide (s3.2 < (Aa.length : Int))))) (rv_lss (a := s3.2) (b := (Aa.length : Int)) rfl rfl) (w_end (q_then ?_))))))))
   refine cd_cond (decide (s3.2 < (Aa.length : Int))) rfl (fun hb5 => ?_) (fun hb5 => ?_)
   ·replace h := bif_t hb5 h
    refine c_skip (q_then (c_seq (c_blk (c_seq (rg (st (v := (Sl Ad Aa Ae)) (rv_move rfl) (st (v := (I s3.2)) (rv_move rfl) ?_)))))))
    obtain ⟨x6, hx7, h'⟩ := bind_some h
    clear h
    have h := h'; clear h'
    obtain ⟨b9, o10, hi8, -⟩ := (H.ro 0 rfl).ix hx7
    refine st (v := (pt b9 o10)) (rv_ix Try.underlying22 ti25 rfl rfl hi8) ?_
    obtain ⟨_, ⟨_, _, rfl, rfl, ⟨_, _, rfl, ⟨_, rfl, hR15⟩, rfl⟩⟩, hl11, hc12⟩ := ((H.ro 0 rfl).at hx7 hi8).cells
    obtain ⟨a13, c14, rfl⟩ := hR15.isSl
    replace H := H.add (d := Ch.ro 0 (Sl a13 x6.2.1 c14) x6.2.1) hR15 (fun _ h => h)
    clear hR15
    refine st (v := (.agg #[(I x6.1), (Sl a13 x6.2.1 c14), (I x6.2.2)])) (rv_load Try.underlying25 rfl ti25 rfl hl11 hc12) (st (v := (I s3.1)) (rv_move rfl) ?_)
    obtain ⟨r16, hx17, h'⟩ := bind_some h
    clear h
    have h := h'; clear h'
    have hc18 := c_laws_szItem (Af := a13) (Ag := c14) hx17
    refine st_call (cx_call hc18 (ent_f hc18.fn rfl) hn0 (H.sel' [0, 0, 1] rfl rfl : Hp S0 σ0 _ ([_] ++ _))) wn ?_
    rintro _ σ19 ⟨_, ⟨rfl, rfl⟩, H, -⟩
    replace H : Hp _ _ _ [_, _] := H
    refine st (v := (I r16)) (rv_assign rfl) (w_end (q_then (c_seq (rg (st (v := (I r16)) (rv_move rfl) (st (v := (B (decide (r16 < 0)))) (rv_lss (a := r16) (b := 0) rfl rfl) (w_end (q_then ?_))))))))
    refine cd_cond (decide (r16 < 0)) rfl (fun hb20 => ?_) (fun hb20 => ?_)
    ·replace h := bif_t hb20 h
     refine c_seq (rg (st (v := (I (-1))) (rv_assign rfl) (w_end (q_then (c_ret (q_blk_r (q_then_r (q_then_r (q_blk_r ?_)))))))))
     obtain rfl := Option.some.inj h
     obtain rfl := hres _ rfl
     exact .inr (⟨_, rfl, rfl, _, σ19, fr_join ⟨rfl, trivial⟩, rfl, H.sel' [] rfl rfl⟩)
    ·replace h := bif_f hb20 h
     refine c_skip (q_blk (q_then (rg (st (v := (I s3.2)) (rv_move rfl) (st (v := (I (w64 (s3.2 + 1)))) (rv_add (a := s3.2) (b := 1) rfl rfl) (st (v := (I (w64 (s3.2 + 1)))) (rv_assign rfl) (w_end (q_then ?_))))))))
     obtain rfl := Option.some.inj h
     exact ⟨_, rfl, _, σ19, fr_join ⟨rfl, rfl, rfl, trivial⟩, rfl, H.sel' [1] rfl rfl⟩
   ·replace h := bif_f hb5 h
    refine c_exit (q_then_x (q_then_x (q_blk_hit ?_)))
    obtain rfl := Option.some.inj h
    obtain rfl := hres _ rfl
    exact .inl ⟨_, rfl, rfl, _, σ4, fr_join ⟨rfl, trivial⟩, rfl, H.sel' [] rfl rfl⟩
  ·clear hj
   have h := h'
   clear h' H
   rintro e a w (⟨t21, rfl, rfl, ρ, σ22, rfl, rfl, H⟩ | ⟨t23, rfl, rfl, ρ, σ24, rfl, rfl, H⟩)
   ·replace h := selim_l h
    refine q_then (c_seq (rg (st (v := (I t21)) (rv_move rfl) (st (v := (I t21)) (rv_assign rfl) (w_end (q_then (c_ret ?_)))))))
    obtain rfl := Option.some.inj h
    exact fin_ret (v := (I t21)) (results_ok Try.results14 (res_tmp (v := (I t21)) rfl res_nil) rfl) ⟨rfl, rfl⟩ (H.sel' [] rfl rfl)
   ·replace h := selim_r h
    refine q_then_r ?_
    obtain rfl := Option.some.inj h
    exact fin_ret (v := (I t23)) (results_ok Try.results14 (res_tmp (v := (I t23)) rfl res_nil) rfl) ⟨rfl, rfl⟩ (H.sel' [] rfl rfl)

theorem c_laws_toIntS {Aa : List Int} {Ad : Option Addr} {Ae : Nat} {r : (List Int)} (h : M.laws_toIntS Aa = some r) :
    Cal2 Try.prog 33 [(Sl Ad Aa Ae)] [Ch.ro 0 (Sl Ad Aa Ae) Aa] (fun n0 v L => ∃ (az1 : Option Addr), ∃ (cz2 : Nat), v = (Sl az1 r cz2) ∧ L = [Ch.own n0 n0 (Sl az1 r cz2) r] ∧ cz2 = r.length) := by
 refine cal2 (n := 22) Try.func33 rfl rfl rfl rfl ?_
 intro S0 σ0 n0 hn0 H
 unfold M.laws_toIntS at h
 refine c_seq (rg (st (v := (.slice none 0 0)) (rv_assign rfl) (w_end (q_then (c_seq (rg (st (v := (Sl Ad Aa Ae)) (rv_move rfl) (st (v := (I (Aa.length : Int))) (rv_len Try.underlying23 rfl) ?_))))))))
 obtain ⟨xs1, hx2, h'⟩ := bind_some h
 clear h
 have h := h'; clear h'
 refine st_ex (ex_make (el := n0) (z0 := (0 : Int)) (zs := [(I 0)]) H hn0 Try.underlying23 ti3 rfl rfl rfl (by decide) hx2 rfl rfl) wn ?_
 rintro _ σ6 ⟨b3, c4, rfl, ht5, H, -⟩
 replace ht5 := ht5.trans (gmake_len hx2).symm
 refine st (v := (Sl (some ⟨b3, 0, none⟩) xs1 c4)) (rv_assign rfl) (w_end (q_then (c_seq (c_seq (rg (st (v := (I 0)) (rv_assign rfl) (w_end (q_then ?_))))))))
 obtain ⟨o7, hj, h'⟩ := bind_some h
 clear h
 refine c_cut (fun e a w => e = .normal ∧ ∃ (ρ : Nat → Value) (σ : St), a = fr 22 (updL ρ [(3, (Sl (some ⟨b3, 0, none⟩) o7 c4))]) ∧ w = σ.w ∧ Hp S0 σ0 σ [Ch.own n0 n0 (Sl (some ⟨b3, 0, none⟩) o7 c4) o7] ∧ c4 = o7.length ∧ o7.length = xs1.length) ?_ ?_
 ·clear h'
  rename _ = some o7 => h
  refine c_blk (wp_loopM _ h (fun s8 a w => ∃ (ρ : Nat → Value) (σ : St), a = fr 22 (updL ρ [(0, (Sl Ad Aa Ae)), (3, (Sl (some ⟨b3, 0, none⟩) s8.1 c4)), (4, (I s8.2))]) ∧ w = σ.w ∧ Hp S0 σ0 σ [Ch.ro 0 (Sl Ad Aa Ae) Aa, Ch.own n0 n0 (Sl (some ⟨b3, 0, none⟩) s8.1 c4) s8.1] ∧ c4 = s8.1.length ∧ s8.1.length = xs1.length) ⟨_, σ6, fr_join ⟨rfl, rfl, rfl, trivial⟩, rfl, H.sel' [1, 0] rfl rfl, ht5, rfl⟩ ?_)
  clear h H
  rintro s8 a w o ⟨ρ, σ9, rfl, rfl, H, ht10, hn11⟩ h hres
  refine c_seq (c_seq (rg (st (v := (I s8.2)) (rv_move rfl) (st (v := (Sl Ad Aa Ae)) (rv_move rfl) (st (v := (I (Aa.length : Int))) (rv_len Try.underlying23 rfl) (st (v := (B (decide (s8.2 < (Aa.length : Int))))) (rv_lss (a := s8.2) (b := (Aa.length : Int)) rfl rfl) (w_end (q_then ?_))))))))
  refine cd_cond (decide (s8.2 < (Aa.length : Int))) rfl (fun hb12 => ?_) (fun hb12 => ?_)
  ·replace h := bif_t hb12 h
   refine c_skip (q_then (c_seq (c_blk (rg (st (v := (Sl (some ⟨b3, 0, none⟩) s8.1 c4)) (rv_move rfl) (st (v := (I s8.2)) (rv_move rfl) (st (v := (Sl Ad Aa Ae)) (rv_move rfl) (st (v := (I s8.2)) (rv_move rfl) ?_))))))))
   obtain ⟨x13, hx14, h'⟩ := bind_some h
   clear h
   have h := h'; clear h'
   obtain ⟨b16, o17, hi15, -⟩ := (H.ro 0 rfl).ix hx14
   refine st (v := (pt b16 o17)) (rv_ix Try.underlying23 ti3 rfl rfl hi15) ?_
   have hc18 := ((H.ro 0 rfl).at hx14 hi15).int
   refine st (v := (I x13)) (rv_load1 Try.underlying3 rfl rfl hc18) ?_
   obtain ⟨x19, hx20, h'⟩ := bind_some h
   clear h
   have h := h'; clear h'
   obtain ⟨b22, o23, hi21, -⟩ := (H.own 1 rfl).ix hx20
   refine st (v := (pt b22 o23)) (rv_ix Try.underlying23 ti3 rfl rfl hi21) ?_
   refine st_exS (ex_store_own (e' := x13) (vs := [(I x13)]) (k := 0) H (i := 1) rfl ti3 hx20 hi21 rfl rfl rfl rfl rfl (Nat.le_of_ble_eq_true rfl) (by simp [plain]) (by rintro _ rfl; exact rfl)) wn ?_
   rintro σ24 ⟨H, -⟩
   have hsl : (Sl (some ⟨b3, 0, none⟩) s8.1 c4) = (Sl (some ⟨b3, 0, none⟩) (s8.1.set s8.2.toNat x13) c4) := sl_len List.length_set.symm
   rw [hsl]; rw [hsl] at H; clear hsl
   refine w_end (q_blk (q_then (rg (st (v := (I s8.2)) (rv_move rfl) (st (v := (I (w64 (s8.2 + 1)))) (rv_add (a := s8.2) (b := 1) rfl rfl) (st (v := (I (w64 (s8.2 + 1)))) (rv_assign rfl) (w_end (q_then ?_))))))))
   obtain rfl := Option.some.inj h
   exact ⟨_, rfl, _, σ24, fr_join ⟨rfl, rfl, rfl, trivial⟩, rfl, H.sel' [1, 0] rfl rfl, (ht10.trans List.length_set.symm), (List.length_set.trans hn11)⟩
  ·replace h := bif_f hb12 h
   refine c_exit (q_then_x (q_then_x (q_blk_hit ?_)))
   obtain rfl := Option.some.inj h
   obtain rfl := hres _ rfl
   exact ⟨rfl, _, σ9, fr_join ⟨rfl, trivial⟩, rfl, H.sel' [1] rfl rfl, ht10, hn11⟩
 ·clear hj
  have h := h'
  clear h' H
  rintro e a w ⟨rfl, ρ, σ25, rfl, rfl, H, ht26, hn27⟩
  refine q_then (c_seq (rg (st (v := (Sl (some ⟨b3, 0, none⟩) o7 c4)) (rv_move rfl) (st (v := (Sl (some ⟨b3, 0, none⟩) o7 c4)) (rv_assign rfl) (w_end (q_then (c_ret ?_)))))))
  obtain rfl := Option.some.inj h
  exact fin_ret (v := (Sl (some ⟨b3, 0, none⟩) o7 c4)) (results_ok Try.results33 (res_tmp (v := (Sl (some ⟨b3, 0, none⟩) o7 c4)) rfl res_nil) rfl) ⟨(some ⟨b3, 0, none⟩), c4, rfl, rfl, ht26⟩ (H.sel' [0] rfl rfl)

theorem c_laws_toItem {Aa : Int × (List Int) × Int} {Af : Option Addr} {Ag : Nat} {r : (Int × (List Int) × Int)} (h : M.laws_toItem Aa = some r) :
    Cal2 Try.prog 18 [(.agg #[(I Aa.1), (Sl Af Aa.2.1 Ag), (I Aa.2.2)])] [Ch.ro 0 (Sl Af Aa.2.1 Ag) Aa.2.1] (fun n0 v L => ∃ (az1 : Option Addr), ∃ (cz2 : Nat), v = (.agg #[(I r.1), (Sl az1 r.2.1 cz2), (I r.2.2)]) ∧ L = [Ch.own n0 n0 (Sl az1 r.2.1 cz2) r.2.1] ∧ cz2 = r.2.1.length) := by
 refine cal2 (n := 15) Try.func18 rfl rfl rfl rfl ?_
 intro S0 σ0 n0 hn0 H
 unfold M.laws_toItem at h
 refine c_seq (rg (st_ex (ex_box (cs := [(I Aa.1), (Sl Af Aa.2.1 Ag), (I Aa.2.2)]) H hn0 rfl rfl) wn ?_))
 rintro _ σ2 ⟨b1, rfl, H, -⟩
 refine st_ex (ex_alloc (cs := [(I 0), (.slice none 0 0), (I 0)]) H hn0 ti32 rfl) wn ?_
 rintro _ σ4 ⟨b3, rfl, H, -⟩
 refine w_end (q_then (c_seq (rg (st_ex (ex_alloc (cs := [(I 0), (.slice none 0 0), (I 0)]) H hn0 ti32 rfl) wn ?_))))
 rintro _ σ6 ⟨b5, rfl, H, -⟩
 refine w_end (q_then (c_seq (rg (st (v := (pt b1 0)) (rv_fieldAddr (off := 0) (ft := 3) Try.underlying25 rfl ti3 rfl rfl) ?_))))
 have hc7 := H.cell (u := (I Aa.1)) (o' := 0) 2 0 rfl rfl rfl
 refine st (v := (I Aa.1)) (rv_load1 Try.underlying3 rfl rfl hc7) (st (v := (pt b5 0)) (rv_fieldAddr (off := 0) (ft := 3) Try.underlying32 rfl ti3 rfl rfl) ?_)
 refine st_exS (ex_store_box (k := 0) (cs := [(I 0), (.slice none 0 0), (I 0)]) (vs := [(I Aa.1)]) (cs' := [(I Aa.1), (.slice none 0 0), (I 0)]) H (i := 0) rfl ti3 rfl rfl rfl rfl rfl (Nat.le_of_ble_eq_true rfl) (by simp [plain]) rfl) wn ?_
 rintro σ8 ⟨H, -⟩
 refine w_end (q_then (c_seq (rg (st (v := (pt b1 1)) (rv_fieldAddr (off := 1) (ft := 23) Try.underlying25 rfl ti23 rfl rfl) ?_))))
 have hc9 := H.cell (u := (Sl Af Aa.2.1 Ag)) (o' := 1) 2 1 rfl rfl rfl
 refine st (v := (Sl Af Aa.2.1 Ag)) (rv_load1 Try.underlying23 rfl rfl hc9) ?_
 obtain ⟨r10, hx11, h'⟩ := bind_some h
 clear h
 have h := h'; clear h'
 have hc12 := c_laws_toIntS (Ad := Af) (Ae := Ag) hx11
 refine st_call (cx_call hc12 (ent_f hc12.fn rfl) hn0 (H.sel' [3, 0, 1, 2, 3] rfl rfl : Hp S0 σ0 _ ([_] ++ _))) wn ?_
 rintro _ σ16 ⟨_, ⟨a13, c14, rfl, rfl, ht15⟩, H, -⟩
 replace H : Hp _ _ _ [_, _, _, _, _] := H
 refine st (v := (pt b5 1)) (rv_fieldAddr (off := 1) (ft := 23) Try.underlying32 rfl ti23 rfl rfl) ?_
 refine st_exS (ex_store_box (k := 1) (cs := [(I Aa.1), (.slice none 0 0), (I 0)]) (vs := [(Sl a13 r10 c14)]) (cs' := [(I Aa.1), (Sl a13 r10 c14), (I 0)]) H (i := 1) rfl ti23 rfl rfl rfl rfl rfl (Nat.le_of_ble_eq_true rfl) (by simp [plain]) rfl) wn ?_
 rintro σ17 ⟨H, -⟩
 refine w_end (q_then (c_seq (rg (st (v := (pt b1 2)) (rv_fieldAddr (off := 2) (ft := 3) Try.underlying25 rfl ti3 rfl rfl) ?_))))
 have hc18 := H.cell (u := (I Aa.2.2)) (o' := 2) 3 2 rfl rfl rfl
 refine st (v := (I Aa.2.2)) (rv_load1 Try.underlying3 rfl rfl hc18) (st (v := (pt b5 2)) (rv_fieldAddr (off := 2) (ft := 3) Try.underlying32 rfl ti3 rfl rfl) ?_)
 refine st_exS (ex_store_box (k := 2) (cs := [(I Aa.1), (Sl a13 r10 c14), (I 0)]) (vs := [(I Aa.2.2)]) (cs' := [(I Aa.1), (Sl a13 r10 c14), (I Aa.2.2)]) H (i := 0) rfl ti3 rfl rfl rfl rfl rfl (Nat.le_of_ble_eq_true rfl) (by simp [plain]) rfl) wn ?_
 rintro σ19 ⟨H, -⟩
 refine w_end (q_then (c_seq (rg ?_)))
 have hc20 := H.cells 0 rfl
 refine st (v := (.agg #[(I Aa.1), (Sl a13 r10 c14), (I Aa.2.2)])) (rv_load (cs := [(I Aa.1), (Sl a13 r10 c14), (I Aa.2.2)]) Try.underlying32 rfl ti32 rfl rfl hc20) ?_
 refine st_exS (ex_store_box (k := 0) (cs := [(I 0), (.slice none 0 0), (I 0)]) (vs := [(I Aa.1), (Sl a13 r10 c14), (I Aa.2.2)]) (cs' := [(I Aa.1), (Sl a13 r10 c14), (I Aa.2.2)]) H (i := 2) rfl ti32 rfl rfl rfl rfl rfl (Nat.le_of_ble_eq_true rfl) (by simp [plain]) rfl) wn ?_
 rintro σ21 ⟨H, -⟩
 refine w_end (q_then (c_ret ?_))
 obtain rfl := Option.some.inj h
 exact fin_ret (v := (.agg #[(I Aa.1), (Sl a13 r10 c14), (I Aa.2.2)])) (results_ok Try.results18 (res_cell rfl (run_cellRes (cs := [(I Aa.1), (Sl a13 r10 c14), (I Aa.2.2)]) Try.underlying32 rfl ti32 rfl (H.cells 0 rfl)) res_nil) rfl) ⟨a13, c14, rfl, rfl, ht15⟩ (H.sel' [2] rfl rfl)

theorem c_laws_toItemS {Aa : List (Int × (List Int) × Int)} {Ad : Option Addr} {Ae : Nat} {r : (List (Int × (List Int) × Int))} (h : M.laws_toItemS Aa = some r) :
    Cal2 Try.prog 17 [(Sl Ad Aa Ae)] [Ch.ro 0 (Sl Ad Aa Ae) Aa] (fun n0 v L => ∃ (az1 : Option Addr), ∃ (cz2 : Nat), v = (Sl az1 r cz2) ∧ L = [Ch.own n0 n0 (Sl az1 r cz2) r] ∧ cz2 = r.length) := by
 refine cal2 (n := 23) Try.func17 rfl rfl rfl rfl ?_
 intro S0 σ0 n0 hn0 H
 unfold M.laws_toItemS at h
 refine c_seq (rg (st (v := (.slice none 0 0)) (rv_assign rfl) (w_end (q_then (c_seq (rg (st (v := (Sl Ad Aa Ae)) (rv_move rfl) (st (v := (I (Aa.length : Int))) (rv_len Try.underlying22 rfl) ?_))))))))
 obtain ⟨xs1, hx2, h'⟩ := bind_some h
 clear h
 have h := h'; clear h'
 refine st_ex (ex_make (el := n0) (z0 := ((0, [], 0) : Int × (List Int) × Int)) (zs := [(I 0), (.slice none 0 0), (I 0)]) H hn0 Try.underlying28 ti32 rfl rfl (⟨[(I 0)], [(.slice none 0 0), (I 0)], rfl, rfl, ⟨[(.slice none 0 0)], [(I 0)], rfl, ⟨_, rfl, RS.nil⟩, rfl⟩⟩) (by decide) hx2 rfl rfl) wn ?_
 rintro _ σ6 ⟨b3, c4, rfl, ht5, H, -⟩
 replace ht5 := ht5.trans (gmake_len hx2).symm
 refine st (v := (Sl (some ⟨b3, 0, none⟩) xs1 c4)) (rv_assign rfl) (w_end (q_then (c_seq (c_seq (rg (st (v := (I 0)) (rv_assign rfl) (w_end (q_then ?_))))))))
 obtain ⟨o7, hj, h'⟩ := bind_some h
 clear h
 refine c_cut (fun e a w => e = .normal ∧ ∃ (ρ : Nat → Value) (σ : St), a = fr 23 (updL ρ [(3, (Sl (some ⟨b3, 0, none⟩) o7 c4))]) ∧ w = σ.w ∧ Hp S0 σ0 σ [Ch.own n0 n0 (Sl (some ⟨b3, 0, none⟩) o7 c4) o7] ∧ c4 = o7.length ∧ o7.length = xs1.length) ?_ ?_
 ·clear h'
  rename _ = some o7 => h
  refine c_blk (wp_loopM _ h (fun s8 a w => ∃ (ρ : Nat → Value) (σ : St), a = fr 23 (updL ρ [(0, (Sl Ad Aa Ae)), (3, (Sl (some ⟨b3, 0, none⟩) s8.1 c4)), (4, (I s8.2))]) ∧ w = σ.w ∧ Hp S0 σ0 σ [Ch.ro 0 (Sl Ad Aa Ae) Aa, Ch.own n0 n0 (Sl (some ⟨b3, 0, none⟩) s8.1 c4) s8.1] ∧ c4 = s8.1.length ∧ s8.1.length = xs1.length) ⟨_, σ6, fr_join ⟨rfl, rfl, rfl, trivial⟩, rfl, H.sel' [1, 0] rfl rfl, ht5, rfl⟩ ?_)
  clear h H
  rintro s8 a w o ⟨ρ, σ9, rfl, rfl, H, ht10, hn11⟩ h hres
  refine c_seq (c_seq (rg (st (v := (I s8.2)) (rv_move rfl) (st (v := (Sl Ad Aa Ae)) (rv_move rfl) (st (v := (I (Aa.length : Int))) (rv_len Try.underlying22 rfl) (st (v := (B (decide (s8.2 < (Aa.length : Int))))) (rv_lss (a := s8.2) (b := (Aa.length : Int)) rfl rfl) (w_end (q_then ?_))))))))
  refine cd_cond (decide (s8.2 < (Aa.length : Int))) rfl (fun hb12 => ?_) (fun hb12 => ?_)
  ·replace h := bif_t hb12 h
   refine c_skip (q_then (c_seq (c_blk (rg (st (v := (Sl (some ⟨b3, 0, none⟩) s8.1 c4)) (rv_move rfl) (st (v := (I s8.2)) (rv_move rfl) (st (v := (Sl Ad Aa Ae)) (rv_move rfl) (st (v := (I s8.2)) (rv_move rfl) ?_))))))))
   obtain ⟨x13, hx14, h'⟩ := bind_some h
   clear h
   have h := h'; clear h'
   obtain ⟨b16, o17, hi15, -⟩ := (H.ro 0 rfl).ix hx14
   refine st (v := (pt b16 o17)) (rv_ix Try.underlying22 ti25 rfl rfl hi15) ?_
   obtain ⟨_, ⟨_, _, rfl, rfl, ⟨_, _, rfl, ⟨_, rfl, hR22⟩, rfl⟩⟩, hl18, hc19⟩ := ((H.ro 0 rfl).at hx14 hi15).cells
   obtain ⟨a20, c21, rfl⟩ := hR22.isSl
   replace H := H.add (d := Ch.ro 0 (Sl a20 x13.2.1 c21) x13.2.1) hR22 (fun _ h => h)
   clear hR22
   refine st (v := (.agg #[(I x13.1), (Sl a20 x13.2.1 c21), (I x13.2.2)])) (rv_load Try.underlying25 rfl ti25 rfl hl18 hc19) ?_
   obtain ⟨r23, hx24, h'⟩ := bind_some h
   clear h
   have h := h'; clear h'
   have hc25 := c_laws_toItem (Af := a20) (Ag := c21) hx24
   refine st_call (cx_call hc25 (ent_f hc25.fn rfl) hn0 (H.sel' [0, 0, 1, 2] rfl rfl : Hp S0 σ0 _ ([_] ++ _))) wn ?_
   rintro _ σ29 ⟨_, ⟨a26, c27, rfl, rfl, ht28⟩, H, -⟩
   replace H : Hp _ _ _ [_, _, _, _] := H
   obtain ⟨x30, hx31, h'⟩ := bind_some h
   clear h
   have h := h'; clear h'
   obtain ⟨b33, o34, hi32, -⟩ := (H.own 3 rfl).ix hx31
   refine st (v := (pt b33 o34)) (rv_ix Try.underlying28 ti32 rfl rfl hi32) ?_
   obtain ⟨σ35, hw36, H, -⟩ := H.pub 0 rfl (Nat.le_refl _)
   rw [← hw36]; clear hw36
   refine st_exS (ex_store_own (e' := (r23.1, r23.2.1, r23.2.2)) (vs := [(I r23.1), (Sl a26 r23.2.1 c27), (I r23.2.2)]) (k := 0) H (i := 3) rfl ti32 hx31 hi32 rfl rfl rfl rfl rfl (Nat.le_of_ble_eq_true rfl) (by simp [plain]) (by rintro _ ⟨_, _, rfl, rfl, ⟨_, _, rfl, ⟨_, rfl, hR39⟩, rfl⟩⟩; exact ⟨[(I r23.1)], [(Sl a26 r23.2.1 c27), (I r23.2.2)], rfl, rfl, ⟨[(Sl a26 r23.2.1 c27)], [(I r23.2.2)], rfl, ⟨_, rfl, (H.ro 0 rfl)⟩, rfl⟩⟩)) wn ?_
   rintro σ40 ⟨H, -⟩
   have hsl : (Sl (some ⟨b3, 0, none⟩) s8.1 c4) = (Sl (some ⟨b3, 0, none⟩) (s8.1.set s8.2.toNat (r23.1, r23.2.1, r23.2.2)) c4) := sl_len List.length_set.symm
   rw [hsl]; rw [hsl] at H; clear hsl
   refine w_end (q_blk (q_then (rg (st (v := (I s8.2)) (rv_move rfl) (st (v := (I (w64 (s8.2 + 1)))) (rv_add (a := s8.2) (b := 1) rfl rfl) (st (v := (I (w64 (s8.2 + 1)))) (rv_assign rfl) (w_end (q_then ?_))))))))
   obtain rfl := Option.some.inj h
   exact ⟨_, rfl, _, σ40, fr_join ⟨rfl, rfl, rfl, trivial⟩, rfl, H.sel' [3, 0] rfl rfl, (ht10.trans List.length_set.symm), (List.length_set.trans hn11)⟩
  ·replace h := bif_f hb12 h
   refine c_exit (q_then_x (q_then_x (q_blk_hit ?_)))
   obtain rfl := Option.some.inj h
   obtain rfl := hres _ rfl
   exact ⟨rfl, _, σ9, fr_join ⟨rfl, trivial⟩, rfl, H.sel' [1] rfl rfl, ht10, hn11⟩
 ·clear hj
  have h := h'
  clear h' H
  rintro e a w ⟨rfl, ρ, σ41, rfl, rfl, H, ht42, hn43⟩
  refine q_then (c_seq (rg (st (v := (Sl (some ⟨b3, 0, none⟩) o7 c4)) (rv_move rfl) (st (v := (Sl (some ⟨b3, 0, none⟩) o7 c4)) (rv_assign rfl) (w_end (q_then (c_ret ?_)))))))
  obtain rfl := Option.some.inj h
  exact fin_ret (v := (Sl (some ⟨b3, 0, none⟩) o7 c4)) (results_ok Try.results17 (res_tmp (v := (Sl (some ⟨b3, 0, none⟩) o7 c4)) rfl res_nil) rfl) ⟨(some ⟨b3, 0, none⟩), c4, rfl, rfl, ht42⟩ (H.sel' [0] rfl rfl)

theorem c_laws_eqIntS {Aa : List Int} {Ah : List Int} {Ad : Option Addr} {Ae : Nat} {Ai : Option Addr} {Aj : Nat} {r : Bool} (h : M.laws_eqIntS Aa Ah = some r) :
    Cal2 Try.prog 35 [(Sl Ad Aa Ae), (Sl Ai Ah Aj)] [Ch.ro 0 (Sl Ad Aa Ae) Aa, Ch.ro 0 (Sl Ai Ah Aj) Ah] (fun n0 v L => v = (B r) ∧ L = []) := by
 refine cal2 (n := 26) Try.func35 rfl rfl rfl rfl ?_
 intro S0 σ0 n0 hn0 H
 unfold M.laws_eqIntS at h
 refine c_seq (rg (st (v := (B false)) (rv_assign rfl) (w_end (q_then (c_seq (c_seq (rg (st (v := (Sl Ad Aa Ae)) (rv_move rfl) (st (v := (I (Aa.length : Int))) (rv_len Try.underlying23 rfl) (st (v := (Sl Ai Ah Aj)) (rv_move rfl) (st (v := (I (Ah.length : Int))) (rv_len Try.underlying23 rfl) ?_)))))))))))
 refine st (v := (B ((Aa.length : Int) != (Ah.length : Int)))) (rv_neq (a := (Aa.length : Int)) (b := (Ah.length : Int)) rfl rfl) (w_end (q_then ?_))
 refine cd_cond ((Aa.length : Int) != (Ah.length : Int)) rfl (fun hb1 => ?_) (fun hb1 => ?_)
 ·replace h := bif_t hb1 h
  refine c_seq (rg (st (v := (B false)) (rv_assign rfl) (w_end (q_then (c_ret (q_then_r ?_))))))
  obtain rfl := Option.some.inj h
  exact fin_ret (v := (B false)) (results_ok Try.results35 (res_tmp (v := (B false)) rfl res_nil) rfl) ⟨rfl, rfl⟩ (H.sel' [] rfl rfl)
 ·replace h := bif_f hb1 h
  refine c_skip (q_then (c_seq (c_seq (rg (st (v := (I 0)) (rv_assign rfl) (w_end (q_then ?_)))))))
  obtain ⟨o2, hj, h'⟩ := bind_some h
  clear h
  refine c_cut (fun e a w => (∃ t, o2 = (.inl t) ∧ e = .normal ∧ ∃ (ρ : Nat → Value) (σ : St), a = fr 26 (updL ρ []) ∧ w = σ.w ∧ Hp S0 σ0 σ []) ∨ (∃ t, o2 = (.inr t) ∧ e = .ret ∧ ∃ (ρ : Nat → Value) (σ : St), a = fr 26 (updL ρ [(4, (B t))]) ∧ w = σ.w ∧ Hp S0 σ0 σ [])) ?_ ?_
  ·clear h'
   rename _ = some o2 => h
   refine c_blk (wp_loopM _ h (fun s3 a w => ∃ (ρ : Nat → Value) (σ : St), a = fr 26 (updL ρ [(0, (Sl Ad Aa Ae)), (1, (Sl Ai Ah Aj)), (5, (I s3))]) ∧ w = σ.w ∧ Hp S0 σ0 σ [Ch.ro 0 (Sl Ad Aa Ae) Aa, Ch.ro 0 (Sl Ai Ah Aj) Ah]) ⟨_, σ0, fr_join ⟨rfl, rfl, rfl, trivial⟩, rfl, H.sel' [0, 1] rfl rfl⟩ ?_)
   clear h H
   rintro s3 a w o ⟨ρ, σ4, rfl, rfl, H⟩ h hres
   refine c_seq (c_seq (rg (st (v := (I s3)) (rv_move rfl) (st (v := (Sl Ad Aa Ae)) (rv_move rfl) (st (v := (I (Aa.length : Int))) (rv_len Try.underlying23 rfl) (st (v := (B (decide (s3 < (Aa.length : Int))))) (rv_lss (a := s3) (b := (Aa.length : Int)) rfl rfl) (w_end (q_then ?_))))))))
   refine cd_cond (decide (s3 < (Aa.length : Int))) rfl (fun hb5 => ?_) (fun hb5 => ?_)
   ·replace h := bif_t hb5 h
    refine c_skip (q_then (c_seq (c_blk (c_seq ?_))))
    refine rgP (σ := σ4) 8 (by kernel_rfl) (by kernel_rfl) (by kernel_rfl) ?_
    refine sq (v := (Sl Ad Aa Ae)) (rv_move rfl) (sq (v := (I s3)) (rv_move rfl) ?_)
    obtain ⟨x6, hx7, h'⟩ := bind_some h
    clear h
    have h := h'; clear h'
    obtain ⟨b9, o10, hi8, -⟩ := (H.ro 0 rfl).ix hx7
    refine sq (v := (pt b9 o10)) (rv_ix Try.underlying23 ti3 rfl rfl hi8) ?_
    have hc11 := ((H.ro 0 rfl).at hx7 hi8).int
    refine sq (v := (I x6)) (rv_load1 Try.underlying3 rfl rfl hc11) (sq (v := (Sl Ai Ah Aj)) (rv_move rfl) (sq (v := (I s3)) (rv_move rfl) ?_))
    obtain ⟨x12, hx13, h'⟩ := bind_some h
    clear h
    have h := h'; clear h'
    obtain ⟨b15, o16, hi14, -⟩ := (H.ro 1 rfl).ix hx13
    refine sq (v := (pt b15 o16)) (rv_ix Try.underlying23 ti3 rfl rfl hi14) ?_
    have hc17 := ((H.ro 1 rfl).at hx13 hi14).int
    refine sq (v := (I x12)) (rv_load1 Try.underlying3 rfl rfl hc17) (sq_end ?_)
    intro σ18 hm19
    replace H := H.grow (hm19.mono fun _ h => h); clear hm19
    refine st (v := (B (x6 != x12))) (rv_neq (a := x6) (b := x12) rfl rfl) (w_end (q_then ?_))
    refine cd_cond (x6 != x12) rfl (fun hb20 => ?_) (fun hb20 => ?_)
    ·replace h := bif_t hb20 h
     refine c_seq (rg (st (v := (B false)) (rv_assign rfl) (w_end (q_then (c_ret (q_blk_r (q_then_r (q_then_r (q_blk_r ?_)))))))))
     obtain rfl := Option.some.inj h
     obtain rfl := hres _ rfl
     exact .inr (⟨_, rfl, rfl, _, σ18, fr_join ⟨rfl, trivial⟩, rfl, H.sel' [] rfl rfl⟩)
    ·replace h := bif_f hb20 h
     refine c_skip (q_blk (q_then (rg (st (v := (I s3)) (rv_move rfl) (st (v := (I (w64 (s3 + 1)))) (rv_add (a := s3) (b := 1) rfl rfl) (st (v := (I (w64 (s3 + 1)))) (rv_assign rfl) (w_end (q_then ?_))))))))
     obtain rfl := Option.some.inj h
     exact ⟨_, rfl, _, σ18, fr_join ⟨rfl, rfl, rfl, trivial⟩, rfl, H.sel' [0, 1] rfl rfl⟩
   ·replace h := bif_f hb5 h
    refine c_exit (q_then_x (q_then_x (q_blk_hit ?_)))
    obtain rfl := Option.some.inj h
    obtain rfl := hres _ rfl
    exact .inl ⟨_, rfl, rfl, _, σ4, fr_join trivial, rfl, H.sel' [] rfl rfl⟩
  ·clear hj
   have h := h'
   clear h' H
   rintro e a w (⟨t21, rfl, rfl, ρ, σ22, rfl, rfl, H⟩ | ⟨t23, rfl, rfl, ρ, σ24, rfl, rfl, H⟩)
   ·replace h := selim_l h
    refine q_then (c_seq (rg (st (v := (B true)) (rv_assign rfl) (w_end (q_then (c_ret ?_))))))
    obtain rfl := Option.some.inj h
    exact fin_ret (v := (B true)) (results_ok Try.results35 (res_tmp (v := (B true)) rfl res_nil) rfl) ⟨rfl, rfl⟩ (H.sel' [] rfl rfl)
   ·replace h := selim_r h
    refine q_then_r ?_
    obtain rfl := Option.some.inj h
    exact fin_ret (v := (B t23)) (results_ok Try.results35 (res_tmp (v := (B t23)) rfl res_nil) rfl) ⟨rfl, rfl⟩ (H.sel' [] rfl rfl)

theorem c_laws_eqItem {Aa : Int × (List Int) × Int} {Ah : Int × (List Int) × Int} {Af : Option Addr} {Ag : Nat} {Ak : Option Addr} {Am : Nat} {r : Bool} (h : M.laws_eqItem Aa Ah = some r) :
    Cal2 Try.prog 21 [(.agg #[(I Aa.1), (Sl Af Aa.2.1 Ag), (I Aa.2.2)]), (.agg #[(I Ah.1), (Sl Ak Ah.2.1 Am), (I Ah.2.2)])] [Ch.ro 0 (Sl Af Aa.2.1 Ag) Aa.2.1, Ch.ro 0 (Sl Ak Ah.2.1 Am) Ah.2.1] (fun n0 v L => v = (B r) ∧ L = []) := by
 refine cal2 (n := 21) Try.func21 rfl rfl rfl rfl ?_
 intro S0 σ0 n0 hn0 H
 unfold M.laws_eqItem at h
 refine c_seq (rg (st_ex (ex_box (cs := [(I Aa.1), (Sl Af Aa.2.1 Ag), (I Aa.2.2)]) H hn0 rfl rfl) wn ?_))
 rintro _ σ2 ⟨b1, rfl, H, -⟩
 refine st_ex (ex_box (cs := [(I Ah.1), (Sl Ak Ah.2.1 Am), (I Ah.2.2)]) H hn0 rfl rfl) wn ?_
 rintro _ σ4 ⟨b3, rfl, H, -⟩
 refine st (v := (B false)) (rv_assign rfl) (w_end (q_then (c_seq (c_seq (rg (st (v := (pt b1 0)) (rv_fieldAddr (off := 0) (ft := 3) Try.underlying32 rfl ti3 rfl rfl) ?_))))))
 have hc5 := H.cell (u := (I Aa.1)) (o' := 0) 1 0 rfl rfl rfl
 refine st (v := (I Aa.1)) (rv_load1 Try.underlying3 rfl rfl hc5) (st (v := (pt b3 0)) (rv_fieldAddr (off := 0) (ft := 3) Try.underlying32 rfl ti3 rfl rfl) ?_)
 have hc6 := H.cell (u := (I Ah.1)) (o' := 0) 0 0 rfl rfl rfl
 refine st (v := (I Ah.1)) (rv_load1 Try.underlying3 rfl rfl hc6) (st (v := (B (Aa.1 != Ah.1))) (rv_neq (a := Aa.1) (b := Ah.1) rfl rfl) (w_end (q_then ?_)))
 refine cd_cond (Aa.1 != Ah.1) rfl (fun hb7 => ?_) (fun hb7 => ?_)
 ·replace h := bif_t hb7 h
  refine c_seq (rg (st (v := (B false)) (rv_assign rfl) (w_end (q_then (c_ret (q_then_r ?_))))))
  obtain rfl := Option.some.inj h
  exact fin_ret (v := (B false)) (results_ok Try.results21 (res_tmp (v := (B false)) rfl res_nil) rfl) ⟨rfl, rfl⟩ (H.sel' [] rfl rfl)
 ·replace h := bif_f hb7 h
  refine c_skip (q_then (c_seq (c_seq (rg (st (v := (pt b1 1)) (rv_fieldAddr (off := 1) (ft := 23) Try.underlying32 rfl ti23 rfl rfl) ?_)))))
  have hc8 := H.cell (u := (Sl Af Aa.2.1 Ag)) (o' := 1) 1 1 rfl rfl rfl
  refine st (v := (Sl Af Aa.2.1 Ag)) (rv_load1 Try.underlying23 rfl rfl hc8) (st (v := (pt b3 1)) (rv_fieldAddr (off := 1) (ft := 23) Try.underlying32 rfl ti23 rfl rfl) ?_)
  have hc9 := H.cell (u := (Sl Ak Ah.2.1 Am)) (o' := 1) 0 1 rfl rfl rfl
  refine st (v := (Sl Ak Ah.2.1 Am)) (rv_load1 Try.underlying23 rfl rfl hc9) ?_
  obtain ⟨r10, hx11, h'⟩ := bind_some h
  clear h
  have h := h'; clear h'
  have hc12 := c_laws_eqIntS (Ad := Af) (Ae := Ag) (Ai := Ak) (Aj := Am) hx11
  refine st_call (cx_call hc12 (ent_f hc12.fn rfl) hn0 (H.sel' [2, 3, 0, 1, 2, 3] rfl rfl : Hp S0 σ0 _ ([_, _] ++ _))) wn ?_
  rintro _ σ13 ⟨_, ⟨rfl, rfl⟩, H, -⟩
  replace H : Hp _ _ _ [_, _, _, _] := H
  refine st (v := (B (!r10))) (rv_not rfl) (w_end (q_then ?_))
  refine cd_cond (!r10) rfl (fun hb14 => ?_) (fun hb14 => ?_)
  ·replace h := bif_t hb14 h
   refine c_seq (rg (st (v := (B false)) (rv_assign rfl) (w_end (q_then (c_ret (q_then_r ?_))))))
   obtain rfl := Option.some.inj h
   exact fin_ret (v := (B false)) (results_ok Try.results21 (res_tmp (v := (B false)) rfl res_nil) rfl) ⟨rfl, rfl⟩ (H.sel' [] rfl rfl)
  ·replace h := bif_f hb14 h
   refine c_skip (q_then (c_seq (c_seq (rg (st (v := (pt b1 2)) (rv_fieldAddr (off := 2) (ft := 3) Try.underlying32 rfl ti3 rfl rfl) ?_)))))
   have hc15 := H.cell (u := (I Aa.2.2)) (o' := 2) 1 2 rfl rfl rfl
   refine st (v := (I Aa.2.2)) (rv_load1 Try.underlying3 rfl rfl hc15) (st (v := (pt b3 2)) (rv_fieldAddr (off := 2) (ft := 3) Try.underlying32 rfl ti3 rfl rfl) ?_)
   have hc16 := H.cell (u := (I Ah.2.2)) (o' := 2) 0 2 rfl rfl rfl
   refine st (v := (I Ah.2.2)) (rv_load1 Try.underlying3 rfl rfl hc16) (st (v := (B (Aa.2.2 != Ah.2.2))) (rv_neq (a := Aa.2.2) (b := Ah.2.2) rfl rfl) (w_end (q_then ?_)))
   refine cd_cond (Aa.2.2 != Ah.2.2) rfl (fun hb17 => ?_) (fun hb17 => ?_)
   ·replace h := bif_t hb17 h
    refine c_seq (rg (st (v := (B false)) (rv_assign rfl) (w_end (q_then (c_ret (q_then_r ?_))))))
    obtain rfl := Option.some.inj h
    exact fin_ret (v := (B false)) (results_ok Try.results21 (res_tmp (v := (B false)) rfl res_nil) rfl) ⟨rfl, rfl⟩ (H.sel' [] rfl rfl)
   ·replace h := bif_f hb17 h
    refine c_skip (q_then (c_seq (rg (st (v := (B true)) (rv_assign rfl) (w_end (q_then (c_ret ?_)))))))
    obtain rfl := Option.some.inj h
    exact fin_ret (v := (B true)) (results_ok Try.results21 (res_tmp (v := (B true)) rfl res_nil) rfl) ⟨rfl, rfl⟩ (H.sel' [] rfl rfl)

theorem c_laws_eqItemS {Aa : List (Int × (List Int) × Int)} {Ah : List (Int × (List Int) × Int)} {Ad : Option Addr} {Ae : Nat} {Ai : Option Addr} {Aj : Nat} {r : Bool} (h : M.laws_eqItemS Aa Ah = some r) :
    Cal2 Try.prog 20 [(Sl Ad Aa Ae), (Sl Ai Ah Aj)] [Ch.ro 0 (Sl Ad Aa Ae) Aa, Ch.ro 0 (Sl Ai Ah Aj) Ah] (fun n0 v L => v = (B r) ∧ L = []) := by
 refine cal2 (n := 27) Try.func20 rfl rfl rfl rfl ?_
 intro S0 σ0 n0 hn0 H
 unfold M.laws_eqItemS at h
 refine c_seq (rg (st (v := (B false)) (rv_assign rfl) (w_end (q_then (c_seq (c_seq (rg (st (v := (Sl Ad Aa Ae)) (rv_move rfl) (st (v := (I (Aa.length : Int))) (rv_len Try.underlying28 rfl) (st (v := (Sl Ai Ah Aj)) (rv_move rfl) (st (v := (I (Ah.length : Int))) (rv_len Try.underlying28 rfl) ?_)))))))))))
 refine st (v := (B ((Aa.length : Int) != (Ah.length : Int)))) (rv_neq (a := (Aa.length : Int)) (b := (Ah.length : Int)) rfl rfl) (w_end (q_then ?_))
 refine cd_cond ((Aa.length : Int) != (Ah.length : Int)) rfl (fun hb1 => ?_) (fun hb1 => ?_)
 ·replace h := bif_t hb1 h
  refine c_seq (rg (st (v := (B false)) (rv_assign rfl) (w_end (q_then (c_ret (q_then_r ?_))))))
  obtain rfl := Option.some.inj h
  exact fin_ret (v := (B false)) (results_ok Try.results20 (res_tmp (v := (B false)) rfl res_nil) rfl) ⟨rfl, rfl⟩ (H.sel' [] rfl rfl)
 ·replace h := bif_f hb1 h
  refine c_skip (q_then (c_seq (c_seq (rg (st (v := (I 0)) (rv_assign rfl) (w_end (q_then ?_)))))))
  obtain ⟨o2, hj, h'⟩ := bind_some h
  clear h
  refine c_cut (fun e a w => (∃ t, o2 = (.inl t) ∧ e = .normal ∧ ∃ (ρ : Nat → Value) (σ : St), a = fr 27 (updL ρ []) ∧ w = σ.w ∧ Hp S0 σ0 σ []) ∨ (∃ t, o2 = (.inr t) ∧ e = .ret ∧ ∃ (ρ : Nat → Value) (σ : St), a = fr 27 (updL ρ [(4, (B t))]) ∧ w = σ.w ∧ Hp S0 σ0 σ [])) ?_ ?_
  ·clear h'
   rename _ = some o2 => h
   refine c_blk (wp_loopM _ h (fun s3 a w => ∃ (ρ : Nat → Value) (σ : St), a = fr 27 (updL ρ [(0, (Sl Ad Aa Ae)), (1, (Sl Ai Ah Aj)), (5, (I s3))]) ∧ w = σ.w ∧ Hp S0 σ0 σ [Ch.ro 0 (Sl Ad Aa Ae) Aa, Ch.ro 0 (Sl Ai Ah Aj) Ah]) ⟨_, σ0, fr_join ⟨rfl, rfl, rfl, trivial⟩, rfl, H.sel' [0, 1] rfl rfl⟩ ?_)
   clear h H
   rintro s3 a w o ⟨ρ, σ4, rfl, rfl, H⟩ h hres
   refine c_seq (c_seq (rg (st (v := (I s3)) (rv_move rfl) (st (v := (Sl Ad Aa Ae)) (rv_move rfl) (st (v := (I (Aa.length : Int))) (rv_len Try.underlying28 rfl) (st (v := (B (decide (s3 < (Aa.length : Int))))) (rv_lss (a := s3) (b := (Aa.length : Int)) rfl rfl) (w_end (q_then ?_))))))))
   refine cd_cond (decide (s3 < (Aa.length : Int))) rfl (fun hb5 => ?_) (fun hb5 => ?_)
   ·replace h := bif_t hb5 h
    refine c_skip (q_then (c_seq (c_blk (c_seq ?_))))
    refine rgP (σ := σ4) 8 (by kernel_rfl) (by kernel_rfl) (by kernel_rfl) ?_
    refine sq (v := (Sl Ad Aa Ae)) (rv_move rfl) (sq (v := (I s3)) (rv_move rfl) ?_)
    obtain ⟨x6, hx7, h'⟩ := bind_some h
    clear h
    have h := h'; clear h'
    obtain ⟨b9, o10, hi8, -⟩ := (H.ro 0 rfl).ix hx7
    refine sq (v := (pt b9 o10)) (rv_ix Try.underlying28 ti32 rfl rfl hi8) ?_
    obtain ⟨_, ⟨_, _, rfl, rfl, ⟨_, _, rfl, ⟨_, rfl, hR15⟩, rfl⟩⟩, hl11, hc12⟩ := ((H.ro 0 rfl).at hx7 hi8).cells
    obtain ⟨a13, c14, rfl⟩ := hR15.isSl
    replace H := H.add (d := Ch.ro 0 (Sl a13 x6.2.1 c14) x6.2.1) hR15 (fun _ h => h)
    clear hR15
    refine sq (v := (.agg #[(I x6.1), (Sl a13 x6.2.1 c14), (I x6.2.2)])) (rv_load Try.underlying32 rfl ti32 rfl hl11 hc12) (sq (v := (Sl Ai Ah Aj)) (rv_move rfl) (sq (v := (I s3)) (rv_move rfl) ?_))
    obtain ⟨x16, hx17, h'⟩ := bind_some h
    clear h
    have h := h'; clear h'
    obtain ⟨b19, o20, hi18, -⟩ := (H.ro 2 rfl).ix hx17
    refine sq (v := (pt b19 o20)) (rv_ix Try.underlying28 ti32 rfl rfl hi18) ?_
    obtain ⟨_, ⟨_, _, rfl, rfl, ⟨_, _, rfl, ⟨_, rfl, hR25⟩, rfl⟩⟩, hl21, hc22⟩ := ((H.ro 2 rfl).at hx17 hi18).cells
    obtain ⟨a23, c24, rfl⟩ := hR25.isSl
    replace H := H.add (d := Ch.ro 0 (Sl a23 x16.2.1 c24) x16.2.1) hR25 (fun _ h => h)
    clear hR25
    refine sq (v := (.agg #[(I x16.1), (Sl a23 x16.2.1 c24), (I x16.2.2)])) (rv_load Try.underlying32 rfl ti32 rfl hl21 hc22) (sq_end ?_)
    intro σ26 hm27
    replace H := H.grow (hm27.mono fun _ h => h); clear hm27
    obtain ⟨r28, hx29, h'⟩ := bind_some h
    clear h
    have h := h'; clear h'
    have hc30 := c_laws_eqItem (Af := a13) (Ag := c14) (Ak := a23) (Am := c24) hx29
    refine st_call (cx_call hc30 (ent_f hc30.fn rfl) hn0 (H.sel' [1, 0, 0, 1, 2, 3] rfl rfl : Hp S0 σ0 _ ([_, _] ++ _))) wn ?_
    rintro _ σ31 ⟨_, ⟨rfl, rfl⟩, H, -⟩
    replace H : Hp _ _ _ [_, _, _, _] := H
    refine st (v := (B (!r28))) (rv_not rfl) (w_end (q_then ?_))
    refine cd_cond (!r28) rfl (fun hb32 => ?_) (fun hb32 => ?_)
    ·replace h := bif_t hb32 h
     refine c_seq (rg (st (v := (B false)) (rv_assign rfl) (w_end (q_then (c_ret (q_blk_r (q_then_r (q_then_r (q_blk_r ?_)))))))))
     obtain rfl := Option.some.inj h
     obtain rfl := hres _ rfl
     exact .inr (⟨_, rfl, rfl, _, σ31, fr_join ⟨rfl, trivial⟩, rfl, H.sel' [] rfl rfl⟩)
    ·replace h := bif_f hb32 h
     refine c_skip (q_blk (q_then (rg (st (v := (I s3)) (rv_move rfl) (st (v := (I (w64 (s3 + 1)))) (rv_add (a := s3) (b := 1) rfl rfl) (st (v := (I (w64 (s3 + 1)))) (rv_assign rfl) (w_end (q_then ?_))))))))
     obtain rfl := Option.some.inj h
     exact ⟨_, rfl, _, σ31, fr_join ⟨rfl, rfl, rfl, trivial⟩, rfl, H.sel' [2, 3] rfl rfl⟩
   ·replace h := bif_f hb5 h
    refine c_exit (q_then_x (q_then_x (q_blk_hit ?_)))
    obtain rfl := Option.some.inj h
    obtain rfl := hres _ rfl
    exact .inl ⟨_, rfl, rfl, _, σ4, fr_join trivial, rfl, H.sel' [] rfl rfl⟩
  ·clear hj
   have h := h'
   clear h' H
   rintro e a w (⟨t33, rfl, rfl, ρ, σ34, rfl, rfl, H⟩ | ⟨t35, rfl, rfl, ρ, σ36, rfl, rfl, H⟩)
   ·replace h := selim_l h
    refine q_then (c_seq (rg (st (v := (B true)) (rv_assign rfl) (w_end (q_then (c_ret ?_))))))
    obtain rfl := Option.some.inj h
    exact fin_ret (v := (B true)) (results_ok Try.results20 (res_tmp (v := (B true)) rfl res_nil) rfl) ⟨rfl, rfl⟩ (H.sel' [] rfl rfl)
   ·replace h := selim_r h
    refine q_then_r ?_
    obtain rfl := Option.some.inj h
    exact fin_ret (v := (B t35)) (results_ok Try.results20 (res_tmp (v := (B t35)) rfl res_nil) rfl) ⟨rfl, rfl⟩ (H.sel' [] rfl rfl)

theorem c_laws_szIntSS {Aa : List (List Int)} {Ac : Int} {Ad : Option Addr} {Ae : Nat} {r : Int} (h : M.laws_szIntSS Aa Ac = some r) :
    Cal2 Try.prog 27 [(Sl Ad Aa Ae), (I Ac)] [Ch.ro 0 (Sl Ad Aa Ae) Aa] (fun n0 v L => v = (I r) ∧ L = []) := by
 refine cal2 (n := 27) Try.func27 rfl rfl rfl rfl ?_
 intro S0 σ0 n0 hn0 H
 unfold M.laws_szIntSS at h
 refine c_seq (rg (st (v := (I 0)) (rv_assign rfl) (w_end (q_then (c_seq (rg (st (v := (I Ac)) (rv_move rfl) (st (v := (Sl Ad Aa Ae)) (rv_move rfl) (st (v := (I (Aa.length : Int))) (rv_len Try.underlying41 rfl) (st (v := (I (w64 (Ac - (Aa.length : Int))))) (rv_sub (a := Ac) (b := (Aa.length : Int)) rfl rfl) (st (v := (I (w64 (Ac - (Aa.length : Int))))) (rv_assign rfl) ?_)))))))))))
 refine w_end (q_then (c_seq (c_seq (rg (st (v := (I (w64 (Ac - (Aa.length : Int))))) (rv_move rfl) (st (v := (B (decide ((w64 (Ac - (Aa.length : Int))) < 0)))) (rv_lss (a := (w64 (Ac - (Aa.length : Int)))) (b := 0) rfl rfl) (w_end (q_then ?_))))))))
 refine cd_cond (decide ((w64 (Ac - (Aa.length : Int))) < 0)) rfl (fun hb1 => ?_) (fun hb1 => ?_)
 ·replace h := bif_t hb1 h
  refine c_seq (rg (st (v := (I (-1))) (rv_assign rfl) (w_end (q_then (c_ret (q_then_r ?_))))))
  obtain rfl := Option.some.inj h
  exact fin_ret (v := (I (-1))) (results_ok Try.results27 (res_tmp (v := (I (-1))) rfl res_nil) rfl) ⟨rfl, rfl⟩ (H.sel' [] rfl rfl)
 ·replace h := bif_f hb1 h
  refine c_skip (q_then (c_seq (c_seq (rg (st (v := (I 0)) (rv_assign rfl) (w_end (q_then ?_)))))))
  obtain ⟨o2, hj, h'⟩ := bind_some h
  clear h
  refine c_cut (fun e a w => (∃ t, o2 = (.inl t) ∧ e = .normal ∧ ∃ (ρ : Nat → Value) (σ : St), a = fr 27 (updL ρ [(1, (I t))]) ∧ w = σ.w ∧ Hp S0 σ0 σ []) ∨ (∃ t, o2 = (.inr t) ∧ e = .ret ∧ ∃ (ρ : Nat → Value) (σ : St), a = fr 27 (updL ρ [(4, (I t))]) ∧ w = σ.w ∧ Hp S0 σ0 σ [])) ?_ ?_
  ·clear h'
   rename _ = some o2 => h
   refine c_blk (wp_loopM _ h (fun s3 a w => ∃ (ρ : Nat → Value) (σ : St), a = fr 27 (updL ρ [(0, (Sl Ad Aa Ae)), (1, (I s3.1)), (5, (I s3.2))]) ∧ w = σ.w ∧ Hp S0 σ0 σ [Ch.ro 0 (Sl Ad Aa Ae) Aa]) ⟨_, σ0, fr_join ⟨rfl, rfl, rfl, trivial⟩, rfl, H.sel' [0] rfl rfl⟩ ?_)
   clear h H
   rintro s3 a w o ⟨ρ, σ4, rfl, rfl, H⟩ h hres
   refine c_seq (c_seq (rg (st (v := (I s3.2)) (rv_move rfl) (st (v := (Sl Ad Aa Ae)) (rv_move rfl) (st (v := (I (Aa.length : Int))) (rv_len Try.underlying41 rfl) (st (v := (B (decide (s3.2 < (Aa.length : Int))))) (rv_lss (a := s3.2) (b := (Aa.length : Int)) rfl rfl) (w_end (q_then ?_))))))))
   refine cd_cond (decide (s3.2 < (Aa.length : Int))) rfl (fun hb5 => ?_) (fun hb5 => ?_)
   ·replace h := bif_t hb5 h
    refine c_skip (q_then (c_seq (c_blk (c_seq (rg (st (v := (Sl Ad Aa Ae)) (rv_move rfl) (st (v := (I s3.2)) (rv_move rfl) ?_)))))))
    obtain ⟨x6, hx7, h'⟩ := bind_some h
    clear h
    have h := h'; clear h'
    obtain ⟨b9, o10, hi8, -⟩ := (H.ro 0 rfl).ix hx7
    refine st (v := (pt b9 o10)) (rv_ix Try.underlying41 ti23 rfl rfl hi8) ?_
    obtain ⟨v14, hc15, hR13⟩ := ((H.ro 0 rfl).at hx7 hi8).slice
    obtain ⟨a11, c12, rfl⟩ := hR13.isSl
    replace H := H.add (d := Ch.ro 0 (Sl a11 x6 c12) x6) hR13 (fun _ h => h)
    clear hR13
    refine st (v := (Sl a11 x6 c12)) (rv_load1 Try.underlying23 rfl rfl hc15) (st (v := (I s3.1)) (rv_move rfl) ?_)
    obtain ⟨r16, hx17, h'⟩ := bind_some h
    clear h
    have h := h'; clear h'
    have hc18 := c_laws_szIntS (Ad := a11) (Ae := c12) hx17
    refine st_call (cx_call hc18 (ent_f hc18.fn rfl) hn0 (H.sel' [0, 0, 1] rfl rfl : Hp S0 σ0 _ ([_] ++ _))) wn ?_
    rintro _ σ19 ⟨_, ⟨rfl, rfl⟩, H, -⟩
    replace H : Hp _ _ _ [_, _] := H
    refine st (v := (I r16)) (rv_assign rfl) (w_end (q_then (c_seq (rg (st (v := (I r16)) (rv_move rfl) (st (v := (B (decide (r16 < 0)))) (rv_lss (a := r16) (b := 0) rfl rfl) (w_end (q_then ?_))))))))
    refine cd_cond (decide (r16 < 0)) rfl (fun hb20 => ?_) (fun hb20 => ?_)
    ·replace h := bif_t hb20 h
     refine c_seq (rg (st (v := (I (-1))) (rv_assign rfl) (w_end (q_then (c_ret (q_blk_r (q_then_r (q_then_r (q_blk_r ?_)))))))))
     obtain rfl := Option.some.inj h
     obtain rfl := hres _ rfl
     exact .inr (⟨_, rfl, rfl, _, σ19, fr_join ⟨rfl, trivial⟩, rfl, H.sel' [] rfl rfl⟩)
    ·replace h := bif_f hb20 h
     refine c_skip (q_blk (q_then (rg (st (v := (I s3.2)) (rv_move rfl) (st (v := (I (w64 (s3.2 + 1)))) (rv_add (a := s3.2) (b := 1) rfl rfl) (st (v := (I (w64 (s3.2 + 1)))) (rv_assign rfl) (w_end (q_then ?_))))))))
     obtain rfl := Option.some.inj h
     exact ⟨_, rfl, _, σ19, fr_join ⟨rfl, rfl, rfl, trivial⟩, rfl, H.sel' [1] rfl rfl⟩
   ·replace h := bif_f hb5 h
    refine c_exit (q_then_x (q_then_x (q_blk_hit ?_)))
    obtain rfl := Option.some.inj h
    obtain rfl := hres _ rfl
    exact .inl ⟨_, rfl, rfl, _, σ4, fr_join ⟨rfl, trivial⟩, rfl, H.sel' [] rfl rfl⟩
  ·clear hj
   have h := h'
   clear h' H
   rintro e a w (⟨t21, rfl, rfl, ρ, σ22, rfl, rfl, H⟩ | ⟨t23, rfl, rfl, ρ, σ24, rfl, rfl, H⟩)
   ·replace h := selim_l h
    refine q_then (c_seq (rg (st (v := (I t21)) (rv_move rfl) (st (v := (I t21)) (rv_assign rfl) (w_end (q_then (c_ret ?_)))))))
    obtain rfl := Option.some.inj h
    exact fin_ret (v := (I t21)) (results_ok Try.results27 (res_tmp (v := (I t21)) rfl res_nil) rfl) ⟨rfl, rfl⟩ (H.sel' [] rfl rfl)
   ·replace h := selim_r h
    refine q_then_r ?_
    obtain rfl := Option.some.inj h
    exact fin_ret (v := (I t23)) (results_ok Try.results27 (res_tmp (v := (I t23)) rfl res_nil) rfl) ⟨rfl, rfl⟩ (H.sel' [] rfl rfl)

theorem c_laws_toIntSS {Aa : List (List Int)} {Ad : Option Addr} {Ae : Nat} {r : (List (List Int))} (h : M.laws_toIntSS Aa = some r) :
    Cal2 Try.prog 29 [(Sl Ad Aa Ae)] [Ch.ro 0 (Sl Ad Aa Ae) Aa] (fun n0 v L => ∃ (az1 : Option Addr), ∃ (cz2 : Nat), v = (Sl az1 r cz2) ∧ L = [Ch.own n0 n0 (Sl az1 r cz2) r] ∧ cz2 = r.length) := by
 refine cal2 (n := 23) Try.func29 rfl rfl rfl rfl ?_
 intro S0 σ0 n0 hn0 H
 unfold M.laws_toIntSS at h
 refine c_seq (rg (st (v := (.slice none 0 0)) (rv_assign rfl) (w_end (q_then (c_seq (rg (st (v := (Sl Ad Aa Ae)) (rv_move rfl) (st (v := (I (Aa.length : Int))) (rv_len Try.underlying41 rfl) ?_))))))))
 obtain ⟨xs1, hx2, h'⟩ := bind_some h
 clear h
 have h := h'; clear h'
 refine st_ex (ex_make (el := n0) (z0 := ([] : List Int)) (zs := [(.slice none 0 0)]) H hn0 Try.underlying41 ti23 rfl rfl (⟨_, rfl, RS.nil⟩) (by decide) hx2 rfl rfl) wn ?_
 rintro _ σ6 ⟨b3, c4, rfl, ht5, H, -⟩
 replace ht5 := ht5.trans (gmake_len hx2).symm
 refine st (v := (Sl (some ⟨b3, 0, none⟩) xs1 c4)) (rv_assign rfl) (w_end (q_then (c_seq (c_seq (rg (st (v := (I 0)) (rv_assign rfl) (w_end (q_then ?_))))))))
 obtain ⟨o7, hj, h'⟩ := bind_some h
 clear h
 refine c_cut (fun e a w => e = .normal ∧ ∃ (ρ : Nat → Value) (σ : St), a = fr 23 (updL ρ [(3, (Sl (some ⟨b3, 0, none⟩) o7 c4))]) ∧ w = σ.w ∧ Hp S0 σ0 σ [Ch.own n0 n0 (Sl (some ⟨b3, 0, none⟩) o7 c4) o7] ∧ c4 = o7.length ∧ o7.length = xs1.length) ?_ ?_
 ·clear h'
  rename _ = some o7 => h
  refine c_blk (wp_loopM _ h (fun s8 a w => ∃ (ρ : Nat → Value) (σ : St), a = fr 23 (updL ρ [(0, (Sl Ad Aa Ae)), (3, (Sl (some ⟨b3, 0, none⟩) s8.1 c4)), (4, (I s8.2))]) ∧ w = σ.w ∧ Hp S0 σ0 σ [Ch.ro 0 (Sl Ad Aa Ae) Aa, Ch.own n0 n0 (Sl (some ⟨b3, 0, none⟩) s8.1 c4) s8.1] ∧ c4 = s8.1.length ∧ s8.1.length = xs1.length) ⟨_, σ6, fr_join ⟨rfl, rfl, rfl, trivial⟩, rfl, H.sel' [1, 0] rfl rfl, ht5, rfl⟩ ?_)
  clear h H
  rintro s8 a w o ⟨ρ, σ9, rfl, rfl, H, ht10, hn11⟩ h hres
  refine c_seq (c_seq (rg (st (v := (I s8.2)) (rv_move rfl) (st (v := (Sl Ad Aa Ae)) (rv_move rfl) (st (v := (I (Aa.length : Int))) (rv_len Try.underlying41 rfl) (st (v := (B (decide (s8.2 < (Aa.length : Int))))) (rv_lss (a := s8.2) (b := (Aa.length : Int)) rfl rfl) (w_end (q_then ?_))))))))
  refine cd_cond (decide (s8.2 < (Aa.length : Int))) rfl (fun hb12 => ?_) (fun hb12 => ?_)
  ·replace h := bif_t hb12 h
   refine c_skip (q_then (c_seq (c_blk (rg (st (v := (Sl (some ⟨b3, 0, none⟩) s8.1 c4)) (rv_move rfl) (st (v := (I s8.2)) (rv_move rfl) (st (v := (Sl Ad Aa Ae)) (rv_move rfl) (st (v := (I s8.2)) (rv_move rfl) ?_))))))))
   obtain ⟨x13, hx14, h'⟩ := bind_some h
   clear h
   have h := h'; clear h'
   obtain ⟨b16, o17, hi15, -⟩ := (H.ro 0 rfl).ix hx14
   refine st (v := (pt b16 o17)) (rv_ix Try.underlying41 ti23 rfl rfl hi15) ?_
   obtain ⟨v21, hc22, hR20⟩ := ((H.ro 0 rfl).at hx14 hi15).slice
   obtain ⟨a18, c19, rfl⟩ := hR20.isSl
   replace H := H.add (d := Ch.ro 0 (Sl a18 x13 c19) x13) hR20 (fun _ h => h)
   clear hR20
   refine st (v := (Sl a18 x13 c19)) (rv_load1 Try.underlying23 rfl rfl hc22) ?_
   obtain ⟨r23, hx24, h'⟩ := bind_some h
   clear h
   have h := h'; clear h'
   have hc25 := c_laws_toIntS (Ad := a18) (Ae := c19) hx24
   refine st_call (cx_call hc25 (ent_f hc25.fn rfl) hn0 (H.sel' [0, 0, 1, 2] rfl rfl : Hp S0 σ0 _ ([_] ++ _))) wn ?_
   rintro _ σ29 ⟨_, ⟨a26, c27, rfl, rfl, ht28⟩, H, -⟩
   replace H : Hp _ _ _ [_, _, _, _] := H
   obtain ⟨x30, hx31, h'⟩ := bind_some h
   clear h
   have h := h'; clear h'
   obtain ⟨b33, o34, hi32, -⟩ := (H.own 3 rfl).ix hx31
   refine st (v := (pt b33 o34)) (rv_ix Try.underlying41 ti23 rfl rfl hi32) ?_
   obtain ⟨σ35, hw36, H, -⟩ := H.pub 0 rfl (Nat.le_refl _)
   rw [← hw36]; clear hw36
   refine st_exS (ex_store_own (e' := r23) (vs := [(Sl a26 r23 c27)]) (k := 0) H (i := 3) rfl ti23 hx31 hi32 rfl rfl rfl rfl rfl (Nat.le_of_ble_eq_true rfl) (by simp [plain]) (by rintro _ ⟨_, rfl, hR39⟩; exact ⟨_, rfl, (H.ro 0 rfl)⟩)) wn ?_
   rintro σ40 ⟨H, -⟩
   have hsl : (Sl (some ⟨b3, 0, none⟩) s8.1 c4) = (Sl (some ⟨b3, 0, none⟩) (s8.1.set s8.2.toNat r23) c4) := sl_len List.length_set.symm
   rw [hsl]; rw [hsl] at H; clear hsl
   refine w_end (q_blk (q_then (rg (st (v := (I s8.2)) (rv_move rfl) (st (v := (I (w64 (s8.2 + 1)))) (rv_add (a := s8.2) (b := 1) rfl rfl) (st (v := (I (w64 (s8.2 + 1)))) (rv_assign rfl) (w_end (q_then ?_))))))))
   obtain rfl := Option.some.inj h
   exact ⟨_, rfl, _, σ40, fr_join ⟨rfl, rfl, rfl, trivial⟩, rfl, H.sel' [3, 0] rfl rfl, (ht10.trans List.length_set.symm), (List.length_set.trans hn11)⟩
  ·replace h := bif_f hb12 h
   refine c_exit (q_then_x (q_then_x (q_blk_hit ?_)))
   obtain rfl := Option.some.inj h
   obtain rfl := hres _ rfl
   exact ⟨rfl, _, σ9, fr_join ⟨rfl, trivial⟩, rfl, H.sel' [1] rfl rfl, ht10, hn11⟩
 ·clear hj
  have h := h'
  clear h' H
  rintro e a w ⟨rfl, ρ, σ41, rfl, rfl, H, ht42, hn43⟩
  refine q_then (c_seq (rg (st (v := (Sl (some ⟨b3, 0, none⟩) o7 c4)) (rv_move rfl) (st (v := (Sl (some ⟨b3, 0, none⟩) o7 c4)) (rv_assign rfl) (w_end (q_then (c_ret ?_)))))))
  obtain rfl := Option.some.inj h
  exact fin_ret (v := (Sl (some ⟨b3, 0, none⟩) o7 c4)) (results_ok Try.results29 (res_tmp (v := (Sl (some ⟨b3, 0, none⟩) o7 c4)) rfl res_nil) rfl) ⟨(some ⟨b3, 0, none⟩), c4, rfl, rfl, ht42⟩ (H.sel' [0] rfl rfl)

theorem c_laws_eqIntSS {Aa : List (List Int)} {Ah : List (List Int)} {Ad : Option Addr} {Ae : Nat} {Ai : Option Addr} {Aj : Nat} {r : Bool} (h : M.laws_eqIntSS Aa Ah = some r) :
    Cal2 Try.prog 31 [(Sl Ad Aa Ae), (Sl Ai Ah Aj)] [Ch.ro 0 (Sl Ad Aa Ae) Aa, Ch.ro 0 (Sl Ai Ah Aj) Ah] (fun n0 v L => v = (B r) ∧ L = []) := by
 refine cal2 (n := 27) Try.func31 rfl rfl rfl rfl ?_
 intro S0 σ0 n0 hn0 H
 unfold M.laws_eqIntSS at h
 refine c_seq (rg (st (v := (B false)) (rv_assign rfl) (w_end (q_then (c_seq (c_seq (rg (st (v := (Sl Ad Aa Ae)) (rv_move rfl) (st (v := (I (Aa.length : Int))) (rv_len Try.underlying41 rfl) (st (v := (Sl Ai Ah Aj)) (rv_move rfl) (st (v := (I (Ah.length : Int))) (rv_len Try.underlying41 rfl) ?_)))))))))))
 refine st (v := (B ((Aa.length : Int) != (Ah.length : Int)))) (rv_neq (a := (Aa.length : Int)) (b := (Ah.length : Int)) rfl rfl) (w_end (q_then ?_))
 refine cd_cond ((Aa.length : Int) != (Ah.length : Int)) rfl (fun hb1 => ?_) (fun hb1 => ?_)
 ·replace h := bif_t hb1 h
  refine c_seq (rg (st (v := (B false)) (rv_assign rfl) (w_end (q_then (c_ret (q_then_r ?_))))))
  obtain rfl := Option.some.inj h
  exact fin_ret (v := (B false)) (results_ok Try.results31 (res_tmp (v := (B false)) rfl res_nil) rfl) ⟨rfl, rfl⟩ (H.sel' [] rfl rfl)
 ·replace h := bif_f hb1 h
  refine c_skip (q_then (c_seq (c_seq (rg (st (v := (I 0)) (rv_assign rfl) (w_end (q_then ?_)))))))
  obtain ⟨o2, hj, h'⟩ := bind_some h
  clear h
  refine c_cut (fun e a w => (∃ t, o2 = (.inl t) ∧ e = .normal ∧ ∃ (ρ : Nat → Value) (σ : St), a = fr 27 (updL ρ []) ∧ w = σ.w ∧ Hp S0 σ0 σ []) ∨ (∃ t, o2 = (.inr t) ∧ e = .ret ∧ ∃ (ρ : Nat → Value) (σ : St), a = fr 27 (updL ρ [(4, (B t))]) ∧ w = σ.w ∧ Hp S0 σ0 σ [])) ?_ ?_
  ·clear h'
   rename _ = some o2 => h
   refine c_blk (wp_loopM _ h (fun s3 a w => ∃ (ρ : Nat → Value) (σ : St), a = fr 27 (updL ρ [(0, (Sl Ad Aa Ae)), (1, (Sl Ai Ah Aj)), (5, (I s3))]) ∧ w = σ.w ∧ Hp S0 σ0 σ [Ch.ro 0 (Sl Ad Aa Ae) Aa, Ch.ro 0 (Sl Ai Ah Aj) Ah]) ⟨_, σ0, fr_join ⟨rfl, rfl, rfl, trivial⟩, rfl, H.sel' [0, 1] rfl rfl⟩ ?_)
   clear h H
   rintro s3 a w o ⟨ρ, σ4, rfl, rfl, H⟩ h hres
   refine c_seq (c_seq (rg (st (v := (I s3)) (rv_move rfl) (st (v := (Sl Ad Aa Ae)) (rv_move rfl) (st (v := (I (Aa.length : Int))) (rv_len Try.underlying41 rfl) (st (v := (B (decide (s3 < (Aa.length : Int))))) (rv_lss (a := s3) (b := (Aa.length : Int)) rfl rfl) (w_end (q_then ?_))))))))
   refine cd_cond (decide (s3 < (Aa.length : Int))) rfl (fun hb5 => ?_) (fun hb5 => ?_)
   ·replace h := bif_t hb5 h
    refine c_skip (q_then (c_seq (c_blk (c_seq ?_))))
    refine rgP (σ := σ4) 8 (by kernel_rfl) (by kernel_rfl) (by kernel_rfl) ?_
    refine sq (v := (Sl Ad Aa Ae)) (rv_move rfl) (sq (v := (I s3)) (rv_move rfl) ?_)
    obtain ⟨x6, hx7, h'⟩ := bind_some h
    clear h
    have h := h'; clear h'
    obtain ⟨b9, o10, hi8, -⟩ := (H.ro 0 rfl).ix hx7
    refine sq (v := (pt b9 o10)) (rv_ix Try.underlying41 ti23 rfl rfl hi8) ?_
    obtain ⟨v14, hc15, hR13⟩ := ((H.ro 0 rfl).at hx7 hi8).slice
    obtain ⟨a11, c12, rfl⟩ := hR13.isSl
    replace H := H.add (d := Ch.ro 0 (Sl a11 x6 c12) x6) hR13 (fun _ h => h)
    clear hR13
    refine sq (v := (Sl a11 x6 c12)) (rv_load1 Try.underlying23 rfl rfl hc15) (sq (v := (Sl Ai Ah Aj)) (rv_move rfl) (sq (v := (I s3)) (rv_move rfl) ?_))
    obtain ⟨x16, hx17, h'⟩ := bind_some h
    clear h
    have h := h'; clear h'
    obtain ⟨b19, o20, hi18, -⟩ := (H.ro 2 rfl).ix hx17
    refine sq (v := (pt b19 o20)) (rv_ix Try.underlying41 ti23 rfl rfl hi18) ?_
    obtain ⟨v24, hc25, hR23⟩ := ((H.ro 2 rfl).at hx17 hi18).slice
    obtain ⟨a21, c22, rfl⟩ := hR23.isSl
    replace H := H.add (d := Ch.ro 0 (Sl a21 x16 c22) x16) hR23 (fun _ h => h)
    clear hR23
    refine sq (v := (Sl a21 x16 c22)) (rv_load1 Try.underlying23 rfl rfl hc25) (sq_end ?_)
    intro σ26 hm27
    replace H := H.grow (hm27.mono fun _ h => h); clear hm27
    obtain ⟨r28, hx29, h'⟩ := bind_some h
    clear h
    have h := h'; clear h'
    have hc30 := c_laws_eqIntS (Ad := a11) (Ae := c12) (Ai := a21) (Aj := c22) hx29
    refine st_call (cx_call hc30 (ent_f hc30.fn rfl) hn0 (H.sel' [1, 0, 0, 1, 2, 3] rfl rfl : Hp S0 σ0 _ ([_, _] ++ _))) wn ?_
    rintro _ σ31 ⟨_, ⟨rfl, rfl⟩, H, -⟩
    replace H : Hp _ _ _ [_, _, _, _] := H
    refine st (v := (B (!r28))) (rv_not rfl) (w_end (q_then ?_))
    refine cd_cond (!r28) rfl (fun hb32 => ?_) (fun hb32 => ?_)
    ·replace h := bif_t hb32 h
     refine c_seq (rg (st (v := (B false)) (rv_assign rfl) (w_end (q_then (c_ret (q_blk_r (q_then_r (q_then_r (q_blk_r ?_)))))))))
     obtain rfl := Option.some.inj h
     obtain rfl := hres _ rfl
     exact .inr (⟨_, rfl, rfl, _, σ31, fr_join ⟨rfl, trivial⟩, rfl, H.sel' [] rfl rfl⟩)
    ·replace h := bif_f hb32 h
     refine c_skip (q_blk (q_then (rg (st (v := (I s3)) (rv_move rfl) (st (v := (I (w64 (s3 + 1)))) (rv_add (a := s3) (b := 1) rfl rfl) (st (v := (I (w64 (s3 + 1)))) (rv_assign rfl) (w_end (q_then ?_))))))))
     obtain rfl := Option.some.inj h
     exact ⟨_, rfl, _, σ31, fr_join ⟨rfl, rfl, rfl, trivial⟩, rfl, H.sel' [2, 3] rfl rfl⟩
   ·replace h := bif_f hb5 h
    refine c_exit (q_then_x (q_then_x (q_blk_hit ?_)))
    obtain rfl := Option.some.inj h
    obtain rfl := hres _ rfl
    exact .inl ⟨_, rfl, rfl, _, σ4, fr_join trivial, rfl, H.sel' [] rfl rfl⟩
  ·clear hj
   have h := h'
   clear h' H
   rintro e a w (⟨t33, rfl, rfl, ρ, σ34, rfl, rfl, H⟩ | ⟨t35, rfl, rfl, ρ, σ36, rfl, rfl, H⟩)
   ·replace h := selim_l h
    refine q_then (c_seq (rg (st (v := (B true)) (rv_assign rfl) (w_end (q_then (c_ret ?_))))))
    obtain rfl := Option.some.inj h
    exact fin_ret (v := (B true)) (results_ok Try.results31 (res_tmp (v := (B true)) rfl res_nil) rfl) ⟨rfl, rfl⟩ (H.sel' [] rfl rfl)
   ·replace h := selim_r h
    refine q_then_r ?_
    obtain rfl := Option.some.inj h
    exact fin_ret (v := (B t35)) (results_ok Try.results31 (res_tmp (v := (B t35)) rfl res_nil) rfl) ⟨rfl, rfl⟩ (H.sel' [] rfl rfl)

theorem c_spec_inRange {Ao : Int} {Ap : Int} {Aq : Int}  {r : Bool} (h : M.spec_inRange Ao Ap Aq = some r) :
    Cal2 Try.prog 85 [(I Ao), (I Ap), (I Aq)] [] (fun n0 v L => v = (B r) ∧ L = []) := by
 refine cal2 (n := 15) Try.func85 rfl rfl rfl rfl ?_
 intro S0 σ0 n0 hn0 H
 unfold M.spec_inRange at h
 refine c_seq (rg (st (v := (B false)) (rv_assign rfl) (w_end (q_then (c_seq (rg (st (v := (I Ap)) (rv_move rfl) (st (v := (I Ao)) (rv_move rfl) (st (v := (B (decide (Ap ≤ Ao)))) (rv_leq (a := Ap) (b := Ao) rfl rfl) (st (v := (B (decide (Ap ≤ Ao)))) (rv_move rfl) ?_))))))))))
 rcases Bool.eq_false_or_eq_true (decide (Ap ≤ Ao)) with hb1 | hb1
 ·replace h := bif_t hb1 h
  refine st_g (v := (I Ao)) (congrArg some hb1) (rv_move rfl) (st_g (v := (I Aq)) (congrArg some hb1) (rv_move rfl) (st_g (v := (B (decide (Ao ≤ Aq)))) (congrArg some hb1) (rv_leq (a := Ao) (b := Aq) rfl rfl) (st (v := (B (decide (Ao ≤ Aq)))) (rv_pick_t (congrArg B hb1) rfl) (st (v := (B (decide (Ao ≤ Aq)))) (rv_assign rfl) (w_end (q_then (c_ret ?_)))))))
  obtain rfl := Option.some.inj h
  exact fin_ret (v := (B (decide (Ao ≤ Aq)))) (results_ok Try.results85 (res_tmp (v := (B (decide (Ao ≤ Aq)))) rfl res_nil) rfl) ⟨rfl, rfl⟩ (H.sel' [] rfl rfl)
 ·replace h := bif_f hb1 h
  refine st_skip (congrArg some hb1) (st_skip (congrArg some hb1) (st_skip (congrArg some hb1) (st (v := (B false)) (rv_pick_f (congrArg B hb1) rfl) (st (v := (B false)) (rv_assign rfl) (w_end (q_then (c_ret ?_)))))))
  obtain rfl := Option.some.inj h
  exact fin_ret (v := (B false)) (results_ok Try.results85 (res_tmp (v := (B false)) rfl res_nil) rfl) ⟨rfl, rfl⟩ (H.sel' [] rfl rfl)

theorem c_spec_allIn {Ar : List Int} {Ap : Int} {Aq : Int} {As : Option Addr} {Au : Nat} {r : Bool} (h : M.spec_allIn Ar Ap Aq = some r) :
    Cal2 Try.prog 100 [(Sl As Ar Au), (I Ap), (I Aq)] [Ch.ro 0 (Sl As Ar Au) Ar] (fun n0 v L => v = (B r) ∧ L = []) := by
 refine cal2 (n := 22) Try.func100 rfl rfl rfl rfl ?_
 intro S0 σ0 n0 hn0 H
 unfold M.spec_allIn at h
 refine c_seq (rg (st (v := (B false)) (rv_assign rfl) (w_end (q_then (c_seq (c_seq (rg (st (v := (I 0)) (rv_assign rfl) (w_end (q_then ?_))))))))))
 obtain ⟨o1, hj, h'⟩ := bind_some h
 clear h
 refine c_cut (fun e a w => (∃ t, o1 = (.inl t) ∧ e = .normal ∧ ∃ (ρ : Nat → Value) (σ : St), a = fr 22 (updL ρ []) ∧ w = σ.w ∧ Hp S0 σ0 σ []) ∨ (∃ t, o1 = (.inr t) ∧ e = .ret ∧ ∃ (ρ : Nat → Value) (σ : St), a = fr 22 (updL ρ [(6, (B t))]) ∧ w = σ.w ∧ Hp S0 σ0 σ [])) ?_ ?_
 ·clear h'
  rename _ = some o1 => h
  refine c_blk (wp_loopM _ h (fun s2 a w => ∃ (ρ : Nat → Value) (σ : St), a = fr 22 (updL ρ [(0, (Sl As Ar Au)), (1, (I Ap)), (2, (I Aq)), (7, (I s2))]) ∧ w = σ.w ∧ Hp S0 σ0 σ [Ch.ro 0 (Sl As Ar Au) Ar]) ⟨_, σ0, fr_join ⟨rfl, rfl, rfl, rfl, trivial⟩, rfl, H.sel' [0] rfl rfl⟩ ?_)
  clear h H
  rintro s2 a w o ⟨ρ, σ3, rfl, rfl, H⟩ h hres
  refine c_seq (c_seq (rg (st (v := (I s2)) (rv_move rfl) (st (v := (Sl As Ar Au)) (rv_move rfl) (st (v := (I (Ar.length : Int))) (rv_len Try.underlying23 rfl) (st (v := (B (decide (s2 < (Ar.length : Int))))) (rv_lss (a := s2) (b := (Ar.length : Int)) rfl rfl) (w_end (q_then ?_))))))))
  refine cd_cond (decide (s2 < (Ar.length : Int))) rfl (fun hb4 => ?_) (fun hb4 => ?_)
  ·replace h := bif_t hb4 h
   refine c_skip (q_then (c_seq (c_blk (c_seq (rg (st (v := (Sl As Ar Au)) (rv_move rfl) (st (v := (I s2)) (rv_move rfl) ?_)))))))
   obtain ⟨x5, hx6, h'⟩ := bind_some h
   clear h
   have h := h'; clear h'
   obtain ⟨b8, o9, hi7, -⟩ := (H.ro 0 rfl).ix hx6
   refine st (v := (pt b8 o9)) (rv_ix Try.underlying23 ti3 rfl rfl hi7) ?_
   have hc10 := ((H.ro 0 rfl).at hx6 hi7).int
   refine st (v := (I x5)) (rv_load1 Try.underlying3 rfl rfl hc10) (st (v := (I Ap)) (rv_move rfl) (st (v := (I Aq)) (rv_move rfl) ?_))
   obtain ⟨r11, hx12, h'⟩ := bind_some h
   clear h
   have h := h'; clear h'
   have hc13 := c_spec_inRange hx12
   refine st_call (cx_call hc13 (ent_f hc13.fn rfl) hn0 (H.sel' [0] rfl rfl : Hp S0 σ0 _ ([] ++ _))) wn ?_
   rintro _ σ14 ⟨_, ⟨rfl, rfl⟩, H, -⟩
   replace H : Hp _ _ _ [_] := H
   refine st (v := (B (!r11))) (rv_not rfl) (w_end (q_then ?_))
   refine cd_cond (!r11) rfl (fun hb15 => ?_) (fun hb15 => ?_)
   ·replace h := bif_t hb15 h
    refine c_seq (rg (st (v := (B false)) (rv_assign rfl) (w_end (q_then (c_ret (q_blk_r (q_then_r (q_then_r (q_blk_r ?_)))))))))
    obtain rfl := Option.some.inj h
    obtain rfl := hres _ rfl
    exact .inr (⟨_, rfl, rfl, _, σ14, fr_join ⟨rfl, trivial⟩, rfl, H.sel' [] rfl rfl⟩)
   ·replace h := bif_f hb15 h
    refine c_skip (q_blk (q_then (rg (st (v := (I s2)) (rv_move rfl) (st (v := (I (w64 (s2 + 1)))) (rv_add (a := s2) (b := 1) rfl rfl) (st (v := (I (w64 (s2 + 1)))) (rv_assign rfl) (w_end (q_then ?_))))))))
    obtain rfl := Option.some.inj h
    exact ⟨_, rfl, _, σ14, fr_join ⟨rfl, rfl, rfl, rfl, trivial⟩, rfl, H.sel' [0] rfl rfl⟩
  ·replace h := bif_f hb4 h
   refine c_exit (q_then_x (q_then_x (q_blk_hit ?_)))
   obtain rfl := Option.some.inj h
   obtain rfl := hres _ rfl
   exact .inl ⟨_, rfl, rfl, _, σ3, fr_join trivial, rfl, H.sel' [] rfl rfl⟩
 ·clear hj
  have h := h'
  clear h' H
  rintro e a w (⟨t16, rfl, rfl, ρ, σ17, rfl, rfl, H⟩ | ⟨t18, rfl, rfl, ρ, σ19, rfl, rfl, H⟩)
  ·replace h := selim_l h
   refine q_then (c_seq (rg (st (v := (B true)) (rv_assign rfl) (w_end (q_then (c_ret ?_))))))
   obtain rfl := Option.some.inj h
   exact fin_ret (v := (B true)) (results_ok Try.results100 (res_tmp (v := (B true)) rfl res_nil) rfl) ⟨rfl, rfl⟩ (H.sel' [] rfl rfl)
  ·replace h := selim_r h
   refine q_then_r ?_
   obtain rfl := Option.some.inj h
   exact fin_ret (v := (B t18)) (results_ok Try.results100 (res_tmp (v := (B t18)) rfl res_nil) rfl) ⟨rfl, rfl⟩ (H.sel' [] rfl rfl)

theorem c_spec_isVector {Av : List Int} {Aw : Option Addr} {Ax : Nat} {r : Bool} (h : M.spec_isVector Av = some r) :
    Cal2 Try.prog 69 [(Sl Aw Av Ax)] [Ch.ro 0 (Sl Aw Av Ax) Av] (fun n0 v L => v = (B r) ∧ L = []) := by
 refine cal2 (n := 10) Try.func69 rfl rfl rfl rfl ?_
 intro S0 σ0 n0 hn0 H
 unfold M.spec_isVector at h
 refine c_seq (rg (st (v := (B false)) (rv_assign rfl) (w_end (q_then (c_seq (rg (st (v := (Sl Aw Av Ax)) (rv_move rfl) (st (v := (I (Av.length : Int))) (rv_len Try.underlying23 rfl) (st (v := (B ((Av.length : Int) == 4))) (rv_eql (a := (Av.length : Int)) (b := 4) rfl rfl) (st (v := (B ((Av.length : Int) == 4))) (rv_move rfl) ?_))))))))))
 rcases Bool.eq_false_or_eq_true ((Av.length : Int) == 4) with hb1 | hb1
 ·replace h := bif_t hb1 h
  refine st_g (v := (Sl Aw Av Ax)) (congrArg some hb1) (rv_move rfl) ?_
  obtain ⟨r2, hx3, h'⟩ := bind_some h
  clear h
  have h := h'; clear h'
  have hc4 := c_spec_allIn (As := Aw) (Au := Ax) hx3
  refine st_call (cx_call hc4 (ent_f hc4.fn rfl) hn0 (H.sel' [0, 0] rfl rfl : Hp S0 σ0 _ ([_] ++ _))) (wanted_yes rfl (by exact (congrArg some hb1))) ?_
  rintro _ σ5 ⟨_, ⟨rfl, rfl⟩, H, -⟩
  replace H : Hp _ _ _ [_] := H
  refine st (v := (B r2)) (rv_pick_t (congrArg B hb1) rfl) (st (v := (B r2)) (rv_assign rfl) (w_end (q_then (c_ret ?_))))
  obtain rfl := Option.some.inj h
  exact fin_ret (v := (B r2)) (results_ok Try.results69 (res_tmp (v := (B r2)) rfl res_nil) rfl) ⟨rfl, rfl⟩ (H.sel' [] rfl rfl)
 ·replace h := bif_f hb1 h
  refine st_skip (congrArg some hb1) (st_skip (congrArg some hb1) (st (v := (B false)) (rv_pick_f (congrArg B hb1) rfl) (st (v := (B false)) (rv_assign rfl) (w_end (q_then (c_ret ?_))))))
  obtain rfl := Option.some.inj h
  exact fin_ret (v := (B false)) (results_ok Try.results69 (res_tmp (v := (B false)) rfl res_nil) rfl) ⟨rfl, rfl⟩ (H.sel' [] rfl rfl)

theorem c_spec_validCentres {Ar : List (List Int)} {As : Option Addr} {Au : Nat} {r : Bool} (h : M.spec_validCentres Ar = some r) :
    Cal2 Try.prog 67 [(Sl As Ar Au)] [Ch.ro 0 (Sl As Ar Au) Ar] (fun n0 v L => v = (B r) ∧ L = []) := by
 refine cal2 (n := 19) Try.func67 rfl rfl rfl rfl ?_
 intro S0 σ0 n0 hn0 H
 unfold M.spec_validCentres at h
 refine c_seq (rg (st (v := (B false)) (rv_assign rfl) (w_end (q_then (c_seq (c_seq (rg (st (v := (I 0)) (rv_assign rfl) (w_end (q_then ?_))))))))))
 obtain ⟨o1, hj, h'⟩ := bind_some h
 clear h
 refine c_cut (fun e a w => (∃ t, o1 = (.inl t) ∧ e = .normal ∧ ∃ (ρ : Nat → Value) (σ : St), a = fr 19 (updL ρ [(0, (Sl As Ar Au))]) ∧ w = σ.w ∧ Hp S0 σ0 σ [Ch.ro 0 (Sl As Ar Au) Ar]) ∨ (∃ t, o1 = (.inr t) ∧ e = .ret ∧ ∃ (ρ : Nat → Value) (σ : St), a = fr 19 (updL ρ [(2, (B t))]) ∧ w = σ.w ∧ Hp S0 σ0 σ [])) ?_ ?_
 ·clear h'
  rename _ = some o1 => h
  refine c_blk (wp_loopM _ h (fun s2 a w => ∃ (ρ : Nat → Value) (σ : St), a = fr 19 (updL ρ [(0, (Sl As Ar Au)), (3, (I s2))]) ∧ w = σ.w ∧ Hp S0 σ0 σ [Ch.ro 0 (Sl As Ar Au) Ar]) ⟨_, σ0, fr_join ⟨rfl, rfl, trivial⟩, rfl, H.sel' [0] rfl rfl⟩ ?_)
  clear h H
  rintro s2 a w o ⟨ρ, σ3, rfl, rfl, H⟩ h hres
  refine c_seq (c_seq (rg (st (v := (I s2)) (rv_move rfl) (st (v := (Sl As Ar Au)) (rv_move rfl) (st (v := (I (Ar.length : Int))) (rv_len Try.underlying41 rfl) (st (v := (B (decide (s2 < (Ar.length : Int))))) (rv_lss (a := s2) (b := (Ar.length : Int)) rfl rfl) (w_end (q_then ?_))))))))
  refine cd_cond (decide (s2 < (Ar.length : Int))) rfl (fun hb4 => ?_) (fun hb4 => ?_)
  ·replace h := bif_t hb4 h
   refine c_skip (q_then (c_seq (c_blk (c_seq (rg (st (v := (Sl As Ar Au)) (rv_move rfl) (st (v := (I s2)) (rv_move rfl) ?_)))))))
   obtain ⟨x5, hx6, h'⟩ := bind_some h
   clear h
   have h := h'; clear h'
   obtain ⟨b8, o9, hi7, -⟩ := (H.ro 0 rfl).ix hx6
   refine st (v := (pt b8 o9)) (rv_ix Try.underlying41 ti23 rfl rfl hi7) ?_
   obtain ⟨v13, hc14, hR12⟩ := ((H.ro 0 rfl).at hx6 hi7).slice
   obtain ⟨a10, c11, rfl⟩ := hR12.isSl
   replace H := H.add (d := Ch.ro 0 (Sl a10 x5 c11) x5) hR12 (fun _ h => h)
   clear hR12
   refine st (v := (Sl a10 x5 c11)) (rv_load1 Try.underlying23 rfl rfl hc14) ?_
   obtain ⟨r15, hx16, h'⟩ := bind_some h
   clear h
   have h := h'; clear h'
   have hc17 := c_spec_isVector (Aw := a10) (Ax := c11) hx16
   refine st_call (cx_call hc17 (ent_f hc17.fn rfl) hn0 (H.sel' [0, 0, 1] rfl rfl : Hp S0 σ0 _ ([_] ++ _))) wn ?_
   rintro _ σ18 ⟨_, ⟨rfl, rfl⟩, H, -⟩
   replace H : Hp _ _ _ [_, _] := H
   refine st (v := (B (!r15))) (rv_not rfl) (w_end (q_then ?_))
   refine cd_cond (!r15) rfl (fun hb19 => ?_) (fun hb19 => ?_)
   ·replace h := bif_t hb19 h
    refine c_seq (rg (st (v := (B false)) (rv_assign rfl) (w_end (q_then (c_ret (q_blk_r (q_then_r (q_then_r (q_blk_r ?_)))))))))
    obtain rfl := Option.some.inj h
    obtain rfl := hres _ rfl
    exact .inr (⟨_, rfl, rfl, _, σ18, fr_join ⟨rfl, trivial⟩, rfl, H.sel' [] rfl rfl⟩)
   ·replace h := bif_f hb19 h
    refine c_skip (q_blk (q_then (rg (st (v := (I s2)) (rv_move rfl) (st (v := (I (w64 (s2 + 1)))) (rv_add (a := s2) (b := 1) rfl rfl) (st (v := (I (w64 (s2 + 1)))) (rv_assign rfl) (w_end (q_then ?_))))))))
    obtain rfl := Option.some.inj h
    exact ⟨_, rfl, _, σ18, fr_join ⟨rfl, rfl, trivial⟩, rfl, H.sel' [1] rfl rfl⟩
  ·replace h := bif_f hb4 h
   refine c_exit (q_then_x (q_then_x (q_blk_hit ?_)))
   obtain rfl := Option.some.inj h
   obtain rfl := hres _ rfl
   exact .inl ⟨_, rfl, rfl, _, σ3, fr_join ⟨rfl, trivial⟩, rfl, H.sel' [0] rfl rfl⟩
 ·clear hj
  have h := h'
  clear h' H
  rintro e a w (⟨t20, rfl, rfl, ρ, σ21, rfl, rfl, H⟩ | ⟨t26, rfl, rfl, ρ, σ27, rfl, rfl, H⟩)
  ·replace h := selim_l h
   refine q_then (c_seq (rg (st (v := (Sl As Ar Au)) (rv_move rfl) (st (v := (I (Ar.length : Int))) (rv_len Try.underlying41 rfl) ?_))))
   obtain ⟨r22, hx23, h'⟩ := bind_some h
   clear h
   have h := h'; clear h'
   have hc24 := c_spec_inRange hx23
   refine st_call (cx_call hc24 (ent_f hc24.fn rfl) hn0 (H.sel' [0] rfl rfl : Hp S0 σ0 _ ([] ++ _))) wn ?_
   rintro _ σ25 ⟨_, ⟨rfl, rfl⟩, H, -⟩
   replace H : Hp _ _ _ [_] := H
   refine st (v := (B r22)) (rv_assign rfl) (w_end (q_then (c_ret ?_)))
   obtain rfl := Option.some.inj h
   exact fin_ret (v := (B r22)) (results_ok Try.results67 (res_tmp (v := (B r22)) rfl res_nil) rfl) ⟨rfl, rfl⟩ (H.sel' [] rfl rfl)
  ·replace h := selim_r h
   refine q_then_r ?_
   obtain rfl := Option.some.inj h
   exact fin_ret (v := (B t26)) (results_ok Try.results67 (res_tmp (v := (B t26)) rfl res_nil) rfl) ⟨rfl, rfl⟩ (H.sel' [] rfl rfl)

theorem c_spec_toInt {Ay : Bool}  {r : Int} (h : M.spec_toInt Ay = some r) :
    Cal2 Try.prog 92 [(B Ay)] [] (fun n0 v L => v = (I r) ∧ L = []) := by
 refine cal2 (n := 4) Try.func92 rfl rfl rfl rfl ?_
 intro S0 σ0 n0 hn0 H
 unfold M.spec_toInt at h
 refine c_seq (rg (st (v := (I 0)) (rv_assign rfl) (w_end (q_then (c_seq (c_seq (rg (st (v := (B Ay)) (rv_move rfl) (w_end (q_then ?_))))))))))
 refine cd_cond Ay rfl (fun hb1 => ?_) (fun hb1 => ?_)
 ·replace h := bif_t hb1 h
  refine c_seq (rg (st (v := (I 1)) (rv_assign rfl) (w_end (q_then (c_ret (q_then_r ?_))))))
  obtain rfl := Option.some.inj h
  exact fin_ret (v := (I 1)) (results_ok Try.results92 (res_tmp (v := (I 1)) rfl res_nil) rfl) ⟨rfl, rfl⟩ (H.sel' [] rfl rfl)
 ·replace h := bif_f hb1 h
  refine c_skip (q_then (c_seq (rg (st (v := (I 0)) (rv_assign rfl) (w_end (q_then (c_ret ?_)))))))
  obtain rfl := Option.some.inj h
  exact fin_ret (v := (I 0)) (results_ok Try.results92 (res_tmp (v := (I 0)) rfl res_nil) rfl) ⟨rfl, rfl⟩ (H.sel' [] rfl rfl)

theorem c_spec_size {Ao : Int}  {r : Int} (h : M.spec_size Ao = some r) :
    Cal2 Try.prog 105 [(I Ao)] [] (fun n0 v L => v = (I r) ∧ L = []) := by
 refine cal2 (n := 7) Try.func105 rfl rfl rfl rfl ?_
 intro S0 σ0 n0 hn0 H
 unfold M.spec_size at h
 refine c_seq (rg (st (v := (I 0)) (rv_assign rfl) (w_end (q_then (c_seq (rg (st (v := (I Ao)) (rv_move rfl) (st (v := (I Ao)) (rv_move rfl) (st (v := (I (w64 (0 - Ao)))) (rv_neg (a := Ao) rfl) (st (v := (I (max Ao (w64 (0 - Ao))))) (rv_max rfl rfl) (st (v := (I (max Ao (w64 (0 - Ao))))) (rv_assign rfl) ?_)))))))))))
 refine w_end (q_then (c_ret ?_))
 obtain rfl := Option.some.inj h
 exact fin_ret (v := (I (max Ao (w64 (0 - Ao))))) (results_ok Try.results105 (res_tmp (v := (I (max Ao (w64 (0 - Ao))))) rfl res_nil) rfl) ⟨rfl, rfl⟩ (H.sel' [] rfl rfl)

theorem c_spec_dist {Az : Int} {Ba : List Int} {Bb : List Int} {Bc : Option Addr} {Bd : Nat} {Be : Option Addr} {Bf : Nat} {r : Int} (h : M.spec_dist Az Ba Bb = some r) :
    Cal2 Try.prog 82 [(I Az), (Sl Bc Ba Bd), (Sl Be Bb Bf)] [Ch.ro 0 (Sl Bc Ba Bd) Ba, Ch.ro 0 (Sl Be Bb Bf) Bb] (fun n0 v L => v = (I r) ∧ L = []) := by
 refine cal2 (n := 50) Try.func82 rfl rfl rfl rfl ?_
 intro S0 σ0 n0 hn0 H
 unfold M.spec_dist at h
 refine c_seq (rg (st (v := (I 0)) (rv_assign rfl) (w_end (q_then (c_seq (rg (st (v := (I 0)) (rv_assign rfl) (w_end (q_then (c_seq (c_seq ?_)))))))))))
 refine rg (st (v := (I 0)) (rv_assign rfl) (w_end (q_then ?_)))
 obtain ⟨o1, hj, h'⟩ := bind_some h
 clear h
 refine c_cut (fun e a w => e = .normal ∧ ∃ (ρ : Nat → Value) (σ : St), a = fr 50 (updL ρ [(7, (I o1))]) ∧ w = σ.w ∧ Hp S0 σ0 σ []) ?_ ?_
 ·clear h'
  rename _ = some o1 => h
  refine c_blk (wp_loopM _ h (fun s2 a w => ∃ (ρ : Nat → Value) (σ : St), a = fr 50 (updL ρ [(0, (I Az)), (1, (Sl Bc Ba Bd)), (2, (Sl Be Bb Bf)), (7, (I s2.1)), (8, (I s2.2))]) ∧ w = σ.w ∧ Hp S0 σ0 σ [Ch.ro 0 (Sl Bc Ba Bd) Ba, Ch.ro 0 (Sl Be Bb Bf) Bb]) ⟨_, σ0, fr_join ⟨rfl, rfl, rfl, rfl, rfl, trivial⟩, rfl, H.sel' [0, 1] rfl rfl⟩ ?_)
  clear h H
  rintro s2 a w o ⟨ρ, σ3, rfl, rfl, H⟩ h hres
  refine c_seq (c_seq (rg (st (v := (I s2.2)) (rv_move rfl) (st (v := (Sl Bc Ba Bd)) (rv_move rfl) (st (v := (I (Ba.length : Int))) (rv_len Try.underlying23 rfl) (st (v := (B (decide (s2.2 < (Ba.length : Int))))) (rv_lss (a := s2.2) (b := (Ba.length : Int)) rfl rfl) (w_end (q_then ?_))))))))
  refine cd_cond (decide (s2.2 < (Ba.length : Int))) rfl (fun hb4 => ?_) (fun hb4 => ?_)
  ·replace h := bif_t hb4 h
   refine c_skip (q_then (c_seq ?_))
   obtain ⟨o5, hj, h'⟩ := bind_some h
   clear h
   refine c_cut (fun e a w => e = .normal ∧ ∃ (ρ : Nat → Value) (σ : St), a = fr 50 (updL ρ [(0, (I Az)), (1, (Sl Bc Ba Bd)), (2, (Sl Be Bb Bf)), (7, (I o5)), (8, (I s2.2))]) ∧ w = σ.w ∧ Hp S0 σ0 σ [Ch.ro 0 (Sl Bc Ba Bd) Ba, Ch.ro 0 (Sl Be Bb Bf) Bb]) ?_ ?_
   ·clear h'
    rename _ = some o5 => h
    refine c_blk (c_seq ?_)
    refine rgP (σ := σ3) 8 (by kernel_rfl) (by kernel_rfl) (by kernel_rfl) ?_
    refine sq (v := (Sl Bc Ba Bd)) (rv_move rfl) (sq (v := (I s2.2)) (rv_move rfl) ?_)
    obtain ⟨x6, hx7, h'⟩ := bind_some h
    clear h
    have h := h'; clear h'
    obtain ⟨b9, o10, hi8, -⟩ := (H.ro 0 rfl).ix hx7
    refine sq (v := (pt b9 o10)) (rv_ix Try.underlying23 ti3 rfl rfl hi8) ?_
    have hc11 := ((H.ro 0 rfl).at hx7 hi8).int
    refine sq (v := (I x6)) (rv_load1 Try.underlying3 rfl rfl hc11) (sq (v := (Sl Be Bb Bf)) (rv_move rfl) (sq (v := (I s2.2)) (rv_move rfl) ?_))
    obtain ⟨x12, hx13, h'⟩ := bind_some h
    clear h
    have h := h'; clear h'
    obtain ⟨b15, o16, hi14, -⟩ := (H.ro 1 rfl).ix hx13
    refine sq (v := (pt b15 o16)) (rv_ix Try.underlying23 ti3 rfl rfl hi14) ?_
    have hc17 := ((H.ro 1 rfl).at hx13 hi14).int
    refine sq (v := (I x12)) (rv_load1 Try.underlying3 rfl rfl hc17) (sq_end ?_)
    intro σ18 hm19
    replace H := H.grow (hm19.mono fun _ h => h); clear hm19
    refine st (v := (I (w64 (x6 - x12)))) (rv_sub (a := x6) (b := x12) rfl rfl) ?_
    obtain ⟨r20, hx21, h'⟩ := bind_some h
    clear h
    have h := h'; clear h'
    have hc22 := c_spec_size hx21
    refine st_call (cx_call hc22 (ent_f hc22.fn rfl) hn0 (H.sel' [0, 1] rfl rfl : Hp S0 σ0 _ ([] ++ _))) wn ?_
    rintro _ σ23 ⟨_, ⟨rfl, rfl⟩, H, -⟩
    replace H : Hp _ _ _ [_, _] := H
    refine st (v := (I r20)) (rv_assign rfl) (w_end (q_then (c_seq (rg (st (v := (I Az)) (rv_move rfl) (w_end (q_then (c_blk (c_seq (rg (st (v := (B (Az == 1))) (rv_eql (a := Az) (b := 1) rfl rfl) ?_)))))))))))
    refine st (v := (B (Az == 1))) (rv_assign rfl) (w_end (q_then ?_))
    refine cd_cond (Az == 1) rfl (fun hb24 => ?_) (fun hb24 => ?_)
    ·replace h := bif_t hb24 h
     refine rg (st (v := (I s2.1)) (rv_move rfl) (st (v := (I r20)) (rv_move rfl) (st (v := (I (w64 (s2.1 + r20)))) (rv_add (a := s2.1) (b := r20) rfl rfl) (st (v := (I (w64 (s2.1 + r20)))) (rv_assign rfl) (w_end (q_blk (q_blk ?_)))))))
     obtain rfl := Option.some.inj h
     exact ⟨rfl, _, σ23, fr_join ⟨rfl, rfl, rfl, rfl, rfl, trivial⟩, rfl, H.sel' [0, 1] rfl rfl⟩
    ·replace h := bif_f hb24 h
     refine c_seq (rg (st (v := (B (Az == 2))) (rv_eql (a := Az) (b := 2) rfl rfl) (st (v := (B (Az == 2))) (rv_assign rfl) (w_end (q_then ?_)))))
     refine cd_cond (Az == 2) rfl (fun hb25 => ?_) (fun hb25 => ?_)
     ·replace h := bif_t hb25 h
      refine rg (st (v := (I s2.1)) (rv_move rfl) (st (v := (I r20)) (rv_move rfl) (st (v := (I (max s2.1 r20))) (rv_max rfl rfl) (st (v := (I (max s2.1 r20))) (rv_assign rfl) (w_end (q_blk (q_blk ?_)))))))
      obtain rfl := Option.some.inj h
      exact ⟨rfl, _, σ23, fr_join ⟨rfl, rfl, rfl, rfl, rfl, trivial⟩, rfl, H.sel' [0, 1] rfl rfl⟩
     ·replace h := bif_f hb25 h
      refine c_seq (rg (st (v := (B (Az == 3))) (rv_eql (a := Az) (b := 3) rfl rfl) (st (v := (B (Az == 3))) (rv_assign rfl) (w_end (q_then ?_)))))
      refine cd_cond (Az == 3) rfl (fun hb26 => ?_) (fun hb26 => ?_)
      ·replace h := bif_t hb26 h
       refine rg (st (v := (I s2.1)) (rv_move rfl) (st (v := (I r20)) (rv_move rfl) (st (v := (I r20)) (rv_move rfl) (st (v := (I (w64 (r20 * r20)))) (rv_mul (a := r20) (b := r20) rfl rfl) (st (v := (I (w64 (s2.1 + (w64 (r20 * r20)))))) (rv_add (a := s2.1) (b := (w64 (r20 * r20))) rfl rfl) (st (v := (I (w64 (s2.1 + (w64 (r20 * r20)))))) (rv_assign rfl) (w_end (q_blk (q_blk ?_)))))))))
       obtain rfl := Option.some.inj h
       exact ⟨rfl, _, σ23, fr_join ⟨rfl, rfl, rfl, rfl, rfl, trivial⟩, rfl, H.sel' [0, 1] rfl rfl⟩
      ·replace h := bif_f hb26 h
       refine rg (st (v := (I s2.1)) (rv_move rfl) (st (v := (I r20)) (rv_move rfl) (st (v := (B (decide (0 < r20)))) (rv_gtr (a := r20) (b := 0) rfl rfl) ?_)))
       obtain ⟨r27, hx28, h'⟩ := bind_some h
       clear h
       have h := h'; clear h'
       have hc29 := c_spec_toInt hx28
       refine st_call (cx_call hc29 (ent_f hc29.fn rfl) hn0 (H.sel' [0, 1] rfl rfl : Hp S0 σ0 _ ([] ++ _))) wn ?_
       rintro _ σ30 ⟨_, ⟨rfl, rfl⟩, H, -⟩
       replace H : Hp _ _ _ [_, _] := H
       refine st (v := (I (w64 (s2.1 + r27)))) (rv_add (a := s2.1) (b := r27) rfl rfl) (st (v := (I (w64 (s2.1 + r27)))) (rv_assign rfl) (w_end (q_blk (q_blk ?_))))
       obtain rfl := Option.some.inj h
       exact ⟨rfl, _, σ30, fr_join ⟨rfl, rfl, rfl, rfl, rfl, trivial⟩, rfl, H.sel' [0, 1] rfl rfl⟩
   ·clear hj
    have h := h'
    clear h' H
    rintro e a w ⟨rfl, ρ, σ31, rfl, rfl, H⟩
    refine q_then (rg (st (v := (I s2.2)) (rv_move rfl) (st (v := (I (w64 (s2.2 + 1)))) (rv_add (a := s2.2) (b := 1) rfl rfl) (st (v := (I (w64 (s2.2 + 1)))) (rv_assign rfl) (w_end (q_then ?_))))))
    obtain rfl := Option.some.inj h
    exact ⟨_, rfl, _, σ31, fr_join ⟨rfl, rfl, rfl, rfl, rfl, trivial⟩, rfl, H.sel' [0, 1] rfl rfl⟩
  ·replace h := bif_f hb4 h
   refine c_exit (q_then_x (q_then_x (q_blk_hit ?_)))
   obtain rfl := Option.some.inj h
   obtain rfl := hres _ rfl
   exact ⟨rfl, _, σ3, fr_join ⟨rfl, trivial⟩, rfl, H.sel' [] rfl rfl⟩
 ·clear hj
  have h := h'
  clear h' H
  rintro e a w ⟨rfl, ρ, σ32, rfl, rfl, H⟩
  refine q_then (c_seq (rg (st (v := (I o1)) (rv_move rfl) (st (v := (I o1)) (rv_assign rfl) (w_end (q_then (c_ret ?_)))))))
  obtain rfl := Option.some.inj h
  exact fin_ret (v := (I o1)) (results_ok Try.results82 (res_tmp (v := (I o1)) rfl res_nil) rfl) ⟨rfl, rfl⟩ (H.sel' [] rfl rfl)

theorem c_spec_centreOf {Bg : List (List Int)} {Bh : List Int} {Bi : Option Addr} {Bj : Nat} {Bk : Option Addr} {Bl : Nat} {r : Int} (h : M.spec_centreOf Bg Bh = some r) :
    Cal2 Try.prog 70 [(Sl Bi Bg Bj), (Sl Bk Bh Bl)] [Ch.ro 0 (Sl Bi Bg Bj) Bg, Ch.ro 0 (Sl Bk Bh Bl) Bh] (fun n0 v L => v = (I r) ∧ L = []) := by
 refine cal2 (n := 28) Try.func70 rfl rfl rfl rfl ?_
 intro S0 σ0 n0 hn0 H
 unfold M.spec_centreOf at h
 refine c_seq (rg (st (v := (I 0)) (rv_assign rfl) (w_end (q_then (c_seq (rg (st (v := (I 0)) (rv_assign rfl) (w_end (q_then (c_seq (c_seq ?_)))))))))))
 refine rg (st (v := (I 1)) (rv_assign rfl) (w_end (q_then ?_)))
 obtain ⟨o1, hj, h'⟩ := bind_some h
 clear h
 refine c_cut (fun e a w => e = .normal ∧ ∃ (ρ : Nat → Value) (σ : St), a = fr 28 (updL ρ [(5, (I o1))]) ∧ w = σ.w ∧ Hp S0 σ0 σ []) ?_ ?_
 ·clear h'
  rename _ = some o1 => h
  refine c_blk (wp_loopM _ h (fun s2 a w => ∃ (ρ : Nat → Value) (σ : St), a = fr 28 (updL ρ [(0, (Sl Bi Bg Bj)), (1, (Sl Bk Bh Bl)), (5, (I s2.1)), (6, (I s2.2))]) ∧ w = σ.w ∧ Hp S0 σ0 σ [Ch.ro 0 (Sl Bi Bg Bj) Bg, Ch.ro 0 (Sl Bk Bh Bl) Bh]) ⟨_, σ0, fr_join ⟨rfl, rfl, rfl, rfl, trivial⟩, rfl, H.sel' [0, 1] rfl rfl⟩ ?_)
  clear h H
  rintro s2 a w o ⟨ρ, σ3, rfl, rfl, H⟩ h hres
  refine c_seq (c_seq (rg (st (v := (I s2.2)) (rv_move rfl) (st (v := (Sl Bi Bg Bj)) (rv_move rfl) (st (v := (I (Bg.length : Int))) (rv_len Try.underlying41 rfl) (st (v := (B (decide (s2.2 < (Bg.length : Int))))) (rv_lss (a := s2.2) (b := (Bg.length : Int)) rfl rfl) (w_end (q_then ?_))))))))
  refine cd_cond (decide (s2.2 < (Bg.length : Int))) rfl (fun hb4 => ?_) (fun hb4 => ?_)
  ·replace h := bif_t hb4 h
   refine c_skip (q_then (c_seq ?_))
   obtain ⟨o5, hj, h'⟩ := bind_some h
   clear h
   refine c_cut (fun e a w => e = .normal ∧ ∃ (ρ : Nat → Value) (σ : St), a = fr 28 (updL ρ [(0, (Sl Bi Bg Bj)), (1, (Sl Bk Bh Bl)), (5, (I o5)), (6, (I s2.2))]) ∧ w = σ.w ∧ Hp S0 σ0 σ [Ch.ro 0 (Sl Bi Bg Bj) Bg, Ch.ro 0 (Sl Bk Bh Bl) Bh]) ?_ ?_
   ·clear h'
    rename _ = some o5 => h
    refine c_blk (c_seq ?_)
    obtain ⟨x6, hx7, h'⟩ := bind_some h
    clear h
    have h := h'; clear h'
    obtain ⟨b9, o10, hi8, -⟩ := (H.ro 0 rfl).ix hx7
    obtain ⟨v14, hc15, hR13⟩ := ((H.ro 0 rfl).at hx7 hi8).slice
    obtain ⟨a11, c12, rfl⟩ := hR13.isSl
    replace H := H.add (d := Ch.ro 0 (Sl a11 x6 c12) x6) hR13 (fun _ h => h)
    clear hR13
    obtain ⟨r16, hx17, h'⟩ := bind_some h
    clear h
    have h := h'; clear h'
    have hc18 := c_spec_dist (Bc := a11) (Bd := c12) (Be := Bk) (Bf := Bl) hx17
    obtain ⟨x19, hx20, h'⟩ := bind_some h
    clear h
    have h := h'; clear h'
    obtain ⟨b22, o23, hi21, -⟩ := (H.ro 1 rfl).ix hx20
    obtain ⟨v27, hc28, hR26⟩ := ((H.ro 1 rfl).at hx20 hi21).slice
    obtain ⟨a24, c25, rfl⟩ := hR26.isSl
    replace H := H.add (d := Ch.ro 0 (Sl a24 x19 c25) x19) hR26 (fun _ h => h)
    clear hR26
    have Hs := H
    refine rg2 (σ := σ3) (Nm := Unit) 11 [5] [[false], [true]] [[(0, 0)], [(0, 0)], [(0, 0)], [(0, 0)], [(0, 0)], [(0, 1)], [(0, 0), (1, 1)], [(0, 0), (1, 1)], [(0, 0), (1, 1)], [(0, 0), (1, 1)], [(0, 0), (1, 1)]] 1 [fun _ => fun σm => Hp S0 σ0 σm [Ch.ro 0 (Sl a24 x19 c25) x19, Ch.ro 0 (Sl a11 x6 c12) x6, Ch.ro 0 (Sl Bi Bg Bj) Bg, Ch.ro 0 (Sl Bk Bh Bl) Bh] ∧ Md (cov []) σ3 σm, fun _ => fun σm => Hp S0 σ0 σm [Ch.ro 0 (Sl a24 x19 c25) x19, Ch.ro 0 (Sl a11 x6 c12) x6, Ch.ro 0 (Sl Bi Bg Bj) Bg, Ch.ro 0 (Sl Bk Bh Bl) Bh] ∧ Md (cov []) σ3 σm] [fun _ => (Sl Bi Bg Bj), fun _ => (I s2.2), fun _ => (pt b9 o10), fun _ => (Sl a11 x6 c12), fun _ => (Sl Bk Bh Bl), fun _ => (I r16), fun _ => (Sl Bi Bg Bj), fun _ => (I s2.1), fun _ => (pt b22 o23), fun _ => (Sl a24 x19 c25), fun _ => (Sl Bk Bh Bl)] () (by kernel_rfl) (by kernel_rfl) ?_ ?_ ?_
    ·intro σm m0
     exact ⟨H.grow (m0.mono fun _ h => h.elim), m0⟩
    ·refine ac rfl (by
       intro k _nm ρ σm hJ hoff hdep
       have e0 := look_off (N := 28) (hoff 0 rfl) rfl
       exact dp_v (v := (Sl Bi Bg Bj)) wn (rv_move e0) rfl hJ) ?_
     refine ac rfl (by
       intro k _nm ρ σm hJ hoff hdep
       have e6 := look_off (N := 28) (hoff 6 rfl) rfl
       exact dp_v (v := (I s2.2)) wn (rv_move e6) rfl hJ) ?_
     refine ac rfl (by
       intro k _nm ρ σm hJ hoff hdep
       have e13 := hdep 0 rfl rfl 13 rfl
       have e14 := hdep 1 rfl rfl 14 rfl
       exact dp_v (v := (pt b9 o10)) wn (rv_ix Try.underlying41 ti23 e13 e14 hi8) rfl hJ) ?_
     refine all_cons (by
       refine ⟨?_, ?_⟩
       ·intro _nm ρ σm hJ hoff hdep
        have e15 := hdep 2 rfl rfl 15 rfl
        obtain ⟨H, m⟩ := id hJ
        replace hc15 := (Hs.ro 2 rfl).hmd hx7 hi8 (k := 0) (by decide) hc15 m
        exact dp_v (v := (Sl a11 x6 c12)) wn (rv_load1 Try.underlying23 rfl e15 hc15) rfl hJ
       trivial) ?_
     refine ac rfl (by
       intro k _nm ρ σm hJ hoff hdep
       have e1 := look_off (N := 28) (hoff 1 rfl) rfl
       exact dp_v (v := (Sl Bk Bh Bl)) wn (rv_move e1) rfl hJ) ?_
     refine all_cons (by
       refine ⟨?_, ?_⟩
       ·intro _nm ρ σm hJ hoff hdep
        have e16 : look 28 ρ 16 = (Sl a11 x6 c12) := hdep 3 rfl rfl 16 rfl
        have e17 : look 28 ρ 17 = (Sl Bk Bh Bl) := hdep 4 rfl rfl 17 rfl
        obtain ⟨H, m⟩ := id hJ
        refine dp_cx wn (cx_call hc18 (ent_f hc18.fn (by show [(I 3), look 28 ρ 16, look 28 ρ 17] = _; rw [e16, e17])) hn0 (H.sel' [1, 3, 0, 1, 2, 3] rfl rfl : Hp S0 σ0 _ ([_, _] ++ _))) ?_
        rintro _ σq ⟨_, ⟨rfl, rfl⟩, H2, m2⟩
        exact ⟨_, (), rfl, rfl, ⟨H2.sel' [0, 1, 2, 3] rfl rfl, m.comp0 (m2.mono (fun i h => by simp [cov, Ch.ro] at h))⟩, stab [0, 1, 2, 3, 4, 6, 7, 8, 9, 10] (by kernel_rfl) ⟨rfl, rfl, rfl, rfl, rfl, rfl, rfl, rfl, rfl, rfl, trivial⟩⟩
       trivial) ?_
     refine ac rfl (by
       intro k _nm ρ σm hJ hoff hdep
       have e0 := look_off (N := 28) (hoff 0 rfl) rfl
       exact dp_v (v := (Sl Bi Bg Bj)) wn (rv_move e0) rfl hJ) ?_
     refine ac rfl (by
       intro k _nm ρ σm hJ hoff hdep
       have e5 := look_off (N := 28) (hoff 5 rfl) rfl
       exact dp_v (v := (I s2.1)) wn (rv_move e5) rfl hJ) ?_
     refine ac rfl (by
       intro k _nm ρ σm hJ hoff hdep
       have e19 := hdep 6 rfl rfl 19 rfl
       have e20 := hdep 7 rfl rfl 20 rfl
       exact dp_v (v := (pt b22 o23)) wn (rv_ix Try.underlying41 ti23 e19 e20 hi21) rfl hJ) ?_
     refine all_cons (by
       refine ⟨?_, ?_⟩
       ·intro _nm ρ σm hJ hoff hdep
        have e21 := hdep 8 rfl rfl 21 rfl
        obtain ⟨H, m⟩ := id hJ
        replace hc28 := (Hs.ro 2 rfl).hmd hx20 hi21 (k := 0) (by decide) hc28 m
        exact dp_v (v := (Sl a24 x19 c25)) wn (rv_load1 Try.underlying23 rfl e21 hc28) rfl hJ
       refine ⟨?_, ?_⟩
       ·intro _nm ρ σm hJ hoff hdep
        have e21 := hdep 8 rfl rfl 21 rfl
        obtain ⟨H, m⟩ := id hJ
        replace hc28 := (Hs.ro 2 rfl).hmd hx20 hi21 (k := 0) (by decide) hc28 m
        exact dp_v (v := (Sl a24 x19 c25)) wn (rv_load1 Try.underlying23 rfl e21 hc28) rfl hJ
       trivial) ?_
     refine ac rfl (by
       intro k _nm ρ σm hJ hoff hdep
       have e1 := look_off (N := 28) (hoff 1 rfl) rfl
       exact dp_v (v := (Sl Bk Bh Bl)) wn (rv_move e1) rfl hJ) ?_
     exact all_nil
    ·intro _nm ρ σ29 hJ hoff hrel
     have e0 := look_off (N := 28) (hoff 0 rfl) rfl
     have e1 := look_off (N := 28) (hoff 1 rfl) rfl
     have e5 := look_off (N := 28) (hoff 5 rfl) rfl
     have e6 := look_off (N := 28) (hoff 6 rfl) rfl
     have e18 := hrel 5 rfl 18 rfl
     have e22 := hrel 9 rfl 22 rfl
     have e23 := hrel 10 rfl 23 rfl
     obtain ⟨H, -⟩ := (show Hp S0 σ0 σ29 [Ch.ro 0 (Sl a24 x19 c25) x19, Ch.ro 0 (Sl a11 x6 c12) x6, Ch.ro 0 (Sl Bi Bg Bj) Bg, Ch.ro 0 (Sl Bk Bh Bl) Bh] ∧ Md (cov []) σ3 σ29 from hJ)
     clear hJ Hs
     rw [fr_lookL (L := [(0, (Sl Bi Bg Bj)), (1, (Sl Bk Bh Bl)), (5, (I s2.1)), (6, (I s2.2)), (18, (I r16)), (22, (Sl a24 x19 c25)), (23, (Sl Bk Bh Bl))]) ⟨e0, e1, e5, e6, e18, e22, e23, trivial⟩]
     clear hoff hrel e0 e1 e5 e6 e18 e22 e23
     obtain ⟨r30, hx31, h'⟩ := bind_some h
     clear h
     have h := h'; clear h'
     have hc32 := c_spec_dist (Bc := a24) (Bd := c25) (Be := Bk) (Bf := Bl) hx31
     refine st_call (cx_call hc32 (ent_f hc32.fn rfl) hn0 (H.sel' [0, 3, 0, 1, 2, 3] rfl rfl : Hp S0 σ0 _ ([_, _] ++ _))) wn ?_
     rintro _ σ33 ⟨_, ⟨rfl, rfl⟩, H, -⟩
     replace H : Hp _ _ _ [_, _, _, _] := H
     refine st (v := (B (decide (r16 < r30)))) (rv_lss (a := r16) (b := r30) rfl rfl) (w_end (q_then ?_))
     refine cd_cond (decide (r16 < r30)) rfl (fun hb34 => ?_) (fun hb34 => ?_)
     ·replace h := bif_t hb34 h
      refine rg (st (v := (I s2.2)) (rv_move rfl) (st (v := (I s2.2)) (rv_assign rfl) (w_end (q_blk ?_))))
      obtain rfl := Option.some.inj h
      exact ⟨rfl, _, σ33, fr_join ⟨rfl, rfl, rfl, rfl, trivial⟩, rfl, H.sel' [2, 3] rfl rfl⟩
     ·replace h := bif_f hb34 h
      refine c_skip (q_blk ?_)
      obtain rfl := Option.some.inj h
      exact ⟨rfl, _, σ33, fr_join ⟨rfl, rfl, rfl, rfl, trivial⟩, rfl, H.sel' [2, 3] rfl rfl⟩
   ·clear hj
    have h := h'
    clear h' H
    rintro e a w ⟨rfl, ρ, σ35, rfl, rfl, H⟩
    refine q_then (rg (st (v := (I s2.2)) (rv_move rfl) (st (v := (I (w64 (s2.2 + 1)))) (rv_add (a := s2.2) (b := 1) rfl rfl) (st (v := (I (w64 (s2.2 + 1)))) (rv_assign rfl) (w_end (q_then ?_))))))
    obtain rfl := Option.some.inj h
    exact ⟨_, rfl, _, σ35, fr_join ⟨rfl, rfl, rfl, rfl, trivial⟩, rfl, H.sel' [0, 1] rfl rfl⟩
  ·replace h := bif_f hb4 h
   refine c_exit (q_then_x (q_then_x (q_blk_hit ?_)))
   obtain rfl := Option.some.inj h
   obtain rfl := hres _ rfl
   exact ⟨rfl, _, σ3, fr_join ⟨rfl, trivial⟩, rfl, H.sel' [] rfl rfl⟩
 ·clear hj
  have h := h'
  clear h' H
  rintro e a w ⟨rfl, ρ, σ36, rfl, rfl, H⟩
  refine q_then (c_seq (rg (st (v := (I o1)) (rv_move rfl) (st (v := (I o1)) (rv_assign rfl) (w_end (q_then (c_ret ?_)))))))
  obtain rfl := Option.some.inj h
  exact fin_ret (v := (I o1)) (results_ok Try.results70 (res_tmp (v := (I o1)) rfl res_nil) rfl) ⟨rfl, rfl⟩ (H.sel' [] rfl rfl)

theorem c_spec_nearer {Aa : Int × Int} {Ah : Int × Int}  {r : Bool} (h : M.spec_nearer Aa Ah = some r) :
    Cal2 Try.prog 112 [(.agg #[(I Aa.1), (I Aa.2)]), (.agg #[(I Ah.1), (I Ah.2)])] [] (fun n0 v L => v = (B r) ∧ L = []) := by
 refine cal2 (n := 24) Try.func112 rfl rfl rfl rfl ?_
 intro S0 σ0 n0 hn0 H
 unfold M.spec_nearer at h
 refine c_seq (rg (st_ex (ex_box (cs := [(I Aa.1), (I Aa.2)]) H hn0 rfl rfl) wn ?_))
 rintro _ σ2 ⟨b1, rfl, H, -⟩
 refine st_ex (ex_box (cs := [(I Ah.1), (I Ah.2)]) H hn0 rfl rfl) wn ?_
 rintro _ σ4 ⟨b3, rfl, H, -⟩
 refine st (v := (B false)) (rv_assign rfl) (w_end (q_then (c_seq (rg (st (v := (pt b1 1)) (rv_fieldAddr (off := 1) (ft := 3) Try.underlying99 rfl ti3 rfl rfl) ?_)))))
 have hc5 := H.cell (u := (I Aa.2)) (o' := 1) 1 1 rfl rfl rfl
 refine st (v := (I Aa.2)) (rv_load1 Try.underlying3 rfl rfl hc5) (st (v := (pt b3 1)) (rv_fieldAddr (off := 1) (ft := 3) Try.underlying99 rfl ti3 rfl rfl) ?_)
 have hc6 := H.cell (u := (I Ah.2)) (o' := 1) 0 1 rfl rfl rfl
 refine st (v := (I Ah.2)) (rv_load1 Try.underlying3 rfl rfl hc6) (st (v := (B (decide (Aa.2 < Ah.2)))) (rv_lss (a := Aa.2) (b := Ah.2) rfl rfl) (st (v := (B (decide (Aa.2 < Ah.2)))) (rv_move rfl) ?_))
 rcases Bool.eq_false_or_eq_true (decide (Aa.2 < Ah.2)) with hb7 | hb7
 ·replace h := bif_t hb7 h
  refine st_skip (congrArg some hb7) (st_skip (congrArg some hb7) (st_skip (congrArg some hb7) (st_skip (congrArg some hb7) (st_skip (congrArg some hb7) (st_skip (congrArg some hb7) (st_skip_u rfl (st_skip_u rfl (st_skip_u rfl (st_skip_u rfl (st_skip_u rfl (st_skip (congrArg some hb7) ?_)))))))))))
  refine st (v := (B true)) (rv_pick_t (congrArg B hb7) rfl) (st (v := (B true)) (rv_assign rfl) (w_end (q_then (c_ret ?_))))
  obtain rfl := Option.some.inj h
  exact fin_ret (v := (B true)) (results_ok Try.results112 (res_tmp (v := (B true)) rfl res_nil) rfl) ⟨rfl, rfl⟩ (H.sel' [] rfl rfl)
 ·replace h := bif_f hb7 h
  refine st_g (v := (pt b1 1)) (congrArg some hb7) (rv_fieldAddr (off := 1) (ft := 3) Try.underlying99 rfl ti3 rfl rfl) ?_
  have hc8 := H.cell (u := (I Aa.2)) (o' := 1) 1 1 rfl rfl rfl
  refine st_g (v := (I Aa.2)) (congrArg some hb7) (rv_load1 Try.underlying3 rfl rfl hc8) (st_g (v := (pt b3 1)) (congrArg some hb7) (rv_fieldAddr (off := 1) (ft := 3) Try.underlying99 rfl ti3 rfl rfl) ?_)
  have hc9 := H.cell (u := (I Ah.2)) (o' := 1) 0 1 rfl rfl rfl
  refine st_g (v := (I Ah.2)) (congrArg some hb7) (rv_load1 Try.underlying3 rfl rfl hc9) (st_g (v := (B (Aa.2 == Ah.2))) (congrArg some hb7) (rv_eql (a := Aa.2) (b := Ah.2) rfl rfl) (st_g (v := (B (Aa.2 == Ah.2))) (congrArg some hb7) (rv_move rfl) ?_))
  rcases Bool.eq_false_or_eq_true (Aa.2 == Ah.2) with hb10 | hb10
  ·replace h := bif_t hb10 h
   refine st_g (v := (pt b1 0)) (congrArg some hb10) (rv_fieldAddr (off := 0) (ft := 3) Try.underlying99 rfl ti3 rfl rfl) ?_
   have hc11 := H.cell (u := (I Aa.1)) (o' := 0) 1 0 rfl rfl rfl
   refine st_g (v := (I Aa.1)) (congrArg some hb10) (rv_load1 Try.underlying3 rfl rfl hc11) (st_g (v := (pt b3 0)) (congrArg some hb10) (rv_fieldAddr (off := 0) (ft := 3) Try.underlying99 rfl ti3 rfl rfl) ?_)
   have hc12 := H.cell (u := (I Ah.1)) (o' := 0) 0 0 rfl rfl rfl
   refine st_g (v := (I Ah.1)) (congrArg some hb10) (rv_load1 Try.underlying3 rfl rfl hc12) (st_g (v := (B (decide (Aa.1 < Ah.1)))) (congrArg some hb10) (rv_lss (a := Aa.1) (b := Ah.1) rfl rfl) (st_g (v := (B (decide (Aa.1 < Ah.1)))) (congrArg some hb7) (rv_pick_t (congrArg B hb10) rfl) (st (v := (B (decide (Aa.1 < Ah.1)))) (rv_pick_f (congrArg B hb7) rfl) (st (v := (B (decide (Aa.1 < Ah.1)))) (rv_assign rfl) (w_end (q_then (c_ret ?_)))))))
   obtain rfl := Option.some.inj h
   exact fin_ret (v := (B (decide (Aa.1 < Ah.1)))) (results_ok Try.results112 (res_tmp (v := (B (decide (Aa.1 < Ah.1)))) rfl res_nil) rfl) ⟨rfl, rfl⟩ (H.sel' [] rfl rfl)
  ·replace h := bif_f hb10 h
   refine st_skip (congrArg some hb10) (st_skip (congrArg some hb10) (st_skip (congrArg some hb10) (st_skip (congrArg some hb10) (st_skip (congrArg some hb10) (st_g (v := (B false)) (congrArg some hb7) (rv_pick_f (congrArg B hb10) rfl) (st (v := (B false)) (rv_pick_f (congrArg B hb7) rfl) (st (v := (B false)) (rv_assign rfl) (w_end (q_then (c_ret ?_))))))))))
   obtain rfl := Option.some.inj h
   exact fin_ret (v := (B false)) (results_ok Try.results112 (res_tmp (v := (B false)) rfl res_nil) rfl) ⟨rfl, rfl⟩ (H.sel' [] rfl rfl)

theorem c_spec_addHit {Ar : List (Int × Int)} {Bm : Int × Int} {Bn : Int} {As : Option Addr} {Au : Nat} {r : (List (Int × Int))} (h : M.spec_addHit Ar Bm Bn = some r) :
    Cal2 Try.prog 106 [(Sl As Ar Au), (.agg #[(I Bm.1), (I Bm.2)]), (I Bn)] [Ch.ro 0 (Sl As Ar Au) Ar] (fun n0 v L => ∃ (az1 : Option Addr), ∃ (cz2 : Nat), v = (Sl az1 r cz2) ∧ L = [Ch.own n0 n0 (Sl az1 r cz2) r]) := by
 refine cal2 (n := 58) Try.func106 rfl rfl rfl rfl ?_
 intro S0 σ0 n0 hn0 H
 unfold M.spec_addHit at h
 refine c_seq (rg (st_ex (ex_box (cs := [(I Bm.1), (I Bm.2)]) H hn0 rfl rfl) wn ?_))
 rintro _ σ2 ⟨b1, rfl, H, -⟩
 refine st (v := (.slice none 0 0)) (rv_assign rfl) (w_end (q_then (c_seq ?_)))
 obtain ⟨xs4, hx5, h'⟩ := bind_some h
 clear h
 have h := h'; clear h'
 have hc8 := H.cells 0 rfl
 have Hs := H
 refine rg2 (σ := σ2) (Nm := (Nat) × (Option Addr) × (Nat) × (Nat)) 5 [0, 2, 4] [[false, false, false], [true, false, false], [false, false, true], [true, true, false], [true, false, true], [true, true, true]] [[(0, 1), (2, 4)], [(0, 0), (1, 1), (2, 2), (4, 4)], [(1, 3), (4, 5)], [(0, 0), (1, 1), (3, 3)], [(0, 2), (1, 4), (3, 5)]] 5 [fun ((b3, a6, c7, b9) : (Nat) × (Option Addr) × (Nat) × (Nat)) => fun σm => Hp S0 σ0 σm [Ch.bx n0 b1 0 [(I Bm.1), (I Bm.2)] [] [], Ch.ro 0 (Sl As Ar Au) Ar] ∧ Md (cov []) σ2 σm, fun ((b3, a6, c7, b9) : (Nat) × (Option Addr) × (Nat) × (Nat)) => fun σm => Hp S0 σ0 σm [Ch.own n0 n0 (Sl (some ⟨b3, 0, none⟩) ([] : List (Int × Int)) 0) ([] : List (Int × Int)), Ch.bx n0 b1 0 [(I Bm.1), (I Bm.2)] [] [], Ch.ro 0 (Sl As Ar Au) Ar] ∧ Md (cov []) σ2 σm, fun ((b3, a6, c7, b9) : (Nat) × (Option Addr) × (Nat) × (Nat)) => fun σm => Hp S0 σ0 σm [Ch.own n0 n0 (Sl (some ⟨b9, 0, none⟩) ([(Bm.1, Bm.2)] : List (Int × Int)) 1) ([(Bm.1, Bm.2)] : List (Int × Int)), Ch.bx n0 b1 0 [(I Bm.1), (I Bm.2)] [] [], Ch.ro 0 (Sl As Ar Au) Ar] ∧ Md (cov []) σ2 σm, fun ((b3, a6, c7, b9) : (Nat) × (Option Addr) × (Nat) × (Nat)) => fun σm => Hp S0 σ0 σm [Ch.own n0 n0 (Sl a6 xs4 c7) xs4, Ch.bx n0 b1 0 [(I Bm.1), (I Bm.2)] [] [], Ch.ro 0 (Sl As Ar Au) Ar] ∧ Md (fun i => (cov []) i ∨ (fun b => blk (Sl (some ⟨b3, 0, none⟩) ([] : List (Int × Int)) 0) = some b) i) σ2 σm, fun ((b3, a6, c7, b9) : (Nat) × (Option Addr) × (Nat) × (Nat)) => fun σm => Hp S0 σ0 σm [Ch.own n0 n0 (Sl (some ⟨b9, 0, none⟩) ([(Bm.1, Bm.2)] : List (Int × Int)) 1) ([(Bm.1, Bm.2)] : List (Int × Int)), Ch.own n0 n0 (Sl (some ⟨b3, 0, none⟩) ([] : List (Int × Int)) 0) ([] : List (Int × Int)), Ch.bx n0 b1 0 [(I Bm.1), (I Bm.2)] [] [], Ch.ro 0 (Sl As Ar Au) Ar] ∧ Md (cov []) σ2 σm, fun ((b3, a6, c7, b9) : (Nat) × (Option Addr) × (Nat) × (Nat)) => fun σm => Hp S0 σ0 σm [Ch.own n0 n0 (Sl (some ⟨b9, 0, none⟩) ([(Bm.1, Bm.2)] : List (Int × Int)) 1) ([(Bm.1, Bm.2)] : List (Int × Int)), Ch.own n0 n0 (Sl a6 xs4 c7) xs4, Ch.bx n0 b1 0 [(I Bm.1), (I Bm.2)] [] [], Ch.ro 0 (Sl As Ar Au) Ar] ∧ Md (fun i => (cov []) i ∨ (fun b => blk (Sl (some ⟨b3, 0, none⟩) ([] : List (Int × Int)) 0) = some b) i) σ2 σm] [fun ((b3, a6, c7, b9) : (Nat) × (Option Addr) × (Nat) × (Nat)) => (Sl (some ⟨b3, 0, none⟩) ([] : List (Int × Int)) 0), fun ((b3, a6, c7, b9) : (Nat) × (Option Addr) × (Nat) × (Nat)) => (Sl As Ar Au), fun ((b3, a6, c7, b9) : (Nat) × (Option Addr) × (Nat) × (Nat)) => (Sl a6 xs4 c7), fun ((b3, a6, c7, b9) : (Nat) × (Option Addr) × (Nat) × (Nat)) => (.agg #[(I Bm.1), (I Bm.2)]), fun ((b3, a6, c7, b9) : (Nat) × (Option Addr) × (Nat) × (Nat)) => (Sl (some ⟨b9, 0, none⟩) ([(Bm.1, Bm.2)] : List (Int × Int)) 1)] (0, none, 0, 0) (by kernel_rfl) (by kernel_rfl) ?_ ?_ ?_
 ·intro σm m0
  exact ⟨H.grow (m0.mono fun _ h => h.elim), m0⟩
 ·refine all_cons (by
    refine ⟨?_, ?_⟩
    ·rintro ⟨b3, a6, c7, b9⟩ ρ σm hJ hoff hdep
     obtain ⟨H, m⟩ := id hJ
     refine dp_ex wn (ex_buildSlice (el := n0) (xs := ([] : List (Int × Int))) (ps := []) (cs := []) H hn0 Try.underlying96 ti99 rfl rfl (by kernel_rfl) (.nil) rfl) ?_
     rintro _ σq ⟨b3x, rfl, H2, m2⟩
     exact ⟨_, (b3x, a6, c7, b9), rfl, rfl, ⟨H2.sel' [0, 1, 2] rfl rfl, m.comp0 m2⟩, stab [1, 3, 4] (by kernel_rfl) ⟨rfl, rfl, rfl, trivial⟩⟩
    refine ⟨?_, ?_⟩
    ·rintro ⟨b3, a6, c7, b9⟩ ρ σm hJ hoff hdep
     obtain ⟨H, m⟩ := id hJ
     refine dp_ex wn (ex_buildSlice (el := n0) (xs := ([] : List (Int × Int))) (ps := []) (cs := []) H hn0 Try.underlying96 ti99 rfl rfl (by kernel_rfl) (.nil) rfl) ?_
     rintro _ σq ⟨b3x, rfl, H2, m2⟩
     exact ⟨_, (b3x, a6, c7, b9), rfl, rfl, ⟨H2.sel' [1, 0, 2, 3] rfl rfl, m.comp0 m2⟩, stab [1, 3, 4] (by kernel_rfl) ⟨rfl, rfl, rfl, trivial⟩⟩
    trivial) ?_
  refine ac rfl (by
    intro k; rintro ⟨b3, a6, c7, b9⟩ ρ σm hJ hoff hdep
    have e0 := look_off (N := 58) (hoff 0 rfl) rfl
    exact dp_v (v := (Sl As Ar Au)) wn (rv_move e0) rfl hJ) ?_
  refine all_cons (by
    refine ⟨?_, ?_⟩
    ·rintro ⟨b3, a6, c7, b9⟩ ρ σm hJ hoff hdep
     have e10 := hdep 0 rfl rfl 10 rfl
     have e11 := hdep 1 rfl rfl 11 rfl
     obtain ⟨H, m⟩ := id hJ
     refine dp_ex wn (ex_append H (i := 0) rfl Try.underlying96 Try.underlying96 ti99 rfl rfl (by decide) ((H.ro 2 rfl).rd.sc) hx5 hn0 e10 e11) ?_
     rintro _ σq ⟨a6x, c7x, rfl, H2, m2⟩
     exact ⟨_, (b3, a6x, c7x, b9), rfl, rfl, ⟨H2.sel' [0, 1, 2] rfl rfl, m.comp m2⟩, stab [0, 1, 3, 4] (by kernel_rfl) ⟨rfl, rfl, rfl, rfl, trivial⟩⟩
    refine ⟨?_, ?_⟩
    ·rintro ⟨b3, a6, c7, b9⟩ ρ σm hJ hoff hdep
     have e10 := hdep 0 rfl rfl 10 rfl
     have e11 := hdep 1 rfl rfl 11 rfl
     obtain ⟨H, m⟩ := id hJ
     refine dp_ex wn (ex_append H (i := 1) rfl Try.underlying96 Try.underlying96 ti99 rfl rfl (by decide) ((H.ro 3 rfl).rd.sc) hx5 hn0 e10 e11) ?_
     rintro _ σq ⟨a6x, c7x, rfl, H2, m2⟩
     exact ⟨_, (b3, a6x, c7x, b9), rfl, rfl, ⟨H2.sel' [1, 0, 2, 3] rfl rfl, m.comp m2⟩, stab [0, 1, 3, 4] (by kernel_rfl) ⟨rfl, rfl, rfl, rfl, trivial⟩⟩
    trivial) ?_
  refine all_cons (by
    refine ⟨?_, ?_⟩
    ·rintro ⟨b3, a6, c7, b9⟩ ρ σm hJ hoff hdep
     have e4 := look_off (N := 58) (hoff 4 rfl) rfl
     obtain ⟨H, m⟩ := id hJ
     have hc8 := H.cells 0 rfl
     exact dp_v (v := (.agg #[(I Bm.1), (I Bm.2)])) wn (rv_load (cs := [(I Bm.1), (I Bm.2)]) Try.underlying99 rfl ti99 e4 rfl hc8) rfl hJ
    refine ⟨?_, ?_⟩
    ·rintro ⟨b3, a6, c7, b9⟩ ρ σm hJ hoff hdep
     have e4 := look_off (N := 58) (hoff 4 rfl) rfl
     obtain ⟨H, m⟩ := id hJ
     have hc8 := H.cells 1 rfl
     exact dp_v (v := (.agg #[(I Bm.1), (I Bm.2)])) wn (rv_load (cs := [(I Bm.1), (I Bm.2)]) Try.underlying99 rfl ti99 e4 rfl hc8) rfl hJ
    refine ⟨?_, ?_⟩
    ·rintro ⟨b3, a6, c7, b9⟩ ρ σm hJ hoff hdep
     have e4 := look_off (N := 58) (hoff 4 rfl) rfl
     obtain ⟨H, m⟩ := id hJ
     have hc8 := H.cells 1 rfl
     exact dp_v (v := (.agg #[(I Bm.1), (I Bm.2)])) wn (rv_load (cs := [(I Bm.1), (I Bm.2)]) Try.underlying99 rfl ti99 e4 rfl hc8) rfl hJ
    trivial) ?_
  refine all_cons (by
    refine ⟨?_, ?_⟩
    ·rintro ⟨b3, a6, c7, b9⟩ ρ σm hJ hoff hdep
     have e13 : look 58 ρ 13 = (.agg #[(I Bm.1), (I Bm.2)]) := hdep 3 rfl rfl 13 rfl
     obtain ⟨H, m⟩ := id hJ
     refine dp_ex wn (ex_buildSlice (el := n0) (xs := ([(Bm.1, Bm.2)] : List (Int × Int))) (ps := [(0, (.agg #[(I Bm.1), (I Bm.2)]))]) (cs := [(I Bm.1), (I Bm.2)]) H hn0 Try.underlying96 ti99 rfl (by show [(0, look 58 ρ 13)] = _; rw [e13]) (by kernel_rfl) (.cons (c := [(I Bm.1), (I Bm.2)]) ⟨[(I Bm.1)], [(I Bm.2)], rfl, rfl, rfl⟩ (.nil)) rfl) ?_
     rintro _ σq ⟨b9x, rfl, H2, m2⟩
     exact ⟨_, (b3, a6, c7, b9x), rfl, rfl, ⟨H2.sel' [0, 1, 2] rfl rfl, m.comp0 m2⟩, stab [0, 1, 2, 3] (by kernel_rfl) ⟨rfl, rfl, rfl, rfl, trivial⟩⟩
    refine ⟨?_, ?_⟩
    ·rintro ⟨b3, a6, c7, b9⟩ ρ σm hJ hoff hdep
     have e13 : look 58 ρ 13 = (.agg #[(I Bm.1), (I Bm.2)]) := hdep 3 rfl rfl 13 rfl
     obtain ⟨H, m⟩ := id hJ
     refine dp_ex wn (ex_buildSlice (el := n0) (xs := ([(Bm.1, Bm.2)] : List (Int × Int))) (ps := [(0, (.agg #[(I Bm.1), (I Bm.2)]))]) (cs := [(I Bm.1), (I Bm.2)]) H hn0 Try.underlying96 ti99 rfl (by show [(0, look 58 ρ 13)] = _; rw [e13]) (by kernel_rfl) (.cons (c := [(I Bm.1), (I Bm.2)]) ⟨[(I Bm.1)], [(I Bm.2)], rfl, rfl, rfl⟩ (.nil)) rfl) ?_
     rintro _ σq ⟨b9x, rfl, H2, m2⟩
     exact ⟨_, (b3, a6, c7, b9x), rfl, rfl, ⟨H2.sel' [0, 1, 2, 3] rfl rfl, m.comp0 m2⟩, stab [0, 1, 2, 3] (by kernel_rfl) ⟨rfl, rfl, rfl, rfl, trivial⟩⟩
    refine ⟨?_, ?_⟩
    ·rintro ⟨b3, a6, c7, b9⟩ ρ σm hJ hoff hdep
     have e13 : look 58 ρ 13 = (.agg #[(I Bm.1), (I Bm.2)]) := hdep 3 rfl rfl 13 rfl
     obtain ⟨H, m⟩ := id hJ
     refine dp_ex wn (ex_buildSlice (el := n0) (xs := ([(Bm.1, Bm.2)] : List (Int × Int))) (ps := [(0, (.agg #[(I Bm.1), (I Bm.2)]))]) (cs := [(I Bm.1), (I Bm.2)]) H hn0 Try.underlying96 ti99 rfl (by show [(0, look 58 ρ 13)] = _; rw [e13]) (by kernel_rfl) (.cons (c := [(I Bm.1), (I Bm.2)]) ⟨[(I Bm.1)], [(I Bm.2)], rfl, rfl, rfl⟩ (.nil)) rfl) ?_
     rintro _ σq ⟨b9x, rfl, H2, m2⟩
     exact ⟨_, (b3, a6, c7, b9x), rfl, rfl, ⟨H2.sel' [0, 1, 2, 3] rfl rfl, m.comp0 m2⟩, stab [0, 1, 2, 3] (by kernel_rfl) ⟨rfl, rfl, rfl, rfl, trivial⟩⟩
    trivial) ?_
  exact all_nil
 ·rintro ⟨b3, a6, c7, b9⟩ ρ σ10 hJ hoff hrel
  have e2 := look_off (N := 58) (hoff 2 rfl) rfl
  have e12 := hrel 2 rfl 12 rfl
  have e14 := hrel 4 rfl 14 rfl
  obtain ⟨H, -⟩ := (show Hp S0 σ0 σ10 [Ch.own n0 n0 (Sl (some ⟨b9, 0, none⟩) ([(Bm.1, Bm.2)] : List (Int × Int)) 1) ([(Bm.1, Bm.2)] : List (Int × Int)), Ch.own n0 n0 (Sl a6 xs4 c7) xs4, Ch.bx n0 b1 0 [(I Bm.1), (I Bm.2)] [] [], Ch.ro 0 (Sl As Ar Au) Ar] ∧ Md (fun i => (cov []) i ∨ (fun b => blk (Sl (some ⟨b3, 0, none⟩) ([] : List (Int × Int)) 0) = some b) i) σ2 σ10 from hJ)
  clear hJ Hs
  rw [fr_lookL (L := [(2, (I Bn)), (12, (Sl a6 xs4 c7)), (14, (Sl (some ⟨b9, 0, none⟩) ([(Bm.1, Bm.2)] : List (Int × Int)) 1))]) ⟨e2, e12, e14, trivial⟩]
  clear hoff hrel e2 e12 e14
  obtain ⟨xs11, hx12, h'⟩ := bind_some h
  clear h
  have h := h'; clear h'
  refine st_ex (ex_append H (i := 1) rfl Try.underlying96 Try.underlying96 ti99 rfl rfl (by decide) (H.own 0 rfl).rd hx12 hn0 rfl rfl) wn ?_
  rintro _ σ15 ⟨a13, c14, rfl, H, -⟩
  refine st (v := (Sl a13 xs11 c14)) (rv_assign rfl) (w_end (q_then (c_seq (c_seq (rg (st (v := (Sl a13 xs11 c14)) (rv_move rfl) (st (v := (I (xs11.length : Int))) (rv_len Try.underlying96 rfl) (st (v := (I (w64 ((xs11.length : Int) - 1)))) (rv_sub (a := (xs11.length : Int)) (b := 1) rfl rfl) (st (v := (I (w64 ((xs11.length : Int) - 1)))) (rv_assign rfl) (w_end (q_then ?_)))))))))))
  obtain ⟨o16, hj, h'⟩ := bind_some h
  clear h
  refine c_cut (fun e a w => e = .normal ∧ ∃ (ρ : Nat → Value) (σ : St), a = fr 58 (updL ρ [(2, (I Bn)), (7, (Sl a13 o16 c14))]) ∧ w = σ.w ∧ Hp S0 σ0 σ [Ch.own n0 n0 (Sl a13 o16 c14) o16] ∧ o16.length = xs11.length) ?_ ?_
  ·clear h'
   rename _ = some o16 => h
   refine c_blk (wp_loopM _ h (fun s17 a w => ∃ (ρ : Nat → Value) (σ : St), a = fr 58 (updL ρ [(2, (I Bn)), (7, (Sl a13 s17.1 c14)), (8, (I s17.2))]) ∧ w = σ.w ∧ Hp S0 σ0 σ [Ch.own n0 n0 (Sl a13 s17.1 c14) s17.1] ∧ s17.1.length = xs11.length) ⟨_, σ15, fr_join ⟨rfl, rfl, rfl, trivial⟩, rfl, H.sel' [0] rfl rfl, rfl⟩ ?_)
   clear h H
   rintro s17 a w o ⟨ρ, σ18, rfl, rfl, H, hn19⟩ h hres
   refine c_seq (c_seq ?_)
   obtain ⟨o20, hj, h'⟩ := bind_some h
   clear h
   refine c_cut (fun e a w => e = .normal ∧ ∃ (ρ : Nat → Value) (σ : St), a = fr 58 (updL ρ [(2, (I Bn)), (7, (Sl a13 s17.1 c14)), (8, (I s17.2)), (32, (B o20))]) ∧ w = σ.w ∧ Hp S0 σ0 σ [Ch.own n0 n0 (Sl a13 s17.1 c14) s17.1]) ?_ ?_
   ·clear h'
    rename _ = some o20 => h
    refine rgP (σ := σ18) 12 (by kernel_rfl) (by kernel_rfl) (by kernel_rfl) ?_
    refine sq (v := (I s17.2)) (rv_move rfl) (sq (v := (B (decide (0 < s17.2)))) (rv_gtr (a := s17.2) (b := 0) rfl rfl) (sq (v := (B (decide (0 < s17.2)))) (rv_move rfl) ?_))
    rcases Bool.eq_false_or_eq_true (decide (0 < s17.2)) with hb21 | hb21
    ·replace h := bif_t hb21 h
     refine sq_g (v := (Sl a13 s17.1 c14)) (congrArg some hb21) (rv_move rfl) (sq_g (v := (I s17.2)) (congrArg some hb21) (rv_move rfl) ?_)
     obtain ⟨x22, hx23, h'⟩ := bind_some h
     clear h
     have h := h'; clear h'
     obtain ⟨b25, o26, hi24, -⟩ := (H.own 0 rfl).ix hx23
     refine sq_g (v := (pt b25 o26)) (congrArg some hb21) (rv_ix Try.underlying96 ti99 rfl rfl hi24) ?_
     obtain ⟨_, ⟨_, _, rfl, rfl, rfl⟩, hl27, hc28⟩ := ((H.own 0 rfl).at hx23 hi24).cells
     refine sq_g (v := (.agg #[(I x22.1), (I x22.2)])) (congrArg some hb21) (rv_load Try.underlying99 rfl ti99 rfl hl27 hc28) (sq_g (v := (Sl a13 s17.1 c14)) (congrArg some hb21) (rv_move rfl) (sq_g (v := (I s17.2)) (congrArg some hb21) (rv_move rfl) (sq_g (v := (I (w64 (s17.2 - 1)))) (congrArg some hb21) (rv_sub (a := s17.2) (b := 1) rfl rfl) ?_)))
     obtain ⟨x29, hx30, h'⟩ := bind_some h
     clear h
     have h := h'; clear h'
     obtain ⟨b32, o33, hi31, -⟩ := (H.own 0 rfl).ix hx30
     refine sq_g (v := (pt b32 o33)) (congrArg some hb21) (rv_ix Try.underlying96 ti99 rfl rfl hi31) ?_
     obtain ⟨_, ⟨_, _, rfl, rfl, rfl⟩, hl34, hc35⟩ := ((H.own 0 rfl).at hx30 hi31).cells
     refine sq_g (v := (.agg #[(I x29.1), (I x29.2)])) (congrArg some hb21) (rv_load Try.underlying99 rfl ti99 rfl hl34 hc35) (sq_end ?_)
     intro σ36 hm37
     replace H := H.grow (hm37.mono fun _ h => h); clear hm37
     obtain ⟨r38, hx39, h'⟩ := bind_some h
     clear h
     have h := h'; clear h'
     have hc40 := c_spec_nearer hx39
     refine st_call (cx_call hc40 (ent_f hc40.fn rfl) hn0 (H.sel' [0] rfl rfl : Hp S0 σ0 _ ([] ++ _))) (wanted_yes rfl (by exact (congrArg some hb21))) ?_
     rintro _ σ41 ⟨_, ⟨rfl, rfl⟩, H, -⟩
     replace H : Hp _ _ _ [_] := H
     refine st (v := (B r38)) (rv_pick_t (congrArg B hb21) rfl) (w_end ?_)
     obtain rfl := Option.some.inj h
     exact ⟨rfl, _, σ41, fr_join ⟨rfl, rfl, rfl, rfl, trivial⟩, rfl, H.sel' [0] rfl rfl⟩
    ·replace h := bif_f hb21 h
     refine sq_skip (congrArg some hb21) (sq_skip (congrArg some hb21) (sq_skip (congrArg some hb21) (sq_skip (congrArg some hb21) (sq_skip (congrArg some hb21) (sq_skip (congrArg some hb21) (sq_skip (congrArg some hb21) (sq_skip (congrArg some hb21) (sq_skip (congrArg some hb21) (sq_end ?_)))))))))
     intro σ42 hm43
     replace H := H.grow (hm43.mono fun _ h => h); clear hm43
     refine st_skip (congrArg some hb21) (st (v := (B false)) (rv_pick_f (congrArg B hb21) rfl) (w_end ?_))
     obtain rfl := Option.some.inj h
     exact ⟨rfl, _, σ42, fr_join ⟨rfl, rfl, rfl, rfl, trivial⟩, rfl, H.sel' [0] rfl rfl⟩
   ·clear hj
    have h := h'
    clear h' H
    rintro e a w ⟨rfl, ρ, σ44, rfl, rfl, H⟩
    refine q_then ?_
    refine cd_cond o20 rfl (fun hb45 => ?_) (fun hb45 => ?_)
    ·replace h := bif_t hb45 h
     refine c_skip (q_then (c_seq (c_blk (c_seq (rg (st (v := (Sl a13 s17.1 c14)) (rv_move rfl) (st (v := (I s17.2)) (rv_move rfl) ?_)))))))
     obtain ⟨x46, hx47, h'⟩ := bind_some h
     clear h
     have h := h'; clear h'
     obtain ⟨b49, o50, hi48, -⟩ := (H.own 0 rfl).ix hx47
     refine st (v := (pt b49 o50)) (rv_ix Try.underlying96 ti99 rfl rfl hi48) ?_
     obtain ⟨_, ⟨_, _, rfl, rfl, rfl⟩, hl51, hc52⟩ := ((H.own 0 rfl).at hx47 hi48).cells
     refine st (v := (.agg #[(I x46.1), (I x46.2)])) (rv_load Try.underlying99 rfl ti99 rfl hl51 hc52) (st_ex (ex_alloc (cs := [(I 0), (I 0)]) H hn0 ti99 rfl) wn ?_)
     rintro _ σ54 ⟨b53, rfl, H, -⟩
     refine st_exS (ex_store_box (k := 0) (cs := [(I 0), (I 0)]) (vs := [(I x46.1), (I x46.2)]) (cs' := [(I x46.1), (I x46.2)]) H (i := 0) rfl ti99 rfl rfl rfl rfl rfl (Nat.le_of_ble_eq_true rfl) (by simp [plain]) rfl) wn ?_
     rintro σ55 ⟨H, -⟩
     refine w_end (q_then (c_seq (rg (st (v := (Sl a13 s17.1 c14)) (rv_move rfl) (st (v := (I s17.2)) (rv_move rfl) (st (v := (Sl a13 s17.1 c14)) (rv_move rfl) (st (v := (I s17.2)) (rv_move rfl) (st (v := (I (w64 (s17.2 - 1)))) (rv_sub (a := s17.2) (b := 1) rfl rfl) ?_))))))))
     obtain ⟨x56, hx57, h'⟩ := bind_some h
     clear h
     have h := h'; clear h'
     obtain ⟨b59, o60, hi58, -⟩ := (H.own 1 rfl).ix hx57
     refine st (v := (pt b59 o60)) (rv_ix Try.underlying96 ti99 rfl rfl hi58) ?_
     obtain ⟨_, ⟨_, _, rfl, rfl, rfl⟩, hl61, hc62⟩ := ((H.own 1 rfl).at hx57 hi58).cells
     refine st (v := (.agg #[(I x56.1), (I x56.2)])) (rv_load Try.underlying99 rfl ti99 rfl hl61 hc62) ?_
     obtain ⟨x63, hx64, h'⟩ := bind_some h
     clear h
     have h := h'; clear h'
     obtain ⟨b66, o67, hi65, -⟩ := (H.own 1 rfl).ix hx64
     refine st (v := (pt b66 o67)) (rv_ix Try.underlying96 ti99 rfl rfl hi65) ?_
     refine st_exS (ex_store_own (e' := (x56.1, x56.2)) (vs := [(I x56.1), (I x56.2)]) (k := 0) H (i := 1) rfl ti99 hx64 hi65 rfl rfl rfl rfl rfl (Nat.le_of_ble_eq_true rfl) (by simp [plain]) (by rintro _ ⟨_, _, rfl, rfl, rfl⟩; exact ⟨[(I x56.1)], [(I x56.2)], rfl, rfl, rfl⟩)) wn ?_
     rintro σ68 ⟨H, -⟩
     have hsl : (Sl a13 s17.1 c14) = (Sl a13 (s17.1.set s17.2.toNat (x56.1, x56.2)) c14) := sl_len List.length_set.symm
     rw [hsl]; rw [hsl] at H; clear hsl
     refine w_end (q_then (rg (st (v := (Sl a13 (s17.1.set s17.2.toNat (x56.1, x56.2)) c14)) (rv_move rfl) (st (v := (I s17.2)) (rv_move rfl) (st (v := (I (w64 (s17.2 - 1)))) (rv_sub (a := s17.2) (b := 1) rfl rfl) ?_)))))
     have hc69 := H.cells 1 rfl
     refine st (v := (.agg #[(I x46.1), (I x46.2)])) (rv_load (cs := [(I x46.1), (I x46.2)]) Try.underlying99 rfl ti99 rfl rfl hc69) ?_
     obtain ⟨x70, hx71, h'⟩ := bind_some h
     clear h
     have h := h'; clear h'
     obtain ⟨b73, o74, hi72, -⟩ := (H.own 0 rfl).ix hx71
     refine st (v := (pt b73 o74)) (rv_ix Try.underlying96 ti99 rfl rfl hi72) ?_
     refine st_exS (ex_store_own (e' := (x46.1, x46.2)) (vs := [(I x46.1), (I x46.2)]) (k := 0) H (i := 0) rfl ti99 hx71 hi72 rfl rfl rfl rfl rfl (Nat.le_of_ble_eq_true rfl) (by simp [plain]) (by rintro _ ⟨_, _, rfl, rfl, rfl⟩; exact ⟨[(I x46.1)], [(I x46.2)], rfl, rfl, rfl⟩)) wn ?_
     rintro σ75 ⟨H, -⟩
     have hsl : (Sl a13 (s17.1.set s17.2.toNat (x56.1, x56.2)) c14) = (Sl a13 ((s17.1.set s17.2.toNat (x56.1, x56.2)).set (w64 (s17.2 - 1)).toNat (x46.1, x46.2)) c14) := sl_len List.length_set.symm
     rw [hsl]; rw [hsl] at H; clear hsl
     refine w_end (q_blk (q_then (rg (st (v := (I s17.2)) (rv_move rfl) (st (v := (I (w64 (s17.2 - 1)))) (rv_sub (a := s17.2) (b := 1) rfl rfl) (st (v := (I (w64 (s17.2 - 1)))) (rv_assign rfl) (w_end (q_then ?_))))))))
     obtain rfl := Option.some.inj h
     exact ⟨_, rfl, _, σ75, fr_join ⟨rfl, rfl, rfl, trivial⟩, rfl, H.sel' [0] rfl rfl, (List.length_set.trans (List.length_set.trans hn19))⟩
    ·replace h := bif_f hb45 h
     refine c_exit (q_then_x (q_then_x (q_blk_hit ?_)))
     obtain rfl := Option.some.inj h
     obtain rfl := hres _ rfl
     exact ⟨rfl, _, σ44, fr_join ⟨rfl, rfl, trivial⟩, rfl, H.sel' [0] rfl rfl, hn19⟩
  ·clear hj
   have h := h'
   clear h' H
   rintro e a w ⟨rfl, ρ, σ76, rfl, rfl, H, hn77⟩
   refine q_then (c_seq (rg (st (v := (Sl a13 o16 c14)) (rv_move rfl) (st (v := (I Bn)) (rv_move rfl) (st (v := (Sl a13 o16 c14)) (rv_move rfl) (st (v := (I (o16.length : Int))) (rv_len Try.underlying96 rfl) (st (v := (I (min Bn (o16.length : Int)))) (rv_min rfl rfl) ?_)))))))
   obtain ⟨xs78, hx79, h'⟩ := bind_some h
   clear h
   have h := h'; clear h'
   obtain ⟨a80, c81, hs82, hR83, hb84⟩ := (H.own 0 rfl).slice hx79
   replace H := (H.front (i := 0) rfl).turn (d := Ch.own n0 n0 (Sl a80 xs78 c81) xs78) (fun _ => hR83) hb84; clear hR83 hb84
   refine st (v := (Sl a80 xs78 c81)) (rv_slice_h Try.underlying96 ti99 hs82 rfl rfl) (st (v := (Sl a80 xs78 c81)) (rv_assign rfl) (w_end (q_then (c_ret ?_))))
   obtain rfl := Option.some.inj h
   exact fin_ret (v := (Sl a80 xs78 c81)) (results_ok Try.results106 (res_tmp (v := (Sl a80 xs78 c81)) rfl res_nil) rfl) ⟨a80, c81, rfl, rfl⟩ (H.sel' [0] rfl rfl)

theorem c_spec_probes {Bg : List (List Int)} {Bh : List Int} {Bo : Int} {Bi : Option Addr} {Bj : Nat} {Bk : Option Addr} {Bl : Nat} {r : (List Int)} (h : M.spec_probes Bg Bh Bo = some r) :
    Cal2 Try.prog 86 [(Sl Bi Bg Bj), (Sl Bk Bh Bl), (I Bo)] [Ch.ro 0 (Sl Bi Bg Bj) Bg, Ch.ro 0 (Sl Bk Bh Bl) Bh] (fun n0 v L => ∃ (az1 : Option Addr), ∃ (cz2 : Nat), v = (Sl az1 r cz2) ∧ L = [Ch.own n0 n0 (Sl az1 r cz2) r]) := by
 refine cal2 (n := 45) Try.func86 rfl rfl rfl rfl ?_
 intro S0 σ0 n0 hn0 H
 unfold M.spec_probes at h
 refine c_seq (rg (st (v := (.slice none 0 0)) (rv_assign rfl) (w_end (q_then (c_seq (rg ?_))))))
 refine st_ex (ex_buildSlice (el := n0) (xs := ([] : List (Int × Int))) (ps := []) (cs := []) H hn0 Try.underlying96 ti99 rfl rfl (by kernel_rfl) (.nil) rfl) wn ?_
 rintro _ σ2 ⟨b1, rfl, H, -⟩
 refine st (v := (Sl (some ⟨b1, 0, none⟩) ([] : List (Int × Int)) 0)) (rv_assign rfl) (w_end (q_then (c_seq (c_seq (rg (st (v := (I 0)) (rv_assign rfl) (w_end (q_then ?_))))))))
 obtain ⟨o3, hj, h'⟩ := bind_some h
 clear h
 refine c_cut (fun e a w => e = .normal ∧ ∃ (ρ : Nat → Value) (σ : St) (aj1 : Option Addr) (cj2 : Nat), a = fr 45 (updL ρ [(7, (Sl aj1 o3 cj2))]) ∧ w = σ.w ∧ Hp S0 σ0 σ [Ch.own n0 n0 (Sl aj1 o3 cj2) o3]) ?_ ?_
 ·clear h'
  rename _ = some o3 => h
  refine c_blk (wp_loopM _ h (fun s4 a w => ∃ (ρ : Nat → Value) (σ : St) (aj1 : Option Addr) (cj2 : Nat), a = fr 45 (updL ρ [(0, (Sl Bi Bg Bj)), (1, (Sl Bk Bh Bl)), (2, (I Bo)), (7, (Sl aj1 s4.1 cj2)), (8, (I s4.2))]) ∧ w = σ.w ∧ Hp S0 σ0 σ [Ch.ro 0 (Sl Bi Bg Bj) Bg, Ch.ro 0 (Sl Bk Bh Bl) Bh, Ch.own n0 n0 (Sl aj1 s4.1 cj2) s4.1]) ⟨_, σ2, (some ⟨b1, 0, none⟩), 0, fr_join ⟨rfl, rfl, rfl, rfl, rfl, trivial⟩, rfl, H.sel' [1, 2, 0] rfl rfl⟩ ?_)
  clear h H
  rintro s4 a w o ⟨ρ, σ5, a6, c7, rfl, rfl, H⟩ h hres
  refine c_seq (c_seq (rg (st (v := (I s4.2)) (rv_move rfl) (st (v := (Sl Bi Bg Bj)) (rv_move rfl) (st (v := (I (Bg.length : Int))) (rv_len Try.underlying41 rfl) (st (v := (B (decide (s4.2 < (Bg.length : Int))))) (rv_lss (a := s4.2) (b := (Bg.length : Int)) rfl rfl) (w_end (q_then ?_))))))))
  refine cd_cond (decide (s4.2 < (Bg.length : Int))) rfl (fun hb8 => ?_) (fun hb8 => ?_)
  ·replace h := bif_t hb8 h
   refine c_skip (q_then (c_seq (c_blk (rg (st (v := (Sl a6 s4.1 c7)) (rv_move rfl) (st (v := (I s4.2)) (rv_move rfl) (st (v := (Sl Bi Bg Bj)) (rv_move rfl) (st (v := (I s4.2)) (rv_move rfl) ?_))))))))
   obtain ⟨x9, hx10, h'⟩ := bind_some h
   clear h
   have h := h'; clear h'
   obtain ⟨b12, o13, hi11, -⟩ := (H.ro 0 rfl).ix hx10
   refine st (v := (pt b12 o13)) (rv_ix Try.underlying41 ti23 rfl rfl hi11) ?_
   obtain ⟨v17, hc18, hR16⟩ := ((H.ro 0 rfl).at hx10 hi11).slice
   obtain ⟨a14, c15, rfl⟩ := hR16.isSl
   replace H := H.add (d := Ch.ro 0 (Sl a14 x9 c15) x9) hR16 (fun _ h => h)
   clear hR16
   refine st (v := (Sl a14 x9 c15)) (rv_load1 Try.underlying23 rfl rfl hc18) (st (v := (Sl Bk Bh Bl)) (rv_move rfl) ?_)
   obtain ⟨r19, hx20, h'⟩ := bind_some h
   clear h
   have h := h'; clear h'
   have hc21 := c_spec_dist (Bc := a14) (Bd := c15) (Be := Bk) (Bf := Bl) hx20
   refine st_call (cx_call hc21 (ent_f hc21.fn rfl) hn0 (H.sel' [0, 2, 0, 1, 2, 3] rfl rfl : Hp S0 σ0 _ ([_, _] ++ _))) wn ?_
   rintro _ σ22 ⟨_, ⟨rfl, rfl⟩, H, -⟩
   replace H : Hp _ _ _ [_, _, _, _] := H
   refine st (v := (.agg #[(I s4.2), (I r19)])) (rv_build (ps := [(0, (I s4.2)), (1, (I r19))]) Try.underlying99 ti99 (bp99 Try.underlying99) rfl (by kernel_rfl)) ?_
   refine st (v := (I Bo)) (rv_move rfl) ?_
   obtain ⟨σ23, hw24, H, -⟩ := H.pub 3 rfl (Nat.le_refl _)
   rw [← hw24]; clear hw24
   replace H := H.roLow 0 0 rfl (Nat.zero_le _)
   obtain ⟨r25, hx26, h'⟩ := bind_some h
   clear h
   have h := h'; clear h'
   have hc27 := c_spec_addHit (As := a6) (Au := c7) hx26
   refine st_call (cx_call hc27 (ent_f hc27.fn rfl) hn0 (H.sel' [0, 0, 1, 2, 3, 4] rfl rfl : Hp S0 σ0 _ ([_] ++ _))) wn ?_
   rintro _ σ30 ⟨_, ⟨a28, c29, rfl, rfl⟩, H, -⟩
   replace H : Hp _ _ _ [_, _, _, _, _, _] := H
   refine st (v := (Sl a28 r25 c29)) (rv_assign rfl) (w_end (q_blk (q_then (rg (st (v := (I s4.2)) (rv_move rfl) (st (v := (I (w64 (s4.2 + 1)))) (rv_add (a := s4.2) (b := 1) rfl rfl) (st (v := (I (w64 (s4.2 + 1)))) (rv_assign rfl) (w_end (q_then ?_)))))))))
   obtain rfl := Option.some.inj h
   exact ⟨_, rfl, _, σ30, a28, c29, fr_join ⟨rfl, rfl, rfl, rfl, rfl, trivial⟩, rfl, H.sel' [4, 5, 0] rfl rfl⟩
  ·replace h := bif_f hb8 h
   refine c_exit (q_then_x (q_then_x (q_blk_hit ?_)))
   obtain rfl := Option.some.inj h
   obtain rfl := hres _ rfl
   exact ⟨rfl, _, σ5, a6, c7, fr_join ⟨rfl, trivial⟩, rfl, H.sel' [2] rfl rfl⟩
 ·clear hj
  have h := h'
  clear h' H
  rintro e a w ⟨rfl, ρ, σ31, a32, c33, rfl, rfl, H⟩
  refine q_then (c_seq (rg ?_))
  refine st_ex (ex_buildSlice (el := n0) (xs := ([] : List Int)) (ps := []) (cs := []) H hn0 Try.underlying23 ti3 rfl rfl (by kernel_rfl) (.nil) rfl) wn ?_
  rintro _ σ35 ⟨b34, rfl, H, -⟩
  refine st (v := (Sl (some ⟨b34, 0, none⟩) ([] : List Int) 0)) (rv_assign rfl) (w_end (q_then (c_seq (c_seq (rg (st (v := (I 0)) (rv_assign rfl) (w_end (q_then ?_))))))))
  obtain ⟨o36, hj, h'⟩ := bind_some h
  clear h
  refine c_cut (fun e a w => e = .normal ∧ ∃ (ρ : Nat → Value) (σ : St) (aj1 : Option Addr) (cj2 : Nat), a = fr 45 (updL ρ [(9, (Sl aj1 o36 cj2))]) ∧ w = σ.w ∧ Hp S0 σ0 σ [Ch.own n0 n0 (Sl aj1 o36 cj2) o36]) ?_ ?_
  ·clear h'
   rename _ = some o36 => h
   refine c_blk (wp_loopM _ h (fun s37 a w => ∃ (ρ : Nat → Value) (σ : St) (aj1 : Option Addr) (cj2 : Nat), a = fr 45 (updL ρ [(7, (Sl a32 o3 c33)), (9, (Sl aj1 s37.1 cj2)), (10, (I s37.2))]) ∧ w = σ.w ∧ Hp S0 σ0 σ [Ch.own n0 n0 (Sl a32 o3 c33) o3, Ch.own n0 n0 (Sl aj1 s37.1 cj2) s37.1]) ⟨_, σ35, (some ⟨b34, 0, none⟩), 0, fr_join ⟨rfl, rfl, rfl, trivial⟩, rfl, H.sel' [1, 0] rfl rfl⟩ ?_)
   clear h H
   rintro s37 a w o ⟨ρ, σ38, a39, c40, rfl, rfl, H⟩ h hres
   refine c_seq (c_seq (rg (st (v := (I s37.2)) (rv_move rfl) (st (v := (Sl a32 o3 c33)) (rv_move rfl) (st (v := (I (o3.length : Int))) (rv_len Try.underlying96 rfl) (st (v := (B (decide (s37.2 < (o3.length : Int))))) (rv_lss (a := s37.2) (b := (o3.length : Int)) rfl rfl) (w_end (q_then ?_))))))))
   refine cd_cond (decide (s37.2 < (o3.length : Int))) rfl (fun hb41 => ?_) (fun hb41 => ?_)
   ·replace h := bif_t hb41 h
    refine c_skip (q_then (c_seq (c_blk (rg (st (v := (Sl a39 s37.1 c40)) (rv_move rfl) (st (v := (Sl a32 o3 c33)) (rv_move rfl) (st (v := (I s37.2)) (rv_move rfl) ?_)))))))
    obtain ⟨x42, hx43, h'⟩ := bind_some h
    clear h
    have h := h'; clear h'
    obtain ⟨b45, o46, hi44, -⟩ := (H.own 0 rfl).ix hx43
    refine st (v := (pt b45 o46)) (rv_ix Try.underlying96 ti99 rfl rfl hi44) (st (v := (pt b45 (o46 + 0))) (rv_fieldAddr (off := 0) (ft := 3) Try.underlying99 rfl ti3 rfl rfl) ?_)
    have hc47 := ((H.own 0 rfl).at hx43 hi44).fst.int
    refine st (v := (I x42.1)) (rv_load1 Try.underlying3 rfl rfl hc47) ?_
    refine st_ex (ex_buildSlice (el := n0) (xs := ([x42.1] : List Int)) (ps := [(0, (I x42.1))]) (cs := [(I x42.1)]) H hn0 Try.underlying23 ti3 rfl rfl (by kernel_rfl) (.cons (c := [(I x42.1)]) rfl (.nil)) rfl) wn ?_
    rintro _ σ49 ⟨b48, rfl, H, -⟩
    obtain ⟨xs50, hx51, h'⟩ := bind_some h
    clear h
    have h := h'; clear h'
    refine st_ex (ex_append H (i := 2) rfl Try.underlying23 Try.underlying23 ti3 rfl rfl (by decide) (H.own 0 rfl).rd hx51 hn0 rfl rfl) wn ?_
    rintro _ σ54 ⟨a52, c53, rfl, H, -⟩
    refine st (v := (Sl a52 xs50 c53)) (rv_assign rfl) (w_end (q_blk (q_then (rg (st (v := (I s37.2)) (rv_move rfl) (st (v := (I (w64 (s37.2 + 1)))) (rv_add (a := s37.2) (b := 1) rfl rfl) (st (v := (I (w64 (s37.2 + 1)))) (rv_assign rfl) (w_end (q_then ?_)))))))))
    obtain rfl := Option.some.inj h
    exact ⟨_, rfl, _, σ54, a52, c53, fr_join ⟨rfl, rfl, rfl, trivial⟩, rfl, H.sel' [2, 0] rfl rfl⟩
   ·replace h := bif_f hb41 h
    refine c_exit (q_then_x (q_then_x (q_blk_hit ?_)))
    obtain rfl := Option.some.inj h
    obtain rfl := hres _ rfl
    exact ⟨rfl, _, σ38, a39, c40, fr_join ⟨rfl, trivial⟩, rfl, H.sel' [1] rfl rfl⟩
  ·clear hj
   have h := h'
   clear h' H
   rintro e a w ⟨rfl, ρ, σ55, a56, c57, rfl, rfl, H⟩
   refine q_then (c_seq (rg (st (v := (Sl a56 o36 c57)) (rv_move rfl) (st (v := (Sl a56 o36 c57)) (rv_assign rfl) (w_end (q_then (c_ret ?_)))))))
   obtain rfl := Option.some.inj h
   exact fin_ret (v := (Sl a56 o36 c57)) (results_ok Try.results86 (res_tmp (v := (Sl a56 o36 c57)) rfl res_nil) rfl) ⟨a56, c57, rfl, rfl⟩ (H.sel' [0] rfl rfl)

end Go.Vs
