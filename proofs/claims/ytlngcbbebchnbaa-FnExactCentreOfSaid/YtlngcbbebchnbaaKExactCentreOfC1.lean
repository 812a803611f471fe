/- The functions compute what their models say. -/
import Derived.Test.YtlngcbbebchnbaaKExactCentreOfM
import Derived.Test.YtlngcbbebchnbaaExactCentreOfEng1
import Derived.Test.YtlngcbbebchnbaaProg
set_option linter.unusedVariables false
set_option linter.unusedSimpArgs false
set_option maxRecDepth 20000
namespace Go.Vs
open Go Go.Proofs
attribute [local irreducible] Code.wp Code.wpIn wpList wpListIn wpQuiet Calls CallsIn

theorem ti3 : TI Try.prog 3 (.int .i64 0) 1 8 := TI.mk' (by kernel_rfl)
theorem ti23 : TI Try.prog 23 (.slice none 0 0) 1 24 := TI.mk' (by kernel_rfl)
theorem ti93 : TI Try.prog 93 (.agg #[(.int .i64 0), (.int .i64 0), (.int .i64 0), (.int .i64 0)]) 4 32 := TI.mk' (by kernel_rfl)

theorem c_laws_szIntS {Aa : List Int} {Ac : Int} {Ad : Option Addr} {Ae : Nat} {r : Int} (h : M.laws_szIntS Aa Ac = some r) :
    Cal2 Try.prog 54 [(Sl Ad Aa Ae), (I Ac)] [Ch.ro 0 (Sl Ad Aa Ae) Aa] (fun n0 v L => v = (I r) ∧ L = []) := by
 refine cal2 (n := 12) Try.func54 rfl rfl rfl rfl ?_
 intro S0 σ0 n0 hn0 H
 unfold M.laws_szIntS at h
 refine c_seq (rg (st (v := (I 0)) (rv_assign rfl) (w_end (q_then (c_seq (rg (st (v := (I Ac)) (rv_move rfl) (st (v := (Sl Ad Aa Ae)) (rv_move rfl) (st (v := (I (Aa.length : Int))) (rv_len Try.underlying23 rfl) (st (v := (I (w64 (Ac - (Aa.length : Int))))) (rv_sub (a := Ac) (b := (Aa.length : Int)) rfl rfl) (st (v := (I (w64 (Ac - (Aa.length : Int))))) (rv_assign rfl) ?_)))))))))))
 refine w_end (q_then (c_seq (c_seq (rg (st (v := (I (w64 (Ac - (Aa.length : Int))))) (rv_move rfl) (st (v := (B (decide ((w64 (Ac - (Aa.length : Int))) < 0)))) (rv_lss (a := (w64 (Ac - (Aa.length : Int)))) (b := 0) rfl rfl) (w_end (q_then ?_))))))))
 refine cd_cond (decide ((w64 (Ac - (Aa.length : Int))) < 0)) rfl (fun hb1 => ?_) (fun hb1 => ?_)
 ·replace h := bif_t hb1 h
  refine c_seq (rg (st (v := (I (-1))) (rv_assign rfl) (w_end (q_then (c_ret (q_then_r ?_))))))
  obtain rfl := Option.some.inj h
  exact fin_ret (v := (I (-1))) (results_ok Try.results54 (res_tmp (v := (I (-1))) rfl res_nil) rfl) ⟨rfl, rfl⟩ (H.sel' [] rfl rfl)
 ·replace h := bif_f hb1 h
  refine c_skip (q_then (c_seq (rg (st (v := (I (w64 (Ac - (Aa.length : Int))))) (rv_move rfl) (st (v := (I (w64 (Ac - (Aa.length : Int))))) (rv_assign rfl) (w_end (q_then (c_ret ?_))))))))
  obtain rfl := Option.some.inj h
  exact fin_ret (v := (I (w64 (Ac - (Aa.length : Int))))) (results_ok Try.results54 (res_tmp (v := (I (w64 (Ac - (Aa.length : Int))))) rfl res_nil) rfl) ⟨rfl, rfl⟩ (H.sel' [] rfl rfl)

theorem c_laws_szIntSS {Aa : List (List Int)} {Ac : Int} {Ad : Option Addr} {Ae : Nat} {r : Int} (h : M.laws_szIntSS Aa Ac = some r) :
    Cal2 Try.prog 27 [(Sl Ad Aa Ae), (I Ac)] [Ch.ro 0 (Sl Ad Aa Ae) Aa] (fun n0 v L => v = (I r) ∧ L = []) := by
 refine cal2 (n := 27) Try.func27 rfl rfl rfl rfl ?_
 intro S0 σ0 n0 hn0 H
 unfold M.laws_szIntSS at h
 refine c_seq (rg (st (v := (I 0)) (rv_assign rfl) (w_end (q_then (c_seq (rg (st (v := (I Ac)) (rv_move rfl) (st (v := (Sl Ad Aa Ae)) (rv_move rfl) (st (v := (I (Aa.length : Int))) (rv_len Try.underlying41 rfl) (st (v := (I (w64 (Ac - (Aa.length : Int))))) (rv_sub (a := Ac) (b := (Aa.length : Int)) rfl rfl) (st (v := (I (w64 (Ac - (Aa.length : Int))))) (rv_assign rfl) ?_)))))))))))
 refine w_end (q_then (c_seq (c_seq (rg (st (v := (I (w64 (Ac - (Aa.length : Int))))) (rv_move rfl) (st (v := (B (decide ((w64 (Ac - (Aa.length : Int))) < 0)))) (rv_lss (a := (w64 (Ac - (Aa.length : Int)))) (b := 0) rfl rfl) (w_end (q_then ?_))))))))
 refine cd_cond (decide ((w64 (Ac - (Aa.length : Int))) < 0)) rfl (fun hb1 => ?_) (fun hb1 => ?_)
 ·replace h := bif_t hb1 h
  refine c_seq (rg (st (v := (I (-1))) (rv_assign rfl) (w_end (q_then (c_ret (q_then_r ?_))))))
  obtain rfl := Option.some.inj h
  exact fin_ret (v := (I (-1))) (results_ok Try.results27 (res_tmp (v := (I (-1))) rfl res_nil) rfl) ⟨rfl, rfl⟩ (H.sel' [] rfl rfl)
 ·replace h := bif_f hb1 h
  refine c_skip (q_then (c_seq (c_seq (rg (st (v := (I 0)) (rv_assign rfl) (w_end (q_then ?_)))))))
  obtain ⟨o2, hj, h'⟩ := bind_some h
  clear h
  refine c_cut (fun e a w => (∃ t, o2 = (.inl t) ∧ e = .normal ∧ ∃ (ρ : Nat → Value) (σ : St), a = fr 27 (updL ρ [(1, (I t))]) ∧ w = σ.w ∧ Hp S0 σ0 σ []) ∨ (∃ t, o2 = (.inr t) ∧ e = .ret ∧ ∃ (ρ : Nat → Value) (σ : St), a = fr 27 (updL ρ [(4, (I t))]) ∧ w = σ.w ∧ Hp S0 σ0 σ [])) ?_ ?_
  ·clear h'
   rename _ = some o2 => h
   refine c_blk (wp_loopM _ h (fun s3 a w => ∃ (ρ : Nat → Value) (σ : St), a = fr 27 (updL ρ [(0, (Sl Ad Aa Ae)), (1, (I s3.1)), (5, (I s3.2))]) ∧ w = σ.w ∧ Hp S0 σ0 σ [Ch.ro 0 (Sl Ad Aa Ae) Aa]) ⟨_, σ0, fr_join ⟨rfl, rfl, rfl, trivial⟩, rfl, H.sel' [0] rfl rfl⟩ ?_)
   clear h H
   rintro s3 a w o ⟨ρ, σ4, rfl, rfl, H⟩ h hres
   refine c_seq (c_seq (rg (st (v := (I s3.2)) (rv_move rfl) (st (v := (Sl Ad Aa Ae)) (rv_move rfl) (st (v := (I (Aa.length : Int))) (rv_len Try.underlying41 rfl) (st (v := (B (decide (s3.2 < (Aa.length : Int))))) (rv_lss (a := s3.2) (b := (Aa.length : Int)) rfl rfl) (w_end (q_then ?_))))))))
   refine cd_cond (decide (s3.2 < (Aa.length : Int))) rfl (fun hb5 => ?_) (fun hb5 => ?_)
   ·replace h := bif_t hb5 h
    refine c_skip (q_then (c_seq (c_blk (c_seq (rg (st (v := (Sl Ad Aa Ae)) (rv_move rfl) (st (v := (I s3.2)) (rv_move rfl) ?_)))))))
    obtain ⟨x6, hx7, h'⟩ := bind_some h
    clear h
    have h := h'; clear h'
    obtain ⟨b9, o10, hi8, -⟩ := (H.ro 0 rfl).ix hx7
    refine st (v := (pt b9 o10)) (rv_ix Try.underlying41 ti23 rfl rfl hi8) ?_
    obtain ⟨v14, hc15, hR13⟩ := ((H.ro 0 rfl).at hx7 hi8).slice
    obtain ⟨a11, c12, rfl⟩ := hR13.isSl
    replace H := H.add (d := Ch.ro 0 (Sl a11 x6 c12) x6) hR13 (fun _ h => h)
    clear hR13
    refine st (v := (Sl a11 x6 c12)) (rv_load1 Try.underlying23 rfl rfl hc15) (st (v := (I s3.1)) (rv_move rfl) ?_)
    obtain ⟨r16, hx17, h'⟩ := bind_some h
    clear h
    have h := h'; clear h'
    have hc18 := c_laws_szIntS (Ad := a11) (Ae := c12) hx17
    refine st_call (cx_call hc18 (ent_f hc18.fn rfl) hn0 (H.sel' [0, 0, 1] rfl rfl : Hp S0 σ0 _ ([_] ++ _))) wn ?_
    rintro _ σ19 ⟨_, ⟨rfl, rfl⟩, H, -⟩
    replace H : Hp _ _ _ [_, _] := H
    refine st (v := (I r16)) (rv_assign rfl) (w_end (q_then (c_seq (rg (st (v := (I r16)) (rv_move rfl) (st (v := (B (decide (r16 < 0)))) (rv_lss (a := r16) (b := 0) rfl rfl) (w_end (q_then ?_))))))))
    refine cd_cond (decide (r16 < 0)) rfl (fun hb20 => ?_) (fun hb20 => ?_)
    ·replace h := bif_t hb20 h
     refine c_seq (rg (st (v := (I (-1))) (rv_assign rfl) (w_end (q_then (c_ret (q_blk_r (q_then_r (q_then_r (q_blk_r ?_)))))))))
     obtain rfl := Option.some.inj h
     obtain rfl := hres _ rfl
     exact .inr (⟨_, rfl, rfl, _, σ19, fr_join ⟨rfl, trivial⟩, rfl, H.sel' [] rfl rfl⟩)
    ·replace h := bif_f hb20 h
     refine c_skip (q_blk (q_then (rg (st (v := (I s3.2)) (rv_move rfl) (st (v := (I (w64 (s3.2 + 1)))) (rv_add (a := s3.2) (b := 1) rfl rfl) (st (v := (I (w64 (s3.2 + 1)))) (rv_assign rfl) (w_end (q_then ?_))))))))
     obtain rfl := Option.some.inj h
     exact ⟨_, rfl, _, σ19, fr_join ⟨rfl, rfl, rfl, trivial⟩, rfl, H.sel' [1] rfl rfl⟩
   ·replace h := bif_f hb5 h
    refine c_exit (q_then_x (q_then_x (q_blk_hit ?_)))
    obtain rfl := Option.some.inj h
    obtain rfl := hres _ rfl
    exact .inl ⟨_, rfl, rfl, _, σ4, fr_join ⟨rfl, trivial⟩, rfl, H.sel' [] rfl rfl⟩
  ·clear hj
   have h := h'
   clear h' H
   rintro e a w (⟨t21, rfl, rfl, ρ, σ22, rfl, rfl, H⟩ | ⟨t23, rfl, rfl, ρ, σ24, rfl, rfl, H⟩)
   ·replace h := selim_l h
    refine q_then (c_seq (rg (st (v := (I t21)) (rv_move rfl) (st (v := (I t21)) (rv_assign rfl) (w_end (q_then (c_ret ?_)))))))
    obtain rfl := Option.some.inj h
    exact fin_ret (v := (I t21)) (results_ok Try.results27 (res_tmp (v := (I t21)) rfl res_nil) rfl) ⟨rfl, rfl⟩ (H.sel' [] rfl rfl)
   ·replace h := selim_r h
    refine q_then_r ?_
    obtain rfl := Option.some.inj h
    exact fin_ret (v := (I t23)) (results_ok Try.results27 (res_tmp (v := (I t23)) rfl res_nil) rfl) ⟨rfl, rfl⟩ (H.sel' [] rfl rfl)

theorem c_laws_toIntS {Aa : List Int} {Ad : Option Addr} {Ae : Nat} {r : (List Int)} (h : M.laws_toIntS Aa = some r) :
    Cal2 Try.prog 33 [(Sl Ad Aa Ae)] [Ch.ro 0 (Sl Ad Aa Ae) Aa] (fun n0 v L => ∃ (az1 : Option Addr), ∃ (cz2 : Nat), v = (Sl az1 r cz2) ∧ L = [Ch.own n0 n0 (Sl az1 r cz2) r] ∧ cz2 = r.length) := by
 refine cal2 (n := 22) Try.func33 rfl rfl rfl rfl ?_
 intro S0 σ0 n0 hn0 H
 unfold M.laws_toIntS at h
 refine c_seq (rg (st (v := (.slice none 0 0)) (rv_assign rfl) (w_end (q_then (c_seq (rg (st (v := (Sl Ad Aa Ae)) (rv_move rfl) (st (v := (I (Aa.length : Int))) (rv_len Try.underlying23 rfl) ?_))))))))
 obtain ⟨xs1, hx2, h'⟩ := bind_some h
 clear h
 have h := h'; clear h'
 refine st_ex (ex_make (el := n0) (z0 := (0 : Int)) (zs := [(I 0)]) H hn0 Try.underlying23 ti3 rfl rfl rfl (by decide) hx2 rfl rfl) wn ?_
 rintro _ σ6 ⟨b3, c4, rfl, ht5, H, -⟩
 replace ht5 := ht5.trans (gmake_len hx2).symm
 refine st (v := (Sl (some ⟨b3, 0, none⟩) xs1 c4)) (rv_assign rfl) (w_end (q_then (c_seq (c_seq (rg (st (v := (I 0)) (rv_assign rfl) (w_end (q_then ?_))))))))
 obtain ⟨o7, hj, h'⟩ := bind_some h
 clear h
 refine c_cut (fun e a w => e = .normal ∧ ∃ (ρ : Nat → Value) (σ : St), a = fr 22 (updL ρ [(3, (Sl (some ⟨b3, 0, none⟩) o7 c4))]) ∧ w = σ.w ∧ Hp S0 σ0 σ [Ch.own n0 n0 (Sl (some ⟨b3, 0, none⟩) o7 c4) o7] ∧ c4 = o7.length ∧ o7.length = xs1.length) ?_ ?_
 ·clear h'
  rename _ = some o7 => h
  refine c_blk (wp_loopM _ h (fun s8 a w => ∃ (ρ : Nat → Value) (σ : St), a = fr 22 (updL ρ [(0, (Sl Ad Aa Ae)), (3, (Sl (some ⟨b3, 0, none⟩) s8.1 c4)), (4, (I s8.2))]) ∧ w = σ.w ∧ Hp S0 σ0 σ [Ch.ro 0 (Sl Ad Aa Ae) Aa, Ch.own n0 n0 (Sl (some ⟨b3, 0, none⟩) s8.1 c4) s8.1] ∧ c4 = s8.1.length ∧ s8.1.length = xs1.length) ⟨_, σ6, fr_join ⟨rfl, rfl, rfl, trivial⟩, rfl, H.sel' [1, 0] rfl rfl, ht5, rfl⟩ ?_)
  clear h H
  rintro s8 a w o ⟨ρ, σ9, rfl, rfl, H, ht10, hn11⟩ h hres
  refine c_seq (c_seq (rg (st (v := (I s8.2)) (rv_move rfl) (st (v := (Sl Ad Aa Ae)) (rv_move rfl) (st (v := (I (Aa.length : Int))) (rv_len Try.underlying23 rfl) (st (v := (B (decide (s8.2 < (Aa.length : Int))))) (rv_lss (a := s8.2) (b := (Aa.length : Int)) rfl rfl) (w_end (q_then ?_))))))))
  refine cd_cond (decide (s8.2 < (Aa.length : Int))) rfl (fun hb12 => ?_) (fun hb12 => ?_)
  ·replace h := bif_t hb12 h
   refine c_skip (q_then (c_seq (c_blk (rg (st (v := (Sl (some ⟨b3, 0, none⟩) s8.1 c4)) (rv_move rfl) (st (v := (I s8.2)) (rv_move rfl) (st (v := (Sl Ad Aa Ae)) (rv_move rfl) (st (v := (I s8.2)) (rv_move rfl) ?_))))))))
   obtain ⟨x13, hx14, h'⟩ := bind_some h
   clear h
   have h := h'; clear h'
   obtain ⟨b16, o17, hi15, -⟩ := (H.ro 0 rfl).ix hx14
   refine st (v := (pt b16 o17)) (rv_ix Try.underlying23 ti3 rfl rfl hi15) ?_
   have hc18 := ((H.ro 0 rfl).at hx14 hi15).int
   refine st (v := (I x13)) (rv_load1 Try.underlying3 rfl rfl hc18) ?_
   obtain ⟨x19, hx20, h'⟩ := bind_some h
   clear h
   have h := h'; clear h'
   obtain ⟨b22, o23, hi21, -⟩ := (H.own 1 rfl).ix hx20
   refine st (v := (pt b22 o23)) (rv_ix Try.underlying23 ti3 rfl rfl hi21) ?_
   refine st_exS (ex_store_own (e' := x13) (vs := [(I x13)]) (k := 0) H (i := 1) rfl ti3 hx20 hi21 rfl rfl rfl rfl rfl (Nat.le_of_ble_eq_true rfl) (by simp [plain]) (by rintro _ rfl; exact rfl)) wn ?_
   rintro σ24 ⟨H, -⟩
   have hsl : (Sl (some ⟨b3, 0, none⟩) s8.1 c4) = (Sl (some ⟨b3, 0, none⟩) (s8.1.set s8.2.toNat x13) c4) := sl_len List.length_set.symm
   rw [hsl]; rw [hsl] at H; clear hsl
   refine w_end (q_blk (q_then (rg (st (v := (I s8.2)) (rv_move rfl) (st (v := (I (w64 (s8.2 + 1)))) (rv_add (a := s8.2) (b := 1) rfl rfl) (st (v := (I (w64 (s8.2 + 1)))) (rv_assign rfl) (w_end (q_then ?_))))))))
   obtain rfl := Option.some.inj h
   exact ⟨_, rfl, _, σ24, fr_join ⟨rfl, rfl, rfl, trivial⟩, rfl, H.sel' [1, 0] rfl rfl, (ht10.trans List.length_set.symm), (List.length_set.trans hn11)⟩
  ·replace h := bif_f hb12 h
   refine c_exit (q_then_x (q_then_x (q_blk_hit ?_)))
   obtain rfl := Option.some.inj h
   obtain rfl := hres _ rfl
   exact ⟨rfl, _, σ9, fr_join ⟨rfl, trivial⟩, rfl, H.sel' [1] rfl rfl, ht10, hn11⟩
 ·clear hj
  have h := h'
  clear h' H
  rintro e a w ⟨rfl, ρ, σ25, rfl, rfl, H, ht26, hn27⟩
  refine q_then (c_seq (rg (st (v := (Sl (some ⟨b3, 0, none⟩) o7 c4)) (rv_move rfl) (st (v := (Sl (some ⟨b3, 0, none⟩) o7 c4)) (rv_assign rfl) (w_end (q_then (c_ret ?_)))))))
  obtain rfl := Option.some.inj h
  exact fin_ret (v := (Sl (some ⟨b3, 0, none⟩) o7 c4)) (results_ok Try.results33 (res_tmp (v := (Sl (some ⟨b3, 0, none⟩) o7 c4)) rfl res_nil) rfl) ⟨(some ⟨b3, 0, none⟩), c4, rfl, rfl, ht26⟩ (H.sel' [0] rfl rfl)

theorem c_laws_toIntSS {Aa : List (List Int)} {Ad : Option Addr} {Ae : Nat} {r : (List (List Int))} (h : M.laws_toIntSS Aa = some r) :
    Cal2 Try.prog 29 [(Sl Ad Aa Ae)] [Ch.ro 0 (Sl Ad Aa Ae) Aa] (fun n0 v L => ∃ (az1 : Option Addr), ∃ (cz2 : Nat), v = (Sl az1 r cz2) ∧ L = [Ch.own n0 n0 (Sl az1 r cz2) r] ∧ cz2 = r.length) := by
 refine cal2 (n := 23) Try.func29 rfl rfl rfl rfl ?_
 intro S0 σ0 n0 hn0 H
 unfold M.laws_toIntSS at h
 refine c_seq (rg (st (v := (.slice none 0 0)) (rv_assign rfl) (w_end (q_then (c_seq (rg (st (v := (Sl Ad Aa Ae)) (rv_move rfl) (st (v := (I (Aa.length : Int))) (rv_len Try.underlying41 rfl) ?_))))))))
 obtain ⟨xs1, hx2, h'⟩ := bind_some h
 clear h
 have h := h'; clear h'
 refine st_ex (ex_make (el := n0) (z0 := ([] : List Int)) (zs := [(.slice none 0 0)]) H hn0 Try.underlying41 ti23 rfl rfl (⟨_, rfl, RS.nil⟩) (by decide) hx2 rfl rfl) wn ?_
 rintro _ σ6 ⟨b3, c4, rfl, ht5, H, -⟩
 replace ht5 := ht5.trans (gmake_len hx2).symm
 refine st (v := (Sl (some ⟨b3, 0, none⟩) xs1 c4)) (rv_assign rfl) (w_end (q_then (c_seq (c_seq (rg (st (v := (I 0)) (rv_assign rfl) (w_end (q_then ?_))))))))
 obtain ⟨o7, hj, h'⟩ := bind_some h
 clear h
 refine c_cut (fun e a w => e = .normal ∧ ∃ (ρ : Nat → Value) (σ : St), a = fr 23 (updL ρ [(3, (Sl (some ⟨b3, 0, none⟩) o7 c4))]) ∧ w = σ.w ∧ Hp S0 σ0 σ [Ch.own n0 n0 (Sl (some ⟨b3, 0, none⟩) o7 c4) o7] ∧ c4 = o7.length ∧ o7.length = xs1.length) ?_ ?_
 ·clear h'
  rename _ = some o7 => h
  refine c_blk (wp_loopM _ h (fun s8 a w => ∃ (ρ : Nat → Value) (σ : St), a = fr 23 (updL ρ [(0, (Sl Ad Aa Ae)), (3, (Sl (some ⟨b3, 0, none⟩) s8.1 c4)), (4, (I s8.2))]) ∧ w = σ.w ∧ Hp S0 σ0 σ [Ch.ro 0 (Sl Ad Aa Ae) Aa, Ch.own n0 n0 (Sl (some ⟨b3, 0, none⟩) s8.1 c4) s8.1] ∧ c4 = s8.1.length ∧ s8.1.length = xs1.length) ⟨_, σ6, fr_join ⟨rfl, rfl, rfl, trivial⟩, rfl, H.sel' [1, 0] rfl rfl, ht5, rfl⟩ ?_)
  clear h H
  rintro s8 a w o ⟨ρ, σ9, rfl, rfl, H, ht10, hn11⟩ h hres
  refine c_seq (c_seq (rg (st (v := (I s8.2)) (rv_move rfl) (st (v := (Sl Ad Aa Ae)) (rv_move rfl) (st (v := (I (Aa.length : Int))) (rv_len Try.underlying41 rfl) (st (v := (B (decide (s8.2 < (Aa.length : Int))))) (rv_lss (a := s8.2) (b := (Aa.length : Int)) rfl rfl) (w_end (q_then ?_))))))))
  refine cd_cond (decide (s8.2 < (Aa.length : Int))) rfl (fun hb12 => ?_) (fun hb12 => ?_)
  ·replace h := bif_t hb12 h
   refine c_skip (q_then (c_seq (c_blk (rg (st (v := (Sl (some ⟨b3, 0, none⟩) s8.1 c4)) (rv_move rfl) (st (v := (I s8.2)) (rv_move rfl) (st (v := (Sl Ad Aa Ae)) (rv_move rfl) (st (v := (I s8.2)) (rv_move rfl) ?_))))))))
   obtain ⟨x13, hx14, h'⟩ := bind_some h
   clear h
   have h := h'; clear h'
   obtain ⟨b16, o17, hi15, -⟩ := (H.ro 0 rfl).ix hx14
   refine st (v := (pt b16 o17)) (rv_ix Try.underlying41 ti23 rfl rfl hi15) ?_
   obtain ⟨v21, hc22, hR20⟩ := ((H.ro 0 rfl).at hx14 hi15).slice
   obtain ⟨a18, c19, rfl⟩ := hR20.isSl
   replace H := H.add (d := Ch.ro 0 (Sl a18 x13 c19) x13) hR20 (fun _ h => h)
   clear hR20
   refine st (v := (Sl a18 x13 c19)) (rv_load1 Try.underlying23 rfl rfl hc22) ?_
   obtain ⟨r23, hx24, h'⟩ := bind_some h
   clear h
   have h := h'; clear h'
   have hc25 := c_laws_toIntS (Ad := a18) (Ae := c19) hx24
   refine st_call (cx_call hc25 (ent_f hc25.fn rfl) hn0 (H.sel' [0, 0, 1, 2] rfl rfl : Hp S0 σ0 _ ([_] ++ _))) wn ?_
   rintro _ σ29 ⟨_, ⟨a26, c27, rfl, rfl, ht28⟩, H, -⟩
   replace H : Hp _ _ _ [_, _, _, _] := H
   obtain ⟨x30, hx31, h'⟩ := bind_some h
   clear h
   have h := h'; clear h'
   obtain ⟨b33, o34, hi32, -⟩ := (H.own 3 rfl).ix hx31
   refine st (v := (pt b33 o34)) (rv_ix Try.underlying41 ti23 rfl rfl hi32) ?_
   obtain ⟨σ35, hw36, H, -⟩ := H.pub 0 rfl (Nat.le_refl _)
   rw [← hw36]; clear hw36
   refine st_exS (ex_store_own (e' := r23) (vs := [(Sl a26 r23 c27)]) (k := 0) H (i := 3) rfl ti23 hx31 hi32 rfl rfl rfl rfl rfl (Nat.le_of_ble_eq_true rfl) (by simp [plain]) (by rintro _ ⟨_, rfl, hR39⟩; exact ⟨_, rfl, (H.ro 0 rfl)⟩)) wn ?_
   rintro σ40 ⟨H, -⟩
   have hsl : (Sl (some ⟨b3, 0, none⟩) s8.1 c4) = (Sl (some ⟨b3, 0, none⟩) (s8.1.set s8.2.toNat r23) c4) := sl_len List.length_set.symm
   rw [hsl]; rw [hsl] at H; clear hsl
   refine w_end (q_blk (q_then (rg (st (v := (I s8.2)) (rv_move rfl) (st (v := (I (w64 (s8.2 + 1)))) (rv_add (a := s8.2) (b := 1) rfl rfl) (st (v := (I (w64 (s8.2 + 1)))) (rv_assign rfl) (w_end (q_then ?_))))))))
   obtain rfl := Option.some.inj h
   exact ⟨_, rfl, _, σ40, fr_join ⟨rfl, rfl, rfl, trivial⟩, rfl, H.sel' [3, 0] rfl rfl, (ht10.trans List.length_set.symm), (List.length_set.trans hn11)⟩
  ·replace h := bif_f hb12 h
   refine c_exit (q_then_x (q_then_x (q_blk_hit ?_)))
   obtain rfl := Option.some.inj h
   obtain rfl := hres _ rfl
   exact ⟨rfl, _, σ9, fr_join ⟨rfl, trivial⟩, rfl, H.sel' [1] rfl rfl, ht10, hn11⟩
 ·clear hj
  have h := h'
  clear h' H
  rintro e a w ⟨rfl, ρ, σ41, rfl, rfl, H, ht42, hn43⟩
  refine q_then (c_seq (rg (st (v := (Sl (some ⟨b3, 0, none⟩) o7 c4)) (rv_move rfl) (st (v := (Sl (some ⟨b3, 0, none⟩) o7 c4)) (rv_assign rfl) (w_end (q_then (c_ret ?_)))))))
  obtain rfl := Option.some.inj h
  exact fin_ret (v := (Sl (some ⟨b3, 0, none⟩) o7 c4)) (results_ok Try.results29 (res_tmp (v := (Sl (some ⟨b3, 0, none⟩) o7 c4)) rfl res_nil) rfl) ⟨(some ⟨b3, 0, none⟩), c4, rfl, rfl, ht42⟩ (H.sel' [0] rfl rfl)

theorem c_laws_eqIntS {Aa : List Int} {Af : List Int} {Ad : Option Addr} {Ae : Nat} {Ag : Option Addr} {Ah : Nat} {r : Bool} (h : M.laws_eqIntS Aa Af = some r) :
    Cal2 Try.prog 35 [(Sl Ad Aa Ae), (Sl Ag Af Ah)] [Ch.ro 0 (Sl Ad Aa Ae) Aa, Ch.ro 0 (Sl Ag Af Ah) Af] (fun n0 v L => v = (B r) ∧ L = []) := by
 refine cal2 (n := 26) Try.func35 rfl rfl rfl rfl ?_
 intro S0 σ0 n0 hn0 H
 unfold M.laws_eqIntS at h
 refine c_seq (rg (st (v := (B false)) (rv_assign rfl) (w_end (q_then (c_seq (c_seq (rg (st (v := (Sl Ad Aa Ae)) (rv_move rfl) (st (v := (I (Aa.length : Int))) (rv_len Try.underlying23 rfl) (st (v := (Sl Ag Af Ah)) (rv_move rfl) (st (v := (I (Af.length : Int))) (rv_len Try.underlying23 rfl) ?_)))))))))))
 refine st (v := (B ((Aa.length : Int) != (Af.length : Int)))) (rv_neq (a := (Aa.length : Int)) (b := (Af.length : Int)) rfl rfl) (w_end (q_then ?_))
 refine cd_cond ((Aa.length : Int) != (Af.length : Int)) rfl (fun hb1 => ?_) (fun hb1 => ?_)
 ·replace h := bif_t hb1 h
  refine c_seq (rg (st (v := (B false)) (rv_assign rfl) (w_end (q_then (c_ret (q_then_r ?_))))))
  obtain rfl := Option.some.inj h
  exact fin_ret (v := (B false)) (results_ok Try.results35 (res_tmp (v := (B false)) rfl res_nil) rfl) ⟨rfl, rfl⟩ (H.sel' [] rfl rfl)
 ·replace h := bif_f hb1 h
  refine c_skip (q_then (c_seq (c_seq (rg (st (v := (I 0)) (rv_assign rfl) (w_end (q_then ?_)))))))
  obtain ⟨o2, hj, h'⟩ := bind_some h
  clear h
  refine c_cut (fun e a w => (∃ t, o2 = (.inl t) ∧ e = .normal ∧ ∃ (ρ : Nat → Value) (σ : St), a = fr 26 (updL ρ []) ∧ w = σ.w ∧ Hp S0 σ0 σ []) ∨ (∃ t, o2 = (.inr t) ∧ e = .ret ∧ ∃ (ρ : Nat → Value) (σ : St), a = fr 26 (updL ρ [(4, (B t))]) ∧ w = σ.w ∧ Hp S0 σ0 σ [])) ?_ ?_
  ·clear h'
   rename _ = some o2 => h
   refine c_blk (wp_loopM _ h (fun s3 a w => ∃ (ρ : Nat → Value) (σ : St), a = fr 26 (updL ρ [(0, (Sl Ad Aa Ae)), (1, (Sl Ag Af Ah)), (5, (I s3))]) ∧ w = σ.w ∧ Hp S0 σ0 σ [Ch.ro 0 (Sl Ad Aa Ae) Aa, Ch.ro 0 (Sl Ag Af Ah) Af]) ⟨_, σ0, fr_join ⟨rfl, rfl, rfl, trivial⟩, rfl, H.sel' [0, 1] rfl rfl⟩ ?_)
   clear h H
   rintro s3 a w o ⟨ρ, σ4, rfl, rfl, H⟩ h hres
   refine c_seq (c_seq (rg (st (v := (I s3)) (rv_move rfl) (st (v := (Sl Ad Aa Ae)) (rv_move rfl) (st (v := (I (Aa.length : Int))) (rv_len Try.underlying23 rfl) (st (v := (B (decide (s3 < (Aa.length : Int))))) (rv_lss (a := s3) (b := (Aa.length : Int)) rfl rfl) (w_end (q_then ?_))))))))
   refine cd_cond (decide (s3 < (Aa.length : Int))) rfl (fun hb5 => ?_) (fun hb5 => ?_)
   ·replace h := bif_t hb5 h
    refine c_skip (q_then (c_seq (c_blk (c_seq ?_))))
    refine rgP (σ := σ4) 8 (by kernel_rfl) (by kernel_rfl) (by kernel_rfl) ?_
    refine sq (v := (Sl Ad Aa Ae)) (rv_move rfl) (sq (v := (I s3)) (rv_move rfl) ?_)
    obtain ⟨x6, hx7, h'⟩ := bind_some h
    clear h
    have h := h'; clear h'
    obtain ⟨b9, o10, hi8, -⟩ := (H.ro 0 rfl).ix hx7
    refine sq (v := (pt b9 o10)) (rv_ix Try.underlying23 ti3 rfl rfl hi8) ?_
    have hc11 := ((H.ro 0 rfl).at hx7 hi8).int
    refine sq (v := (I x6)) (rv_load1 Try.underlying3 rfl rfl hc11) (sq (v := (Sl Ag Af Ah)) (rv_move rfl) (sq (v := (I s3)) (rv_move rfl) ?_))
    obtain ⟨x12, hx13, h'⟩ := bind_some h
    clear h
    have h := h'; clear h'
    obtain ⟨b15, o16, hi14, -⟩ := (H.ro 1 rfl).ix hx13
    refine sq (v := (pt b15 o16)) (rv_ix Try.underlying23 ti3 rfl rfl hi14) ?_
    have hc17 := ((H.ro 1 rfl).at hx13 hi14).int
    refine sq (v := (I x12)) (rv_load1 Try.underlying3 rfl rfl hc17) (sq_end ?_)
    intro σ18 hm19
    replace H := H.grow (hm19.mono fun _ h => h); clear hm19
    refine st (v := (B (x6 != x12))) (rv_neq (a := x6) (b := x12) rfl rfl) (w_end (q_then ?_))
    refine cd_cond (x6 != x12) rfl (fun hb20 => ?_) (fun hb20 => ?_)
    ·replace h := bif_t hb20 h
     refine c_seq (rg (st (v := (B false)) (rv_assign rfl) (w_end (q_then (c_ret (q_blk_r (q_then_r (q_then_r (q_blk_r ?_)))))))))
     obtain rfl := Option.some.inj h
     obtain rfl := hres _ rfl
     exact .inr (⟨_, rfl, rfl, _, σ18, fr_join ⟨rfl, trivial⟩, rfl, H.sel' [] rfl rfl⟩)
    ·replace h := bif_f hb20 h
     refine c_skip (q_blk (q_then (rg (st (v := (I s3)) (rv_move rfl) (st (v := (I (w64 (s3 + 1)))) (rv_add (a := s3) (b := 1) rfl rfl) (st (v := (I (w64 (s3 + 1)))) (rv_assign rfl) (w_end (q_then ?_))))))))
     obtain rfl := Option.some.inj h
     exact ⟨_, rfl, _, σ18, fr_join ⟨rfl, rfl, rfl, trivial⟩, rfl, H.sel' [0, 1] rfl rfl⟩
   ·replace h := bif_f hb5 h
    refine c_exit (q_then_x (q_then_x (q_blk_hit ?_)))
    obtain rfl := Option.some.inj h
    obtain rfl := hres _ rfl
    exact .inl ⟨_, rfl, rfl, _, σ4, fr_join trivial, rfl, H.sel' [] rfl rfl⟩
  ·clear hj
   have h := h'
   clear h' H
   rintro e a w (⟨t21, rfl, rfl, ρ, σ22, rfl, rfl, H⟩ | ⟨t23, rfl, rfl, ρ, σ24, rfl, rfl, H⟩)
   ·replace h := selim_l h
    refine q_then (c_seq (rg (st (v := (B true)) (rv_assign rfl) (w_end (q_then (c_ret ?_))))))
    obtain rfl := Option.some.inj h
    exact fin_ret (v := (B true)) (results_ok Try.results35 (res_tmp (v := (B true)) rfl res_nil) rfl) ⟨rfl, rfl⟩ (H.sel' [] rfl rfl)
   ·replace h := selim_r h
    refine q_then_r ?_
    obtain rfl := Option.some.inj h
    exact fin_ret (v := (B t23)) (results_ok Try.results35 (res_tmp (v := (B t23)) rfl res_nil) rfl) ⟨rfl, rfl⟩ (H.sel' [] rfl rfl)

theorem c_laws_eqIntSS {Aa : List (List Int)} {Af : List (List Int)} {Ad : Option Addr} {Ae : Nat} {Ag : Option Addr} {Ah : Nat} {r : Bool} (h : M.laws_eqIntSS Aa Af = some r) :
    Cal2 Try.prog 31 [(Sl Ad Aa Ae), (Sl Ag Af Ah)] [Ch.ro 0 (Sl Ad Aa Ae) Aa, Ch.ro 0 (Sl Ag Af Ah) Af] (fun n0 v L => v = (B r) ∧ L = []) := by
 refine cal2 (n := 27) Try.func31 rfl rfl rfl rfl ?_
 intro S0 σ0 n0 hn0 H
 unfold M.laws_eqIntSS at h
 refine c_seq (rg (st (v := (B false)) (rv_assign rfl) (w_end (q_then (c_seq (c_seq (rg (st (v := (Sl Ad Aa Ae)) (rv_move rfl) (st (v := (I (Aa.length : Int))) (rv_len Try.underlying41 rfl) (st (v := (Sl Ag Af Ah)) (rv_move rfl) (st (v := (I (Af.length : Int))) (rv_len Try.underlying41 rfl) ?_)))))))))))
 refine st (v := (B ((Aa.length : Int) != (Af.length : Int)))) (rv_neq (a := (Aa.length : Int)) (b := (Af.length : Int)) rfl rfl) (w_end (q_then ?_))
 refine cd_cond ((Aa.length : Int) != (Af.length : Int)) rfl (fun hb1 => ?_) (fun hb1 => ?_)
 ·replace h := bif_t hb1 h
  refine c_seq (rg (st (v := (B false)) (rv_assign rfl) (w_end (q_then (c_ret (q_then_r ?_))))))
  obtain rfl := Option.some.inj h
  exact fin_ret (v := (B false)) (results_ok Try.results31 (res_tmp (v := (B false)) rfl res_nil) rfl) ⟨rfl, rfl⟩ (H.sel' [] rfl rfl)
 ·replace h := bif_f hb1 h
  refine c_skip (q_then (c_seq (c_seq (rg (st (v := (I 0)) (rv_assign rfl) (w_end (q_then ?_)))))))
  obtain ⟨o2, hj, h'⟩ := bind_some h
  clear h
  refine c_cut (fun e a w => (∃ t, o2 = (.inl t) ∧ e = .normal ∧ ∃ (ρ : Nat → Value) (σ : St), a = fr 27 (updL ρ []) ∧ w = σ.w ∧ Hp S0 σ0 σ []) ∨ (∃ t, o2 = (.inr t) ∧ e = .ret ∧ ∃ (ρ : Nat → Value) (σ : St), a = fr 27 (updL ρ [(4, (B t))]) ∧ w = σ.w ∧ Hp S0 σ0 σ [])) ?_ ?_
  ·clear h'
   rename _ = some o2 => h
   refine c_blk (wp_loopM _ h (fun s3 a w => ∃ (ρ : Nat → Value) (σ : St), a = fr 27 (updL ρ [(0, (Sl Ad Aa Ae)), (1, (Sl Ag Af Ah)), (5, (I s3))]) ∧ w = σ.w ∧ Hp S0 σ0 σ [Ch.ro 0 (Sl Ad Aa Ae) Aa, Ch.ro 0 (Sl Ag Af Ah) Af]) ⟨_, σ0, fr_join ⟨rfl, rfl, rfl, trivial⟩, rfl, H.sel' [0, 1] rfl rfl⟩ ?_)
   clear h H
   rintro s3 a w o ⟨ρ, σ4, rfl, rfl, H⟩ h hres
   refine c_seq (c_seq (rg (st (v := (I s3)) (rv_move rfl) (st (v := (Sl Ad Aa Ae)) (rv_move rfl) (st (v := (I (Aa.length : Int))) (rv_len Try.underlying41 rfl) (st (v := (B (decide (s3 < (Aa.length : Int))))) (rv_lss (a := s3) (b := (Aa.length : Int)) rfl rfl) (w_end (q_then ?_))))))))
   refine cd_cond (decide (s3 < (Aa.length : Int))) rfl (fun hb5 => ?_) (fun hb5 => ?_)
   ·replace h := bif_t hb5 h
    refine c_skip (q_then (c_seq (c_blk (c_seq ?_))))
    refine rgP (σ := σ4) 8 (by kernel_rfl) (by kernel_rfl) (by kernel_rfl) ?_
    refine sq (v := (Sl Ad Aa Ae)) (rv_move rfl) (sq (v := (I s3)) (rv_move rfl) ?_)
    obtain ⟨x6, hx7, h'⟩ := bind_some h
    clear h
    have h := h'; clear h'
    obtain ⟨b9, o10, hi8, -⟩ := (H.ro 0 rfl).ix hx7
    refine sq (v := (pt b9 o10)) (rv_ix Try.underlying41 ti23 rfl rfl hi8) ?_
    obtain ⟨v14, hc15, hR13⟩ := ((H.ro 0 rfl).at hx7 hi8).slice
    obtain ⟨a11, c12, rfl⟩ := hR13.isSl
    replace H := H.add (d := Ch.ro 0 (Sl a11 x6 c12) x6) hR13 (fun _ h => h)
    clear hR13
    refine sq (v := (Sl a11 x6 c12)) (rv_load1 Try.underlying23 rfl rfl hc15) (sq (v := (Sl Ag Af Ah)) (rv_move rfl) (sq (v := (I s3)) (rv_move rfl) ?_))
    obtain ⟨x16, hx17, h'⟩ := bind_some h
    clear h
    have h := h'; clear h'
    obtain ⟨b19, o20, hi18, -⟩ := (H.ro 2 rfl).ix hx17
    refine sq (v := (pt b19 o20)) (rv_ix Try.underlying41 ti23 rfl rfl hi18) ?_
    obtain ⟨v24, hc25, hR23⟩ := ((H.ro 2 rfl).at hx17 hi18).slice
    obtain ⟨a21, c22, rfl⟩ := hR23.isSl
    replace H := H.add (d := Ch.ro 0 (Sl a21 x16 c22) x16) hR23 (fun _ h => h)
    clear hR23
    refine sq (v := (Sl a21 x16 c22)) (rv_load1 Try.underlying23 rfl rfl hc25) (sq_end ?_)
    intro σ26 hm27
    replace H := H.grow (hm27.mono fun _ h => h); clear hm27
    obtain ⟨r28, hx29, h'⟩ := bind_some h
    clear h
    have h := h'; clear h'
    have hc30 := c_laws_eqIntS (Ad := a11) (Ae := c12) (Ag := a21) (Ah := c22) hx29
    refine st_call (cx_call hc30 (ent_f hc30.fn rfl) hn0 (H.sel' [1, 0, 0, 1, 2, 3] rfl rfl : Hp S0 σ0 _ ([_, _] ++ _))) wn ?_
    rintro _ σ31 ⟨_, ⟨rfl, rfl⟩, H, -⟩
    replace H : Hp _ _ _ [_, _, _, _] := H
    refine st (v := (B (!r28))) (rv_not rfl) (w_end (q_then ?_))
    refine cd_cond (!r28) rfl (fun hb32 => ?_) (fun hb32 => ?_)
    ·replace h := bif_t hb32 h
     refine c_seq (rg (st (v := (B false)) (rv_assign rfl) (w_end (q_then (c_ret (q_blk_r (q_then_r (q_then_r (q_blk_r ?_)))))))))
     obtain rfl := Option.some.inj h
     obtain rfl := hres _ rfl
     exact .inr (⟨_, rfl, rfl, _, σ31, fr_join ⟨rfl, trivial⟩, rfl, H.sel' [] rfl rfl⟩)
    ·replace h := bif_f hb32 h
     refine c_skip (q_blk (q_then (rg (st (v := (I s3)) (rv_move rfl) (st (v := (I (w64 (s3 + 1)))) (rv_add (a := s3) (b := 1) rfl rfl) (st (v := (I (w64 (s3 + 1)))) (rv_assign rfl) (w_end (q_then ?_))))))))
     obtain rfl := Option.some.inj h
     exact ⟨_, rfl, _, σ31, fr_join ⟨rfl, rfl, rfl, trivial⟩, rfl, H.sel' [2, 3] rfl rfl⟩
   ·replace h := bif_f hb5 h
    refine c_exit (q_then_x (q_then_x (q_blk_hit ?_)))
    obtain rfl := Option.some.inj h
    obtain rfl := hres _ rfl
    exact .inl ⟨_, rfl, rfl, _, σ4, fr_join trivial, rfl, H.sel' [] rfl rfl⟩
  ·clear hj
   have h := h'
   clear h' H
   rintro e a w (⟨t33, rfl, rfl, ρ, σ34, rfl, rfl, H⟩ | ⟨t35, rfl, rfl, ρ, σ36, rfl, rfl, H⟩)
   ·replace h := selim_l h
    refine q_then (c_seq (rg (st (v := (B true)) (rv_assign rfl) (w_end (q_then (c_ret ?_))))))
    obtain rfl := Option.some.inj h
    exact fin_ret (v := (B true)) (results_ok Try.results31 (res_tmp (v := (B true)) rfl res_nil) rfl) ⟨rfl, rfl⟩ (H.sel' [] rfl rfl)
   ·replace h := selim_r h
    refine q_then_r ?_
    obtain rfl := Option.some.inj h
    exact fin_ret (v := (B t35)) (results_ok Try.results31 (res_tmp (v := (B t35)) rfl res_nil) rfl) ⟨rfl, rfl⟩ (H.sel' [] rfl rfl)

theorem c_spec_inRange {Ai : Int} {Aj : Int} {Ak : Int}  {r : Bool} (h : M.spec_inRange Ai Aj Ak = some r) :
    Cal2 Try.prog 85 [(I Ai), (I Aj), (I Ak)] [] (fun n0 v L => v = (B r) ∧ L = []) := by
 refine cal2 (n := 15) Try.func85 rfl rfl rfl rfl ?_
 intro S0 σ0 n0 hn0 H
 unfold M.spec_inRange at h
 refine c_seq (rg (st (v := (B false)) (rv_assign rfl) (w_end (q_then (c_seq (rg (st (v := (I Aj)) (rv_move rfl) (st (v := (I Ai)) (rv_move rfl) (st (v := (B (decide (Aj ≤ Ai)))) (rv_leq (a := Aj) (b := Ai) rfl rfl) (st (v := (B (decide (Aj ≤ Ai)))) (rv_move rfl) ?_))))))))))
 rcases Bool.eq_false_or_eq_true (decide (Aj ≤ Ai)) with hb1 | hb1
 ·replace h := bif_t hb1 h
  refine st_g (v := (I Ai)) (congrArg some hb1) (rv_move rfl) (st_g (v := (I Ak)) (congrArg some hb1) (rv_move rfl) (st_g (v := (B (decide (Ai ≤ Ak)))) (congrArg some hb1) (rv_leq (a := Ai) (b := Ak) rfl rfl) (st (v := (B (decide (Ai ≤ Ak)))) (rv_pick_t (congrArg B hb1) rfl) (st (v := (B (decide (Ai ≤ Ak)))) (rv_assign rfl) (w_end (q_then (c_ret ?_)))))))
  obtain rfl := Option.some.inj h
  exact fin_ret (v := (B (decide (Ai ≤ Ak)))) (results_ok Try.results85 (res_tmp (v := (B (decide (Ai ≤ Ak)))) rfl res_nil) rfl) ⟨rfl, rfl⟩ (H.sel' [] rfl rfl)
 ·replace h := bif_f hb1 h
  refine st_skip (congrArg some hb1) (st_skip (congrArg some hb1) (st_skip (congrArg some hb1) (st (v := (B false)) (rv_pick_f (congrArg B hb1) rfl) (st (v := (B false)) (rv_assign rfl) (w_end (q_then (c_ret ?_)))))))
  obtain rfl := Option.some.inj h
  exact fin_ret (v := (B false)) (results_ok Try.results85 (res_tmp (v := (B false)) rfl res_nil) rfl) ⟨rfl, rfl⟩ (H.sel' [] rfl rfl)

theorem c_spec_allIn {Am : List Int} {Aj : Int} {Ak : Int} {Ao : Option Addr} {Ap : Nat} {r : Bool} (h : M.spec_allIn Am Aj Ak = some r) :
    Cal2 Try.prog 100 [(Sl Ao Am Ap), (I Aj), (I Ak)] [Ch.ro 0 (Sl Ao Am Ap) Am] (fun n0 v L => v = (B r) ∧ L = []) := by
 refine cal2 (n := 22) Try.func100 rfl rfl rfl rfl ?_
 intro S0 σ0 n0 hn0 H
 unfold M.spec_allIn at h
 refine c_seq (rg (st (v := (B false)) (rv_assign rfl) (w_end (q_then (c_seq (c_seq (rg (st (v := (I 0)) (rv_assign rfl) (w_end (q_then ?_))))))))))
 obtain ⟨o1, hj, h'⟩ := bind_some h
 clear h
 refine c_cut (fun e a w => (∃ t, o1 = (.inl t) ∧ e = .normal ∧ ∃ (ρ : Nat → Value) (σ : St), a = fr 22 (updL ρ []) ∧ w = σ.w ∧ Hp S0 σ0 σ []) ∨ (∃ t, o1 = (.inr t) ∧ e = .ret ∧ ∃ (ρ : Nat → Value) (σ : St), a = fr 22 (updL ρ [(6, (B t))]) ∧ w = σ.w ∧ Hp S0 σ0 σ [])) ?_ ?_
 ·clear h'
  rename _ = some o1 => h
  refine c_blk (wp_loopM _ h (fun s2 a w => ∃ (ρ : Nat → Value) (σ : St), a = fr 22 (updL ρ [(0, (Sl Ao Am Ap)), (1, (I Aj)), (2, (I Ak)), (7, (I s2))]) ∧ w = σ.w ∧ Hp S0 σ0 σ [Ch.ro 0 (Sl Ao Am Ap) Am]) ⟨_, σ0, fr_join ⟨rfl, rfl, rfl, rfl, trivial⟩, rfl, H.sel' [0] rfl rfl⟩ ?_)
  clear h H
  rintro s2 a w o ⟨ρ, σ3, rfl, rfl, H⟩ h hres
  refine c_seq (c_seq (rg (st (v := (I s2)) (rv_move rfl) (st (v := (Sl Ao Am Ap)) (rv_move rfl) (st (v := (I (Am.length : Int))) (rv_len Try.underlying23 rfl) (st (v := (B (decide (s2 < (Am.length : Int))))) (rv_lss (a := s2) (b := (Am.length : Int)) rfl rfl) (w_end (q_then ?_))))))))
  refine cd_cond (decide (s2 < (Am.length : Int))) rfl (fun hb4 => ?_) (fun hb4 => ?_)
  ·replace h := bif_t hb4 h
   refine c_skip (q_then (c_seq (c_blk (c_seq (rg (st (v := (Sl Ao Am Ap)) (rv_move rfl) (st (v := (I s2)) (rv_move rfl) ?_)))))))
   obtain ⟨x5, hx6, h'⟩ := bind_some h
   clear h
   have h := h'; clear h'
   obtain ⟨b8, o9, hi7, -⟩ := (H.ro 0 rfl).ix hx6
   refine st (v := (pt b8 o9)) (rv_ix Try.underlying23 ti3 rfl rfl hi7) ?_
   have hc10 := ((H.ro 0 rfl).at hx6 hi7).int
   refine st (v := (I x5)) (rv_load1 Try.underlying3 rfl rfl hc10) (st (v := (I Aj)) (rv_move rfl) (st (v := (I Ak)) (rv_move rfl) ?_))
   obtain ⟨r11, hx12, h'⟩ := bind_some h
   clear h
   have h := h'; clear h'
   have hc13 := c_spec_inRange hx12
   refine st_call (cx_call hc13 (ent_f hc13.fn rfl) hn0 (H.sel' [0] rfl rfl : Hp S0 σ0 _ ([] ++ _))) wn ?_
   rintro _ σ14 ⟨_, ⟨rfl, rfl⟩, H, -⟩
   replace H : Hp _ _ _ [_] := H
   refine st (v := (B (!r11))) (rv_not rfl) (w_end (q_then ?_))
   refine cd_cond (!r11) rfl (fun hb15 => ?_) (fun hb15 => ?_)
   ·replace h := bif_t hb15 h
    refine c_seq (rg (st (v := (B false)) (rv_assign rfl) (w_end (q_then (c_ret (q_blk_r (q_then_r (q_then_r (q_blk_r ?_)))))))))
    obtain rfl := Option.some.inj h
    obtain rfl := hres _ rfl
    exact .inr (⟨_, rfl, rfl, _, σ14, fr_join ⟨rfl, trivial⟩, rfl, H.sel' [] rfl rfl⟩)
   ·replace h := bif_f hb15 h
    refine c_skip (q_blk (q_then (rg (st (v := (I s2)) (rv_move rfl) (st (v := (I (w64 (s2 + 1)))) (rv_add (a := s2) (b := 1) rfl rfl) (st (v := (I (w64 (s2 + 1)))) (rv_assign rfl) (w_end (q_then ?_))))))))
    obtain rfl := Option.some.inj h
    exact ⟨_, rfl, _, σ14, fr_join ⟨rfl, rfl, rfl, rfl, trivial⟩, rfl, H.sel' [0] rfl rfl⟩
  ·replace h := bif_f hb4 h
   refine c_exit (q_then_x (q_then_x (q_blk_hit ?_)))
   obtain rfl := Option.some.inj h
   obtain rfl := hres _ rfl
   exact .inl ⟨_, rfl, rfl, _, σ3, fr_join trivial, rfl, H.sel' [] rfl rfl⟩
 ·clear hj
  have h := h'
  clear h' H
  rintro e a w (⟨t16, rfl, rfl, ρ, σ17, rfl, rfl, H⟩ | ⟨t18, rfl, rfl, ρ, σ19, rfl, rfl, H⟩)
  ·replace h := selim_l h
   refine q_then (c_seq (rg (st (v := (B true)) (rv_assign rfl) (w_end (q_then (c_ret ?_))))))
   obtain rfl := Option.some.inj h
   exact fin_ret (v := (B true)) (results_ok Try.results100 (res_tmp (v := (B true)) rfl res_nil) rfl) ⟨rfl, rfl⟩ (H.sel' [] rfl rfl)
  ·replace h := selim_r h
   refine q_then_r ?_
   obtain rfl := Option.some.inj h
   exact fin_ret (v := (B t18)) (results_ok Try.results100 (res_tmp (v := (B t18)) rfl res_nil) rfl) ⟨rfl, rfl⟩ (H.sel' [] rfl rfl)

theorem c_spec_isVector {Aq : List Int} {Ar : Option Addr} {As : Nat} {r : Bool} (h : M.spec_isVector Aq = some r) :
    Cal2 Try.prog 69 [(Sl Ar Aq As)] [Ch.ro 0 (Sl Ar Aq As) Aq] (fun n0 v L => v = (B r) ∧ L = []) := by
 refine cal2 (n := 10) Try.func69 rfl rfl rfl rfl ?_
 intro S0 σ0 n0 hn0 H
 unfold M.spec_isVector at h
 refine c_seq (rg (st (v := (B false)) (rv_assign rfl) (w_end (q_then (c_seq (rg (st (v := (Sl Ar Aq As)) (rv_move rfl) (st (v := (I (Aq.length : Int))) (rv_len Try.underlying23 rfl) (st (v := (B ((Aq.length : Int) == 4))) (rv_eql (a := (Aq.length : Int)) (b := 4) rfl rfl) (st (v := (B ((Aq.length : Int) == 4))) (rv_move rfl) ?_))))))))))
 rcases Bool.eq_false_or_eq_true ((Aq.length : Int) == 4) with hb1 | hb1
 ·replace h := bif_t hb1 h
  refine st_g (v := (Sl Ar Aq As)) (congrArg some hb1) (rv_move rfl) ?_
  obtain ⟨r2, hx3, h'⟩ := bind_some h
  clear h
  have h := h'; clear h'
  have hc4 := c_spec_allIn (Ao := Ar) (Ap := As) hx3
  refine st_call (cx_call hc4 (ent_f hc4.fn rfl) hn0 (H.sel' [0, 0] rfl rfl : Hp S0 σ0 _ ([_] ++ _))) (wanted_yes rfl (by exact (congrArg some hb1))) ?_
  rintro _ σ5 ⟨_, ⟨rfl, rfl⟩, H, -⟩
  replace H : Hp _ _ _ [_] := H
  refine st (v := (B r2)) (rv_pick_t (congrArg B hb1) rfl) (st (v := (B r2)) (rv_assign rfl) (w_end (q_then (c_ret ?_))))
  obtain rfl := Option.some.inj h
  exact fin_ret (v := (B r2)) (results_ok Try.results69 (res_tmp (v := (B r2)) rfl res_nil) rfl) ⟨rfl, rfl⟩ (H.sel' [] rfl rfl)
 ·replace h := bif_f hb1 h
  refine st_skip (congrArg some hb1) (st_skip (congrArg some hb1) (st (v := (B false)) (rv_pick_f (congrArg B hb1) rfl) (st (v := (B false)) (rv_assign rfl) (w_end (q_then (c_ret ?_))))))
  obtain rfl := Option.some.inj h
  exact fin_ret (v := (B false)) (results_ok Try.results69 (res_tmp (v := (B false)) rfl res_nil) rfl) ⟨rfl, rfl⟩ (H.sel' [] rfl rfl)

theorem c_spec_validCentres {Am : List (List Int)} {Ao : Option Addr} {Ap : Nat} {r : Bool} (h : M.spec_validCentres Am = some r) :
    Cal2 Try.prog 67 [(Sl Ao Am Ap)] [Ch.ro 0 (Sl Ao Am Ap) Am] (fun n0 v L => v = (B r) ∧ L = []) := by
 refine cal2 (n := 19) Try.func67 rfl rfl rfl rfl ?_
 intro S0 σ0 n0 hn0 H
 unfold M.spec_validCentres at h
 refine c_seq (rg (st (v := (B false)) (rv_assign rfl) (w_end (q_then (c_seq (c_seq (rg (st (v := (I 0)) (rv_assign rfl) (w_end (q_then ?_))))))))))
 obtain ⟨o1, hj, h'⟩ := bind_some h
 clear h
 refine c_cut (fun e a w => (∃ t, o1 = (.inl t) ∧ e = .normal ∧ ∃ (ρ : Nat → Value) (σ : St), a = fr 19 (updL ρ [(0, (Sl Ao Am Ap))]) ∧ w = σ.w ∧ Hp S0 σ0 σ [Ch.ro 0 (Sl Ao Am Ap) Am]) ∨ (∃ t, o1 = (.inr t) ∧ e = .ret ∧ ∃ (ρ : Nat → Value) (σ : St), a = fr 19 (updL ρ [(2, (B t))]) ∧ w = σ.w ∧ Hp S0 σ0 σ [])) ?_ ?_
 ·clear h'
  rename _ = some o1 => h
  refine c_blk (wp_loopM _ h (fun s2 a w => ∃ (ρ : Nat → Value) (σ : St), a = fr 19 (updL ρ [(0, (Sl Ao Am Ap)), (3, (I s2))]) ∧ w = σ.w ∧ Hp S0 σ0 σ [Ch.ro 0 (Sl Ao Am Ap) Am]) ⟨_, σ0, fr_join ⟨rfl, rfl, trivial⟩, rfl, H.sel' [0] rfl rfl⟩ ?_)
  clear h H
  rintro s2 a w o ⟨ρ, σ3, rfl, rfl, H⟩ h hres
  refine c_seq (c_seq (rg (st (v := (I s2)) (rv_move rfl) (st (v := (Sl Ao Am Ap)) (rv_move rfl) (st (v := (I (Am.length : Int))) (rv_len Try.underlying41 rfl) (st (v := (B (decide (s2 < (Am.length : Int))))) (rv_lss (a := s2) (b := (Am.length : Int)) rfl rfl) (w_end (q_then ?_))))))))
  refine cd_cond (decide (s2 < (Am.length : Int))) rfl (fun hb4 => ?_) (fun hb4 => ?_)
  ·replace h := bif_t hb4 h
   refine c_skip (q_then (c_seq (c_blk (c_seq (rg (st (v := (Sl Ao Am Ap)) (rv_move rfl) (st (v := (I s2)) (rv_move rfl) ?_)))))))
   obtain ⟨x5, hx6, h'⟩ := bind_some h
   clear h
   have h := h'; clear h'
   obtain ⟨b8, o9, hi7, -⟩ := (H.ro 0 rfl).ix hx6
   refine st (v := (pt b8 o9)) (rv_ix Try.underlying41 ti23 rfl rfl hi7) ?_
   obtain ⟨v13, hc14, hR12⟩ := ((H.ro 0 rfl).at hx6 hi7).slice
   obtain ⟨a10, c11, rfl⟩ := hR12.isSl
   replace H := H.add (d := Ch.ro 0 (Sl a10 x5 c11) x5) hR12 (fun _ h => h)
   clear hR12
   refine st (v := (Sl a10 x5 c11)) (rv_load1 Try.underlying23 rfl rfl hc14) ?_
   obtain ⟨r15, hx16, h'⟩ := bind_some h
   clear h
   have h := h'; clear h'
   have hc17 := c_spec_isVector (Ar := a10) (As := c11) hx16
   refine st_call (cx_call hc17 (ent_f hc17.fn rfl) hn0 (H.sel' [0, 0, 1] rfl rfl : Hp S0 σ0 _ ([_] ++ _))) wn ?_
   rintro _ σ18 ⟨_, ⟨rfl, rfl⟩, H, -⟩
   replace H : Hp _ _ _ [_, _] := H
   refine st (v := (B (!r15))) (rv_not rfl) (w_end (q_then ?_))
   refine cd_cond (!r15) rfl (fun hb19 => ?_) (fun hb19 => ?_)
   ·replace h := bif_t hb19 h
    refine c_seq (rg (st (v := (B false)) (rv_assign rfl) (w_end (q_then (c_ret (q_blk_r (q_then_r (q_then_r (q_blk_r ?_)))))))))
    obtain rfl := Option.some.inj h
    obtain rfl := hres _ rfl
    exact .inr (⟨_, rfl, rfl, _, σ18, fr_join ⟨rfl, trivial⟩, rfl, H.sel' [] rfl rfl⟩)
   ·replace h := bif_f hb19 h
    refine c_skip (q_blk (q_then (rg (st (v := (I s2)) (rv_move rfl) (st (v := (I (w64 (s2 + 1)))) (rv_add (a := s2) (b := 1) rfl rfl) (st (v := (I (w64 (s2 + 1)))) (rv_assign rfl) (w_end (q_then ?_))))))))
    obtain rfl := Option.some.inj h
    exact ⟨_, rfl, _, σ18, fr_join ⟨rfl, rfl, trivial⟩, rfl, H.sel' [1] rfl rfl⟩
  ·replace h := bif_f hb4 h
   refine c_exit (q_then_x (q_then_x (q_blk_hit ?_)))
   obtain rfl := Option.some.inj h
   obtain rfl := hres _ rfl
   exact .inl ⟨_, rfl, rfl, _, σ3, fr_join ⟨rfl, trivial⟩, rfl, H.sel' [0] rfl rfl⟩
 ·clear hj
  have h := h'
  clear h' H
  rintro e a w (⟨t20, rfl, rfl, ρ, σ21, rfl, rfl, H⟩ | ⟨t26, rfl, rfl, ρ, σ27, rfl, rfl, H⟩)
  ·replace h := selim_l h
   refine q_then (c_seq (rg (st (v := (Sl Ao Am Ap)) (rv_move rfl) (st (v := (I (Am.length : Int))) (rv_len Try.underlying41 rfl) ?_))))
   obtain ⟨r22, hx23, h'⟩ := bind_some h
   clear h
   have h := h'; clear h'
   have hc24 := c_spec_inRange hx23
   refine st_call (cx_call hc24 (ent_f hc24.fn rfl) hn0 (H.sel' [0] rfl rfl : Hp S0 σ0 _ ([] ++ _))) wn ?_
   rintro _ σ25 ⟨_, ⟨rfl, rfl⟩, H, -⟩
   replace H : Hp _ _ _ [_] := H
   refine st (v := (B r22)) (rv_assign rfl) (w_end (q_then (c_ret ?_)))
   obtain rfl := Option.some.inj h
   exact fin_ret (v := (B r22)) (results_ok Try.results67 (res_tmp (v := (B r22)) rfl res_nil) rfl) ⟨rfl, rfl⟩ (H.sel' [] rfl rfl)
  ·replace h := selim_r h
   refine q_then_r ?_
   obtain rfl := Option.some.inj h
   exact fin_ret (v := (B t26)) (results_ok Try.results67 (res_tmp (v := (B t26)) rfl res_nil) rfl) ⟨rfl, rfl⟩ (H.sel' [] rfl rfl)

theorem c_spec_toInt {Au : Bool}  {r : Int} (h : M.spec_toInt Au = some r) :
    Cal2 Try.prog 92 [(B Au)] [] (fun n0 v L => v = (I r) ∧ L = []) := by
 refine cal2 (n := 4) Try.func92 rfl rfl rfl rfl ?_
 intro S0 σ0 n0 hn0 H
 unfold M.spec_toInt at h
 refine c_seq (rg (st (v := (I 0)) (rv_assign rfl) (w_end (q_then (c_seq (c_seq (rg (st (v := (B Au)) (rv_move rfl) (w_end (q_then ?_))))))))))
 refine cd_cond Au rfl (fun hb1 => ?_) (fun hb1 => ?_)
 ·replace h := bif_t hb1 h
  refine c_seq (rg (st (v := (I 1)) (rv_assign rfl) (w_end (q_then (c_ret (q_then_r ?_))))))
  obtain rfl := Option.some.inj h
  exact fin_ret (v := (I 1)) (results_ok Try.results92 (res_tmp (v := (I 1)) rfl res_nil) rfl) ⟨rfl, rfl⟩ (H.sel' [] rfl rfl)
 ·replace h := bif_f hb1 h
  refine c_skip (q_then (c_seq (rg (st (v := (I 0)) (rv_assign rfl) (w_end (q_then (c_ret ?_)))))))
  obtain rfl := Option.some.inj h
  exact fin_ret (v := (I 0)) (results_ok Try.results92 (res_tmp (v := (I 0)) rfl res_nil) rfl) ⟨rfl, rfl⟩ (H.sel' [] rfl rfl)

theorem c_spec_size {Ai : Int}  {r : Int} (h : M.spec_size Ai = some r) :
    Cal2 Try.prog 105 [(I Ai)] [] (fun n0 v L => v = (I r) ∧ L = []) := by
 refine cal2 (n := 7) Try.func105 rfl rfl rfl rfl ?_
 intro S0 σ0 n0 hn0 H
 unfold M.spec_size at h
 refine c_seq (rg (st (v := (I 0)) (rv_assign rfl) (w_end (q_then (c_seq (rg (st (v := (I Ai)) (rv_move rfl) (st (v := (I Ai)) (rv_move rfl) (st (v := (I (w64 (0 - Ai)))) (rv_neg (a := Ai) rfl) (st (v := (I (max Ai (w64 (0 - Ai))))) (rv_max rfl rfl) (st (v := (I (max Ai (w64 (0 - Ai))))) (rv_assign rfl) ?_)))))))))))
 refine w_end (q_then (c_ret ?_))
 obtain rfl := Option.some.inj h
 exact fin_ret (v := (I (max Ai (w64 (0 - Ai))))) (results_ok Try.results105 (res_tmp (v := (I (max Ai (w64 (0 - Ai))))) rfl res_nil) rfl) ⟨rfl, rfl⟩ (H.sel' [] rfl rfl)

theorem c_spec_dist {Av : Int} {Aw : List Int} {Ax : List Int} {Ay : Option Addr} {Az : Nat} {Ba : Option Addr} {Bb : Nat} {r : Int} (h : M.spec_dist Av Aw Ax = some r) :
    Cal2 Try.prog 82 [(I Av), (Sl Ay Aw Az), (Sl Ba Ax Bb)] [Ch.ro 0 (Sl Ay Aw Az) Aw, Ch.ro 0 (Sl Ba Ax Bb) Ax] (fun n0 v L => v = (I r) ∧ L = []) := by
 refine cal2 (n := 50) Try.func82 rfl rfl rfl rfl ?_
 intro S0 σ0 n0 hn0 H
 unfold M.spec_dist at h
 refine c_seq (rg (st (v := (I 0)) (rv_assign rfl) (w_end (q_then (c_seq (rg (st (v := (I 0)) (rv_assign rfl) (w_end (q_then (c_seq (c_seq ?_)))))))))))
 refine rg (st (v := (I 0)) (rv_assign rfl) (w_end (q_then ?_)))
 obtain ⟨o1, hj, h'⟩ := bind_some h
 clear h
 refine c_cut (fun e a w => e = .normal ∧ ∃ (ρ : Nat → Value) (σ : St), a = fr 50 (updL ρ [(7, (I o1))]) ∧ w = σ.w ∧ Hp S0 σ0 σ []) ?_ ?_
 ·clear h'
  rename _ = some o1 => h
  refine c_blk (wp_loopM _ h (fun s2 a w => ∃ (ρ : Nat → Value) (σ : St), a = fr 50 (updL ρ [(0, (I Av)), (1, (Sl Ay Aw Az)), (2, (Sl Ba Ax Bb)), (7, (I s2.1)), (8, (I s2.2))]) ∧ w = σ.w ∧ Hp S0 σ0 σ [Ch.ro 0 (Sl Ay Aw Az) Aw, Ch.ro 0 (Sl Ba Ax Bb) Ax]) ⟨_, σ0, fr_join ⟨rfl, rfl, rfl, rfl, rfl, trivial⟩, rfl, H.sel' [0, 1] rfl rfl⟩ ?_)
  clear h H
  rintro s2 a w o ⟨ρ, σ3, rfl, rfl, H⟩ h hres
  refine c_seq (c_seq (rg (st (v := (I s2.2)) (rv_move rfl) (st (v := (Sl Ay Aw Az)) (rv_move rfl) (st (v := (I (Aw.length : Int))) (rv_len Try.underlying23 rfl) (st (v := (B (decide (s2.2 < (Aw.length : Int))))) (rv_lss (a := s2.2) (b := (Aw.length : Int)) rfl rfl) (w_end (q_then ?_))))))))
  refine cd_cond (decide (s2.2 < (Aw.length : Int))) rfl (fun hb4 => ?_) (fun hb4 => ?_)
  ·replace h := bif_t hb4 h
   refine c_skip (q_then (c_seq ?_))
   obtain ⟨o5, hj, h'⟩ := bind_some h
   clear h
   refine c_cut (fun e a w => e = .normal ∧ ∃ (ρ : Nat → Value) (σ : St), a = fr 50 (updL ρ [(0, (I Av)), (1, (Sl Ay Aw Az)), (2, (Sl Ba Ax Bb)), (7, (I o5)), (8, (I s2.2))]) ∧ w = σ.w ∧ Hp S0 σ0 σ [Ch.ro 0 (Sl Ay Aw Az) Aw, Ch.ro 0 (Sl Ba Ax Bb) Ax]) ?_ ?_
   ·clear h'
    rename _ = some o5 => h
    refine c_blk (c_seq ?_)
    refine rgP (σ := σ3) 8 (by kernel_rfl) (by kernel_rfl) (by kernel_rfl) ?_
    refine sq (v := (Sl Ay Aw Az)) (rv_move rfl) (sq (v := (I s2.2)) (rv_move rfl) ?_)
    obtain ⟨x6, hx7, h'⟩ := bind_some h
    clear h
    have h := h'; clear h'
    obtain ⟨b9, o10, hi8, -⟩ := (H.ro 0 rfl).ix hx7
    refine sq (v := (pt b9 o10)) (rv_ix Try.underlying23 ti3 rfl rfl hi8) ?_
    have hc11 := ((H.ro 0 rfl).at hx7 hi8).int
    refine sq (v := (I x6)) (rv_load1 Try.underlying3 rfl rfl hc11) (sq (v := (Sl Ba Ax Bb)) (rv_move rfl) (sq (v := (I s2.2)) (rv_move rfl) ?_))
    obtain ⟨x12, hx13, h'⟩ := bind_some h
    clear h
    have h := h'; clear h'
    obtain ⟨b15, o16, hi14, -⟩ := (H.ro 1 rfl).ix hx13
    refine sq (v := (pt b15 o16)) (rv_ix Try.underlying23 ti3 rfl rfl hi14) ?_
    have hc17 := ((H.ro 1 rfl).at hx13 hi14).int
    refine sq (v := (I x12)) (rv_load1 Try.underlying3 rfl rfl hc17) (sq_end ?_)
    intro σ18 hm19
    replace H := H.grow (hm19.mono fun _ h => h); clear hm19
    refine st (v := (I (w64 (x6 - x12)))) (rv_sub (a := x6) (b := x12) rfl rfl) ?_
    obtain ⟨r20, hx21, h'⟩ := bind_some h
    clear h
    have h := h'; clear h'
    have hc22 := c_spec_size hx21
    refine st_call (cx_call hc22 (ent_f hc22.fn rfl) hn0 (H.sel' [0, 1] rfl rfl : Hp S0 σ0 _ ([] ++ _))) wn ?_
    rintro _ σ23 ⟨_, ⟨rfl, rfl⟩, H, -⟩
    replace H : Hp _ _ _ [_, _] := H
    refine st (v := (I r20)) (rv_assign rfl) (w_end (q_then (c_seq (rg (st (v := (I Av)) (rv_move rfl) (w_end (q_then (c_blk (c_seq (rg (st (v := (B (Av == 1))) (rv_eql (a := Av) (b := 1) rfl rfl) ?_)))))))))))
    refine st (v := (B (Av == 1))) (rv_assign rfl) (w_end (q_then ?_))
    refine cd_cond (Av == 1) rfl (fun hb24 => ?_) (fun hb24 => ?_)
    ·replace h := bif_t hb24 h
     refine rg (st (v := (I s2.1)) (rv_move rfl) (st (v := (I r20)) (rv_move rfl) (st (v := (I (w64 (s2.1 + r20)))) (rv_add (a := s2.1) (b := r20) rfl rfl) (st (v := (I (w64 (s2.1 + r20)))) (rv_assign rfl) (w_end (q_blk (q_blk ?_)))))))
     obtain rfl := Option.some.inj h
     exact ⟨rfl, _, σ23, fr_join ⟨rfl, rfl, rfl, rfl, rfl, trivial⟩, rfl, H.sel' [0, 1] rfl rfl⟩
    ·replace h := bif_f hb24 h
     refine c_seq (rg (st (v := (B (Av == 2))) (rv_eql (a := Av) (b := 2) rfl rfl) (st (v := (B (Av == 2))) (rv_assign rfl) (w_end (q_then ?_)))))
     refine cd_cond (Av == 2) rfl (fun hb25 => ?_) (fun hb25 => ?_)
     ·replace h := bif_t hb25 h
      refine rg (st (v := (I s2.1)) (rv_move rfl) (st (v := (I r20)) (rv_move rfl) (st (v := (I (max s2.1 r20))) (rv_max rfl rfl) (st (v := (I (max s2.1 r20))) (rv_assign rfl) (w_end (q_blk (q_blk ?_)))))))
      obtain rfl := Option.some.inj h
      exact ⟨rfl, _, σ23, fr_join ⟨rfl, rfl, rfl, rfl, rfl, trivial⟩, rfl, H.sel' [0, 1] rfl rfl⟩
     ·replace h := bif_f hb25 h
      refine c_seq (rg (st (v := (B (Av == 3))) (rv_eql (a := Av) (b := 3) rfl rfl) (st (v := (B (Av == 3))) (rv_assign rfl) (w_end (q_then ?_)))))
      refine cd_cond (Av == 3) rfl (fun hb26 => ?_) (fun hb26 => ?_)
      ·replace h := bif_t hb26 h
       refine rg (st (v := (I s2.1)) (rv_move rfl) (st (v := (I r20)) (rv_move rfl) (st (v := (I r20)) (rv_move rfl) (st (v := (I (w64 (r20 * r20)))) (rv_mul (a := r20) (b := r20) rfl rfl) (st (v := (I (w64 (s2.1 + (w64 (r20 * r20)))))) (rv_add (a := s2.1) (b := (w64 (r20 * r20))) rfl rfl) (st (v := (I (w64 (s2.1 + (w64 (r20 * r20)))))) (rv_assign rfl) (w_end (q_blk (q_blk ?_)))))))))
       obtain rfl := Option.some.inj h
       exact ⟨rfl, _, σ23, fr_join ⟨rfl, rfl, rfl, rfl, rfl, trivial⟩, rfl, H.sel' [0, 1] rfl rfl⟩
      ·replace h := bif_f hb26 h
       refine rg (st (v := (I s2.1)) (rv_move rfl) (st (v := (I r20)) (rv_move rfl) (st (v := (B (decide (0 < r20)))) (rv_gtr (a := r20) (b := 0) rfl rfl) ?_)))
       obtain ⟨r27, hx28, h'⟩ := bind_some h
       clear h
       have h := h'; clear h'
       have hc29 := c_spec_toInt hx28
       refine st_call (cx_call hc29 (ent_f hc29.fn rfl) hn0 (H.sel' [0, 1] rfl rfl : Hp S0 σ0 _ ([] ++ _))) wn ?_
       rintro _ σ30 ⟨_, ⟨rfl, rfl⟩, H, -⟩
       replace H : Hp _ _ _ [_, _] := H
       refine st (v := (I (w64 (s2.1 + r27)))) (rv_add (a := s2.1) (b := r27) rfl rfl) (st (v := (I (w64 (s2.1 + r27)))) (rv_assign rfl) (w_end (q_blk (q_blk ?_))))
       obtain rfl := Option.some.inj h
       exact ⟨rfl, _, σ30, fr_join ⟨rfl, rfl, rfl, rfl, rfl, trivial⟩, rfl, H.sel' [0, 1] rfl rfl⟩
   ·clear hj
    have h := h'
    clear h' H
    rintro e a w ⟨rfl, ρ, σ31, rfl, rfl, H⟩
    refine q_then (rg (st (v := (I s2.2)) (rv_move rfl) (st (v := (I (w64 (s2.2 + 1)))) (rv_add (a := s2.2) (b := 1) rfl rfl) (st (v := (I (w64 (s2.2 + 1)))) (rv_assign rfl) (w_end (q_then ?_))))))
    obtain rfl := Option.some.inj h
    exact ⟨_, rfl, _, σ31, fr_join ⟨rfl, rfl, rfl, rfl, rfl, trivial⟩, rfl, H.sel' [0, 1] rfl rfl⟩
  ·replace h := bif_f hb4 h
   refine c_exit (q_then_x (q_then_x (q_blk_hit ?_)))
   obtain rfl := Option.some.inj h
   obtain rfl := hres _ rfl
   exact ⟨rfl, _, σ3, fr_join ⟨rfl, trivial⟩, rfl, H.sel' [] rfl rfl⟩
 ·clear hj
  have h := h'
  clear h' H
  rintro e a w ⟨rfl, ρ, σ32, rfl, rfl, H⟩
  refine q_then (c_seq (rg (st (v := (I o1)) (rv_move rfl) (st (v := (I o1)) (rv_assign rfl) (w_end (q_then (c_ret ?_)))))))
  obtain rfl := Option.some.inj h
  exact fin_ret (v := (I o1)) (results_ok Try.results82 (res_tmp (v := (I o1)) rfl res_nil) rfl) ⟨rfl, rfl⟩ (H.sel' [] rfl rfl)

theorem c_spec_centreOf {Bc : List (List Int)} {Bd : List Int} {Be : Option Addr} {Bf : Nat} {Bg : Option Addr} {Bh : Nat} {r : Int} (h : M.spec_centreOf Bc Bd = some r) :
    Cal2 Try.prog 70 [(Sl Be Bc Bf), (Sl Bg Bd Bh)] [Ch.ro 0 (Sl Be Bc Bf) Bc, Ch.ro 0 (Sl Bg Bd Bh) Bd] (fun n0 v L => v = (I r) ∧ L = []) := by
 refine cal2 (n := 28) Try.func70 rfl rfl rfl rfl ?_
 intro S0 σ0 n0 hn0 H
 unfold M.spec_centreOf at h
 refine c_seq (rg (st (v := (I 0)) (rv_assign rfl) (w_end (q_then (c_seq (rg (st (v := (I 0)) (rv_assign rfl) (w_end (q_then (c_seq (c_seq ?_)))))))))))
 refine rg (st (v := (I 1)) (rv_assign rfl) (w_end (q_then ?_)))
 obtain ⟨o1, hj, h'⟩ := bind_some h
 clear h
 refine c_cut (fun e a w => e = .normal ∧ ∃ (ρ : Nat → Value) (σ : St), a = fr 28 (updL ρ [(5, (I o1))]) ∧ w = σ.w ∧ Hp S0 σ0 σ []) ?_ ?_
 ·clear h'
  rename _ = some o1 => h
  refine c_blk (wp_loopM _ h (fun s2 a w => ∃ (ρ : Nat → Value) (σ : St), a = fr 28 (updL ρ [(0, (Sl Be Bc Bf)), (1, (Sl Bg Bd Bh)), (5, (I s2.1)), (6, (I s2.2))]) ∧ w = σ.w ∧ Hp S0 σ0 σ [Ch.ro 0 (Sl Be Bc Bf) Bc, Ch.ro 0 (Sl Bg Bd Bh) Bd]) ⟨_, σ0, fr_join ⟨rfl, rfl, rfl, rfl, trivial⟩, rfl, H.sel' [0, 1] rfl rfl⟩ ?_)
  clear h H
  rintro s2 a w o ⟨ρ, σ3, rfl, rfl, H⟩ h hres
  refine c_seq (c_seq (rg (st (v := (I s2.2)) (rv_move rfl) (st (v := (Sl Be Bc Bf)) (rv_move rfl) (st (v := (I (Bc.length : Int))) (rv_len Try.underlying41 rfl) (st (v := (B (decide (s2.2 < (Bc.length : Int))))) (rv_lss (a := s2.2) (b := (Bc.length : Int)) rfl rfl) (w_end (q_then ?_))))))))
  refine cd_cond (decide (s2.2 < (Bc.length : Int))) rfl (fun hb4 => ?_) (fun hb4 => ?_)
  ·replace h := bif_t hb4 h
   refine c_skip (q_then (c_seq ?_))
   obtain ⟨o5, hj, h'⟩ := bind_some h
   clear h
   refine c_cut (fun e a w => e = .normal ∧ ∃ (ρ : Nat → Value) (σ : St), a = fr 28 (updL ρ [(0, (Sl Be Bc Bf)), (1, (Sl Bg Bd Bh)), (5, (I o5)), (6, (I s2.2))]) ∧ w = σ.w ∧ Hp S0 σ0 σ [Ch.ro 0 (Sl Be Bc Bf) Bc, Ch.ro 0 (Sl Bg Bd Bh) Bd]) ?_ ?_
   ·clear h'
    rename _ = some o5 => h
    refine c_blk (c_seq ?_)
    obtain ⟨x6, hx7, h'⟩ := bind_some h
    clear h
    have h := h'; clear h'
    obtain ⟨b9, o10, hi8, -⟩ := (H.ro 0 rfl).ix hx7
    obtain ⟨v14, hc15, hR13⟩ := ((H.ro 0 rfl).at hx7 hi8).slice
    obtain ⟨a11, c12, rfl⟩ := hR13.isSl
    replace H := H.add (d := Ch.ro 0 (Sl a11 x6 c12) x6) hR13 (fun _ h => h)
    clear hR13
    obtain ⟨r16, hx17, h'⟩ := bind_some h
    clear h
    have h := h'; clear h'
    have hc18 := c_spec_dist (Ay := a11) (Az := c12) (Ba := Bg) (Bb := Bh) hx17
    obtain ⟨x19, hx20, h'⟩ := bind_some h
    clear h
    have h := h'; clear h'
    obtain ⟨b22, o23, hi21, -⟩ := (H.ro 1 rfl).ix hx20
    obtain ⟨v27, hc28, hR26⟩ := ((H.ro 1 rfl).at hx20 hi21).slice
    obtain ⟨a24, c25, rfl⟩ := hR26.isSl
    replace H := H.add (d := Ch.ro 0 (Sl a24 x19 c25) x19) hR26 (fun _ h => h)
    clear hR26
    have Hs := H
    refine rg2 (σ := σ3) (Nm := Unit) 11 [5] [[false], [true]] [[(0, 0)], [(0, 0)], [(0, 0)], [(0, 0)], [(0, 0)], [(0, 1)], [(0, 0), (1, 1)], [(0, 0), (1, 1)], [(0, 0), (1, 1)], [(0, 0), (1, 1)], [(0, 0), (1, 1)]] 1 [fun _ => fun σm => Hp S0 σ0 σm [Ch.ro 0 (Sl a24 x19 c25) x19, Ch.ro 0 (Sl a11 x6 c12) x6, Ch.ro 0 (Sl Be Bc Bf) Bc, Ch.ro 0 (Sl Bg Bd Bh) Bd] ∧ Md (cov []) σ3 σm, fun _ => fun σm => Hp S0 σ0 σm [Ch.ro 0 (Sl a24 x19 c25) x19, Ch.ro 0 (Sl a11 x6 c12) x6, Ch.ro 0 (Sl Be Bc Bf) Bc, Ch.ro 0 (Sl Bg Bd Bh) Bd] ∧ Md (cov []) σ3 σm] [fun _ => (Sl Be Bc Bf), fun _ => (I s2.2), fun _ => (pt b9 o10), fun _ => (Sl a11 x6 c12), fun _ => (Sl Bg Bd Bh), fun _ => (I r16), fun _ => (Sl Be Bc Bf), fun _ => (I s2.1), fun _ => (pt b22 o23), fun _ => (Sl a24 x19 c25), fun _ => (Sl Bg Bd Bh)] () (by kernel_rfl) (by kernel_rfl) ?_ ?_ ?_
    ·intro σm m0
     exact ⟨H.grow (m0.mono fun _ h => h.elim), m0⟩
    ·refine ac rfl (by
       intro k _nm ρ σm hJ hoff hdep
       have e0 := look_off (N := 28) (hoff 0 rfl) rfl
       exact dp_v (v := (Sl Be Bc Bf)) wn (rv_move e0) rfl hJ) ?_
     refine ac rfl (by
       intro k _nm ρ σm hJ hoff hdep
       have e6 := look_off (N := 28) (hoff 6 rfl) rfl
       exact dp_v (v := (I s2.2)) wn (rv_move e6) rfl hJ) ?_
     refine ac rfl (by
       intro k _nm ρ σm hJ hoff hdep
       have e13 := hdep 0 rfl rfl 13 rfl
       have e14 := hdep 1 rfl rfl 14 rfl
       exact dp_v (v := (pt b9 o10)) wn (rv_ix Try.underlying41 ti23 e13 e14 hi8) rfl hJ) ?_
     refine all_cons (by
       refine ⟨?_, ?_⟩
       ·intro _nm ρ σm hJ hoff hdep
        have e15 := hdep 2 rfl rfl 15 rfl
        obtain ⟨H, m⟩ := id hJ
        replace hc15 := (Hs.ro 2 rfl).hmd hx7 hi8 (k := 0) (by decide) hc15 m
        exact dp_v (v := (Sl a11 x6 c12)) wn (rv_load1 Try.underlying23 rfl e15 hc15) rfl hJ
       trivial) ?_
     refine ac rfl (by
       intro k _nm ρ σm hJ hoff hdep
       have e1 := look_off (N := 28) (hoff 1 rfl) rfl
       exact dp_v (v := (Sl Bg Bd Bh)) wn (rv_move e1) rfl hJ) ?_
     refine all_cons (by
       refine ⟨?_, ?_⟩
       ·intro _nm ρ σm hJ hoff hdep
        have e16 : look 28 ρ 16 = (Sl a11 x6 c12) := hdep 3 rfl rfl 16 rfl
        have e17 : look 28 ρ 17 = (Sl Bg Bd Bh) := hdep 4 rfl rfl 17 rfl
        obtain ⟨H, m⟩ := id hJ
        refine dp_cx wn (cx_call hc18 (ent_f hc18.fn (by show [(I 3), look 28 ρ 16, look 28 ρ 17] = _; rw [e16, e17])) hn0 (H.sel' [1, 3, 0, 1, 2, 3] rfl rfl : Hp S0 σ0 _ ([_, _] ++ _))) ?_
        rintro _ σq ⟨_, ⟨rfl, rfl⟩, H2, m2⟩
        exact ⟨_, (), rfl, rfl, ⟨H2.sel' [0, 1, 2, 3] rfl rfl, m.comp0 (m2.mono (fun i h => by simp [cov, Ch.ro] at h))⟩, stab [0, 1, 2, 3, 4, 6, 7, 8, 9, 10] (by kernel_rfl) ⟨rfl, rfl, rfl, rfl, rfl, rfl, rfl, rfl, rfl, rfl, trivial⟩⟩
       trivial) ?_
     refine ac rfl (by
       intro k _nm ρ σm hJ hoff hdep
       have e0 := look_off (N := 28) (hoff 0 rfl) rfl
       exact dp_v (v := (Sl Be Bc Bf)) wn (rv_move e0) rfl hJ) ?_
     refine ac rfl (by
       intro k _nm ρ σm hJ hoff hdep
       have e5 := look_off (N := 28) (hoff 5 rfl) rfl
       exact dp_v (v := (I s2.1)) wn (rv_move e5) rfl hJ) ?_
     refine ac rfl (by
       intro k _nm ρ σm hJ hoff hdep
       have e19 := hdep 6 rfl rfl 19 rfl
       have e20 := hdep 7 rfl rfl 20 rfl
       exact dp_v (v := (pt b22 o23)) wn (rv_ix Try.underlying41 ti23 e19 e20 hi21) rfl hJ) ?_
     refine all_cons (by
       refine ⟨?_, ?_⟩
       ·intro _nm ρ σm hJ hoff hdep
        have e21 := hdep 8 rfl rfl 21 rfl
        obtain ⟨H, m⟩ := id hJ
        replace hc28 := (Hs.ro 2 rfl).hmd hx20 hi21 (k := 0) (by decide) hc28 m
        exact dp_v (v := (Sl a24 x19 c25)) wn (rv_load1 Try.underlying23 rfl e21 hc28) rfl hJ
       refine ⟨?_, ?_⟩
       ·intro _nm ρ σm hJ hoff hdep
        have e21 := hdep 8 rfl rfl 21 rfl
        obtain ⟨H, m⟩ := id hJ
        replace hc28 := (Hs.ro 2 rfl).hmd hx20 hi21 (k := 0) (by decide) hc28 m
        exact dp_v (v := (Sl a24 x19 c25)) wn (rv_load1 Try.underlying23 rfl e21 hc28) rfl hJ
       trivial) ?_
     refine ac rfl (by
       intro k _nm ρ σm hJ hoff hdep
       have e1 := look_off (N := 28) (hoff 1 rfl) rfl
       exact dp_v (v := (Sl Bg Bd Bh)) wn (rv_move e1) rfl hJ) ?_
     exact all_nil
    ·intro _nm ρ σ29 hJ hoff hrel
     have e0 := look_off (N := 28) (hoff 0 rfl) rfl
     have e1 := look_off (N := 28) (hoff 1 rfl) rfl
     have e5 := look_off (N := 28) (hoff 5 rfl) rfl
     have e6 := look_off (N := 28) (hoff 6 rfl) rfl
     have e18 := hrel 5 rfl 18 rfl
     have e22 := hrel 9 rfl 22 rfl
     have e23 := hrel 10 rfl 23 rfl
     obtain ⟨H, -⟩ := (show Hp S0 σ0 σ29 [Ch.ro 0 (Sl a24 x19 c25) x19, Ch.ro 0 (Sl a11 x6 c12) x6, Ch.ro 0 (Sl Be Bc Bf) Bc, Ch.ro 0 (Sl Bg Bd Bh) Bd] ∧ Md (cov []) σ3 σ29 from hJ)
     clear hJ Hs
     rw [fr_lookL (L := [(0, (Sl Be Bc Bf)), (1, (Sl Bg Bd Bh)), (5, (I s2.1)), (6, (I s2.2)), (18, (I r16)), (22, (Sl a24 x19 c25)), (23, (Sl Bg Bd Bh))]) ⟨e0, e1, e5, e6, e18, e22, e23, trivial⟩]
     clear hoff hrel e0 e1 e5 e6 e18 e22 e23
     obtain ⟨r30, hx31, h'⟩ := bind_some h
     clear h
     have h := h'; clear h'
     have hc32 := c_spec_dist (Ay := a24) (Az := c25) (Ba := Bg) (Bb := Bh) hx31
     refine st_call (cx_call hc32 (ent_f hc32.fn rfl) hn0 (H.sel' [0, 3, 0, 1, 2, 3] rfl rfl : Hp S0 σ0 _ ([_, _] ++ _))) wn ?_
     rintro _ σ33 ⟨_, ⟨rfl, rfl⟩, H, -⟩
     replace H : Hp _ _ _ [_, _, _, _] := H
     refine st (v := (B (decide (r16 < r30)))) (rv_lss (a := r16) (b := r30) rfl rfl) (w_end (q_then ?_))
     refine cd_cond (decide (r16 < r30)) rfl (fun hb34 => ?_) (fun hb34 => ?_)
     ·replace h := bif_t hb34 h
      refine rg (st (v := (I s2.2)) (rv_move rfl) (st (v := (I s2.2)) (rv_assign rfl) (w_end (q_blk ?_))))
      obtain rfl := Option.some.inj h
      exact ⟨rfl, _, σ33, fr_join ⟨rfl, rfl, rfl, rfl, trivial⟩, rfl, H.sel' [2, 3] rfl rfl⟩
     ·replace h := bif_f hb34 h
      refine c_skip (q_blk ?_)
      obtain rfl := Option.some.inj h
      exact ⟨rfl, _, σ33, fr_join ⟨rfl, rfl, rfl, rfl, trivial⟩, rfl, H.sel' [2, 3] rfl rfl⟩
   ·clear hj
    have h := h'
    clear h' H
    rintro e a w ⟨rfl, ρ, σ35, rfl, rfl, H⟩
    refine q_then (rg (st (v := (I s2.2)) (rv_move rfl) (st (v := (I (w64 (s2.2 + 1)))) (rv_add (a := s2.2) (b := 1) rfl rfl) (st (v := (I (w64 (s2.2 + 1)))) (rv_assign rfl) (w_end (q_then ?_))))))
    obtain rfl := Option.some.inj h
    exact ⟨_, rfl, _, σ35, fr_join ⟨rfl, rfl, rfl, rfl, trivial⟩, rfl, H.sel' [0, 1] rfl rfl⟩
  ·replace h := bif_f hb4 h
   refine c_exit (q_then_x (q_then_x (q_blk_hit ?_)))
   obtain rfl := Option.some.inj h
   obtain rfl := hres _ rfl
   exact ⟨rfl, _, σ3, fr_join ⟨rfl, trivial⟩, rfl, H.sel' [] rfl rfl⟩
 ·clear hj
  have h := h'
  clear h' H
  rintro e a w ⟨rfl, ρ, σ36, rfl, rfl, H⟩
  refine q_then (c_seq (rg (st (v := (I o1)) (rv_move rfl) (st (v := (I o1)) (rv_assign rfl) (w_end (q_then (c_ret ?_)))))))
  obtain rfl := Option.some.inj h
  exact fin_ret (v := (I o1)) (results_ok Try.results70 (res_tmp (v := (I o1)) rfl res_nil) rfl) ⟨rfl, rfl⟩ (H.sel' [] rfl rfl)

theorem c_spec_CentreOf {Bc : List (List Int)} {Bd : List Int} {Be : Option Addr} {Bf : Nat} {Bg : Option Addr} {Bh : Nat} {r : Int} (h : M.spec_CentreOf Bc Bd = some r) :
    Cal2 Try.prog 32 [(Sl Be Bc Bf), (Sl Bg Bd Bh)] [Ch.ro 0 (Sl Be Bc Bf) Bc, Ch.ro 0 (Sl Bg Bd Bh) Bd] (fun n0 v L => v = (I r) ∧ L = []) := by
 refine cal2 (n := 16) Try.func32 rfl rfl rfl rfl ?_
 intro S0 σ0 n0 hn0 H
 unfold M.spec_CentreOf at h
 refine c_seq (rg (st (v := (I 0)) (rv_assign rfl) (w_end (q_then (c_seq (c_seq ?_))))))
 obtain ⟨o1, hj, h'⟩ := bind_some h
 clear h
 refine c_cut (fun e a w => e = .normal ∧ ∃ (ρ : Nat → Value) (σ : St), a = fr 16 (updL ρ [(0, (Sl Be Bc Bf)), (1, (Sl Bg Bd Bh)), (12, (B o1))]) ∧ w = σ.w ∧ Hp S0 σ0 σ [Ch.ro 0 (Sl Be Bc Bf) Bc, Ch.ro 0 (Sl Bg Bd Bh) Bd]) ?_ ?_
 ·clear h'
  rename _ = some o1 => h
  refine rg (st (v := (Sl Be Bc Bf)) (rv_move rfl) ?_)
  obtain ⟨r2, hx3, h'⟩ := bind_some h
  clear h
  have h := h'; clear h'
  have hc4 := c_spec_validCentres (Ao := Be) (Ap := Bf) hx3
  refine st_call (cx_call hc4 (ent_f hc4.fn rfl) hn0 (H.sel' [0, 0, 1] rfl rfl : Hp S0 σ0 _ ([_] ++ _))) wn ?_
  rintro _ σ5 ⟨_, ⟨rfl, rfl⟩, H, -⟩
  replace H : Hp _ _ _ [_, _] := H
  refine st (v := (B (!r2))) (rv_not rfl) (st (v := (B (!r2))) (rv_move rfl) ?_)
  rcases Bool.eq_false_or_eq_true (!r2) with hb6 | hb6
  ·replace h := bif_t hb6 h
   refine st_skip (congrArg some hb6) (st_skip (congrArg some hb6) (st_skip (congrArg some hb6) (st (v := (B true)) (rv_pick_t (congrArg B hb6) rfl) (w_end ?_))))
   obtain rfl := Option.some.inj h
   exact ⟨rfl, _, σ5, fr_join ⟨rfl, rfl, rfl, trivial⟩, rfl, H.sel' [0, 1] rfl rfl⟩
  ·replace h := bif_f hb6 h
   refine st_g (v := (Sl Bg Bd Bh)) (congrArg some hb6) (rv_move rfl) ?_
   obtain ⟨r7, hx8, h'⟩ := bind_some h
   clear h
   have h := h'; clear h'
   have hc9 := c_spec_isVector (Ar := Bg) (As := Bh) hx8
   refine st_call (cx_call hc9 (ent_f hc9.fn rfl) hn0 (H.sel' [1, 0, 1] rfl rfl : Hp S0 σ0 _ ([_] ++ _))) (wanted_yes rfl (by exact (congrArg some hb6))) ?_
   rintro _ σ10 ⟨_, ⟨rfl, rfl⟩, H, -⟩
   replace H : Hp _ _ _ [_, _] := H
   refine st_g (v := (B (!r7))) (congrArg some hb6) (rv_not rfl) (st (v := (B (!r7))) (rv_pick_f (congrArg B hb6) rfl) (w_end ?_))
   obtain rfl := Option.some.inj h
   exact ⟨rfl, _, σ10, fr_join ⟨rfl, rfl, rfl, trivial⟩, rfl, H.sel' [0, 1] rfl rfl⟩
 ·clear hj
  have h := h'
  clear h' H
  rintro e a w ⟨rfl, ρ, σ11, rfl, rfl, H⟩
  refine q_then ?_
  refine cd_cond o1 rfl (fun hb12 => ?_) (fun hb12 => ?_)
  ·replace h := bif_t hb12 h
   refine c_seq (rg (st (v := (I (-1))) (rv_assign rfl) (w_end (q_then (c_ret (q_then_r ?_))))))
   obtain rfl := Option.some.inj h
   exact fin_ret (v := (I (-1))) (results_ok Try.results32 (res_tmp (v := (I (-1))) rfl res_nil) rfl) ⟨rfl, rfl⟩ (H.sel' [] rfl rfl)
  ·replace h := bif_f hb12 h
   refine c_skip (q_then (c_seq (rg (st (v := (Sl Be Bc Bf)) (rv_move rfl) (st (v := (Sl Bg Bd Bh)) (rv_move rfl) ?_)))))
   obtain ⟨r13, hx14, h'⟩ := bind_some h
   clear h
   have h := h'; clear h'
   have hc15 := c_spec_centreOf (Be := Be) (Bf := Bf) (Bg := Bg) (Bh := Bh) hx14
   refine st_call (cx_call hc15 (ent_f hc15.fn rfl) hn0 (H.sel' [0, 1, 0, 1] rfl rfl : Hp S0 σ0 _ ([_, _] ++ _))) wn ?_
   rintro _ σ16 ⟨_, ⟨rfl, rfl⟩, H, -⟩
   replace H : Hp _ _ _ [_, _] := H
   refine st (v := (I r13)) (rv_assign rfl) (w_end (q_then (c_ret ?_)))
   obtain rfl := Option.some.inj h
   exact fin_ret (v := (I r13)) (results_ok Try.results32 (res_tmp (v := (I r13)) rfl res_nil) rfl) ⟨rfl, rfl⟩ (H.sel' [] rfl rfl)

theorem c_impl_ValidVector {Aq : List Int} {Ar : Option Addr} {As : Nat} {r : Bool} (h : M.impl_ValidVector Aq = some r) :
    Cal2 Try.prog 68 [(Sl Ar Aq As)] [Ch.ro 0 (Sl Ar Aq As) Aq] (fun n0 v L => v = (B r) ∧ L = []) := by
 refine cal2 (n := 21) Try.func68 rfl rfl rfl rfl ?_
 intro S0 σ0 n0 hn0 H
 unfold M.impl_ValidVector at h
 refine c_seq (rg (st (v := (B false)) (rv_assign rfl) (w_end (q_then (c_seq (c_seq (rg (st (v := (Sl Ar Aq As)) (rv_move rfl) (st (v := (I (Aq.length : Int))) (rv_len Try.underlying23 rfl) (st (v := (B ((Aq.length : Int) != 4))) (rv_neq (a := (Aq.length : Int)) (b := 4) rfl rfl) (w_end ?_)))))))))))
 refine q_then ?_
 refine cd_cond ((Aq.length : Int) != 4) rfl (fun hb1 => ?_) (fun hb1 => ?_)
 ·replace h := bif_t hb1 h
  refine c_seq (rg (st (v := (B false)) (rv_assign rfl) (w_end (q_then (c_ret (q_then_r ?_))))))
  obtain rfl := Option.some.inj h
  exact fin_ret (v := (B false)) (results_ok Try.results68 (res_tmp (v := (B false)) rfl res_nil) rfl) ⟨rfl, rfl⟩ (H.sel' [] rfl rfl)
 ·replace h := bif_f hb1 h
  refine c_skip (q_then (c_seq (c_seq (rg (st (v := (Sl Ar Aq As)) (rv_move rfl) (st (v := (I (Aq.length : Int))) (rv_len Try.underlying23 rfl) (st (v := (I 0)) (rv_move rfl) (w_end (q_then ?_)))))))))
  obtain ⟨o2, hj, h'⟩ := bind_some h
  clear h
  refine c_cut (fun e a w => (∃ t, o2 = (.inl t) ∧ e = .normal ∧ ∃ (ρ : Nat → Value) (σ : St), a = fr 21 (updL ρ []) ∧ w = σ.w ∧ Hp S0 σ0 σ []) ∨ (∃ t, o2 = (.inr t) ∧ e = .ret ∧ ∃ (ρ : Nat → Value) (σ : St), a = fr 21 (updL ρ [(2, (B t))]) ∧ w = σ.w ∧ Hp S0 σ0 σ [])) ?_ ?_
  ·clear h'
   rename _ = some o2 => h
   refine c_blk (wp_loopM _ h (fun s3 a w => ∃ (ρ : Nat → Value) (σ : St), a = fr 21 (updL ρ [(8, (Sl Ar Aq As)), (9, (I (Aq.length : Int))), (10, (I s3))]) ∧ w = σ.w ∧ Hp S0 σ0 σ [Ch.ro 0 (Sl Ar Aq As) Aq]) ⟨_, σ0, fr_join ⟨rfl, rfl, rfl, trivial⟩, rfl, H.sel' [0] rfl rfl⟩ ?_)
   clear h H
   rintro s3 a w o ⟨ρ, σ4, rfl, rfl, H⟩ h hres
   refine c_seq (rg (st (v := (B (decide (s3 < (Aq.length : Int))))) (rv_lss (a := s3) (b := (Aq.length : Int)) rfl rfl) (w_end (q_then (c_seq ?_)))))
   refine cd_cond (decide (s3 < (Aq.length : Int))) rfl (fun hb5 => ?_) (fun hb5 => ?_)
   ·replace h := bif_t hb5 h
    refine c_skip (q_then (c_seq (c_blk (c_seq (rg ?_)))))
    obtain ⟨x6, hx7, h'⟩ := bind_some h
    clear h
    have h := h'; clear h'
    obtain ⟨b9, o10, hi8, -⟩ := (H.ro 0 rfl).ix hx7
    refine st (v := (pt b9 o10)) (rv_ix Try.underlying23 ti3 rfl rfl hi8) ?_
    have hc11 := ((H.ro 0 rfl).at hx7 hi8).int
    refine st (v := (I x6)) (rv_load1 Try.underlying3 rfl rfl hc11) (st (v := (I x6)) (rv_assign rfl) (w_end (q_then (c_seq ?_))))
    obtain ⟨o12, hj, h'⟩ := bind_some h
    clear h
    refine c_cut (fun e a w => e = .normal ∧ ∃ (ρ : Nat → Value) (σ : St), a = fr 21 (updL ρ [(8, (Sl Ar Aq As)), (9, (I (Aq.length : Int))), (10, (I s3)), (19, (B o12))]) ∧ w = σ.w ∧ Hp S0 σ0 σ [Ch.ro 0 (Sl Ar Aq As) Aq]) ?_ ?_
    ·clear h'
     rename _ = some o12 => h
     refine rg (st (v := (I x6)) (rv_move rfl) (st (v := (B (decide (x6 < (-100))))) (rv_lss (a := x6) (b := (-100)) rfl rfl) (st (v := (B (decide (x6 < (-100))))) (rv_move rfl) ?_)))
     rcases Bool.eq_false_or_eq_true (decide (x6 < (-100))) with hb13 | hb13
     ·replace h := bif_t hb13 h
      refine st_skip (congrArg some hb13) (st_skip (congrArg some hb13) (st (v := (B true)) (rv_pick_t (congrArg B hb13) rfl) (w_end ?_)))
      obtain rfl := Option.some.inj h
      exact ⟨rfl, _, σ4, fr_join ⟨rfl, rfl, rfl, rfl, trivial⟩, rfl, H.sel' [0] rfl rfl⟩
     ·replace h := bif_f hb13 h
      refine st_g (v := (I x6)) (congrArg some hb13) (rv_move rfl) (st_g (v := (B (decide (100 < x6)))) (congrArg some hb13) (rv_gtr (a := x6) (b := 100) rfl rfl) (st (v := (B (decide (100 < x6)))) (rv_pick_f (congrArg B hb13) rfl) (w_end ?_)))
      obtain rfl := Option.some.inj h
      exact ⟨rfl, _, σ4, fr_join ⟨rfl, rfl, rfl, rfl, trivial⟩, rfl, H.sel' [0] rfl rfl⟩
    ·clear hj
     have h := h'
     clear h' H
     rintro e a w ⟨rfl, ρ, σ14, rfl, rfl, H⟩
     refine q_then ?_
     refine cd_cond o12 rfl (fun hb15 => ?_) (fun hb15 => ?_)
     ·replace h := bif_t hb15 h
      refine c_seq (rg (st (v := (B false)) (rv_assign rfl) (w_end (q_then (c_ret (q_blk_r (q_then_r (q_then_r (q_blk_r ?_)))))))))
      obtain rfl := Option.some.inj h
      obtain rfl := hres _ rfl
      exact .inr (⟨_, rfl, rfl, _, σ14, fr_join ⟨rfl, trivial⟩, rfl, H.sel' [] rfl rfl⟩)
     ·replace h := bif_f hb15 h
      refine c_skip (q_blk (q_then (rg (st (v := (I (w64 (s3 + 1)))) (rv_add (a := s3) (b := 1) rfl rfl) (st (v := (I (w64 (s3 + 1)))) (rv_move rfl) (w_end (q_then ?_)))))))
      obtain rfl := Option.some.inj h
      exact ⟨_, rfl, _, σ14, fr_join ⟨rfl, rfl, rfl, trivial⟩, rfl, H.sel' [0] rfl rfl⟩
   ·replace h := bif_f hb5 h
    refine c_exit (q_then_x (q_then_x (q_blk_hit ?_)))
    obtain rfl := Option.some.inj h
    obtain rfl := hres _ rfl
    exact .inl ⟨_, rfl, rfl, _, σ4, fr_join trivial, rfl, H.sel' [] rfl rfl⟩
  ·clear hj
   have h := h'
   clear h' H
   rintro e a w (⟨t16, rfl, rfl, ρ, σ17, rfl, rfl, H⟩ | ⟨t18, rfl, rfl, ρ, σ19, rfl, rfl, H⟩)
   ·replace h := selim_l h
    refine q_then (c_seq (rg (st (v := (B true)) (rv_assign rfl) (w_end (q_then (c_ret ?_))))))
    obtain rfl := Option.some.inj h
    exact fin_ret (v := (B true)) (results_ok Try.results68 (res_tmp (v := (B true)) rfl res_nil) rfl) ⟨rfl, rfl⟩ (H.sel' [] rfl rfl)
   ·replace h := selim_r h
    refine q_then_r ?_
    obtain rfl := Option.some.inj h
    exact fin_ret (v := (B t18)) (results_ok Try.results68 (res_tmp (v := (B t18)) rfl res_nil) rfl) ⟨rfl, rfl⟩ (H.sel' [] rfl rfl)

theorem c_impl_ValidCentres {Am : List (List Int)} {Ao : Option Addr} {Ap : Nat} {r : Bool} (h : M.impl_ValidCentres Am = some r) :
    Cal2 Try.prog 30 [(Sl Ao Am Ap)] [Ch.ro 0 (Sl Ao Am Ap) Am] (fun n0 v L => v = (B r) ∧ L = []) := by
 refine cal2 (n := 23) Try.func30 rfl rfl rfl rfl ?_
 intro S0 σ0 n0 hn0 H
 unfold M.impl_ValidCentres at h
 refine c_seq (rg (st (v := (B false)) (rv_assign rfl) (w_end (q_then (c_seq (c_seq ?_))))))
 obtain ⟨o1, hj, h'⟩ := bind_some h
 clear h
 refine c_cut (fun e a w => e = .normal ∧ ∃ (ρ : Nat → Value) (σ : St), a = fr 23 (updL ρ [(0, (Sl Ao Am Ap)), (12, (B o1))]) ∧ w = σ.w ∧ Hp S0 σ0 σ [Ch.ro 0 (Sl Ao Am Ap) Am]) ?_ ?_
 ·clear h'
  rename _ = some o1 => h
  refine rg (st (v := (Sl Ao Am Ap)) (rv_move rfl) (st (v := (I (Am.length : Int))) (rv_len Try.underlying41 rfl) (st (v := (B (decide ((Am.length : Int) < 1)))) (rv_lss (a := (Am.length : Int)) (b := 1) rfl rfl) (st (v := (B (decide ((Am.length : Int) < 1)))) (rv_move rfl) ?_))))
  rcases Bool.eq_false_or_eq_true (decide ((Am.length : Int) < 1)) with hb2 | hb2
  ·replace h := bif_t hb2 h
   refine st_skip (congrArg some hb2) (st_skip (congrArg some hb2) (st_skip (congrArg some hb2) (st (v := (B true)) (rv_pick_t (congrArg B hb2) rfl) (w_end ?_))))
   obtain rfl := Option.some.inj h
   exact ⟨rfl, _, σ0, fr_join ⟨rfl, rfl, trivial⟩, rfl, H.sel' [0] rfl rfl⟩
  ·replace h := bif_f hb2 h
   refine st_g (v := (Sl Ao Am Ap)) (congrArg some hb2) (rv_move rfl) (st_g (v := (I (Am.length : Int))) (congrArg some hb2) (rv_len Try.underlying41 rfl) (st_g (v := (B (decide (4 < (Am.length : Int))))) (congrArg some hb2) (rv_gtr (a := (Am.length : Int)) (b := 4) rfl rfl) (st (v := (B (decide (4 < (Am.length : Int))))) (rv_pick_f (congrArg B hb2) rfl) (w_end ?_))))
   obtain rfl := Option.some.inj h
   exact ⟨rfl, _, σ0, fr_join ⟨rfl, rfl, trivial⟩, rfl, H.sel' [0] rfl rfl⟩
 ·clear hj
  have h := h'
  clear h' H
  rintro e a w ⟨rfl, ρ, σ3, rfl, rfl, H⟩
  refine q_then ?_
  refine cd_cond o1 rfl (fun hb4 => ?_) (fun hb4 => ?_)
  ·replace h := bif_t hb4 h
   refine c_seq (rg (st (v := (B false)) (rv_assign rfl) (w_end (q_then (c_ret (q_then_r ?_))))))
   obtain rfl := Option.some.inj h
   exact fin_ret (v := (B false)) (results_ok Try.results30 (res_tmp (v := (B false)) rfl res_nil) rfl) ⟨rfl, rfl⟩ (H.sel' [] rfl rfl)
  ·replace h := bif_f hb4 h
   refine c_skip (q_then (c_seq (c_seq (rg (st (v := (Sl Ao Am Ap)) (rv_move rfl) (st (v := (I (Am.length : Int))) (rv_len Try.underlying41 rfl) (st (v := (I 0)) (rv_move rfl) (w_end (q_then ?_)))))))))
   obtain ⟨o5, hj, h'⟩ := bind_some h
   clear h
   refine c_cut (fun e a w => (∃ t, o5 = (.inl t) ∧ e = .normal ∧ ∃ (ρ : Nat → Value) (σ : St), a = fr 23 (updL ρ []) ∧ w = σ.w ∧ Hp S0 σ0 σ []) ∨ (∃ t, o5 = (.inr t) ∧ e = .ret ∧ ∃ (ρ : Nat → Value) (σ : St), a = fr 23 (updL ρ [(2, (B t))]) ∧ w = σ.w ∧ Hp S0 σ0 σ [])) ?_ ?_
   ·clear h'
    rename _ = some o5 => h
    refine c_blk (wp_loopM _ h (fun s6 a w => ∃ (ρ : Nat → Value) (σ : St), a = fr 23 (updL ρ [(13, (Sl Ao Am Ap)), (14, (I (Am.length : Int))), (15, (I s6))]) ∧ w = σ.w ∧ Hp S0 σ0 σ [Ch.ro 0 (Sl Ao Am Ap) Am]) ⟨_, σ3, fr_join ⟨rfl, rfl, rfl, trivial⟩, rfl, H.sel' [0] rfl rfl⟩ ?_)
    clear h H
    rintro s6 a w o ⟨ρ, σ7, rfl, rfl, H⟩ h hres
    refine c_seq (rg (st (v := (B (decide (s6 < (Am.length : Int))))) (rv_lss (a := s6) (b := (Am.length : Int)) rfl rfl) (w_end (q_then (c_seq ?_)))))
    refine cd_cond (decide (s6 < (Am.length : Int))) rfl (fun hb8 => ?_) (fun hb8 => ?_)
    ·replace h := bif_t hb8 h
     refine c_skip (q_then (c_seq (c_blk (c_seq (rg ?_)))))
     obtain ⟨x9, hx10, h'⟩ := bind_some h
     clear h
     have h := h'; clear h'
     obtain ⟨b12, o13, hi11, -⟩ := (H.ro 0 rfl).ix hx10
     refine st (v := (pt b12 o13)) (rv_ix Try.underlying41 ti23 rfl rfl hi11) ?_
     obtain ⟨v17, hc18, hR16⟩ := ((H.ro 0 rfl).at hx10 hi11).slice
     obtain ⟨a14, c15, rfl⟩ := hR16.isSl
     replace H := H.add (d := Ch.ro 0 (Sl a14 x9 c15) x9) hR16 (fun _ h => h)
     clear hR16
     refine st (v := (Sl a14 x9 c15)) (rv_load1 Try.underlying23 rfl rfl hc18) (st (v := (Sl a14 x9 c15)) (rv_assign rfl) (w_end (q_then (c_seq (rg (st (v := (Sl a14 x9 c15)) (rv_move rfl) ?_))))))
     obtain ⟨r19, hx20, h'⟩ := bind_some h
     clear h
     have h := h'; clear h'
     have hc21 := c_impl_ValidVector (Ar := a14) (As := c15) hx20
     refine st_call (cx_call hc21 (ent_f hc21.fn rfl) hn0 (H.sel' [0, 0, 1] rfl rfl : Hp S0 σ0 _ ([_] ++ _))) wn ?_
     rintro _ σ22 ⟨_, ⟨rfl, rfl⟩, H, -⟩
     replace H : Hp _ _ _ [_, _] := H
     refine st (v := (B (!r19))) (rv_not rfl) (w_end (q_then ?_))
     refine cd_cond (!r19) rfl (fun hb23 => ?_) (fun hb23 => ?_)
     ·replace h := bif_t hb23 h
      refine c_seq (rg (st (v := (B false)) (rv_assign rfl) (w_end (q_then (c_ret (q_blk_r (q_then_r (q_then_r (q_blk_r ?_)))))))))
      obtain rfl := Option.some.inj h
      obtain rfl := hres _ rfl
      exact .inr (⟨_, rfl, rfl, _, σ22, fr_join ⟨rfl, trivial⟩, rfl, H.sel' [] rfl rfl⟩)
     ·replace h := bif_f hb23 h
      refine c_skip (q_blk (q_then (rg (st (v := (I (w64 (s6 + 1)))) (rv_add (a := s6) (b := 1) rfl rfl) (st (v := (I (w64 (s6 + 1)))) (rv_move rfl) (w_end (q_then ?_)))))))
      obtain rfl := Option.some.inj h
      exact ⟨_, rfl, _, σ22, fr_join ⟨rfl, rfl, rfl, trivial⟩, rfl, H.sel' [1] rfl rfl⟩
    ·replace h := bif_f hb8 h
     refine c_exit (q_then_x (q_then_x (q_blk_hit ?_)))
     obtain rfl := Option.some.inj h
     obtain rfl := hres _ rfl
     exact .inl ⟨_, rfl, rfl, _, σ7, fr_join trivial, rfl, H.sel' [] rfl rfl⟩
   ·clear hj
    have h := h'
    clear h' H
    rintro e a w (⟨t24, rfl, rfl, ρ, σ25, rfl, rfl, H⟩ | ⟨t26, rfl, rfl, ρ, σ27, rfl, rfl, H⟩)
    ·replace h := selim_l h
     refine q_then (c_seq (rg (st (v := (B true)) (rv_assign rfl) (w_end (q_then (c_ret ?_))))))
     obtain rfl := Option.some.inj h
     exact fin_ret (v := (B true)) (results_ok Try.results30 (res_tmp (v := (B true)) rfl res_nil) rfl) ⟨rfl, rfl⟩ (H.sel' [] rfl rfl)
    ·replace h := selim_r h
     refine q_then_r ?_
     obtain rfl := Option.some.inj h
     exact fin_ret (v := (B t26)) (results_ok Try.results30 (res_tmp (v := (B t26)) rfl res_nil) rfl) ⟨rfl, rfl⟩ (H.sel' [] rfl rfl)

theorem c_impl_distanceOf {Av : Int} {Bi : List Int} (Bj : Bi.length = 4) {r : Int} (h : M.impl_distanceOf Av Bi = some r) :
    Cal2 Try.prog 101 [(I Av), (.agg (List.map I Bi).toArray)] [] (fun n0 v L => v = (I r) ∧ L = []) := by
 refine cal2 (n := 38) Try.func101 rfl rfl rfl rfl ?_
 intro S0 σ0 n0 hn0 H
 unfold M.impl_distanceOf at h
 refine c_seq (rg (st_ex (ex_box (cs := (List.map I Bi)) H hn0 rfl rfl) wn ?_))
 rintro _ σ2 ⟨b1, rfl, H, -⟩
 refine st (v := (I 0)) (rv_assign rfl) (w_end (q_then (c_seq (rg (st (v := (I 0)) (rv_assign rfl) (w_end (q_then (c_seq (c_seq (rg ?_))))))))))
 have hc3 := H.cells 0 rfl
 refine st (v := (.agg (List.map I Bi).toArray)) (rv_load (cs := (List.map I Bi)) Try.underlying93 rfl ti93 rfl (by rw [List.length_map]; exact Bj) hc3) ?_
 refine st (v := (I 0)) (rv_move rfl) (w_end (q_then ?_))
 obtain ⟨o4, hj, h'⟩ := bind_some h
 clear h
 refine c_cut (fun e a w => (∃ t, o4 = (.inl t) ∧ e = .normal ∧ ∃ (ρ : Nat → Value) (σ : St), a = fr 38 (updL ρ [(5, (I t))]) ∧ w = σ.w ∧ Hp S0 σ0 σ []) ∨ (∃ t, o4 = (.inr t) ∧ e = .ret ∧ ∃ (ρ : Nat → Value) (σ : St), a = fr 38 (updL ρ [(4, (I t))]) ∧ w = σ.w ∧ Hp S0 σ0 σ [])) ?_ ?_
 ·clear h'
  rename _ = some o4 => h
  refine c_blk (wp_loopM _ h (fun s5 a w => ∃ (ρ : Nat → Value) (σ : St), a = fr 38 (updL ρ [(0, (I Av)), (5, (I s5.1)), (8, (.agg (List.map I Bi).toArray)), (9, (I s5.2))]) ∧ w = σ.w ∧ Hp S0 σ0 σ []) ⟨_, σ2, fr_join ⟨rfl, rfl, rfl, rfl, trivial⟩, rfl, H.sel' [] rfl rfl⟩ ?_)
  clear h H
  rintro s5 a w o ⟨ρ, σ6, rfl, rfl, H⟩ h hres
  refine c_seq (rg (st (v := (B (decide (s5.2 < 4)))) (rv_lss (a := s5.2) (b := 4) rfl rfl) (w_end (q_then (c_seq ?_)))))
  refine cd_cond (decide (s5.2 < 4)) rfl (fun hb7 => ?_) (fun hb7 => ?_)
  ·replace h := bif_t hb7 h
   refine c_skip (q_then (c_seq ?_))
   obtain ⟨o8, hj, h'⟩ := bind_some h
   clear h
   refine c_cut (fun e a w => (∃ t, o8 = (.inl t) ∧ e = .normal ∧ ∃ (ρ : Nat → Value) (σ : St), a = fr 38 (updL ρ [(0, (I Av)), (5, (I t)), (8, (.agg (List.map I Bi).toArray)), (9, (I s5.2))]) ∧ w = σ.w ∧ Hp S0 σ0 σ []) ∨ (∃ t, o8 = (.inr t) ∧ e = .ret ∧ ∃ (ρ : Nat → Value) (σ : St), a = fr 38 (updL ρ [(4, (I t))]) ∧ w = σ.w ∧ Hp S0 σ0 σ [])) ?_ ?_
   ·clear h'
    rename _ = some o8 => h
    refine c_blk (c_seq (rg ?_))
    obtain ⟨x9, hx10, h'⟩ := bind_some h
    clear h
    have h := h'; clear h'
    refine st (v := (I x9)) (rv_idx Try.underlying93 ti3 Try.underlying3 rfl rfl hx10 Bj) (st (v := (I x9)) (rv_assign rfl) (w_end (q_then (c_seq (rg (st (v := (I Av)) (rv_move rfl) (w_end (q_then (c_blk (c_seq (rg ?_)))))))))))
    refine st (v := (B (Av == 1))) (rv_eql (a := Av) (b := 1) rfl rfl) (st (v := (B (Av == 1))) (rv_assign rfl) (w_end (q_then ?_)))
    refine cd_cond (Av == 1) rfl (fun hb11 => ?_) (fun hb11 => ?_)
    ·replace h := bif_t hb11 h
     refine rg (st (v := (I s5.1)) (rv_move rfl) (st (v := (I x9)) (rv_move rfl) (st (v := (I (w64 (s5.1 + x9)))) (rv_add (a := s5.1) (b := x9) rfl rfl) (st (v := (I (w64 (s5.1 + x9)))) (rv_assign rfl) (w_end (q_blk (q_blk ?_)))))))
     obtain rfl := Option.some.inj h
     exact .inl ⟨_, rfl, rfl, _, σ6, fr_join ⟨rfl, rfl, rfl, rfl, trivial⟩, rfl, H.sel' [] rfl rfl⟩
    ·replace h := bif_f hb11 h
     refine c_seq (rg (st (v := (B (Av == 2))) (rv_eql (a := Av) (b := 2) rfl rfl) (st (v := (B (Av == 2))) (rv_assign rfl) (w_end (q_then ?_)))))
     refine cd_cond (Av == 2) rfl (fun hb12 => ?_) (fun hb12 => ?_)
     ·replace h := bif_t hb12 h
      refine rg (st (v := (I s5.1)) (rv_move rfl) (st (v := (I x9)) (rv_move rfl) (st (v := (I (max s5.1 x9))) (rv_max rfl rfl) (st (v := (I (max s5.1 x9))) (rv_assign rfl) (w_end (q_blk (q_blk ?_)))))))
      obtain rfl := Option.some.inj h
      exact .inl ⟨_, rfl, rfl, _, σ6, fr_join ⟨rfl, rfl, rfl, rfl, trivial⟩, rfl, H.sel' [] rfl rfl⟩
     ·replace h := bif_f hb12 h
      refine c_seq (rg (st (v := (B (Av == 3))) (rv_eql (a := Av) (b := 3) rfl rfl) (st (v := (B (Av == 3))) (rv_assign rfl) (w_end (q_then ?_)))))
      refine cd_cond (Av == 3) rfl (fun hb13 => ?_) (fun hb13 => ?_)
      ·replace h := bif_t hb13 h
       refine rg (st (v := (I s5.1)) (rv_move rfl) (st (v := (I x9)) (rv_move rfl) (st (v := (I x9)) (rv_move rfl) (st (v := (I (w64 (x9 * x9)))) (rv_mul (a := x9) (b := x9) rfl rfl) (st (v := (I (w64 (s5.1 + (w64 (x9 * x9)))))) (rv_add (a := s5.1) (b := (w64 (x9 * x9))) rfl rfl) (st (v := (I (w64 (s5.1 + (w64 (x9 * x9)))))) (rv_assign rfl) (w_end (q_blk (q_blk ?_)))))))))
       obtain rfl := Option.some.inj h
       exact .inl ⟨_, rfl, rfl, _, σ6, fr_join ⟨rfl, rfl, rfl, rfl, trivial⟩, rfl, H.sel' [] rfl rfl⟩
      ·replace h := bif_f hb13 h
       refine c_seq (rg (st (v := (B (Av == 4))) (rv_eql (a := Av) (b := 4) rfl rfl) (st (v := (B (Av == 4))) (rv_assign rfl) (w_end (q_then ?_)))))
       refine cd_cond (Av == 4) rfl (fun hb14 => ?_) (fun hb14 => ?_)
       ·replace h := bif_t hb14 h
        refine rg (st (v := (I s5.1)) (rv_move rfl) (st (v := (I x9)) (rv_move rfl) (st (v := (I (min x9 1))) (rv_min rfl rfl) (st (v := (I (w64 (s5.1 + (min x9 1))))) (rv_add (a := s5.1) (b := (min x9 1)) rfl rfl) (st (v := (I (w64 (s5.1 + (min x9 1))))) (rv_assign rfl) (w_end (q_blk (q_blk ?_))))))))
        obtain rfl := Option.some.inj h
        exact .inl ⟨_, rfl, rfl, _, σ6, fr_join ⟨rfl, rfl, rfl, rfl, trivial⟩, rfl, H.sel' [] rfl rfl⟩
       ·replace h := bif_f hb14 h
        refine c_seq (rg (st (v := (I (-1))) (rv_assign rfl) (w_end (q_then (c_ret (q_blk_r (q_blk_r ?_)))))))
        obtain rfl := Option.some.inj h
        exact .inr (⟨_, rfl, rfl, _, σ6, fr_join ⟨rfl, trivial⟩, rfl, H.sel' [] rfl rfl⟩)
   ·clear hj
    have h := h'
    clear h' H
    rintro e a w (⟨t15, rfl, rfl, ρ, σ16, rfl, rfl, H⟩ | ⟨t17, rfl, rfl, ρ, σ18, rfl, rfl, H⟩)
    ·replace h := selim_l h
     refine q_then (rg (st (v := (I (w64 (s5.2 + 1)))) (rv_add (a := s5.2) (b := 1) rfl rfl) (st (v := (I (w64 (s5.2 + 1)))) (rv_move rfl) (w_end (q_then ?_)))))
     obtain rfl := Option.some.inj h
     exact ⟨_, rfl, _, σ16, fr_join ⟨rfl, rfl, rfl, rfl, trivial⟩, rfl, H.sel' [] rfl rfl⟩
    ·replace h := selim_r h
     refine q_then_r (q_then_r (q_blk_r ?_))
     obtain rfl := Option.some.inj h
     obtain rfl := hres _ rfl
     exact .inr (⟨_, rfl, rfl, _, σ18, fr_join ⟨rfl, trivial⟩, rfl, H.sel' [] rfl rfl⟩)
  ·replace h := bif_f hb7 h
   refine c_exit (q_then_x (q_then_x (q_blk_hit ?_)))
   obtain rfl := Option.some.inj h
   obtain rfl := hres _ rfl
   exact .inl ⟨_, rfl, rfl, _, σ6, fr_join ⟨rfl, trivial⟩, rfl, H.sel' [] rfl rfl⟩
 ·clear hj
  have h := h'
  clear h' H
  rintro e a w (⟨t19, rfl, rfl, ρ, σ20, rfl, rfl, H⟩ | ⟨t21, rfl, rfl, ρ, σ22, rfl, rfl, H⟩)
  ·replace h := selim_l h
   refine q_then (c_seq (rg (st (v := (I t19)) (rv_move rfl) (st (v := (I t19)) (rv_assign rfl) (w_end (q_then (c_ret ?_)))))))
   obtain rfl := Option.some.inj h
   exact fin_ret (v := (I t19)) (results_ok Try.results101 (res_tmp (v := (I t19)) rfl res_nil) rfl) ⟨rfl, rfl⟩ (H.sel' [] rfl rfl)
  ·replace h := selim_r h
   refine q_then_r ?_
   obtain rfl := Option.some.inj h
   exact fin_ret (v := (I t21)) (results_ok Try.results101 (res_tmp (v := (I t21)) rfl res_nil) rfl) ⟨rfl, rfl⟩ (H.sel' [] rfl rfl)

theorem c_impl_gapsOf {Aa : List Int} {Af : List Int} (Bk : Aa.length = 4) (Bl : Af.length = 4) {r : (List Int)} (h : M.impl_gapsOf Aa Af = some r) :
    Cal2 Try.prog 102 [(.agg (List.map I Aa).toArray), (.agg (List.map I Af).toArray)] [] (fun n0 v L => v = (.agg (List.map I r).toArray) ∧ L = [] ∧ r.length = 4) := by
 refine cal2 (n := 29) Try.func102 rfl rfl rfl rfl ?_
 intro S0 σ0 n0 hn0 H
 unfold M.impl_gapsOf at h
 refine c_seq (rg (st_ex (ex_box (cs := (List.map I Aa)) H hn0 rfl rfl) wn ?_))
 rintro _ σ2 ⟨b1, rfl, H, -⟩
 refine st_ex (ex_box (cs := (List.map I Af)) H hn0 rfl rfl) wn ?_
 rintro _ σ4 ⟨b3, rfl, H, -⟩
 refine st_ex (ex_alloc (cs := (List.map I (List.replicate 4 0))) H hn0 ti93 rfl) wn ?_
 rintro _ σ6 ⟨b5, rfl, H, -⟩
 refine w_end (q_then (c_seq (rg (st_ex (ex_alloc (cs := (List.map I (List.replicate 4 0))) H hn0 ti93 rfl) wn ?_))))
 rintro _ σ8 ⟨b7, rfl, H, -⟩
 refine w_end (q_then (c_seq (c_seq (rg (st (v := (I 0)) (rv_move rfl) (w_end (q_then ?_)))))))
 obtain ⟨o9, hj, h'⟩ := bind_some h
 clear h
 refine c_cut (fun e a w => e = .normal ∧ ∃ (ρ : Nat → Value) (σ : St), a = fr 29 (updL ρ [(4, (pt b5 0)), (5, (pt b7 0))]) ∧ w = σ.w ∧ Hp S0 σ0 σ [Ch.bx n0 b7 0 (List.map I o9) [] [], Ch.bx n0 b5 0 (List.map I (List.replicate 4 0)) [] []] ∧ o9.length = 4) ?_ ?_
 ·clear h'
  rename _ = some o9 => h
  refine c_blk (wp_loopM _ h (fun s10 a w => ∃ (ρ : Nat → Value) (σ : St), a = fr 29 (updL ρ [(2, (pt b1 0)), (3, (pt b3 0)), (4, (pt b5 0)), (5, (pt b7 0)), (7, (I s10.2))]) ∧ w = σ.w ∧ Hp S0 σ0 σ [Ch.bx n0 b7 0 (List.map I s10.1) [] [], Ch.bx n0 b1 0 (List.map I Aa) [] [], Ch.bx n0 b3 0 (List.map I Af) [] [], Ch.bx n0 b5 0 (List.map I (List.replicate 4 0)) [] []] ∧ s10.1.length = 4) ⟨_, σ8, fr_join ⟨rfl, rfl, rfl, rfl, rfl, trivial⟩, rfl, H.sel' [0, 3, 2, 1] rfl rfl, rfl⟩ ?_)
  clear h H
  rintro s10 a w o ⟨ρ, σ11, rfl, rfl, H, hl12⟩ h hres
  refine c_seq (rg (st (v := (B (decide (s10.2 < 4)))) (rv_lss (a := s10.2) (b := 4) rfl rfl) (w_end (q_then (c_seq ?_)))))
  refine cd_cond (decide (s10.2 < 4)) rfl (fun hb13 => ?_) (fun hb13 => ?_)
  ·replace h := bif_t hb13 h
   refine c_skip (q_then (c_seq (c_blk (c_seq (rg (st (v := (I s10.2)) (rv_move rfl) (st (v := (I s10.2)) (rv_assign rfl) (w_end (q_then ?_)))))))))
   refine rgP (σ := σ11) 16 (by kernel_rfl) (by kernel_rfl) (by kernel_rfl) ?_
   refine sq (v := (I s10.2)) (rv_move rfl) (sq (v := (I s10.2)) (rv_move rfl) ?_)
   obtain ⟨x14, hx15, h'⟩ := bind_some h
   clear h
   have h := h'; clear h'
   have hl16 := gidx_lt hx15 Bk
   refine sq (v := (pt b1 (0 + s10.2.toNat * 1))) (rv_indexAddr_array Try.underlying93 ti3 rfl rfl hl16.1 hl16.2) ?_
   have hc17 := Hp.arrCell H 1 rfl hx15
   refine sq (v := (I x14)) (rv_load1 Try.underlying3 rfl rfl hc17) (sq (v := (I s10.2)) (rv_move rfl) ?_)
   obtain ⟨x18, hx19, h'⟩ := bind_some h
   clear h
   have h := h'; clear h'
   have hl20 := gidx_lt hx19 Bl
   refine sq (v := (pt b3 (0 + s10.2.toNat * 1))) (rv_indexAddr_array Try.underlying93 ti3 rfl rfl hl20.1 hl20.2) ?_
   have hc21 := Hp.arrCell H 2 rfl hx19
   refine sq (v := (I x18)) (rv_load1 Try.underlying3 rfl rfl hc21) (sq (v := (I (w64 (x14 - x18)))) (rv_sub (a := x14) (b := x18) rfl rfl) (sq (v := (I s10.2)) (rv_move rfl) ?_))
   obtain ⟨x22, hx23, h'⟩ := bind_some h
   clear h
   have h := h'; clear h'
   have hl24 := gidx_lt hx23 Bl
   refine sq (v := (pt b3 (0 + s10.2.toNat * 1))) (rv_indexAddr_array Try.underlying93 ti3 rfl rfl hl24.1 hl24.2) ?_
   have hc25 := Hp.arrCell H 2 rfl hx23
   refine sq (v := (I x22)) (rv_load1 Try.underlying3 rfl rfl hc25) (sq (v := (I s10.2)) (rv_move rfl) ?_)
   obtain ⟨x26, hx27, h'⟩ := bind_some h
   clear h
   have h := h'; clear h'
   have hl28 := gidx_lt hx27 Bk
   refine sq (v := (pt b1 (0 + s10.2.toNat * 1))) (rv_indexAddr_array Try.underlying93 ti3 rfl rfl hl28.1 hl28.2) ?_
   have hc29 := Hp.arrCell H 1 rfl hx27
   refine sq (v := (I x26)) (rv_load1 Try.underlying3 rfl rfl hc29) (sq (v := (I (w64 (x22 - x26)))) (rv_sub (a := x22) (b := x26) rfl rfl) (sq (v := (I (max (w64 (x14 - x18)) (w64 (x22 - x26))))) (rv_max rfl rfl) (sq_end ?_)))
   intro σ30 hm31
   replace H := H.grow (hm31.mono fun _ h => h); clear hm31
   obtain ⟨x32, hx33, h'⟩ := bind_some h
   clear h
   have h := h'; clear h'
   have hl34 := gidx_lt hx33 hl12
   refine st (v := (pt b7 (0 + s10.2.toNat * 1))) (rv_indexAddr_array Try.underlying93 ti3 rfl rfl hl34.1 hl34.2) ?_
   have hl35 := gidx_lt hx33 hl12
   refine st_exS (ex_store_box (k := s10.2.toNat * 1) (vs := [(I (max (w64 (x14 - x18)) (w64 (x22 - x26))))]) (cs' := (List.map I (s10.1.set s10.2.toNat (max (w64 (x14 - x18)) (w64 (x22 - x26)))))) H (i := 0) rfl ti3 rfl rfl rfl rfl rfl (by rw [List.length_map, hl12]; simp; omega) (by simp [plain]) (arr_set' _ _ _)) wn ?_
   rintro σ36 ⟨H, -⟩
   refine w_end (q_blk (q_then (rg (st (v := (I (w64 (s10.2 + 1)))) (rv_add (a := s10.2) (b := 1) rfl rfl) (st (v := (I (w64 (s10.2 + 1)))) (rv_move rfl) (w_end (q_then ?_)))))))
   obtain rfl := Option.some.inj h
   exact ⟨_, rfl, _, σ36, fr_join ⟨rfl, rfl, rfl, rfl, rfl, trivial⟩, rfl, H.sel' [0, 1, 2, 3] rfl rfl, (set_len hl12)⟩
  ·replace h := bif_f hb13 h
   refine c_exit (q_then_x (q_then_x (q_blk_hit ?_)))
   obtain rfl := Option.some.inj h
   obtain rfl := hres _ rfl
   exact ⟨rfl, _, σ11, fr_join ⟨rfl, rfl, trivial⟩, rfl, H.sel' [0, 3] rfl rfl, hl12⟩
 ·clear hj
  have h := h'
  clear h' H
  rintro e a w ⟨rfl, ρ, σ37, rfl, rfl, H, hl38⟩
  refine q_then (c_seq (rg ?_))
  have hc39 := H.cells 0 rfl
  refine st (v := (.agg (List.map I o9).toArray)) (rv_load (cs := (List.map I o9)) Try.underlying93 rfl ti93 rfl (by rw [List.length_map]; exact hl38) hc39) ?_
  refine st_exS (ex_store_box (k := 0) (cs := (List.map I (List.replicate 4 0))) (vs := (List.map I o9)) (cs' := (List.map I o9)) H (i := 1) rfl ti93 rfl rfl rfl rfl ((List.length_map _).trans hl38) (arr_fits (k := 4) hl38 rfl) (plain_ints _) (arr_all (k := 4) hl38 rfl)) wn ?_
  rintro σ40 ⟨H, -⟩
  refine w_end (q_then (c_ret ?_))
  obtain rfl := Option.some.inj h
  exact fin_ret (v := (.agg (List.map I o9).toArray)) (results_ok Try.results102 (res_cell rfl (run_cellRes (cs := (List.map I o9)) Try.underlying93 rfl ti93 (by rw [List.length_map]; exact hl38) (H.cells 0 rfl)) res_nil) rfl) ⟨rfl, rfl, hl38⟩ (H.sel' [] rfl rfl)

theorem c_impl_Distance {Av : Int} {Aw : List Int} {Ax : List Int} {Ay : Option Addr} {Az : Nat} {Ba : Option Addr} {Bb : Nat} {r : Int} (h : M.impl_Distance Av Aw Ax = some r) :
    Cal2 Try.prog 71 [(I Av), (Sl Ay Aw Az), (Sl Ba Ax Bb)] [Ch.ro 0 (Sl Ay Aw Az) Aw, Ch.ro 0 (Sl Ba Ax Bb) Ax] (fun n0 v L => v = (I r) ∧ L = []) := by
 refine cal2 (n := 24) Try.func71 rfl rfl rfl rfl ?_
 intro S0 σ0 n0 hn0 H
 unfold M.impl_Distance at h
 refine c_seq (rg (st (v := (I 0)) (rv_assign rfl) (w_end (q_then (c_seq (c_seq ?_))))))
 obtain ⟨o1, hj, h'⟩ := bind_some h
 clear h
 refine c_cut (fun e a w => e = .normal ∧ ∃ (ρ : Nat → Value) (σ : St), a = fr 24 (updL ρ [(0, (I Av)), (1, (Sl Ay Aw Az)), (2, (Sl Ba Ax Bb)), (14, (B o1))]) ∧ w = σ.w ∧ Hp S0 σ0 σ [Ch.ro 0 (Sl Ay Aw Az) Aw, Ch.ro 0 (Sl Ba Ax Bb) Ax]) ?_ ?_
 ·clear h'
  rename _ = some o1 => h
  refine rg (st (v := (Sl Ay Aw Az)) (rv_move rfl) ?_)
  obtain ⟨r2, hx3, h'⟩ := bind_some h
  clear h
  have h := h'; clear h'
  have hc4 := c_impl_ValidVector (Ar := Ay) (As := Az) hx3
  refine st_call (cx_call hc4 (ent_f hc4.fn rfl) hn0 (H.sel' [0, 0, 1] rfl rfl : Hp S0 σ0 _ ([_] ++ _))) wn ?_
  rintro _ σ5 ⟨_, ⟨rfl, rfl⟩, H, -⟩
  replace H : Hp _ _ _ [_, _] := H
  refine st (v := (B (!r2))) (rv_not rfl) (st (v := (B (!r2))) (rv_move rfl) ?_)
  rcases Bool.eq_false_or_eq_true (!r2) with hb6 | hb6
  ·replace h := bif_t hb6 h
   refine st_skip (congrArg some hb6) (st_skip (congrArg some hb6) (st_skip (congrArg some hb6) (st (v := (B true)) (rv_pick_t (congrArg B hb6) rfl) (w_end ?_))))
   obtain rfl := Option.some.inj h
   exact ⟨rfl, _, σ5, fr_join ⟨rfl, rfl, rfl, rfl, trivial⟩, rfl, H.sel' [0, 1] rfl rfl⟩
  ·replace h := bif_f hb6 h
   refine st_g (v := (Sl Ba Ax Bb)) (congrArg some hb6) (rv_move rfl) ?_
   obtain ⟨r7, hx8, h'⟩ := bind_some h
   clear h
   have h := h'; clear h'
   have hc9 := c_impl_ValidVector (Ar := Ba) (As := Bb) hx8
   refine st_call (cx_call hc9 (ent_f hc9.fn rfl) hn0 (H.sel' [1, 0, 1] rfl rfl : Hp S0 σ0 _ ([_] ++ _))) (wanted_yes rfl (by exact (congrArg some hb6))) ?_
   rintro _ σ10 ⟨_, ⟨rfl, rfl⟩, H, -⟩
   replace H : Hp _ _ _ [_, _] := H
   refine st_g (v := (B (!r7))) (congrArg some hb6) (rv_not rfl) (st (v := (B (!r7))) (rv_pick_f (congrArg B hb6) rfl) (w_end ?_))
   obtain rfl := Option.some.inj h
   exact ⟨rfl, _, σ10, fr_join ⟨rfl, rfl, rfl, rfl, trivial⟩, rfl, H.sel' [0, 1] rfl rfl⟩
 ·clear hj
  have h := h'
  clear h' H
  rintro e a w ⟨rfl, ρ, σ11, rfl, rfl, H⟩
  refine q_then ?_
  refine cd_cond o1 rfl (fun hb12 => ?_) (fun hb12 => ?_)
  ·replace h := bif_t hb12 h
   refine c_seq (rg (st (v := (I (-1))) (rv_assign rfl) (w_end (q_then (c_ret (q_then_r ?_))))))
   obtain rfl := Option.some.inj h
   exact fin_ret (v := (I (-1))) (results_ok Try.results71 (res_tmp (v := (I (-1))) rfl res_nil) rfl) ⟨rfl, rfl⟩ (H.sel' [] rfl rfl)
  ·replace h := bif_f hb12 h
   refine c_skip (q_then (c_seq ?_))
   obtain ⟨xs13, hx14, h'⟩ := bind_some h
   clear h
   have h := h'; clear h'
   obtain ⟨hl18, hq19⟩ := garr_some hx14
   clear hx14 hq19
   obtain ⟨b15, o16, rfl, hc17⟩ := (H.ro 0 rfl).arr (Nat.lt_of_lt_of_le (by decide) hl18)
   obtain ⟨xs20, hx21, h'⟩ := bind_some h
   clear h
   have h := h'; clear h'
   obtain ⟨hl25, hq26⟩ := garr_some hx21
   clear hx21 hq26
   obtain ⟨b22, o23, rfl, hc24⟩ := (H.ro 1 rfl).arr (Nat.lt_of_lt_of_le (by decide) hl25)
   obtain ⟨r27, hx28, h'⟩ := bind_some h
   clear h
   have h := h'; clear h'
   have hc29 := c_impl_gapsOf (by rw [List.length_take]; have := hl18; omega) (by rw [List.length_take]; have := hl25; omega) hx28
   have Hs := H
   refine rg2 (σ := σ11) (Nm := Unit) 8 [7] [[false], [true]] [[(0, 0), (1, 1)], [(0, 0)], [(0, 0)], [(0, 0)], [(0, 0)], [(0, 0)], [(0, 0)], [(0, 1)]] 1 [fun _ => fun σm => Hp S0 σ0 σm [Ch.ro 0 (Sl (some ⟨b15, o16, none⟩) Aw Az) Aw, Ch.ro 0 (Sl (some ⟨b22, o23, none⟩) Ax Bb) Ax] ∧ Md (cov []) σ11 σm, fun _ => fun σm => Hp S0 σ0 σm [Ch.ro 0 (Sl (some ⟨b15, o16, none⟩) Aw Az) Aw, Ch.ro 0 (Sl (some ⟨b22, o23, none⟩) Ax Bb) Ax] ∧ Md (cov []) σ11 σm ∧ r27.length = 4] [fun _ => (I Av), fun _ => (Sl (some ⟨b15, o16, none⟩) Aw Az), fun _ => (.pointer (some ⟨b15, o16, none⟩)), fun _ => (.agg (List.map I (List.take 4 Aw)).toArray), fun _ => (Sl (some ⟨b22, o23, none⟩) Ax Bb), fun _ => (.pointer (some ⟨b22, o23, none⟩)), fun _ => (.agg (List.map I (List.take 4 Ax)).toArray), fun _ => (.agg (List.map I r27).toArray)] () (by kernel_rfl) (by kernel_rfl) ?_ ?_ ?_
   ·intro σm m0
    exact ⟨H.grow (m0.mono fun _ h => h.elim), m0⟩
   ·refine ac rfl (by
      intro k _nm ρ σm hJ hoff hdep
      have e0 := look_off (N := 24) (hoff 0 rfl) rfl
      exact dp_v (v := (I Av)) wn (rv_move e0) rfl hJ) ?_
    refine ac rfl (by
      intro k _nm ρ σm hJ hoff hdep
      have e1 := look_off (N := 24) (hoff 1 rfl) rfl
      exact dp_v (v := (Sl (some ⟨b15, o16, none⟩) Aw Az)) wn (rv_move e1) rfl hJ) ?_
    refine ac rfl (by
      intro k _nm ρ σm hJ hoff hdep
      have e16 := hdep 1 rfl rfl 16 rfl
      exact dp_v (v := (.pointer (some ⟨b15, o16, none⟩))) wn (rv_arrPtr Try.underlying93 e16 hl18) rfl hJ) ?_
    refine all_cons (by
      refine ⟨?_, ?_⟩
      ·intro _nm ρ σm hJ hoff hdep
       have e17 := hdep 2 rfl rfl 17 rfl
       obtain ⟨H, m⟩ := id hJ
       replace hc17 := (Hs.ro 0 rfl).arr_md hc17 m
       exact dp_v (v := (.agg (List.map I (List.take 4 Aw)).toArray)) wn (rv_load (cs := List.map I (List.take 4 Aw)) Try.underlying93 rfl ti93 e17 (by rw [List.length_map, List.length_take]; have := hl18; omega) (arr_take hc17)) rfl hJ
      trivial) ?_
    refine ac rfl (by
      intro k _nm ρ σm hJ hoff hdep
      have e2 := look_off (N := 24) (hoff 2 rfl) rfl
      exact dp_v (v := (Sl (some ⟨b22, o23, none⟩) Ax Bb)) wn (rv_move e2) rfl hJ) ?_
    refine ac rfl (by
      intro k _nm ρ σm hJ hoff hdep
      have e19 := hdep 4 rfl rfl 19 rfl
      exact dp_v (v := (.pointer (some ⟨b22, o23, none⟩))) wn (rv_arrPtr Try.underlying93 e19 hl25) rfl hJ) ?_
    refine all_cons (by
      refine ⟨?_, ?_⟩
      ·intro _nm ρ σm hJ hoff hdep
       have e20 := hdep 5 rfl rfl 20 rfl
       obtain ⟨H, m⟩ := id hJ
       replace hc24 := (Hs.ro 1 rfl).arr_md hc24 m
       exact dp_v (v := (.agg (List.map I (List.take 4 Ax)).toArray)) wn (rv_load (cs := List.map I (List.take 4 Ax)) Try.underlying93 rfl ti93 e20 (by rw [List.length_map, List.length_take]; have := hl25; omega) (arr_take hc24)) rfl hJ
      trivial) ?_
    refine all_cons (by
      refine ⟨?_, ?_⟩
      ·intro _nm ρ σm hJ hoff hdep
       have e18 : look 24 ρ 18 = (.agg (List.map I (List.take 4 Aw)).toArray) := hdep 3 rfl rfl 18 rfl
       have e21 : look 24 ρ 21 = (.agg (List.map I (List.take 4 Ax)).toArray) := hdep 6 rfl rfl 21 rfl
       obtain ⟨H, m⟩ := id hJ
       refine dp_cx wn (cx_call hc29 (ent_f hc29.fn (by show [look 24 ρ 18, look 24 ρ 21] = _; rw [e18, e21])) hn0 (H.sel' [0, 1] rfl rfl : Hp S0 σ0 _ ([] ++ _))) ?_
       rintro _ σq ⟨_, ⟨rfl, rfl, hl30⟩, H2, m2⟩
       exact ⟨_, (), rfl, rfl, ⟨H2.sel' [0, 1] rfl rfl, m.comp0 m2, hl30⟩, stab [0, 1, 2, 3, 4, 5, 6] (by kernel_rfl) ⟨rfl, rfl, rfl, rfl, rfl, rfl, rfl, trivial⟩⟩
      trivial) ?_
    exact all_nil
   ·intro _nm ρ σ31 hJ hoff hrel
    have e15 := hrel 0 rfl 15 rfl
    have e22 := hrel 7 rfl 22 rfl
    obtain ⟨H, -, hl30⟩ := (show Hp S0 σ0 σ31 [Ch.ro 0 (Sl (some ⟨b15, o16, none⟩) Aw Az) Aw, Ch.ro 0 (Sl (some ⟨b22, o23, none⟩) Ax Bb) Ax] ∧ Md (cov []) σ11 σ31 ∧ r27.length = 4 from hJ)
    clear hJ Hs
    rw [fr_lookL (L := [(15, (I Av)), (22, (.agg (List.map I r27).toArray))]) ⟨e15, e22, trivial⟩]
    clear hoff hrel e15 e22
    obtain ⟨r32, hx33, h'⟩ := bind_some h
    clear h
    have h := h'; clear h'
    have hc34 := c_impl_distanceOf hl30 hx33
    refine st_call (cx_call hc34 (ent_f hc34.fn rfl) hn0 (H.sel' [0, 1] rfl rfl : Hp S0 σ0 _ ([] ++ _))) wn ?_
    rintro _ σ35 ⟨_, ⟨rfl, rfl⟩, H, -⟩
    replace H : Hp _ _ _ [_, _] := H
    refine st (v := (I r32)) (rv_assign rfl) (w_end (q_then (c_ret ?_)))
    obtain rfl := Option.some.inj h
    exact fin_ret (v := (I r32)) (results_ok Try.results71 (res_tmp (v := (I r32)) rfl res_nil) rfl) ⟨rfl, rfl⟩ (H.sel' [] rfl rfl)

theorem c_impl_CentreOf {Bc : List (List Int)} {Bd : List Int} {Be : Option Addr} {Bf : Nat} {Bg : Option Addr} {Bh : Nat} {r : Int} (h : M.impl_CentreOf Bc Bd = some r) :
    Cal2 Try.prog 34 [(Sl Be Bc Bf), (Sl Bg Bd Bh)] [Ch.ro 0 (Sl Be Bc Bf) Bc, Ch.ro 0 (Sl Bg Bd Bh) Bd] (fun n0 v L => v = (I r) ∧ L = []) := by
 refine cal2 (n := 35) Try.func34 rfl rfl rfl rfl ?_
 intro S0 σ0 n0 hn0 H
 unfold M.impl_CentreOf at h
 refine c_seq (rg (st (v := (I 0)) (rv_assign rfl) (w_end (q_then (c_seq (c_seq ?_))))))
 obtain ⟨o1, hj, h'⟩ := bind_some h
 clear h
 refine c_cut (fun e a w => e = .normal ∧ ∃ (ρ : Nat → Value) (σ : St), a = fr 35 (updL ρ [(0, (Sl Be Bc Bf)), (1, (Sl Bg Bd Bh)), (17, (B o1))]) ∧ w = σ.w ∧ Hp S0 σ0 σ [Ch.ro 0 (Sl Be Bc Bf) Bc, Ch.ro 0 (Sl Bg Bd Bh) Bd]) ?_ ?_
 ·clear h'
  rename _ = some o1 => h
  refine rg (st (v := (Sl Be Bc Bf)) (rv_move rfl) ?_)
  obtain ⟨r2, hx3, h'⟩ := bind_some h
  clear h
  have h := h'; clear h'
  have hc4 := c_impl_ValidCentres (Ao := Be) (Ap := Bf) hx3
  refine st_call (cx_call hc4 (ent_f hc4.fn rfl) hn0 (H.sel' [0, 0, 1] rfl rfl : Hp S0 σ0 _ ([_] ++ _))) wn ?_
  rintro _ σ5 ⟨_, ⟨rfl, rfl⟩, H, -⟩
  replace H : Hp _ _ _ [_, _] := H
  refine st (v := (B (!r2))) (rv_not rfl) (st (v := (B (!r2))) (rv_move rfl) ?_)
  rcases Bool.eq_false_or_eq_true (!r2) with hb6 | hb6
  ·replace h := bif_t hb6 h
   refine st_skip (congrArg some hb6) (st_skip (congrArg some hb6) (st_skip (congrArg some hb6) (st (v := (B true)) (rv_pick_t (congrArg B hb6) rfl) (w_end ?_))))
   obtain rfl := Option.some.inj h
   exact ⟨rfl, _, σ5, fr_join ⟨rfl, rfl, rfl, trivial⟩, rfl, H.sel' [0, 1] rfl rfl⟩
  ·replace h := bif_f hb6 h
   refine st_g (v := (Sl Bg Bd Bh)) (congrArg some hb6) (rv_move rfl) ?_
   obtain ⟨r7, hx8, h'⟩ := bind_some h
   clear h
   have h := h'; clear h'
   have hc9 := c_impl_ValidVector (Ar := Bg) (As := Bh) hx8
   refine st_call (cx_call hc9 (ent_f hc9.fn rfl) hn0 (H.sel' [1, 0, 1] rfl rfl : Hp S0 σ0 _ ([_] ++ _))) (wanted_yes rfl (by exact (congrArg some hb6))) ?_
   rintro _ σ10 ⟨_, ⟨rfl, rfl⟩, H, -⟩
   replace H : Hp _ _ _ [_, _] := H
   refine st_g (v := (B (!r7))) (congrArg some hb6) (rv_not rfl) (st (v := (B (!r7))) (rv_pick_f (congrArg B hb6) rfl) (w_end ?_))
   obtain rfl := Option.some.inj h
   exact ⟨rfl, _, σ10, fr_join ⟨rfl, rfl, rfl, trivial⟩, rfl, H.sel' [0, 1] rfl rfl⟩
 ·clear hj
  have h := h'
  clear h' H
  rintro e a w ⟨rfl, ρ, σ11, rfl, rfl, H⟩
  refine q_then ?_
  refine cd_cond o1 rfl (fun hb12 => ?_) (fun hb12 => ?_)
  ·replace h := bif_t hb12 h
   refine c_seq (rg (st (v := (I (-1))) (rv_assign rfl) (w_end (q_then (c_ret (q_then_r ?_))))))
   obtain rfl := Option.some.inj h
   exact fin_ret (v := (I (-1))) (results_ok Try.results34 (res_tmp (v := (I (-1))) rfl res_nil) rfl) ⟨rfl, rfl⟩ (H.sel' [] rfl rfl)
  ·replace h := bif_f hb12 h
   refine c_skip (q_then (c_seq (rg (st (v := (I 0)) (rv_assign rfl) (st (v := (I 1000000)) (rv_assign rfl) (w_end (q_then (c_seq (c_seq (rg (st (v := (Sl Be Bc Bf)) (rv_move rfl) ?_)))))))))))
   refine st (v := (I (Bc.length : Int))) (rv_len Try.underlying41 rfl) (st (v := (I 0)) (rv_move rfl) (w_end (q_then ?_)))
   obtain ⟨o13, hj, h'⟩ := bind_some h
   clear h
   refine c_cut (fun e a w => e = .normal ∧ ∃ (ρ : Nat → Value) (σ : St), a = fr 35 (updL ρ [(5, (I o13))]) ∧ w = σ.w ∧ Hp S0 σ0 σ []) ?_ ?_
   ·clear h'
    rename _ = some o13 => h
    refine c_blk (wp_loopM _ h (fun s14 a w => ∃ (ρ : Nat → Value) (σ : St), a = fr 35 (updL ρ [(1, (Sl Bg Bd Bh)), (5, (I s14.1)), (6, (I s14.2.1)), (18, (Sl Be Bc Bf)), (19, (I (Bc.length : Int))), (20, (I s14.2.2))]) ∧ w = σ.w ∧ Hp S0 σ0 σ [Ch.ro 0 (Sl Bg Bd Bh) Bd, Ch.ro 0 (Sl Be Bc Bf) Bc]) ⟨_, σ11, fr_join ⟨rfl, rfl, rfl, rfl, rfl, rfl, trivial⟩, rfl, H.sel' [1, 0] rfl rfl⟩ ?_)
    clear h H
    rintro s14 a w o ⟨ρ, σ15, rfl, rfl, H⟩ h hres
    refine c_seq (rg (st (v := (B (decide (s14.2.2 < (Bc.length : Int))))) (rv_lss (a := s14.2.2) (b := (Bc.length : Int)) rfl rfl) (w_end (q_then (c_seq ?_)))))
    refine cd_cond (decide (s14.2.2 < (Bc.length : Int))) rfl (fun hb16 => ?_) (fun hb16 => ?_)
    ·replace h := bif_t hb16 h
     refine c_skip (q_then (c_seq ?_))
     obtain ⟨o17, hj, h'⟩ := bind_some h
     clear h
     refine c_cut (fun e a w => e = .normal ∧ ∃ (ρ : Nat → Value) (σ : St), a = fr 35 (updL ρ [(1, (Sl Bg Bd Bh)), (5, (I o17.1)), (6, (I o17.2)), (18, (Sl Be Bc Bf)), (19, (I (Bc.length : Int))), (20, (I s14.2.2))]) ∧ w = σ.w ∧ Hp S0 σ0 σ [Ch.ro 0 (Sl Bg Bd Bh) Bd, Ch.ro 0 (Sl Be Bc Bf) Bc]) ?_ ?_
     ·clear h'
      rename _ = some o17 => h
      refine c_blk (c_seq (rg (st (v := (I s14.2.2)) (rv_move rfl) ?_)))
      obtain ⟨x18, hx19, h'⟩ := bind_some h
      clear h
      have h := h'; clear h'
      obtain ⟨b21, o22, hi20, -⟩ := (H.ro 1 rfl).ix hx19
      refine st (v := (pt b21 o22)) (rv_ix Try.underlying41 ti23 rfl rfl hi20) ?_
      obtain ⟨v26, hc27, hR25⟩ := ((H.ro 1 rfl).at hx19 hi20).slice
      obtain ⟨a23, c24, rfl⟩ := hR25.isSl
      replace H := H.add (d := Ch.ro 0 (Sl a23 x18 c24) x18) hR25 (fun _ h => h)
      clear hR25
      refine st (v := (Sl a23 x18 c24)) (rv_load1 Try.underlying23 rfl rfl hc27) (st (v := (I s14.2.2)) (rv_assign rfl) (st (v := (Sl a23 x18 c24)) (rv_assign rfl) (w_end (q_then (c_seq (rg (st (v := (Sl a23 x18 c24)) (rv_move rfl) (st (v := (Sl Bg Bd Bh)) (rv_move rfl) ?_))))))))
      obtain ⟨r28, hx29, h'⟩ := bind_some h
      clear h
      have h := h'; clear h'
      have hc30 := c_impl_Distance (Ay := a23) (Az := c24) (Ba := Bg) (Bb := Bh) hx29
      refine st_call (cx_call hc30 (ent_f hc30.fn rfl) hn0 (H.sel' [0, 1, 0, 1, 2] rfl rfl : Hp S0 σ0 _ ([_, _] ++ _))) wn ?_
      rintro _ σ31 ⟨_, ⟨rfl, rfl⟩, H, -⟩
      replace H : Hp _ _ _ [_, _, _] := H
      refine st (v := (I r28)) (rv_assign rfl) (w_end (q_then (c_seq (rg (st (v := (I r28)) (rv_move rfl) (st (v := (I s14.2.1)) (rv_move rfl) (st (v := (B (decide (r28 < s14.2.1)))) (rv_lss (a := r28) (b := s14.2.1) rfl rfl) (w_end (q_then ?_)))))))))
      refine cd_cond (decide (r28 < s14.2.1)) rfl (fun hb32 => ?_) (fun hb32 => ?_)
      ·replace h := bif_t hb32 h
       refine rg (st (v := (I s14.2.2)) (rv_move rfl) (st (v := (I r28)) (rv_move rfl) (st (v := (I s14.2.2)) (rv_assign rfl) (st (v := (I r28)) (rv_assign rfl) (w_end (q_blk ?_))))))
       obtain rfl := Option.some.inj h
       exact ⟨rfl, _, σ31, fr_join ⟨rfl, rfl, rfl, rfl, rfl, rfl, trivial⟩, rfl, H.sel' [1, 2] rfl rfl⟩
      ·replace h := bif_f hb32 h
       refine c_skip (q_blk ?_)
       obtain rfl := Option.some.inj h
       exact ⟨rfl, _, σ31, fr_join ⟨rfl, rfl, rfl, rfl, rfl, rfl, trivial⟩, rfl, H.sel' [1, 2] rfl rfl⟩
     ·clear hj
      have h := h'
      clear h' H
      rintro e a w ⟨rfl, ρ, σ33, rfl, rfl, H⟩
      refine q_then (rg (st (v := (I (w64 (s14.2.2 + 1)))) (rv_add (a := s14.2.2) (b := 1) rfl rfl) (st (v := (I (w64 (s14.2.2 + 1)))) (rv_move rfl) (w_end (q_then ?_)))))
      obtain rfl := Option.some.inj h
      exact ⟨_, rfl, _, σ33, fr_join ⟨rfl, rfl, rfl, rfl, rfl, rfl, trivial⟩, rfl, H.sel' [0, 1] rfl rfl⟩
    ·replace h := bif_f hb16 h
     refine c_exit (q_then_x (q_then_x (q_blk_hit ?_)))
     obtain rfl := Option.some.inj h
     obtain rfl := hres _ rfl
     exact ⟨rfl, _, σ15, fr_join ⟨rfl, trivial⟩, rfl, H.sel' [] rfl rfl⟩
   ·clear hj
    have h := h'
    clear h' H
    rintro e a w ⟨rfl, ρ, σ34, rfl, rfl, H⟩
    refine q_then (c_seq (rg (st (v := (I o13)) (rv_move rfl) (st (v := (I o13)) (rv_assign rfl) (w_end (q_then (c_ret ?_)))))))
    obtain rfl := Option.some.inj h
    exact fin_ret (v := (I o13)) (results_ok Try.results34 (res_tmp (v := (I o13)) rfl res_nil) rfl) ⟨rfl, rfl⟩ (H.sel' [] rfl rfl)

theorem c_laws_FnExactCentreOf {Bm : List (List Int)} {Bn : List Int} {Bo : Option Addr} {Bp : Nat} {Bq : Option Addr} {Br : Nat} {r : Bool} (h : M.laws_FnExactCentreOf Bm Bn = some r) :
    Cal2 Try.prog 6 [(Sl Bo Bm Bp), (Sl Bq Bn Br)] [Ch.ro 0 (Sl Bo Bm Bp) Bm, Ch.ro 0 (Sl Bq Bn Br) Bn] (fun n0 v L => v = (B r) ∧ L = []) := by
 refine cal2 (n := 43) Try.func6 rfl rfl rfl rfl ?_
 intro S0 σ0 n0 hn0 H
 unfold M.laws_FnExactCentreOf at h
 refine c_seq (rg (st (v := (B false)) (rv_assign rfl) (w_end (q_then (c_seq (c_seq (rg (st (v := (Sl Bq Bn Br)) (rv_move rfl) (st (v := (I (Bn.length : Int))) (rv_len Try.underlying23 rfl) (st (v := (B (decide (1048576 < (Bn.length : Int))))) (rv_gtr (a := (Bn.length : Int)) (b := 1048576) rfl rfl) (w_end ?_)))))))))))
 refine q_then ?_
 refine cd_cond (decide (1048576 < (Bn.length : Int))) rfl (fun hb1 => ?_) (fun hb1 => ?_)
 ·replace h := bif_t hb1 h
  refine c_seq (rg (st (v := (B true)) (rv_assign rfl) (w_end (q_then (c_ret (q_then_r ?_))))))
  obtain rfl := Option.some.inj h
  exact fin_ret (v := (B true)) (results_ok Try.results6 (res_tmp (v := (B true)) rfl res_nil) rfl) ⟨rfl, rfl⟩ (H.sel' [] rfl rfl)
 ·replace h := bif_f hb1 h
  refine c_skip (q_then (c_seq (rg (st (v := (I 1048576)) (rv_assign rfl) (w_end (q_then (c_seq (rg (st (v := (Sl Bo Bm Bp)) (rv_move rfl) (st (v := (I 1048576)) (rv_move rfl) ?_))))))))))
  obtain ⟨r2, hx3, h'⟩ := bind_some h
  clear h
  have h := h'; clear h'
  have hc4 := c_laws_szIntSS (Ad := Bo) (Ae := Bp) hx3
  refine st_call (cx_call hc4 (ent_f hc4.fn rfl) hn0 (H.sel' [0, 0, 1] rfl rfl : Hp S0 σ0 _ ([_] ++ _))) wn ?_
  rintro _ σ5 ⟨_, ⟨rfl, rfl⟩, H, -⟩
  replace H : Hp _ _ _ [_, _] := H
  refine st (v := (I r2)) (rv_assign rfl) (w_end (q_then (c_seq (c_seq (rg (st (v := (I r2)) (rv_move rfl) (st (v := (B (decide (r2 < 0)))) (rv_lss (a := r2) (b := 0) rfl rfl) (w_end (q_then ?_)))))))))
  refine cd_cond (decide (r2 < 0)) rfl (fun hb6 => ?_) (fun hb6 => ?_)
  ·replace h := bif_t hb6 h
   refine c_seq (rg (st (v := (B true)) (rv_assign rfl) (w_end (q_then (c_ret (q_then_r ?_))))))
   obtain rfl := Option.some.inj h
   exact fin_ret (v := (B true)) (results_ok Try.results6 (res_tmp (v := (B true)) rfl res_nil) rfl) ⟨rfl, rfl⟩ (H.sel' [] rfl rfl)
  ·replace h := bif_f hb6 h
   refine c_skip (q_then (c_seq (rg (st (v := (Sl Bo Bm Bp)) (rv_move rfl) ?_))))
   obtain ⟨r7, hx8, h'⟩ := bind_some h
   clear h
   have h := h'; clear h'
   have hc9 := c_laws_toIntSS (Ad := Bo) (Ae := Bp) hx8
   refine st_call (cx_call hc9 (ent_f hc9.fn rfl) hn0 (H.sel' [0, 0, 1] rfl rfl : Hp S0 σ0 _ ([_] ++ _))) wn ?_
   rintro _ σ13 ⟨_, ⟨a10, c11, rfl, rfl, ht12⟩, H, -⟩
   replace H : Hp _ _ _ [_, _, _] := H
   refine st (v := (Sl Bq Bn Br)) (rv_move rfl) ?_
   obtain ⟨r14, hx15, h'⟩ := bind_some h
   clear h
   have h := h'; clear h'
   have hc16 := c_laws_toIntS (Ad := Bq) (Ae := Br) hx15
   refine st_call (cx_call hc16 (ent_f hc16.fn rfl) hn0 (H.sel' [2, 0, 1, 2] rfl rfl : Hp S0 σ0 _ ([_] ++ _))) wn ?_
   rintro _ σ20 ⟨_, ⟨a17, c18, rfl, rfl, ht19⟩, H, -⟩
   replace H : Hp _ _ _ [_, _, _, _] := H
   obtain ⟨σ21, hw22, H, -⟩ := H.pub 1 rfl (Nat.le_refl _)
   rw [← hw22]; clear hw22
   obtain ⟨σ23, hw24, H, -⟩ := H.pub 1 rfl (Nat.le_refl _)
   rw [← hw24]; clear hw24
   replace H := H.roLow 1 0 rfl (Nat.zero_le _)
   replace H := H.roLow 1 0 rfl (Nat.zero_le _)
   obtain ⟨r25, hx26, h'⟩ := bind_some h
   clear h
   have h := h'; clear h'
   have hc27 := c_spec_CentreOf (Be := a10) (Bf := c11) (Bg := a17) (Bh := c18) hx26
   refine st_call (cx_call hc27 (ent_f hc27.fn rfl) hn0 (H.sel' [1, 0, 0, 1, 2, 3, 4, 5] rfl rfl : Hp S0 σ0 _ ([_, _] ++ _))) wn ?_
   rintro _ σ28 ⟨_, ⟨rfl, rfl⟩, H, -⟩
   replace H : Hp _ _ _ [_, _, _, _, _, _] := H
   refine st (v := (I r25)) (rv_assign rfl) (w_end (q_then (c_seq (rg (st (v := (Sl Bo Bm Bp)) (rv_move rfl) ?_)))))
   obtain ⟨r29, hx30, h'⟩ := bind_some h
   clear h
   have h := h'; clear h'
   have hc31 := c_laws_toIntSS (Ad := Bo) (Ae := Bp) hx30
   refine st_call (cx_call hc31 (ent_f hc31.fn rfl) hn0 (H.sel' [4, 0, 1, 2, 3, 4, 5] rfl rfl : Hp S0 σ0 _ ([_] ++ _))) wn ?_
   rintro _ σ35 ⟨_, ⟨a32, c33, rfl, rfl, ht34⟩, H, -⟩
   replace H : Hp _ _ _ [_, _, _, _, _, _, _] := H
   refine st (v := (Sl a32 r29 c33)) (rv_assign rfl) (w_end (q_then (c_seq (rg (st (v := (Sl Bq Bn Br)) (rv_move rfl) ?_)))))
   obtain ⟨r36, hx37, h'⟩ := bind_some h
   clear h
   have h := h'; clear h'
   have hc38 := c_laws_toIntS (Ad := Bq) (Ae := Br) hx37
   refine st_call (cx_call hc38 (ent_f hc38.fn rfl) hn0 (H.sel' [6, 0, 1, 2, 3, 4, 5, 6] rfl rfl : Hp S0 σ0 _ ([_] ++ _))) wn ?_
   rintro _ σ42 ⟨_, ⟨a39, c40, rfl, rfl, ht41⟩, H, -⟩
   replace H : Hp _ _ _ [_, _, _, _, _, _, _, _] := H
   replace H : Hp S0 σ0 σ42 [Ch.own n0 n0 (Sl a39 r36 c40) r36, Ch.own n0 n0 (Sl a32 r29 c33) r29, Ch.ro 0 (Sl Bo Bm Bp) Bm, Ch.ro 0 (Sl Bq Bn Br) Bn] := H.sel' [0, 1, 6, 7] rfl rfl
   refine st (v := (Sl a39 r36 c40)) (rv_assign rfl) (w_end (q_then (c_seq (rg (st (v := (Sl a32 r29 c33)) (rv_move rfl) (st (v := (Sl a39 r36 c40)) (rv_move rfl) ?_))))))
   obtain ⟨r43, hx44, h'⟩ := bind_some h
   clear h
   have h := h'; clear h'
   have hc45 := c_impl_CentreOf (Be := a32) (Bf := c33) (Bg := a39) (Bh := c40) hx44
   have hle := Nat.le_trans hn0 H.size
   refine st_call (cx_lend (Loan.lend (Loan.lend Loan.nil)) hc45 (ent_f hc45.fn rfl) (show Hp S0 σ0 _ ([Ch.own n0 n0 (Sl a32 r29 c33) r29, Ch.own n0 n0 (Sl a39 r36 c40) r36] ++ ([] ++ [Ch.ro 0 (Sl Bo Bm Bp) Bm, Ch.ro 0 (Sl Bq Bn Br) Bn])) from (H.sel' [1, 0, 2, 3] rfl rfl)) (by rintro _ _ _ ⟨rfl, rfl⟩; exact trivial)) wn ?_
   rintro _ σ46 ⟨_, ⟨rfl, rfl⟩, H, -, -⟩
   replace H : Hp _ _ _ [_, _, _, _] := H
   clear hle
   replace H : Hp _ _ _ [_, _, _, _] := H
   refine st (v := (I r43)) (rv_assign rfl) (w_end (q_then (c_seq (c_seq (rg (st (v := (I r43)) (rv_move rfl) (st (v := (I r25)) (rv_move rfl) (st (v := (B (r43 != r25))) (rv_neq (a := r43) (b := r25) rfl rfl) (w_end (q_then ?_))))))))))
   refine cd_cond (r43 != r25) rfl (fun hb47 => ?_) (fun hb47 => ?_)
   ·replace h := bif_t hb47 h
    refine c_seq (rg (st (v := (B false)) (rv_assign rfl) (w_end (q_then (c_ret (q_then_r ?_))))))
    obtain rfl := Option.some.inj h
    exact fin_ret (v := (B false)) (results_ok Try.results6 (res_tmp (v := (B false)) rfl res_nil) rfl) ⟨rfl, rfl⟩ (H.sel' [] rfl rfl)
   ·replace h := bif_f hb47 h
    refine c_skip (q_then (c_seq (c_seq (rg (st (v := (Sl a32 r29 c33)) (rv_move rfl) (st (v := (Sl Bo Bm Bp)) (rv_move rfl) ?_))))))
    obtain ⟨r48, hx49, h'⟩ := bind_some h
    clear h
    have h := h'; clear h'
    have hc50 := c_laws_toIntSS (Ad := Bo) (Ae := Bp) hx49
    refine st_call (cx_call hc50 (ent_f hc50.fn rfl) hn0 (H.sel' [2, 0, 1, 2, 3] rfl rfl : Hp S0 σ0 _ ([_] ++ _))) wn ?_
    rintro _ σ54 ⟨_, ⟨a51, c52, rfl, rfl, ht53⟩, H, -⟩
    replace H : Hp _ _ _ [_, _, _, _, _] := H
    obtain ⟨σ55, hw56, H, -⟩ := H.pub 1 rfl (Nat.le_refl _)
    rw [← hw56]; clear hw56
    obtain ⟨σ57, hw58, H, -⟩ := H.pub 1 rfl (Nat.le_refl _)
    rw [← hw58]; clear hw58
    replace H := H.roLow 1 0 rfl (Nat.zero_le _)
    replace H := H.roLow 1 0 rfl (Nat.zero_le _)
    obtain ⟨r59, hx60, h'⟩ := bind_some h
    clear h
    have h := h'; clear h'
    have hc61 := c_laws_eqIntSS (Ad := a32) (Ae := c33) (Ag := a51) (Ah := c52) hx60
    refine st_call (cx_call hc61 (ent_f hc61.fn rfl) hn0 (H.sel' [1, 0, 0, 1, 2, 3, 4, 5, 6] rfl rfl : Hp S0 σ0 _ ([_, _] ++ _))) wn ?_
    rintro _ σ62 ⟨_, ⟨rfl, rfl⟩, H, -⟩
    replace H : Hp _ _ _ [_, _, _, _, _, _, _] := H
    refine st (v := (B (!r59))) (rv_not rfl) (w_end (q_then ?_))
    refine cd_cond (!r59) rfl (fun hb63 => ?_) (fun hb63 => ?_)
    ·replace h := bif_t hb63 h
     refine c_seq (rg (st (v := (B false)) (rv_assign rfl) (w_end (q_then (c_ret (q_then_r ?_))))))
     obtain rfl := Option.some.inj h
     exact fin_ret (v := (B false)) (results_ok Try.results6 (res_tmp (v := (B false)) rfl res_nil) rfl) ⟨rfl, rfl⟩ (H.sel' [] rfl rfl)
    ·replace h := bif_f hb63 h
     refine c_skip (q_then (c_seq (c_seq (rg (st (v := (Sl a39 r36 c40)) (rv_move rfl) (st (v := (Sl Bq Bn Br)) (rv_move rfl) ?_))))))
     obtain ⟨r64, hx65, h'⟩ := bind_some h
     clear h
     have h := h'; clear h'
     have hc66 := c_laws_toIntS (Ad := Bq) (Ae := Br) hx65
     refine st_call (cx_call hc66 (ent_f hc66.fn rfl) hn0 (H.sel' [6, 0, 1, 2, 3, 4, 5, 6] rfl rfl : Hp S0 σ0 _ ([_] ++ _))) wn ?_
     rintro _ σ70 ⟨_, ⟨a67, c68, rfl, rfl, ht69⟩, H, -⟩
     replace H : Hp _ _ _ [_, _, _, _, _, _, _, _] := H
     replace H : Hp S0 σ0 σ70 [Ch.own n0 n0 (Sl a67 r64 c68) r64, Ch.own n0 n0 (Sl a39 r36 c40) r36] := H.sel' [0, 5] rfl rfl
     obtain ⟨σ71, hw72, H, -⟩ := H.pub 1 rfl (Nat.le_refl _)
     rw [← hw72]; clear hw72
     obtain ⟨σ73, hw74, H, -⟩ := H.pub 1 rfl (Nat.le_refl _)
     rw [← hw74]; clear hw74
     replace H := H.roLow 1 0 rfl (Nat.zero_le _)
     replace H := H.roLow 1 0 rfl (Nat.zero_le _)
     obtain ⟨r75, hx76, h'⟩ := bind_some h
     clear h
     have h := h'; clear h'
     have hc77 := c_laws_eqIntS (Ad := a39) (Ae := c40) (Ag := a67) (Ah := c68) hx76
     refine st_call (cx_call hc77 (ent_f hc77.fn rfl) hn0 (H.sel' [1, 0, 0, 1, 2, 3] rfl rfl : Hp S0 σ0 _ ([_, _] ++ _))) wn ?_
     rintro _ σ78 ⟨_, ⟨rfl, rfl⟩, H, -⟩
     replace H : Hp _ _ _ [_, _, _, _] := H
     refine st (v := (B (!r75))) (rv_not rfl) (w_end (q_then ?_))
     refine cd_cond (!r75) rfl (fun hb79 => ?_) (fun hb79 => ?_)
     ·replace h := bif_t hb79 h
      refine c_seq (rg (st (v := (B false)) (rv_assign rfl) (w_end (q_then (c_ret (q_then_r ?_))))))
      obtain rfl := Option.some.inj h
      exact fin_ret (v := (B false)) (results_ok Try.results6 (res_tmp (v := (B false)) rfl res_nil) rfl) ⟨rfl, rfl⟩ (H.sel' [] rfl rfl)
     ·replace h := bif_f hb79 h
      refine c_skip (q_then (c_seq (rg (st (v := (B true)) (rv_assign rfl) (w_end (q_then (c_ret ?_)))))))
      obtain rfl := Option.some.inj h
      exact fin_ret (v := (B true)) (results_ok Try.results6 (res_tmp (v := (B true)) rfl res_nil) rfl) ⟨rfl, rfl⟩ (H.sel' [] rfl rfl)

end Go.Vs
