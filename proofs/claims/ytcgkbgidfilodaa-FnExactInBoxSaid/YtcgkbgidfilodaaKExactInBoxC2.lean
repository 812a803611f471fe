/- The functions compute what their models say. -/
import Derived.Test.YtcgkbgidfilodaaKExactInBoxC1
set_option linter.unusedVariables false
set_option linter.unusedSimpArgs false
set_option maxRecDepth 20000
namespace Go.Vs
open Go Go.Proofs
attribute [local irreducible] Code.wp Code.wpIn wpList wpListIn wpQuiet Calls CallsIn

theorem c_laws_szItemS {a_0 : List (Int × (List Int) × Int)} {left_1 : Int} {aa_0 : Option Addr} {ca_0 : Nat} {r : Int} (h : M.laws_szItemS a_0 left_1 = some r) :
    Cal2 Try.prog 45 [(Sl aa_0 a_0 ca_0), (I left_1)] [Ch.ro 0 (Sl aa_0 a_0 ca_0) a_0] (fun n0 v L => v = (I r) ∧ L = []) := by
 refine cal2 (n := 27) Try.func45 rfl rfl rfl rfl ?_
 intro S0 σ0 n0 hn0 H
 unfold M.laws_szItemS at h
 refine c_seq ?_
 refine rg ?_
 refine st (v := (I 0)) (rv_assign rfl) ?_
 refine w_end ?_
 refine q_then ?_
 refine c_seq ?_
 refine rg ?_
 refine st (v := (I left_1)) (rv_move rfl) ?_
 refine st (v := (Sl aa_0 a_0 ca_0)) (rv_move rfl) ?_
 refine st (v := (I (a_0.length : Int))) (rv_len Try.underlying61 rfl) ?_
 refine st (v := (I (w64 (left_1 - (a_0.length : Int))))) (rv_sub (a := left_1) (b := (a_0.length : Int)) rfl rfl) ?_
 refine st (v := (I (w64 (left_1 - (a_0.length : Int))))) (rv_assign rfl) ?_
 refine w_end ?_
 refine q_then ?_
 refine c_seq ?_
 refine c_seq ?_
 refine rg ?_
 refine st (v := (I (w64 (left_1 - (a_0.length : Int))))) (rv_move rfl) ?_
 refine st (v := (B (decide ((w64 (left_1 - (a_0.length : Int))) < 0)))) (rv_lss (a := (w64 (left_1 - (a_0.length : Int)))) (b := 0) rfl rfl) ?_
 refine w_end ?_
 refine q_then ?_
 refine cd_cond (decide ((w64 (left_1 - (a_0.length : Int))) < 0)) rfl (fun hb1 => ?_) (fun hb1 => ?_)
 ·replace h := bif_t hb1 h
  refine c_seq ?_
  refine rg ?_
  refine st (v := (I (-1))) (rv_assign rfl) ?_
  refine w_end ?_
  refine q_then ?_
  refine c_ret ?_
  refine q_then_r ?_
  obtain rfl := Option.some.inj h
  exact fin_ret (v := (I (-1))) (results_ok Try.results45 (res_tmp (v := (I (-1))) rfl res_nil) rfl) ⟨rfl, rfl⟩ (H.sel' [] rfl rfl)
 ·replace h := bif_f hb1 h
  refine c_skip ?_
  refine q_then ?_
  refine c_seq ?_
  refine c_seq ?_
  refine rg ?_
  refine st (v := (I 0)) (rv_assign rfl) ?_
  refine w_end ?_
  refine q_then ?_
  obtain ⟨o2, hj, h'⟩ := bind_some h
  clear h
  refine c_cut (fun e a w => (∃ t, o2 = (.inl t) ∧ e = .normal ∧ ∃ (ρ : Nat → Value) (σ : St), a = fr 27 (updL ρ [(1, (I t))]) ∧ w = σ.w ∧ Hp S0 σ0 σ []) ∨ (∃ t, o2 = (.inr t) ∧ e = .ret ∧ ∃ (ρ : Nat → Value) (σ : St), a = fr 27 (updL ρ [(4, (I t))]) ∧ w = σ.w ∧ Hp S0 σ0 σ [])) ?_ ?_
  ·clear h'
   rename _ = some o2 => h
   refine c_blk ?_
   refine wp_loopM _ h (fun s3 a w => ∃ (ρ : Nat → Value) (σ : St), a = fr 27 (updL ρ [(0, (Sl aa_0 a_0 ca_0)), (1, (I s3.1)), (5, (I s3.2))]) ∧ w = σ.w ∧ Hp S0 σ0 σ [Ch.ro 0 (Sl aa_0 a_0 ca_0) a_0]) ⟨_, σ0, fr_join ⟨rfl, rfl, rfl, trivial⟩, rfl, H.sel' [0] rfl rfl⟩ ?_
   clear h H
   rintro s3 a w o ⟨ρ, σ4, rfl, rfl, H⟩ h hres
   refine c_seq ?_
   refine c_seq ?_
   refine rg ?_
   refine st (v := (I s3.2)) (rv_move rfl) ?_
   refine st (v := (Sl aa_0 a_0 ca_0)) (rv_move rfl) ?_
   refine st (v := (I (a_0.length : Int))) (rv_len Try.underlying61 rfl) ?_
   refine st (v := (B (decide (s3.2 < (a_0.length : Int))))) (rv_lss (a := s3.2) (b := (a_0.length : Int)) rfl rfl) ?_
   refine w_end ?_
   refine q_then ?_
   refine cd_cond (decide (s3.2 < (a_0.length : Int))) rfl (fun hb5 => ?_) (fun hb5 => ?_)
   ·replace h := bif_t hb5 h
    refine c_skip ?_
    refine q_then ?_
    refine c_seq ?_
    refine c_blk ?_
    refine c_seq ?_
    refine rg ?_
    refine st (v := (Sl aa_0 a_0 ca_0)) (rv_move rfl) ?_
    refine st (v := (I s3.2)) (rv_move rfl) ?_
    obtain ⟨x6, hx7, h'⟩ := bind_some h
    clear h
    have h := h'; clear h'
    obtain ⟨b9, o10, hi8, -⟩ := (H.ro 0 rfl).ix hx7
    refine st (v := (pt b9 o10)) (rv_ix Try.underlying61 ti62 rfl rfl hi8) ?_
    obtain ⟨_, ⟨_, _, rfl, rfl, ⟨_, _, rfl, ⟨_, rfl, hR15⟩, rfl⟩⟩, hl11, hc12⟩ := ((H.ro 0 rfl).at hx7 hi8).cells
    obtain ⟨a13, c14, rfl⟩ := hR15.isSl
    replace H := H.add (d := Ch.ro 0 (Sl a13 x6.2.1 c14) x6.2.1) hR15 (fun _ h => h)
    clear hR15
    refine st (v := (.agg #[(I x6.1), (Sl a13 x6.2.1 c14), (I x6.2.2)])) (rv_load Try.underlying62 rfl ti62 rfl hl11 hc12) ?_
    refine st (v := (I s3.1)) (rv_move rfl) ?_
    obtain ⟨r16, hx17, h'⟩ := bind_some h
    clear h
    have h := h'; clear h'
    have hc18 := c_laws_szItem (aa_0_1 := a13) (ca_0_1 := c14) hx17
    refine st_call (cx_call hc18 (ent_f hc18.fn rfl) hn0 (show Hp S0 σ0 _ ([Ch.ro 0 (Sl a13 x6.2.1 c14) x6.2.1] ++ [Ch.ro 0 (Sl a13 x6.2.1 c14) x6.2.1, Ch.ro 0 (Sl aa_0 a_0 ca_0) a_0]) from (H.sel' [0, 0, 1] rfl rfl))) (wanted_none _ rfl _) ?_
    rintro _ σ19 ⟨_, ⟨rfl, rfl⟩, H, -⟩
    replace H : Hp S0 σ0 σ19 [Ch.ro 0 (Sl a13 x6.2.1 c14) x6.2.1, Ch.ro 0 (Sl aa_0 a_0 ca_0) a_0] := H
    refine st (v := (I r16)) (rv_assign rfl) ?_
    refine w_end ?_
    refine q_then ?_
    refine c_seq ?_
    refine rg ?_
    refine st (v := (I r16)) (rv_move rfl) ?_
    refine st (v := (B (decide (r16 < 0)))) (rv_lss (a := r16) (b := 0) rfl rfl) ?_
    refine w_end ?_
    refine q_then ?_
    refine cd_cond (decide (r16 < 0)) rfl (fun hb20 => ?_) (fun hb20 => ?_)
    ·replace h := bif_t hb20 h
     refine c_seq ?_
     refine rg ?_
     refine st (v := (I (-1))) (rv_assign rfl) ?_
     refine w_end ?_
     refine q_then ?_
     refine c_ret ?_
     refine q_blk_r ?_
     refine q_then_r ?_
     refine q_then_r ?_
     refine q_blk_r ?_
     obtain rfl := Option.some.inj h
     obtain rfl := hres _ rfl
     exact .inr (⟨_, rfl, rfl, _, σ19, fr_join ⟨rfl, trivial⟩, rfl, H.sel' [] rfl rfl⟩)
    ·replace h := bif_f hb20 h
     refine c_skip ?_
     refine q_blk ?_
     refine q_then ?_
     refine rg ?_
     refine st (v := (I s3.2)) (rv_move rfl) ?_
     refine st (v := (I (w64 (s3.2 + 1)))) (rv_add (a := s3.2) (b := 1) rfl rfl) ?_
     refine st (v := (I (w64 (s3.2 + 1)))) (rv_assign rfl) ?_
     refine w_end ?_
     refine q_then ?_
     obtain rfl := Option.some.inj h
     exact ⟨_, rfl, _, σ19, fr_join ⟨rfl, rfl, rfl, trivial⟩, rfl, H.sel' [1] rfl rfl⟩
   ·replace h := bif_f hb5 h
    refine c_exit ?_
    refine q_then_x ?_
    refine q_then_x ?_
    refine q_blk_hit ?_
    obtain rfl := Option.some.inj h
    obtain rfl := hres _ rfl
    exact .inl ⟨_, rfl, rfl, _, σ4, fr_join ⟨rfl, trivial⟩, rfl, H.sel' [] rfl rfl⟩
  ·clear hj
   have h := h'
   clear h' H
   rintro e a w (⟨t21, rfl, rfl, ρ, σ22, rfl, rfl, H⟩ | ⟨t23, rfl, rfl, ρ, σ24, rfl, rfl, H⟩)
   ·replace h := selim_l h
    refine q_then ?_
    refine c_seq ?_
    refine rg ?_
    refine st (v := (I t21)) (rv_move rfl) ?_
    refine st (v := (I t21)) (rv_assign rfl) ?_
    refine w_end ?_
    refine q_then ?_
    refine c_ret ?_
    obtain rfl := Option.some.inj h
    exact fin_ret (v := (I t21)) (results_ok Try.results45 (res_tmp (v := (I t21)) rfl res_nil) rfl) ⟨rfl, rfl⟩ (H.sel' [] rfl rfl)
   ·replace h := selim_r h
    refine q_then_r ?_
    obtain rfl := Option.some.inj h
    exact fin_ret (v := (I t23)) (results_ok Try.results45 (res_tmp (v := (I t23)) rfl res_nil) rfl) ⟨rfl, rfl⟩ (H.sel' [] rfl rfl)

theorem c_laws_toItem {a_0 : Int × (List Int) × Int} {aa_0_1 : Option Addr} {ca_0_1 : Nat} {r : (Int × (List Int) × Int)} (h : M.laws_toItem a_0 = some r) :
    Cal2 Try.prog 49 [(.agg #[(I a_0.1), (Sl aa_0_1 a_0.2.1 ca_0_1), (I a_0.2.2)])] [Ch.ro 0 (Sl aa_0_1 a_0.2.1 ca_0_1) a_0.2.1] (fun n0 v L => ∃ (az1 : Option Addr), ∃ (cz2 : Nat), v = (.agg #[(I r.1), (Sl az1 r.2.1 cz2), (I r.2.2)]) ∧ L = [Ch.own n0 n0 (Sl az1 r.2.1 cz2) r.2.1] ∧ cz2 = r.2.1.length) := by
 refine cal2 (n := 15) Try.func49 rfl rfl rfl rfl ?_
 intro S0 σ0 n0 hn0 H
 unfold M.laws_toItem at h
 refine c_seq ?_
 refine rg ?_
 refine st_ex (ex_box (cs := [(I a_0.1), (Sl aa_0_1 a_0.2.1 ca_0_1), (I a_0.2.2)]) H hn0 rfl rfl) (wanted_none _ rfl _) ?_
 rintro _ σ2 ⟨b1, rfl, H, -⟩
 refine st_ex (ex_alloc (cs := [(I 0), (.slice none 0 0), (I 0)]) H hn0 ti31 rfl) (wanted_none _ rfl _) ?_
 rintro _ σ4 ⟨b3, rfl, H, -⟩
 refine w_end ?_
 refine q_then ?_
 refine c_seq ?_
 refine rg ?_
 refine st_ex (ex_alloc (cs := [(I 0), (.slice none 0 0), (I 0)]) H hn0 ti31 rfl) (wanted_none _ rfl _) ?_
 rintro _ σ6 ⟨b5, rfl, H, -⟩
 refine w_end ?_
 refine q_then ?_
 refine c_seq ?_
 refine rg ?_
 refine st (v := (pt b1 0)) (rv_fieldAddr (off := 0) (ft := 3) Try.underlying62 rfl ti3 rfl rfl) ?_
 have hc7 := H.cell (u := (I a_0.1)) (o' := 0) 2 0 rfl rfl rfl
 refine st (v := (I a_0.1)) (rv_load1 Try.underlying3 rfl rfl hc7) ?_
 refine st (v := (pt b5 0)) (rv_fieldAddr (off := 0) (ft := 3) Try.underlying31 rfl ti3 rfl rfl) ?_
 refine st_exS (ex_store_box (k := 0) (cs := [(I 0), (.slice none 0 0), (I 0)]) (vs := [(I a_0.1)]) (cs' := [(I a_0.1), (.slice none 0 0), (I 0)]) H (i := 0) rfl ti3 rfl rfl rfl rfl rfl (Nat.le_of_ble_eq_true rfl) (by simp [plain]) rfl) (wanted_none _ rfl _) ?_
 rintro σ8 ⟨H, -⟩
 refine w_end ?_
 refine q_then ?_
 refine c_seq ?_
 refine rg ?_
 refine st (v := (pt b1 1)) (rv_fieldAddr (off := 1) (ft := 24) Try.underlying62 rfl ti24 rfl rfl) ?_
 have hc9 := H.cell (u := (Sl aa_0_1 a_0.2.1 ca_0_1)) (o' := 1) 2 1 rfl rfl rfl
 refine st (v := (Sl aa_0_1 a_0.2.1 ca_0_1)) (rv_load1 Try.underlying24 rfl rfl hc9) ?_
 obtain ⟨r10, hx11, h'⟩ := bind_some h
 clear h
 have h := h'; clear h'
 have hc12 := c_laws_toIntS (aa_0 := aa_0_1) (ca_0 := ca_0_1) hx11
 refine st_call (cx_call hc12 (ent_f hc12.fn rfl) hn0 (show Hp S0 σ0 _ ([Ch.ro 0 (Sl aa_0_1 a_0.2.1 ca_0_1) a_0.2.1] ++ [Ch.bx n0 b5 0 [(I a_0.1), (.slice none 0 0), (I 0)] [] [], Ch.bx n0 b3 0 [(I 0), (.slice none 0 0), (I 0)] [] [], Ch.bx n0 b1 0 [(I a_0.1), (Sl aa_0_1 a_0.2.1 ca_0_1), (I a_0.2.2)] [] [], Ch.ro 0 (Sl aa_0_1 a_0.2.1 ca_0_1) a_0.2.1]) from (H.sel' [3, 0, 1, 2, 3] rfl rfl))) (wanted_none _ rfl _) ?_
 rintro _ σ16 ⟨_, ⟨a13, c14, rfl, rfl, ht15⟩, H, -⟩
 replace H : Hp S0 σ0 σ16 [Ch.own n0 n0 (Sl a13 r10 c14) r10, Ch.bx n0 b5 0 [(I a_0.1), (.slice none 0 0), (I 0)] [] [], Ch.bx n0 b3 0 [(I 0), (.slice none 0 0), (I 0)] [] [], Ch.bx n0 b1 0 [(I a_0.1), (Sl aa_0_1 a_0.2.1 ca_0_1), (I a_0.2.2)] [] [], Ch.ro 0 (Sl aa_0_1 a_0.2.1 ca_0_1) a_0.2.1] := H
 refine st (v := (pt b5 1)) (rv_fieldAddr (off := 1) (ft := 24) Try.underlying31 rfl ti24 rfl rfl) ?_
 refine st_exS (ex_store_box (k := 1) (cs := [(I a_0.1), (.slice none 0 0), (I 0)]) (vs := [(Sl a13 r10 c14)]) (cs' := [(I a_0.1), (Sl a13 r10 c14), (I 0)]) H (i := 1) rfl ti24 rfl rfl rfl rfl rfl (Nat.le_of_ble_eq_true rfl) (by simp [plain]) rfl) (wanted_none _ rfl _) ?_
 rintro σ17 ⟨H, -⟩
 refine w_end ?_
 refine q_then ?_
 refine c_seq ?_
 refine rg ?_
 refine st (v := (pt b1 2)) (rv_fieldAddr (off := 2) (ft := 3) Try.underlying62 rfl ti3 rfl rfl) ?_
 have hc18 := H.cell (u := (I a_0.2.2)) (o' := 2) 3 2 rfl rfl rfl
 refine st (v := (I a_0.2.2)) (rv_load1 Try.underlying3 rfl rfl hc18) ?_
 refine st (v := (pt b5 2)) (rv_fieldAddr (off := 2) (ft := 3) Try.underlying31 rfl ti3 rfl rfl) ?_
 refine st_exS (ex_store_box (k := 2) (cs := [(I a_0.1), (Sl a13 r10 c14), (I 0)]) (vs := [(I a_0.2.2)]) (cs' := [(I a_0.1), (Sl a13 r10 c14), (I a_0.2.2)]) H (i := 0) rfl ti3 rfl rfl rfl rfl rfl (Nat.le_of_ble_eq_true rfl) (by simp [plain]) rfl) (wanted_none _ rfl _) ?_
 rintro σ19 ⟨H, -⟩
 refine w_end ?_
 refine q_then ?_
 refine c_seq ?_
 refine rg ?_
 have hc20 := H.cells 0 rfl
 refine st (v := (.agg #[(I a_0.1), (Sl a13 r10 c14), (I a_0.2.2)])) (rv_load (cs := [(I a_0.1), (Sl a13 r10 c14), (I a_0.2.2)]) Try.underlying31 rfl ti31 rfl rfl hc20) ?_
 refine st_exS (ex_store_box (k := 0) (cs := [(I 0), (.slice none 0 0), (I 0)]) (vs := [(I a_0.1), (Sl a13 r10 c14), (I a_0.2.2)]) (cs' := [(I a_0.1), (Sl a13 r10 c14), (I a_0.2.2)]) H (i := 2) rfl ti31 rfl rfl rfl rfl rfl (Nat.le_of_ble_eq_true rfl) (by simp [plain]) rfl) (wanted_none _ rfl _) ?_
 rintro σ21 ⟨H, -⟩
 refine w_end ?_
 refine q_then ?_
 refine c_ret ?_
 obtain rfl := Option.some.inj h
 exact fin_ret (v := (.agg #[(I a_0.1), (Sl a13 r10 c14), (I a_0.2.2)])) (results_ok Try.results49 (res_cell rfl (run_cellRes (cs := [(I a_0.1), (Sl a13 r10 c14), (I a_0.2.2)]) Try.underlying31 rfl ti31 rfl (H.cells 0 rfl)) res_nil) rfl) ⟨a13, c14, rfl, rfl, ht15⟩ (H.sel' [2] rfl rfl)

theorem c_laws_toItemS {a_0 : List (Int × (List Int) × Int)} {aa_0 : Option Addr} {ca_0 : Nat} {r : (List (Int × (List Int) × Int))} (h : M.dItemS a_0 = some r) :
    Cal2 Try.prog 48 [(Sl aa_0 a_0 ca_0)] [Ch.ro 0 (Sl aa_0 a_0 ca_0) a_0] (fun n0 v L => ∃ (az1 : Option Addr), ∃ (cz2 : Nat), ∃ (K : List Ch), v = (Sl az1 r cz2) ∧ L = [Ch.big K] ∧ Dp n0 (Sl az1 r cz2) r K) := by
 obtain ⟨hn, hx, rfl⟩ := dItemS_some h
 clear h
 refine cal2 (n := 23) Try.func48 rfl rfl rfl rfl ?_
 intro S0 σ0 n0 hn0 H
 refine c_seq ?_
 refine rg ?_
 refine st (v := (.slice none 0 0)) (rv_assign rfl) ?_
 refine w_end ?_
 refine q_then ?_
 refine c_seq ?_
 refine rg ?_
 refine st (v := (Sl aa_0 r ca_0)) (rv_move rfl) ?_
 refine st (v := (I (r.length : Int))) (rv_len Try.underlying61 rfl) ?_
 refine st_ex (ex_make (el := n0) (z0 := ((0, (.slice none 0 0), 0) : Int × Value × Int)) (zs := [(I 0), (.slice none 0 0), (I 0)]) H hn0 Try.underlying23 ti31 rfl rfl (⟨[(I 0)], [(.slice none 0 0), (I 0)], rfl, rfl, ⟨[(.slice none 0 0)], [(I 0)], rfl, ⟨rfl, rfl⟩, rfl⟩⟩) (by decide) (gmake_nat _ _ hn) rfl rfl) (wanted_none _ rfl _) ?_
 rintro _ σ6 ⟨b3, c4, rfl, ht5, H, -⟩
 rw [show (Sl (some ⟨b3, 0, none⟩) (List.replicate r.length ((0, (.slice none 0 0), 0) : Int × Value × Int)) c4) = (Sl (some ⟨b3, 0, none⟩) r c4) from sl_len (by simp)] at H ⊢
 refine st (v := (Sl (some ⟨b3, 0, none⟩) r c4)) (rv_assign rfl) ?_
 refine w_end ?_
 refine q_then ?_
 refine c_seq ?_
 refine c_seq ?_
 refine rg ?_
 refine st (v := (I 0)) (rv_assign rfl) ?_
 refine w_end ?_
 refine q_then ?_
 refine c_cut (fun e a w => e = .normal ∧ ∃ (ρ : Nat → Value) (σ : St) (ps : List ((Int × (List Int) × Int) × Value)), a = fr 23 (updL ρ [(3, (Sl (some ⟨b3, 0, none⟩) r c4))]) ∧ w = σ.w ∧ ps.map (·.1) = r ∧ Hp S0 σ0 σ [Ch.own n0 n0 (Sl (some ⟨b3, 0, none⟩) r c4) (ps.map dsh), Ch.big (ps.map (dow n0))]) ?_ ?_
 ·refine c_blk ?_
  refine wp_loop_ghost (fun k a w => ∃ (i : Nat) (ρ : Nat → Value) (σ : St) (ps : List ((Int × (List Int) × Int) × Value)), i + k = r.length ∧ ps.length = i ∧ ps.map (·.1) = r.take i ∧ a = fr 23 (updL ρ [(0, (Sl aa_0 r ca_0)), (3, (Sl (some ⟨b3, 0, none⟩) r c4)), (4, (I (i : Int)))]) ∧ w = σ.w ∧ Hp S0 σ0 σ [Ch.own n0 n0 (Sl (some ⟨b3, 0, none⟩) r c4) (ps.map dsh ++ List.replicate k ((0, (.slice none 0 0), 0) : Int × Value × Int)), Ch.ro 0 (Sl aa_0 r ca_0) r, Ch.big (ps.map (dow n0))]) r.length ⟨0, _, σ6, [], by omega, rfl, rfl, fr_join ⟨rfl, rfl, rfl, trivial⟩, rfl, H.bigNil.sel' [1, 2, 0] rfl rfl⟩ ?_
  clear H
  rintro k _ _ ⟨i, ρ, σ9, ps, hik, hps, hpr, rfl, rfl, H⟩
  refine c_seq ?_
  refine c_seq ?_
  refine rg ?_
  refine st (v := (I (i : Int))) (rv_move rfl) ?_
  refine st (v := (Sl aa_0 r ca_0)) (rv_move rfl) ?_
  refine st (v := (I (r.length : Int))) (rv_len Try.underlying61 rfl) ?_
  refine st (v := (B (decide ((i : Int) < (r.length : Int))))) (rv_lss (a := (i : Int)) (b := (r.length : Int)) rfl rfl) ?_
  refine w_end ?_
  refine q_then ?_
  refine cd_cond (decide ((i : Int) < (r.length : Int))) rfl (fun hb => ?_) (fun hb => ?_)
  ·have hlt : i < r.length := by have := of_decide_eq_true hb; omega
   obtain ⟨m, rfl⟩ : ∃ m, k = m + 1 := ⟨k - 1, by omega⟩
   refine c_skip ?_
   refine q_then ?_
   refine c_seq ?_
   refine c_blk ?_
   refine rg ?_
   refine st (v := (Sl (some ⟨b3, 0, none⟩) r c4)) (rv_move rfl) ?_
   refine st (v := (I (i : Int))) (rv_move rfl) ?_
   refine st (v := (Sl aa_0 r ca_0)) (rv_move rfl) ?_
   refine st (v := (I (i : Int))) (rv_move rfl) ?_
   have hx14 : gidx r (i : Int) = some r[i] := gidx_at hlt
   have hx24 := hx _ (List.getElem_mem hlt)
   have hpt : (ps.map (·.1)) ++ [r[i]] = r.take (i + 1) := by rw [hpr, List.take_succ_eq_append_getElem hlt]
   generalize r[i] = x13 at hx14 hx24 hpt
   obtain ⟨b16, o17, hi15, -⟩ := (H.ro 1 rfl).ix hx14
   refine st (v := (pt b16 o17)) (rv_ix Try.underlying61 ti62 rfl rfl hi15) ?_
   obtain ⟨_, ⟨_, _, rfl, rfl, ⟨_, _, rfl, ⟨_, rfl, hR22⟩, rfl⟩⟩, hl18, hc19⟩ := ((H.ro 1 rfl).at hx14 hi15).cells
   obtain ⟨a20, c21, rfl⟩ := hR22.isSl
   replace H := H.add (d := Ch.ro 0 (Sl a20 x13.2.1 c21) x13.2.1) hR22 (fun _ h => h)
   clear hR22
   refine st (v := (.agg #[(I x13.1), (Sl a20 x13.2.1 c21), (I x13.2.2)])) (rv_load Try.underlying62 rfl ti62 rfl hl18 hc19) ?_
   have hc25 := c_laws_toItem (aa_0_1 := a20) (ca_0_1 := c21) hx24
   refine st_call (cx_call hc25 (ent_f hc25.fn rfl) hn0 (H.sel' [0, 1, 2, 3] rfl rfl : Hp S0 σ0 _ ([_] ++ _))) (wanted_none _ rfl _) ?_
   rintro _ σ29 ⟨_, ⟨a26, c27, rfl, rfl, ht28⟩, H, -⟩
   replace H : Hp S0 σ0 σ29 [Ch.own n0 n0 (Sl a26 x13.2.1 c27) x13.2.1, Ch.own n0 n0 (Sl (some ⟨b3, 0, none⟩) r c4) (ps.map dsh ++ List.replicate (m + 1) ((0, (.slice none 0 0), 0) : Int × Value × Int)), Ch.ro 0 (Sl aa_0 r ca_0) r, Ch.big (ps.map (dow n0))] := H
   have hx31 := gidx_step (ps.map dsh) ((0, (.slice none 0 0), 0) : Int × Value × Int) m (i : Int) (by simp [hps])
   obtain ⟨b33, o34, hi32, -⟩ := (H.own 1 rfl).ix hx31
   refine st (v := (pt b33 o34)) (rv_ix Try.underlying23 ti31 rfl rfl hi32) ?_
   refine st_exS (ex_store_own (e' := ((x13.1, (Sl a26 x13.2.1 c27), x13.2.2) : Int × Value × Int)) (vs := [(I x13.1), (Sl a26 x13.2.1 c27), (I x13.2.2)]) (k := 0) H (i := 1) rfl ti31 hx31 hi32 rfl rfl rfl rfl rfl (Nat.le_of_ble_eq_true rfl) (by simp [plain]) (by rintro _ ⟨_, _, rfl, rfl, ⟨_, _, rfl, ⟨rfl, -⟩, rfl⟩⟩; exact ⟨[(I x13.1)], [(Sl a26 x13.2.1 c27), (I x13.2.2)], rfl, rfl, ⟨[(Sl a26 x13.2.1 c27)], [(I x13.2.2)], rfl, ⟨rfl, rfl⟩, rfl⟩⟩)) (wanted_none _ rfl _) ?_
   rintro σ40 ⟨H, -⟩
   refine w_end ?_
   refine q_blk ?_
   refine q_then ?_
   refine rg ?_
   refine st (v := (I (i : Int))) (rv_move rfl) ?_
   refine st (v := (I (w64 ((i : Int) + 1)))) (rv_add (a := (i : Int)) (b := 1) rfl rfl) ?_
   refine st (v := (I (w64 ((i : Int) + 1)))) (rv_assign rfl) ?_
   refine w_end ?_
   have e1 : w64 ((i : Int) + 1) = ((i + 1 : Nat) : Int) := w64_id (by omega) (by omega)
   rw [e1]
   refine q_then ?_
   have hset := set_step (ps.map dsh) ((0, (.slice none 0 0), 0) : Int × Value × Int) (x13.1, (Sl a26 x13.2.1 c27), x13.2.2) m
   rw [List.length_map, hps] at hset
   refine ⟨m, by omega, i + 1, _, σ40, ps ++ [(x13, (Sl a26 x13.2.1 c27))], by omega, by simp [hps], by simpa using hpt, fr_join ⟨rfl, rfl, rfl, trivial⟩, rfl, ?_⟩
   replace H := Hp.bigSnoc (H.sel' [1, 3, 0, 2] rfl rfl)
   replace H := H.sel' [1, 2, 0] rfl rfl
   simp only [Int.toNat_natCast, hset] at H
   rw [List.map_append, List.map_append]
   exact H
  ·have hlt : ¬ i < r.length := by have := of_decide_eq_false hb; omega
   obtain rfl : k = 0 := by omega
   obtain rfl : i = r.length := by omega
   refine c_exit ?_
   refine q_then_x ?_
   refine q_then_x ?_
   refine q_blk_hit ?_
   rw [List.take_length] at hpr
   simp only [List.replicate_zero, List.append_nil] at H
   exact ⟨rfl, _, σ9, ps, fr_join ⟨rfl, trivial⟩, rfl, hpr, H.sel' [0, 2] rfl rfl⟩
 ·clear H
  rintro e a w ⟨rfl, ρ, σ41, ps, rfl, rfl, hps, H⟩
  refine q_then ?_
  refine c_seq ?_
  refine rg ?_
  refine st (v := (Sl (some ⟨b3, 0, none⟩) r c4)) (rv_move rfl) ?_
  refine st (v := (Sl (some ⟨b3, 0, none⟩) r c4)) (rv_assign rfl) ?_
  refine w_end ?_
  refine q_then ?_
  refine c_ret ?_
  exact fin_ret (v := (Sl (some ⟨b3, 0, none⟩) r c4)) (results_ok Try.results48 (res_tmp (v := (Sl (some ⟨b3, 0, none⟩) r c4)) rfl res_nil) rfl) ⟨(some ⟨b3, 0, none⟩), c4, _, rfl, rfl, ⟨ps, hps.symm, rfl⟩⟩ H.bigCons


theorem c_laws_eqItem {a_0 : Int × (List Int) × Int} {b_1 : Int × (List Int) × Int} {aa_0_1 : Option Addr} {ca_0_1 : Nat} {ab_1_1 : Option Addr} {cb_1_1 : Nat} {r : Bool} (h : M.laws_eqItem a_0 b_1 = some r) :
    Cal2 Try.prog 52 [(.agg #[(I a_0.1), (Sl aa_0_1 a_0.2.1 ca_0_1), (I a_0.2.2)]), (.agg #[(I b_1.1), (Sl ab_1_1 b_1.2.1 cb_1_1), (I b_1.2.2)])] [Ch.ro 0 (Sl aa_0_1 a_0.2.1 ca_0_1) a_0.2.1, Ch.ro 0 (Sl ab_1_1 b_1.2.1 cb_1_1) b_1.2.1] (fun n0 v L => v = (B r) ∧ L = []) := by
 refine cal2 (n := 21) Try.func52 rfl rfl rfl rfl ?_
 intro S0 σ0 n0 hn0 H
 unfold M.laws_eqItem at h
 refine c_seq ?_
 refine rg ?_
 refine st_ex (ex_box (cs := [(I a_0.1), (Sl aa_0_1 a_0.2.1 ca_0_1), (I a_0.2.2)]) H hn0 rfl rfl) (wanted_none _ rfl _) ?_
 rintro _ σ2 ⟨b1, rfl, H, -⟩
 refine st_ex (ex_box (cs := [(I b_1.1), (Sl ab_1_1 b_1.2.1 cb_1_1), (I b_1.2.2)]) H hn0 rfl rfl) (wanted_none _ rfl _) ?_
 rintro _ σ4 ⟨b3, rfl, H, -⟩
 refine st (v := (B false)) (rv_assign rfl) ?_
 refine w_end ?_
 refine q_then ?_
 refine c_seq ?_
 refine c_seq ?_
 refine rg ?_
 refine st (v := (pt b1 0)) (rv_fieldAddr (off := 0) (ft := 3) Try.underlying31 rfl ti3 rfl rfl) ?_
 have hc5 := H.cell (u := (I a_0.1)) (o' := 0) 1 0 rfl rfl rfl
 refine st (v := (I a_0.1)) (rv_load1 Try.underlying3 rfl rfl hc5) ?_
 refine st (v := (pt b3 0)) (rv_fieldAddr (off := 0) (ft := 3) Try.underlying31 rfl ti3 rfl rfl) ?_
 have hc6 := H.cell (u := (I b_1.1)) (o' := 0) 0 0 rfl rfl rfl
 refine st (v := (I b_1.1)) (rv_load1 Try.underlying3 rfl rfl hc6) ?_
 refine st (v := (B (a_0.1 != b_1.1))) (rv_neq (a := a_0.1) (b := b_1.1) rfl rfl) ?_
 refine w_end ?_
 refine q_then ?_
 refine cd_cond (a_0.1 != b_1.1) rfl (fun hb7 => ?_) (fun hb7 => ?_)
 ·replace h := bif_t hb7 h
  refine c_seq ?_
  refine rg ?_
  refine st (v := (B false)) (rv_assign rfl) ?_
  refine w_end ?_
  refine q_then ?_
  refine c_ret ?_
  refine q_then_r ?_
  obtain rfl := Option.some.inj h
  exact fin_ret (v := (B false)) (results_ok Try.results52 (res_tmp (v := (B false)) rfl res_nil) rfl) ⟨rfl, rfl⟩ (H.sel' [] rfl rfl)
 ·replace h := bif_f hb7 h
  refine c_skip ?_
  refine q_then ?_
  refine c_seq ?_
  refine c_seq ?_
  refine rg ?_
  refine st (v := (pt b1 1)) (rv_fieldAddr (off := 1) (ft := 24) Try.underlying31 rfl ti24 rfl rfl) ?_
  have hc8 := H.cell (u := (Sl aa_0_1 a_0.2.1 ca_0_1)) (o' := 1) 1 1 rfl rfl rfl
  refine st (v := (Sl aa_0_1 a_0.2.1 ca_0_1)) (rv_load1 Try.underlying24 rfl rfl hc8) ?_
  refine st (v := (pt b3 1)) (rv_fieldAddr (off := 1) (ft := 24) Try.underlying31 rfl ti24 rfl rfl) ?_
  have hc9 := H.cell (u := (Sl ab_1_1 b_1.2.1 cb_1_1)) (o' := 1) 0 1 rfl rfl rfl
  refine st (v := (Sl ab_1_1 b_1.2.1 cb_1_1)) (rv_load1 Try.underlying24 rfl rfl hc9) ?_
  obtain ⟨r10, hx11, h'⟩ := bind_some h
  clear h
  have h := h'; clear h'
  have hc12 := c_laws_eqIntS (aa_0 := aa_0_1) (ca_0 := ca_0_1) (ab_1 := ab_1_1) (cb_1 := cb_1_1) hx11
  refine st_call (cx_call hc12 (ent_f hc12.fn rfl) hn0 (show Hp S0 σ0 _ ([Ch.ro 0 (Sl aa_0_1 a_0.2.1 ca_0_1) a_0.2.1, Ch.ro 0 (Sl ab_1_1 b_1.2.1 cb_1_1) b_1.2.1] ++ [Ch.bx n0 b3 0 [(I b_1.1), (Sl ab_1_1 b_1.2.1 cb_1_1), (I b_1.2.2)] [] [], Ch.bx n0 b1 0 [(I a_0.1), (Sl aa_0_1 a_0.2.1 ca_0_1), (I a_0.2.2)] [] [], Ch.ro 0 (Sl aa_0_1 a_0.2.1 ca_0_1) a_0.2.1, Ch.ro 0 (Sl ab_1_1 b_1.2.1 cb_1_1) b_1.2.1]) from (H.sel' [2, 3, 0, 1, 2, 3] rfl rfl))) (wanted_none _ rfl _) ?_
  rintro _ σ13 ⟨_, ⟨rfl, rfl⟩, H, -⟩
  replace H : Hp S0 σ0 σ13 [Ch.bx n0 b3 0 [(I b_1.1), (Sl ab_1_1 b_1.2.1 cb_1_1), (I b_1.2.2)] [] [], Ch.bx n0 b1 0 [(I a_0.1), (Sl aa_0_1 a_0.2.1 ca_0_1), (I a_0.2.2)] [] [], Ch.ro 0 (Sl aa_0_1 a_0.2.1 ca_0_1) a_0.2.1, Ch.ro 0 (Sl ab_1_1 b_1.2.1 cb_1_1) b_1.2.1] := H
  refine st (v := (B (!r10))) (rv_not rfl) ?_
  refine w_end ?_
  refine q_then ?_
  refine cd_cond (!r10) rfl (fun hb14 => ?_) (fun hb14 => ?_)
  ·replace h := bif_t hb14 h
   refine c_seq ?_
   refine rg ?_
   refine st (v := (B false)) (rv_assign rfl) ?_
   refine w_end ?_
   refine q_then ?_
   refine c_ret ?_
   refine q_then_r ?_
   obtain rfl := Option.some.inj h
   exact fin_ret (v := (B false)) (results_ok Try.results52 (res_tmp (v := (B false)) rfl res_nil) rfl) ⟨rfl, rfl⟩ (H.sel' [] rfl rfl)
  ·replace h := bif_f hb14 h
   refine c_skip ?_
   refine q_then ?_
   refine c_seq ?_
   refine c_seq ?_
   refine rg ?_
   refine st (v := (pt b1 2)) (rv_fieldAddr (off := 2) (ft := 3) Try.underlying31 rfl ti3 rfl rfl) ?_
   have hc15 := H.cell (u := (I a_0.2.2)) (o' := 2) 1 2 rfl rfl rfl
   refine st (v := (I a_0.2.2)) (rv_load1 Try.underlying3 rfl rfl hc15) ?_
   refine st (v := (pt b3 2)) (rv_fieldAddr (off := 2) (ft := 3) Try.underlying31 rfl ti3 rfl rfl) ?_
   have hc16 := H.cell (u := (I b_1.2.2)) (o' := 2) 0 2 rfl rfl rfl
   refine st (v := (I b_1.2.2)) (rv_load1 Try.underlying3 rfl rfl hc16) ?_
   refine st (v := (B (a_0.2.2 != b_1.2.2))) (rv_neq (a := a_0.2.2) (b := b_1.2.2) rfl rfl) ?_
   refine w_end ?_
   refine q_then ?_
   refine cd_cond (a_0.2.2 != b_1.2.2) rfl (fun hb17 => ?_) (fun hb17 => ?_)
   ·replace h := bif_t hb17 h
    refine c_seq ?_
    refine rg ?_
    refine st (v := (B false)) (rv_assign rfl) ?_
    refine w_end ?_
    refine q_then ?_
    refine c_ret ?_
    refine q_then_r ?_
    obtain rfl := Option.some.inj h
    exact fin_ret (v := (B false)) (results_ok Try.results52 (res_tmp (v := (B false)) rfl res_nil) rfl) ⟨rfl, rfl⟩ (H.sel' [] rfl rfl)
   ·replace h := bif_f hb17 h
    refine c_skip ?_
    refine q_then ?_
    refine c_seq ?_
    refine rg ?_
    refine st (v := (B true)) (rv_assign rfl) ?_
    refine w_end ?_
    refine q_then ?_
    refine c_ret ?_
    obtain rfl := Option.some.inj h
    exact fin_ret (v := (B true)) (results_ok Try.results52 (res_tmp (v := (B true)) rfl res_nil) rfl) ⟨rfl, rfl⟩ (H.sel' [] rfl rfl)

theorem c_laws_eqItemS {a_0 : List (Int × (List Int) × Int)} {b_1 : List (Int × (List Int) × Int)} {aa_0 : Option Addr} {ca_0 : Nat} {ab_1 : Option Addr} {cb_1 : Nat} {r : Bool} (h : M.laws_eqItemS a_0 b_1 = some r) :
    Cal2 Try.prog 51 [(Sl aa_0 a_0 ca_0), (Sl ab_1 b_1 cb_1)] [Ch.ro 0 (Sl aa_0 a_0 ca_0) a_0, Ch.ro 0 (Sl ab_1 b_1 cb_1) b_1] (fun n0 v L => v = (B r) ∧ L = []) := by
 refine cal2 (n := 27) Try.func51 rfl rfl rfl rfl ?_
 intro S0 σ0 n0 hn0 H
 unfold M.laws_eqItemS at h
 refine c_seq ?_
 refine rg ?_
 refine st (v := (B false)) (rv_assign rfl) ?_
 refine w_end ?_
 refine q_then ?_
 refine c_seq ?_
 refine c_seq ?_
 refine rg ?_
 refine st (v := (Sl aa_0 a_0 ca_0)) (rv_move rfl) ?_
 refine st (v := (I (a_0.length : Int))) (rv_len Try.underlying23 rfl) ?_
 refine st (v := (Sl ab_1 b_1 cb_1)) (rv_move rfl) ?_
 refine st (v := (I (b_1.length : Int))) (rv_len Try.underlying23 rfl) ?_
 refine st (v := (B ((a_0.length : Int) != (b_1.length : Int)))) (rv_neq (a := (a_0.length : Int)) (b := (b_1.length : Int)) rfl rfl) ?_
 refine w_end ?_
 refine q_then ?_
 refine cd_cond ((a_0.length : Int) != (b_1.length : Int)) rfl (fun hb1 => ?_) (fun hb1 => ?_)
 ·replace h := bif_t hb1 h
  refine c_seq ?_
  refine rg ?_
  refine st (v := (B false)) (rv_assign rfl) ?_
  refine w_end ?_
  refine q_then ?_
  refine c_ret ?_
  refine q_then_r ?_
  obtain rfl := Option.some.inj h
  exact fin_ret (v := (B false)) (results_ok Try.results51 (res_tmp (v := (B false)) rfl res_nil) rfl) ⟨rfl, rfl⟩ (H.sel' [] rfl rfl)
 ·replace h := bif_f hb1 h
  refine c_skip ?_
  refine q_then ?_
  refine c_seq ?_
  refine c_seq ?_
  refine rg ?_
  refine st (v := (I 0)) (rv_assign rfl) ?_
  refine w_end ?_
  refine q_then ?_
  obtain ⟨o2, hj, h'⟩ := bind_some h
  clear h
  refine c_cut (fun e a w => (∃ t, o2 = (.inl t) ∧ e = .normal ∧ ∃ (ρ : Nat → Value) (σ : St), a = fr 27 (updL ρ []) ∧ w = σ.w ∧ Hp S0 σ0 σ []) ∨ (∃ t, o2 = (.inr t) ∧ e = .ret ∧ ∃ (ρ : Nat → Value) (σ : St), a = fr 27 (updL ρ [(4, (B t))]) ∧ w = σ.w ∧ Hp S0 σ0 σ [])) ?_ ?_
  ·clear h'
   rename _ = some o2 => h
   refine c_blk ?_
   refine wp_loopM _ h (fun s3 a w => ∃ (ρ : Nat → Value) (σ : St), a = fr 27 (updL ρ [(0, (Sl aa_0 a_0 ca_0)), (1, (Sl ab_1 b_1 cb_1)), (5, (I s3))]) ∧ w = σ.w ∧ Hp S0 σ0 σ [Ch.ro 0 (Sl aa_0 a_0 ca_0) a_0, Ch.ro 0 (Sl ab_1 b_1 cb_1) b_1]) ⟨_, σ0, fr_join ⟨rfl, rfl, rfl, trivial⟩, rfl, H.sel' [0, 1] rfl rfl⟩ ?_
   clear h H
   rintro s3 a w o ⟨ρ, σ4, rfl, rfl, H⟩ h hres
   refine c_seq ?_
   refine c_seq ?_
   refine rg ?_
   refine st (v := (I s3)) (rv_move rfl) ?_
   refine st (v := (Sl aa_0 a_0 ca_0)) (rv_move rfl) ?_
   refine st (v := (I (a_0.length : Int))) (rv_len Try.underlying23 rfl) ?_
   refine st (v := (B (decide (s3 < (a_0.length : Int))))) (rv_lss (a := s3) (b := (a_0.length : Int)) rfl rfl) ?_
   refine w_end ?_
   refine q_then ?_
   refine cd_cond (decide (s3 < (a_0.length : Int))) rfl (fun hb5 => ?_) (fun hb5 => ?_)
   ·replace h := bif_t hb5 h
    refine c_skip ?_
    refine q_then ?_
    refine c_seq ?_
    refine c_blk ?_
    refine c_seq ?_
    refine rgP (σ := σ4) 8 (by kernel_rfl) (by kernel_rfl) (by kernel_rfl) ?_
    refine sq (v := (Sl aa_0 a_0 ca_0)) (rv_move rfl) ?_
    refine sq (v := (I s3)) (rv_move rfl) ?_
    obtain ⟨x6, hx7, h'⟩ := bind_some h
    clear h
    have h := h'; clear h'
    obtain ⟨b9, o10, hi8, -⟩ := (H.ro 0 rfl).ix hx7
    refine sq (v := (pt b9 o10)) (rv_ix Try.underlying23 ti31 rfl rfl hi8) ?_
    obtain ⟨_, ⟨_, _, rfl, rfl, ⟨_, _, rfl, ⟨_, rfl, hR15⟩, rfl⟩⟩, hl11, hc12⟩ := ((H.ro 0 rfl).at hx7 hi8).cells
    obtain ⟨a13, c14, rfl⟩ := hR15.isSl
    replace H := H.add (d := Ch.ro 0 (Sl a13 x6.2.1 c14) x6.2.1) hR15 (fun _ h => h)
    clear hR15
    refine sq (v := (.agg #[(I x6.1), (Sl a13 x6.2.1 c14), (I x6.2.2)])) (rv_load Try.underlying31 rfl ti31 rfl hl11 hc12) ?_
    refine sq (v := (Sl ab_1 b_1 cb_1)) (rv_move rfl) ?_
    refine sq (v := (I s3)) (rv_move rfl) ?_
    obtain ⟨x16, hx17, h'⟩ := bind_some h
    clear h
    have h := h'; clear h'
    obtain ⟨b19, o20, hi18, -⟩ := (H.ro 2 rfl).ix hx17
    refine sq (v := (pt b19 o20)) (rv_ix Try.underlying23 ti31 rfl rfl hi18) ?_
    obtain ⟨_, ⟨_, _, rfl, rfl, ⟨_, _, rfl, ⟨_, rfl, hR25⟩, rfl⟩⟩, hl21, hc22⟩ := ((H.ro 2 rfl).at hx17 hi18).cells
    obtain ⟨a23, c24, rfl⟩ := hR25.isSl
    replace H := H.add (d := Ch.ro 0 (Sl a23 x16.2.1 c24) x16.2.1) hR25 (fun _ h => h)
    clear hR25
    refine sq (v := (.agg #[(I x16.1), (Sl a23 x16.2.1 c24), (I x16.2.2)])) (rv_load Try.underlying31 rfl ti31 rfl hl21 hc22) ?_
    refine sq_end ?_
    intro σ26 hm27
    replace H := H.grow (hm27.mono fun _ h => h); clear hm27
    obtain ⟨r28, hx29, h'⟩ := bind_some h
    clear h
    have h := h'; clear h'
    have hc30 := c_laws_eqItem (aa_0_1 := a13) (ca_0_1 := c14) (ab_1_1 := a23) (cb_1_1 := c24) hx29
    refine st_call (cx_call hc30 (ent_f hc30.fn rfl) hn0 (show Hp S0 σ0 _ ([Ch.ro 0 (Sl a13 x6.2.1 c14) x6.2.1, Ch.ro 0 (Sl a23 x16.2.1 c24) x16.2.1] ++ [Ch.ro 0 (Sl a23 x16.2.1 c24) x16.2.1, Ch.ro 0 (Sl a13 x6.2.1 c14) x6.2.1, Ch.ro 0 (Sl aa_0 a_0 ca_0) a_0, Ch.ro 0 (Sl ab_1 b_1 cb_1) b_1]) from (H.sel' [1, 0, 0, 1, 2, 3] rfl rfl))) (wanted_none _ rfl _) ?_
    rintro _ σ31 ⟨_, ⟨rfl, rfl⟩, H, -⟩
    replace H : Hp S0 σ0 σ31 [Ch.ro 0 (Sl a23 x16.2.1 c24) x16.2.1, Ch.ro 0 (Sl a13 x6.2.1 c14) x6.2.1, Ch.ro 0 (Sl aa_0 a_0 ca_0) a_0, Ch.ro 0 (Sl ab_1 b_1 cb_1) b_1] := H
    refine st (v := (B (!r28))) (rv_not rfl) ?_
    refine w_end ?_
    refine q_then ?_
    refine cd_cond (!r28) rfl (fun hb32 => ?_) (fun hb32 => ?_)
    ·replace h := bif_t hb32 h
     refine c_seq ?_
     refine rg ?_
     refine st (v := (B false)) (rv_assign rfl) ?_
     refine w_end ?_
     refine q_then ?_
     refine c_ret ?_
     refine q_blk_r ?_
     refine q_then_r ?_
     refine q_then_r ?_
     refine q_blk_r ?_
     obtain rfl := Option.some.inj h
     obtain rfl := hres _ rfl
     exact .inr (⟨_, rfl, rfl, _, σ31, fr_join ⟨rfl, trivial⟩, rfl, H.sel' [] rfl rfl⟩)
    ·replace h := bif_f hb32 h
     refine c_skip ?_
     refine q_blk ?_
     refine q_then ?_
     refine rg ?_
     refine st (v := (I s3)) (rv_move rfl) ?_
     refine st (v := (I (w64 (s3 + 1)))) (rv_add (a := s3) (b := 1) rfl rfl) ?_
     refine st (v := (I (w64 (s3 + 1)))) (rv_assign rfl) ?_
     refine w_end ?_
     refine q_then ?_
     obtain rfl := Option.some.inj h
     exact ⟨_, rfl, _, σ31, fr_join ⟨rfl, rfl, rfl, trivial⟩, rfl, H.sel' [2, 3] rfl rfl⟩
   ·replace h := bif_f hb5 h
    refine c_exit ?_
    refine q_then_x ?_
    refine q_then_x ?_
    refine q_blk_hit ?_
    obtain rfl := Option.some.inj h
    obtain rfl := hres _ rfl
    exact .inl ⟨_, rfl, rfl, _, σ4, fr_join trivial, rfl, H.sel' [] rfl rfl⟩
  ·clear hj
   have h := h'
   clear h' H
   rintro e a w (⟨t33, rfl, rfl, ρ, σ34, rfl, rfl, H⟩ | ⟨t35, rfl, rfl, ρ, σ36, rfl, rfl, H⟩)
   ·replace h := selim_l h
    refine q_then ?_
    refine c_seq ?_
    refine rg ?_
    refine st (v := (B true)) (rv_assign rfl) ?_
    refine w_end ?_
    refine q_then ?_
    refine c_ret ?_
    obtain rfl := Option.some.inj h
    exact fin_ret (v := (B true)) (results_ok Try.results51 (res_tmp (v := (B true)) rfl res_nil) rfl) ⟨rfl, rfl⟩ (H.sel' [] rfl rfl)
   ·replace h := selim_r h
    refine q_then_r ?_
    obtain rfl := Option.some.inj h
    exact fin_ret (v := (B t35)) (results_ok Try.results51 (res_tmp (v := (B t35)) rfl res_nil) rfl) ⟨rfl, rfl⟩ (H.sel' [] rfl rfl)

theorem c_laws_markItemS {a_0 : List (Int × (List Int) × Int)} {k_1 : Int} {aa_0 : Option Addr} {ca_0 : Nat} {lo : Nat} {K : List Ch} (hK : Dp lo (Sl aa_0 a_0 ca_0) a_0 K) {r : Int} (h : M.markItemD a_0 k_1 = some r) :
    Cal2 Try.prog 53 [(Sl aa_0 a_0 ca_0), (I k_1)] [Ch.big K] (fun n0 v L => v = (I r) ∧ L = []) := by
 obtain ⟨hn, h⟩ := markItemD_some h
 obtain ⟨ps, hps, rfl⟩ := hK.ex
 refine cal2 (n := 34) Try.func53 rfl rfl rfl rfl ?_
 intro S0 σ0 n0 hn0 H
 refine c_seq ?_
 refine rg ?_
 refine st (v := (I 0)) (rv_assign rfl) ?_
 refine w_end ?_
 refine q_then ?_
 refine c_seq ?_
 refine c_seq ?_
 refine rg ?_
 refine st (v := (I 0)) (rv_assign rfl) ?_
 refine w_end ?_
 refine q_then ?_
 refine c_cut (fun e a w => e = .normal ∧ ∃ (ρ : Nat → Value) (σ : St), a = fr 34 (updL ρ [(1, (I r))]) ∧ w = σ.w ∧ Hp S0 σ0 σ []) ?_ ?_
 ·refine c_blk ?_
  have hlen : ps.length = a_0.length := by rw [hps]; simp
  refine wp_loop_ghost (fun m a w => ∃ (i : Nat) (ρ : Nat → Value) (σ : St) (ys : List (Int × Value × Int)) (qs : List ((Int × (List Int) × Int) × Value)) (k : Int), i + m = a_0.length ∧ qs.length = m ∧ ys.drop i = qs.map dsh ∧ M.dmarkItemS (qs.map (·.1)) k = some r ∧ a = fr 34 (updL ρ [(0, (Sl aa_0 a_0 ca_0)), (1, (I k)), (5, (I (i : Int)))]) ∧ w = σ.w ∧ Hp S0 σ0 σ [Ch.own lo lo (Sl aa_0 a_0 ca_0) ys, Ch.big (qs.map (dow lo))]) a_0.length ⟨0, _, σ0, _, ps, k_1, by omega, hlen, rfl, hps ▸ h, fr_join ⟨rfl, rfl, rfl, trivial⟩, rfl, H.unbig⟩ ?_
  clear H
  rintro m _ _ ⟨i, ρ, σ3, ys, qs, k, him, hqs, hys, hk, rfl, rfl, H⟩
  refine c_seq ?_
  refine c_seq ?_
  refine rg ?_
  refine st (v := (I (i : Int))) (rv_move rfl) ?_
  refine st (v := (Sl aa_0 a_0 ca_0)) (rv_move rfl) ?_
  refine st (v := (I (a_0.length : Int))) (rv_len Try.underlying23 rfl) ?_
  refine st (v := (B (decide ((i : Int) < (a_0.length : Int))))) (rv_lss (a := (i : Int)) (b := (a_0.length : Int)) rfl rfl) ?_
  refine w_end ?_
  refine q_then ?_
  refine cd_cond (decide ((i : Int) < (a_0.length : Int))) rfl (fun hb => ?_) (fun hb => ?_)
  ·have hlt : i < a_0.length := by have := of_decide_eq_true hb; omega
   obtain ⟨m, rfl⟩ : ∃ m', m = m' + 1 := ⟨m - 1, by omega⟩
   obtain ⟨p, qs, rfl⟩ : ∃ p qs', qs = p :: qs' := by cases qs with
    | nil => cases hqs
    | cons p qs => exact ⟨p, qs, rfl⟩
   obtain ⟨q, hq, hk'⟩ := bind_some (show (M.laws_markIntS p.1.2.1 (w64 (k + 1))).bind (fun q => M.dmarkItemS (qs.map (·.1)) (w64 (q.1 + 1))) = some r from hk)
   replace hys : ys.drop i = dsh p :: qs.map dsh := hys
   refine c_skip ?_
   refine q_then ?_
   refine c_seq ?_
   refine c_blk ?_
   refine c_seq ?_
   refine rg ?_
   refine st (v := (Sl aa_0 a_0 ca_0)) (rv_move rfl) ?_
   refine st (v := (I (i : Int))) (rv_move rfl) ?_
   refine st (v := (I k)) (rv_move rfl) ?_
   have hx7 := gidx_drop hys
   obtain ⟨b9, o10, hi8, -⟩ := (H.own 0 rfl).ix hx7
   refine st (v := (pt b9 o10)) (rv_ix Try.underlying23 ti31 rfl rfl hi8) ?_
   refine st (v := (pt b9 (o10 + 0))) (rv_fieldAddr (off := 0) (ft := 3) Try.underlying31 rfl ti3 rfl rfl) ?_
   refine st_exS (ex_store_own (e' := ((k, p.2, p.1.2.2) : Int × Value × Int)) (vs := [(I k)]) (k := 0) H (i := 0) rfl ti3 hx7 hi8 rfl rfl rfl rfl rfl (Nat.le_of_ble_eq_true rfl) (by simp [plain]) (by rintro _ ⟨_, _, rfl, rfl, ⟨_, _, rfl, ⟨rfl, hpl⟩, rfl⟩⟩; exact ⟨[(I k)], [p.2, (I p.1.2.2)], rfl, rfl, ⟨[p.2], [(I p.1.2.2)], rfl, ⟨rfl, hpl⟩, rfl⟩⟩)) (wanted_none _ rfl _) ?_
   rintro σ11 ⟨H, -⟩
   refine w_end ?_
   refine q_then ?_
   refine c_seq ?_
   refine rg ?_
   refine st (v := (I k)) (rv_move rfl) ?_
   refine st (v := (I (w64 (k + 1)))) (rv_add (a := k) (b := 1) rfl rfl) ?_
   refine st (v := (I (w64 (k + 1)))) (rv_assign rfl) ?_
   refine w_end ?_
   refine q_then ?_
   refine c_seq ?_
   refine rg ?_
   replace hys := drop_set (e' := ((k, p.2, p.1.2.2) : Int × Value × Int)) hys
   rw [Int.toNat_natCast] at H
   generalize ys.set i ((k, p.2, p.1.2.2) : Int × Value × Int) = ys at H hys
   have hx7 := gidx_drop hys
   refine st (v := (Sl aa_0 a_0 ca_0)) (rv_move rfl) ?_
   refine st (v := (I (i : Int))) (rv_move rfl) ?_
   obtain ⟨b9, o10, hi8, -⟩ := (H.own 0 rfl).ix hx7
   refine st (v := (pt b9 o10)) (rv_ix Try.underlying23 ti31 rfl rfl hi8) ?_
   refine st (v := (pt b9 (o10 + 1))) (rv_fieldAddr (off := 1) (ft := 24) Try.underlying31 rfl ti24 rfl rfl) ?_
   obtain ⟨_, ⟨_, _, rfl, rfl, ⟨_, _, rfl, ⟨rfl, hpl⟩, rfl⟩⟩, hl18, hc19⟩ := ((H.own 0 rfl).at hx7 hi8).cells
   replace H := Hp.unbig (H.sel' [1, 0] rfl rfl)
   obtain ⟨a20, c21, h22⟩ : IsSl p.2 p.1.2.1.length := (show Ow σ11 lo lo p.2 p.1.2.1 from H.head).isSl
   obtain ⟨px, hd⟩ := p
   dsimp only at h22 hq hys hc19
   subst h22
   have hc20 := hc19 1 (by simp)
   refine st (v := (Sl a20 px.2.1 c21)) (rv_load1 Try.underlying24 rfl rfl hc20) ?_
   refine st (v := (I (w64 (k + 1)))) (rv_move rfl) ?_
   replace H : Hp S0 σ0 σ11 [Ch.own lo lo (Sl a20 px.2.1 c21) px.2.1, Ch.big (qs.map (dow lo)), Ch.own lo lo (Sl aa_0 a_0 ca_0) ys] := H
   replace H := H.ownSc 0 0 0 rfl (Nat.zero_le _)
   have hc25 := c_laws_markIntS (aa_0 := a20) (ca_0 := c21) hq
   refine st_call (cx_call hc25 (ent_f hc25.fn rfl) hn0 (H.sel' [0, 1, 2] rfl rfl : Hp S0 σ0 _ ([_] ++ _))) (wanted_none _ rfl _) ?_
   rintro _ σ29 ⟨_, ⟨rfl, rfl, -⟩, H, -⟩
   replace H : Hp S0 σ0 σ29 [Ch.own 0 0 (Sl a20 q.2 c21) q.2, Ch.big (qs.map (dow lo)), Ch.own lo lo (Sl aa_0 a_0 ca_0) ys] := H
   replace H := H.sel' [2, 1] rfl rfl
   refine st (v := (I q.1)) (rv_assign rfl) ?_
   refine w_end ?_
   refine q_then ?_
   refine c_seq ?_
   refine rg ?_
   refine st (v := (Sl aa_0 a_0 ca_0)) (rv_move rfl) ?_
   refine st (v := (I (i : Int))) (rv_move rfl) ?_
   refine st (v := (I q.1)) (rv_move rfl) ?_
   obtain ⟨b9, o10, hi8, -⟩ := (H.own 0 rfl).ix hx7
   refine st (v := (pt b9 o10)) (rv_ix Try.underlying23 ti31 rfl rfl hi8) ?_
   refine st (v := (pt b9 (o10 + 2))) (rv_fieldAddr (off := 2) (ft := 3) Try.underlying31 rfl ti3 rfl rfl) ?_
   refine st_exS (ex_store_own (e' := ((k, (Sl a20 px.2.1 c21), q.1) : Int × Value × Int)) (vs := [(I q.1)]) (k := 2) H (i := 0) rfl ti3 hx7 hi8 rfl rfl rfl rfl rfl (Nat.le_of_ble_eq_true rfl) (by simp [plain]) (by rintro _ ⟨_, _, rfl, rfl, ⟨_, _, rfl, ⟨rfl, hpl⟩, rfl⟩⟩; exact ⟨[(I k)], [(Sl a20 px.2.1 c21), (I q.1)], rfl, rfl, ⟨[(Sl a20 px.2.1 c21)], [(I q.1)], rfl, ⟨rfl, hpl⟩, rfl⟩⟩)) (wanted_none _ rfl _) ?_
   rintro σ30 ⟨H, -⟩
   refine w_end ?_
   refine q_then ?_
   refine rg ?_
   refine st (v := (I q.1)) (rv_move rfl) ?_
   refine st (v := (I (w64 (q.1 + 1)))) (rv_add (a := q.1) (b := 1) rfl rfl) ?_
   refine st (v := (I (w64 (q.1 + 1)))) (rv_assign rfl) ?_
   refine w_end ?_
   refine q_blk ?_
   refine q_then ?_
   refine rg ?_
   refine st (v := (I (i : Int))) (rv_move rfl) ?_
   refine st (v := (I (w64 ((i : Int) + 1)))) (rv_add (a := (i : Int)) (b := 1) rfl rfl) ?_
   refine st (v := (I (w64 ((i : Int) + 1)))) (rv_assign rfl) ?_
   refine w_end ?_
   have e1 : w64 ((i : Int) + 1) = ((i + 1 : Nat) : Int) := w64_id (by omega) (by omega)
   rw [e1]
   refine q_then ?_
   rw [Int.toNat_natCast] at H
   exact ⟨m, by omega, i + 1, _, σ30, _, qs, _, by omega, by simpa using hqs, drop_next (drop_set hys), hk', fr_join ⟨rfl, rfl, rfl, trivial⟩, rfl, H⟩
  ·have hlt : ¬ i < a_0.length := by have := of_decide_eq_false hb; omega
   obtain rfl : m = 0 := by omega
   obtain rfl : qs = [] := List.eq_nil_of_length_eq_zero hqs
   obtain rfl : k = r := Option.some.inj hk
   refine c_exit ?_
   refine q_then_x ?_
   refine q_then_x ?_
   refine q_blk_hit ?_
   exact ⟨rfl, _, σ3, fr_join ⟨rfl, trivial⟩, rfl, H.sel' [] rfl rfl⟩
 ·clear H
  rintro e a w ⟨rfl, ρ, σ41, rfl, rfl, H⟩
  refine q_then ?_
  refine c_seq ?_
  refine rg ?_
  refine st (v := (I r)) (rv_move rfl) ?_
  refine st (v := (I r)) (rv_assign rfl) ?_
  refine w_end ?_
  refine q_then ?_
  refine c_ret ?_
  exact fin_ret (v := (I r)) (results_ok Try.results53 (res_tmp (v := (I r)) rfl res_nil) rfl) ⟨rfl, rfl⟩ H


theorem c_laws_FnExactInBox {aList_0 : List (Int × (List Int) × Int)} {aLow_1 : List Int} {aHigh_2 : List Int} {aaList_0 : Option Addr} {caList_0 : Nat} {aaLow_1 : Option Addr} {caLow_1 : Nat} {aaHigh_2 : Option Addr} {caHigh_2 : Nat} {r : Bool} (h : M.laws_FnExactInBox aList_0 aLow_1 aHigh_2 = some r) :
    Cal2 Try.prog 13 [(Sl aaList_0 aList_0 caList_0), (Sl aaLow_1 aLow_1 caLow_1), (Sl aaHigh_2 aHigh_2 caHigh_2)] [Ch.ro 0 (Sl aaList_0 aList_0 caList_0) aList_0, Ch.ro 0 (Sl aaLow_1 aLow_1 caLow_1) aLow_1, Ch.ro 0 (Sl aaHigh_2 aHigh_2 caHigh_2) aHigh_2] (fun n0 v L => v = (B r) ∧ L = []) := by
 refine cal2 (n := 111) Try.func13 rfl rfl rfl rfl ?_
 intro S0 σ0 n0 hn0 H
 unfold M.laws_FnExactInBox at h
 refine c_seq ?_
 refine rg ?_
 refine st (v := (B false)) (rv_assign rfl) ?_
 refine w_end ?_
 refine q_then ?_
 refine c_seq ?_
 refine c_seq ?_
 refine rg ?_
 refine st (v := (Sl aaLow_1 aLow_1 caLow_1)) (rv_move rfl) ?_
 refine st (v := (I (aLow_1.length : Int))) (rv_len Try.underlying24 rfl) ?_
 refine st (v := (B (decide (1048576 < (aLow_1.length : Int))))) (rv_gtr (a := (aLow_1.length : Int)) (b := 1048576) rfl rfl) ?_
 refine w_end ?_
 refine q_then ?_
 refine cd_cond (decide (1048576 < (aLow_1.length : Int))) rfl (fun hb1 => ?_) (fun hb1 => ?_)
 ·replace h := bif_t hb1 h
  refine c_seq ?_
  refine rg ?_
  refine st (v := (B true)) (rv_assign rfl) ?_
  refine w_end ?_
  refine q_then ?_
  refine c_ret ?_
  refine q_then_r ?_
  obtain rfl := Option.some.inj h
  exact fin_ret (v := (B true)) (results_ok Try.results13 (res_tmp (v := (B true)) rfl res_nil) rfl) ⟨rfl, rfl⟩ (H.sel' [] rfl rfl)
 ·replace h := bif_f hb1 h
  refine c_skip ?_
  refine q_then ?_
  refine c_seq ?_
  refine c_seq ?_
  refine rg ?_
  refine st (v := (Sl aaHigh_2 aHigh_2 caHigh_2)) (rv_move rfl) ?_
  refine st (v := (I (aHigh_2.length : Int))) (rv_len Try.underlying24 rfl) ?_
  refine st (v := (B (decide (1048576 < (aHigh_2.length : Int))))) (rv_gtr (a := (aHigh_2.length : Int)) (b := 1048576) rfl rfl) ?_
  refine w_end ?_
  refine q_then ?_
  refine cd_cond (decide (1048576 < (aHigh_2.length : Int))) rfl (fun hb2 => ?_) (fun hb2 => ?_)
  ·replace h := bif_t hb2 h
   refine c_seq ?_
   refine rg ?_
   refine st (v := (B true)) (rv_assign rfl) ?_
   refine w_end ?_
   refine q_then ?_
   refine c_ret ?_
   refine q_then_r ?_
   obtain rfl := Option.some.inj h
   exact fin_ret (v := (B true)) (results_ok Try.results13 (res_tmp (v := (B true)) rfl res_nil) rfl) ⟨rfl, rfl⟩ (H.sel' [] rfl rfl)
  ·replace h := bif_f hb2 h
   refine c_skip ?_
   refine q_then ?_
   refine c_seq ?_
   refine rg ?_
   refine st (v := (I 1048576)) (rv_assign rfl) ?_
   refine w_end ?_
   refine q_then ?_
   refine c_seq ?_
   refine rg ?_
   refine st (v := (Sl aaList_0 aList_0 caList_0)) (rv_move rfl) ?_
   refine st (v := (I 1048576)) (rv_move rfl) ?_
   obtain ⟨r3, hx4, h'⟩ := bind_some h
   clear h
   have h := h'; clear h'
   have hc5 := c_laws_szItemS (aa_0 := aaList_0) (ca_0 := caList_0) hx4
   refine st_call (cx_call hc5 (ent_f hc5.fn rfl) hn0 (show Hp S0 σ0 _ ([Ch.ro 0 (Sl aaList_0 aList_0 caList_0) aList_0] ++ [Ch.ro 0 (Sl aaList_0 aList_0 caList_0) aList_0, Ch.ro 0 (Sl aaLow_1 aLow_1 caLow_1) aLow_1, Ch.ro 0 (Sl aaHigh_2 aHigh_2 caHigh_2) aHigh_2]) from (H.sel' [0, 0, 1, 2] rfl rfl))) (wanted_none _ rfl _) ?_
   rintro _ σ6 ⟨_, ⟨rfl, rfl⟩, H, -⟩
   replace H : Hp S0 σ0 σ6 [Ch.ro 0 (Sl aaList_0 aList_0 caList_0) aList_0, Ch.ro 0 (Sl aaLow_1 aLow_1 caLow_1) aLow_1, Ch.ro 0 (Sl aaHigh_2 aHigh_2 caHigh_2) aHigh_2] := H
   refine st (v := (I r3)) (rv_assign rfl) ?_
   refine w_end ?_
   refine q_then ?_
   refine c_seq ?_
   refine c_seq ?_
   refine rg ?_
   refine st (v := (I r3)) (rv_move rfl) ?_
   refine st (v := (B (decide (r3 < 0)))) (rv_lss (a := r3) (b := 0) rfl rfl) ?_
   refine w_end ?_
   refine q_then ?_
   refine cd_cond (decide (r3 < 0)) rfl (fun hb7 => ?_) (fun hb7 => ?_)
   ·replace h := bif_t hb7 h
    refine c_seq ?_
    refine rg ?_
    refine st (v := (B true)) (rv_assign rfl) ?_
    refine w_end ?_
    refine q_then ?_
    refine c_ret ?_
    refine q_then_r ?_
    obtain rfl := Option.some.inj h
    exact fin_ret (v := (B true)) (results_ok Try.results13 (res_tmp (v := (B true)) rfl res_nil) rfl) ⟨rfl, rfl⟩ (H.sel' [] rfl rfl)
   ·replace h := bif_f hb7 h
    refine c_skip ?_
    refine q_then ?_
    refine c_seq ?_
    refine rg ?_
    refine st (v := (Sl aaList_0 aList_0 caList_0)) (rv_move rfl) ?_
    obtain ⟨r8, hx9, h'⟩ := bind_some h
    clear h
    have h := h'; clear h'
    have hc10 := c_laws_toItemS (aa_0 := aaList_0) (ca_0 := caList_0) hx9
    refine st_call (cx_call hc10 (ent_f hc10.fn rfl) hn0 (show Hp S0 σ0 _ ([Ch.ro 0 (Sl aaList_0 aList_0 caList_0) aList_0] ++ [Ch.ro 0 (Sl aaList_0 aList_0 caList_0) aList_0, Ch.ro 0 (Sl aaLow_1 aLow_1 caLow_1) aLow_1, Ch.ro 0 (Sl aaHigh_2 aHigh_2 caHigh_2) aHigh_2]) from (H.sel' [0, 0, 1, 2] rfl rfl))) (wanted_none _ rfl _) ?_
    rintro _ σ15 ⟨_, ⟨a11, c12, K13, rfl, rfl, hK14⟩, H, -⟩
    replace H : Hp S0 σ0 σ15 [Ch.big K13, Ch.ro 0 (Sl aaList_0 aList_0 caList_0) aList_0, Ch.ro 0 (Sl aaLow_1 aLow_1 caLow_1) aLow_1, Ch.ro 0 (Sl aaHigh_2 aHigh_2 caHigh_2) aHigh_2] := H
    refine st (v := (Sl aaLow_1 aLow_1 caLow_1)) (rv_move rfl) ?_
    obtain ⟨r16, hx17, h'⟩ := bind_some h
    clear h
    have h := h'; clear h'
    have hc18 := c_laws_toIntS (aa_0 := aaLow_1) (ca_0 := caLow_1) hx17
    refine st_call (cx_call hc18 (ent_f hc18.fn rfl) hn0 (show Hp S0 σ0 _ ([Ch.ro 0 (Sl aaLow_1 aLow_1 caLow_1) aLow_1] ++ [Ch.big K13, Ch.ro 0 (Sl aaList_0 aList_0 caList_0) aList_0, Ch.ro 0 (Sl aaLow_1 aLow_1 caLow_1) aLow_1, Ch.ro 0 (Sl aaHigh_2 aHigh_2 caHigh_2) aHigh_2]) from (H.sel' [2, 0, 1, 2, 3] rfl rfl))) (wanted_none _ rfl _) ?_
    rintro _ σ22 ⟨_, ⟨a19, c20, rfl, rfl, ht21⟩, H, -⟩
    replace H : Hp S0 σ0 σ22 [Ch.own n0 n0 (Sl a19 r16 c20) r16, Ch.big K13, Ch.ro 0 (Sl aaList_0 aList_0 caList_0) aList_0, Ch.ro 0 (Sl aaLow_1 aLow_1 caLow_1) aLow_1, Ch.ro 0 (Sl aaHigh_2 aHigh_2 caHigh_2) aHigh_2] := H
    refine st (v := (Sl aaHigh_2 aHigh_2 caHigh_2)) (rv_move rfl) ?_
    obtain ⟨r23, hx24, h'⟩ := bind_some h
    clear h
    have h := h'; clear h'
    have hc25 := c_laws_toIntS (aa_0 := aaHigh_2) (ca_0 := caHigh_2) hx24
    refine st_call (cx_call hc25 (ent_f hc25.fn rfl) hn0 (show Hp S0 σ0 _ ([Ch.ro 0 (Sl aaHigh_2 aHigh_2 caHigh_2) aHigh_2] ++ [Ch.own n0 n0 (Sl a19 r16 c20) r16, Ch.big K13, Ch.ro 0 (Sl aaList_0 aList_0 caList_0) aList_0, Ch.ro 0 (Sl aaLow_1 aLow_1 caLow_1) aLow_1, Ch.ro 0 (Sl aaHigh_2 aHigh_2 caHigh_2) aHigh_2]) from (H.sel' [4, 0, 1, 2, 3, 4] rfl rfl))) (wanted_none _ rfl _) ?_
    rintro _ σ29 ⟨_, ⟨a26, c27, rfl, rfl, ht28⟩, H, -⟩
    replace H : Hp S0 σ0 σ29 [Ch.own n0 n0 (Sl a26 r23 c27) r23, Ch.own n0 n0 (Sl a19 r16 c20) r16, Ch.big K13, Ch.ro 0 (Sl aaList_0 aList_0 caList_0) aList_0, Ch.ro 0 (Sl aaLow_1 aLow_1 caLow_1) aLow_1, Ch.ro 0 (Sl aaHigh_2 aHigh_2 caHigh_2) aHigh_2] := H
    obtain ⟨σ30, hw31, H, -⟩ := H.pub 1 rfl (Nat.le_refl _)
    rw [← hw31]; clear hw31
    obtain ⟨σ32, hw33, H, -⟩ := H.pub 1 rfl (Nat.le_refl _)
    rw [← hw33]; clear hw33
    replace H := H.roLow 1 0 rfl (Nat.zero_le _)
    replace H := H.roLow 1 0 rfl (Nat.zero_le _)
    obtain ⟨r34, hx35, h'⟩ := bind_some h
    clear h
    have h := h'; clear h'
    have hc36 := c_spec_InBox (alist_0 := a11) (clist_0 := c12) (alow_1 := a19) (clow_1 := c20) (ahigh_2 := a26) (chigh_2 := c27) hx35
    have hle := Nat.le_trans hn0 H.size
    refine st_call (cx_lend (Loan.lendB hK14.lends (Loan.same (Loan.same Loan.nil))) hc36 (ent_f hc36.fn rfl) (show Hp S0 σ0 _ ([Ch.big K13] ++ ([Ch.ro 0 (Sl a19 r16 c20) r16, Ch.ro 0 (Sl a26 r23 c27) r23] ++ [Ch.ro 0 (Sl a26 r23 c27) r23, Ch.ro 0 (Sl a19 r16 c20) r16, Ch.ro n0 (Sl a26 r23 c27) r23, Ch.ro n0 (Sl a19 r16 c20) r16, Ch.ro 0 (Sl aaList_0 aList_0 caList_0) aList_0, Ch.ro 0 (Sl aaLow_1 aLow_1 caLow_1) aLow_1, Ch.ro 0 (Sl aaHigh_2 aHigh_2 caHigh_2) aHigh_2])) from (H.sel' [4, 1, 0, 0, 1, 2, 3, 5, 6, 7] rfl rfl)) (by rintro _ _ _ ⟨_, _, rfl, rfl⟩; exact ⟨Ab.ownSc, trivial⟩)) (wanted_none _ rfl _) ?_
    rintro _ σ39 ⟨_, ⟨a37, c38, rfl, rfl⟩, H, -, -⟩
    replace H : Hp S0 σ0 σ39 [Ch.own σ32.size σ32.size (Sl a37 r34 c38) r34, Ch.big K13, Ch.ro 0 (Sl a26 r23 c27) r23, Ch.ro 0 (Sl a19 r16 c20) r16, Ch.ro n0 (Sl a26 r23 c27) r23, Ch.ro n0 (Sl a19 r16 c20) r16, Ch.ro 0 (Sl aaList_0 aList_0 caList_0) aList_0, Ch.ro 0 (Sl aaLow_1 aLow_1 caLow_1) aLow_1, Ch.ro 0 (Sl aaHigh_2 aHigh_2 caHigh_2) aHigh_2] := H
    replace H := H.ownLow 0 n0 n0 rfl hle hle
    clear hle
    replace H : Hp S0 σ0 σ39 [Ch.own n0 n0 (Sl a37 r34 c38) r34, Ch.big K13, Ch.ro 0 (Sl a26 r23 c27) r23, Ch.ro 0 (Sl a19 r16 c20) r16, Ch.ro n0 (Sl a26 r23 c27) r23, Ch.ro n0 (Sl a19 r16 c20) r16, Ch.ro 0 (Sl aaList_0 aList_0 caList_0) aList_0, Ch.ro 0 (Sl aaLow_1 aLow_1 caLow_1) aLow_1, Ch.ro 0 (Sl aaHigh_2 aHigh_2 caHigh_2) aHigh_2] := H
    replace H : Hp S0 σ0 σ39 [Ch.own n0 n0 (Sl a37 r34 c38) r34, Ch.ro 0 (Sl aaList_0 aList_0 caList_0) aList_0, Ch.ro 0 (Sl aaLow_1 aLow_1 caLow_1) aLow_1, Ch.ro 0 (Sl aaHigh_2 aHigh_2 caHigh_2) aHigh_2] := H.sel' [0, 6, 7, 8] rfl rfl
    refine st (v := (Sl a37 r34 c38)) (rv_assign rfl) ?_
    refine w_end ?_
    refine q_then ?_
    refine c_seq ?_
    refine rg ?_
    refine st (v := (Sl aaList_0 aList_0 caList_0)) (rv_move rfl) ?_
    obtain ⟨r40, hx41, h'⟩ := bind_some h
    clear h
    have h := h'; clear h'
    have hc42 := c_laws_toItemS (aa_0 := aaList_0) (ca_0 := caList_0) hx41
    refine st_call (cx_call hc42 (ent_f hc42.fn rfl) hn0 (show Hp S0 σ0 _ ([Ch.ro 0 (Sl aaList_0 aList_0 caList_0) aList_0] ++ [Ch.own n0 n0 (Sl a37 r34 c38) r34, Ch.ro 0 (Sl aaList_0 aList_0 caList_0) aList_0, Ch.ro 0 (Sl aaLow_1 aLow_1 caLow_1) aLow_1, Ch.ro 0 (Sl aaHigh_2 aHigh_2 caHigh_2) aHigh_2]) from (H.sel' [1, 0, 1, 2, 3] rfl rfl))) (wanted_none _ rfl _) ?_
    rintro _ σ47 ⟨_, ⟨a43, c44, K45, rfl, rfl, hK46⟩, H, -⟩
    replace H : Hp S0 σ0 σ47 [Ch.big K45, Ch.own n0 n0 (Sl a37 r34 c38) r34, Ch.ro 0 (Sl aaList_0 aList_0 caList_0) aList_0, Ch.ro 0 (Sl aaLow_1 aLow_1 caLow_1) aLow_1, Ch.ro 0 (Sl aaHigh_2 aHigh_2 caHigh_2) aHigh_2] := H
    refine st (v := (Sl a43 r40 c44)) (rv_assign rfl) ?_
    refine w_end ?_
    refine q_then ?_
    refine c_seq ?_
    refine rg ?_
    refine st (v := (Sl aaLow_1 aLow_1 caLow_1)) (rv_move rfl) ?_
    obtain ⟨r48, hx49, h'⟩ := bind_some h
    clear h
    have h := h'; clear h'
    have hc50 := c_laws_toIntS (aa_0 := aaLow_1) (ca_0 := caLow_1) hx49
    refine st_call (cx_call hc50 (ent_f hc50.fn rfl) hn0 (show Hp S0 σ0 _ ([Ch.ro 0 (Sl aaLow_1 aLow_1 caLow_1) aLow_1] ++ [Ch.big K45, Ch.own n0 n0 (Sl a37 r34 c38) r34, Ch.ro 0 (Sl aaList_0 aList_0 caList_0) aList_0, Ch.ro 0 (Sl aaLow_1 aLow_1 caLow_1) aLow_1, Ch.ro 0 (Sl aaHigh_2 aHigh_2 caHigh_2) aHigh_2]) from (H.sel' [3, 0, 1, 2, 3, 4] rfl rfl))) (wanted_none _ rfl _) ?_
    rintro _ σ54 ⟨_, ⟨a51, c52, rfl, rfl, ht53⟩, H, -⟩
    replace H : Hp S0 σ0 σ54 [Ch.own n0 n0 (Sl a51 r48 c52) r48, Ch.big K45, Ch.own n0 n0 (Sl a37 r34 c38) r34, Ch.ro 0 (Sl aaList_0 aList_0 caList_0) aList_0, Ch.ro 0 (Sl aaLow_1 aLow_1 caLow_1) aLow_1, Ch.ro 0 (Sl aaHigh_2 aHigh_2 caHigh_2) aHigh_2] := H
    refine st (v := (Sl a51 r48 c52)) (rv_assign rfl) ?_
    refine w_end ?_
    refine q_then ?_
    refine c_seq ?_
    refine rg ?_
    refine st (v := (Sl aaHigh_2 aHigh_2 caHigh_2)) (rv_move rfl) ?_
    obtain ⟨r55, hx56, h'⟩ := bind_some h
    clear h
    have h := h'; clear h'
    have hc57 := c_laws_toIntS (aa_0 := aaHigh_2) (ca_0 := caHigh_2) hx56
    refine st_call (cx_call hc57 (ent_f hc57.fn rfl) hn0 (show Hp S0 σ0 _ ([Ch.ro 0 (Sl aaHigh_2 aHigh_2 caHigh_2) aHigh_2] ++ [Ch.own n0 n0 (Sl a51 r48 c52) r48, Ch.big K45, Ch.own n0 n0 (Sl a37 r34 c38) r34, Ch.ro 0 (Sl aaList_0 aList_0 caList_0) aList_0, Ch.ro 0 (Sl aaLow_1 aLow_1 caLow_1) aLow_1, Ch.ro 0 (Sl aaHigh_2 aHigh_2 caHigh_2) aHigh_2]) from (H.sel' [5, 0, 1, 2, 3, 4, 5] rfl rfl))) (wanted_none _ rfl _) ?_
    rintro _ σ61 ⟨_, ⟨a58, c59, rfl, rfl, ht60⟩, H, -⟩
    replace H : Hp S0 σ0 σ61 [Ch.own n0 n0 (Sl a58 r55 c59) r55, Ch.own n0 n0 (Sl a51 r48 c52) r48, Ch.big K45, Ch.own n0 n0 (Sl a37 r34 c38) r34, Ch.ro 0 (Sl aaList_0 aList_0 caList_0) aList_0, Ch.ro 0 (Sl aaLow_1 aLow_1 caLow_1) aLow_1, Ch.ro 0 (Sl aaHigh_2 aHigh_2 caHigh_2) aHigh_2] := H
    refine st (v := (Sl a58 r55 c59)) (rv_assign rfl) ?_
    refine w_end ?_
    refine q_then ?_
    refine c_seq ?_
    refine rg ?_
    refine st (v := (Sl a43 r40 c44)) (rv_move rfl) ?_
    refine st (v := (Sl a51 r48 c52)) (rv_move rfl) ?_
    refine st (v := (Sl a58 r55 c59)) (rv_move rfl) ?_
    obtain ⟨r62, hx63, h'⟩ := bind_some h
    clear h
    have h := h'; clear h'
    have hc64 := c_impl_InBox (alist_0 := a43) (clist_0 := c44) (alow_1 := a51) (clow_1 := c52) (ahigh_2 := a58) (chigh_2 := c59) hx63
    have hle := Nat.le_trans hn0 H.size
    refine st_call (cx_lend (Loan.lendB hK46.lends (Loan.lend (Loan.lend Loan.nil))) hc64 (ent_f hc64.fn rfl) (show Hp S0 σ0 _ ([Ch.big K45, Ch.own n0 n0 (Sl a51 r48 c52) r48, Ch.own n0 n0 (Sl a58 r55 c59) r55] ++ ([] ++ [Ch.own n0 n0 (Sl a37 r34 c38) r34, Ch.ro 0 (Sl aaList_0 aList_0 caList_0) aList_0, Ch.ro 0 (Sl aaLow_1 aLow_1 caLow_1) aLow_1, Ch.ro 0 (Sl aaHigh_2 aHigh_2 caHigh_2) aHigh_2])) from (H.sel' [2, 1, 0, 3, 4, 5, 6] rfl rfl)) (by rintro _ _ _ ⟨_, _, rfl, rfl⟩; exact ⟨Ab.ownSc, trivial⟩)) (wanted_none _ rfl _) ?_
    rintro _ σ67 ⟨_, ⟨a65, c66, rfl, rfl⟩, H, -, -⟩
    replace H : Hp S0 σ0 σ67 [Ch.own σ61.size σ61.size (Sl a65 r62 c66) r62, Ch.big K45, Ch.own n0 n0 (Sl a51 r48 c52) r48, Ch.own n0 n0 (Sl a58 r55 c59) r55, Ch.own n0 n0 (Sl a37 r34 c38) r34, Ch.ro 0 (Sl aaList_0 aList_0 caList_0) aList_0, Ch.ro 0 (Sl aaLow_1 aLow_1 caLow_1) aLow_1, Ch.ro 0 (Sl aaHigh_2 aHigh_2 caHigh_2) aHigh_2] := H
    replace H := H.ownLow 0 n0 n0 rfl hle hle
    clear hle
    replace H : Hp S0 σ0 σ67 [Ch.own n0 n0 (Sl a65 r62 c66) r62, Ch.big K45, Ch.own n0 n0 (Sl a51 r48 c52) r48, Ch.own n0 n0 (Sl a58 r55 c59) r55, Ch.own n0 n0 (Sl a37 r34 c38) r34, Ch.ro 0 (Sl aaList_0 aList_0 caList_0) aList_0, Ch.ro 0 (Sl aaLow_1 aLow_1 caLow_1) aLow_1, Ch.ro 0 (Sl aaHigh_2 aHigh_2 caHigh_2) aHigh_2] := H
    refine st (v := (Sl a65 r62 c66)) (rv_assign rfl) ?_
    refine w_end ?_
    refine q_then ?_
    refine c_seq ?_
    refine c_seq ?_
    refine rg ?_
    refine st (v := (Sl a65 r62 c66)) (rv_move rfl) ?_
    refine st (v := (Sl a37 r34 c38)) (rv_move rfl) ?_
    obtain ⟨r68, hx69, h'⟩ := bind_some h
    clear h
    have h := h'; clear h'
    have hc70 := c_laws_eqIntS (aa_0 := a65) (ca_0 := c66) (ab_1 := a37) (cb_1 := c38) hx69
    have hle := Nat.le_trans hn0 H.size
    refine st_call (cx_lend (Loan.lend (Loan.lend Loan.nil)) hc70 (ent_f hc70.fn rfl) (show Hp S0 σ0 _ ([Ch.own n0 n0 (Sl a65 r62 c66) r62, Ch.own n0 n0 (Sl a37 r34 c38) r34] ++ ([] ++ [Ch.big K45, Ch.own n0 n0 (Sl a51 r48 c52) r48, Ch.own n0 n0 (Sl a58 r55 c59) r55, Ch.ro 0 (Sl aaList_0 aList_0 caList_0) aList_0, Ch.ro 0 (Sl aaLow_1 aLow_1 caLow_1) aLow_1, Ch.ro 0 (Sl aaHigh_2 aHigh_2 caHigh_2) aHigh_2])) from (H.sel' [0, 4, 1, 2, 3, 5, 6, 7] rfl rfl)) (by rintro _ _ _ ⟨rfl, rfl⟩; exact trivial)) (wanted_none _ rfl _) ?_
    rintro _ σ71 ⟨_, ⟨rfl, rfl⟩, H, -, -⟩
    replace H : Hp S0 σ0 σ71 [Ch.own n0 n0 (Sl a65 r62 c66) r62, Ch.own n0 n0 (Sl a37 r34 c38) r34, Ch.big K45, Ch.own n0 n0 (Sl a51 r48 c52) r48, Ch.own n0 n0 (Sl a58 r55 c59) r55, Ch.ro 0 (Sl aaList_0 aList_0 caList_0) aList_0, Ch.ro 0 (Sl aaLow_1 aLow_1 caLow_1) aLow_1, Ch.ro 0 (Sl aaHigh_2 aHigh_2 caHigh_2) aHigh_2] := H
    clear hle
    replace H : Hp S0 σ0 σ71 [Ch.own n0 n0 (Sl a65 r62 c66) r62, Ch.own n0 n0 (Sl a37 r34 c38) r34, Ch.big K45, Ch.own n0 n0 (Sl a51 r48 c52) r48, Ch.own n0 n0 (Sl a58 r55 c59) r55, Ch.ro 0 (Sl aaList_0 aList_0 caList_0) aList_0, Ch.ro 0 (Sl aaLow_1 aLow_1 caLow_1) aLow_1, Ch.ro 0 (Sl aaHigh_2 aHigh_2 caHigh_2) aHigh_2] := H
    refine st (v := (B (!r68))) (rv_not rfl) ?_
    refine w_end ?_
    refine q_then ?_
    refine cd_cond (!r68) rfl (fun hb72 => ?_) (fun hb72 => ?_)
    ·replace h := bif_t hb72 h
     refine c_seq ?_
     refine rg ?_
     refine st (v := (B false)) (rv_assign rfl) ?_
     refine w_end ?_
     refine q_then ?_
     refine c_ret ?_
     refine q_then_r ?_
     obtain rfl := Option.some.inj h
     exact fin_ret (v := (B false)) (results_ok Try.results13 (res_tmp (v := (B false)) rfl res_nil) rfl) ⟨rfl, rfl⟩ (H.sel' [] rfl rfl)
    ·replace h := bif_f hb72 h
     refine c_skip ?_
     refine q_then ?_
     refine c_seq ?_
     refine c_seq ?_
     refine rg ?_
     refine st (v := (Sl a43 r40 c44)) (rv_move rfl) ?_
     refine st (v := (Sl aaList_0 aList_0 caList_0)) (rv_move rfl) ?_
     obtain ⟨r73, hx74, h'⟩ := bind_some h
     clear h
     have h := h'; clear h'
     have hc75 := c_laws_toItemS (aa_0 := aaList_0) (ca_0 := caList_0) hx74
     refine st_call (cx_call hc75 (ent_f hc75.fn rfl) hn0 (show Hp S0 σ0 _ ([Ch.ro 0 (Sl aaList_0 aList_0 caList_0) aList_0] ++ [Ch.own n0 n0 (Sl a65 r62 c66) r62, Ch.own n0 n0 (Sl a37 r34 c38) r34, Ch.big K45, Ch.own n0 n0 (Sl a51 r48 c52) r48, Ch.own n0 n0 (Sl a58 r55 c59) r55, Ch.ro 0 (Sl aaList_0 aList_0 caList_0) aList_0, Ch.ro 0 (Sl aaLow_1 aLow_1 caLow_1) aLow_1, Ch.ro 0 (Sl aaHigh_2 aHigh_2 caHigh_2) aHigh_2]) from (H.sel' [5, 0, 1, 2, 3, 4, 5, 6, 7] rfl rfl))) (wanted_none _ rfl _) ?_
     rintro _ σ80 ⟨_, ⟨a76, c77, K78, rfl, rfl, hK79⟩, H, -⟩
     replace H : Hp S0 σ0 σ80 [Ch.big K78, Ch.own n0 n0 (Sl a65 r62 c66) r62, Ch.own n0 n0 (Sl a37 r34 c38) r34, Ch.big K45, Ch.own n0 n0 (Sl a51 r48 c52) r48, Ch.own n0 n0 (Sl a58 r55 c59) r55, Ch.ro 0 (Sl aaList_0 aList_0 caList_0) aList_0, Ch.ro 0 (Sl aaLow_1 aLow_1 caLow_1) aLow_1, Ch.ro 0 (Sl aaHigh_2 aHigh_2 caHigh_2) aHigh_2] := H
     obtain ⟨r81, hx82, h'⟩ := bind_some h
     clear h
     have h := h'; clear h'
     have hc83 := c_laws_eqItemS (aa_0 := a43) (ca_0 := c44) (ab_1 := a76) (cb_1 := c77) hx82
     have hle := Nat.le_trans hn0 H.size
     refine st_call (cx_lend (Loan.lendB hK46.lends (Loan.lendB hK79.lends Loan.nil)) hc83 (ent_f hc83.fn rfl) (show Hp S0 σ0 _ ([Ch.big K45, Ch.big K78] ++ ([] ++ [Ch.own n0 n0 (Sl a65 r62 c66) r62, Ch.own n0 n0 (Sl a37 r34 c38) r34, Ch.own n0 n0 (Sl a51 r48 c52) r48, Ch.own n0 n0 (Sl a58 r55 c59) r55, Ch.ro 0 (Sl aaList_0 aList_0 caList_0) aList_0, Ch.ro 0 (Sl aaLow_1 aLow_1 caLow_1) aLow_1, Ch.ro 0 (Sl aaHigh_2 aHigh_2 caHigh_2) aHigh_2])) from (H.sel' [3, 0, 1, 2, 4, 5, 6, 7, 8] rfl rfl)) (by rintro _ _ _ ⟨rfl, rfl⟩; exact trivial)) (wanted_none _ rfl _) ?_
     rintro _ σ84 ⟨_, ⟨rfl, rfl⟩, H, -, -⟩
     replace H : Hp S0 σ0 σ84 [Ch.big K45, Ch.big K78, Ch.own n0 n0 (Sl a65 r62 c66) r62, Ch.own n0 n0 (Sl a37 r34 c38) r34, Ch.own n0 n0 (Sl a51 r48 c52) r48, Ch.own n0 n0 (Sl a58 r55 c59) r55, Ch.ro 0 (Sl aaList_0 aList_0 caList_0) aList_0, Ch.ro 0 (Sl aaLow_1 aLow_1 caLow_1) aLow_1, Ch.ro 0 (Sl aaHigh_2 aHigh_2 caHigh_2) aHigh_2] := H
     clear hle
     replace H : Hp S0 σ0 σ84 [Ch.big K45, Ch.big K78, Ch.own n0 n0 (Sl a65 r62 c66) r62, Ch.own n0 n0 (Sl a37 r34 c38) r34, Ch.own n0 n0 (Sl a51 r48 c52) r48, Ch.own n0 n0 (Sl a58 r55 c59) r55, Ch.ro 0 (Sl aaList_0 aList_0 caList_0) aList_0, Ch.ro 0 (Sl aaLow_1 aLow_1 caLow_1) aLow_1, Ch.ro 0 (Sl aaHigh_2 aHigh_2 caHigh_2) aHigh_2] := H
     replace H : Hp S0 σ0 σ84 [Ch.big K45, Ch.own n0 n0 (Sl a65 r62 c66) r62, Ch.own n0 n0 (Sl a37 r34 c38) r34, Ch.own n0 n0 (Sl a51 r48 c52) r48, Ch.own n0 n0 (Sl a58 r55 c59) r55, Ch.ro 0 (Sl aaList_0 aList_0 caList_0) aList_0, Ch.ro 0 (Sl aaLow_1 aLow_1 caLow_1) aLow_1, Ch.ro 0 (Sl aaHigh_2 aHigh_2 caHigh_2) aHigh_2] := H.sel' [0, 2, 3, 4, 5, 6, 7, 8] rfl rfl
     refine st (v := (B (!r81))) (rv_not rfl) ?_
     refine w_end ?_
     refine q_then ?_
     refine cd_cond (!r81) rfl (fun hb85 => ?_) (fun hb85 => ?_)
     ·replace h := bif_t hb85 h
      refine c_seq ?_
      refine rg ?_
      refine st (v := (B false)) (rv_assign rfl) ?_
      refine w_end ?_
      refine q_then ?_
      refine c_ret ?_
      refine q_then_r ?_
      obtain rfl := Option.some.inj h
      exact fin_ret (v := (B false)) (results_ok Try.results13 (res_tmp (v := (B false)) rfl res_nil) rfl) ⟨rfl, rfl⟩ (H.sel' [] rfl rfl)
     ·replace h := bif_f hb85 h
      refine c_skip ?_
      refine q_then ?_
      refine c_seq ?_
      refine c_seq ?_
      refine rg ?_
      refine st (v := (Sl a51 r48 c52)) (rv_move rfl) ?_
      refine st (v := (Sl aaLow_1 aLow_1 caLow_1)) (rv_move rfl) ?_
      obtain ⟨r86, hx87, h'⟩ := bind_some h
      clear h
      have h := h'; clear h'
      have hc88 := c_laws_toIntS (aa_0 := aaLow_1) (ca_0 := caLow_1) hx87
      refine st_call (cx_call hc88 (ent_f hc88.fn rfl) hn0 (show Hp S0 σ0 _ ([Ch.ro 0 (Sl aaLow_1 aLow_1 caLow_1) aLow_1] ++ [Ch.big K45, Ch.own n0 n0 (Sl a65 r62 c66) r62, Ch.own n0 n0 (Sl a37 r34 c38) r34, Ch.own n0 n0 (Sl a51 r48 c52) r48, Ch.own n0 n0 (Sl a58 r55 c59) r55, Ch.ro 0 (Sl aaList_0 aList_0 caList_0) aList_0, Ch.ro 0 (Sl aaLow_1 aLow_1 caLow_1) aLow_1, Ch.ro 0 (Sl aaHigh_2 aHigh_2 caHigh_2) aHigh_2]) from (H.sel' [6, 0, 1, 2, 3, 4, 5, 6, 7] rfl rfl))) (wanted_none _ rfl _) ?_
      rintro _ σ92 ⟨_, ⟨a89, c90, rfl, rfl, ht91⟩, H, -⟩
      replace H : Hp S0 σ0 σ92 [Ch.own n0 n0 (Sl a89 r86 c90) r86, Ch.big K45, Ch.own n0 n0 (Sl a65 r62 c66) r62, Ch.own n0 n0 (Sl a37 r34 c38) r34, Ch.own n0 n0 (Sl a51 r48 c52) r48, Ch.own n0 n0 (Sl a58 r55 c59) r55, Ch.ro 0 (Sl aaList_0 aList_0 caList_0) aList_0, Ch.ro 0 (Sl aaLow_1 aLow_1 caLow_1) aLow_1, Ch.ro 0 (Sl aaHigh_2 aHigh_2 caHigh_2) aHigh_2] := H
      obtain ⟨σ93, hw94, H, -⟩ := H.pub 0 rfl (Nat.le_refl _)
      rw [← hw94]; clear hw94
      replace H := H.roLow 0 0 rfl (Nat.zero_le _)
      obtain ⟨r95, hx96, h'⟩ := bind_some h
      clear h
      have h := h'; clear h'
      have hc97 := c_laws_eqIntS (aa_0 := a51) (ca_0 := c52) (ab_1 := a89) (cb_1 := c90) hx96
      have hle := Nat.le_trans hn0 H.size
      refine st_call (cx_lend (Loan.lend (Loan.same Loan.nil)) hc97 (ent_f hc97.fn rfl) (show Hp S0 σ0 _ ([Ch.own n0 n0 (Sl a51 r48 c52) r48] ++ ([Ch.ro 0 (Sl a89 r86 c90) r86] ++ [Ch.ro 0 (Sl a89 r86 c90) r86, Ch.ro n0 (Sl a89 r86 c90) r86, Ch.big K45, Ch.own n0 n0 (Sl a65 r62 c66) r62, Ch.own n0 n0 (Sl a37 r34 c38) r34, Ch.own n0 n0 (Sl a58 r55 c59) r55, Ch.ro 0 (Sl aaList_0 aList_0 caList_0) aList_0, Ch.ro 0 (Sl aaLow_1 aLow_1 caLow_1) aLow_1, Ch.ro 0 (Sl aaHigh_2 aHigh_2 caHigh_2) aHigh_2])) from (H.sel' [5, 0, 0, 1, 2, 3, 4, 6, 7, 8, 9] rfl rfl)) (by rintro _ _ _ ⟨rfl, rfl⟩; exact trivial)) (wanted_none _ rfl _) ?_
      rintro _ σ98 ⟨_, ⟨rfl, rfl⟩, H, -, -⟩
      replace H : Hp S0 σ0 σ98 [Ch.own n0 n0 (Sl a51 r48 c52) r48, Ch.ro 0 (Sl a89 r86 c90) r86, Ch.ro n0 (Sl a89 r86 c90) r86, Ch.big K45, Ch.own n0 n0 (Sl a65 r62 c66) r62, Ch.own n0 n0 (Sl a37 r34 c38) r34, Ch.own n0 n0 (Sl a58 r55 c59) r55, Ch.ro 0 (Sl aaList_0 aList_0 caList_0) aList_0, Ch.ro 0 (Sl aaLow_1 aLow_1 caLow_1) aLow_1, Ch.ro 0 (Sl aaHigh_2 aHigh_2 caHigh_2) aHigh_2] := H
      clear hle
      replace H : Hp S0 σ0 σ98 [Ch.own n0 n0 (Sl a51 r48 c52) r48, Ch.ro 0 (Sl a89 r86 c90) r86, Ch.ro n0 (Sl a89 r86 c90) r86, Ch.big K45, Ch.own n0 n0 (Sl a65 r62 c66) r62, Ch.own n0 n0 (Sl a37 r34 c38) r34, Ch.own n0 n0 (Sl a58 r55 c59) r55, Ch.ro 0 (Sl aaList_0 aList_0 caList_0) aList_0, Ch.ro 0 (Sl aaLow_1 aLow_1 caLow_1) aLow_1, Ch.ro 0 (Sl aaHigh_2 aHigh_2 caHigh_2) aHigh_2] := H
      replace H : Hp S0 σ0 σ98 [Ch.own n0 n0 (Sl a51 r48 c52) r48, Ch.big K45, Ch.own n0 n0 (Sl a65 r62 c66) r62, Ch.own n0 n0 (Sl a37 r34 c38) r34, Ch.own n0 n0 (Sl a58 r55 c59) r55, Ch.ro 0 (Sl aaList_0 aList_0 caList_0) aList_0, Ch.ro 0 (Sl aaLow_1 aLow_1 caLow_1) aLow_1, Ch.ro 0 (Sl aaHigh_2 aHigh_2 caHigh_2) aHigh_2] := H.sel' [0, 3, 4, 5, 6, 7, 8, 9] rfl rfl
      refine st (v := (B (!r95))) (rv_not rfl) ?_
      refine w_end ?_
      refine q_then ?_
      refine cd_cond (!r95) rfl (fun hb99 => ?_) (fun hb99 => ?_)
      ·replace h := bif_t hb99 h
       refine c_seq ?_
       refine rg ?_
       refine st (v := (B false)) (rv_assign rfl) ?_
       refine w_end ?_
       refine q_then ?_
       refine c_ret ?_
       refine q_then_r ?_
       obtain rfl := Option.some.inj h
       exact fin_ret (v := (B false)) (results_ok Try.results13 (res_tmp (v := (B false)) rfl res_nil) rfl) ⟨rfl, rfl⟩ (H.sel' [] rfl rfl)
      ·replace h := bif_f hb99 h
       refine c_skip ?_
       refine q_then ?_
       refine c_seq ?_
       refine c_seq ?_
       refine rg ?_
       refine st (v := (Sl a58 r55 c59)) (rv_move rfl) ?_
       refine st (v := (Sl aaHigh_2 aHigh_2 caHigh_2)) (rv_move rfl) ?_
       obtain ⟨r100, hx101, h'⟩ := bind_some h
       clear h
       have h := h'; clear h'
       have hc102 := c_laws_toIntS (aa_0 := aaHigh_2) (ca_0 := caHigh_2) hx101
       refine st_call (cx_call hc102 (ent_f hc102.fn rfl) hn0 (show Hp S0 σ0 _ ([Ch.ro 0 (Sl aaHigh_2 aHigh_2 caHigh_2) aHigh_2] ++ [Ch.own n0 n0 (Sl a51 r48 c52) r48, Ch.big K45, Ch.own n0 n0 (Sl a65 r62 c66) r62, Ch.own n0 n0 (Sl a37 r34 c38) r34, Ch.own n0 n0 (Sl a58 r55 c59) r55, Ch.ro 0 (Sl aaList_0 aList_0 caList_0) aList_0, Ch.ro 0 (Sl aaLow_1 aLow_1 caLow_1) aLow_1, Ch.ro 0 (Sl aaHigh_2 aHigh_2 caHigh_2) aHigh_2]) from (H.sel' [7, 0, 1, 2, 3, 4, 5, 6, 7] rfl rfl))) (wanted_none _ rfl _) ?_
       rintro _ σ106 ⟨_, ⟨a103, c104, rfl, rfl, ht105⟩, H, -⟩
       replace H : Hp S0 σ0 σ106 [Ch.own n0 n0 (Sl a103 r100 c104) r100, Ch.own n0 n0 (Sl a51 r48 c52) r48, Ch.big K45, Ch.own n0 n0 (Sl a65 r62 c66) r62, Ch.own n0 n0 (Sl a37 r34 c38) r34, Ch.own n0 n0 (Sl a58 r55 c59) r55, Ch.ro 0 (Sl aaList_0 aList_0 caList_0) aList_0, Ch.ro 0 (Sl aaLow_1 aLow_1 caLow_1) aLow_1, Ch.ro 0 (Sl aaHigh_2 aHigh_2 caHigh_2) aHigh_2] := H
       obtain ⟨σ107, hw108, H, -⟩ := H.pub 0 rfl (Nat.le_refl _)
       rw [← hw108]; clear hw108
       replace H := H.roLow 0 0 rfl (Nat.zero_le _)
       obtain ⟨r109, hx110, h'⟩ := bind_some h
       clear h
       have h := h'; clear h'
       have hc111 := c_laws_eqIntS (aa_0 := a58) (ca_0 := c59) (ab_1 := a103) (cb_1 := c104) hx110
       have hle := Nat.le_trans hn0 H.size
       refine st_call (cx_lend (Loan.lend (Loan.same Loan.nil)) hc111 (ent_f hc111.fn rfl) (show Hp S0 σ0 _ ([Ch.own n0 n0 (Sl a58 r55 c59) r55] ++ ([Ch.ro 0 (Sl a103 r100 c104) r100] ++ [Ch.ro 0 (Sl a103 r100 c104) r100, Ch.ro n0 (Sl a103 r100 c104) r100, Ch.own n0 n0 (Sl a51 r48 c52) r48, Ch.big K45, Ch.own n0 n0 (Sl a65 r62 c66) r62, Ch.own n0 n0 (Sl a37 r34 c38) r34, Ch.ro 0 (Sl aaList_0 aList_0 caList_0) aList_0, Ch.ro 0 (Sl aaLow_1 aLow_1 caLow_1) aLow_1, Ch.ro 0 (Sl aaHigh_2 aHigh_2 caHigh_2) aHigh_2])) from (H.sel' [6, 0, 0, 1, 2, 3, 4, 5, 7, 8, 9] rfl rfl)) (by rintro _ _ _ ⟨rfl, rfl⟩; exact trivial)) (wanted_none _ rfl _) ?_
       rintro _ σ112 ⟨_, ⟨rfl, rfl⟩, H, -, -⟩
       replace H : Hp S0 σ0 σ112 [Ch.own n0 n0 (Sl a58 r55 c59) r55, Ch.ro 0 (Sl a103 r100 c104) r100, Ch.ro n0 (Sl a103 r100 c104) r100, Ch.own n0 n0 (Sl a51 r48 c52) r48, Ch.big K45, Ch.own n0 n0 (Sl a65 r62 c66) r62, Ch.own n0 n0 (Sl a37 r34 c38) r34, Ch.ro 0 (Sl aaList_0 aList_0 caList_0) aList_0, Ch.ro 0 (Sl aaLow_1 aLow_1 caLow_1) aLow_1, Ch.ro 0 (Sl aaHigh_2 aHigh_2 caHigh_2) aHigh_2] := H
       clear hle
       replace H : Hp S0 σ0 σ112 [Ch.own n0 n0 (Sl a58 r55 c59) r55, Ch.ro 0 (Sl a103 r100 c104) r100, Ch.ro n0 (Sl a103 r100 c104) r100, Ch.own n0 n0 (Sl a51 r48 c52) r48, Ch.big K45, Ch.own n0 n0 (Sl a65 r62 c66) r62, Ch.own n0 n0 (Sl a37 r34 c38) r34, Ch.ro 0 (Sl aaList_0 aList_0 caList_0) aList_0, Ch.ro 0 (Sl aaLow_1 aLow_1 caLow_1) aLow_1, Ch.ro 0 (Sl aaHigh_2 aHigh_2 caHigh_2) aHigh_2] := H
       replace H : Hp S0 σ0 σ112 [Ch.own n0 n0 (Sl a58 r55 c59) r55, Ch.own n0 n0 (Sl a51 r48 c52) r48, Ch.big K45, Ch.own n0 n0 (Sl a65 r62 c66) r62, Ch.own n0 n0 (Sl a37 r34 c38) r34, Ch.ro 0 (Sl aaList_0 aList_0 caList_0) aList_0, Ch.ro 0 (Sl aaLow_1 aLow_1 caLow_1) aLow_1, Ch.ro 0 (Sl aaHigh_2 aHigh_2 caHigh_2) aHigh_2] := H.sel' [0, 3, 4, 5, 6, 7, 8, 9] rfl rfl
       refine st (v := (B (!r109))) (rv_not rfl) ?_
       refine w_end ?_
       refine q_then ?_
       refine cd_cond (!r109) rfl (fun hb113 => ?_) (fun hb113 => ?_)
       ·replace h := bif_t hb113 h
        refine c_seq ?_
        refine rg ?_
        refine st (v := (B false)) (rv_assign rfl) ?_
        refine w_end ?_
        refine q_then ?_
        refine c_ret ?_
        refine q_then_r ?_
        obtain rfl := Option.some.inj h
        exact fin_ret (v := (B false)) (results_ok Try.results13 (res_tmp (v := (B false)) rfl res_nil) rfl) ⟨rfl, rfl⟩ (H.sel' [] rfl rfl)
       ·replace h := bif_f hb113 h
        refine c_skip ?_
        refine q_then ?_
        refine c_seq ?_
        refine rg ?_
        refine st (v := (I 1)) (rv_assign rfl) ?_
        refine w_end ?_
        refine q_then ?_
        refine c_seq ?_
        refine rg ?_
        refine st (v := (Sl a43 r40 c44)) (rv_move rfl) ?_
        refine st (v := (I 1)) (rv_move rfl) ?_
        obtain ⟨r114, hx115, h'⟩ := bind_some h
        clear h
        have h := h'; clear h'
        have hc116 := c_laws_markItemS (aa_0 := a43) (ca_0 := c44) (hK := hK46) hx115
        refine st_call (cx_call hc116 (ent_f hc116.fn rfl) hn0 (show Hp S0 σ0 _ ([Ch.big K45] ++ [Ch.own n0 n0 (Sl a58 r55 c59) r55, Ch.own n0 n0 (Sl a51 r48 c52) r48, Ch.own n0 n0 (Sl a65 r62 c66) r62, Ch.own n0 n0 (Sl a37 r34 c38) r34, Ch.ro 0 (Sl aaList_0 aList_0 caList_0) aList_0, Ch.ro 0 (Sl aaLow_1 aLow_1 caLow_1) aLow_1, Ch.ro 0 (Sl aaHigh_2 aHigh_2 caHigh_2) aHigh_2]) from (H.sel' [2, 0, 1, 3, 4, 5, 6, 7] rfl rfl))) (wanted_none _ rfl _) ?_
        rintro _ σ117 ⟨_, ⟨rfl, rfl⟩, H, -⟩
        replace H : Hp S0 σ0 σ117 [Ch.own n0 n0 (Sl a58 r55 c59) r55, Ch.own n0 n0 (Sl a51 r48 c52) r48, Ch.own n0 n0 (Sl a65 r62 c66) r62, Ch.own n0 n0 (Sl a37 r34 c38) r34, Ch.ro 0 (Sl aaList_0 aList_0 caList_0) aList_0, Ch.ro 0 (Sl aaLow_1 aLow_1 caLow_1) aLow_1, Ch.ro 0 (Sl aaHigh_2 aHigh_2 caHigh_2) aHigh_2] := H
        refine st (v := (I r114)) (rv_assign rfl) ?_
        refine w_end ?_
        refine q_then ?_
        refine c_seq ?_
        refine rg ?_
        refine st (v := (Sl a51 r48 c52)) (rv_move rfl) ?_
        refine st (v := (I r114)) (rv_move rfl) ?_
        replace H := H.ownLow 1 0 0 rfl (Nat.zero_le _) (Nat.zero_le _)
        obtain ⟨r118, hx119, h'⟩ := bind_some h
        clear h
        have h := h'; clear h'
        have hc120 := c_laws_markIntS (aa_0 := a51) (ca_0 := c52) hx119
        refine st_call (cx_call hc120 (ent_f hc120.fn rfl) hn0 (show Hp S0 σ0 _ ([Ch.own 0 0 (Sl a51 r48 c52) r48] ++ [Ch.own n0 n0 (Sl a58 r55 c59) r55, Ch.own n0 n0 (Sl a65 r62 c66) r62, Ch.own n0 n0 (Sl a37 r34 c38) r34, Ch.ro 0 (Sl aaList_0 aList_0 caList_0) aList_0, Ch.ro 0 (Sl aaLow_1 aLow_1 caLow_1) aLow_1, Ch.ro 0 (Sl aaHigh_2 aHigh_2 caHigh_2) aHigh_2]) from (H.sel' [0, 1, 2, 3, 4, 5, 6] rfl rfl))) (wanted_none _ rfl _) ?_
        rintro _ σ122 ⟨_, ⟨rfl, rfl, hn121⟩, H, -⟩
        replace H : Hp S0 σ0 σ122 [Ch.own 0 0 (Sl a51 r118.2 c52) r118.2, Ch.own n0 n0 (Sl a58 r55 c59) r55, Ch.own n0 n0 (Sl a65 r62 c66) r62, Ch.own n0 n0 (Sl a37 r34 c38) r34, Ch.ro 0 (Sl aaList_0 aList_0 caList_0) aList_0, Ch.ro 0 (Sl aaLow_1 aLow_1 caLow_1) aLow_1, Ch.ro 0 (Sl aaHigh_2 aHigh_2 caHigh_2) aHigh_2] := H
        have hsl : (Sl a51 r48 c52) = (Sl a51 r118.2 c52) := sl_len hn121.symm
        try rw [hsl]
        try rw [hsl] at H
        clear hsl
        refine st (v := (I r118.1)) (rv_assign rfl) ?_
        refine w_end ?_
        refine q_then ?_
        refine c_seq ?_
        refine rg ?_
        refine st (v := (Sl a58 r55 c59)) (rv_move rfl) ?_
        refine st (v := (I r118.1)) (rv_move rfl) ?_
        replace H := H.ownLow 1 0 0 rfl (Nat.zero_le _) (Nat.zero_le _)
        obtain ⟨r123, hx124, h'⟩ := bind_some h
        clear h
        have h := h'; clear h'
        have hc125 := c_laws_markIntS (aa_0 := a58) (ca_0 := c59) hx124
        refine st_call (cx_call hc125 (ent_f hc125.fn rfl) hn0 (show Hp S0 σ0 _ ([Ch.own 0 0 (Sl a58 r55 c59) r55] ++ [Ch.own 0 0 (Sl a51 r118.2 c52) r118.2, Ch.own n0 n0 (Sl a65 r62 c66) r62, Ch.own n0 n0 (Sl a37 r34 c38) r34, Ch.ro 0 (Sl aaList_0 aList_0 caList_0) aList_0, Ch.ro 0 (Sl aaLow_1 aLow_1 caLow_1) aLow_1, Ch.ro 0 (Sl aaHigh_2 aHigh_2 caHigh_2) aHigh_2]) from (H.sel' [0, 1, 2, 3, 4, 5, 6] rfl rfl))) (wanted_none _ rfl _) ?_
        rintro _ σ127 ⟨_, ⟨rfl, rfl, hn126⟩, H, -⟩
        replace H : Hp S0 σ0 σ127 [Ch.own 0 0 (Sl a58 r123.2 c59) r123.2, Ch.own 0 0 (Sl a51 r118.2 c52) r118.2, Ch.own n0 n0 (Sl a65 r62 c66) r62, Ch.own n0 n0 (Sl a37 r34 c38) r34, Ch.ro 0 (Sl aaList_0 aList_0 caList_0) aList_0, Ch.ro 0 (Sl aaLow_1 aLow_1 caLow_1) aLow_1, Ch.ro 0 (Sl aaHigh_2 aHigh_2 caHigh_2) aHigh_2] := H
        have hsl : (Sl a58 r55 c59) = (Sl a58 r123.2 c59) := sl_len hn126.symm
        try rw [hsl]
        try rw [hsl] at H
        clear hsl
        refine st (v := (I r123.1)) (rv_assign rfl) ?_
        refine w_end ?_
        refine q_then ?_
        refine c_seq ?_
        refine c_seq ?_
        obtain ⟨o128, hj, h'⟩ := bind_some h
        clear h
        refine c_cut (fun e a w => e = .normal ∧ ∃ (ρ : Nat → Value) (σ : St), a = fr 111 (updL ρ [(0, (Sl aaList_0 aList_0 caList_0)), (1, (Sl aaLow_1 aLow_1 caLow_1)), (2, (Sl aaHigh_2 aHigh_2 caHigh_2)), (8, (Sl a37 r34 c38)), (12, (Sl a65 r62 c66)), (80, (B o128))]) ∧ w = σ.w ∧ Hp S0 σ0 σ [Ch.ro 0 (Sl aaList_0 aList_0 caList_0) aList_0, Ch.ro 0 (Sl aaLow_1 aLow_1 caLow_1) aLow_1, Ch.ro 0 (Sl aaHigh_2 aHigh_2 caHigh_2) aHigh_2, Ch.own n0 n0 (Sl a37 r34 c38) r34, Ch.own n0 n0 (Sl a65 r62 c66) r62]) ?_ ?_
        ·clear h'
         rename _ = some o128 => h
         refine rg ?_
         refine st (v := (I r123.1)) (rv_move rfl) ?_
         refine st (v := (B (decide (r123.1 < 0)))) (rv_lss (a := r123.1) (b := 0) rfl rfl) ?_
         refine st (v := (B (decide (r123.1 < 0)))) (rv_move rfl) ?_
         rcases Bool.eq_false_or_eq_true (decide (r123.1 < 0)) with hb129 | hb129
         ·replace h := bif_t hb129 h
          refine st_skip (congrArg some hb129) ?_
          refine st_skip (congrArg some hb129) ?_
          refine st_skip (congrArg some hb129) ?_
          refine st_skip (congrArg some hb129) ?_
          refine st (v := (B true)) (rv_pick_t (congrArg B hb129) rfl) ?_
          refine w_end ?_
          obtain rfl := Option.some.inj h
          exact ⟨rfl, _, σ127, fr_join ⟨rfl, rfl, rfl, rfl, rfl, rfl, trivial⟩, rfl, H.sel' [4, 5, 6, 3, 2] rfl rfl⟩
         ·replace h := bif_f hb129 h
          refine st_g (v := (Sl a65 r62 c66)) (congrArg some hb129) (rv_move rfl) ?_
          refine st_g (v := (Sl a37 r34 c38)) (congrArg some hb129) (rv_move rfl) ?_
          obtain ⟨r130, hx131, h'⟩ := bind_some h
          clear h
          have h := h'; clear h'
          have hc132 := c_laws_eqIntS (aa_0 := a65) (ca_0 := c66) (ab_1 := a37) (cb_1 := c38) hx131
          have hle := Nat.le_trans hn0 H.size
          refine st_call (cx_lend (Loan.lend (Loan.lend Loan.nil)) hc132 (ent_f hc132.fn rfl) (show Hp S0 σ0 _ ([Ch.own n0 n0 (Sl a65 r62 c66) r62, Ch.own n0 n0 (Sl a37 r34 c38) r34] ++ ([] ++ [Ch.own 0 0 (Sl a58 r123.2 c59) r123.2, Ch.own 0 0 (Sl a51 r118.2 c52) r118.2, Ch.ro 0 (Sl aaList_0 aList_0 caList_0) aList_0, Ch.ro 0 (Sl aaLow_1 aLow_1 caLow_1) aLow_1, Ch.ro 0 (Sl aaHigh_2 aHigh_2 caHigh_2) aHigh_2])) from (H.sel' [2, 3, 0, 1, 4, 5, 6] rfl rfl)) (by rintro _ _ _ ⟨rfl, rfl⟩; exact trivial)) (wanted_yes rfl (by exact (congrArg some hb129))) ?_
          rintro _ σ133 ⟨_, ⟨rfl, rfl⟩, H, -, -⟩
          replace H : Hp S0 σ0 σ133 [Ch.own n0 n0 (Sl a65 r62 c66) r62, Ch.own n0 n0 (Sl a37 r34 c38) r34, Ch.own 0 0 (Sl a58 r123.2 c59) r123.2, Ch.own 0 0 (Sl a51 r118.2 c52) r118.2, Ch.ro 0 (Sl aaList_0 aList_0 caList_0) aList_0, Ch.ro 0 (Sl aaLow_1 aLow_1 caLow_1) aLow_1, Ch.ro 0 (Sl aaHigh_2 aHigh_2 caHigh_2) aHigh_2] := H
          clear hle
          replace H : Hp S0 σ0 σ133 [Ch.own n0 n0 (Sl a65 r62 c66) r62, Ch.own n0 n0 (Sl a37 r34 c38) r34, Ch.own 0 0 (Sl a58 r123.2 c59) r123.2, Ch.own 0 0 (Sl a51 r118.2 c52) r118.2, Ch.ro 0 (Sl aaList_0 aList_0 caList_0) aList_0, Ch.ro 0 (Sl aaLow_1 aLow_1 caLow_1) aLow_1, Ch.ro 0 (Sl aaHigh_2 aHigh_2 caHigh_2) aHigh_2] := H
          refine st_g (v := (B (!r130))) (congrArg some hb129) (rv_not rfl) ?_
          refine st (v := (B (!r130))) (rv_pick_f (congrArg B hb129) rfl) ?_
          refine w_end ?_
          obtain rfl := Option.some.inj h
          exact ⟨rfl, _, σ133, fr_join ⟨rfl, rfl, rfl, rfl, rfl, rfl, trivial⟩, rfl, H.sel' [4, 5, 6, 1, 0] rfl rfl⟩
        ·clear hj
         have h := h'
         clear h' H
         rintro e a w ⟨rfl, ρ, σ134, rfl, rfl, H⟩
         refine q_then ?_
         refine cd_cond o128 rfl (fun hb135 => ?_) (fun hb135 => ?_)
         ·replace h := bif_t hb135 h
          refine c_seq ?_
          refine rg ?_
          refine st (v := (B false)) (rv_assign rfl) ?_
          refine w_end ?_
          refine q_then ?_
          refine c_ret ?_
          refine q_then_r ?_
          obtain rfl := Option.some.inj h
          exact fin_ret (v := (B false)) (results_ok Try.results13 (res_tmp (v := (B false)) rfl res_nil) rfl) ⟨rfl, rfl⟩ (H.sel' [] rfl rfl)
         ·replace h := bif_f hb135 h
          refine c_skip ?_
          refine q_then ?_
          refine c_seq ?_
          refine rg ?_
          refine st (v := (I 1)) (rv_assign rfl) ?_
          refine w_end ?_
          refine q_then ?_
          refine c_seq ?_
          refine rg ?_
          refine st (v := (Sl a65 r62 c66)) (rv_move rfl) ?_
          refine st (v := (I 1)) (rv_move rfl) ?_
          replace H := H.ownLow 4 0 0 rfl (Nat.zero_le _) (Nat.zero_le _)
          obtain ⟨r136, hx137, h'⟩ := bind_some h
          clear h
          have h := h'; clear h'
          have hc138 := c_laws_markIntS (aa_0 := a65) (ca_0 := c66) hx137
          refine st_call (cx_call hc138 (ent_f hc138.fn rfl) hn0 (show Hp S0 σ0 _ ([Ch.own 0 0 (Sl a65 r62 c66) r62] ++ [Ch.ro 0 (Sl aaList_0 aList_0 caList_0) aList_0, Ch.ro 0 (Sl aaLow_1 aLow_1 caLow_1) aLow_1, Ch.ro 0 (Sl aaHigh_2 aHigh_2 caHigh_2) aHigh_2, Ch.own n0 n0 (Sl a37 r34 c38) r34]) from (H.sel' [0, 1, 2, 3, 4] rfl rfl))) (wanted_none _ rfl _) ?_
          rintro _ σ140 ⟨_, ⟨rfl, rfl, hn139⟩, H, -⟩
          replace H : Hp S0 σ0 σ140 [Ch.own 0 0 (Sl a65 r136.2 c66) r136.2, Ch.ro 0 (Sl aaList_0 aList_0 caList_0) aList_0, Ch.ro 0 (Sl aaLow_1 aLow_1 caLow_1) aLow_1, Ch.ro 0 (Sl aaHigh_2 aHigh_2 caHigh_2) aHigh_2, Ch.own n0 n0 (Sl a37 r34 c38) r34] := H
          have hsl : (Sl a65 r62 c66) = (Sl a65 r136.2 c66) := sl_len hn139.symm
          try rw [hsl]
          try rw [hsl] at H
          clear hsl
          refine st (v := (I r136.1)) (rv_assign rfl) ?_
          refine w_end ?_
          refine q_then ?_
          refine c_seq ?_
          refine rg ?_
          refine st (v := (I 1)) (rv_assign rfl) ?_
          refine w_end ?_
          refine q_then ?_
          refine c_seq ?_
          refine rg ?_
          refine st (v := (Sl a65 r136.2 c66)) (rv_move rfl) ?_
          refine st (v := (I 1)) (rv_move rfl) ?_
          obtain ⟨r141, hx142, h'⟩ := bind_some h
          clear h
          have h := h'; clear h'
          have hc143 := c_laws_heldIntS (aa_0 := a65) (ca_0 := c66) hx142
          have hle := Nat.le_trans hn0 H.size
          refine st_call (cx_lend (Loan.lend Loan.nil) hc143 (ent_f hc143.fn rfl) (show Hp S0 σ0 _ ([Ch.own 0 0 (Sl a65 r136.2 c66) r136.2] ++ ([] ++ [Ch.ro 0 (Sl aaList_0 aList_0 caList_0) aList_0, Ch.ro 0 (Sl aaLow_1 aLow_1 caLow_1) aLow_1, Ch.ro 0 (Sl aaHigh_2 aHigh_2 caHigh_2) aHigh_2, Ch.own n0 n0 (Sl a37 r34 c38) r34])) from (H.sel' [0, 1, 2, 3, 4] rfl rfl)) (by rintro _ _ _ ⟨rfl, rfl⟩; exact trivial)) (wanted_none _ rfl _) ?_
          rintro _ σ144 ⟨_, ⟨rfl, rfl⟩, H, -, -⟩
          replace H : Hp S0 σ0 σ144 [Ch.own 0 0 (Sl a65 r136.2 c66) r136.2, Ch.ro 0 (Sl aaList_0 aList_0 caList_0) aList_0, Ch.ro 0 (Sl aaLow_1 aLow_1 caLow_1) aLow_1, Ch.ro 0 (Sl aaHigh_2 aHigh_2 caHigh_2) aHigh_2, Ch.own n0 n0 (Sl a37 r34 c38) r34] := H
          clear hle
          replace H : Hp S0 σ0 σ144 [Ch.own 0 0 (Sl a65 r136.2 c66) r136.2, Ch.ro 0 (Sl aaList_0 aList_0 caList_0) aList_0, Ch.ro 0 (Sl aaLow_1 aLow_1 caLow_1) aLow_1, Ch.ro 0 (Sl aaHigh_2 aHigh_2 caHigh_2) aHigh_2, Ch.own n0 n0 (Sl a37 r34 c38) r34] := H
          refine st (v := (I r141)) (rv_assign rfl) ?_
          refine w_end ?_
          refine q_then ?_
          refine c_seq ?_
          refine c_seq ?_
          refine rg ?_
          refine st (v := (I r141)) (rv_move rfl) ?_
          refine st (v := (B (decide (r141 < 0)))) (rv_lss (a := r141) (b := 0) rfl rfl) ?_
          refine w_end ?_
          refine q_then ?_
          refine cd_cond (decide (r141 < 0)) rfl (fun hb145 => ?_) (fun hb145 => ?_)
          ·replace h := bif_t hb145 h
           refine c_seq ?_
           refine rg ?_
           refine st (v := (B false)) (rv_assign rfl) ?_
           refine w_end ?_
           refine q_then ?_
           refine c_ret ?_
           refine q_then_r ?_
           obtain rfl := Option.some.inj h
           exact fin_ret (v := (B false)) (results_ok Try.results13 (res_tmp (v := (B false)) rfl res_nil) rfl) ⟨rfl, rfl⟩ (H.sel' [] rfl rfl)
          ·replace h := bif_f hb145 h
           refine c_skip ?_
           refine q_then ?_
           refine c_seq ?_
           refine c_seq ?_
           refine rg ?_
           refine st (v := (I r141)) (rv_move rfl) ?_
           refine st (v := (I r136.1)) (rv_move rfl) ?_
           refine st (v := (B (r141 != r136.1))) (rv_neq (a := r141) (b := r136.1) rfl rfl) ?_
           refine w_end ?_
           refine q_then ?_
           refine cd_cond (r141 != r136.1) rfl (fun hb146 => ?_) (fun hb146 => ?_)
           ·replace h := bif_t hb146 h
            refine c_seq ?_
            refine rg ?_
            refine st (v := (B false)) (rv_assign rfl) ?_
            refine w_end ?_
            refine q_then ?_
            refine c_ret ?_
            refine q_then_r ?_
            obtain rfl := Option.some.inj h
            exact fin_ret (v := (B false)) (results_ok Try.results13 (res_tmp (v := (B false)) rfl res_nil) rfl) ⟨rfl, rfl⟩ (H.sel' [] rfl rfl)
           ·replace h := bif_f hb146 h
            refine c_skip ?_
            refine q_then ?_
            refine c_seq ?_
            refine rg ?_
            refine st (v := (Sl aaList_0 aList_0 caList_0)) (rv_move rfl) ?_
            obtain ⟨r147, hx148, h'⟩ := bind_some h
            clear h
            have h := h'; clear h'
            have hc149 := c_laws_toItemS (aa_0 := aaList_0) (ca_0 := caList_0) hx148
            refine st_call (cx_call hc149 (ent_f hc149.fn rfl) hn0 (show Hp S0 σ0 _ ([Ch.ro 0 (Sl aaList_0 aList_0 caList_0) aList_0] ++ [Ch.own 0 0 (Sl a65 r136.2 c66) r136.2, Ch.ro 0 (Sl aaList_0 aList_0 caList_0) aList_0, Ch.ro 0 (Sl aaLow_1 aLow_1 caLow_1) aLow_1, Ch.ro 0 (Sl aaHigh_2 aHigh_2 caHigh_2) aHigh_2, Ch.own n0 n0 (Sl a37 r34 c38) r34]) from (H.sel' [1, 0, 1, 2, 3, 4] rfl rfl))) (wanted_none _ rfl _) ?_
            rintro _ σ154 ⟨_, ⟨a150, c151, K152, rfl, rfl, hK153⟩, H, -⟩
            replace H : Hp S0 σ0 σ154 [Ch.big K152, Ch.own 0 0 (Sl a65 r136.2 c66) r136.2, Ch.ro 0 (Sl aaList_0 aList_0 caList_0) aList_0, Ch.ro 0 (Sl aaLow_1 aLow_1 caLow_1) aLow_1, Ch.ro 0 (Sl aaHigh_2 aHigh_2 caHigh_2) aHigh_2, Ch.own n0 n0 (Sl a37 r34 c38) r34] := H
            refine st (v := (Sl aaLow_1 aLow_1 caLow_1)) (rv_move rfl) ?_
            obtain ⟨r155, hx156, h'⟩ := bind_some h
            clear h
            have h := h'; clear h'
            have hc157 := c_laws_toIntS (aa_0 := aaLow_1) (ca_0 := caLow_1) hx156
            refine st_call (cx_call hc157 (ent_f hc157.fn rfl) hn0 (show Hp S0 σ0 _ ([Ch.ro 0 (Sl aaLow_1 aLow_1 caLow_1) aLow_1] ++ [Ch.big K152, Ch.own 0 0 (Sl a65 r136.2 c66) r136.2, Ch.ro 0 (Sl aaList_0 aList_0 caList_0) aList_0, Ch.ro 0 (Sl aaLow_1 aLow_1 caLow_1) aLow_1, Ch.ro 0 (Sl aaHigh_2 aHigh_2 caHigh_2) aHigh_2, Ch.own n0 n0 (Sl a37 r34 c38) r34]) from (H.sel' [3, 0, 1, 2, 3, 4, 5] rfl rfl))) (wanted_none _ rfl _) ?_
            rintro _ σ161 ⟨_, ⟨a158, c159, rfl, rfl, ht160⟩, H, -⟩
            replace H : Hp S0 σ0 σ161 [Ch.own n0 n0 (Sl a158 r155 c159) r155, Ch.big K152, Ch.own 0 0 (Sl a65 r136.2 c66) r136.2, Ch.ro 0 (Sl aaList_0 aList_0 caList_0) aList_0, Ch.ro 0 (Sl aaLow_1 aLow_1 caLow_1) aLow_1, Ch.ro 0 (Sl aaHigh_2 aHigh_2 caHigh_2) aHigh_2, Ch.own n0 n0 (Sl a37 r34 c38) r34] := H
            refine st (v := (Sl aaHigh_2 aHigh_2 caHigh_2)) (rv_move rfl) ?_
            obtain ⟨r162, hx163, h'⟩ := bind_some h
            clear h
            have h := h'; clear h'
            have hc164 := c_laws_toIntS (aa_0 := aaHigh_2) (ca_0 := caHigh_2) hx163
            refine st_call (cx_call hc164 (ent_f hc164.fn rfl) hn0 (show Hp S0 σ0 _ ([Ch.ro 0 (Sl aaHigh_2 aHigh_2 caHigh_2) aHigh_2] ++ [Ch.own n0 n0 (Sl a158 r155 c159) r155, Ch.big K152, Ch.own 0 0 (Sl a65 r136.2 c66) r136.2, Ch.ro 0 (Sl aaList_0 aList_0 caList_0) aList_0, Ch.ro 0 (Sl aaLow_1 aLow_1 caLow_1) aLow_1, Ch.ro 0 (Sl aaHigh_2 aHigh_2 caHigh_2) aHigh_2, Ch.own n0 n0 (Sl a37 r34 c38) r34]) from (H.sel' [5, 0, 1, 2, 3, 4, 5, 6] rfl rfl))) (wanted_none _ rfl _) ?_
            rintro _ σ168 ⟨_, ⟨a165, c166, rfl, rfl, ht167⟩, H, -⟩
            replace H : Hp S0 σ0 σ168 [Ch.own n0 n0 (Sl a165 r162 c166) r162, Ch.own n0 n0 (Sl a158 r155 c159) r155, Ch.big K152, Ch.own 0 0 (Sl a65 r136.2 c66) r136.2, Ch.ro 0 (Sl aaList_0 aList_0 caList_0) aList_0, Ch.ro 0 (Sl aaLow_1 aLow_1 caLow_1) aLow_1, Ch.ro 0 (Sl aaHigh_2 aHigh_2 caHigh_2) aHigh_2, Ch.own n0 n0 (Sl a37 r34 c38) r34] := H
            replace H : Hp S0 σ0 σ168 [Ch.own n0 n0 (Sl a165 r162 c166) r162, Ch.own n0 n0 (Sl a158 r155 c159) r155, Ch.big K152, Ch.own 0 0 (Sl a65 r136.2 c66) r136.2, Ch.own n0 n0 (Sl a37 r34 c38) r34] := H.sel' [0, 1, 2, 3, 7] rfl rfl
            obtain ⟨σ169, hw170, H, -⟩ := H.pub 1 rfl (Nat.le_refl _)
            rw [← hw170]; clear hw170
            obtain ⟨σ171, hw172, H, -⟩ := H.pub 1 rfl (Nat.le_refl _)
            rw [← hw172]; clear hw172
            replace H := H.roLow 1 0 rfl (Nat.zero_le _)
            replace H := H.roLow 1 0 rfl (Nat.zero_le _)
            obtain ⟨r173, hx174, h'⟩ := bind_some h
            clear h
            have h := h'; clear h'
            have hc175 := c_impl_InBox (alist_0 := a150) (clist_0 := c151) (alow_1 := a158) (clow_1 := c159) (ahigh_2 := a165) (chigh_2 := c166) hx174
            have hle := Nat.le_trans hn0 H.size
            refine st_call (cx_lend (Loan.lendB hK153.lends (Loan.same (Loan.same Loan.nil))) hc175 (ent_f hc175.fn rfl) (show Hp S0 σ0 _ ([Ch.big K152] ++ ([Ch.ro 0 (Sl a158 r155 c159) r155, Ch.ro 0 (Sl a165 r162 c166) r162] ++ [Ch.ro 0 (Sl a165 r162 c166) r162, Ch.ro 0 (Sl a158 r155 c159) r155, Ch.ro n0 (Sl a165 r162 c166) r162, Ch.ro n0 (Sl a158 r155 c159) r155, Ch.own 0 0 (Sl a65 r136.2 c66) r136.2, Ch.own n0 n0 (Sl a37 r34 c38) r34])) from (H.sel' [4, 1, 0, 0, 1, 2, 3, 5, 6] rfl rfl)) (by rintro _ _ _ ⟨_, _, rfl, rfl⟩; exact ⟨Ab.ownSc, trivial⟩)) (wanted_none _ rfl _) ?_
            rintro _ σ178 ⟨_, ⟨a176, c177, rfl, rfl⟩, H, -, -⟩
            replace H : Hp S0 σ0 σ178 [Ch.own σ171.size σ171.size (Sl a176 r173 c177) r173, Ch.big K152, Ch.ro 0 (Sl a165 r162 c166) r162, Ch.ro 0 (Sl a158 r155 c159) r155, Ch.ro n0 (Sl a165 r162 c166) r162, Ch.ro n0 (Sl a158 r155 c159) r155, Ch.own 0 0 (Sl a65 r136.2 c66) r136.2, Ch.own n0 n0 (Sl a37 r34 c38) r34] := H
            replace H := H.ownLow 0 n0 n0 rfl hle hle
            clear hle
            replace H : Hp S0 σ0 σ178 [Ch.own n0 n0 (Sl a176 r173 c177) r173, Ch.big K152, Ch.ro 0 (Sl a165 r162 c166) r162, Ch.ro 0 (Sl a158 r155 c159) r155, Ch.ro n0 (Sl a165 r162 c166) r162, Ch.ro n0 (Sl a158 r155 c159) r155, Ch.own 0 0 (Sl a65 r136.2 c66) r136.2, Ch.own n0 n0 (Sl a37 r34 c38) r34] := H
            replace H : Hp S0 σ0 σ178 [Ch.own n0 n0 (Sl a176 r173 c177) r173, Ch.own 0 0 (Sl a65 r136.2 c66) r136.2, Ch.own n0 n0 (Sl a37 r34 c38) r34] := H.sel' [0, 6, 7] rfl rfl
            refine st (v := (Sl a176 r173 c177)) (rv_assign rfl) ?_
            refine w_end ?_
            refine q_then ?_
            refine c_seq ?_
            refine c_seq ?_
            refine rg ?_
            refine st (v := (Sl a176 r173 c177)) (rv_move rfl) ?_
            refine st (v := (Sl a37 r34 c38)) (rv_move rfl) ?_
            obtain ⟨σ179, hw180, H, -⟩ := H.pub 0 rfl (Nat.le_refl _)
            rw [← hw180]; clear hw180
            obtain ⟨σ181, hw182, H, -⟩ := H.pub 2 rfl (Nat.le_refl _)
            rw [← hw182]; clear hw182
            replace H := H.roLow 1 0 rfl (Nat.zero_le _)
            replace H := H.roLow 1 0 rfl (Nat.zero_le _)
            obtain ⟨r183, hx184, h'⟩ := bind_some h
            clear h
            have h := h'; clear h'
            have hc185 := c_laws_eqIntS (aa_0 := a176) (ca_0 := c177) (ab_1 := a37) (cb_1 := c38) hx184
            refine st_call (cx_call hc185 (ent_f hc185.fn rfl) hn0 (show Hp S0 σ0 _ ([Ch.ro 0 (Sl a176 r173 c177) r173, Ch.ro 0 (Sl a37 r34 c38) r34] ++ [Ch.ro 0 (Sl a37 r34 c38) r34, Ch.ro 0 (Sl a176 r173 c177) r173, Ch.ro n0 (Sl a37 r34 c38) r34, Ch.ro n0 (Sl a176 r173 c177) r173, Ch.own 0 0 (Sl a65 r136.2 c66) r136.2]) from (H.sel' [1, 0, 0, 1, 2, 3, 4] rfl rfl))) (wanted_none _ rfl _) ?_
            rintro _ σ186 ⟨_, ⟨rfl, rfl⟩, H, -⟩
            replace H : Hp S0 σ0 σ186 [Ch.ro 0 (Sl a37 r34 c38) r34, Ch.ro 0 (Sl a176 r173 c177) r173, Ch.ro n0 (Sl a37 r34 c38) r34, Ch.ro n0 (Sl a176 r173 c177) r173, Ch.own 0 0 (Sl a65 r136.2 c66) r136.2] := H
            refine st (v := (B (!r183))) (rv_not rfl) ?_
            refine w_end ?_
            refine q_then ?_
            refine cd_cond (!r183) rfl (fun hb187 => ?_) (fun hb187 => ?_)
            ·replace h := bif_t hb187 h
             refine c_seq ?_
             refine rg ?_
             refine st (v := (B false)) (rv_assign rfl) ?_
             refine w_end ?_
             refine q_then ?_
             refine c_ret ?_
             refine q_then_r ?_
             obtain rfl := Option.some.inj h
             exact fin_ret (v := (B false)) (results_ok Try.results13 (res_tmp (v := (B false)) rfl res_nil) rfl) ⟨rfl, rfl⟩ (H.sel' [] rfl rfl)
            ·replace h := bif_f hb187 h
             refine c_skip ?_
             refine q_then ?_
             refine c_seq ?_
             refine rg ?_
             refine st (v := (I 1)) (rv_assign rfl) ?_
             refine w_end ?_
             refine q_then ?_
             refine c_seq ?_
             refine rg ?_
             refine st (v := (Sl a65 r136.2 c66)) (rv_move rfl) ?_
             refine st (v := (I 1)) (rv_move rfl) ?_
             obtain ⟨σ188, hw189, H, -⟩ := H.pub 4 rfl (Nat.le_refl _)
             rw [← hw189]; clear hw189
             obtain ⟨r190, hx191, h'⟩ := bind_some h
             clear h
             have h := h'; clear h'
             have hc192 := c_laws_heldIntS (aa_0 := a65) (ca_0 := c66) hx191
             refine st_call (cx_call hc192 (ent_f hc192.fn rfl) hn0 (show Hp S0 σ0 _ ([Ch.ro 0 (Sl a65 r136.2 c66) r136.2] ++ [Ch.ro 0 (Sl a65 r136.2 c66) r136.2, Ch.ro 0 (Sl a37 r34 c38) r34, Ch.ro 0 (Sl a176 r173 c177) r173, Ch.ro n0 (Sl a37 r34 c38) r34, Ch.ro n0 (Sl a176 r173 c177) r173]) from (H.sel' [0, 0, 1, 2, 3, 4] rfl rfl))) (wanted_none _ rfl _) ?_
             rintro _ σ193 ⟨_, ⟨rfl, rfl⟩, H, -⟩
             replace H : Hp S0 σ0 σ193 [Ch.ro 0 (Sl a65 r136.2 c66) r136.2, Ch.ro 0 (Sl a37 r34 c38) r34, Ch.ro 0 (Sl a176 r173 c177) r173, Ch.ro n0 (Sl a37 r34 c38) r34, Ch.ro n0 (Sl a176 r173 c177) r173] := H
             refine st (v := (I r190)) (rv_assign rfl) ?_
             refine w_end ?_
             refine q_then ?_
             refine c_seq ?_
             refine c_seq ?_
             refine rg ?_
             refine st (v := (I r190)) (rv_move rfl) ?_
             refine st (v := (B (decide (r190 < 0)))) (rv_lss (a := r190) (b := 0) rfl rfl) ?_
             refine w_end ?_
             refine q_then ?_
             refine cd_cond (decide (r190 < 0)) rfl (fun hb194 => ?_) (fun hb194 => ?_)
             ·replace h := bif_t hb194 h
              refine c_seq ?_
              refine rg ?_
              refine st (v := (B false)) (rv_assign rfl) ?_
              refine w_end ?_
              refine q_then ?_
              refine c_ret ?_
              refine q_then_r ?_
              obtain rfl := Option.some.inj h
              exact fin_ret (v := (B false)) (results_ok Try.results13 (res_tmp (v := (B false)) rfl res_nil) rfl) ⟨rfl, rfl⟩ (H.sel' [] rfl rfl)
             ·replace h := bif_f hb194 h
              refine c_skip ?_
              refine q_then ?_
              refine c_seq ?_
              refine c_seq ?_
              refine rg ?_
              refine st (v := (I r190)) (rv_move rfl) ?_
              refine st (v := (I r136.1)) (rv_move rfl) ?_
              refine st (v := (B (r190 != r136.1))) (rv_neq (a := r190) (b := r136.1) rfl rfl) ?_
              refine w_end ?_
              refine q_then ?_
              refine cd_cond (r190 != r136.1) rfl (fun hb195 => ?_) (fun hb195 => ?_)
              ·replace h := bif_t hb195 h
               refine c_seq ?_
               refine rg ?_
               refine st (v := (B false)) (rv_assign rfl) ?_
               refine w_end ?_
               refine q_then ?_
               refine c_ret ?_
               refine q_then_r ?_
               obtain rfl := Option.some.inj h
               exact fin_ret (v := (B false)) (results_ok Try.results13 (res_tmp (v := (B false)) rfl res_nil) rfl) ⟨rfl, rfl⟩ (H.sel' [] rfl rfl)
              ·replace h := bif_f hb195 h
               refine c_skip ?_
               refine q_then ?_
               refine c_seq ?_
               refine rg ?_
               refine st (v := (B true)) (rv_assign rfl) ?_
               refine w_end ?_
               refine q_then ?_
               refine c_ret ?_
               obtain rfl := Option.some.inj h
               exact fin_ret (v := (B true)) (results_ok Try.results13 (res_tmp (v := (B true)) rfl res_nil) rfl) ⟨rfl, rfl⟩ (H.sel' [] rfl rfl)

end Go.Vs
