/- The functions compute what their models say. -/
import Derived.Test.YtfcemgcmpcmgcabKExactValidHistoryC3
set_option linter.unusedVariables false
set_option linter.unusedSimpArgs false
set_option maxRecDepth 20000
namespace Go.Vs
open Go Go.Proofs
attribute [local irreducible] Code.wp Code.wpIn wpList wpListIn wpQuiet Calls CallsIn

theorem c_laws_eqEntry {a_0 : Int × (Int × (List Int) × Int)} {b_1 : Int × (Int × (List Int) × Int)} {aa_0_1_1 : Option Addr} {ca_0_1_1 : Nat} {ab_1_1_1 : Option Addr} {cb_1_1_1 : Nat} {r : Bool} (h : M.laws_eqEntry a_0 b_1 = some r) :
    Cal2 Try.prog 29 [(.agg #[(I a_0.1), (I a_0.2.1), (Sl aa_0_1_1 a_0.2.2.1 ca_0_1_1), (I a_0.2.2.2)]), (.agg #[(I b_1.1), (I b_1.2.1), (Sl ab_1_1_1 b_1.2.2.1 cb_1_1_1), (I b_1.2.2.2)])] [Ch.ro 0 (Sl aa_0_1_1 a_0.2.2.1 ca_0_1_1) a_0.2.2.1, Ch.ro 0 (Sl ab_1_1_1 b_1.2.2.1 cb_1_1_1) b_1.2.2.1] (fun n0 v L => v = (B r) ∧ L = []) := by
 refine cal2 (n := 16) Try.func29 rfl rfl rfl rfl ?_
 intro S0 σ0 n0 hn0 H
 unfold M.laws_eqEntry at h
 refine c_seq ?_
 refine rg ?_
 refine st_ex (ex_box (cs := [(I a_0.1), (I a_0.2.1), (Sl aa_0_1_1 a_0.2.2.1 ca_0_1_1), (I a_0.2.2.2)]) H hn0 rfl rfl) wn ?_
 rintro _ σ2 ⟨b1, rfl, H, -⟩
 refine st_ex (ex_box (cs := [(I b_1.1), (I b_1.2.1), (Sl ab_1_1_1 b_1.2.2.1 cb_1_1_1), (I b_1.2.2.2)]) H hn0 rfl rfl) wn ?_
 rintro _ σ4 ⟨b3, rfl, H, -⟩
 refine st (v := (B false)) (rv_assign rfl) ?_
 refine w_end ?_
 refine q_then ?_
 refine c_seq ?_
 refine c_seq ?_
 refine rg ?_
 refine st (v := (pt b1 0)) (rv_fieldAddr (off := 0) (ft := 3) Try.underlying56 rfl ti3 rfl rfl) ?_
 have hc5 := H.cell (u := (I a_0.1)) (o' := 0) 1 0 rfl rfl rfl
 refine st (v := (I a_0.1)) (rv_load1 Try.underlying3 rfl rfl hc5) ?_
 refine st (v := (pt b3 0)) (rv_fieldAddr (off := 0) (ft := 3) Try.underlying56 rfl ti3 rfl rfl) ?_
 have hc6 := H.cell (u := (I b_1.1)) (o' := 0) 0 0 rfl rfl rfl
 refine st (v := (I b_1.1)) (rv_load1 Try.underlying3 rfl rfl hc6) ?_
 refine st (v := (B (a_0.1 != b_1.1))) (rv_neq (a := a_0.1) (b := b_1.1) rfl rfl) ?_
 refine w_end ?_
 refine q_then ?_
 refine cd_cond (a_0.1 != b_1.1) rfl (fun hb7 => ?_) (fun hb7 => ?_)
 ·replace h := bif_t hb7 h
  refine c_seq ?_
  refine rg ?_
  refine st (v := (B false)) (rv_assign rfl) ?_
  refine w_end ?_
  refine q_then ?_
  refine c_ret ?_
  refine q_then_r ?_
  obtain rfl := Option.some.inj h
  exact fin_ret (v := (B false)) (results_ok Try.results29 (res_tmp (v := (B false)) rfl res_nil) rfl) ⟨rfl, rfl⟩ (H.sel' [] rfl rfl)
 ·replace h := bif_f hb7 h
  refine c_skip ?_
  refine q_then ?_
  refine c_seq ?_
  refine c_seq ?_
  refine rg ?_
  refine st (v := (pt b1 1)) (rv_fieldAddr (off := 1) (ft := 36) Try.underlying56 rfl ti36 rfl rfl) ?_
  have hc8 := H.part (us := [(I a_0.2.1), (Sl aa_0_1_1 a_0.2.2.1 ca_0_1_1), (I a_0.2.2.2)]) (o' := 1) 1 1 3 rfl rfl rfl rfl
  refine st (v := (.agg #[(I a_0.2.1), (Sl aa_0_1_1 a_0.2.2.1 ca_0_1_1), (I a_0.2.2.2)])) (rv_load (cs := [(I a_0.2.1), (Sl aa_0_1_1 a_0.2.2.1 ca_0_1_1), (I a_0.2.2.2)]) Try.underlying36 rfl ti36 rfl rfl hc8) ?_
  refine st (v := (pt b3 1)) (rv_fieldAddr (off := 1) (ft := 36) Try.underlying56 rfl ti36 rfl rfl) ?_
  have hc9 := H.part (us := [(I b_1.2.1), (Sl ab_1_1_1 b_1.2.2.1 cb_1_1_1), (I b_1.2.2.2)]) (o' := 1) 0 1 3 rfl rfl rfl rfl
  refine st (v := (.agg #[(I b_1.2.1), (Sl ab_1_1_1 b_1.2.2.1 cb_1_1_1), (I b_1.2.2.2)])) (rv_load (cs := [(I b_1.2.1), (Sl ab_1_1_1 b_1.2.2.1 cb_1_1_1), (I b_1.2.2.2)]) Try.underlying36 rfl ti36 rfl rfl hc9) ?_
  obtain ⟨r10, hx11, h'⟩ := bind_some h
  clear h
  have h := h'; clear h'
  have hc12 := c_laws_eqItem (aa_0_1 := aa_0_1_1) (ca_0_1 := ca_0_1_1) (ab_1_1 := ab_1_1_1) (cb_1_1 := cb_1_1_1) hx11
  refine st_call (cx_call hc12 (ent_f hc12.fn rfl) hn0 (show Hp S0 σ0 _ ([Ch.ro 0 (Sl aa_0_1_1 a_0.2.2.1 ca_0_1_1) a_0.2.2.1, Ch.ro 0 (Sl ab_1_1_1 b_1.2.2.1 cb_1_1_1) b_1.2.2.1] ++ [Ch.bx n0 b3 0 [(I b_1.1), (I b_1.2.1), (Sl ab_1_1_1 b_1.2.2.1 cb_1_1_1), (I b_1.2.2.2)] [] [], Ch.bx n0 b1 0 [(I a_0.1), (I a_0.2.1), (Sl aa_0_1_1 a_0.2.2.1 ca_0_1_1), (I a_0.2.2.2)] [] [], Ch.ro 0 (Sl aa_0_1_1 a_0.2.2.1 ca_0_1_1) a_0.2.2.1, Ch.ro 0 (Sl ab_1_1_1 b_1.2.2.1 cb_1_1_1) b_1.2.2.1]) from (H.sel' [2, 3, 0, 1, 2, 3] rfl rfl))) wn ?_
  rintro _ σ13 ⟨_, ⟨rfl, rfl⟩, H, -⟩
  replace H : Hp S0 σ0 σ13 [Ch.bx n0 b3 0 [(I b_1.1), (I b_1.2.1), (Sl ab_1_1_1 b_1.2.2.1 cb_1_1_1), (I b_1.2.2.2)] [] [], Ch.bx n0 b1 0 [(I a_0.1), (I a_0.2.1), (Sl aa_0_1_1 a_0.2.2.1 ca_0_1_1), (I a_0.2.2.2)] [] [], Ch.ro 0 (Sl aa_0_1_1 a_0.2.2.1 ca_0_1_1) a_0.2.2.1, Ch.ro 0 (Sl ab_1_1_1 b_1.2.2.1 cb_1_1_1) b_1.2.2.1] := H
  refine st (v := (B (!r10))) (rv_not rfl) ?_
  refine w_end ?_
  refine q_then ?_
  refine cd_cond (!r10) rfl (fun hb14 => ?_) (fun hb14 => ?_)
  ·replace h := bif_t hb14 h
   refine c_seq ?_
   refine rg ?_
   refine st (v := (B false)) (rv_assign rfl) ?_
   refine w_end ?_
   refine q_then ?_
   refine c_ret ?_
   refine q_then_r ?_
   obtain rfl := Option.some.inj h
   exact fin_ret (v := (B false)) (results_ok Try.results29 (res_tmp (v := (B false)) rfl res_nil) rfl) ⟨rfl, rfl⟩ (H.sel' [] rfl rfl)
  ·replace h := bif_f hb14 h
   refine c_skip ?_
   refine q_then ?_
   refine c_seq ?_
   refine rg ?_
   refine st (v := (B true)) (rv_assign rfl) ?_
   refine w_end ?_
   refine q_then ?_
   refine c_ret ?_
   obtain rfl := Option.some.inj h
   exact fin_ret (v := (B true)) (results_ok Try.results29 (res_tmp (v := (B true)) rfl res_nil) rfl) ⟨rfl, rfl⟩ (H.sel' [] rfl rfl)

theorem c_laws_eqEntryS {a_0 : List (Int × (Int × (List Int) × Int))} {b_1 : List (Int × (Int × (List Int) × Int))} {aa_0 : Option Addr} {ca_0 : Nat} {ab_1 : Option Addr} {cb_1 : Nat} {r : Bool} (h : M.laws_eqEntryS a_0 b_1 = some r) :
    Cal2 Try.prog 55 [(Sl aa_0 a_0 ca_0), (Sl ab_1 b_1 cb_1)] [Ch.ro 0 (Sl aa_0 a_0 ca_0) a_0, Ch.ro 0 (Sl ab_1 b_1 cb_1) b_1] (fun n0 v L => v = (B r) ∧ L = []) := by
 refine cal2 (n := 27) Try.func55 rfl rfl rfl rfl ?_
 intro S0 σ0 n0 hn0 H
 unfold M.laws_eqEntryS at h
 refine c_seq ?_
 refine rg ?_
 refine st (v := (B false)) (rv_assign rfl) ?_
 refine w_end ?_
 refine q_then ?_
 refine c_seq ?_
 refine c_seq ?_
 refine rg ?_
 refine st (v := (Sl aa_0 a_0 ca_0)) (rv_move rfl) ?_
 refine st (v := (I (a_0.length : Int))) (rv_len Try.underlying23 rfl) ?_
 refine st (v := (Sl ab_1 b_1 cb_1)) (rv_move rfl) ?_
 refine st (v := (I (b_1.length : Int))) (rv_len Try.underlying23 rfl) ?_
 refine st (v := (B ((a_0.length : Int) != (b_1.length : Int)))) (rv_neq (a := (a_0.length : Int)) (b := (b_1.length : Int)) rfl rfl) ?_
 refine w_end ?_
 refine q_then ?_
 refine cd_cond ((a_0.length : Int) != (b_1.length : Int)) rfl (fun hb1 => ?_) (fun hb1 => ?_)
 ·replace h := bif_t hb1 h
  refine c_seq ?_
  refine rg ?_
  refine st (v := (B false)) (rv_assign rfl) ?_
  refine w_end ?_
  refine q_then ?_
  refine c_ret ?_
  refine q_then_r ?_
  obtain rfl := Option.some.inj h
  exact fin_ret (v := (B false)) (results_ok Try.results55 (res_tmp (v := (B false)) rfl res_nil) rfl) ⟨rfl, rfl⟩ (H.sel' [] rfl rfl)
 ·replace h := bif_f hb1 h
  refine c_skip ?_
  refine q_then ?_
  refine c_seq ?_
  refine c_seq ?_
  refine rg ?_
  refine st (v := (I 0)) (rv_assign rfl) ?_
  refine w_end ?_
  refine q_then ?_
  obtain ⟨o2, hj, h'⟩ := bind_some h
  clear h
  refine c_cut (fun e a w => (∃ t, o2 = (.inl t) ∧ e = .normal ∧ ∃ (ρ : Nat → Value) (σ : St), a = fr 27 (updL ρ []) ∧ w = σ.w ∧ Hp S0 σ0 σ []) ∨ (∃ t, o2 = (.inr t) ∧ e = .ret ∧ ∃ (ρ : Nat → Value) (σ : St), a = fr 27 (updL ρ [(4, (B t))]) ∧ w = σ.w ∧ Hp S0 σ0 σ [])) ?_ ?_
  ·clear h'
   rename _ = some o2 => h
   refine c_blk ?_
   refine wp_loopM _ h (fun s3 a w => ∃ (ρ : Nat → Value) (σ : St), a = fr 27 (updL ρ [(0, (Sl aa_0 a_0 ca_0)), (1, (Sl ab_1 b_1 cb_1)), (5, (I s3))]) ∧ w = σ.w ∧ Hp S0 σ0 σ [Ch.ro 0 (Sl aa_0 a_0 ca_0) a_0, Ch.ro 0 (Sl ab_1 b_1 cb_1) b_1]) ⟨_, σ0, fr_join ⟨rfl, rfl, rfl, trivial⟩, rfl, H.sel' [0, 1] rfl rfl⟩ ?_
   clear h H
   rintro s3 a w o ⟨ρ, σ4, rfl, rfl, H⟩ h hres
   refine c_seq ?_
   refine c_seq ?_
   refine rg ?_
   refine st (v := (I s3)) (rv_move rfl) ?_
   refine st (v := (Sl aa_0 a_0 ca_0)) (rv_move rfl) ?_
   refine st (v := (I (a_0.length : Int))) (rv_len Try.underlying23 rfl) ?_
   refine st (v := (B (decide (s3 < (a_0.length : Int))))) (rv_lss (a := s3) (b := (a_0.length : Int)) rfl rfl) ?_
   refine w_end ?_
   refine q_then ?_
   refine cd_cond (decide (s3 < (a_0.length : Int))) rfl (fun hb5 => ?_) (fun hb5 => ?_)
   ·replace h := bif_t hb5 h
    refine c_skip ?_
    refine q_then ?_
    refine c_seq ?_
    refine c_blk ?_
    refine c_seq ?_
    refine rgP (σ := σ4) 8 (by kernel_rfl) (by kernel_rfl) (by kernel_rfl) ?_
    refine sq (v := (Sl aa_0 a_0 ca_0)) (rv_move rfl) ?_
    refine sq (v := (I s3)) (rv_move rfl) ?_
    obtain ⟨x6, hx7, h'⟩ := bind_some h
    clear h
    have h := h'; clear h'
    obtain ⟨b9, o10, hi8, -⟩ := (H.ro 0 rfl).ix hx7
    refine sq (v := (pt b9 o10)) (rv_ix Try.underlying23 ti56 rfl rfl hi8) ?_
    obtain ⟨_, ⟨_, _, rfl, rfl, ⟨_, _, rfl, rfl, ⟨_, _, rfl, ⟨_, rfl, hR15⟩, rfl⟩⟩⟩, hl11, hc12⟩ := ((H.ro 0 rfl).at hx7 hi8).cells
    obtain ⟨a13, c14, rfl⟩ := hR15.isSl
    replace H := H.add (d := Ch.ro 0 (Sl a13 x6.2.2.1 c14) x6.2.2.1) hR15 (fun _ h => h)
    clear hR15
    refine sq (v := (.agg #[(I x6.1), (I x6.2.1), (Sl a13 x6.2.2.1 c14), (I x6.2.2.2)])) (rv_load Try.underlying56 rfl ti56 rfl hl11 hc12) ?_
    refine sq (v := (Sl ab_1 b_1 cb_1)) (rv_move rfl) ?_
    refine sq (v := (I s3)) (rv_move rfl) ?_
    obtain ⟨x16, hx17, h'⟩ := bind_some h
    clear h
    have h := h'; clear h'
    obtain ⟨b19, o20, hi18, -⟩ := (H.ro 2 rfl).ix hx17
    refine sq (v := (pt b19 o20)) (rv_ix Try.underlying23 ti56 rfl rfl hi18) ?_
    obtain ⟨_, ⟨_, _, rfl, rfl, ⟨_, _, rfl, rfl, ⟨_, _, rfl, ⟨_, rfl, hR25⟩, rfl⟩⟩⟩, hl21, hc22⟩ := ((H.ro 2 rfl).at hx17 hi18).cells
    obtain ⟨a23, c24, rfl⟩ := hR25.isSl
    replace H := H.add (d := Ch.ro 0 (Sl a23 x16.2.2.1 c24) x16.2.2.1) hR25 (fun _ h => h)
    clear hR25
    refine sq (v := (.agg #[(I x16.1), (I x16.2.1), (Sl a23 x16.2.2.1 c24), (I x16.2.2.2)])) (rv_load Try.underlying56 rfl ti56 rfl hl21 hc22) ?_
    refine sq_end ?_
    intro σ26 hm27
    replace H := H.grow (hm27.mono fun _ h => h); clear hm27
    obtain ⟨r28, hx29, h'⟩ := bind_some h
    clear h
    have h := h'; clear h'
    have hc30 := c_laws_eqEntry (aa_0_1_1 := a13) (ca_0_1_1 := c14) (ab_1_1_1 := a23) (cb_1_1_1 := c24) hx29
    refine st_call (cx_call hc30 (ent_f hc30.fn rfl) hn0 (show Hp S0 σ0 _ ([Ch.ro 0 (Sl a13 x6.2.2.1 c14) x6.2.2.1, Ch.ro 0 (Sl a23 x16.2.2.1 c24) x16.2.2.1] ++ [Ch.ro 0 (Sl a23 x16.2.2.1 c24) x16.2.2.1, Ch.ro 0 (Sl a13 x6.2.2.1 c14) x6.2.2.1, Ch.ro 0 (Sl aa_0 a_0 ca_0) a_0, Ch.ro 0 (Sl ab_1 b_1 cb_1) b_1]) from (H.sel' [1, 0, 0, 1, 2, 3] rfl rfl))) wn ?_
    rintro _ σ31 ⟨_, ⟨rfl, rfl⟩, H, -⟩
    replace H : Hp S0 σ0 σ31 [Ch.ro 0 (Sl a23 x16.2.2.1 c24) x16.2.2.1, Ch.ro 0 (Sl a13 x6.2.2.1 c14) x6.2.2.1, Ch.ro 0 (Sl aa_0 a_0 ca_0) a_0, Ch.ro 0 (Sl ab_1 b_1 cb_1) b_1] := H
    refine st (v := (B (!r28))) (rv_not rfl) ?_
    refine w_end ?_
    refine q_then ?_
    refine cd_cond (!r28) rfl (fun hb32 => ?_) (fun hb32 => ?_)
    ·replace h := bif_t hb32 h
     refine c_seq ?_
     refine rg ?_
     refine st (v := (B false)) (rv_assign rfl) ?_
     refine w_end ?_
     refine q_then ?_
     refine c_ret ?_
     refine q_blk_r ?_
     refine q_then_r ?_
     refine q_then_r ?_
     refine q_blk_r ?_
     obtain rfl := Option.some.inj h
     obtain rfl := hres _ rfl
     exact .inr (⟨_, rfl, rfl, _, σ31, fr_join ⟨rfl, trivial⟩, rfl, H.sel' [] rfl rfl⟩)
    ·replace h := bif_f hb32 h
     refine c_skip ?_
     refine q_blk ?_
     refine q_then ?_
     refine rg ?_
     refine st (v := (I s3)) (rv_move rfl) ?_
     refine st (v := (I (w64 (s3 + 1)))) (rv_add (a := s3) (b := 1) rfl rfl) ?_
     refine st (v := (I (w64 (s3 + 1)))) (rv_assign rfl) ?_
     refine w_end ?_
     refine q_then ?_
     obtain rfl := Option.some.inj h
     exact ⟨_, rfl, _, σ31, fr_join ⟨rfl, rfl, rfl, trivial⟩, rfl, H.sel' [2, 3] rfl rfl⟩
   ·replace h := bif_f hb5 h
    refine c_exit ?_
    refine q_then_x ?_
    refine q_then_x ?_
    refine q_blk_hit ?_
    obtain rfl := Option.some.inj h
    obtain rfl := hres _ rfl
    exact .inl ⟨_, rfl, rfl, _, σ4, fr_join trivial, rfl, H.sel' [] rfl rfl⟩
  ·clear hj
   have h := h'
   clear h' H
   rintro e a w (⟨t33, rfl, rfl, ρ, σ34, rfl, rfl, H⟩ | ⟨t35, rfl, rfl, ρ, σ36, rfl, rfl, H⟩)
   ·replace h := selim_l h
    refine q_then ?_
    refine c_seq ?_
    refine rg ?_
    refine st (v := (B true)) (rv_assign rfl) ?_
    refine w_end ?_
    refine q_then ?_
    refine c_ret ?_
    obtain rfl := Option.some.inj h
    exact fin_ret (v := (B true)) (results_ok Try.results55 (res_tmp (v := (B true)) rfl res_nil) rfl) ⟨rfl, rfl⟩ (H.sel' [] rfl rfl)
   ·replace h := selim_r h
    refine q_then_r ?_
    obtain rfl := Option.some.inj h
    exact fin_ret (v := (B t35)) (results_ok Try.results55 (res_tmp (v := (B t35)) rfl res_nil) rfl) ⟨rfl, rfl⟩ (H.sel' [] rfl rfl)

theorem c_laws_eqHistory {a_0 : (List (Int × (Int × (List Int) × Int))) × (List Int)} {b_1 : (List (Int × (Int × (List Int) × Int))) × (List Int)} {aa_0_0 : Option Addr} {ca_0_0 : Nat} {aa_0_1 : Option Addr} {ca_0_1 : Nat} {ab_1_0 : Option Addr} {cb_1_0 : Nat} {ab_1_1 : Option Addr} {cb_1_1 : Nat} {r : Bool} (h : M.laws_eqHistory a_0 b_1 = some r) :
    Cal2 Try.prog 19 [(.agg #[(Sl aa_0_0 a_0.1 ca_0_0), (Sl aa_0_1 a_0.2 ca_0_1)]), (.agg #[(Sl ab_1_0 b_1.1 cb_1_0), (Sl ab_1_1 b_1.2 cb_1_1)])] [Ch.ro 0 (Sl aa_0_0 a_0.1 ca_0_0) a_0.1, Ch.ro 0 (Sl aa_0_1 a_0.2 ca_0_1) a_0.2, Ch.ro 0 (Sl ab_1_0 b_1.1 cb_1_0) b_1.1, Ch.ro 0 (Sl ab_1_1 b_1.2 cb_1_1) b_1.2] (fun n0 v L => v = (B r) ∧ L = []) := by
 refine cal2 (n := 17) Try.func19 rfl rfl rfl rfl ?_
 intro S0 σ0 n0 hn0 H
 unfold M.laws_eqHistory at h
 refine c_seq ?_
 refine rg ?_
 refine st_ex (ex_box (cs := [(Sl aa_0_0 a_0.1 ca_0_0), (Sl aa_0_1 a_0.2 ca_0_1)]) H hn0 rfl rfl) wn ?_
 rintro _ σ2 ⟨b1, rfl, H, -⟩
 refine st_ex (ex_box (cs := [(Sl ab_1_0 b_1.1 cb_1_0), (Sl ab_1_1 b_1.2 cb_1_1)]) H hn0 rfl rfl) wn ?_
 rintro _ σ4 ⟨b3, rfl, H, -⟩
 refine st (v := (B false)) (rv_assign rfl) ?_
 refine w_end ?_
 refine q_then ?_
 refine c_seq ?_
 refine c_seq ?_
 refine rg ?_
 refine st (v := (pt b1 0)) (rv_fieldAddr (off := 0) (ft := 23) Try.underlying26 rfl ti23 rfl rfl) ?_
 have hc5 := H.cell (u := (Sl aa_0_0 a_0.1 ca_0_0)) (o' := 0) 1 0 rfl rfl rfl
 refine st (v := (Sl aa_0_0 a_0.1 ca_0_0)) (rv_load1 Try.underlying23 rfl rfl hc5) ?_
 refine st (v := (pt b3 0)) (rv_fieldAddr (off := 0) (ft := 23) Try.underlying26 rfl ti23 rfl rfl) ?_
 have hc6 := H.cell (u := (Sl ab_1_0 b_1.1 cb_1_0)) (o' := 0) 0 0 rfl rfl rfl
 refine st (v := (Sl ab_1_0 b_1.1 cb_1_0)) (rv_load1 Try.underlying23 rfl rfl hc6) ?_
 obtain ⟨r7, hx8, h'⟩ := bind_some h
 clear h
 have h := h'; clear h'
 have hc9 := c_laws_eqEntryS (aa_0 := aa_0_0) (ca_0 := ca_0_0) (ab_1 := ab_1_0) (cb_1 := cb_1_0) hx8
 refine st_call (cx_call hc9 (ent_f hc9.fn rfl) hn0 (show Hp S0 σ0 _ ([Ch.ro 0 (Sl aa_0_0 a_0.1 ca_0_0) a_0.1, Ch.ro 0 (Sl ab_1_0 b_1.1 cb_1_0) b_1.1] ++ [Ch.bx n0 b3 0 [(Sl ab_1_0 b_1.1 cb_1_0), (Sl ab_1_1 b_1.2 cb_1_1)] [] [], Ch.bx n0 b1 0 [(Sl aa_0_0 a_0.1 ca_0_0), (Sl aa_0_1 a_0.2 ca_0_1)] [] [], Ch.ro 0 (Sl aa_0_0 a_0.1 ca_0_0) a_0.1, Ch.ro 0 (Sl aa_0_1 a_0.2 ca_0_1) a_0.2, Ch.ro 0 (Sl ab_1_0 b_1.1 cb_1_0) b_1.1, Ch.ro 0 (Sl ab_1_1 b_1.2 cb_1_1) b_1.2]) from (H.sel' [2, 4, 0, 1, 2, 3, 4, 5] rfl rfl))) wn ?_
 rintro _ σ10 ⟨_, ⟨rfl, rfl⟩, H, -⟩
 replace H : Hp S0 σ0 σ10 [Ch.bx n0 b3 0 [(Sl ab_1_0 b_1.1 cb_1_0), (Sl ab_1_1 b_1.2 cb_1_1)] [] [], Ch.bx n0 b1 0 [(Sl aa_0_0 a_0.1 ca_0_0), (Sl aa_0_1 a_0.2 ca_0_1)] [] [], Ch.ro 0 (Sl aa_0_0 a_0.1 ca_0_0) a_0.1, Ch.ro 0 (Sl aa_0_1 a_0.2 ca_0_1) a_0.2, Ch.ro 0 (Sl ab_1_0 b_1.1 cb_1_0) b_1.1, Ch.ro 0 (Sl ab_1_1 b_1.2 cb_1_1) b_1.2] := H
 refine st (v := (B (!r7))) (rv_not rfl) ?_
 refine w_end ?_
 refine q_then ?_
 refine cd_cond (!r7) rfl (fun hb11 => ?_) (fun hb11 => ?_)
 ·replace h := bif_t hb11 h
  refine c_seq ?_
  refine rg ?_
  refine st (v := (B false)) (rv_assign rfl) ?_
  refine w_end ?_
  refine q_then ?_
  refine c_ret ?_
  refine q_then_r ?_
  obtain rfl := Option.some.inj h
  exact fin_ret (v := (B false)) (results_ok Try.results19 (res_tmp (v := (B false)) rfl res_nil) rfl) ⟨rfl, rfl⟩ (H.sel' [] rfl rfl)
 ·replace h := bif_f hb11 h
  refine c_skip ?_
  refine q_then ?_
  refine c_seq ?_
  refine c_seq ?_
  refine rg ?_
  refine st (v := (pt b1 1)) (rv_fieldAddr (off := 1) (ft := 24) Try.underlying26 rfl ti24 rfl rfl) ?_
  have hc12 := H.cell (u := (Sl aa_0_1 a_0.2 ca_0_1)) (o' := 1) 1 1 rfl rfl rfl
  refine st (v := (Sl aa_0_1 a_0.2 ca_0_1)) (rv_load1 Try.underlying24 rfl rfl hc12) ?_
  refine st (v := (pt b3 1)) (rv_fieldAddr (off := 1) (ft := 24) Try.underlying26 rfl ti24 rfl rfl) ?_
  have hc13 := H.cell (u := (Sl ab_1_1 b_1.2 cb_1_1)) (o' := 1) 0 1 rfl rfl rfl
  refine st (v := (Sl ab_1_1 b_1.2 cb_1_1)) (rv_load1 Try.underlying24 rfl rfl hc13) ?_
  obtain ⟨r14, hx15, h'⟩ := bind_some h
  clear h
  have h := h'; clear h'
  have hc16 := c_laws_eqIntS (aa_0 := aa_0_1) (ca_0 := ca_0_1) (ab_1 := ab_1_1) (cb_1 := cb_1_1) hx15
  refine st_call (cx_call hc16 (ent_f hc16.fn rfl) hn0 (show Hp S0 σ0 _ ([Ch.ro 0 (Sl aa_0_1 a_0.2 ca_0_1) a_0.2, Ch.ro 0 (Sl ab_1_1 b_1.2 cb_1_1) b_1.2] ++ [Ch.bx n0 b3 0 [(Sl ab_1_0 b_1.1 cb_1_0), (Sl ab_1_1 b_1.2 cb_1_1)] [] [], Ch.bx n0 b1 0 [(Sl aa_0_0 a_0.1 ca_0_0), (Sl aa_0_1 a_0.2 ca_0_1)] [] [], Ch.ro 0 (Sl aa_0_0 a_0.1 ca_0_0) a_0.1, Ch.ro 0 (Sl aa_0_1 a_0.2 ca_0_1) a_0.2, Ch.ro 0 (Sl ab_1_0 b_1.1 cb_1_0) b_1.1, Ch.ro 0 (Sl ab_1_1 b_1.2 cb_1_1) b_1.2]) from (H.sel' [3, 5, 0, 1, 2, 3, 4, 5] rfl rfl))) wn ?_
  rintro _ σ17 ⟨_, ⟨rfl, rfl⟩, H, -⟩
  replace H : Hp S0 σ0 σ17 [Ch.bx n0 b3 0 [(Sl ab_1_0 b_1.1 cb_1_0), (Sl ab_1_1 b_1.2 cb_1_1)] [] [], Ch.bx n0 b1 0 [(Sl aa_0_0 a_0.1 ca_0_0), (Sl aa_0_1 a_0.2 ca_0_1)] [] [], Ch.ro 0 (Sl aa_0_0 a_0.1 ca_0_0) a_0.1, Ch.ro 0 (Sl aa_0_1 a_0.2 ca_0_1) a_0.2, Ch.ro 0 (Sl ab_1_0 b_1.1 cb_1_0) b_1.1, Ch.ro 0 (Sl ab_1_1 b_1.2 cb_1_1) b_1.2] := H
  refine st (v := (B (!r14))) (rv_not rfl) ?_
  refine w_end ?_
  refine q_then ?_
  refine cd_cond (!r14) rfl (fun hb18 => ?_) (fun hb18 => ?_)
  ·replace h := bif_t hb18 h
   refine c_seq ?_
   refine rg ?_
   refine st (v := (B false)) (rv_assign rfl) ?_
   refine w_end ?_
   refine q_then ?_
   refine c_ret ?_
   refine q_then_r ?_
   obtain rfl := Option.some.inj h
   exact fin_ret (v := (B false)) (results_ok Try.results19 (res_tmp (v := (B false)) rfl res_nil) rfl) ⟨rfl, rfl⟩ (H.sel' [] rfl rfl)
  ·replace h := bif_f hb18 h
   refine c_skip ?_
   refine q_then ?_
   refine c_seq ?_
   refine rg ?_
   refine st (v := (B true)) (rv_assign rfl) ?_
   refine w_end ?_
   refine q_then ?_
   refine c_ret ?_
   obtain rfl := Option.some.inj h
   exact fin_ret (v := (B true)) (results_ok Try.results19 (res_tmp (v := (B true)) rfl res_nil) rfl) ⟨rfl, rfl⟩ (H.sel' [] rfl rfl)

theorem c_laws_FnExactValidHistory {aH_0 : (List (Int × (Int × (List Int) × Int))) × (List Int)} {aaH_0_0 : Option Addr} {caH_0_0 : Nat} {aaH_0_1 : Option Addr} {caH_0_1 : Nat} {r : Bool} (h : M.laws_FnExactValidHistory aH_0 = some r) :
    Cal2 Try.prog 4 [(.agg #[(Sl aaH_0_0 aH_0.1 caH_0_0), (Sl aaH_0_1 aH_0.2 caH_0_1)])] [Ch.ro 0 (Sl aaH_0_0 aH_0.1 caH_0_0) aH_0.1, Ch.ro 0 (Sl aaH_0_1 aH_0.2 caH_0_1) aH_0.2] (fun n0 v L => v = (B r) ∧ L = []) := by
 refine cal2 (n := 27) Try.func4 rfl rfl rfl rfl ?_
 intro S0 σ0 n0 hn0 H
 unfold M.laws_FnExactValidHistory at h
 refine c_seq ?_
 refine rg ?_
 refine st_ex (ex_box (cs := [(Sl aaH_0_0 aH_0.1 caH_0_0), (Sl aaH_0_1 aH_0.2 caH_0_1)]) H hn0 rfl rfl) wn ?_
 rintro _ σ2 ⟨b1, rfl, H, -⟩
 refine st (v := (B false)) (rv_assign rfl) ?_
 refine w_end ?_
 refine q_then ?_
 refine c_seq ?_
 refine rg ?_
 refine st (v := (I 1048576)) (rv_assign rfl) ?_
 refine w_end ?_
 refine q_then ?_
 refine c_seq ?_
 refine rg ?_
 have hc3 := H.cells 0 rfl
 refine st (v := (.agg #[(Sl aaH_0_0 aH_0.1 caH_0_0), (Sl aaH_0_1 aH_0.2 caH_0_1)])) (rv_load (cs := [(Sl aaH_0_0 aH_0.1 caH_0_0), (Sl aaH_0_1 aH_0.2 caH_0_1)]) Try.underlying40 rfl ti40 rfl rfl hc3) ?_
 refine st (v := (I 1048576)) (rv_move rfl) ?_
 obtain ⟨r4, hx5, h'⟩ := bind_some h
 clear h
 have h := h'; clear h'
 have hc6 := c_laws_szHistory (aa_0_0 := aaH_0_0) (ca_0_0 := caH_0_0) (aa_0_1 := aaH_0_1) (ca_0_1 := caH_0_1) hx5
 refine st_call (cx_call hc6 (ent_f hc6.fn rfl) hn0 (show Hp S0 σ0 _ ([Ch.ro 0 (Sl aaH_0_0 aH_0.1 caH_0_0) aH_0.1, Ch.ro 0 (Sl aaH_0_1 aH_0.2 caH_0_1) aH_0.2] ++ [Ch.bx n0 b1 0 [(Sl aaH_0_0 aH_0.1 caH_0_0), (Sl aaH_0_1 aH_0.2 caH_0_1)] [] [], Ch.ro 0 (Sl aaH_0_0 aH_0.1 caH_0_0) aH_0.1, Ch.ro 0 (Sl aaH_0_1 aH_0.2 caH_0_1) aH_0.2]) from (H.sel' [1, 2, 0, 1, 2] rfl rfl))) wn ?_
 rintro _ σ7 ⟨_, ⟨rfl, rfl⟩, H, -⟩
 replace H : Hp S0 σ0 σ7 [Ch.bx n0 b1 0 [(Sl aaH_0_0 aH_0.1 caH_0_0), (Sl aaH_0_1 aH_0.2 caH_0_1)] [] [], Ch.ro 0 (Sl aaH_0_0 aH_0.1 caH_0_0) aH_0.1, Ch.ro 0 (Sl aaH_0_1 aH_0.2 caH_0_1) aH_0.2] := H
 refine st (v := (I r4)) (rv_assign rfl) ?_
 refine w_end ?_
 refine q_then ?_
 refine c_seq ?_
 refine c_seq ?_
 refine rg ?_
 refine st (v := (I r4)) (rv_move rfl) ?_
 refine st (v := (B (decide (r4 < 0)))) (rv_lss (a := r4) (b := 0) rfl rfl) ?_
 refine w_end ?_
 refine q_then ?_
 refine cd_cond (decide (r4 < 0)) rfl (fun hb8 => ?_) (fun hb8 => ?_)
 ·replace h := bif_t hb8 h
  refine c_seq ?_
  refine rg ?_
  refine st (v := (B true)) (rv_assign rfl) ?_
  refine w_end ?_
  refine q_then ?_
  refine c_ret ?_
  refine q_then_r ?_
  obtain rfl := Option.some.inj h
  exact fin_ret (v := (B true)) (results_ok Try.results4 (res_tmp (v := (B true)) rfl res_nil) rfl) ⟨rfl, rfl⟩ (H.sel' [] rfl rfl)
 ·replace h := bif_f hb8 h
  refine c_skip ?_
  refine q_then ?_
  refine c_seq ?_
  refine rg ?_
  have hc9 := H.cells 0 rfl
  refine st (v := (.agg #[(Sl aaH_0_0 aH_0.1 caH_0_0), (Sl aaH_0_1 aH_0.2 caH_0_1)])) (rv_load (cs := [(Sl aaH_0_0 aH_0.1 caH_0_0), (Sl aaH_0_1 aH_0.2 caH_0_1)]) Try.underlying40 rfl ti40 rfl rfl hc9) ?_
  obtain ⟨r10, hx11, h'⟩ := bind_some h
  clear h
  have h := h'; clear h'
  have hc12 := c_laws_toHistory (aa_0_0 := aaH_0_0) (ca_0_0 := caH_0_0) (aa_0_1 := aaH_0_1) (ca_0_1 := caH_0_1) hx11
  refine st_call (cx_call hc12 (ent_f hc12.fn rfl) hn0 (show Hp S0 σ0 _ ([Ch.ro 0 (Sl aaH_0_0 aH_0.1 caH_0_0) aH_0.1, Ch.ro 0 (Sl aaH_0_1 aH_0.2 caH_0_1) aH_0.2] ++ [Ch.bx n0 b1 0 [(Sl aaH_0_0 aH_0.1 caH_0_0), (Sl aaH_0_1 aH_0.2 caH_0_1)] [] [], Ch.ro 0 (Sl aaH_0_0 aH_0.1 caH_0_0) aH_0.1, Ch.ro 0 (Sl aaH_0_1 aH_0.2 caH_0_1) aH_0.2]) from (H.sel' [1, 2, 0, 1, 2] rfl rfl))) wn ?_
  rintro _ σ19 ⟨_, ⟨a13, c14, a16, c17, rfl, rfl, ht15, ht18⟩, H, -⟩
  replace H : Hp S0 σ0 σ19 [Ch.own n0 n0 (Sl a13 r10.1 c14) r10.1, Ch.own n0 n0 (Sl a16 r10.2 c17) r10.2, Ch.bx n0 b1 0 [(Sl aaH_0_0 aH_0.1 caH_0_0), (Sl aaH_0_1 aH_0.2 caH_0_1)] [] [], Ch.ro 0 (Sl aaH_0_0 aH_0.1 caH_0_0) aH_0.1, Ch.ro 0 (Sl aaH_0_1 aH_0.2 caH_0_1) aH_0.2] := H
  obtain ⟨σ20, hw21, H, -⟩ := H.pub 0 rfl (Nat.le_refl _)
  rw [← hw21]; clear hw21
  obtain ⟨σ22, hw23, H, -⟩ := H.pub 1 rfl (Nat.le_refl _)
  rw [← hw23]; clear hw23
  replace H := H.roLow 1 0 rfl (Nat.zero_le _)
  replace H := H.roLow 1 0 rfl (Nat.zero_le _)
  obtain ⟨r24, hx25, h'⟩ := bind_some h
  clear h
  have h := h'; clear h'
  have hc26 := c_spec_ValidHistory (ah_0_0 := a13) (ch_0_0 := c14) (ah_0_1 := a16) (ch_0_1 := c17) hx25
  refine st_call (cx_call hc26 (ent_f hc26.fn rfl) hn0 (show Hp S0 σ0 _ ([Ch.ro 0 (Sl a13 r10.1 c14) r10.1, Ch.ro 0 (Sl a16 r10.2 c17) r10.2] ++ [Ch.ro 0 (Sl a16 r10.2 c17) r10.2, Ch.ro 0 (Sl a13 r10.1 c14) r10.1, Ch.ro n0 (Sl a16 r10.2 c17) r10.2, Ch.ro n0 (Sl a13 r10.1 c14) r10.1, Ch.bx n0 b1 0 [(Sl aaH_0_0 aH_0.1 caH_0_0), (Sl aaH_0_1 aH_0.2 caH_0_1)] [] [], Ch.ro 0 (Sl aaH_0_0 aH_0.1 caH_0_0) aH_0.1, Ch.ro 0 (Sl aaH_0_1 aH_0.2 caH_0_1) aH_0.2]) from (H.sel' [1, 0, 0, 1, 2, 3, 4, 5, 6] rfl rfl))) wn ?_
  rintro _ σ27 ⟨_, ⟨rfl, rfl⟩, H, -⟩
  replace H : Hp S0 σ0 σ27 [Ch.ro 0 (Sl a16 r10.2 c17) r10.2, Ch.ro 0 (Sl a13 r10.1 c14) r10.1, Ch.ro n0 (Sl a16 r10.2 c17) r10.2, Ch.ro n0 (Sl a13 r10.1 c14) r10.1, Ch.bx n0 b1 0 [(Sl aaH_0_0 aH_0.1 caH_0_0), (Sl aaH_0_1 aH_0.2 caH_0_1)] [] [], Ch.ro 0 (Sl aaH_0_0 aH_0.1 caH_0_0) aH_0.1, Ch.ro 0 (Sl aaH_0_1 aH_0.2 caH_0_1) aH_0.2] := H
  refine st (v := (B r24)) (rv_assign rfl) ?_
  refine w_end ?_
  refine q_then ?_
  refine c_seq ?_
  refine rg ?_
  have hc28 := H.cells 4 rfl
  refine st (v := (.agg #[(Sl aaH_0_0 aH_0.1 caH_0_0), (Sl aaH_0_1 aH_0.2 caH_0_1)])) (rv_load (cs := [(Sl aaH_0_0 aH_0.1 caH_0_0), (Sl aaH_0_1 aH_0.2 caH_0_1)]) Try.underlying40 rfl ti40 rfl rfl hc28) ?_
  obtain ⟨r29, hx30, h'⟩ := bind_some h
  clear h
  have h := h'; clear h'
  have hc31 := c_laws_toHistory (aa_0_0 := aaH_0_0) (ca_0_0 := caH_0_0) (aa_0_1 := aaH_0_1) (ca_0_1 := caH_0_1) hx30
  refine st_call (cx_call hc31 (ent_f hc31.fn rfl) hn0 (show Hp S0 σ0 _ ([Ch.ro 0 (Sl aaH_0_0 aH_0.1 caH_0_0) aH_0.1, Ch.ro 0 (Sl aaH_0_1 aH_0.2 caH_0_1) aH_0.2] ++ [Ch.ro 0 (Sl a16 r10.2 c17) r10.2, Ch.ro 0 (Sl a13 r10.1 c14) r10.1, Ch.ro n0 (Sl a16 r10.2 c17) r10.2, Ch.ro n0 (Sl a13 r10.1 c14) r10.1, Ch.bx n0 b1 0 [(Sl aaH_0_0 aH_0.1 caH_0_0), (Sl aaH_0_1 aH_0.2 caH_0_1)] [] [], Ch.ro 0 (Sl aaH_0_0 aH_0.1 caH_0_0) aH_0.1, Ch.ro 0 (Sl aaH_0_1 aH_0.2 caH_0_1) aH_0.2]) from (H.sel' [5, 6, 0, 1, 2, 3, 4, 5, 6] rfl rfl))) wn ?_
  rintro _ σ38 ⟨_, ⟨a32, c33, a35, c36, rfl, rfl, ht34, ht37⟩, H, -⟩
  replace H : Hp S0 σ0 σ38 [Ch.own n0 n0 (Sl a32 r29.1 c33) r29.1, Ch.own n0 n0 (Sl a35 r29.2 c36) r29.2, Ch.ro 0 (Sl a16 r10.2 c17) r10.2, Ch.ro 0 (Sl a13 r10.1 c14) r10.1, Ch.ro n0 (Sl a16 r10.2 c17) r10.2, Ch.ro n0 (Sl a13 r10.1 c14) r10.1, Ch.bx n0 b1 0 [(Sl aaH_0_0 aH_0.1 caH_0_0), (Sl aaH_0_1 aH_0.2 caH_0_1)] [] [], Ch.ro 0 (Sl aaH_0_0 aH_0.1 caH_0_0) aH_0.1, Ch.ro 0 (Sl aaH_0_1 aH_0.2 caH_0_1) aH_0.2] := H
  replace H : Hp S0 σ0 σ38 [Ch.own n0 n0 (Sl a32 r29.1 c33) r29.1, Ch.own n0 n0 (Sl a35 r29.2 c36) r29.2, Ch.bx n0 b1 0 [(Sl aaH_0_0 aH_0.1 caH_0_0), (Sl aaH_0_1 aH_0.2 caH_0_1)] [] [], Ch.ro 0 (Sl aaH_0_0 aH_0.1 caH_0_0) aH_0.1, Ch.ro 0 (Sl aaH_0_1 aH_0.2 caH_0_1) aH_0.2] := H.sel' [0, 1, 6, 7, 8] rfl rfl
  refine st_ex (ex_alloc (cs := [(.slice none 0 0), (.slice none 0 0)]) H hn0 ti26 rfl) wn ?_
  rintro _ σ40 ⟨b39, rfl, H, -⟩
  refine st_exS (ex_store_box (k := 0) (cs := [(.slice none 0 0), (.slice none 0 0)]) (vs := [(Sl a32 r29.1 c33), (Sl a35 r29.2 c36)]) (cs' := [(Sl a32 r29.1 c33), (Sl a35 r29.2 c36)]) H (i := 0) rfl ti26 rfl rfl rfl rfl rfl (Nat.le_of_ble_eq_true rfl) (by simp [plain]) rfl) wn ?_
  rintro σ41 ⟨H, -⟩
  refine w_end ?_
  refine q_then ?_
  refine c_seq ?_
  refine rg ?_
  have hc42 := H.cells 0 rfl
  refine st (v := (.agg #[(Sl a32 r29.1 c33), (Sl a35 r29.2 c36)])) (rv_load (cs := [(Sl a32 r29.1 c33), (Sl a35 r29.2 c36)]) Try.underlying26 rfl ti26 rfl rfl hc42) ?_
  obtain ⟨r43, hx44, h'⟩ := bind_some h
  clear h
  have h := h'; clear h'
  have hc45 := c_impl_ValidHistory (ah_0_0 := a32) (ch_0_0 := c33) (ah_0_1 := a35) (ch_0_1 := c36) hx44
  have hle := Nat.le_trans hn0 H.size
  refine st_call (cx_lend (Loan.lend (Loan.lend Loan.nil)) hc45 (ent_f hc45.fn rfl) (show Hp S0 σ0 _ ([Ch.own n0 n0 (Sl a32 r29.1 c33) r29.1, Ch.own n0 n0 (Sl a35 r29.2 c36) r29.2] ++ ([] ++ [Ch.bx n0 b39 0 [(Sl a32 r29.1 c33), (Sl a35 r29.2 c36)] [] [], Ch.bx n0 b1 0 [(Sl aaH_0_0 aH_0.1 caH_0_0), (Sl aaH_0_1 aH_0.2 caH_0_1)] [] [], Ch.ro 0 (Sl aaH_0_0 aH_0.1 caH_0_0) aH_0.1, Ch.ro 0 (Sl aaH_0_1 aH_0.2 caH_0_1) aH_0.2])) from (H.sel' [1, 2, 0, 3, 4, 5] rfl rfl)) (by rintro _ _ _ ⟨rfl, rfl⟩; exact trivial)) wn ?_
  rintro _ σ46 ⟨_, ⟨rfl, rfl⟩, H, -, -⟩
  replace H : Hp S0 σ0 σ46 [Ch.own n0 n0 (Sl a32 r29.1 c33) r29.1, Ch.own n0 n0 (Sl a35 r29.2 c36) r29.2, Ch.bx n0 b39 0 [(Sl a32 r29.1 c33), (Sl a35 r29.2 c36)] [] [], Ch.bx n0 b1 0 [(Sl aaH_0_0 aH_0.1 caH_0_0), (Sl aaH_0_1 aH_0.2 caH_0_1)] [] [], Ch.ro 0 (Sl aaH_0_0 aH_0.1 caH_0_0) aH_0.1, Ch.ro 0 (Sl aaH_0_1 aH_0.2 caH_0_1) aH_0.2] := H
  clear hle
  replace H : Hp S0 σ0 σ46 [Ch.own n0 n0 (Sl a32 r29.1 c33) r29.1, Ch.own n0 n0 (Sl a35 r29.2 c36) r29.2, Ch.bx n0 b39 0 [(Sl a32 r29.1 c33), (Sl a35 r29.2 c36)] [] [], Ch.bx n0 b1 0 [(Sl aaH_0_0 aH_0.1 caH_0_0), (Sl aaH_0_1 aH_0.2 caH_0_1)] [] [], Ch.ro 0 (Sl aaH_0_0 aH_0.1 caH_0_0) aH_0.1, Ch.ro 0 (Sl aaH_0_1 aH_0.2 caH_0_1) aH_0.2] := H
  refine st (v := (B r43)) (rv_assign rfl) ?_
  refine w_end ?_
  refine q_then ?_
  refine c_seq ?_
  refine c_seq ?_
  refine rg ?_
  refine st (v := (B r43)) (rv_move rfl) ?_
  refine st (v := (B r24)) (rv_move rfl) ?_
  refine st (v := (B (r43 != r24))) (rv_bneq Try.underlying4 rfl rfl) ?_
  refine w_end ?_
  refine q_then ?_
  refine cd_cond (r43 != r24) rfl (fun hb47 => ?_) (fun hb47 => ?_)
  ·replace h := bif_t hb47 h
   refine c_seq ?_
   refine rg ?_
   refine st (v := (B false)) (rv_assign rfl) ?_
   refine w_end ?_
   refine q_then ?_
   refine c_ret ?_
   refine q_then_r ?_
   obtain rfl := Option.some.inj h
   exact fin_ret (v := (B false)) (results_ok Try.results4 (res_tmp (v := (B false)) rfl res_nil) rfl) ⟨rfl, rfl⟩ (H.sel' [] rfl rfl)
  ·replace h := bif_f hb47 h
   refine c_skip ?_
   refine q_then ?_
   refine c_seq ?_
   refine c_seq ?_
   have hc48 := H.cells 2 rfl
   have hc49 := H.cells 3 rfl
   obtain ⟨r50, hx51, h'⟩ := bind_some h
   clear h
   have h := h'; clear h'
   have hc52 := c_laws_toHistory (aa_0_0 := aaH_0_0) (ca_0_0 := caH_0_0) (aa_0_1 := aaH_0_1) (ca_0_1 := caH_0_1) hx51
   have Hs := H
   refine rg2 (σ := σ46) (Nm := (Option Addr) × (Nat) × (Option Addr) × (Nat)) 3 [2] [[false], [true]] [[(0, 0), (1, 1)], [(0, 0)], [(0, 1)]] 1 [fun ((a53, c54, a56, c57) : (Option Addr) × (Nat) × (Option Addr) × (Nat)) => fun σm => Hp S0 σ0 σm [Ch.own n0 n0 (Sl a32 r29.1 c33) r29.1, Ch.own n0 n0 (Sl a35 r29.2 c36) r29.2, Ch.bx n0 b39 0 [(Sl a32 r29.1 c33), (Sl a35 r29.2 c36)] [] [], Ch.bx n0 b1 0 [(Sl aaH_0_0 aH_0.1 caH_0_0), (Sl aaH_0_1 aH_0.2 caH_0_1)] [] [], Ch.ro 0 (Sl aaH_0_0 aH_0.1 caH_0_0) aH_0.1, Ch.ro 0 (Sl aaH_0_1 aH_0.2 caH_0_1) aH_0.2] ∧ Md (cov []) σ46 σm, fun ((a53, c54, a56, c57) : (Option Addr) × (Nat) × (Option Addr) × (Nat)) => fun σm => Hp S0 σ0 σm [Ch.own n0 n0 (Sl a53 r50.1 c54) r50.1, Ch.own n0 n0 (Sl a56 r50.2 c57) r50.2, Ch.own n0 n0 (Sl a32 r29.1 c33) r29.1, Ch.own n0 n0 (Sl a35 r29.2 c36) r29.2, Ch.bx n0 b39 0 [(Sl a32 r29.1 c33), (Sl a35 r29.2 c36)] [] [], Ch.bx n0 b1 0 [(Sl aaH_0_0 aH_0.1 caH_0_0), (Sl aaH_0_1 aH_0.2 caH_0_1)] [] [], Ch.ro 0 (Sl aaH_0_0 aH_0.1 caH_0_0) aH_0.1, Ch.ro 0 (Sl aaH_0_1 aH_0.2 caH_0_1) aH_0.2] ∧ Md (cov []) σ46 σm ∧ c54 = r50.1.length ∧ c57 = r50.2.length] [fun ((a53, c54, a56, c57) : (Option Addr) × (Nat) × (Option Addr) × (Nat)) => (.agg #[(Sl a32 r29.1 c33), (Sl a35 r29.2 c36)]), fun ((a53, c54, a56, c57) : (Option Addr) × (Nat) × (Option Addr) × (Nat)) => (.agg #[(Sl aaH_0_0 aH_0.1 caH_0_0), (Sl aaH_0_1 aH_0.2 caH_0_1)]), fun ((a53, c54, a56, c57) : (Option Addr) × (Nat) × (Option Addr) × (Nat)) => (.agg #[(Sl a53 r50.1 c54), (Sl a56 r50.2 c57)])] (none, 0, none, 0) (by kernel_rfl) (by kernel_rfl) ?_ ?_ ?_
   ·intro σm m0
    exact ⟨H.grow (m0.mono fun _ h => h.elim), m0⟩
   ·refine all_cons (by
      refine ⟨?_, ?_⟩
      ·rintro ⟨a53, c54, a56, c57⟩ ρ σm hJ hoff hdep
       have e5 := look_off (N := 27) (hoff 5 rfl) rfl
       obtain ⟨H, m⟩ := id hJ
       have hc48 := H.cells 2 rfl
       exact dp_v (v := (.agg #[(Sl a32 r29.1 c33), (Sl a35 r29.2 c36)])) wn (rv_load (cs := [(Sl a32 r29.1 c33), (Sl a35 r29.2 c36)]) Try.underlying26 rfl ti26 e5 rfl hc48) rfl hJ
      refine ⟨?_, ?_⟩
      ·rintro ⟨a53, c54, a56, c57⟩ ρ σm hJ hoff hdep
       have e5 := look_off (N := 27) (hoff 5 rfl) rfl
       obtain ⟨H, m, ht55, ht58⟩ := id hJ
       have hc48 := H.cells 4 rfl
       exact dp_v (v := (.agg #[(Sl a32 r29.1 c33), (Sl a35 r29.2 c36)])) wn (rv_load (cs := [(Sl a32 r29.1 c33), (Sl a35 r29.2 c36)]) Try.underlying26 rfl ti26 e5 rfl hc48) rfl hJ
      trivial) ?_
    refine all_cons (by
      refine ⟨?_, ?_⟩
      ·rintro ⟨a53, c54, a56, c57⟩ ρ σm hJ hoff hdep
       have e1 := look_off (N := 27) (hoff 1 rfl) rfl
       obtain ⟨H, m⟩ := id hJ
       have hc49 := H.cells 3 rfl
       exact dp_v (v := (.agg #[(Sl aaH_0_0 aH_0.1 caH_0_0), (Sl aaH_0_1 aH_0.2 caH_0_1)])) wn (rv_load (cs := [(Sl aaH_0_0 aH_0.1 caH_0_0), (Sl aaH_0_1 aH_0.2 caH_0_1)]) Try.underlying40 rfl ti40 e1 rfl hc49) rfl hJ
      trivial) ?_
    refine all_cons (by
      refine ⟨?_, ?_⟩
      ·rintro ⟨a53, c54, a56, c57⟩ ρ σm hJ hoff hdep
       have e23 : look 27 ρ 23 = (.agg #[(Sl aaH_0_0 aH_0.1 caH_0_0), (Sl aaH_0_1 aH_0.2 caH_0_1)]) := hdep 1 rfl rfl 23 rfl
       obtain ⟨H, m⟩ := id hJ
       refine dp_cx wn (cx_call hc52 (ent_f hc52.fn (by show [look 27 ρ 23] = _; rw [e23])) hn0 (show Hp S0 σ0 _ ([Ch.ro 0 (Sl aaH_0_0 aH_0.1 caH_0_0) aH_0.1, Ch.ro 0 (Sl aaH_0_1 aH_0.2 caH_0_1) aH_0.2] ++ [Ch.own n0 n0 (Sl a32 r29.1 c33) r29.1, Ch.own n0 n0 (Sl a35 r29.2 c36) r29.2, Ch.bx n0 b39 0 [(Sl a32 r29.1 c33), (Sl a35 r29.2 c36)] [] [], Ch.bx n0 b1 0 [(Sl aaH_0_0 aH_0.1 caH_0_0), (Sl aaH_0_1 aH_0.2 caH_0_1)] [] [], Ch.ro 0 (Sl aaH_0_0 aH_0.1 caH_0_0) aH_0.1, Ch.ro 0 (Sl aaH_0_1 aH_0.2 caH_0_1) aH_0.2]) from (H.sel' [4, 5, 0, 1, 2, 3, 4, 5] rfl rfl))) ?_
       rintro _ σq ⟨_, ⟨a53x, c54x, a56x, c57x, rfl, rfl, ht55, ht58⟩, H2, m2⟩
       exact ⟨_, (a53x, c54x, a56x, c57x), rfl, rfl, ⟨H2.sel' [0, 1, 2, 3, 4, 5, 6, 7] rfl rfl, m.comp0 (m2.mono (fun i h => by simp [cov, Ch.ro] at h)), ht55, ht58⟩, stab [0, 1] (by kernel_rfl) ⟨rfl, rfl, trivial⟩⟩
      trivial) ?_
    exact all_nil
   ·rintro ⟨a53, c54, a56, c57⟩ ρ σ59 hJ hoff hrel
    have e22 := hrel 0 rfl 22 rfl
    have e24 := hrel 2 rfl 24 rfl
    obtain ⟨H, -, ht55, ht58⟩ := (show Hp S0 σ0 σ59 [Ch.own n0 n0 (Sl a53 r50.1 c54) r50.1, Ch.own n0 n0 (Sl a56 r50.2 c57) r50.2, Ch.own n0 n0 (Sl a32 r29.1 c33) r29.1, Ch.own n0 n0 (Sl a35 r29.2 c36) r29.2, Ch.bx n0 b39 0 [(Sl a32 r29.1 c33), (Sl a35 r29.2 c36)] [] [], Ch.bx n0 b1 0 [(Sl aaH_0_0 aH_0.1 caH_0_0), (Sl aaH_0_1 aH_0.2 caH_0_1)] [] [], Ch.ro 0 (Sl aaH_0_0 aH_0.1 caH_0_0) aH_0.1, Ch.ro 0 (Sl aaH_0_1 aH_0.2 caH_0_1) aH_0.2] ∧ Md (cov []) σ46 σ59 ∧ c54 = r50.1.length ∧ c57 = r50.2.length from hJ)
    clear hJ Hs
    rw [fr_lookL (L := [(22, (.agg #[(Sl a32 r29.1 c33), (Sl a35 r29.2 c36)])), (24, (.agg #[(Sl a53 r50.1 c54), (Sl a56 r50.2 c57)]))]) ⟨e22, e24, trivial⟩]
    clear hoff hrel e22 e24
    obtain ⟨σ60, hw61, H, -⟩ := H.pub 2 rfl (Nat.le_refl _)
    rw [← hw61]; clear hw61
    obtain ⟨σ62, hw63, H, -⟩ := H.pub 3 rfl (Nat.le_refl _)
    rw [← hw63]; clear hw63
    obtain ⟨σ64, hw65, H, -⟩ := H.pub 2 rfl (Nat.le_refl _)
    rw [← hw65]; clear hw65
    obtain ⟨σ66, hw67, H, -⟩ := H.pub 3 rfl (Nat.le_refl _)
    rw [← hw67]; clear hw67
    replace H := H.roLow 3 0 rfl (Nat.zero_le _)
    replace H := H.roLow 3 0 rfl (Nat.zero_le _)
    replace H := H.roLow 3 0 rfl (Nat.zero_le _)
    replace H := H.roLow 3 0 rfl (Nat.zero_le _)
    obtain ⟨r68, hx69, h'⟩ := bind_some h
    clear h
    have h := h'; clear h'
    have hc70 := c_laws_eqHistory (aa_0_0 := a32) (ca_0_0 := c33) (aa_0_1 := a35) (ca_0_1 := c36) (ab_1_0 := a53) (cb_1_0 := c54) (ab_1_1 := a56) (cb_1_1 := c57) hx69
    refine st_call (cx_call hc70 (ent_f hc70.fn rfl) hn0 (show Hp S0 σ0 _ ([Ch.ro 0 (Sl a32 r29.1 c33) r29.1, Ch.ro 0 (Sl a35 r29.2 c36) r29.2, Ch.ro 0 (Sl a53 r50.1 c54) r50.1, Ch.ro 0 (Sl a56 r50.2 c57) r50.2] ++ [Ch.ro 0 (Sl a56 r50.2 c57) r50.2, Ch.ro 0 (Sl a53 r50.1 c54) r50.1, Ch.ro 0 (Sl a35 r29.2 c36) r29.2, Ch.ro 0 (Sl a32 r29.1 c33) r29.1, Ch.ro n0 (Sl a56 r50.2 c57) r50.2, Ch.ro n0 (Sl a53 r50.1 c54) r50.1, Ch.ro n0 (Sl a35 r29.2 c36) r29.2, Ch.ro n0 (Sl a32 r29.1 c33) r29.1, Ch.bx n0 b39 0 [(Sl a32 r29.1 c33), (Sl a35 r29.2 c36)] [] [], Ch.bx n0 b1 0 [(Sl aaH_0_0 aH_0.1 caH_0_0), (Sl aaH_0_1 aH_0.2 caH_0_1)] [] [], Ch.ro 0 (Sl aaH_0_0 aH_0.1 caH_0_0) aH_0.1, Ch.ro 0 (Sl aaH_0_1 aH_0.2 caH_0_1) aH_0.2]) from (H.sel' [3, 2, 1, 0, 0, 1, 2, 3, 4, 5, 6, 7, 8, 9, 10, 11] rfl rfl))) wn ?_
    rintro _ σ71 ⟨_, ⟨rfl, rfl⟩, H, -⟩
    replace H : Hp S0 σ0 σ71 [Ch.ro 0 (Sl a56 r50.2 c57) r50.2, Ch.ro 0 (Sl a53 r50.1 c54) r50.1, Ch.ro 0 (Sl a35 r29.2 c36) r29.2, Ch.ro 0 (Sl a32 r29.1 c33) r29.1, Ch.ro n0 (Sl a56 r50.2 c57) r50.2, Ch.ro n0 (Sl a53 r50.1 c54) r50.1, Ch.ro n0 (Sl a35 r29.2 c36) r29.2, Ch.ro n0 (Sl a32 r29.1 c33) r29.1, Ch.bx n0 b39 0 [(Sl a32 r29.1 c33), (Sl a35 r29.2 c36)] [] [], Ch.bx n0 b1 0 [(Sl aaH_0_0 aH_0.1 caH_0_0), (Sl aaH_0_1 aH_0.2 caH_0_1)] [] [], Ch.ro 0 (Sl aaH_0_0 aH_0.1 caH_0_0) aH_0.1, Ch.ro 0 (Sl aaH_0_1 aH_0.2 caH_0_1) aH_0.2] := H
    replace H : Hp S0 σ0 σ71 [] := H.sel' [] rfl rfl
    refine st (v := (B (!r68))) (rv_not rfl) ?_
    refine w_end ?_
    refine q_then ?_
    refine cd_cond (!r68) rfl (fun hb72 => ?_) (fun hb72 => ?_)
    ·replace h := bif_t hb72 h
     refine c_seq ?_
     refine rg ?_
     refine st (v := (B false)) (rv_assign rfl) ?_
     refine w_end ?_
     refine q_then ?_
     refine c_ret ?_
     refine q_then_r ?_
     obtain rfl := Option.some.inj h
     exact fin_ret (v := (B false)) (results_ok Try.results4 (res_tmp (v := (B false)) rfl res_nil) rfl) ⟨rfl, rfl⟩ (H.sel' [] rfl rfl)
    ·replace h := bif_f hb72 h
     refine c_skip ?_
     refine q_then ?_
     refine c_seq ?_
     refine rg ?_
     refine st (v := (B true)) (rv_assign rfl) ?_
     refine w_end ?_
     refine q_then ?_
     refine c_ret ?_
     obtain rfl := Option.some.inj h
     exact fin_ret (v := (B true)) (results_ok Try.results4 (res_tmp (v := (B true)) rfl res_nil) rfl) ⟨rfl, rfl⟩ (H.sel' [] rfl rfl)

end Go.Vs
