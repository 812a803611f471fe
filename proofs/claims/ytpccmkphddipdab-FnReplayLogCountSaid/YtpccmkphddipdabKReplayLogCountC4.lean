/- The functions compute what their models say. -/
import Derived.Test.YtpccmkphddipdabKReplayLogCountC3
set_option linter.unusedVariables false
set_option linter.unusedSimpArgs false
set_option maxRecDepth 20000
namespace Go.Vs
open Go Go.Proofs
attribute [local irreducible] Code.wp Code.wpIn wpList wpListIn wpQuiet Calls CallsIn

theorem c_spec_ReplayLog {list_0 : List (Int × (List Int) × Int)} {log_1 : List (Int × (Int × (List Int) × Int))} {alist_0 : Option Addr} {clist_0 : Nat} {alog_1 : Option Addr} {clog_1 : Nat} {r : (List (Int × (List Int) × Int)) × Int} (h : M.spec_ReplayLog list_0 log_1 = some r) :
    Cal2 Try.prog 22 [(Sl alist_0 list_0 clist_0), (Sl alog_1 log_1 clog_1)] [Ch.ro 0 (Sl alist_0 list_0 clist_0) list_0, Ch.ro 0 (Sl alog_1 log_1 clog_1) log_1] (fun n0 v L => ∃ (az1 : Option Addr), ∃ (cz2 : Nat), v = (.tuple #[(Sl az1 r.1 cz2), (I r.2)]) ∧ L = [Ch.own n0 n0 (Sl az1 r.1 cz2) r.1]) := by
 refine cal2 (n := 43) Try.func22 rfl rfl rfl rfl ?_
 intro S0 σ0 n0 hn0 H
 unfold M.spec_ReplayLog at h
 refine c_seq ?_
 refine rg ?_
 refine st (v := (.slice none 0 0)) (rv_assign rfl) ?_
 refine st (v := (I 0)) (rv_assign rfl) ?_
 refine w_end ?_
 refine q_then ?_
 refine c_seq ?_
 refine c_seq ?_
 obtain ⟨o1, hj, h'⟩ := bind_some h
 clear h
 refine c_cut (fun e a w => e = .normal ∧ ∃ (ρ : Nat → Value) (σ : St), a = fr 43 (updL ρ [(0, (Sl alist_0 list_0 clist_0)), (1, (Sl alog_1 log_1 clog_1)), (17, (B o1))]) ∧ w = σ.w ∧ Hp S0 σ0 σ [Ch.ro 0 (Sl alist_0 list_0 clist_0) list_0, Ch.ro 0 (Sl alog_1 log_1 clog_1) log_1]) ?_ ?_
 ·clear h'
  rename _ = some o1 => h
  refine rg ?_
  refine st (v := (Sl alist_0 list_0 clist_0)) (rv_move rfl) ?_
  obtain ⟨r2, hx3, h'⟩ := bind_some h
  clear h
  have h := h'; clear h'
  have hc4 := c_spec_validStore (alist_0 := alist_0) (clist_0 := clist_0) hx3
  refine st_call (cx_call hc4 (ent_f hc4.fn rfl) hn0 (show Hp S0 σ0 _ ([Ch.ro 0 (Sl alist_0 list_0 clist_0) list_0] ++ [Ch.ro 0 (Sl alist_0 list_0 clist_0) list_0, Ch.ro 0 (Sl alog_1 log_1 clog_1) log_1]) from (H.sel' [0, 0, 1] rfl rfl))) wn ?_
  rintro _ σ5 ⟨_, ⟨rfl, rfl⟩, H, -⟩
  replace H : Hp S0 σ0 σ5 [Ch.ro 0 (Sl alist_0 list_0 clist_0) list_0, Ch.ro 0 (Sl alog_1 log_1 clog_1) log_1] := H
  refine st (v := (B (!r2))) (rv_not rfl) ?_
  refine st (v := (B (!r2))) (rv_move rfl) ?_
  rcases Bool.eq_false_or_eq_true (!r2) with hb6 | hb6
  ·replace h := bif_t hb6 h
   refine st_skip (congrArg some hb6) ?_
   refine st_skip (congrArg some hb6) ?_
   refine st_skip (congrArg some hb6) ?_
   refine st (v := (B true)) (rv_pick_t (congrArg B hb6) rfl) ?_
   refine w_end ?_
   obtain rfl := Option.some.inj h
   exact ⟨rfl, _, σ5, fr_join ⟨rfl, rfl, rfl, trivial⟩, rfl, H.sel' [0, 1] rfl rfl⟩
  ·replace h := bif_f hb6 h
   refine st_g (v := (Sl alog_1 log_1 clog_1)) (congrArg some hb6) (rv_move rfl) ?_
   obtain ⟨r7, hx8, h'⟩ := bind_some h
   clear h
   have h := h'; clear h'
   have hc9 := c_spec_validLog (alist_0 := alog_1) (clist_0 := clog_1) hx8
   refine st_call (cx_call hc9 (ent_f hc9.fn rfl) hn0 (show Hp S0 σ0 _ ([Ch.ro 0 (Sl alog_1 log_1 clog_1) log_1] ++ [Ch.ro 0 (Sl alist_0 list_0 clist_0) list_0, Ch.ro 0 (Sl alog_1 log_1 clog_1) log_1]) from (H.sel' [1, 0, 1] rfl rfl))) (wanted_yes rfl (by exact (congrArg some hb6))) ?_
   rintro _ σ10 ⟨_, ⟨rfl, rfl⟩, H, -⟩
   replace H : Hp S0 σ0 σ10 [Ch.ro 0 (Sl alist_0 list_0 clist_0) list_0, Ch.ro 0 (Sl alog_1 log_1 clog_1) log_1] := H
   refine st_g (v := (B (!r7))) (congrArg some hb6) (rv_not rfl) ?_
   refine st (v := (B (!r7))) (rv_pick_f (congrArg B hb6) rfl) ?_
   refine w_end ?_
   obtain rfl := Option.some.inj h
   exact ⟨rfl, _, σ10, fr_join ⟨rfl, rfl, rfl, trivial⟩, rfl, H.sel' [0, 1] rfl rfl⟩
 ·clear hj
  have h := h'
  clear h' H
  rintro e a w ⟨rfl, ρ, σ11, rfl, rfl, H⟩
  refine q_then ?_
  refine cd_cond o1 rfl (fun hb12 => ?_) (fun hb12 => ?_)
  ·replace h := bif_t hb12 h
   refine c_seq ?_
   refine rg ?_
   refine st (v := (.slice none 0 0)) (rv_assign rfl) ?_
   refine st (v := (I (-1))) (rv_assign rfl) ?_
   refine w_end ?_
   refine q_then ?_
   refine c_ret ?_
   refine q_then_r ?_
   replace H := H.nilOwn (Int × (List Int) × Int) n0 n0
   obtain rfl := Option.some.inj h
   exact fin_ret (v := (.tuple #[(.slice none 0 0), (I (-1))])) (results_ok Try.results22 (res_tmp (v := (.slice none 0 0)) rfl (res_tmp (v := (I (-1))) rfl res_nil)) rfl) ⟨none, 0, rfl, rfl⟩ (H.sel' [0] rfl rfl)
  ·replace h := bif_f hb12 h
   refine c_skip ?_
   refine q_then ?_
   refine c_seq ?_
   refine rg ?_
   refine st (v := (Sl alist_0 list_0 clist_0)) (rv_move rfl) ?_
   obtain ⟨r13, hx14, h'⟩ := bind_some h
   clear h
   have h := h'; clear h'
   have hc15 := c_spec_copyStore (alist_0 := alist_0) (clist_0 := clist_0) hx14
   refine st_call (cx_call hc15 (ent_f hc15.fn rfl) hn0 (show Hp S0 σ0 _ ([Ch.ro 0 (Sl alist_0 list_0 clist_0) list_0] ++ [Ch.ro 0 (Sl alist_0 list_0 clist_0) list_0, Ch.ro 0 (Sl alog_1 log_1 clog_1) log_1]) from (H.sel' [0, 0, 1] rfl rfl))) wn ?_
   rintro _ σ18 ⟨_, ⟨a16, c17, rfl, rfl⟩, H, -⟩
   replace H : Hp S0 σ0 σ18 [Ch.own n0 n0 (Sl a16 r13 c17) r13, Ch.ro 0 (Sl alist_0 list_0 clist_0) list_0, Ch.ro 0 (Sl alog_1 log_1 clog_1) log_1] := H
   refine st (v := (Sl a16 r13 c17)) (rv_assign rfl) ?_
   refine w_end ?_
   refine q_then ?_
   refine c_seq ?_
   refine c_seq ?_
   refine rg ?_
   refine st (v := (I 0)) (rv_assign rfl) ?_
   refine w_end ?_
   refine q_then ?_
   obtain ⟨o19, hj, h'⟩ := bind_some h
   clear h
   refine c_cut (fun e a w => (∃ t, o19 = (.inl t) ∧ e = .normal ∧ ∃ (ρ : Nat → Value) (σ : St) (aj1 : Option Addr) (cj2 : Nat), a = fr 43 (updL ρ [(1, (Sl alog_1 log_1 clog_1)), (6, (Sl aj1 t cj2))]) ∧ w = σ.w ∧ Hp S0 σ0 σ [Ch.ro 0 (Sl alog_1 log_1 clog_1) log_1, Ch.own n0 n0 (Sl aj1 t cj2) t]) ∨ (∃ t, o19 = (.inr t) ∧ e = .ret ∧ ∃ (ρ : Nat → Value) (σ : St) (aj1 : Option Addr) (cj2 : Nat), a = fr 43 (updL ρ [(4, (Sl aj1 t.1 cj2)), (5, (I t.2))]) ∧ w = σ.w ∧ Hp S0 σ0 σ [Ch.own n0 n0 (Sl aj1 t.1 cj2) t.1])) ?_ ?_
   ·clear h'
    rename _ = some o19 => h
    refine c_blk ?_
    refine wp_loopM _ h (fun s20 a w => ∃ (ρ : Nat → Value) (σ : St) (aj1 : Option Addr) (cj2 : Nat), a = fr 43 (updL ρ [(1, (Sl alog_1 log_1 clog_1)), (6, (Sl aj1 s20.1 cj2)), (7, (I s20.2))]) ∧ w = σ.w ∧ Hp S0 σ0 σ [Ch.ro 0 (Sl alog_1 log_1 clog_1) log_1, Ch.own n0 n0 (Sl aj1 s20.1 cj2) s20.1]) ⟨_, σ18, a16, c17, fr_join ⟨rfl, rfl, rfl, trivial⟩, rfl, H.sel' [2, 0] rfl rfl⟩ ?_
    clear h H
    rintro s20 a w o ⟨ρ, σ21, a22, c23, rfl, rfl, H⟩ h hres
    refine c_seq ?_
    refine c_seq ?_
    refine rg ?_
    refine st (v := (I s20.2)) (rv_move rfl) ?_
    refine st (v := (Sl alog_1 log_1 clog_1)) (rv_move rfl) ?_
    refine st (v := (I (log_1.length : Int))) (rv_len Try.underlying35 rfl) ?_
    refine st (v := (B (decide (s20.2 < (log_1.length : Int))))) (rv_lss (a := s20.2) (b := (log_1.length : Int)) rfl rfl) ?_
    refine w_end ?_
    refine q_then ?_
    refine cd_cond (decide (s20.2 < (log_1.length : Int))) rfl (fun hb24 => ?_) (fun hb24 => ?_)
    ·replace h := bif_t hb24 h
     refine c_skip ?_
     refine q_then ?_
     refine c_seq ?_
     refine c_blk ?_
     refine c_seq ?_
     refine rg ?_
     refine st (v := (Sl a22 s20.1 c23)) (rv_move rfl) ?_
     refine st (v := (Sl alog_1 log_1 clog_1)) (rv_move rfl) ?_
     refine st (v := (I s20.2)) (rv_move rfl) ?_
     obtain ⟨x25, hx26, h'⟩ := bind_some h
     clear h
     have h := h'; clear h'
     obtain ⟨b28, o29, hi27, -⟩ := (H.ro 0 rfl).ix hx26
     refine st (v := (pt b28 o29)) (rv_ix Try.underlying35 ti42 rfl rfl hi27) ?_
     obtain ⟨_, ⟨_, _, rfl, rfl, ⟨_, _, rfl, rfl, ⟨_, _, rfl, ⟨_, rfl, hR34⟩, rfl⟩⟩⟩, hl30, hc31⟩ := ((H.ro 0 rfl).at hx26 hi27).cells
     obtain ⟨a32, c33, rfl⟩ := hR34.isSl
     replace H := H.add (d := Ch.ro 0 (Sl a32 x25.2.2.1 c33) x25.2.2.1) hR34 (fun _ h => h)
     clear hR34
     refine st (v := (.agg #[(I x25.1), (I x25.2.1), (Sl a32 x25.2.2.1 c33), (I x25.2.2.2)])) (rv_load Try.underlying42 rfl ti42 rfl hl30 hc31) ?_
     obtain ⟨r35, hx36, h'⟩ := bind_some h
     clear h
     have h := h'; clear h'
     have hc37 := c_spec_apply (alist_0 := a22) (clist_0 := c23) (ae_1_1_1 := a32) (ce_1_1_1 := c33) hx36
     have hle := Nat.le_trans hn0 H.size
     refine st_call (cx_lend (Loan.lend (Loan.same Loan.nil)) hc37 (ent_f hc37.fn rfl) (show Hp S0 σ0 _ ([Ch.own n0 n0 (Sl a22 s20.1 c23) s20.1] ++ ([Ch.ro 0 (Sl a32 x25.2.2.1 c33) x25.2.2.1] ++ [Ch.ro 0 (Sl a32 x25.2.2.1 c33) x25.2.2.1, Ch.ro 0 (Sl alog_1 log_1 clog_1) log_1])) from (H.sel' [2, 0, 0, 1] rfl rfl)) (by rintro _ _ _ ⟨_, _, rfl, rfl⟩; exact ⟨Ab.own (Nat.le_refl _), trivial⟩)) wn ?_
     rintro _ σ40 ⟨_, ⟨a38, c39, rfl, rfl⟩, H, -, -⟩
     replace H : Hp S0 σ0 σ40 [Ch.own σ21.size σ21.size (Sl a38 r35.1 c39) r35.1, Ch.own n0 n0 (Sl a22 s20.1 c23) s20.1, Ch.ro 0 (Sl a32 x25.2.2.1 c33) x25.2.2.1, Ch.ro 0 (Sl alog_1 log_1 clog_1) log_1] := H
     replace H := H.ownLow 0 n0 n0 rfl hle hle
     clear hle
     replace H : Hp S0 σ0 σ40 [Ch.own n0 n0 (Sl a38 r35.1 c39) r35.1, Ch.own n0 n0 (Sl a22 s20.1 c23) s20.1, Ch.ro 0 (Sl a32 x25.2.2.1 c33) x25.2.2.1, Ch.ro 0 (Sl alog_1 log_1 clog_1) log_1] := H
     refine st (v := (.tuple #[(Sl a38 r35.1 c39), (B r35.2)])) (rv_move rfl) ?_
     refine st (v := (Sl a38 r35.1 c39)) (rv_extract rfl rfl) ?_
     refine st (v := (B r35.2)) (rv_extract rfl rfl) ?_
     refine st (v := (Sl a38 r35.1 c39)) (rv_assign rfl) ?_
     refine st (v := (B r35.2)) (rv_assign rfl) ?_
     refine w_end ?_
     refine q_then ?_
     refine c_seq ?_
     refine c_seq ?_
     refine rg ?_
     refine st (v := (B r35.2)) (rv_move rfl) ?_
     refine st (v := (B (!r35.2))) (rv_not rfl) ?_
     refine w_end ?_
     refine q_then ?_
     refine cd_cond (!r35.2) rfl (fun hb41 => ?_) (fun hb41 => ?_)
     ·replace h := bif_t hb41 h
      refine c_seq ?_
      refine rg ?_
      refine st (v := (Sl a22 s20.1 c23)) (rv_move rfl) ?_
      refine st (v := (I s20.2)) (rv_move rfl) ?_
      refine st (v := (Sl a22 s20.1 c23)) (rv_assign rfl) ?_
      refine st (v := (I s20.2)) (rv_assign rfl) ?_
      refine w_end ?_
      refine q_then ?_
      refine c_ret ?_
      refine q_then_r ?_
      refine q_blk_r ?_
      refine q_then_r ?_
      refine q_then_r ?_
      refine q_blk_r ?_
      obtain rfl := Option.some.inj h
      obtain rfl := hres _ rfl
      exact .inr (⟨_, rfl, rfl, _, σ40, a22, c23, fr_join ⟨rfl, rfl, trivial⟩, rfl, H.sel' [1] rfl rfl⟩)
     ·replace h := bif_f hb41 h
      refine c_skip ?_
      refine q_then ?_
      refine rg ?_
      refine st (v := (Sl a38 r35.1 c39)) (rv_move rfl) ?_
      refine st (v := (Sl a38 r35.1 c39)) (rv_assign rfl) ?_
      refine w_end ?_
      refine q_blk ?_
      refine q_then ?_
      refine rg ?_
      refine st (v := (I s20.2)) (rv_move rfl) ?_
      refine st (v := (I (w64 (s20.2 + 1)))) (rv_add (a := s20.2) (b := 1) rfl rfl) ?_
      refine st (v := (I (w64 (s20.2 + 1)))) (rv_assign rfl) ?_
      refine w_end ?_
      refine q_then ?_
      obtain rfl := Option.some.inj h
      exact ⟨_, rfl, _, σ40, a38, c39, fr_join ⟨rfl, rfl, rfl, trivial⟩, rfl, H.sel' [3, 0] rfl rfl⟩
    ·replace h := bif_f hb24 h
     refine c_exit ?_
     refine q_then_x ?_
     refine q_then_x ?_
     refine q_blk_hit ?_
     obtain rfl := Option.some.inj h
     obtain rfl := hres _ rfl
     exact .inl ⟨_, rfl, rfl, _, σ21, a22, c23, fr_join ⟨rfl, rfl, trivial⟩, rfl, H.sel' [0, 1] rfl rfl⟩
   ·clear hj
    have h := h'
    clear h' H
    rintro e a w (⟨t42, rfl, rfl, ρ, σ43, a44, c45, rfl, rfl, H⟩ | ⟨t46, rfl, rfl, ρ, σ47, a48, c49, rfl, rfl, H⟩)
    ·replace h := selim_l h
     refine q_then ?_
     refine c_seq ?_
     refine rg ?_
     refine st (v := (Sl a44 t42 c45)) (rv_move rfl) ?_
     refine st (v := (Sl alog_1 log_1 clog_1)) (rv_move rfl) ?_
     refine st (v := (I (log_1.length : Int))) (rv_len Try.underlying35 rfl) ?_
     refine st (v := (Sl a44 t42 c45)) (rv_assign rfl) ?_
     refine st (v := (I (log_1.length : Int))) (rv_assign rfl) ?_
     refine w_end ?_
     refine q_then ?_
     refine c_ret ?_
     obtain rfl := Option.some.inj h
     exact fin_ret (v := (.tuple #[(Sl a44 t42 c45), (I (log_1.length : Int))])) (results_ok Try.results22 (res_tmp (v := (Sl a44 t42 c45)) rfl (res_tmp (v := (I (log_1.length : Int))) rfl res_nil)) rfl) ⟨a44, c45, rfl, rfl⟩ (H.sel' [1] rfl rfl)
    ·replace h := selim_r h
     refine q_then_r ?_
     obtain rfl := Option.some.inj h
     exact fin_ret (v := (.tuple #[(Sl a48 t46.1 c49), (I t46.2)])) (results_ok Try.results22 (res_tmp (v := (Sl a48 t46.1 c49)) rfl (res_tmp (v := (I t46.2)) rfl res_nil)) rfl) ⟨a48, c49, rfl, rfl⟩ (H.sel' [0] rfl rfl)

theorem c_laws_equalInts {a_0 : List Int} {b_1 : List Int} {aa_0 : Option Addr} {ca_0 : Nat} {ab_1 : Option Addr} {cb_1 : Nat} {r : Bool} (h : M.laws_equalInts a_0 b_1 = some r) :
    Cal2 Try.prog 15 [(Sl aa_0 a_0 ca_0), (Sl ab_1 b_1 cb_1)] [Ch.ro 0 (Sl aa_0 a_0 ca_0) a_0, Ch.ro 0 (Sl ab_1 b_1 cb_1) b_1] (fun n0 v L => v = (B r) ∧ L = []) := by
 refine cal2 (n := 26) Try.func15 rfl rfl rfl rfl ?_
 intro S0 σ0 n0 hn0 H
 unfold M.laws_equalInts at h
 refine c_seq ?_
 refine rg ?_
 refine st (v := (B false)) (rv_assign rfl) ?_
 refine w_end ?_
 refine q_then ?_
 refine c_seq ?_
 refine c_seq ?_
 refine rg ?_
 refine st (v := (Sl aa_0 a_0 ca_0)) (rv_move rfl) ?_
 refine st (v := (I (a_0.length : Int))) (rv_len Try.underlying26 rfl) ?_
 refine st (v := (Sl ab_1 b_1 cb_1)) (rv_move rfl) ?_
 refine st (v := (I (b_1.length : Int))) (rv_len Try.underlying26 rfl) ?_
 refine st (v := (B ((a_0.length : Int) != (b_1.length : Int)))) (rv_neq (a := (a_0.length : Int)) (b := (b_1.length : Int)) rfl rfl) ?_
 refine w_end ?_
 refine q_then ?_
 refine cd_cond ((a_0.length : Int) != (b_1.length : Int)) rfl (fun hb1 => ?_) (fun hb1 => ?_)
 ·replace h := bif_t hb1 h
  refine c_seq ?_
  refine rg ?_
  refine st (v := (B false)) (rv_assign rfl) ?_
  refine w_end ?_
  refine q_then ?_
  refine c_ret ?_
  refine q_then_r ?_
  obtain rfl := Option.some.inj h
  exact fin_ret (v := (B false)) (results_ok Try.results15 (res_tmp (v := (B false)) rfl res_nil) rfl) ⟨rfl, rfl⟩ (H.sel' [] rfl rfl)
 ·replace h := bif_f hb1 h
  refine c_skip ?_
  refine q_then ?_
  refine c_seq ?_
  refine c_seq ?_
  refine rg ?_
  refine st (v := (I 0)) (rv_assign rfl) ?_
  refine w_end ?_
  refine q_then ?_
  obtain ⟨o2, hj, h'⟩ := bind_some h
  clear h
  refine c_cut (fun e a w => (∃ t, o2 = (.inl t) ∧ e = .normal ∧ ∃ (ρ : Nat → Value) (σ : St), a = fr 26 (updL ρ []) ∧ w = σ.w ∧ Hp S0 σ0 σ []) ∨ (∃ t, o2 = (.inr t) ∧ e = .ret ∧ ∃ (ρ : Nat → Value) (σ : St), a = fr 26 (updL ρ [(4, (B t))]) ∧ w = σ.w ∧ Hp S0 σ0 σ [])) ?_ ?_
  ·clear h'
   rename _ = some o2 => h
   refine c_blk ?_
   refine wp_loopM _ h (fun s3 a w => ∃ (ρ : Nat → Value) (σ : St), a = fr 26 (updL ρ [(0, (Sl aa_0 a_0 ca_0)), (1, (Sl ab_1 b_1 cb_1)), (5, (I s3))]) ∧ w = σ.w ∧ Hp S0 σ0 σ [Ch.ro 0 (Sl aa_0 a_0 ca_0) a_0, Ch.ro 0 (Sl ab_1 b_1 cb_1) b_1]) ⟨_, σ0, fr_join ⟨rfl, rfl, rfl, trivial⟩, rfl, H.sel' [0, 1] rfl rfl⟩ ?_
   clear h H
   rintro s3 a w o ⟨ρ, σ4, rfl, rfl, H⟩ h hres
   refine c_seq ?_
   refine c_seq ?_
   refine rg ?_
   refine st (v := (I s3)) (rv_move rfl) ?_
   refine st (v := (Sl aa_0 a_0 ca_0)) (rv_move rfl) ?_
   refine st (v := (I (a_0.length : Int))) (rv_len Try.underlying26 rfl) ?_
   refine st (v := (B (decide (s3 < (a_0.length : Int))))) (rv_lss (a := s3) (b := (a_0.length : Int)) rfl rfl) ?_
   refine w_end ?_
   refine q_then ?_
   refine cd_cond (decide (s3 < (a_0.length : Int))) rfl (fun hb5 => ?_) (fun hb5 => ?_)
   ·replace h := bif_t hb5 h
    refine c_skip ?_
    refine q_then ?_
    refine c_seq ?_
    refine c_blk ?_
    refine c_seq ?_
    refine rgP (σ := σ4) 8 (by kernel_rfl) (by kernel_rfl) (by kernel_rfl) ?_
    refine sq (v := (Sl aa_0 a_0 ca_0)) (rv_move rfl) ?_
    refine sq (v := (I s3)) (rv_move rfl) ?_
    obtain ⟨x6, hx7, h'⟩ := bind_some h
    clear h
    have h := h'; clear h'
    obtain ⟨b9, o10, hi8, -⟩ := (H.ro 0 rfl).ix hx7
    refine sq (v := (pt b9 o10)) (rv_ix Try.underlying26 ti3 rfl rfl hi8) ?_
    have hc11 := ((H.ro 0 rfl).at hx7 hi8).int
    refine sq (v := (I x6)) (rv_load1 Try.underlying3 rfl rfl hc11) ?_
    refine sq (v := (Sl ab_1 b_1 cb_1)) (rv_move rfl) ?_
    refine sq (v := (I s3)) (rv_move rfl) ?_
    obtain ⟨x12, hx13, h'⟩ := bind_some h
    clear h
    have h := h'; clear h'
    obtain ⟨b15, o16, hi14, -⟩ := (H.ro 1 rfl).ix hx13
    refine sq (v := (pt b15 o16)) (rv_ix Try.underlying26 ti3 rfl rfl hi14) ?_
    have hc17 := ((H.ro 1 rfl).at hx13 hi14).int
    refine sq (v := (I x12)) (rv_load1 Try.underlying3 rfl rfl hc17) ?_
    refine sq_end ?_
    intro σ18 hm19
    replace H := H.grow (hm19.mono fun _ h => h); clear hm19
    refine st (v := (B (x6 != x12))) (rv_neq (a := x6) (b := x12) rfl rfl) ?_
    refine w_end ?_
    refine q_then ?_
    refine cd_cond (x6 != x12) rfl (fun hb20 => ?_) (fun hb20 => ?_)
    ·replace h := bif_t hb20 h
     refine c_seq ?_
     refine rg ?_
     refine st (v := (B false)) (rv_assign rfl) ?_
     refine w_end ?_
     refine q_then ?_
     refine c_ret ?_
     refine q_blk_r ?_
     refine q_then_r ?_
     refine q_then_r ?_
     refine q_blk_r ?_
     obtain rfl := Option.some.inj h
     obtain rfl := hres _ rfl
     exact .inr (⟨_, rfl, rfl, _, σ18, fr_join ⟨rfl, trivial⟩, rfl, H.sel' [] rfl rfl⟩)
    ·replace h := bif_f hb20 h
     refine c_skip ?_
     refine q_blk ?_
     refine q_then ?_
     refine rg ?_
     refine st (v := (I s3)) (rv_move rfl) ?_
     refine st (v := (I (w64 (s3 + 1)))) (rv_add (a := s3) (b := 1) rfl rfl) ?_
     refine st (v := (I (w64 (s3 + 1)))) (rv_assign rfl) ?_
     refine w_end ?_
     refine q_then ?_
     obtain rfl := Option.some.inj h
     exact ⟨_, rfl, _, σ18, fr_join ⟨rfl, rfl, rfl, trivial⟩, rfl, H.sel' [0, 1] rfl rfl⟩
   ·replace h := bif_f hb5 h
    refine c_exit ?_
    refine q_then_x ?_
    refine q_then_x ?_
    refine q_blk_hit ?_
    obtain rfl := Option.some.inj h
    obtain rfl := hres _ rfl
    exact .inl ⟨_, rfl, rfl, _, σ4, fr_join trivial, rfl, H.sel' [] rfl rfl⟩
  ·clear hj
   have h := h'
   clear h' H
   rintro e a w (⟨t21, rfl, rfl, ρ, σ22, rfl, rfl, H⟩ | ⟨t23, rfl, rfl, ρ, σ24, rfl, rfl, H⟩)
   ·replace h := selim_l h
    refine q_then ?_
    refine c_seq ?_
    refine rg ?_
    refine st (v := (B true)) (rv_assign rfl) ?_
    refine w_end ?_
    refine q_then ?_
    refine c_ret ?_
    obtain rfl := Option.some.inj h
    exact fin_ret (v := (B true)) (results_ok Try.results15 (res_tmp (v := (B true)) rfl res_nil) rfl) ⟨rfl, rfl⟩ (H.sel' [] rfl rfl)
   ·replace h := selim_r h
    refine q_then_r ?_
    obtain rfl := Option.some.inj h
    exact fin_ret (v := (B t23)) (results_ok Try.results15 (res_tmp (v := (B t23)) rfl res_nil) rfl) ⟨rfl, rfl⟩ (H.sel' [] rfl rfl)

theorem c_laws_equalItems {a_0 : List (Int × (List Int) × Int)} {b_1 : List (Int × (List Int) × Int)} {aa_0 : Option Addr} {ca_0 : Nat} {ab_1 : Option Addr} {cb_1 : Nat} {r : Bool} (h : M.laws_equalItems a_0 b_1 = some r) :
    Cal2 Try.prog 23 [(Sl aa_0 a_0 ca_0), (Sl ab_1 b_1 cb_1)] [Ch.ro 0 (Sl aa_0 a_0 ca_0) a_0, Ch.ro 0 (Sl ab_1 b_1 cb_1) b_1] (fun n0 v L => v = (B r) ∧ L = []) := by
 refine cal2 (n := 55) Try.func23 rfl rfl rfl rfl ?_
 intro S0 σ0 n0 hn0 H
 unfold M.laws_equalItems at h
 refine c_seq ?_
 refine rg ?_
 refine st (v := (B false)) (rv_assign rfl) ?_
 refine w_end ?_
 refine q_then ?_
 refine c_seq ?_
 refine c_seq ?_
 refine rg ?_
 refine st (v := (Sl aa_0 a_0 ca_0)) (rv_move rfl) ?_
 refine st (v := (I (a_0.length : Int))) (rv_len Try.underlying23 rfl) ?_
 refine st (v := (Sl ab_1 b_1 cb_1)) (rv_move rfl) ?_
 refine st (v := (I (b_1.length : Int))) (rv_len Try.underlying23 rfl) ?_
 refine st (v := (B ((a_0.length : Int) != (b_1.length : Int)))) (rv_neq (a := (a_0.length : Int)) (b := (b_1.length : Int)) rfl rfl) ?_
 refine w_end ?_
 refine q_then ?_
 refine cd_cond ((a_0.length : Int) != (b_1.length : Int)) rfl (fun hb1 => ?_) (fun hb1 => ?_)
 ·replace h := bif_t hb1 h
  refine c_seq ?_
  refine rg ?_
  refine st (v := (B false)) (rv_assign rfl) ?_
  refine w_end ?_
  refine q_then ?_
  refine c_ret ?_
  refine q_then_r ?_
  obtain rfl := Option.some.inj h
  exact fin_ret (v := (B false)) (results_ok Try.results23 (res_tmp (v := (B false)) rfl res_nil) rfl) ⟨rfl, rfl⟩ (H.sel' [] rfl rfl)
 ·replace h := bif_f hb1 h
  refine c_skip ?_
  refine q_then ?_
  refine c_seq ?_
  refine c_seq ?_
  refine rg ?_
  refine st (v := (I 0)) (rv_assign rfl) ?_
  refine w_end ?_
  refine q_then ?_
  obtain ⟨o2, hj, h'⟩ := bind_some h
  clear h
  refine c_cut (fun e a w => (∃ t, o2 = (.inl t) ∧ e = .normal ∧ ∃ (ρ : Nat → Value) (σ : St), a = fr 55 (updL ρ []) ∧ w = σ.w ∧ Hp S0 σ0 σ []) ∨ (∃ t, o2 = (.inr t) ∧ e = .ret ∧ ∃ (ρ : Nat → Value) (σ : St), a = fr 55 (updL ρ [(4, (B t))]) ∧ w = σ.w ∧ Hp S0 σ0 σ [])) ?_ ?_
  ·clear h'
   rename _ = some o2 => h
   refine c_blk ?_
   refine wp_loopM _ h (fun s3 a w => ∃ (ρ : Nat → Value) (σ : St), a = fr 55 (updL ρ [(0, (Sl aa_0 a_0 ca_0)), (1, (Sl ab_1 b_1 cb_1)), (5, (I s3))]) ∧ w = σ.w ∧ Hp S0 σ0 σ [Ch.ro 0 (Sl aa_0 a_0 ca_0) a_0, Ch.ro 0 (Sl ab_1 b_1 cb_1) b_1]) ⟨_, σ0, fr_join ⟨rfl, rfl, rfl, trivial⟩, rfl, H.sel' [0, 1] rfl rfl⟩ ?_
   clear h H
   rintro s3 a w o ⟨ρ, σ4, rfl, rfl, H⟩ h hres
   refine c_seq ?_
   refine c_seq ?_
   refine rg ?_
   refine st (v := (I s3)) (rv_move rfl) ?_
   refine st (v := (Sl aa_0 a_0 ca_0)) (rv_move rfl) ?_
   refine st (v := (I (a_0.length : Int))) (rv_len Try.underlying23 rfl) ?_
   refine st (v := (B (decide (s3 < (a_0.length : Int))))) (rv_lss (a := s3) (b := (a_0.length : Int)) rfl rfl) ?_
   refine w_end ?_
   refine q_then ?_
   refine cd_cond (decide (s3 < (a_0.length : Int))) rfl (fun hb5 => ?_) (fun hb5 => ?_)
   ·replace h := bif_t hb5 h
    refine c_skip ?_
    refine q_then ?_
    refine c_seq ?_
    refine c_blk ?_
    refine c_seq ?_
    obtain ⟨o6, hj, h'⟩ := bind_some h
    clear h
    refine c_cut (fun e a w => e = .normal ∧ ∃ (ρ : Nat → Value) (σ : St), a = fr 55 (updL ρ [(0, (Sl aa_0 a_0 ca_0)), (1, (Sl ab_1 b_1 cb_1)), (5, (I s3)), (54, (B o6))]) ∧ w = σ.w ∧ Hp S0 σ0 σ [Ch.ro 0 (Sl aa_0 a_0 ca_0) a_0, Ch.ro 0 (Sl ab_1 b_1 cb_1) b_1]) ?_ ?_
    ·clear h'
     rename _ = some o6 => h
     refine rgP (σ := σ4) 35 (by kernel_rfl) (by kernel_rfl) (by kernel_rfl) ?_
     refine sq (v := (Sl aa_0 a_0 ca_0)) (rv_move rfl) ?_
     refine sq (v := (I s3)) (rv_move rfl) ?_
     obtain ⟨x7, hx8, h'⟩ := bind_some h
     clear h
     have h := h'; clear h'
     obtain ⟨b10, o11, hi9, -⟩ := (H.ro 0 rfl).ix hx8
     refine sq (v := (pt b10 o11)) (rv_ix Try.underlying23 ti32 rfl rfl hi9) ?_
     refine sq (v := (pt b10 (o11 + 0))) (rv_fieldAddr (off := 0) (ft := 3) Try.underlying32 rfl ti3 rfl rfl) ?_
     have hc12 := ((H.ro 0 rfl).at hx8 hi9).fst.int
     refine sq (v := (I x7.1)) (rv_load1 Try.underlying3 rfl rfl hc12) ?_
     refine sq (v := (Sl ab_1 b_1 cb_1)) (rv_move rfl) ?_
     refine sq (v := (I s3)) (rv_move rfl) ?_
     obtain ⟨x13, hx14, h'⟩ := bind_some h
     clear h
     have h := h'; clear h'
     obtain ⟨b16, o17, hi15, -⟩ := (H.ro 1 rfl).ix hx14
     refine sq (v := (pt b16 o17)) (rv_ix Try.underlying23 ti32 rfl rfl hi15) ?_
     refine sq (v := (pt b16 (o17 + 0))) (rv_fieldAddr (off := 0) (ft := 3) Try.underlying32 rfl ti3 rfl rfl) ?_
     have hc18 := ((H.ro 1 rfl).at hx14 hi15).fst.int
     refine sq (v := (I x13.1)) (rv_load1 Try.underlying3 rfl rfl hc18) ?_
     refine sq (v := (B (x7.1 != x13.1))) (rv_neq (a := x7.1) (b := x13.1) rfl rfl) ?_
     refine sq (v := (B (x7.1 != x13.1))) (rv_move rfl) ?_
     rcases Bool.eq_false_or_eq_true (x7.1 != x13.1) with hb19 | hb19
     ·replace h := bif_t hb19 h
      refine sq_skip (congrArg some hb19) ?_
      refine sq_skip (congrArg some hb19) ?_
      refine sq_skip (congrArg some hb19) ?_
      refine sq_skip (congrArg some hb19) ?_
      refine sq_skip (congrArg some hb19) ?_
      refine sq_skip (congrArg some hb19) ?_
      refine sq_skip (congrArg some hb19) ?_
      refine sq_skip (congrArg some hb19) ?_
      refine sq_skip (congrArg some hb19) ?_
      refine sq_skip (congrArg some hb19) ?_
      refine sq_skip (congrArg some hb19) ?_
      refine sq (v := (B true)) (rv_pick_t (congrArg B hb19) rfl) ?_
      refine sq (v := (B true)) (rv_move rfl) ?_
      refine sq_skip rfl ?_
      refine sq_skip rfl ?_
      refine sq_skip rfl ?_
      refine sq_skip rfl ?_
      refine sq_skip rfl ?_
      refine sq_skip rfl ?_
      refine sq_skip rfl ?_
      refine sq_skip rfl ?_
      refine sq_skip rfl ?_
      refine sq_skip rfl ?_
      refine sq_end ?_
      intro σ20 hm21
      replace H := H.grow (hm21.mono fun _ h => h); clear hm21
      refine st_skip rfl ?_
      refine st_skip rfl ?_
      refine st (v := (B true)) (rv_pick_t rfl rfl) ?_
      refine w_end ?_
      obtain rfl := Option.some.inj h
      exact ⟨rfl, _, σ20, fr_join ⟨rfl, rfl, rfl, rfl, trivial⟩, rfl, H.sel' [0, 1] rfl rfl⟩
     ·replace h := bif_f hb19 h
      refine sq_g (v := (Sl aa_0 a_0 ca_0)) (congrArg some hb19) (rv_move rfl) ?_
      refine sq_g (v := (I s3)) (congrArg some hb19) (rv_move rfl) ?_
      obtain ⟨x22, hx23, h'⟩ := bind_some h
      clear h
      have h := h'; clear h'
      obtain ⟨b25, o26, hi24, -⟩ := (H.ro 0 rfl).ix hx23
      refine sq_g (v := (pt b25 o26)) (congrArg some hb19) (rv_ix Try.underlying23 ti32 rfl rfl hi24) ?_
      refine sq_g (v := (pt b25 (o26 + 2))) (congrArg some hb19) (rv_fieldAddr (off := 2) (ft := 3) Try.underlying32 rfl ti3 rfl rfl) ?_
      have hc27 := ((H.ro 0 rfl).at hx23 hi24).snd.snd.int
      refine sq_g (v := (I x22.2.2)) (congrArg some hb19) (rv_load1 Try.underlying3 rfl rfl hc27) ?_
      refine sq_g (v := (Sl ab_1 b_1 cb_1)) (congrArg some hb19) (rv_move rfl) ?_
      refine sq_g (v := (I s3)) (congrArg some hb19) (rv_move rfl) ?_
      obtain ⟨x28, hx29, h'⟩ := bind_some h
      clear h
      have h := h'; clear h'
      obtain ⟨b31, o32, hi30, -⟩ := (H.ro 1 rfl).ix hx29
      refine sq_g (v := (pt b31 o32)) (congrArg some hb19) (rv_ix Try.underlying23 ti32 rfl rfl hi30) ?_
      refine sq_g (v := (pt b31 (o32 + 2))) (congrArg some hb19) (rv_fieldAddr (off := 2) (ft := 3) Try.underlying32 rfl ti3 rfl rfl) ?_
      have hc33 := ((H.ro 1 rfl).at hx29 hi30).snd.snd.int
      refine sq_g (v := (I x28.2.2)) (congrArg some hb19) (rv_load1 Try.underlying3 rfl rfl hc33) ?_
      refine sq_g (v := (B (x22.2.2 != x28.2.2))) (congrArg some hb19) (rv_neq (a := x22.2.2) (b := x28.2.2) rfl rfl) ?_
      refine sq (v := (B (x22.2.2 != x28.2.2))) (rv_pick_f (congrArg B hb19) rfl) ?_
      refine sq (v := (B (x22.2.2 != x28.2.2))) (rv_move rfl) ?_
      rcases Bool.eq_false_or_eq_true (x22.2.2 != x28.2.2) with hb34 | hb34
      ·replace h := bif_t hb34 h
       refine sq_skip (congrArg some hb34) ?_
       refine sq_skip (congrArg some hb34) ?_
       refine sq_skip (congrArg some hb34) ?_
       refine sq_skip (congrArg some hb34) ?_
       refine sq_skip (congrArg some hb34) ?_
       refine sq_skip (congrArg some hb34) ?_
       refine sq_skip (congrArg some hb34) ?_
       refine sq_skip (congrArg some hb34) ?_
       refine sq_skip (congrArg some hb34) ?_
       refine sq_skip (congrArg some hb34) ?_
       refine sq_end ?_
       intro σ35 hm36
       replace H := H.grow (hm36.mono fun _ h => h); clear hm36
       refine st_skip (congrArg some hb34) ?_
       refine st_skip (congrArg some hb34) ?_
       refine st (v := (B true)) (rv_pick_t (congrArg B hb34) rfl) ?_
       refine w_end ?_
       obtain rfl := Option.some.inj h
       exact ⟨rfl, _, σ35, fr_join ⟨rfl, rfl, rfl, rfl, trivial⟩, rfl, H.sel' [0, 1] rfl rfl⟩
      ·replace h := bif_f hb34 h
       refine sq_g (v := (Sl aa_0 a_0 ca_0)) (congrArg some hb34) (rv_move rfl) ?_
       refine sq_g (v := (I s3)) (congrArg some hb34) (rv_move rfl) ?_
       obtain ⟨x37, hx38, h'⟩ := bind_some h
       clear h
       have h := h'; clear h'
       obtain ⟨b40, o41, hi39, -⟩ := (H.ro 0 rfl).ix hx38
       refine sq_g (v := (pt b40 o41)) (congrArg some hb34) (rv_ix Try.underlying23 ti32 rfl rfl hi39) ?_
       refine sq_g (v := (pt b40 (o41 + 1))) (congrArg some hb34) (rv_fieldAddr (off := 1) (ft := 26) Try.underlying32 rfl ti26 rfl rfl) ?_
       obtain ⟨v45, hc46, hR44⟩ := ((H.ro 0 rfl).at hx38 hi39).snd.fst.slice
       obtain ⟨a42, c43, rfl⟩ := hR44.isSl
       replace H := H.add (d := Ch.ro 0 (Sl a42 x37.2.1 c43) x37.2.1) hR44 (fun _ h => h)
       clear hR44
       refine sq_g (v := (Sl a42 x37.2.1 c43)) (congrArg some hb34) (rv_load1 Try.underlying26 rfl rfl hc46) ?_
       refine sq_g (v := (Sl ab_1 b_1 cb_1)) (congrArg some hb34) (rv_move rfl) ?_
       refine sq_g (v := (I s3)) (congrArg some hb34) (rv_move rfl) ?_
       obtain ⟨x47, hx48, h'⟩ := bind_some h
       clear h
       have h := h'; clear h'
       obtain ⟨b50, o51, hi49, -⟩ := (H.ro 2 rfl).ix hx48
       refine sq_g (v := (pt b50 o51)) (congrArg some hb34) (rv_ix Try.underlying23 ti32 rfl rfl hi49) ?_
       refine sq_g (v := (pt b50 (o51 + 1))) (congrArg some hb34) (rv_fieldAddr (off := 1) (ft := 26) Try.underlying32 rfl ti26 rfl rfl) ?_
       obtain ⟨v55, hc56, hR54⟩ := ((H.ro 2 rfl).at hx48 hi49).snd.fst.slice
       obtain ⟨a52, c53, rfl⟩ := hR54.isSl
       replace H := H.add (d := Ch.ro 0 (Sl a52 x47.2.1 c53) x47.2.1) hR54 (fun _ h => h)
       clear hR54
       refine sq_g (v := (Sl a52 x47.2.1 c53)) (congrArg some hb34) (rv_load1 Try.underlying26 rfl rfl hc56) ?_
       refine sq_end ?_
       intro σ57 hm58
       replace H := H.grow (hm58.mono fun _ h => h); clear hm58
       obtain ⟨r59, hx60, h'⟩ := bind_some h
       clear h
       have h := h'; clear h'
       have hc61 := c_laws_equalInts (aa_0 := a42) (ca_0 := c43) (ab_1 := a52) (cb_1 := c53) hx60
       refine st_call (cx_call hc61 (ent_f hc61.fn rfl) hn0 (show Hp S0 σ0 _ ([Ch.ro 0 (Sl a42 x37.2.1 c43) x37.2.1, Ch.ro 0 (Sl a52 x47.2.1 c53) x47.2.1] ++ [Ch.ro 0 (Sl a52 x47.2.1 c53) x47.2.1, Ch.ro 0 (Sl a42 x37.2.1 c43) x37.2.1, Ch.ro 0 (Sl aa_0 a_0 ca_0) a_0, Ch.ro 0 (Sl ab_1 b_1 cb_1) b_1]) from (H.sel' [1, 0, 0, 1, 2, 3] rfl rfl))) (wanted_yes rfl (by exact (congrArg some hb34))) ?_
       rintro _ σ62 ⟨_, ⟨rfl, rfl⟩, H, -⟩
       replace H : Hp S0 σ0 σ62 [Ch.ro 0 (Sl a52 x47.2.1 c53) x47.2.1, Ch.ro 0 (Sl a42 x37.2.1 c43) x37.2.1, Ch.ro 0 (Sl aa_0 a_0 ca_0) a_0, Ch.ro 0 (Sl ab_1 b_1 cb_1) b_1] := H
       refine st_g (v := (B (!r59))) (congrArg some hb34) (rv_not rfl) ?_
       refine st (v := (B (!r59))) (rv_pick_f (congrArg B hb34) rfl) ?_
       refine w_end ?_
       obtain rfl := Option.some.inj h
       exact ⟨rfl, _, σ62, fr_join ⟨rfl, rfl, rfl, rfl, trivial⟩, rfl, H.sel' [2, 3] rfl rfl⟩
    ·clear hj
     have h := h'
     clear h' H
     rintro e a w ⟨rfl, ρ, σ63, rfl, rfl, H⟩
     refine q_then ?_
     refine cd_cond o6 rfl (fun hb64 => ?_) (fun hb64 => ?_)
     ·replace h := bif_t hb64 h
      refine c_seq ?_
      refine rg ?_
      refine st (v := (B false)) (rv_assign rfl) ?_
      refine w_end ?_
      refine q_then ?_
      refine c_ret ?_
      refine q_blk_r ?_
      refine q_then_r ?_
      refine q_then_r ?_
      refine q_blk_r ?_
      obtain rfl := Option.some.inj h
      obtain rfl := hres _ rfl
      exact .inr (⟨_, rfl, rfl, _, σ63, fr_join ⟨rfl, trivial⟩, rfl, H.sel' [] rfl rfl⟩)
     ·replace h := bif_f hb64 h
      refine c_skip ?_
      refine q_blk ?_
      refine q_then ?_
      refine rg ?_
      refine st (v := (I s3)) (rv_move rfl) ?_
      refine st (v := (I (w64 (s3 + 1)))) (rv_add (a := s3) (b := 1) rfl rfl) ?_
      refine st (v := (I (w64 (s3 + 1)))) (rv_assign rfl) ?_
      refine w_end ?_
      refine q_then ?_
      obtain rfl := Option.some.inj h
      exact ⟨_, rfl, _, σ63, fr_join ⟨rfl, rfl, rfl, trivial⟩, rfl, H.sel' [0, 1] rfl rfl⟩
   ·replace h := bif_f hb5 h
    refine c_exit ?_
    refine q_then_x ?_
    refine q_then_x ?_
    refine q_blk_hit ?_
    obtain rfl := Option.some.inj h
    obtain rfl := hres _ rfl
    exact .inl ⟨_, rfl, rfl, _, σ4, fr_join trivial, rfl, H.sel' [] rfl rfl⟩
  ·clear hj
   have h := h'
   clear h' H
   rintro e a w (⟨t65, rfl, rfl, ρ, σ66, rfl, rfl, H⟩ | ⟨t67, rfl, rfl, ρ, σ68, rfl, rfl, H⟩)
   ·replace h := selim_l h
    refine q_then ?_
    refine c_seq ?_
    refine rg ?_
    refine st (v := (B true)) (rv_assign rfl) ?_
    refine w_end ?_
    refine q_then ?_
    refine c_ret ?_
    obtain rfl := Option.some.inj h
    exact fin_ret (v := (B true)) (results_ok Try.results23 (res_tmp (v := (B true)) rfl res_nil) rfl) ⟨rfl, rfl⟩ (H.sel' [] rfl rfl)
   ·replace h := selim_r h
    refine q_then_r ?_
    obtain rfl := Option.some.inj h
    exact fin_ret (v := (B t67)) (results_ok Try.results23 (res_tmp (v := (B t67)) rfl res_nil) rfl) ⟨rfl, rfl⟩ (H.sel' [] rfl rfl)

theorem c_impl_GetItem {list_0 : List (Int × (List Int) × Int)} {key_1 : Int} {alist_0 : Option Addr} {clist_0 : Nat} {r : (Int × (List Int) × Int) × Bool} (h : M.impl_GetItem list_0 key_1 = some r) :
    Cal2 Try.prog 24 [(Sl alist_0 list_0 clist_0), (I key_1)] [Ch.ro 0 (Sl alist_0 list_0 clist_0) list_0] (fun n0 v L => ∃ (az1 : Option Addr), ∃ (cz2 : Nat), v = (.tuple #[(.agg #[(I r.1.1), (Sl az1 r.1.2.1 cz2), (I r.1.2.2)]), (B r.2)]) ∧ L = [Ch.own n0 n0 (Sl az1 r.1.2.1 cz2) r.1.2.1]) := by
 refine cal2 (n := 26) Try.func24 rfl rfl rfl rfl ?_
 intro S0 σ0 n0 hn0 H
 unfold M.impl_GetItem at h
 refine c_seq ?_
 refine rg ?_
 refine st_ex (ex_alloc (cs := [(I 0), (.slice none 0 0), (I 0)]) H hn0 ti32 rfl) wn ?_
 rintro _ σ2 ⟨b1, rfl, H, -⟩
 refine st (v := (B false)) (rv_assign rfl) ?_
 refine w_end ?_
 refine q_then ?_
 refine c_seq ?_
 refine c_seq ?_
 refine rg ?_
 refine st (v := (Sl alist_0 list_0 clist_0)) (rv_move rfl) ?_
 obtain ⟨r3, hx4, h'⟩ := bind_some h
 clear h
 have h := h'; clear h'
 have hc5 := c_impl_ValidStore (alist_0 := alist_0) (clist_0 := clist_0) hx4
 refine st_call (cx_call hc5 (ent_f hc5.fn rfl) hn0 (show Hp S0 σ0 _ ([Ch.ro 0 (Sl alist_0 list_0 clist_0) list_0] ++ [Ch.bx n0 b1 0 [(I 0), (.slice none 0 0), (I 0)] [] [], Ch.ro 0 (Sl alist_0 list_0 clist_0) list_0]) from (H.sel' [1, 0, 1] rfl rfl))) wn ?_
 rintro _ σ6 ⟨_, ⟨rfl, rfl⟩, H, -⟩
 replace H : Hp S0 σ0 σ6 [Ch.bx n0 b1 0 [(I 0), (.slice none 0 0), (I 0)] [] [], Ch.ro 0 (Sl alist_0 list_0 clist_0) list_0] := H
 refine st (v := (B (!r3))) (rv_not rfl) ?_
 refine w_end ?_
 refine q_then ?_
 refine cd_cond (!r3) rfl (fun hb7 => ?_) (fun hb7 => ?_)
 ·replace h := bif_t hb7 h
  refine c_seq ?_
  refine rg ?_
  refine st (v := (.agg #[(I 0), (.slice none 0 0), (I 0)])) (rv_build (ps := []) Try.underlying32 ti32 (bp32 Try.underlying32) rfl (by kernel_rfl)) ?_
  refine st_exS (ex_store_box (k := 0) (cs := [(I 0), (.slice none 0 0), (I 0)]) (vs := [(I 0), (.slice none 0 0), (I 0)]) (cs' := [(I 0), (.slice none 0 0), (I 0)]) H (i := 0) rfl ti32 rfl rfl rfl rfl rfl (Nat.le_of_ble_eq_true rfl) (by simp [plain]) rfl) wn ?_
  rintro σ8 ⟨H, -⟩
  refine st (v := (B false)) (rv_assign rfl) ?_
  refine w_end ?_
  refine q_then ?_
  refine c_ret ?_
  refine q_then_r ?_
  replace H := H.nilOwn Int n0 n0
  obtain rfl := Option.some.inj h
  exact fin_ret (v := (.tuple #[(.agg #[(I 0), (.slice none 0 0), (I 0)]), (B false)])) (results_ok Try.results24 (res_cell rfl (run_cellRes (cs := [(I 0), (.slice none 0 0), (I 0)]) Try.underlying32 rfl ti32 rfl (H.cells 1 rfl)) (res_tmp (v := (B false)) rfl res_nil)) rfl) ⟨none, 0, rfl, rfl⟩ (H.sel' [0] rfl rfl)
 ·replace h := bif_f hb7 h
  refine c_skip ?_
  refine q_then ?_
  refine c_seq ?_
  refine rg ?_
  refine st (v := (Sl alist_0 list_0 clist_0)) (rv_move rfl) ?_
  refine st (v := (I key_1)) (rv_move rfl) ?_
  obtain ⟨r9, hx10, h'⟩ := bind_some h
  clear h
  have h := h'; clear h'
  have hc11 := c_impl_placeOf (alist_0 := alist_0) (clist_0 := clist_0) hx10
  refine st_call (cx_call hc11 (ent_f hc11.fn rfl) hn0 (show Hp S0 σ0 _ ([Ch.ro 0 (Sl alist_0 list_0 clist_0) list_0] ++ [Ch.bx n0 b1 0 [(I 0), (.slice none 0 0), (I 0)] [] [], Ch.ro 0 (Sl alist_0 list_0 clist_0) list_0]) from (H.sel' [1, 0, 1] rfl rfl))) wn ?_
  rintro _ σ12 ⟨_, ⟨rfl, rfl⟩, H, -⟩
  replace H : Hp S0 σ0 σ12 [Ch.bx n0 b1 0 [(I 0), (.slice none 0 0), (I 0)] [] [], Ch.ro 0 (Sl alist_0 list_0 clist_0) list_0] := H
  refine st (v := (.tuple #[(I r9.1), (B r9.2)])) (rv_move rfl) ?_
  refine st (v := (I r9.1)) (rv_extract rfl rfl) ?_
  refine st (v := (B r9.2)) (rv_extract rfl rfl) ?_
  refine st (v := (I r9.1)) (rv_assign rfl) ?_
  refine st (v := (B r9.2)) (rv_assign rfl) ?_
  refine w_end ?_
  refine q_then ?_
  refine c_seq ?_
  refine c_seq ?_
  refine rg ?_
  refine st (v := (B r9.2)) (rv_move rfl) ?_
  refine st (v := (B (!r9.2))) (rv_not rfl) ?_
  refine w_end ?_
  refine q_then ?_
  refine cd_cond (!r9.2) rfl (fun hb13 => ?_) (fun hb13 => ?_)
  ·replace h := bif_t hb13 h
   refine c_seq ?_
   refine rg ?_
   refine st (v := (.agg #[(I 0), (.slice none 0 0), (I 0)])) (rv_build (ps := []) Try.underlying32 ti32 (bp32 Try.underlying32) rfl (by kernel_rfl)) ?_
   refine st_exS (ex_store_box (k := 0) (cs := [(I 0), (.slice none 0 0), (I 0)]) (vs := [(I 0), (.slice none 0 0), (I 0)]) (cs' := [(I 0), (.slice none 0 0), (I 0)]) H (i := 0) rfl ti32 rfl rfl rfl rfl rfl (Nat.le_of_ble_eq_true rfl) (by simp [plain]) rfl) wn ?_
   rintro σ14 ⟨H, -⟩
   refine st (v := (B false)) (rv_assign rfl) ?_
   refine w_end ?_
   refine q_then ?_
   refine c_ret ?_
   refine q_then_r ?_
   replace H := H.nilOwn Int n0 n0
   obtain rfl := Option.some.inj h
   exact fin_ret (v := (.tuple #[(.agg #[(I 0), (.slice none 0 0), (I 0)]), (B false)])) (results_ok Try.results24 (res_cell rfl (run_cellRes (cs := [(I 0), (.slice none 0 0), (I 0)]) Try.underlying32 rfl ti32 rfl (H.cells 1 rfl)) (res_tmp (v := (B false)) rfl res_nil)) rfl) ⟨none, 0, rfl, rfl⟩ (H.sel' [0] rfl rfl)
  ·replace h := bif_f hb13 h
   refine c_skip ?_
   refine q_then ?_
   refine c_seq ?_
   refine rg ?_
   refine st (v := (Sl alist_0 list_0 clist_0)) (rv_move rfl) ?_
   refine st (v := (I r9.1)) (rv_move rfl) ?_
   obtain ⟨x15, hx16, h'⟩ := bind_some h
   clear h
   have h := h'; clear h'
   obtain ⟨b18, o19, hi17, -⟩ := (H.ro 1 rfl).ix hx16
   refine st (v := (pt b18 o19)) (rv_ix Try.underlying23 ti32 rfl rfl hi17) ?_
   obtain ⟨_, ⟨_, _, rfl, rfl, ⟨_, _, rfl, ⟨_, rfl, hR24⟩, rfl⟩⟩, hl20, hc21⟩ := ((H.ro 1 rfl).at hx16 hi17).cells
   obtain ⟨a22, c23, rfl⟩ := hR24.isSl
   replace H := H.add (d := Ch.ro 0 (Sl a22 x15.2.1 c23) x15.2.1) hR24 (fun _ h => h)
   clear hR24
   refine st (v := (.agg #[(I x15.1), (Sl a22 x15.2.1 c23), (I x15.2.2)])) (rv_load Try.underlying32 rfl ti32 rfl hl20 hc21) ?_
   obtain ⟨r25, hx26, h'⟩ := bind_some h
   clear h
   have h := h'; clear h'
   have hc27 := c_impl_copyItem (ax_0_1 := a22) (cx_0_1 := c23) hx26
   refine st_call (cx_call hc27 (ent_f hc27.fn rfl) hn0 (show Hp S0 σ0 _ ([Ch.ro 0 (Sl a22 x15.2.1 c23) x15.2.1] ++ [Ch.ro 0 (Sl a22 x15.2.1 c23) x15.2.1, Ch.bx n0 b1 0 [(I 0), (.slice none 0 0), (I 0)] [] [], Ch.ro 0 (Sl alist_0 list_0 clist_0) list_0]) from (H.sel' [0, 0, 1, 2] rfl rfl))) wn ?_
   rintro _ σ30 ⟨_, ⟨a28, c29, rfl, rfl⟩, H, -⟩
   replace H : Hp S0 σ0 σ30 [Ch.own n0 n0 (Sl a28 r25.2.1 c29) r25.2.1, Ch.ro 0 (Sl a22 x15.2.1 c23) x15.2.1, Ch.bx n0 b1 0 [(I 0), (.slice none 0 0), (I 0)] [] [], Ch.ro 0 (Sl alist_0 list_0 clist_0) list_0] := H
   refine st_exS (ex_store_box (k := 0) (cs := [(I 0), (.slice none 0 0), (I 0)]) (vs := [(I r25.1), (Sl a28 r25.2.1 c29), (I r25.2.2)]) (cs' := [(I r25.1), (Sl a28 r25.2.1 c29), (I r25.2.2)]) H (i := 2) rfl ti32 rfl rfl rfl rfl rfl (Nat.le_of_ble_eq_true rfl) (by simp [plain]) rfl) wn ?_
   rintro σ31 ⟨H, -⟩
   refine st (v := (B true)) (rv_assign rfl) ?_
   refine w_end ?_
   refine q_then ?_
   refine c_ret ?_
   obtain rfl := Option.some.inj h
   exact fin_ret (v := (.tuple #[(.agg #[(I r25.1), (Sl a28 r25.2.1 c29), (I r25.2.2)]), (B true)])) (results_ok Try.results24 (res_cell rfl (run_cellRes (cs := [(I r25.1), (Sl a28 r25.2.1 c29), (I r25.2.2)]) Try.underlying32 rfl ti32 rfl (H.cells 0 rfl)) (res_tmp (v := (B true)) rfl res_nil)) rfl) ⟨a28, c29, rfl, rfl⟩ (H.sel' [1] rfl rfl)

theorem c_laws_equalItem {a_0 : Int × (List Int) × Int} {b_1 : Int × (List Int) × Int} {aa_0_1 : Option Addr} {ca_0_1 : Nat} {ab_1_1 : Option Addr} {cb_1_1 : Nat} {r : Bool} (h : M.laws_equalItem a_0 b_1 = some r) :
    Cal2 Try.prog 25 [(.agg #[(I a_0.1), (Sl aa_0_1 a_0.2.1 ca_0_1), (I a_0.2.2)]), (.agg #[(I b_1.1), (Sl ab_1_1 b_1.2.1 cb_1_1), (I b_1.2.2)])] [Ch.ro 0 (Sl aa_0_1 a_0.2.1 ca_0_1) a_0.2.1, Ch.ro 0 (Sl ab_1_1 b_1.2.1 cb_1_1) b_1.2.1] (fun n0 v L => v = (B r) ∧ L = []) := by
 refine cal2 (n := 24) Try.func25 rfl rfl rfl rfl ?_
 intro S0 σ0 n0 hn0 H
 unfold M.laws_equalItem at h
 refine c_seq ?_
 refine rg ?_
 refine st_ex (ex_box (cs := [(I a_0.1), (Sl aa_0_1 a_0.2.1 ca_0_1), (I a_0.2.2)]) H hn0 rfl rfl) wn ?_
 rintro _ σ2 ⟨b1, rfl, H, -⟩
 refine st_ex (ex_box (cs := [(I b_1.1), (Sl ab_1_1 b_1.2.1 cb_1_1), (I b_1.2.2)]) H hn0 rfl rfl) wn ?_
 rintro _ σ4 ⟨b3, rfl, H, -⟩
 refine st (v := (B false)) (rv_assign rfl) ?_
 refine w_end ?_
 refine q_then ?_
 refine c_seq ?_
 refine rg ?_
 refine st (v := (pt b1 0)) (rv_fieldAddr (off := 0) (ft := 3) Try.underlying32 rfl ti3 rfl rfl) ?_
 have hc5 := H.cell (u := (I a_0.1)) (o' := 0) 1 0 rfl rfl rfl
 refine st (v := (I a_0.1)) (rv_load1 Try.underlying3 rfl rfl hc5) ?_
 refine st (v := (pt b3 0)) (rv_fieldAddr (off := 0) (ft := 3) Try.underlying32 rfl ti3 rfl rfl) ?_
 have hc6 := H.cell (u := (I b_1.1)) (o' := 0) 0 0 rfl rfl rfl
 refine st (v := (I b_1.1)) (rv_load1 Try.underlying3 rfl rfl hc6) ?_
 refine st (v := (B (a_0.1 == b_1.1))) (rv_eql (a := a_0.1) (b := b_1.1) rfl rfl) ?_
 refine st (v := (B (a_0.1 == b_1.1))) (rv_move rfl) ?_
 rcases Bool.eq_false_or_eq_true (a_0.1 == b_1.1) with hb7 | hb7
 ·replace h := bif_t hb7 h
  refine st_g (v := (pt b1 2)) (congrArg some hb7) (rv_fieldAddr (off := 2) (ft := 3) Try.underlying32 rfl ti3 rfl rfl) ?_
  have hc8 := H.cell (u := (I a_0.2.2)) (o' := 2) 1 2 rfl rfl rfl
  refine st_g (v := (I a_0.2.2)) (congrArg some hb7) (rv_load1 Try.underlying3 rfl rfl hc8) ?_
  refine st_g (v := (pt b3 2)) (congrArg some hb7) (rv_fieldAddr (off := 2) (ft := 3) Try.underlying32 rfl ti3 rfl rfl) ?_
  have hc9 := H.cell (u := (I b_1.2.2)) (o' := 2) 0 2 rfl rfl rfl
  refine st_g (v := (I b_1.2.2)) (congrArg some hb7) (rv_load1 Try.underlying3 rfl rfl hc9) ?_
  refine st_g (v := (B (a_0.2.2 == b_1.2.2))) (congrArg some hb7) (rv_eql (a := a_0.2.2) (b := b_1.2.2) rfl rfl) ?_
  refine st (v := (B (a_0.2.2 == b_1.2.2))) (rv_pick_t (congrArg B hb7) rfl) ?_
  refine st (v := (B (a_0.2.2 == b_1.2.2))) (rv_move rfl) ?_
  rcases Bool.eq_false_or_eq_true (a_0.2.2 == b_1.2.2) with hb10 | hb10
  ·replace h := bif_t hb10 h
   refine st_g (v := (pt b1 1)) (congrArg some hb10) (rv_fieldAddr (off := 1) (ft := 26) Try.underlying32 rfl ti26 rfl rfl) ?_
   have hc11 := H.cell (u := (Sl aa_0_1 a_0.2.1 ca_0_1)) (o' := 1) 1 1 rfl rfl rfl
   refine st_g (v := (Sl aa_0_1 a_0.2.1 ca_0_1)) (congrArg some hb10) (rv_load1 Try.underlying26 rfl rfl hc11) ?_
   refine st_g (v := (pt b3 1)) (congrArg some hb10) (rv_fieldAddr (off := 1) (ft := 26) Try.underlying32 rfl ti26 rfl rfl) ?_
   have hc12 := H.cell (u := (Sl ab_1_1 b_1.2.1 cb_1_1)) (o' := 1) 0 1 rfl rfl rfl
   refine st_g (v := (Sl ab_1_1 b_1.2.1 cb_1_1)) (congrArg some hb10) (rv_load1 Try.underlying26 rfl rfl hc12) ?_
   obtain ⟨r13, hx14, h'⟩ := bind_some h
   clear h
   have h := h'; clear h'
   have hc15 := c_laws_equalInts (aa_0 := aa_0_1) (ca_0 := ca_0_1) (ab_1 := ab_1_1) (cb_1 := cb_1_1) hx14
   refine st_call (cx_call hc15 (ent_f hc15.fn rfl) hn0 (show Hp S0 σ0 _ ([Ch.ro 0 (Sl aa_0_1 a_0.2.1 ca_0_1) a_0.2.1, Ch.ro 0 (Sl ab_1_1 b_1.2.1 cb_1_1) b_1.2.1] ++ [Ch.bx n0 b3 0 [(I b_1.1), (Sl ab_1_1 b_1.2.1 cb_1_1), (I b_1.2.2)] [] [], Ch.bx n0 b1 0 [(I a_0.1), (Sl aa_0_1 a_0.2.1 ca_0_1), (I a_0.2.2)] [] [], Ch.ro 0 (Sl aa_0_1 a_0.2.1 ca_0_1) a_0.2.1, Ch.ro 0 (Sl ab_1_1 b_1.2.1 cb_1_1) b_1.2.1]) from (H.sel' [2, 3, 0, 1, 2, 3] rfl rfl))) (wanted_yes rfl (by exact (congrArg some hb10))) ?_
   rintro _ σ16 ⟨_, ⟨rfl, rfl⟩, H, -⟩
   replace H : Hp S0 σ0 σ16 [Ch.bx n0 b3 0 [(I b_1.1), (Sl ab_1_1 b_1.2.1 cb_1_1), (I b_1.2.2)] [] [], Ch.bx n0 b1 0 [(I a_0.1), (Sl aa_0_1 a_0.2.1 ca_0_1), (I a_0.2.2)] [] [], Ch.ro 0 (Sl aa_0_1 a_0.2.1 ca_0_1) a_0.2.1, Ch.ro 0 (Sl ab_1_1 b_1.2.1 cb_1_1) b_1.2.1] := H
   refine st (v := (B r13)) (rv_pick_t (congrArg B hb10) rfl) ?_
   refine st (v := (B r13)) (rv_assign rfl) ?_
   refine w_end ?_
   refine q_then ?_
   refine c_ret ?_
   obtain rfl := Option.some.inj h
   exact fin_ret (v := (B r13)) (results_ok Try.results25 (res_tmp (v := (B r13)) rfl res_nil) rfl) ⟨rfl, rfl⟩ (H.sel' [] rfl rfl)
  ·replace h := bif_f hb10 h
   refine st_skip (congrArg some hb10) ?_
   refine st_skip (congrArg some hb10) ?_
   refine st_skip (congrArg some hb10) ?_
   refine st_skip (congrArg some hb10) ?_
   refine st_skip (congrArg some hb10) ?_
   refine st (v := (B false)) (rv_pick_f (congrArg B hb10) rfl) ?_
   refine st (v := (B false)) (rv_assign rfl) ?_
   refine w_end ?_
   refine q_then ?_
   refine c_ret ?_
   obtain rfl := Option.some.inj h
   exact fin_ret (v := (B false)) (results_ok Try.results25 (res_tmp (v := (B false)) rfl res_nil) rfl) ⟨rfl, rfl⟩ (H.sel' [] rfl rfl)
 ·replace h := bif_f hb7 h
  refine st_skip (congrArg some hb7) ?_
  refine st_skip (congrArg some hb7) ?_
  refine st_skip (congrArg some hb7) ?_
  refine st_skip (congrArg some hb7) ?_
  refine st_skip (congrArg some hb7) ?_
  refine st (v := (B false)) (rv_pick_f (congrArg B hb7) rfl) ?_
  refine st (v := (B false)) (rv_move rfl) ?_
  refine st_skip rfl ?_
  refine st_skip rfl ?_
  refine st_skip rfl ?_
  refine st_skip rfl ?_
  refine st_skip rfl ?_
  refine st (v := (B false)) (rv_pick_f rfl rfl) ?_
  refine st (v := (B false)) (rv_assign rfl) ?_
  refine w_end ?_
  refine q_then ?_
  refine c_ret ?_
  obtain rfl := Option.some.inj h
  exact fin_ret (v := (B false)) (results_ok Try.results25 (res_tmp (v := (B false)) rfl res_nil) rfl) ⟨rfl, rfl⟩ (H.sel' [] rfl rfl)

theorem c_laws_FnReplayLogCount {code_0 : List UInt8} {acode_0 : Option Addr} {ccode_0 : Nat} {r : Bool} (h : M.laws_FnReplayLogCount code_0 = some r) :
    Cal2 Try.prog 4 [(Sl acode_0 code_0 ccode_0)] [Ch.ro 0 (Sl acode_0 code_0 ccode_0) code_0] (fun n0 v L => v = (B r) ∧ L = []) := by
 refine cal2 (n := 110) Try.func4 rfl rfl rfl rfl ?_
 intro S0 σ0 n0 hn0 H
 unfold M.laws_FnReplayLogCount at h
 refine c_seq ?_
 refine rg ?_
 refine st (v := (B false)) (rv_assign rfl) ?_
 refine w_end ?_
 refine q_then ?_
 refine c_seq ?_
 refine c_seq ?_
 refine rg ?_
 refine st (v := (Sl acode_0 code_0 ccode_0)) (rv_move rfl) ?_
 refine st (v := (I (code_0.length : Int))) (rv_len Try.underlying22 rfl) ?_
 refine st (v := (B (decide (1048576 < (code_0.length : Int))))) (rv_gtr (a := (code_0.length : Int)) (b := 1048576) rfl rfl) ?_
 refine w_end ?_
 refine q_then ?_
 refine cd_cond (decide (1048576 < (code_0.length : Int))) rfl (fun hb1 => ?_) (fun hb1 => ?_)
 ·replace h := bif_t hb1 h
  refine c_seq ?_
  refine rg ?_
  refine st (v := (B true)) (rv_assign rfl) ?_
  refine w_end ?_
  refine q_then ?_
  refine c_ret ?_
  refine q_then_r ?_
  obtain rfl := Option.some.inj h
  exact fin_ret (v := (B true)) (results_ok Try.results4 (res_tmp (v := (B true)) rfl res_nil) rfl) ⟨rfl, rfl⟩ (H.sel' [] rfl rfl)
 ·replace h := bif_f hb1 h
  refine c_skip ?_
  refine q_then ?_
  refine c_seq ?_
  refine rg ?_
  refine st (v := (Sl acode_0 code_0 ccode_0)) (rv_move rfl) ?_
  obtain ⟨r2, hx3, h'⟩ := bind_some h
  clear h
  have h := h'; clear h'
  have hc4 := c_spec_DrawReplayLog (acode_0 := acode_0) (ccode_0 := ccode_0) hx3
  refine st_call (cx_call hc4 (ent_f hc4.fn rfl) hn0 (show Hp S0 σ0 _ ([Ch.ro 0 (Sl acode_0 code_0 ccode_0) code_0] ++ [Ch.ro 0 (Sl acode_0 code_0 ccode_0) code_0]) from (H.sel' [0, 0] rfl rfl))) wn ?_
  rintro _ σ9 ⟨_, ⟨a5, c6, a7, c8, rfl, rfl⟩, H, -⟩
  replace H : Hp S0 σ0 σ9 [Ch.own n0 n0 (Sl a5 r2.1 c6) r2.1, Ch.own n0 n0 (Sl a7 r2.2 c8) r2.2, Ch.ro 0 (Sl acode_0 code_0 ccode_0) code_0] := H
  refine st (v := (.tuple #[(Sl a5 r2.1 c6), (Sl a7 r2.2 c8)])) (rv_move rfl) ?_
  refine st (v := (Sl a5 r2.1 c6)) (rv_extract rfl rfl) ?_
  refine st (v := (Sl a7 r2.2 c8)) (rv_extract rfl rfl) ?_
  refine st (v := (Sl a5 r2.1 c6)) (rv_assign rfl) ?_
  refine st (v := (Sl a7 r2.2 c8)) (rv_assign rfl) ?_
  refine w_end ?_
  refine q_then ?_
  refine c_seq ?_
  refine rg ?_
  refine st (v := (Sl a5 r2.1 c6)) (rv_move rfl) ?_
  refine st (v := (Sl a7 r2.2 c8)) (rv_move rfl) ?_
  obtain ⟨σ10, hw11, H, -⟩ := H.pub 0 rfl (Nat.le_refl _)
  rw [← hw11]; clear hw11
  obtain ⟨σ12, hw13, H, -⟩ := H.pub 1 rfl (Nat.le_refl _)
  rw [← hw13]; clear hw13
  replace H := H.roLow 1 0 rfl (Nat.zero_le _)
  replace H := H.roLow 1 0 rfl (Nat.zero_le _)
  obtain ⟨r14, hx15, h'⟩ := bind_some h
  clear h
  have h := h'; clear h'
  have hc16 := c_impl_ReplayLog (alist_0 := a5) (clist_0 := c6) (alog_1 := a7) (clog_1 := c8) hx15
  refine st_call (cx_call hc16 (ent_f hc16.fn rfl) hn0 (show Hp S0 σ0 _ ([Ch.ro 0 (Sl a5 r2.1 c6) r2.1, Ch.ro 0 (Sl a7 r2.2 c8) r2.2] ++ [Ch.ro 0 (Sl a7 r2.2 c8) r2.2, Ch.ro 0 (Sl a5 r2.1 c6) r2.1, Ch.ro n0 (Sl a7 r2.2 c8) r2.2, Ch.ro n0 (Sl a5 r2.1 c6) r2.1, Ch.ro 0 (Sl acode_0 code_0 ccode_0) code_0]) from (H.sel' [1, 0, 0, 1, 2, 3, 4] rfl rfl))) wn ?_
  rintro _ σ19 ⟨_, ⟨a17, c18, rfl, rfl⟩, H, -⟩
  replace H : Hp S0 σ0 σ19 [Ch.ro 0 (Sl a17 r14.1 c18) r14.1, Ch.ro 0 (Sl a7 r2.2 c8) r2.2, Ch.ro 0 (Sl a5 r2.1 c6) r2.1, Ch.ro n0 (Sl a7 r2.2 c8) r2.2, Ch.ro n0 (Sl a5 r2.1 c6) r2.1, Ch.ro 0 (Sl acode_0 code_0 ccode_0) code_0] := H
  refine st (v := (.tuple #[(Sl a17 r14.1 c18), (I r14.2)])) (rv_move rfl) ?_
  refine st (v := (Sl a17 r14.1 c18)) (rv_extract rfl rfl) ?_
  refine st (v := (I r14.2)) (rv_extract rfl rfl) ?_
  refine st (v := (Sl a17 r14.1 c18)) (rv_assign rfl) ?_
  refine st (v := (I r14.2)) (rv_assign rfl) ?_
  refine w_end ?_
  refine q_then ?_
  refine c_seq ?_
  refine rg ?_
  refine st (v := (Sl a5 r2.1 c6)) (rv_move rfl) ?_
  refine st (v := (Sl a7 r2.2 c8)) (rv_move rfl) ?_
  replace H := H.roLow 4 0 rfl (Nat.zero_le _)
  replace H := H.roLow 4 0 rfl (Nat.zero_le _)
  obtain ⟨r20, hx21, h'⟩ := bind_some h
  clear h
  have h := h'; clear h'
  have hc22 := c_spec_ReplayLog (alist_0 := a5) (clist_0 := c6) (alog_1 := a7) (clog_1 := c8) hx21
  refine st_call (cx_call hc22 (ent_f hc22.fn rfl) hn0 (show Hp S0 σ0 _ ([Ch.ro 0 (Sl a5 r2.1 c6) r2.1, Ch.ro 0 (Sl a7 r2.2 c8) r2.2] ++ [Ch.ro 0 (Sl a7 r2.2 c8) r2.2, Ch.ro 0 (Sl a5 r2.1 c6) r2.1, Ch.ro 0 (Sl a17 r14.1 c18) r14.1, Ch.ro 0 (Sl a7 r2.2 c8) r2.2, Ch.ro 0 (Sl a5 r2.1 c6) r2.1, Ch.ro n0 (Sl a7 r2.2 c8) r2.2, Ch.ro n0 (Sl a5 r2.1 c6) r2.1, Ch.ro 0 (Sl acode_0 code_0 ccode_0) code_0]) from (H.sel' [1, 0, 0, 1, 2, 3, 4, 5, 6, 7] rfl rfl))) wn ?_
  rintro _ σ25 ⟨_, ⟨a23, c24, rfl, rfl⟩, H, -⟩
  replace H : Hp S0 σ0 σ25 [Ch.own n0 n0 (Sl a23 r20.1 c24) r20.1, Ch.ro 0 (Sl a7 r2.2 c8) r2.2, Ch.ro 0 (Sl a5 r2.1 c6) r2.1, Ch.ro 0 (Sl a17 r14.1 c18) r14.1, Ch.ro 0 (Sl a7 r2.2 c8) r2.2, Ch.ro 0 (Sl a5 r2.1 c6) r2.1, Ch.ro n0 (Sl a7 r2.2 c8) r2.2, Ch.ro n0 (Sl a5 r2.1 c6) r2.1, Ch.ro 0 (Sl acode_0 code_0 ccode_0) code_0] := H
  replace H : Hp S0 σ0 σ25 [Ch.own n0 n0 (Sl a23 r20.1 c24) r20.1, Ch.ro 0 (Sl a17 r14.1 c18) r14.1, Ch.ro n0 (Sl a7 r2.2 c8) r2.2, Ch.ro n0 (Sl a5 r2.1 c6) r2.1] := H.sel' [0, 3, 6, 7] rfl rfl
  refine st (v := (.tuple #[(Sl a23 r20.1 c24), (I r20.2)])) (rv_move rfl) ?_
  refine st (v := (Sl a23 r20.1 c24)) (rv_extract rfl rfl) ?_
  refine st (v := (I r20.2)) (rv_extract rfl rfl) ?_
  refine st (v := (Sl a23 r20.1 c24)) (rv_assign rfl) ?_
  refine st (v := (I r20.2)) (rv_assign rfl) ?_
  refine w_end ?_
  refine q_then ?_
  refine c_seq ?_
  refine c_seq ?_
  obtain ⟨o26, hj, h'⟩ := bind_some h
  clear h
  refine c_cut (fun e a w => e = .normal ∧ ∃ (ρ : Nat → Value) (σ : St), a = fr 110 (updL ρ [(3, (Sl a5 r2.1 c6)), (4, (Sl a7 r2.2 c8)), (5, (Sl a17 r14.1 c18)), (6, (I r14.2)), (7, (Sl a23 r20.1 c24)), (8, (I r20.2)), (46, (B o26))]) ∧ w = σ.w ∧ Hp S0 σ0 σ [Ch.ro n0 (Sl a5 r2.1 c6) r2.1, Ch.ro n0 (Sl a7 r2.2 c8) r2.2, Ch.ro 0 (Sl a17 r14.1 c18) r14.1, Ch.own n0 n0 (Sl a23 r20.1 c24) r20.1]) ?_ ?_
  ·clear h'
   rename _ = some o26 => h
   refine rg ?_
   refine st (v := (Sl a17 r14.1 c18)) (rv_move rfl) ?_
   refine st (v := (Sl a23 r20.1 c24)) (rv_move rfl) ?_
   obtain ⟨r27, hx28, h'⟩ := bind_some h
   clear h
   have h := h'; clear h'
   have hc29 := c_laws_equalItems (aa_0 := a17) (ca_0 := c18) (ab_1 := a23) (cb_1 := c24) hx28
   have hle := Nat.le_trans hn0 H.size
   refine st_call (cx_lend (Loan.same (Loan.lend Loan.nil)) hc29 (ent_f hc29.fn rfl) (show Hp S0 σ0 _ ([Ch.own n0 n0 (Sl a23 r20.1 c24) r20.1] ++ ([Ch.ro 0 (Sl a17 r14.1 c18) r14.1] ++ [Ch.ro 0 (Sl a17 r14.1 c18) r14.1, Ch.ro n0 (Sl a7 r2.2 c8) r2.2, Ch.ro n0 (Sl a5 r2.1 c6) r2.1])) from (H.sel' [0, 1, 1, 2, 3] rfl rfl)) (by rintro _ _ _ ⟨rfl, rfl⟩; exact trivial)) wn ?_
   rintro _ σ30 ⟨_, ⟨rfl, rfl⟩, H, -, -⟩
   replace H : Hp S0 σ0 σ30 [Ch.own n0 n0 (Sl a23 r20.1 c24) r20.1, Ch.ro 0 (Sl a17 r14.1 c18) r14.1, Ch.ro n0 (Sl a7 r2.2 c8) r2.2, Ch.ro n0 (Sl a5 r2.1 c6) r2.1] := H
   clear hle
   replace H : Hp S0 σ0 σ30 [Ch.own n0 n0 (Sl a23 r20.1 c24) r20.1, Ch.ro 0 (Sl a17 r14.1 c18) r14.1, Ch.ro n0 (Sl a7 r2.2 c8) r2.2, Ch.ro n0 (Sl a5 r2.1 c6) r2.1] := H
   refine st (v := (B (!r27))) (rv_not rfl) ?_
   refine st (v := (B (!r27))) (rv_move rfl) ?_
   rcases Bool.eq_false_or_eq_true (!r27) with hb31 | hb31
   ·replace h := bif_t hb31 h
    refine st_skip (congrArg some hb31) ?_
    refine st_skip (congrArg some hb31) ?_
    refine st_skip (congrArg some hb31) ?_
    refine st (v := (B true)) (rv_pick_t (congrArg B hb31) rfl) ?_
    refine st (v := (B true)) (rv_move rfl) ?_
    refine st_skip rfl ?_
    refine st_skip rfl ?_
    refine st (v := (B true)) (rv_pick_t rfl rfl) ?_
    refine w_end ?_
    obtain rfl := Option.some.inj h
    exact ⟨rfl, _, σ30, fr_join ⟨rfl, rfl, rfl, rfl, rfl, rfl, rfl, trivial⟩, rfl, H.sel' [3, 2, 1, 0] rfl rfl⟩
   ·replace h := bif_f hb31 h
    refine st_g (v := (I r14.2)) (congrArg some hb31) (rv_move rfl) ?_
    refine st_g (v := (I r20.2)) (congrArg some hb31) (rv_move rfl) ?_
    refine st_g (v := (B (r14.2 != r20.2))) (congrArg some hb31) (rv_neq (a := r14.2) (b := r20.2) rfl rfl) ?_
    refine st (v := (B (r14.2 != r20.2))) (rv_pick_f (congrArg B hb31) rfl) ?_
    refine st (v := (B (r14.2 != r20.2))) (rv_move rfl) ?_
    rcases Bool.eq_false_or_eq_true (r14.2 != r20.2) with hb32 | hb32
    ·replace h := bif_t hb32 h
     refine st_skip (congrArg some hb32) ?_
     refine st_skip (congrArg some hb32) ?_
     refine st (v := (B true)) (rv_pick_t (congrArg B hb32) rfl) ?_
     refine w_end ?_
     obtain rfl := Option.some.inj h
     exact ⟨rfl, _, σ30, fr_join ⟨rfl, rfl, rfl, rfl, rfl, rfl, rfl, trivial⟩, rfl, H.sel' [3, 2, 1, 0] rfl rfl⟩
    ·replace h := bif_f hb32 h
     refine st_g (v := (I r14.2)) (congrArg some hb32) (rv_move rfl) ?_
     refine st_g (v := (B (decide (r14.2 < 0)))) (congrArg some hb32) (rv_lss (a := r14.2) (b := 0) rfl rfl) ?_
     refine st (v := (B (decide (r14.2 < 0)))) (rv_pick_f (congrArg B hb32) rfl) ?_
     refine w_end ?_
     obtain rfl := Option.some.inj h
     exact ⟨rfl, _, σ30, fr_join ⟨rfl, rfl, rfl, rfl, rfl, rfl, rfl, trivial⟩, rfl, H.sel' [3, 2, 1, 0] rfl rfl⟩
  ·clear hj
   have h := h'
   clear h' H
   rintro e a w ⟨rfl, ρ, σ33, rfl, rfl, H⟩
   refine q_then ?_
   refine cd_cond o26 rfl (fun hb34 => ?_) (fun hb34 => ?_)
   ·replace h := bif_t hb34 h
    refine c_seq ?_
    refine rg ?_
    refine st (v := (Sl a17 r14.1 c18)) (rv_move rfl) ?_
    refine st (v := (Sl a23 r20.1 c24)) (rv_move rfl) ?_
    obtain ⟨σ35, hw36, H, -⟩ := H.pub 3 rfl (Nat.le_refl _)
    rw [← hw36]; clear hw36
    replace H := H.roLow 0 0 rfl (Nat.zero_le _)
    obtain ⟨r37, hx38, h'⟩ := bind_some h
    clear h
    have h := h'; clear h'
    have hc39 := c_laws_equalItems (aa_0 := a17) (ca_0 := c18) (ab_1 := a23) (cb_1 := c24) hx38
    refine st_call (cx_call hc39 (ent_f hc39.fn rfl) hn0 (show Hp S0 σ0 _ ([Ch.ro 0 (Sl a17 r14.1 c18) r14.1, Ch.ro 0 (Sl a23 r20.1 c24) r20.1] ++ [Ch.ro 0 (Sl a23 r20.1 c24) r20.1, Ch.ro n0 (Sl a23 r20.1 c24) r20.1, Ch.ro n0 (Sl a5 r2.1 c6) r2.1, Ch.ro n0 (Sl a7 r2.2 c8) r2.2, Ch.ro 0 (Sl a17 r14.1 c18) r14.1]) from (H.sel' [4, 0, 0, 1, 2, 3, 4] rfl rfl))) wn ?_
    rintro _ σ40 ⟨_, ⟨rfl, rfl⟩, H, -⟩
    replace H : Hp S0 σ0 σ40 [Ch.ro 0 (Sl a23 r20.1 c24) r20.1, Ch.ro n0 (Sl a23 r20.1 c24) r20.1, Ch.ro n0 (Sl a5 r2.1 c6) r2.1, Ch.ro n0 (Sl a7 r2.2 c8) r2.2, Ch.ro 0 (Sl a17 r14.1 c18) r14.1] := H
    refine st (v := (B r37)) (rv_move rfl) ?_
    rcases Bool.eq_false_or_eq_true r37 with hb41 | hb41
    ·replace h := bif_t hb41 h
     refine st_g (v := (I r14.2)) (congrArg some hb41) (rv_move rfl) ?_
     refine st_g (v := (I r20.2)) (congrArg some hb41) (rv_move rfl) ?_
     refine st_g (v := (B (r14.2 == r20.2))) (congrArg some hb41) (rv_eql (a := r14.2) (b := r20.2) rfl rfl) ?_
     refine st (v := (B (r14.2 == r20.2))) (rv_pick_t (congrArg B hb41) rfl) ?_
     refine st (v := (B (r14.2 == r20.2))) (rv_assign rfl) ?_
     refine w_end ?_
     refine q_then ?_
     refine c_ret ?_
     refine q_then_r ?_
     obtain rfl := Option.some.inj h
     exact fin_ret (v := (B (r14.2 == r20.2))) (results_ok Try.results4 (res_tmp (v := (B (r14.2 == r20.2))) rfl res_nil) rfl) ⟨rfl, rfl⟩ (H.sel' [] rfl rfl)
    ·replace h := bif_f hb41 h
     refine st_skip (congrArg some hb41) ?_
     refine st_skip (congrArg some hb41) ?_
     refine st_skip (congrArg some hb41) ?_
     refine st (v := (B false)) (rv_pick_f (congrArg B hb41) rfl) ?_
     refine st (v := (B false)) (rv_assign rfl) ?_
     refine w_end ?_
     refine q_then ?_
     refine c_ret ?_
     refine q_then_r ?_
     obtain rfl := Option.some.inj h
     exact fin_ret (v := (B false)) (results_ok Try.results4 (res_tmp (v := (B false)) rfl res_nil) rfl) ⟨rfl, rfl⟩ (H.sel' [] rfl rfl)
   ·replace h := bif_f hb34 h
    refine c_skip ?_
    refine q_then ?_
    refine c_seq ?_
    refine rg ?_
    refine st_ex (ex_buildSlice (el := n0) (xs := ([] : List Int)) (ps := []) (cs := []) H hn0 Try.underlying26 ti3 rfl rfl (by kernel_rfl) (.nil) rfl) wn ?_
    rintro _ σ43 ⟨b42, rfl, H, -⟩
    refine st (v := (Sl (some ⟨b42, 0, none⟩) ([] : List Int) 0)) (rv_assign rfl) ?_
    refine w_end ?_
    refine q_then ?_
    refine c_seq ?_
    refine c_seq ?_
    refine rg ?_
    refine st (v := (I 0)) (rv_assign rfl) ?_
    refine w_end ?_
    refine q_then ?_
    obtain ⟨o44, hj, h'⟩ := bind_some h
    clear h
    refine c_cut (fun e a w => e = .normal ∧ ∃ (ρ : Nat → Value) (σ : St) (aj1 : Option Addr) (cj2 : Nat), a = fr 110 (updL ρ [(3, (Sl a5 r2.1 c6)), (5, (Sl a17 r14.1 c18)), (9, (Sl aj1 o44 cj2))]) ∧ w = σ.w ∧ Hp S0 σ0 σ [Ch.ro n0 (Sl a5 r2.1 c6) r2.1, Ch.ro 0 (Sl a17 r14.1 c18) r14.1, Ch.own n0 n0 (Sl aj1 o44 cj2) o44]) ?_ ?_
    ·clear h'
     rename _ = some o44 => h
     refine c_blk ?_
     refine wp_loopM _ h (fun s45 a w => ∃ (ρ : Nat → Value) (σ : St) (aj1 : Option Addr) (cj2 : Nat), a = fr 110 (updL ρ [(3, (Sl a5 r2.1 c6)), (4, (Sl a7 r2.2 c8)), (5, (Sl a17 r14.1 c18)), (9, (Sl aj1 s45.1 cj2)), (10, (I s45.2))]) ∧ w = σ.w ∧ Hp S0 σ0 σ [Ch.ro n0 (Sl a5 r2.1 c6) r2.1, Ch.ro n0 (Sl a7 r2.2 c8) r2.2, Ch.ro 0 (Sl a17 r14.1 c18) r14.1, Ch.own n0 n0 (Sl aj1 s45.1 cj2) s45.1]) ⟨_, σ43, (some ⟨b42, 0, none⟩), 0, fr_join ⟨rfl, rfl, rfl, rfl, rfl, trivial⟩, rfl, H.sel' [1, 2, 3, 0] rfl rfl⟩ ?_
     clear h H
     rintro s45 a w o ⟨ρ, σ46, a47, c48, rfl, rfl, H⟩ h hres
     refine c_seq ?_
     refine c_seq ?_
     refine rg ?_
     refine st (v := (I s45.2)) (rv_move rfl) ?_
     refine st (v := (Sl a7 r2.2 c8)) (rv_move rfl) ?_
     refine st (v := (I (r2.2.length : Int))) (rv_len Try.underlying35 rfl) ?_
     refine st (v := (B (decide (s45.2 < (r2.2.length : Int))))) (rv_lss (a := s45.2) (b := (r2.2.length : Int)) rfl rfl) ?_
     refine w_end ?_
     refine q_then ?_
     refine cd_cond (decide (s45.2 < (r2.2.length : Int))) rfl (fun hb49 => ?_) (fun hb49 => ?_)
     ·replace h := bif_t hb49 h
      refine c_skip ?_
      refine q_then ?_
      refine c_seq ?_
      refine c_blk ?_
      refine rg ?_
      refine st (v := (Sl a47 s45.1 c48)) (rv_move rfl) ?_
      refine st (v := (Sl a7 r2.2 c8)) (rv_move rfl) ?_
      refine st (v := (I s45.2)) (rv_move rfl) ?_
      obtain ⟨x50, hx51, h'⟩ := bind_some h
      clear h
      have h := h'; clear h'
      obtain ⟨b53, o54, hi52, -⟩ := (H.ro 1 rfl).ix hx51
      refine st (v := (pt b53 o54)) (rv_ix Try.underlying35 ti42 rfl rfl hi52) ?_
      refine st (v := (pt b53 (o54 + 1))) (rv_fieldAddr (off := 1) (ft := 32) Try.underlying42 rfl ti32 rfl rfl) ?_
      refine st (v := (pt b53 (o54 + 1))) (rv_fieldAddr (off := 0) (ft := 3) Try.underlying32 rfl ti3 rfl rfl) ?_
      have hc55 := ((H.ro 1 rfl).at hx51 hi52).snd.fst.int
      refine st (v := (I x50.2.1)) (rv_load1 Try.underlying3 rfl rfl hc55) ?_
      refine st_ex (ex_buildSlice (el := n0) (xs := ([x50.2.1] : List Int)) (ps := [(0, (I x50.2.1))]) (cs := [(I x50.2.1)]) H hn0 Try.underlying26 ti3 rfl rfl (by kernel_rfl) (.cons (c := [(I x50.2.1)]) rfl (.nil)) rfl) wn ?_
      rintro _ σ57 ⟨b56, rfl, H, -⟩
      obtain ⟨xs58, hx59, h'⟩ := bind_some h
      clear h
      have h := h'; clear h'
      refine st_ex (ex_append H (i := 4) rfl Try.underlying26 Try.underlying26 ti3 rfl rfl (by decide) (H.own 0 rfl).rd hx59 hn0 rfl rfl) wn ?_
      rintro _ σ62 ⟨a60, c61, rfl, H, -⟩
      refine st (v := (Sl a60 xs58 c61)) (rv_assign rfl) ?_
      refine w_end ?_
      refine q_blk ?_
      refine q_then ?_
      refine rg ?_
      refine st (v := (I s45.2)) (rv_move rfl) ?_
      refine st (v := (I (w64 (s45.2 + 1)))) (rv_add (a := s45.2) (b := 1) rfl rfl) ?_
      refine st (v := (I (w64 (s45.2 + 1)))) (rv_assign rfl) ?_
      refine w_end ?_
      refine q_then ?_
      obtain rfl := Option.some.inj h
      exact ⟨_, rfl, _, σ62, a60, c61, fr_join ⟨rfl, rfl, rfl, rfl, rfl, trivial⟩, rfl, H.sel' [2, 3, 4, 0] rfl rfl⟩
     ·replace h := bif_f hb49 h
      refine c_exit ?_
      refine q_then_x ?_
      refine q_then_x ?_
      refine q_blk_hit ?_
      obtain rfl := Option.some.inj h
      obtain rfl := hres _ rfl
      exact ⟨rfl, _, σ46, a47, c48, fr_join ⟨rfl, rfl, rfl, trivial⟩, rfl, H.sel' [0, 2, 3] rfl rfl⟩
    ·clear hj
     have h := h'
     clear h' H
     rintro e a w ⟨rfl, ρ, σ63, a64, c65, rfl, rfl, H⟩
     refine q_then ?_
     refine c_seq ?_
     refine c_seq ?_
     refine rg ?_
     refine st (v := (I 0)) (rv_assign rfl) ?_
     refine w_end ?_
     refine q_then ?_
     obtain ⟨o66, hj, h'⟩ := bind_some h
     clear h
     refine c_cut (fun e a w => (∃ t, o66 = (.inl t) ∧ e = .normal ∧ ∃ (ρ : Nat → Value) (σ : St), a = fr 110 (updL ρ [(5, (Sl a17 r14.1 c18))]) ∧ w = σ.w ∧ Hp S0 σ0 σ [Ch.ro 0 (Sl a17 r14.1 c18) r14.1]) ∨ (∃ t, o66 = (.inr t) ∧ e = .ret ∧ ∃ (ρ : Nat → Value) (σ : St), a = fr 110 (updL ρ [(2, (B t))]) ∧ w = σ.w ∧ Hp S0 σ0 σ [])) ?_ ?_
     ·clear h'
      rename _ = some o66 => h
      refine c_blk ?_
      obtain ⟨σ68, hw69, H, -⟩ := H.pub 2 rfl (Nat.le_refl _)
      rw [← hw69]; clear hw69
      refine wp_loopM _ h (fun s67 a w => ∃ (ρ : Nat → Value) (σ : St), a = fr 110 (updL ρ [(3, (Sl a5 r2.1 c6)), (5, (Sl a17 r14.1 c18)), (9, (Sl a64 o44 c65)), (11, (I s67))]) ∧ w = σ.w ∧ Hp S0 σ0 σ [Ch.ro n0 (Sl a5 r2.1 c6) r2.1, Ch.ro 0 (Sl a17 r14.1 c18) r14.1, Ch.ro n0 (Sl a64 o44 c65) o44]) ⟨_, σ68, fr_join ⟨rfl, rfl, rfl, rfl, trivial⟩, rfl, H.sel' [1, 2, 0] rfl rfl⟩ ?_
      clear h H
      rintro s67 a w o ⟨ρ, σ70, rfl, rfl, H⟩ h hres
      refine c_seq ?_
      refine c_seq ?_
      refine rg ?_
      refine st (v := (I s67)) (rv_move rfl) ?_
      refine st (v := (Sl a5 r2.1 c6)) (rv_move rfl) ?_
      refine st (v := (I (r2.1.length : Int))) (rv_len Try.underlying23 rfl) ?_
      refine st (v := (B (decide (s67 < (r2.1.length : Int))))) (rv_lss (a := s67) (b := (r2.1.length : Int)) rfl rfl) ?_
      refine w_end ?_
      refine q_then ?_
      refine cd_cond (decide (s67 < (r2.1.length : Int))) rfl (fun hb71 => ?_) (fun hb71 => ?_)
      ·replace h := bif_t hb71 h
       refine c_skip ?_
       refine q_then ?_
       refine c_seq ?_
       refine c_blk ?_
       refine c_seq ?_
       refine rg ?_
       refine st (v := (Sl a17 r14.1 c18)) (rv_move rfl) ?_
       refine st (v := (Sl a5 r2.1 c6)) (rv_move rfl) ?_
       refine st (v := (I s67)) (rv_move rfl) ?_
       obtain ⟨x72, hx73, h'⟩ := bind_some h
       clear h
       have h := h'; clear h'
       obtain ⟨b75, o76, hi74, -⟩ := (H.ro 0 rfl).ix hx73
       refine st (v := (pt b75 o76)) (rv_ix Try.underlying23 ti32 rfl rfl hi74) ?_
       refine st (v := (pt b75 (o76 + 0))) (rv_fieldAddr (off := 0) (ft := 3) Try.underlying32 rfl ti3 rfl rfl) ?_
       have hc77 := ((H.ro 0 rfl).at hx73 hi74).fst.int
       refine st (v := (I x72.1)) (rv_load1 Try.underlying3 rfl rfl hc77) ?_
       obtain ⟨r78, hx79, h'⟩ := bind_some h
       clear h
       have h := h'; clear h'
       have hc80 := c_impl_GetItem (alist_0 := a17) (clist_0 := c18) hx79
       refine st_call (cx_call hc80 (ent_f hc80.fn rfl) hn0 (show Hp S0 σ0 _ ([Ch.ro 0 (Sl a17 r14.1 c18) r14.1] ++ [Ch.ro n0 (Sl a5 r2.1 c6) r2.1, Ch.ro 0 (Sl a17 r14.1 c18) r14.1, Ch.ro n0 (Sl a64 o44 c65) o44]) from (H.sel' [1, 0, 1, 2] rfl rfl))) wn ?_
       rintro _ σ83 ⟨_, ⟨a81, c82, rfl, rfl⟩, H, -⟩
       replace H : Hp S0 σ0 σ83 [Ch.own n0 n0 (Sl a81 r78.1.2.1 c82) r78.1.2.1, Ch.ro n0 (Sl a5 r2.1 c6) r2.1, Ch.ro 0 (Sl a17 r14.1 c18) r14.1, Ch.ro n0 (Sl a64 o44 c65) o44] := H
       refine st (v := (.tuple #[(.agg #[(I r78.1.1), (Sl a81 r78.1.2.1 c82), (I r78.1.2.2)]), (B r78.2)])) (rv_move rfl) ?_
       refine st (v := (.agg #[(I r78.1.1), (Sl a81 r78.1.2.1 c82), (I r78.1.2.2)])) (rv_extract rfl rfl) ?_
       refine st (v := (B r78.2)) (rv_extract rfl rfl) ?_
       refine st_ex (ex_alloc (cs := [(I 0), (.slice none 0 0), (I 0)]) H hn0 ti32 rfl) wn ?_
       rintro _ σ85 ⟨b84, rfl, H, -⟩
       refine st_exS (ex_store_box (k := 0) (cs := [(I 0), (.slice none 0 0), (I 0)]) (vs := [(I r78.1.1), (Sl a81 r78.1.2.1 c82), (I r78.1.2.2)]) (cs' := [(I r78.1.1), (Sl a81 r78.1.2.1 c82), (I r78.1.2.2)]) H (i := 0) rfl ti32 rfl rfl rfl rfl rfl (Nat.le_of_ble_eq_true rfl) (by simp [plain]) rfl) wn ?_
       rintro σ86 ⟨H, -⟩
       refine st (v := (B r78.2)) (rv_assign rfl) ?_
       refine w_end ?_
       refine q_then ?_
       refine c_seq ?_
       obtain ⟨o87, hj, h'⟩ := bind_some h
       clear h
       refine c_cut (fun e a w => e = .normal ∧ ∃ (ρ : Nat → Value) (σ : St), a = fr 110 (updL ρ [(3, (Sl a5 r2.1 c6)), (5, (Sl a17 r14.1 c18)), (9, (Sl a64 o44 c65)), (11, (I s67)), (107, (B o87))]) ∧ w = σ.w ∧ Hp S0 σ0 σ [Ch.ro n0 (Sl a5 r2.1 c6) r2.1, Ch.ro 0 (Sl a17 r14.1 c18) r14.1, Ch.ro n0 (Sl a64 o44 c65) o44]) ?_ ?_
       ·clear h'
        rename _ = some o87 => h
        obtain ⟨x88, hx89, h'⟩ := bind_some h
        clear h
        have h := h'; clear h'
        obtain ⟨b91, o92, hi90, -⟩ := (H.ro 2 rfl).ix hx89
        have hc93 := ((H.ro 2 rfl).at hx89 hi90).fst.int
        replace H := H.roLow 4 0 rfl (Nat.zero_le _)
        obtain ⟨r94, hx95, h'⟩ := bind_some h
        clear h
        have h := h'; clear h'
        have hc96 := c_laws_isIn (alist_0 := a64) (clist_0 := c65) hx95
        rcases Bool.eq_false_or_eq_true (!r94) with hb97 | hb97
        ·replace h := bif_t hb97 h
         rcases Bool.eq_false_or_eq_true (!r78.2) with hb98 | hb98
         ·replace h := bif_t hb98 h
          have Hs := H
          refine rg2 (σ := σ86) (Nm := Unit) 17 [6] [[false], [true]] [[(0, 0)], [(0, 0)], [(0, 0)], [(0, 0)], [(0, 0)], [(0, 0)], [(0, 1)], [(1, 1)], [(1, 1)], [(1, 1)], [(1, 1)], [(1, 1)], [(1, 1)], [(1, 1)], [(1, 1)], [(1, 1)], [(1, 1)]] 1 [fun _ => fun σm => Hp S0 σ0 σm [Ch.ro 0 (Sl a64 o44 c65) o44, Ch.bx n0 b84 0 [(I r78.1.1), (Sl a81 r78.1.2.1 c82), (I r78.1.2.2)] [] [], Ch.own n0 n0 (Sl a81 r78.1.2.1 c82) r78.1.2.1, Ch.ro n0 (Sl a5 r2.1 c6) r2.1, Ch.ro 0 (Sl a17 r14.1 c18) r14.1, Ch.ro n0 (Sl a64 o44 c65) o44] ∧ Md (cov []) σ86 σm, fun _ => fun σm => Hp S0 σ0 σm [Ch.ro 0 (Sl a64 o44 c65) o44, Ch.bx n0 b84 0 [(I r78.1.1), (Sl a81 r78.1.2.1 c82), (I r78.1.2.2)] [] [], Ch.own n0 n0 (Sl a81 r78.1.2.1 c82) r78.1.2.1, Ch.ro n0 (Sl a5 r2.1 c6) r2.1, Ch.ro 0 (Sl a17 r14.1 c18) r14.1, Ch.ro n0 (Sl a64 o44 c65) o44] ∧ Md (cov []) σ86 σm] [fun _ => (Sl a64 o44 c65), fun _ => (Sl a5 r2.1 c6), fun _ => (I s67), fun _ => (pt b91 o92), fun _ => (pt b91 (o92 + 0)), fun _ => (I x88.1), fun _ => (B r94), fun _ => (B (!r94)), fun _ => (B (!r94)), fun _ => (B r78.2), fun _ => (B (!r78.2)), fun _ => (B (!r78.2)), fun _ => undef, fun _ => undef, fun _ => undef, fun _ => undef, fun _ => undef] () (by kernel_rfl) (by kernel_rfl) ?_ ?_ ?_
          ·intro σm m0
           exact ⟨H.grow (m0.mono fun _ h => h.elim), m0⟩
          ·refine ac rfl (by
             intro k _nm ρ σm hJ hoff hdep
             have e9 := look_off (N := 110) (hoff 9 rfl) rfl
             exact dp_v (v := (Sl a64 o44 c65)) wn (rv_move e9) rfl hJ) ?_
           refine ac rfl (by
             intro k _nm ρ σm hJ hoff hdep
             have e3 := look_off (N := 110) (hoff 3 rfl) rfl
             exact dp_v (v := (Sl a5 r2.1 c6)) wn (rv_move e3) rfl hJ) ?_
           refine ac rfl (by
             intro k _nm ρ σm hJ hoff hdep
             have e11 := look_off (N := 110) (hoff 11 rfl) rfl
             exact dp_v (v := (I s67)) wn (rv_move e11) rfl hJ) ?_
           refine ac rfl (by
             intro k _nm ρ σm hJ hoff hdep
             have e88 := hdep 1 rfl rfl 88 rfl
             have e89 := hdep 2 rfl rfl 89 rfl
             exact dp_v (v := (pt b91 o92)) wn (rv_ix Try.underlying23 ti32 e88 e89 hi90) rfl hJ) ?_
           refine ac rfl (by
             intro k _nm ρ σm hJ hoff hdep
             have e90 := hdep 3 rfl rfl 90 rfl
             exact dp_v (v := (pt b91 (o92 + 0))) wn (rv_fieldAddr (off := 0) (ft := 3) Try.underlying32 rfl ti3 rfl e90) rfl hJ) ?_
           refine all_cons (by
             refine ⟨?_, ?_⟩
             ·intro _nm ρ σm hJ hoff hdep
              have e91 := hdep 4 rfl rfl 91 rfl
              obtain ⟨H, m⟩ := id hJ
              replace hc93 := (Hs.ro 3 rfl).hmd hx89 hi90 (k := 0) (by decide) hc93 m
              exact dp_v (v := (I x88.1)) wn (rv_load1 Try.underlying3 rfl e91 hc93) rfl hJ
             trivial) ?_
           refine all_cons (by
             refine ⟨?_, ?_⟩
             ·intro _nm ρ σm hJ hoff hdep
              have e87 : look 110 ρ 87 = (Sl a64 o44 c65) := hdep 0 rfl rfl 87 rfl
              have e92 : look 110 ρ 92 = (I x88.1) := hdep 5 rfl rfl 92 rfl
              obtain ⟨H, m⟩ := id hJ
              refine dp_cx wn (cx_call hc96 (ent_f hc96.fn (by show [look 110 ρ 87, look 110 ρ 92] = _; rw [e87, e92])) hn0 (show Hp S0 σ0 _ ([Ch.ro 0 (Sl a64 o44 c65) o44] ++ [Ch.ro 0 (Sl a64 o44 c65) o44, Ch.bx n0 b84 0 [(I r78.1.1), (Sl a81 r78.1.2.1 c82), (I r78.1.2.2)] [] [], Ch.own n0 n0 (Sl a81 r78.1.2.1 c82) r78.1.2.1, Ch.ro n0 (Sl a5 r2.1 c6) r2.1, Ch.ro 0 (Sl a17 r14.1 c18) r14.1, Ch.ro n0 (Sl a64 o44 c65) o44]) from (H.sel' [0, 0, 1, 2, 3, 4, 5] rfl rfl))) ?_
              rintro _ σq ⟨_, ⟨rfl, rfl⟩, H2, m2⟩
              exact ⟨_, (), rfl, rfl, ⟨H2.sel' [0, 1, 2, 3, 4, 5] rfl rfl, m.comp0 (m2.mono (fun i h => by simp [cov, Ch.ro] at h))⟩, stab [0, 1, 2, 3, 4, 5] (by kernel_rfl) ⟨rfl, rfl, rfl, rfl, rfl, rfl, trivial⟩⟩
             trivial) ?_
           refine ac rfl (by
             intro k _nm ρ σm hJ hoff hdep
             have e93 := hdep 6 rfl rfl 93 rfl
             exact dp_v (v := (B (!r94))) wn (rv_not e93) rfl hJ) ?_
           refine ac rfl (by
             intro k _nm ρ σm hJ hoff hdep
             have e94 := hdep 7 rfl rfl 94 rfl
             exact dp_v (v := (B (!r94))) wn (rv_move e94) rfl hJ) ?_
           refine ac rfl (by
             intro k _nm ρ σm hJ hoff hdep
             have e13 := look_off (N := 110) (hoff 13 rfl) rfl
             have e95 := hdep 8 rfl rfl 95 rfl
             exact dp_v (v := (B r78.2)) (wanted_yes rfl (yv_of rfl (e95.trans (congrArg B hb97)))) (rv_move e13) rfl hJ) ?_
           refine ac rfl (by
             intro k _nm ρ σm hJ hoff hdep
             have e96 := hdep 9 rfl rfl 96 rfl
             have e95 := hdep 8 rfl rfl 95 rfl
             exact dp_v (v := (B (!r78.2))) (wanted_yes rfl (yv_of rfl (e95.trans (congrArg B hb97)))) (rv_not e96) rfl hJ) ?_
           refine ac rfl (by
             intro k _nm ρ σm hJ hoff hdep
             have e97 := hdep 10 rfl rfl 97 rfl
             have e95 := hdep 8 rfl rfl 95 rfl
             exact dp_v (v := (B (!r78.2))) (wanted_yes rfl (yv_of rfl (e95.trans (congrArg B hb97)))) (rv_move e97) rfl hJ) ?_
           refine ac rfl (by
             intro k _nm ρ σm hJ hoff hdep
             have e98 := hdep 11 rfl rfl 98 rfl
             exact dp_skip (wanted_no rfl (yv_of rfl (e98.trans (congrArg B hb98)))) rfl hJ) ?_
           refine ac rfl (by
             intro k _nm ρ σm hJ hoff hdep
             have e98 := hdep 11 rfl rfl 98 rfl
             exact dp_skip (wanted_no rfl (yv_of rfl (e98.trans (congrArg B hb98)))) rfl hJ) ?_
           refine ac rfl (by
             intro k _nm ρ σm hJ hoff hdep
             have e98 := hdep 11 rfl rfl 98 rfl
             exact dp_skip (wanted_no rfl (yv_of rfl (e98.trans (congrArg B hb98)))) rfl hJ) ?_
           refine ac rfl (by
             intro k _nm ρ σm hJ hoff hdep
             have e98 := hdep 11 rfl rfl 98 rfl
             exact dp_skip (wanted_no rfl (yv_of rfl (e98.trans (congrArg B hb98)))) rfl hJ) ?_
           refine ac rfl (by
             intro k _nm ρ σm hJ hoff hdep
             have e98 := hdep 11 rfl rfl 98 rfl
             exact dp_skip (wanted_no rfl (yv_of rfl (e98.trans (congrArg B hb98)))) rfl hJ) ?_
           exact all_nil
          ·intro _nm ρ σ99 hJ hoff hrel
           have e3 := look_off (N := 110) (hoff 3 rfl) rfl
           have e5 := look_off (N := 110) (hoff 5 rfl) rfl
           have e9 := look_off (N := 110) (hoff 9 rfl) rfl
           have e11 := look_off (N := 110) (hoff 11 rfl) rfl
           have e95 := hrel 8 rfl 95 rfl
           have e98 := hrel 11 rfl 98 rfl
           have e99 := hrel 12 rfl 99 rfl
           have e103 := hrel 16 rfl 103 rfl
           obtain ⟨H, -⟩ := (show Hp S0 σ0 σ99 [Ch.ro 0 (Sl a64 o44 c65) o44, Ch.bx n0 b84 0 [(I r78.1.1), (Sl a81 r78.1.2.1 c82), (I r78.1.2.2)] [] [], Ch.own n0 n0 (Sl a81 r78.1.2.1 c82) r78.1.2.1, Ch.ro n0 (Sl a5 r2.1 c6) r2.1, Ch.ro 0 (Sl a17 r14.1 c18) r14.1, Ch.ro n0 (Sl a64 o44 c65) o44] ∧ Md (cov []) σ86 σ99 from hJ)
           clear hJ Hs
           rw [fr_lookL (L := [(3, (Sl a5 r2.1 c6)), (5, (Sl a17 r14.1 c18)), (9, (Sl a64 o44 c65)), (11, (I s67)), (95, (B (!r94))), (98, (B (!r78.2))), (99, undef), (103, undef)]) ⟨e3, e5, e9, e11, e95, e98, e99, e103, trivial⟩]
           clear hoff hrel e3 e5 e9 e11 e95 e98 e99 e103
           refine st_skip (congrArg some hb98) ?_
           refine st_skip (congrArg some hb98) ?_
           refine st_g (v := (B true)) (congrArg some hb97) (rv_pick_t (congrArg B hb98) rfl) ?_
           refine st (v := (B true)) (rv_pick_t (congrArg B hb97) rfl) ?_
           refine w_end ?_
           obtain rfl := Option.some.inj h
           exact ⟨rfl, _, σ99, fr_join ⟨rfl, rfl, rfl, rfl, rfl, trivial⟩, rfl, H.sel' [3, 4, 5] rfl rfl⟩
         ·replace h := bif_f hb98 h
          have hc100 := H.cells 1 rfl
          obtain ⟨x101, hx102, h'⟩ := bind_some h
          clear h
          have h := h'; clear h'
          obtain ⟨b104, o105, hi103, -⟩ := (H.ro 3 rfl).ix hx102
          obtain ⟨_, ⟨_, _, rfl, rfl, ⟨_, _, rfl, ⟨_, rfl, hR110⟩, rfl⟩⟩, hl106, hc107⟩ := ((H.ro 3 rfl).at hx102 hi103).cells
          obtain ⟨a108, c109, rfl⟩ := hR110.isSl
          replace H := H.add (d := Ch.ro n0 (Sl a108 x101.2.1 c109) x101.2.1) hR110 (fun _ h => h)
          clear hR110
          have Hs := H
          refine rg2 (σ := σ86) (Nm := Unit) 17 [6] [[false], [true]] [[(0, 0)], [(0, 0)], [(0, 0)], [(0, 0)], [(0, 0)], [(0, 0)], [(0, 1)], [(1, 1)], [(1, 1)], [(1, 1)], [(1, 1)], [(1, 1)], [(1, 1)], [(1, 1)], [(1, 1)], [(1, 1)], [(1, 1)]] 1 [fun _ => fun σm => Hp S0 σ0 σm [Ch.ro n0 (Sl a108 x101.2.1 c109) x101.2.1, Ch.ro 0 (Sl a64 o44 c65) o44, Ch.bx n0 b84 0 [(I r78.1.1), (Sl a81 r78.1.2.1 c82), (I r78.1.2.2)] [] [], Ch.own n0 n0 (Sl a81 r78.1.2.1 c82) r78.1.2.1, Ch.ro n0 (Sl a5 r2.1 c6) r2.1, Ch.ro 0 (Sl a17 r14.1 c18) r14.1, Ch.ro n0 (Sl a64 o44 c65) o44] ∧ Md (cov []) σ86 σm, fun _ => fun σm => Hp S0 σ0 σm [Ch.ro n0 (Sl a108 x101.2.1 c109) x101.2.1, Ch.ro 0 (Sl a64 o44 c65) o44, Ch.bx n0 b84 0 [(I r78.1.1), (Sl a81 r78.1.2.1 c82), (I r78.1.2.2)] [] [], Ch.own n0 n0 (Sl a81 r78.1.2.1 c82) r78.1.2.1, Ch.ro n0 (Sl a5 r2.1 c6) r2.1, Ch.ro 0 (Sl a17 r14.1 c18) r14.1, Ch.ro n0 (Sl a64 o44 c65) o44] ∧ Md (cov []) σ86 σm] [fun _ => (Sl a64 o44 c65), fun _ => (Sl a5 r2.1 c6), fun _ => (I s67), fun _ => (pt b91 o92), fun _ => (pt b91 (o92 + 0)), fun _ => (I x88.1), fun _ => (B r94), fun _ => (B (!r94)), fun _ => (B (!r94)), fun _ => (B r78.2), fun _ => (B (!r78.2)), fun _ => (B (!r78.2)), fun _ => (.agg #[(I r78.1.1), (Sl a81 r78.1.2.1 c82), (I r78.1.2.2)]), fun _ => (Sl a5 r2.1 c6), fun _ => (I s67), fun _ => (pt b104 o105), fun _ => (.agg #[(I x101.1), (Sl a108 x101.2.1 c109), (I x101.2.2)])] () (by kernel_rfl) (by kernel_rfl) ?_ ?_ ?_
          ·intro σm m0
           exact ⟨H.grow (m0.mono fun _ h => h.elim), m0⟩
          ·refine ac rfl (by
             intro k _nm ρ σm hJ hoff hdep
             have e9 := look_off (N := 110) (hoff 9 rfl) rfl
             exact dp_v (v := (Sl a64 o44 c65)) wn (rv_move e9) rfl hJ) ?_
           refine ac rfl (by
             intro k _nm ρ σm hJ hoff hdep
             have e3 := look_off (N := 110) (hoff 3 rfl) rfl
             exact dp_v (v := (Sl a5 r2.1 c6)) wn (rv_move e3) rfl hJ) ?_
           refine ac rfl (by
             intro k _nm ρ σm hJ hoff hdep
             have e11 := look_off (N := 110) (hoff 11 rfl) rfl
             exact dp_v (v := (I s67)) wn (rv_move e11) rfl hJ) ?_
           refine ac rfl (by
             intro k _nm ρ σm hJ hoff hdep
             have e88 := hdep 1 rfl rfl 88 rfl
             have e89 := hdep 2 rfl rfl 89 rfl
             exact dp_v (v := (pt b91 o92)) wn (rv_ix Try.underlying23 ti32 e88 e89 hi90) rfl hJ) ?_
           refine ac rfl (by
             intro k _nm ρ σm hJ hoff hdep
             have e90 := hdep 3 rfl rfl 90 rfl
             exact dp_v (v := (pt b91 (o92 + 0))) wn (rv_fieldAddr (off := 0) (ft := 3) Try.underlying32 rfl ti3 rfl e90) rfl hJ) ?_
           refine all_cons (by
             refine ⟨?_, ?_⟩
             ·intro _nm ρ σm hJ hoff hdep
              have e91 := hdep 4 rfl rfl 91 rfl
              obtain ⟨H, m⟩ := id hJ
              replace hc93 := (Hs.ro 4 rfl).hmd hx89 hi90 (k := 0) (by decide) hc93 m
              exact dp_v (v := (I x88.1)) wn (rv_load1 Try.underlying3 rfl e91 hc93) rfl hJ
             trivial) ?_
           refine all_cons (by
             refine ⟨?_, ?_⟩
             ·intro _nm ρ σm hJ hoff hdep
              have e87 : look 110 ρ 87 = (Sl a64 o44 c65) := hdep 0 rfl rfl 87 rfl
              have e92 : look 110 ρ 92 = (I x88.1) := hdep 5 rfl rfl 92 rfl
              obtain ⟨H, m⟩ := id hJ
              refine dp_cx wn (cx_call hc96 (ent_f hc96.fn (by show [look 110 ρ 87, look 110 ρ 92] = _; rw [e87, e92])) hn0 (show Hp S0 σ0 _ ([Ch.ro 0 (Sl a64 o44 c65) o44] ++ [Ch.ro n0 (Sl a108 x101.2.1 c109) x101.2.1, Ch.ro 0 (Sl a64 o44 c65) o44, Ch.bx n0 b84 0 [(I r78.1.1), (Sl a81 r78.1.2.1 c82), (I r78.1.2.2)] [] [], Ch.own n0 n0 (Sl a81 r78.1.2.1 c82) r78.1.2.1, Ch.ro n0 (Sl a5 r2.1 c6) r2.1, Ch.ro 0 (Sl a17 r14.1 c18) r14.1, Ch.ro n0 (Sl a64 o44 c65) o44]) from (H.sel' [1, 0, 1, 2, 3, 4, 5, 6] rfl rfl))) ?_
              rintro _ σq ⟨_, ⟨rfl, rfl⟩, H2, m2⟩
              exact ⟨_, (), rfl, rfl, ⟨H2.sel' [0, 1, 2, 3, 4, 5, 6] rfl rfl, m.comp0 (m2.mono (fun i h => by simp [cov, Ch.ro] at h))⟩, stab [0, 1, 2, 3, 4, 5] (by kernel_rfl) ⟨rfl, rfl, rfl, rfl, rfl, rfl, trivial⟩⟩
             trivial) ?_
           refine ac rfl (by
             intro k _nm ρ σm hJ hoff hdep
             have e93 := hdep 6 rfl rfl 93 rfl
             exact dp_v (v := (B (!r94))) wn (rv_not e93) rfl hJ) ?_
           refine ac rfl (by
             intro k _nm ρ σm hJ hoff hdep
             have e94 := hdep 7 rfl rfl 94 rfl
             exact dp_v (v := (B (!r94))) wn (rv_move e94) rfl hJ) ?_
           refine ac rfl (by
             intro k _nm ρ σm hJ hoff hdep
             have e13 := look_off (N := 110) (hoff 13 rfl) rfl
             have e95 := hdep 8 rfl rfl 95 rfl
             exact dp_v (v := (B r78.2)) (wanted_yes rfl (yv_of rfl (e95.trans (congrArg B hb97)))) (rv_move e13) rfl hJ) ?_
           refine ac rfl (by
             intro k _nm ρ σm hJ hoff hdep
             have e96 := hdep 9 rfl rfl 96 rfl
             have e95 := hdep 8 rfl rfl 95 rfl
             exact dp_v (v := (B (!r78.2))) (wanted_yes rfl (yv_of rfl (e95.trans (congrArg B hb97)))) (rv_not e96) rfl hJ) ?_
           refine ac rfl (by
             intro k _nm ρ σm hJ hoff hdep
             have e97 := hdep 10 rfl rfl 97 rfl
             have e95 := hdep 8 rfl rfl 95 rfl
             exact dp_v (v := (B (!r78.2))) (wanted_yes rfl (yv_of rfl (e95.trans (congrArg B hb97)))) (rv_move e97) rfl hJ) ?_
           refine all_cons (by
             refine ⟨?_, ?_⟩
             ·intro _nm ρ σm hJ hoff hdep
              have e12 := look_off (N := 110) (hoff 12 rfl) rfl
              have e98 := hdep 11 rfl rfl 98 rfl
              obtain ⟨H, m⟩ := id hJ
              have hc100 := H.cells 2 rfl
              exact dp_v (v := (.agg #[(I r78.1.1), (Sl a81 r78.1.2.1 c82), (I r78.1.2.2)])) (wanted_yes rfl (yv_of rfl (e98.trans (congrArg B hb98)))) (rv_load (cs := [(I r78.1.1), (Sl a81 r78.1.2.1 c82), (I r78.1.2.2)]) Try.underlying32 rfl ti32 e12 rfl hc100) rfl hJ
             trivial) ?_
           refine ac rfl (by
             intro k _nm ρ σm hJ hoff hdep
             have e3 := look_off (N := 110) (hoff 3 rfl) rfl
             have e98 := hdep 11 rfl rfl 98 rfl
             exact dp_v (v := (Sl a5 r2.1 c6)) (wanted_yes rfl (yv_of rfl (e98.trans (congrArg B hb98)))) (rv_move e3) rfl hJ) ?_
           refine ac rfl (by
             intro k _nm ρ σm hJ hoff hdep
             have e11 := look_off (N := 110) (hoff 11 rfl) rfl
             have e98 := hdep 11 rfl rfl 98 rfl
             exact dp_v (v := (I s67)) (wanted_yes rfl (yv_of rfl (e98.trans (congrArg B hb98)))) (rv_move e11) rfl hJ) ?_
           refine ac rfl (by
             intro k _nm ρ σm hJ hoff hdep
             have e100 := hdep 13 rfl rfl 100 rfl
             have e101 := hdep 14 rfl rfl 101 rfl
             have e98 := hdep 11 rfl rfl 98 rfl
             exact dp_v (v := (pt b104 o105)) (wanted_yes rfl (yv_of rfl (e98.trans (congrArg B hb98)))) (rv_ix Try.underlying23 ti32 e100 e101 hi103) rfl hJ) ?_
           refine all_cons (by
             refine ⟨?_, ?_⟩
             ·intro _nm ρ σm hJ hoff hdep
              have e102 := hdep 15 rfl rfl 102 rfl
              have e98 := hdep 11 rfl rfl 98 rfl
              obtain ⟨H, m⟩ := id hJ
              replace hc107 := fun j hj => (Hs.ro 4 rfl).hmd hx102 hi103 (k := j) (Nat.lt_of_lt_of_eq hj hl106) (hc107 j hj) m
              exact dp_v (v := (.agg #[(I x101.1), (Sl a108 x101.2.1 c109), (I x101.2.2)])) (wanted_yes rfl (yv_of rfl (e98.trans (congrArg B hb98)))) (rv_load Try.underlying32 rfl ti32 e102 hl106 hc107) rfl hJ
             trivial) ?_
           exact all_nil
          ·intro _nm ρ σ111 hJ hoff hrel
           have e3 := look_off (N := 110) (hoff 3 rfl) rfl
           have e5 := look_off (N := 110) (hoff 5 rfl) rfl
           have e9 := look_off (N := 110) (hoff 9 rfl) rfl
           have e11 := look_off (N := 110) (hoff 11 rfl) rfl
           have e95 := hrel 8 rfl 95 rfl
           have e98 := hrel 11 rfl 98 rfl
           have e99 := hrel 12 rfl 99 rfl
           have e103 := hrel 16 rfl 103 rfl
           obtain ⟨H, -⟩ := (show Hp S0 σ0 σ111 [Ch.ro n0 (Sl a108 x101.2.1 c109) x101.2.1, Ch.ro 0 (Sl a64 o44 c65) o44, Ch.bx n0 b84 0 [(I r78.1.1), (Sl a81 r78.1.2.1 c82), (I r78.1.2.2)] [] [], Ch.own n0 n0 (Sl a81 r78.1.2.1 c82) r78.1.2.1, Ch.ro n0 (Sl a5 r2.1 c6) r2.1, Ch.ro 0 (Sl a17 r14.1 c18) r14.1, Ch.ro n0 (Sl a64 o44 c65) o44] ∧ Md (cov []) σ86 σ111 from hJ)
           clear hJ Hs
           rw [fr_lookL (L := [(3, (Sl a5 r2.1 c6)), (5, (Sl a17 r14.1 c18)), (9, (Sl a64 o44 c65)), (11, (I s67)), (95, (B (!r94))), (98, (B (!r78.2))), (99, (.agg #[(I r78.1.1), (Sl a81 r78.1.2.1 c82), (I r78.1.2.2)])), (103, (.agg #[(I x101.1), (Sl a108 x101.2.1 c109), (I x101.2.2)]))]) ⟨e3, e5, e9, e11, e95, e98, e99, e103, trivial⟩]
           clear hoff hrel e3 e5 e9 e11 e95 e98 e99 e103
           obtain ⟨σ112, hw113, H, -⟩ := H.pub 3 rfl (Nat.le_refl _)
           rw [← hw113]; clear hw113
           replace H := H.roLow 0 0 rfl (Nat.zero_le _)
           replace H := H.roLow 2 0 rfl (Nat.zero_le _)
           obtain ⟨r114, hx115, h'⟩ := bind_some h
           clear h
           have h := h'; clear h'
           have hc116 := c_laws_equalItem (aa_0_1 := a81) (ca_0_1 := c82) (ab_1_1 := a108) (cb_1_1 := c109) hx115
           refine st_call (cx_call hc116 (ent_f hc116.fn rfl) hn0 (show Hp S0 σ0 _ ([Ch.ro 0 (Sl a81 r78.1.2.1 c82) r78.1.2.1, Ch.ro 0 (Sl a108 x101.2.1 c109) x101.2.1] ++ [Ch.ro 0 (Sl a108 x101.2.1 c109) x101.2.1, Ch.ro 0 (Sl a81 r78.1.2.1 c82) r78.1.2.1, Ch.ro n0 (Sl a81 r78.1.2.1 c82) r78.1.2.1, Ch.ro n0 (Sl a108 x101.2.1 c109) x101.2.1, Ch.ro 0 (Sl a64 o44 c65) o44, Ch.bx n0 b84 0 [(I r78.1.1), (Sl a81 r78.1.2.1 c82), (I r78.1.2.2)] [] [], Ch.ro n0 (Sl a5 r2.1 c6) r2.1, Ch.ro 0 (Sl a17 r14.1 c18) r14.1, Ch.ro n0 (Sl a64 o44 c65) o44]) from (H.sel' [1, 0, 0, 1, 2, 3, 4, 5, 6, 7, 8] rfl rfl))) (wanted_yes rfl (by exact (congrArg some hb98))) ?_
           rintro _ σ117 ⟨_, ⟨rfl, rfl⟩, H, -⟩
           replace H : Hp S0 σ0 σ117 [Ch.ro 0 (Sl a108 x101.2.1 c109) x101.2.1, Ch.ro 0 (Sl a81 r78.1.2.1 c82) r78.1.2.1, Ch.ro n0 (Sl a81 r78.1.2.1 c82) r78.1.2.1, Ch.ro n0 (Sl a108 x101.2.1 c109) x101.2.1, Ch.ro 0 (Sl a64 o44 c65) o44, Ch.bx n0 b84 0 [(I r78.1.1), (Sl a81 r78.1.2.1 c82), (I r78.1.2.2)] [] [], Ch.ro n0 (Sl a5 r2.1 c6) r2.1, Ch.ro 0 (Sl a17 r14.1 c18) r14.1, Ch.ro n0 (Sl a64 o44 c65) o44] := H
           replace H : Hp S0 σ0 σ117 [Ch.ro n0 (Sl a5 r2.1 c6) r2.1, Ch.ro 0 (Sl a17 r14.1 c18) r14.1, Ch.ro n0 (Sl a64 o44 c65) o44] := H.sel' [6, 7, 8] rfl rfl
           refine st_g (v := (B (!r114))) (congrArg some hb98) (rv_not rfl) ?_
           refine st_g (v := (B (!r114))) (congrArg some hb97) (rv_pick_f (congrArg B hb98) rfl) ?_
           refine st (v := (B (!r114))) (rv_pick_t (congrArg B hb97) rfl) ?_
           refine w_end ?_
           obtain rfl := Option.some.inj h
           exact ⟨rfl, _, σ117, fr_join ⟨rfl, rfl, rfl, rfl, rfl, trivial⟩, rfl, H.sel' [0, 1, 2] rfl rfl⟩
        ·replace h := bif_f hb97 h
         have Hs := H
         refine rg2 (σ := σ86) (Nm := Unit) 17 [6] [[false], [true]] [[(0, 0)], [(0, 0)], [(0, 0)], [(0, 0)], [(0, 0)], [(0, 0)], [(0, 1)], [(1, 1)], [(1, 1)], [(1, 1)], [(1, 1)], [(1, 1)], [(1, 1)], [(1, 1)], [(1, 1)], [(1, 1)], [(1, 1)]] 1 [fun _ => fun σm => Hp S0 σ0 σm [Ch.ro 0 (Sl a64 o44 c65) o44, Ch.bx n0 b84 0 [(I r78.1.1), (Sl a81 r78.1.2.1 c82), (I r78.1.2.2)] [] [], Ch.own n0 n0 (Sl a81 r78.1.2.1 c82) r78.1.2.1, Ch.ro n0 (Sl a5 r2.1 c6) r2.1, Ch.ro 0 (Sl a17 r14.1 c18) r14.1, Ch.ro n0 (Sl a64 o44 c65) o44] ∧ Md (cov []) σ86 σm, fun _ => fun σm => Hp S0 σ0 σm [Ch.ro 0 (Sl a64 o44 c65) o44, Ch.bx n0 b84 0 [(I r78.1.1), (Sl a81 r78.1.2.1 c82), (I r78.1.2.2)] [] [], Ch.own n0 n0 (Sl a81 r78.1.2.1 c82) r78.1.2.1, Ch.ro n0 (Sl a5 r2.1 c6) r2.1, Ch.ro 0 (Sl a17 r14.1 c18) r14.1, Ch.ro n0 (Sl a64 o44 c65) o44] ∧ Md (cov []) σ86 σm] [fun _ => (Sl a64 o44 c65), fun _ => (Sl a5 r2.1 c6), fun _ => (I s67), fun _ => (pt b91 o92), fun _ => (pt b91 (o92 + 0)), fun _ => (I x88.1), fun _ => (B r94), fun _ => (B (!r94)), fun _ => (B (!r94)), fun _ => undef, fun _ => undef, fun _ => undef, fun _ => undef, fun _ => undef, fun _ => undef, fun _ => undef, fun _ => undef] () (by kernel_rfl) (by kernel_rfl) ?_ ?_ ?_
         ·intro σm m0
          exact ⟨H.grow (m0.mono fun _ h => h.elim), m0⟩
         ·refine ac rfl (by
            intro k _nm ρ σm hJ hoff hdep
            have e9 := look_off (N := 110) (hoff 9 rfl) rfl
            exact dp_v (v := (Sl a64 o44 c65)) wn (rv_move e9) rfl hJ) ?_
          refine ac rfl (by
            intro k _nm ρ σm hJ hoff hdep
            have e3 := look_off (N := 110) (hoff 3 rfl) rfl
            exact dp_v (v := (Sl a5 r2.1 c6)) wn (rv_move e3) rfl hJ) ?_
          refine ac rfl (by
            intro k _nm ρ σm hJ hoff hdep
            have e11 := look_off (N := 110) (hoff 11 rfl) rfl
            exact dp_v (v := (I s67)) wn (rv_move e11) rfl hJ) ?_
          refine ac rfl (by
            intro k _nm ρ σm hJ hoff hdep
            have e88 := hdep 1 rfl rfl 88 rfl
            have e89 := hdep 2 rfl rfl 89 rfl
            exact dp_v (v := (pt b91 o92)) wn (rv_ix Try.underlying23 ti32 e88 e89 hi90) rfl hJ) ?_
          refine ac rfl (by
            intro k _nm ρ σm hJ hoff hdep
            have e90 := hdep 3 rfl rfl 90 rfl
            exact dp_v (v := (pt b91 (o92 + 0))) wn (rv_fieldAddr (off := 0) (ft := 3) Try.underlying32 rfl ti3 rfl e90) rfl hJ) ?_
          refine all_cons (by
            refine ⟨?_, ?_⟩
            ·intro _nm ρ σm hJ hoff hdep
             have e91 := hdep 4 rfl rfl 91 rfl
             obtain ⟨H, m⟩ := id hJ
             replace hc93 := (Hs.ro 3 rfl).hmd hx89 hi90 (k := 0) (by decide) hc93 m
             exact dp_v (v := (I x88.1)) wn (rv_load1 Try.underlying3 rfl e91 hc93) rfl hJ
            trivial) ?_
          refine all_cons (by
            refine ⟨?_, ?_⟩
            ·intro _nm ρ σm hJ hoff hdep
             have e87 : look 110 ρ 87 = (Sl a64 o44 c65) := hdep 0 rfl rfl 87 rfl
             have e92 : look 110 ρ 92 = (I x88.1) := hdep 5 rfl rfl 92 rfl
             obtain ⟨H, m⟩ := id hJ
             refine dp_cx wn (cx_call hc96 (ent_f hc96.fn (by show [look 110 ρ 87, look 110 ρ 92] = _; rw [e87, e92])) hn0 (show Hp S0 σ0 _ ([Ch.ro 0 (Sl a64 o44 c65) o44] ++ [Ch.ro 0 (Sl a64 o44 c65) o44, Ch.bx n0 b84 0 [(I r78.1.1), (Sl a81 r78.1.2.1 c82), (I r78.1.2.2)] [] [], Ch.own n0 n0 (Sl a81 r78.1.2.1 c82) r78.1.2.1, Ch.ro n0 (Sl a5 r2.1 c6) r2.1, Ch.ro 0 (Sl a17 r14.1 c18) r14.1, Ch.ro n0 (Sl a64 o44 c65) o44]) from (H.sel' [0, 0, 1, 2, 3, 4, 5] rfl rfl))) ?_
             rintro _ σq ⟨_, ⟨rfl, rfl⟩, H2, m2⟩
             exact ⟨_, (), rfl, rfl, ⟨H2.sel' [0, 1, 2, 3, 4, 5] rfl rfl, m.comp0 (m2.mono (fun i h => by simp [cov, Ch.ro] at h))⟩, stab [0, 1, 2, 3, 4, 5] (by kernel_rfl) ⟨rfl, rfl, rfl, rfl, rfl, rfl, trivial⟩⟩
            trivial) ?_
          refine ac rfl (by
            intro k _nm ρ σm hJ hoff hdep
            have e93 := hdep 6 rfl rfl 93 rfl
            exact dp_v (v := (B (!r94))) wn (rv_not e93) rfl hJ) ?_
          refine ac rfl (by
            intro k _nm ρ σm hJ hoff hdep
            have e94 := hdep 7 rfl rfl 94 rfl
            exact dp_v (v := (B (!r94))) wn (rv_move e94) rfl hJ) ?_
          refine ac rfl (by
            intro k _nm ρ σm hJ hoff hdep
            have e95 := hdep 8 rfl rfl 95 rfl
            exact dp_skip (wanted_no rfl (yv_of rfl (e95.trans (congrArg B hb97)))) rfl hJ) ?_
          refine ac rfl (by
            intro k _nm ρ σm hJ hoff hdep
            have e95 := hdep 8 rfl rfl 95 rfl
            exact dp_skip (wanted_no rfl (yv_of rfl (e95.trans (congrArg B hb97)))) rfl hJ) ?_
          refine ac rfl (by
            intro k _nm ρ σm hJ hoff hdep
            have e95 := hdep 8 rfl rfl 95 rfl
            exact dp_skip (wanted_no rfl (yv_of rfl (e95.trans (congrArg B hb97)))) rfl hJ) ?_
          refine ac rfl (by
            intro k _nm ρ σm hJ hoff hdep
            have e98 := hdep 11 rfl rfl 98 rfl
            exact dp_skip (wanted_u rfl (yv_undef rfl e98)) rfl hJ) ?_
          refine ac rfl (by
            intro k _nm ρ σm hJ hoff hdep
            have e98 := hdep 11 rfl rfl 98 rfl
            exact dp_skip (wanted_u rfl (yv_undef rfl e98)) rfl hJ) ?_
          refine ac rfl (by
            intro k _nm ρ σm hJ hoff hdep
            have e98 := hdep 11 rfl rfl 98 rfl
            exact dp_skip (wanted_u rfl (yv_undef rfl e98)) rfl hJ) ?_
          refine ac rfl (by
            intro k _nm ρ σm hJ hoff hdep
            have e98 := hdep 11 rfl rfl 98 rfl
            exact dp_skip (wanted_u rfl (yv_undef rfl e98)) rfl hJ) ?_
          refine ac rfl (by
            intro k _nm ρ σm hJ hoff hdep
            have e98 := hdep 11 rfl rfl 98 rfl
            exact dp_skip (wanted_u rfl (yv_undef rfl e98)) rfl hJ) ?_
          exact all_nil
         ·intro _nm ρ σ118 hJ hoff hrel
          have e3 := look_off (N := 110) (hoff 3 rfl) rfl
          have e5 := look_off (N := 110) (hoff 5 rfl) rfl
          have e9 := look_off (N := 110) (hoff 9 rfl) rfl
          have e11 := look_off (N := 110) (hoff 11 rfl) rfl
          have e95 := hrel 8 rfl 95 rfl
          have e98 := hrel 11 rfl 98 rfl
          have e99 := hrel 12 rfl 99 rfl
          have e103 := hrel 16 rfl 103 rfl
          obtain ⟨H, -⟩ := (show Hp S0 σ0 σ118 [Ch.ro 0 (Sl a64 o44 c65) o44, Ch.bx n0 b84 0 [(I r78.1.1), (Sl a81 r78.1.2.1 c82), (I r78.1.2.2)] [] [], Ch.own n0 n0 (Sl a81 r78.1.2.1 c82) r78.1.2.1, Ch.ro n0 (Sl a5 r2.1 c6) r2.1, Ch.ro 0 (Sl a17 r14.1 c18) r14.1, Ch.ro n0 (Sl a64 o44 c65) o44] ∧ Md (cov []) σ86 σ118 from hJ)
          clear hJ Hs
          rw [fr_lookL (L := [(3, (Sl a5 r2.1 c6)), (5, (Sl a17 r14.1 c18)), (9, (Sl a64 o44 c65)), (11, (I s67)), (95, (B (!r94))), (98, undef), (99, undef), (103, undef)]) ⟨e3, e5, e9, e11, e95, e98, e99, e103, trivial⟩]
          clear hoff hrel e3 e5 e9 e11 e95 e98 e99 e103
          refine st_skip_u rfl ?_
          refine st_skip_u rfl ?_
          refine st_skip (congrArg some hb97) ?_
          refine st (v := (B false)) (rv_pick_f (congrArg B hb97) rfl) ?_
          refine w_end ?_
          obtain rfl := Option.some.inj h
          exact ⟨rfl, _, σ118, fr_join ⟨rfl, rfl, rfl, rfl, rfl, trivial⟩, rfl, H.sel' [3, 4, 5] rfl rfl⟩
       ·clear hj
        have h := h'
        clear h' H
        rintro e a w ⟨rfl, ρ, σ119, rfl, rfl, H⟩
        refine q_then ?_
        refine cd_cond o87 rfl (fun hb120 => ?_) (fun hb120 => ?_)
        ·replace h := bif_t hb120 h
         refine c_seq ?_
         refine rg ?_
         refine st (v := (B false)) (rv_assign rfl) ?_
         refine w_end ?_
         refine q_then ?_
         refine c_ret ?_
         refine q_blk_r ?_
         refine q_then_r ?_
         refine q_then_r ?_
         refine q_blk_r ?_
         obtain rfl := Option.some.inj h
         obtain rfl := hres _ rfl
         exact .inr (⟨_, rfl, rfl, _, σ119, fr_join ⟨rfl, trivial⟩, rfl, H.sel' [] rfl rfl⟩)
        ·replace h := bif_f hb120 h
         refine c_skip ?_
         refine q_blk ?_
         refine q_then ?_
         refine rg ?_
         refine st (v := (I s67)) (rv_move rfl) ?_
         refine st (v := (I (w64 (s67 + 1)))) (rv_add (a := s67) (b := 1) rfl rfl) ?_
         refine st (v := (I (w64 (s67 + 1)))) (rv_assign rfl) ?_
         refine w_end ?_
         refine q_then ?_
         obtain rfl := Option.some.inj h
         exact ⟨_, rfl, _, σ119, fr_join ⟨rfl, rfl, rfl, rfl, trivial⟩, rfl, H.sel' [0, 1, 2] rfl rfl⟩
      ·replace h := bif_f hb71 h
       refine c_exit ?_
       refine q_then_x ?_
       refine q_then_x ?_
       refine q_blk_hit ?_
       obtain rfl := Option.some.inj h
       obtain rfl := hres _ rfl
       exact .inl ⟨_, rfl, rfl, _, σ70, fr_join ⟨rfl, trivial⟩, rfl, H.sel' [1] rfl rfl⟩
     ·clear hj
      have h := h'
      clear h' H
      rintro e a w (⟨t121, rfl, rfl, ρ, σ122, rfl, rfl, H⟩ | ⟨t127, rfl, rfl, ρ, σ128, rfl, rfl, H⟩)
      ·replace h := selim_l h
       refine q_then ?_
       refine c_seq ?_
       refine rg ?_
       refine st (v := (Sl a17 r14.1 c18)) (rv_move rfl) ?_
       obtain ⟨r123, hx124, h'⟩ := bind_some h
       clear h
       have h := h'; clear h'
       have hc125 := c_impl_ValidStore (alist_0 := a17) (clist_0 := c18) hx124
       refine st_call (cx_call hc125 (ent_f hc125.fn rfl) hn0 (show Hp S0 σ0 _ ([Ch.ro 0 (Sl a17 r14.1 c18) r14.1] ++ [Ch.ro 0 (Sl a17 r14.1 c18) r14.1]) from (H.sel' [0, 0] rfl rfl))) wn ?_
       rintro _ σ126 ⟨_, ⟨rfl, rfl⟩, H, -⟩
       replace H : Hp S0 σ0 σ126 [Ch.ro 0 (Sl a17 r14.1 c18) r14.1] := H
       refine st (v := (B r123)) (rv_assign rfl) ?_
       refine w_end ?_
       refine q_then ?_
       refine c_ret ?_
       obtain rfl := Option.some.inj h
       exact fin_ret (v := (B r123)) (results_ok Try.results4 (res_tmp (v := (B r123)) rfl res_nil) rfl) ⟨rfl, rfl⟩ (H.sel' [] rfl rfl)
      ·replace h := selim_r h
       refine q_then_r ?_
       obtain rfl := Option.some.inj h
       exact fin_ret (v := (B t127)) (results_ok Try.results4 (res_tmp (v := (B t127)) rfl res_nil) rfl) ⟨rfl, rfl⟩ (H.sel' [] rfl rfl)

end Go.Vs
