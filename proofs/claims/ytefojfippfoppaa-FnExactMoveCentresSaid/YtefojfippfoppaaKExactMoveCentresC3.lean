/- The functions compute what their models say. -/
import Derived.Test.YtefojfippfoppaaKExactMoveCentresC2
set_option linter.unusedVariables false
set_option linter.unusedSimpArgs false
set_option maxRecDepth 20000
namespace Go.Vs
open Go Go.Proofs
attribute [local irreducible] Code.wp Code.wpIn wpList wpListIn wpQuiet Calls CallsIn

theorem c_impl_MeanOf {list_0 : List (List Int)} {alist_0 : Option Addr} {clist_0 : Nat} {r : (List Int)} (h : M.impl_MeanOf list_0 = some r) :
    Cal2 Try.prog 85 [(Sl alist_0 list_0 clist_0)] [Ch.ro 0 (Sl alist_0 list_0 clist_0) list_0] (fun n0 v L => ∃ (az1 : Option Addr), ∃ (cz2 : Nat), v = (Sl az1 r cz2) ∧ L = [Ch.own n0 n0 (Sl az1 r cz2) r]) := by
 refine cal2 (n := 55) Try.func85 rfl rfl rfl rfl ?_
 intro S0 σ0 n0 hn0 H
 unfold M.impl_MeanOf at h
 refine c_seq ?_
 refine rg ?_
 refine st (v := (.slice none 0 0)) (rv_assign rfl) ?_
 refine w_end ?_
 refine q_then ?_
 refine c_seq ?_
 refine c_seq ?_
 obtain ⟨o1, hj, h'⟩ := bind_some h
 clear h
 refine c_cut (fun e a w => e = .normal ∧ ∃ (ρ : Nat → Value) (σ : St), a = fr 55 (updL ρ [(0, (Sl alist_0 list_0 clist_0)), (17, (B o1))]) ∧ w = σ.w ∧ Hp S0 σ0 σ [Ch.ro 0 (Sl alist_0 list_0 clist_0) list_0]) ?_ ?_
 ·clear h'
  rename _ = some o1 => h
  refine rg ?_
  refine st (v := (Sl alist_0 list_0 clist_0)) (rv_move rfl) ?_
  refine st (v := (I (list_0.length : Int))) (rv_len Try.underlying23 rfl) ?_
  refine st (v := (B (decide ((list_0.length : Int) < 1)))) (rv_lss (a := (list_0.length : Int)) (b := 1) rfl rfl) ?_
  refine st (v := (B (decide ((list_0.length : Int) < 1)))) (rv_move rfl) ?_
  rcases Bool.eq_false_or_eq_true (decide ((list_0.length : Int) < 1)) with hb2 | hb2
  ·replace h := bif_t hb2 h
   refine st_skip (congrArg some hb2) ?_
   refine st_skip (congrArg some hb2) ?_
   refine st_skip (congrArg some hb2) ?_
   refine st (v := (B true)) (rv_pick_t (congrArg B hb2) rfl) ?_
   refine w_end ?_
   obtain rfl := Option.some.inj h
   exact ⟨rfl, _, σ0, fr_join ⟨rfl, rfl, trivial⟩, rfl, H.sel' [0] rfl rfl⟩
  ·replace h := bif_f hb2 h
   refine st_g (v := (Sl alist_0 list_0 clist_0)) (congrArg some hb2) (rv_move rfl) ?_
   refine st_g (v := (I (list_0.length : Int))) (congrArg some hb2) (rv_len Try.underlying23 rfl) ?_
   refine st_g (v := (B (decide (16 < (list_0.length : Int))))) (congrArg some hb2) (rv_gtr (a := (list_0.length : Int)) (b := 16) rfl rfl) ?_
   refine st (v := (B (decide (16 < (list_0.length : Int))))) (rv_pick_f (congrArg B hb2) rfl) ?_
   refine w_end ?_
   obtain rfl := Option.some.inj h
   exact ⟨rfl, _, σ0, fr_join ⟨rfl, rfl, trivial⟩, rfl, H.sel' [0] rfl rfl⟩
 ·clear hj
  have h := h'
  clear h' H
  rintro e a w ⟨rfl, ρ, σ3, rfl, rfl, H⟩
  refine q_then ?_
  refine cd_cond o1 rfl (fun hb4 => ?_) (fun hb4 => ?_)
  ·replace h := bif_t hb4 h
   refine c_seq ?_
   refine rg ?_
   refine st (v := (.slice none 0 0)) (rv_assign rfl) ?_
   refine w_end ?_
   refine q_then ?_
   refine c_ret ?_
   refine q_then_r ?_
   replace H := H.nilOwn Int n0 n0
   obtain rfl := Option.some.inj h
   exact fin_ret (v := (.slice none 0 0)) (results_ok Try.results85 (res_tmp (v := (.slice none 0 0)) rfl res_nil) rfl) ⟨none, 0, rfl, rfl⟩ (H.sel' [0] rfl rfl)
  ·replace h := bif_f hb4 h
   refine c_skip ?_
   refine q_then ?_
   refine c_seq ?_
   refine rg ?_
   refine st_ex (ex_alloc (cs := (List.map I (List.replicate 4 0))) H hn0 ti94 rfl) wn ?_
   rintro _ σ6 ⟨b5, rfl, H, -⟩
   refine w_end ?_
   refine q_then ?_
   refine c_seq ?_
   refine c_seq ?_
   refine rg ?_
   refine st (v := (Sl alist_0 list_0 clist_0)) (rv_move rfl) ?_
   refine st (v := (I (list_0.length : Int))) (rv_len Try.underlying23 rfl) ?_
   refine st (v := (I 0)) (rv_move rfl) ?_
   refine w_end ?_
   refine q_then ?_
   obtain ⟨o7, hj, h'⟩ := bind_some h
   clear h
   refine c_cut (fun e a w => (∃ t, o7 = (.inl t) ∧ e = .normal ∧ ∃ (ρ : Nat → Value) (σ : St), a = fr 55 (updL ρ [(0, (Sl alist_0 list_0 clist_0)), (3, (pt b5 0))]) ∧ w = σ.w ∧ Hp S0 σ0 σ [Ch.bx n0 b5 0 (List.map I t) [] [], Ch.ro 0 (Sl alist_0 list_0 clist_0) list_0] ∧ t.length = 4) ∨ (∃ t, o7 = (.inr t) ∧ e = .ret ∧ ∃ (ρ : Nat → Value) (σ : St) (aj1 : Option Addr) (cj2 : Nat), a = fr 55 (updL ρ [(2, (Sl aj1 t cj2))]) ∧ w = σ.w ∧ Hp S0 σ0 σ [Ch.own n0 n0 (Sl aj1 t cj2) t])) ?_ ?_
   ·clear h'
    rename _ = some o7 => h
    refine c_blk ?_
    refine wp_loopM _ h (fun s8 a w => ∃ (ρ : Nat → Value) (σ : St), a = fr 55 (updL ρ [(0, (Sl alist_0 list_0 clist_0)), (3, (pt b5 0)), (18, (Sl alist_0 list_0 clist_0)), (19, (I (list_0.length : Int))), (20, (I s8.2))]) ∧ w = σ.w ∧ Hp S0 σ0 σ [Ch.bx n0 b5 0 (List.map I s8.1) [] [], Ch.ro 0 (Sl alist_0 list_0 clist_0) list_0] ∧ s8.1.length = 4) ⟨_, σ6, fr_join ⟨rfl, rfl, rfl, rfl, rfl, trivial⟩, rfl, H.sel' [0, 1] rfl rfl, rfl⟩ ?_
    clear h H
    rintro s8 a w o ⟨ρ, σ9, rfl, rfl, H, hl10⟩ h hres
    refine c_seq ?_
    refine rg ?_
    refine st (v := (B (decide (s8.2 < (list_0.length : Int))))) (rv_lss (a := s8.2) (b := (list_0.length : Int)) rfl rfl) ?_
    refine w_end ?_
    refine q_then ?_
    refine c_seq ?_
    refine cd_cond (decide (s8.2 < (list_0.length : Int))) rfl (fun hb11 => ?_) (fun hb11 => ?_)
    ·replace h := bif_t hb11 h
     refine c_skip ?_
     refine q_then ?_
     refine c_seq ?_
     refine c_blk ?_
     refine c_seq ?_
     refine rg ?_
     obtain ⟨x12, hx13, h'⟩ := bind_some h
     clear h
     have h := h'; clear h'
     obtain ⟨b15, o16, hi14, -⟩ := (H.ro 1 rfl).ix hx13
     refine st (v := (pt b15 o16)) (rv_ix Try.underlying23 ti29 rfl rfl hi14) ?_
     obtain ⟨v20, hc21, hR19⟩ := ((H.ro 1 rfl).at hx13 hi14).slice
     obtain ⟨a17, c18, rfl⟩ := hR19.isSl
     replace H := H.add (d := Ch.ro 0 (Sl a17 x12 c18) x12) hR19 (fun _ h => h)
     clear hR19
     refine st (v := (Sl a17 x12 c18)) (rv_load1 Try.underlying29 rfl rfl hc21) ?_
     refine st (v := (Sl a17 x12 c18)) (rv_assign rfl) ?_
     refine w_end ?_
     refine q_then ?_
     refine c_seq ?_
     refine c_seq ?_
     refine rg ?_
     refine st (v := (Sl a17 x12 c18)) (rv_move rfl) ?_
     obtain ⟨r22, hx23, h'⟩ := bind_some h
     clear h
     have h := h'; clear h'
     have hc24 := c_impl_ValidVector (av_0 := a17) (cv_0 := c18) hx23
     refine st_call (cx_call hc24 (ent_f hc24.fn rfl) hn0 (show Hp S0 σ0 _ ([Ch.ro 0 (Sl a17 x12 c18) x12] ++ [Ch.ro 0 (Sl a17 x12 c18) x12, Ch.bx n0 b5 0 (List.map I s8.1) [] [], Ch.ro 0 (Sl alist_0 list_0 clist_0) list_0]) from (H.sel' [0, 0, 1, 2] rfl rfl))) wn ?_
     rintro _ σ25 ⟨_, ⟨rfl, rfl⟩, H, -⟩
     replace H : Hp S0 σ0 σ25 [Ch.ro 0 (Sl a17 x12 c18) x12, Ch.bx n0 b5 0 (List.map I s8.1) [] [], Ch.ro 0 (Sl alist_0 list_0 clist_0) list_0] := H
     refine st (v := (B (!r22))) (rv_not rfl) ?_
     refine w_end ?_
     refine q_then ?_
     refine cd_cond (!r22) rfl (fun hb26 => ?_) (fun hb26 => ?_)
     ·replace h := bif_t hb26 h
      refine c_seq ?_
      refine rg ?_
      refine st (v := (.slice none 0 0)) (rv_assign rfl) ?_
      refine w_end ?_
      refine q_then ?_
      refine c_ret ?_
      refine q_then_r ?_
      refine q_blk_r ?_
      refine q_then_r ?_
      refine q_then_r ?_
      refine q_blk_r ?_
      obtain rfl := Option.some.inj h
      obtain rfl := hres _ rfl
      replace H := H.nilOwn Int n0 n0
      exact .inr (⟨_, rfl, rfl, _, σ25, none, 0, fr_join ⟨rfl, trivial⟩, rfl, H.sel' [0] rfl rfl⟩)
     ·replace h := bif_f hb26 h
      refine c_skip ?_
      refine q_then ?_
      refine c_seq ?_
      refine rg ?_
      refine st (v := (Sl a17 x12 c18)) (rv_move rfl) ?_
      refine st (v := (I (x12.length : Int))) (rv_len Try.underlying29 rfl) ?_
      refine st (v := (I 0)) (rv_move rfl) ?_
      refine w_end ?_
      refine q_then ?_
      obtain ⟨o27, hj, h'⟩ := bind_some h
      clear h
      refine c_cut (fun e a w => e = .normal ∧ ∃ (ρ : Nat → Value) (σ : St), a = fr 55 (updL ρ [(0, (Sl alist_0 list_0 clist_0)), (3, (pt b5 0)), (18, (Sl alist_0 list_0 clist_0)), (19, (I (list_0.length : Int))), (20, (I s8.2))]) ∧ w = σ.w ∧ Hp S0 σ0 σ [Ch.bx n0 b5 0 (List.map I o27) [] [], Ch.ro 0 (Sl alist_0 list_0 clist_0) list_0] ∧ o27.length = 4) ?_ ?_
      ·clear h'
       rename _ = some o27 => h
       refine c_blk ?_
       refine wp_loopM _ h (fun s28 a w => ∃ (ρ : Nat → Value) (σ : St), a = fr 55 (updL ρ [(0, (Sl alist_0 list_0 clist_0)), (3, (pt b5 0)), (18, (Sl alist_0 list_0 clist_0)), (19, (I (list_0.length : Int))), (20, (I s8.2)), (27, (Sl a17 x12 c18)), (28, (I (x12.length : Int))), (29, (I s28.2))]) ∧ w = σ.w ∧ Hp S0 σ0 σ [Ch.bx n0 b5 0 (List.map I s28.1) [] [], Ch.ro 0 (Sl alist_0 list_0 clist_0) list_0, Ch.ro 0 (Sl a17 x12 c18) x12] ∧ s28.1.length = 4) ⟨_, σ25, fr_join ⟨rfl, rfl, rfl, rfl, rfl, rfl, rfl, rfl, trivial⟩, rfl, H.sel' [1, 2, 0] rfl rfl, hl10⟩ ?_
       clear h H
       rintro s28 a w o ⟨ρ, σ29, rfl, rfl, H, hl30⟩ h hres
       refine c_seq ?_
       refine rg ?_
       refine st (v := (B (decide (s28.2 < (x12.length : Int))))) (rv_lss (a := s28.2) (b := (x12.length : Int)) rfl rfl) ?_
       refine w_end ?_
       refine q_then ?_
       refine c_seq ?_
       refine cd_cond (decide (s28.2 < (x12.length : Int))) rfl (fun hb31 => ?_) (fun hb31 => ?_)
       ·replace h := bif_t hb31 h
        refine c_skip ?_
        refine q_then ?_
        refine c_seq ?_
        refine c_blk ?_
        refine c_seq ?_
        refine rg ?_
        refine st (v := (I s28.2)) (rv_move rfl) ?_
        obtain ⟨x32, hx33, h'⟩ := bind_some h
        clear h
        have h := h'; clear h'
        obtain ⟨b35, o36, hi34, -⟩ := (H.ro 2 rfl).ix hx33
        refine st (v := (pt b35 o36)) (rv_ix Try.underlying29 ti3 rfl rfl hi34) ?_
        have hc37 := ((H.ro 2 rfl).at hx33 hi34).int
        refine st (v := (I x32)) (rv_load1 Try.underlying3 rfl rfl hc37) ?_
        refine st (v := (I s28.2)) (rv_assign rfl) ?_
        refine st (v := (I x32)) (rv_assign rfl) ?_
        refine w_end ?_
        refine q_then ?_
        refine rg ?_
        refine st (v := (I s28.2)) (rv_move rfl) ?_
        obtain ⟨x38, hx39, h'⟩ := bind_some h
        clear h
        have h := h'; clear h'
        have hl40 := gidx_lt hx39 hl30
        refine st (v := (pt b5 (0 + s28.2.toNat * 1))) (rv_indexAddr_array Try.underlying94 ti3 rfl rfl hl40.1 hl40.2) ?_
        have hc41 := Hp.arrCell H 0 rfl hx39
        refine st (v := (I x38)) (rv_load1 Try.underlying3 rfl rfl hc41) ?_
        refine st (v := (I x32)) (rv_move rfl) ?_
        refine st (v := (I (w64 (x38 + x32)))) (rv_add (a := x38) (b := x32) rfl rfl) ?_
        obtain ⟨x42, hx43, h'⟩ := bind_some h
        clear h
        have h := h'; clear h'
        have hl44 := gidx_lt hx43 hl30
        refine st (v := (pt b5 (0 + s28.2.toNat * 1))) (rv_indexAddr_array Try.underlying94 ti3 rfl rfl hl44.1 hl44.2) ?_
        have hl45 := gidx_lt hx43 hl30
        refine st_exS (ex_store_box (k := s28.2.toNat * 1) (vs := [(I (w64 (x38 + x32)))]) (cs' := (List.map I (s28.1.set s28.2.toNat (w64 (x38 + x32))))) H (i := 0) rfl ti3 rfl rfl rfl rfl rfl (by rw [List.length_map, hl30]; simp; omega) (by simp [plain]) (arr_set' _ _ _)) wn ?_
        rintro σ46 ⟨H, -⟩
        refine w_end ?_
        refine q_blk ?_
        refine q_then ?_
        refine rg ?_
        refine st (v := (I (w64 (s28.2 + 1)))) (rv_add (a := s28.2) (b := 1) rfl rfl) ?_
        refine st (v := (I (w64 (s28.2 + 1)))) (rv_move rfl) ?_
        refine w_end ?_
        refine q_then ?_
        obtain rfl := Option.some.inj h
        exact ⟨_, rfl, _, σ46, fr_join ⟨rfl, rfl, rfl, rfl, rfl, rfl, rfl, rfl, trivial⟩, rfl, H.sel' [0, 1, 2] rfl rfl, (set_len hl30)⟩
       ·replace h := bif_f hb31 h
        refine c_exit ?_
        refine q_then_x ?_
        refine q_then_x ?_
        refine q_blk_hit ?_
        obtain rfl := Option.some.inj h
        obtain rfl := hres _ rfl
        exact ⟨rfl, _, σ29, fr_join ⟨rfl, rfl, rfl, rfl, rfl, trivial⟩, rfl, H.sel' [0, 1] rfl rfl, hl30⟩
      ·clear hj
       have h := h'
       clear h' H
       rintro e a w ⟨rfl, ρ, σ47, rfl, rfl, H, hl48⟩
       refine q_blk ?_
       refine q_then ?_
       refine rg ?_
       refine st (v := (I (w64 (s8.2 + 1)))) (rv_add (a := s8.2) (b := 1) rfl rfl) ?_
       refine st (v := (I (w64 (s8.2 + 1)))) (rv_move rfl) ?_
       refine w_end ?_
       refine q_then ?_
       obtain rfl := Option.some.inj h
       exact ⟨_, rfl, _, σ47, fr_join ⟨rfl, rfl, rfl, rfl, rfl, trivial⟩, rfl, H.sel' [0, 1] rfl rfl, hl48⟩
    ·replace h := bif_f hb11 h
     refine c_exit ?_
     refine q_then_x ?_
     refine q_then_x ?_
     refine q_blk_hit ?_
     obtain rfl := Option.some.inj h
     obtain rfl := hres _ rfl
     exact .inl ⟨_, rfl, rfl, _, σ9, fr_join ⟨rfl, rfl, trivial⟩, rfl, H.sel' [0, 1] rfl rfl, hl10⟩
   ·clear hj
    have h := h'
    clear h' H
    rintro e a w (⟨t49, rfl, rfl, ρ, σ50, rfl, rfl, H, hl51⟩ | ⟨t71, rfl, rfl, ρ, σ72, a73, c74, rfl, rfl, H⟩)
    ·replace h := selim_l h
     refine q_then ?_
     refine c_seq ?_
     refine c_seq ?_
     refine rg ?_
     have hc52 := H.cells 0 rfl
     refine st (v := (.agg (List.map I t49).toArray)) (rv_load (cs := (List.map I t49)) Try.underlying94 rfl ti94 rfl (by rw [List.length_map]; exact hl51) hc52) ?_
     refine st (v := (I 0)) (rv_move rfl) ?_
     refine w_end ?_
     refine q_then ?_
     obtain ⟨o53, hj, h'⟩ := bind_some h
     clear h
     refine c_cut (fun e a w => e = .normal ∧ ∃ (ρ : Nat → Value) (σ : St), a = fr 55 (updL ρ [(3, (pt b5 0))]) ∧ w = σ.w ∧ Hp S0 σ0 σ [Ch.bx n0 b5 0 (List.map I o53) [] []] ∧ o53.length = 4) ?_ ?_
     ·clear h'
      rename _ = some o53 => h
      refine c_blk ?_
      refine wp_loopM _ h (fun s54 a w => ∃ (ρ : Nat → Value) (σ : St), a = fr 55 (updL ρ [(0, (Sl alist_0 list_0 clist_0)), (3, (pt b5 0)), (42, (.agg (List.map I t49).toArray)), (43, (I s54.2))]) ∧ w = σ.w ∧ Hp S0 σ0 σ [Ch.bx n0 b5 0 (List.map I s54.1) [] [], Ch.ro 0 (Sl alist_0 list_0 clist_0) list_0] ∧ s54.1.length = 4) ⟨_, σ50, fr_join ⟨rfl, rfl, rfl, rfl, trivial⟩, rfl, H.sel' [0, 1] rfl rfl, hl51⟩ ?_
      clear h H
      rintro s54 a w o ⟨ρ, σ55, rfl, rfl, H, hl56⟩ h hres
      refine c_seq ?_
      refine rg ?_
      refine st (v := (B (decide (s54.2 < 4)))) (rv_lss (a := s54.2) (b := 4) rfl rfl) ?_
      refine w_end ?_
      refine q_then ?_
      refine c_seq ?_
      refine cd_cond (decide (s54.2 < 4)) rfl (fun hb57 => ?_) (fun hb57 => ?_)
      ·replace h := bif_t hb57 h
       refine c_skip ?_
       refine q_then ?_
       refine c_seq ?_
       refine c_blk ?_
       refine c_seq ?_
       refine rg ?_
       refine st (v := (I s54.2)) (rv_move rfl) ?_
       obtain ⟨x58, hx59, h'⟩ := bind_some h
       clear h
       have h := h'; clear h'
       refine st (v := (I x58)) (rv_idx Try.underlying94 ti3 Try.underlying3 rfl rfl hx59 hl51) ?_
       refine st (v := (I s54.2)) (rv_assign rfl) ?_
       refine st (v := (I x58)) (rv_assign rfl) ?_
       refine w_end ?_
       refine q_then ?_
       refine rg ?_
       refine st (v := (I s54.2)) (rv_move rfl) ?_
       refine st (v := (I x58)) (rv_move rfl) ?_
       refine st (v := (Sl alist_0 list_0 clist_0)) (rv_move rfl) ?_
       refine st (v := (I (list_0.length : Int))) (rv_len Try.underlying23 rfl) ?_
       obtain ⟨r60, hx61, h'⟩ := bind_some h
       clear h
       have h := h'; clear h'
       have hc62 := c_impl_divideDown hx61
       refine st_call (cx_call hc62 (ent_f hc62.fn rfl) hn0 (show Hp S0 σ0 _ ([] ++ [Ch.bx n0 b5 0 (List.map I s54.1) [] [], Ch.ro 0 (Sl alist_0 list_0 clist_0) list_0]) from (H.sel' [0, 1] rfl rfl))) wn ?_
       rintro _ σ63 ⟨_, ⟨rfl, rfl⟩, H, -⟩
       replace H : Hp S0 σ0 σ63 [Ch.bx n0 b5 0 (List.map I s54.1) [] [], Ch.ro 0 (Sl alist_0 list_0 clist_0) list_0] := H
       obtain ⟨x64, hx65, h'⟩ := bind_some h
       clear h
       have h := h'; clear h'
       have hl66 := gidx_lt hx65 hl56
       refine st (v := (pt b5 (0 + s54.2.toNat * 1))) (rv_indexAddr_array Try.underlying94 ti3 rfl rfl hl66.1 hl66.2) ?_
       have hl67 := gidx_lt hx65 hl56
       refine st_exS (ex_store_box (k := s54.2.toNat * 1) (vs := [(I r60)]) (cs' := (List.map I (s54.1.set s54.2.toNat r60))) H (i := 0) rfl ti3 rfl rfl rfl rfl rfl (by rw [List.length_map, hl56]; simp; omega) (by simp [plain]) (arr_set' _ _ _)) wn ?_
       rintro σ68 ⟨H, -⟩
       refine w_end ?_
       refine q_blk ?_
       refine q_then ?_
       refine rg ?_
       refine st (v := (I (w64 (s54.2 + 1)))) (rv_add (a := s54.2) (b := 1) rfl rfl) ?_
       refine st (v := (I (w64 (s54.2 + 1)))) (rv_move rfl) ?_
       refine w_end ?_
       refine q_then ?_
       obtain rfl := Option.some.inj h
       exact ⟨_, rfl, _, σ68, fr_join ⟨rfl, rfl, rfl, rfl, trivial⟩, rfl, H.sel' [0, 1] rfl rfl, (set_len hl56)⟩
      ·replace h := bif_f hb57 h
       refine c_exit ?_
       refine q_then_x ?_
       refine q_then_x ?_
       refine q_blk_hit ?_
       obtain rfl := Option.some.inj h
       obtain rfl := hres _ rfl
       exact ⟨rfl, _, σ55, fr_join ⟨rfl, trivial⟩, rfl, H.sel' [0] rfl rfl, hl56⟩
     ·clear hj
      have h := h'
      clear h' H
      rintro e a w ⟨rfl, ρ, σ69, rfl, rfl, H, hl70⟩
      refine q_then ?_
      refine c_seq ?_
      refine rg ?_
      replace H := Hp.arr (el := n0) H (i := 0) rfl hl70
      refine st (v := (Sl (some ⟨b5, 0, none⟩) o53 4)) (rv_slice_arrL Try.underlying94 ti3 (by decide) rfl hl70) ?_
      refine st (v := (Sl (some ⟨b5, 0, none⟩) o53 4)) (rv_assign rfl) ?_
      refine w_end ?_
      refine q_then ?_
      refine c_ret ?_
      obtain rfl := Option.some.inj h
      exact fin_ret (v := (Sl (some ⟨b5, 0, none⟩) o53 4)) (results_ok Try.results85 (res_tmp (v := (Sl (some ⟨b5, 0, none⟩) o53 4)) rfl res_nil) rfl) ⟨(some ⟨b5, 0, none⟩), 4, rfl, rfl⟩ (H.sel' [0] rfl rfl)
    ·replace h := selim_r h
     refine q_then_r ?_
     obtain rfl := Option.some.inj h
     exact fin_ret (v := (Sl a73 t71 c74)) (results_ok Try.results85 (res_tmp (v := (Sl a73 t71 c74)) rfl res_nil) rfl) ⟨a73, c74, rfl, rfl⟩ (H.sel' [0] rfl rfl)

theorem c_impl_vectorsOf {list_0 : List (Int × (List Int) × Int)} {alist_0 : Option Addr} {clist_0 : Nat} {r : (List (List Int))} (h : M.impl_vectorsOf list_0 = some r) :
    Cal2 Try.prog 86 [(Sl alist_0 list_0 clist_0)] [Ch.ro 0 (Sl alist_0 list_0 clist_0) list_0] (fun n0 v L => ∃ (az1 : Option Addr), ∃ (cz2 : Nat), v = (Sl az1 r cz2) ∧ L = [Ch.own n0 0 (Sl az1 r cz2) r] ∧ cz2 = r.length) := by
 refine cal2 (n := 23) Try.func86 rfl rfl rfl rfl ?_
 intro S0 σ0 n0 hn0 H
 unfold M.impl_vectorsOf at h
 refine c_seq ?_
 refine rg ?_
 refine st (v := (.slice none 0 0)) (rv_assign rfl) ?_
 refine w_end ?_
 refine q_then ?_
 refine c_seq ?_
 refine rg ?_
 refine st (v := (Sl alist_0 list_0 clist_0)) (rv_move rfl) ?_
 refine st (v := (I (list_0.length : Int))) (rv_len Try.underlying24 rfl) ?_
 obtain ⟨xs1, hx2, h'⟩ := bind_some h
 clear h
 have h := h'; clear h'
 refine st_ex (ex_make (el := n0) (z0 := ([] : List Int)) (zs := [(.slice none 0 0)]) H hn0 Try.underlying23 ti29 rfl rfl (⟨_, rfl, RS.nil⟩) (by decide) hx2 rfl rfl) wn ?_
 rintro _ σ6 ⟨b3, c4, rfl, ht5, H, -⟩
 replace ht5 := ht5.trans (gmake_len hx2).symm
 refine st (v := (Sl (some ⟨b3, 0, none⟩) xs1 c4)) (rv_assign rfl) ?_
 refine w_end ?_
 refine q_then ?_
 refine c_seq ?_
 refine c_seq ?_
 refine rg ?_
 refine st (v := (Sl alist_0 list_0 clist_0)) (rv_move rfl) ?_
 refine st (v := (I (list_0.length : Int))) (rv_len Try.underlying24 rfl) ?_
 refine st (v := (I 0)) (rv_move rfl) ?_
 refine w_end ?_
 refine q_then ?_
 obtain ⟨o7, hj, h'⟩ := bind_some h
 clear h
 refine c_cut (fun e a w => e = .normal ∧ ∃ (ρ : Nat → Value) (σ : St), a = fr 23 (updL ρ [(3, (Sl (some ⟨b3, 0, none⟩) o7 c4))]) ∧ w = σ.w ∧ Hp S0 σ0 σ [Ch.own n0 0 (Sl (some ⟨b3, 0, none⟩) o7 c4) o7] ∧ c4 = o7.length ∧ o7.length = xs1.length) ?_ ?_
 ·clear h'
  rename _ = some o7 => h
  refine c_blk ?_
  replace H := H.ownLow 0 n0 0 rfl (Nat.le_refl _) (Nat.zero_le _)
  refine wp_loopM _ h (fun s8 a w => ∃ (ρ : Nat → Value) (σ : St), a = fr 23 (updL ρ [(3, (Sl (some ⟨b3, 0, none⟩) s8.1 c4)), (9, (Sl alist_0 list_0 clist_0)), (10, (I (list_0.length : Int))), (11, (I s8.2))]) ∧ w = σ.w ∧ Hp S0 σ0 σ [Ch.own n0 0 (Sl (some ⟨b3, 0, none⟩) s8.1 c4) s8.1, Ch.ro 0 (Sl alist_0 list_0 clist_0) list_0] ∧ c4 = s8.1.length ∧ s8.1.length = xs1.length) ⟨_, σ6, fr_join ⟨rfl, rfl, rfl, rfl, trivial⟩, rfl, H.sel' [0, 1] rfl rfl, ht5, rfl⟩ ?_
  clear h H
  rintro s8 a w o ⟨ρ, σ9, rfl, rfl, H, ht10, hn11⟩ h hres
  refine c_seq ?_
  refine rg ?_
  refine st (v := (B (decide (s8.2 < (list_0.length : Int))))) (rv_lss (a := s8.2) (b := (list_0.length : Int)) rfl rfl) ?_
  refine w_end ?_
  refine q_then ?_
  refine c_seq ?_
  refine cd_cond (decide (s8.2 < (list_0.length : Int))) rfl (fun hb12 => ?_) (fun hb12 => ?_)
  ·replace h := bif_t hb12 h
   refine c_skip ?_
   refine q_then ?_
   refine c_seq ?_
   refine c_blk ?_
   refine c_seq ?_
   refine rg ?_
   refine st (v := (I s8.2)) (rv_move rfl) ?_
   obtain ⟨x13, hx14, h'⟩ := bind_some h
   clear h
   have h := h'; clear h'
   obtain ⟨b16, o17, hi15, -⟩ := (H.ro 1 rfl).ix hx14
   refine st (v := (pt b16 o17)) (rv_ix Try.underlying24 ti32 rfl rfl hi15) ?_
   obtain ⟨_, ⟨_, _, rfl, rfl, ⟨_, _, rfl, ⟨_, rfl, hR22⟩, rfl⟩⟩, hl18, hc19⟩ := ((H.ro 1 rfl).at hx14 hi15).cells
   obtain ⟨a20, c21, rfl⟩ := hR22.isSl
   replace H := H.add (d := Ch.ro 0 (Sl a20 x13.2.1 c21) x13.2.1) hR22 (fun _ h => h)
   clear hR22
   refine st (v := (.agg #[(I x13.1), (Sl a20 x13.2.1 c21), (I x13.2.2)])) (rv_load Try.underlying32 rfl ti32 rfl hl18 hc19) ?_
   refine st_ex (ex_alloc (cs := [(I 0), (.slice none 0 0), (I 0)]) H hn0 ti32 rfl) wn ?_
   rintro _ σ24 ⟨b23, rfl, H, -⟩
   refine st (v := (I s8.2)) (rv_assign rfl) ?_
   refine st_exS (ex_store_box (k := 0) (cs := [(I 0), (.slice none 0 0), (I 0)]) (vs := [(I x13.1), (Sl a20 x13.2.1 c21), (I x13.2.2)]) (cs' := [(I x13.1), (Sl a20 x13.2.1 c21), (I x13.2.2)]) H (i := 0) rfl ti32 rfl rfl rfl rfl rfl (Nat.le_of_ble_eq_true rfl) (by simp [plain]) rfl) wn ?_
   rintro σ25 ⟨H, -⟩
   refine w_end ?_
   refine q_then ?_
   refine rg ?_
   refine st (v := (Sl (some ⟨b3, 0, none⟩) s8.1 c4)) (rv_move rfl) ?_
   refine st (v := (I s8.2)) (rv_move rfl) ?_
   refine st (v := (pt b23 1)) (rv_fieldAddr (off := 1) (ft := 29) Try.underlying32 rfl ti29 rfl rfl) ?_
   have hc26 := H.cell (u := (Sl a20 x13.2.1 c21)) (o' := 1) 0 1 rfl rfl rfl
   refine st (v := (Sl a20 x13.2.1 c21)) (rv_load1 Try.underlying29 rfl rfl hc26) ?_
   obtain ⟨x27, hx28, h'⟩ := bind_some h
   clear h
   have h := h'; clear h'
   obtain ⟨b30, o31, hi29, -⟩ := (H.own 2 rfl).ix hx28
   refine st (v := (pt b30 o31)) (rv_ix Try.underlying23 ti29 rfl rfl hi29) ?_
   refine st_exS (ex_store_own (e' := x13.2.1) (vs := [(Sl a20 x13.2.1 c21)]) (k := 0) H (i := 2) rfl ti29 hx28 hi29 rfl rfl rfl rfl rfl (Nat.le_of_ble_eq_true rfl) (by simp [plain]) (by rintro _ ⟨_, rfl, hR34⟩; exact ⟨_, rfl, (H.ro 1 rfl)⟩)) wn ?_
   rintro σ35 ⟨H, -⟩
   have hsl : (Sl (some ⟨b3, 0, none⟩) s8.1 c4) = (Sl (some ⟨b3, 0, none⟩) (s8.1.set s8.2.toNat x13.2.1) c4) := sl_len List.length_set.symm
   rw [hsl]; rw [hsl] at H; clear hsl
   refine w_end ?_
   refine q_blk ?_
   refine q_then ?_
   refine rg ?_
   refine st (v := (I (w64 (s8.2 + 1)))) (rv_add (a := s8.2) (b := 1) rfl rfl) ?_
   refine st (v := (I (w64 (s8.2 + 1)))) (rv_move rfl) ?_
   refine w_end ?_
   refine q_then ?_
   obtain rfl := Option.some.inj h
   exact ⟨_, rfl, _, σ35, fr_join ⟨rfl, rfl, rfl, rfl, trivial⟩, rfl, H.sel' [0, 3] rfl rfl, (ht10.trans List.length_set.symm), (List.length_set.trans hn11)⟩
  ·replace h := bif_f hb12 h
   refine c_exit ?_
   refine q_then_x ?_
   refine q_then_x ?_
   refine q_blk_hit ?_
   obtain rfl := Option.some.inj h
   obtain rfl := hres _ rfl
   exact ⟨rfl, _, σ9, fr_join ⟨rfl, trivial⟩, rfl, H.sel' [0] rfl rfl, ht10, hn11⟩
 ·clear hj
  have h := h'
  clear h' H
  rintro e a w ⟨rfl, ρ, σ36, rfl, rfl, H, ht37, hn38⟩
  refine q_then ?_
  refine c_seq ?_
  refine rg ?_
  refine st (v := (Sl (some ⟨b3, 0, none⟩) o7 c4)) (rv_move rfl) ?_
  refine st (v := (Sl (some ⟨b3, 0, none⟩) o7 c4)) (rv_assign rfl) ?_
  refine w_end ?_
  refine q_then ?_
  refine c_ret ?_
  obtain rfl := Option.some.inj h
  exact fin_ret (v := (Sl (some ⟨b3, 0, none⟩) o7 c4)) (results_ok Try.results86 (res_tmp (v := (Sl (some ⟨b3, 0, none⟩) o7 c4)) rfl res_nil) rfl) ⟨(some ⟨b3, 0, none⟩), c4, rfl, rfl, ht37⟩ (H.sel' [0] rfl rfl)

theorem c_impl_MoveCentres {centres_0 : List (List Int)} {list_1 : List (Int × (List Int) × Int)} {acentres_0 : Option Addr} {ccentres_0 : Nat} {alist_1 : Option Addr} {clist_1 : Nat} {r : (List (List Int))} (h : M.impl_MoveCentres centres_0 list_1 = some r) :
    Cal2 Try.prog 41 [(Sl acentres_0 centres_0 ccentres_0), (Sl alist_1 list_1 clist_1)] [Ch.ro 0 (Sl acentres_0 centres_0 ccentres_0) centres_0, Ch.ro 0 (Sl alist_1 list_1 clist_1) list_1] (fun n0 v L => ∃ (az1 : Option Addr), ∃ (cz2 : Nat), ∃ (Kz3 : List Ch), v = (Sl az1 r cz2) ∧ L = [Ch.big Kz3] ∧ Dp 0 (Sl az1 r cz2) r Kz3) := by
 refine cal2 (n := 46) Try.func41 rfl rfl rfl rfl ?_
 intro S0 σ0 n0 hn0 H
 unfold M.impl_MoveCentres at h
 refine c_seq ?_
 refine rg ?_
 refine st (v := (.slice none 0 0)) (rv_assign rfl) ?_
 refine w_end ?_
 refine q_then ?_
 refine c_seq ?_
 refine c_seq ?_
 refine rg ?_
 refine st (v := (Sl acentres_0 centres_0 ccentres_0)) (rv_move rfl) ?_
 refine st (v := (Sl alist_1 list_1 clist_1)) (rv_move rfl) ?_
 obtain ⟨r1, hx2, h'⟩ := bind_some h
 clear h
 have h := h'; clear h'
 have hc3 := c_impl_validClusters (acentres_0 := acentres_0) (ccentres_0 := ccentres_0) (alist_1 := alist_1) (clist_1 := clist_1) hx2
 refine st_call (cx_call hc3 (ent_f hc3.fn rfl) hn0 (show Hp S0 σ0 _ ([Ch.ro 0 (Sl acentres_0 centres_0 ccentres_0) centres_0, Ch.ro 0 (Sl alist_1 list_1 clist_1) list_1] ++ [Ch.ro 0 (Sl acentres_0 centres_0 ccentres_0) centres_0, Ch.ro 0 (Sl alist_1 list_1 clist_1) list_1]) from (H.sel' [0, 1, 0, 1] rfl rfl))) wn ?_
 rintro _ σ4 ⟨_, ⟨rfl, rfl⟩, H, -⟩
 replace H : Hp S0 σ0 σ4 [Ch.ro 0 (Sl acentres_0 centres_0 ccentres_0) centres_0, Ch.ro 0 (Sl alist_1 list_1 clist_1) list_1] := H
 refine st (v := (B (!r1))) (rv_not rfl) ?_
 refine w_end ?_
 refine q_then ?_
 refine cd_cond (!r1) rfl (fun hb5 => ?_) (fun hb5 => ?_)
 ·replace h := bif_t hb5 h
  refine c_seq ?_
  refine rg ?_
  refine st (v := (.slice none 0 0)) (rv_assign rfl) ?_
  refine w_end ?_
  refine q_then ?_
  refine c_ret ?_
  refine q_then_r ?_
  obtain ⟨K6, hK7, H⟩ := H.nilDp (List Int) 0
  obtain rfl := Option.some.inj h
  exact fin_ret (v := (.slice none 0 0)) (results_ok Try.results41 (res_tmp (v := (.slice none 0 0)) rfl res_nil) rfl) ⟨none, 0, K6, rfl, rfl, hK7⟩ (H.sel' [0] rfl rfl)
 ·replace h := bif_f hb5 h
  refine c_skip ?_
  refine q_then ?_
  refine c_seq ?_
  refine rg ?_
  refine st (v := (Sl acentres_0 centres_0 ccentres_0)) (rv_move rfl) ?_
  refine st (v := (Sl alist_1 list_1 clist_1)) (rv_move rfl) ?_
  obtain ⟨r8, hx9, h'⟩ := bind_some h
  clear h
  have h := h'; clear h'
  have hc10 := c_impl_itemsByCentre (acentres_0 := acentres_0) (ccentres_0 := ccentres_0) (alist_1 := alist_1) (clist_1 := clist_1) hx9
  refine st_call (cx_call hc10 (ent_f hc10.fn rfl) hn0 (show Hp S0 σ0 _ ([Ch.ro 0 (Sl acentres_0 centres_0 ccentres_0) centres_0, Ch.ro 0 (Sl alist_1 list_1 clist_1) list_1] ++ [Ch.ro 0 (Sl acentres_0 centres_0 ccentres_0) centres_0, Ch.ro 0 (Sl alist_1 list_1 clist_1) list_1]) from (H.sel' [0, 1, 0, 1] rfl rfl))) wn ?_
  rintro _ σ14 ⟨_, ⟨b11, K12, rfl, rfl, hK13⟩, H, -⟩
  replace H : Hp S0 σ0 σ14 [Ch.big K12, Ch.ro 0 (Sl acentres_0 centres_0 ccentres_0) centres_0, Ch.ro 0 (Sl alist_1 list_1 clist_1) list_1] := H
  refine st (v := (.map (some b11))) (rv_assign rfl) ?_
  refine w_end ?_
  refine q_then ?_
  refine c_seq ?_
  refine rg ?_
  refine st (v := (Sl acentres_0 centres_0 ccentres_0)) (rv_move rfl) ?_
  refine st (v := (I (centres_0.length : Int))) (rv_len Try.underlying23 rfl) ?_
  obtain ⟨xs15, hx16, h'⟩ := bind_some h
  clear h
  have h := h'; clear h'
  obtain ⟨k21, he22, hv23⟩ := gmake_dp (zv := (.slice none 0 0 : Value)) hx16
  refine st_ex (ex_make (el := n0) (z0 := (.slice none 0 0 : Value)) (zs := [(.slice none 0 0)]) H hn0 Try.underlying23 ti29 rfl rfl (⟨rfl, rfl⟩) (by decide) hv23 rfl rfl) wn ?_
  rintro _ σ27 ⟨b17, c18, rfl, ht19, H, -⟩
  have hs26 : (Sl (some ⟨b17, 0, none⟩) (List.replicate k21 (.slice none 0 0 : Value)) c18) = (Sl (some ⟨b17, 0, none⟩) xs15 c18) := sl_len (by rw [he22]; simp)
  rw [hs26] at H ⊢
  obtain ⟨K24, hK25, H⟩ := H.dpMake (z := ([] : List Int)) rfl rfl
  rw [← he22] at hK25; clear he22 hv23 hs26 ht19
  refine st (v := (Sl (some ⟨b17, 0, none⟩) xs15 c18)) (rv_assign rfl) ?_
  refine w_end ?_
  refine q_then ?_
  refine c_seq ?_
  refine c_seq ?_
  refine rg ?_
  refine st (v := (Sl acentres_0 centres_0 ccentres_0)) (rv_move rfl) ?_
  refine st (v := (I (centres_0.length : Int))) (rv_len Try.underlying23 rfl) ?_
  refine st (v := (I 0)) (rv_move rfl) ?_
  refine w_end ?_
  refine q_then ?_
  obtain ⟨o28, hj, h'⟩ := bind_some h
  clear h
  refine c_cut (fun e a w => e = .normal ∧ ∃ (ρ : Nat → Value) (σ : St) (Kj1 : List Ch), a = fr 46 (updL ρ [(6, (Sl (some ⟨b17, 0, none⟩) o28 c18))]) ∧ w = σ.w ∧ Hp S0 σ0 σ [Ch.big Kj1] ∧ Dp n0 (Sl (some ⟨b17, 0, none⟩) o28 c18) o28 Kj1 ∧ o28.length = xs15.length) ?_ ?_
  ·clear h'
   rename _ = some o28 => h
   refine c_blk ?_
   obtain ⟨σ30, hw31, H, -⟩ := H.mpPub 1 rfl hK13
   rw [← hw31]; clear hw31
   refine wp_loopM _ h (fun s29 a w => ∃ (ρ : Nat → Value) (σ : St) (Kj1 : List Ch), a = fr 46 (updL ρ [(5, (.map (some b11))), (6, (Sl (some ⟨b17, 0, none⟩) s29.1 c18)), (19, (Sl acentres_0 centres_0 ccentres_0)), (20, (I (centres_0.length : Int))), (21, (I s29.2))]) ∧ w = σ.w ∧ Hp S0 σ0 σ [Ch.mr b11 r8, Ch.big Kj1, Ch.ro 0 (Sl acentres_0 centres_0 ccentres_0) centres_0] ∧ Dp n0 (Sl (some ⟨b17, 0, none⟩) s29.1 c18) s29.1 Kj1 ∧ s29.1.length = xs15.length) ⟨_, σ30, K24, fr_join ⟨rfl, rfl, rfl, rfl, rfl, trivial⟩, rfl, H.sel' [0, 1, 2] rfl rfl, hK25, rfl⟩ ?_
   clear h H
   rintro s29 a w o ⟨ρ, σ32, K33, rfl, rfl, H, hK34, hn35⟩ h hres
   refine c_seq ?_
   refine rg ?_
   refine st (v := (B (decide (s29.2 < (centres_0.length : Int))))) (rv_lss (a := s29.2) (b := (centres_0.length : Int)) rfl rfl) ?_
   refine w_end ?_
   refine q_then ?_
   refine c_seq ?_
   refine cd_cond (decide (s29.2 < (centres_0.length : Int))) rfl (fun hb36 => ?_) (fun hb36 => ?_)
   ·replace h := bif_t hb36 h
    refine c_skip ?_
    refine q_then ?_
    refine c_seq ?_
    obtain ⟨o37, hj, h'⟩ := bind_some h
    clear h
    refine c_cut (fun e a w => e = .normal ∧ ∃ (ρ : Nat → Value) (σ : St) (Kj1 : List Ch), a = fr 46 (updL ρ [(5, (.map (some b11))), (6, (Sl (some ⟨b17, 0, none⟩) o37 c18)), (19, (Sl acentres_0 centres_0 ccentres_0)), (20, (I (centres_0.length : Int))), (21, (I s29.2))]) ∧ w = σ.w ∧ Hp S0 σ0 σ [Ch.mr b11 r8, Ch.big Kj1, Ch.ro 0 (Sl acentres_0 centres_0 ccentres_0) centres_0] ∧ Dp n0 (Sl (some ⟨b17, 0, none⟩) o37 c18) o37 Kj1 ∧ o37.length = s29.1.length) ?_ ?_
    ·clear h'
     rename _ = some o37 => h
     refine c_blk ?_
     refine c_seq ?_
     refine rg ?_
     refine st (v := (I s29.2)) (rv_move rfl) ?_
     obtain ⟨x38, hx39, h'⟩ := bind_some h
     clear h
     have h := h'; clear h'
     obtain ⟨b41, o42, hi40, -⟩ := (H.ro 2 rfl).ix hx39
     refine st (v := (pt b41 o42)) (rv_ix Try.underlying23 ti29 rfl rfl hi40) ?_
     obtain ⟨v46, hc47, hR45⟩ := ((H.ro 2 rfl).at hx39 hi40).slice
     obtain ⟨a43, c44, rfl⟩ := hR45.isSl
     replace H := H.add (d := Ch.ro 0 (Sl a43 x38 c44) x38) hR45 (fun _ h => h)
     clear hR45
     refine st (v := (Sl a43 x38 c44)) (rv_load1 Try.underlying29 rfl rfl hc47) ?_
     refine st (v := (I s29.2)) (rv_assign rfl) ?_
     refine st (v := (Sl a43 x38 c44)) (rv_assign rfl) ?_
     refine w_end ?_
     refine q_then ?_
     refine c_seq ?_
     refine rg ?_
     refine st (v := (.map (some b11))) (rv_move rfl) ?_
     refine st (v := (I s29.2)) (rv_move rfl) ?_
     obtain ⟨v51, hL50, hR52⟩ := mrGet (H.mr 1 rfl) s29.2
     obtain ⟨a48, c49, rfl⟩ := hR52.isSl
     replace H := H.add (d := Ch.ro 0 (Sl a48 (mget r8 s29.2) c49) (mget r8 s29.2)) hR52 (fun _ h => h)
     clear hR52
     refine st (v := (Sl a48 (mget r8 s29.2) c49)) (rv_lookup Try.underlying61 Try.underlying3 ti24 rfl rfl hL50) ?_
     refine st (v := (I ((mget r8 s29.2).length : Int))) (rv_len Try.underlying24 rfl) ?_
     refine st (v := (B (((mget r8 s29.2).length : Int) == 0))) (rv_eql (a := ((mget r8 s29.2).length : Int)) (b := 0) rfl rfl) ?_
     refine w_end ?_
     refine q_then ?_
     refine cd_cond (((mget r8 s29.2).length : Int) == 0) rfl (fun hb53 => ?_) (fun hb53 => ?_)
     ·replace h := bif_t hb53 h
      refine rg ?_
      refine st (v := (Sl (some ⟨b17, 0, none⟩) s29.1 c18)) (rv_move rfl) ?_
      refine st (v := (I s29.2)) (rv_move rfl) ?_
      refine st (v := (Sl a43 x38 c44)) (rv_move rfl) ?_
      obtain ⟨r54, hx55, h'⟩ := bind_some h
      clear h
      have h := h'; clear h'
      have hc56 := c_slices_Clone_int_int (as_0 := a43) (cs_0 := c44) hx55
      refine st_call (cx_call hc56 (ent_f hc56.fn rfl) hn0 (show Hp S0 σ0 _ ([Ch.ro 0 (Sl a43 x38 c44) x38] ++ [Ch.ro 0 (Sl a48 (mget r8 s29.2) c49) (mget r8 s29.2), Ch.ro 0 (Sl a43 x38 c44) x38, Ch.mr b11 r8, Ch.big K33, Ch.ro 0 (Sl acentres_0 centres_0 ccentres_0) centres_0]) from (H.sel' [1, 0, 1, 2, 3, 4] rfl rfl))) wn ?_
      rintro _ σ59 ⟨_, ⟨a57, c58, rfl, rfl⟩, H, -⟩
      replace H : Hp S0 σ0 σ59 [Ch.own n0 n0 (Sl a57 r54 c58) r54, Ch.ro 0 (Sl a48 (mget r8 s29.2) c49) (mget r8 s29.2), Ch.ro 0 (Sl a43 x38 c44) x38, Ch.mr b11 r8, Ch.big K33, Ch.ro 0 (Sl acentres_0 centres_0 ccentres_0) centres_0] := H
      obtain ⟨x60, hx61, h'⟩ := bind_some h
      clear h
      have h := h'; clear h'
      obtain ⟨b63, o64, hi62⟩ := H.dpIx 4 rfl hK34 hx61
      refine st (v := (pt b63 o64)) (rv_ix Try.underlying23 ti29 rfl rfl hi62) ?_
      obtain ⟨v65, K66, H, hK67⟩ := H.dpOut 4 rfl hK34 hx61
      replace H := H.tail
      replace H := H.sel' [0, 1, 2, 3, 4, 5] rfl rfl
      obtain ⟨K68, hK69, he70⟩ := hK67.put (r54 : List Int) (Sl a57 r54 c58)
      refine st_exS (he70 (ty := _) (k := 0) (vs := [(Sl a57 r54 c58)]) H ti29 hi62 rfl rfl rfl rfl rfl (Nat.le_of_ble_eq_true rfl) (by simp [plain]) (by rintro _ _ ⟨rfl, _⟩; exact ⟨rfl, rfl⟩)) wn ?_
      rintro σ71 ⟨H, -⟩
      have hsl : (Sl (some ⟨b17, 0, none⟩) s29.1 c18) = (Sl (some ⟨b17, 0, none⟩) (s29.1.set s29.2.toNat r54) c18) := sl_len List.length_set.symm
      rw [hsl]; rw [hsl] at hK69; clear hsl
      refine w_end ?_
      refine q_blk ?_
      obtain rfl := Option.some.inj h
      exact ⟨rfl, _, σ71, K68, fr_join ⟨rfl, rfl, rfl, rfl, rfl, trivial⟩, rfl, H.sel' [3, 0, 4] rfl rfl, hK69, ((List.length_set.trans hn35).trans hn35.symm)⟩
     ·replace h := bif_f hb53 h
      refine rg ?_
      refine st (v := (Sl (some ⟨b17, 0, none⟩) s29.1 c18)) (rv_move rfl) ?_
      refine st (v := (I s29.2)) (rv_move rfl) ?_
      refine st (v := (.map (some b11))) (rv_move rfl) ?_
      refine st (v := (I s29.2)) (rv_move rfl) ?_
      obtain ⟨v75, hL74, hR76⟩ := mrGet (H.mr 2 rfl) s29.2
      obtain ⟨a72, c73, rfl⟩ := hR76.isSl
      replace H := H.add (d := Ch.ro 0 (Sl a72 (mget r8 s29.2) c73) (mget r8 s29.2)) hR76 (fun _ h => h)
      clear hR76
      refine st (v := (Sl a72 (mget r8 s29.2) c73)) (rv_lookup Try.underlying61 Try.underlying3 ti24 rfl rfl hL74) ?_
      obtain ⟨r77, hx78, h'⟩ := bind_some h
      clear h
      have h := h'; clear h'
      have hc79 := c_impl_vectorsOf (alist_0 := a72) (clist_0 := c73) hx78
      refine st_call (cx_call hc79 (ent_f hc79.fn rfl) hn0 (show Hp S0 σ0 _ ([Ch.ro 0 (Sl a72 (mget r8 s29.2) c73) (mget r8 s29.2)] ++ [Ch.ro 0 (Sl a72 (mget r8 s29.2) c73) (mget r8 s29.2), Ch.ro 0 (Sl a48 (mget r8 s29.2) c49) (mget r8 s29.2), Ch.ro 0 (Sl a43 x38 c44) x38, Ch.mr b11 r8, Ch.big K33, Ch.ro 0 (Sl acentres_0 centres_0 ccentres_0) centres_0]) from (H.sel' [0, 0, 1, 2, 3, 4, 5] rfl rfl))) wn ?_
      rintro _ σ83 ⟨_, ⟨a80, c81, rfl, rfl, ht82⟩, H, -⟩
      replace H : Hp S0 σ0 σ83 [Ch.own n0 0 (Sl a80 r77 c81) r77, Ch.ro 0 (Sl a72 (mget r8 s29.2) c73) (mget r8 s29.2), Ch.ro 0 (Sl a48 (mget r8 s29.2) c49) (mget r8 s29.2), Ch.ro 0 (Sl a43 x38 c44) x38, Ch.mr b11 r8, Ch.big K33, Ch.ro 0 (Sl acentres_0 centres_0 ccentres_0) centres_0] := H
      obtain ⟨σ84, hw85, H, -⟩ := H.pub 0 rfl (Nat.zero_le _)
      rw [← hw85]; clear hw85
      obtain ⟨r86, hx87, h'⟩ := bind_some h
      clear h
      have h := h'; clear h'
      have hc88 := c_impl_MeanOf (alist_0 := a80) (clist_0 := c81) hx87
      refine st_call (cx_call hc88 (ent_f hc88.fn rfl) hn0 (show Hp S0 σ0 _ ([Ch.ro 0 (Sl a80 r77 c81) r77] ++ [Ch.ro 0 (Sl a80 r77 c81) r77, Ch.ro 0 (Sl a72 (mget r8 s29.2) c73) (mget r8 s29.2), Ch.ro 0 (Sl a48 (mget r8 s29.2) c49) (mget r8 s29.2), Ch.ro 0 (Sl a43 x38 c44) x38, Ch.mr b11 r8, Ch.big K33, Ch.ro 0 (Sl acentres_0 centres_0 ccentres_0) centres_0]) from (H.sel' [0, 0, 1, 2, 3, 4, 5, 6] rfl rfl))) wn ?_
      rintro _ σ91 ⟨_, ⟨a89, c90, rfl, rfl⟩, H, -⟩
      replace H : Hp S0 σ0 σ91 [Ch.own n0 n0 (Sl a89 r86 c90) r86, Ch.ro 0 (Sl a80 r77 c81) r77, Ch.ro 0 (Sl a72 (mget r8 s29.2) c73) (mget r8 s29.2), Ch.ro 0 (Sl a48 (mget r8 s29.2) c49) (mget r8 s29.2), Ch.ro 0 (Sl a43 x38 c44) x38, Ch.mr b11 r8, Ch.big K33, Ch.ro 0 (Sl acentres_0 centres_0 ccentres_0) centres_0] := H
      replace H : Hp S0 σ0 σ91 [Ch.own n0 n0 (Sl a89 r86 c90) r86, Ch.mr b11 r8, Ch.big K33, Ch.ro 0 (Sl acentres_0 centres_0 ccentres_0) centres_0] := H.sel' [0, 5, 6, 7] rfl rfl
      obtain ⟨x92, hx93, h'⟩ := bind_some h
      clear h
      have h := h'; clear h'
      obtain ⟨b95, o96, hi94⟩ := H.dpIx 2 rfl hK34 hx93
      refine st (v := (pt b95 o96)) (rv_ix Try.underlying23 ti29 rfl rfl hi94) ?_
      obtain ⟨v97, K98, H, hK99⟩ := H.dpOut 2 rfl hK34 hx93
      replace H := H.tail
      replace H := H.sel' [0, 1, 2, 3] rfl rfl
      obtain ⟨K100, hK101, he102⟩ := hK99.put (r86 : List Int) (Sl a89 r86 c90)
      refine st_exS (he102 (ty := _) (k := 0) (vs := [(Sl a89 r86 c90)]) H ti29 hi94 rfl rfl rfl rfl rfl (Nat.le_of_ble_eq_true rfl) (by simp [plain]) (by rintro _ _ ⟨rfl, _⟩; exact ⟨rfl, rfl⟩)) wn ?_
      rintro σ103 ⟨H, -⟩
      have hsl : (Sl (some ⟨b17, 0, none⟩) s29.1 c18) = (Sl (some ⟨b17, 0, none⟩) (s29.1.set s29.2.toNat r86) c18) := sl_len List.length_set.symm
      rw [hsl]; rw [hsl] at hK101; clear hsl
      refine w_end ?_
      refine q_blk ?_
      obtain rfl := Option.some.inj h
      exact ⟨rfl, _, σ103, K100, fr_join ⟨rfl, rfl, rfl, rfl, rfl, trivial⟩, rfl, H.sel' [1, 0, 2] rfl rfl, hK101, ((List.length_set.trans hn35).trans hn35.symm)⟩
    ·clear hj
     have h := h'
     clear h' H
     rintro e a w ⟨rfl, ρ, σ104, K105, rfl, rfl, H, hK106, hn107⟩
     refine q_then ?_
     refine rg ?_
     refine st (v := (I (w64 (s29.2 + 1)))) (rv_add (a := s29.2) (b := 1) rfl rfl) ?_
     refine st (v := (I (w64 (s29.2 + 1)))) (rv_move rfl) ?_
     refine w_end ?_
     refine q_then ?_
     obtain rfl := Option.some.inj h
     exact ⟨_, rfl, _, σ104, K105, fr_join ⟨rfl, rfl, rfl, rfl, rfl, trivial⟩, rfl, H.sel' [0, 1, 2] rfl rfl, hK106, (hn107.trans hn35)⟩
   ·replace h := bif_f hb36 h
    refine c_exit ?_
    refine q_then_x ?_
    refine q_then_x ?_
    refine q_blk_hit ?_
    obtain rfl := Option.some.inj h
    obtain rfl := hres _ rfl
    exact ⟨rfl, _, σ32, K33, fr_join ⟨rfl, trivial⟩, rfl, H.sel' [1] rfl rfl, hK34, hn35⟩
  ·clear hj
   have h := h'
   clear h' H
   rintro e a w ⟨rfl, ρ, σ108, K109, rfl, rfl, H, hK110, hn111⟩
   refine q_then ?_
   refine c_seq ?_
   refine rg ?_
   refine st (v := (Sl (some ⟨b17, 0, none⟩) o28 c18)) (rv_move rfl) ?_
   refine st (v := (Sl (some ⟨b17, 0, none⟩) o28 c18)) (rv_assign rfl) ?_
   refine w_end ?_
   refine q_then ?_
   refine c_ret ?_
   obtain ⟨K112, hK113, H⟩ := H.dpLow (lo' := 0) 0 rfl hK110 (Nat.zero_le _)
   obtain rfl := Option.some.inj h
   exact fin_ret (v := (Sl (some ⟨b17, 0, none⟩) o28 c18)) (results_ok Try.results41 (res_tmp (v := (Sl (some ⟨b17, 0, none⟩) o28 c18)) rfl res_nil) rfl) ⟨(some ⟨b17, 0, none⟩), c18, K112, rfl, rfl, hK113⟩ (H.sel' [0] rfl rfl)

theorem c_laws_eqIntSS {a_0 : List (List Int)} {b_1 : List (List Int)} {aa_0 : Option Addr} {ca_0 : Nat} {ab_1 : Option Addr} {cb_1 : Nat} {r : Bool} (h : M.laws_eqIntSS a_0 b_1 = some r) :
    Cal2 Try.prog 42 [(Sl aa_0 a_0 ca_0), (Sl ab_1 b_1 cb_1)] [Ch.ro 0 (Sl aa_0 a_0 ca_0) a_0, Ch.ro 0 (Sl ab_1 b_1 cb_1) b_1] (fun n0 v L => v = (B r) ∧ L = []) := by
 refine cal2 (n := 27) Try.func42 rfl rfl rfl rfl ?_
 intro S0 σ0 n0 hn0 H
 unfold M.laws_eqIntSS at h
 refine c_seq ?_
 refine rg ?_
 refine st (v := (B false)) (rv_assign rfl) ?_
 refine w_end ?_
 refine q_then ?_
 refine c_seq ?_
 refine c_seq ?_
 refine rg ?_
 refine st (v := (Sl aa_0 a_0 ca_0)) (rv_move rfl) ?_
 refine st (v := (I (a_0.length : Int))) (rv_len Try.underlying23 rfl) ?_
 refine st (v := (Sl ab_1 b_1 cb_1)) (rv_move rfl) ?_
 refine st (v := (I (b_1.length : Int))) (rv_len Try.underlying23 rfl) ?_
 refine st (v := (B ((a_0.length : Int) != (b_1.length : Int)))) (rv_neq (a := (a_0.length : Int)) (b := (b_1.length : Int)) rfl rfl) ?_
 refine w_end ?_
 refine q_then ?_
 refine cd_cond ((a_0.length : Int) != (b_1.length : Int)) rfl (fun hb1 => ?_) (fun hb1 => ?_)
 ·replace h := bif_t hb1 h
  refine c_seq ?_
  refine rg ?_
  refine st (v := (B false)) (rv_assign rfl) ?_
  refine w_end ?_
  refine q_then ?_
  refine c_ret ?_
  refine q_then_r ?_
  obtain rfl := Option.some.inj h
  exact fin_ret (v := (B false)) (results_ok Try.results42 (res_tmp (v := (B false)) rfl res_nil) rfl) ⟨rfl, rfl⟩ (H.sel' [] rfl rfl)
 ·replace h := bif_f hb1 h
  refine c_skip ?_
  refine q_then ?_
  refine c_seq ?_
  refine c_seq ?_
  refine rg ?_
  refine st (v := (I 0)) (rv_assign rfl) ?_
  refine w_end ?_
  refine q_then ?_
  obtain ⟨o2, hj, h'⟩ := bind_some h
  clear h
  refine c_cut (fun e a w => (∃ t, o2 = (.inl t) ∧ e = .normal ∧ ∃ (ρ : Nat → Value) (σ : St), a = fr 27 (updL ρ []) ∧ w = σ.w ∧ Hp S0 σ0 σ []) ∨ (∃ t, o2 = (.inr t) ∧ e = .ret ∧ ∃ (ρ : Nat → Value) (σ : St), a = fr 27 (updL ρ [(4, (B t))]) ∧ w = σ.w ∧ Hp S0 σ0 σ [])) ?_ ?_
  ·clear h'
   rename _ = some o2 => h
   refine c_blk ?_
   refine wp_loopM _ h (fun s3 a w => ∃ (ρ : Nat → Value) (σ : St), a = fr 27 (updL ρ [(0, (Sl aa_0 a_0 ca_0)), (1, (Sl ab_1 b_1 cb_1)), (5, (I s3))]) ∧ w = σ.w ∧ Hp S0 σ0 σ [Ch.ro 0 (Sl aa_0 a_0 ca_0) a_0, Ch.ro 0 (Sl ab_1 b_1 cb_1) b_1]) ⟨_, σ0, fr_join ⟨rfl, rfl, rfl, trivial⟩, rfl, H.sel' [0, 1] rfl rfl⟩ ?_
   clear h H
   rintro s3 a w o ⟨ρ, σ4, rfl, rfl, H⟩ h hres
   refine c_seq ?_
   refine c_seq ?_
   refine rg ?_
   refine st (v := (I s3)) (rv_move rfl) ?_
   refine st (v := (Sl aa_0 a_0 ca_0)) (rv_move rfl) ?_
   refine st (v := (I (a_0.length : Int))) (rv_len Try.underlying23 rfl) ?_
   refine st (v := (B (decide (s3 < (a_0.length : Int))))) (rv_lss (a := s3) (b := (a_0.length : Int)) rfl rfl) ?_
   refine w_end ?_
   refine q_then ?_
   refine cd_cond (decide (s3 < (a_0.length : Int))) rfl (fun hb5 => ?_) (fun hb5 => ?_)
   ·replace h := bif_t hb5 h
    refine c_skip ?_
    refine q_then ?_
    refine c_seq ?_
    refine c_blk ?_
    refine c_seq ?_
    refine rgP (σ := σ4) 8 (by kernel_rfl) (by kernel_rfl) (by kernel_rfl) ?_
    refine sq (v := (Sl aa_0 a_0 ca_0)) (rv_move rfl) ?_
    refine sq (v := (I s3)) (rv_move rfl) ?_
    obtain ⟨x6, hx7, h'⟩ := bind_some h
    clear h
    have h := h'; clear h'
    obtain ⟨b9, o10, hi8, -⟩ := (H.ro 0 rfl).ix hx7
    refine sq (v := (pt b9 o10)) (rv_ix Try.underlying23 ti29 rfl rfl hi8) ?_
    obtain ⟨v14, hc15, hR13⟩ := ((H.ro 0 rfl).at hx7 hi8).slice
    obtain ⟨a11, c12, rfl⟩ := hR13.isSl
    replace H := H.add (d := Ch.ro 0 (Sl a11 x6 c12) x6) hR13 (fun _ h => h)
    clear hR13
    refine sq (v := (Sl a11 x6 c12)) (rv_load1 Try.underlying29 rfl rfl hc15) ?_
    refine sq (v := (Sl ab_1 b_1 cb_1)) (rv_move rfl) ?_
    refine sq (v := (I s3)) (rv_move rfl) ?_
    obtain ⟨x16, hx17, h'⟩ := bind_some h
    clear h
    have h := h'; clear h'
    obtain ⟨b19, o20, hi18, -⟩ := (H.ro 2 rfl).ix hx17
    refine sq (v := (pt b19 o20)) (rv_ix Try.underlying23 ti29 rfl rfl hi18) ?_
    obtain ⟨v24, hc25, hR23⟩ := ((H.ro 2 rfl).at hx17 hi18).slice
    obtain ⟨a21, c22, rfl⟩ := hR23.isSl
    replace H := H.add (d := Ch.ro 0 (Sl a21 x16 c22) x16) hR23 (fun _ h => h)
    clear hR23
    refine sq (v := (Sl a21 x16 c22)) (rv_load1 Try.underlying29 rfl rfl hc25) ?_
    refine sq_end ?_
    intro σ26 hm27
    replace H := H.grow (hm27.mono fun _ h => h); clear hm27
    obtain ⟨r28, hx29, h'⟩ := bind_some h
    clear h
    have h := h'; clear h'
    have hc30 := c_laws_eqIntS (aa_0 := a11) (ca_0 := c12) (ab_1 := a21) (cb_1 := c22) hx29
    refine st_call (cx_call hc30 (ent_f hc30.fn rfl) hn0 (show Hp S0 σ0 _ ([Ch.ro 0 (Sl a11 x6 c12) x6, Ch.ro 0 (Sl a21 x16 c22) x16] ++ [Ch.ro 0 (Sl a21 x16 c22) x16, Ch.ro 0 (Sl a11 x6 c12) x6, Ch.ro 0 (Sl aa_0 a_0 ca_0) a_0, Ch.ro 0 (Sl ab_1 b_1 cb_1) b_1]) from (H.sel' [1, 0, 0, 1, 2, 3] rfl rfl))) wn ?_
    rintro _ σ31 ⟨_, ⟨rfl, rfl⟩, H, -⟩
    replace H : Hp S0 σ0 σ31 [Ch.ro 0 (Sl a21 x16 c22) x16, Ch.ro 0 (Sl a11 x6 c12) x6, Ch.ro 0 (Sl aa_0 a_0 ca_0) a_0, Ch.ro 0 (Sl ab_1 b_1 cb_1) b_1] := H
    refine st (v := (B (!r28))) (rv_not rfl) ?_
    refine w_end ?_
    refine q_then ?_
    refine cd_cond (!r28) rfl (fun hb32 => ?_) (fun hb32 => ?_)
    ·replace h := bif_t hb32 h
     refine c_seq ?_
     refine rg ?_
     refine st (v := (B false)) (rv_assign rfl) ?_
     refine w_end ?_
     refine q_then ?_
     refine c_ret ?_
     refine q_blk_r ?_
     refine q_then_r ?_
     refine q_then_r ?_
     refine q_blk_r ?_
     obtain rfl := Option.some.inj h
     obtain rfl := hres _ rfl
     exact .inr (⟨_, rfl, rfl, _, σ31, fr_join ⟨rfl, trivial⟩, rfl, H.sel' [] rfl rfl⟩)
    ·replace h := bif_f hb32 h
     refine c_skip ?_
     refine q_blk ?_
     refine q_then ?_
     refine rg ?_
     refine st (v := (I s3)) (rv_move rfl) ?_
     refine st (v := (I (w64 (s3 + 1)))) (rv_add (a := s3) (b := 1) rfl rfl) ?_
     refine st (v := (I (w64 (s3 + 1)))) (rv_assign rfl) ?_
     refine w_end ?_
     refine q_then ?_
     obtain rfl := Option.some.inj h
     exact ⟨_, rfl, _, σ31, fr_join ⟨rfl, rfl, rfl, trivial⟩, rfl, H.sel' [2, 3] rfl rfl⟩
   ·replace h := bif_f hb5 h
    refine c_exit ?_
    refine q_then_x ?_
    refine q_then_x ?_
    refine q_blk_hit ?_
    obtain rfl := Option.some.inj h
    obtain rfl := hres _ rfl
    exact .inl ⟨_, rfl, rfl, _, σ4, fr_join trivial, rfl, H.sel' [] rfl rfl⟩
  ·clear hj
   have h := h'
   clear h' H
   rintro e a w (⟨t33, rfl, rfl, ρ, σ34, rfl, rfl, H⟩ | ⟨t35, rfl, rfl, ρ, σ36, rfl, rfl, H⟩)
   ·replace h := selim_l h
    refine q_then ?_
    refine c_seq ?_
    refine rg ?_
    refine st (v := (B true)) (rv_assign rfl) ?_
    refine w_end ?_
    refine q_then ?_
    refine c_ret ?_
    obtain rfl := Option.some.inj h
    exact fin_ret (v := (B true)) (results_ok Try.results42 (res_tmp (v := (B true)) rfl res_nil) rfl) ⟨rfl, rfl⟩ (H.sel' [] rfl rfl)
   ·replace h := selim_r h
    refine q_then_r ?_
    obtain rfl := Option.some.inj h
    exact fin_ret (v := (B t35)) (results_ok Try.results42 (res_tmp (v := (B t35)) rfl res_nil) rfl) ⟨rfl, rfl⟩ (H.sel' [] rfl rfl)

theorem c_laws_markIntSS {a_0 : List (List Int)} {k_1 : Int} {aa_0 : Option Addr} {ca_0 : Nat} {lo : Nat} {K : List Ch} (hK : Dp lo (Sl aa_0 a_0 ca_0) a_0 K) {r : Int × List (List Int)} (h : M.markIntSB a_0 k_1 = some r) :
    Cal2 Try.prog 43 [(Sl aa_0 a_0 ca_0), (I k_1)] [Ch.big K] (fun n0 v L => v = (I r.1) ∧ L = [Ch.ro 0 (Sl aa_0 r.2 ca_0) r.2] ∧ r.2.length = a_0.length) := by
 obtain ⟨hn, h⟩ := markIntSB_some h
 obtain ⟨ps, hps, rfl⟩ := hK.ex
 refine cal2 (n := 19) Try.func43 rfl rfl rfl rfl ?_
 intro S0 σ0 n0 hn0 H
 refine c_seq ?_
 refine rg ?_
 refine st (v := (I 0)) (rv_assign rfl) ?_
 refine w_end ?_
 refine q_then ?_
 refine c_seq ?_
 refine c_seq ?_
 refine rg ?_
 refine st (v := (I 0)) (rv_assign rfl) ?_
 refine w_end ?_
 refine q_then ?_
 refine c_cut (fun e a w => e = .normal ∧ ∃ (ρ : Nat → Value) (σ : St) (ds : List ((List Int) × Value)), a = fr 19 (updL ρ [(1, (I r.1))]) ∧ w = σ.w ∧ ds.length = a_0.length ∧ ds.map (·.1) = r.2 ∧ Hp S0 σ0 σ [Ch.own lo lo (Sl aa_0 a_0 ca_0) (ds.map dsh), Ch.big (ds.map (dow 0))]) ?_ ?_
 ·refine c_blk ?_
  have hlen : ps.length = a_0.length := by rw [hps]; simp
  refine wp_loop_ghost (fun m a w => ∃ (i : Nat) (ρ : Nat → Value) (σ : St) (ds qs : List ((List Int) × Value)) (k : Int), i + m = a_0.length ∧ qs.length = m ∧ ds.length = i ∧ (∃ q, M.dmarkIntSB (qs.map (·.1)) k = some q ∧ r = (q.1, ds.map (·.1) ++ q.2)) ∧ a = fr 19 (updL ρ [(0, (Sl aa_0 a_0 ca_0)), (1, (I k)), (5, (I (i : Int)))]) ∧ w = σ.w ∧ Hp S0 σ0 σ [Ch.own lo lo (Sl aa_0 a_0 ca_0) (ds.map dsh ++ qs.map dsh), Ch.big (qs.map (dow lo)), Ch.big (ds.map (dow 0))]) a_0.length ⟨0, _, σ0, [], ps, k_1, by omega, hlen, rfl, ⟨r, hps ▸ h, rfl⟩, fr_join ⟨rfl, rfl, rfl, trivial⟩, rfl, H.unbig.bigNil.sel' [1, 2, 0] rfl rfl⟩ ?_
  clear H
  rintro m _ _ ⟨i, ρ, σ3, ds, qs, k, him, hqs, hds, ⟨q0, hk, hr⟩, rfl, rfl, H⟩
  refine c_seq ?_
  refine c_seq ?_
  refine rg ?_
  refine st (v := (I (i : Int))) (rv_move rfl) ?_
  refine st (v := (Sl aa_0 a_0 ca_0)) (rv_move rfl) ?_
  refine st (v := (I (a_0.length : Int))) (rv_len Try.underlying23 rfl) ?_
  refine st (v := (B (decide ((i : Int) < (a_0.length : Int))))) (rv_lss (a := (i : Int)) (b := (a_0.length : Int)) rfl rfl) ?_
  refine w_end ?_
  refine q_then ?_
  refine cd_cond (decide ((i : Int) < (a_0.length : Int))) rfl (fun hb => ?_) (fun hb => ?_)
  ·have hlt : i < a_0.length := by have := of_decide_eq_true hb; omega
   obtain ⟨m, rfl⟩ : ∃ m', m = m' + 1 := ⟨m - 1, by omega⟩
   obtain ⟨p, qs, rfl⟩ : ∃ p qs', qs = p :: qs' := by cases qs with
    | nil => cases hqs
    | cons p qs => exact ⟨p, qs, rfl⟩
   obtain ⟨q, hq, h1⟩ := bind_some (show (M.laws_markIntS p.1 k).bind (fun q => (M.dmarkIntSB (qs.map (·.1)) q.1).bind fun t => some (t.1, q.2 :: t.2)) = some q0 from hk)
   obtain ⟨t, ht, h2⟩ := bind_some h1
   obtain rfl := Option.some.inj h2
   replace H : Hp S0 σ0 σ3 [Ch.own lo lo (Sl aa_0 a_0 ca_0) (ds.map dsh ++ dsh p :: qs.map dsh), Ch.big (dow lo p :: qs.map (dow lo)), Ch.big (ds.map (dow 0))] := H
   refine c_skip ?_
   refine q_then ?_
   refine c_seq ?_
   refine c_blk ?_
   refine rg ?_
   refine st (v := (Sl aa_0 a_0 ca_0)) (rv_move rfl) ?_
   refine st (v := (I (i : Int))) (rv_move rfl) ?_
   have hx7 : gidx (ds.map dsh ++ dsh p :: qs.map dsh) (i : Int) = some (dsh p : Value) := gidx_mid (by rw [List.length_map]; exact hds)
   obtain ⟨b9, o10, hi8, -⟩ := (H.own 0 rfl).ix hx7
   refine st (v := (pt b9 o10)) (rv_ix Try.underlying23 ti29 rfl rfl hi8) ?_
   obtain ⟨_, ⟨rfl, hpl⟩, hl18, hc19⟩ := ((H.own 0 rfl).at hx7 hi8).cells
   replace H := Hp.unbig (H.sel' [1, 0, 2] rfl rfl)
   obtain ⟨a20, c21, h22⟩ : IsSl p.2 p.1.length := (show Ow σ3 lo lo p.2 p.1 from H.head).isSl
   obtain ⟨px, hd⟩ := p
   dsimp only at h22 hq hc19
   subst h22
   have hc20 := hc19 0 (by simp)
   refine st (v := (Sl a20 px c21)) (rv_load1 Try.underlying29 rfl rfl hc20) ?_
   refine st (v := (I k)) (rv_move rfl) ?_
   replace H : Hp S0 σ0 σ3 [Ch.own lo lo (Sl a20 px c21) px, Ch.big (qs.map (dow lo)), Ch.own lo lo (Sl aa_0 a_0 ca_0) (ds.map dsh ++ dsh (px, (Sl a20 px c21)) :: qs.map dsh), Ch.big (ds.map (dow 0))] := H
   replace H := H.ownSc 0 0 0 rfl (Nat.zero_le _)
   have hc25 := c_laws_markIntS (aa_0 := a20) (ca_0 := c21) hq
   refine st_call (cx_call hc25 (ent_f hc25.fn rfl) hn0 (H.sel' [0, 1, 2, 3] rfl rfl : Hp S0 σ0 _ ([_] ++ _))) (wanted_none _ rfl _) ?_
   rintro _ σ29 ⟨_, ⟨rfl, rfl, hn⟩, H, -⟩
   have hsl : (dsh (px, (Sl a20 px c21)) : Value) = dsh (q.2, (Sl a20 q.2 c21)) := sl_len hn.symm
   replace H : Hp S0 σ0 σ29 [Ch.own 0 0 (Sl a20 q.2 c21) q.2, Ch.big (qs.map (dow lo)), Ch.own lo lo (Sl aa_0 a_0 ca_0) (ds.map dsh ++ dsh (px, (Sl a20 px c21)) :: qs.map dsh), Ch.big (ds.map (dow 0))] := H
   rw [hsl] at H
   replace H := Hp.bigSnoc (H.sel' [0, 3, 1, 2] rfl rfl)
   replace H := H.sel' [2, 1, 0] rfl rfl
   refine st (v := (I q.1)) (rv_assign rfl) ?_
   refine w_end ?_
   refine q_blk ?_
   refine q_then ?_
   refine rg ?_
   refine st (v := (I (i : Int))) (rv_move rfl) ?_
   refine st (v := (I (w64 ((i : Int) + 1)))) (rv_add (a := (i : Int)) (b := 1) rfl rfl) ?_
   refine st (v := (I (w64 ((i : Int) + 1)))) (rv_assign rfl) ?_
   refine w_end ?_
   have e1 : w64 ((i : Int) + 1) = ((i + 1 : Nat) : Int) := w64_id (by omega) (by omega)
   rw [e1]
   refine q_then ?_
   refine ⟨m, by omega, i + 1, _, σ29, ds ++ [(q.2, (Sl a20 q.2 c21))], qs, _, by omega, by simpa using hqs, by simp [hds], ⟨t, ht, by rw [hr]; simp⟩, fr_join ⟨rfl, rfl, rfl, trivial⟩, rfl, ?_⟩
   rw [List.map_append, List.map_append, List.append_assoc]
   exact H
  ·have hlt : ¬ i < a_0.length := by have := of_decide_eq_false hb; omega
   obtain rfl : m = 0 := by omega
   obtain rfl : qs = [] := List.eq_nil_of_length_eq_zero hqs
   obtain rfl : (k, []) = q0 := Option.some.inj hk
   obtain rfl : k = r.1 := by rw [hr]
   have hr2 : ds.map (·.1) = r.2 := by rw [hr]; simp
   refine c_exit ?_
   refine q_then_x ?_
   refine q_then_x ?_
   refine q_blk_hit ?_
   rw [List.map_nil, List.append_nil] at H
   exact ⟨rfl, _, σ3, ds, fr_join ⟨rfl, trivial⟩, rfl, by omega, hr2, H.sel' [0, 2] rfl rfl⟩
 ·clear H
  rintro e a w ⟨rfl, ρ, σ41, ds, rfl, rfl, hdl, hds, H⟩
  have hlen : r.2.length = a_0.length := by rw [← hds, List.length_map]; exact hdl
  refine q_then ?_
  refine c_seq ?_
  refine rg ?_
  refine st (v := (I r.1)) (rv_move rfl) ?_
  refine st (v := (I r.1)) (rv_assign rfl) ?_
  refine w_end ?_
  refine q_then ?_
  refine c_ret ?_
  replace H := (H.ownLow 0 0 0 rfl (Nat.zero_le _) (Nat.zero_le _)).bigCons
  rw [show (Sl aa_0 a_0 ca_0) = (Sl aa_0 r.2 ca_0) from sl_len hlen.symm] at H
  obtain ⟨σ42, hw, H, -⟩ := H.dpPub 0 rfl (⟨⟨ds, hds.symm, rfl⟩⟩ : Dp 0 (Sl aa_0 r.2 ca_0) r.2 _)
  rw [← hw]
  exact fin_ret (v := (I r.1)) (results_ok Try.results43 (res_tmp (v := (I r.1)) rfl res_nil) rfl) ⟨rfl, rfl, hlen⟩ H


theorem c_laws_heldIntS {a_0 : List Int} {k_1 : Int} {aa_0 : Option Addr} {ca_0 : Nat} {r : Int} (h : M.laws_heldIntS a_0 k_1 = some r) :
    Cal2 Try.prog 79 [(Sl aa_0 a_0 ca_0), (I k_1)] [Ch.ro 0 (Sl aa_0 a_0 ca_0) a_0] (fun n0 v L => v = (I r) ∧ L = []) := by
 refine cal2 (n := 21) Try.func79 rfl rfl rfl rfl ?_
 intro S0 σ0 n0 hn0 H
 unfold M.laws_heldIntS at h
 refine c_seq ?_
 refine rg ?_
 refine st (v := (I 0)) (rv_assign rfl) ?_
 refine w_end ?_
 refine q_then ?_
 refine c_seq ?_
 refine c_seq ?_
 refine rg ?_
 refine st (v := (I 0)) (rv_assign rfl) ?_
 refine w_end ?_
 refine q_then ?_
 obtain ⟨o1, hj, h'⟩ := bind_some h
 clear h
 refine c_cut (fun e a w => (∃ t, o1 = (.inl t) ∧ e = .normal ∧ ∃ (ρ : Nat → Value) (σ : St), a = fr 21 (updL ρ [(1, (I t))]) ∧ w = σ.w ∧ Hp S0 σ0 σ []) ∨ (∃ t, o1 = (.inr t) ∧ e = .ret ∧ ∃ (ρ : Nat → Value) (σ : St), a = fr 21 (updL ρ [(4, (I t))]) ∧ w = σ.w ∧ Hp S0 σ0 σ [])) ?_ ?_
 ·clear h'
  rename _ = some o1 => h
  refine c_blk ?_
  refine wp_loopM _ h (fun s2 a w => ∃ (ρ : Nat → Value) (σ : St), a = fr 21 (updL ρ [(0, (Sl aa_0 a_0 ca_0)), (1, (I s2.1)), (5, (I s2.2))]) ∧ w = σ.w ∧ Hp S0 σ0 σ [Ch.ro 0 (Sl aa_0 a_0 ca_0) a_0]) ⟨_, σ0, fr_join ⟨rfl, rfl, rfl, trivial⟩, rfl, H.sel' [0] rfl rfl⟩ ?_
  clear h H
  rintro s2 a w o ⟨ρ, σ3, rfl, rfl, H⟩ h hres
  refine c_seq ?_
  refine c_seq ?_
  refine rg ?_
  refine st (v := (I s2.2)) (rv_move rfl) ?_
  refine st (v := (Sl aa_0 a_0 ca_0)) (rv_move rfl) ?_
  refine st (v := (I (a_0.length : Int))) (rv_len Try.underlying29 rfl) ?_
  refine st (v := (B (decide (s2.2 < (a_0.length : Int))))) (rv_lss (a := s2.2) (b := (a_0.length : Int)) rfl rfl) ?_
  refine w_end ?_
  refine q_then ?_
  refine cd_cond (decide (s2.2 < (a_0.length : Int))) rfl (fun hb4 => ?_) (fun hb4 => ?_)
  ·replace h := bif_t hb4 h
   refine c_skip ?_
   refine q_then ?_
   refine c_seq ?_
   refine c_blk ?_
   refine c_seq ?_
   refine c_seq ?_
   refine rg ?_
   refine st (v := (Sl aa_0 a_0 ca_0)) (rv_move rfl) ?_
   refine st (v := (I s2.2)) (rv_move rfl) ?_
   obtain ⟨x5, hx6, h'⟩ := bind_some h
   clear h
   have h := h'; clear h'
   obtain ⟨b8, o9, hi7, -⟩ := (H.ro 0 rfl).ix hx6
   refine st (v := (pt b8 o9)) (rv_ix Try.underlying29 ti3 rfl rfl hi7) ?_
   have hc10 := ((H.ro 0 rfl).at hx6 hi7).int
   refine st (v := (I x5)) (rv_load1 Try.underlying3 rfl rfl hc10) ?_
   refine st (v := (I s2.1)) (rv_move rfl) ?_
   refine st (v := (B (x5 != s2.1))) (rv_neq (a := x5) (b := s2.1) rfl rfl) ?_
   refine w_end ?_
   refine q_then ?_
   refine cd_cond (x5 != s2.1) rfl (fun hb11 => ?_) (fun hb11 => ?_)
   ·replace h := bif_t hb11 h
    refine c_seq ?_
    refine rg ?_
    refine st (v := (I (-1))) (rv_assign rfl) ?_
    refine w_end ?_
    refine q_then ?_
    refine c_ret ?_
    refine q_then_r ?_
    refine q_blk_r ?_
    refine q_then_r ?_
    refine q_then_r ?_
    refine q_blk_r ?_
    obtain rfl := Option.some.inj h
    obtain rfl := hres _ rfl
    exact .inr (⟨_, rfl, rfl, _, σ3, fr_join ⟨rfl, trivial⟩, rfl, H.sel' [] rfl rfl⟩)
   ·replace h := bif_f hb11 h
    refine c_skip ?_
    refine q_then ?_
    refine rg ?_
    refine st (v := (I s2.1)) (rv_move rfl) ?_
    refine st (v := (I (w64 (s2.1 + 1)))) (rv_add (a := s2.1) (b := 1) rfl rfl) ?_
    refine st (v := (I (w64 (s2.1 + 1)))) (rv_assign rfl) ?_
    refine w_end ?_
    refine q_blk ?_
    refine q_then ?_
    refine rg ?_
    refine st (v := (I s2.2)) (rv_move rfl) ?_
    refine st (v := (I (w64 (s2.2 + 1)))) (rv_add (a := s2.2) (b := 1) rfl rfl) ?_
    refine st (v := (I (w64 (s2.2 + 1)))) (rv_assign rfl) ?_
    refine w_end ?_
    refine q_then ?_
    obtain rfl := Option.some.inj h
    exact ⟨_, rfl, _, σ3, fr_join ⟨rfl, rfl, rfl, trivial⟩, rfl, H.sel' [0] rfl rfl⟩
  ·replace h := bif_f hb4 h
   refine c_exit ?_
   refine q_then_x ?_
   refine q_then_x ?_
   refine q_blk_hit ?_
   obtain rfl := Option.some.inj h
   obtain rfl := hres _ rfl
   exact .inl ⟨_, rfl, rfl, _, σ3, fr_join ⟨rfl, trivial⟩, rfl, H.sel' [] rfl rfl⟩
 ·clear hj
  have h := h'
  clear h' H
  rintro e a w (⟨t12, rfl, rfl, ρ, σ13, rfl, rfl, H⟩ | ⟨t14, rfl, rfl, ρ, σ15, rfl, rfl, H⟩)
  ·replace h := selim_l h
   refine q_then ?_
   refine c_seq ?_
   refine rg ?_
   refine st (v := (I t12)) (rv_move rfl) ?_
   refine st (v := (I t12)) (rv_assign rfl) ?_
   refine w_end ?_
   refine q_then ?_
   refine c_ret ?_
   obtain rfl := Option.some.inj h
   exact fin_ret (v := (I t12)) (results_ok Try.results79 (res_tmp (v := (I t12)) rfl res_nil) rfl) ⟨rfl, rfl⟩ (H.sel' [] rfl rfl)
  ·replace h := selim_r h
   refine q_then_r ?_
   obtain rfl := Option.some.inj h
   exact fin_ret (v := (I t14)) (results_ok Try.results79 (res_tmp (v := (I t14)) rfl res_nil) rfl) ⟨rfl, rfl⟩ (H.sel' [] rfl rfl)

theorem c_laws_heldIntSS {a_0 : List (List Int)} {k_1 : Int} {aa_0 : Option Addr} {ca_0 : Nat} {r : Int} (h : M.laws_heldIntSS a_0 k_1 = some r) :
    Cal2 Try.prog 44 [(Sl aa_0 a_0 ca_0), (I k_1)] [Ch.ro 0 (Sl aa_0 a_0 ca_0) a_0] (fun n0 v L => v = (I r) ∧ L = []) := by
 refine cal2 (n := 21) Try.func44 rfl rfl rfl rfl ?_
 intro S0 σ0 n0 hn0 H
 unfold M.laws_heldIntSS at h
 refine c_seq ?_
 refine rg ?_
 refine st (v := (I 0)) (rv_assign rfl) ?_
 refine w_end ?_
 refine q_then ?_
 refine c_seq ?_
 refine c_seq ?_
 refine rg ?_
 refine st (v := (I 0)) (rv_assign rfl) ?_
 refine w_end ?_
 refine q_then ?_
 obtain ⟨o1, hj, h'⟩ := bind_some h
 clear h
 refine c_cut (fun e a w => (∃ t, o1 = (.inl t) ∧ e = .normal ∧ ∃ (ρ : Nat → Value) (σ : St), a = fr 21 (updL ρ [(1, (I t))]) ∧ w = σ.w ∧ Hp S0 σ0 σ []) ∨ (∃ t, o1 = (.inr t) ∧ e = .ret ∧ ∃ (ρ : Nat → Value) (σ : St), a = fr 21 (updL ρ [(4, (I t))]) ∧ w = σ.w ∧ Hp S0 σ0 σ [])) ?_ ?_
 ·clear h'
  rename _ = some o1 => h
  refine c_blk ?_
  refine wp_loopM _ h (fun s2 a w => ∃ (ρ : Nat → Value) (σ : St), a = fr 21 (updL ρ [(0, (Sl aa_0 a_0 ca_0)), (1, (I s2.1)), (5, (I s2.2))]) ∧ w = σ.w ∧ Hp S0 σ0 σ [Ch.ro 0 (Sl aa_0 a_0 ca_0) a_0]) ⟨_, σ0, fr_join ⟨rfl, rfl, rfl, trivial⟩, rfl, H.sel' [0] rfl rfl⟩ ?_
  clear h H
  rintro s2 a w o ⟨ρ, σ3, rfl, rfl, H⟩ h hres
  refine c_seq ?_
  refine c_seq ?_
  refine rg ?_
  refine st (v := (I s2.2)) (rv_move rfl) ?_
  refine st (v := (Sl aa_0 a_0 ca_0)) (rv_move rfl) ?_
  refine st (v := (I (a_0.length : Int))) (rv_len Try.underlying23 rfl) ?_
  refine st (v := (B (decide (s2.2 < (a_0.length : Int))))) (rv_lss (a := s2.2) (b := (a_0.length : Int)) rfl rfl) ?_
  refine w_end ?_
  refine q_then ?_
  refine cd_cond (decide (s2.2 < (a_0.length : Int))) rfl (fun hb4 => ?_) (fun hb4 => ?_)
  ·replace h := bif_t hb4 h
   refine c_skip ?_
   refine q_then ?_
   refine c_seq ?_
   refine c_blk ?_
   refine c_seq ?_
   refine rg ?_
   refine st (v := (Sl aa_0 a_0 ca_0)) (rv_move rfl) ?_
   refine st (v := (I s2.2)) (rv_move rfl) ?_
   obtain ⟨x5, hx6, h'⟩ := bind_some h
   clear h
   have h := h'; clear h'
   obtain ⟨b8, o9, hi7, -⟩ := (H.ro 0 rfl).ix hx6
   refine st (v := (pt b8 o9)) (rv_ix Try.underlying23 ti29 rfl rfl hi7) ?_
   obtain ⟨v13, hc14, hR12⟩ := ((H.ro 0 rfl).at hx6 hi7).slice
   obtain ⟨a10, c11, rfl⟩ := hR12.isSl
   replace H := H.add (d := Ch.ro 0 (Sl a10 x5 c11) x5) hR12 (fun _ h => h)
   clear hR12
   refine st (v := (Sl a10 x5 c11)) (rv_load1 Try.underlying29 rfl rfl hc14) ?_
   refine st (v := (I s2.1)) (rv_move rfl) ?_
   obtain ⟨r15, hx16, h'⟩ := bind_some h
   clear h
   have h := h'; clear h'
   have hc17 := c_laws_heldIntS (aa_0 := a10) (ca_0 := c11) hx16
   refine st_call (cx_call hc17 (ent_f hc17.fn rfl) hn0 (show Hp S0 σ0 _ ([Ch.ro 0 (Sl a10 x5 c11) x5] ++ [Ch.ro 0 (Sl a10 x5 c11) x5, Ch.ro 0 (Sl aa_0 a_0 ca_0) a_0]) from (H.sel' [0, 0, 1] rfl rfl))) wn ?_
   rintro _ σ18 ⟨_, ⟨rfl, rfl⟩, H, -⟩
   replace H : Hp S0 σ0 σ18 [Ch.ro 0 (Sl a10 x5 c11) x5, Ch.ro 0 (Sl aa_0 a_0 ca_0) a_0] := H
   refine st (v := (I r15)) (rv_assign rfl) ?_
   refine w_end ?_
   refine q_then ?_
   refine c_seq ?_
   refine rg ?_
   refine st (v := (I r15)) (rv_move rfl) ?_
   refine st (v := (B (decide (r15 < 0)))) (rv_lss (a := r15) (b := 0) rfl rfl) ?_
   refine w_end ?_
   refine q_then ?_
   refine cd_cond (decide (r15 < 0)) rfl (fun hb19 => ?_) (fun hb19 => ?_)
   ·replace h := bif_t hb19 h
    refine c_seq ?_
    refine rg ?_
    refine st (v := (I (-1))) (rv_assign rfl) ?_
    refine w_end ?_
    refine q_then ?_
    refine c_ret ?_
    refine q_blk_r ?_
    refine q_then_r ?_
    refine q_then_r ?_
    refine q_blk_r ?_
    obtain rfl := Option.some.inj h
    obtain rfl := hres _ rfl
    exact .inr (⟨_, rfl, rfl, _, σ18, fr_join ⟨rfl, trivial⟩, rfl, H.sel' [] rfl rfl⟩)
   ·replace h := bif_f hb19 h
    refine c_skip ?_
    refine q_blk ?_
    refine q_then ?_
    refine rg ?_
    refine st (v := (I s2.2)) (rv_move rfl) ?_
    refine st (v := (I (w64 (s2.2 + 1)))) (rv_add (a := s2.2) (b := 1) rfl rfl) ?_
    refine st (v := (I (w64 (s2.2 + 1)))) (rv_assign rfl) ?_
    refine w_end ?_
    refine q_then ?_
    obtain rfl := Option.some.inj h
    exact ⟨_, rfl, _, σ18, fr_join ⟨rfl, rfl, rfl, trivial⟩, rfl, H.sel' [1] rfl rfl⟩
  ·replace h := bif_f hb4 h
   refine c_exit ?_
   refine q_then_x ?_
   refine q_then_x ?_
   refine q_blk_hit ?_
   obtain rfl := Option.some.inj h
   obtain rfl := hres _ rfl
   exact .inl ⟨_, rfl, rfl, _, σ3, fr_join ⟨rfl, trivial⟩, rfl, H.sel' [] rfl rfl⟩
 ·clear hj
  have h := h'
  clear h' H
  rintro e a w (⟨t20, rfl, rfl, ρ, σ21, rfl, rfl, H⟩ | ⟨t22, rfl, rfl, ρ, σ23, rfl, rfl, H⟩)
  ·replace h := selim_l h
   refine q_then ?_
   refine c_seq ?_
   refine rg ?_
   refine st (v := (I t20)) (rv_move rfl) ?_
   refine st (v := (I t20)) (rv_assign rfl) ?_
   refine w_end ?_
   refine q_then ?_
   refine c_ret ?_
   obtain rfl := Option.some.inj h
   exact fin_ret (v := (I t20)) (results_ok Try.results44 (res_tmp (v := (I t20)) rfl res_nil) rfl) ⟨rfl, rfl⟩ (H.sel' [] rfl rfl)
  ·replace h := selim_r h
   refine q_then_r ?_
   obtain rfl := Option.some.inj h
   exact fin_ret (v := (I t22)) (results_ok Try.results44 (res_tmp (v := (I t22)) rfl res_nil) rfl) ⟨rfl, rfl⟩ (H.sel' [] rfl rfl)

theorem c_laws_FnExactMoveCentres {aCentres_0 : List (List Int)} {aList_1 : List (Int × (List Int) × Int)} {aaCentres_0 : Option Addr} {caCentres_0 : Nat} {aaList_1 : Option Addr} {caList_1 : Nat} {r : Bool} (h : M.laws_FnExactMoveCentres aCentres_0 aList_1 = some r) :
    Cal2 Try.prog 9 [(Sl aaCentres_0 aCentres_0 caCentres_0), (Sl aaList_1 aList_1 caList_1)] [Ch.ro 0 (Sl aaCentres_0 aCentres_0 caCentres_0) aCentres_0, Ch.ro 0 (Sl aaList_1 aList_1 caList_1) aList_1] (fun n0 v L => v = (B r) ∧ L = []) := by
 refine cal2 (n := 92) Try.func9 rfl rfl rfl rfl ?_
 intro S0 σ0 n0 hn0 H
 unfold M.laws_FnExactMoveCentres at h
 refine c_seq ?_
 refine rg ?_
 refine st (v := (B false)) (rv_assign rfl) ?_
 refine w_end ?_
 refine q_then ?_
 refine c_seq ?_
 refine rg ?_
 refine st (v := (I 1048576)) (rv_assign rfl) ?_
 refine w_end ?_
 refine q_then ?_
 refine c_seq ?_
 refine rg ?_
 refine st (v := (Sl aaCentres_0 aCentres_0 caCentres_0)) (rv_move rfl) ?_
 refine st (v := (I 1048576)) (rv_move rfl) ?_
 obtain ⟨r1, hx2, h'⟩ := bind_some h
 clear h
 have h := h'; clear h'
 have hc3 := c_laws_szIntSS (aa_0 := aaCentres_0) (ca_0 := caCentres_0) hx2
 refine st_call (cx_call hc3 (ent_f hc3.fn rfl) hn0 (show Hp S0 σ0 _ ([Ch.ro 0 (Sl aaCentres_0 aCentres_0 caCentres_0) aCentres_0] ++ [Ch.ro 0 (Sl aaCentres_0 aCentres_0 caCentres_0) aCentres_0, Ch.ro 0 (Sl aaList_1 aList_1 caList_1) aList_1]) from (H.sel' [0, 0, 1] rfl rfl))) wn ?_
 rintro _ σ4 ⟨_, ⟨rfl, rfl⟩, H, -⟩
 replace H : Hp S0 σ0 σ4 [Ch.ro 0 (Sl aaCentres_0 aCentres_0 caCentres_0) aCentres_0, Ch.ro 0 (Sl aaList_1 aList_1 caList_1) aList_1] := H
 refine st (v := (I r1)) (rv_assign rfl) ?_
 refine w_end ?_
 refine q_then ?_
 refine c_seq ?_
 refine c_seq ?_
 refine rg ?_
 refine st (v := (I r1)) (rv_move rfl) ?_
 refine st (v := (B (decide (r1 < 0)))) (rv_lss (a := r1) (b := 0) rfl rfl) ?_
 refine w_end ?_
 refine q_then ?_
 refine cd_cond (decide (r1 < 0)) rfl (fun hb5 => ?_) (fun hb5 => ?_)
 ·replace h := bif_t hb5 h
  refine c_seq ?_
  refine rg ?_
  refine st (v := (B true)) (rv_assign rfl) ?_
  refine w_end ?_
  refine q_then ?_
  refine c_ret ?_
  refine q_then_r ?_
  obtain rfl := Option.some.inj h
  exact fin_ret (v := (B true)) (results_ok Try.results9 (res_tmp (v := (B true)) rfl res_nil) rfl) ⟨rfl, rfl⟩ (H.sel' [] rfl rfl)
 ·replace h := bif_f hb5 h
  refine c_skip ?_
  refine q_then ?_
  refine c_seq ?_
  refine rg ?_
  refine st (v := (Sl aaList_1 aList_1 caList_1)) (rv_move rfl) ?_
  refine st (v := (I r1)) (rv_move rfl) ?_
  obtain ⟨r6, hx7, h'⟩ := bind_some h
  clear h
  have h := h'; clear h'
  have hc8 := c_laws_szItemS (aa_0 := aaList_1) (ca_0 := caList_1) hx7
  refine st_call (cx_call hc8 (ent_f hc8.fn rfl) hn0 (show Hp S0 σ0 _ ([Ch.ro 0 (Sl aaList_1 aList_1 caList_1) aList_1] ++ [Ch.ro 0 (Sl aaCentres_0 aCentres_0 caCentres_0) aCentres_0, Ch.ro 0 (Sl aaList_1 aList_1 caList_1) aList_1]) from (H.sel' [1, 0, 1] rfl rfl))) wn ?_
  rintro _ σ9 ⟨_, ⟨rfl, rfl⟩, H, -⟩
  replace H : Hp S0 σ0 σ9 [Ch.ro 0 (Sl aaCentres_0 aCentres_0 caCentres_0) aCentres_0, Ch.ro 0 (Sl aaList_1 aList_1 caList_1) aList_1] := H
  refine st (v := (I r6)) (rv_assign rfl) ?_
  refine w_end ?_
  refine q_then ?_
  refine c_seq ?_
  refine c_seq ?_
  refine rg ?_
  refine st (v := (I r6)) (rv_move rfl) ?_
  refine st (v := (B (decide (r6 < 0)))) (rv_lss (a := r6) (b := 0) rfl rfl) ?_
  refine w_end ?_
  refine q_then ?_
  refine cd_cond (decide (r6 < 0)) rfl (fun hb10 => ?_) (fun hb10 => ?_)
  ·replace h := bif_t hb10 h
   refine c_seq ?_
   refine rg ?_
   refine st (v := (B true)) (rv_assign rfl) ?_
   refine w_end ?_
   refine q_then ?_
   refine c_ret ?_
   refine q_then_r ?_
   obtain rfl := Option.some.inj h
   exact fin_ret (v := (B true)) (results_ok Try.results9 (res_tmp (v := (B true)) rfl res_nil) rfl) ⟨rfl, rfl⟩ (H.sel' [] rfl rfl)
  ·replace h := bif_f hb10 h
   refine c_skip ?_
   refine q_then ?_
   refine c_seq ?_
   refine rg ?_
   refine st (v := (Sl aaCentres_0 aCentres_0 caCentres_0)) (rv_move rfl) ?_
   obtain ⟨r11, hx12, h'⟩ := bind_some h
   clear h
   have h := h'; clear h'
   have hc13 := c_laws_toIntSS (aa_0 := aaCentres_0) (ca_0 := caCentres_0) hx12
   refine st_call (cx_call hc13 (ent_f hc13.fn rfl) hn0 (show Hp S0 σ0 _ ([Ch.ro 0 (Sl aaCentres_0 aCentres_0 caCentres_0) aCentres_0] ++ [Ch.ro 0 (Sl aaCentres_0 aCentres_0 caCentres_0) aCentres_0, Ch.ro 0 (Sl aaList_1 aList_1 caList_1) aList_1]) from (H.sel' [0, 0, 1] rfl rfl))) wn ?_
   rintro _ σ18 ⟨_, ⟨a14, c15, K16, rfl, rfl, hK17⟩, H, -⟩
   replace H : Hp S0 σ0 σ18 [Ch.big K16, Ch.ro 0 (Sl aaCentres_0 aCentres_0 caCentres_0) aCentres_0, Ch.ro 0 (Sl aaList_1 aList_1 caList_1) aList_1] := H
   refine st (v := (Sl aaList_1 aList_1 caList_1)) (rv_move rfl) ?_
   obtain ⟨r19, hx20, h'⟩ := bind_some h
   clear h
   have h := h'; clear h'
   have hc21 := c_laws_toItemS (aa_0 := aaList_1) (ca_0 := caList_1) hx20
   refine st_call (cx_call hc21 (ent_f hc21.fn rfl) hn0 (show Hp S0 σ0 _ ([Ch.ro 0 (Sl aaList_1 aList_1 caList_1) aList_1] ++ [Ch.big K16, Ch.ro 0 (Sl aaCentres_0 aCentres_0 caCentres_0) aCentres_0, Ch.ro 0 (Sl aaList_1 aList_1 caList_1) aList_1]) from (H.sel' [2, 0, 1, 2] rfl rfl))) wn ?_
   rintro _ σ26 ⟨_, ⟨a22, c23, K24, rfl, rfl, hK25⟩, H, -⟩
   replace H : Hp S0 σ0 σ26 [Ch.big K24, Ch.big K16, Ch.ro 0 (Sl aaCentres_0 aCentres_0 caCentres_0) aCentres_0, Ch.ro 0 (Sl aaList_1 aList_1 caList_1) aList_1] := H
   obtain ⟨r27, hx28, h'⟩ := bind_some h
   clear h
   have h := h'; clear h'
   have hc29 := c_spec_MoveCentres (acentres_0 := a14) (ccentres_0 := c15) (alist_1 := a22) (clist_1 := c23) hx28
   have hle := Nat.le_trans hn0 H.size
   refine st_call (cx_lend (Loan.lendB hK17.lends (Loan.lendB hK25.lends Loan.nil)) hc29 (ent_f hc29.fn rfl) (show Hp S0 σ0 _ ([Ch.big K16, Ch.big K24] ++ ([] ++ [Ch.ro 0 (Sl aaCentres_0 aCentres_0 caCentres_0) aCentres_0, Ch.ro 0 (Sl aaList_1 aList_1 caList_1) aList_1])) from (H.sel' [1, 0, 2, 3] rfl rfl)) (by rintro _ _ _ ⟨_, _, rfl, rfl⟩; exact ⟨Ab.own (Nat.le_refl _), trivial⟩)) wn ?_
   rintro _ σ32 ⟨_, ⟨a30, c31, rfl, rfl⟩, H, -, -⟩
   replace H : Hp S0 σ0 σ32 [Ch.own σ26.size σ26.size (Sl a30 r27 c31) r27, Ch.big K16, Ch.big K24, Ch.ro 0 (Sl aaCentres_0 aCentres_0 caCentres_0) aCentres_0, Ch.ro 0 (Sl aaList_1 aList_1 caList_1) aList_1] := H
   replace H := H.ownLow 0 n0 n0 rfl hle hle
   clear hle
   replace H : Hp S0 σ0 σ32 [Ch.own n0 n0 (Sl a30 r27 c31) r27, Ch.big K16, Ch.big K24, Ch.ro 0 (Sl aaCentres_0 aCentres_0 caCentres_0) aCentres_0, Ch.ro 0 (Sl aaList_1 aList_1 caList_1) aList_1] := H
   refine st (v := (Sl a30 r27 c31)) (rv_assign rfl) ?_
   refine w_end ?_
   refine q_then ?_
   refine c_seq ?_
   refine rg ?_
   refine st (v := (Sl aaCentres_0 aCentres_0 caCentres_0)) (rv_move rfl) ?_
   obtain ⟨r33, hx34, h'⟩ := bind_some h
   clear h
   have h := h'; clear h'
   have hc35 := c_laws_toIntSS (aa_0 := aaCentres_0) (ca_0 := caCentres_0) hx34
   refine st_call (cx_call hc35 (ent_f hc35.fn rfl) hn0 (show Hp S0 σ0 _ ([Ch.ro 0 (Sl aaCentres_0 aCentres_0 caCentres_0) aCentres_0] ++ [Ch.own n0 n0 (Sl a30 r27 c31) r27, Ch.big K16, Ch.big K24, Ch.ro 0 (Sl aaCentres_0 aCentres_0 caCentres_0) aCentres_0, Ch.ro 0 (Sl aaList_1 aList_1 caList_1) aList_1]) from (H.sel' [3, 0, 1, 2, 3, 4] rfl rfl))) wn ?_
   rintro _ σ40 ⟨_, ⟨a36, c37, K38, rfl, rfl, hK39⟩, H, -⟩
   replace H : Hp S0 σ0 σ40 [Ch.big K38, Ch.own n0 n0 (Sl a30 r27 c31) r27, Ch.big K16, Ch.big K24, Ch.ro 0 (Sl aaCentres_0 aCentres_0 caCentres_0) aCentres_0, Ch.ro 0 (Sl aaList_1 aList_1 caList_1) aList_1] := H
   refine st (v := (Sl a36 r33 c37)) (rv_assign rfl) ?_
   refine w_end ?_
   refine q_then ?_
   refine c_seq ?_
   refine rg ?_
   refine st (v := (Sl aaList_1 aList_1 caList_1)) (rv_move rfl) ?_
   obtain ⟨r41, hx42, h'⟩ := bind_some h
   clear h
   have h := h'; clear h'
   have hc43 := c_laws_toItemS (aa_0 := aaList_1) (ca_0 := caList_1) hx42
   refine st_call (cx_call hc43 (ent_f hc43.fn rfl) hn0 (show Hp S0 σ0 _ ([Ch.ro 0 (Sl aaList_1 aList_1 caList_1) aList_1] ++ [Ch.big K38, Ch.own n0 n0 (Sl a30 r27 c31) r27, Ch.big K16, Ch.big K24, Ch.ro 0 (Sl aaCentres_0 aCentres_0 caCentres_0) aCentres_0, Ch.ro 0 (Sl aaList_1 aList_1 caList_1) aList_1]) from (H.sel' [5, 0, 1, 2, 3, 4, 5] rfl rfl))) wn ?_
   rintro _ σ48 ⟨_, ⟨a44, c45, K46, rfl, rfl, hK47⟩, H, -⟩
   replace H : Hp S0 σ0 σ48 [Ch.big K46, Ch.big K38, Ch.own n0 n0 (Sl a30 r27 c31) r27, Ch.big K16, Ch.big K24, Ch.ro 0 (Sl aaCentres_0 aCentres_0 caCentres_0) aCentres_0, Ch.ro 0 (Sl aaList_1 aList_1 caList_1) aList_1] := H
   refine st (v := (Sl a44 r41 c45)) (rv_assign rfl) ?_
   refine w_end ?_
   refine q_then ?_
   refine c_seq ?_
   refine rg ?_
   refine st (v := (Sl a36 r33 c37)) (rv_move rfl) ?_
   refine st (v := (Sl a44 r41 c45)) (rv_move rfl) ?_
   obtain ⟨r49, hx50, h'⟩ := bind_some h
   clear h
   have h := h'; clear h'
   have hc51 := c_impl_MoveCentres (acentres_0 := a36) (ccentres_0 := c37) (alist_1 := a44) (clist_1 := c45) hx50
   have hle := Nat.le_trans hn0 H.size
   refine st_call (cx_lend (Loan.lendB hK39.lends (Loan.lendB hK47.lends Loan.nil)) hc51 (ent_f hc51.fn rfl) (show Hp S0 σ0 _ ([Ch.big K38, Ch.big K46] ++ ([] ++ [Ch.own n0 n0 (Sl a30 r27 c31) r27, Ch.big K16, Ch.big K24, Ch.ro 0 (Sl aaCentres_0 aCentres_0 caCentres_0) aCentres_0, Ch.ro 0 (Sl aaList_1 aList_1 caList_1) aList_1])) from (H.sel' [1, 0, 2, 3, 4, 5, 6] rfl rfl)) (by rintro _ _ _ ⟨_, _, _, rfl, rfl, hK55⟩; exact ⟨Dp.abSc hK55, trivial⟩)) wn ?_
   rintro _ σ56 ⟨_, ⟨a52, c53, K54, rfl, rfl, hK55⟩, H, -, -⟩
   replace H : Hp S0 σ0 σ56 [Ch.big K54, Ch.big K38, Ch.big K46, Ch.own n0 n0 (Sl a30 r27 c31) r27, Ch.big K16, Ch.big K24, Ch.ro 0 (Sl aaCentres_0 aCentres_0 caCentres_0) aCentres_0, Ch.ro 0 (Sl aaList_1 aList_1 caList_1) aList_1] := H
   clear hle
   replace H : Hp S0 σ0 σ56 [Ch.big K54, Ch.big K38, Ch.big K46, Ch.own n0 n0 (Sl a30 r27 c31) r27, Ch.big K16, Ch.big K24, Ch.ro 0 (Sl aaCentres_0 aCentres_0 caCentres_0) aCentres_0, Ch.ro 0 (Sl aaList_1 aList_1 caList_1) aList_1] := H
   replace H : Hp S0 σ0 σ56 [Ch.big K54, Ch.big K38, Ch.big K46, Ch.own n0 n0 (Sl a30 r27 c31) r27, Ch.ro 0 (Sl aaCentres_0 aCentres_0 caCentres_0) aCentres_0, Ch.ro 0 (Sl aaList_1 aList_1 caList_1) aList_1] := H.sel' [0, 1, 2, 3, 6, 7] rfl rfl
   refine st (v := (Sl a52 r49 c53)) (rv_assign rfl) ?_
   refine w_end ?_
   refine q_then ?_
   refine c_seq ?_
   refine c_seq ?_
   refine rg ?_
   refine st (v := (Sl a52 r49 c53)) (rv_move rfl) ?_
   refine st (v := (Sl a30 r27 c31)) (rv_move rfl) ?_
   obtain ⟨r57, hx58, h'⟩ := bind_some h
   clear h
   have h := h'; clear h'
   have hc59 := c_laws_eqIntSS (aa_0 := a52) (ca_0 := c53) (ab_1 := a30) (cb_1 := c31) hx58
   have hle := Nat.le_trans hn0 H.size
   refine st_call (cx_lend (Loan.lendB hK55.lends (Loan.lend Loan.nil)) hc59 (ent_f hc59.fn rfl) (show Hp S0 σ0 _ ([Ch.big K54, Ch.own n0 n0 (Sl a30 r27 c31) r27] ++ ([] ++ [Ch.big K38, Ch.big K46, Ch.ro 0 (Sl aaCentres_0 aCentres_0 caCentres_0) aCentres_0, Ch.ro 0 (Sl aaList_1 aList_1 caList_1) aList_1])) from (H.sel' [0, 3, 1, 2, 4, 5] rfl rfl)) (by rintro _ _ _ ⟨rfl, rfl⟩; exact trivial)) wn ?_
   rintro _ σ60 ⟨_, ⟨rfl, rfl⟩, H, -, -⟩
   replace H : Hp S0 σ0 σ60 [Ch.big K54, Ch.own n0 n0 (Sl a30 r27 c31) r27, Ch.big K38, Ch.big K46, Ch.ro 0 (Sl aaCentres_0 aCentres_0 caCentres_0) aCentres_0, Ch.ro 0 (Sl aaList_1 aList_1 caList_1) aList_1] := H
   clear hle
   replace H : Hp S0 σ0 σ60 [Ch.big K54, Ch.own n0 n0 (Sl a30 r27 c31) r27, Ch.big K38, Ch.big K46, Ch.ro 0 (Sl aaCentres_0 aCentres_0 caCentres_0) aCentres_0, Ch.ro 0 (Sl aaList_1 aList_1 caList_1) aList_1] := H
   refine st (v := (B (!r57))) (rv_not rfl) ?_
   refine w_end ?_
   refine q_then ?_
   refine cd_cond (!r57) rfl (fun hb61 => ?_) (fun hb61 => ?_)
   ·replace h := bif_t hb61 h
    refine c_seq ?_
    refine rg ?_
    refine st (v := (B false)) (rv_assign rfl) ?_
    refine w_end ?_
    refine q_then ?_
    refine c_ret ?_
    refine q_then_r ?_
    obtain rfl := Option.some.inj h
    exact fin_ret (v := (B false)) (results_ok Try.results9 (res_tmp (v := (B false)) rfl res_nil) rfl) ⟨rfl, rfl⟩ (H.sel' [] rfl rfl)
   ·replace h := bif_f hb61 h
    refine c_skip ?_
    refine q_then ?_
    refine c_seq ?_
    refine c_seq ?_
    refine rg ?_
    refine st (v := (Sl a36 r33 c37)) (rv_move rfl) ?_
    refine st (v := (Sl aaCentres_0 aCentres_0 caCentres_0)) (rv_move rfl) ?_
    obtain ⟨r62, hx63, h'⟩ := bind_some h
    clear h
    have h := h'; clear h'
    have hc64 := c_laws_toIntSS (aa_0 := aaCentres_0) (ca_0 := caCentres_0) hx63
    refine st_call (cx_call hc64 (ent_f hc64.fn rfl) hn0 (show Hp S0 σ0 _ ([Ch.ro 0 (Sl aaCentres_0 aCentres_0 caCentres_0) aCentres_0] ++ [Ch.big K54, Ch.own n0 n0 (Sl a30 r27 c31) r27, Ch.big K38, Ch.big K46, Ch.ro 0 (Sl aaCentres_0 aCentres_0 caCentres_0) aCentres_0, Ch.ro 0 (Sl aaList_1 aList_1 caList_1) aList_1]) from (H.sel' [4, 0, 1, 2, 3, 4, 5] rfl rfl))) wn ?_
    rintro _ σ69 ⟨_, ⟨a65, c66, K67, rfl, rfl, hK68⟩, H, -⟩
    replace H : Hp S0 σ0 σ69 [Ch.big K67, Ch.big K54, Ch.own n0 n0 (Sl a30 r27 c31) r27, Ch.big K38, Ch.big K46, Ch.ro 0 (Sl aaCentres_0 aCentres_0 caCentres_0) aCentres_0, Ch.ro 0 (Sl aaList_1 aList_1 caList_1) aList_1] := H
    obtain ⟨r70, hx71, h'⟩ := bind_some h
    clear h
    have h := h'; clear h'
    have hc72 := c_laws_eqIntSS (aa_0 := a36) (ca_0 := c37) (ab_1 := a65) (cb_1 := c66) hx71
    have hle := Nat.le_trans hn0 H.size
    refine st_call (cx_lend (Loan.lendB hK39.lends (Loan.lendB hK68.lends Loan.nil)) hc72 (ent_f hc72.fn rfl) (show Hp S0 σ0 _ ([Ch.big K38, Ch.big K67] ++ ([] ++ [Ch.big K54, Ch.own n0 n0 (Sl a30 r27 c31) r27, Ch.big K46, Ch.ro 0 (Sl aaCentres_0 aCentres_0 caCentres_0) aCentres_0, Ch.ro 0 (Sl aaList_1 aList_1 caList_1) aList_1])) from (H.sel' [3, 0, 1, 2, 4, 5, 6] rfl rfl)) (by rintro _ _ _ ⟨rfl, rfl⟩; exact trivial)) wn ?_
    rintro _ σ73 ⟨_, ⟨rfl, rfl⟩, H, -, -⟩
    replace H : Hp S0 σ0 σ73 [Ch.big K38, Ch.big K67, Ch.big K54, Ch.own n0 n0 (Sl a30 r27 c31) r27, Ch.big K46, Ch.ro 0 (Sl aaCentres_0 aCentres_0 caCentres_0) aCentres_0, Ch.ro 0 (Sl aaList_1 aList_1 caList_1) aList_1] := H
    clear hle
    replace H : Hp S0 σ0 σ73 [Ch.big K38, Ch.big K67, Ch.big K54, Ch.own n0 n0 (Sl a30 r27 c31) r27, Ch.big K46, Ch.ro 0 (Sl aaCentres_0 aCentres_0 caCentres_0) aCentres_0, Ch.ro 0 (Sl aaList_1 aList_1 caList_1) aList_1] := H
    refine st (v := (B (!r70))) (rv_not rfl) ?_
    refine w_end ?_
    refine q_then ?_
    refine cd_cond (!r70) rfl (fun hb74 => ?_) (fun hb74 => ?_)
    ·replace h := bif_t hb74 h
     refine c_seq ?_
     refine rg ?_
     refine st (v := (B false)) (rv_assign rfl) ?_
     refine w_end ?_
     refine q_then ?_
     refine c_ret ?_
     refine q_then_r ?_
     obtain rfl := Option.some.inj h
     exact fin_ret (v := (B false)) (results_ok Try.results9 (res_tmp (v := (B false)) rfl res_nil) rfl) ⟨rfl, rfl⟩ (H.sel' [] rfl rfl)
    ·replace h := bif_f hb74 h
     refine c_skip ?_
     refine q_then ?_
     refine c_seq ?_
     refine c_seq ?_
     refine rg ?_
     refine st (v := (Sl a44 r41 c45)) (rv_move rfl) ?_
     refine st (v := (Sl aaList_1 aList_1 caList_1)) (rv_move rfl) ?_
     obtain ⟨r75, hx76, h'⟩ := bind_some h
     clear h
     have h := h'; clear h'
     have hc77 := c_laws_toItemS (aa_0 := aaList_1) (ca_0 := caList_1) hx76
     refine st_call (cx_call hc77 (ent_f hc77.fn rfl) hn0 (show Hp S0 σ0 _ ([Ch.ro 0 (Sl aaList_1 aList_1 caList_1) aList_1] ++ [Ch.big K38, Ch.big K67, Ch.big K54, Ch.own n0 n0 (Sl a30 r27 c31) r27, Ch.big K46, Ch.ro 0 (Sl aaCentres_0 aCentres_0 caCentres_0) aCentres_0, Ch.ro 0 (Sl aaList_1 aList_1 caList_1) aList_1]) from (H.sel' [6, 0, 1, 2, 3, 4, 5, 6] rfl rfl))) wn ?_
     rintro _ σ82 ⟨_, ⟨a78, c79, K80, rfl, rfl, hK81⟩, H, -⟩
     replace H : Hp S0 σ0 σ82 [Ch.big K80, Ch.big K38, Ch.big K67, Ch.big K54, Ch.own n0 n0 (Sl a30 r27 c31) r27, Ch.big K46, Ch.ro 0 (Sl aaCentres_0 aCentres_0 caCentres_0) aCentres_0, Ch.ro 0 (Sl aaList_1 aList_1 caList_1) aList_1] := H
     replace H : Hp S0 σ0 σ82 [Ch.big K80, Ch.big K38, Ch.big K54, Ch.own n0 n0 (Sl a30 r27 c31) r27, Ch.big K46, Ch.ro 0 (Sl aaCentres_0 aCentres_0 caCentres_0) aCentres_0, Ch.ro 0 (Sl aaList_1 aList_1 caList_1) aList_1] := H.sel' [0, 1, 3, 4, 5, 6, 7] rfl rfl
     obtain ⟨r83, hx84, h'⟩ := bind_some h
     clear h
     have h := h'; clear h'
     have hc85 := c_laws_eqItemS (aa_0 := a44) (ca_0 := c45) (ab_1 := a78) (cb_1 := c79) hx84
     have hle := Nat.le_trans hn0 H.size
     refine st_call (cx_lend (Loan.lendB hK47.lends (Loan.lendB hK81.lends Loan.nil)) hc85 (ent_f hc85.fn rfl) (show Hp S0 σ0 _ ([Ch.big K46, Ch.big K80] ++ ([] ++ [Ch.big K38, Ch.big K54, Ch.own n0 n0 (Sl a30 r27 c31) r27, Ch.ro 0 (Sl aaCentres_0 aCentres_0 caCentres_0) aCentres_0, Ch.ro 0 (Sl aaList_1 aList_1 caList_1) aList_1])) from (H.sel' [4, 0, 1, 2, 3, 5, 6] rfl rfl)) (by rintro _ _ _ ⟨rfl, rfl⟩; exact trivial)) wn ?_
     rintro _ σ86 ⟨_, ⟨rfl, rfl⟩, H, -, -⟩
     replace H : Hp S0 σ0 σ86 [Ch.big K46, Ch.big K80, Ch.big K38, Ch.big K54, Ch.own n0 n0 (Sl a30 r27 c31) r27, Ch.ro 0 (Sl aaCentres_0 aCentres_0 caCentres_0) aCentres_0, Ch.ro 0 (Sl aaList_1 aList_1 caList_1) aList_1] := H
     clear hle
     replace H : Hp S0 σ0 σ86 [Ch.big K46, Ch.big K80, Ch.big K38, Ch.big K54, Ch.own n0 n0 (Sl a30 r27 c31) r27, Ch.ro 0 (Sl aaCentres_0 aCentres_0 caCentres_0) aCentres_0, Ch.ro 0 (Sl aaList_1 aList_1 caList_1) aList_1] := H
     refine st (v := (B (!r83))) (rv_not rfl) ?_
     refine w_end ?_
     refine q_then ?_
     refine cd_cond (!r83) rfl (fun hb87 => ?_) (fun hb87 => ?_)
     ·replace h := bif_t hb87 h
      refine c_seq ?_
      refine rg ?_
      refine st (v := (B false)) (rv_assign rfl) ?_
      refine w_end ?_
      refine q_then ?_
      refine c_ret ?_
      refine q_then_r ?_
      obtain rfl := Option.some.inj h
      exact fin_ret (v := (B false)) (results_ok Try.results9 (res_tmp (v := (B false)) rfl res_nil) rfl) ⟨rfl, rfl⟩ (H.sel' [] rfl rfl)
     ·replace h := bif_f hb87 h
      refine c_skip ?_
      refine q_then ?_
      refine c_seq ?_
      refine rg ?_
      refine st (v := (I 1)) (rv_assign rfl) ?_
      refine w_end ?_
      refine q_then ?_
      refine c_seq ?_
      refine rg ?_
      refine st (v := (Sl a36 r33 c37)) (rv_move rfl) ?_
      refine st (v := (I 1)) (rv_move rfl) ?_
      obtain ⟨r88, hx89, h'⟩ := bind_some h
      clear h
      have h := h'; clear h'
      have hc90 := c_laws_markIntSS (aa_0 := a36) (ca_0 := c37) (hK := hK39) hx89
      refine st_call (cx_call hc90 (ent_f hc90.fn rfl) hn0 (show Hp S0 σ0 _ ([Ch.big K38] ++ [Ch.big K46, Ch.big K80, Ch.big K54, Ch.own n0 n0 (Sl a30 r27 c31) r27, Ch.ro 0 (Sl aaCentres_0 aCentres_0 caCentres_0) aCentres_0, Ch.ro 0 (Sl aaList_1 aList_1 caList_1) aList_1]) from (H.sel' [2, 0, 1, 3, 4, 5, 6] rfl rfl))) wn ?_
      rintro _ σ92 ⟨_, ⟨rfl, rfl, hn91⟩, H, -⟩
      replace H : Hp S0 σ0 σ92 [Ch.ro 0 (Sl a36 r88.2 c37) r88.2, Ch.big K46, Ch.big K80, Ch.big K54, Ch.own n0 n0 (Sl a30 r27 c31) r27, Ch.ro 0 (Sl aaCentres_0 aCentres_0 caCentres_0) aCentres_0, Ch.ro 0 (Sl aaList_1 aList_1 caList_1) aList_1] := H
      have hsl : (Sl a36 r33 c37) = (Sl a36 r88.2 c37) := sl_len hn91.symm
      try rw [hsl]
      try rw [hsl] at H
      clear hsl
      refine st (v := (I r88.1)) (rv_assign rfl) ?_
      refine w_end ?_
      refine q_then ?_
      refine c_seq ?_
      refine rg ?_
      refine st (v := (Sl a44 r41 c45)) (rv_move rfl) ?_
      refine st (v := (I r88.1)) (rv_move rfl) ?_
      obtain ⟨r93, hx94, h'⟩ := bind_some h
      clear h
      have h := h'; clear h'
      have hc95 := c_laws_markItemS (aa_0 := a44) (ca_0 := c45) (hK := hK47) hx94
      refine st_call (cx_call hc95 (ent_f hc95.fn rfl) hn0 (show Hp S0 σ0 _ ([Ch.big K46] ++ [Ch.ro 0 (Sl a36 r88.2 c37) r88.2, Ch.big K80, Ch.big K54, Ch.own n0 n0 (Sl a30 r27 c31) r27, Ch.ro 0 (Sl aaCentres_0 aCentres_0 caCentres_0) aCentres_0, Ch.ro 0 (Sl aaList_1 aList_1 caList_1) aList_1]) from (H.sel' [1, 0, 2, 3, 4, 5, 6] rfl rfl))) wn ?_
      rintro _ σ96 ⟨_, ⟨rfl, rfl⟩, H, -⟩
      replace H : Hp S0 σ0 σ96 [Ch.ro 0 (Sl a36 r88.2 c37) r88.2, Ch.big K80, Ch.big K54, Ch.own n0 n0 (Sl a30 r27 c31) r27, Ch.ro 0 (Sl aaCentres_0 aCentres_0 caCentres_0) aCentres_0, Ch.ro 0 (Sl aaList_1 aList_1 caList_1) aList_1] := H
      refine st (v := (I r93)) (rv_assign rfl) ?_
      refine w_end ?_
      refine q_then ?_
      refine c_seq ?_
      refine c_seq ?_
      obtain ⟨o97, hj, h'⟩ := bind_some h
      clear h
      refine c_cut (fun e a w => e = .normal ∧ ∃ (ρ : Nat → Value) (σ : St), a = fr 92 (updL ρ [(0, (Sl aaCentres_0 aCentres_0 caCentres_0)), (1, (Sl aaList_1 aList_1 caList_1)), (6, (Sl a30 r27 c31)), (9, (Sl a52 r49 c53)), (63, (B o97))]) ∧ w = σ.w ∧ Hp S0 σ0 σ [Ch.ro 0 (Sl aaCentres_0 aCentres_0 caCentres_0) aCentres_0, Ch.ro 0 (Sl aaList_1 aList_1 caList_1) aList_1, Ch.own n0 n0 (Sl a30 r27 c31) r27, Ch.big K54]) ?_ ?_
      ·clear h'
       rename _ = some o97 => h
       refine rg ?_
       refine st (v := (I r93)) (rv_move rfl) ?_
       refine st (v := (B (decide (r93 < 0)))) (rv_lss (a := r93) (b := 0) rfl rfl) ?_
       refine st (v := (B (decide (r93 < 0)))) (rv_move rfl) ?_
       rcases Bool.eq_false_or_eq_true (decide (r93 < 0)) with hb98 | hb98
       ·replace h := bif_t hb98 h
        refine st_skip (congrArg some hb98) ?_
        refine st_skip (congrArg some hb98) ?_
        refine st_skip (congrArg some hb98) ?_
        refine st_skip (congrArg some hb98) ?_
        refine st (v := (B true)) (rv_pick_t (congrArg B hb98) rfl) ?_
        refine w_end ?_
        obtain rfl := Option.some.inj h
        exact ⟨rfl, _, σ96, fr_join ⟨rfl, rfl, rfl, rfl, rfl, trivial⟩, rfl, H.sel' [4, 5, 3, 2] rfl rfl⟩
       ·replace h := bif_f hb98 h
        refine st_g (v := (Sl a52 r49 c53)) (congrArg some hb98) (rv_move rfl) ?_
        refine st_g (v := (Sl a30 r27 c31)) (congrArg some hb98) (rv_move rfl) ?_
        obtain ⟨r99, hx100, h'⟩ := bind_some h
        clear h
        have h := h'; clear h'
        have hc101 := c_laws_eqIntSS (aa_0 := a52) (ca_0 := c53) (ab_1 := a30) (cb_1 := c31) hx100
        have hle := Nat.le_trans hn0 H.size
        refine st_call (cx_lend (Loan.lendB hK55.lends (Loan.lend Loan.nil)) hc101 (ent_f hc101.fn rfl) (show Hp S0 σ0 _ ([Ch.big K54, Ch.own n0 n0 (Sl a30 r27 c31) r27] ++ ([] ++ [Ch.ro 0 (Sl a36 r88.2 c37) r88.2, Ch.big K80, Ch.ro 0 (Sl aaCentres_0 aCentres_0 caCentres_0) aCentres_0, Ch.ro 0 (Sl aaList_1 aList_1 caList_1) aList_1])) from (H.sel' [2, 3, 0, 1, 4, 5] rfl rfl)) (by rintro _ _ _ ⟨rfl, rfl⟩; exact trivial)) (wanted_yes rfl (by exact (congrArg some hb98))) ?_
        rintro _ σ102 ⟨_, ⟨rfl, rfl⟩, H, -, -⟩
        replace H : Hp S0 σ0 σ102 [Ch.big K54, Ch.own n0 n0 (Sl a30 r27 c31) r27, Ch.ro 0 (Sl a36 r88.2 c37) r88.2, Ch.big K80, Ch.ro 0 (Sl aaCentres_0 aCentres_0 caCentres_0) aCentres_0, Ch.ro 0 (Sl aaList_1 aList_1 caList_1) aList_1] := H
        clear hle
        replace H : Hp S0 σ0 σ102 [Ch.big K54, Ch.own n0 n0 (Sl a30 r27 c31) r27, Ch.ro 0 (Sl a36 r88.2 c37) r88.2, Ch.big K80, Ch.ro 0 (Sl aaCentres_0 aCentres_0 caCentres_0) aCentres_0, Ch.ro 0 (Sl aaList_1 aList_1 caList_1) aList_1] := H
        refine st_g (v := (B (!r99))) (congrArg some hb98) (rv_not rfl) ?_
        refine st (v := (B (!r99))) (rv_pick_f (congrArg B hb98) rfl) ?_
        refine w_end ?_
        obtain rfl := Option.some.inj h
        exact ⟨rfl, _, σ102, fr_join ⟨rfl, rfl, rfl, rfl, rfl, trivial⟩, rfl, H.sel' [4, 5, 1, 0] rfl rfl⟩
      ·clear hj
       have h := h'
       clear h' H
       rintro e a w ⟨rfl, ρ, σ103, rfl, rfl, H⟩
       refine q_then ?_
       refine cd_cond o97 rfl (fun hb104 => ?_) (fun hb104 => ?_)
       ·replace h := bif_t hb104 h
        refine c_seq ?_
        refine rg ?_
        refine st (v := (B false)) (rv_assign rfl) ?_
        refine w_end ?_
        refine q_then ?_
        refine c_ret ?_
        refine q_then_r ?_
        obtain rfl := Option.some.inj h
        exact fin_ret (v := (B false)) (results_ok Try.results9 (res_tmp (v := (B false)) rfl res_nil) rfl) ⟨rfl, rfl⟩ (H.sel' [] rfl rfl)
       ·replace h := bif_f hb104 h
        refine c_skip ?_
        refine q_then ?_
        refine c_seq ?_
        refine rg ?_
        refine st (v := (I 1)) (rv_assign rfl) ?_
        refine w_end ?_
        refine q_then ?_
        refine c_seq ?_
        refine rg ?_
        refine st (v := (Sl a52 r49 c53)) (rv_move rfl) ?_
        refine st (v := (I 1)) (rv_move rfl) ?_
        obtain ⟨r105, hx106, h'⟩ := bind_some h
        clear h
        have h := h'; clear h'
        have hc107 := c_laws_markIntSS (aa_0 := a52) (ca_0 := c53) (hK := hK55) hx106
        refine st_call (cx_call hc107 (ent_f hc107.fn rfl) hn0 (show Hp S0 σ0 _ ([Ch.big K54] ++ [Ch.ro 0 (Sl aaCentres_0 aCentres_0 caCentres_0) aCentres_0, Ch.ro 0 (Sl aaList_1 aList_1 caList_1) aList_1, Ch.own n0 n0 (Sl a30 r27 c31) r27]) from (H.sel' [3, 0, 1, 2] rfl rfl))) wn ?_
        rintro _ σ109 ⟨_, ⟨rfl, rfl, hn108⟩, H, -⟩
        replace H : Hp S0 σ0 σ109 [Ch.ro 0 (Sl a52 r105.2 c53) r105.2, Ch.ro 0 (Sl aaCentres_0 aCentres_0 caCentres_0) aCentres_0, Ch.ro 0 (Sl aaList_1 aList_1 caList_1) aList_1, Ch.own n0 n0 (Sl a30 r27 c31) r27] := H
        have hsl : (Sl a52 r49 c53) = (Sl a52 r105.2 c53) := sl_len hn108.symm
        try rw [hsl]
        try rw [hsl] at H
        clear hsl
        refine st (v := (I r105.1)) (rv_assign rfl) ?_
        refine w_end ?_
        refine q_then ?_
        refine c_seq ?_
        refine rg ?_
        refine st (v := (I 1)) (rv_assign rfl) ?_
        refine w_end ?_
        refine q_then ?_
        refine c_seq ?_
        refine rg ?_
        refine st (v := (Sl a52 r105.2 c53)) (rv_move rfl) ?_
        refine st (v := (I 1)) (rv_move rfl) ?_
        obtain ⟨r110, hx111, h'⟩ := bind_some h
        clear h
        have h := h'; clear h'
        have hc112 := c_laws_heldIntSS (aa_0 := a52) (ca_0 := c53) hx111
        refine st_call (cx_call hc112 (ent_f hc112.fn rfl) hn0 (show Hp S0 σ0 _ ([Ch.ro 0 (Sl a52 r105.2 c53) r105.2] ++ [Ch.ro 0 (Sl a52 r105.2 c53) r105.2, Ch.ro 0 (Sl aaCentres_0 aCentres_0 caCentres_0) aCentres_0, Ch.ro 0 (Sl aaList_1 aList_1 caList_1) aList_1, Ch.own n0 n0 (Sl a30 r27 c31) r27]) from (H.sel' [0, 0, 1, 2, 3] rfl rfl))) wn ?_
        rintro _ σ113 ⟨_, ⟨rfl, rfl⟩, H, -⟩
        replace H : Hp S0 σ0 σ113 [Ch.ro 0 (Sl a52 r105.2 c53) r105.2, Ch.ro 0 (Sl aaCentres_0 aCentres_0 caCentres_0) aCentres_0, Ch.ro 0 (Sl aaList_1 aList_1 caList_1) aList_1, Ch.own n0 n0 (Sl a30 r27 c31) r27] := H
        refine st (v := (I r110)) (rv_assign rfl) ?_
        refine w_end ?_
        refine q_then ?_
        refine c_seq ?_
        refine c_seq ?_
        refine rg ?_
        refine st (v := (I r110)) (rv_move rfl) ?_
        refine st (v := (B (decide (r110 < 0)))) (rv_lss (a := r110) (b := 0) rfl rfl) ?_
        refine w_end ?_
        refine q_then ?_
        refine cd_cond (decide (r110 < 0)) rfl (fun hb114 => ?_) (fun hb114 => ?_)
        ·replace h := bif_t hb114 h
         refine c_seq ?_
         refine rg ?_
         refine st (v := (B false)) (rv_assign rfl) ?_
         refine w_end ?_
         refine q_then ?_
         refine c_ret ?_
         refine q_then_r ?_
         obtain rfl := Option.some.inj h
         exact fin_ret (v := (B false)) (results_ok Try.results9 (res_tmp (v := (B false)) rfl res_nil) rfl) ⟨rfl, rfl⟩ (H.sel' [] rfl rfl)
        ·replace h := bif_f hb114 h
         refine c_skip ?_
         refine q_then ?_
         refine c_seq ?_
         refine c_seq ?_
         refine rg ?_
         refine st (v := (I r110)) (rv_move rfl) ?_
         refine st (v := (I r105.1)) (rv_move rfl) ?_
         refine st (v := (B (r110 != r105.1))) (rv_neq (a := r110) (b := r105.1) rfl rfl) ?_
         refine w_end ?_
         refine q_then ?_
         refine cd_cond (r110 != r105.1) rfl (fun hb115 => ?_) (fun hb115 => ?_)
         ·replace h := bif_t hb115 h
          refine c_seq ?_
          refine rg ?_
          refine st (v := (B false)) (rv_assign rfl) ?_
          refine w_end ?_
          refine q_then ?_
          refine c_ret ?_
          refine q_then_r ?_
          obtain rfl := Option.some.inj h
          exact fin_ret (v := (B false)) (results_ok Try.results9 (res_tmp (v := (B false)) rfl res_nil) rfl) ⟨rfl, rfl⟩ (H.sel' [] rfl rfl)
         ·replace h := bif_f hb115 h
          refine c_skip ?_
          refine q_then ?_
          refine c_seq ?_
          refine rg ?_
          refine st (v := (Sl aaCentres_0 aCentres_0 caCentres_0)) (rv_move rfl) ?_
          obtain ⟨r116, hx117, h'⟩ := bind_some h
          clear h
          have h := h'; clear h'
          have hc118 := c_laws_toIntSS (aa_0 := aaCentres_0) (ca_0 := caCentres_0) hx117
          refine st_call (cx_call hc118 (ent_f hc118.fn rfl) hn0 (show Hp S0 σ0 _ ([Ch.ro 0 (Sl aaCentres_0 aCentres_0 caCentres_0) aCentres_0] ++ [Ch.ro 0 (Sl a52 r105.2 c53) r105.2, Ch.ro 0 (Sl aaCentres_0 aCentres_0 caCentres_0) aCentres_0, Ch.ro 0 (Sl aaList_1 aList_1 caList_1) aList_1, Ch.own n0 n0 (Sl a30 r27 c31) r27]) from (H.sel' [1, 0, 1, 2, 3] rfl rfl))) wn ?_
          rintro _ σ123 ⟨_, ⟨a119, c120, K121, rfl, rfl, hK122⟩, H, -⟩
          replace H : Hp S0 σ0 σ123 [Ch.big K121, Ch.ro 0 (Sl a52 r105.2 c53) r105.2, Ch.ro 0 (Sl aaCentres_0 aCentres_0 caCentres_0) aCentres_0, Ch.ro 0 (Sl aaList_1 aList_1 caList_1) aList_1, Ch.own n0 n0 (Sl a30 r27 c31) r27] := H
          refine st (v := (Sl aaList_1 aList_1 caList_1)) (rv_move rfl) ?_
          obtain ⟨r124, hx125, h'⟩ := bind_some h
          clear h
          have h := h'; clear h'
          have hc126 := c_laws_toItemS (aa_0 := aaList_1) (ca_0 := caList_1) hx125
          refine st_call (cx_call hc126 (ent_f hc126.fn rfl) hn0 (show Hp S0 σ0 _ ([Ch.ro 0 (Sl aaList_1 aList_1 caList_1) aList_1] ++ [Ch.big K121, Ch.ro 0 (Sl a52 r105.2 c53) r105.2, Ch.ro 0 (Sl aaCentres_0 aCentres_0 caCentres_0) aCentres_0, Ch.ro 0 (Sl aaList_1 aList_1 caList_1) aList_1, Ch.own n0 n0 (Sl a30 r27 c31) r27]) from (H.sel' [3, 0, 1, 2, 3, 4] rfl rfl))) wn ?_
          rintro _ σ131 ⟨_, ⟨a127, c128, K129, rfl, rfl, hK130⟩, H, -⟩
          replace H : Hp S0 σ0 σ131 [Ch.big K129, Ch.big K121, Ch.ro 0 (Sl a52 r105.2 c53) r105.2, Ch.ro 0 (Sl aaCentres_0 aCentres_0 caCentres_0) aCentres_0, Ch.ro 0 (Sl aaList_1 aList_1 caList_1) aList_1, Ch.own n0 n0 (Sl a30 r27 c31) r27] := H
          obtain ⟨r132, hx133, h'⟩ := bind_some h
          clear h
          have h := h'; clear h'
          have hc134 := c_impl_MoveCentres (acentres_0 := a119) (ccentres_0 := c120) (alist_1 := a127) (clist_1 := c128) hx133
          have hle := Nat.le_trans hn0 H.size
          refine st_call (cx_lend (Loan.lendB hK122.lends (Loan.lendB hK130.lends Loan.nil)) hc134 (ent_f hc134.fn rfl) (show Hp S0 σ0 _ ([Ch.big K121, Ch.big K129] ++ ([] ++ [Ch.ro 0 (Sl a52 r105.2 c53) r105.2, Ch.ro 0 (Sl aaCentres_0 aCentres_0 caCentres_0) aCentres_0, Ch.ro 0 (Sl aaList_1 aList_1 caList_1) aList_1, Ch.own n0 n0 (Sl a30 r27 c31) r27])) from (H.sel' [1, 0, 2, 3, 4, 5] rfl rfl)) (by rintro _ _ _ ⟨_, _, _, rfl, rfl, hK138⟩; exact ⟨Dp.abSc hK138, trivial⟩)) wn ?_
          rintro _ σ139 ⟨_, ⟨a135, c136, K137, rfl, rfl, hK138⟩, H, -, -⟩
          replace H : Hp S0 σ0 σ139 [Ch.big K137, Ch.big K121, Ch.big K129, Ch.ro 0 (Sl a52 r105.2 c53) r105.2, Ch.ro 0 (Sl aaCentres_0 aCentres_0 caCentres_0) aCentres_0, Ch.ro 0 (Sl aaList_1 aList_1 caList_1) aList_1, Ch.own n0 n0 (Sl a30 r27 c31) r27] := H
          clear hle
          replace H : Hp S0 σ0 σ139 [Ch.big K137, Ch.big K121, Ch.big K129, Ch.ro 0 (Sl a52 r105.2 c53) r105.2, Ch.ro 0 (Sl aaCentres_0 aCentres_0 caCentres_0) aCentres_0, Ch.ro 0 (Sl aaList_1 aList_1 caList_1) aList_1, Ch.own n0 n0 (Sl a30 r27 c31) r27] := H
          refine st (v := (Sl a135 r132 c136)) (rv_assign rfl) ?_
          refine w_end ?_
          refine q_then ?_
          refine c_seq ?_
          refine c_seq ?_
          refine rg ?_
          refine st (v := (Sl a135 r132 c136)) (rv_move rfl) ?_
          refine st (v := (Sl a30 r27 c31)) (rv_move rfl) ?_
          obtain ⟨σ140, hw141, H, -⟩ := H.pub 6 rfl (Nat.le_refl _)
          rw [← hw141]; clear hw141
          replace H := H.roLow 0 0 rfl (Nat.zero_le _)
          obtain ⟨r142, hx143, h'⟩ := bind_some h
          clear h
          have h := h'; clear h'
          have hc144 := c_laws_eqIntSS (aa_0 := a135) (ca_0 := c136) (ab_1 := a30) (cb_1 := c31) hx143
          have hle := Nat.le_trans hn0 H.size
          refine st_call (cx_lend (Loan.lendB hK138.lends (Loan.same Loan.nil)) hc144 (ent_f hc144.fn rfl) (show Hp S0 σ0 _ ([Ch.big K137] ++ ([Ch.ro 0 (Sl a30 r27 c31) r27] ++ [Ch.ro 0 (Sl a30 r27 c31) r27, Ch.ro n0 (Sl a30 r27 c31) r27, Ch.big K121, Ch.big K129, Ch.ro 0 (Sl a52 r105.2 c53) r105.2, Ch.ro 0 (Sl aaCentres_0 aCentres_0 caCentres_0) aCentres_0, Ch.ro 0 (Sl aaList_1 aList_1 caList_1) aList_1])) from (H.sel' [2, 0, 0, 1, 3, 4, 5, 6, 7] rfl rfl)) (by rintro _ _ _ ⟨rfl, rfl⟩; exact trivial)) wn ?_
          rintro _ σ145 ⟨_, ⟨rfl, rfl⟩, H, -, -⟩
          replace H : Hp S0 σ0 σ145 [Ch.big K137, Ch.ro 0 (Sl a30 r27 c31) r27, Ch.ro n0 (Sl a30 r27 c31) r27, Ch.big K121, Ch.big K129, Ch.ro 0 (Sl a52 r105.2 c53) r105.2, Ch.ro 0 (Sl aaCentres_0 aCentres_0 caCentres_0) aCentres_0, Ch.ro 0 (Sl aaList_1 aList_1 caList_1) aList_1] := H
          clear hle
          replace H : Hp S0 σ0 σ145 [Ch.big K137, Ch.ro 0 (Sl a30 r27 c31) r27, Ch.ro n0 (Sl a30 r27 c31) r27, Ch.big K121, Ch.big K129, Ch.ro 0 (Sl a52 r105.2 c53) r105.2, Ch.ro 0 (Sl aaCentres_0 aCentres_0 caCentres_0) aCentres_0, Ch.ro 0 (Sl aaList_1 aList_1 caList_1) aList_1] := H
          replace H : Hp S0 σ0 σ145 [Ch.ro 0 (Sl a52 r105.2 c53) r105.2] := H.sel' [5] rfl rfl
          refine st (v := (B (!r142))) (rv_not rfl) ?_
          refine w_end ?_
          refine q_then ?_
          refine cd_cond (!r142) rfl (fun hb146 => ?_) (fun hb146 => ?_)
          ·replace h := bif_t hb146 h
           refine c_seq ?_
           refine rg ?_
           refine st (v := (B false)) (rv_assign rfl) ?_
           refine w_end ?_
           refine q_then ?_
           refine c_ret ?_
           refine q_then_r ?_
           obtain rfl := Option.some.inj h
           exact fin_ret (v := (B false)) (results_ok Try.results9 (res_tmp (v := (B false)) rfl res_nil) rfl) ⟨rfl, rfl⟩ (H.sel' [] rfl rfl)
          ·replace h := bif_f hb146 h
           refine c_skip ?_
           refine q_then ?_
           refine c_seq ?_
           refine rg ?_
           refine st (v := (I 1)) (rv_assign rfl) ?_
           refine w_end ?_
           refine q_then ?_
           refine c_seq ?_
           refine rg ?_
           refine st (v := (Sl a52 r105.2 c53)) (rv_move rfl) ?_
           refine st (v := (I 1)) (rv_move rfl) ?_
           obtain ⟨r147, hx148, h'⟩ := bind_some h
           clear h
           have h := h'; clear h'
           have hc149 := c_laws_heldIntSS (aa_0 := a52) (ca_0 := c53) hx148
           refine st_call (cx_call hc149 (ent_f hc149.fn rfl) hn0 (show Hp S0 σ0 _ ([Ch.ro 0 (Sl a52 r105.2 c53) r105.2] ++ [Ch.ro 0 (Sl a52 r105.2 c53) r105.2]) from (H.sel' [0, 0] rfl rfl))) wn ?_
           rintro _ σ150 ⟨_, ⟨rfl, rfl⟩, H, -⟩
           replace H : Hp S0 σ0 σ150 [Ch.ro 0 (Sl a52 r105.2 c53) r105.2] := H
           refine st (v := (I r147)) (rv_assign rfl) ?_
           refine w_end ?_
           refine q_then ?_
           refine c_seq ?_
           refine c_seq ?_
           refine rg ?_
           refine st (v := (I r147)) (rv_move rfl) ?_
           refine st (v := (B (decide (r147 < 0)))) (rv_lss (a := r147) (b := 0) rfl rfl) ?_
           refine w_end ?_
           refine q_then ?_
           refine cd_cond (decide (r147 < 0)) rfl (fun hb151 => ?_) (fun hb151 => ?_)
           ·replace h := bif_t hb151 h
            refine c_seq ?_
            refine rg ?_
            refine st (v := (B false)) (rv_assign rfl) ?_
            refine w_end ?_
            refine q_then ?_
            refine c_ret ?_
            refine q_then_r ?_
            obtain rfl := Option.some.inj h
            exact fin_ret (v := (B false)) (results_ok Try.results9 (res_tmp (v := (B false)) rfl res_nil) rfl) ⟨rfl, rfl⟩ (H.sel' [] rfl rfl)
           ·replace h := bif_f hb151 h
            refine c_skip ?_
            refine q_then ?_
            refine c_seq ?_
            refine c_seq ?_
            refine rg ?_
            refine st (v := (I r147)) (rv_move rfl) ?_
            refine st (v := (I r105.1)) (rv_move rfl) ?_
            refine st (v := (B (r147 != r105.1))) (rv_neq (a := r147) (b := r105.1) rfl rfl) ?_
            refine w_end ?_
            refine q_then ?_
            refine cd_cond (r147 != r105.1) rfl (fun hb152 => ?_) (fun hb152 => ?_)
            ·replace h := bif_t hb152 h
             refine c_seq ?_
             refine rg ?_
             refine st (v := (B false)) (rv_assign rfl) ?_
             refine w_end ?_
             refine q_then ?_
             refine c_ret ?_
             refine q_then_r ?_
             obtain rfl := Option.some.inj h
             exact fin_ret (v := (B false)) (results_ok Try.results9 (res_tmp (v := (B false)) rfl res_nil) rfl) ⟨rfl, rfl⟩ (H.sel' [] rfl rfl)
            ·replace h := bif_f hb152 h
             refine c_skip ?_
             refine q_then ?_
             refine c_seq ?_
             refine rg ?_
             refine st (v := (B true)) (rv_assign rfl) ?_
             refine w_end ?_
             refine q_then ?_
             refine c_ret ?_
             obtain rfl := Option.some.inj h
             exact fin_ret (v := (B true)) (results_ok Try.results9 (res_tmp (v := (B true)) rfl res_nil) rfl) ⟨rfl, rfl⟩ (H.sel' [] rfl rfl)

end Go.Vs
