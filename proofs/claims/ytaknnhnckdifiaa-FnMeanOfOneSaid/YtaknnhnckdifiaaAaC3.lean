/- The functions compute what their models say. -/
import Derived.Test.YtaknnhnckdifiaaAaC2
set_option linter.unusedVariables false
set_option linter.unusedSimpArgs false
set_option maxRecDepth 20000
namespace Go.Vs
open Go Go.Proofs
attribute [local irreducible] Code.wp wpList wpQuiet Calls

theorem c_impl_divideDown {σ0 : St} {n_0 : Int} {by_1 : Int}  {r : Int} (h : M.impl_divideDown n_0 by_1 = some r) :
    Cal Try.prog 51 [(I n_0), (I by_1)] none σ0 (fun v σ' => v = (I r)) := by
  refine ⟨⟨_, _, Try.func51, rfl, rfl⟩, ?_⟩
  refine enter (n := 16) Try.func51 rfl rfl rfl ?_
  unfold M.impl_divideDown at h
  have hK : Mod none σ0 σ0 := Mod.refl _ _
  refine c_seq ?_
  refine rg ?_
  refine st (v := (I 0)) (rv_assign rfl) ?_
  refine w_end ?_
  refine q_then ?_
  refine c_seq ?_
  refine rg ?_
  refine st (v := (I n_0)) (rv_move rfl) ?_
  refine st (v := (I by_1)) (rv_move rfl) ?_
  obtain ⟨q1, hx2, h'⟩ := bind_some h
  clear h
  have h := h'; clear h'
  refine st (v := (I q1)) (rv_quoG (a := n_0) (b := by_1) hx2 rfl rfl) ?_
  refine st (v := (I q1)) (rv_assign rfl) ?_
  refine w_end ?_
  refine q_then ?_
  refine c_seq ?_
  refine c_seq ?_
  refine rg ?_
  refine st (v := (I n_0)) (rv_move rfl) ?_
  refine st (v := (I by_1)) (rv_move rfl) ?_
  obtain ⟨q3, hx4, h'⟩ := bind_some h
  clear h
  have h := h'; clear h'
  refine st (v := (I q3)) (rv_remG (a := n_0) (b := by_1) hx4 rfl rfl) ?_
  refine st (v := (B (decide (q3 < 0)))) (rv_lss (a := q3) (b := 0) rfl rfl) ?_
  refine w_end ?_
  refine q_then ?_
  obtain ⟨o5, hj, h'⟩ := bind_some h
  clear h
  refine c_cut (fun e a w => e = .normal ∧ ∃ (ρ : Nat → Value) (σ : St), a = fr 16 (updL ρ [(5, (I o5))]) ∧ w = σ.w ∧ Mod none σ0 σ) ?_ ?_
  · clear h'
    rename _ = some o5 => h
    refine cd_cond (decide (q3 < 0)) rfl (fun hb6 => ?_) (fun hb6 => ?_)
    · replace h := bif_t hb6 h
      refine rg ?_
      refine st (v := (I q1)) (rv_move rfl) ?_
      refine st (v := (I (w64 (q1 - 1)))) (rv_sub (a := q1) (b := 1) rfl rfl) ?_
      refine st (v := (I (w64 (q1 - 1)))) (rv_assign rfl) ?_
      refine w_end ?_
      obtain rfl := Option.some.inj h
      exact ⟨rfl, _, σ0, fr_join ⟨rfl, trivial⟩, rfl, hK⟩
    · replace h := bif_f hb6 h
      refine c_skip ?_
      obtain rfl := Option.some.inj h
      exact ⟨rfl, _, σ0, fr_join ⟨rfl, trivial⟩, rfl, hK⟩
  · clear hj
    have h := h'
    clear h'
    rintro e a w ⟨rfl, ρ, σ7, rfl, rfl, hK⟩
    refine q_then ?_
    refine c_seq ?_
    refine rg ?_
    refine st (v := (I o5)) (rv_move rfl) ?_
    refine st (v := (I o5)) (rv_assign rfl) ?_
    refine w_end ?_
    refine q_then ?_
    refine c_ret ?_
    obtain rfl := Option.some.inj h
    exact bodyPost_ret (v := (I o5)) (results_fr1 Try.results51 rfl _) rfl ⟨_, σ7, rfl, rfl, hK, rfl⟩

theorem c_impl_MeanOf {σ0 : St} {list_0 : List (List Int)} {alist_0 : Option Addr} {clist_0 : Nat} (hRlist_0 : RS 0 σ0 (Sl alist_0 list_0 clist_0) list_0) {r : (List Int)} (h : M.impl_MeanOf list_0 = some r) :
    Cal Try.prog 26 [(Sl alist_0 list_0 clist_0)] none σ0 (fun v σ' => ∃ (a0 : Option Addr) (c0 : Nat), v = (Sl a0 r c0) ∧ Ow σ' σ0.size σ0.size (Sl a0 r c0) r) := by
  refine ⟨⟨_, _, Try.func26, rfl, rfl⟩, ?_⟩
  refine enter (n := 55) Try.func26 rfl rfl rfl ?_
  unfold M.impl_MeanOf at h
  have hK : Mod none σ0 σ0 := Mod.refl _ _
  refine c_seq ?_
  refine rg ?_
  refine st (v := (.slice none 0 0)) (rv_assign rfl) ?_
  refine w_end ?_
  refine q_then ?_
  refine c_seq ?_
  refine c_seq ?_
  obtain ⟨o1, hj, h'⟩ := bind_some h
  clear h
  refine c_cut (fun e a w => e = .normal ∧ ∃ (ρ : Nat → Value) (σ : St), a = fr 55 (updL ρ [(0, (Sl alist_0 list_0 clist_0)), (17, (B o1))]) ∧ w = σ.w ∧ Mod none σ0 σ ∧ RS 0 σ (Sl alist_0 list_0 clist_0) list_0) ?_ ?_
  · clear h'
    rename _ = some o1 => h
    refine rg ?_
    refine st (v := (Sl alist_0 list_0 clist_0)) (rv_move rfl) ?_
    refine st (v := (I (list_0.length : Int))) (rv_len Try.underlying35 rfl) ?_
    refine st (v := (B (decide ((list_0.length : Int) < 1)))) (rv_lss (a := (list_0.length : Int)) (b := 1) rfl rfl) ?_
    refine st (v := (B (decide ((list_0.length : Int) < 1)))) (rv_move rfl) ?_
    rcases Bool.eq_false_or_eq_true (decide ((list_0.length : Int) < 1)) with hb2 | hb2
    · replace h := bif_t hb2 h
      refine st_skip (congrArg some hb2) ?_
      refine st_skip (congrArg some hb2) ?_
      refine st_skip (congrArg some hb2) ?_
      refine st (v := (B true)) (rv_pick_t (congrArg B hb2) rfl) ?_
      refine w_end ?_
      obtain rfl := Option.some.inj h
      exact ⟨rfl, _, σ0, fr_join ⟨rfl, rfl, trivial⟩, rfl, hK, hRlist_0⟩
    · replace h := bif_f hb2 h
      refine st_g (v := (Sl alist_0 list_0 clist_0)) (congrArg some hb2) (rv_move rfl) ?_
      refine st_g (v := (I (list_0.length : Int))) (congrArg some hb2) (rv_len Try.underlying35 rfl) ?_
      refine st_g (v := (B (decide (16 < (list_0.length : Int))))) (congrArg some hb2) (rv_gtr (a := (list_0.length : Int)) (b := 16) rfl rfl) ?_
      refine st (v := (B (decide (16 < (list_0.length : Int))))) (rv_pick_f (congrArg B hb2) rfl) ?_
      refine w_end ?_
      obtain rfl := Option.some.inj h
      exact ⟨rfl, _, σ0, fr_join ⟨rfl, rfl, trivial⟩, rfl, hK, hRlist_0⟩
  · clear hj
    have h := h'
    clear h'
    rintro e a w ⟨rfl, ρ, σ3, rfl, rfl, hK, hR4⟩
    refine q_then ?_
    refine cd_cond o1 rfl (fun hb5 => ?_) (fun hb5 => ?_)
    · replace h := bif_t hb5 h
      refine c_seq ?_
      refine rg ?_
      refine st (v := (.slice none 0 0)) (rv_assign rfl) ?_
      refine w_end ?_
      refine q_then ?_
      refine c_ret ?_
      refine q_then_r ?_
      obtain rfl := Option.some.inj h
      exact bodyPost_ret (v := (.slice none 0 0)) (results_fr1 Try.results26 rfl _) rfl ⟨_, σ3, rfl, rfl, hK, none, 0, rfl, Ow.nil⟩
    · replace h := bif_f hb5 h
      refine c_skip ?_
      refine q_then ?_
      refine c_seq ?_
      refine rg ?_
      refine st_alloc (cs := (List.map I (List.replicate 4 0))) ti60 rfl ?_ (wanted_none _ rfl _)
      intro b7 σ9 hbn11 m10 hB6
      have hge8 := Nat.le_trans hK.size (Nat.le_of_eq hbn11)
      replace hR4 := hR4.mod m10
      replace hK := hK.none m10
      clear hbn11 m10
      refine w_end ?_
      refine q_then ?_
      refine c_seq ?_
      refine c_seq ?_
      refine rg ?_
      refine st (v := (Sl alist_0 list_0 clist_0)) (rv_move rfl) ?_
      refine st (v := (I (list_0.length : Int))) (rv_len Try.underlying35 rfl) ?_
      refine st (v := (I 0)) (rv_move rfl) ?_
      refine w_end ?_
      refine q_then ?_
      obtain ⟨o12, hj, h'⟩ := bind_some h
      clear h
      refine c_cut (fun e a w => (∃ t, o12 = (.inl t) ∧ e = .normal ∧ ∃ (ρ : Nat → Value) (σ : St), a = fr 55 (updL ρ [(0, (Sl alist_0 list_0 clist_0)), (3, (pt b7 0))]) ∧ w = σ.w ∧ Mod none σ0 σ ∧ RS 0 σ (Sl alist_0 list_0 clist_0) list_0 ∧ t.length = 4 ∧ Bx σ b7 (List.map I t)) ∨ (∃ t, o12 = (.inr t) ∧ e = .ret ∧ ∃ (ρ : Nat → Value) (σ : St) (aj1 : Option Addr) (cj2 : Nat), a = fr 55 (updL ρ [(2, (Sl aj1 t cj2))]) ∧ w = σ.w ∧ Mod none σ0 σ ∧ Ow σ σ0.size σ0.size (Sl aj1 t cj2) t)) ?_ ?_
      · clear h'
        rename _ = some o12 => h
        refine c_blk ?_
        refine wp_loopM _ h (fun s13 a w => ∃ (ρ : Nat → Value) (σ : St), a = fr 55 (updL ρ [(0, (Sl alist_0 list_0 clist_0)), (3, (pt b7 0)), (18, (Sl alist_0 list_0 clist_0)), (19, (I (list_0.length : Int))), (20, (I s13.2))]) ∧ w = σ.w ∧ Mod none σ0 σ ∧ RS 0 σ (Sl alist_0 list_0 clist_0) list_0 ∧ s13.1.length = 4 ∧ Bx σ b7 (List.map I s13.1)) ⟨_, σ9, fr_join ⟨rfl, rfl, rfl, rfl, rfl, trivial⟩, rfl, hK, hR4, rfl, hB6⟩ ?_
        clear h
        rintro s13 a w o ⟨ρ, σ15, rfl, rfl, hK, hR16, hl17, hB18⟩ h hres
        refine c_seq ?_
        refine rg ?_
        refine st (v := (B (decide (s13.2 < (list_0.length : Int))))) (rv_lss (a := s13.2) (b := (list_0.length : Int)) rfl rfl) ?_
        refine w_end ?_
        refine q_then ?_
        refine c_seq ?_
        refine cd_cond (decide (s13.2 < (list_0.length : Int))) rfl (fun hb19 => ?_) (fun hb19 => ?_)
        · replace h := bif_t hb19 h
          refine c_skip ?_
          refine q_then ?_
          refine c_seq ?_
          refine c_blk ?_
          refine c_seq ?_
          refine rg ?_
          obtain ⟨x20, hx21, h'⟩ := bind_some h
          clear h
          have h := h'; clear h'
          obtain ⟨b23, o24, hi22, -⟩ := hR16.ix hx21
          refine st (v := (pt b23 o24)) (rv_ix Try.underlying35 ti23 rfl rfl hi22) ?_
          obtain ⟨v28, hc29, hR27⟩ := (hR16.at hx21 hi22).slice
          obtain ⟨a25, c26, rfl⟩ := hR27.isSl
          refine st (v := (Sl a25 x20 c26)) (rv_load1 Try.underlying23 rfl rfl hc29) ?_
          refine st (v := (Sl a25 x20 c26)) (rv_assign rfl) ?_
          refine w_end ?_
          refine q_then ?_
          refine c_seq ?_
          refine c_seq ?_
          refine rg ?_
          refine st (v := (Sl a25 x20 c26)) (rv_move rfl) ?_
          obtain ⟨r30, hx31, h'⟩ := bind_some h
          clear h
          have h := h'; clear h'
          refine st_call (c_impl_ValidVector hR27 hx31) rfl ?_
          have hd34 := hB18.ltb
          have hKs := hK.size
          rintro _ σ32 m33 rfl
          replace hR16 := hR16.mod m33
          replace hR27 := hR27.mod m33
          replace hB18 := hB18.mod0 m33
          replace hK := hK.none m33
          clear hKs m33
          refine st (v := (B (!r30))) (rv_not rfl) ?_
          refine w_end ?_
          refine q_then ?_
          refine cd_cond (!r30) rfl (fun hb35 => ?_) (fun hb35 => ?_)
          · replace h := bif_t hb35 h
            refine c_seq ?_
            refine rg ?_
            refine st (v := (.slice none 0 0)) (rv_assign rfl) ?_
            refine w_end ?_
            refine q_then ?_
            refine c_ret ?_
            refine q_then_r ?_
            refine q_blk_r ?_
            refine q_then_r ?_
            refine q_then_r ?_
            refine q_blk_r ?_
            obtain rfl := Option.some.inj h
            obtain rfl := hres _ rfl
            exact .inr (⟨_, rfl, rfl, _, σ32, none, 0, fr_join ⟨rfl, trivial⟩, rfl, hK, Ow.nil⟩)
          · replace h := bif_f hb35 h
            refine c_skip ?_
            refine q_then ?_
            refine c_seq ?_
            refine rg ?_
            refine st (v := (Sl a25 x20 c26)) (rv_move rfl) ?_
            refine st (v := (I (x20.length : Int))) (rv_len Try.underlying23 rfl) ?_
            refine st (v := (I 0)) (rv_move rfl) ?_
            refine w_end ?_
            refine q_then ?_
            obtain ⟨o36, hj, h'⟩ := bind_some h
            clear h
            refine c_cut (fun e a w => e = .normal ∧ ∃ (ρ : Nat → Value) (σ : St), a = fr 55 (updL ρ [(0, (Sl alist_0 list_0 clist_0)), (3, (pt b7 0)), (18, (Sl alist_0 list_0 clist_0)), (19, (I (list_0.length : Int))), (20, (I s13.2))]) ∧ w = σ.w ∧ Mod none σ0 σ ∧ RS 0 σ (Sl alist_0 list_0 clist_0) list_0 ∧ o36.length = 4 ∧ Bx σ b7 (List.map I o36)) ?_ ?_
            · clear h'
              rename _ = some o36 => h
              refine c_blk ?_
              refine wp_loopM _ h (fun s37 a w => ∃ (ρ : Nat → Value) (σ : St), a = fr 55 (updL ρ [(0, (Sl alist_0 list_0 clist_0)), (3, (pt b7 0)), (18, (Sl alist_0 list_0 clist_0)), (19, (I (list_0.length : Int))), (20, (I s13.2)), (27, (Sl a25 x20 c26)), (28, (I (x20.length : Int))), (29, (I s37.2))]) ∧ w = σ.w ∧ Mod none σ0 σ ∧ RS 0 σ (Sl alist_0 list_0 clist_0) list_0 ∧ s37.1.length = 4 ∧ Bx σ b7 (List.map I s37.1) ∧ RS 0 σ (Sl a25 x20 c26) x20) ⟨_, σ32, fr_join ⟨rfl, rfl, rfl, rfl, rfl, rfl, rfl, rfl, trivial⟩, rfl, hK, hR16, hl17, hB18, hR27⟩ ?_
              clear h
              rintro s37 a w o ⟨ρ, σ39, rfl, rfl, hK, hR40, hl41, hB42, hR43⟩ h hres
              refine c_seq ?_
              refine rg ?_
              refine st (v := (B (decide (s37.2 < (x20.length : Int))))) (rv_lss (a := s37.2) (b := (x20.length : Int)) rfl rfl) ?_
              refine w_end ?_
              refine q_then ?_
              refine c_seq ?_
              refine cd_cond (decide (s37.2 < (x20.length : Int))) rfl (fun hb44 => ?_) (fun hb44 => ?_)
              · replace h := bif_t hb44 h
                refine c_skip ?_
                refine q_then ?_
                refine c_seq ?_
                refine c_blk ?_
                refine c_seq ?_
                refine rg ?_
                refine st (v := (I s37.2)) (rv_move rfl) ?_
                obtain ⟨x45, hx46, h'⟩ := bind_some h
                clear h
                have h := h'; clear h'
                obtain ⟨b48, o49, hi47, -⟩ := hR43.ix hx46
                refine st (v := (pt b48 o49)) (rv_ix Try.underlying23 ti3 rfl rfl hi47) ?_
                refine st (v := (I x45)) (rv_load1 Try.underlying3 rfl rfl (hR43.at hx46 hi47).int) ?_
                refine st (v := (I s37.2)) (rv_assign rfl) ?_
                refine st (v := (I x45)) (rv_assign rfl) ?_
                refine w_end ?_
                refine q_then ?_
                refine rg ?_
                refine st (v := (I s37.2)) (rv_move rfl) ?_
                obtain ⟨x50, hx51, h'⟩ := bind_some h
                clear h
                have h := h'; clear h'
                have hl52 := gidx_lt hx51 hl41
                refine st (v := (pt b7 (0 + s37.2.toNat * 1))) (rv_indexAddr_array Try.underlying60 ti3 rfl rfl hl52.1 hl52.2) ?_
                refine st (v := (I x50)) (rv_load1 Try.underlying3 rfl rfl (hB42.arr hx51)) ?_
                refine st (v := (I x45)) (rv_move rfl) ?_
                refine st (v := (I (w64 (x50 + x45)))) (rv_add (a := x50) (b := x45) rfl rfl) ?_
                obtain ⟨x53, hx54, h'⟩ := bind_some h
                clear h
                have h := h'; clear h'
                have hl55 := gidx_lt hx54 hl41
                refine st (v := (pt b7 (0 + s37.2.toNat * 1))) (rv_indexAddr_array Try.underlying60 ti3 rfl rfl hl55.1 hl55.2) ?_
                have hl60 := gidx_lt hx54 hl41
                refine st_store_box (vs := [(I (w64 (x50 + x45)))]) ti3 hB42 rfl rfl rfl rfl (by rw [List.length_map, hl41]; simp; omega) (by simp [plain]) ?_
                intro σ56 m57 hB59 hs58; clear hs58
                replace hR40 := hR40.mod m57
                replace hR43 := hR43.mod m57
                replace hK := hK.some m57 hge8
                replace hB59 := Bx.cast (cs' := (List.map I (s37.1.set s37.2.toNat (w64 (x50 + x45))))) hB59 (arr_set _ _ _)
                clear hB42
                refine w_end ?_
                refine q_blk ?_
                refine q_then ?_
                refine rg ?_
                refine st (v := (I (w64 (s37.2 + 1)))) (rv_add (a := s37.2) (b := 1) rfl rfl) ?_
                refine st (v := (I (w64 (s37.2 + 1)))) (rv_move rfl) ?_
                refine w_end ?_
                refine q_then ?_
                obtain rfl := Option.some.inj h
                exact ⟨_, rfl, _, σ56, fr_join ⟨rfl, rfl, rfl, rfl, rfl, rfl, rfl, rfl, trivial⟩, rfl, hK, hR40, (set_len hl41), hB59, hR43⟩
              · replace h := bif_f hb44 h
                refine c_exit ?_
                refine q_then_x ?_
                refine q_then_x ?_
                refine q_blk_hit ?_
                obtain rfl := Option.some.inj h
                obtain rfl := hres _ rfl
                exact ⟨rfl, _, σ39, fr_join ⟨rfl, rfl, rfl, rfl, rfl, trivial⟩, rfl, hK, hR40, hl41, hB42⟩
            · clear hj
              have h := h'
              clear h'
              rintro e a w ⟨rfl, ρ, σ61, rfl, rfl, hK, hR62, hl63, hB64⟩
              refine q_blk ?_
              refine q_then ?_
              refine rg ?_
              refine st (v := (I (w64 (s13.2 + 1)))) (rv_add (a := s13.2) (b := 1) rfl rfl) ?_
              refine st (v := (I (w64 (s13.2 + 1)))) (rv_move rfl) ?_
              refine w_end ?_
              refine q_then ?_
              obtain rfl := Option.some.inj h
              exact ⟨_, rfl, _, σ61, fr_join ⟨rfl, rfl, rfl, rfl, rfl, trivial⟩, rfl, hK, hR62, hl63, hB64⟩
        · replace h := bif_f hb19 h
          refine c_exit ?_
          refine q_then_x ?_
          refine q_then_x ?_
          refine q_blk_hit ?_
          obtain rfl := Option.some.inj h
          obtain rfl := hres _ rfl
          exact .inl ⟨_, rfl, rfl, _, σ15, fr_join ⟨rfl, rfl, trivial⟩, rfl, hK, hR16, hl17, hB18⟩
      · clear hj
        have h := h'
        clear h'
        rintro e a w (⟨t65, rfl, rfl, ρ, σ66, rfl, rfl, hK, hR67, hl68, hB69⟩ | ⟨t97, rfl, rfl, ρ, σ98, a99, c100, rfl, rfl, hK, hO101⟩)
        · replace h := selim_l h
          refine q_then ?_
          refine c_seq ?_
          refine c_seq ?_
          refine rg ?_
          refine st (v := (.agg (List.map I t65).toArray)) (rv_load (cs := (List.map I t65)) Try.underlying60 rfl ti60 rfl (by rw [List.length_map]; exact hl68) hB69.all) ?_
          refine st (v := (I 0)) (rv_move rfl) ?_
          refine w_end ?_
          refine q_then ?_
          obtain ⟨o70, hj, h'⟩ := bind_some h
          clear h
          refine c_cut (fun e a w => e = .normal ∧ ∃ (ρ : Nat → Value) (σ : St), a = fr 55 (updL ρ [(3, (pt b7 0))]) ∧ w = σ.w ∧ Mod none σ0 σ ∧ o70.length = 4 ∧ Bx σ b7 (List.map I o70)) ?_ ?_
          · clear h'
            rename _ = some o70 => h
            refine c_blk ?_
            refine wp_loopM _ h (fun s71 a w => ∃ (ρ : Nat → Value) (σ : St), a = fr 55 (updL ρ [(0, (Sl alist_0 list_0 clist_0)), (3, (pt b7 0)), (42, (.agg (List.map I t65).toArray)), (43, (I s71.2))]) ∧ w = σ.w ∧ Mod none σ0 σ ∧ RS 0 σ (Sl alist_0 list_0 clist_0) list_0 ∧ s71.1.length = 4 ∧ Bx σ b7 (List.map I s71.1)) ⟨_, σ66, fr_join ⟨rfl, rfl, rfl, rfl, trivial⟩, rfl, hK, hR67, hl68, hB69⟩ ?_
            clear h
            rintro s71 a w o ⟨ρ, σ73, rfl, rfl, hK, hR74, hl75, hB76⟩ h hres
            refine c_seq ?_
            refine rg ?_
            refine st (v := (B (decide (s71.2 < 4)))) (rv_lss (a := s71.2) (b := 4) rfl rfl) ?_
            refine w_end ?_
            refine q_then ?_
            refine c_seq ?_
            refine cd_cond (decide (s71.2 < 4)) rfl (fun hb77 => ?_) (fun hb77 => ?_)
            · replace h := bif_t hb77 h
              refine c_skip ?_
              refine q_then ?_
              refine c_seq ?_
              refine c_blk ?_
              refine c_seq ?_
              refine rg ?_
              refine st (v := (I s71.2)) (rv_move rfl) ?_
              obtain ⟨x78, hx79, h'⟩ := bind_some h
              clear h
              have h := h'; clear h'
              refine st (v := (I x78)) (rv_idx Try.underlying60 ti3 Try.underlying3 rfl rfl hx79 hl68) ?_
              refine st (v := (I s71.2)) (rv_assign rfl) ?_
              refine st (v := (I x78)) (rv_assign rfl) ?_
              refine w_end ?_
              refine q_then ?_
              refine rg ?_
              refine st (v := (I s71.2)) (rv_move rfl) ?_
              refine st (v := (I x78)) (rv_move rfl) ?_
              refine st (v := (Sl alist_0 list_0 clist_0)) (rv_move rfl) ?_
              refine st (v := (I (list_0.length : Int))) (rv_len Try.underlying35 rfl) ?_
              obtain ⟨r80, hx81, h'⟩ := bind_some h
              clear h
              have h := h'; clear h'
              refine st_call (c_impl_divideDown  hx81) rfl ?_
              have hd84 := hB76.ltb
              have hKs := hK.size
              rintro _ σ82 m83 rfl
              replace hR74 := hR74.mod m83
              replace hB76 := hB76.mod0 m83
              replace hK := hK.none m83
              clear hKs m83
              obtain ⟨x85, hx86, h'⟩ := bind_some h
              clear h
              have h := h'; clear h'
              have hl87 := gidx_lt hx86 hl75
              refine st (v := (pt b7 (0 + s71.2.toNat * 1))) (rv_indexAddr_array Try.underlying60 ti3 rfl rfl hl87.1 hl87.2) ?_
              have hl92 := gidx_lt hx86 hl75
              refine st_store_box (vs := [(I r80)]) ti3 hB76 rfl rfl rfl rfl (by rw [List.length_map, hl75]; simp; omega) (by simp [plain]) ?_
              intro σ88 m89 hB91 hs90; clear hs90
              replace hR74 := hR74.mod m89
              replace hK := hK.some m89 hge8
              replace hB91 := Bx.cast (cs' := (List.map I (s71.1.set s71.2.toNat r80))) hB91 (arr_set _ _ _)
              clear hB76
              refine w_end ?_
              refine q_blk ?_
              refine q_then ?_
              refine rg ?_
              refine st (v := (I (w64 (s71.2 + 1)))) (rv_add (a := s71.2) (b := 1) rfl rfl) ?_
              refine st (v := (I (w64 (s71.2 + 1)))) (rv_move rfl) ?_
              refine w_end ?_
              refine q_then ?_
              obtain rfl := Option.some.inj h
              exact ⟨_, rfl, _, σ88, fr_join ⟨rfl, rfl, rfl, rfl, trivial⟩, rfl, hK, hR74, (set_len hl75), hB91⟩
            · replace h := bif_f hb77 h
              refine c_exit ?_
              refine q_then_x ?_
              refine q_then_x ?_
              refine q_blk_hit ?_
              obtain rfl := Option.some.inj h
              obtain rfl := hres _ rfl
              exact ⟨rfl, _, σ73, fr_join ⟨rfl, trivial⟩, rfl, hK, hl75, hB76⟩
          · clear hj
            have h := h'
            clear h'
            rintro e a w ⟨rfl, ρ, σ93, rfl, rfl, hK, hl94, hB95⟩
            refine q_then ?_
            refine c_seq ?_
            refine rg ?_
            have hO96 := bx_arr (el := σ0.size) hB95 hge8 hl94
            refine st (v := (Sl (some ⟨b7, 0, none⟩) o70 4)) (rv_slice_arrL Try.underlying60 ti3 (by decide) rfl hl94) ?_
            refine st (v := (Sl (some ⟨b7, 0, none⟩) o70 4)) (rv_assign rfl) ?_
            refine w_end ?_
            refine q_then ?_
            refine c_ret ?_
            obtain rfl := Option.some.inj h
            exact bodyPost_ret (v := (Sl (some ⟨b7, 0, none⟩) o70 4)) (results_fr1 Try.results26 rfl _) rfl ⟨_, σ93, rfl, rfl, hK, (some ⟨b7, 0, none⟩), 4, rfl, hO96⟩
        · replace h := selim_r h
          refine q_then_r ?_
          obtain rfl := Option.some.inj h
          exact bodyPost_ret (v := (Sl a99 t97 c100)) (results_fr1 Try.results26 rfl _) rfl ⟨_, σ98, rfl, rfl, hK, a99, c100, rfl, hO101⟩

theorem c_spec_floorDiv {σ0 : St} {a_0 : Int} {b_1 : Int}  {r : Int} (h : M.spec_floorDiv a_0 b_1 = some r) :
    Cal Try.prog 54 [(I a_0), (I b_1)] none σ0 (fun v σ' => v = (I r)) := by
  refine ⟨⟨_, _, Try.func54, rfl, rfl⟩, ?_⟩
  refine enter (n := 16) Try.func54 rfl rfl rfl ?_
  unfold M.spec_floorDiv at h
  have hK : Mod none σ0 σ0 := Mod.refl _ _
  refine c_seq ?_
  refine rg ?_
  refine st (v := (I 0)) (rv_assign rfl) ?_
  refine w_end ?_
  refine q_then ?_
  refine c_seq ?_
  refine rg ?_
  refine st (v := (I a_0)) (rv_move rfl) ?_
  refine st (v := (I b_1)) (rv_move rfl) ?_
  obtain ⟨q1, hx2, h'⟩ := bind_some h
  clear h
  have h := h'; clear h'
  refine st (v := (I q1)) (rv_quoG (a := a_0) (b := b_1) hx2 rfl rfl) ?_
  refine st (v := (I q1)) (rv_assign rfl) ?_
  refine w_end ?_
  refine q_then ?_
  refine c_seq ?_
  refine c_seq ?_
  refine rg ?_
  refine st (v := (I a_0)) (rv_move rfl) ?_
  refine st (v := (I b_1)) (rv_move rfl) ?_
  obtain ⟨q3, hx4, h'⟩ := bind_some h
  clear h
  have h := h'; clear h'
  refine st (v := (I q3)) (rv_remG (a := a_0) (b := b_1) hx4 rfl rfl) ?_
  refine st (v := (B (decide (q3 < 0)))) (rv_lss (a := q3) (b := 0) rfl rfl) ?_
  refine w_end ?_
  refine q_then ?_
  obtain ⟨o5, hj, h'⟩ := bind_some h
  clear h
  refine c_cut (fun e a w => e = .normal ∧ ∃ (ρ : Nat → Value) (σ : St), a = fr 16 (updL ρ [(5, (I o5))]) ∧ w = σ.w ∧ Mod none σ0 σ) ?_ ?_
  · clear h'
    rename _ = some o5 => h
    refine cd_cond (decide (q3 < 0)) rfl (fun hb6 => ?_) (fun hb6 => ?_)
    · replace h := bif_t hb6 h
      refine rg ?_
      refine st (v := (I q1)) (rv_move rfl) ?_
      refine st (v := (I (w64 (q1 - 1)))) (rv_sub (a := q1) (b := 1) rfl rfl) ?_
      refine st (v := (I (w64 (q1 - 1)))) (rv_assign rfl) ?_
      refine w_end ?_
      obtain rfl := Option.some.inj h
      exact ⟨rfl, _, σ0, fr_join ⟨rfl, trivial⟩, rfl, hK⟩
    · replace h := bif_f hb6 h
      refine c_skip ?_
      obtain rfl := Option.some.inj h
      exact ⟨rfl, _, σ0, fr_join ⟨rfl, trivial⟩, rfl, hK⟩
  · clear hj
    have h := h'
    clear h'
    rintro e a w ⟨rfl, ρ, σ7, rfl, rfl, hK⟩
    refine q_then ?_
    refine c_seq ?_
    refine rg ?_
    refine st (v := (I o5)) (rv_move rfl) ?_
    refine st (v := (I o5)) (rv_assign rfl) ?_
    refine w_end ?_
    refine q_then ?_
    refine c_ret ?_
    obtain rfl := Option.some.inj h
    exact bodyPost_ret (v := (I o5)) (results_fr1 Try.results54 rfl _) rfl ⟨_, σ7, rfl, rfl, hK, rfl⟩

theorem c_spec_mean {σ0 : St} {list_0 : List (List Int)} {alist_0 : Option Addr} {clist_0 : Nat} (hRlist_0 : RS 0 σ0 (Sl alist_0 list_0 clist_0) list_0) {r : (List Int)} (h : M.spec_mean list_0 = some r) :
    Cal Try.prog 53 [(Sl alist_0 list_0 clist_0)] none σ0 (fun v σ' => ∃ (a0 : Option Addr) (c0 : Nat), v = (Sl a0 r c0) ∧ Ow σ' σ0.size σ0.size (Sl a0 r c0) r) := by
  refine ⟨⟨_, _, Try.func53, rfl, rfl⟩, ?_⟩
  refine enter (n := 35) Try.func53 rfl rfl rfl ?_
  unfold M.spec_mean at h
  have hK : Mod none σ0 σ0 := Mod.refl _ _
  refine c_seq ?_
  refine rg ?_
  refine st (v := (.slice none 0 0)) (rv_assign rfl) ?_
  refine w_end ?_
  refine q_then ?_
  refine c_seq ?_
  refine rg ?_
  refine st_buildSlice (lo := σ0.size) (el := σ0.size) (xs := ([] : List Int)) (ps := []) (cs := []) Try.underlying23 ti3 rfl rfl (by kernel_rfl) (.nil) rfl ?_ hK.size (wanted_none _ rfl _)
  intro b2 σ3 hbn5 m4 hO1
  replace hRlist_0 := hRlist_0.mod m4
  replace hK := hK.none m4
  clear hbn5 m4
  refine st (v := (Sl (some ⟨b2, 0, none⟩) ([] : List Int) 0)) (rv_assign rfl) ?_
  refine w_end ?_
  refine q_then ?_
  refine c_seq ?_
  refine c_seq ?_
  refine rg ?_
  refine st (v := (I 0)) (rv_assign rfl) ?_
  refine w_end ?_
  refine q_then ?_
  obtain ⟨o6, hj, h'⟩ := bind_some h
  clear h
  refine c_cut (fun e a w => e = .normal ∧ ∃ (ρ : Nat → Value) (σ : St) (aj1 : Option Addr) (cj2 : Nat), a = fr 35 (updL ρ [(3, (Sl aj1 o6 cj2))]) ∧ w = σ.w ∧ Mod none σ0 σ ∧ Ow σ σ0.size σ0.size (Sl aj1 o6 cj2) o6) ?_ ?_
  · clear h'
    rename _ = some o6 => h
    refine c_blk ?_
    refine wp_loopM _ h (fun s7 a w => ∃ (ρ : Nat → Value) (σ : St) (aj2 : Option Addr) (cj3 : Nat), a = fr 35 (updL ρ [(0, (Sl alist_0 list_0 clist_0)), (3, (Sl aj2 s7.1 cj3)), (4, (I s7.2))]) ∧ w = σ.w ∧ Mod none σ0 σ ∧ RS 0 σ (Sl alist_0 list_0 clist_0) list_0 ∧ Ow σ σ0.size σ0.size (Sl aj2 s7.1 cj3) s7.1) ⟨_, σ3, (some ⟨b2, 0, none⟩), 0, fr_join ⟨rfl, rfl, rfl, trivial⟩, rfl, hK, hRlist_0, hO1⟩ ?_
    clear h
    rintro s7 a w o ⟨ρ, σ9, a11, c12, rfl, rfl, hK, hR10, hO13⟩ h hres
    refine c_seq ?_
    refine c_seq ?_
    refine rg ?_
    refine st (v := (I s7.2)) (rv_move rfl) ?_
    refine st (v := (B (decide (s7.2 < 4)))) (rv_lss (a := s7.2) (b := 4) rfl rfl) ?_
    refine w_end ?_
    refine q_then ?_
    refine cd_cond (decide (s7.2 < 4)) rfl (fun hb14 => ?_) (fun hb14 => ?_)
    · replace h := bif_t hb14 h
      refine c_skip ?_
      refine q_then ?_
      refine c_seq ?_
      refine c_blk ?_
      refine c_seq ?_
      refine rg ?_
      refine st (v := (I 0)) (rv_assign rfl) ?_
      refine w_end ?_
      refine q_then ?_
      refine c_seq ?_
      refine c_seq ?_
      refine rg ?_
      refine st (v := (I 0)) (rv_assign rfl) ?_
      refine w_end ?_
      refine q_then ?_
      obtain ⟨o15, hj, h'⟩ := bind_some h
      clear h
      refine c_cut (fun e a w => e = .normal ∧ ∃ (ρ : Nat → Value) (σ : St), a = fr 35 (updL ρ [(0, (Sl alist_0 list_0 clist_0)), (3, (Sl a11 s7.1 c12)), (4, (I s7.2)), (5, (I o15))]) ∧ w = σ.w ∧ Mod none σ0 σ ∧ RS 0 σ (Sl alist_0 list_0 clist_0) list_0 ∧ Ow σ σ0.size σ0.size (Sl a11 s7.1 c12) s7.1) ?_ ?_
      · clear h'
        rename _ = some o15 => h
        refine c_blk ?_
        refine wp_loopM _ h (fun s16 a w => ∃ (ρ : Nat → Value) (σ : St), a = fr 35 (updL ρ [(0, (Sl alist_0 list_0 clist_0)), (3, (Sl a11 s7.1 c12)), (4, (I s7.2)), (5, (I s16.1)), (6, (I s16.2))]) ∧ w = σ.w ∧ Mod none σ0 σ ∧ RS 0 σ (Sl alist_0 list_0 clist_0) list_0 ∧ Ow σ σ0.size σ0.size (Sl a11 s7.1 c12) s7.1) ⟨_, σ9, fr_join ⟨rfl, rfl, rfl, rfl, rfl, trivial⟩, rfl, hK, hR10, hO13⟩ ?_
        clear h
        rintro s16 a w o ⟨ρ, σ18, rfl, rfl, hK, hR19, hO20⟩ h hres
        refine c_seq ?_
        refine c_seq ?_
        refine rg ?_
        refine st (v := (I s16.2)) (rv_move rfl) ?_
        refine st (v := (Sl alist_0 list_0 clist_0)) (rv_move rfl) ?_
        refine st (v := (I (list_0.length : Int))) (rv_len Try.underlying35 rfl) ?_
        refine st (v := (B (decide (s16.2 < (list_0.length : Int))))) (rv_lss (a := s16.2) (b := (list_0.length : Int)) rfl rfl) ?_
        refine w_end ?_
        refine q_then ?_
        refine cd_cond (decide (s16.2 < (list_0.length : Int))) rfl (fun hb21 => ?_) (fun hb21 => ?_)
        · replace h := bif_t hb21 h
          refine c_skip ?_
          refine q_then ?_
          refine c_seq ?_
          refine c_blk ?_
          refine rg ?_
          refine st (v := (I s16.1)) (rv_move rfl) ?_
          refine st (v := (Sl alist_0 list_0 clist_0)) (rv_move rfl) ?_
          refine st (v := (I s16.2)) (rv_move rfl) ?_
          obtain ⟨x22, hx23, h'⟩ := bind_some h
          clear h
          have h := h'; clear h'
          obtain ⟨b25, o26, hi24, -⟩ := hR19.ix hx23
          refine st (v := (pt b25 o26)) (rv_ix Try.underlying35 ti23 rfl rfl hi24) ?_
          obtain ⟨v30, hc31, hR29⟩ := (hR19.at hx23 hi24).slice
          obtain ⟨a27, c28, rfl⟩ := hR29.isSl
          refine st (v := (Sl a27 x22 c28)) (rv_load1 Try.underlying23 rfl rfl hc31) ?_
          refine st (v := (I s7.2)) (rv_move rfl) ?_
          obtain ⟨x32, hx33, h'⟩ := bind_some h
          clear h
          have h := h'; clear h'
          obtain ⟨b35, o36, hi34, -⟩ := hR29.ix hx33
          refine st (v := (pt b35 o36)) (rv_ix Try.underlying23 ti3 rfl rfl hi34) ?_
          refine st (v := (I x32)) (rv_load1 Try.underlying3 rfl rfl (hR29.at hx33 hi34).int) ?_
          refine st (v := (I (w64 (s16.1 + x32)))) (rv_add (a := s16.1) (b := x32) rfl rfl) ?_
          refine st (v := (I (w64 (s16.1 + x32)))) (rv_assign rfl) ?_
          refine w_end ?_
          refine q_blk ?_
          refine q_then ?_
          refine rg ?_
          refine st (v := (I s16.2)) (rv_move rfl) ?_
          refine st (v := (I (w64 (s16.2 + 1)))) (rv_add (a := s16.2) (b := 1) rfl rfl) ?_
          refine st (v := (I (w64 (s16.2 + 1)))) (rv_assign rfl) ?_
          refine w_end ?_
          refine q_then ?_
          obtain rfl := Option.some.inj h
          exact ⟨_, rfl, _, σ18, fr_join ⟨rfl, rfl, rfl, rfl, rfl, trivial⟩, rfl, hK, hR19, hO20⟩
        · replace h := bif_f hb21 h
          refine c_exit ?_
          refine q_then_x ?_
          refine q_then_x ?_
          refine q_blk_hit ?_
          obtain rfl := Option.some.inj h
          obtain rfl := hres _ rfl
          exact ⟨rfl, _, σ18, fr_join ⟨rfl, rfl, rfl, rfl, trivial⟩, rfl, hK, hR19, hO20⟩
      · clear hj
        have h := h'
        clear h'
        rintro e a w ⟨rfl, ρ, σ37, rfl, rfl, hK, hR38, hO39⟩
        refine q_then ?_
        refine rg ?_
        refine st (v := (Sl a11 s7.1 c12)) (rv_move rfl) ?_
        refine st (v := (I o15)) (rv_move rfl) ?_
        refine st (v := (Sl alist_0 list_0 clist_0)) (rv_move rfl) ?_
        refine st (v := (I (list_0.length : Int))) (rv_len Try.underlying35 rfl) ?_
        obtain ⟨r40, hx41, h'⟩ := bind_some h
        clear h
        have h := h'; clear h'
        refine st_call (c_spec_floorDiv  hx41) rfl ?_
        have hd44 := hO39.ltb
        have hKs := hK.size
        rintro _ σ42 m43 rfl
        replace hR38 := hR38.mod m43
        replace hO39 := hO39.mod0 m43
        replace hK := hK.none m43
        clear hKs m43
        refine st_buildSlice (lo := σ0.size) (el := σ0.size) (xs := ([r40] : List Int)) (ps := [(0, (I r40))]) (cs := [(I r40)]) Try.underlying23 ti3 rfl rfl (by kernel_rfl) (.cons (c := [(I r40)]) rfl (.nil)) rfl ?_ hK.size (wanted_none _ rfl _)
        intro b46 σ47 hbn49 m48 hO45
        have hd50 := hO39.df' hbn49
        replace hR38 := hR38.mod m48
        replace hO39 := hO39.mod0 m48
        replace hK := hK.none m48
        clear hbn49 m48
        obtain ⟨xs51, hx52, h'⟩ := bind_some h
        clear h
        have h := h'; clear h'
        have hg53 := hO39.ge
        refine st_append Try.underlying23 Try.underlying23 ti3 rfl rfl (by decide) hO39 hO45.rd hx52 hK.size rfl rfl ?_ (wanted_none _ rfl _)
        intro a58 c59 σ54 m55 hO56 hq57
        replace hR38 := hR38.mod m55
        replace hK := hK.own m55 hg53
        clear hq57 m55
        refine st (v := (Sl a58 xs51 c59)) (rv_assign rfl) ?_
        refine w_end ?_
        refine q_blk ?_
        refine q_then ?_
        refine rg ?_
        refine st (v := (I s7.2)) (rv_move rfl) ?_
        refine st (v := (I (w64 (s7.2 + 1)))) (rv_add (a := s7.2) (b := 1) rfl rfl) ?_
        refine st (v := (I (w64 (s7.2 + 1)))) (rv_assign rfl) ?_
        refine w_end ?_
        refine q_then ?_
        obtain rfl := Option.some.inj h
        exact ⟨_, rfl, _, σ54, a58, c59, fr_join ⟨rfl, rfl, rfl, trivial⟩, rfl, hK, hR38, hO56⟩
    · replace h := bif_f hb14 h
      refine c_exit ?_
      refine q_then_x ?_
      refine q_then_x ?_
      refine q_blk_hit ?_
      obtain rfl := Option.some.inj h
      obtain rfl := hres _ rfl
      exact ⟨rfl, _, σ9, a11, c12, fr_join ⟨rfl, trivial⟩, rfl, hK, hO13⟩
  · clear hj
    have h := h'
    clear h'
    rintro e a w ⟨rfl, ρ, σ60, a61, c62, rfl, rfl, hK, hO63⟩
    refine q_then ?_
    refine c_seq ?_
    refine rg ?_
    refine st (v := (Sl a61 o6 c62)) (rv_move rfl) ?_
    refine st (v := (Sl a61 o6 c62)) (rv_assign rfl) ?_
    refine w_end ?_
    refine q_then ?_
    refine c_ret ?_
    obtain rfl := Option.some.inj h
    exact bodyPost_ret (v := (Sl a61 o6 c62)) (results_fr1 Try.results53 rfl _) rfl ⟨_, σ60, rfl, rfl, hK, a61, c62, rfl, hO63⟩

theorem c_spec_MeanOf {σ0 : St} {list_0 : List (List Int)} {alist_0 : Option Addr} {clist_0 : Nat} (hRlist_0 : RS 0 σ0 (Sl alist_0 list_0 clist_0) list_0) {r : (List Int)} (h : M.spec_MeanOf list_0 = some r) :
    Cal Try.prog 27 [(Sl alist_0 list_0 clist_0)] none σ0 (fun v σ' => ∃ (a0 : Option Addr) (c0 : Nat), v = (Sl a0 r c0) ∧ Ow σ' σ0.size σ0.size (Sl a0 r c0) r) := by
  refine ⟨⟨_, _, Try.func27, rfl, rfl⟩, ?_⟩
  refine enter (n := 22) Try.func27 rfl rfl rfl ?_
  unfold M.spec_MeanOf at h
  have hK : Mod none σ0 σ0 := Mod.refl _ _
  refine c_seq ?_
  refine rg ?_
  refine st (v := (.slice none 0 0)) (rv_assign rfl) ?_
  refine w_end ?_
  refine q_then ?_
  refine c_seq ?_
  refine c_seq ?_
  refine rg ?_
  refine st (v := (Sl alist_0 list_0 clist_0)) (rv_move rfl) ?_
  refine st (v := (I (list_0.length : Int))) (rv_len Try.underlying35 rfl) ?_
  obtain ⟨r1, hx2, h'⟩ := bind_some h
  clear h
  have h := h'; clear h'
  refine st_call (c_spec_inRange  hx2) rfl ?_
  have hKs := hK.size
  rintro _ σ3 m4 rfl
  replace hRlist_0 := hRlist_0.mod m4
  replace hK := hK.none m4
  clear hKs m4
  refine st (v := (B (!r1))) (rv_not rfl) ?_
  refine w_end ?_
  refine q_then ?_
  refine cd_cond (!r1) rfl (fun hb5 => ?_) (fun hb5 => ?_)
  · replace h := bif_t hb5 h
    refine c_seq ?_
    refine rg ?_
    refine st (v := (.slice none 0 0)) (rv_assign rfl) ?_
    refine w_end ?_
    refine q_then ?_
    refine c_ret ?_
    refine q_then_r ?_
    obtain rfl := Option.some.inj h
    exact bodyPost_ret (v := (.slice none 0 0)) (results_fr1 Try.results27 rfl _) rfl ⟨_, σ3, rfl, rfl, hK, none, 0, rfl, Ow.nil⟩
  · replace h := bif_f hb5 h
    refine c_skip ?_
    refine q_then ?_
    refine c_seq ?_
    refine c_seq ?_
    refine rg ?_
    refine st (v := (I 0)) (rv_assign rfl) ?_
    refine w_end ?_
    refine q_then ?_
    obtain ⟨o6, hj, h'⟩ := bind_some h
    clear h
    refine c_cut (fun e a w => (∃ t, o6 = (.inl t) ∧ e = .normal ∧ ∃ (ρ : Nat → Value) (σ : St), a = fr 22 (updL ρ [(0, (Sl alist_0 list_0 clist_0))]) ∧ w = σ.w ∧ Mod none σ0 σ ∧ RS 0 σ (Sl alist_0 list_0 clist_0) list_0) ∨ (∃ t, o6 = (.inr t) ∧ e = .ret ∧ ∃ (ρ : Nat → Value) (σ : St) (aj1 : Option Addr) (cj2 : Nat), a = fr 22 (updL ρ [(2, (Sl aj1 t cj2))]) ∧ w = σ.w ∧ Mod none σ0 σ ∧ Ow σ σ0.size σ0.size (Sl aj1 t cj2) t)) ?_ ?_
    · clear h'
      rename _ = some o6 => h
      refine c_blk ?_
      refine wp_loopM _ h (fun s7 a w => ∃ (ρ : Nat → Value) (σ : St), a = fr 22 (updL ρ [(0, (Sl alist_0 list_0 clist_0)), (3, (I s7))]) ∧ w = σ.w ∧ Mod none σ0 σ ∧ RS 0 σ (Sl alist_0 list_0 clist_0) list_0) ⟨_, σ3, fr_join ⟨rfl, rfl, trivial⟩, rfl, hK, hRlist_0⟩ ?_
      clear h
      rintro s7 a w o ⟨ρ, σ9, rfl, rfl, hK, hR10⟩ h hres
      refine c_seq ?_
      refine c_seq ?_
      refine rg ?_
      refine st (v := (I s7)) (rv_move rfl) ?_
      refine st (v := (Sl alist_0 list_0 clist_0)) (rv_move rfl) ?_
      refine st (v := (I (list_0.length : Int))) (rv_len Try.underlying35 rfl) ?_
      refine st (v := (B (decide (s7 < (list_0.length : Int))))) (rv_lss (a := s7) (b := (list_0.length : Int)) rfl rfl) ?_
      refine w_end ?_
      refine q_then ?_
      refine cd_cond (decide (s7 < (list_0.length : Int))) rfl (fun hb11 => ?_) (fun hb11 => ?_)
      · replace h := bif_t hb11 h
        refine c_skip ?_
        refine q_then ?_
        refine c_seq ?_
        refine c_blk ?_
        refine c_seq ?_
        refine rg ?_
        refine st (v := (Sl alist_0 list_0 clist_0)) (rv_move rfl) ?_
        refine st (v := (I s7)) (rv_move rfl) ?_
        obtain ⟨x12, hx13, h'⟩ := bind_some h
        clear h
        have h := h'; clear h'
        obtain ⟨b15, o16, hi14, -⟩ := hR10.ix hx13
        refine st (v := (pt b15 o16)) (rv_ix Try.underlying35 ti23 rfl rfl hi14) ?_
        obtain ⟨v20, hc21, hR19⟩ := (hR10.at hx13 hi14).slice
        obtain ⟨a17, c18, rfl⟩ := hR19.isSl
        refine st (v := (Sl a17 x12 c18)) (rv_load1 Try.underlying23 rfl rfl hc21) ?_
        obtain ⟨r22, hx23, h'⟩ := bind_some h
        clear h
        have h := h'; clear h'
        refine st_call (c_spec_isVector hR19 hx23) rfl ?_
        have hKs := hK.size
        rintro _ σ24 m25 rfl
        replace hR10 := hR10.mod m25
        replace hR19 := hR19.mod m25
        replace hK := hK.none m25
        clear hKs m25
        refine st (v := (B (!r22))) (rv_not rfl) ?_
        refine w_end ?_
        refine q_then ?_
        refine cd_cond (!r22) rfl (fun hb26 => ?_) (fun hb26 => ?_)
        · replace h := bif_t hb26 h
          refine c_seq ?_
          refine rg ?_
          refine st (v := (.slice none 0 0)) (rv_assign rfl) ?_
          refine w_end ?_
          refine q_then ?_
          refine c_ret ?_
          refine q_blk_r ?_
          refine q_then_r ?_
          refine q_then_r ?_
          refine q_blk_r ?_
          obtain rfl := Option.some.inj h
          obtain rfl := hres _ rfl
          exact .inr (⟨_, rfl, rfl, _, σ24, none, 0, fr_join ⟨rfl, trivial⟩, rfl, hK, Ow.nil⟩)
        · replace h := bif_f hb26 h
          refine c_skip ?_
          refine q_blk ?_
          refine q_then ?_
          refine rg ?_
          refine st (v := (I s7)) (rv_move rfl) ?_
          refine st (v := (I (w64 (s7 + 1)))) (rv_add (a := s7) (b := 1) rfl rfl) ?_
          refine st (v := (I (w64 (s7 + 1)))) (rv_assign rfl) ?_
          refine w_end ?_
          refine q_then ?_
          obtain rfl := Option.some.inj h
          exact ⟨_, rfl, _, σ24, fr_join ⟨rfl, rfl, trivial⟩, rfl, hK, hR10⟩
      · replace h := bif_f hb11 h
        refine c_exit ?_
        refine q_then_x ?_
        refine q_then_x ?_
        refine q_blk_hit ?_
        obtain rfl := Option.some.inj h
        obtain rfl := hres _ rfl
        exact .inl ⟨_, rfl, rfl, _, σ9, fr_join ⟨rfl, trivial⟩, rfl, hK, hR10⟩
    · clear hj
      have h := h'
      clear h'
      rintro e a w (⟨t27, rfl, rfl, ρ, σ28, rfl, rfl, hK, hR29⟩ | ⟨t37, rfl, rfl, ρ, σ38, a39, c40, rfl, rfl, hK, hO41⟩)
      · replace h := selim_l h
        refine q_then ?_
        refine c_seq ?_
        refine rg ?_
        refine st (v := (Sl alist_0 list_0 clist_0)) (rv_move rfl) ?_
        obtain ⟨r30, hx31, h'⟩ := bind_some h
        clear h
        have h := h'; clear h'
        refine st_call (c_spec_mean hR29 hx31) rfl ?_
        have hKs := hK.size
        rintro _ σ32 m33 ⟨a34, c35, rfl, hO36⟩
        replace hR29 := hR29.mod m33
        replace hK := hK.none m33
        have hO36g := hO36.ge
        replace hO36 := hO36.lo hKs
        replace hO36 := hO36.low' hKs
        clear hKs m33 hO36g
        refine st (v := (Sl a34 r30 c35)) (rv_assign rfl) ?_
        refine w_end ?_
        refine q_then ?_
        refine c_ret ?_
        obtain rfl := Option.some.inj h
        exact bodyPost_ret (v := (Sl a34 r30 c35)) (results_fr1 Try.results27 rfl _) rfl ⟨_, σ32, rfl, rfl, hK, a34, c35, rfl, hO36⟩
      · replace h := selim_r h
        refine q_then_r ?_
        obtain rfl := Option.some.inj h
        exact bodyPost_ret (v := (Sl a39 t37 c40)) (results_fr1 Try.results27 rfl _) rfl ⟨_, σ38, rfl, rfl, hK, a39, c40, rfl, hO41⟩

theorem c_laws_FnMeanOf {σ0 : St} {code_0 : List UInt8} {acode_0 : Option Addr} {ccode_0 : Nat} (hRcode_0 : RS 0 σ0 (Sl acode_0 code_0 ccode_0) code_0) {r : Bool} (h : M.laws_FnMeanOf code_0 = some r) :
    Cal Try.prog 9 [(Sl acode_0 code_0 ccode_0)] none σ0 (fun v σ' => v = (B r)) := by
  refine ⟨⟨_, _, Try.func9, rfl, rfl⟩, ?_⟩
  refine enter (n := 83) Try.func9 rfl rfl rfl ?_
  unfold M.laws_FnMeanOf at h
  have hK : Mod none σ0 σ0 := Mod.refl _ _
  refine c_seq ?_
  refine rg ?_
  refine st (v := (B false)) (rv_assign rfl) ?_
  refine w_end ?_
  refine q_then ?_
  refine c_seq ?_
  refine c_seq ?_
  refine rg ?_
  refine st (v := (Sl acode_0 code_0 ccode_0)) (rv_move rfl) ?_
  refine st (v := (I (code_0.length : Int))) (rv_len Try.underlying22 rfl) ?_
  refine st (v := (B (decide (1048576 < (code_0.length : Int))))) (rv_gtr (a := (code_0.length : Int)) (b := 1048576) rfl rfl) ?_
  refine w_end ?_
  refine q_then ?_
  refine cd_cond (decide (1048576 < (code_0.length : Int))) rfl (fun hb1 => ?_) (fun hb1 => ?_)
  · replace h := bif_t hb1 h
    refine c_seq ?_
    refine rg ?_
    refine st (v := (B true)) (rv_assign rfl) ?_
    refine w_end ?_
    refine q_then ?_
    refine c_ret ?_
    refine q_then_r ?_
    obtain rfl := Option.some.inj h
    exact bodyPost_ret (v := (B true)) (results_fr1 Try.results9 rfl _) rfl ⟨_, σ0, rfl, rfl, hK, rfl⟩
  · replace h := bif_f hb1 h
    refine c_skip ?_
    refine q_then ?_
    refine c_seq ?_
    refine rg ?_
    refine st (v := (Sl acode_0 code_0 ccode_0)) (rv_move rfl) ?_
    obtain ⟨r2, hx3, h'⟩ := bind_some h
    clear h
    have h := h'; clear h'
    refine st_call (c_spec_DrawMeanOf hRcode_0 hx3) rfl ?_
    have hKs := hK.size
    rintro _ σ4 m5 ⟨a6, c7, rfl, hO8⟩
    replace hRcode_0 := hRcode_0.mod m5
    replace hK := hK.none m5
    have hO8g := hO8.ge
    replace hO8 := hO8.lo hKs
    replace hO8 := hO8.low' hKs
    clear hKs m5 hO8g
    refine st (v := (Sl a6 r2 c7)) (rv_assign rfl) ?_
    refine w_end ?_
    refine q_then ?_
    refine c_seq ?_
    refine rg ?_
    refine st (v := (Sl a6 r2 c7)) (rv_move rfl) ?_
    obtain ⟨σ9, hw10, m11, hR12⟩ := hO8.pub' (Nat.le_refl _)
    rw [← hw10]
    obtain ⟨r13, hx14, h'⟩ := bind_some h
    clear h
    have h := h'; clear h'
    refine st_call (c_impl_MeanOf (hR12.low (Nat.zero_le _)) hx14) rfl ?_
    have hd20 := ltb_size hO8.ltb hw10
    have hKs := size_le hK.size hw10
    rintro _ σ15 m16 ⟨a17, c18, rfl, hO19⟩
    obtain ⟨σ21, hw22, m23, hxl24, hvl25⟩ := lent hw10 m16
    rw [← hw22]
    replace hO19 := hO19.lent hw10 hw22 hxl24 hvl25 (Nat.le_refl _)
    replace hO8 := hO8.mod0 m23
    replace hK := hK.none m23
    have hO19g := hO19.ge
    replace hO19 := hO19.lo hKs
    replace hO19 := hO19.low' hKs
    have hd26 := Df.ge hd20 hO19g
    clear hKs m23 hO19g
    refine st (v := (Sl a17 r13 c18)) (rv_assign rfl) ?_
    refine w_end ?_
    refine q_then ?_
    refine c_seq ?_
    refine c_seq ?_
    obtain ⟨o27, hj, h'⟩ := bind_some h
    clear h
    refine c_cut (fun e a w => e = .normal ∧ ∃ (ρ : Nat → Value) (σ : St), a = fr 83 (updL ρ [(3, (Sl a6 r2 c7)), (4, (Sl a17 r13 c18)), (25, (B o27))]) ∧ w = σ.w ∧ Mod none σ0 σ ∧ Ow σ σ0.size σ0.size (Sl a6 r2 c7) r2 ∧ Ow σ σ0.size σ0.size (Sl a17 r13 c18) r13 ∧ Df (blk (Sl a17 r13 c18)) (blk (Sl a6 r2 c7))) ?_ ?_
    · clear h'
      rename _ = some o27 => h
      refine rg ?_
      refine st (v := (Sl a17 r13 c18)) (rv_move rfl) ?_
      refine st (v := (Sl a6 r2 c7)) (rv_move rfl) ?_
      obtain ⟨σ28, hw29, m30, hR31⟩ := hO8.pub' (Nat.le_refl _)
      rw [← hw29]
      obtain ⟨r32, hx33, h'⟩ := bind_some h
      clear h
      have h := h'; clear h'
      refine st_call (c_spec_MeanOf (hR31.low (Nat.zero_le _)) hx33) rfl ?_
      have hd39 := ltb_size hO8.ltb hw29
      have hd40 := ltb_size hO19.ltb hw29
      have hKs := size_le hK.size hw29
      rintro _ σ34 m35 ⟨a36, c37, rfl, hO38⟩
      obtain ⟨σ41, hw42, m43, hxl44, hvl45⟩ := lent hw29 m35
      rw [← hw42]
      replace hO38 := hO38.lent hw29 hw42 hxl44 hvl45 (Nat.le_refl _)
      replace hO8 := hO8.mod0 m43
      replace hO19 := hO19.mod0 m43
      replace hK := hK.none m43
      have hO38g := hO38.ge
      replace hO38 := hO38.lo hKs
      replace hO38 := hO38.low' hKs
      have hd46 := Df.ge hd39 hO38g
      have hd47 := Df.ge hd40 hO38g
      clear hKs m43 hO38g
      obtain ⟨σ48, hw49, m50, hR51⟩ := hO19.pub' (Nat.le_refl _)
      obtain ⟨σ52, hw53, m54, hR55⟩ := (hO38.mod' m50 (by first | exact (hd47).symm | exact Df.re (hd47).symm)).pub' (Nat.le_refl _)
      rw [← (hw53.trans hw49)]
      obtain ⟨r56, hx57, h'⟩ := bind_some h
      clear h
      have h := h'; clear h'
      refine st_call (c_laws_equalInts ((hR51.low (Nat.zero_le _)).mod m54) (hR55.low (Nat.zero_le _)) hx57) rfl ?_
      have hd60 := ltb_size hO8.ltb (hw53.trans hw49)
      have hd61 := ltb_size hO19.ltb (hw53.trans hw49)
      have hd62 := ltb_size hO38.ltb (hw53.trans hw49)
      have hKs := size_le hK.size (hw53.trans hw49)
      rintro _ σ58 m59 rfl
      obtain ⟨σ63, hw64, m65, hxl66, hvl67⟩ := lent (hw53.trans hw49) m59
      rw [← hw64]
      replace hO8 := hO8.mod0 m65
      replace hO19 := hO19.mod0 m65
      replace hO38 := hO38.mod0 m65
      replace hK := hK.none m65
      clear hKs m65
      refine st (v := (B (!r56))) (rv_not rfl) ?_
      refine st (v := (B (!r56))) (rv_move rfl) ?_
      rcases Bool.eq_false_or_eq_true (!r56) with hb68 | hb68
      · replace h := bif_t hb68 h
        refine st_skip (congrArg some hb68) ?_
        refine st_skip (congrArg some hb68) ?_
        refine st_skip (congrArg some hb68) ?_
        refine st (v := (B true)) (rv_pick_t (congrArg B hb68) rfl) ?_
        refine w_end ?_
        obtain rfl := Option.some.inj h
        exact ⟨rfl, _, σ63, fr_join ⟨rfl, rfl, rfl, trivial⟩, rfl, hK, hO8, hO19, (by first | exact (hd26).symm | exact Df.re (hd26).symm)⟩
      · replace h := bif_f hb68 h
        refine st_g (v := (Sl a17 r13 c18)) (congrArg some hb68) (rv_move rfl) ?_
        refine st_g (v := (I (r13.length : Int))) (congrArg some hb68) (rv_len Try.underlying23 rfl) ?_
        refine st_g (v := (B ((r13.length : Int) == 0))) (congrArg some hb68) (rv_eql (a := (r13.length : Int)) (b := 0) rfl rfl) ?_
        refine st (v := (B ((r13.length : Int) == 0))) (rv_pick_f (congrArg B hb68) rfl) ?_
        refine w_end ?_
        obtain rfl := Option.some.inj h
        exact ⟨rfl, _, σ63, fr_join ⟨rfl, rfl, rfl, trivial⟩, rfl, hK, hO8, hO19, (by first | exact (hd26).symm | exact Df.re (hd26).symm)⟩
    · clear hj
      have h := h'
      clear h'
      rintro e a w ⟨rfl, ρ, σ69, rfl, rfl, hK, hO70, hO71, hd72⟩
      refine q_then ?_
      refine cd_cond o27 rfl (fun hb73 => ?_) (fun hb73 => ?_)
      · replace h := bif_t hb73 h
        refine c_seq ?_
        refine rg ?_
        refine st (v := (Sl a17 r13 c18)) (rv_move rfl) ?_
        refine st (v := (Sl a6 r2 c7)) (rv_move rfl) ?_
        have hg78 := hO70.ge
        obtain ⟨σ74, hw77, m75, hR76⟩ := hO70.pub' (Nat.le_refl _)
        rw [← hw77]; clear hw77
        replace hO71 := hO71.mod' m75 (by first | exact hd72 | exact Df.re hd72)
        replace hK := hK.own m75 hg78
        obtain ⟨r79, hx80, h'⟩ := bind_some h
        clear h
        have h := h'; clear h'
        refine st_call (c_spec_MeanOf (hR76.low (Nat.zero_le _)) hx80) rfl ?_
        have hd86 := hO71.ltb
        have hKs := hK.size
        rintro _ σ81 m82 ⟨a83, c84, rfl, hO85⟩
        replace hO71 := hO71.mod0 m82
        replace hR76 := hR76.mod m82
        replace hK := hK.none m82
        have hO85g := hO85.ge
        replace hO85 := hO85.lo hKs
        replace hO85 := hO85.low' hKs
        have hd87 := Df.ge hd86 hO85g
        clear hKs m82 hO85g
        have hg92 := hO71.ge
        obtain ⟨σ88, hw91, m89, hR90⟩ := hO71.pub' (Nat.le_refl _)
        rw [← hw91]; clear hw91
        replace hO85 := hO85.mod' m89 (by first | exact (hd87).symm | exact Df.re (hd87).symm)
        replace hK := hK.own m89 hg92
        have hg97 := hO85.ge
        obtain ⟨σ93, hw96, m94, hR95⟩ := hO85.pub' (Nat.le_refl _)
        rw [← hw96]; clear hw96
        replace hR90 := hR90.mod m94
        replace hK := hK.own m94 hg97
        obtain ⟨r98, hx99, h'⟩ := bind_some h
        clear h
        have h := h'; clear h'
        refine st_call (c_laws_equalInts (hR90.low (Nat.zero_le _)) (hR95.low (Nat.zero_le _)) hx99) rfl ?_
        have hKs := hK.size
        rintro _ σ100 m101 rfl
        replace hR90 := hR90.mod m101
        replace hR95 := hR95.mod m101
        replace hK := hK.none m101
        clear hKs m101
        refine st (v := (B r98)) (rv_assign rfl) ?_
        refine w_end ?_
        refine q_then ?_
        refine c_ret ?_
        refine q_then_r ?_
        obtain rfl := Option.some.inj h
        exact bodyPost_ret (v := (B r98)) (results_fr1 Try.results9 rfl _) rfl ⟨_, σ100, rfl, rfl, hK, rfl⟩
      · replace h := bif_f hb73 h
        refine c_skip ?_
        refine q_then ?_
        refine c_seq ?_
        refine c_seq ?_
        refine rg ?_
        refine st (v := (I 0)) (rv_assign rfl) ?_
        refine w_end ?_
        refine q_then ?_
        obtain ⟨o102, hj, h'⟩ := bind_some h
        clear h
        refine c_cut (fun e a w => (∃ t, o102 = (.inl t) ∧ e = .normal ∧ ∃ (ρ : Nat → Value) (σ : St), a = fr 83 (updL ρ [(4, (Sl a17 r13 c18))]) ∧ w = σ.w ∧ Mod none σ0 σ ∧ Ow σ σ0.size σ0.size (Sl a17 r13 c18) r13) ∨ (∃ t, o102 = (.inr t) ∧ e = .ret ∧ ∃ (ρ : Nat → Value) (σ : St), a = fr 83 (updL ρ [(2, (B t))]) ∧ w = σ.w ∧ Mod none σ0 σ)) ?_ ?_
        · clear h'
          rename _ = some o102 => h
          refine c_blk ?_
          refine wp_loopM _ h (fun s103 a w => ∃ (ρ : Nat → Value) (σ : St), a = fr 83 (updL ρ [(3, (Sl a6 r2 c7)), (4, (Sl a17 r13 c18)), (5, (I s103))]) ∧ w = σ.w ∧ Mod none σ0 σ ∧ Ow σ σ0.size σ0.size (Sl a6 r2 c7) r2 ∧ Ow σ σ0.size σ0.size (Sl a17 r13 c18) r13 ∧ Df (blk (Sl a17 r13 c18)) (blk (Sl a6 r2 c7))) ⟨_, σ69, fr_join ⟨rfl, rfl, rfl, trivial⟩, rfl, hK, hO70, hO71, (by first | exact hd72 | exact Df.re hd72)⟩ ?_
          clear h
          rintro s103 a w o ⟨ρ, σ105, rfl, rfl, hK, hO106, hO107, hd108⟩ h hres
          refine c_seq ?_
          refine c_seq ?_
          refine rg ?_
          refine st (v := (I s103)) (rv_move rfl) ?_
          refine st (v := (Sl a17 r13 c18)) (rv_move rfl) ?_
          refine st (v := (I (r13.length : Int))) (rv_len Try.underlying23 rfl) ?_
          refine st (v := (B (decide (s103 < (r13.length : Int))))) (rv_lss (a := s103) (b := (r13.length : Int)) rfl rfl) ?_
          refine w_end ?_
          refine q_then ?_
          refine cd_cond (decide (s103 < (r13.length : Int))) rfl (fun hb109 => ?_) (fun hb109 => ?_)
          · replace h := bif_t hb109 h
            refine c_skip ?_
            refine q_then ?_
            refine c_seq ?_
            refine c_blk ?_
            refine c_seq ?_
            refine rg ?_
            refine st (v := (Sl a6 r2 c7)) (rv_move rfl) ?_
            obtain ⟨x110, hx111, h'⟩ := bind_some h
            clear h
            have h := h'; clear h'
            obtain ⟨b113, o114, hi112, -⟩ := hO106.ix hx111
            refine st (v := (pt b113 o114)) (rv_ix Try.underlying35 ti23 rfl rfl hi112) ?_
            obtain ⟨v118, hc119, hR117⟩ := (hO106.at hx111 hi112).slice
            obtain ⟨a115, c116, rfl⟩ := hR117.isSl
            refine st (v := (Sl a115 x110 c116)) (rv_load1 Try.underlying23 rfl rfl hc119) ?_
            refine st (v := (I s103)) (rv_move rfl) ?_
            obtain ⟨x120, hx121, h'⟩ := bind_some h
            clear h
            have h := h'; clear h'
            obtain ⟨b123, o124, hi122, -⟩ := hR117.ix hx121
            refine st (v := (pt b123 o124)) (rv_ix Try.underlying23 ti3 rfl rfl hi122) ?_
            refine st (v := (I x120)) (rv_load1 Try.underlying3 rfl rfl (hR117.at hx121 hi122).int) ?_
            refine st (v := (I x120)) (rv_assign rfl) ?_
            refine w_end ?_
            refine q_then ?_
            refine c_seq ?_
            refine rg ?_
            refine st (v := (I x120)) (rv_move rfl) ?_
            refine st (v := (I x120)) (rv_assign rfl) ?_
            refine w_end ?_
            refine q_then ?_
            refine c_seq ?_
            refine c_seq ?_
            refine rg ?_
            refine st (v := (I 0)) (rv_assign rfl) ?_
            refine w_end ?_
            refine q_then ?_
            obtain ⟨o125, hj, h'⟩ := bind_some h
            clear h
            refine c_cut (fun e a w => e = .normal ∧ ∃ (ρ : Nat → Value) (σ : St), a = fr 83 (updL ρ [(3, (Sl a6 r2 c7)), (4, (Sl a17 r13 c18)), (5, (I s103)), (6, (I o125.1)), (7, (I o125.2))]) ∧ w = σ.w ∧ Mod none σ0 σ ∧ Ow σ σ0.size σ0.size (Sl a6 r2 c7) r2 ∧ Ow σ σ0.size σ0.size (Sl a17 r13 c18) r13 ∧ Df (blk (Sl a17 r13 c18)) (blk (Sl a6 r2 c7))) ?_ ?_
            · clear h'
              rename _ = some o125 => h
              refine c_blk ?_
              refine wp_loopM _ h (fun s126 a w => ∃ (ρ : Nat → Value) (σ : St), a = fr 83 (updL ρ [(3, (Sl a6 r2 c7)), (4, (Sl a17 r13 c18)), (5, (I s103)), (6, (I s126.1)), (7, (I s126.2.1)), (8, (I s126.2.2))]) ∧ w = σ.w ∧ Mod none σ0 σ ∧ Ow σ σ0.size σ0.size (Sl a6 r2 c7) r2 ∧ Ow σ σ0.size σ0.size (Sl a17 r13 c18) r13 ∧ Df (blk (Sl a17 r13 c18)) (blk (Sl a6 r2 c7))) ⟨_, σ105, fr_join ⟨rfl, rfl, rfl, rfl, rfl, rfl, trivial⟩, rfl, hK, hO106, hO107, (by first | exact hd108 | exact Df.re hd108)⟩ ?_
              clear h
              rintro s126 a w o ⟨ρ, σ128, rfl, rfl, hK, hO129, hO130, hd131⟩ h hres
              refine c_seq ?_
              refine c_seq ?_
              refine rg ?_
              refine st (v := (I s126.2.2)) (rv_move rfl) ?_
              refine st (v := (Sl a6 r2 c7)) (rv_move rfl) ?_
              refine st (v := (I (r2.length : Int))) (rv_len Try.underlying35 rfl) ?_
              refine st (v := (B (decide (s126.2.2 < (r2.length : Int))))) (rv_lss (a := s126.2.2) (b := (r2.length : Int)) rfl rfl) ?_
              refine w_end ?_
              refine q_then ?_
              refine cd_cond (decide (s126.2.2 < (r2.length : Int))) rfl (fun hb132 => ?_) (fun hb132 => ?_)
              · replace h := bif_t hb132 h
                refine c_skip ?_
                refine q_then ?_
                refine c_seq ?_
                refine c_blk ?_
                refine c_seq ?_
                refine rg ?_
                refine st (v := (I s126.1)) (rv_move rfl) ?_
                refine st (v := (Sl a6 r2 c7)) (rv_move rfl) ?_
                refine st (v := (I s126.2.2)) (rv_move rfl) ?_
                obtain ⟨x133, hx134, h'⟩ := bind_some h
                clear h
                have h := h'; clear h'
                obtain ⟨b136, o137, hi135, -⟩ := hO129.ix hx134
                refine st (v := (pt b136 o137)) (rv_ix Try.underlying35 ti23 rfl rfl hi135) ?_
                obtain ⟨v141, hc142, hR140⟩ := (hO129.at hx134 hi135).slice
                obtain ⟨a138, c139, rfl⟩ := hR140.isSl
                refine st (v := (Sl a138 x133 c139)) (rv_load1 Try.underlying23 rfl rfl hc142) ?_
                refine st (v := (I s103)) (rv_move rfl) ?_
                obtain ⟨x143, hx144, h'⟩ := bind_some h
                clear h
                have h := h'; clear h'
                obtain ⟨b146, o147, hi145, -⟩ := hR140.ix hx144
                refine st (v := (pt b146 o147)) (rv_ix Try.underlying23 ti3 rfl rfl hi145) ?_
                refine st (v := (I x143)) (rv_load1 Try.underlying3 rfl rfl (hR140.at hx144 hi145).int) ?_
                refine st (v := (I (min s126.1 x143))) (rv_min rfl rfl) ?_
                refine st (v := (I (min s126.1 x143))) (rv_assign rfl) ?_
                refine w_end ?_
                refine q_then ?_
                refine rg ?_
                refine st (v := (I s126.2.1)) (rv_move rfl) ?_
                refine st (v := (Sl a6 r2 c7)) (rv_move rfl) ?_
                refine st (v := (I s126.2.2)) (rv_move rfl) ?_
                obtain ⟨x148, hx149, h'⟩ := bind_some h
                clear h
                have h := h'; clear h'
                obtain ⟨b151, o152, hi150, -⟩ := hO129.ix hx149
                refine st (v := (pt b151 o152)) (rv_ix Try.underlying35 ti23 rfl rfl hi150) ?_
                obtain ⟨v156, hc157, hR155⟩ := (hO129.at hx149 hi150).slice
                obtain ⟨a153, c154, rfl⟩ := hR155.isSl
                refine st (v := (Sl a153 x148 c154)) (rv_load1 Try.underlying23 rfl rfl hc157) ?_
                refine st (v := (I s103)) (rv_move rfl) ?_
                obtain ⟨x158, hx159, h'⟩ := bind_some h
                clear h
                have h := h'; clear h'
                obtain ⟨b161, o162, hi160, -⟩ := hR155.ix hx159
                refine st (v := (pt b161 o162)) (rv_ix Try.underlying23 ti3 rfl rfl hi160) ?_
                refine st (v := (I x158)) (rv_load1 Try.underlying3 rfl rfl (hR155.at hx159 hi160).int) ?_
                refine st (v := (I (max s126.2.1 x158))) (rv_max rfl rfl) ?_
                refine st (v := (I (max s126.2.1 x158))) (rv_assign rfl) ?_
                refine w_end ?_
                refine q_blk ?_
                refine q_then ?_
                refine rg ?_
                refine st (v := (I s126.2.2)) (rv_move rfl) ?_
                refine st (v := (I (w64 (s126.2.2 + 1)))) (rv_add (a := s126.2.2) (b := 1) rfl rfl) ?_
                refine st (v := (I (w64 (s126.2.2 + 1)))) (rv_assign rfl) ?_
                refine w_end ?_
                refine q_then ?_
                obtain rfl := Option.some.inj h
                exact ⟨_, rfl, _, σ128, fr_join ⟨rfl, rfl, rfl, rfl, rfl, rfl, trivial⟩, rfl, hK, hO129, hO130, (by first | exact hd131 | exact Df.re hd131)⟩
              · replace h := bif_f hb132 h
                refine c_exit ?_
                refine q_then_x ?_
                refine q_then_x ?_
                refine q_blk_hit ?_
                obtain rfl := Option.some.inj h
                obtain rfl := hres _ rfl
                exact ⟨rfl, _, σ128, fr_join ⟨rfl, rfl, rfl, rfl, rfl, trivial⟩, rfl, hK, hO129, hO130, (by first | exact hd131 | exact Df.re hd131)⟩
            · clear hj
              have h := h'
              clear h'
              rintro e a w ⟨rfl, ρ, σ163, rfl, rfl, hK, hO164, hO165, hd166⟩
              refine q_then ?_
              refine c_seq ?_
              obtain ⟨o167, hj, h'⟩ := bind_some h
              clear h
              refine c_cut (fun e a w => e = .normal ∧ ∃ (ρ : Nat → Value) (σ : St), a = fr 83 (updL ρ [(3, (Sl a6 r2 c7)), (4, (Sl a17 r13 c18)), (5, (I s103)), (80, (B o167))]) ∧ w = σ.w ∧ Mod none σ0 σ ∧ Ow σ σ0.size σ0.size (Sl a6 r2 c7) r2 ∧ Ow σ σ0.size σ0.size (Sl a17 r13 c18) r13 ∧ Df (blk (Sl a17 r13 c18)) (blk (Sl a6 r2 c7))) ?_ ?_
              · clear h'
                rename _ = some o167 => h
                refine rg ?_
                refine st (v := (Sl a17 r13 c18)) (rv_move rfl) ?_
                refine st (v := (I s103)) (rv_move rfl) ?_
                obtain ⟨x168, hx169, h'⟩ := bind_some h
                clear h
                have h := h'; clear h'
                obtain ⟨b171, o172, hi170, -⟩ := hO165.ix hx169
                refine st (v := (pt b171 o172)) (rv_ix Try.underlying23 ti3 rfl rfl hi170) ?_
                refine st (v := (I x168)) (rv_load1 Try.underlying3 rfl rfl (hO165.at hx169 hi170).int) ?_
                refine st (v := (I o125.1)) (rv_move rfl) ?_
                refine st (v := (B (decide (x168 < o125.1)))) (rv_lss (a := x168) (b := o125.1) rfl rfl) ?_
                refine st (v := (B (decide (x168 < o125.1)))) (rv_move rfl) ?_
                rcases Bool.eq_false_or_eq_true (decide (x168 < o125.1)) with hb173 | hb173
                · replace h := bif_t hb173 h
                  refine st_skip (congrArg some hb173) ?_
                  refine st_skip (congrArg some hb173) ?_
                  refine st_skip (congrArg some hb173) ?_
                  refine st_skip (congrArg some hb173) ?_
                  refine st_skip (congrArg some hb173) ?_
                  refine st_skip (congrArg some hb173) ?_
                  refine st (v := (B true)) (rv_pick_t (congrArg B hb173) rfl) ?_
                  refine w_end ?_
                  obtain rfl := Option.some.inj h
                  exact ⟨rfl, _, σ163, fr_join ⟨rfl, rfl, rfl, rfl, trivial⟩, rfl, hK, hO164, hO165, (by first | exact hd166 | exact Df.re hd166)⟩
                · replace h := bif_f hb173 h
                  refine st_g (v := (Sl a17 r13 c18)) (congrArg some hb173) (rv_move rfl) ?_
                  refine st_g (v := (I s103)) (congrArg some hb173) (rv_move rfl) ?_
                  obtain ⟨x174, hx175, h'⟩ := bind_some h
                  clear h
                  have h := h'; clear h'
                  obtain ⟨b177, o178, hi176, -⟩ := hO165.ix hx175
                  refine st_g (v := (pt b177 o178)) (congrArg some hb173) (rv_ix Try.underlying23 ti3 rfl rfl hi176) ?_
                  refine st_g (v := (I x174)) (congrArg some hb173) (rv_load1 Try.underlying3 rfl rfl (hO165.at hx175 hi176).int) ?_
                  refine st_g (v := (I o125.2)) (congrArg some hb173) (rv_move rfl) ?_
                  refine st_g (v := (B (decide (o125.2 < x174)))) (congrArg some hb173) (rv_gtr (a := x174) (b := o125.2) rfl rfl) ?_
                  refine st (v := (B (decide (o125.2 < x174)))) (rv_pick_f (congrArg B hb173) rfl) ?_
                  refine w_end ?_
                  obtain rfl := Option.some.inj h
                  exact ⟨rfl, _, σ163, fr_join ⟨rfl, rfl, rfl, rfl, trivial⟩, rfl, hK, hO164, hO165, (by first | exact hd166 | exact Df.re hd166)⟩
              · clear hj
                have h := h'
                clear h'
                rintro e a w ⟨rfl, ρ, σ179, rfl, rfl, hK, hO180, hO181, hd182⟩
                refine q_then ?_
                refine cd_cond o167 rfl (fun hb183 => ?_) (fun hb183 => ?_)
                · replace h := bif_t hb183 h
                  refine c_seq ?_
                  refine rg ?_
                  refine st (v := (B false)) (rv_assign rfl) ?_
                  refine w_end ?_
                  refine q_then ?_
                  refine c_ret ?_
                  refine q_blk_r ?_
                  refine q_then_r ?_
                  refine q_then_r ?_
                  refine q_blk_r ?_
                  obtain rfl := Option.some.inj h
                  obtain rfl := hres _ rfl
                  exact .inr (⟨_, rfl, rfl, _, σ179, fr_join ⟨rfl, trivial⟩, rfl, hK⟩)
                · replace h := bif_f hb183 h
                  refine c_skip ?_
                  refine q_blk ?_
                  refine q_then ?_
                  refine rg ?_
                  refine st (v := (I s103)) (rv_move rfl) ?_
                  refine st (v := (I (w64 (s103 + 1)))) (rv_add (a := s103) (b := 1) rfl rfl) ?_
                  refine st (v := (I (w64 (s103 + 1)))) (rv_assign rfl) ?_
                  refine w_end ?_
                  refine q_then ?_
                  obtain rfl := Option.some.inj h
                  exact ⟨_, rfl, _, σ179, fr_join ⟨rfl, rfl, rfl, trivial⟩, rfl, hK, hO180, hO181, (by first | exact hd182 | exact Df.re hd182)⟩
          · replace h := bif_f hb109 h
            refine c_exit ?_
            refine q_then_x ?_
            refine q_then_x ?_
            refine q_blk_hit ?_
            obtain rfl := Option.some.inj h
            obtain rfl := hres _ rfl
            exact .inl ⟨_, rfl, rfl, _, σ105, fr_join ⟨rfl, trivial⟩, rfl, hK, hO107⟩
        · clear hj
          have h := h'
          clear h'
          rintro e a w (⟨t184, rfl, rfl, ρ, σ185, rfl, rfl, hK, hO186⟩ | ⟨t196, rfl, rfl, ρ, σ197, rfl, rfl, hK⟩)
          · replace h := selim_l h
            refine q_then ?_
            refine c_seq ?_
            refine rg ?_
            refine st (v := (Sl a17 r13 c18)) (rv_move rfl) ?_
            have hg191 := hO186.ge
            obtain ⟨σ187, hw190, m188, hR189⟩ := hO186.pub' (Nat.le_refl _)
            rw [← hw190]; clear hw190
            replace hK := hK.own m188 hg191
            obtain ⟨r192, hx193, h'⟩ := bind_some h
            clear h
            have h := h'; clear h'
            refine st_call (c_impl_ValidVector (hR189.low (Nat.zero_le _)) hx193) rfl ?_
            have hKs := hK.size
            rintro _ σ194 m195 rfl
            replace hR189 := hR189.mod m195
            replace hK := hK.none m195
            clear hKs m195
            refine st (v := (B r192)) (rv_assign rfl) ?_
            refine w_end ?_
            refine q_then ?_
            refine c_ret ?_
            obtain rfl := Option.some.inj h
            exact bodyPost_ret (v := (B r192)) (results_fr1 Try.results9 rfl _) rfl ⟨_, σ194, rfl, rfl, hK, rfl⟩
          · replace h := selim_r h
            refine q_then_r ?_
            obtain rfl := Option.some.inj h
            exact bodyPost_ret (v := (B t196)) (results_fr1 Try.results9 rfl _) rfl ⟨_, σ197, rfl, rfl, hK, rfl⟩

theorem c_laws_FnMeanOfOne {σ0 : St} {code_0 : List UInt8} {acode_0 : Option Addr} {ccode_0 : Nat} (hRcode_0 : RS 0 σ0 (Sl acode_0 code_0 ccode_0) code_0) {r : Bool} (h : M.laws_FnMeanOfOne code_0 = some r) :
    Cal Try.prog 10 [(Sl acode_0 code_0 ccode_0)] none σ0 (fun v σ' => v = (B r)) := by
  refine ⟨⟨_, _, Try.func10, rfl, rfl⟩, ?_⟩
  refine enter (n := 50) Try.func10 rfl rfl rfl ?_
  unfold M.laws_FnMeanOfOne at h
  have hK : Mod none σ0 σ0 := Mod.refl _ _
  refine c_seq ?_
  refine rg ?_
  refine st (v := (B false)) (rv_assign rfl) ?_
  refine w_end ?_
  refine q_then ?_
  refine c_seq ?_
  refine c_seq ?_
  refine rg ?_
  refine st (v := (Sl acode_0 code_0 ccode_0)) (rv_move rfl) ?_
  refine st (v := (I (code_0.length : Int))) (rv_len Try.underlying22 rfl) ?_
  refine st (v := (B (decide (1048576 < (code_0.length : Int))))) (rv_gtr (a := (code_0.length : Int)) (b := 1048576) rfl rfl) ?_
  refine w_end ?_
  refine q_then ?_
  refine cd_cond (decide (1048576 < (code_0.length : Int))) rfl (fun hb1 => ?_) (fun hb1 => ?_)
  · replace h := bif_t hb1 h
    refine c_seq ?_
    refine rg ?_
    refine st (v := (B true)) (rv_assign rfl) ?_
    refine w_end ?_
    refine q_then ?_
    refine c_ret ?_
    refine q_then_r ?_
    obtain rfl := Option.some.inj h
    exact bodyPost_ret (v := (B true)) (results_fr1 Try.results10 rfl _) rfl ⟨_, σ0, rfl, rfl, hK, rfl⟩
  · replace h := bif_f hb1 h
    refine c_skip ?_
    refine q_then ?_
    refine c_seq ?_
    refine rg ?_
    refine st (v := (Sl acode_0 code_0 ccode_0)) (rv_move rfl) ?_
    obtain ⟨r2, hx3, h'⟩ := bind_some h
    clear h
    have h := h'; clear h'
    refine st_call (c_spec_DrawMeanOf hRcode_0 hx3) rfl ?_
    have hKs := hK.size
    rintro _ σ4 m5 ⟨a6, c7, rfl, hO8⟩
    replace hRcode_0 := hRcode_0.mod m5
    replace hK := hK.none m5
    have hO8g := hO8.ge
    replace hO8 := hO8.lo hKs
    replace hO8 := hO8.low' hKs
    clear hKs m5 hO8g
    refine st (v := (Sl a6 r2 c7)) (rv_assign rfl) ?_
    refine w_end ?_
    refine q_then ?_
    refine c_seq ?_
    refine rg ?_
    refine st (v := (Sl a6 r2 c7)) (rv_move rfl) ?_
    obtain ⟨σ9, hw10, m11, hR12⟩ := hO8.pub' (Nat.le_refl _)
    rw [← hw10]
    obtain ⟨r13, hx14, h'⟩ := bind_some h
    clear h
    have h := h'; clear h'
    refine st_call (c_impl_MeanOf (hR12.low (Nat.zero_le _)) hx14) rfl ?_
    have hd20 := ltb_size hO8.ltb hw10
    have hKs := size_le hK.size hw10
    rintro _ σ15 m16 ⟨a17, c18, rfl, hO19⟩
    obtain ⟨σ21, hw22, m23, hxl24, hvl25⟩ := lent hw10 m16
    rw [← hw22]
    replace hO19 := hO19.lent hw10 hw22 hxl24 hvl25 (Nat.le_refl _)
    replace hO8 := hO8.mod0 m23
    replace hK := hK.none m23
    have hO19g := hO19.ge
    replace hO19 := hO19.lo hKs
    replace hO19 := hO19.low' hKs
    have hd26 := Df.ge hd20 hO19g
    clear hKs m23 hO19g
    refine st (v := (Sl a17 r13 c18)) (rv_assign rfl) ?_
    refine w_end ?_
    refine q_then ?_
    refine c_seq ?_
    refine c_seq ?_
    obtain ⟨o27, hj, h'⟩ := bind_some h
    clear h
    refine c_cut (fun e a w => e = .normal ∧ ∃ (ρ : Nat → Value) (σ : St), a = fr 50 (updL ρ [(3, (Sl a6 r2 c7)), (4, (Sl a17 r13 c18)), (21, (B o27))]) ∧ w = σ.w ∧ Mod none σ0 σ ∧ Ow σ σ0.size σ0.size (Sl a6 r2 c7) r2 ∧ Ow σ σ0.size σ0.size (Sl a17 r13 c18) r13 ∧ Df (blk (Sl a17 r13 c18)) (blk (Sl a6 r2 c7))) ?_ ?_
    · clear h'
      rename _ = some o27 => h
      refine rg ?_
      refine st (v := (Sl a17 r13 c18)) (rv_move rfl) ?_
      refine st (v := (Sl a6 r2 c7)) (rv_move rfl) ?_
      obtain ⟨σ28, hw29, m30, hR31⟩ := hO8.pub' (Nat.le_refl _)
      rw [← hw29]
      obtain ⟨r32, hx33, h'⟩ := bind_some h
      clear h
      have h := h'; clear h'
      refine st_call (c_spec_MeanOf (hR31.low (Nat.zero_le _)) hx33) rfl ?_
      have hd39 := ltb_size hO8.ltb hw29
      have hd40 := ltb_size hO19.ltb hw29
      have hKs := size_le hK.size hw29
      rintro _ σ34 m35 ⟨a36, c37, rfl, hO38⟩
      obtain ⟨σ41, hw42, m43, hxl44, hvl45⟩ := lent hw29 m35
      rw [← hw42]
      replace hO38 := hO38.lent hw29 hw42 hxl44 hvl45 (Nat.le_refl _)
      replace hO8 := hO8.mod0 m43
      replace hO19 := hO19.mod0 m43
      replace hK := hK.none m43
      have hO38g := hO38.ge
      replace hO38 := hO38.lo hKs
      replace hO38 := hO38.low' hKs
      have hd46 := Df.ge hd39 hO38g
      have hd47 := Df.ge hd40 hO38g
      clear hKs m43 hO38g
      obtain ⟨σ48, hw49, m50, hR51⟩ := hO19.pub' (Nat.le_refl _)
      obtain ⟨σ52, hw53, m54, hR55⟩ := (hO38.mod' m50 (by first | exact (hd47).symm | exact Df.re (hd47).symm)).pub' (Nat.le_refl _)
      rw [← (hw53.trans hw49)]
      obtain ⟨r56, hx57, h'⟩ := bind_some h
      clear h
      have h := h'; clear h'
      refine st_call (c_laws_equalInts ((hR51.low (Nat.zero_le _)).mod m54) (hR55.low (Nat.zero_le _)) hx57) rfl ?_
      have hd60 := ltb_size hO8.ltb (hw53.trans hw49)
      have hd61 := ltb_size hO19.ltb (hw53.trans hw49)
      have hd62 := ltb_size hO38.ltb (hw53.trans hw49)
      have hKs := size_le hK.size (hw53.trans hw49)
      rintro _ σ58 m59 rfl
      obtain ⟨σ63, hw64, m65, hxl66, hvl67⟩ := lent (hw53.trans hw49) m59
      rw [← hw64]
      replace hO8 := hO8.mod0 m65
      replace hO19 := hO19.mod0 m65
      replace hO38 := hO38.mod0 m65
      replace hK := hK.none m65
      clear hKs m65
      refine st (v := (B (!r56))) (rv_not rfl) ?_
      refine st (v := (B (!r56))) (rv_move rfl) ?_
      rcases Bool.eq_false_or_eq_true (!r56) with hb68 | hb68
      · replace h := bif_t hb68 h
        refine st_skip (congrArg some hb68) ?_
        refine st_skip (congrArg some hb68) ?_
        refine st_skip (congrArg some hb68) ?_
        refine st (v := (B true)) (rv_pick_t (congrArg B hb68) rfl) ?_
        refine w_end ?_
        obtain rfl := Option.some.inj h
        exact ⟨rfl, _, σ63, fr_join ⟨rfl, rfl, rfl, trivial⟩, rfl, hK, hO8, hO19, (by first | exact (hd26).symm | exact Df.re (hd26).symm)⟩
      · replace h := bif_f hb68 h
        refine st_g (v := (Sl a17 r13 c18)) (congrArg some hb68) (rv_move rfl) ?_
        refine st_g (v := (I (r13.length : Int))) (congrArg some hb68) (rv_len Try.underlying23 rfl) ?_
        refine st_g (v := (B ((r13.length : Int) == 0))) (congrArg some hb68) (rv_eql (a := (r13.length : Int)) (b := 0) rfl rfl) ?_
        refine st (v := (B ((r13.length : Int) == 0))) (rv_pick_f (congrArg B hb68) rfl) ?_
        refine w_end ?_
        obtain rfl := Option.some.inj h
        exact ⟨rfl, _, σ63, fr_join ⟨rfl, rfl, rfl, trivial⟩, rfl, hK, hO8, hO19, (by first | exact (hd26).symm | exact Df.re (hd26).symm)⟩
    · clear hj
      have h := h'
      clear h'
      rintro e a w ⟨rfl, ρ, σ69, rfl, rfl, hK, hO70, hO71, hd72⟩
      refine q_then ?_
      refine cd_cond o27 rfl (fun hb73 => ?_) (fun hb73 => ?_)
      · replace h := bif_t hb73 h
        refine c_seq ?_
        refine rg ?_
        refine st (v := (Sl a17 r13 c18)) (rv_move rfl) ?_
        refine st (v := (Sl a6 r2 c7)) (rv_move rfl) ?_
        have hg78 := hO70.ge
        obtain ⟨σ74, hw77, m75, hR76⟩ := hO70.pub' (Nat.le_refl _)
        rw [← hw77]; clear hw77
        replace hO71 := hO71.mod' m75 (by first | exact hd72 | exact Df.re hd72)
        replace hK := hK.own m75 hg78
        obtain ⟨r79, hx80, h'⟩ := bind_some h
        clear h
        have h := h'; clear h'
        refine st_call (c_spec_MeanOf (hR76.low (Nat.zero_le _)) hx80) rfl ?_
        have hd86 := hO71.ltb
        have hKs := hK.size
        rintro _ σ81 m82 ⟨a83, c84, rfl, hO85⟩
        replace hO71 := hO71.mod0 m82
        replace hR76 := hR76.mod m82
        replace hK := hK.none m82
        have hO85g := hO85.ge
        replace hO85 := hO85.lo hKs
        replace hO85 := hO85.low' hKs
        have hd87 := Df.ge hd86 hO85g
        clear hKs m82 hO85g
        have hg92 := hO71.ge
        obtain ⟨σ88, hw91, m89, hR90⟩ := hO71.pub' (Nat.le_refl _)
        rw [← hw91]; clear hw91
        replace hO85 := hO85.mod' m89 (by first | exact (hd87).symm | exact Df.re (hd87).symm)
        replace hK := hK.own m89 hg92
        have hg97 := hO85.ge
        obtain ⟨σ93, hw96, m94, hR95⟩ := hO85.pub' (Nat.le_refl _)
        rw [← hw96]; clear hw96
        replace hR90 := hR90.mod m94
        replace hK := hK.own m94 hg97
        obtain ⟨r98, hx99, h'⟩ := bind_some h
        clear h
        have h := h'; clear h'
        refine st_call (c_laws_equalInts (hR90.low (Nat.zero_le _)) (hR95.low (Nat.zero_le _)) hx99) rfl ?_
        have hKs := hK.size
        rintro _ σ100 m101 rfl
        replace hR90 := hR90.mod m101
        replace hR95 := hR95.mod m101
        replace hK := hK.none m101
        clear hKs m101
        refine st (v := (B r98)) (rv_assign rfl) ?_
        refine w_end ?_
        refine q_then ?_
        refine c_ret ?_
        refine q_then_r ?_
        obtain rfl := Option.some.inj h
        exact bodyPost_ret (v := (B r98)) (results_fr1 Try.results10 rfl _) rfl ⟨_, σ100, rfl, rfl, hK, rfl⟩
      · replace h := bif_f hb73 h
        refine c_skip ?_
        refine q_then ?_
        refine c_seq ?_
        have hg113 := hO70.ge
        obtain ⟨σ109, hw112, m110, hR111⟩ := hO70.pub' (Nat.le_refl _)
        rw [← hw112]; clear hw112
        replace hK := hK.own m110 hg113
        obtain ⟨xs114, hx115, h'⟩ := bind_some h
        clear h
        have h := h'; clear h'
        obtain ⟨a116, c117, hs118, hR119⟩ := hR111.slice hx115
        obtain ⟨r120, hx121, h'⟩ := bind_some h
        clear h
        have h := h'; clear h'
        obtain ⟨x125, hx126, h'⟩ := bind_some h
        clear h
        have h := h'; clear h'
        obtain ⟨b128, o129, hi127, -⟩ := hR111.ix hx126
        obtain ⟨v133, hc134, hR132⟩ := (hR111.at hx126 hi127).slice
        obtain ⟨a130, c131, rfl⟩ := hR132.isSl
        obtain ⟨r135, hx136, h'⟩ := bind_some h
        clear h
        have h := h'; clear h'
        rcases Bool.eq_false_or_eq_true r135 with hb137 | hb137
        · replace h := bif_t hb137 h
          obtain ⟨x138, hx139, h'⟩ := bind_some h
          clear h
          have h := h'; clear h'
          obtain ⟨b141, o142, hi140, -⟩ := hR111.ix hx139
          obtain ⟨v146, hc147, hR145⟩ := (hR111.at hx139 hi140).slice
          obtain ⟨a143, c144, rfl⟩ := hR145.isSl
          obtain ⟨x148, hx149, h'⟩ := bind_some h
          clear h
          have h := h'; clear h'
          obtain ⟨b151, o152, hi150, -⟩ := hR111.ix hx149
          obtain ⟨v156, hc157, hR155⟩ := (hR111.at hx149 hi150).slice
          obtain ⟨a153, c154, rfl⟩ := hR155.isSl
          obtain ⟨x158, hx159, h'⟩ := bind_some h
          clear h
          have h := h'; clear h'
          obtain ⟨b161, o162, hi160, -⟩ := hR111.ix hx159
          obtain ⟨v166, hc167, hR165⟩ := (hR111.at hx159 hi160).slice
          obtain ⟨a163, c164, rfl⟩ := hR165.isSl
          obtain ⟨r170, hx171, h'⟩ := bind_some h
          clear h
          have h := h'; clear h'
          obtain ⟨x175, hx176, h'⟩ := bind_some h
          clear h
          have h := h'; clear h'
          obtain ⟨b178, o179, hi177, -⟩ := hR111.ix hx176
          obtain ⟨v183, hc184, hR182⟩ := (hR111.at hx176 hi177).slice
          obtain ⟨a180, c181, rfl⟩ := hR182.isSl
          refine rg_monoL (σ := σ109) 22 [eqv (Sl a6 r2 c7), eqv (Sl a116 xs114 c117), (fun v σ => ∃ (a122 : Option Addr) (c123 : Nat), v = (Sl a122 r120 c123) ∧ RS σ109.size σ (Sl a122 r120 c123) r120), eqv (Sl a6 r2 c7), eqv (pt b128 o129), eqv (Sl a130 x125 c131), eqv (B r135), eqv (B r135), eqv (Sl a6 r2 c7), eqv (pt b141 o142), eqv (Sl a143 x138 c144), eqv (Sl a6 r2 c7), eqv (pt b151 o152), eqv (Sl a153 x148 c154), eqv (Sl a6 r2 c7), eqv (pt b161 o162), eqv (Sl a163 x158 c164), (fun v σ => ∃ (b168 : Nat), v = (Sl (some ⟨b168, 0, none⟩) ([x138, x148, x158] : List (List Int)) 3) ∧ RS σ0.size σ (Sl (some ⟨b168, 0, none⟩) ([x138, x148, x158] : List (List Int)) 3) ([x138, x148, x158] : List (List Int))), (fun v σ => ∃ (a172 : Option Addr) (c173 : Nat), v = (Sl a172 r170 c173) ∧ RS σ109.size σ (Sl a172 r170 c173) r170), eqv (Sl a6 r2 c7), eqv (pt b178 o179), eqv (Sl a180 x175 c181)] (by kernel_rfl) (by kernel_rfl) (mono_cons mono_eqv (mono_cons mono_eqv (mono_cons (fun _ _ _ ⟨a122, c123, h0, hR124⟩ m => ⟨a122, c123, h0, hR124.mod m⟩) (mono_cons mono_eqv (mono_cons mono_eqv (mono_cons mono_eqv (mono_cons mono_eqv (mono_cons mono_eqv (mono_cons mono_eqv (mono_cons mono_eqv (mono_cons mono_eqv (mono_cons mono_eqv (mono_cons mono_eqv (mono_cons mono_eqv (mono_cons mono_eqv (mono_cons mono_eqv (mono_cons mono_eqv (mono_cons (fun _ _ _ ⟨b168, h0, hR169⟩ m => ⟨b168, h0, hR169.mod m⟩) (mono_cons (fun _ _ _ ⟨a172, c173, h0, hR174⟩ m => ⟨a172, c173, h0, hR174.mod m⟩) (mono_cons mono_eqv (mono_cons mono_eqv (mono_cons mono_eqv (mono_nil))))))))))))))))))))))) ?_ ?_
          · refine all_cons (by
                intro ρ σm m hoff hdep
                have e3 : look 50 ρ 3 = (Sl a6 r2 c7) := look_off (hoff 3 rfl) rfl
                exact does_v (v := (Sl a6 r2 c7)) (wanted_none _ rfl _) (rv_move e3) rfl) ?_
            refine all_cons (by
                intro ρ σm m hoff hdep
                have e26 : look 50 ρ 26 = (Sl a6 r2 c7) := hdep 0 rfl rfl 26 rfl
                exact does_v (v := (Sl a116 xs114 c117)) (wanted_none _ rfl _) (rv_slice_h Try.underlying35 ti23 hs118 e26 rfl) rfl) ?_
            refine all_cons (by
                intro ρ σm m hoff hdep
                have e27 : look 50 ρ 27 = (Sl a116 xs114 c117) := hdep 1 rfl rfl 27 rfl
                replace hR119 := hR119.mod m
                have hKs : σ109.size ≤ σm.size := m.size
                exact does_call (wanted_none _ rfl _) (Cal.pub1 (Nat.le_refl _) (c_impl_MeanOf (hR119.low (Nat.zero_le _)) hx121)) (by show [look 50 ρ 27] = _; rw [e27]) (by rintro v σ2 m2 ⟨a122, c123, rfl, hR124⟩; exact ⟨a122, c123, rfl, hR124.low hKs⟩)) ?_
            refine all_cons (by
                intro ρ σm m hoff hdep
                have e3 : look 50 ρ 3 = (Sl a6 r2 c7) := look_off (hoff 3 rfl) rfl
                exact does_v (v := (Sl a6 r2 c7)) (wanted_none _ rfl _) (rv_move e3) rfl) ?_
            refine all_cons (by
                intro ρ σm m hoff hdep
                have e29 : look 50 ρ 29 = (Sl a6 r2 c7) := hdep 3 rfl rfl 29 rfl
                exact does_v (v := (pt b128 o129)) (wanted_none _ rfl _) (rv_ix Try.underlying35 ti23 e29 rfl hi127) rfl) ?_
            refine all_cons (by
                intro ρ σm m hoff hdep
                have e30 : look 50 ρ 30 = (pt b128 o129) := hdep 4 rfl rfl 30 rfl
                replace hc134 := hR111.hmod hx126 hi127 (k := 0) (by decide) hc134 m
                exact does_v (v := (Sl a130 x125 c131)) (wanted_none _ rfl _) (rv_load1 Try.underlying23 rfl e30 hc134) rfl) ?_
            refine all_cons (by
                intro ρ σm m hoff hdep
                obtain ⟨a122, c123, e28, hR124⟩ := hdep 2 rfl rfl 28 rfl
                have e31 : look 50 ρ 31 = (Sl a130 x125 c131) := hdep 5 rfl rfl 31 rfl
                replace hR132 := hR132.mod m
                have hKs : σ109.size ≤ σm.size := m.size
                exact does_call (wanted_none _ rfl _) (c_laws_equalInts (hR124.low (Nat.zero_le _)) (hR132.low (Nat.zero_le _)) hx136) (by show [look 50 ρ 28, look 50 ρ 31] = _; rw [e28, e31]) (by rintro v σ2 m2 rfl; exact rfl)) ?_
            refine all_cons (by
                intro ρ σm m hoff hdep
                have e32 : look 50 ρ 32 = (B r135) := hdep 6 rfl rfl 32 rfl
                exact does_v (v := (B r135)) (wanted_none _ rfl _) (rv_move e32) rfl) ?_
            refine all_cons (by
                intro ρ σm m hoff hdep
                have e3 : look 50 ρ 3 = (Sl a6 r2 c7) := look_off (hoff 3 rfl) rfl
                have e33 : look 50 ρ 33 = (B r135) := hdep 7 rfl rfl 33 rfl
                exact does_v (v := (Sl a6 r2 c7)) (wanted_yes rfl (yv_of rfl (e33.trans (congrArg B hb137)))) (rv_move e3) rfl) ?_
            refine all_cons (by
                intro ρ σm m hoff hdep
                have e34 : look 50 ρ 34 = (Sl a6 r2 c7) := hdep 8 rfl rfl 34 rfl
                have e33 : look 50 ρ 33 = (B r135) := hdep 7 rfl rfl 33 rfl
                exact does_v (v := (pt b141 o142)) (wanted_yes rfl (yv_of rfl (e33.trans (congrArg B hb137)))) (rv_ix Try.underlying35 ti23 e34 rfl hi140) rfl) ?_
            refine all_cons (by
                intro ρ σm m hoff hdep
                have e35 : look 50 ρ 35 = (pt b141 o142) := hdep 9 rfl rfl 35 rfl
                have e33 : look 50 ρ 33 = (B r135) := hdep 7 rfl rfl 33 rfl
                replace hc147 := hR111.hmod hx139 hi140 (k := 0) (by decide) hc147 m
                exact does_v (v := (Sl a143 x138 c144)) (wanted_yes rfl (yv_of rfl (e33.trans (congrArg B hb137)))) (rv_load1 Try.underlying23 rfl e35 hc147) rfl) ?_
            refine all_cons (by
                intro ρ σm m hoff hdep
                have e3 : look 50 ρ 3 = (Sl a6 r2 c7) := look_off (hoff 3 rfl) rfl
                have e33 : look 50 ρ 33 = (B r135) := hdep 7 rfl rfl 33 rfl
                exact does_v (v := (Sl a6 r2 c7)) (wanted_yes rfl (yv_of rfl (e33.trans (congrArg B hb137)))) (rv_move e3) rfl) ?_
            refine all_cons (by
                intro ρ σm m hoff hdep
                have e37 : look 50 ρ 37 = (Sl a6 r2 c7) := hdep 11 rfl rfl 37 rfl
                have e33 : look 50 ρ 33 = (B r135) := hdep 7 rfl rfl 33 rfl
                exact does_v (v := (pt b151 o152)) (wanted_yes rfl (yv_of rfl (e33.trans (congrArg B hb137)))) (rv_ix Try.underlying35 ti23 e37 rfl hi150) rfl) ?_
            refine all_cons (by
                intro ρ σm m hoff hdep
                have e38 : look 50 ρ 38 = (pt b151 o152) := hdep 12 rfl rfl 38 rfl
                have e33 : look 50 ρ 33 = (B r135) := hdep 7 rfl rfl 33 rfl
                replace hc157 := hR111.hmod hx149 hi150 (k := 0) (by decide) hc157 m
                exact does_v (v := (Sl a153 x148 c154)) (wanted_yes rfl (yv_of rfl (e33.trans (congrArg B hb137)))) (rv_load1 Try.underlying23 rfl e38 hc157) rfl) ?_
            refine all_cons (by
                intro ρ σm m hoff hdep
                have e3 : look 50 ρ 3 = (Sl a6 r2 c7) := look_off (hoff 3 rfl) rfl
                have e33 : look 50 ρ 33 = (B r135) := hdep 7 rfl rfl 33 rfl
                exact does_v (v := (Sl a6 r2 c7)) (wanted_yes rfl (yv_of rfl (e33.trans (congrArg B hb137)))) (rv_move e3) rfl) ?_
            refine all_cons (by
                intro ρ σm m hoff hdep
                have e40 : look 50 ρ 40 = (Sl a6 r2 c7) := hdep 14 rfl rfl 40 rfl
                have e33 : look 50 ρ 33 = (B r135) := hdep 7 rfl rfl 33 rfl
                exact does_v (v := (pt b161 o162)) (wanted_yes rfl (yv_of rfl (e33.trans (congrArg B hb137)))) (rv_ix Try.underlying35 ti23 e40 rfl hi160) rfl) ?_
            refine all_cons (by
                intro ρ σm m hoff hdep
                have e41 : look 50 ρ 41 = (pt b161 o162) := hdep 15 rfl rfl 41 rfl
                have e33 : look 50 ρ 33 = (B r135) := hdep 7 rfl rfl 33 rfl
                replace hc167 := hR111.hmod hx159 hi160 (k := 0) (by decide) hc167 m
                exact does_v (v := (Sl a163 x158 c164)) (wanted_yes rfl (yv_of rfl (e33.trans (congrArg B hb137)))) (rv_load1 Try.underlying23 rfl e41 hc167) rfl) ?_
            refine all_cons (by
                intro ρ σm m hoff hdep
                have e36 : look 50 ρ 36 = (Sl a143 x138 c144) := hdep 10 rfl rfl 36 rfl
                have e39 : look 50 ρ 39 = (Sl a153 x148 c154) := hdep 13 rfl rfl 39 rfl
                have e42 : look 50 ρ 42 = (Sl a163 x158 c164) := hdep 16 rfl rfl 42 rfl
                have e33 : look 50 ρ 33 = (B r135) := hdep 7 rfl rfl 33 rfl
                replace hR145 := hR145.mod m
                replace hR155 := hR155.mod m
                replace hR165 := hR165.mod m
                exact does_buildSliceP (el := σ0.size) (xs := ([x138, x148, x158] : List (List Int))) (ps := [(0, (Sl a143 x138 c144)), (1, (Sl a153 x148 c154)), (2, (Sl a163 x158 c164))]) (cs := [(Sl a143 x138 c144), (Sl a153 x148 c154), (Sl a163 x158 c164)]) (wanted_yes rfl (yv_of rfl (e33.trans (congrArg B hb137)))) Try.underlying35 ti23 rfl (by show [(0, look 50 ρ 36), (1, look 50 ρ 39), (2, look 50 ρ 42)] = _; rw [e36, e39, e42]) (by kernel_rfl) (.cons (c := [(Sl a143 x138 c144)]) ⟨_, rfl, hR145⟩ (.cons (c := [(Sl a153 x148 c154)]) ⟨_, rfl, hR155⟩ (.cons (c := [(Sl a163 x158 c164)]) ⟨_, rfl, hR165⟩ (.nil)))) rfl (Nat.le_trans hK.size m.size) (fun b168 σ2 m2 hR169 => ⟨b168, rfl, hR169⟩)) ?_
            refine all_cons (by
                intro ρ σm m hoff hdep
                obtain ⟨b168, e43, hR169⟩ := hdep 17 rfl rfl 43 rfl
                have e33 : look 50 ρ 33 = (B r135) := hdep 7 rfl rfl 33 rfl
                have hKs : σ109.size ≤ σm.size := m.size
                exact does_call (wanted_yes rfl (yv_of rfl (e33.trans (congrArg B hb137)))) (Cal.pub1 (Nat.le_refl _) (c_impl_MeanOf (hR169.low (Nat.zero_le _)) hx171)) (by show [look 50 ρ 43] = _; rw [e43]) (by rintro v σ2 m2 ⟨a172, c173, rfl, hR174⟩; exact ⟨a172, c173, rfl, hR174.low hKs⟩)) ?_
            refine all_cons (by
                intro ρ σm m hoff hdep
                have e3 : look 50 ρ 3 = (Sl a6 r2 c7) := look_off (hoff 3 rfl) rfl
                have e33 : look 50 ρ 33 = (B r135) := hdep 7 rfl rfl 33 rfl
                exact does_v (v := (Sl a6 r2 c7)) (wanted_yes rfl (yv_of rfl (e33.trans (congrArg B hb137)))) (rv_move e3) rfl) ?_
            refine all_cons (by
                intro ρ σm m hoff hdep
                have e45 : look 50 ρ 45 = (Sl a6 r2 c7) := hdep 19 rfl rfl 45 rfl
                have e33 : look 50 ρ 33 = (B r135) := hdep 7 rfl rfl 33 rfl
                exact does_v (v := (pt b178 o179)) (wanted_yes rfl (yv_of rfl (e33.trans (congrArg B hb137)))) (rv_ix Try.underlying35 ti23 e45 rfl hi177) rfl) ?_
            refine all_cons (by
                intro ρ σm m hoff hdep
                have e46 : look 50 ρ 46 = (pt b178 o179) := hdep 20 rfl rfl 46 rfl
                have e33 : look 50 ρ 33 = (B r135) := hdep 7 rfl rfl 33 rfl
                replace hc184 := hR111.hmod hx176 hi177 (k := 0) (by decide) hc184 m
                exact does_v (v := (Sl a180 x175 c181)) (wanted_yes rfl (yv_of rfl (e33.trans (congrArg B hb137)))) (rv_load1 Try.underlying23 rfl e46 hc184) rfl) ?_
            exact all_nil
          · intro ρ σ185 m hoff hrel
            have e33 : look 50 ρ 33 = (B r135) := hrel 7 rfl 33 rfl
            obtain ⟨a172, c173, e44, hR174⟩ := hrel 18 rfl 44 rfl
            have e47 : look 50 ρ 47 = (Sl a180 x175 c181) := hrel 21 rfl 47 rfl
            replace hR174 := hR174.low hK.size
            replace hR182 := hR182.mod m
            replace hK := hK.none m
            rw [fr_lookL (L := [(33, (B r135)), (44, (Sl a172 r170 c173)), (47, (Sl a180 x175 c181))]) ⟨e33, e44, e47, trivial⟩]
            clear hoff hrel m e33 e44 e47
            obtain ⟨r186, hx187, h'⟩ := bind_some h
            clear h
            have h := h'; clear h'
            refine st_call_g (by exact (congrArg some hb137)) (c_laws_equalInts (hR174.low (Nat.zero_le _)) (hR182.low (Nat.zero_le _)) hx187) rfl ?_
            have hKs := hK.size
            rintro _ σ188 m189 rfl
            replace hR174 := hR174.mod m189
            replace hR182 := hR182.mod m189
            replace hK := hK.none m189
            clear hKs m189
            refine st (v := (B r186)) (rv_pick_t (congrArg B hb137) rfl) ?_
            refine st (v := (B r186)) (rv_assign rfl) ?_
            refine w_end ?_
            refine q_then ?_
            refine c_ret ?_
            obtain rfl := Option.some.inj h
            exact bodyPost_ret (v := (B r186)) (results_fr1 Try.results10 rfl _) rfl ⟨_, σ188, rfl, rfl, hK, rfl⟩
        · replace h := bif_f hb137 h
          refine rg_monoL (σ := σ109) 22 [eqv (Sl a6 r2 c7), eqv (Sl a116 xs114 c117), (fun v σ => ∃ (a122 : Option Addr) (c123 : Nat), v = (Sl a122 r120 c123) ∧ RS σ109.size σ (Sl a122 r120 c123) r120), eqv (Sl a6 r2 c7), eqv (pt b128 o129), eqv (Sl a130 x125 c131), eqv (B r135), eqv (B r135), eqv undef, eqv undef, eqv undef, eqv undef, eqv undef, eqv undef, eqv undef, eqv undef, eqv undef, eqv undef, eqv undef, eqv undef, eqv undef, eqv undef] (by kernel_rfl) (by kernel_rfl) (mono_cons mono_eqv (mono_cons mono_eqv (mono_cons (fun _ _ _ ⟨a122, c123, h0, hR124⟩ m => ⟨a122, c123, h0, hR124.mod m⟩) (mono_cons mono_eqv (mono_cons mono_eqv (mono_cons mono_eqv (mono_cons mono_eqv (mono_cons mono_eqv (mono_cons mono_eqv (mono_cons mono_eqv (mono_cons mono_eqv (mono_cons mono_eqv (mono_cons mono_eqv (mono_cons mono_eqv (mono_cons mono_eqv (mono_cons mono_eqv (mono_cons mono_eqv (mono_cons mono_eqv (mono_cons mono_eqv (mono_cons mono_eqv (mono_cons mono_eqv (mono_cons mono_eqv (mono_nil))))))))))))))))))))))) ?_ ?_
          · refine all_cons (by
                intro ρ σm m hoff hdep
                have e3 : look 50 ρ 3 = (Sl a6 r2 c7) := look_off (hoff 3 rfl) rfl
                exact does_v (v := (Sl a6 r2 c7)) (wanted_none _ rfl _) (rv_move e3) rfl) ?_
            refine all_cons (by
                intro ρ σm m hoff hdep
                have e26 : look 50 ρ 26 = (Sl a6 r2 c7) := hdep 0 rfl rfl 26 rfl
                exact does_v (v := (Sl a116 xs114 c117)) (wanted_none _ rfl _) (rv_slice_h Try.underlying35 ti23 hs118 e26 rfl) rfl) ?_
            refine all_cons (by
                intro ρ σm m hoff hdep
                have e27 : look 50 ρ 27 = (Sl a116 xs114 c117) := hdep 1 rfl rfl 27 rfl
                replace hR119 := hR119.mod m
                have hKs : σ109.size ≤ σm.size := m.size
                exact does_call (wanted_none _ rfl _) (Cal.pub1 (Nat.le_refl _) (c_impl_MeanOf (hR119.low (Nat.zero_le _)) hx121)) (by show [look 50 ρ 27] = _; rw [e27]) (by rintro v σ2 m2 ⟨a122, c123, rfl, hR124⟩; exact ⟨a122, c123, rfl, hR124.low hKs⟩)) ?_
            refine all_cons (by
                intro ρ σm m hoff hdep
                have e3 : look 50 ρ 3 = (Sl a6 r2 c7) := look_off (hoff 3 rfl) rfl
                exact does_v (v := (Sl a6 r2 c7)) (wanted_none _ rfl _) (rv_move e3) rfl) ?_
            refine all_cons (by
                intro ρ σm m hoff hdep
                have e29 : look 50 ρ 29 = (Sl a6 r2 c7) := hdep 3 rfl rfl 29 rfl
                exact does_v (v := (pt b128 o129)) (wanted_none _ rfl _) (rv_ix Try.underlying35 ti23 e29 rfl hi127) rfl) ?_
            refine all_cons (by
                intro ρ σm m hoff hdep
                have e30 : look 50 ρ 30 = (pt b128 o129) := hdep 4 rfl rfl 30 rfl
                replace hc134 := hR111.hmod hx126 hi127 (k := 0) (by decide) hc134 m
                exact does_v (v := (Sl a130 x125 c131)) (wanted_none _ rfl _) (rv_load1 Try.underlying23 rfl e30 hc134) rfl) ?_
            refine all_cons (by
                intro ρ σm m hoff hdep
                obtain ⟨a122, c123, e28, hR124⟩ := hdep 2 rfl rfl 28 rfl
                have e31 : look 50 ρ 31 = (Sl a130 x125 c131) := hdep 5 rfl rfl 31 rfl
                replace hR132 := hR132.mod m
                have hKs : σ109.size ≤ σm.size := m.size
                exact does_call (wanted_none _ rfl _) (c_laws_equalInts (hR124.low (Nat.zero_le _)) (hR132.low (Nat.zero_le _)) hx136) (by show [look 50 ρ 28, look 50 ρ 31] = _; rw [e28, e31]) (by rintro v σ2 m2 rfl; exact rfl)) ?_
            refine all_cons (by
                intro ρ σm m hoff hdep
                have e32 : look 50 ρ 32 = (B r135) := hdep 6 rfl rfl 32 rfl
                exact does_v (v := (B r135)) (wanted_none _ rfl _) (rv_move e32) rfl) ?_
            refine all_cons (by
                intro ρ σm m hoff hdep
                have e33 : look 50 ρ 33 = (B r135) := hdep 7 rfl rfl 33 rfl
                exact does_skip (wanted_no rfl (yv_of rfl (e33.trans (congrArg B hb137)))) rfl) ?_
            refine all_cons (by
                intro ρ σm m hoff hdep
                have e33 : look 50 ρ 33 = (B r135) := hdep 7 rfl rfl 33 rfl
                exact does_skip (wanted_no rfl (yv_of rfl (e33.trans (congrArg B hb137)))) rfl) ?_
            refine all_cons (by
                intro ρ σm m hoff hdep
                have e33 : look 50 ρ 33 = (B r135) := hdep 7 rfl rfl 33 rfl
                exact does_skip (wanted_no rfl (yv_of rfl (e33.trans (congrArg B hb137)))) rfl) ?_
            refine all_cons (by
                intro ρ σm m hoff hdep
                have e33 : look 50 ρ 33 = (B r135) := hdep 7 rfl rfl 33 rfl
                exact does_skip (wanted_no rfl (yv_of rfl (e33.trans (congrArg B hb137)))) rfl) ?_
            refine all_cons (by
                intro ρ σm m hoff hdep
                have e33 : look 50 ρ 33 = (B r135) := hdep 7 rfl rfl 33 rfl
                exact does_skip (wanted_no rfl (yv_of rfl (e33.trans (congrArg B hb137)))) rfl) ?_
            refine all_cons (by
                intro ρ σm m hoff hdep
                have e33 : look 50 ρ 33 = (B r135) := hdep 7 rfl rfl 33 rfl
                exact does_skip (wanted_no rfl (yv_of rfl (e33.trans (congrArg B hb137)))) rfl) ?_
            refine all_cons (by
                intro ρ σm m hoff hdep
                have e33 : look 50 ρ 33 = (B r135) := hdep 7 rfl rfl 33 rfl
                exact does_skip (wanted_no rfl (yv_of rfl (e33.trans (congrArg B hb137)))) rfl) ?_
            refine all_cons (by
                intro ρ σm m hoff hdep
                have e33 : look 50 ρ 33 = (B r135) := hdep 7 rfl rfl 33 rfl
                exact does_skip (wanted_no rfl (yv_of rfl (e33.trans (congrArg B hb137)))) rfl) ?_
            refine all_cons (by
                intro ρ σm m hoff hdep
                have e33 : look 50 ρ 33 = (B r135) := hdep 7 rfl rfl 33 rfl
                exact does_skip (wanted_no rfl (yv_of rfl (e33.trans (congrArg B hb137)))) rfl) ?_
            refine all_cons (by
                intro ρ σm m hoff hdep
                have e33 : look 50 ρ 33 = (B r135) := hdep 7 rfl rfl 33 rfl
                exact does_skip (wanted_no rfl (yv_of rfl (e33.trans (congrArg B hb137)))) rfl) ?_
            refine all_cons (by
                intro ρ σm m hoff hdep
                have e33 : look 50 ρ 33 = (B r135) := hdep 7 rfl rfl 33 rfl
                exact does_skip (wanted_no rfl (yv_of rfl (e33.trans (congrArg B hb137)))) rfl) ?_
            refine all_cons (by
                intro ρ σm m hoff hdep
                have e33 : look 50 ρ 33 = (B r135) := hdep 7 rfl rfl 33 rfl
                exact does_skip (wanted_no rfl (yv_of rfl (e33.trans (congrArg B hb137)))) rfl) ?_
            refine all_cons (by
                intro ρ σm m hoff hdep
                have e33 : look 50 ρ 33 = (B r135) := hdep 7 rfl rfl 33 rfl
                exact does_skip (wanted_no rfl (yv_of rfl (e33.trans (congrArg B hb137)))) rfl) ?_
            refine all_cons (by
                intro ρ σm m hoff hdep
                have e33 : look 50 ρ 33 = (B r135) := hdep 7 rfl rfl 33 rfl
                exact does_skip (wanted_no rfl (yv_of rfl (e33.trans (congrArg B hb137)))) rfl) ?_
            exact all_nil
          · intro ρ σ190 m hoff hrel
            have e33 : look 50 ρ 33 = (B r135) := hrel 7 rfl 33 rfl
            have e44 : look 50 ρ 44 = undef := hrel 18 rfl 44 rfl
            have e47 : look 50 ρ 47 = undef := hrel 21 rfl 47 rfl
            replace hK := hK.none m
            rw [fr_lookL (L := [(33, (B r135)), (44, undef), (47, undef)]) ⟨e33, e44, e47, trivial⟩]
            clear hoff hrel m e33 e44 e47
            refine st_skip (congrArg some hb137) ?_
            refine st (v := (B false)) (rv_pick_f (congrArg B hb137) rfl) ?_
            refine st (v := (B false)) (rv_assign rfl) ?_
            refine w_end ?_
            refine q_then ?_
            refine c_ret ?_
            obtain rfl := Option.some.inj h
            exact bodyPost_ret (v := (B false)) (results_fr1 Try.results10 rfl _) rfl ⟨_, σ190, rfl, rfl, hK, rfl⟩

theorem c_spec_DrawMoveTo {σ0 : St} {code_0 : List UInt8} {acode_0 : Option Addr} {ccode_0 : Nat} (hRcode_0 : RS 0 σ0 (Sl acode_0 code_0 ccode_0) code_0) {r : (List Int) × (List Int) × Int} (h : M.spec_DrawMoveTo code_0 = some r) :
    Cal Try.prog 28 [(Sl acode_0 code_0 ccode_0)] none σ0 (fun v σ' => ∃ (a0 : Option Addr) (c0 : Nat), ∃ (a1 : Option Addr) (c1 : Nat), v = (.tuple #[(Sl a0 r.1 c0), (Sl a1 r.2.1 c1), (I r.2.2)]) ∧ Ow σ' σ0.size σ0.size (Sl a0 r.1 c0) r.1 ∧ Ow σ' σ0.size σ0.size (Sl a1 r.2.1 c1) r.2.1 ∧ Df (blk (Sl a1 r.2.1 c1)) (blk (Sl a0 r.1 c0))) := by
  refine ⟨⟨_, _, Try.func28, rfl, rfl⟩, ?_⟩
  refine enter (n := 19) Try.func28 rfl rfl rfl ?_
  unfold M.spec_DrawMoveTo at h
  have hK : Mod none σ0 σ0 := Mod.refl _ _
  refine c_seq ?_
  refine rg ?_
  refine st (v := (.slice none 0 0)) (rv_assign rfl) ?_
  refine st (v := (.slice none 0 0)) (rv_assign rfl) ?_
  refine st (v := (I 0)) (rv_assign rfl) ?_
  refine w_end ?_
  refine q_then ?_
  refine c_seq ?_
  refine rg ?_
  refine st (v := (Sl acode_0 code_0 ccode_0)) (rv_move rfl) ?_
  obtain ⟨r1, hx2, h'⟩ := bind_some h
  clear h
  have h := h'; clear h'
  refine st_call (c_spec_newReader hRcode_0 hx2) rfl ?_
  have hKs := hK.size
  rintro _ σ3 m4 ⟨b5, a8, c9, rfl, hR10, hge6, hB7⟩
  replace hRcode_0 := hRcode_0.mod m4
  replace hK := hK.none m4
  replace hge6 := Nat.le_trans hKs hge6
  clear hKs m4
  refine st (v := (pt b5 0)) (rv_assign rfl) ?_
  refine w_end ?_
  refine q_then ?_
  refine c_seq ?_
  refine rg ?_
  refine st (v := (pt b5 0)) (rv_move rfl) ?_
  obtain ⟨r11, hx12, h'⟩ := bind_some h
  clear h
  have h := h'; clear h'
  refine st_call (c_spec_anyVector hR10 hB7 hB7.lt hx12) rfl ?_
  have hd22 := hB7.ltb
  have hKs := hK.size
  rintro _ σ13 m14 ⟨a15, c16, a18, c19, rfl, hO17, hR20, hB21⟩
  replace hR10 := hR10.mod m14
  replace hK := hK.some m14 hge6
  have hO17g := hO17.ge
  replace hO17 := hO17.lo hKs
  replace hO17 := hO17.low' hKs
  have hd23 := Df.ge hd22 hO17g
  clear hKs m14 hO17g
  refine st (v := (Sl a15 r11.1 c16)) (rv_assign rfl) ?_
  refine w_end ?_
  refine q_then ?_
  refine c_seq ?_
  refine rg ?_
  refine st (v := (pt b5 0)) (rv_move rfl) ?_
  obtain ⟨r24, hx25, h'⟩ := bind_some h
  clear h
  have h := h'; clear h'
  refine st_call (c_spec_anyVector hR20 hB21 hB21.lt hx25) rfl ?_
  have hd35 := hO17.ltb
  have hd36 := hB21.ltb
  have hKs := hK.size
  rintro _ σ26 m27 ⟨a28, c29, a31, c32, rfl, hO30, hR33, hB34⟩
  replace hR20 := hR20.mod m27
  replace hO17 := hO17.mod' m27 (by first | exact (hd23).symm | exact Df.reL (hd23).symm)
  replace hK := hK.some m27 hge6
  have hO30g := hO30.ge
  replace hO30 := hO30.lo hKs
  replace hO30 := hO30.low' hKs
  have hd37 := Df.ge hd35 hO30g
  have hd38 := Df.ge hd36 hO30g
  clear hKs m27 hO30g
  refine st (v := (Sl a28 r24.1 c29)) (rv_assign rfl) ?_
  refine w_end ?_
  refine q_then ?_
  refine c_seq ?_
  refine rg ?_
  refine st (v := (Sl a15 r11.1 c16)) (rv_move rfl) ?_
  refine st (v := (Sl a28 r24.1 c29)) (rv_move rfl) ?_
  refine st (v := (pt b5 0)) (rv_move rfl) ?_
  refine st_buildSlice (lo := σ0.size) (el := σ0.size) (xs := ([0, 500, 1000, 333, 1, 1001, -1] : List Int)) (ps := [(0, (I 0)), (1, (I 500)), (2, (I 1000)), (3, (I 333)), (4, (I 1)), (5, (I 1001)), (6, (I (-1)))]) (cs := [(I 0), (I 500), (I 1000), (I 333), (I 1), (I 1001), (I (-1))]) Try.underlying23 ti3 rfl rfl (by kernel_rfl) (.cons (c := [(I 0)]) rfl (.cons (c := [(I 500)]) rfl (.cons (c := [(I 1000)]) rfl (.cons (c := [(I 333)]) rfl (.cons (c := [(I 1)]) rfl (.cons (c := [(I 1001)]) rfl (.cons (c := [(I (-1))]) rfl (.nil)))))))) rfl ?_ hK.size (wanted_none _ rfl _)
  intro b40 σ41 hbn43 m42 hO39
  have hd44 := hO17.df' hbn43
  have hd45 := hO30.df' hbn43
  have hd46 := hB34.df' hbn43
  replace hO17 := hO17.mod0 m42
  replace hO30 := hO30.mod0 m42
  replace hR33 := hR33.mod m42
  replace hB34 := hB34.mod0 m42
  replace hK := hK.none m42
  clear hbn43 m42
  have hg51 := hO39.ge
  obtain ⟨σ47, hw50, m48, hR49⟩ := hO39.pub' (Nat.le_refl _)
  rw [← hw50]; clear hw50
  replace hO17 := hO17.mod' m48 (by first | exact hd44 | exact Df.re hd44)
  replace hO30 := hO30.mod' m48 (by first | exact hd45 | exact Df.re hd45)
  replace hR33 := hR33.mod m48
  replace hB34 := hB34.mod' m48 (by first | exact hd46 | exact Df.reR hd46)
  replace hK := hK.own m48 hg51
  obtain ⟨r52, hx53, h'⟩ := bind_some h
  clear h
  have h := h'; clear h'
  refine st_call (c_spec_reader_one hR33 hB34 hB34.lt (hR49.low (Nat.zero_le _)) hx53) rfl ?_
  have hd60 := hO17.ltb
  have hd61 := hO30.ltb
  have hd62 := hB34.ltb
  have hKs := hK.size
  rintro _ σ54 m55 ⟨a56, c57, rfl, hR58, hB59⟩
  replace hO17 := hO17.mod' m55 (by first | exact (hd23).symm | exact Df.reL (hd23).symm)
  replace hO30 := hO30.mod' m55 (by first | exact (hd38).symm | exact Df.reL (hd38).symm)
  replace hR33 := hR33.mod m55
  replace hR49 := hR49.mod m55
  replace hK := hK.some m55 hge6
  clear hKs m55
  refine st (v := (Sl a15 r11.1 c16)) (rv_assign rfl) ?_
  refine st (v := (Sl a28 r24.1 c29)) (rv_assign rfl) ?_
  refine st (v := (I r52.1)) (rv_assign rfl) ?_
  refine w_end ?_
  refine q_then ?_
  refine c_ret ?_
  obtain rfl := Option.some.inj h
  exact bodyPost_ret (v := (.tuple #[(Sl a15 r11.1 c16), (Sl a28 r24.1 c29), (I r52.1)])) (results_fr3 Try.results28 rfl rfl rfl _) rfl ⟨_, σ54, rfl, rfl, hK, a15, c16, a28, c29, rfl, hO17, hO30, (by first | exact (hd37).symm | exact Df.re (hd37).symm)⟩

theorem c_impl_MoveTo {σ0 : St} {a_0 : List Int} {b_1 : List Int} {part_2 : Int} {aa_0 : Option Addr} {ca_0 : Nat} (hRa_0 : RS 0 σ0 (Sl aa_0 a_0 ca_0) a_0) {ab_1 : Option Addr} {cb_1 : Nat} (hRb_1 : RS 0 σ0 (Sl ab_1 b_1 cb_1) b_1) {r : (List Int)} (h : M.impl_MoveTo a_0 b_1 part_2 = some r) :
    Cal Try.prog 29 [(Sl aa_0 a_0 ca_0), (Sl ab_1 b_1 cb_1), (I part_2)] none σ0 (fun v σ' => ∃ (a0 : Option Addr) (c0 : Nat), v = (Sl a0 r c0) ∧ Ow σ' σ0.size σ0.size (Sl a0 r c0) r) := by
  refine ⟨⟨_, _, Try.func29, rfl, rfl⟩, ?_⟩
  refine enter (n := 49) Try.func29 rfl rfl rfl ?_
  unfold M.impl_MoveTo at h
  have hK : Mod none σ0 σ0 := Mod.refl _ _
  refine c_seq ?_
  refine rg ?_
  refine st (v := (.slice none 0 0)) (rv_assign rfl) ?_
  refine w_end ?_
  refine q_then ?_
  refine c_seq ?_
  refine c_seq ?_
  obtain ⟨o1, hj, h'⟩ := bind_some h
  clear h
  refine c_cut (fun e a w => e = .normal ∧ ∃ (ρ : Nat → Value) (σ : St), a = fr 49 (updL ρ [(0, (Sl aa_0 a_0 ca_0)), (1, (Sl ab_1 b_1 cb_1)), (2, (I part_2)), (24, (B o1))]) ∧ w = σ.w ∧ Mod none σ0 σ ∧ RS 0 σ (Sl aa_0 a_0 ca_0) a_0 ∧ RS 0 σ (Sl ab_1 b_1 cb_1) b_1) ?_ ?_
  · clear h'
    rename _ = some o1 => h
    refine rg ?_
    refine st (v := (Sl aa_0 a_0 ca_0)) (rv_move rfl) ?_
    obtain ⟨r2, hx3, h'⟩ := bind_some h
    clear h
    have h := h'; clear h'
    refine st_call (c_impl_ValidVector hRa_0 hx3) rfl ?_
    have hKs := hK.size
    rintro _ σ4 m5 rfl
    replace hRa_0 := hRa_0.mod m5
    replace hRb_1 := hRb_1.mod m5
    replace hK := hK.none m5
    clear hKs m5
    refine st (v := (B (!r2))) (rv_not rfl) ?_
    refine st (v := (B (!r2))) (rv_move rfl) ?_
    rcases Bool.eq_false_or_eq_true (!r2) with hb6 | hb6
    · replace h := bif_t hb6 h
      refine st_skip (congrArg some hb6) ?_
      refine st_skip (congrArg some hb6) ?_
      refine st_skip (congrArg some hb6) ?_
      refine st (v := (B true)) (rv_pick_t (congrArg B hb6) rfl) ?_
      refine st (v := (B true)) (rv_move rfl) ?_
      refine st_skip rfl ?_
      refine st_skip rfl ?_
      refine st (v := (B true)) (rv_pick_t rfl rfl) ?_
      refine st (v := (B true)) (rv_move rfl) ?_
      refine st_skip rfl ?_
      refine st_skip rfl ?_
      refine st (v := (B true)) (rv_pick_t rfl rfl) ?_
      refine w_end ?_
      obtain rfl := Option.some.inj h
      exact ⟨rfl, _, σ4, fr_join ⟨rfl, rfl, rfl, rfl, trivial⟩, rfl, hK, hRa_0, hRb_1⟩
    · replace h := bif_f hb6 h
      refine st_g (v := (Sl ab_1 b_1 cb_1)) (congrArg some hb6) (rv_move rfl) ?_
      obtain ⟨r7, hx8, h'⟩ := bind_some h
      clear h
      have h := h'; clear h'
      refine st_call_g (by exact (congrArg some hb6)) (c_impl_ValidVector hRb_1 hx8) rfl ?_
      have hKs := hK.size
      rintro _ σ9 m10 rfl
      replace hRa_0 := hRa_0.mod m10
      replace hRb_1 := hRb_1.mod m10
      replace hK := hK.none m10
      clear hKs m10
      refine st_g (v := (B (!r7))) (congrArg some hb6) (rv_not rfl) ?_
      refine st (v := (B (!r7))) (rv_pick_f (congrArg B hb6) rfl) ?_
      refine st (v := (B (!r7))) (rv_move rfl) ?_
      rcases Bool.eq_false_or_eq_true (!r7) with hb11 | hb11
      · replace h := bif_t hb11 h
        refine st_skip (congrArg some hb11) ?_
        refine st_skip (congrArg some hb11) ?_
        refine st (v := (B true)) (rv_pick_t (congrArg B hb11) rfl) ?_
        refine st (v := (B true)) (rv_move rfl) ?_
        refine st_skip rfl ?_
        refine st_skip rfl ?_
        refine st (v := (B true)) (rv_pick_t rfl rfl) ?_
        refine w_end ?_
        obtain rfl := Option.some.inj h
        exact ⟨rfl, _, σ9, fr_join ⟨rfl, rfl, rfl, rfl, trivial⟩, rfl, hK, hRa_0, hRb_1⟩
      · replace h := bif_f hb11 h
        refine st_g (v := (I part_2)) (congrArg some hb11) (rv_move rfl) ?_
        refine st_g (v := (B (decide (part_2 < 0)))) (congrArg some hb11) (rv_lss (a := part_2) (b := 0) rfl rfl) ?_
        refine st (v := (B (decide (part_2 < 0)))) (rv_pick_f (congrArg B hb11) rfl) ?_
        refine st (v := (B (decide (part_2 < 0)))) (rv_move rfl) ?_
        rcases Bool.eq_false_or_eq_true (decide (part_2 < 0)) with hb12 | hb12
        · replace h := bif_t hb12 h
          refine st_skip (congrArg some hb12) ?_
          refine st_skip (congrArg some hb12) ?_
          refine st (v := (B true)) (rv_pick_t (congrArg B hb12) rfl) ?_
          refine w_end ?_
          obtain rfl := Option.some.inj h
          exact ⟨rfl, _, σ9, fr_join ⟨rfl, rfl, rfl, rfl, trivial⟩, rfl, hK, hRa_0, hRb_1⟩
        · replace h := bif_f hb12 h
          refine st_g (v := (I part_2)) (congrArg some hb12) (rv_move rfl) ?_
          refine st_g (v := (B (decide (1000 < part_2)))) (congrArg some hb12) (rv_gtr (a := part_2) (b := 1000) rfl rfl) ?_
          refine st (v := (B (decide (1000 < part_2)))) (rv_pick_f (congrArg B hb12) rfl) ?_
          refine w_end ?_
          obtain rfl := Option.some.inj h
          exact ⟨rfl, _, σ9, fr_join ⟨rfl, rfl, rfl, rfl, trivial⟩, rfl, hK, hRa_0, hRb_1⟩
  · clear hj
    have h := h'
    clear h'
    rintro e a w ⟨rfl, ρ, σ13, rfl, rfl, hK, hR14, hR15⟩
    refine q_then ?_
    refine cd_cond o1 rfl (fun hb16 => ?_) (fun hb16 => ?_)
    · replace h := bif_t hb16 h
      refine c_seq ?_
      refine rg ?_
      refine st (v := (.slice none 0 0)) (rv_assign rfl) ?_
      refine w_end ?_
      refine q_then ?_
      refine c_ret ?_
      refine q_then_r ?_
      obtain rfl := Option.some.inj h
      exact bodyPost_ret (v := (.slice none 0 0)) (results_fr1 Try.results29 rfl _) rfl ⟨_, σ13, rfl, rfl, hK, none, 0, rfl, Ow.nil⟩
    · replace h := bif_f hb16 h
      refine c_skip ?_
      refine q_then ?_
      refine c_seq ?_
      refine rg ?_
      refine st_alloc (cs := (List.map I (List.replicate 4 0))) ti60 rfl ?_ (wanted_none _ rfl _)
      intro b18 σ20 hbn22 m21 hB17
      have hge19 := Nat.le_trans hK.size (Nat.le_of_eq hbn22)
      replace hR14 := hR14.mod m21
      replace hR15 := hR15.mod m21
      replace hK := hK.none m21
      clear hbn22 m21
      refine w_end ?_
      refine q_then ?_
      refine c_seq ?_
      refine c_seq ?_
      refine rg ?_
      refine st (v := (I 0)) (rv_move rfl) ?_
      refine w_end ?_
      refine q_then ?_
      obtain ⟨o23, hj, h'⟩ := bind_some h
      clear h
      refine c_cut (fun e a w => e = .normal ∧ ∃ (ρ : Nat → Value) (σ : St), a = fr 49 (updL ρ [(7, (pt b18 0))]) ∧ w = σ.w ∧ Mod none σ0 σ ∧ o23.length = 4 ∧ Bx σ b18 (List.map I o23)) ?_ ?_
      · clear h'
        rename _ = some o23 => h
        refine c_blk ?_
        refine wp_loopM _ h (fun s24 a w => ∃ (ρ : Nat → Value) (σ : St), a = fr 49 (updL ρ [(0, (Sl aa_0 a_0 ca_0)), (1, (Sl ab_1 b_1 cb_1)), (2, (I part_2)), (7, (pt b18 0)), (25, (I s24.2))]) ∧ w = σ.w ∧ Mod none σ0 σ ∧ RS 0 σ (Sl aa_0 a_0 ca_0) a_0 ∧ RS 0 σ (Sl ab_1 b_1 cb_1) b_1 ∧ s24.1.length = 4 ∧ Bx σ b18 (List.map I s24.1)) ⟨_, σ20, fr_join ⟨rfl, rfl, rfl, rfl, rfl, trivial⟩, rfl, hK, hR14, hR15, rfl, hB17⟩ ?_
        clear h
        rintro s24 a w o ⟨ρ, σ26, rfl, rfl, hK, hR27, hR28, hl29, hB30⟩ h hres
        refine c_seq ?_
        refine rg ?_
        refine st (v := (B (decide (s24.2 < 4)))) (rv_lss (a := s24.2) (b := 4) rfl rfl) ?_
        refine w_end ?_
        refine q_then ?_
        refine c_seq ?_
        refine cd_cond (decide (s24.2 < 4)) rfl (fun hb31 => ?_) (fun hb31 => ?_)
        · replace h := bif_t hb31 h
          refine c_skip ?_
          refine q_then ?_
          refine c_seq ?_
          refine c_blk ?_
          refine c_seq ?_
          refine rg ?_
          refine st (v := (I s24.2)) (rv_move rfl) ?_
          refine st (v := (I s24.2)) (rv_assign rfl) ?_
          refine w_end ?_
          refine q_then ?_
          obtain ⟨x32, hx33, h'⟩ := bind_some h
          clear h
          have h := h'; clear h'
          obtain ⟨b35, o36, hi34, -⟩ := hR27.ix hx33
          obtain ⟨x37, hx38, h'⟩ := bind_some h
          clear h
          have h := h'; clear h'
          obtain ⟨b40, o41, hi39, -⟩ := hR28.ix hx38
          obtain ⟨x42, hx43, h'⟩ := bind_some h
          clear h
          have h := h'; clear h'
          obtain ⟨b45, o46, hi44, -⟩ := hR27.ix hx43
          obtain ⟨r47, hx48, h'⟩ := bind_some h
          clear h
          have h := h'; clear h'
          refine rg_monoL (σ := σ26) 18 [eqv (I s24.2), eqv (Sl aa_0 a_0 ca_0), eqv (I s24.2), eqv (pt b35 o36), eqv (I x32), eqv (Sl ab_1 b_1 cb_1), eqv (I s24.2), eqv (pt b40 o41), eqv (I x37), eqv (Sl aa_0 a_0 ca_0), eqv (I s24.2), eqv (pt b45 o46), eqv (I x42), eqv (I (w64 (x37 - x42))), eqv (I part_2), eqv (I (w64 ((w64 (x37 - x42)) * part_2))), eqv (I r47), eqv (I (w64 (x32 + r47)))] (by kernel_rfl) (by kernel_rfl) (mono_cons mono_eqv (mono_cons mono_eqv (mono_cons mono_eqv (mono_cons mono_eqv (mono_cons mono_eqv (mono_cons mono_eqv (mono_cons mono_eqv (mono_cons mono_eqv (mono_cons mono_eqv (mono_cons mono_eqv (mono_cons mono_eqv (mono_cons mono_eqv (mono_cons mono_eqv (mono_cons mono_eqv (mono_cons mono_eqv (mono_cons mono_eqv (mono_cons mono_eqv (mono_cons mono_eqv (mono_nil))))))))))))))))))) ?_ ?_
          · refine all_cons (by
                intro ρ σm m hoff hdep
                have e8 : look 49 ρ 8 = (I s24.2) := look_off (hoff 8 rfl) rfl
                exact does_v (v := (I s24.2)) (wanted_none _ rfl _) (rv_move e8) rfl) ?_
            refine all_cons (by
                intro ρ σm m hoff hdep
                have e0 : look 49 ρ 0 = (Sl aa_0 a_0 ca_0) := look_off (hoff 0 rfl) rfl
                exact does_v (v := (Sl aa_0 a_0 ca_0)) (wanted_none _ rfl _) (rv_move e0) rfl) ?_
            refine all_cons (by
                intro ρ σm m hoff hdep
                have e8 : look 49 ρ 8 = (I s24.2) := look_off (hoff 8 rfl) rfl
                exact does_v (v := (I s24.2)) (wanted_none _ rfl _) (rv_move e8) rfl) ?_
            refine all_cons (by
                intro ρ σm m hoff hdep
                have e29 : look 49 ρ 29 = (Sl aa_0 a_0 ca_0) := hdep 1 rfl rfl 29 rfl
                have e30 : look 49 ρ 30 = (I s24.2) := hdep 2 rfl rfl 30 rfl
                exact does_v (v := (pt b35 o36)) (wanted_none _ rfl _) (rv_ix Try.underlying23 ti3 e29 e30 hi34) rfl) ?_
            refine all_cons (by
                intro ρ σm m hoff hdep
                have e31 : look 49 ρ 31 = (pt b35 o36) := hdep 3 rfl rfl 31 rfl
                replace hR27 := hR27.mod m
                exact does_v (v := (I x32)) (wanted_none _ rfl _) (rv_load1 Try.underlying3 rfl e31 (hR27.at hx33 hi34).int) rfl) ?_
            refine all_cons (by
                intro ρ σm m hoff hdep
                have e1 : look 49 ρ 1 = (Sl ab_1 b_1 cb_1) := look_off (hoff 1 rfl) rfl
                exact does_v (v := (Sl ab_1 b_1 cb_1)) (wanted_none _ rfl _) (rv_move e1) rfl) ?_
            refine all_cons (by
                intro ρ σm m hoff hdep
                have e8 : look 49 ρ 8 = (I s24.2) := look_off (hoff 8 rfl) rfl
                exact does_v (v := (I s24.2)) (wanted_none _ rfl _) (rv_move e8) rfl) ?_
            refine all_cons (by
                intro ρ σm m hoff hdep
                have e33 : look 49 ρ 33 = (Sl ab_1 b_1 cb_1) := hdep 5 rfl rfl 33 rfl
                have e34 : look 49 ρ 34 = (I s24.2) := hdep 6 rfl rfl 34 rfl
                exact does_v (v := (pt b40 o41)) (wanted_none _ rfl _) (rv_ix Try.underlying23 ti3 e33 e34 hi39) rfl) ?_
            refine all_cons (by
                intro ρ σm m hoff hdep
                have e35 : look 49 ρ 35 = (pt b40 o41) := hdep 7 rfl rfl 35 rfl
                replace hR28 := hR28.mod m
                exact does_v (v := (I x37)) (wanted_none _ rfl _) (rv_load1 Try.underlying3 rfl e35 (hR28.at hx38 hi39).int) rfl) ?_
            refine all_cons (by
                intro ρ σm m hoff hdep
                have e0 : look 49 ρ 0 = (Sl aa_0 a_0 ca_0) := look_off (hoff 0 rfl) rfl
                exact does_v (v := (Sl aa_0 a_0 ca_0)) (wanted_none _ rfl _) (rv_move e0) rfl) ?_
            refine all_cons (by
                intro ρ σm m hoff hdep
                have e8 : look 49 ρ 8 = (I s24.2) := look_off (hoff 8 rfl) rfl
                exact does_v (v := (I s24.2)) (wanted_none _ rfl _) (rv_move e8) rfl) ?_
            refine all_cons (by
                intro ρ σm m hoff hdep
                have e37 : look 49 ρ 37 = (Sl aa_0 a_0 ca_0) := hdep 9 rfl rfl 37 rfl
                have e38 : look 49 ρ 38 = (I s24.2) := hdep 10 rfl rfl 38 rfl
                exact does_v (v := (pt b45 o46)) (wanted_none _ rfl _) (rv_ix Try.underlying23 ti3 e37 e38 hi44) rfl) ?_
            refine all_cons (by
                intro ρ σm m hoff hdep
                have e39 : look 49 ρ 39 = (pt b45 o46) := hdep 11 rfl rfl 39 rfl
                replace hR27 := hR27.mod m
                exact does_v (v := (I x42)) (wanted_none _ rfl _) (rv_load1 Try.underlying3 rfl e39 (hR27.at hx43 hi44).int) rfl) ?_
            refine all_cons (by
                intro ρ σm m hoff hdep
                have e36 : look 49 ρ 36 = (I x37) := hdep 8 rfl rfl 36 rfl
                have e40 : look 49 ρ 40 = (I x42) := hdep 12 rfl rfl 40 rfl
                exact does_v (v := (I (w64 (x37 - x42)))) (wanted_none _ rfl _) (rv_sub (a := x37) (b := x42) e36 e40) rfl) ?_
            refine all_cons (by
                intro ρ σm m hoff hdep
                have e2 : look 49 ρ 2 = (I part_2) := look_off (hoff 2 rfl) rfl
                exact does_v (v := (I part_2)) (wanted_none _ rfl _) (rv_move e2) rfl) ?_
            refine all_cons (by
                intro ρ σm m hoff hdep
                have e41 : look 49 ρ 41 = (I (w64 (x37 - x42))) := hdep 13 rfl rfl 41 rfl
                have e42 : look 49 ρ 42 = (I part_2) := hdep 14 rfl rfl 42 rfl
                exact does_v (v := (I (w64 ((w64 (x37 - x42)) * part_2)))) (wanted_none _ rfl _) (rv_mul (a := (w64 (x37 - x42))) (b := part_2) e41 e42) rfl) ?_
            refine all_cons (by
                intro ρ σm m hoff hdep
                have e43 : look 49 ρ 43 = (I (w64 ((w64 (x37 - x42)) * part_2))) := hdep 15 rfl rfl 43 rfl
                have hKs : σ26.size ≤ σm.size := m.size
                exact does_call (wanted_none _ rfl _) (c_impl_divideDown  hx48) (by show [look 49 ρ 43, (I 1000)] = _; rw [e43]) (by rintro v σ2 m2 rfl; exact rfl)) ?_
            refine all_cons (by
                intro ρ σm m hoff hdep
                have e32 : look 49 ρ 32 = (I x32) := hdep 4 rfl rfl 32 rfl
                have e44 : look 49 ρ 44 = (I r47) := hdep 16 rfl rfl 44 rfl
                exact does_v (v := (I (w64 (x32 + r47)))) (wanted_none _ rfl _) (rv_add (a := x32) (b := r47) e32 e44) rfl) ?_
            exact all_nil
          · intro ρ σ49 m hoff hrel
            have e0 : look 49 ρ 0 = (Sl aa_0 a_0 ca_0) := look_off (hoff 0 rfl) rfl
            have e1 : look 49 ρ 1 = (Sl ab_1 b_1 cb_1) := look_off (hoff 1 rfl) rfl
            have e2 : look 49 ρ 2 = (I part_2) := look_off (hoff 2 rfl) rfl
            have e7 : look 49 ρ 7 = (pt b18 0) := look_off (hoff 7 rfl) rfl
            have e25 : look 49 ρ 25 = (I s24.2) := look_off (hoff 25 rfl) rfl
            have e28 : look 49 ρ 28 = (I s24.2) := hrel 0 rfl 28 rfl
            have e45 : look 49 ρ 45 = (I (w64 (x32 + r47))) := hrel 17 rfl 45 rfl
            replace hR27 := hR27.mod m
            replace hR28 := hR28.mod m
            replace hB30 := hB30.mod0 m
            replace hK := hK.none m
            rw [fr_lookL (L := [(0, (Sl aa_0 a_0 ca_0)), (1, (Sl ab_1 b_1 cb_1)), (2, (I part_2)), (7, (pt b18 0)), (25, (I s24.2)), (28, (I s24.2)), (45, (I (w64 (x32 + r47))))]) ⟨e0, e1, e2, e7, e25, e28, e45, trivial⟩]
            clear hoff hrel m e0 e1 e2 e7 e25 e28 e45
            obtain ⟨x50, hx51, h'⟩ := bind_some h
            clear h
            have h := h'; clear h'
            have hl52 := gidx_lt hx51 hl29
            refine st (v := (pt b18 (0 + s24.2.toNat * 1))) (rv_indexAddr_array Try.underlying60 ti3 rfl rfl hl52.1 hl52.2) ?_
            have hl57 := gidx_lt hx51 hl29
            refine st_store_box (vs := [(I (w64 (x32 + r47)))]) ti3 hB30 rfl rfl rfl rfl (by rw [List.length_map, hl29]; simp; omega) (by simp [plain]) ?_
            intro σ53 m54 hB56 hs55; clear hs55
            replace hR27 := hR27.mod m54
            replace hR28 := hR28.mod m54
            replace hK := hK.some m54 hge19
            replace hB56 := Bx.cast (cs' := (List.map I (s24.1.set s24.2.toNat (w64 (x32 + r47))))) hB56 (arr_set _ _ _)
            clear hB30
            refine w_end ?_
            refine q_blk ?_
            refine q_then ?_
            refine rg ?_
            refine st (v := (I (w64 (s24.2 + 1)))) (rv_add (a := s24.2) (b := 1) rfl rfl) ?_
            refine st (v := (I (w64 (s24.2 + 1)))) (rv_move rfl) ?_
            refine w_end ?_
            refine q_then ?_
            obtain rfl := Option.some.inj h
            exact ⟨_, rfl, _, σ53, fr_join ⟨rfl, rfl, rfl, rfl, rfl, trivial⟩, rfl, hK, hR27, hR28, (set_len hl29), hB56⟩
        · replace h := bif_f hb31 h
          refine c_exit ?_
          refine q_then_x ?_
          refine q_then_x ?_
          refine q_blk_hit ?_
          obtain rfl := Option.some.inj h
          obtain rfl := hres _ rfl
          exact ⟨rfl, _, σ26, fr_join ⟨rfl, trivial⟩, rfl, hK, hl29, hB30⟩
      · clear hj
        have h := h'
        clear h'
        rintro e a w ⟨rfl, ρ, σ58, rfl, rfl, hK, hl59, hB60⟩
        refine q_then ?_
        refine c_seq ?_
        refine rg ?_
        have hO61 := bx_arr (el := σ0.size) hB60 hge19 hl59
        refine st (v := (Sl (some ⟨b18, 0, none⟩) o23 4)) (rv_slice_arrL Try.underlying60 ti3 (by decide) rfl hl59) ?_
        refine st (v := (Sl (some ⟨b18, 0, none⟩) o23 4)) (rv_assign rfl) ?_
        refine w_end ?_
        refine q_then ?_
        refine c_ret ?_
        obtain rfl := Option.some.inj h
        exact bodyPost_ret (v := (Sl (some ⟨b18, 0, none⟩) o23 4)) (results_fr1 Try.results29 rfl _) rfl ⟨_, σ58, rfl, rfl, hK, (some ⟨b18, 0, none⟩), 4, rfl, hO61⟩

theorem c_spec_MoveTo {σ0 : St} {a_0 : List Int} {b_1 : List Int} {part_2 : Int} {aa_0 : Option Addr} {ca_0 : Nat} (hRa_0 : RS 0 σ0 (Sl aa_0 a_0 ca_0) a_0) {ab_1 : Option Addr} {cb_1 : Nat} (hRb_1 : RS 0 σ0 (Sl ab_1 b_1 cb_1) b_1) {r : (List Int)} (h : M.spec_MoveTo a_0 b_1 part_2 = some r) :
    Cal Try.prog 30 [(Sl aa_0 a_0 ca_0), (Sl ab_1 b_1 cb_1), (I part_2)] none σ0 (fun v σ' => ∃ (a0 : Option Addr) (c0 : Nat), v = (Sl a0 r c0) ∧ Ow σ' σ0.size σ0.size (Sl a0 r c0) r) := by
  refine ⟨⟨_, _, Try.func30, rfl, rfl⟩, ?_⟩
  refine enter (n := 48) Try.func30 rfl rfl rfl ?_
  unfold M.spec_MoveTo at h
  have hK : Mod none σ0 σ0 := Mod.refl _ _
  refine c_seq ?_
  refine rg ?_
  refine st (v := (.slice none 0 0)) (rv_assign rfl) ?_
  refine w_end ?_
  refine q_then ?_
  refine c_seq ?_
  refine rg ?_
  refine st_buildSlice (lo := σ0.size) (el := σ0.size) (xs := ([] : List Int)) (ps := []) (cs := []) Try.underlying23 ti3 rfl rfl (by kernel_rfl) (.nil) rfl ?_ hK.size (wanted_none _ rfl _)
  intro b2 σ3 hbn5 m4 hO1
  replace hRa_0 := hRa_0.mod m4
  replace hRb_1 := hRb_1.mod m4
  replace hK := hK.none m4
  clear hbn5 m4
  refine st (v := (Sl (some ⟨b2, 0, none⟩) ([] : List Int) 0)) (rv_assign rfl) ?_
  refine w_end ?_
  refine q_then ?_
  refine c_seq ?_
  refine c_seq ?_
  obtain ⟨o6, hj, h'⟩ := bind_some h
  clear h
  refine c_cut (fun e a w => e = .normal ∧ ∃ (ρ : Nat → Value) (σ : St), a = fr 48 (updL ρ [(0, (Sl aa_0 a_0 ca_0)), (1, (Sl ab_1 b_1 cb_1)), (2, (I part_2)), (7, (Sl (some ⟨b2, 0, none⟩) ([] : List Int) 0)), (22, (B o6))]) ∧ w = σ.w ∧ Mod none σ0 σ ∧ RS 0 σ (Sl aa_0 a_0 ca_0) a_0 ∧ RS 0 σ (Sl ab_1 b_1 cb_1) b_1 ∧ Ow σ σ0.size σ0.size (Sl (some ⟨b2, 0, none⟩) ([] : List Int) 0) ([] : List Int)) ?_ ?_
  · clear h'
    rename _ = some o6 => h
    refine rg ?_
    refine st (v := (Sl aa_0 a_0 ca_0)) (rv_move rfl) ?_
    obtain ⟨r7, hx8, h'⟩ := bind_some h
    clear h
    have h := h'; clear h'
    refine st_call (c_spec_isVector hRa_0 hx8) rfl ?_
    have hd11 := hO1.ltb
    have hKs := hK.size
    rintro _ σ9 m10 rfl
    replace hRa_0 := hRa_0.mod m10
    replace hRb_1 := hRb_1.mod m10
    replace hO1 := hO1.mod0 m10
    replace hK := hK.none m10
    clear hKs m10
    refine st (v := (B (!r7))) (rv_not rfl) ?_
    refine st (v := (B (!r7))) (rv_move rfl) ?_
    rcases Bool.eq_false_or_eq_true (!r7) with hb12 | hb12
    · replace h := bif_t hb12 h
      refine st_skip (congrArg some hb12) ?_
      refine st_skip (congrArg some hb12) ?_
      refine st_skip (congrArg some hb12) ?_
      refine st (v := (B true)) (rv_pick_t (congrArg B hb12) rfl) ?_
      refine st (v := (B true)) (rv_move rfl) ?_
      refine st_skip rfl ?_
      refine st_skip rfl ?_
      refine st_skip rfl ?_
      refine st (v := (B true)) (rv_pick_t rfl rfl) ?_
      refine w_end ?_
      obtain rfl := Option.some.inj h
      exact ⟨rfl, _, σ9, fr_join ⟨rfl, rfl, rfl, rfl, rfl, trivial⟩, rfl, hK, hRa_0, hRb_1, hO1⟩
    · replace h := bif_f hb12 h
      refine st_g (v := (Sl ab_1 b_1 cb_1)) (congrArg some hb12) (rv_move rfl) ?_
      obtain ⟨r13, hx14, h'⟩ := bind_some h
      clear h
      have h := h'; clear h'
      refine st_call_g (by exact (congrArg some hb12)) (c_spec_isVector hRb_1 hx14) rfl ?_
      have hd17 := hO1.ltb
      have hKs := hK.size
      rintro _ σ15 m16 rfl
      replace hRa_0 := hRa_0.mod m16
      replace hRb_1 := hRb_1.mod m16
      replace hO1 := hO1.mod0 m16
      replace hK := hK.none m16
      clear hKs m16
      refine st_g (v := (B (!r13))) (congrArg some hb12) (rv_not rfl) ?_
      refine st (v := (B (!r13))) (rv_pick_f (congrArg B hb12) rfl) ?_
      refine st (v := (B (!r13))) (rv_move rfl) ?_
      rcases Bool.eq_false_or_eq_true (!r13) with hb18 | hb18
      · replace h := bif_t hb18 h
        refine st_skip (congrArg some hb18) ?_
        refine st_skip (congrArg some hb18) ?_
        refine st_skip (congrArg some hb18) ?_
        refine st (v := (B true)) (rv_pick_t (congrArg B hb18) rfl) ?_
        refine w_end ?_
        obtain rfl := Option.some.inj h
        exact ⟨rfl, _, σ15, fr_join ⟨rfl, rfl, rfl, rfl, rfl, trivial⟩, rfl, hK, hRa_0, hRb_1, hO1⟩
      · replace h := bif_f hb18 h
        refine st_g (v := (I part_2)) (congrArg some hb18) (rv_move rfl) ?_
        obtain ⟨r19, hx20, h'⟩ := bind_some h
        clear h
        have h := h'; clear h'
        refine st_call_g (by exact (congrArg some hb18)) (c_spec_inRange  hx20) rfl ?_
        have hd23 := hO1.ltb
        have hKs := hK.size
        rintro _ σ21 m22 rfl
        replace hRa_0 := hRa_0.mod m22
        replace hRb_1 := hRb_1.mod m22
        replace hO1 := hO1.mod0 m22
        replace hK := hK.none m22
        clear hKs m22
        refine st_g (v := (B (!r19))) (congrArg some hb18) (rv_not rfl) ?_
        refine st (v := (B (!r19))) (rv_pick_f (congrArg B hb18) rfl) ?_
        refine w_end ?_
        obtain rfl := Option.some.inj h
        exact ⟨rfl, _, σ21, fr_join ⟨rfl, rfl, rfl, rfl, rfl, trivial⟩, rfl, hK, hRa_0, hRb_1, hO1⟩
  · clear hj
    have h := h'
    clear h'
    rintro e a w ⟨rfl, ρ, σ24, rfl, rfl, hK, hR25, hR26, hO27⟩
    refine q_then ?_
    refine cd_cond o6 rfl (fun hb28 => ?_) (fun hb28 => ?_)
    · replace h := bif_t hb28 h
      refine c_seq ?_
      refine rg ?_
      refine st (v := (.slice none 0 0)) (rv_assign rfl) ?_
      refine w_end ?_
      refine q_then ?_
      refine c_ret ?_
      refine q_then_r ?_
      obtain rfl := Option.some.inj h
      exact bodyPost_ret (v := (.slice none 0 0)) (results_fr1 Try.results30 rfl _) rfl ⟨_, σ24, rfl, rfl, hK, none, 0, rfl, Ow.nil⟩
    · replace h := bif_f hb28 h
      refine c_skip ?_
      refine q_then ?_
      refine c_seq ?_
      refine c_seq ?_
      refine rg ?_
      refine st (v := (I 0)) (rv_assign rfl) ?_
      refine w_end ?_
      refine q_then ?_
      obtain ⟨o29, hj, h'⟩ := bind_some h
      clear h
      refine c_cut (fun e a w => e = .normal ∧ ∃ (ρ : Nat → Value) (σ : St) (aj1 : Option Addr) (cj2 : Nat), a = fr 48 (updL ρ [(7, (Sl aj1 o29 cj2))]) ∧ w = σ.w ∧ Mod none σ0 σ ∧ Ow σ σ0.size σ0.size (Sl aj1 o29 cj2) o29) ?_ ?_
      · clear h'
        rename _ = some o29 => h
        refine c_blk ?_
        refine wp_loopM _ h (fun s30 a w => ∃ (ρ : Nat → Value) (σ : St) (aj3 : Option Addr) (cj4 : Nat), a = fr 48 (updL ρ [(0, (Sl aa_0 a_0 ca_0)), (1, (Sl ab_1 b_1 cb_1)), (2, (I part_2)), (7, (Sl aj3 s30.1 cj4)), (8, (I s30.2))]) ∧ w = σ.w ∧ Mod none σ0 σ ∧ RS 0 σ (Sl aa_0 a_0 ca_0) a_0 ∧ RS 0 σ (Sl ab_1 b_1 cb_1) b_1 ∧ Ow σ σ0.size σ0.size (Sl aj3 s30.1 cj4) s30.1) ⟨_, σ24, (some ⟨b2, 0, none⟩), 0, fr_join ⟨rfl, rfl, rfl, rfl, rfl, trivial⟩, rfl, hK, hR25, hR26, hO27⟩ ?_
        clear h
        rintro s30 a w o ⟨ρ, σ32, a35, c36, rfl, rfl, hK, hR33, hR34, hO37⟩ h hres
        refine c_seq ?_
        refine c_seq ?_
        refine rg ?_
        refine st (v := (I s30.2)) (rv_move rfl) ?_
        refine st (v := (B (decide (s30.2 < 4)))) (rv_lss (a := s30.2) (b := 4) rfl rfl) ?_
        refine w_end ?_
        refine q_then ?_
        refine cd_cond (decide (s30.2 < 4)) rfl (fun hb38 => ?_) (fun hb38 => ?_)
        · replace h := bif_t hb38 h
          refine c_skip ?_
          refine q_then ?_
          refine c_seq ?_
          refine c_blk ?_
          obtain ⟨x39, hx40, h'⟩ := bind_some h
          clear h
          have h := h'; clear h'
          obtain ⟨b42, o43, hi41, -⟩ := hR33.ix hx40
          obtain ⟨x44, hx45, h'⟩ := bind_some h
          clear h
          have h := h'; clear h'
          obtain ⟨b47, o48, hi46, -⟩ := hR34.ix hx45
          obtain ⟨x49, hx50, h'⟩ := bind_some h
          clear h
          have h := h'; clear h'
          obtain ⟨b52, o53, hi51, -⟩ := hR33.ix hx50
          obtain ⟨r54, hx55, h'⟩ := bind_some h
          clear h
          have h := h'; clear h'
          refine rg_monoL (σ := σ32) 19 [eqv (Sl a35 s30.1 c36), eqv (Sl aa_0 a_0 ca_0), eqv (I s30.2), eqv (pt b42 o43), eqv (I x39), eqv (Sl ab_1 b_1 cb_1), eqv (I s30.2), eqv (pt b47 o48), eqv (I x44), eqv (Sl aa_0 a_0 ca_0), eqv (I s30.2), eqv (pt b52 o53), eqv (I x49), eqv (I (w64 (x44 - x49))), eqv (I part_2), eqv (I (w64 ((w64 (x44 - x49)) * part_2))), eqv (I r54), eqv (I (w64 (x39 + r54))), (fun v σ => ∃ (b56 : Nat), v = (Sl (some ⟨b56, 0, none⟩) ([w64 (x39 + r54)] : List Int) 1) ∧ Ow σ σ32.size σ0.size (Sl (some ⟨b56, 0, none⟩) ([w64 (x39 + r54)] : List Int) 1) ([w64 (x39 + r54)] : List Int))] (by kernel_rfl) (by kernel_rfl) (mono_cons mono_eqv (mono_cons mono_eqv (mono_cons mono_eqv (mono_cons mono_eqv (mono_cons mono_eqv (mono_cons mono_eqv (mono_cons mono_eqv (mono_cons mono_eqv (mono_cons mono_eqv (mono_cons mono_eqv (mono_cons mono_eqv (mono_cons mono_eqv (mono_cons mono_eqv (mono_cons mono_eqv (mono_cons mono_eqv (mono_cons mono_eqv (mono_cons mono_eqv (mono_cons mono_eqv (mono_cons (fun _ _ _ ⟨b56, h0, hO57⟩ m => ⟨b56, h0, hO57.mod0 m⟩) (mono_nil)))))))))))))))))))) ?_ ?_
          · refine all_cons (by
                intro ρ σm m hoff hdep
                have e7 : look 48 ρ 7 = (Sl a35 s30.1 c36) := look_off (hoff 7 rfl) rfl
                exact does_v (v := (Sl a35 s30.1 c36)) (wanted_none _ rfl _) (rv_move e7) rfl) ?_
            refine all_cons (by
                intro ρ σm m hoff hdep
                have e0 : look 48 ρ 0 = (Sl aa_0 a_0 ca_0) := look_off (hoff 0 rfl) rfl
                exact does_v (v := (Sl aa_0 a_0 ca_0)) (wanted_none _ rfl _) (rv_move e0) rfl) ?_
            refine all_cons (by
                intro ρ σm m hoff hdep
                have e8 : look 48 ρ 8 = (I s30.2) := look_off (hoff 8 rfl) rfl
                exact does_v (v := (I s30.2)) (wanted_none _ rfl _) (rv_move e8) rfl) ?_
            refine all_cons (by
                intro ρ σm m hoff hdep
                have e28 : look 48 ρ 28 = (Sl aa_0 a_0 ca_0) := hdep 1 rfl rfl 28 rfl
                have e29 : look 48 ρ 29 = (I s30.2) := hdep 2 rfl rfl 29 rfl
                exact does_v (v := (pt b42 o43)) (wanted_none _ rfl _) (rv_ix Try.underlying23 ti3 e28 e29 hi41) rfl) ?_
            refine all_cons (by
                intro ρ σm m hoff hdep
                have e30 : look 48 ρ 30 = (pt b42 o43) := hdep 3 rfl rfl 30 rfl
                replace hR33 := hR33.mod m
                exact does_v (v := (I x39)) (wanted_none _ rfl _) (rv_load1 Try.underlying3 rfl e30 (hR33.at hx40 hi41).int) rfl) ?_
            refine all_cons (by
                intro ρ σm m hoff hdep
                have e1 : look 48 ρ 1 = (Sl ab_1 b_1 cb_1) := look_off (hoff 1 rfl) rfl
                exact does_v (v := (Sl ab_1 b_1 cb_1)) (wanted_none _ rfl _) (rv_move e1) rfl) ?_
            refine all_cons (by
                intro ρ σm m hoff hdep
                have e8 : look 48 ρ 8 = (I s30.2) := look_off (hoff 8 rfl) rfl
                exact does_v (v := (I s30.2)) (wanted_none _ rfl _) (rv_move e8) rfl) ?_
            refine all_cons (by
                intro ρ σm m hoff hdep
                have e32 : look 48 ρ 32 = (Sl ab_1 b_1 cb_1) := hdep 5 rfl rfl 32 rfl
                have e33 : look 48 ρ 33 = (I s30.2) := hdep 6 rfl rfl 33 rfl
                exact does_v (v := (pt b47 o48)) (wanted_none _ rfl _) (rv_ix Try.underlying23 ti3 e32 e33 hi46) rfl) ?_
            refine all_cons (by
                intro ρ σm m hoff hdep
                have e34 : look 48 ρ 34 = (pt b47 o48) := hdep 7 rfl rfl 34 rfl
                replace hR34 := hR34.mod m
                exact does_v (v := (I x44)) (wanted_none _ rfl _) (rv_load1 Try.underlying3 rfl e34 (hR34.at hx45 hi46).int) rfl) ?_
            refine all_cons (by
                intro ρ σm m hoff hdep
                have e0 : look 48 ρ 0 = (Sl aa_0 a_0 ca_0) := look_off (hoff 0 rfl) rfl
                exact does_v (v := (Sl aa_0 a_0 ca_0)) (wanted_none _ rfl _) (rv_move e0) rfl) ?_
            refine all_cons (by
                intro ρ σm m hoff hdep
                have e8 : look 48 ρ 8 = (I s30.2) := look_off (hoff 8 rfl) rfl
                exact does_v (v := (I s30.2)) (wanted_none _ rfl _) (rv_move e8) rfl) ?_
            refine all_cons (by
                intro ρ σm m hoff hdep
                have e36 : look 48 ρ 36 = (Sl aa_0 a_0 ca_0) := hdep 9 rfl rfl 36 rfl
                have e37 : look 48 ρ 37 = (I s30.2) := hdep 10 rfl rfl 37 rfl
                exact does_v (v := (pt b52 o53)) (wanted_none _ rfl _) (rv_ix Try.underlying23 ti3 e36 e37 hi51) rfl) ?_
            refine all_cons (by
                intro ρ σm m hoff hdep
                have e38 : look 48 ρ 38 = (pt b52 o53) := hdep 11 rfl rfl 38 rfl
                replace hR33 := hR33.mod m
                exact does_v (v := (I x49)) (wanted_none _ rfl _) (rv_load1 Try.underlying3 rfl e38 (hR33.at hx50 hi51).int) rfl) ?_
            refine all_cons (by
                intro ρ σm m hoff hdep
                have e35 : look 48 ρ 35 = (I x44) := hdep 8 rfl rfl 35 rfl
                have e39 : look 48 ρ 39 = (I x49) := hdep 12 rfl rfl 39 rfl
                exact does_v (v := (I (w64 (x44 - x49)))) (wanted_none _ rfl _) (rv_sub (a := x44) (b := x49) e35 e39) rfl) ?_
            refine all_cons (by
                intro ρ σm m hoff hdep
                have e2 : look 48 ρ 2 = (I part_2) := look_off (hoff 2 rfl) rfl
                exact does_v (v := (I part_2)) (wanted_none _ rfl _) (rv_move e2) rfl) ?_
            refine all_cons (by
                intro ρ σm m hoff hdep
                have e40 : look 48 ρ 40 = (I (w64 (x44 - x49))) := hdep 13 rfl rfl 40 rfl
                have e41 : look 48 ρ 41 = (I part_2) := hdep 14 rfl rfl 41 rfl
                exact does_v (v := (I (w64 ((w64 (x44 - x49)) * part_2)))) (wanted_none _ rfl _) (rv_mul (a := (w64 (x44 - x49))) (b := part_2) e40 e41) rfl) ?_
            refine all_cons (by
                intro ρ σm m hoff hdep
                have e42 : look 48 ρ 42 = (I (w64 ((w64 (x44 - x49)) * part_2))) := hdep 15 rfl rfl 42 rfl
                have hKs : σ32.size ≤ σm.size := m.size
                exact does_call (wanted_none _ rfl _) (c_spec_floorDiv  hx55) (by show [look 48 ρ 42, (I 1000)] = _; rw [e42]) (by rintro v σ2 m2 rfl; exact rfl)) ?_
            refine all_cons (by
                intro ρ σm m hoff hdep
                have e31 : look 48 ρ 31 = (I x39) := hdep 4 rfl rfl 31 rfl
                have e43 : look 48 ρ 43 = (I r54) := hdep 16 rfl rfl 43 rfl
                exact does_v (v := (I (w64 (x39 + r54)))) (wanted_none _ rfl _) (rv_add (a := x39) (b := r54) e31 e43) rfl) ?_
            refine all_cons (by
                intro ρ σm m hoff hdep
                have e44 : look 48 ρ 44 = (I (w64 (x39 + r54))) := hdep 17 rfl rfl 44 rfl
                exact does_buildSlice (lo := σ32.size) (el := σ0.size) (xs := ([w64 (x39 + r54)] : List Int)) (ps := [(0, (I (w64 (x39 + r54))))]) (cs := [(I (w64 (x39 + r54)))]) (wanted_none _ rfl _) Try.underlying23 ti3 rfl (by show [(0, look 48 ρ 44)] = _; rw [e44]) (by kernel_rfl) (.cons (c := [(I (w64 (x39 + r54)))]) rfl (.nil)) rfl m.size (fun b56 σ2 m2 hO57 => ⟨b56, rfl, hO57⟩)) ?_
            exact all_nil
          · intro ρ σ58 m hoff hrel
            have e0 : look 48 ρ 0 = (Sl aa_0 a_0 ca_0) := look_off (hoff 0 rfl) rfl
            have e1 : look 48 ρ 1 = (Sl ab_1 b_1 cb_1) := look_off (hoff 1 rfl) rfl
            have e2 : look 48 ρ 2 = (I part_2) := look_off (hoff 2 rfl) rfl
            have e8 : look 48 ρ 8 = (I s30.2) := look_off (hoff 8 rfl) rfl
            have e27 : look 48 ρ 27 = (Sl a35 s30.1 c36) := hrel 0 rfl 27 rfl
            obtain ⟨b56, e45, hO57⟩ := hrel 18 rfl 45 rfl
            have hd59 := hO37.ltb
            have hg60 := hO57.ge
            have hd61 := Df.ge hd59 hg60
            replace hO57 := hO57.lo hK.size
            replace hR33 := hR33.mod m
            replace hR34 := hR34.mod m
            replace hO37 := hO37.mod0 m
            replace hK := hK.none m
            rw [fr_lookL (L := [(0, (Sl aa_0 a_0 ca_0)), (1, (Sl ab_1 b_1 cb_1)), (2, (I part_2)), (8, (I s30.2)), (27, (Sl a35 s30.1 c36)), (45, (Sl (some ⟨b56, 0, none⟩) ([w64 (x39 + r54)] : List Int) 1))]) ⟨e0, e1, e2, e8, e27, e45, trivial⟩]
            clear hoff hrel m e0 e1 e2 e8 e27 e45
            obtain ⟨xs62, hx63, h'⟩ := bind_some h
            clear h
            have h := h'; clear h'
            have hg64 := hO37.ge
            refine st_append Try.underlying23 Try.underlying23 ti3 rfl rfl (by decide) hO37 hO57.rd hx63 hK.size rfl rfl ?_ (wanted_none _ rfl _)
            intro a69 c70 σ65 m66 hO67 hq68
            replace hR33 := hR33.mod m66
            replace hR34 := hR34.mod m66
            replace hK := hK.own m66 hg64
            clear hq68 m66
            refine st (v := (Sl a69 xs62 c70)) (rv_assign rfl) ?_
            refine w_end ?_
            refine q_blk ?_
            refine q_then ?_
            refine rg ?_
            refine st (v := (I s30.2)) (rv_move rfl) ?_
            refine st (v := (I (w64 (s30.2 + 1)))) (rv_add (a := s30.2) (b := 1) rfl rfl) ?_
            refine st (v := (I (w64 (s30.2 + 1)))) (rv_assign rfl) ?_
            refine w_end ?_
            refine q_then ?_
            obtain rfl := Option.some.inj h
            exact ⟨_, rfl, _, σ65, a69, c70, fr_join ⟨rfl, rfl, rfl, rfl, rfl, trivial⟩, rfl, hK, hR33, hR34, hO67⟩
        · replace h := bif_f hb38 h
          refine c_exit ?_
          refine q_then_x ?_
          refine q_then_x ?_
          refine q_blk_hit ?_
          obtain rfl := Option.some.inj h
          obtain rfl := hres _ rfl
          exact ⟨rfl, _, σ32, a35, c36, fr_join ⟨rfl, trivial⟩, rfl, hK, hO37⟩
      · clear hj
        have h := h'
        clear h'
        rintro e a w ⟨rfl, ρ, σ71, a72, c73, rfl, rfl, hK, hO74⟩
        refine q_then ?_
        refine c_seq ?_
        refine rg ?_
        refine st (v := (Sl a72 o29 c73)) (rv_move rfl) ?_
        refine st (v := (Sl a72 o29 c73)) (rv_assign rfl) ?_
        refine w_end ?_
        refine q_then ?_
        refine c_ret ?_
        obtain rfl := Option.some.inj h
        exact bodyPost_ret (v := (Sl a72 o29 c73)) (results_fr1 Try.results30 rfl _) rfl ⟨_, σ71, rfl, rfl, hK, a72, c73, rfl, hO74⟩

end Go.Vs
