/- The functions compute what their models say. -/
import Derived.Test.YtaknnhnckdifiabAbC1
set_option linter.unusedVariables false
set_option linter.unusedSimpArgs false
set_option maxRecDepth 20000
namespace Go.Vs
open Go Go.Proofs
attribute [local irreducible] Code.wp wpList wpQuiet Calls

theorem c_spec_put {σ0 : St} {list_0 : List (Int × (List Int) × Int)} {x_1 : Int × (List Int) × Int} {alist_0 : Option Addr} {clist_0 : Nat} (hRlist_0 : RS 0 σ0 (Sl alist_0 list_0 clist_0) list_0) {ax_1_1 : Option Addr} {cx_1_1 : Nat} (hRx_1_1 : RS 0 σ0 (Sl ax_1_1 x_1.2.1 cx_1_1) x_1.2.1) {r : (List (Int × (List Int) × Int))} (h : M.spec_put list_0 x_1 = some r) :
    Cal Try.prog 54 [(Sl alist_0 list_0 clist_0), (.agg #[(I x_1.1), (Sl ax_1_1 x_1.2.1 cx_1_1), (I x_1.2.2)])] none σ0 (fun v σ' => ∃ (a0 : Option Addr) (c0 : Nat), v = (Sl a0 r c0) ∧ Ow σ' σ0.size σ0.size (Sl a0 r c0) r) := by
  refine ⟨⟨_, _, Try.func54, rfl, rfl⟩, ?_⟩
  refine enter (n := 59) Try.func54 rfl rfl rfl ?_
  unfold M.spec_put at h
  have hK : Mod none σ0 σ0 := Mod.refl _ _
  refine c_seq ?_
  refine rg ?_
  refine st_box (cs := [(I x_1.1), (Sl ax_1_1 x_1.2.1 cx_1_1), (I x_1.2.2)]) rfl rfl ?_ (wanted_none _ rfl _)
  intro b2 σ4 hbn6 m5 hB1
  have hge3 := Nat.le_trans hK.size (Nat.le_of_eq hbn6)
  replace hRlist_0 := hRlist_0.mod m5
  replace hRx_1_1 := hRx_1_1.mod m5
  replace hK := hK.none m5
  clear hbn6 m5
  refine st (v := (.slice none 0 0)) (rv_assign rfl) ?_
  refine w_end ?_
  refine q_then ?_
  refine c_seq ?_
  refine rg ?_
  refine st_buildSlice (lo := σ0.size) (el := σ0.size) (xs := ([] : List (Int × (List Int) × Int))) (ps := []) (cs := []) Try.underlying23 ti26 rfl rfl (by kernel_rfl) (.nil) rfl ?_ hK.size (wanted_none _ rfl _)
  intro b8 σ9 hbn11 m10 hO7
  have hd12 := hB1.df' hbn11
  replace hRlist_0 := hRlist_0.mod m10
  replace hRx_1_1 := hRx_1_1.mod m10
  replace hB1 := hB1.mod0 m10
  replace hK := hK.none m10
  clear hbn11 m10
  refine st (v := (Sl (some ⟨b8, 0, none⟩) ([] : List (Int × (List Int) × Int)) 0)) (rv_assign rfl) ?_
  refine w_end ?_
  refine q_then ?_
  refine c_seq ?_
  refine c_seq ?_
  refine rg ?_
  refine st (v := (I 0)) (rv_assign rfl) ?_
  refine w_end ?_
  refine q_then ?_
  obtain ⟨o13, hj, h'⟩ := bind_some h
  clear h
  refine c_cut (fun e a w => e = .normal ∧ ∃ (ρ : Nat → Value) (σ : St) (aj4 : Option Addr) (cj5 : Nat), a = fr 59 (updL ρ [(0, (Sl alist_0 list_0 clist_0)), (3, (pt b2 0)), (5, (Sl aj4 o13 cj5))]) ∧ w = σ.w ∧ Mod none σ0 σ ∧ RS 0 σ (Sl alist_0 list_0 clist_0) list_0 ∧ RS 0 σ (Sl ax_1_1 x_1.2.1 cx_1_1) x_1.2.1 ∧ Bx σ b2 [(I x_1.1), (Sl ax_1_1 x_1.2.1 cx_1_1), (I x_1.2.2)] ∧ Ow σ σ0.size σ0.size (Sl aj4 o13 cj5) o13 ∧ Df (blk (Sl aj4 o13 cj5)) (some b2)) ?_ ?_
  · clear h'
    rename _ = some o13 => h
    refine c_blk ?_
    refine wp_loopM _ h (fun s14 a w => ∃ (ρ : Nat → Value) (σ : St) (aj4 : Option Addr) (cj5 : Nat), a = fr 59 (updL ρ [(0, (Sl alist_0 list_0 clist_0)), (3, (pt b2 0)), (5, (Sl aj4 s14.1 cj5)), (6, (I s14.2))]) ∧ w = σ.w ∧ Mod none σ0 σ ∧ RS 0 σ (Sl alist_0 list_0 clist_0) list_0 ∧ RS 0 σ (Sl ax_1_1 x_1.2.1 cx_1_1) x_1.2.1 ∧ Bx σ b2 [(I x_1.1), (Sl ax_1_1 x_1.2.1 cx_1_1), (I x_1.2.2)] ∧ Ow σ σ0.size σ0.size (Sl aj4 s14.1 cj5) s14.1 ∧ Df (blk (Sl aj4 s14.1 cj5)) (some b2)) ⟨_, σ9, (some ⟨b8, 0, none⟩), 0, fr_join ⟨rfl, rfl, rfl, rfl, trivial⟩, rfl, hK, hRlist_0, hRx_1_1, hB1, hO7, (by first | exact (hd12).symm | exact Df.reL (hd12).symm)⟩ ?_
    clear h
    rintro s14 a w o ⟨ρ, σ16, a20, c21, rfl, rfl, hK, hR17, hR18, hB19, hO22, hd23⟩ h hres
    refine c_seq ?_
    refine c_seq ?_
    refine rg ?_
    refine st (v := (I s14.2)) (rv_move rfl) ?_
    refine st (v := (Sl alist_0 list_0 clist_0)) (rv_move rfl) ?_
    refine st (v := (I (list_0.length : Int))) (rv_len Try.underlying23 rfl) ?_
    refine st (v := (B (decide (s14.2 < (list_0.length : Int))))) (rv_lss (a := s14.2) (b := (list_0.length : Int)) rfl rfl) ?_
    refine w_end ?_
    refine q_then ?_
    refine cd_cond (decide (s14.2 < (list_0.length : Int))) rfl (fun hb24 => ?_) (fun hb24 => ?_)
    · replace h := bif_t hb24 h
      refine c_skip ?_
      refine q_then ?_
      refine c_seq ?_
      obtain ⟨o25, hj, h'⟩ := bind_some h
      clear h
      refine c_cut (fun e a w => e = .normal ∧ ∃ (ρ : Nat → Value) (σ : St) (aj4 : Option Addr) (cj5 : Nat), a = fr 59 (updL ρ [(0, (Sl alist_0 list_0 clist_0)), (3, (pt b2 0)), (5, (Sl aj4 o25 cj5)), (6, (I s14.2))]) ∧ w = σ.w ∧ Mod none σ0 σ ∧ RS 0 σ (Sl alist_0 list_0 clist_0) list_0 ∧ RS 0 σ (Sl ax_1_1 x_1.2.1 cx_1_1) x_1.2.1 ∧ Bx σ b2 [(I x_1.1), (Sl ax_1_1 x_1.2.1 cx_1_1), (I x_1.2.2)] ∧ Ow σ σ0.size σ0.size (Sl aj4 o25 cj5) o25 ∧ Df (blk (Sl aj4 o25 cj5)) (some b2)) ?_ ?_
      · clear h'
        rename _ = some o25 => h
        refine c_blk ?_
        refine c_seq ?_
        obtain ⟨x26, hx27, h'⟩ := bind_some h
        clear h
        have h := h'; clear h'
        obtain ⟨b29, o30, hi28, -⟩ := hR17.ix hx27
        refine rg_monoL (σ := σ16) 7 [eqv (Sl alist_0 list_0 clist_0), eqv (I s14.2), eqv (pt b29 o30), eqv (pt b29 (o30 + 0)), eqv (I x26.1), eqv (pt b2 0), eqv (I x_1.1)] (by kernel_rfl) (by kernel_rfl) (mono_cons mono_eqv (mono_cons mono_eqv (mono_cons mono_eqv (mono_cons mono_eqv (mono_cons mono_eqv (mono_cons mono_eqv (mono_cons mono_eqv (mono_nil)))))))) ?_ ?_
        · refine all_cons (by
              intro ρ σm m hoff hdep
              have e0 : look 59 ρ 0 = (Sl alist_0 list_0 clist_0) := look_off (hoff 0 rfl) rfl
              exact does_v (v := (Sl alist_0 list_0 clist_0)) (wanted_none _ rfl _) (rv_move e0) rfl) ?_
          refine all_cons (by
              intro ρ σm m hoff hdep
              have e6 : look 59 ρ 6 = (I s14.2) := look_off (hoff 6 rfl) rfl
              exact does_v (v := (I s14.2)) (wanted_none _ rfl _) (rv_move e6) rfl) ?_
          refine all_cons (by
              intro ρ σm m hoff hdep
              have e15 : look 59 ρ 15 = (Sl alist_0 list_0 clist_0) := hdep 0 rfl rfl 15 rfl
              have e16 : look 59 ρ 16 = (I s14.2) := hdep 1 rfl rfl 16 rfl
              exact does_v (v := (pt b29 o30)) (wanted_none _ rfl _) (rv_ix Try.underlying23 ti26 e15 e16 hi28) rfl) ?_
          refine all_cons (by
              intro ρ σm m hoff hdep
              have e17 : look 59 ρ 17 = (pt b29 o30) := hdep 2 rfl rfl 17 rfl
              exact does_v (v := (pt b29 (o30 + 0))) (wanted_none _ rfl _) (rv_fieldAddr (off := 0) (ft := 3) Try.underlying26 rfl ti3 rfl e17) rfl) ?_
          refine all_cons (by
              intro ρ σm m hoff hdep
              have e18 : look 59 ρ 18 = (pt b29 (o30 + 0)) := hdep 3 rfl rfl 18 rfl
              replace hR17 := hR17.mod m
              exact does_v (v := (I x26.1)) (wanted_none _ rfl _) (rv_load1 Try.underlying3 rfl e18 (hR17.at hx27 hi28).fst.int) rfl) ?_
          refine all_cons (by
              intro ρ σm m hoff hdep
              have e3 : look 59 ρ 3 = (pt b2 0) := look_off (hoff 3 rfl) rfl
              exact does_v (v := (pt b2 0)) (wanted_none _ rfl _) (rv_fieldAddr (off := 0) (ft := 3) Try.underlying26 rfl ti3 rfl e3) rfl) ?_
          refine all_cons (by
              intro ρ σm m hoff hdep
              have e20 : look 59 ρ 20 = (pt b2 0) := hdep 5 rfl rfl 20 rfl
              replace hB19 := hB19.mod0 m
              exact does_v (v := (I x_1.1)) (wanted_none _ rfl _) (rv_load1 Try.underlying3 rfl e20 (hB19.cell' 0 rfl rfl)) rfl) ?_
          exact all_nil
        · intro ρ σ31 m hoff hrel
          have e0 : look 59 ρ 0 = (Sl alist_0 list_0 clist_0) := look_off (hoff 0 rfl) rfl
          have e3 : look 59 ρ 3 = (pt b2 0) := look_off (hoff 3 rfl) rfl
          have e5 : look 59 ρ 5 = (Sl a20 s14.1 c21) := look_off (hoff 5 rfl) rfl
          have e6 : look 59 ρ 6 = (I s14.2) := look_off (hoff 6 rfl) rfl
          have e19 : look 59 ρ 19 = (I x26.1) := hrel 4 rfl 19 rfl
          have e21 : look 59 ρ 21 = (I x_1.1) := hrel 6 rfl 21 rfl
          replace hR17 := hR17.mod m
          replace hR18 := hR18.mod m
          replace hO22 := hO22.mod0 m
          replace hB19 := hB19.mod0 m
          replace hK := hK.none m
          rw [fr_lookL (L := [(0, (Sl alist_0 list_0 clist_0)), (3, (pt b2 0)), (5, (Sl a20 s14.1 c21)), (6, (I s14.2)), (19, (I x26.1)), (21, (I x_1.1))]) ⟨e0, e3, e5, e6, e19, e21, trivial⟩]
          clear hoff hrel m e0 e3 e5 e6 e19 e21
          refine st (v := (B (decide (x26.1 < x_1.1)))) (rv_lss (a := x26.1) (b := x_1.1) rfl rfl) ?_
          refine w_end ?_
          refine q_then ?_
          refine cd_cond (decide (x26.1 < x_1.1)) rfl (fun hb32 => ?_) (fun hb32 => ?_)
          · replace h := bif_t hb32 h
            refine rg ?_
            refine st (v := (Sl a20 s14.1 c21)) (rv_move rfl) ?_
            refine st (v := (Sl alist_0 list_0 clist_0)) (rv_move rfl) ?_
            refine st (v := (I s14.2)) (rv_move rfl) ?_
            obtain ⟨x33, hx34, h'⟩ := bind_some h
            clear h
            have h := h'; clear h'
            obtain ⟨b36, o37, hi35, -⟩ := hR17.ix hx34
            refine st (v := (pt b36 o37)) (rv_ix Try.underlying23 ti26 rfl rfl hi35) ?_
            obtain ⟨_, ⟨_, _, rfl, rfl, ⟨_, _, rfl, ⟨_, rfl, hR43⟩, rfl⟩⟩, hl39, hc40⟩ := (hR17.at hx34 hi35).cells
            obtain ⟨a41, c42, rfl⟩ := hR43.isSl
            refine st (v := (.agg #[(I x33.1), (Sl a41 x33.2.1 c42), (I x33.2.2)])) (rv_load Try.underlying26 rfl ti26 rfl hl39 hc40) ?_
            obtain ⟨r44, hx45, h'⟩ := bind_some h
            clear h
            have h := h'; clear h'
            refine st_call (c_spec_copyItem hR43 hx45) rfl ?_
            have hd51 := hO22.ltb
            have hd52 := hB19.ltb
            have hKs := hK.size
            rintro _ σ46 m47 ⟨a48, c49, rfl, hR50⟩
            replace hR17 := hR17.mod m47
            replace hR18 := hR18.mod m47
            replace hO22 := hO22.mod0 m47
            replace hR43 := hR43.mod m47
            replace hB19 := hB19.mod0 m47
            replace hK := hK.none m47
            replace hR50 := hR50.low hKs
            clear hKs m47
            refine st_buildSlice (lo := σ0.size) (el := σ0.size) (xs := ([(r44.1, r44.2.1, r44.2.2)] : List (Int × (List Int) × Int))) (ps := [(0, (.agg #[(I r44.1), (Sl a48 r44.2.1 c49), (I r44.2.2)]))]) (cs := [(I r44.1), (Sl a48 r44.2.1 c49), (I r44.2.2)]) Try.underlying23 ti26 rfl rfl (by kernel_rfl) (.cons (c := [(I r44.1), (Sl a48 r44.2.1 c49), (I r44.2.2)]) ⟨[(I r44.1)], [(Sl a48 r44.2.1 c49), (I r44.2.2)], rfl, rfl, ⟨[(Sl a48 r44.2.1 c49)], [(I r44.2.2)], rfl, ⟨_, rfl, hR50⟩, rfl⟩⟩ (.nil)) rfl ?_ hK.size (wanted_none _ rfl _)
            intro b54 σ55 hbn57 m56 hO53
            have hd58 := hO22.df' hbn57
            have hd59 := hB19.df' hbn57
            replace hR17 := hR17.mod m56
            replace hR18 := hR18.mod m56
            replace hO22 := hO22.mod0 m56
            replace hR50 := hR50.mod m56
            replace hB19 := hB19.mod0 m56
            replace hK := hK.none m56
            clear hbn57 m56
            obtain ⟨xs60, hx61, h'⟩ := bind_some h
            clear h
            have h := h'; clear h'
            have hg62 := hO22.ge
            refine st_append Try.underlying23 Try.underlying23 ti26 rfl rfl (by decide) hO22 hO53.rd hx61 hK.size rfl rfl ?_ (wanted_none _ rfl _)
            have hd69 := hB19.ltb
            intro a67 c68 σ63 m64 hO65 hq66
            replace hR17 := hR17.mod m64
            replace hR18 := hR18.mod m64
            replace hB19 := hB19.mod' m64 (by first | exact (hd23).symm | exact Df.reR (hd23).symm)
            replace hK := hK.own m64 hg62
            have hd70 := Df.app (hd23).symm hd69 hq66
            clear hq66 m64
            refine st (v := (Sl a67 xs60 c68)) (rv_assign rfl) ?_
            refine w_end ?_
            refine q_blk ?_
            obtain rfl := Option.some.inj h
            exact ⟨rfl, _, σ63, a67, c68, fr_join ⟨rfl, rfl, rfl, rfl, trivial⟩, rfl, hK, hR17, hR18, hB19, hO65, (by first | exact (hd70).symm | exact Df.reL (hd70).symm)⟩
          · replace h := bif_f hb32 h
            refine c_skip ?_
            refine q_blk ?_
            obtain rfl := Option.some.inj h
            exact ⟨rfl, _, σ31, a20, c21, fr_join ⟨rfl, rfl, rfl, rfl, trivial⟩, rfl, hK, hR17, hR18, hB19, hO22, (by first | exact hd23 | exact Df.reL hd23)⟩
      · clear hj
        have h := h'
        clear h'
        rintro e a w ⟨rfl, ρ, σ71, a75, c76, rfl, rfl, hK, hR72, hR73, hB74, hO77, hd78⟩
        refine q_then ?_
        refine rg ?_
        refine st (v := (I s14.2)) (rv_move rfl) ?_
        refine st (v := (I (w64 (s14.2 + 1)))) (rv_add (a := s14.2) (b := 1) rfl rfl) ?_
        refine st (v := (I (w64 (s14.2 + 1)))) (rv_assign rfl) ?_
        refine w_end ?_
        refine q_then ?_
        obtain rfl := Option.some.inj h
        exact ⟨_, rfl, _, σ71, a75, c76, fr_join ⟨rfl, rfl, rfl, rfl, trivial⟩, rfl, hK, hR72, hR73, hB74, hO77, (by first | exact hd78 | exact Df.reL hd78)⟩
    · replace h := bif_f hb24 h
      refine c_exit ?_
      refine q_then_x ?_
      refine q_then_x ?_
      refine q_blk_hit ?_
      obtain rfl := Option.some.inj h
      obtain rfl := hres _ rfl
      exact ⟨rfl, _, σ16, a20, c21, fr_join ⟨rfl, rfl, rfl, trivial⟩, rfl, hK, hR17, hR18, hB19, hO22, (by first | exact hd23 | exact Df.reL hd23)⟩
  · clear hj
    have h := h'
    clear h'
    rintro e a w ⟨rfl, ρ, σ79, a83, c84, rfl, rfl, hK, hR80, hR81, hB82, hO85, hd86⟩
    refine q_then ?_
    refine c_seq ?_
    refine rg ?_
    refine st (v := (Sl a83 o13 c84)) (rv_move rfl) ?_
    refine st (v := (.agg #[(I x_1.1), (Sl ax_1_1 x_1.2.1 cx_1_1), (I x_1.2.2)])) (rv_load (cs := [(I x_1.1), (Sl ax_1_1 x_1.2.1 cx_1_1), (I x_1.2.2)]) Try.underlying26 rfl ti26 rfl rfl hB82.all) ?_
    obtain ⟨r87, hx88, h'⟩ := bind_some h
    clear h
    have h := h'; clear h'
    refine st_call (c_spec_copyItem hR81 hx88) rfl ?_
    have hd94 := hO85.ltb
    have hd95 := hB82.ltb
    have hKs := hK.size
    rintro _ σ89 m90 ⟨a91, c92, rfl, hR93⟩
    replace hR80 := hR80.mod m90
    replace hR81 := hR81.mod m90
    replace hO85 := hO85.mod0 m90
    replace hB82 := hB82.mod0 m90
    replace hK := hK.none m90
    replace hR93 := hR93.low hKs
    clear hKs m90
    refine st_buildSlice (lo := σ0.size) (el := σ0.size) (xs := ([(r87.1, r87.2.1, r87.2.2)] : List (Int × (List Int) × Int))) (ps := [(0, (.agg #[(I r87.1), (Sl a91 r87.2.1 c92), (I r87.2.2)]))]) (cs := [(I r87.1), (Sl a91 r87.2.1 c92), (I r87.2.2)]) Try.underlying23 ti26 rfl rfl (by kernel_rfl) (.cons (c := [(I r87.1), (Sl a91 r87.2.1 c92), (I r87.2.2)]) ⟨[(I r87.1)], [(Sl a91 r87.2.1 c92), (I r87.2.2)], rfl, rfl, ⟨[(Sl a91 r87.2.1 c92)], [(I r87.2.2)], rfl, ⟨_, rfl, hR93⟩, rfl⟩⟩ (.nil)) rfl ?_ hK.size (wanted_none _ rfl _)
    intro b97 σ98 hbn100 m99 hO96
    have hd101 := hO85.df' hbn100
    have hd102 := hB82.df' hbn100
    replace hR80 := hR80.mod m99
    replace hR81 := hR81.mod m99
    replace hO85 := hO85.mod0 m99
    replace hR93 := hR93.mod m99
    replace hB82 := hB82.mod0 m99
    replace hK := hK.none m99
    clear hbn100 m99
    obtain ⟨xs103, hx104, h'⟩ := bind_some h
    clear h
    have h := h'; clear h'
    have hg105 := hO85.ge
    refine st_append Try.underlying23 Try.underlying23 ti26 rfl rfl (by decide) hO85 hO96.rd hx104 hK.size rfl rfl ?_ (wanted_none _ rfl _)
    have hd112 := hB82.ltb
    intro a110 c111 σ106 m107 hO108 hq109
    replace hR80 := hR80.mod m107
    replace hR81 := hR81.mod m107
    replace hB82 := hB82.mod' m107 (by first | exact (hd86).symm | exact Df.reR (hd86).symm)
    replace hK := hK.own m107 hg105
    have hd113 := Df.app (hd86).symm hd112 hq109
    clear hq109 m107
    refine st (v := (Sl a110 xs103 c111)) (rv_assign rfl) ?_
    refine w_end ?_
    refine q_then ?_
    refine c_seq ?_
    refine c_seq ?_
    refine rg ?_
    refine st (v := (I 0)) (rv_assign rfl) ?_
    refine w_end ?_
    refine q_then ?_
    obtain ⟨o114, hj, h'⟩ := bind_some h
    clear h
    refine c_cut (fun e a w => e = .normal ∧ ∃ (ρ : Nat → Value) (σ : St) (aj1 : Option Addr) (cj2 : Nat), a = fr 59 (updL ρ [(5, (Sl aj1 o114 cj2))]) ∧ w = σ.w ∧ Mod none σ0 σ ∧ Ow σ σ0.size σ0.size (Sl aj1 o114 cj2) o114) ?_ ?_
    · clear h'
      rename _ = some o114 => h
      refine c_blk ?_
      refine wp_loopM _ h (fun s115 a w => ∃ (ρ : Nat → Value) (σ : St) (aj4 : Option Addr) (cj5 : Nat), a = fr 59 (updL ρ [(0, (Sl alist_0 list_0 clist_0)), (3, (pt b2 0)), (5, (Sl aj4 s115.1 cj5)), (7, (I s115.2))]) ∧ w = σ.w ∧ Mod none σ0 σ ∧ RS 0 σ (Sl alist_0 list_0 clist_0) list_0 ∧ RS 0 σ (Sl ax_1_1 x_1.2.1 cx_1_1) x_1.2.1 ∧ Bx σ b2 [(I x_1.1), (Sl ax_1_1 x_1.2.1 cx_1_1), (I x_1.2.2)] ∧ Ow σ σ0.size σ0.size (Sl aj4 s115.1 cj5) s115.1 ∧ Df (blk (Sl aj4 s115.1 cj5)) (some b2)) ⟨_, σ106, a110, c111, fr_join ⟨rfl, rfl, rfl, rfl, trivial⟩, rfl, hK, hR80, hR81, hB82, hO108, (by first | exact (hd113).symm | exact Df.reL (hd113).symm)⟩ ?_
      clear h
      rintro s115 a w o ⟨ρ, σ117, a121, c122, rfl, rfl, hK, hR118, hR119, hB120, hO123, hd124⟩ h hres
      refine c_seq ?_
      refine c_seq ?_
      refine rg ?_
      refine st (v := (I s115.2)) (rv_move rfl) ?_
      refine st (v := (Sl alist_0 list_0 clist_0)) (rv_move rfl) ?_
      refine st (v := (I (list_0.length : Int))) (rv_len Try.underlying23 rfl) ?_
      refine st (v := (B (decide (s115.2 < (list_0.length : Int))))) (rv_lss (a := s115.2) (b := (list_0.length : Int)) rfl rfl) ?_
      refine w_end ?_
      refine q_then ?_
      refine cd_cond (decide (s115.2 < (list_0.length : Int))) rfl (fun hb125 => ?_) (fun hb125 => ?_)
      · replace h := bif_t hb125 h
        refine c_skip ?_
        refine q_then ?_
        refine c_seq ?_
        obtain ⟨o126, hj, h'⟩ := bind_some h
        clear h
        refine c_cut (fun e a w => e = .normal ∧ ∃ (ρ : Nat → Value) (σ : St) (aj4 : Option Addr) (cj5 : Nat), a = fr 59 (updL ρ [(0, (Sl alist_0 list_0 clist_0)), (3, (pt b2 0)), (5, (Sl aj4 o126 cj5)), (7, (I s115.2))]) ∧ w = σ.w ∧ Mod none σ0 σ ∧ RS 0 σ (Sl alist_0 list_0 clist_0) list_0 ∧ RS 0 σ (Sl ax_1_1 x_1.2.1 cx_1_1) x_1.2.1 ∧ Bx σ b2 [(I x_1.1), (Sl ax_1_1 x_1.2.1 cx_1_1), (I x_1.2.2)] ∧ Ow σ σ0.size σ0.size (Sl aj4 o126 cj5) o126 ∧ Df (blk (Sl aj4 o126 cj5)) (some b2)) ?_ ?_
        · clear h'
          rename _ = some o126 => h
          refine c_blk ?_
          refine c_seq ?_
          obtain ⟨x127, hx128, h'⟩ := bind_some h
          clear h
          have h := h'; clear h'
          obtain ⟨b130, o131, hi129, -⟩ := hR118.ix hx128
          refine rg_monoL (σ := σ117) 7 [eqv (Sl alist_0 list_0 clist_0), eqv (I s115.2), eqv (pt b130 o131), eqv (pt b130 (o131 + 0)), eqv (I x127.1), eqv (pt b2 0), eqv (I x_1.1)] (by kernel_rfl) (by kernel_rfl) (mono_cons mono_eqv (mono_cons mono_eqv (mono_cons mono_eqv (mono_cons mono_eqv (mono_cons mono_eqv (mono_cons mono_eqv (mono_cons mono_eqv (mono_nil)))))))) ?_ ?_
          · refine all_cons (by
                intro ρ σm m hoff hdep
                have e0 : look 59 ρ 0 = (Sl alist_0 list_0 clist_0) := look_off (hoff 0 rfl) rfl
                exact does_v (v := (Sl alist_0 list_0 clist_0)) (wanted_none _ rfl _) (rv_move e0) rfl) ?_
            refine all_cons (by
                intro ρ σm m hoff hdep
                have e7 : look 59 ρ 7 = (I s115.2) := look_off (hoff 7 rfl) rfl
                exact does_v (v := (I s115.2)) (wanted_none _ rfl _) (rv_move e7) rfl) ?_
            refine all_cons (by
                intro ρ σm m hoff hdep
                have e42 : look 59 ρ 42 = (Sl alist_0 list_0 clist_0) := hdep 0 rfl rfl 42 rfl
                have e43 : look 59 ρ 43 = (I s115.2) := hdep 1 rfl rfl 43 rfl
                exact does_v (v := (pt b130 o131)) (wanted_none _ rfl _) (rv_ix Try.underlying23 ti26 e42 e43 hi129) rfl) ?_
            refine all_cons (by
                intro ρ σm m hoff hdep
                have e44 : look 59 ρ 44 = (pt b130 o131) := hdep 2 rfl rfl 44 rfl
                exact does_v (v := (pt b130 (o131 + 0))) (wanted_none _ rfl _) (rv_fieldAddr (off := 0) (ft := 3) Try.underlying26 rfl ti3 rfl e44) rfl) ?_
            refine all_cons (by
                intro ρ σm m hoff hdep
                have e45 : look 59 ρ 45 = (pt b130 (o131 + 0)) := hdep 3 rfl rfl 45 rfl
                replace hR118 := hR118.mod m
                exact does_v (v := (I x127.1)) (wanted_none _ rfl _) (rv_load1 Try.underlying3 rfl e45 (hR118.at hx128 hi129).fst.int) rfl) ?_
            refine all_cons (by
                intro ρ σm m hoff hdep
                have e3 : look 59 ρ 3 = (pt b2 0) := look_off (hoff 3 rfl) rfl
                exact does_v (v := (pt b2 0)) (wanted_none _ rfl _) (rv_fieldAddr (off := 0) (ft := 3) Try.underlying26 rfl ti3 rfl e3) rfl) ?_
            refine all_cons (by
                intro ρ σm m hoff hdep
                have e47 : look 59 ρ 47 = (pt b2 0) := hdep 5 rfl rfl 47 rfl
                replace hB120 := hB120.mod0 m
                exact does_v (v := (I x_1.1)) (wanted_none _ rfl _) (rv_load1 Try.underlying3 rfl e47 (hB120.cell' 0 rfl rfl)) rfl) ?_
            exact all_nil
          · intro ρ σ132 m hoff hrel
            have e0 : look 59 ρ 0 = (Sl alist_0 list_0 clist_0) := look_off (hoff 0 rfl) rfl
            have e3 : look 59 ρ 3 = (pt b2 0) := look_off (hoff 3 rfl) rfl
            have e5 : look 59 ρ 5 = (Sl a121 s115.1 c122) := look_off (hoff 5 rfl) rfl
            have e7 : look 59 ρ 7 = (I s115.2) := look_off (hoff 7 rfl) rfl
            have e46 : look 59 ρ 46 = (I x127.1) := hrel 4 rfl 46 rfl
            have e48 : look 59 ρ 48 = (I x_1.1) := hrel 6 rfl 48 rfl
            replace hR118 := hR118.mod m
            replace hR119 := hR119.mod m
            replace hO123 := hO123.mod0 m
            replace hB120 := hB120.mod0 m
            replace hK := hK.none m
            rw [fr_lookL (L := [(0, (Sl alist_0 list_0 clist_0)), (3, (pt b2 0)), (5, (Sl a121 s115.1 c122)), (7, (I s115.2)), (46, (I x127.1)), (48, (I x_1.1))]) ⟨e0, e3, e5, e7, e46, e48, trivial⟩]
            clear hoff hrel m e0 e3 e5 e7 e46 e48
            refine st (v := (B (decide (x_1.1 < x127.1)))) (rv_gtr (a := x127.1) (b := x_1.1) rfl rfl) ?_
            refine w_end ?_
            refine q_then ?_
            refine cd_cond (decide (x_1.1 < x127.1)) rfl (fun hb133 => ?_) (fun hb133 => ?_)
            · replace h := bif_t hb133 h
              refine rg ?_
              refine st (v := (Sl a121 s115.1 c122)) (rv_move rfl) ?_
              refine st (v := (Sl alist_0 list_0 clist_0)) (rv_move rfl) ?_
              refine st (v := (I s115.2)) (rv_move rfl) ?_
              obtain ⟨x134, hx135, h'⟩ := bind_some h
              clear h
              have h := h'; clear h'
              obtain ⟨b137, o138, hi136, -⟩ := hR118.ix hx135
              refine st (v := (pt b137 o138)) (rv_ix Try.underlying23 ti26 rfl rfl hi136) ?_
              obtain ⟨_, ⟨_, _, rfl, rfl, ⟨_, _, rfl, ⟨_, rfl, hR144⟩, rfl⟩⟩, hl140, hc141⟩ := (hR118.at hx135 hi136).cells
              obtain ⟨a142, c143, rfl⟩ := hR144.isSl
              refine st (v := (.agg #[(I x134.1), (Sl a142 x134.2.1 c143), (I x134.2.2)])) (rv_load Try.underlying26 rfl ti26 rfl hl140 hc141) ?_
              obtain ⟨r145, hx146, h'⟩ := bind_some h
              clear h
              have h := h'; clear h'
              refine st_call (c_spec_copyItem hR144 hx146) rfl ?_
              have hd152 := hO123.ltb
              have hd153 := hB120.ltb
              have hKs := hK.size
              rintro _ σ147 m148 ⟨a149, c150, rfl, hR151⟩
              replace hR118 := hR118.mod m148
              replace hR119 := hR119.mod m148
              replace hO123 := hO123.mod0 m148
              replace hR144 := hR144.mod m148
              replace hB120 := hB120.mod0 m148
              replace hK := hK.none m148
              replace hR151 := hR151.low hKs
              clear hKs m148
              refine st_buildSlice (lo := σ0.size) (el := σ0.size) (xs := ([(r145.1, r145.2.1, r145.2.2)] : List (Int × (List Int) × Int))) (ps := [(0, (.agg #[(I r145.1), (Sl a149 r145.2.1 c150), (I r145.2.2)]))]) (cs := [(I r145.1), (Sl a149 r145.2.1 c150), (I r145.2.2)]) Try.underlying23 ti26 rfl rfl (by kernel_rfl) (.cons (c := [(I r145.1), (Sl a149 r145.2.1 c150), (I r145.2.2)]) ⟨[(I r145.1)], [(Sl a149 r145.2.1 c150), (I r145.2.2)], rfl, rfl, ⟨[(Sl a149 r145.2.1 c150)], [(I r145.2.2)], rfl, ⟨_, rfl, hR151⟩, rfl⟩⟩ (.nil)) rfl ?_ hK.size (wanted_none _ rfl _)
              intro b155 σ156 hbn158 m157 hO154
              have hd159 := hO123.df' hbn158
              have hd160 := hB120.df' hbn158
              replace hR118 := hR118.mod m157
              replace hR119 := hR119.mod m157
              replace hO123 := hO123.mod0 m157
              replace hR151 := hR151.mod m157
              replace hB120 := hB120.mod0 m157
              replace hK := hK.none m157
              clear hbn158 m157
              obtain ⟨xs161, hx162, h'⟩ := bind_some h
              clear h
              have h := h'; clear h'
              have hg163 := hO123.ge
              refine st_append Try.underlying23 Try.underlying23 ti26 rfl rfl (by decide) hO123 hO154.rd hx162 hK.size rfl rfl ?_ (wanted_none _ rfl _)
              have hd170 := hB120.ltb
              intro a168 c169 σ164 m165 hO166 hq167
              replace hR118 := hR118.mod m165
              replace hR119 := hR119.mod m165
              replace hB120 := hB120.mod' m165 (by first | exact (hd124).symm | exact Df.reR (hd124).symm)
              replace hK := hK.own m165 hg163
              have hd171 := Df.app (hd124).symm hd170 hq167
              clear hq167 m165
              refine st (v := (Sl a168 xs161 c169)) (rv_assign rfl) ?_
              refine w_end ?_
              refine q_blk ?_
              obtain rfl := Option.some.inj h
              exact ⟨rfl, _, σ164, a168, c169, fr_join ⟨rfl, rfl, rfl, rfl, trivial⟩, rfl, hK, hR118, hR119, hB120, hO166, (by first | exact (hd171).symm | exact Df.reL (hd171).symm)⟩
            · replace h := bif_f hb133 h
              refine c_skip ?_
              refine q_blk ?_
              obtain rfl := Option.some.inj h
              exact ⟨rfl, _, σ132, a121, c122, fr_join ⟨rfl, rfl, rfl, rfl, trivial⟩, rfl, hK, hR118, hR119, hB120, hO123, (by first | exact hd124 | exact Df.reL hd124)⟩
        · clear hj
          have h := h'
          clear h'
          rintro e a w ⟨rfl, ρ, σ172, a176, c177, rfl, rfl, hK, hR173, hR174, hB175, hO178, hd179⟩
          refine q_then ?_
          refine rg ?_
          refine st (v := (I s115.2)) (rv_move rfl) ?_
          refine st (v := (I (w64 (s115.2 + 1)))) (rv_add (a := s115.2) (b := 1) rfl rfl) ?_
          refine st (v := (I (w64 (s115.2 + 1)))) (rv_assign rfl) ?_
          refine w_end ?_
          refine q_then ?_
          obtain rfl := Option.some.inj h
          exact ⟨_, rfl, _, σ172, a176, c177, fr_join ⟨rfl, rfl, rfl, rfl, trivial⟩, rfl, hK, hR173, hR174, hB175, hO178, (by first | exact hd179 | exact Df.reL hd179)⟩
      · replace h := bif_f hb125 h
        refine c_exit ?_
        refine q_then_x ?_
        refine q_then_x ?_
        refine q_blk_hit ?_
        obtain rfl := Option.some.inj h
        obtain rfl := hres _ rfl
        exact ⟨rfl, _, σ117, a121, c122, fr_join ⟨rfl, trivial⟩, rfl, hK, hO123⟩
    · clear hj
      have h := h'
      clear h'
      rintro e a w ⟨rfl, ρ, σ180, a181, c182, rfl, rfl, hK, hO183⟩
      refine q_then ?_
      refine c_seq ?_
      refine rg ?_
      refine st (v := (Sl a181 o114 c182)) (rv_move rfl) ?_
      refine st (v := (Sl a181 o114 c182)) (rv_assign rfl) ?_
      refine w_end ?_
      refine q_then ?_
      refine c_ret ?_
      obtain rfl := Option.some.inj h
      exact bodyPost_ret (v := (Sl a181 o114 c182)) (results_fr1 Try.results54 rfl _) rfl ⟨_, σ180, rfl, rfl, hK, a181, c182, rfl, hO183⟩

theorem c_spec_PutItem {σ0 : St} {list_0 : List (Int × (List Int) × Int)} {x_1 : Int × (List Int) × Int} {alist_0 : Option Addr} {clist_0 : Nat} (hRlist_0 : RS 0 σ0 (Sl alist_0 list_0 clist_0) list_0) {ax_1_1 : Option Addr} {cx_1_1 : Nat} (hRx_1_1 : RS 0 σ0 (Sl ax_1_1 x_1.2.1 cx_1_1) x_1.2.1) {r : (List (Int × (List Int) × Int)) × Bool} (h : M.spec_PutItem list_0 x_1 = some r) :
    Cal Try.prog 17 [(Sl alist_0 list_0 clist_0), (.agg #[(I x_1.1), (Sl ax_1_1 x_1.2.1 cx_1_1), (I x_1.2.2)])] none σ0 (fun v σ' => ∃ (a0 : Option Addr) (c0 : Nat), v = (.tuple #[(Sl a0 r.1 c0), (B r.2)]) ∧ Ow σ' σ0.size σ0.size (Sl a0 r.1 c0) r.1) := by
  refine ⟨⟨_, _, Try.func17, rfl, rfl⟩, ?_⟩
  refine enter (n := 22) Try.func17 rfl rfl rfl ?_
  unfold M.spec_PutItem at h
  have hK : Mod none σ0 σ0 := Mod.refl _ _
  refine c_seq ?_
  refine rg ?_
  refine st_box (cs := [(I x_1.1), (Sl ax_1_1 x_1.2.1 cx_1_1), (I x_1.2.2)]) rfl rfl ?_ (wanted_none _ rfl _)
  intro b2 σ4 hbn6 m5 hB1
  have hge3 := Nat.le_trans hK.size (Nat.le_of_eq hbn6)
  replace hRlist_0 := hRlist_0.mod m5
  replace hRx_1_1 := hRx_1_1.mod m5
  replace hK := hK.none m5
  clear hbn6 m5
  refine st (v := (.slice none 0 0)) (rv_assign rfl) ?_
  refine st (v := (B false)) (rv_assign rfl) ?_
  refine w_end ?_
  refine q_then ?_
  refine c_seq ?_
  refine c_seq ?_
  obtain ⟨o7, hj, h'⟩ := bind_some h
  clear h
  refine c_cut (fun e a w => e = .normal ∧ ∃ (ρ : Nat → Value) (σ : St), a = fr 22 (updL ρ [(0, (Sl alist_0 list_0 clist_0)), (3, (pt b2 0)), (14, (B o7))]) ∧ w = σ.w ∧ Mod none σ0 σ ∧ RS 0 σ (Sl alist_0 list_0 clist_0) list_0 ∧ RS 0 σ (Sl ax_1_1 x_1.2.1 cx_1_1) x_1.2.1 ∧ Bx σ b2 [(I x_1.1), (Sl ax_1_1 x_1.2.1 cx_1_1), (I x_1.2.2)]) ?_ ?_
  · clear h'
    rename _ = some o7 => h
    refine rg ?_
    refine st (v := (Sl alist_0 list_0 clist_0)) (rv_move rfl) ?_
    obtain ⟨r8, hx9, h'⟩ := bind_some h
    clear h
    have h := h'; clear h'
    refine st_call (c_spec_validStore hRlist_0 hx9) rfl ?_
    have hd12 := hB1.ltb
    have hKs := hK.size
    rintro _ σ10 m11 rfl
    replace hRlist_0 := hRlist_0.mod m11
    replace hRx_1_1 := hRx_1_1.mod m11
    replace hB1 := hB1.mod0 m11
    replace hK := hK.none m11
    clear hKs m11
    refine st (v := (B (!r8))) (rv_not rfl) ?_
    refine st (v := (B (!r8))) (rv_move rfl) ?_
    rcases Bool.eq_false_or_eq_true (!r8) with hb13 | hb13
    · replace h := bif_t hb13 h
      refine st_skip (congrArg some hb13) ?_
      refine st_skip (congrArg some hb13) ?_
      refine st_skip (congrArg some hb13) ?_
      refine st (v := (B true)) (rv_pick_t (congrArg B hb13) rfl) ?_
      refine w_end ?_
      obtain rfl := Option.some.inj h
      exact ⟨rfl, _, σ10, fr_join ⟨rfl, rfl, rfl, trivial⟩, rfl, hK, hRlist_0, hRx_1_1, hB1⟩
    · replace h := bif_f hb13 h
      refine st_g (v := (.agg #[(I x_1.1), (Sl ax_1_1 x_1.2.1 cx_1_1), (I x_1.2.2)])) (congrArg some hb13) (rv_load (cs := [(I x_1.1), (Sl ax_1_1 x_1.2.1 cx_1_1), (I x_1.2.2)]) Try.underlying26 rfl ti26 rfl rfl hB1.all) ?_
      obtain ⟨r14, hx15, h'⟩ := bind_some h
      clear h
      have h := h'; clear h'
      refine st_call_g (by exact (congrArg some hb13)) (c_spec_validItem hRx_1_1 hx15) rfl ?_
      have hd18 := hB1.ltb
      have hKs := hK.size
      rintro _ σ16 m17 rfl
      replace hRlist_0 := hRlist_0.mod m17
      replace hRx_1_1 := hRx_1_1.mod m17
      replace hB1 := hB1.mod0 m17
      replace hK := hK.none m17
      clear hKs m17
      refine st_g (v := (B (!r14))) (congrArg some hb13) (rv_not rfl) ?_
      refine st (v := (B (!r14))) (rv_pick_f (congrArg B hb13) rfl) ?_
      refine w_end ?_
      obtain rfl := Option.some.inj h
      exact ⟨rfl, _, σ16, fr_join ⟨rfl, rfl, rfl, trivial⟩, rfl, hK, hRlist_0, hRx_1_1, hB1⟩
  · clear hj
    have h := h'
    clear h'
    rintro e a w ⟨rfl, ρ, σ19, rfl, rfl, hK, hR20, hR21, hB22⟩
    refine q_then ?_
    refine cd_cond o7 rfl (fun hb23 => ?_) (fun hb23 => ?_)
    · replace h := bif_t hb23 h
      refine c_seq ?_
      refine rg ?_
      refine st (v := (.slice none 0 0)) (rv_assign rfl) ?_
      refine st (v := (B false)) (rv_assign rfl) ?_
      refine w_end ?_
      refine q_then ?_
      refine c_ret ?_
      refine q_then_r ?_
      obtain rfl := Option.some.inj h
      exact bodyPost_ret (v := (.tuple #[(.slice none 0 0), (B false)])) (results_fr2 Try.results17 rfl rfl _) rfl ⟨_, σ19, rfl, rfl, hK, none, 0, rfl, Ow.nil⟩
    · replace h := bif_f hb23 h
      refine c_skip ?_
      refine q_then ?_
      refine c_seq ?_
      refine rg ?_
      refine st (v := (Sl alist_0 list_0 clist_0)) (rv_move rfl) ?_
      refine st (v := (.agg #[(I x_1.1), (Sl ax_1_1 x_1.2.1 cx_1_1), (I x_1.2.2)])) (rv_load (cs := [(I x_1.1), (Sl ax_1_1 x_1.2.1 cx_1_1), (I x_1.2.2)]) Try.underlying26 rfl ti26 rfl rfl hB22.all) ?_
      obtain ⟨r24, hx25, h'⟩ := bind_some h
      clear h
      have h := h'; clear h'
      refine st_call (c_spec_put hR20 hR21 hx25) rfl ?_
      have hKs := hK.size
      rintro _ σ26 m27 ⟨a28, c29, rfl, hO30⟩
      replace hR20 := hR20.mod m27
      replace hR21 := hR21.mod m27
      replace hK := hK.none m27
      have hO30g := hO30.ge
      replace hO30 := hO30.lo hKs
      replace hO30 := hO30.low' hKs
      clear hKs m27 hO30g
      refine st (v := (Sl a28 r24 c29)) (rv_assign rfl) ?_
      refine w_end ?_
      refine q_then ?_
      refine c_seq ?_
      refine c_seq ?_
      refine rg ?_
      refine st (v := (Sl a28 r24 c29)) (rv_move rfl) ?_
      obtain ⟨σ31, hw32, m33, hR34⟩ := hO30.pub' (Nat.le_refl _)
      rw [← hw32]
      obtain ⟨r35, hx36, h'⟩ := bind_some h
      clear h
      have h := h'; clear h'
      refine st_call (c_spec_validStore (hR34.low (Nat.zero_le _)) hx36) rfl ?_
      have hd39 := ltb_size hO30.ltb hw32
      have hKs := size_le hK.size hw32
      rintro _ σ37 m38 rfl
      obtain ⟨σ40, hw41, m42, hxl43, hvl44⟩ := lent hw32 m38
      rw [← hw41]
      replace hO30 := hO30.mod0 m42
      replace hK := hK.none m42
      clear hKs m42
      refine st (v := (B (!r35))) (rv_not rfl) ?_
      refine w_end ?_
      refine q_then ?_
      refine cd_cond (!r35) rfl (fun hb45 => ?_) (fun hb45 => ?_)
      · replace h := bif_t hb45 h
        refine c_seq ?_
        refine rg ?_
        refine st (v := (.slice none 0 0)) (rv_assign rfl) ?_
        refine st (v := (B false)) (rv_assign rfl) ?_
        refine w_end ?_
        refine q_then ?_
        refine c_ret ?_
        refine q_then_r ?_
        obtain rfl := Option.some.inj h
        exact bodyPost_ret (v := (.tuple #[(.slice none 0 0), (B false)])) (results_fr2 Try.results17 rfl rfl _) rfl ⟨_, σ40, rfl, rfl, hK, none, 0, rfl, Ow.nil⟩
      · replace h := bif_f hb45 h
        refine c_skip ?_
        refine q_then ?_
        refine c_seq ?_
        refine rg ?_
        refine st (v := (Sl a28 r24 c29)) (rv_move rfl) ?_
        refine st (v := (Sl a28 r24 c29)) (rv_assign rfl) ?_
        refine st (v := (B true)) (rv_assign rfl) ?_
        refine w_end ?_
        refine q_then ?_
        refine c_ret ?_
        obtain rfl := Option.some.inj h
        exact bodyPost_ret (v := (.tuple #[(Sl a28 r24 c29), (B true)])) (results_fr2 Try.results17 rfl rfl _) rfl ⟨_, σ40, rfl, rfl, hK, a28, c29, rfl, hO30⟩

theorem c_spec_someStore {σ0 : St} {r_0 : (List UInt8) × Int} {ar_0_0 : Option Addr} {cr_0_0 : Nat} (hRr_0_0 : RS 0 σ0 (Sl ar_0_0 r_0.1 cr_0_0) r_0.1) {br_0 : Nat} (hBr_0 : Bx σ0 br_0 [(Sl ar_0_0 r_0.1 cr_0_0), (I r_0.2)])  (hltr_0 : br_0 < σ0.size) {r : (List (Int × (List Int) × Int)) × ((List UInt8) × Int)} (h : M.spec_someStore r_0 = some r) :
    Cal Try.prog 74 [(pt br_0 0)] (some br_0) σ0 (fun v σ' => ∃ (a0 : Option Addr) (c0 : Nat), ∃ (a1 : Option Addr) (c1 : Nat), v = (Sl a0 r.1 c0) ∧ Ow σ' σ0.size σ0.size (Sl a0 r.1 c0) r.1 ∧ RS 0 σ' (Sl a1 r.2.1 c1) r.2.1 ∧ Bx σ' br_0 [(Sl a1 r.2.1 c1), (I r.2.2)]) := by
  refine ⟨⟨_, _, Try.func74, rfl, rfl⟩, ?_⟩
  refine enter (n := 25) Try.func74 rfl rfl rfl ?_
  unfold M.spec_someStore at h
  have hK : Mod (some br_0) σ0 σ0 := Mod.refl _ _
  refine c_seq ?_
  refine rg ?_
  refine st (v := (.slice none 0 0)) (rv_assign rfl) ?_
  refine w_end ?_
  refine q_then ?_
  refine c_seq ?_
  refine rg ?_
  refine st_buildSlice (lo := σ0.size) (el := σ0.size) (xs := ([] : List (Int × (List Int) × Int))) (ps := []) (cs := []) Try.underlying23 ti26 rfl rfl (by kernel_rfl) (.nil) rfl ?_ hK.size (wanted_none _ rfl _)
  intro b2 σ3 hbn5 m4 hO1
  replace hRr_0_0 := hRr_0_0.mod m4
  replace hBr_0 := hBr_0.mod0 m4
  replace hK := hK.none m4
  clear hbn5 m4
  refine st (v := (Sl (some ⟨b2, 0, none⟩) ([] : List (Int × (List Int) × Int)) 0)) (rv_assign rfl) ?_
  refine w_end ?_
  refine q_then ?_
  refine c_seq ?_
  refine c_seq ?_
  refine rg ?_
  refine st (v := (pt br_0 0)) (rv_move rfl) ?_
  refine st_buildSlice (lo := σ0.size) (el := σ0.size) (xs := ([4, 6, 8, 3, 1, 0, 20, 12] : List Int)) (ps := [(0, (I 4)), (1, (I 6)), (2, (I 8)), (3, (I 3)), (4, (I 1)), (5, (I 0)), (6, (I 20)), (7, (I 12))]) (cs := [(I 4), (I 6), (I 8), (I 3), (I 1), (I 0), (I 20), (I 12)]) Try.underlying24 ti3 rfl rfl (by kernel_rfl) (.cons (c := [(I 4)]) rfl (.cons (c := [(I 6)]) rfl (.cons (c := [(I 8)]) rfl (.cons (c := [(I 3)]) rfl (.cons (c := [(I 1)]) rfl (.cons (c := [(I 0)]) rfl (.cons (c := [(I 20)]) rfl (.cons (c := [(I 12)]) rfl (.nil))))))))) rfl ?_ hK.size (wanted_none _ rfl _)
  intro b7 σ8 hbn10 m9 hO6
  have hd11 := hO1.df' hbn10
  replace hRr_0_0 := hRr_0_0.mod m9
  replace hO1 := hO1.mod0 m9
  replace hBr_0 := hBr_0.mod0 m9
  replace hK := hK.none m9
  clear hbn10 m9
  have hg16 := hO6.ge
  obtain ⟨σ12, hw15, m13, hR14⟩ := hO6.pub' (Nat.le_refl _)
  rw [← hw15]; clear hw15
  replace hRr_0_0 := hRr_0_0.mod m13
  replace hO1 := hO1.mod' m13 (by first | exact hd11 | exact Df.re hd11)
  replace hBr_0 := hBr_0.mod' m13 (Df.ge (by rintro _ ⟨⟩; exact hltr_0) hO6.ge)
  replace hK := hK.own m13 hg16
  obtain ⟨r17, hx18, h'⟩ := bind_some h
  clear h
  have h := h'; clear h'
  refine st_call (c_spec_reader_one hRr_0_0 hBr_0 hBr_0.lt (hR14.low (Nat.zero_le _)) hx18) rfl ?_
  have hd25 := hO1.ltb
  have hKs := hK.size
  rintro _ σ19 m20 ⟨a21, c22, rfl, hR23, hB24⟩
  replace hRr_0_0 := hRr_0_0.mod m20
  replace hO1 := hO1.mod' m20 (Df.ge (by rintro _ ⟨⟩; exact hltr_0) hO1.ge).symm
  replace hR14 := hR14.mod m20
  replace hK := hK.self m20
  clear hKs m20
  refine st (v := (I r17.1)) (rv_assign rfl) ?_
  refine w_end ?_
  refine q_then ?_
  obtain ⟨o26, hj, h'⟩ := bind_some h
  clear h
  refine c_cut (fun e a w => e = .normal ∧ ∃ (ρ : Nat → Value) (σ : St) (aj1 : Option Addr) (cj2 : Nat) (aj5 : Option Addr) (cj6 : Nat), a = fr 25 (updL ρ [(0, (pt br_0 0)), (3, (Sl aj5 o26.2 cj6))]) ∧ w = σ.w ∧ Mod (some br_0) σ0 σ ∧ RS 0 σ (Sl aj1 o26.1.1 cj2) o26.1.1 ∧ Bx σ br_0 [(Sl aj1 o26.1.1 cj2), (I o26.1.2)] ∧ Ow σ σ0.size σ0.size (Sl aj5 o26.2 cj6) o26.2) ?_ ?_
  · clear h'
    rename _ = some o26 => h
    refine c_blk ?_
    refine wp_loopM _ h (fun s27 a w => ∃ (ρ : Nat → Value) (σ : St) (aj1 : Option Addr) (cj2 : Nat) (aj5 : Option Addr) (cj6 : Nat), a = fr 25 (updL ρ [(0, (pt br_0 0)), (3, (Sl aj5 s27.2.1 cj6)), (4, (I s27.2.2))]) ∧ w = σ.w ∧ Mod (some br_0) σ0 σ ∧ RS 0 σ (Sl aj1 s27.1.1 cj2) s27.1.1 ∧ Bx σ br_0 [(Sl aj1 s27.1.1 cj2), (I s27.1.2)] ∧ Ow σ σ0.size σ0.size (Sl aj5 s27.2.1 cj6) s27.2.1) ⟨_, σ19, a21, c22, (some ⟨b2, 0, none⟩), 0, fr_join ⟨rfl, rfl, rfl, trivial⟩, rfl, hK, hR23, hB24, hO1⟩ ?_
    clear h
    rintro s27 a w o ⟨ρ, σ29, a30, c31, a34, c35, rfl, rfl, hK, hR32, hB33, hO36⟩ h hres
    refine c_seq ?_
    refine c_seq ?_
    refine rg ?_
    refine st (v := (I s27.2.2)) (rv_move rfl) ?_
    refine st (v := (B (decide (0 < s27.2.2)))) (rv_gtr (a := s27.2.2) (b := 0) rfl rfl) ?_
    refine w_end ?_
    refine q_then ?_
    refine cd_cond (decide (0 < s27.2.2)) rfl (fun hb37 => ?_) (fun hb37 => ?_)
    · replace h := bif_t hb37 h
      refine c_skip ?_
      refine q_then ?_
      refine c_seq ?_
      obtain ⟨o38, hj, h'⟩ := bind_some h
      clear h
      refine c_cut (fun e a w => e = .normal ∧ ∃ (ρ : Nat → Value) (σ : St) (aj1 : Option Addr) (cj2 : Nat) (aj5 : Option Addr) (cj6 : Nat), a = fr 25 (updL ρ [(0, (pt br_0 0)), (3, (Sl aj5 o38.2 cj6)), (4, (I s27.2.2))]) ∧ w = σ.w ∧ Mod (some br_0) σ0 σ ∧ RS 0 σ (Sl aj1 o38.1.1 cj2) o38.1.1 ∧ Bx σ br_0 [(Sl aj1 o38.1.1 cj2), (I o38.1.2)] ∧ Ow σ σ0.size σ0.size (Sl aj5 o38.2 cj6) o38.2) ?_ ?_
      · clear h'
        rename _ = some o38 => h
        refine c_blk ?_
        refine c_seq ?_
        refine rg ?_
        refine st (v := (Sl a34 s27.2.1 c35)) (rv_move rfl) ?_
        refine st (v := (pt br_0 0)) (rv_move rfl) ?_
        obtain ⟨r39, hx40, h'⟩ := bind_some h
        clear h
        have h := h'; clear h'
        refine st_call (c_spec_someItem hR32 hB33 hB33.lt hx40) rfl ?_
        have hd50 := hO36.ltb
        have hKs := hK.size
        rintro _ σ41 m42 ⟨a43, c44, a46, c47, rfl, hR45, hR48, hB49⟩
        replace hR32 := hR32.mod m42
        replace hO36 := hO36.mod' m42 (Df.ge (by rintro _ ⟨⟩; exact hltr_0) hO36.ge).symm
        replace hK := hK.self m42
        replace hR45 := hR45.low hKs
        clear hKs m42
        obtain ⟨σ51, hw52, m53, hR54⟩ := hO36.pub' (Nat.le_refl _)
        rw [← hw52]
        obtain ⟨r55, hx56, h'⟩ := bind_some h
        clear h
        have h := h'; clear h'
        refine st_call (c_spec_PutItem (hR54.low (Nat.zero_le _)) ((hR45.low (Nat.zero_le _)).mod m53) hx56) rfl ?_
        have hd62 := ltb_size hO36.ltb hw52
        have hKs := size_le hK.size hw52
        rintro _ σ57 m58 ⟨a59, c60, rfl, hO61⟩
        obtain ⟨σ63, hw64, m65, hxl66, hvl67⟩ := lent hw52 m58
        rw [← hw64]
        replace hO61 := hO61.lent hw52 hw64 hxl66 hvl67 (Nat.le_refl _)
        replace hR48 := hR48.mod m65
        replace hO36 := hO36.mod0 m65
        replace hR45 := hR45.mod m65
        replace hB49 := hB49.mod0 m65
        replace hK := hK.none m65
        have hO61g := hO61.ge
        replace hO61 := hO61.lo hKs
        replace hO61 := hO61.low' hKs
        have hd68 := Df.ge hd62 hO61g
        clear hKs m65 hO61g
        refine st (v := (.tuple #[(Sl a59 r55.1 c60), (B r55.2)])) (rv_move rfl) ?_
        refine st (v := (Sl a59 r55.1 c60)) (rv_extract rfl rfl) ?_
        refine st (v := (B r55.2)) (rv_extract rfl rfl) ?_
        refine st (v := (Sl a59 r55.1 c60)) (rv_assign rfl) ?_
        refine st (v := (B r55.2)) (rv_assign rfl) ?_
        refine w_end ?_
        refine q_then ?_
        refine c_seq ?_
        refine rg ?_
        refine st (v := (B r55.2)) (rv_move rfl) ?_
        refine w_end ?_
        refine q_then ?_
        refine cd_cond r55.2 rfl (fun hb69 => ?_) (fun hb69 => ?_)
        · replace h := bif_t hb69 h
          refine rg ?_
          refine st (v := (Sl a59 r55.1 c60)) (rv_move rfl) ?_
          refine st (v := (Sl a59 r55.1 c60)) (rv_assign rfl) ?_
          refine w_end ?_
          refine q_blk ?_
          obtain rfl := Option.some.inj h
          exact ⟨rfl, _, σ63, a46, c47, a59, c60, fr_join ⟨rfl, rfl, rfl, trivial⟩, rfl, hK, hR48, hB49, hO61⟩
        · replace h := bif_f hb69 h
          refine c_skip ?_
          refine q_blk ?_
          obtain rfl := Option.some.inj h
          exact ⟨rfl, _, σ63, a46, c47, a34, c35, fr_join ⟨rfl, rfl, rfl, trivial⟩, rfl, hK, hR48, hB49, hO36⟩
      · clear hj
        have h := h'
        clear h'
        rintro e a w ⟨rfl, ρ, σ70, a71, c72, a75, c76, rfl, rfl, hK, hR73, hB74, hO77⟩
        refine q_then ?_
        refine rg ?_
        refine st (v := (I s27.2.2)) (rv_move rfl) ?_
        refine st (v := (I (w64 (s27.2.2 - 1)))) (rv_sub (a := s27.2.2) (b := 1) rfl rfl) ?_
        refine st (v := (I (w64 (s27.2.2 - 1)))) (rv_assign rfl) ?_
        refine w_end ?_
        refine q_then ?_
        obtain rfl := Option.some.inj h
        exact ⟨_, rfl, _, σ70, a71, c72, a75, c76, fr_join ⟨rfl, rfl, rfl, trivial⟩, rfl, hK, hR73, hB74, hO77⟩
    · replace h := bif_f hb37 h
      refine c_exit ?_
      refine q_then_x ?_
      refine q_then_x ?_
      refine q_blk_hit ?_
      obtain rfl := Option.some.inj h
      obtain rfl := hres _ rfl
      exact ⟨rfl, _, σ29, a30, c31, a34, c35, fr_join ⟨rfl, rfl, trivial⟩, rfl, hK, hR32, hB33, hO36⟩
  · clear hj
    have h := h'
    clear h'
    rintro e a w ⟨rfl, ρ, σ78, a79, c80, a83, c84, rfl, rfl, hK, hR81, hB82, hO85⟩
    refine q_then ?_
    refine c_seq ?_
    refine rg ?_
    refine st (v := (Sl a83 o26.2 c84)) (rv_move rfl) ?_
    refine st (v := (Sl a83 o26.2 c84)) (rv_assign rfl) ?_
    refine w_end ?_
    refine q_then ?_
    refine c_ret ?_
    obtain rfl := Option.some.inj h
    exact bodyPost_ret (v := (Sl a83 o26.2 c84)) (results_fr1 Try.results74 rfl _) rfl ⟨_, σ78, rfl, rfl, hK, a83, c84, a79, c80, rfl, hO85, hR81, hB82⟩

theorem c_spec_anyStore {σ0 : St} {r_0 : (List UInt8) × Int} {ar_0_0 : Option Addr} {cr_0_0 : Nat} (hRr_0_0 : RS 0 σ0 (Sl ar_0_0 r_0.1 cr_0_0) r_0.1) {br_0 : Nat} (hBr_0 : Bx σ0 br_0 [(Sl ar_0_0 r_0.1 cr_0_0), (I r_0.2)])  (hltr_0 : br_0 < σ0.size) {r : (List (Int × (List Int) × Int)) × ((List UInt8) × Int)} (h : M.spec_anyStore r_0 = some r) :
    Cal Try.prog 45 [(pt br_0 0)] (some br_0) σ0 (fun v σ' => ∃ (a0 : Option Addr) (c0 : Nat), ∃ (a1 : Option Addr) (c1 : Nat), v = (Sl a0 r.1 c0) ∧ Ow σ' σ0.size σ0.size (Sl a0 r.1 c0) r.1 ∧ RS 0 σ' (Sl a1 r.2.1 c1) r.2.1 ∧ Bx σ' br_0 [(Sl a1 r.2.1 c1), (I r.2.2)]) := by
  refine ⟨⟨_, _, Try.func45, rfl, rfl⟩, ?_⟩
  refine enter (n := 30) Try.func45 rfl rfl rfl ?_
  unfold M.spec_anyStore at h
  have hK : Mod (some br_0) σ0 σ0 := Mod.refl _ _
  refine c_seq ?_
  refine rg ?_
  refine st (v := (.slice none 0 0)) (rv_assign rfl) ?_
  refine w_end ?_
  refine q_then ?_
  refine c_seq ?_
  refine rg ?_
  refine st (v := (pt br_0 0)) (rv_move rfl) ?_
  obtain ⟨r1, hx2, h'⟩ := bind_some h
  clear h
  have h := h'; clear h'
  refine st_call (c_spec_someStore hRr_0_0 hBr_0 hBr_0.lt hx2) rfl ?_
  have hKs := hK.size
  rintro _ σ3 m4 ⟨a5, c6, a8, c9, rfl, hO7, hR10, hB11⟩
  replace hRr_0_0 := hRr_0_0.mod m4
  replace hK := hK.self m4
  have hO7g := hO7.ge
  replace hO7 := hO7.lo hKs
  replace hO7 := hO7.low' hKs
  clear hKs m4 hO7g
  refine st (v := (Sl a5 r1.1 c6)) (rv_assign rfl) ?_
  refine w_end ?_
  refine q_then ?_
  refine c_seq ?_
  refine c_seq ?_
  refine rg ?_
  refine st (v := (pt br_0 0)) (rv_move rfl) ?_
  obtain ⟨r12, hx13, h'⟩ := bind_some h
  clear h
  have h := h'; clear h'
  refine st_call (c_spec_reader_pick hR10 hB11 hB11.lt hx13) rfl ?_
  have hd20 := hO7.ltb
  have hKs := hK.size
  rintro _ σ14 m15 ⟨a16, c17, rfl, hR18, hB19⟩
  replace hR10 := hR10.mod m15
  replace hO7 := hO7.mod' m15 (Df.ge (by rintro _ ⟨⟩; exact hltr_0) hO7.ge).symm
  replace hK := hK.self m15
  clear hKs m15
  refine w_end ?_
  refine q_then ?_
  obtain ⟨o21, hj, h'⟩ := bind_some h
  clear h
  refine c_cut (fun e a w => e = .normal ∧ ∃ (ρ : Nat → Value) (σ : St) (aj1 : Option Addr) (cj2 : Nat) (aj5 : Option Addr) (cj6 : Nat), a = fr 30 (updL ρ [(0, (pt br_0 0)), (3, (Sl aj5 o21.2 cj6))]) ∧ w = σ.w ∧ Mod (some br_0) σ0 σ ∧ RS 0 σ (Sl aj1 o21.1.1 cj2) o21.1.1 ∧ Bx σ br_0 [(Sl aj1 o21.1.1 cj2), (I o21.1.2)] ∧ Ow σ σ0.size σ0.size (Sl aj5 o21.2 cj6) o21.2) ?_ ?_
  · clear h'
    rename _ = some o21 => h
    refine c_blk ?_
    refine c_seq ?_
    refine rg ?_
    refine st (v := (B (r12.1 == 0))) (rv_eql (a := r12.1) (b := 0) rfl rfl) ?_
    refine st (v := (B (r12.1 == 0))) (rv_assign rfl) ?_
    refine w_end ?_
    refine q_then ?_
    refine cd_cond (r12.1 == 0) rfl (fun hb22 => ?_) (fun hb22 => ?_)
    · replace h := bif_t hb22 h
      refine rg ?_
      refine st (v := (Sl a5 r1.1 c6)) (rv_move rfl) ?_
      refine st (v := (pt br_0 0)) (rv_move rfl) ?_
      obtain ⟨r23, hx24, h'⟩ := bind_some h
      clear h
      have h := h'; clear h'
      refine st_call (c_spec_anyItem hR18 hB19 hB19.lt hx24) rfl ?_
      have hd34 := hO7.ltb
      have hKs := hK.size
      rintro _ σ25 m26 ⟨a27, c28, a30, c31, rfl, hR29, hR32, hB33⟩
      replace hR18 := hR18.mod m26
      replace hO7 := hO7.mod' m26 (Df.ge (by rintro _ ⟨⟩; exact hltr_0) hO7.ge).symm
      replace hK := hK.self m26
      replace hR29 := hR29.low hKs
      clear hKs m26
      refine st_buildSlice (lo := σ0.size) (el := σ0.size) (xs := ([(r23.1.1, r23.1.2.1, r23.1.2.2)] : List (Int × (List Int) × Int))) (ps := [(0, (.agg #[(I r23.1.1), (Sl a27 r23.1.2.1 c28), (I r23.1.2.2)]))]) (cs := [(I r23.1.1), (Sl a27 r23.1.2.1 c28), (I r23.1.2.2)]) Try.underlying23 ti26 rfl rfl (by kernel_rfl) (.cons (c := [(I r23.1.1), (Sl a27 r23.1.2.1 c28), (I r23.1.2.2)]) ⟨[(I r23.1.1)], [(Sl a27 r23.1.2.1 c28), (I r23.1.2.2)], rfl, rfl, ⟨[(Sl a27 r23.1.2.1 c28)], [(I r23.1.2.2)], rfl, ⟨_, rfl, hR29⟩, rfl⟩⟩ (.nil)) rfl ?_ hK.size (wanted_none _ rfl _)
      intro b36 σ37 hbn39 m38 hO35
      have hd40 := hO7.df' hbn39
      replace hR32 := hR32.mod m38
      replace hO7 := hO7.mod0 m38
      replace hR29 := hR29.mod m38
      replace hB33 := hB33.mod0 m38
      replace hK := hK.none m38
      clear hbn39 m38
      obtain ⟨xs41, hx42, h'⟩ := bind_some h
      clear h
      have h := h'; clear h'
      have hg43 := hO7.ge
      refine st_append Try.underlying23 Try.underlying23 ti26 rfl rfl (by decide) hO7 hO35.rd hx42 hK.size rfl rfl ?_ (wanted_none _ rfl _)
      intro a48 c49 σ44 m45 hO46 hq47
      replace hR32 := hR32.mod m45
      replace hB33 := hB33.mod' m45 (Df.ge (by rintro _ ⟨⟩; exact hltr_0) hO7.ge)
      replace hK := hK.own m45 hg43
      clear hq47 m45
      refine st (v := (Sl a48 xs41 c49)) (rv_assign rfl) ?_
      refine w_end ?_
      refine q_blk ?_
      obtain rfl := Option.some.inj h
      exact ⟨rfl, _, σ44, a30, c31, a48, c49, fr_join ⟨rfl, rfl, trivial⟩, rfl, hK, hR32, hB33, hO46⟩
    · replace h := bif_f hb22 h
      refine c_seq ?_
      refine rg ?_
      refine st (v := (B (r12.1 == 1))) (rv_eql (a := r12.1) (b := 1) rfl rfl) ?_
      refine st (v := (B (r12.1 == 1))) (rv_assign rfl) ?_
      refine w_end ?_
      refine q_then ?_
      refine cd_cond (r12.1 == 1) rfl (fun hb50 => ?_) (fun hb50 => ?_)
      · replace h := bif_t hb50 h
        refine c_seq ?_
        refine rg ?_
        refine st (v := (Sl a5 r1.1 c6)) (rv_move rfl) ?_
        refine st (v := (I (r1.1.length : Int))) (rv_len Try.underlying23 rfl) ?_
        refine st (v := (B (decide (0 < (r1.1.length : Int))))) (rv_gtr (a := (r1.1.length : Int)) (b := 0) rfl rfl) ?_
        refine w_end ?_
        refine q_then ?_
        refine cd_cond (decide (0 < (r1.1.length : Int))) rfl (fun hb51 => ?_) (fun hb51 => ?_)
        · replace h := bif_t hb51 h
          refine rg ?_
          refine st (v := (Sl a5 r1.1 c6)) (rv_move rfl) ?_
          refine st (v := (pt br_0 0)) (rv_move rfl) ?_
          refine st (v := (Sl a5 r1.1 c6)) (rv_move rfl) ?_
          refine st (v := (I (r1.1.length : Int))) (rv_len Try.underlying23 rfl) ?_
          obtain ⟨r52, hx53, h'⟩ := bind_some h
          clear h
          have h := h'; clear h'
          refine st_call (c_spec_reader_pick hR18 hB19 hB19.lt hx53) rfl ?_
          have hd60 := hO7.ltb
          have hKs := hK.size
          rintro _ σ54 m55 ⟨a56, c57, rfl, hR58, hB59⟩
          replace hR18 := hR18.mod m55
          replace hO7 := hO7.mod' m55 (Df.ge (by rintro _ ⟨⟩; exact hltr_0) hO7.ge).symm
          replace hK := hK.self m55
          clear hKs m55
          refine st (v := (pt br_0 0)) (rv_move rfl) ?_
          obtain ⟨r61, hx62, h'⟩ := bind_some h
          clear h
          have h := h'; clear h'
          refine st_call (c_spec_anyVector hR58 hB59 hB59.lt hx62) rfl ?_
          have hd72 := hO7.ltb
          have hKs := hK.size
          rintro _ σ63 m64 ⟨a65, c66, a68, c69, rfl, hO67, hR70, hB71⟩
          replace hR58 := hR58.mod m64
          replace hO7 := hO7.mod' m64 (Df.ge (by rintro _ ⟨⟩; exact hltr_0) hO7.ge).symm
          replace hK := hK.self m64
          have hO67g := hO67.ge
          replace hO67 := hO67.lo hKs
          replace hO67 := hO67.low' hKs
          have hd73 := Df.ge hd72 hO67g
          clear hKs m64 hO67g
          obtain ⟨x74, hx75, h'⟩ := bind_some h
          clear h
          have h := h'; clear h'
          obtain ⟨b77, o78, hi76, -⟩ := hO7.ix hx75
          refine st (v := (pt b77 o78)) (rv_ix Try.underlying23 ti26 rfl rfl hi76) ?_
          refine st (v := (pt b77 (o78 + 1))) (rv_fieldAddr (off := 1) (ft := 24) Try.underlying26 rfl ti24 rfl rfl) ?_
          have hg83 := hO67.ge
          obtain ⟨σ79, hw82, m80, hR81⟩ := hO67.pub' (Nat.le_refl _)
          rw [← hw82]; clear hw82
          replace hR70 := hR70.mod m80
          replace hO7 := hO7.mod' m80 (by first | exact hd73 | exact Df.re hd73)
          replace hB71 := hB71.mod' m80 (Df.ge (by rintro _ ⟨⟩; exact hltr_0) hO67.ge)
          replace hK := hK.own m80 hg83
          have hg91 := hO7.ge
          refine st_store_own (e' := (x74.1, r61.1, x74.2.2)) (vs := [(Sl a65 r61.1 c66)]) (k := 1) ti24 hO7 hx75 hi76 rfl rfl rfl rfl rfl (Nat.le_of_ble_eq_true rfl) (by simp [plain]) (by rintro _ ⟨_, _, rfl, rfl, ⟨_, _, rfl, ⟨_, rfl, hR89⟩, rfl⟩⟩; exact ⟨[(I x74.1)], [(Sl a65 r61.1 c66), (I x74.2.2)], rfl, rfl, ⟨[(Sl a65 r61.1 c66)], [(I x74.2.2)], rfl, ⟨_, rfl, hR81⟩, rfl⟩⟩) ?_
          intro σ84 m85 hO90 hs86; clear hs86
          replace hR70 := hR70.mod m85
          replace hR81 := hR81.mod m85
          replace hB71 := hB71.mod' m85 (Df.ge (by rintro _ ⟨⟩; exact hltr_0) hO7.ge)
          replace hK := hK.own m85 hg91
          replace hO90 := Ow.relen hO90 List.length_set.symm
          rw [show (Sl a5 r1.1 c6) = (Sl a5 (r1.1.set r52.1.toNat (x74.1, r61.1, x74.2.2)) c6) from sl_len List.length_set.symm]
          refine w_end ?_
          refine q_blk ?_
          obtain rfl := Option.some.inj h
          exact ⟨rfl, _, σ84, a68, c69, a5, c6, fr_join ⟨rfl, rfl, trivial⟩, rfl, hK, hR70, hB71, hO90⟩
        · replace h := bif_f hb51 h
          refine c_skip ?_
          refine q_blk ?_
          obtain rfl := Option.some.inj h
          exact ⟨rfl, _, σ14, a16, c17, a5, c6, fr_join ⟨rfl, rfl, trivial⟩, rfl, hK, hR18, hB19, hO7⟩
      · replace h := bif_f hb50 h
        refine c_skip ?_
        refine q_blk ?_
        obtain rfl := Option.some.inj h
        exact ⟨rfl, _, σ14, a16, c17, a5, c6, fr_join ⟨rfl, rfl, trivial⟩, rfl, hK, hR18, hB19, hO7⟩
  · clear hj
    have h := h'
    clear h'
    rintro e a w ⟨rfl, ρ, σ92, a93, c94, a97, c98, rfl, rfl, hK, hR95, hB96, hO99⟩
    refine q_then ?_
    refine c_seq ?_
    refine rg ?_
    refine st (v := (Sl a97 o21.2 c98)) (rv_move rfl) ?_
    refine st (v := (Sl a97 o21.2 c98)) (rv_assign rfl) ?_
    refine w_end ?_
    refine q_then ?_
    refine c_ret ?_
    obtain rfl := Option.some.inj h
    exact bodyPost_ret (v := (Sl a97 o21.2 c98)) (results_fr1 Try.results45 rfl _) rfl ⟨_, σ92, rfl, rfl, hK, a97, c98, a93, c94, rfl, hO99, hR95, hB96⟩

theorem c_impl_ValidVector {σ0 : St} {v_0 : List Int} {av_0 : Option Addr} {cv_0 : Nat} (hRv_0 : RS 0 σ0 (Sl av_0 v_0 cv_0) v_0) {r : Bool} (h : M.impl_ValidVector v_0 = some r) :
    Cal Try.prog 34 [(Sl av_0 v_0 cv_0)] none σ0 (fun v σ' => v = (B r)) := by
  refine ⟨⟨_, _, Try.func34, rfl, rfl⟩, ?_⟩
  refine enter (n := 21) Try.func34 rfl rfl rfl ?_
  unfold M.impl_ValidVector at h
  have hK : Mod none σ0 σ0 := Mod.refl _ _
  refine c_seq ?_
  refine rg ?_
  refine st (v := (B false)) (rv_assign rfl) ?_
  refine w_end ?_
  refine q_then ?_
  refine c_seq ?_
  refine c_seq ?_
  refine rg ?_
  refine st (v := (Sl av_0 v_0 cv_0)) (rv_move rfl) ?_
  refine st (v := (I (v_0.length : Int))) (rv_len Try.underlying24 rfl) ?_
  refine st (v := (B ((v_0.length : Int) != 4))) (rv_neq (a := (v_0.length : Int)) (b := 4) rfl rfl) ?_
  refine w_end ?_
  refine q_then ?_
  refine cd_cond ((v_0.length : Int) != 4) rfl (fun hb1 => ?_) (fun hb1 => ?_)
  · replace h := bif_t hb1 h
    refine c_seq ?_
    refine rg ?_
    refine st (v := (B false)) (rv_assign rfl) ?_
    refine w_end ?_
    refine q_then ?_
    refine c_ret ?_
    refine q_then_r ?_
    obtain rfl := Option.some.inj h
    exact bodyPost_ret (v := (B false)) (results_fr1 Try.results34 rfl _) rfl ⟨_, σ0, rfl, rfl, hK, rfl⟩
  · replace h := bif_f hb1 h
    refine c_skip ?_
    refine q_then ?_
    refine c_seq ?_
    refine c_seq ?_
    refine rg ?_
    refine st (v := (Sl av_0 v_0 cv_0)) (rv_move rfl) ?_
    refine st (v := (I (v_0.length : Int))) (rv_len Try.underlying24 rfl) ?_
    refine st (v := (I 0)) (rv_move rfl) ?_
    refine w_end ?_
    refine q_then ?_
    obtain ⟨o2, hj, h'⟩ := bind_some h
    clear h
    refine c_cut (fun e a w => (∃ t, o2 = (.inl t) ∧ e = .normal ∧ ∃ (ρ : Nat → Value) (σ : St), a = fr 21 (updL ρ []) ∧ w = σ.w ∧ Mod none σ0 σ) ∨ (∃ t, o2 = (.inr t) ∧ e = .ret ∧ ∃ (ρ : Nat → Value) (σ : St), a = fr 21 (updL ρ [(2, (B t))]) ∧ w = σ.w ∧ Mod none σ0 σ)) ?_ ?_
    · clear h'
      rename _ = some o2 => h
      refine c_blk ?_
      refine wp_loopM _ h (fun s3 a w => ∃ (ρ : Nat → Value) (σ : St), a = fr 21 (updL ρ [(8, (Sl av_0 v_0 cv_0)), (9, (I (v_0.length : Int))), (10, (I s3))]) ∧ w = σ.w ∧ Mod none σ0 σ ∧ RS 0 σ (Sl av_0 v_0 cv_0) v_0) ⟨_, σ0, fr_join ⟨rfl, rfl, rfl, trivial⟩, rfl, hK, hRv_0⟩ ?_
      clear h
      rintro s3 a w o ⟨ρ, σ5, rfl, rfl, hK, hR6⟩ h hres
      refine c_seq ?_
      refine rg ?_
      refine st (v := (B (decide (s3 < (v_0.length : Int))))) (rv_lss (a := s3) (b := (v_0.length : Int)) rfl rfl) ?_
      refine w_end ?_
      refine q_then ?_
      refine c_seq ?_
      refine cd_cond (decide (s3 < (v_0.length : Int))) rfl (fun hb7 => ?_) (fun hb7 => ?_)
      · replace h := bif_t hb7 h
        refine c_skip ?_
        refine q_then ?_
        refine c_seq ?_
        refine c_blk ?_
        refine c_seq ?_
        refine rg ?_
        obtain ⟨x8, hx9, h'⟩ := bind_some h
        clear h
        have h := h'; clear h'
        obtain ⟨b11, o12, hi10, -⟩ := hR6.ix hx9
        refine st (v := (pt b11 o12)) (rv_ix Try.underlying24 ti3 rfl rfl hi10) ?_
        refine st (v := (I x8)) (rv_load1 Try.underlying3 rfl rfl (hR6.at hx9 hi10).int) ?_
        refine st (v := (I x8)) (rv_assign rfl) ?_
        refine w_end ?_
        refine q_then ?_
        refine c_seq ?_
        obtain ⟨o13, hj, h'⟩ := bind_some h
        clear h
        refine c_cut (fun e a w => e = .normal ∧ ∃ (ρ : Nat → Value) (σ : St), a = fr 21 (updL ρ [(8, (Sl av_0 v_0 cv_0)), (9, (I (v_0.length : Int))), (10, (I s3)), (19, (B o13))]) ∧ w = σ.w ∧ Mod none σ0 σ ∧ RS 0 σ (Sl av_0 v_0 cv_0) v_0) ?_ ?_
        · clear h'
          rename _ = some o13 => h
          refine rg ?_
          refine st (v := (I x8)) (rv_move rfl) ?_
          refine st (v := (B (decide (x8 < (-100))))) (rv_lss (a := x8) (b := (-100)) rfl rfl) ?_
          refine st (v := (B (decide (x8 < (-100))))) (rv_move rfl) ?_
          rcases Bool.eq_false_or_eq_true (decide (x8 < (-100))) with hb14 | hb14
          · replace h := bif_t hb14 h
            refine st_skip (congrArg some hb14) ?_
            refine st_skip (congrArg some hb14) ?_
            refine st (v := (B true)) (rv_pick_t (congrArg B hb14) rfl) ?_
            refine w_end ?_
            obtain rfl := Option.some.inj h
            exact ⟨rfl, _, σ5, fr_join ⟨rfl, rfl, rfl, rfl, trivial⟩, rfl, hK, hR6⟩
          · replace h := bif_f hb14 h
            refine st_g (v := (I x8)) (congrArg some hb14) (rv_move rfl) ?_
            refine st_g (v := (B (decide (100 < x8)))) (congrArg some hb14) (rv_gtr (a := x8) (b := 100) rfl rfl) ?_
            refine st (v := (B (decide (100 < x8)))) (rv_pick_f (congrArg B hb14) rfl) ?_
            refine w_end ?_
            obtain rfl := Option.some.inj h
            exact ⟨rfl, _, σ5, fr_join ⟨rfl, rfl, rfl, rfl, trivial⟩, rfl, hK, hR6⟩
        · clear hj
          have h := h'
          clear h'
          rintro e a w ⟨rfl, ρ, σ15, rfl, rfl, hK, hR16⟩
          refine q_then ?_
          refine cd_cond o13 rfl (fun hb17 => ?_) (fun hb17 => ?_)
          · replace h := bif_t hb17 h
            refine c_seq ?_
            refine rg ?_
            refine st (v := (B false)) (rv_assign rfl) ?_
            refine w_end ?_
            refine q_then ?_
            refine c_ret ?_
            refine q_blk_r ?_
            refine q_then_r ?_
            refine q_then_r ?_
            refine q_blk_r ?_
            obtain rfl := Option.some.inj h
            obtain rfl := hres _ rfl
            exact .inr (⟨_, rfl, rfl, _, σ15, fr_join ⟨rfl, trivial⟩, rfl, hK⟩)
          · replace h := bif_f hb17 h
            refine c_skip ?_
            refine q_blk ?_
            refine q_then ?_
            refine rg ?_
            refine st (v := (I (w64 (s3 + 1)))) (rv_add (a := s3) (b := 1) rfl rfl) ?_
            refine st (v := (I (w64 (s3 + 1)))) (rv_move rfl) ?_
            refine w_end ?_
            refine q_then ?_
            obtain rfl := Option.some.inj h
            exact ⟨_, rfl, _, σ15, fr_join ⟨rfl, rfl, rfl, trivial⟩, rfl, hK, hR16⟩
      · replace h := bif_f hb7 h
        refine c_exit ?_
        refine q_then_x ?_
        refine q_then_x ?_
        refine q_blk_hit ?_
        obtain rfl := Option.some.inj h
        obtain rfl := hres _ rfl
        exact .inl ⟨_, rfl, rfl, _, σ5, fr_join trivial, rfl, hK⟩
    · clear hj
      have h := h'
      clear h'
      rintro e a w (⟨t18, rfl, rfl, ρ, σ19, rfl, rfl, hK⟩ | ⟨t20, rfl, rfl, ρ, σ21, rfl, rfl, hK⟩)
      · replace h := selim_l h
        refine q_then ?_
        refine c_seq ?_
        refine rg ?_
        refine st (v := (B true)) (rv_assign rfl) ?_
        refine w_end ?_
        refine q_then ?_
        refine c_ret ?_
        obtain rfl := Option.some.inj h
        exact bodyPost_ret (v := (B true)) (results_fr1 Try.results34 rfl _) rfl ⟨_, σ19, rfl, rfl, hK, rfl⟩
      · replace h := selim_r h
        refine q_then_r ?_
        obtain rfl := Option.some.inj h
        exact bodyPost_ret (v := (B t20)) (results_fr1 Try.results34 rfl _) rfl ⟨_, σ21, rfl, rfl, hK, rfl⟩

theorem c_impl_validKey {σ0 : St} {key_0 : Int}  {r : Bool} (h : M.impl_validKey key_0 = some r) :
    Cal Try.prog 76 [(I key_0)] none σ0 (fun v σ' => v = (B r)) := by
  refine ⟨⟨_, _, Try.func76, rfl, rfl⟩, ?_⟩
  refine enter (n := 9) Try.func76 rfl rfl rfl ?_
  unfold M.impl_validKey at h
  have hK : Mod none σ0 σ0 := Mod.refl _ _
  refine c_seq ?_
  refine rg ?_
  refine st (v := (B false)) (rv_assign rfl) ?_
  refine w_end ?_
  refine q_then ?_
  refine c_seq ?_
  refine rg ?_
  refine st (v := (I key_0)) (rv_move rfl) ?_
  refine st (v := (B (decide (1 ≤ key_0)))) (rv_geq (a := key_0) (b := 1) rfl rfl) ?_
  refine st (v := (B (decide (1 ≤ key_0)))) (rv_move rfl) ?_
  rcases Bool.eq_false_or_eq_true (decide (1 ≤ key_0)) with hb1 | hb1
  · replace h := bif_t hb1 h
    refine st_g (v := (I key_0)) (congrArg some hb1) (rv_move rfl) ?_
    refine st_g (v := (B (decide (key_0 ≤ 99)))) (congrArg some hb1) (rv_leq (a := key_0) (b := 99) rfl rfl) ?_
    refine st (v := (B (decide (key_0 ≤ 99)))) (rv_pick_t (congrArg B hb1) rfl) ?_
    refine st (v := (B (decide (key_0 ≤ 99)))) (rv_assign rfl) ?_
    refine w_end ?_
    refine q_then ?_
    refine c_ret ?_
    obtain rfl := Option.some.inj h
    exact bodyPost_ret (v := (B (decide (key_0 ≤ 99)))) (results_fr1 Try.results76 rfl _) rfl ⟨_, σ0, rfl, rfl, hK, rfl⟩
  · replace h := bif_f hb1 h
    refine st_skip (congrArg some hb1) ?_
    refine st_skip (congrArg some hb1) ?_
    refine st (v := (B false)) (rv_pick_f (congrArg B hb1) rfl) ?_
    refine st (v := (B false)) (rv_assign rfl) ?_
    refine w_end ?_
    refine q_then ?_
    refine c_ret ?_
    obtain rfl := Option.some.inj h
    exact bodyPost_ret (v := (B false)) (results_fr1 Try.results76 rfl _) rfl ⟨_, σ0, rfl, rfl, hK, rfl⟩

theorem c_impl_validItem {σ0 : St} {x_0 : Int × (List Int) × Int} {ax_0_1 : Option Addr} {cx_0_1 : Nat} (hRx_0_1 : RS 0 σ0 (Sl ax_0_1 x_0.2.1 cx_0_1) x_0.2.1) {r : Bool} (h : M.impl_validItem x_0 = some r) :
    Cal Try.prog 47 [(.agg #[(I x_0.1), (Sl ax_0_1 x_0.2.1 cx_0_1), (I x_0.2.2)])] none σ0 (fun v σ' => v = (B r)) := by
  refine ⟨⟨_, _, Try.func47, rfl, rfl⟩, ?_⟩
  refine enter (n := 21) Try.func47 rfl rfl rfl ?_
  unfold M.impl_validItem at h
  have hK : Mod none σ0 σ0 := Mod.refl _ _
  refine c_seq ?_
  refine rg ?_
  refine st_box (cs := [(I x_0.1), (Sl ax_0_1 x_0.2.1 cx_0_1), (I x_0.2.2)]) rfl rfl ?_ (wanted_none _ rfl _)
  intro b2 σ4 hbn6 m5 hB1
  have hge3 := Nat.le_trans hK.size (Nat.le_of_eq hbn6)
  replace hRx_0_1 := hRx_0_1.mod m5
  replace hK := hK.none m5
  clear hbn6 m5
  refine st (v := (B false)) (rv_assign rfl) ?_
  refine w_end ?_
  refine q_then ?_
  refine c_seq ?_
  refine rg ?_
  refine st (v := (pt b2 0)) (rv_fieldAddr (off := 0) (ft := 3) Try.underlying26 rfl ti3 rfl rfl) ?_
  refine st (v := (I x_0.1)) (rv_load1 Try.underlying3 rfl rfl (hB1.cell' 0 rfl rfl)) ?_
  obtain ⟨r7, hx8, h'⟩ := bind_some h
  clear h
  have h := h'; clear h'
  refine st_call (c_impl_validKey  hx8) rfl ?_
  have hd11 := hB1.ltb
  have hKs := hK.size
  rintro _ σ9 m10 rfl
  replace hRx_0_1 := hRx_0_1.mod m10
  replace hB1 := hB1.mod0 m10
  replace hK := hK.none m10
  clear hKs m10
  refine st (v := (B r7)) (rv_move rfl) ?_
  rcases Bool.eq_false_or_eq_true r7 with hb12 | hb12
  · replace h := bif_t hb12 h
    refine st_g (v := (pt b2 1)) (congrArg some hb12) (rv_fieldAddr (off := 1) (ft := 24) Try.underlying26 rfl ti24 rfl rfl) ?_
    refine st_g (v := (Sl ax_0_1 x_0.2.1 cx_0_1)) (congrArg some hb12) (rv_load1 Try.underlying24 rfl rfl (hB1.cell' 1 rfl rfl)) ?_
    obtain ⟨r13, hx14, h'⟩ := bind_some h
    clear h
    have h := h'; clear h'
    refine st_call_g (by exact (congrArg some hb12)) (c_impl_ValidVector hRx_0_1 hx14) rfl ?_
    have hd17 := hB1.ltb
    have hKs := hK.size
    rintro _ σ15 m16 rfl
    replace hRx_0_1 := hRx_0_1.mod m16
    replace hB1 := hB1.mod0 m16
    replace hK := hK.none m16
    clear hKs m16
    refine st (v := (B r13)) (rv_pick_t (congrArg B hb12) rfl) ?_
    refine st (v := (B r13)) (rv_move rfl) ?_
    rcases Bool.eq_false_or_eq_true r13 with hb18 | hb18
    · replace h := bif_t hb18 h
      refine st_g (v := (pt b2 2)) (congrArg some hb18) (rv_fieldAddr (off := 2) (ft := 3) Try.underlying26 rfl ti3 rfl rfl) ?_
      refine st_g (v := (I x_0.2.2)) (congrArg some hb18) (rv_load1 Try.underlying3 rfl rfl (hB1.cell' 2 rfl rfl)) ?_
      refine st_g (v := (B (decide (0 ≤ x_0.2.2)))) (congrArg some hb18) (rv_geq (a := x_0.2.2) (b := 0) rfl rfl) ?_
      refine st (v := (B (decide (0 ≤ x_0.2.2)))) (rv_pick_t (congrArg B hb18) rfl) ?_
      refine st (v := (B (decide (0 ≤ x_0.2.2)))) (rv_move rfl) ?_
      rcases Bool.eq_false_or_eq_true (decide (0 ≤ x_0.2.2)) with hb19 | hb19
      · replace h := bif_t hb19 h
        refine st_g (v := (pt b2 2)) (congrArg some hb19) (rv_fieldAddr (off := 2) (ft := 3) Try.underlying26 rfl ti3 rfl rfl) ?_
        refine st_g (v := (I x_0.2.2)) (congrArg some hb19) (rv_load1 Try.underlying3 rfl rfl (hB1.cell' 2 rfl rfl)) ?_
        refine st_g (v := (B (decide (x_0.2.2 ≤ 15)))) (congrArg some hb19) (rv_leq (a := x_0.2.2) (b := 15) rfl rfl) ?_
        refine st (v := (B (decide (x_0.2.2 ≤ 15)))) (rv_pick_t (congrArg B hb19) rfl) ?_
        refine st (v := (B (decide (x_0.2.2 ≤ 15)))) (rv_assign rfl) ?_
        refine w_end ?_
        refine q_then ?_
        refine c_ret ?_
        obtain rfl := Option.some.inj h
        exact bodyPost_ret (v := (B (decide (x_0.2.2 ≤ 15)))) (results_fr1 Try.results47 rfl _) rfl ⟨_, σ15, rfl, rfl, hK, rfl⟩
      · replace h := bif_f hb19 h
        refine st_skip (congrArg some hb19) ?_
        refine st_skip (congrArg some hb19) ?_
        refine st_skip (congrArg some hb19) ?_
        refine st (v := (B false)) (rv_pick_f (congrArg B hb19) rfl) ?_
        refine st (v := (B false)) (rv_assign rfl) ?_
        refine w_end ?_
        refine q_then ?_
        refine c_ret ?_
        obtain rfl := Option.some.inj h
        exact bodyPost_ret (v := (B false)) (results_fr1 Try.results47 rfl _) rfl ⟨_, σ15, rfl, rfl, hK, rfl⟩
    · replace h := bif_f hb18 h
      refine st_skip (congrArg some hb18) ?_
      refine st_skip (congrArg some hb18) ?_
      refine st_skip (congrArg some hb18) ?_
      refine st (v := (B false)) (rv_pick_f (congrArg B hb18) rfl) ?_
      refine st (v := (B false)) (rv_move rfl) ?_
      refine st_skip rfl ?_
      refine st_skip rfl ?_
      refine st_skip rfl ?_
      refine st (v := (B false)) (rv_pick_f rfl rfl) ?_
      refine st (v := (B false)) (rv_assign rfl) ?_
      refine w_end ?_
      refine q_then ?_
      refine c_ret ?_
      obtain rfl := Option.some.inj h
      exact bodyPost_ret (v := (B false)) (results_fr1 Try.results47 rfl _) rfl ⟨_, σ15, rfl, rfl, hK, rfl⟩
  · replace h := bif_f hb12 h
    refine st_skip (congrArg some hb12) ?_
    refine st_skip (congrArg some hb12) ?_
    refine st_skip (congrArg some hb12) ?_
    refine st (v := (B false)) (rv_pick_f (congrArg B hb12) rfl) ?_
    refine st (v := (B false)) (rv_move rfl) ?_
    refine st_skip rfl ?_
    refine st_skip rfl ?_
    refine st_skip rfl ?_
    refine st (v := (B false)) (rv_pick_f rfl rfl) ?_
    refine st (v := (B false)) (rv_move rfl) ?_
    refine st_skip rfl ?_
    refine st_skip rfl ?_
    refine st_skip rfl ?_
    refine st (v := (B false)) (rv_pick_f rfl rfl) ?_
    refine st (v := (B false)) (rv_assign rfl) ?_
    refine w_end ?_
    refine q_then ?_
    refine c_ret ?_
    obtain rfl := Option.some.inj h
    exact bodyPost_ret (v := (B false)) (results_fr1 Try.results47 rfl _) rfl ⟨_, σ9, rfl, rfl, hK, rfl⟩

theorem c_impl_ValidStore {σ0 : St} {list_0 : List (Int × (List Int) × Int)} {alist_0 : Option Addr} {clist_0 : Nat} (hRlist_0 : RS 0 σ0 (Sl alist_0 list_0 clist_0) list_0) {r : Bool} (h : M.impl_ValidStore list_0 = some r) :
    Cal Try.prog 26 [(Sl alist_0 list_0 clist_0)] none σ0 (fun v σ' => v = (B r)) := by
  refine ⟨⟨_, _, Try.func26, rfl, rfl⟩, ?_⟩
  refine enter (n := 27) Try.func26 rfl rfl rfl ?_
  unfold M.impl_ValidStore at h
  have hK : Mod none σ0 σ0 := Mod.refl _ _
  refine c_seq ?_
  refine rg ?_
  refine st (v := (B false)) (rv_assign rfl) ?_
  refine w_end ?_
  refine q_then ?_
  refine c_seq ?_
  refine c_seq ?_
  refine rg ?_
  refine st (v := (Sl alist_0 list_0 clist_0)) (rv_move rfl) ?_
  refine st (v := (I (list_0.length : Int))) (rv_len Try.underlying23 rfl) ?_
  refine st (v := (B (decide (16 < (list_0.length : Int))))) (rv_gtr (a := (list_0.length : Int)) (b := 16) rfl rfl) ?_
  refine w_end ?_
  refine q_then ?_
  refine cd_cond (decide (16 < (list_0.length : Int))) rfl (fun hb1 => ?_) (fun hb1 => ?_)
  · replace h := bif_t hb1 h
    refine c_seq ?_
    refine rg ?_
    refine st (v := (B false)) (rv_assign rfl) ?_
    refine w_end ?_
    refine q_then ?_
    refine c_ret ?_
    refine q_then_r ?_
    obtain rfl := Option.some.inj h
    exact bodyPost_ret (v := (B false)) (results_fr1 Try.results26 rfl _) rfl ⟨_, σ0, rfl, rfl, hK, rfl⟩
  · replace h := bif_f hb1 h
    refine c_skip ?_
    refine q_then ?_
    refine c_seq ?_
    refine rg ?_
    refine st (v := (I 0)) (rv_assign rfl) ?_
    refine w_end ?_
    refine q_then ?_
    refine c_seq ?_
    refine c_seq ?_
    refine rg ?_
    refine st (v := (Sl alist_0 list_0 clist_0)) (rv_move rfl) ?_
    refine st (v := (I (list_0.length : Int))) (rv_len Try.underlying23 rfl) ?_
    refine st (v := (I 0)) (rv_move rfl) ?_
    refine w_end ?_
    refine q_then ?_
    obtain ⟨o2, hj, h'⟩ := bind_some h
    clear h
    refine c_cut (fun e a w => (∃ t, o2 = (.inl t) ∧ e = .normal ∧ ∃ (ρ : Nat → Value) (σ : St), a = fr 27 (updL ρ []) ∧ w = σ.w ∧ Mod none σ0 σ) ∨ (∃ t, o2 = (.inr t) ∧ e = .ret ∧ ∃ (ρ : Nat → Value) (σ : St), a = fr 27 (updL ρ [(2, (B t))]) ∧ w = σ.w ∧ Mod none σ0 σ)) ?_ ?_
    · clear h'
      rename _ = some o2 => h
      refine c_blk ?_
      refine wp_loopM _ h (fun s3 a w => ∃ (ρ : Nat → Value) (σ : St), a = fr 27 (updL ρ [(3, (I s3.1)), (9, (Sl alist_0 list_0 clist_0)), (10, (I (list_0.length : Int))), (11, (I s3.2))]) ∧ w = σ.w ∧ Mod none σ0 σ ∧ RS 0 σ (Sl alist_0 list_0 clist_0) list_0) ⟨_, σ0, fr_join ⟨rfl, rfl, rfl, rfl, trivial⟩, rfl, hK, hRlist_0⟩ ?_
      clear h
      rintro s3 a w o ⟨ρ, σ5, rfl, rfl, hK, hR6⟩ h hres
      refine c_seq ?_
      refine rg ?_
      refine st (v := (B (decide (s3.2 < (list_0.length : Int))))) (rv_lss (a := s3.2) (b := (list_0.length : Int)) rfl rfl) ?_
      refine w_end ?_
      refine q_then ?_
      refine c_seq ?_
      refine cd_cond (decide (s3.2 < (list_0.length : Int))) rfl (fun hb7 => ?_) (fun hb7 => ?_)
      · replace h := bif_t hb7 h
        refine c_skip ?_
        refine q_then ?_
        refine c_seq ?_
        refine c_blk ?_
        refine c_seq ?_
        refine rg ?_
        obtain ⟨x8, hx9, h'⟩ := bind_some h
        clear h
        have h := h'; clear h'
        obtain ⟨b11, o12, hi10, -⟩ := hR6.ix hx9
        refine st (v := (pt b11 o12)) (rv_ix Try.underlying23 ti26 rfl rfl hi10) ?_
        obtain ⟨_, ⟨_, _, rfl, rfl, ⟨_, _, rfl, ⟨_, rfl, hR18⟩, rfl⟩⟩, hl14, hc15⟩ := (hR6.at hx9 hi10).cells
        obtain ⟨a16, c17, rfl⟩ := hR18.isSl
        refine st (v := (.agg #[(I x8.1), (Sl a16 x8.2.1 c17), (I x8.2.2)])) (rv_load Try.underlying26 rfl ti26 rfl hl14 hc15) ?_
        refine st_alloc (cs := [(I 0), (.slice none 0 0), (I 0)]) ti26 rfl ?_ (wanted_none _ rfl _)
        intro b20 σ22 hbn24 m23 hB19
        have hge21 := Nat.le_trans hK.size (Nat.le_of_eq hbn24)
        replace hR6 := hR6.mod m23
        replace hR18 := hR18.mod m23
        replace hK := hK.none m23
        clear hbn24 m23
        refine st_store_box (cs := [(I 0), (.slice none 0 0), (I 0)]) (vs := [(I x8.1), (Sl a16 x8.2.1 c17), (I x8.2.2)]) ti26 hB19 rfl rfl rfl rfl (Nat.le_of_ble_eq_true rfl) (by simp [plain]) ?_
        intro σ25 m26 hB28 hs27; clear hs27
        replace hR6 := hR6.mod m26
        replace hR18 := hR18.mod m26
        replace hK := hK.some m26 hge21
        replace hB28 := Bx.cast (cs' := [(I x8.1), (Sl a16 x8.2.1 c17), (I x8.2.2)]) hB28 rfl
        clear hB19
        refine w_end ?_
        refine q_then ?_
        refine c_seq ?_
        refine c_seq ?_
        obtain ⟨o29, hj, h'⟩ := bind_some h
        clear h
        refine c_cut (fun e a w => e = .normal ∧ ∃ (ρ : Nat → Value) (σ : St), a = fr 27 (updL ρ [(5, (pt b20 0)), (9, (Sl alist_0 list_0 clist_0)), (10, (I (list_0.length : Int))), (11, (I s3.2)), (23, (B o29))]) ∧ w = σ.w ∧ Mod none σ0 σ ∧ RS 0 σ (Sl a16 x8.2.1 c17) x8.2.1 ∧ Bx σ b20 [(I x8.1), (Sl a16 x8.2.1 c17), (I x8.2.2)] ∧ RS 0 σ (Sl alist_0 list_0 clist_0) list_0) ?_ ?_
        · clear h'
          rename _ = some o29 => h
          refine rg ?_
          refine st (v := (.agg #[(I x8.1), (Sl a16 x8.2.1 c17), (I x8.2.2)])) (rv_load (cs := [(I x8.1), (Sl a16 x8.2.1 c17), (I x8.2.2)]) Try.underlying26 rfl ti26 rfl rfl hB28.all) ?_
          obtain ⟨r30, hx31, h'⟩ := bind_some h
          clear h
          have h := h'; clear h'
          refine st_call (c_impl_validItem hR18 hx31) rfl ?_
          have hd34 := hB28.ltb
          have hKs := hK.size
          rintro _ σ32 m33 rfl
          replace hR6 := hR6.mod m33
          replace hR18 := hR18.mod m33
          replace hB28 := hB28.mod0 m33
          replace hK := hK.none m33
          clear hKs m33
          refine st (v := (B (!r30))) (rv_not rfl) ?_
          refine st (v := (B (!r30))) (rv_move rfl) ?_
          rcases Bool.eq_false_or_eq_true (!r30) with hb35 | hb35
          · replace h := bif_t hb35 h
            refine st_skip (congrArg some hb35) ?_
            refine st_skip (congrArg some hb35) ?_
            refine st_skip (congrArg some hb35) ?_
            refine st_skip (congrArg some hb35) ?_
            refine st (v := (B true)) (rv_pick_t (congrArg B hb35) rfl) ?_
            refine w_end ?_
            obtain rfl := Option.some.inj h
            exact ⟨rfl, _, σ32, fr_join ⟨rfl, rfl, rfl, rfl, rfl, trivial⟩, rfl, hK, hR18, hB28, hR6⟩
          · replace h := bif_f hb35 h
            refine st_g (v := (pt b20 0)) (congrArg some hb35) (rv_fieldAddr (off := 0) (ft := 3) Try.underlying26 rfl ti3 rfl rfl) ?_
            refine st_g (v := (I x8.1)) (congrArg some hb35) (rv_load1 Try.underlying3 rfl rfl (hB28.cell' 0 rfl rfl)) ?_
            refine st_g (v := (I s3.1)) (congrArg some hb35) (rv_move rfl) ?_
            refine st_g (v := (B (decide (x8.1 ≤ s3.1)))) (congrArg some hb35) (rv_leq (a := x8.1) (b := s3.1) rfl rfl) ?_
            refine st (v := (B (decide (x8.1 ≤ s3.1)))) (rv_pick_f (congrArg B hb35) rfl) ?_
            refine w_end ?_
            obtain rfl := Option.some.inj h
            exact ⟨rfl, _, σ32, fr_join ⟨rfl, rfl, rfl, rfl, rfl, trivial⟩, rfl, hK, hR18, hB28, hR6⟩
        · clear hj
          have h := h'
          clear h'
          rintro e a w ⟨rfl, ρ, σ36, rfl, rfl, hK, hR37, hB38, hR39⟩
          refine q_then ?_
          refine cd_cond o29 rfl (fun hb40 => ?_) (fun hb40 => ?_)
          · replace h := bif_t hb40 h
            refine c_seq ?_
            refine rg ?_
            refine st (v := (B false)) (rv_assign rfl) ?_
            refine w_end ?_
            refine q_then ?_
            refine c_ret ?_
            refine q_then_r ?_
            refine q_blk_r ?_
            refine q_then_r ?_
            refine q_then_r ?_
            refine q_blk_r ?_
            obtain rfl := Option.some.inj h
            obtain rfl := hres _ rfl
            exact .inr (⟨_, rfl, rfl, _, σ36, fr_join ⟨rfl, trivial⟩, rfl, hK⟩)
          · replace h := bif_f hb40 h
            refine c_skip ?_
            refine q_then ?_
            refine rg ?_
            refine st (v := (pt b20 0)) (rv_fieldAddr (off := 0) (ft := 3) Try.underlying26 rfl ti3 rfl rfl) ?_
            refine st (v := (I x8.1)) (rv_load1 Try.underlying3 rfl rfl (hB38.cell' 0 rfl rfl)) ?_
            refine st (v := (I x8.1)) (rv_assign rfl) ?_
            refine w_end ?_
            refine q_blk ?_
            refine q_then ?_
            refine rg ?_
            refine st (v := (I (w64 (s3.2 + 1)))) (rv_add (a := s3.2) (b := 1) rfl rfl) ?_
            refine st (v := (I (w64 (s3.2 + 1)))) (rv_move rfl) ?_
            refine w_end ?_
            refine q_then ?_
            obtain rfl := Option.some.inj h
            exact ⟨_, rfl, _, σ36, fr_join ⟨rfl, rfl, rfl, rfl, trivial⟩, rfl, hK, hR39⟩
      · replace h := bif_f hb7 h
        refine c_exit ?_
        refine q_then_x ?_
        refine q_then_x ?_
        refine q_blk_hit ?_
        obtain rfl := Option.some.inj h
        obtain rfl := hres _ rfl
        exact .inl ⟨_, rfl, rfl, _, σ5, fr_join trivial, rfl, hK⟩
    · clear hj
      have h := h'
      clear h'
      rintro e a w (⟨t41, rfl, rfl, ρ, σ42, rfl, rfl, hK⟩ | ⟨t43, rfl, rfl, ρ, σ44, rfl, rfl, hK⟩)
      · replace h := selim_l h
        refine q_then ?_
        refine c_seq ?_
        refine rg ?_
        refine st (v := (B true)) (rv_assign rfl) ?_
        refine w_end ?_
        refine q_then ?_
        refine c_ret ?_
        obtain rfl := Option.some.inj h
        exact bodyPost_ret (v := (B true)) (results_fr1 Try.results26 rfl _) rfl ⟨_, σ42, rfl, rfl, hK, rfl⟩
      · replace h := selim_r h
        refine q_then_r ?_
        obtain rfl := Option.some.inj h
        exact bodyPost_ret (v := (B t43)) (results_fr1 Try.results26 rfl _) rfl ⟨_, σ44, rfl, rfl, hK, rfl⟩

theorem c_cmp_isNaN_int {σ0 : St} {x_0 : Int}  {r : Bool} (h : M.cmp_isNaN_int x_0 = some r) :
    Cal Try.prog 88 [(I x_0)] none σ0 (fun v σ' => v = (B r)) := by
  refine ⟨⟨_, _, Try.func88, rfl, rfl⟩, ?_⟩
  refine enter (n := 6) Try.func88 rfl rfl rfl ?_
  unfold M.cmp_isNaN_int at h
  have hK : Mod none σ0 σ0 := Mod.refl _ _
  refine c_seq ?_
  refine rg ?_
  refine st (v := (B false)) (rv_assign rfl) ?_
  refine w_end ?_
  refine q_then ?_
  refine c_seq ?_
  refine rg ?_
  refine st (v := (I x_0)) (rv_move rfl) ?_
  refine st (v := (I x_0)) (rv_move rfl) ?_
  refine st (v := (B (x_0 != x_0))) (rv_neq (a := x_0) (b := x_0) rfl rfl) ?_
  refine st (v := (B (x_0 != x_0))) (rv_assign rfl) ?_
  refine w_end ?_
  refine q_then ?_
  refine c_ret ?_
  obtain rfl := Option.some.inj h
  exact bodyPost_ret (v := (B (x_0 != x_0))) (results_fr1 Try.results88 rfl _) rfl ⟨_, σ0, rfl, rfl, hK, rfl⟩

theorem c_cmp_Compare_int {σ0 : St} {x_0 : Int} {y_1 : Int}  {r : Int} (h : M.cmp_Compare_int x_0 y_1 = some r) :
    Cal Try.prog 79 [(I x_0), (I y_1)] none σ0 (fun v σ' => v = (I r)) := by
  refine ⟨⟨_, _, Try.func79, rfl, rfl⟩, ?_⟩
  refine enter (n := 20) Try.func79 rfl rfl rfl ?_
  unfold M.cmp_Compare_int at h
  have hK : Mod none σ0 σ0 := Mod.refl _ _
  refine c_seq ?_
  refine rg ?_
  refine st (v := (I 0)) (rv_assign rfl) ?_
  refine w_end ?_
  refine q_then ?_
  refine c_seq ?_
  refine rg ?_
  refine st (v := (I x_0)) (rv_move rfl) ?_
  obtain ⟨r1, hx2, h'⟩ := bind_some h
  clear h
  have h := h'; clear h'
  refine st_call (c_cmp_isNaN_int  hx2) rfl ?_
  have hKs := hK.size
  rintro _ σ3 m4 rfl
  replace hK := hK.none m4
  clear hKs m4
  refine st (v := (B r1)) (rv_assign rfl) ?_
  refine w_end ?_
  refine q_then ?_
  refine c_seq ?_
  refine rg ?_
  refine st (v := (I y_1)) (rv_move rfl) ?_
  obtain ⟨r5, hx6, h'⟩ := bind_some h
  clear h
  have h := h'; clear h'
  refine st_call (c_cmp_isNaN_int  hx6) rfl ?_
  have hKs := hK.size
  rintro _ σ7 m8 rfl
  replace hK := hK.none m8
  clear hKs m8
  refine st (v := (B r5)) (rv_assign rfl) ?_
  refine w_end ?_
  refine q_then ?_
  refine c_seq ?_
  refine c_seq ?_
  refine rg ?_
  refine st (v := (B r1)) (rv_move rfl) ?_
  refine w_end ?_
  refine q_then ?_
  refine cd_cond r1 rfl (fun hb9 => ?_) (fun hb9 => ?_)
  · replace h := bif_t hb9 h
    refine c_seq ?_
    refine c_seq ?_
    refine rg ?_
    refine st (v := (B r5)) (rv_move rfl) ?_
    refine w_end ?_
    refine q_then ?_
    refine cd_cond r5 rfl (fun hb10 => ?_) (fun hb10 => ?_)
    · replace h := bif_t hb10 h
      refine c_seq ?_
      refine rg ?_
      refine st (v := (I 0)) (rv_assign rfl) ?_
      refine w_end ?_
      refine q_then ?_
      refine c_ret ?_
      refine q_then_r ?_
      refine q_then_r ?_
      obtain rfl := Option.some.inj h
      exact bodyPost_ret (v := (I 0)) (results_fr1 Try.results79 rfl _) rfl ⟨_, σ7, rfl, rfl, hK, rfl⟩
    · replace h := bif_f hb10 h
      refine c_skip ?_
      refine q_then ?_
      refine c_seq ?_
      refine rg ?_
      refine st (v := (I (-1))) (rv_assign rfl) ?_
      refine w_end ?_
      refine q_then ?_
      refine c_ret ?_
      refine q_then_r ?_
      obtain rfl := Option.some.inj h
      exact bodyPost_ret (v := (I (-1))) (results_fr1 Try.results79 rfl _) rfl ⟨_, σ7, rfl, rfl, hK, rfl⟩
  · replace h := bif_f hb9 h
    refine c_skip ?_
    refine q_then ?_
    refine c_seq ?_
    refine c_seq ?_
    refine rg ?_
    refine st (v := (B r5)) (rv_move rfl) ?_
    refine w_end ?_
    refine q_then ?_
    refine cd_cond r5 rfl (fun hb11 => ?_) (fun hb11 => ?_)
    · replace h := bif_t hb11 h
      refine c_seq ?_
      refine rg ?_
      refine st (v := (I 1)) (rv_assign rfl) ?_
      refine w_end ?_
      refine q_then ?_
      refine c_ret ?_
      refine q_then_r ?_
      obtain rfl := Option.some.inj h
      exact bodyPost_ret (v := (I 1)) (results_fr1 Try.results79 rfl _) rfl ⟨_, σ7, rfl, rfl, hK, rfl⟩
    · replace h := bif_f hb11 h
      refine c_skip ?_
      refine q_then ?_
      refine c_seq ?_
      refine c_seq ?_
      refine rg ?_
      refine st (v := (I x_0)) (rv_move rfl) ?_
      refine st (v := (I y_1)) (rv_move rfl) ?_
      refine st (v := (B (decide (x_0 < y_1)))) (rv_lss (a := x_0) (b := y_1) rfl rfl) ?_
      refine w_end ?_
      refine q_then ?_
      refine cd_cond (decide (x_0 < y_1)) rfl (fun hb12 => ?_) (fun hb12 => ?_)
      · replace h := bif_t hb12 h
        refine c_seq ?_
        refine rg ?_
        refine st (v := (I (-1))) (rv_assign rfl) ?_
        refine w_end ?_
        refine q_then ?_
        refine c_ret ?_
        refine q_then_r ?_
        obtain rfl := Option.some.inj h
        exact bodyPost_ret (v := (I (-1))) (results_fr1 Try.results79 rfl _) rfl ⟨_, σ7, rfl, rfl, hK, rfl⟩
      · replace h := bif_f hb12 h
        refine c_skip ?_
        refine q_then ?_
        refine c_seq ?_
        refine c_seq ?_
        refine rg ?_
        refine st (v := (I x_0)) (rv_move rfl) ?_
        refine st (v := (I y_1)) (rv_move rfl) ?_
        refine st (v := (B (decide (y_1 < x_0)))) (rv_gtr (a := x_0) (b := y_1) rfl rfl) ?_
        refine w_end ?_
        refine q_then ?_
        refine cd_cond (decide (y_1 < x_0)) rfl (fun hb13 => ?_) (fun hb13 => ?_)
        · replace h := bif_t hb13 h
          refine c_seq ?_
          refine rg ?_
          refine st (v := (I 1)) (rv_assign rfl) ?_
          refine w_end ?_
          refine q_then ?_
          refine c_ret ?_
          refine q_then_r ?_
          obtain rfl := Option.some.inj h
          exact bodyPost_ret (v := (I 1)) (results_fr1 Try.results79 rfl _) rfl ⟨_, σ7, rfl, rfl, hK, rfl⟩
        · replace h := bif_f hb13 h
          refine c_skip ?_
          refine q_then ?_
          refine c_seq ?_
          refine rg ?_
          refine st (v := (I 0)) (rv_assign rfl) ?_
          refine w_end ?_
          refine q_then ?_
          refine c_ret ?_
          obtain rfl := Option.some.inj h
          exact bodyPost_ret (v := (I 0)) (results_fr1 Try.results79 rfl _) rfl ⟨_, σ7, rfl, rfl, hK, rfl⟩

theorem c_impl_placeOf_1 {σ0 : St} {x_0 : Int × (List Int) × Int} {key_1 : Int} {ax_0_1 : Option Addr} {cx_0_1 : Nat} (hRx_0_1 : RS 0 σ0 (Sl ax_0_1 x_0.2.1 cx_0_1) x_0.2.1) {r : Int} (h : M.impl_placeOf_1 x_0 key_1 = some r) :
    Cal Try.prog 78 [(.agg #[(I x_0.1), (Sl ax_0_1 x_0.2.1 cx_0_1), (I x_0.2.2)]), (I key_1)] none σ0 (fun v σ' => v = (I r)) := by
  refine ⟨⟨_, _, Try.func78, rfl, rfl⟩, ?_⟩
  refine enter (n := 9) Try.func78 rfl rfl rfl ?_
  unfold M.impl_placeOf_1 at h
  have hK : Mod none σ0 σ0 := Mod.refl _ _
  refine c_seq ?_
  refine rg ?_
  refine st_box (cs := [(I x_0.1), (Sl ax_0_1 x_0.2.1 cx_0_1), (I x_0.2.2)]) rfl rfl ?_ (wanted_none _ rfl _)
  intro b2 σ4 hbn6 m5 hB1
  have hge3 := Nat.le_trans hK.size (Nat.le_of_eq hbn6)
  replace hRx_0_1 := hRx_0_1.mod m5
  replace hK := hK.none m5
  clear hbn6 m5
  refine st (v := (I 0)) (rv_assign rfl) ?_
  refine w_end ?_
  refine q_then ?_
  refine c_seq ?_
  refine rg ?_
  refine st (v := (pt b2 0)) (rv_fieldAddr (off := 0) (ft := 3) Try.underlying26 rfl ti3 rfl rfl) ?_
  refine st (v := (I x_0.1)) (rv_load1 Try.underlying3 rfl rfl (hB1.cell' 0 rfl rfl)) ?_
  refine st (v := (I key_1)) (rv_move rfl) ?_
  obtain ⟨r7, hx8, h'⟩ := bind_some h
  clear h
  have h := h'; clear h'
  refine st_call (c_cmp_Compare_int  hx8) rfl ?_
  have hKs := hK.size
  rintro _ σ9 m10 rfl
  replace hK := hK.none m10
  clear hKs m10
  refine st (v := (I r7)) (rv_assign rfl) ?_
  refine w_end ?_
  refine q_then ?_
  refine c_ret ?_
  obtain rfl := Option.some.inj h
  exact bodyPost_ret (v := (I r7)) (results_fr1 Try.results78 rfl _) rfl ⟨_, σ9, rfl, rfl, hK, rfl⟩

theorem c_laws_equalInts {σ0 : St} {a_0 : List Int} {b_1 : List Int} {aa_0 : Option Addr} {ca_0 : Nat} (hRa_0 : RS 0 σ0 (Sl aa_0 a_0 ca_0) a_0) {ab_1 : Option Addr} {cb_1 : Nat} (hRb_1 : RS 0 σ0 (Sl ab_1 b_1 cb_1) b_1) {r : Bool} (h : M.laws_equalInts a_0 b_1 = some r) :
    Cal Try.prog 30 [(Sl aa_0 a_0 ca_0), (Sl ab_1 b_1 cb_1)] none σ0 (fun v σ' => v = (B r)) := by
  refine ⟨⟨_, _, Try.func30, rfl, rfl⟩, ?_⟩
  refine enter (n := 26) Try.func30 rfl rfl rfl ?_
  unfold M.laws_equalInts at h
  have hK : Mod none σ0 σ0 := Mod.refl _ _
  refine c_seq ?_
  refine rg ?_
  refine st (v := (B false)) (rv_assign rfl) ?_
  refine w_end ?_
  refine q_then ?_
  refine c_seq ?_
  refine c_seq ?_
  refine rg ?_
  refine st (v := (Sl aa_0 a_0 ca_0)) (rv_move rfl) ?_
  refine st (v := (I (a_0.length : Int))) (rv_len Try.underlying24 rfl) ?_
  refine st (v := (Sl ab_1 b_1 cb_1)) (rv_move rfl) ?_
  refine st (v := (I (b_1.length : Int))) (rv_len Try.underlying24 rfl) ?_
  refine st (v := (B ((a_0.length : Int) != (b_1.length : Int)))) (rv_neq (a := (a_0.length : Int)) (b := (b_1.length : Int)) rfl rfl) ?_
  refine w_end ?_
  refine q_then ?_
  refine cd_cond ((a_0.length : Int) != (b_1.length : Int)) rfl (fun hb1 => ?_) (fun hb1 => ?_)
  · replace h := bif_t hb1 h
    refine c_seq ?_
    refine rg ?_
    refine st (v := (B false)) (rv_assign rfl) ?_
    refine w_end ?_
    refine q_then ?_
    refine c_ret ?_
    refine q_then_r ?_
    obtain rfl := Option.some.inj h
    exact bodyPost_ret (v := (B false)) (results_fr1 Try.results30 rfl _) rfl ⟨_, σ0, rfl, rfl, hK, rfl⟩
  · replace h := bif_f hb1 h
    refine c_skip ?_
    refine q_then ?_
    refine c_seq ?_
    refine c_seq ?_
    refine rg ?_
    refine st (v := (I 0)) (rv_assign rfl) ?_
    refine w_end ?_
    refine q_then ?_
    obtain ⟨o2, hj, h'⟩ := bind_some h
    clear h
    refine c_cut (fun e a w => (∃ t, o2 = (.inl t) ∧ e = .normal ∧ ∃ (ρ : Nat → Value) (σ : St), a = fr 26 (updL ρ []) ∧ w = σ.w ∧ Mod none σ0 σ) ∨ (∃ t, o2 = (.inr t) ∧ e = .ret ∧ ∃ (ρ : Nat → Value) (σ : St), a = fr 26 (updL ρ [(4, (B t))]) ∧ w = σ.w ∧ Mod none σ0 σ)) ?_ ?_
    · clear h'
      rename _ = some o2 => h
      refine c_blk ?_
      refine wp_loopM _ h (fun s3 a w => ∃ (ρ : Nat → Value) (σ : St), a = fr 26 (updL ρ [(0, (Sl aa_0 a_0 ca_0)), (1, (Sl ab_1 b_1 cb_1)), (5, (I s3))]) ∧ w = σ.w ∧ Mod none σ0 σ ∧ RS 0 σ (Sl aa_0 a_0 ca_0) a_0 ∧ RS 0 σ (Sl ab_1 b_1 cb_1) b_1) ⟨_, σ0, fr_join ⟨rfl, rfl, rfl, trivial⟩, rfl, hK, hRa_0, hRb_1⟩ ?_
      clear h
      rintro s3 a w o ⟨ρ, σ5, rfl, rfl, hK, hR6, hR7⟩ h hres
      refine c_seq ?_
      refine c_seq ?_
      refine rg ?_
      refine st (v := (I s3)) (rv_move rfl) ?_
      refine st (v := (Sl aa_0 a_0 ca_0)) (rv_move rfl) ?_
      refine st (v := (I (a_0.length : Int))) (rv_len Try.underlying24 rfl) ?_
      refine st (v := (B (decide (s3 < (a_0.length : Int))))) (rv_lss (a := s3) (b := (a_0.length : Int)) rfl rfl) ?_
      refine w_end ?_
      refine q_then ?_
      refine cd_cond (decide (s3 < (a_0.length : Int))) rfl (fun hb8 => ?_) (fun hb8 => ?_)
      · replace h := bif_t hb8 h
        refine c_skip ?_
        refine q_then ?_
        refine c_seq ?_
        refine c_blk ?_
        refine c_seq ?_
        obtain ⟨x9, hx10, h'⟩ := bind_some h
        clear h
        have h := h'; clear h'
        obtain ⟨b12, o13, hi11, -⟩ := hR6.ix hx10
        obtain ⟨x14, hx15, h'⟩ := bind_some h
        clear h
        have h := h'; clear h'
        obtain ⟨b17, o18, hi16, -⟩ := hR7.ix hx15
        refine rg_monoL (σ := σ5) 8 [eqv (Sl aa_0 a_0 ca_0), eqv (I s3), eqv (pt b12 o13), eqv (I x9), eqv (Sl ab_1 b_1 cb_1), eqv (I s3), eqv (pt b17 o18), eqv (I x14)] (by kernel_rfl) (by kernel_rfl) (mono_cons mono_eqv (mono_cons mono_eqv (mono_cons mono_eqv (mono_cons mono_eqv (mono_cons mono_eqv (mono_cons mono_eqv (mono_cons mono_eqv (mono_cons mono_eqv (mono_nil))))))))) ?_ ?_
        · refine all_cons (by
              intro ρ σm m hoff hdep
              have e0 : look 26 ρ 0 = (Sl aa_0 a_0 ca_0) := look_off (hoff 0 rfl) rfl
              exact does_v (v := (Sl aa_0 a_0 ca_0)) (wanted_none _ rfl _) (rv_move e0) rfl) ?_
          refine all_cons (by
              intro ρ σm m hoff hdep
              have e5 : look 26 ρ 5 = (I s3) := look_off (hoff 5 rfl) rfl
              exact does_v (v := (I s3)) (wanted_none _ rfl _) (rv_move e5) rfl) ?_
          refine all_cons (by
              intro ρ σm m hoff hdep
              have e17 : look 26 ρ 17 = (Sl aa_0 a_0 ca_0) := hdep 0 rfl rfl 17 rfl
              have e18 : look 26 ρ 18 = (I s3) := hdep 1 rfl rfl 18 rfl
              exact does_v (v := (pt b12 o13)) (wanted_none _ rfl _) (rv_ix Try.underlying24 ti3 e17 e18 hi11) rfl) ?_
          refine all_cons (by
              intro ρ σm m hoff hdep
              have e19 : look 26 ρ 19 = (pt b12 o13) := hdep 2 rfl rfl 19 rfl
              replace hR6 := hR6.mod m
              exact does_v (v := (I x9)) (wanted_none _ rfl _) (rv_load1 Try.underlying3 rfl e19 (hR6.at hx10 hi11).int) rfl) ?_
          refine all_cons (by
              intro ρ σm m hoff hdep
              have e1 : look 26 ρ 1 = (Sl ab_1 b_1 cb_1) := look_off (hoff 1 rfl) rfl
              exact does_v (v := (Sl ab_1 b_1 cb_1)) (wanted_none _ rfl _) (rv_move e1) rfl) ?_
          refine all_cons (by
              intro ρ σm m hoff hdep
              have e5 : look 26 ρ 5 = (I s3) := look_off (hoff 5 rfl) rfl
              exact does_v (v := (I s3)) (wanted_none _ rfl _) (rv_move e5) rfl) ?_
          refine all_cons (by
              intro ρ σm m hoff hdep
              have e21 : look 26 ρ 21 = (Sl ab_1 b_1 cb_1) := hdep 4 rfl rfl 21 rfl
              have e22 : look 26 ρ 22 = (I s3) := hdep 5 rfl rfl 22 rfl
              exact does_v (v := (pt b17 o18)) (wanted_none _ rfl _) (rv_ix Try.underlying24 ti3 e21 e22 hi16) rfl) ?_
          refine all_cons (by
              intro ρ σm m hoff hdep
              have e23 : look 26 ρ 23 = (pt b17 o18) := hdep 6 rfl rfl 23 rfl
              replace hR7 := hR7.mod m
              exact does_v (v := (I x14)) (wanted_none _ rfl _) (rv_load1 Try.underlying3 rfl e23 (hR7.at hx15 hi16).int) rfl) ?_
          exact all_nil
        · intro ρ σ19 m hoff hrel
          have e0 : look 26 ρ 0 = (Sl aa_0 a_0 ca_0) := look_off (hoff 0 rfl) rfl
          have e1 : look 26 ρ 1 = (Sl ab_1 b_1 cb_1) := look_off (hoff 1 rfl) rfl
          have e5 : look 26 ρ 5 = (I s3) := look_off (hoff 5 rfl) rfl
          have e20 : look 26 ρ 20 = (I x9) := hrel 3 rfl 20 rfl
          have e24 : look 26 ρ 24 = (I x14) := hrel 7 rfl 24 rfl
          replace hR6 := hR6.mod m
          replace hR7 := hR7.mod m
          replace hK := hK.none m
          rw [fr_lookL (L := [(0, (Sl aa_0 a_0 ca_0)), (1, (Sl ab_1 b_1 cb_1)), (5, (I s3)), (20, (I x9)), (24, (I x14))]) ⟨e0, e1, e5, e20, e24, trivial⟩]
          clear hoff hrel m e0 e1 e5 e20 e24
          refine st (v := (B (x9 != x14))) (rv_neq (a := x9) (b := x14) rfl rfl) ?_
          refine w_end ?_
          refine q_then ?_
          refine cd_cond (x9 != x14) rfl (fun hb20 => ?_) (fun hb20 => ?_)
          · replace h := bif_t hb20 h
            refine c_seq ?_
            refine rg ?_
            refine st (v := (B false)) (rv_assign rfl) ?_
            refine w_end ?_
            refine q_then ?_
            refine c_ret ?_
            refine q_blk_r ?_
            refine q_then_r ?_
            refine q_then_r ?_
            refine q_blk_r ?_
            obtain rfl := Option.some.inj h
            obtain rfl := hres _ rfl
            exact .inr (⟨_, rfl, rfl, _, σ19, fr_join ⟨rfl, trivial⟩, rfl, hK⟩)
          · replace h := bif_f hb20 h
            refine c_skip ?_
            refine q_blk ?_
            refine q_then ?_
            refine rg ?_
            refine st (v := (I s3)) (rv_move rfl) ?_
            refine st (v := (I (w64 (s3 + 1)))) (rv_add (a := s3) (b := 1) rfl rfl) ?_
            refine st (v := (I (w64 (s3 + 1)))) (rv_assign rfl) ?_
            refine w_end ?_
            refine q_then ?_
            obtain rfl := Option.some.inj h
            exact ⟨_, rfl, _, σ19, fr_join ⟨rfl, rfl, rfl, trivial⟩, rfl, hK, hR6, hR7⟩
      · replace h := bif_f hb8 h
        refine c_exit ?_
        refine q_then_x ?_
        refine q_then_x ?_
        refine q_blk_hit ?_
        obtain rfl := Option.some.inj h
        obtain rfl := hres _ rfl
        exact .inl ⟨_, rfl, rfl, _, σ5, fr_join trivial, rfl, hK⟩
    · clear hj
      have h := h'
      clear h'
      rintro e a w (⟨t21, rfl, rfl, ρ, σ22, rfl, rfl, hK⟩ | ⟨t23, rfl, rfl, ρ, σ24, rfl, rfl, hK⟩)
      · replace h := selim_l h
        refine q_then ?_
        refine c_seq ?_
        refine rg ?_
        refine st (v := (B true)) (rv_assign rfl) ?_
        refine w_end ?_
        refine q_then ?_
        refine c_ret ?_
        obtain rfl := Option.some.inj h
        exact bodyPost_ret (v := (B true)) (results_fr1 Try.results30 rfl _) rfl ⟨_, σ22, rfl, rfl, hK, rfl⟩
      · replace h := selim_r h
        refine q_then_r ?_
        obtain rfl := Option.some.inj h
        exact bodyPost_ret (v := (B t23)) (results_fr1 Try.results30 rfl _) rfl ⟨_, σ24, rfl, rfl, hK, rfl⟩

end Go.Vs
