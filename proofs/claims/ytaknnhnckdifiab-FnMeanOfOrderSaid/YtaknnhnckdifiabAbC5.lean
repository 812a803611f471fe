/- The functions compute what their models say. -/
import Derived.Test.YtaknnhnckdifiabAbC4
set_option linter.unusedVariables false
set_option linter.unusedSimpArgs false
set_option maxRecDepth 20000
namespace Go.Vs
open Go Go.Proofs
attribute [local irreducible] Code.wp wpList wpQuiet Calls

theorem c_spec_DrawMeanOf {σ0 : St} {code_0 : List UInt8} {acode_0 : Option Addr} {ccode_0 : Nat} (hRcode_0 : RS 0 σ0 (Sl acode_0 code_0 ccode_0) code_0) {r : (List (List Int))} (h : M.spec_DrawMeanOf code_0 = some r) :
    Cal Try.prog 38 [(Sl acode_0 code_0 ccode_0)] none σ0 (fun v σ' => ∃ (a0 : Option Addr) (c0 : Nat), v = (Sl a0 r c0) ∧ Ow σ' σ0.size σ0.size (Sl a0 r c0) r) := by
  refine ⟨⟨_, _, Try.func38, rfl, rfl⟩, ?_⟩
  refine enter (n := 30) Try.func38 rfl rfl rfl ?_
  unfold M.spec_DrawMeanOf at h
  have hK : Mod none σ0 σ0 := Mod.refl _ _
  refine c_seq ?_
  refine rg ?_
  refine st (v := (.slice none 0 0)) (rv_assign rfl) ?_
  refine w_end ?_
  refine q_then ?_
  refine c_seq ?_
  refine rg ?_
  refine st (v := (Sl acode_0 code_0 ccode_0)) (rv_move rfl) ?_
  obtain ⟨r1, hx2, h'⟩ := bind_some h
  clear h
  have h := h'; clear h'
  refine st_call (c_spec_newReader hRcode_0 hx2) rfl ?_
  have hKs := hK.size
  rintro _ σ3 m4 ⟨b5, a8, c9, rfl, hR10, hge6, hB7⟩
  replace hRcode_0 := hRcode_0.mod m4
  replace hK := hK.none m4
  replace hge6 := Nat.le_trans hKs hge6
  clear hKs m4
  refine st (v := (pt b5 0)) (rv_assign rfl) ?_
  refine w_end ?_
  refine q_then ?_
  refine c_seq ?_
  refine rg ?_
  refine st_buildSlice (lo := σ0.size) (el := σ0.size) (xs := ([] : List (List Int))) (ps := []) (cs := []) Try.underlying52 ti24 rfl rfl (by kernel_rfl) (.nil) rfl ?_ hK.size (wanted_none _ rfl _)
  intro b12 σ13 hbn15 m14 hO11
  have hd16 := hB7.df' hbn15
  replace hR10 := hR10.mod m14
  replace hB7 := hB7.mod0 m14
  replace hK := hK.none m14
  clear hbn15 m14
  refine st (v := (Sl (some ⟨b12, 0, none⟩) ([] : List (List Int)) 0)) (rv_assign rfl) ?_
  refine w_end ?_
  refine q_then ?_
  refine c_seq ?_
  refine c_seq ?_
  refine rg ?_
  refine st (v := (pt b5 0)) (rv_move rfl) ?_
  refine st_buildSlice (lo := σ0.size) (el := σ0.size) (xs := ([3, 2, 4, 1, 0, 16, 17] : List Int)) (ps := [(0, (I 3)), (1, (I 2)), (2, (I 4)), (3, (I 1)), (4, (I 0)), (5, (I 16)), (6, (I 17))]) (cs := [(I 3), (I 2), (I 4), (I 1), (I 0), (I 16), (I 17)]) Try.underlying24 ti3 rfl rfl (by kernel_rfl) (.cons (c := [(I 3)]) rfl (.cons (c := [(I 2)]) rfl (.cons (c := [(I 4)]) rfl (.cons (c := [(I 1)]) rfl (.cons (c := [(I 0)]) rfl (.cons (c := [(I 16)]) rfl (.cons (c := [(I 17)]) rfl (.nil)))))))) rfl ?_ hK.size (wanted_none _ rfl _)
  intro b18 σ19 hbn21 m20 hO17
  have hd22 := hO11.df' hbn21
  have hd23 := hB7.df' hbn21
  replace hR10 := hR10.mod m20
  replace hO11 := hO11.mod0 m20
  replace hB7 := hB7.mod0 m20
  replace hK := hK.none m20
  clear hbn21 m20
  have hg28 := hO17.ge
  obtain ⟨σ24, hw27, m25, hR26⟩ := hO17.pub' (Nat.le_refl _)
  rw [← hw27]; clear hw27
  replace hR10 := hR10.mod m25
  replace hO11 := hO11.mod' m25 (by first | exact hd22 | exact Df.re hd22)
  replace hB7 := hB7.mod' m25 (by first | exact hd23 | exact Df.reR hd23)
  replace hK := hK.own m25 hg28
  obtain ⟨r29, hx30, h'⟩ := bind_some h
  clear h
  have h := h'; clear h'
  refine st_call (c_spec_reader_one hR10 hB7 hB7.lt (hR26.low (Nat.zero_le _)) hx30) rfl ?_
  have hd37 := hO11.ltb
  have hd38 := hB7.ltb
  have hKs := hK.size
  rintro _ σ31 m32 ⟨a33, c34, rfl, hR35, hB36⟩
  replace hR10 := hR10.mod m32
  replace hO11 := hO11.mod' m32 (by first | exact (hd16).symm | exact Df.reL (hd16).symm)
  replace hR26 := hR26.mod m32
  replace hK := hK.some m32 hge6
  clear hKs m32
  refine st (v := (I r29.1)) (rv_assign rfl) ?_
  refine w_end ?_
  refine q_then ?_
  obtain ⟨o39, hj, h'⟩ := bind_some h
  clear h
  refine c_cut (fun e a w => e = .normal ∧ ∃ (ρ : Nat → Value) (σ : St) (aj1 : Option Addr) (cj2 : Nat) (aj5 : Option Addr) (cj6 : Nat), a = fr 30 (updL ρ [(3, (pt b5 0)), (4, (Sl aj5 o39.2 cj6))]) ∧ w = σ.w ∧ Mod none σ0 σ ∧ RS 0 σ (Sl aj1 o39.1.1 cj2) o39.1.1 ∧ Bx σ b5 [(Sl aj1 o39.1.1 cj2), (I o39.1.2)] ∧ Ow σ σ0.size σ0.size (Sl aj5 o39.2 cj6) o39.2 ∧ Df (blk (Sl aj5 o39.2 cj6)) (some b5)) ?_ ?_
  · clear h'
    rename _ = some o39 => h
    refine c_blk ?_
    refine wp_loopM _ h (fun s40 a w => ∃ (ρ : Nat → Value) (σ : St) (aj1 : Option Addr) (cj2 : Nat) (aj5 : Option Addr) (cj6 : Nat), a = fr 30 (updL ρ [(3, (pt b5 0)), (4, (Sl aj5 s40.2.1 cj6)), (5, (I s40.2.2))]) ∧ w = σ.w ∧ Mod none σ0 σ ∧ RS 0 σ (Sl aj1 s40.1.1 cj2) s40.1.1 ∧ Bx σ b5 [(Sl aj1 s40.1.1 cj2), (I s40.1.2)] ∧ Ow σ σ0.size σ0.size (Sl aj5 s40.2.1 cj6) s40.2.1 ∧ Df (blk (Sl aj5 s40.2.1 cj6)) (some b5)) ⟨_, σ31, a33, c34, (some ⟨b12, 0, none⟩), 0, fr_join ⟨rfl, rfl, rfl, trivial⟩, rfl, hK, hR35, hB36, hO11, (by first | exact (hd16).symm | exact Df.reL (hd16).symm)⟩ ?_
    clear h
    rintro s40 a w o ⟨ρ, σ42, a43, c44, a47, c48, rfl, rfl, hK, hR45, hB46, hO49, hd50⟩ h hres
    refine c_seq ?_
    refine c_seq ?_
    refine rg ?_
    refine st (v := (I s40.2.2)) (rv_move rfl) ?_
    refine st (v := (B (decide (0 < s40.2.2)))) (rv_gtr (a := s40.2.2) (b := 0) rfl rfl) ?_
    refine w_end ?_
    refine q_then ?_
    refine cd_cond (decide (0 < s40.2.2)) rfl (fun hb51 => ?_) (fun hb51 => ?_)
    · replace h := bif_t hb51 h
      refine c_skip ?_
      refine q_then ?_
      refine c_seq ?_
      refine c_blk ?_
      refine rg ?_
      refine st (v := (Sl a47 s40.2.1 c48)) (rv_move rfl) ?_
      refine st (v := (pt b5 0)) (rv_move rfl) ?_
      obtain ⟨r52, hx53, h'⟩ := bind_some h
      clear h
      have h := h'; clear h'
      refine st_call (c_spec_someVector hR45 hB46 hB46.lt hx53) rfl ?_
      have hd63 := hO49.ltb
      have hd64 := hB46.ltb
      have hKs := hK.size
      rintro _ σ54 m55 ⟨a56, c57, a59, c60, rfl, hO58, hR61, hB62⟩
      replace hR45 := hR45.mod m55
      replace hO49 := hO49.mod' m55 (by first | exact hd50 | exact Df.reL hd50)
      replace hK := hK.some m55 hge6
      have hO58g := hO58.ge
      replace hO58 := hO58.lo hKs
      replace hO58 := hO58.low' hKs
      have hd65 := Df.ge hd63 hO58g
      have hd66 := Df.ge hd64 hO58g
      clear hKs m55 hO58g
      have hg71 := hO58.ge
      obtain ⟨σ67, hw70, m68, hR69⟩ := hO58.pub' (Nat.le_refl _)
      rw [← hw70]; clear hw70
      replace hR61 := hR61.mod m68
      replace hO49 := hO49.mod' m68 (by first | exact hd65 | exact Df.re hd65)
      replace hB62 := hB62.mod' m68 (by first | exact hd66 | exact Df.reR hd66)
      replace hK := hK.own m68 hg71
      refine st_buildSlice (lo := σ0.size) (el := σ0.size) (xs := ([r52.1] : List (List Int))) (ps := [(0, (Sl a56 r52.1 c57))]) (cs := [(Sl a56 r52.1 c57)]) Try.underlying52 ti24 rfl rfl (by kernel_rfl) (.cons (c := [(Sl a56 r52.1 c57)]) ⟨_, rfl, hR69⟩ (.nil)) rfl ?_ hK.size (wanted_none _ rfl _)
      intro b73 σ74 hbn76 m75 hO72
      have hd77 := hO49.df' hbn76
      have hd78 := hB62.df' hbn76
      replace hR61 := hR61.mod m75
      replace hO49 := hO49.mod0 m75
      replace hR69 := hR69.mod m75
      replace hB62 := hB62.mod0 m75
      replace hK := hK.none m75
      clear hbn76 m75
      obtain ⟨xs79, hx80, h'⟩ := bind_some h
      clear h
      have h := h'; clear h'
      have hg81 := hO49.ge
      refine st_append Try.underlying52 Try.underlying52 ti24 rfl rfl (by decide) hO49 hO72.rd hx80 hK.size rfl rfl ?_ (wanted_none _ rfl _)
      have hd88 := hB62.ltb
      intro a86 c87 σ82 m83 hO84 hq85
      replace hR61 := hR61.mod m83
      replace hB62 := hB62.mod' m83 (by first | exact (hd50).symm | exact Df.reR (hd50).symm)
      replace hK := hK.own m83 hg81
      have hd89 := Df.app (hd50).symm hd88 hq85
      clear hq85 m83
      refine st (v := (Sl a86 xs79 c87)) (rv_assign rfl) ?_
      refine w_end ?_
      refine q_blk ?_
      refine q_then ?_
      refine rg ?_
      refine st (v := (I s40.2.2)) (rv_move rfl) ?_
      refine st (v := (I (w64 (s40.2.2 - 1)))) (rv_sub (a := s40.2.2) (b := 1) rfl rfl) ?_
      refine st (v := (I (w64 (s40.2.2 - 1)))) (rv_assign rfl) ?_
      refine w_end ?_
      refine q_then ?_
      obtain rfl := Option.some.inj h
      exact ⟨_, rfl, _, σ82, a59, c60, a86, c87, fr_join ⟨rfl, rfl, rfl, trivial⟩, rfl, hK, hR61, hB62, hO84, (by first | exact (hd89).symm | exact Df.reL (hd89).symm)⟩
    · replace h := bif_f hb51 h
      refine c_exit ?_
      refine q_then_x ?_
      refine q_then_x ?_
      refine q_blk_hit ?_
      obtain rfl := Option.some.inj h
      obtain rfl := hres _ rfl
      exact ⟨rfl, _, σ42, a43, c44, a47, c48, fr_join ⟨rfl, rfl, trivial⟩, rfl, hK, hR45, hB46, hO49, (by first | exact hd50 | exact Df.reL hd50)⟩
  · clear hj
    have h := h'
    clear h'
    rintro e a w ⟨rfl, ρ, σ90, a91, c92, a95, c96, rfl, rfl, hK, hR93, hB94, hO97, hd98⟩
    refine q_then ?_
    refine c_seq ?_
    refine c_seq ?_
    refine rg ?_
    refine st (v := (pt b5 0)) (rv_move rfl) ?_
    obtain ⟨r99, hx100, h'⟩ := bind_some h
    clear h
    have h := h'; clear h'
    refine st_call (c_spec_reader_pick hR93 hB94 hB94.lt hx100) rfl ?_
    have hd107 := hO97.ltb
    have hd108 := hB94.ltb
    have hKs := hK.size
    rintro _ σ101 m102 ⟨a103, c104, rfl, hR105, hB106⟩
    replace hR93 := hR93.mod m102
    replace hO97 := hO97.mod' m102 (by first | exact hd98 | exact Df.reL hd98)
    replace hK := hK.some m102 hge6
    clear hKs m102
    refine st (v := (B (r99.1 == 0))) (rv_eql (a := r99.1) (b := 0) rfl rfl) ?_
    refine w_end ?_
    refine q_then ?_
    obtain ⟨o109, hj, h'⟩ := bind_some h
    clear h
    refine c_cut (fun e a w => e = .normal ∧ ∃ (ρ : Nat → Value) (σ : St) (aj1 : Option Addr) (cj2 : Nat), a = fr 30 (updL ρ [(4, (Sl aj1 o109 cj2))]) ∧ w = σ.w ∧ Mod none σ0 σ ∧ Ow σ σ0.size σ0.size (Sl aj1 o109 cj2) o109) ?_ ?_
    · clear h'
      rename _ = some o109 => h
      refine cd_cond (r99.1 == 0) rfl (fun hb110 => ?_) (fun hb110 => ?_)
      · replace h := bif_t hb110 h
        refine rg ?_
        refine st (v := (Sl a95 o39.2 c96)) (rv_move rfl) ?_
        refine st (v := (pt b5 0)) (rv_move rfl) ?_
        obtain ⟨r111, hx112, h'⟩ := bind_some h
        clear h
        have h := h'; clear h'
        refine st_call (c_spec_anyVector hR105 hB106 hB106.lt hx112) rfl ?_
        have hd122 := hO97.ltb
        have hd123 := hB106.ltb
        have hKs := hK.size
        rintro _ σ113 m114 ⟨a115, c116, a118, c119, rfl, hO117, hR120, hB121⟩
        replace hO97 := hO97.mod' m114 (by first | exact hd98 | exact Df.reL hd98)
        replace hR105 := hR105.mod m114
        replace hK := hK.some m114 hge6
        have hO117g := hO117.ge
        replace hO117 := hO117.lo hKs
        replace hO117 := hO117.low' hKs
        have hd124 := Df.ge hd122 hO117g
        have hd125 := Df.ge hd123 hO117g
        clear hKs m114 hO117g
        have hg130 := hO117.ge
        obtain ⟨σ126, hw129, m127, hR128⟩ := hO117.pub' (Nat.le_refl _)
        rw [← hw129]; clear hw129
        replace hO97 := hO97.mod' m127 (by first | exact hd124 | exact Df.re hd124)
        replace hK := hK.own m127 hg130
        refine st_buildSlice (lo := σ0.size) (el := σ0.size) (xs := ([r111.1] : List (List Int))) (ps := [(0, (Sl a115 r111.1 c116))]) (cs := [(Sl a115 r111.1 c116)]) Try.underlying52 ti24 rfl rfl (by kernel_rfl) (.cons (c := [(Sl a115 r111.1 c116)]) ⟨_, rfl, hR128⟩ (.nil)) rfl ?_ hK.size (wanted_none _ rfl _)
        intro b132 σ133 hbn135 m134 hO131
        have hd136 := hO97.df' hbn135
        replace hO97 := hO97.mod0 m134
        replace hR128 := hR128.mod m134
        replace hK := hK.none m134
        clear hbn135 m134
        obtain ⟨xs137, hx138, h'⟩ := bind_some h
        clear h
        have h := h'; clear h'
        have hg139 := hO97.ge
        refine st_append Try.underlying52 Try.underlying52 ti24 rfl rfl (by decide) hO97 hO131.rd hx138 hK.size rfl rfl ?_ (wanted_none _ rfl _)
        intro a144 c145 σ140 m141 hO142 hq143
        replace hK := hK.own m141 hg139
        clear hq143 m141
        refine st (v := (Sl a144 xs137 c145)) (rv_assign rfl) ?_
        refine w_end ?_
        obtain rfl := Option.some.inj h
        exact ⟨rfl, _, σ140, a144, c145, fr_join ⟨rfl, trivial⟩, rfl, hK, hO142⟩
      · replace h := bif_f hb110 h
        refine c_skip ?_
        obtain rfl := Option.some.inj h
        exact ⟨rfl, _, σ101, a95, c96, fr_join ⟨rfl, trivial⟩, rfl, hK, hO97⟩
    · clear hj
      have h := h'
      clear h'
      rintro e a w ⟨rfl, ρ, σ146, a147, c148, rfl, rfl, hK, hO149⟩
      refine q_then ?_
      refine c_seq ?_
      refine rg ?_
      refine st (v := (Sl a147 o109 c148)) (rv_move rfl) ?_
      refine st (v := (Sl a147 o109 c148)) (rv_assign rfl) ?_
      refine w_end ?_
      refine q_then ?_
      refine c_ret ?_
      obtain rfl := Option.some.inj h
      exact bodyPost_ret (v := (Sl a147 o109 c148)) (results_fr1 Try.results38 rfl _) rfl ⟨_, σ146, rfl, rfl, hK, a147, c148, rfl, hO149⟩

theorem c_impl_divideDown {σ0 : St} {n_0 : Int} {by_1 : Int}  {r : Int} (h : M.impl_divideDown n_0 by_1 = some r) :
    Cal Try.prog 70 [(I n_0), (I by_1)] none σ0 (fun v σ' => v = (I r)) := by
  refine ⟨⟨_, _, Try.func70, rfl, rfl⟩, ?_⟩
  refine enter (n := 16) Try.func70 rfl rfl rfl ?_
  unfold M.impl_divideDown at h
  have hK : Mod none σ0 σ0 := Mod.refl _ _
  refine c_seq ?_
  refine rg ?_
  refine st (v := (I 0)) (rv_assign rfl) ?_
  refine w_end ?_
  refine q_then ?_
  refine c_seq ?_
  refine rg ?_
  refine st (v := (I n_0)) (rv_move rfl) ?_
  refine st (v := (I by_1)) (rv_move rfl) ?_
  obtain ⟨q1, hx2, h'⟩ := bind_some h
  clear h
  have h := h'; clear h'
  refine st (v := (I q1)) (rv_quoG (a := n_0) (b := by_1) hx2 rfl rfl) ?_
  refine st (v := (I q1)) (rv_assign rfl) ?_
  refine w_end ?_
  refine q_then ?_
  refine c_seq ?_
  refine c_seq ?_
  refine rg ?_
  refine st (v := (I n_0)) (rv_move rfl) ?_
  refine st (v := (I by_1)) (rv_move rfl) ?_
  obtain ⟨q3, hx4, h'⟩ := bind_some h
  clear h
  have h := h'; clear h'
  refine st (v := (I q3)) (rv_remG (a := n_0) (b := by_1) hx4 rfl rfl) ?_
  refine st (v := (B (decide (q3 < 0)))) (rv_lss (a := q3) (b := 0) rfl rfl) ?_
  refine w_end ?_
  refine q_then ?_
  obtain ⟨o5, hj, h'⟩ := bind_some h
  clear h
  refine c_cut (fun e a w => e = .normal ∧ ∃ (ρ : Nat → Value) (σ : St), a = fr 16 (updL ρ [(5, (I o5))]) ∧ w = σ.w ∧ Mod none σ0 σ) ?_ ?_
  · clear h'
    rename _ = some o5 => h
    refine cd_cond (decide (q3 < 0)) rfl (fun hb6 => ?_) (fun hb6 => ?_)
    · replace h := bif_t hb6 h
      refine rg ?_
      refine st (v := (I q1)) (rv_move rfl) ?_
      refine st (v := (I (w64 (q1 - 1)))) (rv_sub (a := q1) (b := 1) rfl rfl) ?_
      refine st (v := (I (w64 (q1 - 1)))) (rv_assign rfl) ?_
      refine w_end ?_
      obtain rfl := Option.some.inj h
      exact ⟨rfl, _, σ0, fr_join ⟨rfl, trivial⟩, rfl, hK⟩
    · replace h := bif_f hb6 h
      refine c_skip ?_
      obtain rfl := Option.some.inj h
      exact ⟨rfl, _, σ0, fr_join ⟨rfl, trivial⟩, rfl, hK⟩
  · clear hj
    have h := h'
    clear h'
    rintro e a w ⟨rfl, ρ, σ7, rfl, rfl, hK⟩
    refine q_then ?_
    refine c_seq ?_
    refine rg ?_
    refine st (v := (I o5)) (rv_move rfl) ?_
    refine st (v := (I o5)) (rv_assign rfl) ?_
    refine w_end ?_
    refine q_then ?_
    refine c_ret ?_
    obtain rfl := Option.some.inj h
    exact bodyPost_ret (v := (I o5)) (results_fr1 Try.results70 rfl _) rfl ⟨_, σ7, rfl, rfl, hK, rfl⟩

theorem c_impl_MeanOf {σ0 : St} {list_0 : List (List Int)} {alist_0 : Option Addr} {clist_0 : Nat} (hRlist_0 : RS 0 σ0 (Sl alist_0 list_0 clist_0) list_0) {r : (List Int)} (h : M.impl_MeanOf list_0 = some r) :
    Cal Try.prog 39 [(Sl alist_0 list_0 clist_0)] none σ0 (fun v σ' => ∃ (a0 : Option Addr) (c0 : Nat), v = (Sl a0 r c0) ∧ Ow σ' σ0.size σ0.size (Sl a0 r c0) r) := by
  refine ⟨⟨_, _, Try.func39, rfl, rfl⟩, ?_⟩
  refine enter (n := 55) Try.func39 rfl rfl rfl ?_
  unfold M.impl_MeanOf at h
  have hK : Mod none σ0 σ0 := Mod.refl _ _
  refine c_seq ?_
  refine rg ?_
  refine st (v := (.slice none 0 0)) (rv_assign rfl) ?_
  refine w_end ?_
  refine q_then ?_
  refine c_seq ?_
  refine c_seq ?_
  obtain ⟨o1, hj, h'⟩ := bind_some h
  clear h
  refine c_cut (fun e a w => e = .normal ∧ ∃ (ρ : Nat → Value) (σ : St), a = fr 55 (updL ρ [(0, (Sl alist_0 list_0 clist_0)), (17, (B o1))]) ∧ w = σ.w ∧ Mod none σ0 σ ∧ RS 0 σ (Sl alist_0 list_0 clist_0) list_0) ?_ ?_
  · clear h'
    rename _ = some o1 => h
    refine rg ?_
    refine st (v := (Sl alist_0 list_0 clist_0)) (rv_move rfl) ?_
    refine st (v := (I (list_0.length : Int))) (rv_len Try.underlying52 rfl) ?_
    refine st (v := (B (decide ((list_0.length : Int) < 1)))) (rv_lss (a := (list_0.length : Int)) (b := 1) rfl rfl) ?_
    refine st (v := (B (decide ((list_0.length : Int) < 1)))) (rv_move rfl) ?_
    rcases Bool.eq_false_or_eq_true (decide ((list_0.length : Int) < 1)) with hb2 | hb2
    · replace h := bif_t hb2 h
      refine st_skip (congrArg some hb2) ?_
      refine st_skip (congrArg some hb2) ?_
      refine st_skip (congrArg some hb2) ?_
      refine st (v := (B true)) (rv_pick_t (congrArg B hb2) rfl) ?_
      refine w_end ?_
      obtain rfl := Option.some.inj h
      exact ⟨rfl, _, σ0, fr_join ⟨rfl, rfl, trivial⟩, rfl, hK, hRlist_0⟩
    · replace h := bif_f hb2 h
      refine st_g (v := (Sl alist_0 list_0 clist_0)) (congrArg some hb2) (rv_move rfl) ?_
      refine st_g (v := (I (list_0.length : Int))) (congrArg some hb2) (rv_len Try.underlying52 rfl) ?_
      refine st_g (v := (B (decide (16 < (list_0.length : Int))))) (congrArg some hb2) (rv_gtr (a := (list_0.length : Int)) (b := 16) rfl rfl) ?_
      refine st (v := (B (decide (16 < (list_0.length : Int))))) (rv_pick_f (congrArg B hb2) rfl) ?_
      refine w_end ?_
      obtain rfl := Option.some.inj h
      exact ⟨rfl, _, σ0, fr_join ⟨rfl, rfl, trivial⟩, rfl, hK, hRlist_0⟩
  · clear hj
    have h := h'
    clear h'
    rintro e a w ⟨rfl, ρ, σ3, rfl, rfl, hK, hR4⟩
    refine q_then ?_
    refine cd_cond o1 rfl (fun hb5 => ?_) (fun hb5 => ?_)
    · replace h := bif_t hb5 h
      refine c_seq ?_
      refine rg ?_
      refine st (v := (.slice none 0 0)) (rv_assign rfl) ?_
      refine w_end ?_
      refine q_then ?_
      refine c_ret ?_
      refine q_then_r ?_
      obtain rfl := Option.some.inj h
      exact bodyPost_ret (v := (.slice none 0 0)) (results_fr1 Try.results39 rfl _) rfl ⟨_, σ3, rfl, rfl, hK, none, 0, rfl, Ow.nil⟩
    · replace h := bif_f hb5 h
      refine c_skip ?_
      refine q_then ?_
      refine c_seq ?_
      refine rg ?_
      refine st_alloc (cs := (List.map I (List.replicate 4 0))) ti72 rfl ?_ (wanted_none _ rfl _)
      intro b7 σ9 hbn11 m10 hB6
      have hge8 := Nat.le_trans hK.size (Nat.le_of_eq hbn11)
      replace hR4 := hR4.mod m10
      replace hK := hK.none m10
      clear hbn11 m10
      refine w_end ?_
      refine q_then ?_
      refine c_seq ?_
      refine c_seq ?_
      refine rg ?_
      refine st (v := (Sl alist_0 list_0 clist_0)) (rv_move rfl) ?_
      refine st (v := (I (list_0.length : Int))) (rv_len Try.underlying52 rfl) ?_
      refine st (v := (I 0)) (rv_move rfl) ?_
      refine w_end ?_
      refine q_then ?_
      obtain ⟨o12, hj, h'⟩ := bind_some h
      clear h
      refine c_cut (fun e a w => (∃ t, o12 = (.inl t) ∧ e = .normal ∧ ∃ (ρ : Nat → Value) (σ : St), a = fr 55 (updL ρ [(0, (Sl alist_0 list_0 clist_0)), (3, (pt b7 0))]) ∧ w = σ.w ∧ Mod none σ0 σ ∧ RS 0 σ (Sl alist_0 list_0 clist_0) list_0 ∧ t.length = 4 ∧ Bx σ b7 (List.map I t)) ∨ (∃ t, o12 = (.inr t) ∧ e = .ret ∧ ∃ (ρ : Nat → Value) (σ : St) (aj1 : Option Addr) (cj2 : Nat), a = fr 55 (updL ρ [(2, (Sl aj1 t cj2))]) ∧ w = σ.w ∧ Mod none σ0 σ ∧ Ow σ σ0.size σ0.size (Sl aj1 t cj2) t)) ?_ ?_
      · clear h'
        rename _ = some o12 => h
        refine c_blk ?_
        refine wp_loopM _ h (fun s13 a w => ∃ (ρ : Nat → Value) (σ : St), a = fr 55 (updL ρ [(0, (Sl alist_0 list_0 clist_0)), (3, (pt b7 0)), (18, (Sl alist_0 list_0 clist_0)), (19, (I (list_0.length : Int))), (20, (I s13.2))]) ∧ w = σ.w ∧ Mod none σ0 σ ∧ RS 0 σ (Sl alist_0 list_0 clist_0) list_0 ∧ s13.1.length = 4 ∧ Bx σ b7 (List.map I s13.1)) ⟨_, σ9, fr_join ⟨rfl, rfl, rfl, rfl, rfl, trivial⟩, rfl, hK, hR4, rfl, hB6⟩ ?_
        clear h
        rintro s13 a w o ⟨ρ, σ15, rfl, rfl, hK, hR16, hl17, hB18⟩ h hres
        refine c_seq ?_
        refine rg ?_
        refine st (v := (B (decide (s13.2 < (list_0.length : Int))))) (rv_lss (a := s13.2) (b := (list_0.length : Int)) rfl rfl) ?_
        refine w_end ?_
        refine q_then ?_
        refine c_seq ?_
        refine cd_cond (decide (s13.2 < (list_0.length : Int))) rfl (fun hb19 => ?_) (fun hb19 => ?_)
        · replace h := bif_t hb19 h
          refine c_skip ?_
          refine q_then ?_
          refine c_seq ?_
          refine c_blk ?_
          refine c_seq ?_
          refine rg ?_
          obtain ⟨x20, hx21, h'⟩ := bind_some h
          clear h
          have h := h'; clear h'
          obtain ⟨b23, o24, hi22, -⟩ := hR16.ix hx21
          refine st (v := (pt b23 o24)) (rv_ix Try.underlying52 ti24 rfl rfl hi22) ?_
          obtain ⟨v28, hc29, hR27⟩ := (hR16.at hx21 hi22).slice
          obtain ⟨a25, c26, rfl⟩ := hR27.isSl
          refine st (v := (Sl a25 x20 c26)) (rv_load1 Try.underlying24 rfl rfl hc29) ?_
          refine st (v := (Sl a25 x20 c26)) (rv_assign rfl) ?_
          refine w_end ?_
          refine q_then ?_
          refine c_seq ?_
          refine c_seq ?_
          refine rg ?_
          refine st (v := (Sl a25 x20 c26)) (rv_move rfl) ?_
          obtain ⟨r30, hx31, h'⟩ := bind_some h
          clear h
          have h := h'; clear h'
          refine st_call (c_impl_ValidVector hR27 hx31) rfl ?_
          have hd34 := hB18.ltb
          have hKs := hK.size
          rintro _ σ32 m33 rfl
          replace hR16 := hR16.mod m33
          replace hR27 := hR27.mod m33
          replace hB18 := hB18.mod0 m33
          replace hK := hK.none m33
          clear hKs m33
          refine st (v := (B (!r30))) (rv_not rfl) ?_
          refine w_end ?_
          refine q_then ?_
          refine cd_cond (!r30) rfl (fun hb35 => ?_) (fun hb35 => ?_)
          · replace h := bif_t hb35 h
            refine c_seq ?_
            refine rg ?_
            refine st (v := (.slice none 0 0)) (rv_assign rfl) ?_
            refine w_end ?_
            refine q_then ?_
            refine c_ret ?_
            refine q_then_r ?_
            refine q_blk_r ?_
            refine q_then_r ?_
            refine q_then_r ?_
            refine q_blk_r ?_
            obtain rfl := Option.some.inj h
            obtain rfl := hres _ rfl
            exact .inr (⟨_, rfl, rfl, _, σ32, none, 0, fr_join ⟨rfl, trivial⟩, rfl, hK, Ow.nil⟩)
          · replace h := bif_f hb35 h
            refine c_skip ?_
            refine q_then ?_
            refine c_seq ?_
            refine rg ?_
            refine st (v := (Sl a25 x20 c26)) (rv_move rfl) ?_
            refine st (v := (I (x20.length : Int))) (rv_len Try.underlying24 rfl) ?_
            refine st (v := (I 0)) (rv_move rfl) ?_
            refine w_end ?_
            refine q_then ?_
            obtain ⟨o36, hj, h'⟩ := bind_some h
            clear h
            refine c_cut (fun e a w => e = .normal ∧ ∃ (ρ : Nat → Value) (σ : St), a = fr 55 (updL ρ [(0, (Sl alist_0 list_0 clist_0)), (3, (pt b7 0)), (18, (Sl alist_0 list_0 clist_0)), (19, (I (list_0.length : Int))), (20, (I s13.2))]) ∧ w = σ.w ∧ Mod none σ0 σ ∧ RS 0 σ (Sl alist_0 list_0 clist_0) list_0 ∧ o36.length = 4 ∧ Bx σ b7 (List.map I o36)) ?_ ?_
            · clear h'
              rename _ = some o36 => h
              refine c_blk ?_
              refine wp_loopM _ h (fun s37 a w => ∃ (ρ : Nat → Value) (σ : St), a = fr 55 (updL ρ [(0, (Sl alist_0 list_0 clist_0)), (3, (pt b7 0)), (18, (Sl alist_0 list_0 clist_0)), (19, (I (list_0.length : Int))), (20, (I s13.2)), (27, (Sl a25 x20 c26)), (28, (I (x20.length : Int))), (29, (I s37.2))]) ∧ w = σ.w ∧ Mod none σ0 σ ∧ RS 0 σ (Sl alist_0 list_0 clist_0) list_0 ∧ s37.1.length = 4 ∧ Bx σ b7 (List.map I s37.1) ∧ RS 0 σ (Sl a25 x20 c26) x20) ⟨_, σ32, fr_join ⟨rfl, rfl, rfl, rfl, rfl, rfl, rfl, rfl, trivial⟩, rfl, hK, hR16, hl17, hB18, hR27⟩ ?_
              clear h
              rintro s37 a w o ⟨ρ, σ39, rfl, rfl, hK, hR40, hl41, hB42, hR43⟩ h hres
              refine c_seq ?_
              refine rg ?_
              refine st (v := (B (decide (s37.2 < (x20.length : Int))))) (rv_lss (a := s37.2) (b := (x20.length : Int)) rfl rfl) ?_
              refine w_end ?_
              refine q_then ?_
              refine c_seq ?_
              refine cd_cond (decide (s37.2 < (x20.length : Int))) rfl (fun hb44 => ?_) (fun hb44 => ?_)
              · replace h := bif_t hb44 h
                refine c_skip ?_
                refine q_then ?_
                refine c_seq ?_
                refine c_blk ?_
                refine c_seq ?_
                refine rg ?_
                refine st (v := (I s37.2)) (rv_move rfl) ?_
                obtain ⟨x45, hx46, h'⟩ := bind_some h
                clear h
                have h := h'; clear h'
                obtain ⟨b48, o49, hi47, -⟩ := hR43.ix hx46
                refine st (v := (pt b48 o49)) (rv_ix Try.underlying24 ti3 rfl rfl hi47) ?_
                refine st (v := (I x45)) (rv_load1 Try.underlying3 rfl rfl (hR43.at hx46 hi47).int) ?_
                refine st (v := (I s37.2)) (rv_assign rfl) ?_
                refine st (v := (I x45)) (rv_assign rfl) ?_
                refine w_end ?_
                refine q_then ?_
                refine rg ?_
                refine st (v := (I s37.2)) (rv_move rfl) ?_
                obtain ⟨x50, hx51, h'⟩ := bind_some h
                clear h
                have h := h'; clear h'
                have hl52 := gidx_lt hx51 hl41
                refine st (v := (pt b7 (0 + s37.2.toNat * 1))) (rv_indexAddr_array Try.underlying72 ti3 rfl rfl hl52.1 hl52.2) ?_
                refine st (v := (I x50)) (rv_load1 Try.underlying3 rfl rfl (hB42.arr hx51)) ?_
                refine st (v := (I x45)) (rv_move rfl) ?_
                refine st (v := (I (w64 (x50 + x45)))) (rv_add (a := x50) (b := x45) rfl rfl) ?_
                obtain ⟨x53, hx54, h'⟩ := bind_some h
                clear h
                have h := h'; clear h'
                have hl55 := gidx_lt hx54 hl41
                refine st (v := (pt b7 (0 + s37.2.toNat * 1))) (rv_indexAddr_array Try.underlying72 ti3 rfl rfl hl55.1 hl55.2) ?_
                have hl60 := gidx_lt hx54 hl41
                refine st_store_box (vs := [(I (w64 (x50 + x45)))]) ti3 hB42 rfl rfl rfl rfl (by rw [List.length_map, hl41]; simp; omega) (by simp [plain]) ?_
                intro σ56 m57 hB59 hs58; clear hs58
                replace hR40 := hR40.mod m57
                replace hR43 := hR43.mod m57
                replace hK := hK.some m57 hge8
                replace hB59 := Bx.cast (cs' := (List.map I (s37.1.set s37.2.toNat (w64 (x50 + x45))))) hB59 (arr_set _ _ _)
                clear hB42
                refine w_end ?_
                refine q_blk ?_
                refine q_then ?_
                refine rg ?_
                refine st (v := (I (w64 (s37.2 + 1)))) (rv_add (a := s37.2) (b := 1) rfl rfl) ?_
                refine st (v := (I (w64 (s37.2 + 1)))) (rv_move rfl) ?_
                refine w_end ?_
                refine q_then ?_
                obtain rfl := Option.some.inj h
                exact ⟨_, rfl, _, σ56, fr_join ⟨rfl, rfl, rfl, rfl, rfl, rfl, rfl, rfl, trivial⟩, rfl, hK, hR40, (set_len hl41), hB59, hR43⟩
              · replace h := bif_f hb44 h
                refine c_exit ?_
                refine q_then_x ?_
                refine q_then_x ?_
                refine q_blk_hit ?_
                obtain rfl := Option.some.inj h
                obtain rfl := hres _ rfl
                exact ⟨rfl, _, σ39, fr_join ⟨rfl, rfl, rfl, rfl, rfl, trivial⟩, rfl, hK, hR40, hl41, hB42⟩
            · clear hj
              have h := h'
              clear h'
              rintro e a w ⟨rfl, ρ, σ61, rfl, rfl, hK, hR62, hl63, hB64⟩
              refine q_blk ?_
              refine q_then ?_
              refine rg ?_
              refine st (v := (I (w64 (s13.2 + 1)))) (rv_add (a := s13.2) (b := 1) rfl rfl) ?_
              refine st (v := (I (w64 (s13.2 + 1)))) (rv_move rfl) ?_
              refine w_end ?_
              refine q_then ?_
              obtain rfl := Option.some.inj h
              exact ⟨_, rfl, _, σ61, fr_join ⟨rfl, rfl, rfl, rfl, rfl, trivial⟩, rfl, hK, hR62, hl63, hB64⟩
        · replace h := bif_f hb19 h
          refine c_exit ?_
          refine q_then_x ?_
          refine q_then_x ?_
          refine q_blk_hit ?_
          obtain rfl := Option.some.inj h
          obtain rfl := hres _ rfl
          exact .inl ⟨_, rfl, rfl, _, σ15, fr_join ⟨rfl, rfl, trivial⟩, rfl, hK, hR16, hl17, hB18⟩
      · clear hj
        have h := h'
        clear h'
        rintro e a w (⟨t65, rfl, rfl, ρ, σ66, rfl, rfl, hK, hR67, hl68, hB69⟩ | ⟨t97, rfl, rfl, ρ, σ98, a99, c100, rfl, rfl, hK, hO101⟩)
        · replace h := selim_l h
          refine q_then ?_
          refine c_seq ?_
          refine c_seq ?_
          refine rg ?_
          refine st (v := (.agg (List.map I t65).toArray)) (rv_load (cs := (List.map I t65)) Try.underlying72 rfl ti72 rfl (by rw [List.length_map]; exact hl68) hB69.all) ?_
          refine st (v := (I 0)) (rv_move rfl) ?_
          refine w_end ?_
          refine q_then ?_
          obtain ⟨o70, hj, h'⟩ := bind_some h
          clear h
          refine c_cut (fun e a w => e = .normal ∧ ∃ (ρ : Nat → Value) (σ : St), a = fr 55 (updL ρ [(3, (pt b7 0))]) ∧ w = σ.w ∧ Mod none σ0 σ ∧ o70.length = 4 ∧ Bx σ b7 (List.map I o70)) ?_ ?_
          · clear h'
            rename _ = some o70 => h
            refine c_blk ?_
            refine wp_loopM _ h (fun s71 a w => ∃ (ρ : Nat → Value) (σ : St), a = fr 55 (updL ρ [(0, (Sl alist_0 list_0 clist_0)), (3, (pt b7 0)), (42, (.agg (List.map I t65).toArray)), (43, (I s71.2))]) ∧ w = σ.w ∧ Mod none σ0 σ ∧ RS 0 σ (Sl alist_0 list_0 clist_0) list_0 ∧ s71.1.length = 4 ∧ Bx σ b7 (List.map I s71.1)) ⟨_, σ66, fr_join ⟨rfl, rfl, rfl, rfl, trivial⟩, rfl, hK, hR67, hl68, hB69⟩ ?_
            clear h
            rintro s71 a w o ⟨ρ, σ73, rfl, rfl, hK, hR74, hl75, hB76⟩ h hres
            refine c_seq ?_
            refine rg ?_
            refine st (v := (B (decide (s71.2 < 4)))) (rv_lss (a := s71.2) (b := 4) rfl rfl) ?_
            refine w_end ?_
            refine q_then ?_
            refine c_seq ?_
            refine cd_cond (decide (s71.2 < 4)) rfl (fun hb77 => ?_) (fun hb77 => ?_)
            · replace h := bif_t hb77 h
              refine c_skip ?_
              refine q_then ?_
              refine c_seq ?_
              refine c_blk ?_
              refine c_seq ?_
              refine rg ?_
              refine st (v := (I s71.2)) (rv_move rfl) ?_
              obtain ⟨x78, hx79, h'⟩ := bind_some h
              clear h
              have h := h'; clear h'
              refine st (v := (I x78)) (rv_idx Try.underlying72 ti3 Try.underlying3 rfl rfl hx79 hl68) ?_
              refine st (v := (I s71.2)) (rv_assign rfl) ?_
              refine st (v := (I x78)) (rv_assign rfl) ?_
              refine w_end ?_
              refine q_then ?_
              refine rg ?_
              refine st (v := (I s71.2)) (rv_move rfl) ?_
              refine st (v := (I x78)) (rv_move rfl) ?_
              refine st (v := (Sl alist_0 list_0 clist_0)) (rv_move rfl) ?_
              refine st (v := (I (list_0.length : Int))) (rv_len Try.underlying52 rfl) ?_
              obtain ⟨r80, hx81, h'⟩ := bind_some h
              clear h
              have h := h'; clear h'
              refine st_call (c_impl_divideDown  hx81) rfl ?_
              have hd84 := hB76.ltb
              have hKs := hK.size
              rintro _ σ82 m83 rfl
              replace hR74 := hR74.mod m83
              replace hB76 := hB76.mod0 m83
              replace hK := hK.none m83
              clear hKs m83
              obtain ⟨x85, hx86, h'⟩ := bind_some h
              clear h
              have h := h'; clear h'
              have hl87 := gidx_lt hx86 hl75
              refine st (v := (pt b7 (0 + s71.2.toNat * 1))) (rv_indexAddr_array Try.underlying72 ti3 rfl rfl hl87.1 hl87.2) ?_
              have hl92 := gidx_lt hx86 hl75
              refine st_store_box (vs := [(I r80)]) ti3 hB76 rfl rfl rfl rfl (by rw [List.length_map, hl75]; simp; omega) (by simp [plain]) ?_
              intro σ88 m89 hB91 hs90; clear hs90
              replace hR74 := hR74.mod m89
              replace hK := hK.some m89 hge8
              replace hB91 := Bx.cast (cs' := (List.map I (s71.1.set s71.2.toNat r80))) hB91 (arr_set _ _ _)
              clear hB76
              refine w_end ?_
              refine q_blk ?_
              refine q_then ?_
              refine rg ?_
              refine st (v := (I (w64 (s71.2 + 1)))) (rv_add (a := s71.2) (b := 1) rfl rfl) ?_
              refine st (v := (I (w64 (s71.2 + 1)))) (rv_move rfl) ?_
              refine w_end ?_
              refine q_then ?_
              obtain rfl := Option.some.inj h
              exact ⟨_, rfl, _, σ88, fr_join ⟨rfl, rfl, rfl, rfl, trivial⟩, rfl, hK, hR74, (set_len hl75), hB91⟩
            · replace h := bif_f hb77 h
              refine c_exit ?_
              refine q_then_x ?_
              refine q_then_x ?_
              refine q_blk_hit ?_
              obtain rfl := Option.some.inj h
              obtain rfl := hres _ rfl
              exact ⟨rfl, _, σ73, fr_join ⟨rfl, trivial⟩, rfl, hK, hl75, hB76⟩
          · clear hj
            have h := h'
            clear h'
            rintro e a w ⟨rfl, ρ, σ93, rfl, rfl, hK, hl94, hB95⟩
            refine q_then ?_
            refine c_seq ?_
            refine rg ?_
            have hO96 := bx_arr (el := σ0.size) hB95 hge8 hl94
            refine st (v := (Sl (some ⟨b7, 0, none⟩) o70 4)) (rv_slice_arrL Try.underlying72 ti3 (by decide) rfl hl94) ?_
            refine st (v := (Sl (some ⟨b7, 0, none⟩) o70 4)) (rv_assign rfl) ?_
            refine w_end ?_
            refine q_then ?_
            refine c_ret ?_
            obtain rfl := Option.some.inj h
            exact bodyPost_ret (v := (Sl (some ⟨b7, 0, none⟩) o70 4)) (results_fr1 Try.results39 rfl _) rfl ⟨_, σ93, rfl, rfl, hK, (some ⟨b7, 0, none⟩), 4, rfl, hO96⟩
        · replace h := selim_r h
          refine q_then_r ?_
          obtain rfl := Option.some.inj h
          exact bodyPost_ret (v := (Sl a99 t97 c100)) (results_fr1 Try.results39 rfl _) rfl ⟨_, σ98, rfl, rfl, hK, a99, c100, rfl, hO101⟩

theorem c_spec_floorDiv {σ0 : St} {a_0 : Int} {b_1 : Int}  {r : Int} (h : M.spec_floorDiv a_0 b_1 = some r) :
    Cal Try.prog 73 [(I a_0), (I b_1)] none σ0 (fun v σ' => v = (I r)) := by
  refine ⟨⟨_, _, Try.func73, rfl, rfl⟩, ?_⟩
  refine enter (n := 16) Try.func73 rfl rfl rfl ?_
  unfold M.spec_floorDiv at h
  have hK : Mod none σ0 σ0 := Mod.refl _ _
  refine c_seq ?_
  refine rg ?_
  refine st (v := (I 0)) (rv_assign rfl) ?_
  refine w_end ?_
  refine q_then ?_
  refine c_seq ?_
  refine rg ?_
  refine st (v := (I a_0)) (rv_move rfl) ?_
  refine st (v := (I b_1)) (rv_move rfl) ?_
  obtain ⟨q1, hx2, h'⟩ := bind_some h
  clear h
  have h := h'; clear h'
  refine st (v := (I q1)) (rv_quoG (a := a_0) (b := b_1) hx2 rfl rfl) ?_
  refine st (v := (I q1)) (rv_assign rfl) ?_
  refine w_end ?_
  refine q_then ?_
  refine c_seq ?_
  refine c_seq ?_
  refine rg ?_
  refine st (v := (I a_0)) (rv_move rfl) ?_
  refine st (v := (I b_1)) (rv_move rfl) ?_
  obtain ⟨q3, hx4, h'⟩ := bind_some h
  clear h
  have h := h'; clear h'
  refine st (v := (I q3)) (rv_remG (a := a_0) (b := b_1) hx4 rfl rfl) ?_
  refine st (v := (B (decide (q3 < 0)))) (rv_lss (a := q3) (b := 0) rfl rfl) ?_
  refine w_end ?_
  refine q_then ?_
  obtain ⟨o5, hj, h'⟩ := bind_some h
  clear h
  refine c_cut (fun e a w => e = .normal ∧ ∃ (ρ : Nat → Value) (σ : St), a = fr 16 (updL ρ [(5, (I o5))]) ∧ w = σ.w ∧ Mod none σ0 σ) ?_ ?_
  · clear h'
    rename _ = some o5 => h
    refine cd_cond (decide (q3 < 0)) rfl (fun hb6 => ?_) (fun hb6 => ?_)
    · replace h := bif_t hb6 h
      refine rg ?_
      refine st (v := (I q1)) (rv_move rfl) ?_
      refine st (v := (I (w64 (q1 - 1)))) (rv_sub (a := q1) (b := 1) rfl rfl) ?_
      refine st (v := (I (w64 (q1 - 1)))) (rv_assign rfl) ?_
      refine w_end ?_
      obtain rfl := Option.some.inj h
      exact ⟨rfl, _, σ0, fr_join ⟨rfl, trivial⟩, rfl, hK⟩
    · replace h := bif_f hb6 h
      refine c_skip ?_
      obtain rfl := Option.some.inj h
      exact ⟨rfl, _, σ0, fr_join ⟨rfl, trivial⟩, rfl, hK⟩
  · clear hj
    have h := h'
    clear h'
    rintro e a w ⟨rfl, ρ, σ7, rfl, rfl, hK⟩
    refine q_then ?_
    refine c_seq ?_
    refine rg ?_
    refine st (v := (I o5)) (rv_move rfl) ?_
    refine st (v := (I o5)) (rv_assign rfl) ?_
    refine w_end ?_
    refine q_then ?_
    refine c_ret ?_
    obtain rfl := Option.some.inj h
    exact bodyPost_ret (v := (I o5)) (results_fr1 Try.results73 rfl _) rfl ⟨_, σ7, rfl, rfl, hK, rfl⟩

theorem c_spec_mean {σ0 : St} {list_0 : List (List Int)} {alist_0 : Option Addr} {clist_0 : Nat} (hRlist_0 : RS 0 σ0 (Sl alist_0 list_0 clist_0) list_0) {r : (List Int)} (h : M.spec_mean list_0 = some r) :
    Cal Try.prog 72 [(Sl alist_0 list_0 clist_0)] none σ0 (fun v σ' => ∃ (a0 : Option Addr) (c0 : Nat), v = (Sl a0 r c0) ∧ Ow σ' σ0.size σ0.size (Sl a0 r c0) r) := by
  refine ⟨⟨_, _, Try.func72, rfl, rfl⟩, ?_⟩
  refine enter (n := 35) Try.func72 rfl rfl rfl ?_
  unfold M.spec_mean at h
  have hK : Mod none σ0 σ0 := Mod.refl _ _
  refine c_seq ?_
  refine rg ?_
  refine st (v := (.slice none 0 0)) (rv_assign rfl) ?_
  refine w_end ?_
  refine q_then ?_
  refine c_seq ?_
  refine rg ?_
  refine st_buildSlice (lo := σ0.size) (el := σ0.size) (xs := ([] : List Int)) (ps := []) (cs := []) Try.underlying24 ti3 rfl rfl (by kernel_rfl) (.nil) rfl ?_ hK.size (wanted_none _ rfl _)
  intro b2 σ3 hbn5 m4 hO1
  replace hRlist_0 := hRlist_0.mod m4
  replace hK := hK.none m4
  clear hbn5 m4
  refine st (v := (Sl (some ⟨b2, 0, none⟩) ([] : List Int) 0)) (rv_assign rfl) ?_
  refine w_end ?_
  refine q_then ?_
  refine c_seq ?_
  refine c_seq ?_
  refine rg ?_
  refine st (v := (I 0)) (rv_assign rfl) ?_
  refine w_end ?_
  refine q_then ?_
  obtain ⟨o6, hj, h'⟩ := bind_some h
  clear h
  refine c_cut (fun e a w => e = .normal ∧ ∃ (ρ : Nat → Value) (σ : St) (aj1 : Option Addr) (cj2 : Nat), a = fr 35 (updL ρ [(3, (Sl aj1 o6 cj2))]) ∧ w = σ.w ∧ Mod none σ0 σ ∧ Ow σ σ0.size σ0.size (Sl aj1 o6 cj2) o6) ?_ ?_
  · clear h'
    rename _ = some o6 => h
    refine c_blk ?_
    refine wp_loopM _ h (fun s7 a w => ∃ (ρ : Nat → Value) (σ : St) (aj2 : Option Addr) (cj3 : Nat), a = fr 35 (updL ρ [(0, (Sl alist_0 list_0 clist_0)), (3, (Sl aj2 s7.1 cj3)), (4, (I s7.2))]) ∧ w = σ.w ∧ Mod none σ0 σ ∧ RS 0 σ (Sl alist_0 list_0 clist_0) list_0 ∧ Ow σ σ0.size σ0.size (Sl aj2 s7.1 cj3) s7.1) ⟨_, σ3, (some ⟨b2, 0, none⟩), 0, fr_join ⟨rfl, rfl, rfl, trivial⟩, rfl, hK, hRlist_0, hO1⟩ ?_
    clear h
    rintro s7 a w o ⟨ρ, σ9, a11, c12, rfl, rfl, hK, hR10, hO13⟩ h hres
    refine c_seq ?_
    refine c_seq ?_
    refine rg ?_
    refine st (v := (I s7.2)) (rv_move rfl) ?_
    refine st (v := (B (decide (s7.2 < 4)))) (rv_lss (a := s7.2) (b := 4) rfl rfl) ?_
    refine w_end ?_
    refine q_then ?_
    refine cd_cond (decide (s7.2 < 4)) rfl (fun hb14 => ?_) (fun hb14 => ?_)
    · replace h := bif_t hb14 h
      refine c_skip ?_
      refine q_then ?_
      refine c_seq ?_
      refine c_blk ?_
      refine c_seq ?_
      refine rg ?_
      refine st (v := (I 0)) (rv_assign rfl) ?_
      refine w_end ?_
      refine q_then ?_
      refine c_seq ?_
      refine c_seq ?_
      refine rg ?_
      refine st (v := (I 0)) (rv_assign rfl) ?_
      refine w_end ?_
      refine q_then ?_
      obtain ⟨o15, hj, h'⟩ := bind_some h
      clear h
      refine c_cut (fun e a w => e = .normal ∧ ∃ (ρ : Nat → Value) (σ : St), a = fr 35 (updL ρ [(0, (Sl alist_0 list_0 clist_0)), (3, (Sl a11 s7.1 c12)), (4, (I s7.2)), (5, (I o15))]) ∧ w = σ.w ∧ Mod none σ0 σ ∧ RS 0 σ (Sl alist_0 list_0 clist_0) list_0 ∧ Ow σ σ0.size σ0.size (Sl a11 s7.1 c12) s7.1) ?_ ?_
      · clear h'
        rename _ = some o15 => h
        refine c_blk ?_
        refine wp_loopM _ h (fun s16 a w => ∃ (ρ : Nat → Value) (σ : St), a = fr 35 (updL ρ [(0, (Sl alist_0 list_0 clist_0)), (3, (Sl a11 s7.1 c12)), (4, (I s7.2)), (5, (I s16.1)), (6, (I s16.2))]) ∧ w = σ.w ∧ Mod none σ0 σ ∧ RS 0 σ (Sl alist_0 list_0 clist_0) list_0 ∧ Ow σ σ0.size σ0.size (Sl a11 s7.1 c12) s7.1) ⟨_, σ9, fr_join ⟨rfl, rfl, rfl, rfl, rfl, trivial⟩, rfl, hK, hR10, hO13⟩ ?_
        clear h
        rintro s16 a w o ⟨ρ, σ18, rfl, rfl, hK, hR19, hO20⟩ h hres
        refine c_seq ?_
        refine c_seq ?_
        refine rg ?_
        refine st (v := (I s16.2)) (rv_move rfl) ?_
        refine st (v := (Sl alist_0 list_0 clist_0)) (rv_move rfl) ?_
        refine st (v := (I (list_0.length : Int))) (rv_len Try.underlying52 rfl) ?_
        refine st (v := (B (decide (s16.2 < (list_0.length : Int))))) (rv_lss (a := s16.2) (b := (list_0.length : Int)) rfl rfl) ?_
        refine w_end ?_
        refine q_then ?_
        refine cd_cond (decide (s16.2 < (list_0.length : Int))) rfl (fun hb21 => ?_) (fun hb21 => ?_)
        · replace h := bif_t hb21 h
          refine c_skip ?_
          refine q_then ?_
          refine c_seq ?_
          refine c_blk ?_
          refine rg ?_
          refine st (v := (I s16.1)) (rv_move rfl) ?_
          refine st (v := (Sl alist_0 list_0 clist_0)) (rv_move rfl) ?_
          refine st (v := (I s16.2)) (rv_move rfl) ?_
          obtain ⟨x22, hx23, h'⟩ := bind_some h
          clear h
          have h := h'; clear h'
          obtain ⟨b25, o26, hi24, -⟩ := hR19.ix hx23
          refine st (v := (pt b25 o26)) (rv_ix Try.underlying52 ti24 rfl rfl hi24) ?_
          obtain ⟨v30, hc31, hR29⟩ := (hR19.at hx23 hi24).slice
          obtain ⟨a27, c28, rfl⟩ := hR29.isSl
          refine st (v := (Sl a27 x22 c28)) (rv_load1 Try.underlying24 rfl rfl hc31) ?_
          refine st (v := (I s7.2)) (rv_move rfl) ?_
          obtain ⟨x32, hx33, h'⟩ := bind_some h
          clear h
          have h := h'; clear h'
          obtain ⟨b35, o36, hi34, -⟩ := hR29.ix hx33
          refine st (v := (pt b35 o36)) (rv_ix Try.underlying24 ti3 rfl rfl hi34) ?_
          refine st (v := (I x32)) (rv_load1 Try.underlying3 rfl rfl (hR29.at hx33 hi34).int) ?_
          refine st (v := (I (w64 (s16.1 + x32)))) (rv_add (a := s16.1) (b := x32) rfl rfl) ?_
          refine st (v := (I (w64 (s16.1 + x32)))) (rv_assign rfl) ?_
          refine w_end ?_
          refine q_blk ?_
          refine q_then ?_
          refine rg ?_
          refine st (v := (I s16.2)) (rv_move rfl) ?_
          refine st (v := (I (w64 (s16.2 + 1)))) (rv_add (a := s16.2) (b := 1) rfl rfl) ?_
          refine st (v := (I (w64 (s16.2 + 1)))) (rv_assign rfl) ?_
          refine w_end ?_
          refine q_then ?_
          obtain rfl := Option.some.inj h
          exact ⟨_, rfl, _, σ18, fr_join ⟨rfl, rfl, rfl, rfl, rfl, trivial⟩, rfl, hK, hR19, hO20⟩
        · replace h := bif_f hb21 h
          refine c_exit ?_
          refine q_then_x ?_
          refine q_then_x ?_
          refine q_blk_hit ?_
          obtain rfl := Option.some.inj h
          obtain rfl := hres _ rfl
          exact ⟨rfl, _, σ18, fr_join ⟨rfl, rfl, rfl, rfl, trivial⟩, rfl, hK, hR19, hO20⟩
      · clear hj
        have h := h'
        clear h'
        rintro e a w ⟨rfl, ρ, σ37, rfl, rfl, hK, hR38, hO39⟩
        refine q_then ?_
        refine rg ?_
        refine st (v := (Sl a11 s7.1 c12)) (rv_move rfl) ?_
        refine st (v := (I o15)) (rv_move rfl) ?_
        refine st (v := (Sl alist_0 list_0 clist_0)) (rv_move rfl) ?_
        refine st (v := (I (list_0.length : Int))) (rv_len Try.underlying52 rfl) ?_
        obtain ⟨r40, hx41, h'⟩ := bind_some h
        clear h
        have h := h'; clear h'
        refine st_call (c_spec_floorDiv  hx41) rfl ?_
        have hd44 := hO39.ltb
        have hKs := hK.size
        rintro _ σ42 m43 rfl
        replace hR38 := hR38.mod m43
        replace hO39 := hO39.mod0 m43
        replace hK := hK.none m43
        clear hKs m43
        refine st_buildSlice (lo := σ0.size) (el := σ0.size) (xs := ([r40] : List Int)) (ps := [(0, (I r40))]) (cs := [(I r40)]) Try.underlying24 ti3 rfl rfl (by kernel_rfl) (.cons (c := [(I r40)]) rfl (.nil)) rfl ?_ hK.size (wanted_none _ rfl _)
        intro b46 σ47 hbn49 m48 hO45
        have hd50 := hO39.df' hbn49
        replace hR38 := hR38.mod m48
        replace hO39 := hO39.mod0 m48
        replace hK := hK.none m48
        clear hbn49 m48
        obtain ⟨xs51, hx52, h'⟩ := bind_some h
        clear h
        have h := h'; clear h'
        have hg53 := hO39.ge
        refine st_append Try.underlying24 Try.underlying24 ti3 rfl rfl (by decide) hO39 hO45.rd hx52 hK.size rfl rfl ?_ (wanted_none _ rfl _)
        intro a58 c59 σ54 m55 hO56 hq57
        replace hR38 := hR38.mod m55
        replace hK := hK.own m55 hg53
        clear hq57 m55
        refine st (v := (Sl a58 xs51 c59)) (rv_assign rfl) ?_
        refine w_end ?_
        refine q_blk ?_
        refine q_then ?_
        refine rg ?_
        refine st (v := (I s7.2)) (rv_move rfl) ?_
        refine st (v := (I (w64 (s7.2 + 1)))) (rv_add (a := s7.2) (b := 1) rfl rfl) ?_
        refine st (v := (I (w64 (s7.2 + 1)))) (rv_assign rfl) ?_
        refine w_end ?_
        refine q_then ?_
        obtain rfl := Option.some.inj h
        exact ⟨_, rfl, _, σ54, a58, c59, fr_join ⟨rfl, rfl, rfl, trivial⟩, rfl, hK, hR38, hO56⟩
    · replace h := bif_f hb14 h
      refine c_exit ?_
      refine q_then_x ?_
      refine q_then_x ?_
      refine q_blk_hit ?_
      obtain rfl := Option.some.inj h
      obtain rfl := hres _ rfl
      exact ⟨rfl, _, σ9, a11, c12, fr_join ⟨rfl, trivial⟩, rfl, hK, hO13⟩
  · clear hj
    have h := h'
    clear h'
    rintro e a w ⟨rfl, ρ, σ60, a61, c62, rfl, rfl, hK, hO63⟩
    refine q_then ?_
    refine c_seq ?_
    refine rg ?_
    refine st (v := (Sl a61 o6 c62)) (rv_move rfl) ?_
    refine st (v := (Sl a61 o6 c62)) (rv_assign rfl) ?_
    refine w_end ?_
    refine q_then ?_
    refine c_ret ?_
    obtain rfl := Option.some.inj h
    exact bodyPost_ret (v := (Sl a61 o6 c62)) (results_fr1 Try.results72 rfl _) rfl ⟨_, σ60, rfl, rfl, hK, a61, c62, rfl, hO63⟩

theorem c_spec_MeanOf {σ0 : St} {list_0 : List (List Int)} {alist_0 : Option Addr} {clist_0 : Nat} (hRlist_0 : RS 0 σ0 (Sl alist_0 list_0 clist_0) list_0) {r : (List Int)} (h : M.spec_MeanOf list_0 = some r) :
    Cal Try.prog 40 [(Sl alist_0 list_0 clist_0)] none σ0 (fun v σ' => ∃ (a0 : Option Addr) (c0 : Nat), v = (Sl a0 r c0) ∧ Ow σ' σ0.size σ0.size (Sl a0 r c0) r) := by
  refine ⟨⟨_, _, Try.func40, rfl, rfl⟩, ?_⟩
  refine enter (n := 22) Try.func40 rfl rfl rfl ?_
  unfold M.spec_MeanOf at h
  have hK : Mod none σ0 σ0 := Mod.refl _ _
  refine c_seq ?_
  refine rg ?_
  refine st (v := (.slice none 0 0)) (rv_assign rfl) ?_
  refine w_end ?_
  refine q_then ?_
  refine c_seq ?_
  refine c_seq ?_
  refine rg ?_
  refine st (v := (Sl alist_0 list_0 clist_0)) (rv_move rfl) ?_
  refine st (v := (I (list_0.length : Int))) (rv_len Try.underlying52 rfl) ?_
  obtain ⟨r1, hx2, h'⟩ := bind_some h
  clear h
  have h := h'; clear h'
  refine st_call (c_spec_inRange  hx2) rfl ?_
  have hKs := hK.size
  rintro _ σ3 m4 rfl
  replace hRlist_0 := hRlist_0.mod m4
  replace hK := hK.none m4
  clear hKs m4
  refine st (v := (B (!r1))) (rv_not rfl) ?_
  refine w_end ?_
  refine q_then ?_
  refine cd_cond (!r1) rfl (fun hb5 => ?_) (fun hb5 => ?_)
  · replace h := bif_t hb5 h
    refine c_seq ?_
    refine rg ?_
    refine st (v := (.slice none 0 0)) (rv_assign rfl) ?_
    refine w_end ?_
    refine q_then ?_
    refine c_ret ?_
    refine q_then_r ?_
    obtain rfl := Option.some.inj h
    exact bodyPost_ret (v := (.slice none 0 0)) (results_fr1 Try.results40 rfl _) rfl ⟨_, σ3, rfl, rfl, hK, none, 0, rfl, Ow.nil⟩
  · replace h := bif_f hb5 h
    refine c_skip ?_
    refine q_then ?_
    refine c_seq ?_
    refine c_seq ?_
    refine rg ?_
    refine st (v := (I 0)) (rv_assign rfl) ?_
    refine w_end ?_
    refine q_then ?_
    obtain ⟨o6, hj, h'⟩ := bind_some h
    clear h
    refine c_cut (fun e a w => (∃ t, o6 = (.inl t) ∧ e = .normal ∧ ∃ (ρ : Nat → Value) (σ : St), a = fr 22 (updL ρ [(0, (Sl alist_0 list_0 clist_0))]) ∧ w = σ.w ∧ Mod none σ0 σ ∧ RS 0 σ (Sl alist_0 list_0 clist_0) list_0) ∨ (∃ t, o6 = (.inr t) ∧ e = .ret ∧ ∃ (ρ : Nat → Value) (σ : St) (aj1 : Option Addr) (cj2 : Nat), a = fr 22 (updL ρ [(2, (Sl aj1 t cj2))]) ∧ w = σ.w ∧ Mod none σ0 σ ∧ Ow σ σ0.size σ0.size (Sl aj1 t cj2) t)) ?_ ?_
    · clear h'
      rename _ = some o6 => h
      refine c_blk ?_
      refine wp_loopM _ h (fun s7 a w => ∃ (ρ : Nat → Value) (σ : St), a = fr 22 (updL ρ [(0, (Sl alist_0 list_0 clist_0)), (3, (I s7))]) ∧ w = σ.w ∧ Mod none σ0 σ ∧ RS 0 σ (Sl alist_0 list_0 clist_0) list_0) ⟨_, σ3, fr_join ⟨rfl, rfl, trivial⟩, rfl, hK, hRlist_0⟩ ?_
      clear h
      rintro s7 a w o ⟨ρ, σ9, rfl, rfl, hK, hR10⟩ h hres
      refine c_seq ?_
      refine c_seq ?_
      refine rg ?_
      refine st (v := (I s7)) (rv_move rfl) ?_
      refine st (v := (Sl alist_0 list_0 clist_0)) (rv_move rfl) ?_
      refine st (v := (I (list_0.length : Int))) (rv_len Try.underlying52 rfl) ?_
      refine st (v := (B (decide (s7 < (list_0.length : Int))))) (rv_lss (a := s7) (b := (list_0.length : Int)) rfl rfl) ?_
      refine w_end ?_
      refine q_then ?_
      refine cd_cond (decide (s7 < (list_0.length : Int))) rfl (fun hb11 => ?_) (fun hb11 => ?_)
      · replace h := bif_t hb11 h
        refine c_skip ?_
        refine q_then ?_
        refine c_seq ?_
        refine c_blk ?_
        refine c_seq ?_
        refine rg ?_
        refine st (v := (Sl alist_0 list_0 clist_0)) (rv_move rfl) ?_
        refine st (v := (I s7)) (rv_move rfl) ?_
        obtain ⟨x12, hx13, h'⟩ := bind_some h
        clear h
        have h := h'; clear h'
        obtain ⟨b15, o16, hi14, -⟩ := hR10.ix hx13
        refine st (v := (pt b15 o16)) (rv_ix Try.underlying52 ti24 rfl rfl hi14) ?_
        obtain ⟨v20, hc21, hR19⟩ := (hR10.at hx13 hi14).slice
        obtain ⟨a17, c18, rfl⟩ := hR19.isSl
        refine st (v := (Sl a17 x12 c18)) (rv_load1 Try.underlying24 rfl rfl hc21) ?_
        obtain ⟨r22, hx23, h'⟩ := bind_some h
        clear h
        have h := h'; clear h'
        refine st_call (c_spec_isVector hR19 hx23) rfl ?_
        have hKs := hK.size
        rintro _ σ24 m25 rfl
        replace hR10 := hR10.mod m25
        replace hR19 := hR19.mod m25
        replace hK := hK.none m25
        clear hKs m25
        refine st (v := (B (!r22))) (rv_not rfl) ?_
        refine w_end ?_
        refine q_then ?_
        refine cd_cond (!r22) rfl (fun hb26 => ?_) (fun hb26 => ?_)
        · replace h := bif_t hb26 h
          refine c_seq ?_
          refine rg ?_
          refine st (v := (.slice none 0 0)) (rv_assign rfl) ?_
          refine w_end ?_
          refine q_then ?_
          refine c_ret ?_
          refine q_blk_r ?_
          refine q_then_r ?_
          refine q_then_r ?_
          refine q_blk_r ?_
          obtain rfl := Option.some.inj h
          obtain rfl := hres _ rfl
          exact .inr (⟨_, rfl, rfl, _, σ24, none, 0, fr_join ⟨rfl, trivial⟩, rfl, hK, Ow.nil⟩)
        · replace h := bif_f hb26 h
          refine c_skip ?_
          refine q_blk ?_
          refine q_then ?_
          refine rg ?_
          refine st (v := (I s7)) (rv_move rfl) ?_
          refine st (v := (I (w64 (s7 + 1)))) (rv_add (a := s7) (b := 1) rfl rfl) ?_
          refine st (v := (I (w64 (s7 + 1)))) (rv_assign rfl) ?_
          refine w_end ?_
          refine q_then ?_
          obtain rfl := Option.some.inj h
          exact ⟨_, rfl, _, σ24, fr_join ⟨rfl, rfl, trivial⟩, rfl, hK, hR10⟩
      · replace h := bif_f hb11 h
        refine c_exit ?_
        refine q_then_x ?_
        refine q_then_x ?_
        refine q_blk_hit ?_
        obtain rfl := Option.some.inj h
        obtain rfl := hres _ rfl
        exact .inl ⟨_, rfl, rfl, _, σ9, fr_join ⟨rfl, trivial⟩, rfl, hK, hR10⟩
    · clear hj
      have h := h'
      clear h'
      rintro e a w (⟨t27, rfl, rfl, ρ, σ28, rfl, rfl, hK, hR29⟩ | ⟨t37, rfl, rfl, ρ, σ38, a39, c40, rfl, rfl, hK, hO41⟩)
      · replace h := selim_l h
        refine q_then ?_
        refine c_seq ?_
        refine rg ?_
        refine st (v := (Sl alist_0 list_0 clist_0)) (rv_move rfl) ?_
        obtain ⟨r30, hx31, h'⟩ := bind_some h
        clear h
        have h := h'; clear h'
        refine st_call (c_spec_mean hR29 hx31) rfl ?_
        have hKs := hK.size
        rintro _ σ32 m33 ⟨a34, c35, rfl, hO36⟩
        replace hR29 := hR29.mod m33
        replace hK := hK.none m33
        have hO36g := hO36.ge
        replace hO36 := hO36.lo hKs
        replace hO36 := hO36.low' hKs
        clear hKs m33 hO36g
        refine st (v := (Sl a34 r30 c35)) (rv_assign rfl) ?_
        refine w_end ?_
        refine q_then ?_
        refine c_ret ?_
        obtain rfl := Option.some.inj h
        exact bodyPost_ret (v := (Sl a34 r30 c35)) (results_fr1 Try.results40 rfl _) rfl ⟨_, σ32, rfl, rfl, hK, a34, c35, rfl, hO36⟩
      · replace h := selim_r h
        refine q_then_r ?_
        obtain rfl := Option.some.inj h
        exact bodyPost_ret (v := (Sl a39 t37 c40)) (results_fr1 Try.results40 rfl _) rfl ⟨_, σ38, rfl, rfl, hK, a39, c40, rfl, hO41⟩

theorem c_laws_FnMeanOfOrder {σ0 : St} {code_0 : List UInt8} {acode_0 : Option Addr} {ccode_0 : Nat} (hRcode_0 : RS 0 σ0 (Sl acode_0 code_0 ccode_0) code_0) {r : Bool} (h : M.laws_FnMeanOfOrder code_0 = some r) :
    Cal Try.prog 11 [(Sl acode_0 code_0 ccode_0)] none σ0 (fun v σ' => v = (B r)) := by
  refine ⟨⟨_, _, Try.func11, rfl, rfl⟩, ?_⟩
  refine enter (n := 38) Try.func11 rfl rfl rfl ?_
  unfold M.laws_FnMeanOfOrder at h
  have hK : Mod none σ0 σ0 := Mod.refl _ _
  refine c_seq ?_
  refine rg ?_
  refine st (v := (B false)) (rv_assign rfl) ?_
  refine w_end ?_
  refine q_then ?_
  refine c_seq ?_
  refine c_seq ?_
  refine rg ?_
  refine st (v := (Sl acode_0 code_0 ccode_0)) (rv_move rfl) ?_
  refine st (v := (I (code_0.length : Int))) (rv_len Try.underlying22 rfl) ?_
  refine st (v := (B (decide (1048576 < (code_0.length : Int))))) (rv_gtr (a := (code_0.length : Int)) (b := 1048576) rfl rfl) ?_
  refine w_end ?_
  refine q_then ?_
  refine cd_cond (decide (1048576 < (code_0.length : Int))) rfl (fun hb1 => ?_) (fun hb1 => ?_)
  · replace h := bif_t hb1 h
    refine c_seq ?_
    refine rg ?_
    refine st (v := (B true)) (rv_assign rfl) ?_
    refine w_end ?_
    refine q_then ?_
    refine c_ret ?_
    refine q_then_r ?_
    obtain rfl := Option.some.inj h
    exact bodyPost_ret (v := (B true)) (results_fr1 Try.results11 rfl _) rfl ⟨_, σ0, rfl, rfl, hK, rfl⟩
  · replace h := bif_f hb1 h
    refine c_skip ?_
    refine q_then ?_
    refine c_seq ?_
    refine rg ?_
    refine st (v := (Sl acode_0 code_0 ccode_0)) (rv_move rfl) ?_
    obtain ⟨r2, hx3, h'⟩ := bind_some h
    clear h
    have h := h'; clear h'
    refine st_call (c_spec_DrawMeanOf hRcode_0 hx3) rfl ?_
    have hKs := hK.size
    rintro _ σ4 m5 ⟨a6, c7, rfl, hO8⟩
    replace hRcode_0 := hRcode_0.mod m5
    replace hK := hK.none m5
    have hO8g := hO8.ge
    replace hO8 := hO8.lo hKs
    replace hO8 := hO8.low' hKs
    clear hKs m5 hO8g
    refine st (v := (Sl a6 r2 c7)) (rv_assign rfl) ?_
    refine w_end ?_
    refine q_then ?_
    refine c_seq ?_
    refine rg ?_
    refine st (v := (Sl a6 r2 c7)) (rv_move rfl) ?_
    obtain ⟨σ9, hw10, m11, hR12⟩ := hO8.pub' (Nat.le_refl _)
    rw [← hw10]
    obtain ⟨r13, hx14, h'⟩ := bind_some h
    clear h
    have h := h'; clear h'
    refine st_call (c_impl_MeanOf (hR12.low (Nat.zero_le _)) hx14) rfl ?_
    have hd20 := ltb_size hO8.ltb hw10
    have hKs := size_le hK.size hw10
    rintro _ σ15 m16 ⟨a17, c18, rfl, hO19⟩
    obtain ⟨σ21, hw22, m23, hxl24, hvl25⟩ := lent hw10 m16
    rw [← hw22]
    replace hO19 := hO19.lent hw10 hw22 hxl24 hvl25 (Nat.le_refl _)
    replace hO8 := hO8.mod0 m23
    replace hK := hK.none m23
    have hO19g := hO19.ge
    replace hO19 := hO19.lo hKs
    replace hO19 := hO19.low' hKs
    have hd26 := Df.ge hd20 hO19g
    clear hKs m23 hO19g
    refine st (v := (Sl a17 r13 c18)) (rv_assign rfl) ?_
    refine w_end ?_
    refine q_then ?_
    refine c_seq ?_
    refine c_seq ?_
    refine rg ?_
    refine st (v := (Sl a17 r13 c18)) (rv_move rfl) ?_
    refine st (v := (Sl a6 r2 c7)) (rv_move rfl) ?_
    obtain ⟨σ27, hw28, m29, hR30⟩ := hO8.pub' (Nat.le_refl _)
    rw [← hw28]
    obtain ⟨r31, hx32, h'⟩ := bind_some h
    clear h
    have h := h'; clear h'
    refine st_call (c_spec_MeanOf (hR30.low (Nat.zero_le _)) hx32) rfl ?_
    have hd38 := ltb_size hO8.ltb hw28
    have hd39 := ltb_size hO19.ltb hw28
    have hKs := size_le hK.size hw28
    rintro _ σ33 m34 ⟨a35, c36, rfl, hO37⟩
    obtain ⟨σ40, hw41, m42, hxl43, hvl44⟩ := lent hw28 m34
    rw [← hw41]
    replace hO37 := hO37.lent hw28 hw41 hxl43 hvl44 (Nat.le_refl _)
    replace hO8 := hO8.mod0 m42
    replace hO19 := hO19.mod0 m42
    replace hK := hK.none m42
    have hO37g := hO37.ge
    replace hO37 := hO37.lo hKs
    replace hO37 := hO37.low' hKs
    have hd45 := Df.ge hd38 hO37g
    have hd46 := Df.ge hd39 hO37g
    clear hKs m42 hO37g
    obtain ⟨σ47, hw48, m49, hR50⟩ := hO19.pub' (Nat.le_refl _)
    obtain ⟨σ51, hw52, m53, hR54⟩ := (hO37.mod' m49 (by first | exact (hd46).symm | exact Df.re (hd46).symm)).pub' (Nat.le_refl _)
    rw [← (hw52.trans hw48)]
    obtain ⟨r55, hx56, h'⟩ := bind_some h
    clear h
    have h := h'; clear h'
    refine st_call (c_laws_equalInts ((hR50.low (Nat.zero_le _)).mod m53) (hR54.low (Nat.zero_le _)) hx56) rfl ?_
    have hd59 := ltb_size hO8.ltb (hw52.trans hw48)
    have hd60 := ltb_size hO19.ltb (hw52.trans hw48)
    have hd61 := ltb_size hO37.ltb (hw52.trans hw48)
    have hKs := size_le hK.size (hw52.trans hw48)
    rintro _ σ57 m58 rfl
    obtain ⟨σ62, hw63, m64, hxl65, hvl66⟩ := lent (hw52.trans hw48) m58
    rw [← hw63]
    replace hO8 := hO8.mod0 m64
    replace hO19 := hO19.mod0 m64
    replace hO37 := hO37.mod0 m64
    replace hK := hK.none m64
    clear hKs m64
    refine st (v := (B (!r55))) (rv_not rfl) ?_
    refine w_end ?_
    refine q_then ?_
    refine cd_cond (!r55) rfl (fun hb67 => ?_) (fun hb67 => ?_)
    · replace h := bif_t hb67 h
      refine c_seq ?_
      refine rg ?_
      refine st (v := (B false)) (rv_assign rfl) ?_
      refine w_end ?_
      refine q_then ?_
      refine c_ret ?_
      refine q_then_r ?_
      obtain rfl := Option.some.inj h
      exact bodyPost_ret (v := (B false)) (results_fr1 Try.results11 rfl _) rfl ⟨_, σ62, rfl, rfl, hK, rfl⟩
    · replace h := bif_f hb67 h
      refine c_skip ?_
      refine q_then ?_
      refine c_seq ?_
      refine rg ?_
      refine st_buildSlice (lo := σ0.size) (el := σ0.size) (xs := ([] : List (List Int))) (ps := []) (cs := []) Try.underlying52 ti24 rfl rfl (by kernel_rfl) (.nil) rfl ?_ hK.size (wanted_none _ rfl _)
      intro b69 σ70 hbn72 m71 hO68
      have hd73 := hO8.df' hbn72
      have hd74 := hO19.df' hbn72
      replace hO8 := hO8.mod0 m71
      replace hO19 := hO19.mod0 m71
      replace hK := hK.none m71
      clear hbn72 m71
      refine st (v := (Sl (some ⟨b69, 0, none⟩) ([] : List (List Int)) 0)) (rv_assign rfl) ?_
      refine w_end ?_
      refine q_then ?_
      refine c_seq ?_
      refine c_seq ?_
      refine rg ?_
      refine st (v := (Sl a6 r2 c7)) (rv_move rfl) ?_
      refine st (v := (I (r2.length : Int))) (rv_len Try.underlying52 rfl) ?_
      refine st (v := (I (w64 ((r2.length : Int) - 1)))) (rv_sub (a := (r2.length : Int)) (b := 1) rfl rfl) ?_
      refine st (v := (I (w64 ((r2.length : Int) - 1)))) (rv_assign rfl) ?_
      refine w_end ?_
      refine q_then ?_
      obtain ⟨o75, hj, h'⟩ := bind_some h
      clear h
      refine c_cut (fun e a w => e = .normal ∧ ∃ (ρ : Nat → Value) (σ : St) (aj2 : Option Addr) (cj3 : Nat), a = fr 38 (updL ρ [(4, (Sl a17 r13 c18)), (5, (Sl aj2 o75 cj3))]) ∧ w = σ.w ∧ Mod none σ0 σ ∧ Ow σ σ0.size σ0.size (Sl a17 r13 c18) r13 ∧ Ow σ σ0.size σ0.size (Sl aj2 o75 cj3) o75 ∧ Df (blk (Sl aj2 o75 cj3)) (blk (Sl a17 r13 c18))) ?_ ?_
      · clear h'
        rename _ = some o75 => h
        refine c_blk ?_
        refine wp_loopM _ h (fun s76 a w => ∃ (ρ : Nat → Value) (σ : St) (aj3 : Option Addr) (cj4 : Nat), a = fr 38 (updL ρ [(3, (Sl a6 r2 c7)), (4, (Sl a17 r13 c18)), (5, (Sl aj3 s76.1 cj4)), (6, (I s76.2))]) ∧ w = σ.w ∧ Mod none σ0 σ ∧ Ow σ σ0.size σ0.size (Sl a6 r2 c7) r2 ∧ Ow σ σ0.size σ0.size (Sl a17 r13 c18) r13 ∧ Ow σ σ0.size σ0.size (Sl aj3 s76.1 cj4) s76.1 ∧ Df (blk (Sl a17 r13 c18)) (blk (Sl a6 r2 c7)) ∧ Df (blk (Sl aj3 s76.1 cj4)) (blk (Sl a6 r2 c7)) ∧ Df (blk (Sl aj3 s76.1 cj4)) (blk (Sl a17 r13 c18))) ⟨_, σ70, (some ⟨b69, 0, none⟩), 0, fr_join ⟨rfl, rfl, rfl, rfl, trivial⟩, rfl, hK, hO8, hO19, hO68, (by first | exact (hd26).symm | exact Df.re (hd26).symm), (by first | exact (hd73).symm | exact Df.re (hd73).symm), (by first | exact (hd74).symm | exact Df.re (hd74).symm)⟩ ?_
        clear h
        rintro s76 a w o ⟨ρ, σ78, a81, c82, rfl, rfl, hK, hO79, hO80, hO83, hd84, hd85, hd86⟩ h hres
        refine c_seq ?_
        refine c_seq ?_
        refine rg ?_
        refine st (v := (I s76.2)) (rv_move rfl) ?_
        refine st (v := (B (decide (0 ≤ s76.2)))) (rv_geq (a := s76.2) (b := 0) rfl rfl) ?_
        refine w_end ?_
        refine q_then ?_
        refine cd_cond (decide (0 ≤ s76.2)) rfl (fun hb87 => ?_) (fun hb87 => ?_)
        · replace h := bif_t hb87 h
          refine c_skip ?_
          refine q_then ?_
          refine c_seq ?_
          refine c_blk ?_
          refine rg ?_
          refine st (v := (Sl a81 s76.1 c82)) (rv_move rfl) ?_
          refine st (v := (Sl a6 r2 c7)) (rv_move rfl) ?_
          refine st (v := (I s76.2)) (rv_move rfl) ?_
          obtain ⟨x88, hx89, h'⟩ := bind_some h
          clear h
          have h := h'; clear h'
          obtain ⟨b91, o92, hi90, -⟩ := hO79.ix hx89
          refine st (v := (pt b91 o92)) (rv_ix Try.underlying52 ti24 rfl rfl hi90) ?_
          obtain ⟨v96, hc97, hR95⟩ := (hO79.at hx89 hi90).slice
          obtain ⟨a93, c94, rfl⟩ := hR95.isSl
          refine st (v := (Sl a93 x88 c94)) (rv_load1 Try.underlying24 rfl rfl hc97) ?_
          refine st_buildSlice (lo := σ0.size) (el := σ0.size) (xs := ([x88] : List (List Int))) (ps := [(0, (Sl a93 x88 c94))]) (cs := [(Sl a93 x88 c94)]) Try.underlying52 ti24 rfl rfl (by kernel_rfl) (.cons (c := [(Sl a93 x88 c94)]) ⟨_, rfl, hR95⟩ (.nil)) rfl ?_ hK.size (wanted_none _ rfl _)
          intro b99 σ100 hbn102 m101 hO98
          have hd103 := hO79.df' hbn102
          have hd104 := hO80.df' hbn102
          have hd105 := hO83.df' hbn102
          replace hO79 := hO79.mod0 m101
          replace hO80 := hO80.mod0 m101
          replace hO83 := hO83.mod0 m101
          replace hR95 := hR95.mod m101
          replace hK := hK.none m101
          clear hbn102 m101
          obtain ⟨xs106, hx107, h'⟩ := bind_some h
          clear h
          have h := h'; clear h'
          have hg108 := hO83.ge
          refine st_append Try.underlying52 Try.underlying52 ti24 rfl rfl (by decide) hO83 hO98.rd hx107 hK.size rfl rfl ?_ (wanted_none _ rfl _)
          have hd115 := hO79.ltb
          have hd116 := hO80.ltb
          intro a113 c114 σ109 m110 hO111 hq112
          replace hO79 := hO79.mod' m110 (by first | exact (hd85).symm | exact Df.re (hd85).symm)
          replace hO80 := hO80.mod' m110 (by first | exact (hd86).symm | exact Df.re (hd86).symm)
          replace hK := hK.own m110 hg108
          have hd117 := Df.app (hd85).symm hd115 hq112
          have hd118 := Df.app (hd86).symm hd116 hq112
          clear hq112 m110
          refine st (v := (Sl a113 xs106 c114)) (rv_assign rfl) ?_
          refine w_end ?_
          refine q_blk ?_
          refine q_then ?_
          refine rg ?_
          refine st (v := (I s76.2)) (rv_move rfl) ?_
          refine st (v := (I (w64 (s76.2 - 1)))) (rv_sub (a := s76.2) (b := 1) rfl rfl) ?_
          refine st (v := (I (w64 (s76.2 - 1)))) (rv_assign rfl) ?_
          refine w_end ?_
          refine q_then ?_
          obtain rfl := Option.some.inj h
          exact ⟨_, rfl, _, σ109, a113, c114, fr_join ⟨rfl, rfl, rfl, rfl, trivial⟩, rfl, hK, hO79, hO80, hO111, (by first | exact hd84 | exact Df.re hd84), (by first | exact (hd117).symm | exact Df.re (hd117).symm), (by first | exact (hd118).symm | exact Df.re (hd118).symm)⟩
        · replace h := bif_f hb87 h
          refine c_exit ?_
          refine q_then_x ?_
          refine q_then_x ?_
          refine q_blk_hit ?_
          obtain rfl := Option.some.inj h
          obtain rfl := hres _ rfl
          exact ⟨rfl, _, σ78, a81, c82, fr_join ⟨rfl, rfl, trivial⟩, rfl, hK, hO80, hO83, (by first | exact hd86 | exact Df.re hd86)⟩
      · clear hj
        have h := h'
        clear h'
        rintro e a w ⟨rfl, ρ, σ119, a121, c122, rfl, rfl, hK, hO120, hO123, hd124⟩
        refine q_then ?_
        refine c_seq ?_
        refine rg ?_
        refine st (v := (Sl a121 o75 c122)) (rv_move rfl) ?_
        have hg129 := hO123.ge
        obtain ⟨σ125, hw128, m126, hR127⟩ := hO123.pub' (Nat.le_refl _)
        rw [← hw128]; clear hw128
        replace hO120 := hO120.mod' m126 (by first | exact (hd124).symm | exact Df.re (hd124).symm)
        replace hK := hK.own m126 hg129
        obtain ⟨r130, hx131, h'⟩ := bind_some h
        clear h
        have h := h'; clear h'
        refine st_call (c_impl_MeanOf (hR127.low (Nat.zero_le _)) hx131) rfl ?_
        have hd137 := hO120.ltb
        have hKs := hK.size
        rintro _ σ132 m133 ⟨a134, c135, rfl, hO136⟩
        replace hO120 := hO120.mod0 m133
        replace hR127 := hR127.mod m133
        replace hK := hK.none m133
        have hO136g := hO136.ge
        replace hO136 := hO136.lo hKs
        replace hO136 := hO136.low' hKs
        have hd138 := Df.ge hd137 hO136g
        clear hKs m133 hO136g
        refine st (v := (Sl a17 r13 c18)) (rv_move rfl) ?_
        have hg143 := hO136.ge
        obtain ⟨σ139, hw142, m140, hR141⟩ := hO136.pub' (Nat.le_refl _)
        rw [← hw142]; clear hw142
        replace hO120 := hO120.mod' m140 (by first | exact hd138 | exact Df.re hd138)
        replace hK := hK.own m140 hg143
        have hg148 := hO120.ge
        obtain ⟨σ144, hw147, m145, hR146⟩ := hO120.pub' (Nat.le_refl _)
        rw [← hw147]; clear hw147
        replace hR141 := hR141.mod m145
        replace hK := hK.own m145 hg148
        obtain ⟨r149, hx150, h'⟩ := bind_some h
        clear h
        have h := h'; clear h'
        refine st_call (c_laws_equalInts (hR141.low (Nat.zero_le _)) (hR146.low (Nat.zero_le _)) hx150) rfl ?_
        have hKs := hK.size
        rintro _ σ151 m152 rfl
        replace hR141 := hR141.mod m152
        replace hR146 := hR146.mod m152
        replace hK := hK.none m152
        clear hKs m152
        refine st (v := (B r149)) (rv_assign rfl) ?_
        refine w_end ?_
        refine q_then ?_
        refine c_ret ?_
        obtain rfl := Option.some.inj h
        exact bodyPost_ret (v := (B r149)) (results_fr1 Try.results11 rfl _) rfl ⟨_, σ151, rfl, rfl, hK, rfl⟩

theorem c_spec_DrawMoveTo {σ0 : St} {code_0 : List UInt8} {acode_0 : Option Addr} {ccode_0 : Nat} (hRcode_0 : RS 0 σ0 (Sl acode_0 code_0 ccode_0) code_0) {r : (List Int) × (List Int) × Int} (h : M.spec_DrawMoveTo code_0 = some r) :
    Cal Try.prog 41 [(Sl acode_0 code_0 ccode_0)] none σ0 (fun v σ' => ∃ (a0 : Option Addr) (c0 : Nat), ∃ (a1 : Option Addr) (c1 : Nat), v = (.tuple #[(Sl a0 r.1 c0), (Sl a1 r.2.1 c1), (I r.2.2)]) ∧ Ow σ' σ0.size σ0.size (Sl a0 r.1 c0) r.1 ∧ Ow σ' σ0.size σ0.size (Sl a1 r.2.1 c1) r.2.1 ∧ Df (blk (Sl a1 r.2.1 c1)) (blk (Sl a0 r.1 c0))) := by
  refine ⟨⟨_, _, Try.func41, rfl, rfl⟩, ?_⟩
  refine enter (n := 19) Try.func41 rfl rfl rfl ?_
  unfold M.spec_DrawMoveTo at h
  have hK : Mod none σ0 σ0 := Mod.refl _ _
  refine c_seq ?_
  refine rg ?_
  refine st (v := (.slice none 0 0)) (rv_assign rfl) ?_
  refine st (v := (.slice none 0 0)) (rv_assign rfl) ?_
  refine st (v := (I 0)) (rv_assign rfl) ?_
  refine w_end ?_
  refine q_then ?_
  refine c_seq ?_
  refine rg ?_
  refine st (v := (Sl acode_0 code_0 ccode_0)) (rv_move rfl) ?_
  obtain ⟨r1, hx2, h'⟩ := bind_some h
  clear h
  have h := h'; clear h'
  refine st_call (c_spec_newReader hRcode_0 hx2) rfl ?_
  have hKs := hK.size
  rintro _ σ3 m4 ⟨b5, a8, c9, rfl, hR10, hge6, hB7⟩
  replace hRcode_0 := hRcode_0.mod m4
  replace hK := hK.none m4
  replace hge6 := Nat.le_trans hKs hge6
  clear hKs m4
  refine st (v := (pt b5 0)) (rv_assign rfl) ?_
  refine w_end ?_
  refine q_then ?_
  refine c_seq ?_
  refine rg ?_
  refine st (v := (pt b5 0)) (rv_move rfl) ?_
  obtain ⟨r11, hx12, h'⟩ := bind_some h
  clear h
  have h := h'; clear h'
  refine st_call (c_spec_anyVector hR10 hB7 hB7.lt hx12) rfl ?_
  have hd22 := hB7.ltb
  have hKs := hK.size
  rintro _ σ13 m14 ⟨a15, c16, a18, c19, rfl, hO17, hR20, hB21⟩
  replace hR10 := hR10.mod m14
  replace hK := hK.some m14 hge6
  have hO17g := hO17.ge
  replace hO17 := hO17.lo hKs
  replace hO17 := hO17.low' hKs
  have hd23 := Df.ge hd22 hO17g
  clear hKs m14 hO17g
  refine st (v := (Sl a15 r11.1 c16)) (rv_assign rfl) ?_
  refine w_end ?_
  refine q_then ?_
  refine c_seq ?_
  refine rg ?_
  refine st (v := (pt b5 0)) (rv_move rfl) ?_
  obtain ⟨r24, hx25, h'⟩ := bind_some h
  clear h
  have h := h'; clear h'
  refine st_call (c_spec_anyVector hR20 hB21 hB21.lt hx25) rfl ?_
  have hd35 := hO17.ltb
  have hd36 := hB21.ltb
  have hKs := hK.size
  rintro _ σ26 m27 ⟨a28, c29, a31, c32, rfl, hO30, hR33, hB34⟩
  replace hR20 := hR20.mod m27
  replace hO17 := hO17.mod' m27 (by first | exact (hd23).symm | exact Df.reL (hd23).symm)
  replace hK := hK.some m27 hge6
  have hO30g := hO30.ge
  replace hO30 := hO30.lo hKs
  replace hO30 := hO30.low' hKs
  have hd37 := Df.ge hd35 hO30g
  have hd38 := Df.ge hd36 hO30g
  clear hKs m27 hO30g
  refine st (v := (Sl a28 r24.1 c29)) (rv_assign rfl) ?_
  refine w_end ?_
  refine q_then ?_
  refine c_seq ?_
  refine rg ?_
  refine st (v := (Sl a15 r11.1 c16)) (rv_move rfl) ?_
  refine st (v := (Sl a28 r24.1 c29)) (rv_move rfl) ?_
  refine st (v := (pt b5 0)) (rv_move rfl) ?_
  refine st_buildSlice (lo := σ0.size) (el := σ0.size) (xs := ([0, 500, 1000, 333, 1, 1001, -1] : List Int)) (ps := [(0, (I 0)), (1, (I 500)), (2, (I 1000)), (3, (I 333)), (4, (I 1)), (5, (I 1001)), (6, (I (-1)))]) (cs := [(I 0), (I 500), (I 1000), (I 333), (I 1), (I 1001), (I (-1))]) Try.underlying24 ti3 rfl rfl (by kernel_rfl) (.cons (c := [(I 0)]) rfl (.cons (c := [(I 500)]) rfl (.cons (c := [(I 1000)]) rfl (.cons (c := [(I 333)]) rfl (.cons (c := [(I 1)]) rfl (.cons (c := [(I 1001)]) rfl (.cons (c := [(I (-1))]) rfl (.nil)))))))) rfl ?_ hK.size (wanted_none _ rfl _)
  intro b40 σ41 hbn43 m42 hO39
  have hd44 := hO17.df' hbn43
  have hd45 := hO30.df' hbn43
  have hd46 := hB34.df' hbn43
  replace hO17 := hO17.mod0 m42
  replace hO30 := hO30.mod0 m42
  replace hR33 := hR33.mod m42
  replace hB34 := hB34.mod0 m42
  replace hK := hK.none m42
  clear hbn43 m42
  have hg51 := hO39.ge
  obtain ⟨σ47, hw50, m48, hR49⟩ := hO39.pub' (Nat.le_refl _)
  rw [← hw50]; clear hw50
  replace hO17 := hO17.mod' m48 (by first | exact hd44 | exact Df.re hd44)
  replace hO30 := hO30.mod' m48 (by first | exact hd45 | exact Df.re hd45)
  replace hR33 := hR33.mod m48
  replace hB34 := hB34.mod' m48 (by first | exact hd46 | exact Df.reR hd46)
  replace hK := hK.own m48 hg51
  obtain ⟨r52, hx53, h'⟩ := bind_some h
  clear h
  have h := h'; clear h'
  refine st_call (c_spec_reader_one hR33 hB34 hB34.lt (hR49.low (Nat.zero_le _)) hx53) rfl ?_
  have hd60 := hO17.ltb
  have hd61 := hO30.ltb
  have hd62 := hB34.ltb
  have hKs := hK.size
  rintro _ σ54 m55 ⟨a56, c57, rfl, hR58, hB59⟩
  replace hO17 := hO17.mod' m55 (by first | exact (hd23).symm | exact Df.reL (hd23).symm)
  replace hO30 := hO30.mod' m55 (by first | exact (hd38).symm | exact Df.reL (hd38).symm)
  replace hR33 := hR33.mod m55
  replace hR49 := hR49.mod m55
  replace hK := hK.some m55 hge6
  clear hKs m55
  refine st (v := (Sl a15 r11.1 c16)) (rv_assign rfl) ?_
  refine st (v := (Sl a28 r24.1 c29)) (rv_assign rfl) ?_
  refine st (v := (I r52.1)) (rv_assign rfl) ?_
  refine w_end ?_
  refine q_then ?_
  refine c_ret ?_
  obtain rfl := Option.some.inj h
  exact bodyPost_ret (v := (.tuple #[(Sl a15 r11.1 c16), (Sl a28 r24.1 c29), (I r52.1)])) (results_fr3 Try.results41 rfl rfl rfl _) rfl ⟨_, σ54, rfl, rfl, hK, a15, c16, a28, c29, rfl, hO17, hO30, (by first | exact (hd37).symm | exact Df.re (hd37).symm)⟩

theorem c_impl_MoveTo {σ0 : St} {a_0 : List Int} {b_1 : List Int} {part_2 : Int} {aa_0 : Option Addr} {ca_0 : Nat} (hRa_0 : RS 0 σ0 (Sl aa_0 a_0 ca_0) a_0) {ab_1 : Option Addr} {cb_1 : Nat} (hRb_1 : RS 0 σ0 (Sl ab_1 b_1 cb_1) b_1) {r : (List Int)} (h : M.impl_MoveTo a_0 b_1 part_2 = some r) :
    Cal Try.prog 42 [(Sl aa_0 a_0 ca_0), (Sl ab_1 b_1 cb_1), (I part_2)] none σ0 (fun v σ' => ∃ (a0 : Option Addr) (c0 : Nat), v = (Sl a0 r c0) ∧ Ow σ' σ0.size σ0.size (Sl a0 r c0) r) := by
  refine ⟨⟨_, _, Try.func42, rfl, rfl⟩, ?_⟩
  refine enter (n := 49) Try.func42 rfl rfl rfl ?_
  unfold M.impl_MoveTo at h
  have hK : Mod none σ0 σ0 := Mod.refl _ _
  refine c_seq ?_
  refine rg ?_
  refine st (v := (.slice none 0 0)) (rv_assign rfl) ?_
  refine w_end ?_
  refine q_then ?_
  refine c_seq ?_
  refine c_seq ?_
  obtain ⟨o1, hj, h'⟩ := bind_some h
  clear h
  refine c_cut (fun e a w => e = .normal ∧ ∃ (ρ : Nat → Value) (σ : St), a = fr 49 (updL ρ [(0, (Sl aa_0 a_0 ca_0)), (1, (Sl ab_1 b_1 cb_1)), (2, (I part_2)), (24, (B o1))]) ∧ w = σ.w ∧ Mod none σ0 σ ∧ RS 0 σ (Sl aa_0 a_0 ca_0) a_0 ∧ RS 0 σ (Sl ab_1 b_1 cb_1) b_1) ?_ ?_
  · clear h'
    rename _ = some o1 => h
    refine rg ?_
    refine st (v := (Sl aa_0 a_0 ca_0)) (rv_move rfl) ?_
    obtain ⟨r2, hx3, h'⟩ := bind_some h
    clear h
    have h := h'; clear h'
    refine st_call (c_impl_ValidVector hRa_0 hx3) rfl ?_
    have hKs := hK.size
    rintro _ σ4 m5 rfl
    replace hRa_0 := hRa_0.mod m5
    replace hRb_1 := hRb_1.mod m5
    replace hK := hK.none m5
    clear hKs m5
    refine st (v := (B (!r2))) (rv_not rfl) ?_
    refine st (v := (B (!r2))) (rv_move rfl) ?_
    rcases Bool.eq_false_or_eq_true (!r2) with hb6 | hb6
    · replace h := bif_t hb6 h
      refine st_skip (congrArg some hb6) ?_
      refine st_skip (congrArg some hb6) ?_
      refine st_skip (congrArg some hb6) ?_
      refine st (v := (B true)) (rv_pick_t (congrArg B hb6) rfl) ?_
      refine st (v := (B true)) (rv_move rfl) ?_
      refine st_skip rfl ?_
      refine st_skip rfl ?_
      refine st (v := (B true)) (rv_pick_t rfl rfl) ?_
      refine st (v := (B true)) (rv_move rfl) ?_
      refine st_skip rfl ?_
      refine st_skip rfl ?_
      refine st (v := (B true)) (rv_pick_t rfl rfl) ?_
      refine w_end ?_
      obtain rfl := Option.some.inj h
      exact ⟨rfl, _, σ4, fr_join ⟨rfl, rfl, rfl, rfl, trivial⟩, rfl, hK, hRa_0, hRb_1⟩
    · replace h := bif_f hb6 h
      refine st_g (v := (Sl ab_1 b_1 cb_1)) (congrArg some hb6) (rv_move rfl) ?_
      obtain ⟨r7, hx8, h'⟩ := bind_some h
      clear h
      have h := h'; clear h'
      refine st_call_g (by exact (congrArg some hb6)) (c_impl_ValidVector hRb_1 hx8) rfl ?_
      have hKs := hK.size
      rintro _ σ9 m10 rfl
      replace hRa_0 := hRa_0.mod m10
      replace hRb_1 := hRb_1.mod m10
      replace hK := hK.none m10
      clear hKs m10
      refine st_g (v := (B (!r7))) (congrArg some hb6) (rv_not rfl) ?_
      refine st (v := (B (!r7))) (rv_pick_f (congrArg B hb6) rfl) ?_
      refine st (v := (B (!r7))) (rv_move rfl) ?_
      rcases Bool.eq_false_or_eq_true (!r7) with hb11 | hb11
      · replace h := bif_t hb11 h
        refine st_skip (congrArg some hb11) ?_
        refine st_skip (congrArg some hb11) ?_
        refine st (v := (B true)) (rv_pick_t (congrArg B hb11) rfl) ?_
        refine st (v := (B true)) (rv_move rfl) ?_
        refine st_skip rfl ?_
        refine st_skip rfl ?_
        refine st (v := (B true)) (rv_pick_t rfl rfl) ?_
        refine w_end ?_
        obtain rfl := Option.some.inj h
        exact ⟨rfl, _, σ9, fr_join ⟨rfl, rfl, rfl, rfl, trivial⟩, rfl, hK, hRa_0, hRb_1⟩
      · replace h := bif_f hb11 h
        refine st_g (v := (I part_2)) (congrArg some hb11) (rv_move rfl) ?_
        refine st_g (v := (B (decide (part_2 < 0)))) (congrArg some hb11) (rv_lss (a := part_2) (b := 0) rfl rfl) ?_
        refine st (v := (B (decide (part_2 < 0)))) (rv_pick_f (congrArg B hb11) rfl) ?_
        refine st (v := (B (decide (part_2 < 0)))) (rv_move rfl) ?_
        rcases Bool.eq_false_or_eq_true (decide (part_2 < 0)) with hb12 | hb12
        · replace h := bif_t hb12 h
          refine st_skip (congrArg some hb12) ?_
          refine st_skip (congrArg some hb12) ?_
          refine st (v := (B true)) (rv_pick_t (congrArg B hb12) rfl) ?_
          refine w_end ?_
          obtain rfl := Option.some.inj h
          exact ⟨rfl, _, σ9, fr_join ⟨rfl, rfl, rfl, rfl, trivial⟩, rfl, hK, hRa_0, hRb_1⟩
        · replace h := bif_f hb12 h
          refine st_g (v := (I part_2)) (congrArg some hb12) (rv_move rfl) ?_
          refine st_g (v := (B (decide (1000 < part_2)))) (congrArg some hb12) (rv_gtr (a := part_2) (b := 1000) rfl rfl) ?_
          refine st (v := (B (decide (1000 < part_2)))) (rv_pick_f (congrArg B hb12) rfl) ?_
          refine w_end ?_
          obtain rfl := Option.some.inj h
          exact ⟨rfl, _, σ9, fr_join ⟨rfl, rfl, rfl, rfl, trivial⟩, rfl, hK, hRa_0, hRb_1⟩
  · clear hj
    have h := h'
    clear h'
    rintro e a w ⟨rfl, ρ, σ13, rfl, rfl, hK, hR14, hR15⟩
    refine q_then ?_
    refine cd_cond o1 rfl (fun hb16 => ?_) (fun hb16 => ?_)
    · replace h := bif_t hb16 h
      refine c_seq ?_
      refine rg ?_
      refine st (v := (.slice none 0 0)) (rv_assign rfl) ?_
      refine w_end ?_
      refine q_then ?_
      refine c_ret ?_
      refine q_then_r ?_
      obtain rfl := Option.some.inj h
      exact bodyPost_ret (v := (.slice none 0 0)) (results_fr1 Try.results42 rfl _) rfl ⟨_, σ13, rfl, rfl, hK, none, 0, rfl, Ow.nil⟩
    · replace h := bif_f hb16 h
      refine c_skip ?_
      refine q_then ?_
      refine c_seq ?_
      refine rg ?_
      refine st_alloc (cs := (List.map I (List.replicate 4 0))) ti72 rfl ?_ (wanted_none _ rfl _)
      intro b18 σ20 hbn22 m21 hB17
      have hge19 := Nat.le_trans hK.size (Nat.le_of_eq hbn22)
      replace hR14 := hR14.mod m21
      replace hR15 := hR15.mod m21
      replace hK := hK.none m21
      clear hbn22 m21
      refine w_end ?_
      refine q_then ?_
      refine c_seq ?_
      refine c_seq ?_
      refine rg ?_
      refine st (v := (I 0)) (rv_move rfl) ?_
      refine w_end ?_
      refine q_then ?_
      obtain ⟨o23, hj, h'⟩ := bind_some h
      clear h
      refine c_cut (fun e a w => e = .normal ∧ ∃ (ρ : Nat → Value) (σ : St), a = fr 49 (updL ρ [(7, (pt b18 0))]) ∧ w = σ.w ∧ Mod none σ0 σ ∧ o23.length = 4 ∧ Bx σ b18 (List.map I o23)) ?_ ?_
      · clear h'
        rename _ = some o23 => h
        refine c_blk ?_
        refine wp_loopM _ h (fun s24 a w => ∃ (ρ : Nat → Value) (σ : St), a = fr 49 (updL ρ [(0, (Sl aa_0 a_0 ca_0)), (1, (Sl ab_1 b_1 cb_1)), (2, (I part_2)), (7, (pt b18 0)), (25, (I s24.2))]) ∧ w = σ.w ∧ Mod none σ0 σ ∧ RS 0 σ (Sl aa_0 a_0 ca_0) a_0 ∧ RS 0 σ (Sl ab_1 b_1 cb_1) b_1 ∧ s24.1.length = 4 ∧ Bx σ b18 (List.map I s24.1)) ⟨_, σ20, fr_join ⟨rfl, rfl, rfl, rfl, rfl, trivial⟩, rfl, hK, hR14, hR15, rfl, hB17⟩ ?_
        clear h
        rintro s24 a w o ⟨ρ, σ26, rfl, rfl, hK, hR27, hR28, hl29, hB30⟩ h hres
        refine c_seq ?_
        refine rg ?_
        refine st (v := (B (decide (s24.2 < 4)))) (rv_lss (a := s24.2) (b := 4) rfl rfl) ?_
        refine w_end ?_
        refine q_then ?_
        refine c_seq ?_
        refine cd_cond (decide (s24.2 < 4)) rfl (fun hb31 => ?_) (fun hb31 => ?_)
        · replace h := bif_t hb31 h
          refine c_skip ?_
          refine q_then ?_
          refine c_seq ?_
          refine c_blk ?_
          refine c_seq ?_
          refine rg ?_
          refine st (v := (I s24.2)) (rv_move rfl) ?_
          refine st (v := (I s24.2)) (rv_assign rfl) ?_
          refine w_end ?_
          refine q_then ?_
          obtain ⟨x32, hx33, h'⟩ := bind_some h
          clear h
          have h := h'; clear h'
          obtain ⟨b35, o36, hi34, -⟩ := hR27.ix hx33
          obtain ⟨x37, hx38, h'⟩ := bind_some h
          clear h
          have h := h'; clear h'
          obtain ⟨b40, o41, hi39, -⟩ := hR28.ix hx38
          obtain ⟨x42, hx43, h'⟩ := bind_some h
          clear h
          have h := h'; clear h'
          obtain ⟨b45, o46, hi44, -⟩ := hR27.ix hx43
          obtain ⟨r47, hx48, h'⟩ := bind_some h
          clear h
          have h := h'; clear h'
          refine rg_monoL (σ := σ26) 18 [eqv (I s24.2), eqv (Sl aa_0 a_0 ca_0), eqv (I s24.2), eqv (pt b35 o36), eqv (I x32), eqv (Sl ab_1 b_1 cb_1), eqv (I s24.2), eqv (pt b40 o41), eqv (I x37), eqv (Sl aa_0 a_0 ca_0), eqv (I s24.2), eqv (pt b45 o46), eqv (I x42), eqv (I (w64 (x37 - x42))), eqv (I part_2), eqv (I (w64 ((w64 (x37 - x42)) * part_2))), eqv (I r47), eqv (I (w64 (x32 + r47)))] (by kernel_rfl) (by kernel_rfl) (mono_cons mono_eqv (mono_cons mono_eqv (mono_cons mono_eqv (mono_cons mono_eqv (mono_cons mono_eqv (mono_cons mono_eqv (mono_cons mono_eqv (mono_cons mono_eqv (mono_cons mono_eqv (mono_cons mono_eqv (mono_cons mono_eqv (mono_cons mono_eqv (mono_cons mono_eqv (mono_cons mono_eqv (mono_cons mono_eqv (mono_cons mono_eqv (mono_cons mono_eqv (mono_cons mono_eqv (mono_nil))))))))))))))))))) ?_ ?_
          · refine all_cons (by
                intro ρ σm m hoff hdep
                have e8 : look 49 ρ 8 = (I s24.2) := look_off (hoff 8 rfl) rfl
                exact does_v (v := (I s24.2)) (wanted_none _ rfl _) (rv_move e8) rfl) ?_
            refine all_cons (by
                intro ρ σm m hoff hdep
                have e0 : look 49 ρ 0 = (Sl aa_0 a_0 ca_0) := look_off (hoff 0 rfl) rfl
                exact does_v (v := (Sl aa_0 a_0 ca_0)) (wanted_none _ rfl _) (rv_move e0) rfl) ?_
            refine all_cons (by
                intro ρ σm m hoff hdep
                have e8 : look 49 ρ 8 = (I s24.2) := look_off (hoff 8 rfl) rfl
                exact does_v (v := (I s24.2)) (wanted_none _ rfl _) (rv_move e8) rfl) ?_
            refine all_cons (by
                intro ρ σm m hoff hdep
                have e29 : look 49 ρ 29 = (Sl aa_0 a_0 ca_0) := hdep 1 rfl rfl 29 rfl
                have e30 : look 49 ρ 30 = (I s24.2) := hdep 2 rfl rfl 30 rfl
                exact does_v (v := (pt b35 o36)) (wanted_none _ rfl _) (rv_ix Try.underlying24 ti3 e29 e30 hi34) rfl) ?_
            refine all_cons (by
                intro ρ σm m hoff hdep
                have e31 : look 49 ρ 31 = (pt b35 o36) := hdep 3 rfl rfl 31 rfl
                replace hR27 := hR27.mod m
                exact does_v (v := (I x32)) (wanted_none _ rfl _) (rv_load1 Try.underlying3 rfl e31 (hR27.at hx33 hi34).int) rfl) ?_
            refine all_cons (by
                intro ρ σm m hoff hdep
                have e1 : look 49 ρ 1 = (Sl ab_1 b_1 cb_1) := look_off (hoff 1 rfl) rfl
                exact does_v (v := (Sl ab_1 b_1 cb_1)) (wanted_none _ rfl _) (rv_move e1) rfl) ?_
            refine all_cons (by
                intro ρ σm m hoff hdep
                have e8 : look 49 ρ 8 = (I s24.2) := look_off (hoff 8 rfl) rfl
                exact does_v (v := (I s24.2)) (wanted_none _ rfl _) (rv_move e8) rfl) ?_
            refine all_cons (by
                intro ρ σm m hoff hdep
                have e33 : look 49 ρ 33 = (Sl ab_1 b_1 cb_1) := hdep 5 rfl rfl 33 rfl
                have e34 : look 49 ρ 34 = (I s24.2) := hdep 6 rfl rfl 34 rfl
                exact does_v (v := (pt b40 o41)) (wanted_none _ rfl _) (rv_ix Try.underlying24 ti3 e33 e34 hi39) rfl) ?_
            refine all_cons (by
                intro ρ σm m hoff hdep
                have e35 : look 49 ρ 35 = (pt b40 o41) := hdep 7 rfl rfl 35 rfl
                replace hR28 := hR28.mod m
                exact does_v (v := (I x37)) (wanted_none _ rfl _) (rv_load1 Try.underlying3 rfl e35 (hR28.at hx38 hi39).int) rfl) ?_
            refine all_cons (by
                intro ρ σm m hoff hdep
                have e0 : look 49 ρ 0 = (Sl aa_0 a_0 ca_0) := look_off (hoff 0 rfl) rfl
                exact does_v (v := (Sl aa_0 a_0 ca_0)) (wanted_none _ rfl _) (rv_move e0) rfl) ?_
            refine all_cons (by
                intro ρ σm m hoff hdep
                have e8 : look 49 ρ 8 = (I s24.2) := look_off (hoff 8 rfl) rfl
                exact does_v (v := (I s24.2)) (wanted_none _ rfl _) (rv_move e8) rfl) ?_
            refine all_cons (by
                intro ρ σm m hoff hdep
                have e37 : look 49 ρ 37 = (Sl aa_0 a_0 ca_0) := hdep 9 rfl rfl 37 rfl
                have e38 : look 49 ρ 38 = (I s24.2) := hdep 10 rfl rfl 38 rfl
                exact does_v (v := (pt b45 o46)) (wanted_none _ rfl _) (rv_ix Try.underlying24 ti3 e37 e38 hi44) rfl) ?_
            refine all_cons (by
                intro ρ σm m hoff hdep
                have e39 : look 49 ρ 39 = (pt b45 o46) := hdep 11 rfl rfl 39 rfl
                replace hR27 := hR27.mod m
                exact does_v (v := (I x42)) (wanted_none _ rfl _) (rv_load1 Try.underlying3 rfl e39 (hR27.at hx43 hi44).int) rfl) ?_
            refine all_cons (by
                intro ρ σm m hoff hdep
                have e36 : look 49 ρ 36 = (I x37) := hdep 8 rfl rfl 36 rfl
                have e40 : look 49 ρ 40 = (I x42) := hdep 12 rfl rfl 40 rfl
                exact does_v (v := (I (w64 (x37 - x42)))) (wanted_none _ rfl _) (rv_sub (a := x37) (b := x42) e36 e40) rfl) ?_
            refine all_cons (by
                intro ρ σm m hoff hdep
                have e2 : look 49 ρ 2 = (I part_2) := look_off (hoff 2 rfl) rfl
                exact does_v (v := (I part_2)) (wanted_none _ rfl _) (rv_move e2) rfl) ?_
            refine all_cons (by
                intro ρ σm m hoff hdep
                have e41 : look 49 ρ 41 = (I (w64 (x37 - x42))) := hdep 13 rfl rfl 41 rfl
                have e42 : look 49 ρ 42 = (I part_2) := hdep 14 rfl rfl 42 rfl
                exact does_v (v := (I (w64 ((w64 (x37 - x42)) * part_2)))) (wanted_none _ rfl _) (rv_mul (a := (w64 (x37 - x42))) (b := part_2) e41 e42) rfl) ?_
            refine all_cons (by
                intro ρ σm m hoff hdep
                have e43 : look 49 ρ 43 = (I (w64 ((w64 (x37 - x42)) * part_2))) := hdep 15 rfl rfl 43 rfl
                have hKs : σ26.size ≤ σm.size := m.size
                exact does_call (wanted_none _ rfl _) (c_impl_divideDown  hx48) (by show [look 49 ρ 43, (I 1000)] = _; rw [e43]) (by rintro v σ2 m2 rfl; exact rfl)) ?_
            refine all_cons (by
                intro ρ σm m hoff hdep
                have e32 : look 49 ρ 32 = (I x32) := hdep 4 rfl rfl 32 rfl
                have e44 : look 49 ρ 44 = (I r47) := hdep 16 rfl rfl 44 rfl
                exact does_v (v := (I (w64 (x32 + r47)))) (wanted_none _ rfl _) (rv_add (a := x32) (b := r47) e32 e44) rfl) ?_
            exact all_nil
          · intro ρ σ49 m hoff hrel
            have e0 : look 49 ρ 0 = (Sl aa_0 a_0 ca_0) := look_off (hoff 0 rfl) rfl
            have e1 : look 49 ρ 1 = (Sl ab_1 b_1 cb_1) := look_off (hoff 1 rfl) rfl
            have e2 : look 49 ρ 2 = (I part_2) := look_off (hoff 2 rfl) rfl
            have e7 : look 49 ρ 7 = (pt b18 0) := look_off (hoff 7 rfl) rfl
            have e25 : look 49 ρ 25 = (I s24.2) := look_off (hoff 25 rfl) rfl
            have e28 : look 49 ρ 28 = (I s24.2) := hrel 0 rfl 28 rfl
            have e45 : look 49 ρ 45 = (I (w64 (x32 + r47))) := hrel 17 rfl 45 rfl
            replace hR27 := hR27.mod m
            replace hR28 := hR28.mod m
            replace hB30 := hB30.mod0 m
            replace hK := hK.none m
            rw [fr_lookL (L := [(0, (Sl aa_0 a_0 ca_0)), (1, (Sl ab_1 b_1 cb_1)), (2, (I part_2)), (7, (pt b18 0)), (25, (I s24.2)), (28, (I s24.2)), (45, (I (w64 (x32 + r47))))]) ⟨e0, e1, e2, e7, e25, e28, e45, trivial⟩]
            clear hoff hrel m e0 e1 e2 e7 e25 e28 e45
            obtain ⟨x50, hx51, h'⟩ := bind_some h
            clear h
            have h := h'; clear h'
            have hl52 := gidx_lt hx51 hl29
            refine st (v := (pt b18 (0 + s24.2.toNat * 1))) (rv_indexAddr_array Try.underlying72 ti3 rfl rfl hl52.1 hl52.2) ?_
            have hl57 := gidx_lt hx51 hl29
            refine st_store_box (vs := [(I (w64 (x32 + r47)))]) ti3 hB30 rfl rfl rfl rfl (by rw [List.length_map, hl29]; simp; omega) (by simp [plain]) ?_
            intro σ53 m54 hB56 hs55; clear hs55
            replace hR27 := hR27.mod m54
            replace hR28 := hR28.mod m54
            replace hK := hK.some m54 hge19
            replace hB56 := Bx.cast (cs' := (List.map I (s24.1.set s24.2.toNat (w64 (x32 + r47))))) hB56 (arr_set _ _ _)
            clear hB30
            refine w_end ?_
            refine q_blk ?_
            refine q_then ?_
            refine rg ?_
            refine st (v := (I (w64 (s24.2 + 1)))) (rv_add (a := s24.2) (b := 1) rfl rfl) ?_
            refine st (v := (I (w64 (s24.2 + 1)))) (rv_move rfl) ?_
            refine w_end ?_
            refine q_then ?_
            obtain rfl := Option.some.inj h
            exact ⟨_, rfl, _, σ53, fr_join ⟨rfl, rfl, rfl, rfl, rfl, trivial⟩, rfl, hK, hR27, hR28, (set_len hl29), hB56⟩
        · replace h := bif_f hb31 h
          refine c_exit ?_
          refine q_then_x ?_
          refine q_then_x ?_
          refine q_blk_hit ?_
          obtain rfl := Option.some.inj h
          obtain rfl := hres _ rfl
          exact ⟨rfl, _, σ26, fr_join ⟨rfl, trivial⟩, rfl, hK, hl29, hB30⟩
      · clear hj
        have h := h'
        clear h'
        rintro e a w ⟨rfl, ρ, σ58, rfl, rfl, hK, hl59, hB60⟩
        refine q_then ?_
        refine c_seq ?_
        refine rg ?_
        have hO61 := bx_arr (el := σ0.size) hB60 hge19 hl59
        refine st (v := (Sl (some ⟨b18, 0, none⟩) o23 4)) (rv_slice_arrL Try.underlying72 ti3 (by decide) rfl hl59) ?_
        refine st (v := (Sl (some ⟨b18, 0, none⟩) o23 4)) (rv_assign rfl) ?_
        refine w_end ?_
        refine q_then ?_
        refine c_ret ?_
        obtain rfl := Option.some.inj h
        exact bodyPost_ret (v := (Sl (some ⟨b18, 0, none⟩) o23 4)) (results_fr1 Try.results42 rfl _) rfl ⟨_, σ58, rfl, rfl, hK, (some ⟨b18, 0, none⟩), 4, rfl, hO61⟩

theorem c_spec_MoveTo {σ0 : St} {a_0 : List Int} {b_1 : List Int} {part_2 : Int} {aa_0 : Option Addr} {ca_0 : Nat} (hRa_0 : RS 0 σ0 (Sl aa_0 a_0 ca_0) a_0) {ab_1 : Option Addr} {cb_1 : Nat} (hRb_1 : RS 0 σ0 (Sl ab_1 b_1 cb_1) b_1) {r : (List Int)} (h : M.spec_MoveTo a_0 b_1 part_2 = some r) :
    Cal Try.prog 43 [(Sl aa_0 a_0 ca_0), (Sl ab_1 b_1 cb_1), (I part_2)] none σ0 (fun v σ' => ∃ (a0 : Option Addr) (c0 : Nat), v = (Sl a0 r c0) ∧ Ow σ' σ0.size σ0.size (Sl a0 r c0) r) := by
  refine ⟨⟨_, _, Try.func43, rfl, rfl⟩, ?_⟩
  refine enter (n := 48) Try.func43 rfl rfl rfl ?_
  unfold M.spec_MoveTo at h
  have hK : Mod none σ0 σ0 := Mod.refl _ _
  refine c_seq ?_
  refine rg ?_
  refine st (v := (.slice none 0 0)) (rv_assign rfl) ?_
  refine w_end ?_
  refine q_then ?_
  refine c_seq ?_
  refine rg ?_
  refine st_buildSlice (lo := σ0.size) (el := σ0.size) (xs := ([] : List Int)) (ps := []) (cs := []) Try.underlying24 ti3 rfl rfl (by kernel_rfl) (.nil) rfl ?_ hK.size (wanted_none _ rfl _)
  intro b2 σ3 hbn5 m4 hO1
  replace hRa_0 := hRa_0.mod m4
  replace hRb_1 := hRb_1.mod m4
  replace hK := hK.none m4
  clear hbn5 m4
  refine st (v := (Sl (some ⟨b2, 0, none⟩) ([] : List Int) 0)) (rv_assign rfl) ?_
  refine w_end ?_
  refine q_then ?_
  refine c_seq ?_
  refine c_seq ?_
  obtain ⟨o6, hj, h'⟩ := bind_some h
  clear h
  refine c_cut (fun e a w => e = .normal ∧ ∃ (ρ : Nat → Value) (σ : St), a = fr 48 (updL ρ [(0, (Sl aa_0 a_0 ca_0)), (1, (Sl ab_1 b_1 cb_1)), (2, (I part_2)), (7, (Sl (some ⟨b2, 0, none⟩) ([] : List Int) 0)), (22, (B o6))]) ∧ w = σ.w ∧ Mod none σ0 σ ∧ RS 0 σ (Sl aa_0 a_0 ca_0) a_0 ∧ RS 0 σ (Sl ab_1 b_1 cb_1) b_1 ∧ Ow σ σ0.size σ0.size (Sl (some ⟨b2, 0, none⟩) ([] : List Int) 0) ([] : List Int)) ?_ ?_
  · clear h'
    rename _ = some o6 => h
    refine rg ?_
    refine st (v := (Sl aa_0 a_0 ca_0)) (rv_move rfl) ?_
    obtain ⟨r7, hx8, h'⟩ := bind_some h
    clear h
    have h := h'; clear h'
    refine st_call (c_spec_isVector hRa_0 hx8) rfl ?_
    have hd11 := hO1.ltb
    have hKs := hK.size
    rintro _ σ9 m10 rfl
    replace hRa_0 := hRa_0.mod m10
    replace hRb_1 := hRb_1.mod m10
    replace hO1 := hO1.mod0 m10
    replace hK := hK.none m10
    clear hKs m10
    refine st (v := (B (!r7))) (rv_not rfl) ?_
    refine st (v := (B (!r7))) (rv_move rfl) ?_
    rcases Bool.eq_false_or_eq_true (!r7) with hb12 | hb12
    · replace h := bif_t hb12 h
      refine st_skip (congrArg some hb12) ?_
      refine st_skip (congrArg some hb12) ?_
      refine st_skip (congrArg some hb12) ?_
      refine st (v := (B true)) (rv_pick_t (congrArg B hb12) rfl) ?_
      refine st (v := (B true)) (rv_move rfl) ?_
      refine st_skip rfl ?_
      refine st_skip rfl ?_
      refine st_skip rfl ?_
      refine st (v := (B true)) (rv_pick_t rfl rfl) ?_
      refine w_end ?_
      obtain rfl := Option.some.inj h
      exact ⟨rfl, _, σ9, fr_join ⟨rfl, rfl, rfl, rfl, rfl, trivial⟩, rfl, hK, hRa_0, hRb_1, hO1⟩
    · replace h := bif_f hb12 h
      refine st_g (v := (Sl ab_1 b_1 cb_1)) (congrArg some hb12) (rv_move rfl) ?_
      obtain ⟨r13, hx14, h'⟩ := bind_some h
      clear h
      have h := h'; clear h'
      refine st_call_g (by exact (congrArg some hb12)) (c_spec_isVector hRb_1 hx14) rfl ?_
      have hd17 := hO1.ltb
      have hKs := hK.size
      rintro _ σ15 m16 rfl
      replace hRa_0 := hRa_0.mod m16
      replace hRb_1 := hRb_1.mod m16
      replace hO1 := hO1.mod0 m16
      replace hK := hK.none m16
      clear hKs m16
      refine st_g (v := (B (!r13))) (congrArg some hb12) (rv_not rfl) ?_
      refine st (v := (B (!r13))) (rv_pick_f (congrArg B hb12) rfl) ?_
      refine st (v := (B (!r13))) (rv_move rfl) ?_
      rcases Bool.eq_false_or_eq_true (!r13) with hb18 | hb18
      · replace h := bif_t hb18 h
        refine st_skip (congrArg some hb18) ?_
        refine st_skip (congrArg some hb18) ?_
        refine st_skip (congrArg some hb18) ?_
        refine st (v := (B true)) (rv_pick_t (congrArg B hb18) rfl) ?_
        refine w_end ?_
        obtain rfl := Option.some.inj h
        exact ⟨rfl, _, σ15, fr_join ⟨rfl, rfl, rfl, rfl, rfl, trivial⟩, rfl, hK, hRa_0, hRb_1, hO1⟩
      · replace h := bif_f hb18 h
        refine st_g (v := (I part_2)) (congrArg some hb18) (rv_move rfl) ?_
        obtain ⟨r19, hx20, h'⟩ := bind_some h
        clear h
        have h := h'; clear h'
        refine st_call_g (by exact (congrArg some hb18)) (c_spec_inRange  hx20) rfl ?_
        have hd23 := hO1.ltb
        have hKs := hK.size
        rintro _ σ21 m22 rfl
        replace hRa_0 := hRa_0.mod m22
        replace hRb_1 := hRb_1.mod m22
        replace hO1 := hO1.mod0 m22
        replace hK := hK.none m22
        clear hKs m22
        refine st_g (v := (B (!r19))) (congrArg some hb18) (rv_not rfl) ?_
        refine st (v := (B (!r19))) (rv_pick_f (congrArg B hb18) rfl) ?_
        refine w_end ?_
        obtain rfl := Option.some.inj h
        exact ⟨rfl, _, σ21, fr_join ⟨rfl, rfl, rfl, rfl, rfl, trivial⟩, rfl, hK, hRa_0, hRb_1, hO1⟩
  · clear hj
    have h := h'
    clear h'
    rintro e a w ⟨rfl, ρ, σ24, rfl, rfl, hK, hR25, hR26, hO27⟩
    refine q_then ?_
    refine cd_cond o6 rfl (fun hb28 => ?_) (fun hb28 => ?_)
    · replace h := bif_t hb28 h
      refine c_seq ?_
      refine rg ?_
      refine st (v := (.slice none 0 0)) (rv_assign rfl) ?_
      refine w_end ?_
      refine q_then ?_
      refine c_ret ?_
      refine q_then_r ?_
      obtain rfl := Option.some.inj h
      exact bodyPost_ret (v := (.slice none 0 0)) (results_fr1 Try.results43 rfl _) rfl ⟨_, σ24, rfl, rfl, hK, none, 0, rfl, Ow.nil⟩
    · replace h := bif_f hb28 h
      refine c_skip ?_
      refine q_then ?_
      refine c_seq ?_
      refine c_seq ?_
      refine rg ?_
      refine st (v := (I 0)) (rv_assign rfl) ?_
      refine w_end ?_
      refine q_then ?_
      obtain ⟨o29, hj, h'⟩ := bind_some h
      clear h
      refine c_cut (fun e a w => e = .normal ∧ ∃ (ρ : Nat → Value) (σ : St) (aj1 : Option Addr) (cj2 : Nat), a = fr 48 (updL ρ [(7, (Sl aj1 o29 cj2))]) ∧ w = σ.w ∧ Mod none σ0 σ ∧ Ow σ σ0.size σ0.size (Sl aj1 o29 cj2) o29) ?_ ?_
      · clear h'
        rename _ = some o29 => h
        refine c_blk ?_
        refine wp_loopM _ h (fun s30 a w => ∃ (ρ : Nat → Value) (σ : St) (aj3 : Option Addr) (cj4 : Nat), a = fr 48 (updL ρ [(0, (Sl aa_0 a_0 ca_0)), (1, (Sl ab_1 b_1 cb_1)), (2, (I part_2)), (7, (Sl aj3 s30.1 cj4)), (8, (I s30.2))]) ∧ w = σ.w ∧ Mod none σ0 σ ∧ RS 0 σ (Sl aa_0 a_0 ca_0) a_0 ∧ RS 0 σ (Sl ab_1 b_1 cb_1) b_1 ∧ Ow σ σ0.size σ0.size (Sl aj3 s30.1 cj4) s30.1) ⟨_, σ24, (some ⟨b2, 0, none⟩), 0, fr_join ⟨rfl, rfl, rfl, rfl, rfl, trivial⟩, rfl, hK, hR25, hR26, hO27⟩ ?_
        clear h
        rintro s30 a w o ⟨ρ, σ32, a35, c36, rfl, rfl, hK, hR33, hR34, hO37⟩ h hres
        refine c_seq ?_
        refine c_seq ?_
        refine rg ?_
        refine st (v := (I s30.2)) (rv_move rfl) ?_
        refine st (v := (B (decide (s30.2 < 4)))) (rv_lss (a := s30.2) (b := 4) rfl rfl) ?_
        refine w_end ?_
        refine q_then ?_
        refine cd_cond (decide (s30.2 < 4)) rfl (fun hb38 => ?_) (fun hb38 => ?_)
        · replace h := bif_t hb38 h
          refine c_skip ?_
          refine q_then ?_
          refine c_seq ?_
          refine c_blk ?_
          obtain ⟨x39, hx40, h'⟩ := bind_some h
          clear h
          have h := h'; clear h'
          obtain ⟨b42, o43, hi41, -⟩ := hR33.ix hx40
          obtain ⟨x44, hx45, h'⟩ := bind_some h
          clear h
          have h := h'; clear h'
          obtain ⟨b47, o48, hi46, -⟩ := hR34.ix hx45
          obtain ⟨x49, hx50, h'⟩ := bind_some h
          clear h
          have h := h'; clear h'
          obtain ⟨b52, o53, hi51, -⟩ := hR33.ix hx50
          obtain ⟨r54, hx55, h'⟩ := bind_some h
          clear h
          have h := h'; clear h'
          refine rg_monoL (σ := σ32) 19 [eqv (Sl a35 s30.1 c36), eqv (Sl aa_0 a_0 ca_0), eqv (I s30.2), eqv (pt b42 o43), eqv (I x39), eqv (Sl ab_1 b_1 cb_1), eqv (I s30.2), eqv (pt b47 o48), eqv (I x44), eqv (Sl aa_0 a_0 ca_0), eqv (I s30.2), eqv (pt b52 o53), eqv (I x49), eqv (I (w64 (x44 - x49))), eqv (I part_2), eqv (I (w64 ((w64 (x44 - x49)) * part_2))), eqv (I r54), eqv (I (w64 (x39 + r54))), (fun v σ => ∃ (b56 : Nat), v = (Sl (some ⟨b56, 0, none⟩) ([w64 (x39 + r54)] : List Int) 1) ∧ Ow σ σ32.size σ0.size (Sl (some ⟨b56, 0, none⟩) ([w64 (x39 + r54)] : List Int) 1) ([w64 (x39 + r54)] : List Int))] (by kernel_rfl) (by kernel_rfl) (mono_cons mono_eqv (mono_cons mono_eqv (mono_cons mono_eqv (mono_cons mono_eqv (mono_cons mono_eqv (mono_cons mono_eqv (mono_cons mono_eqv (mono_cons mono_eqv (mono_cons mono_eqv (mono_cons mono_eqv (mono_cons mono_eqv (mono_cons mono_eqv (mono_cons mono_eqv (mono_cons mono_eqv (mono_cons mono_eqv (mono_cons mono_eqv (mono_cons mono_eqv (mono_cons mono_eqv (mono_cons (fun _ _ _ ⟨b56, h0, hO57⟩ m => ⟨b56, h0, hO57.mod0 m⟩) (mono_nil)))))))))))))))))))) ?_ ?_
          · refine all_cons (by
                intro ρ σm m hoff hdep
                have e7 : look 48 ρ 7 = (Sl a35 s30.1 c36) := look_off (hoff 7 rfl) rfl
                exact does_v (v := (Sl a35 s30.1 c36)) (wanted_none _ rfl _) (rv_move e7) rfl) ?_
            refine all_cons (by
                intro ρ σm m hoff hdep
                have e0 : look 48 ρ 0 = (Sl aa_0 a_0 ca_0) := look_off (hoff 0 rfl) rfl
                exact does_v (v := (Sl aa_0 a_0 ca_0)) (wanted_none _ rfl _) (rv_move e0) rfl) ?_
            refine all_cons (by
                intro ρ σm m hoff hdep
                have e8 : look 48 ρ 8 = (I s30.2) := look_off (hoff 8 rfl) rfl
                exact does_v (v := (I s30.2)) (wanted_none _ rfl _) (rv_move e8) rfl) ?_
            refine all_cons (by
                intro ρ σm m hoff hdep
                have e28 : look 48 ρ 28 = (Sl aa_0 a_0 ca_0) := hdep 1 rfl rfl 28 rfl
                have e29 : look 48 ρ 29 = (I s30.2) := hdep 2 rfl rfl 29 rfl
                exact does_v (v := (pt b42 o43)) (wanted_none _ rfl _) (rv_ix Try.underlying24 ti3 e28 e29 hi41) rfl) ?_
            refine all_cons (by
                intro ρ σm m hoff hdep
                have e30 : look 48 ρ 30 = (pt b42 o43) := hdep 3 rfl rfl 30 rfl
                replace hR33 := hR33.mod m
                exact does_v (v := (I x39)) (wanted_none _ rfl _) (rv_load1 Try.underlying3 rfl e30 (hR33.at hx40 hi41).int) rfl) ?_
            refine all_cons (by
                intro ρ σm m hoff hdep
                have e1 : look 48 ρ 1 = (Sl ab_1 b_1 cb_1) := look_off (hoff 1 rfl) rfl
                exact does_v (v := (Sl ab_1 b_1 cb_1)) (wanted_none _ rfl _) (rv_move e1) rfl) ?_
            refine all_cons (by
                intro ρ σm m hoff hdep
                have e8 : look 48 ρ 8 = (I s30.2) := look_off (hoff 8 rfl) rfl
                exact does_v (v := (I s30.2)) (wanted_none _ rfl _) (rv_move e8) rfl) ?_
            refine all_cons (by
                intro ρ σm m hoff hdep
                have e32 : look 48 ρ 32 = (Sl ab_1 b_1 cb_1) := hdep 5 rfl rfl 32 rfl
                have e33 : look 48 ρ 33 = (I s30.2) := hdep 6 rfl rfl 33 rfl
                exact does_v (v := (pt b47 o48)) (wanted_none _ rfl _) (rv_ix Try.underlying24 ti3 e32 e33 hi46) rfl) ?_
            refine all_cons (by
                intro ρ σm m hoff hdep
                have e34 : look 48 ρ 34 = (pt b47 o48) := hdep 7 rfl rfl 34 rfl
                replace hR34 := hR34.mod m
                exact does_v (v := (I x44)) (wanted_none _ rfl _) (rv_load1 Try.underlying3 rfl e34 (hR34.at hx45 hi46).int) rfl) ?_
            refine all_cons (by
                intro ρ σm m hoff hdep
                have e0 : look 48 ρ 0 = (Sl aa_0 a_0 ca_0) := look_off (hoff 0 rfl) rfl
                exact does_v (v := (Sl aa_0 a_0 ca_0)) (wanted_none _ rfl _) (rv_move e0) rfl) ?_
            refine all_cons (by
                intro ρ σm m hoff hdep
                have e8 : look 48 ρ 8 = (I s30.2) := look_off (hoff 8 rfl) rfl
                exact does_v (v := (I s30.2)) (wanted_none _ rfl _) (rv_move e8) rfl) ?_
            refine all_cons (by
                intro ρ σm m hoff hdep
                have e36 : look 48 ρ 36 = (Sl aa_0 a_0 ca_0) := hdep 9 rfl rfl 36 rfl
                have e37 : look 48 ρ 37 = (I s30.2) := hdep 10 rfl rfl 37 rfl
                exact does_v (v := (pt b52 o53)) (wanted_none _ rfl _) (rv_ix Try.underlying24 ti3 e36 e37 hi51) rfl) ?_
            refine all_cons (by
                intro ρ σm m hoff hdep
                have e38 : look 48 ρ 38 = (pt b52 o53) := hdep 11 rfl rfl 38 rfl
                replace hR33 := hR33.mod m
                exact does_v (v := (I x49)) (wanted_none _ rfl _) (rv_load1 Try.underlying3 rfl e38 (hR33.at hx50 hi51).int) rfl) ?_
            refine all_cons (by
                intro ρ σm m hoff hdep
                have e35 : look 48 ρ 35 = (I x44) := hdep 8 rfl rfl 35 rfl
                have e39 : look 48 ρ 39 = (I x49) := hdep 12 rfl rfl 39 rfl
                exact does_v (v := (I (w64 (x44 - x49)))) (wanted_none _ rfl _) (rv_sub (a := x44) (b := x49) e35 e39) rfl) ?_
            refine all_cons (by
                intro ρ σm m hoff hdep
                have e2 : look 48 ρ 2 = (I part_2) := look_off (hoff 2 rfl) rfl
                exact does_v (v := (I part_2)) (wanted_none _ rfl _) (rv_move e2) rfl) ?_
            refine all_cons (by
                intro ρ σm m hoff hdep
                have e40 : look 48 ρ 40 = (I (w64 (x44 - x49))) := hdep 13 rfl rfl 40 rfl
                have e41 : look 48 ρ 41 = (I part_2) := hdep 14 rfl rfl 41 rfl
                exact does_v (v := (I (w64 ((w64 (x44 - x49)) * part_2)))) (wanted_none _ rfl _) (rv_mul (a := (w64 (x44 - x49))) (b := part_2) e40 e41) rfl) ?_
            refine all_cons (by
                intro ρ σm m hoff hdep
                have e42 : look 48 ρ 42 = (I (w64 ((w64 (x44 - x49)) * part_2))) := hdep 15 rfl rfl 42 rfl
                have hKs : σ32.size ≤ σm.size := m.size
                exact does_call (wanted_none _ rfl _) (c_spec_floorDiv  hx55) (by show [look 48 ρ 42, (I 1000)] = _; rw [e42]) (by rintro v σ2 m2 rfl; exact rfl)) ?_
            refine all_cons (by
                intro ρ σm m hoff hdep
                have e31 : look 48 ρ 31 = (I x39) := hdep 4 rfl rfl 31 rfl
                have e43 : look 48 ρ 43 = (I r54) := hdep 16 rfl rfl 43 rfl
                exact does_v (v := (I (w64 (x39 + r54)))) (wanted_none _ rfl _) (rv_add (a := x39) (b := r54) e31 e43) rfl) ?_
            refine all_cons (by
                intro ρ σm m hoff hdep
                have e44 : look 48 ρ 44 = (I (w64 (x39 + r54))) := hdep 17 rfl rfl 44 rfl
                exact does_buildSlice (lo := σ32.size) (el := σ0.size) (xs := ([w64 (x39 + r54)] : List Int)) (ps := [(0, (I (w64 (x39 + r54))))]) (cs := [(I (w64 (x39 + r54)))]) (wanted_none _ rfl _) Try.underlying24 ti3 rfl (by show [(0, look 48 ρ 44)] = _; rw [e44]) (by kernel_rfl) (.cons (c := [(I (w64 (x39 + r54)))]) rfl (.nil)) rfl m.size (fun b56 σ2 m2 hO57 => ⟨b56, rfl, hO57⟩)) ?_
            exact all_nil
          · intro ρ σ58 m hoff hrel
            have e0 : look 48 ρ 0 = (Sl aa_0 a_0 ca_0) := look_off (hoff 0 rfl) rfl
            have e1 : look 48 ρ 1 = (Sl ab_1 b_1 cb_1) := look_off (hoff 1 rfl) rfl
            have e2 : look 48 ρ 2 = (I part_2) := look_off (hoff 2 rfl) rfl
            have e8 : look 48 ρ 8 = (I s30.2) := look_off (hoff 8 rfl) rfl
            have e27 : look 48 ρ 27 = (Sl a35 s30.1 c36) := hrel 0 rfl 27 rfl
            obtain ⟨b56, e45, hO57⟩ := hrel 18 rfl 45 rfl
            have hd59 := hO37.ltb
            have hg60 := hO57.ge
            have hd61 := Df.ge hd59 hg60
            replace hO57 := hO57.lo hK.size
            replace hR33 := hR33.mod m
            replace hR34 := hR34.mod m
            replace hO37 := hO37.mod0 m
            replace hK := hK.none m
            rw [fr_lookL (L := [(0, (Sl aa_0 a_0 ca_0)), (1, (Sl ab_1 b_1 cb_1)), (2, (I part_2)), (8, (I s30.2)), (27, (Sl a35 s30.1 c36)), (45, (Sl (some ⟨b56, 0, none⟩) ([w64 (x39 + r54)] : List Int) 1))]) ⟨e0, e1, e2, e8, e27, e45, trivial⟩]
            clear hoff hrel m e0 e1 e2 e8 e27 e45
            obtain ⟨xs62, hx63, h'⟩ := bind_some h
            clear h
            have h := h'; clear h'
            have hg64 := hO37.ge
            refine st_append Try.underlying24 Try.underlying24 ti3 rfl rfl (by decide) hO37 hO57.rd hx63 hK.size rfl rfl ?_ (wanted_none _ rfl _)
            intro a69 c70 σ65 m66 hO67 hq68
            replace hR33 := hR33.mod m66
            replace hR34 := hR34.mod m66
            replace hK := hK.own m66 hg64
            clear hq68 m66
            refine st (v := (Sl a69 xs62 c70)) (rv_assign rfl) ?_
            refine w_end ?_
            refine q_blk ?_
            refine q_then ?_
            refine rg ?_
            refine st (v := (I s30.2)) (rv_move rfl) ?_
            refine st (v := (I (w64 (s30.2 + 1)))) (rv_add (a := s30.2) (b := 1) rfl rfl) ?_
            refine st (v := (I (w64 (s30.2 + 1)))) (rv_assign rfl) ?_
            refine w_end ?_
            refine q_then ?_
            obtain rfl := Option.some.inj h
            exact ⟨_, rfl, _, σ65, a69, c70, fr_join ⟨rfl, rfl, rfl, rfl, rfl, trivial⟩, rfl, hK, hR33, hR34, hO67⟩
        · replace h := bif_f hb38 h
          refine c_exit ?_
          refine q_then_x ?_
          refine q_then_x ?_
          refine q_blk_hit ?_
          obtain rfl := Option.some.inj h
          obtain rfl := hres _ rfl
          exact ⟨rfl, _, σ32, a35, c36, fr_join ⟨rfl, trivial⟩, rfl, hK, hO37⟩
      · clear hj
        have h := h'
        clear h'
        rintro e a w ⟨rfl, ρ, σ71, a72, c73, rfl, rfl, hK, hO74⟩
        refine q_then ?_
        refine c_seq ?_
        refine rg ?_
        refine st (v := (Sl a72 o29 c73)) (rv_move rfl) ?_
        refine st (v := (Sl a72 o29 c73)) (rv_assign rfl) ?_
        refine w_end ?_
        refine q_then ?_
        refine c_ret ?_
        obtain rfl := Option.some.inj h
        exact bodyPost_ret (v := (Sl a72 o29 c73)) (results_fr1 Try.results43 rfl _) rfl ⟨_, σ71, rfl, rfl, hK, a72, c73, rfl, hO74⟩

theorem c_laws_FnMoveToSame {σ0 : St} {code_0 : List UInt8} {acode_0 : Option Addr} {ccode_0 : Nat} (hRcode_0 : RS 0 σ0 (Sl acode_0 code_0 ccode_0) code_0) {r : Bool} (h : M.laws_FnMoveToSame code_0 = some r) :
    Cal Try.prog 12 [(Sl acode_0 code_0 ccode_0)] none σ0 (fun v σ' => v = (B r)) := by
  refine ⟨⟨_, _, Try.func12, rfl, rfl⟩, ?_⟩
  refine enter (n := 48) Try.func12 rfl rfl rfl ?_
  unfold M.laws_FnMoveToSame at h
  have hK : Mod none σ0 σ0 := Mod.refl _ _
  refine c_seq ?_
  refine rg ?_
  refine st (v := (B false)) (rv_assign rfl) ?_
  refine w_end ?_
  refine q_then ?_
  refine c_seq ?_
  refine c_seq ?_
  refine rg ?_
  refine st (v := (Sl acode_0 code_0 ccode_0)) (rv_move rfl) ?_
  refine st (v := (I (code_0.length : Int))) (rv_len Try.underlying22 rfl) ?_
  refine st (v := (B (decide (1048576 < (code_0.length : Int))))) (rv_gtr (a := (code_0.length : Int)) (b := 1048576) rfl rfl) ?_
  refine w_end ?_
  refine q_then ?_
  refine cd_cond (decide (1048576 < (code_0.length : Int))) rfl (fun hb1 => ?_) (fun hb1 => ?_)
  · replace h := bif_t hb1 h
    refine c_seq ?_
    refine rg ?_
    refine st (v := (B true)) (rv_assign rfl) ?_
    refine w_end ?_
    refine q_then ?_
    refine c_ret ?_
    refine q_then_r ?_
    obtain rfl := Option.some.inj h
    exact bodyPost_ret (v := (B true)) (results_fr1 Try.results12 rfl _) rfl ⟨_, σ0, rfl, rfl, hK, rfl⟩
  · replace h := bif_f hb1 h
    refine c_skip ?_
    refine q_then ?_
    refine c_seq ?_
    refine rg ?_
    refine st (v := (Sl acode_0 code_0 ccode_0)) (rv_move rfl) ?_
    obtain ⟨r2, hx3, h'⟩ := bind_some h
    clear h
    have h := h'; clear h'
    refine st_call (c_spec_DrawMoveTo hRcode_0 hx3) rfl ?_
    have hKs := hK.size
    rintro _ σ4 m5 ⟨a6, c7, a9, c10, rfl, hO8, hO11, hd12⟩
    replace hRcode_0 := hRcode_0.mod m5
    replace hK := hK.none m5
    have hO8g := hO8.ge
    replace hO8 := hO8.lo hKs
    replace hO8 := hO8.low' hKs
    have hO11g := hO11.ge
    replace hO11 := hO11.lo hKs
    replace hO11 := hO11.low' hKs
    clear hKs m5 hO8g hO11g
    refine st (v := (.tuple #[(Sl a6 r2.1 c7), (Sl a9 r2.2.1 c10), (I r2.2.2)])) (rv_move rfl) ?_
    refine st (v := (Sl a6 r2.1 c7)) (rv_extract rfl rfl) ?_
    refine st (v := (Sl a9 r2.2.1 c10)) (rv_extract rfl rfl) ?_
    refine st (v := (I r2.2.2)) (rv_extract rfl rfl) ?_
    refine st (v := (Sl a6 r2.1 c7)) (rv_assign rfl) ?_
    refine st (v := (Sl a9 r2.2.1 c10)) (rv_assign rfl) ?_
    refine st (v := (I r2.2.2)) (rv_assign rfl) ?_
    refine w_end ?_
    refine q_then ?_
    refine c_seq ?_
    refine rg ?_
    refine st (v := (Sl a6 r2.1 c7)) (rv_move rfl) ?_
    refine st (v := (Sl a9 r2.2.1 c10)) (rv_move rfl) ?_
    refine st (v := (I r2.2.2)) (rv_move rfl) ?_
    obtain ⟨σ13, hw14, m15, hR16⟩ := hO8.pub' (Nat.le_refl _)
    obtain ⟨σ17, hw18, m19, hR20⟩ := (hO11.mod' m15 (by first | exact hd12 | exact Df.re hd12)).pub' (Nat.le_refl _)
    rw [← (hw18.trans hw14)]
    obtain ⟨r21, hx22, h'⟩ := bind_some h
    clear h
    have h := h'; clear h'
    refine st_call (c_impl_MoveTo ((hR16.low (Nat.zero_le _)).mod m19) (hR20.low (Nat.zero_le _)) hx22) rfl ?_
    have hd28 := ltb_size hO8.ltb (hw18.trans hw14)
    have hd29 := ltb_size hO11.ltb (hw18.trans hw14)
    have hKs := size_le hK.size (hw18.trans hw14)
    rintro _ σ23 m24 ⟨a25, c26, rfl, hO27⟩
    obtain ⟨σ30, hw31, m32, hxl33, hvl34⟩ := lent (hw18.trans hw14) m24
    rw [← hw31]
    replace hO27 := hO27.lent (hw18.trans hw14) hw31 hxl33 hvl34 (Nat.le_refl _)
    replace hO8 := hO8.mod0 m32
    replace hO11 := hO11.mod0 m32
    replace hK := hK.none m32
    have hO27g := hO27.ge
    replace hO27 := hO27.lo hKs
    replace hO27 := hO27.low' hKs
    have hd35 := Df.ge hd28 hO27g
    have hd36 := Df.ge hd29 hO27g
    clear hKs m32 hO27g
    refine st (v := (Sl a25 r21 c26)) (rv_assign rfl) ?_
    refine w_end ?_
    refine q_then ?_
    refine c_seq ?_
    refine c_seq ?_
    obtain ⟨o37, hj, h'⟩ := bind_some h
    clear h
    refine c_cut (fun e a w => e = .normal ∧ ∃ (ρ : Nat → Value) (σ : St), a = fr 48 (updL ρ [(3, (Sl a6 r2.1 c7)), (4, (Sl a9 r2.2.1 c10)), (5, (I r2.2.2)), (6, (Sl a25 r21 c26)), (31, (B o37))]) ∧ w = σ.w ∧ Mod none σ0 σ ∧ Ow σ σ0.size σ0.size (Sl a6 r2.1 c7) r2.1 ∧ Ow σ σ0.size σ0.size (Sl a9 r2.2.1 c10) r2.2.1 ∧ Ow σ σ0.size σ0.size (Sl a25 r21 c26) r21 ∧ Df (blk (Sl a9 r2.2.1 c10)) (blk (Sl a6 r2.1 c7)) ∧ Df (blk (Sl a25 r21 c26)) (blk (Sl a6 r2.1 c7)) ∧ Df (blk (Sl a25 r21 c26)) (blk (Sl a9 r2.2.1 c10))) ?_ ?_
    · clear h'
      rename _ = some o37 => h
      refine rg ?_
      refine st (v := (Sl a25 r21 c26)) (rv_move rfl) ?_
      refine st (v := (Sl a6 r2.1 c7)) (rv_move rfl) ?_
      refine st (v := (Sl a9 r2.2.1 c10)) (rv_move rfl) ?_
      refine st (v := (I r2.2.2)) (rv_move rfl) ?_
      obtain ⟨σ38, hw39, m40, hR41⟩ := hO8.pub' (Nat.le_refl _)
      obtain ⟨σ42, hw43, m44, hR45⟩ := (hO11.mod' m40 (by first | exact hd12 | exact Df.re hd12)).pub' (Nat.le_refl _)
      rw [← (hw43.trans hw39)]
      obtain ⟨r46, hx47, h'⟩ := bind_some h
      clear h
      have h := h'; clear h'
      refine st_call (c_spec_MoveTo ((hR41.low (Nat.zero_le _)).mod m44) (hR45.low (Nat.zero_le _)) hx47) rfl ?_
      have hd53 := ltb_size hO8.ltb (hw43.trans hw39)
      have hd54 := ltb_size hO11.ltb (hw43.trans hw39)
      have hd55 := ltb_size hO27.ltb (hw43.trans hw39)
      have hKs := size_le hK.size (hw43.trans hw39)
      rintro _ σ48 m49 ⟨a50, c51, rfl, hO52⟩
      obtain ⟨σ56, hw57, m58, hxl59, hvl60⟩ := lent (hw43.trans hw39) m49
      rw [← hw57]
      replace hO52 := hO52.lent (hw43.trans hw39) hw57 hxl59 hvl60 (Nat.le_refl _)
      replace hO8 := hO8.mod0 m58
      replace hO11 := hO11.mod0 m58
      replace hO27 := hO27.mod0 m58
      replace hK := hK.none m58
      have hO52g := hO52.ge
      replace hO52 := hO52.lo hKs
      replace hO52 := hO52.low' hKs
      have hd61 := Df.ge hd53 hO52g
      have hd62 := Df.ge hd54 hO52g
      have hd63 := Df.ge hd55 hO52g
      clear hKs m58 hO52g
      obtain ⟨σ64, hw65, m66, hR67⟩ := hO27.pub' (Nat.le_refl _)
      obtain ⟨σ68, hw69, m70, hR71⟩ := (hO52.mod' m66 (by first | exact (hd63).symm | exact Df.re (hd63).symm)).pub' (Nat.le_refl _)
      rw [← (hw69.trans hw65)]
      obtain ⟨r72, hx73, h'⟩ := bind_some h
      clear h
      have h := h'; clear h'
      refine st_call (c_laws_equalInts ((hR67.low (Nat.zero_le _)).mod m70) (hR71.low (Nat.zero_le _)) hx73) rfl ?_
      have hd76 := ltb_size hO8.ltb (hw69.trans hw65)
      have hd77 := ltb_size hO11.ltb (hw69.trans hw65)
      have hd78 := ltb_size hO27.ltb (hw69.trans hw65)
      have hd79 := ltb_size hO52.ltb (hw69.trans hw65)
      have hKs := size_le hK.size (hw69.trans hw65)
      rintro _ σ74 m75 rfl
      obtain ⟨σ80, hw81, m82, hxl83, hvl84⟩ := lent (hw69.trans hw65) m75
      rw [← hw81]
      replace hO8 := hO8.mod0 m82
      replace hO11 := hO11.mod0 m82
      replace hO27 := hO27.mod0 m82
      replace hO52 := hO52.mod0 m82
      replace hK := hK.none m82
      clear hKs m82
      refine st (v := (B (!r72))) (rv_not rfl) ?_
      refine st (v := (B (!r72))) (rv_move rfl) ?_
      rcases Bool.eq_false_or_eq_true (!r72) with hb85 | hb85
      · replace h := bif_t hb85 h
        refine st_skip (congrArg some hb85) ?_
        refine st_skip (congrArg some hb85) ?_
        refine st_skip (congrArg some hb85) ?_
        refine st (v := (B true)) (rv_pick_t (congrArg B hb85) rfl) ?_
        refine w_end ?_
        obtain rfl := Option.some.inj h
        exact ⟨rfl, _, σ80, fr_join ⟨rfl, rfl, rfl, rfl, rfl, trivial⟩, rfl, hK, hO8, hO11, hO27, (by first | exact hd12 | exact Df.re hd12), (by first | exact (hd35).symm | exact Df.re (hd35).symm), (by first | exact (hd36).symm | exact Df.re (hd36).symm)⟩
      · replace h := bif_f hb85 h
        refine st_g (v := (Sl a25 r21 c26)) (congrArg some hb85) (rv_move rfl) ?_
        refine st_g (v := (I (r21.length : Int))) (congrArg some hb85) (rv_len Try.underlying24 rfl) ?_
        refine st_g (v := (B ((r21.length : Int) == 0))) (congrArg some hb85) (rv_eql (a := (r21.length : Int)) (b := 0) rfl rfl) ?_
        refine st (v := (B ((r21.length : Int) == 0))) (rv_pick_f (congrArg B hb85) rfl) ?_
        refine w_end ?_
        obtain rfl := Option.some.inj h
        exact ⟨rfl, _, σ80, fr_join ⟨rfl, rfl, rfl, rfl, rfl, trivial⟩, rfl, hK, hO8, hO11, hO27, (by first | exact hd12 | exact Df.re hd12), (by first | exact (hd35).symm | exact Df.re (hd35).symm), (by first | exact (hd36).symm | exact Df.re (hd36).symm)⟩
    · clear hj
      have h := h'
      clear h'
      rintro e a w ⟨rfl, ρ, σ86, rfl, rfl, hK, hO87, hO88, hO89, hd90, hd91, hd92⟩
      refine q_then ?_
      refine cd_cond o37 rfl (fun hb93 => ?_) (fun hb93 => ?_)
      · replace h := bif_t hb93 h
        refine c_seq ?_
        refine rg ?_
        refine st (v := (Sl a25 r21 c26)) (rv_move rfl) ?_
        refine st (v := (Sl a6 r2.1 c7)) (rv_move rfl) ?_
        refine st (v := (Sl a9 r2.2.1 c10)) (rv_move rfl) ?_
        refine st (v := (I r2.2.2)) (rv_move rfl) ?_
        have hg98 := hO87.ge
        obtain ⟨σ94, hw97, m95, hR96⟩ := hO87.pub' (Nat.le_refl _)
        rw [← hw97]; clear hw97
        replace hO89 := hO89.mod' m95 (by first | exact hd91 | exact Df.re hd91)
        replace hO88 := hO88.mod' m95 (by first | exact hd90 | exact Df.re hd90)
        replace hK := hK.own m95 hg98
        have hg103 := hO88.ge
        obtain ⟨σ99, hw102, m100, hR101⟩ := hO88.pub' (Nat.le_refl _)
        rw [← hw102]; clear hw102
        replace hO89 := hO89.mod' m100 (by first | exact hd92 | exact Df.re hd92)
        replace hR96 := hR96.mod m100
        replace hK := hK.own m100 hg103
        obtain ⟨r104, hx105, h'⟩ := bind_some h
        clear h
        have h := h'; clear h'
        refine st_call (c_spec_MoveTo (hR96.low (Nat.zero_le _)) (hR101.low (Nat.zero_le _)) hx105) rfl ?_
        have hd111 := hO89.ltb
        have hKs := hK.size
        rintro _ σ106 m107 ⟨a108, c109, rfl, hO110⟩
        replace hO89 := hO89.mod0 m107
        replace hR96 := hR96.mod m107
        replace hR101 := hR101.mod m107
        replace hK := hK.none m107
        have hO110g := hO110.ge
        replace hO110 := hO110.lo hKs
        replace hO110 := hO110.low' hKs
        have hd112 := Df.ge hd111 hO110g
        clear hKs m107 hO110g
        have hg117 := hO89.ge
        obtain ⟨σ113, hw116, m114, hR115⟩ := hO89.pub' (Nat.le_refl _)
        rw [← hw116]; clear hw116
        replace hO110 := hO110.mod' m114 (by first | exact (hd112).symm | exact Df.re (hd112).symm)
        replace hK := hK.own m114 hg117
        have hg122 := hO110.ge
        obtain ⟨σ118, hw121, m119, hR120⟩ := hO110.pub' (Nat.le_refl _)
        rw [← hw121]; clear hw121
        replace hR115 := hR115.mod m119
        replace hK := hK.own m119 hg122
        obtain ⟨r123, hx124, h'⟩ := bind_some h
        clear h
        have h := h'; clear h'
        refine st_call (c_laws_equalInts (hR115.low (Nat.zero_le _)) (hR120.low (Nat.zero_le _)) hx124) rfl ?_
        have hKs := hK.size
        rintro _ σ125 m126 rfl
        replace hR115 := hR115.mod m126
        replace hR120 := hR120.mod m126
        replace hK := hK.none m126
        clear hKs m126
        refine st (v := (B r123)) (rv_assign rfl) ?_
        refine w_end ?_
        refine q_then ?_
        refine c_ret ?_
        refine q_then_r ?_
        obtain rfl := Option.some.inj h
        exact bodyPost_ret (v := (B r123)) (results_fr1 Try.results12 rfl _) rfl ⟨_, σ125, rfl, rfl, hK, rfl⟩
      · replace h := bif_f hb93 h
        refine c_skip ?_
        refine q_then ?_
        refine c_seq ?_
        refine rg ?_
        refine st (v := (Sl a6 r2.1 c7)) (rv_move rfl) ?_
        refine st (v := (Sl a6 r2.1 c7)) (rv_move rfl) ?_
        refine st (v := (I r2.2.2)) (rv_move rfl) ?_
        obtain ⟨σ127, hw128, m129, hR130⟩ := hO87.pub' (Nat.le_refl _)
        rw [← hw128]
        obtain ⟨r131, hx132, h'⟩ := bind_some h
        clear h
        have h := h'; clear h'
        refine st_call (c_impl_MoveTo (hR130.low (Nat.zero_le _)) (hR130.low (Nat.zero_le _)) hx132) rfl ?_
        have hd138 := ltb_size hO87.ltb hw128
        have hd139 := ltb_size hO89.ltb hw128
        have hKs := size_le hK.size hw128
        rintro _ σ133 m134 ⟨a135, c136, rfl, hO137⟩
        obtain ⟨σ140, hw141, m142, hxl143, hvl144⟩ := lent hw128 m134
        rw [← hw141]
        replace hO137 := hO137.lent hw128 hw141 hxl143 hvl144 (Nat.le_refl _)
        replace hO87 := hO87.mod0 m142
        replace hO89 := hO89.mod0 m142
        replace hK := hK.none m142
        have hO137g := hO137.ge
        replace hO137 := hO137.lo hKs
        replace hO137 := hO137.low' hKs
        have hd145 := Df.ge hd138 hO137g
        have hd146 := Df.ge hd139 hO137g
        clear hKs m142 hO137g
        refine st (v := (Sl a6 r2.1 c7)) (rv_move rfl) ?_
        have hg151 := hO137.ge
        obtain ⟨σ147, hw150, m148, hR149⟩ := hO137.pub' (Nat.le_refl _)
        rw [← hw150]; clear hw150
        replace hO89 := hO89.mod' m148 (by first | exact hd146 | exact Df.re hd146)
        replace hO87 := hO87.mod' m148 (by first | exact hd145 | exact Df.re hd145)
        replace hK := hK.own m148 hg151
        have hg156 := hO87.ge
        obtain ⟨σ152, hw155, m153, hR154⟩ := hO87.pub' (Nat.le_refl _)
        rw [← hw155]; clear hw155
        replace hO89 := hO89.mod' m153 (by first | exact hd91 | exact Df.re hd91)
        replace hR149 := hR149.mod m153
        replace hK := hK.own m153 hg156
        obtain ⟨r157, hx158, h'⟩ := bind_some h
        clear h
        have h := h'; clear h'
        refine st_call (c_laws_equalInts (hR149.low (Nat.zero_le _)) (hR154.low (Nat.zero_le _)) hx158) rfl ?_
        have hd161 := hO89.ltb
        have hKs := hK.size
        rintro _ σ159 m160 rfl
        replace hO89 := hO89.mod0 m160
        replace hR149 := hR149.mod m160
        replace hR154 := hR154.mod m160
        replace hK := hK.none m160
        clear hKs m160
        refine st (v := (B r157)) (rv_move rfl) ?_
        rcases Bool.eq_false_or_eq_true r157 with hb162 | hb162
        · replace h := bif_t hb162 h
          refine st_g (v := (Sl a25 r21 c26)) (congrArg some hb162) (rv_move rfl) ?_
          have hg167 := hO89.ge
          obtain ⟨σ163, hw166, m164, hR165⟩ := hO89.pub' (Nat.le_refl _)
          rw [← hw166]; clear hw166
          replace hK := hK.own m164 hg167
          obtain ⟨r168, hx169, h'⟩ := bind_some h
          clear h
          have h := h'; clear h'
          refine st_call_g (by exact (congrArg some hb162)) (c_impl_ValidVector (hR165.low (Nat.zero_le _)) hx169) rfl ?_
          have hKs := hK.size
          rintro _ σ170 m171 rfl
          replace hR165 := hR165.mod m171
          replace hK := hK.none m171
          clear hKs m171
          refine st (v := (B r168)) (rv_pick_t (congrArg B hb162) rfl) ?_
          refine st (v := (B r168)) (rv_assign rfl) ?_
          refine w_end ?_
          refine q_then ?_
          refine c_ret ?_
          obtain rfl := Option.some.inj h
          exact bodyPost_ret (v := (B r168)) (results_fr1 Try.results12 rfl _) rfl ⟨_, σ170, rfl, rfl, hK, rfl⟩
        · replace h := bif_f hb162 h
          refine st_skip (congrArg some hb162) ?_
          refine st_skip (congrArg some hb162) ?_
          refine st (v := (B false)) (rv_pick_f (congrArg B hb162) rfl) ?_
          refine st (v := (B false)) (rv_assign rfl) ?_
          refine w_end ?_
          refine q_then ?_
          refine c_ret ?_
          obtain rfl := Option.some.inj h
          exact bodyPost_ret (v := (B false)) (results_fr1 Try.results12 rfl _) rfl ⟨_, σ159, rfl, rfl, hK, rfl⟩

end Go.Vs
