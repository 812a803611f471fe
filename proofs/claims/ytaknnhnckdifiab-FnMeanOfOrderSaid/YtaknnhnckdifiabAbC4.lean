/- The functions compute what their models say. -/
import Derived.Test.YtaknnhnckdifiabAbC3
set_option linter.unusedVariables false
set_option linter.unusedSimpArgs false
set_option maxRecDepth 20000
namespace Go.Vs
open Go Go.Proofs
attribute [local irreducible] Code.wp wpList wpQuiet Calls

theorem c_laws_FnDistanceShift {σ0 : St} {code_0 : List UInt8} {acode_0 : Option Addr} {ccode_0 : Nat} (hRcode_0 : RS 0 σ0 (Sl acode_0 code_0 ccode_0) code_0) {r : Bool} (h : M.laws_FnDistanceShift code_0 = some r) :
    Cal Try.prog 8 [(Sl acode_0 code_0 ccode_0)] none σ0 (fun v σ' => v = (B r)) := by
  refine ⟨⟨_, _, Try.func8, rfl, rfl⟩, ?_⟩
  refine enter (n := 83) Try.func8 rfl rfl rfl ?_
  unfold M.laws_FnDistanceShift at h
  have hK : Mod none σ0 σ0 := Mod.refl _ _
  refine c_seq ?_
  refine rg ?_
  refine st (v := (B false)) (rv_assign rfl) ?_
  refine w_end ?_
  refine q_then ?_
  refine c_seq ?_
  refine c_seq ?_
  refine rg ?_
  refine st (v := (Sl acode_0 code_0 ccode_0)) (rv_move rfl) ?_
  refine st (v := (I (code_0.length : Int))) (rv_len Try.underlying22 rfl) ?_
  refine st (v := (B (decide (1048576 < (code_0.length : Int))))) (rv_gtr (a := (code_0.length : Int)) (b := 1048576) rfl rfl) ?_
  refine w_end ?_
  refine q_then ?_
  refine cd_cond (decide (1048576 < (code_0.length : Int))) rfl (fun hb1 => ?_) (fun hb1 => ?_)
  · replace h := bif_t hb1 h
    refine c_seq ?_
    refine rg ?_
    refine st (v := (B true)) (rv_assign rfl) ?_
    refine w_end ?_
    refine q_then ?_
    refine c_ret ?_
    refine q_then_r ?_
    obtain rfl := Option.some.inj h
    exact bodyPost_ret (v := (B true)) (results_fr1 Try.results8 rfl _) rfl ⟨_, σ0, rfl, rfl, hK, rfl⟩
  · replace h := bif_f hb1 h
    refine c_skip ?_
    refine q_then ?_
    refine c_seq ?_
    refine rg ?_
    refine st (v := (Sl acode_0 code_0 ccode_0)) (rv_move rfl) ?_
    obtain ⟨r2, hx3, h'⟩ := bind_some h
    clear h
    have h := h'; clear h'
    refine st_call (c_spec_DrawDistance hRcode_0 hx3) rfl ?_
    have hKs := hK.size
    rintro _ σ4 m5 ⟨a6, c7, a9, c10, rfl, hO8, hO11, hd12⟩
    replace hRcode_0 := hRcode_0.mod m5
    replace hK := hK.none m5
    have hO8g := hO8.ge
    replace hO8 := hO8.lo hKs
    replace hO8 := hO8.low' hKs
    have hO11g := hO11.ge
    replace hO11 := hO11.lo hKs
    replace hO11 := hO11.low' hKs
    clear hKs m5 hO8g hO11g
    refine st (v := (.tuple #[(I r2.1), (Sl a6 r2.2.1 c7), (Sl a9 r2.2.2 c10)])) (rv_move rfl) ?_
    refine st (v := (I r2.1)) (rv_extract rfl rfl) ?_
    refine st (v := (Sl a6 r2.2.1 c7)) (rv_extract rfl rfl) ?_
    refine st (v := (Sl a9 r2.2.2 c10)) (rv_extract rfl rfl) ?_
    refine st (v := (I r2.1)) (rv_assign rfl) ?_
    refine st (v := (Sl a6 r2.2.1 c7)) (rv_assign rfl) ?_
    refine st (v := (Sl a9 r2.2.2 c10)) (rv_assign rfl) ?_
    refine w_end ?_
    refine q_then ?_
    refine c_seq ?_
    refine rg ?_
    refine st (v := (I r2.1)) (rv_move rfl) ?_
    refine st (v := (Sl a6 r2.2.1 c7)) (rv_move rfl) ?_
    refine st (v := (Sl a9 r2.2.2 c10)) (rv_move rfl) ?_
    obtain ⟨σ13, hw14, m15, hR16⟩ := hO8.pub' (Nat.le_refl _)
    obtain ⟨σ17, hw18, m19, hR20⟩ := (hO11.mod' m15 hd12).pub' (Nat.le_refl _)
    rw [← (hw18.trans hw14)]
    obtain ⟨r21, hx22, h'⟩ := bind_some h
    clear h
    have h := h'; clear h'
    refine st_call (c_impl_Distance ((hR16.low (Nat.zero_le _)).mod m19) (hR20.low (Nat.zero_le _)) hx22) rfl ?_
    have hd25 := ltb_size hO8.ltb (hw18.trans hw14)
    have hd26 := ltb_size hO11.ltb (hw18.trans hw14)
    have hKs := size_le hK.size (hw18.trans hw14)
    rintro _ σ23 m24 rfl
    obtain ⟨σ27, hw28, m29, hxl30, hvl31⟩ := lent (hw18.trans hw14) m24
    rw [← hw28]
    replace hO8 := hO8.mod0 m29
    replace hO11 := hO11.mod0 m29
    replace hK := hK.none m29
    clear hKs m29
    refine st (v := (I r21)) (rv_assign rfl) ?_
    refine w_end ?_
    refine q_then ?_
    refine c_seq ?_
    refine c_seq ?_
    obtain ⟨o32, hj, h'⟩ := bind_some h
    clear h
    refine c_cut (fun e a w => e = .normal ∧ ∃ (ρ : Nat → Value) (σ : St), a = fr 83 (updL ρ [(3, (I r2.1)), (4, (Sl a6 r2.2.1 c7)), (5, (Sl a9 r2.2.2 c10)), (6, (I r21)), (32, (B o32))]) ∧ w = σ.w ∧ Mod none σ0 σ ∧ Ow σ σ0.size σ0.size (Sl a6 r2.2.1 c7) r2.2.1 ∧ Ow σ σ0.size σ0.size (Sl a9 r2.2.2 c10) r2.2.2 ∧ Df (blk (Sl a9 r2.2.2 c10)) (blk (Sl a6 r2.2.1 c7))) ?_ ?_
    · clear h'
      rename _ = some o32 => h
      refine rg ?_
      refine st (v := (I r21)) (rv_move rfl) ?_
      refine st (v := (I r2.1)) (rv_move rfl) ?_
      refine st (v := (Sl a6 r2.2.1 c7)) (rv_move rfl) ?_
      refine st (v := (Sl a9 r2.2.2 c10)) (rv_move rfl) ?_
      obtain ⟨σ33, hw34, m35, hR36⟩ := hO8.pub' (Nat.le_refl _)
      obtain ⟨σ37, hw38, m39, hR40⟩ := (hO11.mod' m35 hd12).pub' (Nat.le_refl _)
      rw [← (hw38.trans hw34)]
      obtain ⟨r41, hx42, h'⟩ := bind_some h
      clear h
      have h := h'; clear h'
      refine st_call (c_spec_Distance ((hR36.low (Nat.zero_le _)).mod m39) (hR40.low (Nat.zero_le _)) hx42) rfl ?_
      have hd45 := ltb_size hO8.ltb (hw38.trans hw34)
      have hd46 := ltb_size hO11.ltb (hw38.trans hw34)
      have hKs := size_le hK.size (hw38.trans hw34)
      rintro _ σ43 m44 rfl
      obtain ⟨σ47, hw48, m49, hxl50, hvl51⟩ := lent (hw38.trans hw34) m44
      rw [← hw48]
      replace hO8 := hO8.mod0 m49
      replace hO11 := hO11.mod0 m49
      replace hK := hK.none m49
      clear hKs m49
      refine st (v := (B (r21 != r41))) (rv_neq (a := r21) (b := r41) rfl rfl) ?_
      refine st (v := (B (r21 != r41))) (rv_move rfl) ?_
      rcases Bool.eq_false_or_eq_true (r21 != r41) with hb52 | hb52
      · replace h := bif_t hb52 h
        refine st_skip (congrArg some hb52) ?_
        refine st_skip (congrArg some hb52) ?_
        refine st (v := (B true)) (rv_pick_t (congrArg B hb52) rfl) ?_
        refine w_end ?_
        obtain rfl := Option.some.inj h
        exact ⟨rfl, _, σ47, fr_join ⟨rfl, rfl, rfl, rfl, rfl, trivial⟩, rfl, hK, hO8, hO11, hd12⟩
      · replace h := bif_f hb52 h
        refine st_g (v := (I r21)) (congrArg some hb52) (rv_move rfl) ?_
        refine st_g (v := (B (decide (r21 < 0)))) (congrArg some hb52) (rv_lss (a := r21) (b := 0) rfl rfl) ?_
        refine st (v := (B (decide (r21 < 0)))) (rv_pick_f (congrArg B hb52) rfl) ?_
        refine w_end ?_
        obtain rfl := Option.some.inj h
        exact ⟨rfl, _, σ47, fr_join ⟨rfl, rfl, rfl, rfl, rfl, trivial⟩, rfl, hK, hO8, hO11, hd12⟩
    · clear hj
      have h := h'
      clear h'
      rintro e a w ⟨rfl, ρ, σ53, rfl, rfl, hK, hO54, hO55, hd56⟩
      refine q_then ?_
      refine cd_cond o32 rfl (fun hb57 => ?_) (fun hb57 => ?_)
      · replace h := bif_t hb57 h
        refine c_seq ?_
        refine rg ?_
        refine st (v := (I r21)) (rv_move rfl) ?_
        refine st (v := (I r2.1)) (rv_move rfl) ?_
        refine st (v := (Sl a6 r2.2.1 c7)) (rv_move rfl) ?_
        refine st (v := (Sl a9 r2.2.2 c10)) (rv_move rfl) ?_
        have hg62 := hO54.ge
        obtain ⟨σ58, hw61, m59, hR60⟩ := hO54.pub' (Nat.le_refl _)
        rw [← hw61]; clear hw61
        replace hO55 := hO55.mod' m59 hd56
        replace hK := hK.own m59 hg62
        have hg67 := hO55.ge
        obtain ⟨σ63, hw66, m64, hR65⟩ := hO55.pub' (Nat.le_refl _)
        rw [← hw66]; clear hw66
        replace hR60 := hR60.mod m64
        replace hK := hK.own m64 hg67
        obtain ⟨r68, hx69, h'⟩ := bind_some h
        clear h
        have h := h'; clear h'
        refine st_call (c_spec_Distance (hR60.low (Nat.zero_le _)) (hR65.low (Nat.zero_le _)) hx69) rfl ?_
        have hKs := hK.size
        rintro _ σ70 m71 rfl
        replace hR60 := hR60.mod m71
        replace hR65 := hR65.mod m71
        replace hK := hK.none m71
        clear hKs m71
        refine st (v := (B (r21 == r68))) (rv_eql (a := r21) (b := r68) rfl rfl) ?_
        refine st (v := (B (r21 == r68))) (rv_assign rfl) ?_
        refine w_end ?_
        refine q_then ?_
        refine c_ret ?_
        refine q_then_r ?_
        obtain rfl := Option.some.inj h
        exact bodyPost_ret (v := (B (r21 == r68))) (results_fr1 Try.results8 rfl _) rfl ⟨_, σ70, rfl, rfl, hK, rfl⟩
      · replace h := bif_f hb57 h
        refine c_skip ?_
        refine q_then ?_
        refine c_seq ?_
        refine rg ?_
        refine st_buildSlice (lo := σ0.size) (el := σ0.size) (xs := ([] : List Int)) (ps := []) (cs := []) Try.underlying24 ti3 rfl rfl (by kernel_rfl) (.nil) rfl ?_ hK.size (wanted_none _ rfl _)
        intro b73 σ74 hbn76 m75 hO72
        have hd77 := hO54.df' hbn76
        have hd78 := hO55.df' hbn76
        replace hO54 := hO54.mod0 m75
        replace hO55 := hO55.mod0 m75
        replace hK := hK.none m75
        clear hbn76 m75
        refine st (v := (Sl (some ⟨b73, 0, none⟩) ([] : List Int) 0)) (rv_assign rfl) ?_
        refine w_end ?_
        refine q_then ?_
        refine c_seq ?_
        refine rg ?_
        refine st_buildSlice (lo := σ0.size) (el := σ0.size) (xs := ([] : List Int)) (ps := []) (cs := []) Try.underlying24 ti3 rfl rfl (by kernel_rfl) (.nil) rfl ?_ hK.size (wanted_none _ rfl _)
        intro b80 σ81 hbn83 m82 hO79
        have hd84 := hO54.df' hbn83
        have hd85 := hO55.df' hbn83
        have hd86 := hO72.df' hbn83
        replace hO54 := hO54.mod0 m82
        replace hO55 := hO55.mod0 m82
        replace hO72 := hO72.mod0 m82
        replace hK := hK.none m82
        clear hbn83 m82
        refine st (v := (Sl (some ⟨b80, 0, none⟩) ([] : List Int) 0)) (rv_assign rfl) ?_
        refine w_end ?_
        refine q_then ?_
        refine c_seq ?_
        refine c_seq ?_
        refine rg ?_
        refine st (v := (I 0)) (rv_assign rfl) ?_
        refine w_end ?_
        refine q_then ?_
        obtain ⟨o87, hj, h'⟩ := bind_some h
        clear h
        refine c_cut (fun e a w => e = .normal ∧ ∃ (ρ : Nat → Value) (σ : St) (aj1 : Option Addr) (cj2 : Nat) (aj4 : Option Addr) (cj5 : Nat), a = fr 83 (updL ρ [(3, (I r2.1)), (6, (I r21)), (7, (Sl aj1 o87.1 cj2)), (8, (Sl aj4 o87.2 cj5))]) ∧ w = σ.w ∧ Mod none σ0 σ ∧ Ow σ σ0.size σ0.size (Sl aj1 o87.1 cj2) o87.1 ∧ Ow σ σ0.size σ0.size (Sl aj4 o87.2 cj5) o87.2 ∧ Df (blk (Sl aj4 o87.2 cj5)) (blk (Sl aj1 o87.1 cj2))) ?_ ?_
        · clear h'
          rename _ = some o87 => h
          refine c_blk ?_
          refine wp_loopM _ h (fun s88 a w => ∃ (ρ : Nat → Value) (σ : St) (aj3 : Option Addr) (cj4 : Nat) (aj6 : Option Addr) (cj7 : Nat), a = fr 83 (updL ρ [(3, (I r2.1)), (4, (Sl a6 r2.2.1 c7)), (5, (Sl a9 r2.2.2 c10)), (6, (I r21)), (7, (Sl aj3 s88.1 cj4)), (8, (Sl aj6 s88.2.1 cj7)), (9, (I s88.2.2))]) ∧ w = σ.w ∧ Mod none σ0 σ ∧ Ow σ σ0.size σ0.size (Sl a6 r2.2.1 c7) r2.2.1 ∧ Ow σ σ0.size σ0.size (Sl a9 r2.2.2 c10) r2.2.2 ∧ Ow σ σ0.size σ0.size (Sl aj3 s88.1 cj4) s88.1 ∧ Ow σ σ0.size σ0.size (Sl aj6 s88.2.1 cj7) s88.2.1 ∧ Df (blk (Sl a9 r2.2.2 c10)) (blk (Sl a6 r2.2.1 c7)) ∧ Df (blk (Sl aj3 s88.1 cj4)) (blk (Sl a6 r2.2.1 c7)) ∧ Df (blk (Sl aj3 s88.1 cj4)) (blk (Sl a9 r2.2.2 c10)) ∧ Df (blk (Sl aj6 s88.2.1 cj7)) (blk (Sl a6 r2.2.1 c7)) ∧ Df (blk (Sl aj6 s88.2.1 cj7)) (blk (Sl a9 r2.2.2 c10)) ∧ Df (blk (Sl aj6 s88.2.1 cj7)) (blk (Sl aj3 s88.1 cj4))) ⟨_, σ81, (some ⟨b73, 0, none⟩), 0, (some ⟨b80, 0, none⟩), 0, fr_join ⟨rfl, rfl, rfl, rfl, rfl, rfl, rfl, trivial⟩, rfl, hK, hO54, hO55, hO72, hO79, hd56, (hd77).symm, (hd78).symm, (hd84).symm, (hd85).symm, (hd86).symm⟩ ?_
          clear h
          rintro s88 a w o ⟨ρ, σ90, a93, c94, a96, c97, rfl, rfl, hK, hO91, hO92, hO95, hO98, hd99, hd100, hd101, hd102, hd103, hd104⟩ h hres
          refine c_seq ?_
          refine c_seq ?_
          refine rg ?_
          refine st (v := (I s88.2.2)) (rv_move rfl) ?_
          refine st (v := (Sl a6 r2.2.1 c7)) (rv_move rfl) ?_
          refine st (v := (I (r2.2.1.length : Int))) (rv_len Try.underlying24 rfl) ?_
          refine st (v := (B (decide (s88.2.2 < (r2.2.1.length : Int))))) (rv_lss (a := s88.2.2) (b := (r2.2.1.length : Int)) rfl rfl) ?_
          refine w_end ?_
          refine q_then ?_
          refine cd_cond (decide (s88.2.2 < (r2.2.1.length : Int))) rfl (fun hb105 => ?_) (fun hb105 => ?_)
          · replace h := bif_t hb105 h
            refine c_skip ?_
            refine q_then ?_
            refine c_seq ?_
            refine c_blk ?_
            refine c_seq ?_
            refine rg ?_
            refine st (v := (Sl a93 s88.1 c94)) (rv_move rfl) ?_
            refine st (v := (Sl a6 r2.2.1 c7)) (rv_move rfl) ?_
            refine st (v := (I s88.2.2)) (rv_move rfl) ?_
            obtain ⟨x106, hx107, h'⟩ := bind_some h
            clear h
            have h := h'; clear h'
            obtain ⟨b109, o110, hi108, -⟩ := hO91.ix hx107
            refine st (v := (pt b109 o110)) (rv_ix Try.underlying24 ti3 rfl rfl hi108) ?_
            refine st (v := (I x106)) (rv_load1 Try.underlying3 rfl rfl (hO91.at hx107 hi108).int) ?_
            refine st (v := (I s88.2.2)) (rv_move rfl) ?_
            refine st (v := (I (w64 (x106 + s88.2.2)))) (rv_add (a := x106) (b := s88.2.2) rfl rfl) ?_
            refine st (v := (I (w64 ((w64 (x106 + s88.2.2)) - 1)))) (rv_sub (a := (w64 (x106 + s88.2.2))) (b := 1) rfl rfl) ?_
            refine st_buildSlice (lo := σ0.size) (el := σ0.size) (xs := ([w64 ((w64 (x106 + s88.2.2)) - 1)] : List Int)) (ps := [(0, (I (w64 ((w64 (x106 + s88.2.2)) - 1))))]) (cs := [(I (w64 ((w64 (x106 + s88.2.2)) - 1)))]) Try.underlying24 ti3 rfl rfl (by kernel_rfl) (.cons (c := [(I (w64 ((w64 (x106 + s88.2.2)) - 1)))]) rfl (.nil)) rfl ?_ hK.size (wanted_none _ rfl _)
            intro b112 σ113 hbn115 m114 hO111
            have hd116 := hO91.df' hbn115
            have hd117 := hO92.df' hbn115
            have hd118 := hO98.df' hbn115
            have hd119 := hO95.df' hbn115
            replace hO91 := hO91.mod0 m114
            replace hO92 := hO92.mod0 m114
            replace hO98 := hO98.mod0 m114
            replace hO95 := hO95.mod0 m114
            replace hK := hK.none m114
            clear hbn115 m114
            obtain ⟨xs120, hx121, h'⟩ := bind_some h
            clear h
            have h := h'; clear h'
            have hg122 := hO95.ge
            refine st_append Try.underlying24 Try.underlying24 ti3 rfl rfl (by decide) hO95 hO111.rd hx121 hK.size rfl rfl ?_ (wanted_none _ rfl _)
            have hd129 := hO91.ltb
            have hd130 := hO92.ltb
            have hd131 := hO98.ltb
            intro a127 c128 σ123 m124 hO125 hq126
            replace hO91 := hO91.mod' m124 (hd100).symm
            replace hO92 := hO92.mod' m124 (hd101).symm
            replace hO98 := hO98.mod' m124 hd104
            replace hK := hK.own m124 hg122
            have hd132 := Df.app (hd100).symm hd129 hq126
            have hd133 := Df.app (hd101).symm hd130 hq126
            have hd134 := Df.app hd104 hd131 hq126
            clear hq126 m124
            refine st (v := (Sl a127 xs120 c128)) (rv_assign rfl) ?_
            refine w_end ?_
            refine q_then ?_
            refine rg ?_
            refine st (v := (Sl a96 s88.2.1 c97)) (rv_move rfl) ?_
            refine st (v := (Sl a9 r2.2.2 c10)) (rv_move rfl) ?_
            refine st (v := (I s88.2.2)) (rv_move rfl) ?_
            obtain ⟨x135, hx136, h'⟩ := bind_some h
            clear h
            have h := h'; clear h'
            obtain ⟨b138, o139, hi137, -⟩ := hO92.ix hx136
            refine st (v := (pt b138 o139)) (rv_ix Try.underlying24 ti3 rfl rfl hi137) ?_
            refine st (v := (I x135)) (rv_load1 Try.underlying3 rfl rfl (hO92.at hx136 hi137).int) ?_
            refine st (v := (I s88.2.2)) (rv_move rfl) ?_
            refine st (v := (I (w64 (x135 + s88.2.2)))) (rv_add (a := x135) (b := s88.2.2) rfl rfl) ?_
            refine st (v := (I (w64 ((w64 (x135 + s88.2.2)) - 1)))) (rv_sub (a := (w64 (x135 + s88.2.2))) (b := 1) rfl rfl) ?_
            refine st_buildSlice (lo := σ0.size) (el := σ0.size) (xs := ([w64 ((w64 (x135 + s88.2.2)) - 1)] : List Int)) (ps := [(0, (I (w64 ((w64 (x135 + s88.2.2)) - 1))))]) (cs := [(I (w64 ((w64 (x135 + s88.2.2)) - 1)))]) Try.underlying24 ti3 rfl rfl (by kernel_rfl) (.cons (c := [(I (w64 ((w64 (x135 + s88.2.2)) - 1)))]) rfl (.nil)) rfl ?_ hK.size (wanted_none _ rfl _)
            intro b141 σ142 hbn144 m143 hO140
            have hd145 := hO91.df' hbn144
            have hd146 := hO92.df' hbn144
            have hd147 := hO125.df' hbn144
            have hd148 := hO98.df' hbn144
            replace hO91 := hO91.mod0 m143
            replace hO92 := hO92.mod0 m143
            replace hO125 := hO125.mod0 m143
            replace hO98 := hO98.mod0 m143
            replace hK := hK.none m143
            clear hbn144 m143
            obtain ⟨xs149, hx150, h'⟩ := bind_some h
            clear h
            have h := h'; clear h'
            have hg151 := hO98.ge
            refine st_append Try.underlying24 Try.underlying24 ti3 rfl rfl (by decide) hO98 hO140.rd hx150 hK.size rfl rfl ?_ (wanted_none _ rfl _)
            have hd158 := hO91.ltb
            have hd159 := hO92.ltb
            have hd160 := hO125.ltb
            intro a156 c157 σ152 m153 hO154 hq155
            replace hO91 := hO91.mod' m153 (hd102).symm
            replace hO92 := hO92.mod' m153 (hd103).symm
            replace hO125 := hO125.mod' m153 (hd134).symm
            replace hK := hK.own m153 hg151
            have hd161 := Df.app (hd102).symm hd158 hq155
            have hd162 := Df.app (hd103).symm hd159 hq155
            have hd163 := Df.app (hd134).symm hd160 hq155
            clear hq155 m153
            refine st (v := (Sl a156 xs149 c157)) (rv_assign rfl) ?_
            refine w_end ?_
            refine q_blk ?_
            refine q_then ?_
            refine rg ?_
            refine st (v := (I s88.2.2)) (rv_move rfl) ?_
            refine st (v := (I (w64 (s88.2.2 + 1)))) (rv_add (a := s88.2.2) (b := 1) rfl rfl) ?_
            refine st (v := (I (w64 (s88.2.2 + 1)))) (rv_assign rfl) ?_
            refine w_end ?_
            refine q_then ?_
            obtain rfl := Option.some.inj h
            exact ⟨_, rfl, _, σ152, a127, c128, a156, c157, fr_join ⟨rfl, rfl, rfl, rfl, rfl, rfl, rfl, trivial⟩, rfl, hK, hO91, hO92, hO125, hO154, hd99, (hd132).symm, (hd133).symm, (hd161).symm, (hd162).symm, (hd163).symm⟩
          · replace h := bif_f hb105 h
            refine c_exit ?_
            refine q_then_x ?_
            refine q_then_x ?_
            refine q_blk_hit ?_
            obtain rfl := Option.some.inj h
            obtain rfl := hres _ rfl
            exact ⟨rfl, _, σ90, a93, c94, a96, c97, fr_join ⟨rfl, rfl, rfl, rfl, trivial⟩, rfl, hK, hO95, hO98, hd104⟩
        · clear hj
          have h := h'
          clear h'
          rintro e a w ⟨rfl, ρ, σ164, a165, c166, a168, c169, rfl, rfl, hK, hO167, hO170, hd171⟩
          refine q_then ?_
          refine c_seq ?_
          refine rg ?_
          refine st (v := (Sl a165 o87.1 c166)) (rv_move rfl) ?_
          obtain ⟨σ172, hw173, m174, hR175⟩ := hO167.pub' (Nat.le_refl _)
          rw [← hw173]
          obtain ⟨r176, hx177, h'⟩ := bind_some h
          clear h
          have h := h'; clear h'
          refine st_call (c_impl_ValidVector (hR175.low (Nat.zero_le _)) hx177) rfl ?_
          have hd180 := ltb_size hO167.ltb hw173
          have hd181 := ltb_size hO170.ltb hw173
          have hKs := size_le hK.size hw173
          rintro _ σ178 m179 rfl
          obtain ⟨σ182, hw183, m184, hxl185, hvl186⟩ := lent hw173 m179
          rw [← hw183]
          replace hO167 := hO167.mod0 m184
          replace hO170 := hO170.mod0 m184
          replace hK := hK.none m184
          clear hKs m184
          refine st (v := (B (!r176))) (rv_not rfl) ?_
          refine st (v := (B (!r176))) (rv_move rfl) ?_
          rcases Bool.eq_false_or_eq_true (!r176) with hb187 | hb187
          · replace h := bif_t hb187 h
            refine st_skip (congrArg some hb187) ?_
            refine st_skip (congrArg some hb187) ?_
            refine st_skip (congrArg some hb187) ?_
            refine st (v := (B true)) (rv_pick_t (congrArg B hb187) rfl) ?_
            refine st (v := (B true)) (rv_move rfl) ?_
            refine st_skip rfl ?_
            refine st_skip rfl ?_
            refine st_skip rfl ?_
            refine st_skip rfl ?_
            refine st_skip rfl ?_
            refine st_skip rfl ?_
            refine st (v := (B true)) (rv_pick_t rfl rfl) ?_
            refine st (v := (B true)) (rv_assign rfl) ?_
            refine w_end ?_
            refine q_then ?_
            refine c_ret ?_
            obtain rfl := Option.some.inj h
            exact bodyPost_ret (v := (B true)) (results_fr1 Try.results8 rfl _) rfl ⟨_, σ182, rfl, rfl, hK, rfl⟩
          · replace h := bif_f hb187 h
            refine st_g (v := (Sl a168 o87.2 c169)) (congrArg some hb187) (rv_move rfl) ?_
            obtain ⟨σ188, hw189, m190, hR191⟩ := hO170.pub' (Nat.le_refl _)
            rw [← hw189]
            obtain ⟨r192, hx193, h'⟩ := bind_some h
            clear h
            have h := h'; clear h'
            refine st_call_g (by exact (congrArg some hb187)) (c_impl_ValidVector (hR191.low (Nat.zero_le _)) hx193) rfl ?_
            have hd196 := ltb_size hO167.ltb hw189
            have hd197 := ltb_size hO170.ltb hw189
            have hKs := size_le hK.size hw189
            rintro _ σ194 m195 rfl
            obtain ⟨σ198, hw199, m200, hxl201, hvl202⟩ := lent hw189 m195
            rw [← hw199]
            replace hO167 := hO167.mod0 m200
            replace hO170 := hO170.mod0 m200
            replace hK := hK.none m200
            clear hKs m200
            refine st_g (v := (B (!r192))) (congrArg some hb187) (rv_not rfl) ?_
            refine st (v := (B (!r192))) (rv_pick_f (congrArg B hb187) rfl) ?_
            refine st (v := (B (!r192))) (rv_move rfl) ?_
            rcases Bool.eq_false_or_eq_true (!r192) with hb203 | hb203
            · replace h := bif_t hb203 h
              refine st_skip (congrArg some hb203) ?_
              refine st_skip (congrArg some hb203) ?_
              refine st_skip (congrArg some hb203) ?_
              refine st_skip (congrArg some hb203) ?_
              refine st_skip (congrArg some hb203) ?_
              refine st_skip (congrArg some hb203) ?_
              refine st (v := (B true)) (rv_pick_t (congrArg B hb203) rfl) ?_
              refine st (v := (B true)) (rv_assign rfl) ?_
              refine w_end ?_
              refine q_then ?_
              refine c_ret ?_
              obtain rfl := Option.some.inj h
              exact bodyPost_ret (v := (B true)) (results_fr1 Try.results8 rfl _) rfl ⟨_, σ198, rfl, rfl, hK, rfl⟩
            · replace h := bif_f hb203 h
              refine st_g (v := (I r2.1)) (congrArg some hb203) (rv_move rfl) ?_
              refine st_g (v := (Sl a165 o87.1 c166)) (congrArg some hb203) (rv_move rfl) ?_
              refine st_g (v := (Sl a168 o87.2 c169)) (congrArg some hb203) (rv_move rfl) ?_
              have hg208 := hO167.ge
              obtain ⟨σ204, hw207, m205, hR206⟩ := hO167.pub' (Nat.le_refl _)
              rw [← hw207]; clear hw207
              replace hO170 := hO170.mod' m205 hd171
              replace hK := hK.own m205 hg208
              have hg213 := hO170.ge
              obtain ⟨σ209, hw212, m210, hR211⟩ := hO170.pub' (Nat.le_refl _)
              rw [← hw212]; clear hw212
              replace hR206 := hR206.mod m210
              replace hK := hK.own m210 hg213
              obtain ⟨r214, hx215, h'⟩ := bind_some h
              clear h
              have h := h'; clear h'
              refine st_call_g (by exact (congrArg some hb203)) (c_impl_Distance (hR206.low (Nat.zero_le _)) (hR211.low (Nat.zero_le _)) hx215) rfl ?_
              have hKs := hK.size
              rintro _ σ216 m217 rfl
              replace hR206 := hR206.mod m217
              replace hR211 := hR211.mod m217
              replace hK := hK.none m217
              clear hKs m217
              refine st_g (v := (I r21)) (congrArg some hb203) (rv_move rfl) ?_
              refine st_g (v := (B (r214 == r21))) (congrArg some hb203) (rv_eql (a := r214) (b := r21) rfl rfl) ?_
              refine st (v := (B (r214 == r21))) (rv_pick_f (congrArg B hb203) rfl) ?_
              refine st (v := (B (r214 == r21))) (rv_assign rfl) ?_
              refine w_end ?_
              refine q_then ?_
              refine c_ret ?_
              obtain rfl := Option.some.inj h
              exact bodyPost_ret (v := (B (r214 == r21))) (results_fr1 Try.results8 rfl _) rfl ⟨_, σ216, rfl, rfl, hK, rfl⟩

theorem c_spec_DrawDotOf {σ0 : St} {code_0 : List UInt8} {acode_0 : Option Addr} {ccode_0 : Nat} (hRcode_0 : RS 0 σ0 (Sl acode_0 code_0 ccode_0) code_0) {r : (List Int) × (List Int)} (h : M.spec_DrawDotOf code_0 = some r) :
    Cal Try.prog 35 [(Sl acode_0 code_0 ccode_0)] none σ0 (fun v σ' => ∃ (a0 : Option Addr) (c0 : Nat), ∃ (a1 : Option Addr) (c1 : Nat), v = (.tuple #[(Sl a0 r.1 c0), (Sl a1 r.2 c1)]) ∧ Ow σ' σ0.size σ0.size (Sl a0 r.1 c0) r.1 ∧ Ow σ' σ0.size σ0.size (Sl a1 r.2 c1) r.2 ∧ Df (blk (Sl a1 r.2 c1)) (blk (Sl a0 r.1 c0))) := by
  refine ⟨⟨_, _, Try.func35, rfl, rfl⟩, ?_⟩
  refine enter (n := 13) Try.func35 rfl rfl rfl ?_
  unfold M.spec_DrawDotOf at h
  have hK : Mod none σ0 σ0 := Mod.refl _ _
  refine c_seq ?_
  refine rg ?_
  refine st (v := (.slice none 0 0)) (rv_assign rfl) ?_
  refine st (v := (.slice none 0 0)) (rv_assign rfl) ?_
  refine w_end ?_
  refine q_then ?_
  refine c_seq ?_
  refine rg ?_
  refine st (v := (Sl acode_0 code_0 ccode_0)) (rv_move rfl) ?_
  obtain ⟨r1, hx2, h'⟩ := bind_some h
  clear h
  have h := h'; clear h'
  refine st_call (c_spec_newReader hRcode_0 hx2) rfl ?_
  have hKs := hK.size
  rintro _ σ3 m4 ⟨b5, a8, c9, rfl, hR10, hge6, hB7⟩
  replace hRcode_0 := hRcode_0.mod m4
  replace hK := hK.none m4
  replace hge6 := Nat.le_trans hKs hge6
  clear hKs m4
  refine st (v := (pt b5 0)) (rv_assign rfl) ?_
  refine w_end ?_
  refine q_then ?_
  refine c_seq ?_
  refine rg ?_
  refine st (v := (pt b5 0)) (rv_move rfl) ?_
  obtain ⟨r11, hx12, h'⟩ := bind_some h
  clear h
  have h := h'; clear h'
  refine st_call (c_spec_anyVector hR10 hB7 hB7.lt hx12) rfl ?_
  have hd22 := hB7.ltb
  have hKs := hK.size
  rintro _ σ13 m14 ⟨a15, c16, a18, c19, rfl, hO17, hR20, hB21⟩
  replace hR10 := hR10.mod m14
  replace hK := hK.some m14 hge6
  have hO17g := hO17.ge
  replace hO17 := hO17.lo hKs
  replace hO17 := hO17.low' hKs
  have hd23 := Df.ge hd22 hO17g
  clear hKs m14 hO17g
  refine st (v := (Sl a15 r11.1 c16)) (rv_assign rfl) ?_
  refine w_end ?_
  refine q_then ?_
  refine c_seq ?_
  refine rg ?_
  refine st (v := (Sl a15 r11.1 c16)) (rv_move rfl) ?_
  refine st (v := (pt b5 0)) (rv_move rfl) ?_
  obtain ⟨r24, hx25, h'⟩ := bind_some h
  clear h
  have h := h'; clear h'
  refine st_call (c_spec_anyVector hR20 hB21 hB21.lt hx25) rfl ?_
  have hd35 := hO17.ltb
  have hd36 := hB21.ltb
  have hKs := hK.size
  rintro _ σ26 m27 ⟨a28, c29, a31, c32, rfl, hO30, hR33, hB34⟩
  replace hO17 := hO17.mod' m27 (hd23).symm
  replace hR20 := hR20.mod m27
  replace hK := hK.some m27 hge6
  have hO30g := hO30.ge
  replace hO30 := hO30.lo hKs
  replace hO30 := hO30.low' hKs
  have hd37 := Df.ge hd35 hO30g
  have hd38 := Df.ge hd36 hO30g
  clear hKs m27 hO30g
  refine st (v := (Sl a15 r11.1 c16)) (rv_assign rfl) ?_
  refine st (v := (Sl a28 r24.1 c29)) (rv_assign rfl) ?_
  refine w_end ?_
  refine q_then ?_
  refine c_ret ?_
  obtain rfl := Option.some.inj h
  exact bodyPost_ret (v := (.tuple #[(Sl a15 r11.1 c16), (Sl a28 r24.1 c29)])) (results_fr2 Try.results35 rfl rfl _) rfl ⟨_, σ26, rfl, rfl, hK, a15, c16, a28, c29, rfl, hO17, hO30, (hd37).symm⟩

theorem c_impl_DotOf {σ0 : St} {a_0 : List Int} {b_1 : List Int} {aa_0 : Option Addr} {ca_0 : Nat} (hRa_0 : RS 0 σ0 (Sl aa_0 a_0 ca_0) a_0) {ab_1 : Option Addr} {cb_1 : Nat} (hRb_1 : RS 0 σ0 (Sl ab_1 b_1 cb_1) b_1) {r : Int × Bool} (h : M.impl_DotOf a_0 b_1 = some r) :
    Cal Try.prog 36 [(Sl aa_0 a_0 ca_0), (Sl ab_1 b_1 cb_1)] none σ0 (fun v σ' => v = (.tuple #[(I r.1), (B r.2)])) := by
  refine ⟨⟨_, _, Try.func36, rfl, rfl⟩, ?_⟩
  refine enter (n := 32) Try.func36 rfl rfl rfl ?_
  unfold M.impl_DotOf at h
  have hK : Mod none σ0 σ0 := Mod.refl _ _
  refine c_seq ?_
  refine rg ?_
  refine st (v := (I 0)) (rv_assign rfl) ?_
  refine st (v := (B false)) (rv_assign rfl) ?_
  refine w_end ?_
  refine q_then ?_
  refine c_seq ?_
  refine c_seq ?_
  obtain ⟨o1, hj, h'⟩ := bind_some h
  clear h
  refine c_cut (fun e a w => e = .normal ∧ ∃ (ρ : Nat → Value) (σ : St), a = fr 32 (updL ρ [(0, (Sl aa_0 a_0 ca_0)), (1, (Sl ab_1 b_1 cb_1)), (15, (B o1))]) ∧ w = σ.w ∧ Mod none σ0 σ ∧ RS 0 σ (Sl aa_0 a_0 ca_0) a_0 ∧ RS 0 σ (Sl ab_1 b_1 cb_1) b_1) ?_ ?_
  · clear h'
    rename _ = some o1 => h
    refine rg ?_
    refine st (v := (Sl aa_0 a_0 ca_0)) (rv_move rfl) ?_
    obtain ⟨r2, hx3, h'⟩ := bind_some h
    clear h
    have h := h'; clear h'
    refine st_call (c_impl_ValidVector hRa_0 hx3) rfl ?_
    have hKs := hK.size
    rintro _ σ4 m5 rfl
    replace hRa_0 := hRa_0.mod m5
    replace hRb_1 := hRb_1.mod m5
    replace hK := hK.none m5
    clear hKs m5
    refine st (v := (B (!r2))) (rv_not rfl) ?_
    refine st (v := (B (!r2))) (rv_move rfl) ?_
    rcases Bool.eq_false_or_eq_true (!r2) with hb6 | hb6
    · replace h := bif_t hb6 h
      refine st_skip (congrArg some hb6) ?_
      refine st_skip (congrArg some hb6) ?_
      refine st_skip (congrArg some hb6) ?_
      refine st (v := (B true)) (rv_pick_t (congrArg B hb6) rfl) ?_
      refine w_end ?_
      obtain rfl := Option.some.inj h
      exact ⟨rfl, _, σ4, fr_join ⟨rfl, rfl, rfl, trivial⟩, rfl, hK, hRa_0, hRb_1⟩
    · replace h := bif_f hb6 h
      refine st_g (v := (Sl ab_1 b_1 cb_1)) (congrArg some hb6) (rv_move rfl) ?_
      obtain ⟨r7, hx8, h'⟩ := bind_some h
      clear h
      have h := h'; clear h'
      refine st_call_g (by exact (congrArg some hb6)) (c_impl_ValidVector hRb_1 hx8) rfl ?_
      have hKs := hK.size
      rintro _ σ9 m10 rfl
      replace hRa_0 := hRa_0.mod m10
      replace hRb_1 := hRb_1.mod m10
      replace hK := hK.none m10
      clear hKs m10
      refine st_g (v := (B (!r7))) (congrArg some hb6) (rv_not rfl) ?_
      refine st (v := (B (!r7))) (rv_pick_f (congrArg B hb6) rfl) ?_
      refine w_end ?_
      obtain rfl := Option.some.inj h
      exact ⟨rfl, _, σ9, fr_join ⟨rfl, rfl, rfl, trivial⟩, rfl, hK, hRa_0, hRb_1⟩
  · clear hj
    have h := h'
    clear h'
    rintro e a w ⟨rfl, ρ, σ11, rfl, rfl, hK, hR12, hR13⟩
    refine q_then ?_
    refine cd_cond o1 rfl (fun hb14 => ?_) (fun hb14 => ?_)
    · replace h := bif_t hb14 h
      refine c_seq ?_
      refine rg ?_
      refine st (v := (I 0)) (rv_assign rfl) ?_
      refine st (v := (B false)) (rv_assign rfl) ?_
      refine w_end ?_
      refine q_then ?_
      refine c_ret ?_
      refine q_then_r ?_
      obtain rfl := Option.some.inj h
      exact bodyPost_ret (v := (.tuple #[(I 0), (B false)])) (results_fr2 Try.results36 rfl rfl _) rfl ⟨_, σ11, rfl, rfl, hK, rfl⟩
    · replace h := bif_f hb14 h
      refine c_skip ?_
      refine q_then ?_
      refine c_seq ?_
      refine rg ?_
      refine st (v := (I 0)) (rv_assign rfl) ?_
      refine w_end ?_
      refine q_then ?_
      refine c_seq ?_
      refine c_seq ?_
      refine rg ?_
      refine st (v := (I 0)) (rv_move rfl) ?_
      refine w_end ?_
      refine q_then ?_
      obtain ⟨o15, hj, h'⟩ := bind_some h
      clear h
      refine c_cut (fun e a w => e = .normal ∧ ∃ (ρ : Nat → Value) (σ : St), a = fr 32 (updL ρ [(6, (I o15))]) ∧ w = σ.w ∧ Mod none σ0 σ) ?_ ?_
      · clear h'
        rename _ = some o15 => h
        refine c_blk ?_
        refine wp_loopM _ h (fun s16 a w => ∃ (ρ : Nat → Value) (σ : St), a = fr 32 (updL ρ [(0, (Sl aa_0 a_0 ca_0)), (1, (Sl ab_1 b_1 cb_1)), (6, (I s16.1)), (16, (I s16.2))]) ∧ w = σ.w ∧ Mod none σ0 σ ∧ RS 0 σ (Sl aa_0 a_0 ca_0) a_0 ∧ RS 0 σ (Sl ab_1 b_1 cb_1) b_1) ⟨_, σ11, fr_join ⟨rfl, rfl, rfl, rfl, trivial⟩, rfl, hK, hR12, hR13⟩ ?_
        clear h
        rintro s16 a w o ⟨ρ, σ18, rfl, rfl, hK, hR19, hR20⟩ h hres
        refine c_seq ?_
        refine rg ?_
        refine st (v := (B (decide (s16.2 < 4)))) (rv_lss (a := s16.2) (b := 4) rfl rfl) ?_
        refine w_end ?_
        refine q_then ?_
        refine c_seq ?_
        refine cd_cond (decide (s16.2 < 4)) rfl (fun hb21 => ?_) (fun hb21 => ?_)
        · replace h := bif_t hb21 h
          refine c_skip ?_
          refine q_then ?_
          refine c_seq ?_
          refine c_blk ?_
          refine c_seq ?_
          refine rg ?_
          refine st (v := (I s16.2)) (rv_move rfl) ?_
          refine st (v := (I s16.2)) (rv_assign rfl) ?_
          refine w_end ?_
          refine q_then ?_
          obtain ⟨x22, hx23, h'⟩ := bind_some h
          clear h
          have h := h'; clear h'
          obtain ⟨b25, o26, hi24, -⟩ := hR19.ix hx23
          obtain ⟨x27, hx28, h'⟩ := bind_some h
          clear h
          have h := h'; clear h'
          obtain ⟨b30, o31, hi29, -⟩ := hR20.ix hx28
          refine rg_monoL (σ := σ18) 10 [eqv (I s16.1), eqv (Sl aa_0 a_0 ca_0), eqv (I s16.2), eqv (pt b25 o26), eqv (I x22), eqv (Sl ab_1 b_1 cb_1), eqv (I s16.2), eqv (pt b30 o31), eqv (I x27), eqv (I (w64 (x22 * x27)))] (by kernel_rfl) (by kernel_rfl) (mono_cons mono_eqv (mono_cons mono_eqv (mono_cons mono_eqv (mono_cons mono_eqv (mono_cons mono_eqv (mono_cons mono_eqv (mono_cons mono_eqv (mono_cons mono_eqv (mono_cons mono_eqv (mono_cons mono_eqv (mono_nil))))))))))) ?_ ?_
          · refine all_cons (by
                intro ρ σm m hoff hdep
                have e6 : look 32 ρ 6 = (I s16.1) := look_off (hoff 6 rfl) rfl
                exact does_v (v := (I s16.1)) (wanted_none _ rfl _) (rv_move e6) rfl) ?_
            refine all_cons (by
                intro ρ σm m hoff hdep
                have e0 : look 32 ρ 0 = (Sl aa_0 a_0 ca_0) := look_off (hoff 0 rfl) rfl
                exact does_v (v := (Sl aa_0 a_0 ca_0)) (wanted_none _ rfl _) (rv_move e0) rfl) ?_
            refine all_cons (by
                intro ρ σm m hoff hdep
                have e7 : look 32 ρ 7 = (I s16.2) := look_off (hoff 7 rfl) rfl
                exact does_v (v := (I s16.2)) (wanted_none _ rfl _) (rv_move e7) rfl) ?_
            refine all_cons (by
                intro ρ σm m hoff hdep
                have e20 : look 32 ρ 20 = (Sl aa_0 a_0 ca_0) := hdep 1 rfl rfl 20 rfl
                have e21 : look 32 ρ 21 = (I s16.2) := hdep 2 rfl rfl 21 rfl
                exact does_v (v := (pt b25 o26)) (wanted_none _ rfl _) (rv_ix Try.underlying24 ti3 e20 e21 hi24) rfl) ?_
            refine all_cons (by
                intro ρ σm m hoff hdep
                have e22 : look 32 ρ 22 = (pt b25 o26) := hdep 3 rfl rfl 22 rfl
                replace hR19 := hR19.mod m
                exact does_v (v := (I x22)) (wanted_none _ rfl _) (rv_load1 Try.underlying3 rfl e22 (hR19.at hx23 hi24).int) rfl) ?_
            refine all_cons (by
                intro ρ σm m hoff hdep
                have e1 : look 32 ρ 1 = (Sl ab_1 b_1 cb_1) := look_off (hoff 1 rfl) rfl
                exact does_v (v := (Sl ab_1 b_1 cb_1)) (wanted_none _ rfl _) (rv_move e1) rfl) ?_
            refine all_cons (by
                intro ρ σm m hoff hdep
                have e7 : look 32 ρ 7 = (I s16.2) := look_off (hoff 7 rfl) rfl
                exact does_v (v := (I s16.2)) (wanted_none _ rfl _) (rv_move e7) rfl) ?_
            refine all_cons (by
                intro ρ σm m hoff hdep
                have e24 : look 32 ρ 24 = (Sl ab_1 b_1 cb_1) := hdep 5 rfl rfl 24 rfl
                have e25 : look 32 ρ 25 = (I s16.2) := hdep 6 rfl rfl 25 rfl
                exact does_v (v := (pt b30 o31)) (wanted_none _ rfl _) (rv_ix Try.underlying24 ti3 e24 e25 hi29) rfl) ?_
            refine all_cons (by
                intro ρ σm m hoff hdep
                have e26 : look 32 ρ 26 = (pt b30 o31) := hdep 7 rfl rfl 26 rfl
                replace hR20 := hR20.mod m
                exact does_v (v := (I x27)) (wanted_none _ rfl _) (rv_load1 Try.underlying3 rfl e26 (hR20.at hx28 hi29).int) rfl) ?_
            refine all_cons (by
                intro ρ σm m hoff hdep
                have e23 : look 32 ρ 23 = (I x22) := hdep 4 rfl rfl 23 rfl
                have e27 : look 32 ρ 27 = (I x27) := hdep 8 rfl rfl 27 rfl
                exact does_v (v := (I (w64 (x22 * x27)))) (wanted_none _ rfl _) (rv_mul (a := x22) (b := x27) e23 e27) rfl) ?_
            exact all_nil
          · intro ρ σ32 m hoff hrel
            have e0 : look 32 ρ 0 = (Sl aa_0 a_0 ca_0) := look_off (hoff 0 rfl) rfl
            have e1 : look 32 ρ 1 = (Sl ab_1 b_1 cb_1) := look_off (hoff 1 rfl) rfl
            have e16 : look 32 ρ 16 = (I s16.2) := look_off (hoff 16 rfl) rfl
            have e19 : look 32 ρ 19 = (I s16.1) := hrel 0 rfl 19 rfl
            have e28 : look 32 ρ 28 = (I (w64 (x22 * x27))) := hrel 9 rfl 28 rfl
            replace hR19 := hR19.mod m
            replace hR20 := hR20.mod m
            replace hK := hK.none m
            rw [fr_lookL (L := [(0, (Sl aa_0 a_0 ca_0)), (1, (Sl ab_1 b_1 cb_1)), (16, (I s16.2)), (19, (I s16.1)), (28, (I (w64 (x22 * x27))))]) ⟨e0, e1, e16, e19, e28, trivial⟩]
            clear hoff hrel m e0 e1 e16 e19 e28
            refine st (v := (I (w64 (s16.1 + (w64 (x22 * x27)))))) (rv_add (a := s16.1) (b := (w64 (x22 * x27))) rfl rfl) ?_
            refine st (v := (I (w64 (s16.1 + (w64 (x22 * x27)))))) (rv_assign rfl) ?_
            refine w_end ?_
            refine q_blk ?_
            refine q_then ?_
            refine rg ?_
            refine st (v := (I (w64 (s16.2 + 1)))) (rv_add (a := s16.2) (b := 1) rfl rfl) ?_
            refine st (v := (I (w64 (s16.2 + 1)))) (rv_move rfl) ?_
            refine w_end ?_
            refine q_then ?_
            obtain rfl := Option.some.inj h
            exact ⟨_, rfl, _, σ32, fr_join ⟨rfl, rfl, rfl, rfl, trivial⟩, rfl, hK, hR19, hR20⟩
        · replace h := bif_f hb21 h
          refine c_exit ?_
          refine q_then_x ?_
          refine q_then_x ?_
          refine q_blk_hit ?_
          obtain rfl := Option.some.inj h
          obtain rfl := hres _ rfl
          exact ⟨rfl, _, σ18, fr_join ⟨rfl, trivial⟩, rfl, hK⟩
      · clear hj
        have h := h'
        clear h'
        rintro e a w ⟨rfl, ρ, σ33, rfl, rfl, hK⟩
        refine q_then ?_
        refine c_seq ?_
        refine rg ?_
        refine st (v := (I o15)) (rv_move rfl) ?_
        refine st (v := (I o15)) (rv_assign rfl) ?_
        refine st (v := (B true)) (rv_assign rfl) ?_
        refine w_end ?_
        refine q_then ?_
        refine c_ret ?_
        obtain rfl := Option.some.inj h
        exact bodyPost_ret (v := (.tuple #[(I o15), (B true)])) (results_fr2 Try.results36 rfl rfl _) rfl ⟨_, σ33, rfl, rfl, hK, rfl⟩

theorem c_spec_DotOf {σ0 : St} {a_0 : List Int} {b_1 : List Int} {aa_0 : Option Addr} {ca_0 : Nat} (hRa_0 : RS 0 σ0 (Sl aa_0 a_0 ca_0) a_0) {ab_1 : Option Addr} {cb_1 : Nat} (hRb_1 : RS 0 σ0 (Sl ab_1 b_1 cb_1) b_1) {r : Int × Bool} (h : M.spec_DotOf a_0 b_1 = some r) :
    Cal Try.prog 37 [(Sl aa_0 a_0 ca_0), (Sl ab_1 b_1 cb_1)] none σ0 (fun v σ' => v = (.tuple #[(I r.1), (B r.2)])) := by
  refine ⟨⟨_, _, Try.func37, rfl, rfl⟩, ?_⟩
  refine enter (n := 34) Try.func37 rfl rfl rfl ?_
  unfold M.spec_DotOf at h
  have hK : Mod none σ0 σ0 := Mod.refl _ _
  refine c_seq ?_
  refine rg ?_
  refine st (v := (I 0)) (rv_assign rfl) ?_
  refine st (v := (B false)) (rv_assign rfl) ?_
  refine w_end ?_
  refine q_then ?_
  refine c_seq ?_
  refine rg ?_
  refine st (v := (I 0)) (rv_assign rfl) ?_
  refine w_end ?_
  refine q_then ?_
  refine c_seq ?_
  refine c_seq ?_
  obtain ⟨o1, hj, h'⟩ := bind_some h
  clear h
  refine c_cut (fun e a w => e = .normal ∧ ∃ (ρ : Nat → Value) (σ : St), a = fr 34 (updL ρ [(0, (Sl aa_0 a_0 ca_0)), (1, (Sl ab_1 b_1 cb_1)), (6, (I 0)), (15, (B o1))]) ∧ w = σ.w ∧ Mod none σ0 σ ∧ RS 0 σ (Sl aa_0 a_0 ca_0) a_0 ∧ RS 0 σ (Sl ab_1 b_1 cb_1) b_1) ?_ ?_
  · clear h'
    rename _ = some o1 => h
    refine rg ?_
    refine st (v := (Sl aa_0 a_0 ca_0)) (rv_move rfl) ?_
    obtain ⟨r2, hx3, h'⟩ := bind_some h
    clear h
    have h := h'; clear h'
    refine st_call (c_spec_isVector hRa_0 hx3) rfl ?_
    have hKs := hK.size
    rintro _ σ4 m5 rfl
    replace hRa_0 := hRa_0.mod m5
    replace hRb_1 := hRb_1.mod m5
    replace hK := hK.none m5
    clear hKs m5
    refine st (v := (B (!r2))) (rv_not rfl) ?_
    refine st (v := (B (!r2))) (rv_move rfl) ?_
    rcases Bool.eq_false_or_eq_true (!r2) with hb6 | hb6
    · replace h := bif_t hb6 h
      refine st_skip (congrArg some hb6) ?_
      refine st_skip (congrArg some hb6) ?_
      refine st_skip (congrArg some hb6) ?_
      refine st (v := (B true)) (rv_pick_t (congrArg B hb6) rfl) ?_
      refine w_end ?_
      obtain rfl := Option.some.inj h
      exact ⟨rfl, _, σ4, fr_join ⟨rfl, rfl, rfl, rfl, trivial⟩, rfl, hK, hRa_0, hRb_1⟩
    · replace h := bif_f hb6 h
      refine st_g (v := (Sl ab_1 b_1 cb_1)) (congrArg some hb6) (rv_move rfl) ?_
      obtain ⟨r7, hx8, h'⟩ := bind_some h
      clear h
      have h := h'; clear h'
      refine st_call_g (by exact (congrArg some hb6)) (c_spec_isVector hRb_1 hx8) rfl ?_
      have hKs := hK.size
      rintro _ σ9 m10 rfl
      replace hRa_0 := hRa_0.mod m10
      replace hRb_1 := hRb_1.mod m10
      replace hK := hK.none m10
      clear hKs m10
      refine st_g (v := (B (!r7))) (congrArg some hb6) (rv_not rfl) ?_
      refine st (v := (B (!r7))) (rv_pick_f (congrArg B hb6) rfl) ?_
      refine w_end ?_
      obtain rfl := Option.some.inj h
      exact ⟨rfl, _, σ9, fr_join ⟨rfl, rfl, rfl, rfl, trivial⟩, rfl, hK, hRa_0, hRb_1⟩
  · clear hj
    have h := h'
    clear h'
    rintro e a w ⟨rfl, ρ, σ11, rfl, rfl, hK, hR12, hR13⟩
    refine q_then ?_
    refine cd_cond o1 rfl (fun hb14 => ?_) (fun hb14 => ?_)
    · replace h := bif_t hb14 h
      refine c_seq ?_
      refine rg ?_
      refine st (v := (I 0)) (rv_assign rfl) ?_
      refine st (v := (B false)) (rv_assign rfl) ?_
      refine w_end ?_
      refine q_then ?_
      refine c_ret ?_
      refine q_then_r ?_
      obtain rfl := Option.some.inj h
      exact bodyPost_ret (v := (.tuple #[(I 0), (B false)])) (results_fr2 Try.results37 rfl rfl _) rfl ⟨_, σ11, rfl, rfl, hK, rfl⟩
    · replace h := bif_f hb14 h
      refine c_skip ?_
      refine q_then ?_
      refine c_seq ?_
      refine c_seq ?_
      refine rg ?_
      refine st (v := (I 0)) (rv_assign rfl) ?_
      refine w_end ?_
      refine q_then ?_
      obtain ⟨o15, hj, h'⟩ := bind_some h
      clear h
      refine c_cut (fun e a w => e = .normal ∧ ∃ (ρ : Nat → Value) (σ : St), a = fr 34 (updL ρ [(6, (I o15))]) ∧ w = σ.w ∧ Mod none σ0 σ) ?_ ?_
      · clear h'
        rename _ = some o15 => h
        refine c_blk ?_
        refine wp_loopM _ h (fun s16 a w => ∃ (ρ : Nat → Value) (σ : St), a = fr 34 (updL ρ [(0, (Sl aa_0 a_0 ca_0)), (1, (Sl ab_1 b_1 cb_1)), (6, (I s16.1)), (7, (I s16.2))]) ∧ w = σ.w ∧ Mod none σ0 σ ∧ RS 0 σ (Sl aa_0 a_0 ca_0) a_0 ∧ RS 0 σ (Sl ab_1 b_1 cb_1) b_1) ⟨_, σ11, fr_join ⟨rfl, rfl, rfl, rfl, trivial⟩, rfl, hK, hR12, hR13⟩ ?_
        clear h
        rintro s16 a w o ⟨ρ, σ18, rfl, rfl, hK, hR19, hR20⟩ h hres
        refine c_seq ?_
        refine c_seq ?_
        refine rg ?_
        refine st (v := (I s16.2)) (rv_move rfl) ?_
        refine st (v := (Sl aa_0 a_0 ca_0)) (rv_move rfl) ?_
        refine st (v := (I (a_0.length : Int))) (rv_len Try.underlying24 rfl) ?_
        refine st (v := (B (decide (s16.2 < (a_0.length : Int))))) (rv_lss (a := s16.2) (b := (a_0.length : Int)) rfl rfl) ?_
        refine w_end ?_
        refine q_then ?_
        refine cd_cond (decide (s16.2 < (a_0.length : Int))) rfl (fun hb21 => ?_) (fun hb21 => ?_)
        · replace h := bif_t hb21 h
          refine c_skip ?_
          refine q_then ?_
          refine c_seq ?_
          refine c_blk ?_
          obtain ⟨x22, hx23, h'⟩ := bind_some h
          clear h
          have h := h'; clear h'
          obtain ⟨b25, o26, hi24, -⟩ := hR19.ix hx23
          obtain ⟨x27, hx28, h'⟩ := bind_some h
          clear h
          have h := h'; clear h'
          obtain ⟨b30, o31, hi29, -⟩ := hR20.ix hx28
          refine rg_monoL (σ := σ18) 10 [eqv (I s16.1), eqv (Sl aa_0 a_0 ca_0), eqv (I s16.2), eqv (pt b25 o26), eqv (I x22), eqv (Sl ab_1 b_1 cb_1), eqv (I s16.2), eqv (pt b30 o31), eqv (I x27), eqv (I (w64 (x22 * x27)))] (by kernel_rfl) (by kernel_rfl) (mono_cons mono_eqv (mono_cons mono_eqv (mono_cons mono_eqv (mono_cons mono_eqv (mono_cons mono_eqv (mono_cons mono_eqv (mono_cons mono_eqv (mono_cons mono_eqv (mono_cons mono_eqv (mono_cons mono_eqv (mono_nil))))))))))) ?_ ?_
          · refine all_cons (by
                intro ρ σm m hoff hdep
                have e6 : look 34 ρ 6 = (I s16.1) := look_off (hoff 6 rfl) rfl
                exact does_v (v := (I s16.1)) (wanted_none _ rfl _) (rv_move e6) rfl) ?_
            refine all_cons (by
                intro ρ σm m hoff hdep
                have e0 : look 34 ρ 0 = (Sl aa_0 a_0 ca_0) := look_off (hoff 0 rfl) rfl
                exact does_v (v := (Sl aa_0 a_0 ca_0)) (wanted_none _ rfl _) (rv_move e0) rfl) ?_
            refine all_cons (by
                intro ρ σm m hoff hdep
                have e7 : look 34 ρ 7 = (I s16.2) := look_off (hoff 7 rfl) rfl
                exact does_v (v := (I s16.2)) (wanted_none _ rfl _) (rv_move e7) rfl) ?_
            refine all_cons (by
                intro ρ σm m hoff hdep
                have e23 : look 34 ρ 23 = (Sl aa_0 a_0 ca_0) := hdep 1 rfl rfl 23 rfl
                have e24 : look 34 ρ 24 = (I s16.2) := hdep 2 rfl rfl 24 rfl
                exact does_v (v := (pt b25 o26)) (wanted_none _ rfl _) (rv_ix Try.underlying24 ti3 e23 e24 hi24) rfl) ?_
            refine all_cons (by
                intro ρ σm m hoff hdep
                have e25 : look 34 ρ 25 = (pt b25 o26) := hdep 3 rfl rfl 25 rfl
                replace hR19 := hR19.mod m
                exact does_v (v := (I x22)) (wanted_none _ rfl _) (rv_load1 Try.underlying3 rfl e25 (hR19.at hx23 hi24).int) rfl) ?_
            refine all_cons (by
                intro ρ σm m hoff hdep
                have e1 : look 34 ρ 1 = (Sl ab_1 b_1 cb_1) := look_off (hoff 1 rfl) rfl
                exact does_v (v := (Sl ab_1 b_1 cb_1)) (wanted_none _ rfl _) (rv_move e1) rfl) ?_
            refine all_cons (by
                intro ρ σm m hoff hdep
                have e7 : look 34 ρ 7 = (I s16.2) := look_off (hoff 7 rfl) rfl
                exact does_v (v := (I s16.2)) (wanted_none _ rfl _) (rv_move e7) rfl) ?_
            refine all_cons (by
                intro ρ σm m hoff hdep
                have e27 : look 34 ρ 27 = (Sl ab_1 b_1 cb_1) := hdep 5 rfl rfl 27 rfl
                have e28 : look 34 ρ 28 = (I s16.2) := hdep 6 rfl rfl 28 rfl
                exact does_v (v := (pt b30 o31)) (wanted_none _ rfl _) (rv_ix Try.underlying24 ti3 e27 e28 hi29) rfl) ?_
            refine all_cons (by
                intro ρ σm m hoff hdep
                have e29 : look 34 ρ 29 = (pt b30 o31) := hdep 7 rfl rfl 29 rfl
                replace hR20 := hR20.mod m
                exact does_v (v := (I x27)) (wanted_none _ rfl _) (rv_load1 Try.underlying3 rfl e29 (hR20.at hx28 hi29).int) rfl) ?_
            refine all_cons (by
                intro ρ σm m hoff hdep
                have e26 : look 34 ρ 26 = (I x22) := hdep 4 rfl rfl 26 rfl
                have e30 : look 34 ρ 30 = (I x27) := hdep 8 rfl rfl 30 rfl
                exact does_v (v := (I (w64 (x22 * x27)))) (wanted_none _ rfl _) (rv_mul (a := x22) (b := x27) e26 e30) rfl) ?_
            exact all_nil
          · intro ρ σ32 m hoff hrel
            have e0 : look 34 ρ 0 = (Sl aa_0 a_0 ca_0) := look_off (hoff 0 rfl) rfl
            have e1 : look 34 ρ 1 = (Sl ab_1 b_1 cb_1) := look_off (hoff 1 rfl) rfl
            have e7 : look 34 ρ 7 = (I s16.2) := look_off (hoff 7 rfl) rfl
            have e22 : look 34 ρ 22 = (I s16.1) := hrel 0 rfl 22 rfl
            have e31 : look 34 ρ 31 = (I (w64 (x22 * x27))) := hrel 9 rfl 31 rfl
            replace hR19 := hR19.mod m
            replace hR20 := hR20.mod m
            replace hK := hK.none m
            rw [fr_lookL (L := [(0, (Sl aa_0 a_0 ca_0)), (1, (Sl ab_1 b_1 cb_1)), (7, (I s16.2)), (22, (I s16.1)), (31, (I (w64 (x22 * x27))))]) ⟨e0, e1, e7, e22, e31, trivial⟩]
            clear hoff hrel m e0 e1 e7 e22 e31
            refine st (v := (I (w64 (s16.1 + (w64 (x22 * x27)))))) (rv_add (a := s16.1) (b := (w64 (x22 * x27))) rfl rfl) ?_
            refine st (v := (I (w64 (s16.1 + (w64 (x22 * x27)))))) (rv_assign rfl) ?_
            refine w_end ?_
            refine q_blk ?_
            refine q_then ?_
            refine rg ?_
            refine st (v := (I s16.2)) (rv_move rfl) ?_
            refine st (v := (I (w64 (s16.2 + 1)))) (rv_add (a := s16.2) (b := 1) rfl rfl) ?_
            refine st (v := (I (w64 (s16.2 + 1)))) (rv_assign rfl) ?_
            refine w_end ?_
            refine q_then ?_
            obtain rfl := Option.some.inj h
            exact ⟨_, rfl, _, σ32, fr_join ⟨rfl, rfl, rfl, rfl, trivial⟩, rfl, hK, hR19, hR20⟩
        · replace h := bif_f hb21 h
          refine c_exit ?_
          refine q_then_x ?_
          refine q_then_x ?_
          refine q_blk_hit ?_
          obtain rfl := Option.some.inj h
          obtain rfl := hres _ rfl
          exact ⟨rfl, _, σ18, fr_join ⟨rfl, trivial⟩, rfl, hK⟩
      · clear hj
        have h := h'
        clear h'
        rintro e a w ⟨rfl, ρ, σ33, rfl, rfl, hK⟩
        refine q_then ?_
        refine c_seq ?_
        refine rg ?_
        refine st (v := (I o15)) (rv_move rfl) ?_
        refine st (v := (I o15)) (rv_assign rfl) ?_
        refine st (v := (B true)) (rv_assign rfl) ?_
        refine w_end ?_
        refine q_then ?_
        refine c_ret ?_
        obtain rfl := Option.some.inj h
        exact bodyPost_ret (v := (.tuple #[(I o15), (B true)])) (results_fr2 Try.results37 rfl rfl _) rfl ⟨_, σ33, rfl, rfl, hK, rfl⟩

theorem c_laws_FnDotOfZero {σ0 : St} {code_0 : List UInt8} {acode_0 : Option Addr} {ccode_0 : Nat} (hRcode_0 : RS 0 σ0 (Sl acode_0 code_0 ccode_0) code_0) {r : Bool} (h : M.laws_FnDotOfZero code_0 = some r) :
    Cal Try.prog 10 [(Sl acode_0 code_0 ccode_0)] none σ0 (fun v σ' => v = (B r)) := by
  refine ⟨⟨_, _, Try.func10, rfl, rfl⟩, ?_⟩
  refine enter (n := 96) Try.func10 rfl rfl rfl ?_
  unfold M.laws_FnDotOfZero at h
  have hK : Mod none σ0 σ0 := Mod.refl _ _
  refine c_seq ?_
  refine rg ?_
  refine st (v := (B false)) (rv_assign rfl) ?_
  refine w_end ?_
  refine q_then ?_
  refine c_seq ?_
  refine c_seq ?_
  refine rg ?_
  refine st (v := (Sl acode_0 code_0 ccode_0)) (rv_move rfl) ?_
  refine st (v := (I (code_0.length : Int))) (rv_len Try.underlying22 rfl) ?_
  refine st (v := (B (decide (1048576 < (code_0.length : Int))))) (rv_gtr (a := (code_0.length : Int)) (b := 1048576) rfl rfl) ?_
  refine w_end ?_
  refine q_then ?_
  refine cd_cond (decide (1048576 < (code_0.length : Int))) rfl (fun hb1 => ?_) (fun hb1 => ?_)
  · replace h := bif_t hb1 h
    refine c_seq ?_
    refine rg ?_
    refine st (v := (B true)) (rv_assign rfl) ?_
    refine w_end ?_
    refine q_then ?_
    refine c_ret ?_
    refine q_then_r ?_
    obtain rfl := Option.some.inj h
    exact bodyPost_ret (v := (B true)) (results_fr1 Try.results10 rfl _) rfl ⟨_, σ0, rfl, rfl, hK, rfl⟩
  · replace h := bif_f hb1 h
    refine c_skip ?_
    refine q_then ?_
    refine c_seq ?_
    refine rg ?_
    refine st (v := (Sl acode_0 code_0 ccode_0)) (rv_move rfl) ?_
    obtain ⟨r2, hx3, h'⟩ := bind_some h
    clear h
    have h := h'; clear h'
    refine st_call (c_spec_DrawDotOf hRcode_0 hx3) rfl ?_
    have hKs := hK.size
    rintro _ σ4 m5 ⟨a6, c7, a9, c10, rfl, hO8, hO11, hd12⟩
    replace hRcode_0 := hRcode_0.mod m5
    replace hK := hK.none m5
    have hO8g := hO8.ge
    replace hO8 := hO8.lo hKs
    replace hO8 := hO8.low' hKs
    have hO11g := hO11.ge
    replace hO11 := hO11.lo hKs
    replace hO11 := hO11.low' hKs
    clear hKs m5 hO8g hO11g
    refine st (v := (.tuple #[(Sl a6 r2.1 c7), (Sl a9 r2.2 c10)])) (rv_move rfl) ?_
    refine st (v := (Sl a6 r2.1 c7)) (rv_extract rfl rfl) ?_
    refine st (v := (Sl a9 r2.2 c10)) (rv_extract rfl rfl) ?_
    refine st (v := (Sl a6 r2.1 c7)) (rv_assign rfl) ?_
    refine st (v := (Sl a9 r2.2 c10)) (rv_assign rfl) ?_
    refine w_end ?_
    refine q_then ?_
    refine c_seq ?_
    refine rg ?_
    refine st (v := (Sl a6 r2.1 c7)) (rv_move rfl) ?_
    refine st (v := (Sl a9 r2.2 c10)) (rv_move rfl) ?_
    obtain ⟨σ13, hw14, m15, hR16⟩ := hO8.pub' (Nat.le_refl _)
    obtain ⟨σ17, hw18, m19, hR20⟩ := (hO11.mod' m15 hd12).pub' (Nat.le_refl _)
    rw [← (hw18.trans hw14)]
    obtain ⟨r21, hx22, h'⟩ := bind_some h
    clear h
    have h := h'; clear h'
    refine st_call (c_impl_DotOf ((hR16.low (Nat.zero_le _)).mod m19) (hR20.low (Nat.zero_le _)) hx22) rfl ?_
    have hd25 := ltb_size hO8.ltb (hw18.trans hw14)
    have hd26 := ltb_size hO11.ltb (hw18.trans hw14)
    have hKs := size_le hK.size (hw18.trans hw14)
    rintro _ σ23 m24 rfl
    obtain ⟨σ27, hw28, m29, hxl30, hvl31⟩ := lent (hw18.trans hw14) m24
    rw [← hw28]
    replace hO8 := hO8.mod0 m29
    replace hO11 := hO11.mod0 m29
    replace hK := hK.none m29
    clear hKs m29
    refine st (v := (.tuple #[(I r21.1), (B r21.2)])) (rv_move rfl) ?_
    refine st (v := (I r21.1)) (rv_extract rfl rfl) ?_
    refine st (v := (B r21.2)) (rv_extract rfl rfl) ?_
    refine st (v := (I r21.1)) (rv_assign rfl) ?_
    refine st (v := (B r21.2)) (rv_assign rfl) ?_
    refine w_end ?_
    refine q_then ?_
    refine c_seq ?_
    refine rg ?_
    refine st (v := (Sl a6 r2.1 c7)) (rv_move rfl) ?_
    refine st (v := (Sl a9 r2.2 c10)) (rv_move rfl) ?_
    obtain ⟨σ32, hw33, m34, hR35⟩ := hO8.pub' (Nat.le_refl _)
    obtain ⟨σ36, hw37, m38, hR39⟩ := (hO11.mod' m34 hd12).pub' (Nat.le_refl _)
    rw [← (hw37.trans hw33)]
    obtain ⟨r40, hx41, h'⟩ := bind_some h
    clear h
    have h := h'; clear h'
    refine st_call (c_spec_DotOf ((hR35.low (Nat.zero_le _)).mod m38) (hR39.low (Nat.zero_le _)) hx41) rfl ?_
    have hd44 := ltb_size hO8.ltb (hw37.trans hw33)
    have hd45 := ltb_size hO11.ltb (hw37.trans hw33)
    have hKs := size_le hK.size (hw37.trans hw33)
    rintro _ σ42 m43 rfl
    obtain ⟨σ46, hw47, m48, hxl49, hvl50⟩ := lent (hw37.trans hw33) m43
    rw [← hw47]
    replace hO8 := hO8.mod0 m48
    replace hO11 := hO11.mod0 m48
    replace hK := hK.none m48
    clear hKs m48
    refine st (v := (.tuple #[(I r40.1), (B r40.2)])) (rv_move rfl) ?_
    refine st (v := (I r40.1)) (rv_extract rfl rfl) ?_
    refine st (v := (B r40.2)) (rv_extract rfl rfl) ?_
    refine st (v := (I r40.1)) (rv_assign rfl) ?_
    refine st (v := (B r40.2)) (rv_assign rfl) ?_
    refine w_end ?_
    refine q_then ?_
    refine c_seq ?_
    refine c_seq ?_
    obtain ⟨o51, hj, h'⟩ := bind_some h
    clear h
    refine c_cut (fun e a w => e = .normal ∧ ∃ (ρ : Nat → Value) (σ : St), a = fr 96 (updL ρ [(3, (Sl a6 r2.1 c7)), (4, (Sl a9 r2.2 c10)), (5, (I r21.1)), (6, (B r21.2)), (7, (I r40.1)), (8, (B r40.2)), (46, (B o51))]) ∧ w = σ.w ∧ Mod none σ0 σ ∧ Ow σ σ0.size σ0.size (Sl a6 r2.1 c7) r2.1 ∧ Ow σ σ0.size σ0.size (Sl a9 r2.2 c10) r2.2 ∧ Df (blk (Sl a9 r2.2 c10)) (blk (Sl a6 r2.1 c7))) ?_ ?_
    · clear h'
      rename _ = some o51 => h
      refine rg ?_
      refine st (v := (I r21.1)) (rv_move rfl) ?_
      refine st (v := (I r40.1)) (rv_move rfl) ?_
      refine st (v := (B (r21.1 != r40.1))) (rv_neq (a := r21.1) (b := r40.1) rfl rfl) ?_
      refine st (v := (B (r21.1 != r40.1))) (rv_move rfl) ?_
      rcases Bool.eq_false_or_eq_true (r21.1 != r40.1) with hb52 | hb52
      · replace h := bif_t hb52 h
        refine st_skip (congrArg some hb52) ?_
        refine st_skip (congrArg some hb52) ?_
        refine st_skip (congrArg some hb52) ?_
        refine st (v := (B true)) (rv_pick_t (congrArg B hb52) rfl) ?_
        refine st (v := (B true)) (rv_move rfl) ?_
        refine st_skip rfl ?_
        refine st_skip rfl ?_
        refine st (v := (B true)) (rv_pick_t rfl rfl) ?_
        refine w_end ?_
        obtain rfl := Option.some.inj h
        exact ⟨rfl, _, σ46, fr_join ⟨rfl, rfl, rfl, rfl, rfl, rfl, rfl, trivial⟩, rfl, hK, hO8, hO11, hd12⟩
      · replace h := bif_f hb52 h
        refine st_g (v := (B r21.2)) (congrArg some hb52) (rv_move rfl) ?_
        refine st_g (v := (B r40.2)) (congrArg some hb52) (rv_move rfl) ?_
        refine st_g (v := (B (r21.2 != r40.2))) (congrArg some hb52) (rv_bneq Try.underlying4 rfl rfl) ?_
        refine st (v := (B (r21.2 != r40.2))) (rv_pick_f (congrArg B hb52) rfl) ?_
        refine st (v := (B (r21.2 != r40.2))) (rv_move rfl) ?_
        rcases Bool.eq_false_or_eq_true (r21.2 != r40.2) with hb53 | hb53
        · replace h := bif_t hb53 h
          refine st_skip (congrArg some hb53) ?_
          refine st_skip (congrArg some hb53) ?_
          refine st (v := (B true)) (rv_pick_t (congrArg B hb53) rfl) ?_
          refine w_end ?_
          obtain rfl := Option.some.inj h
          exact ⟨rfl, _, σ46, fr_join ⟨rfl, rfl, rfl, rfl, rfl, rfl, rfl, trivial⟩, rfl, hK, hO8, hO11, hd12⟩
        · replace h := bif_f hb53 h
          refine st_g (v := (B r21.2)) (congrArg some hb53) (rv_move rfl) ?_
          refine st_g (v := (B (!r21.2))) (congrArg some hb53) (rv_not rfl) ?_
          refine st (v := (B (!r21.2))) (rv_pick_f (congrArg B hb53) rfl) ?_
          refine w_end ?_
          obtain rfl := Option.some.inj h
          exact ⟨rfl, _, σ46, fr_join ⟨rfl, rfl, rfl, rfl, rfl, rfl, rfl, trivial⟩, rfl, hK, hO8, hO11, hd12⟩
    · clear hj
      have h := h'
      clear h'
      rintro e a w ⟨rfl, ρ, σ54, rfl, rfl, hK, hO55, hO56, hd57⟩
      refine q_then ?_
      refine cd_cond o51 rfl (fun hb58 => ?_) (fun hb58 => ?_)
      · replace h := bif_t hb58 h
        refine c_seq ?_
        refine rg ?_
        refine st (v := (I r21.1)) (rv_move rfl) ?_
        refine st (v := (I r40.1)) (rv_move rfl) ?_
        refine st (v := (B (r21.1 == r40.1))) (rv_eql (a := r21.1) (b := r40.1) rfl rfl) ?_
        refine st (v := (B (r21.1 == r40.1))) (rv_move rfl) ?_
        rcases Bool.eq_false_or_eq_true (r21.1 == r40.1) with hb59 | hb59
        · replace h := bif_t hb59 h
          refine st_g (v := (B r21.2)) (congrArg some hb59) (rv_move rfl) ?_
          refine st_g (v := (B r40.2)) (congrArg some hb59) (rv_move rfl) ?_
          refine st_g (v := (B (r21.2 == r40.2))) (congrArg some hb59) (rv_beql Try.underlying4 rfl rfl) ?_
          refine st (v := (B (r21.2 == r40.2))) (rv_pick_t (congrArg B hb59) rfl) ?_
          refine st (v := (B (r21.2 == r40.2))) (rv_assign rfl) ?_
          refine w_end ?_
          refine q_then ?_
          refine c_ret ?_
          refine q_then_r ?_
          obtain rfl := Option.some.inj h
          exact bodyPost_ret (v := (B (r21.2 == r40.2))) (results_fr1 Try.results10 rfl _) rfl ⟨_, σ54, rfl, rfl, hK, rfl⟩
        · replace h := bif_f hb59 h
          refine st_skip (congrArg some hb59) ?_
          refine st_skip (congrArg some hb59) ?_
          refine st_skip (congrArg some hb59) ?_
          refine st (v := (B false)) (rv_pick_f (congrArg B hb59) rfl) ?_
          refine st (v := (B false)) (rv_assign rfl) ?_
          refine w_end ?_
          refine q_then ?_
          refine c_ret ?_
          refine q_then_r ?_
          obtain rfl := Option.some.inj h
          exact bodyPost_ret (v := (B false)) (results_fr1 Try.results10 rfl _) rfl ⟨_, σ54, rfl, rfl, hK, rfl⟩
      · replace h := bif_f hb58 h
        refine c_skip ?_
        refine q_then ?_
        refine c_seq ?_
        refine rg ?_
        refine st_buildSlice (lo := σ0.size) (el := σ0.size) (xs := ([] : List Int)) (ps := []) (cs := []) Try.underlying24 ti3 rfl rfl (by kernel_rfl) (.nil) rfl ?_ hK.size (wanted_none _ rfl _)
        intro b61 σ62 hbn64 m63 hO60
        have hd65 := hO55.df' hbn64
        have hd66 := hO56.df' hbn64
        replace hO55 := hO55.mod0 m63
        replace hO56 := hO56.mod0 m63
        replace hK := hK.none m63
        clear hbn64 m63
        refine st (v := (Sl (some ⟨b61, 0, none⟩) ([] : List Int) 0)) (rv_assign rfl) ?_
        refine w_end ?_
        refine q_then ?_
        refine c_seq ?_
        refine c_seq ?_
        refine rg ?_
        refine st (v := (I 0)) (rv_assign rfl) ?_
        refine w_end ?_
        refine q_then ?_
        obtain ⟨o67, hj, h'⟩ := bind_some h
        clear h
        refine c_cut (fun e a w => e = .normal ∧ ∃ (ρ : Nat → Value) (σ : St) (aj2 : Option Addr) (cj3 : Nat), a = fr 96 (updL ρ [(3, (Sl a6 r2.1 c7)), (5, (I r21.1)), (9, (Sl aj2 o67 cj3))]) ∧ w = σ.w ∧ Mod none σ0 σ ∧ Ow σ σ0.size σ0.size (Sl a6 r2.1 c7) r2.1 ∧ Ow σ σ0.size σ0.size (Sl aj2 o67 cj3) o67 ∧ Df (blk (Sl aj2 o67 cj3)) (blk (Sl a6 r2.1 c7))) ?_ ?_
        · clear h'
          rename _ = some o67 => h
          refine c_blk ?_
          refine wp_loopM _ h (fun s68 a w => ∃ (ρ : Nat → Value) (σ : St) (aj3 : Option Addr) (cj4 : Nat), a = fr 96 (updL ρ [(3, (Sl a6 r2.1 c7)), (4, (Sl a9 r2.2 c10)), (5, (I r21.1)), (9, (Sl aj3 s68.1 cj4)), (10, (I s68.2))]) ∧ w = σ.w ∧ Mod none σ0 σ ∧ Ow σ σ0.size σ0.size (Sl a6 r2.1 c7) r2.1 ∧ Ow σ σ0.size σ0.size (Sl a9 r2.2 c10) r2.2 ∧ Ow σ σ0.size σ0.size (Sl aj3 s68.1 cj4) s68.1 ∧ Df (blk (Sl a9 r2.2 c10)) (blk (Sl a6 r2.1 c7)) ∧ Df (blk (Sl aj3 s68.1 cj4)) (blk (Sl a6 r2.1 c7)) ∧ Df (blk (Sl aj3 s68.1 cj4)) (blk (Sl a9 r2.2 c10))) ⟨_, σ62, (some ⟨b61, 0, none⟩), 0, fr_join ⟨rfl, rfl, rfl, rfl, rfl, trivial⟩, rfl, hK, hO55, hO56, hO60, hd57, (hd65).symm, (hd66).symm⟩ ?_
          clear h
          rintro s68 a w o ⟨ρ, σ70, a73, c74, rfl, rfl, hK, hO71, hO72, hO75, hd76, hd77, hd78⟩ h hres
          refine c_seq ?_
          refine c_seq ?_
          refine rg ?_
          refine st (v := (I s68.2)) (rv_move rfl) ?_
          refine st (v := (Sl a9 r2.2 c10)) (rv_move rfl) ?_
          refine st (v := (I (r2.2.length : Int))) (rv_len Try.underlying24 rfl) ?_
          refine st (v := (B (decide (s68.2 < (r2.2.length : Int))))) (rv_lss (a := s68.2) (b := (r2.2.length : Int)) rfl rfl) ?_
          refine w_end ?_
          refine q_then ?_
          refine cd_cond (decide (s68.2 < (r2.2.length : Int))) rfl (fun hb79 => ?_) (fun hb79 => ?_)
          · replace h := bif_t hb79 h
            refine c_skip ?_
            refine q_then ?_
            refine c_seq ?_
            refine c_blk ?_
            refine rg ?_
            refine st (v := (Sl a73 s68.1 c74)) (rv_move rfl) ?_
            refine st (v := (Sl a9 r2.2 c10)) (rv_move rfl) ?_
            refine st (v := (I s68.2)) (rv_move rfl) ?_
            obtain ⟨x80, hx81, h'⟩ := bind_some h
            clear h
            have h := h'; clear h'
            obtain ⟨b83, o84, hi82, -⟩ := hO72.ix hx81
            refine st (v := (pt b83 o84)) (rv_ix Try.underlying24 ti3 rfl rfl hi82) ?_
            refine st (v := (I x80)) (rv_load1 Try.underlying3 rfl rfl (hO72.at hx81 hi82).int) ?_
            refine st (v := (I (w64 (0 - x80)))) (rv_neg (a := x80) rfl) ?_
            refine st_buildSlice (lo := σ0.size) (el := σ0.size) (xs := ([w64 (0 - x80)] : List Int)) (ps := [(0, (I (w64 (0 - x80))))]) (cs := [(I (w64 (0 - x80)))]) Try.underlying24 ti3 rfl rfl (by kernel_rfl) (.cons (c := [(I (w64 (0 - x80)))]) rfl (.nil)) rfl ?_ hK.size (wanted_none _ rfl _)
            intro b86 σ87 hbn89 m88 hO85
            have hd90 := hO71.df' hbn89
            have hd91 := hO72.df' hbn89
            have hd92 := hO75.df' hbn89
            replace hO71 := hO71.mod0 m88
            replace hO72 := hO72.mod0 m88
            replace hO75 := hO75.mod0 m88
            replace hK := hK.none m88
            clear hbn89 m88
            obtain ⟨xs93, hx94, h'⟩ := bind_some h
            clear h
            have h := h'; clear h'
            have hg95 := hO75.ge
            refine st_append Try.underlying24 Try.underlying24 ti3 rfl rfl (by decide) hO75 hO85.rd hx94 hK.size rfl rfl ?_ (wanted_none _ rfl _)
            have hd102 := hO71.ltb
            have hd103 := hO72.ltb
            intro a100 c101 σ96 m97 hO98 hq99
            replace hO71 := hO71.mod' m97 (hd77).symm
            replace hO72 := hO72.mod' m97 (hd78).symm
            replace hK := hK.own m97 hg95
            have hd104 := Df.app (hd77).symm hd102 hq99
            have hd105 := Df.app (hd78).symm hd103 hq99
            clear hq99 m97
            refine st (v := (Sl a100 xs93 c101)) (rv_assign rfl) ?_
            refine w_end ?_
            refine q_blk ?_
            refine q_then ?_
            refine rg ?_
            refine st (v := (I s68.2)) (rv_move rfl) ?_
            refine st (v := (I (w64 (s68.2 + 1)))) (rv_add (a := s68.2) (b := 1) rfl rfl) ?_
            refine st (v := (I (w64 (s68.2 + 1)))) (rv_assign rfl) ?_
            refine w_end ?_
            refine q_then ?_
            obtain rfl := Option.some.inj h
            exact ⟨_, rfl, _, σ96, a100, c101, fr_join ⟨rfl, rfl, rfl, rfl, rfl, trivial⟩, rfl, hK, hO71, hO72, hO98, hd76, (hd104).symm, (hd105).symm⟩
          · replace h := bif_f hb79 h
            refine c_exit ?_
            refine q_then_x ?_
            refine q_then_x ?_
            refine q_blk_hit ?_
            obtain rfl := Option.some.inj h
            obtain rfl := hres _ rfl
            exact ⟨rfl, _, σ70, a73, c74, fr_join ⟨rfl, rfl, rfl, trivial⟩, rfl, hK, hO71, hO75, hd77⟩
        · clear hj
          have h := h'
          clear h'
          rintro e a w ⟨rfl, ρ, σ106, a108, c109, rfl, rfl, hK, hO107, hO110, hd111⟩
          refine q_then ?_
          refine c_seq ?_
          refine rg ?_
          refine st (v := (Sl a6 r2.1 c7)) (rv_move rfl) ?_
          obtain ⟨xs112, hx113, h'⟩ := bind_some h
          clear h
          have h := h'; clear h'
          refine st_make (lo := σ0.size) (el := σ0.size) (z0 := (0 : Int)) (zs := [(I 0)]) Try.underlying24 ti3 rfl rfl rfl (by decide) hx113 rfl rfl hK.size ?_ (wanted_none _ rfl _)
          intro b115 σ117 c116 hbn119 m118 hO114
          have hd120 := hO107.df' hbn119
          have hd121 := hO110.df' hbn119
          replace hO107 := hO107.mod0 m118
          replace hO110 := hO110.mod0 m118
          replace hK := hK.none m118
          clear hbn119 m118
          obtain ⟨σ122, hw123, m124, hR125⟩ := hO107.pub' (Nat.le_refl _)
          obtain ⟨σ126, hw127, m128, hR129⟩ := (hO114.mod' m124 (hd120).symm).pub' (Nat.le_refl _)
          rw [← (hw127.trans hw123)]
          obtain ⟨r130, hx131, h'⟩ := bind_some h
          clear h
          have h := h'; clear h'
          refine st_call (c_impl_DotOf ((hR125.low (Nat.zero_le _)).mod m128) (hR129.low (Nat.zero_le _)) hx131) rfl ?_
          have hd134 := ltb_size hO107.ltb (hw127.trans hw123)
          have hd135 := ltb_size hO110.ltb (hw127.trans hw123)
          have hd136 := ltb_size hO114.ltb (hw127.trans hw123)
          have hKs := size_le hK.size (hw127.trans hw123)
          rintro _ σ132 m133 rfl
          obtain ⟨σ137, hw138, m139, hxl140, hvl141⟩ := lent (hw127.trans hw123) m133
          rw [← hw138]
          replace hO107 := hO107.mod0 m139
          replace hO110 := hO110.mod0 m139
          replace hO114 := hO114.mod0 m139
          replace hK := hK.none m139
          clear hKs m139
          refine st (v := (.tuple #[(I r130.1), (B r130.2)])) (rv_move rfl) ?_
          refine st (v := (I r130.1)) (rv_extract rfl rfl) ?_
          refine st (v := (B r130.2)) (rv_extract rfl rfl) ?_
          refine st (v := (I r130.1)) (rv_assign rfl) ?_
          refine st (v := (B r130.2)) (rv_assign rfl) ?_
          refine w_end ?_
          refine q_then ?_
          refine c_seq ?_
          refine rg ?_
          refine st (v := (Sl a6 r2.1 c7)) (rv_move rfl) ?_
          refine st (v := (Sl a108 o67 c109)) (rv_move rfl) ?_
          have hg146 := hO107.ge
          obtain ⟨σ142, hw145, m143, hR144⟩ := hO107.pub' (Nat.le_refl _)
          rw [← hw145]; clear hw145
          replace hO110 := hO110.mod' m143 hd111
          replace hK := hK.own m143 hg146
          have hg151 := hO110.ge
          obtain ⟨σ147, hw150, m148, hR149⟩ := hO110.pub' (Nat.le_refl _)
          rw [← hw150]; clear hw150
          replace hR144 := hR144.mod m148
          replace hK := hK.own m148 hg151
          obtain ⟨r152, hx153, h'⟩ := bind_some h
          clear h
          have h := h'; clear h'
          refine st_call (c_impl_DotOf (hR144.low (Nat.zero_le _)) (hR149.low (Nat.zero_le _)) hx153) rfl ?_
          have hKs := hK.size
          rintro _ σ154 m155 rfl
          replace hR144 := hR144.mod m155
          replace hR149 := hR149.mod m155
          replace hK := hK.none m155
          clear hKs m155
          refine st (v := (.tuple #[(I r152.1), (B r152.2)])) (rv_move rfl) ?_
          refine st (v := (I r152.1)) (rv_extract rfl rfl) ?_
          refine st (v := (B r152.2)) (rv_extract rfl rfl) ?_
          refine st (v := (I r152.1)) (rv_assign rfl) ?_
          refine st (v := (B r152.2)) (rv_assign rfl) ?_
          refine w_end ?_
          refine q_then ?_
          refine c_seq ?_
          refine rg ?_
          refine st (v := (B r130.2)) (rv_move rfl) ?_
          refine st (v := (B r130.2)) (rv_move rfl) ?_
          rcases Bool.eq_false_or_eq_true r130.2 with hb156 | hb156
          · replace h := bif_t hb156 h
            refine st_g (v := (I r130.1)) (congrArg some hb156) (rv_move rfl) ?_
            refine st_g (v := (B (r130.1 == 0))) (congrArg some hb156) (rv_eql (a := r130.1) (b := 0) rfl rfl) ?_
            refine st (v := (B (r130.1 == 0))) (rv_pick_t (congrArg B hb156) rfl) ?_
            refine st (v := (B (r130.1 == 0))) (rv_move rfl) ?_
            rcases Bool.eq_false_or_eq_true (r130.1 == 0) with hb157 | hb157
            · replace h := bif_t hb157 h
              refine st_g (v := (B r152.2)) (congrArg some hb157) (rv_move rfl) ?_
              refine st (v := (B r152.2)) (rv_pick_t (congrArg B hb157) rfl) ?_
              refine st (v := (B r152.2)) (rv_move rfl) ?_
              rcases Bool.eq_false_or_eq_true r152.2 with hb158 | hb158
              · replace h := bif_t hb158 h
                refine st_g (v := (I r152.1)) (congrArg some hb158) (rv_move rfl) ?_
                refine st_g (v := (I r21.1)) (congrArg some hb158) (rv_move rfl) ?_
                refine st_g (v := (I (w64 (0 - r21.1)))) (congrArg some hb158) (rv_neg (a := r21.1) rfl) ?_
                refine st_g (v := (B (r152.1 == (w64 (0 - r21.1))))) (congrArg some hb158) (rv_eql (a := r152.1) (b := (w64 (0 - r21.1))) rfl rfl) ?_
                refine st (v := (B (r152.1 == (w64 (0 - r21.1))))) (rv_pick_t (congrArg B hb158) rfl) ?_
                refine st (v := (B (r152.1 == (w64 (0 - r21.1))))) (rv_assign rfl) ?_
                refine w_end ?_
                refine q_then ?_
                refine c_ret ?_
                obtain rfl := Option.some.inj h
                exact bodyPost_ret (v := (B (r152.1 == (w64 (0 - r21.1))))) (results_fr1 Try.results10 rfl _) rfl ⟨_, σ154, rfl, rfl, hK, rfl⟩
              · replace h := bif_f hb158 h
                refine st_skip (congrArg some hb158) ?_
                refine st_skip (congrArg some hb158) ?_
                refine st_skip (congrArg some hb158) ?_
                refine st_skip (congrArg some hb158) ?_
                refine st (v := (B false)) (rv_pick_f (congrArg B hb158) rfl) ?_
                refine st (v := (B false)) (rv_assign rfl) ?_
                refine w_end ?_
                refine q_then ?_
                refine c_ret ?_
                obtain rfl := Option.some.inj h
                exact bodyPost_ret (v := (B false)) (results_fr1 Try.results10 rfl _) rfl ⟨_, σ154, rfl, rfl, hK, rfl⟩
            · replace h := bif_f hb157 h
              refine st_skip (congrArg some hb157) ?_
              refine st (v := (B false)) (rv_pick_f (congrArg B hb157) rfl) ?_
              refine st (v := (B false)) (rv_move rfl) ?_
              refine st_skip rfl ?_
              refine st_skip rfl ?_
              refine st_skip rfl ?_
              refine st_skip rfl ?_
              refine st (v := (B false)) (rv_pick_f rfl rfl) ?_
              refine st (v := (B false)) (rv_assign rfl) ?_
              refine w_end ?_
              refine q_then ?_
              refine c_ret ?_
              obtain rfl := Option.some.inj h
              exact bodyPost_ret (v := (B false)) (results_fr1 Try.results10 rfl _) rfl ⟨_, σ154, rfl, rfl, hK, rfl⟩
          · replace h := bif_f hb156 h
            refine st_skip (congrArg some hb156) ?_
            refine st_skip (congrArg some hb156) ?_
            refine st (v := (B false)) (rv_pick_f (congrArg B hb156) rfl) ?_
            refine st (v := (B false)) (rv_move rfl) ?_
            refine st_skip rfl ?_
            refine st (v := (B false)) (rv_pick_f rfl rfl) ?_
            refine st (v := (B false)) (rv_move rfl) ?_
            refine st_skip rfl ?_
            refine st_skip rfl ?_
            refine st_skip rfl ?_
            refine st_skip rfl ?_
            refine st (v := (B false)) (rv_pick_f rfl rfl) ?_
            refine st (v := (B false)) (rv_assign rfl) ?_
            refine w_end ?_
            refine q_then ?_
            refine c_ret ?_
            obtain rfl := Option.some.inj h
            exact bodyPost_ret (v := (B false)) (results_fr1 Try.results10 rfl _) rfl ⟨_, σ154, rfl, rfl, hK, rfl⟩

theorem c_spec_DrawMeanOf {σ0 : St} {code_0 : List UInt8} {acode_0 : Option Addr} {ccode_0 : Nat} (hRcode_0 : RS 0 σ0 (Sl acode_0 code_0 ccode_0) code_0) {r : (List (List Int))} (h : M.spec_DrawMeanOf code_0 = some r) :
    Cal Try.prog 38 [(Sl acode_0 code_0 ccode_0)] none σ0 (fun v σ' => ∃ (a0 : Option Addr) (c0 : Nat), v = (Sl a0 r c0) ∧ Ow σ' σ0.size σ0.size (Sl a0 r c0) r) := by
  refine ⟨⟨_, _, Try.func38, rfl, rfl⟩, ?_⟩
  refine enter (n := 30) Try.func38 rfl rfl rfl ?_
  unfold M.spec_DrawMeanOf at h
  have hK : Mod none σ0 σ0 := Mod.refl _ _
  refine c_seq ?_
  refine rg ?_
  refine st (v := (.slice none 0 0)) (rv_assign rfl) ?_
  refine w_end ?_
  refine q_then ?_
  refine c_seq ?_
  refine rg ?_
  refine st (v := (Sl acode_0 code_0 ccode_0)) (rv_move rfl) ?_
  obtain ⟨r1, hx2, h'⟩ := bind_some h
  clear h
  have h := h'; clear h'
  refine st_call (c_spec_newReader hRcode_0 hx2) rfl ?_
  have hKs := hK.size
  rintro _ σ3 m4 ⟨b5, a8, c9, rfl, hR10, hge6, hB7⟩
  replace hRcode_0 := hRcode_0.mod m4
  replace hK := hK.none m4
  replace hge6 := Nat.le_trans hKs hge6
  clear hKs m4
  refine st (v := (pt b5 0)) (rv_assign rfl) ?_
  refine w_end ?_
  refine q_then ?_
  refine c_seq ?_
  refine rg ?_
  refine st_buildSlice (lo := σ0.size) (el := σ0.size) (xs := ([] : List (List Int))) (ps := []) (cs := []) Try.underlying52 ti24 rfl rfl (by kernel_rfl) (.nil) rfl ?_ hK.size (wanted_none _ rfl _)
  intro b12 σ13 hbn15 m14 hO11
  have hd16 := hB7.df' hbn15
  replace hR10 := hR10.mod m14
  replace hB7 := hB7.mod0 m14
  replace hK := hK.none m14
  clear hbn15 m14
  refine st (v := (Sl (some ⟨b12, 0, none⟩) ([] : List (List Int)) 0)) (rv_assign rfl) ?_
  refine w_end ?_
  refine q_then ?_
  refine c_seq ?_
  refine c_seq ?_
  refine rg ?_
  refine st (v := (pt b5 0)) (rv_move rfl) ?_
  refine st_buildSlice (lo := σ0.size) (el := σ0.size) (xs := ([3, 2, 4, 1, 0, 16, 17] : List Int)) (ps := [(0, (I 3)), (1, (I 2)), (2, (I 4)), (3, (I 1)), (4, (I 0)), (5, (I 16)), (6, (I 17))]) (cs := [(I 3), (I 2), (I 4), (I 1), (I 0), (I 16), (I 17)]) Try.underlying24 ti3 rfl rfl (by kernel_rfl) (.cons (c := [(I 3)]) rfl (.cons (c := [(I 2)]) rfl (.cons (c := [(I 4)]) rfl (.cons (c := [(I 1)]) rfl (.cons (c := [(I 0)]) rfl (.cons (c := [(I 16)]) rfl (.cons (c := [(I 17)]) rfl (.nil)))))))) rfl ?_ hK.size (wanted_none _ rfl _)
  intro b18 σ19 hbn21 m20 hO17
  have hd22 := hO11.df' hbn21
  have hd23 := hB7.df' hbn21
  replace hR10 := hR10.mod m20
  replace hO11 := hO11.mod0 m20
  replace hB7 := hB7.mod0 m20
  replace hK := hK.none m20
  clear hbn21 m20
  have hg28 := hO17.ge
  obtain ⟨σ24, hw27, m25, hR26⟩ := hO17.pub' (Nat.le_refl _)
  rw [← hw27]; clear hw27
  replace hR10 := hR10.mod m25
  replace hO11 := hO11.mod' m25 hd22
  replace hB7 := hB7.mod' m25 hd23
  replace hK := hK.own m25 hg28
  obtain ⟨r29, hx30, h'⟩ := bind_some h
  clear h
  have h := h'; clear h'
  refine st_call (c_spec_reader_one hR10 hB7 hB7.lt (hR26.low (Nat.zero_le _)) hx30) rfl ?_
  have hd37 := hO11.ltb
  have hd38 := hB7.ltb
  have hKs := hK.size
  rintro _ σ31 m32 ⟨a33, c34, rfl, hR35, hB36⟩
  replace hR10 := hR10.mod m32
  replace hO11 := hO11.mod' m32 (hd16).symm
  replace hR26 := hR26.mod m32
  replace hK := hK.some m32 hge6
  clear hKs m32
  refine st (v := (I r29.1)) (rv_assign rfl) ?_
  refine w_end ?_
  refine q_then ?_
  obtain ⟨o39, hj, h'⟩ := bind_some h
  clear h
  refine c_cut (fun e a w => e = .normal ∧ ∃ (ρ : Nat → Value) (σ : St) (aj1 : Option Addr) (cj2 : Nat) (aj5 : Option Addr) (cj6 : Nat), a = fr 30 (updL ρ [(3, (pt b5 0)), (4, (Sl aj5 o39.2 cj6))]) ∧ w = σ.w ∧ Mod none σ0 σ ∧ RS 0 σ (Sl aj1 o39.1.1 cj2) o39.1.1 ∧ Bx σ b5 [(Sl aj1 o39.1.1 cj2), (I o39.1.2)] ∧ Ow σ σ0.size σ0.size (Sl aj5 o39.2 cj6) o39.2 ∧ Df (blk (Sl aj5 o39.2 cj6)) (some b5)) ?_ ?_
  · clear h'
    rename _ = some o39 => h
    refine c_blk ?_
    refine wp_loopM _ h (fun s40 a w => ∃ (ρ : Nat → Value) (σ : St) (aj1 : Option Addr) (cj2 : Nat) (aj5 : Option Addr) (cj6 : Nat), a = fr 30 (updL ρ [(3, (pt b5 0)), (4, (Sl aj5 s40.2.1 cj6)), (5, (I s40.2.2))]) ∧ w = σ.w ∧ Mod none σ0 σ ∧ RS 0 σ (Sl aj1 s40.1.1 cj2) s40.1.1 ∧ Bx σ b5 [(Sl aj1 s40.1.1 cj2), (I s40.1.2)] ∧ Ow σ σ0.size σ0.size (Sl aj5 s40.2.1 cj6) s40.2.1 ∧ Df (blk (Sl aj5 s40.2.1 cj6)) (some b5)) ⟨_, σ31, a33, c34, (some ⟨b12, 0, none⟩), 0, fr_join ⟨rfl, rfl, rfl, trivial⟩, rfl, hK, hR35, hB36, hO11, (hd16).symm⟩ ?_
    clear h
    rintro s40 a w o ⟨ρ, σ42, a43, c44, a47, c48, rfl, rfl, hK, hR45, hB46, hO49, hd50⟩ h hres
    refine c_seq ?_
    refine c_seq ?_
    refine rg ?_
    refine st (v := (I s40.2.2)) (rv_move rfl) ?_
    refine st (v := (B (decide (0 < s40.2.2)))) (rv_gtr (a := s40.2.2) (b := 0) rfl rfl) ?_
    refine w_end ?_
    refine q_then ?_
    refine cd_cond (decide (0 < s40.2.2)) rfl (fun hb51 => ?_) (fun hb51 => ?_)
    · replace h := bif_t hb51 h
      refine c_skip ?_
      refine q_then ?_
      refine c_seq ?_
      refine c_blk ?_
      refine rg ?_
      refine st (v := (Sl a47 s40.2.1 c48)) (rv_move rfl) ?_
      refine st (v := (pt b5 0)) (rv_move rfl) ?_
      obtain ⟨r52, hx53, h'⟩ := bind_some h
      clear h
      have h := h'; clear h'
      refine st_call (c_spec_someVector hR45 hB46 hB46.lt hx53) rfl ?_
      have hd63 := hO49.ltb
      have hd64 := hB46.ltb
      have hKs := hK.size
      rintro _ σ54 m55 ⟨a56, c57, a59, c60, rfl, hO58, hR61, hB62⟩
      replace hR45 := hR45.mod m55
      replace hO49 := hO49.mod' m55 hd50
      replace hK := hK.some m55 hge6
      have hO58g := hO58.ge
      replace hO58 := hO58.lo hKs
      replace hO58 := hO58.low' hKs
      have hd65 := Df.ge hd63 hO58g
      have hd66 := Df.ge hd64 hO58g
      clear hKs m55 hO58g
      have hg71 := hO58.ge
      obtain ⟨σ67, hw70, m68, hR69⟩ := hO58.pub' (Nat.le_refl _)
      rw [← hw70]; clear hw70
      replace hR61 := hR61.mod m68
      replace hO49 := hO49.mod' m68 hd65
      replace hB62 := hB62.mod' m68 hd66
      replace hK := hK.own m68 hg71
      refine st_buildSlice (lo := σ0.size) (el := σ0.size) (xs := ([r52.1] : List (List Int))) (ps := [(0, (Sl a56 r52.1 c57))]) (cs := [(Sl a56 r52.1 c57)]) Try.underlying52 ti24 rfl rfl (by kernel_rfl) (.cons (c := [(Sl a56 r52.1 c57)]) ⟨_, rfl, hR69⟩ (.nil)) rfl ?_ hK.size (wanted_none _ rfl _)
      intro b73 σ74 hbn76 m75 hO72
      have hd77 := hO49.df' hbn76
      have hd78 := hB62.df' hbn76
      replace hR61 := hR61.mod m75
      replace hO49 := hO49.mod0 m75
      replace hR69 := hR69.mod m75
      replace hB62 := hB62.mod0 m75
      replace hK := hK.none m75
      clear hbn76 m75
      obtain ⟨xs79, hx80, h'⟩ := bind_some h
      clear h
      have h := h'; clear h'
      have hg81 := hO49.ge
      refine st_append Try.underlying52 Try.underlying52 ti24 rfl rfl (by decide) hO49 hO72.rd hx80 hK.size rfl rfl ?_ (wanted_none _ rfl _)
      have hd88 := hB62.ltb
      intro a86 c87 σ82 m83 hO84 hq85
      replace hR61 := hR61.mod m83
      replace hB62 := hB62.mod' m83 (hd50).symm
      replace hK := hK.own m83 hg81
      have hd89 := Df.app (hd50).symm hd88 hq85
      clear hq85 m83
      refine st (v := (Sl a86 xs79 c87)) (rv_assign rfl) ?_
      refine w_end ?_
      refine q_blk ?_
      refine q_then ?_
      refine rg ?_
      refine st (v := (I s40.2.2)) (rv_move rfl) ?_
      refine st (v := (I (w64 (s40.2.2 - 1)))) (rv_sub (a := s40.2.2) (b := 1) rfl rfl) ?_
      refine st (v := (I (w64 (s40.2.2 - 1)))) (rv_assign rfl) ?_
      refine w_end ?_
      refine q_then ?_
      obtain rfl := Option.some.inj h
      exact ⟨_, rfl, _, σ82, a59, c60, a86, c87, fr_join ⟨rfl, rfl, rfl, trivial⟩, rfl, hK, hR61, hB62, hO84, (hd89).symm⟩
    · replace h := bif_f hb51 h
      refine c_exit ?_
      refine q_then_x ?_
      refine q_then_x ?_
      refine q_blk_hit ?_
      obtain rfl := Option.some.inj h
      obtain rfl := hres _ rfl
      exact ⟨rfl, _, σ42, a43, c44, a47, c48, fr_join ⟨rfl, rfl, trivial⟩, rfl, hK, hR45, hB46, hO49, hd50⟩
  · clear hj
    have h := h'
    clear h'
    rintro e a w ⟨rfl, ρ, σ90, a91, c92, a95, c96, rfl, rfl, hK, hR93, hB94, hO97, hd98⟩
    refine q_then ?_
    refine c_seq ?_
    refine c_seq ?_
    refine rg ?_
    refine st (v := (pt b5 0)) (rv_move rfl) ?_
    obtain ⟨r99, hx100, h'⟩ := bind_some h
    clear h
    have h := h'; clear h'
    refine st_call (c_spec_reader_pick hR93 hB94 hB94.lt hx100) rfl ?_
    have hd107 := hO97.ltb
    have hd108 := hB94.ltb
    have hKs := hK.size
    rintro _ σ101 m102 ⟨a103, c104, rfl, hR105, hB106⟩
    replace hR93 := hR93.mod m102
    replace hO97 := hO97.mod' m102 hd98
    replace hK := hK.some m102 hge6
    clear hKs m102
    refine st (v := (B (r99.1 == 0))) (rv_eql (a := r99.1) (b := 0) rfl rfl) ?_
    refine w_end ?_
    refine q_then ?_
    obtain ⟨o109, hj, h'⟩ := bind_some h
    clear h
    refine c_cut (fun e a w => e = .normal ∧ ∃ (ρ : Nat → Value) (σ : St) (aj1 : Option Addr) (cj2 : Nat), a = fr 30 (updL ρ [(4, (Sl aj1 o109 cj2))]) ∧ w = σ.w ∧ Mod none σ0 σ ∧ Ow σ σ0.size σ0.size (Sl aj1 o109 cj2) o109) ?_ ?_
    · clear h'
      rename _ = some o109 => h
      refine cd_cond (r99.1 == 0) rfl (fun hb110 => ?_) (fun hb110 => ?_)
      · replace h := bif_t hb110 h
        refine rg ?_
        refine st (v := (Sl a95 o39.2 c96)) (rv_move rfl) ?_
        refine st (v := (pt b5 0)) (rv_move rfl) ?_
        obtain ⟨r111, hx112, h'⟩ := bind_some h
        clear h
        have h := h'; clear h'
        refine st_call (c_spec_anyVector hR105 hB106 hB106.lt hx112) rfl ?_
        have hd122 := hO97.ltb
        have hd123 := hB106.ltb
        have hKs := hK.size
        rintro _ σ113 m114 ⟨a115, c116, a118, c119, rfl, hO117, hR120, hB121⟩
        replace hO97 := hO97.mod' m114 hd98
        replace hR105 := hR105.mod m114
        replace hK := hK.some m114 hge6
        have hO117g := hO117.ge
        replace hO117 := hO117.lo hKs
        replace hO117 := hO117.low' hKs
        have hd124 := Df.ge hd122 hO117g
        have hd125 := Df.ge hd123 hO117g
        clear hKs m114 hO117g
        have hg130 := hO117.ge
        obtain ⟨σ126, hw129, m127, hR128⟩ := hO117.pub' (Nat.le_refl _)
        rw [← hw129]; clear hw129
        replace hO97 := hO97.mod' m127 hd124
        replace hK := hK.own m127 hg130
        refine st_buildSlice (lo := σ0.size) (el := σ0.size) (xs := ([r111.1] : List (List Int))) (ps := [(0, (Sl a115 r111.1 c116))]) (cs := [(Sl a115 r111.1 c116)]) Try.underlying52 ti24 rfl rfl (by kernel_rfl) (.cons (c := [(Sl a115 r111.1 c116)]) ⟨_, rfl, hR128⟩ (.nil)) rfl ?_ hK.size (wanted_none _ rfl _)
        intro b132 σ133 hbn135 m134 hO131
        have hd136 := hO97.df' hbn135
        replace hO97 := hO97.mod0 m134
        replace hR128 := hR128.mod m134
        replace hK := hK.none m134
        clear hbn135 m134
        obtain ⟨xs137, hx138, h'⟩ := bind_some h
        clear h
        have h := h'; clear h'
        have hg139 := hO97.ge
        refine st_append Try.underlying52 Try.underlying52 ti24 rfl rfl (by decide) hO97 hO131.rd hx138 hK.size rfl rfl ?_ (wanted_none _ rfl _)
        intro a144 c145 σ140 m141 hO142 hq143
        replace hK := hK.own m141 hg139
        clear hq143 m141
        refine st (v := (Sl a144 xs137 c145)) (rv_assign rfl) ?_
        refine w_end ?_
        obtain rfl := Option.some.inj h
        exact ⟨rfl, _, σ140, a144, c145, fr_join ⟨rfl, trivial⟩, rfl, hK, hO142⟩
      · replace h := bif_f hb110 h
        refine c_skip ?_
        obtain rfl := Option.some.inj h
        exact ⟨rfl, _, σ101, a95, c96, fr_join ⟨rfl, trivial⟩, rfl, hK, hO97⟩
    · clear hj
      have h := h'
      clear h'
      rintro e a w ⟨rfl, ρ, σ146, a147, c148, rfl, rfl, hK, hO149⟩
      refine q_then ?_
      refine c_seq ?_
      refine rg ?_
      refine st (v := (Sl a147 o109 c148)) (rv_move rfl) ?_
      refine st (v := (Sl a147 o109 c148)) (rv_assign rfl) ?_
      refine w_end ?_
      refine q_then ?_
      refine c_ret ?_
      obtain rfl := Option.some.inj h
      exact bodyPost_ret (v := (Sl a147 o109 c148)) (results_fr1 Try.results38 rfl _) rfl ⟨_, σ146, rfl, rfl, hK, a147, c148, rfl, hO149⟩

theorem c_impl_divideDown {σ0 : St} {n_0 : Int} {by_1 : Int}  {r : Int} (h : M.impl_divideDown n_0 by_1 = some r) :
    Cal Try.prog 70 [(I n_0), (I by_1)] none σ0 (fun v σ' => v = (I r)) := by
  refine ⟨⟨_, _, Try.func70, rfl, rfl⟩, ?_⟩
  refine enter (n := 16) Try.func70 rfl rfl rfl ?_
  unfold M.impl_divideDown at h
  have hK : Mod none σ0 σ0 := Mod.refl _ _
  refine c_seq ?_
  refine rg ?_
  refine st (v := (I 0)) (rv_assign rfl) ?_
  refine w_end ?_
  refine q_then ?_
  refine c_seq ?_
  refine rg ?_
  refine st (v := (I n_0)) (rv_move rfl) ?_
  refine st (v := (I by_1)) (rv_move rfl) ?_
  obtain ⟨q1, hx2, h'⟩ := bind_some h
  clear h
  have h := h'; clear h'
  refine st (v := (I q1)) (rv_quoG (a := n_0) (b := by_1) hx2 rfl rfl) ?_
  refine st (v := (I q1)) (rv_assign rfl) ?_
  refine w_end ?_
  refine q_then ?_
  refine c_seq ?_
  refine c_seq ?_
  refine rg ?_
  refine st (v := (I n_0)) (rv_move rfl) ?_
  refine st (v := (I by_1)) (rv_move rfl) ?_
  obtain ⟨q3, hx4, h'⟩ := bind_some h
  clear h
  have h := h'; clear h'
  refine st (v := (I q3)) (rv_remG (a := n_0) (b := by_1) hx4 rfl rfl) ?_
  refine st (v := (B (decide (q3 < 0)))) (rv_lss (a := q3) (b := 0) rfl rfl) ?_
  refine w_end ?_
  refine q_then ?_
  obtain ⟨o5, hj, h'⟩ := bind_some h
  clear h
  refine c_cut (fun e a w => e = .normal ∧ ∃ (ρ : Nat → Value) (σ : St), a = fr 16 (updL ρ [(5, (I o5))]) ∧ w = σ.w ∧ Mod none σ0 σ) ?_ ?_
  · clear h'
    rename _ = some o5 => h
    refine cd_cond (decide (q3 < 0)) rfl (fun hb6 => ?_) (fun hb6 => ?_)
    · replace h := bif_t hb6 h
      refine rg ?_
      refine st (v := (I q1)) (rv_move rfl) ?_
      refine st (v := (I (w64 (q1 - 1)))) (rv_sub (a := q1) (b := 1) rfl rfl) ?_
      refine st (v := (I (w64 (q1 - 1)))) (rv_assign rfl) ?_
      refine w_end ?_
      obtain rfl := Option.some.inj h
      exact ⟨rfl, _, σ0, fr_join ⟨rfl, trivial⟩, rfl, hK⟩
    · replace h := bif_f hb6 h
      refine c_skip ?_
      obtain rfl := Option.some.inj h
      exact ⟨rfl, _, σ0, fr_join ⟨rfl, trivial⟩, rfl, hK⟩
  · clear hj
    have h := h'
    clear h'
    rintro e a w ⟨rfl, ρ, σ7, rfl, rfl, hK⟩
    refine q_then ?_
    refine c_seq ?_
    refine rg ?_
    refine st (v := (I o5)) (rv_move rfl) ?_
    refine st (v := (I o5)) (rv_assign rfl) ?_
    refine w_end ?_
    refine q_then ?_
    refine c_ret ?_
    obtain rfl := Option.some.inj h
    exact bodyPost_ret (v := (I o5)) (results_fr1 Try.results70 rfl _) rfl ⟨_, σ7, rfl, rfl, hK, rfl⟩

theorem c_impl_MeanOf {σ0 : St} {list_0 : List (List Int)} {alist_0 : Option Addr} {clist_0 : Nat} (hRlist_0 : RS 0 σ0 (Sl alist_0 list_0 clist_0) list_0) {r : (List Int)} (h : M.impl_MeanOf list_0 = some r) :
    Cal Try.prog 39 [(Sl alist_0 list_0 clist_0)] none σ0 (fun v σ' => ∃ (a0 : Option Addr) (c0 : Nat), v = (Sl a0 r c0) ∧ Ow σ' σ0.size σ0.size (Sl a0 r c0) r) := by
  refine ⟨⟨_, _, Try.func39, rfl, rfl⟩, ?_⟩
  refine enter (n := 55) Try.func39 rfl rfl rfl ?_
  unfold M.impl_MeanOf at h
  have hK : Mod none σ0 σ0 := Mod.refl _ _
  refine c_seq ?_
  refine rg ?_
  refine st (v := (.slice none 0 0)) (rv_assign rfl) ?_
  refine w_end ?_
  refine q_then ?_
  refine c_seq ?_
  refine c_seq ?_
  obtain ⟨o1, hj, h'⟩ := bind_some h
  clear h
  refine c_cut (fun e a w => e = .normal ∧ ∃ (ρ : Nat → Value) (σ : St), a = fr 55 (updL ρ [(0, (Sl alist_0 list_0 clist_0)), (17, (B o1))]) ∧ w = σ.w ∧ Mod none σ0 σ ∧ RS 0 σ (Sl alist_0 list_0 clist_0) list_0) ?_ ?_
  · clear h'
    rename _ = some o1 => h
    refine rg ?_
    refine st (v := (Sl alist_0 list_0 clist_0)) (rv_move rfl) ?_
    refine st (v := (I (list_0.length : Int))) (rv_len Try.underlying52 rfl) ?_
    refine st (v := (B (decide ((list_0.length : Int) < 1)))) (rv_lss (a := (list_0.length : Int)) (b := 1) rfl rfl) ?_
    refine st (v := (B (decide ((list_0.length : Int) < 1)))) (rv_move rfl) ?_
    rcases Bool.eq_false_or_eq_true (decide ((list_0.length : Int) < 1)) with hb2 | hb2
    · replace h := bif_t hb2 h
      refine st_skip (congrArg some hb2) ?_
      refine st_skip (congrArg some hb2) ?_
      refine st_skip (congrArg some hb2) ?_
      refine st (v := (B true)) (rv_pick_t (congrArg B hb2) rfl) ?_
      refine w_end ?_
      obtain rfl := Option.some.inj h
      exact ⟨rfl, _, σ0, fr_join ⟨rfl, rfl, trivial⟩, rfl, hK, hRlist_0⟩
    · replace h := bif_f hb2 h
      refine st_g (v := (Sl alist_0 list_0 clist_0)) (congrArg some hb2) (rv_move rfl) ?_
      refine st_g (v := (I (list_0.length : Int))) (congrArg some hb2) (rv_len Try.underlying52 rfl) ?_
      refine st_g (v := (B (decide (16 < (list_0.length : Int))))) (congrArg some hb2) (rv_gtr (a := (list_0.length : Int)) (b := 16) rfl rfl) ?_
      refine st (v := (B (decide (16 < (list_0.length : Int))))) (rv_pick_f (congrArg B hb2) rfl) ?_
      refine w_end ?_
      obtain rfl := Option.some.inj h
      exact ⟨rfl, _, σ0, fr_join ⟨rfl, rfl, trivial⟩, rfl, hK, hRlist_0⟩
  · clear hj
    have h := h'
    clear h'
    rintro e a w ⟨rfl, ρ, σ3, rfl, rfl, hK, hR4⟩
    refine q_then ?_
    refine cd_cond o1 rfl (fun hb5 => ?_) (fun hb5 => ?_)
    · replace h := bif_t hb5 h
      refine c_seq ?_
      refine rg ?_
      refine st (v := (.slice none 0 0)) (rv_assign rfl) ?_
      refine w_end ?_
      refine q_then ?_
      refine c_ret ?_
      refine q_then_r ?_
      obtain rfl := Option.some.inj h
      exact bodyPost_ret (v := (.slice none 0 0)) (results_fr1 Try.results39 rfl _) rfl ⟨_, σ3, rfl, rfl, hK, none, 0, rfl, Ow.nil⟩
    · replace h := bif_f hb5 h
      refine c_skip ?_
      refine q_then ?_
      refine c_seq ?_
      refine rg ?_
      refine st_alloc (cs := (List.map I (List.replicate 4 0))) ti72 rfl ?_ (wanted_none _ rfl _)
      intro b7 σ9 hbn11 m10 hB6
      have hge8 := Nat.le_trans hK.size (Nat.le_of_eq hbn11)
      replace hR4 := hR4.mod m10
      replace hK := hK.none m10
      clear hbn11 m10
      refine w_end ?_
      refine q_then ?_
      refine c_seq ?_
      refine c_seq ?_
      refine rg ?_
      refine st (v := (Sl alist_0 list_0 clist_0)) (rv_move rfl) ?_
      refine st (v := (I (list_0.length : Int))) (rv_len Try.underlying52 rfl) ?_
      refine st (v := (I 0)) (rv_move rfl) ?_
      refine w_end ?_
      refine q_then ?_
      obtain ⟨o12, hj, h'⟩ := bind_some h
      clear h
      refine c_cut (fun e a w => (∃ t, o12 = (.inl t) ∧ e = .normal ∧ ∃ (ρ : Nat → Value) (σ : St), a = fr 55 (updL ρ [(0, (Sl alist_0 list_0 clist_0)), (3, (pt b7 0))]) ∧ w = σ.w ∧ Mod none σ0 σ ∧ RS 0 σ (Sl alist_0 list_0 clist_0) list_0 ∧ t.length = 4 ∧ Bx σ b7 (List.map I t)) ∨ (∃ t, o12 = (.inr t) ∧ e = .ret ∧ ∃ (ρ : Nat → Value) (σ : St) (aj1 : Option Addr) (cj2 : Nat), a = fr 55 (updL ρ [(2, (Sl aj1 t cj2))]) ∧ w = σ.w ∧ Mod none σ0 σ ∧ Ow σ σ0.size σ0.size (Sl aj1 t cj2) t)) ?_ ?_
      · clear h'
        rename _ = some o12 => h
        refine c_blk ?_
        refine wp_loopM _ h (fun s13 a w => ∃ (ρ : Nat → Value) (σ : St), a = fr 55 (updL ρ [(0, (Sl alist_0 list_0 clist_0)), (3, (pt b7 0)), (18, (Sl alist_0 list_0 clist_0)), (19, (I (list_0.length : Int))), (20, (I s13.2))]) ∧ w = σ.w ∧ Mod none σ0 σ ∧ RS 0 σ (Sl alist_0 list_0 clist_0) list_0 ∧ s13.1.length = 4 ∧ Bx σ b7 (List.map I s13.1)) ⟨_, σ9, fr_join ⟨rfl, rfl, rfl, rfl, rfl, trivial⟩, rfl, hK, hR4, rfl, hB6⟩ ?_
        clear h
        rintro s13 a w o ⟨ρ, σ15, rfl, rfl, hK, hR16, hl17, hB18⟩ h hres
        refine c_seq ?_
        refine rg ?_
        refine st (v := (B (decide (s13.2 < (list_0.length : Int))))) (rv_lss (a := s13.2) (b := (list_0.length : Int)) rfl rfl) ?_
        refine w_end ?_
        refine q_then ?_
        refine c_seq ?_
        refine cd_cond (decide (s13.2 < (list_0.length : Int))) rfl (fun hb19 => ?_) (fun hb19 => ?_)
        · replace h := bif_t hb19 h
          refine c_skip ?_
          refine q_then ?_
          refine c_seq ?_
          refine c_blk ?_
          refine c_seq ?_
          refine rg ?_
          obtain ⟨x20, hx21, h'⟩ := bind_some h
          clear h
          have h := h'; clear h'
          obtain ⟨b23, o24, hi22, -⟩ := hR16.ix hx21
          refine st (v := (pt b23 o24)) (rv_ix Try.underlying52 ti24 rfl rfl hi22) ?_
          obtain ⟨v28, hc29, hR27⟩ := (hR16.at hx21 hi22).slice
          obtain ⟨a25, c26, rfl⟩ := hR27.isSl
          refine st (v := (Sl a25 x20 c26)) (rv_load1 Try.underlying24 rfl rfl hc29) ?_
          refine st (v := (Sl a25 x20 c26)) (rv_assign rfl) ?_
          refine w_end ?_
          refine q_then ?_
          refine c_seq ?_
          refine c_seq ?_
          refine rg ?_
          refine st (v := (Sl a25 x20 c26)) (rv_move rfl) ?_
          obtain ⟨r30, hx31, h'⟩ := bind_some h
          clear h
          have h := h'; clear h'
          refine st_call (c_impl_ValidVector hR27 hx31) rfl ?_
          have hd34 := hB18.ltb
          have hKs := hK.size
          rintro _ σ32 m33 rfl
          replace hR16 := hR16.mod m33
          replace hR27 := hR27.mod m33
          replace hB18 := hB18.mod0 m33
          replace hK := hK.none m33
          clear hKs m33
          refine st (v := (B (!r30))) (rv_not rfl) ?_
          refine w_end ?_
          refine q_then ?_
          refine cd_cond (!r30) rfl (fun hb35 => ?_) (fun hb35 => ?_)
          · replace h := bif_t hb35 h
            refine c_seq ?_
            refine rg ?_
            refine st (v := (.slice none 0 0)) (rv_assign rfl) ?_
            refine w_end ?_
            refine q_then ?_
            refine c_ret ?_
            refine q_then_r ?_
            refine q_blk_r ?_
            refine q_then_r ?_
            refine q_then_r ?_
            refine q_blk_r ?_
            obtain rfl := Option.some.inj h
            obtain rfl := hres _ rfl
            exact .inr (⟨_, rfl, rfl, _, σ32, none, 0, fr_join ⟨rfl, trivial⟩, rfl, hK, Ow.nil⟩)
          · replace h := bif_f hb35 h
            refine c_skip ?_
            refine q_then ?_
            refine c_seq ?_
            refine rg ?_
            refine st (v := (Sl a25 x20 c26)) (rv_move rfl) ?_
            refine st (v := (I (x20.length : Int))) (rv_len Try.underlying24 rfl) ?_
            refine st (v := (I 0)) (rv_move rfl) ?_
            refine w_end ?_
            refine q_then ?_
            obtain ⟨o36, hj, h'⟩ := bind_some h
            clear h
            refine c_cut (fun e a w => e = .normal ∧ ∃ (ρ : Nat → Value) (σ : St), a = fr 55 (updL ρ [(0, (Sl alist_0 list_0 clist_0)), (3, (pt b7 0)), (18, (Sl alist_0 list_0 clist_0)), (19, (I (list_0.length : Int))), (20, (I s13.2))]) ∧ w = σ.w ∧ Mod none σ0 σ ∧ RS 0 σ (Sl alist_0 list_0 clist_0) list_0 ∧ o36.length = 4 ∧ Bx σ b7 (List.map I o36)) ?_ ?_
            · clear h'
              rename _ = some o36 => h
              refine c_blk ?_
              refine wp_loopM _ h (fun s37 a w => ∃ (ρ : Nat → Value) (σ : St), a = fr 55 (updL ρ [(0, (Sl alist_0 list_0 clist_0)), (3, (pt b7 0)), (18, (Sl alist_0 list_0 clist_0)), (19, (I (list_0.length : Int))), (20, (I s13.2)), (27, (Sl a25 x20 c26)), (28, (I (x20.length : Int))), (29, (I s37.2))]) ∧ w = σ.w ∧ Mod none σ0 σ ∧ RS 0 σ (Sl alist_0 list_0 clist_0) list_0 ∧ s37.1.length = 4 ∧ Bx σ b7 (List.map I s37.1) ∧ RS 0 σ (Sl a25 x20 c26) x20) ⟨_, σ32, fr_join ⟨rfl, rfl, rfl, rfl, rfl, rfl, rfl, rfl, trivial⟩, rfl, hK, hR16, hl17, hB18, hR27⟩ ?_
              clear h
              rintro s37 a w o ⟨ρ, σ39, rfl, rfl, hK, hR40, hl41, hB42, hR43⟩ h hres
              refine c_seq ?_
              refine rg ?_
              refine st (v := (B (decide (s37.2 < (x20.length : Int))))) (rv_lss (a := s37.2) (b := (x20.length : Int)) rfl rfl) ?_
              refine w_end ?_
              refine q_then ?_
              refine c_seq ?_
              refine cd_cond (decide (s37.2 < (x20.length : Int))) rfl (fun hb44 => ?_) (fun hb44 => ?_)
              · replace h := bif_t hb44 h
                refine c_skip ?_
                refine q_then ?_
                refine c_seq ?_
                refine c_blk ?_
                refine c_seq ?_
                refine rg ?_
                refine st (v := (I s37.2)) (rv_move rfl) ?_
                obtain ⟨x45, hx46, h'⟩ := bind_some h
                clear h
                have h := h'; clear h'
                obtain ⟨b48, o49, hi47, -⟩ := hR43.ix hx46
                refine st (v := (pt b48 o49)) (rv_ix Try.underlying24 ti3 rfl rfl hi47) ?_
                refine st (v := (I x45)) (rv_load1 Try.underlying3 rfl rfl (hR43.at hx46 hi47).int) ?_
                refine st (v := (I s37.2)) (rv_assign rfl) ?_
                refine st (v := (I x45)) (rv_assign rfl) ?_
                refine w_end ?_
                refine q_then ?_
                refine rg ?_
                refine st (v := (I s37.2)) (rv_move rfl) ?_
                obtain ⟨x50, hx51, h'⟩ := bind_some h
                clear h
                have h := h'; clear h'
                have hl52 := gidx_lt hx51 hl41
                refine st (v := (pt b7 (0 + s37.2.toNat * 1))) (rv_indexAddr_array Try.underlying72 ti3 rfl rfl hl52.1 hl52.2) ?_
                refine st (v := (I x50)) (rv_load1 Try.underlying3 rfl rfl (hB42.arr hx51)) ?_
                refine st (v := (I x45)) (rv_move rfl) ?_
                refine st (v := (I (w64 (x50 + x45)))) (rv_add (a := x50) (b := x45) rfl rfl) ?_
                obtain ⟨x53, hx54, h'⟩ := bind_some h
                clear h
                have h := h'; clear h'
                have hl55 := gidx_lt hx54 hl41
                refine st (v := (pt b7 (0 + s37.2.toNat * 1))) (rv_indexAddr_array Try.underlying72 ti3 rfl rfl hl55.1 hl55.2) ?_
                have hl60 := gidx_lt hx54 hl41
                refine st_store_box (vs := [(I (w64 (x50 + x45)))]) ti3 hB42 rfl rfl rfl rfl (by rw [List.length_map, hl41]; simp; omega) (by simp [plain]) ?_
                intro σ56 m57 hB59 hs58; clear hs58
                replace hR40 := hR40.mod m57
                replace hR43 := hR43.mod m57
                replace hK := hK.some m57 hge8
                replace hB59 := Bx.cast (cs' := (List.map I (s37.1.set s37.2.toNat (w64 (x50 + x45))))) hB59 (arr_set _ _ _)
                clear hB42
                refine w_end ?_
                refine q_blk ?_
                refine q_then ?_
                refine rg ?_
                refine st (v := (I (w64 (s37.2 + 1)))) (rv_add (a := s37.2) (b := 1) rfl rfl) ?_
                refine st (v := (I (w64 (s37.2 + 1)))) (rv_move rfl) ?_
                refine w_end ?_
                refine q_then ?_
                obtain rfl := Option.some.inj h
                exact ⟨_, rfl, _, σ56, fr_join ⟨rfl, rfl, rfl, rfl, rfl, rfl, rfl, rfl, trivial⟩, rfl, hK, hR40, (set_len hl41), hB59, hR43⟩
              · replace h := bif_f hb44 h
                refine c_exit ?_
                refine q_then_x ?_
                refine q_then_x ?_
                refine q_blk_hit ?_
                obtain rfl := Option.some.inj h
                obtain rfl := hres _ rfl
                exact ⟨rfl, _, σ39, fr_join ⟨rfl, rfl, rfl, rfl, rfl, trivial⟩, rfl, hK, hR40, hl41, hB42⟩
            · clear hj
              have h := h'
              clear h'
              rintro e a w ⟨rfl, ρ, σ61, rfl, rfl, hK, hR62, hl63, hB64⟩
              refine q_blk ?_
              refine q_then ?_
              refine rg ?_
              refine st (v := (I (w64 (s13.2 + 1)))) (rv_add (a := s13.2) (b := 1) rfl rfl) ?_
              refine st (v := (I (w64 (s13.2 + 1)))) (rv_move rfl) ?_
              refine w_end ?_
              refine q_then ?_
              obtain rfl := Option.some.inj h
              exact ⟨_, rfl, _, σ61, fr_join ⟨rfl, rfl, rfl, rfl, rfl, trivial⟩, rfl, hK, hR62, hl63, hB64⟩
        · replace h := bif_f hb19 h
          refine c_exit ?_
          refine q_then_x ?_
          refine q_then_x ?_
          refine q_blk_hit ?_
          obtain rfl := Option.some.inj h
          obtain rfl := hres _ rfl
          exact .inl ⟨_, rfl, rfl, _, σ15, fr_join ⟨rfl, rfl, trivial⟩, rfl, hK, hR16, hl17, hB18⟩
      · clear hj
        have h := h'
        clear h'
        rintro e a w (⟨t65, rfl, rfl, ρ, σ66, rfl, rfl, hK, hR67, hl68, hB69⟩ | ⟨t97, rfl, rfl, ρ, σ98, a99, c100, rfl, rfl, hK, hO101⟩)
        · replace h := selim_l h
          refine q_then ?_
          refine c_seq ?_
          refine c_seq ?_
          refine rg ?_
          refine st (v := (.agg (List.map I t65).toArray)) (rv_load (cs := (List.map I t65)) Try.underlying72 rfl ti72 rfl (by rw [List.length_map]; exact hl68) hB69.all) ?_
          refine st (v := (I 0)) (rv_move rfl) ?_
          refine w_end ?_
          refine q_then ?_
          obtain ⟨o70, hj, h'⟩ := bind_some h
          clear h
          refine c_cut (fun e a w => e = .normal ∧ ∃ (ρ : Nat → Value) (σ : St), a = fr 55 (updL ρ [(3, (pt b7 0))]) ∧ w = σ.w ∧ Mod none σ0 σ ∧ o70.length = 4 ∧ Bx σ b7 (List.map I o70)) ?_ ?_
          · clear h'
            rename _ = some o70 => h
            refine c_blk ?_
            refine wp_loopM _ h (fun s71 a w => ∃ (ρ : Nat → Value) (σ : St), a = fr 55 (updL ρ [(0, (Sl alist_0 list_0 clist_0)), (3, (pt b7 0)), (42, (.agg (List.map I t65).toArray)), (43, (I s71.2))]) ∧ w = σ.w ∧ Mod none σ0 σ ∧ RS 0 σ (Sl alist_0 list_0 clist_0) list_0 ∧ s71.1.length = 4 ∧ Bx σ b7 (List.map I s71.1)) ⟨_, σ66, fr_join ⟨rfl, rfl, rfl, rfl, trivial⟩, rfl, hK, hR67, hl68, hB69⟩ ?_
            clear h
            rintro s71 a w o ⟨ρ, σ73, rfl, rfl, hK, hR74, hl75, hB76⟩ h hres
            refine c_seq ?_
            refine rg ?_
            refine st (v := (B (decide (s71.2 < 4)))) (rv_lss (a := s71.2) (b := 4) rfl rfl) ?_
            refine w_end ?_
            refine q_then ?_
            refine c_seq ?_
            refine cd_cond (decide (s71.2 < 4)) rfl (fun hb77 => ?_) (fun hb77 => ?_)
            · replace h := bif_t hb77 h
              refine c_skip ?_
              refine q_then ?_
              refine c_seq ?_
              refine c_blk ?_
              refine c_seq ?_
              refine rg ?_
              refine st (v := (I s71.2)) (rv_move rfl) ?_
              obtain ⟨x78, hx79, h'⟩ := bind_some h
              clear h
              have h := h'; clear h'
              refine st (v := (I x78)) (rv_idx Try.underlying72 ti3 Try.underlying3 rfl rfl hx79 hl68) ?_
              refine st (v := (I s71.2)) (rv_assign rfl) ?_
              refine st (v := (I x78)) (rv_assign rfl) ?_
              refine w_end ?_
              refine q_then ?_
              refine rg ?_
              refine st (v := (I s71.2)) (rv_move rfl) ?_
              refine st (v := (I x78)) (rv_move rfl) ?_
              refine st (v := (Sl alist_0 list_0 clist_0)) (rv_move rfl) ?_
              refine st (v := (I (list_0.length : Int))) (rv_len Try.underlying52 rfl) ?_
              obtain ⟨r80, hx81, h'⟩ := bind_some h
              clear h
              have h := h'; clear h'
              refine st_call (c_impl_divideDown  hx81) rfl ?_
              have hd84 := hB76.ltb
              have hKs := hK.size
              rintro _ σ82 m83 rfl
              replace hR74 := hR74.mod m83
              replace hB76 := hB76.mod0 m83
              replace hK := hK.none m83
              clear hKs m83
              obtain ⟨x85, hx86, h'⟩ := bind_some h
              clear h
              have h := h'; clear h'
              have hl87 := gidx_lt hx86 hl75
              refine st (v := (pt b7 (0 + s71.2.toNat * 1))) (rv_indexAddr_array Try.underlying72 ti3 rfl rfl hl87.1 hl87.2) ?_
              have hl92 := gidx_lt hx86 hl75
              refine st_store_box (vs := [(I r80)]) ti3 hB76 rfl rfl rfl rfl (by rw [List.length_map, hl75]; simp; omega) (by simp [plain]) ?_
              intro σ88 m89 hB91 hs90; clear hs90
              replace hR74 := hR74.mod m89
              replace hK := hK.some m89 hge8
              replace hB91 := Bx.cast (cs' := (List.map I (s71.1.set s71.2.toNat r80))) hB91 (arr_set _ _ _)
              clear hB76
              refine w_end ?_
              refine q_blk ?_
              refine q_then ?_
              refine rg ?_
              refine st (v := (I (w64 (s71.2 + 1)))) (rv_add (a := s71.2) (b := 1) rfl rfl) ?_
              refine st (v := (I (w64 (s71.2 + 1)))) (rv_move rfl) ?_
              refine w_end ?_
              refine q_then ?_
              obtain rfl := Option.some.inj h
              exact ⟨_, rfl, _, σ88, fr_join ⟨rfl, rfl, rfl, rfl, trivial⟩, rfl, hK, hR74, (set_len hl75), hB91⟩
            · replace h := bif_f hb77 h
              refine c_exit ?_
              refine q_then_x ?_
              refine q_then_x ?_
              refine q_blk_hit ?_
              obtain rfl := Option.some.inj h
              obtain rfl := hres _ rfl
              exact ⟨rfl, _, σ73, fr_join ⟨rfl, trivial⟩, rfl, hK, hl75, hB76⟩
          · clear hj
            have h := h'
            clear h'
            rintro e a w ⟨rfl, ρ, σ93, rfl, rfl, hK, hl94, hB95⟩
            refine q_then ?_
            refine c_seq ?_
            refine rg ?_
            have hO96 := bx_arr (el := σ0.size) hB95 hge8 hl94
            refine st (v := (Sl (some ⟨b7, 0, none⟩) o70 4)) (rv_slice_arrL Try.underlying72 ti3 (by decide) rfl hl94) ?_
            refine st (v := (Sl (some ⟨b7, 0, none⟩) o70 4)) (rv_assign rfl) ?_
            refine w_end ?_
            refine q_then ?_
            refine c_ret ?_
            obtain rfl := Option.some.inj h
            exact bodyPost_ret (v := (Sl (some ⟨b7, 0, none⟩) o70 4)) (results_fr1 Try.results39 rfl _) rfl ⟨_, σ93, rfl, rfl, hK, (some ⟨b7, 0, none⟩), 4, rfl, hO96⟩
        · replace h := selim_r h
          refine q_then_r ?_
          obtain rfl := Option.some.inj h
          exact bodyPost_ret (v := (Sl a99 t97 c100)) (results_fr1 Try.results39 rfl _) rfl ⟨_, σ98, rfl, rfl, hK, a99, c100, rfl, hO101⟩

theorem c_spec_floorDiv {σ0 : St} {a_0 : Int} {b_1 : Int}  {r : Int} (h : M.spec_floorDiv a_0 b_1 = some r) :
    Cal Try.prog 73 [(I a_0), (I b_1)] none σ0 (fun v σ' => v = (I r)) := by
  refine ⟨⟨_, _, Try.func73, rfl, rfl⟩, ?_⟩
  refine enter (n := 16) Try.func73 rfl rfl rfl ?_
  unfold M.spec_floorDiv at h
  have hK : Mod none σ0 σ0 := Mod.refl _ _
  refine c_seq ?_
  refine rg ?_
  refine st (v := (I 0)) (rv_assign rfl) ?_
  refine w_end ?_
  refine q_then ?_
  refine c_seq ?_
  refine rg ?_
  refine st (v := (I a_0)) (rv_move rfl) ?_
  refine st (v := (I b_1)) (rv_move rfl) ?_
  obtain ⟨q1, hx2, h'⟩ := bind_some h
  clear h
  have h := h'; clear h'
  refine st (v := (I q1)) (rv_quoG (a := a_0) (b := b_1) hx2 rfl rfl) ?_
  refine st (v := (I q1)) (rv_assign rfl) ?_
  refine w_end ?_
  refine q_then ?_
  refine c_seq ?_
  refine c_seq ?_
  refine rg ?_
  refine st (v := (I a_0)) (rv_move rfl) ?_
  refine st (v := (I b_1)) (rv_move rfl) ?_
  obtain ⟨q3, hx4, h'⟩ := bind_some h
  clear h
  have h := h'; clear h'
  refine st (v := (I q3)) (rv_remG (a := a_0) (b := b_1) hx4 rfl rfl) ?_
  refine st (v := (B (decide (q3 < 0)))) (rv_lss (a := q3) (b := 0) rfl rfl) ?_
  refine w_end ?_
  refine q_then ?_
  obtain ⟨o5, hj, h'⟩ := bind_some h
  clear h
  refine c_cut (fun e a w => e = .normal ∧ ∃ (ρ : Nat → Value) (σ : St), a = fr 16 (updL ρ [(5, (I o5))]) ∧ w = σ.w ∧ Mod none σ0 σ) ?_ ?_
  · clear h'
    rename _ = some o5 => h
    refine cd_cond (decide (q3 < 0)) rfl (fun hb6 => ?_) (fun hb6 => ?_)
    · replace h := bif_t hb6 h
      refine rg ?_
      refine st (v := (I q1)) (rv_move rfl) ?_
      refine st (v := (I (w64 (q1 - 1)))) (rv_sub (a := q1) (b := 1) rfl rfl) ?_
      refine st (v := (I (w64 (q1 - 1)))) (rv_assign rfl) ?_
      refine w_end ?_
      obtain rfl := Option.some.inj h
      exact ⟨rfl, _, σ0, fr_join ⟨rfl, trivial⟩, rfl, hK⟩
    · replace h := bif_f hb6 h
      refine c_skip ?_
      obtain rfl := Option.some.inj h
      exact ⟨rfl, _, σ0, fr_join ⟨rfl, trivial⟩, rfl, hK⟩
  · clear hj
    have h := h'
    clear h'
    rintro e a w ⟨rfl, ρ, σ7, rfl, rfl, hK⟩
    refine q_then ?_
    refine c_seq ?_
    refine rg ?_
    refine st (v := (I o5)) (rv_move rfl) ?_
    refine st (v := (I o5)) (rv_assign rfl) ?_
    refine w_end ?_
    refine q_then ?_
    refine c_ret ?_
    obtain rfl := Option.some.inj h
    exact bodyPost_ret (v := (I o5)) (results_fr1 Try.results73 rfl _) rfl ⟨_, σ7, rfl, rfl, hK, rfl⟩

theorem c_spec_mean {σ0 : St} {list_0 : List (List Int)} {alist_0 : Option Addr} {clist_0 : Nat} (hRlist_0 : RS 0 σ0 (Sl alist_0 list_0 clist_0) list_0) {r : (List Int)} (h : M.spec_mean list_0 = some r) :
    Cal Try.prog 72 [(Sl alist_0 list_0 clist_0)] none σ0 (fun v σ' => ∃ (a0 : Option Addr) (c0 : Nat), v = (Sl a0 r c0) ∧ Ow σ' σ0.size σ0.size (Sl a0 r c0) r) := by
  refine ⟨⟨_, _, Try.func72, rfl, rfl⟩, ?_⟩
  refine enter (n := 35) Try.func72 rfl rfl rfl ?_
  unfold M.spec_mean at h
  have hK : Mod none σ0 σ0 := Mod.refl _ _
  refine c_seq ?_
  refine rg ?_
  refine st (v := (.slice none 0 0)) (rv_assign rfl) ?_
  refine w_end ?_
  refine q_then ?_
  refine c_seq ?_
  refine rg ?_
  refine st_buildSlice (lo := σ0.size) (el := σ0.size) (xs := ([] : List Int)) (ps := []) (cs := []) Try.underlying24 ti3 rfl rfl (by kernel_rfl) (.nil) rfl ?_ hK.size (wanted_none _ rfl _)
  intro b2 σ3 hbn5 m4 hO1
  replace hRlist_0 := hRlist_0.mod m4
  replace hK := hK.none m4
  clear hbn5 m4
  refine st (v := (Sl (some ⟨b2, 0, none⟩) ([] : List Int) 0)) (rv_assign rfl) ?_
  refine w_end ?_
  refine q_then ?_
  refine c_seq ?_
  refine c_seq ?_
  refine rg ?_
  refine st (v := (I 0)) (rv_assign rfl) ?_
  refine w_end ?_
  refine q_then ?_
  obtain ⟨o6, hj, h'⟩ := bind_some h
  clear h
  refine c_cut (fun e a w => e = .normal ∧ ∃ (ρ : Nat → Value) (σ : St) (aj1 : Option Addr) (cj2 : Nat), a = fr 35 (updL ρ [(3, (Sl aj1 o6 cj2))]) ∧ w = σ.w ∧ Mod none σ0 σ ∧ Ow σ σ0.size σ0.size (Sl aj1 o6 cj2) o6) ?_ ?_
  · clear h'
    rename _ = some o6 => h
    refine c_blk ?_
    refine wp_loopM _ h (fun s7 a w => ∃ (ρ : Nat → Value) (σ : St) (aj2 : Option Addr) (cj3 : Nat), a = fr 35 (updL ρ [(0, (Sl alist_0 list_0 clist_0)), (3, (Sl aj2 s7.1 cj3)), (4, (I s7.2))]) ∧ w = σ.w ∧ Mod none σ0 σ ∧ RS 0 σ (Sl alist_0 list_0 clist_0) list_0 ∧ Ow σ σ0.size σ0.size (Sl aj2 s7.1 cj3) s7.1) ⟨_, σ3, (some ⟨b2, 0, none⟩), 0, fr_join ⟨rfl, rfl, rfl, trivial⟩, rfl, hK, hRlist_0, hO1⟩ ?_
    clear h
    rintro s7 a w o ⟨ρ, σ9, a11, c12, rfl, rfl, hK, hR10, hO13⟩ h hres
    refine c_seq ?_
    refine c_seq ?_
    refine rg ?_
    refine st (v := (I s7.2)) (rv_move rfl) ?_
    refine st (v := (B (decide (s7.2 < 4)))) (rv_lss (a := s7.2) (b := 4) rfl rfl) ?_
    refine w_end ?_
    refine q_then ?_
    refine cd_cond (decide (s7.2 < 4)) rfl (fun hb14 => ?_) (fun hb14 => ?_)
    · replace h := bif_t hb14 h
      refine c_skip ?_
      refine q_then ?_
      refine c_seq ?_
      refine c_blk ?_
      refine c_seq ?_
      refine rg ?_
      refine st (v := (I 0)) (rv_assign rfl) ?_
      refine w_end ?_
      refine q_then ?_
      refine c_seq ?_
      refine c_seq ?_
      refine rg ?_
      refine st (v := (I 0)) (rv_assign rfl) ?_
      refine w_end ?_
      refine q_then ?_
      obtain ⟨o15, hj, h'⟩ := bind_some h
      clear h
      refine c_cut (fun e a w => e = .normal ∧ ∃ (ρ : Nat → Value) (σ : St), a = fr 35 (updL ρ [(0, (Sl alist_0 list_0 clist_0)), (3, (Sl a11 s7.1 c12)), (4, (I s7.2)), (5, (I o15))]) ∧ w = σ.w ∧ Mod none σ0 σ ∧ RS 0 σ (Sl alist_0 list_0 clist_0) list_0 ∧ Ow σ σ0.size σ0.size (Sl a11 s7.1 c12) s7.1) ?_ ?_
      · clear h'
        rename _ = some o15 => h
        refine c_blk ?_
        refine wp_loopM _ h (fun s16 a w => ∃ (ρ : Nat → Value) (σ : St), a = fr 35 (updL ρ [(0, (Sl alist_0 list_0 clist_0)), (3, (Sl a11 s7.1 c12)), (4, (I s7.2)), (5, (I s16.1)), (6, (I s16.2))]) ∧ w = σ.w ∧ Mod none σ0 σ ∧ RS 0 σ (Sl alist_0 list_0 clist_0) list_0 ∧ Ow σ σ0.size σ0.size (Sl a11 s7.1 c12) s7.1) ⟨_, σ9, fr_join ⟨rfl, rfl, rfl, rfl, rfl, trivial⟩, rfl, hK, hR10, hO13⟩ ?_
        clear h
        rintro s16 a w o ⟨ρ, σ18, rfl, rfl, hK, hR19, hO20⟩ h hres
        refine c_seq ?_
        refine c_seq ?_
        refine rg ?_
        refine st (v := (I s16.2)) (rv_move rfl) ?_
        refine st (v := (Sl alist_0 list_0 clist_0)) (rv_move rfl) ?_
        refine st (v := (I (list_0.length : Int))) (rv_len Try.underlying52 rfl) ?_
        refine st (v := (B (decide (s16.2 < (list_0.length : Int))))) (rv_lss (a := s16.2) (b := (list_0.length : Int)) rfl rfl) ?_
        refine w_end ?_
        refine q_then ?_
        refine cd_cond (decide (s16.2 < (list_0.length : Int))) rfl (fun hb21 => ?_) (fun hb21 => ?_)
        · replace h := bif_t hb21 h
          refine c_skip ?_
          refine q_then ?_
          refine c_seq ?_
          refine c_blk ?_
          refine rg ?_
          refine st (v := (I s16.1)) (rv_move rfl) ?_
          refine st (v := (Sl alist_0 list_0 clist_0)) (rv_move rfl) ?_
          refine st (v := (I s16.2)) (rv_move rfl) ?_
          obtain ⟨x22, hx23, h'⟩ := bind_some h
          clear h
          have h := h'; clear h'
          obtain ⟨b25, o26, hi24, -⟩ := hR19.ix hx23
          refine st (v := (pt b25 o26)) (rv_ix Try.underlying52 ti24 rfl rfl hi24) ?_
          obtain ⟨v30, hc31, hR29⟩ := (hR19.at hx23 hi24).slice
          obtain ⟨a27, c28, rfl⟩ := hR29.isSl
          refine st (v := (Sl a27 x22 c28)) (rv_load1 Try.underlying24 rfl rfl hc31) ?_
          refine st (v := (I s7.2)) (rv_move rfl) ?_
          obtain ⟨x32, hx33, h'⟩ := bind_some h
          clear h
          have h := h'; clear h'
          obtain ⟨b35, o36, hi34, -⟩ := hR29.ix hx33
          refine st (v := (pt b35 o36)) (rv_ix Try.underlying24 ti3 rfl rfl hi34) ?_
          refine st (v := (I x32)) (rv_load1 Try.underlying3 rfl rfl (hR29.at hx33 hi34).int) ?_
          refine st (v := (I (w64 (s16.1 + x32)))) (rv_add (a := s16.1) (b := x32) rfl rfl) ?_
          refine st (v := (I (w64 (s16.1 + x32)))) (rv_assign rfl) ?_
          refine w_end ?_
          refine q_blk ?_
          refine q_then ?_
          refine rg ?_
          refine st (v := (I s16.2)) (rv_move rfl) ?_
          refine st (v := (I (w64 (s16.2 + 1)))) (rv_add (a := s16.2) (b := 1) rfl rfl) ?_
          refine st (v := (I (w64 (s16.2 + 1)))) (rv_assign rfl) ?_
          refine w_end ?_
          refine q_then ?_
          obtain rfl := Option.some.inj h
          exact ⟨_, rfl, _, σ18, fr_join ⟨rfl, rfl, rfl, rfl, rfl, trivial⟩, rfl, hK, hR19, hO20⟩
        · replace h := bif_f hb21 h
          refine c_exit ?_
          refine q_then_x ?_
          refine q_then_x ?_
          refine q_blk_hit ?_
          obtain rfl := Option.some.inj h
          obtain rfl := hres _ rfl
          exact ⟨rfl, _, σ18, fr_join ⟨rfl, rfl, rfl, rfl, trivial⟩, rfl, hK, hR19, hO20⟩
      · clear hj
        have h := h'
        clear h'
        rintro e a w ⟨rfl, ρ, σ37, rfl, rfl, hK, hR38, hO39⟩
        refine q_then ?_
        refine rg ?_
        refine st (v := (Sl a11 s7.1 c12)) (rv_move rfl) ?_
        refine st (v := (I o15)) (rv_move rfl) ?_
        refine st (v := (Sl alist_0 list_0 clist_0)) (rv_move rfl) ?_
        refine st (v := (I (list_0.length : Int))) (rv_len Try.underlying52 rfl) ?_
        obtain ⟨r40, hx41, h'⟩ := bind_some h
        clear h
        have h := h'; clear h'
        refine st_call (c_spec_floorDiv  hx41) rfl ?_
        have hd44 := hO39.ltb
        have hKs := hK.size
        rintro _ σ42 m43 rfl
        replace hR38 := hR38.mod m43
        replace hO39 := hO39.mod0 m43
        replace hK := hK.none m43
        clear hKs m43
        refine st_buildSlice (lo := σ0.size) (el := σ0.size) (xs := ([r40] : List Int)) (ps := [(0, (I r40))]) (cs := [(I r40)]) Try.underlying24 ti3 rfl rfl (by kernel_rfl) (.cons (c := [(I r40)]) rfl (.nil)) rfl ?_ hK.size (wanted_none _ rfl _)
        intro b46 σ47 hbn49 m48 hO45
        have hd50 := hO39.df' hbn49
        replace hR38 := hR38.mod m48
        replace hO39 := hO39.mod0 m48
        replace hK := hK.none m48
        clear hbn49 m48
        obtain ⟨xs51, hx52, h'⟩ := bind_some h
        clear h
        have h := h'; clear h'
        have hg53 := hO39.ge
        refine st_append Try.underlying24 Try.underlying24 ti3 rfl rfl (by decide) hO39 hO45.rd hx52 hK.size rfl rfl ?_ (wanted_none _ rfl _)
        intro a58 c59 σ54 m55 hO56 hq57
        replace hR38 := hR38.mod m55
        replace hK := hK.own m55 hg53
        clear hq57 m55
        refine st (v := (Sl a58 xs51 c59)) (rv_assign rfl) ?_
        refine w_end ?_
        refine q_blk ?_
        refine q_then ?_
        refine rg ?_
        refine st (v := (I s7.2)) (rv_move rfl) ?_
        refine st (v := (I (w64 (s7.2 + 1)))) (rv_add (a := s7.2) (b := 1) rfl rfl) ?_
        refine st (v := (I (w64 (s7.2 + 1)))) (rv_assign rfl) ?_
        refine w_end ?_
        refine q_then ?_
        obtain rfl := Option.some.inj h
        exact ⟨_, rfl, _, σ54, a58, c59, fr_join ⟨rfl, rfl, rfl, trivial⟩, rfl, hK, hR38, hO56⟩
    · replace h := bif_f hb14 h
      refine c_exit ?_
      refine q_then_x ?_
      refine q_then_x ?_
      refine q_blk_hit ?_
      obtain rfl := Option.some.inj h
      obtain rfl := hres _ rfl
      exact ⟨rfl, _, σ9, a11, c12, fr_join ⟨rfl, trivial⟩, rfl, hK, hO13⟩
  · clear hj
    have h := h'
    clear h'
    rintro e a w ⟨rfl, ρ, σ60, a61, c62, rfl, rfl, hK, hO63⟩
    refine q_then ?_
    refine c_seq ?_
    refine rg ?_
    refine st (v := (Sl a61 o6 c62)) (rv_move rfl) ?_
    refine st (v := (Sl a61 o6 c62)) (rv_assign rfl) ?_
    refine w_end ?_
    refine q_then ?_
    refine c_ret ?_
    obtain rfl := Option.some.inj h
    exact bodyPost_ret (v := (Sl a61 o6 c62)) (results_fr1 Try.results72 rfl _) rfl ⟨_, σ60, rfl, rfl, hK, a61, c62, rfl, hO63⟩

theorem c_spec_MeanOf {σ0 : St} {list_0 : List (List Int)} {alist_0 : Option Addr} {clist_0 : Nat} (hRlist_0 : RS 0 σ0 (Sl alist_0 list_0 clist_0) list_0) {r : (List Int)} (h : M.spec_MeanOf list_0 = some r) :
    Cal Try.prog 40 [(Sl alist_0 list_0 clist_0)] none σ0 (fun v σ' => ∃ (a0 : Option Addr) (c0 : Nat), v = (Sl a0 r c0) ∧ Ow σ' σ0.size σ0.size (Sl a0 r c0) r) := by
  refine ⟨⟨_, _, Try.func40, rfl, rfl⟩, ?_⟩
  refine enter (n := 22) Try.func40 rfl rfl rfl ?_
  unfold M.spec_MeanOf at h
  have hK : Mod none σ0 σ0 := Mod.refl _ _
  refine c_seq ?_
  refine rg ?_
  refine st (v := (.slice none 0 0)) (rv_assign rfl) ?_
  refine w_end ?_
  refine q_then ?_
  refine c_seq ?_
  refine c_seq ?_
  refine rg ?_
  refine st (v := (Sl alist_0 list_0 clist_0)) (rv_move rfl) ?_
  refine st (v := (I (list_0.length : Int))) (rv_len Try.underlying52 rfl) ?_
  obtain ⟨r1, hx2, h'⟩ := bind_some h
  clear h
  have h := h'; clear h'
  refine st_call (c_spec_inRange  hx2) rfl ?_
  have hKs := hK.size
  rintro _ σ3 m4 rfl
  replace hRlist_0 := hRlist_0.mod m4
  replace hK := hK.none m4
  clear hKs m4
  refine st (v := (B (!r1))) (rv_not rfl) ?_
  refine w_end ?_
  refine q_then ?_
  refine cd_cond (!r1) rfl (fun hb5 => ?_) (fun hb5 => ?_)
  · replace h := bif_t hb5 h
    refine c_seq ?_
    refine rg ?_
    refine st (v := (.slice none 0 0)) (rv_assign rfl) ?_
    refine w_end ?_
    refine q_then ?_
    refine c_ret ?_
    refine q_then_r ?_
    obtain rfl := Option.some.inj h
    exact bodyPost_ret (v := (.slice none 0 0)) (results_fr1 Try.results40 rfl _) rfl ⟨_, σ3, rfl, rfl, hK, none, 0, rfl, Ow.nil⟩
  · replace h := bif_f hb5 h
    refine c_skip ?_
    refine q_then ?_
    refine c_seq ?_
    refine c_seq ?_
    refine rg ?_
    refine st (v := (I 0)) (rv_assign rfl) ?_
    refine w_end ?_
    refine q_then ?_
    obtain ⟨o6, hj, h'⟩ := bind_some h
    clear h
    refine c_cut (fun e a w => (∃ t, o6 = (.inl t) ∧ e = .normal ∧ ∃ (ρ : Nat → Value) (σ : St), a = fr 22 (updL ρ [(0, (Sl alist_0 list_0 clist_0))]) ∧ w = σ.w ∧ Mod none σ0 σ ∧ RS 0 σ (Sl alist_0 list_0 clist_0) list_0) ∨ (∃ t, o6 = (.inr t) ∧ e = .ret ∧ ∃ (ρ : Nat → Value) (σ : St) (aj1 : Option Addr) (cj2 : Nat), a = fr 22 (updL ρ [(2, (Sl aj1 t cj2))]) ∧ w = σ.w ∧ Mod none σ0 σ ∧ Ow σ σ0.size σ0.size (Sl aj1 t cj2) t)) ?_ ?_
    · clear h'
      rename _ = some o6 => h
      refine c_blk ?_
      refine wp_loopM _ h (fun s7 a w => ∃ (ρ : Nat → Value) (σ : St), a = fr 22 (updL ρ [(0, (Sl alist_0 list_0 clist_0)), (3, (I s7))]) ∧ w = σ.w ∧ Mod none σ0 σ ∧ RS 0 σ (Sl alist_0 list_0 clist_0) list_0) ⟨_, σ3, fr_join ⟨rfl, rfl, trivial⟩, rfl, hK, hRlist_0⟩ ?_
      clear h
      rintro s7 a w o ⟨ρ, σ9, rfl, rfl, hK, hR10⟩ h hres
      refine c_seq ?_
      refine c_seq ?_
      refine rg ?_
      refine st (v := (I s7)) (rv_move rfl) ?_
      refine st (v := (Sl alist_0 list_0 clist_0)) (rv_move rfl) ?_
      refine st (v := (I (list_0.length : Int))) (rv_len Try.underlying52 rfl) ?_
      refine st (v := (B (decide (s7 < (list_0.length : Int))))) (rv_lss (a := s7) (b := (list_0.length : Int)) rfl rfl) ?_
      refine w_end ?_
      refine q_then ?_
      refine cd_cond (decide (s7 < (list_0.length : Int))) rfl (fun hb11 => ?_) (fun hb11 => ?_)
      · replace h := bif_t hb11 h
        refine c_skip ?_
        refine q_then ?_
        refine c_seq ?_
        refine c_blk ?_
        refine c_seq ?_
        refine rg ?_
        refine st (v := (Sl alist_0 list_0 clist_0)) (rv_move rfl) ?_
        refine st (v := (I s7)) (rv_move rfl) ?_
        obtain ⟨x12, hx13, h'⟩ := bind_some h
        clear h
        have h := h'; clear h'
        obtain ⟨b15, o16, hi14, -⟩ := hR10.ix hx13
        refine st (v := (pt b15 o16)) (rv_ix Try.underlying52 ti24 rfl rfl hi14) ?_
        obtain ⟨v20, hc21, hR19⟩ := (hR10.at hx13 hi14).slice
        obtain ⟨a17, c18, rfl⟩ := hR19.isSl
        refine st (v := (Sl a17 x12 c18)) (rv_load1 Try.underlying24 rfl rfl hc21) ?_
        obtain ⟨r22, hx23, h'⟩ := bind_some h
        clear h
        have h := h'; clear h'
        refine st_call (c_spec_isVector hR19 hx23) rfl ?_
        have hKs := hK.size
        rintro _ σ24 m25 rfl
        replace hR10 := hR10.mod m25
        replace hR19 := hR19.mod m25
        replace hK := hK.none m25
        clear hKs m25
        refine st (v := (B (!r22))) (rv_not rfl) ?_
        refine w_end ?_
        refine q_then ?_
        refine cd_cond (!r22) rfl (fun hb26 => ?_) (fun hb26 => ?_)
        · replace h := bif_t hb26 h
          refine c_seq ?_
          refine rg ?_
          refine st (v := (.slice none 0 0)) (rv_assign rfl) ?_
          refine w_end ?_
          refine q_then ?_
          refine c_ret ?_
          refine q_blk_r ?_
          refine q_then_r ?_
          refine q_then_r ?_
          refine q_blk_r ?_
          obtain rfl := Option.some.inj h
          obtain rfl := hres _ rfl
          exact .inr (⟨_, rfl, rfl, _, σ24, none, 0, fr_join ⟨rfl, trivial⟩, rfl, hK, Ow.nil⟩)
        · replace h := bif_f hb26 h
          refine c_skip ?_
          refine q_blk ?_
          refine q_then ?_
          refine rg ?_
          refine st (v := (I s7)) (rv_move rfl) ?_
          refine st (v := (I (w64 (s7 + 1)))) (rv_add (a := s7) (b := 1) rfl rfl) ?_
          refine st (v := (I (w64 (s7 + 1)))) (rv_assign rfl) ?_
          refine w_end ?_
          refine q_then ?_
          obtain rfl := Option.some.inj h
          exact ⟨_, rfl, _, σ24, fr_join ⟨rfl, rfl, trivial⟩, rfl, hK, hR10⟩
      · replace h := bif_f hb11 h
        refine c_exit ?_
        refine q_then_x ?_
        refine q_then_x ?_
        refine q_blk_hit ?_
        obtain rfl := Option.some.inj h
        obtain rfl := hres _ rfl
        exact .inl ⟨_, rfl, rfl, _, σ9, fr_join ⟨rfl, trivial⟩, rfl, hK, hR10⟩
    · clear hj
      have h := h'
      clear h'
      rintro e a w (⟨t27, rfl, rfl, ρ, σ28, rfl, rfl, hK, hR29⟩ | ⟨t37, rfl, rfl, ρ, σ38, a39, c40, rfl, rfl, hK, hO41⟩)
      · replace h := selim_l h
        refine q_then ?_
        refine c_seq ?_
        refine rg ?_
        refine st (v := (Sl alist_0 list_0 clist_0)) (rv_move rfl) ?_
        obtain ⟨r30, hx31, h'⟩ := bind_some h
        clear h
        have h := h'; clear h'
        refine st_call (c_spec_mean hR29 hx31) rfl ?_
        have hKs := hK.size
        rintro _ σ32 m33 ⟨a34, c35, rfl, hO36⟩
        replace hR29 := hR29.mod m33
        replace hK := hK.none m33
        have hO36g := hO36.ge
        replace hO36 := hO36.lo hKs
        replace hO36 := hO36.low' hKs
        clear hKs m33 hO36g
        refine st (v := (Sl a34 r30 c35)) (rv_assign rfl) ?_
        refine w_end ?_
        refine q_then ?_
        refine c_ret ?_
        obtain rfl := Option.some.inj h
        exact bodyPost_ret (v := (Sl a34 r30 c35)) (results_fr1 Try.results40 rfl _) rfl ⟨_, σ32, rfl, rfl, hK, a34, c35, rfl, hO36⟩
      · replace h := selim_r h
        refine q_then_r ?_
        obtain rfl := Option.some.inj h
        exact bodyPost_ret (v := (Sl a39 t37 c40)) (results_fr1 Try.results40 rfl _) rfl ⟨_, σ38, rfl, rfl, hK, a39, c40, rfl, hO41⟩

theorem c_laws_FnMeanOfOrder {σ0 : St} {code_0 : List UInt8} {acode_0 : Option Addr} {ccode_0 : Nat} (hRcode_0 : RS 0 σ0 (Sl acode_0 code_0 ccode_0) code_0) {r : Bool} (h : M.laws_FnMeanOfOrder code_0 = some r) :
    Cal Try.prog 11 [(Sl acode_0 code_0 ccode_0)] none σ0 (fun v σ' => v = (B r)) := by
  refine ⟨⟨_, _, Try.func11, rfl, rfl⟩, ?_⟩
  refine enter (n := 38) Try.func11 rfl rfl rfl ?_
  unfold M.laws_FnMeanOfOrder at h
  have hK : Mod none σ0 σ0 := Mod.refl _ _
  refine c_seq ?_
  refine rg ?_
  refine st (v := (B false)) (rv_assign rfl) ?_
  refine w_end ?_
  refine q_then ?_
  refine c_seq ?_
  refine c_seq ?_
  refine rg ?_
  refine st (v := (Sl acode_0 code_0 ccode_0)) (rv_move rfl) ?_
  refine st (v := (I (code_0.length : Int))) (rv_len Try.underlying22 rfl) ?_
  refine st (v := (B (decide (1048576 < (code_0.length : Int))))) (rv_gtr (a := (code_0.length : Int)) (b := 1048576) rfl rfl) ?_
  refine w_end ?_
  refine q_then ?_
  refine cd_cond (decide (1048576 < (code_0.length : Int))) rfl (fun hb1 => ?_) (fun hb1 => ?_)
  · replace h := bif_t hb1 h
    refine c_seq ?_
    refine rg ?_
    refine st (v := (B true)) (rv_assign rfl) ?_
    refine w_end ?_
    refine q_then ?_
    refine c_ret ?_
    refine q_then_r ?_
    obtain rfl := Option.some.inj h
    exact bodyPost_ret (v := (B true)) (results_fr1 Try.results11 rfl _) rfl ⟨_, σ0, rfl, rfl, hK, rfl⟩
  · replace h := bif_f hb1 h
    refine c_skip ?_
    refine q_then ?_
    refine c_seq ?_
    refine rg ?_
    refine st (v := (Sl acode_0 code_0 ccode_0)) (rv_move rfl) ?_
    obtain ⟨r2, hx3, h'⟩ := bind_some h
    clear h
    have h := h'; clear h'
    refine st_call (c_spec_DrawMeanOf hRcode_0 hx3) rfl ?_
    have hKs := hK.size
    rintro _ σ4 m5 ⟨a6, c7, rfl, hO8⟩
    replace hRcode_0 := hRcode_0.mod m5
    replace hK := hK.none m5
    have hO8g := hO8.ge
    replace hO8 := hO8.lo hKs
    replace hO8 := hO8.low' hKs
    clear hKs m5 hO8g
    refine st (v := (Sl a6 r2 c7)) (rv_assign rfl) ?_
    refine w_end ?_
    refine q_then ?_
    refine c_seq ?_
    refine rg ?_
    refine st (v := (Sl a6 r2 c7)) (rv_move rfl) ?_
    obtain ⟨σ9, hw10, m11, hR12⟩ := hO8.pub' (Nat.le_refl _)
    rw [← hw10]
    obtain ⟨r13, hx14, h'⟩ := bind_some h
    clear h
    have h := h'; clear h'
    refine st_call (c_impl_MeanOf (hR12.low (Nat.zero_le _)) hx14) rfl ?_
    have hd20 := ltb_size hO8.ltb hw10
    have hKs := size_le hK.size hw10
    rintro _ σ15 m16 ⟨a17, c18, rfl, hO19⟩
    obtain ⟨σ21, hw22, m23, hxl24, hvl25⟩ := lent hw10 m16
    rw [← hw22]
    replace hO19 := hO19.lent hw10 hw22 hxl24 hvl25 (Nat.le_refl _)
    replace hO8 := hO8.mod0 m23
    replace hK := hK.none m23
    have hO19g := hO19.ge
    replace hO19 := hO19.lo hKs
    replace hO19 := hO19.low' hKs
    have hd26 := Df.ge hd20 hO19g
    clear hKs m23 hO19g
    refine st (v := (Sl a17 r13 c18)) (rv_assign rfl) ?_
    refine w_end ?_
    refine q_then ?_
    refine c_seq ?_
    refine c_seq ?_
    refine rg ?_
    refine st (v := (Sl a17 r13 c18)) (rv_move rfl) ?_
    refine st (v := (Sl a6 r2 c7)) (rv_move rfl) ?_
    obtain ⟨σ27, hw28, m29, hR30⟩ := hO8.pub' (Nat.le_refl _)
    rw [← hw28]
    obtain ⟨r31, hx32, h'⟩ := bind_some h
    clear h
    have h := h'; clear h'
    refine st_call (c_spec_MeanOf (hR30.low (Nat.zero_le _)) hx32) rfl ?_
    have hd38 := ltb_size hO8.ltb hw28
    have hd39 := ltb_size hO19.ltb hw28
    have hKs := size_le hK.size hw28
    rintro _ σ33 m34 ⟨a35, c36, rfl, hO37⟩
    obtain ⟨σ40, hw41, m42, hxl43, hvl44⟩ := lent hw28 m34
    rw [← hw41]
    replace hO37 := hO37.lent hw28 hw41 hxl43 hvl44 (Nat.le_refl _)
    replace hO8 := hO8.mod0 m42
    replace hO19 := hO19.mod0 m42
    replace hK := hK.none m42
    have hO37g := hO37.ge
    replace hO37 := hO37.lo hKs
    replace hO37 := hO37.low' hKs
    have hd45 := Df.ge hd38 hO37g
    have hd46 := Df.ge hd39 hO37g
    clear hKs m42 hO37g
    obtain ⟨σ47, hw48, m49, hR50⟩ := hO19.pub' (Nat.le_refl _)
    obtain ⟨σ51, hw52, m53, hR54⟩ := (hO37.mod' m49 (hd46).symm).pub' (Nat.le_refl _)
    rw [← (hw52.trans hw48)]
    obtain ⟨r55, hx56, h'⟩ := bind_some h
    clear h
    have h := h'; clear h'
    refine st_call (c_laws_equalInts ((hR50.low (Nat.zero_le _)).mod m53) (hR54.low (Nat.zero_le _)) hx56) rfl ?_
    have hd59 := ltb_size hO8.ltb (hw52.trans hw48)
    have hd60 := ltb_size hO19.ltb (hw52.trans hw48)
    have hd61 := ltb_size hO37.ltb (hw52.trans hw48)
    have hKs := size_le hK.size (hw52.trans hw48)
    rintro _ σ57 m58 rfl
    obtain ⟨σ62, hw63, m64, hxl65, hvl66⟩ := lent (hw52.trans hw48) m58
    rw [← hw63]
    replace hO8 := hO8.mod0 m64
    replace hO19 := hO19.mod0 m64
    replace hO37 := hO37.mod0 m64
    replace hK := hK.none m64
    clear hKs m64
    refine st (v := (B (!r55))) (rv_not rfl) ?_
    refine w_end ?_
    refine q_then ?_
    refine cd_cond (!r55) rfl (fun hb67 => ?_) (fun hb67 => ?_)
    · replace h := bif_t hb67 h
      refine c_seq ?_
      refine rg ?_
      refine st (v := (B false)) (rv_assign rfl) ?_
      refine w_end ?_
      refine q_then ?_
      refine c_ret ?_
      refine q_then_r ?_
      obtain rfl := Option.some.inj h
      exact bodyPost_ret (v := (B false)) (results_fr1 Try.results11 rfl _) rfl ⟨_, σ62, rfl, rfl, hK, rfl⟩
    · replace h := bif_f hb67 h
      refine c_skip ?_
      refine q_then ?_
      refine c_seq ?_
      refine rg ?_
      refine st_buildSlice (lo := σ0.size) (el := σ0.size) (xs := ([] : List (List Int))) (ps := []) (cs := []) Try.underlying52 ti24 rfl rfl (by kernel_rfl) (.nil) rfl ?_ hK.size (wanted_none _ rfl _)
      intro b69 σ70 hbn72 m71 hO68
      have hd73 := hO8.df' hbn72
      have hd74 := hO19.df' hbn72
      replace hO8 := hO8.mod0 m71
      replace hO19 := hO19.mod0 m71
      replace hK := hK.none m71
      clear hbn72 m71
      refine st (v := (Sl (some ⟨b69, 0, none⟩) ([] : List (List Int)) 0)) (rv_assign rfl) ?_
      refine w_end ?_
      refine q_then ?_
      refine c_seq ?_
      refine c_seq ?_
      refine rg ?_
      refine st (v := (Sl a6 r2 c7)) (rv_move rfl) ?_
      refine st (v := (I (r2.length : Int))) (rv_len Try.underlying52 rfl) ?_
      refine st (v := (I (w64 ((r2.length : Int) - 1)))) (rv_sub (a := (r2.length : Int)) (b := 1) rfl rfl) ?_
      refine st (v := (I (w64 ((r2.length : Int) - 1)))) (rv_assign rfl) ?_
      refine w_end ?_
      refine q_then ?_
      obtain ⟨o75, hj, h'⟩ := bind_some h
      clear h
      refine c_cut (fun e a w => e = .normal ∧ ∃ (ρ : Nat → Value) (σ : St) (aj2 : Option Addr) (cj3 : Nat), a = fr 38 (updL ρ [(4, (Sl a17 r13 c18)), (5, (Sl aj2 o75 cj3))]) ∧ w = σ.w ∧ Mod none σ0 σ ∧ Ow σ σ0.size σ0.size (Sl a17 r13 c18) r13 ∧ Ow σ σ0.size σ0.size (Sl aj2 o75 cj3) o75 ∧ Df (blk (Sl aj2 o75 cj3)) (blk (Sl a17 r13 c18))) ?_ ?_
      · clear h'
        rename _ = some o75 => h
        refine c_blk ?_
        refine wp_loopM _ h (fun s76 a w => ∃ (ρ : Nat → Value) (σ : St) (aj3 : Option Addr) (cj4 : Nat), a = fr 38 (updL ρ [(3, (Sl a6 r2 c7)), (4, (Sl a17 r13 c18)), (5, (Sl aj3 s76.1 cj4)), (6, (I s76.2))]) ∧ w = σ.w ∧ Mod none σ0 σ ∧ Ow σ σ0.size σ0.size (Sl a6 r2 c7) r2 ∧ Ow σ σ0.size σ0.size (Sl a17 r13 c18) r13 ∧ Ow σ σ0.size σ0.size (Sl aj3 s76.1 cj4) s76.1 ∧ Df (blk (Sl a17 r13 c18)) (blk (Sl a6 r2 c7)) ∧ Df (blk (Sl aj3 s76.1 cj4)) (blk (Sl a6 r2 c7)) ∧ Df (blk (Sl aj3 s76.1 cj4)) (blk (Sl a17 r13 c18))) ⟨_, σ70, (some ⟨b69, 0, none⟩), 0, fr_join ⟨rfl, rfl, rfl, rfl, trivial⟩, rfl, hK, hO8, hO19, hO68, (hd26).symm, (hd73).symm, (hd74).symm⟩ ?_
        clear h
        rintro s76 a w o ⟨ρ, σ78, a81, c82, rfl, rfl, hK, hO79, hO80, hO83, hd84, hd85, hd86⟩ h hres
        refine c_seq ?_
        refine c_seq ?_
        refine rg ?_
        refine st (v := (I s76.2)) (rv_move rfl) ?_
        refine st (v := (B (decide (0 ≤ s76.2)))) (rv_geq (a := s76.2) (b := 0) rfl rfl) ?_
        refine w_end ?_
        refine q_then ?_
        refine cd_cond (decide (0 ≤ s76.2)) rfl (fun hb87 => ?_) (fun hb87 => ?_)
        · replace h := bif_t hb87 h
          refine c_skip ?_
          refine q_then ?_
          refine c_seq ?_
          refine c_blk ?_
          refine rg ?_
          refine st (v := (Sl a81 s76.1 c82)) (rv_move rfl) ?_
          refine st (v := (Sl a6 r2 c7)) (rv_move rfl) ?_
          refine st (v := (I s76.2)) (rv_move rfl) ?_
          obtain ⟨x88, hx89, h'⟩ := bind_some h
          clear h
          have h := h'; clear h'
          obtain ⟨b91, o92, hi90, -⟩ := hO79.ix hx89
          refine st (v := (pt b91 o92)) (rv_ix Try.underlying52 ti24 rfl rfl hi90) ?_
          obtain ⟨v96, hc97, hR95⟩ := (hO79.at hx89 hi90).slice
          obtain ⟨a93, c94, rfl⟩ := hR95.isSl
          refine st (v := (Sl a93 x88 c94)) (rv_load1 Try.underlying24 rfl rfl hc97) ?_
          refine st_buildSlice (lo := σ0.size) (el := σ0.size) (xs := ([x88] : List (List Int))) (ps := [(0, (Sl a93 x88 c94))]) (cs := [(Sl a93 x88 c94)]) Try.underlying52 ti24 rfl rfl (by kernel_rfl) (.cons (c := [(Sl a93 x88 c94)]) ⟨_, rfl, hR95⟩ (.nil)) rfl ?_ hK.size (wanted_none _ rfl _)
          intro b99 σ100 hbn102 m101 hO98
          have hd103 := hO79.df' hbn102
          have hd104 := hO80.df' hbn102
          have hd105 := hO83.df' hbn102
          replace hO79 := hO79.mod0 m101
          replace hO80 := hO80.mod0 m101
          replace hO83 := hO83.mod0 m101
          replace hR95 := hR95.mod m101
          replace hK := hK.none m101
          clear hbn102 m101
          obtain ⟨xs106, hx107, h'⟩ := bind_some h
          clear h
          have h := h'; clear h'
          have hg108 := hO83.ge
          refine st_append Try.underlying52 Try.underlying52 ti24 rfl rfl (by decide) hO83 hO98.rd hx107 hK.size rfl rfl ?_ (wanted_none _ rfl _)
          have hd115 := hO79.ltb
          have hd116 := hO80.ltb
          intro a113 c114 σ109 m110 hO111 hq112
          replace hO79 := hO79.mod' m110 (hd85).symm
          replace hO80 := hO80.mod' m110 (hd86).symm
          replace hK := hK.own m110 hg108
          have hd117 := Df.app (hd85).symm hd115 hq112
          have hd118 := Df.app (hd86).symm hd116 hq112
          clear hq112 m110
          refine st (v := (Sl a113 xs106 c114)) (rv_assign rfl) ?_
          refine w_end ?_
          refine q_blk ?_
          refine q_then ?_
          refine rg ?_
          refine st (v := (I s76.2)) (rv_move rfl) ?_
          refine st (v := (I (w64 (s76.2 - 1)))) (rv_sub (a := s76.2) (b := 1) rfl rfl) ?_
          refine st (v := (I (w64 (s76.2 - 1)))) (rv_assign rfl) ?_
          refine w_end ?_
          refine q_then ?_
          obtain rfl := Option.some.inj h
          exact ⟨_, rfl, _, σ109, a113, c114, fr_join ⟨rfl, rfl, rfl, rfl, trivial⟩, rfl, hK, hO79, hO80, hO111, hd84, (hd117).symm, (hd118).symm⟩
        · replace h := bif_f hb87 h
          refine c_exit ?_
          refine q_then_x ?_
          refine q_then_x ?_
          refine q_blk_hit ?_
          obtain rfl := Option.some.inj h
          obtain rfl := hres _ rfl
          exact ⟨rfl, _, σ78, a81, c82, fr_join ⟨rfl, rfl, trivial⟩, rfl, hK, hO80, hO83, hd86⟩
      · clear hj
        have h := h'
        clear h'
        rintro e a w ⟨rfl, ρ, σ119, a121, c122, rfl, rfl, hK, hO120, hO123, hd124⟩
        refine q_then ?_
        refine c_seq ?_
        refine rg ?_
        refine st (v := (Sl a121 o75 c122)) (rv_move rfl) ?_
        have hg129 := hO123.ge
        obtain ⟨σ125, hw128, m126, hR127⟩ := hO123.pub' (Nat.le_refl _)
        rw [← hw128]; clear hw128
        replace hO120 := hO120.mod' m126 (hd124).symm
        replace hK := hK.own m126 hg129
        obtain ⟨r130, hx131, h'⟩ := bind_some h
        clear h
        have h := h'; clear h'
        refine st_call (c_impl_MeanOf (hR127.low (Nat.zero_le _)) hx131) rfl ?_
        have hd137 := hO120.ltb
        have hKs := hK.size
        rintro _ σ132 m133 ⟨a134, c135, rfl, hO136⟩
        replace hO120 := hO120.mod0 m133
        replace hR127 := hR127.mod m133
        replace hK := hK.none m133
        have hO136g := hO136.ge
        replace hO136 := hO136.lo hKs
        replace hO136 := hO136.low' hKs
        have hd138 := Df.ge hd137 hO136g
        clear hKs m133 hO136g
        refine st (v := (Sl a17 r13 c18)) (rv_move rfl) ?_
        have hg143 := hO136.ge
        obtain ⟨σ139, hw142, m140, hR141⟩ := hO136.pub' (Nat.le_refl _)
        rw [← hw142]; clear hw142
        replace hO120 := hO120.mod' m140 hd138
        replace hK := hK.own m140 hg143
        have hg148 := hO120.ge
        obtain ⟨σ144, hw147, m145, hR146⟩ := hO120.pub' (Nat.le_refl _)
        rw [← hw147]; clear hw147
        replace hR141 := hR141.mod m145
        replace hK := hK.own m145 hg148
        obtain ⟨r149, hx150, h'⟩ := bind_some h
        clear h
        have h := h'; clear h'
        refine st_call (c_laws_equalInts (hR141.low (Nat.zero_le _)) (hR146.low (Nat.zero_le _)) hx150) rfl ?_
        have hKs := hK.size
        rintro _ σ151 m152 rfl
        replace hR141 := hR141.mod m152
        replace hR146 := hR146.mod m152
        replace hK := hK.none m152
        clear hKs m152
        refine st (v := (B r149)) (rv_assign rfl) ?_
        refine w_end ?_
        refine q_then ?_
        refine c_ret ?_
        obtain rfl := Option.some.inj h
        exact bodyPost_ret (v := (B r149)) (results_fr1 Try.results11 rfl _) rfl ⟨_, σ151, rfl, rfl, hK, rfl⟩

theorem c_spec_DrawMoveTo {σ0 : St} {code_0 : List UInt8} {acode_0 : Option Addr} {ccode_0 : Nat} (hRcode_0 : RS 0 σ0 (Sl acode_0 code_0 ccode_0) code_0) {r : (List Int) × (List Int) × Int} (h : M.spec_DrawMoveTo code_0 = some r) :
    Cal Try.prog 41 [(Sl acode_0 code_0 ccode_0)] none σ0 (fun v σ' => ∃ (a0 : Option Addr) (c0 : Nat), ∃ (a1 : Option Addr) (c1 : Nat), v = (.tuple #[(Sl a0 r.1 c0), (Sl a1 r.2.1 c1), (I r.2.2)]) ∧ Ow σ' σ0.size σ0.size (Sl a0 r.1 c0) r.1 ∧ Ow σ' σ0.size σ0.size (Sl a1 r.2.1 c1) r.2.1 ∧ Df (blk (Sl a1 r.2.1 c1)) (blk (Sl a0 r.1 c0))) := by
  refine ⟨⟨_, _, Try.func41, rfl, rfl⟩, ?_⟩
  refine enter (n := 19) Try.func41 rfl rfl rfl ?_
  unfold M.spec_DrawMoveTo at h
  have hK : Mod none σ0 σ0 := Mod.refl _ _
  refine c_seq ?_
  refine rg ?_
  refine st (v := (.slice none 0 0)) (rv_assign rfl) ?_
  refine st (v := (.slice none 0 0)) (rv_assign rfl) ?_
  refine st (v := (I 0)) (rv_assign rfl) ?_
  refine w_end ?_
  refine q_then ?_
  refine c_seq ?_
  refine rg ?_
  refine st (v := (Sl acode_0 code_0 ccode_0)) (rv_move rfl) ?_
  obtain ⟨r1, hx2, h'⟩ := bind_some h
  clear h
  have h := h'; clear h'
  refine st_call (c_spec_newReader hRcode_0 hx2) rfl ?_
  have hKs := hK.size
  rintro _ σ3 m4 ⟨b5, a8, c9, rfl, hR10, hge6, hB7⟩
  replace hRcode_0 := hRcode_0.mod m4
  replace hK := hK.none m4
  replace hge6 := Nat.le_trans hKs hge6
  clear hKs m4
  refine st (v := (pt b5 0)) (rv_assign rfl) ?_
  refine w_end ?_
  refine q_then ?_
  refine c_seq ?_
  refine rg ?_
  refine st (v := (pt b5 0)) (rv_move rfl) ?_
  obtain ⟨r11, hx12, h'⟩ := bind_some h
  clear h
  have h := h'; clear h'
  refine st_call (c_spec_anyVector hR10 hB7 hB7.lt hx12) rfl ?_
  have hd22 := hB7.ltb
  have hKs := hK.size
  rintro _ σ13 m14 ⟨a15, c16, a18, c19, rfl, hO17, hR20, hB21⟩
  replace hR10 := hR10.mod m14
  replace hK := hK.some m14 hge6
  have hO17g := hO17.ge
  replace hO17 := hO17.lo hKs
  replace hO17 := hO17.low' hKs
  have hd23 := Df.ge hd22 hO17g
  clear hKs m14 hO17g
  refine st (v := (Sl a15 r11.1 c16)) (rv_assign rfl) ?_
  refine w_end ?_
  refine q_then ?_
  refine c_seq ?_
  refine rg ?_
  refine st (v := (pt b5 0)) (rv_move rfl) ?_
  obtain ⟨r24, hx25, h'⟩ := bind_some h
  clear h
  have h := h'; clear h'
  refine st_call (c_spec_anyVector hR20 hB21 hB21.lt hx25) rfl ?_
  have hd35 := hO17.ltb
  have hd36 := hB21.ltb
  have hKs := hK.size
  rintro _ σ26 m27 ⟨a28, c29, a31, c32, rfl, hO30, hR33, hB34⟩
  replace hR20 := hR20.mod m27
  replace hO17 := hO17.mod' m27 (hd23).symm
  replace hK := hK.some m27 hge6
  have hO30g := hO30.ge
  replace hO30 := hO30.lo hKs
  replace hO30 := hO30.low' hKs
  have hd37 := Df.ge hd35 hO30g
  have hd38 := Df.ge hd36 hO30g
  clear hKs m27 hO30g
  refine st (v := (Sl a28 r24.1 c29)) (rv_assign rfl) ?_
  refine w_end ?_
  refine q_then ?_
  refine c_seq ?_
  refine rg ?_
  refine st (v := (Sl a15 r11.1 c16)) (rv_move rfl) ?_
  refine st (v := (Sl a28 r24.1 c29)) (rv_move rfl) ?_
  refine st (v := (pt b5 0)) (rv_move rfl) ?_
  refine st_buildSlice (lo := σ0.size) (el := σ0.size) (xs := ([0, 500, 1000, 333, 1, 1001, -1] : List Int)) (ps := [(0, (I 0)), (1, (I 500)), (2, (I 1000)), (3, (I 333)), (4, (I 1)), (5, (I 1001)), (6, (I (-1)))]) (cs := [(I 0), (I 500), (I 1000), (I 333), (I 1), (I 1001), (I (-1))]) Try.underlying24 ti3 rfl rfl (by kernel_rfl) (.cons (c := [(I 0)]) rfl (.cons (c := [(I 500)]) rfl (.cons (c := [(I 1000)]) rfl (.cons (c := [(I 333)]) rfl (.cons (c := [(I 1)]) rfl (.cons (c := [(I 1001)]) rfl (.cons (c := [(I (-1))]) rfl (.nil)))))))) rfl ?_ hK.size (wanted_none _ rfl _)
  intro b40 σ41 hbn43 m42 hO39
  have hd44 := hO17.df' hbn43
  have hd45 := hO30.df' hbn43
  have hd46 := hB34.df' hbn43
  replace hO17 := hO17.mod0 m42
  replace hO30 := hO30.mod0 m42
  replace hR33 := hR33.mod m42
  replace hB34 := hB34.mod0 m42
  replace hK := hK.none m42
  clear hbn43 m42
  have hg51 := hO39.ge
  obtain ⟨σ47, hw50, m48, hR49⟩ := hO39.pub' (Nat.le_refl _)
  rw [← hw50]; clear hw50
  replace hO17 := hO17.mod' m48 hd44
  replace hO30 := hO30.mod' m48 hd45
  replace hR33 := hR33.mod m48
  replace hB34 := hB34.mod' m48 hd46
  replace hK := hK.own m48 hg51
  obtain ⟨r52, hx53, h'⟩ := bind_some h
  clear h
  have h := h'; clear h'
  refine st_call (c_spec_reader_one hR33 hB34 hB34.lt (hR49.low (Nat.zero_le _)) hx53) rfl ?_
  have hd60 := hO17.ltb
  have hd61 := hO30.ltb
  have hd62 := hB34.ltb
  have hKs := hK.size
  rintro _ σ54 m55 ⟨a56, c57, rfl, hR58, hB59⟩
  replace hO17 := hO17.mod' m55 (hd23).symm
  replace hO30 := hO30.mod' m55 (hd38).symm
  replace hR33 := hR33.mod m55
  replace hR49 := hR49.mod m55
  replace hK := hK.some m55 hge6
  clear hKs m55
  refine st (v := (Sl a15 r11.1 c16)) (rv_assign rfl) ?_
  refine st (v := (Sl a28 r24.1 c29)) (rv_assign rfl) ?_
  refine st (v := (I r52.1)) (rv_assign rfl) ?_
  refine w_end ?_
  refine q_then ?_
  refine c_ret ?_
  obtain rfl := Option.some.inj h
  exact bodyPost_ret (v := (.tuple #[(Sl a15 r11.1 c16), (Sl a28 r24.1 c29), (I r52.1)])) (results_fr3 Try.results41 rfl rfl rfl _) rfl ⟨_, σ54, rfl, rfl, hK, a15, c16, a28, c29, rfl, hO17, hO30, (hd37).symm⟩

end Go.Vs
