/- The functions compute what their models say. -/
import Derived.Test.YtaknnhnckdifiaaAaC3
set_option linter.unusedVariables false
set_option linter.unusedSimpArgs false
set_option maxRecDepth 20000
namespace Go.Vs
open Go Go.Proofs
attribute [local irreducible] Code.wp wpList wpQuiet Calls

theorem c_laws_FnMoveTo {σ0 : St} {code_0 : List UInt8} {acode_0 : Option Addr} {ccode_0 : Nat} (hRcode_0 : RS 0 σ0 (Sl acode_0 code_0 ccode_0) code_0) {r : Bool} (h : M.laws_FnMoveTo code_0 = some r) :
    Cal Try.prog 11 [(Sl acode_0 code_0 ccode_0)] none σ0 (fun v σ' => v = (B r)) := by
  refine ⟨⟨_, _, Try.func11, rfl, rfl⟩, ?_⟩
  refine enter (n := 87) Try.func11 rfl rfl rfl ?_
  unfold M.laws_FnMoveTo at h
  have hK : Mod none σ0 σ0 := Mod.refl _ _
  refine c_seq ?_
  refine rg ?_
  refine st (v := (B false)) (rv_assign rfl) ?_
  refine w_end ?_
  refine q_then ?_
  refine c_seq ?_
  refine c_seq ?_
  refine rg ?_
  refine st (v := (Sl acode_0 code_0 ccode_0)) (rv_move rfl) ?_
  refine st (v := (I (code_0.length : Int))) (rv_len Try.underlying22 rfl) ?_
  refine st (v := (B (decide (1048576 < (code_0.length : Int))))) (rv_gtr (a := (code_0.length : Int)) (b := 1048576) rfl rfl) ?_
  refine w_end ?_
  refine q_then ?_
  refine cd_cond (decide (1048576 < (code_0.length : Int))) rfl (fun hb1 => ?_) (fun hb1 => ?_)
  · replace h := bif_t hb1 h
    refine c_seq ?_
    refine rg ?_
    refine st (v := (B true)) (rv_assign rfl) ?_
    refine w_end ?_
    refine q_then ?_
    refine c_ret ?_
    refine q_then_r ?_
    obtain rfl := Option.some.inj h
    exact bodyPost_ret (v := (B true)) (results_fr1 Try.results11 rfl _) rfl ⟨_, σ0, rfl, rfl, hK, rfl⟩
  · replace h := bif_f hb1 h
    refine c_skip ?_
    refine q_then ?_
    refine c_seq ?_
    refine rg ?_
    refine st (v := (Sl acode_0 code_0 ccode_0)) (rv_move rfl) ?_
    obtain ⟨r2, hx3, h'⟩ := bind_some h
    clear h
    have h := h'; clear h'
    refine st_call (c_spec_DrawMoveTo hRcode_0 hx3) rfl ?_
    have hKs := hK.size
    rintro _ σ4 m5 ⟨a6, c7, a9, c10, rfl, hO8, hO11, hd12⟩
    replace hRcode_0 := hRcode_0.mod m5
    replace hK := hK.none m5
    have hO8g := hO8.ge
    replace hO8 := hO8.lo hKs
    replace hO8 := hO8.low' hKs
    have hO11g := hO11.ge
    replace hO11 := hO11.lo hKs
    replace hO11 := hO11.low' hKs
    clear hKs m5 hO8g hO11g
    refine st (v := (.tuple #[(Sl a6 r2.1 c7), (Sl a9 r2.2.1 c10), (I r2.2.2)])) (rv_move rfl) ?_
    refine st (v := (Sl a6 r2.1 c7)) (rv_extract rfl rfl) ?_
    refine st (v := (Sl a9 r2.2.1 c10)) (rv_extract rfl rfl) ?_
    refine st (v := (I r2.2.2)) (rv_extract rfl rfl) ?_
    refine st (v := (Sl a6 r2.1 c7)) (rv_assign rfl) ?_
    refine st (v := (Sl a9 r2.2.1 c10)) (rv_assign rfl) ?_
    refine st (v := (I r2.2.2)) (rv_assign rfl) ?_
    refine w_end ?_
    refine q_then ?_
    refine c_seq ?_
    refine rg ?_
    refine st (v := (Sl a6 r2.1 c7)) (rv_move rfl) ?_
    refine st (v := (Sl a9 r2.2.1 c10)) (rv_move rfl) ?_
    refine st (v := (I r2.2.2)) (rv_move rfl) ?_
    obtain ⟨σ13, hw14, m15, hR16⟩ := hO8.pub' (Nat.le_refl _)
    obtain ⟨σ17, hw18, m19, hR20⟩ := (hO11.mod' m15 hd12).pub' (Nat.le_refl _)
    rw [← (hw18.trans hw14)]
    obtain ⟨r21, hx22, h'⟩ := bind_some h
    clear h
    have h := h'; clear h'
    refine st_call (c_impl_MoveTo ((hR16.low (Nat.zero_le _)).mod m19) (hR20.low (Nat.zero_le _)) hx22) rfl ?_
    have hd28 := ltb_size hO8.ltb (hw18.trans hw14)
    have hd29 := ltb_size hO11.ltb (hw18.trans hw14)
    have hKs := size_le hK.size (hw18.trans hw14)
    rintro _ σ23 m24 ⟨a25, c26, rfl, hO27⟩
    obtain ⟨σ30, hw31, m32, hxl33, hvl34⟩ := lent (hw18.trans hw14) m24
    rw [← hw31]
    replace hO27 := hO27.lent (hw18.trans hw14) hw31 hxl33 hvl34 (Nat.le_refl _)
    replace hO8 := hO8.mod0 m32
    replace hO11 := hO11.mod0 m32
    replace hK := hK.none m32
    have hO27g := hO27.ge
    replace hO27 := hO27.lo hKs
    replace hO27 := hO27.low' hKs
    have hd35 := Df.ge hd28 hO27g
    have hd36 := Df.ge hd29 hO27g
    clear hKs m32 hO27g
    refine st (v := (Sl a25 r21 c26)) (rv_assign rfl) ?_
    refine w_end ?_
    refine q_then ?_
    refine c_seq ?_
    refine c_seq ?_
    obtain ⟨o37, hj, h'⟩ := bind_some h
    clear h
    refine c_cut (fun e a w => e = .normal ∧ ∃ (ρ : Nat → Value) (σ : St), a = fr 87 (updL ρ [(3, (Sl a6 r2.1 c7)), (4, (Sl a9 r2.2.1 c10)), (5, (I r2.2.2)), (6, (Sl a25 r21 c26)), (32, (B o37))]) ∧ w = σ.w ∧ Mod none σ0 σ ∧ Ow σ σ0.size σ0.size (Sl a6 r2.1 c7) r2.1 ∧ Ow σ σ0.size σ0.size (Sl a9 r2.2.1 c10) r2.2.1 ∧ Ow σ σ0.size σ0.size (Sl a25 r21 c26) r21 ∧ Df (blk (Sl a9 r2.2.1 c10)) (blk (Sl a6 r2.1 c7)) ∧ Df (blk (Sl a25 r21 c26)) (blk (Sl a6 r2.1 c7)) ∧ Df (blk (Sl a25 r21 c26)) (blk (Sl a9 r2.2.1 c10))) ?_ ?_
    · clear h'
      rename _ = some o37 => h
      refine rg ?_
      refine st (v := (Sl a25 r21 c26)) (rv_move rfl) ?_
      refine st (v := (Sl a6 r2.1 c7)) (rv_move rfl) ?_
      refine st (v := (Sl a9 r2.2.1 c10)) (rv_move rfl) ?_
      refine st (v := (I r2.2.2)) (rv_move rfl) ?_
      obtain ⟨σ38, hw39, m40, hR41⟩ := hO8.pub' (Nat.le_refl _)
      obtain ⟨σ42, hw43, m44, hR45⟩ := (hO11.mod' m40 hd12).pub' (Nat.le_refl _)
      rw [← (hw43.trans hw39)]
      obtain ⟨r46, hx47, h'⟩ := bind_some h
      clear h
      have h := h'; clear h'
      refine st_call (c_spec_MoveTo ((hR41.low (Nat.zero_le _)).mod m44) (hR45.low (Nat.zero_le _)) hx47) rfl ?_
      have hd53 := ltb_size hO8.ltb (hw43.trans hw39)
      have hd54 := ltb_size hO11.ltb (hw43.trans hw39)
      have hd55 := ltb_size hO27.ltb (hw43.trans hw39)
      have hKs := size_le hK.size (hw43.trans hw39)
      rintro _ σ48 m49 ⟨a50, c51, rfl, hO52⟩
      obtain ⟨σ56, hw57, m58, hxl59, hvl60⟩ := lent (hw43.trans hw39) m49
      rw [← hw57]
      replace hO52 := hO52.lent (hw43.trans hw39) hw57 hxl59 hvl60 (Nat.le_refl _)
      replace hO8 := hO8.mod0 m58
      replace hO11 := hO11.mod0 m58
      replace hO27 := hO27.mod0 m58
      replace hK := hK.none m58
      have hO52g := hO52.ge
      replace hO52 := hO52.lo hKs
      replace hO52 := hO52.low' hKs
      have hd61 := Df.ge hd53 hO52g
      have hd62 := Df.ge hd54 hO52g
      have hd63 := Df.ge hd55 hO52g
      clear hKs m58 hO52g
      obtain ⟨σ64, hw65, m66, hR67⟩ := hO27.pub' (Nat.le_refl _)
      obtain ⟨σ68, hw69, m70, hR71⟩ := (hO52.mod' m66 (hd63).symm).pub' (Nat.le_refl _)
      rw [← (hw69.trans hw65)]
      obtain ⟨r72, hx73, h'⟩ := bind_some h
      clear h
      have h := h'; clear h'
      refine st_call (c_laws_equalInts ((hR67.low (Nat.zero_le _)).mod m70) (hR71.low (Nat.zero_le _)) hx73) rfl ?_
      have hd76 := ltb_size hO8.ltb (hw69.trans hw65)
      have hd77 := ltb_size hO11.ltb (hw69.trans hw65)
      have hd78 := ltb_size hO27.ltb (hw69.trans hw65)
      have hd79 := ltb_size hO52.ltb (hw69.trans hw65)
      have hKs := size_le hK.size (hw69.trans hw65)
      rintro _ σ74 m75 rfl
      obtain ⟨σ80, hw81, m82, hxl83, hvl84⟩ := lent (hw69.trans hw65) m75
      rw [← hw81]
      replace hO8 := hO8.mod0 m82
      replace hO11 := hO11.mod0 m82
      replace hO27 := hO27.mod0 m82
      replace hO52 := hO52.mod0 m82
      replace hK := hK.none m82
      clear hKs m82
      refine st (v := (B (!r72))) (rv_not rfl) ?_
      refine st (v := (B (!r72))) (rv_move rfl) ?_
      rcases Bool.eq_false_or_eq_true (!r72) with hb85 | hb85
      · replace h := bif_t hb85 h
        refine st_skip (congrArg some hb85) ?_
        refine st_skip (congrArg some hb85) ?_
        refine st_skip (congrArg some hb85) ?_
        refine st (v := (B true)) (rv_pick_t (congrArg B hb85) rfl) ?_
        refine w_end ?_
        obtain rfl := Option.some.inj h
        exact ⟨rfl, _, σ80, fr_join ⟨rfl, rfl, rfl, rfl, rfl, trivial⟩, rfl, hK, hO8, hO11, hO27, hd12, (hd35).symm, (hd36).symm⟩
      · replace h := bif_f hb85 h
        refine st_g (v := (Sl a25 r21 c26)) (congrArg some hb85) (rv_move rfl) ?_
        refine st_g (v := (I (r21.length : Int))) (congrArg some hb85) (rv_len Try.underlying23 rfl) ?_
        refine st_g (v := (B ((r21.length : Int) == 0))) (congrArg some hb85) (rv_eql (a := (r21.length : Int)) (b := 0) rfl rfl) ?_
        refine st (v := (B ((r21.length : Int) == 0))) (rv_pick_f (congrArg B hb85) rfl) ?_
        refine w_end ?_
        obtain rfl := Option.some.inj h
        exact ⟨rfl, _, σ80, fr_join ⟨rfl, rfl, rfl, rfl, rfl, trivial⟩, rfl, hK, hO8, hO11, hO27, hd12, (hd35).symm, (hd36).symm⟩
    · clear hj
      have h := h'
      clear h'
      rintro e a w ⟨rfl, ρ, σ86, rfl, rfl, hK, hO87, hO88, hO89, hd90, hd91, hd92⟩
      refine q_then ?_
      refine cd_cond o37 rfl (fun hb93 => ?_) (fun hb93 => ?_)
      · replace h := bif_t hb93 h
        refine c_seq ?_
        refine rg ?_
        refine st (v := (Sl a25 r21 c26)) (rv_move rfl) ?_
        refine st (v := (Sl a6 r2.1 c7)) (rv_move rfl) ?_
        refine st (v := (Sl a9 r2.2.1 c10)) (rv_move rfl) ?_
        refine st (v := (I r2.2.2)) (rv_move rfl) ?_
        have hg98 := hO87.ge
        obtain ⟨σ94, hw97, m95, hR96⟩ := hO87.pub' (Nat.le_refl _)
        rw [← hw97]; clear hw97
        replace hO89 := hO89.mod' m95 hd91
        replace hO88 := hO88.mod' m95 hd90
        replace hK := hK.own m95 hg98
        have hg103 := hO88.ge
        obtain ⟨σ99, hw102, m100, hR101⟩ := hO88.pub' (Nat.le_refl _)
        rw [← hw102]; clear hw102
        replace hO89 := hO89.mod' m100 hd92
        replace hR96 := hR96.mod m100
        replace hK := hK.own m100 hg103
        obtain ⟨r104, hx105, h'⟩ := bind_some h
        clear h
        have h := h'; clear h'
        refine st_call (c_spec_MoveTo (hR96.low (Nat.zero_le _)) (hR101.low (Nat.zero_le _)) hx105) rfl ?_
        have hd111 := hO89.ltb
        have hKs := hK.size
        rintro _ σ106 m107 ⟨a108, c109, rfl, hO110⟩
        replace hO89 := hO89.mod0 m107
        replace hR96 := hR96.mod m107
        replace hR101 := hR101.mod m107
        replace hK := hK.none m107
        have hO110g := hO110.ge
        replace hO110 := hO110.lo hKs
        replace hO110 := hO110.low' hKs
        have hd112 := Df.ge hd111 hO110g
        clear hKs m107 hO110g
        have hg117 := hO89.ge
        obtain ⟨σ113, hw116, m114, hR115⟩ := hO89.pub' (Nat.le_refl _)
        rw [← hw116]; clear hw116
        replace hO110 := hO110.mod' m114 (hd112).symm
        replace hK := hK.own m114 hg117
        have hg122 := hO110.ge
        obtain ⟨σ118, hw121, m119, hR120⟩ := hO110.pub' (Nat.le_refl _)
        rw [← hw121]; clear hw121
        replace hR115 := hR115.mod m119
        replace hK := hK.own m119 hg122
        obtain ⟨r123, hx124, h'⟩ := bind_some h
        clear h
        have h := h'; clear h'
        refine st_call (c_laws_equalInts (hR115.low (Nat.zero_le _)) (hR120.low (Nat.zero_le _)) hx124) rfl ?_
        have hKs := hK.size
        rintro _ σ125 m126 rfl
        replace hR115 := hR115.mod m126
        replace hR120 := hR120.mod m126
        replace hK := hK.none m126
        clear hKs m126
        refine st (v := (B r123)) (rv_assign rfl) ?_
        refine w_end ?_
        refine q_then ?_
        refine c_ret ?_
        refine q_then_r ?_
        obtain rfl := Option.some.inj h
        exact bodyPost_ret (v := (B r123)) (results_fr1 Try.results11 rfl _) rfl ⟨_, σ125, rfl, rfl, hK, rfl⟩
      · replace h := bif_f hb93 h
        refine c_skip ?_
        refine q_then ?_
        refine c_seq ?_
        refine c_seq ?_
        refine rg ?_
        refine st (v := (I 0)) (rv_assign rfl) ?_
        refine w_end ?_
        refine q_then ?_
        obtain ⟨o127, hj, h'⟩ := bind_some h
        clear h
        refine c_cut (fun e a w => (∃ t, o127 = (.inl t) ∧ e = .normal ∧ ∃ (ρ : Nat → Value) (σ : St), a = fr 87 (updL ρ [(3, (Sl a6 r2.1 c7)), (4, (Sl a9 r2.2.1 c10))]) ∧ w = σ.w ∧ Mod none σ0 σ ∧ Ow σ σ0.size σ0.size (Sl a6 r2.1 c7) r2.1 ∧ Ow σ σ0.size σ0.size (Sl a9 r2.2.1 c10) r2.2.1 ∧ Df (blk (Sl a9 r2.2.1 c10)) (blk (Sl a6 r2.1 c7))) ∨ (∃ t, o127 = (.inr t) ∧ e = .ret ∧ ∃ (ρ : Nat → Value) (σ : St), a = fr 87 (updL ρ [(2, (B t))]) ∧ w = σ.w ∧ Mod none σ0 σ)) ?_ ?_
        · clear h'
          rename _ = some o127 => h
          refine c_blk ?_
          refine wp_loopM _ h (fun s128 a w => ∃ (ρ : Nat → Value) (σ : St), a = fr 87 (updL ρ [(3, (Sl a6 r2.1 c7)), (4, (Sl a9 r2.2.1 c10)), (6, (Sl a25 r21 c26)), (7, (I s128))]) ∧ w = σ.w ∧ Mod none σ0 σ ∧ Ow σ σ0.size σ0.size (Sl a6 r2.1 c7) r2.1 ∧ Ow σ σ0.size σ0.size (Sl a9 r2.2.1 c10) r2.2.1 ∧ Ow σ σ0.size σ0.size (Sl a25 r21 c26) r21 ∧ Df (blk (Sl a9 r2.2.1 c10)) (blk (Sl a6 r2.1 c7)) ∧ Df (blk (Sl a25 r21 c26)) (blk (Sl a6 r2.1 c7)) ∧ Df (blk (Sl a25 r21 c26)) (blk (Sl a9 r2.2.1 c10))) ⟨_, σ86, fr_join ⟨rfl, rfl, rfl, rfl, trivial⟩, rfl, hK, hO87, hO88, hO89, hd90, hd91, hd92⟩ ?_
          clear h
          rintro s128 a w o ⟨ρ, σ130, rfl, rfl, hK, hO131, hO132, hO133, hd134, hd135, hd136⟩ h hres
          refine c_seq ?_
          refine c_seq ?_
          refine rg ?_
          refine st (v := (I s128)) (rv_move rfl) ?_
          refine st (v := (Sl a25 r21 c26)) (rv_move rfl) ?_
          refine st (v := (I (r21.length : Int))) (rv_len Try.underlying23 rfl) ?_
          refine st (v := (B (decide (s128 < (r21.length : Int))))) (rv_lss (a := s128) (b := (r21.length : Int)) rfl rfl) ?_
          refine w_end ?_
          refine q_then ?_
          refine cd_cond (decide (s128 < (r21.length : Int))) rfl (fun hb137 => ?_) (fun hb137 => ?_)
          · replace h := bif_t hb137 h
            refine c_skip ?_
            refine q_then ?_
            refine c_seq ?_
            refine c_blk ?_
            refine c_seq ?_
            obtain ⟨o138, hj, h'⟩ := bind_some h
            clear h
            refine c_cut (fun e a w => e = .normal ∧ ∃ (ρ : Nat → Value) (σ : St), a = fr 87 (updL ρ [(3, (Sl a6 r2.1 c7)), (4, (Sl a9 r2.2.1 c10)), (6, (Sl a25 r21 c26)), (7, (I s128)), (74, (B o138))]) ∧ w = σ.w ∧ Mod none σ0 σ ∧ Ow σ σ0.size σ0.size (Sl a6 r2.1 c7) r2.1 ∧ Ow σ σ0.size σ0.size (Sl a9 r2.2.1 c10) r2.2.1 ∧ Ow σ σ0.size σ0.size (Sl a25 r21 c26) r21 ∧ Df (blk (Sl a9 r2.2.1 c10)) (blk (Sl a6 r2.1 c7)) ∧ Df (blk (Sl a25 r21 c26)) (blk (Sl a6 r2.1 c7)) ∧ Df (blk (Sl a25 r21 c26)) (blk (Sl a9 r2.2.1 c10))) ?_ ?_
            · clear h'
              rename _ = some o138 => h
              obtain ⟨x139, hx140, h'⟩ := bind_some h
              clear h
              have h := h'; clear h'
              obtain ⟨b142, o143, hi141, -⟩ := hO133.ix hx140
              obtain ⟨x144, hx145, h'⟩ := bind_some h
              clear h
              have h := h'; clear h'
              obtain ⟨b147, o148, hi146, -⟩ := hO131.ix hx145
              obtain ⟨x149, hx150, h'⟩ := bind_some h
              clear h
              have h := h'; clear h'
              obtain ⟨b152, o153, hi151, -⟩ := hO132.ix hx150
              rcases Bool.eq_false_or_eq_true (decide (x139 < (min x144 x149))) with hb154 | hb154
              · replace h := bif_t hb154 h
                refine rg_monoL (σ := σ130) 28 [eqv (Sl a25 r21 c26), eqv (I s128), eqv (pt b142 o143), eqv (I x139), eqv (Sl a6 r2.1 c7), eqv (I s128), eqv (pt b147 o148), eqv (I x144), eqv (Sl a9 r2.2.1 c10), eqv (I s128), eqv (pt b152 o153), eqv (I x149), eqv (I (min x144 x149)), eqv (B (decide (x139 < (min x144 x149)))), eqv (B (decide (x139 < (min x144 x149)))), eqv undef, eqv undef, eqv undef, eqv undef, eqv undef, eqv undef, eqv undef, eqv undef, eqv undef, eqv undef, eqv undef, eqv undef, eqv undef] (by kernel_rfl) (by kernel_rfl) (mono_cons mono_eqv (mono_cons mono_eqv (mono_cons mono_eqv (mono_cons mono_eqv (mono_cons mono_eqv (mono_cons mono_eqv (mono_cons mono_eqv (mono_cons mono_eqv (mono_cons mono_eqv (mono_cons mono_eqv (mono_cons mono_eqv (mono_cons mono_eqv (mono_cons mono_eqv (mono_cons mono_eqv (mono_cons mono_eqv (mono_cons mono_eqv (mono_cons mono_eqv (mono_cons mono_eqv (mono_cons mono_eqv (mono_cons mono_eqv (mono_cons mono_eqv (mono_cons mono_eqv (mono_cons mono_eqv (mono_cons mono_eqv (mono_cons mono_eqv (mono_cons mono_eqv (mono_cons mono_eqv (mono_cons mono_eqv (mono_nil))))))))))))))))))))))))))))) ?_ ?_
                · refine all_cons (by
                      intro ρ σm m hoff hdep
                      have e6 : look 87 ρ 6 = (Sl a25 r21 c26) := look_off (hoff 6 rfl) rfl
                      exact does_v (v := (Sl a25 r21 c26)) (wanted_none _ rfl _) (rv_move e6) rfl) ?_
                  refine all_cons (by
                      intro ρ σm m hoff hdep
                      have e7 : look 87 ρ 7 = (I s128) := look_off (hoff 7 rfl) rfl
                      exact does_v (v := (I s128)) (wanted_none _ rfl _) (rv_move e7) rfl) ?_
                  refine all_cons (by
                      intro ρ σm m hoff hdep
                      have e45 : look 87 ρ 45 = (Sl a25 r21 c26) := hdep 0 rfl rfl 45 rfl
                      have e46 : look 87 ρ 46 = (I s128) := hdep 1 rfl rfl 46 rfl
                      exact does_v (v := (pt b142 o143)) (wanted_none _ rfl _) (rv_ix Try.underlying23 ti3 e45 e46 hi141) rfl) ?_
                  refine all_cons (by
                      intro ρ σm m hoff hdep
                      have e47 : look 87 ρ 47 = (pt b142 o143) := hdep 2 rfl rfl 47 rfl
                      replace hO133 := hO133.mod0 m
                      exact does_v (v := (I x139)) (wanted_none _ rfl _) (rv_load1 Try.underlying3 rfl e47 (hO133.at hx140 hi141).int) rfl) ?_
                  refine all_cons (by
                      intro ρ σm m hoff hdep
                      have e3 : look 87 ρ 3 = (Sl a6 r2.1 c7) := look_off (hoff 3 rfl) rfl
                      exact does_v (v := (Sl a6 r2.1 c7)) (wanted_none _ rfl _) (rv_move e3) rfl) ?_
                  refine all_cons (by
                      intro ρ σm m hoff hdep
                      have e7 : look 87 ρ 7 = (I s128) := look_off (hoff 7 rfl) rfl
                      exact does_v (v := (I s128)) (wanted_none _ rfl _) (rv_move e7) rfl) ?_
                  refine all_cons (by
                      intro ρ σm m hoff hdep
                      have e49 : look 87 ρ 49 = (Sl a6 r2.1 c7) := hdep 4 rfl rfl 49 rfl
                      have e50 : look 87 ρ 50 = (I s128) := hdep 5 rfl rfl 50 rfl
                      exact does_v (v := (pt b147 o148)) (wanted_none _ rfl _) (rv_ix Try.underlying23 ti3 e49 e50 hi146) rfl) ?_
                  refine all_cons (by
                      intro ρ σm m hoff hdep
                      have e51 : look 87 ρ 51 = (pt b147 o148) := hdep 6 rfl rfl 51 rfl
                      replace hO131 := hO131.mod0 m
                      exact does_v (v := (I x144)) (wanted_none _ rfl _) (rv_load1 Try.underlying3 rfl e51 (hO131.at hx145 hi146).int) rfl) ?_
                  refine all_cons (by
                      intro ρ σm m hoff hdep
                      have e4 : look 87 ρ 4 = (Sl a9 r2.2.1 c10) := look_off (hoff 4 rfl) rfl
                      exact does_v (v := (Sl a9 r2.2.1 c10)) (wanted_none _ rfl _) (rv_move e4) rfl) ?_
                  refine all_cons (by
                      intro ρ σm m hoff hdep
                      have e7 : look 87 ρ 7 = (I s128) := look_off (hoff 7 rfl) rfl
                      exact does_v (v := (I s128)) (wanted_none _ rfl _) (rv_move e7) rfl) ?_
                  refine all_cons (by
                      intro ρ σm m hoff hdep
                      have e53 : look 87 ρ 53 = (Sl a9 r2.2.1 c10) := hdep 8 rfl rfl 53 rfl
                      have e54 : look 87 ρ 54 = (I s128) := hdep 9 rfl rfl 54 rfl
                      exact does_v (v := (pt b152 o153)) (wanted_none _ rfl _) (rv_ix Try.underlying23 ti3 e53 e54 hi151) rfl) ?_
                  refine all_cons (by
                      intro ρ σm m hoff hdep
                      have e55 : look 87 ρ 55 = (pt b152 o153) := hdep 10 rfl rfl 55 rfl
                      replace hO132 := hO132.mod0 m
                      exact does_v (v := (I x149)) (wanted_none _ rfl _) (rv_load1 Try.underlying3 rfl e55 (hO132.at hx150 hi151).int) rfl) ?_
                  refine all_cons (by
                      intro ρ σm m hoff hdep
                      have e52 : look 87 ρ 52 = (I x144) := hdep 7 rfl rfl 52 rfl
                      have e56 : look 87 ρ 56 = (I x149) := hdep 11 rfl rfl 56 rfl
                      exact does_v (v := (I (min x144 x149))) (wanted_none _ rfl _) (rv_min e52 e56) rfl) ?_
                  refine all_cons (by
                      intro ρ σm m hoff hdep
                      have e48 : look 87 ρ 48 = (I x139) := hdep 3 rfl rfl 48 rfl
                      have e57 : look 87 ρ 57 = (I (min x144 x149)) := hdep 12 rfl rfl 57 rfl
                      exact does_v (v := (B (decide (x139 < (min x144 x149))))) (wanted_none _ rfl _) (rv_lss (a := x139) (b := (min x144 x149)) e48 e57) rfl) ?_
                  refine all_cons (by
                      intro ρ σm m hoff hdep
                      have e58 : look 87 ρ 58 = (B (decide (x139 < (min x144 x149)))) := hdep 13 rfl rfl 58 rfl
                      exact does_v (v := (B (decide (x139 < (min x144 x149))))) (wanted_none _ rfl _) (rv_move e58) rfl) ?_
                  refine all_cons (by
                      intro ρ σm m hoff hdep
                      have e59 : look 87 ρ 59 = (B (decide (x139 < (min x144 x149)))) := hdep 14 rfl rfl 59 rfl
                      exact does_skip (wanted_no rfl (yv_of rfl (e59.trans (congrArg B hb154)))) rfl) ?_
                  refine all_cons (by
                      intro ρ σm m hoff hdep
                      have e59 : look 87 ρ 59 = (B (decide (x139 < (min x144 x149)))) := hdep 14 rfl rfl 59 rfl
                      exact does_skip (wanted_no rfl (yv_of rfl (e59.trans (congrArg B hb154)))) rfl) ?_
                  refine all_cons (by
                      intro ρ σm m hoff hdep
                      have e59 : look 87 ρ 59 = (B (decide (x139 < (min x144 x149)))) := hdep 14 rfl rfl 59 rfl
                      exact does_skip (wanted_no rfl (yv_of rfl (e59.trans (congrArg B hb154)))) rfl) ?_
                  refine all_cons (by
                      intro ρ σm m hoff hdep
                      have e59 : look 87 ρ 59 = (B (decide (x139 < (min x144 x149)))) := hdep 14 rfl rfl 59 rfl
                      exact does_skip (wanted_no rfl (yv_of rfl (e59.trans (congrArg B hb154)))) rfl) ?_
                  refine all_cons (by
                      intro ρ σm m hoff hdep
                      have e59 : look 87 ρ 59 = (B (decide (x139 < (min x144 x149)))) := hdep 14 rfl rfl 59 rfl
                      exact does_skip (wanted_no rfl (yv_of rfl (e59.trans (congrArg B hb154)))) rfl) ?_
                  refine all_cons (by
                      intro ρ σm m hoff hdep
                      have e59 : look 87 ρ 59 = (B (decide (x139 < (min x144 x149)))) := hdep 14 rfl rfl 59 rfl
                      exact does_skip (wanted_no rfl (yv_of rfl (e59.trans (congrArg B hb154)))) rfl) ?_
                  refine all_cons (by
                      intro ρ σm m hoff hdep
                      have e59 : look 87 ρ 59 = (B (decide (x139 < (min x144 x149)))) := hdep 14 rfl rfl 59 rfl
                      exact does_skip (wanted_no rfl (yv_of rfl (e59.trans (congrArg B hb154)))) rfl) ?_
                  refine all_cons (by
                      intro ρ σm m hoff hdep
                      have e59 : look 87 ρ 59 = (B (decide (x139 < (min x144 x149)))) := hdep 14 rfl rfl 59 rfl
                      exact does_skip (wanted_no rfl (yv_of rfl (e59.trans (congrArg B hb154)))) rfl) ?_
                  refine all_cons (by
                      intro ρ σm m hoff hdep
                      have e59 : look 87 ρ 59 = (B (decide (x139 < (min x144 x149)))) := hdep 14 rfl rfl 59 rfl
                      exact does_skip (wanted_no rfl (yv_of rfl (e59.trans (congrArg B hb154)))) rfl) ?_
                  refine all_cons (by
                      intro ρ σm m hoff hdep
                      have e59 : look 87 ρ 59 = (B (decide (x139 < (min x144 x149)))) := hdep 14 rfl rfl 59 rfl
                      exact does_skip (wanted_no rfl (yv_of rfl (e59.trans (congrArg B hb154)))) rfl) ?_
                  refine all_cons (by
                      intro ρ σm m hoff hdep
                      have e59 : look 87 ρ 59 = (B (decide (x139 < (min x144 x149)))) := hdep 14 rfl rfl 59 rfl
                      exact does_skip (wanted_no rfl (yv_of rfl (e59.trans (congrArg B hb154)))) rfl) ?_
                  refine all_cons (by
                      intro ρ σm m hoff hdep
                      have e59 : look 87 ρ 59 = (B (decide (x139 < (min x144 x149)))) := hdep 14 rfl rfl 59 rfl
                      exact does_skip (wanted_no rfl (yv_of rfl (e59.trans (congrArg B hb154)))) rfl) ?_
                  refine all_cons (by
                      intro ρ σm m hoff hdep
                      have e59 : look 87 ρ 59 = (B (decide (x139 < (min x144 x149)))) := hdep 14 rfl rfl 59 rfl
                      exact does_skip (wanted_no rfl (yv_of rfl (e59.trans (congrArg B hb154)))) rfl) ?_
                  exact all_nil
                · intro ρ σ155 m hoff hrel
                  have e3 : look 87 ρ 3 = (Sl a6 r2.1 c7) := look_off (hoff 3 rfl) rfl
                  have e4 : look 87 ρ 4 = (Sl a9 r2.2.1 c10) := look_off (hoff 4 rfl) rfl
                  have e6 : look 87 ρ 6 = (Sl a25 r21 c26) := look_off (hoff 6 rfl) rfl
                  have e7 : look 87 ρ 7 = (I s128) := look_off (hoff 7 rfl) rfl
                  have e59 : look 87 ρ 59 = (B (decide (x139 < (min x144 x149)))) := hrel 14 rfl 59 rfl
                  have e63 : look 87 ρ 63 = undef := hrel 18 rfl 63 rfl
                  have e72 : look 87 ρ 72 = undef := hrel 27 rfl 72 rfl
                  replace hO131 := hO131.mod0 m
                  replace hO132 := hO132.mod0 m
                  replace hO133 := hO133.mod0 m
                  replace hK := hK.none m
                  rw [fr_lookL (L := [(3, (Sl a6 r2.1 c7)), (4, (Sl a9 r2.2.1 c10)), (6, (Sl a25 r21 c26)), (7, (I s128)), (59, (B (decide (x139 < (min x144 x149))))), (63, undef), (72, undef)]) ⟨e3, e4, e6, e7, e59, e63, e72, trivial⟩]
                  clear hoff hrel m e3 e4 e6 e7 e59 e63 e72
                  refine st_skip (congrArg some hb154) ?_
                  refine st (v := (B true)) (rv_pick_t (congrArg B hb154) rfl) ?_
                  refine w_end ?_
                  obtain rfl := Option.some.inj h
                  exact ⟨rfl, _, σ155, fr_join ⟨rfl, rfl, rfl, rfl, rfl, trivial⟩, rfl, hK, hO131, hO132, hO133, hd134, hd135, hd136⟩
              · replace h := bif_f hb154 h
                obtain ⟨x156, hx157, h'⟩ := bind_some h
                clear h
                have h := h'; clear h'
                obtain ⟨b159, o160, hi158, -⟩ := hO133.ix hx157
                obtain ⟨x161, hx162, h'⟩ := bind_some h
                clear h
                have h := h'; clear h'
                obtain ⟨b164, o165, hi163, -⟩ := hO131.ix hx162
                obtain ⟨x166, hx167, h'⟩ := bind_some h
                clear h
                have h := h'; clear h'
                obtain ⟨b169, o170, hi168, -⟩ := hO132.ix hx167
                refine rg_monoL (σ := σ130) 28 [eqv (Sl a25 r21 c26), eqv (I s128), eqv (pt b142 o143), eqv (I x139), eqv (Sl a6 r2.1 c7), eqv (I s128), eqv (pt b147 o148), eqv (I x144), eqv (Sl a9 r2.2.1 c10), eqv (I s128), eqv (pt b152 o153), eqv (I x149), eqv (I (min x144 x149)), eqv (B (decide (x139 < (min x144 x149)))), eqv (B (decide (x139 < (min x144 x149)))), eqv (Sl a25 r21 c26), eqv (I s128), eqv (pt b159 o160), eqv (I x156), eqv (Sl a6 r2.1 c7), eqv (I s128), eqv (pt b164 o165), eqv (I x161), eqv (Sl a9 r2.2.1 c10), eqv (I s128), eqv (pt b169 o170), eqv (I x166), eqv (I (max x161 x166))] (by kernel_rfl) (by kernel_rfl) (mono_cons mono_eqv (mono_cons mono_eqv (mono_cons mono_eqv (mono_cons mono_eqv (mono_cons mono_eqv (mono_cons mono_eqv (mono_cons mono_eqv (mono_cons mono_eqv (mono_cons mono_eqv (mono_cons mono_eqv (mono_cons mono_eqv (mono_cons mono_eqv (mono_cons mono_eqv (mono_cons mono_eqv (mono_cons mono_eqv (mono_cons mono_eqv (mono_cons mono_eqv (mono_cons mono_eqv (mono_cons mono_eqv (mono_cons mono_eqv (mono_cons mono_eqv (mono_cons mono_eqv (mono_cons mono_eqv (mono_cons mono_eqv (mono_cons mono_eqv (mono_cons mono_eqv (mono_cons mono_eqv (mono_cons mono_eqv (mono_nil))))))))))))))))))))))))))))) ?_ ?_
                · refine all_cons (by
                      intro ρ σm m hoff hdep
                      have e6 : look 87 ρ 6 = (Sl a25 r21 c26) := look_off (hoff 6 rfl) rfl
                      exact does_v (v := (Sl a25 r21 c26)) (wanted_none _ rfl _) (rv_move e6) rfl) ?_
                  refine all_cons (by
                      intro ρ σm m hoff hdep
                      have e7 : look 87 ρ 7 = (I s128) := look_off (hoff 7 rfl) rfl
                      exact does_v (v := (I s128)) (wanted_none _ rfl _) (rv_move e7) rfl) ?_
                  refine all_cons (by
                      intro ρ σm m hoff hdep
                      have e45 : look 87 ρ 45 = (Sl a25 r21 c26) := hdep 0 rfl rfl 45 rfl
                      have e46 : look 87 ρ 46 = (I s128) := hdep 1 rfl rfl 46 rfl
                      exact does_v (v := (pt b142 o143)) (wanted_none _ rfl _) (rv_ix Try.underlying23 ti3 e45 e46 hi141) rfl) ?_
                  refine all_cons (by
                      intro ρ σm m hoff hdep
                      have e47 : look 87 ρ 47 = (pt b142 o143) := hdep 2 rfl rfl 47 rfl
                      replace hO133 := hO133.mod0 m
                      exact does_v (v := (I x139)) (wanted_none _ rfl _) (rv_load1 Try.underlying3 rfl e47 (hO133.at hx140 hi141).int) rfl) ?_
                  refine all_cons (by
                      intro ρ σm m hoff hdep
                      have e3 : look 87 ρ 3 = (Sl a6 r2.1 c7) := look_off (hoff 3 rfl) rfl
                      exact does_v (v := (Sl a6 r2.1 c7)) (wanted_none _ rfl _) (rv_move e3) rfl) ?_
                  refine all_cons (by
                      intro ρ σm m hoff hdep
                      have e7 : look 87 ρ 7 = (I s128) := look_off (hoff 7 rfl) rfl
                      exact does_v (v := (I s128)) (wanted_none _ rfl _) (rv_move e7) rfl) ?_
                  refine all_cons (by
                      intro ρ σm m hoff hdep
                      have e49 : look 87 ρ 49 = (Sl a6 r2.1 c7) := hdep 4 rfl rfl 49 rfl
                      have e50 : look 87 ρ 50 = (I s128) := hdep 5 rfl rfl 50 rfl
                      exact does_v (v := (pt b147 o148)) (wanted_none _ rfl _) (rv_ix Try.underlying23 ti3 e49 e50 hi146) rfl) ?_
                  refine all_cons (by
                      intro ρ σm m hoff hdep
                      have e51 : look 87 ρ 51 = (pt b147 o148) := hdep 6 rfl rfl 51 rfl
                      replace hO131 := hO131.mod0 m
                      exact does_v (v := (I x144)) (wanted_none _ rfl _) (rv_load1 Try.underlying3 rfl e51 (hO131.at hx145 hi146).int) rfl) ?_
                  refine all_cons (by
                      intro ρ σm m hoff hdep
                      have e4 : look 87 ρ 4 = (Sl a9 r2.2.1 c10) := look_off (hoff 4 rfl) rfl
                      exact does_v (v := (Sl a9 r2.2.1 c10)) (wanted_none _ rfl _) (rv_move e4) rfl) ?_
                  refine all_cons (by
                      intro ρ σm m hoff hdep
                      have e7 : look 87 ρ 7 = (I s128) := look_off (hoff 7 rfl) rfl
                      exact does_v (v := (I s128)) (wanted_none _ rfl _) (rv_move e7) rfl) ?_
                  refine all_cons (by
                      intro ρ σm m hoff hdep
                      have e53 : look 87 ρ 53 = (Sl a9 r2.2.1 c10) := hdep 8 rfl rfl 53 rfl
                      have e54 : look 87 ρ 54 = (I s128) := hdep 9 rfl rfl 54 rfl
                      exact does_v (v := (pt b152 o153)) (wanted_none _ rfl _) (rv_ix Try.underlying23 ti3 e53 e54 hi151) rfl) ?_
                  refine all_cons (by
                      intro ρ σm m hoff hdep
                      have e55 : look 87 ρ 55 = (pt b152 o153) := hdep 10 rfl rfl 55 rfl
                      replace hO132 := hO132.mod0 m
                      exact does_v (v := (I x149)) (wanted_none _ rfl _) (rv_load1 Try.underlying3 rfl e55 (hO132.at hx150 hi151).int) rfl) ?_
                  refine all_cons (by
                      intro ρ σm m hoff hdep
                      have e52 : look 87 ρ 52 = (I x144) := hdep 7 rfl rfl 52 rfl
                      have e56 : look 87 ρ 56 = (I x149) := hdep 11 rfl rfl 56 rfl
                      exact does_v (v := (I (min x144 x149))) (wanted_none _ rfl _) (rv_min e52 e56) rfl) ?_
                  refine all_cons (by
                      intro ρ σm m hoff hdep
                      have e48 : look 87 ρ 48 = (I x139) := hdep 3 rfl rfl 48 rfl
                      have e57 : look 87 ρ 57 = (I (min x144 x149)) := hdep 12 rfl rfl 57 rfl
                      exact does_v (v := (B (decide (x139 < (min x144 x149))))) (wanted_none _ rfl _) (rv_lss (a := x139) (b := (min x144 x149)) e48 e57) rfl) ?_
                  refine all_cons (by
                      intro ρ σm m hoff hdep
                      have e58 : look 87 ρ 58 = (B (decide (x139 < (min x144 x149)))) := hdep 13 rfl rfl 58 rfl
                      exact does_v (v := (B (decide (x139 < (min x144 x149))))) (wanted_none _ rfl _) (rv_move e58) rfl) ?_
                  refine all_cons (by
                      intro ρ σm m hoff hdep
                      have e6 : look 87 ρ 6 = (Sl a25 r21 c26) := look_off (hoff 6 rfl) rfl
                      have e59 : look 87 ρ 59 = (B (decide (x139 < (min x144 x149)))) := hdep 14 rfl rfl 59 rfl
                      exact does_v (v := (Sl a25 r21 c26)) (wanted_yes rfl (yv_of rfl (e59.trans (congrArg B hb154)))) (rv_move e6) rfl) ?_
                  refine all_cons (by
                      intro ρ σm m hoff hdep
                      have e7 : look 87 ρ 7 = (I s128) := look_off (hoff 7 rfl) rfl
                      have e59 : look 87 ρ 59 = (B (decide (x139 < (min x144 x149)))) := hdep 14 rfl rfl 59 rfl
                      exact does_v (v := (I s128)) (wanted_yes rfl (yv_of rfl (e59.trans (congrArg B hb154)))) (rv_move e7) rfl) ?_
                  refine all_cons (by
                      intro ρ σm m hoff hdep
                      have e60 : look 87 ρ 60 = (Sl a25 r21 c26) := hdep 15 rfl rfl 60 rfl
                      have e61 : look 87 ρ 61 = (I s128) := hdep 16 rfl rfl 61 rfl
                      have e59 : look 87 ρ 59 = (B (decide (x139 < (min x144 x149)))) := hdep 14 rfl rfl 59 rfl
                      exact does_v (v := (pt b159 o160)) (wanted_yes rfl (yv_of rfl (e59.trans (congrArg B hb154)))) (rv_ix Try.underlying23 ti3 e60 e61 hi158) rfl) ?_
                  refine all_cons (by
                      intro ρ σm m hoff hdep
                      have e62 : look 87 ρ 62 = (pt b159 o160) := hdep 17 rfl rfl 62 rfl
                      have e59 : look 87 ρ 59 = (B (decide (x139 < (min x144 x149)))) := hdep 14 rfl rfl 59 rfl
                      replace hO133 := hO133.mod0 m
                      exact does_v (v := (I x156)) (wanted_yes rfl (yv_of rfl (e59.trans (congrArg B hb154)))) (rv_load1 Try.underlying3 rfl e62 (hO133.at hx157 hi158).int) rfl) ?_
                  refine all_cons (by
                      intro ρ σm m hoff hdep
                      have e3 : look 87 ρ 3 = (Sl a6 r2.1 c7) := look_off (hoff 3 rfl) rfl
                      have e59 : look 87 ρ 59 = (B (decide (x139 < (min x144 x149)))) := hdep 14 rfl rfl 59 rfl
                      exact does_v (v := (Sl a6 r2.1 c7)) (wanted_yes rfl (yv_of rfl (e59.trans (congrArg B hb154)))) (rv_move e3) rfl) ?_
                  refine all_cons (by
                      intro ρ σm m hoff hdep
                      have e7 : look 87 ρ 7 = (I s128) := look_off (hoff 7 rfl) rfl
                      have e59 : look 87 ρ 59 = (B (decide (x139 < (min x144 x149)))) := hdep 14 rfl rfl 59 rfl
                      exact does_v (v := (I s128)) (wanted_yes rfl (yv_of rfl (e59.trans (congrArg B hb154)))) (rv_move e7) rfl) ?_
                  refine all_cons (by
                      intro ρ σm m hoff hdep
                      have e64 : look 87 ρ 64 = (Sl a6 r2.1 c7) := hdep 19 rfl rfl 64 rfl
                      have e65 : look 87 ρ 65 = (I s128) := hdep 20 rfl rfl 65 rfl
                      have e59 : look 87 ρ 59 = (B (decide (x139 < (min x144 x149)))) := hdep 14 rfl rfl 59 rfl
                      exact does_v (v := (pt b164 o165)) (wanted_yes rfl (yv_of rfl (e59.trans (congrArg B hb154)))) (rv_ix Try.underlying23 ti3 e64 e65 hi163) rfl) ?_
                  refine all_cons (by
                      intro ρ σm m hoff hdep
                      have e66 : look 87 ρ 66 = (pt b164 o165) := hdep 21 rfl rfl 66 rfl
                      have e59 : look 87 ρ 59 = (B (decide (x139 < (min x144 x149)))) := hdep 14 rfl rfl 59 rfl
                      replace hO131 := hO131.mod0 m
                      exact does_v (v := (I x161)) (wanted_yes rfl (yv_of rfl (e59.trans (congrArg B hb154)))) (rv_load1 Try.underlying3 rfl e66 (hO131.at hx162 hi163).int) rfl) ?_
                  refine all_cons (by
                      intro ρ σm m hoff hdep
                      have e4 : look 87 ρ 4 = (Sl a9 r2.2.1 c10) := look_off (hoff 4 rfl) rfl
                      have e59 : look 87 ρ 59 = (B (decide (x139 < (min x144 x149)))) := hdep 14 rfl rfl 59 rfl
                      exact does_v (v := (Sl a9 r2.2.1 c10)) (wanted_yes rfl (yv_of rfl (e59.trans (congrArg B hb154)))) (rv_move e4) rfl) ?_
                  refine all_cons (by
                      intro ρ σm m hoff hdep
                      have e7 : look 87 ρ 7 = (I s128) := look_off (hoff 7 rfl) rfl
                      have e59 : look 87 ρ 59 = (B (decide (x139 < (min x144 x149)))) := hdep 14 rfl rfl 59 rfl
                      exact does_v (v := (I s128)) (wanted_yes rfl (yv_of rfl (e59.trans (congrArg B hb154)))) (rv_move e7) rfl) ?_
                  refine all_cons (by
                      intro ρ σm m hoff hdep
                      have e68 : look 87 ρ 68 = (Sl a9 r2.2.1 c10) := hdep 23 rfl rfl 68 rfl
                      have e69 : look 87 ρ 69 = (I s128) := hdep 24 rfl rfl 69 rfl
                      have e59 : look 87 ρ 59 = (B (decide (x139 < (min x144 x149)))) := hdep 14 rfl rfl 59 rfl
                      exact does_v (v := (pt b169 o170)) (wanted_yes rfl (yv_of rfl (e59.trans (congrArg B hb154)))) (rv_ix Try.underlying23 ti3 e68 e69 hi168) rfl) ?_
                  refine all_cons (by
                      intro ρ σm m hoff hdep
                      have e70 : look 87 ρ 70 = (pt b169 o170) := hdep 25 rfl rfl 70 rfl
                      have e59 : look 87 ρ 59 = (B (decide (x139 < (min x144 x149)))) := hdep 14 rfl rfl 59 rfl
                      replace hO132 := hO132.mod0 m
                      exact does_v (v := (I x166)) (wanted_yes rfl (yv_of rfl (e59.trans (congrArg B hb154)))) (rv_load1 Try.underlying3 rfl e70 (hO132.at hx167 hi168).int) rfl) ?_
                  refine all_cons (by
                      intro ρ σm m hoff hdep
                      have e67 : look 87 ρ 67 = (I x161) := hdep 22 rfl rfl 67 rfl
                      have e71 : look 87 ρ 71 = (I x166) := hdep 26 rfl rfl 71 rfl
                      have e59 : look 87 ρ 59 = (B (decide (x139 < (min x144 x149)))) := hdep 14 rfl rfl 59 rfl
                      exact does_v (v := (I (max x161 x166))) (wanted_yes rfl (yv_of rfl (e59.trans (congrArg B hb154)))) (rv_max e67 e71) rfl) ?_
                  exact all_nil
                · intro ρ σ171 m hoff hrel
                  have e3 : look 87 ρ 3 = (Sl a6 r2.1 c7) := look_off (hoff 3 rfl) rfl
                  have e4 : look 87 ρ 4 = (Sl a9 r2.2.1 c10) := look_off (hoff 4 rfl) rfl
                  have e6 : look 87 ρ 6 = (Sl a25 r21 c26) := look_off (hoff 6 rfl) rfl
                  have e7 : look 87 ρ 7 = (I s128) := look_off (hoff 7 rfl) rfl
                  have e59 : look 87 ρ 59 = (B (decide (x139 < (min x144 x149)))) := hrel 14 rfl 59 rfl
                  have e63 : look 87 ρ 63 = (I x156) := hrel 18 rfl 63 rfl
                  have e72 : look 87 ρ 72 = (I (max x161 x166)) := hrel 27 rfl 72 rfl
                  replace hO131 := hO131.mod0 m
                  replace hO132 := hO132.mod0 m
                  replace hO133 := hO133.mod0 m
                  replace hK := hK.none m
                  rw [fr_lookL (L := [(3, (Sl a6 r2.1 c7)), (4, (Sl a9 r2.2.1 c10)), (6, (Sl a25 r21 c26)), (7, (I s128)), (59, (B (decide (x139 < (min x144 x149))))), (63, (I x156)), (72, (I (max x161 x166)))]) ⟨e3, e4, e6, e7, e59, e63, e72, trivial⟩]
                  clear hoff hrel m e3 e4 e6 e7 e59 e63 e72
                  refine st_g (v := (B (decide ((max x161 x166) < x156)))) (congrArg some hb154) (rv_gtr (a := x156) (b := (max x161 x166)) rfl rfl) ?_
                  refine st (v := (B (decide ((max x161 x166) < x156)))) (rv_pick_f (congrArg B hb154) rfl) ?_
                  refine w_end ?_
                  obtain rfl := Option.some.inj h
                  exact ⟨rfl, _, σ171, fr_join ⟨rfl, rfl, rfl, rfl, rfl, trivial⟩, rfl, hK, hO131, hO132, hO133, hd134, hd135, hd136⟩
            · clear hj
              have h := h'
              clear h'
              rintro e a w ⟨rfl, ρ, σ172, rfl, rfl, hK, hO173, hO174, hO175, hd176, hd177, hd178⟩
              refine q_then ?_
              refine cd_cond o138 rfl (fun hb179 => ?_) (fun hb179 => ?_)
              · replace h := bif_t hb179 h
                refine c_seq ?_
                refine rg ?_
                refine st (v := (B false)) (rv_assign rfl) ?_
                refine w_end ?_
                refine q_then ?_
                refine c_ret ?_
                refine q_blk_r ?_
                refine q_then_r ?_
                refine q_then_r ?_
                refine q_blk_r ?_
                obtain rfl := Option.some.inj h
                obtain rfl := hres _ rfl
                exact .inr (⟨_, rfl, rfl, _, σ172, fr_join ⟨rfl, trivial⟩, rfl, hK⟩)
              · replace h := bif_f hb179 h
                refine c_skip ?_
                refine q_blk ?_
                refine q_then ?_
                refine rg ?_
                refine st (v := (I s128)) (rv_move rfl) ?_
                refine st (v := (I (w64 (s128 + 1)))) (rv_add (a := s128) (b := 1) rfl rfl) ?_
                refine st (v := (I (w64 (s128 + 1)))) (rv_assign rfl) ?_
                refine w_end ?_
                refine q_then ?_
                obtain rfl := Option.some.inj h
                exact ⟨_, rfl, _, σ172, fr_join ⟨rfl, rfl, rfl, rfl, trivial⟩, rfl, hK, hO173, hO174, hO175, hd176, hd177, hd178⟩
          · replace h := bif_f hb137 h
            refine c_exit ?_
            refine q_then_x ?_
            refine q_then_x ?_
            refine q_blk_hit ?_
            obtain rfl := Option.some.inj h
            obtain rfl := hres _ rfl
            exact .inl ⟨_, rfl, rfl, _, σ130, fr_join ⟨rfl, rfl, trivial⟩, rfl, hK, hO131, hO132, hd134⟩
        · clear hj
          have h := h'
          clear h'
          rintro e a w (⟨t180, rfl, rfl, ρ, σ181, rfl, rfl, hK, hO182, hO183, hd184⟩ | ⟨t268, rfl, rfl, ρ, σ269, rfl, rfl, hK⟩)
          · replace h := selim_l h
            refine q_then ?_
            refine c_seq ?_
            refine rg ?_
            refine st (v := (Sl a6 r2.1 c7)) (rv_move rfl) ?_
            refine st (v := (Sl a9 r2.2.1 c10)) (rv_move rfl) ?_
            obtain ⟨σ185, hw186, m187, hR188⟩ := hO182.pub' (Nat.le_refl _)
            obtain ⟨σ189, hw190, m191, hR192⟩ := (hO183.mod' m187 hd184).pub' (Nat.le_refl _)
            rw [← (hw190.trans hw186)]
            obtain ⟨r193, hx194, h'⟩ := bind_some h
            clear h
            have h := h'; clear h'
            refine st_call (c_impl_MoveTo ((hR188.low (Nat.zero_le _)).mod m191) (hR192.low (Nat.zero_le _)) hx194) rfl ?_
            have hd200 := ltb_size hO182.ltb (hw190.trans hw186)
            have hd201 := ltb_size hO183.ltb (hw190.trans hw186)
            have hKs := size_le hK.size (hw190.trans hw186)
            rintro _ σ195 m196 ⟨a197, c198, rfl, hO199⟩
            obtain ⟨σ202, hw203, m204, hxl205, hvl206⟩ := lent (hw190.trans hw186) m196
            rw [← hw203]
            replace hO199 := hO199.lent (hw190.trans hw186) hw203 hxl205 hvl206 (Nat.le_refl _)
            replace hO182 := hO182.mod0 m204
            replace hO183 := hO183.mod0 m204
            replace hK := hK.none m204
            have hO199g := hO199.ge
            replace hO199 := hO199.lo hKs
            replace hO199 := hO199.low' hKs
            have hd207 := Df.ge hd200 hO199g
            have hd208 := Df.ge hd201 hO199g
            clear hKs m204 hO199g
            refine st (v := (Sl a6 r2.1 c7)) (rv_move rfl) ?_
            obtain ⟨σ209, hw210, m211, hR212⟩ := hO199.pub' (Nat.le_refl _)
            obtain ⟨σ213, hw214, m215, hR216⟩ := (hO182.mod' m211 hd207).pub' (Nat.le_refl _)
            rw [← (hw214.trans hw210)]
            obtain ⟨r217, hx218, h'⟩ := bind_some h
            clear h
            have h := h'; clear h'
            refine st_call (c_laws_equalInts ((hR212.low (Nat.zero_le _)).mod m215) (hR216.low (Nat.zero_le _)) hx218) rfl ?_
            have hd221 := ltb_size hO182.ltb (hw214.trans hw210)
            have hd222 := ltb_size hO183.ltb (hw214.trans hw210)
            have hd223 := ltb_size hO199.ltb (hw214.trans hw210)
            have hKs := size_le hK.size (hw214.trans hw210)
            rintro _ σ219 m220 rfl
            obtain ⟨σ224, hw225, m226, hxl227, hvl228⟩ := lent (hw214.trans hw210) m220
            rw [← hw225]
            replace hO182 := hO182.mod0 m226
            replace hO183 := hO183.mod0 m226
            replace hO199 := hO199.mod0 m226
            replace hK := hK.none m226
            clear hKs m226
            refine st (v := (B r217)) (rv_move rfl) ?_
            rcases Bool.eq_false_or_eq_true r217 with hb229 | hb229
            · replace h := bif_t hb229 h
              refine st_g (v := (Sl a6 r2.1 c7)) (congrArg some hb229) (rv_move rfl) ?_
              refine st_g (v := (Sl a9 r2.2.1 c10)) (congrArg some hb229) (rv_move rfl) ?_
              obtain ⟨σ230, hw231, m232, hR233⟩ := hO182.pub' (Nat.le_refl _)
              obtain ⟨σ234, hw235, m236, hR237⟩ := (hO183.mod' m232 hd184).pub' (Nat.le_refl _)
              rw [← (hw235.trans hw231)]
              obtain ⟨r238, hx239, h'⟩ := bind_some h
              clear h
              have h := h'; clear h'
              refine st_call_g (by exact (congrArg some hb229)) (c_impl_MoveTo ((hR233.low (Nat.zero_le _)).mod m236) (hR237.low (Nat.zero_le _)) hx239) rfl ?_
              have hd245 := ltb_size hO183.ltb (hw235.trans hw231)
              have hd246 := ltb_size hO182.ltb (hw235.trans hw231)
              have hKs := size_le hK.size (hw235.trans hw231)
              rintro _ σ240 m241 ⟨a242, c243, rfl, hO244⟩
              obtain ⟨σ247, hw248, m249, hxl250, hvl251⟩ := lent (hw235.trans hw231) m241
              rw [← hw248]
              replace hO244 := hO244.lent (hw235.trans hw231) hw248 hxl250 hvl251 (Nat.le_refl _)
              replace hO183 := hO183.mod0 m249
              replace hO182 := hO182.mod0 m249
              replace hK := hK.none m249
              have hO244g := hO244.ge
              replace hO244 := hO244.lo hKs
              replace hO244 := hO244.low' hKs
              have hd252 := Df.ge hd245 hO244g
              have hd253 := Df.ge hd246 hO244g
              clear hKs m249 hO244g
              refine st_g (v := (Sl a9 r2.2.1 c10)) (congrArg some hb229) (rv_move rfl) ?_
              have hg258 := hO244.ge
              obtain ⟨σ254, hw257, m255, hR256⟩ := hO244.pub' (Nat.le_refl _)
              rw [← hw257]; clear hw257
              replace hO183 := hO183.mod' m255 hd252
              replace hK := hK.own m255 hg258
              have hg263 := hO183.ge
              obtain ⟨σ259, hw262, m260, hR261⟩ := hO183.pub' (Nat.le_refl _)
              rw [← hw262]; clear hw262
              replace hR256 := hR256.mod m260
              replace hK := hK.own m260 hg263
              obtain ⟨r264, hx265, h'⟩ := bind_some h
              clear h
              have h := h'; clear h'
              refine st_call_g (by exact (congrArg some hb229)) (c_laws_equalInts (hR256.low (Nat.zero_le _)) (hR261.low (Nat.zero_le _)) hx265) rfl ?_
              have hKs := hK.size
              rintro _ σ266 m267 rfl
              replace hR256 := hR256.mod m267
              replace hR261 := hR261.mod m267
              replace hK := hK.none m267
              clear hKs m267
              refine st (v := (B r264)) (rv_pick_t (congrArg B hb229) rfl) ?_
              refine st (v := (B r264)) (rv_assign rfl) ?_
              refine w_end ?_
              refine q_then ?_
              refine c_ret ?_
              obtain rfl := Option.some.inj h
              exact bodyPost_ret (v := (B r264)) (results_fr1 Try.results11 rfl _) rfl ⟨_, σ266, rfl, rfl, hK, rfl⟩
            · replace h := bif_f hb229 h
              refine st_skip (congrArg some hb229) ?_
              refine st_skip (congrArg some hb229) ?_
              refine st_skip (congrArg some hb229) ?_
              refine st_skip (congrArg some hb229) ?_
              refine st_skip (congrArg some hb229) ?_
              refine st (v := (B false)) (rv_pick_f (congrArg B hb229) rfl) ?_
              refine st (v := (B false)) (rv_assign rfl) ?_
              refine w_end ?_
              refine q_then ?_
              refine c_ret ?_
              obtain rfl := Option.some.inj h
              exact bodyPost_ret (v := (B false)) (results_fr1 Try.results11 rfl _) rfl ⟨_, σ224, rfl, rfl, hK, rfl⟩
          · replace h := selim_r h
            refine q_then_r ?_
            obtain rfl := Option.some.inj h
            exact bodyPost_ret (v := (B t268)) (results_fr1 Try.results11 rfl _) rfl ⟨_, σ269, rfl, rfl, hK, rfl⟩

theorem c_laws_FnMoveToNearer {σ0 : St} {code_0 : List UInt8} {acode_0 : Option Addr} {ccode_0 : Nat} (hRcode_0 : RS 0 σ0 (Sl acode_0 code_0 ccode_0) code_0) {r : Bool} (h : M.laws_FnMoveToNearer code_0 = some r) :
    Cal Try.prog 12 [(Sl acode_0 code_0 ccode_0)] none σ0 (fun v σ' => v = (B r)) := by
  refine ⟨⟨_, _, Try.func12, rfl, rfl⟩, ?_⟩
  refine enter (n := 54) Try.func12 rfl rfl rfl ?_
  unfold M.laws_FnMoveToNearer at h
  have hK : Mod none σ0 σ0 := Mod.refl _ _
  refine c_seq ?_
  refine rg ?_
  refine st (v := (B false)) (rv_assign rfl) ?_
  refine w_end ?_
  refine q_then ?_
  refine c_seq ?_
  refine c_seq ?_
  refine rg ?_
  refine st (v := (Sl acode_0 code_0 ccode_0)) (rv_move rfl) ?_
  refine st (v := (I (code_0.length : Int))) (rv_len Try.underlying22 rfl) ?_
  refine st (v := (B (decide (1048576 < (code_0.length : Int))))) (rv_gtr (a := (code_0.length : Int)) (b := 1048576) rfl rfl) ?_
  refine w_end ?_
  refine q_then ?_
  refine cd_cond (decide (1048576 < (code_0.length : Int))) rfl (fun hb1 => ?_) (fun hb1 => ?_)
  · replace h := bif_t hb1 h
    refine c_seq ?_
    refine rg ?_
    refine st (v := (B true)) (rv_assign rfl) ?_
    refine w_end ?_
    refine q_then ?_
    refine c_ret ?_
    refine q_then_r ?_
    obtain rfl := Option.some.inj h
    exact bodyPost_ret (v := (B true)) (results_fr1 Try.results12 rfl _) rfl ⟨_, σ0, rfl, rfl, hK, rfl⟩
  · replace h := bif_f hb1 h
    refine c_skip ?_
    refine q_then ?_
    refine c_seq ?_
    refine rg ?_
    refine st (v := (Sl acode_0 code_0 ccode_0)) (rv_move rfl) ?_
    obtain ⟨r2, hx3, h'⟩ := bind_some h
    clear h
    have h := h'; clear h'
    refine st_call (c_spec_DrawMoveTo hRcode_0 hx3) rfl ?_
    have hKs := hK.size
    rintro _ σ4 m5 ⟨a6, c7, a9, c10, rfl, hO8, hO11, hd12⟩
    replace hRcode_0 := hRcode_0.mod m5
    replace hK := hK.none m5
    have hO8g := hO8.ge
    replace hO8 := hO8.lo hKs
    replace hO8 := hO8.low' hKs
    have hO11g := hO11.ge
    replace hO11 := hO11.lo hKs
    replace hO11 := hO11.low' hKs
    clear hKs m5 hO8g hO11g
    refine st (v := (.tuple #[(Sl a6 r2.1 c7), (Sl a9 r2.2.1 c10), (I r2.2.2)])) (rv_move rfl) ?_
    refine st (v := (Sl a6 r2.1 c7)) (rv_extract rfl rfl) ?_
    refine st (v := (Sl a9 r2.2.1 c10)) (rv_extract rfl rfl) ?_
    refine st (v := (I r2.2.2)) (rv_extract rfl rfl) ?_
    refine st (v := (Sl a6 r2.1 c7)) (rv_assign rfl) ?_
    refine st (v := (Sl a9 r2.2.1 c10)) (rv_assign rfl) ?_
    refine st (v := (I r2.2.2)) (rv_assign rfl) ?_
    refine w_end ?_
    refine q_then ?_
    refine c_seq ?_
    refine rg ?_
    refine st (v := (Sl a6 r2.1 c7)) (rv_move rfl) ?_
    refine st (v := (Sl a9 r2.2.1 c10)) (rv_move rfl) ?_
    refine st (v := (I r2.2.2)) (rv_move rfl) ?_
    obtain ⟨σ13, hw14, m15, hR16⟩ := hO8.pub' (Nat.le_refl _)
    obtain ⟨σ17, hw18, m19, hR20⟩ := (hO11.mod' m15 hd12).pub' (Nat.le_refl _)
    rw [← (hw18.trans hw14)]
    obtain ⟨r21, hx22, h'⟩ := bind_some h
    clear h
    have h := h'; clear h'
    refine st_call (c_impl_MoveTo ((hR16.low (Nat.zero_le _)).mod m19) (hR20.low (Nat.zero_le _)) hx22) rfl ?_
    have hd28 := ltb_size hO8.ltb (hw18.trans hw14)
    have hd29 := ltb_size hO11.ltb (hw18.trans hw14)
    have hKs := size_le hK.size (hw18.trans hw14)
    rintro _ σ23 m24 ⟨a25, c26, rfl, hO27⟩
    obtain ⟨σ30, hw31, m32, hxl33, hvl34⟩ := lent (hw18.trans hw14) m24
    rw [← hw31]
    replace hO27 := hO27.lent (hw18.trans hw14) hw31 hxl33 hvl34 (Nat.le_refl _)
    replace hO8 := hO8.mod0 m32
    replace hO11 := hO11.mod0 m32
    replace hK := hK.none m32
    have hO27g := hO27.ge
    replace hO27 := hO27.lo hKs
    replace hO27 := hO27.low' hKs
    have hd35 := Df.ge hd28 hO27g
    have hd36 := Df.ge hd29 hO27g
    clear hKs m32 hO27g
    refine st (v := (Sl a25 r21 c26)) (rv_assign rfl) ?_
    refine w_end ?_
    refine q_then ?_
    refine c_seq ?_
    refine c_seq ?_
    obtain ⟨o37, hj, h'⟩ := bind_some h
    clear h
    refine c_cut (fun e a w => e = .normal ∧ ∃ (ρ : Nat → Value) (σ : St), a = fr 54 (updL ρ [(3, (Sl a6 r2.1 c7)), (4, (Sl a9 r2.2.1 c10)), (5, (I r2.2.2)), (6, (Sl a25 r21 c26)), (35, (B o37))]) ∧ w = σ.w ∧ Mod none σ0 σ ∧ Ow σ σ0.size σ0.size (Sl a6 r2.1 c7) r2.1 ∧ Ow σ σ0.size σ0.size (Sl a9 r2.2.1 c10) r2.2.1 ∧ Ow σ σ0.size σ0.size (Sl a25 r21 c26) r21 ∧ Df (blk (Sl a9 r2.2.1 c10)) (blk (Sl a6 r2.1 c7)) ∧ Df (blk (Sl a25 r21 c26)) (blk (Sl a6 r2.1 c7)) ∧ Df (blk (Sl a25 r21 c26)) (blk (Sl a9 r2.2.1 c10))) ?_ ?_
    · clear h'
      rename _ = some o37 => h
      refine rg ?_
      refine st (v := (Sl a25 r21 c26)) (rv_move rfl) ?_
      refine st (v := (Sl a6 r2.1 c7)) (rv_move rfl) ?_
      refine st (v := (Sl a9 r2.2.1 c10)) (rv_move rfl) ?_
      refine st (v := (I r2.2.2)) (rv_move rfl) ?_
      obtain ⟨σ38, hw39, m40, hR41⟩ := hO8.pub' (Nat.le_refl _)
      obtain ⟨σ42, hw43, m44, hR45⟩ := (hO11.mod' m40 hd12).pub' (Nat.le_refl _)
      rw [← (hw43.trans hw39)]
      obtain ⟨r46, hx47, h'⟩ := bind_some h
      clear h
      have h := h'; clear h'
      refine st_call (c_spec_MoveTo ((hR41.low (Nat.zero_le _)).mod m44) (hR45.low (Nat.zero_le _)) hx47) rfl ?_
      have hd53 := ltb_size hO8.ltb (hw43.trans hw39)
      have hd54 := ltb_size hO11.ltb (hw43.trans hw39)
      have hd55 := ltb_size hO27.ltb (hw43.trans hw39)
      have hKs := size_le hK.size (hw43.trans hw39)
      rintro _ σ48 m49 ⟨a50, c51, rfl, hO52⟩
      obtain ⟨σ56, hw57, m58, hxl59, hvl60⟩ := lent (hw43.trans hw39) m49
      rw [← hw57]
      replace hO52 := hO52.lent (hw43.trans hw39) hw57 hxl59 hvl60 (Nat.le_refl _)
      replace hO8 := hO8.mod0 m58
      replace hO11 := hO11.mod0 m58
      replace hO27 := hO27.mod0 m58
      replace hK := hK.none m58
      have hO52g := hO52.ge
      replace hO52 := hO52.lo hKs
      replace hO52 := hO52.low' hKs
      have hd61 := Df.ge hd53 hO52g
      have hd62 := Df.ge hd54 hO52g
      have hd63 := Df.ge hd55 hO52g
      clear hKs m58 hO52g
      obtain ⟨σ64, hw65, m66, hR67⟩ := hO27.pub' (Nat.le_refl _)
      obtain ⟨σ68, hw69, m70, hR71⟩ := (hO52.mod' m66 (hd63).symm).pub' (Nat.le_refl _)
      rw [← (hw69.trans hw65)]
      obtain ⟨r72, hx73, h'⟩ := bind_some h
      clear h
      have h := h'; clear h'
      refine st_call (c_laws_equalInts ((hR67.low (Nat.zero_le _)).mod m70) (hR71.low (Nat.zero_le _)) hx73) rfl ?_
      have hd76 := ltb_size hO8.ltb (hw69.trans hw65)
      have hd77 := ltb_size hO11.ltb (hw69.trans hw65)
      have hd78 := ltb_size hO27.ltb (hw69.trans hw65)
      have hd79 := ltb_size hO52.ltb (hw69.trans hw65)
      have hKs := size_le hK.size (hw69.trans hw65)
      rintro _ σ74 m75 rfl
      obtain ⟨σ80, hw81, m82, hxl83, hvl84⟩ := lent (hw69.trans hw65) m75
      rw [← hw81]
      replace hO8 := hO8.mod0 m82
      replace hO11 := hO11.mod0 m82
      replace hO27 := hO27.mod0 m82
      replace hO52 := hO52.mod0 m82
      replace hK := hK.none m82
      clear hKs m82
      refine st (v := (B (!r72))) (rv_not rfl) ?_
      refine st (v := (B (!r72))) (rv_move rfl) ?_
      rcases Bool.eq_false_or_eq_true (!r72) with hb85 | hb85
      · replace h := bif_t hb85 h
        refine st_skip (congrArg some hb85) ?_
        refine st_skip (congrArg some hb85) ?_
        refine st_skip (congrArg some hb85) ?_
        refine st (v := (B true)) (rv_pick_t (congrArg B hb85) rfl) ?_
        refine st (v := (B true)) (rv_move rfl) ?_
        refine st_skip rfl ?_
        refine st_skip rfl ?_
        refine st (v := (B true)) (rv_pick_t rfl rfl) ?_
        refine w_end ?_
        obtain rfl := Option.some.inj h
        exact ⟨rfl, _, σ80, fr_join ⟨rfl, rfl, rfl, rfl, rfl, trivial⟩, rfl, hK, hO8, hO11, hO27, hd12, (hd35).symm, (hd36).symm⟩
      · replace h := bif_f hb85 h
        refine st_g (v := (Sl a25 r21 c26)) (congrArg some hb85) (rv_move rfl) ?_
        refine st_g (v := (I (r21.length : Int))) (congrArg some hb85) (rv_len Try.underlying23 rfl) ?_
        refine st_g (v := (B ((r21.length : Int) == 0))) (congrArg some hb85) (rv_eql (a := (r21.length : Int)) (b := 0) rfl rfl) ?_
        refine st (v := (B ((r21.length : Int) == 0))) (rv_pick_f (congrArg B hb85) rfl) ?_
        refine st (v := (B ((r21.length : Int) == 0))) (rv_move rfl) ?_
        rcases Bool.eq_false_or_eq_true ((r21.length : Int) == 0) with hb86 | hb86
        · replace h := bif_t hb86 h
          refine st_skip (congrArg some hb86) ?_
          refine st_skip (congrArg some hb86) ?_
          refine st (v := (B true)) (rv_pick_t (congrArg B hb86) rfl) ?_
          refine w_end ?_
          obtain rfl := Option.some.inj h
          exact ⟨rfl, _, σ80, fr_join ⟨rfl, rfl, rfl, rfl, rfl, trivial⟩, rfl, hK, hO8, hO11, hO27, hd12, (hd35).symm, (hd36).symm⟩
        · replace h := bif_f hb86 h
          refine st_g (v := (I r2.2.2)) (congrArg some hb86) (rv_move rfl) ?_
          refine st_g (v := (B (r2.2.2 == 1000))) (congrArg some hb86) (rv_eql (a := r2.2.2) (b := 1000) rfl rfl) ?_
          refine st (v := (B (r2.2.2 == 1000))) (rv_pick_f (congrArg B hb86) rfl) ?_
          refine w_end ?_
          obtain rfl := Option.some.inj h
          exact ⟨rfl, _, σ80, fr_join ⟨rfl, rfl, rfl, rfl, rfl, trivial⟩, rfl, hK, hO8, hO11, hO27, hd12, (hd35).symm, (hd36).symm⟩
    · clear hj
      have h := h'
      clear h'
      rintro e a w ⟨rfl, ρ, σ87, rfl, rfl, hK, hO88, hO89, hO90, hd91, hd92, hd93⟩
      refine q_then ?_
      refine cd_cond o37 rfl (fun hb94 => ?_) (fun hb94 => ?_)
      · replace h := bif_t hb94 h
        refine c_seq ?_
        refine rg ?_
        refine st (v := (Sl a25 r21 c26)) (rv_move rfl) ?_
        refine st (v := (Sl a6 r2.1 c7)) (rv_move rfl) ?_
        refine st (v := (Sl a9 r2.2.1 c10)) (rv_move rfl) ?_
        refine st (v := (I r2.2.2)) (rv_move rfl) ?_
        have hg99 := hO88.ge
        obtain ⟨σ95, hw98, m96, hR97⟩ := hO88.pub' (Nat.le_refl _)
        rw [← hw98]; clear hw98
        replace hO90 := hO90.mod' m96 hd92
        replace hO89 := hO89.mod' m96 hd91
        replace hK := hK.own m96 hg99
        have hg104 := hO89.ge
        obtain ⟨σ100, hw103, m101, hR102⟩ := hO89.pub' (Nat.le_refl _)
        rw [← hw103]; clear hw103
        replace hO90 := hO90.mod' m101 hd93
        replace hR97 := hR97.mod m101
        replace hK := hK.own m101 hg104
        obtain ⟨r105, hx106, h'⟩ := bind_some h
        clear h
        have h := h'; clear h'
        refine st_call (c_spec_MoveTo (hR97.low (Nat.zero_le _)) (hR102.low (Nat.zero_le _)) hx106) rfl ?_
        have hd112 := hO90.ltb
        have hKs := hK.size
        rintro _ σ107 m108 ⟨a109, c110, rfl, hO111⟩
        replace hO90 := hO90.mod0 m108
        replace hR97 := hR97.mod m108
        replace hR102 := hR102.mod m108
        replace hK := hK.none m108
        have hO111g := hO111.ge
        replace hO111 := hO111.lo hKs
        replace hO111 := hO111.low' hKs
        have hd113 := Df.ge hd112 hO111g
        clear hKs m108 hO111g
        have hg118 := hO90.ge
        obtain ⟨σ114, hw117, m115, hR116⟩ := hO90.pub' (Nat.le_refl _)
        rw [← hw117]; clear hw117
        replace hO111 := hO111.mod' m115 (hd113).symm
        replace hK := hK.own m115 hg118
        have hg123 := hO111.ge
        obtain ⟨σ119, hw122, m120, hR121⟩ := hO111.pub' (Nat.le_refl _)
        rw [← hw122]; clear hw122
        replace hR116 := hR116.mod m120
        replace hK := hK.own m120 hg123
        obtain ⟨r124, hx125, h'⟩ := bind_some h
        clear h
        have h := h'; clear h'
        refine st_call (c_laws_equalInts (hR116.low (Nat.zero_le _)) (hR121.low (Nat.zero_le _)) hx125) rfl ?_
        have hKs := hK.size
        rintro _ σ126 m127 rfl
        replace hR116 := hR116.mod m127
        replace hR121 := hR121.mod m127
        replace hK := hK.none m127
        clear hKs m127
        refine st (v := (B r124)) (rv_assign rfl) ?_
        refine w_end ?_
        refine q_then ?_
        refine c_ret ?_
        refine q_then_r ?_
        obtain rfl := Option.some.inj h
        exact bodyPost_ret (v := (B r124)) (results_fr1 Try.results12 rfl _) rfl ⟨_, σ126, rfl, rfl, hK, rfl⟩
      · replace h := bif_f hb94 h
        refine c_skip ?_
        refine q_then ?_
        refine c_seq ?_
        refine rg ?_
        refine st (v := (Sl a6 r2.1 c7)) (rv_move rfl) ?_
        refine st (v := (Sl a9 r2.2.1 c10)) (rv_move rfl) ?_
        refine st (v := (I r2.2.2)) (rv_move rfl) ?_
        refine st (v := (I (w64 (r2.2.2 + 1)))) (rv_add (a := r2.2.2) (b := 1) rfl rfl) ?_
        obtain ⟨σ128, hw129, m130, hR131⟩ := hO88.pub' (Nat.le_refl _)
        obtain ⟨σ132, hw133, m134, hR135⟩ := (hO89.mod' m130 hd91).pub' (Nat.le_refl _)
        rw [← (hw133.trans hw129)]
        obtain ⟨r136, hx137, h'⟩ := bind_some h
        clear h
        have h := h'; clear h'
        refine st_call (c_impl_MoveTo ((hR131.low (Nat.zero_le _)).mod m134) (hR135.low (Nat.zero_le _)) hx137) rfl ?_
        have hd143 := ltb_size hO89.ltb (hw133.trans hw129)
        have hd144 := ltb_size hO90.ltb (hw133.trans hw129)
        have hd145 := ltb_size hO88.ltb (hw133.trans hw129)
        have hKs := size_le hK.size (hw133.trans hw129)
        rintro _ σ138 m139 ⟨a140, c141, rfl, hO142⟩
        obtain ⟨σ146, hw147, m148, hxl149, hvl150⟩ := lent (hw133.trans hw129) m139
        rw [← hw147]
        replace hO142 := hO142.lent (hw133.trans hw129) hw147 hxl149 hvl150 (Nat.le_refl _)
        replace hO89 := hO89.mod0 m148
        replace hO90 := hO90.mod0 m148
        replace hO88 := hO88.mod0 m148
        replace hK := hK.none m148
        have hO142g := hO142.ge
        replace hO142 := hO142.lo hKs
        replace hO142 := hO142.low' hKs
        have hd151 := Df.ge hd143 hO142g
        have hd152 := Df.ge hd144 hO142g
        have hd153 := Df.ge hd145 hO142g
        clear hKs m148 hO142g
        refine st (v := (Sl a9 r2.2.1 c10)) (rv_move rfl) ?_
        obtain ⟨σ154, hw155, m156, hR157⟩ := hO142.pub' (Nat.le_refl _)
        obtain ⟨σ158, hw159, m160, hR161⟩ := (hO89.mod' m156 hd151).pub' (Nat.le_refl _)
        rw [← (hw159.trans hw155)]
        obtain ⟨r162, hx163, h'⟩ := bind_some h
        clear h
        have h := h'; clear h'
        refine st_call (c_impl_Distance ((hR157.low (Nat.zero_le _)).mod m160) (hR161.low (Nat.zero_le _)) hx163) rfl ?_
        have hd166 := ltb_size hO89.ltb (hw159.trans hw155)
        have hd167 := ltb_size hO90.ltb (hw159.trans hw155)
        have hd168 := ltb_size hO142.ltb (hw159.trans hw155)
        have hKs := size_le hK.size (hw159.trans hw155)
        rintro _ σ164 m165 rfl
        obtain ⟨σ169, hw170, m171, hxl172, hvl173⟩ := lent (hw159.trans hw155) m165
        rw [← hw170]
        replace hO89 := hO89.mod0 m171
        replace hO90 := hO90.mod0 m171
        replace hO142 := hO142.mod0 m171
        replace hK := hK.none m171
        clear hKs m171
        refine st (v := (Sl a25 r21 c26)) (rv_move rfl) ?_
        refine st (v := (Sl a9 r2.2.1 c10)) (rv_move rfl) ?_
        have hg178 := hO90.ge
        obtain ⟨σ174, hw177, m175, hR176⟩ := hO90.pub' (Nat.le_refl _)
        rw [← hw177]; clear hw177
        replace hO89 := hO89.mod' m175 (hd93).symm
        replace hK := hK.own m175 hg178
        have hg183 := hO89.ge
        obtain ⟨σ179, hw182, m180, hR181⟩ := hO89.pub' (Nat.le_refl _)
        rw [← hw182]; clear hw182
        replace hR176 := hR176.mod m180
        replace hK := hK.own m180 hg183
        obtain ⟨r184, hx185, h'⟩ := bind_some h
        clear h
        have h := h'; clear h'
        refine st_call (c_impl_Distance (hR176.low (Nat.zero_le _)) (hR181.low (Nat.zero_le _)) hx185) rfl ?_
        have hKs := hK.size
        rintro _ σ186 m187 rfl
        replace hR176 := hR176.mod m187
        replace hR181 := hR181.mod m187
        replace hK := hK.none m187
        clear hKs m187
        refine st (v := (I (w64 (r184 + 1)))) (rv_add (a := r184) (b := 1) rfl rfl) ?_
        refine st (v := (B (decide (r162 ≤ (w64 (r184 + 1)))))) (rv_leq (a := r162) (b := (w64 (r184 + 1))) rfl rfl) ?_
        refine st (v := (B (decide (r162 ≤ (w64 (r184 + 1)))))) (rv_assign rfl) ?_
        refine w_end ?_
        refine q_then ?_
        refine c_ret ?_
        obtain rfl := Option.some.inj h
        exact bodyPost_ret (v := (B (decide (r162 ≤ (w64 (r184 + 1)))))) (results_fr1 Try.results12 rfl _) rfl ⟨_, σ186, rfl, rfl, hK, rfl⟩

theorem c_spec_someItem {σ0 : St} {r_0 : (List UInt8) × Int} {ar_0_0 : Option Addr} {cr_0_0 : Nat} (hRr_0_0 : RS 0 σ0 (Sl ar_0_0 r_0.1 cr_0_0) r_0.1) {br_0 : Nat} (hBr_0 : Bx σ0 br_0 [(Sl ar_0_0 r_0.1 cr_0_0), (I r_0.2)])  (hltr_0 : br_0 < σ0.size) {r : (Int × (List Int) × Int) × ((List UInt8) × Int)} (h : M.spec_someItem r_0 = some r) :
    Cal Try.prog 72 [(pt br_0 0)] (some br_0) σ0 (fun v σ' => ∃ (a0 : Option Addr) (c0 : Nat), ∃ (a1 : Option Addr) (c1 : Nat), v = (.agg #[(I r.1.1), (Sl a0 r.1.2.1 c0), (I r.1.2.2)]) ∧ RS σ0.size σ' (Sl a0 r.1.2.1 c0) r.1.2.1 ∧ RS 0 σ' (Sl a1 r.2.1 c1) r.2.1 ∧ Bx σ' br_0 [(Sl a1 r.2.1 c1), (I r.2.2)]) := by
  refine ⟨⟨_, _, Try.func72, rfl, rfl⟩, ?_⟩
  refine enter (n := 11) Try.func72 rfl rfl rfl ?_
  unfold M.spec_someItem at h
  have hK : Mod (some br_0) σ0 σ0 := Mod.refl _ _
  refine c_seq ?_
  refine rg ?_
  refine st_alloc (cs := [(I 0), (.slice none 0 0), (I 0)]) ti45 rfl ?_ (wanted_none _ rfl _)
  intro b2 σ4 hbn6 m5 hB1
  have hge3 := Nat.le_trans hK.size (Nat.le_of_eq hbn6)
  replace hRr_0_0 := hRr_0_0.mod m5
  replace hBr_0 := hBr_0.mod0 m5
  replace hK := hK.none m5
  clear hbn6 m5
  refine w_end ?_
  refine q_then ?_
  refine c_seq ?_
  refine rg ?_
  refine st (v := (pt br_0 0)) (rv_move rfl) ?_
  obtain ⟨r7, hx8, h'⟩ := bind_some h
  clear h
  have h := h'; clear h'
  refine st_call (c_spec_reader_pick hRr_0_0 hBr_0 hBr_0.lt hx8) rfl ?_
  have hd15 := hB1.ltb
  have hKs := hK.size
  rintro _ σ9 m10 ⟨a11, c12, rfl, hR13, hB14⟩
  replace hRr_0_0 := hRr_0_0.mod m10
  replace hB1 := hB1.mod' m10 (Df.ge (by rintro _ ⟨⟩; exact hltr_0) (by rintro _ ⟨⟩; exact hge3)).symm
  replace hK := hK.self m10
  clear hKs m10
  refine st (v := (I (w64 (1 + r7.1)))) (rv_add (a := 1) (b := r7.1) rfl rfl) ?_
  refine st (v := (pt br_0 0)) (rv_move rfl) ?_
  obtain ⟨r16, hx17, h'⟩ := bind_some h
  clear h
  have h := h'; clear h'
  refine st_call (c_spec_someVector hR13 hB14 hB14.lt hx17) rfl ?_
  have hd27 := hB1.ltb
  have hKs := hK.size
  rintro _ σ18 m19 ⟨a20, c21, a23, c24, rfl, hO22, hR25, hB26⟩
  replace hR13 := hR13.mod m19
  replace hB1 := hB1.mod' m19 (Df.ge (by rintro _ ⟨⟩; exact hltr_0) (by rintro _ ⟨⟩; exact hge3)).symm
  replace hK := hK.self m19
  have hO22g := hO22.ge
  replace hO22 := hO22.lo hKs
  replace hO22 := hO22.low' hKs
  have hd28 := Df.ge hd27 hO22g
  clear hKs m19 hO22g
  refine st (v := (pt br_0 0)) (rv_move rfl) ?_
  obtain ⟨r29, hx30, h'⟩ := bind_some h
  clear h
  have h := h'; clear h'
  refine st_call (c_spec_reader_pick hR25 hB26 hB26.lt hx30) rfl ?_
  have hd37 := hO22.ltb
  have hd38 := hB1.ltb
  have hKs := hK.size
  rintro _ σ31 m32 ⟨a33, c34, rfl, hR35, hB36⟩
  replace hR25 := hR25.mod m32
  replace hO22 := hO22.mod' m32 (Df.ge (by rintro _ ⟨⟩; exact hltr_0) hO22.ge).symm
  replace hB1 := hB1.mod' m32 (Df.ge (by rintro _ ⟨⟩; exact hltr_0) (by rintro _ ⟨⟩; exact hge3)).symm
  replace hK := hK.self m32
  clear hKs m32
  refine st (v := (.agg #[(I (w64 (1 + r7.1))), (Sl a20 r16.1 c21), (I r29.1)])) (rv_build (ps := [(0, (I (w64 (1 + r7.1)))), (1, (Sl a20 r16.1 c21)), (2, (I r29.1))]) Try.underlying45 ti45 (bp45 Try.underlying45) rfl (by kernel_rfl)) ?_
  have hg43 := hO22.ge
  obtain ⟨σ39, hw42, m40, hR41⟩ := hO22.pub' (Nat.le_refl _)
  rw [← hw42]; clear hw42
  replace hR35 := hR35.mod m40
  replace hB36 := hB36.mod' m40 (Df.ge (by rintro _ ⟨⟩; exact hltr_0) hO22.ge)
  replace hB1 := hB1.mod' m40 hd28
  replace hK := hK.own m40 hg43
  refine st_store_box (cs := [(I 0), (.slice none 0 0), (I 0)]) (vs := [(I (w64 (1 + r7.1))), (Sl a20 r16.1 c21), (I r29.1)]) ti45 hB1 rfl rfl rfl rfl (Nat.le_of_ble_eq_true rfl) (by simp [plain]) ?_
  intro σ44 m45 hB47 hs46; clear hs46
  replace hR35 := hR35.mod m45
  replace hR41 := hR41.mod m45
  replace hB36 := hB36.mod' m45 (Df.ge (by rintro _ ⟨⟩; exact hltr_0) (by rintro _ ⟨⟩; exact hge3))
  replace hK := hK.some m45 hge3
  replace hB47 := Bx.cast (cs' := [(I (w64 (1 + r7.1))), (Sl a20 r16.1 c21), (I r29.1)]) hB47 rfl
  clear hB1
  refine w_end ?_
  refine q_then ?_
  refine c_ret ?_
  obtain rfl := Option.some.inj h
  exact bodyPost_ret (v := (.agg #[(I (w64 (1 + r7.1))), (Sl a20 r16.1 c21), (I r29.1)])) (results_cell (cs := [(I (w64 (1 + r7.1))), (Sl a20 r16.1 c21), (I r29.1)]) Try.results72 Try.underlying45 rfl ti45 rfl rfl hB47) rfl ⟨_, σ44, rfl, rfl, hK, a20, c21, a33, c34, rfl, hR41, hR35, hB36⟩

theorem c_spec_anyItem {σ0 : St} {r_0 : (List UInt8) × Int} {ar_0_0 : Option Addr} {cr_0_0 : Nat} (hRr_0_0 : RS 0 σ0 (Sl ar_0_0 r_0.1 cr_0_0) r_0.1) {br_0 : Nat} (hBr_0 : Bx σ0 br_0 [(Sl ar_0_0 r_0.1 cr_0_0), (I r_0.2)])  (hltr_0 : br_0 < σ0.size) {r : (Int × (List Int) × Int) × ((List UInt8) × Int)} (h : M.spec_anyItem r_0 = some r) :
    Cal Try.prog 58 [(pt br_0 0)] (some br_0) σ0 (fun v σ' => ∃ (a0 : Option Addr) (c0 : Nat), ∃ (a1 : Option Addr) (c1 : Nat), v = (.agg #[(I r.1.1), (Sl a0 r.1.2.1 c0), (I r.1.2.2)]) ∧ RS σ0.size σ' (Sl a0 r.1.2.1 c0) r.1.2.1 ∧ RS 0 σ' (Sl a1 r.2.1 c1) r.2.1 ∧ Bx σ' br_0 [(Sl a1 r.2.1 c1), (I r.2.2)]) := by
  refine ⟨⟨_, _, Try.func58, rfl, rfl⟩, ?_⟩
  refine enter (n := 26) Try.func58 rfl rfl rfl ?_
  unfold M.spec_anyItem at h
  have hK : Mod (some br_0) σ0 σ0 := Mod.refl _ _
  refine c_seq ?_
  refine rg ?_
  refine st_alloc (cs := [(I 0), (.slice none 0 0), (I 0)]) ti45 rfl ?_ (wanted_none _ rfl _)
  intro b2 σ4 hbn6 m5 hB1
  have hge3 := Nat.le_trans hK.size (Nat.le_of_eq hbn6)
  replace hRr_0_0 := hRr_0_0.mod m5
  replace hBr_0 := hBr_0.mod0 m5
  replace hK := hK.none m5
  clear hbn6 m5
  refine w_end ?_
  refine q_then ?_
  refine c_seq ?_
  refine rg ?_
  refine st (v := (pt br_0 0)) (rv_move rfl) ?_
  obtain ⟨r7, hx8, h'⟩ := bind_some h
  clear h
  have h := h'; clear h'
  refine st_call (c_spec_someItem hRr_0_0 hBr_0 hBr_0.lt hx8) rfl ?_
  have hd18 := hB1.ltb
  have hKs := hK.size
  rintro _ σ9 m10 ⟨a11, c12, a14, c15, rfl, hR13, hR16, hB17⟩
  replace hRr_0_0 := hRr_0_0.mod m10
  replace hB1 := hB1.mod' m10 (Df.ge (by rintro _ ⟨⟩; exact hltr_0) (by rintro _ ⟨⟩; exact hge3)).symm
  replace hK := hK.self m10
  replace hR13 := hR13.low hKs
  clear hKs m10
  refine st_alloc (cs := [(I 0), (.slice none 0 0), (I 0)]) ti45 rfl ?_ (wanted_none _ rfl _)
  intro b20 σ22 hbn24 m23 hB19
  have hd25 := hB1.df' hbn24
  have hge21 := Nat.le_trans hK.size (Nat.le_of_eq hbn24)
  replace hR16 := hR16.mod m23
  replace hR13 := hR13.mod m23
  replace hB17 := hB17.mod0 m23
  replace hB1 := hB1.mod0 m23
  replace hK := hK.none m23
  clear hbn24 m23
  refine st_store_box (cs := [(I 0), (.slice none 0 0), (I 0)]) (vs := [(I r7.1.1), (Sl a11 r7.1.2.1 c12), (I r7.1.2.2)]) ti45 hB19 rfl rfl rfl rfl (Nat.le_of_ble_eq_true rfl) (by simp [plain]) ?_
  intro σ26 m27 hB29 hs28; clear hs28
  replace hR16 := hR16.mod m27
  replace hR13 := hR13.mod m27
  replace hB17 := hB17.mod' m27 (Df.ge (by rintro _ ⟨⟩; exact hltr_0) (by rintro _ ⟨⟩; exact hge21))
  replace hB1 := hB1.mod' m27 hd25
  replace hK := hK.some m27 hge21
  replace hB29 := Bx.cast (cs' := [(I r7.1.1), (Sl a11 r7.1.2.1 c12), (I r7.1.2.2)]) hB29 rfl
  clear hB19
  refine w_end ?_
  refine q_then ?_
  refine c_seq ?_
  refine c_seq ?_
  refine rg ?_
  refine st (v := (pt br_0 0)) (rv_move rfl) ?_
  obtain ⟨r30, hx31, h'⟩ := bind_some h
  clear h
  have h := h'; clear h'
  refine st_call (c_spec_reader_pick hR16 hB17 hB17.lt hx31) rfl ?_
  have hd38 := hB1.ltb
  have hd39 := hB29.ltb
  have hKs := hK.size
  rintro _ σ32 m33 ⟨a34, c35, rfl, hR36, hB37⟩
  replace hR16 := hR16.mod m33
  replace hR13 := hR13.mod m33
  replace hB1 := hB1.mod' m33 (Df.ge (by rintro _ ⟨⟩; exact hltr_0) (by rintro _ ⟨⟩; exact hge3)).symm
  replace hB29 := hB29.mod' m33 (Df.ge (by rintro _ ⟨⟩; exact hltr_0) (by rintro _ ⟨⟩; exact hge21)).symm
  replace hK := hK.self m33
  clear hKs m33
  refine w_end ?_
  refine q_then ?_
  obtain ⟨o40, hj, h'⟩ := bind_some h
  clear h
  refine c_cut (fun e a w => e = .normal ∧ ∃ (ρ : Nat → Value) (σ : St) (aj1 : Option Addr) (cj2 : Nat) (aj6 : Option Addr) (cj7 : Nat), a = fr 26 (updL ρ [(0, (pt br_0 0)), (2, (pt b2 0)), (3, (pt b20 0))]) ∧ w = σ.w ∧ Mod (some br_0) σ0 σ ∧ RS 0 σ (Sl aj1 o40.1.1 cj2) o40.1.1 ∧ Bx σ br_0 [(Sl aj1 o40.1.1 cj2), (I o40.1.2)] ∧ Bx σ b2 [(I 0), (.slice none 0 0), (I 0)] ∧ RS σ0.size σ (Sl aj6 o40.2.2.1 cj7) o40.2.2.1 ∧ Bx σ b20 [(I o40.2.1), (Sl aj6 o40.2.2.1 cj7), (I o40.2.2.2)] ∧ Df (some b20) (some b2)) ?_ ?_
  · clear h'
    rename _ = some o40 => h
    refine c_blk ?_
    refine c_seq ?_
    refine rg ?_
    refine st (v := (B (r30.1 == 0))) (rv_eql (a := r30.1) (b := 0) rfl rfl) ?_
    refine st (v := (B (r30.1 == 0))) (rv_assign rfl) ?_
    refine w_end ?_
    refine q_then ?_
    refine cd_cond (r30.1 == 0) rfl (fun hb41 => ?_) (fun hb41 => ?_)
    · replace h := bif_t hb41 h
      refine rg ?_
      refine st (v := (pt br_0 0)) (rv_move rfl) ?_
      refine st_buildSlice (lo := σ0.size) (el := σ0.size) (xs := ([0, 99, 100] : List Int)) (ps := [(0, (I 0)), (1, (I 99)), (2, (I 100))]) (cs := [(I 0), (I 99), (I 100)]) Try.underlying23 ti3 rfl rfl (by kernel_rfl) (.cons (c := [(I 0)]) rfl (.cons (c := [(I 99)]) rfl (.cons (c := [(I 100)]) rfl (.nil)))) rfl ?_ hK.size (wanted_none _ rfl _)
      intro b43 σ44 hbn46 m45 hO42
      have hd47 := hB1.df' hbn46
      have hd48 := hB29.df' hbn46
      replace hR36 := hR36.mod m45
      replace hR13 := hR13.mod m45
      replace hB37 := hB37.mod0 m45
      replace hB1 := hB1.mod0 m45
      replace hB29 := hB29.mod0 m45
      replace hK := hK.none m45
      clear hbn46 m45
      have hg53 := hO42.ge
      obtain ⟨σ49, hw52, m50, hR51⟩ := hO42.pub' (Nat.le_refl _)
      rw [← hw52]; clear hw52
      replace hR36 := hR36.mod m50
      replace hR13 := hR13.mod m50
      replace hB37 := hB37.mod' m50 (Df.ge (by rintro _ ⟨⟩; exact hltr_0) hO42.ge)
      replace hB1 := hB1.mod' m50 hd47
      replace hB29 := hB29.mod' m50 hd48
      replace hK := hK.own m50 hg53
      obtain ⟨r54, hx55, h'⟩ := bind_some h
      clear h
      have h := h'; clear h'
      refine st_call (c_spec_reader_one hR36 hB37 hB37.lt (hR51.low (Nat.zero_le _)) hx55) rfl ?_
      have hd62 := hB1.ltb
      have hd63 := hB29.ltb
      have hKs := hK.size
      rintro _ σ56 m57 ⟨a58, c59, rfl, hR60, hB61⟩
      replace hR36 := hR36.mod m57
      replace hR13 := hR13.mod m57
      replace hR51 := hR51.mod m57
      replace hB1 := hB1.mod' m57 (Df.ge (by rintro _ ⟨⟩; exact hltr_0) (by rintro _ ⟨⟩; exact hge3)).symm
      replace hB29 := hB29.mod' m57 (Df.ge (by rintro _ ⟨⟩; exact hltr_0) (by rintro _ ⟨⟩; exact hge21)).symm
      replace hK := hK.self m57
      clear hKs m57
      refine st (v := (pt b20 0)) (rv_fieldAddr (off := 0) (ft := 3) Try.underlying45 rfl ti3 rfl rfl) ?_
      refine st_store_box (cs := [(I r7.1.1), (Sl a11 r7.1.2.1 c12), (I r7.1.2.2)]) (vs := [(I r54.1)]) ti3 hB29 rfl rfl rfl rfl (Nat.le_of_ble_eq_true rfl) (by simp [plain]) ?_
      intro σ64 m65 hB67 hs66; clear hs66
      replace hR60 := hR60.mod m65
      replace hR13 := hR13.mod m65
      replace hB61 := hB61.mod' m65 (Df.ge (by rintro _ ⟨⟩; exact hltr_0) (by rintro _ ⟨⟩; exact hge21))
      replace hB1 := hB1.mod' m65 hd25
      replace hK := hK.some m65 hge21
      replace hB67 := Bx.cast (cs' := [(I r54.1), (Sl a11 r7.1.2.1 c12), (I r7.1.2.2)]) hB67 rfl
      clear hB29
      refine w_end ?_
      refine q_blk ?_
      obtain rfl := Option.some.inj h
      exact ⟨rfl, _, σ64, a58, c59, a11, c12, fr_join ⟨rfl, rfl, rfl, trivial⟩, rfl, hK, hR60, hB61, hB1, hR13, hB67, (hd25).symm⟩
    · replace h := bif_f hb41 h
      refine c_seq ?_
      refine rg ?_
      refine st (v := (B (r30.1 == 1))) (rv_eql (a := r30.1) (b := 1) rfl rfl) ?_
      refine st (v := (B (r30.1 == 1))) (rv_assign rfl) ?_
      refine w_end ?_
      refine q_then ?_
      refine cd_cond (r30.1 == 1) rfl (fun hb68 => ?_) (fun hb68 => ?_)
      · replace h := bif_t hb68 h
        refine rg ?_
        refine st (v := (pt br_0 0)) (rv_move rfl) ?_
        obtain ⟨r69, hx70, h'⟩ := bind_some h
        clear h
        have h := h'; clear h'
        refine st_call (c_spec_anyVector hR36 hB37 hB37.lt hx70) rfl ?_
        have hd80 := hB1.ltb
        have hd81 := hB29.ltb
        have hKs := hK.size
        rintro _ σ71 m72 ⟨a73, c74, a76, c77, rfl, hO75, hR78, hB79⟩
        replace hR36 := hR36.mod m72
        replace hR13 := hR13.mod m72
        replace hB1 := hB1.mod' m72 (Df.ge (by rintro _ ⟨⟩; exact hltr_0) (by rintro _ ⟨⟩; exact hge3)).symm
        replace hB29 := hB29.mod' m72 (Df.ge (by rintro _ ⟨⟩; exact hltr_0) (by rintro _ ⟨⟩; exact hge21)).symm
        replace hK := hK.self m72
        have hO75g := hO75.ge
        replace hO75 := hO75.lo hKs
        replace hO75 := hO75.low' hKs
        have hd82 := Df.ge hd80 hO75g
        have hd83 := Df.ge hd81 hO75g
        clear hKs m72 hO75g
        refine st (v := (pt b20 1)) (rv_fieldAddr (off := 1) (ft := 23) Try.underlying45 rfl ti23 rfl rfl) ?_
        have hg88 := hO75.ge
        obtain ⟨σ84, hw87, m85, hR86⟩ := hO75.pub' (Nat.le_refl _)
        rw [← hw87]; clear hw87
        replace hR78 := hR78.mod m85
        replace hR13 := hR13.mod m85
        replace hB79 := hB79.mod' m85 (Df.ge (by rintro _ ⟨⟩; exact hltr_0) hO75.ge)
        replace hB1 := hB1.mod' m85 hd82
        replace hB29 := hB29.mod' m85 hd83
        replace hK := hK.own m85 hg88
        refine st_store_box (cs := [(I r7.1.1), (Sl a11 r7.1.2.1 c12), (I r7.1.2.2)]) (vs := [(Sl a73 r69.1 c74)]) ti23 hB29 rfl rfl rfl rfl (Nat.le_of_ble_eq_true rfl) (by simp [plain]) ?_
        intro σ89 m90 hB92 hs91; clear hs91
        replace hR78 := hR78.mod m90
        replace hR13 := hR13.mod m90
        replace hR86 := hR86.mod m90
        replace hB79 := hB79.mod' m90 (Df.ge (by rintro _ ⟨⟩; exact hltr_0) (by rintro _ ⟨⟩; exact hge21))
        replace hB1 := hB1.mod' m90 hd25
        replace hK := hK.some m90 hge21
        replace hB92 := Bx.cast (cs' := [(I r7.1.1), (Sl a73 r69.1 c74), (I r7.1.2.2)]) hB92 rfl
        clear hB29
        refine w_end ?_
        refine q_blk ?_
        obtain rfl := Option.some.inj h
        exact ⟨rfl, _, σ89, a76, c77, a73, c74, fr_join ⟨rfl, rfl, rfl, trivial⟩, rfl, hK, hR78, hB79, hB1, hR86, hB92, (hd25).symm⟩
      · replace h := bif_f hb68 h
        refine c_seq ?_
        refine rg ?_
        refine st (v := (B (r30.1 == 2))) (rv_eql (a := r30.1) (b := 2) rfl rfl) ?_
        refine st (v := (B (r30.1 == 2))) (rv_assign rfl) ?_
        refine w_end ?_
        refine q_then ?_
        refine cd_cond (r30.1 == 2) rfl (fun hb93 => ?_) (fun hb93 => ?_)
        · replace h := bif_t hb93 h
          refine rg ?_
          refine st (v := (pt br_0 0)) (rv_move rfl) ?_
          refine st_buildSlice (lo := σ0.size) (el := σ0.size) (xs := ([-1, 16] : List Int)) (ps := [(0, (I (-1))), (1, (I 16))]) (cs := [(I (-1)), (I 16)]) Try.underlying23 ti3 rfl rfl (by kernel_rfl) (.cons (c := [(I (-1))]) rfl (.cons (c := [(I 16)]) rfl (.nil))) rfl ?_ hK.size (wanted_none _ rfl _)
          intro b95 σ96 hbn98 m97 hO94
          have hd99 := hB1.df' hbn98
          have hd100 := hB29.df' hbn98
          replace hR36 := hR36.mod m97
          replace hR13 := hR13.mod m97
          replace hB37 := hB37.mod0 m97
          replace hB1 := hB1.mod0 m97
          replace hB29 := hB29.mod0 m97
          replace hK := hK.none m97
          clear hbn98 m97
          have hg105 := hO94.ge
          obtain ⟨σ101, hw104, m102, hR103⟩ := hO94.pub' (Nat.le_refl _)
          rw [← hw104]; clear hw104
          replace hR36 := hR36.mod m102
          replace hR13 := hR13.mod m102
          replace hB37 := hB37.mod' m102 (Df.ge (by rintro _ ⟨⟩; exact hltr_0) hO94.ge)
          replace hB1 := hB1.mod' m102 hd99
          replace hB29 := hB29.mod' m102 hd100
          replace hK := hK.own m102 hg105
          obtain ⟨r106, hx107, h'⟩ := bind_some h
          clear h
          have h := h'; clear h'
          refine st_call (c_spec_reader_one hR36 hB37 hB37.lt (hR103.low (Nat.zero_le _)) hx107) rfl ?_
          have hd114 := hB1.ltb
          have hd115 := hB29.ltb
          have hKs := hK.size
          rintro _ σ108 m109 ⟨a110, c111, rfl, hR112, hB113⟩
          replace hR36 := hR36.mod m109
          replace hR13 := hR13.mod m109
          replace hR103 := hR103.mod m109
          replace hB1 := hB1.mod' m109 (Df.ge (by rintro _ ⟨⟩; exact hltr_0) (by rintro _ ⟨⟩; exact hge3)).symm
          replace hB29 := hB29.mod' m109 (Df.ge (by rintro _ ⟨⟩; exact hltr_0) (by rintro _ ⟨⟩; exact hge21)).symm
          replace hK := hK.self m109
          clear hKs m109
          refine st (v := (pt b20 2)) (rv_fieldAddr (off := 2) (ft := 3) Try.underlying45 rfl ti3 rfl rfl) ?_
          refine st_store_box (cs := [(I r7.1.1), (Sl a11 r7.1.2.1 c12), (I r7.1.2.2)]) (vs := [(I r106.1)]) ti3 hB29 rfl rfl rfl rfl (Nat.le_of_ble_eq_true rfl) (by simp [plain]) ?_
          intro σ116 m117 hB119 hs118; clear hs118
          replace hR112 := hR112.mod m117
          replace hR13 := hR13.mod m117
          replace hB113 := hB113.mod' m117 (Df.ge (by rintro _ ⟨⟩; exact hltr_0) (by rintro _ ⟨⟩; exact hge21))
          replace hB1 := hB1.mod' m117 hd25
          replace hK := hK.some m117 hge21
          replace hB119 := Bx.cast (cs' := [(I r7.1.1), (Sl a11 r7.1.2.1 c12), (I r106.1)]) hB119 rfl
          clear hB29
          refine w_end ?_
          refine q_blk ?_
          obtain rfl := Option.some.inj h
          exact ⟨rfl, _, σ116, a110, c111, a11, c12, fr_join ⟨rfl, rfl, rfl, trivial⟩, rfl, hK, hR112, hB113, hB1, hR13, hB119, (hd25).symm⟩
        · replace h := bif_f hb93 h
          refine c_skip ?_
          refine q_blk ?_
          obtain rfl := Option.some.inj h
          exact ⟨rfl, _, σ32, a34, c35, a11, c12, fr_join ⟨rfl, rfl, rfl, trivial⟩, rfl, hK, hR36, hB37, hB1, hR13, hB29, (hd25).symm⟩
  · clear hj
    have h := h'
    clear h'
    rintro e a w ⟨rfl, ρ, σ120, a121, c122, a126, c127, rfl, rfl, hK, hR123, hB124, hB125, hR128, hB129, hd130⟩
    refine q_then ?_
    refine c_seq ?_
    refine rg ?_
    refine st (v := (.agg #[(I o40.2.1), (Sl a126 o40.2.2.1 c127), (I o40.2.2.2)])) (rv_load (cs := [(I o40.2.1), (Sl a126 o40.2.2.1 c127), (I o40.2.2.2)]) Try.underlying45 rfl ti45 rfl rfl hB129.all) ?_
    refine st_store_box (cs := [(I 0), (.slice none 0 0), (I 0)]) (vs := [(I o40.2.1), (Sl a126 o40.2.2.1 c127), (I o40.2.2.2)]) ti45 hB125 rfl rfl rfl rfl (Nat.le_of_ble_eq_true rfl) (by simp [plain]) ?_
    intro σ131 m132 hB134 hs133; clear hs133
    replace hR123 := hR123.mod m132
    replace hR128 := hR128.mod m132
    replace hB124 := hB124.mod' m132 (Df.ge (by rintro _ ⟨⟩; exact hltr_0) (by rintro _ ⟨⟩; exact hge3))
    replace hK := hK.some m132 hge3
    replace hB134 := Bx.cast (cs' := [(I o40.2.1), (Sl a126 o40.2.2.1 c127), (I o40.2.2.2)]) hB134 rfl
    clear hB125
    refine w_end ?_
    refine q_then ?_
    refine c_ret ?_
    obtain rfl := Option.some.inj h
    exact bodyPost_ret (v := (.agg #[(I o40.2.1), (Sl a126 o40.2.2.1 c127), (I o40.2.2.2)])) (results_cell (cs := [(I o40.2.1), (Sl a126 o40.2.2.1 c127), (I o40.2.2.2)]) Try.results58 Try.underlying45 rfl ti45 rfl rfl hB134) rfl ⟨_, σ131, rfl, rfl, hK, a126, c127, a121, c122, rfl, hR128, hR123, hB124⟩

theorem c_spec_validItem {σ0 : St} {x_0 : Int × (List Int) × Int} {ax_0_1 : Option Addr} {cx_0_1 : Nat} (hRx_0_1 : RS 0 σ0 (Sl ax_0_1 x_0.2.1 cx_0_1) x_0.2.1) {r : Bool} (h : M.spec_validItem x_0 = some r) :
    Cal Try.prog 63 [(.agg #[(I x_0.1), (Sl ax_0_1 x_0.2.1 cx_0_1), (I x_0.2.2)])] none σ0 (fun v σ' => v = (B r)) := by
  refine ⟨⟨_, _, Try.func63, rfl, rfl⟩, ?_⟩
  refine enter (n := 16) Try.func63 rfl rfl rfl ?_
  unfold M.spec_validItem at h
  have hK : Mod none σ0 σ0 := Mod.refl _ _
  refine c_seq ?_
  refine rg ?_
  refine st_box (cs := [(I x_0.1), (Sl ax_0_1 x_0.2.1 cx_0_1), (I x_0.2.2)]) rfl rfl ?_ (wanted_none _ rfl _)
  intro b2 σ4 hbn6 m5 hB1
  have hge3 := Nat.le_trans hK.size (Nat.le_of_eq hbn6)
  replace hRx_0_1 := hRx_0_1.mod m5
  replace hK := hK.none m5
  clear hbn6 m5
  refine st (v := (B false)) (rv_assign rfl) ?_
  refine w_end ?_
  refine q_then ?_
  refine c_seq ?_
  refine rg ?_
  refine st (v := (pt b2 0)) (rv_fieldAddr (off := 0) (ft := 3) Try.underlying45 rfl ti3 rfl rfl) ?_
  refine st (v := (I x_0.1)) (rv_load1 Try.underlying3 rfl rfl (hB1.cell' 0 rfl rfl)) ?_
  obtain ⟨r7, hx8, h'⟩ := bind_some h
  clear h
  have h := h'; clear h'
  refine st_call (c_spec_inRange  hx8) rfl ?_
  have hd11 := hB1.ltb
  have hKs := hK.size
  rintro _ σ9 m10 rfl
  replace hRx_0_1 := hRx_0_1.mod m10
  replace hB1 := hB1.mod0 m10
  replace hK := hK.none m10
  clear hKs m10
  refine st (v := (B r7)) (rv_move rfl) ?_
  rcases Bool.eq_false_or_eq_true r7 with hb12 | hb12
  · replace h := bif_t hb12 h
    refine st_g (v := (pt b2 1)) (congrArg some hb12) (rv_fieldAddr (off := 1) (ft := 23) Try.underlying45 rfl ti23 rfl rfl) ?_
    refine st_g (v := (Sl ax_0_1 x_0.2.1 cx_0_1)) (congrArg some hb12) (rv_load1 Try.underlying23 rfl rfl (hB1.cell' 1 rfl rfl)) ?_
    obtain ⟨r13, hx14, h'⟩ := bind_some h
    clear h
    have h := h'; clear h'
    refine st_call_g (by exact (congrArg some hb12)) (c_spec_isVector hRx_0_1 hx14) rfl ?_
    have hd17 := hB1.ltb
    have hKs := hK.size
    rintro _ σ15 m16 rfl
    replace hRx_0_1 := hRx_0_1.mod m16
    replace hB1 := hB1.mod0 m16
    replace hK := hK.none m16
    clear hKs m16
    refine st (v := (B r13)) (rv_pick_t (congrArg B hb12) rfl) ?_
    refine st (v := (B r13)) (rv_move rfl) ?_
    rcases Bool.eq_false_or_eq_true r13 with hb18 | hb18
    · replace h := bif_t hb18 h
      refine st_g (v := (pt b2 2)) (congrArg some hb18) (rv_fieldAddr (off := 2) (ft := 3) Try.underlying45 rfl ti3 rfl rfl) ?_
      refine st_g (v := (I x_0.2.2)) (congrArg some hb18) (rv_load1 Try.underlying3 rfl rfl (hB1.cell' 2 rfl rfl)) ?_
      obtain ⟨r19, hx20, h'⟩ := bind_some h
      clear h
      have h := h'; clear h'
      refine st_call_g (by exact (congrArg some hb18)) (c_spec_inRange  hx20) rfl ?_
      have hKs := hK.size
      rintro _ σ21 m22 rfl
      replace hK := hK.none m22
      clear hKs m22
      refine st (v := (B r19)) (rv_pick_t (congrArg B hb18) rfl) ?_
      refine st (v := (B r19)) (rv_assign rfl) ?_
      refine w_end ?_
      refine q_then ?_
      refine c_ret ?_
      obtain rfl := Option.some.inj h
      exact bodyPost_ret (v := (B r19)) (results_fr1 Try.results63 rfl _) rfl ⟨_, σ21, rfl, rfl, hK, rfl⟩
    · replace h := bif_f hb18 h
      refine st_skip (congrArg some hb18) ?_
      refine st_skip (congrArg some hb18) ?_
      refine st_skip (congrArg some hb18) ?_
      refine st (v := (B false)) (rv_pick_f (congrArg B hb18) rfl) ?_
      refine st (v := (B false)) (rv_assign rfl) ?_
      refine w_end ?_
      refine q_then ?_
      refine c_ret ?_
      obtain rfl := Option.some.inj h
      exact bodyPost_ret (v := (B false)) (results_fr1 Try.results63 rfl _) rfl ⟨_, σ15, rfl, rfl, hK, rfl⟩
  · replace h := bif_f hb12 h
    refine st_skip (congrArg some hb12) ?_
    refine st_skip (congrArg some hb12) ?_
    refine st_skip (congrArg some hb12) ?_
    refine st (v := (B false)) (rv_pick_f (congrArg B hb12) rfl) ?_
    refine st (v := (B false)) (rv_move rfl) ?_
    refine st_skip rfl ?_
    refine st_skip rfl ?_
    refine st_skip rfl ?_
    refine st (v := (B false)) (rv_pick_f rfl rfl) ?_
    refine st (v := (B false)) (rv_assign rfl) ?_
    refine w_end ?_
    refine q_then ?_
    refine c_ret ?_
    obtain rfl := Option.some.inj h
    exact bodyPost_ret (v := (B false)) (results_fr1 Try.results63 rfl _) rfl ⟨_, σ9, rfl, rfl, hK, rfl⟩

theorem c_spec_validStore {σ0 : St} {list_0 : List (Int × (List Int) × Int)} {alist_0 : Option Addr} {clist_0 : Nat} (hRlist_0 : RS 0 σ0 (Sl alist_0 list_0 clist_0) list_0) {r : Bool} (h : M.spec_validStore list_0 = some r) :
    Cal Try.prog 57 [(Sl alist_0 list_0 clist_0)] none σ0 (fun v σ' => v = (B r)) := by
  refine ⟨⟨_, _, Try.func57, rfl, rfl⟩, ?_⟩
  refine enter (n := 37) Try.func57 rfl rfl rfl ?_
  unfold M.spec_validStore at h
  have hK : Mod none σ0 σ0 := Mod.refl _ _
  refine c_seq ?_
  refine rg ?_
  refine st (v := (B false)) (rv_assign rfl) ?_
  refine w_end ?_
  refine q_then ?_
  refine c_seq ?_
  refine c_seq ?_
  refine rg ?_
  refine st (v := (I 0)) (rv_assign rfl) ?_
  refine w_end ?_
  refine q_then ?_
  obtain ⟨o1, hj, h'⟩ := bind_some h
  clear h
  refine c_cut (fun e a w => (∃ t, o1 = (.inl t) ∧ e = .normal ∧ ∃ (ρ : Nat → Value) (σ : St), a = fr 37 (updL ρ [(0, (Sl alist_0 list_0 clist_0))]) ∧ w = σ.w ∧ Mod none σ0 σ ∧ RS 0 σ (Sl alist_0 list_0 clist_0) list_0) ∨ (∃ t, o1 = (.inr t) ∧ e = .ret ∧ ∃ (ρ : Nat → Value) (σ : St), a = fr 37 (updL ρ [(2, (B t))]) ∧ w = σ.w ∧ Mod none σ0 σ)) ?_ ?_
  · clear h'
    rename _ = some o1 => h
    refine c_blk ?_
    refine wp_loopM _ h (fun s2 a w => ∃ (ρ : Nat → Value) (σ : St), a = fr 37 (updL ρ [(0, (Sl alist_0 list_0 clist_0)), (3, (I s2))]) ∧ w = σ.w ∧ Mod none σ0 σ ∧ RS 0 σ (Sl alist_0 list_0 clist_0) list_0) ⟨_, σ0, fr_join ⟨rfl, rfl, trivial⟩, rfl, hK, hRlist_0⟩ ?_
    clear h
    rintro s2 a w o ⟨ρ, σ4, rfl, rfl, hK, hR5⟩ h hres
    refine c_seq ?_
    refine c_seq ?_
    refine rg ?_
    refine st (v := (I s2)) (rv_move rfl) ?_
    refine st (v := (Sl alist_0 list_0 clist_0)) (rv_move rfl) ?_
    refine st (v := (I (list_0.length : Int))) (rv_len Try.underlying41 rfl) ?_
    refine st (v := (B (decide (s2 < (list_0.length : Int))))) (rv_lss (a := s2) (b := (list_0.length : Int)) rfl rfl) ?_
    refine w_end ?_
    refine q_then ?_
    refine cd_cond (decide (s2 < (list_0.length : Int))) rfl (fun hb6 => ?_) (fun hb6 => ?_)
    · replace h := bif_t hb6 h
      refine c_skip ?_
      refine q_then ?_
      refine c_seq ?_
      refine c_blk ?_
      refine c_seq ?_
      obtain ⟨o7, hj, h'⟩ := bind_some h
      clear h
      refine c_cut (fun e a w => e = .normal ∧ ∃ (ρ : Nat → Value) (σ : St), a = fr 37 (updL ρ [(0, (Sl alist_0 list_0 clist_0)), (3, (I s2)), (33, (B o7))]) ∧ w = σ.w ∧ Mod none σ0 σ ∧ RS 0 σ (Sl alist_0 list_0 clist_0) list_0) ?_ ?_
      · clear h'
        rename _ = some o7 => h
        obtain ⟨x8, hx9, h'⟩ := bind_some h
        clear h
        have h := h'; clear h'
        obtain ⟨b11, o12, hi10, -⟩ := hR5.ix hx9
        obtain ⟨_, ⟨_, _, rfl, rfl, ⟨_, _, rfl, ⟨_, rfl, hR18⟩, rfl⟩⟩, hl14, hc15⟩ := (hR5.at hx9 hi10).cells
        obtain ⟨a16, c17, rfl⟩ := hR18.isSl
        obtain ⟨r19, hx20, h'⟩ := bind_some h
        clear h
        have h := h'; clear h'
        rcases Bool.eq_false_or_eq_true (!r19) with hb21 | hb21
        · replace h := bif_t hb21 h
          refine rg_monoL (σ := σ4) 21 [eqv (Sl alist_0 list_0 clist_0), eqv (I s2), eqv (pt b11 o12), eqv (.agg #[(I x8.1), (Sl a16 x8.2.1 c17), (I x8.2.2)]), eqv (B r19), eqv (B (!r19)), eqv (B (!r19)), eqv undef, eqv undef, eqv undef, eqv undef, eqv undef, eqv undef, eqv undef, eqv undef, eqv undef, eqv undef, eqv undef, eqv undef, eqv undef, eqv undef] (by kernel_rfl) (by kernel_rfl) (mono_cons mono_eqv (mono_cons mono_eqv (mono_cons mono_eqv (mono_cons mono_eqv (mono_cons mono_eqv (mono_cons mono_eqv (mono_cons mono_eqv (mono_cons mono_eqv (mono_cons mono_eqv (mono_cons mono_eqv (mono_cons mono_eqv (mono_cons mono_eqv (mono_cons mono_eqv (mono_cons mono_eqv (mono_cons mono_eqv (mono_cons mono_eqv (mono_cons mono_eqv (mono_cons mono_eqv (mono_cons mono_eqv (mono_cons mono_eqv (mono_cons mono_eqv (mono_nil)))))))))))))))))))))) ?_ ?_
          · refine all_cons (by
                intro ρ σm m hoff hdep
                have e0 : look 37 ρ 0 = (Sl alist_0 list_0 clist_0) := look_off (hoff 0 rfl) rfl
                exact does_v (v := (Sl alist_0 list_0 clist_0)) (wanted_none _ rfl _) (rv_move e0) rfl) ?_
            refine all_cons (by
                intro ρ σm m hoff hdep
                have e3 : look 37 ρ 3 = (I s2) := look_off (hoff 3 rfl) rfl
                exact does_v (v := (I s2)) (wanted_none _ rfl _) (rv_move e3) rfl) ?_
            refine all_cons (by
                intro ρ σm m hoff hdep
                have e10 : look 37 ρ 10 = (Sl alist_0 list_0 clist_0) := hdep 0 rfl rfl 10 rfl
                have e11 : look 37 ρ 11 = (I s2) := hdep 1 rfl rfl 11 rfl
                exact does_v (v := (pt b11 o12)) (wanted_none _ rfl _) (rv_ix Try.underlying41 ti45 e10 e11 hi10) rfl) ?_
            refine all_cons (by
                intro ρ σm m hoff hdep
                have e12 : look 37 ρ 12 = (pt b11 o12) := hdep 2 rfl rfl 12 rfl
                replace hc15 := fun j hj => hR5.hmod hx9 hi10 (k := j) (Nat.lt_of_lt_of_eq hj hl14) (hc15 j hj) m
                exact does_v (v := (.agg #[(I x8.1), (Sl a16 x8.2.1 c17), (I x8.2.2)])) (wanted_none _ rfl _) (rv_load Try.underlying45 rfl ti45 e12 hl14 hc15) rfl) ?_
            refine all_cons (by
                intro ρ σm m hoff hdep
                have e13 : look 37 ρ 13 = (.agg #[(I x8.1), (Sl a16 x8.2.1 c17), (I x8.2.2)]) := hdep 3 rfl rfl 13 rfl
                replace hR18 := hR18.mod m
                have hKs : σ4.size ≤ σm.size := m.size
                exact does_call (wanted_none _ rfl _) (c_spec_validItem hR18 hx20) (by show [look 37 ρ 13] = _; rw [e13]) (by rintro v σ2 m2 rfl; exact rfl)) ?_
            refine all_cons (by
                intro ρ σm m hoff hdep
                have e14 : look 37 ρ 14 = (B r19) := hdep 4 rfl rfl 14 rfl
                exact does_v (v := (B (!r19))) (wanted_none _ rfl _) (rv_not e14) rfl) ?_
            refine all_cons (by
                intro ρ σm m hoff hdep
                have e15 : look 37 ρ 15 = (B (!r19)) := hdep 5 rfl rfl 15 rfl
                exact does_v (v := (B (!r19))) (wanted_none _ rfl _) (rv_move e15) rfl) ?_
            refine all_cons (by
                intro ρ σm m hoff hdep
                have e16 : look 37 ρ 16 = (B (!r19)) := hdep 6 rfl rfl 16 rfl
                exact does_skip (wanted_no rfl (yv_of rfl (e16.trans (congrArg B hb21)))) rfl) ?_
            refine all_cons (by
                intro ρ σm m hoff hdep
                have e16 : look 37 ρ 16 = (B (!r19)) := hdep 6 rfl rfl 16 rfl
                exact does_skip (wanted_no rfl (yv_of rfl (e16.trans (congrArg B hb21)))) rfl) ?_
            refine all_cons (by
                intro ρ σm m hoff hdep
                have e16 : look 37 ρ 16 = (B (!r19)) := hdep 6 rfl rfl 16 rfl
                exact does_skip (wanted_no rfl (yv_of rfl (e16.trans (congrArg B hb21)))) rfl) ?_
            refine all_cons (by
                intro ρ σm m hoff hdep
                have e19 : look 37 ρ 19 = undef := hdep 9 rfl rfl 19 rfl
                exact does_skip (wanted_u rfl (yv_undef rfl e19)) rfl) ?_
            refine all_cons (by
                intro ρ σm m hoff hdep
                have e19 : look 37 ρ 19 = undef := hdep 9 rfl rfl 19 rfl
                exact does_skip (wanted_u rfl (yv_undef rfl e19)) rfl) ?_
            refine all_cons (by
                intro ρ σm m hoff hdep
                have e19 : look 37 ρ 19 = undef := hdep 9 rfl rfl 19 rfl
                exact does_skip (wanted_u rfl (yv_undef rfl e19)) rfl) ?_
            refine all_cons (by
                intro ρ σm m hoff hdep
                have e19 : look 37 ρ 19 = undef := hdep 9 rfl rfl 19 rfl
                exact does_skip (wanted_u rfl (yv_undef rfl e19)) rfl) ?_
            refine all_cons (by
                intro ρ σm m hoff hdep
                have e19 : look 37 ρ 19 = undef := hdep 9 rfl rfl 19 rfl
                exact does_skip (wanted_u rfl (yv_undef rfl e19)) rfl) ?_
            refine all_cons (by
                intro ρ σm m hoff hdep
                have e19 : look 37 ρ 19 = undef := hdep 9 rfl rfl 19 rfl
                exact does_skip (wanted_u rfl (yv_undef rfl e19)) rfl) ?_
            refine all_cons (by
                intro ρ σm m hoff hdep
                have e19 : look 37 ρ 19 = undef := hdep 9 rfl rfl 19 rfl
                exact does_skip (wanted_u rfl (yv_undef rfl e19)) rfl) ?_
            refine all_cons (by
                intro ρ σm m hoff hdep
                have e19 : look 37 ρ 19 = undef := hdep 9 rfl rfl 19 rfl
                exact does_skip (wanted_u rfl (yv_undef rfl e19)) rfl) ?_
            refine all_cons (by
                intro ρ σm m hoff hdep
                have e19 : look 37 ρ 19 = undef := hdep 9 rfl rfl 19 rfl
                exact does_skip (wanted_u rfl (yv_undef rfl e19)) rfl) ?_
            refine all_cons (by
                intro ρ σm m hoff hdep
                have e19 : look 37 ρ 19 = undef := hdep 9 rfl rfl 19 rfl
                exact does_skip (wanted_u rfl (yv_undef rfl e19)) rfl) ?_
            refine all_cons (by
                intro ρ σm m hoff hdep
                have e19 : look 37 ρ 19 = undef := hdep 9 rfl rfl 19 rfl
                exact does_skip (wanted_u rfl (yv_undef rfl e19)) rfl) ?_
            exact all_nil
          · intro ρ σ22 m hoff hrel
            have e0 : look 37 ρ 0 = (Sl alist_0 list_0 clist_0) := look_off (hoff 0 rfl) rfl
            have e3 : look 37 ρ 3 = (I s2) := look_off (hoff 3 rfl) rfl
            have e16 : look 37 ρ 16 = (B (!r19)) := hrel 6 rfl 16 rfl
            have e19 : look 37 ρ 19 = undef := hrel 9 rfl 19 rfl
            have e24 : look 37 ρ 24 = undef := hrel 14 rfl 24 rfl
            have e30 : look 37 ρ 30 = undef := hrel 20 rfl 30 rfl
            replace hR5 := hR5.mod m
            replace hK := hK.none m
            rw [fr_lookL (L := [(0, (Sl alist_0 list_0 clist_0)), (3, (I s2)), (16, (B (!r19))), (19, undef), (24, undef), (30, undef)]) ⟨e0, e3, e16, e19, e24, e30, trivial⟩]
            clear hoff hrel m e0 e3 e16 e19 e24 e30
            refine st_skip_u rfl ?_
            refine st_skip (congrArg some hb21) ?_
            refine st (v := (B true)) (rv_pick_t (congrArg B hb21) rfl) ?_
            refine w_end ?_
            obtain rfl := Option.some.inj h
            exact ⟨rfl, _, σ22, fr_join ⟨rfl, rfl, rfl, trivial⟩, rfl, hK, hR5⟩
        · replace h := bif_f hb21 h
          rcases Bool.eq_false_or_eq_true (decide (0 < s2)) with hb23 | hb23
          · replace h := bif_t hb23 h
            obtain ⟨x24, hx25, h'⟩ := bind_some h
            clear h
            have h := h'; clear h'
            obtain ⟨b27, o28, hi26, -⟩ := hR5.ix hx25
            obtain ⟨x29, hx30, h'⟩ := bind_some h
            clear h
            have h := h'; clear h'
            obtain ⟨b32, o33, hi31, -⟩ := hR5.ix hx30
            refine rg_monoL (σ := σ4) 21 [eqv (Sl alist_0 list_0 clist_0), eqv (I s2), eqv (pt b11 o12), eqv (.agg #[(I x8.1), (Sl a16 x8.2.1 c17), (I x8.2.2)]), eqv (B r19), eqv (B (!r19)), eqv (B (!r19)), eqv (I s2), eqv (B (decide (0 < s2))), eqv (B (decide (0 < s2))), eqv (Sl alist_0 list_0 clist_0), eqv (I s2), eqv (pt b27 o28), eqv (pt b27 (o28 + 0)), eqv (I x24.1), eqv (Sl alist_0 list_0 clist_0), eqv (I s2), eqv (I (w64 (s2 - 1))), eqv (pt b32 o33), eqv (pt b32 (o33 + 0)), eqv (I x29.1)] (by kernel_rfl) (by kernel_rfl) (mono_cons mono_eqv (mono_cons mono_eqv (mono_cons mono_eqv (mono_cons mono_eqv (mono_cons mono_eqv (mono_cons mono_eqv (mono_cons mono_eqv (mono_cons mono_eqv (mono_cons mono_eqv (mono_cons mono_eqv (mono_cons mono_eqv (mono_cons mono_eqv (mono_cons mono_eqv (mono_cons mono_eqv (mono_cons mono_eqv (mono_cons mono_eqv (mono_cons mono_eqv (mono_cons mono_eqv (mono_cons mono_eqv (mono_cons mono_eqv (mono_cons mono_eqv (mono_nil)))))))))))))))))))))) ?_ ?_
            · refine all_cons (by
                  intro ρ σm m hoff hdep
                  have e0 : look 37 ρ 0 = (Sl alist_0 list_0 clist_0) := look_off (hoff 0 rfl) rfl
                  exact does_v (v := (Sl alist_0 list_0 clist_0)) (wanted_none _ rfl _) (rv_move e0) rfl) ?_
              refine all_cons (by
                  intro ρ σm m hoff hdep
                  have e3 : look 37 ρ 3 = (I s2) := look_off (hoff 3 rfl) rfl
                  exact does_v (v := (I s2)) (wanted_none _ rfl _) (rv_move e3) rfl) ?_
              refine all_cons (by
                  intro ρ σm m hoff hdep
                  have e10 : look 37 ρ 10 = (Sl alist_0 list_0 clist_0) := hdep 0 rfl rfl 10 rfl
                  have e11 : look 37 ρ 11 = (I s2) := hdep 1 rfl rfl 11 rfl
                  exact does_v (v := (pt b11 o12)) (wanted_none _ rfl _) (rv_ix Try.underlying41 ti45 e10 e11 hi10) rfl) ?_
              refine all_cons (by
                  intro ρ σm m hoff hdep
                  have e12 : look 37 ρ 12 = (pt b11 o12) := hdep 2 rfl rfl 12 rfl
                  replace hc15 := fun j hj => hR5.hmod hx9 hi10 (k := j) (Nat.lt_of_lt_of_eq hj hl14) (hc15 j hj) m
                  exact does_v (v := (.agg #[(I x8.1), (Sl a16 x8.2.1 c17), (I x8.2.2)])) (wanted_none _ rfl _) (rv_load Try.underlying45 rfl ti45 e12 hl14 hc15) rfl) ?_
              refine all_cons (by
                  intro ρ σm m hoff hdep
                  have e13 : look 37 ρ 13 = (.agg #[(I x8.1), (Sl a16 x8.2.1 c17), (I x8.2.2)]) := hdep 3 rfl rfl 13 rfl
                  replace hR18 := hR18.mod m
                  have hKs : σ4.size ≤ σm.size := m.size
                  exact does_call (wanted_none _ rfl _) (c_spec_validItem hR18 hx20) (by show [look 37 ρ 13] = _; rw [e13]) (by rintro v σ2 m2 rfl; exact rfl)) ?_
              refine all_cons (by
                  intro ρ σm m hoff hdep
                  have e14 : look 37 ρ 14 = (B r19) := hdep 4 rfl rfl 14 rfl
                  exact does_v (v := (B (!r19))) (wanted_none _ rfl _) (rv_not e14) rfl) ?_
              refine all_cons (by
                  intro ρ σm m hoff hdep
                  have e15 : look 37 ρ 15 = (B (!r19)) := hdep 5 rfl rfl 15 rfl
                  exact does_v (v := (B (!r19))) (wanted_none _ rfl _) (rv_move e15) rfl) ?_
              refine all_cons (by
                  intro ρ σm m hoff hdep
                  have e3 : look 37 ρ 3 = (I s2) := look_off (hoff 3 rfl) rfl
                  have e16 : look 37 ρ 16 = (B (!r19)) := hdep 6 rfl rfl 16 rfl
                  exact does_v (v := (I s2)) (wanted_yes rfl (yv_of rfl (e16.trans (congrArg B hb21)))) (rv_move e3) rfl) ?_
              refine all_cons (by
                  intro ρ σm m hoff hdep
                  have e17 : look 37 ρ 17 = (I s2) := hdep 7 rfl rfl 17 rfl
                  have e16 : look 37 ρ 16 = (B (!r19)) := hdep 6 rfl rfl 16 rfl
                  exact does_v (v := (B (decide (0 < s2)))) (wanted_yes rfl (yv_of rfl (e16.trans (congrArg B hb21)))) (rv_gtr (a := s2) (b := 0) e17 rfl) rfl) ?_
              refine all_cons (by
                  intro ρ σm m hoff hdep
                  have e18 : look 37 ρ 18 = (B (decide (0 < s2))) := hdep 8 rfl rfl 18 rfl
                  have e16 : look 37 ρ 16 = (B (!r19)) := hdep 6 rfl rfl 16 rfl
                  exact does_v (v := (B (decide (0 < s2)))) (wanted_yes rfl (yv_of rfl (e16.trans (congrArg B hb21)))) (rv_move e18) rfl) ?_
              refine all_cons (by
                  intro ρ σm m hoff hdep
                  have e0 : look 37 ρ 0 = (Sl alist_0 list_0 clist_0) := look_off (hoff 0 rfl) rfl
                  have e19 : look 37 ρ 19 = (B (decide (0 < s2))) := hdep 9 rfl rfl 19 rfl
                  exact does_v (v := (Sl alist_0 list_0 clist_0)) (wanted_yes rfl (yv_of rfl (e19.trans (congrArg B hb23)))) (rv_move e0) rfl) ?_
              refine all_cons (by
                  intro ρ σm m hoff hdep
                  have e3 : look 37 ρ 3 = (I s2) := look_off (hoff 3 rfl) rfl
                  have e19 : look 37 ρ 19 = (B (decide (0 < s2))) := hdep 9 rfl rfl 19 rfl
                  exact does_v (v := (I s2)) (wanted_yes rfl (yv_of rfl (e19.trans (congrArg B hb23)))) (rv_move e3) rfl) ?_
              refine all_cons (by
                  intro ρ σm m hoff hdep
                  have e20 : look 37 ρ 20 = (Sl alist_0 list_0 clist_0) := hdep 10 rfl rfl 20 rfl
                  have e21 : look 37 ρ 21 = (I s2) := hdep 11 rfl rfl 21 rfl
                  have e19 : look 37 ρ 19 = (B (decide (0 < s2))) := hdep 9 rfl rfl 19 rfl
                  exact does_v (v := (pt b27 o28)) (wanted_yes rfl (yv_of rfl (e19.trans (congrArg B hb23)))) (rv_ix Try.underlying41 ti45 e20 e21 hi26) rfl) ?_
              refine all_cons (by
                  intro ρ σm m hoff hdep
                  have e22 : look 37 ρ 22 = (pt b27 o28) := hdep 12 rfl rfl 22 rfl
                  have e19 : look 37 ρ 19 = (B (decide (0 < s2))) := hdep 9 rfl rfl 19 rfl
                  exact does_v (v := (pt b27 (o28 + 0))) (wanted_yes rfl (yv_of rfl (e19.trans (congrArg B hb23)))) (rv_fieldAddr (off := 0) (ft := 3) Try.underlying45 rfl ti3 rfl e22) rfl) ?_
              refine all_cons (by
                  intro ρ σm m hoff hdep
                  have e23 : look 37 ρ 23 = (pt b27 (o28 + 0)) := hdep 13 rfl rfl 23 rfl
                  have e19 : look 37 ρ 19 = (B (decide (0 < s2))) := hdep 9 rfl rfl 19 rfl
                  replace hR5 := hR5.mod m
                  exact does_v (v := (I x24.1)) (wanted_yes rfl (yv_of rfl (e19.trans (congrArg B hb23)))) (rv_load1 Try.underlying3 rfl e23 (hR5.at hx25 hi26).fst.int) rfl) ?_
              refine all_cons (by
                  intro ρ σm m hoff hdep
                  have e0 : look 37 ρ 0 = (Sl alist_0 list_0 clist_0) := look_off (hoff 0 rfl) rfl
                  have e19 : look 37 ρ 19 = (B (decide (0 < s2))) := hdep 9 rfl rfl 19 rfl
                  exact does_v (v := (Sl alist_0 list_0 clist_0)) (wanted_yes rfl (yv_of rfl (e19.trans (congrArg B hb23)))) (rv_move e0) rfl) ?_
              refine all_cons (by
                  intro ρ σm m hoff hdep
                  have e3 : look 37 ρ 3 = (I s2) := look_off (hoff 3 rfl) rfl
                  have e19 : look 37 ρ 19 = (B (decide (0 < s2))) := hdep 9 rfl rfl 19 rfl
                  exact does_v (v := (I s2)) (wanted_yes rfl (yv_of rfl (e19.trans (congrArg B hb23)))) (rv_move e3) rfl) ?_
              refine all_cons (by
                  intro ρ σm m hoff hdep
                  have e26 : look 37 ρ 26 = (I s2) := hdep 16 rfl rfl 26 rfl
                  have e19 : look 37 ρ 19 = (B (decide (0 < s2))) := hdep 9 rfl rfl 19 rfl
                  exact does_v (v := (I (w64 (s2 - 1)))) (wanted_yes rfl (yv_of rfl (e19.trans (congrArg B hb23)))) (rv_sub (a := s2) (b := 1) e26 rfl) rfl) ?_
              refine all_cons (by
                  intro ρ σm m hoff hdep
                  have e25 : look 37 ρ 25 = (Sl alist_0 list_0 clist_0) := hdep 15 rfl rfl 25 rfl
                  have e27 : look 37 ρ 27 = (I (w64 (s2 - 1))) := hdep 17 rfl rfl 27 rfl
                  have e19 : look 37 ρ 19 = (B (decide (0 < s2))) := hdep 9 rfl rfl 19 rfl
                  exact does_v (v := (pt b32 o33)) (wanted_yes rfl (yv_of rfl (e19.trans (congrArg B hb23)))) (rv_ix Try.underlying41 ti45 e25 e27 hi31) rfl) ?_
              refine all_cons (by
                  intro ρ σm m hoff hdep
                  have e28 : look 37 ρ 28 = (pt b32 o33) := hdep 18 rfl rfl 28 rfl
                  have e19 : look 37 ρ 19 = (B (decide (0 < s2))) := hdep 9 rfl rfl 19 rfl
                  exact does_v (v := (pt b32 (o33 + 0))) (wanted_yes rfl (yv_of rfl (e19.trans (congrArg B hb23)))) (rv_fieldAddr (off := 0) (ft := 3) Try.underlying45 rfl ti3 rfl e28) rfl) ?_
              refine all_cons (by
                  intro ρ σm m hoff hdep
                  have e29 : look 37 ρ 29 = (pt b32 (o33 + 0)) := hdep 19 rfl rfl 29 rfl
                  have e19 : look 37 ρ 19 = (B (decide (0 < s2))) := hdep 9 rfl rfl 19 rfl
                  replace hR5 := hR5.mod m
                  exact does_v (v := (I x29.1)) (wanted_yes rfl (yv_of rfl (e19.trans (congrArg B hb23)))) (rv_load1 Try.underlying3 rfl e29 (hR5.at hx30 hi31).fst.int) rfl) ?_
              exact all_nil
            · intro ρ σ34 m hoff hrel
              have e0 : look 37 ρ 0 = (Sl alist_0 list_0 clist_0) := look_off (hoff 0 rfl) rfl
              have e3 : look 37 ρ 3 = (I s2) := look_off (hoff 3 rfl) rfl
              have e16 : look 37 ρ 16 = (B (!r19)) := hrel 6 rfl 16 rfl
              have e19 : look 37 ρ 19 = (B (decide (0 < s2))) := hrel 9 rfl 19 rfl
              have e24 : look 37 ρ 24 = (I x24.1) := hrel 14 rfl 24 rfl
              have e30 : look 37 ρ 30 = (I x29.1) := hrel 20 rfl 30 rfl
              replace hR5 := hR5.mod m
              replace hK := hK.none m
              rw [fr_lookL (L := [(0, (Sl alist_0 list_0 clist_0)), (3, (I s2)), (16, (B (!r19))), (19, (B (decide (0 < s2)))), (24, (I x24.1)), (30, (I x29.1))]) ⟨e0, e3, e16, e19, e24, e30, trivial⟩]
              clear hoff hrel m e0 e3 e16 e19 e24 e30
              refine st_g (v := (B (decide (x24.1 ≤ x29.1)))) (congrArg some hb23) (rv_leq (a := x24.1) (b := x29.1) rfl rfl) ?_
              refine st_g (v := (B (decide (x24.1 ≤ x29.1)))) (congrArg some hb21) (rv_pick_t (congrArg B hb23) rfl) ?_
              refine st (v := (B (decide (x24.1 ≤ x29.1)))) (rv_pick_f (congrArg B hb21) rfl) ?_
              refine w_end ?_
              obtain rfl := Option.some.inj h
              exact ⟨rfl, _, σ34, fr_join ⟨rfl, rfl, rfl, trivial⟩, rfl, hK, hR5⟩
          · replace h := bif_f hb23 h
            refine rg_monoL (σ := σ4) 21 [eqv (Sl alist_0 list_0 clist_0), eqv (I s2), eqv (pt b11 o12), eqv (.agg #[(I x8.1), (Sl a16 x8.2.1 c17), (I x8.2.2)]), eqv (B r19), eqv (B (!r19)), eqv (B (!r19)), eqv (I s2), eqv (B (decide (0 < s2))), eqv (B (decide (0 < s2))), eqv undef, eqv undef, eqv undef, eqv undef, eqv undef, eqv undef, eqv undef, eqv undef, eqv undef, eqv undef, eqv undef] (by kernel_rfl) (by kernel_rfl) (mono_cons mono_eqv (mono_cons mono_eqv (mono_cons mono_eqv (mono_cons mono_eqv (mono_cons mono_eqv (mono_cons mono_eqv (mono_cons mono_eqv (mono_cons mono_eqv (mono_cons mono_eqv (mono_cons mono_eqv (mono_cons mono_eqv (mono_cons mono_eqv (mono_cons mono_eqv (mono_cons mono_eqv (mono_cons mono_eqv (mono_cons mono_eqv (mono_cons mono_eqv (mono_cons mono_eqv (mono_cons mono_eqv (mono_cons mono_eqv (mono_cons mono_eqv (mono_nil)))))))))))))))))))))) ?_ ?_
            · refine all_cons (by
                  intro ρ σm m hoff hdep
                  have e0 : look 37 ρ 0 = (Sl alist_0 list_0 clist_0) := look_off (hoff 0 rfl) rfl
                  exact does_v (v := (Sl alist_0 list_0 clist_0)) (wanted_none _ rfl _) (rv_move e0) rfl) ?_
              refine all_cons (by
                  intro ρ σm m hoff hdep
                  have e3 : look 37 ρ 3 = (I s2) := look_off (hoff 3 rfl) rfl
                  exact does_v (v := (I s2)) (wanted_none _ rfl _) (rv_move e3) rfl) ?_
              refine all_cons (by
                  intro ρ σm m hoff hdep
                  have e10 : look 37 ρ 10 = (Sl alist_0 list_0 clist_0) := hdep 0 rfl rfl 10 rfl
                  have e11 : look 37 ρ 11 = (I s2) := hdep 1 rfl rfl 11 rfl
                  exact does_v (v := (pt b11 o12)) (wanted_none _ rfl _) (rv_ix Try.underlying41 ti45 e10 e11 hi10) rfl) ?_
              refine all_cons (by
                  intro ρ σm m hoff hdep
                  have e12 : look 37 ρ 12 = (pt b11 o12) := hdep 2 rfl rfl 12 rfl
                  replace hc15 := fun j hj => hR5.hmod hx9 hi10 (k := j) (Nat.lt_of_lt_of_eq hj hl14) (hc15 j hj) m
                  exact does_v (v := (.agg #[(I x8.1), (Sl a16 x8.2.1 c17), (I x8.2.2)])) (wanted_none _ rfl _) (rv_load Try.underlying45 rfl ti45 e12 hl14 hc15) rfl) ?_
              refine all_cons (by
                  intro ρ σm m hoff hdep
                  have e13 : look 37 ρ 13 = (.agg #[(I x8.1), (Sl a16 x8.2.1 c17), (I x8.2.2)]) := hdep 3 rfl rfl 13 rfl
                  replace hR18 := hR18.mod m
                  have hKs : σ4.size ≤ σm.size := m.size
                  exact does_call (wanted_none _ rfl _) (c_spec_validItem hR18 hx20) (by show [look 37 ρ 13] = _; rw [e13]) (by rintro v σ2 m2 rfl; exact rfl)) ?_
              refine all_cons (by
                  intro ρ σm m hoff hdep
                  have e14 : look 37 ρ 14 = (B r19) := hdep 4 rfl rfl 14 rfl
                  exact does_v (v := (B (!r19))) (wanted_none _ rfl _) (rv_not e14) rfl) ?_
              refine all_cons (by
                  intro ρ σm m hoff hdep
                  have e15 : look 37 ρ 15 = (B (!r19)) := hdep 5 rfl rfl 15 rfl
                  exact does_v (v := (B (!r19))) (wanted_none _ rfl _) (rv_move e15) rfl) ?_
              refine all_cons (by
                  intro ρ σm m hoff hdep
                  have e3 : look 37 ρ 3 = (I s2) := look_off (hoff 3 rfl) rfl
                  have e16 : look 37 ρ 16 = (B (!r19)) := hdep 6 rfl rfl 16 rfl
                  exact does_v (v := (I s2)) (wanted_yes rfl (yv_of rfl (e16.trans (congrArg B hb21)))) (rv_move e3) rfl) ?_
              refine all_cons (by
                  intro ρ σm m hoff hdep
                  have e17 : look 37 ρ 17 = (I s2) := hdep 7 rfl rfl 17 rfl
                  have e16 : look 37 ρ 16 = (B (!r19)) := hdep 6 rfl rfl 16 rfl
                  exact does_v (v := (B (decide (0 < s2)))) (wanted_yes rfl (yv_of rfl (e16.trans (congrArg B hb21)))) (rv_gtr (a := s2) (b := 0) e17 rfl) rfl) ?_
              refine all_cons (by
                  intro ρ σm m hoff hdep
                  have e18 : look 37 ρ 18 = (B (decide (0 < s2))) := hdep 8 rfl rfl 18 rfl
                  have e16 : look 37 ρ 16 = (B (!r19)) := hdep 6 rfl rfl 16 rfl
                  exact does_v (v := (B (decide (0 < s2)))) (wanted_yes rfl (yv_of rfl (e16.trans (congrArg B hb21)))) (rv_move e18) rfl) ?_
              refine all_cons (by
                  intro ρ σm m hoff hdep
                  have e19 : look 37 ρ 19 = (B (decide (0 < s2))) := hdep 9 rfl rfl 19 rfl
                  exact does_skip (wanted_no rfl (yv_of rfl (e19.trans (congrArg B hb23)))) rfl) ?_
              refine all_cons (by
                  intro ρ σm m hoff hdep
                  have e19 : look 37 ρ 19 = (B (decide (0 < s2))) := hdep 9 rfl rfl 19 rfl
                  exact does_skip (wanted_no rfl (yv_of rfl (e19.trans (congrArg B hb23)))) rfl) ?_
              refine all_cons (by
                  intro ρ σm m hoff hdep
                  have e19 : look 37 ρ 19 = (B (decide (0 < s2))) := hdep 9 rfl rfl 19 rfl
                  exact does_skip (wanted_no rfl (yv_of rfl (e19.trans (congrArg B hb23)))) rfl) ?_
              refine all_cons (by
                  intro ρ σm m hoff hdep
                  have e19 : look 37 ρ 19 = (B (decide (0 < s2))) := hdep 9 rfl rfl 19 rfl
                  exact does_skip (wanted_no rfl (yv_of rfl (e19.trans (congrArg B hb23)))) rfl) ?_
              refine all_cons (by
                  intro ρ σm m hoff hdep
                  have e19 : look 37 ρ 19 = (B (decide (0 < s2))) := hdep 9 rfl rfl 19 rfl
                  exact does_skip (wanted_no rfl (yv_of rfl (e19.trans (congrArg B hb23)))) rfl) ?_
              refine all_cons (by
                  intro ρ σm m hoff hdep
                  have e19 : look 37 ρ 19 = (B (decide (0 < s2))) := hdep 9 rfl rfl 19 rfl
                  exact does_skip (wanted_no rfl (yv_of rfl (e19.trans (congrArg B hb23)))) rfl) ?_
              refine all_cons (by
                  intro ρ σm m hoff hdep
                  have e19 : look 37 ρ 19 = (B (decide (0 < s2))) := hdep 9 rfl rfl 19 rfl
                  exact does_skip (wanted_no rfl (yv_of rfl (e19.trans (congrArg B hb23)))) rfl) ?_
              refine all_cons (by
                  intro ρ σm m hoff hdep
                  have e19 : look 37 ρ 19 = (B (decide (0 < s2))) := hdep 9 rfl rfl 19 rfl
                  exact does_skip (wanted_no rfl (yv_of rfl (e19.trans (congrArg B hb23)))) rfl) ?_
              refine all_cons (by
                  intro ρ σm m hoff hdep
                  have e19 : look 37 ρ 19 = (B (decide (0 < s2))) := hdep 9 rfl rfl 19 rfl
                  exact does_skip (wanted_no rfl (yv_of rfl (e19.trans (congrArg B hb23)))) rfl) ?_
              refine all_cons (by
                  intro ρ σm m hoff hdep
                  have e19 : look 37 ρ 19 = (B (decide (0 < s2))) := hdep 9 rfl rfl 19 rfl
                  exact does_skip (wanted_no rfl (yv_of rfl (e19.trans (congrArg B hb23)))) rfl) ?_
              refine all_cons (by
                  intro ρ σm m hoff hdep
                  have e19 : look 37 ρ 19 = (B (decide (0 < s2))) := hdep 9 rfl rfl 19 rfl
                  exact does_skip (wanted_no rfl (yv_of rfl (e19.trans (congrArg B hb23)))) rfl) ?_
              exact all_nil
            · intro ρ σ35 m hoff hrel
              have e0 : look 37 ρ 0 = (Sl alist_0 list_0 clist_0) := look_off (hoff 0 rfl) rfl
              have e3 : look 37 ρ 3 = (I s2) := look_off (hoff 3 rfl) rfl
              have e16 : look 37 ρ 16 = (B (!r19)) := hrel 6 rfl 16 rfl
              have e19 : look 37 ρ 19 = (B (decide (0 < s2))) := hrel 9 rfl 19 rfl
              have e24 : look 37 ρ 24 = undef := hrel 14 rfl 24 rfl
              have e30 : look 37 ρ 30 = undef := hrel 20 rfl 30 rfl
              replace hR5 := hR5.mod m
              replace hK := hK.none m
              rw [fr_lookL (L := [(0, (Sl alist_0 list_0 clist_0)), (3, (I s2)), (16, (B (!r19))), (19, (B (decide (0 < s2)))), (24, undef), (30, undef)]) ⟨e0, e3, e16, e19, e24, e30, trivial⟩]
              clear hoff hrel m e0 e3 e16 e19 e24 e30
              refine st_skip (congrArg some hb23) ?_
              refine st_g (v := (B false)) (congrArg some hb21) (rv_pick_f (congrArg B hb23) rfl) ?_
              refine st (v := (B false)) (rv_pick_f (congrArg B hb21) rfl) ?_
              refine w_end ?_
              obtain rfl := Option.some.inj h
              exact ⟨rfl, _, σ35, fr_join ⟨rfl, rfl, rfl, trivial⟩, rfl, hK, hR5⟩
      · clear hj
        have h := h'
        clear h'
        rintro e a w ⟨rfl, ρ, σ36, rfl, rfl, hK, hR37⟩
        refine q_then ?_
        refine cd_cond o7 rfl (fun hb38 => ?_) (fun hb38 => ?_)
        · replace h := bif_t hb38 h
          refine c_seq ?_
          refine rg ?_
          refine st (v := (B false)) (rv_assign rfl) ?_
          refine w_end ?_
          refine q_then ?_
          refine c_ret ?_
          refine q_blk_r ?_
          refine q_then_r ?_
          refine q_then_r ?_
          refine q_blk_r ?_
          obtain rfl := Option.some.inj h
          obtain rfl := hres _ rfl
          exact .inr (⟨_, rfl, rfl, _, σ36, fr_join ⟨rfl, trivial⟩, rfl, hK⟩)
        · replace h := bif_f hb38 h
          refine c_skip ?_
          refine q_blk ?_
          refine q_then ?_
          refine rg ?_
          refine st (v := (I s2)) (rv_move rfl) ?_
          refine st (v := (I (w64 (s2 + 1)))) (rv_add (a := s2) (b := 1) rfl rfl) ?_
          refine st (v := (I (w64 (s2 + 1)))) (rv_assign rfl) ?_
          refine w_end ?_
          refine q_then ?_
          obtain rfl := Option.some.inj h
          exact ⟨_, rfl, _, σ36, fr_join ⟨rfl, rfl, trivial⟩, rfl, hK, hR37⟩
    · replace h := bif_f hb6 h
      refine c_exit ?_
      refine q_then_x ?_
      refine q_then_x ?_
      refine q_blk_hit ?_
      obtain rfl := Option.some.inj h
      obtain rfl := hres _ rfl
      exact .inl ⟨_, rfl, rfl, _, σ4, fr_join ⟨rfl, trivial⟩, rfl, hK, hR5⟩
  · clear hj
    have h := h'
    clear h'
    rintro e a w (⟨t39, rfl, rfl, ρ, σ40, rfl, rfl, hK, hR41⟩ | ⟨t42, rfl, rfl, ρ, σ43, rfl, rfl, hK⟩)
    · replace h := selim_l h
      refine q_then ?_
      refine c_seq ?_
      refine rg ?_
      refine st (v := (Sl alist_0 list_0 clist_0)) (rv_move rfl) ?_
      refine st (v := (I (list_0.length : Int))) (rv_len Try.underlying41 rfl) ?_
      refine st (v := (B (decide ((list_0.length : Int) ≤ 16)))) (rv_leq (a := (list_0.length : Int)) (b := 16) rfl rfl) ?_
      refine st (v := (B (decide ((list_0.length : Int) ≤ 16)))) (rv_assign rfl) ?_
      refine w_end ?_
      refine q_then ?_
      refine c_ret ?_
      obtain rfl := Option.some.inj h
      exact bodyPost_ret (v := (B (decide ((list_0.length : Int) ≤ 16)))) (results_fr1 Try.results57 rfl _) rfl ⟨_, σ40, rfl, rfl, hK, rfl⟩
    · replace h := selim_r h
      refine q_then_r ?_
      obtain rfl := Option.some.inj h
      exact bodyPost_ret (v := (B t42)) (results_fr1 Try.results57 rfl _) rfl ⟨_, σ43, rfl, rfl, hK, rfl⟩

theorem c_spec_copyItem {σ0 : St} {x_0 : Int × (List Int) × Int} {ax_0_1 : Option Addr} {cx_0_1 : Nat} (hRx_0_1 : RS 0 σ0 (Sl ax_0_1 x_0.2.1 cx_0_1) x_0.2.1) {r : (Int × (List Int) × Int)} (h : M.spec_copyItem x_0 = some r) :
    Cal Try.prog 79 [(.agg #[(I x_0.1), (Sl ax_0_1 x_0.2.1 cx_0_1), (I x_0.2.2)])] none σ0 (fun v σ' => ∃ (a0 : Option Addr) (c0 : Nat), v = (.agg #[(I r.1), (Sl a0 r.2.1 c0), (I r.2.2)]) ∧ RS σ0.size σ' (Sl a0 r.2.1 c0) r.2.1) := by
  refine ⟨⟨_, _, Try.func79, rfl, rfl⟩, ?_⟩
  refine enter (n := 11) Try.func79 rfl rfl rfl ?_
  unfold M.spec_copyItem at h
  have hK : Mod none σ0 σ0 := Mod.refl _ _
  refine c_seq ?_
  refine rg ?_
  refine st_box (cs := [(I x_0.1), (Sl ax_0_1 x_0.2.1 cx_0_1), (I x_0.2.2)]) rfl rfl ?_ (wanted_none _ rfl _)
  intro b2 σ4 hbn6 m5 hB1
  have hge3 := Nat.le_trans hK.size (Nat.le_of_eq hbn6)
  replace hRx_0_1 := hRx_0_1.mod m5
  replace hK := hK.none m5
  clear hbn6 m5
  refine st_alloc (cs := [(I 0), (.slice none 0 0), (I 0)]) ti45 rfl ?_ (wanted_none _ rfl _)
  intro b8 σ10 hbn12 m11 hB7
  have hd13 := hB1.df' hbn12
  have hge9 := Nat.le_trans hK.size (Nat.le_of_eq hbn12)
  replace hRx_0_1 := hRx_0_1.mod m11
  replace hB1 := hB1.mod0 m11
  replace hK := hK.none m11
  clear hbn12 m11
  refine w_end ?_
  refine q_then ?_
  refine c_seq ?_
  obtain ⟨r14, hx15, h'⟩ := bind_some h
  clear h
  have h := h'; clear h'
  refine rg_monoL (σ := σ10) 7 [eqv (pt b2 0), eqv (I x_0.1), eqv (pt b2 1), eqv (Sl ax_0_1 x_0.2.1 cx_0_1), (fun v σ => ∃ (a16 : Option Addr) (c17 : Nat), v = (Sl a16 r14 c17) ∧ Ow σ σ10.size σ10.size (Sl a16 r14 c17) r14), eqv (pt b2 2), eqv (I x_0.2.2)] (by kernel_rfl) (by kernel_rfl) (mono_cons mono_eqv (mono_cons mono_eqv (mono_cons mono_eqv (mono_cons mono_eqv (mono_cons (fun _ _ _ ⟨a16, c17, h0, hO18⟩ m => ⟨a16, c17, h0, hO18.mod0 m⟩) (mono_cons mono_eqv (mono_cons mono_eqv (mono_nil)))))))) ?_ ?_
  · refine all_cons (by
        intro ρ σm m hoff hdep
        have e1 : look 11 ρ 1 = (pt b2 0) := look_off (hoff 1 rfl) rfl
        exact does_v (v := (pt b2 0)) (wanted_none _ rfl _) (rv_fieldAddr (off := 0) (ft := 3) Try.underlying45 rfl ti3 rfl e1) rfl) ?_
    refine all_cons (by
        intro ρ σm m hoff hdep
        have e3 : look 11 ρ 3 = (pt b2 0) := hdep 0 rfl rfl 3 rfl
        replace hB1 := hB1.mod0 m
        exact does_v (v := (I x_0.1)) (wanted_none _ rfl _) (rv_load1 Try.underlying3 rfl e3 (hB1.cell' 0 rfl rfl)) rfl) ?_
    refine all_cons (by
        intro ρ σm m hoff hdep
        have e1 : look 11 ρ 1 = (pt b2 0) := look_off (hoff 1 rfl) rfl
        exact does_v (v := (pt b2 1)) (wanted_none _ rfl _) (rv_fieldAddr (off := 1) (ft := 23) Try.underlying45 rfl ti23 rfl e1) rfl) ?_
    refine all_cons (by
        intro ρ σm m hoff hdep
        have e5 : look 11 ρ 5 = (pt b2 1) := hdep 2 rfl rfl 5 rfl
        replace hB1 := hB1.mod0 m
        exact does_v (v := (Sl ax_0_1 x_0.2.1 cx_0_1)) (wanted_none _ rfl _) (rv_load1 Try.underlying23 rfl e5 (hB1.cell' 1 rfl rfl)) rfl) ?_
    refine all_cons (by
        intro ρ σm m hoff hdep
        have e6 : look 11 ρ 6 = (Sl ax_0_1 x_0.2.1 cx_0_1) := hdep 3 rfl rfl 6 rfl
        replace hRx_0_1 := hRx_0_1.mod m
        have hKs : σ10.size ≤ σm.size := m.size
        exact does_call (wanted_none _ rfl _) (c_spec_copyInts hRx_0_1 hx15) (by show [look 11 ρ 6] = _; rw [e6]) (by rintro v σ2 m2 ⟨a16, c17, rfl, hO18⟩; exact ⟨a16, c17, rfl, (hO18.lo hKs).low' hKs⟩)) ?_
    refine all_cons (by
        intro ρ σm m hoff hdep
        have e1 : look 11 ρ 1 = (pt b2 0) := look_off (hoff 1 rfl) rfl
        exact does_v (v := (pt b2 2)) (wanted_none _ rfl _) (rv_fieldAddr (off := 2) (ft := 3) Try.underlying45 rfl ti3 rfl e1) rfl) ?_
    refine all_cons (by
        intro ρ σm m hoff hdep
        have e8 : look 11 ρ 8 = (pt b2 2) := hdep 5 rfl rfl 8 rfl
        replace hB1 := hB1.mod0 m
        exact does_v (v := (I x_0.2.2)) (wanted_none _ rfl _) (rv_load1 Try.underlying3 rfl e8 (hB1.cell' 2 rfl rfl)) rfl) ?_
    exact all_nil
  · intro ρ σ19 m hoff hrel
    have e2 : look 11 ρ 2 = (pt b8 0) := look_off (hoff 2 rfl) rfl
    have e4 : look 11 ρ 4 = (I x_0.1) := hrel 1 rfl 4 rfl
    obtain ⟨a16, c17, e7, hO18⟩ := hrel 4 rfl 7 rfl
    have e9 : look 11 ρ 9 = (I x_0.2.2) := hrel 6 rfl 9 rfl
    have hd20 := hB7.ltb
    have hg21 := hO18.ge
    have hd22 := Df.ge hd20 hg21
    replace hO18 := hO18.lo hK.size
    replace hO18 := hO18.low' hK.size
    replace hB7 := hB7.mod0 m
    replace hK := hK.none m
    rw [fr_lookL (L := [(2, (pt b8 0)), (4, (I x_0.1)), (7, (Sl a16 r14 c17)), (9, (I x_0.2.2))]) ⟨e2, e4, e7, e9, trivial⟩]
    clear hoff hrel m e2 e4 e7 e9
    refine st (v := (.agg #[(I x_0.1), (Sl a16 r14 c17), (I x_0.2.2)])) (rv_build (ps := [(0, (I x_0.1)), (1, (Sl a16 r14 c17)), (2, (I x_0.2.2))]) Try.underlying45 ti45 (bp45 Try.underlying45) rfl (by kernel_rfl)) ?_
    have hg27 := hO18.ge
    obtain ⟨σ23, hw26, m24, hR25⟩ := hO18.pub' (Nat.le_refl _)
    rw [← hw26]; clear hw26
    replace hB7 := hB7.mod' m24 hd22
    replace hK := hK.own m24 hg27
    refine st_store_box (cs := [(I 0), (.slice none 0 0), (I 0)]) (vs := [(I x_0.1), (Sl a16 r14 c17), (I x_0.2.2)]) ti45 hB7 rfl rfl rfl rfl (Nat.le_of_ble_eq_true rfl) (by simp [plain]) ?_
    intro σ28 m29 hB31 hs30; clear hs30
    replace hR25 := hR25.mod m29
    replace hK := hK.some m29 hge9
    replace hB31 := Bx.cast (cs' := [(I x_0.1), (Sl a16 r14 c17), (I x_0.2.2)]) hB31 rfl
    clear hB7
    refine w_end ?_
    refine q_then ?_
    refine c_ret ?_
    obtain rfl := Option.some.inj h
    exact bodyPost_ret (v := (.agg #[(I x_0.1), (Sl a16 r14 c17), (I x_0.2.2)])) (results_cell (cs := [(I x_0.1), (Sl a16 r14 c17), (I x_0.2.2)]) Try.results79 Try.underlying45 rfl ti45 rfl rfl hB31) rfl ⟨_, σ28, rfl, rfl, hK, a16, c17, rfl, hR25⟩

end Go.Vs
