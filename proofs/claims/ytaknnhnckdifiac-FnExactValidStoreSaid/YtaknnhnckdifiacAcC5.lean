/- The functions compute what their models say. -/
import Derived.Test.YtaknnhnckdifiacAcC4
set_option linter.unusedVariables false
set_option linter.unusedSimpArgs false
set_option maxRecDepth 20000
namespace Go.Vs
open Go Go.Proofs
attribute [local irreducible] Code.wp wpList wpQuiet Calls

theorem c_laws_szItem {σ0 : St} {a_0 : Int × (List Int) × Int} {left_1 : Int} {aa_0_1 : Option Addr} {ca_0_1 : Nat} (hRa_0_1 : RS 0 σ0 (Sl aa_0_1 a_0.2.1 ca_0_1) a_0.2.1) {r : Int} (h : M.laws_szItem a_0 left_1 = some r) :
    Cal Try.prog 42 [(.agg #[(I a_0.1), (Sl aa_0_1 a_0.2.1 ca_0_1), (I a_0.2.2)]), (I left_1)] none σ0 (fun v σ' => v = (I r)) := by
  refine ⟨⟨_, _, Try.func42, rfl, rfl⟩, ?_⟩
  refine enter (n := 12) Try.func42 rfl rfl rfl ?_
  unfold M.laws_szItem at h
  have hK : Mod none σ0 σ0 := Mod.refl _ _
  refine c_seq ?_
  refine rg ?_
  refine st_box (cs := [(I a_0.1), (Sl aa_0_1 a_0.2.1 ca_0_1), (I a_0.2.2)]) rfl rfl ?_ (wanted_none _ rfl _)
  intro b2 σ4 hbn6 m5 hB1
  have hge3 := Nat.le_trans hK.size (Nat.le_of_eq hbn6)
  replace hRa_0_1 := hRa_0_1.mod m5
  replace hK := hK.none m5
  clear hbn6 m5
  refine st (v := (I 0)) (rv_assign rfl) ?_
  refine w_end ?_
  refine q_then ?_
  refine c_seq ?_
  refine rg ?_
  refine st (v := (pt b2 1)) (rv_fieldAddr (off := 1) (ft := 24) Try.underlying56 rfl ti24 rfl rfl) ?_
  refine st (v := (Sl aa_0_1 a_0.2.1 ca_0_1)) (rv_load1 Try.underlying24 rfl rfl (hB1.cell' 1 rfl rfl)) ?_
  refine st (v := (I left_1)) (rv_move rfl) ?_
  obtain ⟨r7, hx8, h'⟩ := bind_some h
  clear h
  have h := h'; clear h'
  refine st_call (c_laws_szIntS hRa_0_1 hx8) rfl ?_
  have hKs := hK.size
  rintro _ σ9 m10 rfl
  replace hRa_0_1 := hRa_0_1.mod m10
  replace hK := hK.none m10
  clear hKs m10
  refine st (v := (I r7)) (rv_assign rfl) ?_
  refine w_end ?_
  refine q_then ?_
  refine c_seq ?_
  refine c_seq ?_
  refine rg ?_
  refine st (v := (I r7)) (rv_move rfl) ?_
  refine st (v := (B (decide (r7 < 0)))) (rv_lss (a := r7) (b := 0) rfl rfl) ?_
  refine w_end ?_
  refine q_then ?_
  refine cd_cond (decide (r7 < 0)) rfl (fun hb11 => ?_) (fun hb11 => ?_)
  · replace h := bif_t hb11 h
    refine c_seq ?_
    refine rg ?_
    refine st (v := (I (-1))) (rv_assign rfl) ?_
    refine w_end ?_
    refine q_then ?_
    refine c_ret ?_
    refine q_then_r ?_
    obtain rfl := Option.some.inj h
    exact bodyPost_ret (v := (I (-1))) (results_fr1 Try.results42 rfl _) rfl ⟨_, σ9, rfl, rfl, hK, rfl⟩
  · replace h := bif_f hb11 h
    refine c_skip ?_
    refine q_then ?_
    refine c_seq ?_
    refine rg ?_
    refine st (v := (I r7)) (rv_move rfl) ?_
    refine st (v := (I r7)) (rv_assign rfl) ?_
    refine w_end ?_
    refine q_then ?_
    refine c_ret ?_
    obtain rfl := Option.some.inj h
    exact bodyPost_ret (v := (I r7)) (results_fr1 Try.results42 rfl _) rfl ⟨_, σ9, rfl, rfl, hK, rfl⟩

theorem c_laws_szItemS {σ0 : St} {a_0 : List (Int × (List Int) × Int)} {left_1 : Int} {aa_0 : Option Addr} {ca_0 : Nat} (hRa_0 : RS 0 σ0 (Sl aa_0 a_0 ca_0) a_0) {r : Int} (h : M.laws_szItemS a_0 left_1 = some r) :
    Cal Try.prog 37 [(Sl aa_0 a_0 ca_0), (I left_1)] none σ0 (fun v σ' => v = (I r)) := by
  refine ⟨⟨_, _, Try.func37, rfl, rfl⟩, ?_⟩
  refine enter (n := 27) Try.func37 rfl rfl rfl ?_
  unfold M.laws_szItemS at h
  have hK : Mod none σ0 σ0 := Mod.refl _ _
  refine c_seq ?_
  refine rg ?_
  refine st (v := (I 0)) (rv_assign rfl) ?_
  refine w_end ?_
  refine q_then ?_
  refine c_seq ?_
  refine rg ?_
  refine st (v := (I left_1)) (rv_move rfl) ?_
  refine st (v := (Sl aa_0 a_0 ca_0)) (rv_move rfl) ?_
  refine st (v := (I (a_0.length : Int))) (rv_len Try.underlying51 rfl) ?_
  refine st (v := (I (w64 (left_1 - (a_0.length : Int))))) (rv_sub (a := left_1) (b := (a_0.length : Int)) rfl rfl) ?_
  refine st (v := (I (w64 (left_1 - (a_0.length : Int))))) (rv_assign rfl) ?_
  refine w_end ?_
  refine q_then ?_
  refine c_seq ?_
  refine c_seq ?_
  refine rg ?_
  refine st (v := (I (w64 (left_1 - (a_0.length : Int))))) (rv_move rfl) ?_
  refine st (v := (B (decide ((w64 (left_1 - (a_0.length : Int))) < 0)))) (rv_lss (a := (w64 (left_1 - (a_0.length : Int)))) (b := 0) rfl rfl) ?_
  refine w_end ?_
  refine q_then ?_
  refine cd_cond (decide ((w64 (left_1 - (a_0.length : Int))) < 0)) rfl (fun hb1 => ?_) (fun hb1 => ?_)
  · replace h := bif_t hb1 h
    refine c_seq ?_
    refine rg ?_
    refine st (v := (I (-1))) (rv_assign rfl) ?_
    refine w_end ?_
    refine q_then ?_
    refine c_ret ?_
    refine q_then_r ?_
    obtain rfl := Option.some.inj h
    exact bodyPost_ret (v := (I (-1))) (results_fr1 Try.results37 rfl _) rfl ⟨_, σ0, rfl, rfl, hK, rfl⟩
  · replace h := bif_f hb1 h
    refine c_skip ?_
    refine q_then ?_
    refine c_seq ?_
    refine c_seq ?_
    refine rg ?_
    refine st (v := (I 0)) (rv_assign rfl) ?_
    refine w_end ?_
    refine q_then ?_
    obtain ⟨o2, hj, h'⟩ := bind_some h
    clear h
    refine c_cut (fun e a w => (∃ t, o2 = (.inl t) ∧ e = .normal ∧ ∃ (ρ : Nat → Value) (σ : St), a = fr 27 (updL ρ [(1, (I t))]) ∧ w = σ.w ∧ Mod none σ0 σ) ∨ (∃ t, o2 = (.inr t) ∧ e = .ret ∧ ∃ (ρ : Nat → Value) (σ : St), a = fr 27 (updL ρ [(4, (I t))]) ∧ w = σ.w ∧ Mod none σ0 σ)) ?_ ?_
    · clear h'
      rename _ = some o2 => h
      refine c_blk ?_
      refine wp_loopM _ h (fun s3 a w => ∃ (ρ : Nat → Value) (σ : St), a = fr 27 (updL ρ [(0, (Sl aa_0 a_0 ca_0)), (1, (I s3.1)), (5, (I s3.2))]) ∧ w = σ.w ∧ Mod none σ0 σ ∧ RS 0 σ (Sl aa_0 a_0 ca_0) a_0) ⟨_, σ0, fr_join ⟨rfl, rfl, rfl, trivial⟩, rfl, hK, hRa_0⟩ ?_
      clear h
      rintro s3 a w o ⟨ρ, σ5, rfl, rfl, hK, hR6⟩ h hres
      refine c_seq ?_
      refine c_seq ?_
      refine rg ?_
      refine st (v := (I s3.2)) (rv_move rfl) ?_
      refine st (v := (Sl aa_0 a_0 ca_0)) (rv_move rfl) ?_
      refine st (v := (I (a_0.length : Int))) (rv_len Try.underlying51 rfl) ?_
      refine st (v := (B (decide (s3.2 < (a_0.length : Int))))) (rv_lss (a := s3.2) (b := (a_0.length : Int)) rfl rfl) ?_
      refine w_end ?_
      refine q_then ?_
      refine cd_cond (decide (s3.2 < (a_0.length : Int))) rfl (fun hb7 => ?_) (fun hb7 => ?_)
      · replace h := bif_t hb7 h
        refine c_skip ?_
        refine q_then ?_
        refine c_seq ?_
        refine c_blk ?_
        refine c_seq ?_
        refine rg ?_
        refine st (v := (Sl aa_0 a_0 ca_0)) (rv_move rfl) ?_
        refine st (v := (I s3.2)) (rv_move rfl) ?_
        obtain ⟨x8, hx9, h'⟩ := bind_some h
        clear h
        have h := h'; clear h'
        obtain ⟨b11, o12, hi10, -⟩ := hR6.ix hx9
        refine st (v := (pt b11 o12)) (rv_ix Try.underlying51 ti56 rfl rfl hi10) ?_
        obtain ⟨_, ⟨_, _, rfl, rfl, ⟨_, _, rfl, ⟨_, rfl, hR18⟩, rfl⟩⟩, hl14, hc15⟩ := (hR6.at hx9 hi10).cells
        obtain ⟨a16, c17, rfl⟩ := hR18.isSl
        refine st (v := (.agg #[(I x8.1), (Sl a16 x8.2.1 c17), (I x8.2.2)])) (rv_load Try.underlying56 rfl ti56 rfl hl14 hc15) ?_
        refine st (v := (I s3.1)) (rv_move rfl) ?_
        obtain ⟨r19, hx20, h'⟩ := bind_some h
        clear h
        have h := h'; clear h'
        refine st_call (c_laws_szItem hR18 hx20) rfl ?_
        have hKs := hK.size
        rintro _ σ21 m22 rfl
        replace hR6 := hR6.mod m22
        replace hR18 := hR18.mod m22
        replace hK := hK.none m22
        clear hKs m22
        refine st (v := (I r19)) (rv_assign rfl) ?_
        refine w_end ?_
        refine q_then ?_
        refine c_seq ?_
        refine rg ?_
        refine st (v := (I r19)) (rv_move rfl) ?_
        refine st (v := (B (decide (r19 < 0)))) (rv_lss (a := r19) (b := 0) rfl rfl) ?_
        refine w_end ?_
        refine q_then ?_
        refine cd_cond (decide (r19 < 0)) rfl (fun hb23 => ?_) (fun hb23 => ?_)
        · replace h := bif_t hb23 h
          refine c_seq ?_
          refine rg ?_
          refine st (v := (I (-1))) (rv_assign rfl) ?_
          refine w_end ?_
          refine q_then ?_
          refine c_ret ?_
          refine q_blk_r ?_
          refine q_then_r ?_
          refine q_then_r ?_
          refine q_blk_r ?_
          obtain rfl := Option.some.inj h
          obtain rfl := hres _ rfl
          exact .inr (⟨_, rfl, rfl, _, σ21, fr_join ⟨rfl, trivial⟩, rfl, hK⟩)
        · replace h := bif_f hb23 h
          refine c_skip ?_
          refine q_blk ?_
          refine q_then ?_
          refine rg ?_
          refine st (v := (I s3.2)) (rv_move rfl) ?_
          refine st (v := (I (w64 (s3.2 + 1)))) (rv_add (a := s3.2) (b := 1) rfl rfl) ?_
          refine st (v := (I (w64 (s3.2 + 1)))) (rv_assign rfl) ?_
          refine w_end ?_
          refine q_then ?_
          obtain rfl := Option.some.inj h
          exact ⟨_, rfl, _, σ21, fr_join ⟨rfl, rfl, rfl, trivial⟩, rfl, hK, hR6⟩
      · replace h := bif_f hb7 h
        refine c_exit ?_
        refine q_then_x ?_
        refine q_then_x ?_
        refine q_blk_hit ?_
        obtain rfl := Option.some.inj h
        obtain rfl := hres _ rfl
        exact .inl ⟨_, rfl, rfl, _, σ5, fr_join ⟨rfl, trivial⟩, rfl, hK⟩
    · clear hj
      have h := h'
      clear h'
      rintro e a w (⟨t24, rfl, rfl, ρ, σ25, rfl, rfl, hK⟩ | ⟨t26, rfl, rfl, ρ, σ27, rfl, rfl, hK⟩)
      · replace h := selim_l h
        refine q_then ?_
        refine c_seq ?_
        refine rg ?_
        refine st (v := (I t24)) (rv_move rfl) ?_
        refine st (v := (I t24)) (rv_assign rfl) ?_
        refine w_end ?_
        refine q_then ?_
        refine c_ret ?_
        obtain rfl := Option.some.inj h
        exact bodyPost_ret (v := (I t24)) (results_fr1 Try.results37 rfl _) rfl ⟨_, σ25, rfl, rfl, hK, rfl⟩
      · replace h := selim_r h
        refine q_then_r ?_
        obtain rfl := Option.some.inj h
        exact bodyPost_ret (v := (I t26)) (results_fr1 Try.results37 rfl _) rfl ⟨_, σ27, rfl, rfl, hK, rfl⟩

theorem c_spec_ValidStore {σ0 : St} {list_0 : List (Int × (List Int) × Int)} {alist_0 : Option Addr} {clist_0 : Nat} (hRlist_0 : RS 0 σ0 (Sl alist_0 list_0 clist_0) list_0) {r : Bool} (h : M.spec_ValidStore list_0 = some r) :
    Cal Try.prog 38 [(Sl alist_0 list_0 clist_0)] none σ0 (fun v σ' => v = (B r)) := by
  refine ⟨⟨_, _, Try.func38, rfl, rfl⟩, ?_⟩
  refine enter (n := 5) Try.func38 rfl rfl rfl ?_
  unfold M.spec_ValidStore at h
  have hK : Mod none σ0 σ0 := Mod.refl _ _
  refine c_seq ?_
  refine rg ?_
  refine st (v := (B false)) (rv_assign rfl) ?_
  refine w_end ?_
  refine q_then ?_
  refine c_seq ?_
  refine rg ?_
  refine st (v := (Sl alist_0 list_0 clist_0)) (rv_move rfl) ?_
  obtain ⟨r1, hx2, h'⟩ := bind_some h
  clear h
  have h := h'; clear h'
  refine st_call (c_spec_validStore hRlist_0 hx2) rfl ?_
  have hKs := hK.size
  rintro _ σ3 m4 rfl
  replace hRlist_0 := hRlist_0.mod m4
  replace hK := hK.none m4
  clear hKs m4
  refine st (v := (B r1)) (rv_assign rfl) ?_
  refine w_end ?_
  refine q_then ?_
  refine c_ret ?_
  obtain rfl := Option.some.inj h
  exact bodyPost_ret (v := (B r1)) (results_fr1 Try.results38 rfl _) rfl ⟨_, σ3, rfl, rfl, hK, rfl⟩

theorem c_laws_toItem {σ0 : St} {a_0 : Int × (List Int) × Int} {aa_0_1 : Option Addr} {ca_0_1 : Nat} (hRa_0_1 : RS 0 σ0 (Sl aa_0_1 a_0.2.1 ca_0_1) a_0.2.1) {r : (Int × (List Int) × Int)} (h : M.laws_toItem a_0 = some r) :
    Cal Try.prog 43 [(.agg #[(I a_0.1), (Sl aa_0_1 a_0.2.1 ca_0_1), (I a_0.2.2)])] none σ0 (fun v σ' => ∃ (a0 : Option Addr) (c0 : Nat), v = (.agg #[(I r.1), (Sl a0 r.2.1 c0), (I r.2.2)]) ∧ RS σ0.size σ' (Sl a0 r.2.1 c0) r.2.1) := by
  refine ⟨⟨_, _, Try.func43, rfl, rfl⟩, ?_⟩
  refine enter (n := 15) Try.func43 rfl rfl rfl ?_
  unfold M.laws_toItem at h
  have hK : Mod none σ0 σ0 := Mod.refl _ _
  refine c_seq ?_
  refine rg ?_
  refine st_box (cs := [(I a_0.1), (Sl aa_0_1 a_0.2.1 ca_0_1), (I a_0.2.2)]) rfl rfl ?_ (wanted_none _ rfl _)
  intro b2 σ4 hbn6 m5 hB1
  have hge3 := Nat.le_trans hK.size (Nat.le_of_eq hbn6)
  replace hRa_0_1 := hRa_0_1.mod m5
  replace hK := hK.none m5
  clear hbn6 m5
  refine st_alloc (cs := [(I 0), (.slice none 0 0), (I 0)]) ti26 rfl ?_ (wanted_none _ rfl _)
  intro b8 σ10 hbn12 m11 hB7
  have hd13 := hB1.df' hbn12
  have hge9 := Nat.le_trans hK.size (Nat.le_of_eq hbn12)
  replace hRa_0_1 := hRa_0_1.mod m11
  replace hB1 := hB1.mod0 m11
  replace hK := hK.none m11
  clear hbn12 m11
  refine w_end ?_
  refine q_then ?_
  refine c_seq ?_
  refine rg ?_
  refine st_alloc (cs := [(I 0), (.slice none 0 0), (I 0)]) ti26 rfl ?_ (wanted_none _ rfl _)
  intro b15 σ17 hbn19 m18 hB14
  have hd20 := hB1.df' hbn19
  have hd21 := hB7.df' hbn19
  have hge16 := Nat.le_trans hK.size (Nat.le_of_eq hbn19)
  replace hRa_0_1 := hRa_0_1.mod m18
  replace hB1 := hB1.mod0 m18
  replace hB7 := hB7.mod0 m18
  replace hK := hK.none m18
  clear hbn19 m18
  refine w_end ?_
  refine q_then ?_
  refine c_seq ?_
  refine rg ?_
  refine st (v := (pt b2 0)) (rv_fieldAddr (off := 0) (ft := 3) Try.underlying56 rfl ti3 rfl rfl) ?_
  refine st (v := (I a_0.1)) (rv_load1 Try.underlying3 rfl rfl (hB1.cell' 0 rfl rfl)) ?_
  refine st (v := (pt b15 0)) (rv_fieldAddr (off := 0) (ft := 3) Try.underlying26 rfl ti3 rfl rfl) ?_
  refine st_store_box (cs := [(I 0), (.slice none 0 0), (I 0)]) (vs := [(I a_0.1)]) ti3 hB14 rfl rfl rfl rfl (Nat.le_of_ble_eq_true rfl) (by simp [plain]) ?_
  intro σ22 m23 hB25 hs24; clear hs24
  replace hRa_0_1 := hRa_0_1.mod m23
  replace hB1 := hB1.mod' m23 hd20
  replace hB7 := hB7.mod' m23 hd21
  replace hK := hK.some m23 hge16
  replace hB25 := Bx.cast (cs' := [(I a_0.1), (.slice none 0 0), (I 0)]) hB25 rfl
  clear hB14
  refine w_end ?_
  refine q_then ?_
  refine c_seq ?_
  refine rg ?_
  refine st (v := (pt b2 1)) (rv_fieldAddr (off := 1) (ft := 24) Try.underlying56 rfl ti24 rfl rfl) ?_
  refine st (v := (Sl aa_0_1 a_0.2.1 ca_0_1)) (rv_load1 Try.underlying24 rfl rfl (hB1.cell' 1 rfl rfl)) ?_
  obtain ⟨r26, hx27, h'⟩ := bind_some h
  clear h
  have h := h'; clear h'
  refine st_call (c_laws_toIntS hRa_0_1 hx27) rfl ?_
  have hd33 := hB1.ltb
  have hd34 := hB7.ltb
  have hd35 := hB25.ltb
  have hKs := hK.size
  rintro _ σ28 m29 ⟨a30, c31, rfl, hO32⟩
  replace hRa_0_1 := hRa_0_1.mod m29
  replace hB1 := hB1.mod0 m29
  replace hB7 := hB7.mod0 m29
  replace hB25 := hB25.mod0 m29
  replace hK := hK.none m29
  have hO32g := hO32.ge
  replace hO32 := hO32.lo hKs
  replace hO32 := hO32.low' hKs
  have hd36 := Df.ge hd33 hO32g
  have hd37 := Df.ge hd34 hO32g
  have hd38 := Df.ge hd35 hO32g
  clear hKs m29 hO32g
  refine st (v := (pt b15 1)) (rv_fieldAddr (off := 1) (ft := 24) Try.underlying26 rfl ti24 rfl rfl) ?_
  have hg43 := hO32.ge
  obtain ⟨σ39, hw42, m40, hR41⟩ := hO32.pub' (Nat.le_refl _)
  rw [← hw42]; clear hw42
  replace hRa_0_1 := hRa_0_1.mod m40
  replace hB1 := hB1.mod' m40 (by first | exact hd36 | exact Df.reR hd36)
  replace hB7 := hB7.mod' m40 (by first | exact hd37 | exact Df.reR hd37)
  replace hB25 := hB25.mod' m40 (by first | exact hd38 | exact Df.reR hd38)
  replace hK := hK.own m40 hg43
  refine st_store_box (cs := [(I a_0.1), (.slice none 0 0), (I 0)]) (vs := [(Sl a30 r26 c31)]) ti24 hB25 rfl rfl rfl rfl (Nat.le_of_ble_eq_true rfl) (by simp [plain]) ?_
  intro σ44 m45 hB47 hs46; clear hs46
  replace hRa_0_1 := hRa_0_1.mod m45
  replace hR41 := hR41.mod m45
  replace hB1 := hB1.mod' m45 hd20
  replace hB7 := hB7.mod' m45 hd21
  replace hK := hK.some m45 hge16
  replace hB47 := Bx.cast (cs' := [(I a_0.1), (Sl a30 r26 c31), (I 0)]) hB47 rfl
  clear hB25
  refine w_end ?_
  refine q_then ?_
  refine c_seq ?_
  refine rg ?_
  refine st (v := (pt b2 2)) (rv_fieldAddr (off := 2) (ft := 3) Try.underlying56 rfl ti3 rfl rfl) ?_
  refine st (v := (I a_0.2.2)) (rv_load1 Try.underlying3 rfl rfl (hB1.cell' 2 rfl rfl)) ?_
  refine st (v := (pt b15 2)) (rv_fieldAddr (off := 2) (ft := 3) Try.underlying26 rfl ti3 rfl rfl) ?_
  refine st_store_box (cs := [(I a_0.1), (Sl a30 r26 c31), (I 0)]) (vs := [(I a_0.2.2)]) ti3 hB47 rfl rfl rfl rfl (Nat.le_of_ble_eq_true rfl) (by simp [plain]) ?_
  intro σ48 m49 hB51 hs50; clear hs50
  replace hR41 := hR41.mod m49
  replace hB7 := hB7.mod' m49 hd21
  replace hK := hK.some m49 hge16
  replace hB51 := Bx.cast (cs' := [(I a_0.1), (Sl a30 r26 c31), (I a_0.2.2)]) hB51 rfl
  clear hB47
  refine w_end ?_
  refine q_then ?_
  refine c_seq ?_
  refine rg ?_
  refine st (v := (.agg #[(I a_0.1), (Sl a30 r26 c31), (I a_0.2.2)])) (rv_load (cs := [(I a_0.1), (Sl a30 r26 c31), (I a_0.2.2)]) Try.underlying26 rfl ti26 rfl rfl hB51.all) ?_
  refine st_store_box (cs := [(I 0), (.slice none 0 0), (I 0)]) (vs := [(I a_0.1), (Sl a30 r26 c31), (I a_0.2.2)]) ti26 hB7 rfl rfl rfl rfl (Nat.le_of_ble_eq_true rfl) (by simp [plain]) ?_
  intro σ52 m53 hB55 hs54; clear hs54
  replace hR41 := hR41.mod m53
  replace hK := hK.some m53 hge9
  replace hB55 := Bx.cast (cs' := [(I a_0.1), (Sl a30 r26 c31), (I a_0.2.2)]) hB55 rfl
  clear hB7
  refine w_end ?_
  refine q_then ?_
  refine c_ret ?_
  obtain rfl := Option.some.inj h
  exact bodyPost_ret (v := (.agg #[(I a_0.1), (Sl a30 r26 c31), (I a_0.2.2)])) (results_cell (cs := [(I a_0.1), (Sl a30 r26 c31), (I a_0.2.2)]) Try.results43 Try.underlying26 rfl ti26 rfl rfl hB55) rfl ⟨_, σ52, rfl, rfl, hK, a30, c31, rfl, hR41⟩

theorem c_laws_toItemS {σ0 : St} {a_0 : List (Int × (List Int) × Int)} {aa_0 : Option Addr} {ca_0 : Nat} (hRa_0 : RS 0 σ0 (Sl aa_0 a_0 ca_0) a_0) {r : (List (Int × (List Int) × Int))} (h : M.laws_toItemS a_0 = some r) :
    Cal Try.prog 39 [(Sl aa_0 a_0 ca_0)] none σ0 (fun v σ' => ∃ (a0 : Option Addr) (c0 : Nat), v = (Sl a0 r c0) ∧ Ow σ' σ0.size σ0.size (Sl a0 r c0) r) := by
  refine ⟨⟨_, _, Try.func39, rfl, rfl⟩, ?_⟩
  refine enter (n := 23) Try.func39 rfl rfl rfl ?_
  unfold M.laws_toItemS at h
  have hK : Mod none σ0 σ0 := Mod.refl _ _
  refine c_seq ?_
  refine rg ?_
  refine st (v := (.slice none 0 0)) (rv_assign rfl) ?_
  refine w_end ?_
  refine q_then ?_
  refine c_seq ?_
  refine rg ?_
  refine st (v := (Sl aa_0 a_0 ca_0)) (rv_move rfl) ?_
  refine st (v := (I (a_0.length : Int))) (rv_len Try.underlying51 rfl) ?_
  obtain ⟨xs1, hx2, h'⟩ := bind_some h
  clear h
  have h := h'; clear h'
  refine st_make (lo := σ0.size) (el := σ0.size) (z0 := ((0, [], 0) : Int × (List Int) × Int)) (zs := [(I 0), (.slice none 0 0), (I 0)]) Try.underlying23 ti26 rfl rfl (⟨[(I 0)], [(.slice none 0 0), (I 0)], rfl, rfl, ⟨[(.slice none 0 0)], [(I 0)], rfl, ⟨_, rfl, RS.nil⟩, rfl⟩⟩) (by decide) hx2 rfl rfl hK.size ?_ (wanted_none _ rfl _)
  intro b4 σ6 c5 hbn8 m7 hO3
  replace hRa_0 := hRa_0.mod m7
  replace hK := hK.none m7
  clear hbn8 m7
  refine st (v := (Sl (some ⟨b4, 0, none⟩) xs1 c5)) (rv_assign rfl) ?_
  refine w_end ?_
  refine q_then ?_
  refine c_seq ?_
  refine c_seq ?_
  refine rg ?_
  refine st (v := (I 0)) (rv_assign rfl) ?_
  refine w_end ?_
  refine q_then ?_
  obtain ⟨o9, hj, h'⟩ := bind_some h
  clear h
  refine c_cut (fun e a w => e = .normal ∧ ∃ (ρ : Nat → Value) (σ : St) (aj1 : Option Addr) (cj2 : Nat), a = fr 23 (updL ρ [(3, (Sl aj1 o9 cj2))]) ∧ w = σ.w ∧ Mod none σ0 σ ∧ Ow σ σ0.size σ0.size (Sl aj1 o9 cj2) o9) ?_ ?_
  · clear h'
    rename _ = some o9 => h
    refine c_blk ?_
    refine wp_loopM _ h (fun s10 a w => ∃ (ρ : Nat → Value) (σ : St) (aj2 : Option Addr) (cj3 : Nat), a = fr 23 (updL ρ [(0, (Sl aa_0 a_0 ca_0)), (3, (Sl aj2 s10.1 cj3)), (4, (I s10.2))]) ∧ w = σ.w ∧ Mod none σ0 σ ∧ RS 0 σ (Sl aa_0 a_0 ca_0) a_0 ∧ Ow σ σ0.size σ0.size (Sl aj2 s10.1 cj3) s10.1) ⟨_, σ6, (some ⟨b4, 0, none⟩), c5, fr_join ⟨rfl, rfl, rfl, trivial⟩, rfl, hK, hRa_0, hO3⟩ ?_
    clear h
    rintro s10 a w o ⟨ρ, σ12, a14, c15, rfl, rfl, hK, hR13, hO16⟩ h hres
    refine c_seq ?_
    refine c_seq ?_
    refine rg ?_
    refine st (v := (I s10.2)) (rv_move rfl) ?_
    refine st (v := (Sl aa_0 a_0 ca_0)) (rv_move rfl) ?_
    refine st (v := (I (a_0.length : Int))) (rv_len Try.underlying51 rfl) ?_
    refine st (v := (B (decide (s10.2 < (a_0.length : Int))))) (rv_lss (a := s10.2) (b := (a_0.length : Int)) rfl rfl) ?_
    refine w_end ?_
    refine q_then ?_
    refine cd_cond (decide (s10.2 < (a_0.length : Int))) rfl (fun hb17 => ?_) (fun hb17 => ?_)
    · replace h := bif_t hb17 h
      refine c_skip ?_
      refine q_then ?_
      refine c_seq ?_
      refine c_blk ?_
      refine rg ?_
      refine st (v := (Sl a14 s10.1 c15)) (rv_move rfl) ?_
      refine st (v := (I s10.2)) (rv_move rfl) ?_
      refine st (v := (Sl aa_0 a_0 ca_0)) (rv_move rfl) ?_
      refine st (v := (I s10.2)) (rv_move rfl) ?_
      obtain ⟨x18, hx19, h'⟩ := bind_some h
      clear h
      have h := h'; clear h'
      obtain ⟨b21, o22, hi20, -⟩ := hR13.ix hx19
      refine st (v := (pt b21 o22)) (rv_ix Try.underlying51 ti56 rfl rfl hi20) ?_
      obtain ⟨_, ⟨_, _, rfl, rfl, ⟨_, _, rfl, ⟨_, rfl, hR28⟩, rfl⟩⟩, hl24, hc25⟩ := (hR13.at hx19 hi20).cells
      obtain ⟨a26, c27, rfl⟩ := hR28.isSl
      refine st (v := (.agg #[(I x18.1), (Sl a26 x18.2.1 c27), (I x18.2.2)])) (rv_load Try.underlying56 rfl ti56 rfl hl24 hc25) ?_
      obtain ⟨r29, hx30, h'⟩ := bind_some h
      clear h
      have h := h'; clear h'
      refine st_call (c_laws_toItem hR28 hx30) rfl ?_
      have hd36 := hO16.ltb
      have hKs := hK.size
      rintro _ σ31 m32 ⟨a33, c34, rfl, hR35⟩
      replace hR13 := hR13.mod m32
      replace hO16 := hO16.mod0 m32
      replace hR28 := hR28.mod m32
      replace hK := hK.none m32
      replace hR35 := hR35.low hKs
      clear hKs m32
      obtain ⟨x37, hx38, h'⟩ := bind_some h
      clear h
      have h := h'; clear h'
      obtain ⟨b40, o41, hi39, -⟩ := hO16.ix hx38
      refine st (v := (pt b40 o41)) (rv_ix Try.underlying23 ti26 rfl rfl hi39) ?_
      have hg49 := hO16.ge
      refine st_store_own (e' := (r29.1, r29.2.1, r29.2.2)) (vs := [(I r29.1), (Sl a33 r29.2.1 c34), (I r29.2.2)]) (k := 0) ti26 hO16 hx38 hi39 rfl rfl rfl rfl rfl (Nat.le_of_ble_eq_true rfl) (by simp [plain]) (by rintro _ ⟨_, _, rfl, rfl, ⟨_, _, rfl, ⟨_, rfl, hR47⟩, rfl⟩⟩; exact ⟨[(I r29.1)], [(Sl a33 r29.2.1 c34), (I r29.2.2)], rfl, rfl, ⟨[(Sl a33 r29.2.1 c34)], [(I r29.2.2)], rfl, ⟨_, rfl, hR35⟩, rfl⟩⟩) ?_
      intro σ42 m43 hO48 hs44; clear hs44
      replace hR13 := hR13.mod m43
      replace hR35 := hR35.mod m43
      replace hK := hK.own m43 hg49
      replace hO48 := Ow.relen hO48 List.length_set.symm
      rw [show (Sl a14 s10.1 c15) = (Sl a14 (s10.1.set s10.2.toNat (r29.1, r29.2.1, r29.2.2)) c15) from sl_len List.length_set.symm]
      refine w_end ?_
      refine q_blk ?_
      refine q_then ?_
      refine rg ?_
      refine st (v := (I s10.2)) (rv_move rfl) ?_
      refine st (v := (I (w64 (s10.2 + 1)))) (rv_add (a := s10.2) (b := 1) rfl rfl) ?_
      refine st (v := (I (w64 (s10.2 + 1)))) (rv_assign rfl) ?_
      refine w_end ?_
      refine q_then ?_
      obtain rfl := Option.some.inj h
      exact ⟨_, rfl, _, σ42, a14, c15, fr_join ⟨rfl, rfl, rfl, trivial⟩, rfl, hK, hR13, hO48⟩
    · replace h := bif_f hb17 h
      refine c_exit ?_
      refine q_then_x ?_
      refine q_then_x ?_
      refine q_blk_hit ?_
      obtain rfl := Option.some.inj h
      obtain rfl := hres _ rfl
      exact ⟨rfl, _, σ12, a14, c15, fr_join ⟨rfl, trivial⟩, rfl, hK, hO16⟩
  · clear hj
    have h := h'
    clear h'
    rintro e a w ⟨rfl, ρ, σ50, a51, c52, rfl, rfl, hK, hO53⟩
    refine q_then ?_
    refine c_seq ?_
    refine rg ?_
    refine st (v := (Sl a51 o9 c52)) (rv_move rfl) ?_
    refine st (v := (Sl a51 o9 c52)) (rv_assign rfl) ?_
    refine w_end ?_
    refine q_then ?_
    refine c_ret ?_
    obtain rfl := Option.some.inj h
    exact bodyPost_ret (v := (Sl a51 o9 c52)) (results_fr1 Try.results39 rfl _) rfl ⟨_, σ50, rfl, rfl, hK, a51, c52, rfl, hO53⟩

theorem c_laws_eqItem {σ0 : St} {a_0 : Int × (List Int) × Int} {b_1 : Int × (List Int) × Int} {aa_0_1 : Option Addr} {ca_0_1 : Nat} (hRa_0_1 : RS 0 σ0 (Sl aa_0_1 a_0.2.1 ca_0_1) a_0.2.1) {ab_1_1 : Option Addr} {cb_1_1 : Nat} (hRb_1_1 : RS 0 σ0 (Sl ab_1_1 b_1.2.1 cb_1_1) b_1.2.1) {r : Bool} (h : M.laws_eqItem a_0 b_1 = some r) :
    Cal Try.prog 44 [(.agg #[(I a_0.1), (Sl aa_0_1 a_0.2.1 ca_0_1), (I a_0.2.2)]), (.agg #[(I b_1.1), (Sl ab_1_1 b_1.2.1 cb_1_1), (I b_1.2.2)])] none σ0 (fun v σ' => v = (B r)) := by
  refine ⟨⟨_, _, Try.func44, rfl, rfl⟩, ?_⟩
  refine enter (n := 21) Try.func44 rfl rfl rfl ?_
  unfold M.laws_eqItem at h
  have hK : Mod none σ0 σ0 := Mod.refl _ _
  refine c_seq ?_
  refine rg ?_
  refine st_box (cs := [(I a_0.1), (Sl aa_0_1 a_0.2.1 ca_0_1), (I a_0.2.2)]) rfl rfl ?_ (wanted_none _ rfl _)
  intro b2 σ4 hbn6 m5 hB1
  have hge3 := Nat.le_trans hK.size (Nat.le_of_eq hbn6)
  replace hRa_0_1 := hRa_0_1.mod m5
  replace hRb_1_1 := hRb_1_1.mod m5
  replace hK := hK.none m5
  clear hbn6 m5
  refine st_box (cs := [(I b_1.1), (Sl ab_1_1 b_1.2.1 cb_1_1), (I b_1.2.2)]) rfl rfl ?_ (wanted_none _ rfl _)
  intro b8 σ10 hbn12 m11 hB7
  have hd13 := hB1.df' hbn12
  have hge9 := Nat.le_trans hK.size (Nat.le_of_eq hbn12)
  replace hRb_1_1 := hRb_1_1.mod m11
  replace hRa_0_1 := hRa_0_1.mod m11
  replace hB1 := hB1.mod0 m11
  replace hK := hK.none m11
  clear hbn12 m11
  refine st (v := (B false)) (rv_assign rfl) ?_
  refine w_end ?_
  refine q_then ?_
  refine c_seq ?_
  refine c_seq ?_
  refine rg ?_
  refine st (v := (pt b2 0)) (rv_fieldAddr (off := 0) (ft := 3) Try.underlying26 rfl ti3 rfl rfl) ?_
  refine st (v := (I a_0.1)) (rv_load1 Try.underlying3 rfl rfl (hB1.cell' 0 rfl rfl)) ?_
  refine st (v := (pt b8 0)) (rv_fieldAddr (off := 0) (ft := 3) Try.underlying26 rfl ti3 rfl rfl) ?_
  refine st (v := (I b_1.1)) (rv_load1 Try.underlying3 rfl rfl (hB7.cell' 0 rfl rfl)) ?_
  refine st (v := (B (a_0.1 != b_1.1))) (rv_neq (a := a_0.1) (b := b_1.1) rfl rfl) ?_
  refine w_end ?_
  refine q_then ?_
  refine cd_cond (a_0.1 != b_1.1) rfl (fun hb14 => ?_) (fun hb14 => ?_)
  · replace h := bif_t hb14 h
    refine c_seq ?_
    refine rg ?_
    refine st (v := (B false)) (rv_assign rfl) ?_
    refine w_end ?_
    refine q_then ?_
    refine c_ret ?_
    refine q_then_r ?_
    obtain rfl := Option.some.inj h
    exact bodyPost_ret (v := (B false)) (results_fr1 Try.results44 rfl _) rfl ⟨_, σ10, rfl, rfl, hK, rfl⟩
  · replace h := bif_f hb14 h
    refine c_skip ?_
    refine q_then ?_
    refine c_seq ?_
    refine c_seq ?_
    refine rg ?_
    refine st (v := (pt b2 1)) (rv_fieldAddr (off := 1) (ft := 24) Try.underlying26 rfl ti24 rfl rfl) ?_
    refine st (v := (Sl aa_0_1 a_0.2.1 ca_0_1)) (rv_load1 Try.underlying24 rfl rfl (hB1.cell' 1 rfl rfl)) ?_
    refine st (v := (pt b8 1)) (rv_fieldAddr (off := 1) (ft := 24) Try.underlying26 rfl ti24 rfl rfl) ?_
    refine st (v := (Sl ab_1_1 b_1.2.1 cb_1_1)) (rv_load1 Try.underlying24 rfl rfl (hB7.cell' 1 rfl rfl)) ?_
    obtain ⟨r15, hx16, h'⟩ := bind_some h
    clear h
    have h := h'; clear h'
    refine st_call (c_laws_eqIntS hRa_0_1 hRb_1_1 hx16) rfl ?_
    have hd19 := hB1.ltb
    have hd20 := hB7.ltb
    have hKs := hK.size
    rintro _ σ17 m18 rfl
    replace hRa_0_1 := hRa_0_1.mod m18
    replace hRb_1_1 := hRb_1_1.mod m18
    replace hB1 := hB1.mod0 m18
    replace hB7 := hB7.mod0 m18
    replace hK := hK.none m18
    clear hKs m18
    refine st (v := (B (!r15))) (rv_not rfl) ?_
    refine w_end ?_
    refine q_then ?_
    refine cd_cond (!r15) rfl (fun hb21 => ?_) (fun hb21 => ?_)
    · replace h := bif_t hb21 h
      refine c_seq ?_
      refine rg ?_
      refine st (v := (B false)) (rv_assign rfl) ?_
      refine w_end ?_
      refine q_then ?_
      refine c_ret ?_
      refine q_then_r ?_
      obtain rfl := Option.some.inj h
      exact bodyPost_ret (v := (B false)) (results_fr1 Try.results44 rfl _) rfl ⟨_, σ17, rfl, rfl, hK, rfl⟩
    · replace h := bif_f hb21 h
      refine c_skip ?_
      refine q_then ?_
      refine c_seq ?_
      refine c_seq ?_
      refine rg ?_
      refine st (v := (pt b2 2)) (rv_fieldAddr (off := 2) (ft := 3) Try.underlying26 rfl ti3 rfl rfl) ?_
      refine st (v := (I a_0.2.2)) (rv_load1 Try.underlying3 rfl rfl (hB1.cell' 2 rfl rfl)) ?_
      refine st (v := (pt b8 2)) (rv_fieldAddr (off := 2) (ft := 3) Try.underlying26 rfl ti3 rfl rfl) ?_
      refine st (v := (I b_1.2.2)) (rv_load1 Try.underlying3 rfl rfl (hB7.cell' 2 rfl rfl)) ?_
      refine st (v := (B (a_0.2.2 != b_1.2.2))) (rv_neq (a := a_0.2.2) (b := b_1.2.2) rfl rfl) ?_
      refine w_end ?_
      refine q_then ?_
      refine cd_cond (a_0.2.2 != b_1.2.2) rfl (fun hb22 => ?_) (fun hb22 => ?_)
      · replace h := bif_t hb22 h
        refine c_seq ?_
        refine rg ?_
        refine st (v := (B false)) (rv_assign rfl) ?_
        refine w_end ?_
        refine q_then ?_
        refine c_ret ?_
        refine q_then_r ?_
        obtain rfl := Option.some.inj h
        exact bodyPost_ret (v := (B false)) (results_fr1 Try.results44 rfl _) rfl ⟨_, σ17, rfl, rfl, hK, rfl⟩
      · replace h := bif_f hb22 h
        refine c_skip ?_
        refine q_then ?_
        refine c_seq ?_
        refine rg ?_
        refine st (v := (B true)) (rv_assign rfl) ?_
        refine w_end ?_
        refine q_then ?_
        refine c_ret ?_
        obtain rfl := Option.some.inj h
        exact bodyPost_ret (v := (B true)) (results_fr1 Try.results44 rfl _) rfl ⟨_, σ17, rfl, rfl, hK, rfl⟩

theorem c_laws_eqItemS {σ0 : St} {a_0 : List (Int × (List Int) × Int)} {b_1 : List (Int × (List Int) × Int)} {aa_0 : Option Addr} {ca_0 : Nat} (hRa_0 : RS 0 σ0 (Sl aa_0 a_0 ca_0) a_0) {ab_1 : Option Addr} {cb_1 : Nat} (hRb_1 : RS 0 σ0 (Sl ab_1 b_1 cb_1) b_1) {r : Bool} (h : M.laws_eqItemS a_0 b_1 = some r) :
    Cal Try.prog 41 [(Sl aa_0 a_0 ca_0), (Sl ab_1 b_1 cb_1)] none σ0 (fun v σ' => v = (B r)) := by
  refine ⟨⟨_, _, Try.func41, rfl, rfl⟩, ?_⟩
  refine enter (n := 27) Try.func41 rfl rfl rfl ?_
  unfold M.laws_eqItemS at h
  have hK : Mod none σ0 σ0 := Mod.refl _ _
  refine c_seq ?_
  refine rg ?_
  refine st (v := (B false)) (rv_assign rfl) ?_
  refine w_end ?_
  refine q_then ?_
  refine c_seq ?_
  refine c_seq ?_
  refine rg ?_
  refine st (v := (Sl aa_0 a_0 ca_0)) (rv_move rfl) ?_
  refine st (v := (I (a_0.length : Int))) (rv_len Try.underlying23 rfl) ?_
  refine st (v := (Sl ab_1 b_1 cb_1)) (rv_move rfl) ?_
  refine st (v := (I (b_1.length : Int))) (rv_len Try.underlying23 rfl) ?_
  refine st (v := (B ((a_0.length : Int) != (b_1.length : Int)))) (rv_neq (a := (a_0.length : Int)) (b := (b_1.length : Int)) rfl rfl) ?_
  refine w_end ?_
  refine q_then ?_
  refine cd_cond ((a_0.length : Int) != (b_1.length : Int)) rfl (fun hb1 => ?_) (fun hb1 => ?_)
  · replace h := bif_t hb1 h
    refine c_seq ?_
    refine rg ?_
    refine st (v := (B false)) (rv_assign rfl) ?_
    refine w_end ?_
    refine q_then ?_
    refine c_ret ?_
    refine q_then_r ?_
    obtain rfl := Option.some.inj h
    exact bodyPost_ret (v := (B false)) (results_fr1 Try.results41 rfl _) rfl ⟨_, σ0, rfl, rfl, hK, rfl⟩
  · replace h := bif_f hb1 h
    refine c_skip ?_
    refine q_then ?_
    refine c_seq ?_
    refine c_seq ?_
    refine rg ?_
    refine st (v := (I 0)) (rv_assign rfl) ?_
    refine w_end ?_
    refine q_then ?_
    obtain ⟨o2, hj, h'⟩ := bind_some h
    clear h
    refine c_cut (fun e a w => (∃ t, o2 = (.inl t) ∧ e = .normal ∧ ∃ (ρ : Nat → Value) (σ : St), a = fr 27 (updL ρ []) ∧ w = σ.w ∧ Mod none σ0 σ) ∨ (∃ t, o2 = (.inr t) ∧ e = .ret ∧ ∃ (ρ : Nat → Value) (σ : St), a = fr 27 (updL ρ [(4, (B t))]) ∧ w = σ.w ∧ Mod none σ0 σ)) ?_ ?_
    · clear h'
      rename _ = some o2 => h
      refine c_blk ?_
      refine wp_loopM _ h (fun s3 a w => ∃ (ρ : Nat → Value) (σ : St), a = fr 27 (updL ρ [(0, (Sl aa_0 a_0 ca_0)), (1, (Sl ab_1 b_1 cb_1)), (5, (I s3))]) ∧ w = σ.w ∧ Mod none σ0 σ ∧ RS 0 σ (Sl aa_0 a_0 ca_0) a_0 ∧ RS 0 σ (Sl ab_1 b_1 cb_1) b_1) ⟨_, σ0, fr_join ⟨rfl, rfl, rfl, trivial⟩, rfl, hK, hRa_0, hRb_1⟩ ?_
      clear h
      rintro s3 a w o ⟨ρ, σ5, rfl, rfl, hK, hR6, hR7⟩ h hres
      refine c_seq ?_
      refine c_seq ?_
      refine rg ?_
      refine st (v := (I s3)) (rv_move rfl) ?_
      refine st (v := (Sl aa_0 a_0 ca_0)) (rv_move rfl) ?_
      refine st (v := (I (a_0.length : Int))) (rv_len Try.underlying23 rfl) ?_
      refine st (v := (B (decide (s3 < (a_0.length : Int))))) (rv_lss (a := s3) (b := (a_0.length : Int)) rfl rfl) ?_
      refine w_end ?_
      refine q_then ?_
      refine cd_cond (decide (s3 < (a_0.length : Int))) rfl (fun hb8 => ?_) (fun hb8 => ?_)
      · replace h := bif_t hb8 h
        refine c_skip ?_
        refine q_then ?_
        refine c_seq ?_
        refine c_blk ?_
        refine c_seq ?_
        obtain ⟨x9, hx10, h'⟩ := bind_some h
        clear h
        have h := h'; clear h'
        obtain ⟨b12, o13, hi11, -⟩ := hR6.ix hx10
        obtain ⟨_, ⟨_, _, rfl, rfl, ⟨_, _, rfl, ⟨_, rfl, hR19⟩, rfl⟩⟩, hl15, hc16⟩ := (hR6.at hx10 hi11).cells
        obtain ⟨a17, c18, rfl⟩ := hR19.isSl
        obtain ⟨x20, hx21, h'⟩ := bind_some h
        clear h
        have h := h'; clear h'
        obtain ⟨b23, o24, hi22, -⟩ := hR7.ix hx21
        obtain ⟨_, ⟨_, _, rfl, rfl, ⟨_, _, rfl, ⟨_, rfl, hR30⟩, rfl⟩⟩, hl26, hc27⟩ := (hR7.at hx21 hi22).cells
        obtain ⟨a28, c29, rfl⟩ := hR30.isSl
        refine rg_monoL (σ := σ5) 8 [eqv (Sl aa_0 a_0 ca_0), eqv (I s3), eqv (pt b12 o13), eqv (.agg #[(I x9.1), (Sl a17 x9.2.1 c18), (I x9.2.2)]), eqv (Sl ab_1 b_1 cb_1), eqv (I s3), eqv (pt b23 o24), eqv (.agg #[(I x20.1), (Sl a28 x20.2.1 c29), (I x20.2.2)])] (by kernel_rfl) (by kernel_rfl) (mono_cons mono_eqv (mono_cons mono_eqv (mono_cons mono_eqv (mono_cons mono_eqv (mono_cons mono_eqv (mono_cons mono_eqv (mono_cons mono_eqv (mono_cons mono_eqv (mono_nil))))))))) ?_ ?_
        · refine all_cons (by
              intro ρ σm m hoff hdep
              have e0 : look 27 ρ 0 = (Sl aa_0 a_0 ca_0) := look_off (hoff 0 rfl) rfl
              exact does_v (v := (Sl aa_0 a_0 ca_0)) (wanted_none _ rfl _) (rv_move e0) rfl) ?_
          refine all_cons (by
              intro ρ σm m hoff hdep
              have e5 : look 27 ρ 5 = (I s3) := look_off (hoff 5 rfl) rfl
              exact does_v (v := (I s3)) (wanted_none _ rfl _) (rv_move e5) rfl) ?_
          refine all_cons (by
              intro ρ σm m hoff hdep
              have e17 : look 27 ρ 17 = (Sl aa_0 a_0 ca_0) := hdep 0 rfl rfl 17 rfl
              have e18 : look 27 ρ 18 = (I s3) := hdep 1 rfl rfl 18 rfl
              exact does_v (v := (pt b12 o13)) (wanted_none _ rfl _) (rv_ix Try.underlying23 ti26 e17 e18 hi11) rfl) ?_
          refine all_cons (by
              intro ρ σm m hoff hdep
              have e19 : look 27 ρ 19 = (pt b12 o13) := hdep 2 rfl rfl 19 rfl
              replace hc16 := fun j hj => hR6.hmod hx10 hi11 (k := j) (Nat.lt_of_lt_of_eq hj hl15) (hc16 j hj) m
              exact does_v (v := (.agg #[(I x9.1), (Sl a17 x9.2.1 c18), (I x9.2.2)])) (wanted_none _ rfl _) (rv_load Try.underlying26 rfl ti26 e19 hl15 hc16) rfl) ?_
          refine all_cons (by
              intro ρ σm m hoff hdep
              have e1 : look 27 ρ 1 = (Sl ab_1 b_1 cb_1) := look_off (hoff 1 rfl) rfl
              exact does_v (v := (Sl ab_1 b_1 cb_1)) (wanted_none _ rfl _) (rv_move e1) rfl) ?_
          refine all_cons (by
              intro ρ σm m hoff hdep
              have e5 : look 27 ρ 5 = (I s3) := look_off (hoff 5 rfl) rfl
              exact does_v (v := (I s3)) (wanted_none _ rfl _) (rv_move e5) rfl) ?_
          refine all_cons (by
              intro ρ σm m hoff hdep
              have e21 : look 27 ρ 21 = (Sl ab_1 b_1 cb_1) := hdep 4 rfl rfl 21 rfl
              have e22 : look 27 ρ 22 = (I s3) := hdep 5 rfl rfl 22 rfl
              exact does_v (v := (pt b23 o24)) (wanted_none _ rfl _) (rv_ix Try.underlying23 ti26 e21 e22 hi22) rfl) ?_
          refine all_cons (by
              intro ρ σm m hoff hdep
              have e23 : look 27 ρ 23 = (pt b23 o24) := hdep 6 rfl rfl 23 rfl
              replace hc27 := fun j hj => hR7.hmod hx21 hi22 (k := j) (Nat.lt_of_lt_of_eq hj hl26) (hc27 j hj) m
              exact does_v (v := (.agg #[(I x20.1), (Sl a28 x20.2.1 c29), (I x20.2.2)])) (wanted_none _ rfl _) (rv_load Try.underlying26 rfl ti26 e23 hl26 hc27) rfl) ?_
          exact all_nil
        · intro ρ σ31 m hoff hrel
          have e0 : look 27 ρ 0 = (Sl aa_0 a_0 ca_0) := look_off (hoff 0 rfl) rfl
          have e1 : look 27 ρ 1 = (Sl ab_1 b_1 cb_1) := look_off (hoff 1 rfl) rfl
          have e5 : look 27 ρ 5 = (I s3) := look_off (hoff 5 rfl) rfl
          have e20 : look 27 ρ 20 = (.agg #[(I x9.1), (Sl a17 x9.2.1 c18), (I x9.2.2)]) := hrel 3 rfl 20 rfl
          have e24 : look 27 ρ 24 = (.agg #[(I x20.1), (Sl a28 x20.2.1 c29), (I x20.2.2)]) := hrel 7 rfl 24 rfl
          replace hR6 := hR6.mod m
          replace hR7 := hR7.mod m
          replace hR19 := hR19.mod m
          replace hR30 := hR30.mod m
          replace hK := hK.none m
          rw [fr_lookL (L := [(0, (Sl aa_0 a_0 ca_0)), (1, (Sl ab_1 b_1 cb_1)), (5, (I s3)), (20, (.agg #[(I x9.1), (Sl a17 x9.2.1 c18), (I x9.2.2)])), (24, (.agg #[(I x20.1), (Sl a28 x20.2.1 c29), (I x20.2.2)]))]) ⟨e0, e1, e5, e20, e24, trivial⟩]
          clear hoff hrel m e0 e1 e5 e20 e24
          obtain ⟨r32, hx33, h'⟩ := bind_some h
          clear h
          have h := h'; clear h'
          refine st_call (c_laws_eqItem hR19 hR30 hx33) rfl ?_
          have hKs := hK.size
          rintro _ σ34 m35 rfl
          replace hR6 := hR6.mod m35
          replace hR7 := hR7.mod m35
          replace hR19 := hR19.mod m35
          replace hR30 := hR30.mod m35
          replace hK := hK.none m35
          clear hKs m35
          refine st (v := (B (!r32))) (rv_not rfl) ?_
          refine w_end ?_
          refine q_then ?_
          refine cd_cond (!r32) rfl (fun hb36 => ?_) (fun hb36 => ?_)
          · replace h := bif_t hb36 h
            refine c_seq ?_
            refine rg ?_
            refine st (v := (B false)) (rv_assign rfl) ?_
            refine w_end ?_
            refine q_then ?_
            refine c_ret ?_
            refine q_blk_r ?_
            refine q_then_r ?_
            refine q_then_r ?_
            refine q_blk_r ?_
            obtain rfl := Option.some.inj h
            obtain rfl := hres _ rfl
            exact .inr (⟨_, rfl, rfl, _, σ34, fr_join ⟨rfl, trivial⟩, rfl, hK⟩)
          · replace h := bif_f hb36 h
            refine c_skip ?_
            refine q_blk ?_
            refine q_then ?_
            refine rg ?_
            refine st (v := (I s3)) (rv_move rfl) ?_
            refine st (v := (I (w64 (s3 + 1)))) (rv_add (a := s3) (b := 1) rfl rfl) ?_
            refine st (v := (I (w64 (s3 + 1)))) (rv_assign rfl) ?_
            refine w_end ?_
            refine q_then ?_
            obtain rfl := Option.some.inj h
            exact ⟨_, rfl, _, σ34, fr_join ⟨rfl, rfl, rfl, trivial⟩, rfl, hK, hR6, hR7⟩
      · replace h := bif_f hb8 h
        refine c_exit ?_
        refine q_then_x ?_
        refine q_then_x ?_
        refine q_blk_hit ?_
        obtain rfl := Option.some.inj h
        obtain rfl := hres _ rfl
        exact .inl ⟨_, rfl, rfl, _, σ5, fr_join trivial, rfl, hK⟩
    · clear hj
      have h := h'
      clear h'
      rintro e a w (⟨t37, rfl, rfl, ρ, σ38, rfl, rfl, hK⟩ | ⟨t39, rfl, rfl, ρ, σ40, rfl, rfl, hK⟩)
      · replace h := selim_l h
        refine q_then ?_
        refine c_seq ?_
        refine rg ?_
        refine st (v := (B true)) (rv_assign rfl) ?_
        refine w_end ?_
        refine q_then ?_
        refine c_ret ?_
        obtain rfl := Option.some.inj h
        exact bodyPost_ret (v := (B true)) (results_fr1 Try.results41 rfl _) rfl ⟨_, σ38, rfl, rfl, hK, rfl⟩
      · replace h := selim_r h
        refine q_then_r ?_
        obtain rfl := Option.some.inj h
        exact bodyPost_ret (v := (B t39)) (results_fr1 Try.results41 rfl _) rfl ⟨_, σ40, rfl, rfl, hK, rfl⟩

theorem c_laws_FnExactValidStore {σ0 : St} {aList_0 : List (Int × (List Int) × Int)} {aaList_0 : Option Addr} {caList_0 : Nat} (hRaList_0 : RS 0 σ0 (Sl aaList_0 aList_0 caList_0) aList_0) {r : Bool} (h : M.laws_FnExactValidStore aList_0 = some r) :
    Cal Try.prog 9 [(Sl aaList_0 aList_0 caList_0)] none σ0 (fun v σ' => v = (B r)) := by
  refine ⟨⟨_, _, Try.func9, rfl, rfl⟩, ?_⟩
  refine enter (n := 27) Try.func9 rfl rfl rfl ?_
  unfold M.laws_FnExactValidStore at h
  have hK : Mod none σ0 σ0 := Mod.refl _ _
  refine c_seq ?_
  refine rg ?_
  refine st (v := (B false)) (rv_assign rfl) ?_
  refine w_end ?_
  refine q_then ?_
  refine c_seq ?_
  refine rg ?_
  refine st (v := (I 1048576)) (rv_assign rfl) ?_
  refine w_end ?_
  refine q_then ?_
  refine c_seq ?_
  refine rg ?_
  refine st (v := (Sl aaList_0 aList_0 caList_0)) (rv_move rfl) ?_
  refine st (v := (I 1048576)) (rv_move rfl) ?_
  obtain ⟨r1, hx2, h'⟩ := bind_some h
  clear h
  have h := h'; clear h'
  refine st_call (c_laws_szItemS hRaList_0 hx2) rfl ?_
  have hKs := hK.size
  rintro _ σ3 m4 rfl
  replace hRaList_0 := hRaList_0.mod m4
  replace hK := hK.none m4
  clear hKs m4
  refine st (v := (I r1)) (rv_assign rfl) ?_
  refine w_end ?_
  refine q_then ?_
  refine c_seq ?_
  refine c_seq ?_
  refine rg ?_
  refine st (v := (I r1)) (rv_move rfl) ?_
  refine st (v := (B (decide (r1 < 0)))) (rv_lss (a := r1) (b := 0) rfl rfl) ?_
  refine w_end ?_
  refine q_then ?_
  refine cd_cond (decide (r1 < 0)) rfl (fun hb5 => ?_) (fun hb5 => ?_)
  · replace h := bif_t hb5 h
    refine c_seq ?_
    refine rg ?_
    refine st (v := (B true)) (rv_assign rfl) ?_
    refine w_end ?_
    refine q_then ?_
    refine c_ret ?_
    refine q_then_r ?_
    obtain rfl := Option.some.inj h
    exact bodyPost_ret (v := (B true)) (results_fr1 Try.results9 rfl _) rfl ⟨_, σ3, rfl, rfl, hK, rfl⟩
  · replace h := bif_f hb5 h
    refine c_skip ?_
    refine q_then ?_
    refine c_seq ?_
    refine rg ?_
    refine st (v := (Sl aaList_0 aList_0 caList_0)) (rv_move rfl) ?_
    obtain ⟨r6, hx7, h'⟩ := bind_some h
    clear h
    have h := h'; clear h'
    refine st_call (c_laws_toItemS hRaList_0 hx7) rfl ?_
    have hKs := hK.size
    rintro _ σ8 m9 ⟨a10, c11, rfl, hO12⟩
    replace hRaList_0 := hRaList_0.mod m9
    replace hK := hK.none m9
    have hO12g := hO12.ge
    replace hO12 := hO12.lo hKs
    replace hO12 := hO12.low' hKs
    clear hKs m9 hO12g
    have hg17 := hO12.ge
    obtain ⟨σ13, hw16, m14, hR15⟩ := hO12.pub' (Nat.le_refl _)
    rw [← hw16]; clear hw16
    replace hRaList_0 := hRaList_0.mod m14
    replace hK := hK.own m14 hg17
    obtain ⟨r18, hx19, h'⟩ := bind_some h
    clear h
    have h := h'; clear h'
    refine st_call (c_spec_ValidStore (hR15.low (Nat.zero_le _)) hx19) rfl ?_
    have hKs := hK.size
    rintro _ σ20 m21 rfl
    replace hRaList_0 := hRaList_0.mod m21
    replace hR15 := hR15.mod m21
    replace hK := hK.none m21
    clear hKs m21
    refine st (v := (B r18)) (rv_assign rfl) ?_
    refine w_end ?_
    refine q_then ?_
    refine c_seq ?_
    refine rg ?_
    refine st (v := (Sl aaList_0 aList_0 caList_0)) (rv_move rfl) ?_
    obtain ⟨r22, hx23, h'⟩ := bind_some h
    clear h
    have h := h'; clear h'
    refine st_call (c_laws_toItemS hRaList_0 hx23) rfl ?_
    have hKs := hK.size
    rintro _ σ24 m25 ⟨a26, c27, rfl, hO28⟩
    replace hRaList_0 := hRaList_0.mod m25
    replace hK := hK.none m25
    have hO28g := hO28.ge
    replace hO28 := hO28.lo hKs
    replace hO28 := hO28.low' hKs
    clear hKs m25 hO28g
    refine st (v := (Sl a26 r22 c27)) (rv_assign rfl) ?_
    refine w_end ?_
    refine q_then ?_
    refine c_seq ?_
    refine rg ?_
    refine st (v := (Sl a26 r22 c27)) (rv_move rfl) ?_
    obtain ⟨σ29, hw30, m31, hR32⟩ := hO28.pub' (Nat.le_refl _)
    rw [← hw30]
    obtain ⟨r33, hx34, h'⟩ := bind_some h
    clear h
    have h := h'; clear h'
    refine st_call (c_impl_ValidStore (hR32.low (Nat.zero_le _)) hx34) rfl ?_
    have hd37 := ltb_size hO28.ltb hw30
    have hKs := size_le hK.size hw30
    rintro _ σ35 m36 rfl
    obtain ⟨σ38, hw39, m40, hxl41, hvl42⟩ := lent hw30 m36
    rw [← hw39]
    replace hRaList_0 := hRaList_0.mod m40
    replace hO28 := hO28.mod0 m40
    replace hK := hK.none m40
    clear hKs m40
    refine st (v := (B r33)) (rv_assign rfl) ?_
    refine w_end ?_
    refine q_then ?_
    refine c_seq ?_
    refine c_seq ?_
    refine rg ?_
    refine st (v := (B r33)) (rv_move rfl) ?_
    refine st (v := (B r18)) (rv_move rfl) ?_
    refine st (v := (B (r33 != r18))) (rv_bneq Try.underlying4 rfl rfl) ?_
    refine w_end ?_
    refine q_then ?_
    refine cd_cond (r33 != r18) rfl (fun hb43 => ?_) (fun hb43 => ?_)
    · replace h := bif_t hb43 h
      refine c_seq ?_
      refine rg ?_
      refine st (v := (B false)) (rv_assign rfl) ?_
      refine w_end ?_
      refine q_then ?_
      refine c_ret ?_
      refine q_then_r ?_
      obtain rfl := Option.some.inj h
      exact bodyPost_ret (v := (B false)) (results_fr1 Try.results9 rfl _) rfl ⟨_, σ38, rfl, rfl, hK, rfl⟩
    · replace h := bif_f hb43 h
      refine c_skip ?_
      refine q_then ?_
      refine c_seq ?_
      refine c_seq ?_
      refine rg ?_
      refine st (v := (Sl a26 r22 c27)) (rv_move rfl) ?_
      refine st (v := (Sl aaList_0 aList_0 caList_0)) (rv_move rfl) ?_
      obtain ⟨r44, hx45, h'⟩ := bind_some h
      clear h
      have h := h'; clear h'
      refine st_call (c_laws_toItemS hRaList_0 hx45) rfl ?_
      have hd51 := hO28.ltb
      have hKs := hK.size
      rintro _ σ46 m47 ⟨a48, c49, rfl, hO50⟩
      replace hO28 := hO28.mod0 m47
      replace hRaList_0 := hRaList_0.mod m47
      replace hK := hK.none m47
      have hO50g := hO50.ge
      replace hO50 := hO50.lo hKs
      replace hO50 := hO50.low' hKs
      have hd52 := Df.ge hd51 hO50g
      clear hKs m47 hO50g
      have hg57 := hO28.ge
      obtain ⟨σ53, hw56, m54, hR55⟩ := hO28.pub' (Nat.le_refl _)
      rw [← hw56]; clear hw56
      replace hO50 := hO50.mod' m54 (by first | exact (hd52).symm | exact Df.re (hd52).symm)
      replace hK := hK.own m54 hg57
      have hg62 := hO50.ge
      obtain ⟨σ58, hw61, m59, hR60⟩ := hO50.pub' (Nat.le_refl _)
      rw [← hw61]; clear hw61
      replace hR55 := hR55.mod m59
      replace hK := hK.own m59 hg62
      obtain ⟨r63, hx64, h'⟩ := bind_some h
      clear h
      have h := h'; clear h'
      refine st_call (c_laws_eqItemS (hR55.low (Nat.zero_le _)) (hR60.low (Nat.zero_le _)) hx64) rfl ?_
      have hKs := hK.size
      rintro _ σ65 m66 rfl
      replace hR55 := hR55.mod m66
      replace hR60 := hR60.mod m66
      replace hK := hK.none m66
      clear hKs m66
      refine st (v := (B (!r63))) (rv_not rfl) ?_
      refine w_end ?_
      refine q_then ?_
      refine cd_cond (!r63) rfl (fun hb67 => ?_) (fun hb67 => ?_)
      · replace h := bif_t hb67 h
        refine c_seq ?_
        refine rg ?_
        refine st (v := (B false)) (rv_assign rfl) ?_
        refine w_end ?_
        refine q_then ?_
        refine c_ret ?_
        refine q_then_r ?_
        obtain rfl := Option.some.inj h
        exact bodyPost_ret (v := (B false)) (results_fr1 Try.results9 rfl _) rfl ⟨_, σ65, rfl, rfl, hK, rfl⟩
      · replace h := bif_f hb67 h
        refine c_skip ?_
        refine q_then ?_
        refine c_seq ?_
        refine rg ?_
        refine st (v := (B true)) (rv_assign rfl) ?_
        refine w_end ?_
        refine q_then ?_
        refine c_ret ?_
        obtain rfl := Option.some.inj h
        exact bodyPost_ret (v := (B true)) (results_fr1 Try.results9 rfl _) rfl ⟨_, σ65, rfl, rfl, hK, rfl⟩

theorem c_laws_heldItemS {σ0 : St} {a_0 : List (Int × (List Int) × Int)} {k_1 : Int} {aa_0 : Option Addr} {ca_0 : Nat} (hRa_0 : RS 0 σ0 (Sl aa_0 a_0 ca_0) a_0) {r : Int} (h : M.laws_heldItemS a_0 k_1 = some r) :
    Cal Try.prog 47 [(Sl aa_0 a_0 ca_0), (I k_1)] none σ0 (fun v σ' => v = (I r)) := by
  refine ⟨⟨_, _, Try.func47, rfl, rfl⟩, ?_⟩
  refine enter (n := 40) Try.func47 rfl rfl rfl ?_
  unfold M.laws_heldItemS at h
  have hK : Mod none σ0 σ0 := Mod.refl _ _
  refine c_seq ?_
  refine rg ?_
  refine st (v := (I 0)) (rv_assign rfl) ?_
  refine w_end ?_
  refine q_then ?_
  refine c_seq ?_
  refine c_seq ?_
  refine rg ?_
  refine st (v := (I 0)) (rv_assign rfl) ?_
  refine w_end ?_
  refine q_then ?_
  obtain ⟨o1, hj, h'⟩ := bind_some h
  clear h
  refine c_cut (fun e a w => (∃ t, o1 = (.inl t) ∧ e = .normal ∧ ∃ (ρ : Nat → Value) (σ : St), a = fr 40 (updL ρ [(1, (I t))]) ∧ w = σ.w ∧ Mod none σ0 σ) ∨ (∃ t, o1 = (.inr t) ∧ e = .ret ∧ ∃ (ρ : Nat → Value) (σ : St), a = fr 40 (updL ρ [(4, (I t))]) ∧ w = σ.w ∧ Mod none σ0 σ)) ?_ ?_
  · clear h'
    rename _ = some o1 => h
    refine c_blk ?_
    refine wp_loopM _ h (fun s2 a w => ∃ (ρ : Nat → Value) (σ : St), a = fr 40 (updL ρ [(0, (Sl aa_0 a_0 ca_0)), (1, (I s2.1)), (5, (I s2.2))]) ∧ w = σ.w ∧ Mod none σ0 σ ∧ RS 0 σ (Sl aa_0 a_0 ca_0) a_0) ⟨_, σ0, fr_join ⟨rfl, rfl, rfl, trivial⟩, rfl, hK, hRa_0⟩ ?_
    clear h
    rintro s2 a w o ⟨ρ, σ4, rfl, rfl, hK, hR5⟩ h hres
    refine c_seq ?_
    refine c_seq ?_
    refine rg ?_
    refine st (v := (I s2.2)) (rv_move rfl) ?_
    refine st (v := (Sl aa_0 a_0 ca_0)) (rv_move rfl) ?_
    refine st (v := (I (a_0.length : Int))) (rv_len Try.underlying23 rfl) ?_
    refine st (v := (B (decide (s2.2 < (a_0.length : Int))))) (rv_lss (a := s2.2) (b := (a_0.length : Int)) rfl rfl) ?_
    refine w_end ?_
    refine q_then ?_
    refine cd_cond (decide (s2.2 < (a_0.length : Int))) rfl (fun hb6 => ?_) (fun hb6 => ?_)
    · replace h := bif_t hb6 h
      refine c_skip ?_
      refine q_then ?_
      refine c_seq ?_
      refine c_blk ?_
      refine c_seq ?_
      refine c_seq ?_
      refine rg ?_
      refine st (v := (Sl aa_0 a_0 ca_0)) (rv_move rfl) ?_
      refine st (v := (I s2.2)) (rv_move rfl) ?_
      obtain ⟨x7, hx8, h'⟩ := bind_some h
      clear h
      have h := h'; clear h'
      obtain ⟨b10, o11, hi9, -⟩ := hR5.ix hx8
      refine st (v := (pt b10 o11)) (rv_ix Try.underlying23 ti26 rfl rfl hi9) ?_
      refine st (v := (pt b10 (o11 + 0))) (rv_fieldAddr (off := 0) (ft := 3) Try.underlying26 rfl ti3 rfl rfl) ?_
      refine st (v := (I x7.1)) (rv_load1 Try.underlying3 rfl rfl (hR5.at hx8 hi9).fst.int) ?_
      refine st (v := (I s2.1)) (rv_move rfl) ?_
      refine st (v := (B (x7.1 != s2.1))) (rv_neq (a := x7.1) (b := s2.1) rfl rfl) ?_
      refine w_end ?_
      refine q_then ?_
      refine cd_cond (x7.1 != s2.1) rfl (fun hb12 => ?_) (fun hb12 => ?_)
      · replace h := bif_t hb12 h
        refine c_seq ?_
        refine rg ?_
        refine st (v := (I (-1))) (rv_assign rfl) ?_
        refine w_end ?_
        refine q_then ?_
        refine c_ret ?_
        refine q_then_r ?_
        refine q_blk_r ?_
        refine q_then_r ?_
        refine q_then_r ?_
        refine q_blk_r ?_
        obtain rfl := Option.some.inj h
        obtain rfl := hres _ rfl
        exact .inr (⟨_, rfl, rfl, _, σ4, fr_join ⟨rfl, trivial⟩, rfl, hK⟩)
      · replace h := bif_f hb12 h
        refine c_skip ?_
        refine q_then ?_
        refine c_seq ?_
        refine rg ?_
        refine st (v := (I s2.1)) (rv_move rfl) ?_
        refine st (v := (I (w64 (s2.1 + 1)))) (rv_add (a := s2.1) (b := 1) rfl rfl) ?_
        refine st (v := (I (w64 (s2.1 + 1)))) (rv_assign rfl) ?_
        refine w_end ?_
        refine q_then ?_
        refine c_seq ?_
        refine rg ?_
        refine st (v := (Sl aa_0 a_0 ca_0)) (rv_move rfl) ?_
        refine st (v := (I s2.2)) (rv_move rfl) ?_
        obtain ⟨x13, hx14, h'⟩ := bind_some h
        clear h
        have h := h'; clear h'
        obtain ⟨b16, o17, hi15, -⟩ := hR5.ix hx14
        refine st (v := (pt b16 o17)) (rv_ix Try.underlying23 ti26 rfl rfl hi15) ?_
        refine st (v := (pt b16 (o17 + 1))) (rv_fieldAddr (off := 1) (ft := 24) Try.underlying26 rfl ti24 rfl rfl) ?_
        obtain ⟨v21, hc22, hR20⟩ := (hR5.at hx14 hi15).snd.fst.slice
        obtain ⟨a18, c19, rfl⟩ := hR20.isSl
        refine st (v := (Sl a18 x13.2.1 c19)) (rv_load1 Try.underlying24 rfl rfl hc22) ?_
        refine st (v := (I (w64 (s2.1 + 1)))) (rv_move rfl) ?_
        obtain ⟨r23, hx24, h'⟩ := bind_some h
        clear h
        have h := h'; clear h'
        refine st_call (c_laws_heldIntS hR20 hx24) rfl ?_
        have hKs := hK.size
        rintro _ σ25 m26 rfl
        replace hR5 := hR5.mod m26
        replace hR20 := hR20.mod m26
        replace hK := hK.none m26
        clear hKs m26
        refine st (v := (I r23)) (rv_assign rfl) ?_
        refine w_end ?_
        refine q_then ?_
        refine c_seq ?_
        refine c_seq ?_
        refine rg ?_
        refine st (v := (I r23)) (rv_move rfl) ?_
        refine st (v := (B (decide (r23 < 0)))) (rv_lss (a := r23) (b := 0) rfl rfl) ?_
        refine w_end ?_
        refine q_then ?_
        refine cd_cond (decide (r23 < 0)) rfl (fun hb27 => ?_) (fun hb27 => ?_)
        · replace h := bif_t hb27 h
          refine c_seq ?_
          refine rg ?_
          refine st (v := (I (-1))) (rv_assign rfl) ?_
          refine w_end ?_
          refine q_then ?_
          refine c_ret ?_
          refine q_then_r ?_
          refine q_blk_r ?_
          refine q_then_r ?_
          refine q_then_r ?_
          refine q_blk_r ?_
          obtain rfl := Option.some.inj h
          obtain rfl := hres _ rfl
          exact .inr (⟨_, rfl, rfl, _, σ25, fr_join ⟨rfl, trivial⟩, rfl, hK⟩)
        · replace h := bif_f hb27 h
          refine c_skip ?_
          refine q_then ?_
          refine c_seq ?_
          refine c_seq ?_
          refine rg ?_
          refine st (v := (Sl aa_0 a_0 ca_0)) (rv_move rfl) ?_
          refine st (v := (I s2.2)) (rv_move rfl) ?_
          obtain ⟨x28, hx29, h'⟩ := bind_some h
          clear h
          have h := h'; clear h'
          obtain ⟨b31, o32, hi30, -⟩ := hR5.ix hx29
          refine st (v := (pt b31 o32)) (rv_ix Try.underlying23 ti26 rfl rfl hi30) ?_
          refine st (v := (pt b31 (o32 + 2))) (rv_fieldAddr (off := 2) (ft := 3) Try.underlying26 rfl ti3 rfl rfl) ?_
          refine st (v := (I x28.2.2)) (rv_load1 Try.underlying3 rfl rfl (hR5.at hx29 hi30).snd.snd.int) ?_
          refine st (v := (I r23)) (rv_move rfl) ?_
          refine st (v := (B (x28.2.2 != r23))) (rv_neq (a := x28.2.2) (b := r23) rfl rfl) ?_
          refine w_end ?_
          refine q_then ?_
          refine cd_cond (x28.2.2 != r23) rfl (fun hb33 => ?_) (fun hb33 => ?_)
          · replace h := bif_t hb33 h
            refine c_seq ?_
            refine rg ?_
            refine st (v := (I (-1))) (rv_assign rfl) ?_
            refine w_end ?_
            refine q_then ?_
            refine c_ret ?_
            refine q_then_r ?_
            refine q_blk_r ?_
            refine q_then_r ?_
            refine q_then_r ?_
            refine q_blk_r ?_
            obtain rfl := Option.some.inj h
            obtain rfl := hres _ rfl
            exact .inr (⟨_, rfl, rfl, _, σ25, fr_join ⟨rfl, trivial⟩, rfl, hK⟩)
          · replace h := bif_f hb33 h
            refine c_skip ?_
            refine q_then ?_
            refine rg ?_
            refine st (v := (I r23)) (rv_move rfl) ?_
            refine st (v := (I (w64 (r23 + 1)))) (rv_add (a := r23) (b := 1) rfl rfl) ?_
            refine st (v := (I (w64 (r23 + 1)))) (rv_assign rfl) ?_
            refine w_end ?_
            refine q_blk ?_
            refine q_then ?_
            refine rg ?_
            refine st (v := (I s2.2)) (rv_move rfl) ?_
            refine st (v := (I (w64 (s2.2 + 1)))) (rv_add (a := s2.2) (b := 1) rfl rfl) ?_
            refine st (v := (I (w64 (s2.2 + 1)))) (rv_assign rfl) ?_
            refine w_end ?_
            refine q_then ?_
            obtain rfl := Option.some.inj h
            exact ⟨_, rfl, _, σ25, fr_join ⟨rfl, rfl, rfl, trivial⟩, rfl, hK, hR5⟩
    · replace h := bif_f hb6 h
      refine c_exit ?_
      refine q_then_x ?_
      refine q_then_x ?_
      refine q_blk_hit ?_
      obtain rfl := Option.some.inj h
      obtain rfl := hres _ rfl
      exact .inl ⟨_, rfl, rfl, _, σ4, fr_join ⟨rfl, trivial⟩, rfl, hK⟩
  · clear hj
    have h := h'
    clear h'
    rintro e a w (⟨t34, rfl, rfl, ρ, σ35, rfl, rfl, hK⟩ | ⟨t36, rfl, rfl, ρ, σ37, rfl, rfl, hK⟩)
    · replace h := selim_l h
      refine q_then ?_
      refine c_seq ?_
      refine rg ?_
      refine st (v := (I t34)) (rv_move rfl) ?_
      refine st (v := (I t34)) (rv_assign rfl) ?_
      refine w_end ?_
      refine q_then ?_
      refine c_ret ?_
      obtain rfl := Option.some.inj h
      exact bodyPost_ret (v := (I t34)) (results_fr1 Try.results47 rfl _) rfl ⟨_, σ35, rfl, rfl, hK, rfl⟩
    · replace h := selim_r h
      refine q_then_r ?_
      obtain rfl := Option.some.inj h
      exact bodyPost_ret (v := (I t36)) (results_fr1 Try.results47 rfl _) rfl ⟨_, σ37, rfl, rfl, hK, rfl⟩

theorem c_spec_keyAt {σ0 : St} {list_0 : List (Int × (List Int) × Int)} {key_1 : Int} {alist_0 : Option Addr} {clist_0 : Nat} (hRlist_0 : RS 0 σ0 (Sl alist_0 list_0 clist_0) list_0) {r : Int} (h : M.spec_keyAt list_0 key_1 = some r) :
    Cal Try.prog 76 [(Sl alist_0 list_0 clist_0), (I key_1)] none σ0 (fun v σ' => v = (I r)) := by
  refine ⟨⟨_, _, Try.func76, rfl, rfl⟩, ?_⟩
  refine enter (n := 20) Try.func76 rfl rfl rfl ?_
  unfold M.spec_keyAt at h
  have hK : Mod none σ0 σ0 := Mod.refl _ _
  refine c_seq ?_
  refine rg ?_
  refine st (v := (I 0)) (rv_assign rfl) ?_
  refine w_end ?_
  refine q_then ?_
  refine c_seq ?_
  refine c_seq ?_
  refine rg ?_
  refine st (v := (I 0)) (rv_assign rfl) ?_
  refine w_end ?_
  refine q_then ?_
  obtain ⟨o1, hj, h'⟩ := bind_some h
  clear h
  refine c_cut (fun e a w => (∃ t, o1 = (.inl t) ∧ e = .normal ∧ ∃ (ρ : Nat → Value) (σ : St), a = fr 20 (updL ρ []) ∧ w = σ.w ∧ Mod none σ0 σ) ∨ (∃ t, o1 = (.inr t) ∧ e = .ret ∧ ∃ (ρ : Nat → Value) (σ : St), a = fr 20 (updL ρ [(4, (I t))]) ∧ w = σ.w ∧ Mod none σ0 σ)) ?_ ?_
  · clear h'
    rename _ = some o1 => h
    refine c_blk ?_
    refine wp_loopM _ h (fun s2 a w => ∃ (ρ : Nat → Value) (σ : St), a = fr 20 (updL ρ [(0, (Sl alist_0 list_0 clist_0)), (1, (I key_1)), (5, (I s2))]) ∧ w = σ.w ∧ Mod none σ0 σ ∧ RS 0 σ (Sl alist_0 list_0 clist_0) list_0) ⟨_, σ0, fr_join ⟨rfl, rfl, rfl, trivial⟩, rfl, hK, hRlist_0⟩ ?_
    clear h
    rintro s2 a w o ⟨ρ, σ4, rfl, rfl, hK, hR5⟩ h hres
    refine c_seq ?_
    refine c_seq ?_
    refine rg ?_
    refine st (v := (I s2)) (rv_move rfl) ?_
    refine st (v := (Sl alist_0 list_0 clist_0)) (rv_move rfl) ?_
    refine st (v := (I (list_0.length : Int))) (rv_len Try.underlying23 rfl) ?_
    refine st (v := (B (decide (s2 < (list_0.length : Int))))) (rv_lss (a := s2) (b := (list_0.length : Int)) rfl rfl) ?_
    refine w_end ?_
    refine q_then ?_
    refine cd_cond (decide (s2 < (list_0.length : Int))) rfl (fun hb6 => ?_) (fun hb6 => ?_)
    · replace h := bif_t hb6 h
      refine c_skip ?_
      refine q_then ?_
      refine c_seq ?_
      refine c_blk ?_
      refine c_seq ?_
      refine rg ?_
      refine st (v := (Sl alist_0 list_0 clist_0)) (rv_move rfl) ?_
      refine st (v := (I s2)) (rv_move rfl) ?_
      obtain ⟨x7, hx8, h'⟩ := bind_some h
      clear h
      have h := h'; clear h'
      obtain ⟨b10, o11, hi9, -⟩ := hR5.ix hx8
      refine st (v := (pt b10 o11)) (rv_ix Try.underlying23 ti26 rfl rfl hi9) ?_
      refine st (v := (pt b10 (o11 + 0))) (rv_fieldAddr (off := 0) (ft := 3) Try.underlying26 rfl ti3 rfl rfl) ?_
      refine st (v := (I x7.1)) (rv_load1 Try.underlying3 rfl rfl (hR5.at hx8 hi9).fst.int) ?_
      refine st (v := (I key_1)) (rv_move rfl) ?_
      refine st (v := (B (x7.1 == key_1))) (rv_eql (a := x7.1) (b := key_1) rfl rfl) ?_
      refine w_end ?_
      refine q_then ?_
      refine cd_cond (x7.1 == key_1) rfl (fun hb12 => ?_) (fun hb12 => ?_)
      · replace h := bif_t hb12 h
        refine c_seq ?_
        refine rg ?_
        refine st (v := (I s2)) (rv_move rfl) ?_
        refine st (v := (I s2)) (rv_assign rfl) ?_
        refine w_end ?_
        refine q_then ?_
        refine c_ret ?_
        refine q_blk_r ?_
        refine q_then_r ?_
        refine q_then_r ?_
        refine q_blk_r ?_
        obtain rfl := Option.some.inj h
        obtain rfl := hres _ rfl
        exact .inr (⟨_, rfl, rfl, _, σ4, fr_join ⟨rfl, trivial⟩, rfl, hK⟩)
      · replace h := bif_f hb12 h
        refine c_skip ?_
        refine q_blk ?_
        refine q_then ?_
        refine rg ?_
        refine st (v := (I s2)) (rv_move rfl) ?_
        refine st (v := (I (w64 (s2 + 1)))) (rv_add (a := s2) (b := 1) rfl rfl) ?_
        refine st (v := (I (w64 (s2 + 1)))) (rv_assign rfl) ?_
        refine w_end ?_
        refine q_then ?_
        obtain rfl := Option.some.inj h
        exact ⟨_, rfl, _, σ4, fr_join ⟨rfl, rfl, rfl, trivial⟩, rfl, hK, hR5⟩
    · replace h := bif_f hb6 h
      refine c_exit ?_
      refine q_then_x ?_
      refine q_then_x ?_
      refine q_blk_hit ?_
      obtain rfl := Option.some.inj h
      obtain rfl := hres _ rfl
      exact .inl ⟨_, rfl, rfl, _, σ4, fr_join trivial, rfl, hK⟩
  · clear hj
    have h := h'
    clear h'
    rintro e a w (⟨t13, rfl, rfl, ρ, σ14, rfl, rfl, hK⟩ | ⟨t15, rfl, rfl, ρ, σ16, rfl, rfl, hK⟩)
    · replace h := selim_l h
      refine q_then ?_
      refine c_seq ?_
      refine rg ?_
      refine st (v := (I (-1))) (rv_assign rfl) ?_
      refine w_end ?_
      refine q_then ?_
      refine c_ret ?_
      obtain rfl := Option.some.inj h
      exact bodyPost_ret (v := (I (-1))) (results_fr1 Try.results76 rfl _) rfl ⟨_, σ14, rfl, rfl, hK, rfl⟩
    · replace h := selim_r h
      refine q_then_r ?_
      obtain rfl := Option.some.inj h
      exact bodyPost_ret (v := (I t15)) (results_fr1 Try.results76 rfl _) rfl ⟨_, σ16, rfl, rfl, hK, rfl⟩

theorem c_spec_DropItem {σ0 : St} {list_0 : List (Int × (List Int) × Int)} {key_1 : Int} {alist_0 : Option Addr} {clist_0 : Nat} (hRlist_0 : RS 0 σ0 (Sl alist_0 list_0 clist_0) list_0) {r : (List (Int × (List Int) × Int)) × Bool} (h : M.spec_DropItem list_0 key_1 = some r) :
    Cal Try.prog 48 [(Sl alist_0 list_0 clist_0), (I key_1)] none σ0 (fun v σ' => ∃ (a0 : Option Addr) (c0 : Nat), v = (.tuple #[(Sl a0 r.1 c0), (B r.2)]) ∧ Ow σ' σ0.size σ0.size (Sl a0 r.1 c0) r.1) := by
  refine ⟨⟨_, _, Try.func48, rfl, rfl⟩, ?_⟩
  refine enter (n := 40) Try.func48 rfl rfl rfl ?_
  unfold M.spec_DropItem at h
  have hK : Mod none σ0 σ0 := Mod.refl _ _
  refine c_seq ?_
  refine rg ?_
  refine st (v := (.slice none 0 0)) (rv_assign rfl) ?_
  refine st (v := (B false)) (rv_assign rfl) ?_
  refine w_end ?_
  refine q_then ?_
  refine c_seq ?_
  refine c_seq ?_
  obtain ⟨o1, hj, h'⟩ := bind_some h
  clear h
  refine c_cut (fun e a w => e = .normal ∧ ∃ (ρ : Nat → Value) (σ : St), a = fr 40 (updL ρ [(0, (Sl alist_0 list_0 clist_0)), (1, (I key_1)), (16, (B o1))]) ∧ w = σ.w ∧ Mod none σ0 σ ∧ RS 0 σ (Sl alist_0 list_0 clist_0) list_0) ?_ ?_
  · clear h'
    rename _ = some o1 => h
    refine rg ?_
    refine st (v := (Sl alist_0 list_0 clist_0)) (rv_move rfl) ?_
    obtain ⟨r2, hx3, h'⟩ := bind_some h
    clear h
    have h := h'; clear h'
    refine st_call (c_spec_validStore hRlist_0 hx3) rfl ?_
    have hKs := hK.size
    rintro _ σ4 m5 rfl
    replace hRlist_0 := hRlist_0.mod m5
    replace hK := hK.none m5
    clear hKs m5
    refine st (v := (B (!r2))) (rv_not rfl) ?_
    refine st (v := (B (!r2))) (rv_move rfl) ?_
    rcases Bool.eq_false_or_eq_true (!r2) with hb6 | hb6
    · replace h := bif_t hb6 h
      refine st_skip (congrArg some hb6) ?_
      refine st_skip (congrArg some hb6) ?_
      refine st_skip (congrArg some hb6) ?_
      refine st_skip (congrArg some hb6) ?_
      refine st (v := (B true)) (rv_pick_t (congrArg B hb6) rfl) ?_
      refine w_end ?_
      obtain rfl := Option.some.inj h
      exact ⟨rfl, _, σ4, fr_join ⟨rfl, rfl, rfl, trivial⟩, rfl, hK, hRlist_0⟩
    · replace h := bif_f hb6 h
      refine st_g (v := (Sl alist_0 list_0 clist_0)) (congrArg some hb6) (rv_move rfl) ?_
      refine st_g (v := (I key_1)) (congrArg some hb6) (rv_move rfl) ?_
      obtain ⟨r7, hx8, h'⟩ := bind_some h
      clear h
      have h := h'; clear h'
      refine st_call_g (by exact (congrArg some hb6)) (c_spec_keyAt hRlist_0 hx8) rfl ?_
      have hKs := hK.size
      rintro _ σ9 m10 rfl
      replace hRlist_0 := hRlist_0.mod m10
      replace hK := hK.none m10
      clear hKs m10
      refine st_g (v := (B (decide (r7 < 0)))) (congrArg some hb6) (rv_lss (a := r7) (b := 0) rfl rfl) ?_
      refine st (v := (B (decide (r7 < 0)))) (rv_pick_f (congrArg B hb6) rfl) ?_
      refine w_end ?_
      obtain rfl := Option.some.inj h
      exact ⟨rfl, _, σ9, fr_join ⟨rfl, rfl, rfl, trivial⟩, rfl, hK, hRlist_0⟩
  · clear hj
    have h := h'
    clear h'
    rintro e a w ⟨rfl, ρ, σ11, rfl, rfl, hK, hR12⟩
    refine q_then ?_
    refine cd_cond o1 rfl (fun hb13 => ?_) (fun hb13 => ?_)
    · replace h := bif_t hb13 h
      refine c_seq ?_
      refine rg ?_
      refine st (v := (.slice none 0 0)) (rv_assign rfl) ?_
      refine st (v := (B false)) (rv_assign rfl) ?_
      refine w_end ?_
      refine q_then ?_
      refine c_ret ?_
      refine q_then_r ?_
      obtain rfl := Option.some.inj h
      exact bodyPost_ret (v := (.tuple #[(.slice none 0 0), (B false)])) (results_fr2 Try.results48 rfl rfl _) rfl ⟨_, σ11, rfl, rfl, hK, none, 0, rfl, Ow.nil⟩
    · replace h := bif_f hb13 h
      refine c_skip ?_
      refine q_then ?_
      refine c_seq ?_
      refine rg ?_
      refine st_buildSlice (lo := σ0.size) (el := σ0.size) (xs := ([] : List (Int × (List Int) × Int))) (ps := []) (cs := []) Try.underlying23 ti26 rfl rfl (by kernel_rfl) (.nil) rfl ?_ hK.size (wanted_none _ rfl _)
      intro b15 σ16 hbn18 m17 hO14
      replace hR12 := hR12.mod m17
      replace hK := hK.none m17
      clear hbn18 m17
      refine st (v := (Sl (some ⟨b15, 0, none⟩) ([] : List (Int × (List Int) × Int)) 0)) (rv_assign rfl) ?_
      refine w_end ?_
      refine q_then ?_
      refine c_seq ?_
      refine c_seq ?_
      refine rg ?_
      refine st (v := (I 0)) (rv_assign rfl) ?_
      refine w_end ?_
      refine q_then ?_
      obtain ⟨o19, hj, h'⟩ := bind_some h
      clear h
      refine c_cut (fun e a w => e = .normal ∧ ∃ (ρ : Nat → Value) (σ : St) (aj1 : Option Addr) (cj2 : Nat), a = fr 40 (updL ρ [(6, (Sl aj1 o19 cj2))]) ∧ w = σ.w ∧ Mod none σ0 σ ∧ Ow σ σ0.size σ0.size (Sl aj1 o19 cj2) o19) ?_ ?_
      · clear h'
        rename _ = some o19 => h
        refine c_blk ?_
        refine wp_loopM _ h (fun s20 a w => ∃ (ρ : Nat → Value) (σ : St) (aj2 : Option Addr) (cj3 : Nat), a = fr 40 (updL ρ [(0, (Sl alist_0 list_0 clist_0)), (1, (I key_1)), (6, (Sl aj2 s20.1 cj3)), (7, (I s20.2))]) ∧ w = σ.w ∧ Mod none σ0 σ ∧ RS 0 σ (Sl alist_0 list_0 clist_0) list_0 ∧ Ow σ σ0.size σ0.size (Sl aj2 s20.1 cj3) s20.1) ⟨_, σ16, (some ⟨b15, 0, none⟩), 0, fr_join ⟨rfl, rfl, rfl, rfl, trivial⟩, rfl, hK, hR12, hO14⟩ ?_
        clear h
        rintro s20 a w o ⟨ρ, σ22, a24, c25, rfl, rfl, hK, hR23, hO26⟩ h hres
        refine c_seq ?_
        refine c_seq ?_
        refine rg ?_
        refine st (v := (I s20.2)) (rv_move rfl) ?_
        refine st (v := (Sl alist_0 list_0 clist_0)) (rv_move rfl) ?_
        refine st (v := (I (list_0.length : Int))) (rv_len Try.underlying23 rfl) ?_
        refine st (v := (B (decide (s20.2 < (list_0.length : Int))))) (rv_lss (a := s20.2) (b := (list_0.length : Int)) rfl rfl) ?_
        refine w_end ?_
        refine q_then ?_
        refine cd_cond (decide (s20.2 < (list_0.length : Int))) rfl (fun hb27 => ?_) (fun hb27 => ?_)
        · replace h := bif_t hb27 h
          refine c_skip ?_
          refine q_then ?_
          refine c_seq ?_
          obtain ⟨o28, hj, h'⟩ := bind_some h
          clear h
          refine c_cut (fun e a w => e = .normal ∧ ∃ (ρ : Nat → Value) (σ : St) (aj2 : Option Addr) (cj3 : Nat), a = fr 40 (updL ρ [(0, (Sl alist_0 list_0 clist_0)), (1, (I key_1)), (6, (Sl aj2 o28 cj3)), (7, (I s20.2))]) ∧ w = σ.w ∧ Mod none σ0 σ ∧ RS 0 σ (Sl alist_0 list_0 clist_0) list_0 ∧ Ow σ σ0.size σ0.size (Sl aj2 o28 cj3) o28) ?_ ?_
          · clear h'
            rename _ = some o28 => h
            refine c_blk ?_
            refine c_seq ?_
            refine rg ?_
            refine st (v := (Sl alist_0 list_0 clist_0)) (rv_move rfl) ?_
            refine st (v := (I s20.2)) (rv_move rfl) ?_
            obtain ⟨x29, hx30, h'⟩ := bind_some h
            clear h
            have h := h'; clear h'
            obtain ⟨b32, o33, hi31, -⟩ := hR23.ix hx30
            refine st (v := (pt b32 o33)) (rv_ix Try.underlying23 ti26 rfl rfl hi31) ?_
            refine st (v := (pt b32 (o33 + 0))) (rv_fieldAddr (off := 0) (ft := 3) Try.underlying26 rfl ti3 rfl rfl) ?_
            refine st (v := (I x29.1)) (rv_load1 Try.underlying3 rfl rfl (hR23.at hx30 hi31).fst.int) ?_
            refine st (v := (I key_1)) (rv_move rfl) ?_
            refine st (v := (B (x29.1 != key_1))) (rv_neq (a := x29.1) (b := key_1) rfl rfl) ?_
            refine w_end ?_
            refine q_then ?_
            refine cd_cond (x29.1 != key_1) rfl (fun hb34 => ?_) (fun hb34 => ?_)
            · replace h := bif_t hb34 h
              refine rg ?_
              refine st (v := (Sl a24 s20.1 c25)) (rv_move rfl) ?_
              refine st (v := (Sl alist_0 list_0 clist_0)) (rv_move rfl) ?_
              refine st (v := (I s20.2)) (rv_move rfl) ?_
              obtain ⟨x35, hx36, h'⟩ := bind_some h
              clear h
              have h := h'; clear h'
              obtain ⟨b38, o39, hi37, -⟩ := hR23.ix hx36
              refine st (v := (pt b38 o39)) (rv_ix Try.underlying23 ti26 rfl rfl hi37) ?_
              obtain ⟨_, ⟨_, _, rfl, rfl, ⟨_, _, rfl, ⟨_, rfl, hR45⟩, rfl⟩⟩, hl41, hc42⟩ := (hR23.at hx36 hi37).cells
              obtain ⟨a43, c44, rfl⟩ := hR45.isSl
              refine st (v := (.agg #[(I x35.1), (Sl a43 x35.2.1 c44), (I x35.2.2)])) (rv_load Try.underlying26 rfl ti26 rfl hl41 hc42) ?_
              obtain ⟨r46, hx47, h'⟩ := bind_some h
              clear h
              have h := h'; clear h'
              refine st_call (c_spec_copyItem hR45 hx47) rfl ?_
              have hd53 := hO26.ltb
              have hKs := hK.size
              rintro _ σ48 m49 ⟨a50, c51, rfl, hR52⟩
              replace hR23 := hR23.mod m49
              replace hO26 := hO26.mod0 m49
              replace hR45 := hR45.mod m49
              replace hK := hK.none m49
              replace hR52 := hR52.low hKs
              clear hKs m49
              refine st_buildSlice (lo := σ0.size) (el := σ0.size) (xs := ([(r46.1, r46.2.1, r46.2.2)] : List (Int × (List Int) × Int))) (ps := [(0, (.agg #[(I r46.1), (Sl a50 r46.2.1 c51), (I r46.2.2)]))]) (cs := [(I r46.1), (Sl a50 r46.2.1 c51), (I r46.2.2)]) Try.underlying23 ti26 rfl rfl (by kernel_rfl) (.cons (c := [(I r46.1), (Sl a50 r46.2.1 c51), (I r46.2.2)]) ⟨[(I r46.1)], [(Sl a50 r46.2.1 c51), (I r46.2.2)], rfl, rfl, ⟨[(Sl a50 r46.2.1 c51)], [(I r46.2.2)], rfl, ⟨_, rfl, hR52⟩, rfl⟩⟩ (.nil)) rfl ?_ hK.size (wanted_none _ rfl _)
              intro b55 σ56 hbn58 m57 hO54
              have hd59 := hO26.df' hbn58
              replace hR23 := hR23.mod m57
              replace hO26 := hO26.mod0 m57
              replace hR52 := hR52.mod m57
              replace hK := hK.none m57
              clear hbn58 m57
              obtain ⟨xs60, hx61, h'⟩ := bind_some h
              clear h
              have h := h'; clear h'
              have hg62 := hO26.ge
              refine st_append Try.underlying23 Try.underlying23 ti26 rfl rfl (by decide) hO26 hO54.rd hx61 hK.size rfl rfl ?_ (wanted_none _ rfl _)
              intro a67 c68 σ63 m64 hO65 hq66
              replace hR23 := hR23.mod m64
              replace hK := hK.own m64 hg62
              clear hq66 m64
              refine st (v := (Sl a67 xs60 c68)) (rv_assign rfl) ?_
              refine w_end ?_
              refine q_blk ?_
              obtain rfl := Option.some.inj h
              exact ⟨rfl, _, σ63, a67, c68, fr_join ⟨rfl, rfl, rfl, rfl, trivial⟩, rfl, hK, hR23, hO65⟩
            · replace h := bif_f hb34 h
              refine c_skip ?_
              refine q_blk ?_
              obtain rfl := Option.some.inj h
              exact ⟨rfl, _, σ22, a24, c25, fr_join ⟨rfl, rfl, rfl, rfl, trivial⟩, rfl, hK, hR23, hO26⟩
          · clear hj
            have h := h'
            clear h'
            rintro e a w ⟨rfl, ρ, σ69, a71, c72, rfl, rfl, hK, hR70, hO73⟩
            refine q_then ?_
            refine rg ?_
            refine st (v := (I s20.2)) (rv_move rfl) ?_
            refine st (v := (I (w64 (s20.2 + 1)))) (rv_add (a := s20.2) (b := 1) rfl rfl) ?_
            refine st (v := (I (w64 (s20.2 + 1)))) (rv_assign rfl) ?_
            refine w_end ?_
            refine q_then ?_
            obtain rfl := Option.some.inj h
            exact ⟨_, rfl, _, σ69, a71, c72, fr_join ⟨rfl, rfl, rfl, rfl, trivial⟩, rfl, hK, hR70, hO73⟩
        · replace h := bif_f hb27 h
          refine c_exit ?_
          refine q_then_x ?_
          refine q_then_x ?_
          refine q_blk_hit ?_
          obtain rfl := Option.some.inj h
          obtain rfl := hres _ rfl
          exact ⟨rfl, _, σ22, a24, c25, fr_join ⟨rfl, trivial⟩, rfl, hK, hO26⟩
      · clear hj
        have h := h'
        clear h'
        rintro e a w ⟨rfl, ρ, σ74, a75, c76, rfl, rfl, hK, hO77⟩
        refine q_then ?_
        refine c_seq ?_
        refine rg ?_
        refine st (v := (Sl a75 o19 c76)) (rv_move rfl) ?_
        refine st (v := (Sl a75 o19 c76)) (rv_assign rfl) ?_
        refine st (v := (B true)) (rv_assign rfl) ?_
        refine w_end ?_
        refine q_then ?_
        refine c_ret ?_
        obtain rfl := Option.some.inj h
        exact bodyPost_ret (v := (.tuple #[(Sl a75 o19 c76), (B true)])) (results_fr2 Try.results48 rfl rfl _) rfl ⟨_, σ74, rfl, rfl, hK, a75, c76, rfl, hO77⟩

theorem c_spec_GetItem {σ0 : St} {list_0 : List (Int × (List Int) × Int)} {key_1 : Int} {alist_0 : Option Addr} {clist_0 : Nat} (hRlist_0 : RS 0 σ0 (Sl alist_0 list_0 clist_0) list_0) {r : (Int × (List Int) × Int) × Bool} (h : M.spec_GetItem list_0 key_1 = some r) :
    Cal Try.prog 50 [(Sl alist_0 list_0 clist_0), (I key_1)] none σ0 (fun v σ' => ∃ (a0 : Option Addr) (c0 : Nat), v = (.tuple #[(.agg #[(I r.1.1), (Sl a0 r.1.2.1 c0), (I r.1.2.2)]), (B r.2)]) ∧ RS σ0.size σ' (Sl a0 r.1.2.1 c0) r.1.2.1) := by
  refine ⟨⟨_, _, Try.func50, rfl, rfl⟩, ?_⟩
  refine enter (n := 23) Try.func50 rfl rfl rfl ?_
  unfold M.spec_GetItem at h
  have hK : Mod none σ0 σ0 := Mod.refl _ _
  refine c_seq ?_
  refine rg ?_
  refine st_alloc (cs := [(I 0), (.slice none 0 0), (I 0)]) ti26 rfl ?_ (wanted_none _ rfl _)
  intro b2 σ4 hbn6 m5 hB1
  have hge3 := Nat.le_trans hK.size (Nat.le_of_eq hbn6)
  replace hRlist_0 := hRlist_0.mod m5
  replace hK := hK.none m5
  clear hbn6 m5
  refine st (v := (B false)) (rv_assign rfl) ?_
  refine w_end ?_
  refine q_then ?_
  refine c_seq ?_
  refine c_seq ?_
  obtain ⟨o7, hj, h'⟩ := bind_some h
  clear h
  refine c_cut (fun e a w => e = .normal ∧ ∃ (ρ : Nat → Value) (σ : St), a = fr 23 (updL ρ [(0, (Sl alist_0 list_0 clist_0)), (1, (I key_1)), (4, (pt b2 0)), (14, (B o7))]) ∧ w = σ.w ∧ Mod none σ0 σ ∧ RS 0 σ (Sl alist_0 list_0 clist_0) list_0 ∧ Bx σ b2 [(I 0), (.slice none 0 0), (I 0)]) ?_ ?_
  · clear h'
    rename _ = some o7 => h
    refine rg ?_
    refine st (v := (Sl alist_0 list_0 clist_0)) (rv_move rfl) ?_
    obtain ⟨r8, hx9, h'⟩ := bind_some h
    clear h
    have h := h'; clear h'
    refine st_call (c_spec_validStore hRlist_0 hx9) rfl ?_
    have hd12 := hB1.ltb
    have hKs := hK.size
    rintro _ σ10 m11 rfl
    replace hRlist_0 := hRlist_0.mod m11
    replace hB1 := hB1.mod0 m11
    replace hK := hK.none m11
    clear hKs m11
    refine st (v := (B (!r8))) (rv_not rfl) ?_
    refine st (v := (B (!r8))) (rv_move rfl) ?_
    rcases Bool.eq_false_or_eq_true (!r8) with hb13 | hb13
    · replace h := bif_t hb13 h
      refine st_skip (congrArg some hb13) ?_
      refine st_skip (congrArg some hb13) ?_
      refine st_skip (congrArg some hb13) ?_
      refine st_skip (congrArg some hb13) ?_
      refine st (v := (B true)) (rv_pick_t (congrArg B hb13) rfl) ?_
      refine w_end ?_
      obtain rfl := Option.some.inj h
      exact ⟨rfl, _, σ10, fr_join ⟨rfl, rfl, rfl, rfl, trivial⟩, rfl, hK, hRlist_0, hB1⟩
    · replace h := bif_f hb13 h
      refine st_g (v := (Sl alist_0 list_0 clist_0)) (congrArg some hb13) (rv_move rfl) ?_
      refine st_g (v := (I key_1)) (congrArg some hb13) (rv_move rfl) ?_
      obtain ⟨r14, hx15, h'⟩ := bind_some h
      clear h
      have h := h'; clear h'
      refine st_call_g (by exact (congrArg some hb13)) (c_spec_keyAt hRlist_0 hx15) rfl ?_
      have hd18 := hB1.ltb
      have hKs := hK.size
      rintro _ σ16 m17 rfl
      replace hRlist_0 := hRlist_0.mod m17
      replace hB1 := hB1.mod0 m17
      replace hK := hK.none m17
      clear hKs m17
      refine st_g (v := (B (decide (r14 < 0)))) (congrArg some hb13) (rv_lss (a := r14) (b := 0) rfl rfl) ?_
      refine st (v := (B (decide (r14 < 0)))) (rv_pick_f (congrArg B hb13) rfl) ?_
      refine w_end ?_
      obtain rfl := Option.some.inj h
      exact ⟨rfl, _, σ16, fr_join ⟨rfl, rfl, rfl, rfl, trivial⟩, rfl, hK, hRlist_0, hB1⟩
  · clear hj
    have h := h'
    clear h'
    rintro e a w ⟨rfl, ρ, σ19, rfl, rfl, hK, hR20, hB21⟩
    refine q_then ?_
    refine cd_cond o7 rfl (fun hb22 => ?_) (fun hb22 => ?_)
    · replace h := bif_t hb22 h
      refine c_seq ?_
      refine rg ?_
      refine st (v := (.agg #[(I 0), (.slice none 0 0), (I 0)])) (rv_build (ps := []) Try.underlying26 ti26 (bp26 Try.underlying26) rfl (by kernel_rfl)) ?_
      refine st_store_box (cs := [(I 0), (.slice none 0 0), (I 0)]) (vs := [(I 0), (.slice none 0 0), (I 0)]) ti26 hB21 rfl rfl rfl rfl (Nat.le_of_ble_eq_true rfl) (by simp [plain]) ?_
      intro σ23 m24 hB26 hs25; clear hs25
      replace hK := hK.some m24 hge3
      replace hB26 := Bx.cast (cs' := [(I 0), (.slice none 0 0), (I 0)]) hB26 rfl
      clear hB21
      refine st (v := (B false)) (rv_assign rfl) ?_
      refine w_end ?_
      refine q_then ?_
      refine c_ret ?_
      refine q_then_r ?_
      obtain rfl := Option.some.inj h
      exact bodyPost_ret (v := (.tuple #[(.agg #[(I 0), (.slice none 0 0), (I 0)]), (B false)])) (results_cell_tmp (cs := [(I 0), (.slice none 0 0), (I 0)]) Try.results50 Try.underlying26 rfl ti26 rfl rfl rfl hB26) rfl ⟨_, σ23, rfl, rfl, hK, none, 0, rfl, RS.nil⟩
    · replace h := bif_f hb22 h
      refine c_skip ?_
      refine q_then ?_
      refine c_seq ?_
      refine rg ?_
      refine st (v := (Sl alist_0 list_0 clist_0)) (rv_move rfl) ?_
      refine st (v := (Sl alist_0 list_0 clist_0)) (rv_move rfl) ?_
      refine st (v := (I key_1)) (rv_move rfl) ?_
      obtain ⟨r27, hx28, h'⟩ := bind_some h
      clear h
      have h := h'; clear h'
      refine st_call (c_spec_keyAt hR20 hx28) rfl ?_
      have hd31 := hB21.ltb
      have hKs := hK.size
      rintro _ σ29 m30 rfl
      replace hR20 := hR20.mod m30
      replace hB21 := hB21.mod0 m30
      replace hK := hK.none m30
      clear hKs m30
      obtain ⟨x32, hx33, h'⟩ := bind_some h
      clear h
      have h := h'; clear h'
      obtain ⟨b35, o36, hi34, -⟩ := hR20.ix hx33
      refine st (v := (pt b35 o36)) (rv_ix Try.underlying23 ti26 rfl rfl hi34) ?_
      obtain ⟨_, ⟨_, _, rfl, rfl, ⟨_, _, rfl, ⟨_, rfl, hR42⟩, rfl⟩⟩, hl38, hc39⟩ := (hR20.at hx33 hi34).cells
      obtain ⟨a40, c41, rfl⟩ := hR42.isSl
      refine st (v := (.agg #[(I x32.1), (Sl a40 x32.2.1 c41), (I x32.2.2)])) (rv_load Try.underlying26 rfl ti26 rfl hl38 hc39) ?_
      obtain ⟨r43, hx44, h'⟩ := bind_some h
      clear h
      have h := h'; clear h'
      refine st_call (c_spec_copyItem hR42 hx44) rfl ?_
      have hd50 := hB21.ltb
      have hKs := hK.size
      rintro _ σ45 m46 ⟨a47, c48, rfl, hR49⟩
      replace hR42 := hR42.mod m46
      replace hB21 := hB21.mod0 m46
      replace hK := hK.none m46
      replace hR49 := hR49.low hKs
      clear hKs m46
      refine st_store_box (cs := [(I 0), (.slice none 0 0), (I 0)]) (vs := [(I r43.1), (Sl a47 r43.2.1 c48), (I r43.2.2)]) ti26 hB21 rfl rfl rfl rfl (Nat.le_of_ble_eq_true rfl) (by simp [plain]) ?_
      intro σ51 m52 hB54 hs53; clear hs53
      replace hR49 := hR49.mod m52
      replace hK := hK.some m52 hge3
      replace hB54 := Bx.cast (cs' := [(I r43.1), (Sl a47 r43.2.1 c48), (I r43.2.2)]) hB54 rfl
      clear hB21
      refine st (v := (B true)) (rv_assign rfl) ?_
      refine w_end ?_
      refine q_then ?_
      refine c_ret ?_
      obtain rfl := Option.some.inj h
      exact bodyPost_ret (v := (.tuple #[(.agg #[(I r43.1), (Sl a47 r43.2.1 c48), (I r43.2.2)]), (B true)])) (results_cell_tmp (cs := [(I r43.1), (Sl a47 r43.2.1 c48), (I r43.2.2)]) Try.results50 Try.underlying26 rfl ti26 rfl rfl rfl hB54) rfl ⟨_, σ51, rfl, rfl, hK, a47, c48, rfl, hR49⟩

theorem c_laws_heldItem {σ0 : St} {a_0 : Int × (List Int) × Int} {k_1 : Int} {aa_0_1 : Option Addr} {ca_0_1 : Nat} (hRa_0_1 : RS 0 σ0 (Sl aa_0_1 a_0.2.1 ca_0_1) a_0.2.1) {r : Int} (h : M.laws_heldItem a_0 k_1 = some r) :
    Cal Try.prog 52 [(.agg #[(I a_0.1), (Sl aa_0_1 a_0.2.1 ca_0_1), (I a_0.2.2)]), (I k_1)] none σ0 (fun v σ' => v = (I r)) := by
  refine ⟨⟨_, _, Try.func52, rfl, rfl⟩, ?_⟩
  refine enter (n := 12) Try.func52 rfl rfl rfl ?_
  unfold M.laws_heldItem at h
  have hK : Mod none σ0 σ0 := Mod.refl _ _
  refine c_seq ?_
  refine rg ?_
  refine st_box (cs := [(I a_0.1), (Sl aa_0_1 a_0.2.1 ca_0_1), (I a_0.2.2)]) rfl rfl ?_ (wanted_none _ rfl _)
  intro b2 σ4 hbn6 m5 hB1
  have hge3 := Nat.le_trans hK.size (Nat.le_of_eq hbn6)
  replace hRa_0_1 := hRa_0_1.mod m5
  replace hK := hK.none m5
  clear hbn6 m5
  refine st (v := (I 0)) (rv_assign rfl) ?_
  refine w_end ?_
  refine q_then ?_
  refine c_seq ?_
  refine rg ?_
  refine st (v := (pt b2 1)) (rv_fieldAddr (off := 1) (ft := 24) Try.underlying26 rfl ti24 rfl rfl) ?_
  refine st (v := (Sl aa_0_1 a_0.2.1 ca_0_1)) (rv_load1 Try.underlying24 rfl rfl (hB1.cell' 1 rfl rfl)) ?_
  refine st (v := (I k_1)) (rv_move rfl) ?_
  obtain ⟨r7, hx8, h'⟩ := bind_some h
  clear h
  have h := h'; clear h'
  refine st_call (c_laws_heldIntS hRa_0_1 hx8) rfl ?_
  have hKs := hK.size
  rintro _ σ9 m10 rfl
  replace hRa_0_1 := hRa_0_1.mod m10
  replace hK := hK.none m10
  clear hKs m10
  refine st (v := (I r7)) (rv_assign rfl) ?_
  refine w_end ?_
  refine q_then ?_
  refine c_seq ?_
  refine c_seq ?_
  refine rg ?_
  refine st (v := (I r7)) (rv_move rfl) ?_
  refine st (v := (B (decide (r7 < 0)))) (rv_lss (a := r7) (b := 0) rfl rfl) ?_
  refine w_end ?_
  refine q_then ?_
  refine cd_cond (decide (r7 < 0)) rfl (fun hb11 => ?_) (fun hb11 => ?_)
  · replace h := bif_t hb11 h
    refine c_seq ?_
    refine rg ?_
    refine st (v := (I (-1))) (rv_assign rfl) ?_
    refine w_end ?_
    refine q_then ?_
    refine c_ret ?_
    refine q_then_r ?_
    obtain rfl := Option.some.inj h
    exact bodyPost_ret (v := (I (-1))) (results_fr1 Try.results52 rfl _) rfl ⟨_, σ9, rfl, rfl, hK, rfl⟩
  · replace h := bif_f hb11 h
    refine c_skip ?_
    refine q_then ?_
    refine c_seq ?_
    refine rg ?_
    refine st (v := (I r7)) (rv_move rfl) ?_
    refine st (v := (I r7)) (rv_assign rfl) ?_
    refine w_end ?_
    refine q_then ?_
    refine c_ret ?_
    obtain rfl := Option.some.inj h
    exact bodyPost_ret (v := (I r7)) (results_fr1 Try.results52 rfl _) rfl ⟨_, σ9, rfl, rfl, hK, rfl⟩

theorem c_spec_BoundsOf {σ0 : St} {list_0 : List (Int × (List Int) × Int)} {alist_0 : Option Addr} {clist_0 : Nat} (hRlist_0 : RS 0 σ0 (Sl alist_0 list_0 clist_0) list_0) {r : (List Int) × (List Int) × Bool} (h : M.spec_BoundsOf list_0 = some r) :
    Cal Try.prog 53 [(Sl alist_0 list_0 clist_0)] none σ0 (fun v σ' => ∃ (a0 : Option Addr) (c0 : Nat), ∃ (a1 : Option Addr) (c1 : Nat), v = (.tuple #[(Sl a0 r.1 c0), (Sl a1 r.2.1 c1), (B r.2.2)]) ∧ Ow σ' σ0.size σ0.size (Sl a0 r.1 c0) r.1 ∧ Ow σ' σ0.size σ0.size (Sl a1 r.2.1 c1) r.2.1 ∧ Df (blk (Sl a1 r.2.1 c1)) (blk (Sl a0 r.1 c0))) := by
  refine ⟨⟨_, _, Try.func53, rfl, rfl⟩, ?_⟩
  refine enter (n := 71) Try.func53 rfl rfl rfl ?_
  unfold M.spec_BoundsOf at h
  have hK : Mod none σ0 σ0 := Mod.refl _ _
  refine c_seq ?_
  refine rg ?_
  refine st (v := (.slice none 0 0)) (rv_assign rfl) ?_
  refine st (v := (.slice none 0 0)) (rv_assign rfl) ?_
  refine st (v := (B false)) (rv_assign rfl) ?_
  refine w_end ?_
  refine q_then ?_
  refine c_seq ?_
  refine c_seq ?_
  obtain ⟨o1, hj, h'⟩ := bind_some h
  clear h
  refine c_cut (fun e a w => e = .normal ∧ ∃ (ρ : Nat → Value) (σ : St), a = fr 71 (updL ρ [(0, (Sl alist_0 list_0 clist_0)), (16, (B o1))]) ∧ w = σ.w ∧ Mod none σ0 σ ∧ RS 0 σ (Sl alist_0 list_0 clist_0) list_0) ?_ ?_
  · clear h'
    rename _ = some o1 => h
    refine rg ?_
    refine st (v := (Sl alist_0 list_0 clist_0)) (rv_move rfl) ?_
    obtain ⟨r2, hx3, h'⟩ := bind_some h
    clear h
    have h := h'; clear h'
    refine st_call (c_spec_validStore hRlist_0 hx3) rfl ?_
    have hKs := hK.size
    rintro _ σ4 m5 rfl
    replace hRlist_0 := hRlist_0.mod m5
    replace hK := hK.none m5
    clear hKs m5
    refine st (v := (B (!r2))) (rv_not rfl) ?_
    refine st (v := (B (!r2))) (rv_move rfl) ?_
    rcases Bool.eq_false_or_eq_true (!r2) with hb6 | hb6
    · replace h := bif_t hb6 h
      refine st_skip (congrArg some hb6) ?_
      refine st_skip (congrArg some hb6) ?_
      refine st_skip (congrArg some hb6) ?_
      refine st (v := (B true)) (rv_pick_t (congrArg B hb6) rfl) ?_
      refine w_end ?_
      obtain rfl := Option.some.inj h
      exact ⟨rfl, _, σ4, fr_join ⟨rfl, rfl, trivial⟩, rfl, hK, hRlist_0⟩
    · replace h := bif_f hb6 h
      refine st_g (v := (Sl alist_0 list_0 clist_0)) (congrArg some hb6) (rv_move rfl) ?_
      refine st_g (v := (I (list_0.length : Int))) (congrArg some hb6) (rv_len Try.underlying23 rfl) ?_
      refine st_g (v := (B ((list_0.length : Int) == 0))) (congrArg some hb6) (rv_eql (a := (list_0.length : Int)) (b := 0) rfl rfl) ?_
      refine st (v := (B ((list_0.length : Int) == 0))) (rv_pick_f (congrArg B hb6) rfl) ?_
      refine w_end ?_
      obtain rfl := Option.some.inj h
      exact ⟨rfl, _, σ4, fr_join ⟨rfl, rfl, trivial⟩, rfl, hK, hRlist_0⟩
  · clear hj
    have h := h'
    clear h'
    rintro e a w ⟨rfl, ρ, σ7, rfl, rfl, hK, hR8⟩
    refine q_then ?_
    refine cd_cond o1 rfl (fun hb9 => ?_) (fun hb9 => ?_)
    · replace h := bif_t hb9 h
      refine c_seq ?_
      refine rg ?_
      refine st (v := (.slice none 0 0)) (rv_assign rfl) ?_
      refine st (v := (.slice none 0 0)) (rv_assign rfl) ?_
      refine st (v := (B false)) (rv_assign rfl) ?_
      refine w_end ?_
      refine q_then ?_
      refine c_ret ?_
      refine q_then_r ?_
      obtain rfl := Option.some.inj h
      exact bodyPost_ret (v := (.tuple #[(.slice none 0 0), (.slice none 0 0), (B false)])) (results_fr3 Try.results53 rfl rfl rfl _) rfl ⟨_, σ7, rfl, rfl, hK, none, 0, none, 0, rfl, Ow.nil, Ow.nil, (by rintro _ ⟨⟩)⟩
    · replace h := bif_f hb9 h
      refine c_skip ?_
      refine q_then ?_
      refine c_seq ?_
      refine rg ?_
      refine st (v := (Sl alist_0 list_0 clist_0)) (rv_move rfl) ?_
      obtain ⟨x10, hx11, h'⟩ := bind_some h
      clear h
      have h := h'; clear h'
      obtain ⟨b13, o14, hi12, -⟩ := hR8.ix hx11
      refine st (v := (pt b13 o14)) (rv_ix Try.underlying23 ti26 rfl rfl hi12) ?_
      refine st (v := (pt b13 (o14 + 1))) (rv_fieldAddr (off := 1) (ft := 24) Try.underlying26 rfl ti24 rfl rfl) ?_
      obtain ⟨v18, hc19, hR17⟩ := (hR8.at hx11 hi12).snd.fst.slice
      obtain ⟨a15, c16, rfl⟩ := hR17.isSl
      refine st (v := (Sl a15 x10.2.1 c16)) (rv_load1 Try.underlying24 rfl rfl hc19) ?_
      obtain ⟨r20, hx21, h'⟩ := bind_some h
      clear h
      have h := h'; clear h'
      refine st_call (c_spec_copyInts hR17 hx21) rfl ?_
      have hKs := hK.size
      rintro _ σ22 m23 ⟨a24, c25, rfl, hO26⟩
      replace hR8 := hR8.mod m23
      replace hR17 := hR17.mod m23
      replace hK := hK.none m23
      have hO26g := hO26.ge
      replace hO26 := hO26.lo hKs
      replace hO26 := hO26.low' hKs
      clear hKs m23 hO26g
      refine st (v := (Sl a24 r20 c25)) (rv_assign rfl) ?_
      refine w_end ?_
      refine q_then ?_
      refine c_seq ?_
      refine rg ?_
      refine st (v := (Sl alist_0 list_0 clist_0)) (rv_move rfl) ?_
      obtain ⟨x27, hx28, h'⟩ := bind_some h
      clear h
      have h := h'; clear h'
      obtain ⟨b30, o31, hi29, -⟩ := hR8.ix hx28
      refine st (v := (pt b30 o31)) (rv_ix Try.underlying23 ti26 rfl rfl hi29) ?_
      refine st (v := (pt b30 (o31 + 1))) (rv_fieldAddr (off := 1) (ft := 24) Try.underlying26 rfl ti24 rfl rfl) ?_
      obtain ⟨v35, hc36, hR34⟩ := (hR8.at hx28 hi29).snd.fst.slice
      obtain ⟨a32, c33, rfl⟩ := hR34.isSl
      refine st (v := (Sl a32 x27.2.1 c33)) (rv_load1 Try.underlying24 rfl rfl hc36) ?_
      obtain ⟨r37, hx38, h'⟩ := bind_some h
      clear h
      have h := h'; clear h'
      refine st_call (c_spec_copyInts hR34 hx38) rfl ?_
      have hd44 := hO26.ltb
      have hKs := hK.size
      rintro _ σ39 m40 ⟨a41, c42, rfl, hO43⟩
      replace hR8 := hR8.mod m40
      replace hO26 := hO26.mod0 m40
      replace hR34 := hR34.mod m40
      replace hK := hK.none m40
      have hO43g := hO43.ge
      replace hO43 := hO43.lo hKs
      replace hO43 := hO43.low' hKs
      have hd45 := Df.ge hd44 hO43g
      clear hKs m40 hO43g
      refine st (v := (Sl a41 r37 c42)) (rv_assign rfl) ?_
      refine w_end ?_
      refine q_then ?_
      refine c_seq ?_
      refine c_seq ?_
      refine rg ?_
      refine st (v := (I 1)) (rv_assign rfl) ?_
      refine w_end ?_
      refine q_then ?_
      obtain ⟨o46, hj, h'⟩ := bind_some h
      clear h
      refine c_cut (fun e a w => e = .normal ∧ ∃ (ρ : Nat → Value) (σ : St) (aj1 : Option Addr) (cj2 : Nat) (aj4 : Option Addr) (cj5 : Nat), a = fr 71 (updL ρ [(5, (Sl aj1 o46.1 cj2)), (6, (Sl aj4 o46.2 cj5))]) ∧ w = σ.w ∧ Mod none σ0 σ ∧ Ow σ σ0.size σ0.size (Sl aj1 o46.1 cj2) o46.1 ∧ Ow σ σ0.size σ0.size (Sl aj4 o46.2 cj5) o46.2 ∧ Df (blk (Sl aj4 o46.2 cj5)) (blk (Sl aj1 o46.1 cj2))) ?_ ?_
      · clear h'
        rename _ = some o46 => h
        refine c_blk ?_
        refine wp_loopM _ h (fun s47 a w => ∃ (ρ : Nat → Value) (σ : St) (aj2 : Option Addr) (cj3 : Nat) (aj5 : Option Addr) (cj6 : Nat), a = fr 71 (updL ρ [(0, (Sl alist_0 list_0 clist_0)), (5, (Sl aj2 s47.1 cj3)), (6, (Sl aj5 s47.2.1 cj6)), (7, (I s47.2.2))]) ∧ w = σ.w ∧ Mod none σ0 σ ∧ RS 0 σ (Sl alist_0 list_0 clist_0) list_0 ∧ Ow σ σ0.size σ0.size (Sl aj2 s47.1 cj3) s47.1 ∧ Ow σ σ0.size σ0.size (Sl aj5 s47.2.1 cj6) s47.2.1 ∧ Df (blk (Sl aj5 s47.2.1 cj6)) (blk (Sl aj2 s47.1 cj3))) ⟨_, σ39, a24, c25, a41, c42, fr_join ⟨rfl, rfl, rfl, rfl, trivial⟩, rfl, hK, hR8, hO26, hO43, (by first | exact (hd45).symm | exact Df.re (hd45).symm)⟩ ?_
        clear h
        rintro s47 a w o ⟨ρ, σ49, a51, c52, a54, c55, rfl, rfl, hK, hR50, hO53, hO56, hd57⟩ h hres
        refine c_seq ?_
        refine c_seq ?_
        refine rg ?_
        refine st (v := (I s47.2.2)) (rv_move rfl) ?_
        refine st (v := (Sl alist_0 list_0 clist_0)) (rv_move rfl) ?_
        refine st (v := (I (list_0.length : Int))) (rv_len Try.underlying23 rfl) ?_
        refine st (v := (B (decide (s47.2.2 < (list_0.length : Int))))) (rv_lss (a := s47.2.2) (b := (list_0.length : Int)) rfl rfl) ?_
        refine w_end ?_
        refine q_then ?_
        refine cd_cond (decide (s47.2.2 < (list_0.length : Int))) rfl (fun hb58 => ?_) (fun hb58 => ?_)
        · replace h := bif_t hb58 h
          refine c_skip ?_
          refine q_then ?_
          refine c_seq ?_
          refine c_blk ?_
          refine c_seq ?_
          refine rg ?_
          refine st (v := (I 0)) (rv_assign rfl) ?_
          refine w_end ?_
          refine q_then ?_
          obtain ⟨o59, hj, h'⟩ := bind_some h
          clear h
          refine c_cut (fun e a w => e = .normal ∧ ∃ (ρ : Nat → Value) (σ : St) (aj2 : Option Addr) (cj3 : Nat) (aj5 : Option Addr) (cj6 : Nat), a = fr 71 (updL ρ [(0, (Sl alist_0 list_0 clist_0)), (5, (Sl aj2 o59.1 cj3)), (6, (Sl aj5 o59.2 cj6)), (7, (I s47.2.2))]) ∧ w = σ.w ∧ Mod none σ0 σ ∧ RS 0 σ (Sl alist_0 list_0 clist_0) list_0 ∧ Ow σ σ0.size σ0.size (Sl aj2 o59.1 cj3) o59.1 ∧ Ow σ σ0.size σ0.size (Sl aj5 o59.2 cj6) o59.2 ∧ Df (blk (Sl aj5 o59.2 cj6)) (blk (Sl aj2 o59.1 cj3))) ?_ ?_
          · clear h'
            rename _ = some o59 => h
            refine c_blk ?_
            refine wp_loopM _ h (fun s60 a w => ∃ (ρ : Nat → Value) (σ : St) (aj2 : Option Addr) (cj3 : Nat) (aj5 : Option Addr) (cj6 : Nat), a = fr 71 (updL ρ [(0, (Sl alist_0 list_0 clist_0)), (5, (Sl aj2 s60.1 cj3)), (6, (Sl aj5 s60.2.1 cj6)), (7, (I s47.2.2)), (8, (I s60.2.2))]) ∧ w = σ.w ∧ Mod none σ0 σ ∧ RS 0 σ (Sl alist_0 list_0 clist_0) list_0 ∧ Ow σ σ0.size σ0.size (Sl aj2 s60.1 cj3) s60.1 ∧ Ow σ σ0.size σ0.size (Sl aj5 s60.2.1 cj6) s60.2.1 ∧ Df (blk (Sl aj5 s60.2.1 cj6)) (blk (Sl aj2 s60.1 cj3))) ⟨_, σ49, a51, c52, a54, c55, fr_join ⟨rfl, rfl, rfl, rfl, rfl, trivial⟩, rfl, hK, hR50, hO53, hO56, (by first | exact hd57 | exact Df.re hd57)⟩ ?_
            clear h
            rintro s60 a w o ⟨ρ, σ62, a64, c65, a67, c68, rfl, rfl, hK, hR63, hO66, hO69, hd70⟩ h hres
            refine c_seq ?_
            refine c_seq ?_
            refine rg ?_
            refine st (v := (I s60.2.2)) (rv_move rfl) ?_
            refine st (v := (B (decide (s60.2.2 < 4)))) (rv_lss (a := s60.2.2) (b := 4) rfl rfl) ?_
            refine w_end ?_
            refine q_then ?_
            refine cd_cond (decide (s60.2.2 < 4)) rfl (fun hb71 => ?_) (fun hb71 => ?_)
            · replace h := bif_t hb71 h
              refine c_skip ?_
              refine q_then ?_
              refine c_seq ?_
              refine c_blk ?_
              refine c_seq ?_
              obtain ⟨x72, hx73, h'⟩ := bind_some h
              clear h
              have h := h'; clear h'
              obtain ⟨b75, o76, hi74, -⟩ := hO66.ix hx73
              obtain ⟨x77, hx78, h'⟩ := bind_some h
              clear h
              have h := h'; clear h'
              obtain ⟨b80, o81, hi79, -⟩ := hR63.ix hx78
              obtain ⟨v85, hc86, hR84⟩ := (hR63.at hx78 hi79).snd.fst.slice
              obtain ⟨a82, c83, rfl⟩ := hR84.isSl
              obtain ⟨x87, hx88, h'⟩ := bind_some h
              clear h
              have h := h'; clear h'
              obtain ⟨b90, o91, hi89, -⟩ := hR84.ix hx88
              refine rg_monoL (σ := σ62) 15 [eqv (Sl a64 s60.1 c65), eqv (I s60.2.2), eqv (Sl a64 s60.1 c65), eqv (I s60.2.2), eqv (pt b75 o76), eqv (I x72), eqv (Sl alist_0 list_0 clist_0), eqv (I s47.2.2), eqv (pt b80 o81), eqv (pt b80 (o81 + 1)), eqv (Sl a82 x77.2.1 c83), eqv (I s60.2.2), eqv (pt b90 o91), eqv (I x87), eqv (I (min x72 x87))] (by kernel_rfl) (by kernel_rfl) (mono_cons mono_eqv (mono_cons mono_eqv (mono_cons mono_eqv (mono_cons mono_eqv (mono_cons mono_eqv (mono_cons mono_eqv (mono_cons mono_eqv (mono_cons mono_eqv (mono_cons mono_eqv (mono_cons mono_eqv (mono_cons mono_eqv (mono_cons mono_eqv (mono_cons mono_eqv (mono_cons mono_eqv (mono_cons mono_eqv (mono_nil)))))))))))))))) ?_ ?_
              · refine all_cons (by
                    intro ρ σm m hoff hdep
                    have e5 : look 71 ρ 5 = (Sl a64 s60.1 c65) := look_off (hoff 5 rfl) rfl
                    exact does_v (v := (Sl a64 s60.1 c65)) (wanted_none _ rfl _) (rv_move e5) rfl) ?_
                refine all_cons (by
                    intro ρ σm m hoff hdep
                    have e8 : look 71 ρ 8 = (I s60.2.2) := look_off (hoff 8 rfl) rfl
                    exact does_v (v := (I s60.2.2)) (wanted_none _ rfl _) (rv_move e8) rfl) ?_
                refine all_cons (by
                    intro ρ σm m hoff hdep
                    have e5 : look 71 ρ 5 = (Sl a64 s60.1 c65) := look_off (hoff 5 rfl) rfl
                    exact does_v (v := (Sl a64 s60.1 c65)) (wanted_none _ rfl _) (rv_move e5) rfl) ?_
                refine all_cons (by
                    intro ρ σm m hoff hdep
                    have e8 : look 71 ρ 8 = (I s60.2.2) := look_off (hoff 8 rfl) rfl
                    exact does_v (v := (I s60.2.2)) (wanted_none _ rfl _) (rv_move e8) rfl) ?_
                refine all_cons (by
                    intro ρ σm m hoff hdep
                    have e39 : look 71 ρ 39 = (Sl a64 s60.1 c65) := hdep 2 rfl rfl 39 rfl
                    have e40 : look 71 ρ 40 = (I s60.2.2) := hdep 3 rfl rfl 40 rfl
                    exact does_v (v := (pt b75 o76)) (wanted_none _ rfl _) (rv_ix Try.underlying24 ti3 e39 e40 hi74) rfl) ?_
                refine all_cons (by
                    intro ρ σm m hoff hdep
                    have e41 : look 71 ρ 41 = (pt b75 o76) := hdep 4 rfl rfl 41 rfl
                    replace hO66 := hO66.mod0 m
                    exact does_v (v := (I x72)) (wanted_none _ rfl _) (rv_load1 Try.underlying3 rfl e41 (hO66.at hx73 hi74).int) rfl) ?_
                refine all_cons (by
                    intro ρ σm m hoff hdep
                    have e0 : look 71 ρ 0 = (Sl alist_0 list_0 clist_0) := look_off (hoff 0 rfl) rfl
                    exact does_v (v := (Sl alist_0 list_0 clist_0)) (wanted_none _ rfl _) (rv_move e0) rfl) ?_
                refine all_cons (by
                    intro ρ σm m hoff hdep
                    have e7 : look 71 ρ 7 = (I s47.2.2) := look_off (hoff 7 rfl) rfl
                    exact does_v (v := (I s47.2.2)) (wanted_none _ rfl _) (rv_move e7) rfl) ?_
                refine all_cons (by
                    intro ρ σm m hoff hdep
                    have e43 : look 71 ρ 43 = (Sl alist_0 list_0 clist_0) := hdep 6 rfl rfl 43 rfl
                    have e44 : look 71 ρ 44 = (I s47.2.2) := hdep 7 rfl rfl 44 rfl
                    exact does_v (v := (pt b80 o81)) (wanted_none _ rfl _) (rv_ix Try.underlying23 ti26 e43 e44 hi79) rfl) ?_
                refine all_cons (by
                    intro ρ σm m hoff hdep
                    have e45 : look 71 ρ 45 = (pt b80 o81) := hdep 8 rfl rfl 45 rfl
                    exact does_v (v := (pt b80 (o81 + 1))) (wanted_none _ rfl _) (rv_fieldAddr (off := 1) (ft := 24) Try.underlying26 rfl ti24 rfl e45) rfl) ?_
                refine all_cons (by
                    intro ρ σm m hoff hdep
                    have e46 : look 71 ρ 46 = (pt b80 (o81 + 1)) := hdep 9 rfl rfl 46 rfl
                    replace hc86 := hR63.hmod hx78 hi79 (k := 1) (by decide) hc86 m
                    exact does_v (v := (Sl a82 x77.2.1 c83)) (wanted_none _ rfl _) (rv_load1 Try.underlying24 rfl e46 hc86) rfl) ?_
                refine all_cons (by
                    intro ρ σm m hoff hdep
                    have e8 : look 71 ρ 8 = (I s60.2.2) := look_off (hoff 8 rfl) rfl
                    exact does_v (v := (I s60.2.2)) (wanted_none _ rfl _) (rv_move e8) rfl) ?_
                refine all_cons (by
                    intro ρ σm m hoff hdep
                    have e47 : look 71 ρ 47 = (Sl a82 x77.2.1 c83) := hdep 10 rfl rfl 47 rfl
                    have e48 : look 71 ρ 48 = (I s60.2.2) := hdep 11 rfl rfl 48 rfl
                    exact does_v (v := (pt b90 o91)) (wanted_none _ rfl _) (rv_ix Try.underlying24 ti3 e47 e48 hi89) rfl) ?_
                refine all_cons (by
                    intro ρ σm m hoff hdep
                    have e49 : look 71 ρ 49 = (pt b90 o91) := hdep 12 rfl rfl 49 rfl
                    replace hR84 := hR84.mod m
                    exact does_v (v := (I x87)) (wanted_none _ rfl _) (rv_load1 Try.underlying3 rfl e49 (hR84.at hx88 hi89).int) rfl) ?_
                refine all_cons (by
                    intro ρ σm m hoff hdep
                    have e42 : look 71 ρ 42 = (I x72) := hdep 5 rfl rfl 42 rfl
                    have e50 : look 71 ρ 50 = (I x87) := hdep 13 rfl rfl 50 rfl
                    exact does_v (v := (I (min x72 x87))) (wanted_none _ rfl _) (rv_min e42 e50) rfl) ?_
                exact all_nil
              · intro ρ σ92 m hoff hrel
                have e0 : look 71 ρ 0 = (Sl alist_0 list_0 clist_0) := look_off (hoff 0 rfl) rfl
                have e5 : look 71 ρ 5 = (Sl a64 s60.1 c65) := look_off (hoff 5 rfl) rfl
                have e6 : look 71 ρ 6 = (Sl a67 s60.2.1 c68) := look_off (hoff 6 rfl) rfl
                have e7 : look 71 ρ 7 = (I s47.2.2) := look_off (hoff 7 rfl) rfl
                have e8 : look 71 ρ 8 = (I s60.2.2) := look_off (hoff 8 rfl) rfl
                have e37 : look 71 ρ 37 = (Sl a64 s60.1 c65) := hrel 0 rfl 37 rfl
                have e38 : look 71 ρ 38 = (I s60.2.2) := hrel 1 rfl 38 rfl
                have e51 : look 71 ρ 51 = (I (min x72 x87)) := hrel 14 rfl 51 rfl
                replace hR63 := hR63.mod m
                replace hO66 := hO66.mod0 m
                replace hO69 := hO69.mod0 m
                replace hK := hK.none m
                rw [fr_lookL (L := [(0, (Sl alist_0 list_0 clist_0)), (5, (Sl a64 s60.1 c65)), (6, (Sl a67 s60.2.1 c68)), (7, (I s47.2.2)), (8, (I s60.2.2)), (37, (Sl a64 s60.1 c65)), (38, (I s60.2.2)), (51, (I (min x72 x87)))]) ⟨e0, e5, e6, e7, e8, e37, e38, e51, trivial⟩]
                clear hoff hrel m e0 e5 e6 e7 e8 e37 e38 e51
                obtain ⟨x93, hx94, h'⟩ := bind_some h
                clear h
                have h := h'; clear h'
                obtain ⟨b96, o97, hi95, -⟩ := hO66.ix hx94
                refine st (v := (pt b96 o97)) (rv_ix Try.underlying24 ti3 rfl rfl hi95) ?_
                have hg102 := hO66.ge
                refine st_store_own (e' := (min x72 x87)) (vs := [(I (min x72 x87))]) (k := 0) ti3 hO66 hx94 hi95 rfl rfl rfl rfl rfl (Nat.le_of_ble_eq_true rfl) (by simp [plain]) (by rintro _ rfl; exact rfl) ?_
                intro σ98 m99 hO101 hs100; clear hs100
                replace hR63 := hR63.mod m99
                replace hO69 := hO69.mod' m99 (by first | exact hd70 | exact Df.re hd70)
                replace hK := hK.own m99 hg102
                replace hO101 := Ow.relen hO101 List.length_set.symm
                rw [show (Sl a64 s60.1 c65) = (Sl a64 (s60.1.set s60.2.2.toNat (min x72 x87)) c65) from sl_len List.length_set.symm]
                refine w_end ?_
                refine q_then ?_
                obtain ⟨x103, hx104, h'⟩ := bind_some h
                clear h
                have h := h'; clear h'
                obtain ⟨b106, o107, hi105, -⟩ := hO69.ix hx104
                obtain ⟨x108, hx109, h'⟩ := bind_some h
                clear h
                have h := h'; clear h'
                obtain ⟨b111, o112, hi110, -⟩ := hR63.ix hx109
                obtain ⟨v116, hc117, hR115⟩ := (hR63.at hx109 hi110).snd.fst.slice
                obtain ⟨a113, c114, rfl⟩ := hR115.isSl
                obtain ⟨x118, hx119, h'⟩ := bind_some h
                clear h
                have h := h'; clear h'
                obtain ⟨b121, o122, hi120, -⟩ := hR115.ix hx119
                refine rg_monoL (σ := σ98) 15 [eqv (Sl a67 s60.2.1 c68), eqv (I s60.2.2), eqv (Sl a67 s60.2.1 c68), eqv (I s60.2.2), eqv (pt b106 o107), eqv (I x103), eqv (Sl alist_0 list_0 clist_0), eqv (I s47.2.2), eqv (pt b111 o112), eqv (pt b111 (o112 + 1)), eqv (Sl a113 x108.2.1 c114), eqv (I s60.2.2), eqv (pt b121 o122), eqv (I x118), eqv (I (max x103 x118))] (by kernel_rfl) (by kernel_rfl) (mono_cons mono_eqv (mono_cons mono_eqv (mono_cons mono_eqv (mono_cons mono_eqv (mono_cons mono_eqv (mono_cons mono_eqv (mono_cons mono_eqv (mono_cons mono_eqv (mono_cons mono_eqv (mono_cons mono_eqv (mono_cons mono_eqv (mono_cons mono_eqv (mono_cons mono_eqv (mono_cons mono_eqv (mono_cons mono_eqv (mono_nil)))))))))))))))) ?_ ?_
                · refine all_cons (by
                      intro ρ σm m hoff hdep
                      have e6 : look 71 ρ 6 = (Sl a67 s60.2.1 c68) := look_off (hoff 6 rfl) rfl
                      exact does_v (v := (Sl a67 s60.2.1 c68)) (wanted_none _ rfl _) (rv_move e6) rfl) ?_
                  refine all_cons (by
                      intro ρ σm m hoff hdep
                      have e8 : look 71 ρ 8 = (I s60.2.2) := look_off (hoff 8 rfl) rfl
                      exact does_v (v := (I s60.2.2)) (wanted_none _ rfl _) (rv_move e8) rfl) ?_
                  refine all_cons (by
                      intro ρ σm m hoff hdep
                      have e6 : look 71 ρ 6 = (Sl a67 s60.2.1 c68) := look_off (hoff 6 rfl) rfl
                      exact does_v (v := (Sl a67 s60.2.1 c68)) (wanted_none _ rfl _) (rv_move e6) rfl) ?_
                  refine all_cons (by
                      intro ρ σm m hoff hdep
                      have e8 : look 71 ρ 8 = (I s60.2.2) := look_off (hoff 8 rfl) rfl
                      exact does_v (v := (I s60.2.2)) (wanted_none _ rfl _) (rv_move e8) rfl) ?_
                  refine all_cons (by
                      intro ρ σm m hoff hdep
                      have e55 : look 71 ρ 55 = (Sl a67 s60.2.1 c68) := hdep 2 rfl rfl 55 rfl
                      have e56 : look 71 ρ 56 = (I s60.2.2) := hdep 3 rfl rfl 56 rfl
                      exact does_v (v := (pt b106 o107)) (wanted_none _ rfl _) (rv_ix Try.underlying24 ti3 e55 e56 hi105) rfl) ?_
                  refine all_cons (by
                      intro ρ σm m hoff hdep
                      have e57 : look 71 ρ 57 = (pt b106 o107) := hdep 4 rfl rfl 57 rfl
                      replace hO69 := hO69.mod0 m
                      exact does_v (v := (I x103)) (wanted_none _ rfl _) (rv_load1 Try.underlying3 rfl e57 (hO69.at hx104 hi105).int) rfl) ?_
                  refine all_cons (by
                      intro ρ σm m hoff hdep
                      have e0 : look 71 ρ 0 = (Sl alist_0 list_0 clist_0) := look_off (hoff 0 rfl) rfl
                      exact does_v (v := (Sl alist_0 list_0 clist_0)) (wanted_none _ rfl _) (rv_move e0) rfl) ?_
                  refine all_cons (by
                      intro ρ σm m hoff hdep
                      have e7 : look 71 ρ 7 = (I s47.2.2) := look_off (hoff 7 rfl) rfl
                      exact does_v (v := (I s47.2.2)) (wanted_none _ rfl _) (rv_move e7) rfl) ?_
                  refine all_cons (by
                      intro ρ σm m hoff hdep
                      have e59 : look 71 ρ 59 = (Sl alist_0 list_0 clist_0) := hdep 6 rfl rfl 59 rfl
                      have e60 : look 71 ρ 60 = (I s47.2.2) := hdep 7 rfl rfl 60 rfl
                      exact does_v (v := (pt b111 o112)) (wanted_none _ rfl _) (rv_ix Try.underlying23 ti26 e59 e60 hi110) rfl) ?_
                  refine all_cons (by
                      intro ρ σm m hoff hdep
                      have e61 : look 71 ρ 61 = (pt b111 o112) := hdep 8 rfl rfl 61 rfl
                      exact does_v (v := (pt b111 (o112 + 1))) (wanted_none _ rfl _) (rv_fieldAddr (off := 1) (ft := 24) Try.underlying26 rfl ti24 rfl e61) rfl) ?_
                  refine all_cons (by
                      intro ρ σm m hoff hdep
                      have e62 : look 71 ρ 62 = (pt b111 (o112 + 1)) := hdep 9 rfl rfl 62 rfl
                      replace hc117 := hR63.hmod hx109 hi110 (k := 1) (by decide) hc117 m
                      exact does_v (v := (Sl a113 x108.2.1 c114)) (wanted_none _ rfl _) (rv_load1 Try.underlying24 rfl e62 hc117) rfl) ?_
                  refine all_cons (by
                      intro ρ σm m hoff hdep
                      have e8 : look 71 ρ 8 = (I s60.2.2) := look_off (hoff 8 rfl) rfl
                      exact does_v (v := (I s60.2.2)) (wanted_none _ rfl _) (rv_move e8) rfl) ?_
                  refine all_cons (by
                      intro ρ σm m hoff hdep
                      have e63 : look 71 ρ 63 = (Sl a113 x108.2.1 c114) := hdep 10 rfl rfl 63 rfl
                      have e64 : look 71 ρ 64 = (I s60.2.2) := hdep 11 rfl rfl 64 rfl
                      exact does_v (v := (pt b121 o122)) (wanted_none _ rfl _) (rv_ix Try.underlying24 ti3 e63 e64 hi120) rfl) ?_
                  refine all_cons (by
                      intro ρ σm m hoff hdep
                      have e65 : look 71 ρ 65 = (pt b121 o122) := hdep 12 rfl rfl 65 rfl
                      replace hR115 := hR115.mod m
                      exact does_v (v := (I x118)) (wanted_none _ rfl _) (rv_load1 Try.underlying3 rfl e65 (hR115.at hx119 hi120).int) rfl) ?_
                  refine all_cons (by
                      intro ρ σm m hoff hdep
                      have e58 : look 71 ρ 58 = (I x103) := hdep 5 rfl rfl 58 rfl
                      have e66 : look 71 ρ 66 = (I x118) := hdep 13 rfl rfl 66 rfl
                      exact does_v (v := (I (max x103 x118))) (wanted_none _ rfl _) (rv_max e58 e66) rfl) ?_
                  exact all_nil
                · intro ρ σ123 m hoff hrel
                  have e0 : look 71 ρ 0 = (Sl alist_0 list_0 clist_0) := look_off (hoff 0 rfl) rfl
                  have e5 : look 71 ρ 5 = (Sl a64 (s60.1.set s60.2.2.toNat (min x72 x87)) c65) := look_off (hoff 5 rfl) rfl
                  have e6 : look 71 ρ 6 = (Sl a67 s60.2.1 c68) := look_off (hoff 6 rfl) rfl
                  have e7 : look 71 ρ 7 = (I s47.2.2) := look_off (hoff 7 rfl) rfl
                  have e8 : look 71 ρ 8 = (I s60.2.2) := look_off (hoff 8 rfl) rfl
                  have e53 : look 71 ρ 53 = (Sl a67 s60.2.1 c68) := hrel 0 rfl 53 rfl
                  have e54 : look 71 ρ 54 = (I s60.2.2) := hrel 1 rfl 54 rfl
                  have e67 : look 71 ρ 67 = (I (max x103 x118)) := hrel 14 rfl 67 rfl
                  replace hR63 := hR63.mod m
                  replace hO101 := hO101.mod0 m
                  replace hO69 := hO69.mod0 m
                  replace hK := hK.none m
                  rw [fr_lookL (L := [(0, (Sl alist_0 list_0 clist_0)), (5, (Sl a64 (s60.1.set s60.2.2.toNat (min x72 x87)) c65)), (6, (Sl a67 s60.2.1 c68)), (7, (I s47.2.2)), (8, (I s60.2.2)), (53, (Sl a67 s60.2.1 c68)), (54, (I s60.2.2)), (67, (I (max x103 x118)))]) ⟨e0, e5, e6, e7, e8, e53, e54, e67, trivial⟩]
                  clear hoff hrel m e0 e5 e6 e7 e8 e53 e54 e67
                  obtain ⟨x124, hx125, h'⟩ := bind_some h
                  clear h
                  have h := h'; clear h'
                  obtain ⟨b127, o128, hi126, -⟩ := hO69.ix hx125
                  refine st (v := (pt b127 o128)) (rv_ix Try.underlying24 ti3 rfl rfl hi126) ?_
                  have hg133 := hO69.ge
                  refine st_store_own (e' := (max x103 x118)) (vs := [(I (max x103 x118))]) (k := 0) ti3 hO69 hx125 hi126 rfl rfl rfl rfl rfl (Nat.le_of_ble_eq_true rfl) (by simp [plain]) (by rintro _ rfl; exact rfl) ?_
                  intro σ129 m130 hO132 hs131; clear hs131
                  replace hR63 := hR63.mod m130
                  replace hO101 := hO101.mod' m130 (by first | exact (hd70).symm | exact Df.re (hd70).symm)
                  replace hK := hK.own m130 hg133
                  replace hO132 := Ow.relen hO132 List.length_set.symm
                  rw [show (Sl a67 s60.2.1 c68) = (Sl a67 (s60.2.1.set s60.2.2.toNat (max x103 x118)) c68) from sl_len List.length_set.symm]
                  refine w_end ?_
                  refine q_blk ?_
                  refine q_then ?_
                  refine rg ?_
                  refine st (v := (I s60.2.2)) (rv_move rfl) ?_
                  refine st (v := (I (w64 (s60.2.2 + 1)))) (rv_add (a := s60.2.2) (b := 1) rfl rfl) ?_
                  refine st (v := (I (w64 (s60.2.2 + 1)))) (rv_assign rfl) ?_
                  refine w_end ?_
                  refine q_then ?_
                  obtain rfl := Option.some.inj h
                  exact ⟨_, rfl, _, σ129, a64, c65, a67, c68, fr_join ⟨rfl, rfl, rfl, rfl, rfl, trivial⟩, rfl, hK, hR63, hO101, hO132, (by first | exact hd70 | exact Df.re hd70)⟩
            · replace h := bif_f hb71 h
              refine c_exit ?_
              refine q_then_x ?_
              refine q_then_x ?_
              refine q_blk_hit ?_
              obtain rfl := Option.some.inj h
              obtain rfl := hres _ rfl
              exact ⟨rfl, _, σ62, a64, c65, a67, c68, fr_join ⟨rfl, rfl, rfl, rfl, trivial⟩, rfl, hK, hR63, hO66, hO69, (by first | exact hd70 | exact Df.re hd70)⟩
          · clear hj
            have h := h'
            clear h'
            rintro e a w ⟨rfl, ρ, σ134, a136, c137, a139, c140, rfl, rfl, hK, hR135, hO138, hO141, hd142⟩
            refine q_blk ?_
            refine q_then ?_
            refine rg ?_
            refine st (v := (I s47.2.2)) (rv_move rfl) ?_
            refine st (v := (I (w64 (s47.2.2 + 1)))) (rv_add (a := s47.2.2) (b := 1) rfl rfl) ?_
            refine st (v := (I (w64 (s47.2.2 + 1)))) (rv_assign rfl) ?_
            refine w_end ?_
            refine q_then ?_
            obtain rfl := Option.some.inj h
            exact ⟨_, rfl, _, σ134, a136, c137, a139, c140, fr_join ⟨rfl, rfl, rfl, rfl, trivial⟩, rfl, hK, hR135, hO138, hO141, (by first | exact hd142 | exact Df.re hd142)⟩
        · replace h := bif_f hb58 h
          refine c_exit ?_
          refine q_then_x ?_
          refine q_then_x ?_
          refine q_blk_hit ?_
          obtain rfl := Option.some.inj h
          obtain rfl := hres _ rfl
          exact ⟨rfl, _, σ49, a51, c52, a54, c55, fr_join ⟨rfl, rfl, trivial⟩, rfl, hK, hO53, hO56, (by first | exact hd57 | exact Df.re hd57)⟩
      · clear hj
        have h := h'
        clear h'
        rintro e a w ⟨rfl, ρ, σ143, a144, c145, a147, c148, rfl, rfl, hK, hO146, hO149, hd150⟩
        refine q_then ?_
        refine c_seq ?_
        refine rg ?_
        refine st (v := (Sl a144 o46.1 c145)) (rv_move rfl) ?_
        refine st (v := (Sl a147 o46.2 c148)) (rv_move rfl) ?_
        refine st (v := (Sl a144 o46.1 c145)) (rv_assign rfl) ?_
        refine st (v := (Sl a147 o46.2 c148)) (rv_assign rfl) ?_
        refine st (v := (B true)) (rv_assign rfl) ?_
        refine w_end ?_
        refine q_then ?_
        refine c_ret ?_
        obtain rfl := Option.some.inj h
        exact bodyPost_ret (v := (.tuple #[(Sl a144 o46.1 c145), (Sl a147 o46.2 c148), (B true)])) (results_fr3 Try.results53 rfl rfl rfl _) rfl ⟨_, σ143, rfl, rfl, hK, a144, c145, a147, c148, rfl, hO146, hO149, (by first | exact hd150 | exact Df.re hd150)⟩

end Go.Vs
