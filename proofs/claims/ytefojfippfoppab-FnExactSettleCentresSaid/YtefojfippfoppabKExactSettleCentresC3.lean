/- The functions compute what their models say. -/
import Derived.Test.YtefojfippfoppabKExactSettleCentresC2
set_option linter.unusedVariables false
set_option linter.unusedSimpArgs false
set_option maxRecDepth 20000
namespace Go.Vs
open Go Go.Proofs
attribute [local irreducible] Code.wp Code.wpIn wpList wpListIn wpQuiet Calls CallsIn

theorem c_impl_MoveCentres {centres_0 : List (List Int)} {list_1 : List (Int × (List Int) × Int)} {acentres_0 : Option Addr} {ccentres_0 : Nat} {alist_1 : Option Addr} {clist_1 : Nat} {r : (List (List Int))} (h : M.impl_MoveCentres centres_0 list_1 = some r) :
    Cal2 Try.prog 28 [(Sl acentres_0 centres_0 ccentres_0), (Sl alist_1 list_1 clist_1)] [Ch.ro 0 (Sl acentres_0 centres_0 ccentres_0) centres_0, Ch.ro 0 (Sl alist_1 list_1 clist_1) list_1] (fun n0 v L => ∃ (az1 : Option Addr), ∃ (cz2 : Nat), ∃ (Kz3 : List Ch), v = (Sl az1 r cz2) ∧ L = [Ch.big Kz3] ∧ Dp 0 (Sl az1 r cz2) r Kz3) := by
 refine cal2 (n := 46) Try.func28 rfl rfl rfl rfl ?_
 intro S0 σ0 n0 hn0 H
 unfold M.impl_MoveCentres at h
 refine c_seq ?_
 refine rg ?_
 refine st (v := (.slice none 0 0)) (rv_assign rfl) ?_
 refine w_end ?_
 refine q_then ?_
 refine c_seq ?_
 refine c_seq ?_
 refine rg ?_
 refine st (v := (Sl acentres_0 centres_0 ccentres_0)) (rv_move rfl) ?_
 refine st (v := (Sl alist_1 list_1 clist_1)) (rv_move rfl) ?_
 obtain ⟨r1, hx2, h'⟩ := bind_some h
 clear h
 have h := h'; clear h'
 have hc3 := c_impl_validClusters (acentres_0 := acentres_0) (ccentres_0 := ccentres_0) (alist_1 := alist_1) (clist_1 := clist_1) hx2
 refine st_call (cx_call hc3 (ent_f hc3.fn rfl) hn0 (show Hp S0 σ0 _ ([Ch.ro 0 (Sl acentres_0 centres_0 ccentres_0) centres_0, Ch.ro 0 (Sl alist_1 list_1 clist_1) list_1] ++ [Ch.ro 0 (Sl acentres_0 centres_0 ccentres_0) centres_0, Ch.ro 0 (Sl alist_1 list_1 clist_1) list_1]) from (H.sel' [0, 1, 0, 1] rfl rfl))) wn ?_
 rintro _ σ4 ⟨_, ⟨rfl, rfl⟩, H, -⟩
 replace H : Hp S0 σ0 σ4 [Ch.ro 0 (Sl acentres_0 centres_0 ccentres_0) centres_0, Ch.ro 0 (Sl alist_1 list_1 clist_1) list_1] := H
 refine st (v := (B (!r1))) (rv_not rfl) ?_
 refine w_end ?_
 refine q_then ?_
 refine cd_cond (!r1) rfl (fun hb5 => ?_) (fun hb5 => ?_)
 ·replace h := bif_t hb5 h
  refine c_seq ?_
  refine rg ?_
  refine st (v := (.slice none 0 0)) (rv_assign rfl) ?_
  refine w_end ?_
  refine q_then ?_
  refine c_ret ?_
  refine q_then_r ?_
  obtain ⟨K6, hK7, H⟩ := H.nilDp (List Int) 0
  obtain rfl := Option.some.inj h
  exact fin_ret (v := (.slice none 0 0)) (results_ok Try.results28 (res_tmp (v := (.slice none 0 0)) rfl res_nil) rfl) ⟨none, 0, K6, rfl, rfl, hK7⟩ (H.sel' [0] rfl rfl)
 ·replace h := bif_f hb5 h
  refine c_skip ?_
  refine q_then ?_
  refine c_seq ?_
  refine rg ?_
  refine st (v := (Sl acentres_0 centres_0 ccentres_0)) (rv_move rfl) ?_
  refine st (v := (Sl alist_1 list_1 clist_1)) (rv_move rfl) ?_
  obtain ⟨r8, hx9, h'⟩ := bind_some h
  clear h
  have h := h'; clear h'
  have hc10 := c_impl_itemsByCentre (acentres_0 := acentres_0) (ccentres_0 := ccentres_0) (alist_1 := alist_1) (clist_1 := clist_1) hx9
  refine st_call (cx_call hc10 (ent_f hc10.fn rfl) hn0 (show Hp S0 σ0 _ ([Ch.ro 0 (Sl acentres_0 centres_0 ccentres_0) centres_0, Ch.ro 0 (Sl alist_1 list_1 clist_1) list_1] ++ [Ch.ro 0 (Sl acentres_0 centres_0 ccentres_0) centres_0, Ch.ro 0 (Sl alist_1 list_1 clist_1) list_1]) from (H.sel' [0, 1, 0, 1] rfl rfl))) wn ?_
  rintro _ σ14 ⟨_, ⟨b11, K12, rfl, rfl, hK13⟩, H, -⟩
  replace H : Hp S0 σ0 σ14 [Ch.big K12, Ch.ro 0 (Sl acentres_0 centres_0 ccentres_0) centres_0, Ch.ro 0 (Sl alist_1 list_1 clist_1) list_1] := H
  refine st (v := (.map (some b11))) (rv_assign rfl) ?_
  refine w_end ?_
  refine q_then ?_
  refine c_seq ?_
  refine rg ?_
  refine st (v := (Sl acentres_0 centres_0 ccentres_0)) (rv_move rfl) ?_
  refine st (v := (I (centres_0.length : Int))) (rv_len Try.underlying22 rfl) ?_
  obtain ⟨xs15, hx16, h'⟩ := bind_some h
  clear h
  have h := h'; clear h'
  obtain ⟨k21, he22, hv23⟩ := gmake_dp (zv := (.slice none 0 0 : Value)) hx16
  refine st_ex (ex_make (el := n0) (z0 := (.slice none 0 0 : Value)) (zs := [(.slice none 0 0)]) H hn0 Try.underlying22 ti37 rfl rfl (⟨rfl, rfl⟩) (by decide) hv23 rfl rfl) wn ?_
  rintro _ σ27 ⟨b17, c18, rfl, ht19, H, -⟩
  have hs26 : (Sl (some ⟨b17, 0, none⟩) (List.replicate k21 (.slice none 0 0 : Value)) c18) = (Sl (some ⟨b17, 0, none⟩) xs15 c18) := sl_len (by rw [he22]; simp)
  rw [hs26] at H ⊢
  obtain ⟨K24, hK25, H⟩ := H.dpMake (z := ([] : List Int)) rfl rfl
  rw [← he22] at hK25; clear he22 hv23 hs26 ht19
  refine st (v := (Sl (some ⟨b17, 0, none⟩) xs15 c18)) (rv_assign rfl) ?_
  refine w_end ?_
  refine q_then ?_
  refine c_seq ?_
  refine c_seq ?_
  refine rg ?_
  refine st (v := (Sl acentres_0 centres_0 ccentres_0)) (rv_move rfl) ?_
  refine st (v := (I (centres_0.length : Int))) (rv_len Try.underlying22 rfl) ?_
  refine st (v := (I 0)) (rv_move rfl) ?_
  refine w_end ?_
  refine q_then ?_
  obtain ⟨o28, hj, h'⟩ := bind_some h
  clear h
  refine c_cut (fun e a w => e = .normal ∧ ∃ (ρ : Nat → Value) (σ : St) (Kj1 : List Ch), a = fr 46 (updL ρ [(6, (Sl (some ⟨b17, 0, none⟩) o28 c18))]) ∧ w = σ.w ∧ Hp S0 σ0 σ [Ch.big Kj1] ∧ Dp n0 (Sl (some ⟨b17, 0, none⟩) o28 c18) o28 Kj1 ∧ o28.length = xs15.length) ?_ ?_
  ·clear h'
   rename _ = some o28 => h
   refine c_blk ?_
   obtain ⟨σ30, hw31, H, -⟩ := H.mpPub 1 rfl hK13
   rw [← hw31]; clear hw31
   refine wp_loopM _ h (fun s29 a w => ∃ (ρ : Nat → Value) (σ : St) (Kj1 : List Ch), a = fr 46 (updL ρ [(5, (.map (some b11))), (6, (Sl (some ⟨b17, 0, none⟩) s29.1 c18)), (19, (Sl acentres_0 centres_0 ccentres_0)), (20, (I (centres_0.length : Int))), (21, (I s29.2))]) ∧ w = σ.w ∧ Hp S0 σ0 σ [Ch.mr b11 r8, Ch.big Kj1, Ch.ro 0 (Sl acentres_0 centres_0 ccentres_0) centres_0] ∧ Dp n0 (Sl (some ⟨b17, 0, none⟩) s29.1 c18) s29.1 Kj1 ∧ s29.1.length = xs15.length) ⟨_, σ30, K24, fr_join ⟨rfl, rfl, rfl, rfl, rfl, trivial⟩, rfl, H.sel' [0, 1, 2] rfl rfl, hK25, rfl⟩ ?_
   clear h H
   rintro s29 a w o ⟨ρ, σ32, K33, rfl, rfl, H, hK34, hn35⟩ h hres
   refine c_seq ?_
   refine rg ?_
   refine st (v := (B (decide (s29.2 < (centres_0.length : Int))))) (rv_lss (a := s29.2) (b := (centres_0.length : Int)) rfl rfl) ?_
   refine w_end ?_
   refine q_then ?_
   refine c_seq ?_
   refine cd_cond (decide (s29.2 < (centres_0.length : Int))) rfl (fun hb36 => ?_) (fun hb36 => ?_)
   ·replace h := bif_t hb36 h
    refine c_skip ?_
    refine q_then ?_
    refine c_seq ?_
    obtain ⟨o37, hj, h'⟩ := bind_some h
    clear h
    refine c_cut (fun e a w => e = .normal ∧ ∃ (ρ : Nat → Value) (σ : St) (Kj1 : List Ch), a = fr 46 (updL ρ [(5, (.map (some b11))), (6, (Sl (some ⟨b17, 0, none⟩) o37 c18)), (19, (Sl acentres_0 centres_0 ccentres_0)), (20, (I (centres_0.length : Int))), (21, (I s29.2))]) ∧ w = σ.w ∧ Hp S0 σ0 σ [Ch.mr b11 r8, Ch.big Kj1, Ch.ro 0 (Sl acentres_0 centres_0 ccentres_0) centres_0] ∧ Dp n0 (Sl (some ⟨b17, 0, none⟩) o37 c18) o37 Kj1 ∧ o37.length = s29.1.length) ?_ ?_
    ·clear h'
     rename _ = some o37 => h
     refine c_blk ?_
     refine c_seq ?_
     refine rg ?_
     refine st (v := (I s29.2)) (rv_move rfl) ?_
     obtain ⟨x38, hx39, h'⟩ := bind_some h
     clear h
     have h := h'; clear h'
     obtain ⟨b41, o42, hi40, -⟩ := (H.ro 2 rfl).ix hx39
     refine st (v := (pt b41 o42)) (rv_ix Try.underlying22 ti37 rfl rfl hi40) ?_
     obtain ⟨v46, hc47, hR45⟩ := ((H.ro 2 rfl).at hx39 hi40).slice
     obtain ⟨a43, c44, rfl⟩ := hR45.isSl
     replace H := H.add (d := Ch.ro 0 (Sl a43 x38 c44) x38) hR45 (fun _ h => h)
     clear hR45
     refine st (v := (Sl a43 x38 c44)) (rv_load1 Try.underlying37 rfl rfl hc47) ?_
     refine st (v := (I s29.2)) (rv_assign rfl) ?_
     refine st (v := (Sl a43 x38 c44)) (rv_assign rfl) ?_
     refine w_end ?_
     refine q_then ?_
     refine c_seq ?_
     refine rg ?_
     refine st (v := (.map (some b11))) (rv_move rfl) ?_
     refine st (v := (I s29.2)) (rv_move rfl) ?_
     obtain ⟨v51, hL50, hR52⟩ := mrGet (H.mr 1 rfl) s29.2
     obtain ⟨a48, c49, rfl⟩ := hR52.isSl
     replace H := H.add (d := Ch.ro 0 (Sl a48 (mget r8 s29.2) c49) (mget r8 s29.2)) hR52 (fun _ h => h)
     clear hR52
     refine st (v := (Sl a48 (mget r8 s29.2) c49)) (rv_lookup Try.underlying51 Try.underlying3 ti29 rfl rfl hL50) ?_
     refine st (v := (I ((mget r8 s29.2).length : Int))) (rv_len Try.underlying29 rfl) ?_
     refine st (v := (B (((mget r8 s29.2).length : Int) == 0))) (rv_eql (a := ((mget r8 s29.2).length : Int)) (b := 0) rfl rfl) ?_
     refine w_end ?_
     refine q_then ?_
     refine cd_cond (((mget r8 s29.2).length : Int) == 0) rfl (fun hb53 => ?_) (fun hb53 => ?_)
     ·replace h := bif_t hb53 h
      refine rg ?_
      refine st (v := (Sl (some ⟨b17, 0, none⟩) s29.1 c18)) (rv_move rfl) ?_
      refine st (v := (I s29.2)) (rv_move rfl) ?_
      refine st (v := (Sl a43 x38 c44)) (rv_move rfl) ?_
      obtain ⟨r54, hx55, h'⟩ := bind_some h
      clear h
      have h := h'; clear h'
      have hc56 := c_slices_Clone_int_int (as_0 := a43) (cs_0 := c44) hx55
      refine st_call (cx_call hc56 (ent_f hc56.fn rfl) hn0 (show Hp S0 σ0 _ ([Ch.ro 0 (Sl a43 x38 c44) x38] ++ [Ch.ro 0 (Sl a48 (mget r8 s29.2) c49) (mget r8 s29.2), Ch.ro 0 (Sl a43 x38 c44) x38, Ch.mr b11 r8, Ch.big K33, Ch.ro 0 (Sl acentres_0 centres_0 ccentres_0) centres_0]) from (H.sel' [1, 0, 1, 2, 3, 4] rfl rfl))) wn ?_
      rintro _ σ59 ⟨_, ⟨a57, c58, rfl, rfl⟩, H, -⟩
      replace H : Hp S0 σ0 σ59 [Ch.own n0 n0 (Sl a57 r54 c58) r54, Ch.ro 0 (Sl a48 (mget r8 s29.2) c49) (mget r8 s29.2), Ch.ro 0 (Sl a43 x38 c44) x38, Ch.mr b11 r8, Ch.big K33, Ch.ro 0 (Sl acentres_0 centres_0 ccentres_0) centres_0] := H
      obtain ⟨x60, hx61, h'⟩ := bind_some h
      clear h
      have h := h'; clear h'
      obtain ⟨b63, o64, hi62⟩ := H.dpIx 4 rfl hK34 hx61
      refine st (v := (pt b63 o64)) (rv_ix Try.underlying22 ti37 rfl rfl hi62) ?_
      obtain ⟨v65, K66, H, hK67⟩ := H.dpOut 4 rfl hK34 hx61
      replace H := H.tail
      replace H := H.sel' [0, 1, 2, 3, 4, 5] rfl rfl
      obtain ⟨K68, hK69, he70⟩ := hK67.put (r54 : List Int) (Sl a57 r54 c58)
      refine st_exS (he70 (ty := _) (k := 0) (vs := [(Sl a57 r54 c58)]) H ti37 hi62 rfl rfl rfl rfl rfl (Nat.le_of_ble_eq_true rfl) (by simp [plain]) (by rintro _ _ ⟨rfl, _⟩; exact ⟨rfl, rfl⟩)) wn ?_
      rintro σ71 ⟨H, -⟩
      have hsl : (Sl (some ⟨b17, 0, none⟩) s29.1 c18) = (Sl (some ⟨b17, 0, none⟩) (s29.1.set s29.2.toNat r54) c18) := sl_len List.length_set.symm
      rw [hsl]; rw [hsl] at hK69; clear hsl
      refine w_end ?_
      refine q_blk ?_
      obtain rfl := Option.some.inj h
      exact ⟨rfl, _, σ71, K68, fr_join ⟨rfl, rfl, rfl, rfl, rfl, trivial⟩, rfl, H.sel' [3, 0, 4] rfl rfl, hK69, ((List.length_set.trans hn35).trans hn35.symm)⟩
     ·replace h := bif_f hb53 h
      refine rg ?_
      refine st (v := (Sl (some ⟨b17, 0, none⟩) s29.1 c18)) (rv_move rfl) ?_
      refine st (v := (I s29.2)) (rv_move rfl) ?_
      refine st (v := (.map (some b11))) (rv_move rfl) ?_
      refine st (v := (I s29.2)) (rv_move rfl) ?_
      obtain ⟨v75, hL74, hR76⟩ := mrGet (H.mr 2 rfl) s29.2
      obtain ⟨a72, c73, rfl⟩ := hR76.isSl
      replace H := H.add (d := Ch.ro 0 (Sl a72 (mget r8 s29.2) c73) (mget r8 s29.2)) hR76 (fun _ h => h)
      clear hR76
      refine st (v := (Sl a72 (mget r8 s29.2) c73)) (rv_lookup Try.underlying51 Try.underlying3 ti29 rfl rfl hL74) ?_
      obtain ⟨r77, hx78, h'⟩ := bind_some h
      clear h
      have h := h'; clear h'
      have hc79 := c_impl_vectorsOf (alist_0 := a72) (clist_0 := c73) hx78
      refine st_call (cx_call hc79 (ent_f hc79.fn rfl) hn0 (show Hp S0 σ0 _ ([Ch.ro 0 (Sl a72 (mget r8 s29.2) c73) (mget r8 s29.2)] ++ [Ch.ro 0 (Sl a72 (mget r8 s29.2) c73) (mget r8 s29.2), Ch.ro 0 (Sl a48 (mget r8 s29.2) c49) (mget r8 s29.2), Ch.ro 0 (Sl a43 x38 c44) x38, Ch.mr b11 r8, Ch.big K33, Ch.ro 0 (Sl acentres_0 centres_0 ccentres_0) centres_0]) from (H.sel' [0, 0, 1, 2, 3, 4, 5] rfl rfl))) wn ?_
      rintro _ σ83 ⟨_, ⟨a80, c81, rfl, rfl, ht82⟩, H, -⟩
      replace H : Hp S0 σ0 σ83 [Ch.own n0 0 (Sl a80 r77 c81) r77, Ch.ro 0 (Sl a72 (mget r8 s29.2) c73) (mget r8 s29.2), Ch.ro 0 (Sl a48 (mget r8 s29.2) c49) (mget r8 s29.2), Ch.ro 0 (Sl a43 x38 c44) x38, Ch.mr b11 r8, Ch.big K33, Ch.ro 0 (Sl acentres_0 centres_0 ccentres_0) centres_0] := H
      obtain ⟨σ84, hw85, H, -⟩ := H.pub 0 rfl (Nat.zero_le _)
      rw [← hw85]; clear hw85
      obtain ⟨r86, hx87, h'⟩ := bind_some h
      clear h
      have h := h'; clear h'
      have hc88 := c_impl_MeanOf (alist_0 := a80) (clist_0 := c81) hx87
      refine st_call (cx_call hc88 (ent_f hc88.fn rfl) hn0 (show Hp S0 σ0 _ ([Ch.ro 0 (Sl a80 r77 c81) r77] ++ [Ch.ro 0 (Sl a80 r77 c81) r77, Ch.ro 0 (Sl a72 (mget r8 s29.2) c73) (mget r8 s29.2), Ch.ro 0 (Sl a48 (mget r8 s29.2) c49) (mget r8 s29.2), Ch.ro 0 (Sl a43 x38 c44) x38, Ch.mr b11 r8, Ch.big K33, Ch.ro 0 (Sl acentres_0 centres_0 ccentres_0) centres_0]) from (H.sel' [0, 0, 1, 2, 3, 4, 5, 6] rfl rfl))) wn ?_
      rintro _ σ91 ⟨_, ⟨a89, c90, rfl, rfl⟩, H, -⟩
      replace H : Hp S0 σ0 σ91 [Ch.own n0 n0 (Sl a89 r86 c90) r86, Ch.ro 0 (Sl a80 r77 c81) r77, Ch.ro 0 (Sl a72 (mget r8 s29.2) c73) (mget r8 s29.2), Ch.ro 0 (Sl a48 (mget r8 s29.2) c49) (mget r8 s29.2), Ch.ro 0 (Sl a43 x38 c44) x38, Ch.mr b11 r8, Ch.big K33, Ch.ro 0 (Sl acentres_0 centres_0 ccentres_0) centres_0] := H
      replace H : Hp S0 σ0 σ91 [Ch.own n0 n0 (Sl a89 r86 c90) r86, Ch.mr b11 r8, Ch.big K33, Ch.ro 0 (Sl acentres_0 centres_0 ccentres_0) centres_0] := H.sel' [0, 5, 6, 7] rfl rfl
      obtain ⟨x92, hx93, h'⟩ := bind_some h
      clear h
      have h := h'; clear h'
      obtain ⟨b95, o96, hi94⟩ := H.dpIx 2 rfl hK34 hx93
      refine st (v := (pt b95 o96)) (rv_ix Try.underlying22 ti37 rfl rfl hi94) ?_
      obtain ⟨v97, K98, H, hK99⟩ := H.dpOut 2 rfl hK34 hx93
      replace H := H.tail
      replace H := H.sel' [0, 1, 2, 3] rfl rfl
      obtain ⟨K100, hK101, he102⟩ := hK99.put (r86 : List Int) (Sl a89 r86 c90)
      refine st_exS (he102 (ty := _) (k := 0) (vs := [(Sl a89 r86 c90)]) H ti37 hi94 rfl rfl rfl rfl rfl (Nat.le_of_ble_eq_true rfl) (by simp [plain]) (by rintro _ _ ⟨rfl, _⟩; exact ⟨rfl, rfl⟩)) wn ?_
      rintro σ103 ⟨H, -⟩
      have hsl : (Sl (some ⟨b17, 0, none⟩) s29.1 c18) = (Sl (some ⟨b17, 0, none⟩) (s29.1.set s29.2.toNat r86) c18) := sl_len List.length_set.symm
      rw [hsl]; rw [hsl] at hK101; clear hsl
      refine w_end ?_
      refine q_blk ?_
      obtain rfl := Option.some.inj h
      exact ⟨rfl, _, σ103, K100, fr_join ⟨rfl, rfl, rfl, rfl, rfl, trivial⟩, rfl, H.sel' [1, 0, 2] rfl rfl, hK101, ((List.length_set.trans hn35).trans hn35.symm)⟩
    ·clear hj
     have h := h'
     clear h' H
     rintro e a w ⟨rfl, ρ, σ104, K105, rfl, rfl, H, hK106, hn107⟩
     refine q_then ?_
     refine rg ?_
     refine st (v := (I (w64 (s29.2 + 1)))) (rv_add (a := s29.2) (b := 1) rfl rfl) ?_
     refine st (v := (I (w64 (s29.2 + 1)))) (rv_move rfl) ?_
     refine w_end ?_
     refine q_then ?_
     obtain rfl := Option.some.inj h
     exact ⟨_, rfl, _, σ104, K105, fr_join ⟨rfl, rfl, rfl, rfl, rfl, trivial⟩, rfl, H.sel' [0, 1, 2] rfl rfl, hK106, (hn107.trans hn35)⟩
   ·replace h := bif_f hb36 h
    refine c_exit ?_
    refine q_then_x ?_
    refine q_then_x ?_
    refine q_blk_hit ?_
    obtain rfl := Option.some.inj h
    obtain rfl := hres _ rfl
    exact ⟨rfl, _, σ32, K33, fr_join ⟨rfl, trivial⟩, rfl, H.sel' [1] rfl rfl, hK34, hn35⟩
  ·clear hj
   have h := h'
   clear h' H
   rintro e a w ⟨rfl, ρ, σ108, K109, rfl, rfl, H, hK110, hn111⟩
   refine q_then ?_
   refine c_seq ?_
   refine rg ?_
   refine st (v := (Sl (some ⟨b17, 0, none⟩) o28 c18)) (rv_move rfl) ?_
   refine st (v := (Sl (some ⟨b17, 0, none⟩) o28 c18)) (rv_assign rfl) ?_
   refine w_end ?_
   refine q_then ?_
   refine c_ret ?_
   obtain ⟨K112, hK113, H⟩ := H.dpLow (lo' := 0) 0 rfl hK110 (Nat.zero_le _)
   obtain rfl := Option.some.inj h
   exact fin_ret (v := (Sl (some ⟨b17, 0, none⟩) o28 c18)) (results_ok Try.results28 (res_tmp (v := (Sl (some ⟨b17, 0, none⟩) o28 c18)) rfl res_nil) rfl) ⟨(some ⟨b17, 0, none⟩), c18, K112, rfl, rfl, hK113⟩ (H.sel' [0] rfl rfl)

theorem c_slices_Equal_int_int {s1_0 : List Int} {s2_1 : List Int} {as1_0 : Option Addr} {cs1_0 : Nat} {as2_1 : Option Addr} {cs2_1 : Nat} {r : Bool} (h : M.slices_Equal_int_int s1_0 s2_1 = some r) :
    Cal2 Try.prog 30 [(Sl as1_0 s1_0 cs1_0), (Sl as2_1 s2_1 cs2_1)] [Ch.ro 0 (Sl as1_0 s1_0 cs1_0) s1_0, Ch.ro 0 (Sl as2_1 s2_1 cs2_1) s2_1] (fun n0 v L => v = (B r) ∧ L = []) := by
 refine cal2 (n := 26) Try.func30 rfl rfl rfl rfl ?_
 intro S0 σ0 n0 hn0 H
 unfold M.slices_Equal_int_int at h
 refine c_seq ?_
 refine rg ?_
 refine st (v := (B false)) (rv_assign rfl) ?_
 refine w_end ?_
 refine q_then ?_
 refine c_seq ?_
 refine c_seq ?_
 refine rg ?_
 refine st (v := (Sl as1_0 s1_0 cs1_0)) (rv_move rfl) ?_
 refine st (v := (I (s1_0.length : Int))) (rv_len Try.underlying37 rfl) ?_
 refine st (v := (Sl as2_1 s2_1 cs2_1)) (rv_move rfl) ?_
 refine st (v := (I (s2_1.length : Int))) (rv_len Try.underlying37 rfl) ?_
 refine st (v := (B ((s1_0.length : Int) != (s2_1.length : Int)))) (rv_neq (a := (s1_0.length : Int)) (b := (s2_1.length : Int)) rfl rfl) ?_
 refine w_end ?_
 refine q_then ?_
 refine cd_cond ((s1_0.length : Int) != (s2_1.length : Int)) rfl (fun hb1 => ?_) (fun hb1 => ?_)
 ·replace h := bif_t hb1 h
  refine c_seq ?_
  refine rg ?_
  refine st (v := (B false)) (rv_assign rfl) ?_
  refine w_end ?_
  refine q_then ?_
  refine c_ret ?_
  refine q_then_r ?_
  obtain rfl := Option.some.inj h
  exact fin_ret (v := (B false)) (results_ok Try.results30 (res_tmp (v := (B false)) rfl res_nil) rfl) ⟨rfl, rfl⟩ (H.sel' [] rfl rfl)
 ·replace h := bif_f hb1 h
  refine c_skip ?_
  refine q_then ?_
  refine c_seq ?_
  refine c_seq ?_
  refine rg ?_
  refine st (v := (Sl as1_0 s1_0 cs1_0)) (rv_move rfl) ?_
  refine st (v := (I (s1_0.length : Int))) (rv_len Try.underlying37 rfl) ?_
  refine st (v := (I 0)) (rv_move rfl) ?_
  refine w_end ?_
  refine q_then ?_
  obtain ⟨o2, hj, h'⟩ := bind_some h
  clear h
  refine c_cut (fun e a w => (∃ t, o2 = (.inl t) ∧ e = .normal ∧ ∃ (ρ : Nat → Value) (σ : St), a = fr 26 (updL ρ []) ∧ w = σ.w ∧ Hp S0 σ0 σ []) ∨ (∃ t, o2 = (.inr t) ∧ e = .ret ∧ ∃ (ρ : Nat → Value) (σ : St), a = fr 26 (updL ρ [(4, (B t))]) ∧ w = σ.w ∧ Hp S0 σ0 σ [])) ?_ ?_
  ·clear h'
   rename _ = some o2 => h
   refine c_blk ?_
   refine wp_loopM _ h (fun s3 a w => ∃ (ρ : Nat → Value) (σ : St), a = fr 26 (updL ρ [(0, (Sl as1_0 s1_0 cs1_0)), (1, (Sl as2_1 s2_1 cs2_1)), (12, (I (s1_0.length : Int))), (13, (I s3))]) ∧ w = σ.w ∧ Hp S0 σ0 σ [Ch.ro 0 (Sl as1_0 s1_0 cs1_0) s1_0, Ch.ro 0 (Sl as2_1 s2_1 cs2_1) s2_1]) ⟨_, σ0, fr_join ⟨rfl, rfl, rfl, rfl, trivial⟩, rfl, H.sel' [0, 1] rfl rfl⟩ ?_
   clear h H
   rintro s3 a w o ⟨ρ, σ4, rfl, rfl, H⟩ h hres
   refine c_seq ?_
   refine rg ?_
   refine st (v := (B (decide (s3 < (s1_0.length : Int))))) (rv_lss (a := s3) (b := (s1_0.length : Int)) rfl rfl) ?_
   refine w_end ?_
   refine q_then ?_
   refine c_seq ?_
   refine cd_cond (decide (s3 < (s1_0.length : Int))) rfl (fun hb5 => ?_) (fun hb5 => ?_)
   ·replace h := bif_t hb5 h
    refine c_skip ?_
    refine q_then ?_
    refine c_seq ?_
    refine c_blk ?_
    refine c_seq ?_
    refine rg ?_
    refine st (v := (I s3)) (rv_move rfl) ?_
    refine st (v := (I s3)) (rv_assign rfl) ?_
    refine w_end ?_
    refine q_then ?_
    refine c_seq ?_
    refine rgP (σ := σ4) 8 (by kernel_rfl) (by kernel_rfl) (by kernel_rfl) ?_
    refine sq (v := (Sl as1_0 s1_0 cs1_0)) (rv_move rfl) ?_
    refine sq (v := (I s3)) (rv_move rfl) ?_
    obtain ⟨x6, hx7, h'⟩ := bind_some h
    clear h
    have h := h'; clear h'
    obtain ⟨b9, o10, hi8, -⟩ := (H.ro 0 rfl).ix hx7
    refine sq (v := (pt b9 o10)) (rv_ix Try.underlying37 ti3 rfl rfl hi8) ?_
    have hc11 := ((H.ro 0 rfl).at hx7 hi8).int
    refine sq (v := (I x6)) (rv_load1 Try.underlying3 rfl rfl hc11) ?_
    refine sq (v := (Sl as2_1 s2_1 cs2_1)) (rv_move rfl) ?_
    refine sq (v := (I s3)) (rv_move rfl) ?_
    obtain ⟨x12, hx13, h'⟩ := bind_some h
    clear h
    have h := h'; clear h'
    obtain ⟨b15, o16, hi14, -⟩ := (H.ro 1 rfl).ix hx13
    refine sq (v := (pt b15 o16)) (rv_ix Try.underlying37 ti3 rfl rfl hi14) ?_
    have hc17 := ((H.ro 1 rfl).at hx13 hi14).int
    refine sq (v := (I x12)) (rv_load1 Try.underlying3 rfl rfl hc17) ?_
    refine sq_end ?_
    intro σ18 hm19
    replace H := H.grow (hm19.mono fun _ h => h); clear hm19
    refine st (v := (B (x6 != x12))) (rv_neq (a := x6) (b := x12) rfl rfl) ?_
    refine w_end ?_
    refine q_then ?_
    refine cd_cond (x6 != x12) rfl (fun hb20 => ?_) (fun hb20 => ?_)
    ·replace h := bif_t hb20 h
     refine c_seq ?_
     refine rg ?_
     refine st (v := (B false)) (rv_assign rfl) ?_
     refine w_end ?_
     refine q_then ?_
     refine c_ret ?_
     refine q_blk_r ?_
     refine q_then_r ?_
     refine q_then_r ?_
     refine q_blk_r ?_
     obtain rfl := Option.some.inj h
     obtain rfl := hres _ rfl
     exact .inr (⟨_, rfl, rfl, _, σ18, fr_join ⟨rfl, trivial⟩, rfl, H.sel' [] rfl rfl⟩)
    ·replace h := bif_f hb20 h
     refine c_skip ?_
     refine q_blk ?_
     refine q_then ?_
     refine rg ?_
     refine st (v := (I (w64 (s3 + 1)))) (rv_add (a := s3) (b := 1) rfl rfl) ?_
     refine st (v := (I (w64 (s3 + 1)))) (rv_move rfl) ?_
     refine w_end ?_
     refine q_then ?_
     obtain rfl := Option.some.inj h
     exact ⟨_, rfl, _, σ18, fr_join ⟨rfl, rfl, rfl, rfl, trivial⟩, rfl, H.sel' [0, 1] rfl rfl⟩
   ·replace h := bif_f hb5 h
    refine c_exit ?_
    refine q_then_x ?_
    refine q_then_x ?_
    refine q_blk_hit ?_
    obtain rfl := Option.some.inj h
    obtain rfl := hres _ rfl
    exact .inl ⟨_, rfl, rfl, _, σ4, fr_join trivial, rfl, H.sel' [] rfl rfl⟩
  ·clear hj
   have h := h'
   clear h' H
   rintro e a w (⟨t21, rfl, rfl, ρ, σ22, rfl, rfl, H⟩ | ⟨t23, rfl, rfl, ρ, σ24, rfl, rfl, H⟩)
   ·replace h := selim_l h
    refine q_then ?_
    refine c_seq ?_
    refine rg ?_
    refine st (v := (B true)) (rv_assign rfl) ?_
    refine w_end ?_
    refine q_then ?_
    refine c_ret ?_
    obtain rfl := Option.some.inj h
    exact fin_ret (v := (B true)) (results_ok Try.results30 (res_tmp (v := (B true)) rfl res_nil) rfl) ⟨rfl, rfl⟩ (H.sel' [] rfl rfl)
   ·replace h := selim_r h
    refine q_then_r ?_
    obtain rfl := Option.some.inj h
    exact fin_ret (v := (B t23)) (results_ok Try.results30 (res_tmp (v := (B t23)) rfl res_nil) rfl) ⟨rfl, rfl⟩ (H.sel' [] rfl rfl)

theorem c_slices_EqualFunc_int_int_int_int__slices_Equal_int_int {s1_0 : List (List Int)} {s2_1 : List (List Int)} {as1_0 : Option Addr} {cs1_0 : Nat} {as2_1 : Option Addr} {cs2_1 : Nat} {r : Bool} (h : M.slices_EqualFunc_int_int_int_int__slices_Equal_int_int s1_0 s2_1 = some r) :
    Cal2 Try.prog 29 [(Sl as1_0 s1_0 cs1_0), (Sl as2_1 s2_1 cs2_1), (.func (.func 30) #[] #[])] [Ch.ro 0 (Sl as1_0 s1_0 cs1_0) s1_0, Ch.ro 0 (Sl as2_1 s2_1 cs2_1) s2_1] (fun n0 v L => v = (B r) ∧ L = []) := by
 refine cal2 (n := 32) Try.func29 rfl rfl rfl rfl ?_
 intro S0 σ0 n0 hn0 H
 unfold M.slices_EqualFunc_int_int_int_int__slices_Equal_int_int at h
 refine c_seq ?_
 refine rg ?_
 refine st (v := (B false)) (rv_assign rfl) ?_
 refine w_end ?_
 refine q_then ?_
 refine c_seq ?_
 refine c_seq ?_
 refine rg ?_
 refine st (v := (Sl as1_0 s1_0 cs1_0)) (rv_move rfl) ?_
 refine st (v := (I (s1_0.length : Int))) (rv_len Try.underlying22 rfl) ?_
 refine st (v := (Sl as2_1 s2_1 cs2_1)) (rv_move rfl) ?_
 refine st (v := (I (s2_1.length : Int))) (rv_len Try.underlying22 rfl) ?_
 refine st (v := (B ((s1_0.length : Int) != (s2_1.length : Int)))) (rv_neq (a := (s1_0.length : Int)) (b := (s2_1.length : Int)) rfl rfl) ?_
 refine w_end ?_
 refine q_then ?_
 refine cd_cond ((s1_0.length : Int) != (s2_1.length : Int)) rfl (fun hb1 => ?_) (fun hb1 => ?_)
 ·replace h := bif_t hb1 h
  refine c_seq ?_
  refine rg ?_
  refine st (v := (B false)) (rv_assign rfl) ?_
  refine w_end ?_
  refine q_then ?_
  refine c_ret ?_
  refine q_then_r ?_
  obtain rfl := Option.some.inj h
  exact fin_ret (v := (B false)) (results_ok Try.results29 (res_tmp (v := (B false)) rfl res_nil) rfl) ⟨rfl, rfl⟩ (H.sel' [] rfl rfl)
 ·replace h := bif_f hb1 h
  refine c_skip ?_
  refine q_then ?_
  refine c_seq ?_
  refine c_seq ?_
  refine rg ?_
  refine st (v := (Sl as1_0 s1_0 cs1_0)) (rv_move rfl) ?_
  refine st (v := (I (s1_0.length : Int))) (rv_len Try.underlying22 rfl) ?_
  refine st (v := (I 0)) (rv_move rfl) ?_
  refine w_end ?_
  refine q_then ?_
  obtain ⟨o2, hj, h'⟩ := bind_some h
  clear h
  refine c_cut (fun e a w => (∃ t, o2 = (.inl t) ∧ e = .normal ∧ ∃ (ρ : Nat → Value) (σ : St), a = fr 32 (updL ρ []) ∧ w = σ.w ∧ Hp S0 σ0 σ []) ∨ (∃ t, o2 = (.inr t) ∧ e = .ret ∧ ∃ (ρ : Nat → Value) (σ : St), a = fr 32 (updL ρ [(6, (B t))]) ∧ w = σ.w ∧ Hp S0 σ0 σ [])) ?_ ?_
  ·clear h'
   rename _ = some o2 => h
   refine c_blk ?_
   refine wp_loopM _ h (fun s3 a w => ∃ (ρ : Nat → Value) (σ : St), a = fr 32 (updL ρ [(1, (Sl as2_1 s2_1 cs2_1)), (2, (.func (.func 30) #[] #[])), (15, (Sl as1_0 s1_0 cs1_0)), (16, (I (s1_0.length : Int))), (17, (I s3))]) ∧ w = σ.w ∧ Hp S0 σ0 σ [Ch.ro 0 (Sl as2_1 s2_1 cs2_1) s2_1, Ch.ro 0 (Sl as1_0 s1_0 cs1_0) s1_0]) ⟨_, σ0, fr_join ⟨rfl, rfl, rfl, rfl, rfl, trivial⟩, rfl, H.sel' [1, 0] rfl rfl⟩ ?_
   clear h H
   rintro s3 a w o ⟨ρ, σ4, rfl, rfl, H⟩ h hres
   refine c_seq ?_
   refine rg ?_
   refine st (v := (B (decide (s3 < (s1_0.length : Int))))) (rv_lss (a := s3) (b := (s1_0.length : Int)) rfl rfl) ?_
   refine w_end ?_
   refine q_then ?_
   refine c_seq ?_
   refine cd_cond (decide (s3 < (s1_0.length : Int))) rfl (fun hb5 => ?_) (fun hb5 => ?_)
   ·replace h := bif_t hb5 h
    refine c_skip ?_
    refine q_then ?_
    refine c_seq ?_
    refine c_blk ?_
    refine c_seq ?_
    refine rg ?_
    refine st (v := (I s3)) (rv_move rfl) ?_
    obtain ⟨x6, hx7, h'⟩ := bind_some h
    clear h
    have h := h'; clear h'
    obtain ⟨b9, o10, hi8, -⟩ := (H.ro 1 rfl).ix hx7
    refine st (v := (pt b9 o10)) (rv_ix Try.underlying22 ti37 rfl rfl hi8) ?_
    obtain ⟨v14, hc15, hR13⟩ := ((H.ro 1 rfl).at hx7 hi8).slice
    obtain ⟨a11, c12, rfl⟩ := hR13.isSl
    replace H := H.add (d := Ch.ro 0 (Sl a11 x6 c12) x6) hR13 (fun _ h => h)
    clear hR13
    refine st (v := (Sl a11 x6 c12)) (rv_load1 Try.underlying37 rfl rfl hc15) ?_
    refine st (v := (I s3)) (rv_assign rfl) ?_
    refine st (v := (Sl a11 x6 c12)) (rv_assign rfl) ?_
    refine w_end ?_
    refine q_then ?_
    refine c_seq ?_
    refine rg ?_
    refine st (v := (Sl as2_1 s2_1 cs2_1)) (rv_move rfl) ?_
    refine st (v := (I s3)) (rv_move rfl) ?_
    obtain ⟨x16, hx17, h'⟩ := bind_some h
    clear h
    have h := h'; clear h'
    obtain ⟨b19, o20, hi18, -⟩ := (H.ro 1 rfl).ix hx17
    refine st (v := (pt b19 o20)) (rv_ix Try.underlying22 ti37 rfl rfl hi18) ?_
    obtain ⟨v24, hc25, hR23⟩ := ((H.ro 1 rfl).at hx17 hi18).slice
    obtain ⟨a21, c22, rfl⟩ := hR23.isSl
    replace H := H.add (d := Ch.ro 0 (Sl a21 x16 c22) x16) hR23 (fun _ h => h)
    clear hR23
    refine st (v := (Sl a21 x16 c22)) (rv_load1 Try.underlying37 rfl rfl hc25) ?_
    refine st (v := (Sl a21 x16 c22)) (rv_assign rfl) ?_
    refine w_end ?_
    refine q_then ?_
    refine c_seq ?_
    refine rg ?_
    refine st (v := (.func (.func 30) #[] #[])) (rv_move rfl) ?_
    refine st (v := (Sl a11 x6 c12)) (rv_move rfl) ?_
    refine st (v := (Sl a21 x16 c22)) (rv_move rfl) ?_
    obtain ⟨r26, hx27, h'⟩ := bind_some h
    clear h
    have h := h'; clear h'
    have hc28 := c_slices_Equal_int_int (as1_0 := a11) (cs1_0 := c12) (as2_1 := a21) (cs2_1 := c22) hx27
    refine st_call (cx_call hc28 (ent_v (cap := []) hc28.fn rfl rfl) hn0 (show Hp S0 σ0 _ ([Ch.ro 0 (Sl a11 x6 c12) x6, Ch.ro 0 (Sl a21 x16 c22) x16] ++ [Ch.ro 0 (Sl a21 x16 c22) x16, Ch.ro 0 (Sl a11 x6 c12) x6, Ch.ro 0 (Sl as2_1 s2_1 cs2_1) s2_1, Ch.ro 0 (Sl as1_0 s1_0 cs1_0) s1_0]) from (H.sel' [1, 0, 0, 1, 2, 3] rfl rfl))) wn ?_
    rintro _ σ29 ⟨_, ⟨rfl, rfl⟩, H, -⟩
    replace H : Hp S0 σ0 σ29 [Ch.ro 0 (Sl a21 x16 c22) x16, Ch.ro 0 (Sl a11 x6 c12) x6, Ch.ro 0 (Sl as2_1 s2_1 cs2_1) s2_1, Ch.ro 0 (Sl as1_0 s1_0 cs1_0) s1_0] := H
    refine st (v := (B (!r26))) (rv_not rfl) ?_
    refine w_end ?_
    refine q_then ?_
    refine cd_cond (!r26) rfl (fun hb30 => ?_) (fun hb30 => ?_)
    ·replace h := bif_t hb30 h
     refine c_seq ?_
     refine rg ?_
     refine st (v := (B false)) (rv_assign rfl) ?_
     refine w_end ?_
     refine q_then ?_
     refine c_ret ?_
     refine q_blk_r ?_
     refine q_then_r ?_
     refine q_then_r ?_
     refine q_blk_r ?_
     obtain rfl := Option.some.inj h
     obtain rfl := hres _ rfl
     exact .inr (⟨_, rfl, rfl, _, σ29, fr_join ⟨rfl, trivial⟩, rfl, H.sel' [] rfl rfl⟩)
    ·replace h := bif_f hb30 h
     refine c_skip ?_
     refine q_blk ?_
     refine q_then ?_
     refine rg ?_
     refine st (v := (I (w64 (s3 + 1)))) (rv_add (a := s3) (b := 1) rfl rfl) ?_
     refine st (v := (I (w64 (s3 + 1)))) (rv_move rfl) ?_
     refine w_end ?_
     refine q_then ?_
     obtain rfl := Option.some.inj h
     exact ⟨_, rfl, _, σ29, fr_join ⟨rfl, rfl, rfl, rfl, rfl, trivial⟩, rfl, H.sel' [2, 3] rfl rfl⟩
   ·replace h := bif_f hb5 h
    refine c_exit ?_
    refine q_then_x ?_
    refine q_then_x ?_
    refine q_blk_hit ?_
    obtain rfl := Option.some.inj h
    obtain rfl := hres _ rfl
    exact .inl ⟨_, rfl, rfl, _, σ4, fr_join trivial, rfl, H.sel' [] rfl rfl⟩
  ·clear hj
   have h := h'
   clear h' H
   rintro e a w (⟨t31, rfl, rfl, ρ, σ32, rfl, rfl, H⟩ | ⟨t33, rfl, rfl, ρ, σ34, rfl, rfl, H⟩)
   ·replace h := selim_l h
    refine q_then ?_
    refine c_seq ?_
    refine rg ?_
    refine st (v := (B true)) (rv_assign rfl) ?_
    refine w_end ?_
    refine q_then ?_
    refine c_ret ?_
    obtain rfl := Option.some.inj h
    exact fin_ret (v := (B true)) (results_ok Try.results29 (res_tmp (v := (B true)) rfl res_nil) rfl) ⟨rfl, rfl⟩ (H.sel' [] rfl rfl)
   ·replace h := selim_r h
    refine q_then_r ?_
    obtain rfl := Option.some.inj h
    exact fin_ret (v := (B t33)) (results_ok Try.results29 (res_tmp (v := (B t33)) rfl res_nil) rfl) ⟨rfl, rfl⟩ (H.sel' [] rfl rfl)

theorem c_impl_SettleCentres {centres_0 : List (List Int)} {list_1 : List (Int × (List Int) × Int)} {acentres_0 : Option Addr} {ccentres_0 : Nat} {alist_1 : Option Addr} {clist_1 : Nat} {r : (List (List Int)) × Int} (h : M.impl_SettleCentres centres_0 list_1 = some r) :
    Cal2 Try.prog 10 [(Sl acentres_0 centres_0 ccentres_0), (Sl alist_1 list_1 clist_1)] [Ch.ro 0 (Sl acentres_0 centres_0 ccentres_0) centres_0, Ch.ro 0 (Sl alist_1 list_1 clist_1) list_1] (fun n0 v L => ∃ (az1 : Option Addr), ∃ (cz2 : Nat), ∃ (Kz3 : List Ch), v = (.tuple #[(Sl az1 r.1 cz2), (I r.2)]) ∧ L = [Ch.big Kz3] ∧ Dp 0 (Sl az1 r.1 cz2) r.1 Kz3) := by
 refine cal2 (n := 28) Try.func10 rfl rfl rfl rfl ?_
 intro S0 σ0 n0 hn0 H
 unfold M.impl_SettleCentres at h
 refine c_seq ?_
 refine rg ?_
 refine st (v := (.slice none 0 0)) (rv_assign rfl) ?_
 refine st (v := (I 0)) (rv_assign rfl) ?_
 refine w_end ?_
 refine q_then ?_
 refine c_seq ?_
 refine c_seq ?_
 refine rg ?_
 refine st (v := (Sl acentres_0 centres_0 ccentres_0)) (rv_move rfl) ?_
 refine st (v := (Sl alist_1 list_1 clist_1)) (rv_move rfl) ?_
 obtain ⟨r1, hx2, h'⟩ := bind_some h
 clear h
 have h := h'; clear h'
 have hc3 := c_impl_validClusters (acentres_0 := acentres_0) (ccentres_0 := ccentres_0) (alist_1 := alist_1) (clist_1 := clist_1) hx2
 refine st_call (cx_call hc3 (ent_f hc3.fn rfl) hn0 (show Hp S0 σ0 _ ([Ch.ro 0 (Sl acentres_0 centres_0 ccentres_0) centres_0, Ch.ro 0 (Sl alist_1 list_1 clist_1) list_1] ++ [Ch.ro 0 (Sl acentres_0 centres_0 ccentres_0) centres_0, Ch.ro 0 (Sl alist_1 list_1 clist_1) list_1]) from (H.sel' [0, 1, 0, 1] rfl rfl))) wn ?_
 rintro _ σ4 ⟨_, ⟨rfl, rfl⟩, H, -⟩
 replace H : Hp S0 σ0 σ4 [Ch.ro 0 (Sl acentres_0 centres_0 ccentres_0) centres_0, Ch.ro 0 (Sl alist_1 list_1 clist_1) list_1] := H
 refine st (v := (B (!r1))) (rv_not rfl) ?_
 refine w_end ?_
 refine q_then ?_
 refine cd_cond (!r1) rfl (fun hb5 => ?_) (fun hb5 => ?_)
 ·replace h := bif_t hb5 h
  refine c_seq ?_
  refine rg ?_
  refine st (v := (.slice none 0 0)) (rv_assign rfl) ?_
  refine st (v := (I (-1))) (rv_assign rfl) ?_
  refine w_end ?_
  refine q_then ?_
  refine c_ret ?_
  refine q_then_r ?_
  obtain ⟨K6, hK7, H⟩ := H.nilDp (List Int) 0
  obtain rfl := Option.some.inj h
  exact fin_ret (v := (.tuple #[(.slice none 0 0), (I (-1))])) (results_ok Try.results10 (res_tmp (v := (.slice none 0 0)) rfl (res_tmp (v := (I (-1))) rfl res_nil)) rfl) ⟨none, 0, K6, rfl, rfl, hK7⟩ (H.sel' [0] rfl rfl)
 ·replace h := bif_f hb5 h
  refine c_skip ?_
  refine q_then ?_
  refine c_seq ?_
  refine rg ?_
  refine st (v := (Sl acentres_0 centres_0 ccentres_0)) (rv_move rfl) ?_
  refine st (v := (Sl acentres_0 centres_0 ccentres_0)) (rv_assign rfl) ?_
  refine w_end ?_
  refine q_then ?_
  refine c_seq ?_
  refine c_seq ?_
  refine rg ?_
  refine st (v := (I 0)) (rv_move rfl) ?_
  refine w_end ?_
  refine q_then ?_
  obtain ⟨o8, hj, h'⟩ := bind_some h
  clear h
  refine c_cut (fun e a w => (∃ t, o8 = (.inl t) ∧ e = .normal ∧ ∃ (ρ : Nat → Value) (σ : St) (aj1 : Option Addr) (cj2 : Nat) (Kj3 : List Ch), a = fr 28 (updL ρ [(6, (Sl aj1 t cj2))]) ∧ w = σ.w ∧ Hp S0 σ0 σ [Ch.big Kj3] ∧ Dp 0 (Sl aj1 t cj2) t Kj3) ∨ (∃ t, o8 = (.inr t) ∧ e = .ret ∧ ∃ (ρ : Nat → Value) (σ : St) (aj1 : Option Addr) (cj2 : Nat) (Kj3 : List Ch), a = fr 28 (updL ρ [(4, (Sl aj1 t.1 cj2)), (5, (I t.2))]) ∧ w = σ.w ∧ Hp S0 σ0 σ [Ch.big Kj3] ∧ Dp 0 (Sl aj1 t.1 cj2) t.1 Kj3)) ?_ ?_
  ·clear h'
   rename _ = some o8 => h
   refine c_blk ?_
   refine wp_loopM _ h (fun s9 a w => (s9 = (centres_0, 0) ∧ ∃ (ρ : Nat → Value) (σ : St), a = fr 28 (updL ρ [(1, (Sl alist_1 list_1 clist_1)), (6, (Sl acentres_0 centres_0 ccentres_0)), (14, (I 0))]) ∧ w = σ.w ∧ Hp S0 σ0 σ [Ch.ro 0 (Sl acentres_0 centres_0 ccentres_0) centres_0, Ch.ro 0 (Sl alist_1 list_1 clist_1) list_1]) ∨ ∃ (ρ : Nat → Value) (σ : St) (aj1 : Option Addr) (cj2 : Nat) (Kj3 : List Ch), a = fr 28 (updL ρ [(1, (Sl alist_1 list_1 clist_1)), (6, (Sl aj1 s9.1 cj2)), (14, (I s9.2))]) ∧ w = σ.w ∧ Hp S0 σ0 σ [Ch.ro 0 (Sl alist_1 list_1 clist_1) list_1, Ch.big Kj3] ∧ Dp 0 (Sl aj1 s9.1 cj2) s9.1 Kj3) (.inl ⟨rfl, _, σ4, fr_join ⟨rfl, rfl, rfl, trivial⟩, rfl, H⟩) ?_
   clear h H
   rintro s9 a w o (⟨rfl, ρ, σ22, rfl, rfl, H⟩ | ⟨ρ, σ24, a25, c26, K27, rfl, rfl, H, hK28⟩) h hres
   ·replace h : ((M.impl_MoveCentres centres_0 list_1).bind fun r11 =>
       (M.slices_EqualFunc_int_int_int_int__slices_Equal_int_int r11 centres_0).bind fun r19 =>
       (bif r19 then
       some (.inr (.inr (r11, 0)))
      else
       some (.inl (r11, w64 (0 + 1))))) = some o := h
    refine c_seq ?_
    refine rg ?_
    refine st (v := (B (decide (0 < 8)))) (rv_lss (a := 0) (b := 8) rfl rfl) ?_
    refine w_end ?_
    refine q_then ?_
    refine c_seq ?_
    refine cd_true (congrArg B (rfl : decide ((0 : Int) < 8) = true)) ?_
    refine c_skip ?_
    refine q_then ?_
    refine c_seq ?_
    refine c_blk ?_
    refine c_seq ?_
    refine rg ?_
    refine st (v := (I 0)) (rv_move rfl) ?_
    refine st (v := (I 0)) (rv_assign rfl) ?_
    refine w_end ?_
    refine q_then ?_
    refine c_seq ?_
    refine rg ?_
    refine st (v := (Sl acentres_0 centres_0 ccentres_0)) (rv_move rfl) ?_
    refine st (v := (Sl alist_1 list_1 clist_1)) (rv_move rfl) ?_
    obtain ⟨r11, hx12, h'⟩ := bind_some h
    clear h
    have h := h'; clear h'
    have hc13 := c_impl_MoveCentres (acentres_0 := acentres_0) (ccentres_0 := ccentres_0) (alist_1 := alist_1) (clist_1 := clist_1) hx12
    refine st_call (cx_call hc13 (ent_f hc13.fn rfl) hn0 (show Hp S0 σ0 _ ([Ch.ro 0 (Sl acentres_0 centres_0 ccentres_0) centres_0, Ch.ro 0 (Sl alist_1 list_1 clist_1) list_1] ++ [Ch.ro 0 (Sl acentres_0 centres_0 ccentres_0) centres_0, Ch.ro 0 (Sl alist_1 list_1 clist_1) list_1]) from (H.sel' [0, 1, 0, 1] rfl rfl))) wn ?_
    rintro _ σ18 ⟨_, ⟨a14, c15, K16, rfl, rfl, hK17⟩, H, -⟩
    replace H : Hp S0 σ0 σ18 [Ch.big K16, Ch.ro 0 (Sl acentres_0 centres_0 ccentres_0) centres_0, Ch.ro 0 (Sl alist_1 list_1 clist_1) list_1] := H
    refine st (v := (Sl a14 r11 c15)) (rv_assign rfl) ?_
    refine w_end ?_
    refine q_then ?_
    refine c_seq ?_
    refine c_seq ?_
    refine rg ?_
    refine st (v := (Sl a14 r11 c15)) (rv_move rfl) ?_
    refine st (v := (Sl acentres_0 centres_0 ccentres_0)) (rv_move rfl) ?_
    obtain ⟨r19, hx20, h'⟩ := bind_some h
    clear h
    have h := h'; clear h'
    have hc21 := c_slices_EqualFunc_int_int_int_int__slices_Equal_int_int (as1_0 := a14) (cs1_0 := c15) (as2_1 := acentres_0) (cs2_1 := ccentres_0) hx20
    have hle := Nat.le_trans hn0 H.size
    refine st_call (cx_lend (Loan.lendB hK17.lends (Loan.same Loan.nil)) hc21 (ent_f hc21.fn rfl) (show Hp S0 σ0 _ ([Ch.big K16] ++ ([Ch.ro 0 (Sl acentres_0 centres_0 ccentres_0) centres_0] ++ [Ch.ro 0 (Sl acentres_0 centres_0 ccentres_0) centres_0, Ch.ro 0 (Sl alist_1 list_1 clist_1) list_1])) from (H.sel' [0, 1, 1, 2] rfl rfl)) (by rintro _ _ _ ⟨rfl, rfl⟩; exact trivial)) wn ?_
    rintro _ σ22 ⟨_, ⟨rfl, rfl⟩, H, -, -⟩
    replace H : Hp S0 σ0 σ22 [Ch.big K16, Ch.ro 0 (Sl acentres_0 centres_0 ccentres_0) centres_0, Ch.ro 0 (Sl alist_1 list_1 clist_1) list_1] := H
    clear hle
    replace H : Hp S0 σ0 σ22 [Ch.big K16, Ch.ro 0 (Sl acentres_0 centres_0 ccentres_0) centres_0, Ch.ro 0 (Sl alist_1 list_1 clist_1) list_1] := H
    refine w_end ?_
    refine q_then ?_
    refine cd_cond r19 rfl (fun hb23 => ?_) (fun hb23 => ?_)
    ·replace h := bif_t hb23 h
     refine c_seq ?_
     refine rg ?_
     refine st (v := (Sl a14 r11 c15)) (rv_move rfl) ?_
     refine st (v := (I 0)) (rv_move rfl) ?_
     refine st (v := (Sl a14 r11 c15)) (rv_assign rfl) ?_
     refine st (v := (I 0)) (rv_assign rfl) ?_
     refine w_end ?_
     refine q_then ?_
     refine c_ret ?_
     refine q_then_r ?_
     refine q_blk_r ?_
     refine q_then_r ?_
     refine q_then_r ?_
     refine q_blk_r ?_
     obtain rfl := Option.some.inj h
     obtain rfl := hres _ rfl
     exact .inr (⟨_, rfl, rfl, _, σ22, a14, c15, K16, fr_join ⟨rfl, rfl, trivial⟩, rfl, H.sel' [0] rfl rfl, hK17⟩)
    ·replace h := bif_f hb23 h
     refine c_skip ?_
     refine q_then ?_
     refine rg ?_
     refine st (v := (Sl a14 r11 c15)) (rv_move rfl) ?_
     refine st (v := (Sl a14 r11 c15)) (rv_assign rfl) ?_
     refine w_end ?_
     refine q_blk ?_
     refine q_then ?_
     refine rg ?_
     refine st (v := (I (w64 (0 + 1)))) (rv_add (a := 0) (b := 1) rfl rfl) ?_
     refine st (v := (I (w64 (0 + 1)))) (rv_move rfl) ?_
     refine w_end ?_
     refine q_then ?_
     obtain rfl := Option.some.inj h
     exact ⟨_, rfl, .inr ⟨_, σ22, a14, c15, K16, fr_join ⟨rfl, rfl, rfl, trivial⟩, rfl, H.sel' [2, 0] rfl rfl, hK17⟩⟩
   ·refine c_seq ?_
    refine rg ?_
    refine st (v := (B (decide (s9.2 < 8)))) (rv_lss (a := s9.2) (b := 8) rfl rfl) ?_
    refine w_end ?_
    refine q_then ?_
    refine c_seq ?_
    refine cd_cond (decide (s9.2 < 8)) rfl (fun hb29 => ?_) (fun hb29 => ?_)
    ·replace h := bif_t hb29 h
     refine c_skip ?_
     refine q_then ?_
     refine c_seq ?_
     refine c_blk ?_
     refine c_seq ?_
     refine rg ?_
     refine st (v := (I s9.2)) (rv_move rfl) ?_
     refine st (v := (I s9.2)) (rv_assign rfl) ?_
     refine w_end ?_
     refine q_then ?_
     refine c_seq ?_
     refine rg ?_
     refine st (v := (Sl a25 s9.1 c26)) (rv_move rfl) ?_
     refine st (v := (Sl alist_1 list_1 clist_1)) (rv_move rfl) ?_
     obtain ⟨r30, hx31, h'⟩ := bind_some h
     clear h
     have h := h'; clear h'
     have hc32 := c_impl_MoveCentres (acentres_0 := a25) (ccentres_0 := c26) (alist_1 := alist_1) (clist_1 := clist_1) hx31
     have hle := Nat.le_trans hn0 H.size
     refine st_call (cx_lend (Loan.lendB hK28.lends (Loan.same Loan.nil)) hc32 (ent_f hc32.fn rfl) (show Hp S0 σ0 _ ([Ch.big K27] ++ ([Ch.ro 0 (Sl alist_1 list_1 clist_1) list_1] ++ [Ch.ro 0 (Sl alist_1 list_1 clist_1) list_1])) from (H.sel' [1, 0, 0] rfl rfl)) (by rintro _ _ _ ⟨_, _, _, rfl, rfl, hK36⟩; exact ⟨Dp.abSc hK36, trivial⟩)) wn ?_
     rintro _ σ37 ⟨_, ⟨a33, c34, K35, rfl, rfl, hK36⟩, H, -, -⟩
     replace H : Hp S0 σ0 σ37 [Ch.big K35, Ch.big K27, Ch.ro 0 (Sl alist_1 list_1 clist_1) list_1] := H
     clear hle
     replace H : Hp S0 σ0 σ37 [Ch.big K35, Ch.big K27, Ch.ro 0 (Sl alist_1 list_1 clist_1) list_1] := H
     refine st (v := (Sl a33 r30 c34)) (rv_assign rfl) ?_
     refine w_end ?_
     refine q_then ?_
     refine c_seq ?_
     refine c_seq ?_
     refine rg ?_
     refine st (v := (Sl a33 r30 c34)) (rv_move rfl) ?_
     refine st (v := (Sl a25 s9.1 c26)) (rv_move rfl) ?_
     obtain ⟨r38, hx39, h'⟩ := bind_some h
     clear h
     have h := h'; clear h'
     have hc40 := c_slices_EqualFunc_int_int_int_int__slices_Equal_int_int (as1_0 := a33) (cs1_0 := c34) (as2_1 := a25) (cs2_1 := c26) hx39
     have hle := Nat.le_trans hn0 H.size
     refine st_call (cx_lend (Loan.lendB hK36.lends (Loan.lendB hK28.lends Loan.nil)) hc40 (ent_f hc40.fn rfl) (show Hp S0 σ0 _ ([Ch.big K35, Ch.big K27] ++ ([] ++ [Ch.ro 0 (Sl alist_1 list_1 clist_1) list_1])) from (H.sel' [0, 1, 2] rfl rfl)) (by rintro _ _ _ ⟨rfl, rfl⟩; exact trivial)) wn ?_
     rintro _ σ41 ⟨_, ⟨rfl, rfl⟩, H, -, -⟩
     replace H : Hp S0 σ0 σ41 [Ch.big K35, Ch.big K27, Ch.ro 0 (Sl alist_1 list_1 clist_1) list_1] := H
     clear hle
     replace H : Hp S0 σ0 σ41 [Ch.big K35, Ch.big K27, Ch.ro 0 (Sl alist_1 list_1 clist_1) list_1] := H
     refine w_end ?_
     refine q_then ?_
     refine cd_cond r38 rfl (fun hb42 => ?_) (fun hb42 => ?_)
     ·replace h := bif_t hb42 h
      refine c_seq ?_
      refine rg ?_
      refine st (v := (Sl a33 r30 c34)) (rv_move rfl) ?_
      refine st (v := (I s9.2)) (rv_move rfl) ?_
      refine st (v := (Sl a33 r30 c34)) (rv_assign rfl) ?_
      refine st (v := (I s9.2)) (rv_assign rfl) ?_
      refine w_end ?_
      refine q_then ?_
      refine c_ret ?_
      refine q_then_r ?_
      refine q_blk_r ?_
      refine q_then_r ?_
      refine q_then_r ?_
      refine q_blk_r ?_
      obtain rfl := Option.some.inj h
      obtain rfl := hres _ rfl
      exact .inr (⟨_, rfl, rfl, _, σ41, a33, c34, K35, fr_join ⟨rfl, rfl, trivial⟩, rfl, H.sel' [0] rfl rfl, hK36⟩)
     ·replace h := bif_f hb42 h
      refine c_skip ?_
      refine q_then ?_
      refine rg ?_
      refine st (v := (Sl a33 r30 c34)) (rv_move rfl) ?_
      refine st (v := (Sl a33 r30 c34)) (rv_assign rfl) ?_
      refine w_end ?_
      refine q_blk ?_
      refine q_then ?_
      refine rg ?_
      refine st (v := (I (w64 (s9.2 + 1)))) (rv_add (a := s9.2) (b := 1) rfl rfl) ?_
      refine st (v := (I (w64 (s9.2 + 1)))) (rv_move rfl) ?_
      refine w_end ?_
      refine q_then ?_
      obtain rfl := Option.some.inj h
      exact ⟨_, rfl, .inr ⟨_, σ41, a33, c34, K35, fr_join ⟨rfl, rfl, rfl, trivial⟩, rfl, H.sel' [2, 0] rfl rfl, hK36⟩⟩
    ·replace h := bif_f hb29 h
     refine c_exit ?_
     refine q_then_x ?_
     refine q_then_x ?_
     refine q_blk_hit ?_
     obtain rfl := Option.some.inj h
     obtain rfl := hres _ rfl
     exact .inl ⟨_, rfl, rfl, _, σ24, a25, c26, K27, fr_join ⟨rfl, trivial⟩, rfl, H.sel' [1] rfl rfl, hK28⟩
  ·clear hj
   have h := h'
   clear h' H
   rintro e a w (⟨t43, rfl, rfl, ρ, σ44, a45, c46, K47, rfl, rfl, H, hK48⟩ | ⟨t49, rfl, rfl, ρ, σ50, a51, c52, K53, rfl, rfl, H, hK54⟩)
   ·replace h := selim_l h
    refine q_then ?_
    refine c_seq ?_
    refine rg ?_
    refine st (v := (Sl a45 t43 c46)) (rv_move rfl) ?_
    refine st (v := (Sl a45 t43 c46)) (rv_assign rfl) ?_
    refine st (v := (I 8)) (rv_assign rfl) ?_
    refine w_end ?_
    refine q_then ?_
    refine c_ret ?_
    obtain rfl := Option.some.inj h
    exact fin_ret (v := (.tuple #[(Sl a45 t43 c46), (I 8)])) (results_ok Try.results10 (res_tmp (v := (Sl a45 t43 c46)) rfl (res_tmp (v := (I 8)) rfl res_nil)) rfl) ⟨a45, c46, K47, rfl, rfl, hK48⟩ (H.sel' [0] rfl rfl)
   ·replace h := selim_r h
    refine q_then_r ?_
    obtain rfl := Option.some.inj h
    exact fin_ret (v := (.tuple #[(Sl a51 t49.1 c52), (I t49.2)])) (results_ok Try.results10 (res_tmp (v := (Sl a51 t49.1 c52)) rfl (res_tmp (v := (I t49.2)) rfl res_nil)) rfl) ⟨a51, c52, K53, rfl, rfl, hK54⟩ (H.sel' [0] rfl rfl)

theorem c_laws_eqIntS {a_0 : List Int} {b_1 : List Int} {aa_0 : Option Addr} {ca_0 : Nat} {ab_1 : Option Addr} {cb_1 : Nat} {r : Bool} (h : M.laws_eqIntS a_0 b_1 = some r) :
    Cal2 Try.prog 31 [(Sl aa_0 a_0 ca_0), (Sl ab_1 b_1 cb_1)] [Ch.ro 0 (Sl aa_0 a_0 ca_0) a_0, Ch.ro 0 (Sl ab_1 b_1 cb_1) b_1] (fun n0 v L => v = (B r) ∧ L = []) := by
 refine cal2 (n := 26) Try.func31 rfl rfl rfl rfl ?_
 intro S0 σ0 n0 hn0 H
 unfold M.laws_eqIntS at h
 refine c_seq ?_
 refine rg ?_
 refine st (v := (B false)) (rv_assign rfl) ?_
 refine w_end ?_
 refine q_then ?_
 refine c_seq ?_
 refine c_seq ?_
 refine rg ?_
 refine st (v := (Sl aa_0 a_0 ca_0)) (rv_move rfl) ?_
 refine st (v := (I (a_0.length : Int))) (rv_len Try.underlying37 rfl) ?_
 refine st (v := (Sl ab_1 b_1 cb_1)) (rv_move rfl) ?_
 refine st (v := (I (b_1.length : Int))) (rv_len Try.underlying37 rfl) ?_
 refine st (v := (B ((a_0.length : Int) != (b_1.length : Int)))) (rv_neq (a := (a_0.length : Int)) (b := (b_1.length : Int)) rfl rfl) ?_
 refine w_end ?_
 refine q_then ?_
 refine cd_cond ((a_0.length : Int) != (b_1.length : Int)) rfl (fun hb1 => ?_) (fun hb1 => ?_)
 ·replace h := bif_t hb1 h
  refine c_seq ?_
  refine rg ?_
  refine st (v := (B false)) (rv_assign rfl) ?_
  refine w_end ?_
  refine q_then ?_
  refine c_ret ?_
  refine q_then_r ?_
  obtain rfl := Option.some.inj h
  exact fin_ret (v := (B false)) (results_ok Try.results31 (res_tmp (v := (B false)) rfl res_nil) rfl) ⟨rfl, rfl⟩ (H.sel' [] rfl rfl)
 ·replace h := bif_f hb1 h
  refine c_skip ?_
  refine q_then ?_
  refine c_seq ?_
  refine c_seq ?_
  refine rg ?_
  refine st (v := (I 0)) (rv_assign rfl) ?_
  refine w_end ?_
  refine q_then ?_
  obtain ⟨o2, hj, h'⟩ := bind_some h
  clear h
  refine c_cut (fun e a w => (∃ t, o2 = (.inl t) ∧ e = .normal ∧ ∃ (ρ : Nat → Value) (σ : St), a = fr 26 (updL ρ []) ∧ w = σ.w ∧ Hp S0 σ0 σ []) ∨ (∃ t, o2 = (.inr t) ∧ e = .ret ∧ ∃ (ρ : Nat → Value) (σ : St), a = fr 26 (updL ρ [(4, (B t))]) ∧ w = σ.w ∧ Hp S0 σ0 σ [])) ?_ ?_
  ·clear h'
   rename _ = some o2 => h
   refine c_blk ?_
   refine wp_loopM _ h (fun s3 a w => ∃ (ρ : Nat → Value) (σ : St), a = fr 26 (updL ρ [(0, (Sl aa_0 a_0 ca_0)), (1, (Sl ab_1 b_1 cb_1)), (5, (I s3))]) ∧ w = σ.w ∧ Hp S0 σ0 σ [Ch.ro 0 (Sl aa_0 a_0 ca_0) a_0, Ch.ro 0 (Sl ab_1 b_1 cb_1) b_1]) ⟨_, σ0, fr_join ⟨rfl, rfl, rfl, trivial⟩, rfl, H.sel' [0, 1] rfl rfl⟩ ?_
   clear h H
   rintro s3 a w o ⟨ρ, σ4, rfl, rfl, H⟩ h hres
   refine c_seq ?_
   refine c_seq ?_
   refine rg ?_
   refine st (v := (I s3)) (rv_move rfl) ?_
   refine st (v := (Sl aa_0 a_0 ca_0)) (rv_move rfl) ?_
   refine st (v := (I (a_0.length : Int))) (rv_len Try.underlying37 rfl) ?_
   refine st (v := (B (decide (s3 < (a_0.length : Int))))) (rv_lss (a := s3) (b := (a_0.length : Int)) rfl rfl) ?_
   refine w_end ?_
   refine q_then ?_
   refine cd_cond (decide (s3 < (a_0.length : Int))) rfl (fun hb5 => ?_) (fun hb5 => ?_)
   ·replace h := bif_t hb5 h
    refine c_skip ?_
    refine q_then ?_
    refine c_seq ?_
    refine c_blk ?_
    refine c_seq ?_
    refine rgP (σ := σ4) 8 (by kernel_rfl) (by kernel_rfl) (by kernel_rfl) ?_
    refine sq (v := (Sl aa_0 a_0 ca_0)) (rv_move rfl) ?_
    refine sq (v := (I s3)) (rv_move rfl) ?_
    obtain ⟨x6, hx7, h'⟩ := bind_some h
    clear h
    have h := h'; clear h'
    obtain ⟨b9, o10, hi8, -⟩ := (H.ro 0 rfl).ix hx7
    refine sq (v := (pt b9 o10)) (rv_ix Try.underlying37 ti3 rfl rfl hi8) ?_
    have hc11 := ((H.ro 0 rfl).at hx7 hi8).int
    refine sq (v := (I x6)) (rv_load1 Try.underlying3 rfl rfl hc11) ?_
    refine sq (v := (Sl ab_1 b_1 cb_1)) (rv_move rfl) ?_
    refine sq (v := (I s3)) (rv_move rfl) ?_
    obtain ⟨x12, hx13, h'⟩ := bind_some h
    clear h
    have h := h'; clear h'
    obtain ⟨b15, o16, hi14, -⟩ := (H.ro 1 rfl).ix hx13
    refine sq (v := (pt b15 o16)) (rv_ix Try.underlying37 ti3 rfl rfl hi14) ?_
    have hc17 := ((H.ro 1 rfl).at hx13 hi14).int
    refine sq (v := (I x12)) (rv_load1 Try.underlying3 rfl rfl hc17) ?_
    refine sq_end ?_
    intro σ18 hm19
    replace H := H.grow (hm19.mono fun _ h => h); clear hm19
    refine st (v := (B (x6 != x12))) (rv_neq (a := x6) (b := x12) rfl rfl) ?_
    refine w_end ?_
    refine q_then ?_
    refine cd_cond (x6 != x12) rfl (fun hb20 => ?_) (fun hb20 => ?_)
    ·replace h := bif_t hb20 h
     refine c_seq ?_
     refine rg ?_
     refine st (v := (B false)) (rv_assign rfl) ?_
     refine w_end ?_
     refine q_then ?_
     refine c_ret ?_
     refine q_blk_r ?_
     refine q_then_r ?_
     refine q_then_r ?_
     refine q_blk_r ?_
     obtain rfl := Option.some.inj h
     obtain rfl := hres _ rfl
     exact .inr (⟨_, rfl, rfl, _, σ18, fr_join ⟨rfl, trivial⟩, rfl, H.sel' [] rfl rfl⟩)
    ·replace h := bif_f hb20 h
     refine c_skip ?_
     refine q_blk ?_
     refine q_then ?_
     refine rg ?_
     refine st (v := (I s3)) (rv_move rfl) ?_
     refine st (v := (I (w64 (s3 + 1)))) (rv_add (a := s3) (b := 1) rfl rfl) ?_
     refine st (v := (I (w64 (s3 + 1)))) (rv_assign rfl) ?_
     refine w_end ?_
     refine q_then ?_
     obtain rfl := Option.some.inj h
     exact ⟨_, rfl, _, σ18, fr_join ⟨rfl, rfl, rfl, trivial⟩, rfl, H.sel' [0, 1] rfl rfl⟩
   ·replace h := bif_f hb5 h
    refine c_exit ?_
    refine q_then_x ?_
    refine q_then_x ?_
    refine q_blk_hit ?_
    obtain rfl := Option.some.inj h
    obtain rfl := hres _ rfl
    exact .inl ⟨_, rfl, rfl, _, σ4, fr_join trivial, rfl, H.sel' [] rfl rfl⟩
  ·clear hj
   have h := h'
   clear h' H
   rintro e a w (⟨t21, rfl, rfl, ρ, σ22, rfl, rfl, H⟩ | ⟨t23, rfl, rfl, ρ, σ24, rfl, rfl, H⟩)
   ·replace h := selim_l h
    refine q_then ?_
    refine c_seq ?_
    refine rg ?_
    refine st (v := (B true)) (rv_assign rfl) ?_
    refine w_end ?_
    refine q_then ?_
    refine c_ret ?_
    obtain rfl := Option.some.inj h
    exact fin_ret (v := (B true)) (results_ok Try.results31 (res_tmp (v := (B true)) rfl res_nil) rfl) ⟨rfl, rfl⟩ (H.sel' [] rfl rfl)
   ·replace h := selim_r h
    refine q_then_r ?_
    obtain rfl := Option.some.inj h
    exact fin_ret (v := (B t23)) (results_ok Try.results31 (res_tmp (v := (B t23)) rfl res_nil) rfl) ⟨rfl, rfl⟩ (H.sel' [] rfl rfl)

theorem c_laws_eqIntSS {a_0 : List (List Int)} {b_1 : List (List Int)} {aa_0 : Option Addr} {ca_0 : Nat} {ab_1 : Option Addr} {cb_1 : Nat} {r : Bool} (h : M.laws_eqIntSS a_0 b_1 = some r) :
    Cal2 Try.prog 11 [(Sl aa_0 a_0 ca_0), (Sl ab_1 b_1 cb_1)] [Ch.ro 0 (Sl aa_0 a_0 ca_0) a_0, Ch.ro 0 (Sl ab_1 b_1 cb_1) b_1] (fun n0 v L => v = (B r) ∧ L = []) := by
 refine cal2 (n := 27) Try.func11 rfl rfl rfl rfl ?_
 intro S0 σ0 n0 hn0 H
 unfold M.laws_eqIntSS at h
 refine c_seq ?_
 refine rg ?_
 refine st (v := (B false)) (rv_assign rfl) ?_
 refine w_end ?_
 refine q_then ?_
 refine c_seq ?_
 refine c_seq ?_
 refine rg ?_
 refine st (v := (Sl aa_0 a_0 ca_0)) (rv_move rfl) ?_
 refine st (v := (I (a_0.length : Int))) (rv_len Try.underlying22 rfl) ?_
 refine st (v := (Sl ab_1 b_1 cb_1)) (rv_move rfl) ?_
 refine st (v := (I (b_1.length : Int))) (rv_len Try.underlying22 rfl) ?_
 refine st (v := (B ((a_0.length : Int) != (b_1.length : Int)))) (rv_neq (a := (a_0.length : Int)) (b := (b_1.length : Int)) rfl rfl) ?_
 refine w_end ?_
 refine q_then ?_
 refine cd_cond ((a_0.length : Int) != (b_1.length : Int)) rfl (fun hb1 => ?_) (fun hb1 => ?_)
 ·replace h := bif_t hb1 h
  refine c_seq ?_
  refine rg ?_
  refine st (v := (B false)) (rv_assign rfl) ?_
  refine w_end ?_
  refine q_then ?_
  refine c_ret ?_
  refine q_then_r ?_
  obtain rfl := Option.some.inj h
  exact fin_ret (v := (B false)) (results_ok Try.results11 (res_tmp (v := (B false)) rfl res_nil) rfl) ⟨rfl, rfl⟩ (H.sel' [] rfl rfl)
 ·replace h := bif_f hb1 h
  refine c_skip ?_
  refine q_then ?_
  refine c_seq ?_
  refine c_seq ?_
  refine rg ?_
  refine st (v := (I 0)) (rv_assign rfl) ?_
  refine w_end ?_
  refine q_then ?_
  obtain ⟨o2, hj, h'⟩ := bind_some h
  clear h
  refine c_cut (fun e a w => (∃ t, o2 = (.inl t) ∧ e = .normal ∧ ∃ (ρ : Nat → Value) (σ : St), a = fr 27 (updL ρ []) ∧ w = σ.w ∧ Hp S0 σ0 σ []) ∨ (∃ t, o2 = (.inr t) ∧ e = .ret ∧ ∃ (ρ : Nat → Value) (σ : St), a = fr 27 (updL ρ [(4, (B t))]) ∧ w = σ.w ∧ Hp S0 σ0 σ [])) ?_ ?_
  ·clear h'
   rename _ = some o2 => h
   refine c_blk ?_
   refine wp_loopM _ h (fun s3 a w => ∃ (ρ : Nat → Value) (σ : St), a = fr 27 (updL ρ [(0, (Sl aa_0 a_0 ca_0)), (1, (Sl ab_1 b_1 cb_1)), (5, (I s3))]) ∧ w = σ.w ∧ Hp S0 σ0 σ [Ch.ro 0 (Sl aa_0 a_0 ca_0) a_0, Ch.ro 0 (Sl ab_1 b_1 cb_1) b_1]) ⟨_, σ0, fr_join ⟨rfl, rfl, rfl, trivial⟩, rfl, H.sel' [0, 1] rfl rfl⟩ ?_
   clear h H
   rintro s3 a w o ⟨ρ, σ4, rfl, rfl, H⟩ h hres
   refine c_seq ?_
   refine c_seq ?_
   refine rg ?_
   refine st (v := (I s3)) (rv_move rfl) ?_
   refine st (v := (Sl aa_0 a_0 ca_0)) (rv_move rfl) ?_
   refine st (v := (I (a_0.length : Int))) (rv_len Try.underlying22 rfl) ?_
   refine st (v := (B (decide (s3 < (a_0.length : Int))))) (rv_lss (a := s3) (b := (a_0.length : Int)) rfl rfl) ?_
   refine w_end ?_
   refine q_then ?_
   refine cd_cond (decide (s3 < (a_0.length : Int))) rfl (fun hb5 => ?_) (fun hb5 => ?_)
   ·replace h := bif_t hb5 h
    refine c_skip ?_
    refine q_then ?_
    refine c_seq ?_
    refine c_blk ?_
    refine c_seq ?_
    refine rgP (σ := σ4) 8 (by kernel_rfl) (by kernel_rfl) (by kernel_rfl) ?_
    refine sq (v := (Sl aa_0 a_0 ca_0)) (rv_move rfl) ?_
    refine sq (v := (I s3)) (rv_move rfl) ?_
    obtain ⟨x6, hx7, h'⟩ := bind_some h
    clear h
    have h := h'; clear h'
    obtain ⟨b9, o10, hi8, -⟩ := (H.ro 0 rfl).ix hx7
    refine sq (v := (pt b9 o10)) (rv_ix Try.underlying22 ti37 rfl rfl hi8) ?_
    obtain ⟨v14, hc15, hR13⟩ := ((H.ro 0 rfl).at hx7 hi8).slice
    obtain ⟨a11, c12, rfl⟩ := hR13.isSl
    replace H := H.add (d := Ch.ro 0 (Sl a11 x6 c12) x6) hR13 (fun _ h => h)
    clear hR13
    refine sq (v := (Sl a11 x6 c12)) (rv_load1 Try.underlying37 rfl rfl hc15) ?_
    refine sq (v := (Sl ab_1 b_1 cb_1)) (rv_move rfl) ?_
    refine sq (v := (I s3)) (rv_move rfl) ?_
    obtain ⟨x16, hx17, h'⟩ := bind_some h
    clear h
    have h := h'; clear h'
    obtain ⟨b19, o20, hi18, -⟩ := (H.ro 2 rfl).ix hx17
    refine sq (v := (pt b19 o20)) (rv_ix Try.underlying22 ti37 rfl rfl hi18) ?_
    obtain ⟨v24, hc25, hR23⟩ := ((H.ro 2 rfl).at hx17 hi18).slice
    obtain ⟨a21, c22, rfl⟩ := hR23.isSl
    replace H := H.add (d := Ch.ro 0 (Sl a21 x16 c22) x16) hR23 (fun _ h => h)
    clear hR23
    refine sq (v := (Sl a21 x16 c22)) (rv_load1 Try.underlying37 rfl rfl hc25) ?_
    refine sq_end ?_
    intro σ26 hm27
    replace H := H.grow (hm27.mono fun _ h => h); clear hm27
    obtain ⟨r28, hx29, h'⟩ := bind_some h
    clear h
    have h := h'; clear h'
    have hc30 := c_laws_eqIntS (aa_0 := a11) (ca_0 := c12) (ab_1 := a21) (cb_1 := c22) hx29
    refine st_call (cx_call hc30 (ent_f hc30.fn rfl) hn0 (show Hp S0 σ0 _ ([Ch.ro 0 (Sl a11 x6 c12) x6, Ch.ro 0 (Sl a21 x16 c22) x16] ++ [Ch.ro 0 (Sl a21 x16 c22) x16, Ch.ro 0 (Sl a11 x6 c12) x6, Ch.ro 0 (Sl aa_0 a_0 ca_0) a_0, Ch.ro 0 (Sl ab_1 b_1 cb_1) b_1]) from (H.sel' [1, 0, 0, 1, 2, 3] rfl rfl))) wn ?_
    rintro _ σ31 ⟨_, ⟨rfl, rfl⟩, H, -⟩
    replace H : Hp S0 σ0 σ31 [Ch.ro 0 (Sl a21 x16 c22) x16, Ch.ro 0 (Sl a11 x6 c12) x6, Ch.ro 0 (Sl aa_0 a_0 ca_0) a_0, Ch.ro 0 (Sl ab_1 b_1 cb_1) b_1] := H
    refine st (v := (B (!r28))) (rv_not rfl) ?_
    refine w_end ?_
    refine q_then ?_
    refine cd_cond (!r28) rfl (fun hb32 => ?_) (fun hb32 => ?_)
    ·replace h := bif_t hb32 h
     refine c_seq ?_
     refine rg ?_
     refine st (v := (B false)) (rv_assign rfl) ?_
     refine w_end ?_
     refine q_then ?_
     refine c_ret ?_
     refine q_blk_r ?_
     refine q_then_r ?_
     refine q_then_r ?_
     refine q_blk_r ?_
     obtain rfl := Option.some.inj h
     obtain rfl := hres _ rfl
     exact .inr (⟨_, rfl, rfl, _, σ31, fr_join ⟨rfl, trivial⟩, rfl, H.sel' [] rfl rfl⟩)
    ·replace h := bif_f hb32 h
     refine c_skip ?_
     refine q_blk ?_
     refine q_then ?_
     refine rg ?_
     refine st (v := (I s3)) (rv_move rfl) ?_
     refine st (v := (I (w64 (s3 + 1)))) (rv_add (a := s3) (b := 1) rfl rfl) ?_
     refine st (v := (I (w64 (s3 + 1)))) (rv_assign rfl) ?_
     refine w_end ?_
     refine q_then ?_
     obtain rfl := Option.some.inj h
     exact ⟨_, rfl, _, σ31, fr_join ⟨rfl, rfl, rfl, trivial⟩, rfl, H.sel' [2, 3] rfl rfl⟩
   ·replace h := bif_f hb5 h
    refine c_exit ?_
    refine q_then_x ?_
    refine q_then_x ?_
    refine q_blk_hit ?_
    obtain rfl := Option.some.inj h
    obtain rfl := hres _ rfl
    exact .inl ⟨_, rfl, rfl, _, σ4, fr_join trivial, rfl, H.sel' [] rfl rfl⟩
  ·clear hj
   have h := h'
   clear h' H
   rintro e a w (⟨t33, rfl, rfl, ρ, σ34, rfl, rfl, H⟩ | ⟨t35, rfl, rfl, ρ, σ36, rfl, rfl, H⟩)
   ·replace h := selim_l h
    refine q_then ?_
    refine c_seq ?_
    refine rg ?_
    refine st (v := (B true)) (rv_assign rfl) ?_
    refine w_end ?_
    refine q_then ?_
    refine c_ret ?_
    obtain rfl := Option.some.inj h
    exact fin_ret (v := (B true)) (results_ok Try.results11 (res_tmp (v := (B true)) rfl res_nil) rfl) ⟨rfl, rfl⟩ (H.sel' [] rfl rfl)
   ·replace h := selim_r h
    refine q_then_r ?_
    obtain rfl := Option.some.inj h
    exact fin_ret (v := (B t35)) (results_ok Try.results11 (res_tmp (v := (B t35)) rfl res_nil) rfl) ⟨rfl, rfl⟩ (H.sel' [] rfl rfl)

theorem c_laws_eqItem {a_0 : Int × (List Int) × Int} {b_1 : Int × (List Int) × Int} {aa_0_1 : Option Addr} {ca_0_1 : Nat} {ab_1_1 : Option Addr} {cb_1_1 : Nat} {r : Bool} (h : M.laws_eqItem a_0 b_1 = some r) :
    Cal2 Try.prog 32 [(.agg #[(I a_0.1), (Sl aa_0_1 a_0.2.1 ca_0_1), (I a_0.2.2)]), (.agg #[(I b_1.1), (Sl ab_1_1 b_1.2.1 cb_1_1), (I b_1.2.2)])] [Ch.ro 0 (Sl aa_0_1 a_0.2.1 ca_0_1) a_0.2.1, Ch.ro 0 (Sl ab_1_1 b_1.2.1 cb_1_1) b_1.2.1] (fun n0 v L => v = (B r) ∧ L = []) := by
 refine cal2 (n := 21) Try.func32 rfl rfl rfl rfl ?_
 intro S0 σ0 n0 hn0 H
 unfold M.laws_eqItem at h
 refine c_seq ?_
 refine rg ?_
 refine st_ex (ex_box (cs := [(I a_0.1), (Sl aa_0_1 a_0.2.1 ca_0_1), (I a_0.2.2)]) H hn0 rfl rfl) wn ?_
 rintro _ σ2 ⟨b1, rfl, H, -⟩
 refine st_ex (ex_box (cs := [(I b_1.1), (Sl ab_1_1 b_1.2.1 cb_1_1), (I b_1.2.2)]) H hn0 rfl rfl) wn ?_
 rintro _ σ4 ⟨b3, rfl, H, -⟩
 refine st (v := (B false)) (rv_assign rfl) ?_
 refine w_end ?_
 refine q_then ?_
 refine c_seq ?_
 refine c_seq ?_
 refine rg ?_
 refine st (v := (pt b1 0)) (rv_fieldAddr (off := 0) (ft := 3) Try.underlying44 rfl ti3 rfl rfl) ?_
 have hc5 := H.cell (u := (I a_0.1)) (o' := 0) 1 0 rfl rfl rfl
 refine st (v := (I a_0.1)) (rv_load1 Try.underlying3 rfl rfl hc5) ?_
 refine st (v := (pt b3 0)) (rv_fieldAddr (off := 0) (ft := 3) Try.underlying44 rfl ti3 rfl rfl) ?_
 have hc6 := H.cell (u := (I b_1.1)) (o' := 0) 0 0 rfl rfl rfl
 refine st (v := (I b_1.1)) (rv_load1 Try.underlying3 rfl rfl hc6) ?_
 refine st (v := (B (a_0.1 != b_1.1))) (rv_neq (a := a_0.1) (b := b_1.1) rfl rfl) ?_
 refine w_end ?_
 refine q_then ?_
 refine cd_cond (a_0.1 != b_1.1) rfl (fun hb7 => ?_) (fun hb7 => ?_)
 ·replace h := bif_t hb7 h
  refine c_seq ?_
  refine rg ?_
  refine st (v := (B false)) (rv_assign rfl) ?_
  refine w_end ?_
  refine q_then ?_
  refine c_ret ?_
  refine q_then_r ?_
  obtain rfl := Option.some.inj h
  exact fin_ret (v := (B false)) (results_ok Try.results32 (res_tmp (v := (B false)) rfl res_nil) rfl) ⟨rfl, rfl⟩ (H.sel' [] rfl rfl)
 ·replace h := bif_f hb7 h
  refine c_skip ?_
  refine q_then ?_
  refine c_seq ?_
  refine c_seq ?_
  refine rg ?_
  refine st (v := (pt b1 1)) (rv_fieldAddr (off := 1) (ft := 37) Try.underlying44 rfl ti37 rfl rfl) ?_
  have hc8 := H.cell (u := (Sl aa_0_1 a_0.2.1 ca_0_1)) (o' := 1) 1 1 rfl rfl rfl
  refine st (v := (Sl aa_0_1 a_0.2.1 ca_0_1)) (rv_load1 Try.underlying37 rfl rfl hc8) ?_
  refine st (v := (pt b3 1)) (rv_fieldAddr (off := 1) (ft := 37) Try.underlying44 rfl ti37 rfl rfl) ?_
  have hc9 := H.cell (u := (Sl ab_1_1 b_1.2.1 cb_1_1)) (o' := 1) 0 1 rfl rfl rfl
  refine st (v := (Sl ab_1_1 b_1.2.1 cb_1_1)) (rv_load1 Try.underlying37 rfl rfl hc9) ?_
  obtain ⟨r10, hx11, h'⟩ := bind_some h
  clear h
  have h := h'; clear h'
  have hc12 := c_laws_eqIntS (aa_0 := aa_0_1) (ca_0 := ca_0_1) (ab_1 := ab_1_1) (cb_1 := cb_1_1) hx11
  refine st_call (cx_call hc12 (ent_f hc12.fn rfl) hn0 (show Hp S0 σ0 _ ([Ch.ro 0 (Sl aa_0_1 a_0.2.1 ca_0_1) a_0.2.1, Ch.ro 0 (Sl ab_1_1 b_1.2.1 cb_1_1) b_1.2.1] ++ [Ch.bx n0 b3 0 [(I b_1.1), (Sl ab_1_1 b_1.2.1 cb_1_1), (I b_1.2.2)] [] [], Ch.bx n0 b1 0 [(I a_0.1), (Sl aa_0_1 a_0.2.1 ca_0_1), (I a_0.2.2)] [] [], Ch.ro 0 (Sl aa_0_1 a_0.2.1 ca_0_1) a_0.2.1, Ch.ro 0 (Sl ab_1_1 b_1.2.1 cb_1_1) b_1.2.1]) from (H.sel' [2, 3, 0, 1, 2, 3] rfl rfl))) wn ?_
  rintro _ σ13 ⟨_, ⟨rfl, rfl⟩, H, -⟩
  replace H : Hp S0 σ0 σ13 [Ch.bx n0 b3 0 [(I b_1.1), (Sl ab_1_1 b_1.2.1 cb_1_1), (I b_1.2.2)] [] [], Ch.bx n0 b1 0 [(I a_0.1), (Sl aa_0_1 a_0.2.1 ca_0_1), (I a_0.2.2)] [] [], Ch.ro 0 (Sl aa_0_1 a_0.2.1 ca_0_1) a_0.2.1, Ch.ro 0 (Sl ab_1_1 b_1.2.1 cb_1_1) b_1.2.1] := H
  refine st (v := (B (!r10))) (rv_not rfl) ?_
  refine w_end ?_
  refine q_then ?_
  refine cd_cond (!r10) rfl (fun hb14 => ?_) (fun hb14 => ?_)
  ·replace h := bif_t hb14 h
   refine c_seq ?_
   refine rg ?_
   refine st (v := (B false)) (rv_assign rfl) ?_
   refine w_end ?_
   refine q_then ?_
   refine c_ret ?_
   refine q_then_r ?_
   obtain rfl := Option.some.inj h
   exact fin_ret (v := (B false)) (results_ok Try.results32 (res_tmp (v := (B false)) rfl res_nil) rfl) ⟨rfl, rfl⟩ (H.sel' [] rfl rfl)
  ·replace h := bif_f hb14 h
   refine c_skip ?_
   refine q_then ?_
   refine c_seq ?_
   refine c_seq ?_
   refine rg ?_
   refine st (v := (pt b1 2)) (rv_fieldAddr (off := 2) (ft := 3) Try.underlying44 rfl ti3 rfl rfl) ?_
   have hc15 := H.cell (u := (I a_0.2.2)) (o' := 2) 1 2 rfl rfl rfl
   refine st (v := (I a_0.2.2)) (rv_load1 Try.underlying3 rfl rfl hc15) ?_
   refine st (v := (pt b3 2)) (rv_fieldAddr (off := 2) (ft := 3) Try.underlying44 rfl ti3 rfl rfl) ?_
   have hc16 := H.cell (u := (I b_1.2.2)) (o' := 2) 0 2 rfl rfl rfl
   refine st (v := (I b_1.2.2)) (rv_load1 Try.underlying3 rfl rfl hc16) ?_
   refine st (v := (B (a_0.2.2 != b_1.2.2))) (rv_neq (a := a_0.2.2) (b := b_1.2.2) rfl rfl) ?_
   refine w_end ?_
   refine q_then ?_
   refine cd_cond (a_0.2.2 != b_1.2.2) rfl (fun hb17 => ?_) (fun hb17 => ?_)
   ·replace h := bif_t hb17 h
    refine c_seq ?_
    refine rg ?_
    refine st (v := (B false)) (rv_assign rfl) ?_
    refine w_end ?_
    refine q_then ?_
    refine c_ret ?_
    refine q_then_r ?_
    obtain rfl := Option.some.inj h
    exact fin_ret (v := (B false)) (results_ok Try.results32 (res_tmp (v := (B false)) rfl res_nil) rfl) ⟨rfl, rfl⟩ (H.sel' [] rfl rfl)
   ·replace h := bif_f hb17 h
    refine c_skip ?_
    refine q_then ?_
    refine c_seq ?_
    refine rg ?_
    refine st (v := (B true)) (rv_assign rfl) ?_
    refine w_end ?_
    refine q_then ?_
    refine c_ret ?_
    obtain rfl := Option.some.inj h
    exact fin_ret (v := (B true)) (results_ok Try.results32 (res_tmp (v := (B true)) rfl res_nil) rfl) ⟨rfl, rfl⟩ (H.sel' [] rfl rfl)

theorem c_laws_eqItemS {a_0 : List (Int × (List Int) × Int)} {b_1 : List (Int × (List Int) × Int)} {aa_0 : Option Addr} {ca_0 : Nat} {ab_1 : Option Addr} {cb_1 : Nat} {r : Bool} (h : M.laws_eqItemS a_0 b_1 = some r) :
    Cal2 Try.prog 12 [(Sl aa_0 a_0 ca_0), (Sl ab_1 b_1 cb_1)] [Ch.ro 0 (Sl aa_0 a_0 ca_0) a_0, Ch.ro 0 (Sl ab_1 b_1 cb_1) b_1] (fun n0 v L => v = (B r) ∧ L = []) := by
 refine cal2 (n := 27) Try.func12 rfl rfl rfl rfl ?_
 intro S0 σ0 n0 hn0 H
 unfold M.laws_eqItemS at h
 refine c_seq ?_
 refine rg ?_
 refine st (v := (B false)) (rv_assign rfl) ?_
 refine w_end ?_
 refine q_then ?_
 refine c_seq ?_
 refine c_seq ?_
 refine rg ?_
 refine st (v := (Sl aa_0 a_0 ca_0)) (rv_move rfl) ?_
 refine st (v := (I (a_0.length : Int))) (rv_len Try.underlying29 rfl) ?_
 refine st (v := (Sl ab_1 b_1 cb_1)) (rv_move rfl) ?_
 refine st (v := (I (b_1.length : Int))) (rv_len Try.underlying29 rfl) ?_
 refine st (v := (B ((a_0.length : Int) != (b_1.length : Int)))) (rv_neq (a := (a_0.length : Int)) (b := (b_1.length : Int)) rfl rfl) ?_
 refine w_end ?_
 refine q_then ?_
 refine cd_cond ((a_0.length : Int) != (b_1.length : Int)) rfl (fun hb1 => ?_) (fun hb1 => ?_)
 ·replace h := bif_t hb1 h
  refine c_seq ?_
  refine rg ?_
  refine st (v := (B false)) (rv_assign rfl) ?_
  refine w_end ?_
  refine q_then ?_
  refine c_ret ?_
  refine q_then_r ?_
  obtain rfl := Option.some.inj h
  exact fin_ret (v := (B false)) (results_ok Try.results12 (res_tmp (v := (B false)) rfl res_nil) rfl) ⟨rfl, rfl⟩ (H.sel' [] rfl rfl)
 ·replace h := bif_f hb1 h
  refine c_skip ?_
  refine q_then ?_
  refine c_seq ?_
  refine c_seq ?_
  refine rg ?_
  refine st (v := (I 0)) (rv_assign rfl) ?_
  refine w_end ?_
  refine q_then ?_
  obtain ⟨o2, hj, h'⟩ := bind_some h
  clear h
  refine c_cut (fun e a w => (∃ t, o2 = (.inl t) ∧ e = .normal ∧ ∃ (ρ : Nat → Value) (σ : St), a = fr 27 (updL ρ []) ∧ w = σ.w ∧ Hp S0 σ0 σ []) ∨ (∃ t, o2 = (.inr t) ∧ e = .ret ∧ ∃ (ρ : Nat → Value) (σ : St), a = fr 27 (updL ρ [(4, (B t))]) ∧ w = σ.w ∧ Hp S0 σ0 σ [])) ?_ ?_
  ·clear h'
   rename _ = some o2 => h
   refine c_blk ?_
   refine wp_loopM _ h (fun s3 a w => ∃ (ρ : Nat → Value) (σ : St), a = fr 27 (updL ρ [(0, (Sl aa_0 a_0 ca_0)), (1, (Sl ab_1 b_1 cb_1)), (5, (I s3))]) ∧ w = σ.w ∧ Hp S0 σ0 σ [Ch.ro 0 (Sl aa_0 a_0 ca_0) a_0, Ch.ro 0 (Sl ab_1 b_1 cb_1) b_1]) ⟨_, σ0, fr_join ⟨rfl, rfl, rfl, trivial⟩, rfl, H.sel' [0, 1] rfl rfl⟩ ?_
   clear h H
   rintro s3 a w o ⟨ρ, σ4, rfl, rfl, H⟩ h hres
   refine c_seq ?_
   refine c_seq ?_
   refine rg ?_
   refine st (v := (I s3)) (rv_move rfl) ?_
   refine st (v := (Sl aa_0 a_0 ca_0)) (rv_move rfl) ?_
   refine st (v := (I (a_0.length : Int))) (rv_len Try.underlying29 rfl) ?_
   refine st (v := (B (decide (s3 < (a_0.length : Int))))) (rv_lss (a := s3) (b := (a_0.length : Int)) rfl rfl) ?_
   refine w_end ?_
   refine q_then ?_
   refine cd_cond (decide (s3 < (a_0.length : Int))) rfl (fun hb5 => ?_) (fun hb5 => ?_)
   ·replace h := bif_t hb5 h
    refine c_skip ?_
    refine q_then ?_
    refine c_seq ?_
    refine c_blk ?_
    refine c_seq ?_
    refine rgP (σ := σ4) 8 (by kernel_rfl) (by kernel_rfl) (by kernel_rfl) ?_
    refine sq (v := (Sl aa_0 a_0 ca_0)) (rv_move rfl) ?_
    refine sq (v := (I s3)) (rv_move rfl) ?_
    obtain ⟨x6, hx7, h'⟩ := bind_some h
    clear h
    have h := h'; clear h'
    obtain ⟨b9, o10, hi8, -⟩ := (H.ro 0 rfl).ix hx7
    refine sq (v := (pt b9 o10)) (rv_ix Try.underlying29 ti44 rfl rfl hi8) ?_
    obtain ⟨_, ⟨_, _, rfl, rfl, ⟨_, _, rfl, ⟨_, rfl, hR15⟩, rfl⟩⟩, hl11, hc12⟩ := ((H.ro 0 rfl).at hx7 hi8).cells
    obtain ⟨a13, c14, rfl⟩ := hR15.isSl
    replace H := H.add (d := Ch.ro 0 (Sl a13 x6.2.1 c14) x6.2.1) hR15 (fun _ h => h)
    clear hR15
    refine sq (v := (.agg #[(I x6.1), (Sl a13 x6.2.1 c14), (I x6.2.2)])) (rv_load Try.underlying44 rfl ti44 rfl hl11 hc12) ?_
    refine sq (v := (Sl ab_1 b_1 cb_1)) (rv_move rfl) ?_
    refine sq (v := (I s3)) (rv_move rfl) ?_
    obtain ⟨x16, hx17, h'⟩ := bind_some h
    clear h
    have h := h'; clear h'
    obtain ⟨b19, o20, hi18, -⟩ := (H.ro 2 rfl).ix hx17
    refine sq (v := (pt b19 o20)) (rv_ix Try.underlying29 ti44 rfl rfl hi18) ?_
    obtain ⟨_, ⟨_, _, rfl, rfl, ⟨_, _, rfl, ⟨_, rfl, hR25⟩, rfl⟩⟩, hl21, hc22⟩ := ((H.ro 2 rfl).at hx17 hi18).cells
    obtain ⟨a23, c24, rfl⟩ := hR25.isSl
    replace H := H.add (d := Ch.ro 0 (Sl a23 x16.2.1 c24) x16.2.1) hR25 (fun _ h => h)
    clear hR25
    refine sq (v := (.agg #[(I x16.1), (Sl a23 x16.2.1 c24), (I x16.2.2)])) (rv_load Try.underlying44 rfl ti44 rfl hl21 hc22) ?_
    refine sq_end ?_
    intro σ26 hm27
    replace H := H.grow (hm27.mono fun _ h => h); clear hm27
    obtain ⟨r28, hx29, h'⟩ := bind_some h
    clear h
    have h := h'; clear h'
    have hc30 := c_laws_eqItem (aa_0_1 := a13) (ca_0_1 := c14) (ab_1_1 := a23) (cb_1_1 := c24) hx29
    refine st_call (cx_call hc30 (ent_f hc30.fn rfl) hn0 (show Hp S0 σ0 _ ([Ch.ro 0 (Sl a13 x6.2.1 c14) x6.2.1, Ch.ro 0 (Sl a23 x16.2.1 c24) x16.2.1] ++ [Ch.ro 0 (Sl a23 x16.2.1 c24) x16.2.1, Ch.ro 0 (Sl a13 x6.2.1 c14) x6.2.1, Ch.ro 0 (Sl aa_0 a_0 ca_0) a_0, Ch.ro 0 (Sl ab_1 b_1 cb_1) b_1]) from (H.sel' [1, 0, 0, 1, 2, 3] rfl rfl))) wn ?_
    rintro _ σ31 ⟨_, ⟨rfl, rfl⟩, H, -⟩
    replace H : Hp S0 σ0 σ31 [Ch.ro 0 (Sl a23 x16.2.1 c24) x16.2.1, Ch.ro 0 (Sl a13 x6.2.1 c14) x6.2.1, Ch.ro 0 (Sl aa_0 a_0 ca_0) a_0, Ch.ro 0 (Sl ab_1 b_1 cb_1) b_1] := H
    refine st (v := (B (!r28))) (rv_not rfl) ?_
    refine w_end ?_
    refine q_then ?_
    refine cd_cond (!r28) rfl (fun hb32 => ?_) (fun hb32 => ?_)
    ·replace h := bif_t hb32 h
     refine c_seq ?_
     refine rg ?_
     refine st (v := (B false)) (rv_assign rfl) ?_
     refine w_end ?_
     refine q_then ?_
     refine c_ret ?_
     refine q_blk_r ?_
     refine q_then_r ?_
     refine q_then_r ?_
     refine q_blk_r ?_
     obtain rfl := Option.some.inj h
     obtain rfl := hres _ rfl
     exact .inr (⟨_, rfl, rfl, _, σ31, fr_join ⟨rfl, trivial⟩, rfl, H.sel' [] rfl rfl⟩)
    ·replace h := bif_f hb32 h
     refine c_skip ?_
     refine q_blk ?_
     refine q_then ?_
     refine rg ?_
     refine st (v := (I s3)) (rv_move rfl) ?_
     refine st (v := (I (w64 (s3 + 1)))) (rv_add (a := s3) (b := 1) rfl rfl) ?_
     refine st (v := (I (w64 (s3 + 1)))) (rv_assign rfl) ?_
     refine w_end ?_
     refine q_then ?_
     obtain rfl := Option.some.inj h
     exact ⟨_, rfl, _, σ31, fr_join ⟨rfl, rfl, rfl, trivial⟩, rfl, H.sel' [2, 3] rfl rfl⟩
   ·replace h := bif_f hb5 h
    refine c_exit ?_
    refine q_then_x ?_
    refine q_then_x ?_
    refine q_blk_hit ?_
    obtain rfl := Option.some.inj h
    obtain rfl := hres _ rfl
    exact .inl ⟨_, rfl, rfl, _, σ4, fr_join trivial, rfl, H.sel' [] rfl rfl⟩
  ·clear hj
   have h := h'
   clear h' H
   rintro e a w (⟨t33, rfl, rfl, ρ, σ34, rfl, rfl, H⟩ | ⟨t35, rfl, rfl, ρ, σ36, rfl, rfl, H⟩)
   ·replace h := selim_l h
    refine q_then ?_
    refine c_seq ?_
    refine rg ?_
    refine st (v := (B true)) (rv_assign rfl) ?_
    refine w_end ?_
    refine q_then ?_
    refine c_ret ?_
    obtain rfl := Option.some.inj h
    exact fin_ret (v := (B true)) (results_ok Try.results12 (res_tmp (v := (B true)) rfl res_nil) rfl) ⟨rfl, rfl⟩ (H.sel' [] rfl rfl)
   ·replace h := selim_r h
    refine q_then_r ?_
    obtain rfl := Option.some.inj h
    exact fin_ret (v := (B t35)) (results_ok Try.results12 (res_tmp (v := (B t35)) rfl res_nil) rfl) ⟨rfl, rfl⟩ (H.sel' [] rfl rfl)

theorem c_laws_markIntS {a_0 : List Int} {k_1 : Int} {aa_0 : Option Addr} {ca_0 : Nat} {r : Int × (List Int)} (h : M.laws_markIntS a_0 k_1 = some r) :
    Cal2 Try.prog 33 [(Sl aa_0 a_0 ca_0), (I k_1)] [Ch.own 0 0 (Sl aa_0 a_0 ca_0) a_0] (fun n0 v L => v = (I r.1) ∧ L = [Ch.own 0 0 (Sl aa_0 r.2 ca_0) r.2] ∧ r.2.length = a_0.length) := by
 refine cal2 (n := 19) Try.func33 rfl rfl rfl rfl ?_
 intro S0 σ0 n0 hn0 H
 unfold M.laws_markIntS at h
 refine c_seq ?_
 refine rg ?_
 refine st (v := (I 0)) (rv_assign rfl) ?_
 refine w_end ?_
 refine q_then ?_
 refine c_seq ?_
 refine c_seq ?_
 refine rg ?_
 refine st (v := (I 0)) (rv_assign rfl) ?_
 refine w_end ?_
 refine q_then ?_
 obtain ⟨o1, hj, h'⟩ := bind_some h
 clear h
 refine c_cut (fun e a w => e = .normal ∧ ∃ (ρ : Nat → Value) (σ : St), a = fr 19 (updL ρ [(0, (Sl aa_0 o1.1 ca_0)), (1, (I o1.2))]) ∧ w = σ.w ∧ Hp S0 σ0 σ [Ch.own 0 0 (Sl aa_0 o1.1 ca_0) o1.1] ∧ o1.1.length = a_0.length) ?_ ?_
 ·clear h'
  rename _ = some o1 => h
  refine c_blk ?_
  refine wp_loopM _ h (fun s2 a w => ∃ (ρ : Nat → Value) (σ : St), a = fr 19 (updL ρ [(0, (Sl aa_0 s2.1 ca_0)), (1, (I s2.2.1)), (5, (I s2.2.2))]) ∧ w = σ.w ∧ Hp S0 σ0 σ [Ch.own 0 0 (Sl aa_0 s2.1 ca_0) s2.1] ∧ s2.1.length = a_0.length) ⟨_, σ0, fr_join ⟨rfl, rfl, rfl, trivial⟩, rfl, H.sel' [0] rfl rfl, rfl⟩ ?_
  clear h H
  rintro s2 a w o ⟨ρ, σ3, rfl, rfl, H, hn4⟩ h hres
  refine c_seq ?_
  refine c_seq ?_
  refine rg ?_
  refine st (v := (I s2.2.2)) (rv_move rfl) ?_
  refine st (v := (Sl aa_0 s2.1 ca_0)) (rv_move rfl) ?_
  refine st (v := (I (s2.1.length : Int))) (rv_len Try.underlying37 rfl) ?_
  refine st (v := (B (decide (s2.2.2 < (s2.1.length : Int))))) (rv_lss (a := s2.2.2) (b := (s2.1.length : Int)) rfl rfl) ?_
  refine w_end ?_
  refine q_then ?_
  refine cd_cond (decide (s2.2.2 < (s2.1.length : Int))) rfl (fun hb5 => ?_) (fun hb5 => ?_)
  ·replace h := bif_t hb5 h
   refine c_skip ?_
   refine q_then ?_
   refine c_seq ?_
   refine c_blk ?_
   refine c_seq ?_
   refine rg ?_
   refine st (v := (Sl aa_0 s2.1 ca_0)) (rv_move rfl) ?_
   refine st (v := (I s2.2.2)) (rv_move rfl) ?_
   refine st (v := (I s2.2.1)) (rv_move rfl) ?_
   obtain ⟨x6, hx7, h'⟩ := bind_some h
   clear h
   have h := h'; clear h'
   obtain ⟨b9, o10, hi8, -⟩ := (H.own 0 rfl).ix hx7
   refine st (v := (pt b9 o10)) (rv_ix Try.underlying37 ti3 rfl rfl hi8) ?_
   refine st_exS (ex_store_own (e' := s2.2.1) (vs := [(I s2.2.1)]) (k := 0) H (i := 0) rfl ti3 hx7 hi8 rfl rfl rfl rfl rfl (Nat.le_of_ble_eq_true rfl) (by simp [plain]) (by rintro _ rfl; exact rfl)) wn ?_
   rintro σ11 ⟨H, -⟩
   have hsl : (Sl aa_0 s2.1 ca_0) = (Sl aa_0 (s2.1.set s2.2.2.toNat s2.2.1) ca_0) := sl_len List.length_set.symm
   rw [hsl]; rw [hsl] at H; clear hsl
   refine w_end ?_
   refine q_then ?_
   refine rg ?_
   refine st (v := (I s2.2.1)) (rv_move rfl) ?_
   refine st (v := (I (w64 (s2.2.1 + 1)))) (rv_add (a := s2.2.1) (b := 1) rfl rfl) ?_
   refine st (v := (I (w64 (s2.2.1 + 1)))) (rv_assign rfl) ?_
   refine w_end ?_
   refine q_blk ?_
   refine q_then ?_
   refine rg ?_
   refine st (v := (I s2.2.2)) (rv_move rfl) ?_
   refine st (v := (I (w64 (s2.2.2 + 1)))) (rv_add (a := s2.2.2) (b := 1) rfl rfl) ?_
   refine st (v := (I (w64 (s2.2.2 + 1)))) (rv_assign rfl) ?_
   refine w_end ?_
   refine q_then ?_
   obtain rfl := Option.some.inj h
   exact ⟨_, rfl, _, σ11, fr_join ⟨rfl, rfl, rfl, trivial⟩, rfl, H.sel' [0] rfl rfl, (List.length_set.trans hn4)⟩
  ·replace h := bif_f hb5 h
   refine c_exit ?_
   refine q_then_x ?_
   refine q_then_x ?_
   refine q_blk_hit ?_
   obtain rfl := Option.some.inj h
   obtain rfl := hres _ rfl
   exact ⟨rfl, _, σ3, fr_join ⟨rfl, rfl, trivial⟩, rfl, H.sel' [0] rfl rfl, hn4⟩
 ·clear hj
  have h := h'
  clear h' H
  rintro e a w ⟨rfl, ρ, σ12, rfl, rfl, H, hn13⟩
  refine q_then ?_
  refine c_seq ?_
  refine rg ?_
  refine st (v := (I o1.2)) (rv_move rfl) ?_
  refine st (v := (I o1.2)) (rv_assign rfl) ?_
  refine w_end ?_
  refine q_then ?_
  refine c_ret ?_
  obtain rfl := Option.some.inj h
  exact fin_ret (v := (I o1.2)) (results_ok Try.results33 (res_tmp (v := (I o1.2)) rfl res_nil) rfl) ⟨rfl, rfl, hn13⟩ (H.sel' [0] rfl rfl)

theorem c_laws_markIntSS {a_0 : List (List Int)} {k_1 : Int} {aa_0 : Option Addr} {ca_0 : Nat} {lo : Nat} {K : List Ch} (hK : Dp lo (Sl aa_0 a_0 ca_0) a_0 K) {r : Int × List (List Int)} (h : M.markIntSB a_0 k_1 = some r) :
    Cal2 Try.prog 13 [(Sl aa_0 a_0 ca_0), (I k_1)] [Ch.big K] (fun n0 v L => v = (I r.1) ∧ L = [Ch.ro 0 (Sl aa_0 r.2 ca_0) r.2] ∧ r.2.length = a_0.length) := by
 obtain ⟨hn, h⟩ := markIntSB_some h
 obtain ⟨ps, hps, rfl⟩ := hK.ex
 refine cal2 (n := 19) Try.func13 rfl rfl rfl rfl ?_
 intro S0 σ0 n0 hn0 H
 refine c_seq ?_
 refine rg ?_
 refine st (v := (I 0)) (rv_assign rfl) ?_
 refine w_end ?_
 refine q_then ?_
 refine c_seq ?_
 refine c_seq ?_
 refine rg ?_
 refine st (v := (I 0)) (rv_assign rfl) ?_
 refine w_end ?_
 refine q_then ?_
 refine c_cut (fun e a w => e = .normal ∧ ∃ (ρ : Nat → Value) (σ : St) (ds : List ((List Int) × Value)), a = fr 19 (updL ρ [(1, (I r.1))]) ∧ w = σ.w ∧ ds.length = a_0.length ∧ ds.map (·.1) = r.2 ∧ Hp S0 σ0 σ [Ch.own lo lo (Sl aa_0 a_0 ca_0) (ds.map dsh), Ch.big (ds.map (dow 0))]) ?_ ?_
 ·refine c_blk ?_
  have hlen : ps.length = a_0.length := by rw [hps]; simp
  refine wp_loop_ghost (fun m a w => ∃ (i : Nat) (ρ : Nat → Value) (σ : St) (ds qs : List ((List Int) × Value)) (k : Int), i + m = a_0.length ∧ qs.length = m ∧ ds.length = i ∧ (∃ q, M.dmarkIntSB (qs.map (·.1)) k = some q ∧ r = (q.1, ds.map (·.1) ++ q.2)) ∧ a = fr 19 (updL ρ [(0, (Sl aa_0 a_0 ca_0)), (1, (I k)), (5, (I (i : Int)))]) ∧ w = σ.w ∧ Hp S0 σ0 σ [Ch.own lo lo (Sl aa_0 a_0 ca_0) (ds.map dsh ++ qs.map dsh), Ch.big (qs.map (dow lo)), Ch.big (ds.map (dow 0))]) a_0.length ⟨0, _, σ0, [], ps, k_1, by omega, hlen, rfl, ⟨r, hps ▸ h, rfl⟩, fr_join ⟨rfl, rfl, rfl, trivial⟩, rfl, H.unbig.bigNil.sel' [1, 2, 0] rfl rfl⟩ ?_
  clear H
  rintro m _ _ ⟨i, ρ, σ3, ds, qs, k, him, hqs, hds, ⟨q0, hk, hr⟩, rfl, rfl, H⟩
  refine c_seq ?_
  refine c_seq ?_
  refine rg ?_
  refine st (v := (I (i : Int))) (rv_move rfl) ?_
  refine st (v := (Sl aa_0 a_0 ca_0)) (rv_move rfl) ?_
  refine st (v := (I (a_0.length : Int))) (rv_len Try.underlying22 rfl) ?_
  refine st (v := (B (decide ((i : Int) < (a_0.length : Int))))) (rv_lss (a := (i : Int)) (b := (a_0.length : Int)) rfl rfl) ?_
  refine w_end ?_
  refine q_then ?_
  refine cd_cond (decide ((i : Int) < (a_0.length : Int))) rfl (fun hb => ?_) (fun hb => ?_)
  ·have hlt : i < a_0.length := by have := of_decide_eq_true hb; omega
   obtain ⟨m, rfl⟩ : ∃ m', m = m' + 1 := ⟨m - 1, by omega⟩
   obtain ⟨p, qs, rfl⟩ : ∃ p qs', qs = p :: qs' := by cases qs with
    | nil => cases hqs
    | cons p qs => exact ⟨p, qs, rfl⟩
   obtain ⟨q, hq, h1⟩ := bind_some (show (M.laws_markIntS p.1 k).bind (fun q => (M.dmarkIntSB (qs.map (·.1)) q.1).bind fun t => some (t.1, q.2 :: t.2)) = some q0 from hk)
   obtain ⟨t, ht, h2⟩ := bind_some h1
   obtain rfl := Option.some.inj h2
   replace H : Hp S0 σ0 σ3 [Ch.own lo lo (Sl aa_0 a_0 ca_0) (ds.map dsh ++ dsh p :: qs.map dsh), Ch.big (dow lo p :: qs.map (dow lo)), Ch.big (ds.map (dow 0))] := H
   refine c_skip ?_
   refine q_then ?_
   refine c_seq ?_
   refine c_blk ?_
   refine rg ?_
   refine st (v := (Sl aa_0 a_0 ca_0)) (rv_move rfl) ?_
   refine st (v := (I (i : Int))) (rv_move rfl) ?_
   have hx7 : gidx (ds.map dsh ++ dsh p :: qs.map dsh) (i : Int) = some (dsh p : Value) := gidx_mid (by rw [List.length_map]; exact hds)
   obtain ⟨b9, o10, hi8, -⟩ := (H.own 0 rfl).ix hx7
   refine st (v := (pt b9 o10)) (rv_ix Try.underlying22 ti37 rfl rfl hi8) ?_
   obtain ⟨_, ⟨rfl, hpl⟩, hl18, hc19⟩ := ((H.own 0 rfl).at hx7 hi8).cells
   replace H := Hp.unbig (H.sel' [1, 0, 2] rfl rfl)
   obtain ⟨a20, c21, h22⟩ : IsSl p.2 p.1.length := (show Ow σ3 lo lo p.2 p.1 from H.head).isSl
   obtain ⟨px, hd⟩ := p
   dsimp only at h22 hq hc19
   subst h22
   have hc20 := hc19 0 (by simp)
   refine st (v := (Sl a20 px c21)) (rv_load1 Try.underlying37 rfl rfl hc20) ?_
   refine st (v := (I k)) (rv_move rfl) ?_
   replace H : Hp S0 σ0 σ3 [Ch.own lo lo (Sl a20 px c21) px, Ch.big (qs.map (dow lo)), Ch.own lo lo (Sl aa_0 a_0 ca_0) (ds.map dsh ++ dsh (px, (Sl a20 px c21)) :: qs.map dsh), Ch.big (ds.map (dow 0))] := H
   replace H := H.ownSc 0 0 0 rfl (Nat.zero_le _)
   have hc25 := c_laws_markIntS (aa_0 := a20) (ca_0 := c21) hq
   refine st_call (cx_call hc25 (ent_f hc25.fn rfl) hn0 (H.sel' [0, 1, 2, 3] rfl rfl : Hp S0 σ0 _ ([_] ++ _))) (wanted_none _ rfl _) ?_
   rintro _ σ29 ⟨_, ⟨rfl, rfl, hn⟩, H, -⟩
   have hsl : (dsh (px, (Sl a20 px c21)) : Value) = dsh (q.2, (Sl a20 q.2 c21)) := sl_len hn.symm
   replace H : Hp S0 σ0 σ29 [Ch.own 0 0 (Sl a20 q.2 c21) q.2, Ch.big (qs.map (dow lo)), Ch.own lo lo (Sl aa_0 a_0 ca_0) (ds.map dsh ++ dsh (px, (Sl a20 px c21)) :: qs.map dsh), Ch.big (ds.map (dow 0))] := H
   rw [hsl] at H
   replace H := Hp.bigSnoc (H.sel' [0, 3, 1, 2] rfl rfl)
   replace H := H.sel' [2, 1, 0] rfl rfl
   refine st (v := (I q.1)) (rv_assign rfl) ?_
   refine w_end ?_
   refine q_blk ?_
   refine q_then ?_
   refine rg ?_
   refine st (v := (I (i : Int))) (rv_move rfl) ?_
   refine st (v := (I (w64 ((i : Int) + 1)))) (rv_add (a := (i : Int)) (b := 1) rfl rfl) ?_
   refine st (v := (I (w64 ((i : Int) + 1)))) (rv_assign rfl) ?_
   refine w_end ?_
   have e1 : w64 ((i : Int) + 1) = ((i + 1 : Nat) : Int) := w64_id (by omega) (by omega)
   rw [e1]
   refine q_then ?_
   refine ⟨m, by omega, i + 1, _, σ29, ds ++ [(q.2, (Sl a20 q.2 c21))], qs, _, by omega, by simpa using hqs, by simp [hds], ⟨t, ht, by rw [hr]; simp⟩, fr_join ⟨rfl, rfl, rfl, trivial⟩, rfl, ?_⟩
   rw [List.map_append, List.map_append, List.append_assoc]
   exact H
  ·have hlt : ¬ i < a_0.length := by have := of_decide_eq_false hb; omega
   obtain rfl : m = 0 := by omega
   obtain rfl : qs = [] := List.eq_nil_of_length_eq_zero hqs
   obtain rfl : (k, []) = q0 := Option.some.inj hk
   obtain rfl : k = r.1 := by rw [hr]
   have hr2 : ds.map (·.1) = r.2 := by rw [hr]; simp
   refine c_exit ?_
   refine q_then_x ?_
   refine q_then_x ?_
   refine q_blk_hit ?_
   rw [List.map_nil, List.append_nil] at H
   exact ⟨rfl, _, σ3, ds, fr_join ⟨rfl, trivial⟩, rfl, by omega, hr2, H.sel' [0, 2] rfl rfl⟩
 ·clear H
  rintro e a w ⟨rfl, ρ, σ41, ds, rfl, rfl, hdl, hds, H⟩
  have hlen : r.2.length = a_0.length := by rw [← hds, List.length_map]; exact hdl
  refine q_then ?_
  refine c_seq ?_
  refine rg ?_
  refine st (v := (I r.1)) (rv_move rfl) ?_
  refine st (v := (I r.1)) (rv_assign rfl) ?_
  refine w_end ?_
  refine q_then ?_
  refine c_ret ?_
  replace H := (H.ownLow 0 0 0 rfl (Nat.zero_le _) (Nat.zero_le _)).bigCons
  rw [show (Sl aa_0 a_0 ca_0) = (Sl aa_0 r.2 ca_0) from sl_len hlen.symm] at H
  obtain ⟨σ42, hw, H, -⟩ := H.dpPub 0 rfl (⟨⟨ds, hds.symm, rfl⟩⟩ : Dp 0 (Sl aa_0 r.2 ca_0) r.2 _)
  rw [← hw]
  exact fin_ret (v := (I r.1)) (results_ok Try.results13 (res_tmp (v := (I r.1)) rfl res_nil) rfl) ⟨rfl, rfl, hlen⟩ H


theorem c_laws_markItemS {a_0 : List (Int × (List Int) × Int)} {k_1 : Int} {aa_0 : Option Addr} {ca_0 : Nat} {lo : Nat} {K : List Ch} (hK : Dp lo (Sl aa_0 a_0 ca_0) a_0 K) {r : Int} (h : M.markItemD a_0 k_1 = some r) :
    Cal2 Try.prog 14 [(Sl aa_0 a_0 ca_0), (I k_1)] [Ch.big K] (fun n0 v L => v = (I r) ∧ L = []) := by
 obtain ⟨hn, h⟩ := markItemD_some h
 obtain ⟨ps, hps, rfl⟩ := hK.ex
 refine cal2 (n := 34) Try.func14 rfl rfl rfl rfl ?_
 intro S0 σ0 n0 hn0 H
 refine c_seq ?_
 refine rg ?_
 refine st (v := (I 0)) (rv_assign rfl) ?_
 refine w_end ?_
 refine q_then ?_
 refine c_seq ?_
 refine c_seq ?_
 refine rg ?_
 refine st (v := (I 0)) (rv_assign rfl) ?_
 refine w_end ?_
 refine q_then ?_
 refine c_cut (fun e a w => e = .normal ∧ ∃ (ρ : Nat → Value) (σ : St), a = fr 34 (updL ρ [(1, (I r))]) ∧ w = σ.w ∧ Hp S0 σ0 σ []) ?_ ?_
 ·refine c_blk ?_
  have hlen : ps.length = a_0.length := by rw [hps]; simp
  refine wp_loop_ghost (fun m a w => ∃ (i : Nat) (ρ : Nat → Value) (σ : St) (ys : List (Int × Value × Int)) (qs : List ((Int × (List Int) × Int) × Value)) (k : Int), i + m = a_0.length ∧ qs.length = m ∧ ys.drop i = qs.map dsh ∧ M.dmarkItemS (qs.map (·.1)) k = some r ∧ a = fr 34 (updL ρ [(0, (Sl aa_0 a_0 ca_0)), (1, (I k)), (5, (I (i : Int)))]) ∧ w = σ.w ∧ Hp S0 σ0 σ [Ch.own lo lo (Sl aa_0 a_0 ca_0) ys, Ch.big (qs.map (dow lo))]) a_0.length ⟨0, _, σ0, _, ps, k_1, by omega, hlen, rfl, hps ▸ h, fr_join ⟨rfl, rfl, rfl, trivial⟩, rfl, H.unbig⟩ ?_
  clear H
  rintro m _ _ ⟨i, ρ, σ3, ys, qs, k, him, hqs, hys, hk, rfl, rfl, H⟩
  refine c_seq ?_
  refine c_seq ?_
  refine rg ?_
  refine st (v := (I (i : Int))) (rv_move rfl) ?_
  refine st (v := (Sl aa_0 a_0 ca_0)) (rv_move rfl) ?_
  refine st (v := (I (a_0.length : Int))) (rv_len Try.underlying29 rfl) ?_
  refine st (v := (B (decide ((i : Int) < (a_0.length : Int))))) (rv_lss (a := (i : Int)) (b := (a_0.length : Int)) rfl rfl) ?_
  refine w_end ?_
  refine q_then ?_
  refine cd_cond (decide ((i : Int) < (a_0.length : Int))) rfl (fun hb => ?_) (fun hb => ?_)
  ·have hlt : i < a_0.length := by have := of_decide_eq_true hb; omega
   obtain ⟨m, rfl⟩ : ∃ m', m = m' + 1 := ⟨m - 1, by omega⟩
   obtain ⟨p, qs, rfl⟩ : ∃ p qs', qs = p :: qs' := by cases qs with
    | nil => cases hqs
    | cons p qs => exact ⟨p, qs, rfl⟩
   obtain ⟨q, hq, hk'⟩ := bind_some (show (M.laws_markIntS p.1.2.1 (w64 (k + 1))).bind (fun q => M.dmarkItemS (qs.map (·.1)) (w64 (q.1 + 1))) = some r from hk)
   replace hys : ys.drop i = dsh p :: qs.map dsh := hys
   refine c_skip ?_
   refine q_then ?_
   refine c_seq ?_
   refine c_blk ?_
   refine c_seq ?_
   refine rg ?_
   refine st (v := (Sl aa_0 a_0 ca_0)) (rv_move rfl) ?_
   refine st (v := (I (i : Int))) (rv_move rfl) ?_
   refine st (v := (I k)) (rv_move rfl) ?_
   have hx7 := gidx_drop hys
   obtain ⟨b9, o10, hi8, -⟩ := (H.own 0 rfl).ix hx7
   refine st (v := (pt b9 o10)) (rv_ix Try.underlying29 ti44 rfl rfl hi8) ?_
   refine st (v := (pt b9 (o10 + 0))) (rv_fieldAddr (off := 0) (ft := 3) Try.underlying44 rfl ti3 rfl rfl) ?_
   refine st_exS (ex_store_own (e' := ((k, p.2, p.1.2.2) : Int × Value × Int)) (vs := [(I k)]) (k := 0) H (i := 0) rfl ti3 hx7 hi8 rfl rfl rfl rfl rfl (Nat.le_of_ble_eq_true rfl) (by simp [plain]) (by rintro _ ⟨_, _, rfl, rfl, ⟨_, _, rfl, ⟨rfl, hpl⟩, rfl⟩⟩; exact ⟨[(I k)], [p.2, (I p.1.2.2)], rfl, rfl, ⟨[p.2], [(I p.1.2.2)], rfl, ⟨rfl, hpl⟩, rfl⟩⟩)) (wanted_none _ rfl _) ?_
   rintro σ11 ⟨H, -⟩
   refine w_end ?_
   refine q_then ?_
   refine c_seq ?_
   refine rg ?_
   refine st (v := (I k)) (rv_move rfl) ?_
   refine st (v := (I (w64 (k + 1)))) (rv_add (a := k) (b := 1) rfl rfl) ?_
   refine st (v := (I (w64 (k + 1)))) (rv_assign rfl) ?_
   refine w_end ?_
   refine q_then ?_
   refine c_seq ?_
   refine rg ?_
   replace hys := drop_set (e' := ((k, p.2, p.1.2.2) : Int × Value × Int)) hys
   rw [Int.toNat_natCast] at H
   generalize ys.set i ((k, p.2, p.1.2.2) : Int × Value × Int) = ys at H hys
   have hx7 := gidx_drop hys
   refine st (v := (Sl aa_0 a_0 ca_0)) (rv_move rfl) ?_
   refine st (v := (I (i : Int))) (rv_move rfl) ?_
   obtain ⟨b9, o10, hi8, -⟩ := (H.own 0 rfl).ix hx7
   refine st (v := (pt b9 o10)) (rv_ix Try.underlying29 ti44 rfl rfl hi8) ?_
   refine st (v := (pt b9 (o10 + 1))) (rv_fieldAddr (off := 1) (ft := 37) Try.underlying44 rfl ti37 rfl rfl) ?_
   obtain ⟨_, ⟨_, _, rfl, rfl, ⟨_, _, rfl, ⟨rfl, hpl⟩, rfl⟩⟩, hl18, hc19⟩ := ((H.own 0 rfl).at hx7 hi8).cells
   replace H := Hp.unbig (H.sel' [1, 0] rfl rfl)
   obtain ⟨a20, c21, h22⟩ : IsSl p.2 p.1.2.1.length := (show Ow σ11 lo lo p.2 p.1.2.1 from H.head).isSl
   obtain ⟨px, hd⟩ := p
   dsimp only at h22 hq hys hc19
   subst h22
   have hc20 := hc19 1 (by simp)
   refine st (v := (Sl a20 px.2.1 c21)) (rv_load1 Try.underlying37 rfl rfl hc20) ?_
   refine st (v := (I (w64 (k + 1)))) (rv_move rfl) ?_
   replace H : Hp S0 σ0 σ11 [Ch.own lo lo (Sl a20 px.2.1 c21) px.2.1, Ch.big (qs.map (dow lo)), Ch.own lo lo (Sl aa_0 a_0 ca_0) ys] := H
   replace H := H.ownSc 0 0 0 rfl (Nat.zero_le _)
   have hc25 := c_laws_markIntS (aa_0 := a20) (ca_0 := c21) hq
   refine st_call (cx_call hc25 (ent_f hc25.fn rfl) hn0 (H.sel' [0, 1, 2] rfl rfl : Hp S0 σ0 _ ([_] ++ _))) (wanted_none _ rfl _) ?_
   rintro _ σ29 ⟨_, ⟨rfl, rfl, -⟩, H, -⟩
   replace H : Hp S0 σ0 σ29 [Ch.own 0 0 (Sl a20 q.2 c21) q.2, Ch.big (qs.map (dow lo)), Ch.own lo lo (Sl aa_0 a_0 ca_0) ys] := H
   replace H := H.sel' [2, 1] rfl rfl
   refine st (v := (I q.1)) (rv_assign rfl) ?_
   refine w_end ?_
   refine q_then ?_
   refine c_seq ?_
   refine rg ?_
   refine st (v := (Sl aa_0 a_0 ca_0)) (rv_move rfl) ?_
   refine st (v := (I (i : Int))) (rv_move rfl) ?_
   refine st (v := (I q.1)) (rv_move rfl) ?_
   obtain ⟨b9, o10, hi8, -⟩ := (H.own 0 rfl).ix hx7
   refine st (v := (pt b9 o10)) (rv_ix Try.underlying29 ti44 rfl rfl hi8) ?_
   refine st (v := (pt b9 (o10 + 2))) (rv_fieldAddr (off := 2) (ft := 3) Try.underlying44 rfl ti3 rfl rfl) ?_
   refine st_exS (ex_store_own (e' := ((k, (Sl a20 px.2.1 c21), q.1) : Int × Value × Int)) (vs := [(I q.1)]) (k := 2) H (i := 0) rfl ti3 hx7 hi8 rfl rfl rfl rfl rfl (Nat.le_of_ble_eq_true rfl) (by simp [plain]) (by rintro _ ⟨_, _, rfl, rfl, ⟨_, _, rfl, ⟨rfl, hpl⟩, rfl⟩⟩; exact ⟨[(I k)], [(Sl a20 px.2.1 c21), (I q.1)], rfl, rfl, ⟨[(Sl a20 px.2.1 c21)], [(I q.1)], rfl, ⟨rfl, hpl⟩, rfl⟩⟩)) (wanted_none _ rfl _) ?_
   rintro σ30 ⟨H, -⟩
   refine w_end ?_
   refine q_then ?_
   refine rg ?_
   refine st (v := (I q.1)) (rv_move rfl) ?_
   refine st (v := (I (w64 (q.1 + 1)))) (rv_add (a := q.1) (b := 1) rfl rfl) ?_
   refine st (v := (I (w64 (q.1 + 1)))) (rv_assign rfl) ?_
   refine w_end ?_
   refine q_blk ?_
   refine q_then ?_
   refine rg ?_
   refine st (v := (I (i : Int))) (rv_move rfl) ?_
   refine st (v := (I (w64 ((i : Int) + 1)))) (rv_add (a := (i : Int)) (b := 1) rfl rfl) ?_
   refine st (v := (I (w64 ((i : Int) + 1)))) (rv_assign rfl) ?_
   refine w_end ?_
   have e1 : w64 ((i : Int) + 1) = ((i + 1 : Nat) : Int) := w64_id (by omega) (by omega)
   rw [e1]
   refine q_then ?_
   rw [Int.toNat_natCast] at H
   exact ⟨m, by omega, i + 1, _, σ30, _, qs, _, by omega, by simpa using hqs, drop_next (drop_set hys), hk', fr_join ⟨rfl, rfl, rfl, trivial⟩, rfl, H⟩
  ·have hlt : ¬ i < a_0.length := by have := of_decide_eq_false hb; omega
   obtain rfl : m = 0 := by omega
   obtain rfl : qs = [] := List.eq_nil_of_length_eq_zero hqs
   obtain rfl : k = r := Option.some.inj hk
   refine c_exit ?_
   refine q_then_x ?_
   refine q_then_x ?_
   refine q_blk_hit ?_
   exact ⟨rfl, _, σ3, fr_join ⟨rfl, trivial⟩, rfl, H.sel' [] rfl rfl⟩
 ·clear H
  rintro e a w ⟨rfl, ρ, σ41, rfl, rfl, H⟩
  refine q_then ?_
  refine c_seq ?_
  refine rg ?_
  refine st (v := (I r)) (rv_move rfl) ?_
  refine st (v := (I r)) (rv_assign rfl) ?_
  refine w_end ?_
  refine q_then ?_
  refine c_ret ?_
  exact fin_ret (v := (I r)) (results_ok Try.results14 (res_tmp (v := (I r)) rfl res_nil) rfl) ⟨rfl, rfl⟩ H


theorem c_laws_heldIntS {a_0 : List Int} {k_1 : Int} {aa_0 : Option Addr} {ca_0 : Nat} {r : Int} (h : M.laws_heldIntS a_0 k_1 = some r) :
    Cal2 Try.prog 34 [(Sl aa_0 a_0 ca_0), (I k_1)] [Ch.ro 0 (Sl aa_0 a_0 ca_0) a_0] (fun n0 v L => v = (I r) ∧ L = []) := by
 refine cal2 (n := 21) Try.func34 rfl rfl rfl rfl ?_
 intro S0 σ0 n0 hn0 H
 unfold M.laws_heldIntS at h
 refine c_seq ?_
 refine rg ?_
 refine st (v := (I 0)) (rv_assign rfl) ?_
 refine w_end ?_
 refine q_then ?_
 refine c_seq ?_
 refine c_seq ?_
 refine rg ?_
 refine st (v := (I 0)) (rv_assign rfl) ?_
 refine w_end ?_
 refine q_then ?_
 obtain ⟨o1, hj, h'⟩ := bind_some h
 clear h
 refine c_cut (fun e a w => (∃ t, o1 = (.inl t) ∧ e = .normal ∧ ∃ (ρ : Nat → Value) (σ : St), a = fr 21 (updL ρ [(1, (I t))]) ∧ w = σ.w ∧ Hp S0 σ0 σ []) ∨ (∃ t, o1 = (.inr t) ∧ e = .ret ∧ ∃ (ρ : Nat → Value) (σ : St), a = fr 21 (updL ρ [(4, (I t))]) ∧ w = σ.w ∧ Hp S0 σ0 σ [])) ?_ ?_
 ·clear h'
  rename _ = some o1 => h
  refine c_blk ?_
  refine wp_loopM _ h (fun s2 a w => ∃ (ρ : Nat → Value) (σ : St), a = fr 21 (updL ρ [(0, (Sl aa_0 a_0 ca_0)), (1, (I s2.1)), (5, (I s2.2))]) ∧ w = σ.w ∧ Hp S0 σ0 σ [Ch.ro 0 (Sl aa_0 a_0 ca_0) a_0]) ⟨_, σ0, fr_join ⟨rfl, rfl, rfl, trivial⟩, rfl, H.sel' [0] rfl rfl⟩ ?_
  clear h H
  rintro s2 a w o ⟨ρ, σ3, rfl, rfl, H⟩ h hres
  refine c_seq ?_
  refine c_seq ?_
  refine rg ?_
  refine st (v := (I s2.2)) (rv_move rfl) ?_
  refine st (v := (Sl aa_0 a_0 ca_0)) (rv_move rfl) ?_
  refine st (v := (I (a_0.length : Int))) (rv_len Try.underlying37 rfl) ?_
  refine st (v := (B (decide (s2.2 < (a_0.length : Int))))) (rv_lss (a := s2.2) (b := (a_0.length : Int)) rfl rfl) ?_
  refine w_end ?_
  refine q_then ?_
  refine cd_cond (decide (s2.2 < (a_0.length : Int))) rfl (fun hb4 => ?_) (fun hb4 => ?_)
  ·replace h := bif_t hb4 h
   refine c_skip ?_
   refine q_then ?_
   refine c_seq ?_
   refine c_blk ?_
   refine c_seq ?_
   refine c_seq ?_
   refine rg ?_
   refine st (v := (Sl aa_0 a_0 ca_0)) (rv_move rfl) ?_
   refine st (v := (I s2.2)) (rv_move rfl) ?_
   obtain ⟨x5, hx6, h'⟩ := bind_some h
   clear h
   have h := h'; clear h'
   obtain ⟨b8, o9, hi7, -⟩ := (H.ro 0 rfl).ix hx6
   refine st (v := (pt b8 o9)) (rv_ix Try.underlying37 ti3 rfl rfl hi7) ?_
   have hc10 := ((H.ro 0 rfl).at hx6 hi7).int
   refine st (v := (I x5)) (rv_load1 Try.underlying3 rfl rfl hc10) ?_
   refine st (v := (I s2.1)) (rv_move rfl) ?_
   refine st (v := (B (x5 != s2.1))) (rv_neq (a := x5) (b := s2.1) rfl rfl) ?_
   refine w_end ?_
   refine q_then ?_
   refine cd_cond (x5 != s2.1) rfl (fun hb11 => ?_) (fun hb11 => ?_)
   ·replace h := bif_t hb11 h
    refine c_seq ?_
    refine rg ?_
    refine st (v := (I (-1))) (rv_assign rfl) ?_
    refine w_end ?_
    refine q_then ?_
    refine c_ret ?_
    refine q_then_r ?_
    refine q_blk_r ?_
    refine q_then_r ?_
    refine q_then_r ?_
    refine q_blk_r ?_
    obtain rfl := Option.some.inj h
    obtain rfl := hres _ rfl
    exact .inr (⟨_, rfl, rfl, _, σ3, fr_join ⟨rfl, trivial⟩, rfl, H.sel' [] rfl rfl⟩)
   ·replace h := bif_f hb11 h
    refine c_skip ?_
    refine q_then ?_
    refine rg ?_
    refine st (v := (I s2.1)) (rv_move rfl) ?_
    refine st (v := (I (w64 (s2.1 + 1)))) (rv_add (a := s2.1) (b := 1) rfl rfl) ?_
    refine st (v := (I (w64 (s2.1 + 1)))) (rv_assign rfl) ?_
    refine w_end ?_
    refine q_blk ?_
    refine q_then ?_
    refine rg ?_
    refine st (v := (I s2.2)) (rv_move rfl) ?_
    refine st (v := (I (w64 (s2.2 + 1)))) (rv_add (a := s2.2) (b := 1) rfl rfl) ?_
    refine st (v := (I (w64 (s2.2 + 1)))) (rv_assign rfl) ?_
    refine w_end ?_
    refine q_then ?_
    obtain rfl := Option.some.inj h
    exact ⟨_, rfl, _, σ3, fr_join ⟨rfl, rfl, rfl, trivial⟩, rfl, H.sel' [0] rfl rfl⟩
  ·replace h := bif_f hb4 h
   refine c_exit ?_
   refine q_then_x ?_
   refine q_then_x ?_
   refine q_blk_hit ?_
   obtain rfl := Option.some.inj h
   obtain rfl := hres _ rfl
   exact .inl ⟨_, rfl, rfl, _, σ3, fr_join ⟨rfl, trivial⟩, rfl, H.sel' [] rfl rfl⟩
 ·clear hj
  have h := h'
  clear h' H
  rintro e a w (⟨t12, rfl, rfl, ρ, σ13, rfl, rfl, H⟩ | ⟨t14, rfl, rfl, ρ, σ15, rfl, rfl, H⟩)
  ·replace h := selim_l h
   refine q_then ?_
   refine c_seq ?_
   refine rg ?_
   refine st (v := (I t12)) (rv_move rfl) ?_
   refine st (v := (I t12)) (rv_assign rfl) ?_
   refine w_end ?_
   refine q_then ?_
   refine c_ret ?_
   obtain rfl := Option.some.inj h
   exact fin_ret (v := (I t12)) (results_ok Try.results34 (res_tmp (v := (I t12)) rfl res_nil) rfl) ⟨rfl, rfl⟩ (H.sel' [] rfl rfl)
  ·replace h := selim_r h
   refine q_then_r ?_
   obtain rfl := Option.some.inj h
   exact fin_ret (v := (I t14)) (results_ok Try.results34 (res_tmp (v := (I t14)) rfl res_nil) rfl) ⟨rfl, rfl⟩ (H.sel' [] rfl rfl)

theorem c_laws_heldIntSS {a_0 : List (List Int)} {k_1 : Int} {aa_0 : Option Addr} {ca_0 : Nat} {r : Int} (h : M.laws_heldIntSS a_0 k_1 = some r) :
    Cal2 Try.prog 15 [(Sl aa_0 a_0 ca_0), (I k_1)] [Ch.ro 0 (Sl aa_0 a_0 ca_0) a_0] (fun n0 v L => v = (I r) ∧ L = []) := by
 refine cal2 (n := 21) Try.func15 rfl rfl rfl rfl ?_
 intro S0 σ0 n0 hn0 H
 unfold M.laws_heldIntSS at h
 refine c_seq ?_
 refine rg ?_
 refine st (v := (I 0)) (rv_assign rfl) ?_
 refine w_end ?_
 refine q_then ?_
 refine c_seq ?_
 refine c_seq ?_
 refine rg ?_
 refine st (v := (I 0)) (rv_assign rfl) ?_
 refine w_end ?_
 refine q_then ?_
 obtain ⟨o1, hj, h'⟩ := bind_some h
 clear h
 refine c_cut (fun e a w => (∃ t, o1 = (.inl t) ∧ e = .normal ∧ ∃ (ρ : Nat → Value) (σ : St), a = fr 21 (updL ρ [(1, (I t))]) ∧ w = σ.w ∧ Hp S0 σ0 σ []) ∨ (∃ t, o1 = (.inr t) ∧ e = .ret ∧ ∃ (ρ : Nat → Value) (σ : St), a = fr 21 (updL ρ [(4, (I t))]) ∧ w = σ.w ∧ Hp S0 σ0 σ [])) ?_ ?_
 ·clear h'
  rename _ = some o1 => h
  refine c_blk ?_
  refine wp_loopM _ h (fun s2 a w => ∃ (ρ : Nat → Value) (σ : St), a = fr 21 (updL ρ [(0, (Sl aa_0 a_0 ca_0)), (1, (I s2.1)), (5, (I s2.2))]) ∧ w = σ.w ∧ Hp S0 σ0 σ [Ch.ro 0 (Sl aa_0 a_0 ca_0) a_0]) ⟨_, σ0, fr_join ⟨rfl, rfl, rfl, trivial⟩, rfl, H.sel' [0] rfl rfl⟩ ?_
  clear h H
  rintro s2 a w o ⟨ρ, σ3, rfl, rfl, H⟩ h hres
  refine c_seq ?_
  refine c_seq ?_
  refine rg ?_
  refine st (v := (I s2.2)) (rv_move rfl) ?_
  refine st (v := (Sl aa_0 a_0 ca_0)) (rv_move rfl) ?_
  refine st (v := (I (a_0.length : Int))) (rv_len Try.underlying22 rfl) ?_
  refine st (v := (B (decide (s2.2 < (a_0.length : Int))))) (rv_lss (a := s2.2) (b := (a_0.length : Int)) rfl rfl) ?_
  refine w_end ?_
  refine q_then ?_
  refine cd_cond (decide (s2.2 < (a_0.length : Int))) rfl (fun hb4 => ?_) (fun hb4 => ?_)
  ·replace h := bif_t hb4 h
   refine c_skip ?_
   refine q_then ?_
   refine c_seq ?_
   refine c_blk ?_
   refine c_seq ?_
   refine rg ?_
   refine st (v := (Sl aa_0 a_0 ca_0)) (rv_move rfl) ?_
   refine st (v := (I s2.2)) (rv_move rfl) ?_
   obtain ⟨x5, hx6, h'⟩ := bind_some h
   clear h
   have h := h'; clear h'
   obtain ⟨b8, o9, hi7, -⟩ := (H.ro 0 rfl).ix hx6
   refine st (v := (pt b8 o9)) (rv_ix Try.underlying22 ti37 rfl rfl hi7) ?_
   obtain ⟨v13, hc14, hR12⟩ := ((H.ro 0 rfl).at hx6 hi7).slice
   obtain ⟨a10, c11, rfl⟩ := hR12.isSl
   replace H := H.add (d := Ch.ro 0 (Sl a10 x5 c11) x5) hR12 (fun _ h => h)
   clear hR12
   refine st (v := (Sl a10 x5 c11)) (rv_load1 Try.underlying37 rfl rfl hc14) ?_
   refine st (v := (I s2.1)) (rv_move rfl) ?_
   obtain ⟨r15, hx16, h'⟩ := bind_some h
   clear h
   have h := h'; clear h'
   have hc17 := c_laws_heldIntS (aa_0 := a10) (ca_0 := c11) hx16
   refine st_call (cx_call hc17 (ent_f hc17.fn rfl) hn0 (show Hp S0 σ0 _ ([Ch.ro 0 (Sl a10 x5 c11) x5] ++ [Ch.ro 0 (Sl a10 x5 c11) x5, Ch.ro 0 (Sl aa_0 a_0 ca_0) a_0]) from (H.sel' [0, 0, 1] rfl rfl))) wn ?_
   rintro _ σ18 ⟨_, ⟨rfl, rfl⟩, H, -⟩
   replace H : Hp S0 σ0 σ18 [Ch.ro 0 (Sl a10 x5 c11) x5, Ch.ro 0 (Sl aa_0 a_0 ca_0) a_0] := H
   refine st (v := (I r15)) (rv_assign rfl) ?_
   refine w_end ?_
   refine q_then ?_
   refine c_seq ?_
   refine rg ?_
   refine st (v := (I r15)) (rv_move rfl) ?_
   refine st (v := (B (decide (r15 < 0)))) (rv_lss (a := r15) (b := 0) rfl rfl) ?_
   refine w_end ?_
   refine q_then ?_
   refine cd_cond (decide (r15 < 0)) rfl (fun hb19 => ?_) (fun hb19 => ?_)
   ·replace h := bif_t hb19 h
    refine c_seq ?_
    refine rg ?_
    refine st (v := (I (-1))) (rv_assign rfl) ?_
    refine w_end ?_
    refine q_then ?_
    refine c_ret ?_
    refine q_blk_r ?_
    refine q_then_r ?_
    refine q_then_r ?_
    refine q_blk_r ?_
    obtain rfl := Option.some.inj h
    obtain rfl := hres _ rfl
    exact .inr (⟨_, rfl, rfl, _, σ18, fr_join ⟨rfl, trivial⟩, rfl, H.sel' [] rfl rfl⟩)
   ·replace h := bif_f hb19 h
    refine c_skip ?_
    refine q_blk ?_
    refine q_then ?_
    refine rg ?_
    refine st (v := (I s2.2)) (rv_move rfl) ?_
    refine st (v := (I (w64 (s2.2 + 1)))) (rv_add (a := s2.2) (b := 1) rfl rfl) ?_
    refine st (v := (I (w64 (s2.2 + 1)))) (rv_assign rfl) ?_
    refine w_end ?_
    refine q_then ?_
    obtain rfl := Option.some.inj h
    exact ⟨_, rfl, _, σ18, fr_join ⟨rfl, rfl, rfl, trivial⟩, rfl, H.sel' [1] rfl rfl⟩
  ·replace h := bif_f hb4 h
   refine c_exit ?_
   refine q_then_x ?_
   refine q_then_x ?_
   refine q_blk_hit ?_
   obtain rfl := Option.some.inj h
   obtain rfl := hres _ rfl
   exact .inl ⟨_, rfl, rfl, _, σ3, fr_join ⟨rfl, trivial⟩, rfl, H.sel' [] rfl rfl⟩
 ·clear hj
  have h := h'
  clear h' H
  rintro e a w (⟨t20, rfl, rfl, ρ, σ21, rfl, rfl, H⟩ | ⟨t22, rfl, rfl, ρ, σ23, rfl, rfl, H⟩)
  ·replace h := selim_l h
   refine q_then ?_
   refine c_seq ?_
   refine rg ?_
   refine st (v := (I t20)) (rv_move rfl) ?_
   refine st (v := (I t20)) (rv_assign rfl) ?_
   refine w_end ?_
   refine q_then ?_
   refine c_ret ?_
   obtain rfl := Option.some.inj h
   exact fin_ret (v := (I t20)) (results_ok Try.results15 (res_tmp (v := (I t20)) rfl res_nil) rfl) ⟨rfl, rfl⟩ (H.sel' [] rfl rfl)
  ·replace h := selim_r h
   refine q_then_r ?_
   obtain rfl := Option.some.inj h
   exact fin_ret (v := (I t22)) (results_ok Try.results15 (res_tmp (v := (I t22)) rfl res_nil) rfl) ⟨rfl, rfl⟩ (H.sel' [] rfl rfl)

theorem c_laws_FnExactSettleCentres {aCentres_0 : List (List Int)} {aList_1 : List (Int × (List Int) × Int)} {aaCentres_0 : Option Addr} {caCentres_0 : Nat} {aaList_1 : Option Addr} {caList_1 : Nat} {r : Bool} (h : M.laws_FnExactSettleCentres aCentres_0 aList_1 = some r) :
    Cal2 Try.prog 3 [(Sl aaCentres_0 aCentres_0 caCentres_0), (Sl aaList_1 aList_1 caList_1)] [Ch.ro 0 (Sl aaCentres_0 aCentres_0 caCentres_0) aCentres_0, Ch.ro 0 (Sl aaList_1 aList_1 caList_1) aList_1] (fun n0 v L => v = (B r) ∧ L = []) := by
 refine cal2 (n := 119) Try.func3 rfl rfl rfl rfl ?_
 intro S0 σ0 n0 hn0 H
 unfold M.laws_FnExactSettleCentres at h
 refine c_seq ?_
 refine rg ?_
 refine st (v := (B false)) (rv_assign rfl) ?_
 refine w_end ?_
 refine q_then ?_
 refine c_seq ?_
 refine rg ?_
 refine st (v := (I 1048576)) (rv_assign rfl) ?_
 refine w_end ?_
 refine q_then ?_
 refine c_seq ?_
 refine rg ?_
 refine st (v := (Sl aaCentres_0 aCentres_0 caCentres_0)) (rv_move rfl) ?_
 refine st (v := (I 1048576)) (rv_move rfl) ?_
 obtain ⟨r1, hx2, h'⟩ := bind_some h
 clear h
 have h := h'; clear h'
 have hc3 := c_laws_szIntSS (aa_0 := aaCentres_0) (ca_0 := caCentres_0) hx2
 refine st_call (cx_call hc3 (ent_f hc3.fn rfl) hn0 (show Hp S0 σ0 _ ([Ch.ro 0 (Sl aaCentres_0 aCentres_0 caCentres_0) aCentres_0] ++ [Ch.ro 0 (Sl aaCentres_0 aCentres_0 caCentres_0) aCentres_0, Ch.ro 0 (Sl aaList_1 aList_1 caList_1) aList_1]) from (H.sel' [0, 0, 1] rfl rfl))) wn ?_
 rintro _ σ4 ⟨_, ⟨rfl, rfl⟩, H, -⟩
 replace H : Hp S0 σ0 σ4 [Ch.ro 0 (Sl aaCentres_0 aCentres_0 caCentres_0) aCentres_0, Ch.ro 0 (Sl aaList_1 aList_1 caList_1) aList_1] := H
 refine st (v := (I r1)) (rv_assign rfl) ?_
 refine w_end ?_
 refine q_then ?_
 refine c_seq ?_
 refine c_seq ?_
 refine rg ?_
 refine st (v := (I r1)) (rv_move rfl) ?_
 refine st (v := (B (decide (r1 < 0)))) (rv_lss (a := r1) (b := 0) rfl rfl) ?_
 refine w_end ?_
 refine q_then ?_
 refine cd_cond (decide (r1 < 0)) rfl (fun hb5 => ?_) (fun hb5 => ?_)
 ·replace h := bif_t hb5 h
  refine c_seq ?_
  refine rg ?_
  refine st (v := (B true)) (rv_assign rfl) ?_
  refine w_end ?_
  refine q_then ?_
  refine c_ret ?_
  refine q_then_r ?_
  obtain rfl := Option.some.inj h
  exact fin_ret (v := (B true)) (results_ok Try.results3 (res_tmp (v := (B true)) rfl res_nil) rfl) ⟨rfl, rfl⟩ (H.sel' [] rfl rfl)
 ·replace h := bif_f hb5 h
  refine c_skip ?_
  refine q_then ?_
  refine c_seq ?_
  refine rg ?_
  refine st (v := (Sl aaList_1 aList_1 caList_1)) (rv_move rfl) ?_
  refine st (v := (I r1)) (rv_move rfl) ?_
  obtain ⟨r6, hx7, h'⟩ := bind_some h
  clear h
  have h := h'; clear h'
  have hc8 := c_laws_szItemS (aa_0 := aaList_1) (ca_0 := caList_1) hx7
  refine st_call (cx_call hc8 (ent_f hc8.fn rfl) hn0 (show Hp S0 σ0 _ ([Ch.ro 0 (Sl aaList_1 aList_1 caList_1) aList_1] ++ [Ch.ro 0 (Sl aaCentres_0 aCentres_0 caCentres_0) aCentres_0, Ch.ro 0 (Sl aaList_1 aList_1 caList_1) aList_1]) from (H.sel' [1, 0, 1] rfl rfl))) wn ?_
  rintro _ σ9 ⟨_, ⟨rfl, rfl⟩, H, -⟩
  replace H : Hp S0 σ0 σ9 [Ch.ro 0 (Sl aaCentres_0 aCentres_0 caCentres_0) aCentres_0, Ch.ro 0 (Sl aaList_1 aList_1 caList_1) aList_1] := H
  refine st (v := (I r6)) (rv_assign rfl) ?_
  refine w_end ?_
  refine q_then ?_
  refine c_seq ?_
  refine c_seq ?_
  refine rg ?_
  refine st (v := (I r6)) (rv_move rfl) ?_
  refine st (v := (B (decide (r6 < 0)))) (rv_lss (a := r6) (b := 0) rfl rfl) ?_
  refine w_end ?_
  refine q_then ?_
  refine cd_cond (decide (r6 < 0)) rfl (fun hb10 => ?_) (fun hb10 => ?_)
  ·replace h := bif_t hb10 h
   refine c_seq ?_
   refine rg ?_
   refine st (v := (B true)) (rv_assign rfl) ?_
   refine w_end ?_
   refine q_then ?_
   refine c_ret ?_
   refine q_then_r ?_
   obtain rfl := Option.some.inj h
   exact fin_ret (v := (B true)) (results_ok Try.results3 (res_tmp (v := (B true)) rfl res_nil) rfl) ⟨rfl, rfl⟩ (H.sel' [] rfl rfl)
  ·replace h := bif_f hb10 h
   refine c_skip ?_
   refine q_then ?_
   refine c_seq ?_
   refine rg ?_
   refine st (v := (Sl aaCentres_0 aCentres_0 caCentres_0)) (rv_move rfl) ?_
   obtain ⟨r11, hx12, h'⟩ := bind_some h
   clear h
   have h := h'; clear h'
   have hc13 := c_laws_toIntSS (aa_0 := aaCentres_0) (ca_0 := caCentres_0) hx12
   refine st_call (cx_call hc13 (ent_f hc13.fn rfl) hn0 (show Hp S0 σ0 _ ([Ch.ro 0 (Sl aaCentres_0 aCentres_0 caCentres_0) aCentres_0] ++ [Ch.ro 0 (Sl aaCentres_0 aCentres_0 caCentres_0) aCentres_0, Ch.ro 0 (Sl aaList_1 aList_1 caList_1) aList_1]) from (H.sel' [0, 0, 1] rfl rfl))) wn ?_
   rintro _ σ18 ⟨_, ⟨a14, c15, K16, rfl, rfl, hK17⟩, H, -⟩
   replace H : Hp S0 σ0 σ18 [Ch.big K16, Ch.ro 0 (Sl aaCentres_0 aCentres_0 caCentres_0) aCentres_0, Ch.ro 0 (Sl aaList_1 aList_1 caList_1) aList_1] := H
   refine st (v := (Sl aaList_1 aList_1 caList_1)) (rv_move rfl) ?_
   obtain ⟨r19, hx20, h'⟩ := bind_some h
   clear h
   have h := h'; clear h'
   have hc21 := c_laws_toItemS (aa_0 := aaList_1) (ca_0 := caList_1) hx20
   refine st_call (cx_call hc21 (ent_f hc21.fn rfl) hn0 (show Hp S0 σ0 _ ([Ch.ro 0 (Sl aaList_1 aList_1 caList_1) aList_1] ++ [Ch.big K16, Ch.ro 0 (Sl aaCentres_0 aCentres_0 caCentres_0) aCentres_0, Ch.ro 0 (Sl aaList_1 aList_1 caList_1) aList_1]) from (H.sel' [2, 0, 1, 2] rfl rfl))) wn ?_
   rintro _ σ26 ⟨_, ⟨a22, c23, K24, rfl, rfl, hK25⟩, H, -⟩
   replace H : Hp S0 σ0 σ26 [Ch.big K24, Ch.big K16, Ch.ro 0 (Sl aaCentres_0 aCentres_0 caCentres_0) aCentres_0, Ch.ro 0 (Sl aaList_1 aList_1 caList_1) aList_1] := H
   obtain ⟨r27, hx28, h'⟩ := bind_some h
   clear h
   have h := h'; clear h'
   have hc29 := c_spec_SettleCentres (acentres_0 := a14) (ccentres_0 := c15) (alist_1 := a22) (clist_1 := c23) hx28
   have hle := Nat.le_trans hn0 H.size
   refine st_call (cx_lend (Loan.lendB hK17.lends (Loan.lendB hK25.lends Loan.nil)) hc29 (ent_f hc29.fn rfl) (show Hp S0 σ0 _ ([Ch.big K16, Ch.big K24] ++ ([] ++ [Ch.ro 0 (Sl aaCentres_0 aCentres_0 caCentres_0) aCentres_0, Ch.ro 0 (Sl aaList_1 aList_1 caList_1) aList_1])) from (H.sel' [1, 0, 2, 3] rfl rfl)) (by rintro _ _ _ ⟨_, _, rfl, rfl⟩; exact ⟨Ab.own (Nat.le_refl _), trivial⟩)) wn ?_
   rintro _ σ32 ⟨_, ⟨a30, c31, rfl, rfl⟩, H, -, -⟩
   replace H : Hp S0 σ0 σ32 [Ch.own σ26.size σ26.size (Sl a30 r27.1 c31) r27.1, Ch.big K16, Ch.big K24, Ch.ro 0 (Sl aaCentres_0 aCentres_0 caCentres_0) aCentres_0, Ch.ro 0 (Sl aaList_1 aList_1 caList_1) aList_1] := H
   replace H := H.ownLow 0 n0 n0 rfl hle hle
   clear hle
   replace H : Hp S0 σ0 σ32 [Ch.own n0 n0 (Sl a30 r27.1 c31) r27.1, Ch.big K16, Ch.big K24, Ch.ro 0 (Sl aaCentres_0 aCentres_0 caCentres_0) aCentres_0, Ch.ro 0 (Sl aaList_1 aList_1 caList_1) aList_1] := H
   refine st (v := (.tuple #[(Sl a30 r27.1 c31), (I r27.2)])) (rv_move rfl) ?_
   refine st (v := (Sl a30 r27.1 c31)) (rv_extract rfl rfl) ?_
   refine st (v := (I r27.2)) (rv_extract rfl rfl) ?_
   refine st (v := (Sl a30 r27.1 c31)) (rv_assign rfl) ?_
   refine st (v := (I r27.2)) (rv_assign rfl) ?_
   refine w_end ?_
   refine q_then ?_
   refine c_seq ?_
   refine rg ?_
   refine st (v := (Sl aaCentres_0 aCentres_0 caCentres_0)) (rv_move rfl) ?_
   obtain ⟨r33, hx34, h'⟩ := bind_some h
   clear h
   have h := h'; clear h'
   have hc35 := c_laws_toIntSS (aa_0 := aaCentres_0) (ca_0 := caCentres_0) hx34
   refine st_call (cx_call hc35 (ent_f hc35.fn rfl) hn0 (show Hp S0 σ0 _ ([Ch.ro 0 (Sl aaCentres_0 aCentres_0 caCentres_0) aCentres_0] ++ [Ch.own n0 n0 (Sl a30 r27.1 c31) r27.1, Ch.big K16, Ch.big K24, Ch.ro 0 (Sl aaCentres_0 aCentres_0 caCentres_0) aCentres_0, Ch.ro 0 (Sl aaList_1 aList_1 caList_1) aList_1]) from (H.sel' [3, 0, 1, 2, 3, 4] rfl rfl))) wn ?_
   rintro _ σ40 ⟨_, ⟨a36, c37, K38, rfl, rfl, hK39⟩, H, -⟩
   replace H : Hp S0 σ0 σ40 [Ch.big K38, Ch.own n0 n0 (Sl a30 r27.1 c31) r27.1, Ch.big K16, Ch.big K24, Ch.ro 0 (Sl aaCentres_0 aCentres_0 caCentres_0) aCentres_0, Ch.ro 0 (Sl aaList_1 aList_1 caList_1) aList_1] := H
   refine st (v := (Sl a36 r33 c37)) (rv_assign rfl) ?_
   refine w_end ?_
   refine q_then ?_
   refine c_seq ?_
   refine rg ?_
   refine st (v := (Sl aaList_1 aList_1 caList_1)) (rv_move rfl) ?_
   obtain ⟨r41, hx42, h'⟩ := bind_some h
   clear h
   have h := h'; clear h'
   have hc43 := c_laws_toItemS (aa_0 := aaList_1) (ca_0 := caList_1) hx42
   refine st_call (cx_call hc43 (ent_f hc43.fn rfl) hn0 (show Hp S0 σ0 _ ([Ch.ro 0 (Sl aaList_1 aList_1 caList_1) aList_1] ++ [Ch.big K38, Ch.own n0 n0 (Sl a30 r27.1 c31) r27.1, Ch.big K16, Ch.big K24, Ch.ro 0 (Sl aaCentres_0 aCentres_0 caCentres_0) aCentres_0, Ch.ro 0 (Sl aaList_1 aList_1 caList_1) aList_1]) from (H.sel' [5, 0, 1, 2, 3, 4, 5] rfl rfl))) wn ?_
   rintro _ σ48 ⟨_, ⟨a44, c45, K46, rfl, rfl, hK47⟩, H, -⟩
   replace H : Hp S0 σ0 σ48 [Ch.big K46, Ch.big K38, Ch.own n0 n0 (Sl a30 r27.1 c31) r27.1, Ch.big K16, Ch.big K24, Ch.ro 0 (Sl aaCentres_0 aCentres_0 caCentres_0) aCentres_0, Ch.ro 0 (Sl aaList_1 aList_1 caList_1) aList_1] := H
   refine st (v := (Sl a44 r41 c45)) (rv_assign rfl) ?_
   refine w_end ?_
   refine q_then ?_
   refine c_seq ?_
   refine rg ?_
   refine st (v := (Sl a36 r33 c37)) (rv_move rfl) ?_
   refine st (v := (Sl a44 r41 c45)) (rv_move rfl) ?_
   obtain ⟨r49, hx50, h'⟩ := bind_some h
   clear h
   have h := h'; clear h'
   have hc51 := c_impl_SettleCentres (acentres_0 := a36) (ccentres_0 := c37) (alist_1 := a44) (clist_1 := c45) hx50
   have hle := Nat.le_trans hn0 H.size
   refine st_call (cx_lend (Loan.lendB hK39.lends (Loan.lendB hK47.lends Loan.nil)) hc51 (ent_f hc51.fn rfl) (show Hp S0 σ0 _ ([Ch.big K38, Ch.big K46] ++ ([] ++ [Ch.own n0 n0 (Sl a30 r27.1 c31) r27.1, Ch.big K16, Ch.big K24, Ch.ro 0 (Sl aaCentres_0 aCentres_0 caCentres_0) aCentres_0, Ch.ro 0 (Sl aaList_1 aList_1 caList_1) aList_1])) from (H.sel' [1, 0, 2, 3, 4, 5, 6] rfl rfl)) (by rintro _ _ _ ⟨_, _, _, rfl, rfl, hK55⟩; exact ⟨Dp.abSc hK55, trivial⟩)) wn ?_
   rintro _ σ56 ⟨_, ⟨a52, c53, K54, rfl, rfl, hK55⟩, H, -, -⟩
   replace H : Hp S0 σ0 σ56 [Ch.big K54, Ch.big K38, Ch.big K46, Ch.own n0 n0 (Sl a30 r27.1 c31) r27.1, Ch.big K16, Ch.big K24, Ch.ro 0 (Sl aaCentres_0 aCentres_0 caCentres_0) aCentres_0, Ch.ro 0 (Sl aaList_1 aList_1 caList_1) aList_1] := H
   clear hle
   replace H : Hp S0 σ0 σ56 [Ch.big K54, Ch.big K38, Ch.big K46, Ch.own n0 n0 (Sl a30 r27.1 c31) r27.1, Ch.big K16, Ch.big K24, Ch.ro 0 (Sl aaCentres_0 aCentres_0 caCentres_0) aCentres_0, Ch.ro 0 (Sl aaList_1 aList_1 caList_1) aList_1] := H
   replace H : Hp S0 σ0 σ56 [Ch.big K54, Ch.big K38, Ch.big K46, Ch.own n0 n0 (Sl a30 r27.1 c31) r27.1, Ch.ro 0 (Sl aaCentres_0 aCentres_0 caCentres_0) aCentres_0, Ch.ro 0 (Sl aaList_1 aList_1 caList_1) aList_1] := H.sel' [0, 1, 2, 3, 6, 7] rfl rfl
   refine st (v := (.tuple #[(Sl a52 r49.1 c53), (I r49.2)])) (rv_move rfl) ?_
   refine st (v := (Sl a52 r49.1 c53)) (rv_extract rfl rfl) ?_
   refine st (v := (I r49.2)) (rv_extract rfl rfl) ?_
   refine st (v := (Sl a52 r49.1 c53)) (rv_assign rfl) ?_
   refine st (v := (I r49.2)) (rv_assign rfl) ?_
   refine w_end ?_
   refine q_then ?_
   refine c_seq ?_
   refine c_seq ?_
   obtain ⟨o57, hj, h'⟩ := bind_some h
   clear h
   refine c_cut (fun e a w => e = .normal ∧ ∃ (ρ : Nat → Value) (σ : St), a = fr 119 (updL ρ [(0, (Sl aaCentres_0 aCentres_0 caCentres_0)), (1, (Sl aaList_1 aList_1 caList_1)), (6, (Sl a30 r27.1 c31)), (7, (I r27.2)), (8, (Sl a36 r33 c37)), (9, (Sl a44 r41 c45)), (10, (Sl a52 r49.1 c53)), (11, (I r49.2)), (53, (B o57))]) ∧ w = σ.w ∧ Hp S0 σ0 σ [Ch.ro 0 (Sl aaCentres_0 aCentres_0 caCentres_0) aCentres_0, Ch.ro 0 (Sl aaList_1 aList_1 caList_1) aList_1, Ch.own n0 n0 (Sl a30 r27.1 c31) r27.1, Ch.big K38, Ch.big K46, Ch.big K54]) ?_ ?_
   ·clear h'
    rename _ = some o57 => h
    refine rg ?_
    refine st (v := (Sl a52 r49.1 c53)) (rv_move rfl) ?_
    refine st (v := (Sl a30 r27.1 c31)) (rv_move rfl) ?_
    obtain ⟨r58, hx59, h'⟩ := bind_some h
    clear h
    have h := h'; clear h'
    have hc60 := c_laws_eqIntSS (aa_0 := a52) (ca_0 := c53) (ab_1 := a30) (cb_1 := c31) hx59
    have hle := Nat.le_trans hn0 H.size
    refine st_call (cx_lend (Loan.lendB hK55.lends (Loan.lend Loan.nil)) hc60 (ent_f hc60.fn rfl) (show Hp S0 σ0 _ ([Ch.big K54, Ch.own n0 n0 (Sl a30 r27.1 c31) r27.1] ++ ([] ++ [Ch.big K38, Ch.big K46, Ch.ro 0 (Sl aaCentres_0 aCentres_0 caCentres_0) aCentres_0, Ch.ro 0 (Sl aaList_1 aList_1 caList_1) aList_1])) from (H.sel' [0, 3, 1, 2, 4, 5] rfl rfl)) (by rintro _ _ _ ⟨rfl, rfl⟩; exact trivial)) wn ?_
    rintro _ σ61 ⟨_, ⟨rfl, rfl⟩, H, -, -⟩
    replace H : Hp S0 σ0 σ61 [Ch.big K54, Ch.own n0 n0 (Sl a30 r27.1 c31) r27.1, Ch.big K38, Ch.big K46, Ch.ro 0 (Sl aaCentres_0 aCentres_0 caCentres_0) aCentres_0, Ch.ro 0 (Sl aaList_1 aList_1 caList_1) aList_1] := H
    clear hle
    replace H : Hp S0 σ0 σ61 [Ch.big K54, Ch.own n0 n0 (Sl a30 r27.1 c31) r27.1, Ch.big K38, Ch.big K46, Ch.ro 0 (Sl aaCentres_0 aCentres_0 caCentres_0) aCentres_0, Ch.ro 0 (Sl aaList_1 aList_1 caList_1) aList_1] := H
    refine st (v := (B (!r58))) (rv_not rfl) ?_
    refine st (v := (B (!r58))) (rv_move rfl) ?_
    rcases Bool.eq_false_or_eq_true (!r58) with hb62 | hb62
    ·replace h := bif_t hb62 h
     refine st_skip (congrArg some hb62) ?_
     refine st_skip (congrArg some hb62) ?_
     refine st_skip (congrArg some hb62) ?_
     refine st (v := (B true)) (rv_pick_t (congrArg B hb62) rfl) ?_
     refine w_end ?_
     obtain rfl := Option.some.inj h
     exact ⟨rfl, _, σ61, fr_join ⟨rfl, rfl, rfl, rfl, rfl, rfl, rfl, rfl, rfl, trivial⟩, rfl, H.sel' [4, 5, 1, 2, 3, 0] rfl rfl⟩
    ·replace h := bif_f hb62 h
     refine st_g (v := (I r49.2)) (congrArg some hb62) (rv_move rfl) ?_
     refine st_g (v := (I r27.2)) (congrArg some hb62) (rv_move rfl) ?_
     refine st_g (v := (B (r49.2 != r27.2))) (congrArg some hb62) (rv_neq (a := r49.2) (b := r27.2) rfl rfl) ?_
     refine st (v := (B (r49.2 != r27.2))) (rv_pick_f (congrArg B hb62) rfl) ?_
     refine w_end ?_
     obtain rfl := Option.some.inj h
     exact ⟨rfl, _, σ61, fr_join ⟨rfl, rfl, rfl, rfl, rfl, rfl, rfl, rfl, rfl, trivial⟩, rfl, H.sel' [4, 5, 1, 2, 3, 0] rfl rfl⟩
   ·clear hj
    have h := h'
    clear h' H
    rintro e a w ⟨rfl, ρ, σ63, rfl, rfl, H⟩
    refine q_then ?_
    refine cd_cond o57 rfl (fun hb64 => ?_) (fun hb64 => ?_)
    ·replace h := bif_t hb64 h
     refine c_seq ?_
     refine rg ?_
     refine st (v := (B false)) (rv_assign rfl) ?_
     refine w_end ?_
     refine q_then ?_
     refine c_ret ?_
     refine q_then_r ?_
     obtain rfl := Option.some.inj h
     exact fin_ret (v := (B false)) (results_ok Try.results3 (res_tmp (v := (B false)) rfl res_nil) rfl) ⟨rfl, rfl⟩ (H.sel' [] rfl rfl)
    ·replace h := bif_f hb64 h
     refine c_skip ?_
     refine q_then ?_
     refine c_seq ?_
     refine c_seq ?_
     refine rg ?_
     refine st (v := (Sl a36 r33 c37)) (rv_move rfl) ?_
     refine st (v := (Sl aaCentres_0 aCentres_0 caCentres_0)) (rv_move rfl) ?_
     obtain ⟨r65, hx66, h'⟩ := bind_some h
     clear h
     have h := h'; clear h'
     have hc67 := c_laws_toIntSS (aa_0 := aaCentres_0) (ca_0 := caCentres_0) hx66
     refine st_call (cx_call hc67 (ent_f hc67.fn rfl) hn0 (show Hp S0 σ0 _ ([Ch.ro 0 (Sl aaCentres_0 aCentres_0 caCentres_0) aCentres_0] ++ [Ch.ro 0 (Sl aaCentres_0 aCentres_0 caCentres_0) aCentres_0, Ch.ro 0 (Sl aaList_1 aList_1 caList_1) aList_1, Ch.own n0 n0 (Sl a30 r27.1 c31) r27.1, Ch.big K38, Ch.big K46, Ch.big K54]) from (H.sel' [0, 0, 1, 2, 3, 4, 5] rfl rfl))) wn ?_
     rintro _ σ72 ⟨_, ⟨a68, c69, K70, rfl, rfl, hK71⟩, H, -⟩
     replace H : Hp S0 σ0 σ72 [Ch.big K70, Ch.ro 0 (Sl aaCentres_0 aCentres_0 caCentres_0) aCentres_0, Ch.ro 0 (Sl aaList_1 aList_1 caList_1) aList_1, Ch.own n0 n0 (Sl a30 r27.1 c31) r27.1, Ch.big K38, Ch.big K46, Ch.big K54] := H
     obtain ⟨r73, hx74, h'⟩ := bind_some h
     clear h
     have h := h'; clear h'
     have hc75 := c_laws_eqIntSS (aa_0 := a36) (ca_0 := c37) (ab_1 := a68) (cb_1 := c69) hx74
     have hle := Nat.le_trans hn0 H.size
     refine st_call (cx_lend (Loan.lendB hK39.lends (Loan.lendB hK71.lends Loan.nil)) hc75 (ent_f hc75.fn rfl) (show Hp S0 σ0 _ ([Ch.big K38, Ch.big K70] ++ ([] ++ [Ch.ro 0 (Sl aaCentres_0 aCentres_0 caCentres_0) aCentres_0, Ch.ro 0 (Sl aaList_1 aList_1 caList_1) aList_1, Ch.own n0 n0 (Sl a30 r27.1 c31) r27.1, Ch.big K46, Ch.big K54])) from (H.sel' [4, 0, 1, 2, 3, 5, 6] rfl rfl)) (by rintro _ _ _ ⟨rfl, rfl⟩; exact trivial)) wn ?_
     rintro _ σ76 ⟨_, ⟨rfl, rfl⟩, H, -, -⟩
     replace H : Hp S0 σ0 σ76 [Ch.big K38, Ch.big K70, Ch.ro 0 (Sl aaCentres_0 aCentres_0 caCentres_0) aCentres_0, Ch.ro 0 (Sl aaList_1 aList_1 caList_1) aList_1, Ch.own n0 n0 (Sl a30 r27.1 c31) r27.1, Ch.big K46, Ch.big K54] := H
     clear hle
     replace H : Hp S0 σ0 σ76 [Ch.big K38, Ch.big K70, Ch.ro 0 (Sl aaCentres_0 aCentres_0 caCentres_0) aCentres_0, Ch.ro 0 (Sl aaList_1 aList_1 caList_1) aList_1, Ch.own n0 n0 (Sl a30 r27.1 c31) r27.1, Ch.big K46, Ch.big K54] := H
     refine st (v := (B (!r73))) (rv_not rfl) ?_
     refine w_end ?_
     refine q_then ?_
     refine cd_cond (!r73) rfl (fun hb77 => ?_) (fun hb77 => ?_)
     ·replace h := bif_t hb77 h
      refine c_seq ?_
      refine rg ?_
      refine st (v := (B false)) (rv_assign rfl) ?_
      refine w_end ?_
      refine q_then ?_
      refine c_ret ?_
      refine q_then_r ?_
      obtain rfl := Option.some.inj h
      exact fin_ret (v := (B false)) (results_ok Try.results3 (res_tmp (v := (B false)) rfl res_nil) rfl) ⟨rfl, rfl⟩ (H.sel' [] rfl rfl)
     ·replace h := bif_f hb77 h
      refine c_skip ?_
      refine q_then ?_
      refine c_seq ?_
      refine c_seq ?_
      refine rg ?_
      refine st (v := (Sl a44 r41 c45)) (rv_move rfl) ?_
      refine st (v := (Sl aaList_1 aList_1 caList_1)) (rv_move rfl) ?_
      obtain ⟨r78, hx79, h'⟩ := bind_some h
      clear h
      have h := h'; clear h'
      have hc80 := c_laws_toItemS (aa_0 := aaList_1) (ca_0 := caList_1) hx79
      refine st_call (cx_call hc80 (ent_f hc80.fn rfl) hn0 (show Hp S0 σ0 _ ([Ch.ro 0 (Sl aaList_1 aList_1 caList_1) aList_1] ++ [Ch.big K38, Ch.big K70, Ch.ro 0 (Sl aaCentres_0 aCentres_0 caCentres_0) aCentres_0, Ch.ro 0 (Sl aaList_1 aList_1 caList_1) aList_1, Ch.own n0 n0 (Sl a30 r27.1 c31) r27.1, Ch.big K46, Ch.big K54]) from (H.sel' [3, 0, 1, 2, 3, 4, 5, 6] rfl rfl))) wn ?_
      rintro _ σ85 ⟨_, ⟨a81, c82, K83, rfl, rfl, hK84⟩, H, -⟩
      replace H : Hp S0 σ0 σ85 [Ch.big K83, Ch.big K38, Ch.big K70, Ch.ro 0 (Sl aaCentres_0 aCentres_0 caCentres_0) aCentres_0, Ch.ro 0 (Sl aaList_1 aList_1 caList_1) aList_1, Ch.own n0 n0 (Sl a30 r27.1 c31) r27.1, Ch.big K46, Ch.big K54] := H
      replace H : Hp S0 σ0 σ85 [Ch.big K83, Ch.big K38, Ch.ro 0 (Sl aaCentres_0 aCentres_0 caCentres_0) aCentres_0, Ch.ro 0 (Sl aaList_1 aList_1 caList_1) aList_1, Ch.own n0 n0 (Sl a30 r27.1 c31) r27.1, Ch.big K46, Ch.big K54] := H.sel' [0, 1, 3, 4, 5, 6, 7] rfl rfl
      obtain ⟨r86, hx87, h'⟩ := bind_some h
      clear h
      have h := h'; clear h'
      have hc88 := c_laws_eqItemS (aa_0 := a44) (ca_0 := c45) (ab_1 := a81) (cb_1 := c82) hx87
      have hle := Nat.le_trans hn0 H.size
      refine st_call (cx_lend (Loan.lendB hK47.lends (Loan.lendB hK84.lends Loan.nil)) hc88 (ent_f hc88.fn rfl) (show Hp S0 σ0 _ ([Ch.big K46, Ch.big K83] ++ ([] ++ [Ch.big K38, Ch.ro 0 (Sl aaCentres_0 aCentres_0 caCentres_0) aCentres_0, Ch.ro 0 (Sl aaList_1 aList_1 caList_1) aList_1, Ch.own n0 n0 (Sl a30 r27.1 c31) r27.1, Ch.big K54])) from (H.sel' [5, 0, 1, 2, 3, 4, 6] rfl rfl)) (by rintro _ _ _ ⟨rfl, rfl⟩; exact trivial)) wn ?_
      rintro _ σ89 ⟨_, ⟨rfl, rfl⟩, H, -, -⟩
      replace H : Hp S0 σ0 σ89 [Ch.big K46, Ch.big K83, Ch.big K38, Ch.ro 0 (Sl aaCentres_0 aCentres_0 caCentres_0) aCentres_0, Ch.ro 0 (Sl aaList_1 aList_1 caList_1) aList_1, Ch.own n0 n0 (Sl a30 r27.1 c31) r27.1, Ch.big K54] := H
      clear hle
      replace H : Hp S0 σ0 σ89 [Ch.big K46, Ch.big K83, Ch.big K38, Ch.ro 0 (Sl aaCentres_0 aCentres_0 caCentres_0) aCentres_0, Ch.ro 0 (Sl aaList_1 aList_1 caList_1) aList_1, Ch.own n0 n0 (Sl a30 r27.1 c31) r27.1, Ch.big K54] := H
      refine st (v := (B (!r86))) (rv_not rfl) ?_
      refine w_end ?_
      refine q_then ?_
      refine cd_cond (!r86) rfl (fun hb90 => ?_) (fun hb90 => ?_)
      ·replace h := bif_t hb90 h
       refine c_seq ?_
       refine rg ?_
       refine st (v := (B false)) (rv_assign rfl) ?_
       refine w_end ?_
       refine q_then ?_
       refine c_ret ?_
       refine q_then_r ?_
       obtain rfl := Option.some.inj h
       exact fin_ret (v := (B false)) (results_ok Try.results3 (res_tmp (v := (B false)) rfl res_nil) rfl) ⟨rfl, rfl⟩ (H.sel' [] rfl rfl)
      ·replace h := bif_f hb90 h
       refine c_skip ?_
       refine q_then ?_
       refine c_seq ?_
       refine rg ?_
       refine st (v := (I 1)) (rv_assign rfl) ?_
       refine w_end ?_
       refine q_then ?_
       refine c_seq ?_
       refine rg ?_
       refine st (v := (Sl a36 r33 c37)) (rv_move rfl) ?_
       refine st (v := (I 1)) (rv_move rfl) ?_
       obtain ⟨r91, hx92, h'⟩ := bind_some h
       clear h
       have h := h'; clear h'
       have hc93 := c_laws_markIntSS (aa_0 := a36) (ca_0 := c37) (hK := hK39) hx92
       refine st_call (cx_call hc93 (ent_f hc93.fn rfl) hn0 (show Hp S0 σ0 _ ([Ch.big K38] ++ [Ch.big K46, Ch.big K83, Ch.ro 0 (Sl aaCentres_0 aCentres_0 caCentres_0) aCentres_0, Ch.ro 0 (Sl aaList_1 aList_1 caList_1) aList_1, Ch.own n0 n0 (Sl a30 r27.1 c31) r27.1, Ch.big K54]) from (H.sel' [2, 0, 1, 3, 4, 5, 6] rfl rfl))) wn ?_
       rintro _ σ95 ⟨_, ⟨rfl, rfl, hn94⟩, H, -⟩
       replace H : Hp S0 σ0 σ95 [Ch.ro 0 (Sl a36 r91.2 c37) r91.2, Ch.big K46, Ch.big K83, Ch.ro 0 (Sl aaCentres_0 aCentres_0 caCentres_0) aCentres_0, Ch.ro 0 (Sl aaList_1 aList_1 caList_1) aList_1, Ch.own n0 n0 (Sl a30 r27.1 c31) r27.1, Ch.big K54] := H
       have hsl : (Sl a36 r33 c37) = (Sl a36 r91.2 c37) := sl_len hn94.symm
       try rw [hsl]
       try rw [hsl] at H
       clear hsl
       refine st (v := (I r91.1)) (rv_assign rfl) ?_
       refine w_end ?_
       refine q_then ?_
       refine c_seq ?_
       refine rg ?_
       refine st (v := (Sl a44 r41 c45)) (rv_move rfl) ?_
       refine st (v := (I r91.1)) (rv_move rfl) ?_
       obtain ⟨r96, hx97, h'⟩ := bind_some h
       clear h
       have h := h'; clear h'
       have hc98 := c_laws_markItemS (aa_0 := a44) (ca_0 := c45) (hK := hK47) hx97
       refine st_call (cx_call hc98 (ent_f hc98.fn rfl) hn0 (show Hp S0 σ0 _ ([Ch.big K46] ++ [Ch.ro 0 (Sl a36 r91.2 c37) r91.2, Ch.big K83, Ch.ro 0 (Sl aaCentres_0 aCentres_0 caCentres_0) aCentres_0, Ch.ro 0 (Sl aaList_1 aList_1 caList_1) aList_1, Ch.own n0 n0 (Sl a30 r27.1 c31) r27.1, Ch.big K54]) from (H.sel' [1, 0, 2, 3, 4, 5, 6] rfl rfl))) wn ?_
       rintro _ σ99 ⟨_, ⟨rfl, rfl⟩, H, -⟩
       replace H : Hp S0 σ0 σ99 [Ch.ro 0 (Sl a36 r91.2 c37) r91.2, Ch.big K83, Ch.ro 0 (Sl aaCentres_0 aCentres_0 caCentres_0) aCentres_0, Ch.ro 0 (Sl aaList_1 aList_1 caList_1) aList_1, Ch.own n0 n0 (Sl a30 r27.1 c31) r27.1, Ch.big K54] := H
       refine st (v := (I r96)) (rv_assign rfl) ?_
       refine w_end ?_
       refine q_then ?_
       refine c_seq ?_
       refine c_seq ?_
       obtain ⟨o100, hj, h'⟩ := bind_some h
       clear h
       refine c_cut (fun e a w => e = .normal ∧ ∃ (ρ : Nat → Value) (σ : St), a = fr 119 (updL ρ [(0, (Sl aaCentres_0 aCentres_0 caCentres_0)), (1, (Sl aaList_1 aList_1 caList_1)), (6, (Sl a30 r27.1 c31)), (7, (I r27.2)), (10, (Sl a52 r49.1 c53)), (82, (B o100))]) ∧ w = σ.w ∧ Hp S0 σ0 σ [Ch.ro 0 (Sl aaCentres_0 aCentres_0 caCentres_0) aCentres_0, Ch.ro 0 (Sl aaList_1 aList_1 caList_1) aList_1, Ch.own n0 n0 (Sl a30 r27.1 c31) r27.1, Ch.big K54]) ?_ ?_
       ·clear h'
        rename _ = some o100 => h
        refine rg ?_
        refine st (v := (I r96)) (rv_move rfl) ?_
        refine st (v := (B (decide (r96 < 0)))) (rv_lss (a := r96) (b := 0) rfl rfl) ?_
        refine st (v := (B (decide (r96 < 0)))) (rv_move rfl) ?_
        rcases Bool.eq_false_or_eq_true (decide (r96 < 0)) with hb101 | hb101
        ·replace h := bif_t hb101 h
         refine st_skip (congrArg some hb101) ?_
         refine st_skip (congrArg some hb101) ?_
         refine st_skip (congrArg some hb101) ?_
         refine st_skip (congrArg some hb101) ?_
         refine st (v := (B true)) (rv_pick_t (congrArg B hb101) rfl) ?_
         refine st (v := (B true)) (rv_move rfl) ?_
         refine st_skip rfl ?_
         refine st_skip rfl ?_
         refine st_skip rfl ?_
         refine st (v := (B true)) (rv_pick_t rfl rfl) ?_
         refine w_end ?_
         obtain rfl := Option.some.inj h
         exact ⟨rfl, _, σ99, fr_join ⟨rfl, rfl, rfl, rfl, rfl, rfl, trivial⟩, rfl, H.sel' [2, 3, 4, 5] rfl rfl⟩
        ·replace h := bif_f hb101 h
         refine st_g (v := (Sl a52 r49.1 c53)) (congrArg some hb101) (rv_move rfl) ?_
         refine st_g (v := (Sl a30 r27.1 c31)) (congrArg some hb101) (rv_move rfl) ?_
         obtain ⟨r102, hx103, h'⟩ := bind_some h
         clear h
         have h := h'; clear h'
         have hc104 := c_laws_eqIntSS (aa_0 := a52) (ca_0 := c53) (ab_1 := a30) (cb_1 := c31) hx103
         have hle := Nat.le_trans hn0 H.size
         refine st_call (cx_lend (Loan.lendB hK55.lends (Loan.lend Loan.nil)) hc104 (ent_f hc104.fn rfl) (show Hp S0 σ0 _ ([Ch.big K54, Ch.own n0 n0 (Sl a30 r27.1 c31) r27.1] ++ ([] ++ [Ch.ro 0 (Sl a36 r91.2 c37) r91.2, Ch.big K83, Ch.ro 0 (Sl aaCentres_0 aCentres_0 caCentres_0) aCentres_0, Ch.ro 0 (Sl aaList_1 aList_1 caList_1) aList_1])) from (H.sel' [5, 4, 0, 1, 2, 3] rfl rfl)) (by rintro _ _ _ ⟨rfl, rfl⟩; exact trivial)) (wanted_yes rfl (by exact (congrArg some hb101))) ?_
         rintro _ σ105 ⟨_, ⟨rfl, rfl⟩, H, -, -⟩
         replace H : Hp S0 σ0 σ105 [Ch.big K54, Ch.own n0 n0 (Sl a30 r27.1 c31) r27.1, Ch.ro 0 (Sl a36 r91.2 c37) r91.2, Ch.big K83, Ch.ro 0 (Sl aaCentres_0 aCentres_0 caCentres_0) aCentres_0, Ch.ro 0 (Sl aaList_1 aList_1 caList_1) aList_1] := H
         clear hle
         replace H : Hp S0 σ0 σ105 [Ch.big K54, Ch.own n0 n0 (Sl a30 r27.1 c31) r27.1, Ch.ro 0 (Sl a36 r91.2 c37) r91.2, Ch.big K83, Ch.ro 0 (Sl aaCentres_0 aCentres_0 caCentres_0) aCentres_0, Ch.ro 0 (Sl aaList_1 aList_1 caList_1) aList_1] := H
         refine st_g (v := (B (!r102))) (congrArg some hb101) (rv_not rfl) ?_
         refine st (v := (B (!r102))) (rv_pick_f (congrArg B hb101) rfl) ?_
         refine st (v := (B (!r102))) (rv_move rfl) ?_
         rcases Bool.eq_false_or_eq_true (!r102) with hb106 | hb106
         ·replace h := bif_t hb106 h
          refine st_skip (congrArg some hb106) ?_
          refine st_skip (congrArg some hb106) ?_
          refine st_skip (congrArg some hb106) ?_
          refine st (v := (B true)) (rv_pick_t (congrArg B hb106) rfl) ?_
          refine w_end ?_
          obtain rfl := Option.some.inj h
          exact ⟨rfl, _, σ105, fr_join ⟨rfl, rfl, rfl, rfl, rfl, rfl, trivial⟩, rfl, H.sel' [4, 5, 1, 0] rfl rfl⟩
         ·replace h := bif_f hb106 h
          refine st_g (v := (I r49.2)) (congrArg some hb106) (rv_move rfl) ?_
          refine st_g (v := (I r27.2)) (congrArg some hb106) (rv_move rfl) ?_
          refine st_g (v := (B (r49.2 != r27.2))) (congrArg some hb106) (rv_neq (a := r49.2) (b := r27.2) rfl rfl) ?_
          refine st (v := (B (r49.2 != r27.2))) (rv_pick_f (congrArg B hb106) rfl) ?_
          refine w_end ?_
          obtain rfl := Option.some.inj h
          exact ⟨rfl, _, σ105, fr_join ⟨rfl, rfl, rfl, rfl, rfl, rfl, trivial⟩, rfl, H.sel' [4, 5, 1, 0] rfl rfl⟩
       ·clear hj
        have h := h'
        clear h' H
        rintro e a w ⟨rfl, ρ, σ107, rfl, rfl, H⟩
        refine q_then ?_
        refine cd_cond o100 rfl (fun hb108 => ?_) (fun hb108 => ?_)
        ·replace h := bif_t hb108 h
         refine c_seq ?_
         refine rg ?_
         refine st (v := (B false)) (rv_assign rfl) ?_
         refine w_end ?_
         refine q_then ?_
         refine c_ret ?_
         refine q_then_r ?_
         obtain rfl := Option.some.inj h
         exact fin_ret (v := (B false)) (results_ok Try.results3 (res_tmp (v := (B false)) rfl res_nil) rfl) ⟨rfl, rfl⟩ (H.sel' [] rfl rfl)
        ·replace h := bif_f hb108 h
         refine c_skip ?_
         refine q_then ?_
         refine c_seq ?_
         refine rg ?_
         refine st (v := (I 1)) (rv_assign rfl) ?_
         refine w_end ?_
         refine q_then ?_
         refine c_seq ?_
         refine rg ?_
         refine st (v := (Sl a52 r49.1 c53)) (rv_move rfl) ?_
         refine st (v := (I 1)) (rv_move rfl) ?_
         obtain ⟨r109, hx110, h'⟩ := bind_some h
         clear h
         have h := h'; clear h'
         have hc111 := c_laws_markIntSS (aa_0 := a52) (ca_0 := c53) (hK := hK55) hx110
         refine st_call (cx_call hc111 (ent_f hc111.fn rfl) hn0 (show Hp S0 σ0 _ ([Ch.big K54] ++ [Ch.ro 0 (Sl aaCentres_0 aCentres_0 caCentres_0) aCentres_0, Ch.ro 0 (Sl aaList_1 aList_1 caList_1) aList_1, Ch.own n0 n0 (Sl a30 r27.1 c31) r27.1]) from (H.sel' [3, 0, 1, 2] rfl rfl))) wn ?_
         rintro _ σ113 ⟨_, ⟨rfl, rfl, hn112⟩, H, -⟩
         replace H : Hp S0 σ0 σ113 [Ch.ro 0 (Sl a52 r109.2 c53) r109.2, Ch.ro 0 (Sl aaCentres_0 aCentres_0 caCentres_0) aCentres_0, Ch.ro 0 (Sl aaList_1 aList_1 caList_1) aList_1, Ch.own n0 n0 (Sl a30 r27.1 c31) r27.1] := H
         have hsl : (Sl a52 r49.1 c53) = (Sl a52 r109.2 c53) := sl_len hn112.symm
         try rw [hsl]
         try rw [hsl] at H
         clear hsl
         refine st (v := (I r109.1)) (rv_assign rfl) ?_
         refine w_end ?_
         refine q_then ?_
         refine c_seq ?_
         refine rg ?_
         refine st (v := (I 1)) (rv_assign rfl) ?_
         refine w_end ?_
         refine q_then ?_
         refine c_seq ?_
         refine rg ?_
         refine st (v := (Sl a52 r109.2 c53)) (rv_move rfl) ?_
         refine st (v := (I 1)) (rv_move rfl) ?_
         obtain ⟨r114, hx115, h'⟩ := bind_some h
         clear h
         have h := h'; clear h'
         have hc116 := c_laws_heldIntSS (aa_0 := a52) (ca_0 := c53) hx115
         refine st_call (cx_call hc116 (ent_f hc116.fn rfl) hn0 (show Hp S0 σ0 _ ([Ch.ro 0 (Sl a52 r109.2 c53) r109.2] ++ [Ch.ro 0 (Sl a52 r109.2 c53) r109.2, Ch.ro 0 (Sl aaCentres_0 aCentres_0 caCentres_0) aCentres_0, Ch.ro 0 (Sl aaList_1 aList_1 caList_1) aList_1, Ch.own n0 n0 (Sl a30 r27.1 c31) r27.1]) from (H.sel' [0, 0, 1, 2, 3] rfl rfl))) wn ?_
         rintro _ σ117 ⟨_, ⟨rfl, rfl⟩, H, -⟩
         replace H : Hp S0 σ0 σ117 [Ch.ro 0 (Sl a52 r109.2 c53) r109.2, Ch.ro 0 (Sl aaCentres_0 aCentres_0 caCentres_0) aCentres_0, Ch.ro 0 (Sl aaList_1 aList_1 caList_1) aList_1, Ch.own n0 n0 (Sl a30 r27.1 c31) r27.1] := H
         refine st (v := (I r114)) (rv_assign rfl) ?_
         refine w_end ?_
         refine q_then ?_
         refine c_seq ?_
         refine c_seq ?_
         refine rg ?_
         refine st (v := (I r114)) (rv_move rfl) ?_
         refine st (v := (B (decide (r114 < 0)))) (rv_lss (a := r114) (b := 0) rfl rfl) ?_
         refine w_end ?_
         refine q_then ?_
         refine cd_cond (decide (r114 < 0)) rfl (fun hb118 => ?_) (fun hb118 => ?_)
         ·replace h := bif_t hb118 h
          refine c_seq ?_
          refine rg ?_
          refine st (v := (B false)) (rv_assign rfl) ?_
          refine w_end ?_
          refine q_then ?_
          refine c_ret ?_
          refine q_then_r ?_
          obtain rfl := Option.some.inj h
          exact fin_ret (v := (B false)) (results_ok Try.results3 (res_tmp (v := (B false)) rfl res_nil) rfl) ⟨rfl, rfl⟩ (H.sel' [] rfl rfl)
         ·replace h := bif_f hb118 h
          refine c_skip ?_
          refine q_then ?_
          refine c_seq ?_
          refine c_seq ?_
          refine rg ?_
          refine st (v := (I r114)) (rv_move rfl) ?_
          refine st (v := (I r109.1)) (rv_move rfl) ?_
          refine st (v := (B (r114 != r109.1))) (rv_neq (a := r114) (b := r109.1) rfl rfl) ?_
          refine w_end ?_
          refine q_then ?_
          refine cd_cond (r114 != r109.1) rfl (fun hb119 => ?_) (fun hb119 => ?_)
          ·replace h := bif_t hb119 h
           refine c_seq ?_
           refine rg ?_
           refine st (v := (B false)) (rv_assign rfl) ?_
           refine w_end ?_
           refine q_then ?_
           refine c_ret ?_
           refine q_then_r ?_
           obtain rfl := Option.some.inj h
           exact fin_ret (v := (B false)) (results_ok Try.results3 (res_tmp (v := (B false)) rfl res_nil) rfl) ⟨rfl, rfl⟩ (H.sel' [] rfl rfl)
          ·replace h := bif_f hb119 h
           refine c_skip ?_
           refine q_then ?_
           refine c_seq ?_
           refine rg ?_
           refine st (v := (Sl aaCentres_0 aCentres_0 caCentres_0)) (rv_move rfl) ?_
           obtain ⟨r120, hx121, h'⟩ := bind_some h
           clear h
           have h := h'; clear h'
           have hc122 := c_laws_toIntSS (aa_0 := aaCentres_0) (ca_0 := caCentres_0) hx121
           refine st_call (cx_call hc122 (ent_f hc122.fn rfl) hn0 (show Hp S0 σ0 _ ([Ch.ro 0 (Sl aaCentres_0 aCentres_0 caCentres_0) aCentres_0] ++ [Ch.ro 0 (Sl a52 r109.2 c53) r109.2, Ch.ro 0 (Sl aaCentres_0 aCentres_0 caCentres_0) aCentres_0, Ch.ro 0 (Sl aaList_1 aList_1 caList_1) aList_1, Ch.own n0 n0 (Sl a30 r27.1 c31) r27.1]) from (H.sel' [1, 0, 1, 2, 3] rfl rfl))) wn ?_
           rintro _ σ127 ⟨_, ⟨a123, c124, K125, rfl, rfl, hK126⟩, H, -⟩
           replace H : Hp S0 σ0 σ127 [Ch.big K125, Ch.ro 0 (Sl a52 r109.2 c53) r109.2, Ch.ro 0 (Sl aaCentres_0 aCentres_0 caCentres_0) aCentres_0, Ch.ro 0 (Sl aaList_1 aList_1 caList_1) aList_1, Ch.own n0 n0 (Sl a30 r27.1 c31) r27.1] := H
           refine st (v := (Sl aaList_1 aList_1 caList_1)) (rv_move rfl) ?_
           obtain ⟨r128, hx129, h'⟩ := bind_some h
           clear h
           have h := h'; clear h'
           have hc130 := c_laws_toItemS (aa_0 := aaList_1) (ca_0 := caList_1) hx129
           refine st_call (cx_call hc130 (ent_f hc130.fn rfl) hn0 (show Hp S0 σ0 _ ([Ch.ro 0 (Sl aaList_1 aList_1 caList_1) aList_1] ++ [Ch.big K125, Ch.ro 0 (Sl a52 r109.2 c53) r109.2, Ch.ro 0 (Sl aaCentres_0 aCentres_0 caCentres_0) aCentres_0, Ch.ro 0 (Sl aaList_1 aList_1 caList_1) aList_1, Ch.own n0 n0 (Sl a30 r27.1 c31) r27.1]) from (H.sel' [3, 0, 1, 2, 3, 4] rfl rfl))) wn ?_
           rintro _ σ135 ⟨_, ⟨a131, c132, K133, rfl, rfl, hK134⟩, H, -⟩
           replace H : Hp S0 σ0 σ135 [Ch.big K133, Ch.big K125, Ch.ro 0 (Sl a52 r109.2 c53) r109.2, Ch.ro 0 (Sl aaCentres_0 aCentres_0 caCentres_0) aCentres_0, Ch.ro 0 (Sl aaList_1 aList_1 caList_1) aList_1, Ch.own n0 n0 (Sl a30 r27.1 c31) r27.1] := H
           obtain ⟨r136, hx137, h'⟩ := bind_some h
           clear h
           have h := h'; clear h'
           have hc138 := c_impl_SettleCentres (acentres_0 := a123) (ccentres_0 := c124) (alist_1 := a131) (clist_1 := c132) hx137
           have hle := Nat.le_trans hn0 H.size
           refine st_call (cx_lend (Loan.lendB hK126.lends (Loan.lendB hK134.lends Loan.nil)) hc138 (ent_f hc138.fn rfl) (show Hp S0 σ0 _ ([Ch.big K125, Ch.big K133] ++ ([] ++ [Ch.ro 0 (Sl a52 r109.2 c53) r109.2, Ch.ro 0 (Sl aaCentres_0 aCentres_0 caCentres_0) aCentres_0, Ch.ro 0 (Sl aaList_1 aList_1 caList_1) aList_1, Ch.own n0 n0 (Sl a30 r27.1 c31) r27.1])) from (H.sel' [1, 0, 2, 3, 4, 5] rfl rfl)) (by rintro _ _ _ ⟨_, _, _, rfl, rfl, hK142⟩; exact ⟨Dp.abSc hK142, trivial⟩)) wn ?_
           rintro _ σ143 ⟨_, ⟨a139, c140, K141, rfl, rfl, hK142⟩, H, -, -⟩
           replace H : Hp S0 σ0 σ143 [Ch.big K141, Ch.big K125, Ch.big K133, Ch.ro 0 (Sl a52 r109.2 c53) r109.2, Ch.ro 0 (Sl aaCentres_0 aCentres_0 caCentres_0) aCentres_0, Ch.ro 0 (Sl aaList_1 aList_1 caList_1) aList_1, Ch.own n0 n0 (Sl a30 r27.1 c31) r27.1] := H
           clear hle
           replace H : Hp S0 σ0 σ143 [Ch.big K141, Ch.big K125, Ch.big K133, Ch.ro 0 (Sl a52 r109.2 c53) r109.2, Ch.ro 0 (Sl aaCentres_0 aCentres_0 caCentres_0) aCentres_0, Ch.ro 0 (Sl aaList_1 aList_1 caList_1) aList_1, Ch.own n0 n0 (Sl a30 r27.1 c31) r27.1] := H
           refine st (v := (.tuple #[(Sl a139 r136.1 c140), (I r136.2)])) (rv_move rfl) ?_
           refine st (v := (Sl a139 r136.1 c140)) (rv_extract rfl rfl) ?_
           refine st (v := (I r136.2)) (rv_extract rfl rfl) ?_
           refine st (v := (Sl a139 r136.1 c140)) (rv_assign rfl) ?_
           refine st (v := (I r136.2)) (rv_assign rfl) ?_
           refine w_end ?_
           refine q_then ?_
           refine c_seq ?_
           refine c_seq ?_
           obtain ⟨o144, hj, h'⟩ := bind_some h
           clear h
           refine c_cut (fun e a w => e = .normal ∧ ∃ (ρ : Nat → Value) (σ : St), a = fr 119 (updL ρ [(10, (Sl a52 r109.2 c53)), (13, (I r109.1)), (110, (B o144))]) ∧ w = σ.w ∧ Hp S0 σ0 σ [Ch.ro 0 (Sl a52 r109.2 c53) r109.2]) ?_ ?_
           ·clear h'
            rename _ = some o144 => h
            refine rg ?_
            refine st (v := (Sl a139 r136.1 c140)) (rv_move rfl) ?_
            refine st (v := (Sl a30 r27.1 c31)) (rv_move rfl) ?_
            obtain ⟨σ145, hw146, H, -⟩ := H.pub 6 rfl (Nat.le_refl _)
            rw [← hw146]; clear hw146
            replace H := H.roLow 0 0 rfl (Nat.zero_le _)
            obtain ⟨r147, hx148, h'⟩ := bind_some h
            clear h
            have h := h'; clear h'
            have hc149 := c_laws_eqIntSS (aa_0 := a139) (ca_0 := c140) (ab_1 := a30) (cb_1 := c31) hx148
            have hle := Nat.le_trans hn0 H.size
            refine st_call (cx_lend (Loan.lendB hK142.lends (Loan.same Loan.nil)) hc149 (ent_f hc149.fn rfl) (show Hp S0 σ0 _ ([Ch.big K141] ++ ([Ch.ro 0 (Sl a30 r27.1 c31) r27.1] ++ [Ch.ro 0 (Sl a30 r27.1 c31) r27.1, Ch.ro n0 (Sl a30 r27.1 c31) r27.1, Ch.big K125, Ch.big K133, Ch.ro 0 (Sl a52 r109.2 c53) r109.2, Ch.ro 0 (Sl aaCentres_0 aCentres_0 caCentres_0) aCentres_0, Ch.ro 0 (Sl aaList_1 aList_1 caList_1) aList_1])) from (H.sel' [2, 0, 0, 1, 3, 4, 5, 6, 7] rfl rfl)) (by rintro _ _ _ ⟨rfl, rfl⟩; exact trivial)) wn ?_
            rintro _ σ150 ⟨_, ⟨rfl, rfl⟩, H, -, -⟩
            replace H : Hp S0 σ0 σ150 [Ch.big K141, Ch.ro 0 (Sl a30 r27.1 c31) r27.1, Ch.ro n0 (Sl a30 r27.1 c31) r27.1, Ch.big K125, Ch.big K133, Ch.ro 0 (Sl a52 r109.2 c53) r109.2, Ch.ro 0 (Sl aaCentres_0 aCentres_0 caCentres_0) aCentres_0, Ch.ro 0 (Sl aaList_1 aList_1 caList_1) aList_1] := H
            clear hle
            replace H : Hp S0 σ0 σ150 [Ch.big K141, Ch.ro 0 (Sl a30 r27.1 c31) r27.1, Ch.ro n0 (Sl a30 r27.1 c31) r27.1, Ch.big K125, Ch.big K133, Ch.ro 0 (Sl a52 r109.2 c53) r109.2, Ch.ro 0 (Sl aaCentres_0 aCentres_0 caCentres_0) aCentres_0, Ch.ro 0 (Sl aaList_1 aList_1 caList_1) aList_1] := H
            replace H : Hp S0 σ0 σ150 [Ch.ro 0 (Sl a52 r109.2 c53) r109.2] := H.sel' [5] rfl rfl
            refine st (v := (B (!r147))) (rv_not rfl) ?_
            refine st (v := (B (!r147))) (rv_move rfl) ?_
            rcases Bool.eq_false_or_eq_true (!r147) with hb151 | hb151
            ·replace h := bif_t hb151 h
             refine st_skip (congrArg some hb151) ?_
             refine st_skip (congrArg some hb151) ?_
             refine st_skip (congrArg some hb151) ?_
             refine st (v := (B true)) (rv_pick_t (congrArg B hb151) rfl) ?_
             refine w_end ?_
             obtain rfl := Option.some.inj h
             exact ⟨rfl, _, σ150, fr_join ⟨rfl, rfl, rfl, trivial⟩, rfl, H.sel' [0] rfl rfl⟩
            ·replace h := bif_f hb151 h
             refine st_g (v := (I r136.2)) (congrArg some hb151) (rv_move rfl) ?_
             refine st_g (v := (I r27.2)) (congrArg some hb151) (rv_move rfl) ?_
             refine st_g (v := (B (r136.2 != r27.2))) (congrArg some hb151) (rv_neq (a := r136.2) (b := r27.2) rfl rfl) ?_
             refine st (v := (B (r136.2 != r27.2))) (rv_pick_f (congrArg B hb151) rfl) ?_
             refine w_end ?_
             obtain rfl := Option.some.inj h
             exact ⟨rfl, _, σ150, fr_join ⟨rfl, rfl, rfl, trivial⟩, rfl, H.sel' [0] rfl rfl⟩
           ·clear hj
            have h := h'
            clear h' H
            rintro e a w ⟨rfl, ρ, σ152, rfl, rfl, H⟩
            refine q_then ?_
            refine cd_cond o144 rfl (fun hb153 => ?_) (fun hb153 => ?_)
            ·replace h := bif_t hb153 h
             refine c_seq ?_
             refine rg ?_
             refine st (v := (B false)) (rv_assign rfl) ?_
             refine w_end ?_
             refine q_then ?_
             refine c_ret ?_
             refine q_then_r ?_
             obtain rfl := Option.some.inj h
             exact fin_ret (v := (B false)) (results_ok Try.results3 (res_tmp (v := (B false)) rfl res_nil) rfl) ⟨rfl, rfl⟩ (H.sel' [] rfl rfl)
            ·replace h := bif_f hb153 h
             refine c_skip ?_
             refine q_then ?_
             refine c_seq ?_
             refine rg ?_
             refine st (v := (I 1)) (rv_assign rfl) ?_
             refine w_end ?_
             refine q_then ?_
             refine c_seq ?_
             refine rg ?_
             refine st (v := (Sl a52 r109.2 c53)) (rv_move rfl) ?_
             refine st (v := (I 1)) (rv_move rfl) ?_
             obtain ⟨r154, hx155, h'⟩ := bind_some h
             clear h
             have h := h'; clear h'
             have hc156 := c_laws_heldIntSS (aa_0 := a52) (ca_0 := c53) hx155
             refine st_call (cx_call hc156 (ent_f hc156.fn rfl) hn0 (show Hp S0 σ0 _ ([Ch.ro 0 (Sl a52 r109.2 c53) r109.2] ++ [Ch.ro 0 (Sl a52 r109.2 c53) r109.2]) from (H.sel' [0, 0] rfl rfl))) wn ?_
             rintro _ σ157 ⟨_, ⟨rfl, rfl⟩, H, -⟩
             replace H : Hp S0 σ0 σ157 [Ch.ro 0 (Sl a52 r109.2 c53) r109.2] := H
             refine st (v := (I r154)) (rv_assign rfl) ?_
             refine w_end ?_
             refine q_then ?_
             refine c_seq ?_
             refine c_seq ?_
             refine rg ?_
             refine st (v := (I r154)) (rv_move rfl) ?_
             refine st (v := (B (decide (r154 < 0)))) (rv_lss (a := r154) (b := 0) rfl rfl) ?_
             refine w_end ?_
             refine q_then ?_
             refine cd_cond (decide (r154 < 0)) rfl (fun hb158 => ?_) (fun hb158 => ?_)
             ·replace h := bif_t hb158 h
              refine c_seq ?_
              refine rg ?_
              refine st (v := (B false)) (rv_assign rfl) ?_
              refine w_end ?_
              refine q_then ?_
              refine c_ret ?_
              refine q_then_r ?_
              obtain rfl := Option.some.inj h
              exact fin_ret (v := (B false)) (results_ok Try.results3 (res_tmp (v := (B false)) rfl res_nil) rfl) ⟨rfl, rfl⟩ (H.sel' [] rfl rfl)
             ·replace h := bif_f hb158 h
              refine c_skip ?_
              refine q_then ?_
              refine c_seq ?_
              refine c_seq ?_
              refine rg ?_
              refine st (v := (I r154)) (rv_move rfl) ?_
              refine st (v := (I r109.1)) (rv_move rfl) ?_
              refine st (v := (B (r154 != r109.1))) (rv_neq (a := r154) (b := r109.1) rfl rfl) ?_
              refine w_end ?_
              refine q_then ?_
              refine cd_cond (r154 != r109.1) rfl (fun hb159 => ?_) (fun hb159 => ?_)
              ·replace h := bif_t hb159 h
               refine c_seq ?_
               refine rg ?_
               refine st (v := (B false)) (rv_assign rfl) ?_
               refine w_end ?_
               refine q_then ?_
               refine c_ret ?_
               refine q_then_r ?_
               obtain rfl := Option.some.inj h
               exact fin_ret (v := (B false)) (results_ok Try.results3 (res_tmp (v := (B false)) rfl res_nil) rfl) ⟨rfl, rfl⟩ (H.sel' [] rfl rfl)
              ·replace h := bif_f hb159 h
               refine c_skip ?_
               refine q_then ?_
               refine c_seq ?_
               refine rg ?_
               refine st (v := (B true)) (rv_assign rfl) ?_
               refine w_end ?_
               refine q_then ?_
               refine c_ret ?_
               obtain rfl := Option.some.inj h
               exact fin_ret (v := (B true)) (results_ok Try.results3 (res_tmp (v := (B true)) rfl res_nil) rfl) ⟨rfl, rfl⟩ (H.sel' [] rfl rfl)

end Go.Vs
