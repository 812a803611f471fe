/- The functions compute what their models say. -/
import Derived.Test.YtdjjikmfkejdiabKSettleCentresStepC3
set_option linter.unusedVariables false
set_option linter.unusedSimpArgs false
set_option maxRecDepth 20000
namespace Go.Vs
open Go Go.Proofs
attribute [local irreducible] Code.wp Code.wpIn wpList wpListIn wpQuiet Calls CallsIn

theorem c_spec_moveCentres {centres_0 : List (List Int)} {list_1 : List (Int × (List Int) × Int)} {acentres_0 : Option Addr} {ccentres_0 : Nat} {alist_1 : Option Addr} {clist_1 : Nat} {r : (List (List Int))} (h : M.spec_moveCentres centres_0 list_1 = some r) :
    Cal2 Try.prog 61 [(Sl acentres_0 centres_0 ccentres_0), (Sl alist_1 list_1 clist_1)] [Ch.ro 0 (Sl acentres_0 centres_0 ccentres_0) centres_0, Ch.ro 0 (Sl alist_1 list_1 clist_1) list_1] (fun n0 v L => ∃ (az1 : Option Addr), ∃ (cz2 : Nat), v = (Sl az1 r cz2) ∧ L = [Ch.own n0 n0 (Sl az1 r cz2) r]) := by
 refine cal2 (n := 57) Try.func61 rfl rfl rfl rfl ?_
 intro S0 σ0 n0 hn0 H
 unfold M.spec_moveCentres at h
 refine c_seq ?_
 refine rg ?_
 refine st (v := (.slice none 0 0)) (rv_assign rfl) ?_
 refine w_end ?_
 refine q_then ?_
 refine c_seq ?_
 refine rg ?_
 refine st_ex (ex_buildSlice (el := n0) (xs := ([] : List (List Int))) (ps := []) (cs := []) H hn0 Try.underlying29 ti24 rfl rfl (by kernel_rfl) (.nil) rfl) wn ?_
 rintro _ σ2 ⟨b1, rfl, H, -⟩
 refine st (v := (Sl (some ⟨b1, 0, none⟩) ([] : List (List Int)) 0)) (rv_assign rfl) ?_
 refine w_end ?_
 refine q_then ?_
 refine c_seq ?_
 refine c_seq ?_
 refine rg ?_
 refine st (v := (I 0)) (rv_assign rfl) ?_
 refine w_end ?_
 refine q_then ?_
 obtain ⟨o3, hj, h'⟩ := bind_some h
 clear h
 refine c_cut (fun e a w => e = .normal ∧ ∃ (ρ : Nat → Value) (σ : St) (aj1 : Option Addr) (cj2 : Nat), a = fr 57 (updL ρ [(5, (Sl aj1 o3 cj2))]) ∧ w = σ.w ∧ Hp S0 σ0 σ [Ch.own n0 n0 (Sl aj1 o3 cj2) o3]) ?_ ?_
 ·clear h'
  rename _ = some o3 => h
  refine c_blk ?_
  refine wp_loopM _ h (fun s4 a w => ∃ (ρ : Nat → Value) (σ : St) (aj1 : Option Addr) (cj2 : Nat), a = fr 57 (updL ρ [(0, (Sl acentres_0 centres_0 ccentres_0)), (1, (Sl alist_1 list_1 clist_1)), (5, (Sl aj1 s4.1 cj2)), (6, (I s4.2))]) ∧ w = σ.w ∧ Hp S0 σ0 σ [Ch.ro 0 (Sl acentres_0 centres_0 ccentres_0) centres_0, Ch.ro 0 (Sl alist_1 list_1 clist_1) list_1, Ch.own n0 n0 (Sl aj1 s4.1 cj2) s4.1]) ⟨_, σ2, (some ⟨b1, 0, none⟩), 0, fr_join ⟨rfl, rfl, rfl, rfl, trivial⟩, rfl, H.sel' [1, 2, 0] rfl rfl⟩ ?_
  clear h H
  rintro s4 a w o ⟨ρ, σ5, a6, c7, rfl, rfl, H⟩ h hres
  refine c_seq ?_
  refine c_seq ?_
  refine rg ?_
  refine st (v := (I s4.2)) (rv_move rfl) ?_
  refine st (v := (Sl acentres_0 centres_0 ccentres_0)) (rv_move rfl) ?_
  refine st (v := (I (centres_0.length : Int))) (rv_len Try.underlying29 rfl) ?_
  refine st (v := (B (decide (s4.2 < (centres_0.length : Int))))) (rv_lss (a := s4.2) (b := (centres_0.length : Int)) rfl rfl) ?_
  refine w_end ?_
  refine q_then ?_
  refine cd_cond (decide (s4.2 < (centres_0.length : Int))) rfl (fun hb8 => ?_) (fun hb8 => ?_)
  ·replace h := bif_t hb8 h
   refine c_skip ?_
   refine q_then ?_
   refine c_seq ?_
   obtain ⟨o9, hj, h'⟩ := bind_some h
   clear h
   refine c_cut (fun e a w => e = .normal ∧ ∃ (ρ : Nat → Value) (σ : St) (aj1 : Option Addr) (cj2 : Nat), a = fr 57 (updL ρ [(0, (Sl acentres_0 centres_0 ccentres_0)), (1, (Sl alist_1 list_1 clist_1)), (5, (Sl aj1 o9 cj2)), (6, (I s4.2))]) ∧ w = σ.w ∧ Hp S0 σ0 σ [Ch.ro 0 (Sl acentres_0 centres_0 ccentres_0) centres_0, Ch.ro 0 (Sl alist_1 list_1 clist_1) list_1, Ch.own n0 n0 (Sl aj1 o9 cj2) o9]) ?_ ?_
   ·clear h'
    rename _ = some o9 => h
    refine c_blk ?_
    refine c_seq ?_
    refine rg ?_
    refine st_ex (ex_buildSlice (el := n0) (xs := ([] : List (List Int))) (ps := []) (cs := []) H hn0 Try.underlying29 ti24 rfl rfl (by kernel_rfl) (.nil) rfl) wn ?_
    rintro _ σ11 ⟨b10, rfl, H, -⟩
    refine st (v := (Sl (some ⟨b10, 0, none⟩) ([] : List (List Int)) 0)) (rv_assign rfl) ?_
    refine w_end ?_
    refine q_then ?_
    refine c_seq ?_
    refine c_seq ?_
    refine rg ?_
    refine st (v := (I 0)) (rv_assign rfl) ?_
    refine w_end ?_
    refine q_then ?_
    obtain ⟨o12, hj, h'⟩ := bind_some h
    clear h
    refine c_cut (fun e a w => e = .normal ∧ ∃ (ρ : Nat → Value) (σ : St) (aj1 : Option Addr) (cj2 : Nat), a = fr 57 (updL ρ [(0, (Sl acentres_0 centres_0 ccentres_0)), (1, (Sl alist_1 list_1 clist_1)), (5, (Sl a6 s4.1 c7)), (6, (I s4.2)), (7, (Sl aj1 o12 cj2))]) ∧ w = σ.w ∧ Hp S0 σ0 σ [Ch.ro 0 (Sl acentres_0 centres_0 ccentres_0) centres_0, Ch.ro 0 (Sl alist_1 list_1 clist_1) list_1, Ch.own n0 n0 (Sl a6 s4.1 c7) s4.1, Ch.own n0 0 (Sl aj1 o12 cj2) o12]) ?_ ?_
    ·clear h'
     rename _ = some o12 => h
     refine c_blk ?_
     replace H := H.ownLow 0 n0 0 rfl (Nat.le_refl _) (Nat.zero_le _)
     refine wp_loopM _ h (fun s13 a w => ∃ (ρ : Nat → Value) (σ : St) (aj1 : Option Addr) (cj2 : Nat), a = fr 57 (updL ρ [(0, (Sl acentres_0 centres_0 ccentres_0)), (1, (Sl alist_1 list_1 clist_1)), (5, (Sl a6 s4.1 c7)), (6, (I s4.2)), (7, (Sl aj1 s13.1 cj2)), (8, (I s13.2))]) ∧ w = σ.w ∧ Hp S0 σ0 σ [Ch.ro 0 (Sl acentres_0 centres_0 ccentres_0) centres_0, Ch.ro 0 (Sl alist_1 list_1 clist_1) list_1, Ch.own n0 n0 (Sl a6 s4.1 c7) s4.1, Ch.own n0 0 (Sl aj1 s13.1 cj2) s13.1]) ⟨_, σ11, (some ⟨b10, 0, none⟩), 0, fr_join ⟨rfl, rfl, rfl, rfl, rfl, rfl, trivial⟩, rfl, H.sel' [1, 2, 3, 0] rfl rfl⟩ ?_
     clear h H
     rintro s13 a w o ⟨ρ, σ14, a15, c16, rfl, rfl, H⟩ h hres
     refine c_seq ?_
     refine c_seq ?_
     refine rg ?_
     refine st (v := (I s13.2)) (rv_move rfl) ?_
     refine st (v := (Sl alist_1 list_1 clist_1)) (rv_move rfl) ?_
     refine st (v := (I (list_1.length : Int))) (rv_len Try.underlying23 rfl) ?_
     refine st (v := (B (decide (s13.2 < (list_1.length : Int))))) (rv_lss (a := s13.2) (b := (list_1.length : Int)) rfl rfl) ?_
     refine w_end ?_
     refine q_then ?_
     refine cd_cond (decide (s13.2 < (list_1.length : Int))) rfl (fun hb17 => ?_) (fun hb17 => ?_)
     ·replace h := bif_t hb17 h
      refine c_skip ?_
      refine q_then ?_
      refine c_seq ?_
      obtain ⟨o18, hj, h'⟩ := bind_some h
      clear h
      refine c_cut (fun e a w => e = .normal ∧ ∃ (ρ : Nat → Value) (σ : St) (aj1 : Option Addr) (cj2 : Nat), a = fr 57 (updL ρ [(0, (Sl acentres_0 centres_0 ccentres_0)), (1, (Sl alist_1 list_1 clist_1)), (5, (Sl a6 s4.1 c7)), (6, (I s4.2)), (7, (Sl aj1 o18 cj2)), (8, (I s13.2))]) ∧ w = σ.w ∧ Hp S0 σ0 σ [Ch.ro 0 (Sl acentres_0 centres_0 ccentres_0) centres_0, Ch.ro 0 (Sl alist_1 list_1 clist_1) list_1, Ch.own n0 n0 (Sl a6 s4.1 c7) s4.1, Ch.own n0 0 (Sl aj1 o18 cj2) o18]) ?_ ?_
      ·clear h'
       rename _ = some o18 => h
       refine c_blk ?_
       refine c_seq ?_
       refine rg ?_
       refine st (v := (Sl acentres_0 centres_0 ccentres_0)) (rv_move rfl) ?_
       refine st (v := (Sl alist_1 list_1 clist_1)) (rv_move rfl) ?_
       refine st (v := (I s13.2)) (rv_move rfl) ?_
       obtain ⟨x19, hx20, h'⟩ := bind_some h
       clear h
       have h := h'; clear h'
       obtain ⟨b22, o23, hi21, -⟩ := (H.ro 1 rfl).ix hx20
       refine st (v := (pt b22 o23)) (rv_ix Try.underlying23 ti41 rfl rfl hi21) ?_
       refine st (v := (pt b22 (o23 + 1))) (rv_fieldAddr (off := 1) (ft := 24) Try.underlying41 rfl ti24 rfl rfl) ?_
       obtain ⟨v27, hc28, hR26⟩ := ((H.ro 1 rfl).at hx20 hi21).snd.fst.slice
       obtain ⟨a24, c25, rfl⟩ := hR26.isSl
       replace H := H.add (d := Ch.ro 0 (Sl a24 x19.2.1 c25) x19.2.1) hR26 (fun _ h => h)
       clear hR26
       refine st (v := (Sl a24 x19.2.1 c25)) (rv_load1 Try.underlying24 rfl rfl hc28) ?_
       obtain ⟨r29, hx30, h'⟩ := bind_some h
       clear h
       have h := h'; clear h'
       have hc31 := c_spec_centreOf (acentres_0 := acentres_0) (ccentres_0 := ccentres_0) (aat_1 := a24) (cat_1 := c25) hx30
       refine st_call (cx_call hc31 (ent_f hc31.fn rfl) hn0 (show Hp S0 σ0 _ ([Ch.ro 0 (Sl acentres_0 centres_0 ccentres_0) centres_0, Ch.ro 0 (Sl a24 x19.2.1 c25) x19.2.1] ++ [Ch.ro 0 (Sl a24 x19.2.1 c25) x19.2.1, Ch.ro 0 (Sl acentres_0 centres_0 ccentres_0) centres_0, Ch.ro 0 (Sl alist_1 list_1 clist_1) list_1, Ch.own n0 n0 (Sl a6 s4.1 c7) s4.1, Ch.own n0 0 (Sl a15 s13.1 c16) s13.1]) from (H.sel' [1, 0, 0, 1, 2, 3, 4] rfl rfl))) wn ?_
       rintro _ σ32 ⟨_, ⟨rfl, rfl⟩, H, -⟩
       replace H : Hp S0 σ0 σ32 [Ch.ro 0 (Sl a24 x19.2.1 c25) x19.2.1, Ch.ro 0 (Sl acentres_0 centres_0 ccentres_0) centres_0, Ch.ro 0 (Sl alist_1 list_1 clist_1) list_1, Ch.own n0 n0 (Sl a6 s4.1 c7) s4.1, Ch.own n0 0 (Sl a15 s13.1 c16) s13.1] := H
       refine st (v := (I s4.2)) (rv_move rfl) ?_
       refine st (v := (B (r29 == s4.2))) (rv_eql (a := r29) (b := s4.2) rfl rfl) ?_
       refine w_end ?_
       refine q_then ?_
       refine cd_cond (r29 == s4.2) rfl (fun hb33 => ?_) (fun hb33 => ?_)
       ·replace h := bif_t hb33 h
        refine rg ?_
        refine st (v := (Sl a15 s13.1 c16)) (rv_move rfl) ?_
        refine st (v := (Sl alist_1 list_1 clist_1)) (rv_move rfl) ?_
        refine st (v := (I s13.2)) (rv_move rfl) ?_
        obtain ⟨x34, hx35, h'⟩ := bind_some h
        clear h
        have h := h'; clear h'
        obtain ⟨b37, o38, hi36, -⟩ := (H.ro 2 rfl).ix hx35
        refine st (v := (pt b37 o38)) (rv_ix Try.underlying23 ti41 rfl rfl hi36) ?_
        refine st (v := (pt b37 (o38 + 1))) (rv_fieldAddr (off := 1) (ft := 24) Try.underlying41 rfl ti24 rfl rfl) ?_
        obtain ⟨v42, hc43, hR41⟩ := ((H.ro 2 rfl).at hx35 hi36).snd.fst.slice
        obtain ⟨a39, c40, rfl⟩ := hR41.isSl
        replace H := H.add (d := Ch.ro 0 (Sl a39 x34.2.1 c40) x34.2.1) hR41 (fun _ h => h)
        clear hR41
        refine st (v := (Sl a39 x34.2.1 c40)) (rv_load1 Try.underlying24 rfl rfl hc43) ?_
        refine st_ex (ex_buildSlice (el := 0) (xs := ([x34.2.1] : List (List Int))) (ps := [(0, (Sl a39 x34.2.1 c40))]) (cs := [(Sl a39 x34.2.1 c40)]) H hn0 Try.underlying29 ti24 rfl rfl (by kernel_rfl) (.cons (c := [(Sl a39 x34.2.1 c40)]) ⟨_, rfl, (H.ro 0 rfl)⟩ (.nil)) rfl) wn ?_
        rintro _ σ45 ⟨b44, rfl, H, -⟩
        obtain ⟨xs46, hx47, h'⟩ := bind_some h
        clear h
        have h := h'; clear h'
        refine st_ex (ex_append H (i := 6) rfl Try.underlying29 Try.underlying29 ti24 rfl rfl (by decide) (H.own 0 rfl).rd hx47 hn0 rfl rfl) wn ?_
        rintro _ σ50 ⟨a48, c49, rfl, H, -⟩
        refine st (v := (Sl a48 xs46 c49)) (rv_assign rfl) ?_
        refine w_end ?_
        refine q_blk ?_
        obtain rfl := Option.some.inj h
        exact ⟨rfl, _, σ50, a48, c49, fr_join ⟨rfl, rfl, rfl, rfl, rfl, rfl, trivial⟩, rfl, H.sel' [4, 5, 6, 0] rfl rfl⟩
       ·replace h := bif_f hb33 h
        refine c_skip ?_
        refine q_blk ?_
        obtain rfl := Option.some.inj h
        exact ⟨rfl, _, σ32, a15, c16, fr_join ⟨rfl, rfl, rfl, rfl, rfl, rfl, trivial⟩, rfl, H.sel' [1, 2, 3, 4] rfl rfl⟩
      ·clear hj
       have h := h'
       clear h' H
       rintro e a w ⟨rfl, ρ, σ51, a52, c53, rfl, rfl, H⟩
       refine q_then ?_
       refine rg ?_
       refine st (v := (I s13.2)) (rv_move rfl) ?_
       refine st (v := (I (w64 (s13.2 + 1)))) (rv_add (a := s13.2) (b := 1) rfl rfl) ?_
       refine st (v := (I (w64 (s13.2 + 1)))) (rv_assign rfl) ?_
       refine w_end ?_
       refine q_then ?_
       obtain rfl := Option.some.inj h
       exact ⟨_, rfl, _, σ51, a52, c53, fr_join ⟨rfl, rfl, rfl, rfl, rfl, rfl, trivial⟩, rfl, H.sel' [0, 1, 2, 3] rfl rfl⟩
     ·replace h := bif_f hb17 h
      refine c_exit ?_
      refine q_then_x ?_
      refine q_then_x ?_
      refine q_blk_hit ?_
      obtain rfl := Option.some.inj h
      obtain rfl := hres _ rfl
      exact ⟨rfl, _, σ14, a15, c16, fr_join ⟨rfl, rfl, rfl, rfl, rfl, trivial⟩, rfl, H.sel' [0, 1, 2, 3] rfl rfl⟩
    ·clear hj
     have h := h'
     clear h' H
     rintro e a w ⟨rfl, ρ, σ54, a55, c56, rfl, rfl, H⟩
     refine q_then ?_
     refine c_seq ?_
     refine rg ?_
     refine st (v := (Sl a55 o12 c56)) (rv_move rfl) ?_
     refine st (v := (I (o12.length : Int))) (rv_len Try.underlying29 rfl) ?_
     refine st (v := (B ((o12.length : Int) == 0))) (rv_eql (a := (o12.length : Int)) (b := 0) rfl rfl) ?_
     refine w_end ?_
     refine q_then ?_
     refine cd_cond ((o12.length : Int) == 0) rfl (fun hb57 => ?_) (fun hb57 => ?_)
     ·replace h := bif_t hb57 h
      refine rg ?_
      refine st (v := (Sl a6 s4.1 c7)) (rv_move rfl) ?_
      refine st (v := (Sl acentres_0 centres_0 ccentres_0)) (rv_move rfl) ?_
      refine st (v := (I s4.2)) (rv_move rfl) ?_
      obtain ⟨x58, hx59, h'⟩ := bind_some h
      clear h
      have h := h'; clear h'
      obtain ⟨b61, o62, hi60, -⟩ := (H.ro 0 rfl).ix hx59
      refine st (v := (pt b61 o62)) (rv_ix Try.underlying29 ti24 rfl rfl hi60) ?_
      obtain ⟨v66, hc67, hR65⟩ := ((H.ro 0 rfl).at hx59 hi60).slice
      obtain ⟨a63, c64, rfl⟩ := hR65.isSl
      replace H := H.add (d := Ch.ro 0 (Sl a63 x58 c64) x58) hR65 (fun _ h => h)
      clear hR65
      refine st (v := (Sl a63 x58 c64)) (rv_load1 Try.underlying24 rfl rfl hc67) ?_
      obtain ⟨r68, hx69, h'⟩ := bind_some h
      clear h
      have h := h'; clear h'
      have hc70 := c_spec_copyInts (alist_0 := a63) (clist_0 := c64) hx69
      refine st_call (cx_call hc70 (ent_f hc70.fn rfl) hn0 (show Hp S0 σ0 _ ([Ch.ro 0 (Sl a63 x58 c64) x58] ++ [Ch.ro 0 (Sl a63 x58 c64) x58, Ch.ro 0 (Sl acentres_0 centres_0 ccentres_0) centres_0, Ch.ro 0 (Sl alist_1 list_1 clist_1) list_1, Ch.own n0 n0 (Sl a6 s4.1 c7) s4.1, Ch.own n0 0 (Sl a55 o12 c56) o12]) from (H.sel' [0, 0, 1, 2, 3, 4] rfl rfl))) wn ?_
      rintro _ σ73 ⟨_, ⟨a71, c72, rfl, rfl⟩, H, -⟩
      replace H : Hp S0 σ0 σ73 [Ch.own n0 n0 (Sl a71 r68 c72) r68, Ch.ro 0 (Sl a63 x58 c64) x58, Ch.ro 0 (Sl acentres_0 centres_0 ccentres_0) centres_0, Ch.ro 0 (Sl alist_1 list_1 clist_1) list_1, Ch.own n0 n0 (Sl a6 s4.1 c7) s4.1, Ch.own n0 0 (Sl a55 o12 c56) o12] := H
      obtain ⟨σ74, hw75, H, -⟩ := H.pub 0 rfl (Nat.le_refl _)
      rw [← hw75]; clear hw75
      refine st_ex (ex_buildSlice (el := n0) (xs := ([r68] : List (List Int))) (ps := [(0, (Sl a71 r68 c72))]) (cs := [(Sl a71 r68 c72)]) H hn0 Try.underlying29 ti24 rfl rfl (by kernel_rfl) (.cons (c := [(Sl a71 r68 c72)]) ⟨_, rfl, (H.ro 0 rfl)⟩ (.nil)) rfl) wn ?_
      rintro _ σ77 ⟨b76, rfl, H, -⟩
      obtain ⟨xs78, hx79, h'⟩ := bind_some h
      clear h
      have h := h'; clear h'
      refine st_ex (ex_append H (i := 5) rfl Try.underlying29 Try.underlying29 ti24 rfl rfl (by decide) (H.own 0 rfl).rd hx79 hn0 rfl rfl) wn ?_
      rintro _ σ82 ⟨a80, c81, rfl, H, -⟩
      refine st (v := (Sl a80 xs78 c81)) (rv_assign rfl) ?_
      refine w_end ?_
      refine q_blk ?_
      obtain rfl := Option.some.inj h
      exact ⟨rfl, _, σ82, a80, c81, fr_join ⟨rfl, rfl, rfl, rfl, trivial⟩, rfl, H.sel' [4, 5, 0] rfl rfl⟩
     ·replace h := bif_f hb57 h
      refine rg ?_
      refine st (v := (Sl a6 s4.1 c7)) (rv_move rfl) ?_
      refine st (v := (Sl a55 o12 c56)) (rv_move rfl) ?_
      obtain ⟨σ83, hw84, H, -⟩ := H.pub 3 rfl (Nat.zero_le _)
      rw [← hw84]; clear hw84
      obtain ⟨r85, hx86, h'⟩ := bind_some h
      clear h
      have h := h'; clear h'
      have hc87 := c_spec_mean (alist_0 := a55) (clist_0 := c56) hx86
      refine st_call (cx_call hc87 (ent_f hc87.fn rfl) hn0 (show Hp S0 σ0 _ ([Ch.ro 0 (Sl a55 o12 c56) o12] ++ [Ch.ro 0 (Sl a55 o12 c56) o12, Ch.ro 0 (Sl acentres_0 centres_0 ccentres_0) centres_0, Ch.ro 0 (Sl alist_1 list_1 clist_1) list_1, Ch.own n0 n0 (Sl a6 s4.1 c7) s4.1]) from (H.sel' [0, 0, 1, 2, 3] rfl rfl))) wn ?_
      rintro _ σ90 ⟨_, ⟨a88, c89, rfl, rfl⟩, H, -⟩
      replace H : Hp S0 σ0 σ90 [Ch.own n0 n0 (Sl a88 r85 c89) r85, Ch.ro 0 (Sl a55 o12 c56) o12, Ch.ro 0 (Sl acentres_0 centres_0 ccentres_0) centres_0, Ch.ro 0 (Sl alist_1 list_1 clist_1) list_1, Ch.own n0 n0 (Sl a6 s4.1 c7) s4.1] := H
      obtain ⟨σ91, hw92, H, -⟩ := H.pub 0 rfl (Nat.le_refl _)
      rw [← hw92]; clear hw92
      refine st_ex (ex_buildSlice (el := n0) (xs := ([r85] : List (List Int))) (ps := [(0, (Sl a88 r85 c89))]) (cs := [(Sl a88 r85 c89)]) H hn0 Try.underlying29 ti24 rfl rfl (by kernel_rfl) (.cons (c := [(Sl a88 r85 c89)]) ⟨_, rfl, (H.ro 0 rfl)⟩ (.nil)) rfl) wn ?_
      rintro _ σ94 ⟨b93, rfl, H, -⟩
      obtain ⟨xs95, hx96, h'⟩ := bind_some h
      clear h
      have h := h'; clear h'
      refine st_ex (ex_append H (i := 5) rfl Try.underlying29 Try.underlying29 ti24 rfl rfl (by decide) (H.own 0 rfl).rd hx96 hn0 rfl rfl) wn ?_
      rintro _ σ99 ⟨a97, c98, rfl, H, -⟩
      refine st (v := (Sl a97 xs95 c98)) (rv_assign rfl) ?_
      refine w_end ?_
      refine q_blk ?_
      obtain rfl := Option.some.inj h
      exact ⟨rfl, _, σ99, a97, c98, fr_join ⟨rfl, rfl, rfl, rfl, trivial⟩, rfl, H.sel' [4, 5, 0] rfl rfl⟩
   ·clear hj
    have h := h'
    clear h' H
    rintro e a w ⟨rfl, ρ, σ100, a101, c102, rfl, rfl, H⟩
    refine q_then ?_
    refine rg ?_
    refine st (v := (I s4.2)) (rv_move rfl) ?_
    refine st (v := (I (w64 (s4.2 + 1)))) (rv_add (a := s4.2) (b := 1) rfl rfl) ?_
    refine st (v := (I (w64 (s4.2 + 1)))) (rv_assign rfl) ?_
    refine w_end ?_
    refine q_then ?_
    obtain rfl := Option.some.inj h
    exact ⟨_, rfl, _, σ100, a101, c102, fr_join ⟨rfl, rfl, rfl, rfl, trivial⟩, rfl, H.sel' [0, 1, 2] rfl rfl⟩
  ·replace h := bif_f hb8 h
   refine c_exit ?_
   refine q_then_x ?_
   refine q_then_x ?_
   refine q_blk_hit ?_
   obtain rfl := Option.some.inj h
   obtain rfl := hres _ rfl
   exact ⟨rfl, _, σ5, a6, c7, fr_join ⟨rfl, trivial⟩, rfl, H.sel' [2] rfl rfl⟩
 ·clear hj
  have h := h'
  clear h' H
  rintro e a w ⟨rfl, ρ, σ103, a104, c105, rfl, rfl, H⟩
  refine q_then ?_
  refine c_seq ?_
  refine rg ?_
  refine st (v := (Sl a104 o3 c105)) (rv_move rfl) ?_
  refine st (v := (Sl a104 o3 c105)) (rv_assign rfl) ?_
  refine w_end ?_
  refine q_then ?_
  refine c_ret ?_
  obtain rfl := Option.some.inj h
  exact fin_ret (v := (Sl a104 o3 c105)) (results_ok Try.results61 (res_tmp (v := (Sl a104 o3 c105)) rfl res_nil) rfl) ⟨a104, c105, rfl, rfl⟩ (H.sel' [0] rfl rfl)

theorem c_spec_sameVectors {a_0 : List (List Int)} {b_1 : List (List Int)} {aa_0 : Option Addr} {ca_0 : Nat} {ab_1 : Option Addr} {cb_1 : Nat} {r : Bool} (h : M.spec_sameVectors a_0 b_1 = some r) :
    Cal2 Try.prog 66 [(Sl aa_0 a_0 ca_0), (Sl ab_1 b_1 cb_1)] [Ch.ro 0 (Sl aa_0 a_0 ca_0) a_0, Ch.ro 0 (Sl ab_1 b_1 cb_1) b_1] (fun n0 v L => v = (B r) ∧ L = []) := by
 refine cal2 (n := 27) Try.func66 rfl rfl rfl rfl ?_
 intro S0 σ0 n0 hn0 H
 unfold M.spec_sameVectors at h
 refine c_seq ?_
 refine rg ?_
 refine st (v := (B false)) (rv_assign rfl) ?_
 refine w_end ?_
 refine q_then ?_
 refine c_seq ?_
 refine c_seq ?_
 refine rg ?_
 refine st (v := (Sl aa_0 a_0 ca_0)) (rv_move rfl) ?_
 refine st (v := (I (a_0.length : Int))) (rv_len Try.underlying29 rfl) ?_
 refine st (v := (Sl ab_1 b_1 cb_1)) (rv_move rfl) ?_
 refine st (v := (I (b_1.length : Int))) (rv_len Try.underlying29 rfl) ?_
 refine st (v := (B ((a_0.length : Int) != (b_1.length : Int)))) (rv_neq (a := (a_0.length : Int)) (b := (b_1.length : Int)) rfl rfl) ?_
 refine w_end ?_
 refine q_then ?_
 refine cd_cond ((a_0.length : Int) != (b_1.length : Int)) rfl (fun hb1 => ?_) (fun hb1 => ?_)
 ·replace h := bif_t hb1 h
  refine c_seq ?_
  refine rg ?_
  refine st (v := (B false)) (rv_assign rfl) ?_
  refine w_end ?_
  refine q_then ?_
  refine c_ret ?_
  refine q_then_r ?_
  obtain rfl := Option.some.inj h
  exact fin_ret (v := (B false)) (results_ok Try.results66 (res_tmp (v := (B false)) rfl res_nil) rfl) ⟨rfl, rfl⟩ (H.sel' [] rfl rfl)
 ·replace h := bif_f hb1 h
  refine c_skip ?_
  refine q_then ?_
  refine c_seq ?_
  refine c_seq ?_
  refine rg ?_
  refine st (v := (I 0)) (rv_assign rfl) ?_
  refine w_end ?_
  refine q_then ?_
  obtain ⟨o2, hj, h'⟩ := bind_some h
  clear h
  refine c_cut (fun e a w => (∃ t, o2 = (.inl t) ∧ e = .normal ∧ ∃ (ρ : Nat → Value) (σ : St), a = fr 27 (updL ρ []) ∧ w = σ.w ∧ Hp S0 σ0 σ []) ∨ (∃ t, o2 = (.inr t) ∧ e = .ret ∧ ∃ (ρ : Nat → Value) (σ : St), a = fr 27 (updL ρ [(4, (B t))]) ∧ w = σ.w ∧ Hp S0 σ0 σ [])) ?_ ?_
  ·clear h'
   rename _ = some o2 => h
   refine c_blk ?_
   refine wp_loopM _ h (fun s3 a w => ∃ (ρ : Nat → Value) (σ : St), a = fr 27 (updL ρ [(0, (Sl aa_0 a_0 ca_0)), (1, (Sl ab_1 b_1 cb_1)), (5, (I s3))]) ∧ w = σ.w ∧ Hp S0 σ0 σ [Ch.ro 0 (Sl aa_0 a_0 ca_0) a_0, Ch.ro 0 (Sl ab_1 b_1 cb_1) b_1]) ⟨_, σ0, fr_join ⟨rfl, rfl, rfl, trivial⟩, rfl, H.sel' [0, 1] rfl rfl⟩ ?_
   clear h H
   rintro s3 a w o ⟨ρ, σ4, rfl, rfl, H⟩ h hres
   refine c_seq ?_
   refine c_seq ?_
   refine rg ?_
   refine st (v := (I s3)) (rv_move rfl) ?_
   refine st (v := (Sl aa_0 a_0 ca_0)) (rv_move rfl) ?_
   refine st (v := (I (a_0.length : Int))) (rv_len Try.underlying29 rfl) ?_
   refine st (v := (B (decide (s3 < (a_0.length : Int))))) (rv_lss (a := s3) (b := (a_0.length : Int)) rfl rfl) ?_
   refine w_end ?_
   refine q_then ?_
   refine cd_cond (decide (s3 < (a_0.length : Int))) rfl (fun hb5 => ?_) (fun hb5 => ?_)
   ·replace h := bif_t hb5 h
    refine c_skip ?_
    refine q_then ?_
    refine c_seq ?_
    refine c_blk ?_
    refine c_seq ?_
    refine rgP (σ := σ4) 8 (by kernel_rfl) (by kernel_rfl) (by kernel_rfl) ?_
    refine sq (v := (Sl aa_0 a_0 ca_0)) (rv_move rfl) ?_
    refine sq (v := (I s3)) (rv_move rfl) ?_
    obtain ⟨x6, hx7, h'⟩ := bind_some h
    clear h
    have h := h'; clear h'
    obtain ⟨b9, o10, hi8, -⟩ := (H.ro 0 rfl).ix hx7
    refine sq (v := (pt b9 o10)) (rv_ix Try.underlying29 ti24 rfl rfl hi8) ?_
    obtain ⟨v14, hc15, hR13⟩ := ((H.ro 0 rfl).at hx7 hi8).slice
    obtain ⟨a11, c12, rfl⟩ := hR13.isSl
    replace H := H.add (d := Ch.ro 0 (Sl a11 x6 c12) x6) hR13 (fun _ h => h)
    clear hR13
    refine sq (v := (Sl a11 x6 c12)) (rv_load1 Try.underlying24 rfl rfl hc15) ?_
    refine sq (v := (Sl ab_1 b_1 cb_1)) (rv_move rfl) ?_
    refine sq (v := (I s3)) (rv_move rfl) ?_
    obtain ⟨x16, hx17, h'⟩ := bind_some h
    clear h
    have h := h'; clear h'
    obtain ⟨b19, o20, hi18, -⟩ := (H.ro 2 rfl).ix hx17
    refine sq (v := (pt b19 o20)) (rv_ix Try.underlying29 ti24 rfl rfl hi18) ?_
    obtain ⟨v24, hc25, hR23⟩ := ((H.ro 2 rfl).at hx17 hi18).slice
    obtain ⟨a21, c22, rfl⟩ := hR23.isSl
    replace H := H.add (d := Ch.ro 0 (Sl a21 x16 c22) x16) hR23 (fun _ h => h)
    clear hR23
    refine sq (v := (Sl a21 x16 c22)) (rv_load1 Try.underlying24 rfl rfl hc25) ?_
    refine sq_end ?_
    intro σ26 hm27
    replace H := H.grow (hm27.mono fun _ h => h); clear hm27
    obtain ⟨r28, hx29, h'⟩ := bind_some h
    clear h
    have h := h'; clear h'
    have hc30 := c_spec_dist (aa_1 := a11) (ca_1 := c12) (ab_2 := a21) (cb_2 := c22) hx29
    refine st_call (cx_call hc30 (ent_f hc30.fn rfl) hn0 (show Hp S0 σ0 _ ([Ch.ro 0 (Sl a11 x6 c12) x6, Ch.ro 0 (Sl a21 x16 c22) x16] ++ [Ch.ro 0 (Sl a21 x16 c22) x16, Ch.ro 0 (Sl a11 x6 c12) x6, Ch.ro 0 (Sl aa_0 a_0 ca_0) a_0, Ch.ro 0 (Sl ab_1 b_1 cb_1) b_1]) from (H.sel' [1, 0, 0, 1, 2, 3] rfl rfl))) wn ?_
    rintro _ σ31 ⟨_, ⟨rfl, rfl⟩, H, -⟩
    replace H : Hp S0 σ0 σ31 [Ch.ro 0 (Sl a21 x16 c22) x16, Ch.ro 0 (Sl a11 x6 c12) x6, Ch.ro 0 (Sl aa_0 a_0 ca_0) a_0, Ch.ro 0 (Sl ab_1 b_1 cb_1) b_1] := H
    refine st (v := (B (decide (0 < r28)))) (rv_gtr (a := r28) (b := 0) rfl rfl) ?_
    refine w_end ?_
    refine q_then ?_
    refine cd_cond (decide (0 < r28)) rfl (fun hb32 => ?_) (fun hb32 => ?_)
    ·replace h := bif_t hb32 h
     refine c_seq ?_
     refine rg ?_
     refine st (v := (B false)) (rv_assign rfl) ?_
     refine w_end ?_
     refine q_then ?_
     refine c_ret ?_
     refine q_blk_r ?_
     refine q_then_r ?_
     refine q_then_r ?_
     refine q_blk_r ?_
     obtain rfl := Option.some.inj h
     obtain rfl := hres _ rfl
     exact .inr (⟨_, rfl, rfl, _, σ31, fr_join ⟨rfl, trivial⟩, rfl, H.sel' [] rfl rfl⟩)
    ·replace h := bif_f hb32 h
     refine c_skip ?_
     refine q_blk ?_
     refine q_then ?_
     refine rg ?_
     refine st (v := (I s3)) (rv_move rfl) ?_
     refine st (v := (I (w64 (s3 + 1)))) (rv_add (a := s3) (b := 1) rfl rfl) ?_
     refine st (v := (I (w64 (s3 + 1)))) (rv_assign rfl) ?_
     refine w_end ?_
     refine q_then ?_
     obtain rfl := Option.some.inj h
     exact ⟨_, rfl, _, σ31, fr_join ⟨rfl, rfl, rfl, trivial⟩, rfl, H.sel' [2, 3] rfl rfl⟩
   ·replace h := bif_f hb5 h
    refine c_exit ?_
    refine q_then_x ?_
    refine q_then_x ?_
    refine q_blk_hit ?_
    obtain rfl := Option.some.inj h
    obtain rfl := hres _ rfl
    exact .inl ⟨_, rfl, rfl, _, σ4, fr_join trivial, rfl, H.sel' [] rfl rfl⟩
  ·clear hj
   have h := h'
   clear h' H
   rintro e a w (⟨t33, rfl, rfl, ρ, σ34, rfl, rfl, H⟩ | ⟨t35, rfl, rfl, ρ, σ36, rfl, rfl, H⟩)
   ·replace h := selim_l h
    refine q_then ?_
    refine c_seq ?_
    refine rg ?_
    refine st (v := (B true)) (rv_assign rfl) ?_
    refine w_end ?_
    refine q_then ?_
    refine c_ret ?_
    obtain rfl := Option.some.inj h
    exact fin_ret (v := (B true)) (results_ok Try.results66 (res_tmp (v := (B true)) rfl res_nil) rfl) ⟨rfl, rfl⟩ (H.sel' [] rfl rfl)
   ·replace h := selim_r h
    refine q_then_r ?_
    obtain rfl := Option.some.inj h
    exact fin_ret (v := (B t35)) (results_ok Try.results66 (res_tmp (v := (B t35)) rfl res_nil) rfl) ⟨rfl, rfl⟩ (H.sel' [] rfl rfl)

theorem c_spec_SettleCentres {centres_0 : List (List Int)} {list_1 : List (Int × (List Int) × Int)} {acentres_0 : Option Addr} {ccentres_0 : Nat} {alist_1 : Option Addr} {clist_1 : Nat} {r : (List (List Int)) × Int} (h : M.spec_SettleCentres centres_0 list_1 = some r) :
    Cal2 Try.prog 35 [(Sl acentres_0 centres_0 ccentres_0), (Sl alist_1 list_1 clist_1)] [Ch.ro 0 (Sl acentres_0 centres_0 ccentres_0) centres_0, Ch.ro 0 (Sl alist_1 list_1 clist_1) list_1] (fun n0 v L => ∃ (az1 : Option Addr), ∃ (cz2 : Nat), v = (.tuple #[(Sl az1 r.1 cz2), (I r.2)]) ∧ L = [Ch.own n0 n0 (Sl az1 r.1 cz2) r.1]) := by
 refine cal2 (n := 47) Try.func35 rfl rfl rfl rfl ?_
 intro S0 σ0 n0 hn0 H
 unfold M.spec_SettleCentres at h
 refine c_seq ?_
 refine rg ?_
 refine st (v := (.slice none 0 0)) (rv_assign rfl) ?_
 refine st (v := (I 0)) (rv_assign rfl) ?_
 refine w_end ?_
 refine q_then ?_
 refine c_seq ?_
 refine c_seq ?_
 obtain ⟨o1, hj, h'⟩ := bind_some h
 clear h
 refine c_cut (fun e a w => e = .normal ∧ ∃ (ρ : Nat → Value) (σ : St), a = fr 47 (updL ρ [(0, (Sl acentres_0 centres_0 ccentres_0)), (1, (Sl alist_1 list_1 clist_1)), (17, (B o1))]) ∧ w = σ.w ∧ Hp S0 σ0 σ [Ch.ro 0 (Sl acentres_0 centres_0 ccentres_0) centres_0, Ch.ro 0 (Sl alist_1 list_1 clist_1) list_1]) ?_ ?_
 ·clear h'
  rename _ = some o1 => h
  refine rg ?_
  refine st (v := (Sl acentres_0 centres_0 ccentres_0)) (rv_move rfl) ?_
  obtain ⟨r2, hx3, h'⟩ := bind_some h
  clear h
  have h := h'; clear h'
  have hc4 := c_spec_validCentres (alist_0 := acentres_0) (clist_0 := ccentres_0) hx3
  refine st_call (cx_call hc4 (ent_f hc4.fn rfl) hn0 (show Hp S0 σ0 _ ([Ch.ro 0 (Sl acentres_0 centres_0 ccentres_0) centres_0] ++ [Ch.ro 0 (Sl acentres_0 centres_0 ccentres_0) centres_0, Ch.ro 0 (Sl alist_1 list_1 clist_1) list_1]) from (H.sel' [0, 0, 1] rfl rfl))) wn ?_
  rintro _ σ5 ⟨_, ⟨rfl, rfl⟩, H, -⟩
  replace H : Hp S0 σ0 σ5 [Ch.ro 0 (Sl acentres_0 centres_0 ccentres_0) centres_0, Ch.ro 0 (Sl alist_1 list_1 clist_1) list_1] := H
  refine st (v := (B (!r2))) (rv_not rfl) ?_
  refine st (v := (B (!r2))) (rv_move rfl) ?_
  rcases Bool.eq_false_or_eq_true (!r2) with hb6 | hb6
  ·replace h := bif_t hb6 h
   refine st_skip (congrArg some hb6) ?_
   refine st_skip (congrArg some hb6) ?_
   refine st_skip (congrArg some hb6) ?_
   refine st (v := (B true)) (rv_pick_t (congrArg B hb6) rfl) ?_
   refine w_end ?_
   obtain rfl := Option.some.inj h
   exact ⟨rfl, _, σ5, fr_join ⟨rfl, rfl, rfl, trivial⟩, rfl, H.sel' [0, 1] rfl rfl⟩
  ·replace h := bif_f hb6 h
   refine st_g (v := (Sl alist_1 list_1 clist_1)) (congrArg some hb6) (rv_move rfl) ?_
   obtain ⟨r7, hx8, h'⟩ := bind_some h
   clear h
   have h := h'; clear h'
   have hc9 := c_spec_validStore (alist_0 := alist_1) (clist_0 := clist_1) hx8
   refine st_call (cx_call hc9 (ent_f hc9.fn rfl) hn0 (show Hp S0 σ0 _ ([Ch.ro 0 (Sl alist_1 list_1 clist_1) list_1] ++ [Ch.ro 0 (Sl acentres_0 centres_0 ccentres_0) centres_0, Ch.ro 0 (Sl alist_1 list_1 clist_1) list_1]) from (H.sel' [1, 0, 1] rfl rfl))) (wanted_yes rfl (by exact (congrArg some hb6))) ?_
   rintro _ σ10 ⟨_, ⟨rfl, rfl⟩, H, -⟩
   replace H : Hp S0 σ0 σ10 [Ch.ro 0 (Sl acentres_0 centres_0 ccentres_0) centres_0, Ch.ro 0 (Sl alist_1 list_1 clist_1) list_1] := H
   refine st_g (v := (B (!r7))) (congrArg some hb6) (rv_not rfl) ?_
   refine st (v := (B (!r7))) (rv_pick_f (congrArg B hb6) rfl) ?_
   refine w_end ?_
   obtain rfl := Option.some.inj h
   exact ⟨rfl, _, σ10, fr_join ⟨rfl, rfl, rfl, trivial⟩, rfl, H.sel' [0, 1] rfl rfl⟩
 ·clear hj
  have h := h'
  clear h' H
  rintro e a w ⟨rfl, ρ, σ11, rfl, rfl, H⟩
  refine q_then ?_
  refine cd_cond o1 rfl (fun hb12 => ?_) (fun hb12 => ?_)
  ·replace h := bif_t hb12 h
   refine c_seq ?_
   refine rg ?_
   refine st (v := (.slice none 0 0)) (rv_assign rfl) ?_
   refine st (v := (I (-1))) (rv_assign rfl) ?_
   refine w_end ?_
   refine q_then ?_
   refine c_ret ?_
   refine q_then_r ?_
   replace H := H.nilOwn (List Int) n0 n0
   obtain rfl := Option.some.inj h
   exact fin_ret (v := (.tuple #[(.slice none 0 0), (I (-1))])) (results_ok Try.results35 (res_tmp (v := (.slice none 0 0)) rfl (res_tmp (v := (I (-1))) rfl res_nil)) rfl) ⟨none, 0, rfl, rfl⟩ (H.sel' [0] rfl rfl)
  ·replace h := bif_f hb12 h
   refine c_skip ?_
   refine q_then ?_
   refine c_seq ?_
   refine rg ?_
   refine st_ex (ex_buildSlice (el := n0) (xs := ([] : List (List Int))) (ps := []) (cs := []) H hn0 Try.underlying29 ti24 rfl rfl (by kernel_rfl) (.nil) rfl) wn ?_
   rintro _ σ14 ⟨b13, rfl, H, -⟩
   refine st (v := (Sl (some ⟨b13, 0, none⟩) ([] : List (List Int)) 0)) (rv_assign rfl) ?_
   refine w_end ?_
   refine q_then ?_
   refine c_seq ?_
   refine c_seq ?_
   refine rg ?_
   refine st (v := (I 0)) (rv_assign rfl) ?_
   refine w_end ?_
   refine q_then ?_
   obtain ⟨o15, hj, h'⟩ := bind_some h
   clear h
   refine c_cut (fun e a w => e = .normal ∧ ∃ (ρ : Nat → Value) (σ : St) (aj1 : Option Addr) (cj2 : Nat), a = fr 47 (updL ρ [(1, (Sl alist_1 list_1 clist_1)), (6, (Sl aj1 o15 cj2))]) ∧ w = σ.w ∧ Hp S0 σ0 σ [Ch.ro 0 (Sl alist_1 list_1 clist_1) list_1, Ch.own n0 n0 (Sl aj1 o15 cj2) o15]) ?_ ?_
   ·clear h'
    rename _ = some o15 => h
    refine c_blk ?_
    refine wp_loopM _ h (fun s16 a w => ∃ (ρ : Nat → Value) (σ : St) (aj1 : Option Addr) (cj2 : Nat), a = fr 47 (updL ρ [(0, (Sl acentres_0 centres_0 ccentres_0)), (1, (Sl alist_1 list_1 clist_1)), (6, (Sl aj1 s16.1 cj2)), (7, (I s16.2))]) ∧ w = σ.w ∧ Hp S0 σ0 σ [Ch.ro 0 (Sl acentres_0 centres_0 ccentres_0) centres_0, Ch.ro 0 (Sl alist_1 list_1 clist_1) list_1, Ch.own n0 n0 (Sl aj1 s16.1 cj2) s16.1]) ⟨_, σ14, (some ⟨b13, 0, none⟩), 0, fr_join ⟨rfl, rfl, rfl, rfl, trivial⟩, rfl, H.sel' [1, 2, 0] rfl rfl⟩ ?_
    clear h H
    rintro s16 a w o ⟨ρ, σ17, a18, c19, rfl, rfl, H⟩ h hres
    refine c_seq ?_
    refine c_seq ?_
    refine rg ?_
    refine st (v := (I s16.2)) (rv_move rfl) ?_
    refine st (v := (Sl acentres_0 centres_0 ccentres_0)) (rv_move rfl) ?_
    refine st (v := (I (centres_0.length : Int))) (rv_len Try.underlying29 rfl) ?_
    refine st (v := (B (decide (s16.2 < (centres_0.length : Int))))) (rv_lss (a := s16.2) (b := (centres_0.length : Int)) rfl rfl) ?_
    refine w_end ?_
    refine q_then ?_
    refine cd_cond (decide (s16.2 < (centres_0.length : Int))) rfl (fun hb20 => ?_) (fun hb20 => ?_)
    ·replace h := bif_t hb20 h
     refine c_skip ?_
     refine q_then ?_
     refine c_seq ?_
     refine c_blk ?_
     refine rg ?_
     refine st (v := (Sl a18 s16.1 c19)) (rv_move rfl) ?_
     refine st (v := (Sl acentres_0 centres_0 ccentres_0)) (rv_move rfl) ?_
     refine st (v := (I s16.2)) (rv_move rfl) ?_
     obtain ⟨x21, hx22, h'⟩ := bind_some h
     clear h
     have h := h'; clear h'
     obtain ⟨b24, o25, hi23, -⟩ := (H.ro 0 rfl).ix hx22
     refine st (v := (pt b24 o25)) (rv_ix Try.underlying29 ti24 rfl rfl hi23) ?_
     obtain ⟨v29, hc30, hR28⟩ := ((H.ro 0 rfl).at hx22 hi23).slice
     obtain ⟨a26, c27, rfl⟩ := hR28.isSl
     replace H := H.add (d := Ch.ro 0 (Sl a26 x21 c27) x21) hR28 (fun _ h => h)
     clear hR28
     refine st (v := (Sl a26 x21 c27)) (rv_load1 Try.underlying24 rfl rfl hc30) ?_
     obtain ⟨r31, hx32, h'⟩ := bind_some h
     clear h
     have h := h'; clear h'
     have hc33 := c_spec_copyInts (alist_0 := a26) (clist_0 := c27) hx32
     refine st_call (cx_call hc33 (ent_f hc33.fn rfl) hn0 (show Hp S0 σ0 _ ([Ch.ro 0 (Sl a26 x21 c27) x21] ++ [Ch.ro 0 (Sl a26 x21 c27) x21, Ch.ro 0 (Sl acentres_0 centres_0 ccentres_0) centres_0, Ch.ro 0 (Sl alist_1 list_1 clist_1) list_1, Ch.own n0 n0 (Sl a18 s16.1 c19) s16.1]) from (H.sel' [0, 0, 1, 2, 3] rfl rfl))) wn ?_
     rintro _ σ36 ⟨_, ⟨a34, c35, rfl, rfl⟩, H, -⟩
     replace H : Hp S0 σ0 σ36 [Ch.own n0 n0 (Sl a34 r31 c35) r31, Ch.ro 0 (Sl a26 x21 c27) x21, Ch.ro 0 (Sl acentres_0 centres_0 ccentres_0) centres_0, Ch.ro 0 (Sl alist_1 list_1 clist_1) list_1, Ch.own n0 n0 (Sl a18 s16.1 c19) s16.1] := H
     obtain ⟨σ37, hw38, H, -⟩ := H.pub 0 rfl (Nat.le_refl _)
     rw [← hw38]; clear hw38
     refine st_ex (ex_buildSlice (el := n0) (xs := ([r31] : List (List Int))) (ps := [(0, (Sl a34 r31 c35))]) (cs := [(Sl a34 r31 c35)]) H hn0 Try.underlying29 ti24 rfl rfl (by kernel_rfl) (.cons (c := [(Sl a34 r31 c35)]) ⟨_, rfl, (H.ro 0 rfl)⟩ (.nil)) rfl) wn ?_
     rintro _ σ40 ⟨b39, rfl, H, -⟩
     obtain ⟨xs41, hx42, h'⟩ := bind_some h
     clear h
     have h := h'; clear h'
     refine st_ex (ex_append H (i := 5) rfl Try.underlying29 Try.underlying29 ti24 rfl rfl (by decide) (H.own 0 rfl).rd hx42 hn0 rfl rfl) wn ?_
     rintro _ σ45 ⟨a43, c44, rfl, H, -⟩
     refine st (v := (Sl a43 xs41 c44)) (rv_assign rfl) ?_
     refine w_end ?_
     refine q_blk ?_
     refine q_then ?_
     refine rg ?_
     refine st (v := (I s16.2)) (rv_move rfl) ?_
     refine st (v := (I (w64 (s16.2 + 1)))) (rv_add (a := s16.2) (b := 1) rfl rfl) ?_
     refine st (v := (I (w64 (s16.2 + 1)))) (rv_assign rfl) ?_
     refine w_end ?_
     refine q_then ?_
     obtain rfl := Option.some.inj h
     exact ⟨_, rfl, _, σ45, a43, c44, fr_join ⟨rfl, rfl, rfl, rfl, trivial⟩, rfl, H.sel' [4, 5, 0] rfl rfl⟩
    ·replace h := bif_f hb20 h
     refine c_exit ?_
     refine q_then_x ?_
     refine q_then_x ?_
     refine q_blk_hit ?_
     obtain rfl := Option.some.inj h
     obtain rfl := hres _ rfl
     exact ⟨rfl, _, σ17, a18, c19, fr_join ⟨rfl, rfl, trivial⟩, rfl, H.sel' [1, 2] rfl rfl⟩
   ·clear hj
    have h := h'
    clear h' H
    rintro e a w ⟨rfl, ρ, σ46, a47, c48, rfl, rfl, H⟩
    refine q_then ?_
    refine c_seq ?_
    refine c_seq ?_
    refine rg ?_
    refine st (v := (I 0)) (rv_assign rfl) ?_
    refine w_end ?_
    refine q_then ?_
    obtain ⟨o49, hj, h'⟩ := bind_some h
    clear h
    refine c_cut (fun e a w => (∃ t, o49 = (.inl t) ∧ e = .normal ∧ ∃ (ρ : Nat → Value) (σ : St) (aj1 : Option Addr) (cj2 : Nat), a = fr 47 (updL ρ [(6, (Sl aj1 t cj2))]) ∧ w = σ.w ∧ Hp S0 σ0 σ [Ch.own n0 n0 (Sl aj1 t cj2) t]) ∨ (∃ t, o49 = (.inr t) ∧ e = .ret ∧ ∃ (ρ : Nat → Value) (σ : St) (aj1 : Option Addr) (cj2 : Nat), a = fr 47 (updL ρ [(4, (Sl aj1 t.1 cj2)), (5, (I t.2))]) ∧ w = σ.w ∧ Hp S0 σ0 σ [Ch.own n0 n0 (Sl aj1 t.1 cj2) t.1])) ?_ ?_
    ·clear h'
     rename _ = some o49 => h
     refine c_blk ?_
     refine wp_loopM _ h (fun s50 a w => ∃ (ρ : Nat → Value) (σ : St) (aj1 : Option Addr) (cj2 : Nat), a = fr 47 (updL ρ [(1, (Sl alist_1 list_1 clist_1)), (6, (Sl aj1 s50.1 cj2)), (8, (I s50.2))]) ∧ w = σ.w ∧ Hp S0 σ0 σ [Ch.ro 0 (Sl alist_1 list_1 clist_1) list_1, Ch.own n0 n0 (Sl aj1 s50.1 cj2) s50.1]) ⟨_, σ46, a47, c48, fr_join ⟨rfl, rfl, rfl, trivial⟩, rfl, H.sel' [0, 1] rfl rfl⟩ ?_
     clear h H
     rintro s50 a w o ⟨ρ, σ51, a52, c53, rfl, rfl, H⟩ h hres
     refine c_seq ?_
     refine c_seq ?_
     refine rg ?_
     refine st (v := (I s50.2)) (rv_move rfl) ?_
     refine st (v := (B (decide (s50.2 < 8)))) (rv_lss (a := s50.2) (b := 8) rfl rfl) ?_
     refine w_end ?_
     refine q_then ?_
     refine cd_cond (decide (s50.2 < 8)) rfl (fun hb54 => ?_) (fun hb54 => ?_)
     ·replace h := bif_t hb54 h
      refine c_skip ?_
      refine q_then ?_
      refine c_seq ?_
      refine c_blk ?_
      refine c_seq ?_
      refine rg ?_
      refine st (v := (Sl a52 s50.1 c53)) (rv_move rfl) ?_
      refine st (v := (Sl alist_1 list_1 clist_1)) (rv_move rfl) ?_
      obtain ⟨r55, hx56, h'⟩ := bind_some h
      clear h
      have h := h'; clear h'
      have hc57 := c_spec_moveCentres (acentres_0 := a52) (ccentres_0 := c53) (alist_1 := alist_1) (clist_1 := clist_1) hx56
      have hle := Nat.le_trans hn0 H.size
      refine st_call (cx_lend (Loan.lend (Loan.same Loan.nil)) hc57 (ent_f hc57.fn rfl) (show Hp S0 σ0 _ ([Ch.own n0 n0 (Sl a52 s50.1 c53) s50.1] ++ ([Ch.ro 0 (Sl alist_1 list_1 clist_1) list_1] ++ [Ch.ro 0 (Sl alist_1 list_1 clist_1) list_1])) from (H.sel' [1, 0, 0] rfl rfl)) (by rintro _ _ _ ⟨_, _, rfl, rfl⟩; exact ⟨Ab.own (Nat.le_refl _), trivial⟩)) wn ?_
      rintro _ σ60 ⟨_, ⟨a58, c59, rfl, rfl⟩, H, -, -⟩
      replace H : Hp S0 σ0 σ60 [Ch.own σ51.size σ51.size (Sl a58 r55 c59) r55, Ch.own n0 n0 (Sl a52 s50.1 c53) s50.1, Ch.ro 0 (Sl alist_1 list_1 clist_1) list_1] := H
      replace H := H.ownLow 0 n0 n0 rfl hle hle
      clear hle
      replace H : Hp S0 σ0 σ60 [Ch.own n0 n0 (Sl a58 r55 c59) r55, Ch.own n0 n0 (Sl a52 s50.1 c53) s50.1, Ch.ro 0 (Sl alist_1 list_1 clist_1) list_1] := H
      refine st (v := (Sl a58 r55 c59)) (rv_assign rfl) ?_
      refine w_end ?_
      refine q_then ?_
      refine c_seq ?_
      refine c_seq ?_
      refine rg ?_
      refine st (v := (Sl a58 r55 c59)) (rv_move rfl) ?_
      refine st (v := (Sl a52 s50.1 c53)) (rv_move rfl) ?_
      obtain ⟨r61, hx62, h'⟩ := bind_some h
      clear h
      have h := h'; clear h'
      have hc63 := c_spec_sameVectors (aa_0 := a58) (ca_0 := c59) (ab_1 := a52) (cb_1 := c53) hx62
      have hle := Nat.le_trans hn0 H.size
      refine st_call (cx_lend (Loan.lend (Loan.lend Loan.nil)) hc63 (ent_f hc63.fn rfl) (show Hp S0 σ0 _ ([Ch.own n0 n0 (Sl a58 r55 c59) r55, Ch.own n0 n0 (Sl a52 s50.1 c53) s50.1] ++ ([] ++ [Ch.ro 0 (Sl alist_1 list_1 clist_1) list_1])) from (H.sel' [0, 1, 2] rfl rfl)) (by rintro _ _ _ ⟨rfl, rfl⟩; exact trivial)) wn ?_
      rintro _ σ64 ⟨_, ⟨rfl, rfl⟩, H, -, -⟩
      replace H : Hp S0 σ0 σ64 [Ch.own n0 n0 (Sl a58 r55 c59) r55, Ch.own n0 n0 (Sl a52 s50.1 c53) s50.1, Ch.ro 0 (Sl alist_1 list_1 clist_1) list_1] := H
      clear hle
      replace H : Hp S0 σ0 σ64 [Ch.own n0 n0 (Sl a58 r55 c59) r55, Ch.own n0 n0 (Sl a52 s50.1 c53) s50.1, Ch.ro 0 (Sl alist_1 list_1 clist_1) list_1] := H
      refine w_end ?_
      refine q_then ?_
      refine cd_cond r61 rfl (fun hb65 => ?_) (fun hb65 => ?_)
      ·replace h := bif_t hb65 h
       refine c_seq ?_
       refine rg ?_
       refine st (v := (Sl a52 s50.1 c53)) (rv_move rfl) ?_
       refine st (v := (I s50.2)) (rv_move rfl) ?_
       refine st (v := (Sl a52 s50.1 c53)) (rv_assign rfl) ?_
       refine st (v := (I s50.2)) (rv_assign rfl) ?_
       refine w_end ?_
       refine q_then ?_
       refine c_ret ?_
       refine q_then_r ?_
       refine q_blk_r ?_
       refine q_then_r ?_
       refine q_then_r ?_
       refine q_blk_r ?_
       obtain rfl := Option.some.inj h
       obtain rfl := hres _ rfl
       exact .inr (⟨_, rfl, rfl, _, σ64, a52, c53, fr_join ⟨rfl, rfl, trivial⟩, rfl, H.sel' [1] rfl rfl⟩)
      ·replace h := bif_f hb65 h
       refine c_skip ?_
       refine q_then ?_
       refine rg ?_
       refine st (v := (Sl a58 r55 c59)) (rv_move rfl) ?_
       refine st (v := (Sl a58 r55 c59)) (rv_assign rfl) ?_
       refine w_end ?_
       refine q_blk ?_
       refine q_then ?_
       refine rg ?_
       refine st (v := (I s50.2)) (rv_move rfl) ?_
       refine st (v := (I (w64 (s50.2 + 1)))) (rv_add (a := s50.2) (b := 1) rfl rfl) ?_
       refine st (v := (I (w64 (s50.2 + 1)))) (rv_assign rfl) ?_
       refine w_end ?_
       refine q_then ?_
       obtain rfl := Option.some.inj h
       exact ⟨_, rfl, _, σ64, a58, c59, fr_join ⟨rfl, rfl, rfl, trivial⟩, rfl, H.sel' [2, 0] rfl rfl⟩
     ·replace h := bif_f hb54 h
      refine c_exit ?_
      refine q_then_x ?_
      refine q_then_x ?_
      refine q_blk_hit ?_
      obtain rfl := Option.some.inj h
      obtain rfl := hres _ rfl
      exact .inl ⟨_, rfl, rfl, _, σ51, a52, c53, fr_join ⟨rfl, trivial⟩, rfl, H.sel' [1] rfl rfl⟩
    ·clear hj
     have h := h'
     clear h' H
     rintro e a w (⟨t66, rfl, rfl, ρ, σ67, a68, c69, rfl, rfl, H⟩ | ⟨t70, rfl, rfl, ρ, σ71, a72, c73, rfl, rfl, H⟩)
     ·replace h := selim_l h
      refine q_then ?_
      refine c_seq ?_
      refine rg ?_
      refine st (v := (Sl a68 t66 c69)) (rv_move rfl) ?_
      refine st (v := (Sl a68 t66 c69)) (rv_assign rfl) ?_
      refine st (v := (I 8)) (rv_assign rfl) ?_
      refine w_end ?_
      refine q_then ?_
      refine c_ret ?_
      obtain rfl := Option.some.inj h
      exact fin_ret (v := (.tuple #[(Sl a68 t66 c69), (I 8)])) (results_ok Try.results35 (res_tmp (v := (Sl a68 t66 c69)) rfl (res_tmp (v := (I 8)) rfl res_nil)) rfl) ⟨a68, c69, rfl, rfl⟩ (H.sel' [0] rfl rfl)
     ·replace h := selim_r h
      refine q_then_r ?_
      obtain rfl := Option.some.inj h
      exact fin_ret (v := (.tuple #[(Sl a72 t70.1 c73), (I t70.2)])) (results_ok Try.results35 (res_tmp (v := (Sl a72 t70.1 c73)) rfl (res_tmp (v := (I t70.2)) rfl res_nil)) rfl) ⟨a72, c73, rfl, rfl⟩ (H.sel' [0] rfl rfl)

theorem c_laws_FnSettleCentresStep {code_0 : List UInt8} {acode_0 : Option Addr} {ccode_0 : Nat} {r : Bool} (h : M.laws_FnSettleCentresStep code_0 = some r) :
    Cal2 Try.prog 12 [(Sl acode_0 code_0 ccode_0)] [Ch.ro 0 (Sl acode_0 code_0 ccode_0) code_0] (fun n0 v L => v = (B r) ∧ L = []) := by
 refine cal2 (n := 73) Try.func12 rfl rfl rfl rfl ?_
 intro S0 σ0 n0 hn0 H
 unfold M.laws_FnSettleCentresStep at h
 refine c_seq ?_
 refine rg ?_
 refine st (v := (B false)) (rv_assign rfl) ?_
 refine w_end ?_
 refine q_then ?_
 refine c_seq ?_
 refine c_seq ?_
 refine rg ?_
 refine st (v := (Sl acode_0 code_0 ccode_0)) (rv_move rfl) ?_
 refine st (v := (I (code_0.length : Int))) (rv_len Try.underlying22 rfl) ?_
 refine st (v := (B (decide (1048576 < (code_0.length : Int))))) (rv_gtr (a := (code_0.length : Int)) (b := 1048576) rfl rfl) ?_
 refine w_end ?_
 refine q_then ?_
 refine cd_cond (decide (1048576 < (code_0.length : Int))) rfl (fun hb1 => ?_) (fun hb1 => ?_)
 ·replace h := bif_t hb1 h
  refine c_seq ?_
  refine rg ?_
  refine st (v := (B true)) (rv_assign rfl) ?_
  refine w_end ?_
  refine q_then ?_
  refine c_ret ?_
  refine q_then_r ?_
  obtain rfl := Option.some.inj h
  exact fin_ret (v := (B true)) (results_ok Try.results12 (res_tmp (v := (B true)) rfl res_nil) rfl) ⟨rfl, rfl⟩ (H.sel' [] rfl rfl)
 ·replace h := bif_f hb1 h
  refine c_skip ?_
  refine q_then ?_
  refine c_seq ?_
  refine rg ?_
  refine st (v := (Sl acode_0 code_0 ccode_0)) (rv_move rfl) ?_
  obtain ⟨r2, hx3, h'⟩ := bind_some h
  clear h
  have h := h'; clear h'
  have hc4 := c_spec_DrawSettleCentres (acode_0 := acode_0) (ccode_0 := ccode_0) hx3
  refine st_call (cx_call hc4 (ent_f hc4.fn rfl) hn0 (show Hp S0 σ0 _ ([Ch.ro 0 (Sl acode_0 code_0 ccode_0) code_0] ++ [Ch.ro 0 (Sl acode_0 code_0 ccode_0) code_0]) from (H.sel' [0, 0] rfl rfl))) wn ?_
  rintro _ σ9 ⟨_, ⟨a5, c6, a7, c8, rfl, rfl⟩, H, -⟩
  replace H : Hp S0 σ0 σ9 [Ch.own n0 n0 (Sl a5 r2.1 c6) r2.1, Ch.own n0 n0 (Sl a7 r2.2 c8) r2.2, Ch.ro 0 (Sl acode_0 code_0 ccode_0) code_0] := H
  refine st (v := (.tuple #[(Sl a5 r2.1 c6), (Sl a7 r2.2 c8)])) (rv_move rfl) ?_
  refine st (v := (Sl a5 r2.1 c6)) (rv_extract rfl rfl) ?_
  refine st (v := (Sl a7 r2.2 c8)) (rv_extract rfl rfl) ?_
  refine st (v := (Sl a5 r2.1 c6)) (rv_assign rfl) ?_
  refine st (v := (Sl a7 r2.2 c8)) (rv_assign rfl) ?_
  refine w_end ?_
  refine q_then ?_
  refine c_seq ?_
  refine rg ?_
  refine st (v := (Sl a5 r2.1 c6)) (rv_move rfl) ?_
  refine st (v := (Sl a7 r2.2 c8)) (rv_move rfl) ?_
  obtain ⟨σ10, hw11, H, -⟩ := H.pub 0 rfl (Nat.le_refl _)
  rw [← hw11]; clear hw11
  obtain ⟨σ12, hw13, H, -⟩ := H.pub 1 rfl (Nat.le_refl _)
  rw [← hw13]; clear hw13
  replace H := H.roLow 1 0 rfl (Nat.zero_le _)
  replace H := H.roLow 1 0 rfl (Nat.zero_le _)
  obtain ⟨r14, hx15, h'⟩ := bind_some h
  clear h
  have h := h'; clear h'
  have hc16 := c_impl_SettleCentres (acentres_0 := a5) (ccentres_0 := c6) (alist_1 := a7) (clist_1 := c8) hx15
  refine st_call (cx_call hc16 (ent_f hc16.fn rfl) hn0 (show Hp S0 σ0 _ ([Ch.ro 0 (Sl a5 r2.1 c6) r2.1, Ch.ro 0 (Sl a7 r2.2 c8) r2.2] ++ [Ch.ro 0 (Sl a7 r2.2 c8) r2.2, Ch.ro 0 (Sl a5 r2.1 c6) r2.1, Ch.ro n0 (Sl a7 r2.2 c8) r2.2, Ch.ro n0 (Sl a5 r2.1 c6) r2.1, Ch.ro 0 (Sl acode_0 code_0 ccode_0) code_0]) from (H.sel' [1, 0, 0, 1, 2, 3, 4] rfl rfl))) wn ?_
  rintro _ σ19 ⟨_, ⟨a17, c18, rfl, rfl⟩, H, -⟩
  replace H : Hp S0 σ0 σ19 [Ch.ro 0 (Sl a17 r14.1 c18) r14.1, Ch.ro 0 (Sl a7 r2.2 c8) r2.2, Ch.ro 0 (Sl a5 r2.1 c6) r2.1, Ch.ro n0 (Sl a7 r2.2 c8) r2.2, Ch.ro n0 (Sl a5 r2.1 c6) r2.1, Ch.ro 0 (Sl acode_0 code_0 ccode_0) code_0] := H
  refine st (v := (.tuple #[(Sl a17 r14.1 c18), (I r14.2)])) (rv_move rfl) ?_
  refine st (v := (Sl a17 r14.1 c18)) (rv_extract rfl rfl) ?_
  refine st (v := (I r14.2)) (rv_extract rfl rfl) ?_
  refine st (v := (Sl a17 r14.1 c18)) (rv_assign rfl) ?_
  refine st (v := (I r14.2)) (rv_assign rfl) ?_
  refine w_end ?_
  refine q_then ?_
  refine c_seq ?_
  refine rg ?_
  refine st (v := (Sl a5 r2.1 c6)) (rv_move rfl) ?_
  refine st (v := (Sl a7 r2.2 c8)) (rv_move rfl) ?_
  replace H := H.roLow 4 0 rfl (Nat.zero_le _)
  replace H := H.roLow 4 0 rfl (Nat.zero_le _)
  obtain ⟨r20, hx21, h'⟩ := bind_some h
  clear h
  have h := h'; clear h'
  have hc22 := c_spec_SettleCentres (acentres_0 := a5) (ccentres_0 := c6) (alist_1 := a7) (clist_1 := c8) hx21
  refine st_call (cx_call hc22 (ent_f hc22.fn rfl) hn0 (show Hp S0 σ0 _ ([Ch.ro 0 (Sl a5 r2.1 c6) r2.1, Ch.ro 0 (Sl a7 r2.2 c8) r2.2] ++ [Ch.ro 0 (Sl a7 r2.2 c8) r2.2, Ch.ro 0 (Sl a5 r2.1 c6) r2.1, Ch.ro 0 (Sl a17 r14.1 c18) r14.1, Ch.ro 0 (Sl a7 r2.2 c8) r2.2, Ch.ro 0 (Sl a5 r2.1 c6) r2.1, Ch.ro n0 (Sl a7 r2.2 c8) r2.2, Ch.ro n0 (Sl a5 r2.1 c6) r2.1, Ch.ro 0 (Sl acode_0 code_0 ccode_0) code_0]) from (H.sel' [1, 0, 0, 1, 2, 3, 4, 5, 6, 7] rfl rfl))) wn ?_
  rintro _ σ25 ⟨_, ⟨a23, c24, rfl, rfl⟩, H, -⟩
  replace H : Hp S0 σ0 σ25 [Ch.own n0 n0 (Sl a23 r20.1 c24) r20.1, Ch.ro 0 (Sl a7 r2.2 c8) r2.2, Ch.ro 0 (Sl a5 r2.1 c6) r2.1, Ch.ro 0 (Sl a17 r14.1 c18) r14.1, Ch.ro 0 (Sl a7 r2.2 c8) r2.2, Ch.ro 0 (Sl a5 r2.1 c6) r2.1, Ch.ro n0 (Sl a7 r2.2 c8) r2.2, Ch.ro n0 (Sl a5 r2.1 c6) r2.1, Ch.ro 0 (Sl acode_0 code_0 ccode_0) code_0] := H
  replace H : Hp S0 σ0 σ25 [Ch.own n0 n0 (Sl a23 r20.1 c24) r20.1, Ch.ro 0 (Sl a17 r14.1 c18) r14.1, Ch.ro n0 (Sl a7 r2.2 c8) r2.2, Ch.ro n0 (Sl a5 r2.1 c6) r2.1] := H.sel' [0, 3, 6, 7] rfl rfl
  refine st (v := (.tuple #[(Sl a23 r20.1 c24), (I r20.2)])) (rv_move rfl) ?_
  refine st (v := (Sl a23 r20.1 c24)) (rv_extract rfl rfl) ?_
  refine st (v := (I r20.2)) (rv_extract rfl rfl) ?_
  refine st (v := (Sl a23 r20.1 c24)) (rv_assign rfl) ?_
  refine st (v := (I r20.2)) (rv_assign rfl) ?_
  refine w_end ?_
  refine q_then ?_
  refine c_seq ?_
  refine c_seq ?_
  obtain ⟨o26, hj, h'⟩ := bind_some h
  clear h
  refine c_cut (fun e a w => e = .normal ∧ ∃ (ρ : Nat → Value) (σ : St), a = fr 73 (updL ρ [(3, (Sl a5 r2.1 c6)), (4, (Sl a7 r2.2 c8)), (5, (Sl a17 r14.1 c18)), (6, (I r14.2)), (7, (Sl a23 r20.1 c24)), (8, (I r20.2)), (47, (B o26))]) ∧ w = σ.w ∧ Hp S0 σ0 σ [Ch.ro n0 (Sl a5 r2.1 c6) r2.1, Ch.ro n0 (Sl a7 r2.2 c8) r2.2, Ch.ro 0 (Sl a17 r14.1 c18) r14.1, Ch.own n0 n0 (Sl a23 r20.1 c24) r20.1]) ?_ ?_
  ·clear h'
   rename _ = some o26 => h
   refine rg ?_
   refine st (v := (Sl a17 r14.1 c18)) (rv_move rfl) ?_
   refine st (v := (Sl a23 r20.1 c24)) (rv_move rfl) ?_
   obtain ⟨r27, hx28, h'⟩ := bind_some h
   clear h
   have h := h'; clear h'
   have hc29 := c_laws_equalLists (aa_0 := a17) (ca_0 := c18) (ab_1 := a23) (cb_1 := c24) hx28
   have hle := Nat.le_trans hn0 H.size
   refine st_call (cx_lend (Loan.same (Loan.lend Loan.nil)) hc29 (ent_f hc29.fn rfl) (show Hp S0 σ0 _ ([Ch.own n0 n0 (Sl a23 r20.1 c24) r20.1] ++ ([Ch.ro 0 (Sl a17 r14.1 c18) r14.1] ++ [Ch.ro 0 (Sl a17 r14.1 c18) r14.1, Ch.ro n0 (Sl a7 r2.2 c8) r2.2, Ch.ro n0 (Sl a5 r2.1 c6) r2.1])) from (H.sel' [0, 1, 1, 2, 3] rfl rfl)) (by rintro _ _ _ ⟨rfl, rfl⟩; exact trivial)) wn ?_
   rintro _ σ30 ⟨_, ⟨rfl, rfl⟩, H, -, -⟩
   replace H : Hp S0 σ0 σ30 [Ch.own n0 n0 (Sl a23 r20.1 c24) r20.1, Ch.ro 0 (Sl a17 r14.1 c18) r14.1, Ch.ro n0 (Sl a7 r2.2 c8) r2.2, Ch.ro n0 (Sl a5 r2.1 c6) r2.1] := H
   clear hle
   replace H : Hp S0 σ0 σ30 [Ch.own n0 n0 (Sl a23 r20.1 c24) r20.1, Ch.ro 0 (Sl a17 r14.1 c18) r14.1, Ch.ro n0 (Sl a7 r2.2 c8) r2.2, Ch.ro n0 (Sl a5 r2.1 c6) r2.1] := H
   refine st (v := (B (!r27))) (rv_not rfl) ?_
   refine st (v := (B (!r27))) (rv_move rfl) ?_
   rcases Bool.eq_false_or_eq_true (!r27) with hb31 | hb31
   ·replace h := bif_t hb31 h
    refine st_skip (congrArg some hb31) ?_
    refine st_skip (congrArg some hb31) ?_
    refine st_skip (congrArg some hb31) ?_
    refine st (v := (B true)) (rv_pick_t (congrArg B hb31) rfl) ?_
    refine st (v := (B true)) (rv_move rfl) ?_
    refine st_skip rfl ?_
    refine st_skip rfl ?_
    refine st (v := (B true)) (rv_pick_t rfl rfl) ?_
    refine st (v := (B true)) (rv_move rfl) ?_
    refine st_skip rfl ?_
    refine st_skip rfl ?_
    refine st (v := (B true)) (rv_pick_t rfl rfl) ?_
    refine w_end ?_
    obtain rfl := Option.some.inj h
    exact ⟨rfl, _, σ30, fr_join ⟨rfl, rfl, rfl, rfl, rfl, rfl, rfl, trivial⟩, rfl, H.sel' [3, 2, 1, 0] rfl rfl⟩
   ·replace h := bif_f hb31 h
    refine st_g (v := (I r14.2)) (congrArg some hb31) (rv_move rfl) ?_
    refine st_g (v := (I r20.2)) (congrArg some hb31) (rv_move rfl) ?_
    refine st_g (v := (B (r14.2 != r20.2))) (congrArg some hb31) (rv_neq (a := r14.2) (b := r20.2) rfl rfl) ?_
    refine st (v := (B (r14.2 != r20.2))) (rv_pick_f (congrArg B hb31) rfl) ?_
    refine st (v := (B (r14.2 != r20.2))) (rv_move rfl) ?_
    rcases Bool.eq_false_or_eq_true (r14.2 != r20.2) with hb32 | hb32
    ·replace h := bif_t hb32 h
     refine st_skip (congrArg some hb32) ?_
     refine st_skip (congrArg some hb32) ?_
     refine st (v := (B true)) (rv_pick_t (congrArg B hb32) rfl) ?_
     refine st (v := (B true)) (rv_move rfl) ?_
     refine st_skip rfl ?_
     refine st_skip rfl ?_
     refine st (v := (B true)) (rv_pick_t rfl rfl) ?_
     refine w_end ?_
     obtain rfl := Option.some.inj h
     exact ⟨rfl, _, σ30, fr_join ⟨rfl, rfl, rfl, rfl, rfl, rfl, rfl, trivial⟩, rfl, H.sel' [3, 2, 1, 0] rfl rfl⟩
    ·replace h := bif_f hb32 h
     refine st_g (v := (I r14.2)) (congrArg some hb32) (rv_move rfl) ?_
     refine st_g (v := (B (decide (r14.2 < 1)))) (congrArg some hb32) (rv_lss (a := r14.2) (b := 1) rfl rfl) ?_
     refine st (v := (B (decide (r14.2 < 1)))) (rv_pick_f (congrArg B hb32) rfl) ?_
     refine st (v := (B (decide (r14.2 < 1)))) (rv_move rfl) ?_
     rcases Bool.eq_false_or_eq_true (decide (r14.2 < 1)) with hb33 | hb33
     ·replace h := bif_t hb33 h
      refine st_skip (congrArg some hb33) ?_
      refine st_skip (congrArg some hb33) ?_
      refine st (v := (B true)) (rv_pick_t (congrArg B hb33) rfl) ?_
      refine w_end ?_
      obtain rfl := Option.some.inj h
      exact ⟨rfl, _, σ30, fr_join ⟨rfl, rfl, rfl, rfl, rfl, rfl, rfl, trivial⟩, rfl, H.sel' [3, 2, 1, 0] rfl rfl⟩
     ·replace h := bif_f hb33 h
      refine st_g (v := (I r14.2)) (congrArg some hb33) (rv_move rfl) ?_
      refine st_g (v := (B (r14.2 == 8))) (congrArg some hb33) (rv_eql (a := r14.2) (b := 8) rfl rfl) ?_
      refine st (v := (B (r14.2 == 8))) (rv_pick_f (congrArg B hb33) rfl) ?_
      refine w_end ?_
      obtain rfl := Option.some.inj h
      exact ⟨rfl, _, σ30, fr_join ⟨rfl, rfl, rfl, rfl, rfl, rfl, rfl, trivial⟩, rfl, H.sel' [3, 2, 1, 0] rfl rfl⟩
  ·clear hj
   have h := h'
   clear h' H
   rintro e a w ⟨rfl, ρ, σ34, rfl, rfl, H⟩
   refine q_then ?_
   refine cd_cond o26 rfl (fun hb35 => ?_) (fun hb35 => ?_)
   ·replace h := bif_t hb35 h
    refine c_seq ?_
    refine rg ?_
    refine st (v := (Sl a17 r14.1 c18)) (rv_move rfl) ?_
    refine st (v := (Sl a23 r20.1 c24)) (rv_move rfl) ?_
    obtain ⟨σ36, hw37, H, -⟩ := H.pub 3 rfl (Nat.le_refl _)
    rw [← hw37]; clear hw37
    replace H := H.roLow 0 0 rfl (Nat.zero_le _)
    obtain ⟨r38, hx39, h'⟩ := bind_some h
    clear h
    have h := h'; clear h'
    have hc40 := c_laws_equalLists (aa_0 := a17) (ca_0 := c18) (ab_1 := a23) (cb_1 := c24) hx39
    refine st_call (cx_call hc40 (ent_f hc40.fn rfl) hn0 (show Hp S0 σ0 _ ([Ch.ro 0 (Sl a17 r14.1 c18) r14.1, Ch.ro 0 (Sl a23 r20.1 c24) r20.1] ++ [Ch.ro 0 (Sl a23 r20.1 c24) r20.1, Ch.ro n0 (Sl a23 r20.1 c24) r20.1, Ch.ro n0 (Sl a5 r2.1 c6) r2.1, Ch.ro n0 (Sl a7 r2.2 c8) r2.2, Ch.ro 0 (Sl a17 r14.1 c18) r14.1]) from (H.sel' [4, 0, 0, 1, 2, 3, 4] rfl rfl))) wn ?_
    rintro _ σ41 ⟨_, ⟨rfl, rfl⟩, H, -⟩
    replace H : Hp S0 σ0 σ41 [Ch.ro 0 (Sl a23 r20.1 c24) r20.1, Ch.ro n0 (Sl a23 r20.1 c24) r20.1, Ch.ro n0 (Sl a5 r2.1 c6) r2.1, Ch.ro n0 (Sl a7 r2.2 c8) r2.2, Ch.ro 0 (Sl a17 r14.1 c18) r14.1] := H
    refine st (v := (B r38)) (rv_move rfl) ?_
    rcases Bool.eq_false_or_eq_true r38 with hb42 | hb42
    ·replace h := bif_t hb42 h
     refine st_g (v := (I r14.2)) (congrArg some hb42) (rv_move rfl) ?_
     refine st_g (v := (I r20.2)) (congrArg some hb42) (rv_move rfl) ?_
     refine st_g (v := (B (r14.2 == r20.2))) (congrArg some hb42) (rv_eql (a := r14.2) (b := r20.2) rfl rfl) ?_
     refine st (v := (B (r14.2 == r20.2))) (rv_pick_t (congrArg B hb42) rfl) ?_
     refine st (v := (B (r14.2 == r20.2))) (rv_assign rfl) ?_
     refine w_end ?_
     refine q_then ?_
     refine c_ret ?_
     refine q_then_r ?_
     obtain rfl := Option.some.inj h
     exact fin_ret (v := (B (r14.2 == r20.2))) (results_ok Try.results12 (res_tmp (v := (B (r14.2 == r20.2))) rfl res_nil) rfl) ⟨rfl, rfl⟩ (H.sel' [] rfl rfl)
    ·replace h := bif_f hb42 h
     refine st_skip (congrArg some hb42) ?_
     refine st_skip (congrArg some hb42) ?_
     refine st_skip (congrArg some hb42) ?_
     refine st (v := (B false)) (rv_pick_f (congrArg B hb42) rfl) ?_
     refine st (v := (B false)) (rv_assign rfl) ?_
     refine w_end ?_
     refine q_then ?_
     refine c_ret ?_
     refine q_then_r ?_
     obtain rfl := Option.some.inj h
     exact fin_ret (v := (B false)) (results_ok Try.results12 (res_tmp (v := (B false)) rfl res_nil) rfl) ⟨rfl, rfl⟩ (H.sel' [] rfl rfl)
   ·replace h := bif_f hb35 h
    refine c_skip ?_
    refine q_then ?_
    refine c_seq ?_
    refine rg ?_
    refine st (v := (Sl a5 r2.1 c6)) (rv_move rfl) ?_
    refine st (v := (Sl a7 r2.2 c8)) (rv_move rfl) ?_
    replace H := H.roLow 0 0 rfl (Nat.zero_le _)
    replace H := H.roLow 2 0 rfl (Nat.zero_le _)
    obtain ⟨r43, hx44, h'⟩ := bind_some h
    clear h
    have h := h'; clear h'
    have hc45 := c_impl_MoveCentres (acentres_0 := a5) (ccentres_0 := c6) (alist_1 := a7) (clist_1 := c8) hx44
    refine st_call (cx_call hc45 (ent_f hc45.fn rfl) hn0 (show Hp S0 σ0 _ ([Ch.ro 0 (Sl a5 r2.1 c6) r2.1, Ch.ro 0 (Sl a7 r2.2 c8) r2.2] ++ [Ch.ro 0 (Sl a7 r2.2 c8) r2.2, Ch.ro 0 (Sl a5 r2.1 c6) r2.1, Ch.ro n0 (Sl a5 r2.1 c6) r2.1, Ch.ro n0 (Sl a7 r2.2 c8) r2.2, Ch.ro 0 (Sl a17 r14.1 c18) r14.1, Ch.own n0 n0 (Sl a23 r20.1 c24) r20.1]) from (H.sel' [1, 0, 0, 1, 2, 3, 4, 5] rfl rfl))) wn ?_
    rintro _ σ49 ⟨_, ⟨a46, c47, rfl, rfl, ht48⟩, H, -⟩
    replace H : Hp S0 σ0 σ49 [Ch.own n0 n0 (Sl a46 r43 c47) r43, Ch.ro 0 (Sl a7 r2.2 c8) r2.2, Ch.ro 0 (Sl a5 r2.1 c6) r2.1, Ch.ro n0 (Sl a5 r2.1 c6) r2.1, Ch.ro n0 (Sl a7 r2.2 c8) r2.2, Ch.ro 0 (Sl a17 r14.1 c18) r14.1, Ch.own n0 n0 (Sl a23 r20.1 c24) r20.1] := H
    refine st (v := (Sl a7 r2.2 c8)) (rv_move rfl) ?_
    obtain ⟨σ50, hw51, H, -⟩ := H.pub 0 rfl (Nat.le_refl _)
    rw [← hw51]; clear hw51
    replace H := H.roLow 0 0 rfl (Nat.zero_le _)
    replace H := H.roLow 5 0 rfl (Nat.zero_le _)
    obtain ⟨r52, hx53, h'⟩ := bind_some h
    clear h
    have h := h'; clear h'
    have hc54 := c_impl_SettleCentres (acentres_0 := a46) (ccentres_0 := c47) (alist_1 := a7) (clist_1 := c8) hx53
    refine st_call (cx_call hc54 (ent_f hc54.fn rfl) hn0 (show Hp S0 σ0 _ ([Ch.ro 0 (Sl a46 r43 c47) r43, Ch.ro 0 (Sl a7 r2.2 c8) r2.2] ++ [Ch.ro 0 (Sl a7 r2.2 c8) r2.2, Ch.ro 0 (Sl a46 r43 c47) r43, Ch.ro n0 (Sl a46 r43 c47) r43, Ch.ro 0 (Sl a7 r2.2 c8) r2.2, Ch.ro 0 (Sl a5 r2.1 c6) r2.1, Ch.ro n0 (Sl a5 r2.1 c6) r2.1, Ch.ro n0 (Sl a7 r2.2 c8) r2.2, Ch.ro 0 (Sl a17 r14.1 c18) r14.1, Ch.own n0 n0 (Sl a23 r20.1 c24) r20.1]) from (H.sel' [1, 0, 0, 1, 2, 3, 4, 5, 6, 7, 8] rfl rfl))) wn ?_
    rintro _ σ57 ⟨_, ⟨a55, c56, rfl, rfl⟩, H, -⟩
    replace H : Hp S0 σ0 σ57 [Ch.ro 0 (Sl a55 r52.1 c56) r52.1, Ch.ro 0 (Sl a7 r2.2 c8) r2.2, Ch.ro 0 (Sl a46 r43 c47) r43, Ch.ro n0 (Sl a46 r43 c47) r43, Ch.ro 0 (Sl a7 r2.2 c8) r2.2, Ch.ro 0 (Sl a5 r2.1 c6) r2.1, Ch.ro n0 (Sl a5 r2.1 c6) r2.1, Ch.ro n0 (Sl a7 r2.2 c8) r2.2, Ch.ro 0 (Sl a17 r14.1 c18) r14.1, Ch.own n0 n0 (Sl a23 r20.1 c24) r20.1] := H
    replace H : Hp S0 σ0 σ57 [Ch.ro 0 (Sl a55 r52.1 c56) r52.1, Ch.ro 0 (Sl a17 r14.1 c18) r14.1] := H.sel' [0, 8] rfl rfl
    refine st (v := (.tuple #[(Sl a55 r52.1 c56), (I r52.2)])) (rv_move rfl) ?_
    refine st (v := (Sl a55 r52.1 c56)) (rv_extract rfl rfl) ?_
    refine st (v := (I r52.2)) (rv_extract rfl rfl) ?_
    refine st (v := (Sl a55 r52.1 c56)) (rv_assign rfl) ?_
    refine st (v := (I r52.2)) (rv_assign rfl) ?_
    refine w_end ?_
    refine q_then ?_
    refine c_seq ?_
    refine rg ?_
    refine st (v := (I r52.2)) (rv_move rfl) ?_
    refine st (v := (I r14.2)) (rv_move rfl) ?_
    refine st (v := (I (w64 (r14.2 - 1)))) (rv_sub (a := r14.2) (b := 1) rfl rfl) ?_
    refine st (v := (B (r52.2 == (w64 (r14.2 - 1))))) (rv_eql (a := r52.2) (b := (w64 (r14.2 - 1))) rfl rfl) ?_
    refine st (v := (B (r52.2 == (w64 (r14.2 - 1))))) (rv_move rfl) ?_
    rcases Bool.eq_false_or_eq_true (r52.2 == (w64 (r14.2 - 1))) with hb58 | hb58
    ·replace h := bif_t hb58 h
     refine st_g (v := (Sl a55 r52.1 c56)) (congrArg some hb58) (rv_move rfl) ?_
     refine st_g (v := (Sl a17 r14.1 c18)) (congrArg some hb58) (rv_move rfl) ?_
     obtain ⟨r59, hx60, h'⟩ := bind_some h
     clear h
     have h := h'; clear h'
     have hc61 := c_laws_equalLists (aa_0 := a55) (ca_0 := c56) (ab_1 := a17) (cb_1 := c18) hx60
     refine st_call (cx_call hc61 (ent_f hc61.fn rfl) hn0 (show Hp S0 σ0 _ ([Ch.ro 0 (Sl a55 r52.1 c56) r52.1, Ch.ro 0 (Sl a17 r14.1 c18) r14.1] ++ [Ch.ro 0 (Sl a55 r52.1 c56) r52.1, Ch.ro 0 (Sl a17 r14.1 c18) r14.1]) from (H.sel' [0, 1, 0, 1] rfl rfl))) (wanted_yes rfl (by exact (congrArg some hb58))) ?_
     rintro _ σ62 ⟨_, ⟨rfl, rfl⟩, H, -⟩
     replace H : Hp S0 σ0 σ62 [Ch.ro 0 (Sl a55 r52.1 c56) r52.1, Ch.ro 0 (Sl a17 r14.1 c18) r14.1] := H
     refine st (v := (B r59)) (rv_pick_t (congrArg B hb58) rfl) ?_
     refine st (v := (B r59)) (rv_assign rfl) ?_
     refine w_end ?_
     refine q_then ?_
     refine c_ret ?_
     obtain rfl := Option.some.inj h
     exact fin_ret (v := (B r59)) (results_ok Try.results12 (res_tmp (v := (B r59)) rfl res_nil) rfl) ⟨rfl, rfl⟩ (H.sel' [] rfl rfl)
    ·replace h := bif_f hb58 h
     refine st_skip (congrArg some hb58) ?_
     refine st_skip (congrArg some hb58) ?_
     refine st_skip (congrArg some hb58) ?_
     refine st (v := (B false)) (rv_pick_f (congrArg B hb58) rfl) ?_
     refine st (v := (B false)) (rv_assign rfl) ?_
     refine w_end ?_
     refine q_then ?_
     refine c_ret ?_
     obtain rfl := Option.some.inj h
     exact fin_ret (v := (B false)) (results_ok Try.results12 (res_tmp (v := (B false)) rfl res_nil) rfl) ⟨rfl, rfl⟩ (H.sel' [] rfl rfl)

end Go.Vs
