/- The functions compute what their models say. -/
import Derived.Test.YtfcemgcmpcmgcaaKChangedKeysLogC4
set_option linter.unusedVariables false
set_option linter.unusedSimpArgs false
set_option maxRecDepth 20000
namespace Go.Vs
open Go Go.Proofs
attribute [local irreducible] Code.wp Code.wpIn wpList wpListIn wpQuiet Calls CallsIn

theorem c_spec_someHistory {Cs : (List UInt8) × Int} {Ct : Option Addr} {Cu : Nat} {Cv Cw Cy : Nat} {Cz Da : List Value} {r : ((List (Int × (Int × (List Int) × Int))) × (List Int)) × ((List UInt8) × Int)} (h : M.spec_someHistory Cs = some r) :
    Cal2 Try.prog 72 [(pt Cw Cy)] [Ch.bx Cv Cw Cy [(Sl Ct Cs.1 Cu), (I Cs.2)] Cz Da, Ch.ro 0 (Sl Ct Cs.1 Cu) Cs.1] (fun n0 v L => ∃ (az1 : Option Addr), ∃ (cz2 : Nat), ∃ (az3 : Option Addr), ∃ (cz4 : Nat), ∃ (az5 : Option Addr), ∃ (cz6 : Nat), v = (.agg #[(Sl az1 r.1.1 cz2), (Sl az3 r.1.2 cz4)]) ∧ L = [Ch.own n0 n0 (Sl az1 r.1.1 cz2) r.1.1, Ch.own n0 n0 (Sl az3 r.1.2 cz4) r.1.2, Ch.bx Cv Cw Cy [(Sl az5 r.2.1 cz6), (I r.2.2)] Cz Da, Ch.ro 0 (Sl az5 r.2.1 cz6) r.2.1]) := by
 refine cal2 (n := 37) Try.func72 rfl rfl rfl rfl ?_
 intro S0 σ0 n0 hn0 H
 unfold M.spec_someHistory at h
 refine c_seq (rg (st_ex (ex_alloc (cs := [(.slice none 0 0), (.slice none 0 0)]) H hn0 ti26 rfl) wn ?_))
 rintro _ σ2 ⟨b1, rfl, H, -⟩
 refine w_end (q_then (c_seq (rg ?_)))
 refine st_ex (ex_buildSlice (el := n0) (xs := ([] : List (Int × (Int × (List Int) × Int)))) (ps := []) (cs := []) H hn0 Try.underlying23 ti43 rfl rfl (by kernel_rfl) (.nil) rfl) wn ?_
 rintro _ σ4 ⟨b3, rfl, H, -⟩
 refine st_ex (ex_buildSlice (el := n0) (xs := ([] : List Int)) (ps := []) (cs := []) H hn0 Try.underlying24 ti3 rfl rfl (by kernel_rfl) (.nil) rfl) wn ?_
 rintro _ σ6 ⟨b5, rfl, H, -⟩
 refine st (v := (.agg #[(Sl (some ⟨b3, 0, none⟩) ([] : List (Int × (Int × (List Int) × Int))) 0), (Sl (some ⟨b5, 0, none⟩) ([] : List Int) 0)])) (rv_build (ps := [(0, (Sl (some ⟨b3, 0, none⟩) ([] : List (Int × (Int × (List Int) × Int))) 0)), (1, (Sl (some ⟨b5, 0, none⟩) ([] : List Int) 0))]) Try.underlying26 ti26 (bp26 Try.underlying26) rfl (by kernel_rfl)) ?_
 refine st_ex (ex_alloc (cs := [(.slice none 0 0), (.slice none 0 0)]) H hn0 ti26 rfl) wn ?_
 rintro _ σ8 ⟨b7, rfl, H, -⟩
 refine st_exS (ex_store_box (k := 0) (cs := [(.slice none 0 0), (.slice none 0 0)]) (vs := [(Sl (some ⟨b3, 0, none⟩) ([] : List (Int × (Int × (List Int) × Int))) 0), (Sl (some ⟨b5, 0, none⟩) ([] : List Int) 0)]) (cs' := [(Sl (some ⟨b3, 0, none⟩) ([] : List (Int × (Int × (List Int) × Int))) 0), (Sl (some ⟨b5, 0, none⟩) ([] : List Int) 0)]) H (i := 0) rfl ti26 rfl rfl rfl rfl rfl (Nat.le_of_ble_eq_true rfl) (by simp [plain]) rfl) wn ?_
 rintro σ9 ⟨H, -⟩
 refine w_end (q_then (c_seq (rg (sm (pt Cw Cy) rfl ?_))))
 revert h; refine br fun r10 hx11 h => ?_
 have hc12 := c_spec_reader_pick (Cv := Cv) (Cw := Cw) (Cy := Cy) (Cz := Cz) (Da := Da) (Ct := Ct) (Cu := Cu) hx11
 refine st_call (cx_call hc12 (ent_f hc12.fn rfl) hn0 (H.sel' [4, 5, 0, 1, 2, 3, 5] rfl rfl : Hp S0 σ0 _ ([_, _] ++ _))) wn ?_
 rintro _ σ15 ⟨_, ⟨a13, c14, rfl, rfl⟩, H, -⟩
 replace H : Hp _ _ _ [_, _, _, _, _, _, _] := H
 refine st (v := (I (w64 (1 + r10.1)))) (rv_add (a := 1) (b := r10.1) rfl rfl) (sa (I (w64 (1 + r10.1))) rfl (w_end (q_then (c_seq (c_seq (rg (sm (pt Cw Cy) rfl ?_)))))))
 refine st_ex (ex_buildSlice (el := n0) (xs := ([5, 8, 12, 3, 0, 20] : List Int)) (ps := [(0, (I 5)), (1, (I 8)), (2, (I 12)), (3, (I 3)), (4, (I 0)), (5, (I 20))]) (cs := [(I 5), (I 8), (I 12), (I 3), (I 0), (I 20)]) H hn0 Try.underlying24 ti3 rfl rfl (by kernel_rfl) (.cons (c := [(I 5)]) rfl (.cons (c := [(I 8)]) rfl (.cons (c := [(I 12)]) rfl (.cons (c := [(I 3)]) rfl (.cons (c := [(I 0)]) rfl (.cons (c := [(I 20)]) rfl (.nil))))))) rfl) wn ?_
 rintro _ σ17 ⟨b16, rfl, H, -⟩
 replace H : Hp S0 σ0 σ17 [Ch.own n0 n0 (Sl (some ⟨b16, 0, none⟩) ([5, 8, 12, 3, 0, 20] : List Int) 6) ([5, 8, 12, 3, 0, 20] : List Int), Ch.bx Cv Cw Cy [(Sl a13 r10.2.1 c14), (I r10.2.2)] Cz Da, Ch.ro 0 (Sl a13 r10.2.1 c14) r10.2.1, Ch.bx n0 b7 0 [(Sl (some ⟨b3, 0, none⟩) ([] : List (Int × (Int × (List Int) × Int))) 0), (Sl (some ⟨b5, 0, none⟩) ([] : List Int) 0)] [] [], Ch.own n0 n0 (Sl (some ⟨b5, 0, none⟩) ([] : List Int) 0) ([] : List Int), Ch.own n0 n0 (Sl (some ⟨b3, 0, none⟩) ([] : List (Int × (Int × (List Int) × Int))) 0) ([] : List (Int × (Int × (List Int) × Int))), Ch.bx n0 b1 0 [(.slice none 0 0), (.slice none 0 0)] [] []] := H.sel' [0, 1, 2, 3, 4, 5, 6] rfl rfl
 obtain ⟨σ18, hw19, H, -⟩ := H.pub 0 rfl (Nat.le_refl _)
 rw [← hw19]; clear hw19
 replace H := H.roLow 0 0 rfl (Nat.zero_le _)
 revert h; refine br fun r20 hx21 h => ?_
 have hc22 := c_spec_reader_one (Cv := Cv) (Cw := Cw) (Cy := Cy) (Cz := Cz) (Da := Da) (Ct := a13) (Cu := c14) (Bk := (some ⟨b16, 0, none⟩)) (Bl := 6) hx21
 refine st_call (cx_call hc22 (ent_f hc22.fn rfl) hn0 (H.sel' [2, 3, 0, 0, 1, 3, 4, 5, 6, 7] rfl rfl : Hp S0 σ0 _ ([_, _, _] ++ _))) wn ?_
 rintro _ σ25 ⟨_, ⟨a23, c24, rfl, rfl⟩, H, -⟩
 replace H : Hp _ _ _ [_, _, _, _, _, _, _, _, _] := H
 replace H : Hp S0 σ0 σ25 [Ch.bx Cv Cw Cy [(Sl a23 r20.2.1 c24), (I r20.2.2)] Cz Da, Ch.ro 0 (Sl a23 r20.2.1 c24) r20.2.1, Ch.bx n0 b7 0 [(Sl (some ⟨b3, 0, none⟩) ([] : List (Int × (Int × (List Int) × Int))) 0), (Sl (some ⟨b5, 0, none⟩) ([] : List Int) 0)] [] [], Ch.own n0 n0 (Sl (some ⟨b5, 0, none⟩) ([] : List Int) 0) ([] : List Int), Ch.own n0 n0 (Sl (some ⟨b3, 0, none⟩) ([] : List (Int × (Int × (List Int) × Int))) 0) ([] : List (Int × (Int × (List Int) × Int))), Ch.bx n0 b1 0 [(.slice none 0 0), (.slice none 0 0)] [] []] := H.sel' [0, 1, 5, 6, 7, 8] rfl rfl
 refine sa (I r20.1) rfl (w_end (q_then ?_))
 obtain ⟨o26, hj, h'⟩ := bind_some h
 clear h
 refine c_cut (fun e a w => e = .normal ∧ ∃ (ρ : Nat → Value) (σ : St) (aj1 : Option Addr) (cj2 : Nat) (aj3 : Option Addr) (cj4 : Nat) (aj5 : Option Addr) (cj6 : Nat), a = fr 37 (updL ρ [(0, (pt Cw Cy)), (2, (pt b1 0)), (3, (pt b7 0))]) ∧ w = σ.w ∧ Hp S0 σ0 σ [Ch.bx Cv Cw Cy [(Sl aj1 o26.1.1 cj2), (I o26.1.2)] Cz Da, Ch.ro 0 (Sl aj1 o26.1.1 cj2) o26.1.1, Ch.bx n0 b7 0 [(Sl aj3 o26.2.1 cj4), (Sl aj5 o26.2.2 cj6)] [] [], Ch.own n0 n0 (Sl aj3 o26.2.1 cj4) o26.2.1, Ch.own n0 n0 (Sl aj5 o26.2.2 cj6) o26.2.2, Ch.bx n0 b1 0 [(.slice none 0 0), (.slice none 0 0)] [] []]) ?_ ?_
 ·clear h'
  rename _ = some o26 => h
  refine c_blk (wp_loopM _ h (fun s27 a w => ∃ (ρ : Nat → Value) (σ : St) (aj1 : Option Addr) (cj2 : Nat) (aj3 : Option Addr) (cj4 : Nat) (aj5 : Option Addr) (cj6 : Nat), a = fr 37 (updL ρ [(0, (pt Cw Cy)), (2, (pt b1 0)), (3, (pt b7 0)), (4, (I s27.2.2.1)), (5, (I s27.2.2.2))]) ∧ w = σ.w ∧ Hp S0 σ0 σ [Ch.bx Cv Cw Cy [(Sl aj1 s27.1.1 cj2), (I s27.1.2)] Cz Da, Ch.ro 0 (Sl aj1 s27.1.1 cj2) s27.1.1, Ch.bx n0 b7 0 [(Sl aj3 s27.2.1.1 cj4), (Sl aj5 s27.2.1.2 cj6)] [] [], Ch.own n0 n0 (Sl aj3 s27.2.1.1 cj4) s27.2.1.1, Ch.own n0 n0 (Sl aj5 s27.2.1.2 cj6) s27.2.1.2, Ch.bx n0 b1 0 [(.slice none 0 0), (.slice none 0 0)] [] []]) ⟨_, σ25, a23, c24, (some ⟨b3, 0, none⟩), 0, (some ⟨b5, 0, none⟩), 0, fr_join ⟨rfl, rfl, rfl, rfl, rfl, trivial⟩, rfl, H.sel' [0, 1, 2, 4, 3, 5] rfl rfl⟩ ?_)
  clear h H
  rintro s27 a w o ⟨ρ, σ28, a29, c30, a31, c32, a33, c34, rfl, rfl, H⟩ h hres
  refine c_seq (c_seq (rg (sm (I s27.2.2.2) rfl (st (v := (B (decide (0 < s27.2.2.2)))) (rv_gtr (a := s27.2.2.2) (b := 0) rfl rfl) (w_end (q_then ?_))))))
  refine cd_cond (decide (0 < s27.2.2.2)) rfl (fun hb35 => ?_) (fun hb35 => ?_)
  ·replace h := bif_t hb35 h
   refine c_skip (q_then (c_seq (c_blk (c_seq ?_))))
   have hc36 := H.cells 2 rfl
   revert h; refine br fun r37 hx38 h => ?_
   have hc39 := c_spec_someEntry (Cv := Cv) (Cw := Cw) (Cy := Cy) (Cz := Cz) (Da := Da) (Ct := a29) (Cu := c30) hx38
   revert h; refine br fun r44 hx45 h => ?_
   have hc46 := fun (a40 : Option Addr) (c41 : Nat) => c_spec_AddEntry (Cd := a31) (Ce := c32) (Cf := a33) (Cg := c34) (Cn := a40) (Cp := c41) hx45
   have Hs := H
   refine rg2 (σ := σ28) (Nm := (Option Addr) × (Nat) × (Option Addr) × (Nat) × (Option Addr) × (Nat) × (Option Addr) × (Nat) × (Nat)) 10 [2, 4, 8, 9] [[false, false, false, false], [true, false, false, false], [false, false, true, false], [true, true, false, false], [true, false, true, false], [true, true, true, false], [true, true, true, true]] [[(0, 0), (1, 1), (2, 2), (4, 4)], [(0, 0), (2, 2)], [(0, 1), (2, 4)], [(0, 0), (1, 1), (2, 2), (4, 4)], [(1, 3), (4, 5)], [(3, 3), (5, 5)], [(3, 3), (5, 5)], [(3, 3), (5, 5), (6, 6)], [(0, 2), (1, 4), (3, 5)], [(5, 6)]] 6 [fun ((a40, c41, a42, c43, a47, c48, a49, c50, b51) : (Option Addr) × (Nat) × (Option Addr) × (Nat) × (Option Addr) × (Nat) × (Option Addr) × (Nat) × (Nat)) => fun σm => Hp S0 σ0 σm [Ch.bx Cv Cw Cy [(Sl a29 s27.1.1 c30), (I s27.1.2)] Cz Da, Ch.ro 0 (Sl a29 s27.1.1 c30) s27.1.1, Ch.bx n0 b7 0 [(Sl a31 s27.2.1.1 c32), (Sl a33 s27.2.1.2 c34)] [] [], Ch.own n0 n0 (Sl a31 s27.2.1.1 c32) s27.2.1.1, Ch.own n0 n0 (Sl a33 s27.2.1.2 c34) s27.2.1.2, Ch.bx n0 b1 0 [(.slice none 0 0), (.slice none 0 0)] [] []] ∧ Md (cov []) σ28 σm, fun ((a40, c41, a42, c43, a47, c48, a49, c50, b51) : (Option Addr) × (Nat) × (Option Addr) × (Nat) × (Option Addr) × (Nat) × (Option Addr) × (Nat) × (Nat)) => fun σm => Hp S0 σ0 σm [Ch.ro 0 (Sl a40 r37.1.2.2.1 c41) r37.1.2.2.1, Ch.bx Cv Cw Cy [(Sl a42 r37.2.1 c43), (I r37.2.2)] Cz Da, Ch.ro 0 (Sl a42 r37.2.1 c43) r37.2.1, Ch.ro 0 (Sl a29 s27.1.1 c30) s27.1.1, Ch.bx n0 b7 0 [(Sl a31 s27.2.1.1 c32), (Sl a33 s27.2.1.2 c34)] [] [], Ch.own n0 n0 (Sl a31 s27.2.1.1 c32) s27.2.1.1, Ch.own n0 n0 (Sl a33 s27.2.1.2 c34) s27.2.1.2, Ch.bx n0 b1 0 [(.slice none 0 0), (.slice none 0 0)] [] []] ∧ Md (fun i => (cov []) i ∨ (fun i => (cov [Ch.bx Cv Cw Cy [(Sl a29 s27.1.1 c30), (I s27.1.2)] Cz Da, Ch.ro 0 (Sl a29 s27.1.1 c30) s27.1.1]) i ∨ (fun b => blk (Sl a40 r37.1.2.2.1 c41) = some b) i) i) σ28 σm, fun ((a40, c41, a42, c43, a47, c48, a49, c50, b51) : (Option Addr) × (Nat) × (Option Addr) × (Nat) × (Option Addr) × (Nat) × (Option Addr) × (Nat) × (Nat)) => fun σm => Hp S0 σ0 σm [Ch.bx n0 b51 0 [(.slice none 0 0), (.slice none 0 0)] [] [], Ch.bx Cv Cw Cy [(Sl a29 s27.1.1 c30), (I s27.1.2)] Cz Da, Ch.ro 0 (Sl a29 s27.1.1 c30) s27.1.1, Ch.bx n0 b7 0 [(Sl a31 s27.2.1.1 c32), (Sl a33 s27.2.1.2 c34)] [] [], Ch.own n0 n0 (Sl a31 s27.2.1.1 c32) s27.2.1.1, Ch.own n0 n0 (Sl a33 s27.2.1.2 c34) s27.2.1.2, Ch.bx n0 b1 0 [(.slice none 0 0), (.slice none 0 0)] [] []] ∧ Md (cov []) σ28 σm, fun ((a40, c41, a42, c43, a47, c48, a49, c50, b51) : (Option Addr) × (Nat) × (Option Addr) × (Nat) × (Option Addr) × (Nat) × (Option Addr) × (Nat) × (Nat)) => fun σm => Hp S0 σ0 σm [Ch.own n0 n0 (Sl a47 r44.1.1 c48) r44.1.1, Ch.own n0 n0 (Sl a49 r44.1.2 c50) r44.1.2, Ch.own n0 n0 (Sl a31 s27.2.1.1 c32) s27.2.1.1, Ch.own n0 n0 (Sl a33 s27.2.1.2 c34) s27.2.1.2, Ch.ro 0 (Sl a40 r37.1.2.2.1 c41) r37.1.2.2.1, Ch.bx Cv Cw Cy [(Sl a42 r37.2.1 c43), (I r37.2.2)] Cz Da, Ch.ro 0 (Sl a42 r37.2.1 c43) r37.2.1, Ch.ro 0 (Sl a29 s27.1.1 c30) s27.1.1, Ch.bx n0 b7 0 [(Sl a31 s27.2.1.1 c32), (Sl a33 s27.2.1.2 c34)] [] [], Ch.bx n0 b1 0 [(.slice none 0 0), (.slice none 0 0)] [] []] ∧ Md (fun i => (cov []) i ∨ (fun i => (cov [Ch.bx Cv Cw Cy [(Sl a29 s27.1.1 c30), (I s27.1.2)] Cz Da, Ch.ro 0 (Sl a29 s27.1.1 c30) s27.1.1]) i ∨ (fun b => blk (Sl a40 r37.1.2.2.1 c41) = some b) i) i) σ28 σm, fun ((a40, c41, a42, c43, a47, c48, a49, c50, b51) : (Option Addr) × (Nat) × (Option Addr) × (Nat) × (Option Addr) × (Nat) × (Option Addr) × (Nat) × (Nat)) => fun σm => Hp S0 σ0 σm [Ch.bx n0 b51 0 [(.slice none 0 0), (.slice none 0 0)] [] [], Ch.ro 0 (Sl a40 r37.1.2.2.1 c41) r37.1.2.2.1, Ch.bx Cv Cw Cy [(Sl a42 r37.2.1 c43), (I r37.2.2)] Cz Da, Ch.ro 0 (Sl a42 r37.2.1 c43) r37.2.1, Ch.ro 0 (Sl a29 s27.1.1 c30) s27.1.1, Ch.bx n0 b7 0 [(Sl a31 s27.2.1.1 c32), (Sl a33 s27.2.1.2 c34)] [] [], Ch.own n0 n0 (Sl a31 s27.2.1.1 c32) s27.2.1.1, Ch.own n0 n0 (Sl a33 s27.2.1.2 c34) s27.2.1.2, Ch.bx n0 b1 0 [(.slice none 0 0), (.slice none 0 0)] [] []] ∧ Md (fun i => (cov []) i ∨ (fun i => (cov [Ch.bx Cv Cw Cy [(Sl a29 s27.1.1 c30), (I s27.1.2)] Cz Da, Ch.ro 0 (Sl a29 s27.1.1 c30) s27.1.1]) i ∨ (fun b => blk (Sl a40 r37.1.2.2.1 c41) = some b) i) i) σ28 σm, fun ((a40, c41, a42, c43, a47, c48, a49, c50, b51) : (Option Addr) × (Nat) × (Option Addr) × (Nat) × (Option Addr) × (Nat) × (Option Addr) × (Nat) × (Nat)) => fun σm => Hp S0 σ0 σm [Ch.bx n0 b51 0 [(.slice none 0 0), (.slice none 0 0)] [] [], Ch.own n0 n0 (Sl a47 r44.1.1 c48) r44.1.1, Ch.own n0 n0 (Sl a49 r44.1.2 c50) r44.1.2, Ch.own n0 n0 (Sl a31 s27.2.1.1 c32) s27.2.1.1, Ch.own n0 n0 (Sl a33 s27.2.1.2 c34) s27.2.1.2, Ch.ro 0 (Sl a40 r37.1.2.2.1 c41) r37.1.2.2.1, Ch.bx Cv Cw Cy [(Sl a42 r37.2.1 c43), (I r37.2.2)] Cz Da, Ch.ro 0 (Sl a42 r37.2.1 c43) r37.2.1, Ch.ro 0 (Sl a29 s27.1.1 c30) s27.1.1, Ch.bx n0 b7 0 [(Sl a31 s27.2.1.1 c32), (Sl a33 s27.2.1.2 c34)] [] [], Ch.bx n0 b1 0 [(.slice none 0 0), (.slice none 0 0)] [] []] ∧ Md (fun i => (cov []) i ∨ (fun i => (cov [Ch.bx Cv Cw Cy [(Sl a29 s27.1.1 c30), (I s27.1.2)] Cz Da, Ch.ro 0 (Sl a29 s27.1.1 c30) s27.1.1]) i ∨ (fun b => blk (Sl a40 r37.1.2.2.1 c41) = some b) i) i) σ28 σm, fun ((a40, c41, a42, c43, a47, c48, a49, c50, b51) : (Option Addr) × (Nat) × (Option Addr) × (Nat) × (Option Addr) × (Nat) × (Option Addr) × (Nat) × (Nat)) => fun σm => Hp S0 σ0 σm [Ch.bx n0 b51 0 [(Sl a47 r44.1.1 c48), (Sl a49 r44.1.2 c50)] [] [], Ch.own n0 n0 (Sl a47 r44.1.1 c48) r44.1.1, Ch.own n0 n0 (Sl a49 r44.1.2 c50) r44.1.2, Ch.own n0 n0 (Sl a31 s27.2.1.1 c32) s27.2.1.1, Ch.own n0 n0 (Sl a33 s27.2.1.2 c34) s27.2.1.2, Ch.ro 0 (Sl a40 r37.1.2.2.1 c41) r37.1.2.2.1, Ch.bx Cv Cw Cy [(Sl a42 r37.2.1 c43), (I r37.2.2)] Cz Da, Ch.ro 0 (Sl a42 r37.2.1 c43) r37.2.1, Ch.ro 0 (Sl a29 s27.1.1 c30) s27.1.1, Ch.bx n0 b7 0 [(Sl a31 s27.2.1.1 c32), (Sl a33 s27.2.1.2 c34)] [] [], Ch.bx n0 b1 0 [(.slice none 0 0), (.slice none 0 0)] [] []] ∧ Md (fun i => (fun i => (cov []) i ∨ (fun i => (cov [Ch.bx Cv Cw Cy [(Sl a29 s27.1.1 c30), (I s27.1.2)] Cz Da, Ch.ro 0 (Sl a29 s27.1.1 c30) s27.1.1]) i ∨ (fun b => blk (Sl a40 r37.1.2.2.1 c41) = some b) i) i) i ∨ (fun i => i = b51) i) σ28 σm] [fun ((a40, c41, a42, c43, a47, c48, a49, c50, b51) : (Option Addr) × (Nat) × (Option Addr) × (Nat) × (Option Addr) × (Nat) × (Option Addr) × (Nat) × (Nat)) => (.agg #[(Sl a31 s27.2.1.1 c32), (Sl a33 s27.2.1.2 c34)]), fun ((a40, c41, a42, c43, a47, c48, a49, c50, b51) : (Option Addr) × (Nat) × (Option Addr) × (Nat) × (Option Addr) × (Nat) × (Option Addr) × (Nat) × (Nat)) => (pt Cw Cy), fun ((a40, c41, a42, c43, a47, c48, a49, c50, b51) : (Option Addr) × (Nat) × (Option Addr) × (Nat) × (Option Addr) × (Nat) × (Option Addr) × (Nat) × (Nat)) => (.agg #[(I r37.1.1), (I r37.1.2.1), (Sl a40 r37.1.2.2.1 c41), (I r37.1.2.2.2)]), fun ((a40, c41, a42, c43, a47, c48, a49, c50, b51) : (Option Addr) × (Nat) × (Option Addr) × (Nat) × (Option Addr) × (Nat) × (Option Addr) × (Nat) × (Nat)) => (I s27.2.2.1), fun ((a40, c41, a42, c43, a47, c48, a49, c50, b51) : (Option Addr) × (Nat) × (Option Addr) × (Nat) × (Option Addr) × (Nat) × (Option Addr) × (Nat) × (Nat)) => (.tuple #[(.agg #[(Sl a47 r44.1.1 c48), (Sl a49 r44.1.2 c50)]), (B r44.2)]), fun ((a40, c41, a42, c43, a47, c48, a49, c50, b51) : (Option Addr) × (Nat) × (Option Addr) × (Nat) × (Option Addr) × (Nat) × (Option Addr) × (Nat) × (Nat)) => (.tuple #[(.agg #[(Sl a47 r44.1.1 c48), (Sl a49 r44.1.2 c50)]), (B r44.2)]), fun ((a40, c41, a42, c43, a47, c48, a49, c50, b51) : (Option Addr) × (Nat) × (Option Addr) × (Nat) × (Option Addr) × (Nat) × (Option Addr) × (Nat) × (Nat)) => (.agg #[(Sl a47 r44.1.1 c48), (Sl a49 r44.1.2 c50)]), fun ((a40, c41, a42, c43, a47, c48, a49, c50, b51) : (Option Addr) × (Nat) × (Option Addr) × (Nat) × (Option Addr) × (Nat) × (Option Addr) × (Nat) × (Nat)) => (B r44.2), fun ((a40, c41, a42, c43, a47, c48, a49, c50, b51) : (Option Addr) × (Nat) × (Option Addr) × (Nat) × (Option Addr) × (Nat) × (Option Addr) × (Nat) × (Nat)) => (pt b51 0), fun ((a40, c41, a42, c43, a47, c48, a49, c50, b51) : (Option Addr) × (Nat) × (Option Addr) × (Nat) × (Option Addr) × (Nat) × (Option Addr) × (Nat) × (Nat)) => undef] (none, 0, none, 0, none, 0, none, 0, 0) (by kernel_rfl) (by kernel_rfl) ?_ ?_ ?_
   ·intro σm m0
    exact ⟨H.grow (m0.mono fun _ h => h.elim), m0⟩
   ·refine all_cons (by
      refine ⟨?_, ?_⟩
      ·rintro ⟨a40, c41, a42, c43, a47, c48, a49, c50, b51⟩ ρ σm hJ hoff hdep
       have e3 := look_off (N := 37) (hoff 3 rfl) rfl
       obtain ⟨H, m⟩ := id hJ
       have hc36 := H.cells 2 rfl
       exact dp_v (v := (.agg #[(Sl a31 s27.2.1.1 c32), (Sl a33 s27.2.1.2 c34)])) wn (rv_load (cs := [(Sl a31 s27.2.1.1 c32), (Sl a33 s27.2.1.2 c34)]) Try.underlying26 rfl ti26 e3 rfl hc36) rfl hJ
      refine ⟨?_, ?_⟩
      ·rintro ⟨a40, c41, a42, c43, a47, c48, a49, c50, b51⟩ ρ σm hJ hoff hdep
       have e3 := look_off (N := 37) (hoff 3 rfl) rfl
       obtain ⟨H, m⟩ := id hJ
       have hc36 := H.cells 4 rfl
       exact dp_v (v := (.agg #[(Sl a31 s27.2.1.1 c32), (Sl a33 s27.2.1.2 c34)])) wn (rv_load (cs := [(Sl a31 s27.2.1.1 c32), (Sl a33 s27.2.1.2 c34)]) Try.underlying26 rfl ti26 e3 rfl hc36) rfl hJ
      refine ⟨?_, ?_⟩
      ·rintro ⟨a40, c41, a42, c43, a47, c48, a49, c50, b51⟩ ρ σm hJ hoff hdep
       have e3 := look_off (N := 37) (hoff 3 rfl) rfl
       obtain ⟨H, m⟩ := id hJ
       have hc36 := H.cells 3 rfl
       exact dp_v (v := (.agg #[(Sl a31 s27.2.1.1 c32), (Sl a33 s27.2.1.2 c34)])) wn (rv_load (cs := [(Sl a31 s27.2.1.1 c32), (Sl a33 s27.2.1.2 c34)]) Try.underlying26 rfl ti26 e3 rfl hc36) rfl hJ
      refine ⟨?_, ?_⟩
      ·rintro ⟨a40, c41, a42, c43, a47, c48, a49, c50, b51⟩ ρ σm hJ hoff hdep
       have e3 := look_off (N := 37) (hoff 3 rfl) rfl
       obtain ⟨H, m⟩ := id hJ
       have hc36 := H.cells 5 rfl
       exact dp_v (v := (.agg #[(Sl a31 s27.2.1.1 c32), (Sl a33 s27.2.1.2 c34)])) wn (rv_load (cs := [(Sl a31 s27.2.1.1 c32), (Sl a33 s27.2.1.2 c34)]) Try.underlying26 rfl ti26 e3 rfl hc36) rfl hJ
      trivial) ?_
    refine ac rfl (by
      intro k; rintro ⟨a40, c41, a42, c43, a47, c48, a49, c50, b51⟩ ρ σm hJ hoff hdep
      have e0 := look_off (N := 37) (hoff 0 rfl) rfl
      exact dp_v (v := (pt Cw Cy)) wn (rv_move e0) rfl hJ) ?_
    refine all_cons (by
      refine ⟨?_, ?_⟩
      ·rintro ⟨a40, c41, a42, c43, a47, c48, a49, c50, b51⟩ ρ σm hJ hoff hdep
       have e23 : look 37 ρ 23 = (pt Cw Cy) := hdep 1 rfl rfl 23 rfl
       obtain ⟨H, m⟩ := id hJ
       refine dp_cx wn (cx_call hc39 (ent_f hc39.fn (by show [look 37 ρ 23] = _; rw [e23])) hn0 (H.sel' [0, 1, 1, 2, 3, 4, 5] rfl rfl : Hp S0 σ0 _ ([_, _] ++ _))) ?_
       rintro _ σq ⟨_, ⟨a40x, c41x, a42x, c43x, rfl, rfl⟩, H2, m2⟩
       obtain ⟨σr0, hwr0, H2, mr0⟩ := H2.pubSc 0 rfl
       exact ⟨_, (a40x, c41x, a42x, c43x, a47, c48, a49, c50, b51), hwr0, rfl, ⟨H2.sel' [0, 1, 2, 3, 4, 5, 6, 7] rfl rfl, m.comp (m2.comp mr0)⟩, stab [0, 1, 3, 8] (by kernel_rfl) ⟨rfl, rfl, rfl, rfl, trivial⟩⟩
      refine ⟨?_, ?_⟩
      ·rintro ⟨a40, c41, a42, c43, a47, c48, a49, c50, b51⟩ ρ σm hJ hoff hdep
       have e23 : look 37 ρ 23 = (pt Cw Cy) := hdep 1 rfl rfl 23 rfl
       obtain ⟨H, m⟩ := id hJ
       refine dp_cx wn (cx_call hc39 (ent_f hc39.fn (by show [look 37 ρ 23] = _; rw [e23])) hn0 (H.sel' [1, 2, 0, 2, 3, 4, 5, 6] rfl rfl : Hp S0 σ0 _ ([_, _] ++ _))) ?_
       rintro _ σq ⟨_, ⟨a40x, c41x, a42x, c43x, rfl, rfl⟩, H2, m2⟩
       obtain ⟨σr0, hwr0, H2, mr0⟩ := H2.pubSc 0 rfl
       exact ⟨_, (a40x, c41x, a42x, c43x, a47, c48, a49, c50, b51), hwr0, rfl, ⟨H2.sel' [3, 0, 1, 2, 4, 5, 6, 7, 8] rfl rfl, m.comp (m2.comp mr0)⟩, stab [0, 1, 3, 8] (by kernel_rfl) ⟨rfl, rfl, rfl, rfl, trivial⟩⟩
      trivial) ?_
    refine ac rfl (by
      intro k; rintro ⟨a40, c41, a42, c43, a47, c48, a49, c50, b51⟩ ρ σm hJ hoff hdep
      have e4 := look_off (N := 37) (hoff 4 rfl) rfl
      exact dp_v (v := (I s27.2.2.1)) wn (rv_move e4) rfl hJ) ?_
    refine all_cons (by
      refine ⟨?_, ?_⟩
      ·rintro ⟨a40, c41, a42, c43, a47, c48, a49, c50, b51⟩ ρ σm hJ hoff hdep
       have e22 : look 37 ρ 22 = (.agg #[(Sl a31 s27.2.1.1 c32), (Sl a33 s27.2.1.2 c34)]) := hdep 0 rfl rfl 22 rfl
       have e24 : look 37 ρ 24 = (.agg #[(I r37.1.1), (I r37.1.2.1), (Sl a40 r37.1.2.2.1 c41), (I r37.1.2.2.2)]) := hdep 2 rfl rfl 24 rfl
       have e25 : look 37 ρ 25 = (I s27.2.2.1) := hdep 3 rfl rfl 25 rfl
       obtain ⟨H, m⟩ := id hJ
       refine dp_cx wn (cx_lend (Loan.lend (Loan.lend (Loan.same Loan.nil))) (hc46 a40 c41) (ent_f (hc46 a40 c41).fn (by show [look 37 ρ 22, look 37 ρ 24, look 37 ρ 25] = _; rw [e22, e24, e25])) (show Hp S0 σ0 _ ([Ch.own n0 n0 (Sl a31 s27.2.1.1 c32) s27.2.1.1, Ch.own n0 n0 (Sl a33 s27.2.1.2 c34) s27.2.1.2] ++ ([Ch.ro 0 (Sl a40 r37.1.2.2.1 c41) r37.1.2.2.1] ++ [Ch.ro 0 (Sl a40 r37.1.2.2.1 c41) r37.1.2.2.1, Ch.bx Cv Cw Cy [(Sl a42 r37.2.1 c43), (I r37.2.2)] Cz Da, Ch.ro 0 (Sl a42 r37.2.1 c43) r37.2.1, Ch.ro 0 (Sl a29 s27.1.1 c30) s27.1.1, Ch.bx n0 b7 0 [(Sl a31 s27.2.1.1 c32), (Sl a33 s27.2.1.2 c34)] [] [], Ch.bx n0 b1 0 [(.slice none 0 0), (.slice none 0 0)] [] []])) from (H.sel' [5, 6, 0, 0, 1, 2, 3, 4, 7] rfl rfl)) (by rintro _ _ _ ⟨_, _, _, _, rfl, rfl⟩; exact ⟨Ab.own (Nat.le_refl _), Ab.ownSc, trivial⟩)) ?_
       rintro _ σq ⟨_, ⟨a47x, c48x, a49x, c50x, rfl, rfl⟩, H2, m2, hle2⟩
       replace H2 := H2.ownLow 0 n0 n0 rfl (Nat.le_trans hn0 hle2) (Nat.le_trans hn0 hle2)
       replace H2 := H2.ownLow 1 n0 n0 rfl (Nat.le_trans hn0 hle2) (Nat.le_trans hn0 hle2)
       exact ⟨_, (a40, c41, a42, c43, a47x, c48x, a49x, c50x, b51), rfl, rfl, ⟨H2.sel' [1, 0, 2, 3, 4, 5, 6, 7, 8, 9] rfl rfl, m.comp0 (m2.mono (fun i h => by simp [cov, Ch.ro] at h))⟩, stab [0, 1, 2, 3, 8] (by kernel_rfl) ⟨rfl, rfl, rfl, rfl, rfl, trivial⟩⟩
      refine ⟨?_, ?_⟩
      ·rintro ⟨a40, c41, a42, c43, a47, c48, a49, c50, b51⟩ ρ σm hJ hoff hdep
       have e22 : look 37 ρ 22 = (.agg #[(Sl a31 s27.2.1.1 c32), (Sl a33 s27.2.1.2 c34)]) := hdep 0 rfl rfl 22 rfl
       have e24 : look 37 ρ 24 = (.agg #[(I r37.1.1), (I r37.1.2.1), (Sl a40 r37.1.2.2.1 c41), (I r37.1.2.2.2)]) := hdep 2 rfl rfl 24 rfl
       have e25 : look 37 ρ 25 = (I s27.2.2.1) := hdep 3 rfl rfl 25 rfl
       obtain ⟨H, m⟩ := id hJ
       refine dp_cx wn (cx_lend (Loan.lend (Loan.lend (Loan.same Loan.nil))) (hc46 a40 c41) (ent_f (hc46 a40 c41).fn (by show [look 37 ρ 22, look 37 ρ 24, look 37 ρ 25] = _; rw [e22, e24, e25])) (show Hp S0 σ0 _ ([Ch.own n0 n0 (Sl a31 s27.2.1.1 c32) s27.2.1.1, Ch.own n0 n0 (Sl a33 s27.2.1.2 c34) s27.2.1.2] ++ ([Ch.ro 0 (Sl a40 r37.1.2.2.1 c41) r37.1.2.2.1] ++ [Ch.bx n0 b51 0 [(.slice none 0 0), (.slice none 0 0)] [] [], Ch.ro 0 (Sl a40 r37.1.2.2.1 c41) r37.1.2.2.1, Ch.bx Cv Cw Cy [(Sl a42 r37.2.1 c43), (I r37.2.2)] Cz Da, Ch.ro 0 (Sl a42 r37.2.1 c43) r37.2.1, Ch.ro 0 (Sl a29 s27.1.1 c30) s27.1.1, Ch.bx n0 b7 0 [(Sl a31 s27.2.1.1 c32), (Sl a33 s27.2.1.2 c34)] [] [], Ch.bx n0 b1 0 [(.slice none 0 0), (.slice none 0 0)] [] []])) from (H.sel' [6, 7, 1, 0, 1, 2, 3, 4, 5, 8] rfl rfl)) (by rintro _ _ _ ⟨_, _, _, _, rfl, rfl⟩; exact ⟨Ab.own (Nat.le_refl _), Ab.ownSc, trivial⟩)) ?_
       rintro _ σq ⟨_, ⟨a47x, c48x, a49x, c50x, rfl, rfl⟩, H2, m2, hle2⟩
       replace H2 := H2.ownLow 0 n0 n0 rfl (Nat.le_trans hn0 hle2) (Nat.le_trans hn0 hle2)
       replace H2 := H2.ownLow 1 n0 n0 rfl (Nat.le_trans hn0 hle2) (Nat.le_trans hn0 hle2)
       exact ⟨_, (a40, c41, a42, c43, a47x, c48x, a49x, c50x, b51), rfl, rfl, ⟨H2.sel' [4, 1, 0, 2, 3, 5, 6, 7, 8, 9, 10] rfl rfl, m.comp0 (m2.mono (fun i h => by simp [cov, Ch.ro] at h))⟩, stab [0, 1, 2, 3, 8] (by kernel_rfl) ⟨rfl, rfl, rfl, rfl, rfl, trivial⟩⟩
      trivial) ?_
    refine ac rfl (by
      intro k; rintro ⟨a40, c41, a42, c43, a47, c48, a49, c50, b51⟩ ρ σm hJ hoff hdep
      have e26 := hdep 4 rfl rfl 26 rfl
      exact dp_v (v := (.tuple #[(.agg #[(Sl a47 r44.1.1 c48), (Sl a49 r44.1.2 c50)]), (B r44.2)])) wn (rv_move e26) rfl hJ) ?_
    refine ac rfl (by
      intro k; rintro ⟨a40, c41, a42, c43, a47, c48, a49, c50, b51⟩ ρ σm hJ hoff hdep
      have e21 := hdep 5 rfl rfl 21 rfl
      exact dp_v (v := (.agg #[(Sl a47 r44.1.1 c48), (Sl a49 r44.1.2 c50)])) wn (rv_extract e21 rfl) rfl hJ) ?_
    refine ac rfl (by
      intro k; rintro ⟨a40, c41, a42, c43, a47, c48, a49, c50, b51⟩ ρ σm hJ hoff hdep
      have e21 := hdep 5 rfl rfl 21 rfl
      exact dp_v (v := (B r44.2)) wn (rv_extract e21 rfl) rfl hJ) ?_
    refine all_cons (by
      refine ⟨?_, ?_⟩
      ·rintro ⟨a40, c41, a42, c43, a47, c48, a49, c50, b51⟩ ρ σm hJ hoff hdep
       obtain ⟨H, m⟩ := id hJ
       refine dp_ex wn (ex_alloc (cs := [(.slice none 0 0), (.slice none 0 0)]) H hn0 ti26 rfl) ?_
       rintro _ σq ⟨b51x, rfl, H2, m2⟩
       exact ⟨_, (a40, c41, a42, c43, a47, c48, a49, c50, b51x), rfl, rfl, ⟨H2.sel' [0, 1, 2, 3, 4, 5, 6] rfl rfl, m.comp0 m2⟩, stab [0, 1, 2, 3, 4, 5, 6, 7] (by kernel_rfl) ⟨rfl, rfl, rfl, rfl, rfl, rfl, rfl, rfl, trivial⟩⟩
      refine ⟨?_, ?_⟩
      ·rintro ⟨a40, c41, a42, c43, a47, c48, a49, c50, b51⟩ ρ σm hJ hoff hdep
       obtain ⟨H, m⟩ := id hJ
       refine dp_ex wn (ex_alloc (cs := [(.slice none 0 0), (.slice none 0 0)]) H hn0 ti26 rfl) ?_
       rintro _ σq ⟨b51x, rfl, H2, m2⟩
       exact ⟨_, (a40, c41, a42, c43, a47, c48, a49, c50, b51x), rfl, rfl, ⟨H2.sel' [0, 1, 2, 3, 4, 5, 6, 7, 8] rfl rfl, m.comp0 m2⟩, stab [0, 1, 2, 3, 4, 5, 6, 7] (by kernel_rfl) ⟨rfl, rfl, rfl, rfl, rfl, rfl, rfl, rfl, trivial⟩⟩
      refine ⟨?_, ?_⟩
      ·rintro ⟨a40, c41, a42, c43, a47, c48, a49, c50, b51⟩ ρ σm hJ hoff hdep
       obtain ⟨H, m⟩ := id hJ
       refine dp_ex wn (ex_alloc (cs := [(.slice none 0 0), (.slice none 0 0)]) H hn0 ti26 rfl) ?_
       rintro _ σq ⟨b51x, rfl, H2, m2⟩
       exact ⟨_, (a40, c41, a42, c43, a47, c48, a49, c50, b51x), rfl, rfl, ⟨H2.sel' [0, 1, 2, 3, 4, 5, 6, 7, 8, 9, 10] rfl rfl, m.comp0 m2⟩, stab [0, 1, 2, 3, 4, 5, 6, 7] (by kernel_rfl) ⟨rfl, rfl, rfl, rfl, rfl, rfl, rfl, rfl, trivial⟩⟩
      trivial) ?_
    refine all_cons (by
      refine ⟨?_, ?_⟩
      ·rintro ⟨a40, c41, a42, c43, a47, c48, a49, c50, b51⟩ ρ σm hJ hoff hdep
       have e6 := hdep 8 rfl rfl 6 rfl
       have e27 := hdep 6 rfl rfl 27 rfl
       obtain ⟨H, m⟩ := id hJ
       refine dp_exS wn rfl (ex_store_box (k := 0) (cs := [(.slice none 0 0), (.slice none 0 0)]) (vs := [(Sl a47 r44.1.1 c48), (Sl a49 r44.1.2 c50)]) (cs' := [(Sl a47 r44.1.1 c48), (Sl a49 r44.1.2 c50)]) H (i := 0) rfl ti26 e6 rfl e27 rfl rfl (Nat.le_of_ble_eq_true rfl) (by simp [plain]) rfl) ?_
       rintro σq ⟨H2, m2⟩
       exact ⟨_, (a40, c41, a42, c43, a47, c48, a49, c50, b51), rfl, ⟨H2.sel' [0, 1, 2, 3, 4, 5, 6, 7, 8, 9, 10] rfl rfl, m.comp m2⟩, stab [0, 1, 2, 3, 4, 5, 6, 7, 8] (by kernel_rfl) ⟨rfl, rfl, rfl, rfl, rfl, rfl, rfl, rfl, rfl, trivial⟩⟩
      trivial) ?_
    exact all_nil
   ·rintro ⟨a40, c41, a42, c43, a47, c48, a49, c50, b51⟩ ρ σ52 hJ hoff hrel
    have e0 := look_off (N := 37) (hoff 0 rfl) rfl
    have e2 := look_off (N := 37) (hoff 2 rfl) rfl
    have e3 := look_off (N := 37) (hoff 3 rfl) rfl
    have e4 := look_off (N := 37) (hoff 4 rfl) rfl
    have e5 := look_off (N := 37) (hoff 5 rfl) rfl
    have e6 := hrel 8 rfl 6 rfl
    have e28 := hrel 7 rfl 28 rfl
    obtain ⟨H, -⟩ := (show Hp S0 σ0 σ52 [Ch.bx n0 b51 0 [(Sl a47 r44.1.1 c48), (Sl a49 r44.1.2 c50)] [] [], Ch.own n0 n0 (Sl a47 r44.1.1 c48) r44.1.1, Ch.own n0 n0 (Sl a49 r44.1.2 c50) r44.1.2, Ch.own n0 n0 (Sl a31 s27.2.1.1 c32) s27.2.1.1, Ch.own n0 n0 (Sl a33 s27.2.1.2 c34) s27.2.1.2, Ch.ro 0 (Sl a40 r37.1.2.2.1 c41) r37.1.2.2.1, Ch.bx Cv Cw Cy [(Sl a42 r37.2.1 c43), (I r37.2.2)] Cz Da, Ch.ro 0 (Sl a42 r37.2.1 c43) r37.2.1, Ch.ro 0 (Sl a29 s27.1.1 c30) s27.1.1, Ch.bx n0 b7 0 [(Sl a31 s27.2.1.1 c32), (Sl a33 s27.2.1.2 c34)] [] [], Ch.bx n0 b1 0 [(.slice none 0 0), (.slice none 0 0)] [] []] ∧ Md (fun i => (fun i => (cov []) i ∨ (fun i => (cov [Ch.bx Cv Cw Cy [(Sl a29 s27.1.1 c30), (I s27.1.2)] Cz Da, Ch.ro 0 (Sl a29 s27.1.1 c30) s27.1.1]) i ∨ (fun b => blk (Sl a40 r37.1.2.2.1 c41) = some b) i) i) i ∨ (fun i => i = b51) i) σ28 σ52 from hJ)
    clear hJ Hs
    rw [fr_lookL (L := [(0, (pt Cw Cy)), (2, (pt b1 0)), (3, (pt b7 0)), (4, (I s27.2.2.1)), (5, (I s27.2.2.2)), (6, (pt b51 0)), (28, (B r44.2))]) ⟨e0, e2, e3, e4, e5, e6, e28, trivial⟩]
    clear hoff hrel e0 e2 e3 e4 e5 e6 e28
    refine sa (B r44.2) rfl (w_end (q_then (c_seq (c_seq (rg (sm (B r44.2) rfl (w_end (q_then ?_))))))))
    obtain ⟨o53, hj, h'⟩ := bind_some h
    clear h
    refine c_cut (fun e a w => e = .normal ∧ ∃ (ρ : Nat → Value) (σ : St) (aj1 : Option Addr) (cj2 : Nat) (aj3 : Option Addr) (cj4 : Nat), a = fr 37 (updL ρ [(0, (pt Cw Cy)), (2, (pt b1 0)), (3, (pt b7 0)), (4, (I s27.2.2.1)), (5, (I s27.2.2.2))]) ∧ w = σ.w ∧ Hp S0 σ0 σ [Ch.bx n0 b7 0 [(Sl aj1 o53.1 cj2), (Sl aj3 o53.2 cj4)] [] [], Ch.own n0 n0 (Sl aj1 o53.1 cj2) o53.1, Ch.own n0 n0 (Sl aj3 o53.2 cj4) o53.2, Ch.ro 0 (Sl a42 r37.2.1 c43) r37.2.1, Ch.bx Cv Cw Cy [(Sl a42 r37.2.1 c43), (I r37.2.2)] Cz Da, Ch.bx n0 b1 0 [(.slice none 0 0), (.slice none 0 0)] [] []]) ?_ ?_
    ·clear h'
     rename _ = some o53 => h
     refine cd_cond r44.2 rfl (fun hb54 => ?_) (fun hb54 => ?_)
     ·replace h := bif_t hb54 h
      refine rg ?_
      have hc55 := H.cells 0 rfl
      refine st (v := (.agg #[(Sl a47 r44.1.1 c48), (Sl a49 r44.1.2 c50)])) (rv_load (cs := [(Sl a47 r44.1.1 c48), (Sl a49 r44.1.2 c50)]) Try.underlying26 rfl ti26 rfl rfl hc55) ?_
      refine st_exS (ex_store_box (k := 0) (cs := [(Sl a31 s27.2.1.1 c32), (Sl a33 s27.2.1.2 c34)]) (vs := [(Sl a47 r44.1.1 c48), (Sl a49 r44.1.2 c50)]) (cs' := [(Sl a47 r44.1.1 c48), (Sl a49 r44.1.2 c50)]) H (i := 9) rfl ti26 rfl rfl rfl rfl rfl (Nat.le_of_ble_eq_true rfl) (by simp [plain]) rfl) wn ?_
      rintro σ56 ⟨H, -⟩
      replace H : Hp S0 σ0 σ56 [Ch.bx n0 b7 0 [(Sl a47 r44.1.1 c48), (Sl a49 r44.1.2 c50)] [] [], Ch.own n0 n0 (Sl a47 r44.1.1 c48) r44.1.1, Ch.own n0 n0 (Sl a49 r44.1.2 c50) r44.1.2, Ch.bx Cv Cw Cy [(Sl a42 r37.2.1 c43), (I r37.2.2)] Cz Da, Ch.ro 0 (Sl a42 r37.2.1 c43) r37.2.1, Ch.bx n0 b1 0 [(.slice none 0 0), (.slice none 0 0)] [] []] := H.sel' [0, 2, 3, 7, 8, 10] rfl rfl
      refine w_end ?_
      obtain rfl := sj h
      exact ⟨rfl, _, σ56, a47, c48, a49, c50, fr_join ⟨rfl, rfl, rfl, rfl, rfl, trivial⟩, rfl, H.sel' [0, 1, 2, 4, 3, 5] rfl rfl⟩
     ·replace h := bif_f hb54 h
      refine c_skip ?_
      obtain rfl := sj h
      exact ⟨rfl, _, σ52, a31, c32, a33, c34, fr_join ⟨rfl, rfl, rfl, rfl, rfl, trivial⟩, rfl, H.sel' [9, 3, 4, 7, 6, 10] rfl rfl⟩
    ·clear hj
     have h := h'
     clear h' H
     rintro e a w ⟨rfl, ρ, σ57, a58, c59, a60, c61, rfl, rfl, H⟩
     refine q_then (rg (sm (I s27.2.2.1) rfl (sm (pt Cw Cy) rfl ?_)))
     refine st_ex (ex_buildSlice (el := n0) (xs := ([0, 1, 5, 10] : List Int)) (ps := [(0, (I 0)), (1, (I 1)), (2, (I 5)), (3, (I 10))]) (cs := [(I 0), (I 1), (I 5), (I 10)]) H hn0 Try.underlying24 ti3 rfl rfl (by kernel_rfl) (.cons (c := [(I 0)]) rfl (.cons (c := [(I 1)]) rfl (.cons (c := [(I 5)]) rfl (.cons (c := [(I 10)]) rfl (.nil))))) rfl) wn ?_
     rintro _ σ63 ⟨b62, rfl, H, -⟩
     obtain ⟨σ64, hw65, H, -⟩ := H.pub 0 rfl (Nat.le_refl _)
     rw [← hw65]; clear hw65
     replace H := H.roLow 0 0 rfl (Nat.zero_le _)
     revert h; refine br fun r66 hx67 h => ?_
     have hc68 := c_spec_reader_one (Cv := Cv) (Cw := Cw) (Cy := Cy) (Cz := Cz) (Da := Da) (Ct := a42) (Cu := c43) (Bk := (some ⟨b62, 0, none⟩)) (Bl := 4) hx67
     refine st_call (cx_call hc68 (ent_f hc68.fn rfl) hn0 (H.sel' [6, 5, 0, 0, 1, 2, 3, 4, 5, 7] rfl rfl : Hp S0 σ0 _ ([_, _, _] ++ _))) wn ?_
     rintro _ σ71 ⟨_, ⟨a69, c70, rfl, rfl⟩, H, -⟩
     replace H : Hp _ _ _ [_, _, _, _, _, _, _, _, _] := H
     replace H : Hp S0 σ0 σ71 [Ch.bx Cv Cw Cy [(Sl a69 r66.2.1 c70), (I r66.2.2)] Cz Da, Ch.ro 0 (Sl a69 r66.2.1 c70) r66.2.1, Ch.bx n0 b7 0 [(Sl a58 o53.1 c59), (Sl a60 o53.2 c61)] [] [], Ch.own n0 n0 (Sl a58 o53.1 c59) o53.1, Ch.own n0 n0 (Sl a60 o53.2 c61) o53.2, Ch.bx n0 b1 0 [(.slice none 0 0), (.slice none 0 0)] [] []] := H.sel' [0, 1, 4, 5, 6, 8] rfl rfl
     refine st (v := (I (w64 (s27.2.2.1 + r66.1)))) (rv_add (a := s27.2.2.1) (b := r66.1) rfl rfl) (sa (I (w64 (s27.2.2.1 + r66.1))) rfl (w_end (q_blk (q_then (rg (sm (I s27.2.2.2) rfl (st (v := (I (w64 (s27.2.2.2 - 1)))) (rv_sub (a := s27.2.2.2) (b := 1) rfl rfl) (sa (I (w64 (s27.2.2.2 - 1))) rfl (w_end (q_then ?_))))))))))
     obtain rfl := sj h
     exact ⟨_, rfl, _, σ71, a69, c70, a58, c59, a60, c61, fr_join ⟨rfl, rfl, rfl, rfl, rfl, trivial⟩, rfl, H.sel' [0, 1, 2, 3, 4, 5] rfl rfl⟩
  ·replace h := bif_f hb35 h
   refine c_exit (q_then_x (q_then_x (q_blk_hit ?_)))
   obtain rfl := sj h
   obtain rfl := hres _ rfl
   exact ⟨rfl, _, σ28, a29, c30, a31, c32, a33, c34, fr_join ⟨rfl, rfl, rfl, trivial⟩, rfl, H.sel' [0, 1, 2, 3, 4, 5] rfl rfl⟩
 ·clear hj
  have h := h'
  clear h' H
  rintro e a w ⟨rfl, ρ, σ72, a73, c74, a75, c76, a77, c78, rfl, rfl, H⟩
  refine q_then (c_seq (rg ?_))
  have hc79 := H.cells 2 rfl
  refine st (v := (.agg #[(Sl a75 o26.2.1 c76), (Sl a77 o26.2.2 c78)])) (rv_load (cs := [(Sl a75 o26.2.1 c76), (Sl a77 o26.2.2 c78)]) Try.underlying26 rfl ti26 rfl rfl hc79) ?_
  refine st_exS (ex_store_box (k := 0) (cs := [(.slice none 0 0), (.slice none 0 0)]) (vs := [(Sl a75 o26.2.1 c76), (Sl a77 o26.2.2 c78)]) (cs' := [(Sl a75 o26.2.1 c76), (Sl a77 o26.2.2 c78)]) H (i := 5) rfl ti26 rfl rfl rfl rfl rfl (Nat.le_of_ble_eq_true rfl) (by simp [plain]) rfl) wn ?_
  rintro σ80 ⟨H, -⟩
  refine w_end (q_then (c_ret ?_))
  obtain rfl := sj h
  exact fin_ret (v := (.agg #[(Sl a75 o26.2.1 c76), (Sl a77 o26.2.2 c78)])) (results_ok Try.results72 (res_cell rfl (run_cellRes (cs := [(Sl a75 o26.2.1 c76), (Sl a77 o26.2.2 c78)]) Try.underlying26 rfl ti26 rfl (H.cells 0 rfl)) res_nil) rfl) ⟨a75, c76, a77, c78, a73, c74, rfl, rfl⟩ (H.sel' [4, 5, 1, 2] rfl rfl)

theorem c_spec_anyHistory {Cs : (List UInt8) × Int} {Ct : Option Addr} {Cu : Nat} {Cv Cw Cy : Nat} {Cz Da : List Value} {r : ((List (Int × (Int × (List Int) × Int))) × (List Int)) × ((List UInt8) × Int)} (h : M.spec_anyHistory Cs = some r) :
    Cal2 Try.prog 40 [(pt Cw Cy)] [Ch.bx Cv Cw Cy [(Sl Ct Cs.1 Cu), (I Cs.2)] Cz Da, Ch.ro 0 (Sl Ct Cs.1 Cu) Cs.1] (fun n0 v L => ∃ (az1 : Option Addr), ∃ (cz2 : Nat), ∃ (az3 : Option Addr), ∃ (cz4 : Nat), ∃ (az5 : Option Addr), ∃ (cz6 : Nat), v = (.agg #[(Sl az1 r.1.1 cz2), (Sl az3 r.1.2 cz4)]) ∧ L = [Ch.own n0 n0 (Sl az1 r.1.1 cz2) r.1.1, Ch.own n0 n0 (Sl az3 r.1.2 cz4) r.1.2, Ch.bx Cv Cw Cy [(Sl az5 r.2.1 cz6), (I r.2.2)] Cz Da, Ch.ro 0 (Sl az5 r.2.1 cz6) r.2.1]) := by
 refine cal2 (n := 35) Try.func40 rfl rfl rfl rfl ?_
 intro S0 σ0 n0 hn0 H
 unfold M.spec_anyHistory at h
 refine c_seq (rg (st_ex (ex_alloc (cs := [(.slice none 0 0), (.slice none 0 0)]) H hn0 ti26 rfl) wn ?_))
 rintro _ σ2 ⟨b1, rfl, H, -⟩
 refine w_end (q_then (c_seq (rg (sm (pt Cw Cy) rfl ?_))))
 revert h; refine br fun r3 hx4 h => ?_
 have hc5 := c_spec_someHistory (Cv := Cv) (Cw := Cw) (Cy := Cy) (Cz := Cz) (Da := Da) (Ct := Ct) (Cu := Cu) hx4
 refine st_call (cx_call hc5 (ent_f hc5.fn rfl) hn0 (H.sel' [1, 2, 0, 2] rfl rfl : Hp S0 σ0 _ ([_, _] ++ _))) wn ?_
 rintro _ σ12 ⟨_, ⟨a6, c7, a8, c9, a10, c11, rfl, rfl⟩, H, -⟩
 replace H : Hp _ _ _ [_, _, _, _, _, _] := H
 refine st_ex (ex_alloc (cs := [(.slice none 0 0), (.slice none 0 0)]) H hn0 ti26 rfl) wn ?_
 rintro _ σ14 ⟨b13, rfl, H, -⟩
 refine st_exS (ex_store_box (k := 0) (cs := [(.slice none 0 0), (.slice none 0 0)]) (vs := [(Sl a6 r3.1.1 c7), (Sl a8 r3.1.2 c9)]) (cs' := [(Sl a6 r3.1.1 c7), (Sl a8 r3.1.2 c9)]) H (i := 0) rfl ti26 rfl rfl rfl rfl rfl (Nat.le_of_ble_eq_true rfl) (by simp [plain]) rfl) wn ?_
 rintro σ15 ⟨H, -⟩
 refine w_end (q_then (c_seq (c_seq (rg (sm (pt Cw Cy) rfl ?_)))))
 revert h; refine br fun r16 hx17 h => ?_
 have hc18 := c_spec_reader_pick (Cv := Cv) (Cw := Cw) (Cy := Cy) (Cz := Cz) (Da := Da) (Ct := a10) (Cu := c11) hx17
 refine st_call (cx_call hc18 (ent_f hc18.fn rfl) hn0 (H.sel' [3, 4, 0, 1, 2, 4, 5, 6] rfl rfl : Hp S0 σ0 _ ([_, _] ++ _))) wn ?_
 rintro _ σ21 ⟨_, ⟨a19, c20, rfl, rfl⟩, H, -⟩
 replace H : Hp _ _ _ [_, _, _, _, _, _, _, _] := H
 replace H : Hp S0 σ0 σ21 [Ch.bx Cv Cw Cy [(Sl a19 r16.2.1 c20), (I r16.2.2)] Cz Da, Ch.ro 0 (Sl a19 r16.2.1 c20) r16.2.1, Ch.bx n0 b13 0 [(Sl a6 r3.1.1 c7), (Sl a8 r3.1.2 c9)] [] [], Ch.own n0 n0 (Sl a6 r3.1.1 c7) r3.1.1, Ch.own n0 n0 (Sl a8 r3.1.2 c9) r3.1.2, Ch.bx n0 b1 0 [(.slice none 0 0), (.slice none 0 0)] [] []] := H.sel' [0, 1, 2, 3, 4, 6] rfl rfl
 refine w_end (q_then ?_)
 obtain ⟨o22, hj, h'⟩ := bind_some h
 clear h
 refine c_cut (fun e a w => e = .normal ∧ ∃ (ρ : Nat → Value) (σ : St) (aj1 : Option Addr) (cj2 : Nat) (aj3 : Option Addr) (cj4 : Nat) (aj5 : Option Addr) (cj6 : Nat), a = fr 35 (updL ρ [(0, (pt Cw Cy)), (2, (pt b1 0)), (3, (pt b13 0))]) ∧ w = σ.w ∧ Hp S0 σ0 σ [Ch.bx Cv Cw Cy [(Sl aj1 o22.1.1 cj2), (I o22.1.2)] Cz Da, Ch.ro 0 (Sl aj1 o22.1.1 cj2) o22.1.1, Ch.bx n0 b13 0 [(Sl aj3 o22.2.1 cj4), (Sl aj5 o22.2.2 cj6)] [] [], Ch.own n0 n0 (Sl aj3 o22.2.1 cj4) o22.2.1, Ch.own n0 n0 (Sl aj5 o22.2.2 cj6) o22.2.2, Ch.bx n0 b1 0 [(.slice none 0 0), (.slice none 0 0)] [] []]) ?_ ?_
 ·clear h'
  rename _ = some o22 => h
  refine c_blk (c_seq (rg (st (v := (B (r16.1 == 0))) (rv_eql (a := r16.1) (b := 0) rfl rfl) (sa (B (r16.1 == 0)) rfl (w_end (q_then ?_))))))
  refine cd_cond (r16.1 == 0) rfl (fun hb23 => ?_) (fun hb23 => ?_)
  ·replace h := bif_t hb23 h
   refine rg (sm (pt Cw Cy) rfl (st (v := (pt b13 1)) (rv_fieldAddr (off := 1) (ft := 24) Try.underlying26 rfl ti24 rfl rfl) ?_))
   have hc24 := H.cell (u := (Sl a8 r3.1.2 c9)) (o' := 1) 2 1 rfl rfl rfl
   refine st (v := (Sl a8 r3.1.2 c9)) (rv_load1 Try.underlying24 rfl rfl hc24) ?_
   refine st_ex (ex_buildSlice (el := n0) (xs := ([1000] : List Int)) (ps := [(0, (I 1000))]) (cs := [(I 1000)]) H hn0 Try.underlying24 ti3 rfl rfl (by kernel_rfl) (.cons (c := [(I 1000)]) rfl (.nil)) rfl) wn ?_
   rintro _ σ26 ⟨b25, rfl, H, -⟩
   revert h; refine br fun xs27 hx28 h => ?_
   refine st_ex (ex_append H (i := 5) rfl Try.underlying24 Try.underlying24 ti3 rfl rfl (by decide) (H.own 0 rfl).rd hx28 hn0 rfl rfl) wn ?_
   rintro _ σ31 ⟨a29, c30, rfl, H, -⟩
   obtain ⟨σ32, hw33, H, -⟩ := H.pub 0 rfl (Nat.le_refl _)
   rw [← hw33]; clear hw33
   replace H := H.roLow 0 0 rfl (Nat.zero_le _)
   revert h; refine br fun r34 hx35 h => ?_
   have hc36 := c_spec_reader_spoil (Cv := Cv) (Cw := Cw) (Cy := Cy) (Cz := Cz) (Da := Da) (Ct := a19) (Cu := c20) (Bk := a29) (Bl := c30) hx35
   refine st_call (cx_call hc36 (ent_f hc36.fn rfl) hn0 (H.sel' [3, 4, 0, 0, 1, 2, 4, 5, 6, 7] rfl rfl : Hp S0 σ0 _ ([_, _, _] ++ _))) wn ?_
   rintro _ σ41 ⟨_, ⟨a37, c38, a39, c40, rfl, rfl⟩, H, -⟩
   replace H : Hp _ _ _ [_, _, _, _, _, _, _, _, _, _] := H
   replace H : Hp S0 σ0 σ41 [Ch.own n0 n0 (Sl a37 r34.1 c38) r34.1, Ch.bx Cv Cw Cy [(Sl a39 r34.2.1 c40), (I r34.2.2)] Cz Da, Ch.ro 0 (Sl a39 r34.2.1 c40) r34.2.1, Ch.bx n0 b13 0 [(Sl a6 r3.1.1 c7), (Sl a8 r3.1.2 c9)] [] [], Ch.own n0 n0 (Sl a6 r3.1.1 c7) r3.1.1, Ch.bx n0 b1 0 [(.slice none 0 0), (.slice none 0 0)] [] []] := H.sel' [0, 1, 2, 7, 8, 9] rfl rfl
   refine st (v := (pt b13 1)) (rv_fieldAddr (off := 1) (ft := 24) Try.underlying26 rfl ti24 rfl rfl) ?_
   refine st_exS (ex_store_box (k := 1) (cs := [(Sl a6 r3.1.1 c7), (Sl a8 r3.1.2 c9)]) (vs := [(Sl a37 r34.1 c38)]) (cs' := [(Sl a6 r3.1.1 c7), (Sl a37 r34.1 c38)]) H (i := 3) rfl ti24 rfl rfl rfl rfl rfl (Nat.le_of_ble_eq_true rfl) (by simp [plain]) rfl) wn ?_
   rintro σ42 ⟨H, -⟩
   refine w_end (q_blk ?_)
   obtain rfl := sj h
   exact ⟨rfl, _, σ42, a39, c40, a6, c7, a37, c38, fr_join ⟨rfl, rfl, rfl, trivial⟩, rfl, H.sel' [2, 3, 0, 4, 1, 5] rfl rfl⟩
  ·replace h := bif_f hb23 h
   refine c_seq (rg (st (v := (B (r16.1 == 1))) (rv_eql (a := r16.1) (b := 1) rfl rfl) (sa (B (r16.1 == 1)) rfl (w_end (q_then ?_)))))
   refine cd_cond (r16.1 == 1) rfl (fun hb43 => ?_) (fun hb43 => ?_)
   ·replace h := bif_t hb43 h
    refine c_seq ?_
    have hc44 := H.cell (u := (Sl a6 r3.1.1 c7)) (o' := 0) 2 0 rfl rfl rfl
    revert h; refine br fun r45 hx46 h => ?_
    have hc47 := c_spec_anyEntry (Cv := Cv) (Cw := Cw) (Cy := Cy) (Cz := Cz) (Da := Da) (Ct := a19) (Cu := c20) hx46
    have Hs := H
    refine rg2 (σ := σ21) (Nm := (Option Addr) × (Nat) × (Option Addr) × (Nat) × (Nat)) 5 [3, 4] [[false, false], [true, false], [true, true]] [[(0, 0), (1, 1), (2, 2)], [(0, 0), (1, 1), (2, 2)], [(0, 0)], [(0, 1)], [(1, 2)]] 2 [fun ((a48, c49, a50, c51, b52) : (Option Addr) × (Nat) × (Option Addr) × (Nat) × (Nat)) => fun σm => Hp S0 σ0 σm [Ch.bx Cv Cw Cy [(Sl a19 r16.2.1 c20), (I r16.2.2)] Cz Da, Ch.ro 0 (Sl a19 r16.2.1 c20) r16.2.1, Ch.bx n0 b13 0 [(Sl a6 r3.1.1 c7), (Sl a8 r3.1.2 c9)] [] [], Ch.own n0 n0 (Sl a6 r3.1.1 c7) r3.1.1, Ch.own n0 n0 (Sl a8 r3.1.2 c9) r3.1.2, Ch.bx n0 b1 0 [(.slice none 0 0), (.slice none 0 0)] [] []] ∧ Md (cov []) σ21 σm, fun ((a48, c49, a50, c51, b52) : (Option Addr) × (Nat) × (Option Addr) × (Nat) × (Nat)) => fun σm => Hp S0 σ0 σm [Ch.ro n0 (Sl a48 r45.1.2.2.1 c49) r45.1.2.2.1, Ch.bx Cv Cw Cy [(Sl a50 r45.2.1 c51), (I r45.2.2)] Cz Da, Ch.ro 0 (Sl a50 r45.2.1 c51) r45.2.1, Ch.ro 0 (Sl a19 r16.2.1 c20) r16.2.1, Ch.bx n0 b13 0 [(Sl a6 r3.1.1 c7), (Sl a8 r3.1.2 c9)] [] [], Ch.own n0 n0 (Sl a6 r3.1.1 c7) r3.1.1, Ch.own n0 n0 (Sl a8 r3.1.2 c9) r3.1.2, Ch.bx n0 b1 0 [(.slice none 0 0), (.slice none 0 0)] [] []] ∧ Md (fun i => (cov []) i ∨ (fun i => (cov [Ch.bx Cv Cw Cy [(Sl a19 r16.2.1 c20), (I r16.2.2)] Cz Da, Ch.ro 0 (Sl a19 r16.2.1 c20) r16.2.1]) i ∨ (fun b => blk (Sl a48 r45.1.2.2.1 c49) = some b) i) i) σ21 σm, fun ((a48, c49, a50, c51, b52) : (Option Addr) × (Nat) × (Option Addr) × (Nat) × (Nat)) => fun σm => Hp S0 σ0 σm [Ch.own n0 n0 (Sl (some ⟨b52, 0, none⟩) ([(r45.1.1, (r45.1.2.1, r45.1.2.2.1, r45.1.2.2.2))] : List (Int × (Int × (List Int) × Int))) 1) ([(r45.1.1, (r45.1.2.1, r45.1.2.2.1, r45.1.2.2.2))] : List (Int × (Int × (List Int) × Int))), Ch.ro n0 (Sl a48 r45.1.2.2.1 c49) r45.1.2.2.1, Ch.bx Cv Cw Cy [(Sl a50 r45.2.1 c51), (I r45.2.2)] Cz Da, Ch.ro 0 (Sl a50 r45.2.1 c51) r45.2.1, Ch.ro 0 (Sl a19 r16.2.1 c20) r16.2.1, Ch.bx n0 b13 0 [(Sl a6 r3.1.1 c7), (Sl a8 r3.1.2 c9)] [] [], Ch.own n0 n0 (Sl a6 r3.1.1 c7) r3.1.1, Ch.own n0 n0 (Sl a8 r3.1.2 c9) r3.1.2, Ch.bx n0 b1 0 [(.slice none 0 0), (.slice none 0 0)] [] []] ∧ Md (fun i => (cov []) i ∨ (fun i => (cov [Ch.bx Cv Cw Cy [(Sl a19 r16.2.1 c20), (I r16.2.2)] Cz Da, Ch.ro 0 (Sl a19 r16.2.1 c20) r16.2.1]) i ∨ (fun b => blk (Sl a48 r45.1.2.2.1 c49) = some b) i) i) σ21 σm] [fun ((a48, c49, a50, c51, b52) : (Option Addr) × (Nat) × (Option Addr) × (Nat) × (Nat)) => (pt b13 0), fun ((a48, c49, a50, c51, b52) : (Option Addr) × (Nat) × (Option Addr) × (Nat) × (Nat)) => (Sl a6 r3.1.1 c7), fun ((a48, c49, a50, c51, b52) : (Option Addr) × (Nat) × (Option Addr) × (Nat) × (Nat)) => (pt Cw Cy), fun ((a48, c49, a50, c51, b52) : (Option Addr) × (Nat) × (Option Addr) × (Nat) × (Nat)) => (.agg #[(I r45.1.1), (I r45.1.2.1), (Sl a48 r45.1.2.2.1 c49), (I r45.1.2.2.2)]), fun ((a48, c49, a50, c51, b52) : (Option Addr) × (Nat) × (Option Addr) × (Nat) × (Nat)) => (Sl (some ⟨b52, 0, none⟩) ([(r45.1.1, (r45.1.2.1, r45.1.2.2.1, r45.1.2.2.2))] : List (Int × (Int × (List Int) × Int))) 1)] (none, 0, none, 0, 0) (by kernel_rfl) (by kernel_rfl) ?_ ?_ ?_
    ·intro σm m0
     exact ⟨H.grow (m0.mono fun _ h => h.elim), m0⟩
    ·refine ac rfl (by
       intro k; rintro ⟨a48, c49, a50, c51, b52⟩ ρ σm hJ hoff hdep
       have e3 := look_off (N := 35) (hoff 3 rfl) rfl
       exact dp_v (v := (pt b13 0)) wn (rv_fieldAddr (off := 0) (ft := 23) Try.underlying26 rfl ti23 rfl e3) rfl hJ) ?_
     refine all_cons (by
       refine ⟨?_, ?_⟩
       ·rintro ⟨a48, c49, a50, c51, b52⟩ ρ σm hJ hoff hdep
        have e19 := hdep 0 rfl rfl 19 rfl
        obtain ⟨H, m⟩ := id hJ
        have hc44 := H.cell (u := (Sl a6 r3.1.1 c7)) (o' := 0) 2 0 rfl rfl rfl
        exact dp_v (v := (Sl a6 r3.1.1 c7)) wn (rv_load1 Try.underlying23 rfl e19 hc44) rfl hJ
       refine ⟨?_, ?_⟩
       ·rintro ⟨a48, c49, a50, c51, b52⟩ ρ σm hJ hoff hdep
        have e19 := hdep 0 rfl rfl 19 rfl
        obtain ⟨H, m⟩ := id hJ
        have hc44 := H.cell (u := (Sl a6 r3.1.1 c7)) (o' := 0) 4 0 rfl rfl rfl
        exact dp_v (v := (Sl a6 r3.1.1 c7)) wn (rv_load1 Try.underlying23 rfl e19 hc44) rfl hJ
       refine ⟨?_, ?_⟩
       ·rintro ⟨a48, c49, a50, c51, b52⟩ ρ σm hJ hoff hdep
        have e19 := hdep 0 rfl rfl 19 rfl
        obtain ⟨H, m⟩ := id hJ
        have hc44 := H.cell (u := (Sl a6 r3.1.1 c7)) (o' := 0) 5 0 rfl rfl rfl
        exact dp_v (v := (Sl a6 r3.1.1 c7)) wn (rv_load1 Try.underlying23 rfl e19 hc44) rfl hJ
       trivial) ?_
     refine ac rfl (by
       intro k; rintro ⟨a48, c49, a50, c51, b52⟩ ρ σm hJ hoff hdep
       have e0 := look_off (N := 35) (hoff 0 rfl) rfl
       exact dp_v (v := (pt Cw Cy)) wn (rv_move e0) rfl hJ) ?_
     refine all_cons (by
       refine ⟨?_, ?_⟩
       ·rintro ⟨a48, c49, a50, c51, b52⟩ ρ σm hJ hoff hdep
        have e21 : look 35 ρ 21 = (pt Cw Cy) := hdep 2 rfl rfl 21 rfl
        obtain ⟨H, m⟩ := id hJ
        refine dp_cx wn (cx_call hc47 (ent_f hc47.fn (by show [look 35 ρ 21] = _; rw [e21])) hn0 (H.sel' [0, 1, 1, 2, 3, 4, 5] rfl rfl : Hp S0 σ0 _ ([_, _] ++ _))) ?_
        rintro _ σq ⟨_, ⟨a48x, c49x, a50x, c51x, rfl, rfl⟩, H2, m2⟩
        obtain ⟨σr0, hwr0, H2, mr0⟩ := H2.pub 0 rfl (Nat.le_refl _)
        exact ⟨_, (a48x, c49x, a50x, c51x, b52), hwr0, rfl, ⟨H2.sel' [0, 1, 2, 3, 4, 5, 6, 7] rfl rfl, m.comp (m2.comp mr0)⟩, stab [0, 1, 2] (by kernel_rfl) ⟨rfl, rfl, rfl, trivial⟩⟩
       trivial) ?_
     refine all_cons (by
       refine ⟨?_, ?_⟩
       ·rintro ⟨a48, c49, a50, c51, b52⟩ ρ σm hJ hoff hdep
        have e22 : look 35 ρ 22 = (.agg #[(I r45.1.1), (I r45.1.2.1), (Sl a48 r45.1.2.2.1 c49), (I r45.1.2.2.2)]) := hdep 3 rfl rfl 22 rfl
        obtain ⟨H, m⟩ := id hJ
        refine dp_ex wn (ex_buildSlice (el := n0) (xs := ([(r45.1.1, (r45.1.2.1, r45.1.2.2.1, r45.1.2.2.2))] : List (Int × (Int × (List Int) × Int)))) (ps := [(0, (.agg #[(I r45.1.1), (I r45.1.2.1), (Sl a48 r45.1.2.2.1 c49), (I r45.1.2.2.2)]))]) (cs := [(I r45.1.1), (I r45.1.2.1), (Sl a48 r45.1.2.2.1 c49), (I r45.1.2.2.2)]) H hn0 Try.underlying23 ti43 rfl (by show [(0, look 35 ρ 22)] = _; rw [e22]) (by kernel_rfl) (.cons (c := [(I r45.1.1), (I r45.1.2.1), (Sl a48 r45.1.2.2.1 c49), (I r45.1.2.2.2)]) ⟨[(I r45.1.1)], [(I r45.1.2.1), (Sl a48 r45.1.2.2.1 c49), (I r45.1.2.2.2)], rfl, rfl, ⟨[(I r45.1.2.1)], [(Sl a48 r45.1.2.2.1 c49), (I r45.1.2.2.2)], rfl, rfl, ⟨[(Sl a48 r45.1.2.2.1 c49)], [(I r45.1.2.2.2)], rfl, ⟨_, rfl, (H.ro 0 rfl)⟩, rfl⟩⟩⟩ (.nil)) rfl) ?_
        rintro _ σq ⟨b52x, rfl, H2, m2⟩
        exact ⟨_, (a48, c49, a50, c51, b52x), rfl, rfl, ⟨H2.sel' [0, 1, 2, 3, 4, 5, 6, 7, 8] rfl rfl, m.comp0 m2⟩, stab [0, 1, 2, 3] (by kernel_rfl) ⟨rfl, rfl, rfl, rfl, trivial⟩⟩
       trivial) ?_
     exact all_nil
    ·rintro ⟨a48, c49, a50, c51, b52⟩ ρ σ53 hJ hoff hrel
     have e0 := look_off (N := 35) (hoff 0 rfl) rfl
     have e2 := look_off (N := 35) (hoff 2 rfl) rfl
     have e3 := look_off (N := 35) (hoff 3 rfl) rfl
     have e20 := hrel 1 rfl 20 rfl
     have e23 := hrel 4 rfl 23 rfl
     obtain ⟨H, -⟩ := (show Hp S0 σ0 σ53 [Ch.own n0 n0 (Sl (some ⟨b52, 0, none⟩) ([(r45.1.1, (r45.1.2.1, r45.1.2.2.1, r45.1.2.2.2))] : List (Int × (Int × (List Int) × Int))) 1) ([(r45.1.1, (r45.1.2.1, r45.1.2.2.1, r45.1.2.2.2))] : List (Int × (Int × (List Int) × Int))), Ch.ro n0 (Sl a48 r45.1.2.2.1 c49) r45.1.2.2.1, Ch.bx Cv Cw Cy [(Sl a50 r45.2.1 c51), (I r45.2.2)] Cz Da, Ch.ro 0 (Sl a50 r45.2.1 c51) r45.2.1, Ch.ro 0 (Sl a19 r16.2.1 c20) r16.2.1, Ch.bx n0 b13 0 [(Sl a6 r3.1.1 c7), (Sl a8 r3.1.2 c9)] [] [], Ch.own n0 n0 (Sl a6 r3.1.1 c7) r3.1.1, Ch.own n0 n0 (Sl a8 r3.1.2 c9) r3.1.2, Ch.bx n0 b1 0 [(.slice none 0 0), (.slice none 0 0)] [] []] ∧ Md (fun i => (cov []) i ∨ (fun i => (cov [Ch.bx Cv Cw Cy [(Sl a19 r16.2.1 c20), (I r16.2.2)] Cz Da, Ch.ro 0 (Sl a19 r16.2.1 c20) r16.2.1]) i ∨ (fun b => blk (Sl a48 r45.1.2.2.1 c49) = some b) i) i) σ21 σ53 from hJ)
     clear hJ Hs
     rw [fr_lookL (L := [(0, (pt Cw Cy)), (2, (pt b1 0)), (3, (pt b13 0)), (20, (Sl a6 r3.1.1 c7)), (23, (Sl (some ⟨b52, 0, none⟩) ([(r45.1.1, (r45.1.2.1, r45.1.2.2.1, r45.1.2.2.2))] : List (Int × (Int × (List Int) × Int))) 1))]) ⟨e0, e2, e3, e20, e23, trivial⟩]
     clear hoff hrel e0 e2 e3 e20 e23
     revert h; refine br fun xs54 hx55 h => ?_
     refine st_ex (ex_append H (i := 6) rfl Try.underlying23 Try.underlying23 ti43 rfl rfl (by decide) (H.own 0 rfl).rd hx55 hn0 rfl rfl) wn ?_
     rintro _ σ58 ⟨a56, c57, rfl, H, -⟩
     replace H : Hp S0 σ0 σ58 [Ch.own n0 n0 (Sl a56 xs54 c57) xs54, Ch.bx Cv Cw Cy [(Sl a50 r45.2.1 c51), (I r45.2.2)] Cz Da, Ch.ro 0 (Sl a50 r45.2.1 c51) r45.2.1, Ch.bx n0 b13 0 [(Sl a6 r3.1.1 c7), (Sl a8 r3.1.2 c9)] [] [], Ch.own n0 n0 (Sl a8 r3.1.2 c9) r3.1.2, Ch.bx n0 b1 0 [(.slice none 0 0), (.slice none 0 0)] [] []] := H.sel' [0, 3, 4, 6, 7, 8] rfl rfl
     refine st (v := (pt b13 0)) (rv_fieldAddr (off := 0) (ft := 23) Try.underlying26 rfl ti23 rfl rfl) ?_
     refine st_exS (ex_store_box (k := 0) (cs := [(Sl a6 r3.1.1 c7), (Sl a8 r3.1.2 c9)]) (vs := [(Sl a56 xs54 c57)]) (cs' := [(Sl a56 xs54 c57), (Sl a8 r3.1.2 c9)]) H (i := 3) rfl ti23 rfl rfl rfl rfl rfl (Nat.le_of_ble_eq_true rfl) (by simp [plain]) rfl) wn ?_
     rintro σ59 ⟨H, -⟩
     refine w_end (q_then ?_)
     have hc60 := H.cell (u := (Sl a8 r3.1.2 c9)) (o' := 1) 0 1 rfl rfl rfl
     revert h; refine br fun r62 hx63 h => ?_
     have hc64 := fun (b61 : Nat) => c_spec_reader_one (Cv := Cv) (Cw := Cw) (Cy := Cy) (Cz := Cz) (Da := Da) (Ct := a50) (Cu := c51) (Bk := (some ⟨b61, 0, none⟩)) (Bl := 2) hx63
     have Hs := H
     refine rg2 (σ := σ59) (Nm := (Nat) × (Option Addr) × (Nat) × (Nat)) 6 [3, 4, 5] [[false, false, false], [true, false, false], [true, true, false], [true, true, true]] [[(0, 0), (1, 1), (2, 2), (3, 3)], [(0, 0), (1, 1), (2, 2), (3, 3)], [(0, 0), (1, 1)], [(0, 1)], [(1, 2)], [(2, 3)]] 3 [fun ((b61, a65, c66, b67) : (Nat) × (Option Addr) × (Nat) × (Nat)) => fun σm => Hp S0 σ0 σm [Ch.bx n0 b13 0 [(Sl a56 xs54 c57), (Sl a8 r3.1.2 c9)] [] [], Ch.own n0 n0 (Sl a56 xs54 c57) xs54, Ch.bx Cv Cw Cy [(Sl a50 r45.2.1 c51), (I r45.2.2)] Cz Da, Ch.ro 0 (Sl a50 r45.2.1 c51) r45.2.1, Ch.own n0 n0 (Sl a8 r3.1.2 c9) r3.1.2, Ch.bx n0 b1 0 [(.slice none 0 0), (.slice none 0 0)] [] []] ∧ Md (cov []) σ59 σm, fun ((b61, a65, c66, b67) : (Nat) × (Option Addr) × (Nat) × (Nat)) => fun σm => Hp S0 σ0 σm [Ch.ro 0 (Sl (some ⟨b61, 0, none⟩) ([0, 900] : List Int) 2) ([0, 900] : List Int), Ch.bx n0 b13 0 [(Sl a56 xs54 c57), (Sl a8 r3.1.2 c9)] [] [], Ch.own n0 n0 (Sl a56 xs54 c57) xs54, Ch.bx Cv Cw Cy [(Sl a50 r45.2.1 c51), (I r45.2.2)] Cz Da, Ch.ro 0 (Sl a50 r45.2.1 c51) r45.2.1, Ch.own n0 n0 (Sl a8 r3.1.2 c9) r3.1.2, Ch.bx n0 b1 0 [(.slice none 0 0), (.slice none 0 0)] [] []] ∧ Md (fun i => (cov []) i ∨ (fun i => (cov []) i ∨ (fun b => blk (Sl (some ⟨b61, 0, none⟩) ([0, 900] : List Int) 2) = some b) i) i) σ59 σm, fun ((b61, a65, c66, b67) : (Nat) × (Option Addr) × (Nat) × (Nat)) => fun σm => Hp S0 σ0 σm [Ch.bx Cv Cw Cy [(Sl a65 r62.2.1 c66), (I r62.2.2)] Cz Da, Ch.ro 0 (Sl a65 r62.2.1 c66) r62.2.1, Ch.ro 0 (Sl (some ⟨b61, 0, none⟩) ([0, 900] : List Int) 2) ([0, 900] : List Int), Ch.bx n0 b13 0 [(Sl a56 xs54 c57), (Sl a8 r3.1.2 c9)] [] [], Ch.own n0 n0 (Sl a56 xs54 c57) xs54, Ch.ro 0 (Sl a50 r45.2.1 c51) r45.2.1, Ch.own n0 n0 (Sl a8 r3.1.2 c9) r3.1.2, Ch.bx n0 b1 0 [(.slice none 0 0), (.slice none 0 0)] [] []] ∧ Md (fun i => (fun i => (cov []) i ∨ (fun i => (cov []) i ∨ (fun b => blk (Sl (some ⟨b61, 0, none⟩) ([0, 900] : List Int) 2) = some b) i) i) i ∨ (cov [Ch.bx Cv Cw Cy [(Sl a50 r45.2.1 c51), (I r45.2.2)] Cz Da, Ch.ro 0 (Sl a50 r45.2.1 c51) r45.2.1, Ch.ro 0 (Sl (some ⟨b61, 0, none⟩) ([0, 900] : List Int) 2) ([0, 900] : List Int)]) i) σ59 σm, fun ((b61, a65, c66, b67) : (Nat) × (Option Addr) × (Nat) × (Nat)) => fun σm => Hp S0 σ0 σm [Ch.own n0 n0 (Sl (some ⟨b67, 0, none⟩) ([r62.1] : List Int) 1) ([r62.1] : List Int), Ch.bx Cv Cw Cy [(Sl a65 r62.2.1 c66), (I r62.2.2)] Cz Da, Ch.ro 0 (Sl a65 r62.2.1 c66) r62.2.1, Ch.ro 0 (Sl (some ⟨b61, 0, none⟩) ([0, 900] : List Int) 2) ([0, 900] : List Int), Ch.bx n0 b13 0 [(Sl a56 xs54 c57), (Sl a8 r3.1.2 c9)] [] [], Ch.own n0 n0 (Sl a56 xs54 c57) xs54, Ch.ro 0 (Sl a50 r45.2.1 c51) r45.2.1, Ch.own n0 n0 (Sl a8 r3.1.2 c9) r3.1.2, Ch.bx n0 b1 0 [(.slice none 0 0), (.slice none 0 0)] [] []] ∧ Md (fun i => (fun i => (cov []) i ∨ (fun i => (cov []) i ∨ (fun b => blk (Sl (some ⟨b61, 0, none⟩) ([0, 900] : List Int) 2) = some b) i) i) i ∨ (cov [Ch.bx Cv Cw Cy [(Sl a50 r45.2.1 c51), (I r45.2.2)] Cz Da, Ch.ro 0 (Sl a50 r45.2.1 c51) r45.2.1, Ch.ro 0 (Sl (some ⟨b61, 0, none⟩) ([0, 900] : List Int) 2) ([0, 900] : List Int)]) i) σ59 σm] [fun ((b61, a65, c66, b67) : (Nat) × (Option Addr) × (Nat) × (Nat)) => (pt b13 1), fun ((b61, a65, c66, b67) : (Nat) × (Option Addr) × (Nat) × (Nat)) => (Sl a8 r3.1.2 c9), fun ((b61, a65, c66, b67) : (Nat) × (Option Addr) × (Nat) × (Nat)) => (pt Cw Cy), fun ((b61, a65, c66, b67) : (Nat) × (Option Addr) × (Nat) × (Nat)) => (Sl (some ⟨b61, 0, none⟩) ([0, 900] : List Int) 2), fun ((b61, a65, c66, b67) : (Nat) × (Option Addr) × (Nat) × (Nat)) => (I r62.1), fun ((b61, a65, c66, b67) : (Nat) × (Option Addr) × (Nat) × (Nat)) => (Sl (some ⟨b67, 0, none⟩) ([r62.1] : List Int) 1)] (0, none, 0, 0) (by kernel_rfl) (by kernel_rfl) ?_ ?_ ?_
     ·intro σm m0
      exact ⟨H.grow (m0.mono fun _ h => h.elim), m0⟩
     ·refine ac rfl (by
        intro k; rintro ⟨b61, a65, c66, b67⟩ ρ σm hJ hoff hdep
        have e3 := look_off (N := 35) (hoff 3 rfl) rfl
        exact dp_v (v := (pt b13 1)) wn (rv_fieldAddr (off := 1) (ft := 24) Try.underlying26 rfl ti24 rfl e3) rfl hJ) ?_
      refine all_cons (by
        refine ⟨?_, ?_⟩
        ·rintro ⟨b61, a65, c66, b67⟩ ρ σm hJ hoff hdep
         have e26 := hdep 0 rfl rfl 26 rfl
         obtain ⟨H, m⟩ := id hJ
         have hc60 := H.cell (u := (Sl a8 r3.1.2 c9)) (o' := 1) 0 1 rfl rfl rfl
         exact dp_v (v := (Sl a8 r3.1.2 c9)) wn (rv_load1 Try.underlying24 rfl e26 hc60) rfl hJ
        refine ⟨?_, ?_⟩
        ·rintro ⟨b61, a65, c66, b67⟩ ρ σm hJ hoff hdep
         have e26 := hdep 0 rfl rfl 26 rfl
         obtain ⟨H, m⟩ := id hJ
         have hc60 := H.cell (u := (Sl a8 r3.1.2 c9)) (o' := 1) 1 1 rfl rfl rfl
         exact dp_v (v := (Sl a8 r3.1.2 c9)) wn (rv_load1 Try.underlying24 rfl e26 hc60) rfl hJ
        refine ⟨?_, ?_⟩
        ·rintro ⟨b61, a65, c66, b67⟩ ρ σm hJ hoff hdep
         have e26 := hdep 0 rfl rfl 26 rfl
         obtain ⟨H, m⟩ := id hJ
         have hc60 := H.cell (u := (Sl a8 r3.1.2 c9)) (o' := 1) 3 1 rfl rfl rfl
         exact dp_v (v := (Sl a8 r3.1.2 c9)) wn (rv_load1 Try.underlying24 rfl e26 hc60) rfl hJ
        refine ⟨?_, ?_⟩
        ·rintro ⟨b61, a65, c66, b67⟩ ρ σm hJ hoff hdep
         have e26 := hdep 0 rfl rfl 26 rfl
         obtain ⟨H, m⟩ := id hJ
         have hc60 := H.cell (u := (Sl a8 r3.1.2 c9)) (o' := 1) 4 1 rfl rfl rfl
         exact dp_v (v := (Sl a8 r3.1.2 c9)) wn (rv_load1 Try.underlying24 rfl e26 hc60) rfl hJ
        trivial) ?_
      refine ac rfl (by
        intro k; rintro ⟨b61, a65, c66, b67⟩ ρ σm hJ hoff hdep
        have e0 := look_off (N := 35) (hoff 0 rfl) rfl
        exact dp_v (v := (pt Cw Cy)) wn (rv_move e0) rfl hJ) ?_
      refine all_cons (by
        refine ⟨?_, ?_⟩
        ·rintro ⟨b61, a65, c66, b67⟩ ρ σm hJ hoff hdep
         obtain ⟨H, m⟩ := id hJ
         refine dp_ex wn (ex_buildSlice (el := 0) (xs := ([0, 900] : List Int)) (ps := [(0, (I 0)), (1, (I 900))]) (cs := [(I 0), (I 900)]) H hn0 Try.underlying24 ti3 rfl rfl (by kernel_rfl) (.cons (c := [(I 0)]) rfl (.cons (c := [(I 900)]) rfl (.nil))) rfl) ?_
         rintro _ σq ⟨b61x, rfl, H2, m2⟩
         obtain ⟨σr0, hwr0, H2, mr0⟩ := H2.pub 0 rfl (Nat.zero_le _)
         exact ⟨_, (b61x, a65, c66, b67), hwr0, rfl, ⟨H2.sel' [0, 1, 2, 3, 4, 5, 6] rfl rfl, m.comp (m2.comp mr0)⟩, stab [0, 1, 2] (by kernel_rfl) ⟨rfl, rfl, rfl, trivial⟩⟩
        trivial) ?_
      refine all_cons (by
        refine ⟨?_, ?_⟩
        ·rintro ⟨b61, a65, c66, b67⟩ ρ σm hJ hoff hdep
         have e28 : look 35 ρ 28 = (pt Cw Cy) := hdep 2 rfl rfl 28 rfl
         have e29 : look 35 ρ 29 = (Sl (some ⟨b61, 0, none⟩) ([0, 900] : List Int) 2) := hdep 3 rfl rfl 29 rfl
         obtain ⟨H, m⟩ := id hJ
         refine dp_cx wn (cx_call (hc64 b61) (ent_f (hc64 b61).fn (by show [look 35 ρ 28, look 35 ρ 29] = _; rw [e28, e29])) hn0 (H.sel' [3, 4, 0, 0, 1, 2, 4, 5, 6] rfl rfl : Hp S0 σ0 _ ([_, _, _] ++ _))) ?_
         rintro _ σq ⟨_, ⟨a65x, c66x, rfl, rfl⟩, H2, m2⟩
         exact ⟨_, (b61, a65x, c66x, b67), rfl, rfl, ⟨H2.sel' [0, 1, 2, 3, 4, 5, 6, 7] rfl rfl, m.comp m2⟩, stab [0, 1, 2, 3] (by kernel_rfl) ⟨rfl, rfl, rfl, rfl, trivial⟩⟩
        trivial) ?_
      refine all_cons (by
        refine ⟨?_, ?_⟩
        ·rintro ⟨b61, a65, c66, b67⟩ ρ σm hJ hoff hdep
         have e30 : look 35 ρ 30 = (I r62.1) := hdep 4 rfl rfl 30 rfl
         obtain ⟨H, m⟩ := id hJ
         refine dp_ex wn (ex_buildSlice (el := n0) (xs := ([r62.1] : List Int)) (ps := [(0, (I r62.1))]) (cs := [(I r62.1)]) H hn0 Try.underlying24 ti3 rfl (by show [(0, look 35 ρ 30)] = _; rw [e30]) (by kernel_rfl) (.cons (c := [(I r62.1)]) rfl (.nil)) rfl) ?_
         rintro _ σq ⟨b67x, rfl, H2, m2⟩
         exact ⟨_, (b61, a65, c66, b67x), rfl, rfl, ⟨H2.sel' [0, 1, 2, 3, 4, 5, 6, 7, 8] rfl rfl, m.comp0 m2⟩, stab [0, 1, 2, 3, 4] (by kernel_rfl) ⟨rfl, rfl, rfl, rfl, rfl, trivial⟩⟩
        trivial) ?_
      exact all_nil
     ·rintro ⟨b61, a65, c66, b67⟩ ρ σ68 hJ hoff hrel
      have e0 := look_off (N := 35) (hoff 0 rfl) rfl
      have e2 := look_off (N := 35) (hoff 2 rfl) rfl
      have e3 := look_off (N := 35) (hoff 3 rfl) rfl
      have e27 := hrel 1 rfl 27 rfl
      have e31 := hrel 5 rfl 31 rfl
      obtain ⟨H, -⟩ := (show Hp S0 σ0 σ68 [Ch.own n0 n0 (Sl (some ⟨b67, 0, none⟩) ([r62.1] : List Int) 1) ([r62.1] : List Int), Ch.bx Cv Cw Cy [(Sl a65 r62.2.1 c66), (I r62.2.2)] Cz Da, Ch.ro 0 (Sl a65 r62.2.1 c66) r62.2.1, Ch.ro 0 (Sl (some ⟨b61, 0, none⟩) ([0, 900] : List Int) 2) ([0, 900] : List Int), Ch.bx n0 b13 0 [(Sl a56 xs54 c57), (Sl a8 r3.1.2 c9)] [] [], Ch.own n0 n0 (Sl a56 xs54 c57) xs54, Ch.ro 0 (Sl a50 r45.2.1 c51) r45.2.1, Ch.own n0 n0 (Sl a8 r3.1.2 c9) r3.1.2, Ch.bx n0 b1 0 [(.slice none 0 0), (.slice none 0 0)] [] []] ∧ Md (fun i => (fun i => (cov []) i ∨ (fun i => (cov []) i ∨ (fun b => blk (Sl (some ⟨b61, 0, none⟩) ([0, 900] : List Int) 2) = some b) i) i) i ∨ (cov [Ch.bx Cv Cw Cy [(Sl a50 r45.2.1 c51), (I r45.2.2)] Cz Da, Ch.ro 0 (Sl a50 r45.2.1 c51) r45.2.1, Ch.ro 0 (Sl (some ⟨b61, 0, none⟩) ([0, 900] : List Int) 2) ([0, 900] : List Int)]) i) σ59 σ68 from hJ)
      clear hJ Hs
      rw [fr_lookL (L := [(0, (pt Cw Cy)), (2, (pt b1 0)), (3, (pt b13 0)), (27, (Sl a8 r3.1.2 c9)), (31, (Sl (some ⟨b67, 0, none⟩) ([r62.1] : List Int) 1))]) ⟨e0, e2, e3, e27, e31, trivial⟩]
      clear hoff hrel e0 e2 e3 e27 e31
      revert h; refine br fun xs69 hx70 h => ?_
      refine st_ex (ex_append H (i := 7) rfl Try.underlying24 Try.underlying24 ti3 rfl rfl (by decide) (H.own 0 rfl).rd hx70 hn0 rfl rfl) wn ?_
      rintro _ σ73 ⟨a71, c72, rfl, H, -⟩
      replace H : Hp S0 σ0 σ73 [Ch.own n0 n0 (Sl a71 xs69 c72) xs69, Ch.bx Cv Cw Cy [(Sl a65 r62.2.1 c66), (I r62.2.2)] Cz Da, Ch.ro 0 (Sl a65 r62.2.1 c66) r62.2.1, Ch.bx n0 b13 0 [(Sl a56 xs54 c57), (Sl a8 r3.1.2 c9)] [] [], Ch.own n0 n0 (Sl a56 xs54 c57) xs54, Ch.bx n0 b1 0 [(.slice none 0 0), (.slice none 0 0)] [] []] := H.sel' [0, 2, 3, 5, 6, 8] rfl rfl
      refine st (v := (pt b13 1)) (rv_fieldAddr (off := 1) (ft := 24) Try.underlying26 rfl ti24 rfl rfl) ?_
      refine st_exS (ex_store_box (k := 1) (cs := [(Sl a56 xs54 c57), (Sl a8 r3.1.2 c9)]) (vs := [(Sl a71 xs69 c72)]) (cs' := [(Sl a56 xs54 c57), (Sl a71 xs69 c72)]) H (i := 3) rfl ti24 rfl rfl rfl rfl rfl (Nat.le_of_ble_eq_true rfl) (by simp [plain]) rfl) wn ?_
      rintro σ74 ⟨H, -⟩
      refine w_end (q_blk ?_)
      obtain rfl := sj h
      exact ⟨rfl, _, σ74, a65, c66, a56, c57, a71, c72, fr_join ⟨rfl, rfl, rfl, trivial⟩, rfl, H.sel' [2, 3, 0, 4, 1, 5] rfl rfl⟩
   ·replace h := bif_f hb43 h
    refine c_skip (q_blk ?_)
    obtain rfl := sj h
    exact ⟨rfl, _, σ21, a19, c20, a6, c7, a8, c9, fr_join ⟨rfl, rfl, rfl, trivial⟩, rfl, H.sel' [0, 1, 2, 3, 4, 5] rfl rfl⟩
 ·clear hj
  have h := h'
  clear h' H
  rintro e a w ⟨rfl, ρ, σ75, a76, c77, a78, c79, a80, c81, rfl, rfl, H⟩
  refine q_then (c_seq (rg ?_))
  have hc82 := H.cells 2 rfl
  refine st (v := (.agg #[(Sl a78 o22.2.1 c79), (Sl a80 o22.2.2 c81)])) (rv_load (cs := [(Sl a78 o22.2.1 c79), (Sl a80 o22.2.2 c81)]) Try.underlying26 rfl ti26 rfl rfl hc82) ?_
  refine st_exS (ex_store_box (k := 0) (cs := [(.slice none 0 0), (.slice none 0 0)]) (vs := [(Sl a78 o22.2.1 c79), (Sl a80 o22.2.2 c81)]) (cs' := [(Sl a78 o22.2.1 c79), (Sl a80 o22.2.2 c81)]) H (i := 5) rfl ti26 rfl rfl rfl rfl rfl (Nat.le_of_ble_eq_true rfl) (by simp [plain]) rfl) wn ?_
  rintro σ83 ⟨H, -⟩
  refine w_end (q_then (c_ret ?_))
  obtain rfl := sj h
  exact fin_ret (v := (.agg #[(Sl a78 o22.2.1 c79), (Sl a80 o22.2.2 c81)])) (results_ok Try.results40 (res_cell rfl (run_cellRes (cs := [(Sl a78 o22.2.1 c79), (Sl a80 o22.2.2 c81)]) Try.underlying26 rfl ti26 rfl (H.cells 0 rfl)) res_nil) rfl) ⟨a78, c79, a80, c81, a76, c77, rfl, rfl⟩ (H.sel' [4, 5, 1, 2] rfl rfl)

theorem c_spec_newReader {Dh : List UInt8} {Di : Option Addr} {Dj : Nat} {r : ((List UInt8) × Int)} (h : M.spec_newReader Dh = some r) :
    Cal2 Try.prog 41 [(Sl Di Dh Dj)] [Ch.ro 0 (Sl Di Dh Dj) Dh] (fun n0 v L => ∃ (bz1 : Nat), ∃ (az2 : Option Addr), ∃ (cz3 : Nat), v = (pt bz1 0) ∧ L = [Ch.bx n0 bz1 0 [(Sl az2 r.1 cz3), (I r.2)] [] [], Ch.ro 0 (Sl az2 r.1 cz3) r.1]) := by
 refine cal2 (n := 11) Try.func41 rfl rfl rfl rfl ?_
 intro S0 σ0 n0 hn0 H
 unfold M.spec_newReader at h
 refine c_seq (rg (sa (.pointer none) rfl (w_end (q_then (c_seq (c_seq (rg (sm (Sl Di Dh Dj) rfl (st (v := (I (Dh.length : Int))) (rv_len Try.underlying22 rfl) (st (v := (B (decide (2000 < (Dh.length : Int))))) (rv_gtr (a := (Dh.length : Int)) (b := 2000) rfl rfl) (w_end ?_)))))))))))
 refine q_then ?_
 obtain ⟨o1, hj, h'⟩ := bind_some h
 clear h
 refine c_cut (fun e a w => e = .normal ∧ ∃ (ρ : Nat → Value) (σ : St) (aj1 : Option Addr) (cj2 : Nat), a = fr 11 (updL ρ [(0, (Sl aj1 o1 cj2))]) ∧ w = σ.w ∧ Hp S0 σ0 σ [Ch.ro 0 (Sl aj1 o1 cj2) o1]) ?_ ?_
 ·clear h'
  rename _ = some o1 => h
  refine cd_cond (decide (2000 < (Dh.length : Int))) rfl (fun hb2 => ?_) (fun hb2 => ?_)
  ·replace h := bif_t hb2 h
   refine rg (sm (Sl Di Dh Dj) rfl ?_)
   revert h; refine br fun xs3 hx4 h => ?_
   obtain ⟨a5, c6, hs7, hR8⟩ := (H.ro 0 rfl).slice hx4
   replace H := H.add (d := Ch.ro 0 (Sl a5 xs3 c6) xs3) hR8 (fun _ h => h)
   clear hR8
   refine st (v := (Sl a5 xs3 c6)) (rv_slice_h Try.underlying22 ti5 hs7 rfl rfl) (sa (Sl a5 xs3 c6) rfl (w_end ?_))
   obtain rfl := sj h
   exact ⟨rfl, _, σ0, a5, c6, fr_join ⟨rfl, trivial⟩, rfl, H.sel' [0] rfl rfl⟩
  ·replace h := bif_f hb2 h
   refine c_skip ?_
   obtain rfl := sj h
   exact ⟨rfl, _, σ0, Di, Dj, fr_join ⟨rfl, trivial⟩, rfl, H.sel' [0] rfl rfl⟩
 ·clear hj
  have h := h'
  clear h' H
  rintro e a w ⟨rfl, ρ, σ9, a10, c11, rfl, rfl, H⟩
  refine q_then (c_seq (rg (sm (Sl a10 o1 c11) rfl ?_)))
  refine st (v := (.agg #[(Sl a10 o1 c11), (I 0)])) (rv_build (ps := [(0, (Sl a10 o1 c11))]) Try.underlying101 ti101 (bp101 Try.underlying101) rfl (by kernel_rfl)) ?_
  refine st_ex (ex_box (cs := [(Sl a10 o1 c11), (I 0)]) H hn0 rfl rfl) wn ?_
  rintro _ σ13 ⟨b12, rfl, H, -⟩
  refine sa (pt b12 0) rfl (w_end (q_then (c_ret ?_)))
  obtain rfl := sj h
  exact fin_ret (v := (pt b12 0)) (results_ok Try.results41 (res_tmp (v := (pt b12 0)) rfl res_nil) rfl) ⟨b12, a10, c11, rfl, rfl⟩ (H.sel' [0, 1] rfl rfl)

theorem c_spec_historyTime {Cs : (List UInt8) × Int} {Dk : (List (Int × (Int × (List Int) × Int))) × (List Int)} {Ct : Option Addr} {Cu : Nat} {Cv Cw Cy : Nat} {Cz Da : List Value} {Dm : Option Addr} {Dn : Nat} {Do : Option Addr} {Dq : Nat} {r : Int × ((List UInt8) × Int)} (h : M.spec_historyTime Cs Dk = some r) :
    Cal2 Try.prog 45 [(pt Cw Cy), (.agg #[(Sl Dm Dk.1 Dn), (Sl Do Dk.2 Dq)])] [Ch.bx Cv Cw Cy [(Sl Ct Cs.1 Cu), (I Cs.2)] Cz Da, Ch.ro 0 (Sl Ct Cs.1 Cu) Cs.1, Ch.ro 0 (Sl Dm Dk.1 Dn) Dk.1, Ch.ro 0 (Sl Do Dk.2 Dq) Dk.2] (fun n0 v L => ∃ (az1 : Option Addr), ∃ (cz2 : Nat), v = (I r.1) ∧ L = [Ch.bx Cv Cw Cy [(Sl az1 r.2.1 cz2), (I r.2.2)] Cz Da, Ch.ro 0 (Sl az1 r.2.1 cz2) r.2.1]) := by
 refine cal2 (n := 30) Try.func45 rfl rfl rfl rfl ?_
 intro S0 σ0 n0 hn0 H
 unfold M.spec_historyTime at h
 refine c_seq (rg (st_ex (ex_box (cs := [(Sl Dm Dk.1 Dn), (Sl Do Dk.2 Dq)]) H hn0 rfl rfl) wn ?_))
 rintro _ σ2 ⟨b1, rfl, H, -⟩
 refine sa (I 0) rfl (w_end (q_then (c_seq (c_seq ?_))))
 obtain ⟨o3, hj, h'⟩ := bind_some h
 clear h
 refine c_cut (fun e a w => e = .normal ∧ ∃ (ρ : Nat → Value) (σ : St) (aj1 : Option Addr) (cj2 : Nat), a = fr 30 (updL ρ [(0, (pt Cw Cy)), (3, (pt b1 0)), (13, (B o3.2))]) ∧ w = σ.w ∧ Hp S0 σ0 σ [Ch.bx Cv Cw Cy [(Sl aj1 o3.1.1 cj2), (I o3.1.2)] Cz Da, Ch.ro 0 (Sl aj1 o3.1.1 cj2) o3.1.1, Ch.ro 0 (Sl Dm Dk.1 Dn) Dk.1, Ch.ro 0 (Sl Do Dk.2 Dq) Dk.2, Ch.bx n0 b1 0 [(Sl Dm Dk.1 Dn), (Sl Do Dk.2 Dq)] [] []]) ?_ ?_
 ·clear h'
  rename _ = some o3 => h
  refine rg (st (v := (pt b1 1)) (rv_fieldAddr (off := 1) (ft := 24) Try.underlying26 rfl ti24 rfl rfl) ?_)
  have hc4 := H.cell (u := (Sl Do Dk.2 Dq)) (o' := 1) 0 1 rfl rfl rfl
  refine st (v := (Sl Do Dk.2 Dq)) (rv_load1 Try.underlying24 rfl rfl hc4) (st (v := (I (Dk.2.length : Int))) (rv_len Try.underlying24 rfl) (st (v := (B (decide (0 < (Dk.2.length : Int))))) (rv_gtr (a := (Dk.2.length : Int)) (b := 0) rfl rfl) (sm (B (decide (0 < (Dk.2.length : Int)))) rfl ?_)))
  rcases Bool.eq_false_or_eq_true (decide (0 < (Dk.2.length : Int))) with hb5 | hb5
  ·replace h := bif_t hb5 h
   refine st_g (v := (pt Cw Cy)) (congrArg some hb5) (rv_move rfl) ?_
   revert h; refine br fun r6 hx7 h => ?_
   have hc8 := c_spec_reader_pick (Cv := Cv) (Cw := Cw) (Cy := Cy) (Cz := Cz) (Da := Da) (Ct := Ct) (Cu := Cu) hx7
   refine st_call (cx_call hc8 (ent_f hc8.fn rfl) hn0 (H.sel' [1, 2, 0, 2, 3, 4] rfl rfl : Hp S0 σ0 _ ([_, _] ++ _))) (wanted_yes rfl (by exact (congrArg some hb5))) ?_
   rintro _ σ11 ⟨_, ⟨a9, c10, rfl, rfl⟩, H, -⟩
   replace H : Hp _ _ _ [_, _, _, _, _, _] := H
   refine st_g (v := (B (decide (0 < r6.1)))) (congrArg some hb5) (rv_gtr (a := r6.1) (b := 0) rfl rfl) (st (v := (B (decide (0 < r6.1)))) (rv_pick_t (congrArg B hb5) rfl) (w_end ?_))
   obtain rfl := sj h
   exact ⟨rfl, _, σ11, a9, c10, fr_join ⟨rfl, rfl, rfl, trivial⟩, rfl, H.sel' [0, 1, 4, 5, 2] rfl rfl⟩
  ·replace h := bif_f hb5 h
   refine st_skip (congrArg some hb5) (st_skip (congrArg some hb5) (st_skip (congrArg some hb5) (st (v := (B false)) (rv_pick_f (congrArg B hb5) rfl) (w_end ?_))))
   obtain rfl := sj h
   exact ⟨rfl, _, σ2, Ct, Cu, fr_join ⟨rfl, rfl, rfl, trivial⟩, rfl, H.sel' [1, 2, 3, 4, 0] rfl rfl⟩
 ·clear hj
  have h := h'
  clear h' H
  rintro e a w ⟨rfl, ρ, σ12, a13, c14, rfl, rfl, H⟩
  refine q_then ?_
  refine cd_cond o3.2 rfl (fun hb15 => ?_) (fun hb15 => ?_)
  ·replace h := bif_t hb15 h
   refine c_seq ?_
   have hc16 := H.cell (u := (Sl Do Dk.2 Dq)) (o' := 1) 4 1 rfl rfl rfl
   have hc17 := H.cell (u := (Sl Do Dk.2 Dq)) (o' := 1) 4 1 rfl rfl rfl
   revert h; refine br fun r18 hx19 h => ?_
   have hc20 := c_spec_reader_pick (Cv := Cv) (Cw := Cw) (Cy := Cy) (Cz := Cz) (Da := Da) (Ct := a13) (Cu := c14) hx19
   revert h; refine br fun x23 hx24 h => ?_
   obtain ⟨b26, o27, hi25, -⟩ := (H.ro 3 rfl).ix hx24
   have hc28 := ((H.ro 3 rfl).at hx24 hi25).int
   revert h; refine br fun r30 hx31 h => ?_
   have hc32 := fun (a21 : Option Addr) (c22 : Nat) (b29 : Nat) => c_spec_reader_one (Cv := Cv) (Cw := Cw) (Cy := Cy) (Cz := Cz) (Da := Da) (Ct := a21) (Cu := c22) (Bk := (some ⟨b29, 0, none⟩)) (Bl := 4) hx31
   have Hs := H
   refine rg2 (σ := σ12) (Nm := (Option Addr) × (Nat) × (Nat) × (Option Addr) × (Nat)) 12 [6, 10, 11] [[false, false, false], [true, false, false], [false, true, false], [true, true, false], [true, true, true]] [[(0, 0), (1, 1), (2, 2), (3, 3), (4, 4)], [(0, 0), (1, 1), (2, 2), (3, 3), (4, 4)], [(0, 0), (2, 2)], [(0, 0), (2, 2)], [(0, 0), (2, 2)], [(0, 0), (2, 2)], [(0, 1), (2, 3)], [(1, 1), (3, 3), (4, 4)], [(1, 1), (3, 3), (4, 4)], [(0, 0), (1, 1), (2, 2), (3, 3)], [(0, 2), (1, 3)], [(3, 4)]] 4 [fun ((a21, c22, b29, a33, c34) : (Option Addr) × (Nat) × (Nat) × (Option Addr) × (Nat)) => fun σm => Hp S0 σ0 σm [Ch.bx Cv Cw Cy [(Sl a13 o3.1.1 c14), (I o3.1.2)] Cz Da, Ch.ro 0 (Sl a13 o3.1.1 c14) o3.1.1, Ch.ro 0 (Sl Dm Dk.1 Dn) Dk.1, Ch.ro 0 (Sl Do Dk.2 Dq) Dk.2, Ch.bx n0 b1 0 [(Sl Dm Dk.1 Dn), (Sl Do Dk.2 Dq)] [] []] ∧ Md (cov []) σ12 σm, fun ((a21, c22, b29, a33, c34) : (Option Addr) × (Nat) × (Nat) × (Option Addr) × (Nat)) => fun σm => Hp S0 σ0 σm [Ch.bx Cv Cw Cy [(Sl a21 r18.2.1 c22), (I r18.2.2)] Cz Da, Ch.ro 0 (Sl a21 r18.2.1 c22) r18.2.1, Ch.ro 0 (Sl a13 o3.1.1 c14) o3.1.1, Ch.ro 0 (Sl Dm Dk.1 Dn) Dk.1, Ch.ro 0 (Sl Do Dk.2 Dq) Dk.2, Ch.bx n0 b1 0 [(Sl Dm Dk.1 Dn), (Sl Do Dk.2 Dq)] [] []] ∧ Md (fun i => (cov []) i ∨ (cov [Ch.bx Cv Cw Cy [(Sl a13 o3.1.1 c14), (I o3.1.2)] Cz Da, Ch.ro 0 (Sl a13 o3.1.1 c14) o3.1.1]) i) σ12 σm, fun ((a21, c22, b29, a33, c34) : (Option Addr) × (Nat) × (Nat) × (Option Addr) × (Nat)) => fun σm => Hp S0 σ0 σm [Ch.ro 0 (Sl (some ⟨b29, 0, none⟩) ([0, 0, -1, 1] : List Int) 4) ([0, 0, -1, 1] : List Int), Ch.bx Cv Cw Cy [(Sl a13 o3.1.1 c14), (I o3.1.2)] Cz Da, Ch.ro 0 (Sl a13 o3.1.1 c14) o3.1.1, Ch.ro 0 (Sl Dm Dk.1 Dn) Dk.1, Ch.ro 0 (Sl Do Dk.2 Dq) Dk.2, Ch.bx n0 b1 0 [(Sl Dm Dk.1 Dn), (Sl Do Dk.2 Dq)] [] []] ∧ Md (fun i => (cov []) i ∨ (fun i => (cov []) i ∨ (fun b => blk (Sl (some ⟨b29, 0, none⟩) ([0, 0, -1, 1] : List Int) 4) = some b) i) i) σ12 σm, fun ((a21, c22, b29, a33, c34) : (Option Addr) × (Nat) × (Nat) × (Option Addr) × (Nat)) => fun σm => Hp S0 σ0 σm [Ch.ro 0 (Sl (some ⟨b29, 0, none⟩) ([0, 0, -1, 1] : List Int) 4) ([0, 0, -1, 1] : List Int), Ch.bx Cv Cw Cy [(Sl a21 r18.2.1 c22), (I r18.2.2)] Cz Da, Ch.ro 0 (Sl a21 r18.2.1 c22) r18.2.1, Ch.ro 0 (Sl a13 o3.1.1 c14) o3.1.1, Ch.ro 0 (Sl Dm Dk.1 Dn) Dk.1, Ch.ro 0 (Sl Do Dk.2 Dq) Dk.2, Ch.bx n0 b1 0 [(Sl Dm Dk.1 Dn), (Sl Do Dk.2 Dq)] [] []] ∧ Md (fun i => (fun i => (cov []) i ∨ (cov [Ch.bx Cv Cw Cy [(Sl a13 o3.1.1 c14), (I o3.1.2)] Cz Da, Ch.ro 0 (Sl a13 o3.1.1 c14) o3.1.1]) i) i ∨ (fun i => (cov []) i ∨ (fun b => blk (Sl (some ⟨b29, 0, none⟩) ([0, 0, -1, 1] : List Int) 4) = some b) i) i) σ12 σm, fun ((a21, c22, b29, a33, c34) : (Option Addr) × (Nat) × (Nat) × (Option Addr) × (Nat)) => fun σm => Hp S0 σ0 σm [Ch.bx Cv Cw Cy [(Sl a33 r30.2.1 c34), (I r30.2.2)] Cz Da, Ch.ro 0 (Sl a33 r30.2.1 c34) r30.2.1, Ch.ro 0 (Sl (some ⟨b29, 0, none⟩) ([0, 0, -1, 1] : List Int) 4) ([0, 0, -1, 1] : List Int), Ch.ro 0 (Sl a21 r18.2.1 c22) r18.2.1, Ch.ro 0 (Sl a13 o3.1.1 c14) o3.1.1, Ch.ro 0 (Sl Dm Dk.1 Dn) Dk.1, Ch.ro 0 (Sl Do Dk.2 Dq) Dk.2, Ch.bx n0 b1 0 [(Sl Dm Dk.1 Dn), (Sl Do Dk.2 Dq)] [] []] ∧ Md (fun i => (fun i => (fun i => (cov []) i ∨ (cov [Ch.bx Cv Cw Cy [(Sl a13 o3.1.1 c14), (I o3.1.2)] Cz Da, Ch.ro 0 (Sl a13 o3.1.1 c14) o3.1.1]) i) i ∨ (fun i => (cov []) i ∨ (fun b => blk (Sl (some ⟨b29, 0, none⟩) ([0, 0, -1, 1] : List Int) 4) = some b) i) i) i ∨ (cov [Ch.bx Cv Cw Cy [(Sl a21 r18.2.1 c22), (I r18.2.2)] Cz Da, Ch.ro 0 (Sl a21 r18.2.1 c22) r18.2.1, Ch.ro 0 (Sl (some ⟨b29, 0, none⟩) ([0, 0, -1, 1] : List Int) 4) ([0, 0, -1, 1] : List Int)]) i) σ12 σm] [fun ((a21, c22, b29, a33, c34) : (Option Addr) × (Nat) × (Nat) × (Option Addr) × (Nat)) => (pt b1 1), fun ((a21, c22, b29, a33, c34) : (Option Addr) × (Nat) × (Nat) × (Option Addr) × (Nat)) => (Sl Do Dk.2 Dq), fun ((a21, c22, b29, a33, c34) : (Option Addr) × (Nat) × (Nat) × (Option Addr) × (Nat)) => (pt Cw Cy), fun ((a21, c22, b29, a33, c34) : (Option Addr) × (Nat) × (Nat) × (Option Addr) × (Nat)) => (pt b1 1), fun ((a21, c22, b29, a33, c34) : (Option Addr) × (Nat) × (Nat) × (Option Addr) × (Nat)) => (Sl Do Dk.2 Dq), fun ((a21, c22, b29, a33, c34) : (Option Addr) × (Nat) × (Nat) × (Option Addr) × (Nat)) => (I (Dk.2.length : Int)), fun ((a21, c22, b29, a33, c34) : (Option Addr) × (Nat) × (Nat) × (Option Addr) × (Nat)) => (I r18.1), fun ((a21, c22, b29, a33, c34) : (Option Addr) × (Nat) × (Nat) × (Option Addr) × (Nat)) => (pt b26 o27), fun ((a21, c22, b29, a33, c34) : (Option Addr) × (Nat) × (Nat) × (Option Addr) × (Nat)) => (I x23), fun ((a21, c22, b29, a33, c34) : (Option Addr) × (Nat) × (Nat) × (Option Addr) × (Nat)) => (pt Cw Cy), fun ((a21, c22, b29, a33, c34) : (Option Addr) × (Nat) × (Nat) × (Option Addr) × (Nat)) => (Sl (some ⟨b29, 0, none⟩) ([0, 0, -1, 1] : List Int) 4), fun ((a21, c22, b29, a33, c34) : (Option Addr) × (Nat) × (Nat) × (Option Addr) × (Nat)) => (I r30.1)] (none, 0, 0, none, 0) (by kernel_rfl) (by kernel_rfl) ?_ ?_ ?_
   ·intro σm m0
    exact ⟨H.grow (m0.mono fun _ h => h.elim), m0⟩
   ·refine ac rfl (by
      intro k; rintro ⟨a21, c22, b29, a33, c34⟩ ρ σm hJ hoff hdep
      have e3 := look_off (N := 30) (hoff 3 rfl) rfl
      exact dp_v (v := (pt b1 1)) wn (rv_fieldAddr (off := 1) (ft := 24) Try.underlying26 rfl ti24 rfl e3) rfl hJ) ?_
    refine all_cons (by
      refine ⟨?_, ?_⟩
      ·rintro ⟨a21, c22, b29, a33, c34⟩ ρ σm hJ hoff hdep
       have e14 := hdep 0 rfl rfl 14 rfl
       obtain ⟨H, m⟩ := id hJ
       have hc16 := H.cell (u := (Sl Do Dk.2 Dq)) (o' := 1) 4 1 rfl rfl rfl
       exact dp_v (v := (Sl Do Dk.2 Dq)) wn (rv_load1 Try.underlying24 rfl e14 hc16) rfl hJ
      refine ⟨?_, ?_⟩
      ·rintro ⟨a21, c22, b29, a33, c34⟩ ρ σm hJ hoff hdep
       have e14 := hdep 0 rfl rfl 14 rfl
       obtain ⟨H, m⟩ := id hJ
       have hc16 := H.cell (u := (Sl Do Dk.2 Dq)) (o' := 1) 5 1 rfl rfl rfl
       exact dp_v (v := (Sl Do Dk.2 Dq)) wn (rv_load1 Try.underlying24 rfl e14 hc16) rfl hJ
      refine ⟨?_, ?_⟩
      ·rintro ⟨a21, c22, b29, a33, c34⟩ ρ σm hJ hoff hdep
       have e14 := hdep 0 rfl rfl 14 rfl
       obtain ⟨H, m⟩ := id hJ
       have hc16 := H.cell (u := (Sl Do Dk.2 Dq)) (o' := 1) 5 1 rfl rfl rfl
       exact dp_v (v := (Sl Do Dk.2 Dq)) wn (rv_load1 Try.underlying24 rfl e14 hc16) rfl hJ
      refine ⟨?_, ?_⟩
      ·rintro ⟨a21, c22, b29, a33, c34⟩ ρ σm hJ hoff hdep
       have e14 := hdep 0 rfl rfl 14 rfl
       obtain ⟨H, m⟩ := id hJ
       have hc16 := H.cell (u := (Sl Do Dk.2 Dq)) (o' := 1) 6 1 rfl rfl rfl
       exact dp_v (v := (Sl Do Dk.2 Dq)) wn (rv_load1 Try.underlying24 rfl e14 hc16) rfl hJ
      refine ⟨?_, ?_⟩
      ·rintro ⟨a21, c22, b29, a33, c34⟩ ρ σm hJ hoff hdep
       have e14 := hdep 0 rfl rfl 14 rfl
       obtain ⟨H, m⟩ := id hJ
       have hc16 := H.cell (u := (Sl Do Dk.2 Dq)) (o' := 1) 7 1 rfl rfl rfl
       exact dp_v (v := (Sl Do Dk.2 Dq)) wn (rv_load1 Try.underlying24 rfl e14 hc16) rfl hJ
      trivial) ?_
    refine ac rfl (by
      intro k; rintro ⟨a21, c22, b29, a33, c34⟩ ρ σm hJ hoff hdep
      have e0 := look_off (N := 30) (hoff 0 rfl) rfl
      exact dp_v (v := (pt Cw Cy)) wn (rv_move e0) rfl hJ) ?_
    refine ac rfl (by
      intro k; rintro ⟨a21, c22, b29, a33, c34⟩ ρ σm hJ hoff hdep
      have e3 := look_off (N := 30) (hoff 3 rfl) rfl
      exact dp_v (v := (pt b1 1)) wn (rv_fieldAddr (off := 1) (ft := 24) Try.underlying26 rfl ti24 rfl e3) rfl hJ) ?_
    refine all_cons (by
      refine ⟨?_, ?_⟩
      ·rintro ⟨a21, c22, b29, a33, c34⟩ ρ σm hJ hoff hdep
       have e17 := hdep 3 rfl rfl 17 rfl
       obtain ⟨H, m⟩ := id hJ
       have hc17 := H.cell (u := (Sl Do Dk.2 Dq)) (o' := 1) 4 1 rfl rfl rfl
       exact dp_v (v := (Sl Do Dk.2 Dq)) wn (rv_load1 Try.underlying24 rfl e17 hc17) rfl hJ
      refine ⟨?_, ?_⟩
      ·rintro ⟨a21, c22, b29, a33, c34⟩ ρ σm hJ hoff hdep
       have e17 := hdep 3 rfl rfl 17 rfl
       obtain ⟨H, m⟩ := id hJ
       have hc17 := H.cell (u := (Sl Do Dk.2 Dq)) (o' := 1) 5 1 rfl rfl rfl
       exact dp_v (v := (Sl Do Dk.2 Dq)) wn (rv_load1 Try.underlying24 rfl e17 hc17) rfl hJ
      trivial) ?_
    refine ac rfl (by
      intro k; rintro ⟨a21, c22, b29, a33, c34⟩ ρ σm hJ hoff hdep
      have e18 := hdep 4 rfl rfl 18 rfl
      exact dp_v (v := (I (Dk.2.length : Int))) wn (rv_len Try.underlying24 e18) rfl hJ) ?_
    refine all_cons (by
      refine ⟨?_, ?_⟩
      ·rintro ⟨a21, c22, b29, a33, c34⟩ ρ σm hJ hoff hdep
       have e16 : look 30 ρ 16 = (pt Cw Cy) := hdep 2 rfl rfl 16 rfl
       have e19 : look 30 ρ 19 = (I (Dk.2.length : Int)) := hdep 5 rfl rfl 19 rfl
       obtain ⟨H, m⟩ := id hJ
       refine dp_cx wn (cx_call hc20 (ent_f hc20.fn (by show [look 30 ρ 16, look 30 ρ 19] = _; rw [e16, e19])) hn0 (H.sel' [0, 1, 1, 2, 3, 4] rfl rfl : Hp S0 σ0 _ ([_, _] ++ _))) ?_
       rintro _ σq ⟨_, ⟨a21x, c22x, rfl, rfl⟩, H2, m2⟩
       exact ⟨_, (a21x, c22x, b29, a33, c34), rfl, rfl, ⟨H2.sel' [0, 1, 2, 3, 4, 5] rfl rfl, m.comp m2⟩, stab [0, 1, 2, 3, 4, 5, 9, 10] (by kernel_rfl) ⟨rfl, rfl, rfl, rfl, rfl, rfl, rfl, rfl, trivial⟩⟩
      refine ⟨?_, ?_⟩
      ·rintro ⟨a21, c22, b29, a33, c34⟩ ρ σm hJ hoff hdep
       have e16 : look 30 ρ 16 = (pt Cw Cy) := hdep 2 rfl rfl 16 rfl
       have e19 : look 30 ρ 19 = (I (Dk.2.length : Int)) := hdep 5 rfl rfl 19 rfl
       obtain ⟨H, m⟩ := id hJ
       refine dp_cx wn (cx_call hc20 (ent_f hc20.fn (by show [look 30 ρ 16, look 30 ρ 19] = _; rw [e16, e19])) hn0 (H.sel' [1, 2, 0, 2, 3, 4, 5] rfl rfl : Hp S0 σ0 _ ([_, _] ++ _))) ?_
       rintro _ σq ⟨_, ⟨a21x, c22x, rfl, rfl⟩, H2, m2⟩
       exact ⟨_, (a21x, c22x, b29, a33, c34), rfl, rfl, ⟨H2.sel' [2, 0, 1, 3, 4, 5, 6] rfl rfl, (m.comp m2).mono (fun i h => Or.elim h (fun h => Or.elim h (fun h => (Or.inl (Or.inl h))) (fun h => (Or.inr h))) (fun h => (Or.inl (Or.inr h))))⟩, stab [0, 1, 2, 3, 4, 5, 9, 10] (by kernel_rfl) ⟨rfl, rfl, rfl, rfl, rfl, rfl, rfl, rfl, trivial⟩⟩
      trivial) ?_
    refine ac rfl (by
      intro k; rintro ⟨a21, c22, b29, a33, c34⟩ ρ σm hJ hoff hdep
      have e15 := hdep 1 rfl rfl 15 rfl
      have e20 := hdep 6 rfl rfl 20 rfl
      exact dp_v (v := (pt b26 o27)) wn (rv_ix Try.underlying24 ti3 e15 e20 hi25) rfl hJ) ?_
    refine all_cons (by
      refine ⟨?_, ?_⟩
      ·rintro ⟨a21, c22, b29, a33, c34⟩ ρ σm hJ hoff hdep
       have e21 := hdep 7 rfl rfl 21 rfl
       obtain ⟨H, m⟩ := id hJ
       replace hc28 := (Hs.ro 3 rfl).hmd hx24 hi25 (k := 0) (by decide) hc28 m
       exact dp_v (v := (I x23)) wn (rv_load1 Try.underlying3 rfl e21 hc28) rfl hJ
      refine ⟨?_, ?_⟩
      ·rintro ⟨a21, c22, b29, a33, c34⟩ ρ σm hJ hoff hdep
       have e21 := hdep 7 rfl rfl 21 rfl
       obtain ⟨H, m⟩ := id hJ
       replace hc28 := (Hs.ro 3 rfl).hmd hx24 hi25 (k := 0) (by decide) hc28 m
       exact dp_v (v := (I x23)) wn (rv_load1 Try.underlying3 rfl e21 hc28) rfl hJ
      refine ⟨?_, ?_⟩
      ·rintro ⟨a21, c22, b29, a33, c34⟩ ρ σm hJ hoff hdep
       have e21 := hdep 7 rfl rfl 21 rfl
       obtain ⟨H, m⟩ := id hJ
       replace hc28 := (Hs.ro 3 rfl).hmd hx24 hi25 (k := 0) (by decide) hc28 m
       exact dp_v (v := (I x23)) wn (rv_load1 Try.underlying3 rfl e21 hc28) rfl hJ
      trivial) ?_
    refine ac rfl (by
      intro k; rintro ⟨a21, c22, b29, a33, c34⟩ ρ σm hJ hoff hdep
      have e0 := look_off (N := 30) (hoff 0 rfl) rfl
      exact dp_v (v := (pt Cw Cy)) wn (rv_move e0) rfl hJ) ?_
    refine all_cons (by
      refine ⟨?_, ?_⟩
      ·rintro ⟨a21, c22, b29, a33, c34⟩ ρ σm hJ hoff hdep
       obtain ⟨H, m⟩ := id hJ
       refine dp_ex wn (ex_buildSlice (el := 0) (xs := ([0, 0, -1, 1] : List Int)) (ps := [(0, (I 0)), (1, (I 0)), (2, (I (-1))), (3, (I 1))]) (cs := [(I 0), (I 0), (I (-1)), (I 1)]) H hn0 Try.underlying24 ti3 rfl rfl (by kernel_rfl) (.cons (c := [(I 0)]) rfl (.cons (c := [(I 0)]) rfl (.cons (c := [(I (-1))]) rfl (.cons (c := [(I 1)]) rfl (.nil))))) rfl) ?_
       rintro _ σq ⟨b29x, rfl, H2, m2⟩
       obtain ⟨σr0, hwr0, H2, mr0⟩ := H2.pub 0 rfl (Nat.zero_le _)
       exact ⟨_, (a21, c22, b29x, a33, c34), hwr0, rfl, ⟨H2.sel' [0, 1, 2, 3, 4, 5] rfl rfl, m.comp (m2.comp mr0)⟩, stab [0, 1, 2, 3, 4, 5, 6, 7, 8, 9] (by kernel_rfl) ⟨rfl, rfl, rfl, rfl, rfl, rfl, rfl, rfl, rfl, rfl, trivial⟩⟩
      refine ⟨?_, ?_⟩
      ·rintro ⟨a21, c22, b29, a33, c34⟩ ρ σm hJ hoff hdep
       obtain ⟨H, m⟩ := id hJ
       refine dp_ex wn (ex_buildSlice (el := 0) (xs := ([0, 0, -1, 1] : List Int)) (ps := [(0, (I 0)), (1, (I 0)), (2, (I (-1))), (3, (I 1))]) (cs := [(I 0), (I 0), (I (-1)), (I 1)]) H hn0 Try.underlying24 ti3 rfl rfl (by kernel_rfl) (.cons (c := [(I 0)]) rfl (.cons (c := [(I 0)]) rfl (.cons (c := [(I (-1))]) rfl (.cons (c := [(I 1)]) rfl (.nil))))) rfl) ?_
       rintro _ σq ⟨b29x, rfl, H2, m2⟩
       obtain ⟨σr0, hwr0, H2, mr0⟩ := H2.pub 0 rfl (Nat.zero_le _)
       exact ⟨_, (a21, c22, b29x, a33, c34), hwr0, rfl, ⟨H2.sel' [0, 1, 2, 3, 4, 5, 6] rfl rfl, m.comp (m2.comp mr0)⟩, stab [0, 1, 2, 3, 4, 5, 6, 7, 8, 9] (by kernel_rfl) ⟨rfl, rfl, rfl, rfl, rfl, rfl, rfl, rfl, rfl, rfl, trivial⟩⟩
      trivial) ?_
    refine all_cons (by
      refine ⟨?_, ?_⟩
      ·rintro ⟨a21, c22, b29, a33, c34⟩ ρ σm hJ hoff hdep
       have e23 : look 30 ρ 23 = (pt Cw Cy) := hdep 9 rfl rfl 23 rfl
       have e24 : look 30 ρ 24 = (Sl (some ⟨b29, 0, none⟩) ([0, 0, -1, 1] : List Int) 4) := hdep 10 rfl rfl 24 rfl
       obtain ⟨H, m⟩ := id hJ
       refine dp_cx wn (cx_call (hc32 a21 c22 b29) (ent_f (hc32 a21 c22 b29).fn (by show [look 30 ρ 23, look 30 ρ 24] = _; rw [e23, e24])) hn0 (H.sel' [1, 2, 0, 0, 2, 3, 4, 5, 6] rfl rfl : Hp S0 σ0 _ ([_, _, _] ++ _))) ?_
       rintro _ σq ⟨_, ⟨a33x, c34x, rfl, rfl⟩, H2, m2⟩
       exact ⟨_, (a21, c22, b29, a33x, c34x), rfl, rfl, ⟨H2.sel' [0, 1, 2, 3, 4, 5, 6, 7] rfl rfl, m.comp m2⟩, stab [0, 1, 2, 3, 4, 5, 6, 7, 8, 9, 10] (by kernel_rfl) ⟨rfl, rfl, rfl, rfl, rfl, rfl, rfl, rfl, rfl, rfl, rfl, trivial⟩⟩
      trivial) ?_
    exact all_nil
   ·rintro ⟨a21, c22, b29, a33, c34⟩ ρ σ35 hJ hoff hrel
    have e0 := look_off (N := 30) (hoff 0 rfl) rfl
    have e22 := hrel 8 rfl 22 rfl
    have e25 := hrel 11 rfl 25 rfl
    obtain ⟨H, -⟩ := (show Hp S0 σ0 σ35 [Ch.bx Cv Cw Cy [(Sl a33 r30.2.1 c34), (I r30.2.2)] Cz Da, Ch.ro 0 (Sl a33 r30.2.1 c34) r30.2.1, Ch.ro 0 (Sl (some ⟨b29, 0, none⟩) ([0, 0, -1, 1] : List Int) 4) ([0, 0, -1, 1] : List Int), Ch.ro 0 (Sl a21 r18.2.1 c22) r18.2.1, Ch.ro 0 (Sl a13 o3.1.1 c14) o3.1.1, Ch.ro 0 (Sl Dm Dk.1 Dn) Dk.1, Ch.ro 0 (Sl Do Dk.2 Dq) Dk.2, Ch.bx n0 b1 0 [(Sl Dm Dk.1 Dn), (Sl Do Dk.2 Dq)] [] []] ∧ Md (fun i => (fun i => (fun i => (cov []) i ∨ (cov [Ch.bx Cv Cw Cy [(Sl a13 o3.1.1 c14), (I o3.1.2)] Cz Da, Ch.ro 0 (Sl a13 o3.1.1 c14) o3.1.1]) i) i ∨ (fun i => (cov []) i ∨ (fun b => blk (Sl (some ⟨b29, 0, none⟩) ([0, 0, -1, 1] : List Int) 4) = some b) i) i) i ∨ (cov [Ch.bx Cv Cw Cy [(Sl a21 r18.2.1 c22), (I r18.2.2)] Cz Da, Ch.ro 0 (Sl a21 r18.2.1 c22) r18.2.1, Ch.ro 0 (Sl (some ⟨b29, 0, none⟩) ([0, 0, -1, 1] : List Int) 4) ([0, 0, -1, 1] : List Int)]) i) σ12 σ35 from hJ)
    clear hJ Hs
    rw [fr_lookL (L := [(0, (pt Cw Cy)), (22, (I x23)), (25, (I r30.1))]) ⟨e0, e22, e25, trivial⟩]
    clear hoff hrel e0 e22 e25
    refine st (v := (I (w64 (x23 + r30.1)))) (rv_add (a := x23) (b := r30.1) rfl rfl) (sa (I (w64 (x23 + r30.1))) rfl (w_end (q_then (c_ret (q_then_r ?_)))))
    obtain rfl := sj h
    exact fin_ret (v := (I (w64 (x23 + r30.1)))) (results_ok Try.results45 (res_tmp (v := (I (w64 (x23 + r30.1)))) rfl res_nil) rfl) ⟨a33, c34, rfl, rfl⟩ (H.sel' [0, 1] rfl rfl)
  ·replace h := bif_f hb15 h
   refine c_skip (q_then (c_seq (rg (sm (pt Cw Cy) rfl ?_))))
   refine st_ex (ex_buildSlice (el := n0) (xs := ([0, 1000, 1001, -1, 50] : List Int)) (ps := [(0, (I 0)), (1, (I 1000)), (2, (I 1001)), (3, (I (-1))), (4, (I 50))]) (cs := [(I 0), (I 1000), (I 1001), (I (-1)), (I 50)]) H hn0 Try.underlying24 ti3 rfl rfl (by kernel_rfl) (.cons (c := [(I 0)]) rfl (.cons (c := [(I 1000)]) rfl (.cons (c := [(I 1001)]) rfl (.cons (c := [(I (-1))]) rfl (.cons (c := [(I 50)]) rfl (.nil)))))) rfl) wn ?_
   rintro _ σ37 ⟨b36, rfl, H, -⟩
   obtain ⟨σ38, hw39, H, -⟩ := H.pub 0 rfl (Nat.le_refl _)
   rw [← hw39]; clear hw39
   replace H := H.roLow 0 0 rfl (Nat.zero_le _)
   revert h; refine br fun r40 hx41 h => ?_
   have hc42 := c_spec_reader_one (Cv := Cv) (Cw := Cw) (Cy := Cy) (Cz := Cz) (Da := Da) (Ct := a13) (Cu := c14) (Bk := (some ⟨b36, 0, none⟩)) (Bl := 5) hx41
   refine st_call (cx_call hc42 (ent_f hc42.fn rfl) hn0 (H.sel' [2, 3, 0, 0, 1, 3, 4, 5, 6] rfl rfl : Hp S0 σ0 _ ([_, _, _] ++ _))) wn ?_
   rintro _ σ45 ⟨_, ⟨a43, c44, rfl, rfl⟩, H, -⟩
   replace H : Hp _ _ _ [_, _, _, _, _, _, _, _] := H
   replace H : Hp S0 σ0 σ45 [Ch.bx Cv Cw Cy [(Sl a43 r40.2.1 c44), (I r40.2.2)] Cz Da, Ch.ro 0 (Sl a43 r40.2.1 c44) r40.2.1] := H.sel' [0, 1] rfl rfl
   refine sa (I r40.1) rfl (w_end (q_then (c_ret ?_)))
   obtain rfl := sj h
   exact fin_ret (v := (I r40.1)) (results_ok Try.results45 (res_tmp (v := (I r40.1)) rfl res_nil) rfl) ⟨a43, c44, rfl, rfl⟩ (H.sel' [0, 1] rfl rfl)

theorem c_spec_DrawChangedKeys {Dh : List UInt8} {Di : Option Addr} {Dj : Nat} {r : ((List (Int × (Int × (List Int) × Int))) × (List Int)) × Int × Int} (h : M.spec_DrawChangedKeys Dh = some r) :
    Cal2 Try.prog 35 [(Sl Di Dh Dj)] [Ch.ro 0 (Sl Di Dh Dj) Dh] (fun n0 v L => ∃ (az1 : Option Addr), ∃ (cz2 : Nat), ∃ (az3 : Option Addr), ∃ (cz4 : Nat), v = (.tuple #[(.agg #[(Sl az1 r.1.1 cz2), (Sl az3 r.1.2 cz4)]), (I r.2.1), (I r.2.2)]) ∧ L = [Ch.ro n0 (Sl az1 r.1.1 cz2) r.1.1, Ch.ro n0 (Sl az3 r.1.2 cz4) r.1.2]) := by
 refine cal2 (n := 20) Try.func35 rfl rfl rfl rfl ?_
 intro S0 σ0 n0 hn0 H
 unfold M.spec_DrawChangedKeys at h
 refine c_seq (rg (st_ex (ex_alloc (cs := [(.slice none 0 0), (.slice none 0 0)]) H hn0 ti26 rfl) wn ?_))
 rintro _ σ2 ⟨b1, rfl, H, -⟩
 refine sa (I 0) rfl (sa (I 0) rfl (w_end (q_then (c_seq (rg (sm (Sl Di Dh Dj) rfl ?_))))))
 revert h; refine br fun r3 hx4 h => ?_
 have hc5 := c_spec_newReader (Di := Di) (Dj := Dj) hx4
 refine st_call (cx_call hc5 (ent_f hc5.fn rfl) hn0 (H.sel' [1, 0, 1] rfl rfl : Hp S0 σ0 _ ([_] ++ _))) wn ?_
 rintro _ σ9 ⟨_, ⟨b6, a7, c8, rfl, rfl⟩, H, -⟩
 replace H : Hp _ _ _ [_, _, _, _] := H
 refine sa (pt b6 0) rfl (w_end (q_then (c_seq (rg (sm (pt b6 0) rfl ?_)))))
 revert h; refine br fun r10 hx11 h => ?_
 have hc12 := c_spec_anyHistory (Cv := n0) (Cw := b6) (Cy := 0) (Cz := []) (Da := []) (Ct := a7) (Cu := c8) hx11
 refine st_call (cx_call hc12 (ent_f hc12.fn rfl) hn0 (H.sel' [0, 1, 1, 2, 3] rfl rfl : Hp S0 σ0 _ ([_, _] ++ _))) wn ?_
 rintro _ σ19 ⟨_, ⟨a13, c14, a15, c16, a17, c18, rfl, rfl⟩, H, -⟩
 replace H : Hp _ _ _ [_, _, _, _, _, _, _] := H
 refine st_ex (ex_alloc (cs := [(.slice none 0 0), (.slice none 0 0)]) H hn0 ti26 rfl) wn ?_
 rintro _ σ21 ⟨b20, rfl, H, -⟩
 replace H : Hp S0 σ0 σ21 [Ch.bx n0 b20 0 [(.slice none 0 0), (.slice none 0 0)] [] [], Ch.own n0 n0 (Sl a13 r10.1.1 c14) r10.1.1, Ch.own n0 n0 (Sl a15 r10.1.2 c16) r10.1.2, Ch.bx n0 b6 0 [(Sl a17 r10.2.1 c18), (I r10.2.2)] [] [], Ch.ro 0 (Sl a17 r10.2.1 c18) r10.2.1, Ch.bx n0 b1 0 [(.slice none 0 0), (.slice none 0 0)] [] []] := H.sel' [0, 1, 2, 3, 4, 6] rfl rfl
 refine st_exS (ex_store_box (k := 0) (cs := [(.slice none 0 0), (.slice none 0 0)]) (vs := [(Sl a13 r10.1.1 c14), (Sl a15 r10.1.2 c16)]) (cs' := [(Sl a13 r10.1.1 c14), (Sl a15 r10.1.2 c16)]) H (i := 0) rfl ti26 rfl rfl rfl rfl rfl (Nat.le_of_ble_eq_true rfl) (by simp [plain]) rfl) wn ?_
 rintro σ22 ⟨H, -⟩
 refine w_end (q_then (c_seq (rg (sm (pt b6 0) rfl ?_))))
 have hc23 := H.cells 0 rfl
 refine st (v := (.agg #[(Sl a13 r10.1.1 c14), (Sl a15 r10.1.2 c16)])) (rv_load (cs := [(Sl a13 r10.1.1 c14), (Sl a15 r10.1.2 c16)]) Try.underlying26 rfl ti26 rfl rfl hc23) ?_
 obtain ⟨σ24, hw25, H, -⟩ := H.pub 1 rfl (Nat.le_refl _)
 rw [← hw25]; clear hw25
 obtain ⟨σ26, hw27, H, -⟩ := H.pub 2 rfl (Nat.le_refl _)
 rw [← hw27]; clear hw27
 replace H := H.roLow 1 0 rfl (Nat.zero_le _)
 replace H := H.roLow 1 0 rfl (Nat.zero_le _)
 revert h; refine br fun r28 hx29 h => ?_
 have hc30 := c_spec_historyTime (Cv := n0) (Cw := b6) (Cy := 0) (Cz := []) (Da := []) (Ct := a17) (Cu := c18) (Dm := a13) (Dn := c14) (Do := a15) (Dq := c16) hx29
 refine st_call (cx_call hc30 (ent_f hc30.fn rfl) hn0 (H.sel' [5, 6, 1, 0, 0, 1, 2, 3, 4, 6, 7] rfl rfl : Hp S0 σ0 _ ([_, _, _, _] ++ _))) wn ?_
 rintro _ σ33 ⟨_, ⟨a31, c32, rfl, rfl⟩, H, -⟩
 replace H : Hp _ _ _ [_, _, _, _, _, _, _, _, _] := H
 replace H : Hp S0 σ0 σ33 [Ch.bx n0 b6 0 [(Sl a31 r28.2.1 c32), (I r28.2.2)] [] [], Ch.ro 0 (Sl a31 r28.2.1 c32) r28.2.1, Ch.ro n0 (Sl a15 r10.1.2 c16) r10.1.2, Ch.ro n0 (Sl a13 r10.1.1 c14) r10.1.1, Ch.bx n0 b20 0 [(Sl a13 r10.1.1 c14), (Sl a15 r10.1.2 c16)] [] [], Ch.bx n0 b1 0 [(.slice none 0 0), (.slice none 0 0)] [] []] := H.sel' [0, 1, 4, 5, 6, 8] rfl rfl
 refine sa (I r28.1) rfl (w_end (q_then (c_seq ?_)))
 have hc34 := H.cells 4 rfl
 have hc35 := H.cells 4 rfl
 replace H := H.roLow 3 0 rfl (Nat.zero_le _)
 replace H := H.roLow 3 0 rfl (Nat.zero_le _)
 revert h; refine br fun r36 hx37 h => ?_
 have hc38 := c_spec_historyTime (Cv := n0) (Cw := b6) (Cy := 0) (Cz := []) (Da := []) (Ct := a31) (Cu := c32) (Dm := a13) (Dn := c14) (Do := a15) (Dq := c16) hx37
 have Hs := H
 refine rg2 (σ := σ33) (Nm := (Option Addr) × (Nat)) 6 [4, 5] [[false, false], [true, false], [true, true]] [[(0, 0), (1, 1)], [(0, 0), (1, 1), (2, 2)], [(0, 0)], [(0, 0)], [(0, 1)], [(1, 2)]] 2 [fun ((a39, c40) : (Option Addr) × (Nat)) => fun σm => Hp S0 σ0 σm [Ch.ro 0 (Sl a15 r10.1.2 c16) r10.1.2, Ch.ro 0 (Sl a13 r10.1.1 c14) r10.1.1, Ch.bx n0 b6 0 [(Sl a31 r28.2.1 c32), (I r28.2.2)] [] [], Ch.ro 0 (Sl a31 r28.2.1 c32) r28.2.1, Ch.ro n0 (Sl a15 r10.1.2 c16) r10.1.2, Ch.ro n0 (Sl a13 r10.1.1 c14) r10.1.1, Ch.bx n0 b20 0 [(Sl a13 r10.1.1 c14), (Sl a15 r10.1.2 c16)] [] [], Ch.bx n0 b1 0 [(.slice none 0 0), (.slice none 0 0)] [] []] ∧ Md (cov []) σ33 σm, fun ((a39, c40) : (Option Addr) × (Nat)) => fun σm => Hp S0 σ0 σm [Ch.bx n0 b6 0 [(Sl a39 r36.2.1 c40), (I r36.2.2)] [] [], Ch.ro 0 (Sl a39 r36.2.1 c40) r36.2.1, Ch.ro 0 (Sl a15 r10.1.2 c16) r10.1.2, Ch.ro 0 (Sl a13 r10.1.1 c14) r10.1.1, Ch.ro 0 (Sl a31 r28.2.1 c32) r28.2.1, Ch.ro n0 (Sl a15 r10.1.2 c16) r10.1.2, Ch.ro n0 (Sl a13 r10.1.1 c14) r10.1.1, Ch.bx n0 b20 0 [(Sl a13 r10.1.1 c14), (Sl a15 r10.1.2 c16)] [] [], Ch.bx n0 b1 0 [(.slice none 0 0), (.slice none 0 0)] [] []] ∧ Md (fun i => (cov []) i ∨ (cov [Ch.bx n0 b6 0 [(Sl a31 r28.2.1 c32), (I r28.2.2)] [] [], Ch.ro 0 (Sl a31 r28.2.1 c32) r28.2.1, Ch.ro 0 (Sl a13 r10.1.1 c14) r10.1.1, Ch.ro 0 (Sl a15 r10.1.2 c16) r10.1.2]) i) σ33 σm, fun ((a39, c40) : (Option Addr) × (Nat)) => fun σm => Hp S0 σ0 σm [Ch.bx n0 b1 0 [(Sl a13 r10.1.1 c14), (Sl a15 r10.1.2 c16)] [] [], Ch.bx n0 b6 0 [(Sl a39 r36.2.1 c40), (I r36.2.2)] [] [], Ch.ro 0 (Sl a39 r36.2.1 c40) r36.2.1, Ch.ro 0 (Sl a15 r10.1.2 c16) r10.1.2, Ch.ro 0 (Sl a13 r10.1.1 c14) r10.1.1, Ch.ro 0 (Sl a31 r28.2.1 c32) r28.2.1, Ch.ro n0 (Sl a15 r10.1.2 c16) r10.1.2, Ch.ro n0 (Sl a13 r10.1.1 c14) r10.1.1, Ch.bx n0 b20 0 [(Sl a13 r10.1.1 c14), (Sl a15 r10.1.2 c16)] [] []] ∧ Md (fun i => (fun i => (cov []) i ∨ (cov [Ch.bx n0 b6 0 [(Sl a31 r28.2.1 c32), (I r28.2.2)] [] [], Ch.ro 0 (Sl a31 r28.2.1 c32) r28.2.1, Ch.ro 0 (Sl a13 r10.1.1 c14) r10.1.1, Ch.ro 0 (Sl a15 r10.1.2 c16) r10.1.2]) i) i ∨ (fun i => i = b1) i) σ33 σm] [fun ((a39, c40) : (Option Addr) × (Nat)) => (.agg #[(Sl a13 r10.1.1 c14), (Sl a15 r10.1.2 c16)]), fun ((a39, c40) : (Option Addr) × (Nat)) => (I r28.1), fun ((a39, c40) : (Option Addr) × (Nat)) => (pt b6 0), fun ((a39, c40) : (Option Addr) × (Nat)) => (.agg #[(Sl a13 r10.1.1 c14), (Sl a15 r10.1.2 c16)]), fun ((a39, c40) : (Option Addr) × (Nat)) => (I r36.1), fun ((a39, c40) : (Option Addr) × (Nat)) => undef] (none, 0) (by kernel_rfl) (by kernel_rfl) ?_ ?_ ?_
 ·intro σm m0
  exact ⟨H.grow (m0.mono fun _ h => h.elim), m0⟩
 ·refine all_cons (by
    refine ⟨?_, ?_⟩
    ·rintro ⟨a39, c40⟩ ρ σm hJ hoff hdep
     have e6 := look_off (N := 20) (hoff 6 rfl) rfl
     obtain ⟨H, m⟩ := id hJ
     have hc34 := H.cells 6 rfl
     exact dp_v (v := (.agg #[(Sl a13 r10.1.1 c14), (Sl a15 r10.1.2 c16)])) wn (rv_load (cs := [(Sl a13 r10.1.1 c14), (Sl a15 r10.1.2 c16)]) Try.underlying26 rfl ti26 e6 rfl hc34) rfl hJ
    refine ⟨?_, ?_⟩
    ·rintro ⟨a39, c40⟩ ρ σm hJ hoff hdep
     have e6 := look_off (N := 20) (hoff 6 rfl) rfl
     obtain ⟨H, m⟩ := id hJ
     have hc34 := H.cells 7 rfl
     exact dp_v (v := (.agg #[(Sl a13 r10.1.1 c14), (Sl a15 r10.1.2 c16)])) wn (rv_load (cs := [(Sl a13 r10.1.1 c14), (Sl a15 r10.1.2 c16)]) Try.underlying26 rfl ti26 e6 rfl hc34) rfl hJ
    trivial) ?_
  refine ac rfl (by
    intro k; rintro ⟨a39, c40⟩ ρ σm hJ hoff hdep
    have e7 := look_off (N := 20) (hoff 7 rfl) rfl
    exact dp_v (v := (I r28.1)) wn (rv_move e7) rfl hJ) ?_
  refine ac rfl (by
    intro k; rintro ⟨a39, c40⟩ ρ σm hJ hoff hdep
    have e5 := look_off (N := 20) (hoff 5 rfl) rfl
    exact dp_v (v := (pt b6 0)) wn (rv_move e5) rfl hJ) ?_
  refine all_cons (by
    refine ⟨?_, ?_⟩
    ·rintro ⟨a39, c40⟩ ρ σm hJ hoff hdep
     have e6 := look_off (N := 20) (hoff 6 rfl) rfl
     obtain ⟨H, m⟩ := id hJ
     have hc35 := H.cells 6 rfl
     exact dp_v (v := (.agg #[(Sl a13 r10.1.1 c14), (Sl a15 r10.1.2 c16)])) wn (rv_load (cs := [(Sl a13 r10.1.1 c14), (Sl a15 r10.1.2 c16)]) Try.underlying26 rfl ti26 e6 rfl hc35) rfl hJ
    trivial) ?_
  refine all_cons (by
    refine ⟨?_, ?_⟩
    ·rintro ⟨a39, c40⟩ ρ σm hJ hoff hdep
     have e17 : look 20 ρ 17 = (pt b6 0) := hdep 2 rfl rfl 17 rfl
     have e18 : look 20 ρ 18 = (.agg #[(Sl a13 r10.1.1 c14), (Sl a15 r10.1.2 c16)]) := hdep 3 rfl rfl 18 rfl
     obtain ⟨H, m⟩ := id hJ
     refine dp_cx wn (cx_call hc38 (ent_f hc38.fn (by show [look 20 ρ 17, look 20 ρ 18] = _; rw [e17, e18])) hn0 (H.sel' [2, 3, 1, 0, 0, 1, 3, 4, 5, 6, 7] rfl rfl : Hp S0 σ0 _ ([_, _, _, _] ++ _))) ?_
     rintro _ σq ⟨_, ⟨a39x, c40x, rfl, rfl⟩, H2, m2⟩
     exact ⟨_, (a39x, c40x), rfl, rfl, ⟨H2.sel' [0, 1, 2, 3, 4, 5, 6, 7, 8] rfl rfl, m.comp m2⟩, stab [0, 1, 2, 3] (by kernel_rfl) ⟨rfl, rfl, rfl, rfl, trivial⟩⟩
    trivial) ?_
  refine all_cons (by
    refine ⟨?_, ?_⟩
    ·rintro ⟨a39, c40⟩ ρ σm hJ hoff hdep
     have e2 := look_off (N := 20) (hoff 2 rfl) rfl
     have e15 := hdep 0 rfl rfl 15 rfl
     obtain ⟨H, m⟩ := id hJ
     refine dp_exS wn rfl (ex_store_box (k := 0) (cs := [(.slice none 0 0), (.slice none 0 0)]) (vs := [(Sl a13 r10.1.1 c14), (Sl a15 r10.1.2 c16)]) (cs' := [(Sl a13 r10.1.1 c14), (Sl a15 r10.1.2 c16)]) H (i := 8) rfl ti26 e2 rfl e15 rfl rfl (Nat.le_of_ble_eq_true rfl) (by simp [plain]) rfl) ?_
     rintro σq ⟨H2, m2⟩
     exact ⟨_, (a39, c40), rfl, ⟨H2.sel' [0, 1, 2, 3, 4, 5, 6, 7, 8] rfl rfl, m.comp m2⟩, stab [0, 1, 2, 3, 4] (by kernel_rfl) ⟨rfl, rfl, rfl, rfl, rfl, trivial⟩⟩
    trivial) ?_
  exact all_nil
 ·rintro ⟨a39, c40⟩ ρ σ41 hJ hoff hrel
  have e2 := look_off (N := 20) (hoff 2 rfl) rfl
  have e16 := hrel 1 rfl 16 rfl
  have e19 := hrel 4 rfl 19 rfl
  obtain ⟨H, -⟩ := (show Hp S0 σ0 σ41 [Ch.bx n0 b1 0 [(Sl a13 r10.1.1 c14), (Sl a15 r10.1.2 c16)] [] [], Ch.bx n0 b6 0 [(Sl a39 r36.2.1 c40), (I r36.2.2)] [] [], Ch.ro 0 (Sl a39 r36.2.1 c40) r36.2.1, Ch.ro 0 (Sl a15 r10.1.2 c16) r10.1.2, Ch.ro 0 (Sl a13 r10.1.1 c14) r10.1.1, Ch.ro 0 (Sl a31 r28.2.1 c32) r28.2.1, Ch.ro n0 (Sl a15 r10.1.2 c16) r10.1.2, Ch.ro n0 (Sl a13 r10.1.1 c14) r10.1.1, Ch.bx n0 b20 0 [(Sl a13 r10.1.1 c14), (Sl a15 r10.1.2 c16)] [] []] ∧ Md (fun i => (fun i => (cov []) i ∨ (cov [Ch.bx n0 b6 0 [(Sl a31 r28.2.1 c32), (I r28.2.2)] [] [], Ch.ro 0 (Sl a31 r28.2.1 c32) r28.2.1, Ch.ro 0 (Sl a13 r10.1.1 c14) r10.1.1, Ch.ro 0 (Sl a15 r10.1.2 c16) r10.1.2]) i) i ∨ (fun i => i = b1) i) σ33 σ41 from hJ)
  clear hJ Hs
  rw [fr_lookL (L := [(2, (pt b1 0)), (16, (I r28.1)), (19, (I r36.1))]) ⟨e2, e16, e19, trivial⟩]
  clear hoff hrel e2 e16 e19
  refine sa (I r28.1) rfl (sa (I r36.1) rfl (w_end (q_then (c_ret ?_))))
  obtain rfl := sj h
  exact fin_ret (v := (.tuple #[(.agg #[(Sl a13 r10.1.1 c14), (Sl a15 r10.1.2 c16)]), (I r28.1), (I r36.1)])) (results_ok Try.results35 (res_cell rfl (run_cellRes (cs := [(Sl a13 r10.1.1 c14), (Sl a15 r10.1.2 c16)]) Try.underlying26 rfl ti26 rfl (H.cells 0 rfl)) (res_tmp (v := (I r28.1)) rfl (res_tmp (v := (I r36.1)) rfl res_nil))) rfl) ⟨a13, c14, a15, c16, rfl, rfl⟩ (H.sel' [7, 6] rfl rfl)

theorem c_slices_Equal_int_int {Dr : List Int} {Ds : List Int} {Dt : Option Addr} {Du : Nat} {Dv : Option Addr} {Dw : Nat} {r : Bool} (h : M.slices_Equal_int_int Dr Ds = some r) :
    Cal2 Try.prog 112 [(Sl Dt Dr Du), (Sl Dv Ds Dw)] [Ch.ro 0 (Sl Dt Dr Du) Dr, Ch.ro 0 (Sl Dv Ds Dw) Ds] (fun n0 v L => v = (B r) ∧ L = []) := by
 refine cal2 (n := 26) Try.func112 rfl rfl rfl rfl ?_
 intro S0 σ0 n0 hn0 H
 unfold M.slices_Equal_int_int at h
 refine c_seq (rg (sa (B false) rfl (w_end (q_then (c_seq (c_seq (rg (sm (Sl Dt Dr Du) rfl (st (v := (I (Dr.length : Int))) (rv_len Try.underlying24 rfl) (sm (Sl Dv Ds Dw) rfl (st (v := (I (Ds.length : Int))) (rv_len Try.underlying24 rfl) ?_)))))))))))
 refine st (v := (B ((Dr.length : Int) != (Ds.length : Int)))) (rv_neq (a := (Dr.length : Int)) (b := (Ds.length : Int)) rfl rfl) (w_end (q_then ?_))
 refine cd_cond ((Dr.length : Int) != (Ds.length : Int)) rfl (fun hb1 => ?_) (fun hb1 => ?_)
 ·replace h := bif_t hb1 h
  refine c_seq (rg (sa (B false) rfl (w_end (q_then (c_ret (q_then_r ?_))))))
  obtain rfl := sj h
  exact fin_ret (v := (B false)) (results_ok Try.results112 (res_tmp (v := (B false)) rfl res_nil) rfl) ⟨rfl, rfl⟩ (H.sel' [] rfl rfl)
 ·replace h := bif_f hb1 h
  refine c_skip (q_then (c_seq (c_seq (rg (sm (Sl Dt Dr Du) rfl (st (v := (I (Dr.length : Int))) (rv_len Try.underlying24 rfl) (sm (I 0) rfl (w_end (q_then ?_)))))))))
  obtain ⟨o2, hj, h'⟩ := bind_some h
  clear h
  refine c_cut (fun e a w => (∃ t, o2 = (.inl t) ∧ e = .normal ∧ ∃ (ρ : Nat → Value) (σ : St), a = fr 26 (updL ρ []) ∧ w = σ.w ∧ Hp S0 σ0 σ []) ∨ (∃ t, o2 = (.inr t) ∧ e = .ret ∧ ∃ (ρ : Nat → Value) (σ : St), a = fr 26 (updL ρ [(4, (B t))]) ∧ w = σ.w ∧ Hp S0 σ0 σ [])) ?_ ?_
  ·clear h'
   rename _ = some o2 => h
   refine c_blk (wp_loopM _ h (fun s3 a w => ∃ (ρ : Nat → Value) (σ : St), a = fr 26 (updL ρ [(0, (Sl Dt Dr Du)), (1, (Sl Dv Ds Dw)), (12, (I (Dr.length : Int))), (13, (I s3))]) ∧ w = σ.w ∧ Hp S0 σ0 σ [Ch.ro 0 (Sl Dt Dr Du) Dr, Ch.ro 0 (Sl Dv Ds Dw) Ds]) ⟨_, σ0, fr_join ⟨rfl, rfl, rfl, rfl, trivial⟩, rfl, H.sel' [0, 1] rfl rfl⟩ ?_)
   clear h H
   rintro s3 a w o ⟨ρ, σ4, rfl, rfl, H⟩ h hres
   refine c_seq (rg (st (v := (B (decide (s3 < (Dr.length : Int))))) (rv_lss (a := s3) (b := (Dr.length : Int)) rfl rfl) (w_end (q_then (c_seq ?_)))))
   refine cd_cond (decide (s3 < (Dr.length : Int))) rfl (fun hb5 => ?_) (fun hb5 => ?_)
   ·replace h := bif_t hb5 h
    refine c_skip (q_then (c_seq (c_blk (c_seq (rg (sm (I s3) rfl (sa (I s3) rfl (w_end (q_then (c_seq ?_))))))))))
    refine rgP (σ := σ4) 8 (by kernel_rfl) (by kernel_rfl) (by kernel_rfl) ?_
    refine sq (v := (Sl Dt Dr Du)) (rv_move rfl) (sq (v := (I s3)) (rv_move rfl) ?_)
    revert h; refine br fun x6 hx7 h => ?_
    obtain ⟨b9, o10, hi8, -⟩ := (H.ro 0 rfl).ix hx7
    refine sq (v := (pt b9 o10)) (rv_ix Try.underlying24 ti3 rfl rfl hi8) ?_
    have hc11 := ((H.ro 0 rfl).at hx7 hi8).int
    refine sq (v := (I x6)) (rv_load1 Try.underlying3 rfl rfl hc11) (sq (v := (Sl Dv Ds Dw)) (rv_move rfl) (sq (v := (I s3)) (rv_move rfl) ?_))
    revert h; refine br fun x12 hx13 h => ?_
    obtain ⟨b15, o16, hi14, -⟩ := (H.ro 1 rfl).ix hx13
    refine sq (v := (pt b15 o16)) (rv_ix Try.underlying24 ti3 rfl rfl hi14) ?_
    have hc17 := ((H.ro 1 rfl).at hx13 hi14).int
    refine sq (v := (I x12)) (rv_load1 Try.underlying3 rfl rfl hc17) (sq_end ?_)
    intro σ18 hm19
    replace H := H.grow (hm19.mono fun _ h => h); clear hm19
    refine st (v := (B (x6 != x12))) (rv_neq (a := x6) (b := x12) rfl rfl) (w_end (q_then ?_))
    refine cd_cond (x6 != x12) rfl (fun hb20 => ?_) (fun hb20 => ?_)
    ·replace h := bif_t hb20 h
     refine c_seq (rg (sa (B false) rfl (w_end (q_then (c_ret (q_blk_r (q_then_r (q_then_r (q_blk_r ?_)))))))))
     obtain rfl := sj h
     obtain rfl := hres _ rfl
     exact .inr (⟨_, rfl, rfl, _, σ18, fr_join ⟨rfl, trivial⟩, rfl, H.sel' [] rfl rfl⟩)
    ·replace h := bif_f hb20 h
     refine c_skip (q_blk (q_then (rg (st (v := (I (w64 (s3 + 1)))) (rv_add (a := s3) (b := 1) rfl rfl) (sm (I (w64 (s3 + 1))) rfl (w_end (q_then ?_)))))))
     obtain rfl := sj h
     exact ⟨_, rfl, _, σ18, fr_join ⟨rfl, rfl, rfl, rfl, trivial⟩, rfl, H.sel' [0, 1] rfl rfl⟩
   ·replace h := bif_f hb5 h
    refine c_exit (q_then_x (q_then_x (q_blk_hit ?_)))
    obtain rfl := sj h
    obtain rfl := hres _ rfl
    exact .inl ⟨_, rfl, rfl, _, σ4, fr_join trivial, rfl, H.sel' [] rfl rfl⟩
  ·clear hj
   have h := h'
   clear h' H
   rintro e a w (⟨t21, rfl, rfl, ρ, σ22, rfl, rfl, H⟩ | ⟨t23, rfl, rfl, ρ, σ24, rfl, rfl, H⟩)
   ·replace h := selim_l h
    refine q_then (c_seq (rg (sa (B true) rfl (w_end (q_then (c_ret ?_))))))
    obtain rfl := sj h
    exact fin_ret (v := (B true)) (results_ok Try.results112 (res_tmp (v := (B true)) rfl res_nil) rfl) ⟨rfl, rfl⟩ (H.sel' [] rfl rfl)
   ·replace h := selim_r h
    refine q_then_r ?_
    obtain rfl := sj h
    exact fin_ret (v := (B t23)) (results_ok Try.results112 (res_tmp (v := (B t23)) rfl res_nil) rfl) ⟨rfl, rfl⟩ (H.sel' [] rfl rfl)

theorem c_impl_equalItems {Dx : Int × (List Int) × Int} {Dy : Int × (List Int) × Int} {Dz : Option Addr} {Ea : Nat} {Eb : Option Addr} {Ec : Nat} {r : Bool} (h : M.impl_equalItems Dx Dy = some r) :
    Cal2 Try.prog 97 [(.agg #[(I Dx.1), (Sl Dz Dx.2.1 Ea), (I Dx.2.2)]), (.agg #[(I Dy.1), (Sl Eb Dy.2.1 Ec), (I Dy.2.2)])] [Ch.ro 0 (Sl Dz Dx.2.1 Ea) Dx.2.1, Ch.ro 0 (Sl Eb Dy.2.1 Ec) Dy.2.1] (fun n0 v L => v = (B r) ∧ L = []) := by
 refine cal2 (n := 24) Try.func97 rfl rfl rfl rfl ?_
 intro S0 σ0 n0 hn0 H
 unfold M.impl_equalItems at h
 refine c_seq (rg (st_ex (ex_box (cs := [(I Dx.1), (Sl Dz Dx.2.1 Ea), (I Dx.2.2)]) H hn0 rfl rfl) wn ?_))
 rintro _ σ2 ⟨b1, rfl, H, -⟩
 refine st_ex (ex_box (cs := [(I Dy.1), (Sl Eb Dy.2.1 Ec), (I Dy.2.2)]) H hn0 rfl rfl) wn ?_
 rintro _ σ4 ⟨b3, rfl, H, -⟩
 refine sa (B false) rfl (w_end (q_then (c_seq (rg (st (v := (pt b1 0)) (rv_fieldAddr (off := 0) (ft := 3) Try.underlying41 rfl ti3 rfl rfl) ?_)))))
 have hc5 := H.cell (u := (I Dx.1)) (o' := 0) 1 0 rfl rfl rfl
 refine st (v := (I Dx.1)) (rv_load1 Try.underlying3 rfl rfl hc5) (st (v := (pt b3 0)) (rv_fieldAddr (off := 0) (ft := 3) Try.underlying41 rfl ti3 rfl rfl) ?_)
 have hc6 := H.cell (u := (I Dy.1)) (o' := 0) 0 0 rfl rfl rfl
 refine st (v := (I Dy.1)) (rv_load1 Try.underlying3 rfl rfl hc6) (st (v := (B (Dx.1 == Dy.1))) (rv_eql (a := Dx.1) (b := Dy.1) rfl rfl) (sm (B (Dx.1 == Dy.1)) rfl ?_))
 rcases Bool.eq_false_or_eq_true (Dx.1 == Dy.1) with hb7 | hb7
 ·replace h := bif_t hb7 h
  refine st_g (v := (pt b1 2)) (congrArg some hb7) (rv_fieldAddr (off := 2) (ft := 3) Try.underlying41 rfl ti3 rfl rfl) ?_
  have hc8 := H.cell (u := (I Dx.2.2)) (o' := 2) 1 2 rfl rfl rfl
  refine st_g (v := (I Dx.2.2)) (congrArg some hb7) (rv_load1 Try.underlying3 rfl rfl hc8) (st_g (v := (pt b3 2)) (congrArg some hb7) (rv_fieldAddr (off := 2) (ft := 3) Try.underlying41 rfl ti3 rfl rfl) ?_)
  have hc9 := H.cell (u := (I Dy.2.2)) (o' := 2) 0 2 rfl rfl rfl
  refine st_g (v := (I Dy.2.2)) (congrArg some hb7) (rv_load1 Try.underlying3 rfl rfl hc9) (st_g (v := (B (Dx.2.2 == Dy.2.2))) (congrArg some hb7) (rv_eql (a := Dx.2.2) (b := Dy.2.2) rfl rfl) (st (v := (B (Dx.2.2 == Dy.2.2))) (rv_pick_t (congrArg B hb7) rfl) (sm (B (Dx.2.2 == Dy.2.2)) rfl ?_)))
  rcases Bool.eq_false_or_eq_true (Dx.2.2 == Dy.2.2) with hb10 | hb10
  ·replace h := bif_t hb10 h
   refine st_g (v := (pt b1 1)) (congrArg some hb10) (rv_fieldAddr (off := 1) (ft := 24) Try.underlying41 rfl ti24 rfl rfl) ?_
   have hc11 := H.cell (u := (Sl Dz Dx.2.1 Ea)) (o' := 1) 1 1 rfl rfl rfl
   refine st_g (v := (Sl Dz Dx.2.1 Ea)) (congrArg some hb10) (rv_load1 Try.underlying24 rfl rfl hc11) (st_g (v := (pt b3 1)) (congrArg some hb10) (rv_fieldAddr (off := 1) (ft := 24) Try.underlying41 rfl ti24 rfl rfl) ?_)
   have hc12 := H.cell (u := (Sl Eb Dy.2.1 Ec)) (o' := 1) 0 1 rfl rfl rfl
   refine st_g (v := (Sl Eb Dy.2.1 Ec)) (congrArg some hb10) (rv_load1 Try.underlying24 rfl rfl hc12) ?_
   revert h; refine br fun r13 hx14 h => ?_
   have hc15 := c_slices_Equal_int_int (Dt := Dz) (Du := Ea) (Dv := Eb) (Dw := Ec) hx14
   refine st_call (cx_call hc15 (ent_f hc15.fn rfl) hn0 (H.sel' [2, 3, 0, 1, 2, 3] rfl rfl : Hp S0 σ0 _ ([_, _] ++ _))) (wanted_yes rfl (by exact (congrArg some hb10))) ?_
   rintro _ σ16 ⟨_, ⟨rfl, rfl⟩, H, -⟩
   replace H : Hp _ _ _ [_, _, _, _] := H
   refine st (v := (B r13)) (rv_pick_t (congrArg B hb10) rfl) (sa (B r13) rfl (w_end (q_then (c_ret ?_))))
   obtain rfl := sj h
   exact fin_ret (v := (B r13)) (results_ok Try.results97 (res_tmp (v := (B r13)) rfl res_nil) rfl) ⟨rfl, rfl⟩ (H.sel' [] rfl rfl)
  ·replace h := bif_f hb10 h
   refine st_skip (congrArg some hb10) (st_skip (congrArg some hb10) (st_skip (congrArg some hb10) (st_skip (congrArg some hb10) (st_skip (congrArg some hb10) (st (v := (B false)) (rv_pick_f (congrArg B hb10) rfl) (sa (B false) rfl (w_end (q_then (c_ret ?_)))))))))
   obtain rfl := sj h
   exact fin_ret (v := (B false)) (results_ok Try.results97 (res_tmp (v := (B false)) rfl res_nil) rfl) ⟨rfl, rfl⟩ (H.sel' [] rfl rfl)
 ·replace h := bif_f hb7 h
  refine st_skip (congrArg some hb7) (st_skip (congrArg some hb7) (st_skip (congrArg some hb7) (st_skip (congrArg some hb7) (st_skip (congrArg some hb7) (st (v := (B false)) (rv_pick_f (congrArg B hb7) rfl) (sm (B false) rfl (st_skip rfl (st_skip rfl (st_skip rfl (st_skip rfl (st_skip rfl ?_)))))))))))
  refine st (v := (B false)) (rv_pick_f rfl rfl) (sa (B false) rfl (w_end (q_then (c_ret ?_))))
  obtain rfl := sj h
  exact fin_ret (v := (B false)) (results_ok Try.results97 (res_tmp (v := (B false)) rfl res_nil) rfl) ⟨rfl, rfl⟩ (H.sel' [] rfl rfl)

end Go.Vs
