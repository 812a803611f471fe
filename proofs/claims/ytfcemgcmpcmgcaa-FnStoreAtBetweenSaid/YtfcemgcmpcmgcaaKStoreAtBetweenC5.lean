/- The functions compute what their models say. -/
import Derived.Test.YtfcemgcmpcmgcaaKStoreAtBetweenC4
set_option linter.unusedVariables false
set_option linter.unusedSimpArgs false
set_option maxRecDepth 20000
namespace Go.Vs
open Go Go.Proofs
attribute [local irreducible] Code.wp Code.wpIn wpList wpListIn wpQuiet Calls CallsIn

theorem c_spec_anyHistory {r_0 : (List UInt8) × Int} {ar_0_0 : Option Addr} {cr_0_0 : Nat} {lor_0 br_0 or_0 : Nat} {prer_0 sufr_0 : List Value} {r : ((List (Int × (Int × (List Int) × Int))) × (List Int)) × ((List UInt8) × Int)} (h : M.spec_anyHistory r_0 = some r) :
    Cal2 Try.prog 40 [(pt br_0 or_0)] [Ch.bx lor_0 br_0 or_0 [(Sl ar_0_0 r_0.1 cr_0_0), (I r_0.2)] prer_0 sufr_0, Ch.ro 0 (Sl ar_0_0 r_0.1 cr_0_0) r_0.1] (fun n0 v L => ∃ (az1 : Option Addr), ∃ (cz2 : Nat), ∃ (az3 : Option Addr), ∃ (cz4 : Nat), ∃ (az5 : Option Addr), ∃ (cz6 : Nat), v = (.agg #[(Sl az1 r.1.1 cz2), (Sl az3 r.1.2 cz4)]) ∧ L = [Ch.own n0 n0 (Sl az1 r.1.1 cz2) r.1.1, Ch.own n0 n0 (Sl az3 r.1.2 cz4) r.1.2, Ch.bx lor_0 br_0 or_0 [(Sl az5 r.2.1 cz6), (I r.2.2)] prer_0 sufr_0, Ch.ro 0 (Sl az5 r.2.1 cz6) r.2.1]) := by
 refine cal2 (n := 35) Try.func40 rfl rfl rfl rfl ?_
 intro S0 σ0 n0 hn0 H
 unfold M.spec_anyHistory at h
 refine c_seq ?_
 refine rg ?_
 refine st_ex (ex_alloc (cs := [(.slice none 0 0), (.slice none 0 0)]) H hn0 ti26 rfl) wn ?_
 rintro _ σ2 ⟨b1, rfl, H, -⟩
 refine w_end ?_
 refine q_then ?_
 refine c_seq ?_
 refine rg ?_
 refine st (v := (pt br_0 or_0)) (rv_move rfl) ?_
 obtain ⟨r3, hx4, h'⟩ := bind_some h
 clear h
 have h := h'; clear h'
 have hc5 := c_spec_someHistory (lor_0 := lor_0) (br_0 := br_0) (or_0 := or_0) (prer_0 := prer_0) (sufr_0 := sufr_0) (ar_0_0 := ar_0_0) (cr_0_0 := cr_0_0) hx4
 refine st_call (cx_call hc5 (ent_f hc5.fn rfl) hn0 (show Hp S0 σ0 _ ([Ch.bx lor_0 br_0 or_0 [(Sl ar_0_0 r_0.1 cr_0_0), (I r_0.2)] prer_0 sufr_0, Ch.ro 0 (Sl ar_0_0 r_0.1 cr_0_0) r_0.1] ++ [Ch.bx n0 b1 0 [(.slice none 0 0), (.slice none 0 0)] [] [], Ch.ro 0 (Sl ar_0_0 r_0.1 cr_0_0) r_0.1]) from (H.sel' [1, 2, 0, 2] rfl rfl))) wn ?_
 rintro _ σ12 ⟨_, ⟨a6, c7, a8, c9, a10, c11, rfl, rfl⟩, H, -⟩
 replace H : Hp S0 σ0 σ12 [Ch.own n0 n0 (Sl a6 r3.1.1 c7) r3.1.1, Ch.own n0 n0 (Sl a8 r3.1.2 c9) r3.1.2, Ch.bx lor_0 br_0 or_0 [(Sl a10 r3.2.1 c11), (I r3.2.2)] prer_0 sufr_0, Ch.ro 0 (Sl a10 r3.2.1 c11) r3.2.1, Ch.bx n0 b1 0 [(.slice none 0 0), (.slice none 0 0)] [] [], Ch.ro 0 (Sl ar_0_0 r_0.1 cr_0_0) r_0.1] := H
 refine st_ex (ex_alloc (cs := [(.slice none 0 0), (.slice none 0 0)]) H hn0 ti26 rfl) wn ?_
 rintro _ σ14 ⟨b13, rfl, H, -⟩
 refine st_exS (ex_store_box (k := 0) (cs := [(.slice none 0 0), (.slice none 0 0)]) (vs := [(Sl a6 r3.1.1 c7), (Sl a8 r3.1.2 c9)]) (cs' := [(Sl a6 r3.1.1 c7), (Sl a8 r3.1.2 c9)]) H (i := 0) rfl ti26 rfl rfl rfl rfl rfl (Nat.le_of_ble_eq_true rfl) (by simp [plain]) rfl) wn ?_
 rintro σ15 ⟨H, -⟩
 refine w_end ?_
 refine q_then ?_
 refine c_seq ?_
 refine c_seq ?_
 refine rg ?_
 refine st (v := (pt br_0 or_0)) (rv_move rfl) ?_
 obtain ⟨r16, hx17, h'⟩ := bind_some h
 clear h
 have h := h'; clear h'
 have hc18 := c_spec_reader_pick (lor_0 := lor_0) (br_0 := br_0) (or_0 := or_0) (prer_0 := prer_0) (sufr_0 := sufr_0) (ar_0_0 := a10) (cr_0_0 := c11) hx17
 refine st_call (cx_call hc18 (ent_f hc18.fn rfl) hn0 (show Hp S0 σ0 _ ([Ch.bx lor_0 br_0 or_0 [(Sl a10 r3.2.1 c11), (I r3.2.2)] prer_0 sufr_0, Ch.ro 0 (Sl a10 r3.2.1 c11) r3.2.1] ++ [Ch.bx n0 b13 0 [(Sl a6 r3.1.1 c7), (Sl a8 r3.1.2 c9)] [] [], Ch.own n0 n0 (Sl a6 r3.1.1 c7) r3.1.1, Ch.own n0 n0 (Sl a8 r3.1.2 c9) r3.1.2, Ch.ro 0 (Sl a10 r3.2.1 c11) r3.2.1, Ch.bx n0 b1 0 [(.slice none 0 0), (.slice none 0 0)] [] [], Ch.ro 0 (Sl ar_0_0 r_0.1 cr_0_0) r_0.1]) from (H.sel' [3, 4, 0, 1, 2, 4, 5, 6] rfl rfl))) wn ?_
 rintro _ σ21 ⟨_, ⟨a19, c20, rfl, rfl⟩, H, -⟩
 replace H : Hp S0 σ0 σ21 [Ch.bx lor_0 br_0 or_0 [(Sl a19 r16.2.1 c20), (I r16.2.2)] prer_0 sufr_0, Ch.ro 0 (Sl a19 r16.2.1 c20) r16.2.1, Ch.bx n0 b13 0 [(Sl a6 r3.1.1 c7), (Sl a8 r3.1.2 c9)] [] [], Ch.own n0 n0 (Sl a6 r3.1.1 c7) r3.1.1, Ch.own n0 n0 (Sl a8 r3.1.2 c9) r3.1.2, Ch.ro 0 (Sl a10 r3.2.1 c11) r3.2.1, Ch.bx n0 b1 0 [(.slice none 0 0), (.slice none 0 0)] [] [], Ch.ro 0 (Sl ar_0_0 r_0.1 cr_0_0) r_0.1] := H
 replace H : Hp S0 σ0 σ21 [Ch.bx lor_0 br_0 or_0 [(Sl a19 r16.2.1 c20), (I r16.2.2)] prer_0 sufr_0, Ch.ro 0 (Sl a19 r16.2.1 c20) r16.2.1, Ch.bx n0 b13 0 [(Sl a6 r3.1.1 c7), (Sl a8 r3.1.2 c9)] [] [], Ch.own n0 n0 (Sl a6 r3.1.1 c7) r3.1.1, Ch.own n0 n0 (Sl a8 r3.1.2 c9) r3.1.2, Ch.bx n0 b1 0 [(.slice none 0 0), (.slice none 0 0)] [] []] := H.sel' [0, 1, 2, 3, 4, 6] rfl rfl
 refine w_end ?_
 refine q_then ?_
 obtain ⟨o22, hj, h'⟩ := bind_some h
 clear h
 refine c_cut (fun e a w => e = .normal ∧ ∃ (ρ : Nat → Value) (σ : St) (aj1 : Option Addr) (cj2 : Nat) (aj3 : Option Addr) (cj4 : Nat) (aj5 : Option Addr) (cj6 : Nat), a = fr 35 (updL ρ [(0, (pt br_0 or_0)), (2, (pt b1 0)), (3, (pt b13 0))]) ∧ w = σ.w ∧ Hp S0 σ0 σ [Ch.bx lor_0 br_0 or_0 [(Sl aj1 o22.1.1 cj2), (I o22.1.2)] prer_0 sufr_0, Ch.ro 0 (Sl aj1 o22.1.1 cj2) o22.1.1, Ch.bx n0 b13 0 [(Sl aj3 o22.2.1 cj4), (Sl aj5 o22.2.2 cj6)] [] [], Ch.own n0 n0 (Sl aj3 o22.2.1 cj4) o22.2.1, Ch.own n0 n0 (Sl aj5 o22.2.2 cj6) o22.2.2, Ch.bx n0 b1 0 [(.slice none 0 0), (.slice none 0 0)] [] []]) ?_ ?_
 ·clear h'
  rename _ = some o22 => h
  refine c_blk ?_
  refine c_seq ?_
  refine rg ?_
  refine st (v := (B (r16.1 == 0))) (rv_eql (a := r16.1) (b := 0) rfl rfl) ?_
  refine st (v := (B (r16.1 == 0))) (rv_assign rfl) ?_
  refine w_end ?_
  refine q_then ?_
  refine cd_cond (r16.1 == 0) rfl (fun hb23 => ?_) (fun hb23 => ?_)
  ·replace h := bif_t hb23 h
   refine rg ?_
   refine st (v := (pt br_0 or_0)) (rv_move rfl) ?_
   refine st (v := (pt b13 1)) (rv_fieldAddr (off := 1) (ft := 24) Try.underlying26 rfl ti24 rfl rfl) ?_
   have hc24 := H.cell (u := (Sl a8 r3.1.2 c9)) (o' := 1) 2 1 rfl rfl rfl
   refine st (v := (Sl a8 r3.1.2 c9)) (rv_load1 Try.underlying24 rfl rfl hc24) ?_
   refine st_ex (ex_buildSlice (el := n0) (xs := ([1000] : List Int)) (ps := [(0, (I 1000))]) (cs := [(I 1000)]) H hn0 Try.underlying24 ti3 rfl rfl (by kernel_rfl) (.cons (c := [(I 1000)]) rfl (.nil)) rfl) wn ?_
   rintro _ σ26 ⟨b25, rfl, H, -⟩
   obtain ⟨xs27, hx28, h'⟩ := bind_some h
   clear h
   have h := h'; clear h'
   refine st_ex (ex_append H (i := 5) rfl Try.underlying24 Try.underlying24 ti3 rfl rfl (by decide) (H.own 0 rfl).rd hx28 hn0 rfl rfl) wn ?_
   rintro _ σ31 ⟨a29, c30, rfl, H, -⟩
   obtain ⟨σ32, hw33, H, -⟩ := H.pub 0 rfl (Nat.le_refl _)
   rw [← hw33]; clear hw33
   replace H := H.roLow 0 0 rfl (Nat.zero_le _)
   obtain ⟨r34, hx35, h'⟩ := bind_some h
   clear h
   have h := h'; clear h'
   have hc36 := c_spec_reader_spoil (lor_0 := lor_0) (br_0 := br_0) (or_0 := or_0) (prer_0 := prer_0) (sufr_0 := sufr_0) (ar_0_0 := a19) (cr_0_0 := c20) (alist_1 := a29) (clist_1 := c30) hx35
   refine st_call (cx_call hc36 (ent_f hc36.fn rfl) hn0 (show Hp S0 σ0 _ ([Ch.bx lor_0 br_0 or_0 [(Sl a19 r16.2.1 c20), (I r16.2.2)] prer_0 sufr_0, Ch.ro 0 (Sl a19 r16.2.1 c20) r16.2.1, Ch.ro 0 (Sl a29 xs27 c30) xs27] ++ [Ch.ro 0 (Sl a29 xs27 c30) xs27, Ch.ro n0 (Sl a29 xs27 c30) xs27, Ch.own n0 n0 (Sl (some ⟨b25, 0, none⟩) ([1000] : List Int) 1) ([1000] : List Int), Ch.ro 0 (Sl a19 r16.2.1 c20) r16.2.1, Ch.bx n0 b13 0 [(Sl a6 r3.1.1 c7), (Sl a8 r3.1.2 c9)] [] [], Ch.own n0 n0 (Sl a6 r3.1.1 c7) r3.1.1, Ch.bx n0 b1 0 [(.slice none 0 0), (.slice none 0 0)] [] []]) from (H.sel' [3, 4, 0, 0, 1, 2, 4, 5, 6, 7] rfl rfl))) wn ?_
   rintro _ σ41 ⟨_, ⟨a37, c38, a39, c40, rfl, rfl⟩, H, -⟩
   replace H : Hp S0 σ0 σ41 [Ch.own n0 n0 (Sl a37 r34.1 c38) r34.1, Ch.bx lor_0 br_0 or_0 [(Sl a39 r34.2.1 c40), (I r34.2.2)] prer_0 sufr_0, Ch.ro 0 (Sl a39 r34.2.1 c40) r34.2.1, Ch.ro 0 (Sl a29 xs27 c30) xs27, Ch.ro n0 (Sl a29 xs27 c30) xs27, Ch.own n0 n0 (Sl (some ⟨b25, 0, none⟩) ([1000] : List Int) 1) ([1000] : List Int), Ch.ro 0 (Sl a19 r16.2.1 c20) r16.2.1, Ch.bx n0 b13 0 [(Sl a6 r3.1.1 c7), (Sl a8 r3.1.2 c9)] [] [], Ch.own n0 n0 (Sl a6 r3.1.1 c7) r3.1.1, Ch.bx n0 b1 0 [(.slice none 0 0), (.slice none 0 0)] [] []] := H
   replace H : Hp S0 σ0 σ41 [Ch.own n0 n0 (Sl a37 r34.1 c38) r34.1, Ch.bx lor_0 br_0 or_0 [(Sl a39 r34.2.1 c40), (I r34.2.2)] prer_0 sufr_0, Ch.ro 0 (Sl a39 r34.2.1 c40) r34.2.1, Ch.bx n0 b13 0 [(Sl a6 r3.1.1 c7), (Sl a8 r3.1.2 c9)] [] [], Ch.own n0 n0 (Sl a6 r3.1.1 c7) r3.1.1, Ch.bx n0 b1 0 [(.slice none 0 0), (.slice none 0 0)] [] []] := H.sel' [0, 1, 2, 7, 8, 9] rfl rfl
   refine st (v := (pt b13 1)) (rv_fieldAddr (off := 1) (ft := 24) Try.underlying26 rfl ti24 rfl rfl) ?_
   refine st_exS (ex_store_box (k := 1) (cs := [(Sl a6 r3.1.1 c7), (Sl a8 r3.1.2 c9)]) (vs := [(Sl a37 r34.1 c38)]) (cs' := [(Sl a6 r3.1.1 c7), (Sl a37 r34.1 c38)]) H (i := 3) rfl ti24 rfl rfl rfl rfl rfl (Nat.le_of_ble_eq_true rfl) (by simp [plain]) rfl) wn ?_
   rintro σ42 ⟨H, -⟩
   refine w_end ?_
   refine q_blk ?_
   obtain rfl := Option.some.inj h
   exact ⟨rfl, _, σ42, a39, c40, a6, c7, a37, c38, fr_join ⟨rfl, rfl, rfl, trivial⟩, rfl, H.sel' [2, 3, 0, 4, 1, 5] rfl rfl⟩
  ·replace h := bif_f hb23 h
   refine c_seq ?_
   refine rg ?_
   refine st (v := (B (r16.1 == 1))) (rv_eql (a := r16.1) (b := 1) rfl rfl) ?_
   refine st (v := (B (r16.1 == 1))) (rv_assign rfl) ?_
   refine w_end ?_
   refine q_then ?_
   refine cd_cond (r16.1 == 1) rfl (fun hb43 => ?_) (fun hb43 => ?_)
   ·replace h := bif_t hb43 h
    refine c_seq ?_
    have hc44 := H.cell (u := (Sl a6 r3.1.1 c7)) (o' := 0) 2 0 rfl rfl rfl
    obtain ⟨r45, hx46, h'⟩ := bind_some h
    clear h
    have h := h'; clear h'
    have hc47 := c_spec_anyEntry (lor_0 := lor_0) (br_0 := br_0) (or_0 := or_0) (prer_0 := prer_0) (sufr_0 := sufr_0) (ar_0_0 := a19) (cr_0_0 := c20) hx46
    have Hs := H
    refine rg2 (σ := σ21) (Nm := (Option Addr) × (Nat) × (Option Addr) × (Nat) × (Nat)) 5 [3, 4] [[false, false], [true, false], [true, true]] [[(0, 0), (1, 1), (2, 2)], [(0, 0), (1, 1), (2, 2)], [(0, 0)], [(0, 1)], [(1, 2)]] 2 [fun ((a48, c49, a50, c51, b52) : (Option Addr) × (Nat) × (Option Addr) × (Nat) × (Nat)) => fun σm => Hp S0 σ0 σm [Ch.bx lor_0 br_0 or_0 [(Sl a19 r16.2.1 c20), (I r16.2.2)] prer_0 sufr_0, Ch.ro 0 (Sl a19 r16.2.1 c20) r16.2.1, Ch.bx n0 b13 0 [(Sl a6 r3.1.1 c7), (Sl a8 r3.1.2 c9)] [] [], Ch.own n0 n0 (Sl a6 r3.1.1 c7) r3.1.1, Ch.own n0 n0 (Sl a8 r3.1.2 c9) r3.1.2, Ch.bx n0 b1 0 [(.slice none 0 0), (.slice none 0 0)] [] []] ∧ Md (cov []) σ21 σm, fun ((a48, c49, a50, c51, b52) : (Option Addr) × (Nat) × (Option Addr) × (Nat) × (Nat)) => fun σm => Hp S0 σ0 σm [Ch.ro n0 (Sl a48 r45.1.2.2.1 c49) r45.1.2.2.1, Ch.bx lor_0 br_0 or_0 [(Sl a50 r45.2.1 c51), (I r45.2.2)] prer_0 sufr_0, Ch.ro 0 (Sl a50 r45.2.1 c51) r45.2.1, Ch.ro 0 (Sl a19 r16.2.1 c20) r16.2.1, Ch.bx n0 b13 0 [(Sl a6 r3.1.1 c7), (Sl a8 r3.1.2 c9)] [] [], Ch.own n0 n0 (Sl a6 r3.1.1 c7) r3.1.1, Ch.own n0 n0 (Sl a8 r3.1.2 c9) r3.1.2, Ch.bx n0 b1 0 [(.slice none 0 0), (.slice none 0 0)] [] []] ∧ Md (fun i => (cov []) i ∨ (fun i => (cov [Ch.bx lor_0 br_0 or_0 [(Sl a19 r16.2.1 c20), (I r16.2.2)] prer_0 sufr_0, Ch.ro 0 (Sl a19 r16.2.1 c20) r16.2.1]) i ∨ (fun b => blk (Sl a48 r45.1.2.2.1 c49) = some b) i) i) σ21 σm, fun ((a48, c49, a50, c51, b52) : (Option Addr) × (Nat) × (Option Addr) × (Nat) × (Nat)) => fun σm => Hp S0 σ0 σm [Ch.own n0 n0 (Sl (some ⟨b52, 0, none⟩) ([(r45.1.1, (r45.1.2.1, r45.1.2.2.1, r45.1.2.2.2))] : List (Int × (Int × (List Int) × Int))) 1) ([(r45.1.1, (r45.1.2.1, r45.1.2.2.1, r45.1.2.2.2))] : List (Int × (Int × (List Int) × Int))), Ch.ro n0 (Sl a48 r45.1.2.2.1 c49) r45.1.2.2.1, Ch.bx lor_0 br_0 or_0 [(Sl a50 r45.2.1 c51), (I r45.2.2)] prer_0 sufr_0, Ch.ro 0 (Sl a50 r45.2.1 c51) r45.2.1, Ch.ro 0 (Sl a19 r16.2.1 c20) r16.2.1, Ch.bx n0 b13 0 [(Sl a6 r3.1.1 c7), (Sl a8 r3.1.2 c9)] [] [], Ch.own n0 n0 (Sl a6 r3.1.1 c7) r3.1.1, Ch.own n0 n0 (Sl a8 r3.1.2 c9) r3.1.2, Ch.bx n0 b1 0 [(.slice none 0 0), (.slice none 0 0)] [] []] ∧ Md (fun i => (cov []) i ∨ (fun i => (cov [Ch.bx lor_0 br_0 or_0 [(Sl a19 r16.2.1 c20), (I r16.2.2)] prer_0 sufr_0, Ch.ro 0 (Sl a19 r16.2.1 c20) r16.2.1]) i ∨ (fun b => blk (Sl a48 r45.1.2.2.1 c49) = some b) i) i) σ21 σm] [fun ((a48, c49, a50, c51, b52) : (Option Addr) × (Nat) × (Option Addr) × (Nat) × (Nat)) => (pt b13 0), fun ((a48, c49, a50, c51, b52) : (Option Addr) × (Nat) × (Option Addr) × (Nat) × (Nat)) => (Sl a6 r3.1.1 c7), fun ((a48, c49, a50, c51, b52) : (Option Addr) × (Nat) × (Option Addr) × (Nat) × (Nat)) => (pt br_0 or_0), fun ((a48, c49, a50, c51, b52) : (Option Addr) × (Nat) × (Option Addr) × (Nat) × (Nat)) => (.agg #[(I r45.1.1), (I r45.1.2.1), (Sl a48 r45.1.2.2.1 c49), (I r45.1.2.2.2)]), fun ((a48, c49, a50, c51, b52) : (Option Addr) × (Nat) × (Option Addr) × (Nat) × (Nat)) => (Sl (some ⟨b52, 0, none⟩) ([(r45.1.1, (r45.1.2.1, r45.1.2.2.1, r45.1.2.2.2))] : List (Int × (Int × (List Int) × Int))) 1)] (none, 0, none, 0, 0) (by kernel_rfl) (by kernel_rfl) ?_ ?_ ?_
    ·intro σm m0
     exact ⟨H.grow (m0.mono fun _ h => h.elim), m0⟩
    ·refine ac rfl (by
       intro k; rintro ⟨a48, c49, a50, c51, b52⟩ ρ σm hJ hoff hdep
       have e3 := look_off (N := 35) (hoff 3 rfl) rfl
       exact dp_v (v := (pt b13 0)) wn (rv_fieldAddr (off := 0) (ft := 23) Try.underlying26 rfl ti23 rfl e3) rfl hJ) ?_
     refine all_cons (by
       refine ⟨?_, ?_⟩
       ·rintro ⟨a48, c49, a50, c51, b52⟩ ρ σm hJ hoff hdep
        have e19 := hdep 0 rfl rfl 19 rfl
        obtain ⟨H, m⟩ := id hJ
        have hc44 := H.cell (u := (Sl a6 r3.1.1 c7)) (o' := 0) 2 0 rfl rfl rfl
        exact dp_v (v := (Sl a6 r3.1.1 c7)) wn (rv_load1 Try.underlying23 rfl e19 hc44) rfl hJ
       refine ⟨?_, ?_⟩
       ·rintro ⟨a48, c49, a50, c51, b52⟩ ρ σm hJ hoff hdep
        have e19 := hdep 0 rfl rfl 19 rfl
        obtain ⟨H, m⟩ := id hJ
        have hc44 := H.cell (u := (Sl a6 r3.1.1 c7)) (o' := 0) 4 0 rfl rfl rfl
        exact dp_v (v := (Sl a6 r3.1.1 c7)) wn (rv_load1 Try.underlying23 rfl e19 hc44) rfl hJ
       refine ⟨?_, ?_⟩
       ·rintro ⟨a48, c49, a50, c51, b52⟩ ρ σm hJ hoff hdep
        have e19 := hdep 0 rfl rfl 19 rfl
        obtain ⟨H, m⟩ := id hJ
        have hc44 := H.cell (u := (Sl a6 r3.1.1 c7)) (o' := 0) 5 0 rfl rfl rfl
        exact dp_v (v := (Sl a6 r3.1.1 c7)) wn (rv_load1 Try.underlying23 rfl e19 hc44) rfl hJ
       trivial) ?_
     refine ac rfl (by
       intro k; rintro ⟨a48, c49, a50, c51, b52⟩ ρ σm hJ hoff hdep
       have e0 := look_off (N := 35) (hoff 0 rfl) rfl
       exact dp_v (v := (pt br_0 or_0)) wn (rv_move e0) rfl hJ) ?_
     refine all_cons (by
       refine ⟨?_, ?_⟩
       ·rintro ⟨a48, c49, a50, c51, b52⟩ ρ σm hJ hoff hdep
        have e21 : look 35 ρ 21 = (pt br_0 or_0) := hdep 2 rfl rfl 21 rfl
        obtain ⟨H, m⟩ := id hJ
        refine dp_cx wn (cx_call hc47 (ent_f hc47.fn (by show [look 35 ρ 21] = _; rw [e21])) hn0 (show Hp S0 σ0 _ ([Ch.bx lor_0 br_0 or_0 [(Sl a19 r16.2.1 c20), (I r16.2.2)] prer_0 sufr_0, Ch.ro 0 (Sl a19 r16.2.1 c20) r16.2.1] ++ [Ch.ro 0 (Sl a19 r16.2.1 c20) r16.2.1, Ch.bx n0 b13 0 [(Sl a6 r3.1.1 c7), (Sl a8 r3.1.2 c9)] [] [], Ch.own n0 n0 (Sl a6 r3.1.1 c7) r3.1.1, Ch.own n0 n0 (Sl a8 r3.1.2 c9) r3.1.2, Ch.bx n0 b1 0 [(.slice none 0 0), (.slice none 0 0)] [] []]) from (H.sel' [0, 1, 1, 2, 3, 4, 5] rfl rfl))) ?_
        rintro _ σq ⟨_, ⟨a48x, c49x, a50x, c51x, rfl, rfl⟩, H2, m2⟩
        obtain ⟨σr0, hwr0, H2, mr0⟩ := H2.pub 0 rfl (Nat.le_refl _)
        exact ⟨_, (a48x, c49x, a50x, c51x, b52), hwr0, rfl, ⟨H2.sel' [0, 1, 2, 3, 4, 5, 6, 7] rfl rfl, m.comp (m2.comp mr0)⟩, stab [0, 1, 2] (by kernel_rfl) ⟨rfl, rfl, rfl, trivial⟩⟩
       trivial) ?_
     refine all_cons (by
       refine ⟨?_, ?_⟩
       ·rintro ⟨a48, c49, a50, c51, b52⟩ ρ σm hJ hoff hdep
        have e22 : look 35 ρ 22 = (.agg #[(I r45.1.1), (I r45.1.2.1), (Sl a48 r45.1.2.2.1 c49), (I r45.1.2.2.2)]) := hdep 3 rfl rfl 22 rfl
        obtain ⟨H, m⟩ := id hJ
        refine dp_ex wn (ex_buildSlice (el := n0) (xs := ([(r45.1.1, (r45.1.2.1, r45.1.2.2.1, r45.1.2.2.2))] : List (Int × (Int × (List Int) × Int)))) (ps := [(0, (.agg #[(I r45.1.1), (I r45.1.2.1), (Sl a48 r45.1.2.2.1 c49), (I r45.1.2.2.2)]))]) (cs := [(I r45.1.1), (I r45.1.2.1), (Sl a48 r45.1.2.2.1 c49), (I r45.1.2.2.2)]) H hn0 Try.underlying23 ti43 rfl (by show [(0, look 35 ρ 22)] = _; rw [e22]) (by kernel_rfl) (.cons (c := [(I r45.1.1), (I r45.1.2.1), (Sl a48 r45.1.2.2.1 c49), (I r45.1.2.2.2)]) ⟨[(I r45.1.1)], [(I r45.1.2.1), (Sl a48 r45.1.2.2.1 c49), (I r45.1.2.2.2)], rfl, rfl, ⟨[(I r45.1.2.1)], [(Sl a48 r45.1.2.2.1 c49), (I r45.1.2.2.2)], rfl, rfl, ⟨[(Sl a48 r45.1.2.2.1 c49)], [(I r45.1.2.2.2)], rfl, ⟨_, rfl, (H.ro 0 rfl)⟩, rfl⟩⟩⟩ (.nil)) rfl) ?_
        rintro _ σq ⟨b52x, rfl, H2, m2⟩
        exact ⟨_, (a48, c49, a50, c51, b52x), rfl, rfl, ⟨H2.sel' [0, 1, 2, 3, 4, 5, 6, 7, 8] rfl rfl, m.comp0 m2⟩, stab [0, 1, 2, 3] (by kernel_rfl) ⟨rfl, rfl, rfl, rfl, trivial⟩⟩
       trivial) ?_
     exact all_nil
    ·rintro ⟨a48, c49, a50, c51, b52⟩ ρ σ53 hJ hoff hrel
     have e0 := look_off (N := 35) (hoff 0 rfl) rfl
     have e2 := look_off (N := 35) (hoff 2 rfl) rfl
     have e3 := look_off (N := 35) (hoff 3 rfl) rfl
     have e20 := hrel 1 rfl 20 rfl
     have e23 := hrel 4 rfl 23 rfl
     obtain ⟨H, -⟩ := (show Hp S0 σ0 σ53 [Ch.own n0 n0 (Sl (some ⟨b52, 0, none⟩) ([(r45.1.1, (r45.1.2.1, r45.1.2.2.1, r45.1.2.2.2))] : List (Int × (Int × (List Int) × Int))) 1) ([(r45.1.1, (r45.1.2.1, r45.1.2.2.1, r45.1.2.2.2))] : List (Int × (Int × (List Int) × Int))), Ch.ro n0 (Sl a48 r45.1.2.2.1 c49) r45.1.2.2.1, Ch.bx lor_0 br_0 or_0 [(Sl a50 r45.2.1 c51), (I r45.2.2)] prer_0 sufr_0, Ch.ro 0 (Sl a50 r45.2.1 c51) r45.2.1, Ch.ro 0 (Sl a19 r16.2.1 c20) r16.2.1, Ch.bx n0 b13 0 [(Sl a6 r3.1.1 c7), (Sl a8 r3.1.2 c9)] [] [], Ch.own n0 n0 (Sl a6 r3.1.1 c7) r3.1.1, Ch.own n0 n0 (Sl a8 r3.1.2 c9) r3.1.2, Ch.bx n0 b1 0 [(.slice none 0 0), (.slice none 0 0)] [] []] ∧ Md (fun i => (cov []) i ∨ (fun i => (cov [Ch.bx lor_0 br_0 or_0 [(Sl a19 r16.2.1 c20), (I r16.2.2)] prer_0 sufr_0, Ch.ro 0 (Sl a19 r16.2.1 c20) r16.2.1]) i ∨ (fun b => blk (Sl a48 r45.1.2.2.1 c49) = some b) i) i) σ21 σ53 from hJ)
     clear hJ Hs
     rw [fr_lookL (L := [(0, (pt br_0 or_0)), (2, (pt b1 0)), (3, (pt b13 0)), (20, (Sl a6 r3.1.1 c7)), (23, (Sl (some ⟨b52, 0, none⟩) ([(r45.1.1, (r45.1.2.1, r45.1.2.2.1, r45.1.2.2.2))] : List (Int × (Int × (List Int) × Int))) 1))]) ⟨e0, e2, e3, e20, e23, trivial⟩]
     clear hoff hrel e0 e2 e3 e20 e23
     obtain ⟨xs54, hx55, h'⟩ := bind_some h
     clear h
     have h := h'; clear h'
     refine st_ex (ex_append H (i := 6) rfl Try.underlying23 Try.underlying23 ti43 rfl rfl (by decide) (H.own 0 rfl).rd hx55 hn0 rfl rfl) wn ?_
     rintro _ σ58 ⟨a56, c57, rfl, H, -⟩
     replace H : Hp S0 σ0 σ58 [Ch.own n0 n0 (Sl a56 xs54 c57) xs54, Ch.bx lor_0 br_0 or_0 [(Sl a50 r45.2.1 c51), (I r45.2.2)] prer_0 sufr_0, Ch.ro 0 (Sl a50 r45.2.1 c51) r45.2.1, Ch.bx n0 b13 0 [(Sl a6 r3.1.1 c7), (Sl a8 r3.1.2 c9)] [] [], Ch.own n0 n0 (Sl a8 r3.1.2 c9) r3.1.2, Ch.bx n0 b1 0 [(.slice none 0 0), (.slice none 0 0)] [] []] := H.sel' [0, 3, 4, 6, 7, 8] rfl rfl
     refine st (v := (pt b13 0)) (rv_fieldAddr (off := 0) (ft := 23) Try.underlying26 rfl ti23 rfl rfl) ?_
     refine st_exS (ex_store_box (k := 0) (cs := [(Sl a6 r3.1.1 c7), (Sl a8 r3.1.2 c9)]) (vs := [(Sl a56 xs54 c57)]) (cs' := [(Sl a56 xs54 c57), (Sl a8 r3.1.2 c9)]) H (i := 3) rfl ti23 rfl rfl rfl rfl rfl (Nat.le_of_ble_eq_true rfl) (by simp [plain]) rfl) wn ?_
     rintro σ59 ⟨H, -⟩
     refine w_end ?_
     refine q_then ?_
     have hc60 := H.cell (u := (Sl a8 r3.1.2 c9)) (o' := 1) 0 1 rfl rfl rfl
     obtain ⟨r62, hx63, h'⟩ := bind_some h
     clear h
     have h := h'; clear h'
     have hc64 := fun (b61 : Nat) => c_spec_reader_one (lor_0 := lor_0) (br_0 := br_0) (or_0 := or_0) (prer_0 := prer_0) (sufr_0 := sufr_0) (ar_0_0 := a50) (cr_0_0 := c51) (alist_1 := (some ⟨b61, 0, none⟩)) (clist_1 := 2) hx63
     have Hs := H
     refine rg2 (σ := σ59) (Nm := (Nat) × (Option Addr) × (Nat) × (Nat)) 6 [3, 4, 5] [[false, false, false], [true, false, false], [true, true, false], [true, true, true]] [[(0, 0), (1, 1), (2, 2), (3, 3)], [(0, 0), (1, 1), (2, 2), (3, 3)], [(0, 0), (1, 1)], [(0, 1)], [(1, 2)], [(2, 3)]] 3 [fun ((b61, a65, c66, b67) : (Nat) × (Option Addr) × (Nat) × (Nat)) => fun σm => Hp S0 σ0 σm [Ch.bx n0 b13 0 [(Sl a56 xs54 c57), (Sl a8 r3.1.2 c9)] [] [], Ch.own n0 n0 (Sl a56 xs54 c57) xs54, Ch.bx lor_0 br_0 or_0 [(Sl a50 r45.2.1 c51), (I r45.2.2)] prer_0 sufr_0, Ch.ro 0 (Sl a50 r45.2.1 c51) r45.2.1, Ch.own n0 n0 (Sl a8 r3.1.2 c9) r3.1.2, Ch.bx n0 b1 0 [(.slice none 0 0), (.slice none 0 0)] [] []] ∧ Md (cov []) σ59 σm, fun ((b61, a65, c66, b67) : (Nat) × (Option Addr) × (Nat) × (Nat)) => fun σm => Hp S0 σ0 σm [Ch.ro 0 (Sl (some ⟨b61, 0, none⟩) ([0, 900] : List Int) 2) ([0, 900] : List Int), Ch.bx n0 b13 0 [(Sl a56 xs54 c57), (Sl a8 r3.1.2 c9)] [] [], Ch.own n0 n0 (Sl a56 xs54 c57) xs54, Ch.bx lor_0 br_0 or_0 [(Sl a50 r45.2.1 c51), (I r45.2.2)] prer_0 sufr_0, Ch.ro 0 (Sl a50 r45.2.1 c51) r45.2.1, Ch.own n0 n0 (Sl a8 r3.1.2 c9) r3.1.2, Ch.bx n0 b1 0 [(.slice none 0 0), (.slice none 0 0)] [] []] ∧ Md (fun i => (cov []) i ∨ (fun i => (cov []) i ∨ (fun b => blk (Sl (some ⟨b61, 0, none⟩) ([0, 900] : List Int) 2) = some b) i) i) σ59 σm, fun ((b61, a65, c66, b67) : (Nat) × (Option Addr) × (Nat) × (Nat)) => fun σm => Hp S0 σ0 σm [Ch.bx lor_0 br_0 or_0 [(Sl a65 r62.2.1 c66), (I r62.2.2)] prer_0 sufr_0, Ch.ro 0 (Sl a65 r62.2.1 c66) r62.2.1, Ch.ro 0 (Sl (some ⟨b61, 0, none⟩) ([0, 900] : List Int) 2) ([0, 900] : List Int), Ch.bx n0 b13 0 [(Sl a56 xs54 c57), (Sl a8 r3.1.2 c9)] [] [], Ch.own n0 n0 (Sl a56 xs54 c57) xs54, Ch.ro 0 (Sl a50 r45.2.1 c51) r45.2.1, Ch.own n0 n0 (Sl a8 r3.1.2 c9) r3.1.2, Ch.bx n0 b1 0 [(.slice none 0 0), (.slice none 0 0)] [] []] ∧ Md (fun i => (fun i => (cov []) i ∨ (fun i => (cov []) i ∨ (fun b => blk (Sl (some ⟨b61, 0, none⟩) ([0, 900] : List Int) 2) = some b) i) i) i ∨ (cov [Ch.bx lor_0 br_0 or_0 [(Sl a50 r45.2.1 c51), (I r45.2.2)] prer_0 sufr_0, Ch.ro 0 (Sl a50 r45.2.1 c51) r45.2.1, Ch.ro 0 (Sl (some ⟨b61, 0, none⟩) ([0, 900] : List Int) 2) ([0, 900] : List Int)]) i) σ59 σm, fun ((b61, a65, c66, b67) : (Nat) × (Option Addr) × (Nat) × (Nat)) => fun σm => Hp S0 σ0 σm [Ch.own n0 n0 (Sl (some ⟨b67, 0, none⟩) ([r62.1] : List Int) 1) ([r62.1] : List Int), Ch.bx lor_0 br_0 or_0 [(Sl a65 r62.2.1 c66), (I r62.2.2)] prer_0 sufr_0, Ch.ro 0 (Sl a65 r62.2.1 c66) r62.2.1, Ch.ro 0 (Sl (some ⟨b61, 0, none⟩) ([0, 900] : List Int) 2) ([0, 900] : List Int), Ch.bx n0 b13 0 [(Sl a56 xs54 c57), (Sl a8 r3.1.2 c9)] [] [], Ch.own n0 n0 (Sl a56 xs54 c57) xs54, Ch.ro 0 (Sl a50 r45.2.1 c51) r45.2.1, Ch.own n0 n0 (Sl a8 r3.1.2 c9) r3.1.2, Ch.bx n0 b1 0 [(.slice none 0 0), (.slice none 0 0)] [] []] ∧ Md (fun i => (fun i => (cov []) i ∨ (fun i => (cov []) i ∨ (fun b => blk (Sl (some ⟨b61, 0, none⟩) ([0, 900] : List Int) 2) = some b) i) i) i ∨ (cov [Ch.bx lor_0 br_0 or_0 [(Sl a50 r45.2.1 c51), (I r45.2.2)] prer_0 sufr_0, Ch.ro 0 (Sl a50 r45.2.1 c51) r45.2.1, Ch.ro 0 (Sl (some ⟨b61, 0, none⟩) ([0, 900] : List Int) 2) ([0, 900] : List Int)]) i) σ59 σm] [fun ((b61, a65, c66, b67) : (Nat) × (Option Addr) × (Nat) × (Nat)) => (pt b13 1), fun ((b61, a65, c66, b67) : (Nat) × (Option Addr) × (Nat) × (Nat)) => (Sl a8 r3.1.2 c9), fun ((b61, a65, c66, b67) : (Nat) × (Option Addr) × (Nat) × (Nat)) => (pt br_0 or_0), fun ((b61, a65, c66, b67) : (Nat) × (Option Addr) × (Nat) × (Nat)) => (Sl (some ⟨b61, 0, none⟩) ([0, 900] : List Int) 2), fun ((b61, a65, c66, b67) : (Nat) × (Option Addr) × (Nat) × (Nat)) => (I r62.1), fun ((b61, a65, c66, b67) : (Nat) × (Option Addr) × (Nat) × (Nat)) => (Sl (some ⟨b67, 0, none⟩) ([r62.1] : List Int) 1)] (0, none, 0, 0) (by kernel_rfl) (by kernel_rfl) ?_ ?_ ?_
     ·intro σm m0
      exact ⟨H.grow (m0.mono fun _ h => h.elim), m0⟩
     ·refine ac rfl (by
        intro k; rintro ⟨b61, a65, c66, b67⟩ ρ σm hJ hoff hdep
        have e3 := look_off (N := 35) (hoff 3 rfl) rfl
        exact dp_v (v := (pt b13 1)) wn (rv_fieldAddr (off := 1) (ft := 24) Try.underlying26 rfl ti24 rfl e3) rfl hJ) ?_
      refine all_cons (by
        refine ⟨?_, ?_⟩
        ·rintro ⟨b61, a65, c66, b67⟩ ρ σm hJ hoff hdep
         have e26 := hdep 0 rfl rfl 26 rfl
         obtain ⟨H, m⟩ := id hJ
         have hc60 := H.cell (u := (Sl a8 r3.1.2 c9)) (o' := 1) 0 1 rfl rfl rfl
         exact dp_v (v := (Sl a8 r3.1.2 c9)) wn (rv_load1 Try.underlying24 rfl e26 hc60) rfl hJ
        refine ⟨?_, ?_⟩
        ·rintro ⟨b61, a65, c66, b67⟩ ρ σm hJ hoff hdep
         have e26 := hdep 0 rfl rfl 26 rfl
         obtain ⟨H, m⟩ := id hJ
         have hc60 := H.cell (u := (Sl a8 r3.1.2 c9)) (o' := 1) 1 1 rfl rfl rfl
         exact dp_v (v := (Sl a8 r3.1.2 c9)) wn (rv_load1 Try.underlying24 rfl e26 hc60) rfl hJ
        refine ⟨?_, ?_⟩
        ·rintro ⟨b61, a65, c66, b67⟩ ρ σm hJ hoff hdep
         have e26 := hdep 0 rfl rfl 26 rfl
         obtain ⟨H, m⟩ := id hJ
         have hc60 := H.cell (u := (Sl a8 r3.1.2 c9)) (o' := 1) 3 1 rfl rfl rfl
         exact dp_v (v := (Sl a8 r3.1.2 c9)) wn (rv_load1 Try.underlying24 rfl e26 hc60) rfl hJ
        refine ⟨?_, ?_⟩
        ·rintro ⟨b61, a65, c66, b67⟩ ρ σm hJ hoff hdep
         have e26 := hdep 0 rfl rfl 26 rfl
         obtain ⟨H, m⟩ := id hJ
         have hc60 := H.cell (u := (Sl a8 r3.1.2 c9)) (o' := 1) 4 1 rfl rfl rfl
         exact dp_v (v := (Sl a8 r3.1.2 c9)) wn (rv_load1 Try.underlying24 rfl e26 hc60) rfl hJ
        trivial) ?_
      refine ac rfl (by
        intro k; rintro ⟨b61, a65, c66, b67⟩ ρ σm hJ hoff hdep
        have e0 := look_off (N := 35) (hoff 0 rfl) rfl
        exact dp_v (v := (pt br_0 or_0)) wn (rv_move e0) rfl hJ) ?_
      refine all_cons (by
        refine ⟨?_, ?_⟩
        ·rintro ⟨b61, a65, c66, b67⟩ ρ σm hJ hoff hdep
         obtain ⟨H, m⟩ := id hJ
         refine dp_ex wn (ex_buildSlice (el := 0) (xs := ([0, 900] : List Int)) (ps := [(0, (I 0)), (1, (I 900))]) (cs := [(I 0), (I 900)]) H hn0 Try.underlying24 ti3 rfl rfl (by kernel_rfl) (.cons (c := [(I 0)]) rfl (.cons (c := [(I 900)]) rfl (.nil))) rfl) ?_
         rintro _ σq ⟨b61x, rfl, H2, m2⟩
         obtain ⟨σr0, hwr0, H2, mr0⟩ := H2.pub 0 rfl (Nat.zero_le _)
         exact ⟨_, (b61x, a65, c66, b67), hwr0, rfl, ⟨H2.sel' [0, 1, 2, 3, 4, 5, 6] rfl rfl, m.comp (m2.comp mr0)⟩, stab [0, 1, 2] (by kernel_rfl) ⟨rfl, rfl, rfl, trivial⟩⟩
        trivial) ?_
      refine all_cons (by
        refine ⟨?_, ?_⟩
        ·rintro ⟨b61, a65, c66, b67⟩ ρ σm hJ hoff hdep
         have e28 : look 35 ρ 28 = (pt br_0 or_0) := hdep 2 rfl rfl 28 rfl
         have e29 : look 35 ρ 29 = (Sl (some ⟨b61, 0, none⟩) ([0, 900] : List Int) 2) := hdep 3 rfl rfl 29 rfl
         obtain ⟨H, m⟩ := id hJ
         refine dp_cx wn (cx_call (hc64 b61) (ent_f (hc64 b61).fn (by show [look 35 ρ 28, look 35 ρ 29] = _; rw [e28, e29])) hn0 (show Hp S0 σ0 _ ([Ch.bx lor_0 br_0 or_0 [(Sl a50 r45.2.1 c51), (I r45.2.2)] prer_0 sufr_0, Ch.ro 0 (Sl a50 r45.2.1 c51) r45.2.1, Ch.ro 0 (Sl (some ⟨b61, 0, none⟩) ([0, 900] : List Int) 2) ([0, 900] : List Int)] ++ [Ch.ro 0 (Sl (some ⟨b61, 0, none⟩) ([0, 900] : List Int) 2) ([0, 900] : List Int), Ch.bx n0 b13 0 [(Sl a56 xs54 c57), (Sl a8 r3.1.2 c9)] [] [], Ch.own n0 n0 (Sl a56 xs54 c57) xs54, Ch.ro 0 (Sl a50 r45.2.1 c51) r45.2.1, Ch.own n0 n0 (Sl a8 r3.1.2 c9) r3.1.2, Ch.bx n0 b1 0 [(.slice none 0 0), (.slice none 0 0)] [] []]) from (H.sel' [3, 4, 0, 0, 1, 2, 4, 5, 6] rfl rfl))) ?_
         rintro _ σq ⟨_, ⟨a65x, c66x, rfl, rfl⟩, H2, m2⟩
         exact ⟨_, (b61, a65x, c66x, b67), rfl, rfl, ⟨H2.sel' [0, 1, 2, 3, 4, 5, 6, 7] rfl rfl, m.comp m2⟩, stab [0, 1, 2, 3] (by kernel_rfl) ⟨rfl, rfl, rfl, rfl, trivial⟩⟩
        trivial) ?_
      refine all_cons (by
        refine ⟨?_, ?_⟩
        ·rintro ⟨b61, a65, c66, b67⟩ ρ σm hJ hoff hdep
         have e30 : look 35 ρ 30 = (I r62.1) := hdep 4 rfl rfl 30 rfl
         obtain ⟨H, m⟩ := id hJ
         refine dp_ex wn (ex_buildSlice (el := n0) (xs := ([r62.1] : List Int)) (ps := [(0, (I r62.1))]) (cs := [(I r62.1)]) H hn0 Try.underlying24 ti3 rfl (by show [(0, look 35 ρ 30)] = _; rw [e30]) (by kernel_rfl) (.cons (c := [(I r62.1)]) rfl (.nil)) rfl) ?_
         rintro _ σq ⟨b67x, rfl, H2, m2⟩
         exact ⟨_, (b61, a65, c66, b67x), rfl, rfl, ⟨H2.sel' [0, 1, 2, 3, 4, 5, 6, 7, 8] rfl rfl, m.comp0 m2⟩, stab [0, 1, 2, 3, 4] (by kernel_rfl) ⟨rfl, rfl, rfl, rfl, rfl, trivial⟩⟩
        trivial) ?_
      exact all_nil
     ·rintro ⟨b61, a65, c66, b67⟩ ρ σ68 hJ hoff hrel
      have e0 := look_off (N := 35) (hoff 0 rfl) rfl
      have e2 := look_off (N := 35) (hoff 2 rfl) rfl
      have e3 := look_off (N := 35) (hoff 3 rfl) rfl
      have e27 := hrel 1 rfl 27 rfl
      have e31 := hrel 5 rfl 31 rfl
      obtain ⟨H, -⟩ := (show Hp S0 σ0 σ68 [Ch.own n0 n0 (Sl (some ⟨b67, 0, none⟩) ([r62.1] : List Int) 1) ([r62.1] : List Int), Ch.bx lor_0 br_0 or_0 [(Sl a65 r62.2.1 c66), (I r62.2.2)] prer_0 sufr_0, Ch.ro 0 (Sl a65 r62.2.1 c66) r62.2.1, Ch.ro 0 (Sl (some ⟨b61, 0, none⟩) ([0, 900] : List Int) 2) ([0, 900] : List Int), Ch.bx n0 b13 0 [(Sl a56 xs54 c57), (Sl a8 r3.1.2 c9)] [] [], Ch.own n0 n0 (Sl a56 xs54 c57) xs54, Ch.ro 0 (Sl a50 r45.2.1 c51) r45.2.1, Ch.own n0 n0 (Sl a8 r3.1.2 c9) r3.1.2, Ch.bx n0 b1 0 [(.slice none 0 0), (.slice none 0 0)] [] []] ∧ Md (fun i => (fun i => (cov []) i ∨ (fun i => (cov []) i ∨ (fun b => blk (Sl (some ⟨b61, 0, none⟩) ([0, 900] : List Int) 2) = some b) i) i) i ∨ (cov [Ch.bx lor_0 br_0 or_0 [(Sl a50 r45.2.1 c51), (I r45.2.2)] prer_0 sufr_0, Ch.ro 0 (Sl a50 r45.2.1 c51) r45.2.1, Ch.ro 0 (Sl (some ⟨b61, 0, none⟩) ([0, 900] : List Int) 2) ([0, 900] : List Int)]) i) σ59 σ68 from hJ)
      clear hJ Hs
      rw [fr_lookL (L := [(0, (pt br_0 or_0)), (2, (pt b1 0)), (3, (pt b13 0)), (27, (Sl a8 r3.1.2 c9)), (31, (Sl (some ⟨b67, 0, none⟩) ([r62.1] : List Int) 1))]) ⟨e0, e2, e3, e27, e31, trivial⟩]
      clear hoff hrel e0 e2 e3 e27 e31
      obtain ⟨xs69, hx70, h'⟩ := bind_some h
      clear h
      have h := h'; clear h'
      refine st_ex (ex_append H (i := 7) rfl Try.underlying24 Try.underlying24 ti3 rfl rfl (by decide) (H.own 0 rfl).rd hx70 hn0 rfl rfl) wn ?_
      rintro _ σ73 ⟨a71, c72, rfl, H, -⟩
      replace H : Hp S0 σ0 σ73 [Ch.own n0 n0 (Sl a71 xs69 c72) xs69, Ch.bx lor_0 br_0 or_0 [(Sl a65 r62.2.1 c66), (I r62.2.2)] prer_0 sufr_0, Ch.ro 0 (Sl a65 r62.2.1 c66) r62.2.1, Ch.bx n0 b13 0 [(Sl a56 xs54 c57), (Sl a8 r3.1.2 c9)] [] [], Ch.own n0 n0 (Sl a56 xs54 c57) xs54, Ch.bx n0 b1 0 [(.slice none 0 0), (.slice none 0 0)] [] []] := H.sel' [0, 2, 3, 5, 6, 8] rfl rfl
      refine st (v := (pt b13 1)) (rv_fieldAddr (off := 1) (ft := 24) Try.underlying26 rfl ti24 rfl rfl) ?_
      refine st_exS (ex_store_box (k := 1) (cs := [(Sl a56 xs54 c57), (Sl a8 r3.1.2 c9)]) (vs := [(Sl a71 xs69 c72)]) (cs' := [(Sl a56 xs54 c57), (Sl a71 xs69 c72)]) H (i := 3) rfl ti24 rfl rfl rfl rfl rfl (Nat.le_of_ble_eq_true rfl) (by simp [plain]) rfl) wn ?_
      rintro σ74 ⟨H, -⟩
      refine w_end ?_
      refine q_blk ?_
      obtain rfl := Option.some.inj h
      exact ⟨rfl, _, σ74, a65, c66, a56, c57, a71, c72, fr_join ⟨rfl, rfl, rfl, trivial⟩, rfl, H.sel' [2, 3, 0, 4, 1, 5] rfl rfl⟩
   ·replace h := bif_f hb43 h
    refine c_skip ?_
    refine q_blk ?_
    obtain rfl := Option.some.inj h
    exact ⟨rfl, _, σ21, a19, c20, a6, c7, a8, c9, fr_join ⟨rfl, rfl, rfl, trivial⟩, rfl, H.sel' [0, 1, 2, 3, 4, 5] rfl rfl⟩
 ·clear hj
  have h := h'
  clear h' H
  rintro e a w ⟨rfl, ρ, σ75, a76, c77, a78, c79, a80, c81, rfl, rfl, H⟩
  refine q_then ?_
  refine c_seq ?_
  refine rg ?_
  have hc82 := H.cells 2 rfl
  refine st (v := (.agg #[(Sl a78 o22.2.1 c79), (Sl a80 o22.2.2 c81)])) (rv_load (cs := [(Sl a78 o22.2.1 c79), (Sl a80 o22.2.2 c81)]) Try.underlying26 rfl ti26 rfl rfl hc82) ?_
  refine st_exS (ex_store_box (k := 0) (cs := [(.slice none 0 0), (.slice none 0 0)]) (vs := [(Sl a78 o22.2.1 c79), (Sl a80 o22.2.2 c81)]) (cs' := [(Sl a78 o22.2.1 c79), (Sl a80 o22.2.2 c81)]) H (i := 5) rfl ti26 rfl rfl rfl rfl rfl (Nat.le_of_ble_eq_true rfl) (by simp [plain]) rfl) wn ?_
  rintro σ83 ⟨H, -⟩
  refine w_end ?_
  refine q_then ?_
  refine c_ret ?_
  obtain rfl := Option.some.inj h
  exact fin_ret (v := (.agg #[(Sl a78 o22.2.1 c79), (Sl a80 o22.2.2 c81)])) (results_ok Try.results40 (res_cell rfl (run_cellRes (cs := [(Sl a78 o22.2.1 c79), (Sl a80 o22.2.2 c81)]) Try.underlying26 rfl ti26 rfl (H.cells 0 rfl)) res_nil) rfl) ⟨a78, c79, a80, c81, a76, c77, rfl, rfl⟩ (H.sel' [4, 5, 1, 2] rfl rfl)

theorem c_spec_newReader {code_0 : List UInt8} {acode_0 : Option Addr} {ccode_0 : Nat} {r : ((List UInt8) × Int)} (h : M.spec_newReader code_0 = some r) :
    Cal2 Try.prog 41 [(Sl acode_0 code_0 ccode_0)] [Ch.ro 0 (Sl acode_0 code_0 ccode_0) code_0] (fun n0 v L => ∃ (bz1 : Nat), ∃ (az2 : Option Addr), ∃ (cz3 : Nat), v = (pt bz1 0) ∧ L = [Ch.bx n0 bz1 0 [(Sl az2 r.1 cz3), (I r.2)] [] [], Ch.ro 0 (Sl az2 r.1 cz3) r.1]) := by
 refine cal2 (n := 11) Try.func41 rfl rfl rfl rfl ?_
 intro S0 σ0 n0 hn0 H
 unfold M.spec_newReader at h
 refine c_seq ?_
 refine rg ?_
 refine st (v := (.pointer none)) (rv_assign rfl) ?_
 refine w_end ?_
 refine q_then ?_
 refine c_seq ?_
 refine c_seq ?_
 refine rg ?_
 refine st (v := (Sl acode_0 code_0 ccode_0)) (rv_move rfl) ?_
 refine st (v := (I (code_0.length : Int))) (rv_len Try.underlying22 rfl) ?_
 refine st (v := (B (decide (2000 < (code_0.length : Int))))) (rv_gtr (a := (code_0.length : Int)) (b := 2000) rfl rfl) ?_
 refine w_end ?_
 refine q_then ?_
 obtain ⟨o1, hj, h'⟩ := bind_some h
 clear h
 refine c_cut (fun e a w => e = .normal ∧ ∃ (ρ : Nat → Value) (σ : St) (aj1 : Option Addr) (cj2 : Nat), a = fr 11 (updL ρ [(0, (Sl aj1 o1 cj2))]) ∧ w = σ.w ∧ Hp S0 σ0 σ [Ch.ro 0 (Sl aj1 o1 cj2) o1]) ?_ ?_
 ·clear h'
  rename _ = some o1 => h
  refine cd_cond (decide (2000 < (code_0.length : Int))) rfl (fun hb2 => ?_) (fun hb2 => ?_)
  ·replace h := bif_t hb2 h
   refine rg ?_
   refine st (v := (Sl acode_0 code_0 ccode_0)) (rv_move rfl) ?_
   obtain ⟨xs3, hx4, h'⟩ := bind_some h
   clear h
   have h := h'; clear h'
   obtain ⟨a5, c6, hs7, hR8⟩ := (H.ro 0 rfl).slice hx4
   replace H := H.add (d := Ch.ro 0 (Sl a5 xs3 c6) xs3) hR8 (fun _ h => h)
   clear hR8
   refine st (v := (Sl a5 xs3 c6)) (rv_slice_h Try.underlying22 ti5 hs7 rfl rfl) ?_
   refine st (v := (Sl a5 xs3 c6)) (rv_assign rfl) ?_
   refine w_end ?_
   obtain rfl := Option.some.inj h
   exact ⟨rfl, _, σ0, a5, c6, fr_join ⟨rfl, trivial⟩, rfl, H.sel' [0] rfl rfl⟩
  ·replace h := bif_f hb2 h
   refine c_skip ?_
   obtain rfl := Option.some.inj h
   exact ⟨rfl, _, σ0, acode_0, ccode_0, fr_join ⟨rfl, trivial⟩, rfl, H.sel' [0] rfl rfl⟩
 ·clear hj
  have h := h'
  clear h' H
  rintro e a w ⟨rfl, ρ, σ9, a10, c11, rfl, rfl, H⟩
  refine q_then ?_
  refine c_seq ?_
  refine rg ?_
  refine st (v := (Sl a10 o1 c11)) (rv_move rfl) ?_
  refine st (v := (.agg #[(Sl a10 o1 c11), (I 0)])) (rv_build (ps := [(0, (Sl a10 o1 c11))]) Try.underlying101 ti101 (bp101 Try.underlying101) rfl (by kernel_rfl)) ?_
  refine st_ex (ex_box (cs := [(Sl a10 o1 c11), (I 0)]) H hn0 rfl rfl) wn ?_
  rintro _ σ13 ⟨b12, rfl, H, -⟩
  refine st (v := (pt b12 0)) (rv_assign rfl) ?_
  refine w_end ?_
  refine q_then ?_
  refine c_ret ?_
  obtain rfl := Option.some.inj h
  exact fin_ret (v := (pt b12 0)) (results_ok Try.results41 (res_tmp (v := (pt b12 0)) rfl res_nil) rfl) ⟨b12, a10, c11, rfl, rfl⟩ (H.sel' [0, 1] rfl rfl)

theorem c_spec_historyTime {r_0 : (List UInt8) × Int} {h_1 : (List (Int × (Int × (List Int) × Int))) × (List Int)} {ar_0_0 : Option Addr} {cr_0_0 : Nat} {lor_0 br_0 or_0 : Nat} {prer_0 sufr_0 : List Value} {ah_1_0 : Option Addr} {ch_1_0 : Nat} {ah_1_1 : Option Addr} {ch_1_1 : Nat} {r : Int × ((List UInt8) × Int)} (h : M.spec_historyTime r_0 h_1 = some r) :
    Cal2 Try.prog 45 [(pt br_0 or_0), (.agg #[(Sl ah_1_0 h_1.1 ch_1_0), (Sl ah_1_1 h_1.2 ch_1_1)])] [Ch.bx lor_0 br_0 or_0 [(Sl ar_0_0 r_0.1 cr_0_0), (I r_0.2)] prer_0 sufr_0, Ch.ro 0 (Sl ar_0_0 r_0.1 cr_0_0) r_0.1, Ch.ro 0 (Sl ah_1_0 h_1.1 ch_1_0) h_1.1, Ch.ro 0 (Sl ah_1_1 h_1.2 ch_1_1) h_1.2] (fun n0 v L => ∃ (az1 : Option Addr), ∃ (cz2 : Nat), v = (I r.1) ∧ L = [Ch.bx lor_0 br_0 or_0 [(Sl az1 r.2.1 cz2), (I r.2.2)] prer_0 sufr_0, Ch.ro 0 (Sl az1 r.2.1 cz2) r.2.1]) := by
 refine cal2 (n := 30) Try.func45 rfl rfl rfl rfl ?_
 intro S0 σ0 n0 hn0 H
 unfold M.spec_historyTime at h
 refine c_seq ?_
 refine rg ?_
 refine st_ex (ex_box (cs := [(Sl ah_1_0 h_1.1 ch_1_0), (Sl ah_1_1 h_1.2 ch_1_1)]) H hn0 rfl rfl) wn ?_
 rintro _ σ2 ⟨b1, rfl, H, -⟩
 refine st (v := (I 0)) (rv_assign rfl) ?_
 refine w_end ?_
 refine q_then ?_
 refine c_seq ?_
 refine c_seq ?_
 obtain ⟨o3, hj, h'⟩ := bind_some h
 clear h
 refine c_cut (fun e a w => e = .normal ∧ ∃ (ρ : Nat → Value) (σ : St) (aj1 : Option Addr) (cj2 : Nat), a = fr 30 (updL ρ [(0, (pt br_0 or_0)), (3, (pt b1 0)), (13, (B o3.2))]) ∧ w = σ.w ∧ Hp S0 σ0 σ [Ch.bx lor_0 br_0 or_0 [(Sl aj1 o3.1.1 cj2), (I o3.1.2)] prer_0 sufr_0, Ch.ro 0 (Sl aj1 o3.1.1 cj2) o3.1.1, Ch.ro 0 (Sl ah_1_0 h_1.1 ch_1_0) h_1.1, Ch.ro 0 (Sl ah_1_1 h_1.2 ch_1_1) h_1.2, Ch.bx n0 b1 0 [(Sl ah_1_0 h_1.1 ch_1_0), (Sl ah_1_1 h_1.2 ch_1_1)] [] []]) ?_ ?_
 ·clear h'
  rename _ = some o3 => h
  refine rg ?_
  refine st (v := (pt b1 1)) (rv_fieldAddr (off := 1) (ft := 24) Try.underlying26 rfl ti24 rfl rfl) ?_
  have hc4 := H.cell (u := (Sl ah_1_1 h_1.2 ch_1_1)) (o' := 1) 0 1 rfl rfl rfl
  refine st (v := (Sl ah_1_1 h_1.2 ch_1_1)) (rv_load1 Try.underlying24 rfl rfl hc4) ?_
  refine st (v := (I (h_1.2.length : Int))) (rv_len Try.underlying24 rfl) ?_
  refine st (v := (B (decide (0 < (h_1.2.length : Int))))) (rv_gtr (a := (h_1.2.length : Int)) (b := 0) rfl rfl) ?_
  refine st (v := (B (decide (0 < (h_1.2.length : Int))))) (rv_move rfl) ?_
  rcases Bool.eq_false_or_eq_true (decide (0 < (h_1.2.length : Int))) with hb5 | hb5
  ·replace h := bif_t hb5 h
   refine st_g (v := (pt br_0 or_0)) (congrArg some hb5) (rv_move rfl) ?_
   obtain ⟨r6, hx7, h'⟩ := bind_some h
   clear h
   have h := h'; clear h'
   have hc8 := c_spec_reader_pick (lor_0 := lor_0) (br_0 := br_0) (or_0 := or_0) (prer_0 := prer_0) (sufr_0 := sufr_0) (ar_0_0 := ar_0_0) (cr_0_0 := cr_0_0) hx7
   refine st_call (cx_call hc8 (ent_f hc8.fn rfl) hn0 (show Hp S0 σ0 _ ([Ch.bx lor_0 br_0 or_0 [(Sl ar_0_0 r_0.1 cr_0_0), (I r_0.2)] prer_0 sufr_0, Ch.ro 0 (Sl ar_0_0 r_0.1 cr_0_0) r_0.1] ++ [Ch.bx n0 b1 0 [(Sl ah_1_0 h_1.1 ch_1_0), (Sl ah_1_1 h_1.2 ch_1_1)] [] [], Ch.ro 0 (Sl ar_0_0 r_0.1 cr_0_0) r_0.1, Ch.ro 0 (Sl ah_1_0 h_1.1 ch_1_0) h_1.1, Ch.ro 0 (Sl ah_1_1 h_1.2 ch_1_1) h_1.2]) from (H.sel' [1, 2, 0, 2, 3, 4] rfl rfl))) (wanted_yes rfl (by exact (congrArg some hb5))) ?_
   rintro _ σ11 ⟨_, ⟨a9, c10, rfl, rfl⟩, H, -⟩
   replace H : Hp S0 σ0 σ11 [Ch.bx lor_0 br_0 or_0 [(Sl a9 r6.2.1 c10), (I r6.2.2)] prer_0 sufr_0, Ch.ro 0 (Sl a9 r6.2.1 c10) r6.2.1, Ch.bx n0 b1 0 [(Sl ah_1_0 h_1.1 ch_1_0), (Sl ah_1_1 h_1.2 ch_1_1)] [] [], Ch.ro 0 (Sl ar_0_0 r_0.1 cr_0_0) r_0.1, Ch.ro 0 (Sl ah_1_0 h_1.1 ch_1_0) h_1.1, Ch.ro 0 (Sl ah_1_1 h_1.2 ch_1_1) h_1.2] := H
   refine st_g (v := (B (decide (0 < r6.1)))) (congrArg some hb5) (rv_gtr (a := r6.1) (b := 0) rfl rfl) ?_
   refine st (v := (B (decide (0 < r6.1)))) (rv_pick_t (congrArg B hb5) rfl) ?_
   refine w_end ?_
   obtain rfl := Option.some.inj h
   exact ⟨rfl, _, σ11, a9, c10, fr_join ⟨rfl, rfl, rfl, trivial⟩, rfl, H.sel' [0, 1, 4, 5, 2] rfl rfl⟩
  ·replace h := bif_f hb5 h
   refine st_skip (congrArg some hb5) ?_
   refine st_skip (congrArg some hb5) ?_
   refine st_skip (congrArg some hb5) ?_
   refine st (v := (B false)) (rv_pick_f (congrArg B hb5) rfl) ?_
   refine w_end ?_
   obtain rfl := Option.some.inj h
   exact ⟨rfl, _, σ2, ar_0_0, cr_0_0, fr_join ⟨rfl, rfl, rfl, trivial⟩, rfl, H.sel' [1, 2, 3, 4, 0] rfl rfl⟩
 ·clear hj
  have h := h'
  clear h' H
  rintro e a w ⟨rfl, ρ, σ12, a13, c14, rfl, rfl, H⟩
  refine q_then ?_
  refine cd_cond o3.2 rfl (fun hb15 => ?_) (fun hb15 => ?_)
  ·replace h := bif_t hb15 h
   refine c_seq ?_
   have hc16 := H.cell (u := (Sl ah_1_1 h_1.2 ch_1_1)) (o' := 1) 4 1 rfl rfl rfl
   have hc17 := H.cell (u := (Sl ah_1_1 h_1.2 ch_1_1)) (o' := 1) 4 1 rfl rfl rfl
   obtain ⟨r18, hx19, h'⟩ := bind_some h
   clear h
   have h := h'; clear h'
   have hc20 := c_spec_reader_pick (lor_0 := lor_0) (br_0 := br_0) (or_0 := or_0) (prer_0 := prer_0) (sufr_0 := sufr_0) (ar_0_0 := a13) (cr_0_0 := c14) hx19
   obtain ⟨x23, hx24, h'⟩ := bind_some h
   clear h
   have h := h'; clear h'
   obtain ⟨b26, o27, hi25, -⟩ := (H.ro 3 rfl).ix hx24
   have hc28 := ((H.ro 3 rfl).at hx24 hi25).int
   obtain ⟨r30, hx31, h'⟩ := bind_some h
   clear h
   have h := h'; clear h'
   have hc32 := fun (a21 : Option Addr) (c22 : Nat) (b29 : Nat) => c_spec_reader_one (lor_0 := lor_0) (br_0 := br_0) (or_0 := or_0) (prer_0 := prer_0) (sufr_0 := sufr_0) (ar_0_0 := a21) (cr_0_0 := c22) (alist_1 := (some ⟨b29, 0, none⟩)) (clist_1 := 4) hx31
   have Hs := H
   refine rg2 (σ := σ12) (Nm := (Option Addr) × (Nat) × (Nat) × (Option Addr) × (Nat)) 12 [6, 10, 11] [[false, false, false], [true, false, false], [false, true, false], [true, true, false], [true, true, true]] [[(0, 0), (1, 1), (2, 2), (3, 3), (4, 4)], [(0, 0), (1, 1), (2, 2), (3, 3), (4, 4)], [(0, 0), (2, 2)], [(0, 0), (2, 2)], [(0, 0), (2, 2)], [(0, 0), (2, 2)], [(0, 1), (2, 3)], [(1, 1), (3, 3), (4, 4)], [(1, 1), (3, 3), (4, 4)], [(0, 0), (1, 1), (2, 2), (3, 3)], [(0, 2), (1, 3)], [(3, 4)]] 4 [fun ((a21, c22, b29, a33, c34) : (Option Addr) × (Nat) × (Nat) × (Option Addr) × (Nat)) => fun σm => Hp S0 σ0 σm [Ch.bx lor_0 br_0 or_0 [(Sl a13 o3.1.1 c14), (I o3.1.2)] prer_0 sufr_0, Ch.ro 0 (Sl a13 o3.1.1 c14) o3.1.1, Ch.ro 0 (Sl ah_1_0 h_1.1 ch_1_0) h_1.1, Ch.ro 0 (Sl ah_1_1 h_1.2 ch_1_1) h_1.2, Ch.bx n0 b1 0 [(Sl ah_1_0 h_1.1 ch_1_0), (Sl ah_1_1 h_1.2 ch_1_1)] [] []] ∧ Md (cov []) σ12 σm, fun ((a21, c22, b29, a33, c34) : (Option Addr) × (Nat) × (Nat) × (Option Addr) × (Nat)) => fun σm => Hp S0 σ0 σm [Ch.bx lor_0 br_0 or_0 [(Sl a21 r18.2.1 c22), (I r18.2.2)] prer_0 sufr_0, Ch.ro 0 (Sl a21 r18.2.1 c22) r18.2.1, Ch.ro 0 (Sl a13 o3.1.1 c14) o3.1.1, Ch.ro 0 (Sl ah_1_0 h_1.1 ch_1_0) h_1.1, Ch.ro 0 (Sl ah_1_1 h_1.2 ch_1_1) h_1.2, Ch.bx n0 b1 0 [(Sl ah_1_0 h_1.1 ch_1_0), (Sl ah_1_1 h_1.2 ch_1_1)] [] []] ∧ Md (fun i => (cov []) i ∨ (cov [Ch.bx lor_0 br_0 or_0 [(Sl a13 o3.1.1 c14), (I o3.1.2)] prer_0 sufr_0, Ch.ro 0 (Sl a13 o3.1.1 c14) o3.1.1]) i) σ12 σm, fun ((a21, c22, b29, a33, c34) : (Option Addr) × (Nat) × (Nat) × (Option Addr) × (Nat)) => fun σm => Hp S0 σ0 σm [Ch.ro 0 (Sl (some ⟨b29, 0, none⟩) ([0, 0, -1, 1] : List Int) 4) ([0, 0, -1, 1] : List Int), Ch.bx lor_0 br_0 or_0 [(Sl a13 o3.1.1 c14), (I o3.1.2)] prer_0 sufr_0, Ch.ro 0 (Sl a13 o3.1.1 c14) o3.1.1, Ch.ro 0 (Sl ah_1_0 h_1.1 ch_1_0) h_1.1, Ch.ro 0 (Sl ah_1_1 h_1.2 ch_1_1) h_1.2, Ch.bx n0 b1 0 [(Sl ah_1_0 h_1.1 ch_1_0), (Sl ah_1_1 h_1.2 ch_1_1)] [] []] ∧ Md (fun i => (cov []) i ∨ (fun i => (cov []) i ∨ (fun b => blk (Sl (some ⟨b29, 0, none⟩) ([0, 0, -1, 1] : List Int) 4) = some b) i) i) σ12 σm, fun ((a21, c22, b29, a33, c34) : (Option Addr) × (Nat) × (Nat) × (Option Addr) × (Nat)) => fun σm => Hp S0 σ0 σm [Ch.ro 0 (Sl (some ⟨b29, 0, none⟩) ([0, 0, -1, 1] : List Int) 4) ([0, 0, -1, 1] : List Int), Ch.bx lor_0 br_0 or_0 [(Sl a21 r18.2.1 c22), (I r18.2.2)] prer_0 sufr_0, Ch.ro 0 (Sl a21 r18.2.1 c22) r18.2.1, Ch.ro 0 (Sl a13 o3.1.1 c14) o3.1.1, Ch.ro 0 (Sl ah_1_0 h_1.1 ch_1_0) h_1.1, Ch.ro 0 (Sl ah_1_1 h_1.2 ch_1_1) h_1.2, Ch.bx n0 b1 0 [(Sl ah_1_0 h_1.1 ch_1_0), (Sl ah_1_1 h_1.2 ch_1_1)] [] []] ∧ Md (fun i => (fun i => (cov []) i ∨ (cov [Ch.bx lor_0 br_0 or_0 [(Sl a13 o3.1.1 c14), (I o3.1.2)] prer_0 sufr_0, Ch.ro 0 (Sl a13 o3.1.1 c14) o3.1.1]) i) i ∨ (fun i => (cov []) i ∨ (fun b => blk (Sl (some ⟨b29, 0, none⟩) ([0, 0, -1, 1] : List Int) 4) = some b) i) i) σ12 σm, fun ((a21, c22, b29, a33, c34) : (Option Addr) × (Nat) × (Nat) × (Option Addr) × (Nat)) => fun σm => Hp S0 σ0 σm [Ch.bx lor_0 br_0 or_0 [(Sl a33 r30.2.1 c34), (I r30.2.2)] prer_0 sufr_0, Ch.ro 0 (Sl a33 r30.2.1 c34) r30.2.1, Ch.ro 0 (Sl (some ⟨b29, 0, none⟩) ([0, 0, -1, 1] : List Int) 4) ([0, 0, -1, 1] : List Int), Ch.ro 0 (Sl a21 r18.2.1 c22) r18.2.1, Ch.ro 0 (Sl a13 o3.1.1 c14) o3.1.1, Ch.ro 0 (Sl ah_1_0 h_1.1 ch_1_0) h_1.1, Ch.ro 0 (Sl ah_1_1 h_1.2 ch_1_1) h_1.2, Ch.bx n0 b1 0 [(Sl ah_1_0 h_1.1 ch_1_0), (Sl ah_1_1 h_1.2 ch_1_1)] [] []] ∧ Md (fun i => (fun i => (fun i => (cov []) i ∨ (cov [Ch.bx lor_0 br_0 or_0 [(Sl a13 o3.1.1 c14), (I o3.1.2)] prer_0 sufr_0, Ch.ro 0 (Sl a13 o3.1.1 c14) o3.1.1]) i) i ∨ (fun i => (cov []) i ∨ (fun b => blk (Sl (some ⟨b29, 0, none⟩) ([0, 0, -1, 1] : List Int) 4) = some b) i) i) i ∨ (cov [Ch.bx lor_0 br_0 or_0 [(Sl a21 r18.2.1 c22), (I r18.2.2)] prer_0 sufr_0, Ch.ro 0 (Sl a21 r18.2.1 c22) r18.2.1, Ch.ro 0 (Sl (some ⟨b29, 0, none⟩) ([0, 0, -1, 1] : List Int) 4) ([0, 0, -1, 1] : List Int)]) i) σ12 σm] [fun ((a21, c22, b29, a33, c34) : (Option Addr) × (Nat) × (Nat) × (Option Addr) × (Nat)) => (pt b1 1), fun ((a21, c22, b29, a33, c34) : (Option Addr) × (Nat) × (Nat) × (Option Addr) × (Nat)) => (Sl ah_1_1 h_1.2 ch_1_1), fun ((a21, c22, b29, a33, c34) : (Option Addr) × (Nat) × (Nat) × (Option Addr) × (Nat)) => (pt br_0 or_0), fun ((a21, c22, b29, a33, c34) : (Option Addr) × (Nat) × (Nat) × (Option Addr) × (Nat)) => (pt b1 1), fun ((a21, c22, b29, a33, c34) : (Option Addr) × (Nat) × (Nat) × (Option Addr) × (Nat)) => (Sl ah_1_1 h_1.2 ch_1_1), fun ((a21, c22, b29, a33, c34) : (Option Addr) × (Nat) × (Nat) × (Option Addr) × (Nat)) => (I (h_1.2.length : Int)), fun ((a21, c22, b29, a33, c34) : (Option Addr) × (Nat) × (Nat) × (Option Addr) × (Nat)) => (I r18.1), fun ((a21, c22, b29, a33, c34) : (Option Addr) × (Nat) × (Nat) × (Option Addr) × (Nat)) => (pt b26 o27), fun ((a21, c22, b29, a33, c34) : (Option Addr) × (Nat) × (Nat) × (Option Addr) × (Nat)) => (I x23), fun ((a21, c22, b29, a33, c34) : (Option Addr) × (Nat) × (Nat) × (Option Addr) × (Nat)) => (pt br_0 or_0), fun ((a21, c22, b29, a33, c34) : (Option Addr) × (Nat) × (Nat) × (Option Addr) × (Nat)) => (Sl (some ⟨b29, 0, none⟩) ([0, 0, -1, 1] : List Int) 4), fun ((a21, c22, b29, a33, c34) : (Option Addr) × (Nat) × (Nat) × (Option Addr) × (Nat)) => (I r30.1)] (none, 0, 0, none, 0) (by kernel_rfl) (by kernel_rfl) ?_ ?_ ?_
   ·intro σm m0
    exact ⟨H.grow (m0.mono fun _ h => h.elim), m0⟩
   ·refine ac rfl (by
      intro k; rintro ⟨a21, c22, b29, a33, c34⟩ ρ σm hJ hoff hdep
      have e3 := look_off (N := 30) (hoff 3 rfl) rfl
      exact dp_v (v := (pt b1 1)) wn (rv_fieldAddr (off := 1) (ft := 24) Try.underlying26 rfl ti24 rfl e3) rfl hJ) ?_
    refine all_cons (by
      refine ⟨?_, ?_⟩
      ·rintro ⟨a21, c22, b29, a33, c34⟩ ρ σm hJ hoff hdep
       have e14 := hdep 0 rfl rfl 14 rfl
       obtain ⟨H, m⟩ := id hJ
       have hc16 := H.cell (u := (Sl ah_1_1 h_1.2 ch_1_1)) (o' := 1) 4 1 rfl rfl rfl
       exact dp_v (v := (Sl ah_1_1 h_1.2 ch_1_1)) wn (rv_load1 Try.underlying24 rfl e14 hc16) rfl hJ
      refine ⟨?_, ?_⟩
      ·rintro ⟨a21, c22, b29, a33, c34⟩ ρ σm hJ hoff hdep
       have e14 := hdep 0 rfl rfl 14 rfl
       obtain ⟨H, m⟩ := id hJ
       have hc16 := H.cell (u := (Sl ah_1_1 h_1.2 ch_1_1)) (o' := 1) 5 1 rfl rfl rfl
       exact dp_v (v := (Sl ah_1_1 h_1.2 ch_1_1)) wn (rv_load1 Try.underlying24 rfl e14 hc16) rfl hJ
      refine ⟨?_, ?_⟩
      ·rintro ⟨a21, c22, b29, a33, c34⟩ ρ σm hJ hoff hdep
       have e14 := hdep 0 rfl rfl 14 rfl
       obtain ⟨H, m⟩ := id hJ
       have hc16 := H.cell (u := (Sl ah_1_1 h_1.2 ch_1_1)) (o' := 1) 5 1 rfl rfl rfl
       exact dp_v (v := (Sl ah_1_1 h_1.2 ch_1_1)) wn (rv_load1 Try.underlying24 rfl e14 hc16) rfl hJ
      refine ⟨?_, ?_⟩
      ·rintro ⟨a21, c22, b29, a33, c34⟩ ρ σm hJ hoff hdep
       have e14 := hdep 0 rfl rfl 14 rfl
       obtain ⟨H, m⟩ := id hJ
       have hc16 := H.cell (u := (Sl ah_1_1 h_1.2 ch_1_1)) (o' := 1) 6 1 rfl rfl rfl
       exact dp_v (v := (Sl ah_1_1 h_1.2 ch_1_1)) wn (rv_load1 Try.underlying24 rfl e14 hc16) rfl hJ
      refine ⟨?_, ?_⟩
      ·rintro ⟨a21, c22, b29, a33, c34⟩ ρ σm hJ hoff hdep
       have e14 := hdep 0 rfl rfl 14 rfl
       obtain ⟨H, m⟩ := id hJ
       have hc16 := H.cell (u := (Sl ah_1_1 h_1.2 ch_1_1)) (o' := 1) 7 1 rfl rfl rfl
       exact dp_v (v := (Sl ah_1_1 h_1.2 ch_1_1)) wn (rv_load1 Try.underlying24 rfl e14 hc16) rfl hJ
      trivial) ?_
    refine ac rfl (by
      intro k; rintro ⟨a21, c22, b29, a33, c34⟩ ρ σm hJ hoff hdep
      have e0 := look_off (N := 30) (hoff 0 rfl) rfl
      exact dp_v (v := (pt br_0 or_0)) wn (rv_move e0) rfl hJ) ?_
    refine ac rfl (by
      intro k; rintro ⟨a21, c22, b29, a33, c34⟩ ρ σm hJ hoff hdep
      have e3 := look_off (N := 30) (hoff 3 rfl) rfl
      exact dp_v (v := (pt b1 1)) wn (rv_fieldAddr (off := 1) (ft := 24) Try.underlying26 rfl ti24 rfl e3) rfl hJ) ?_
    refine all_cons (by
      refine ⟨?_, ?_⟩
      ·rintro ⟨a21, c22, b29, a33, c34⟩ ρ σm hJ hoff hdep
       have e17 := hdep 3 rfl rfl 17 rfl
       obtain ⟨H, m⟩ := id hJ
       have hc17 := H.cell (u := (Sl ah_1_1 h_1.2 ch_1_1)) (o' := 1) 4 1 rfl rfl rfl
       exact dp_v (v := (Sl ah_1_1 h_1.2 ch_1_1)) wn (rv_load1 Try.underlying24 rfl e17 hc17) rfl hJ
      refine ⟨?_, ?_⟩
      ·rintro ⟨a21, c22, b29, a33, c34⟩ ρ σm hJ hoff hdep
       have e17 := hdep 3 rfl rfl 17 rfl
       obtain ⟨H, m⟩ := id hJ
       have hc17 := H.cell (u := (Sl ah_1_1 h_1.2 ch_1_1)) (o' := 1) 5 1 rfl rfl rfl
       exact dp_v (v := (Sl ah_1_1 h_1.2 ch_1_1)) wn (rv_load1 Try.underlying24 rfl e17 hc17) rfl hJ
      trivial) ?_
    refine ac rfl (by
      intro k; rintro ⟨a21, c22, b29, a33, c34⟩ ρ σm hJ hoff hdep
      have e18 := hdep 4 rfl rfl 18 rfl
      exact dp_v (v := (I (h_1.2.length : Int))) wn (rv_len Try.underlying24 e18) rfl hJ) ?_
    refine all_cons (by
      refine ⟨?_, ?_⟩
      ·rintro ⟨a21, c22, b29, a33, c34⟩ ρ σm hJ hoff hdep
       have e16 : look 30 ρ 16 = (pt br_0 or_0) := hdep 2 rfl rfl 16 rfl
       have e19 : look 30 ρ 19 = (I (h_1.2.length : Int)) := hdep 5 rfl rfl 19 rfl
       obtain ⟨H, m⟩ := id hJ
       refine dp_cx wn (cx_call hc20 (ent_f hc20.fn (by show [look 30 ρ 16, look 30 ρ 19] = _; rw [e16, e19])) hn0 (show Hp S0 σ0 _ ([Ch.bx lor_0 br_0 or_0 [(Sl a13 o3.1.1 c14), (I o3.1.2)] prer_0 sufr_0, Ch.ro 0 (Sl a13 o3.1.1 c14) o3.1.1] ++ [Ch.ro 0 (Sl a13 o3.1.1 c14) o3.1.1, Ch.ro 0 (Sl ah_1_0 h_1.1 ch_1_0) h_1.1, Ch.ro 0 (Sl ah_1_1 h_1.2 ch_1_1) h_1.2, Ch.bx n0 b1 0 [(Sl ah_1_0 h_1.1 ch_1_0), (Sl ah_1_1 h_1.2 ch_1_1)] [] []]) from (H.sel' [0, 1, 1, 2, 3, 4] rfl rfl))) ?_
       rintro _ σq ⟨_, ⟨a21x, c22x, rfl, rfl⟩, H2, m2⟩
       exact ⟨_, (a21x, c22x, b29, a33, c34), rfl, rfl, ⟨H2.sel' [0, 1, 2, 3, 4, 5] rfl rfl, m.comp m2⟩, stab [0, 1, 2, 3, 4, 5, 9, 10] (by kernel_rfl) ⟨rfl, rfl, rfl, rfl, rfl, rfl, rfl, rfl, trivial⟩⟩
      refine ⟨?_, ?_⟩
      ·rintro ⟨a21, c22, b29, a33, c34⟩ ρ σm hJ hoff hdep
       have e16 : look 30 ρ 16 = (pt br_0 or_0) := hdep 2 rfl rfl 16 rfl
       have e19 : look 30 ρ 19 = (I (h_1.2.length : Int)) := hdep 5 rfl rfl 19 rfl
       obtain ⟨H, m⟩ := id hJ
       refine dp_cx wn (cx_call hc20 (ent_f hc20.fn (by show [look 30 ρ 16, look 30 ρ 19] = _; rw [e16, e19])) hn0 (show Hp S0 σ0 _ ([Ch.bx lor_0 br_0 or_0 [(Sl a13 o3.1.1 c14), (I o3.1.2)] prer_0 sufr_0, Ch.ro 0 (Sl a13 o3.1.1 c14) o3.1.1] ++ [Ch.ro 0 (Sl (some ⟨b29, 0, none⟩) ([0, 0, -1, 1] : List Int) 4) ([0, 0, -1, 1] : List Int), Ch.ro 0 (Sl a13 o3.1.1 c14) o3.1.1, Ch.ro 0 (Sl ah_1_0 h_1.1 ch_1_0) h_1.1, Ch.ro 0 (Sl ah_1_1 h_1.2 ch_1_1) h_1.2, Ch.bx n0 b1 0 [(Sl ah_1_0 h_1.1 ch_1_0), (Sl ah_1_1 h_1.2 ch_1_1)] [] []]) from (H.sel' [1, 2, 0, 2, 3, 4, 5] rfl rfl))) ?_
       rintro _ σq ⟨_, ⟨a21x, c22x, rfl, rfl⟩, H2, m2⟩
       exact ⟨_, (a21x, c22x, b29, a33, c34), rfl, rfl, ⟨H2.sel' [2, 0, 1, 3, 4, 5, 6] rfl rfl, (m.comp m2).mono (fun i h => Or.elim h (fun h => Or.elim h (fun h => (Or.inl (Or.inl h))) (fun h => (Or.inr h))) (fun h => (Or.inl (Or.inr h))))⟩, stab [0, 1, 2, 3, 4, 5, 9, 10] (by kernel_rfl) ⟨rfl, rfl, rfl, rfl, rfl, rfl, rfl, rfl, trivial⟩⟩
      trivial) ?_
    refine ac rfl (by
      intro k; rintro ⟨a21, c22, b29, a33, c34⟩ ρ σm hJ hoff hdep
      have e15 := hdep 1 rfl rfl 15 rfl
      have e20 := hdep 6 rfl rfl 20 rfl
      exact dp_v (v := (pt b26 o27)) wn (rv_ix Try.underlying24 ti3 e15 e20 hi25) rfl hJ) ?_
    refine all_cons (by
      refine ⟨?_, ?_⟩
      ·rintro ⟨a21, c22, b29, a33, c34⟩ ρ σm hJ hoff hdep
       have e21 := hdep 7 rfl rfl 21 rfl
       obtain ⟨H, m⟩ := id hJ
       replace hc28 := (Hs.ro 3 rfl).hmd hx24 hi25 (k := 0) (by decide) hc28 m
       exact dp_v (v := (I x23)) wn (rv_load1 Try.underlying3 rfl e21 hc28) rfl hJ
      refine ⟨?_, ?_⟩
      ·rintro ⟨a21, c22, b29, a33, c34⟩ ρ σm hJ hoff hdep
       have e21 := hdep 7 rfl rfl 21 rfl
       obtain ⟨H, m⟩ := id hJ
       replace hc28 := (Hs.ro 3 rfl).hmd hx24 hi25 (k := 0) (by decide) hc28 m
       exact dp_v (v := (I x23)) wn (rv_load1 Try.underlying3 rfl e21 hc28) rfl hJ
      refine ⟨?_, ?_⟩
      ·rintro ⟨a21, c22, b29, a33, c34⟩ ρ σm hJ hoff hdep
       have e21 := hdep 7 rfl rfl 21 rfl
       obtain ⟨H, m⟩ := id hJ
       replace hc28 := (Hs.ro 3 rfl).hmd hx24 hi25 (k := 0) (by decide) hc28 m
       exact dp_v (v := (I x23)) wn (rv_load1 Try.underlying3 rfl e21 hc28) rfl hJ
      trivial) ?_
    refine ac rfl (by
      intro k; rintro ⟨a21, c22, b29, a33, c34⟩ ρ σm hJ hoff hdep
      have e0 := look_off (N := 30) (hoff 0 rfl) rfl
      exact dp_v (v := (pt br_0 or_0)) wn (rv_move e0) rfl hJ) ?_
    refine all_cons (by
      refine ⟨?_, ?_⟩
      ·rintro ⟨a21, c22, b29, a33, c34⟩ ρ σm hJ hoff hdep
       obtain ⟨H, m⟩ := id hJ
       refine dp_ex wn (ex_buildSlice (el := 0) (xs := ([0, 0, -1, 1] : List Int)) (ps := [(0, (I 0)), (1, (I 0)), (2, (I (-1))), (3, (I 1))]) (cs := [(I 0), (I 0), (I (-1)), (I 1)]) H hn0 Try.underlying24 ti3 rfl rfl (by kernel_rfl) (.cons (c := [(I 0)]) rfl (.cons (c := [(I 0)]) rfl (.cons (c := [(I (-1))]) rfl (.cons (c := [(I 1)]) rfl (.nil))))) rfl) ?_
       rintro _ σq ⟨b29x, rfl, H2, m2⟩
       obtain ⟨σr0, hwr0, H2, mr0⟩ := H2.pub 0 rfl (Nat.zero_le _)
       exact ⟨_, (a21, c22, b29x, a33, c34), hwr0, rfl, ⟨H2.sel' [0, 1, 2, 3, 4, 5] rfl rfl, m.comp (m2.comp mr0)⟩, stab [0, 1, 2, 3, 4, 5, 6, 7, 8, 9] (by kernel_rfl) ⟨rfl, rfl, rfl, rfl, rfl, rfl, rfl, rfl, rfl, rfl, trivial⟩⟩
      refine ⟨?_, ?_⟩
      ·rintro ⟨a21, c22, b29, a33, c34⟩ ρ σm hJ hoff hdep
       obtain ⟨H, m⟩ := id hJ
       refine dp_ex wn (ex_buildSlice (el := 0) (xs := ([0, 0, -1, 1] : List Int)) (ps := [(0, (I 0)), (1, (I 0)), (2, (I (-1))), (3, (I 1))]) (cs := [(I 0), (I 0), (I (-1)), (I 1)]) H hn0 Try.underlying24 ti3 rfl rfl (by kernel_rfl) (.cons (c := [(I 0)]) rfl (.cons (c := [(I 0)]) rfl (.cons (c := [(I (-1))]) rfl (.cons (c := [(I 1)]) rfl (.nil))))) rfl) ?_
       rintro _ σq ⟨b29x, rfl, H2, m2⟩
       obtain ⟨σr0, hwr0, H2, mr0⟩ := H2.pub 0 rfl (Nat.zero_le _)
       exact ⟨_, (a21, c22, b29x, a33, c34), hwr0, rfl, ⟨H2.sel' [0, 1, 2, 3, 4, 5, 6] rfl rfl, m.comp (m2.comp mr0)⟩, stab [0, 1, 2, 3, 4, 5, 6, 7, 8, 9] (by kernel_rfl) ⟨rfl, rfl, rfl, rfl, rfl, rfl, rfl, rfl, rfl, rfl, trivial⟩⟩
      trivial) ?_
    refine all_cons (by
      refine ⟨?_, ?_⟩
      ·rintro ⟨a21, c22, b29, a33, c34⟩ ρ σm hJ hoff hdep
       have e23 : look 30 ρ 23 = (pt br_0 or_0) := hdep 9 rfl rfl 23 rfl
       have e24 : look 30 ρ 24 = (Sl (some ⟨b29, 0, none⟩) ([0, 0, -1, 1] : List Int) 4) := hdep 10 rfl rfl 24 rfl
       obtain ⟨H, m⟩ := id hJ
       refine dp_cx wn (cx_call (hc32 a21 c22 b29) (ent_f (hc32 a21 c22 b29).fn (by show [look 30 ρ 23, look 30 ρ 24] = _; rw [e23, e24])) hn0 (show Hp S0 σ0 _ ([Ch.bx lor_0 br_0 or_0 [(Sl a21 r18.2.1 c22), (I r18.2.2)] prer_0 sufr_0, Ch.ro 0 (Sl a21 r18.2.1 c22) r18.2.1, Ch.ro 0 (Sl (some ⟨b29, 0, none⟩) ([0, 0, -1, 1] : List Int) 4) ([0, 0, -1, 1] : List Int)] ++ [Ch.ro 0 (Sl (some ⟨b29, 0, none⟩) ([0, 0, -1, 1] : List Int) 4) ([0, 0, -1, 1] : List Int), Ch.ro 0 (Sl a21 r18.2.1 c22) r18.2.1, Ch.ro 0 (Sl a13 o3.1.1 c14) o3.1.1, Ch.ro 0 (Sl ah_1_0 h_1.1 ch_1_0) h_1.1, Ch.ro 0 (Sl ah_1_1 h_1.2 ch_1_1) h_1.2, Ch.bx n0 b1 0 [(Sl ah_1_0 h_1.1 ch_1_0), (Sl ah_1_1 h_1.2 ch_1_1)] [] []]) from (H.sel' [1, 2, 0, 0, 2, 3, 4, 5, 6] rfl rfl))) ?_
       rintro _ σq ⟨_, ⟨a33x, c34x, rfl, rfl⟩, H2, m2⟩
       exact ⟨_, (a21, c22, b29, a33x, c34x), rfl, rfl, ⟨H2.sel' [0, 1, 2, 3, 4, 5, 6, 7] rfl rfl, m.comp m2⟩, stab [0, 1, 2, 3, 4, 5, 6, 7, 8, 9, 10] (by kernel_rfl) ⟨rfl, rfl, rfl, rfl, rfl, rfl, rfl, rfl, rfl, rfl, rfl, trivial⟩⟩
      trivial) ?_
    exact all_nil
   ·rintro ⟨a21, c22, b29, a33, c34⟩ ρ σ35 hJ hoff hrel
    have e0 := look_off (N := 30) (hoff 0 rfl) rfl
    have e22 := hrel 8 rfl 22 rfl
    have e25 := hrel 11 rfl 25 rfl
    obtain ⟨H, -⟩ := (show Hp S0 σ0 σ35 [Ch.bx lor_0 br_0 or_0 [(Sl a33 r30.2.1 c34), (I r30.2.2)] prer_0 sufr_0, Ch.ro 0 (Sl a33 r30.2.1 c34) r30.2.1, Ch.ro 0 (Sl (some ⟨b29, 0, none⟩) ([0, 0, -1, 1] : List Int) 4) ([0, 0, -1, 1] : List Int), Ch.ro 0 (Sl a21 r18.2.1 c22) r18.2.1, Ch.ro 0 (Sl a13 o3.1.1 c14) o3.1.1, Ch.ro 0 (Sl ah_1_0 h_1.1 ch_1_0) h_1.1, Ch.ro 0 (Sl ah_1_1 h_1.2 ch_1_1) h_1.2, Ch.bx n0 b1 0 [(Sl ah_1_0 h_1.1 ch_1_0), (Sl ah_1_1 h_1.2 ch_1_1)] [] []] ∧ Md (fun i => (fun i => (fun i => (cov []) i ∨ (cov [Ch.bx lor_0 br_0 or_0 [(Sl a13 o3.1.1 c14), (I o3.1.2)] prer_0 sufr_0, Ch.ro 0 (Sl a13 o3.1.1 c14) o3.1.1]) i) i ∨ (fun i => (cov []) i ∨ (fun b => blk (Sl (some ⟨b29, 0, none⟩) ([0, 0, -1, 1] : List Int) 4) = some b) i) i) i ∨ (cov [Ch.bx lor_0 br_0 or_0 [(Sl a21 r18.2.1 c22), (I r18.2.2)] prer_0 sufr_0, Ch.ro 0 (Sl a21 r18.2.1 c22) r18.2.1, Ch.ro 0 (Sl (some ⟨b29, 0, none⟩) ([0, 0, -1, 1] : List Int) 4) ([0, 0, -1, 1] : List Int)]) i) σ12 σ35 from hJ)
    clear hJ Hs
    rw [fr_lookL (L := [(0, (pt br_0 or_0)), (22, (I x23)), (25, (I r30.1))]) ⟨e0, e22, e25, trivial⟩]
    clear hoff hrel e0 e22 e25
    refine st (v := (I (w64 (x23 + r30.1)))) (rv_add (a := x23) (b := r30.1) rfl rfl) ?_
    refine st (v := (I (w64 (x23 + r30.1)))) (rv_assign rfl) ?_
    refine w_end ?_
    refine q_then ?_
    refine c_ret ?_
    refine q_then_r ?_
    obtain rfl := Option.some.inj h
    exact fin_ret (v := (I (w64 (x23 + r30.1)))) (results_ok Try.results45 (res_tmp (v := (I (w64 (x23 + r30.1)))) rfl res_nil) rfl) ⟨a33, c34, rfl, rfl⟩ (H.sel' [0, 1] rfl rfl)
  ·replace h := bif_f hb15 h
   refine c_skip ?_
   refine q_then ?_
   refine c_seq ?_
   refine rg ?_
   refine st (v := (pt br_0 or_0)) (rv_move rfl) ?_
   refine st_ex (ex_buildSlice (el := n0) (xs := ([0, 1000, 1001, -1, 50] : List Int)) (ps := [(0, (I 0)), (1, (I 1000)), (2, (I 1001)), (3, (I (-1))), (4, (I 50))]) (cs := [(I 0), (I 1000), (I 1001), (I (-1)), (I 50)]) H hn0 Try.underlying24 ti3 rfl rfl (by kernel_rfl) (.cons (c := [(I 0)]) rfl (.cons (c := [(I 1000)]) rfl (.cons (c := [(I 1001)]) rfl (.cons (c := [(I (-1))]) rfl (.cons (c := [(I 50)]) rfl (.nil)))))) rfl) wn ?_
   rintro _ σ37 ⟨b36, rfl, H, -⟩
   obtain ⟨σ38, hw39, H, -⟩ := H.pub 0 rfl (Nat.le_refl _)
   rw [← hw39]; clear hw39
   replace H := H.roLow 0 0 rfl (Nat.zero_le _)
   obtain ⟨r40, hx41, h'⟩ := bind_some h
   clear h
   have h := h'; clear h'
   have hc42 := c_spec_reader_one (lor_0 := lor_0) (br_0 := br_0) (or_0 := or_0) (prer_0 := prer_0) (sufr_0 := sufr_0) (ar_0_0 := a13) (cr_0_0 := c14) (alist_1 := (some ⟨b36, 0, none⟩)) (clist_1 := 5) hx41
   refine st_call (cx_call hc42 (ent_f hc42.fn rfl) hn0 (show Hp S0 σ0 _ ([Ch.bx lor_0 br_0 or_0 [(Sl a13 o3.1.1 c14), (I o3.1.2)] prer_0 sufr_0, Ch.ro 0 (Sl a13 o3.1.1 c14) o3.1.1, Ch.ro 0 (Sl (some ⟨b36, 0, none⟩) ([0, 1000, 1001, -1, 50] : List Int) 5) ([0, 1000, 1001, -1, 50] : List Int)] ++ [Ch.ro 0 (Sl (some ⟨b36, 0, none⟩) ([0, 1000, 1001, -1, 50] : List Int) 5) ([0, 1000, 1001, -1, 50] : List Int), Ch.ro n0 (Sl (some ⟨b36, 0, none⟩) ([0, 1000, 1001, -1, 50] : List Int) 5) ([0, 1000, 1001, -1, 50] : List Int), Ch.ro 0 (Sl a13 o3.1.1 c14) o3.1.1, Ch.ro 0 (Sl ah_1_0 h_1.1 ch_1_0) h_1.1, Ch.ro 0 (Sl ah_1_1 h_1.2 ch_1_1) h_1.2, Ch.bx n0 b1 0 [(Sl ah_1_0 h_1.1 ch_1_0), (Sl ah_1_1 h_1.2 ch_1_1)] [] []]) from (H.sel' [2, 3, 0, 0, 1, 3, 4, 5, 6] rfl rfl))) wn ?_
   rintro _ σ45 ⟨_, ⟨a43, c44, rfl, rfl⟩, H, -⟩
   replace H : Hp S0 σ0 σ45 [Ch.bx lor_0 br_0 or_0 [(Sl a43 r40.2.1 c44), (I r40.2.2)] prer_0 sufr_0, Ch.ro 0 (Sl a43 r40.2.1 c44) r40.2.1, Ch.ro 0 (Sl (some ⟨b36, 0, none⟩) ([0, 1000, 1001, -1, 50] : List Int) 5) ([0, 1000, 1001, -1, 50] : List Int), Ch.ro n0 (Sl (some ⟨b36, 0, none⟩) ([0, 1000, 1001, -1, 50] : List Int) 5) ([0, 1000, 1001, -1, 50] : List Int), Ch.ro 0 (Sl a13 o3.1.1 c14) o3.1.1, Ch.ro 0 (Sl ah_1_0 h_1.1 ch_1_0) h_1.1, Ch.ro 0 (Sl ah_1_1 h_1.2 ch_1_1) h_1.2, Ch.bx n0 b1 0 [(Sl ah_1_0 h_1.1 ch_1_0), (Sl ah_1_1 h_1.2 ch_1_1)] [] []] := H
   replace H : Hp S0 σ0 σ45 [Ch.bx lor_0 br_0 or_0 [(Sl a43 r40.2.1 c44), (I r40.2.2)] prer_0 sufr_0, Ch.ro 0 (Sl a43 r40.2.1 c44) r40.2.1] := H.sel' [0, 1] rfl rfl
   refine st (v := (I r40.1)) (rv_assign rfl) ?_
   refine w_end ?_
   refine q_then ?_
   refine c_ret ?_
   obtain rfl := Option.some.inj h
   exact fin_ret (v := (I r40.1)) (results_ok Try.results45 (res_tmp (v := (I r40.1)) rfl res_nil) rfl) ⟨a43, c44, rfl, rfl⟩ (H.sel' [0, 1] rfl rfl)

theorem c_spec_DrawStoreAt {code_0 : List UInt8} {acode_0 : Option Addr} {ccode_0 : Nat} {r : ((List (Int × (Int × (List Int) × Int))) × (List Int)) × Int} (h : M.spec_DrawStoreAt code_0 = some r) :
    Cal2 Try.prog 19 [(Sl acode_0 code_0 ccode_0)] [Ch.ro 0 (Sl acode_0 code_0 ccode_0) code_0] (fun n0 v L => ∃ (az1 : Option Addr), ∃ (cz2 : Nat), ∃ (az3 : Option Addr), ∃ (cz4 : Nat), v = (.tuple #[(.agg #[(Sl az1 r.1.1 cz2), (Sl az3 r.1.2 cz4)]), (I r.2)]) ∧ L = [Ch.ro n0 (Sl az1 r.1.1 cz2) r.1.1, Ch.ro n0 (Sl az3 r.1.2 cz4) r.1.2]) := by
 refine cal2 (n := 14) Try.func19 rfl rfl rfl rfl ?_
 intro S0 σ0 n0 hn0 H
 unfold M.spec_DrawStoreAt at h
 refine c_seq ?_
 refine rg ?_
 refine st_ex (ex_alloc (cs := [(.slice none 0 0), (.slice none 0 0)]) H hn0 ti26 rfl) wn ?_
 rintro _ σ2 ⟨b1, rfl, H, -⟩
 refine st (v := (I 0)) (rv_assign rfl) ?_
 refine w_end ?_
 refine q_then ?_
 refine c_seq ?_
 refine rg ?_
 refine st (v := (Sl acode_0 code_0 ccode_0)) (rv_move rfl) ?_
 obtain ⟨r3, hx4, h'⟩ := bind_some h
 clear h
 have h := h'; clear h'
 have hc5 := c_spec_newReader (acode_0 := acode_0) (ccode_0 := ccode_0) hx4
 refine st_call (cx_call hc5 (ent_f hc5.fn rfl) hn0 (show Hp S0 σ0 _ ([Ch.ro 0 (Sl acode_0 code_0 ccode_0) code_0] ++ [Ch.bx n0 b1 0 [(.slice none 0 0), (.slice none 0 0)] [] [], Ch.ro 0 (Sl acode_0 code_0 ccode_0) code_0]) from (H.sel' [1, 0, 1] rfl rfl))) wn ?_
 rintro _ σ9 ⟨_, ⟨b6, a7, c8, rfl, rfl⟩, H, -⟩
 replace H : Hp S0 σ0 σ9 [Ch.bx n0 b6 0 [(Sl a7 r3.1 c8), (I r3.2)] [] [], Ch.ro 0 (Sl a7 r3.1 c8) r3.1, Ch.bx n0 b1 0 [(.slice none 0 0), (.slice none 0 0)] [] [], Ch.ro 0 (Sl acode_0 code_0 ccode_0) code_0] := H
 refine st (v := (pt b6 0)) (rv_assign rfl) ?_
 refine w_end ?_
 refine q_then ?_
 refine c_seq ?_
 refine rg ?_
 refine st (v := (pt b6 0)) (rv_move rfl) ?_
 obtain ⟨r10, hx11, h'⟩ := bind_some h
 clear h
 have h := h'; clear h'
 have hc12 := c_spec_anyHistory (lor_0 := n0) (br_0 := b6) (or_0 := 0) (prer_0 := []) (sufr_0 := []) (ar_0_0 := a7) (cr_0_0 := c8) hx11
 refine st_call (cx_call hc12 (ent_f hc12.fn rfl) hn0 (show Hp S0 σ0 _ ([Ch.bx n0 b6 0 [(Sl a7 r3.1 c8), (I r3.2)] [] [], Ch.ro 0 (Sl a7 r3.1 c8) r3.1] ++ [Ch.ro 0 (Sl a7 r3.1 c8) r3.1, Ch.bx n0 b1 0 [(.slice none 0 0), (.slice none 0 0)] [] [], Ch.ro 0 (Sl acode_0 code_0 ccode_0) code_0]) from (H.sel' [0, 1, 1, 2, 3] rfl rfl))) wn ?_
 rintro _ σ19 ⟨_, ⟨a13, c14, a15, c16, a17, c18, rfl, rfl⟩, H, -⟩
 replace H : Hp S0 σ0 σ19 [Ch.own n0 n0 (Sl a13 r10.1.1 c14) r10.1.1, Ch.own n0 n0 (Sl a15 r10.1.2 c16) r10.1.2, Ch.bx n0 b6 0 [(Sl a17 r10.2.1 c18), (I r10.2.2)] [] [], Ch.ro 0 (Sl a17 r10.2.1 c18) r10.2.1, Ch.ro 0 (Sl a7 r3.1 c8) r3.1, Ch.bx n0 b1 0 [(.slice none 0 0), (.slice none 0 0)] [] [], Ch.ro 0 (Sl acode_0 code_0 ccode_0) code_0] := H
 refine st_ex (ex_alloc (cs := [(.slice none 0 0), (.slice none 0 0)]) H hn0 ti26 rfl) wn ?_
 rintro _ σ21 ⟨b20, rfl, H, -⟩
 replace H : Hp S0 σ0 σ21 [Ch.bx n0 b20 0 [(.slice none 0 0), (.slice none 0 0)] [] [], Ch.own n0 n0 (Sl a13 r10.1.1 c14) r10.1.1, Ch.own n0 n0 (Sl a15 r10.1.2 c16) r10.1.2, Ch.bx n0 b6 0 [(Sl a17 r10.2.1 c18), (I r10.2.2)] [] [], Ch.ro 0 (Sl a17 r10.2.1 c18) r10.2.1, Ch.bx n0 b1 0 [(.slice none 0 0), (.slice none 0 0)] [] []] := H.sel' [0, 1, 2, 3, 4, 6] rfl rfl
 refine st_exS (ex_store_box (k := 0) (cs := [(.slice none 0 0), (.slice none 0 0)]) (vs := [(Sl a13 r10.1.1 c14), (Sl a15 r10.1.2 c16)]) (cs' := [(Sl a13 r10.1.1 c14), (Sl a15 r10.1.2 c16)]) H (i := 0) rfl ti26 rfl rfl rfl rfl rfl (Nat.le_of_ble_eq_true rfl) (by simp [plain]) rfl) wn ?_
 rintro σ22 ⟨H, -⟩
 refine w_end ?_
 refine q_then ?_
 refine c_seq ?_
 obtain ⟨σ23, hw24, H, -⟩ := H.pub 1 rfl (Nat.le_refl _)
 rw [← hw24]; clear hw24
 obtain ⟨σ25, hw26, H, -⟩ := H.pub 2 rfl (Nat.le_refl _)
 rw [← hw26]; clear hw26
 have hc27 := H.cells 2 rfl
 have hc28 := H.cells 2 rfl
 replace H := H.roLow 1 0 rfl (Nat.zero_le _)
 replace H := H.roLow 1 0 rfl (Nat.zero_le _)
 obtain ⟨r29, hx30, h'⟩ := bind_some h
 clear h
 have h := h'; clear h'
 have hc31 := c_spec_historyTime (lor_0 := n0) (br_0 := b6) (or_0 := 0) (prer_0 := []) (sufr_0 := []) (ar_0_0 := a17) (cr_0_0 := c18) (ah_1_0 := a13) (ch_1_0 := c14) (ah_1_1 := a15) (ch_1_1 := c16) hx30
 have Hs := H
 refine rg2 (σ := σ25) (Nm := (Option Addr) × (Nat)) 4 [3] [[false], [true]] [[(0, 0), (1, 1)], [(0, 0)], [(0, 0)], [(0, 1)]] 1 [fun ((a32, c33) : (Option Addr) × (Nat)) => fun σm => Hp S0 σ0 σm [Ch.ro 0 (Sl a15 r10.1.2 c16) r10.1.2, Ch.ro 0 (Sl a13 r10.1.1 c14) r10.1.1, Ch.ro n0 (Sl a15 r10.1.2 c16) r10.1.2, Ch.ro n0 (Sl a13 r10.1.1 c14) r10.1.1, Ch.bx n0 b20 0 [(Sl a13 r10.1.1 c14), (Sl a15 r10.1.2 c16)] [] [], Ch.bx n0 b6 0 [(Sl a17 r10.2.1 c18), (I r10.2.2)] [] [], Ch.ro 0 (Sl a17 r10.2.1 c18) r10.2.1, Ch.bx n0 b1 0 [(.slice none 0 0), (.slice none 0 0)] [] []] ∧ Md (cov []) σ25 σm, fun ((a32, c33) : (Option Addr) × (Nat)) => fun σm => Hp S0 σ0 σm [Ch.bx n0 b6 0 [(Sl a32 r29.2.1 c33), (I r29.2.2)] [] [], Ch.ro 0 (Sl a32 r29.2.1 c33) r29.2.1, Ch.ro 0 (Sl a15 r10.1.2 c16) r10.1.2, Ch.ro 0 (Sl a13 r10.1.1 c14) r10.1.1, Ch.ro n0 (Sl a15 r10.1.2 c16) r10.1.2, Ch.ro n0 (Sl a13 r10.1.1 c14) r10.1.1, Ch.bx n0 b20 0 [(Sl a13 r10.1.1 c14), (Sl a15 r10.1.2 c16)] [] [], Ch.ro 0 (Sl a17 r10.2.1 c18) r10.2.1, Ch.bx n0 b1 0 [(.slice none 0 0), (.slice none 0 0)] [] []] ∧ Md (fun i => (cov []) i ∨ (cov [Ch.bx n0 b6 0 [(Sl a17 r10.2.1 c18), (I r10.2.2)] [] [], Ch.ro 0 (Sl a17 r10.2.1 c18) r10.2.1, Ch.ro 0 (Sl a13 r10.1.1 c14) r10.1.1, Ch.ro 0 (Sl a15 r10.1.2 c16) r10.1.2]) i) σ25 σm] [fun ((a32, c33) : (Option Addr) × (Nat)) => (.agg #[(Sl a13 r10.1.1 c14), (Sl a15 r10.1.2 c16)]), fun ((a32, c33) : (Option Addr) × (Nat)) => (pt b6 0), fun ((a32, c33) : (Option Addr) × (Nat)) => (.agg #[(Sl a13 r10.1.1 c14), (Sl a15 r10.1.2 c16)]), fun ((a32, c33) : (Option Addr) × (Nat)) => (I r29.1)] (none, 0) (by kernel_rfl) (by kernel_rfl) ?_ ?_ ?_
 ·intro σm m0
  exact ⟨H.grow (m0.mono fun _ h => h.elim), m0⟩
 ·refine all_cons (by
    refine ⟨?_, ?_⟩
    ·rintro ⟨a32, c33⟩ ρ σm hJ hoff hdep
     have e5 := look_off (N := 14) (hoff 5 rfl) rfl
     obtain ⟨H, m⟩ := id hJ
     have hc27 := H.cells 4 rfl
     exact dp_v (v := (.agg #[(Sl a13 r10.1.1 c14), (Sl a15 r10.1.2 c16)])) wn (rv_load (cs := [(Sl a13 r10.1.1 c14), (Sl a15 r10.1.2 c16)]) Try.underlying26 rfl ti26 e5 rfl hc27) rfl hJ
    refine ⟨?_, ?_⟩
    ·rintro ⟨a32, c33⟩ ρ σm hJ hoff hdep
     have e5 := look_off (N := 14) (hoff 5 rfl) rfl
     obtain ⟨H, m⟩ := id hJ
     have hc27 := H.cells 6 rfl
     exact dp_v (v := (.agg #[(Sl a13 r10.1.1 c14), (Sl a15 r10.1.2 c16)])) wn (rv_load (cs := [(Sl a13 r10.1.1 c14), (Sl a15 r10.1.2 c16)]) Try.underlying26 rfl ti26 e5 rfl hc27) rfl hJ
    trivial) ?_
  refine ac rfl (by
    intro k; rintro ⟨a32, c33⟩ ρ σm hJ hoff hdep
    have e4 := look_off (N := 14) (hoff 4 rfl) rfl
    exact dp_v (v := (pt b6 0)) wn (rv_move e4) rfl hJ) ?_
  refine all_cons (by
    refine ⟨?_, ?_⟩
    ·rintro ⟨a32, c33⟩ ρ σm hJ hoff hdep
     have e5 := look_off (N := 14) (hoff 5 rfl) rfl
     obtain ⟨H, m⟩ := id hJ
     have hc28 := H.cells 4 rfl
     exact dp_v (v := (.agg #[(Sl a13 r10.1.1 c14), (Sl a15 r10.1.2 c16)])) wn (rv_load (cs := [(Sl a13 r10.1.1 c14), (Sl a15 r10.1.2 c16)]) Try.underlying26 rfl ti26 e5 rfl hc28) rfl hJ
    trivial) ?_
  refine all_cons (by
    refine ⟨?_, ?_⟩
    ·rintro ⟨a32, c33⟩ ρ σm hJ hoff hdep
     have e11 : look 14 ρ 11 = (pt b6 0) := hdep 1 rfl rfl 11 rfl
     have e12 : look 14 ρ 12 = (.agg #[(Sl a13 r10.1.1 c14), (Sl a15 r10.1.2 c16)]) := hdep 2 rfl rfl 12 rfl
     obtain ⟨H, m⟩ := id hJ
     refine dp_cx wn (cx_call hc31 (ent_f hc31.fn (by show [look 14 ρ 11, look 14 ρ 12] = _; rw [e11, e12])) hn0 (show Hp S0 σ0 _ ([Ch.bx n0 b6 0 [(Sl a17 r10.2.1 c18), (I r10.2.2)] [] [], Ch.ro 0 (Sl a17 r10.2.1 c18) r10.2.1, Ch.ro 0 (Sl a13 r10.1.1 c14) r10.1.1, Ch.ro 0 (Sl a15 r10.1.2 c16) r10.1.2] ++ [Ch.ro 0 (Sl a15 r10.1.2 c16) r10.1.2, Ch.ro 0 (Sl a13 r10.1.1 c14) r10.1.1, Ch.ro n0 (Sl a15 r10.1.2 c16) r10.1.2, Ch.ro n0 (Sl a13 r10.1.1 c14) r10.1.1, Ch.bx n0 b20 0 [(Sl a13 r10.1.1 c14), (Sl a15 r10.1.2 c16)] [] [], Ch.ro 0 (Sl a17 r10.2.1 c18) r10.2.1, Ch.bx n0 b1 0 [(.slice none 0 0), (.slice none 0 0)] [] []]) from (H.sel' [5, 6, 1, 0, 0, 1, 2, 3, 4, 6, 7] rfl rfl))) ?_
     rintro _ σq ⟨_, ⟨a32x, c33x, rfl, rfl⟩, H2, m2⟩
     exact ⟨_, (a32x, c33x), rfl, rfl, ⟨H2.sel' [0, 1, 2, 3, 4, 5, 6, 7, 8] rfl rfl, m.comp m2⟩, stab [0, 1, 2] (by kernel_rfl) ⟨rfl, rfl, rfl, trivial⟩⟩
    trivial) ?_
  exact all_nil
 ·rintro ⟨a32, c33⟩ ρ σ34 hJ hoff hrel
  have e2 := look_off (N := 14) (hoff 2 rfl) rfl
  have e10 := hrel 0 rfl 10 rfl
  have e13 := hrel 3 rfl 13 rfl
  obtain ⟨H, -⟩ := (show Hp S0 σ0 σ34 [Ch.bx n0 b6 0 [(Sl a32 r29.2.1 c33), (I r29.2.2)] [] [], Ch.ro 0 (Sl a32 r29.2.1 c33) r29.2.1, Ch.ro 0 (Sl a15 r10.1.2 c16) r10.1.2, Ch.ro 0 (Sl a13 r10.1.1 c14) r10.1.1, Ch.ro n0 (Sl a15 r10.1.2 c16) r10.1.2, Ch.ro n0 (Sl a13 r10.1.1 c14) r10.1.1, Ch.bx n0 b20 0 [(Sl a13 r10.1.1 c14), (Sl a15 r10.1.2 c16)] [] [], Ch.ro 0 (Sl a17 r10.2.1 c18) r10.2.1, Ch.bx n0 b1 0 [(.slice none 0 0), (.slice none 0 0)] [] []] ∧ Md (fun i => (cov []) i ∨ (cov [Ch.bx n0 b6 0 [(Sl a17 r10.2.1 c18), (I r10.2.2)] [] [], Ch.ro 0 (Sl a17 r10.2.1 c18) r10.2.1, Ch.ro 0 (Sl a13 r10.1.1 c14) r10.1.1, Ch.ro 0 (Sl a15 r10.1.2 c16) r10.1.2]) i) σ25 σ34 from hJ)
  clear hJ Hs
  rw [fr_lookL (L := [(2, (pt b1 0)), (10, (.agg #[(Sl a13 r10.1.1 c14), (Sl a15 r10.1.2 c16)])), (13, (I r29.1))]) ⟨e2, e10, e13, trivial⟩]
  clear hoff hrel e2 e10 e13
  refine st_exS (ex_store_box (k := 0) (cs := [(.slice none 0 0), (.slice none 0 0)]) (vs := [(Sl a13 r10.1.1 c14), (Sl a15 r10.1.2 c16)]) (cs' := [(Sl a13 r10.1.1 c14), (Sl a15 r10.1.2 c16)]) H (i := 8) rfl ti26 rfl rfl rfl rfl rfl (Nat.le_of_ble_eq_true rfl) (by simp [plain]) rfl) wn ?_
  rintro σ35 ⟨H, -⟩
  replace H : Hp S0 σ0 σ35 [Ch.bx n0 b1 0 [(Sl a13 r10.1.1 c14), (Sl a15 r10.1.2 c16)] [] [], Ch.ro n0 (Sl a15 r10.1.2 c16) r10.1.2, Ch.ro n0 (Sl a13 r10.1.1 c14) r10.1.1] := H.sel' [0, 5, 6] rfl rfl
  refine st (v := (I r29.1)) (rv_assign rfl) ?_
  refine w_end ?_
  refine q_then ?_
  refine c_ret ?_
  obtain rfl := Option.some.inj h
  exact fin_ret (v := (.tuple #[(.agg #[(Sl a13 r10.1.1 c14), (Sl a15 r10.1.2 c16)]), (I r29.1)])) (results_ok Try.results19 (res_cell rfl (run_cellRes (cs := [(Sl a13 r10.1.1 c14), (Sl a15 r10.1.2 c16)]) Try.underlying26 rfl ti26 rfl (H.cells 0 rfl)) (res_tmp (v := (I r29.1)) rfl res_nil)) rfl) ⟨a13, c14, a15, c16, rfl, rfl⟩ (H.sel' [2, 1] rfl rfl)

theorem c_impl_validMoment {t_0 : Int}  {r : Bool} (h : M.impl_validMoment t_0 = some r) :
    Cal2 Try.prog 46 [(I t_0)] [] (fun n0 v L => v = (B r) ∧ L = []) := by
 refine cal2 (n := 9) Try.func46 rfl rfl rfl rfl ?_
 intro S0 σ0 n0 hn0 H
 unfold M.impl_validMoment at h
 refine c_seq ?_
 refine rg ?_
 refine st (v := (B false)) (rv_assign rfl) ?_
 refine w_end ?_
 refine q_then ?_
 refine c_seq ?_
 refine rg ?_
 refine st (v := (I t_0)) (rv_move rfl) ?_
 refine st (v := (B (decide (0 ≤ t_0)))) (rv_geq (a := t_0) (b := 0) rfl rfl) ?_
 refine st (v := (B (decide (0 ≤ t_0)))) (rv_move rfl) ?_
 rcases Bool.eq_false_or_eq_true (decide (0 ≤ t_0)) with hb1 | hb1
 ·replace h := bif_t hb1 h
  refine st_g (v := (I t_0)) (congrArg some hb1) (rv_move rfl) ?_
  refine st_g (v := (B (decide (t_0 ≤ 1000)))) (congrArg some hb1) (rv_leq (a := t_0) (b := 1000) rfl rfl) ?_
  refine st (v := (B (decide (t_0 ≤ 1000)))) (rv_pick_t (congrArg B hb1) rfl) ?_
  refine st (v := (B (decide (t_0 ≤ 1000)))) (rv_assign rfl) ?_
  refine w_end ?_
  refine q_then ?_
  refine c_ret ?_
  obtain rfl := Option.some.inj h
  exact fin_ret (v := (B (decide (t_0 ≤ 1000)))) (results_ok Try.results46 (res_tmp (v := (B (decide (t_0 ≤ 1000)))) rfl res_nil) rfl) ⟨rfl, rfl⟩ (H.sel' [] rfl rfl)
 ·replace h := bif_f hb1 h
  refine st_skip (congrArg some hb1) ?_
  refine st_skip (congrArg some hb1) ?_
  refine st (v := (B false)) (rv_pick_f (congrArg B hb1) rfl) ?_
  refine st (v := (B false)) (rv_assign rfl) ?_
  refine w_end ?_
  refine q_then ?_
  refine c_ret ?_
  obtain rfl := Option.some.inj h
  exact fin_ret (v := (B false)) (results_ok Try.results46 (res_tmp (v := (B false)) rfl res_nil) rfl) ⟨rfl, rfl⟩ (H.sel' [] rfl rfl)

theorem c_impl_version_node {v_0 : Vr (Int × (List Int) × Int)} {av_0 : Option Addr} {r : ((Po (Int × (List Int) × Int)) × ((Vr (Int × (List Int) × Int)) × (Vr (Int × (List Int) × Int))))} (h : M.impl_version_node v_0 = some r) :
    Cal2 Try.prog 96 [(.pointer av_0)] [Ch.pv 0 (.pointer av_0) v_0] (fun n0 v L => ∃ (az1 : Option Addr), ∃ (az2 : Option Addr), ∃ (az3 : Option Addr), v = (.agg #[(.pointer az1), (.pointer az2), (.pointer az3)]) ∧ L = [Ch.pv 0 (.pointer az1) r.1, Ch.pv 0 (.pointer az2) r.2.1, Ch.pv 0 (.pointer az3) r.2.2]) := by
 refine cal2 (n := 9) Try.func96 rfl rfl rfl rfl ?_
 intro S0 σ0 n0 hn0 H
 unfold M.impl_version_node at h
 refine c_seq ?_
 refine rg ?_
 refine st_ex (ex_alloc (cs := [(.pointer none), (.pointer none), (.pointer none)]) H hn0 ti109 rfl) wn ?_
 rintro _ σ2 ⟨b1, rfl, H, -⟩
 refine w_end ?_
 refine q_then ?_
 refine c_seq ?_
 refine c_seq ?_
 refine rg ?_
 refine st (v := (.pointer av_0)) (rv_move rfl) ?_
 refine st (v := (B v_0.isNil)) (rv_eqlNilV Try.underlying67 (H.pv 1 rfl) rfl rfl) ?_
 refine w_end ?_
 refine q_then ?_
 refine cd_cond v_0.isNil rfl (fun hb3 => ?_) (fun hb3 => ?_)
 ·replace h := bif_t hb3 h
  refine c_seq ?_
  refine rg ?_
  refine st (v := (.agg #[(.pointer none), (.pointer none), (.pointer none)])) (rv_build (ps := []) Try.underlying109 ti109 (bp109 Try.underlying109) rfl (by kernel_rfl)) ?_
  refine st_exS (ex_store_box (k := 0) (cs := [(.pointer none), (.pointer none), (.pointer none)]) (vs := [(.pointer none), (.pointer none), (.pointer none)]) (cs' := [(.pointer none), (.pointer none), (.pointer none)]) H (i := 0) rfl ti109 rfl rfl rfl rfl rfl (Nat.le_of_ble_eq_true rfl) (by simp [plain]) rfl) wn ?_
  rintro σ4 ⟨H, -⟩
  refine w_end ?_
  refine q_then ?_
  refine c_ret ?_
  refine q_then_r ?_
  replace H := H.nilPv (Po (Int × (List Int) × Int)) 0
  replace H := H.nilPv (Vr (Int × (List Int) × Int)) 0
  replace H := H.nilPv (Vr (Int × (List Int) × Int)) 0
  obtain rfl := Option.some.inj h
  exact fin_ret (v := (.agg #[(.pointer none), (.pointer none), (.pointer none)])) (results_ok Try.results96 (res_cell rfl (run_cellRes (cs := [(.pointer none), (.pointer none), (.pointer none)]) Try.underlying109 rfl ti109 rfl (H.cells 3 rfl)) res_nil) rfl) ⟨none, none, none, rfl, rfl⟩ (H.sel' [2, 1, 0] rfl rfl)
 ·replace h := bif_f hb3 h
  refine c_skip ?_
  refine q_then ?_
  refine c_seq ?_
  refine rg ?_
  refine st (v := (.pointer av_0)) (rv_move rfl) ?_
  obtain ⟨x5, hx6, h'⟩ := bind_some h
  clear h
  have h := h'; clear h'
  obtain ⟨b8, o9, hi7⟩ := (H.pv 1 rfl).ex hx6
  refine st (v := (pt b8 o9)) (rv_nilCheckT hi7 rfl) ?_
  obtain ⟨_, ⟨_, _, rfl, ⟨_, rfl, hR13⟩, ⟨_, _, rfl, ⟨_, rfl, hR15⟩, ⟨_, rfl, hR17⟩⟩⟩, hl10, hc11⟩ := ((H.pv 1 rfl).at hx6 hi7).cells
  obtain ⟨a12, rfl⟩ := hR13.isPtr
  obtain ⟨a14, rfl⟩ := hR15.isPtr
  obtain ⟨a16, rfl⟩ := hR17.isPtr
  replace H := H.add (d := Ch.pv 0 (.pointer a12) x5.1) hR13 (fun _ h => h)
  clear hR13
  replace H := H.add (d := Ch.pv 0 (.pointer a14) x5.2.1) hR15 (fun _ h => h)
  clear hR15
  replace H := H.add (d := Ch.pv 0 (.pointer a16) x5.2.2) hR17 (fun _ h => h)
  clear hR17
  refine st (v := (.agg #[(.pointer a12), (.pointer a14), (.pointer a16)])) (rv_load Try.underlying109 rfl ti109 rfl hl10 hc11) ?_
  refine st_exS (ex_store_box (k := 0) (cs := [(.pointer none), (.pointer none), (.pointer none)]) (vs := [(.pointer a12), (.pointer a14), (.pointer a16)]) (cs' := [(.pointer a12), (.pointer a14), (.pointer a16)]) H (i := 3) rfl ti109 rfl rfl rfl rfl rfl (Nat.le_of_ble_eq_true rfl) (by simp [plain]) rfl) wn ?_
  rintro σ18 ⟨H, -⟩
  refine w_end ?_
  refine q_then ?_
  refine c_ret ?_
  obtain rfl := Option.some.inj h
  exact fin_ret (v := (.agg #[(.pointer a12), (.pointer a14), (.pointer a16)])) (results_ok Try.results96 (res_cell rfl (run_cellRes (cs := [(.pointer a12), (.pointer a14), (.pointer a16)]) Try.underlying109 rfl ti109 rfl (H.cells 0 rfl)) res_nil) rfl) ⟨a12, a14, a16, rfl, rfl⟩ (H.sel' [3, 2, 1] rfl rfl)

theorem c_impl_version_with : ∀ (fuel : Nat) {v_0 : Vr (Int × (List Int) × Int)} {key_1 : Int} {bits_2 : Int} {x_3 : Po (Int × (List Int) × Int)} {av_0 : Option Addr} {ax_3 : Option Addr} {r : (Vr (Int × (List Int) × Int))} (h : M.impl_version_with fuel v_0 key_1 bits_2 x_3 = some r),
    Cal2 Try.prog 103 [(.pointer av_0), (I key_1), (I bits_2), (.pointer ax_3)] [Ch.pv 0 (.pointer av_0) v_0, Ch.pv 0 (.pointer ax_3) x_3] (fun n0 v L => ∃ (az1 : Option Addr), v = (.pointer az1) ∧ L = [Ch.pv 0 (.pointer az1) r]) := by
 intro fuel
 induction fuel with
 | zero => intro _ _ _ _ _ _ r h; cases h
 | succ fuel ih =>
 ·intro v_0 key_1 bits_2 x_3 av_0 ax_3 r h
  replace h : M.impl_version_with_F (M.impl_version_with fuel) v_0 key_1 bits_2 x_3 = some r := h
  refine cal2 (n := 34) Try.func103 rfl rfl rfl rfl ?_
  intro S0 σ0 n0 hn0 H
  unfold M.impl_version_with_F at h
  refine c_seq ?_
  refine rg ?_
  refine st (v := (.pointer none)) (rv_assign rfl) ?_
  refine w_end ?_
  refine q_then ?_
  refine c_seq ?_
  refine rg ?_
  refine st (v := (.pointer av_0)) (rv_move rfl) ?_
  obtain ⟨r1, hx2, h'⟩ := bind_some h
  clear h
  have h := h'; clear h'
  have hc3 := c_impl_version_node (av_0 := av_0) hx2
  refine st_call (cx_call hc3 (ent_f hc3.fn rfl) hn0 (show Hp S0 σ0 _ ([Ch.pv 0 (.pointer av_0) v_0] ++ [Ch.pv 0 (.pointer av_0) v_0, Ch.pv 0 (.pointer ax_3) x_3]) from (H.sel' [0, 0, 1] rfl rfl))) wn ?_
  rintro _ σ7 ⟨_, ⟨a4, a5, a6, rfl, rfl⟩, H, -⟩
  replace H : Hp S0 σ0 σ7 [Ch.pv 0 (.pointer a4) r1.1, Ch.pv 0 (.pointer a5) r1.2.1, Ch.pv 0 (.pointer a6) r1.2.2, Ch.pv 0 (.pointer av_0) v_0, Ch.pv 0 (.pointer ax_3) x_3] := H
  refine st_ex (ex_alloc (cs := [(.pointer none), (.pointer none), (.pointer none)]) H hn0 ti109 rfl) wn ?_
  rintro _ σ9 ⟨b8, rfl, H, -⟩
  refine st_exS (ex_store_box (k := 0) (cs := [(.pointer none), (.pointer none), (.pointer none)]) (vs := [(.pointer a4), (.pointer a5), (.pointer a6)]) (cs' := [(.pointer a4), (.pointer a5), (.pointer a6)]) H (i := 0) rfl ti109 rfl rfl rfl rfl rfl (Nat.le_of_ble_eq_true rfl) (by simp [plain]) rfl) wn ?_
  rintro σ10 ⟨H, -⟩
  refine w_end ?_
  refine q_then ?_
  refine c_seq ?_
  refine c_seq ?_
  refine rg ?_
  refine st (v := (I bits_2)) (rv_move rfl) ?_
  refine st (v := (B (bits_2 == 0))) (rv_eql (a := bits_2) (b := 0) rfl rfl) ?_
  refine w_end ?_
  refine q_then ?_
  obtain ⟨o11, hj, h'⟩ := bind_some h
  clear h
  refine c_cut (fun e a w => e = .normal ∧ ∃ (ρ : Nat → Value) (σ : St) (aj1 : Option Addr) (aj2 : Option Addr) (aj3 : Option Addr), a = fr 34 (updL ρ [(9, (pt b8 0))]) ∧ w = σ.w ∧ Hp S0 σ0 σ [Ch.bx n0 b8 0 [(.pointer aj1), (.pointer aj2), (.pointer aj3)] [] [], Ch.pv 0 (.pointer aj1) o11.1, Ch.pv 0 (.pointer aj2) o11.2.1, Ch.pv 0 (.pointer aj3) o11.2.2]) ?_ ?_
  ·clear h'
   rename _ = some o11 => h
   refine cd_cond (bits_2 == 0) rfl (fun hb12 => ?_) (fun hb12 => ?_)
   ·replace h := bif_t hb12 h
    refine rg ?_
    refine st (v := (.pointer ax_3)) (rv_move rfl) ?_
    refine st (v := (pt b8 0)) (rv_fieldAddr (off := 0) (ft := 106) Try.underlying109 rfl ti106 rfl rfl) ?_
    refine st_exS (ex_store_box (k := 0) (cs := [(.pointer a4), (.pointer a5), (.pointer a6)]) (vs := [(.pointer ax_3)]) (cs' := [(.pointer ax_3), (.pointer a5), (.pointer a6)]) H (i := 0) rfl ti106 rfl rfl rfl rfl rfl (Nat.le_of_ble_eq_true rfl) (by simp [plain]) rfl) wn ?_
    rintro σ13 ⟨H, -⟩
    refine w_end ?_
    obtain rfl := Option.some.inj h
    exact ⟨rfl, _, σ13, ax_3, a5, a6, fr_join ⟨rfl, trivial⟩, rfl, H.sel' [0, 5, 2, 3] rfl rfl⟩
   ·replace h := bif_f hb12 h
    refine c_seq ?_
    refine rg ?_
    refine st (v := (I key_1)) (rv_move rfl) ?_
    refine st (v := (I bits_2)) (rv_move rfl) ?_
    refine st (v := (I (w64 (bits_2 - 1)))) (rv_sub (a := bits_2) (b := 1) rfl rfl) ?_
    obtain ⟨q14, hx15, h'⟩ := bind_some h
    clear h
    have h := h'; clear h'
    refine st (v := (I q14)) (rvk_shrG (k := .i64) (k' := .i64) (a := key_1) (b := (w64 (bits_2 - 1))) hx15 rfl rfl) ?_
    refine st (v := (I (gand q14 1))) (rv_and (a := q14) (b := 1) rfl rfl) ?_
    refine st (v := (I (gand q14 1))) (rv_assign rfl) ?_
    refine w_end ?_
    refine q_then ?_
    refine rg ?_
    refine st (v := (I (gand q14 1))) (rv_move rfl) ?_
    refine st (v := (I (gand q14 1))) (rv_move rfl) ?_
    refine st (v := (pt b8 1)) (rv_fieldAddr (off := 1) (ft := 107) Try.underlying109 rfl ti107 rfl rfl) ?_
    obtain ⟨x16, hx17, h'⟩ := bind_some h
    clear h
    have h := h'; clear h'
    have hl18 := gsel2_lt hx17
    refine st (v := (pt b8 (1 + (gand q14 1).toNat * 1))) (rv_indexAddr_array Try.underlying107 ti67 rfl rfl hl18.1 hl18.2) ?_
    have hc19 := Hp.selCell (o' := 1) (a0 := a5) (a1 := a6) H 0 1 rfl rfl rfl hx17 rfl
    have hR20 : PV 0 _ (.pointer (bsel (gand q14 1) a5 a6)) x16 := PV.sel (H.pv 2 rfl) (H.pv 3 rfl) hx17
    replace H := H.add (d := Ch.pv 0 (.pointer (bsel (gand q14 1) a5 a6)) x16) hR20 (fun _ h => h)
    clear hR20
    refine st (v := (.pointer (bsel (gand q14 1) a5 a6))) (rv_load1 Try.underlying67 rfl rfl hc19) ?_
    refine st (v := (I key_1)) (rv_move rfl) ?_
    refine st (v := (I bits_2)) (rv_move rfl) ?_
    refine st (v := (I (w64 (bits_2 - 1)))) (rv_sub (a := bits_2) (b := 1) rfl rfl) ?_
    refine st (v := (.pointer ax_3)) (rv_move rfl) ?_
    obtain ⟨r21, hx22, h'⟩ := bind_some h
    clear h
    have h := h'; clear h'
    have hc23 := ih (av_0 := (bsel (gand q14 1) a5 a6)) (ax_3 := ax_3) hx22
    refine st_call (cx_call hc23 (ent_f hc23.fn rfl) hn0 (show Hp S0 σ0 _ ([Ch.pv 0 (.pointer (bsel (gand q14 1) a5 a6)) x16, Ch.pv 0 (.pointer ax_3) x_3] ++ [Ch.pv 0 (.pointer (bsel (gand q14 1) a5 a6)) x16, Ch.bx n0 b8 0 [(.pointer a4), (.pointer a5), (.pointer a6)] [] [], Ch.pv 0 (.pointer a4) r1.1, Ch.pv 0 (.pointer a5) r1.2.1, Ch.pv 0 (.pointer a6) r1.2.2, Ch.pv 0 (.pointer av_0) v_0, Ch.pv 0 (.pointer ax_3) x_3]) from (H.sel' [0, 6, 0, 1, 2, 3, 4, 5, 6] rfl rfl))) wn ?_
    rintro _ σ25 ⟨_, ⟨a24, rfl, rfl⟩, H, -⟩
    replace H : Hp S0 σ0 σ25 [Ch.pv 0 (.pointer a24) r21, Ch.pv 0 (.pointer (bsel (gand q14 1) a5 a6)) x16, Ch.bx n0 b8 0 [(.pointer a4), (.pointer a5), (.pointer a6)] [] [], Ch.pv 0 (.pointer a4) r1.1, Ch.pv 0 (.pointer a5) r1.2.1, Ch.pv 0 (.pointer a6) r1.2.2, Ch.pv 0 (.pointer av_0) v_0, Ch.pv 0 (.pointer ax_3) x_3] := H
    replace H : Hp S0 σ0 σ25 [Ch.pv 0 (.pointer a24) r21, Ch.bx n0 b8 0 [(.pointer a4), (.pointer a5), (.pointer a6)] [] [], Ch.pv 0 (.pointer a4) r1.1, Ch.pv 0 (.pointer a5) r1.2.1, Ch.pv 0 (.pointer a6) r1.2.2] := H.sel' [0, 2, 3, 4, 5] rfl rfl
    refine st (v := (pt b8 1)) (rv_fieldAddr (off := 1) (ft := 107) Try.underlying109 rfl ti107 rfl rfl) ?_
    obtain ⟨x26, hx27, h'⟩ := bind_some h
    clear h
    have h := h'; clear h'
    have hl28 := gsel2_lt hx27
    refine st (v := (pt b8 (1 + (gand q14 1).toNat * 1))) (rv_indexAddr_array Try.underlying107 ti67 rfl rfl hl28.1 hl28.2) ?_
    replace H := H.add (d := Ch.pv 0 (.pointer (bsel (gand q14 1) a24 a5)) (bsel (gand q14 1) r21 r1.2.1)) (PV.bsel (e := gand q14 1) (H.pv 0 rfl) (H.pv 3 rfl)) (fun _ h => h)
    replace H := H.add (d := Ch.pv 0 (.pointer (bsel (gand q14 1) a6 a24)) (bsel (gand q14 1) r1.2.2 r21)) (PV.bsel (e := gand q14 1) (H.pv 5 rfl) (H.pv 1 rfl)) (fun _ h => h)
    refine st_exS (ex_store_box (k := 1 + (gand q14 1).toNat * 1) (cs := [(.pointer a4), (.pointer a5), (.pointer a6)]) (vs := [(.pointer a24)]) (cs' := [(.pointer a4), (.pointer (bsel (gand q14 1) a24 a5)), (.pointer (bsel (gand q14 1) a6 a24))]) H (i := 3) rfl ti67 rfl (Nat.zero_add _).symm rfl rfl rfl (sel_fits hx27) (by simp [plain]) (sel_set hx27)) wn ?_
    rintro σ29 ⟨H, -⟩
    refine w_end ?_
    obtain rfl := Option.some.inj h
    exact ⟨rfl, _, σ29, a4, (bsel (gand q14 1) a24 a5), (bsel (gand q14 1) a6 a24), fr_join ⟨rfl, trivial⟩, rfl, H.sel' [0, 4, 2, 1] rfl rfl⟩
  ·clear hj
   have h := h'
   clear h' H
   rintro e a w ⟨rfl, ρ, σ30, a31, a32, a33, rfl, rfl, H⟩
   refine q_then ?_
   refine c_seq ?_
   refine rg ?_
   refine st (v := (pt b8 0)) (rv_assign rfl) ?_
   refine w_end ?_
   refine q_then ?_
   refine c_ret ?_
   have hp36 : Rp.rp 0 σ30 [(.pointer a31), (.pointer a32), (.pointer a33)] ((o11.1, (o11.2.1, o11.2.2)) : (Po (Int × (List Int) × Int)) × ((Vr (Int × (List Int) × Int)) × (Vr (Int × (List Int) × Int)))) := ⟨[(.pointer a31)], [(.pointer a32), (.pointer a33)], rfl, ⟨_, rfl, (H.pv 1 rfl)⟩, ⟨[(.pointer a32)], [(.pointer a33)], rfl, ⟨_, rfl, (H.pv 2 rfl)⟩, ⟨_, rfl, (H.pv 3 rfl)⟩⟩⟩
   obtain ⟨σ34, hw35, H, -⟩ := H.pubPv (τ := Vr (Int × (List Int) × Int)) 0 0 rfl (Nat.zero_le _) rfl hp36 (Nat.le_of_ble_eq_true rfl)
   rw [← hw35]; clear hw35
   replace H : Hp S0 σ0 σ34 [Ch.pv 0 (.pointer (some ⟨b8, 0, none⟩)) (Vr.mk (o11.1, (o11.2.1, o11.2.2))), Ch.pv 0 (.pointer a31) o11.1, Ch.pv 0 (.pointer a32) o11.2.1, Ch.pv 0 (.pointer a33) o11.2.2] := H
   obtain rfl := Option.some.inj h
   exact fin_ret (v := (.pointer (some ⟨b8, 0, none⟩))) (results_ok Try.results103 (res_tmp (v := (.pointer (some ⟨b8, 0, none⟩))) rfl res_nil) rfl) ⟨(some ⟨b8, 0, none⟩), rfl, rfl⟩ (H.sel' [0] rfl rfl)

theorem c_impl_version_after {v_0 : Vr (Int × (List Int) × Int)} {e_1 : Int × (Int × (List Int) × Int)} {av_0 : Option Addr} {ae_1_1_1 : Option Addr} {ce_1_1_1 : Nat} {r : (Vr (Int × (List Int) × Int))} (h : M.impl_version_after v_0 e_1 = some r) :
    Cal2 Try.prog 78 [(.pointer av_0), (.agg #[(I e_1.1), (I e_1.2.1), (Sl ae_1_1_1 e_1.2.2.1 ce_1_1_1), (I e_1.2.2.2)])] [Ch.pv 0 (.pointer av_0) v_0, Ch.ro 0 (Sl ae_1_1_1 e_1.2.2.1 ce_1_1_1) e_1.2.2.1] (fun n0 v L => ∃ (az1 : Option Addr), v = (.pointer az1) ∧ L = [Ch.pv 0 (.pointer az1) r]) := by
 refine cal2 (n := 19) Try.func78 rfl rfl rfl rfl ?_
 intro S0 σ0 n0 hn0 H
 unfold M.impl_version_after at h
 refine c_seq ?_
 refine rg ?_
 refine st_ex (ex_box (cs := [(I e_1.1), (I e_1.2.1), (Sl ae_1_1_1 e_1.2.2.1 ce_1_1_1), (I e_1.2.2.2)]) H hn0 rfl rfl) wn ?_
 rintro _ σ2 ⟨b1, rfl, H, -⟩
 refine st (v := (.pointer none)) (rv_assign rfl) ?_
 refine w_end ?_
 refine q_then ?_
 refine c_seq ?_
 refine c_seq ?_
 refine rg ?_
 refine st (v := (pt b1 0)) (rv_fieldAddr (off := 0) (ft := 3) Try.underlying43 rfl ti3 rfl rfl) ?_
 have hc3 := H.cell (u := (I e_1.1)) (o' := 0) 0 0 rfl rfl rfl
 refine st (v := (I e_1.1)) (rv_load1 Try.underlying3 rfl rfl hc3) ?_
 refine st (v := (B (e_1.1 == 2))) (rv_eql (a := e_1.1) (b := 2) rfl rfl) ?_
 refine w_end ?_
 refine q_then ?_
 refine cd_cond (e_1.1 == 2) rfl (fun hb4 => ?_) (fun hb4 => ?_)
 ·replace h := bif_t hb4 h
  refine c_seq ?_
  refine rg ?_
  refine st (v := (.pointer av_0)) (rv_move rfl) ?_
  refine st (v := (pt b1 1)) (rv_fieldAddr (off := 1) (ft := 41) Try.underlying43 rfl ti41 rfl rfl) ?_
  refine st (v := (pt b1 1)) (rv_fieldAddr (off := 0) (ft := 3) Try.underlying41 rfl ti3 rfl rfl) ?_
  have hc5 := H.cell (u := (I e_1.2.1)) (o' := 1) 0 1 rfl rfl rfl
  refine st (v := (I e_1.2.1)) (rv_load1 Try.underlying3 rfl rfl hc5) ?_
  replace H := H.nilPv (Po (Int × (List Int) × Int)) 0
  obtain ⟨r6, hx7, h'⟩ := bind_some h
  clear h
  have h := h'; clear h'
  have hc8 := c_impl_version_with 100 (av_0 := av_0) (ax_3 := none) hx7
  refine st_call (cx_call hc8 (ent_f hc8.fn rfl) hn0 (show Hp S0 σ0 _ ([Ch.pv 0 (.pointer av_0) v_0, Ch.pv 0 (.pointer none) (Po.nil : Po (Int × (List Int) × Int))] ++ [Ch.pv 0 (.pointer none) (Po.nil : Po (Int × (List Int) × Int)), Ch.bx n0 b1 0 [(I e_1.1), (I e_1.2.1), (Sl ae_1_1_1 e_1.2.2.1 ce_1_1_1), (I e_1.2.2.2)] [] [], Ch.pv 0 (.pointer av_0) v_0, Ch.ro 0 (Sl ae_1_1_1 e_1.2.2.1 ce_1_1_1) e_1.2.2.1]) from (H.sel' [2, 0, 0, 1, 2, 3] rfl rfl))) wn ?_
  rintro _ σ10 ⟨_, ⟨a9, rfl, rfl⟩, H, -⟩
  replace H : Hp S0 σ0 σ10 [Ch.pv 0 (.pointer a9) r6, Ch.pv 0 (.pointer none) (Po.nil : Po (Int × (List Int) × Int)), Ch.bx n0 b1 0 [(I e_1.1), (I e_1.2.1), (Sl ae_1_1_1 e_1.2.2.1 ce_1_1_1), (I e_1.2.2.2)] [] [], Ch.pv 0 (.pointer av_0) v_0, Ch.ro 0 (Sl ae_1_1_1 e_1.2.2.1 ce_1_1_1) e_1.2.2.1] := H
  refine st (v := (.pointer a9)) (rv_assign rfl) ?_
  refine w_end ?_
  refine q_then ?_
  refine c_ret ?_
  refine q_then_r ?_
  obtain rfl := Option.some.inj h
  exact fin_ret (v := (.pointer a9)) (results_ok Try.results78 (res_tmp (v := (.pointer a9)) rfl res_nil) rfl) ⟨a9, rfl, rfl⟩ (H.sel' [0] rfl rfl)
 ·replace h := bif_f hb4 h
  refine c_skip ?_
  refine q_then ?_
  refine c_seq ?_
  refine rg ?_
  refine st (v := (.pointer av_0)) (rv_move rfl) ?_
  refine st (v := (pt b1 1)) (rv_fieldAddr (off := 1) (ft := 41) Try.underlying43 rfl ti41 rfl rfl) ?_
  refine st (v := (pt b1 1)) (rv_fieldAddr (off := 0) (ft := 3) Try.underlying41 rfl ti3 rfl rfl) ?_
  have hc11 := H.cell (u := (I e_1.2.1)) (o' := 1) 0 1 rfl rfl rfl
  refine st (v := (I e_1.2.1)) (rv_load1 Try.underlying3 rfl rfl hc11) ?_
  refine st (v := (pt b1 1)) (rv_fieldAddr (off := 1) (ft := 41) Try.underlying43 rfl ti41 rfl rfl) ?_
  have hp14 : Rp.rp 0 σ2 [(I e_1.2.1), (Sl ae_1_1_1 e_1.2.2.1 ce_1_1_1), (I e_1.2.2.2)] ((e_1.2.1, e_1.2.2.1, e_1.2.2.2) : Int × (List Int) × Int) := ⟨[(I e_1.2.1)], [(Sl ae_1_1_1 e_1.2.2.1 ce_1_1_1), (I e_1.2.2.2)], rfl, rfl, ⟨[(Sl ae_1_1_1 e_1.2.2.1 ce_1_1_1)], [(I e_1.2.2.2)], rfl, ⟨_, rfl, (H.ro 2 rfl)⟩, rfl⟩⟩
  obtain ⟨σ12, hw13, H, -⟩ := H.pubPv (τ := Po (Int × (List Int) × Int)) 0 1 rfl (Nat.zero_le _) rfl hp14 (Nat.le_of_ble_eq_true rfl)
  rw [← hw13]; clear hw13
  replace H : Hp S0 σ0 σ12 [Ch.pv 0 (.pointer (some ⟨b1, 1, none⟩)) (Po.to (e_1.2.1, e_1.2.2.1, e_1.2.2.2)), Ch.pv 0 (.pointer av_0) v_0, Ch.ro 0 (Sl ae_1_1_1 e_1.2.2.1 ce_1_1_1) e_1.2.2.1] := H
  obtain ⟨r15, hx16, h'⟩ := bind_some h
  clear h
  have h := h'; clear h'
  have hc17 := c_impl_version_with 100 (av_0 := av_0) (ax_3 := (some ⟨b1, 1, none⟩)) hx16
  refine st_call (cx_call hc17 (ent_f hc17.fn rfl) hn0 (show Hp S0 σ0 _ ([Ch.pv 0 (.pointer av_0) v_0, Ch.pv 0 (.pointer (some ⟨b1, 1, none⟩)) (Po.to (e_1.2.1, e_1.2.2.1, e_1.2.2.2))] ++ [Ch.pv 0 (.pointer (some ⟨b1, 1, none⟩)) (Po.to (e_1.2.1, e_1.2.2.1, e_1.2.2.2)), Ch.pv 0 (.pointer av_0) v_0, Ch.ro 0 (Sl ae_1_1_1 e_1.2.2.1 ce_1_1_1) e_1.2.2.1]) from (H.sel' [1, 0, 0, 1, 2] rfl rfl))) wn ?_
  rintro _ σ19 ⟨_, ⟨a18, rfl, rfl⟩, H, -⟩
  replace H : Hp S0 σ0 σ19 [Ch.pv 0 (.pointer a18) r15, Ch.pv 0 (.pointer (some ⟨b1, 1, none⟩)) (Po.to (e_1.2.1, e_1.2.2.1, e_1.2.2.2)), Ch.pv 0 (.pointer av_0) v_0, Ch.ro 0 (Sl ae_1_1_1 e_1.2.2.1 ce_1_1_1) e_1.2.2.1] := H
  refine st (v := (.pointer a18)) (rv_assign rfl) ?_
  refine w_end ?_
  refine q_then ?_
  refine c_ret ?_
  obtain rfl := Option.some.inj h
  exact fin_ret (v := (.pointer a18)) (results_ok Try.results78 (res_tmp (v := (.pointer a18)) rfl res_nil) rfl) ⟨a18, rfl, rfl⟩ (H.sel' [0] rfl rfl)

theorem c_impl_History_versions {h_0 : (List (Int × (Int × (List Int) × Int))) × (List Int)} {ah_0_0 : Option Addr} {ch_0_0 : Nat} {ah_0_1 : Option Addr} {ch_0_1 : Nat} {r : (List (Vr (Int × (List Int) × Int)))} (h : M.impl_History_versions h_0 = some r) :
    Cal2 Try.prog 47 [(.agg #[(Sl ah_0_0 h_0.1 ch_0_0), (Sl ah_0_1 h_0.2 ch_0_1)])] [Ch.ro 0 (Sl ah_0_0 h_0.1 ch_0_0) h_0.1, Ch.ro 0 (Sl ah_0_1 h_0.2 ch_0_1) h_0.2] (fun n0 v L => ∃ (az1 : Option Addr), ∃ (cz2 : Nat), v = (Sl az1 r cz2) ∧ L = [Ch.own n0 0 (Sl az1 r cz2) r]) := by
 refine cal2 (n := 26) Try.func47 rfl rfl rfl rfl ?_
 intro S0 σ0 n0 hn0 H
 unfold M.impl_History_versions at h
 refine c_seq ?_
 refine rg ?_
 refine st_ex (ex_box (cs := [(Sl ah_0_0 h_0.1 ch_0_0), (Sl ah_0_1 h_0.2 ch_0_1)]) H hn0 rfl rfl) wn ?_
 rintro _ σ2 ⟨b1, rfl, H, -⟩
 refine st (v := (.slice none 0 0)) (rv_assign rfl) ?_
 refine w_end ?_
 refine q_then ?_
 refine c_seq ?_
 refine rg ?_
 refine st_ex (ex_buildSlice (el := n0) (xs := ([Vr.nil] : List (Vr (Int × (List Int) × Int)))) (ps := [(0, (.pointer none))]) (cs := [(.pointer none)]) H hn0 Try.underlying68 ti67 rfl rfl (by kernel_rfl) (.cons (c := [(.pointer none)]) ⟨_, rfl, rfl⟩ (.nil)) rfl) wn ?_
 rintro _ σ4 ⟨b3, rfl, H, -⟩
 refine st (v := (Sl (some ⟨b3, 0, none⟩) ([Vr.nil] : List (Vr (Int × (List Int) × Int))) 1)) (rv_assign rfl) ?_
 refine w_end ?_
 refine q_then ?_
 refine c_seq ?_
 refine c_seq ?_
 refine rg ?_
 refine st (v := (pt b1 0)) (rv_fieldAddr (off := 0) (ft := 23) Try.underlying26 rfl ti23 rfl rfl) ?_
 have hc5 := H.cell (u := (Sl ah_0_0 h_0.1 ch_0_0)) (o' := 0) 1 0 rfl rfl rfl
 refine st (v := (Sl ah_0_0 h_0.1 ch_0_0)) (rv_load1 Try.underlying23 rfl rfl hc5) ?_
 refine st (v := (I (h_0.1.length : Int))) (rv_len Try.underlying23 rfl) ?_
 refine st (v := (I 0)) (rv_move rfl) ?_
 refine w_end ?_
 refine q_then ?_
 obtain ⟨o6, hj, h'⟩ := bind_some h
 clear h
 refine c_cut (fun e a w => e = .normal ∧ ∃ (ρ : Nat → Value) (σ : St) (aj1 : Option Addr) (cj2 : Nat), a = fr 26 (updL ρ [(3, (Sl aj1 o6 cj2))]) ∧ w = σ.w ∧ Hp S0 σ0 σ [Ch.own n0 0 (Sl aj1 o6 cj2) o6]) ?_ ?_
 ·clear h'
  rename _ = some o6 => h
  refine c_blk ?_
  replace H := H.ownLow 0 n0 0 rfl (Nat.le_refl _) (Nat.zero_le _)
  refine wp_loopM _ h (fun s7 a w => ∃ (ρ : Nat → Value) (σ : St) (aj1 : Option Addr) (cj2 : Nat), a = fr 26 (updL ρ [(3, (Sl aj1 s7.1 cj2)), (8, (Sl ah_0_0 h_0.1 ch_0_0)), (9, (I (h_0.1.length : Int))), (10, (I s7.2))]) ∧ w = σ.w ∧ Hp S0 σ0 σ [Ch.own n0 0 (Sl aj1 s7.1 cj2) s7.1, Ch.ro 0 (Sl ah_0_0 h_0.1 ch_0_0) h_0.1]) ⟨_, σ4, (some ⟨b3, 0, none⟩), 1, fr_join ⟨rfl, rfl, rfl, rfl, trivial⟩, rfl, H.sel' [0, 2] rfl rfl⟩ ?_
  clear h H
  rintro s7 a w o ⟨ρ, σ8, a9, c10, rfl, rfl, H⟩ h hres
  refine c_seq ?_
  refine rg ?_
  refine st (v := (B (decide (s7.2 < (h_0.1.length : Int))))) (rv_lss (a := s7.2) (b := (h_0.1.length : Int)) rfl rfl) ?_
  refine w_end ?_
  refine q_then ?_
  refine c_seq ?_
  refine cd_cond (decide (s7.2 < (h_0.1.length : Int))) rfl (fun hb11 => ?_) (fun hb11 => ?_)
  ·replace h := bif_t hb11 h
   refine c_skip ?_
   refine q_then ?_
   refine c_seq ?_
   refine c_blk ?_
   refine c_seq ?_
   refine rg ?_
   refine st (v := (I s7.2)) (rv_move rfl) ?_
   obtain ⟨x12, hx13, h'⟩ := bind_some h
   clear h
   have h := h'; clear h'
   obtain ⟨b15, o16, hi14, -⟩ := (H.ro 1 rfl).ix hx13
   refine st (v := (pt b15 o16)) (rv_ix Try.underlying23 ti43 rfl rfl hi14) ?_
   obtain ⟨_, ⟨_, _, rfl, rfl, ⟨_, _, rfl, rfl, ⟨_, _, rfl, ⟨_, rfl, hR21⟩, rfl⟩⟩⟩, hl17, hc18⟩ := ((H.ro 1 rfl).at hx13 hi14).cells
   obtain ⟨a19, c20, rfl⟩ := hR21.isSl
   replace H := H.add (d := Ch.ro 0 (Sl a19 x12.2.2.1 c20) x12.2.2.1) hR21 (fun _ h => h)
   clear hR21
   refine st (v := (.agg #[(I x12.1), (I x12.2.1), (Sl a19 x12.2.2.1 c20), (I x12.2.2.2)])) (rv_load Try.underlying43 rfl ti43 rfl hl17 hc18) ?_
   refine st_ex (ex_alloc (cs := [(I 0), (I 0), (.slice none 0 0), (I 0)]) H hn0 ti43 rfl) wn ?_
   rintro _ σ23 ⟨b22, rfl, H, -⟩
   refine st (v := (I s7.2)) (rv_assign rfl) ?_
   refine st_exS (ex_store_box (k := 0) (cs := [(I 0), (I 0), (.slice none 0 0), (I 0)]) (vs := [(I x12.1), (I x12.2.1), (Sl a19 x12.2.2.1 c20), (I x12.2.2.2)]) (cs' := [(I x12.1), (I x12.2.1), (Sl a19 x12.2.2.1 c20), (I x12.2.2.2)]) H (i := 0) rfl ti43 rfl rfl rfl rfl rfl (Nat.le_of_ble_eq_true rfl) (by simp [plain]) rfl) wn ?_
   rintro σ24 ⟨H, -⟩
   refine w_end ?_
   refine q_then ?_
   obtain ⟨x25, hx26, h'⟩ := bind_some h
   clear h
   have h := h'; clear h'
   obtain ⟨b28, o29, hi27, -⟩ := (H.own 2 rfl).ix hx26
   obtain ⟨v33, hc32, hR31⟩ := ((H.own 2 rfl).at hx26 hi27).vr
   obtain ⟨a30, rfl⟩ := hR31.isPtr
   replace H := H.add (d := Ch.pv 0 (.pointer a30) x25) hR31 (fun _ h => h)
   clear hR31
   have hc34 := H.cells 1 rfl
   obtain ⟨r35, hx36, h'⟩ := bind_some h
   clear h
   have h := h'; clear h'
   have hc37 := c_impl_version_after (av_0 := a30) (ae_1_1_1 := a19) (ce_1_1_1 := c20) hx36
   have Hs := H
   refine rg2 (σ := σ24) (Nm := (Option Addr) × (Nat)) 8 [6, 7] [[false, false], [true, false], [true, true]] [[(0, 0), (1, 1), (2, 2)], [(0, 0)], [(0, 0)], [(0, 0)], [(0, 0)], [(0, 0)], [(0, 1)], [(1, 2)]] 2 [fun ((a38, b39) : (Option Addr) × (Nat)) => fun σm => Hp S0 σ0 σm [Ch.pv 0 (.pointer a30) x25, Ch.bx n0 b22 0 [(I x12.1), (I x12.2.1), (Sl a19 x12.2.2.1 c20), (I x12.2.2.2)] [] [], Ch.ro 0 (Sl a19 x12.2.2.1 c20) x12.2.2.1, Ch.own n0 0 (Sl a9 s7.1 c10) s7.1, Ch.ro 0 (Sl ah_0_0 h_0.1 ch_0_0) h_0.1] ∧ Md (cov []) σ24 σm, fun ((a38, b39) : (Option Addr) × (Nat)) => fun σm => Hp S0 σ0 σm [Ch.pv 0 (.pointer a38) r35, Ch.pv 0 (.pointer a30) x25, Ch.bx n0 b22 0 [(I x12.1), (I x12.2.1), (Sl a19 x12.2.2.1 c20), (I x12.2.2.2)] [] [], Ch.ro 0 (Sl a19 x12.2.2.1 c20) x12.2.2.1, Ch.own n0 0 (Sl a9 s7.1 c10) s7.1, Ch.ro 0 (Sl ah_0_0 h_0.1 ch_0_0) h_0.1] ∧ Md (cov []) σ24 σm, fun ((a38, b39) : (Option Addr) × (Nat)) => fun σm => Hp S0 σ0 σm [Ch.own n0 0 (Sl (some ⟨b39, 0, none⟩) ([r35] : List (Vr (Int × (List Int) × Int))) 1) ([r35] : List (Vr (Int × (List Int) × Int))), Ch.pv 0 (.pointer a38) r35, Ch.pv 0 (.pointer a30) x25, Ch.bx n0 b22 0 [(I x12.1), (I x12.2.1), (Sl a19 x12.2.2.1 c20), (I x12.2.2.2)] [] [], Ch.ro 0 (Sl a19 x12.2.2.1 c20) x12.2.2.1, Ch.own n0 0 (Sl a9 s7.1 c10) s7.1, Ch.ro 0 (Sl ah_0_0 h_0.1 ch_0_0) h_0.1] ∧ Md (cov []) σ24 σm] [fun ((a38, b39) : (Option Addr) × (Nat)) => (Sl a9 s7.1 c10), fun ((a38, b39) : (Option Addr) × (Nat)) => (Sl a9 s7.1 c10), fun ((a38, b39) : (Option Addr) × (Nat)) => (I s7.2), fun ((a38, b39) : (Option Addr) × (Nat)) => (pt b28 o29), fun ((a38, b39) : (Option Addr) × (Nat)) => (.pointer a30), fun ((a38, b39) : (Option Addr) × (Nat)) => (.agg #[(I x12.1), (I x12.2.1), (Sl a19 x12.2.2.1 c20), (I x12.2.2.2)]), fun ((a38, b39) : (Option Addr) × (Nat)) => (.pointer a38), fun ((a38, b39) : (Option Addr) × (Nat)) => (Sl (some ⟨b39, 0, none⟩) ([r35] : List (Vr (Int × (List Int) × Int))) 1)] (none, 0) (by kernel_rfl) (by kernel_rfl) ?_ ?_ ?_
   ·intro σm m0
    exact ⟨H.grow (m0.mono fun _ h => h.elim), m0⟩
   ·refine ac rfl (by
      intro k; rintro ⟨a38, b39⟩ ρ σm hJ hoff hdep
      have e3 := look_off (N := 26) (hoff 3 rfl) rfl
      exact dp_v (v := (Sl a9 s7.1 c10)) wn (rv_move e3) rfl hJ) ?_
    refine ac rfl (by
      intro k; rintro ⟨a38, b39⟩ ρ σm hJ hoff hdep
      have e3 := look_off (N := 26) (hoff 3 rfl) rfl
      exact dp_v (v := (Sl a9 s7.1 c10)) wn (rv_move e3) rfl hJ) ?_
    refine ac rfl (by
      intro k; rintro ⟨a38, b39⟩ ρ σm hJ hoff hdep
      have e4 := look_off (N := 26) (hoff 4 rfl) rfl
      exact dp_v (v := (I s7.2)) wn (rv_move e4) rfl hJ) ?_
    refine ac rfl (by
      intro k; rintro ⟨a38, b39⟩ ρ σm hJ hoff hdep
      have e16 := hdep 1 rfl rfl 16 rfl
      have e17 := hdep 2 rfl rfl 17 rfl
      exact dp_v (v := (pt b28 o29)) wn (rv_ix Try.underlying68 ti67 e16 e17 hi27) rfl hJ) ?_
    refine all_cons (by
      refine ⟨?_, ?_⟩
      ·rintro ⟨a38, b39⟩ ρ σm hJ hoff hdep
       have e18 := hdep 3 rfl rfl 18 rfl
       obtain ⟨H, m⟩ := id hJ
       replace hc32 := m.hcell hc32 nocov
       exact dp_v (v := (.pointer a30)) wn (rv_load1 Try.underlying67 rfl e18 hc32) rfl hJ
      trivial) ?_
    refine all_cons (by
      refine ⟨?_, ?_⟩
      ·rintro ⟨a38, b39⟩ ρ σm hJ hoff hdep
       have e5 := look_off (N := 26) (hoff 5 rfl) rfl
       obtain ⟨H, m⟩ := id hJ
       have hc34 := H.cells 1 rfl
       exact dp_v (v := (.agg #[(I x12.1), (I x12.2.1), (Sl a19 x12.2.2.1 c20), (I x12.2.2.2)])) wn (rv_load (cs := [(I x12.1), (I x12.2.1), (Sl a19 x12.2.2.1 c20), (I x12.2.2.2)]) Try.underlying43 rfl ti43 e5 rfl hc34) rfl hJ
      trivial) ?_
    refine all_cons (by
      refine ⟨?_, ?_⟩
      ·rintro ⟨a38, b39⟩ ρ σm hJ hoff hdep
       have e19 : look 26 ρ 19 = (.pointer a30) := hdep 4 rfl rfl 19 rfl
       have e20 : look 26 ρ 20 = (.agg #[(I x12.1), (I x12.2.1), (Sl a19 x12.2.2.1 c20), (I x12.2.2.2)]) := hdep 5 rfl rfl 20 rfl
       obtain ⟨H, m⟩ := id hJ
       refine dp_cx wn (cx_call hc37 (ent_f hc37.fn (by show [look 26 ρ 19, look 26 ρ 20] = _; rw [e19, e20])) hn0 (show Hp S0 σ0 _ ([Ch.pv 0 (.pointer a30) x25, Ch.ro 0 (Sl a19 x12.2.2.1 c20) x12.2.2.1] ++ [Ch.pv 0 (.pointer a30) x25, Ch.bx n0 b22 0 [(I x12.1), (I x12.2.1), (Sl a19 x12.2.2.1 c20), (I x12.2.2.2)] [] [], Ch.ro 0 (Sl a19 x12.2.2.1 c20) x12.2.2.1, Ch.own n0 0 (Sl a9 s7.1 c10) s7.1, Ch.ro 0 (Sl ah_0_0 h_0.1 ch_0_0) h_0.1]) from (H.sel' [0, 2, 0, 1, 2, 3, 4] rfl rfl))) ?_
       rintro _ σq ⟨_, ⟨a38x, rfl, rfl⟩, H2, m2⟩
       exact ⟨_, (a38x, b39), rfl, rfl, ⟨H2.sel' [0, 1, 2, 3, 4, 5] rfl rfl, m.comp0 (m2.mono (fun i h => by simp [cov, Ch.ro, Ch.pv] at h))⟩, stab [0, 1, 2, 3, 4, 5] (by kernel_rfl) ⟨rfl, rfl, rfl, rfl, rfl, rfl, trivial⟩⟩
      trivial) ?_
    refine all_cons (by
      refine ⟨?_, ?_⟩
      ·rintro ⟨a38, b39⟩ ρ σm hJ hoff hdep
       have e21 : look 26 ρ 21 = (.pointer a38) := hdep 6 rfl rfl 21 rfl
       obtain ⟨H, m⟩ := id hJ
       refine dp_ex wn (ex_buildSlice (el := 0) (xs := ([r35] : List (Vr (Int × (List Int) × Int)))) (ps := [(0, (.pointer a38))]) (cs := [(.pointer a38)]) H hn0 Try.underlying68 ti67 rfl (by show [(0, look 26 ρ 21)] = _; rw [e21]) (by kernel_rfl) (.cons (c := [(.pointer a38)]) ⟨_, rfl, (H.pv 0 rfl)⟩ (.nil)) rfl) ?_
       rintro _ σq ⟨b39x, rfl, H2, m2⟩
       exact ⟨_, (a38, b39x), rfl, rfl, ⟨H2.sel' [0, 1, 2, 3, 4, 5, 6] rfl rfl, m.comp0 m2⟩, stab [0, 1, 2, 3, 4, 5, 6] (by kernel_rfl) ⟨rfl, rfl, rfl, rfl, rfl, rfl, rfl, trivial⟩⟩
      trivial) ?_
    exact all_nil
   ·rintro ⟨a38, b39⟩ ρ σ40 hJ hoff hrel
    have e8 := look_off (N := 26) (hoff 8 rfl) rfl
    have e9 := look_off (N := 26) (hoff 9 rfl) rfl
    have e10 := look_off (N := 26) (hoff 10 rfl) rfl
    have e15 := hrel 0 rfl 15 rfl
    have e22 := hrel 7 rfl 22 rfl
    obtain ⟨H, -⟩ := (show Hp S0 σ0 σ40 [Ch.own n0 0 (Sl (some ⟨b39, 0, none⟩) ([r35] : List (Vr (Int × (List Int) × Int))) 1) ([r35] : List (Vr (Int × (List Int) × Int))), Ch.pv 0 (.pointer a38) r35, Ch.pv 0 (.pointer a30) x25, Ch.bx n0 b22 0 [(I x12.1), (I x12.2.1), (Sl a19 x12.2.2.1 c20), (I x12.2.2.2)] [] [], Ch.ro 0 (Sl a19 x12.2.2.1 c20) x12.2.2.1, Ch.own n0 0 (Sl a9 s7.1 c10) s7.1, Ch.ro 0 (Sl ah_0_0 h_0.1 ch_0_0) h_0.1] ∧ Md (cov []) σ24 σ40 from hJ)
    clear hJ Hs
    rw [fr_lookL (L := [(8, (Sl ah_0_0 h_0.1 ch_0_0)), (9, (I (h_0.1.length : Int))), (10, (I s7.2)), (15, (Sl a9 s7.1 c10)), (22, (Sl (some ⟨b39, 0, none⟩) ([r35] : List (Vr (Int × (List Int) × Int))) 1))]) ⟨e8, e9, e10, e15, e22, trivial⟩]
    clear hoff hrel e8 e9 e10 e15 e22
    obtain ⟨xs41, hx42, h'⟩ := bind_some h
    clear h
    have h := h'; clear h'
    refine st_ex (ex_append H (i := 5) rfl Try.underlying68 Try.underlying68 ti67 rfl rfl (by decide) (H.own 0 rfl).rd hx42 hn0 rfl rfl) wn ?_
    rintro _ σ45 ⟨a43, c44, rfl, H, -⟩
    refine st (v := (Sl a43 xs41 c44)) (rv_assign rfl) ?_
    refine w_end ?_
    refine q_blk ?_
    refine q_then ?_
    refine rg ?_
    refine st (v := (I (w64 (s7.2 + 1)))) (rv_add (a := s7.2) (b := 1) rfl rfl) ?_
    refine st (v := (I (w64 (s7.2 + 1)))) (rv_move rfl) ?_
    refine w_end ?_
    refine q_then ?_
    obtain rfl := Option.some.inj h
    exact ⟨_, rfl, _, σ45, a43, c44, fr_join ⟨rfl, rfl, rfl, rfl, trivial⟩, rfl, H.sel' [0, 6] rfl rfl⟩
  ·replace h := bif_f hb11 h
   refine c_exit ?_
   refine q_then_x ?_
   refine q_then_x ?_
   refine q_blk_hit ?_
   obtain rfl := Option.some.inj h
   obtain rfl := hres _ rfl
   exact ⟨rfl, _, σ8, a9, c10, fr_join ⟨rfl, trivial⟩, rfl, H.sel' [0] rfl rfl⟩
 ·clear hj
  have h := h'
  clear h' H
  rintro e a w ⟨rfl, ρ, σ46, a47, c48, rfl, rfl, H⟩
  refine q_then ?_
  refine c_seq ?_
  refine rg ?_
  refine st (v := (Sl a47 o6 c48)) (rv_move rfl) ?_
  refine st (v := (Sl a47 o6 c48)) (rv_assign rfl) ?_
  refine w_end ?_
  refine q_then ?_
  refine c_ret ?_
  obtain rfl := Option.some.inj h
  exact fin_ret (v := (Sl a47 o6 c48)) (results_ok Try.results47 (res_tmp (v := (Sl a47 o6 c48)) rfl res_nil) rfl) ⟨a47, c48, rfl, rfl⟩ (H.sel' [0] rfl rfl)

theorem c_slices_isNaN_int {x_0 : Int}  {r : Bool} (h : M.slices_isNaN_int x_0 = some r) :
    Cal2 Try.prog 104 [(I x_0)] [] (fun n0 v L => v = (B r) ∧ L = []) := by
 refine cal2 (n := 6) Try.func104 rfl rfl rfl rfl ?_
 intro S0 σ0 n0 hn0 H
 unfold M.slices_isNaN_int at h
 refine c_seq ?_
 refine rg ?_
 refine st (v := (B false)) (rv_assign rfl) ?_
 refine w_end ?_
 refine q_then ?_
 refine c_seq ?_
 refine rg ?_
 refine st (v := (I x_0)) (rv_move rfl) ?_
 refine st (v := (I x_0)) (rv_move rfl) ?_
 refine st (v := (B (x_0 != x_0))) (rv_neq (a := x_0) (b := x_0) rfl rfl) ?_
 refine st (v := (B (x_0 != x_0))) (rv_assign rfl) ?_
 refine w_end ?_
 refine q_then ?_
 refine c_ret ?_
 obtain rfl := Option.some.inj h
 exact fin_ret (v := (B (x_0 != x_0))) (results_ok Try.results104 (res_tmp (v := (B (x_0 != x_0))) rfl res_nil) rfl) ⟨rfl, rfl⟩ (H.sel' [] rfl rfl)

theorem c_slices_BinarySearch_int_int {x_0 : List Int} {target_1 : Int} {ax_0 : Option Addr} {cx_0 : Nat} {r : Int × Bool} (h : M.slices_BinarySearch_int_int x_0 target_1 = some r) :
    Cal2 Try.prog 79 [(Sl ax_0 x_0 cx_0), (I target_1)] [Ch.ro 0 (Sl ax_0 x_0 cx_0) x_0] (fun n0 v L => v = (.tuple #[(I r.1), (B r.2)]) ∧ L = []) := by
 refine cal2 (n := 54) Try.func79 rfl rfl rfl rfl ?_
 intro S0 σ0 n0 hn0 H
 unfold M.slices_BinarySearch_int_int at h
 refine c_seq ?_
 refine rg ?_
 refine st (v := (I 0)) (rv_assign rfl) ?_
 refine st (v := (B false)) (rv_assign rfl) ?_
 refine w_end ?_
 refine q_then ?_
 refine c_seq ?_
 refine rg ?_
 refine st (v := (Sl ax_0 x_0 cx_0)) (rv_move rfl) ?_
 refine st (v := (I (x_0.length : Int))) (rv_len Try.underlying24 rfl) ?_
 refine st (v := (I (x_0.length : Int))) (rv_assign rfl) ?_
 refine w_end ?_
 refine q_then ?_
 refine c_seq ?_
 refine rg ?_
 refine st (v := (I (x_0.length : Int))) (rv_move rfl) ?_
 refine st (v := (I 0)) (rv_assign rfl) ?_
 refine st (v := (I (x_0.length : Int))) (rv_assign rfl) ?_
 refine w_end ?_
 refine q_then ?_
 refine c_seq ?_
 obtain ⟨o1, hj, h'⟩ := bind_some h
 clear h
 refine c_cut (fun e a w => e = .normal ∧ ∃ (ρ : Nat → Value) (σ : St), a = fr 54 (updL ρ [(0, (Sl ax_0 x_0 cx_0)), (1, (I target_1)), (6, (I (x_0.length : Int))), (7, (I o1))]) ∧ w = σ.w ∧ Hp S0 σ0 σ [Ch.ro 0 (Sl ax_0 x_0 cx_0) x_0]) ?_ ?_
 ·clear h'
  rename _ = some o1 => h
  refine c_blk ?_
  refine wp_loopM _ h (fun s2 a w => ∃ (ρ : Nat → Value) (σ : St), a = fr 54 (updL ρ [(0, (Sl ax_0 x_0 cx_0)), (1, (I target_1)), (6, (I (x_0.length : Int))), (7, (I s2.1)), (8, (I s2.2))]) ∧ w = σ.w ∧ Hp S0 σ0 σ [Ch.ro 0 (Sl ax_0 x_0 cx_0) x_0]) ⟨_, σ0, fr_join ⟨rfl, rfl, rfl, rfl, rfl, trivial⟩, rfl, H.sel' [0] rfl rfl⟩ ?_
  clear h H
  rintro s2 a w o ⟨ρ, σ3, rfl, rfl, H⟩ h hres
  refine c_seq ?_
  refine c_seq ?_
  refine rg ?_
  refine st (v := (I s2.1)) (rv_move rfl) ?_
  refine st (v := (I s2.2)) (rv_move rfl) ?_
  refine st (v := (B (decide (s2.1 < s2.2)))) (rv_lss (a := s2.1) (b := s2.2) rfl rfl) ?_
  refine w_end ?_
  refine q_then ?_
  refine cd_cond (decide (s2.1 < s2.2)) rfl (fun hb4 => ?_) (fun hb4 => ?_)
  ·replace h := bif_t hb4 h
   refine c_skip ?_
   refine q_then ?_
   refine c_blk ?_
   refine c_seq ?_
   refine rg ?_
   refine st (v := (I s2.1)) (rv_move rfl) ?_
   refine st (v := (I s2.2)) (rv_move rfl) ?_
   refine st (v := (I (w64 (s2.1 + s2.2)))) (rv_add (a := s2.1) (b := s2.2) rfl rfl) ?_
   refine st (v := (.int .u64 (wk .u64 (w64 (s2.1 + s2.2))))) (rvk_conv (k := .i64) (k' := .u64) (a := (w64 (s2.1 + s2.2))) Try.underlying3 Try.underlying121 rfl) ?_
   refine st (v := (.int .u64 (gshr .u64 (wk .u64 (w64 (s2.1 + s2.2))) 1))) (rvk_shr (k := .u64) (k' := .u64) (a := (wk .u64 (w64 (s2.1 + s2.2)))) (b := 1) rfl rfl (by decide)) ?_
   refine st (v := (I (wk .i64 (gshr .u64 (wk .u64 (w64 (s2.1 + s2.2))) 1)))) (rvk_conv (k := .u64) (k' := .i64) (a := (gshr .u64 (wk .u64 (w64 (s2.1 + s2.2))) 1)) Try.underlying121 Try.underlying3 rfl) ?_
   refine st (v := (I (wk .i64 (gshr .u64 (wk .u64 (w64 (s2.1 + s2.2))) 1)))) (rv_assign rfl) ?_
   refine w_end ?_
   refine q_then ?_
   refine c_seq ?_
   refine rg ?_
   refine st (v := (Sl ax_0 x_0 cx_0)) (rv_move rfl) ?_
   refine st (v := (I (wk .i64 (gshr .u64 (wk .u64 (w64 (s2.1 + s2.2))) 1)))) (rv_move rfl) ?_
   obtain ⟨x5, hx6, h'⟩ := bind_some h
   clear h
   have h := h'; clear h'
   obtain ⟨b8, o9, hi7, -⟩ := (H.ro 0 rfl).ix hx6
   refine st (v := (pt b8 o9)) (rv_ix Try.underlying24 ti3 rfl rfl hi7) ?_
   have hc10 := ((H.ro 0 rfl).at hx6 hi7).int
   refine st (v := (I x5)) (rv_load1 Try.underlying3 rfl rfl hc10) ?_
   refine st (v := (I target_1)) (rv_move rfl) ?_
   obtain ⟨r11, hx12, h'⟩ := bind_some h
   clear h
   have h := h'; clear h'
   have hc13 := c_cmp_Less_int hx12
   refine st_call (cx_call hc13 (ent_f hc13.fn rfl) hn0 (show Hp S0 σ0 _ ([] ++ [Ch.ro 0 (Sl ax_0 x_0 cx_0) x_0]) from (H.sel' [0] rfl rfl))) wn ?_
   rintro _ σ14 ⟨_, ⟨rfl, rfl⟩, H, -⟩
   replace H : Hp S0 σ0 σ14 [Ch.ro 0 (Sl ax_0 x_0 cx_0) x_0] := H
   refine w_end ?_
   refine q_then ?_
   refine cd_cond r11 rfl (fun hb15 => ?_) (fun hb15 => ?_)
   ·replace h := bif_t hb15 h
    refine rg ?_
    refine st (v := (I (wk .i64 (gshr .u64 (wk .u64 (w64 (s2.1 + s2.2))) 1)))) (rv_move rfl) ?_
    refine st (v := (I (w64 ((wk .i64 (gshr .u64 (wk .u64 (w64 (s2.1 + s2.2))) 1)) + 1)))) (rv_add (a := (wk .i64 (gshr .u64 (wk .u64 (w64 (s2.1 + s2.2))) 1))) (b := 1) rfl rfl) ?_
    refine st (v := (I (w64 ((wk .i64 (gshr .u64 (wk .u64 (w64 (s2.1 + s2.2))) 1)) + 1)))) (rv_assign rfl) ?_
    refine w_end ?_
    refine q_blk ?_
    refine q_then ?_
    obtain rfl := Option.some.inj h
    exact ⟨_, rfl, _, σ14, fr_join ⟨rfl, rfl, rfl, rfl, rfl, trivial⟩, rfl, H.sel' [0] rfl rfl⟩
   ·replace h := bif_f hb15 h
    refine rg ?_
    refine st (v := (I (wk .i64 (gshr .u64 (wk .u64 (w64 (s2.1 + s2.2))) 1)))) (rv_move rfl) ?_
    refine st (v := (I (wk .i64 (gshr .u64 (wk .u64 (w64 (s2.1 + s2.2))) 1)))) (rv_assign rfl) ?_
    refine w_end ?_
    refine q_blk ?_
    refine q_then ?_
    obtain rfl := Option.some.inj h
    exact ⟨_, rfl, _, σ14, fr_join ⟨rfl, rfl, rfl, rfl, rfl, trivial⟩, rfl, H.sel' [0] rfl rfl⟩
  ·replace h := bif_f hb4 h
   refine c_exit ?_
   refine q_then_x ?_
   refine q_then_x ?_
   refine q_blk_hit ?_
   obtain rfl := Option.some.inj h
   obtain rfl := hres _ rfl
   exact ⟨rfl, _, σ3, fr_join ⟨rfl, rfl, rfl, rfl, trivial⟩, rfl, H.sel' [0] rfl rfl⟩
 ·clear hj
  have h := h'
  clear h' H
  rintro e a w ⟨rfl, ρ, σ16, rfl, rfl, H⟩
  refine q_then ?_
  refine c_seq ?_
  refine rg ?_
  refine st (v := (I o1)) (rv_move rfl) ?_
  refine st (v := (I o1)) (rv_move rfl) ?_
  refine st (v := (I (x_0.length : Int))) (rv_move rfl) ?_
  refine st (v := (B (decide (o1 < (x_0.length : Int))))) (rv_lss (a := o1) (b := (x_0.length : Int)) rfl rfl) ?_
  refine st (v := (B (decide (o1 < (x_0.length : Int))))) (rv_move rfl) ?_
  rcases Bool.eq_false_or_eq_true (decide (o1 < (x_0.length : Int))) with hb17 | hb17
  ·replace h := bif_t hb17 h
   refine st_g (v := (Sl ax_0 x_0 cx_0)) (congrArg some hb17) (rv_move rfl) ?_
   refine st_g (v := (I o1)) (congrArg some hb17) (rv_move rfl) ?_
   obtain ⟨x18, hx19, h'⟩ := bind_some h
   clear h
   have h := h'; clear h'
   obtain ⟨b21, o22, hi20, -⟩ := (H.ro 0 rfl).ix hx19
   refine st_g (v := (pt b21 o22)) (congrArg some hb17) (rv_ix Try.underlying24 ti3 rfl rfl hi20) ?_
   have hc23 := ((H.ro 0 rfl).at hx19 hi20).int
   refine st_g (v := (I x18)) (congrArg some hb17) (rv_load1 Try.underlying3 rfl rfl hc23) ?_
   refine st_g (v := (I target_1)) (congrArg some hb17) (rv_move rfl) ?_
   refine st_g (v := (B (x18 == target_1))) (congrArg some hb17) (rv_eql (a := x18) (b := target_1) rfl rfl) ?_
   refine st_g (v := (B (x18 == target_1))) (congrArg some hb17) (rv_move rfl) ?_
   rcases Bool.eq_false_or_eq_true (x18 == target_1) with hb24 | hb24
   ·replace h := bif_t hb24 h
    refine st_skip (congrArg some hb24) ?_
    refine st_skip (congrArg some hb24) ?_
    refine st_skip (congrArg some hb24) ?_
    refine st_skip (congrArg some hb24) ?_
    refine st_skip (congrArg some hb24) ?_
    refine st_skip (congrArg some hb24) ?_
    refine st_skip_u rfl ?_
    refine st_skip_u rfl ?_
    refine st_skip (congrArg some hb24) ?_
    refine st_g (v := (B true)) (congrArg some hb17) (rv_pick_t (congrArg B hb24) rfl) ?_
    refine st (v := (B true)) (rv_pick_t (congrArg B hb17) rfl) ?_
    refine st (v := (I o1)) (rv_assign rfl) ?_
    refine st (v := (B true)) (rv_assign rfl) ?_
    refine w_end ?_
    refine q_then ?_
    refine c_ret ?_
    obtain rfl := Option.some.inj h
    exact fin_ret (v := (.tuple #[(I o1), (B true)])) (results_ok Try.results79 (res_tmp (v := (I o1)) rfl (res_tmp (v := (B true)) rfl res_nil)) rfl) ⟨rfl, rfl⟩ (H.sel' [] rfl rfl)
   ·replace h := bif_f hb24 h
    refine st_g (v := (Sl ax_0 x_0 cx_0)) (congrArg some hb24) (rv_move rfl) ?_
    refine st_g (v := (I o1)) (congrArg some hb24) (rv_move rfl) ?_
    obtain ⟨x25, hx26, h'⟩ := bind_some h
    clear h
    have h := h'; clear h'
    obtain ⟨b28, o29, hi27, -⟩ := (H.ro 0 rfl).ix hx26
    refine st_g (v := (pt b28 o29)) (congrArg some hb24) (rv_ix Try.underlying24 ti3 rfl rfl hi27) ?_
    have hc30 := ((H.ro 0 rfl).at hx26 hi27).int
    refine st_g (v := (I x25)) (congrArg some hb24) (rv_load1 Try.underlying3 rfl rfl hc30) ?_
    obtain ⟨r31, hx32, h'⟩ := bind_some h
    clear h
    have h := h'; clear h'
    have hc33 := c_slices_isNaN_int hx32
    refine st_call (cx_call hc33 (ent_f hc33.fn rfl) hn0 (show Hp S0 σ0 _ ([] ++ [Ch.ro 0 (Sl ax_0 x_0 cx_0) x_0]) from (H.sel' [0] rfl rfl))) (wanted_yes rfl (by exact (congrArg some hb24))) ?_
    rintro _ σ34 ⟨_, ⟨rfl, rfl⟩, H, -⟩
    replace H : Hp S0 σ0 σ34 [Ch.ro 0 (Sl ax_0 x_0 cx_0) x_0] := H
    refine st_g (v := (B r31)) (congrArg some hb24) (rv_move rfl) ?_
    rcases Bool.eq_false_or_eq_true r31 with hb35 | hb35
    ·replace h := bif_t hb35 h
     refine st_g (v := (I target_1)) (congrArg some hb35) (rv_move rfl) ?_
     obtain ⟨r36, hx37, h'⟩ := bind_some h
     clear h
     have h := h'; clear h'
     have hc38 := c_slices_isNaN_int hx37
     refine st_call (cx_call hc38 (ent_f hc38.fn rfl) hn0 (show Hp S0 σ0 _ ([] ++ [Ch.ro 0 (Sl ax_0 x_0 cx_0) x_0]) from (H.sel' [0] rfl rfl))) (wanted_yes rfl (by exact (congrArg some hb35))) ?_
     rintro _ σ39 ⟨_, ⟨rfl, rfl⟩, H, -⟩
     replace H : Hp S0 σ0 σ39 [Ch.ro 0 (Sl ax_0 x_0 cx_0) x_0] := H
     refine st_g (v := (B r36)) (congrArg some hb24) (rv_pick_t (congrArg B hb35) rfl) ?_
     refine st_g (v := (B r36)) (congrArg some hb17) (rv_pick_f (congrArg B hb24) rfl) ?_
     refine st (v := (B r36)) (rv_pick_t (congrArg B hb17) rfl) ?_
     refine st (v := (I o1)) (rv_assign rfl) ?_
     refine st (v := (B r36)) (rv_assign rfl) ?_
     refine w_end ?_
     refine q_then ?_
     refine c_ret ?_
     obtain rfl := Option.some.inj h
     exact fin_ret (v := (.tuple #[(I o1), (B r36)])) (results_ok Try.results79 (res_tmp (v := (I o1)) rfl (res_tmp (v := (B r36)) rfl res_nil)) rfl) ⟨rfl, rfl⟩ (H.sel' [] rfl rfl)
    ·replace h := bif_f hb35 h
     refine st_skip (congrArg some hb35) ?_
     refine st_skip (congrArg some hb35) ?_
     refine st_g (v := (B false)) (congrArg some hb24) (rv_pick_f (congrArg B hb35) rfl) ?_
     refine st_g (v := (B false)) (congrArg some hb17) (rv_pick_f (congrArg B hb24) rfl) ?_
     refine st (v := (B false)) (rv_pick_t (congrArg B hb17) rfl) ?_
     refine st (v := (I o1)) (rv_assign rfl) ?_
     refine st (v := (B false)) (rv_assign rfl) ?_
     refine w_end ?_
     refine q_then ?_
     refine c_ret ?_
     obtain rfl := Option.some.inj h
     exact fin_ret (v := (.tuple #[(I o1), (B false)])) (results_ok Try.results79 (res_tmp (v := (I o1)) rfl (res_tmp (v := (B false)) rfl res_nil)) rfl) ⟨rfl, rfl⟩ (H.sel' [] rfl rfl)
  ·replace h := bif_f hb17 h
   refine st_skip (congrArg some hb17) ?_
   refine st_skip (congrArg some hb17) ?_
   refine st_skip (congrArg some hb17) ?_
   refine st_skip (congrArg some hb17) ?_
   refine st_skip (congrArg some hb17) ?_
   refine st_skip (congrArg some hb17) ?_
   refine st_skip (congrArg some hb17) ?_
   refine st_skip_u rfl ?_
   refine st_skip_u rfl ?_
   refine st_skip_u rfl ?_
   refine st_skip_u rfl ?_
   refine st_skip_u rfl ?_
   refine st_skip_u rfl ?_
   refine st_skip_u rfl ?_
   refine st_skip_u rfl ?_
   refine st_skip_u rfl ?_
   refine st_skip (congrArg some hb17) ?_
   refine st (v := (B false)) (rv_pick_f (congrArg B hb17) rfl) ?_
   refine st (v := (I o1)) (rv_assign rfl) ?_
   refine st (v := (B false)) (rv_assign rfl) ?_
   refine w_end ?_
   refine q_then ?_
   refine c_ret ?_
   obtain rfl := Option.some.inj h
   exact fin_ret (v := (.tuple #[(I o1), (B false)])) (results_ok Try.results79 (res_tmp (v := (I o1)) rfl (res_tmp (v := (B false)) rfl res_nil)) rfl) ⟨rfl, rfl⟩ (H.sel' [] rfl rfl)

theorem c_impl_History_entriesUntil {h_0 : (List (Int × (Int × (List Int) × Int))) × (List Int)} {t_1 : Int} {ah_0_0 : Option Addr} {ch_0_0 : Nat} {ah_0_1 : Option Addr} {ch_0_1 : Nat} {r : Int} (h : M.impl_History_entriesUntil h_0 t_1 = some r) :
    Cal2 Try.prog 48 [(.agg #[(Sl ah_0_0 h_0.1 ch_0_0), (Sl ah_0_1 h_0.2 ch_0_1)]), (I t_1)] [Ch.ro 0 (Sl ah_0_0 h_0.1 ch_0_0) h_0.1, Ch.ro 0 (Sl ah_0_1 h_0.2 ch_0_1) h_0.2] (fun n0 v L => v = (I r) ∧ L = []) := by
 refine cal2 (n := 16) Try.func48 rfl rfl rfl rfl ?_
 intro S0 σ0 n0 hn0 H
 unfold M.impl_History_entriesUntil at h
 refine c_seq ?_
 refine rg ?_
 refine st_ex (ex_box (cs := [(Sl ah_0_0 h_0.1 ch_0_0), (Sl ah_0_1 h_0.2 ch_0_1)]) H hn0 rfl rfl) wn ?_
 rintro _ σ2 ⟨b1, rfl, H, -⟩
 refine st (v := (I 0)) (rv_assign rfl) ?_
 refine w_end ?_
 refine q_then ?_
 refine c_seq ?_
 refine rg ?_
 refine st (v := (pt b1 1)) (rv_fieldAddr (off := 1) (ft := 24) Try.underlying26 rfl ti24 rfl rfl) ?_
 have hc3 := H.cell (u := (Sl ah_0_1 h_0.2 ch_0_1)) (o' := 1) 0 1 rfl rfl rfl
 refine st (v := (Sl ah_0_1 h_0.2 ch_0_1)) (rv_load1 Try.underlying24 rfl rfl hc3) ?_
 refine st (v := (I t_1)) (rv_move rfl) ?_
 refine st (v := (I (w64 (t_1 + 1)))) (rv_add (a := t_1) (b := 1) rfl rfl) ?_
 obtain ⟨r4, hx5, h'⟩ := bind_some h
 clear h
 have h := h'; clear h'
 have hc6 := c_slices_BinarySearch_int_int (ax_0 := ah_0_1) (cx_0 := ch_0_1) hx5
 refine st_call (cx_call hc6 (ent_f hc6.fn rfl) hn0 (show Hp S0 σ0 _ ([Ch.ro 0 (Sl ah_0_1 h_0.2 ch_0_1) h_0.2] ++ [Ch.bx n0 b1 0 [(Sl ah_0_0 h_0.1 ch_0_0), (Sl ah_0_1 h_0.2 ch_0_1)] [] [], Ch.ro 0 (Sl ah_0_0 h_0.1 ch_0_0) h_0.1, Ch.ro 0 (Sl ah_0_1 h_0.2 ch_0_1) h_0.2]) from (H.sel' [2, 0, 1, 2] rfl rfl))) wn ?_
 rintro _ σ7 ⟨_, ⟨rfl, rfl⟩, H, -⟩
 replace H : Hp S0 σ0 σ7 [Ch.bx n0 b1 0 [(Sl ah_0_0 h_0.1 ch_0_0), (Sl ah_0_1 h_0.2 ch_0_1)] [] [], Ch.ro 0 (Sl ah_0_0 h_0.1 ch_0_0) h_0.1, Ch.ro 0 (Sl ah_0_1 h_0.2 ch_0_1) h_0.2] := H
 refine st (v := (.tuple #[(I r4.1), (B r4.2)])) (rv_move rfl) ?_
 refine st (v := (I r4.1)) (rv_extract rfl rfl) ?_
 refine st (v := (B r4.2)) (rv_extract rfl rfl) ?_
 refine st (v := (I r4.1)) (rv_assign rfl) ?_
 refine st (v := (B r4.2)) (rv_assign rfl) ?_
 refine w_end ?_
 refine q_then ?_
 refine c_seq ?_
 refine rg ?_
 refine st (v := (I r4.1)) (rv_move rfl) ?_
 refine st (v := (I r4.1)) (rv_assign rfl) ?_
 refine w_end ?_
 refine q_then ?_
 refine c_ret ?_
 obtain rfl := Option.some.inj h
 exact fin_ret (v := (I r4.1)) (results_ok Try.results48 (res_tmp (v := (I r4.1)) rfl res_nil) rfl) ⟨rfl, rfl⟩ (H.sel' [] rfl rfl)

theorem c_impl_version_appendTo : ∀ (fuel : Nat) {v_0 : Vr (Int × (List Int) × Int)} {list_1 : List (Int × (List Int) × Int)} {av_0 : Option Addr} {alist_1 : Option Addr} {clist_1 : Nat} {r : (List (Int × (List Int) × Int))} (h : M.impl_version_appendTo fuel v_0 list_1 = some r),
    Cal2 Try.prog 49 [(.pointer av_0), (Sl alist_1 list_1 clist_1)] [Ch.pv 0 (.pointer av_0) v_0, Ch.own 0 0 (Sl alist_1 list_1 clist_1) list_1] (fun n0 v L => ∃ (az1 : Option Addr), ∃ (cz2 : Nat), v = (Sl az1 r cz2) ∧ L = [Ch.own 0 0 (Sl az1 r cz2) r]) := by
 intro fuel
 induction fuel with
 | zero => intro _ _ _ _ _ r h; cases h
 | succ fuel ih =>
 ·intro v_0 list_1 av_0 alist_1 clist_1 r h
  replace h : M.impl_version_appendTo_F (M.impl_version_appendTo fuel) v_0 list_1 = some r := h
  refine cal2 (n := 36) Try.func49 rfl rfl rfl rfl ?_
  intro S0 σ0 n0 hn0 H
  unfold M.impl_version_appendTo_F at h
  refine c_seq ?_
  refine rg ?_
  refine st (v := (.slice none 0 0)) (rv_assign rfl) ?_
  refine w_end ?_
  refine q_then ?_
  refine c_seq ?_
  refine c_seq ?_
  refine rg ?_
  refine st (v := (.pointer av_0)) (rv_move rfl) ?_
  refine st (v := (B v_0.isNil)) (rv_eqlNilV Try.underlying67 (H.pv 0 rfl) rfl rfl) ?_
  refine w_end ?_
  refine q_then ?_
  refine cd_cond v_0.isNil rfl (fun hb1 => ?_) (fun hb1 => ?_)
  ·replace h := bif_t hb1 h
   refine c_seq ?_
   refine rg ?_
   refine st (v := (Sl alist_1 list_1 clist_1)) (rv_move rfl) ?_
   refine st (v := (Sl alist_1 list_1 clist_1)) (rv_assign rfl) ?_
   refine w_end ?_
   refine q_then ?_
   refine c_ret ?_
   refine q_then_r ?_
   obtain rfl := Option.some.inj h
   exact fin_ret (v := (Sl alist_1 list_1 clist_1)) (results_ok Try.results49 (res_tmp (v := (Sl alist_1 list_1 clist_1)) rfl res_nil) rfl) ⟨alist_1, clist_1, rfl, rfl⟩ (H.sel' [1] rfl rfl)
  ·replace h := bif_f hb1 h
   refine c_skip ?_
   refine q_then ?_
   refine c_seq ?_
   refine c_seq ?_
   refine rg ?_
   refine st (v := (.pointer av_0)) (rv_move rfl) ?_
   obtain ⟨x2, hx3, h'⟩ := bind_some h
   clear h
   have h := h'; clear h'
   obtain ⟨b5, o6, hi4⟩ := (H.pv 0 rfl).ex hx3
   refine st (v := (pt b5 o6)) (rv_nilCheckT hi4 rfl) ?_
   refine st (v := (pt b5 (o6 + 0))) (rv_fieldAddr (off := 0) (ft := 106) Try.underlying109 rfl ti106 rfl rfl) ?_
   obtain ⟨v10, hc9, hR8⟩ := ((H.pv 0 rfl).at hx3 hi4).fst.po
   obtain ⟨a7, rfl⟩ := hR8.isPtr
   replace H := H.add (d := Ch.pv 0 (.pointer a7) x2.1) hR8 (fun _ h => h)
   clear hR8
   refine st (v := (.pointer a7)) (rv_load1 Try.underlying106 rfl rfl hc9) ?_
   refine st (v := (B (!x2.1.isNil))) (rv_neqNilV Try.underlying106 (H.pv 0 rfl) rfl rfl) ?_
   refine w_end ?_
   refine q_then ?_
   refine cd_cond (!x2.1.isNil) rfl (fun hb11 => ?_) (fun hb11 => ?_)
   ·replace h := bif_t hb11 h
    refine c_seq ?_
    refine rg ?_
    refine st (v := (Sl alist_1 list_1 clist_1)) (rv_move rfl) ?_
    refine st (v := (.pointer av_0)) (rv_move rfl) ?_
    obtain ⟨x12, hx13, h'⟩ := bind_some h
    clear h
    have h := h'; clear h'
    obtain ⟨b15, o16, hi14⟩ := (H.pv 1 rfl).ex hx13
    refine st (v := (pt b15 o16)) (rv_nilCheckT hi14 rfl) ?_
    refine st (v := (pt b15 (o16 + 0))) (rv_fieldAddr (off := 0) (ft := 106) Try.underlying109 rfl ti106 rfl rfl) ?_
    obtain ⟨v20, hc19, hR18⟩ := ((H.pv 1 rfl).at hx13 hi14).fst.po
    obtain ⟨a17, rfl⟩ := hR18.isPtr
    replace H := H.add (d := Ch.pv 0 (.pointer a17) x12.1) hR18 (fun _ h => h)
    clear hR18
    refine st (v := (.pointer a17)) (rv_load1 Try.underlying106 rfl rfl hc19) ?_
    obtain ⟨x21, hx22, h'⟩ := bind_some h
    clear h
    have h := h'; clear h'
    obtain ⟨b24, o25, hi23⟩ := (H.pv 0 rfl).ex hx22
    refine st (v := (pt b24 o25)) (rv_nilCheckT hi23 rfl) ?_
    obtain ⟨_, ⟨_, _, rfl, rfl, ⟨_, _, rfl, ⟨_, rfl, hR30⟩, rfl⟩⟩, hl26, hc27⟩ := ((H.pv 0 rfl).at hx22 hi23).cells
    obtain ⟨a28, c29, rfl⟩ := hR30.isSl
    replace H := H.add (d := Ch.ro 0 (Sl a28 x21.2.1 c29) x21.2.1) hR30 (fun _ h => h)
    clear hR30
    refine st (v := (.agg #[(I x21.1), (Sl a28 x21.2.1 c29), (I x21.2.2)])) (rv_load Try.underlying41 rfl ti41 rfl hl26 hc27) ?_
    obtain ⟨r31, hx32, h'⟩ := bind_some h
    clear h
    have h := h'; clear h'
    have hc33 := c_impl_copyItem (ax_0_1 := a28) (cx_0_1 := c29) hx32
    refine st_call (cx_call hc33 (ent_f hc33.fn rfl) hn0 (show Hp S0 σ0 _ ([Ch.ro 0 (Sl a28 x21.2.1 c29) x21.2.1] ++ [Ch.ro 0 (Sl a28 x21.2.1 c29) x21.2.1, Ch.pv 0 (.pointer a17) x12.1, Ch.pv 0 (.pointer a7) x2.1, Ch.pv 0 (.pointer av_0) v_0, Ch.own 0 0 (Sl alist_1 list_1 clist_1) list_1]) from (H.sel' [0, 0, 1, 2, 3, 4] rfl rfl))) wn ?_
    rintro _ σ36 ⟨_, ⟨a34, c35, rfl, rfl⟩, H, -⟩
    replace H : Hp S0 σ0 σ36 [Ch.own n0 n0 (Sl a34 r31.2.1 c35) r31.2.1, Ch.ro 0 (Sl a28 x21.2.1 c29) x21.2.1, Ch.pv 0 (.pointer a17) x12.1, Ch.pv 0 (.pointer a7) x2.1, Ch.pv 0 (.pointer av_0) v_0, Ch.own 0 0 (Sl alist_1 list_1 clist_1) list_1] := H
    obtain ⟨σ37, hw38, H, -⟩ := H.pub 0 rfl (Nat.le_refl _)
    rw [← hw38]; clear hw38
    refine st_ex (ex_buildSlice (el := n0) (xs := ([(r31.1, r31.2.1, r31.2.2)] : List (Int × (List Int) × Int))) (ps := [(0, (.agg #[(I r31.1), (Sl a34 r31.2.1 c35), (I r31.2.2)]))]) (cs := [(I r31.1), (Sl a34 r31.2.1 c35), (I r31.2.2)]) H hn0 Try.underlying33 ti41 rfl rfl (by kernel_rfl) (.cons (c := [(I r31.1), (Sl a34 r31.2.1 c35), (I r31.2.2)]) ⟨[(I r31.1)], [(Sl a34 r31.2.1 c35), (I r31.2.2)], rfl, rfl, ⟨[(Sl a34 r31.2.1 c35)], [(I r31.2.2)], rfl, ⟨_, rfl, (H.ro 0 rfl)⟩, rfl⟩⟩ (.nil)) rfl) wn ?_
    rintro _ σ40 ⟨b39, rfl, H, -⟩
    obtain ⟨xs41, hx42, h'⟩ := bind_some h
    clear h
    have h := h'; clear h'
    refine st_ex (ex_append H (i := 6) rfl Try.underlying33 Try.underlying33 ti41 rfl rfl (by decide) ((H.own 0 rfl).rd.low (Nat.zero_le _)) hx42 (Nat.zero_le _) rfl rfl) wn ?_
    rintro _ σ45 ⟨a43, c44, rfl, H, -⟩
    refine st (v := (Sl a43 xs41 c44)) (rv_assign rfl) ?_
    refine w_end ?_
    refine q_then ?_
    refine c_ret ?_
    refine q_then_r ?_
    obtain rfl := Option.some.inj h
    exact fin_ret (v := (Sl a43 xs41 c44)) (results_ok Try.results49 (res_tmp (v := (Sl a43 xs41 c44)) rfl res_nil) rfl) ⟨a43, c44, rfl, rfl⟩ (H.sel' [0] rfl rfl)
   ·replace h := bif_f hb11 h
    refine c_skip ?_
    refine q_then ?_
    refine c_seq ?_
    obtain ⟨x46, hx47, h'⟩ := bind_some h
    clear h
    have h := h'; clear h'
    obtain ⟨b49, o50, hi48⟩ := (H.pv 1 rfl).ex hx47
    obtain ⟨v54, hc53, hR52⟩ := ((H.pv 1 rfl).at hx47 hi48).snd.snd.vr
    obtain ⟨a51, rfl⟩ := hR52.isPtr
    replace H := H.add (d := Ch.pv 0 (.pointer a51) x46.2.2) hR52 (fun _ h => h)
    clear hR52
    obtain ⟨x55, hx56, h'⟩ := bind_some h
    clear h
    have h := h'; clear h'
    obtain ⟨b58, o59, hi57⟩ := (H.pv 2 rfl).ex hx56
    obtain ⟨v63, hc62, hR61⟩ := ((H.pv 2 rfl).at hx56 hi57).snd.fst.vr
    obtain ⟨a60, rfl⟩ := hR61.isPtr
    replace H := H.add (d := Ch.pv 0 (.pointer a60) x55.2.1) hR61 (fun _ h => h)
    clear hR61
    obtain ⟨r64, hx65, h'⟩ := bind_some h
    clear h
    have h := h'; clear h'
    have hc66 := ih (av_0 := a60) (alist_1 := alist_1) (clist_1 := clist_1) hx65
    have Hs := H
    refine rg2 (σ := σ0) (Nm := (Option Addr) × (Nat)) 12 [11] [[false], [true]] [[(0, 0), (1, 1)], [(0, 0), (1, 1)], [(0, 0), (1, 1)], [(0, 0), (1, 1)], [(0, 0), (1, 1)], [(0, 0)], [(0, 0)], [(0, 0)], [(0, 0)], [(0, 0)], [(0, 0)], [(0, 1)]] 1 [fun ((a67, c68) : (Option Addr) × (Nat)) => fun σm => Hp S0 σ0 σm [Ch.pv 0 (.pointer a60) x55.2.1, Ch.pv 0 (.pointer a51) x46.2.2, Ch.pv 0 (.pointer a7) x2.1, Ch.pv 0 (.pointer av_0) v_0, Ch.own 0 0 (Sl alist_1 list_1 clist_1) list_1] ∧ Md (cov []) σ0 σm, fun ((a67, c68) : (Option Addr) × (Nat)) => fun σm => Hp S0 σ0 σm [Ch.own 0 0 (Sl a67 r64 c68) r64, Ch.pv 0 (.pointer a60) x55.2.1, Ch.pv 0 (.pointer a51) x46.2.2, Ch.pv 0 (.pointer a7) x2.1, Ch.pv 0 (.pointer av_0) v_0] ∧ Md (fun i => (cov []) i ∨ (cov [Ch.pv 0 (.pointer a60) x55.2.1, Ch.own 0 0 (Sl alist_1 list_1 clist_1) list_1]) i) σ0 σm] [fun ((a67, c68) : (Option Addr) × (Nat)) => (.pointer av_0), fun ((a67, c68) : (Option Addr) × (Nat)) => (pt b49 o50), fun ((a67, c68) : (Option Addr) × (Nat)) => (pt b49 (o50 + 1)), fun ((a67, c68) : (Option Addr) × (Nat)) => (pt b49 (o50 + 2)), fun ((a67, c68) : (Option Addr) × (Nat)) => (.pointer a51), fun ((a67, c68) : (Option Addr) × (Nat)) => (.pointer av_0), fun ((a67, c68) : (Option Addr) × (Nat)) => (pt b58 o59), fun ((a67, c68) : (Option Addr) × (Nat)) => (pt b58 (o59 + 1)), fun ((a67, c68) : (Option Addr) × (Nat)) => (pt b58 (o59 + 1)), fun ((a67, c68) : (Option Addr) × (Nat)) => (.pointer a60), fun ((a67, c68) : (Option Addr) × (Nat)) => (Sl alist_1 list_1 clist_1), fun ((a67, c68) : (Option Addr) × (Nat)) => (Sl a67 r64 c68)] (none, 0) (by kernel_rfl) (by kernel_rfl) ?_ ?_ ?_
    ·intro σm m0
     exact ⟨H.grow (m0.mono fun _ h => h.elim), m0⟩
    ·refine ac rfl (by
       intro k; rintro ⟨a67, c68⟩ ρ σm hJ hoff hdep
       have e0 := look_off (N := 36) (hoff 0 rfl) rfl
       exact dp_v (v := (.pointer av_0)) wn (rv_move e0) rfl hJ) ?_
     refine ac rfl (by
       intro k; rintro ⟨a67, c68⟩ ρ σm hJ hoff hdep
       have e23 := hdep 0 rfl rfl 23 rfl
       exact dp_v (v := (pt b49 o50)) wn (rv_nilCheckT hi48 e23) rfl hJ) ?_
     refine ac rfl (by
       intro k; rintro ⟨a67, c68⟩ ρ σm hJ hoff hdep
       have e24 := hdep 1 rfl rfl 24 rfl
       exact dp_v (v := (pt b49 (o50 + 1))) wn (rv_fieldAddr (off := 1) (ft := 107) Try.underlying109 rfl ti107 rfl e24) rfl hJ) ?_
     refine ac rfl (by
       intro k; rintro ⟨a67, c68⟩ ρ σm hJ hoff hdep
       have e25 := hdep 2 rfl rfl 25 rfl
       exact dp_v (v := (pt b49 (o50 + 2))) wn (rv_indexAddr_arrayC (bl := b49) (o := (o50 + 1)) Try.underlying107 ti67 e25 rfl (by decide) (by decide) rfl) rfl hJ) ?_
     refine all_cons (by
       refine ⟨?_, ?_⟩
       ·rintro ⟨a67, c68⟩ ρ σm hJ hoff hdep
        have e26 := hdep 3 rfl rfl 26 rfl
        obtain ⟨H, m⟩ := id hJ
        replace hc53 := (Hs.pv 3 rfl).hmd hx47 hi48 (k := 2) (by decide) hc53 m
        exact dp_v (v := (.pointer a51)) wn (rv_load1 Try.underlying67 rfl e26 hc53) rfl hJ
       refine ⟨?_, ?_⟩
       ·rintro ⟨a67, c68⟩ ρ σm hJ hoff hdep
        have e26 := hdep 3 rfl rfl 26 rfl
        obtain ⟨H, m⟩ := id hJ
        replace hc53 := (Hs.pv 3 rfl).hmd hx47 hi48 (k := 2) (by decide) hc53 m
        exact dp_v (v := (.pointer a51)) wn (rv_load1 Try.underlying67 rfl e26 hc53) rfl hJ
       trivial) ?_
     refine ac rfl (by
       intro k; rintro ⟨a67, c68⟩ ρ σm hJ hoff hdep
       have e0 := look_off (N := 36) (hoff 0 rfl) rfl
       exact dp_v (v := (.pointer av_0)) wn (rv_move e0) rfl hJ) ?_
     refine ac rfl (by
       intro k; rintro ⟨a67, c68⟩ ρ σm hJ hoff hdep
       have e28 := hdep 5 rfl rfl 28 rfl
       exact dp_v (v := (pt b58 o59)) wn (rv_nilCheckT hi57 e28) rfl hJ) ?_
     refine ac rfl (by
       intro k; rintro ⟨a67, c68⟩ ρ σm hJ hoff hdep
       have e29 := hdep 6 rfl rfl 29 rfl
       exact dp_v (v := (pt b58 (o59 + 1))) wn (rv_fieldAddr (off := 1) (ft := 107) Try.underlying109 rfl ti107 rfl e29) rfl hJ) ?_
     refine ac rfl (by
       intro k; rintro ⟨a67, c68⟩ ρ σm hJ hoff hdep
       have e30 := hdep 7 rfl rfl 30 rfl
       exact dp_v (v := (pt b58 (o59 + 1))) wn (rv_indexAddr_arrayC (bl := b58) (o := (o59 + 1)) Try.underlying107 ti67 e30 rfl (by decide) (by decide) rfl) rfl hJ) ?_
     refine all_cons (by
       refine ⟨?_, ?_⟩
       ·rintro ⟨a67, c68⟩ ρ σm hJ hoff hdep
        have e31 := hdep 8 rfl rfl 31 rfl
        obtain ⟨H, m⟩ := id hJ
        replace hc62 := (Hs.pv 3 rfl).hmd hx56 hi57 (k := 1) (by decide) hc62 m
        exact dp_v (v := (.pointer a60)) wn (rv_load1 Try.underlying67 rfl e31 hc62) rfl hJ
       trivial) ?_
     refine ac rfl (by
       intro k; rintro ⟨a67, c68⟩ ρ σm hJ hoff hdep
       have e1 := look_off (N := 36) (hoff 1 rfl) rfl
       exact dp_v (v := (Sl alist_1 list_1 clist_1)) wn (rv_move e1) rfl hJ) ?_
     refine all_cons (by
       refine ⟨?_, ?_⟩
       ·rintro ⟨a67, c68⟩ ρ σm hJ hoff hdep
        have e32 : look 36 ρ 32 = (.pointer a60) := hdep 9 rfl rfl 32 rfl
        have e33 : look 36 ρ 33 = (Sl alist_1 list_1 clist_1) := hdep 10 rfl rfl 33 rfl
        obtain ⟨H, m⟩ := id hJ
        refine dp_cx wn (cx_call hc66 (ent_f hc66.fn (by show [look 36 ρ 32, look 36 ρ 33] = _; rw [e32, e33])) hn0 (show Hp S0 σ0 _ ([Ch.pv 0 (.pointer a60) x55.2.1, Ch.own 0 0 (Sl alist_1 list_1 clist_1) list_1] ++ [Ch.pv 0 (.pointer a60) x55.2.1, Ch.pv 0 (.pointer a51) x46.2.2, Ch.pv 0 (.pointer a7) x2.1, Ch.pv 0 (.pointer av_0) v_0]) from (H.sel' [0, 4, 0, 1, 2, 3] rfl rfl))) ?_
        rintro _ σq ⟨_, ⟨a67x, c68x, rfl, rfl⟩, H2, m2⟩
        exact ⟨_, (a67x, c68x), rfl, rfl, ⟨H2.sel' [0, 1, 2, 3, 4] rfl rfl, m.comp m2⟩, stab [0, 1, 2, 3, 4, 5, 6, 7, 8, 9, 10] (by kernel_rfl) ⟨rfl, rfl, rfl, rfl, rfl, rfl, rfl, rfl, rfl, rfl, rfl, trivial⟩⟩
       trivial) ?_
     exact all_nil
    ·rintro ⟨a67, c68⟩ ρ σ69 hJ hoff hrel
     have e27 := hrel 4 rfl 27 rfl
     have e34 := hrel 11 rfl 34 rfl
     obtain ⟨H, -⟩ := (show Hp S0 σ0 σ69 [Ch.own 0 0 (Sl a67 r64 c68) r64, Ch.pv 0 (.pointer a60) x55.2.1, Ch.pv 0 (.pointer a51) x46.2.2, Ch.pv 0 (.pointer a7) x2.1, Ch.pv 0 (.pointer av_0) v_0] ∧ Md (fun i => (cov []) i ∨ (cov [Ch.pv 0 (.pointer a60) x55.2.1, Ch.own 0 0 (Sl alist_1 list_1 clist_1) list_1]) i) σ0 σ69 from hJ)
     clear hJ Hs
     rw [fr_lookL (L := [(27, (.pointer a51)), (34, (Sl a67 r64 c68))]) ⟨e27, e34, trivial⟩]
     clear hoff hrel e27 e34
     obtain ⟨r70, hx71, h'⟩ := bind_some h
     clear h
     have h := h'; clear h'
     have hc72 := ih (av_0 := a51) (alist_1 := a67) (clist_1 := c68) hx71
     refine st_call (cx_call hc72 (ent_f hc72.fn rfl) hn0 (show Hp S0 σ0 _ ([Ch.pv 0 (.pointer a51) x46.2.2, Ch.own 0 0 (Sl a67 r64 c68) r64] ++ [Ch.pv 0 (.pointer a60) x55.2.1, Ch.pv 0 (.pointer a51) x46.2.2, Ch.pv 0 (.pointer a7) x2.1, Ch.pv 0 (.pointer av_0) v_0]) from (H.sel' [2, 0, 1, 2, 3, 4] rfl rfl))) wn ?_
     rintro _ σ75 ⟨_, ⟨a73, c74, rfl, rfl⟩, H, -⟩
     replace H : Hp S0 σ0 σ75 [Ch.own 0 0 (Sl a73 r70 c74) r70, Ch.pv 0 (.pointer a60) x55.2.1, Ch.pv 0 (.pointer a51) x46.2.2, Ch.pv 0 (.pointer a7) x2.1, Ch.pv 0 (.pointer av_0) v_0] := H
     refine st (v := (Sl a73 r70 c74)) (rv_assign rfl) ?_
     refine w_end ?_
     refine q_then ?_
     refine c_ret ?_
     obtain rfl := Option.some.inj h
     exact fin_ret (v := (Sl a73 r70 c74)) (results_ok Try.results49 (res_tmp (v := (Sl a73 r70 c74)) rfl res_nil) rfl) ⟨a73, c74, rfl, rfl⟩ (H.sel' [0] rfl rfl)

theorem c_impl_StoreAt {h_0 : (List (Int × (Int × (List Int) × Int))) × (List Int)} {t_1 : Int} {ah_0_0 : Option Addr} {ch_0_0 : Nat} {ah_0_1 : Option Addr} {ch_0_1 : Nat} {r : (List (Int × (List Int) × Int))} (h : M.impl_StoreAt h_0 t_1 = some r) :
    Cal2 Try.prog 20 [(.agg #[(Sl ah_0_0 h_0.1 ch_0_0), (Sl ah_0_1 h_0.2 ch_0_1)]), (I t_1)] [Ch.ro 0 (Sl ah_0_0 h_0.1 ch_0_0) h_0.1, Ch.ro 0 (Sl ah_0_1 h_0.2 ch_0_1) h_0.2] (fun n0 v L => ∃ (az1 : Option Addr), ∃ (cz2 : Nat), v = (Sl az1 r cz2) ∧ L = [Ch.own 0 0 (Sl az1 r cz2) r]) := by
 refine cal2 (n := 21) Try.func20 rfl rfl rfl rfl ?_
 intro S0 σ0 n0 hn0 H
 unfold M.impl_StoreAt at h
 refine c_seq ?_
 refine rg ?_
 refine st_ex (ex_box (cs := [(Sl ah_0_0 h_0.1 ch_0_0), (Sl ah_0_1 h_0.2 ch_0_1)]) H hn0 rfl rfl) wn ?_
 rintro _ σ2 ⟨b1, rfl, H, -⟩
 refine st (v := (.slice none 0 0)) (rv_assign rfl) ?_
 refine w_end ?_
 refine q_then ?_
 refine c_seq ?_
 refine c_seq ?_
 obtain ⟨o3, hj, h'⟩ := bind_some h
 clear h
 refine c_cut (fun e a w => e = .normal ∧ ∃ (ρ : Nat → Value) (σ : St), a = fr 21 (updL ρ [(1, (I t_1)), (2, (pt b1 0)), (12, (B o3))]) ∧ w = σ.w ∧ Hp S0 σ0 σ [Ch.ro 0 (Sl ah_0_0 h_0.1 ch_0_0) h_0.1, Ch.ro 0 (Sl ah_0_1 h_0.2 ch_0_1) h_0.2, Ch.bx n0 b1 0 [(Sl ah_0_0 h_0.1 ch_0_0), (Sl ah_0_1 h_0.2 ch_0_1)] [] []]) ?_ ?_
 ·clear h'
  rename _ = some o3 => h
  refine rg ?_
  have hc4 := H.cells 0 rfl
  refine st (v := (.agg #[(Sl ah_0_0 h_0.1 ch_0_0), (Sl ah_0_1 h_0.2 ch_0_1)])) (rv_load (cs := [(Sl ah_0_0 h_0.1 ch_0_0), (Sl ah_0_1 h_0.2 ch_0_1)]) Try.underlying26 rfl ti26 rfl rfl hc4) ?_
  obtain ⟨r5, hx6, h'⟩ := bind_some h
  clear h
  have h := h'; clear h'
  have hc7 := c_impl_ValidHistory (ah_0_0 := ah_0_0) (ch_0_0 := ch_0_0) (ah_0_1 := ah_0_1) (ch_0_1 := ch_0_1) hx6
  refine st_call (cx_call hc7 (ent_f hc7.fn rfl) hn0 (show Hp S0 σ0 _ ([Ch.ro 0 (Sl ah_0_0 h_0.1 ch_0_0) h_0.1, Ch.ro 0 (Sl ah_0_1 h_0.2 ch_0_1) h_0.2] ++ [Ch.bx n0 b1 0 [(Sl ah_0_0 h_0.1 ch_0_0), (Sl ah_0_1 h_0.2 ch_0_1)] [] [], Ch.ro 0 (Sl ah_0_0 h_0.1 ch_0_0) h_0.1, Ch.ro 0 (Sl ah_0_1 h_0.2 ch_0_1) h_0.2]) from (H.sel' [1, 2, 0, 1, 2] rfl rfl))) wn ?_
  rintro _ σ8 ⟨_, ⟨rfl, rfl⟩, H, -⟩
  replace H : Hp S0 σ0 σ8 [Ch.bx n0 b1 0 [(Sl ah_0_0 h_0.1 ch_0_0), (Sl ah_0_1 h_0.2 ch_0_1)] [] [], Ch.ro 0 (Sl ah_0_0 h_0.1 ch_0_0) h_0.1, Ch.ro 0 (Sl ah_0_1 h_0.2 ch_0_1) h_0.2] := H
  refine st (v := (B (!r5))) (rv_not rfl) ?_
  refine st (v := (B (!r5))) (rv_move rfl) ?_
  rcases Bool.eq_false_or_eq_true (!r5) with hb9 | hb9
  ·replace h := bif_t hb9 h
   refine st_skip (congrArg some hb9) ?_
   refine st_skip (congrArg some hb9) ?_
   refine st_skip (congrArg some hb9) ?_
   refine st (v := (B true)) (rv_pick_t (congrArg B hb9) rfl) ?_
   refine w_end ?_
   obtain rfl := Option.some.inj h
   exact ⟨rfl, _, σ8, fr_join ⟨rfl, rfl, rfl, trivial⟩, rfl, H.sel' [1, 2, 0] rfl rfl⟩
  ·replace h := bif_f hb9 h
   refine st_g (v := (I t_1)) (congrArg some hb9) (rv_move rfl) ?_
   obtain ⟨r10, hx11, h'⟩ := bind_some h
   clear h
   have h := h'; clear h'
   have hc12 := c_impl_validMoment hx11
   refine st_call (cx_call hc12 (ent_f hc12.fn rfl) hn0 (show Hp S0 σ0 _ ([] ++ [Ch.bx n0 b1 0 [(Sl ah_0_0 h_0.1 ch_0_0), (Sl ah_0_1 h_0.2 ch_0_1)] [] [], Ch.ro 0 (Sl ah_0_0 h_0.1 ch_0_0) h_0.1, Ch.ro 0 (Sl ah_0_1 h_0.2 ch_0_1) h_0.2]) from (H.sel' [0, 1, 2] rfl rfl))) (wanted_yes rfl (by exact (congrArg some hb9))) ?_
   rintro _ σ13 ⟨_, ⟨rfl, rfl⟩, H, -⟩
   replace H : Hp S0 σ0 σ13 [Ch.bx n0 b1 0 [(Sl ah_0_0 h_0.1 ch_0_0), (Sl ah_0_1 h_0.2 ch_0_1)] [] [], Ch.ro 0 (Sl ah_0_0 h_0.1 ch_0_0) h_0.1, Ch.ro 0 (Sl ah_0_1 h_0.2 ch_0_1) h_0.2] := H
   refine st_g (v := (B (!r10))) (congrArg some hb9) (rv_not rfl) ?_
   refine st (v := (B (!r10))) (rv_pick_f (congrArg B hb9) rfl) ?_
   refine w_end ?_
   obtain rfl := Option.some.inj h
   exact ⟨rfl, _, σ13, fr_join ⟨rfl, rfl, rfl, trivial⟩, rfl, H.sel' [1, 2, 0] rfl rfl⟩
 ·clear hj
  have h := h'
  clear h' H
  rintro e a w ⟨rfl, ρ, σ14, rfl, rfl, H⟩
  refine q_then ?_
  refine cd_cond o3 rfl (fun hb15 => ?_) (fun hb15 => ?_)
  ·replace h := bif_t hb15 h
   refine c_seq ?_
   refine rg ?_
   refine st (v := (.slice none 0 0)) (rv_assign rfl) ?_
   refine w_end ?_
   refine q_then ?_
   refine c_ret ?_
   refine q_then_r ?_
   replace H := H.nilOwn (Int × (List Int) × Int) 0 0
   obtain rfl := Option.some.inj h
   exact fin_ret (v := (.slice none 0 0)) (results_ok Try.results20 (res_tmp (v := (.slice none 0 0)) rfl res_nil) rfl) ⟨none, 0, rfl, rfl⟩ (H.sel' [0] rfl rfl)
  ·replace h := bif_f hb15 h
   refine c_skip ?_
   refine q_then ?_
   refine c_seq ?_
   have hc16 := H.cells 2 rfl
   obtain ⟨r17, hx18, h'⟩ := bind_some h
   clear h
   have h := h'; clear h'
   have hc19 := c_impl_History_versions (ah_0_0 := ah_0_0) (ch_0_0 := ch_0_0) (ah_0_1 := ah_0_1) (ch_0_1 := ch_0_1) hx18
   have hc22 := H.cells 2 rfl
   have Hs := H
   refine rg2 (σ := σ14) (Nm := (Option Addr) × (Nat)) 4 [1] [[false], [true]] [[(0, 0)], [(0, 1)], [(0, 0), (1, 1)], [(0, 0), (1, 1)]] 1 [fun ((a20, c21) : (Option Addr) × (Nat)) => fun σm => Hp S0 σ0 σm [Ch.ro 0 (Sl ah_0_0 h_0.1 ch_0_0) h_0.1, Ch.ro 0 (Sl ah_0_1 h_0.2 ch_0_1) h_0.2, Ch.bx n0 b1 0 [(Sl ah_0_0 h_0.1 ch_0_0), (Sl ah_0_1 h_0.2 ch_0_1)] [] []] ∧ Md (cov []) σ14 σm, fun ((a20, c21) : (Option Addr) × (Nat)) => fun σm => Hp S0 σ0 σm [Ch.own n0 0 (Sl a20 r17 c21) r17, Ch.ro 0 (Sl ah_0_0 h_0.1 ch_0_0) h_0.1, Ch.ro 0 (Sl ah_0_1 h_0.2 ch_0_1) h_0.2, Ch.bx n0 b1 0 [(Sl ah_0_0 h_0.1 ch_0_0), (Sl ah_0_1 h_0.2 ch_0_1)] [] []] ∧ Md (cov []) σ14 σm] [fun ((a20, c21) : (Option Addr) × (Nat)) => (.agg #[(Sl ah_0_0 h_0.1 ch_0_0), (Sl ah_0_1 h_0.2 ch_0_1)]), fun ((a20, c21) : (Option Addr) × (Nat)) => (Sl a20 r17 c21), fun ((a20, c21) : (Option Addr) × (Nat)) => (.agg #[(Sl ah_0_0 h_0.1 ch_0_0), (Sl ah_0_1 h_0.2 ch_0_1)]), fun ((a20, c21) : (Option Addr) × (Nat)) => (I t_1)] (none, 0) (by kernel_rfl) (by kernel_rfl) ?_ ?_ ?_
   ·intro σm m0
    exact ⟨H.grow (m0.mono fun _ h => h.elim), m0⟩
   ·refine all_cons (by
      refine ⟨?_, ?_⟩
      ·rintro ⟨a20, c21⟩ ρ σm hJ hoff hdep
       have e2 := look_off (N := 21) (hoff 2 rfl) rfl
       obtain ⟨H, m⟩ := id hJ
       have hc16 := H.cells 2 rfl
       exact dp_v (v := (.agg #[(Sl ah_0_0 h_0.1 ch_0_0), (Sl ah_0_1 h_0.2 ch_0_1)])) wn (rv_load (cs := [(Sl ah_0_0 h_0.1 ch_0_0), (Sl ah_0_1 h_0.2 ch_0_1)]) Try.underlying26 rfl ti26 e2 rfl hc16) rfl hJ
      trivial) ?_
    refine all_cons (by
      refine ⟨?_, ?_⟩
      ·rintro ⟨a20, c21⟩ ρ σm hJ hoff hdep
       have e13 : look 21 ρ 13 = (.agg #[(Sl ah_0_0 h_0.1 ch_0_0), (Sl ah_0_1 h_0.2 ch_0_1)]) := hdep 0 rfl rfl 13 rfl
       obtain ⟨H, m⟩ := id hJ
       refine dp_cx wn (cx_call hc19 (ent_f hc19.fn (by show [look 21 ρ 13] = _; rw [e13])) hn0 (show Hp S0 σ0 _ ([Ch.ro 0 (Sl ah_0_0 h_0.1 ch_0_0) h_0.1, Ch.ro 0 (Sl ah_0_1 h_0.2 ch_0_1) h_0.2] ++ [Ch.ro 0 (Sl ah_0_0 h_0.1 ch_0_0) h_0.1, Ch.ro 0 (Sl ah_0_1 h_0.2 ch_0_1) h_0.2, Ch.bx n0 b1 0 [(Sl ah_0_0 h_0.1 ch_0_0), (Sl ah_0_1 h_0.2 ch_0_1)] [] []]) from (H.sel' [0, 1, 0, 1, 2] rfl rfl))) ?_
       rintro _ σq ⟨_, ⟨a20x, c21x, rfl, rfl⟩, H2, m2⟩
       exact ⟨_, (a20x, c21x), rfl, rfl, ⟨H2.sel' [0, 1, 2, 3] rfl rfl, m.comp0 (m2.mono (fun i h => by simp [cov, Ch.ro] at h))⟩, stab [0, 2, 3] (by kernel_rfl) ⟨rfl, rfl, rfl, trivial⟩⟩
      trivial) ?_
    refine all_cons (by
      refine ⟨?_, ?_⟩
      ·rintro ⟨a20, c21⟩ ρ σm hJ hoff hdep
       have e2 := look_off (N := 21) (hoff 2 rfl) rfl
       obtain ⟨H, m⟩ := id hJ
       have hc22 := H.cells 2 rfl
       exact dp_v (v := (.agg #[(Sl ah_0_0 h_0.1 ch_0_0), (Sl ah_0_1 h_0.2 ch_0_1)])) wn (rv_load (cs := [(Sl ah_0_0 h_0.1 ch_0_0), (Sl ah_0_1 h_0.2 ch_0_1)]) Try.underlying26 rfl ti26 e2 rfl hc22) rfl hJ
      refine ⟨?_, ?_⟩
      ·rintro ⟨a20, c21⟩ ρ σm hJ hoff hdep
       have e2 := look_off (N := 21) (hoff 2 rfl) rfl
       obtain ⟨H, m⟩ := id hJ
       have hc22 := H.cells 3 rfl
       exact dp_v (v := (.agg #[(Sl ah_0_0 h_0.1 ch_0_0), (Sl ah_0_1 h_0.2 ch_0_1)])) wn (rv_load (cs := [(Sl ah_0_0 h_0.1 ch_0_0), (Sl ah_0_1 h_0.2 ch_0_1)]) Try.underlying26 rfl ti26 e2 rfl hc22) rfl hJ
      trivial) ?_
    refine ac rfl (by
      intro k; rintro ⟨a20, c21⟩ ρ σm hJ hoff hdep
      have e1 := look_off (N := 21) (hoff 1 rfl) rfl
      exact dp_v (v := (I t_1)) wn (rv_move e1) rfl hJ) ?_
    exact all_nil
   ·rintro ⟨a20, c21⟩ ρ σ23 hJ hoff hrel
    have e14 := hrel 1 rfl 14 rfl
    have e15 := hrel 2 rfl 15 rfl
    have e16 := hrel 3 rfl 16 rfl
    obtain ⟨H, -⟩ := (show Hp S0 σ0 σ23 [Ch.own n0 0 (Sl a20 r17 c21) r17, Ch.ro 0 (Sl ah_0_0 h_0.1 ch_0_0) h_0.1, Ch.ro 0 (Sl ah_0_1 h_0.2 ch_0_1) h_0.2, Ch.bx n0 b1 0 [(Sl ah_0_0 h_0.1 ch_0_0), (Sl ah_0_1 h_0.2 ch_0_1)] [] []] ∧ Md (cov []) σ14 σ23 from hJ)
    clear hJ Hs
    rw [fr_lookL (L := [(14, (Sl a20 r17 c21)), (15, (.agg #[(Sl ah_0_0 h_0.1 ch_0_0), (Sl ah_0_1 h_0.2 ch_0_1)])), (16, (I t_1))]) ⟨e14, e15, e16, trivial⟩]
    clear hoff hrel e14 e15 e16
    obtain ⟨r24, hx25, h'⟩ := bind_some h
    clear h
    have h := h'; clear h'
    have hc26 := c_impl_History_entriesUntil (ah_0_0 := ah_0_0) (ch_0_0 := ch_0_0) (ah_0_1 := ah_0_1) (ch_0_1 := ch_0_1) hx25
    refine st_call (cx_call hc26 (ent_f hc26.fn rfl) hn0 (show Hp S0 σ0 _ ([Ch.ro 0 (Sl ah_0_0 h_0.1 ch_0_0) h_0.1, Ch.ro 0 (Sl ah_0_1 h_0.2 ch_0_1) h_0.2] ++ [Ch.own n0 0 (Sl a20 r17 c21) r17, Ch.ro 0 (Sl ah_0_0 h_0.1 ch_0_0) h_0.1, Ch.ro 0 (Sl ah_0_1 h_0.2 ch_0_1) h_0.2, Ch.bx n0 b1 0 [(Sl ah_0_0 h_0.1 ch_0_0), (Sl ah_0_1 h_0.2 ch_0_1)] [] []]) from (H.sel' [1, 2, 0, 1, 2, 3] rfl rfl))) wn ?_
    rintro _ σ27 ⟨_, ⟨rfl, rfl⟩, H, -⟩
    replace H : Hp S0 σ0 σ27 [Ch.own n0 0 (Sl a20 r17 c21) r17, Ch.ro 0 (Sl ah_0_0 h_0.1 ch_0_0) h_0.1, Ch.ro 0 (Sl ah_0_1 h_0.2 ch_0_1) h_0.2, Ch.bx n0 b1 0 [(Sl ah_0_0 h_0.1 ch_0_0), (Sl ah_0_1 h_0.2 ch_0_1)] [] []] := H
    obtain ⟨x28, hx29, h'⟩ := bind_some h
    clear h
    have h := h'; clear h'
    obtain ⟨b31, o32, hi30, -⟩ := (H.own 0 rfl).ix hx29
    refine st (v := (pt b31 o32)) (rv_ix Try.underlying68 ti67 rfl rfl hi30) ?_
    obtain ⟨v36, hc35, hR34⟩ := ((H.own 0 rfl).at hx29 hi30).vr
    obtain ⟨a33, rfl⟩ := hR34.isPtr
    replace H := H.add (d := Ch.pv 0 (.pointer a33) x28) hR34 (fun _ h => h)
    clear hR34
    refine st (v := (.pointer a33)) (rv_load1 Try.underlying67 rfl rfl hc35) ?_
    replace H := H.nilOwn (Int × (List Int) × Int) 0 0
    obtain ⟨r37, hx38, h'⟩ := bind_some h
    clear h
    have h := h'; clear h'
    have hc39 := c_impl_version_appendTo 100 (av_0 := a33) (alist_1 := none) (clist_1 := 0) hx38
    refine st_call (cx_call hc39 (ent_f hc39.fn rfl) hn0 (show Hp S0 σ0 _ ([Ch.pv 0 (.pointer a33) x28, Ch.own 0 0 (Sl none ([] : List (Int × (List Int) × Int)) 0) ([] : List (Int × (List Int) × Int))] ++ [Ch.pv 0 (.pointer a33) x28, Ch.own n0 0 (Sl a20 r17 c21) r17, Ch.ro 0 (Sl ah_0_0 h_0.1 ch_0_0) h_0.1, Ch.ro 0 (Sl ah_0_1 h_0.2 ch_0_1) h_0.2, Ch.bx n0 b1 0 [(Sl ah_0_0 h_0.1 ch_0_0), (Sl ah_0_1 h_0.2 ch_0_1)] [] []]) from (H.sel' [1, 0, 1, 2, 3, 4, 5] rfl rfl))) wn ?_
    rintro _ σ42 ⟨_, ⟨a40, c41, rfl, rfl⟩, H, -⟩
    replace H : Hp S0 σ0 σ42 [Ch.own 0 0 (Sl a40 r37 c41) r37, Ch.pv 0 (.pointer a33) x28, Ch.own n0 0 (Sl a20 r17 c21) r17, Ch.ro 0 (Sl ah_0_0 h_0.1 ch_0_0) h_0.1, Ch.ro 0 (Sl ah_0_1 h_0.2 ch_0_1) h_0.2, Ch.bx n0 b1 0 [(Sl ah_0_0 h_0.1 ch_0_0), (Sl ah_0_1 h_0.2 ch_0_1)] [] []] := H
    refine st (v := (Sl a40 r37 c41)) (rv_assign rfl) ?_
    refine w_end ?_
    refine q_then ?_
    refine c_ret ?_
    obtain rfl := Option.some.inj h
    exact fin_ret (v := (Sl a40 r37 c41)) (results_ok Try.results20 (res_tmp (v := (Sl a40 r37 c41)) rfl res_nil) rfl) ⟨a40, c41, rfl, rfl⟩ (H.sel' [0] rfl rfl)

end Go.Vs
