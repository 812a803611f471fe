/- The functions compute what their models say. -/
import Derived.Test.YtfcemgcmpcmgcaaKRollBackAddC6
set_option linter.unusedVariables false
set_option linter.unusedSimpArgs false
set_option maxRecDepth 20000
namespace Go.Vs
open Go Go.Proofs
attribute [local irreducible] Code.wp Code.wpIn wpList wpListIn wpQuiet Calls CallsIn

theorem c_spec_anyHistory {r_0 : (List UInt8) × Int} {ar_0_0 : Option Addr} {cr_0_0 : Nat} {lor_0 br_0 or_0 : Nat} {prer_0 sufr_0 : List Value} {r : ((List (Int × (Int × (List Int) × Int))) × (List Int)) × ((List UInt8) × Int)} (h : M.spec_anyHistory r_0 = some r) :
    Cal2 Try.prog 40 [(pt br_0 or_0)] [Ch.bx lor_0 br_0 or_0 [(Sl ar_0_0 r_0.1 cr_0_0), (I r_0.2)] prer_0 sufr_0, Ch.ro 0 (Sl ar_0_0 r_0.1 cr_0_0) r_0.1] (fun n0 v L => ∃ (az1 : Option Addr), ∃ (cz2 : Nat), ∃ (az3 : Option Addr), ∃ (cz4 : Nat), ∃ (az5 : Option Addr), ∃ (cz6 : Nat), v = (.agg #[(Sl az1 r.1.1 cz2), (Sl az3 r.1.2 cz4)]) ∧ L = [Ch.own n0 n0 (Sl az1 r.1.1 cz2) r.1.1, Ch.own n0 n0 (Sl az3 r.1.2 cz4) r.1.2, Ch.bx lor_0 br_0 or_0 [(Sl az5 r.2.1 cz6), (I r.2.2)] prer_0 sufr_0, Ch.ro 0 (Sl az5 r.2.1 cz6) r.2.1]) := by
 refine cal2 (n := 35) Try.func40 rfl rfl rfl rfl ?_
 intro S0 σ0 n0 hn0 H
 unfold M.spec_anyHistory at h
 refine c_seq ?_
 refine rg ?_
 refine st_ex (ex_alloc (cs := [(.slice none 0 0), (.slice none 0 0)]) H hn0 ti26 rfl) wn ?_
 rintro _ σ2 ⟨b1, rfl, H, -⟩
 refine w_end ?_
 refine q_then ?_
 refine c_seq ?_
 refine rg ?_
 refine st (v := (pt br_0 or_0)) (rv_move rfl) ?_
 obtain ⟨r3, hx4, h'⟩ := bind_some h
 clear h
 have h := h'; clear h'
 have hc5 := c_spec_someHistory (lor_0 := lor_0) (br_0 := br_0) (or_0 := or_0) (prer_0 := prer_0) (sufr_0 := sufr_0) (ar_0_0 := ar_0_0) (cr_0_0 := cr_0_0) hx4
 refine st_call (cx_call hc5 (ent_f hc5.fn rfl) hn0 (show Hp S0 σ0 _ ([Ch.bx lor_0 br_0 or_0 [(Sl ar_0_0 r_0.1 cr_0_0), (I r_0.2)] prer_0 sufr_0, Ch.ro 0 (Sl ar_0_0 r_0.1 cr_0_0) r_0.1] ++ [Ch.bx n0 b1 0 [(.slice none 0 0), (.slice none 0 0)] [] [], Ch.ro 0 (Sl ar_0_0 r_0.1 cr_0_0) r_0.1]) from (H.sel' [1, 2, 0, 2] rfl rfl))) wn ?_
 rintro _ σ12 ⟨_, ⟨a6, c7, a8, c9, a10, c11, rfl, rfl⟩, H, -⟩
 replace H : Hp S0 σ0 σ12 [Ch.own n0 n0 (Sl a6 r3.1.1 c7) r3.1.1, Ch.own n0 n0 (Sl a8 r3.1.2 c9) r3.1.2, Ch.bx lor_0 br_0 or_0 [(Sl a10 r3.2.1 c11), (I r3.2.2)] prer_0 sufr_0, Ch.ro 0 (Sl a10 r3.2.1 c11) r3.2.1, Ch.bx n0 b1 0 [(.slice none 0 0), (.slice none 0 0)] [] [], Ch.ro 0 (Sl ar_0_0 r_0.1 cr_0_0) r_0.1] := H
 refine st_ex (ex_alloc (cs := [(.slice none 0 0), (.slice none 0 0)]) H hn0 ti26 rfl) wn ?_
 rintro _ σ14 ⟨b13, rfl, H, -⟩
 refine st_exS (ex_store_box (k := 0) (cs := [(.slice none 0 0), (.slice none 0 0)]) (vs := [(Sl a6 r3.1.1 c7), (Sl a8 r3.1.2 c9)]) (cs' := [(Sl a6 r3.1.1 c7), (Sl a8 r3.1.2 c9)]) H (i := 0) rfl ti26 rfl rfl rfl rfl rfl (Nat.le_of_ble_eq_true rfl) (by simp [plain]) rfl) wn ?_
 rintro σ15 ⟨H, -⟩
 refine w_end ?_
 refine q_then ?_
 refine c_seq ?_
 refine c_seq ?_
 refine rg ?_
 refine st (v := (pt br_0 or_0)) (rv_move rfl) ?_
 obtain ⟨r16, hx17, h'⟩ := bind_some h
 clear h
 have h := h'; clear h'
 have hc18 := c_spec_reader_pick (lor_0 := lor_0) (br_0 := br_0) (or_0 := or_0) (prer_0 := prer_0) (sufr_0 := sufr_0) (ar_0_0 := a10) (cr_0_0 := c11) hx17
 refine st_call (cx_call hc18 (ent_f hc18.fn rfl) hn0 (show Hp S0 σ0 _ ([Ch.bx lor_0 br_0 or_0 [(Sl a10 r3.2.1 c11), (I r3.2.2)] prer_0 sufr_0, Ch.ro 0 (Sl a10 r3.2.1 c11) r3.2.1] ++ [Ch.bx n0 b13 0 [(Sl a6 r3.1.1 c7), (Sl a8 r3.1.2 c9)] [] [], Ch.own n0 n0 (Sl a6 r3.1.1 c7) r3.1.1, Ch.own n0 n0 (Sl a8 r3.1.2 c9) r3.1.2, Ch.ro 0 (Sl a10 r3.2.1 c11) r3.2.1, Ch.bx n0 b1 0 [(.slice none 0 0), (.slice none 0 0)] [] [], Ch.ro 0 (Sl ar_0_0 r_0.1 cr_0_0) r_0.1]) from (H.sel' [3, 4, 0, 1, 2, 4, 5, 6] rfl rfl))) wn ?_
 rintro _ σ21 ⟨_, ⟨a19, c20, rfl, rfl⟩, H, -⟩
 replace H : Hp S0 σ0 σ21 [Ch.bx lor_0 br_0 or_0 [(Sl a19 r16.2.1 c20), (I r16.2.2)] prer_0 sufr_0, Ch.ro 0 (Sl a19 r16.2.1 c20) r16.2.1, Ch.bx n0 b13 0 [(Sl a6 r3.1.1 c7), (Sl a8 r3.1.2 c9)] [] [], Ch.own n0 n0 (Sl a6 r3.1.1 c7) r3.1.1, Ch.own n0 n0 (Sl a8 r3.1.2 c9) r3.1.2, Ch.ro 0 (Sl a10 r3.2.1 c11) r3.2.1, Ch.bx n0 b1 0 [(.slice none 0 0), (.slice none 0 0)] [] [], Ch.ro 0 (Sl ar_0_0 r_0.1 cr_0_0) r_0.1] := H
 replace H : Hp S0 σ0 σ21 [Ch.bx lor_0 br_0 or_0 [(Sl a19 r16.2.1 c20), (I r16.2.2)] prer_0 sufr_0, Ch.ro 0 (Sl a19 r16.2.1 c20) r16.2.1, Ch.bx n0 b13 0 [(Sl a6 r3.1.1 c7), (Sl a8 r3.1.2 c9)] [] [], Ch.own n0 n0 (Sl a6 r3.1.1 c7) r3.1.1, Ch.own n0 n0 (Sl a8 r3.1.2 c9) r3.1.2, Ch.bx n0 b1 0 [(.slice none 0 0), (.slice none 0 0)] [] []] := H.sel' [0, 1, 2, 3, 4, 6] rfl rfl
 refine w_end ?_
 refine q_then ?_
 obtain ⟨o22, hj, h'⟩ := bind_some h
 clear h
 refine c_cut (fun e a w => e = .normal ∧ ∃ (ρ : Nat → Value) (σ : St) (aj1 : Option Addr) (cj2 : Nat) (aj3 : Option Addr) (cj4 : Nat) (aj5 : Option Addr) (cj6 : Nat), a = fr 35 (updL ρ [(0, (pt br_0 or_0)), (2, (pt b1 0)), (3, (pt b13 0))]) ∧ w = σ.w ∧ Hp S0 σ0 σ [Ch.bx lor_0 br_0 or_0 [(Sl aj1 o22.1.1 cj2), (I o22.1.2)] prer_0 sufr_0, Ch.ro 0 (Sl aj1 o22.1.1 cj2) o22.1.1, Ch.bx n0 b13 0 [(Sl aj3 o22.2.1 cj4), (Sl aj5 o22.2.2 cj6)] [] [], Ch.own n0 n0 (Sl aj3 o22.2.1 cj4) o22.2.1, Ch.own n0 n0 (Sl aj5 o22.2.2 cj6) o22.2.2, Ch.bx n0 b1 0 [(.slice none 0 0), (.slice none 0 0)] [] []]) ?_ ?_
 ·clear h'
  rename _ = some o22 => h
  refine c_blk ?_
  refine c_seq ?_
  refine rg ?_
  refine st (v := (B (r16.1 == 0))) (rv_eql (a := r16.1) (b := 0) rfl rfl) ?_
  refine st (v := (B (r16.1 == 0))) (rv_assign rfl) ?_
  refine w_end ?_
  refine q_then ?_
  refine cd_cond (r16.1 == 0) rfl (fun hb23 => ?_) (fun hb23 => ?_)
  ·replace h := bif_t hb23 h
   refine rg ?_
   refine st (v := (pt br_0 or_0)) (rv_move rfl) ?_
   refine st (v := (pt b13 1)) (rv_fieldAddr (off := 1) (ft := 24) Try.underlying26 rfl ti24 rfl rfl) ?_
   have hc24 := H.cell (u := (Sl a8 r3.1.2 c9)) (o' := 1) 2 1 rfl rfl rfl
   refine st (v := (Sl a8 r3.1.2 c9)) (rv_load1 Try.underlying24 rfl rfl hc24) ?_
   refine st_ex (ex_buildSlice (el := n0) (xs := ([1000] : List Int)) (ps := [(0, (I 1000))]) (cs := [(I 1000)]) H hn0 Try.underlying24 ti3 rfl rfl (by kernel_rfl) (.cons (c := [(I 1000)]) rfl (.nil)) rfl) wn ?_
   rintro _ σ26 ⟨b25, rfl, H, -⟩
   obtain ⟨xs27, hx28, h'⟩ := bind_some h
   clear h
   have h := h'; clear h'
   refine st_ex (ex_append H (i := 5) rfl Try.underlying24 Try.underlying24 ti3 rfl rfl (by decide) (H.own 0 rfl).rd hx28 hn0 rfl rfl) wn ?_
   rintro _ σ31 ⟨a29, c30, rfl, H, -⟩
   obtain ⟨σ32, hw33, H, -⟩ := H.pub 0 rfl (Nat.le_refl _)
   rw [← hw33]; clear hw33
   replace H := H.roLow 0 0 rfl (Nat.zero_le _)
   obtain ⟨r34, hx35, h'⟩ := bind_some h
   clear h
   have h := h'; clear h'
   have hc36 := c_spec_reader_spoil (lor_0 := lor_0) (br_0 := br_0) (or_0 := or_0) (prer_0 := prer_0) (sufr_0 := sufr_0) (ar_0_0 := a19) (cr_0_0 := c20) (alist_1 := a29) (clist_1 := c30) hx35
   refine st_call (cx_call hc36 (ent_f hc36.fn rfl) hn0 (show Hp S0 σ0 _ ([Ch.bx lor_0 br_0 or_0 [(Sl a19 r16.2.1 c20), (I r16.2.2)] prer_0 sufr_0, Ch.ro 0 (Sl a19 r16.2.1 c20) r16.2.1, Ch.ro 0 (Sl a29 xs27 c30) xs27] ++ [Ch.ro 0 (Sl a29 xs27 c30) xs27, Ch.ro n0 (Sl a29 xs27 c30) xs27, Ch.own n0 n0 (Sl (some ⟨b25, 0, none⟩) ([1000] : List Int) 1) ([1000] : List Int), Ch.ro 0 (Sl a19 r16.2.1 c20) r16.2.1, Ch.bx n0 b13 0 [(Sl a6 r3.1.1 c7), (Sl a8 r3.1.2 c9)] [] [], Ch.own n0 n0 (Sl a6 r3.1.1 c7) r3.1.1, Ch.bx n0 b1 0 [(.slice none 0 0), (.slice none 0 0)] [] []]) from (H.sel' [3, 4, 0, 0, 1, 2, 4, 5, 6, 7] rfl rfl))) wn ?_
   rintro _ σ41 ⟨_, ⟨a37, c38, a39, c40, rfl, rfl⟩, H, -⟩
   replace H : Hp S0 σ0 σ41 [Ch.own n0 n0 (Sl a37 r34.1 c38) r34.1, Ch.bx lor_0 br_0 or_0 [(Sl a39 r34.2.1 c40), (I r34.2.2)] prer_0 sufr_0, Ch.ro 0 (Sl a39 r34.2.1 c40) r34.2.1, Ch.ro 0 (Sl a29 xs27 c30) xs27, Ch.ro n0 (Sl a29 xs27 c30) xs27, Ch.own n0 n0 (Sl (some ⟨b25, 0, none⟩) ([1000] : List Int) 1) ([1000] : List Int), Ch.ro 0 (Sl a19 r16.2.1 c20) r16.2.1, Ch.bx n0 b13 0 [(Sl a6 r3.1.1 c7), (Sl a8 r3.1.2 c9)] [] [], Ch.own n0 n0 (Sl a6 r3.1.1 c7) r3.1.1, Ch.bx n0 b1 0 [(.slice none 0 0), (.slice none 0 0)] [] []] := H
   replace H : Hp S0 σ0 σ41 [Ch.own n0 n0 (Sl a37 r34.1 c38) r34.1, Ch.bx lor_0 br_0 or_0 [(Sl a39 r34.2.1 c40), (I r34.2.2)] prer_0 sufr_0, Ch.ro 0 (Sl a39 r34.2.1 c40) r34.2.1, Ch.bx n0 b13 0 [(Sl a6 r3.1.1 c7), (Sl a8 r3.1.2 c9)] [] [], Ch.own n0 n0 (Sl a6 r3.1.1 c7) r3.1.1, Ch.bx n0 b1 0 [(.slice none 0 0), (.slice none 0 0)] [] []] := H.sel' [0, 1, 2, 7, 8, 9] rfl rfl
   refine st (v := (pt b13 1)) (rv_fieldAddr (off := 1) (ft := 24) Try.underlying26 rfl ti24 rfl rfl) ?_
   refine st_exS (ex_store_box (k := 1) (cs := [(Sl a6 r3.1.1 c7), (Sl a8 r3.1.2 c9)]) (vs := [(Sl a37 r34.1 c38)]) (cs' := [(Sl a6 r3.1.1 c7), (Sl a37 r34.1 c38)]) H (i := 3) rfl ti24 rfl rfl rfl rfl rfl (Nat.le_of_ble_eq_true rfl) (by simp [plain]) rfl) wn ?_
   rintro σ42 ⟨H, -⟩
   refine w_end ?_
   refine q_blk ?_
   obtain rfl := Option.some.inj h
   exact ⟨rfl, _, σ42, a39, c40, a6, c7, a37, c38, fr_join ⟨rfl, rfl, rfl, trivial⟩, rfl, H.sel' [2, 3, 0, 4, 1, 5] rfl rfl⟩
  ·replace h := bif_f hb23 h
   refine c_seq ?_
   refine rg ?_
   refine st (v := (B (r16.1 == 1))) (rv_eql (a := r16.1) (b := 1) rfl rfl) ?_
   refine st (v := (B (r16.1 == 1))) (rv_assign rfl) ?_
   refine w_end ?_
   refine q_then ?_
   refine cd_cond (r16.1 == 1) rfl (fun hb43 => ?_) (fun hb43 => ?_)
   ·replace h := bif_t hb43 h
    refine c_seq ?_
    have hc44 := H.cell (u := (Sl a6 r3.1.1 c7)) (o' := 0) 2 0 rfl rfl rfl
    obtain ⟨r45, hx46, h'⟩ := bind_some h
    clear h
    have h := h'; clear h'
    have hc47 := c_spec_anyEntry (lor_0 := lor_0) (br_0 := br_0) (or_0 := or_0) (prer_0 := prer_0) (sufr_0 := sufr_0) (ar_0_0 := a19) (cr_0_0 := c20) hx46
    have Hs := H
    refine rg2 (σ := σ21) (Nm := (Option Addr) × (Nat) × (Option Addr) × (Nat) × (Nat)) 5 [3, 4] [[false, false], [true, false], [true, true]] [[(0, 0), (1, 1), (2, 2)], [(0, 0), (1, 1), (2, 2)], [(0, 0)], [(0, 1)], [(1, 2)]] 2 [fun ((a48, c49, a50, c51, b52) : (Option Addr) × (Nat) × (Option Addr) × (Nat) × (Nat)) => fun σm => Hp S0 σ0 σm [Ch.bx lor_0 br_0 or_0 [(Sl a19 r16.2.1 c20), (I r16.2.2)] prer_0 sufr_0, Ch.ro 0 (Sl a19 r16.2.1 c20) r16.2.1, Ch.bx n0 b13 0 [(Sl a6 r3.1.1 c7), (Sl a8 r3.1.2 c9)] [] [], Ch.own n0 n0 (Sl a6 r3.1.1 c7) r3.1.1, Ch.own n0 n0 (Sl a8 r3.1.2 c9) r3.1.2, Ch.bx n0 b1 0 [(.slice none 0 0), (.slice none 0 0)] [] []] ∧ Md (cov []) σ21 σm, fun ((a48, c49, a50, c51, b52) : (Option Addr) × (Nat) × (Option Addr) × (Nat) × (Nat)) => fun σm => Hp S0 σ0 σm [Ch.ro n0 (Sl a48 r45.1.2.2.1 c49) r45.1.2.2.1, Ch.bx lor_0 br_0 or_0 [(Sl a50 r45.2.1 c51), (I r45.2.2)] prer_0 sufr_0, Ch.ro 0 (Sl a50 r45.2.1 c51) r45.2.1, Ch.ro 0 (Sl a19 r16.2.1 c20) r16.2.1, Ch.bx n0 b13 0 [(Sl a6 r3.1.1 c7), (Sl a8 r3.1.2 c9)] [] [], Ch.own n0 n0 (Sl a6 r3.1.1 c7) r3.1.1, Ch.own n0 n0 (Sl a8 r3.1.2 c9) r3.1.2, Ch.bx n0 b1 0 [(.slice none 0 0), (.slice none 0 0)] [] []] ∧ Md (fun i => (cov []) i ∨ (fun i => (cov [Ch.bx lor_0 br_0 or_0 [(Sl a19 r16.2.1 c20), (I r16.2.2)] prer_0 sufr_0, Ch.ro 0 (Sl a19 r16.2.1 c20) r16.2.1]) i ∨ (fun b => blk (Sl a48 r45.1.2.2.1 c49) = some b) i) i) σ21 σm, fun ((a48, c49, a50, c51, b52) : (Option Addr) × (Nat) × (Option Addr) × (Nat) × (Nat)) => fun σm => Hp S0 σ0 σm [Ch.own n0 n0 (Sl (some ⟨b52, 0, none⟩) ([(r45.1.1, (r45.1.2.1, r45.1.2.2.1, r45.1.2.2.2))] : List (Int × (Int × (List Int) × Int))) 1) ([(r45.1.1, (r45.1.2.1, r45.1.2.2.1, r45.1.2.2.2))] : List (Int × (Int × (List Int) × Int))), Ch.ro n0 (Sl a48 r45.1.2.2.1 c49) r45.1.2.2.1, Ch.bx lor_0 br_0 or_0 [(Sl a50 r45.2.1 c51), (I r45.2.2)] prer_0 sufr_0, Ch.ro 0 (Sl a50 r45.2.1 c51) r45.2.1, Ch.ro 0 (Sl a19 r16.2.1 c20) r16.2.1, Ch.bx n0 b13 0 [(Sl a6 r3.1.1 c7), (Sl a8 r3.1.2 c9)] [] [], Ch.own n0 n0 (Sl a6 r3.1.1 c7) r3.1.1, Ch.own n0 n0 (Sl a8 r3.1.2 c9) r3.1.2, Ch.bx n0 b1 0 [(.slice none 0 0), (.slice none 0 0)] [] []] ∧ Md (fun i => (cov []) i ∨ (fun i => (cov [Ch.bx lor_0 br_0 or_0 [(Sl a19 r16.2.1 c20), (I r16.2.2)] prer_0 sufr_0, Ch.ro 0 (Sl a19 r16.2.1 c20) r16.2.1]) i ∨ (fun b => blk (Sl a48 r45.1.2.2.1 c49) = some b) i) i) σ21 σm] [fun ((a48, c49, a50, c51, b52) : (Option Addr) × (Nat) × (Option Addr) × (Nat) × (Nat)) => (pt b13 0), fun ((a48, c49, a50, c51, b52) : (Option Addr) × (Nat) × (Option Addr) × (Nat) × (Nat)) => (Sl a6 r3.1.1 c7), fun ((a48, c49, a50, c51, b52) : (Option Addr) × (Nat) × (Option Addr) × (Nat) × (Nat)) => (pt br_0 or_0), fun ((a48, c49, a50, c51, b52) : (Option Addr) × (Nat) × (Option Addr) × (Nat) × (Nat)) => (.agg #[(I r45.1.1), (I r45.1.2.1), (Sl a48 r45.1.2.2.1 c49), (I r45.1.2.2.2)]), fun ((a48, c49, a50, c51, b52) : (Option Addr) × (Nat) × (Option Addr) × (Nat) × (Nat)) => (Sl (some ⟨b52, 0, none⟩) ([(r45.1.1, (r45.1.2.1, r45.1.2.2.1, r45.1.2.2.2))] : List (Int × (Int × (List Int) × Int))) 1)] (none, 0, none, 0, 0) (by kernel_rfl) (by kernel_rfl) ?_ ?_ ?_
    ·intro σm m0
     exact ⟨H.grow (m0.mono fun _ h => h.elim), m0⟩
    ·refine ac rfl (by
       intro k; rintro ⟨a48, c49, a50, c51, b52⟩ ρ σm hJ hoff hdep
       have e3 := look_off (N := 35) (hoff 3 rfl) rfl
       exact dp_v (v := (pt b13 0)) wn (rv_fieldAddr (off := 0) (ft := 23) Try.underlying26 rfl ti23 rfl e3) rfl hJ) ?_
     refine all_cons (by
       refine ⟨?_, ?_⟩
       ·rintro ⟨a48, c49, a50, c51, b52⟩ ρ σm hJ hoff hdep
        have e19 := hdep 0 rfl rfl 19 rfl
        obtain ⟨H, m⟩ := id hJ
        have hc44 := H.cell (u := (Sl a6 r3.1.1 c7)) (o' := 0) 2 0 rfl rfl rfl
        exact dp_v (v := (Sl a6 r3.1.1 c7)) wn (rv_load1 Try.underlying23 rfl e19 hc44) rfl hJ
       refine ⟨?_, ?_⟩
       ·rintro ⟨a48, c49, a50, c51, b52⟩ ρ σm hJ hoff hdep
        have e19 := hdep 0 rfl rfl 19 rfl
        obtain ⟨H, m⟩ := id hJ
        have hc44 := H.cell (u := (Sl a6 r3.1.1 c7)) (o' := 0) 4 0 rfl rfl rfl
        exact dp_v (v := (Sl a6 r3.1.1 c7)) wn (rv_load1 Try.underlying23 rfl e19 hc44) rfl hJ
       refine ⟨?_, ?_⟩
       ·rintro ⟨a48, c49, a50, c51, b52⟩ ρ σm hJ hoff hdep
        have e19 := hdep 0 rfl rfl 19 rfl
        obtain ⟨H, m⟩ := id hJ
        have hc44 := H.cell (u := (Sl a6 r3.1.1 c7)) (o' := 0) 5 0 rfl rfl rfl
        exact dp_v (v := (Sl a6 r3.1.1 c7)) wn (rv_load1 Try.underlying23 rfl e19 hc44) rfl hJ
       trivial) ?_
     refine ac rfl (by
       intro k; rintro ⟨a48, c49, a50, c51, b52⟩ ρ σm hJ hoff hdep
       have e0 := look_off (N := 35) (hoff 0 rfl) rfl
       exact dp_v (v := (pt br_0 or_0)) wn (rv_move e0) rfl hJ) ?_
     refine all_cons (by
       refine ⟨?_, ?_⟩
       ·rintro ⟨a48, c49, a50, c51, b52⟩ ρ σm hJ hoff hdep
        have e21 : look 35 ρ 21 = (pt br_0 or_0) := hdep 2 rfl rfl 21 rfl
        obtain ⟨H, m⟩ := id hJ
        refine dp_cx wn (cx_call hc47 (ent_f hc47.fn (by show [look 35 ρ 21] = _; rw [e21])) hn0 (show Hp S0 σ0 _ ([Ch.bx lor_0 br_0 or_0 [(Sl a19 r16.2.1 c20), (I r16.2.2)] prer_0 sufr_0, Ch.ro 0 (Sl a19 r16.2.1 c20) r16.2.1] ++ [Ch.ro 0 (Sl a19 r16.2.1 c20) r16.2.1, Ch.bx n0 b13 0 [(Sl a6 r3.1.1 c7), (Sl a8 r3.1.2 c9)] [] [], Ch.own n0 n0 (Sl a6 r3.1.1 c7) r3.1.1, Ch.own n0 n0 (Sl a8 r3.1.2 c9) r3.1.2, Ch.bx n0 b1 0 [(.slice none 0 0), (.slice none 0 0)] [] []]) from (H.sel' [0, 1, 1, 2, 3, 4, 5] rfl rfl))) ?_
        rintro _ σq ⟨_, ⟨a48x, c49x, a50x, c51x, rfl, rfl⟩, H2, m2⟩
        obtain ⟨σr0, hwr0, H2, mr0⟩ := H2.pub 0 rfl (Nat.le_refl _)
        exact ⟨_, (a48x, c49x, a50x, c51x, b52), hwr0, rfl, ⟨H2.sel' [0, 1, 2, 3, 4, 5, 6, 7] rfl rfl, m.comp (m2.comp mr0)⟩, stab [0, 1, 2] (by kernel_rfl) ⟨rfl, rfl, rfl, trivial⟩⟩
       trivial) ?_
     refine all_cons (by
       refine ⟨?_, ?_⟩
       ·rintro ⟨a48, c49, a50, c51, b52⟩ ρ σm hJ hoff hdep
        have e22 : look 35 ρ 22 = (.agg #[(I r45.1.1), (I r45.1.2.1), (Sl a48 r45.1.2.2.1 c49), (I r45.1.2.2.2)]) := hdep 3 rfl rfl 22 rfl
        obtain ⟨H, m⟩ := id hJ
        refine dp_ex wn (ex_buildSlice (el := n0) (xs := ([(r45.1.1, (r45.1.2.1, r45.1.2.2.1, r45.1.2.2.2))] : List (Int × (Int × (List Int) × Int)))) (ps := [(0, (.agg #[(I r45.1.1), (I r45.1.2.1), (Sl a48 r45.1.2.2.1 c49), (I r45.1.2.2.2)]))]) (cs := [(I r45.1.1), (I r45.1.2.1), (Sl a48 r45.1.2.2.1 c49), (I r45.1.2.2.2)]) H hn0 Try.underlying23 ti43 rfl (by show [(0, look 35 ρ 22)] = _; rw [e22]) (by kernel_rfl) (.cons (c := [(I r45.1.1), (I r45.1.2.1), (Sl a48 r45.1.2.2.1 c49), (I r45.1.2.2.2)]) ⟨[(I r45.1.1)], [(I r45.1.2.1), (Sl a48 r45.1.2.2.1 c49), (I r45.1.2.2.2)], rfl, rfl, ⟨[(I r45.1.2.1)], [(Sl a48 r45.1.2.2.1 c49), (I r45.1.2.2.2)], rfl, rfl, ⟨[(Sl a48 r45.1.2.2.1 c49)], [(I r45.1.2.2.2)], rfl, ⟨_, rfl, (H.ro 0 rfl)⟩, rfl⟩⟩⟩ (.nil)) rfl) ?_
        rintro _ σq ⟨b52x, rfl, H2, m2⟩
        exact ⟨_, (a48, c49, a50, c51, b52x), rfl, rfl, ⟨H2.sel' [0, 1, 2, 3, 4, 5, 6, 7, 8] rfl rfl, m.comp0 m2⟩, stab [0, 1, 2, 3] (by kernel_rfl) ⟨rfl, rfl, rfl, rfl, trivial⟩⟩
       trivial) ?_
     exact all_nil
    ·rintro ⟨a48, c49, a50, c51, b52⟩ ρ σ53 hJ hoff hrel
     have e0 := look_off (N := 35) (hoff 0 rfl) rfl
     have e2 := look_off (N := 35) (hoff 2 rfl) rfl
     have e3 := look_off (N := 35) (hoff 3 rfl) rfl
     have e20 := hrel 1 rfl 20 rfl
     have e23 := hrel 4 rfl 23 rfl
     obtain ⟨H, -⟩ := (show Hp S0 σ0 σ53 [Ch.own n0 n0 (Sl (some ⟨b52, 0, none⟩) ([(r45.1.1, (r45.1.2.1, r45.1.2.2.1, r45.1.2.2.2))] : List (Int × (Int × (List Int) × Int))) 1) ([(r45.1.1, (r45.1.2.1, r45.1.2.2.1, r45.1.2.2.2))] : List (Int × (Int × (List Int) × Int))), Ch.ro n0 (Sl a48 r45.1.2.2.1 c49) r45.1.2.2.1, Ch.bx lor_0 br_0 or_0 [(Sl a50 r45.2.1 c51), (I r45.2.2)] prer_0 sufr_0, Ch.ro 0 (Sl a50 r45.2.1 c51) r45.2.1, Ch.ro 0 (Sl a19 r16.2.1 c20) r16.2.1, Ch.bx n0 b13 0 [(Sl a6 r3.1.1 c7), (Sl a8 r3.1.2 c9)] [] [], Ch.own n0 n0 (Sl a6 r3.1.1 c7) r3.1.1, Ch.own n0 n0 (Sl a8 r3.1.2 c9) r3.1.2, Ch.bx n0 b1 0 [(.slice none 0 0), (.slice none 0 0)] [] []] ∧ Md (fun i => (cov []) i ∨ (fun i => (cov [Ch.bx lor_0 br_0 or_0 [(Sl a19 r16.2.1 c20), (I r16.2.2)] prer_0 sufr_0, Ch.ro 0 (Sl a19 r16.2.1 c20) r16.2.1]) i ∨ (fun b => blk (Sl a48 r45.1.2.2.1 c49) = some b) i) i) σ21 σ53 from hJ)
     clear hJ Hs
     rw [fr_lookL (L := [(0, (pt br_0 or_0)), (2, (pt b1 0)), (3, (pt b13 0)), (20, (Sl a6 r3.1.1 c7)), (23, (Sl (some ⟨b52, 0, none⟩) ([(r45.1.1, (r45.1.2.1, r45.1.2.2.1, r45.1.2.2.2))] : List (Int × (Int × (List Int) × Int))) 1))]) ⟨e0, e2, e3, e20, e23, trivial⟩]
     clear hoff hrel e0 e2 e3 e20 e23
     obtain ⟨xs54, hx55, h'⟩ := bind_some h
     clear h
     have h := h'; clear h'
     refine st_ex (ex_append H (i := 6) rfl Try.underlying23 Try.underlying23 ti43 rfl rfl (by decide) (H.own 0 rfl).rd hx55 hn0 rfl rfl) wn ?_
     rintro _ σ58 ⟨a56, c57, rfl, H, -⟩
     replace H : Hp S0 σ0 σ58 [Ch.own n0 n0 (Sl a56 xs54 c57) xs54, Ch.bx lor_0 br_0 or_0 [(Sl a50 r45.2.1 c51), (I r45.2.2)] prer_0 sufr_0, Ch.ro 0 (Sl a50 r45.2.1 c51) r45.2.1, Ch.bx n0 b13 0 [(Sl a6 r3.1.1 c7), (Sl a8 r3.1.2 c9)] [] [], Ch.own n0 n0 (Sl a8 r3.1.2 c9) r3.1.2, Ch.bx n0 b1 0 [(.slice none 0 0), (.slice none 0 0)] [] []] := H.sel' [0, 3, 4, 6, 7, 8] rfl rfl
     refine st (v := (pt b13 0)) (rv_fieldAddr (off := 0) (ft := 23) Try.underlying26 rfl ti23 rfl rfl) ?_
     refine st_exS (ex_store_box (k := 0) (cs := [(Sl a6 r3.1.1 c7), (Sl a8 r3.1.2 c9)]) (vs := [(Sl a56 xs54 c57)]) (cs' := [(Sl a56 xs54 c57), (Sl a8 r3.1.2 c9)]) H (i := 3) rfl ti23 rfl rfl rfl rfl rfl (Nat.le_of_ble_eq_true rfl) (by simp [plain]) rfl) wn ?_
     rintro σ59 ⟨H, -⟩
     refine w_end ?_
     refine q_then ?_
     have hc60 := H.cell (u := (Sl a8 r3.1.2 c9)) (o' := 1) 0 1 rfl rfl rfl
     obtain ⟨r62, hx63, h'⟩ := bind_some h
     clear h
     have h := h'; clear h'
     have hc64 := fun (b61 : Nat) => c_spec_reader_one (lor_0 := lor_0) (br_0 := br_0) (or_0 := or_0) (prer_0 := prer_0) (sufr_0 := sufr_0) (ar_0_0 := a50) (cr_0_0 := c51) (alist_1 := (some ⟨b61, 0, none⟩)) (clist_1 := 2) hx63
     have Hs := H
     refine rg2 (σ := σ59) (Nm := (Nat) × (Option Addr) × (Nat) × (Nat)) 6 [3, 4, 5] [[false, false, false], [true, false, false], [true, true, false], [true, true, true]] [[(0, 0), (1, 1), (2, 2), (3, 3)], [(0, 0), (1, 1), (2, 2), (3, 3)], [(0, 0), (1, 1)], [(0, 1)], [(1, 2)], [(2, 3)]] 3 [fun ((b61, a65, c66, b67) : (Nat) × (Option Addr) × (Nat) × (Nat)) => fun σm => Hp S0 σ0 σm [Ch.bx n0 b13 0 [(Sl a56 xs54 c57), (Sl a8 r3.1.2 c9)] [] [], Ch.own n0 n0 (Sl a56 xs54 c57) xs54, Ch.bx lor_0 br_0 or_0 [(Sl a50 r45.2.1 c51), (I r45.2.2)] prer_0 sufr_0, Ch.ro 0 (Sl a50 r45.2.1 c51) r45.2.1, Ch.own n0 n0 (Sl a8 r3.1.2 c9) r3.1.2, Ch.bx n0 b1 0 [(.slice none 0 0), (.slice none 0 0)] [] []] ∧ Md (cov []) σ59 σm, fun ((b61, a65, c66, b67) : (Nat) × (Option Addr) × (Nat) × (Nat)) => fun σm => Hp S0 σ0 σm [Ch.ro 0 (Sl (some ⟨b61, 0, none⟩) ([0, 900] : List Int) 2) ([0, 900] : List Int), Ch.bx n0 b13 0 [(Sl a56 xs54 c57), (Sl a8 r3.1.2 c9)] [] [], Ch.own n0 n0 (Sl a56 xs54 c57) xs54, Ch.bx lor_0 br_0 or_0 [(Sl a50 r45.2.1 c51), (I r45.2.2)] prer_0 sufr_0, Ch.ro 0 (Sl a50 r45.2.1 c51) r45.2.1, Ch.own n0 n0 (Sl a8 r3.1.2 c9) r3.1.2, Ch.bx n0 b1 0 [(.slice none 0 0), (.slice none 0 0)] [] []] ∧ Md (fun i => (cov []) i ∨ (fun i => (cov []) i ∨ (fun b => blk (Sl (some ⟨b61, 0, none⟩) ([0, 900] : List Int) 2) = some b) i) i) σ59 σm, fun ((b61, a65, c66, b67) : (Nat) × (Option Addr) × (Nat) × (Nat)) => fun σm => Hp S0 σ0 σm [Ch.bx lor_0 br_0 or_0 [(Sl a65 r62.2.1 c66), (I r62.2.2)] prer_0 sufr_0, Ch.ro 0 (Sl a65 r62.2.1 c66) r62.2.1, Ch.ro 0 (Sl (some ⟨b61, 0, none⟩) ([0, 900] : List Int) 2) ([0, 900] : List Int), Ch.bx n0 b13 0 [(Sl a56 xs54 c57), (Sl a8 r3.1.2 c9)] [] [], Ch.own n0 n0 (Sl a56 xs54 c57) xs54, Ch.ro 0 (Sl a50 r45.2.1 c51) r45.2.1, Ch.own n0 n0 (Sl a8 r3.1.2 c9) r3.1.2, Ch.bx n0 b1 0 [(.slice none 0 0), (.slice none 0 0)] [] []] ∧ Md (fun i => (fun i => (cov []) i ∨ (fun i => (cov []) i ∨ (fun b => blk (Sl (some ⟨b61, 0, none⟩) ([0, 900] : List Int) 2) = some b) i) i) i ∨ (cov [Ch.bx lor_0 br_0 or_0 [(Sl a50 r45.2.1 c51), (I r45.2.2)] prer_0 sufr_0, Ch.ro 0 (Sl a50 r45.2.1 c51) r45.2.1, Ch.ro 0 (Sl (some ⟨b61, 0, none⟩) ([0, 900] : List Int) 2) ([0, 900] : List Int)]) i) σ59 σm, fun ((b61, a65, c66, b67) : (Nat) × (Option Addr) × (Nat) × (Nat)) => fun σm => Hp S0 σ0 σm [Ch.own n0 n0 (Sl (some ⟨b67, 0, none⟩) ([r62.1] : List Int) 1) ([r62.1] : List Int), Ch.bx lor_0 br_0 or_0 [(Sl a65 r62.2.1 c66), (I r62.2.2)] prer_0 sufr_0, Ch.ro 0 (Sl a65 r62.2.1 c66) r62.2.1, Ch.ro 0 (Sl (some ⟨b61, 0, none⟩) ([0, 900] : List Int) 2) ([0, 900] : List Int), Ch.bx n0 b13 0 [(Sl a56 xs54 c57), (Sl a8 r3.1.2 c9)] [] [], Ch.own n0 n0 (Sl a56 xs54 c57) xs54, Ch.ro 0 (Sl a50 r45.2.1 c51) r45.2.1, Ch.own n0 n0 (Sl a8 r3.1.2 c9) r3.1.2, Ch.bx n0 b1 0 [(.slice none 0 0), (.slice none 0 0)] [] []] ∧ Md (fun i => (fun i => (cov []) i ∨ (fun i => (cov []) i ∨ (fun b => blk (Sl (some ⟨b61, 0, none⟩) ([0, 900] : List Int) 2) = some b) i) i) i ∨ (cov [Ch.bx lor_0 br_0 or_0 [(Sl a50 r45.2.1 c51), (I r45.2.2)] prer_0 sufr_0, Ch.ro 0 (Sl a50 r45.2.1 c51) r45.2.1, Ch.ro 0 (Sl (some ⟨b61, 0, none⟩) ([0, 900] : List Int) 2) ([0, 900] : List Int)]) i) σ59 σm] [fun ((b61, a65, c66, b67) : (Nat) × (Option Addr) × (Nat) × (Nat)) => (pt b13 1), fun ((b61, a65, c66, b67) : (Nat) × (Option Addr) × (Nat) × (Nat)) => (Sl a8 r3.1.2 c9), fun ((b61, a65, c66, b67) : (Nat) × (Option Addr) × (Nat) × (Nat)) => (pt br_0 or_0), fun ((b61, a65, c66, b67) : (Nat) × (Option Addr) × (Nat) × (Nat)) => (Sl (some ⟨b61, 0, none⟩) ([0, 900] : List Int) 2), fun ((b61, a65, c66, b67) : (Nat) × (Option Addr) × (Nat) × (Nat)) => (I r62.1), fun ((b61, a65, c66, b67) : (Nat) × (Option Addr) × (Nat) × (Nat)) => (Sl (some ⟨b67, 0, none⟩) ([r62.1] : List Int) 1)] (0, none, 0, 0) (by kernel_rfl) (by kernel_rfl) ?_ ?_ ?_
     ·intro σm m0
      exact ⟨H.grow (m0.mono fun _ h => h.elim), m0⟩
     ·refine ac rfl (by
        intro k; rintro ⟨b61, a65, c66, b67⟩ ρ σm hJ hoff hdep
        have e3 := look_off (N := 35) (hoff 3 rfl) rfl
        exact dp_v (v := (pt b13 1)) wn (rv_fieldAddr (off := 1) (ft := 24) Try.underlying26 rfl ti24 rfl e3) rfl hJ) ?_
      refine all_cons (by
        refine ⟨?_, ?_⟩
        ·rintro ⟨b61, a65, c66, b67⟩ ρ σm hJ hoff hdep
         have e26 := hdep 0 rfl rfl 26 rfl
         obtain ⟨H, m⟩ := id hJ
         have hc60 := H.cell (u := (Sl a8 r3.1.2 c9)) (o' := 1) 0 1 rfl rfl rfl
         exact dp_v (v := (Sl a8 r3.1.2 c9)) wn (rv_load1 Try.underlying24 rfl e26 hc60) rfl hJ
        refine ⟨?_, ?_⟩
        ·rintro ⟨b61, a65, c66, b67⟩ ρ σm hJ hoff hdep
         have e26 := hdep 0 rfl rfl 26 rfl
         obtain ⟨H, m⟩ := id hJ
         have hc60 := H.cell (u := (Sl a8 r3.1.2 c9)) (o' := 1) 1 1 rfl rfl rfl
         exact dp_v (v := (Sl a8 r3.1.2 c9)) wn (rv_load1 Try.underlying24 rfl e26 hc60) rfl hJ
        refine ⟨?_, ?_⟩
        ·rintro ⟨b61, a65, c66, b67⟩ ρ σm hJ hoff hdep
         have e26 := hdep 0 rfl rfl 26 rfl
         obtain ⟨H, m⟩ := id hJ
         have hc60 := H.cell (u := (Sl a8 r3.1.2 c9)) (o' := 1) 3 1 rfl rfl rfl
         exact dp_v (v := (Sl a8 r3.1.2 c9)) wn (rv_load1 Try.underlying24 rfl e26 hc60) rfl hJ
        refine ⟨?_, ?_⟩
        ·rintro ⟨b61, a65, c66, b67⟩ ρ σm hJ hoff hdep
         have e26 := hdep 0 rfl rfl 26 rfl
         obtain ⟨H, m⟩ := id hJ
         have hc60 := H.cell (u := (Sl a8 r3.1.2 c9)) (o' := 1) 4 1 rfl rfl rfl
         exact dp_v (v := (Sl a8 r3.1.2 c9)) wn (rv_load1 Try.underlying24 rfl e26 hc60) rfl hJ
        trivial) ?_
      refine ac rfl (by
        intro k; rintro ⟨b61, a65, c66, b67⟩ ρ σm hJ hoff hdep
        have e0 := look_off (N := 35) (hoff 0 rfl) rfl
        exact dp_v (v := (pt br_0 or_0)) wn (rv_move e0) rfl hJ) ?_
      refine all_cons (by
        refine ⟨?_, ?_⟩
        ·rintro ⟨b61, a65, c66, b67⟩ ρ σm hJ hoff hdep
         obtain ⟨H, m⟩ := id hJ
         refine dp_ex wn (ex_buildSlice (el := 0) (xs := ([0, 900] : List Int)) (ps := [(0, (I 0)), (1, (I 900))]) (cs := [(I 0), (I 900)]) H hn0 Try.underlying24 ti3 rfl rfl (by kernel_rfl) (.cons (c := [(I 0)]) rfl (.cons (c := [(I 900)]) rfl (.nil))) rfl) ?_
         rintro _ σq ⟨b61x, rfl, H2, m2⟩
         obtain ⟨σr0, hwr0, H2, mr0⟩ := H2.pub 0 rfl (Nat.zero_le _)
         exact ⟨_, (b61x, a65, c66, b67), hwr0, rfl, ⟨H2.sel' [0, 1, 2, 3, 4, 5, 6] rfl rfl, m.comp (m2.comp mr0)⟩, stab [0, 1, 2] (by kernel_rfl) ⟨rfl, rfl, rfl, trivial⟩⟩
        trivial) ?_
      refine all_cons (by
        refine ⟨?_, ?_⟩
        ·rintro ⟨b61, a65, c66, b67⟩ ρ σm hJ hoff hdep
         have e28 : look 35 ρ 28 = (pt br_0 or_0) := hdep 2 rfl rfl 28 rfl
         have e29 : look 35 ρ 29 = (Sl (some ⟨b61, 0, none⟩) ([0, 900] : List Int) 2) := hdep 3 rfl rfl 29 rfl
         obtain ⟨H, m⟩ := id hJ
         refine dp_cx wn (cx_call (hc64 b61) (ent_f (hc64 b61).fn (by show [look 35 ρ 28, look 35 ρ 29] = _; rw [e28, e29])) hn0 (show Hp S0 σ0 _ ([Ch.bx lor_0 br_0 or_0 [(Sl a50 r45.2.1 c51), (I r45.2.2)] prer_0 sufr_0, Ch.ro 0 (Sl a50 r45.2.1 c51) r45.2.1, Ch.ro 0 (Sl (some ⟨b61, 0, none⟩) ([0, 900] : List Int) 2) ([0, 900] : List Int)] ++ [Ch.ro 0 (Sl (some ⟨b61, 0, none⟩) ([0, 900] : List Int) 2) ([0, 900] : List Int), Ch.bx n0 b13 0 [(Sl a56 xs54 c57), (Sl a8 r3.1.2 c9)] [] [], Ch.own n0 n0 (Sl a56 xs54 c57) xs54, Ch.ro 0 (Sl a50 r45.2.1 c51) r45.2.1, Ch.own n0 n0 (Sl a8 r3.1.2 c9) r3.1.2, Ch.bx n0 b1 0 [(.slice none 0 0), (.slice none 0 0)] [] []]) from (H.sel' [3, 4, 0, 0, 1, 2, 4, 5, 6] rfl rfl))) ?_
         rintro _ σq ⟨_, ⟨a65x, c66x, rfl, rfl⟩, H2, m2⟩
         exact ⟨_, (b61, a65x, c66x, b67), rfl, rfl, ⟨H2.sel' [0, 1, 2, 3, 4, 5, 6, 7] rfl rfl, m.comp m2⟩, stab [0, 1, 2, 3] (by kernel_rfl) ⟨rfl, rfl, rfl, rfl, trivial⟩⟩
        trivial) ?_
      refine all_cons (by
        refine ⟨?_, ?_⟩
        ·rintro ⟨b61, a65, c66, b67⟩ ρ σm hJ hoff hdep
         have e30 : look 35 ρ 30 = (I r62.1) := hdep 4 rfl rfl 30 rfl
         obtain ⟨H, m⟩ := id hJ
         refine dp_ex wn (ex_buildSlice (el := n0) (xs := ([r62.1] : List Int)) (ps := [(0, (I r62.1))]) (cs := [(I r62.1)]) H hn0 Try.underlying24 ti3 rfl (by show [(0, look 35 ρ 30)] = _; rw [e30]) (by kernel_rfl) (.cons (c := [(I r62.1)]) rfl (.nil)) rfl) ?_
         rintro _ σq ⟨b67x, rfl, H2, m2⟩
         exact ⟨_, (b61, a65, c66, b67x), rfl, rfl, ⟨H2.sel' [0, 1, 2, 3, 4, 5, 6, 7, 8] rfl rfl, m.comp0 m2⟩, stab [0, 1, 2, 3, 4] (by kernel_rfl) ⟨rfl, rfl, rfl, rfl, rfl, trivial⟩⟩
        trivial) ?_
      exact all_nil
     ·rintro ⟨b61, a65, c66, b67⟩ ρ σ68 hJ hoff hrel
      have e0 := look_off (N := 35) (hoff 0 rfl) rfl
      have e2 := look_off (N := 35) (hoff 2 rfl) rfl
      have e3 := look_off (N := 35) (hoff 3 rfl) rfl
      have e27 := hrel 1 rfl 27 rfl
      have e31 := hrel 5 rfl 31 rfl
      obtain ⟨H, -⟩ := (show Hp S0 σ0 σ68 [Ch.own n0 n0 (Sl (some ⟨b67, 0, none⟩) ([r62.1] : List Int) 1) ([r62.1] : List Int), Ch.bx lor_0 br_0 or_0 [(Sl a65 r62.2.1 c66), (I r62.2.2)] prer_0 sufr_0, Ch.ro 0 (Sl a65 r62.2.1 c66) r62.2.1, Ch.ro 0 (Sl (some ⟨b61, 0, none⟩) ([0, 900] : List Int) 2) ([0, 900] : List Int), Ch.bx n0 b13 0 [(Sl a56 xs54 c57), (Sl a8 r3.1.2 c9)] [] [], Ch.own n0 n0 (Sl a56 xs54 c57) xs54, Ch.ro 0 (Sl a50 r45.2.1 c51) r45.2.1, Ch.own n0 n0 (Sl a8 r3.1.2 c9) r3.1.2, Ch.bx n0 b1 0 [(.slice none 0 0), (.slice none 0 0)] [] []] ∧ Md (fun i => (fun i => (cov []) i ∨ (fun i => (cov []) i ∨ (fun b => blk (Sl (some ⟨b61, 0, none⟩) ([0, 900] : List Int) 2) = some b) i) i) i ∨ (cov [Ch.bx lor_0 br_0 or_0 [(Sl a50 r45.2.1 c51), (I r45.2.2)] prer_0 sufr_0, Ch.ro 0 (Sl a50 r45.2.1 c51) r45.2.1, Ch.ro 0 (Sl (some ⟨b61, 0, none⟩) ([0, 900] : List Int) 2) ([0, 900] : List Int)]) i) σ59 σ68 from hJ)
      clear hJ Hs
      rw [fr_lookL (L := [(0, (pt br_0 or_0)), (2, (pt b1 0)), (3, (pt b13 0)), (27, (Sl a8 r3.1.2 c9)), (31, (Sl (some ⟨b67, 0, none⟩) ([r62.1] : List Int) 1))]) ⟨e0, e2, e3, e27, e31, trivial⟩]
      clear hoff hrel e0 e2 e3 e27 e31
      obtain ⟨xs69, hx70, h'⟩ := bind_some h
      clear h
      have h := h'; clear h'
      refine st_ex (ex_append H (i := 7) rfl Try.underlying24 Try.underlying24 ti3 rfl rfl (by decide) (H.own 0 rfl).rd hx70 hn0 rfl rfl) wn ?_
      rintro _ σ73 ⟨a71, c72, rfl, H, -⟩
      replace H : Hp S0 σ0 σ73 [Ch.own n0 n0 (Sl a71 xs69 c72) xs69, Ch.bx lor_0 br_0 or_0 [(Sl a65 r62.2.1 c66), (I r62.2.2)] prer_0 sufr_0, Ch.ro 0 (Sl a65 r62.2.1 c66) r62.2.1, Ch.bx n0 b13 0 [(Sl a56 xs54 c57), (Sl a8 r3.1.2 c9)] [] [], Ch.own n0 n0 (Sl a56 xs54 c57) xs54, Ch.bx n0 b1 0 [(.slice none 0 0), (.slice none 0 0)] [] []] := H.sel' [0, 2, 3, 5, 6, 8] rfl rfl
      refine st (v := (pt b13 1)) (rv_fieldAddr (off := 1) (ft := 24) Try.underlying26 rfl ti24 rfl rfl) ?_
      refine st_exS (ex_store_box (k := 1) (cs := [(Sl a56 xs54 c57), (Sl a8 r3.1.2 c9)]) (vs := [(Sl a71 xs69 c72)]) (cs' := [(Sl a56 xs54 c57), (Sl a71 xs69 c72)]) H (i := 3) rfl ti24 rfl rfl rfl rfl rfl (Nat.le_of_ble_eq_true rfl) (by simp [plain]) rfl) wn ?_
      rintro σ74 ⟨H, -⟩
      refine w_end ?_
      refine q_blk ?_
      obtain rfl := Option.some.inj h
      exact ⟨rfl, _, σ74, a65, c66, a56, c57, a71, c72, fr_join ⟨rfl, rfl, rfl, trivial⟩, rfl, H.sel' [2, 3, 0, 4, 1, 5] rfl rfl⟩
   ·replace h := bif_f hb43 h
    refine c_skip ?_
    refine q_blk ?_
    obtain rfl := Option.some.inj h
    exact ⟨rfl, _, σ21, a19, c20, a6, c7, a8, c9, fr_join ⟨rfl, rfl, rfl, trivial⟩, rfl, H.sel' [0, 1, 2, 3, 4, 5] rfl rfl⟩
 ·clear hj
  have h := h'
  clear h' H
  rintro e a w ⟨rfl, ρ, σ75, a76, c77, a78, c79, a80, c81, rfl, rfl, H⟩
  refine q_then ?_
  refine c_seq ?_
  refine rg ?_
  have hc82 := H.cells 2 rfl
  refine st (v := (.agg #[(Sl a78 o22.2.1 c79), (Sl a80 o22.2.2 c81)])) (rv_load (cs := [(Sl a78 o22.2.1 c79), (Sl a80 o22.2.2 c81)]) Try.underlying26 rfl ti26 rfl rfl hc82) ?_
  refine st_exS (ex_store_box (k := 0) (cs := [(.slice none 0 0), (.slice none 0 0)]) (vs := [(Sl a78 o22.2.1 c79), (Sl a80 o22.2.2 c81)]) (cs' := [(Sl a78 o22.2.1 c79), (Sl a80 o22.2.2 c81)]) H (i := 5) rfl ti26 rfl rfl rfl rfl rfl (Nat.le_of_ble_eq_true rfl) (by simp [plain]) rfl) wn ?_
  rintro σ83 ⟨H, -⟩
  refine w_end ?_
  refine q_then ?_
  refine c_ret ?_
  obtain rfl := Option.some.inj h
  exact fin_ret (v := (.agg #[(Sl a78 o22.2.1 c79), (Sl a80 o22.2.2 c81)])) (results_ok Try.results40 (res_cell rfl (run_cellRes (cs := [(Sl a78 o22.2.1 c79), (Sl a80 o22.2.2 c81)]) Try.underlying26 rfl ti26 rfl (H.cells 0 rfl)) res_nil) rfl) ⟨a78, c79, a80, c81, a76, c77, rfl, rfl⟩ (H.sel' [4, 5, 1, 2] rfl rfl)

theorem c_spec_newReader {code_0 : List UInt8} {acode_0 : Option Addr} {ccode_0 : Nat} {r : ((List UInt8) × Int)} (h : M.spec_newReader code_0 = some r) :
    Cal2 Try.prog 41 [(Sl acode_0 code_0 ccode_0)] [Ch.ro 0 (Sl acode_0 code_0 ccode_0) code_0] (fun n0 v L => ∃ (bz1 : Nat), ∃ (az2 : Option Addr), ∃ (cz3 : Nat), v = (pt bz1 0) ∧ L = [Ch.bx n0 bz1 0 [(Sl az2 r.1 cz3), (I r.2)] [] [], Ch.ro 0 (Sl az2 r.1 cz3) r.1]) := by
 refine cal2 (n := 11) Try.func41 rfl rfl rfl rfl ?_
 intro S0 σ0 n0 hn0 H
 unfold M.spec_newReader at h
 refine c_seq ?_
 refine rg ?_
 refine st (v := (.pointer none)) (rv_assign rfl) ?_
 refine w_end ?_
 refine q_then ?_
 refine c_seq ?_
 refine c_seq ?_
 refine rg ?_
 refine st (v := (Sl acode_0 code_0 ccode_0)) (rv_move rfl) ?_
 refine st (v := (I (code_0.length : Int))) (rv_len Try.underlying22 rfl) ?_
 refine st (v := (B (decide (2000 < (code_0.length : Int))))) (rv_gtr (a := (code_0.length : Int)) (b := 2000) rfl rfl) ?_
 refine w_end ?_
 refine q_then ?_
 obtain ⟨o1, hj, h'⟩ := bind_some h
 clear h
 refine c_cut (fun e a w => e = .normal ∧ ∃ (ρ : Nat → Value) (σ : St) (aj1 : Option Addr) (cj2 : Nat), a = fr 11 (updL ρ [(0, (Sl aj1 o1 cj2))]) ∧ w = σ.w ∧ Hp S0 σ0 σ [Ch.ro 0 (Sl aj1 o1 cj2) o1]) ?_ ?_
 ·clear h'
  rename _ = some o1 => h
  refine cd_cond (decide (2000 < (code_0.length : Int))) rfl (fun hb2 => ?_) (fun hb2 => ?_)
  ·replace h := bif_t hb2 h
   refine rg ?_
   refine st (v := (Sl acode_0 code_0 ccode_0)) (rv_move rfl) ?_
   obtain ⟨xs3, hx4, h'⟩ := bind_some h
   clear h
   have h := h'; clear h'
   obtain ⟨a5, c6, hs7, hR8⟩ := (H.ro 0 rfl).slice hx4
   replace H := H.add (d := Ch.ro 0 (Sl a5 xs3 c6) xs3) hR8 (fun _ h => h)
   clear hR8
   refine st (v := (Sl a5 xs3 c6)) (rv_slice_h Try.underlying22 ti5 hs7 rfl rfl) ?_
   refine st (v := (Sl a5 xs3 c6)) (rv_assign rfl) ?_
   refine w_end ?_
   obtain rfl := Option.some.inj h
   exact ⟨rfl, _, σ0, a5, c6, fr_join ⟨rfl, trivial⟩, rfl, H.sel' [0] rfl rfl⟩
  ·replace h := bif_f hb2 h
   refine c_skip ?_
   obtain rfl := Option.some.inj h
   exact ⟨rfl, _, σ0, acode_0, ccode_0, fr_join ⟨rfl, trivial⟩, rfl, H.sel' [0] rfl rfl⟩
 ·clear hj
  have h := h'
  clear h' H
  rintro e a w ⟨rfl, ρ, σ9, a10, c11, rfl, rfl, H⟩
  refine q_then ?_
  refine c_seq ?_
  refine rg ?_
  refine st (v := (Sl a10 o1 c11)) (rv_move rfl) ?_
  refine st (v := (.agg #[(Sl a10 o1 c11), (I 0)])) (rv_build (ps := [(0, (Sl a10 o1 c11))]) Try.underlying101 ti101 (bp101 Try.underlying101) rfl (by kernel_rfl)) ?_
  refine st_ex (ex_box (cs := [(Sl a10 o1 c11), (I 0)]) H hn0 rfl rfl) wn ?_
  rintro _ σ13 ⟨b12, rfl, H, -⟩
  refine st (v := (pt b12 0)) (rv_assign rfl) ?_
  refine w_end ?_
  refine q_then ?_
  refine c_ret ?_
  obtain rfl := Option.some.inj h
  exact fin_ret (v := (pt b12 0)) (results_ok Try.results41 (res_tmp (v := (pt b12 0)) rfl res_nil) rfl) ⟨b12, a10, c11, rfl, rfl⟩ (H.sel' [0, 1] rfl rfl)

theorem c_spec_historyTime {r_0 : (List UInt8) × Int} {h_1 : (List (Int × (Int × (List Int) × Int))) × (List Int)} {ar_0_0 : Option Addr} {cr_0_0 : Nat} {lor_0 br_0 or_0 : Nat} {prer_0 sufr_0 : List Value} {ah_1_0 : Option Addr} {ch_1_0 : Nat} {ah_1_1 : Option Addr} {ch_1_1 : Nat} {r : Int × ((List UInt8) × Int)} (h : M.spec_historyTime r_0 h_1 = some r) :
    Cal2 Try.prog 45 [(pt br_0 or_0), (.agg #[(Sl ah_1_0 h_1.1 ch_1_0), (Sl ah_1_1 h_1.2 ch_1_1)])] [Ch.bx lor_0 br_0 or_0 [(Sl ar_0_0 r_0.1 cr_0_0), (I r_0.2)] prer_0 sufr_0, Ch.ro 0 (Sl ar_0_0 r_0.1 cr_0_0) r_0.1, Ch.ro 0 (Sl ah_1_0 h_1.1 ch_1_0) h_1.1, Ch.ro 0 (Sl ah_1_1 h_1.2 ch_1_1) h_1.2] (fun n0 v L => ∃ (az1 : Option Addr), ∃ (cz2 : Nat), v = (I r.1) ∧ L = [Ch.bx lor_0 br_0 or_0 [(Sl az1 r.2.1 cz2), (I r.2.2)] prer_0 sufr_0, Ch.ro 0 (Sl az1 r.2.1 cz2) r.2.1]) := by
 refine cal2 (n := 30) Try.func45 rfl rfl rfl rfl ?_
 intro S0 σ0 n0 hn0 H
 unfold M.spec_historyTime at h
 refine c_seq ?_
 refine rg ?_
 refine st_ex (ex_box (cs := [(Sl ah_1_0 h_1.1 ch_1_0), (Sl ah_1_1 h_1.2 ch_1_1)]) H hn0 rfl rfl) wn ?_
 rintro _ σ2 ⟨b1, rfl, H, -⟩
 refine st (v := (I 0)) (rv_assign rfl) ?_
 refine w_end ?_
 refine q_then ?_
 refine c_seq ?_
 refine c_seq ?_
 obtain ⟨o3, hj, h'⟩ := bind_some h
 clear h
 refine c_cut (fun e a w => e = .normal ∧ ∃ (ρ : Nat → Value) (σ : St) (aj1 : Option Addr) (cj2 : Nat), a = fr 30 (updL ρ [(0, (pt br_0 or_0)), (3, (pt b1 0)), (13, (B o3.2))]) ∧ w = σ.w ∧ Hp S0 σ0 σ [Ch.bx lor_0 br_0 or_0 [(Sl aj1 o3.1.1 cj2), (I o3.1.2)] prer_0 sufr_0, Ch.ro 0 (Sl aj1 o3.1.1 cj2) o3.1.1, Ch.ro 0 (Sl ah_1_0 h_1.1 ch_1_0) h_1.1, Ch.ro 0 (Sl ah_1_1 h_1.2 ch_1_1) h_1.2, Ch.bx n0 b1 0 [(Sl ah_1_0 h_1.1 ch_1_0), (Sl ah_1_1 h_1.2 ch_1_1)] [] []]) ?_ ?_
 ·clear h'
  rename _ = some o3 => h
  refine rg ?_
  refine st (v := (pt b1 1)) (rv_fieldAddr (off := 1) (ft := 24) Try.underlying26 rfl ti24 rfl rfl) ?_
  have hc4 := H.cell (u := (Sl ah_1_1 h_1.2 ch_1_1)) (o' := 1) 0 1 rfl rfl rfl
  refine st (v := (Sl ah_1_1 h_1.2 ch_1_1)) (rv_load1 Try.underlying24 rfl rfl hc4) ?_
  refine st (v := (I (h_1.2.length : Int))) (rv_len Try.underlying24 rfl) ?_
  refine st (v := (B (decide (0 < (h_1.2.length : Int))))) (rv_gtr (a := (h_1.2.length : Int)) (b := 0) rfl rfl) ?_
  refine st (v := (B (decide (0 < (h_1.2.length : Int))))) (rv_move rfl) ?_
  rcases Bool.eq_false_or_eq_true (decide (0 < (h_1.2.length : Int))) with hb5 | hb5
  ·replace h := bif_t hb5 h
   refine st_g (v := (pt br_0 or_0)) (congrArg some hb5) (rv_move rfl) ?_
   obtain ⟨r6, hx7, h'⟩ := bind_some h
   clear h
   have h := h'; clear h'
   have hc8 := c_spec_reader_pick (lor_0 := lor_0) (br_0 := br_0) (or_0 := or_0) (prer_0 := prer_0) (sufr_0 := sufr_0) (ar_0_0 := ar_0_0) (cr_0_0 := cr_0_0) hx7
   refine st_call (cx_call hc8 (ent_f hc8.fn rfl) hn0 (show Hp S0 σ0 _ ([Ch.bx lor_0 br_0 or_0 [(Sl ar_0_0 r_0.1 cr_0_0), (I r_0.2)] prer_0 sufr_0, Ch.ro 0 (Sl ar_0_0 r_0.1 cr_0_0) r_0.1] ++ [Ch.bx n0 b1 0 [(Sl ah_1_0 h_1.1 ch_1_0), (Sl ah_1_1 h_1.2 ch_1_1)] [] [], Ch.ro 0 (Sl ar_0_0 r_0.1 cr_0_0) r_0.1, Ch.ro 0 (Sl ah_1_0 h_1.1 ch_1_0) h_1.1, Ch.ro 0 (Sl ah_1_1 h_1.2 ch_1_1) h_1.2]) from (H.sel' [1, 2, 0, 2, 3, 4] rfl rfl))) (wanted_yes rfl (by exact (congrArg some hb5))) ?_
   rintro _ σ11 ⟨_, ⟨a9, c10, rfl, rfl⟩, H, -⟩
   replace H : Hp S0 σ0 σ11 [Ch.bx lor_0 br_0 or_0 [(Sl a9 r6.2.1 c10), (I r6.2.2)] prer_0 sufr_0, Ch.ro 0 (Sl a9 r6.2.1 c10) r6.2.1, Ch.bx n0 b1 0 [(Sl ah_1_0 h_1.1 ch_1_0), (Sl ah_1_1 h_1.2 ch_1_1)] [] [], Ch.ro 0 (Sl ar_0_0 r_0.1 cr_0_0) r_0.1, Ch.ro 0 (Sl ah_1_0 h_1.1 ch_1_0) h_1.1, Ch.ro 0 (Sl ah_1_1 h_1.2 ch_1_1) h_1.2] := H
   refine st_g (v := (B (decide (0 < r6.1)))) (congrArg some hb5) (rv_gtr (a := r6.1) (b := 0) rfl rfl) ?_
   refine st (v := (B (decide (0 < r6.1)))) (rv_pick_t (congrArg B hb5) rfl) ?_
   refine w_end ?_
   obtain rfl := Option.some.inj h
   exact ⟨rfl, _, σ11, a9, c10, fr_join ⟨rfl, rfl, rfl, trivial⟩, rfl, H.sel' [0, 1, 4, 5, 2] rfl rfl⟩
  ·replace h := bif_f hb5 h
   refine st_skip (congrArg some hb5) ?_
   refine st_skip (congrArg some hb5) ?_
   refine st_skip (congrArg some hb5) ?_
   refine st (v := (B false)) (rv_pick_f (congrArg B hb5) rfl) ?_
   refine w_end ?_
   obtain rfl := Option.some.inj h
   exact ⟨rfl, _, σ2, ar_0_0, cr_0_0, fr_join ⟨rfl, rfl, rfl, trivial⟩, rfl, H.sel' [1, 2, 3, 4, 0] rfl rfl⟩
 ·clear hj
  have h := h'
  clear h' H
  rintro e a w ⟨rfl, ρ, σ12, a13, c14, rfl, rfl, H⟩
  refine q_then ?_
  refine cd_cond o3.2 rfl (fun hb15 => ?_) (fun hb15 => ?_)
  ·replace h := bif_t hb15 h
   refine c_seq ?_
   have hc16 := H.cell (u := (Sl ah_1_1 h_1.2 ch_1_1)) (o' := 1) 4 1 rfl rfl rfl
   have hc17 := H.cell (u := (Sl ah_1_1 h_1.2 ch_1_1)) (o' := 1) 4 1 rfl rfl rfl
   obtain ⟨r18, hx19, h'⟩ := bind_some h
   clear h
   have h := h'; clear h'
   have hc20 := c_spec_reader_pick (lor_0 := lor_0) (br_0 := br_0) (or_0 := or_0) (prer_0 := prer_0) (sufr_0 := sufr_0) (ar_0_0 := a13) (cr_0_0 := c14) hx19
   obtain ⟨x23, hx24, h'⟩ := bind_some h
   clear h
   have h := h'; clear h'
   obtain ⟨b26, o27, hi25, -⟩ := (H.ro 3 rfl).ix hx24
   have hc28 := ((H.ro 3 rfl).at hx24 hi25).int
   obtain ⟨r30, hx31, h'⟩ := bind_some h
   clear h
   have h := h'; clear h'
   have hc32 := fun (a21 : Option Addr) (c22 : Nat) (b29 : Nat) => c_spec_reader_one (lor_0 := lor_0) (br_0 := br_0) (or_0 := or_0) (prer_0 := prer_0) (sufr_0 := sufr_0) (ar_0_0 := a21) (cr_0_0 := c22) (alist_1 := (some ⟨b29, 0, none⟩)) (clist_1 := 4) hx31
   have Hs := H
   refine rg2 (σ := σ12) (Nm := (Option Addr) × (Nat) × (Nat) × (Option Addr) × (Nat)) 12 [6, 10, 11] [[false, false, false], [true, false, false], [false, true, false], [true, true, false], [true, true, true]] [[(0, 0), (1, 1), (2, 2), (3, 3), (4, 4)], [(0, 0), (1, 1), (2, 2), (3, 3), (4, 4)], [(0, 0), (2, 2)], [(0, 0), (2, 2)], [(0, 0), (2, 2)], [(0, 0), (2, 2)], [(0, 1), (2, 3)], [(1, 1), (3, 3), (4, 4)], [(1, 1), (3, 3), (4, 4)], [(0, 0), (1, 1), (2, 2), (3, 3)], [(0, 2), (1, 3)], [(3, 4)]] 4 [fun ((a21, c22, b29, a33, c34) : (Option Addr) × (Nat) × (Nat) × (Option Addr) × (Nat)) => fun σm => Hp S0 σ0 σm [Ch.bx lor_0 br_0 or_0 [(Sl a13 o3.1.1 c14), (I o3.1.2)] prer_0 sufr_0, Ch.ro 0 (Sl a13 o3.1.1 c14) o3.1.1, Ch.ro 0 (Sl ah_1_0 h_1.1 ch_1_0) h_1.1, Ch.ro 0 (Sl ah_1_1 h_1.2 ch_1_1) h_1.2, Ch.bx n0 b1 0 [(Sl ah_1_0 h_1.1 ch_1_0), (Sl ah_1_1 h_1.2 ch_1_1)] [] []] ∧ Md (cov []) σ12 σm, fun ((a21, c22, b29, a33, c34) : (Option Addr) × (Nat) × (Nat) × (Option Addr) × (Nat)) => fun σm => Hp S0 σ0 σm [Ch.bx lor_0 br_0 or_0 [(Sl a21 r18.2.1 c22), (I r18.2.2)] prer_0 sufr_0, Ch.ro 0 (Sl a21 r18.2.1 c22) r18.2.1, Ch.ro 0 (Sl a13 o3.1.1 c14) o3.1.1, Ch.ro 0 (Sl ah_1_0 h_1.1 ch_1_0) h_1.1, Ch.ro 0 (Sl ah_1_1 h_1.2 ch_1_1) h_1.2, Ch.bx n0 b1 0 [(Sl ah_1_0 h_1.1 ch_1_0), (Sl ah_1_1 h_1.2 ch_1_1)] [] []] ∧ Md (fun i => (cov []) i ∨ (cov [Ch.bx lor_0 br_0 or_0 [(Sl a13 o3.1.1 c14), (I o3.1.2)] prer_0 sufr_0, Ch.ro 0 (Sl a13 o3.1.1 c14) o3.1.1]) i) σ12 σm, fun ((a21, c22, b29, a33, c34) : (Option Addr) × (Nat) × (Nat) × (Option Addr) × (Nat)) => fun σm => Hp S0 σ0 σm [Ch.ro 0 (Sl (some ⟨b29, 0, none⟩) ([0, 0, -1, 1] : List Int) 4) ([0, 0, -1, 1] : List Int), Ch.bx lor_0 br_0 or_0 [(Sl a13 o3.1.1 c14), (I o3.1.2)] prer_0 sufr_0, Ch.ro 0 (Sl a13 o3.1.1 c14) o3.1.1, Ch.ro 0 (Sl ah_1_0 h_1.1 ch_1_0) h_1.1, Ch.ro 0 (Sl ah_1_1 h_1.2 ch_1_1) h_1.2, Ch.bx n0 b1 0 [(Sl ah_1_0 h_1.1 ch_1_0), (Sl ah_1_1 h_1.2 ch_1_1)] [] []] ∧ Md (fun i => (cov []) i ∨ (fun i => (cov []) i ∨ (fun b => blk (Sl (some ⟨b29, 0, none⟩) ([0, 0, -1, 1] : List Int) 4) = some b) i) i) σ12 σm, fun ((a21, c22, b29, a33, c34) : (Option Addr) × (Nat) × (Nat) × (Option Addr) × (Nat)) => fun σm => Hp S0 σ0 σm [Ch.ro 0 (Sl (some ⟨b29, 0, none⟩) ([0, 0, -1, 1] : List Int) 4) ([0, 0, -1, 1] : List Int), Ch.bx lor_0 br_0 or_0 [(Sl a21 r18.2.1 c22), (I r18.2.2)] prer_0 sufr_0, Ch.ro 0 (Sl a21 r18.2.1 c22) r18.2.1, Ch.ro 0 (Sl a13 o3.1.1 c14) o3.1.1, Ch.ro 0 (Sl ah_1_0 h_1.1 ch_1_0) h_1.1, Ch.ro 0 (Sl ah_1_1 h_1.2 ch_1_1) h_1.2, Ch.bx n0 b1 0 [(Sl ah_1_0 h_1.1 ch_1_0), (Sl ah_1_1 h_1.2 ch_1_1)] [] []] ∧ Md (fun i => (fun i => (cov []) i ∨ (cov [Ch.bx lor_0 br_0 or_0 [(Sl a13 o3.1.1 c14), (I o3.1.2)] prer_0 sufr_0, Ch.ro 0 (Sl a13 o3.1.1 c14) o3.1.1]) i) i ∨ (fun i => (cov []) i ∨ (fun b => blk (Sl (some ⟨b29, 0, none⟩) ([0, 0, -1, 1] : List Int) 4) = some b) i) i) σ12 σm, fun ((a21, c22, b29, a33, c34) : (Option Addr) × (Nat) × (Nat) × (Option Addr) × (Nat)) => fun σm => Hp S0 σ0 σm [Ch.bx lor_0 br_0 or_0 [(Sl a33 r30.2.1 c34), (I r30.2.2)] prer_0 sufr_0, Ch.ro 0 (Sl a33 r30.2.1 c34) r30.2.1, Ch.ro 0 (Sl (some ⟨b29, 0, none⟩) ([0, 0, -1, 1] : List Int) 4) ([0, 0, -1, 1] : List Int), Ch.ro 0 (Sl a21 r18.2.1 c22) r18.2.1, Ch.ro 0 (Sl a13 o3.1.1 c14) o3.1.1, Ch.ro 0 (Sl ah_1_0 h_1.1 ch_1_0) h_1.1, Ch.ro 0 (Sl ah_1_1 h_1.2 ch_1_1) h_1.2, Ch.bx n0 b1 0 [(Sl ah_1_0 h_1.1 ch_1_0), (Sl ah_1_1 h_1.2 ch_1_1)] [] []] ∧ Md (fun i => (fun i => (fun i => (cov []) i ∨ (cov [Ch.bx lor_0 br_0 or_0 [(Sl a13 o3.1.1 c14), (I o3.1.2)] prer_0 sufr_0, Ch.ro 0 (Sl a13 o3.1.1 c14) o3.1.1]) i) i ∨ (fun i => (cov []) i ∨ (fun b => blk (Sl (some ⟨b29, 0, none⟩) ([0, 0, -1, 1] : List Int) 4) = some b) i) i) i ∨ (cov [Ch.bx lor_0 br_0 or_0 [(Sl a21 r18.2.1 c22), (I r18.2.2)] prer_0 sufr_0, Ch.ro 0 (Sl a21 r18.2.1 c22) r18.2.1, Ch.ro 0 (Sl (some ⟨b29, 0, none⟩) ([0, 0, -1, 1] : List Int) 4) ([0, 0, -1, 1] : List Int)]) i) σ12 σm] [fun ((a21, c22, b29, a33, c34) : (Option Addr) × (Nat) × (Nat) × (Option Addr) × (Nat)) => (pt b1 1), fun ((a21, c22, b29, a33, c34) : (Option Addr) × (Nat) × (Nat) × (Option Addr) × (Nat)) => (Sl ah_1_1 h_1.2 ch_1_1), fun ((a21, c22, b29, a33, c34) : (Option Addr) × (Nat) × (Nat) × (Option Addr) × (Nat)) => (pt br_0 or_0), fun ((a21, c22, b29, a33, c34) : (Option Addr) × (Nat) × (Nat) × (Option Addr) × (Nat)) => (pt b1 1), fun ((a21, c22, b29, a33, c34) : (Option Addr) × (Nat) × (Nat) × (Option Addr) × (Nat)) => (Sl ah_1_1 h_1.2 ch_1_1), fun ((a21, c22, b29, a33, c34) : (Option Addr) × (Nat) × (Nat) × (Option Addr) × (Nat)) => (I (h_1.2.length : Int)), fun ((a21, c22, b29, a33, c34) : (Option Addr) × (Nat) × (Nat) × (Option Addr) × (Nat)) => (I r18.1), fun ((a21, c22, b29, a33, c34) : (Option Addr) × (Nat) × (Nat) × (Option Addr) × (Nat)) => (pt b26 o27), fun ((a21, c22, b29, a33, c34) : (Option Addr) × (Nat) × (Nat) × (Option Addr) × (Nat)) => (I x23), fun ((a21, c22, b29, a33, c34) : (Option Addr) × (Nat) × (Nat) × (Option Addr) × (Nat)) => (pt br_0 or_0), fun ((a21, c22, b29, a33, c34) : (Option Addr) × (Nat) × (Nat) × (Option Addr) × (Nat)) => (Sl (some ⟨b29, 0, none⟩) ([0, 0, -1, 1] : List Int) 4), fun ((a21, c22, b29, a33, c34) : (Option Addr) × (Nat) × (Nat) × (Option Addr) × (Nat)) => (I r30.1)] (none, 0, 0, none, 0) (by kernel_rfl) (by kernel_rfl) ?_ ?_ ?_
   ·intro σm m0
    exact ⟨H.grow (m0.mono fun _ h => h.elim), m0⟩
   ·refine ac rfl (by
      intro k; rintro ⟨a21, c22, b29, a33, c34⟩ ρ σm hJ hoff hdep
      have e3 := look_off (N := 30) (hoff 3 rfl) rfl
      exact dp_v (v := (pt b1 1)) wn (rv_fieldAddr (off := 1) (ft := 24) Try.underlying26 rfl ti24 rfl e3) rfl hJ) ?_
    refine all_cons (by
      refine ⟨?_, ?_⟩
      ·rintro ⟨a21, c22, b29, a33, c34⟩ ρ σm hJ hoff hdep
       have e14 := hdep 0 rfl rfl 14 rfl
       obtain ⟨H, m⟩ := id hJ
       have hc16 := H.cell (u := (Sl ah_1_1 h_1.2 ch_1_1)) (o' := 1) 4 1 rfl rfl rfl
       exact dp_v (v := (Sl ah_1_1 h_1.2 ch_1_1)) wn (rv_load1 Try.underlying24 rfl e14 hc16) rfl hJ
      refine ⟨?_, ?_⟩
      ·rintro ⟨a21, c22, b29, a33, c34⟩ ρ σm hJ hoff hdep
       have e14 := hdep 0 rfl rfl 14 rfl
       obtain ⟨H, m⟩ := id hJ
       have hc16 := H.cell (u := (Sl ah_1_1 h_1.2 ch_1_1)) (o' := 1) 5 1 rfl rfl rfl
       exact dp_v (v := (Sl ah_1_1 h_1.2 ch_1_1)) wn (rv_load1 Try.underlying24 rfl e14 hc16) rfl hJ
      refine ⟨?_, ?_⟩
      ·rintro ⟨a21, c22, b29, a33, c34⟩ ρ σm hJ hoff hdep
       have e14 := hdep 0 rfl rfl 14 rfl
       obtain ⟨H, m⟩ := id hJ
       have hc16 := H.cell (u := (Sl ah_1_1 h_1.2 ch_1_1)) (o' := 1) 5 1 rfl rfl rfl
       exact dp_v (v := (Sl ah_1_1 h_1.2 ch_1_1)) wn (rv_load1 Try.underlying24 rfl e14 hc16) rfl hJ
      refine ⟨?_, ?_⟩
      ·rintro ⟨a21, c22, b29, a33, c34⟩ ρ σm hJ hoff hdep
       have e14 := hdep 0 rfl rfl 14 rfl
       obtain ⟨H, m⟩ := id hJ
       have hc16 := H.cell (u := (Sl ah_1_1 h_1.2 ch_1_1)) (o' := 1) 6 1 rfl rfl rfl
       exact dp_v (v := (Sl ah_1_1 h_1.2 ch_1_1)) wn (rv_load1 Try.underlying24 rfl e14 hc16) rfl hJ
      refine ⟨?_, ?_⟩
      ·rintro ⟨a21, c22, b29, a33, c34⟩ ρ σm hJ hoff hdep
       have e14 := hdep 0 rfl rfl 14 rfl
       obtain ⟨H, m⟩ := id hJ
       have hc16 := H.cell (u := (Sl ah_1_1 h_1.2 ch_1_1)) (o' := 1) 7 1 rfl rfl rfl
       exact dp_v (v := (Sl ah_1_1 h_1.2 ch_1_1)) wn (rv_load1 Try.underlying24 rfl e14 hc16) rfl hJ
      trivial) ?_
    refine ac rfl (by
      intro k; rintro ⟨a21, c22, b29, a33, c34⟩ ρ σm hJ hoff hdep
      have e0 := look_off (N := 30) (hoff 0 rfl) rfl
      exact dp_v (v := (pt br_0 or_0)) wn (rv_move e0) rfl hJ) ?_
    refine ac rfl (by
      intro k; rintro ⟨a21, c22, b29, a33, c34⟩ ρ σm hJ hoff hdep
      have e3 := look_off (N := 30) (hoff 3 rfl) rfl
      exact dp_v (v := (pt b1 1)) wn (rv_fieldAddr (off := 1) (ft := 24) Try.underlying26 rfl ti24 rfl e3) rfl hJ) ?_
    refine all_cons (by
      refine ⟨?_, ?_⟩
      ·rintro ⟨a21, c22, b29, a33, c34⟩ ρ σm hJ hoff hdep
       have e17 := hdep 3 rfl rfl 17 rfl
       obtain ⟨H, m⟩ := id hJ
       have hc17 := H.cell (u := (Sl ah_1_1 h_1.2 ch_1_1)) (o' := 1) 4 1 rfl rfl rfl
       exact dp_v (v := (Sl ah_1_1 h_1.2 ch_1_1)) wn (rv_load1 Try.underlying24 rfl e17 hc17) rfl hJ
      refine ⟨?_, ?_⟩
      ·rintro ⟨a21, c22, b29, a33, c34⟩ ρ σm hJ hoff hdep
       have e17 := hdep 3 rfl rfl 17 rfl
       obtain ⟨H, m⟩ := id hJ
       have hc17 := H.cell (u := (Sl ah_1_1 h_1.2 ch_1_1)) (o' := 1) 5 1 rfl rfl rfl
       exact dp_v (v := (Sl ah_1_1 h_1.2 ch_1_1)) wn (rv_load1 Try.underlying24 rfl e17 hc17) rfl hJ
      trivial) ?_
    refine ac rfl (by
      intro k; rintro ⟨a21, c22, b29, a33, c34⟩ ρ σm hJ hoff hdep
      have e18 := hdep 4 rfl rfl 18 rfl
      exact dp_v (v := (I (h_1.2.length : Int))) wn (rv_len Try.underlying24 e18) rfl hJ) ?_
    refine all_cons (by
      refine ⟨?_, ?_⟩
      ·rintro ⟨a21, c22, b29, a33, c34⟩ ρ σm hJ hoff hdep
       have e16 : look 30 ρ 16 = (pt br_0 or_0) := hdep 2 rfl rfl 16 rfl
       have e19 : look 30 ρ 19 = (I (h_1.2.length : Int)) := hdep 5 rfl rfl 19 rfl
       obtain ⟨H, m⟩ := id hJ
       refine dp_cx wn (cx_call hc20 (ent_f hc20.fn (by show [look 30 ρ 16, look 30 ρ 19] = _; rw [e16, e19])) hn0 (show Hp S0 σ0 _ ([Ch.bx lor_0 br_0 or_0 [(Sl a13 o3.1.1 c14), (I o3.1.2)] prer_0 sufr_0, Ch.ro 0 (Sl a13 o3.1.1 c14) o3.1.1] ++ [Ch.ro 0 (Sl a13 o3.1.1 c14) o3.1.1, Ch.ro 0 (Sl ah_1_0 h_1.1 ch_1_0) h_1.1, Ch.ro 0 (Sl ah_1_1 h_1.2 ch_1_1) h_1.2, Ch.bx n0 b1 0 [(Sl ah_1_0 h_1.1 ch_1_0), (Sl ah_1_1 h_1.2 ch_1_1)] [] []]) from (H.sel' [0, 1, 1, 2, 3, 4] rfl rfl))) ?_
       rintro _ σq ⟨_, ⟨a21x, c22x, rfl, rfl⟩, H2, m2⟩
       exact ⟨_, (a21x, c22x, b29, a33, c34), rfl, rfl, ⟨H2.sel' [0, 1, 2, 3, 4, 5] rfl rfl, m.comp m2⟩, stab [0, 1, 2, 3, 4, 5, 9, 10] (by kernel_rfl) ⟨rfl, rfl, rfl, rfl, rfl, rfl, rfl, rfl, trivial⟩⟩
      refine ⟨?_, ?_⟩
      ·rintro ⟨a21, c22, b29, a33, c34⟩ ρ σm hJ hoff hdep
       have e16 : look 30 ρ 16 = (pt br_0 or_0) := hdep 2 rfl rfl 16 rfl
       have e19 : look 30 ρ 19 = (I (h_1.2.length : Int)) := hdep 5 rfl rfl 19 rfl
       obtain ⟨H, m⟩ := id hJ
       refine dp_cx wn (cx_call hc20 (ent_f hc20.fn (by show [look 30 ρ 16, look 30 ρ 19] = _; rw [e16, e19])) hn0 (show Hp S0 σ0 _ ([Ch.bx lor_0 br_0 or_0 [(Sl a13 o3.1.1 c14), (I o3.1.2)] prer_0 sufr_0, Ch.ro 0 (Sl a13 o3.1.1 c14) o3.1.1] ++ [Ch.ro 0 (Sl (some ⟨b29, 0, none⟩) ([0, 0, -1, 1] : List Int) 4) ([0, 0, -1, 1] : List Int), Ch.ro 0 (Sl a13 o3.1.1 c14) o3.1.1, Ch.ro 0 (Sl ah_1_0 h_1.1 ch_1_0) h_1.1, Ch.ro 0 (Sl ah_1_1 h_1.2 ch_1_1) h_1.2, Ch.bx n0 b1 0 [(Sl ah_1_0 h_1.1 ch_1_0), (Sl ah_1_1 h_1.2 ch_1_1)] [] []]) from (H.sel' [1, 2, 0, 2, 3, 4, 5] rfl rfl))) ?_
       rintro _ σq ⟨_, ⟨a21x, c22x, rfl, rfl⟩, H2, m2⟩
       exact ⟨_, (a21x, c22x, b29, a33, c34), rfl, rfl, ⟨H2.sel' [2, 0, 1, 3, 4, 5, 6] rfl rfl, (m.comp m2).mono (fun i h => Or.elim h (fun h => Or.elim h (fun h => (Or.inl (Or.inl h))) (fun h => (Or.inr h))) (fun h => (Or.inl (Or.inr h))))⟩, stab [0, 1, 2, 3, 4, 5, 9, 10] (by kernel_rfl) ⟨rfl, rfl, rfl, rfl, rfl, rfl, rfl, rfl, trivial⟩⟩
      trivial) ?_
    refine ac rfl (by
      intro k; rintro ⟨a21, c22, b29, a33, c34⟩ ρ σm hJ hoff hdep
      have e15 := hdep 1 rfl rfl 15 rfl
      have e20 := hdep 6 rfl rfl 20 rfl
      exact dp_v (v := (pt b26 o27)) wn (rv_ix Try.underlying24 ti3 e15 e20 hi25) rfl hJ) ?_
    refine all_cons (by
      refine ⟨?_, ?_⟩
      ·rintro ⟨a21, c22, b29, a33, c34⟩ ρ σm hJ hoff hdep
       have e21 := hdep 7 rfl rfl 21 rfl
       obtain ⟨H, m⟩ := id hJ
       replace hc28 := (Hs.ro 3 rfl).hmd hx24 hi25 (k := 0) (by decide) hc28 m
       exact dp_v (v := (I x23)) wn (rv_load1 Try.underlying3 rfl e21 hc28) rfl hJ
      refine ⟨?_, ?_⟩
      ·rintro ⟨a21, c22, b29, a33, c34⟩ ρ σm hJ hoff hdep
       have e21 := hdep 7 rfl rfl 21 rfl
       obtain ⟨H, m⟩ := id hJ
       replace hc28 := (Hs.ro 3 rfl).hmd hx24 hi25 (k := 0) (by decide) hc28 m
       exact dp_v (v := (I x23)) wn (rv_load1 Try.underlying3 rfl e21 hc28) rfl hJ
      refine ⟨?_, ?_⟩
      ·rintro ⟨a21, c22, b29, a33, c34⟩ ρ σm hJ hoff hdep
       have e21 := hdep 7 rfl rfl 21 rfl
       obtain ⟨H, m⟩ := id hJ
       replace hc28 := (Hs.ro 3 rfl).hmd hx24 hi25 (k := 0) (by decide) hc28 m
       exact dp_v (v := (I x23)) wn (rv_load1 Try.underlying3 rfl e21 hc28) rfl hJ
      trivial) ?_
    refine ac rfl (by
      intro k; rintro ⟨a21, c22, b29, a33, c34⟩ ρ σm hJ hoff hdep
      have e0 := look_off (N := 30) (hoff 0 rfl) rfl
      exact dp_v (v := (pt br_0 or_0)) wn (rv_move e0) rfl hJ) ?_
    refine all_cons (by
      refine ⟨?_, ?_⟩
      ·rintro ⟨a21, c22, b29, a33, c34⟩ ρ σm hJ hoff hdep
       obtain ⟨H, m⟩ := id hJ
       refine dp_ex wn (ex_buildSlice (el := 0) (xs := ([0, 0, -1, 1] : List Int)) (ps := [(0, (I 0)), (1, (I 0)), (2, (I (-1))), (3, (I 1))]) (cs := [(I 0), (I 0), (I (-1)), (I 1)]) H hn0 Try.underlying24 ti3 rfl rfl (by kernel_rfl) (.cons (c := [(I 0)]) rfl (.cons (c := [(I 0)]) rfl (.cons (c := [(I (-1))]) rfl (.cons (c := [(I 1)]) rfl (.nil))))) rfl) ?_
       rintro _ σq ⟨b29x, rfl, H2, m2⟩
       obtain ⟨σr0, hwr0, H2, mr0⟩ := H2.pub 0 rfl (Nat.zero_le _)
       exact ⟨_, (a21, c22, b29x, a33, c34), hwr0, rfl, ⟨H2.sel' [0, 1, 2, 3, 4, 5] rfl rfl, m.comp (m2.comp mr0)⟩, stab [0, 1, 2, 3, 4, 5, 6, 7, 8, 9] (by kernel_rfl) ⟨rfl, rfl, rfl, rfl, rfl, rfl, rfl, rfl, rfl, rfl, trivial⟩⟩
      refine ⟨?_, ?_⟩
      ·rintro ⟨a21, c22, b29, a33, c34⟩ ρ σm hJ hoff hdep
       obtain ⟨H, m⟩ := id hJ
       refine dp_ex wn (ex_buildSlice (el := 0) (xs := ([0, 0, -1, 1] : List Int)) (ps := [(0, (I 0)), (1, (I 0)), (2, (I (-1))), (3, (I 1))]) (cs := [(I 0), (I 0), (I (-1)), (I 1)]) H hn0 Try.underlying24 ti3 rfl rfl (by kernel_rfl) (.cons (c := [(I 0)]) rfl (.cons (c := [(I 0)]) rfl (.cons (c := [(I (-1))]) rfl (.cons (c := [(I 1)]) rfl (.nil))))) rfl) ?_
       rintro _ σq ⟨b29x, rfl, H2, m2⟩
       obtain ⟨σr0, hwr0, H2, mr0⟩ := H2.pub 0 rfl (Nat.zero_le _)
       exact ⟨_, (a21, c22, b29x, a33, c34), hwr0, rfl, ⟨H2.sel' [0, 1, 2, 3, 4, 5, 6] rfl rfl, m.comp (m2.comp mr0)⟩, stab [0, 1, 2, 3, 4, 5, 6, 7, 8, 9] (by kernel_rfl) ⟨rfl, rfl, rfl, rfl, rfl, rfl, rfl, rfl, rfl, rfl, trivial⟩⟩
      trivial) ?_
    refine all_cons (by
      refine ⟨?_, ?_⟩
      ·rintro ⟨a21, c22, b29, a33, c34⟩ ρ σm hJ hoff hdep
       have e23 : look 30 ρ 23 = (pt br_0 or_0) := hdep 9 rfl rfl 23 rfl
       have e24 : look 30 ρ 24 = (Sl (some ⟨b29, 0, none⟩) ([0, 0, -1, 1] : List Int) 4) := hdep 10 rfl rfl 24 rfl
       obtain ⟨H, m⟩ := id hJ
       refine dp_cx wn (cx_call (hc32 a21 c22 b29) (ent_f (hc32 a21 c22 b29).fn (by show [look 30 ρ 23, look 30 ρ 24] = _; rw [e23, e24])) hn0 (show Hp S0 σ0 _ ([Ch.bx lor_0 br_0 or_0 [(Sl a21 r18.2.1 c22), (I r18.2.2)] prer_0 sufr_0, Ch.ro 0 (Sl a21 r18.2.1 c22) r18.2.1, Ch.ro 0 (Sl (some ⟨b29, 0, none⟩) ([0, 0, -1, 1] : List Int) 4) ([0, 0, -1, 1] : List Int)] ++ [Ch.ro 0 (Sl (some ⟨b29, 0, none⟩) ([0, 0, -1, 1] : List Int) 4) ([0, 0, -1, 1] : List Int), Ch.ro 0 (Sl a21 r18.2.1 c22) r18.2.1, Ch.ro 0 (Sl a13 o3.1.1 c14) o3.1.1, Ch.ro 0 (Sl ah_1_0 h_1.1 ch_1_0) h_1.1, Ch.ro 0 (Sl ah_1_1 h_1.2 ch_1_1) h_1.2, Ch.bx n0 b1 0 [(Sl ah_1_0 h_1.1 ch_1_0), (Sl ah_1_1 h_1.2 ch_1_1)] [] []]) from (H.sel' [1, 2, 0, 0, 2, 3, 4, 5, 6] rfl rfl))) ?_
       rintro _ σq ⟨_, ⟨a33x, c34x, rfl, rfl⟩, H2, m2⟩
       exact ⟨_, (a21, c22, b29, a33x, c34x), rfl, rfl, ⟨H2.sel' [0, 1, 2, 3, 4, 5, 6, 7] rfl rfl, m.comp m2⟩, stab [0, 1, 2, 3, 4, 5, 6, 7, 8, 9, 10] (by kernel_rfl) ⟨rfl, rfl, rfl, rfl, rfl, rfl, rfl, rfl, rfl, rfl, rfl, trivial⟩⟩
      trivial) ?_
    exact all_nil
   ·rintro ⟨a21, c22, b29, a33, c34⟩ ρ σ35 hJ hoff hrel
    have e0 := look_off (N := 30) (hoff 0 rfl) rfl
    have e22 := hrel 8 rfl 22 rfl
    have e25 := hrel 11 rfl 25 rfl
    obtain ⟨H, -⟩ := (show Hp S0 σ0 σ35 [Ch.bx lor_0 br_0 or_0 [(Sl a33 r30.2.1 c34), (I r30.2.2)] prer_0 sufr_0, Ch.ro 0 (Sl a33 r30.2.1 c34) r30.2.1, Ch.ro 0 (Sl (some ⟨b29, 0, none⟩) ([0, 0, -1, 1] : List Int) 4) ([0, 0, -1, 1] : List Int), Ch.ro 0 (Sl a21 r18.2.1 c22) r18.2.1, Ch.ro 0 (Sl a13 o3.1.1 c14) o3.1.1, Ch.ro 0 (Sl ah_1_0 h_1.1 ch_1_0) h_1.1, Ch.ro 0 (Sl ah_1_1 h_1.2 ch_1_1) h_1.2, Ch.bx n0 b1 0 [(Sl ah_1_0 h_1.1 ch_1_0), (Sl ah_1_1 h_1.2 ch_1_1)] [] []] ∧ Md (fun i => (fun i => (fun i => (cov []) i ∨ (cov [Ch.bx lor_0 br_0 or_0 [(Sl a13 o3.1.1 c14), (I o3.1.2)] prer_0 sufr_0, Ch.ro 0 (Sl a13 o3.1.1 c14) o3.1.1]) i) i ∨ (fun i => (cov []) i ∨ (fun b => blk (Sl (some ⟨b29, 0, none⟩) ([0, 0, -1, 1] : List Int) 4) = some b) i) i) i ∨ (cov [Ch.bx lor_0 br_0 or_0 [(Sl a21 r18.2.1 c22), (I r18.2.2)] prer_0 sufr_0, Ch.ro 0 (Sl a21 r18.2.1 c22) r18.2.1, Ch.ro 0 (Sl (some ⟨b29, 0, none⟩) ([0, 0, -1, 1] : List Int) 4) ([0, 0, -1, 1] : List Int)]) i) σ12 σ35 from hJ)
    clear hJ Hs
    rw [fr_lookL (L := [(0, (pt br_0 or_0)), (22, (I x23)), (25, (I r30.1))]) ⟨e0, e22, e25, trivial⟩]
    clear hoff hrel e0 e22 e25
    refine st (v := (I (w64 (x23 + r30.1)))) (rv_add (a := x23) (b := r30.1) rfl rfl) ?_
    refine st (v := (I (w64 (x23 + r30.1)))) (rv_assign rfl) ?_
    refine w_end ?_
    refine q_then ?_
    refine c_ret ?_
    refine q_then_r ?_
    obtain rfl := Option.some.inj h
    exact fin_ret (v := (I (w64 (x23 + r30.1)))) (results_ok Try.results45 (res_tmp (v := (I (w64 (x23 + r30.1)))) rfl res_nil) rfl) ⟨a33, c34, rfl, rfl⟩ (H.sel' [0, 1] rfl rfl)
  ·replace h := bif_f hb15 h
   refine c_skip ?_
   refine q_then ?_
   refine c_seq ?_
   refine rg ?_
   refine st (v := (pt br_0 or_0)) (rv_move rfl) ?_
   refine st_ex (ex_buildSlice (el := n0) (xs := ([0, 1000, 1001, -1, 50] : List Int)) (ps := [(0, (I 0)), (1, (I 1000)), (2, (I 1001)), (3, (I (-1))), (4, (I 50))]) (cs := [(I 0), (I 1000), (I 1001), (I (-1)), (I 50)]) H hn0 Try.underlying24 ti3 rfl rfl (by kernel_rfl) (.cons (c := [(I 0)]) rfl (.cons (c := [(I 1000)]) rfl (.cons (c := [(I 1001)]) rfl (.cons (c := [(I (-1))]) rfl (.cons (c := [(I 50)]) rfl (.nil)))))) rfl) wn ?_
   rintro _ σ37 ⟨b36, rfl, H, -⟩
   obtain ⟨σ38, hw39, H, -⟩ := H.pub 0 rfl (Nat.le_refl _)
   rw [← hw39]; clear hw39
   replace H := H.roLow 0 0 rfl (Nat.zero_le _)
   obtain ⟨r40, hx41, h'⟩ := bind_some h
   clear h
   have h := h'; clear h'
   have hc42 := c_spec_reader_one (lor_0 := lor_0) (br_0 := br_0) (or_0 := or_0) (prer_0 := prer_0) (sufr_0 := sufr_0) (ar_0_0 := a13) (cr_0_0 := c14) (alist_1 := (some ⟨b36, 0, none⟩)) (clist_1 := 5) hx41
   refine st_call (cx_call hc42 (ent_f hc42.fn rfl) hn0 (show Hp S0 σ0 _ ([Ch.bx lor_0 br_0 or_0 [(Sl a13 o3.1.1 c14), (I o3.1.2)] prer_0 sufr_0, Ch.ro 0 (Sl a13 o3.1.1 c14) o3.1.1, Ch.ro 0 (Sl (some ⟨b36, 0, none⟩) ([0, 1000, 1001, -1, 50] : List Int) 5) ([0, 1000, 1001, -1, 50] : List Int)] ++ [Ch.ro 0 (Sl (some ⟨b36, 0, none⟩) ([0, 1000, 1001, -1, 50] : List Int) 5) ([0, 1000, 1001, -1, 50] : List Int), Ch.ro n0 (Sl (some ⟨b36, 0, none⟩) ([0, 1000, 1001, -1, 50] : List Int) 5) ([0, 1000, 1001, -1, 50] : List Int), Ch.ro 0 (Sl a13 o3.1.1 c14) o3.1.1, Ch.ro 0 (Sl ah_1_0 h_1.1 ch_1_0) h_1.1, Ch.ro 0 (Sl ah_1_1 h_1.2 ch_1_1) h_1.2, Ch.bx n0 b1 0 [(Sl ah_1_0 h_1.1 ch_1_0), (Sl ah_1_1 h_1.2 ch_1_1)] [] []]) from (H.sel' [2, 3, 0, 0, 1, 3, 4, 5, 6] rfl rfl))) wn ?_
   rintro _ σ45 ⟨_, ⟨a43, c44, rfl, rfl⟩, H, -⟩
   replace H : Hp S0 σ0 σ45 [Ch.bx lor_0 br_0 or_0 [(Sl a43 r40.2.1 c44), (I r40.2.2)] prer_0 sufr_0, Ch.ro 0 (Sl a43 r40.2.1 c44) r40.2.1, Ch.ro 0 (Sl (some ⟨b36, 0, none⟩) ([0, 1000, 1001, -1, 50] : List Int) 5) ([0, 1000, 1001, -1, 50] : List Int), Ch.ro n0 (Sl (some ⟨b36, 0, none⟩) ([0, 1000, 1001, -1, 50] : List Int) 5) ([0, 1000, 1001, -1, 50] : List Int), Ch.ro 0 (Sl a13 o3.1.1 c14) o3.1.1, Ch.ro 0 (Sl ah_1_0 h_1.1 ch_1_0) h_1.1, Ch.ro 0 (Sl ah_1_1 h_1.2 ch_1_1) h_1.2, Ch.bx n0 b1 0 [(Sl ah_1_0 h_1.1 ch_1_0), (Sl ah_1_1 h_1.2 ch_1_1)] [] []] := H
   replace H : Hp S0 σ0 σ45 [Ch.bx lor_0 br_0 or_0 [(Sl a43 r40.2.1 c44), (I r40.2.2)] prer_0 sufr_0, Ch.ro 0 (Sl a43 r40.2.1 c44) r40.2.1] := H.sel' [0, 1] rfl rfl
   refine st (v := (I r40.1)) (rv_assign rfl) ?_
   refine w_end ?_
   refine q_then ?_
   refine c_ret ?_
   obtain rfl := Option.some.inj h
   exact fin_ret (v := (I r40.1)) (results_ok Try.results45 (res_tmp (v := (I r40.1)) rfl res_nil) rfl) ⟨a43, c44, rfl, rfl⟩ (H.sel' [0, 1] rfl rfl)

theorem c_spec_DrawStoreAt {code_0 : List UInt8} {acode_0 : Option Addr} {ccode_0 : Nat} {r : ((List (Int × (Int × (List Int) × Int))) × (List Int)) × Int} (h : M.spec_DrawStoreAt code_0 = some r) :
    Cal2 Try.prog 19 [(Sl acode_0 code_0 ccode_0)] [Ch.ro 0 (Sl acode_0 code_0 ccode_0) code_0] (fun n0 v L => ∃ (az1 : Option Addr), ∃ (cz2 : Nat), ∃ (az3 : Option Addr), ∃ (cz4 : Nat), v = (.tuple #[(.agg #[(Sl az1 r.1.1 cz2), (Sl az3 r.1.2 cz4)]), (I r.2)]) ∧ L = [Ch.ro n0 (Sl az1 r.1.1 cz2) r.1.1, Ch.ro n0 (Sl az3 r.1.2 cz4) r.1.2]) := by
 refine cal2 (n := 14) Try.func19 rfl rfl rfl rfl ?_
 intro S0 σ0 n0 hn0 H
 unfold M.spec_DrawStoreAt at h
 refine c_seq ?_
 refine rg ?_
 refine st_ex (ex_alloc (cs := [(.slice none 0 0), (.slice none 0 0)]) H hn0 ti26 rfl) wn ?_
 rintro _ σ2 ⟨b1, rfl, H, -⟩
 refine st (v := (I 0)) (rv_assign rfl) ?_
 refine w_end ?_
 refine q_then ?_
 refine c_seq ?_
 refine rg ?_
 refine st (v := (Sl acode_0 code_0 ccode_0)) (rv_move rfl) ?_
 obtain ⟨r3, hx4, h'⟩ := bind_some h
 clear h
 have h := h'; clear h'
 have hc5 := c_spec_newReader (acode_0 := acode_0) (ccode_0 := ccode_0) hx4
 refine st_call (cx_call hc5 (ent_f hc5.fn rfl) hn0 (show Hp S0 σ0 _ ([Ch.ro 0 (Sl acode_0 code_0 ccode_0) code_0] ++ [Ch.bx n0 b1 0 [(.slice none 0 0), (.slice none 0 0)] [] [], Ch.ro 0 (Sl acode_0 code_0 ccode_0) code_0]) from (H.sel' [1, 0, 1] rfl rfl))) wn ?_
 rintro _ σ9 ⟨_, ⟨b6, a7, c8, rfl, rfl⟩, H, -⟩
 replace H : Hp S0 σ0 σ9 [Ch.bx n0 b6 0 [(Sl a7 r3.1 c8), (I r3.2)] [] [], Ch.ro 0 (Sl a7 r3.1 c8) r3.1, Ch.bx n0 b1 0 [(.slice none 0 0), (.slice none 0 0)] [] [], Ch.ro 0 (Sl acode_0 code_0 ccode_0) code_0] := H
 refine st (v := (pt b6 0)) (rv_assign rfl) ?_
 refine w_end ?_
 refine q_then ?_
 refine c_seq ?_
 refine rg ?_
 refine st (v := (pt b6 0)) (rv_move rfl) ?_
 obtain ⟨r10, hx11, h'⟩ := bind_some h
 clear h
 have h := h'; clear h'
 have hc12 := c_spec_anyHistory (lor_0 := n0) (br_0 := b6) (or_0 := 0) (prer_0 := []) (sufr_0 := []) (ar_0_0 := a7) (cr_0_0 := c8) hx11
 refine st_call (cx_call hc12 (ent_f hc12.fn rfl) hn0 (show Hp S0 σ0 _ ([Ch.bx n0 b6 0 [(Sl a7 r3.1 c8), (I r3.2)] [] [], Ch.ro 0 (Sl a7 r3.1 c8) r3.1] ++ [Ch.ro 0 (Sl a7 r3.1 c8) r3.1, Ch.bx n0 b1 0 [(.slice none 0 0), (.slice none 0 0)] [] [], Ch.ro 0 (Sl acode_0 code_0 ccode_0) code_0]) from (H.sel' [0, 1, 1, 2, 3] rfl rfl))) wn ?_
 rintro _ σ19 ⟨_, ⟨a13, c14, a15, c16, a17, c18, rfl, rfl⟩, H, -⟩
 replace H : Hp S0 σ0 σ19 [Ch.own n0 n0 (Sl a13 r10.1.1 c14) r10.1.1, Ch.own n0 n0 (Sl a15 r10.1.2 c16) r10.1.2, Ch.bx n0 b6 0 [(Sl a17 r10.2.1 c18), (I r10.2.2)] [] [], Ch.ro 0 (Sl a17 r10.2.1 c18) r10.2.1, Ch.ro 0 (Sl a7 r3.1 c8) r3.1, Ch.bx n0 b1 0 [(.slice none 0 0), (.slice none 0 0)] [] [], Ch.ro 0 (Sl acode_0 code_0 ccode_0) code_0] := H
 refine st_ex (ex_alloc (cs := [(.slice none 0 0), (.slice none 0 0)]) H hn0 ti26 rfl) wn ?_
 rintro _ σ21 ⟨b20, rfl, H, -⟩
 replace H : Hp S0 σ0 σ21 [Ch.bx n0 b20 0 [(.slice none 0 0), (.slice none 0 0)] [] [], Ch.own n0 n0 (Sl a13 r10.1.1 c14) r10.1.1, Ch.own n0 n0 (Sl a15 r10.1.2 c16) r10.1.2, Ch.bx n0 b6 0 [(Sl a17 r10.2.1 c18), (I r10.2.2)] [] [], Ch.ro 0 (Sl a17 r10.2.1 c18) r10.2.1, Ch.bx n0 b1 0 [(.slice none 0 0), (.slice none 0 0)] [] []] := H.sel' [0, 1, 2, 3, 4, 6] rfl rfl
 refine st_exS (ex_store_box (k := 0) (cs := [(.slice none 0 0), (.slice none 0 0)]) (vs := [(Sl a13 r10.1.1 c14), (Sl a15 r10.1.2 c16)]) (cs' := [(Sl a13 r10.1.1 c14), (Sl a15 r10.1.2 c16)]) H (i := 0) rfl ti26 rfl rfl rfl rfl rfl (Nat.le_of_ble_eq_true rfl) (by simp [plain]) rfl) wn ?_
 rintro σ22 ⟨H, -⟩
 refine w_end ?_
 refine q_then ?_
 refine c_seq ?_
 obtain ⟨σ23, hw24, H, -⟩ := H.pub 1 rfl (Nat.le_refl _)
 rw [← hw24]; clear hw24
 obtain ⟨σ25, hw26, H, -⟩ := H.pub 2 rfl (Nat.le_refl _)
 rw [← hw26]; clear hw26
 have hc27 := H.cells 2 rfl
 have hc28 := H.cells 2 rfl
 replace H := H.roLow 1 0 rfl (Nat.zero_le _)
 replace H := H.roLow 1 0 rfl (Nat.zero_le _)
 obtain ⟨r29, hx30, h'⟩ := bind_some h
 clear h
 have h := h'; clear h'
 have hc31 := c_spec_historyTime (lor_0 := n0) (br_0 := b6) (or_0 := 0) (prer_0 := []) (sufr_0 := []) (ar_0_0 := a17) (cr_0_0 := c18) (ah_1_0 := a13) (ch_1_0 := c14) (ah_1_1 := a15) (ch_1_1 := c16) hx30
 have Hs := H
 refine rg2 (σ := σ25) (Nm := (Option Addr) × (Nat)) 4 [3] [[false], [true]] [[(0, 0), (1, 1)], [(0, 0)], [(0, 0)], [(0, 1)]] 1 [fun ((a32, c33) : (Option Addr) × (Nat)) => fun σm => Hp S0 σ0 σm [Ch.ro 0 (Sl a15 r10.1.2 c16) r10.1.2, Ch.ro 0 (Sl a13 r10.1.1 c14) r10.1.1, Ch.ro n0 (Sl a15 r10.1.2 c16) r10.1.2, Ch.ro n0 (Sl a13 r10.1.1 c14) r10.1.1, Ch.bx n0 b20 0 [(Sl a13 r10.1.1 c14), (Sl a15 r10.1.2 c16)] [] [], Ch.bx n0 b6 0 [(Sl a17 r10.2.1 c18), (I r10.2.2)] [] [], Ch.ro 0 (Sl a17 r10.2.1 c18) r10.2.1, Ch.bx n0 b1 0 [(.slice none 0 0), (.slice none 0 0)] [] []] ∧ Md (cov []) σ25 σm, fun ((a32, c33) : (Option Addr) × (Nat)) => fun σm => Hp S0 σ0 σm [Ch.bx n0 b6 0 [(Sl a32 r29.2.1 c33), (I r29.2.2)] [] [], Ch.ro 0 (Sl a32 r29.2.1 c33) r29.2.1, Ch.ro 0 (Sl a15 r10.1.2 c16) r10.1.2, Ch.ro 0 (Sl a13 r10.1.1 c14) r10.1.1, Ch.ro n0 (Sl a15 r10.1.2 c16) r10.1.2, Ch.ro n0 (Sl a13 r10.1.1 c14) r10.1.1, Ch.bx n0 b20 0 [(Sl a13 r10.1.1 c14), (Sl a15 r10.1.2 c16)] [] [], Ch.ro 0 (Sl a17 r10.2.1 c18) r10.2.1, Ch.bx n0 b1 0 [(.slice none 0 0), (.slice none 0 0)] [] []] ∧ Md (fun i => (cov []) i ∨ (cov [Ch.bx n0 b6 0 [(Sl a17 r10.2.1 c18), (I r10.2.2)] [] [], Ch.ro 0 (Sl a17 r10.2.1 c18) r10.2.1, Ch.ro 0 (Sl a13 r10.1.1 c14) r10.1.1, Ch.ro 0 (Sl a15 r10.1.2 c16) r10.1.2]) i) σ25 σm] [fun ((a32, c33) : (Option Addr) × (Nat)) => (.agg #[(Sl a13 r10.1.1 c14), (Sl a15 r10.1.2 c16)]), fun ((a32, c33) : (Option Addr) × (Nat)) => (pt b6 0), fun ((a32, c33) : (Option Addr) × (Nat)) => (.agg #[(Sl a13 r10.1.1 c14), (Sl a15 r10.1.2 c16)]), fun ((a32, c33) : (Option Addr) × (Nat)) => (I r29.1)] (none, 0) (by kernel_rfl) (by kernel_rfl) ?_ ?_ ?_
 ·intro σm m0
  exact ⟨H.grow (m0.mono fun _ h => h.elim), m0⟩
 ·refine all_cons (by
    refine ⟨?_, ?_⟩
    ·rintro ⟨a32, c33⟩ ρ σm hJ hoff hdep
     have e5 := look_off (N := 14) (hoff 5 rfl) rfl
     obtain ⟨H, m⟩ := id hJ
     have hc27 := H.cells 4 rfl
     exact dp_v (v := (.agg #[(Sl a13 r10.1.1 c14), (Sl a15 r10.1.2 c16)])) wn (rv_load (cs := [(Sl a13 r10.1.1 c14), (Sl a15 r10.1.2 c16)]) Try.underlying26 rfl ti26 e5 rfl hc27) rfl hJ
    refine ⟨?_, ?_⟩
    ·rintro ⟨a32, c33⟩ ρ σm hJ hoff hdep
     have e5 := look_off (N := 14) (hoff 5 rfl) rfl
     obtain ⟨H, m⟩ := id hJ
     have hc27 := H.cells 6 rfl
     exact dp_v (v := (.agg #[(Sl a13 r10.1.1 c14), (Sl a15 r10.1.2 c16)])) wn (rv_load (cs := [(Sl a13 r10.1.1 c14), (Sl a15 r10.1.2 c16)]) Try.underlying26 rfl ti26 e5 rfl hc27) rfl hJ
    trivial) ?_
  refine ac rfl (by
    intro k; rintro ⟨a32, c33⟩ ρ σm hJ hoff hdep
    have e4 := look_off (N := 14) (hoff 4 rfl) rfl
    exact dp_v (v := (pt b6 0)) wn (rv_move e4) rfl hJ) ?_
  refine all_cons (by
    refine ⟨?_, ?_⟩
    ·rintro ⟨a32, c33⟩ ρ σm hJ hoff hdep
     have e5 := look_off (N := 14) (hoff 5 rfl) rfl
     obtain ⟨H, m⟩ := id hJ
     have hc28 := H.cells 4 rfl
     exact dp_v (v := (.agg #[(Sl a13 r10.1.1 c14), (Sl a15 r10.1.2 c16)])) wn (rv_load (cs := [(Sl a13 r10.1.1 c14), (Sl a15 r10.1.2 c16)]) Try.underlying26 rfl ti26 e5 rfl hc28) rfl hJ
    trivial) ?_
  refine all_cons (by
    refine ⟨?_, ?_⟩
    ·rintro ⟨a32, c33⟩ ρ σm hJ hoff hdep
     have e11 : look 14 ρ 11 = (pt b6 0) := hdep 1 rfl rfl 11 rfl
     have e12 : look 14 ρ 12 = (.agg #[(Sl a13 r10.1.1 c14), (Sl a15 r10.1.2 c16)]) := hdep 2 rfl rfl 12 rfl
     obtain ⟨H, m⟩ := id hJ
     refine dp_cx wn (cx_call hc31 (ent_f hc31.fn (by show [look 14 ρ 11, look 14 ρ 12] = _; rw [e11, e12])) hn0 (show Hp S0 σ0 _ ([Ch.bx n0 b6 0 [(Sl a17 r10.2.1 c18), (I r10.2.2)] [] [], Ch.ro 0 (Sl a17 r10.2.1 c18) r10.2.1, Ch.ro 0 (Sl a13 r10.1.1 c14) r10.1.1, Ch.ro 0 (Sl a15 r10.1.2 c16) r10.1.2] ++ [Ch.ro 0 (Sl a15 r10.1.2 c16) r10.1.2, Ch.ro 0 (Sl a13 r10.1.1 c14) r10.1.1, Ch.ro n0 (Sl a15 r10.1.2 c16) r10.1.2, Ch.ro n0 (Sl a13 r10.1.1 c14) r10.1.1, Ch.bx n0 b20 0 [(Sl a13 r10.1.1 c14), (Sl a15 r10.1.2 c16)] [] [], Ch.ro 0 (Sl a17 r10.2.1 c18) r10.2.1, Ch.bx n0 b1 0 [(.slice none 0 0), (.slice none 0 0)] [] []]) from (H.sel' [5, 6, 1, 0, 0, 1, 2, 3, 4, 6, 7] rfl rfl))) ?_
     rintro _ σq ⟨_, ⟨a32x, c33x, rfl, rfl⟩, H2, m2⟩
     exact ⟨_, (a32x, c33x), rfl, rfl, ⟨H2.sel' [0, 1, 2, 3, 4, 5, 6, 7, 8] rfl rfl, m.comp m2⟩, stab [0, 1, 2] (by kernel_rfl) ⟨rfl, rfl, rfl, trivial⟩⟩
    trivial) ?_
  exact all_nil
 ·rintro ⟨a32, c33⟩ ρ σ34 hJ hoff hrel
  have e2 := look_off (N := 14) (hoff 2 rfl) rfl
  have e10 := hrel 0 rfl 10 rfl
  have e13 := hrel 3 rfl 13 rfl
  obtain ⟨H, -⟩ := (show Hp S0 σ0 σ34 [Ch.bx n0 b6 0 [(Sl a32 r29.2.1 c33), (I r29.2.2)] [] [], Ch.ro 0 (Sl a32 r29.2.1 c33) r29.2.1, Ch.ro 0 (Sl a15 r10.1.2 c16) r10.1.2, Ch.ro 0 (Sl a13 r10.1.1 c14) r10.1.1, Ch.ro n0 (Sl a15 r10.1.2 c16) r10.1.2, Ch.ro n0 (Sl a13 r10.1.1 c14) r10.1.1, Ch.bx n0 b20 0 [(Sl a13 r10.1.1 c14), (Sl a15 r10.1.2 c16)] [] [], Ch.ro 0 (Sl a17 r10.2.1 c18) r10.2.1, Ch.bx n0 b1 0 [(.slice none 0 0), (.slice none 0 0)] [] []] ∧ Md (fun i => (cov []) i ∨ (cov [Ch.bx n0 b6 0 [(Sl a17 r10.2.1 c18), (I r10.2.2)] [] [], Ch.ro 0 (Sl a17 r10.2.1 c18) r10.2.1, Ch.ro 0 (Sl a13 r10.1.1 c14) r10.1.1, Ch.ro 0 (Sl a15 r10.1.2 c16) r10.1.2]) i) σ25 σ34 from hJ)
  clear hJ Hs
  rw [fr_lookL (L := [(2, (pt b1 0)), (10, (.agg #[(Sl a13 r10.1.1 c14), (Sl a15 r10.1.2 c16)])), (13, (I r29.1))]) ⟨e2, e10, e13, trivial⟩]
  clear hoff hrel e2 e10 e13
  refine st_exS (ex_store_box (k := 0) (cs := [(.slice none 0 0), (.slice none 0 0)]) (vs := [(Sl a13 r10.1.1 c14), (Sl a15 r10.1.2 c16)]) (cs' := [(Sl a13 r10.1.1 c14), (Sl a15 r10.1.2 c16)]) H (i := 8) rfl ti26 rfl rfl rfl rfl rfl (Nat.le_of_ble_eq_true rfl) (by simp [plain]) rfl) wn ?_
  rintro σ35 ⟨H, -⟩
  replace H : Hp S0 σ0 σ35 [Ch.bx n0 b1 0 [(Sl a13 r10.1.1 c14), (Sl a15 r10.1.2 c16)] [] [], Ch.ro n0 (Sl a15 r10.1.2 c16) r10.1.2, Ch.ro n0 (Sl a13 r10.1.1 c14) r10.1.1] := H.sel' [0, 5, 6] rfl rfl
  refine st (v := (I r29.1)) (rv_assign rfl) ?_
  refine w_end ?_
  refine q_then ?_
  refine c_ret ?_
  obtain rfl := Option.some.inj h
  exact fin_ret (v := (.tuple #[(.agg #[(Sl a13 r10.1.1 c14), (Sl a15 r10.1.2 c16)]), (I r29.1)])) (results_ok Try.results19 (res_cell rfl (run_cellRes (cs := [(Sl a13 r10.1.1 c14), (Sl a15 r10.1.2 c16)]) Try.underlying26 rfl ti26 rfl (H.cells 0 rfl)) (res_tmp (v := (I r29.1)) rfl res_nil)) rfl) ⟨a13, c14, a15, c16, rfl, rfl⟩ (H.sel' [2, 1] rfl rfl)

theorem c_spec_DrawRollBack {code_0 : List UInt8} {acode_0 : Option Addr} {ccode_0 : Nat} {r : ((List (Int × (Int × (List Int) × Int))) × (List Int)) × Int} (h : M.spec_DrawRollBack code_0 = some r) :
    Cal2 Try.prog 33 [(Sl acode_0 code_0 ccode_0)] [Ch.ro 0 (Sl acode_0 code_0 ccode_0) code_0] (fun n0 v L => ∃ (az1 : Option Addr), ∃ (cz2 : Nat), ∃ (az3 : Option Addr), ∃ (cz4 : Nat), v = (.tuple #[(.agg #[(Sl az1 r.1.1 cz2), (Sl az3 r.1.2 cz4)]), (I r.2)]) ∧ L = [Ch.ro n0 (Sl az1 r.1.1 cz2) r.1.1, Ch.ro n0 (Sl az3 r.1.2 cz4) r.1.2]) := by
 refine cal2 (n := 8) Try.func33 rfl rfl rfl rfl ?_
 intro S0 σ0 n0 hn0 H
 unfold M.spec_DrawRollBack at h
 refine c_seq ?_
 refine rg ?_
 refine st_ex (ex_alloc (cs := [(.slice none 0 0), (.slice none 0 0)]) H hn0 ti26 rfl) wn ?_
 rintro _ σ2 ⟨b1, rfl, H, -⟩
 refine st (v := (I 0)) (rv_assign rfl) ?_
 refine w_end ?_
 refine q_then ?_
 refine c_seq ?_
 refine rg ?_
 refine st (v := (Sl acode_0 code_0 ccode_0)) (rv_move rfl) ?_
 obtain ⟨r3, hx4, h'⟩ := bind_some h
 clear h
 have h := h'; clear h'
 have hc5 := c_spec_DrawStoreAt (acode_0 := acode_0) (ccode_0 := ccode_0) hx4
 refine st_call (cx_call hc5 (ent_f hc5.fn rfl) hn0 (show Hp S0 σ0 _ ([Ch.ro 0 (Sl acode_0 code_0 ccode_0) code_0] ++ [Ch.bx n0 b1 0 [(.slice none 0 0), (.slice none 0 0)] [] [], Ch.ro 0 (Sl acode_0 code_0 ccode_0) code_0]) from (H.sel' [1, 0, 1] rfl rfl))) wn ?_
 rintro _ σ10 ⟨_, ⟨a6, c7, a8, c9, rfl, rfl⟩, H, -⟩
 replace H : Hp S0 σ0 σ10 [Ch.ro n0 (Sl a6 r3.1.1 c7) r3.1.1, Ch.ro n0 (Sl a8 r3.1.2 c9) r3.1.2, Ch.bx n0 b1 0 [(.slice none 0 0), (.slice none 0 0)] [] [], Ch.ro 0 (Sl acode_0 code_0 ccode_0) code_0] := H
 refine st (v := (.agg #[(Sl a6 r3.1.1 c7), (Sl a8 r3.1.2 c9)])) (rv_extract rfl rfl) ?_
 refine st (v := (I r3.2)) (rv_extract rfl rfl) ?_
 refine st_exS (ex_store_box (k := 0) (cs := [(.slice none 0 0), (.slice none 0 0)]) (vs := [(Sl a6 r3.1.1 c7), (Sl a8 r3.1.2 c9)]) (cs' := [(Sl a6 r3.1.1 c7), (Sl a8 r3.1.2 c9)]) H (i := 2) rfl ti26 rfl rfl rfl rfl rfl (Nat.le_of_ble_eq_true rfl) (by simp [plain]) rfl) wn ?_
 rintro σ11 ⟨H, -⟩
 refine st (v := (I r3.2)) (rv_assign rfl) ?_
 refine w_end ?_
 refine q_then ?_
 refine c_ret ?_
 obtain rfl := Option.some.inj h
 exact fin_ret (v := (.tuple #[(.agg #[(Sl a6 r3.1.1 c7), (Sl a8 r3.1.2 c9)]), (I r3.2)])) (results_ok Try.results33 (res_cell rfl (run_cellRes (cs := [(Sl a6 r3.1.1 c7), (Sl a8 r3.1.2 c9)]) Try.underlying26 rfl ti26 rfl (H.cells 0 rfl)) (res_tmp (v := (I r3.2)) rfl res_nil)) rfl) ⟨a6, c7, a8, c9, rfl, rfl⟩ (H.sel' [1, 2] rfl rfl)

theorem c_spec_toInt {b_0 : Bool}  {r : Int} (h : M.spec_toInt b_0 = some r) :
    Cal2 Try.prog 83 [(B b_0)] [] (fun n0 v L => v = (I r) ∧ L = []) := by
 refine cal2 (n := 4) Try.func83 rfl rfl rfl rfl ?_
 intro S0 σ0 n0 hn0 H
 unfold M.spec_toInt at h
 refine c_seq ?_
 refine rg ?_
 refine st (v := (I 0)) (rv_assign rfl) ?_
 refine w_end ?_
 refine q_then ?_
 refine c_seq ?_
 refine c_seq ?_
 refine rg ?_
 refine st (v := (B b_0)) (rv_move rfl) ?_
 refine w_end ?_
 refine q_then ?_
 refine cd_cond b_0 rfl (fun hb1 => ?_) (fun hb1 => ?_)
 ·replace h := bif_t hb1 h
  refine c_seq ?_
  refine rg ?_
  refine st (v := (I 1)) (rv_assign rfl) ?_
  refine w_end ?_
  refine q_then ?_
  refine c_ret ?_
  refine q_then_r ?_
  obtain rfl := Option.some.inj h
  exact fin_ret (v := (I 1)) (results_ok Try.results83 (res_tmp (v := (I 1)) rfl res_nil) rfl) ⟨rfl, rfl⟩ (H.sel' [] rfl rfl)
 ·replace h := bif_f hb1 h
  refine c_skip ?_
  refine q_then ?_
  refine c_seq ?_
  refine rg ?_
  refine st (v := (I 0)) (rv_assign rfl) ?_
  refine w_end ?_
  refine q_then ?_
  refine c_ret ?_
  obtain rfl := Option.some.inj h
  exact fin_ret (v := (I 0)) (results_ok Try.results83 (res_tmp (v := (I 0)) rfl res_nil) rfl) ⟨rfl, rfl⟩ (H.sel' [] rfl rfl)

theorem c_spec_upTo {h_0 : (List (Int × (Int × (List Int) × Int))) × (List Int)} {t_1 : Int} {ah_0_0 : Option Addr} {ch_0_0 : Nat} {ah_0_1 : Option Addr} {ch_0_1 : Nat} {r : Int} (h : M.spec_upTo h_0 t_1 = some r) :
    Cal2 Try.prog 52 [(.agg #[(Sl ah_0_0 h_0.1 ch_0_0), (Sl ah_0_1 h_0.2 ch_0_1)]), (I t_1)] [Ch.ro 0 (Sl ah_0_0 h_0.1 ch_0_0) h_0.1, Ch.ro 0 (Sl ah_0_1 h_0.2 ch_0_1) h_0.2] (fun n0 v L => v = (I r) ∧ L = []) := by
 refine cal2 (n := 25) Try.func52 rfl rfl rfl rfl ?_
 intro S0 σ0 n0 hn0 H
 unfold M.spec_upTo at h
 refine c_seq ?_
 refine rg ?_
 refine st_ex (ex_box (cs := [(Sl ah_0_0 h_0.1 ch_0_0), (Sl ah_0_1 h_0.2 ch_0_1)]) H hn0 rfl rfl) wn ?_
 rintro _ σ2 ⟨b1, rfl, H, -⟩
 refine st (v := (I 0)) (rv_assign rfl) ?_
 refine w_end ?_
 refine q_then ?_
 refine c_seq ?_
 refine rg ?_
 refine st (v := (I 0)) (rv_assign rfl) ?_
 refine w_end ?_
 refine q_then ?_
 refine c_seq ?_
 refine c_seq ?_
 refine rg ?_
 refine st (v := (I 0)) (rv_assign rfl) ?_
 refine w_end ?_
 refine q_then ?_
 obtain ⟨o3, hj, h'⟩ := bind_some h
 clear h
 refine c_cut (fun e a w => e = .normal ∧ ∃ (ρ : Nat → Value) (σ : St), a = fr 25 (updL ρ [(5, (I o3))]) ∧ w = σ.w ∧ Hp S0 σ0 σ []) ?_ ?_
 ·clear h'
  rename _ = some o3 => h
  refine c_blk ?_
  refine wp_loopM _ h (fun s4 a w => ∃ (ρ : Nat → Value) (σ : St), a = fr 25 (updL ρ [(1, (I t_1)), (2, (pt b1 0)), (5, (I s4.1)), (6, (I s4.2))]) ∧ w = σ.w ∧ Hp S0 σ0 σ [Ch.ro 0 (Sl ah_0_0 h_0.1 ch_0_0) h_0.1, Ch.ro 0 (Sl ah_0_1 h_0.2 ch_0_1) h_0.2, Ch.bx n0 b1 0 [(Sl ah_0_0 h_0.1 ch_0_0), (Sl ah_0_1 h_0.2 ch_0_1)] [] []]) ⟨_, σ2, fr_join ⟨rfl, rfl, rfl, rfl, trivial⟩, rfl, H.sel' [1, 2, 0] rfl rfl⟩ ?_
  clear h H
  rintro s4 a w o ⟨ρ, σ5, rfl, rfl, H⟩ h hres
  refine c_seq ?_
  refine c_seq ?_
  refine rg ?_
  refine st (v := (I s4.2)) (rv_move rfl) ?_
  refine st (v := (pt b1 1)) (rv_fieldAddr (off := 1) (ft := 24) Try.underlying26 rfl ti24 rfl rfl) ?_
  have hc6 := H.cell (u := (Sl ah_0_1 h_0.2 ch_0_1)) (o' := 1) 2 1 rfl rfl rfl
  refine st (v := (Sl ah_0_1 h_0.2 ch_0_1)) (rv_load1 Try.underlying24 rfl rfl hc6) ?_
  refine st (v := (I (h_0.2.length : Int))) (rv_len Try.underlying24 rfl) ?_
  refine st (v := (B (decide (s4.2 < (h_0.2.length : Int))))) (rv_lss (a := s4.2) (b := (h_0.2.length : Int)) rfl rfl) ?_
  refine w_end ?_
  refine q_then ?_
  refine cd_cond (decide (s4.2 < (h_0.2.length : Int))) rfl (fun hb7 => ?_) (fun hb7 => ?_)
  ·replace h := bif_t hb7 h
   refine c_skip ?_
   refine q_then ?_
   refine c_seq ?_
   refine c_blk ?_
   refine rg ?_
   refine st (v := (I s4.1)) (rv_move rfl) ?_
   refine st (v := (pt b1 1)) (rv_fieldAddr (off := 1) (ft := 24) Try.underlying26 rfl ti24 rfl rfl) ?_
   have hc8 := H.cell (u := (Sl ah_0_1 h_0.2 ch_0_1)) (o' := 1) 2 1 rfl rfl rfl
   refine st (v := (Sl ah_0_1 h_0.2 ch_0_1)) (rv_load1 Try.underlying24 rfl rfl hc8) ?_
   refine st (v := (I s4.2)) (rv_move rfl) ?_
   obtain ⟨x9, hx10, h'⟩ := bind_some h
   clear h
   have h := h'; clear h'
   obtain ⟨b12, o13, hi11, -⟩ := (H.ro 1 rfl).ix hx10
   refine st (v := (pt b12 o13)) (rv_ix Try.underlying24 ti3 rfl rfl hi11) ?_
   have hc14 := ((H.ro 1 rfl).at hx10 hi11).int
   refine st (v := (I x9)) (rv_load1 Try.underlying3 rfl rfl hc14) ?_
   refine st (v := (I t_1)) (rv_move rfl) ?_
   refine st (v := (B (decide (x9 ≤ t_1)))) (rv_leq (a := x9) (b := t_1) rfl rfl) ?_
   obtain ⟨r15, hx16, h'⟩ := bind_some h
   clear h
   have h := h'; clear h'
   have hc17 := c_spec_toInt hx16
   refine st_call (cx_call hc17 (ent_f hc17.fn rfl) hn0 (show Hp S0 σ0 _ ([] ++ [Ch.ro 0 (Sl ah_0_0 h_0.1 ch_0_0) h_0.1, Ch.ro 0 (Sl ah_0_1 h_0.2 ch_0_1) h_0.2, Ch.bx n0 b1 0 [(Sl ah_0_0 h_0.1 ch_0_0), (Sl ah_0_1 h_0.2 ch_0_1)] [] []]) from (H.sel' [0, 1, 2] rfl rfl))) wn ?_
   rintro _ σ18 ⟨_, ⟨rfl, rfl⟩, H, -⟩
   replace H : Hp S0 σ0 σ18 [Ch.ro 0 (Sl ah_0_0 h_0.1 ch_0_0) h_0.1, Ch.ro 0 (Sl ah_0_1 h_0.2 ch_0_1) h_0.2, Ch.bx n0 b1 0 [(Sl ah_0_0 h_0.1 ch_0_0), (Sl ah_0_1 h_0.2 ch_0_1)] [] []] := H
   refine st (v := (I (w64 (s4.1 + r15)))) (rv_add (a := s4.1) (b := r15) rfl rfl) ?_
   refine st (v := (I (w64 (s4.1 + r15)))) (rv_assign rfl) ?_
   refine w_end ?_
   refine q_blk ?_
   refine q_then ?_
   refine rg ?_
   refine st (v := (I s4.2)) (rv_move rfl) ?_
   refine st (v := (I (w64 (s4.2 + 1)))) (rv_add (a := s4.2) (b := 1) rfl rfl) ?_
   refine st (v := (I (w64 (s4.2 + 1)))) (rv_assign rfl) ?_
   refine w_end ?_
   refine q_then ?_
   obtain rfl := Option.some.inj h
   exact ⟨_, rfl, _, σ18, fr_join ⟨rfl, rfl, rfl, rfl, trivial⟩, rfl, H.sel' [0, 1, 2] rfl rfl⟩
  ·replace h := bif_f hb7 h
   refine c_exit ?_
   refine q_then_x ?_
   refine q_then_x ?_
   refine q_blk_hit ?_
   obtain rfl := Option.some.inj h
   obtain rfl := hres _ rfl
   exact ⟨rfl, _, σ5, fr_join ⟨rfl, trivial⟩, rfl, H.sel' [] rfl rfl⟩
 ·clear hj
  have h := h'
  clear h' H
  rintro e a w ⟨rfl, ρ, σ19, rfl, rfl, H⟩
  refine q_then ?_
  refine c_seq ?_
  refine rg ?_
  refine st (v := (I o3)) (rv_move rfl) ?_
  refine st (v := (I o3)) (rv_assign rfl) ?_
  refine w_end ?_
  refine q_then ?_
  refine c_ret ?_
  obtain rfl := Option.some.inj h
  exact fin_ret (v := (I o3)) (results_ok Try.results52 (res_tmp (v := (I o3)) rfl res_nil) rfl) ⟨rfl, rfl⟩ (H.sel' [] rfl rfl)

theorem c_spec_RollBack {h_0 : (List (Int × (Int × (List Int) × Int))) × (List Int)} {t_1 : Int} {ah_0_0 : Option Addr} {ch_0_0 : Nat} {ah_0_1 : Option Addr} {ch_0_1 : Nat} {r : ((List (Int × (Int × (List Int) × Int))) × (List Int)) × Bool} (h : M.spec_RollBack h_0 t_1 = some r) :
    Cal2 Try.prog 34 [(.agg #[(Sl ah_0_0 h_0.1 ch_0_0), (Sl ah_0_1 h_0.2 ch_0_1)]), (I t_1)] [Ch.ro 0 (Sl ah_0_0 h_0.1 ch_0_0) h_0.1, Ch.ro 0 (Sl ah_0_1 h_0.2 ch_0_1) h_0.2] (fun n0 v L => ∃ (az1 : Option Addr), ∃ (cz2 : Nat), ∃ (az3 : Option Addr), ∃ (cz4 : Nat), v = (.tuple #[(.agg #[(Sl az1 r.1.1 cz2), (Sl az3 r.1.2 cz4)]), (B r.2)]) ∧ L = [Ch.own n0 n0 (Sl az1 r.1.1 cz2) r.1.1, Ch.own n0 n0 (Sl az3 r.1.2 cz4) r.1.2]) := by
 refine cal2 (n := 20) Try.func34 rfl rfl rfl rfl ?_
 intro S0 σ0 n0 hn0 H
 unfold M.spec_RollBack at h
 refine c_seq ?_
 refine rg ?_
 refine st_ex (ex_box (cs := [(Sl ah_0_0 h_0.1 ch_0_0), (Sl ah_0_1 h_0.2 ch_0_1)]) H hn0 rfl rfl) wn ?_
 rintro _ σ2 ⟨b1, rfl, H, -⟩
 refine st_ex (ex_alloc (cs := [(.slice none 0 0), (.slice none 0 0)]) H hn0 ti26 rfl) wn ?_
 rintro _ σ4 ⟨b3, rfl, H, -⟩
 refine st (v := (B false)) (rv_assign rfl) ?_
 refine w_end ?_
 refine q_then ?_
 refine c_seq ?_
 refine c_seq ?_
 obtain ⟨o5, hj, h'⟩ := bind_some h
 clear h
 refine c_cut (fun e a w => e = .normal ∧ ∃ (ρ : Nat → Value) (σ : St), a = fr 20 (updL ρ [(1, (I t_1)), (2, (pt b1 0)), (4, (pt b3 0)), (13, (B o5))]) ∧ w = σ.w ∧ Hp S0 σ0 σ [Ch.ro 0 (Sl ah_0_0 h_0.1 ch_0_0) h_0.1, Ch.ro 0 (Sl ah_0_1 h_0.2 ch_0_1) h_0.2, Ch.bx n0 b1 0 [(Sl ah_0_0 h_0.1 ch_0_0), (Sl ah_0_1 h_0.2 ch_0_1)] [] [], Ch.bx n0 b3 0 [(.slice none 0 0), (.slice none 0 0)] [] []]) ?_ ?_
 ·clear h'
  rename _ = some o5 => h
  refine rg ?_
  have hc6 := H.cells 1 rfl
  refine st (v := (.agg #[(Sl ah_0_0 h_0.1 ch_0_0), (Sl ah_0_1 h_0.2 ch_0_1)])) (rv_load (cs := [(Sl ah_0_0 h_0.1 ch_0_0), (Sl ah_0_1 h_0.2 ch_0_1)]) Try.underlying26 rfl ti26 rfl rfl hc6) ?_
  obtain ⟨r7, hx8, h'⟩ := bind_some h
  clear h
  have h := h'; clear h'
  have hc9 := c_spec_validHistory (ah_0_0 := ah_0_0) (ch_0_0 := ch_0_0) (ah_0_1 := ah_0_1) (ch_0_1 := ch_0_1) hx8
  refine st_call (cx_call hc9 (ent_f hc9.fn rfl) hn0 (show Hp S0 σ0 _ ([Ch.ro 0 (Sl ah_0_0 h_0.1 ch_0_0) h_0.1, Ch.ro 0 (Sl ah_0_1 h_0.2 ch_0_1) h_0.2] ++ [Ch.bx n0 b3 0 [(.slice none 0 0), (.slice none 0 0)] [] [], Ch.bx n0 b1 0 [(Sl ah_0_0 h_0.1 ch_0_0), (Sl ah_0_1 h_0.2 ch_0_1)] [] [], Ch.ro 0 (Sl ah_0_0 h_0.1 ch_0_0) h_0.1, Ch.ro 0 (Sl ah_0_1 h_0.2 ch_0_1) h_0.2]) from (H.sel' [2, 3, 0, 1, 2, 3] rfl rfl))) wn ?_
  rintro _ σ10 ⟨_, ⟨rfl, rfl⟩, H, -⟩
  replace H : Hp S0 σ0 σ10 [Ch.bx n0 b3 0 [(.slice none 0 0), (.slice none 0 0)] [] [], Ch.bx n0 b1 0 [(Sl ah_0_0 h_0.1 ch_0_0), (Sl ah_0_1 h_0.2 ch_0_1)] [] [], Ch.ro 0 (Sl ah_0_0 h_0.1 ch_0_0) h_0.1, Ch.ro 0 (Sl ah_0_1 h_0.2 ch_0_1) h_0.2] := H
  refine st (v := (B (!r7))) (rv_not rfl) ?_
  refine st (v := (B (!r7))) (rv_move rfl) ?_
  rcases Bool.eq_false_or_eq_true (!r7) with hb11 | hb11
  ·replace h := bif_t hb11 h
   refine st_skip (congrArg some hb11) ?_
   refine st_skip (congrArg some hb11) ?_
   refine st_skip (congrArg some hb11) ?_
   refine st (v := (B true)) (rv_pick_t (congrArg B hb11) rfl) ?_
   refine w_end ?_
   obtain rfl := Option.some.inj h
   exact ⟨rfl, _, σ10, fr_join ⟨rfl, rfl, rfl, rfl, trivial⟩, rfl, H.sel' [2, 3, 1, 0] rfl rfl⟩
  ·replace h := bif_f hb11 h
   refine st_g (v := (I t_1)) (congrArg some hb11) (rv_move rfl) ?_
   obtain ⟨r12, hx13, h'⟩ := bind_some h
   clear h
   have h := h'; clear h'
   have hc14 := c_spec_inRange hx13
   refine st_call (cx_call hc14 (ent_f hc14.fn rfl) hn0 (show Hp S0 σ0 _ ([] ++ [Ch.bx n0 b3 0 [(.slice none 0 0), (.slice none 0 0)] [] [], Ch.bx n0 b1 0 [(Sl ah_0_0 h_0.1 ch_0_0), (Sl ah_0_1 h_0.2 ch_0_1)] [] [], Ch.ro 0 (Sl ah_0_0 h_0.1 ch_0_0) h_0.1, Ch.ro 0 (Sl ah_0_1 h_0.2 ch_0_1) h_0.2]) from (H.sel' [0, 1, 2, 3] rfl rfl))) (wanted_yes rfl (by exact (congrArg some hb11))) ?_
   rintro _ σ15 ⟨_, ⟨rfl, rfl⟩, H, -⟩
   replace H : Hp S0 σ0 σ15 [Ch.bx n0 b3 0 [(.slice none 0 0), (.slice none 0 0)] [] [], Ch.bx n0 b1 0 [(Sl ah_0_0 h_0.1 ch_0_0), (Sl ah_0_1 h_0.2 ch_0_1)] [] [], Ch.ro 0 (Sl ah_0_0 h_0.1 ch_0_0) h_0.1, Ch.ro 0 (Sl ah_0_1 h_0.2 ch_0_1) h_0.2] := H
   refine st_g (v := (B (!r12))) (congrArg some hb11) (rv_not rfl) ?_
   refine st (v := (B (!r12))) (rv_pick_f (congrArg B hb11) rfl) ?_
   refine w_end ?_
   obtain rfl := Option.some.inj h
   exact ⟨rfl, _, σ15, fr_join ⟨rfl, rfl, rfl, rfl, trivial⟩, rfl, H.sel' [2, 3, 1, 0] rfl rfl⟩
 ·clear hj
  have h := h'
  clear h' H
  rintro e a w ⟨rfl, ρ, σ16, rfl, rfl, H⟩
  refine q_then ?_
  refine cd_cond o5 rfl (fun hb17 => ?_) (fun hb17 => ?_)
  ·replace h := bif_t hb17 h
   refine c_seq ?_
   refine rg ?_
   refine st (v := (.agg #[(.slice none 0 0), (.slice none 0 0)])) (rv_build (ps := []) Try.underlying26 ti26 (bp26 Try.underlying26) rfl (by kernel_rfl)) ?_
   refine st_exS (ex_store_box (k := 0) (cs := [(.slice none 0 0), (.slice none 0 0)]) (vs := [(.slice none 0 0), (.slice none 0 0)]) (cs' := [(.slice none 0 0), (.slice none 0 0)]) H (i := 3) rfl ti26 rfl rfl rfl rfl rfl (Nat.le_of_ble_eq_true rfl) (by simp [plain]) rfl) wn ?_
   rintro σ18 ⟨H, -⟩
   refine st (v := (B false)) (rv_assign rfl) ?_
   refine w_end ?_
   refine q_then ?_
   refine c_ret ?_
   refine q_then_r ?_
   replace H := H.nilOwn (Int × (Int × (List Int) × Int)) n0 n0
   replace H := H.nilOwn Int n0 n0
   obtain rfl := Option.some.inj h
   exact fin_ret (v := (.tuple #[(.agg #[(.slice none 0 0), (.slice none 0 0)]), (B false)])) (results_ok Try.results34 (res_cell rfl (run_cellRes (cs := [(.slice none 0 0), (.slice none 0 0)]) Try.underlying26 rfl ti26 rfl (H.cells 2 rfl)) (res_tmp (v := (B false)) rfl res_nil)) rfl) ⟨none, 0, none, 0, rfl, rfl⟩ (H.sel' [1, 0] rfl rfl)
  ·replace h := bif_f hb17 h
   refine c_skip ?_
   refine q_then ?_
   refine c_seq ?_
   have hc19 := H.cells 2 rfl
   have hc20 := H.cells 2 rfl
   obtain ⟨r21, hx22, h'⟩ := bind_some h
   clear h
   have h := h'; clear h'
   have hc23 := c_spec_upTo (ah_0_0 := ah_0_0) (ch_0_0 := ch_0_0) (ah_0_1 := ah_0_1) (ch_0_1 := ch_0_1) hx22
   have Hs := H
   refine rg2 (σ := σ16) (Nm := Unit) 4 [3] [[false], [true]] [[(0, 0), (1, 1)], [(0, 0)], [(0, 0)], [(0, 1)]] 1 [fun _ => fun σm => Hp S0 σ0 σm [Ch.ro 0 (Sl ah_0_0 h_0.1 ch_0_0) h_0.1, Ch.ro 0 (Sl ah_0_1 h_0.2 ch_0_1) h_0.2, Ch.bx n0 b1 0 [(Sl ah_0_0 h_0.1 ch_0_0), (Sl ah_0_1 h_0.2 ch_0_1)] [] [], Ch.bx n0 b3 0 [(.slice none 0 0), (.slice none 0 0)] [] []] ∧ Md (cov []) σ16 σm, fun _ => fun σm => Hp S0 σ0 σm [Ch.ro 0 (Sl ah_0_0 h_0.1 ch_0_0) h_0.1, Ch.ro 0 (Sl ah_0_1 h_0.2 ch_0_1) h_0.2, Ch.bx n0 b1 0 [(Sl ah_0_0 h_0.1 ch_0_0), (Sl ah_0_1 h_0.2 ch_0_1)] [] [], Ch.bx n0 b3 0 [(.slice none 0 0), (.slice none 0 0)] [] []] ∧ Md (cov []) σ16 σm] [fun _ => (.agg #[(Sl ah_0_0 h_0.1 ch_0_0), (Sl ah_0_1 h_0.2 ch_0_1)]), fun _ => (.agg #[(Sl ah_0_0 h_0.1 ch_0_0), (Sl ah_0_1 h_0.2 ch_0_1)]), fun _ => (I t_1), fun _ => (I r21)] () (by kernel_rfl) (by kernel_rfl) ?_ ?_ ?_
   ·intro σm m0
    exact ⟨H.grow (m0.mono fun _ h => h.elim), m0⟩
   ·refine all_cons (by
      refine ⟨?_, ?_⟩
      ·intro _nm ρ σm hJ hoff hdep
       have e2 := look_off (N := 20) (hoff 2 rfl) rfl
       obtain ⟨H, m⟩ := id hJ
       have hc19 := H.cells 2 rfl
       exact dp_v (v := (.agg #[(Sl ah_0_0 h_0.1 ch_0_0), (Sl ah_0_1 h_0.2 ch_0_1)])) wn (rv_load (cs := [(Sl ah_0_0 h_0.1 ch_0_0), (Sl ah_0_1 h_0.2 ch_0_1)]) Try.underlying26 rfl ti26 e2 rfl hc19) rfl hJ
      refine ⟨?_, ?_⟩
      ·intro _nm ρ σm hJ hoff hdep
       have e2 := look_off (N := 20) (hoff 2 rfl) rfl
       obtain ⟨H, m⟩ := id hJ
       have hc19 := H.cells 2 rfl
       exact dp_v (v := (.agg #[(Sl ah_0_0 h_0.1 ch_0_0), (Sl ah_0_1 h_0.2 ch_0_1)])) wn (rv_load (cs := [(Sl ah_0_0 h_0.1 ch_0_0), (Sl ah_0_1 h_0.2 ch_0_1)]) Try.underlying26 rfl ti26 e2 rfl hc19) rfl hJ
      trivial) ?_
    refine all_cons (by
      refine ⟨?_, ?_⟩
      ·intro _nm ρ σm hJ hoff hdep
       have e2 := look_off (N := 20) (hoff 2 rfl) rfl
       obtain ⟨H, m⟩ := id hJ
       have hc20 := H.cells 2 rfl
       exact dp_v (v := (.agg #[(Sl ah_0_0 h_0.1 ch_0_0), (Sl ah_0_1 h_0.2 ch_0_1)])) wn (rv_load (cs := [(Sl ah_0_0 h_0.1 ch_0_0), (Sl ah_0_1 h_0.2 ch_0_1)]) Try.underlying26 rfl ti26 e2 rfl hc20) rfl hJ
      trivial) ?_
    refine ac rfl (by
      intro k _nm ρ σm hJ hoff hdep
      have e1 := look_off (N := 20) (hoff 1 rfl) rfl
      exact dp_v (v := (I t_1)) wn (rv_move e1) rfl hJ) ?_
    refine all_cons (by
      refine ⟨?_, ?_⟩
      ·intro _nm ρ σm hJ hoff hdep
       have e16 : look 20 ρ 16 = (.agg #[(Sl ah_0_0 h_0.1 ch_0_0), (Sl ah_0_1 h_0.2 ch_0_1)]) := hdep 1 rfl rfl 16 rfl
       have e17 : look 20 ρ 17 = (I t_1) := hdep 2 rfl rfl 17 rfl
       obtain ⟨H, m⟩ := id hJ
       refine dp_cx wn (cx_call hc23 (ent_f hc23.fn (by show [look 20 ρ 16, look 20 ρ 17] = _; rw [e16, e17])) hn0 (show Hp S0 σ0 _ ([Ch.ro 0 (Sl ah_0_0 h_0.1 ch_0_0) h_0.1, Ch.ro 0 (Sl ah_0_1 h_0.2 ch_0_1) h_0.2] ++ [Ch.ro 0 (Sl ah_0_0 h_0.1 ch_0_0) h_0.1, Ch.ro 0 (Sl ah_0_1 h_0.2 ch_0_1) h_0.2, Ch.bx n0 b1 0 [(Sl ah_0_0 h_0.1 ch_0_0), (Sl ah_0_1 h_0.2 ch_0_1)] [] [], Ch.bx n0 b3 0 [(.slice none 0 0), (.slice none 0 0)] [] []]) from (H.sel' [0, 1, 0, 1, 2, 3] rfl rfl))) ?_
       rintro _ σq ⟨_, ⟨rfl, rfl⟩, H2, m2⟩
       exact ⟨_, (), rfl, rfl, ⟨H2.sel' [0, 1, 2, 3] rfl rfl, m.comp0 (m2.mono (fun i h => by simp [cov, Ch.ro] at h))⟩, stab [0, 1, 2] (by kernel_rfl) ⟨rfl, rfl, rfl, trivial⟩⟩
      trivial) ?_
    exact all_nil
   ·intro _nm ρ σ24 hJ hoff hrel
    have e4 := look_off (N := 20) (hoff 4 rfl) rfl
    have e15 := hrel 0 rfl 15 rfl
    have e18 := hrel 3 rfl 18 rfl
    obtain ⟨H, -⟩ := (show Hp S0 σ0 σ24 [Ch.ro 0 (Sl ah_0_0 h_0.1 ch_0_0) h_0.1, Ch.ro 0 (Sl ah_0_1 h_0.2 ch_0_1) h_0.2, Ch.bx n0 b1 0 [(Sl ah_0_0 h_0.1 ch_0_0), (Sl ah_0_1 h_0.2 ch_0_1)] [] [], Ch.bx n0 b3 0 [(.slice none 0 0), (.slice none 0 0)] [] []] ∧ Md (cov []) σ16 σ24 from hJ)
    clear hJ Hs
    rw [fr_lookL (L := [(4, (pt b3 0)), (15, (.agg #[(Sl ah_0_0 h_0.1 ch_0_0), (Sl ah_0_1 h_0.2 ch_0_1)])), (18, (I r21))]) ⟨e4, e15, e18, trivial⟩]
    clear hoff hrel e4 e15 e18
    obtain ⟨r25, hx26, h'⟩ := bind_some h
    clear h
    have h := h'; clear h'
    have hc27 := c_spec_copyHistory (ah_0_0 := ah_0_0) (ch_0_0 := ch_0_0) (ah_0_1 := ah_0_1) (ch_0_1 := ch_0_1) hx26
    refine st_call (cx_call hc27 (ent_f hc27.fn rfl) hn0 (show Hp S0 σ0 _ ([Ch.ro 0 (Sl ah_0_0 h_0.1 ch_0_0) h_0.1, Ch.ro 0 (Sl ah_0_1 h_0.2 ch_0_1) h_0.2] ++ [Ch.ro 0 (Sl ah_0_0 h_0.1 ch_0_0) h_0.1, Ch.ro 0 (Sl ah_0_1 h_0.2 ch_0_1) h_0.2, Ch.bx n0 b1 0 [(Sl ah_0_0 h_0.1 ch_0_0), (Sl ah_0_1 h_0.2 ch_0_1)] [] [], Ch.bx n0 b3 0 [(.slice none 0 0), (.slice none 0 0)] [] []]) from (H.sel' [0, 1, 0, 1, 2, 3] rfl rfl))) wn ?_
    rintro _ σ32 ⟨_, ⟨a28, c29, a30, c31, rfl, rfl⟩, H, -⟩
    replace H : Hp S0 σ0 σ32 [Ch.own n0 n0 (Sl a28 r25.1 c29) r25.1, Ch.own n0 n0 (Sl a30 r25.2 c31) r25.2, Ch.ro 0 (Sl ah_0_0 h_0.1 ch_0_0) h_0.1, Ch.ro 0 (Sl ah_0_1 h_0.2 ch_0_1) h_0.2, Ch.bx n0 b1 0 [(Sl ah_0_0 h_0.1 ch_0_0), (Sl ah_0_1 h_0.2 ch_0_1)] [] [], Ch.bx n0 b3 0 [(.slice none 0 0), (.slice none 0 0)] [] []] := H
    refine st_exS (ex_store_box (k := 0) (cs := [(.slice none 0 0), (.slice none 0 0)]) (vs := [(Sl a28 r25.1 c29), (Sl a30 r25.2 c31)]) (cs' := [(Sl a28 r25.1 c29), (Sl a30 r25.2 c31)]) H (i := 5) rfl ti26 rfl rfl rfl rfl rfl (Nat.le_of_ble_eq_true rfl) (by simp [plain]) rfl) wn ?_
    rintro σ33 ⟨H, -⟩
    refine st (v := (B true)) (rv_assign rfl) ?_
    refine w_end ?_
    refine q_then ?_
    refine c_ret ?_
    obtain rfl := Option.some.inj h
    exact fin_ret (v := (.tuple #[(.agg #[(Sl a28 r25.1 c29), (Sl a30 r25.2 c31)]), (B true)])) (results_ok Try.results34 (res_cell rfl (run_cellRes (cs := [(Sl a28 r25.1 c29), (Sl a30 r25.2 c31)]) Try.underlying26 rfl ti26 rfl (H.cells 0 rfl)) (res_tmp (v := (B true)) rfl res_nil)) rfl) ⟨a28, c29, a30, c31, rfl, rfl⟩ (H.sel' [1, 2] rfl rfl)

theorem c_laws_FnRollBackAdd {code_0 : List UInt8} {acode_0 : Option Addr} {ccode_0 : Nat} {r : Bool} (h : M.laws_FnRollBackAdd code_0 = some r) :
    Cal2 Try.prog 14 [(Sl acode_0 code_0 ccode_0)] [Ch.ro 0 (Sl acode_0 code_0 ccode_0) code_0] (fun n0 v L => v = (B r) ∧ L = []) := by
 refine cal2 (n := 84) Try.func14 rfl rfl rfl rfl ?_
 intro S0 σ0 n0 hn0 H
 unfold M.laws_FnRollBackAdd at h
 refine c_seq ?_
 refine rg ?_
 refine st (v := (B false)) (rv_assign rfl) ?_
 refine w_end ?_
 refine q_then ?_
 refine c_seq ?_
 refine c_seq ?_
 refine rg ?_
 refine st (v := (Sl acode_0 code_0 ccode_0)) (rv_move rfl) ?_
 refine st (v := (I (code_0.length : Int))) (rv_len Try.underlying22 rfl) ?_
 refine st (v := (B (decide (1048576 < (code_0.length : Int))))) (rv_gtr (a := (code_0.length : Int)) (b := 1048576) rfl rfl) ?_
 refine w_end ?_
 refine q_then ?_
 refine cd_cond (decide (1048576 < (code_0.length : Int))) rfl (fun hb1 => ?_) (fun hb1 => ?_)
 ·replace h := bif_t hb1 h
  refine c_seq ?_
  refine rg ?_
  refine st (v := (B true)) (rv_assign rfl) ?_
  refine w_end ?_
  refine q_then ?_
  refine c_ret ?_
  refine q_then_r ?_
  obtain rfl := Option.some.inj h
  exact fin_ret (v := (B true)) (results_ok Try.results14 (res_tmp (v := (B true)) rfl res_nil) rfl) ⟨rfl, rfl⟩ (H.sel' [] rfl rfl)
 ·replace h := bif_f hb1 h
  refine c_skip ?_
  refine q_then ?_
  refine c_seq ?_
  refine rg ?_
  refine st (v := (Sl acode_0 code_0 ccode_0)) (rv_move rfl) ?_
  obtain ⟨r2, hx3, h'⟩ := bind_some h
  clear h
  have h := h'; clear h'
  have hc4 := c_spec_DrawRollBack (acode_0 := acode_0) (ccode_0 := ccode_0) hx3
  refine st_call (cx_call hc4 (ent_f hc4.fn rfl) hn0 (show Hp S0 σ0 _ ([Ch.ro 0 (Sl acode_0 code_0 ccode_0) code_0] ++ [Ch.ro 0 (Sl acode_0 code_0 ccode_0) code_0]) from (H.sel' [0, 0] rfl rfl))) wn ?_
  rintro _ σ9 ⟨_, ⟨a5, c6, a7, c8, rfl, rfl⟩, H, -⟩
  replace H : Hp S0 σ0 σ9 [Ch.ro n0 (Sl a5 r2.1.1 c6) r2.1.1, Ch.ro n0 (Sl a7 r2.1.2 c8) r2.1.2, Ch.ro 0 (Sl acode_0 code_0 ccode_0) code_0] := H
  refine st (v := (.tuple #[(.agg #[(Sl a5 r2.1.1 c6), (Sl a7 r2.1.2 c8)]), (I r2.2)])) (rv_move rfl) ?_
  refine st (v := (.agg #[(Sl a5 r2.1.1 c6), (Sl a7 r2.1.2 c8)])) (rv_extract rfl rfl) ?_
  refine st (v := (I r2.2)) (rv_extract rfl rfl) ?_
  refine st_ex (ex_alloc (cs := [(.slice none 0 0), (.slice none 0 0)]) H hn0 ti26 rfl) wn ?_
  rintro _ σ11 ⟨b10, rfl, H, -⟩
  refine st_exS (ex_store_box (k := 0) (cs := [(.slice none 0 0), (.slice none 0 0)]) (vs := [(Sl a5 r2.1.1 c6), (Sl a7 r2.1.2 c8)]) (cs' := [(Sl a5 r2.1.1 c6), (Sl a7 r2.1.2 c8)]) H (i := 0) rfl ti26 rfl rfl rfl rfl rfl (Nat.le_of_ble_eq_true rfl) (by simp [plain]) rfl) wn ?_
  rintro σ12 ⟨H, -⟩
  refine st (v := (I r2.2)) (rv_assign rfl) ?_
  refine w_end ?_
  refine q_then ?_
  refine c_seq ?_
  refine rg ?_
  have hc13 := H.cells 0 rfl
  refine st (v := (.agg #[(Sl a5 r2.1.1 c6), (Sl a7 r2.1.2 c8)])) (rv_load (cs := [(Sl a5 r2.1.1 c6), (Sl a7 r2.1.2 c8)]) Try.underlying26 rfl ti26 rfl rfl hc13) ?_
  refine st (v := (I r2.2)) (rv_move rfl) ?_
  replace H := H.roLow 1 0 rfl (Nat.zero_le _)
  replace H := H.roLow 3 0 rfl (Nat.zero_le _)
  obtain ⟨r14, hx15, h'⟩ := bind_some h
  clear h
  have h := h'; clear h'
  have hc16 := c_impl_RollBack (ah_0_0 := a5) (ch_0_0 := c6) (ah_0_1 := a7) (ch_0_1 := c8) hx15
  refine st_call (cx_call hc16 (ent_f hc16.fn rfl) hn0 (show Hp S0 σ0 _ ([Ch.ro 0 (Sl a5 r2.1.1 c6) r2.1.1, Ch.ro 0 (Sl a7 r2.1.2 c8) r2.1.2] ++ [Ch.ro 0 (Sl a7 r2.1.2 c8) r2.1.2, Ch.ro 0 (Sl a5 r2.1.1 c6) r2.1.1, Ch.bx n0 b10 0 [(Sl a5 r2.1.1 c6), (Sl a7 r2.1.2 c8)] [] [], Ch.ro n0 (Sl a5 r2.1.1 c6) r2.1.1, Ch.ro n0 (Sl a7 r2.1.2 c8) r2.1.2, Ch.ro 0 (Sl acode_0 code_0 ccode_0) code_0]) from (H.sel' [1, 0, 0, 1, 2, 3, 4, 5] rfl rfl))) wn ?_
  rintro _ σ22 ⟨_, ⟨a17, c18, a20, c21, rfl, rfl, ht19⟩, H, -⟩
  replace H : Hp S0 σ0 σ22 [Ch.own n0 n0 (Sl a17 r14.1.1 c18) r14.1.1, Ch.own n0 n0 (Sl a20 r14.1.2 c21) r14.1.2, Ch.ro 0 (Sl a7 r2.1.2 c8) r2.1.2, Ch.ro 0 (Sl a5 r2.1.1 c6) r2.1.1, Ch.bx n0 b10 0 [(Sl a5 r2.1.1 c6), (Sl a7 r2.1.2 c8)] [] [], Ch.ro n0 (Sl a5 r2.1.1 c6) r2.1.1, Ch.ro n0 (Sl a7 r2.1.2 c8) r2.1.2, Ch.ro 0 (Sl acode_0 code_0 ccode_0) code_0] := H
  replace H : Hp S0 σ0 σ22 [Ch.own n0 n0 (Sl a17 r14.1.1 c18) r14.1.1, Ch.own n0 n0 (Sl a20 r14.1.2 c21) r14.1.2, Ch.bx n0 b10 0 [(Sl a5 r2.1.1 c6), (Sl a7 r2.1.2 c8)] [] [], Ch.ro n0 (Sl a5 r2.1.1 c6) r2.1.1, Ch.ro n0 (Sl a7 r2.1.2 c8) r2.1.2] := H.sel' [0, 1, 4, 5, 6] rfl rfl
  refine st (v := (.tuple #[(.agg #[(Sl a17 r14.1.1 c18), (Sl a20 r14.1.2 c21)]), (B r14.2)])) (rv_move rfl) ?_
  refine st (v := (.agg #[(Sl a17 r14.1.1 c18), (Sl a20 r14.1.2 c21)])) (rv_extract rfl rfl) ?_
  refine st (v := (B r14.2)) (rv_extract rfl rfl) ?_
  refine st_ex (ex_alloc (cs := [(.slice none 0 0), (.slice none 0 0)]) H hn0 ti26 rfl) wn ?_
  rintro _ σ24 ⟨b23, rfl, H, -⟩
  refine st_exS (ex_store_box (k := 0) (cs := [(.slice none 0 0), (.slice none 0 0)]) (vs := [(Sl a17 r14.1.1 c18), (Sl a20 r14.1.2 c21)]) (cs' := [(Sl a17 r14.1.1 c18), (Sl a20 r14.1.2 c21)]) H (i := 0) rfl ti26 rfl rfl rfl rfl rfl (Nat.le_of_ble_eq_true rfl) (by simp [plain]) rfl) wn ?_
  rintro σ25 ⟨H, -⟩
  refine st (v := (B r14.2)) (rv_assign rfl) ?_
  refine w_end ?_
  refine q_then ?_
  refine c_seq ?_
  refine rg ?_
  have hc26 := H.cells 3 rfl
  refine st (v := (.agg #[(Sl a5 r2.1.1 c6), (Sl a7 r2.1.2 c8)])) (rv_load (cs := [(Sl a5 r2.1.1 c6), (Sl a7 r2.1.2 c8)]) Try.underlying26 rfl ti26 rfl rfl hc26) ?_
  refine st (v := (I r2.2)) (rv_move rfl) ?_
  replace H := H.roLow 4 0 rfl (Nat.zero_le _)
  replace H := H.roLow 6 0 rfl (Nat.zero_le _)
  obtain ⟨r27, hx28, h'⟩ := bind_some h
  clear h
  have h := h'; clear h'
  have hc29 := c_spec_RollBack (ah_0_0 := a5) (ch_0_0 := c6) (ah_0_1 := a7) (ch_0_1 := c8) hx28
  refine st_call (cx_call hc29 (ent_f hc29.fn rfl) hn0 (show Hp S0 σ0 _ ([Ch.ro 0 (Sl a5 r2.1.1 c6) r2.1.1, Ch.ro 0 (Sl a7 r2.1.2 c8) r2.1.2] ++ [Ch.ro 0 (Sl a7 r2.1.2 c8) r2.1.2, Ch.ro 0 (Sl a5 r2.1.1 c6) r2.1.1, Ch.bx n0 b23 0 [(Sl a17 r14.1.1 c18), (Sl a20 r14.1.2 c21)] [] [], Ch.own n0 n0 (Sl a17 r14.1.1 c18) r14.1.1, Ch.own n0 n0 (Sl a20 r14.1.2 c21) r14.1.2, Ch.bx n0 b10 0 [(Sl a5 r2.1.1 c6), (Sl a7 r2.1.2 c8)] [] [], Ch.ro n0 (Sl a5 r2.1.1 c6) r2.1.1, Ch.ro n0 (Sl a7 r2.1.2 c8) r2.1.2]) from (H.sel' [1, 0, 0, 1, 2, 3, 4, 5, 6, 7] rfl rfl))) wn ?_
  rintro _ σ34 ⟨_, ⟨a30, c31, a32, c33, rfl, rfl⟩, H, -⟩
  replace H : Hp S0 σ0 σ34 [Ch.own n0 n0 (Sl a30 r27.1.1 c31) r27.1.1, Ch.own n0 n0 (Sl a32 r27.1.2 c33) r27.1.2, Ch.ro 0 (Sl a7 r2.1.2 c8) r2.1.2, Ch.ro 0 (Sl a5 r2.1.1 c6) r2.1.1, Ch.bx n0 b23 0 [(Sl a17 r14.1.1 c18), (Sl a20 r14.1.2 c21)] [] [], Ch.own n0 n0 (Sl a17 r14.1.1 c18) r14.1.1, Ch.own n0 n0 (Sl a20 r14.1.2 c21) r14.1.2, Ch.bx n0 b10 0 [(Sl a5 r2.1.1 c6), (Sl a7 r2.1.2 c8)] [] [], Ch.ro n0 (Sl a5 r2.1.1 c6) r2.1.1, Ch.ro n0 (Sl a7 r2.1.2 c8) r2.1.2] := H
  replace H : Hp S0 σ0 σ34 [Ch.own n0 n0 (Sl a30 r27.1.1 c31) r27.1.1, Ch.own n0 n0 (Sl a32 r27.1.2 c33) r27.1.2, Ch.bx n0 b23 0 [(Sl a17 r14.1.1 c18), (Sl a20 r14.1.2 c21)] [] [], Ch.own n0 n0 (Sl a17 r14.1.1 c18) r14.1.1, Ch.own n0 n0 (Sl a20 r14.1.2 c21) r14.1.2, Ch.bx n0 b10 0 [(Sl a5 r2.1.1 c6), (Sl a7 r2.1.2 c8)] [] [], Ch.ro n0 (Sl a5 r2.1.1 c6) r2.1.1, Ch.ro n0 (Sl a7 r2.1.2 c8) r2.1.2] := H.sel' [0, 1, 4, 5, 6, 7, 8, 9] rfl rfl
  refine st (v := (.tuple #[(.agg #[(Sl a30 r27.1.1 c31), (Sl a32 r27.1.2 c33)]), (B r27.2)])) (rv_move rfl) ?_
  refine st (v := (.agg #[(Sl a30 r27.1.1 c31), (Sl a32 r27.1.2 c33)])) (rv_extract rfl rfl) ?_
  refine st (v := (B r27.2)) (rv_extract rfl rfl) ?_
  refine st_ex (ex_alloc (cs := [(.slice none 0 0), (.slice none 0 0)]) H hn0 ti26 rfl) wn ?_
  rintro _ σ36 ⟨b35, rfl, H, -⟩
  refine st_exS (ex_store_box (k := 0) (cs := [(.slice none 0 0), (.slice none 0 0)]) (vs := [(Sl a30 r27.1.1 c31), (Sl a32 r27.1.2 c33)]) (cs' := [(Sl a30 r27.1.1 c31), (Sl a32 r27.1.2 c33)]) H (i := 0) rfl ti26 rfl rfl rfl rfl rfl (Nat.le_of_ble_eq_true rfl) (by simp [plain]) rfl) wn ?_
  rintro σ37 ⟨H, -⟩
  refine st (v := (B r27.2)) (rv_assign rfl) ?_
  refine w_end ?_
  refine q_then ?_
  refine c_seq ?_
  refine c_seq ?_
  obtain ⟨o38, hj, h'⟩ := bind_some h
  clear h
  refine c_cut (fun e a w => e = .normal ∧ ∃ (ρ : Nat → Value) (σ : St), a = fr 84 (updL ρ [(3, (pt b10 0)), (5, (pt b23 0)), (6, (B r14.2)), (7, (pt b35 0)), (8, (B r27.2)), (44, (B o38))]) ∧ w = σ.w ∧ Hp S0 σ0 σ [Ch.ro n0 (Sl a5 r2.1.1 c6) r2.1.1, Ch.ro n0 (Sl a7 r2.1.2 c8) r2.1.2, Ch.bx n0 b10 0 [(Sl a5 r2.1.1 c6), (Sl a7 r2.1.2 c8)] [] [], Ch.own n0 n0 (Sl a17 r14.1.1 c18) r14.1.1, Ch.own n0 n0 (Sl a20 r14.1.2 c21) r14.1.2, Ch.bx n0 b23 0 [(Sl a17 r14.1.1 c18), (Sl a20 r14.1.2 c21)] [] [], Ch.own n0 n0 (Sl a30 r27.1.1 c31) r27.1.1, Ch.own n0 n0 (Sl a32 r27.1.2 c33) r27.1.2, Ch.bx n0 b35 0 [(Sl a30 r27.1.1 c31), (Sl a32 r27.1.2 c33)] [] []]) ?_ ?_
  ·clear h'
   rename _ = some o38 => h
   refine rg ?_
   have hc39 := H.cells 3 rfl
   refine st (v := (.agg #[(Sl a17 r14.1.1 c18), (Sl a20 r14.1.2 c21)])) (rv_load (cs := [(Sl a17 r14.1.1 c18), (Sl a20 r14.1.2 c21)]) Try.underlying26 rfl ti26 rfl rfl hc39) ?_
   have hc40 := H.cells 0 rfl
   refine st (v := (.agg #[(Sl a30 r27.1.1 c31), (Sl a32 r27.1.2 c33)])) (rv_load (cs := [(Sl a30 r27.1.1 c31), (Sl a32 r27.1.2 c33)]) Try.underlying26 rfl ti26 rfl rfl hc40) ?_
   obtain ⟨r41, hx42, h'⟩ := bind_some h
   clear h
   have h := h'; clear h'
   have hc43 := c_laws_equalHistory (aa_0_0 := a17) (ca_0_0 := c18) (aa_0_1 := a20) (ca_0_1 := c21) (ab_1_0 := a30) (cb_1_0 := c31) (ab_1_1 := a32) (cb_1_1 := c33) hx42
   have hle := Nat.le_trans hn0 H.size
   refine st_call (cx_lend (Loan.lend (Loan.lend (Loan.lend (Loan.lend Loan.nil)))) hc43 (ent_f hc43.fn rfl) (show Hp S0 σ0 _ ([Ch.own n0 n0 (Sl a17 r14.1.1 c18) r14.1.1, Ch.own n0 n0 (Sl a20 r14.1.2 c21) r14.1.2, Ch.own n0 n0 (Sl a30 r27.1.1 c31) r27.1.1, Ch.own n0 n0 (Sl a32 r27.1.2 c33) r27.1.2] ++ ([] ++ [Ch.bx n0 b35 0 [(Sl a30 r27.1.1 c31), (Sl a32 r27.1.2 c33)] [] [], Ch.bx n0 b23 0 [(Sl a17 r14.1.1 c18), (Sl a20 r14.1.2 c21)] [] [], Ch.bx n0 b10 0 [(Sl a5 r2.1.1 c6), (Sl a7 r2.1.2 c8)] [] [], Ch.ro n0 (Sl a5 r2.1.1 c6) r2.1.1, Ch.ro n0 (Sl a7 r2.1.2 c8) r2.1.2])) from (H.sel' [4, 5, 1, 2, 0, 3, 6, 7, 8] rfl rfl)) (by rintro _ _ _ ⟨rfl, rfl⟩; exact trivial)) wn ?_
   rintro _ σ44 ⟨_, ⟨rfl, rfl⟩, H, -, -⟩
   replace H : Hp S0 σ0 σ44 [Ch.own n0 n0 (Sl a17 r14.1.1 c18) r14.1.1, Ch.own n0 n0 (Sl a20 r14.1.2 c21) r14.1.2, Ch.own n0 n0 (Sl a30 r27.1.1 c31) r27.1.1, Ch.own n0 n0 (Sl a32 r27.1.2 c33) r27.1.2, Ch.bx n0 b35 0 [(Sl a30 r27.1.1 c31), (Sl a32 r27.1.2 c33)] [] [], Ch.bx n0 b23 0 [(Sl a17 r14.1.1 c18), (Sl a20 r14.1.2 c21)] [] [], Ch.bx n0 b10 0 [(Sl a5 r2.1.1 c6), (Sl a7 r2.1.2 c8)] [] [], Ch.ro n0 (Sl a5 r2.1.1 c6) r2.1.1, Ch.ro n0 (Sl a7 r2.1.2 c8) r2.1.2] := H
   clear hle
   replace H : Hp S0 σ0 σ44 [Ch.own n0 n0 (Sl a17 r14.1.1 c18) r14.1.1, Ch.own n0 n0 (Sl a20 r14.1.2 c21) r14.1.2, Ch.own n0 n0 (Sl a30 r27.1.1 c31) r27.1.1, Ch.own n0 n0 (Sl a32 r27.1.2 c33) r27.1.2, Ch.bx n0 b35 0 [(Sl a30 r27.1.1 c31), (Sl a32 r27.1.2 c33)] [] [], Ch.bx n0 b23 0 [(Sl a17 r14.1.1 c18), (Sl a20 r14.1.2 c21)] [] [], Ch.bx n0 b10 0 [(Sl a5 r2.1.1 c6), (Sl a7 r2.1.2 c8)] [] [], Ch.ro n0 (Sl a5 r2.1.1 c6) r2.1.1, Ch.ro n0 (Sl a7 r2.1.2 c8) r2.1.2] := H
   refine st (v := (B (!r41))) (rv_not rfl) ?_
   refine st (v := (B (!r41))) (rv_move rfl) ?_
   rcases Bool.eq_false_or_eq_true (!r41) with hb45 | hb45
   ·replace h := bif_t hb45 h
    refine st_skip (congrArg some hb45) ?_
    refine st_skip (congrArg some hb45) ?_
    refine st_skip (congrArg some hb45) ?_
    refine st (v := (B true)) (rv_pick_t (congrArg B hb45) rfl) ?_
    refine st (v := (B true)) (rv_move rfl) ?_
    refine st_skip rfl ?_
    refine st_skip rfl ?_
    refine st (v := (B true)) (rv_pick_t rfl rfl) ?_
    refine w_end ?_
    obtain rfl := Option.some.inj h
    exact ⟨rfl, _, σ44, fr_join ⟨rfl, rfl, rfl, rfl, rfl, rfl, trivial⟩, rfl, H.sel' [7, 8, 6, 0, 1, 5, 2, 3, 4] rfl rfl⟩
   ·replace h := bif_f hb45 h
    refine st_g (v := (B r14.2)) (congrArg some hb45) (rv_move rfl) ?_
    refine st_g (v := (B r27.2)) (congrArg some hb45) (rv_move rfl) ?_
    refine st_g (v := (B (r14.2 != r27.2))) (congrArg some hb45) (rv_bneq Try.underlying4 rfl rfl) ?_
    refine st (v := (B (r14.2 != r27.2))) (rv_pick_f (congrArg B hb45) rfl) ?_
    refine st (v := (B (r14.2 != r27.2))) (rv_move rfl) ?_
    rcases Bool.eq_false_or_eq_true (r14.2 != r27.2) with hb46 | hb46
    ·replace h := bif_t hb46 h
     refine st_skip (congrArg some hb46) ?_
     refine st_skip (congrArg some hb46) ?_
     refine st (v := (B true)) (rv_pick_t (congrArg B hb46) rfl) ?_
     refine w_end ?_
     obtain rfl := Option.some.inj h
     exact ⟨rfl, _, σ44, fr_join ⟨rfl, rfl, rfl, rfl, rfl, rfl, trivial⟩, rfl, H.sel' [7, 8, 6, 0, 1, 5, 2, 3, 4] rfl rfl⟩
    ·replace h := bif_f hb46 h
     refine st_g (v := (B r14.2)) (congrArg some hb46) (rv_move rfl) ?_
     refine st_g (v := (B (!r14.2))) (congrArg some hb46) (rv_not rfl) ?_
     refine st (v := (B (!r14.2))) (rv_pick_f (congrArg B hb46) rfl) ?_
     refine w_end ?_
     obtain rfl := Option.some.inj h
     exact ⟨rfl, _, σ44, fr_join ⟨rfl, rfl, rfl, rfl, rfl, rfl, trivial⟩, rfl, H.sel' [7, 8, 6, 0, 1, 5, 2, 3, 4] rfl rfl⟩
  ·clear hj
   have h := h'
   clear h' H
   rintro e a w ⟨rfl, ρ, σ47, rfl, rfl, H⟩
   refine q_then ?_
   refine cd_cond o38 rfl (fun hb48 => ?_) (fun hb48 => ?_)
   ·replace h := bif_t hb48 h
    refine c_seq ?_
    refine rg ?_
    have hc49 := H.cells 5 rfl
    refine st (v := (.agg #[(Sl a17 r14.1.1 c18), (Sl a20 r14.1.2 c21)])) (rv_load (cs := [(Sl a17 r14.1.1 c18), (Sl a20 r14.1.2 c21)]) Try.underlying26 rfl ti26 rfl rfl hc49) ?_
    have hc50 := H.cells 8 rfl
    refine st (v := (.agg #[(Sl a30 r27.1.1 c31), (Sl a32 r27.1.2 c33)])) (rv_load (cs := [(Sl a30 r27.1.1 c31), (Sl a32 r27.1.2 c33)]) Try.underlying26 rfl ti26 rfl rfl hc50) ?_
    obtain ⟨σ51, hw52, H, -⟩ := H.pub 3 rfl (Nat.le_refl _)
    rw [← hw52]; clear hw52
    obtain ⟨σ53, hw54, H, -⟩ := H.pub 4 rfl (Nat.le_refl _)
    rw [← hw54]; clear hw54
    obtain ⟨σ55, hw56, H, -⟩ := H.pub 6 rfl (Nat.le_refl _)
    rw [← hw56]; clear hw56
    obtain ⟨σ57, hw58, H, -⟩ := H.pub 7 rfl (Nat.le_refl _)
    rw [← hw58]; clear hw58
    replace H := H.roLow 3 0 rfl (Nat.zero_le _)
    replace H := H.roLow 3 0 rfl (Nat.zero_le _)
    replace H := H.roLow 3 0 rfl (Nat.zero_le _)
    replace H := H.roLow 3 0 rfl (Nat.zero_le _)
    obtain ⟨r59, hx60, h'⟩ := bind_some h
    clear h
    have h := h'; clear h'
    have hc61 := c_laws_equalHistory (aa_0_0 := a17) (ca_0_0 := c18) (aa_0_1 := a20) (ca_0_1 := c21) (ab_1_0 := a30) (cb_1_0 := c31) (ab_1_1 := a32) (cb_1_1 := c33) hx60
    refine st_call (cx_call hc61 (ent_f hc61.fn rfl) hn0 (show Hp S0 σ0 _ ([Ch.ro 0 (Sl a17 r14.1.1 c18) r14.1.1, Ch.ro 0 (Sl a20 r14.1.2 c21) r14.1.2, Ch.ro 0 (Sl a30 r27.1.1 c31) r27.1.1, Ch.ro 0 (Sl a32 r27.1.2 c33) r27.1.2] ++ [Ch.ro 0 (Sl a32 r27.1.2 c33) r27.1.2, Ch.ro 0 (Sl a30 r27.1.1 c31) r27.1.1, Ch.ro 0 (Sl a20 r14.1.2 c21) r14.1.2, Ch.ro 0 (Sl a17 r14.1.1 c18) r14.1.1, Ch.ro n0 (Sl a32 r27.1.2 c33) r27.1.2, Ch.ro n0 (Sl a30 r27.1.1 c31) r27.1.1, Ch.ro n0 (Sl a20 r14.1.2 c21) r14.1.2, Ch.ro n0 (Sl a17 r14.1.1 c18) r14.1.1, Ch.ro n0 (Sl a5 r2.1.1 c6) r2.1.1, Ch.ro n0 (Sl a7 r2.1.2 c8) r2.1.2, Ch.bx n0 b10 0 [(Sl a5 r2.1.1 c6), (Sl a7 r2.1.2 c8)] [] [], Ch.bx n0 b23 0 [(Sl a17 r14.1.1 c18), (Sl a20 r14.1.2 c21)] [] [], Ch.bx n0 b35 0 [(Sl a30 r27.1.1 c31), (Sl a32 r27.1.2 c33)] [] []]) from (H.sel' [3, 2, 1, 0, 0, 1, 2, 3, 4, 5, 6, 7, 8, 9, 10, 11, 12] rfl rfl))) wn ?_
    rintro _ σ62 ⟨_, ⟨rfl, rfl⟩, H, -⟩
    replace H : Hp S0 σ0 σ62 [Ch.ro 0 (Sl a32 r27.1.2 c33) r27.1.2, Ch.ro 0 (Sl a30 r27.1.1 c31) r27.1.1, Ch.ro 0 (Sl a20 r14.1.2 c21) r14.1.2, Ch.ro 0 (Sl a17 r14.1.1 c18) r14.1.1, Ch.ro n0 (Sl a32 r27.1.2 c33) r27.1.2, Ch.ro n0 (Sl a30 r27.1.1 c31) r27.1.1, Ch.ro n0 (Sl a20 r14.1.2 c21) r14.1.2, Ch.ro n0 (Sl a17 r14.1.1 c18) r14.1.1, Ch.ro n0 (Sl a5 r2.1.1 c6) r2.1.1, Ch.ro n0 (Sl a7 r2.1.2 c8) r2.1.2, Ch.bx n0 b10 0 [(Sl a5 r2.1.1 c6), (Sl a7 r2.1.2 c8)] [] [], Ch.bx n0 b23 0 [(Sl a17 r14.1.1 c18), (Sl a20 r14.1.2 c21)] [] [], Ch.bx n0 b35 0 [(Sl a30 r27.1.1 c31), (Sl a32 r27.1.2 c33)] [] []] := H
    replace H : Hp S0 σ0 σ62 [] := H.sel' [] rfl rfl
    refine st (v := (B r59)) (rv_move rfl) ?_
    rcases Bool.eq_false_or_eq_true r59 with hb63 | hb63
    ·replace h := bif_t hb63 h
     refine st_g (v := (B r14.2)) (congrArg some hb63) (rv_move rfl) ?_
     refine st_g (v := (B r27.2)) (congrArg some hb63) (rv_move rfl) ?_
     refine st_g (v := (B (r14.2 == r27.2))) (congrArg some hb63) (rv_beql Try.underlying4 rfl rfl) ?_
     refine st (v := (B (r14.2 == r27.2))) (rv_pick_t (congrArg B hb63) rfl) ?_
     refine st (v := (B (r14.2 == r27.2))) (rv_assign rfl) ?_
     refine w_end ?_
     refine q_then ?_
     refine c_ret ?_
     refine q_then_r ?_
     obtain rfl := Option.some.inj h
     exact fin_ret (v := (B (r14.2 == r27.2))) (results_ok Try.results14 (res_tmp (v := (B (r14.2 == r27.2))) rfl res_nil) rfl) ⟨rfl, rfl⟩ (H.sel' [] rfl rfl)
    ·replace h := bif_f hb63 h
     refine st_skip (congrArg some hb63) ?_
     refine st_skip (congrArg some hb63) ?_
     refine st_skip (congrArg some hb63) ?_
     refine st (v := (B false)) (rv_pick_f (congrArg B hb63) rfl) ?_
     refine st (v := (B false)) (rv_assign rfl) ?_
     refine w_end ?_
     refine q_then ?_
     refine c_ret ?_
     refine q_then_r ?_
     obtain rfl := Option.some.inj h
     exact fin_ret (v := (B false)) (results_ok Try.results14 (res_tmp (v := (B false)) rfl res_nil) rfl) ⟨rfl, rfl⟩ (H.sel' [] rfl rfl)
   ·replace h := bif_f hb48 h
    refine c_skip ?_
    refine q_then ?_
    refine c_seq ?_
    refine c_seq ?_
    refine rg ?_
    refine st (v := (pt b23 0)) (rv_fieldAddr (off := 0) (ft := 23) Try.underlying26 rfl ti23 rfl rfl) ?_
    have hc64 := H.cell (u := (Sl a17 r14.1.1 c18)) (o' := 0) 5 0 rfl rfl rfl
    refine st (v := (Sl a17 r14.1.1 c18)) (rv_load1 Try.underlying23 rfl rfl hc64) ?_
    refine st (v := (I (r14.1.1.length : Int))) (rv_len Try.underlying23 rfl) ?_
    refine st (v := (I (r14.1.1.length : Int))) (rv_assign rfl) ?_
    refine w_end ?_
    refine q_then ?_
    obtain ⟨o65, hj, h'⟩ := bind_some h
    clear h
    refine c_cut (fun e a w => (∃ t, o65 = (.inl t) ∧ e = .normal ∧ ∃ (ρ : Nat → Value) (σ : St) (aj1 : Option Addr) (cj2 : Nat) (aj4 : Option Addr) (cj5 : Nat), a = fr 84 (updL ρ [(3, (pt b10 0)), (5, (pt b23 0))]) ∧ w = σ.w ∧ Hp S0 σ0 σ [Ch.bx n0 b23 0 [(Sl aj1 t.1 cj2), (Sl aj4 t.2 cj5)] [] [], Ch.own n0 n0 (Sl aj1 t.1 cj2) t.1, Ch.own n0 n0 (Sl aj4 t.2 cj5) t.2, Ch.ro n0 (Sl a5 r2.1.1 c6) r2.1.1, Ch.ro n0 (Sl a7 r2.1.2 c8) r2.1.2, Ch.bx n0 b10 0 [(Sl a5 r2.1.1 c6), (Sl a7 r2.1.2 c8)] [] []] ∧ cj2 = t.1.length) ∨ (∃ t, o65 = (.inr t) ∧ e = .ret ∧ ∃ (ρ : Nat → Value) (σ : St), a = fr 84 (updL ρ [(2, (B t))]) ∧ w = σ.w ∧ Hp S0 σ0 σ [])) ?_ ?_
    ·clear h'
     rename _ = some o65 => h
     refine c_blk ?_
     refine wp_loopM _ h (fun s66 a w => ∃ (ρ : Nat → Value) (σ : St) (aj1 : Option Addr) (cj2 : Nat) (aj4 : Option Addr) (cj5 : Nat), a = fr 84 (updL ρ [(3, (pt b10 0)), (5, (pt b23 0)), (9, (I s66.2))]) ∧ w = σ.w ∧ Hp S0 σ0 σ [Ch.bx n0 b23 0 [(Sl aj1 s66.1.1 cj2), (Sl aj4 s66.1.2 cj5)] [] [], Ch.own n0 n0 (Sl aj1 s66.1.1 cj2) s66.1.1, Ch.own n0 n0 (Sl aj4 s66.1.2 cj5) s66.1.2, Ch.ro n0 (Sl a5 r2.1.1 c6) r2.1.1, Ch.ro n0 (Sl a7 r2.1.2 c8) r2.1.2, Ch.bx n0 b10 0 [(Sl a5 r2.1.1 c6), (Sl a7 r2.1.2 c8)] [] []] ∧ cj2 = s66.1.1.length) ⟨_, σ47, a17, c18, a20, c21, fr_join ⟨rfl, rfl, rfl, trivial⟩, rfl, H.sel' [5, 3, 4, 0, 1, 2] rfl rfl, ht19⟩ ?_
     clear h H
     rintro s66 a w o ⟨ρ, σ67, a68, c69, a71, c72, rfl, rfl, H, ht70⟩ h hres
     refine c_seq ?_
     refine c_seq ?_
     refine rg ?_
     refine st (v := (I s66.2)) (rv_move rfl) ?_
     refine st (v := (pt b10 0)) (rv_fieldAddr (off := 0) (ft := 23) Try.underlying26 rfl ti23 rfl rfl) ?_
     have hc73 := H.cell (u := (Sl a5 r2.1.1 c6)) (o' := 0) 5 0 rfl rfl rfl
     refine st (v := (Sl a5 r2.1.1 c6)) (rv_load1 Try.underlying23 rfl rfl hc73) ?_
     refine st (v := (I (r2.1.1.length : Int))) (rv_len Try.underlying23 rfl) ?_
     refine st (v := (B (decide (s66.2 < (r2.1.1.length : Int))))) (rv_lss (a := s66.2) (b := (r2.1.1.length : Int)) rfl rfl) ?_
     refine w_end ?_
     refine q_then ?_
     refine cd_cond (decide (s66.2 < (r2.1.1.length : Int))) rfl (fun hb74 => ?_) (fun hb74 => ?_)
     ·replace h := bif_t hb74 h
      refine c_skip ?_
      refine q_then ?_
      refine c_seq ?_
      refine c_blk ?_
      refine c_seq ?_
      obtain ⟨σ75, hw76, H, -⟩ := H.pub 1 rfl (Nat.le_refl _)
      rw [← hw76]; clear hw76
      obtain ⟨σ77, hw78, H, -⟩ := H.pub 2 rfl (Nat.le_refl _)
      rw [← hw78]; clear hw78
      have hc79 := H.cells 2 rfl
      have hc80 := H.cell (u := (Sl a5 r2.1.1 c6)) (o' := 0) 5 0 rfl rfl rfl
      obtain ⟨x81, hx82, h'⟩ := bind_some h
      clear h
      have h := h'; clear h'
      obtain ⟨b84, o85, hi83, -⟩ := (H.ro 3 rfl).ix hx82
      obtain ⟨_, ⟨_, _, rfl, rfl, ⟨_, _, rfl, rfl, ⟨_, _, rfl, ⟨_, rfl, hR90⟩, rfl⟩⟩⟩, hl86, hc87⟩ := ((H.ro 3 rfl).at hx82 hi83).cells
      obtain ⟨a88, c89, rfl⟩ := hR90.isSl
      replace H := H.add (d := Ch.ro n0 (Sl a88 x81.2.2.1 c89) x81.2.2.1) hR90 (fun _ h => h)
      clear hR90
      have hc91 := H.cell (u := (Sl a7 r2.1.2 c8)) (o' := 1) 6 1 rfl rfl rfl
      obtain ⟨x92, hx93, h'⟩ := bind_some h
      clear h
      have h := h'; clear h'
      obtain ⟨b95, o96, hi94, -⟩ := (H.ro 5 rfl).ix hx93
      have hc97 := ((H.ro 5 rfl).at hx93 hi94).int
      replace H := H.roLow 2 0 rfl (Nat.zero_le _)
      replace H := H.roLow 2 0 rfl (Nat.zero_le _)
      replace H := H.roLow 2 0 rfl (Nat.zero_le _)
      obtain ⟨r98, hx99, h'⟩ := bind_some h
      clear h
      have h := h'; clear h'
      have hc100 := c_impl_AddEntry (ah_0_0 := a68) (ch_0_0 := c69) (ah_0_1 := a71) (ch_0_1 := c72) (ae_1_1_1 := a88) (ce_1_1_1 := c89) hx99
      have Hs := H
      refine rg2 (σ := σ77) (Nm := (Option Addr) × (Nat) × (Option Addr) × (Nat) × (Nat)) 17 [11, 15, 16] [[false, false, false], [true, false, false], [false, true, false], [true, true, false], [true, true, true]] [[(0, 0), (2, 2)], [(0, 0), (2, 2)], [(0, 0), (2, 2)], [(0, 0), (2, 2)], [(0, 0), (2, 2)], [(0, 0), (2, 2)], [(0, 0), (2, 2)], [(0, 0), (2, 2)], [(0, 0), (2, 2)], [(0, 0), (2, 2)], [(0, 0), (2, 2)], [(0, 1), (2, 3)], [(1, 1), (3, 3)], [(1, 1), (3, 3)], [(1, 1), (3, 3), (4, 4)], [(0, 2), (1, 3)], [(3, 4)]] 4 [fun ((a101, c102, a104, c105, b106) : (Option Addr) × (Nat) × (Option Addr) × (Nat) × (Nat)) => fun σm => Hp S0 σ0 σm [Ch.ro 0 (Sl a88 x81.2.2.1 c89) x81.2.2.1, Ch.ro 0 (Sl a71 s66.1.2 c72) s66.1.2, Ch.ro 0 (Sl a68 s66.1.1 c69) s66.1.1, Ch.ro n0 (Sl a88 x81.2.2.1 c89) x81.2.2.1, Ch.ro n0 (Sl a71 s66.1.2 c72) s66.1.2, Ch.ro n0 (Sl a68 s66.1.1 c69) s66.1.1, Ch.bx n0 b23 0 [(Sl a68 s66.1.1 c69), (Sl a71 s66.1.2 c72)] [] [], Ch.ro n0 (Sl a5 r2.1.1 c6) r2.1.1, Ch.ro n0 (Sl a7 r2.1.2 c8) r2.1.2, Ch.bx n0 b10 0 [(Sl a5 r2.1.1 c6), (Sl a7 r2.1.2 c8)] [] []] ∧ Md (cov []) σ77 σm, fun ((a101, c102, a104, c105, b106) : (Option Addr) × (Nat) × (Option Addr) × (Nat) × (Nat)) => fun σm => Hp S0 σ0 σm [Ch.own n0 n0 (Sl a101 r98.1.1 c102) r98.1.1, Ch.own n0 n0 (Sl a104 r98.1.2 c105) r98.1.2, Ch.ro 0 (Sl a88 x81.2.2.1 c89) x81.2.2.1, Ch.ro 0 (Sl a71 s66.1.2 c72) s66.1.2, Ch.ro 0 (Sl a68 s66.1.1 c69) s66.1.1, Ch.ro n0 (Sl a88 x81.2.2.1 c89) x81.2.2.1, Ch.ro n0 (Sl a71 s66.1.2 c72) s66.1.2, Ch.ro n0 (Sl a68 s66.1.1 c69) s66.1.1, Ch.bx n0 b23 0 [(Sl a68 s66.1.1 c69), (Sl a71 s66.1.2 c72)] [] [], Ch.ro n0 (Sl a5 r2.1.1 c6) r2.1.1, Ch.ro n0 (Sl a7 r2.1.2 c8) r2.1.2, Ch.bx n0 b10 0 [(Sl a5 r2.1.1 c6), (Sl a7 r2.1.2 c8)] [] []] ∧ Md (cov []) σ77 σm ∧ c102 = r98.1.1.length, fun ((a101, c102, a104, c105, b106) : (Option Addr) × (Nat) × (Option Addr) × (Nat) × (Nat)) => fun σm => Hp S0 σ0 σm [Ch.bx n0 b106 0 [(.slice none 0 0), (.slice none 0 0)] [] [], Ch.ro 0 (Sl a88 x81.2.2.1 c89) x81.2.2.1, Ch.ro 0 (Sl a71 s66.1.2 c72) s66.1.2, Ch.ro 0 (Sl a68 s66.1.1 c69) s66.1.1, Ch.ro n0 (Sl a88 x81.2.2.1 c89) x81.2.2.1, Ch.ro n0 (Sl a71 s66.1.2 c72) s66.1.2, Ch.ro n0 (Sl a68 s66.1.1 c69) s66.1.1, Ch.bx n0 b23 0 [(Sl a68 s66.1.1 c69), (Sl a71 s66.1.2 c72)] [] [], Ch.ro n0 (Sl a5 r2.1.1 c6) r2.1.1, Ch.ro n0 (Sl a7 r2.1.2 c8) r2.1.2, Ch.bx n0 b10 0 [(Sl a5 r2.1.1 c6), (Sl a7 r2.1.2 c8)] [] []] ∧ Md (cov []) σ77 σm, fun ((a101, c102, a104, c105, b106) : (Option Addr) × (Nat) × (Option Addr) × (Nat) × (Nat)) => fun σm => Hp S0 σ0 σm [Ch.bx n0 b106 0 [(.slice none 0 0), (.slice none 0 0)] [] [], Ch.own n0 n0 (Sl a101 r98.1.1 c102) r98.1.1, Ch.own n0 n0 (Sl a104 r98.1.2 c105) r98.1.2, Ch.ro 0 (Sl a88 x81.2.2.1 c89) x81.2.2.1, Ch.ro 0 (Sl a71 s66.1.2 c72) s66.1.2, Ch.ro 0 (Sl a68 s66.1.1 c69) s66.1.1, Ch.ro n0 (Sl a88 x81.2.2.1 c89) x81.2.2.1, Ch.ro n0 (Sl a71 s66.1.2 c72) s66.1.2, Ch.ro n0 (Sl a68 s66.1.1 c69) s66.1.1, Ch.bx n0 b23 0 [(Sl a68 s66.1.1 c69), (Sl a71 s66.1.2 c72)] [] [], Ch.ro n0 (Sl a5 r2.1.1 c6) r2.1.1, Ch.ro n0 (Sl a7 r2.1.2 c8) r2.1.2, Ch.bx n0 b10 0 [(Sl a5 r2.1.1 c6), (Sl a7 r2.1.2 c8)] [] []] ∧ Md (cov []) σ77 σm ∧ c102 = r98.1.1.length, fun ((a101, c102, a104, c105, b106) : (Option Addr) × (Nat) × (Option Addr) × (Nat) × (Nat)) => fun σm => Hp S0 σ0 σm [Ch.bx n0 b106 0 [(Sl a101 r98.1.1 c102), (Sl a104 r98.1.2 c105)] [] [], Ch.own n0 n0 (Sl a101 r98.1.1 c102) r98.1.1, Ch.own n0 n0 (Sl a104 r98.1.2 c105) r98.1.2, Ch.ro 0 (Sl a88 x81.2.2.1 c89) x81.2.2.1, Ch.ro 0 (Sl a71 s66.1.2 c72) s66.1.2, Ch.ro 0 (Sl a68 s66.1.1 c69) s66.1.1, Ch.ro n0 (Sl a88 x81.2.2.1 c89) x81.2.2.1, Ch.ro n0 (Sl a71 s66.1.2 c72) s66.1.2, Ch.ro n0 (Sl a68 s66.1.1 c69) s66.1.1, Ch.bx n0 b23 0 [(Sl a68 s66.1.1 c69), (Sl a71 s66.1.2 c72)] [] [], Ch.ro n0 (Sl a5 r2.1.1 c6) r2.1.1, Ch.ro n0 (Sl a7 r2.1.2 c8) r2.1.2, Ch.bx n0 b10 0 [(Sl a5 r2.1.1 c6), (Sl a7 r2.1.2 c8)] [] []] ∧ Md (fun i => (cov []) i ∨ (fun i => i = b106) i) σ77 σm ∧ c102 = r98.1.1.length] [fun ((a101, c102, a104, c105, b106) : (Option Addr) × (Nat) × (Option Addr) × (Nat) × (Nat)) => (.agg #[(Sl a68 s66.1.1 c69), (Sl a71 s66.1.2 c72)]), fun ((a101, c102, a104, c105, b106) : (Option Addr) × (Nat) × (Option Addr) × (Nat) × (Nat)) => (pt b10 0), fun ((a101, c102, a104, c105, b106) : (Option Addr) × (Nat) × (Option Addr) × (Nat) × (Nat)) => (Sl a5 r2.1.1 c6), fun ((a101, c102, a104, c105, b106) : (Option Addr) × (Nat) × (Option Addr) × (Nat) × (Nat)) => (I s66.2), fun ((a101, c102, a104, c105, b106) : (Option Addr) × (Nat) × (Option Addr) × (Nat) × (Nat)) => (pt b84 o85), fun ((a101, c102, a104, c105, b106) : (Option Addr) × (Nat) × (Option Addr) × (Nat) × (Nat)) => (.agg #[(I x81.1), (I x81.2.1), (Sl a88 x81.2.2.1 c89), (I x81.2.2.2)]), fun ((a101, c102, a104, c105, b106) : (Option Addr) × (Nat) × (Option Addr) × (Nat) × (Nat)) => (pt b10 1), fun ((a101, c102, a104, c105, b106) : (Option Addr) × (Nat) × (Option Addr) × (Nat) × (Nat)) => (Sl a7 r2.1.2 c8), fun ((a101, c102, a104, c105, b106) : (Option Addr) × (Nat) × (Option Addr) × (Nat) × (Nat)) => (I s66.2), fun ((a101, c102, a104, c105, b106) : (Option Addr) × (Nat) × (Option Addr) × (Nat) × (Nat)) => (pt b95 o96), fun ((a101, c102, a104, c105, b106) : (Option Addr) × (Nat) × (Option Addr) × (Nat) × (Nat)) => (I x92), fun ((a101, c102, a104, c105, b106) : (Option Addr) × (Nat) × (Option Addr) × (Nat) × (Nat)) => (.tuple #[(.agg #[(Sl a101 r98.1.1 c102), (Sl a104 r98.1.2 c105)]), (B r98.2)]), fun ((a101, c102, a104, c105, b106) : (Option Addr) × (Nat) × (Option Addr) × (Nat) × (Nat)) => (.tuple #[(.agg #[(Sl a101 r98.1.1 c102), (Sl a104 r98.1.2 c105)]), (B r98.2)]), fun ((a101, c102, a104, c105, b106) : (Option Addr) × (Nat) × (Option Addr) × (Nat) × (Nat)) => (.agg #[(Sl a101 r98.1.1 c102), (Sl a104 r98.1.2 c105)]), fun ((a101, c102, a104, c105, b106) : (Option Addr) × (Nat) × (Option Addr) × (Nat) × (Nat)) => (B r98.2), fun ((a101, c102, a104, c105, b106) : (Option Addr) × (Nat) × (Option Addr) × (Nat) × (Nat)) => (pt b106 0), fun ((a101, c102, a104, c105, b106) : (Option Addr) × (Nat) × (Option Addr) × (Nat) × (Nat)) => undef] (none, 0, none, 0, 0) (by kernel_rfl) (by kernel_rfl) ?_ ?_ ?_
      ·intro σm m0
       exact ⟨H.grow (m0.mono fun _ h => h.elim), m0⟩
      ·refine all_cons (by
         refine ⟨?_, ?_⟩
         ·rintro ⟨a101, c102, a104, c105, b106⟩ ρ σm hJ hoff hdep
          have e5 := look_off (N := 84) (hoff 5 rfl) rfl
          obtain ⟨H, m⟩ := id hJ
          have hc79 := H.cells 6 rfl
          exact dp_v (v := (.agg #[(Sl a68 s66.1.1 c69), (Sl a71 s66.1.2 c72)])) wn (rv_load (cs := [(Sl a68 s66.1.1 c69), (Sl a71 s66.1.2 c72)]) Try.underlying26 rfl ti26 e5 rfl hc79) rfl hJ
         refine ⟨?_, ?_⟩
         ·rintro ⟨a101, c102, a104, c105, b106⟩ ρ σm hJ hoff hdep
          have e5 := look_off (N := 84) (hoff 5 rfl) rfl
          obtain ⟨H, m⟩ := id hJ
          have hc79 := H.cells 7 rfl
          exact dp_v (v := (.agg #[(Sl a68 s66.1.1 c69), (Sl a71 s66.1.2 c72)])) wn (rv_load (cs := [(Sl a68 s66.1.1 c69), (Sl a71 s66.1.2 c72)]) Try.underlying26 rfl ti26 e5 rfl hc79) rfl hJ
         trivial) ?_
       refine ac rfl (by
         intro k; rintro ⟨a101, c102, a104, c105, b106⟩ ρ σm hJ hoff hdep
         have e3 := look_off (N := 84) (hoff 3 rfl) rfl
         exact dp_v (v := (pt b10 0)) wn (rv_fieldAddr (off := 0) (ft := 23) Try.underlying26 rfl ti23 rfl e3) rfl hJ) ?_
       refine all_cons (by
         refine ⟨?_, ?_⟩
         ·rintro ⟨a101, c102, a104, c105, b106⟩ ρ σm hJ hoff hdep
          have e65 := hdep 1 rfl rfl 65 rfl
          obtain ⟨H, m⟩ := id hJ
          have hc80 := H.cell (u := (Sl a5 r2.1.1 c6)) (o' := 0) 9 0 rfl rfl rfl
          exact dp_v (v := (Sl a5 r2.1.1 c6)) wn (rv_load1 Try.underlying23 rfl e65 hc80) rfl hJ
         refine ⟨?_, ?_⟩
         ·rintro ⟨a101, c102, a104, c105, b106⟩ ρ σm hJ hoff hdep
          have e65 := hdep 1 rfl rfl 65 rfl
          obtain ⟨H, m⟩ := id hJ
          have hc80 := H.cell (u := (Sl a5 r2.1.1 c6)) (o' := 0) 10 0 rfl rfl rfl
          exact dp_v (v := (Sl a5 r2.1.1 c6)) wn (rv_load1 Try.underlying23 rfl e65 hc80) rfl hJ
         trivial) ?_
       refine ac rfl (by
         intro k; rintro ⟨a101, c102, a104, c105, b106⟩ ρ σm hJ hoff hdep
         have e9 := look_off (N := 84) (hoff 9 rfl) rfl
         exact dp_v (v := (I s66.2)) wn (rv_move e9) rfl hJ) ?_
       refine ac rfl (by
         intro k; rintro ⟨a101, c102, a104, c105, b106⟩ ρ σm hJ hoff hdep
         have e66 := hdep 2 rfl rfl 66 rfl
         have e67 := hdep 3 rfl rfl 67 rfl
         exact dp_v (v := (pt b84 o85)) wn (rv_ix Try.underlying23 ti43 e66 e67 hi83) rfl hJ) ?_
       refine all_cons (by
         refine ⟨?_, ?_⟩
         ·rintro ⟨a101, c102, a104, c105, b106⟩ ρ σm hJ hoff hdep
          have e68 := hdep 4 rfl rfl 68 rfl
          obtain ⟨H, m⟩ := id hJ
          replace hc87 := fun j hj => (Hs.ro 7 rfl).hmd hx82 hi83 (k := j) (Nat.lt_of_lt_of_eq hj hl86) (hc87 j hj) m
          exact dp_v (v := (.agg #[(I x81.1), (I x81.2.1), (Sl a88 x81.2.2.1 c89), (I x81.2.2.2)])) wn (rv_load Try.underlying43 rfl ti43 e68 hl86 hc87) rfl hJ
         refine ⟨?_, ?_⟩
         ·rintro ⟨a101, c102, a104, c105, b106⟩ ρ σm hJ hoff hdep
          have e68 := hdep 4 rfl rfl 68 rfl
          obtain ⟨H, m⟩ := id hJ
          replace hc87 := fun j hj => (Hs.ro 7 rfl).hmd hx82 hi83 (k := j) (Nat.lt_of_lt_of_eq hj hl86) (hc87 j hj) m
          exact dp_v (v := (.agg #[(I x81.1), (I x81.2.1), (Sl a88 x81.2.2.1 c89), (I x81.2.2.2)])) wn (rv_load Try.underlying43 rfl ti43 e68 hl86 hc87) rfl hJ
         trivial) ?_
       refine ac rfl (by
         intro k; rintro ⟨a101, c102, a104, c105, b106⟩ ρ σm hJ hoff hdep
         have e3 := look_off (N := 84) (hoff 3 rfl) rfl
         exact dp_v (v := (pt b10 1)) wn (rv_fieldAddr (off := 1) (ft := 24) Try.underlying26 rfl ti24 rfl e3) rfl hJ) ?_
       refine all_cons (by
         refine ⟨?_, ?_⟩
         ·rintro ⟨a101, c102, a104, c105, b106⟩ ρ σm hJ hoff hdep
          have e70 := hdep 6 rfl rfl 70 rfl
          obtain ⟨H, m⟩ := id hJ
          have hc91 := H.cell (u := (Sl a7 r2.1.2 c8)) (o' := 1) 9 1 rfl rfl rfl
          exact dp_v (v := (Sl a7 r2.1.2 c8)) wn (rv_load1 Try.underlying24 rfl e70 hc91) rfl hJ
         refine ⟨?_, ?_⟩
         ·rintro ⟨a101, c102, a104, c105, b106⟩ ρ σm hJ hoff hdep
          have e70 := hdep 6 rfl rfl 70 rfl
          obtain ⟨H, m⟩ := id hJ
          have hc91 := H.cell (u := (Sl a7 r2.1.2 c8)) (o' := 1) 10 1 rfl rfl rfl
          exact dp_v (v := (Sl a7 r2.1.2 c8)) wn (rv_load1 Try.underlying24 rfl e70 hc91) rfl hJ
         trivial) ?_
       refine ac rfl (by
         intro k; rintro ⟨a101, c102, a104, c105, b106⟩ ρ σm hJ hoff hdep
         have e9 := look_off (N := 84) (hoff 9 rfl) rfl
         exact dp_v (v := (I s66.2)) wn (rv_move e9) rfl hJ) ?_
       refine ac rfl (by
         intro k; rintro ⟨a101, c102, a104, c105, b106⟩ ρ σm hJ hoff hdep
         have e71 := hdep 7 rfl rfl 71 rfl
         have e72 := hdep 8 rfl rfl 72 rfl
         exact dp_v (v := (pt b95 o96)) wn (rv_ix Try.underlying24 ti3 e71 e72 hi94) rfl hJ) ?_
       refine all_cons (by
         refine ⟨?_, ?_⟩
         ·rintro ⟨a101, c102, a104, c105, b106⟩ ρ σm hJ hoff hdep
          have e73 := hdep 9 rfl rfl 73 rfl
          obtain ⟨H, m⟩ := id hJ
          replace hc97 := (Hs.ro 8 rfl).hmd hx93 hi94 (k := 0) (by decide) hc97 m
          exact dp_v (v := (I x92)) wn (rv_load1 Try.underlying3 rfl e73 hc97) rfl hJ
         refine ⟨?_, ?_⟩
         ·rintro ⟨a101, c102, a104, c105, b106⟩ ρ σm hJ hoff hdep
          have e73 := hdep 9 rfl rfl 73 rfl
          obtain ⟨H, m⟩ := id hJ
          replace hc97 := (Hs.ro 8 rfl).hmd hx93 hi94 (k := 0) (by decide) hc97 m
          exact dp_v (v := (I x92)) wn (rv_load1 Try.underlying3 rfl e73 hc97) rfl hJ
         trivial) ?_
       refine all_cons (by
         refine ⟨?_, ?_⟩
         ·rintro ⟨a101, c102, a104, c105, b106⟩ ρ σm hJ hoff hdep
          have e64 : look 84 ρ 64 = (.agg #[(Sl a68 s66.1.1 c69), (Sl a71 s66.1.2 c72)]) := hdep 0 rfl rfl 64 rfl
          have e69 : look 84 ρ 69 = (.agg #[(I x81.1), (I x81.2.1), (Sl a88 x81.2.2.1 c89), (I x81.2.2.2)]) := hdep 5 rfl rfl 69 rfl
          have e74 : look 84 ρ 74 = (I x92) := hdep 10 rfl rfl 74 rfl
          obtain ⟨H, m⟩ := id hJ
          refine dp_cx wn (cx_call hc100 (ent_f hc100.fn (by show [look 84 ρ 64, look 84 ρ 69, look 84 ρ 74] = _; rw [e64, e69, e74])) hn0 (show Hp S0 σ0 _ ([Ch.ro 0 (Sl a68 s66.1.1 c69) s66.1.1, Ch.ro 0 (Sl a71 s66.1.2 c72) s66.1.2, Ch.ro 0 (Sl a88 x81.2.2.1 c89) x81.2.2.1] ++ [Ch.ro 0 (Sl a88 x81.2.2.1 c89) x81.2.2.1, Ch.ro 0 (Sl a71 s66.1.2 c72) s66.1.2, Ch.ro 0 (Sl a68 s66.1.1 c69) s66.1.1, Ch.ro n0 (Sl a88 x81.2.2.1 c89) x81.2.2.1, Ch.ro n0 (Sl a71 s66.1.2 c72) s66.1.2, Ch.ro n0 (Sl a68 s66.1.1 c69) s66.1.1, Ch.bx n0 b23 0 [(Sl a68 s66.1.1 c69), (Sl a71 s66.1.2 c72)] [] [], Ch.ro n0 (Sl a5 r2.1.1 c6) r2.1.1, Ch.ro n0 (Sl a7 r2.1.2 c8) r2.1.2, Ch.bx n0 b10 0 [(Sl a5 r2.1.1 c6), (Sl a7 r2.1.2 c8)] [] []]) from (H.sel' [2, 1, 0, 0, 1, 2, 3, 4, 5, 6, 7, 8, 9] rfl rfl))) ?_
          rintro _ σq ⟨_, ⟨a101x, c102x, a104x, c105x, rfl, rfl, ht103⟩, H2, m2⟩
          exact ⟨_, (a101x, c102x, a104x, c105x, b106), rfl, rfl, ⟨H2.sel' [0, 1, 2, 3, 4, 5, 6, 7, 8, 9, 10, 11] rfl rfl, m.comp0 (m2.mono (fun i h => by simp [cov, Ch.ro] at h)), ht103⟩, stab [0, 1, 2, 3, 4, 5, 6, 7, 8, 9, 10, 15] (by kernel_rfl) ⟨rfl, rfl, rfl, rfl, rfl, rfl, rfl, rfl, rfl, rfl, rfl, rfl, trivial⟩⟩
         refine ⟨?_, ?_⟩
         ·rintro ⟨a101, c102, a104, c105, b106⟩ ρ σm hJ hoff hdep
          have e64 : look 84 ρ 64 = (.agg #[(Sl a68 s66.1.1 c69), (Sl a71 s66.1.2 c72)]) := hdep 0 rfl rfl 64 rfl
          have e69 : look 84 ρ 69 = (.agg #[(I x81.1), (I x81.2.1), (Sl a88 x81.2.2.1 c89), (I x81.2.2.2)]) := hdep 5 rfl rfl 69 rfl
          have e74 : look 84 ρ 74 = (I x92) := hdep 10 rfl rfl 74 rfl
          obtain ⟨H, m⟩ := id hJ
          refine dp_cx wn (cx_call hc100 (ent_f hc100.fn (by show [look 84 ρ 64, look 84 ρ 69, look 84 ρ 74] = _; rw [e64, e69, e74])) hn0 (show Hp S0 σ0 _ ([Ch.ro 0 (Sl a68 s66.1.1 c69) s66.1.1, Ch.ro 0 (Sl a71 s66.1.2 c72) s66.1.2, Ch.ro 0 (Sl a88 x81.2.2.1 c89) x81.2.2.1] ++ [Ch.bx n0 b106 0 [(.slice none 0 0), (.slice none 0 0)] [] [], Ch.ro 0 (Sl a88 x81.2.2.1 c89) x81.2.2.1, Ch.ro 0 (Sl a71 s66.1.2 c72) s66.1.2, Ch.ro 0 (Sl a68 s66.1.1 c69) s66.1.1, Ch.ro n0 (Sl a88 x81.2.2.1 c89) x81.2.2.1, Ch.ro n0 (Sl a71 s66.1.2 c72) s66.1.2, Ch.ro n0 (Sl a68 s66.1.1 c69) s66.1.1, Ch.bx n0 b23 0 [(Sl a68 s66.1.1 c69), (Sl a71 s66.1.2 c72)] [] [], Ch.ro n0 (Sl a5 r2.1.1 c6) r2.1.1, Ch.ro n0 (Sl a7 r2.1.2 c8) r2.1.2, Ch.bx n0 b10 0 [(Sl a5 r2.1.1 c6), (Sl a7 r2.1.2 c8)] [] []]) from (H.sel' [3, 2, 1, 0, 1, 2, 3, 4, 5, 6, 7, 8, 9, 10] rfl rfl))) ?_
          rintro _ σq ⟨_, ⟨a101x, c102x, a104x, c105x, rfl, rfl, ht103⟩, H2, m2⟩
          exact ⟨_, (a101x, c102x, a104x, c105x, b106), rfl, rfl, ⟨H2.sel' [2, 0, 1, 3, 4, 5, 6, 7, 8, 9, 10, 11, 12] rfl rfl, m.comp0 (m2.mono (fun i h => by simp [cov, Ch.ro] at h)), ht103⟩, stab [0, 1, 2, 3, 4, 5, 6, 7, 8, 9, 10, 15] (by kernel_rfl) ⟨rfl, rfl, rfl, rfl, rfl, rfl, rfl, rfl, rfl, rfl, rfl, rfl, trivial⟩⟩
         trivial) ?_
       refine ac rfl (by
         intro k; rintro ⟨a101, c102, a104, c105, b106⟩ ρ σm hJ hoff hdep
         have e75 := hdep 11 rfl rfl 75 rfl
         exact dp_v (v := (.tuple #[(.agg #[(Sl a101 r98.1.1 c102), (Sl a104 r98.1.2 c105)]), (B r98.2)])) wn (rv_move e75) rfl hJ) ?_
       refine ac rfl (by
         intro k; rintro ⟨a101, c102, a104, c105, b106⟩ ρ σm hJ hoff hdep
         have e63 := hdep 12 rfl rfl 63 rfl
         exact dp_v (v := (.agg #[(Sl a101 r98.1.1 c102), (Sl a104 r98.1.2 c105)])) wn (rv_extract e63 rfl) rfl hJ) ?_
       refine ac rfl (by
         intro k; rintro ⟨a101, c102, a104, c105, b106⟩ ρ σm hJ hoff hdep
         have e63 := hdep 12 rfl rfl 63 rfl
         exact dp_v (v := (B r98.2)) wn (rv_extract e63 rfl) rfl hJ) ?_
       refine all_cons (by
         refine ⟨?_, ?_⟩
         ·rintro ⟨a101, c102, a104, c105, b106⟩ ρ σm hJ hoff hdep
          obtain ⟨H, m⟩ := id hJ
          refine dp_ex wn (ex_alloc (cs := [(.slice none 0 0), (.slice none 0 0)]) H hn0 ti26 rfl) ?_
          rintro _ σq ⟨b106x, rfl, H2, m2⟩
          exact ⟨_, (a101, c102, a104, c105, b106x), rfl, rfl, ⟨H2.sel' [0, 1, 2, 3, 4, 5, 6, 7, 8, 9, 10] rfl rfl, m.comp0 m2⟩, stab [0, 1, 2, 3, 4, 5, 6, 7, 8, 9, 10, 11, 12, 13, 14] (by kernel_rfl) ⟨rfl, rfl, rfl, rfl, rfl, rfl, rfl, rfl, rfl, rfl, rfl, rfl, rfl, rfl, rfl, trivial⟩⟩
         refine ⟨?_, ?_⟩
         ·rintro ⟨a101, c102, a104, c105, b106⟩ ρ σm hJ hoff hdep
          obtain ⟨H, m, ht103⟩ := id hJ
          refine dp_ex wn (ex_alloc (cs := [(.slice none 0 0), (.slice none 0 0)]) H hn0 ti26 rfl) ?_
          rintro _ σq ⟨b106x, rfl, H2, m2⟩
          exact ⟨_, (a101, c102, a104, c105, b106x), rfl, rfl, ⟨H2.sel' [0, 1, 2, 3, 4, 5, 6, 7, 8, 9, 10, 11, 12] rfl rfl, m.comp0 m2, ht103⟩, stab [0, 1, 2, 3, 4, 5, 6, 7, 8, 9, 10, 11, 12, 13, 14] (by kernel_rfl) ⟨rfl, rfl, rfl, rfl, rfl, rfl, rfl, rfl, rfl, rfl, rfl, rfl, rfl, rfl, rfl, trivial⟩⟩
         trivial) ?_
       refine all_cons (by
         refine ⟨?_, ?_⟩
         ·rintro ⟨a101, c102, a104, c105, b106⟩ ρ σm hJ hoff hdep
          have e10 := hdep 15 rfl rfl 10 rfl
          have e76 := hdep 13 rfl rfl 76 rfl
          obtain ⟨H, m, ht103⟩ := id hJ
          refine dp_exS wn rfl (ex_store_box (k := 0) (cs := [(.slice none 0 0), (.slice none 0 0)]) (vs := [(Sl a101 r98.1.1 c102), (Sl a104 r98.1.2 c105)]) (cs' := [(Sl a101 r98.1.1 c102), (Sl a104 r98.1.2 c105)]) H (i := 0) rfl ti26 e10 rfl e76 rfl rfl (Nat.le_of_ble_eq_true rfl) (by simp [plain]) rfl) ?_
          rintro σq ⟨H2, m2⟩
          exact ⟨_, (a101, c102, a104, c105, b106), rfl, ⟨H2.sel' [0, 1, 2, 3, 4, 5, 6, 7, 8, 9, 10, 11, 12] rfl rfl, m.comp m2, ht103⟩, stab [0, 1, 2, 3, 4, 5, 6, 7, 8, 9, 10, 11, 12, 13, 14, 15] (by kernel_rfl) ⟨rfl, rfl, rfl, rfl, rfl, rfl, rfl, rfl, rfl, rfl, rfl, rfl, rfl, rfl, rfl, rfl, trivial⟩⟩
         trivial) ?_
       exact all_nil
      ·rintro ⟨a101, c102, a104, c105, b106⟩ ρ σ107 hJ hoff hrel
       have e3 := look_off (N := 84) (hoff 3 rfl) rfl
       have e5 := look_off (N := 84) (hoff 5 rfl) rfl
       have e9 := look_off (N := 84) (hoff 9 rfl) rfl
       have e10 := hrel 15 rfl 10 rfl
       have e77 := hrel 14 rfl 77 rfl
       obtain ⟨H, -, ht103⟩ := (show Hp S0 σ0 σ107 [Ch.bx n0 b106 0 [(Sl a101 r98.1.1 c102), (Sl a104 r98.1.2 c105)] [] [], Ch.own n0 n0 (Sl a101 r98.1.1 c102) r98.1.1, Ch.own n0 n0 (Sl a104 r98.1.2 c105) r98.1.2, Ch.ro 0 (Sl a88 x81.2.2.1 c89) x81.2.2.1, Ch.ro 0 (Sl a71 s66.1.2 c72) s66.1.2, Ch.ro 0 (Sl a68 s66.1.1 c69) s66.1.1, Ch.ro n0 (Sl a88 x81.2.2.1 c89) x81.2.2.1, Ch.ro n0 (Sl a71 s66.1.2 c72) s66.1.2, Ch.ro n0 (Sl a68 s66.1.1 c69) s66.1.1, Ch.bx n0 b23 0 [(Sl a68 s66.1.1 c69), (Sl a71 s66.1.2 c72)] [] [], Ch.ro n0 (Sl a5 r2.1.1 c6) r2.1.1, Ch.ro n0 (Sl a7 r2.1.2 c8) r2.1.2, Ch.bx n0 b10 0 [(Sl a5 r2.1.1 c6), (Sl a7 r2.1.2 c8)] [] []] ∧ Md (fun i => (cov []) i ∨ (fun i => i = b106) i) σ77 σ107 ∧ c102 = r98.1.1.length from hJ)
       clear hJ Hs
       rw [fr_lookL (L := [(3, (pt b10 0)), (5, (pt b23 0)), (9, (I s66.2)), (10, (pt b106 0)), (77, (B r98.2))]) ⟨e3, e5, e9, e10, e77, trivial⟩]
       clear hoff hrel e3 e5 e9 e10 e77
       refine st (v := (B r98.2)) (rv_assign rfl) ?_
       refine w_end ?_
       refine q_then ?_
       refine c_seq ?_
       refine c_seq ?_
       refine rg ?_
       refine st (v := (B r98.2)) (rv_move rfl) ?_
       refine st (v := (B (!r98.2))) (rv_not rfl) ?_
       refine w_end ?_
       refine q_then ?_
       refine cd_cond (!r98.2) rfl (fun hb108 => ?_) (fun hb108 => ?_)
       ·replace h := bif_t hb108 h
        refine c_seq ?_
        refine rg ?_
        refine st (v := (B false)) (rv_assign rfl) ?_
        refine w_end ?_
        refine q_then ?_
        refine c_ret ?_
        refine q_then_r ?_
        refine q_blk_r ?_
        refine q_then_r ?_
        refine q_then_r ?_
        refine q_blk_r ?_
        obtain rfl := Option.some.inj h
        obtain rfl := hres _ rfl
        exact .inr (⟨_, rfl, rfl, _, σ107, fr_join ⟨rfl, trivial⟩, rfl, H.sel' [] rfl rfl⟩)
       ·replace h := bif_f hb108 h
        refine c_skip ?_
        refine q_then ?_
        refine rg ?_
        have hc109 := H.cells 0 rfl
        refine st (v := (.agg #[(Sl a101 r98.1.1 c102), (Sl a104 r98.1.2 c105)])) (rv_load (cs := [(Sl a101 r98.1.1 c102), (Sl a104 r98.1.2 c105)]) Try.underlying26 rfl ti26 rfl rfl hc109) ?_
        refine st_exS (ex_store_box (k := 0) (cs := [(Sl a68 s66.1.1 c69), (Sl a71 s66.1.2 c72)]) (vs := [(Sl a101 r98.1.1 c102), (Sl a104 r98.1.2 c105)]) (cs' := [(Sl a101 r98.1.1 c102), (Sl a104 r98.1.2 c105)]) H (i := 9) rfl ti26 rfl rfl rfl rfl rfl (Nat.le_of_ble_eq_true rfl) (by simp [plain]) rfl) wn ?_
        rintro σ110 ⟨H, -⟩
        replace H : Hp S0 σ0 σ110 [Ch.bx n0 b23 0 [(Sl a101 r98.1.1 c102), (Sl a104 r98.1.2 c105)] [] [], Ch.own n0 n0 (Sl a101 r98.1.1 c102) r98.1.1, Ch.own n0 n0 (Sl a104 r98.1.2 c105) r98.1.2, Ch.ro n0 (Sl a5 r2.1.1 c6) r2.1.1, Ch.ro n0 (Sl a7 r2.1.2 c8) r2.1.2, Ch.bx n0 b10 0 [(Sl a5 r2.1.1 c6), (Sl a7 r2.1.2 c8)] [] []] := H.sel' [0, 2, 3, 10, 11, 12] rfl rfl
        refine w_end ?_
        refine q_blk ?_
        refine q_then ?_
        refine rg ?_
        refine st (v := (I s66.2)) (rv_move rfl) ?_
        refine st (v := (I (w64 (s66.2 + 1)))) (rv_add (a := s66.2) (b := 1) rfl rfl) ?_
        refine st (v := (I (w64 (s66.2 + 1)))) (rv_assign rfl) ?_
        refine w_end ?_
        refine q_then ?_
        obtain rfl := Option.some.inj h
        exact ⟨_, rfl, _, σ110, a101, c102, a104, c105, fr_join ⟨rfl, rfl, rfl, trivial⟩, rfl, H.sel' [0, 1, 2, 3, 4, 5] rfl rfl, ht103⟩
     ·replace h := bif_f hb74 h
      refine c_exit ?_
      refine q_then_x ?_
      refine q_then_x ?_
      refine q_blk_hit ?_
      obtain rfl := Option.some.inj h
      obtain rfl := hres _ rfl
      exact .inl ⟨_, rfl, rfl, _, σ67, a68, c69, a71, c72, fr_join ⟨rfl, rfl, trivial⟩, rfl, H.sel' [0, 1, 2, 3, 4, 5] rfl rfl, ht70⟩
    ·clear hj
     have h := h'
     clear h' H
     rintro e a w (⟨t111, rfl, rfl, ρ, σ112, a113, c114, a116, c117, rfl, rfl, H, ht115⟩ | ⟨t128, rfl, rfl, ρ, σ129, rfl, rfl, H⟩)
     ·replace h := selim_l h
      refine q_then ?_
      refine c_seq ?_
      refine rg ?_
      have hc118 := H.cells 0 rfl
      refine st (v := (.agg #[(Sl a113 t111.1 c114), (Sl a116 t111.2 c117)])) (rv_load (cs := [(Sl a113 t111.1 c114), (Sl a116 t111.2 c117)]) Try.underlying26 rfl ti26 rfl rfl hc118) ?_
      have hc119 := H.cells 5 rfl
      refine st (v := (.agg #[(Sl a5 r2.1.1 c6), (Sl a7 r2.1.2 c8)])) (rv_load (cs := [(Sl a5 r2.1.1 c6), (Sl a7 r2.1.2 c8)]) Try.underlying26 rfl ti26 rfl rfl hc119) ?_
      obtain ⟨σ120, hw121, H, -⟩ := H.pub 1 rfl (Nat.le_refl _)
      rw [← hw121]; clear hw121
      obtain ⟨σ122, hw123, H, -⟩ := H.pub 2 rfl (Nat.le_refl _)
      rw [← hw123]; clear hw123
      replace H := H.roLow 1 0 rfl (Nat.zero_le _)
      replace H := H.roLow 1 0 rfl (Nat.zero_le _)
      replace H := H.roLow 5 0 rfl (Nat.zero_le _)
      replace H := H.roLow 7 0 rfl (Nat.zero_le _)
      obtain ⟨r124, hx125, h'⟩ := bind_some h
      clear h
      have h := h'; clear h'
      have hc126 := c_laws_equalHistory (aa_0_0 := a113) (ca_0_0 := c114) (aa_0_1 := a116) (ca_0_1 := c117) (ab_1_0 := a5) (cb_1_0 := c6) (ab_1_1 := a7) (cb_1_1 := c8) hx125
      refine st_call (cx_call hc126 (ent_f hc126.fn rfl) hn0 (show Hp S0 σ0 _ ([Ch.ro 0 (Sl a113 t111.1 c114) t111.1, Ch.ro 0 (Sl a116 t111.2 c117) t111.2, Ch.ro 0 (Sl a5 r2.1.1 c6) r2.1.1, Ch.ro 0 (Sl a7 r2.1.2 c8) r2.1.2] ++ [Ch.ro 0 (Sl a7 r2.1.2 c8) r2.1.2, Ch.ro 0 (Sl a5 r2.1.1 c6) r2.1.1, Ch.ro 0 (Sl a116 t111.2 c117) t111.2, Ch.ro 0 (Sl a113 t111.1 c114) t111.1, Ch.ro n0 (Sl a116 t111.2 c117) t111.2, Ch.ro n0 (Sl a113 t111.1 c114) t111.1, Ch.bx n0 b23 0 [(Sl a113 t111.1 c114), (Sl a116 t111.2 c117)] [] [], Ch.ro n0 (Sl a5 r2.1.1 c6) r2.1.1, Ch.ro n0 (Sl a7 r2.1.2 c8) r2.1.2, Ch.bx n0 b10 0 [(Sl a5 r2.1.1 c6), (Sl a7 r2.1.2 c8)] [] []]) from (H.sel' [3, 2, 1, 0, 0, 1, 2, 3, 4, 5, 6, 7, 8, 9] rfl rfl))) wn ?_
      rintro _ σ127 ⟨_, ⟨rfl, rfl⟩, H, -⟩
      replace H : Hp S0 σ0 σ127 [Ch.ro 0 (Sl a7 r2.1.2 c8) r2.1.2, Ch.ro 0 (Sl a5 r2.1.1 c6) r2.1.1, Ch.ro 0 (Sl a116 t111.2 c117) t111.2, Ch.ro 0 (Sl a113 t111.1 c114) t111.1, Ch.ro n0 (Sl a116 t111.2 c117) t111.2, Ch.ro n0 (Sl a113 t111.1 c114) t111.1, Ch.bx n0 b23 0 [(Sl a113 t111.1 c114), (Sl a116 t111.2 c117)] [] [], Ch.ro n0 (Sl a5 r2.1.1 c6) r2.1.1, Ch.ro n0 (Sl a7 r2.1.2 c8) r2.1.2, Ch.bx n0 b10 0 [(Sl a5 r2.1.1 c6), (Sl a7 r2.1.2 c8)] [] []] := H
      replace H : Hp S0 σ0 σ127 [] := H.sel' [] rfl rfl
      refine st (v := (B r124)) (rv_assign rfl) ?_
      refine w_end ?_
      refine q_then ?_
      refine c_ret ?_
      obtain rfl := Option.some.inj h
      exact fin_ret (v := (B r124)) (results_ok Try.results14 (res_tmp (v := (B r124)) rfl res_nil) rfl) ⟨rfl, rfl⟩ (H.sel' [] rfl rfl)
     ·replace h := selim_r h
      refine q_then_r ?_
      obtain rfl := Option.some.inj h
      exact fin_ret (v := (B t128)) (results_ok Try.results14 (res_tmp (v := (B t128)) rfl res_nil) rfl) ⟨rfl, rfl⟩ (H.sel' [] rfl rfl)

end Go.Vs
