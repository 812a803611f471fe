/- The functions compute what their models say. -/
import Derived.Test.YtnkflplbeagljacDoorKPageShortC2
set_option linter.unusedVariables false
set_option linter.unusedSimpArgs false
set_option maxRecDepth 20000
namespace Go.Vs
open Go Go.Proofs
attribute [local irreducible] Code.wp Code.wpIn wpList wpListIn wpQuiet Calls CallsIn

theorem c_impl_pageReader_item {r_0 : (List UInt8) × Int × Int} {ar_0_0 : Option Addr} {cr_0_0 : Nat} {lor_0 br_0 or_0 : Nat} {prer_0 sufr_0 : List Value} {ga : Nat → Addr} {r : (Int × (List Int) × Int) × ((List UInt8) × Int × Int)} (h : M.impl_pageReader_item r_0 = some r) :
    Cal2 Tryd.prog 37 [(pt br_0 or_0)] [Ch.bx lor_0 br_0 or_0 [(Sl ar_0_0 r_0.1 cr_0_0), (I r_0.2.1), (er 72 ga r_0.2.2)] prer_0 sufr_0, Ch.ro 0 (Sl ar_0_0 r_0.1 cr_0_0) r_0.1, Ch.gl 72 ga [1, 2, 0]] (fun n0 v L => ∃ (az1 : Option Addr), ∃ (cz2 : Nat), ∃ (az3 : Option Addr), ∃ (cz4 : Nat), v = (.agg #[(I r.1.1), (Sl az1 r.1.2.1 cz2), (I r.1.2.2)]) ∧ L = [Ch.own n0 n0 (Sl az1 r.1.2.1 cz2) r.1.2.1, Ch.bx lor_0 br_0 or_0 [(Sl az3 r.2.1 cz4), (I r.2.2.1), (er 72 ga r.2.2.2)] prer_0 sufr_0, Ch.ro 0 (Sl az3 r.2.1 cz4) r.2.1]) := by
 refine cal2 (n := 26) Tryd.func37 rfl rfl rfl rfl ?_
 intro S0 σ0 n0 hn0 H
 unfold M.impl_pageReader_item at h
 refine c_seq ?_
 refine rg ?_
 refine st_ex (ex_alloc (cs := [(I 0), (.slice none 0 0), (I 0)]) H hn0 ti41 rfl) wn ?_
 rintro _ σ2 ⟨b1, rfl, H, -⟩
 refine w_end ?_
 refine q_then ?_
 refine c_seq ?_
 obtain ⟨r3, hx4, h'⟩ := bind_some h
 clear h
 have h := h'; clear h'
 have hc5 := c_impl_pageReader_next (lor_0 := lor_0) (br_0 := br_0) (or_0 := or_0) (prer_0 := prer_0) (sufr_0 := sufr_0) (ar_0_0 := ar_0_0) (cr_0_0 := cr_0_0) (ga := ga) hx4
 obtain ⟨r8, hx9, h'⟩ := bind_some h
 clear h
 have h := h'; clear h'
 have hc10 := fun (a6 : Option Addr) (c7 : Nat) => c_impl_pageReader_next (lor_0 := lor_0) (br_0 := br_0) (or_0 := or_0) (prer_0 := prer_0) (sufr_0 := sufr_0) (ar_0_0 := a6) (cr_0_0 := c7) (ga := ga) hx9
 obtain ⟨xs13, hx14, h'⟩ := bind_some h
 clear h
 have h := h'; clear h'
 have Hs := H
 refine rg2 (σ := σ2) (Nm := (Option Addr) × (Nat) × (Option Addr) × (Nat) × (Nat) × (Nat) × (Nat)) 7 [1, 3, 4, 6] [[false, false, false, false], [true, false, false, false], [false, false, true, false], [false, false, false, true], [true, true, false, false], [true, false, true, false], [true, false, false, true], [false, false, true, true], [true, true, true, false], [true, true, false, true], [true, false, true, true], [true, true, true, true]] [[(0, 0), (2, 2), (3, 3), (7, 7)], [(0, 1), (2, 5), (3, 6), (7, 10)], [(0, 0), (1, 1), (2, 2), (3, 3), (5, 5), (6, 6), (7, 7), (10, 10)], [(1, 4), (5, 8), (6, 9), (10, 11)], [(0, 2), (1, 5), (3, 7), (4, 8), (6, 10), (9, 11)], [(8, 8), (11, 11)], [(0, 3), (1, 6), (2, 7), (4, 9), (5, 10), (8, 11)]] 11 [fun ((a6, c7, a11, c12, b15, c16, b18) : (Option Addr) × (Nat) × (Option Addr) × (Nat) × (Nat) × (Nat) × (Nat)) => fun σm => Hp S0 σ0 σm [Ch.bx n0 b1 0 [(I 0), (.slice none 0 0), (I 0)] [] [], Ch.bx lor_0 br_0 or_0 [(Sl ar_0_0 r_0.1 cr_0_0), (I r_0.2.1), (er 72 ga r_0.2.2)] prer_0 sufr_0, Ch.ro 0 (Sl ar_0_0 r_0.1 cr_0_0) r_0.1, Ch.gl 72 ga [1, 2, 0]] ∧ Md (cov []) σ2 σm, fun ((a6, c7, a11, c12, b15, c16, b18) : (Option Addr) × (Nat) × (Option Addr) × (Nat) × (Nat) × (Nat) × (Nat)) => fun σm => Hp S0 σ0 σm [Ch.bx lor_0 br_0 or_0 [(Sl a6 r3.2.1 c7), (I r3.2.2.1), (er 72 ga r3.2.2.2)] prer_0 sufr_0, Ch.ro 0 (Sl a6 r3.2.1 c7) r3.2.1, Ch.bx n0 b1 0 [(I 0), (.slice none 0 0), (I 0)] [] [], Ch.ro 0 (Sl ar_0_0 r_0.1 cr_0_0) r_0.1, Ch.gl 72 ga [1, 2, 0]] ∧ Md (fun i => (cov []) i ∨ (cov [Ch.bx lor_0 br_0 or_0 [(Sl ar_0_0 r_0.1 cr_0_0), (I r_0.2.1), (er 72 ga r_0.2.2)] prer_0 sufr_0, Ch.ro 0 (Sl ar_0_0 r_0.1 cr_0_0) r_0.1, Ch.gl 72 ga [1, 2, 0]]) i) σ2 σm, fun ((a6, c7, a11, c12, b15, c16, b18) : (Option Addr) × (Nat) × (Option Addr) × (Nat) × (Nat) × (Nat) × (Nat)) => fun σm => Hp S0 σ0 σm [Ch.own n0 n0 (Sl (some ⟨b15, 0, none⟩) xs13 c16) xs13, Ch.bx n0 b1 0 [(I 0), (.slice none 0 0), (I 0)] [] [], Ch.bx lor_0 br_0 or_0 [(Sl ar_0_0 r_0.1 cr_0_0), (I r_0.2.1), (er 72 ga r_0.2.2)] prer_0 sufr_0, Ch.ro 0 (Sl ar_0_0 r_0.1 cr_0_0) r_0.1, Ch.gl 72 ga [1, 2, 0]] ∧ Md (cov []) σ2 σm, fun ((a6, c7, a11, c12, b15, c16, b18) : (Option Addr) × (Nat) × (Option Addr) × (Nat) × (Nat) × (Nat) × (Nat)) => fun σm => Hp S0 σ0 σm [Ch.bx n0 b18 0 [(I 0), (.slice none 0 0), (I 0)] [] [], Ch.bx n0 b1 0 [(I 0), (.slice none 0 0), (I 0)] [] [], Ch.bx lor_0 br_0 or_0 [(Sl ar_0_0 r_0.1 cr_0_0), (I r_0.2.1), (er 72 ga r_0.2.2)] prer_0 sufr_0, Ch.ro 0 (Sl ar_0_0 r_0.1 cr_0_0) r_0.1, Ch.gl 72 ga [1, 2, 0]] ∧ Md (cov []) σ2 σm, fun ((a6, c7, a11, c12, b15, c16, b18) : (Option Addr) × (Nat) × (Option Addr) × (Nat) × (Nat) × (Nat) × (Nat)) => fun σm => Hp S0 σ0 σm [Ch.bx lor_0 br_0 or_0 [(Sl a11 r8.2.1 c12), (I r8.2.2.1), (er 72 ga r8.2.2.2)] prer_0 sufr_0, Ch.ro 0 (Sl a11 r8.2.1 c12) r8.2.1, Ch.ro 0 (Sl a6 r3.2.1 c7) r3.2.1, Ch.bx n0 b1 0 [(I 0), (.slice none 0 0), (I 0)] [] [], Ch.ro 0 (Sl ar_0_0 r_0.1 cr_0_0) r_0.1, Ch.gl 72 ga [1, 2, 0]] ∧ Md (fun i => (fun i => (cov []) i ∨ (cov [Ch.bx lor_0 br_0 or_0 [(Sl ar_0_0 r_0.1 cr_0_0), (I r_0.2.1), (er 72 ga r_0.2.2)] prer_0 sufr_0, Ch.ro 0 (Sl ar_0_0 r_0.1 cr_0_0) r_0.1, Ch.gl 72 ga [1, 2, 0]]) i) i ∨ (cov [Ch.bx lor_0 br_0 or_0 [(Sl a6 r3.2.1 c7), (I r3.2.2.1), (er 72 ga r3.2.2.2)] prer_0 sufr_0, Ch.ro 0 (Sl a6 r3.2.1 c7) r3.2.1, Ch.gl 72 ga [1, 2, 0]]) i) σ2 σm, fun ((a6, c7, a11, c12, b15, c16, b18) : (Option Addr) × (Nat) × (Option Addr) × (Nat) × (Nat) × (Nat) × (Nat)) => fun σm => Hp S0 σ0 σm [Ch.own n0 n0 (Sl (some ⟨b15, 0, none⟩) xs13 c16) xs13, Ch.bx lor_0 br_0 or_0 [(Sl a6 r3.2.1 c7), (I r3.2.2.1), (er 72 ga r3.2.2.2)] prer_0 sufr_0, Ch.ro 0 (Sl a6 r3.2.1 c7) r3.2.1, Ch.bx n0 b1 0 [(I 0), (.slice none 0 0), (I 0)] [] [], Ch.ro 0 (Sl ar_0_0 r_0.1 cr_0_0) r_0.1, Ch.gl 72 ga [1, 2, 0]] ∧ Md (fun i => (cov []) i ∨ (cov [Ch.bx lor_0 br_0 or_0 [(Sl ar_0_0 r_0.1 cr_0_0), (I r_0.2.1), (er 72 ga r_0.2.2)] prer_0 sufr_0, Ch.ro 0 (Sl ar_0_0 r_0.1 cr_0_0) r_0.1, Ch.gl 72 ga [1, 2, 0]]) i) σ2 σm, fun ((a6, c7, a11, c12, b15, c16, b18) : (Option Addr) × (Nat) × (Option Addr) × (Nat) × (Nat) × (Nat) × (Nat)) => fun σm => Hp S0 σ0 σm [Ch.bx n0 b18 0 [(I 0), (.slice none 0 0), (I 0)] [] [], Ch.bx lor_0 br_0 or_0 [(Sl a6 r3.2.1 c7), (I r3.2.2.1), (er 72 ga r3.2.2.2)] prer_0 sufr_0, Ch.ro 0 (Sl a6 r3.2.1 c7) r3.2.1, Ch.bx n0 b1 0 [(I 0), (.slice none 0 0), (I 0)] [] [], Ch.ro 0 (Sl ar_0_0 r_0.1 cr_0_0) r_0.1, Ch.gl 72 ga [1, 2, 0]] ∧ Md (fun i => (cov []) i ∨ (cov [Ch.bx lor_0 br_0 or_0 [(Sl ar_0_0 r_0.1 cr_0_0), (I r_0.2.1), (er 72 ga r_0.2.2)] prer_0 sufr_0, Ch.ro 0 (Sl ar_0_0 r_0.1 cr_0_0) r_0.1, Ch.gl 72 ga [1, 2, 0]]) i) σ2 σm, fun ((a6, c7, a11, c12, b15, c16, b18) : (Option Addr) × (Nat) × (Option Addr) × (Nat) × (Nat) × (Nat) × (Nat)) => fun σm => Hp S0 σ0 σm [Ch.bx n0 b18 0 [(I 0), (.slice none 0 0), (I 0)] [] [], Ch.own n0 n0 (Sl (some ⟨b15, 0, none⟩) xs13 c16) xs13, Ch.bx n0 b1 0 [(I 0), (.slice none 0 0), (I 0)] [] [], Ch.bx lor_0 br_0 or_0 [(Sl ar_0_0 r_0.1 cr_0_0), (I r_0.2.1), (er 72 ga r_0.2.2)] prer_0 sufr_0, Ch.ro 0 (Sl ar_0_0 r_0.1 cr_0_0) r_0.1, Ch.gl 72 ga [1, 2, 0]] ∧ Md (cov []) σ2 σm, fun ((a6, c7, a11, c12, b15, c16, b18) : (Option Addr) × (Nat) × (Option Addr) × (Nat) × (Nat) × (Nat) × (Nat)) => fun σm => Hp S0 σ0 σm [Ch.own n0 n0 (Sl (some ⟨b15, 0, none⟩) xs13 c16) xs13, Ch.bx lor_0 br_0 or_0 [(Sl a11 r8.2.1 c12), (I r8.2.2.1), (er 72 ga r8.2.2.2)] prer_0 sufr_0, Ch.ro 0 (Sl a11 r8.2.1 c12) r8.2.1, Ch.ro 0 (Sl a6 r3.2.1 c7) r3.2.1, Ch.bx n0 b1 0 [(I 0), (.slice none 0 0), (I 0)] [] [], Ch.ro 0 (Sl ar_0_0 r_0.1 cr_0_0) r_0.1, Ch.gl 72 ga [1, 2, 0]] ∧ Md (fun i => (fun i => (cov []) i ∨ (cov [Ch.bx lor_0 br_0 or_0 [(Sl ar_0_0 r_0.1 cr_0_0), (I r_0.2.1), (er 72 ga r_0.2.2)] prer_0 sufr_0, Ch.ro 0 (Sl ar_0_0 r_0.1 cr_0_0) r_0.1, Ch.gl 72 ga [1, 2, 0]]) i) i ∨ (cov [Ch.bx lor_0 br_0 or_0 [(Sl a6 r3.2.1 c7), (I r3.2.2.1), (er 72 ga r3.2.2.2)] prer_0 sufr_0, Ch.ro 0 (Sl a6 r3.2.1 c7) r3.2.1, Ch.gl 72 ga [1, 2, 0]]) i) σ2 σm, fun ((a6, c7, a11, c12, b15, c16, b18) : (Option Addr) × (Nat) × (Option Addr) × (Nat) × (Nat) × (Nat) × (Nat)) => fun σm => Hp S0 σ0 σm [Ch.bx n0 b18 0 [(I 0), (.slice none 0 0), (I 0)] [] [], Ch.bx lor_0 br_0 or_0 [(Sl a11 r8.2.1 c12), (I r8.2.2.1), (er 72 ga r8.2.2.2)] prer_0 sufr_0, Ch.ro 0 (Sl a11 r8.2.1 c12) r8.2.1, Ch.ro 0 (Sl a6 r3.2.1 c7) r3.2.1, Ch.bx n0 b1 0 [(I 0), (.slice none 0 0), (I 0)] [] [], Ch.ro 0 (Sl ar_0_0 r_0.1 cr_0_0) r_0.1, Ch.gl 72 ga [1, 2, 0]] ∧ Md (fun i => (fun i => (cov []) i ∨ (cov [Ch.bx lor_0 br_0 or_0 [(Sl ar_0_0 r_0.1 cr_0_0), (I r_0.2.1), (er 72 ga r_0.2.2)] prer_0 sufr_0, Ch.ro 0 (Sl ar_0_0 r_0.1 cr_0_0) r_0.1, Ch.gl 72 ga [1, 2, 0]]) i) i ∨ (cov [Ch.bx lor_0 br_0 or_0 [(Sl a6 r3.2.1 c7), (I r3.2.2.1), (er 72 ga r3.2.2.2)] prer_0 sufr_0, Ch.ro 0 (Sl a6 r3.2.1 c7) r3.2.1, Ch.gl 72 ga [1, 2, 0]]) i) σ2 σm, fun ((a6, c7, a11, c12, b15, c16, b18) : (Option Addr) × (Nat) × (Option Addr) × (Nat) × (Nat) × (Nat) × (Nat)) => fun σm => Hp S0 σ0 σm [Ch.bx n0 b18 0 [(I 0), (.slice none 0 0), (I 0)] [] [], Ch.own n0 n0 (Sl (some ⟨b15, 0, none⟩) xs13 c16) xs13, Ch.bx lor_0 br_0 or_0 [(Sl a6 r3.2.1 c7), (I r3.2.2.1), (er 72 ga r3.2.2.2)] prer_0 sufr_0, Ch.ro 0 (Sl a6 r3.2.1 c7) r3.2.1, Ch.bx n0 b1 0 [(I 0), (.slice none 0 0), (I 0)] [] [], Ch.ro 0 (Sl ar_0_0 r_0.1 cr_0_0) r_0.1, Ch.gl 72 ga [1, 2, 0]] ∧ Md (fun i => (cov []) i ∨ (cov [Ch.bx lor_0 br_0 or_0 [(Sl ar_0_0 r_0.1 cr_0_0), (I r_0.2.1), (er 72 ga r_0.2.2)] prer_0 sufr_0, Ch.ro 0 (Sl ar_0_0 r_0.1 cr_0_0) r_0.1, Ch.gl 72 ga [1, 2, 0]]) i) σ2 σm, fun ((a6, c7, a11, c12, b15, c16, b18) : (Option Addr) × (Nat) × (Option Addr) × (Nat) × (Nat) × (Nat) × (Nat)) => fun σm => Hp S0 σ0 σm [Ch.bx n0 b18 0 [(I 0), (.slice none 0 0), (I 0)] [] [], Ch.own n0 n0 (Sl (some ⟨b15, 0, none⟩) xs13 c16) xs13, Ch.bx lor_0 br_0 or_0 [(Sl a11 r8.2.1 c12), (I r8.2.2.1), (er 72 ga r8.2.2.2)] prer_0 sufr_0, Ch.ro 0 (Sl a11 r8.2.1 c12) r8.2.1, Ch.ro 0 (Sl a6 r3.2.1 c7) r3.2.1, Ch.bx n0 b1 0 [(I 0), (.slice none 0 0), (I 0)] [] [], Ch.ro 0 (Sl ar_0_0 r_0.1 cr_0_0) r_0.1, Ch.gl 72 ga [1, 2, 0]] ∧ Md (fun i => (fun i => (cov []) i ∨ (cov [Ch.bx lor_0 br_0 or_0 [(Sl ar_0_0 r_0.1 cr_0_0), (I r_0.2.1), (er 72 ga r_0.2.2)] prer_0 sufr_0, Ch.ro 0 (Sl ar_0_0 r_0.1 cr_0_0) r_0.1, Ch.gl 72 ga [1, 2, 0]]) i) i ∨ (cov [Ch.bx lor_0 br_0 or_0 [(Sl a6 r3.2.1 c7), (I r3.2.2.1), (er 72 ga r3.2.2.2)] prer_0 sufr_0, Ch.ro 0 (Sl a6 r3.2.1 c7) r3.2.1, Ch.gl 72 ga [1, 2, 0]]) i) σ2 σm] [fun ((a6, c7, a11, c12, b15, c16, b18) : (Option Addr) × (Nat) × (Option Addr) × (Nat) × (Nat) × (Nat) × (Nat)) => (pt br_0 or_0), fun ((a6, c7, a11, c12, b15, c16, b18) : (Option Addr) × (Nat) × (Option Addr) × (Nat) × (Nat) × (Nat) × (Nat)) => (I r3.1), fun ((a6, c7, a11, c12, b15, c16, b18) : (Option Addr) × (Nat) × (Option Addr) × (Nat) × (Nat) × (Nat) × (Nat)) => (pt br_0 or_0), fun ((a6, c7, a11, c12, b15, c16, b18) : (Option Addr) × (Nat) × (Option Addr) × (Nat) × (Nat) × (Nat) × (Nat)) => (I r8.1), fun ((a6, c7, a11, c12, b15, c16, b18) : (Option Addr) × (Nat) × (Option Addr) × (Nat) × (Nat) × (Nat) × (Nat)) => (Sl (some ⟨b15, 0, none⟩) xs13 c16), fun ((a6, c7, a11, c12, b15, c16, b18) : (Option Addr) × (Nat) × (Option Addr) × (Nat) × (Nat) × (Nat) × (Nat)) => (.agg #[(I r3.1), (Sl (some ⟨b15, 0, none⟩) xs13 c16), (I r8.1)]), fun ((a6, c7, a11, c12, b15, c16, b18) : (Option Addr) × (Nat) × (Option Addr) × (Nat) × (Nat) × (Nat) × (Nat)) => (pt b18 0)] (none, 0, none, 0, 0, 0, 0) (by kernel_rfl) (by kernel_rfl) ?_ ?_ ?_
 ·intro σm m0
  exact ⟨H.grow (m0.mono fun _ h => h.elim), m0⟩
 ·refine ac rfl (by
    intro k; rintro ⟨a6, c7, a11, c12, b15, c16, b18⟩ ρ σm hJ hoff hdep
    have e0 := look_off (N := 26) (hoff 0 rfl) rfl
    exact dp_v (v := (pt br_0 or_0)) wn (rv_move e0) rfl hJ) ?_
  refine all_cons (by
    refine ⟨?_, ?_⟩
    ·rintro ⟨a6, c7, a11, c12, b15, c16, b18⟩ ρ σm hJ hoff hdep
     have e5 : look 26 ρ 5 = (pt br_0 or_0) := hdep 0 rfl rfl 5 rfl
     obtain ⟨H, m⟩ := id hJ
     refine dp_cx wn (cx_call hc5 (ent_f hc5.fn (by show [look 26 ρ 5] = _; rw [e5])) hn0 (show Hp S0 σ0 _ ([Ch.bx lor_0 br_0 or_0 [(Sl ar_0_0 r_0.1 cr_0_0), (I r_0.2.1), (er 72 ga r_0.2.2)] prer_0 sufr_0, Ch.ro 0 (Sl ar_0_0 r_0.1 cr_0_0) r_0.1, Ch.gl 72 ga [1, 2, 0]] ++ [Ch.bx n0 b1 0 [(I 0), (.slice none 0 0), (I 0)] [] [], Ch.ro 0 (Sl ar_0_0 r_0.1 cr_0_0) r_0.1, Ch.gl 72 ga [1, 2, 0]]) from (H.sel' [1, 2, 3, 0, 2, 3] rfl rfl))) ?_
     rintro _ σq ⟨_, ⟨a6x, c7x, rfl, rfl⟩, H2, m2⟩
     exact ⟨_, (a6x, c7x, a11, c12, b15, c16, b18), rfl, rfl, ⟨H2.sel' [0, 1, 2, 3, 4] rfl rfl, m.comp m2⟩, stab [0, 2, 4, 6] (by kernel_rfl) ⟨rfl, rfl, rfl, rfl, trivial⟩⟩
    refine ⟨?_, ?_⟩
    ·rintro ⟨a6, c7, a11, c12, b15, c16, b18⟩ ρ σm hJ hoff hdep
     have e5 : look 26 ρ 5 = (pt br_0 or_0) := hdep 0 rfl rfl 5 rfl
     obtain ⟨H, m⟩ := id hJ
     refine dp_cx wn (cx_call hc5 (ent_f hc5.fn (by show [look 26 ρ 5] = _; rw [e5])) hn0 (show Hp S0 σ0 _ ([Ch.bx lor_0 br_0 or_0 [(Sl ar_0_0 r_0.1 cr_0_0), (I r_0.2.1), (er 72 ga r_0.2.2)] prer_0 sufr_0, Ch.ro 0 (Sl ar_0_0 r_0.1 cr_0_0) r_0.1, Ch.gl 72 ga [1, 2, 0]] ++ [Ch.own n0 n0 (Sl (some ⟨b15, 0, none⟩) xs13 c16) xs13, Ch.bx n0 b1 0 [(I 0), (.slice none 0 0), (I 0)] [] [], Ch.ro 0 (Sl ar_0_0 r_0.1 cr_0_0) r_0.1, Ch.gl 72 ga [1, 2, 0]]) from (H.sel' [2, 3, 4, 0, 1, 3, 4] rfl rfl))) ?_
     rintro _ σq ⟨_, ⟨a6x, c7x, rfl, rfl⟩, H2, m2⟩
     exact ⟨_, (a6x, c7x, a11, c12, b15, c16, b18), rfl, rfl, ⟨H2.sel' [2, 0, 1, 3, 4, 5] rfl rfl, m.comp m2⟩, stab [0, 2, 4, 6] (by kernel_rfl) ⟨rfl, rfl, rfl, rfl, trivial⟩⟩
    refine ⟨?_, ?_⟩
    ·rintro ⟨a6, c7, a11, c12, b15, c16, b18⟩ ρ σm hJ hoff hdep
     have e5 : look 26 ρ 5 = (pt br_0 or_0) := hdep 0 rfl rfl 5 rfl
     obtain ⟨H, m⟩ := id hJ
     refine dp_cx wn (cx_call hc5 (ent_f hc5.fn (by show [look 26 ρ 5] = _; rw [e5])) hn0 (show Hp S0 σ0 _ ([Ch.bx lor_0 br_0 or_0 [(Sl ar_0_0 r_0.1 cr_0_0), (I r_0.2.1), (er 72 ga r_0.2.2)] prer_0 sufr_0, Ch.ro 0 (Sl ar_0_0 r_0.1 cr_0_0) r_0.1, Ch.gl 72 ga [1, 2, 0]] ++ [Ch.bx n0 b18 0 [(I 0), (.slice none 0 0), (I 0)] [] [], Ch.bx n0 b1 0 [(I 0), (.slice none 0 0), (I 0)] [] [], Ch.ro 0 (Sl ar_0_0 r_0.1 cr_0_0) r_0.1, Ch.gl 72 ga [1, 2, 0]]) from (H.sel' [2, 3, 4, 0, 1, 3, 4] rfl rfl))) ?_
     rintro _ σq ⟨_, ⟨a6x, c7x, rfl, rfl⟩, H2, m2⟩
     exact ⟨_, (a6x, c7x, a11, c12, b15, c16, b18), rfl, rfl, ⟨H2.sel' [2, 0, 1, 3, 4, 5] rfl rfl, m.comp m2⟩, stab [0, 2, 4, 6] (by kernel_rfl) ⟨rfl, rfl, rfl, rfl, trivial⟩⟩
    refine ⟨?_, ?_⟩
    ·rintro ⟨a6, c7, a11, c12, b15, c16, b18⟩ ρ σm hJ hoff hdep
     have e5 : look 26 ρ 5 = (pt br_0 or_0) := hdep 0 rfl rfl 5 rfl
     obtain ⟨H, m⟩ := id hJ
     refine dp_cx wn (cx_call hc5 (ent_f hc5.fn (by show [look 26 ρ 5] = _; rw [e5])) hn0 (show Hp S0 σ0 _ ([Ch.bx lor_0 br_0 or_0 [(Sl ar_0_0 r_0.1 cr_0_0), (I r_0.2.1), (er 72 ga r_0.2.2)] prer_0 sufr_0, Ch.ro 0 (Sl ar_0_0 r_0.1 cr_0_0) r_0.1, Ch.gl 72 ga [1, 2, 0]] ++ [Ch.bx n0 b18 0 [(I 0), (.slice none 0 0), (I 0)] [] [], Ch.own n0 n0 (Sl (some ⟨b15, 0, none⟩) xs13 c16) xs13, Ch.bx n0 b1 0 [(I 0), (.slice none 0 0), (I 0)] [] [], Ch.ro 0 (Sl ar_0_0 r_0.1 cr_0_0) r_0.1, Ch.gl 72 ga [1, 2, 0]]) from (H.sel' [3, 4, 5, 0, 1, 2, 4, 5] rfl rfl))) ?_
     rintro _ σq ⟨_, ⟨a6x, c7x, rfl, rfl⟩, H2, m2⟩
     exact ⟨_, (a6x, c7x, a11, c12, b15, c16, b18), rfl, rfl, ⟨H2.sel' [2, 3, 0, 1, 4, 5, 6] rfl rfl, m.comp m2⟩, stab [0, 2, 4, 6] (by kernel_rfl) ⟨rfl, rfl, rfl, rfl, trivial⟩⟩
    trivial) ?_
  refine ac rfl (by
    intro k; rintro ⟨a6, c7, a11, c12, b15, c16, b18⟩ ρ σm hJ hoff hdep
    have e0 := look_off (N := 26) (hoff 0 rfl) rfl
    exact dp_v (v := (pt br_0 or_0)) wn (rv_move e0) rfl hJ) ?_
  refine all_cons (by
    refine ⟨?_, ?_⟩
    ·rintro ⟨a6, c7, a11, c12, b15, c16, b18⟩ ρ σm hJ hoff hdep
     have e7 : look 26 ρ 7 = (pt br_0 or_0) := hdep 2 rfl rfl 7 rfl
     obtain ⟨H, m⟩ := id hJ
     refine dp_cx wn (cx_call (hc10 a6 c7) (ent_f (hc10 a6 c7).fn (by show [look 26 ρ 7] = _; rw [e7])) hn0 (show Hp S0 σ0 _ ([Ch.bx lor_0 br_0 or_0 [(Sl a6 r3.2.1 c7), (I r3.2.2.1), (er 72 ga r3.2.2.2)] prer_0 sufr_0, Ch.ro 0 (Sl a6 r3.2.1 c7) r3.2.1, Ch.gl 72 ga [1, 2, 0]] ++ [Ch.ro 0 (Sl a6 r3.2.1 c7) r3.2.1, Ch.bx n0 b1 0 [(I 0), (.slice none 0 0), (I 0)] [] [], Ch.ro 0 (Sl ar_0_0 r_0.1 cr_0_0) r_0.1, Ch.gl 72 ga [1, 2, 0]]) from (H.sel' [0, 1, 4, 1, 2, 3, 4] rfl rfl))) ?_
     rintro _ σq ⟨_, ⟨a11x, c12x, rfl, rfl⟩, H2, m2⟩
     exact ⟨_, (a6, c7, a11x, c12x, b15, c16, b18), rfl, rfl, ⟨H2.sel' [0, 1, 2, 3, 4, 5] rfl rfl, m.comp m2⟩, stab [0, 1, 2, 4, 6] (by kernel_rfl) ⟨rfl, rfl, rfl, rfl, rfl, trivial⟩⟩
    refine ⟨?_, ?_⟩
    ·rintro ⟨a6, c7, a11, c12, b15, c16, b18⟩ ρ σm hJ hoff hdep
     have e7 : look 26 ρ 7 = (pt br_0 or_0) := hdep 2 rfl rfl 7 rfl
     obtain ⟨H, m⟩ := id hJ
     refine dp_cx wn (cx_call (hc10 a6 c7) (ent_f (hc10 a6 c7).fn (by show [look 26 ρ 7] = _; rw [e7])) hn0 (show Hp S0 σ0 _ ([Ch.bx lor_0 br_0 or_0 [(Sl a6 r3.2.1 c7), (I r3.2.2.1), (er 72 ga r3.2.2.2)] prer_0 sufr_0, Ch.ro 0 (Sl a6 r3.2.1 c7) r3.2.1, Ch.gl 72 ga [1, 2, 0]] ++ [Ch.own n0 n0 (Sl (some ⟨b15, 0, none⟩) xs13 c16) xs13, Ch.ro 0 (Sl a6 r3.2.1 c7) r3.2.1, Ch.bx n0 b1 0 [(I 0), (.slice none 0 0), (I 0)] [] [], Ch.ro 0 (Sl ar_0_0 r_0.1 cr_0_0) r_0.1, Ch.gl 72 ga [1, 2, 0]]) from (H.sel' [1, 2, 5, 0, 2, 3, 4, 5] rfl rfl))) ?_
     rintro _ σq ⟨_, ⟨a11x, c12x, rfl, rfl⟩, H2, m2⟩
     exact ⟨_, (a6, c7, a11x, c12x, b15, c16, b18), rfl, rfl, ⟨H2.sel' [2, 0, 1, 3, 4, 5, 6] rfl rfl, m.comp m2⟩, stab [0, 1, 2, 4, 6] (by kernel_rfl) ⟨rfl, rfl, rfl, rfl, rfl, trivial⟩⟩
    refine ⟨?_, ?_⟩
    ·rintro ⟨a6, c7, a11, c12, b15, c16, b18⟩ ρ σm hJ hoff hdep
     have e7 : look 26 ρ 7 = (pt br_0 or_0) := hdep 2 rfl rfl 7 rfl
     obtain ⟨H, m⟩ := id hJ
     refine dp_cx wn (cx_call (hc10 a6 c7) (ent_f (hc10 a6 c7).fn (by show [look 26 ρ 7] = _; rw [e7])) hn0 (show Hp S0 σ0 _ ([Ch.bx lor_0 br_0 or_0 [(Sl a6 r3.2.1 c7), (I r3.2.2.1), (er 72 ga r3.2.2.2)] prer_0 sufr_0, Ch.ro 0 (Sl a6 r3.2.1 c7) r3.2.1, Ch.gl 72 ga [1, 2, 0]] ++ [Ch.bx n0 b18 0 [(I 0), (.slice none 0 0), (I 0)] [] [], Ch.ro 0 (Sl a6 r3.2.1 c7) r3.2.1, Ch.bx n0 b1 0 [(I 0), (.slice none 0 0), (I 0)] [] [], Ch.ro 0 (Sl ar_0_0 r_0.1 cr_0_0) r_0.1, Ch.gl 72 ga [1, 2, 0]]) from (H.sel' [1, 2, 5, 0, 2, 3, 4, 5] rfl rfl))) ?_
     rintro _ σq ⟨_, ⟨a11x, c12x, rfl, rfl⟩, H2, m2⟩
     exact ⟨_, (a6, c7, a11x, c12x, b15, c16, b18), rfl, rfl, ⟨H2.sel' [2, 0, 1, 3, 4, 5, 6] rfl rfl, m.comp m2⟩, stab [0, 1, 2, 4, 6] (by kernel_rfl) ⟨rfl, rfl, rfl, rfl, rfl, trivial⟩⟩
    refine ⟨?_, ?_⟩
    ·rintro ⟨a6, c7, a11, c12, b15, c16, b18⟩ ρ σm hJ hoff hdep
     have e7 : look 26 ρ 7 = (pt br_0 or_0) := hdep 2 rfl rfl 7 rfl
     obtain ⟨H, m⟩ := id hJ
     refine dp_cx wn (cx_call (hc10 a6 c7) (ent_f (hc10 a6 c7).fn (by show [look 26 ρ 7] = _; rw [e7])) hn0 (show Hp S0 σ0 _ ([Ch.bx lor_0 br_0 or_0 [(Sl a6 r3.2.1 c7), (I r3.2.2.1), (er 72 ga r3.2.2.2)] prer_0 sufr_0, Ch.ro 0 (Sl a6 r3.2.1 c7) r3.2.1, Ch.gl 72 ga [1, 2, 0]] ++ [Ch.bx n0 b18 0 [(I 0), (.slice none 0 0), (I 0)] [] [], Ch.own n0 n0 (Sl (some ⟨b15, 0, none⟩) xs13 c16) xs13, Ch.ro 0 (Sl a6 r3.2.1 c7) r3.2.1, Ch.bx n0 b1 0 [(I 0), (.slice none 0 0), (I 0)] [] [], Ch.ro 0 (Sl ar_0_0 r_0.1 cr_0_0) r_0.1, Ch.gl 72 ga [1, 2, 0]]) from (H.sel' [2, 3, 6, 0, 1, 3, 4, 5, 6] rfl rfl))) ?_
     rintro _ σq ⟨_, ⟨a11x, c12x, rfl, rfl⟩, H2, m2⟩
     exact ⟨_, (a6, c7, a11x, c12x, b15, c16, b18), rfl, rfl, ⟨H2.sel' [2, 3, 0, 1, 4, 5, 6, 7] rfl rfl, m.comp m2⟩, stab [0, 1, 2, 4, 6] (by kernel_rfl) ⟨rfl, rfl, rfl, rfl, rfl, trivial⟩⟩
    trivial) ?_
  refine all_cons (by
    refine ⟨?_, ?_⟩
    ·rintro ⟨a6, c7, a11, c12, b15, c16, b18⟩ ρ σm hJ hoff hdep
     obtain ⟨H, m⟩ := id hJ
     refine dp_ex wn (ex_make (el := n0) (z0 := (0 : Int)) (zs := [(I 0)]) H hn0 Tryd.underlying39 ti3 rfl rfl rfl (by decide) hx14 rfl rfl) ?_
     rintro _ σq ⟨b15x, c16x, rfl, -, H2, m2⟩
     exact ⟨_, (a6, c7, a11, c12, b15x, c16x, b18), rfl, rfl, ⟨H2.sel' [0, 1, 2, 3, 4] rfl rfl, m.comp0 m2⟩, stab [0, 1, 2, 3, 6] (by kernel_rfl) ⟨rfl, rfl, rfl, rfl, rfl, trivial⟩⟩
    refine ⟨?_, ?_⟩
    ·rintro ⟨a6, c7, a11, c12, b15, c16, b18⟩ ρ σm hJ hoff hdep
     obtain ⟨H, m⟩ := id hJ
     refine dp_ex wn (ex_make (el := n0) (z0 := (0 : Int)) (zs := [(I 0)]) H hn0 Tryd.underlying39 ti3 rfl rfl rfl (by decide) hx14 rfl rfl) ?_
     rintro _ σq ⟨b15x, c16x, rfl, -, H2, m2⟩
     exact ⟨_, (a6, c7, a11, c12, b15x, c16x, b18), rfl, rfl, ⟨H2.sel' [0, 1, 2, 3, 4, 5] rfl rfl, m.comp0 m2⟩, stab [0, 1, 2, 3, 6] (by kernel_rfl) ⟨rfl, rfl, rfl, rfl, rfl, trivial⟩⟩
    refine ⟨?_, ?_⟩
    ·rintro ⟨a6, c7, a11, c12, b15, c16, b18⟩ ρ σm hJ hoff hdep
     obtain ⟨H, m⟩ := id hJ
     refine dp_ex wn (ex_make (el := n0) (z0 := (0 : Int)) (zs := [(I 0)]) H hn0 Tryd.underlying39 ti3 rfl rfl rfl (by decide) hx14 rfl rfl) ?_
     rintro _ σq ⟨b15x, c16x, rfl, -, H2, m2⟩
     exact ⟨_, (a6, c7, a11, c12, b15x, c16x, b18), rfl, rfl, ⟨H2.sel' [1, 0, 2, 3, 4, 5] rfl rfl, m.comp0 m2⟩, stab [0, 1, 2, 3, 6] (by kernel_rfl) ⟨rfl, rfl, rfl, rfl, rfl, trivial⟩⟩
    refine ⟨?_, ?_⟩
    ·rintro ⟨a6, c7, a11, c12, b15, c16, b18⟩ ρ σm hJ hoff hdep
     obtain ⟨H, m⟩ := id hJ
     refine dp_ex wn (ex_make (el := n0) (z0 := (0 : Int)) (zs := [(I 0)]) H hn0 Tryd.underlying39 ti3 rfl rfl rfl (by decide) hx14 rfl rfl) ?_
     rintro _ σq ⟨b15x, c16x, rfl, -, H2, m2⟩
     exact ⟨_, (a6, c7, a11, c12, b15x, c16x, b18), rfl, rfl, ⟨H2.sel' [0, 1, 2, 3, 4, 5, 6] rfl rfl, m.comp0 m2⟩, stab [0, 1, 2, 3, 6] (by kernel_rfl) ⟨rfl, rfl, rfl, rfl, rfl, trivial⟩⟩
    refine ⟨?_, ?_⟩
    ·rintro ⟨a6, c7, a11, c12, b15, c16, b18⟩ ρ σm hJ hoff hdep
     obtain ⟨H, m⟩ := id hJ
     refine dp_ex wn (ex_make (el := n0) (z0 := (0 : Int)) (zs := [(I 0)]) H hn0 Tryd.underlying39 ti3 rfl rfl rfl (by decide) hx14 rfl rfl) ?_
     rintro _ σq ⟨b15x, c16x, rfl, -, H2, m2⟩
     exact ⟨_, (a6, c7, a11, c12, b15x, c16x, b18), rfl, rfl, ⟨H2.sel' [1, 0, 2, 3, 4, 5, 6] rfl rfl, m.comp0 m2⟩, stab [0, 1, 2, 3, 6] (by kernel_rfl) ⟨rfl, rfl, rfl, rfl, rfl, trivial⟩⟩
    refine ⟨?_, ?_⟩
    ·rintro ⟨a6, c7, a11, c12, b15, c16, b18⟩ ρ σm hJ hoff hdep
     obtain ⟨H, m⟩ := id hJ
     refine dp_ex wn (ex_make (el := n0) (z0 := (0 : Int)) (zs := [(I 0)]) H hn0 Tryd.underlying39 ti3 rfl rfl rfl (by decide) hx14 rfl rfl) ?_
     rintro _ σq ⟨b15x, c16x, rfl, -, H2, m2⟩
     exact ⟨_, (a6, c7, a11, c12, b15x, c16x, b18), rfl, rfl, ⟨H2.sel' [1, 0, 2, 3, 4, 5, 6, 7] rfl rfl, m.comp0 m2⟩, stab [0, 1, 2, 3, 6] (by kernel_rfl) ⟨rfl, rfl, rfl, rfl, rfl, trivial⟩⟩
    trivial) ?_
  refine ac rfl (by
    intro k; rintro ⟨a6, c7, a11, c12, b15, c16, b18⟩ ρ σm hJ hoff hdep
    have e6 : look 26 ρ 6 = (I r3.1) := hdep 1 rfl rfl 6 rfl
    have e8 : look 26 ρ 8 = (I r8.1) := hdep 3 rfl rfl 8 rfl
    have e9 : look 26 ρ 9 = (Sl (some ⟨b15, 0, none⟩) xs13 c16) := hdep 4 rfl rfl 9 rfl
    exact dp_v (v := (.agg #[(I r3.1), (Sl (some ⟨b15, 0, none⟩) xs13 c16), (I r8.1)])) wn (rv_build (ps := [(0, (I r3.1)), (2, (I r8.1)), (1, (Sl (some ⟨b15, 0, none⟩) xs13 c16))]) Tryd.underlying41 ti41 (bp41 Tryd.underlying41) (by show [(0, look 26 ρ 6), (2, look 26 ρ 8), (1, look 26 ρ 9)] = _; rw [e6, e8, e9]) (by kernel_rfl)) rfl hJ) ?_
  refine all_cons (by
    refine ⟨?_, ?_⟩
    ·rintro ⟨a6, c7, a11, c12, b15, c16, b18⟩ ρ σm hJ hoff hdep
     obtain ⟨H, m⟩ := id hJ
     refine dp_ex wn (ex_alloc (cs := [(I 0), (.slice none 0 0), (I 0)]) H hn0 ti41 rfl) ?_
     rintro _ σq ⟨b18x, rfl, H2, m2⟩
     exact ⟨_, (a6, c7, a11, c12, b15, c16, b18x), rfl, rfl, ⟨H2.sel' [0, 1, 2, 3, 4] rfl rfl, m.comp0 m2⟩, stab [0, 1, 2, 3, 4, 5] (by kernel_rfl) ⟨rfl, rfl, rfl, rfl, rfl, rfl, trivial⟩⟩
    refine ⟨?_, ?_⟩
    ·rintro ⟨a6, c7, a11, c12, b15, c16, b18⟩ ρ σm hJ hoff hdep
     obtain ⟨H, m⟩ := id hJ
     refine dp_ex wn (ex_alloc (cs := [(I 0), (.slice none 0 0), (I 0)]) H hn0 ti41 rfl) ?_
     rintro _ σq ⟨b18x, rfl, H2, m2⟩
     exact ⟨_, (a6, c7, a11, c12, b15, c16, b18x), rfl, rfl, ⟨H2.sel' [0, 1, 2, 3, 4, 5] rfl rfl, m.comp0 m2⟩, stab [0, 1, 2, 3, 4, 5] (by kernel_rfl) ⟨rfl, rfl, rfl, rfl, rfl, rfl, trivial⟩⟩
    refine ⟨?_, ?_⟩
    ·rintro ⟨a6, c7, a11, c12, b15, c16, b18⟩ ρ σm hJ hoff hdep
     obtain ⟨H, m⟩ := id hJ
     refine dp_ex wn (ex_alloc (cs := [(I 0), (.slice none 0 0), (I 0)]) H hn0 ti41 rfl) ?_
     rintro _ σq ⟨b18x, rfl, H2, m2⟩
     exact ⟨_, (a6, c7, a11, c12, b15, c16, b18x), rfl, rfl, ⟨H2.sel' [0, 1, 2, 3, 4, 5] rfl rfl, m.comp0 m2⟩, stab [0, 1, 2, 3, 4, 5] (by kernel_rfl) ⟨rfl, rfl, rfl, rfl, rfl, rfl, trivial⟩⟩
    refine ⟨?_, ?_⟩
    ·rintro ⟨a6, c7, a11, c12, b15, c16, b18⟩ ρ σm hJ hoff hdep
     obtain ⟨H, m⟩ := id hJ
     refine dp_ex wn (ex_alloc (cs := [(I 0), (.slice none 0 0), (I 0)]) H hn0 ti41 rfl) ?_
     rintro _ σq ⟨b18x, rfl, H2, m2⟩
     exact ⟨_, (a6, c7, a11, c12, b15, c16, b18x), rfl, rfl, ⟨H2.sel' [0, 1, 2, 3, 4, 5, 6] rfl rfl, m.comp0 m2⟩, stab [0, 1, 2, 3, 4, 5] (by kernel_rfl) ⟨rfl, rfl, rfl, rfl, rfl, rfl, trivial⟩⟩
    refine ⟨?_, ?_⟩
    ·rintro ⟨a6, c7, a11, c12, b15, c16, b18⟩ ρ σm hJ hoff hdep
     obtain ⟨H, m⟩ := id hJ
     refine dp_ex wn (ex_alloc (cs := [(I 0), (.slice none 0 0), (I 0)]) H hn0 ti41 rfl) ?_
     rintro _ σq ⟨b18x, rfl, H2, m2⟩
     exact ⟨_, (a6, c7, a11, c12, b15, c16, b18x), rfl, rfl, ⟨H2.sel' [0, 1, 2, 3, 4, 5, 6] rfl rfl, m.comp0 m2⟩, stab [0, 1, 2, 3, 4, 5] (by kernel_rfl) ⟨rfl, rfl, rfl, rfl, rfl, rfl, trivial⟩⟩
    refine ⟨?_, ?_⟩
    ·rintro ⟨a6, c7, a11, c12, b15, c16, b18⟩ ρ σm hJ hoff hdep
     obtain ⟨H, m⟩ := id hJ
     refine dp_ex wn (ex_alloc (cs := [(I 0), (.slice none 0 0), (I 0)]) H hn0 ti41 rfl) ?_
     rintro _ σq ⟨b18x, rfl, H2, m2⟩
     exact ⟨_, (a6, c7, a11, c12, b15, c16, b18x), rfl, rfl, ⟨H2.sel' [0, 1, 2, 3, 4, 5, 6, 7] rfl rfl, m.comp0 m2⟩, stab [0, 1, 2, 3, 4, 5] (by kernel_rfl) ⟨rfl, rfl, rfl, rfl, rfl, rfl, trivial⟩⟩
    trivial) ?_
  exact all_nil
 ·rintro ⟨a6, c7, a11, c12, b15, c16, b18⟩ ρ σ19 hJ hoff hrel
  have e0 := look_off (N := 26) (hoff 0 rfl) rfl
  have e2 := look_off (N := 26) (hoff 2 rfl) rfl
  have e3 := hrel 6 rfl 3 rfl
  have e10 := hrel 5 rfl 10 rfl
  obtain ⟨H, -⟩ := (show Hp S0 σ0 σ19 [Ch.bx n0 b18 0 [(I 0), (.slice none 0 0), (I 0)] [] [], Ch.own n0 n0 (Sl (some ⟨b15, 0, none⟩) xs13 c16) xs13, Ch.bx lor_0 br_0 or_0 [(Sl a11 r8.2.1 c12), (I r8.2.2.1), (er 72 ga r8.2.2.2)] prer_0 sufr_0, Ch.ro 0 (Sl a11 r8.2.1 c12) r8.2.1, Ch.ro 0 (Sl a6 r3.2.1 c7) r3.2.1, Ch.bx n0 b1 0 [(I 0), (.slice none 0 0), (I 0)] [] [], Ch.ro 0 (Sl ar_0_0 r_0.1 cr_0_0) r_0.1, Ch.gl 72 ga [1, 2, 0]] ∧ Md (fun i => (fun i => (cov []) i ∨ (cov [Ch.bx lor_0 br_0 or_0 [(Sl ar_0_0 r_0.1 cr_0_0), (I r_0.2.1), (er 72 ga r_0.2.2)] prer_0 sufr_0, Ch.ro 0 (Sl ar_0_0 r_0.1 cr_0_0) r_0.1, Ch.gl 72 ga [1, 2, 0]]) i) i ∨ (cov [Ch.bx lor_0 br_0 or_0 [(Sl a6 r3.2.1 c7), (I r3.2.2.1), (er 72 ga r3.2.2.2)] prer_0 sufr_0, Ch.ro 0 (Sl a6 r3.2.1 c7) r3.2.1, Ch.gl 72 ga [1, 2, 0]]) i) σ2 σ19 from hJ)
  clear hJ Hs
  rw [fr_lookL (L := [(0, (pt br_0 or_0)), (2, (pt b1 0)), (3, (pt b18 0)), (10, (.agg #[(I r3.1), (Sl (some ⟨b15, 0, none⟩) xs13 c16), (I r8.1)]))]) ⟨e0, e2, e3, e10, trivial⟩]
  clear hoff hrel e0 e2 e3 e10
  refine st_exS (ex_store_box (k := 0) (cs := [(I 0), (.slice none 0 0), (I 0)]) (vs := [(I r3.1), (Sl (some ⟨b15, 0, none⟩) xs13 c16), (I r8.1)]) (cs' := [(I r3.1), (Sl (some ⟨b15, 0, none⟩) xs13 c16), (I r8.1)]) H (i := 0) rfl ti41 rfl rfl rfl rfl rfl (Nat.le_of_ble_eq_true rfl) (by simp [plain]) rfl) wn ?_
  rintro σ20 ⟨H, -⟩
  replace H : Hp S0 σ0 σ20 [Ch.bx n0 b18 0 [(I r3.1), (Sl (some ⟨b15, 0, none⟩) xs13 c16), (I r8.1)] [] [], Ch.own n0 n0 (Sl (some ⟨b15, 0, none⟩) xs13 c16) xs13, Ch.bx lor_0 br_0 or_0 [(Sl a11 r8.2.1 c12), (I r8.2.2.1), (er 72 ga r8.2.2.2)] prer_0 sufr_0, Ch.ro 0 (Sl a11 r8.2.1 c12) r8.2.1, Ch.bx n0 b1 0 [(I 0), (.slice none 0 0), (I 0)] [] [], Ch.gl 72 ga [1, 2, 0]] := H.sel' [0, 1, 2, 3, 5, 7] rfl rfl
  refine w_end ?_
  refine q_then ?_
  refine c_seq ?_
  refine c_seq ?_
  refine rg ?_
  refine st (v := (pt b18 1)) (rv_fieldAddr (off := 1) (ft := 39) Tryd.underlying41 rfl ti39 rfl rfl) ?_
  have hc21 := H.cell (u := (Sl (some ⟨b15, 0, none⟩) xs13 c16)) (o' := 1) 0 1 rfl rfl rfl
  refine st (v := (Sl (some ⟨b15, 0, none⟩) xs13 c16)) (rv_load1 Tryd.underlying39 rfl rfl hc21) ?_
  refine st (v := (I (xs13.length : Int))) (rv_len Tryd.underlying39 rfl) ?_
  refine st (v := (I 0)) (rv_move rfl) ?_
  refine w_end ?_
  refine q_then ?_
  obtain ⟨o22, hj, h'⟩ := bind_some h
  clear h
  refine c_cut (fun e a w => e = .normal ∧ ∃ (ρ : Nat → Value) (σ : St) (aj1 : Option Addr) (cj2 : Nat) (aj3 : Option Addr) (cj4 : Nat), a = fr 26 (updL ρ [(0, (pt br_0 or_0)), (2, (pt b1 0)), (3, (pt b18 0))]) ∧ w = σ.w ∧ Hp S0 σ0 σ [Ch.bx lor_0 br_0 or_0 [(Sl aj1 o22.1.1 cj2), (I o22.1.2.1), (er 72 ga o22.1.2.2)] prer_0 sufr_0, Ch.ro 0 (Sl aj1 o22.1.1 cj2) o22.1.1, Ch.bx n0 b18 0 [(I o22.2.1), (Sl aj3 o22.2.2.1 cj4), (I o22.2.2.2)] [] [], Ch.own n0 n0 (Sl aj3 o22.2.2.1 cj4) o22.2.2.1, Ch.bx n0 b1 0 [(I 0), (.slice none 0 0), (I 0)] [] [], Ch.gl 72 ga [1, 2, 0]]) ?_ ?_
  ·clear h'
   rename _ = some o22 => h
   refine c_blk ?_
   refine wp_loopM _ h (fun s23 a w => ∃ (ρ : Nat → Value) (σ : St) (aj1 : Option Addr) (cj2 : Nat) (aj3 : Option Addr) (cj4 : Nat), a = fr 26 (updL ρ [(0, (pt br_0 or_0)), (2, (pt b1 0)), (3, (pt b18 0)), (13, (I (xs13.length : Int))), (14, (I s23.2.2))]) ∧ w = σ.w ∧ Hp S0 σ0 σ [Ch.bx lor_0 br_0 or_0 [(Sl aj1 s23.1.1 cj2), (I s23.1.2.1), (er 72 ga s23.1.2.2)] prer_0 sufr_0, Ch.ro 0 (Sl aj1 s23.1.1 cj2) s23.1.1, Ch.bx n0 b18 0 [(I s23.2.1.1), (Sl aj3 s23.2.1.2.1 cj4), (I s23.2.1.2.2)] [] [], Ch.own n0 n0 (Sl aj3 s23.2.1.2.1 cj4) s23.2.1.2.1, Ch.bx n0 b1 0 [(I 0), (.slice none 0 0), (I 0)] [] [], Ch.gl 72 ga [1, 2, 0]]) ⟨_, σ20, a11, c12, (some ⟨b15, 0, none⟩), c16, fr_join ⟨rfl, rfl, rfl, rfl, rfl, trivial⟩, rfl, H.sel' [2, 3, 0, 1, 4, 5] rfl rfl⟩ ?_
   clear h H
   rintro s23 a w o ⟨ρ, σ24, a25, c26, a27, c28, rfl, rfl, H⟩ h hres
   refine c_seq ?_
   refine rg ?_
   refine st (v := (B (decide (s23.2.2 < (xs13.length : Int))))) (rv_lss (a := s23.2.2) (b := (xs13.length : Int)) rfl rfl) ?_
   refine w_end ?_
   refine q_then ?_
   refine c_seq ?_
   refine cd_cond (decide (s23.2.2 < (xs13.length : Int))) rfl (fun hb29 => ?_) (fun hb29 => ?_)
   ·replace h := bif_t hb29 h
    refine c_skip ?_
    refine q_then ?_
    refine c_seq ?_
    refine c_blk ?_
    refine c_seq ?_
    refine rg ?_
    refine st (v := (I s23.2.2)) (rv_move rfl) ?_
    refine st (v := (I s23.2.2)) (rv_assign rfl) ?_
    refine w_end ?_
    refine q_then ?_
    have hc30 := H.cell (u := (Sl a27 s23.2.1.2.1 c28)) (o' := 1) 2 1 rfl rfl rfl
    obtain ⟨r31, hx32, h'⟩ := bind_some h
    clear h
    have h := h'; clear h'
    have hc33 := c_impl_pageReader_next (lor_0 := lor_0) (br_0 := br_0) (or_0 := or_0) (prer_0 := prer_0) (sufr_0 := sufr_0) (ar_0_0 := a25) (cr_0_0 := c26) (ga := ga) hx32
    have Hs := H
    refine rg2 (σ := σ24) (Nm := (Option Addr) × (Nat)) 6 [4] [[false], [true]] [[(0, 0), (1, 1)], [(0, 0), (1, 1)], [(0, 0), (1, 1)], [(0, 0)], [(0, 1)], [(1, 1)]] 1 [fun ((a34, c35) : (Option Addr) × (Nat)) => fun σm => Hp S0 σ0 σm [Ch.bx lor_0 br_0 or_0 [(Sl a25 s23.1.1 c26), (I s23.1.2.1), (er 72 ga s23.1.2.2)] prer_0 sufr_0, Ch.ro 0 (Sl a25 s23.1.1 c26) s23.1.1, Ch.bx n0 b18 0 [(I s23.2.1.1), (Sl a27 s23.2.1.2.1 c28), (I s23.2.1.2.2)] [] [], Ch.own n0 n0 (Sl a27 s23.2.1.2.1 c28) s23.2.1.2.1, Ch.bx n0 b1 0 [(I 0), (.slice none 0 0), (I 0)] [] [], Ch.gl 72 ga [1, 2, 0]] ∧ Md (cov []) σ24 σm, fun ((a34, c35) : (Option Addr) × (Nat)) => fun σm => Hp S0 σ0 σm [Ch.bx lor_0 br_0 or_0 [(Sl a34 r31.2.1 c35), (I r31.2.2.1), (er 72 ga r31.2.2.2)] prer_0 sufr_0, Ch.ro 0 (Sl a34 r31.2.1 c35) r31.2.1, Ch.ro 0 (Sl a25 s23.1.1 c26) s23.1.1, Ch.bx n0 b18 0 [(I s23.2.1.1), (Sl a27 s23.2.1.2.1 c28), (I s23.2.1.2.2)] [] [], Ch.own n0 n0 (Sl a27 s23.2.1.2.1 c28) s23.2.1.2.1, Ch.bx n0 b1 0 [(I 0), (.slice none 0 0), (I 0)] [] [], Ch.gl 72 ga [1, 2, 0]] ∧ Md (fun i => (cov []) i ∨ (cov [Ch.bx lor_0 br_0 or_0 [(Sl a25 s23.1.1 c26), (I s23.1.2.1), (er 72 ga s23.1.2.2)] prer_0 sufr_0, Ch.ro 0 (Sl a25 s23.1.1 c26) s23.1.1, Ch.gl 72 ga [1, 2, 0]]) i) σ24 σm] [fun ((a34, c35) : (Option Addr) × (Nat)) => (pt b18 1), fun ((a34, c35) : (Option Addr) × (Nat)) => (Sl a27 s23.2.1.2.1 c28), fun ((a34, c35) : (Option Addr) × (Nat)) => (I s23.2.2), fun ((a34, c35) : (Option Addr) × (Nat)) => (pt br_0 or_0), fun ((a34, c35) : (Option Addr) × (Nat)) => (I r31.1), fun ((a34, c35) : (Option Addr) × (Nat)) => (I (w64 (r31.1 - 128)))] (none, 0) (by kernel_rfl) (by kernel_rfl) ?_ ?_ ?_
    ·intro σm m0
     exact ⟨H.grow (m0.mono fun _ h => h.elim), m0⟩
    ·refine ac rfl (by
       intro k; rintro ⟨a34, c35⟩ ρ σm hJ hoff hdep
       have e3 := look_off (N := 26) (hoff 3 rfl) rfl
       exact dp_v (v := (pt b18 1)) wn (rv_fieldAddr (off := 1) (ft := 39) Tryd.underlying41 rfl ti39 rfl e3) rfl hJ) ?_
     refine all_cons (by
       refine ⟨?_, ?_⟩
       ·rintro ⟨a34, c35⟩ ρ σm hJ hoff hdep
        have e17 := hdep 0 rfl rfl 17 rfl
        obtain ⟨H, m⟩ := id hJ
        have hc30 := H.cell (u := (Sl a27 s23.2.1.2.1 c28)) (o' := 1) 2 1 rfl rfl rfl
        exact dp_v (v := (Sl a27 s23.2.1.2.1 c28)) wn (rv_load1 Tryd.underlying39 rfl e17 hc30) rfl hJ
       refine ⟨?_, ?_⟩
       ·rintro ⟨a34, c35⟩ ρ σm hJ hoff hdep
        have e17 := hdep 0 rfl rfl 17 rfl
        obtain ⟨H, m⟩ := id hJ
        have hc30 := H.cell (u := (Sl a27 s23.2.1.2.1 c28)) (o' := 1) 3 1 rfl rfl rfl
        exact dp_v (v := (Sl a27 s23.2.1.2.1 c28)) wn (rv_load1 Tryd.underlying39 rfl e17 hc30) rfl hJ
       trivial) ?_
     refine ac rfl (by
       intro k; rintro ⟨a34, c35⟩ ρ σm hJ hoff hdep
       have e4 := look_off (N := 26) (hoff 4 rfl) rfl
       exact dp_v (v := (I s23.2.2)) wn (rv_move e4) rfl hJ) ?_
     refine ac rfl (by
       intro k; rintro ⟨a34, c35⟩ ρ σm hJ hoff hdep
       have e0 := look_off (N := 26) (hoff 0 rfl) rfl
       exact dp_v (v := (pt br_0 or_0)) wn (rv_move e0) rfl hJ) ?_
     refine all_cons (by
       refine ⟨?_, ?_⟩
       ·rintro ⟨a34, c35⟩ ρ σm hJ hoff hdep
        have e20 : look 26 ρ 20 = (pt br_0 or_0) := hdep 3 rfl rfl 20 rfl
        obtain ⟨H, m⟩ := id hJ
        refine dp_cx wn (cx_call hc33 (ent_f hc33.fn (by show [look 26 ρ 20] = _; rw [e20])) hn0 (show Hp S0 σ0 _ ([Ch.bx lor_0 br_0 or_0 [(Sl a25 s23.1.1 c26), (I s23.1.2.1), (er 72 ga s23.1.2.2)] prer_0 sufr_0, Ch.ro 0 (Sl a25 s23.1.1 c26) s23.1.1, Ch.gl 72 ga [1, 2, 0]] ++ [Ch.ro 0 (Sl a25 s23.1.1 c26) s23.1.1, Ch.bx n0 b18 0 [(I s23.2.1.1), (Sl a27 s23.2.1.2.1 c28), (I s23.2.1.2.2)] [] [], Ch.own n0 n0 (Sl a27 s23.2.1.2.1 c28) s23.2.1.2.1, Ch.bx n0 b1 0 [(I 0), (.slice none 0 0), (I 0)] [] [], Ch.gl 72 ga [1, 2, 0]]) from (H.sel' [0, 1, 5, 1, 2, 3, 4, 5] rfl rfl))) ?_
        rintro _ σq ⟨_, ⟨a34x, c35x, rfl, rfl⟩, H2, m2⟩
        exact ⟨_, (a34x, c35x), rfl, rfl, ⟨H2.sel' [0, 1, 2, 3, 4, 5, 6] rfl rfl, m.comp m2⟩, stab [0, 1, 2, 3] (by kernel_rfl) ⟨rfl, rfl, rfl, rfl, trivial⟩⟩
       trivial) ?_
     refine ac rfl (by
       intro k; rintro ⟨a34, c35⟩ ρ σm hJ hoff hdep
       have e21 := hdep 4 rfl rfl 21 rfl
       exact dp_v (v := (I (w64 (r31.1 - 128)))) wn (rv_sub (a := r31.1) (b := 128) e21 rfl) rfl hJ) ?_
     exact all_nil
    ·rintro ⟨a34, c35⟩ ρ σ36 hJ hoff hrel
     have e0 := look_off (N := 26) (hoff 0 rfl) rfl
     have e2 := look_off (N := 26) (hoff 2 rfl) rfl
     have e3 := look_off (N := 26) (hoff 3 rfl) rfl
     have e13 := look_off (N := 26) (hoff 13 rfl) rfl
     have e14 := look_off (N := 26) (hoff 14 rfl) rfl
     have e18 := hrel 1 rfl 18 rfl
     have e19 := hrel 2 rfl 19 rfl
     have e22 := hrel 5 rfl 22 rfl
     obtain ⟨H, -⟩ := (show Hp S0 σ0 σ36 [Ch.bx lor_0 br_0 or_0 [(Sl a34 r31.2.1 c35), (I r31.2.2.1), (er 72 ga r31.2.2.2)] prer_0 sufr_0, Ch.ro 0 (Sl a34 r31.2.1 c35) r31.2.1, Ch.ro 0 (Sl a25 s23.1.1 c26) s23.1.1, Ch.bx n0 b18 0 [(I s23.2.1.1), (Sl a27 s23.2.1.2.1 c28), (I s23.2.1.2.2)] [] [], Ch.own n0 n0 (Sl a27 s23.2.1.2.1 c28) s23.2.1.2.1, Ch.bx n0 b1 0 [(I 0), (.slice none 0 0), (I 0)] [] [], Ch.gl 72 ga [1, 2, 0]] ∧ Md (fun i => (cov []) i ∨ (cov [Ch.bx lor_0 br_0 or_0 [(Sl a25 s23.1.1 c26), (I s23.1.2.1), (er 72 ga s23.1.2.2)] prer_0 sufr_0, Ch.ro 0 (Sl a25 s23.1.1 c26) s23.1.1, Ch.gl 72 ga [1, 2, 0]]) i) σ24 σ36 from hJ)
     clear hJ Hs
     rw [fr_lookL (L := [(0, (pt br_0 or_0)), (2, (pt b1 0)), (3, (pt b18 0)), (13, (I (xs13.length : Int))), (14, (I s23.2.2)), (18, (Sl a27 s23.2.1.2.1 c28)), (19, (I s23.2.2)), (22, (I (w64 (r31.1 - 128))))]) ⟨e0, e2, e3, e13, e14, e18, e19, e22, trivial⟩]
     clear hoff hrel e0 e2 e3 e13 e14 e18 e19 e22
     obtain ⟨x37, hx38, h'⟩ := bind_some h
     clear h
     have h := h'; clear h'
     obtain ⟨b40, o41, hi39, -⟩ := (H.own 4 rfl).ix hx38
     refine st (v := (pt b40 o41)) (rv_ix Tryd.underlying39 ti3 rfl rfl hi39) ?_
     refine st_exS (ex_store_own (e' := (w64 (r31.1 - 128))) (vs := [(I (w64 (r31.1 - 128)))]) (k := 0) H (i := 4) rfl ti3 hx38 hi39 rfl rfl rfl rfl rfl (Nat.le_of_ble_eq_true rfl) (by simp [plain]) (by rintro _ rfl; exact rfl)) wn ?_
     rintro σ42 ⟨H, -⟩
     have hsl : (Sl a27 s23.2.1.2.1 c28) = (Sl a27 (s23.2.1.2.1.set s23.2.2.toNat (w64 (r31.1 - 128))) c28) := sl_len List.length_set.symm
     rw [hsl]; rw [hsl] at H; clear hsl
     refine w_end ?_
     refine q_blk ?_
     refine q_then ?_
     refine rg ?_
     refine st (v := (I (w64 (s23.2.2 + 1)))) (rv_add (a := s23.2.2) (b := 1) rfl rfl) ?_
     refine st (v := (I (w64 (s23.2.2 + 1)))) (rv_move rfl) ?_
     refine w_end ?_
     refine q_then ?_
     obtain rfl := Option.some.inj h
     exact ⟨_, rfl, _, σ42, a34, c35, a27, c28, fr_join ⟨rfl, rfl, rfl, rfl, rfl, trivial⟩, rfl, H.sel' [1, 2, 4, 0, 5, 6] rfl rfl⟩
   ·replace h := bif_f hb29 h
    refine c_exit ?_
    refine q_then_x ?_
    refine q_then_x ?_
    refine q_blk_hit ?_
    obtain rfl := Option.some.inj h
    obtain rfl := hres _ rfl
    exact ⟨rfl, _, σ24, a25, c26, a27, c28, fr_join ⟨rfl, rfl, rfl, trivial⟩, rfl, H.sel' [0, 1, 2, 3, 4, 5] rfl rfl⟩
  ·clear hj
   have h := h'
   clear h' H
   rintro e a w ⟨rfl, ρ, σ43, a44, c45, a46, c47, rfl, rfl, H⟩
   refine q_then ?_
   refine c_seq ?_
   refine rg ?_
   have hc48 := H.cells 2 rfl
   refine st (v := (.agg #[(I o22.2.1), (Sl a46 o22.2.2.1 c47), (I o22.2.2.2)])) (rv_load (cs := [(I o22.2.1), (Sl a46 o22.2.2.1 c47), (I o22.2.2.2)]) Tryd.underlying41 rfl ti41 rfl rfl hc48) ?_
   refine st_exS (ex_store_box (k := 0) (cs := [(I 0), (.slice none 0 0), (I 0)]) (vs := [(I o22.2.1), (Sl a46 o22.2.2.1 c47), (I o22.2.2.2)]) (cs' := [(I o22.2.1), (Sl a46 o22.2.2.1 c47), (I o22.2.2.2)]) H (i := 4) rfl ti41 rfl rfl rfl rfl rfl (Nat.le_of_ble_eq_true rfl) (by simp [plain]) rfl) wn ?_
   rintro σ49 ⟨H, -⟩
   refine w_end ?_
   refine q_then ?_
   refine c_ret ?_
   obtain rfl := Option.some.inj h
   exact fin_ret (v := (.agg #[(I o22.2.1), (Sl a46 o22.2.2.1 c47), (I o22.2.2.2)])) (results_ok Tryd.results37 (res_cell rfl (run_cellRes (cs := [(I o22.2.1), (Sl a46 o22.2.2.1 c47), (I o22.2.2.2)]) Tryd.underlying41 rfl ti41 rfl (H.cells 0 rfl)) res_nil) rfl) ⟨a46, c47, a44, c45, rfl, rfl⟩ (H.sel' [4, 1, 2] rfl rfl)

theorem c_impl_pageReader_items {r_0 : (List UInt8) × Int × Int} {ar_0_0 : Option Addr} {cr_0_0 : Nat} {lor_0 br_0 or_0 : Nat} {prer_0 sufr_0 : List Value} {ga : Nat → Addr} {r : (List (Int × (List Int) × Int)) × ((List UInt8) × Int × Int)} (h : M.impl_pageReader_items r_0 = some r) :
    Cal2 Tryd.prog 25 [(pt br_0 or_0)] [Ch.bx lor_0 br_0 or_0 [(Sl ar_0_0 r_0.1 cr_0_0), (I r_0.2.1), (er 72 ga r_0.2.2)] prer_0 sufr_0, Ch.ro 0 (Sl ar_0_0 r_0.1 cr_0_0) r_0.1, Ch.gl 72 ga [1, 2, 0]] (fun n0 v L => ∃ (az1 : Option Addr), ∃ (cz2 : Nat), ∃ (az3 : Option Addr), ∃ (cz4 : Nat), v = (Sl az1 r.1 cz2) ∧ L = [Ch.own n0 n0 (Sl az1 r.1 cz2) r.1, Ch.bx lor_0 br_0 or_0 [(Sl az3 r.2.1 cz4), (I r.2.2.1), (er 72 ga r.2.2.2)] prer_0 sufr_0, Ch.ro 0 (Sl az3 r.2.1 cz4) r.2.1]) := by
 refine cal2 (n := 15) Tryd.func25 rfl rfl rfl rfl ?_
 intro S0 σ0 n0 hn0 H
 unfold M.impl_pageReader_items at h
 refine c_seq ?_
 refine rg ?_
 refine st (v := (.slice none 0 0)) (rv_assign rfl) ?_
 refine w_end ?_
 refine q_then ?_
 refine c_seq ?_
 refine rg ?_
 refine st (v := (.slice none 0 0)) (rv_assign rfl) ?_
 refine w_end ?_
 refine q_then ?_
 refine c_seq ?_
 refine c_seq ?_
 refine rg ?_
 refine st (v := (pt br_0 or_0)) (rv_move rfl) ?_
 obtain ⟨r1, hx2, h'⟩ := bind_some h
 clear h
 have h := h'; clear h'
 have hc3 := c_impl_pageReader_next (lor_0 := lor_0) (br_0 := br_0) (or_0 := or_0) (prer_0 := prer_0) (sufr_0 := sufr_0) (ar_0_0 := ar_0_0) (cr_0_0 := cr_0_0) (ga := ga) hx2
 refine st_call (cx_call hc3 (ent_f hc3.fn rfl) hn0 (show Hp S0 σ0 _ ([Ch.bx lor_0 br_0 or_0 [(Sl ar_0_0 r_0.1 cr_0_0), (I r_0.2.1), (er 72 ga r_0.2.2)] prer_0 sufr_0, Ch.ro 0 (Sl ar_0_0 r_0.1 cr_0_0) r_0.1, Ch.gl 72 ga [1, 2, 0]] ++ [Ch.ro 0 (Sl ar_0_0 r_0.1 cr_0_0) r_0.1, Ch.gl 72 ga [1, 2, 0]]) from (H.sel' [0, 1, 2, 1, 2] rfl rfl))) wn ?_
 rintro _ σ6 ⟨_, ⟨a4, c5, rfl, rfl⟩, H, -⟩
 replace H : Hp S0 σ0 σ6 [Ch.bx lor_0 br_0 or_0 [(Sl a4 r1.2.1 c5), (I r1.2.2.1), (er 72 ga r1.2.2.2)] prer_0 sufr_0, Ch.ro 0 (Sl a4 r1.2.1 c5) r1.2.1, Ch.ro 0 (Sl ar_0_0 r_0.1 cr_0_0) r_0.1, Ch.gl 72 ga [1, 2, 0]] := H
 refine st (v := (I 0)) (rv_move rfl) ?_
 refine w_end ?_
 refine q_then ?_
 obtain ⟨o7, hj, h'⟩ := bind_some h
 clear h
 refine c_cut (fun e a w => e = .normal ∧ ∃ (ρ : Nat → Value) (σ : St) (aj1 : Option Addr) (cj2 : Nat) (aj3 : Option Addr) (cj4 : Nat), a = fr 15 (updL ρ [(0, (pt br_0 or_0)), (3, (Sl aj3 o7.2 cj4))]) ∧ w = σ.w ∧ Hp S0 σ0 σ [Ch.bx lor_0 br_0 or_0 [(Sl aj1 o7.1.1 cj2), (I o7.1.2.1), (er 72 ga o7.1.2.2)] prer_0 sufr_0, Ch.ro 0 (Sl aj1 o7.1.1 cj2) o7.1.1, Ch.own n0 n0 (Sl aj3 o7.2 cj4) o7.2, Ch.gl 72 ga [1, 2, 0]]) ?_ ?_
 ·clear h'
  rename _ = some o7 => h
  refine c_blk ?_
  replace H := H.nilOwn (Int × (List Int) × Int) n0 n0
  refine wp_loopM _ h (fun s8 a w => ∃ (ρ : Nat → Value) (σ : St) (aj1 : Option Addr) (cj2 : Nat) (aj3 : Option Addr) (cj4 : Nat), a = fr 15 (updL ρ [(0, (pt br_0 or_0)), (3, (Sl aj3 s8.2.1 cj4)), (5, (I r1.1)), (6, (I s8.2.2))]) ∧ w = σ.w ∧ Hp S0 σ0 σ [Ch.bx lor_0 br_0 or_0 [(Sl aj1 s8.1.1 cj2), (I s8.1.2.1), (er 72 ga s8.1.2.2)] prer_0 sufr_0, Ch.ro 0 (Sl aj1 s8.1.1 cj2) s8.1.1, Ch.own n0 n0 (Sl aj3 s8.2.1 cj4) s8.2.1, Ch.gl 72 ga [1, 2, 0]]) ⟨_, σ6, a4, c5, none, 0, fr_join ⟨rfl, rfl, rfl, rfl, trivial⟩, rfl, H.sel' [1, 2, 0, 4] rfl rfl⟩ ?_
  clear h H
  rintro s8 a w o ⟨ρ, σ9, a10, c11, a12, c13, rfl, rfl, H⟩ h hres
  refine c_seq ?_
  refine rg ?_
  refine st (v := (B (decide (s8.2.2 < r1.1)))) (rv_lss (a := s8.2.2) (b := r1.1) rfl rfl) ?_
  refine w_end ?_
  refine q_then ?_
  refine c_seq ?_
  refine cd_cond (decide (s8.2.2 < r1.1)) rfl (fun hb14 => ?_) (fun hb14 => ?_)
  ·replace h := bif_t hb14 h
   refine c_skip ?_
   refine q_then ?_
   refine c_seq ?_
   refine c_blk ?_
   refine rg ?_
   refine st (v := (Sl a12 s8.2.1 c13)) (rv_move rfl) ?_
   refine st (v := (pt br_0 or_0)) (rv_move rfl) ?_
   obtain ⟨r15, hx16, h'⟩ := bind_some h
   clear h
   have h := h'; clear h'
   have hc17 := c_impl_pageReader_item (lor_0 := lor_0) (br_0 := br_0) (or_0 := or_0) (prer_0 := prer_0) (sufr_0 := sufr_0) (ar_0_0 := a10) (cr_0_0 := c11) (ga := ga) hx16
   refine st_call (cx_call hc17 (ent_f hc17.fn rfl) hn0 (show Hp S0 σ0 _ ([Ch.bx lor_0 br_0 or_0 [(Sl a10 s8.1.1 c11), (I s8.1.2.1), (er 72 ga s8.1.2.2)] prer_0 sufr_0, Ch.ro 0 (Sl a10 s8.1.1 c11) s8.1.1, Ch.gl 72 ga [1, 2, 0]] ++ [Ch.ro 0 (Sl a10 s8.1.1 c11) s8.1.1, Ch.own n0 n0 (Sl a12 s8.2.1 c13) s8.2.1, Ch.gl 72 ga [1, 2, 0]]) from (H.sel' [0, 1, 3, 1, 2, 3] rfl rfl))) wn ?_
   rintro _ σ22 ⟨_, ⟨a18, c19, a20, c21, rfl, rfl⟩, H, -⟩
   replace H : Hp S0 σ0 σ22 [Ch.own n0 n0 (Sl a18 r15.1.2.1 c19) r15.1.2.1, Ch.bx lor_0 br_0 or_0 [(Sl a20 r15.2.1 c21), (I r15.2.2.1), (er 72 ga r15.2.2.2)] prer_0 sufr_0, Ch.ro 0 (Sl a20 r15.2.1 c21) r15.2.1, Ch.ro 0 (Sl a10 s8.1.1 c11) s8.1.1, Ch.own n0 n0 (Sl a12 s8.2.1 c13) s8.2.1, Ch.gl 72 ga [1, 2, 0]] := H
   obtain ⟨σ23, hw24, H, -⟩ := H.pub 0 rfl (Nat.le_refl _)
   rw [← hw24]; clear hw24
   refine st_ex (ex_buildSlice (el := n0) (xs := ([(r15.1.1, r15.1.2.1, r15.1.2.2)] : List (Int × (List Int) × Int))) (ps := [(0, (.agg #[(I r15.1.1), (Sl a18 r15.1.2.1 c19), (I r15.1.2.2)]))]) (cs := [(I r15.1.1), (Sl a18 r15.1.2.1 c19), (I r15.1.2.2)]) H hn0 Tryd.underlying23 ti41 rfl rfl (by kernel_rfl) (.cons (c := [(I r15.1.1), (Sl a18 r15.1.2.1 c19), (I r15.1.2.2)]) ⟨[(I r15.1.1)], [(Sl a18 r15.1.2.1 c19), (I r15.1.2.2)], rfl, rfl, ⟨[(Sl a18 r15.1.2.1 c19)], [(I r15.1.2.2)], rfl, ⟨_, rfl, (H.ro 0 rfl)⟩, rfl⟩⟩ (.nil)) rfl) wn ?_
   rintro _ σ26 ⟨b25, rfl, H, -⟩
   obtain ⟨xs27, hx28, h'⟩ := bind_some h
   clear h
   have h := h'; clear h'
   refine st_ex (ex_append H (i := 5) rfl Tryd.underlying23 Tryd.underlying23 ti41 rfl rfl (by decide) (H.own 0 rfl).rd hx28 hn0 rfl rfl) wn ?_
   rintro _ σ31 ⟨a29, c30, rfl, H, -⟩
   refine st (v := (Sl a29 xs27 c30)) (rv_assign rfl) ?_
   refine w_end ?_
   refine q_blk ?_
   refine q_then ?_
   refine rg ?_
   refine st (v := (I (w64 (s8.2.2 + 1)))) (rv_add (a := s8.2.2) (b := 1) rfl rfl) ?_
   refine st (v := (I (w64 (s8.2.2 + 1)))) (rv_move rfl) ?_
   refine w_end ?_
   refine q_then ?_
   obtain rfl := Option.some.inj h
   exact ⟨_, rfl, _, σ31, a20, c21, a29, c30, fr_join ⟨rfl, rfl, rfl, rfl, trivial⟩, rfl, H.sel' [3, 4, 0, 6] rfl rfl⟩
  ·replace h := bif_f hb14 h
   refine c_exit ?_
   refine q_then_x ?_
   refine q_then_x ?_
   refine q_blk_hit ?_
   obtain rfl := Option.some.inj h
   obtain rfl := hres _ rfl
   exact ⟨rfl, _, σ9, a10, c11, a12, c13, fr_join ⟨rfl, rfl, trivial⟩, rfl, H.sel' [0, 1, 2, 3] rfl rfl⟩
 ·clear hj
  have h := h'
  clear h' H
  rintro e a w ⟨rfl, ρ, σ32, a33, c34, a35, c36, rfl, rfl, H⟩
  refine q_then ?_
  refine c_seq ?_
  refine rg ?_
  refine st (v := (Sl a35 o7.2 c36)) (rv_move rfl) ?_
  refine st (v := (Sl a35 o7.2 c36)) (rv_assign rfl) ?_
  refine w_end ?_
  refine q_then ?_
  refine c_ret ?_
  obtain rfl := Option.some.inj h
  exact fin_ret (v := (Sl a35 o7.2 c36)) (results_ok Tryd.results25 (res_tmp (v := (Sl a35 o7.2 c36)) rfl res_nil) rfl) ⟨a35, c36, a33, c34, rfl, rfl⟩ (H.sel' [2, 0, 1] rfl rfl)

theorem c_impl_pageReader_end {r_0 : (List UInt8) × Int × Int} {ar_0_0 : Option Addr} {cr_0_0 : Nat} {lor_0 br_0 or_0 : Nat} {prer_0 sufr_0 : List Value} {ga : Nat → Addr} {r : ((List UInt8) × Int × Int)} (h : M.impl_pageReader_end r_0 = some r) :
    Cal2 Tryd.prog 26 [(pt br_0 or_0)] [Ch.bx lor_0 br_0 or_0 [(Sl ar_0_0 r_0.1 cr_0_0), (I r_0.2.1), (er 72 ga r_0.2.2)] prer_0 sufr_0, Ch.ro 0 (Sl ar_0_0 r_0.1 cr_0_0) r_0.1, Ch.gl 72 ga [1, 2, 0]] (fun n0 v L => ∃ (az1 : Option Addr), ∃ (cz2 : Nat), v = (.tuple #[]) ∧ L = [Ch.bx lor_0 br_0 or_0 [(Sl az1 r.1 cz2), (I r.2.1), (er 72 ga r.2.2)] prer_0 sufr_0, Ch.ro 0 (Sl az1 r.1 cz2) r.1]) := by
 refine cal2 (n := 33) Tryd.func26 rfl rfl rfl rfl ?_
 intro S0 σ0 n0 hn0 H
 unfold M.impl_pageReader_end at h
 refine c_seq ?_
 refine rgP (σ := σ0) 8 (by kernel_rfl) (by kernel_rfl) (by kernel_rfl) ?_
 refine sq (v := (pt br_0 or_0)) (rv_move rfl) ?_
 refine sq (v := (pt br_0 or_0)) (rv_nilCheck rfl) ?_
 refine sq (v := (pt br_0 or_0)) (rv_fieldAddr (off := 0) (ft := 22) Tryd.underlying46 rfl ti22 rfl rfl) ?_
 have hc1 := H.cell (u := (Sl ar_0_0 r_0.1 cr_0_0)) (o' := or_0) 0 0 rfl rfl rfl
 refine sq (v := (Sl ar_0_0 r_0.1 cr_0_0)) (rv_load1 Tryd.underlying22 rfl rfl hc1) ?_
 refine sq (v := (pt br_0 or_0)) (rv_move rfl) ?_
 refine sq (v := (pt br_0 or_0)) (rv_nilCheck rfl) ?_
 refine sq (v := (pt br_0 (or_0 + 1))) (rv_fieldAddr (off := 1) (ft := 3) Tryd.underlying46 rfl ti3 rfl rfl) ?_
 have hc2 := H.cell (u := (I r_0.2.1)) (o' := (or_0 + 1)) 0 1 rfl rfl rfl
 refine sq (v := (I r_0.2.1)) (rv_load1 Tryd.underlying3 rfl rfl hc2) ?_
 refine sq_end ?_
 intro σ3 hm4
 replace H := H.grow (hm4.mono fun _ h => h); clear hm4
 obtain ⟨xs5, hx6, h'⟩ := bind_some h
 clear h
 have h := h'; clear h'
 obtain ⟨a7, c8, hs9, hR10⟩ := (H.ro 1 rfl).slice hx6
 replace H := H.add (d := Ch.ro 0 (Sl a7 xs5 c8) xs5) hR10 (fun _ h => h)
 clear hR10
 refine st (v := (Sl a7 xs5 c8)) (rv_slice_h Tryd.underlying22 ti5 hs9 rfl rfl) ?_
 obtain ⟨r11, hx12, h'⟩ := bind_some h
 clear h
 have h := h'; clear h'
 have hc13 := c_impl_CheckOf (ab_0 := a7) (cb_0 := c8) hx12
 refine st_call (cx_call hc13 (ent_f hc13.fn rfl) hn0 (show Hp S0 σ0 _ ([Ch.ro 0 (Sl a7 xs5 c8) xs5] ++ [Ch.ro 0 (Sl a7 xs5 c8) xs5, Ch.bx lor_0 br_0 or_0 [(Sl ar_0_0 r_0.1 cr_0_0), (I r_0.2.1), (er 72 ga r_0.2.2)] prer_0 sufr_0, Ch.ro 0 (Sl ar_0_0 r_0.1 cr_0_0) r_0.1, Ch.gl 72 ga [1, 2, 0]]) from (H.sel' [0, 0, 1, 2, 3] rfl rfl))) wn ?_
 rintro _ σ14 ⟨_, ⟨rfl, rfl⟩, H, -⟩
 replace H : Hp S0 σ0 σ14 [Ch.ro 0 (Sl a7 xs5 c8) xs5, Ch.bx lor_0 br_0 or_0 [(Sl ar_0_0 r_0.1 cr_0_0), (I r_0.2.1), (er 72 ga r_0.2.2)] prer_0 sufr_0, Ch.ro 0 (Sl ar_0_0 r_0.1 cr_0_0) r_0.1, Ch.gl 72 ga [1, 2, 0]] := H
 refine st (v := (I r11)) (rv_assign rfl) ?_
 refine w_end ?_
 refine q_then ?_
 refine c_seq ?_
 refine c_seq ?_
 refine rg ?_
 refine st (v := (pt br_0 or_0)) (rv_move rfl) ?_
 obtain ⟨r15, hx16, h'⟩ := bind_some h
 clear h
 have h := h'; clear h'
 have hc17 := c_impl_pageReader_next (lor_0 := lor_0) (br_0 := br_0) (or_0 := or_0) (prer_0 := prer_0) (sufr_0 := sufr_0) (ar_0_0 := ar_0_0) (cr_0_0 := cr_0_0) (ga := ga) hx16
 refine st_call (cx_call hc17 (ent_f hc17.fn rfl) hn0 (show Hp S0 σ0 _ ([Ch.bx lor_0 br_0 or_0 [(Sl ar_0_0 r_0.1 cr_0_0), (I r_0.2.1), (er 72 ga r_0.2.2)] prer_0 sufr_0, Ch.ro 0 (Sl ar_0_0 r_0.1 cr_0_0) r_0.1, Ch.gl 72 ga [1, 2, 0]] ++ [Ch.ro 0 (Sl a7 xs5 c8) xs5, Ch.ro 0 (Sl ar_0_0 r_0.1 cr_0_0) r_0.1, Ch.gl 72 ga [1, 2, 0]]) from (H.sel' [1, 2, 3, 0, 2, 3] rfl rfl))) wn ?_
 rintro _ σ20 ⟨_, ⟨a18, c19, rfl, rfl⟩, H, -⟩
 replace H : Hp S0 σ0 σ20 [Ch.bx lor_0 br_0 or_0 [(Sl a18 r15.2.1 c19), (I r15.2.2.1), (er 72 ga r15.2.2.2)] prer_0 sufr_0, Ch.ro 0 (Sl a18 r15.2.1 c19) r15.2.1, Ch.ro 0 (Sl a7 xs5 c8) xs5, Ch.ro 0 (Sl ar_0_0 r_0.1 cr_0_0) r_0.1, Ch.gl 72 ga [1, 2, 0]] := H
 refine st (v := (I r11)) (rv_move rfl) ?_
 refine st (v := (B (r15.1 != r11))) (rv_neq (a := r15.1) (b := r11) rfl rfl) ?_
 refine w_end ?_
 refine q_then ?_
 obtain ⟨o21, hj, h'⟩ := bind_some h
 clear h
 refine c_cut (fun e a w => e = .normal ∧ ∃ (ρ : Nat → Value) (σ : St) (aj1 : Option Addr) (cj2 : Nat), a = fr 33 (updL ρ [(0, (pt br_0 or_0))]) ∧ w = σ.w ∧ Hp S0 σ0 σ [Ch.bx lor_0 br_0 or_0 [(Sl aj1 o21.1 cj2), (I o21.2.1), (er 72 ga o21.2.2)] prer_0 sufr_0, Ch.ro 0 (Sl aj1 o21.1 cj2) o21.1, Ch.gl 72 ga [1, 2, 0]]) ?_ ?_
 ·clear h'
  rename _ = some o21 => h
  refine cd_cond (r15.1 != r11) rfl (fun hb22 => ?_) (fun hb22 => ?_)
  ·replace h := bif_t hb22 h
   refine rg ?_
   refine st (v := (pt br_0 or_0)) (rv_move rfl) ?_
   have hc23 := gl_cell (H.gl 4 rfl) 2 0 3 rfl rfl
   refine st (v := (er 72 ga 3)) (rv_loadG Tryd.underlying44 hc23) ?_
   obtain ⟨r24, hx25, h'⟩ := bind_some h
   clear h
   have h := h'; clear h'
   have hc26 := c_impl_pageReader_fail (lor_0 := lor_0) (br_0 := br_0) (or_0 := or_0) (prer_0 := prer_0) (sufr_0 := sufr_0) (ar_0_0 := a18) (cr_0_0 := c19) (ga := ga) hx25
   refine st_call (cx_call hc26 (ent_f hc26.fn rfl) hn0 (show Hp S0 σ0 _ ([Ch.bx lor_0 br_0 or_0 [(Sl a18 r15.2.1 c19), (I r15.2.2.1), (er 72 ga r15.2.2.2)] prer_0 sufr_0, Ch.ro 0 (Sl a18 r15.2.1 c19) r15.2.1, Ch.gl 72 ga [1, 2, 0]] ++ [Ch.ro 0 (Sl a18 r15.2.1 c19) r15.2.1, Ch.ro 0 (Sl a7 xs5 c8) xs5, Ch.ro 0 (Sl ar_0_0 r_0.1 cr_0_0) r_0.1, Ch.gl 72 ga [1, 2, 0]]) from (H.sel' [0, 1, 4, 1, 2, 3, 4] rfl rfl))) wn ?_
   rintro _ σ29 ⟨_, ⟨a27, c28, rfl, rfl⟩, H, -⟩
   replace H : Hp S0 σ0 σ29 [Ch.bx lor_0 br_0 or_0 [(Sl a27 r24.1 c28), (I r24.2.1), (er 72 ga r24.2.2)] prer_0 sufr_0, Ch.ro 0 (Sl a27 r24.1 c28) r24.1, Ch.ro 0 (Sl a18 r15.2.1 c19) r15.2.1, Ch.ro 0 (Sl a7 xs5 c8) xs5, Ch.ro 0 (Sl ar_0_0 r_0.1 cr_0_0) r_0.1, Ch.gl 72 ga [1, 2, 0]] := H
   refine w_end ?_
   obtain rfl := Option.some.inj h
   exact ⟨rfl, _, σ29, a27, c28, fr_join ⟨rfl, trivial⟩, rfl, H.sel' [0, 1, 5] rfl rfl⟩
  ·replace h := bif_f hb22 h
   refine c_skip ?_
   obtain rfl := Option.some.inj h
   exact ⟨rfl, _, σ20, a18, c19, fr_join ⟨rfl, trivial⟩, rfl, H.sel' [0, 1, 4] rfl rfl⟩
 ·clear hj
  have h := h'
  clear h' H
  rintro e a w ⟨rfl, ρ, σ30, a31, c32, rfl, rfl, H⟩
  refine q_then ?_
  refine c_seq ?_
  refine rgP (σ := σ30) 9 (by kernel_rfl) (by kernel_rfl) (by kernel_rfl) ?_
  refine sq (v := (pt br_0 or_0)) (rv_move rfl) ?_
  refine sq (v := (pt br_0 or_0)) (rv_nilCheck rfl) ?_
  refine sq (v := (pt br_0 (or_0 + 1))) (rv_fieldAddr (off := 1) (ft := 3) Tryd.underlying46 rfl ti3 rfl rfl) ?_
  have hc33 := H.cell (u := (I o21.2.1)) (o' := (or_0 + 1)) 0 1 rfl rfl rfl
  refine sq (v := (I o21.2.1)) (rv_load1 Tryd.underlying3 rfl rfl hc33) ?_
  refine sq (v := (pt br_0 or_0)) (rv_move rfl) ?_
  refine sq (v := (pt br_0 or_0)) (rv_nilCheck rfl) ?_
  refine sq (v := (pt br_0 or_0)) (rv_fieldAddr (off := 0) (ft := 22) Tryd.underlying46 rfl ti22 rfl rfl) ?_
  have hc34 := H.cell (u := (Sl a31 o21.1 c32)) (o' := or_0) 0 0 rfl rfl rfl
  refine sq (v := (Sl a31 o21.1 c32)) (rv_load1 Tryd.underlying22 rfl rfl hc34) ?_
  refine sq (v := (I (o21.1.length : Int))) (rv_len Tryd.underlying22 rfl) ?_
  refine sq_end ?_
  intro σ35 hm36
  replace H := H.grow (hm36.mono fun _ h => h); clear hm36
  refine st (v := (B (decide (o21.2.1 < (o21.1.length : Int))))) (rv_lss (a := o21.2.1) (b := (o21.1.length : Int)) rfl rfl) ?_
  refine w_end ?_
  refine q_then ?_
  refine cd_cond (decide (o21.2.1 < (o21.1.length : Int))) rfl (fun hb37 => ?_) (fun hb37 => ?_)
  ·replace h := bif_t hb37 h
   refine rg ?_
   refine st (v := (pt br_0 or_0)) (rv_move rfl) ?_
   have hc38 := gl_cell (H.gl 2 rfl) 0 1 1 rfl rfl
   refine st (v := (er 72 ga 1)) (rv_loadG Tryd.underlying44 hc38) ?_
   obtain ⟨r39, hx40, h'⟩ := bind_some h
   clear h
   have h := h'; clear h'
   have hc41 := c_impl_pageReader_fail (lor_0 := lor_0) (br_0 := br_0) (or_0 := or_0) (prer_0 := prer_0) (sufr_0 := sufr_0) (ar_0_0 := a31) (cr_0_0 := c32) (ga := ga) hx40
   refine st_call (cx_call hc41 (ent_f hc41.fn rfl) hn0 (show Hp S0 σ0 _ ([Ch.bx lor_0 br_0 or_0 [(Sl a31 o21.1 c32), (I o21.2.1), (er 72 ga o21.2.2)] prer_0 sufr_0, Ch.ro 0 (Sl a31 o21.1 c32) o21.1, Ch.gl 72 ga [1, 2, 0]] ++ [Ch.ro 0 (Sl a31 o21.1 c32) o21.1, Ch.gl 72 ga [1, 2, 0]]) from (H.sel' [0, 1, 2, 1, 2] rfl rfl))) wn ?_
   rintro _ σ44 ⟨_, ⟨a42, c43, rfl, rfl⟩, H, -⟩
   replace H : Hp S0 σ0 σ44 [Ch.bx lor_0 br_0 or_0 [(Sl a42 r39.1 c43), (I r39.2.1), (er 72 ga r39.2.2)] prer_0 sufr_0, Ch.ro 0 (Sl a42 r39.1 c43) r39.1, Ch.ro 0 (Sl a31 o21.1 c32) o21.1, Ch.gl 72 ga [1, 2, 0]] := H
   refine w_end ?_
   obtain rfl := Option.some.inj h
   exact fin_end (v := (.tuple #[])) (results_ok Tryd.results26 res_nil rfl) ⟨a42, c43, rfl, rfl⟩ (H.sel' [0, 1] rfl rfl)
  ·replace h := bif_f hb37 h
   refine c_skip ?_
   obtain rfl := Option.some.inj h
   exact fin_end (v := (.tuple #[])) (results_ok Tryd.results26 res_nil rfl) ⟨a31, c32, rfl, rfl⟩ (H.sel' [0, 1] rfl rfl)

theorem c_impl_ParsePage {b_0 : List UInt8} {ab_0 : Option Addr} {cb_0 : Nat} {ga : Nat → Addr} {r : (List (Int × (List Int) × Int)) × Bool} (h : M.impl_ParsePage b_0 = some r) :
    Cal2 Tryd.prog 10 [(Sl ab_0 b_0 cb_0)] [Ch.ro 0 (Sl ab_0 b_0 cb_0) b_0, Ch.gl 72 ga [1, 2, 0]] (fun n0 v L => ∃ (az1 : Option Addr), ∃ (cz2 : Nat), v = (.tuple #[(Sl az1 r.1 cz2), (B r.2)]) ∧ L = [Ch.own n0 n0 (Sl az1 r.1 cz2) r.1]) := by
 refine cal2 (n := 19) Tryd.func10 rfl rfl rfl rfl ?_
 intro S0 σ0 n0 hn0 H
 unfold M.impl_ParsePage at h
 refine c_seq ?_
 refine rg ?_
 refine st (v := (.slice none 0 0)) (rv_assign rfl) ?_
 refine st (v := (B false)) (rv_assign rfl) ?_
 refine w_end ?_
 refine q_then ?_
 refine c_seq ?_
 refine rg ?_
 refine st (v := (Sl ab_0 b_0 cb_0)) (rv_move rfl) ?_
 refine st (v := (.agg #[(Sl ab_0 b_0 cb_0), (I 0), (er 72 ga 0)])) (rv_build (ps := [(0, (Sl ab_0 b_0 cb_0))]) Tryd.underlying46 ti46 (bp46 Tryd.underlying46) rfl (by kernel_rfl)) ?_
 refine st_ex (ex_alloc (cs := [(.slice none 0 0), (I 0), (er 72 ga 0)]) H hn0 ti46 rfl) wn ?_
 rintro _ σ2 ⟨b1, rfl, H, -⟩
 refine st_exS (ex_store_box (k := 0) (cs := [(.slice none 0 0), (I 0), (er 72 ga 0)]) (vs := [(Sl ab_0 b_0 cb_0), (I 0), (er 72 ga 0)]) (cs' := [(Sl ab_0 b_0 cb_0), (I 0), (er 72 ga 0)]) H (i := 0) rfl ti46 rfl rfl rfl rfl rfl (Nat.le_of_ble_eq_true rfl) (by intro u hu; simp only [List.mem_cons, List.not_mem_nil, or_false] at hu; rcases hu with rfl | rfl | rfl <;> first | rfl | exact er_plain) rfl) wn ?_
 rintro σ3 ⟨H, -⟩
 refine w_end ?_
 refine q_then ?_
 refine c_seq ?_
 refine rg ?_
 obtain ⟨r4, hx5, h'⟩ := bind_some h
 clear h
 have h := h'; clear h'
 have hc6 := c_impl_pageReader_items (lor_0 := n0) (br_0 := b1) (or_0 := 0) (prer_0 := []) (sufr_0 := []) (ar_0_0 := ab_0) (cr_0_0 := cb_0) (ga := ga) hx5
 refine st_call (cx_call hc6 (ent_f hc6.fn rfl) hn0 (show Hp S0 σ0 _ ([Ch.bx n0 b1 0 [(Sl ab_0 b_0 cb_0), (I 0), (er 72 ga 0)] [] [], Ch.ro 0 (Sl ab_0 b_0 cb_0) b_0, Ch.gl 72 ga [1, 2, 0]] ++ [Ch.ro 0 (Sl ab_0 b_0 cb_0) b_0, Ch.gl 72 ga [1, 2, 0]]) from (H.sel' [0, 1, 2, 1, 2] rfl rfl))) wn ?_
 rintro _ σ11 ⟨_, ⟨a7, c8, a9, c10, rfl, rfl⟩, H, -⟩
 replace H : Hp S0 σ0 σ11 [Ch.own n0 n0 (Sl a7 r4.1 c8) r4.1, Ch.bx n0 b1 0 [(Sl a9 r4.2.1 c10), (I r4.2.2.1), (er 72 ga r4.2.2.2)] [] [], Ch.ro 0 (Sl a9 r4.2.1 c10) r4.2.1, Ch.ro 0 (Sl ab_0 b_0 cb_0) b_0, Ch.gl 72 ga [1, 2, 0]] := H
 refine st (v := (Sl a7 r4.1 c8)) (rv_assign rfl) ?_
 refine w_end ?_
 refine q_then ?_
 refine c_seq ?_
 refine rg ?_
 obtain ⟨r12, hx13, h'⟩ := bind_some h
 clear h
 have h := h'; clear h'
 have hc14 := c_impl_pageReader_end (lor_0 := n0) (br_0 := b1) (or_0 := 0) (prer_0 := []) (sufr_0 := []) (ar_0_0 := a9) (cr_0_0 := c10) (ga := ga) hx13
 refine st_call (cx_call hc14 (ent_f hc14.fn rfl) hn0 (show Hp S0 σ0 _ ([Ch.bx n0 b1 0 [(Sl a9 r4.2.1 c10), (I r4.2.2.1), (er 72 ga r4.2.2.2)] [] [], Ch.ro 0 (Sl a9 r4.2.1 c10) r4.2.1, Ch.gl 72 ga [1, 2, 0]] ++ [Ch.own n0 n0 (Sl a7 r4.1 c8) r4.1, Ch.ro 0 (Sl a9 r4.2.1 c10) r4.2.1, Ch.ro 0 (Sl ab_0 b_0 cb_0) b_0, Ch.gl 72 ga [1, 2, 0]]) from (H.sel' [1, 2, 4, 0, 2, 3, 4] rfl rfl))) wn ?_
 rintro _ σ17 ⟨_, ⟨a15, c16, rfl, rfl⟩, H, -⟩
 replace H : Hp S0 σ0 σ17 [Ch.bx n0 b1 0 [(Sl a15 r12.1 c16), (I r12.2.1), (er 72 ga r12.2.2)] [] [], Ch.ro 0 (Sl a15 r12.1 c16) r12.1, Ch.own n0 n0 (Sl a7 r4.1 c8) r4.1, Ch.ro 0 (Sl a9 r4.2.1 c10) r4.2.1, Ch.ro 0 (Sl ab_0 b_0 cb_0) b_0, Ch.gl 72 ga [1, 2, 0]] := H
 refine w_end ?_
 refine q_then ?_
 refine c_seq ?_
 refine c_seq ?_
 obtain ⟨o18, hj, h'⟩ := bind_some h
 clear h
 refine c_cut (fun e a w => e = .normal ∧ ∃ (ρ : Nat → Value) (σ : St), a = fr 19 (updL ρ [(5, (Sl a7 r4.1 c8)), (17, (B o18))]) ∧ w = σ.w ∧ Hp S0 σ0 σ [Ch.own n0 n0 (Sl a7 r4.1 c8) r4.1, Ch.gl 72 ga [1, 2, 0]]) ?_ ?_
 ·clear h'
  rename _ = some o18 => h
  refine rg ?_
  refine st (v := (pt b1 2)) (rv_fieldAddr (off := 2) (ft := 44) Tryd.underlying46 rfl ti44 rfl rfl) ?_
  have hc19 := H.cell (u := (er 72 ga r12.2.2)) (o' := 2) 0 2 rfl rfl rfl
  refine st (v := (er 72 ga r12.2.2)) (rv_load1 Tryd.underlying44 rfl rfl hc19) ?_
  refine st (v := (B (r12.2.2 != 0))) (rv_neqE (e := r12.2.2) Tryd.underlying44 rfl rfl) ?_
  refine st (v := (B (r12.2.2 != 0))) (rv_move rfl) ?_
  rcases Bool.eq_false_or_eq_true (r12.2.2 != 0) with hb20 | hb20
  ·replace h := bif_t hb20 h
   refine st_skip (congrArg some hb20) ?_
   refine st_skip (congrArg some hb20) ?_
   refine st_skip (congrArg some hb20) ?_
   refine st (v := (B true)) (rv_pick_t (congrArg B hb20) rfl) ?_
   refine w_end ?_
   obtain rfl := Option.some.inj h
   exact ⟨rfl, _, σ17, fr_join ⟨rfl, rfl, trivial⟩, rfl, H.sel' [2, 5] rfl rfl⟩
  ·replace h := bif_f hb20 h
   refine st_g (v := (Sl a7 r4.1 c8)) (congrArg some hb20) (rv_move rfl) ?_
   obtain ⟨r21, hx22, h'⟩ := bind_some h
   clear h
   have h := h'; clear h'
   have hc23 := c_impl_ValidStore (alist_0 := a7) (clist_0 := c8) hx22
   have hle := Nat.le_trans hn0 H.size
   refine st_call (cx_lend (Loan.lend Loan.nil) hc23 (ent_f hc23.fn rfl) (show Hp S0 σ0 _ ([Ch.own n0 n0 (Sl a7 r4.1 c8) r4.1] ++ ([] ++ [Ch.bx n0 b1 0 [(Sl a15 r12.1 c16), (I r12.2.1), (er 72 ga r12.2.2)] [] [], Ch.ro 0 (Sl a15 r12.1 c16) r12.1, Ch.ro 0 (Sl a9 r4.2.1 c10) r4.2.1, Ch.ro 0 (Sl ab_0 b_0 cb_0) b_0, Ch.gl 72 ga [1, 2, 0]])) from (H.sel' [2, 0, 1, 3, 4, 5] rfl rfl)) (by rintro _ _ _ ⟨rfl, rfl⟩; exact trivial)) (wanted_yes rfl (by exact (congrArg some hb20))) ?_
   rintro _ σ24 ⟨_, ⟨rfl, rfl⟩, H, -, -⟩
   replace H : Hp S0 σ0 σ24 [Ch.own n0 n0 (Sl a7 r4.1 c8) r4.1, Ch.bx n0 b1 0 [(Sl a15 r12.1 c16), (I r12.2.1), (er 72 ga r12.2.2)] [] [], Ch.ro 0 (Sl a15 r12.1 c16) r12.1, Ch.ro 0 (Sl a9 r4.2.1 c10) r4.2.1, Ch.ro 0 (Sl ab_0 b_0 cb_0) b_0, Ch.gl 72 ga [1, 2, 0]] := H
   clear hle
   replace H : Hp S0 σ0 σ24 [Ch.own n0 n0 (Sl a7 r4.1 c8) r4.1, Ch.bx n0 b1 0 [(Sl a15 r12.1 c16), (I r12.2.1), (er 72 ga r12.2.2)] [] [], Ch.ro 0 (Sl a15 r12.1 c16) r12.1, Ch.ro 0 (Sl a9 r4.2.1 c10) r4.2.1, Ch.ro 0 (Sl ab_0 b_0 cb_0) b_0, Ch.gl 72 ga [1, 2, 0]] := H
   refine st_g (v := (B (!r21))) (congrArg some hb20) (rv_not rfl) ?_
   refine st (v := (B (!r21))) (rv_pick_f (congrArg B hb20) rfl) ?_
   refine w_end ?_
   obtain rfl := Option.some.inj h
   exact ⟨rfl, _, σ24, fr_join ⟨rfl, rfl, trivial⟩, rfl, H.sel' [0, 5] rfl rfl⟩
 ·clear hj
  have h := h'
  clear h' H
  rintro e a w ⟨rfl, ρ, σ25, rfl, rfl, H⟩
  refine q_then ?_
  refine cd_cond o18 rfl (fun hb26 => ?_) (fun hb26 => ?_)
  ·replace h := bif_t hb26 h
   refine c_seq ?_
   refine rg ?_
   refine st (v := (.slice none 0 0)) (rv_assign rfl) ?_
   refine st (v := (B false)) (rv_assign rfl) ?_
   refine w_end ?_
   refine q_then ?_
   refine c_ret ?_
   refine q_then_r ?_
   replace H := H.nilOwn (Int × (List Int) × Int) n0 n0
   obtain rfl := Option.some.inj h
   exact fin_ret (v := (.tuple #[(.slice none 0 0), (B false)])) (results_ok Tryd.results10 (res_tmp (v := (.slice none 0 0)) rfl (res_tmp (v := (B false)) rfl res_nil)) rfl) ⟨none, 0, rfl, rfl⟩ (H.sel' [0] rfl rfl)
  ·replace h := bif_f hb26 h
   refine c_skip ?_
   refine q_then ?_
   refine c_seq ?_
   refine rg ?_
   refine st (v := (Sl a7 r4.1 c8)) (rv_move rfl) ?_
   refine st (v := (Sl a7 r4.1 c8)) (rv_assign rfl) ?_
   refine st (v := (B true)) (rv_assign rfl) ?_
   refine w_end ?_
   refine q_then ?_
   refine c_ret ?_
   obtain rfl := Option.some.inj h
   exact fin_ret (v := (.tuple #[(Sl a7 r4.1 c8), (B true)])) (results_ok Tryd.results10 (res_tmp (v := (Sl a7 r4.1 c8)) rfl (res_tmp (v := (B true)) rfl res_nil)) rfl) ⟨a7, c8, rfl, rfl⟩ (H.sel' [0] rfl rfl)

theorem c_laws_FnPageShort {code_0 : List UInt8} {acode_0 : Option Addr} {ccode_0 : Nat} {ga : Nat → Addr} {r : Bool} (h : M.laws_FnPageShort code_0 = some r) :
    Cal2 Tryd.prog 3 [(Sl acode_0 code_0 ccode_0)] [Ch.ro 0 (Sl acode_0 code_0 ccode_0) code_0, Ch.gl 72 ga [1, 2, 0]] (fun n0 v L => v = (B r) ∧ L = []) := by
 refine cal2 (n := 54) Tryd.func3 rfl rfl rfl rfl ?_
 intro S0 σ0 n0 hn0 H
 unfold M.laws_FnPageShort at h
 refine c_seq ?_
 refine rg ?_
 refine st (v := (B false)) (rv_assign rfl) ?_
 refine w_end ?_
 refine q_then ?_
 refine c_seq ?_
 refine c_seq ?_
 refine rg ?_
 refine st (v := (Sl acode_0 code_0 ccode_0)) (rv_move rfl) ?_
 refine st (v := (I (code_0.length : Int))) (rv_len Tryd.underlying22 rfl) ?_
 refine st (v := (B (decide (1048576 < (code_0.length : Int))))) (rv_gtr (a := (code_0.length : Int)) (b := 1048576) rfl rfl) ?_
 refine w_end ?_
 refine q_then ?_
 refine cd_cond (decide (1048576 < (code_0.length : Int))) rfl (fun hb1 => ?_) (fun hb1 => ?_)
 ·replace h := bif_t hb1 h
  refine c_seq ?_
  refine rg ?_
  refine st (v := (B true)) (rv_assign rfl) ?_
  refine w_end ?_
  refine q_then ?_
  refine c_ret ?_
  refine q_then_r ?_
  obtain rfl := Option.some.inj h
  exact fin_ret (v := (B true)) (results_ok Tryd.results3 (res_tmp (v := (B true)) rfl res_nil) rfl) ⟨rfl, rfl⟩ (H.sel' [] rfl rfl)
 ·replace h := bif_f hb1 h
  refine c_skip ?_
  refine q_then ?_
  refine c_seq ?_
  refine rg ?_
  refine st (v := (Sl acode_0 code_0 ccode_0)) (rv_move rfl) ?_
  obtain ⟨r2, hx3, h'⟩ := bind_some h
  clear h
  have h := h'; clear h'
  have hc4 := c_spec_DrawFormatPage (acode_0 := acode_0) (ccode_0 := ccode_0) hx3
  refine st_call (cx_call hc4 (ent_f hc4.fn rfl) hn0 (show Hp S0 σ0 _ ([Ch.ro 0 (Sl acode_0 code_0 ccode_0) code_0] ++ [Ch.ro 0 (Sl acode_0 code_0 ccode_0) code_0, Ch.gl 72 ga [1, 2, 0]]) from (H.sel' [0, 0, 1] rfl rfl))) wn ?_
  rintro _ σ7 ⟨_, ⟨a5, c6, rfl, rfl⟩, H, -⟩
  replace H : Hp S0 σ0 σ7 [Ch.own n0 n0 (Sl a5 r2 c6) r2, Ch.ro 0 (Sl acode_0 code_0 ccode_0) code_0, Ch.gl 72 ga [1, 2, 0]] := H
  refine st (v := (Sl a5 r2 c6)) (rv_assign rfl) ?_
  refine w_end ?_
  refine q_then ?_
  refine c_seq ?_
  refine rg ?_
  refine st (v := (Sl a5 r2 c6)) (rv_move rfl) ?_
  obtain ⟨r8, hx9, h'⟩ := bind_some h
  clear h
  have h := h'; clear h'
  have hc10 := c_impl_FormatPage (alist_0 := a5) (clist_0 := c6) hx9
  have hle := Nat.le_trans hn0 H.size
  refine st_call (cx_lend (Loan.lend Loan.nil) hc10 (ent_f hc10.fn rfl) (show Hp S0 σ0 _ ([Ch.own n0 n0 (Sl a5 r2 c6) r2] ++ ([] ++ [Ch.ro 0 (Sl acode_0 code_0 ccode_0) code_0, Ch.gl 72 ga [1, 2, 0]])) from (H.sel' [0, 1, 2] rfl rfl)) (by rintro _ _ _ ⟨_, _, rfl, rfl⟩; exact ⟨Ab.ownSc, trivial⟩)) wn ?_
  rintro _ σ13 ⟨_, ⟨a11, c12, rfl, rfl⟩, H, -, -⟩
  replace H : Hp S0 σ0 σ13 [Ch.own σ7.size σ7.size (Sl a11 r8 c12) r8, Ch.own n0 n0 (Sl a5 r2 c6) r2, Ch.ro 0 (Sl acode_0 code_0 ccode_0) code_0, Ch.gl 72 ga [1, 2, 0]] := H
  replace H := H.ownLow 0 n0 n0 rfl hle hle
  clear hle
  replace H : Hp S0 σ0 σ13 [Ch.own n0 n0 (Sl a11 r8 c12) r8, Ch.own n0 n0 (Sl a5 r2 c6) r2, Ch.ro 0 (Sl acode_0 code_0 ccode_0) code_0, Ch.gl 72 ga [1, 2, 0]] := H
  refine st (v := (Sl a11 r8 c12)) (rv_assign rfl) ?_
  refine w_end ?_
  refine q_then ?_
  refine c_seq ?_
  refine c_seq ?_
  obtain ⟨o14, hj, h'⟩ := bind_some h
  clear h
  refine c_cut (fun e a w => e = .normal ∧ ∃ (ρ : Nat → Value) (σ : St), a = fr 54 (updL ρ [(3, (Sl a5 r2 c6)), (4, (Sl a11 r8 c12)), (25, (B o14))]) ∧ w = σ.w ∧ Hp S0 σ0 σ [Ch.own n0 n0 (Sl a5 r2 c6) r2, Ch.own n0 n0 (Sl a11 r8 c12) r8, Ch.gl 72 ga [1, 2, 0]]) ?_ ?_
  ·clear h'
   rename _ = some o14 => h
   refine rg ?_
   refine st (v := (Sl a11 r8 c12)) (rv_move rfl) ?_
   refine st (v := (Sl a5 r2 c6)) (rv_move rfl) ?_
   obtain ⟨r15, hx16, h'⟩ := bind_some h
   clear h
   have h := h'; clear h'
   have hc17 := c_spec_FormatPage (alist_0 := a5) (clist_0 := c6) hx16
   have hle := Nat.le_trans hn0 H.size
   refine st_call (cx_lend (Loan.lend Loan.nil) hc17 (ent_f hc17.fn rfl) (show Hp S0 σ0 _ ([Ch.own n0 n0 (Sl a5 r2 c6) r2] ++ ([] ++ [Ch.own n0 n0 (Sl a11 r8 c12) r8, Ch.ro 0 (Sl acode_0 code_0 ccode_0) code_0, Ch.gl 72 ga [1, 2, 0]])) from (H.sel' [1, 0, 2, 3] rfl rfl)) (by rintro _ _ _ ⟨_, _, rfl, rfl⟩; exact ⟨Ab.ownSc, trivial⟩)) wn ?_
   rintro _ σ20 ⟨_, ⟨a18, c19, rfl, rfl⟩, H, -, -⟩
   replace H : Hp S0 σ0 σ20 [Ch.own σ13.size σ13.size (Sl a18 r15 c19) r15, Ch.own n0 n0 (Sl a5 r2 c6) r2, Ch.own n0 n0 (Sl a11 r8 c12) r8, Ch.ro 0 (Sl acode_0 code_0 ccode_0) code_0, Ch.gl 72 ga [1, 2, 0]] := H
   replace H := H.ownLow 0 n0 n0 rfl hle hle
   clear hle
   replace H : Hp S0 σ0 σ20 [Ch.own n0 n0 (Sl a18 r15 c19) r15, Ch.own n0 n0 (Sl a5 r2 c6) r2, Ch.own n0 n0 (Sl a11 r8 c12) r8, Ch.ro 0 (Sl acode_0 code_0 ccode_0) code_0, Ch.gl 72 ga [1, 2, 0]] := H
   obtain ⟨σ21, hw22, H, -⟩ := H.pub 0 rfl (Nat.le_refl _)
   rw [← hw22]; clear hw22
   replace H := H.roLow 0 0 rfl (Nat.zero_le _)
   obtain ⟨r23, hx24, h'⟩ := bind_some h
   clear h
   have h := h'; clear h'
   have hc25 := c_laws_equalBytes (aa_0 := a11) (ca_0 := c12) (ab_1 := a18) (cb_1 := c19) hx24
   have hle := Nat.le_trans hn0 H.size
   refine st_call (cx_lend (Loan.lend (Loan.same Loan.nil)) hc25 (ent_f hc25.fn rfl) (show Hp S0 σ0 _ ([Ch.own n0 n0 (Sl a11 r8 c12) r8] ++ ([Ch.ro 0 (Sl a18 r15 c19) r15] ++ [Ch.ro 0 (Sl a18 r15 c19) r15, Ch.ro n0 (Sl a18 r15 c19) r15, Ch.own n0 n0 (Sl a5 r2 c6) r2, Ch.ro 0 (Sl acode_0 code_0 ccode_0) code_0, Ch.gl 72 ga [1, 2, 0]])) from (H.sel' [3, 0, 0, 1, 2, 4, 5] rfl rfl)) (by rintro _ _ _ ⟨rfl, rfl⟩; exact trivial)) wn ?_
   rintro _ σ26 ⟨_, ⟨rfl, rfl⟩, H, -, -⟩
   replace H : Hp S0 σ0 σ26 [Ch.own n0 n0 (Sl a11 r8 c12) r8, Ch.ro 0 (Sl a18 r15 c19) r15, Ch.ro n0 (Sl a18 r15 c19) r15, Ch.own n0 n0 (Sl a5 r2 c6) r2, Ch.ro 0 (Sl acode_0 code_0 ccode_0) code_0, Ch.gl 72 ga [1, 2, 0]] := H
   clear hle
   replace H : Hp S0 σ0 σ26 [Ch.own n0 n0 (Sl a11 r8 c12) r8, Ch.ro 0 (Sl a18 r15 c19) r15, Ch.ro n0 (Sl a18 r15 c19) r15, Ch.own n0 n0 (Sl a5 r2 c6) r2, Ch.ro 0 (Sl acode_0 code_0 ccode_0) code_0, Ch.gl 72 ga [1, 2, 0]] := H
   refine st (v := (B (!r23))) (rv_not rfl) ?_
   refine st (v := (B (!r23))) (rv_move rfl) ?_
   rcases Bool.eq_false_or_eq_true (!r23) with hb27 | hb27
   ·replace h := bif_t hb27 h
    refine st_skip (congrArg some hb27) ?_
    refine st_skip (congrArg some hb27) ?_
    refine st_skip (congrArg some hb27) ?_
    refine st (v := (B true)) (rv_pick_t (congrArg B hb27) rfl) ?_
    refine w_end ?_
    obtain rfl := Option.some.inj h
    exact ⟨rfl, _, σ26, fr_join ⟨rfl, rfl, rfl, trivial⟩, rfl, H.sel' [3, 0, 5] rfl rfl⟩
   ·replace h := bif_f hb27 h
    refine st_g (v := (Sl a11 r8 c12)) (congrArg some hb27) (rv_move rfl) ?_
    refine st_g (v := (I (r8.length : Int))) (congrArg some hb27) (rv_len Tryd.underlying22 rfl) ?_
    refine st_g (v := (B ((r8.length : Int) == 0))) (congrArg some hb27) (rv_eql (a := (r8.length : Int)) (b := 0) rfl rfl) ?_
    refine st (v := (B ((r8.length : Int) == 0))) (rv_pick_f (congrArg B hb27) rfl) ?_
    refine w_end ?_
    obtain rfl := Option.some.inj h
    exact ⟨rfl, _, σ26, fr_join ⟨rfl, rfl, rfl, trivial⟩, rfl, H.sel' [3, 0, 5] rfl rfl⟩
  ·clear hj
   have h := h'
   clear h' H
   rintro e a w ⟨rfl, ρ, σ28, rfl, rfl, H⟩
   refine q_then ?_
   refine cd_cond o14 rfl (fun hb29 => ?_) (fun hb29 => ?_)
   ·replace h := bif_t hb29 h
    refine c_seq ?_
    refine rg ?_
    refine st (v := (Sl a11 r8 c12)) (rv_move rfl) ?_
    refine st (v := (Sl a5 r2 c6)) (rv_move rfl) ?_
    obtain ⟨σ30, hw31, H, -⟩ := H.pub 0 rfl (Nat.le_refl _)
    rw [← hw31]; clear hw31
    replace H := H.roLow 0 0 rfl (Nat.zero_le _)
    obtain ⟨r32, hx33, h'⟩ := bind_some h
    clear h
    have h := h'; clear h'
    have hc34 := c_spec_FormatPage (alist_0 := a5) (clist_0 := c6) hx33
    refine st_call (cx_call hc34 (ent_f hc34.fn rfl) hn0 (show Hp S0 σ0 _ ([Ch.ro 0 (Sl a5 r2 c6) r2] ++ [Ch.ro 0 (Sl a5 r2 c6) r2, Ch.ro n0 (Sl a5 r2 c6) r2, Ch.own n0 n0 (Sl a11 r8 c12) r8, Ch.gl 72 ga [1, 2, 0]]) from (H.sel' [0, 0, 1, 2, 3] rfl rfl))) wn ?_
    rintro _ σ37 ⟨_, ⟨a35, c36, rfl, rfl⟩, H, -⟩
    replace H : Hp S0 σ0 σ37 [Ch.own n0 n0 (Sl a35 r32 c36) r32, Ch.ro 0 (Sl a5 r2 c6) r2, Ch.ro n0 (Sl a5 r2 c6) r2, Ch.own n0 n0 (Sl a11 r8 c12) r8, Ch.gl 72 ga [1, 2, 0]] := H
    obtain ⟨σ38, hw39, H, -⟩ := H.pub 3 rfl (Nat.le_refl _)
    rw [← hw39]; clear hw39
    obtain ⟨σ40, hw41, H, -⟩ := H.pub 1 rfl (Nat.le_refl _)
    rw [← hw41]; clear hw41
    replace H := H.roLow 1 0 rfl (Nat.zero_le _)
    replace H := H.roLow 1 0 rfl (Nat.zero_le _)
    obtain ⟨r42, hx43, h'⟩ := bind_some h
    clear h
    have h := h'; clear h'
    have hc44 := c_laws_equalBytes (aa_0 := a11) (ca_0 := c12) (ab_1 := a35) (cb_1 := c36) hx43
    refine st_call (cx_call hc44 (ent_f hc44.fn rfl) hn0 (show Hp S0 σ0 _ ([Ch.ro 0 (Sl a11 r8 c12) r8, Ch.ro 0 (Sl a35 r32 c36) r32] ++ [Ch.ro 0 (Sl a35 r32 c36) r32, Ch.ro 0 (Sl a11 r8 c12) r8, Ch.ro n0 (Sl a35 r32 c36) r32, Ch.ro n0 (Sl a11 r8 c12) r8, Ch.ro 0 (Sl a5 r2 c6) r2, Ch.ro n0 (Sl a5 r2 c6) r2, Ch.gl 72 ga [1, 2, 0]]) from (H.sel' [1, 0, 0, 1, 2, 3, 4, 5, 6] rfl rfl))) wn ?_
    rintro _ σ45 ⟨_, ⟨rfl, rfl⟩, H, -⟩
    replace H : Hp S0 σ0 σ45 [Ch.ro 0 (Sl a35 r32 c36) r32, Ch.ro 0 (Sl a11 r8 c12) r8, Ch.ro n0 (Sl a35 r32 c36) r32, Ch.ro n0 (Sl a11 r8 c12) r8, Ch.ro 0 (Sl a5 r2 c6) r2, Ch.ro n0 (Sl a5 r2 c6) r2, Ch.gl 72 ga [1, 2, 0]] := H
    refine st (v := (B r42)) (rv_assign rfl) ?_
    refine w_end ?_
    refine q_then ?_
    refine c_ret ?_
    refine q_then_r ?_
    obtain rfl := Option.some.inj h
    exact fin_ret (v := (B r42)) (results_ok Tryd.results3 (res_tmp (v := (B r42)) rfl res_nil) rfl) ⟨rfl, rfl⟩ (H.sel' [] rfl rfl)
   ·replace h := bif_f hb29 h
    refine c_skip ?_
    refine q_then ?_
    refine c_seq ?_
    refine rg ?_
    refine st (v := (Sl a11 r8 c12)) (rv_move rfl) ?_
    refine st (v := (Sl a11 r8 c12)) (rv_move rfl) ?_
    refine st (v := (I (r8.length : Int))) (rv_len Tryd.underlying22 rfl) ?_
    refine st (v := (I (w64 ((r8.length : Int) - 1)))) (rv_sub (a := (r8.length : Int)) (b := 1) rfl rfl) ?_
    obtain ⟨xs46, hx47, h'⟩ := bind_some h
    clear h
    have h := h'; clear h'
    obtain ⟨σ52, hw53, H, -⟩ := H.pub 1 rfl (Nat.le_refl _)
    rw [← hw53]; clear hw53
    obtain ⟨a48, c49, hs50, hR51⟩ := (H.ro 0 rfl).slice hx47
    replace H := H.add (d := Ch.ro n0 (Sl a48 xs46 c49) xs46) hR51 (fun _ h => h)
    clear hR51
    refine st (v := (Sl a48 xs46 c49)) (rv_slice_h Tryd.underlying22 ti5 hs50 rfl rfl) ?_
    replace H := H.roLow 0 0 rfl (Nat.zero_le _)
    obtain ⟨r54, hx55, h'⟩ := bind_some h
    clear h
    have h := h'; clear h'
    have hc56 := c_impl_ParsePage (ab_0 := a48) (cb_0 := c49) (ga := ga) hx55
    refine st_call (cx_call hc56 (ent_f hc56.fn rfl) hn0 (show Hp S0 σ0 _ ([Ch.ro 0 (Sl a48 xs46 c49) xs46, Ch.gl 72 ga [1, 2, 0]] ++ [Ch.ro 0 (Sl a48 xs46 c49) xs46, Ch.ro n0 (Sl a48 xs46 c49) xs46, Ch.ro n0 (Sl a11 r8 c12) r8, Ch.own n0 n0 (Sl a5 r2 c6) r2, Ch.gl 72 ga [1, 2, 0]]) from (H.sel' [0, 4, 0, 1, 2, 3, 4] rfl rfl))) wn ?_
    rintro _ σ59 ⟨_, ⟨a57, c58, rfl, rfl⟩, H, -⟩
    replace H : Hp S0 σ0 σ59 [Ch.own n0 n0 (Sl a57 r54.1 c58) r54.1, Ch.ro 0 (Sl a48 xs46 c49) xs46, Ch.ro n0 (Sl a48 xs46 c49) xs46, Ch.ro n0 (Sl a11 r8 c12) r8, Ch.own n0 n0 (Sl a5 r2 c6) r2, Ch.gl 72 ga [1, 2, 0]] := H
    refine st (v := (.tuple #[(Sl a57 r54.1 c58), (B r54.2)])) (rv_move rfl) ?_
    refine st (v := (Sl a57 r54.1 c58)) (rv_extract rfl rfl) ?_
    refine st (v := (B r54.2)) (rv_extract rfl rfl) ?_
    refine st (v := (Sl a57 r54.1 c58)) (rv_assign rfl) ?_
    refine st (v := (B r54.2)) (rv_assign rfl) ?_
    refine w_end ?_
    refine q_then ?_
    refine c_seq ?_
    refine rg ?_
    refine st_ex (ex_buildSlice (el := n0) (xs := ([] : List UInt8)) (ps := []) (cs := []) H hn0 Tryd.underlying22 ti5 rfl rfl (by kernel_rfl) (.nil) rfl) wn ?_
    rintro _ σ61 ⟨b60, rfl, H, -⟩
    refine st (v := (Sl a11 r8 c12)) (rv_move rfl) ?_
    obtain ⟨xs62, hx63, h'⟩ := bind_some h
    clear h
    have h := h'; clear h'
    refine st_ex (ex_append H (i := 0) rfl Tryd.underlying22 Tryd.underlying22 ti5 rfl rfl (by decide) (H.ro 4 rfl).rd hx63 hn0 rfl rfl) wn ?_
    rintro _ σ66 ⟨a64, c65, rfl, H, -⟩
    refine st_ex (ex_buildSlice (el := n0) (xs := ([(0 : UInt8)] : List UInt8)) (ps := [(0, (.int .u8 ((0 : UInt8).toNat : Int)))]) (cs := [(.int .u8 ((0 : UInt8).toNat : Int))]) H hn0 Tryd.underlying22 ti5 rfl rfl (by kernel_rfl) (.cons (c := [(.int .u8 ((0 : UInt8).toNat : Int))]) rfl (.nil)) rfl) wn ?_
    rintro _ σ68 ⟨b67, rfl, H, -⟩
    replace H : Hp S0 σ0 σ68 [Ch.own n0 n0 (Sl (some ⟨b67, 0, none⟩) ([(0 : UInt8)] : List UInt8) 1) ([(0 : UInt8)] : List UInt8), Ch.own n0 n0 (Sl a64 xs62 c65) xs62, Ch.gl 72 ga [1, 2, 0]] := H.sel' [0, 1, 7] rfl rfl
    obtain ⟨xs69, hx70, h'⟩ := bind_some h
    clear h
    have h := h'; clear h'
    refine st_ex (ex_append H (i := 1) rfl Tryd.underlying22 Tryd.underlying22 ti5 rfl rfl (by decide) (H.own 0 rfl).rd hx70 hn0 rfl rfl) wn ?_
    rintro _ σ73 ⟨a71, c72, rfl, H, -⟩
    obtain ⟨σ74, hw75, H, -⟩ := H.pub 0 rfl (Nat.le_refl _)
    rw [← hw75]; clear hw75
    replace H := H.roLow 0 0 rfl (Nat.zero_le _)
    obtain ⟨r76, hx77, h'⟩ := bind_some h
    clear h
    have h := h'; clear h'
    have hc78 := c_impl_ParsePage (ab_0 := a71) (cb_0 := c72) (ga := ga) hx77
    refine st_call (cx_call hc78 (ent_f hc78.fn rfl) hn0 (show Hp S0 σ0 _ ([Ch.ro 0 (Sl a71 xs69 c72) xs69, Ch.gl 72 ga [1, 2, 0]] ++ [Ch.ro 0 (Sl a71 xs69 c72) xs69, Ch.ro n0 (Sl a71 xs69 c72) xs69, Ch.own n0 n0 (Sl (some ⟨b67, 0, none⟩) ([(0 : UInt8)] : List UInt8) 1) ([(0 : UInt8)] : List UInt8), Ch.gl 72 ga [1, 2, 0]]) from (H.sel' [0, 3, 0, 1, 2, 3] rfl rfl))) wn ?_
    rintro _ σ81 ⟨_, ⟨a79, c80, rfl, rfl⟩, H, -⟩
    replace H : Hp S0 σ0 σ81 [Ch.own n0 n0 (Sl a79 r76.1 c80) r76.1, Ch.ro 0 (Sl a71 xs69 c72) xs69, Ch.ro n0 (Sl a71 xs69 c72) xs69, Ch.own n0 n0 (Sl (some ⟨b67, 0, none⟩) ([(0 : UInt8)] : List UInt8) 1) ([(0 : UInt8)] : List UInt8), Ch.gl 72 ga [1, 2, 0]] := H
    refine st (v := (.tuple #[(Sl a79 r76.1 c80), (B r76.2)])) (rv_move rfl) ?_
    refine st (v := (Sl a79 r76.1 c80)) (rv_extract rfl rfl) ?_
    refine st (v := (B r76.2)) (rv_extract rfl rfl) ?_
    refine st (v := (Sl a79 r76.1 c80)) (rv_assign rfl) ?_
    refine st (v := (B r76.2)) (rv_assign rfl) ?_
    refine w_end ?_
    refine q_then ?_
    refine c_seq ?_
    refine rg ?_
    refine st (v := (B r54.2)) (rv_move rfl) ?_
    refine st (v := (B (!r54.2))) (rv_not rfl) ?_
    refine st (v := (B (!r54.2))) (rv_move rfl) ?_
    rcases Bool.eq_false_or_eq_true (!r54.2) with hb82 | hb82
    ·replace h := bif_t hb82 h
     refine st_g (v := (B r76.2)) (congrArg some hb82) (rv_move rfl) ?_
     refine st_g (v := (B (!r76.2))) (congrArg some hb82) (rv_not rfl) ?_
     refine st (v := (B (!r76.2))) (rv_pick_t (congrArg B hb82) rfl) ?_
     refine st (v := (B (!r76.2))) (rv_assign rfl) ?_
     refine w_end ?_
     refine q_then ?_
     refine c_ret ?_
     obtain rfl := Option.some.inj h
     exact fin_ret (v := (B (!r76.2))) (results_ok Tryd.results3 (res_tmp (v := (B (!r76.2))) rfl res_nil) rfl) ⟨rfl, rfl⟩ (H.sel' [] rfl rfl)
    ·replace h := bif_f hb82 h
     refine st_skip (congrArg some hb82) ?_
     refine st_skip (congrArg some hb82) ?_
     refine st (v := (B false)) (rv_pick_f (congrArg B hb82) rfl) ?_
     refine st (v := (B false)) (rv_assign rfl) ?_
     refine w_end ?_
     refine q_then ?_
     refine c_ret ?_
     obtain rfl := Option.some.inj h
     exact fin_ret (v := (B false)) (results_ok Tryd.results3 (res_tmp (v := (B false)) rfl res_nil) rfl) ⟨rfl, rfl⟩ (H.sel' [] rfl rfl)

end Go.Vs
