/- The functions compute what their models say. -/
import Derived.Test.YtfcemgcmpcmgcaaKRollBackAddC2
set_option linter.unusedVariables false
set_option linter.unusedSimpArgs false
set_option maxRecDepth 20000
namespace Go.Vs
open Go Go.Proofs
attribute [local irreducible] Code.wp Code.wpIn wpList wpListIn wpQuiet Calls CallsIn

theorem c_impl_AddEntry {h_0 : (List (Int × (Int × (List Int) × Int))) × (List Int)} {e_1 : Int × (Int × (List Int) × Int)} {t_2 : Int} {ah_0_0 : Option Addr} {ch_0_0 : Nat} {ah_0_1 : Option Addr} {ch_0_1 : Nat} {ae_1_1_1 : Option Addr} {ce_1_1_1 : Nat} {r : ((List (Int × (Int × (List Int) × Int))) × (List Int)) × Bool} (h : M.impl_AddEntry h_0 e_1 t_2 = some r) :
    Cal2 Try.prog 27 [(.agg #[(Sl ah_0_0 h_0.1 ch_0_0), (Sl ah_0_1 h_0.2 ch_0_1)]), (.agg #[(I e_1.1), (I e_1.2.1), (Sl ae_1_1_1 e_1.2.2.1 ce_1_1_1), (I e_1.2.2.2)]), (I t_2)] [Ch.ro 0 (Sl ah_0_0 h_0.1 ch_0_0) h_0.1, Ch.ro 0 (Sl ah_0_1 h_0.2 ch_0_1) h_0.2, Ch.ro 0 (Sl ae_1_1_1 e_1.2.2.1 ce_1_1_1) e_1.2.2.1] (fun n0 v L => ∃ (az1 : Option Addr), ∃ (cz2 : Nat), ∃ (az4 : Option Addr), ∃ (cz5 : Nat), v = (.tuple #[(.agg #[(Sl az1 r.1.1 cz2), (Sl az4 r.1.2 cz5)]), (B r.2)]) ∧ L = [Ch.own n0 n0 (Sl az1 r.1.1 cz2) r.1.1, Ch.own n0 n0 (Sl az4 r.1.2 cz5) r.1.2] ∧ cz2 = r.1.1.length) := by
 refine cal2 (n := 31) Try.func27 rfl rfl rfl rfl ?_
 intro S0 σ0 n0 hn0 H
 unfold M.impl_AddEntry at h
 refine c_seq ?_
 refine rg ?_
 refine st_ex (ex_box (cs := [(Sl ah_0_0 h_0.1 ch_0_0), (Sl ah_0_1 h_0.2 ch_0_1)]) H hn0 rfl rfl) wn ?_
 rintro _ σ2 ⟨b1, rfl, H, -⟩
 refine st_ex (ex_box (cs := [(I e_1.1), (I e_1.2.1), (Sl ae_1_1_1 e_1.2.2.1 ce_1_1_1), (I e_1.2.2.2)]) H hn0 rfl rfl) wn ?_
 rintro _ σ4 ⟨b3, rfl, H, -⟩
 refine st_ex (ex_alloc (cs := [(.slice none 0 0), (.slice none 0 0)]) H hn0 ti26 rfl) wn ?_
 rintro _ σ6 ⟨b5, rfl, H, -⟩
 refine st (v := (B false)) (rv_assign rfl) ?_
 refine w_end ?_
 refine q_then ?_
 refine c_seq ?_
 have hc7 := H.cell (u := (Sl ah_0_0 h_0.1 ch_0_0)) (o' := 0) 2 0 rfl rfl rfl
 obtain ⟨r8, hx9, h'⟩ := bind_some h
 clear h
 have h := h'; clear h'
 have hc10 := c_slices_Clone_impl_Entry_impl_Entry (as_0 := ah_0_0) (cs_0 := ch_0_0) hx9
 have hc13 := H.cells 1 rfl
 obtain ⟨xs15, hx16, h'⟩ := bind_some h
 clear h
 have h := h'; clear h'
 have hc19 := H.cell (u := (Sl ah_0_1 h_0.2 ch_0_1)) (o' := 1) 2 1 rfl rfl rfl
 obtain ⟨r20, hx21, h'⟩ := bind_some h
 clear h
 have h := h'; clear h'
 have hc22 := c_slices_Clone_int_int (as_0 := ah_0_1) (cs_0 := ch_0_1) hx21
 obtain ⟨xs26, hx27, h'⟩ := bind_some h
 clear h
 have h := h'; clear h'
 have Hs := H
 refine rg2 (σ := σ6) (Nm := ((((Option Addr) × (Nat)) × ((Nat) × ((Option Addr) × (Nat)))) × (((Option Addr) × ((Nat) × (Nat))) × ((Option Addr) × ((Nat) × (Nat)))))) 14 [2, 4, 5, 8, 10, 11, 13] [[false, false, false, false, false, false, false], [true, false, false, false, false, false, false], [false, true, false, false, false, false, false], [false, false, false, false, true, false, false], [false, false, false, false, false, false, true], [true, true, false, false, false, false, false], [true, false, false, false, true, false, false], [true, false, false, false, false, false, true], [false, true, false, false, true, false, false], [false, true, false, false, false, false, true], [false, false, false, false, true, false, true], [true, true, true, false, false, false, false], [true, true, false, false, true, false, false], [true, true, false, false, false, false, true], [true, false, false, false, true, false, true], [false, true, false, false, true, false, true], [true, true, true, true, false, false, false], [true, true, true, false, true, false, false], [true, true, true, false, false, false, true], [true, true, false, false, true, false, true], [true, true, true, true, true, false, false], [true, true, true, true, false, false, true], [true, true, true, false, true, false, true], [true, true, true, true, true, true, false], [true, true, true, true, true, false, true], [true, true, true, true, true, true, true]] [[(0, 0), (2, 2), (3, 3), (4, 4), (8, 8), (9, 9), (10, 10), (15, 15)], [(0, 0), (2, 2), (3, 3), (4, 4), (8, 8), (9, 9), (10, 10), (15, 15)], [(0, 1), (2, 5), (3, 6), (4, 7), (8, 12), (9, 13), (10, 14), (15, 19)], [(0, 0), (1, 1), (3, 3), (4, 4), (6, 6), (7, 7), (10, 10), (14, 14)], [(0, 2), (1, 5), (3, 8), (4, 9), (6, 12), (7, 13), (10, 15), (14, 19)], [(5, 11), (12, 17), (13, 18), (19, 22)], [(0, 0), (1, 1), (2, 2), (3, 3), (4, 4), (5, 5), (6, 6), (7, 7), (8, 8), (9, 9), (10, 10), (11, 11), (12, 12), (13, 13), (14, 14), (15, 15), (17, 17), (18, 18), (19, 19), (22, 22)], [(0, 0), (1, 1), (2, 2), (3, 3), (4, 4), (5, 5), (6, 6), (7, 7), (8, 8), (9, 9), (10, 10), (11, 11), (12, 12), (13, 13), (14, 14), (15, 15), (17, 17), (18, 18), (19, 19), (22, 22)], [(11, 16), (17, 20), (18, 21), (22, 24)], [(0, 0), (1, 1), (2, 2), (4, 4), (5, 5), (7, 7), (9, 9), (11, 11), (13, 13), (16, 16), (18, 18), (21, 21)], [(0, 3), (1, 6), (2, 8), (4, 10), (5, 12), (7, 14), (9, 15), (11, 17), (13, 19), (16, 20), (18, 22), (21, 24)], [(20, 23), (24, 25)], [(23, 23), (25, 25)], [(0, 4), (1, 7), (2, 9), (3, 10), (5, 13), (6, 14), (8, 15), (11, 18), (12, 19), (16, 21), (17, 22), (20, 24), (23, 25)]] 25 [fun ((((a11, c12), (b14, (a17, c18))), ((a23, (c24, b25)), (a28, (c29, b30)))) : ((((Option Addr) × (Nat)) × ((Nat) × ((Option Addr) × (Nat)))) × (((Option Addr) × ((Nat) × (Nat))) × ((Option Addr) × ((Nat) × (Nat)))))) => fun σm => Hp S0 σ0 σm [Ch.bx n0 b5 0 [(.slice none 0 0), (.slice none 0 0)] [] [], Ch.bx n0 b3 0 [(I e_1.1), (I e_1.2.1), (Sl ae_1_1_1 e_1.2.2.1 ce_1_1_1), (I e_1.2.2.2)] [] [], Ch.bx n0 b1 0 [(Sl ah_0_0 h_0.1 ch_0_0), (Sl ah_0_1 h_0.2 ch_0_1)] [] [], Ch.ro 0 (Sl ah_0_0 h_0.1 ch_0_0) h_0.1, Ch.ro 0 (Sl ah_0_1 h_0.2 ch_0_1) h_0.2, Ch.ro 0 (Sl ae_1_1_1 e_1.2.2.1 ce_1_1_1) e_1.2.2.1] ∧ Md (cov []) σ6 σm, fun ((((a11, c12), (b14, (a17, c18))), ((a23, (c24, b25)), (a28, (c29, b30)))) : ((((Option Addr) × (Nat)) × ((Nat) × ((Option Addr) × (Nat)))) × (((Option Addr) × ((Nat) × (Nat))) × ((Option Addr) × ((Nat) × (Nat)))))) => fun σm => Hp S0 σ0 σm [Ch.own n0 0 (Sl a11 r8 c12) r8, Ch.bx n0 b5 0 [(.slice none 0 0), (.slice none 0 0)] [] [], Ch.bx n0 b3 0 [(I e_1.1), (I e_1.2.1), (Sl ae_1_1_1 e_1.2.2.1 ce_1_1_1), (I e_1.2.2.2)] [] [], Ch.bx n0 b1 0 [(Sl ah_0_0 h_0.1 ch_0_0), (Sl ah_0_1 h_0.2 ch_0_1)] [] [], Ch.ro 0 (Sl ah_0_0 h_0.1 ch_0_0) h_0.1, Ch.ro 0 (Sl ah_0_1 h_0.2 ch_0_1) h_0.2, Ch.ro 0 (Sl ae_1_1_1 e_1.2.2.1 ce_1_1_1) e_1.2.2.1] ∧ Md (cov []) σ6 σm, fun ((((a11, c12), (b14, (a17, c18))), ((a23, (c24, b25)), (a28, (c29, b30)))) : ((((Option Addr) × (Nat)) × ((Nat) × ((Option Addr) × (Nat)))) × (((Option Addr) × ((Nat) × (Nat))) × ((Option Addr) × ((Nat) × (Nat)))))) => fun σm => Hp S0 σ0 σm [Ch.own n0 0 (Sl (some ⟨b14, 0, none⟩) ([(e_1.1, (e_1.2.1, e_1.2.2.1, e_1.2.2.2))] : List (Int × (Int × (List Int) × Int))) 1) ([(e_1.1, (e_1.2.1, e_1.2.2.1, e_1.2.2.2))] : List (Int × (Int × (List Int) × Int))), Ch.bx n0 b5 0 [(.slice none 0 0), (.slice none 0 0)] [] [], Ch.bx n0 b3 0 [(I e_1.1), (I e_1.2.1), (Sl ae_1_1_1 e_1.2.2.1 ce_1_1_1), (I e_1.2.2.2)] [] [], Ch.bx n0 b1 0 [(Sl ah_0_0 h_0.1 ch_0_0), (Sl ah_0_1 h_0.2 ch_0_1)] [] [], Ch.ro 0 (Sl ah_0_0 h_0.1 ch_0_0) h_0.1, Ch.ro 0 (Sl ah_0_1 h_0.2 ch_0_1) h_0.2, Ch.ro 0 (Sl ae_1_1_1 e_1.2.2.1 ce_1_1_1) e_1.2.2.1] ∧ Md (cov []) σ6 σm, fun ((((a11, c12), (b14, (a17, c18))), ((a23, (c24, b25)), (a28, (c29, b30)))) : ((((Option Addr) × (Nat)) × ((Nat) × ((Option Addr) × (Nat)))) × (((Option Addr) × ((Nat) × (Nat))) × ((Option Addr) × ((Nat) × (Nat)))))) => fun σm => Hp S0 σ0 σm [Ch.own n0 n0 (Sl (some ⟨b25, 0, none⟩) ([t_2] : List Int) 1) ([t_2] : List Int), Ch.bx n0 b5 0 [(.slice none 0 0), (.slice none 0 0)] [] [], Ch.bx n0 b3 0 [(I e_1.1), (I e_1.2.1), (Sl ae_1_1_1 e_1.2.2.1 ce_1_1_1), (I e_1.2.2.2)] [] [], Ch.bx n0 b1 0 [(Sl ah_0_0 h_0.1 ch_0_0), (Sl ah_0_1 h_0.2 ch_0_1)] [] [], Ch.ro 0 (Sl ah_0_0 h_0.1 ch_0_0) h_0.1, Ch.ro 0 (Sl ah_0_1 h_0.2 ch_0_1) h_0.2, Ch.ro 0 (Sl ae_1_1_1 e_1.2.2.1 ce_1_1_1) e_1.2.2.1] ∧ Md (cov []) σ6 σm, fun ((((a11, c12), (b14, (a17, c18))), ((a23, (c24, b25)), (a28, (c29, b30)))) : ((((Option Addr) × (Nat)) × ((Nat) × ((Option Addr) × (Nat)))) × (((Option Addr) × ((Nat) × (Nat))) × ((Option Addr) × ((Nat) × (Nat)))))) => fun σm => Hp S0 σ0 σm [Ch.bx n0 b30 0 [(.slice none 0 0), (.slice none 0 0)] [] [], Ch.bx n0 b5 0 [(.slice none 0 0), (.slice none 0 0)] [] [], Ch.bx n0 b3 0 [(I e_1.1), (I e_1.2.1), (Sl ae_1_1_1 e_1.2.2.1 ce_1_1_1), (I e_1.2.2.2)] [] [], Ch.bx n0 b1 0 [(Sl ah_0_0 h_0.1 ch_0_0), (Sl ah_0_1 h_0.2 ch_0_1)] [] [], Ch.ro 0 (Sl ah_0_0 h_0.1 ch_0_0) h_0.1, Ch.ro 0 (Sl ah_0_1 h_0.2 ch_0_1) h_0.2, Ch.ro 0 (Sl ae_1_1_1 e_1.2.2.1 ce_1_1_1) e_1.2.2.1] ∧ Md (cov []) σ6 σm, fun ((((a11, c12), (b14, (a17, c18))), ((a23, (c24, b25)), (a28, (c29, b30)))) : ((((Option Addr) × (Nat)) × ((Nat) × ((Option Addr) × (Nat)))) × (((Option Addr) × ((Nat) × (Nat))) × ((Option Addr) × ((Nat) × (Nat)))))) => fun σm => Hp S0 σ0 σm [Ch.own n0 0 (Sl (some ⟨b14, 0, none⟩) ([(e_1.1, (e_1.2.1, e_1.2.2.1, e_1.2.2.2))] : List (Int × (Int × (List Int) × Int))) 1) ([(e_1.1, (e_1.2.1, e_1.2.2.1, e_1.2.2.2))] : List (Int × (Int × (List Int) × Int))), Ch.own n0 0 (Sl a11 r8 c12) r8, Ch.bx n0 b5 0 [(.slice none 0 0), (.slice none 0 0)] [] [], Ch.bx n0 b3 0 [(I e_1.1), (I e_1.2.1), (Sl ae_1_1_1 e_1.2.2.1 ce_1_1_1), (I e_1.2.2.2)] [] [], Ch.bx n0 b1 0 [(Sl ah_0_0 h_0.1 ch_0_0), (Sl ah_0_1 h_0.2 ch_0_1)] [] [], Ch.ro 0 (Sl ah_0_0 h_0.1 ch_0_0) h_0.1, Ch.ro 0 (Sl ah_0_1 h_0.2 ch_0_1) h_0.2, Ch.ro 0 (Sl ae_1_1_1 e_1.2.2.1 ce_1_1_1) e_1.2.2.1] ∧ Md (cov []) σ6 σm, fun ((((a11, c12), (b14, (a17, c18))), ((a23, (c24, b25)), (a28, (c29, b30)))) : ((((Option Addr) × (Nat)) × ((Nat) × ((Option Addr) × (Nat)))) × (((Option Addr) × ((Nat) × (Nat))) × ((Option Addr) × ((Nat) × (Nat)))))) => fun σm => Hp S0 σ0 σm [Ch.own n0 n0 (Sl (some ⟨b25, 0, none⟩) ([t_2] : List Int) 1) ([t_2] : List Int), Ch.own n0 0 (Sl a11 r8 c12) r8, Ch.bx n0 b5 0 [(.slice none 0 0), (.slice none 0 0)] [] [], Ch.bx n0 b3 0 [(I e_1.1), (I e_1.2.1), (Sl ae_1_1_1 e_1.2.2.1 ce_1_1_1), (I e_1.2.2.2)] [] [], Ch.bx n0 b1 0 [(Sl ah_0_0 h_0.1 ch_0_0), (Sl ah_0_1 h_0.2 ch_0_1)] [] [], Ch.ro 0 (Sl ah_0_0 h_0.1 ch_0_0) h_0.1, Ch.ro 0 (Sl ah_0_1 h_0.2 ch_0_1) h_0.2, Ch.ro 0 (Sl ae_1_1_1 e_1.2.2.1 ce_1_1_1) e_1.2.2.1] ∧ Md (cov []) σ6 σm, fun ((((a11, c12), (b14, (a17, c18))), ((a23, (c24, b25)), (a28, (c29, b30)))) : ((((Option Addr) × (Nat)) × ((Nat) × ((Option Addr) × (Nat)))) × (((Option Addr) × ((Nat) × (Nat))) × ((Option Addr) × ((Nat) × (Nat)))))) => fun σm => Hp S0 σ0 σm [Ch.bx n0 b30 0 [(.slice none 0 0), (.slice none 0 0)] [] [], Ch.own n0 0 (Sl a11 r8 c12) r8, Ch.bx n0 b5 0 [(.slice none 0 0), (.slice none 0 0)] [] [], Ch.bx n0 b3 0 [(I e_1.1), (I e_1.2.1), (Sl ae_1_1_1 e_1.2.2.1 ce_1_1_1), (I e_1.2.2.2)] [] [], Ch.bx n0 b1 0 [(Sl ah_0_0 h_0.1 ch_0_0), (Sl ah_0_1 h_0.2 ch_0_1)] [] [], Ch.ro 0 (Sl ah_0_0 h_0.1 ch_0_0) h_0.1, Ch.ro 0 (Sl ah_0_1 h_0.2 ch_0_1) h_0.2, Ch.ro 0 (Sl ae_1_1_1 e_1.2.2.1 ce_1_1_1) e_1.2.2.1] ∧ Md (cov []) σ6 σm, fun ((((a11, c12), (b14, (a17, c18))), ((a23, (c24, b25)), (a28, (c29, b30)))) : ((((Option Addr) × (Nat)) × ((Nat) × ((Option Addr) × (Nat)))) × (((Option Addr) × ((Nat) × (Nat))) × ((Option Addr) × ((Nat) × (Nat)))))) => fun σm => Hp S0 σ0 σm [Ch.own n0 n0 (Sl (some ⟨b25, 0, none⟩) ([t_2] : List Int) 1) ([t_2] : List Int), Ch.own n0 0 (Sl (some ⟨b14, 0, none⟩) ([(e_1.1, (e_1.2.1, e_1.2.2.1, e_1.2.2.2))] : List (Int × (Int × (List Int) × Int))) 1) ([(e_1.1, (e_1.2.1, e_1.2.2.1, e_1.2.2.2))] : List (Int × (Int × (List Int) × Int))), Ch.bx n0 b5 0 [(.slice none 0 0), (.slice none 0 0)] [] [], Ch.bx n0 b3 0 [(I e_1.1), (I e_1.2.1), (Sl ae_1_1_1 e_1.2.2.1 ce_1_1_1), (I e_1.2.2.2)] [] [], Ch.bx n0 b1 0 [(Sl ah_0_0 h_0.1 ch_0_0), (Sl ah_0_1 h_0.2 ch_0_1)] [] [], Ch.ro 0 (Sl ah_0_0 h_0.1 ch_0_0) h_0.1, Ch.ro 0 (Sl ah_0_1 h_0.2 ch_0_1) h_0.2, Ch.ro 0 (Sl ae_1_1_1 e_1.2.2.1 ce_1_1_1) e_1.2.2.1] ∧ Md (cov []) σ6 σm, fun ((((a11, c12), (b14, (a17, c18))), ((a23, (c24, b25)), (a28, (c29, b30)))) : ((((Option Addr) × (Nat)) × ((Nat) × ((Option Addr) × (Nat)))) × (((Option Addr) × ((Nat) × (Nat))) × ((Option Addr) × ((Nat) × (Nat)))))) => fun σm => Hp S0 σ0 σm [Ch.bx n0 b30 0 [(.slice none 0 0), (.slice none 0 0)] [] [], Ch.own n0 0 (Sl (some ⟨b14, 0, none⟩) ([(e_1.1, (e_1.2.1, e_1.2.2.1, e_1.2.2.2))] : List (Int × (Int × (List Int) × Int))) 1) ([(e_1.1, (e_1.2.1, e_1.2.2.1, e_1.2.2.2))] : List (Int × (Int × (List Int) × Int))), Ch.bx n0 b5 0 [(.slice none 0 0), (.slice none 0 0)] [] [], Ch.bx n0 b3 0 [(I e_1.1), (I e_1.2.1), (Sl ae_1_1_1 e_1.2.2.1 ce_1_1_1), (I e_1.2.2.2)] [] [], Ch.bx n0 b1 0 [(Sl ah_0_0 h_0.1 ch_0_0), (Sl ah_0_1 h_0.2 ch_0_1)] [] [], Ch.ro 0 (Sl ah_0_0 h_0.1 ch_0_0) h_0.1, Ch.ro 0 (Sl ah_0_1 h_0.2 ch_0_1) h_0.2, Ch.ro 0 (Sl ae_1_1_1 e_1.2.2.1 ce_1_1_1) e_1.2.2.1] ∧ Md (cov []) σ6 σm, fun ((((a11, c12), (b14, (a17, c18))), ((a23, (c24, b25)), (a28, (c29, b30)))) : ((((Option Addr) × (Nat)) × ((Nat) × ((Option Addr) × (Nat)))) × (((Option Addr) × ((Nat) × (Nat))) × ((Option Addr) × ((Nat) × (Nat)))))) => fun σm => Hp S0 σ0 σm [Ch.bx n0 b30 0 [(.slice none 0 0), (.slice none 0 0)] [] [], Ch.own n0 n0 (Sl (some ⟨b25, 0, none⟩) ([t_2] : List Int) 1) ([t_2] : List Int), Ch.bx n0 b5 0 [(.slice none 0 0), (.slice none 0 0)] [] [], Ch.bx n0 b3 0 [(I e_1.1), (I e_1.2.1), (Sl ae_1_1_1 e_1.2.2.1 ce_1_1_1), (I e_1.2.2.2)] [] [], Ch.bx n0 b1 0 [(Sl ah_0_0 h_0.1 ch_0_0), (Sl ah_0_1 h_0.2 ch_0_1)] [] [], Ch.ro 0 (Sl ah_0_0 h_0.1 ch_0_0) h_0.1, Ch.ro 0 (Sl ah_0_1 h_0.2 ch_0_1) h_0.2, Ch.ro 0 (Sl ae_1_1_1 e_1.2.2.1 ce_1_1_1) e_1.2.2.1] ∧ Md (cov []) σ6 σm, fun ((((a11, c12), (b14, (a17, c18))), ((a23, (c24, b25)), (a28, (c29, b30)))) : ((((Option Addr) × (Nat)) × ((Nat) × ((Option Addr) × (Nat)))) × (((Option Addr) × ((Nat) × (Nat))) × ((Option Addr) × ((Nat) × (Nat)))))) => fun σm => Hp S0 σ0 σm [Ch.own n0 0 (Sl a17 xs15 c18) xs15, Ch.own n0 0 (Sl (some ⟨b14, 0, none⟩) ([(e_1.1, (e_1.2.1, e_1.2.2.1, e_1.2.2.2))] : List (Int × (Int × (List Int) × Int))) 1) ([(e_1.1, (e_1.2.1, e_1.2.2.1, e_1.2.2.2))] : List (Int × (Int × (List Int) × Int))), Ch.bx n0 b5 0 [(.slice none 0 0), (.slice none 0 0)] [] [], Ch.bx n0 b3 0 [(I e_1.1), (I e_1.2.1), (Sl ae_1_1_1 e_1.2.2.1 ce_1_1_1), (I e_1.2.2.2)] [] [], Ch.bx n0 b1 0 [(Sl ah_0_0 h_0.1 ch_0_0), (Sl ah_0_1 h_0.2 ch_0_1)] [] [], Ch.ro 0 (Sl ah_0_0 h_0.1 ch_0_0) h_0.1, Ch.ro 0 (Sl ah_0_1 h_0.2 ch_0_1) h_0.2, Ch.ro 0 (Sl ae_1_1_1 e_1.2.2.1 ce_1_1_1) e_1.2.2.1] ∧ Md (fun i => (cov []) i ∨ (fun b => blk (Sl a11 r8 c12) = some b) i) σ6 σm, fun ((((a11, c12), (b14, (a17, c18))), ((a23, (c24, b25)), (a28, (c29, b30)))) : ((((Option Addr) × (Nat)) × ((Nat) × ((Option Addr) × (Nat)))) × (((Option Addr) × ((Nat) × (Nat))) × ((Option Addr) × ((Nat) × (Nat)))))) => fun σm => Hp S0 σ0 σm [Ch.own n0 n0 (Sl (some ⟨b25, 0, none⟩) ([t_2] : List Int) 1) ([t_2] : List Int), Ch.own n0 0 (Sl (some ⟨b14, 0, none⟩) ([(e_1.1, (e_1.2.1, e_1.2.2.1, e_1.2.2.2))] : List (Int × (Int × (List Int) × Int))) 1) ([(e_1.1, (e_1.2.1, e_1.2.2.1, e_1.2.2.2))] : List (Int × (Int × (List Int) × Int))), Ch.own n0 0 (Sl a11 r8 c12) r8, Ch.bx n0 b5 0 [(.slice none 0 0), (.slice none 0 0)] [] [], Ch.bx n0 b3 0 [(I e_1.1), (I e_1.2.1), (Sl ae_1_1_1 e_1.2.2.1 ce_1_1_1), (I e_1.2.2.2)] [] [], Ch.bx n0 b1 0 [(Sl ah_0_0 h_0.1 ch_0_0), (Sl ah_0_1 h_0.2 ch_0_1)] [] [], Ch.ro 0 (Sl ah_0_0 h_0.1 ch_0_0) h_0.1, Ch.ro 0 (Sl ah_0_1 h_0.2 ch_0_1) h_0.2, Ch.ro 0 (Sl ae_1_1_1 e_1.2.2.1 ce_1_1_1) e_1.2.2.1] ∧ Md (cov []) σ6 σm, fun ((((a11, c12), (b14, (a17, c18))), ((a23, (c24, b25)), (a28, (c29, b30)))) : ((((Option Addr) × (Nat)) × ((Nat) × ((Option Addr) × (Nat)))) × (((Option Addr) × ((Nat) × (Nat))) × ((Option Addr) × ((Nat) × (Nat)))))) => fun σm => Hp S0 σ0 σm [Ch.bx n0 b30 0 [(.slice none 0 0), (.slice none 0 0)] [] [], Ch.own n0 0 (Sl (some ⟨b14, 0, none⟩) ([(e_1.1, (e_1.2.1, e_1.2.2.1, e_1.2.2.2))] : List (Int × (Int × (List Int) × Int))) 1) ([(e_1.1, (e_1.2.1, e_1.2.2.1, e_1.2.2.2))] : List (Int × (Int × (List Int) × Int))), Ch.own n0 0 (Sl a11 r8 c12) r8, Ch.bx n0 b5 0 [(.slice none 0 0), (.slice none 0 0)] [] [], Ch.bx n0 b3 0 [(I e_1.1), (I e_1.2.1), (Sl ae_1_1_1 e_1.2.2.1 ce_1_1_1), (I e_1.2.2.2)] [] [], Ch.bx n0 b1 0 [(Sl ah_0_0 h_0.1 ch_0_0), (Sl ah_0_1 h_0.2 ch_0_1)] [] [], Ch.ro 0 (Sl ah_0_0 h_0.1 ch_0_0) h_0.1, Ch.ro 0 (Sl ah_0_1 h_0.2 ch_0_1) h_0.2, Ch.ro 0 (Sl ae_1_1_1 e_1.2.2.1 ce_1_1_1) e_1.2.2.1] ∧ Md (cov []) σ6 σm, fun ((((a11, c12), (b14, (a17, c18))), ((a23, (c24, b25)), (a28, (c29, b30)))) : ((((Option Addr) × (Nat)) × ((Nat) × ((Option Addr) × (Nat)))) × (((Option Addr) × ((Nat) × (Nat))) × ((Option Addr) × ((Nat) × (Nat)))))) => fun σm => Hp S0 σ0 σm [Ch.bx n0 b30 0 [(.slice none 0 0), (.slice none 0 0)] [] [], Ch.own n0 n0 (Sl (some ⟨b25, 0, none⟩) ([t_2] : List Int) 1) ([t_2] : List Int), Ch.own n0 0 (Sl a11 r8 c12) r8, Ch.bx n0 b5 0 [(.slice none 0 0), (.slice none 0 0)] [] [], Ch.bx n0 b3 0 [(I e_1.1), (I e_1.2.1), (Sl ae_1_1_1 e_1.2.2.1 ce_1_1_1), (I e_1.2.2.2)] [] [], Ch.bx n0 b1 0 [(Sl ah_0_0 h_0.1 ch_0_0), (Sl ah_0_1 h_0.2 ch_0_1)] [] [], Ch.ro 0 (Sl ah_0_0 h_0.1 ch_0_0) h_0.1, Ch.ro 0 (Sl ah_0_1 h_0.2 ch_0_1) h_0.2, Ch.ro 0 (Sl ae_1_1_1 e_1.2.2.1 ce_1_1_1) e_1.2.2.1] ∧ Md (cov []) σ6 σm, fun ((((a11, c12), (b14, (a17, c18))), ((a23, (c24, b25)), (a28, (c29, b30)))) : ((((Option Addr) × (Nat)) × ((Nat) × ((Option Addr) × (Nat)))) × (((Option Addr) × ((Nat) × (Nat))) × ((Option Addr) × ((Nat) × (Nat)))))) => fun σm => Hp S0 σ0 σm [Ch.bx n0 b30 0 [(.slice none 0 0), (.slice none 0 0)] [] [], Ch.own n0 n0 (Sl (some ⟨b25, 0, none⟩) ([t_2] : List Int) 1) ([t_2] : List Int), Ch.own n0 0 (Sl (some ⟨b14, 0, none⟩) ([(e_1.1, (e_1.2.1, e_1.2.2.1, e_1.2.2.2))] : List (Int × (Int × (List Int) × Int))) 1) ([(e_1.1, (e_1.2.1, e_1.2.2.1, e_1.2.2.2))] : List (Int × (Int × (List Int) × Int))), Ch.bx n0 b5 0 [(.slice none 0 0), (.slice none 0 0)] [] [], Ch.bx n0 b3 0 [(I e_1.1), (I e_1.2.1), (Sl ae_1_1_1 e_1.2.2.1 ce_1_1_1), (I e_1.2.2.2)] [] [], Ch.bx n0 b1 0 [(Sl ah_0_0 h_0.1 ch_0_0), (Sl ah_0_1 h_0.2 ch_0_1)] [] [], Ch.ro 0 (Sl ah_0_0 h_0.1 ch_0_0) h_0.1, Ch.ro 0 (Sl ah_0_1 h_0.2 ch_0_1) h_0.2, Ch.ro 0 (Sl ae_1_1_1 e_1.2.2.1 ce_1_1_1) e_1.2.2.1] ∧ Md (cov []) σ6 σm, fun ((((a11, c12), (b14, (a17, c18))), ((a23, (c24, b25)), (a28, (c29, b30)))) : ((((Option Addr) × (Nat)) × ((Nat) × ((Option Addr) × (Nat)))) × (((Option Addr) × ((Nat) × (Nat))) × ((Option Addr) × ((Nat) × (Nat)))))) => fun σm => Hp S0 σ0 σm [Ch.own n0 n0 (Sl a23 r20 c24) r20, Ch.own n0 0 (Sl a17 xs15 c18) xs15, Ch.own n0 0 (Sl (some ⟨b14, 0, none⟩) ([(e_1.1, (e_1.2.1, e_1.2.2.1, e_1.2.2.2))] : List (Int × (Int × (List Int) × Int))) 1) ([(e_1.1, (e_1.2.1, e_1.2.2.1, e_1.2.2.2))] : List (Int × (Int × (List Int) × Int))), Ch.bx n0 b5 0 [(.slice none 0 0), (.slice none 0 0)] [] [], Ch.bx n0 b3 0 [(I e_1.1), (I e_1.2.1), (Sl ae_1_1_1 e_1.2.2.1 ce_1_1_1), (I e_1.2.2.2)] [] [], Ch.bx n0 b1 0 [(Sl ah_0_0 h_0.1 ch_0_0), (Sl ah_0_1 h_0.2 ch_0_1)] [] [], Ch.ro 0 (Sl ah_0_0 h_0.1 ch_0_0) h_0.1, Ch.ro 0 (Sl ah_0_1 h_0.2 ch_0_1) h_0.2, Ch.ro 0 (Sl ae_1_1_1 e_1.2.2.1 ce_1_1_1) e_1.2.2.1] ∧ Md (fun i => (cov []) i ∨ (fun b => blk (Sl a11 r8 c12) = some b) i) σ6 σm, fun ((((a11, c12), (b14, (a17, c18))), ((a23, (c24, b25)), (a28, (c29, b30)))) : ((((Option Addr) × (Nat)) × ((Nat) × ((Option Addr) × (Nat)))) × (((Option Addr) × ((Nat) × (Nat))) × ((Option Addr) × ((Nat) × (Nat)))))) => fun σm => Hp S0 σ0 σm [Ch.own n0 n0 (Sl (some ⟨b25, 0, none⟩) ([t_2] : List Int) 1) ([t_2] : List Int), Ch.own n0 0 (Sl a17 xs15 c18) xs15, Ch.own n0 0 (Sl (some ⟨b14, 0, none⟩) ([(e_1.1, (e_1.2.1, e_1.2.2.1, e_1.2.2.2))] : List (Int × (Int × (List Int) × Int))) 1) ([(e_1.1, (e_1.2.1, e_1.2.2.1, e_1.2.2.2))] : List (Int × (Int × (List Int) × Int))), Ch.bx n0 b5 0 [(.slice none 0 0), (.slice none 0 0)] [] [], Ch.bx n0 b3 0 [(I e_1.1), (I e_1.2.1), (Sl ae_1_1_1 e_1.2.2.1 ce_1_1_1), (I e_1.2.2.2)] [] [], Ch.bx n0 b1 0 [(Sl ah_0_0 h_0.1 ch_0_0), (Sl ah_0_1 h_0.2 ch_0_1)] [] [], Ch.ro 0 (Sl ah_0_0 h_0.1 ch_0_0) h_0.1, Ch.ro 0 (Sl ah_0_1 h_0.2 ch_0_1) h_0.2, Ch.ro 0 (Sl ae_1_1_1 e_1.2.2.1 ce_1_1_1) e_1.2.2.1] ∧ Md (fun i => (cov []) i ∨ (fun b => blk (Sl a11 r8 c12) = some b) i) σ6 σm, fun ((((a11, c12), (b14, (a17, c18))), ((a23, (c24, b25)), (a28, (c29, b30)))) : ((((Option Addr) × (Nat)) × ((Nat) × ((Option Addr) × (Nat)))) × (((Option Addr) × ((Nat) × (Nat))) × ((Option Addr) × ((Nat) × (Nat)))))) => fun σm => Hp S0 σ0 σm [Ch.bx n0 b30 0 [(.slice none 0 0), (.slice none 0 0)] [] [], Ch.own n0 0 (Sl a17 xs15 c18) xs15, Ch.own n0 0 (Sl (some ⟨b14, 0, none⟩) ([(e_1.1, (e_1.2.1, e_1.2.2.1, e_1.2.2.2))] : List (Int × (Int × (List Int) × Int))) 1) ([(e_1.1, (e_1.2.1, e_1.2.2.1, e_1.2.2.2))] : List (Int × (Int × (List Int) × Int))), Ch.bx n0 b5 0 [(.slice none 0 0), (.slice none 0 0)] [] [], Ch.bx n0 b3 0 [(I e_1.1), (I e_1.2.1), (Sl ae_1_1_1 e_1.2.2.1 ce_1_1_1), (I e_1.2.2.2)] [] [], Ch.bx n0 b1 0 [(Sl ah_0_0 h_0.1 ch_0_0), (Sl ah_0_1 h_0.2 ch_0_1)] [] [], Ch.ro 0 (Sl ah_0_0 h_0.1 ch_0_0) h_0.1, Ch.ro 0 (Sl ah_0_1 h_0.2 ch_0_1) h_0.2, Ch.ro 0 (Sl ae_1_1_1 e_1.2.2.1 ce_1_1_1) e_1.2.2.1] ∧ Md (fun i => (cov []) i ∨ (fun b => blk (Sl a11 r8 c12) = some b) i) σ6 σm, fun ((((a11, c12), (b14, (a17, c18))), ((a23, (c24, b25)), (a28, (c29, b30)))) : ((((Option Addr) × (Nat)) × ((Nat) × ((Option Addr) × (Nat)))) × (((Option Addr) × ((Nat) × (Nat))) × ((Option Addr) × ((Nat) × (Nat)))))) => fun σm => Hp S0 σ0 σm [Ch.bx n0 b30 0 [(.slice none 0 0), (.slice none 0 0)] [] [], Ch.own n0 n0 (Sl (some ⟨b25, 0, none⟩) ([t_2] : List Int) 1) ([t_2] : List Int), Ch.own n0 0 (Sl (some ⟨b14, 0, none⟩) ([(e_1.1, (e_1.2.1, e_1.2.2.1, e_1.2.2.2))] : List (Int × (Int × (List Int) × Int))) 1) ([(e_1.1, (e_1.2.1, e_1.2.2.1, e_1.2.2.2))] : List (Int × (Int × (List Int) × Int))), Ch.own n0 0 (Sl a11 r8 c12) r8, Ch.bx n0 b5 0 [(.slice none 0 0), (.slice none 0 0)] [] [], Ch.bx n0 b3 0 [(I e_1.1), (I e_1.2.1), (Sl ae_1_1_1 e_1.2.2.1 ce_1_1_1), (I e_1.2.2.2)] [] [], Ch.bx n0 b1 0 [(Sl ah_0_0 h_0.1 ch_0_0), (Sl ah_0_1 h_0.2 ch_0_1)] [] [], Ch.ro 0 (Sl ah_0_0 h_0.1 ch_0_0) h_0.1, Ch.ro 0 (Sl ah_0_1 h_0.2 ch_0_1) h_0.2, Ch.ro 0 (Sl ae_1_1_1 e_1.2.2.1 ce_1_1_1) e_1.2.2.1] ∧ Md (cov []) σ6 σm, fun ((((a11, c12), (b14, (a17, c18))), ((a23, (c24, b25)), (a28, (c29, b30)))) : ((((Option Addr) × (Nat)) × ((Nat) × ((Option Addr) × (Nat)))) × (((Option Addr) × ((Nat) × (Nat))) × ((Option Addr) × ((Nat) × (Nat)))))) => fun σm => Hp S0 σ0 σm [Ch.own n0 n0 (Sl (some ⟨b25, 0, none⟩) ([t_2] : List Int) 1) ([t_2] : List Int), Ch.own n0 n0 (Sl a23 r20 c24) r20, Ch.own n0 0 (Sl a17 xs15 c18) xs15, Ch.own n0 0 (Sl (some ⟨b14, 0, none⟩) ([(e_1.1, (e_1.2.1, e_1.2.2.1, e_1.2.2.2))] : List (Int × (Int × (List Int) × Int))) 1) ([(e_1.1, (e_1.2.1, e_1.2.2.1, e_1.2.2.2))] : List (Int × (Int × (List Int) × Int))), Ch.bx n0 b5 0 [(.slice none 0 0), (.slice none 0 0)] [] [], Ch.bx n0 b3 0 [(I e_1.1), (I e_1.2.1), (Sl ae_1_1_1 e_1.2.2.1 ce_1_1_1), (I e_1.2.2.2)] [] [], Ch.bx n0 b1 0 [(Sl ah_0_0 h_0.1 ch_0_0), (Sl ah_0_1 h_0.2 ch_0_1)] [] [], Ch.ro 0 (Sl ah_0_0 h_0.1 ch_0_0) h_0.1, Ch.ro 0 (Sl ah_0_1 h_0.2 ch_0_1) h_0.2, Ch.ro 0 (Sl ae_1_1_1 e_1.2.2.1 ce_1_1_1) e_1.2.2.1] ∧ Md (fun i => (cov []) i ∨ (fun b => blk (Sl a11 r8 c12) = some b) i) σ6 σm, fun ((((a11, c12), (b14, (a17, c18))), ((a23, (c24, b25)), (a28, (c29, b30)))) : ((((Option Addr) × (Nat)) × ((Nat) × ((Option Addr) × (Nat)))) × (((Option Addr) × ((Nat) × (Nat))) × ((Option Addr) × ((Nat) × (Nat)))))) => fun σm => Hp S0 σ0 σm [Ch.bx n0 b30 0 [(.slice none 0 0), (.slice none 0 0)] [] [], Ch.own n0 n0 (Sl a23 r20 c24) r20, Ch.own n0 0 (Sl a17 xs15 c18) xs15, Ch.own n0 0 (Sl (some ⟨b14, 0, none⟩) ([(e_1.1, (e_1.2.1, e_1.2.2.1, e_1.2.2.2))] : List (Int × (Int × (List Int) × Int))) 1) ([(e_1.1, (e_1.2.1, e_1.2.2.1, e_1.2.2.2))] : List (Int × (Int × (List Int) × Int))), Ch.bx n0 b5 0 [(.slice none 0 0), (.slice none 0 0)] [] [], Ch.bx n0 b3 0 [(I e_1.1), (I e_1.2.1), (Sl ae_1_1_1 e_1.2.2.1 ce_1_1_1), (I e_1.2.2.2)] [] [], Ch.bx n0 b1 0 [(Sl ah_0_0 h_0.1 ch_0_0), (Sl ah_0_1 h_0.2 ch_0_1)] [] [], Ch.ro 0 (Sl ah_0_0 h_0.1 ch_0_0) h_0.1, Ch.ro 0 (Sl ah_0_1 h_0.2 ch_0_1) h_0.2, Ch.ro 0 (Sl ae_1_1_1 e_1.2.2.1 ce_1_1_1) e_1.2.2.1] ∧ Md (fun i => (cov []) i ∨ (fun b => blk (Sl a11 r8 c12) = some b) i) σ6 σm, fun ((((a11, c12), (b14, (a17, c18))), ((a23, (c24, b25)), (a28, (c29, b30)))) : ((((Option Addr) × (Nat)) × ((Nat) × ((Option Addr) × (Nat)))) × (((Option Addr) × ((Nat) × (Nat))) × ((Option Addr) × ((Nat) × (Nat)))))) => fun σm => Hp S0 σ0 σm [Ch.bx n0 b30 0 [(.slice none 0 0), (.slice none 0 0)] [] [], Ch.own n0 n0 (Sl (some ⟨b25, 0, none⟩) ([t_2] : List Int) 1) ([t_2] : List Int), Ch.own n0 0 (Sl a17 xs15 c18) xs15, Ch.own n0 0 (Sl (some ⟨b14, 0, none⟩) ([(e_1.1, (e_1.2.1, e_1.2.2.1, e_1.2.2.2))] : List (Int × (Int × (List Int) × Int))) 1) ([(e_1.1, (e_1.2.1, e_1.2.2.1, e_1.2.2.2))] : List (Int × (Int × (List Int) × Int))), Ch.bx n0 b5 0 [(.slice none 0 0), (.slice none 0 0)] [] [], Ch.bx n0 b3 0 [(I e_1.1), (I e_1.2.1), (Sl ae_1_1_1 e_1.2.2.1 ce_1_1_1), (I e_1.2.2.2)] [] [], Ch.bx n0 b1 0 [(Sl ah_0_0 h_0.1 ch_0_0), (Sl ah_0_1 h_0.2 ch_0_1)] [] [], Ch.ro 0 (Sl ah_0_0 h_0.1 ch_0_0) h_0.1, Ch.ro 0 (Sl ah_0_1 h_0.2 ch_0_1) h_0.2, Ch.ro 0 (Sl ae_1_1_1 e_1.2.2.1 ce_1_1_1) e_1.2.2.1] ∧ Md (fun i => (cov []) i ∨ (fun b => blk (Sl a11 r8 c12) = some b) i) σ6 σm, fun ((((a11, c12), (b14, (a17, c18))), ((a23, (c24, b25)), (a28, (c29, b30)))) : ((((Option Addr) × (Nat)) × ((Nat) × ((Option Addr) × (Nat)))) × (((Option Addr) × ((Nat) × (Nat))) × ((Option Addr) × ((Nat) × (Nat)))))) => fun σm => Hp S0 σ0 σm [Ch.own n0 n0 (Sl a28 xs26 c29) xs26, Ch.own n0 n0 (Sl (some ⟨b25, 0, none⟩) ([t_2] : List Int) 1) ([t_2] : List Int), Ch.own n0 0 (Sl a17 xs15 c18) xs15, Ch.own n0 0 (Sl (some ⟨b14, 0, none⟩) ([(e_1.1, (e_1.2.1, e_1.2.2.1, e_1.2.2.2))] : List (Int × (Int × (List Int) × Int))) 1) ([(e_1.1, (e_1.2.1, e_1.2.2.1, e_1.2.2.2))] : List (Int × (Int × (List Int) × Int))), Ch.bx n0 b5 0 [(.slice none 0 0), (.slice none 0 0)] [] [], Ch.bx n0 b3 0 [(I e_1.1), (I e_1.2.1), (Sl ae_1_1_1 e_1.2.2.1 ce_1_1_1), (I e_1.2.2.2)] [] [], Ch.bx n0 b1 0 [(Sl ah_0_0 h_0.1 ch_0_0), (Sl ah_0_1 h_0.2 ch_0_1)] [] [], Ch.ro 0 (Sl ah_0_0 h_0.1 ch_0_0) h_0.1, Ch.ro 0 (Sl ah_0_1 h_0.2 ch_0_1) h_0.2, Ch.ro 0 (Sl ae_1_1_1 e_1.2.2.1 ce_1_1_1) e_1.2.2.1] ∧ Md (fun i => (fun i => (cov []) i ∨ (fun b => blk (Sl a11 r8 c12) = some b) i) i ∨ (fun b => blk (Sl a23 r20 c24) = some b) i) σ6 σm, fun ((((a11, c12), (b14, (a17, c18))), ((a23, (c24, b25)), (a28, (c29, b30)))) : ((((Option Addr) × (Nat)) × ((Nat) × ((Option Addr) × (Nat)))) × (((Option Addr) × ((Nat) × (Nat))) × ((Option Addr) × ((Nat) × (Nat)))))) => fun σm => Hp S0 σ0 σm [Ch.bx n0 b30 0 [(.slice none 0 0), (.slice none 0 0)] [] [], Ch.own n0 n0 (Sl (some ⟨b25, 0, none⟩) ([t_2] : List Int) 1) ([t_2] : List Int), Ch.own n0 n0 (Sl a23 r20 c24) r20, Ch.own n0 0 (Sl a17 xs15 c18) xs15, Ch.own n0 0 (Sl (some ⟨b14, 0, none⟩) ([(e_1.1, (e_1.2.1, e_1.2.2.1, e_1.2.2.2))] : List (Int × (Int × (List Int) × Int))) 1) ([(e_1.1, (e_1.2.1, e_1.2.2.1, e_1.2.2.2))] : List (Int × (Int × (List Int) × Int))), Ch.bx n0 b5 0 [(.slice none 0 0), (.slice none 0 0)] [] [], Ch.bx n0 b3 0 [(I e_1.1), (I e_1.2.1), (Sl ae_1_1_1 e_1.2.2.1 ce_1_1_1), (I e_1.2.2.2)] [] [], Ch.bx n0 b1 0 [(Sl ah_0_0 h_0.1 ch_0_0), (Sl ah_0_1 h_0.2 ch_0_1)] [] [], Ch.ro 0 (Sl ah_0_0 h_0.1 ch_0_0) h_0.1, Ch.ro 0 (Sl ah_0_1 h_0.2 ch_0_1) h_0.2, Ch.ro 0 (Sl ae_1_1_1 e_1.2.2.1 ce_1_1_1) e_1.2.2.1] ∧ Md (fun i => (cov []) i ∨ (fun b => blk (Sl a11 r8 c12) = some b) i) σ6 σm, fun ((((a11, c12), (b14, (a17, c18))), ((a23, (c24, b25)), (a28, (c29, b30)))) : ((((Option Addr) × (Nat)) × ((Nat) × ((Option Addr) × (Nat)))) × (((Option Addr) × ((Nat) × (Nat))) × ((Option Addr) × ((Nat) × (Nat)))))) => fun σm => Hp S0 σ0 σm [Ch.bx n0 b30 0 [(.slice none 0 0), (.slice none 0 0)] [] [], Ch.own n0 n0 (Sl a28 xs26 c29) xs26, Ch.own n0 n0 (Sl (some ⟨b25, 0, none⟩) ([t_2] : List Int) 1) ([t_2] : List Int), Ch.own n0 0 (Sl a17 xs15 c18) xs15, Ch.own n0 0 (Sl (some ⟨b14, 0, none⟩) ([(e_1.1, (e_1.2.1, e_1.2.2.1, e_1.2.2.2))] : List (Int × (Int × (List Int) × Int))) 1) ([(e_1.1, (e_1.2.1, e_1.2.2.1, e_1.2.2.2))] : List (Int × (Int × (List Int) × Int))), Ch.bx n0 b5 0 [(.slice none 0 0), (.slice none 0 0)] [] [], Ch.bx n0 b3 0 [(I e_1.1), (I e_1.2.1), (Sl ae_1_1_1 e_1.2.2.1 ce_1_1_1), (I e_1.2.2.2)] [] [], Ch.bx n0 b1 0 [(Sl ah_0_0 h_0.1 ch_0_0), (Sl ah_0_1 h_0.2 ch_0_1)] [] [], Ch.ro 0 (Sl ah_0_0 h_0.1 ch_0_0) h_0.1, Ch.ro 0 (Sl ah_0_1 h_0.2 ch_0_1) h_0.2, Ch.ro 0 (Sl ae_1_1_1 e_1.2.2.1 ce_1_1_1) e_1.2.2.1] ∧ Md (fun i => (fun i => (cov []) i ∨ (fun b => blk (Sl a11 r8 c12) = some b) i) i ∨ (fun b => blk (Sl a23 r20 c24) = some b) i) σ6 σm] [fun ((((a11, c12), (b14, (a17, c18))), ((a23, (c24, b25)), (a28, (c29, b30)))) : ((((Option Addr) × (Nat)) × ((Nat) × ((Option Addr) × (Nat)))) × (((Option Addr) × ((Nat) × (Nat))) × ((Option Addr) × ((Nat) × (Nat)))))) => (pt b1 0), fun ((((a11, c12), (b14, (a17, c18))), ((a23, (c24, b25)), (a28, (c29, b30)))) : ((((Option Addr) × (Nat)) × ((Nat) × ((Option Addr) × (Nat)))) × (((Option Addr) × ((Nat) × (Nat))) × ((Option Addr) × ((Nat) × (Nat)))))) => (Sl ah_0_0 h_0.1 ch_0_0), fun ((((a11, c12), (b14, (a17, c18))), ((a23, (c24, b25)), (a28, (c29, b30)))) : ((((Option Addr) × (Nat)) × ((Nat) × ((Option Addr) × (Nat)))) × (((Option Addr) × ((Nat) × (Nat))) × ((Option Addr) × ((Nat) × (Nat)))))) => (Sl a11 r8 c12), fun ((((a11, c12), (b14, (a17, c18))), ((a23, (c24, b25)), (a28, (c29, b30)))) : ((((Option Addr) × (Nat)) × ((Nat) × ((Option Addr) × (Nat)))) × (((Option Addr) × ((Nat) × (Nat))) × ((Option Addr) × ((Nat) × (Nat)))))) => (.agg #[(I e_1.1), (I e_1.2.1), (Sl ae_1_1_1 e_1.2.2.1 ce_1_1_1), (I e_1.2.2.2)]), fun ((((a11, c12), (b14, (a17, c18))), ((a23, (c24, b25)), (a28, (c29, b30)))) : ((((Option Addr) × (Nat)) × ((Nat) × ((Option Addr) × (Nat)))) × (((Option Addr) × ((Nat) × (Nat))) × ((Option Addr) × ((Nat) × (Nat)))))) => (Sl (some ⟨b14, 0, none⟩) ([(e_1.1, (e_1.2.1, e_1.2.2.1, e_1.2.2.2))] : List (Int × (Int × (List Int) × Int))) 1), fun ((((a11, c12), (b14, (a17, c18))), ((a23, (c24, b25)), (a28, (c29, b30)))) : ((((Option Addr) × (Nat)) × ((Nat) × ((Option Addr) × (Nat)))) × (((Option Addr) × ((Nat) × (Nat))) × ((Option Addr) × ((Nat) × (Nat)))))) => (Sl a17 xs15 c18), fun ((((a11, c12), (b14, (a17, c18))), ((a23, (c24, b25)), (a28, (c29, b30)))) : ((((Option Addr) × (Nat)) × ((Nat) × ((Option Addr) × (Nat)))) × (((Option Addr) × ((Nat) × (Nat))) × ((Option Addr) × ((Nat) × (Nat)))))) => (pt b1 1), fun ((((a11, c12), (b14, (a17, c18))), ((a23, (c24, b25)), (a28, (c29, b30)))) : ((((Option Addr) × (Nat)) × ((Nat) × ((Option Addr) × (Nat)))) × (((Option Addr) × ((Nat) × (Nat))) × ((Option Addr) × ((Nat) × (Nat)))))) => (Sl ah_0_1 h_0.2 ch_0_1), fun ((((a11, c12), (b14, (a17, c18))), ((a23, (c24, b25)), (a28, (c29, b30)))) : ((((Option Addr) × (Nat)) × ((Nat) × ((Option Addr) × (Nat)))) × (((Option Addr) × ((Nat) × (Nat))) × ((Option Addr) × ((Nat) × (Nat)))))) => (Sl a23 r20 c24), fun ((((a11, c12), (b14, (a17, c18))), ((a23, (c24, b25)), (a28, (c29, b30)))) : ((((Option Addr) × (Nat)) × ((Nat) × ((Option Addr) × (Nat)))) × (((Option Addr) × ((Nat) × (Nat))) × ((Option Addr) × ((Nat) × (Nat)))))) => (I t_2), fun ((((a11, c12), (b14, (a17, c18))), ((a23, (c24, b25)), (a28, (c29, b30)))) : ((((Option Addr) × (Nat)) × ((Nat) × ((Option Addr) × (Nat)))) × (((Option Addr) × ((Nat) × (Nat))) × ((Option Addr) × ((Nat) × (Nat)))))) => (Sl (some ⟨b25, 0, none⟩) ([t_2] : List Int) 1), fun ((((a11, c12), (b14, (a17, c18))), ((a23, (c24, b25)), (a28, (c29, b30)))) : ((((Option Addr) × (Nat)) × ((Nat) × ((Option Addr) × (Nat)))) × (((Option Addr) × ((Nat) × (Nat))) × ((Option Addr) × ((Nat) × (Nat)))))) => (Sl a28 xs26 c29), fun ((((a11, c12), (b14, (a17, c18))), ((a23, (c24, b25)), (a28, (c29, b30)))) : ((((Option Addr) × (Nat)) × ((Nat) × ((Option Addr) × (Nat)))) × (((Option Addr) × ((Nat) × (Nat))) × ((Option Addr) × ((Nat) × (Nat)))))) => (.agg #[(Sl a17 xs15 c18), (Sl a28 xs26 c29)]), fun ((((a11, c12), (b14, (a17, c18))), ((a23, (c24, b25)), (a28, (c29, b30)))) : ((((Option Addr) × (Nat)) × ((Nat) × ((Option Addr) × (Nat)))) × (((Option Addr) × ((Nat) × (Nat))) × ((Option Addr) × ((Nat) × (Nat)))))) => (pt b30 0)] (((none, 0), (0, (none, 0))), ((none, (0, 0)), (none, (0, 0)))) (by kernel_rfl) (by kernel_rfl) ?_ ?_ ?_
 ·intro σm m0
  exact ⟨H.grow (m0.mono fun _ h => h.elim), m0⟩
 ·refine ac rfl (by
    intro k; rintro ⟨⟨⟨a11, c12⟩, ⟨b14, ⟨a17, c18⟩⟩⟩, ⟨⟨a23, ⟨c24, b25⟩⟩, ⟨a28, ⟨c29, b30⟩⟩⟩⟩ ρ σm hJ hoff hdep
    have e3 := look_off (N := 31) (hoff 3 rfl) rfl
    exact dp_v (v := (pt b1 0)) wn (rv_fieldAddr (off := 0) (ft := 23) Try.underlying26 rfl ti23 rfl e3) rfl hJ) ?_
  refine all_cons (by
    refine ⟨?_, ?_⟩
    ·rintro ⟨⟨⟨a11, c12⟩, ⟨b14, ⟨a17, c18⟩⟩⟩, ⟨⟨a23, ⟨c24, b25⟩⟩, ⟨a28, ⟨c29, b30⟩⟩⟩⟩ ρ σm hJ hoff hdep
     have e9 := hdep 0 rfl rfl 9 rfl
     obtain ⟨H, m⟩ := id hJ
     have hc7 := H.cell (u := (Sl ah_0_0 h_0.1 ch_0_0)) (o' := 0) 2 0 rfl rfl rfl
     exact dp_v (v := (Sl ah_0_0 h_0.1 ch_0_0)) wn (rv_load1 Try.underlying23 rfl e9 hc7) rfl hJ
    refine ⟨?_, ?_⟩
    ·rintro ⟨⟨⟨a11, c12⟩, ⟨b14, ⟨a17, c18⟩⟩⟩, ⟨⟨a23, ⟨c24, b25⟩⟩, ⟨a28, ⟨c29, b30⟩⟩⟩⟩ ρ σm hJ hoff hdep
     have e9 := hdep 0 rfl rfl 9 rfl
     obtain ⟨H, m⟩ := id hJ
     have hc7 := H.cell (u := (Sl ah_0_0 h_0.1 ch_0_0)) (o' := 0) 3 0 rfl rfl rfl
     exact dp_v (v := (Sl ah_0_0 h_0.1 ch_0_0)) wn (rv_load1 Try.underlying23 rfl e9 hc7) rfl hJ
    refine ⟨?_, ?_⟩
    ·rintro ⟨⟨⟨a11, c12⟩, ⟨b14, ⟨a17, c18⟩⟩⟩, ⟨⟨a23, ⟨c24, b25⟩⟩, ⟨a28, ⟨c29, b30⟩⟩⟩⟩ ρ σm hJ hoff hdep
     have e9 := hdep 0 rfl rfl 9 rfl
     obtain ⟨H, m⟩ := id hJ
     have hc7 := H.cell (u := (Sl ah_0_0 h_0.1 ch_0_0)) (o' := 0) 3 0 rfl rfl rfl
     exact dp_v (v := (Sl ah_0_0 h_0.1 ch_0_0)) wn (rv_load1 Try.underlying23 rfl e9 hc7) rfl hJ
    refine ⟨?_, ?_⟩
    ·rintro ⟨⟨⟨a11, c12⟩, ⟨b14, ⟨a17, c18⟩⟩⟩, ⟨⟨a23, ⟨c24, b25⟩⟩, ⟨a28, ⟨c29, b30⟩⟩⟩⟩ ρ σm hJ hoff hdep
     have e9 := hdep 0 rfl rfl 9 rfl
     obtain ⟨H, m⟩ := id hJ
     have hc7 := H.cell (u := (Sl ah_0_0 h_0.1 ch_0_0)) (o' := 0) 3 0 rfl rfl rfl
     exact dp_v (v := (Sl ah_0_0 h_0.1 ch_0_0)) wn (rv_load1 Try.underlying23 rfl e9 hc7) rfl hJ
    refine ⟨?_, ?_⟩
    ·rintro ⟨⟨⟨a11, c12⟩, ⟨b14, ⟨a17, c18⟩⟩⟩, ⟨⟨a23, ⟨c24, b25⟩⟩, ⟨a28, ⟨c29, b30⟩⟩⟩⟩ ρ σm hJ hoff hdep
     have e9 := hdep 0 rfl rfl 9 rfl
     obtain ⟨H, m⟩ := id hJ
     have hc7 := H.cell (u := (Sl ah_0_0 h_0.1 ch_0_0)) (o' := 0) 4 0 rfl rfl rfl
     exact dp_v (v := (Sl ah_0_0 h_0.1 ch_0_0)) wn (rv_load1 Try.underlying23 rfl e9 hc7) rfl hJ
    refine ⟨?_, ?_⟩
    ·rintro ⟨⟨⟨a11, c12⟩, ⟨b14, ⟨a17, c18⟩⟩⟩, ⟨⟨a23, ⟨c24, b25⟩⟩, ⟨a28, ⟨c29, b30⟩⟩⟩⟩ ρ σm hJ hoff hdep
     have e9 := hdep 0 rfl rfl 9 rfl
     obtain ⟨H, m⟩ := id hJ
     have hc7 := H.cell (u := (Sl ah_0_0 h_0.1 ch_0_0)) (o' := 0) 4 0 rfl rfl rfl
     exact dp_v (v := (Sl ah_0_0 h_0.1 ch_0_0)) wn (rv_load1 Try.underlying23 rfl e9 hc7) rfl hJ
    refine ⟨?_, ?_⟩
    ·rintro ⟨⟨⟨a11, c12⟩, ⟨b14, ⟨a17, c18⟩⟩⟩, ⟨⟨a23, ⟨c24, b25⟩⟩, ⟨a28, ⟨c29, b30⟩⟩⟩⟩ ρ σm hJ hoff hdep
     have e9 := hdep 0 rfl rfl 9 rfl
     obtain ⟨H, m⟩ := id hJ
     have hc7 := H.cell (u := (Sl ah_0_0 h_0.1 ch_0_0)) (o' := 0) 4 0 rfl rfl rfl
     exact dp_v (v := (Sl ah_0_0 h_0.1 ch_0_0)) wn (rv_load1 Try.underlying23 rfl e9 hc7) rfl hJ
    refine ⟨?_, ?_⟩
    ·rintro ⟨⟨⟨a11, c12⟩, ⟨b14, ⟨a17, c18⟩⟩⟩, ⟨⟨a23, ⟨c24, b25⟩⟩, ⟨a28, ⟨c29, b30⟩⟩⟩⟩ ρ σm hJ hoff hdep
     have e9 := hdep 0 rfl rfl 9 rfl
     obtain ⟨H, m⟩ := id hJ
     have hc7 := H.cell (u := (Sl ah_0_0 h_0.1 ch_0_0)) (o' := 0) 5 0 rfl rfl rfl
     exact dp_v (v := (Sl ah_0_0 h_0.1 ch_0_0)) wn (rv_load1 Try.underlying23 rfl e9 hc7) rfl hJ
    trivial) ?_
  refine all_cons (by
    refine ⟨?_, ?_⟩
    ·rintro ⟨⟨⟨a11, c12⟩, ⟨b14, ⟨a17, c18⟩⟩⟩, ⟨⟨a23, ⟨c24, b25⟩⟩, ⟨a28, ⟨c29, b30⟩⟩⟩⟩ ρ σm hJ hoff hdep
     have e10 : look 31 ρ 10 = (Sl ah_0_0 h_0.1 ch_0_0) := hdep 1 rfl rfl 10 rfl
     obtain ⟨H, m⟩ := id hJ
     refine dp_cx wn (cx_call hc10 (ent_f hc10.fn (by show [look 31 ρ 10] = _; rw [e10])) hn0 (show Hp S0 σ0 _ ([Ch.ro 0 (Sl ah_0_0 h_0.1 ch_0_0) h_0.1] ++ [Ch.bx n0 b5 0 [(.slice none 0 0), (.slice none 0 0)] [] [], Ch.bx n0 b3 0 [(I e_1.1), (I e_1.2.1), (Sl ae_1_1_1 e_1.2.2.1 ce_1_1_1), (I e_1.2.2.2)] [] [], Ch.bx n0 b1 0 [(Sl ah_0_0 h_0.1 ch_0_0), (Sl ah_0_1 h_0.2 ch_0_1)] [] [], Ch.ro 0 (Sl ah_0_0 h_0.1 ch_0_0) h_0.1, Ch.ro 0 (Sl ah_0_1 h_0.2 ch_0_1) h_0.2, Ch.ro 0 (Sl ae_1_1_1 e_1.2.2.1 ce_1_1_1) e_1.2.2.1]) from (H.sel' [3, 0, 1, 2, 3, 4, 5] rfl rfl))) ?_
     rintro _ σq ⟨_, ⟨a11x, c12x, rfl, rfl⟩, H2, m2⟩
     exact ⟨_, (((a11x, c12x), (b14, (a17, c18))), ((a23, (c24, b25)), (a28, (c29, b30)))), rfl, rfl, ⟨H2.sel' [0, 1, 2, 3, 4, 5, 6] rfl rfl, m.comp0 (m2.mono (fun i h => by simp [cov, Ch.ro] at h))⟩, stab [0, 1, 3, 4, 6, 7, 9, 10, 13] (by kernel_rfl) ⟨rfl, rfl, rfl, rfl, rfl, rfl, rfl, rfl, rfl, trivial⟩⟩
    refine ⟨?_, ?_⟩
    ·rintro ⟨⟨⟨a11, c12⟩, ⟨b14, ⟨a17, c18⟩⟩⟩, ⟨⟨a23, ⟨c24, b25⟩⟩, ⟨a28, ⟨c29, b30⟩⟩⟩⟩ ρ σm hJ hoff hdep
     have e10 : look 31 ρ 10 = (Sl ah_0_0 h_0.1 ch_0_0) := hdep 1 rfl rfl 10 rfl
     obtain ⟨H, m⟩ := id hJ
     refine dp_cx wn (cx_call hc10 (ent_f hc10.fn (by show [look 31 ρ 10] = _; rw [e10])) hn0 (show Hp S0 σ0 _ ([Ch.ro 0 (Sl ah_0_0 h_0.1 ch_0_0) h_0.1] ++ [Ch.own n0 0 (Sl (some ⟨b14, 0, none⟩) ([(e_1.1, (e_1.2.1, e_1.2.2.1, e_1.2.2.2))] : List (Int × (Int × (List Int) × Int))) 1) ([(e_1.1, (e_1.2.1, e_1.2.2.1, e_1.2.2.2))] : List (Int × (Int × (List Int) × Int))), Ch.bx n0 b5 0 [(.slice none 0 0), (.slice none 0 0)] [] [], Ch.bx n0 b3 0 [(I e_1.1), (I e_1.2.1), (Sl ae_1_1_1 e_1.2.2.1 ce_1_1_1), (I e_1.2.2.2)] [] [], Ch.bx n0 b1 0 [(Sl ah_0_0 h_0.1 ch_0_0), (Sl ah_0_1 h_0.2 ch_0_1)] [] [], Ch.ro 0 (Sl ah_0_0 h_0.1 ch_0_0) h_0.1, Ch.ro 0 (Sl ah_0_1 h_0.2 ch_0_1) h_0.2, Ch.ro 0 (Sl ae_1_1_1 e_1.2.2.1 ce_1_1_1) e_1.2.2.1]) from (H.sel' [4, 0, 1, 2, 3, 4, 5, 6] rfl rfl))) ?_
     rintro _ σq ⟨_, ⟨a11x, c12x, rfl, rfl⟩, H2, m2⟩
     exact ⟨_, (((a11x, c12x), (b14, (a17, c18))), ((a23, (c24, b25)), (a28, (c29, b30)))), rfl, rfl, ⟨H2.sel' [1, 0, 2, 3, 4, 5, 6, 7] rfl rfl, m.comp0 (m2.mono (fun i h => by simp [cov, Ch.ro] at h))⟩, stab [0, 1, 3, 4, 6, 7, 9, 10, 13] (by kernel_rfl) ⟨rfl, rfl, rfl, rfl, rfl, rfl, rfl, rfl, rfl, trivial⟩⟩
    refine ⟨?_, ?_⟩
    ·rintro ⟨⟨⟨a11, c12⟩, ⟨b14, ⟨a17, c18⟩⟩⟩, ⟨⟨a23, ⟨c24, b25⟩⟩, ⟨a28, ⟨c29, b30⟩⟩⟩⟩ ρ σm hJ hoff hdep
     have e10 : look 31 ρ 10 = (Sl ah_0_0 h_0.1 ch_0_0) := hdep 1 rfl rfl 10 rfl
     obtain ⟨H, m⟩ := id hJ
     refine dp_cx wn (cx_call hc10 (ent_f hc10.fn (by show [look 31 ρ 10] = _; rw [e10])) hn0 (show Hp S0 σ0 _ ([Ch.ro 0 (Sl ah_0_0 h_0.1 ch_0_0) h_0.1] ++ [Ch.own n0 n0 (Sl (some ⟨b25, 0, none⟩) ([t_2] : List Int) 1) ([t_2] : List Int), Ch.bx n0 b5 0 [(.slice none 0 0), (.slice none 0 0)] [] [], Ch.bx n0 b3 0 [(I e_1.1), (I e_1.2.1), (Sl ae_1_1_1 e_1.2.2.1 ce_1_1_1), (I e_1.2.2.2)] [] [], Ch.bx n0 b1 0 [(Sl ah_0_0 h_0.1 ch_0_0), (Sl ah_0_1 h_0.2 ch_0_1)] [] [], Ch.ro 0 (Sl ah_0_0 h_0.1 ch_0_0) h_0.1, Ch.ro 0 (Sl ah_0_1 h_0.2 ch_0_1) h_0.2, Ch.ro 0 (Sl ae_1_1_1 e_1.2.2.1 ce_1_1_1) e_1.2.2.1]) from (H.sel' [4, 0, 1, 2, 3, 4, 5, 6] rfl rfl))) ?_
     rintro _ σq ⟨_, ⟨a11x, c12x, rfl, rfl⟩, H2, m2⟩
     exact ⟨_, (((a11x, c12x), (b14, (a17, c18))), ((a23, (c24, b25)), (a28, (c29, b30)))), rfl, rfl, ⟨H2.sel' [1, 0, 2, 3, 4, 5, 6, 7] rfl rfl, m.comp0 (m2.mono (fun i h => by simp [cov, Ch.ro] at h))⟩, stab [0, 1, 3, 4, 6, 7, 9, 10, 13] (by kernel_rfl) ⟨rfl, rfl, rfl, rfl, rfl, rfl, rfl, rfl, rfl, trivial⟩⟩
    refine ⟨?_, ?_⟩
    ·rintro ⟨⟨⟨a11, c12⟩, ⟨b14, ⟨a17, c18⟩⟩⟩, ⟨⟨a23, ⟨c24, b25⟩⟩, ⟨a28, ⟨c29, b30⟩⟩⟩⟩ ρ σm hJ hoff hdep
     have e10 : look 31 ρ 10 = (Sl ah_0_0 h_0.1 ch_0_0) := hdep 1 rfl rfl 10 rfl
     obtain ⟨H, m⟩ := id hJ
     refine dp_cx wn (cx_call hc10 (ent_f hc10.fn (by show [look 31 ρ 10] = _; rw [e10])) hn0 (show Hp S0 σ0 _ ([Ch.ro 0 (Sl ah_0_0 h_0.1 ch_0_0) h_0.1] ++ [Ch.bx n0 b30 0 [(.slice none 0 0), (.slice none 0 0)] [] [], Ch.bx n0 b5 0 [(.slice none 0 0), (.slice none 0 0)] [] [], Ch.bx n0 b3 0 [(I e_1.1), (I e_1.2.1), (Sl ae_1_1_1 e_1.2.2.1 ce_1_1_1), (I e_1.2.2.2)] [] [], Ch.bx n0 b1 0 [(Sl ah_0_0 h_0.1 ch_0_0), (Sl ah_0_1 h_0.2 ch_0_1)] [] [], Ch.ro 0 (Sl ah_0_0 h_0.1 ch_0_0) h_0.1, Ch.ro 0 (Sl ah_0_1 h_0.2 ch_0_1) h_0.2, Ch.ro 0 (Sl ae_1_1_1 e_1.2.2.1 ce_1_1_1) e_1.2.2.1]) from (H.sel' [4, 0, 1, 2, 3, 4, 5, 6] rfl rfl))) ?_
     rintro _ σq ⟨_, ⟨a11x, c12x, rfl, rfl⟩, H2, m2⟩
     exact ⟨_, (((a11x, c12x), (b14, (a17, c18))), ((a23, (c24, b25)), (a28, (c29, b30)))), rfl, rfl, ⟨H2.sel' [1, 0, 2, 3, 4, 5, 6, 7] rfl rfl, m.comp0 (m2.mono (fun i h => by simp [cov, Ch.ro] at h))⟩, stab [0, 1, 3, 4, 6, 7, 9, 10, 13] (by kernel_rfl) ⟨rfl, rfl, rfl, rfl, rfl, rfl, rfl, rfl, rfl, trivial⟩⟩
    refine ⟨?_, ?_⟩
    ·rintro ⟨⟨⟨a11, c12⟩, ⟨b14, ⟨a17, c18⟩⟩⟩, ⟨⟨a23, ⟨c24, b25⟩⟩, ⟨a28, ⟨c29, b30⟩⟩⟩⟩ ρ σm hJ hoff hdep
     have e10 : look 31 ρ 10 = (Sl ah_0_0 h_0.1 ch_0_0) := hdep 1 rfl rfl 10 rfl
     obtain ⟨H, m⟩ := id hJ
     refine dp_cx wn (cx_call hc10 (ent_f hc10.fn (by show [look 31 ρ 10] = _; rw [e10])) hn0 (show Hp S0 σ0 _ ([Ch.ro 0 (Sl ah_0_0 h_0.1 ch_0_0) h_0.1] ++ [Ch.own n0 n0 (Sl (some ⟨b25, 0, none⟩) ([t_2] : List Int) 1) ([t_2] : List Int), Ch.own n0 0 (Sl (some ⟨b14, 0, none⟩) ([(e_1.1, (e_1.2.1, e_1.2.2.1, e_1.2.2.2))] : List (Int × (Int × (List Int) × Int))) 1) ([(e_1.1, (e_1.2.1, e_1.2.2.1, e_1.2.2.2))] : List (Int × (Int × (List Int) × Int))), Ch.bx n0 b5 0 [(.slice none 0 0), (.slice none 0 0)] [] [], Ch.bx n0 b3 0 [(I e_1.1), (I e_1.2.1), (Sl ae_1_1_1 e_1.2.2.1 ce_1_1_1), (I e_1.2.2.2)] [] [], Ch.bx n0 b1 0 [(Sl ah_0_0 h_0.1 ch_0_0), (Sl ah_0_1 h_0.2 ch_0_1)] [] [], Ch.ro 0 (Sl ah_0_0 h_0.1 ch_0_0) h_0.1, Ch.ro 0 (Sl ah_0_1 h_0.2 ch_0_1) h_0.2, Ch.ro 0 (Sl ae_1_1_1 e_1.2.2.1 ce_1_1_1) e_1.2.2.1]) from (H.sel' [5, 0, 1, 2, 3, 4, 5, 6, 7] rfl rfl))) ?_
     rintro _ σq ⟨_, ⟨a11x, c12x, rfl, rfl⟩, H2, m2⟩
     exact ⟨_, (((a11x, c12x), (b14, (a17, c18))), ((a23, (c24, b25)), (a28, (c29, b30)))), rfl, rfl, ⟨H2.sel' [1, 2, 0, 3, 4, 5, 6, 7, 8] rfl rfl, m.comp0 (m2.mono (fun i h => by simp [cov, Ch.ro] at h))⟩, stab [0, 1, 3, 4, 6, 7, 9, 10, 13] (by kernel_rfl) ⟨rfl, rfl, rfl, rfl, rfl, rfl, rfl, rfl, rfl, trivial⟩⟩
    refine ⟨?_, ?_⟩
    ·rintro ⟨⟨⟨a11, c12⟩, ⟨b14, ⟨a17, c18⟩⟩⟩, ⟨⟨a23, ⟨c24, b25⟩⟩, ⟨a28, ⟨c29, b30⟩⟩⟩⟩ ρ σm hJ hoff hdep
     have e10 : look 31 ρ 10 = (Sl ah_0_0 h_0.1 ch_0_0) := hdep 1 rfl rfl 10 rfl
     obtain ⟨H, m⟩ := id hJ
     refine dp_cx wn (cx_call hc10 (ent_f hc10.fn (by show [look 31 ρ 10] = _; rw [e10])) hn0 (show Hp S0 σ0 _ ([Ch.ro 0 (Sl ah_0_0 h_0.1 ch_0_0) h_0.1] ++ [Ch.bx n0 b30 0 [(.slice none 0 0), (.slice none 0 0)] [] [], Ch.own n0 0 (Sl (some ⟨b14, 0, none⟩) ([(e_1.1, (e_1.2.1, e_1.2.2.1, e_1.2.2.2))] : List (Int × (Int × (List Int) × Int))) 1) ([(e_1.1, (e_1.2.1, e_1.2.2.1, e_1.2.2.2))] : List (Int × (Int × (List Int) × Int))), Ch.bx n0 b5 0 [(.slice none 0 0), (.slice none 0 0)] [] [], Ch.bx n0 b3 0 [(I e_1.1), (I e_1.2.1), (Sl ae_1_1_1 e_1.2.2.1 ce_1_1_1), (I e_1.2.2.2)] [] [], Ch.bx n0 b1 0 [(Sl ah_0_0 h_0.1 ch_0_0), (Sl ah_0_1 h_0.2 ch_0_1)] [] [], Ch.ro 0 (Sl ah_0_0 h_0.1 ch_0_0) h_0.1, Ch.ro 0 (Sl ah_0_1 h_0.2 ch_0_1) h_0.2, Ch.ro 0 (Sl ae_1_1_1 e_1.2.2.1 ce_1_1_1) e_1.2.2.1]) from (H.sel' [5, 0, 1, 2, 3, 4, 5, 6, 7] rfl rfl))) ?_
     rintro _ σq ⟨_, ⟨a11x, c12x, rfl, rfl⟩, H2, m2⟩
     exact ⟨_, (((a11x, c12x), (b14, (a17, c18))), ((a23, (c24, b25)), (a28, (c29, b30)))), rfl, rfl, ⟨H2.sel' [1, 2, 0, 3, 4, 5, 6, 7, 8] rfl rfl, m.comp0 (m2.mono (fun i h => by simp [cov, Ch.ro] at h))⟩, stab [0, 1, 3, 4, 6, 7, 9, 10, 13] (by kernel_rfl) ⟨rfl, rfl, rfl, rfl, rfl, rfl, rfl, rfl, rfl, trivial⟩⟩
    refine ⟨?_, ?_⟩
    ·rintro ⟨⟨⟨a11, c12⟩, ⟨b14, ⟨a17, c18⟩⟩⟩, ⟨⟨a23, ⟨c24, b25⟩⟩, ⟨a28, ⟨c29, b30⟩⟩⟩⟩ ρ σm hJ hoff hdep
     have e10 : look 31 ρ 10 = (Sl ah_0_0 h_0.1 ch_0_0) := hdep 1 rfl rfl 10 rfl
     obtain ⟨H, m⟩ := id hJ
     refine dp_cx wn (cx_call hc10 (ent_f hc10.fn (by show [look 31 ρ 10] = _; rw [e10])) hn0 (show Hp S0 σ0 _ ([Ch.ro 0 (Sl ah_0_0 h_0.1 ch_0_0) h_0.1] ++ [Ch.bx n0 b30 0 [(.slice none 0 0), (.slice none 0 0)] [] [], Ch.own n0 n0 (Sl (some ⟨b25, 0, none⟩) ([t_2] : List Int) 1) ([t_2] : List Int), Ch.bx n0 b5 0 [(.slice none 0 0), (.slice none 0 0)] [] [], Ch.bx n0 b3 0 [(I e_1.1), (I e_1.2.1), (Sl ae_1_1_1 e_1.2.2.1 ce_1_1_1), (I e_1.2.2.2)] [] [], Ch.bx n0 b1 0 [(Sl ah_0_0 h_0.1 ch_0_0), (Sl ah_0_1 h_0.2 ch_0_1)] [] [], Ch.ro 0 (Sl ah_0_0 h_0.1 ch_0_0) h_0.1, Ch.ro 0 (Sl ah_0_1 h_0.2 ch_0_1) h_0.2, Ch.ro 0 (Sl ae_1_1_1 e_1.2.2.1 ce_1_1_1) e_1.2.2.1]) from (H.sel' [5, 0, 1, 2, 3, 4, 5, 6, 7] rfl rfl))) ?_
     rintro _ σq ⟨_, ⟨a11x, c12x, rfl, rfl⟩, H2, m2⟩
     exact ⟨_, (((a11x, c12x), (b14, (a17, c18))), ((a23, (c24, b25)), (a28, (c29, b30)))), rfl, rfl, ⟨H2.sel' [1, 2, 0, 3, 4, 5, 6, 7, 8] rfl rfl, m.comp0 (m2.mono (fun i h => by simp [cov, Ch.ro] at h))⟩, stab [0, 1, 3, 4, 6, 7, 9, 10, 13] (by kernel_rfl) ⟨rfl, rfl, rfl, rfl, rfl, rfl, rfl, rfl, rfl, trivial⟩⟩
    refine ⟨?_, ?_⟩
    ·rintro ⟨⟨⟨a11, c12⟩, ⟨b14, ⟨a17, c18⟩⟩⟩, ⟨⟨a23, ⟨c24, b25⟩⟩, ⟨a28, ⟨c29, b30⟩⟩⟩⟩ ρ σm hJ hoff hdep
     have e10 : look 31 ρ 10 = (Sl ah_0_0 h_0.1 ch_0_0) := hdep 1 rfl rfl 10 rfl
     obtain ⟨H, m⟩ := id hJ
     refine dp_cx wn (cx_call hc10 (ent_f hc10.fn (by show [look 31 ρ 10] = _; rw [e10])) hn0 (show Hp S0 σ0 _ ([Ch.ro 0 (Sl ah_0_0 h_0.1 ch_0_0) h_0.1] ++ [Ch.bx n0 b30 0 [(.slice none 0 0), (.slice none 0 0)] [] [], Ch.own n0 n0 (Sl (some ⟨b25, 0, none⟩) ([t_2] : List Int) 1) ([t_2] : List Int), Ch.own n0 0 (Sl (some ⟨b14, 0, none⟩) ([(e_1.1, (e_1.2.1, e_1.2.2.1, e_1.2.2.2))] : List (Int × (Int × (List Int) × Int))) 1) ([(e_1.1, (e_1.2.1, e_1.2.2.1, e_1.2.2.2))] : List (Int × (Int × (List Int) × Int))), Ch.bx n0 b5 0 [(.slice none 0 0), (.slice none 0 0)] [] [], Ch.bx n0 b3 0 [(I e_1.1), (I e_1.2.1), (Sl ae_1_1_1 e_1.2.2.1 ce_1_1_1), (I e_1.2.2.2)] [] [], Ch.bx n0 b1 0 [(Sl ah_0_0 h_0.1 ch_0_0), (Sl ah_0_1 h_0.2 ch_0_1)] [] [], Ch.ro 0 (Sl ah_0_0 h_0.1 ch_0_0) h_0.1, Ch.ro 0 (Sl ah_0_1 h_0.2 ch_0_1) h_0.2, Ch.ro 0 (Sl ae_1_1_1 e_1.2.2.1 ce_1_1_1) e_1.2.2.1]) from (H.sel' [6, 0, 1, 2, 3, 4, 5, 6, 7, 8] rfl rfl))) ?_
     rintro _ σq ⟨_, ⟨a11x, c12x, rfl, rfl⟩, H2, m2⟩
     exact ⟨_, (((a11x, c12x), (b14, (a17, c18))), ((a23, (c24, b25)), (a28, (c29, b30)))), rfl, rfl, ⟨H2.sel' [1, 2, 3, 0, 4, 5, 6, 7, 8, 9] rfl rfl, m.comp0 (m2.mono (fun i h => by simp [cov, Ch.ro] at h))⟩, stab [0, 1, 3, 4, 6, 7, 9, 10, 13] (by kernel_rfl) ⟨rfl, rfl, rfl, rfl, rfl, rfl, rfl, rfl, rfl, trivial⟩⟩
    trivial) ?_
  refine all_cons (by
    refine ⟨?_, ?_⟩
    ·rintro ⟨⟨⟨a11, c12⟩, ⟨b14, ⟨a17, c18⟩⟩⟩, ⟨⟨a23, ⟨c24, b25⟩⟩, ⟨a28, ⟨c29, b30⟩⟩⟩⟩ ρ σm hJ hoff hdep
     have e4 := look_off (N := 31) (hoff 4 rfl) rfl
     obtain ⟨H, m⟩ := id hJ
     have hc13 := H.cells 1 rfl
     exact dp_v (v := (.agg #[(I e_1.1), (I e_1.2.1), (Sl ae_1_1_1 e_1.2.2.1 ce_1_1_1), (I e_1.2.2.2)])) wn (rv_load (cs := [(I e_1.1), (I e_1.2.1), (Sl ae_1_1_1 e_1.2.2.1 ce_1_1_1), (I e_1.2.2.2)]) Try.underlying43 rfl ti43 e4 rfl hc13) rfl hJ
    refine ⟨?_, ?_⟩
    ·rintro ⟨⟨⟨a11, c12⟩, ⟨b14, ⟨a17, c18⟩⟩⟩, ⟨⟨a23, ⟨c24, b25⟩⟩, ⟨a28, ⟨c29, b30⟩⟩⟩⟩ ρ σm hJ hoff hdep
     have e4 := look_off (N := 31) (hoff 4 rfl) rfl
     obtain ⟨H, m⟩ := id hJ
     have hc13 := H.cells 2 rfl
     exact dp_v (v := (.agg #[(I e_1.1), (I e_1.2.1), (Sl ae_1_1_1 e_1.2.2.1 ce_1_1_1), (I e_1.2.2.2)])) wn (rv_load (cs := [(I e_1.1), (I e_1.2.1), (Sl ae_1_1_1 e_1.2.2.1 ce_1_1_1), (I e_1.2.2.2)]) Try.underlying43 rfl ti43 e4 rfl hc13) rfl hJ
    refine ⟨?_, ?_⟩
    ·rintro ⟨⟨⟨a11, c12⟩, ⟨b14, ⟨a17, c18⟩⟩⟩, ⟨⟨a23, ⟨c24, b25⟩⟩, ⟨a28, ⟨c29, b30⟩⟩⟩⟩ ρ σm hJ hoff hdep
     have e4 := look_off (N := 31) (hoff 4 rfl) rfl
     obtain ⟨H, m⟩ := id hJ
     have hc13 := H.cells 2 rfl
     exact dp_v (v := (.agg #[(I e_1.1), (I e_1.2.1), (Sl ae_1_1_1 e_1.2.2.1 ce_1_1_1), (I e_1.2.2.2)])) wn (rv_load (cs := [(I e_1.1), (I e_1.2.1), (Sl ae_1_1_1 e_1.2.2.1 ce_1_1_1), (I e_1.2.2.2)]) Try.underlying43 rfl ti43 e4 rfl hc13) rfl hJ
    refine ⟨?_, ?_⟩
    ·rintro ⟨⟨⟨a11, c12⟩, ⟨b14, ⟨a17, c18⟩⟩⟩, ⟨⟨a23, ⟨c24, b25⟩⟩, ⟨a28, ⟨c29, b30⟩⟩⟩⟩ ρ σm hJ hoff hdep
     have e4 := look_off (N := 31) (hoff 4 rfl) rfl
     obtain ⟨H, m⟩ := id hJ
     have hc13 := H.cells 2 rfl
     exact dp_v (v := (.agg #[(I e_1.1), (I e_1.2.1), (Sl ae_1_1_1 e_1.2.2.1 ce_1_1_1), (I e_1.2.2.2)])) wn (rv_load (cs := [(I e_1.1), (I e_1.2.1), (Sl ae_1_1_1 e_1.2.2.1 ce_1_1_1), (I e_1.2.2.2)]) Try.underlying43 rfl ti43 e4 rfl hc13) rfl hJ
    refine ⟨?_, ?_⟩
    ·rintro ⟨⟨⟨a11, c12⟩, ⟨b14, ⟨a17, c18⟩⟩⟩, ⟨⟨a23, ⟨c24, b25⟩⟩, ⟨a28, ⟨c29, b30⟩⟩⟩⟩ ρ σm hJ hoff hdep
     have e4 := look_off (N := 31) (hoff 4 rfl) rfl
     obtain ⟨H, m⟩ := id hJ
     have hc13 := H.cells 3 rfl
     exact dp_v (v := (.agg #[(I e_1.1), (I e_1.2.1), (Sl ae_1_1_1 e_1.2.2.1 ce_1_1_1), (I e_1.2.2.2)])) wn (rv_load (cs := [(I e_1.1), (I e_1.2.1), (Sl ae_1_1_1 e_1.2.2.1 ce_1_1_1), (I e_1.2.2.2)]) Try.underlying43 rfl ti43 e4 rfl hc13) rfl hJ
    refine ⟨?_, ?_⟩
    ·rintro ⟨⟨⟨a11, c12⟩, ⟨b14, ⟨a17, c18⟩⟩⟩, ⟨⟨a23, ⟨c24, b25⟩⟩, ⟨a28, ⟨c29, b30⟩⟩⟩⟩ ρ σm hJ hoff hdep
     have e4 := look_off (N := 31) (hoff 4 rfl) rfl
     obtain ⟨H, m⟩ := id hJ
     have hc13 := H.cells 3 rfl
     exact dp_v (v := (.agg #[(I e_1.1), (I e_1.2.1), (Sl ae_1_1_1 e_1.2.2.1 ce_1_1_1), (I e_1.2.2.2)])) wn (rv_load (cs := [(I e_1.1), (I e_1.2.1), (Sl ae_1_1_1 e_1.2.2.1 ce_1_1_1), (I e_1.2.2.2)]) Try.underlying43 rfl ti43 e4 rfl hc13) rfl hJ
    refine ⟨?_, ?_⟩
    ·rintro ⟨⟨⟨a11, c12⟩, ⟨b14, ⟨a17, c18⟩⟩⟩, ⟨⟨a23, ⟨c24, b25⟩⟩, ⟨a28, ⟨c29, b30⟩⟩⟩⟩ ρ σm hJ hoff hdep
     have e4 := look_off (N := 31) (hoff 4 rfl) rfl
     obtain ⟨H, m⟩ := id hJ
     have hc13 := H.cells 3 rfl
     exact dp_v (v := (.agg #[(I e_1.1), (I e_1.2.1), (Sl ae_1_1_1 e_1.2.2.1 ce_1_1_1), (I e_1.2.2.2)])) wn (rv_load (cs := [(I e_1.1), (I e_1.2.1), (Sl ae_1_1_1 e_1.2.2.1 ce_1_1_1), (I e_1.2.2.2)]) Try.underlying43 rfl ti43 e4 rfl hc13) rfl hJ
    refine ⟨?_, ?_⟩
    ·rintro ⟨⟨⟨a11, c12⟩, ⟨b14, ⟨a17, c18⟩⟩⟩, ⟨⟨a23, ⟨c24, b25⟩⟩, ⟨a28, ⟨c29, b30⟩⟩⟩⟩ ρ σm hJ hoff hdep
     have e4 := look_off (N := 31) (hoff 4 rfl) rfl
     obtain ⟨H, m⟩ := id hJ
     have hc13 := H.cells 4 rfl
     exact dp_v (v := (.agg #[(I e_1.1), (I e_1.2.1), (Sl ae_1_1_1 e_1.2.2.1 ce_1_1_1), (I e_1.2.2.2)])) wn (rv_load (cs := [(I e_1.1), (I e_1.2.1), (Sl ae_1_1_1 e_1.2.2.1 ce_1_1_1), (I e_1.2.2.2)]) Try.underlying43 rfl ti43 e4 rfl hc13) rfl hJ
    trivial) ?_
  refine all_cons (by
    refine ⟨?_, ?_⟩
    ·rintro ⟨⟨⟨a11, c12⟩, ⟨b14, ⟨a17, c18⟩⟩⟩, ⟨⟨a23, ⟨c24, b25⟩⟩, ⟨a28, ⟨c29, b30⟩⟩⟩⟩ ρ σm hJ hoff hdep
     have e12 : look 31 ρ 12 = (.agg #[(I e_1.1), (I e_1.2.1), (Sl ae_1_1_1 e_1.2.2.1 ce_1_1_1), (I e_1.2.2.2)]) := hdep 3 rfl rfl 12 rfl
     obtain ⟨H, m⟩ := id hJ
     refine dp_ex wn (ex_buildSlice (el := 0) (xs := ([(e_1.1, (e_1.2.1, e_1.2.2.1, e_1.2.2.2))] : List (Int × (Int × (List Int) × Int)))) (ps := [(0, (.agg #[(I e_1.1), (I e_1.2.1), (Sl ae_1_1_1 e_1.2.2.1 ce_1_1_1), (I e_1.2.2.2)]))]) (cs := [(I e_1.1), (I e_1.2.1), (Sl ae_1_1_1 e_1.2.2.1 ce_1_1_1), (I e_1.2.2.2)]) H hn0 Try.underlying23 ti43 rfl (by show [(0, look 31 ρ 12)] = _; rw [e12]) (by kernel_rfl) (.cons (c := [(I e_1.1), (I e_1.2.1), (Sl ae_1_1_1 e_1.2.2.1 ce_1_1_1), (I e_1.2.2.2)]) ⟨[(I e_1.1)], [(I e_1.2.1), (Sl ae_1_1_1 e_1.2.2.1 ce_1_1_1), (I e_1.2.2.2)], rfl, rfl, ⟨[(I e_1.2.1)], [(Sl ae_1_1_1 e_1.2.2.1 ce_1_1_1), (I e_1.2.2.2)], rfl, rfl, ⟨[(Sl ae_1_1_1 e_1.2.2.1 ce_1_1_1)], [(I e_1.2.2.2)], rfl, ⟨_, rfl, (H.ro 5 rfl)⟩, rfl⟩⟩⟩ (.nil)) rfl) ?_
     rintro _ σq ⟨b14x, rfl, H2, m2⟩
     exact ⟨_, (((a11, c12), (b14x, (a17, c18))), ((a23, (c24, b25)), (a28, (c29, b30)))), rfl, rfl, ⟨H2.sel' [0, 1, 2, 3, 4, 5, 6] rfl rfl, m.comp0 m2⟩, stab [0, 1, 2, 3, 6, 7, 9, 10, 13] (by kernel_rfl) ⟨rfl, rfl, rfl, rfl, rfl, rfl, rfl, rfl, rfl, trivial⟩⟩
    refine ⟨?_, ?_⟩
    ·rintro ⟨⟨⟨a11, c12⟩, ⟨b14, ⟨a17, c18⟩⟩⟩, ⟨⟨a23, ⟨c24, b25⟩⟩, ⟨a28, ⟨c29, b30⟩⟩⟩⟩ ρ σm hJ hoff hdep
     have e12 : look 31 ρ 12 = (.agg #[(I e_1.1), (I e_1.2.1), (Sl ae_1_1_1 e_1.2.2.1 ce_1_1_1), (I e_1.2.2.2)]) := hdep 3 rfl rfl 12 rfl
     obtain ⟨H, m⟩ := id hJ
     refine dp_ex wn (ex_buildSlice (el := 0) (xs := ([(e_1.1, (e_1.2.1, e_1.2.2.1, e_1.2.2.2))] : List (Int × (Int × (List Int) × Int)))) (ps := [(0, (.agg #[(I e_1.1), (I e_1.2.1), (Sl ae_1_1_1 e_1.2.2.1 ce_1_1_1), (I e_1.2.2.2)]))]) (cs := [(I e_1.1), (I e_1.2.1), (Sl ae_1_1_1 e_1.2.2.1 ce_1_1_1), (I e_1.2.2.2)]) H hn0 Try.underlying23 ti43 rfl (by show [(0, look 31 ρ 12)] = _; rw [e12]) (by kernel_rfl) (.cons (c := [(I e_1.1), (I e_1.2.1), (Sl ae_1_1_1 e_1.2.2.1 ce_1_1_1), (I e_1.2.2.2)]) ⟨[(I e_1.1)], [(I e_1.2.1), (Sl ae_1_1_1 e_1.2.2.1 ce_1_1_1), (I e_1.2.2.2)], rfl, rfl, ⟨[(I e_1.2.1)], [(Sl ae_1_1_1 e_1.2.2.1 ce_1_1_1), (I e_1.2.2.2)], rfl, rfl, ⟨[(Sl ae_1_1_1 e_1.2.2.1 ce_1_1_1)], [(I e_1.2.2.2)], rfl, ⟨_, rfl, (H.ro 6 rfl)⟩, rfl⟩⟩⟩ (.nil)) rfl) ?_
     rintro _ σq ⟨b14x, rfl, H2, m2⟩
     exact ⟨_, (((a11, c12), (b14x, (a17, c18))), ((a23, (c24, b25)), (a28, (c29, b30)))), rfl, rfl, ⟨H2.sel' [0, 1, 2, 3, 4, 5, 6, 7] rfl rfl, m.comp0 m2⟩, stab [0, 1, 2, 3, 6, 7, 9, 10, 13] (by kernel_rfl) ⟨rfl, rfl, rfl, rfl, rfl, rfl, rfl, rfl, rfl, trivial⟩⟩
    refine ⟨?_, ?_⟩
    ·rintro ⟨⟨⟨a11, c12⟩, ⟨b14, ⟨a17, c18⟩⟩⟩, ⟨⟨a23, ⟨c24, b25⟩⟩, ⟨a28, ⟨c29, b30⟩⟩⟩⟩ ρ σm hJ hoff hdep
     have e12 : look 31 ρ 12 = (.agg #[(I e_1.1), (I e_1.2.1), (Sl ae_1_1_1 e_1.2.2.1 ce_1_1_1), (I e_1.2.2.2)]) := hdep 3 rfl rfl 12 rfl
     obtain ⟨H, m⟩ := id hJ
     refine dp_ex wn (ex_buildSlice (el := 0) (xs := ([(e_1.1, (e_1.2.1, e_1.2.2.1, e_1.2.2.2))] : List (Int × (Int × (List Int) × Int)))) (ps := [(0, (.agg #[(I e_1.1), (I e_1.2.1), (Sl ae_1_1_1 e_1.2.2.1 ce_1_1_1), (I e_1.2.2.2)]))]) (cs := [(I e_1.1), (I e_1.2.1), (Sl ae_1_1_1 e_1.2.2.1 ce_1_1_1), (I e_1.2.2.2)]) H hn0 Try.underlying23 ti43 rfl (by show [(0, look 31 ρ 12)] = _; rw [e12]) (by kernel_rfl) (.cons (c := [(I e_1.1), (I e_1.2.1), (Sl ae_1_1_1 e_1.2.2.1 ce_1_1_1), (I e_1.2.2.2)]) ⟨[(I e_1.1)], [(I e_1.2.1), (Sl ae_1_1_1 e_1.2.2.1 ce_1_1_1), (I e_1.2.2.2)], rfl, rfl, ⟨[(I e_1.2.1)], [(Sl ae_1_1_1 e_1.2.2.1 ce_1_1_1), (I e_1.2.2.2)], rfl, rfl, ⟨[(Sl ae_1_1_1 e_1.2.2.1 ce_1_1_1)], [(I e_1.2.2.2)], rfl, ⟨_, rfl, (H.ro 6 rfl)⟩, rfl⟩⟩⟩ (.nil)) rfl) ?_
     rintro _ σq ⟨b14x, rfl, H2, m2⟩
     exact ⟨_, (((a11, c12), (b14x, (a17, c18))), ((a23, (c24, b25)), (a28, (c29, b30)))), rfl, rfl, ⟨H2.sel' [1, 0, 2, 3, 4, 5, 6, 7] rfl rfl, m.comp0 m2⟩, stab [0, 1, 2, 3, 6, 7, 9, 10, 13] (by kernel_rfl) ⟨rfl, rfl, rfl, rfl, rfl, rfl, rfl, rfl, rfl, trivial⟩⟩
    refine ⟨?_, ?_⟩
    ·rintro ⟨⟨⟨a11, c12⟩, ⟨b14, ⟨a17, c18⟩⟩⟩, ⟨⟨a23, ⟨c24, b25⟩⟩, ⟨a28, ⟨c29, b30⟩⟩⟩⟩ ρ σm hJ hoff hdep
     have e12 : look 31 ρ 12 = (.agg #[(I e_1.1), (I e_1.2.1), (Sl ae_1_1_1 e_1.2.2.1 ce_1_1_1), (I e_1.2.2.2)]) := hdep 3 rfl rfl 12 rfl
     obtain ⟨H, m⟩ := id hJ
     refine dp_ex wn (ex_buildSlice (el := 0) (xs := ([(e_1.1, (e_1.2.1, e_1.2.2.1, e_1.2.2.2))] : List (Int × (Int × (List Int) × Int)))) (ps := [(0, (.agg #[(I e_1.1), (I e_1.2.1), (Sl ae_1_1_1 e_1.2.2.1 ce_1_1_1), (I e_1.2.2.2)]))]) (cs := [(I e_1.1), (I e_1.2.1), (Sl ae_1_1_1 e_1.2.2.1 ce_1_1_1), (I e_1.2.2.2)]) H hn0 Try.underlying23 ti43 rfl (by show [(0, look 31 ρ 12)] = _; rw [e12]) (by kernel_rfl) (.cons (c := [(I e_1.1), (I e_1.2.1), (Sl ae_1_1_1 e_1.2.2.1 ce_1_1_1), (I e_1.2.2.2)]) ⟨[(I e_1.1)], [(I e_1.2.1), (Sl ae_1_1_1 e_1.2.2.1 ce_1_1_1), (I e_1.2.2.2)], rfl, rfl, ⟨[(I e_1.2.1)], [(Sl ae_1_1_1 e_1.2.2.1 ce_1_1_1), (I e_1.2.2.2)], rfl, rfl, ⟨[(Sl ae_1_1_1 e_1.2.2.1 ce_1_1_1)], [(I e_1.2.2.2)], rfl, ⟨_, rfl, (H.ro 6 rfl)⟩, rfl⟩⟩⟩ (.nil)) rfl) ?_
     rintro _ σq ⟨b14x, rfl, H2, m2⟩
     exact ⟨_, (((a11, c12), (b14x, (a17, c18))), ((a23, (c24, b25)), (a28, (c29, b30)))), rfl, rfl, ⟨H2.sel' [1, 0, 2, 3, 4, 5, 6, 7] rfl rfl, m.comp0 m2⟩, stab [0, 1, 2, 3, 6, 7, 9, 10, 13] (by kernel_rfl) ⟨rfl, rfl, rfl, rfl, rfl, rfl, rfl, rfl, rfl, trivial⟩⟩
    refine ⟨?_, ?_⟩
    ·rintro ⟨⟨⟨a11, c12⟩, ⟨b14, ⟨a17, c18⟩⟩⟩, ⟨⟨a23, ⟨c24, b25⟩⟩, ⟨a28, ⟨c29, b30⟩⟩⟩⟩ ρ σm hJ hoff hdep
     have e12 : look 31 ρ 12 = (.agg #[(I e_1.1), (I e_1.2.1), (Sl ae_1_1_1 e_1.2.2.1 ce_1_1_1), (I e_1.2.2.2)]) := hdep 3 rfl rfl 12 rfl
     obtain ⟨H, m⟩ := id hJ
     refine dp_ex wn (ex_buildSlice (el := 0) (xs := ([(e_1.1, (e_1.2.1, e_1.2.2.1, e_1.2.2.2))] : List (Int × (Int × (List Int) × Int)))) (ps := [(0, (.agg #[(I e_1.1), (I e_1.2.1), (Sl ae_1_1_1 e_1.2.2.1 ce_1_1_1), (I e_1.2.2.2)]))]) (cs := [(I e_1.1), (I e_1.2.1), (Sl ae_1_1_1 e_1.2.2.1 ce_1_1_1), (I e_1.2.2.2)]) H hn0 Try.underlying23 ti43 rfl (by show [(0, look 31 ρ 12)] = _; rw [e12]) (by kernel_rfl) (.cons (c := [(I e_1.1), (I e_1.2.1), (Sl ae_1_1_1 e_1.2.2.1 ce_1_1_1), (I e_1.2.2.2)]) ⟨[(I e_1.1)], [(I e_1.2.1), (Sl ae_1_1_1 e_1.2.2.1 ce_1_1_1), (I e_1.2.2.2)], rfl, rfl, ⟨[(I e_1.2.1)], [(Sl ae_1_1_1 e_1.2.2.1 ce_1_1_1), (I e_1.2.2.2)], rfl, rfl, ⟨[(Sl ae_1_1_1 e_1.2.2.1 ce_1_1_1)], [(I e_1.2.2.2)], rfl, ⟨_, rfl, (H.ro 7 rfl)⟩, rfl⟩⟩⟩ (.nil)) rfl) ?_
     rintro _ σq ⟨b14x, rfl, H2, m2⟩
     exact ⟨_, (((a11, c12), (b14x, (a17, c18))), ((a23, (c24, b25)), (a28, (c29, b30)))), rfl, rfl, ⟨H2.sel' [1, 0, 2, 3, 4, 5, 6, 7, 8] rfl rfl, m.comp0 m2⟩, stab [0, 1, 2, 3, 6, 7, 9, 10, 13] (by kernel_rfl) ⟨rfl, rfl, rfl, rfl, rfl, rfl, rfl, rfl, rfl, trivial⟩⟩
    refine ⟨?_, ?_⟩
    ·rintro ⟨⟨⟨a11, c12⟩, ⟨b14, ⟨a17, c18⟩⟩⟩, ⟨⟨a23, ⟨c24, b25⟩⟩, ⟨a28, ⟨c29, b30⟩⟩⟩⟩ ρ σm hJ hoff hdep
     have e12 : look 31 ρ 12 = (.agg #[(I e_1.1), (I e_1.2.1), (Sl ae_1_1_1 e_1.2.2.1 ce_1_1_1), (I e_1.2.2.2)]) := hdep 3 rfl rfl 12 rfl
     obtain ⟨H, m⟩ := id hJ
     refine dp_ex wn (ex_buildSlice (el := 0) (xs := ([(e_1.1, (e_1.2.1, e_1.2.2.1, e_1.2.2.2))] : List (Int × (Int × (List Int) × Int)))) (ps := [(0, (.agg #[(I e_1.1), (I e_1.2.1), (Sl ae_1_1_1 e_1.2.2.1 ce_1_1_1), (I e_1.2.2.2)]))]) (cs := [(I e_1.1), (I e_1.2.1), (Sl ae_1_1_1 e_1.2.2.1 ce_1_1_1), (I e_1.2.2.2)]) H hn0 Try.underlying23 ti43 rfl (by show [(0, look 31 ρ 12)] = _; rw [e12]) (by kernel_rfl) (.cons (c := [(I e_1.1), (I e_1.2.1), (Sl ae_1_1_1 e_1.2.2.1 ce_1_1_1), (I e_1.2.2.2)]) ⟨[(I e_1.1)], [(I e_1.2.1), (Sl ae_1_1_1 e_1.2.2.1 ce_1_1_1), (I e_1.2.2.2)], rfl, rfl, ⟨[(I e_1.2.1)], [(Sl ae_1_1_1 e_1.2.2.1 ce_1_1_1), (I e_1.2.2.2)], rfl, rfl, ⟨[(Sl ae_1_1_1 e_1.2.2.1 ce_1_1_1)], [(I e_1.2.2.2)], rfl, ⟨_, rfl, (H.ro 7 rfl)⟩, rfl⟩⟩⟩ (.nil)) rfl) ?_
     rintro _ σq ⟨b14x, rfl, H2, m2⟩
     exact ⟨_, (((a11, c12), (b14x, (a17, c18))), ((a23, (c24, b25)), (a28, (c29, b30)))), rfl, rfl, ⟨H2.sel' [1, 0, 2, 3, 4, 5, 6, 7, 8] rfl rfl, m.comp0 m2⟩, stab [0, 1, 2, 3, 6, 7, 9, 10, 13] (by kernel_rfl) ⟨rfl, rfl, rfl, rfl, rfl, rfl, rfl, rfl, rfl, trivial⟩⟩
    refine ⟨?_, ?_⟩
    ·rintro ⟨⟨⟨a11, c12⟩, ⟨b14, ⟨a17, c18⟩⟩⟩, ⟨⟨a23, ⟨c24, b25⟩⟩, ⟨a28, ⟨c29, b30⟩⟩⟩⟩ ρ σm hJ hoff hdep
     have e12 : look 31 ρ 12 = (.agg #[(I e_1.1), (I e_1.2.1), (Sl ae_1_1_1 e_1.2.2.1 ce_1_1_1), (I e_1.2.2.2)]) := hdep 3 rfl rfl 12 rfl
     obtain ⟨H, m⟩ := id hJ
     refine dp_ex wn (ex_buildSlice (el := 0) (xs := ([(e_1.1, (e_1.2.1, e_1.2.2.1, e_1.2.2.2))] : List (Int × (Int × (List Int) × Int)))) (ps := [(0, (.agg #[(I e_1.1), (I e_1.2.1), (Sl ae_1_1_1 e_1.2.2.1 ce_1_1_1), (I e_1.2.2.2)]))]) (cs := [(I e_1.1), (I e_1.2.1), (Sl ae_1_1_1 e_1.2.2.1 ce_1_1_1), (I e_1.2.2.2)]) H hn0 Try.underlying23 ti43 rfl (by show [(0, look 31 ρ 12)] = _; rw [e12]) (by kernel_rfl) (.cons (c := [(I e_1.1), (I e_1.2.1), (Sl ae_1_1_1 e_1.2.2.1 ce_1_1_1), (I e_1.2.2.2)]) ⟨[(I e_1.1)], [(I e_1.2.1), (Sl ae_1_1_1 e_1.2.2.1 ce_1_1_1), (I e_1.2.2.2)], rfl, rfl, ⟨[(I e_1.2.1)], [(Sl ae_1_1_1 e_1.2.2.1 ce_1_1_1), (I e_1.2.2.2)], rfl, rfl, ⟨[(Sl ae_1_1_1 e_1.2.2.1 ce_1_1_1)], [(I e_1.2.2.2)], rfl, ⟨_, rfl, (H.ro 7 rfl)⟩, rfl⟩⟩⟩ (.nil)) rfl) ?_
     rintro _ σq ⟨b14x, rfl, H2, m2⟩
     exact ⟨_, (((a11, c12), (b14x, (a17, c18))), ((a23, (c24, b25)), (a28, (c29, b30)))), rfl, rfl, ⟨H2.sel' [1, 2, 0, 3, 4, 5, 6, 7, 8] rfl rfl, m.comp0 m2⟩, stab [0, 1, 2, 3, 6, 7, 9, 10, 13] (by kernel_rfl) ⟨rfl, rfl, rfl, rfl, rfl, rfl, rfl, rfl, rfl, trivial⟩⟩
    refine ⟨?_, ?_⟩
    ·rintro ⟨⟨⟨a11, c12⟩, ⟨b14, ⟨a17, c18⟩⟩⟩, ⟨⟨a23, ⟨c24, b25⟩⟩, ⟨a28, ⟨c29, b30⟩⟩⟩⟩ ρ σm hJ hoff hdep
     have e12 : look 31 ρ 12 = (.agg #[(I e_1.1), (I e_1.2.1), (Sl ae_1_1_1 e_1.2.2.1 ce_1_1_1), (I e_1.2.2.2)]) := hdep 3 rfl rfl 12 rfl
     obtain ⟨H, m⟩ := id hJ
     refine dp_ex wn (ex_buildSlice (el := 0) (xs := ([(e_1.1, (e_1.2.1, e_1.2.2.1, e_1.2.2.2))] : List (Int × (Int × (List Int) × Int)))) (ps := [(0, (.agg #[(I e_1.1), (I e_1.2.1), (Sl ae_1_1_1 e_1.2.2.1 ce_1_1_1), (I e_1.2.2.2)]))]) (cs := [(I e_1.1), (I e_1.2.1), (Sl ae_1_1_1 e_1.2.2.1 ce_1_1_1), (I e_1.2.2.2)]) H hn0 Try.underlying23 ti43 rfl (by show [(0, look 31 ρ 12)] = _; rw [e12]) (by kernel_rfl) (.cons (c := [(I e_1.1), (I e_1.2.1), (Sl ae_1_1_1 e_1.2.2.1 ce_1_1_1), (I e_1.2.2.2)]) ⟨[(I e_1.1)], [(I e_1.2.1), (Sl ae_1_1_1 e_1.2.2.1 ce_1_1_1), (I e_1.2.2.2)], rfl, rfl, ⟨[(I e_1.2.1)], [(Sl ae_1_1_1 e_1.2.2.1 ce_1_1_1), (I e_1.2.2.2)], rfl, rfl, ⟨[(Sl ae_1_1_1 e_1.2.2.1 ce_1_1_1)], [(I e_1.2.2.2)], rfl, ⟨_, rfl, (H.ro 8 rfl)⟩, rfl⟩⟩⟩ (.nil)) rfl) ?_
     rintro _ σq ⟨b14x, rfl, H2, m2⟩
     exact ⟨_, (((a11, c12), (b14x, (a17, c18))), ((a23, (c24, b25)), (a28, (c29, b30)))), rfl, rfl, ⟨H2.sel' [1, 2, 0, 3, 4, 5, 6, 7, 8, 9] rfl rfl, m.comp0 m2⟩, stab [0, 1, 2, 3, 6, 7, 9, 10, 13] (by kernel_rfl) ⟨rfl, rfl, rfl, rfl, rfl, rfl, rfl, rfl, rfl, trivial⟩⟩
    trivial) ?_
  refine all_cons (by
    refine ⟨?_, ?_⟩
    ·rintro ⟨⟨⟨a11, c12⟩, ⟨b14, ⟨a17, c18⟩⟩⟩, ⟨⟨a23, ⟨c24, b25⟩⟩, ⟨a28, ⟨c29, b30⟩⟩⟩⟩ ρ σm hJ hoff hdep
     have e11 := hdep 2 rfl rfl 11 rfl
     have e13 := hdep 4 rfl rfl 13 rfl
     obtain ⟨H, m⟩ := id hJ
     refine dp_ex wn (ex_append H (i := 1) rfl Try.underlying23 Try.underlying23 ti43 rfl rfl (by decide) (H.own 0 rfl).rd hx16 hn0 e11 e13) ?_
     rintro _ σq ⟨a17x, c18x, rfl, H2, m2⟩
     exact ⟨_, (((a11, c12), (b14, (a17x, c18x))), ((a23, (c24, b25)), (a28, (c29, b30)))), rfl, rfl, ⟨H2.sel' [0, 1, 2, 3, 4, 5, 6, 7] rfl rfl, m.comp m2⟩, stab [0, 1, 2, 3, 4, 6, 7, 9, 10, 13] (by kernel_rfl) ⟨rfl, rfl, rfl, rfl, rfl, rfl, rfl, rfl, rfl, rfl, trivial⟩⟩
    refine ⟨?_, ?_⟩
    ·rintro ⟨⟨⟨a11, c12⟩, ⟨b14, ⟨a17, c18⟩⟩⟩, ⟨⟨a23, ⟨c24, b25⟩⟩, ⟨a28, ⟨c29, b30⟩⟩⟩⟩ ρ σm hJ hoff hdep
     have e11 := hdep 2 rfl rfl 11 rfl
     have e13 := hdep 4 rfl rfl 13 rfl
     obtain ⟨H, m⟩ := id hJ
     refine dp_ex wn (ex_append H (i := 2) rfl Try.underlying23 Try.underlying23 ti43 rfl rfl (by decide) (H.own 1 rfl).rd hx16 hn0 e11 e13) ?_
     rintro _ σq ⟨a17x, c18x, rfl, H2, m2⟩
     exact ⟨_, (((a11, c12), (b14, (a17x, c18x))), ((a23, (c24, b25)), (a28, (c29, b30)))), rfl, rfl, ⟨H2.sel' [1, 0, 2, 3, 4, 5, 6, 7, 8] rfl rfl, m.comp m2⟩, stab [0, 1, 2, 3, 4, 6, 7, 9, 10, 13] (by kernel_rfl) ⟨rfl, rfl, rfl, rfl, rfl, rfl, rfl, rfl, rfl, rfl, trivial⟩⟩
    refine ⟨?_, ?_⟩
    ·rintro ⟨⟨⟨a11, c12⟩, ⟨b14, ⟨a17, c18⟩⟩⟩, ⟨⟨a23, ⟨c24, b25⟩⟩, ⟨a28, ⟨c29, b30⟩⟩⟩⟩ ρ σm hJ hoff hdep
     have e11 := hdep 2 rfl rfl 11 rfl
     have e13 := hdep 4 rfl rfl 13 rfl
     obtain ⟨H, m⟩ := id hJ
     refine dp_ex wn (ex_append H (i := 2) rfl Try.underlying23 Try.underlying23 ti43 rfl rfl (by decide) (H.own 1 rfl).rd hx16 hn0 e11 e13) ?_
     rintro _ σq ⟨a17x, c18x, rfl, H2, m2⟩
     exact ⟨_, (((a11, c12), (b14, (a17x, c18x))), ((a23, (c24, b25)), (a28, (c29, b30)))), rfl, rfl, ⟨H2.sel' [1, 0, 2, 3, 4, 5, 6, 7, 8] rfl rfl, m.comp m2⟩, stab [0, 1, 2, 3, 4, 6, 7, 9, 10, 13] (by kernel_rfl) ⟨rfl, rfl, rfl, rfl, rfl, rfl, rfl, rfl, rfl, rfl, trivial⟩⟩
    refine ⟨?_, ?_⟩
    ·rintro ⟨⟨⟨a11, c12⟩, ⟨b14, ⟨a17, c18⟩⟩⟩, ⟨⟨a23, ⟨c24, b25⟩⟩, ⟨a28, ⟨c29, b30⟩⟩⟩⟩ ρ σm hJ hoff hdep
     have e11 := hdep 2 rfl rfl 11 rfl
     have e13 := hdep 4 rfl rfl 13 rfl
     obtain ⟨H, m⟩ := id hJ
     refine dp_ex wn (ex_append H (i := 3) rfl Try.underlying23 Try.underlying23 ti43 rfl rfl (by decide) (H.own 2 rfl).rd hx16 hn0 e11 e13) ?_
     rintro _ σq ⟨a17x, c18x, rfl, H2, m2⟩
     exact ⟨_, (((a11, c12), (b14, (a17x, c18x))), ((a23, (c24, b25)), (a28, (c29, b30)))), rfl, rfl, ⟨H2.sel' [1, 2, 0, 3, 4, 5, 6, 7, 8, 9] rfl rfl, m.comp m2⟩, stab [0, 1, 2, 3, 4, 6, 7, 9, 10, 13] (by kernel_rfl) ⟨rfl, rfl, rfl, rfl, rfl, rfl, rfl, rfl, rfl, rfl, trivial⟩⟩
    trivial) ?_
  refine ac rfl (by
    intro k; rintro ⟨⟨⟨a11, c12⟩, ⟨b14, ⟨a17, c18⟩⟩⟩, ⟨⟨a23, ⟨c24, b25⟩⟩, ⟨a28, ⟨c29, b30⟩⟩⟩⟩ ρ σm hJ hoff hdep
    have e3 := look_off (N := 31) (hoff 3 rfl) rfl
    exact dp_v (v := (pt b1 1)) wn (rv_fieldAddr (off := 1) (ft := 24) Try.underlying26 rfl ti24 rfl e3) rfl hJ) ?_
  refine all_cons (by
    refine ⟨?_, ?_⟩
    ·rintro ⟨⟨⟨a11, c12⟩, ⟨b14, ⟨a17, c18⟩⟩⟩, ⟨⟨a23, ⟨c24, b25⟩⟩, ⟨a28, ⟨c29, b30⟩⟩⟩⟩ ρ σm hJ hoff hdep
     have e15 := hdep 6 rfl rfl 15 rfl
     obtain ⟨H, m⟩ := id hJ
     have hc19 := H.cell (u := (Sl ah_0_1 h_0.2 ch_0_1)) (o' := 1) 2 1 rfl rfl rfl
     exact dp_v (v := (Sl ah_0_1 h_0.2 ch_0_1)) wn (rv_load1 Try.underlying24 rfl e15 hc19) rfl hJ
    refine ⟨?_, ?_⟩
    ·rintro ⟨⟨⟨a11, c12⟩, ⟨b14, ⟨a17, c18⟩⟩⟩, ⟨⟨a23, ⟨c24, b25⟩⟩, ⟨a28, ⟨c29, b30⟩⟩⟩⟩ ρ σm hJ hoff hdep
     have e15 := hdep 6 rfl rfl 15 rfl
     obtain ⟨H, m⟩ := id hJ
     have hc19 := H.cell (u := (Sl ah_0_1 h_0.2 ch_0_1)) (o' := 1) 3 1 rfl rfl rfl
     exact dp_v (v := (Sl ah_0_1 h_0.2 ch_0_1)) wn (rv_load1 Try.underlying24 rfl e15 hc19) rfl hJ
    refine ⟨?_, ?_⟩
    ·rintro ⟨⟨⟨a11, c12⟩, ⟨b14, ⟨a17, c18⟩⟩⟩, ⟨⟨a23, ⟨c24, b25⟩⟩, ⟨a28, ⟨c29, b30⟩⟩⟩⟩ ρ σm hJ hoff hdep
     have e15 := hdep 6 rfl rfl 15 rfl
     obtain ⟨H, m⟩ := id hJ
     have hc19 := H.cell (u := (Sl ah_0_1 h_0.2 ch_0_1)) (o' := 1) 3 1 rfl rfl rfl
     exact dp_v (v := (Sl ah_0_1 h_0.2 ch_0_1)) wn (rv_load1 Try.underlying24 rfl e15 hc19) rfl hJ
    refine ⟨?_, ?_⟩
    ·rintro ⟨⟨⟨a11, c12⟩, ⟨b14, ⟨a17, c18⟩⟩⟩, ⟨⟨a23, ⟨c24, b25⟩⟩, ⟨a28, ⟨c29, b30⟩⟩⟩⟩ ρ σm hJ hoff hdep
     have e15 := hdep 6 rfl rfl 15 rfl
     obtain ⟨H, m⟩ := id hJ
     have hc19 := H.cell (u := (Sl ah_0_1 h_0.2 ch_0_1)) (o' := 1) 3 1 rfl rfl rfl
     exact dp_v (v := (Sl ah_0_1 h_0.2 ch_0_1)) wn (rv_load1 Try.underlying24 rfl e15 hc19) rfl hJ
    refine ⟨?_, ?_⟩
    ·rintro ⟨⟨⟨a11, c12⟩, ⟨b14, ⟨a17, c18⟩⟩⟩, ⟨⟨a23, ⟨c24, b25⟩⟩, ⟨a28, ⟨c29, b30⟩⟩⟩⟩ ρ σm hJ hoff hdep
     have e15 := hdep 6 rfl rfl 15 rfl
     obtain ⟨H, m⟩ := id hJ
     have hc19 := H.cell (u := (Sl ah_0_1 h_0.2 ch_0_1)) (o' := 1) 3 1 rfl rfl rfl
     exact dp_v (v := (Sl ah_0_1 h_0.2 ch_0_1)) wn (rv_load1 Try.underlying24 rfl e15 hc19) rfl hJ
    refine ⟨?_, ?_⟩
    ·rintro ⟨⟨⟨a11, c12⟩, ⟨b14, ⟨a17, c18⟩⟩⟩, ⟨⟨a23, ⟨c24, b25⟩⟩, ⟨a28, ⟨c29, b30⟩⟩⟩⟩ ρ σm hJ hoff hdep
     have e15 := hdep 6 rfl rfl 15 rfl
     obtain ⟨H, m⟩ := id hJ
     have hc19 := H.cell (u := (Sl ah_0_1 h_0.2 ch_0_1)) (o' := 1) 4 1 rfl rfl rfl
     exact dp_v (v := (Sl ah_0_1 h_0.2 ch_0_1)) wn (rv_load1 Try.underlying24 rfl e15 hc19) rfl hJ
    refine ⟨?_, ?_⟩
    ·rintro ⟨⟨⟨a11, c12⟩, ⟨b14, ⟨a17, c18⟩⟩⟩, ⟨⟨a23, ⟨c24, b25⟩⟩, ⟨a28, ⟨c29, b30⟩⟩⟩⟩ ρ σm hJ hoff hdep
     have e15 := hdep 6 rfl rfl 15 rfl
     obtain ⟨H, m⟩ := id hJ
     have hc19 := H.cell (u := (Sl ah_0_1 h_0.2 ch_0_1)) (o' := 1) 4 1 rfl rfl rfl
     exact dp_v (v := (Sl ah_0_1 h_0.2 ch_0_1)) wn (rv_load1 Try.underlying24 rfl e15 hc19) rfl hJ
    refine ⟨?_, ?_⟩
    ·rintro ⟨⟨⟨a11, c12⟩, ⟨b14, ⟨a17, c18⟩⟩⟩, ⟨⟨a23, ⟨c24, b25⟩⟩, ⟨a28, ⟨c29, b30⟩⟩⟩⟩ ρ σm hJ hoff hdep
     have e15 := hdep 6 rfl rfl 15 rfl
     obtain ⟨H, m⟩ := id hJ
     have hc19 := H.cell (u := (Sl ah_0_1 h_0.2 ch_0_1)) (o' := 1) 4 1 rfl rfl rfl
     exact dp_v (v := (Sl ah_0_1 h_0.2 ch_0_1)) wn (rv_load1 Try.underlying24 rfl e15 hc19) rfl hJ
    refine ⟨?_, ?_⟩
    ·rintro ⟨⟨⟨a11, c12⟩, ⟨b14, ⟨a17, c18⟩⟩⟩, ⟨⟨a23, ⟨c24, b25⟩⟩, ⟨a28, ⟨c29, b30⟩⟩⟩⟩ ρ σm hJ hoff hdep
     have e15 := hdep 6 rfl rfl 15 rfl
     obtain ⟨H, m⟩ := id hJ
     have hc19 := H.cell (u := (Sl ah_0_1 h_0.2 ch_0_1)) (o' := 1) 4 1 rfl rfl rfl
     exact dp_v (v := (Sl ah_0_1 h_0.2 ch_0_1)) wn (rv_load1 Try.underlying24 rfl e15 hc19) rfl hJ
    refine ⟨?_, ?_⟩
    ·rintro ⟨⟨⟨a11, c12⟩, ⟨b14, ⟨a17, c18⟩⟩⟩, ⟨⟨a23, ⟨c24, b25⟩⟩, ⟨a28, ⟨c29, b30⟩⟩⟩⟩ ρ σm hJ hoff hdep
     have e15 := hdep 6 rfl rfl 15 rfl
     obtain ⟨H, m⟩ := id hJ
     have hc19 := H.cell (u := (Sl ah_0_1 h_0.2 ch_0_1)) (o' := 1) 4 1 rfl rfl rfl
     exact dp_v (v := (Sl ah_0_1 h_0.2 ch_0_1)) wn (rv_load1 Try.underlying24 rfl e15 hc19) rfl hJ
    refine ⟨?_, ?_⟩
    ·rintro ⟨⟨⟨a11, c12⟩, ⟨b14, ⟨a17, c18⟩⟩⟩, ⟨⟨a23, ⟨c24, b25⟩⟩, ⟨a28, ⟨c29, b30⟩⟩⟩⟩ ρ σm hJ hoff hdep
     have e15 := hdep 6 rfl rfl 15 rfl
     obtain ⟨H, m⟩ := id hJ
     have hc19 := H.cell (u := (Sl ah_0_1 h_0.2 ch_0_1)) (o' := 1) 4 1 rfl rfl rfl
     exact dp_v (v := (Sl ah_0_1 h_0.2 ch_0_1)) wn (rv_load1 Try.underlying24 rfl e15 hc19) rfl hJ
    refine ⟨?_, ?_⟩
    ·rintro ⟨⟨⟨a11, c12⟩, ⟨b14, ⟨a17, c18⟩⟩⟩, ⟨⟨a23, ⟨c24, b25⟩⟩, ⟨a28, ⟨c29, b30⟩⟩⟩⟩ ρ σm hJ hoff hdep
     have e15 := hdep 6 rfl rfl 15 rfl
     obtain ⟨H, m⟩ := id hJ
     have hc19 := H.cell (u := (Sl ah_0_1 h_0.2 ch_0_1)) (o' := 1) 4 1 rfl rfl rfl
     exact dp_v (v := (Sl ah_0_1 h_0.2 ch_0_1)) wn (rv_load1 Try.underlying24 rfl e15 hc19) rfl hJ
    refine ⟨?_, ?_⟩
    ·rintro ⟨⟨⟨a11, c12⟩, ⟨b14, ⟨a17, c18⟩⟩⟩, ⟨⟨a23, ⟨c24, b25⟩⟩, ⟨a28, ⟨c29, b30⟩⟩⟩⟩ ρ σm hJ hoff hdep
     have e15 := hdep 6 rfl rfl 15 rfl
     obtain ⟨H, m⟩ := id hJ
     have hc19 := H.cell (u := (Sl ah_0_1 h_0.2 ch_0_1)) (o' := 1) 5 1 rfl rfl rfl
     exact dp_v (v := (Sl ah_0_1 h_0.2 ch_0_1)) wn (rv_load1 Try.underlying24 rfl e15 hc19) rfl hJ
    refine ⟨?_, ?_⟩
    ·rintro ⟨⟨⟨a11, c12⟩, ⟨b14, ⟨a17, c18⟩⟩⟩, ⟨⟨a23, ⟨c24, b25⟩⟩, ⟨a28, ⟨c29, b30⟩⟩⟩⟩ ρ σm hJ hoff hdep
     have e15 := hdep 6 rfl rfl 15 rfl
     obtain ⟨H, m⟩ := id hJ
     have hc19 := H.cell (u := (Sl ah_0_1 h_0.2 ch_0_1)) (o' := 1) 5 1 rfl rfl rfl
     exact dp_v (v := (Sl ah_0_1 h_0.2 ch_0_1)) wn (rv_load1 Try.underlying24 rfl e15 hc19) rfl hJ
    refine ⟨?_, ?_⟩
    ·rintro ⟨⟨⟨a11, c12⟩, ⟨b14, ⟨a17, c18⟩⟩⟩, ⟨⟨a23, ⟨c24, b25⟩⟩, ⟨a28, ⟨c29, b30⟩⟩⟩⟩ ρ σm hJ hoff hdep
     have e15 := hdep 6 rfl rfl 15 rfl
     obtain ⟨H, m⟩ := id hJ
     have hc19 := H.cell (u := (Sl ah_0_1 h_0.2 ch_0_1)) (o' := 1) 5 1 rfl rfl rfl
     exact dp_v (v := (Sl ah_0_1 h_0.2 ch_0_1)) wn (rv_load1 Try.underlying24 rfl e15 hc19) rfl hJ
    refine ⟨?_, ?_⟩
    ·rintro ⟨⟨⟨a11, c12⟩, ⟨b14, ⟨a17, c18⟩⟩⟩, ⟨⟨a23, ⟨c24, b25⟩⟩, ⟨a28, ⟨c29, b30⟩⟩⟩⟩ ρ σm hJ hoff hdep
     have e15 := hdep 6 rfl rfl 15 rfl
     obtain ⟨H, m⟩ := id hJ
     have hc19 := H.cell (u := (Sl ah_0_1 h_0.2 ch_0_1)) (o' := 1) 5 1 rfl rfl rfl
     exact dp_v (v := (Sl ah_0_1 h_0.2 ch_0_1)) wn (rv_load1 Try.underlying24 rfl e15 hc19) rfl hJ
    refine ⟨?_, ?_⟩
    ·rintro ⟨⟨⟨a11, c12⟩, ⟨b14, ⟨a17, c18⟩⟩⟩, ⟨⟨a23, ⟨c24, b25⟩⟩, ⟨a28, ⟨c29, b30⟩⟩⟩⟩ ρ σm hJ hoff hdep
     have e15 := hdep 6 rfl rfl 15 rfl
     obtain ⟨H, m⟩ := id hJ
     have hc19 := H.cell (u := (Sl ah_0_1 h_0.2 ch_0_1)) (o' := 1) 5 1 rfl rfl rfl
     exact dp_v (v := (Sl ah_0_1 h_0.2 ch_0_1)) wn (rv_load1 Try.underlying24 rfl e15 hc19) rfl hJ
    refine ⟨?_, ?_⟩
    ·rintro ⟨⟨⟨a11, c12⟩, ⟨b14, ⟨a17, c18⟩⟩⟩, ⟨⟨a23, ⟨c24, b25⟩⟩, ⟨a28, ⟨c29, b30⟩⟩⟩⟩ ρ σm hJ hoff hdep
     have e15 := hdep 6 rfl rfl 15 rfl
     obtain ⟨H, m⟩ := id hJ
     have hc19 := H.cell (u := (Sl ah_0_1 h_0.2 ch_0_1)) (o' := 1) 5 1 rfl rfl rfl
     exact dp_v (v := (Sl ah_0_1 h_0.2 ch_0_1)) wn (rv_load1 Try.underlying24 rfl e15 hc19) rfl hJ
    refine ⟨?_, ?_⟩
    ·rintro ⟨⟨⟨a11, c12⟩, ⟨b14, ⟨a17, c18⟩⟩⟩, ⟨⟨a23, ⟨c24, b25⟩⟩, ⟨a28, ⟨c29, b30⟩⟩⟩⟩ ρ σm hJ hoff hdep
     have e15 := hdep 6 rfl rfl 15 rfl
     obtain ⟨H, m⟩ := id hJ
     have hc19 := H.cell (u := (Sl ah_0_1 h_0.2 ch_0_1)) (o' := 1) 6 1 rfl rfl rfl
     exact dp_v (v := (Sl ah_0_1 h_0.2 ch_0_1)) wn (rv_load1 Try.underlying24 rfl e15 hc19) rfl hJ
    refine ⟨?_, ?_⟩
    ·rintro ⟨⟨⟨a11, c12⟩, ⟨b14, ⟨a17, c18⟩⟩⟩, ⟨⟨a23, ⟨c24, b25⟩⟩, ⟨a28, ⟨c29, b30⟩⟩⟩⟩ ρ σm hJ hoff hdep
     have e15 := hdep 6 rfl rfl 15 rfl
     obtain ⟨H, m⟩ := id hJ
     have hc19 := H.cell (u := (Sl ah_0_1 h_0.2 ch_0_1)) (o' := 1) 6 1 rfl rfl rfl
     exact dp_v (v := (Sl ah_0_1 h_0.2 ch_0_1)) wn (rv_load1 Try.underlying24 rfl e15 hc19) rfl hJ
    trivial) ?_
  refine all_cons (by
    refine ⟨?_, ?_⟩
    ·rintro ⟨⟨⟨a11, c12⟩, ⟨b14, ⟨a17, c18⟩⟩⟩, ⟨⟨a23, ⟨c24, b25⟩⟩, ⟨a28, ⟨c29, b30⟩⟩⟩⟩ ρ σm hJ hoff hdep
     have e16 : look 31 ρ 16 = (Sl ah_0_1 h_0.2 ch_0_1) := hdep 7 rfl rfl 16 rfl
     obtain ⟨H, m⟩ := id hJ
     refine dp_cx wn (cx_call hc22 (ent_f hc22.fn (by show [look 31 ρ 16] = _; rw [e16])) hn0 (show Hp S0 σ0 _ ([Ch.ro 0 (Sl ah_0_1 h_0.2 ch_0_1) h_0.2] ++ [Ch.own n0 0 (Sl a17 xs15 c18) xs15, Ch.own n0 0 (Sl (some ⟨b14, 0, none⟩) ([(e_1.1, (e_1.2.1, e_1.2.2.1, e_1.2.2.2))] : List (Int × (Int × (List Int) × Int))) 1) ([(e_1.1, (e_1.2.1, e_1.2.2.1, e_1.2.2.2))] : List (Int × (Int × (List Int) × Int))), Ch.bx n0 b5 0 [(.slice none 0 0), (.slice none 0 0)] [] [], Ch.bx n0 b3 0 [(I e_1.1), (I e_1.2.1), (Sl ae_1_1_1 e_1.2.2.1 ce_1_1_1), (I e_1.2.2.2)] [] [], Ch.bx n0 b1 0 [(Sl ah_0_0 h_0.1 ch_0_0), (Sl ah_0_1 h_0.2 ch_0_1)] [] [], Ch.ro 0 (Sl ah_0_0 h_0.1 ch_0_0) h_0.1, Ch.ro 0 (Sl ah_0_1 h_0.2 ch_0_1) h_0.2, Ch.ro 0 (Sl ae_1_1_1 e_1.2.2.1 ce_1_1_1) e_1.2.2.1]) from (H.sel' [6, 0, 1, 2, 3, 4, 5, 6, 7] rfl rfl))) ?_
     rintro _ σq ⟨_, ⟨a23x, c24x, rfl, rfl⟩, H2, m2⟩
     exact ⟨_, (((a11, c12), (b14, (a17, c18))), ((a23x, (c24x, b25)), (a28, (c29, b30)))), rfl, rfl, ⟨H2.sel' [0, 1, 2, 3, 4, 5, 6, 7, 8] rfl rfl, m.comp0 (m2.mono (fun i h => by simp [cov, Ch.ro] at h))⟩, stab [0, 1, 2, 3, 4, 5, 6, 7, 9, 10, 13] (by kernel_rfl) ⟨rfl, rfl, rfl, rfl, rfl, rfl, rfl, rfl, rfl, rfl, rfl, trivial⟩⟩
    refine ⟨?_, ?_⟩
    ·rintro ⟨⟨⟨a11, c12⟩, ⟨b14, ⟨a17, c18⟩⟩⟩, ⟨⟨a23, ⟨c24, b25⟩⟩, ⟨a28, ⟨c29, b30⟩⟩⟩⟩ ρ σm hJ hoff hdep
     have e16 : look 31 ρ 16 = (Sl ah_0_1 h_0.2 ch_0_1) := hdep 7 rfl rfl 16 rfl
     obtain ⟨H, m⟩ := id hJ
     refine dp_cx wn (cx_call hc22 (ent_f hc22.fn (by show [look 31 ρ 16] = _; rw [e16])) hn0 (show Hp S0 σ0 _ ([Ch.ro 0 (Sl ah_0_1 h_0.2 ch_0_1) h_0.2] ++ [Ch.own n0 n0 (Sl (some ⟨b25, 0, none⟩) ([t_2] : List Int) 1) ([t_2] : List Int), Ch.own n0 0 (Sl a17 xs15 c18) xs15, Ch.own n0 0 (Sl (some ⟨b14, 0, none⟩) ([(e_1.1, (e_1.2.1, e_1.2.2.1, e_1.2.2.2))] : List (Int × (Int × (List Int) × Int))) 1) ([(e_1.1, (e_1.2.1, e_1.2.2.1, e_1.2.2.2))] : List (Int × (Int × (List Int) × Int))), Ch.bx n0 b5 0 [(.slice none 0 0), (.slice none 0 0)] [] [], Ch.bx n0 b3 0 [(I e_1.1), (I e_1.2.1), (Sl ae_1_1_1 e_1.2.2.1 ce_1_1_1), (I e_1.2.2.2)] [] [], Ch.bx n0 b1 0 [(Sl ah_0_0 h_0.1 ch_0_0), (Sl ah_0_1 h_0.2 ch_0_1)] [] [], Ch.ro 0 (Sl ah_0_0 h_0.1 ch_0_0) h_0.1, Ch.ro 0 (Sl ah_0_1 h_0.2 ch_0_1) h_0.2, Ch.ro 0 (Sl ae_1_1_1 e_1.2.2.1 ce_1_1_1) e_1.2.2.1]) from (H.sel' [7, 0, 1, 2, 3, 4, 5, 6, 7, 8] rfl rfl))) ?_
     rintro _ σq ⟨_, ⟨a23x, c24x, rfl, rfl⟩, H2, m2⟩
     exact ⟨_, (((a11, c12), (b14, (a17, c18))), ((a23x, (c24x, b25)), (a28, (c29, b30)))), rfl, rfl, ⟨H2.sel' [1, 0, 2, 3, 4, 5, 6, 7, 8, 9] rfl rfl, m.comp0 (m2.mono (fun i h => by simp [cov, Ch.ro] at h))⟩, stab [0, 1, 2, 3, 4, 5, 6, 7, 9, 10, 13] (by kernel_rfl) ⟨rfl, rfl, rfl, rfl, rfl, rfl, rfl, rfl, rfl, rfl, rfl, trivial⟩⟩
    refine ⟨?_, ?_⟩
    ·rintro ⟨⟨⟨a11, c12⟩, ⟨b14, ⟨a17, c18⟩⟩⟩, ⟨⟨a23, ⟨c24, b25⟩⟩, ⟨a28, ⟨c29, b30⟩⟩⟩⟩ ρ σm hJ hoff hdep
     have e16 : look 31 ρ 16 = (Sl ah_0_1 h_0.2 ch_0_1) := hdep 7 rfl rfl 16 rfl
     obtain ⟨H, m⟩ := id hJ
     refine dp_cx wn (cx_call hc22 (ent_f hc22.fn (by show [look 31 ρ 16] = _; rw [e16])) hn0 (show Hp S0 σ0 _ ([Ch.ro 0 (Sl ah_0_1 h_0.2 ch_0_1) h_0.2] ++ [Ch.bx n0 b30 0 [(.slice none 0 0), (.slice none 0 0)] [] [], Ch.own n0 0 (Sl a17 xs15 c18) xs15, Ch.own n0 0 (Sl (some ⟨b14, 0, none⟩) ([(e_1.1, (e_1.2.1, e_1.2.2.1, e_1.2.2.2))] : List (Int × (Int × (List Int) × Int))) 1) ([(e_1.1, (e_1.2.1, e_1.2.2.1, e_1.2.2.2))] : List (Int × (Int × (List Int) × Int))), Ch.bx n0 b5 0 [(.slice none 0 0), (.slice none 0 0)] [] [], Ch.bx n0 b3 0 [(I e_1.1), (I e_1.2.1), (Sl ae_1_1_1 e_1.2.2.1 ce_1_1_1), (I e_1.2.2.2)] [] [], Ch.bx n0 b1 0 [(Sl ah_0_0 h_0.1 ch_0_0), (Sl ah_0_1 h_0.2 ch_0_1)] [] [], Ch.ro 0 (Sl ah_0_0 h_0.1 ch_0_0) h_0.1, Ch.ro 0 (Sl ah_0_1 h_0.2 ch_0_1) h_0.2, Ch.ro 0 (Sl ae_1_1_1 e_1.2.2.1 ce_1_1_1) e_1.2.2.1]) from (H.sel' [7, 0, 1, 2, 3, 4, 5, 6, 7, 8] rfl rfl))) ?_
     rintro _ σq ⟨_, ⟨a23x, c24x, rfl, rfl⟩, H2, m2⟩
     exact ⟨_, (((a11, c12), (b14, (a17, c18))), ((a23x, (c24x, b25)), (a28, (c29, b30)))), rfl, rfl, ⟨H2.sel' [1, 0, 2, 3, 4, 5, 6, 7, 8, 9] rfl rfl, m.comp0 (m2.mono (fun i h => by simp [cov, Ch.ro] at h))⟩, stab [0, 1, 2, 3, 4, 5, 6, 7, 9, 10, 13] (by kernel_rfl) ⟨rfl, rfl, rfl, rfl, rfl, rfl, rfl, rfl, rfl, rfl, rfl, trivial⟩⟩
    refine ⟨?_, ?_⟩
    ·rintro ⟨⟨⟨a11, c12⟩, ⟨b14, ⟨a17, c18⟩⟩⟩, ⟨⟨a23, ⟨c24, b25⟩⟩, ⟨a28, ⟨c29, b30⟩⟩⟩⟩ ρ σm hJ hoff hdep
     have e16 : look 31 ρ 16 = (Sl ah_0_1 h_0.2 ch_0_1) := hdep 7 rfl rfl 16 rfl
     obtain ⟨H, m⟩ := id hJ
     refine dp_cx wn (cx_call hc22 (ent_f hc22.fn (by show [look 31 ρ 16] = _; rw [e16])) hn0 (show Hp S0 σ0 _ ([Ch.ro 0 (Sl ah_0_1 h_0.2 ch_0_1) h_0.2] ++ [Ch.bx n0 b30 0 [(.slice none 0 0), (.slice none 0 0)] [] [], Ch.own n0 n0 (Sl (some ⟨b25, 0, none⟩) ([t_2] : List Int) 1) ([t_2] : List Int), Ch.own n0 0 (Sl a17 xs15 c18) xs15, Ch.own n0 0 (Sl (some ⟨b14, 0, none⟩) ([(e_1.1, (e_1.2.1, e_1.2.2.1, e_1.2.2.2))] : List (Int × (Int × (List Int) × Int))) 1) ([(e_1.1, (e_1.2.1, e_1.2.2.1, e_1.2.2.2))] : List (Int × (Int × (List Int) × Int))), Ch.bx n0 b5 0 [(.slice none 0 0), (.slice none 0 0)] [] [], Ch.bx n0 b3 0 [(I e_1.1), (I e_1.2.1), (Sl ae_1_1_1 e_1.2.2.1 ce_1_1_1), (I e_1.2.2.2)] [] [], Ch.bx n0 b1 0 [(Sl ah_0_0 h_0.1 ch_0_0), (Sl ah_0_1 h_0.2 ch_0_1)] [] [], Ch.ro 0 (Sl ah_0_0 h_0.1 ch_0_0) h_0.1, Ch.ro 0 (Sl ah_0_1 h_0.2 ch_0_1) h_0.2, Ch.ro 0 (Sl ae_1_1_1 e_1.2.2.1 ce_1_1_1) e_1.2.2.1]) from (H.sel' [8, 0, 1, 2, 3, 4, 5, 6, 7, 8, 9] rfl rfl))) ?_
     rintro _ σq ⟨_, ⟨a23x, c24x, rfl, rfl⟩, H2, m2⟩
     exact ⟨_, (((a11, c12), (b14, (a17, c18))), ((a23x, (c24x, b25)), (a28, (c29, b30)))), rfl, rfl, ⟨H2.sel' [1, 2, 0, 3, 4, 5, 6, 7, 8, 9, 10] rfl rfl, m.comp0 (m2.mono (fun i h => by simp [cov, Ch.ro] at h))⟩, stab [0, 1, 2, 3, 4, 5, 6, 7, 9, 10, 13] (by kernel_rfl) ⟨rfl, rfl, rfl, rfl, rfl, rfl, rfl, rfl, rfl, rfl, rfl, trivial⟩⟩
    trivial) ?_
  refine ac rfl (by
    intro k; rintro ⟨⟨⟨a11, c12⟩, ⟨b14, ⟨a17, c18⟩⟩⟩, ⟨⟨a23, ⟨c24, b25⟩⟩, ⟨a28, ⟨c29, b30⟩⟩⟩⟩ ρ σm hJ hoff hdep
    have e2 := look_off (N := 31) (hoff 2 rfl) rfl
    exact dp_v (v := (I t_2)) wn (rv_move e2) rfl hJ) ?_
  refine all_cons (by
    refine ⟨?_, ?_⟩
    ·rintro ⟨⟨⟨a11, c12⟩, ⟨b14, ⟨a17, c18⟩⟩⟩, ⟨⟨a23, ⟨c24, b25⟩⟩, ⟨a28, ⟨c29, b30⟩⟩⟩⟩ ρ σm hJ hoff hdep
     have e18 : look 31 ρ 18 = (I t_2) := hdep 9 rfl rfl 18 rfl
     obtain ⟨H, m⟩ := id hJ
     refine dp_ex wn (ex_buildSlice (el := n0) (xs := ([t_2] : List Int)) (ps := [(0, (I t_2))]) (cs := [(I t_2)]) H hn0 Try.underlying24 ti3 rfl (by show [(0, look 31 ρ 18)] = _; rw [e18]) (by kernel_rfl) (.cons (c := [(I t_2)]) rfl (.nil)) rfl) ?_
     rintro _ σq ⟨b25x, rfl, H2, m2⟩
     exact ⟨_, (((a11, c12), (b14, (a17, c18))), ((a23, (c24, b25x)), (a28, (c29, b30)))), rfl, rfl, ⟨H2.sel' [0, 1, 2, 3, 4, 5, 6] rfl rfl, m.comp0 m2⟩, stab [0, 1, 2, 3, 4, 5, 6, 7, 8, 9, 13] (by kernel_rfl) ⟨rfl, rfl, rfl, rfl, rfl, rfl, rfl, rfl, rfl, rfl, rfl, trivial⟩⟩
    refine ⟨?_, ?_⟩
    ·rintro ⟨⟨⟨a11, c12⟩, ⟨b14, ⟨a17, c18⟩⟩⟩, ⟨⟨a23, ⟨c24, b25⟩⟩, ⟨a28, ⟨c29, b30⟩⟩⟩⟩ ρ σm hJ hoff hdep
     have e18 : look 31 ρ 18 = (I t_2) := hdep 9 rfl rfl 18 rfl
     obtain ⟨H, m⟩ := id hJ
     refine dp_ex wn (ex_buildSlice (el := n0) (xs := ([t_2] : List Int)) (ps := [(0, (I t_2))]) (cs := [(I t_2)]) H hn0 Try.underlying24 ti3 rfl (by show [(0, look 31 ρ 18)] = _; rw [e18]) (by kernel_rfl) (.cons (c := [(I t_2)]) rfl (.nil)) rfl) ?_
     rintro _ σq ⟨b25x, rfl, H2, m2⟩
     exact ⟨_, (((a11, c12), (b14, (a17, c18))), ((a23, (c24, b25x)), (a28, (c29, b30)))), rfl, rfl, ⟨H2.sel' [0, 1, 2, 3, 4, 5, 6, 7] rfl rfl, m.comp0 m2⟩, stab [0, 1, 2, 3, 4, 5, 6, 7, 8, 9, 13] (by kernel_rfl) ⟨rfl, rfl, rfl, rfl, rfl, rfl, rfl, rfl, rfl, rfl, rfl, trivial⟩⟩
    refine ⟨?_, ?_⟩
    ·rintro ⟨⟨⟨a11, c12⟩, ⟨b14, ⟨a17, c18⟩⟩⟩, ⟨⟨a23, ⟨c24, b25⟩⟩, ⟨a28, ⟨c29, b30⟩⟩⟩⟩ ρ σm hJ hoff hdep
     have e18 : look 31 ρ 18 = (I t_2) := hdep 9 rfl rfl 18 rfl
     obtain ⟨H, m⟩ := id hJ
     refine dp_ex wn (ex_buildSlice (el := n0) (xs := ([t_2] : List Int)) (ps := [(0, (I t_2))]) (cs := [(I t_2)]) H hn0 Try.underlying24 ti3 rfl (by show [(0, look 31 ρ 18)] = _; rw [e18]) (by kernel_rfl) (.cons (c := [(I t_2)]) rfl (.nil)) rfl) ?_
     rintro _ σq ⟨b25x, rfl, H2, m2⟩
     exact ⟨_, (((a11, c12), (b14, (a17, c18))), ((a23, (c24, b25x)), (a28, (c29, b30)))), rfl, rfl, ⟨H2.sel' [0, 1, 2, 3, 4, 5, 6, 7] rfl rfl, m.comp0 m2⟩, stab [0, 1, 2, 3, 4, 5, 6, 7, 8, 9, 13] (by kernel_rfl) ⟨rfl, rfl, rfl, rfl, rfl, rfl, rfl, rfl, rfl, rfl, rfl, trivial⟩⟩
    refine ⟨?_, ?_⟩
    ·rintro ⟨⟨⟨a11, c12⟩, ⟨b14, ⟨a17, c18⟩⟩⟩, ⟨⟨a23, ⟨c24, b25⟩⟩, ⟨a28, ⟨c29, b30⟩⟩⟩⟩ ρ σm hJ hoff hdep
     have e18 : look 31 ρ 18 = (I t_2) := hdep 9 rfl rfl 18 rfl
     obtain ⟨H, m⟩ := id hJ
     refine dp_ex wn (ex_buildSlice (el := n0) (xs := ([t_2] : List Int)) (ps := [(0, (I t_2))]) (cs := [(I t_2)]) H hn0 Try.underlying24 ti3 rfl (by show [(0, look 31 ρ 18)] = _; rw [e18]) (by kernel_rfl) (.cons (c := [(I t_2)]) rfl (.nil)) rfl) ?_
     rintro _ σq ⟨b25x, rfl, H2, m2⟩
     exact ⟨_, (((a11, c12), (b14, (a17, c18))), ((a23, (c24, b25x)), (a28, (c29, b30)))), rfl, rfl, ⟨H2.sel' [1, 0, 2, 3, 4, 5, 6, 7] rfl rfl, m.comp0 m2⟩, stab [0, 1, 2, 3, 4, 5, 6, 7, 8, 9, 13] (by kernel_rfl) ⟨rfl, rfl, rfl, rfl, rfl, rfl, rfl, rfl, rfl, rfl, rfl, trivial⟩⟩
    refine ⟨?_, ?_⟩
    ·rintro ⟨⟨⟨a11, c12⟩, ⟨b14, ⟨a17, c18⟩⟩⟩, ⟨⟨a23, ⟨c24, b25⟩⟩, ⟨a28, ⟨c29, b30⟩⟩⟩⟩ ρ σm hJ hoff hdep
     have e18 : look 31 ρ 18 = (I t_2) := hdep 9 rfl rfl 18 rfl
     obtain ⟨H, m⟩ := id hJ
     refine dp_ex wn (ex_buildSlice (el := n0) (xs := ([t_2] : List Int)) (ps := [(0, (I t_2))]) (cs := [(I t_2)]) H hn0 Try.underlying24 ti3 rfl (by show [(0, look 31 ρ 18)] = _; rw [e18]) (by kernel_rfl) (.cons (c := [(I t_2)]) rfl (.nil)) rfl) ?_
     rintro _ σq ⟨b25x, rfl, H2, m2⟩
     exact ⟨_, (((a11, c12), (b14, (a17, c18))), ((a23, (c24, b25x)), (a28, (c29, b30)))), rfl, rfl, ⟨H2.sel' [0, 1, 2, 3, 4, 5, 6, 7, 8] rfl rfl, m.comp0 m2⟩, stab [0, 1, 2, 3, 4, 5, 6, 7, 8, 9, 13] (by kernel_rfl) ⟨rfl, rfl, rfl, rfl, rfl, rfl, rfl, rfl, rfl, rfl, rfl, trivial⟩⟩
    refine ⟨?_, ?_⟩
    ·rintro ⟨⟨⟨a11, c12⟩, ⟨b14, ⟨a17, c18⟩⟩⟩, ⟨⟨a23, ⟨c24, b25⟩⟩, ⟨a28, ⟨c29, b30⟩⟩⟩⟩ ρ σm hJ hoff hdep
     have e18 : look 31 ρ 18 = (I t_2) := hdep 9 rfl rfl 18 rfl
     obtain ⟨H, m⟩ := id hJ
     refine dp_ex wn (ex_buildSlice (el := n0) (xs := ([t_2] : List Int)) (ps := [(0, (I t_2))]) (cs := [(I t_2)]) H hn0 Try.underlying24 ti3 rfl (by show [(0, look 31 ρ 18)] = _; rw [e18]) (by kernel_rfl) (.cons (c := [(I t_2)]) rfl (.nil)) rfl) ?_
     rintro _ σq ⟨b25x, rfl, H2, m2⟩
     exact ⟨_, (((a11, c12), (b14, (a17, c18))), ((a23, (c24, b25x)), (a28, (c29, b30)))), rfl, rfl, ⟨H2.sel' [1, 0, 2, 3, 4, 5, 6, 7, 8] rfl rfl, m.comp0 m2⟩, stab [0, 1, 2, 3, 4, 5, 6, 7, 8, 9, 13] (by kernel_rfl) ⟨rfl, rfl, rfl, rfl, rfl, rfl, rfl, rfl, rfl, rfl, rfl, trivial⟩⟩
    refine ⟨?_, ?_⟩
    ·rintro ⟨⟨⟨a11, c12⟩, ⟨b14, ⟨a17, c18⟩⟩⟩, ⟨⟨a23, ⟨c24, b25⟩⟩, ⟨a28, ⟨c29, b30⟩⟩⟩⟩ ρ σm hJ hoff hdep
     have e18 : look 31 ρ 18 = (I t_2) := hdep 9 rfl rfl 18 rfl
     obtain ⟨H, m⟩ := id hJ
     refine dp_ex wn (ex_buildSlice (el := n0) (xs := ([t_2] : List Int)) (ps := [(0, (I t_2))]) (cs := [(I t_2)]) H hn0 Try.underlying24 ti3 rfl (by show [(0, look 31 ρ 18)] = _; rw [e18]) (by kernel_rfl) (.cons (c := [(I t_2)]) rfl (.nil)) rfl) ?_
     rintro _ σq ⟨b25x, rfl, H2, m2⟩
     exact ⟨_, (((a11, c12), (b14, (a17, c18))), ((a23, (c24, b25x)), (a28, (c29, b30)))), rfl, rfl, ⟨H2.sel' [1, 0, 2, 3, 4, 5, 6, 7, 8] rfl rfl, m.comp0 m2⟩, stab [0, 1, 2, 3, 4, 5, 6, 7, 8, 9, 13] (by kernel_rfl) ⟨rfl, rfl, rfl, rfl, rfl, rfl, rfl, rfl, rfl, rfl, rfl, trivial⟩⟩
    refine ⟨?_, ?_⟩
    ·rintro ⟨⟨⟨a11, c12⟩, ⟨b14, ⟨a17, c18⟩⟩⟩, ⟨⟨a23, ⟨c24, b25⟩⟩, ⟨a28, ⟨c29, b30⟩⟩⟩⟩ ρ σm hJ hoff hdep
     have e18 : look 31 ρ 18 = (I t_2) := hdep 9 rfl rfl 18 rfl
     obtain ⟨H, m⟩ := id hJ
     refine dp_ex wn (ex_buildSlice (el := n0) (xs := ([t_2] : List Int)) (ps := [(0, (I t_2))]) (cs := [(I t_2)]) H hn0 Try.underlying24 ti3 rfl (by show [(0, look 31 ρ 18)] = _; rw [e18]) (by kernel_rfl) (.cons (c := [(I t_2)]) rfl (.nil)) rfl) ?_
     rintro _ σq ⟨b25x, rfl, H2, m2⟩
     exact ⟨_, (((a11, c12), (b14, (a17, c18))), ((a23, (c24, b25x)), (a28, (c29, b30)))), rfl, rfl, ⟨H2.sel' [0, 1, 2, 3, 4, 5, 6, 7, 8] rfl rfl, m.comp0 m2⟩, stab [0, 1, 2, 3, 4, 5, 6, 7, 8, 9, 13] (by kernel_rfl) ⟨rfl, rfl, rfl, rfl, rfl, rfl, rfl, rfl, rfl, rfl, rfl, trivial⟩⟩
    refine ⟨?_, ?_⟩
    ·rintro ⟨⟨⟨a11, c12⟩, ⟨b14, ⟨a17, c18⟩⟩⟩, ⟨⟨a23, ⟨c24, b25⟩⟩, ⟨a28, ⟨c29, b30⟩⟩⟩⟩ ρ σm hJ hoff hdep
     have e18 : look 31 ρ 18 = (I t_2) := hdep 9 rfl rfl 18 rfl
     obtain ⟨H, m⟩ := id hJ
     refine dp_ex wn (ex_buildSlice (el := n0) (xs := ([t_2] : List Int)) (ps := [(0, (I t_2))]) (cs := [(I t_2)]) H hn0 Try.underlying24 ti3 rfl (by show [(0, look 31 ρ 18)] = _; rw [e18]) (by kernel_rfl) (.cons (c := [(I t_2)]) rfl (.nil)) rfl) ?_
     rintro _ σq ⟨b25x, rfl, H2, m2⟩
     exact ⟨_, (((a11, c12), (b14, (a17, c18))), ((a23, (c24, b25x)), (a28, (c29, b30)))), rfl, rfl, ⟨H2.sel' [1, 0, 2, 3, 4, 5, 6, 7, 8, 9] rfl rfl, m.comp0 m2⟩, stab [0, 1, 2, 3, 4, 5, 6, 7, 8, 9, 13] (by kernel_rfl) ⟨rfl, rfl, rfl, rfl, rfl, rfl, rfl, rfl, rfl, rfl, rfl, trivial⟩⟩
    refine ⟨?_, ?_⟩
    ·rintro ⟨⟨⟨a11, c12⟩, ⟨b14, ⟨a17, c18⟩⟩⟩, ⟨⟨a23, ⟨c24, b25⟩⟩, ⟨a28, ⟨c29, b30⟩⟩⟩⟩ ρ σm hJ hoff hdep
     have e18 : look 31 ρ 18 = (I t_2) := hdep 9 rfl rfl 18 rfl
     obtain ⟨H, m⟩ := id hJ
     refine dp_ex wn (ex_buildSlice (el := n0) (xs := ([t_2] : List Int)) (ps := [(0, (I t_2))]) (cs := [(I t_2)]) H hn0 Try.underlying24 ti3 rfl (by show [(0, look 31 ρ 18)] = _; rw [e18]) (by kernel_rfl) (.cons (c := [(I t_2)]) rfl (.nil)) rfl) ?_
     rintro _ σq ⟨b25x, rfl, H2, m2⟩
     exact ⟨_, (((a11, c12), (b14, (a17, c18))), ((a23, (c24, b25x)), (a28, (c29, b30)))), rfl, rfl, ⟨H2.sel' [0, 1, 2, 3, 4, 5, 6, 7, 8, 9] rfl rfl, m.comp0 m2⟩, stab [0, 1, 2, 3, 4, 5, 6, 7, 8, 9, 13] (by kernel_rfl) ⟨rfl, rfl, rfl, rfl, rfl, rfl, rfl, rfl, rfl, rfl, rfl, trivial⟩⟩
    refine ⟨?_, ?_⟩
    ·rintro ⟨⟨⟨a11, c12⟩, ⟨b14, ⟨a17, c18⟩⟩⟩, ⟨⟨a23, ⟨c24, b25⟩⟩, ⟨a28, ⟨c29, b30⟩⟩⟩⟩ ρ σm hJ hoff hdep
     have e18 : look 31 ρ 18 = (I t_2) := hdep 9 rfl rfl 18 rfl
     obtain ⟨H, m⟩ := id hJ
     refine dp_ex wn (ex_buildSlice (el := n0) (xs := ([t_2] : List Int)) (ps := [(0, (I t_2))]) (cs := [(I t_2)]) H hn0 Try.underlying24 ti3 rfl (by show [(0, look 31 ρ 18)] = _; rw [e18]) (by kernel_rfl) (.cons (c := [(I t_2)]) rfl (.nil)) rfl) ?_
     rintro _ σq ⟨b25x, rfl, H2, m2⟩
     exact ⟨_, (((a11, c12), (b14, (a17, c18))), ((a23, (c24, b25x)), (a28, (c29, b30)))), rfl, rfl, ⟨H2.sel' [1, 0, 2, 3, 4, 5, 6, 7, 8, 9] rfl rfl, m.comp0 m2⟩, stab [0, 1, 2, 3, 4, 5, 6, 7, 8, 9, 13] (by kernel_rfl) ⟨rfl, rfl, rfl, rfl, rfl, rfl, rfl, rfl, rfl, rfl, rfl, trivial⟩⟩
    refine ⟨?_, ?_⟩
    ·rintro ⟨⟨⟨a11, c12⟩, ⟨b14, ⟨a17, c18⟩⟩⟩, ⟨⟨a23, ⟨c24, b25⟩⟩, ⟨a28, ⟨c29, b30⟩⟩⟩⟩ ρ σm hJ hoff hdep
     have e18 : look 31 ρ 18 = (I t_2) := hdep 9 rfl rfl 18 rfl
     obtain ⟨H, m⟩ := id hJ
     refine dp_ex wn (ex_buildSlice (el := n0) (xs := ([t_2] : List Int)) (ps := [(0, (I t_2))]) (cs := [(I t_2)]) H hn0 Try.underlying24 ti3 rfl (by show [(0, look 31 ρ 18)] = _; rw [e18]) (by kernel_rfl) (.cons (c := [(I t_2)]) rfl (.nil)) rfl) ?_
     rintro _ σq ⟨b25x, rfl, H2, m2⟩
     exact ⟨_, (((a11, c12), (b14, (a17, c18))), ((a23, (c24, b25x)), (a28, (c29, b30)))), rfl, rfl, ⟨H2.sel' [1, 0, 2, 3, 4, 5, 6, 7, 8, 9, 10] rfl rfl, m.comp0 m2⟩, stab [0, 1, 2, 3, 4, 5, 6, 7, 8, 9, 13] (by kernel_rfl) ⟨rfl, rfl, rfl, rfl, rfl, rfl, rfl, rfl, rfl, rfl, rfl, trivial⟩⟩
    trivial) ?_
  refine all_cons (by
    refine ⟨?_, ?_⟩
    ·rintro ⟨⟨⟨a11, c12⟩, ⟨b14, ⟨a17, c18⟩⟩⟩, ⟨⟨a23, ⟨c24, b25⟩⟩, ⟨a28, ⟨c29, b30⟩⟩⟩⟩ ρ σm hJ hoff hdep
     have e17 := hdep 8 rfl rfl 17 rfl
     have e19 := hdep 10 rfl rfl 19 rfl
     obtain ⟨H, m⟩ := id hJ
     refine dp_ex wn (ex_append H (i := 1) rfl Try.underlying24 Try.underlying24 ti3 rfl rfl (by decide) (H.own 0 rfl).rd hx27 hn0 e17 e19) ?_
     rintro _ σq ⟨a28x, c29x, rfl, H2, m2⟩
     exact ⟨_, (((a11, c12), (b14, (a17, c18))), ((a23, (c24, b25)), (a28x, (c29x, b30)))), rfl, rfl, ⟨H2.sel' [0, 1, 2, 3, 4, 5, 6, 7, 8, 9] rfl rfl, m.comp m2⟩, stab [0, 1, 2, 3, 4, 5, 6, 7, 8, 9, 10, 13] (by kernel_rfl) ⟨rfl, rfl, rfl, rfl, rfl, rfl, rfl, rfl, rfl, rfl, rfl, rfl, trivial⟩⟩
    refine ⟨?_, ?_⟩
    ·rintro ⟨⟨⟨a11, c12⟩, ⟨b14, ⟨a17, c18⟩⟩⟩, ⟨⟨a23, ⟨c24, b25⟩⟩, ⟨a28, ⟨c29, b30⟩⟩⟩⟩ ρ σm hJ hoff hdep
     have e17 := hdep 8 rfl rfl 17 rfl
     have e19 := hdep 10 rfl rfl 19 rfl
     obtain ⟨H, m⟩ := id hJ
     refine dp_ex wn (ex_append H (i := 2) rfl Try.underlying24 Try.underlying24 ti3 rfl rfl (by decide) (H.own 1 rfl).rd hx27 hn0 e17 e19) ?_
     rintro _ σq ⟨a28x, c29x, rfl, H2, m2⟩
     exact ⟨_, (((a11, c12), (b14, (a17, c18))), ((a23, (c24, b25)), (a28x, (c29x, b30)))), rfl, rfl, ⟨H2.sel' [1, 0, 2, 3, 4, 5, 6, 7, 8, 9, 10] rfl rfl, m.comp m2⟩, stab [0, 1, 2, 3, 4, 5, 6, 7, 8, 9, 10, 13] (by kernel_rfl) ⟨rfl, rfl, rfl, rfl, rfl, rfl, rfl, rfl, rfl, rfl, rfl, rfl, trivial⟩⟩
    trivial) ?_
  refine ac rfl (by
    intro k; rintro ⟨⟨⟨a11, c12⟩, ⟨b14, ⟨a17, c18⟩⟩⟩, ⟨⟨a23, ⟨c24, b25⟩⟩, ⟨a28, ⟨c29, b30⟩⟩⟩⟩ ρ σm hJ hoff hdep
    have e14 : look 31 ρ 14 = (Sl a17 xs15 c18) := hdep 5 rfl rfl 14 rfl
    have e20 : look 31 ρ 20 = (Sl a28 xs26 c29) := hdep 11 rfl rfl 20 rfl
    exact dp_v (v := (.agg #[(Sl a17 xs15 c18), (Sl a28 xs26 c29)])) wn (rv_build (ps := [(0, (Sl a17 xs15 c18)), (1, (Sl a28 xs26 c29))]) Try.underlying26 ti26 (bp26 Try.underlying26) (by show [(0, look 31 ρ 14), (1, look 31 ρ 20)] = _; rw [e14, e20]) (by kernel_rfl)) rfl hJ) ?_
  refine all_cons (by
    refine ⟨?_, ?_⟩
    ·rintro ⟨⟨⟨a11, c12⟩, ⟨b14, ⟨a17, c18⟩⟩⟩, ⟨⟨a23, ⟨c24, b25⟩⟩, ⟨a28, ⟨c29, b30⟩⟩⟩⟩ ρ σm hJ hoff hdep
     obtain ⟨H, m⟩ := id hJ
     refine dp_ex wn (ex_alloc (cs := [(.slice none 0 0), (.slice none 0 0)]) H hn0 ti26 rfl) ?_
     rintro _ σq ⟨b30x, rfl, H2, m2⟩
     exact ⟨_, (((a11, c12), (b14, (a17, c18))), ((a23, (c24, b25)), (a28, (c29, b30x)))), rfl, rfl, ⟨H2.sel' [0, 1, 2, 3, 4, 5, 6] rfl rfl, m.comp0 m2⟩, stab [0, 1, 2, 3, 4, 5, 6, 7, 8, 9, 10, 11, 12] (by kernel_rfl) ⟨rfl, rfl, rfl, rfl, rfl, rfl, rfl, rfl, rfl, rfl, rfl, rfl, rfl, trivial⟩⟩
    refine ⟨?_, ?_⟩
    ·rintro ⟨⟨⟨a11, c12⟩, ⟨b14, ⟨a17, c18⟩⟩⟩, ⟨⟨a23, ⟨c24, b25⟩⟩, ⟨a28, ⟨c29, b30⟩⟩⟩⟩ ρ σm hJ hoff hdep
     obtain ⟨H, m⟩ := id hJ
     refine dp_ex wn (ex_alloc (cs := [(.slice none 0 0), (.slice none 0 0)]) H hn0 ti26 rfl) ?_
     rintro _ σq ⟨b30x, rfl, H2, m2⟩
     exact ⟨_, (((a11, c12), (b14, (a17, c18))), ((a23, (c24, b25)), (a28, (c29, b30x)))), rfl, rfl, ⟨H2.sel' [0, 1, 2, 3, 4, 5, 6, 7] rfl rfl, m.comp0 m2⟩, stab [0, 1, 2, 3, 4, 5, 6, 7, 8, 9, 10, 11, 12] (by kernel_rfl) ⟨rfl, rfl, rfl, rfl, rfl, rfl, rfl, rfl, rfl, rfl, rfl, rfl, rfl, trivial⟩⟩
    refine ⟨?_, ?_⟩
    ·rintro ⟨⟨⟨a11, c12⟩, ⟨b14, ⟨a17, c18⟩⟩⟩, ⟨⟨a23, ⟨c24, b25⟩⟩, ⟨a28, ⟨c29, b30⟩⟩⟩⟩ ρ σm hJ hoff hdep
     obtain ⟨H, m⟩ := id hJ
     refine dp_ex wn (ex_alloc (cs := [(.slice none 0 0), (.slice none 0 0)]) H hn0 ti26 rfl) ?_
     rintro _ σq ⟨b30x, rfl, H2, m2⟩
     exact ⟨_, (((a11, c12), (b14, (a17, c18))), ((a23, (c24, b25)), (a28, (c29, b30x)))), rfl, rfl, ⟨H2.sel' [0, 1, 2, 3, 4, 5, 6, 7] rfl rfl, m.comp0 m2⟩, stab [0, 1, 2, 3, 4, 5, 6, 7, 8, 9, 10, 11, 12] (by kernel_rfl) ⟨rfl, rfl, rfl, rfl, rfl, rfl, rfl, rfl, rfl, rfl, rfl, rfl, rfl, trivial⟩⟩
    refine ⟨?_, ?_⟩
    ·rintro ⟨⟨⟨a11, c12⟩, ⟨b14, ⟨a17, c18⟩⟩⟩, ⟨⟨a23, ⟨c24, b25⟩⟩, ⟨a28, ⟨c29, b30⟩⟩⟩⟩ ρ σm hJ hoff hdep
     obtain ⟨H, m⟩ := id hJ
     refine dp_ex wn (ex_alloc (cs := [(.slice none 0 0), (.slice none 0 0)]) H hn0 ti26 rfl) ?_
     rintro _ σq ⟨b30x, rfl, H2, m2⟩
     exact ⟨_, (((a11, c12), (b14, (a17, c18))), ((a23, (c24, b25)), (a28, (c29, b30x)))), rfl, rfl, ⟨H2.sel' [0, 1, 2, 3, 4, 5, 6, 7] rfl rfl, m.comp0 m2⟩, stab [0, 1, 2, 3, 4, 5, 6, 7, 8, 9, 10, 11, 12] (by kernel_rfl) ⟨rfl, rfl, rfl, rfl, rfl, rfl, rfl, rfl, rfl, rfl, rfl, rfl, rfl, trivial⟩⟩
    refine ⟨?_, ?_⟩
    ·rintro ⟨⟨⟨a11, c12⟩, ⟨b14, ⟨a17, c18⟩⟩⟩, ⟨⟨a23, ⟨c24, b25⟩⟩, ⟨a28, ⟨c29, b30⟩⟩⟩⟩ ρ σm hJ hoff hdep
     obtain ⟨H, m⟩ := id hJ
     refine dp_ex wn (ex_alloc (cs := [(.slice none 0 0), (.slice none 0 0)]) H hn0 ti26 rfl) ?_
     rintro _ σq ⟨b30x, rfl, H2, m2⟩
     exact ⟨_, (((a11, c12), (b14, (a17, c18))), ((a23, (c24, b25)), (a28, (c29, b30x)))), rfl, rfl, ⟨H2.sel' [0, 1, 2, 3, 4, 5, 6, 7, 8] rfl rfl, m.comp0 m2⟩, stab [0, 1, 2, 3, 4, 5, 6, 7, 8, 9, 10, 11, 12] (by kernel_rfl) ⟨rfl, rfl, rfl, rfl, rfl, rfl, rfl, rfl, rfl, rfl, rfl, rfl, rfl, trivial⟩⟩
    refine ⟨?_, ?_⟩
    ·rintro ⟨⟨⟨a11, c12⟩, ⟨b14, ⟨a17, c18⟩⟩⟩, ⟨⟨a23, ⟨c24, b25⟩⟩, ⟨a28, ⟨c29, b30⟩⟩⟩⟩ ρ σm hJ hoff hdep
     obtain ⟨H, m⟩ := id hJ
     refine dp_ex wn (ex_alloc (cs := [(.slice none 0 0), (.slice none 0 0)]) H hn0 ti26 rfl) ?_
     rintro _ σq ⟨b30x, rfl, H2, m2⟩
     exact ⟨_, (((a11, c12), (b14, (a17, c18))), ((a23, (c24, b25)), (a28, (c29, b30x)))), rfl, rfl, ⟨H2.sel' [0, 1, 2, 3, 4, 5, 6, 7, 8] rfl rfl, m.comp0 m2⟩, stab [0, 1, 2, 3, 4, 5, 6, 7, 8, 9, 10, 11, 12] (by kernel_rfl) ⟨rfl, rfl, rfl, rfl, rfl, rfl, rfl, rfl, rfl, rfl, rfl, rfl, rfl, trivial⟩⟩
    refine ⟨?_, ?_⟩
    ·rintro ⟨⟨⟨a11, c12⟩, ⟨b14, ⟨a17, c18⟩⟩⟩, ⟨⟨a23, ⟨c24, b25⟩⟩, ⟨a28, ⟨c29, b30⟩⟩⟩⟩ ρ σm hJ hoff hdep
     obtain ⟨H, m⟩ := id hJ
     refine dp_ex wn (ex_alloc (cs := [(.slice none 0 0), (.slice none 0 0)]) H hn0 ti26 rfl) ?_
     rintro _ σq ⟨b30x, rfl, H2, m2⟩
     exact ⟨_, (((a11, c12), (b14, (a17, c18))), ((a23, (c24, b25)), (a28, (c29, b30x)))), rfl, rfl, ⟨H2.sel' [0, 1, 2, 3, 4, 5, 6, 7, 8] rfl rfl, m.comp0 m2⟩, stab [0, 1, 2, 3, 4, 5, 6, 7, 8, 9, 10, 11, 12] (by kernel_rfl) ⟨rfl, rfl, rfl, rfl, rfl, rfl, rfl, rfl, rfl, rfl, rfl, rfl, rfl, trivial⟩⟩
    refine ⟨?_, ?_⟩
    ·rintro ⟨⟨⟨a11, c12⟩, ⟨b14, ⟨a17, c18⟩⟩⟩, ⟨⟨a23, ⟨c24, b25⟩⟩, ⟨a28, ⟨c29, b30⟩⟩⟩⟩ ρ σm hJ hoff hdep
     obtain ⟨H, m⟩ := id hJ
     refine dp_ex wn (ex_alloc (cs := [(.slice none 0 0), (.slice none 0 0)]) H hn0 ti26 rfl) ?_
     rintro _ σq ⟨b30x, rfl, H2, m2⟩
     exact ⟨_, (((a11, c12), (b14, (a17, c18))), ((a23, (c24, b25)), (a28, (c29, b30x)))), rfl, rfl, ⟨H2.sel' [0, 1, 2, 3, 4, 5, 6, 7, 8] rfl rfl, m.comp0 m2⟩, stab [0, 1, 2, 3, 4, 5, 6, 7, 8, 9, 10, 11, 12] (by kernel_rfl) ⟨rfl, rfl, rfl, rfl, rfl, rfl, rfl, rfl, rfl, rfl, rfl, rfl, rfl, trivial⟩⟩
    refine ⟨?_, ?_⟩
    ·rintro ⟨⟨⟨a11, c12⟩, ⟨b14, ⟨a17, c18⟩⟩⟩, ⟨⟨a23, ⟨c24, b25⟩⟩, ⟨a28, ⟨c29, b30⟩⟩⟩⟩ ρ σm hJ hoff hdep
     obtain ⟨H, m⟩ := id hJ
     refine dp_ex wn (ex_alloc (cs := [(.slice none 0 0), (.slice none 0 0)]) H hn0 ti26 rfl) ?_
     rintro _ σq ⟨b30x, rfl, H2, m2⟩
     exact ⟨_, (((a11, c12), (b14, (a17, c18))), ((a23, (c24, b25)), (a28, (c29, b30x)))), rfl, rfl, ⟨H2.sel' [0, 1, 2, 3, 4, 5, 6, 7, 8, 9] rfl rfl, m.comp0 m2⟩, stab [0, 1, 2, 3, 4, 5, 6, 7, 8, 9, 10, 11, 12] (by kernel_rfl) ⟨rfl, rfl, rfl, rfl, rfl, rfl, rfl, rfl, rfl, rfl, rfl, rfl, rfl, trivial⟩⟩
    refine ⟨?_, ?_⟩
    ·rintro ⟨⟨⟨a11, c12⟩, ⟨b14, ⟨a17, c18⟩⟩⟩, ⟨⟨a23, ⟨c24, b25⟩⟩, ⟨a28, ⟨c29, b30⟩⟩⟩⟩ ρ σm hJ hoff hdep
     obtain ⟨H, m⟩ := id hJ
     refine dp_ex wn (ex_alloc (cs := [(.slice none 0 0), (.slice none 0 0)]) H hn0 ti26 rfl) ?_
     rintro _ σq ⟨b30x, rfl, H2, m2⟩
     exact ⟨_, (((a11, c12), (b14, (a17, c18))), ((a23, (c24, b25)), (a28, (c29, b30x)))), rfl, rfl, ⟨H2.sel' [0, 1, 2, 3, 4, 5, 6, 7, 8, 9] rfl rfl, m.comp0 m2⟩, stab [0, 1, 2, 3, 4, 5, 6, 7, 8, 9, 10, 11, 12] (by kernel_rfl) ⟨rfl, rfl, rfl, rfl, rfl, rfl, rfl, rfl, rfl, rfl, rfl, rfl, rfl, trivial⟩⟩
    refine ⟨?_, ?_⟩
    ·rintro ⟨⟨⟨a11, c12⟩, ⟨b14, ⟨a17, c18⟩⟩⟩, ⟨⟨a23, ⟨c24, b25⟩⟩, ⟨a28, ⟨c29, b30⟩⟩⟩⟩ ρ σm hJ hoff hdep
     obtain ⟨H, m⟩ := id hJ
     refine dp_ex wn (ex_alloc (cs := [(.slice none 0 0), (.slice none 0 0)]) H hn0 ti26 rfl) ?_
     rintro _ σq ⟨b30x, rfl, H2, m2⟩
     exact ⟨_, (((a11, c12), (b14, (a17, c18))), ((a23, (c24, b25)), (a28, (c29, b30x)))), rfl, rfl, ⟨H2.sel' [0, 1, 2, 3, 4, 5, 6, 7, 8, 9] rfl rfl, m.comp0 m2⟩, stab [0, 1, 2, 3, 4, 5, 6, 7, 8, 9, 10, 11, 12] (by kernel_rfl) ⟨rfl, rfl, rfl, rfl, rfl, rfl, rfl, rfl, rfl, rfl, rfl, rfl, rfl, trivial⟩⟩
    refine ⟨?_, ?_⟩
    ·rintro ⟨⟨⟨a11, c12⟩, ⟨b14, ⟨a17, c18⟩⟩⟩, ⟨⟨a23, ⟨c24, b25⟩⟩, ⟨a28, ⟨c29, b30⟩⟩⟩⟩ ρ σm hJ hoff hdep
     obtain ⟨H, m⟩ := id hJ
     refine dp_ex wn (ex_alloc (cs := [(.slice none 0 0), (.slice none 0 0)]) H hn0 ti26 rfl) ?_
     rintro _ σq ⟨b30x, rfl, H2, m2⟩
     exact ⟨_, (((a11, c12), (b14, (a17, c18))), ((a23, (c24, b25)), (a28, (c29, b30x)))), rfl, rfl, ⟨H2.sel' [0, 1, 2, 3, 4, 5, 6, 7, 8, 9, 10] rfl rfl, m.comp0 m2⟩, stab [0, 1, 2, 3, 4, 5, 6, 7, 8, 9, 10, 11, 12] (by kernel_rfl) ⟨rfl, rfl, rfl, rfl, rfl, rfl, rfl, rfl, rfl, rfl, rfl, rfl, rfl, trivial⟩⟩
    refine ⟨?_, ?_⟩
    ·rintro ⟨⟨⟨a11, c12⟩, ⟨b14, ⟨a17, c18⟩⟩⟩, ⟨⟨a23, ⟨c24, b25⟩⟩, ⟨a28, ⟨c29, b30⟩⟩⟩⟩ ρ σm hJ hoff hdep
     obtain ⟨H, m⟩ := id hJ
     refine dp_ex wn (ex_alloc (cs := [(.slice none 0 0), (.slice none 0 0)]) H hn0 ti26 rfl) ?_
     rintro _ σq ⟨b30x, rfl, H2, m2⟩
     exact ⟨_, (((a11, c12), (b14, (a17, c18))), ((a23, (c24, b25)), (a28, (c29, b30x)))), rfl, rfl, ⟨H2.sel' [0, 1, 2, 3, 4, 5, 6, 7, 8, 9, 10] rfl rfl, m.comp0 m2⟩, stab [0, 1, 2, 3, 4, 5, 6, 7, 8, 9, 10, 11, 12] (by kernel_rfl) ⟨rfl, rfl, rfl, rfl, rfl, rfl, rfl, rfl, rfl, rfl, rfl, rfl, rfl, trivial⟩⟩
    trivial) ?_
  exact all_nil
 ·rintro ⟨⟨⟨a11, c12⟩, ⟨b14, ⟨a17, c18⟩⟩⟩, ⟨⟨a23, ⟨c24, b25⟩⟩, ⟨a28, ⟨c29, b30⟩⟩⟩⟩ ρ σ31 hJ hoff hrel
  have e6 := look_off (N := 31) (hoff 6 rfl) rfl
  have e8 := hrel 13 rfl 8 rfl
  have e21 := hrel 12 rfl 21 rfl
  obtain ⟨H, -⟩ := (show Hp S0 σ0 σ31 [Ch.bx n0 b30 0 [(.slice none 0 0), (.slice none 0 0)] [] [], Ch.own n0 n0 (Sl a28 xs26 c29) xs26, Ch.own n0 n0 (Sl (some ⟨b25, 0, none⟩) ([t_2] : List Int) 1) ([t_2] : List Int), Ch.own n0 0 (Sl a17 xs15 c18) xs15, Ch.own n0 0 (Sl (some ⟨b14, 0, none⟩) ([(e_1.1, (e_1.2.1, e_1.2.2.1, e_1.2.2.2))] : List (Int × (Int × (List Int) × Int))) 1) ([(e_1.1, (e_1.2.1, e_1.2.2.1, e_1.2.2.2))] : List (Int × (Int × (List Int) × Int))), Ch.bx n0 b5 0 [(.slice none 0 0), (.slice none 0 0)] [] [], Ch.bx n0 b3 0 [(I e_1.1), (I e_1.2.1), (Sl ae_1_1_1 e_1.2.2.1 ce_1_1_1), (I e_1.2.2.2)] [] [], Ch.bx n0 b1 0 [(Sl ah_0_0 h_0.1 ch_0_0), (Sl ah_0_1 h_0.2 ch_0_1)] [] [], Ch.ro 0 (Sl ah_0_0 h_0.1 ch_0_0) h_0.1, Ch.ro 0 (Sl ah_0_1 h_0.2 ch_0_1) h_0.2, Ch.ro 0 (Sl ae_1_1_1 e_1.2.2.1 ce_1_1_1) e_1.2.2.1] ∧ Md (fun i => (fun i => (cov []) i ∨ (fun b => blk (Sl a11 r8 c12) = some b) i) i ∨ (fun b => blk (Sl a23 r20 c24) = some b) i) σ6 σ31 from hJ)
  clear hJ Hs
  rw [fr_lookL (L := [(6, (pt b5 0)), (8, (pt b30 0)), (21, (.agg #[(Sl a17 xs15 c18), (Sl a28 xs26 c29)]))]) ⟨e6, e8, e21, trivial⟩]
  clear hoff hrel e6 e8 e21
  refine st_exS (ex_store_box (k := 0) (cs := [(.slice none 0 0), (.slice none 0 0)]) (vs := [(Sl a17 xs15 c18), (Sl a28 xs26 c29)]) (cs' := [(Sl a17 xs15 c18), (Sl a28 xs26 c29)]) H (i := 0) rfl ti26 rfl rfl rfl rfl rfl (Nat.le_of_ble_eq_true rfl) (by simp [plain]) rfl) wn ?_
  rintro σ32 ⟨H, -⟩
  replace H : Hp S0 σ0 σ32 [Ch.bx n0 b30 0 [(Sl a17 xs15 c18), (Sl a28 xs26 c29)] [] [], Ch.own n0 n0 (Sl a28 xs26 c29) xs26, Ch.own n0 0 (Sl a17 xs15 c18) xs15, Ch.bx n0 b5 0 [(.slice none 0 0), (.slice none 0 0)] [] []] := H.sel' [0, 1, 3, 5] rfl rfl
  refine w_end ?_
  refine q_then ?_
  refine c_seq ?_
  refine c_seq ?_
  refine rg ?_
  have hc33 := H.cells 0 rfl
  refine st (v := (.agg #[(Sl a17 xs15 c18), (Sl a28 xs26 c29)])) (rv_load (cs := [(Sl a17 xs15 c18), (Sl a28 xs26 c29)]) Try.underlying26 rfl ti26 rfl rfl hc33) ?_
  obtain ⟨r34, hx35, h'⟩ := bind_some h
  clear h
  have h := h'; clear h'
  have hc36 := c_impl_ValidHistory (ah_0_0 := a17) (ch_0_0 := c18) (ah_0_1 := a28) (ch_0_1 := c29) hx35
  have hle := Nat.le_trans hn0 H.size
  refine st_call (cx_lend (Loan.lend (Loan.lend Loan.nil)) hc36 (ent_f hc36.fn rfl) (show Hp S0 σ0 _ ([Ch.own n0 0 (Sl a17 xs15 c18) xs15, Ch.own n0 n0 (Sl a28 xs26 c29) xs26] ++ ([] ++ [Ch.bx n0 b30 0 [(Sl a17 xs15 c18), (Sl a28 xs26 c29)] [] [], Ch.bx n0 b5 0 [(.slice none 0 0), (.slice none 0 0)] [] []])) from (H.sel' [2, 1, 0, 3] rfl rfl)) (by rintro _ _ _ ⟨rfl, rfl⟩; exact trivial)) wn ?_
  rintro _ σ37 ⟨_, ⟨rfl, rfl⟩, H, -, -⟩
  replace H : Hp S0 σ0 σ37 [Ch.own n0 0 (Sl a17 xs15 c18) xs15, Ch.own n0 n0 (Sl a28 xs26 c29) xs26, Ch.bx n0 b30 0 [(Sl a17 xs15 c18), (Sl a28 xs26 c29)] [] [], Ch.bx n0 b5 0 [(.slice none 0 0), (.slice none 0 0)] [] []] := H
  clear hle
  replace H : Hp S0 σ0 σ37 [Ch.own n0 0 (Sl a17 xs15 c18) xs15, Ch.own n0 n0 (Sl a28 xs26 c29) xs26, Ch.bx n0 b30 0 [(Sl a17 xs15 c18), (Sl a28 xs26 c29)] [] [], Ch.bx n0 b5 0 [(.slice none 0 0), (.slice none 0 0)] [] []] := H
  refine st (v := (B (!r34))) (rv_not rfl) ?_
  refine w_end ?_
  refine q_then ?_
  refine cd_cond (!r34) rfl (fun hb38 => ?_) (fun hb38 => ?_)
  ·replace h := bif_t hb38 h
   refine c_seq ?_
   refine rg ?_
   refine st (v := (.agg #[(.slice none 0 0), (.slice none 0 0)])) (rv_build (ps := []) Try.underlying26 ti26 (bp26 Try.underlying26) rfl (by kernel_rfl)) ?_
   refine st_exS (ex_store_box (k := 0) (cs := [(.slice none 0 0), (.slice none 0 0)]) (vs := [(.slice none 0 0), (.slice none 0 0)]) (cs' := [(.slice none 0 0), (.slice none 0 0)]) H (i := 3) rfl ti26 rfl rfl rfl rfl rfl (Nat.le_of_ble_eq_true rfl) (by simp [plain]) rfl) wn ?_
   rintro σ39 ⟨H, -⟩
   refine st (v := (B false)) (rv_assign rfl) ?_
   refine w_end ?_
   refine q_then ?_
   refine c_ret ?_
   refine q_then_r ?_
   replace H := H.nilOwn (Int × (Int × (List Int) × Int)) n0 n0
   replace H := H.nilOwn Int n0 n0
   obtain rfl := Option.some.inj h
   exact fin_ret (v := (.tuple #[(.agg #[(.slice none 0 0), (.slice none 0 0)]), (B false)])) (results_ok Try.results27 (res_cell rfl (run_cellRes (cs := [(.slice none 0 0), (.slice none 0 0)]) Try.underlying26 rfl ti26 rfl (H.cells 2 rfl)) (res_tmp (v := (B false)) rfl res_nil)) rfl) ⟨none, 0, none, 0, rfl, rfl, rfl⟩ (H.sel' [1, 0] rfl rfl)
  ·replace h := bif_f hb38 h
   refine c_skip ?_
   refine q_then ?_
   refine c_seq ?_
   refine rg ?_
   have hc40 := H.cells 2 rfl
   refine st (v := (.agg #[(Sl a17 xs15 c18), (Sl a28 xs26 c29)])) (rv_load (cs := [(Sl a17 xs15 c18), (Sl a28 xs26 c29)]) Try.underlying26 rfl ti26 rfl rfl hc40) ?_
   refine st (v := (pt b30 0)) (rv_fieldAddr (off := 0) (ft := 23) Try.underlying26 rfl ti23 rfl rfl) ?_
   have hc41 := H.cell (u := (Sl a17 xs15 c18)) (o' := 0) 2 0 rfl rfl rfl
   refine st (v := (Sl a17 xs15 c18)) (rv_load1 Try.underlying23 rfl rfl hc41) ?_
   refine st (v := (I (xs15.length : Int))) (rv_len Try.underlying23 rfl) ?_
   obtain ⟨σ42, hw43, H, -⟩ := H.pub 0 rfl (Nat.zero_le _)
   rw [← hw43]; clear hw43
   obtain ⟨σ44, hw45, H, -⟩ := H.pub 1 rfl (Nat.le_refl _)
   rw [← hw45]; clear hw45
   replace H := H.roLow 0 0 rfl (Nat.zero_le _)
   obtain ⟨r46, hx47, h'⟩ := bind_some h
   clear h
   have h := h'; clear h'
   have hc48 := c_impl_History_firstEntries (ah_0_0 := a17) (ch_0_0 := c18) (ah_0_1 := a28) (ch_0_1 := c29) hx47
   refine st_call (cx_call hc48 (ent_f hc48.fn rfl) hn0 (show Hp S0 σ0 _ ([Ch.ro 0 (Sl a17 xs15 c18) xs15, Ch.ro 0 (Sl a28 xs26 c29) xs26] ++ [Ch.ro 0 (Sl a28 xs26 c29) xs26, Ch.ro n0 (Sl a28 xs26 c29) xs26, Ch.ro 0 (Sl a17 xs15 c18) xs15, Ch.bx n0 b30 0 [(Sl a17 xs15 c18), (Sl a28 xs26 c29)] [] [], Ch.bx n0 b5 0 [(.slice none 0 0), (.slice none 0 0)] [] []]) from (H.sel' [2, 0, 0, 1, 2, 3, 4] rfl rfl))) wn ?_
   rintro _ σ54 ⟨_, ⟨a49, c50, a52, c53, rfl, rfl, ht51⟩, H, -⟩
   replace H : Hp S0 σ0 σ54 [Ch.own n0 n0 (Sl a49 r46.1 c50) r46.1, Ch.own n0 n0 (Sl a52 r46.2 c53) r46.2, Ch.ro 0 (Sl a28 xs26 c29) xs26, Ch.ro n0 (Sl a28 xs26 c29) xs26, Ch.ro 0 (Sl a17 xs15 c18) xs15, Ch.bx n0 b30 0 [(Sl a17 xs15 c18), (Sl a28 xs26 c29)] [] [], Ch.bx n0 b5 0 [(.slice none 0 0), (.slice none 0 0)] [] []] := H
   refine st_exS (ex_store_box (k := 0) (cs := [(.slice none 0 0), (.slice none 0 0)]) (vs := [(Sl a49 r46.1 c50), (Sl a52 r46.2 c53)]) (cs' := [(Sl a49 r46.1 c50), (Sl a52 r46.2 c53)]) H (i := 6) rfl ti26 rfl rfl rfl rfl rfl (Nat.le_of_ble_eq_true rfl) (by simp [plain]) rfl) wn ?_
   rintro σ55 ⟨H, -⟩
   refine st (v := (B true)) (rv_assign rfl) ?_
   refine w_end ?_
   refine q_then ?_
   refine c_ret ?_
   obtain rfl := Option.some.inj h
   exact fin_ret (v := (.tuple #[(.agg #[(Sl a49 r46.1 c50), (Sl a52 r46.2 c53)]), (B true)])) (results_ok Try.results27 (res_cell rfl (run_cellRes (cs := [(Sl a49 r46.1 c50), (Sl a52 r46.2 c53)]) Try.underlying26 rfl ti26 rfl (H.cells 0 rfl)) (res_tmp (v := (B true)) rfl res_nil)) rfl) ⟨a49, c50, a52, c53, rfl, rfl, ht51⟩ (H.sel' [1, 2] rfl rfl)

theorem c_laws_equalInts {a_0 : List Int} {b_1 : List Int} {aa_0 : Option Addr} {ca_0 : Nat} {ab_1 : Option Addr} {cb_1 : Nat} {r : Bool} (h : M.laws_equalInts a_0 b_1 = some r) :
    Cal2 Try.prog 37 [(Sl aa_0 a_0 ca_0), (Sl ab_1 b_1 cb_1)] [Ch.ro 0 (Sl aa_0 a_0 ca_0) a_0, Ch.ro 0 (Sl ab_1 b_1 cb_1) b_1] (fun n0 v L => v = (B r) ∧ L = []) := by
 refine cal2 (n := 26) Try.func37 rfl rfl rfl rfl ?_
 intro S0 σ0 n0 hn0 H
 unfold M.laws_equalInts at h
 refine c_seq ?_
 refine rg ?_
 refine st (v := (B false)) (rv_assign rfl) ?_
 refine w_end ?_
 refine q_then ?_
 refine c_seq ?_
 refine c_seq ?_
 refine rg ?_
 refine st (v := (Sl aa_0 a_0 ca_0)) (rv_move rfl) ?_
 refine st (v := (I (a_0.length : Int))) (rv_len Try.underlying24 rfl) ?_
 refine st (v := (Sl ab_1 b_1 cb_1)) (rv_move rfl) ?_
 refine st (v := (I (b_1.length : Int))) (rv_len Try.underlying24 rfl) ?_
 refine st (v := (B ((a_0.length : Int) != (b_1.length : Int)))) (rv_neq (a := (a_0.length : Int)) (b := (b_1.length : Int)) rfl rfl) ?_
 refine w_end ?_
 refine q_then ?_
 refine cd_cond ((a_0.length : Int) != (b_1.length : Int)) rfl (fun hb1 => ?_) (fun hb1 => ?_)
 ·replace h := bif_t hb1 h
  refine c_seq ?_
  refine rg ?_
  refine st (v := (B false)) (rv_assign rfl) ?_
  refine w_end ?_
  refine q_then ?_
  refine c_ret ?_
  refine q_then_r ?_
  obtain rfl := Option.some.inj h
  exact fin_ret (v := (B false)) (results_ok Try.results37 (res_tmp (v := (B false)) rfl res_nil) rfl) ⟨rfl, rfl⟩ (H.sel' [] rfl rfl)
 ·replace h := bif_f hb1 h
  refine c_skip ?_
  refine q_then ?_
  refine c_seq ?_
  refine c_seq ?_
  refine rg ?_
  refine st (v := (I 0)) (rv_assign rfl) ?_
  refine w_end ?_
  refine q_then ?_
  obtain ⟨o2, hj, h'⟩ := bind_some h
  clear h
  refine c_cut (fun e a w => (∃ t, o2 = (.inl t) ∧ e = .normal ∧ ∃ (ρ : Nat → Value) (σ : St), a = fr 26 (updL ρ []) ∧ w = σ.w ∧ Hp S0 σ0 σ []) ∨ (∃ t, o2 = (.inr t) ∧ e = .ret ∧ ∃ (ρ : Nat → Value) (σ : St), a = fr 26 (updL ρ [(4, (B t))]) ∧ w = σ.w ∧ Hp S0 σ0 σ [])) ?_ ?_
  ·clear h'
   rename _ = some o2 => h
   refine c_blk ?_
   refine wp_loopM _ h (fun s3 a w => ∃ (ρ : Nat → Value) (σ : St), a = fr 26 (updL ρ [(0, (Sl aa_0 a_0 ca_0)), (1, (Sl ab_1 b_1 cb_1)), (5, (I s3))]) ∧ w = σ.w ∧ Hp S0 σ0 σ [Ch.ro 0 (Sl aa_0 a_0 ca_0) a_0, Ch.ro 0 (Sl ab_1 b_1 cb_1) b_1]) ⟨_, σ0, fr_join ⟨rfl, rfl, rfl, trivial⟩, rfl, H.sel' [0, 1] rfl rfl⟩ ?_
   clear h H
   rintro s3 a w o ⟨ρ, σ4, rfl, rfl, H⟩ h hres
   refine c_seq ?_
   refine c_seq ?_
   refine rg ?_
   refine st (v := (I s3)) (rv_move rfl) ?_
   refine st (v := (Sl aa_0 a_0 ca_0)) (rv_move rfl) ?_
   refine st (v := (I (a_0.length : Int))) (rv_len Try.underlying24 rfl) ?_
   refine st (v := (B (decide (s3 < (a_0.length : Int))))) (rv_lss (a := s3) (b := (a_0.length : Int)) rfl rfl) ?_
   refine w_end ?_
   refine q_then ?_
   refine cd_cond (decide (s3 < (a_0.length : Int))) rfl (fun hb5 => ?_) (fun hb5 => ?_)
   ·replace h := bif_t hb5 h
    refine c_skip ?_
    refine q_then ?_
    refine c_seq ?_
    refine c_blk ?_
    refine c_seq ?_
    refine rgP (σ := σ4) 8 (by kernel_rfl) (by kernel_rfl) (by kernel_rfl) ?_
    refine sq (v := (Sl aa_0 a_0 ca_0)) (rv_move rfl) ?_
    refine sq (v := (I s3)) (rv_move rfl) ?_
    obtain ⟨x6, hx7, h'⟩ := bind_some h
    clear h
    have h := h'; clear h'
    obtain ⟨b9, o10, hi8, -⟩ := (H.ro 0 rfl).ix hx7
    refine sq (v := (pt b9 o10)) (rv_ix Try.underlying24 ti3 rfl rfl hi8) ?_
    have hc11 := ((H.ro 0 rfl).at hx7 hi8).int
    refine sq (v := (I x6)) (rv_load1 Try.underlying3 rfl rfl hc11) ?_
    refine sq (v := (Sl ab_1 b_1 cb_1)) (rv_move rfl) ?_
    refine sq (v := (I s3)) (rv_move rfl) ?_
    obtain ⟨x12, hx13, h'⟩ := bind_some h
    clear h
    have h := h'; clear h'
    obtain ⟨b15, o16, hi14, -⟩ := (H.ro 1 rfl).ix hx13
    refine sq (v := (pt b15 o16)) (rv_ix Try.underlying24 ti3 rfl rfl hi14) ?_
    have hc17 := ((H.ro 1 rfl).at hx13 hi14).int
    refine sq (v := (I x12)) (rv_load1 Try.underlying3 rfl rfl hc17) ?_
    refine sq_end ?_
    intro σ18 hm19
    replace H := H.grow (hm19.mono fun _ h => h); clear hm19
    refine st (v := (B (x6 != x12))) (rv_neq (a := x6) (b := x12) rfl rfl) ?_
    refine w_end ?_
    refine q_then ?_
    refine cd_cond (x6 != x12) rfl (fun hb20 => ?_) (fun hb20 => ?_)
    ·replace h := bif_t hb20 h
     refine c_seq ?_
     refine rg ?_
     refine st (v := (B false)) (rv_assign rfl) ?_
     refine w_end ?_
     refine q_then ?_
     refine c_ret ?_
     refine q_blk_r ?_
     refine q_then_r ?_
     refine q_then_r ?_
     refine q_blk_r ?_
     obtain rfl := Option.some.inj h
     obtain rfl := hres _ rfl
     exact .inr (⟨_, rfl, rfl, _, σ18, fr_join ⟨rfl, trivial⟩, rfl, H.sel' [] rfl rfl⟩)
    ·replace h := bif_f hb20 h
     refine c_skip ?_
     refine q_blk ?_
     refine q_then ?_
     refine rg ?_
     refine st (v := (I s3)) (rv_move rfl) ?_
     refine st (v := (I (w64 (s3 + 1)))) (rv_add (a := s3) (b := 1) rfl rfl) ?_
     refine st (v := (I (w64 (s3 + 1)))) (rv_assign rfl) ?_
     refine w_end ?_
     refine q_then ?_
     obtain rfl := Option.some.inj h
     exact ⟨_, rfl, _, σ18, fr_join ⟨rfl, rfl, rfl, trivial⟩, rfl, H.sel' [0, 1] rfl rfl⟩
   ·replace h := bif_f hb5 h
    refine c_exit ?_
    refine q_then_x ?_
    refine q_then_x ?_
    refine q_blk_hit ?_
    obtain rfl := Option.some.inj h
    obtain rfl := hres _ rfl
    exact .inl ⟨_, rfl, rfl, _, σ4, fr_join trivial, rfl, H.sel' [] rfl rfl⟩
  ·clear hj
   have h := h'
   clear h' H
   rintro e a w (⟨t21, rfl, rfl, ρ, σ22, rfl, rfl, H⟩ | ⟨t23, rfl, rfl, ρ, σ24, rfl, rfl, H⟩)
   ·replace h := selim_l h
    refine q_then ?_
    refine c_seq ?_
    refine rg ?_
    refine st (v := (B true)) (rv_assign rfl) ?_
    refine w_end ?_
    refine q_then ?_
    refine c_ret ?_
    obtain rfl := Option.some.inj h
    exact fin_ret (v := (B true)) (results_ok Try.results37 (res_tmp (v := (B true)) rfl res_nil) rfl) ⟨rfl, rfl⟩ (H.sel' [] rfl rfl)
   ·replace h := selim_r h
    refine q_then_r ?_
    obtain rfl := Option.some.inj h
    exact fin_ret (v := (B t23)) (results_ok Try.results37 (res_tmp (v := (B t23)) rfl res_nil) rfl) ⟨rfl, rfl⟩ (H.sel' [] rfl rfl)

theorem c_laws_equalItem {a_0 : Int × (List Int) × Int} {b_1 : Int × (List Int) × Int} {aa_0_1 : Option Addr} {ca_0_1 : Nat} {ab_1_1 : Option Addr} {cb_1_1 : Nat} {r : Bool} (h : M.laws_equalItem a_0 b_1 = some r) :
    Cal2 Try.prog 31 [(.agg #[(I a_0.1), (Sl aa_0_1 a_0.2.1 ca_0_1), (I a_0.2.2)]), (.agg #[(I b_1.1), (Sl ab_1_1 b_1.2.1 cb_1_1), (I b_1.2.2)])] [Ch.ro 0 (Sl aa_0_1 a_0.2.1 ca_0_1) a_0.2.1, Ch.ro 0 (Sl ab_1_1 b_1.2.1 cb_1_1) b_1.2.1] (fun n0 v L => v = (B r) ∧ L = []) := by
 refine cal2 (n := 24) Try.func31 rfl rfl rfl rfl ?_
 intro S0 σ0 n0 hn0 H
 unfold M.laws_equalItem at h
 refine c_seq ?_
 refine rg ?_
 refine st_ex (ex_box (cs := [(I a_0.1), (Sl aa_0_1 a_0.2.1 ca_0_1), (I a_0.2.2)]) H hn0 rfl rfl) wn ?_
 rintro _ σ2 ⟨b1, rfl, H, -⟩
 refine st_ex (ex_box (cs := [(I b_1.1), (Sl ab_1_1 b_1.2.1 cb_1_1), (I b_1.2.2)]) H hn0 rfl rfl) wn ?_
 rintro _ σ4 ⟨b3, rfl, H, -⟩
 refine st (v := (B false)) (rv_assign rfl) ?_
 refine w_end ?_
 refine q_then ?_
 refine c_seq ?_
 refine rg ?_
 refine st (v := (pt b1 0)) (rv_fieldAddr (off := 0) (ft := 3) Try.underlying41 rfl ti3 rfl rfl) ?_
 have hc5 := H.cell (u := (I a_0.1)) (o' := 0) 1 0 rfl rfl rfl
 refine st (v := (I a_0.1)) (rv_load1 Try.underlying3 rfl rfl hc5) ?_
 refine st (v := (pt b3 0)) (rv_fieldAddr (off := 0) (ft := 3) Try.underlying41 rfl ti3 rfl rfl) ?_
 have hc6 := H.cell (u := (I b_1.1)) (o' := 0) 0 0 rfl rfl rfl
 refine st (v := (I b_1.1)) (rv_load1 Try.underlying3 rfl rfl hc6) ?_
 refine st (v := (B (a_0.1 == b_1.1))) (rv_eql (a := a_0.1) (b := b_1.1) rfl rfl) ?_
 refine st (v := (B (a_0.1 == b_1.1))) (rv_move rfl) ?_
 rcases Bool.eq_false_or_eq_true (a_0.1 == b_1.1) with hb7 | hb7
 ·replace h := bif_t hb7 h
  refine st_g (v := (pt b1 2)) (congrArg some hb7) (rv_fieldAddr (off := 2) (ft := 3) Try.underlying41 rfl ti3 rfl rfl) ?_
  have hc8 := H.cell (u := (I a_0.2.2)) (o' := 2) 1 2 rfl rfl rfl
  refine st_g (v := (I a_0.2.2)) (congrArg some hb7) (rv_load1 Try.underlying3 rfl rfl hc8) ?_
  refine st_g (v := (pt b3 2)) (congrArg some hb7) (rv_fieldAddr (off := 2) (ft := 3) Try.underlying41 rfl ti3 rfl rfl) ?_
  have hc9 := H.cell (u := (I b_1.2.2)) (o' := 2) 0 2 rfl rfl rfl
  refine st_g (v := (I b_1.2.2)) (congrArg some hb7) (rv_load1 Try.underlying3 rfl rfl hc9) ?_
  refine st_g (v := (B (a_0.2.2 == b_1.2.2))) (congrArg some hb7) (rv_eql (a := a_0.2.2) (b := b_1.2.2) rfl rfl) ?_
  refine st (v := (B (a_0.2.2 == b_1.2.2))) (rv_pick_t (congrArg B hb7) rfl) ?_
  refine st (v := (B (a_0.2.2 == b_1.2.2))) (rv_move rfl) ?_
  rcases Bool.eq_false_or_eq_true (a_0.2.2 == b_1.2.2) with hb10 | hb10
  ·replace h := bif_t hb10 h
   refine st_g (v := (pt b1 1)) (congrArg some hb10) (rv_fieldAddr (off := 1) (ft := 24) Try.underlying41 rfl ti24 rfl rfl) ?_
   have hc11 := H.cell (u := (Sl aa_0_1 a_0.2.1 ca_0_1)) (o' := 1) 1 1 rfl rfl rfl
   refine st_g (v := (Sl aa_0_1 a_0.2.1 ca_0_1)) (congrArg some hb10) (rv_load1 Try.underlying24 rfl rfl hc11) ?_
   refine st_g (v := (pt b3 1)) (congrArg some hb10) (rv_fieldAddr (off := 1) (ft := 24) Try.underlying41 rfl ti24 rfl rfl) ?_
   have hc12 := H.cell (u := (Sl ab_1_1 b_1.2.1 cb_1_1)) (o' := 1) 0 1 rfl rfl rfl
   refine st_g (v := (Sl ab_1_1 b_1.2.1 cb_1_1)) (congrArg some hb10) (rv_load1 Try.underlying24 rfl rfl hc12) ?_
   obtain ⟨r13, hx14, h'⟩ := bind_some h
   clear h
   have h := h'; clear h'
   have hc15 := c_laws_equalInts (aa_0 := aa_0_1) (ca_0 := ca_0_1) (ab_1 := ab_1_1) (cb_1 := cb_1_1) hx14
   refine st_call (cx_call hc15 (ent_f hc15.fn rfl) hn0 (show Hp S0 σ0 _ ([Ch.ro 0 (Sl aa_0_1 a_0.2.1 ca_0_1) a_0.2.1, Ch.ro 0 (Sl ab_1_1 b_1.2.1 cb_1_1) b_1.2.1] ++ [Ch.bx n0 b3 0 [(I b_1.1), (Sl ab_1_1 b_1.2.1 cb_1_1), (I b_1.2.2)] [] [], Ch.bx n0 b1 0 [(I a_0.1), (Sl aa_0_1 a_0.2.1 ca_0_1), (I a_0.2.2)] [] [], Ch.ro 0 (Sl aa_0_1 a_0.2.1 ca_0_1) a_0.2.1, Ch.ro 0 (Sl ab_1_1 b_1.2.1 cb_1_1) b_1.2.1]) from (H.sel' [2, 3, 0, 1, 2, 3] rfl rfl))) (wanted_yes rfl (by exact (congrArg some hb10))) ?_
   rintro _ σ16 ⟨_, ⟨rfl, rfl⟩, H, -⟩
   replace H : Hp S0 σ0 σ16 [Ch.bx n0 b3 0 [(I b_1.1), (Sl ab_1_1 b_1.2.1 cb_1_1), (I b_1.2.2)] [] [], Ch.bx n0 b1 0 [(I a_0.1), (Sl aa_0_1 a_0.2.1 ca_0_1), (I a_0.2.2)] [] [], Ch.ro 0 (Sl aa_0_1 a_0.2.1 ca_0_1) a_0.2.1, Ch.ro 0 (Sl ab_1_1 b_1.2.1 cb_1_1) b_1.2.1] := H
   refine st (v := (B r13)) (rv_pick_t (congrArg B hb10) rfl) ?_
   refine st (v := (B r13)) (rv_assign rfl) ?_
   refine w_end ?_
   refine q_then ?_
   refine c_ret ?_
   obtain rfl := Option.some.inj h
   exact fin_ret (v := (B r13)) (results_ok Try.results31 (res_tmp (v := (B r13)) rfl res_nil) rfl) ⟨rfl, rfl⟩ (H.sel' [] rfl rfl)
  ·replace h := bif_f hb10 h
   refine st_skip (congrArg some hb10) ?_
   refine st_skip (congrArg some hb10) ?_
   refine st_skip (congrArg some hb10) ?_
   refine st_skip (congrArg some hb10) ?_
   refine st_skip (congrArg some hb10) ?_
   refine st (v := (B false)) (rv_pick_f (congrArg B hb10) rfl) ?_
   refine st (v := (B false)) (rv_assign rfl) ?_
   refine w_end ?_
   refine q_then ?_
   refine c_ret ?_
   obtain rfl := Option.some.inj h
   exact fin_ret (v := (B false)) (results_ok Try.results31 (res_tmp (v := (B false)) rfl res_nil) rfl) ⟨rfl, rfl⟩ (H.sel' [] rfl rfl)
 ·replace h := bif_f hb7 h
  refine st_skip (congrArg some hb7) ?_
  refine st_skip (congrArg some hb7) ?_
  refine st_skip (congrArg some hb7) ?_
  refine st_skip (congrArg some hb7) ?_
  refine st_skip (congrArg some hb7) ?_
  refine st (v := (B false)) (rv_pick_f (congrArg B hb7) rfl) ?_
  refine st (v := (B false)) (rv_move rfl) ?_
  refine st_skip rfl ?_
  refine st_skip rfl ?_
  refine st_skip rfl ?_
  refine st_skip rfl ?_
  refine st_skip rfl ?_
  refine st (v := (B false)) (rv_pick_f rfl rfl) ?_
  refine st (v := (B false)) (rv_assign rfl) ?_
  refine w_end ?_
  refine q_then ?_
  refine c_ret ?_
  obtain rfl := Option.some.inj h
  exact fin_ret (v := (B false)) (results_ok Try.results31 (res_tmp (v := (B false)) rfl res_nil) rfl) ⟨rfl, rfl⟩ (H.sel' [] rfl rfl)

theorem c_laws_equalEntries {a_0 : List (Int × (Int × (List Int) × Int))} {b_1 : List (Int × (Int × (List Int) × Int))} {aa_0 : Option Addr} {ca_0 : Nat} {ab_1 : Option Addr} {cb_1 : Nat} {r : Bool} (h : M.laws_equalEntries a_0 b_1 = some r) :
    Cal2 Try.prog 63 [(Sl aa_0 a_0 ca_0), (Sl ab_1 b_1 cb_1)] [Ch.ro 0 (Sl aa_0 a_0 ca_0) a_0, Ch.ro 0 (Sl ab_1 b_1 cb_1) b_1] (fun n0 v L => v = (B r) ∧ L = []) := by
 refine cal2 (n := 42) Try.func63 rfl rfl rfl rfl ?_
 intro S0 σ0 n0 hn0 H
 unfold M.laws_equalEntries at h
 refine c_seq ?_
 refine rg ?_
 refine st (v := (B false)) (rv_assign rfl) ?_
 refine w_end ?_
 refine q_then ?_
 refine c_seq ?_
 refine c_seq ?_
 refine rg ?_
 refine st (v := (Sl aa_0 a_0 ca_0)) (rv_move rfl) ?_
 refine st (v := (I (a_0.length : Int))) (rv_len Try.underlying23 rfl) ?_
 refine st (v := (Sl ab_1 b_1 cb_1)) (rv_move rfl) ?_
 refine st (v := (I (b_1.length : Int))) (rv_len Try.underlying23 rfl) ?_
 refine st (v := (B ((a_0.length : Int) != (b_1.length : Int)))) (rv_neq (a := (a_0.length : Int)) (b := (b_1.length : Int)) rfl rfl) ?_
 refine w_end ?_
 refine q_then ?_
 refine cd_cond ((a_0.length : Int) != (b_1.length : Int)) rfl (fun hb1 => ?_) (fun hb1 => ?_)
 ·replace h := bif_t hb1 h
  refine c_seq ?_
  refine rg ?_
  refine st (v := (B false)) (rv_assign rfl) ?_
  refine w_end ?_
  refine q_then ?_
  refine c_ret ?_
  refine q_then_r ?_
  obtain rfl := Option.some.inj h
  exact fin_ret (v := (B false)) (results_ok Try.results63 (res_tmp (v := (B false)) rfl res_nil) rfl) ⟨rfl, rfl⟩ (H.sel' [] rfl rfl)
 ·replace h := bif_f hb1 h
  refine c_skip ?_
  refine q_then ?_
  refine c_seq ?_
  refine c_seq ?_
  refine rg ?_
  refine st (v := (I 0)) (rv_assign rfl) ?_
  refine w_end ?_
  refine q_then ?_
  obtain ⟨o2, hj, h'⟩ := bind_some h
  clear h
  refine c_cut (fun e a w => (∃ t, o2 = (.inl t) ∧ e = .normal ∧ ∃ (ρ : Nat → Value) (σ : St), a = fr 42 (updL ρ []) ∧ w = σ.w ∧ Hp S0 σ0 σ []) ∨ (∃ t, o2 = (.inr t) ∧ e = .ret ∧ ∃ (ρ : Nat → Value) (σ : St), a = fr 42 (updL ρ [(4, (B t))]) ∧ w = σ.w ∧ Hp S0 σ0 σ [])) ?_ ?_
  ·clear h'
   rename _ = some o2 => h
   refine c_blk ?_
   refine wp_loopM _ h (fun s3 a w => ∃ (ρ : Nat → Value) (σ : St), a = fr 42 (updL ρ [(0, (Sl aa_0 a_0 ca_0)), (1, (Sl ab_1 b_1 cb_1)), (5, (I s3))]) ∧ w = σ.w ∧ Hp S0 σ0 σ [Ch.ro 0 (Sl aa_0 a_0 ca_0) a_0, Ch.ro 0 (Sl ab_1 b_1 cb_1) b_1]) ⟨_, σ0, fr_join ⟨rfl, rfl, rfl, trivial⟩, rfl, H.sel' [0, 1] rfl rfl⟩ ?_
   clear h H
   rintro s3 a w o ⟨ρ, σ4, rfl, rfl, H⟩ h hres
   refine c_seq ?_
   refine c_seq ?_
   refine rg ?_
   refine st (v := (I s3)) (rv_move rfl) ?_
   refine st (v := (Sl aa_0 a_0 ca_0)) (rv_move rfl) ?_
   refine st (v := (I (a_0.length : Int))) (rv_len Try.underlying23 rfl) ?_
   refine st (v := (B (decide (s3 < (a_0.length : Int))))) (rv_lss (a := s3) (b := (a_0.length : Int)) rfl rfl) ?_
   refine w_end ?_
   refine q_then ?_
   refine cd_cond (decide (s3 < (a_0.length : Int))) rfl (fun hb5 => ?_) (fun hb5 => ?_)
   ·replace h := bif_t hb5 h
    refine c_skip ?_
    refine q_then ?_
    refine c_seq ?_
    refine c_blk ?_
    refine c_seq ?_
    obtain ⟨o6, hj, h'⟩ := bind_some h
    clear h
    refine c_cut (fun e a w => e = .normal ∧ ∃ (ρ : Nat → Value) (σ : St), a = fr 42 (updL ρ [(0, (Sl aa_0 a_0 ca_0)), (1, (Sl ab_1 b_1 cb_1)), (5, (I s3)), (41, (B o6))]) ∧ w = σ.w ∧ Hp S0 σ0 σ [Ch.ro 0 (Sl aa_0 a_0 ca_0) a_0, Ch.ro 0 (Sl ab_1 b_1 cb_1) b_1]) ?_ ?_
    ·clear h'
     rename _ = some o6 => h
     refine rgP (σ := σ4) 22 (by kernel_rfl) (by kernel_rfl) (by kernel_rfl) ?_
     refine sq (v := (Sl aa_0 a_0 ca_0)) (rv_move rfl) ?_
     refine sq (v := (I s3)) (rv_move rfl) ?_
     obtain ⟨x7, hx8, h'⟩ := bind_some h
     clear h
     have h := h'; clear h'
     obtain ⟨b10, o11, hi9, -⟩ := (H.ro 0 rfl).ix hx8
     refine sq (v := (pt b10 o11)) (rv_ix Try.underlying23 ti43 rfl rfl hi9) ?_
     refine sq (v := (pt b10 (o11 + 0))) (rv_fieldAddr (off := 0) (ft := 3) Try.underlying43 rfl ti3 rfl rfl) ?_
     have hc12 := ((H.ro 0 rfl).at hx8 hi9).fst.int
     refine sq (v := (I x7.1)) (rv_load1 Try.underlying3 rfl rfl hc12) ?_
     refine sq (v := (Sl ab_1 b_1 cb_1)) (rv_move rfl) ?_
     refine sq (v := (I s3)) (rv_move rfl) ?_
     obtain ⟨x13, hx14, h'⟩ := bind_some h
     clear h
     have h := h'; clear h'
     obtain ⟨b16, o17, hi15, -⟩ := (H.ro 1 rfl).ix hx14
     refine sq (v := (pt b16 o17)) (rv_ix Try.underlying23 ti43 rfl rfl hi15) ?_
     refine sq (v := (pt b16 (o17 + 0))) (rv_fieldAddr (off := 0) (ft := 3) Try.underlying43 rfl ti3 rfl rfl) ?_
     have hc18 := ((H.ro 1 rfl).at hx14 hi15).fst.int
     refine sq (v := (I x13.1)) (rv_load1 Try.underlying3 rfl rfl hc18) ?_
     refine sq (v := (B (x7.1 != x13.1))) (rv_neq (a := x7.1) (b := x13.1) rfl rfl) ?_
     refine sq (v := (B (x7.1 != x13.1))) (rv_move rfl) ?_
     rcases Bool.eq_false_or_eq_true (x7.1 != x13.1) with hb19 | hb19
     ·replace h := bif_t hb19 h
      refine sq_skip (congrArg some hb19) ?_
      refine sq_skip (congrArg some hb19) ?_
      refine sq_skip (congrArg some hb19) ?_
      refine sq_skip (congrArg some hb19) ?_
      refine sq_skip (congrArg some hb19) ?_
      refine sq_skip (congrArg some hb19) ?_
      refine sq_skip (congrArg some hb19) ?_
      refine sq_skip (congrArg some hb19) ?_
      refine sq_skip (congrArg some hb19) ?_
      refine sq_skip (congrArg some hb19) ?_
      refine sq_end ?_
      intro σ20 hm21
      replace H := H.grow (hm21.mono fun _ h => h); clear hm21
      refine st_skip (congrArg some hb19) ?_
      refine st_skip (congrArg some hb19) ?_
      refine st (v := (B true)) (rv_pick_t (congrArg B hb19) rfl) ?_
      refine w_end ?_
      obtain rfl := Option.some.inj h
      exact ⟨rfl, _, σ20, fr_join ⟨rfl, rfl, rfl, rfl, trivial⟩, rfl, H.sel' [0, 1] rfl rfl⟩
     ·replace h := bif_f hb19 h
      refine sq_g (v := (Sl aa_0 a_0 ca_0)) (congrArg some hb19) (rv_move rfl) ?_
      refine sq_g (v := (I s3)) (congrArg some hb19) (rv_move rfl) ?_
      obtain ⟨x22, hx23, h'⟩ := bind_some h
      clear h
      have h := h'; clear h'
      obtain ⟨b25, o26, hi24, -⟩ := (H.ro 0 rfl).ix hx23
      refine sq_g (v := (pt b25 o26)) (congrArg some hb19) (rv_ix Try.underlying23 ti43 rfl rfl hi24) ?_
      refine sq_g (v := (pt b25 (o26 + 1))) (congrArg some hb19) (rv_fieldAddr (off := 1) (ft := 41) Try.underlying43 rfl ti41 rfl rfl) ?_
      obtain ⟨_, ⟨_, _, rfl, rfl, ⟨_, _, rfl, ⟨_, rfl, hR31⟩, rfl⟩⟩, hl27, hc28⟩ := ((H.ro 0 rfl).at hx23 hi24).snd.cells
      obtain ⟨a29, c30, rfl⟩ := hR31.isSl
      replace H := H.add (d := Ch.ro 0 (Sl a29 x22.2.2.1 c30) x22.2.2.1) hR31 (fun _ h => h)
      clear hR31
      refine sq_g (v := (.agg #[(I x22.2.1), (Sl a29 x22.2.2.1 c30), (I x22.2.2.2)])) (congrArg some hb19) (rv_load Try.underlying41 rfl ti41 rfl hl27 hc28) ?_
      refine sq_g (v := (Sl ab_1 b_1 cb_1)) (congrArg some hb19) (rv_move rfl) ?_
      refine sq_g (v := (I s3)) (congrArg some hb19) (rv_move rfl) ?_
      obtain ⟨x32, hx33, h'⟩ := bind_some h
      clear h
      have h := h'; clear h'
      obtain ⟨b35, o36, hi34, -⟩ := (H.ro 2 rfl).ix hx33
      refine sq_g (v := (pt b35 o36)) (congrArg some hb19) (rv_ix Try.underlying23 ti43 rfl rfl hi34) ?_
      refine sq_g (v := (pt b35 (o36 + 1))) (congrArg some hb19) (rv_fieldAddr (off := 1) (ft := 41) Try.underlying43 rfl ti41 rfl rfl) ?_
      obtain ⟨_, ⟨_, _, rfl, rfl, ⟨_, _, rfl, ⟨_, rfl, hR41⟩, rfl⟩⟩, hl37, hc38⟩ := ((H.ro 2 rfl).at hx33 hi34).snd.cells
      obtain ⟨a39, c40, rfl⟩ := hR41.isSl
      replace H := H.add (d := Ch.ro 0 (Sl a39 x32.2.2.1 c40) x32.2.2.1) hR41 (fun _ h => h)
      clear hR41
      refine sq_g (v := (.agg #[(I x32.2.1), (Sl a39 x32.2.2.1 c40), (I x32.2.2.2)])) (congrArg some hb19) (rv_load Try.underlying41 rfl ti41 rfl hl37 hc38) ?_
      refine sq_end ?_
      intro σ42 hm43
      replace H := H.grow (hm43.mono fun _ h => h); clear hm43
      obtain ⟨r44, hx45, h'⟩ := bind_some h
      clear h
      have h := h'; clear h'
      have hc46 := c_laws_equalItem (aa_0_1 := a29) (ca_0_1 := c30) (ab_1_1 := a39) (cb_1_1 := c40) hx45
      refine st_call (cx_call hc46 (ent_f hc46.fn rfl) hn0 (show Hp S0 σ0 _ ([Ch.ro 0 (Sl a29 x22.2.2.1 c30) x22.2.2.1, Ch.ro 0 (Sl a39 x32.2.2.1 c40) x32.2.2.1] ++ [Ch.ro 0 (Sl a39 x32.2.2.1 c40) x32.2.2.1, Ch.ro 0 (Sl a29 x22.2.2.1 c30) x22.2.2.1, Ch.ro 0 (Sl aa_0 a_0 ca_0) a_0, Ch.ro 0 (Sl ab_1 b_1 cb_1) b_1]) from (H.sel' [1, 0, 0, 1, 2, 3] rfl rfl))) (wanted_yes rfl (by exact (congrArg some hb19))) ?_
      rintro _ σ47 ⟨_, ⟨rfl, rfl⟩, H, -⟩
      replace H : Hp S0 σ0 σ47 [Ch.ro 0 (Sl a39 x32.2.2.1 c40) x32.2.2.1, Ch.ro 0 (Sl a29 x22.2.2.1 c30) x22.2.2.1, Ch.ro 0 (Sl aa_0 a_0 ca_0) a_0, Ch.ro 0 (Sl ab_1 b_1 cb_1) b_1] := H
      refine st_g (v := (B (!r44))) (congrArg some hb19) (rv_not rfl) ?_
      refine st (v := (B (!r44))) (rv_pick_f (congrArg B hb19) rfl) ?_
      refine w_end ?_
      obtain rfl := Option.some.inj h
      exact ⟨rfl, _, σ47, fr_join ⟨rfl, rfl, rfl, rfl, trivial⟩, rfl, H.sel' [2, 3] rfl rfl⟩
    ·clear hj
     have h := h'
     clear h' H
     rintro e a w ⟨rfl, ρ, σ48, rfl, rfl, H⟩
     refine q_then ?_
     refine cd_cond o6 rfl (fun hb49 => ?_) (fun hb49 => ?_)
     ·replace h := bif_t hb49 h
      refine c_seq ?_
      refine rg ?_
      refine st (v := (B false)) (rv_assign rfl) ?_
      refine w_end ?_
      refine q_then ?_
      refine c_ret ?_
      refine q_blk_r ?_
      refine q_then_r ?_
      refine q_then_r ?_
      refine q_blk_r ?_
      obtain rfl := Option.some.inj h
      obtain rfl := hres _ rfl
      exact .inr (⟨_, rfl, rfl, _, σ48, fr_join ⟨rfl, trivial⟩, rfl, H.sel' [] rfl rfl⟩)
     ·replace h := bif_f hb49 h
      refine c_skip ?_
      refine q_blk ?_
      refine q_then ?_
      refine rg ?_
      refine st (v := (I s3)) (rv_move rfl) ?_
      refine st (v := (I (w64 (s3 + 1)))) (rv_add (a := s3) (b := 1) rfl rfl) ?_
      refine st (v := (I (w64 (s3 + 1)))) (rv_assign rfl) ?_
      refine w_end ?_
      refine q_then ?_
      obtain rfl := Option.some.inj h
      exact ⟨_, rfl, _, σ48, fr_join ⟨rfl, rfl, rfl, trivial⟩, rfl, H.sel' [0, 1] rfl rfl⟩
   ·replace h := bif_f hb5 h
    refine c_exit ?_
    refine q_then_x ?_
    refine q_then_x ?_
    refine q_blk_hit ?_
    obtain rfl := Option.some.inj h
    obtain rfl := hres _ rfl
    exact .inl ⟨_, rfl, rfl, _, σ4, fr_join trivial, rfl, H.sel' [] rfl rfl⟩
  ·clear hj
   have h := h'
   clear h' H
   rintro e a w (⟨t50, rfl, rfl, ρ, σ51, rfl, rfl, H⟩ | ⟨t52, rfl, rfl, ρ, σ53, rfl, rfl, H⟩)
   ·replace h := selim_l h
    refine q_then ?_
    refine c_seq ?_
    refine rg ?_
    refine st (v := (B true)) (rv_assign rfl) ?_
    refine w_end ?_
    refine q_then ?_
    refine c_ret ?_
    obtain rfl := Option.some.inj h
    exact fin_ret (v := (B true)) (results_ok Try.results63 (res_tmp (v := (B true)) rfl res_nil) rfl) ⟨rfl, rfl⟩ (H.sel' [] rfl rfl)
   ·replace h := selim_r h
    refine q_then_r ?_
    obtain rfl := Option.some.inj h
    exact fin_ret (v := (B t52)) (results_ok Try.results63 (res_tmp (v := (B t52)) rfl res_nil) rfl) ⟨rfl, rfl⟩ (H.sel' [] rfl rfl)

theorem c_laws_equalHistory {a_0 : (List (Int × (Int × (List Int) × Int))) × (List Int)} {b_1 : (List (Int × (Int × (List Int) × Int))) × (List Int)} {aa_0_0 : Option Addr} {ca_0_0 : Nat} {aa_0_1 : Option Addr} {ca_0_1 : Nat} {ab_1_0 : Option Addr} {cb_1_0 : Nat} {ab_1_1 : Option Addr} {cb_1_1 : Nat} {r : Bool} (h : M.laws_equalHistory a_0 b_1 = some r) :
    Cal2 Try.prog 29 [(.agg #[(Sl aa_0_0 a_0.1 ca_0_0), (Sl aa_0_1 a_0.2 ca_0_1)]), (.agg #[(Sl ab_1_0 b_1.1 cb_1_0), (Sl ab_1_1 b_1.2 cb_1_1)])] [Ch.ro 0 (Sl aa_0_0 a_0.1 ca_0_0) a_0.1, Ch.ro 0 (Sl aa_0_1 a_0.2 ca_0_1) a_0.2, Ch.ro 0 (Sl ab_1_0 b_1.1 cb_1_0) b_1.1, Ch.ro 0 (Sl ab_1_1 b_1.2 cb_1_1) b_1.2] (fun n0 v L => v = (B r) ∧ L = []) := by
 refine cal2 (n := 17) Try.func29 rfl rfl rfl rfl ?_
 intro S0 σ0 n0 hn0 H
 unfold M.laws_equalHistory at h
 refine c_seq ?_
 refine rg ?_
 refine st_ex (ex_box (cs := [(Sl aa_0_0 a_0.1 ca_0_0), (Sl aa_0_1 a_0.2 ca_0_1)]) H hn0 rfl rfl) wn ?_
 rintro _ σ2 ⟨b1, rfl, H, -⟩
 refine st_ex (ex_box (cs := [(Sl ab_1_0 b_1.1 cb_1_0), (Sl ab_1_1 b_1.2 cb_1_1)]) H hn0 rfl rfl) wn ?_
 rintro _ σ4 ⟨b3, rfl, H, -⟩
 refine st (v := (B false)) (rv_assign rfl) ?_
 refine w_end ?_
 refine q_then ?_
 refine c_seq ?_
 refine rg ?_
 refine st (v := (pt b1 0)) (rv_fieldAddr (off := 0) (ft := 23) Try.underlying26 rfl ti23 rfl rfl) ?_
 have hc5 := H.cell (u := (Sl aa_0_0 a_0.1 ca_0_0)) (o' := 0) 1 0 rfl rfl rfl
 refine st (v := (Sl aa_0_0 a_0.1 ca_0_0)) (rv_load1 Try.underlying23 rfl rfl hc5) ?_
 refine st (v := (pt b3 0)) (rv_fieldAddr (off := 0) (ft := 23) Try.underlying26 rfl ti23 rfl rfl) ?_
 have hc6 := H.cell (u := (Sl ab_1_0 b_1.1 cb_1_0)) (o' := 0) 0 0 rfl rfl rfl
 refine st (v := (Sl ab_1_0 b_1.1 cb_1_0)) (rv_load1 Try.underlying23 rfl rfl hc6) ?_
 obtain ⟨r7, hx8, h'⟩ := bind_some h
 clear h
 have h := h'; clear h'
 have hc9 := c_laws_equalEntries (aa_0 := aa_0_0) (ca_0 := ca_0_0) (ab_1 := ab_1_0) (cb_1 := cb_1_0) hx8
 refine st_call (cx_call hc9 (ent_f hc9.fn rfl) hn0 (show Hp S0 σ0 _ ([Ch.ro 0 (Sl aa_0_0 a_0.1 ca_0_0) a_0.1, Ch.ro 0 (Sl ab_1_0 b_1.1 cb_1_0) b_1.1] ++ [Ch.bx n0 b3 0 [(Sl ab_1_0 b_1.1 cb_1_0), (Sl ab_1_1 b_1.2 cb_1_1)] [] [], Ch.bx n0 b1 0 [(Sl aa_0_0 a_0.1 ca_0_0), (Sl aa_0_1 a_0.2 ca_0_1)] [] [], Ch.ro 0 (Sl aa_0_0 a_0.1 ca_0_0) a_0.1, Ch.ro 0 (Sl aa_0_1 a_0.2 ca_0_1) a_0.2, Ch.ro 0 (Sl ab_1_0 b_1.1 cb_1_0) b_1.1, Ch.ro 0 (Sl ab_1_1 b_1.2 cb_1_1) b_1.2]) from (H.sel' [2, 4, 0, 1, 2, 3, 4, 5] rfl rfl))) wn ?_
 rintro _ σ10 ⟨_, ⟨rfl, rfl⟩, H, -⟩
 replace H : Hp S0 σ0 σ10 [Ch.bx n0 b3 0 [(Sl ab_1_0 b_1.1 cb_1_0), (Sl ab_1_1 b_1.2 cb_1_1)] [] [], Ch.bx n0 b1 0 [(Sl aa_0_0 a_0.1 ca_0_0), (Sl aa_0_1 a_0.2 ca_0_1)] [] [], Ch.ro 0 (Sl aa_0_0 a_0.1 ca_0_0) a_0.1, Ch.ro 0 (Sl aa_0_1 a_0.2 ca_0_1) a_0.2, Ch.ro 0 (Sl ab_1_0 b_1.1 cb_1_0) b_1.1, Ch.ro 0 (Sl ab_1_1 b_1.2 cb_1_1) b_1.2] := H
 refine st (v := (B r7)) (rv_move rfl) ?_
 rcases Bool.eq_false_or_eq_true r7 with hb11 | hb11
 ·replace h := bif_t hb11 h
  refine st_g (v := (pt b1 1)) (congrArg some hb11) (rv_fieldAddr (off := 1) (ft := 24) Try.underlying26 rfl ti24 rfl rfl) ?_
  have hc12 := H.cell (u := (Sl aa_0_1 a_0.2 ca_0_1)) (o' := 1) 1 1 rfl rfl rfl
  refine st_g (v := (Sl aa_0_1 a_0.2 ca_0_1)) (congrArg some hb11) (rv_load1 Try.underlying24 rfl rfl hc12) ?_
  refine st_g (v := (pt b3 1)) (congrArg some hb11) (rv_fieldAddr (off := 1) (ft := 24) Try.underlying26 rfl ti24 rfl rfl) ?_
  have hc13 := H.cell (u := (Sl ab_1_1 b_1.2 cb_1_1)) (o' := 1) 0 1 rfl rfl rfl
  refine st_g (v := (Sl ab_1_1 b_1.2 cb_1_1)) (congrArg some hb11) (rv_load1 Try.underlying24 rfl rfl hc13) ?_
  obtain ⟨r14, hx15, h'⟩ := bind_some h
  clear h
  have h := h'; clear h'
  have hc16 := c_laws_equalInts (aa_0 := aa_0_1) (ca_0 := ca_0_1) (ab_1 := ab_1_1) (cb_1 := cb_1_1) hx15
  refine st_call (cx_call hc16 (ent_f hc16.fn rfl) hn0 (show Hp S0 σ0 _ ([Ch.ro 0 (Sl aa_0_1 a_0.2 ca_0_1) a_0.2, Ch.ro 0 (Sl ab_1_1 b_1.2 cb_1_1) b_1.2] ++ [Ch.bx n0 b3 0 [(Sl ab_1_0 b_1.1 cb_1_0), (Sl ab_1_1 b_1.2 cb_1_1)] [] [], Ch.bx n0 b1 0 [(Sl aa_0_0 a_0.1 ca_0_0), (Sl aa_0_1 a_0.2 ca_0_1)] [] [], Ch.ro 0 (Sl aa_0_0 a_0.1 ca_0_0) a_0.1, Ch.ro 0 (Sl aa_0_1 a_0.2 ca_0_1) a_0.2, Ch.ro 0 (Sl ab_1_0 b_1.1 cb_1_0) b_1.1, Ch.ro 0 (Sl ab_1_1 b_1.2 cb_1_1) b_1.2]) from (H.sel' [3, 5, 0, 1, 2, 3, 4, 5] rfl rfl))) (wanted_yes rfl (by exact (congrArg some hb11))) ?_
  rintro _ σ17 ⟨_, ⟨rfl, rfl⟩, H, -⟩
  replace H : Hp S0 σ0 σ17 [Ch.bx n0 b3 0 [(Sl ab_1_0 b_1.1 cb_1_0), (Sl ab_1_1 b_1.2 cb_1_1)] [] [], Ch.bx n0 b1 0 [(Sl aa_0_0 a_0.1 ca_0_0), (Sl aa_0_1 a_0.2 ca_0_1)] [] [], Ch.ro 0 (Sl aa_0_0 a_0.1 ca_0_0) a_0.1, Ch.ro 0 (Sl aa_0_1 a_0.2 ca_0_1) a_0.2, Ch.ro 0 (Sl ab_1_0 b_1.1 cb_1_0) b_1.1, Ch.ro 0 (Sl ab_1_1 b_1.2 cb_1_1) b_1.2] := H
  refine st (v := (B r14)) (rv_pick_t (congrArg B hb11) rfl) ?_
  refine st (v := (B r14)) (rv_assign rfl) ?_
  refine w_end ?_
  refine q_then ?_
  refine c_ret ?_
  obtain rfl := Option.some.inj h
  exact fin_ret (v := (B r14)) (results_ok Try.results29 (res_tmp (v := (B r14)) rfl res_nil) rfl) ⟨rfl, rfl⟩ (H.sel' [] rfl rfl)
 ·replace h := bif_f hb11 h
  refine st_skip (congrArg some hb11) ?_
  refine st_skip (congrArg some hb11) ?_
  refine st_skip (congrArg some hb11) ?_
  refine st_skip (congrArg some hb11) ?_
  refine st_skip (congrArg some hb11) ?_
  refine st (v := (B false)) (rv_pick_f (congrArg B hb11) rfl) ?_
  refine st (v := (B false)) (rv_assign rfl) ?_
  refine w_end ?_
  refine q_then ?_
  refine c_ret ?_
  obtain rfl := Option.some.inj h
  exact fin_ret (v := (B false)) (results_ok Try.results29 (res_tmp (v := (B false)) rfl res_nil) rfl) ⟨rfl, rfl⟩ (H.sel' [] rfl rfl)

theorem c_impl_validMoment {t_0 : Int}  {r : Bool} (h : M.impl_validMoment t_0 = some r) :
    Cal2 Try.prog 46 [(I t_0)] [] (fun n0 v L => v = (B r) ∧ L = []) := by
 refine cal2 (n := 9) Try.func46 rfl rfl rfl rfl ?_
 intro S0 σ0 n0 hn0 H
 unfold M.impl_validMoment at h
 refine c_seq ?_
 refine rg ?_
 refine st (v := (B false)) (rv_assign rfl) ?_
 refine w_end ?_
 refine q_then ?_
 refine c_seq ?_
 refine rg ?_
 refine st (v := (I t_0)) (rv_move rfl) ?_
 refine st (v := (B (decide (0 ≤ t_0)))) (rv_geq (a := t_0) (b := 0) rfl rfl) ?_
 refine st (v := (B (decide (0 ≤ t_0)))) (rv_move rfl) ?_
 rcases Bool.eq_false_or_eq_true (decide (0 ≤ t_0)) with hb1 | hb1
 ·replace h := bif_t hb1 h
  refine st_g (v := (I t_0)) (congrArg some hb1) (rv_move rfl) ?_
  refine st_g (v := (B (decide (t_0 ≤ 1000)))) (congrArg some hb1) (rv_leq (a := t_0) (b := 1000) rfl rfl) ?_
  refine st (v := (B (decide (t_0 ≤ 1000)))) (rv_pick_t (congrArg B hb1) rfl) ?_
  refine st (v := (B (decide (t_0 ≤ 1000)))) (rv_assign rfl) ?_
  refine w_end ?_
  refine q_then ?_
  refine c_ret ?_
  obtain rfl := Option.some.inj h
  exact fin_ret (v := (B (decide (t_0 ≤ 1000)))) (results_ok Try.results46 (res_tmp (v := (B (decide (t_0 ≤ 1000)))) rfl res_nil) rfl) ⟨rfl, rfl⟩ (H.sel' [] rfl rfl)
 ·replace h := bif_f hb1 h
  refine st_skip (congrArg some hb1) ?_
  refine st_skip (congrArg some hb1) ?_
  refine st (v := (B false)) (rv_pick_f (congrArg B hb1) rfl) ?_
  refine st (v := (B false)) (rv_assign rfl) ?_
  refine w_end ?_
  refine q_then ?_
  refine c_ret ?_
  obtain rfl := Option.some.inj h
  exact fin_ret (v := (B false)) (results_ok Try.results46 (res_tmp (v := (B false)) rfl res_nil) rfl) ⟨rfl, rfl⟩ (H.sel' [] rfl rfl)

theorem c_slices_isNaN_int {x_0 : Int}  {r : Bool} (h : M.slices_isNaN_int x_0 = some r) :
    Cal2 Try.prog 104 [(I x_0)] [] (fun n0 v L => v = (B r) ∧ L = []) := by
 refine cal2 (n := 6) Try.func104 rfl rfl rfl rfl ?_
 intro S0 σ0 n0 hn0 H
 unfold M.slices_isNaN_int at h
 refine c_seq ?_
 refine rg ?_
 refine st (v := (B false)) (rv_assign rfl) ?_
 refine w_end ?_
 refine q_then ?_
 refine c_seq ?_
 refine rg ?_
 refine st (v := (I x_0)) (rv_move rfl) ?_
 refine st (v := (I x_0)) (rv_move rfl) ?_
 refine st (v := (B (x_0 != x_0))) (rv_neq (a := x_0) (b := x_0) rfl rfl) ?_
 refine st (v := (B (x_0 != x_0))) (rv_assign rfl) ?_
 refine w_end ?_
 refine q_then ?_
 refine c_ret ?_
 obtain rfl := Option.some.inj h
 exact fin_ret (v := (B (x_0 != x_0))) (results_ok Try.results104 (res_tmp (v := (B (x_0 != x_0))) rfl res_nil) rfl) ⟨rfl, rfl⟩ (H.sel' [] rfl rfl)

end Go.Vs
