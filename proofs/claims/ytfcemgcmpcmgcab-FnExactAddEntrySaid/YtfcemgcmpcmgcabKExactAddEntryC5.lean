/- The functions compute what their models say. -/
import Derived.Test.YtfcemgcmpcmgcabKExactAddEntryC4
set_option linter.unusedVariables false
set_option linter.unusedSimpArgs false
set_option maxRecDepth 20000
namespace Go.Vs
open Go Go.Proofs
attribute [local irreducible] Code.wp Code.wpIn wpList wpListIn wpQuiet Calls CallsIn

theorem c_impl_AddEntryD {h_0 : (List (Int × (Int × (List Int) × Int))) × (List Int)} {e_1 : Int × (Int × (List Int) × Int)} {t_2 : Int} {ah_0_0 : Option Addr} {ch_0_0 : Nat} {ah_0_1 : Option Addr} {ch_0_1 : Nat} {ae_1_1_1 : Option Addr} {ce_1_1_1 : Nat} {r : ((List (Int × (Int × (List Int) × Int))) × (List Int)) × Bool} (h : M.impl_AddEntryD h_0 e_1 t_2 = some r) :
    Cal2 Try.prog 28 [(.agg #[(Sl ah_0_0 h_0.1 ch_0_0), (Sl ah_0_1 h_0.2 ch_0_1)]), (.agg #[(I e_1.1), (I e_1.2.1), (Sl ae_1_1_1 e_1.2.2.1 ce_1_1_1), (I e_1.2.2.2)]), (I t_2)] [Ch.ro 0 (Sl ah_0_0 h_0.1 ch_0_0) h_0.1, Ch.ro 0 (Sl ah_0_1 h_0.2 ch_0_1) h_0.2, Ch.ro 0 (Sl ae_1_1_1 e_1.2.2.1 ce_1_1_1) e_1.2.2.1] (fun n0 v L => ∃ (az1 : Option Addr), ∃ (cz2 : Nat), ∃ (Kz3 : List Ch), ∃ (az6 : Option Addr), ∃ (cz7 : Nat), v = (.tuple #[(.agg #[(Sl az1 r.1.1 cz2), (Sl az6 r.1.2 cz7)]), (B r.2)]) ∧ L = [Ch.big Kz3, Ch.own n0 n0 (Sl az6 r.1.2 cz7) r.1.2] ∧ Dp 0 (Sl az1 r.1.1 cz2) r.1.1 Kz3 ∧ cz2 = r.1.1.length) := by
 refine cal2 (n := 31) Try.func28 rfl rfl rfl rfl ?_
 intro S0 σ0 n0 hn0 H
 unfold M.impl_AddEntryD at h
 refine c_seq ?_
 refine rg ?_
 refine st_ex (ex_box (cs := [(Sl ah_0_0 h_0.1 ch_0_0), (Sl ah_0_1 h_0.2 ch_0_1)]) H hn0 rfl rfl) wn ?_
 rintro _ σ2 ⟨b1, rfl, H, -⟩
 refine st_ex (ex_box (cs := [(I e_1.1), (I e_1.2.1), (Sl ae_1_1_1 e_1.2.2.1 ce_1_1_1), (I e_1.2.2.2)]) H hn0 rfl rfl) wn ?_
 rintro _ σ4 ⟨b3, rfl, H, -⟩
 refine st_ex (ex_alloc (cs := [(.slice none 0 0), (.slice none 0 0)]) H hn0 ti26 rfl) wn ?_
 rintro _ σ6 ⟨b5, rfl, H, -⟩
 refine st (v := (B false)) (rv_assign rfl) ?_
 refine w_end ?_
 refine q_then ?_
 refine c_seq ?_
 have hc7 := H.cell (u := (Sl ah_0_0 h_0.1 ch_0_0)) (o' := 0) 2 0 rfl rfl rfl
 obtain ⟨r8, hx9, h'⟩ := bind_some h
 clear h
 have h := h'; clear h'
 have hc10 := c_slices_Clone_impl_Entry_impl_Entry (as_0 := ah_0_0) (cs_0 := ch_0_0) hx9
 have hc13 := H.cells 1 rfl
 obtain ⟨xs15, hx16, h'⟩ := bind_some h
 clear h
 have h := h'; clear h'
 have hc19 := H.cell (u := (Sl ah_0_1 h_0.2 ch_0_1)) (o' := 1) 2 1 rfl rfl rfl
 obtain ⟨r20, hx21, h'⟩ := bind_some h
 clear h
 have h := h'; clear h'
 have hc22 := c_slices_Clone_int_int (as_0 := ah_0_1) (cs_0 := ch_0_1) hx21
 obtain ⟨xs26, hx27, h'⟩ := bind_some h
 clear h
 have h := h'; clear h'
 have Hs := H
 refine rg2 (σ := σ6) (Nm := ((((Option Addr) × (Nat)) × ((Nat) × ((Option Addr) × (Nat)))) × (((Option Addr) × ((Nat) × (Nat))) × ((Option Addr) × ((Nat) × (Nat)))))) 14 [2, 4, 5, 8, 10, 11, 13] [[false, false, false, false, false, false, false], [true, false, false, false, false, false, false], [false, true, false, false, false, false, false], [false, false, false, false, true, false, false], [false, false, false, false, false, false, true], [true, true, false, false, false, false, false], [true, false, false, false, true, false, false], [true, false, false, false, false, false, true], [false, true, false, false, true, false, false], [false, true, false, false, false, false, true], [false, false, false, false, true, false, true], [true, true, true, false, false, false, false], [true, true, false, false, true, false, false], [true, true, false, false, false, false, true], [true, false, false, false, true, false, true], [false, true, false, false, true, false, true], [true, true, true, true, false, false, false], [true, true, true, false, true, false, false], [true, true, true, false, false, false, true], [true, true, false, false, true, false, true], [true, true, true, true, true, false, false], [true, true, true, true, false, false, true], [true, true, true, false, true, false, true], [true, true, true, true, true, true, false], [true, true, true, true, true, false, true], [true, true, true, true, true, true, true]] [[(0, 0), (2, 2), (3, 3), (4, 4), (8, 8), (9, 9), (10, 10), (15, 15)], [(0, 0), (2, 2), (3, 3), (4, 4), (8, 8), (9, 9), (10, 10), (15, 15)], [(0, 1), (2, 5), (3, 6), (4, 7), (8, 12), (9, 13), (10, 14), (15, 19)], [(0, 0), (1, 1), (3, 3), (4, 4), (6, 6), (7, 7), (10, 10), (14, 14)], [(0, 2), (1, 5), (3, 8), (4, 9), (6, 12), (7, 13), (10, 15), (14, 19)], [(5, 11), (12, 17), (13, 18), (19, 22)], [(0, 0), (1, 1), (2, 2), (3, 3), (4, 4), (5, 5), (6, 6), (7, 7), (8, 8), (9, 9), (10, 10), (11, 11), (12, 12), (13, 13), (14, 14), (15, 15), (17, 17), (18, 18), (19, 19), (22, 22)], [(0, 0), (1, 1), (2, 2), (3, 3), (4, 4), (5, 5), (6, 6), (7, 7), (8, 8), (9, 9), (10, 10), (11, 11), (12, 12), (13, 13), (14, 14), (15, 15), (17, 17), (18, 18), (19, 19), (22, 22)], [(11, 16), (17, 20), (18, 21), (22, 24)], [(0, 0), (1, 1), (2, 2), (4, 4), (5, 5), (7, 7), (9, 9), (11, 11), (13, 13), (16, 16), (18, 18), (21, 21)], [(0, 3), (1, 6), (2, 8), (4, 10), (5, 12), (7, 14), (9, 15), (11, 17), (13, 19), (16, 20), (18, 22), (21, 24)], [(20, 23), (24, 25)], [(23, 23), (25, 25)], [(0, 4), (1, 7), (2, 9), (3, 10), (5, 13), (6, 14), (8, 15), (11, 18), (12, 19), (16, 21), (17, 22), (20, 24), (23, 25)]] 25 [fun ((((a11, c12), (b14, (a17, c18))), ((a23, (c24, b25)), (a28, (c29, b30)))) : ((((Option Addr) × (Nat)) × ((Nat) × ((Option Addr) × (Nat)))) × (((Option Addr) × ((Nat) × (Nat))) × ((Option Addr) × ((Nat) × (Nat)))))) => fun σm => Hp S0 σ0 σm [Ch.bx n0 b5 0 [(.slice none 0 0), (.slice none 0 0)] [] [], Ch.bx n0 b3 0 [(I e_1.1), (I e_1.2.1), (Sl ae_1_1_1 e_1.2.2.1 ce_1_1_1), (I e_1.2.2.2)] [] [], Ch.bx n0 b1 0 [(Sl ah_0_0 h_0.1 ch_0_0), (Sl ah_0_1 h_0.2 ch_0_1)] [] [], Ch.ro 0 (Sl ah_0_0 h_0.1 ch_0_0) h_0.1, Ch.ro 0 (Sl ah_0_1 h_0.2 ch_0_1) h_0.2, Ch.ro 0 (Sl ae_1_1_1 e_1.2.2.1 ce_1_1_1) e_1.2.2.1] ∧ Md (cov []) σ6 σm, fun ((((a11, c12), (b14, (a17, c18))), ((a23, (c24, b25)), (a28, (c29, b30)))) : ((((Option Addr) × (Nat)) × ((Nat) × ((Option Addr) × (Nat)))) × (((Option Addr) × ((Nat) × (Nat))) × ((Option Addr) × ((Nat) × (Nat)))))) => fun σm => Hp S0 σ0 σm [Ch.own n0 0 (Sl a11 r8 c12) r8, Ch.bx n0 b5 0 [(.slice none 0 0), (.slice none 0 0)] [] [], Ch.bx n0 b3 0 [(I e_1.1), (I e_1.2.1), (Sl ae_1_1_1 e_1.2.2.1 ce_1_1_1), (I e_1.2.2.2)] [] [], Ch.bx n0 b1 0 [(Sl ah_0_0 h_0.1 ch_0_0), (Sl ah_0_1 h_0.2 ch_0_1)] [] [], Ch.ro 0 (Sl ah_0_0 h_0.1 ch_0_0) h_0.1, Ch.ro 0 (Sl ah_0_1 h_0.2 ch_0_1) h_0.2, Ch.ro 0 (Sl ae_1_1_1 e_1.2.2.1 ce_1_1_1) e_1.2.2.1] ∧ Md (cov []) σ6 σm, fun ((((a11, c12), (b14, (a17, c18))), ((a23, (c24, b25)), (a28, (c29, b30)))) : ((((Option Addr) × (Nat)) × ((Nat) × ((Option Addr) × (Nat)))) × (((Option Addr) × ((Nat) × (Nat))) × ((Option Addr) × ((Nat) × (Nat)))))) => fun σm => Hp S0 σ0 σm [Ch.own n0 0 (Sl (some ⟨b14, 0, none⟩) ([(e_1.1, (e_1.2.1, e_1.2.2.1, e_1.2.2.2))] : List (Int × (Int × (List Int) × Int))) 1) ([(e_1.1, (e_1.2.1, e_1.2.2.1, e_1.2.2.2))] : List (Int × (Int × (List Int) × Int))), Ch.bx n0 b5 0 [(.slice none 0 0), (.slice none 0 0)] [] [], Ch.bx n0 b3 0 [(I e_1.1), (I e_1.2.1), (Sl ae_1_1_1 e_1.2.2.1 ce_1_1_1), (I e_1.2.2.2)] [] [], Ch.bx n0 b1 0 [(Sl ah_0_0 h_0.1 ch_0_0), (Sl ah_0_1 h_0.2 ch_0_1)] [] [], Ch.ro 0 (Sl ah_0_0 h_0.1 ch_0_0) h_0.1, Ch.ro 0 (Sl ah_0_1 h_0.2 ch_0_1) h_0.2, Ch.ro 0 (Sl ae_1_1_1 e_1.2.2.1 ce_1_1_1) e_1.2.2.1] ∧ Md (cov []) σ6 σm, fun ((((a11, c12), (b14, (a17, c18))), ((a23, (c24, b25)), (a28, (c29, b30)))) : ((((Option Addr) × (Nat)) × ((Nat) × ((Option Addr) × (Nat)))) × (((Option Addr) × ((Nat) × (Nat))) × ((Option Addr) × ((Nat) × (Nat)))))) => fun σm => Hp S0 σ0 σm [Ch.own n0 n0 (Sl (some ⟨b25, 0, none⟩) ([t_2] : List Int) 1) ([t_2] : List Int), Ch.bx n0 b5 0 [(.slice none 0 0), (.slice none 0 0)] [] [], Ch.bx n0 b3 0 [(I e_1.1), (I e_1.2.1), (Sl ae_1_1_1 e_1.2.2.1 ce_1_1_1), (I e_1.2.2.2)] [] [], Ch.bx n0 b1 0 [(Sl ah_0_0 h_0.1 ch_0_0), (Sl ah_0_1 h_0.2 ch_0_1)] [] [], Ch.ro 0 (Sl ah_0_0 h_0.1 ch_0_0) h_0.1, Ch.ro 0 (Sl ah_0_1 h_0.2 ch_0_1) h_0.2, Ch.ro 0 (Sl ae_1_1_1 e_1.2.2.1 ce_1_1_1) e_1.2.2.1] ∧ Md (cov []) σ6 σm, fun ((((a11, c12), (b14, (a17, c18))), ((a23, (c24, b25)), (a28, (c29, b30)))) : ((((Option Addr) × (Nat)) × ((Nat) × ((Option Addr) × (Nat)))) × (((Option Addr) × ((Nat) × (Nat))) × ((Option Addr) × ((Nat) × (Nat)))))) => fun σm => Hp S0 σ0 σm [Ch.bx n0 b30 0 [(.slice none 0 0), (.slice none 0 0)] [] [], Ch.bx n0 b5 0 [(.slice none 0 0), (.slice none 0 0)] [] [], Ch.bx n0 b3 0 [(I e_1.1), (I e_1.2.1), (Sl ae_1_1_1 e_1.2.2.1 ce_1_1_1), (I e_1.2.2.2)] [] [], Ch.bx n0 b1 0 [(Sl ah_0_0 h_0.1 ch_0_0), (Sl ah_0_1 h_0.2 ch_0_1)] [] [], Ch.ro 0 (Sl ah_0_0 h_0.1 ch_0_0) h_0.1, Ch.ro 0 (Sl ah_0_1 h_0.2 ch_0_1) h_0.2, Ch.ro 0 (Sl ae_1_1_1 e_1.2.2.1 ce_1_1_1) e_1.2.2.1] ∧ Md (cov []) σ6 σm, fun ((((a11, c12), (b14, (a17, c18))), ((a23, (c24, b25)), (a28, (c29, b30)))) : ((((Option Addr) × (Nat)) × ((Nat) × ((Option Addr) × (Nat)))) × (((Option Addr) × ((Nat) × (Nat))) × ((Option Addr) × ((Nat) × (Nat)))))) => fun σm => Hp S0 σ0 σm [Ch.own n0 0 (Sl (some ⟨b14, 0, none⟩) ([(e_1.1, (e_1.2.1, e_1.2.2.1, e_1.2.2.2))] : List (Int × (Int × (List Int) × Int))) 1) ([(e_1.1, (e_1.2.1, e_1.2.2.1, e_1.2.2.2))] : List (Int × (Int × (List Int) × Int))), Ch.own n0 0 (Sl a11 r8 c12) r8, Ch.bx n0 b5 0 [(.slice none 0 0), (.slice none 0 0)] [] [], Ch.bx n0 b3 0 [(I e_1.1), (I e_1.2.1), (Sl ae_1_1_1 e_1.2.2.1 ce_1_1_1), (I e_1.2.2.2)] [] [], Ch.bx n0 b1 0 [(Sl ah_0_0 h_0.1 ch_0_0), (Sl ah_0_1 h_0.2 ch_0_1)] [] [], Ch.ro 0 (Sl ah_0_0 h_0.1 ch_0_0) h_0.1, Ch.ro 0 (Sl ah_0_1 h_0.2 ch_0_1) h_0.2, Ch.ro 0 (Sl ae_1_1_1 e_1.2.2.1 ce_1_1_1) e_1.2.2.1] ∧ Md (cov []) σ6 σm, fun ((((a11, c12), (b14, (a17, c18))), ((a23, (c24, b25)), (a28, (c29, b30)))) : ((((Option Addr) × (Nat)) × ((Nat) × ((Option Addr) × (Nat)))) × (((Option Addr) × ((Nat) × (Nat))) × ((Option Addr) × ((Nat) × (Nat)))))) => fun σm => Hp S0 σ0 σm [Ch.own n0 n0 (Sl (some ⟨b25, 0, none⟩) ([t_2] : List Int) 1) ([t_2] : List Int), Ch.own n0 0 (Sl a11 r8 c12) r8, Ch.bx n0 b5 0 [(.slice none 0 0), (.slice none 0 0)] [] [], Ch.bx n0 b3 0 [(I e_1.1), (I e_1.2.1), (Sl ae_1_1_1 e_1.2.2.1 ce_1_1_1), (I e_1.2.2.2)] [] [], Ch.bx n0 b1 0 [(Sl ah_0_0 h_0.1 ch_0_0), (Sl ah_0_1 h_0.2 ch_0_1)] [] [], Ch.ro 0 (Sl ah_0_0 h_0.1 ch_0_0) h_0.1, Ch.ro 0 (Sl ah_0_1 h_0.2 ch_0_1) h_0.2, Ch.ro 0 (Sl ae_1_1_1 e_1.2.2.1 ce_1_1_1) e_1.2.2.1] ∧ Md (cov []) σ6 σm, fun ((((a11, c12), (b14, (a17, c18))), ((a23, (c24, b25)), (a28, (c29, b30)))) : ((((Option Addr) × (Nat)) × ((Nat) × ((Option Addr) × (Nat)))) × (((Option Addr) × ((Nat) × (Nat))) × ((Option Addr) × ((Nat) × (Nat)))))) => fun σm => Hp S0 σ0 σm [Ch.bx n0 b30 0 [(.slice none 0 0), (.slice none 0 0)] [] [], Ch.own n0 0 (Sl a11 r8 c12) r8, Ch.bx n0 b5 0 [(.slice none 0 0), (.slice none 0 0)] [] [], Ch.bx n0 b3 0 [(I e_1.1), (I e_1.2.1), (Sl ae_1_1_1 e_1.2.2.1 ce_1_1_1), (I e_1.2.2.2)] [] [], Ch.bx n0 b1 0 [(Sl ah_0_0 h_0.1 ch_0_0), (Sl ah_0_1 h_0.2 ch_0_1)] [] [], Ch.ro 0 (Sl ah_0_0 h_0.1 ch_0_0) h_0.1, Ch.ro 0 (Sl ah_0_1 h_0.2 ch_0_1) h_0.2, Ch.ro 0 (Sl ae_1_1_1 e_1.2.2.1 ce_1_1_1) e_1.2.2.1] ∧ Md (cov []) σ6 σm, fun ((((a11, c12), (b14, (a17, c18))), ((a23, (c24, b25)), (a28, (c29, b30)))) : ((((Option Addr) × (Nat)) × ((Nat) × ((Option Addr) × (Nat)))) × (((Option Addr) × ((Nat) × (Nat))) × ((Option Addr) × ((Nat) × (Nat)))))) => fun σm => Hp S0 σ0 σm [Ch.own n0 n0 (Sl (some ⟨b25, 0, none⟩) ([t_2] : List Int) 1) ([t_2] : List Int), Ch.own n0 0 (Sl (some ⟨b14, 0, none⟩) ([(e_1.1, (e_1.2.1, e_1.2.2.1, e_1.2.2.2))] : List (Int × (Int × (List Int) × Int))) 1) ([(e_1.1, (e_1.2.1, e_1.2.2.1, e_1.2.2.2))] : List (Int × (Int × (List Int) × Int))), Ch.bx n0 b5 0 [(.slice none 0 0), (.slice none 0 0)] [] [], Ch.bx n0 b3 0 [(I e_1.1), (I e_1.2.1), (Sl ae_1_1_1 e_1.2.2.1 ce_1_1_1), (I e_1.2.2.2)] [] [], Ch.bx n0 b1 0 [(Sl ah_0_0 h_0.1 ch_0_0), (Sl ah_0_1 h_0.2 ch_0_1)] [] [], Ch.ro 0 (Sl ah_0_0 h_0.1 ch_0_0) h_0.1, Ch.ro 0 (Sl ah_0_1 h_0.2 ch_0_1) h_0.2, Ch.ro 0 (Sl ae_1_1_1 e_1.2.2.1 ce_1_1_1) e_1.2.2.1] ∧ Md (cov []) σ6 σm, fun ((((a11, c12), (b14, (a17, c18))), ((a23, (c24, b25)), (a28, (c29, b30)))) : ((((Option Addr) × (Nat)) × ((Nat) × ((Option Addr) × (Nat)))) × (((Option Addr) × ((Nat) × (Nat))) × ((Option Addr) × ((Nat) × (Nat)))))) => fun σm => Hp S0 σ0 σm [Ch.bx n0 b30 0 [(.slice none 0 0), (.slice none 0 0)] [] [], Ch.own n0 0 (Sl (some ⟨b14, 0, none⟩) ([(e_1.1, (e_1.2.1, e_1.2.2.1, e_1.2.2.2))] : List (Int × (Int × (List Int) × Int))) 1) ([(e_1.1, (e_1.2.1, e_1.2.2.1, e_1.2.2.2))] : List (Int × (Int × (List Int) × Int))), Ch.bx n0 b5 0 [(.slice none 0 0), (.slice none 0 0)] [] [], Ch.bx n0 b3 0 [(I e_1.1), (I e_1.2.1), (Sl ae_1_1_1 e_1.2.2.1 ce_1_1_1), (I e_1.2.2.2)] [] [], Ch.bx n0 b1 0 [(Sl ah_0_0 h_0.1 ch_0_0), (Sl ah_0_1 h_0.2 ch_0_1)] [] [], Ch.ro 0 (Sl ah_0_0 h_0.1 ch_0_0) h_0.1, Ch.ro 0 (Sl ah_0_1 h_0.2 ch_0_1) h_0.2, Ch.ro 0 (Sl ae_1_1_1 e_1.2.2.1 ce_1_1_1) e_1.2.2.1] ∧ Md (cov []) σ6 σm, fun ((((a11, c12), (b14, (a17, c18))), ((a23, (c24, b25)), (a28, (c29, b30)))) : ((((Option Addr) × (Nat)) × ((Nat) × ((Option Addr) × (Nat)))) × (((Option Addr) × ((Nat) × (Nat))) × ((Option Addr) × ((Nat) × (Nat)))))) => fun σm => Hp S0 σ0 σm [Ch.bx n0 b30 0 [(.slice none 0 0), (.slice none 0 0)] [] [], Ch.own n0 n0 (Sl (some ⟨b25, 0, none⟩) ([t_2] : List Int) 1) ([t_2] : List Int), Ch.bx n0 b5 0 [(.slice none 0 0), (.slice none 0 0)] [] [], Ch.bx n0 b3 0 [(I e_1.1), (I e_1.2.1), (Sl ae_1_1_1 e_1.2.2.1 ce_1_1_1), (I e_1.2.2.2)] [] [], Ch.bx n0 b1 0 [(Sl ah_0_0 h_0.1 ch_0_0), (Sl ah_0_1 h_0.2 ch_0_1)] [] [], Ch.ro 0 (Sl ah_0_0 h_0.1 ch_0_0) h_0.1, Ch.ro 0 (Sl ah_0_1 h_0.2 ch_0_1) h_0.2, Ch.ro 0 (Sl ae_1_1_1 e_1.2.2.1 ce_1_1_1) e_1.2.2.1] ∧ Md (cov []) σ6 σm, fun ((((a11, c12), (b14, (a17, c18))), ((a23, (c24, b25)), (a28, (c29, b30)))) : ((((Option Addr) × (Nat)) × ((Nat) × ((Option Addr) × (Nat)))) × (((Option Addr) × ((Nat) × (Nat))) × ((Option Addr) × ((Nat) × (Nat)))))) => fun σm => Hp S0 σ0 σm [Ch.own n0 0 (Sl a17 xs15 c18) xs15, Ch.own n0 0 (Sl (some ⟨b14, 0, none⟩) ([(e_1.1, (e_1.2.1, e_1.2.2.1, e_1.2.2.2))] : List (Int × (Int × (List Int) × Int))) 1) ([(e_1.1, (e_1.2.1, e_1.2.2.1, e_1.2.2.2))] : List (Int × (Int × (List Int) × Int))), Ch.bx n0 b5 0 [(.slice none 0 0), (.slice none 0 0)] [] [], Ch.bx n0 b3 0 [(I e_1.1), (I e_1.2.1), (Sl ae_1_1_1 e_1.2.2.1 ce_1_1_1), (I e_1.2.2.2)] [] [], Ch.bx n0 b1 0 [(Sl ah_0_0 h_0.1 ch_0_0), (Sl ah_0_1 h_0.2 ch_0_1)] [] [], Ch.ro 0 (Sl ah_0_0 h_0.1 ch_0_0) h_0.1, Ch.ro 0 (Sl ah_0_1 h_0.2 ch_0_1) h_0.2, Ch.ro 0 (Sl ae_1_1_1 e_1.2.2.1 ce_1_1_1) e_1.2.2.1] ∧ Md (fun i => (cov []) i ∨ (fun b => blk (Sl a11 r8 c12) = some b) i) σ6 σm, fun ((((a11, c12), (b14, (a17, c18))), ((a23, (c24, b25)), (a28, (c29, b30)))) : ((((Option Addr) × (Nat)) × ((Nat) × ((Option Addr) × (Nat)))) × (((Option Addr) × ((Nat) × (Nat))) × ((Option Addr) × ((Nat) × (Nat)))))) => fun σm => Hp S0 σ0 σm [Ch.own n0 n0 (Sl (some ⟨b25, 0, none⟩) ([t_2] : List Int) 1) ([t_2] : List Int), Ch.own n0 0 (Sl (some ⟨b14, 0, none⟩) ([(e_1.1, (e_1.2.1, e_1.2.2.1, e_1.2.2.2))] : List (Int × (Int × (List Int) × Int))) 1) ([(e_1.1, (e_1.2.1, e_1.2.2.1, e_1.2.2.2))] : List (Int × (Int × (List Int) × Int))), Ch.own n0 0 (Sl a11 r8 c12) r8, Ch.bx n0 b5 0 [(.slice none 0 0), (.slice none 0 0)] [] [], Ch.bx n0 b3 0 [(I e_1.1), (I e_1.2.1), (Sl ae_1_1_1 e_1.2.2.1 ce_1_1_1), (I e_1.2.2.2)] [] [], Ch.bx n0 b1 0 [(Sl ah_0_0 h_0.1 ch_0_0), (Sl ah_0_1 h_0.2 ch_0_1)] [] [], Ch.ro 0 (Sl ah_0_0 h_0.1 ch_0_0) h_0.1, Ch.ro 0 (Sl ah_0_1 h_0.2 ch_0_1) h_0.2, Ch.ro 0 (Sl ae_1_1_1 e_1.2.2.1 ce_1_1_1) e_1.2.2.1] ∧ Md (cov []) σ6 σm, fun ((((a11, c12), (b14, (a17, c18))), ((a23, (c24, b25)), (a28, (c29, b30)))) : ((((Option Addr) × (Nat)) × ((Nat) × ((Option Addr) × (Nat)))) × (((Option Addr) × ((Nat) × (Nat))) × ((Option Addr) × ((Nat) × (Nat)))))) => fun σm => Hp S0 σ0 σm [Ch.bx n0 b30 0 [(.slice none 0 0), (.slice none 0 0)] [] [], Ch.own n0 0 (Sl (some ⟨b14, 0, none⟩) ([(e_1.1, (e_1.2.1, e_1.2.2.1, e_1.2.2.2))] : List (Int × (Int × (List Int) × Int))) 1) ([(e_1.1, (e_1.2.1, e_1.2.2.1, e_1.2.2.2))] : List (Int × (Int × (List Int) × Int))), Ch.own n0 0 (Sl a11 r8 c12) r8, Ch.bx n0 b5 0 [(.slice none 0 0), (.slice none 0 0)] [] [], Ch.bx n0 b3 0 [(I e_1.1), (I e_1.2.1), (Sl ae_1_1_1 e_1.2.2.1 ce_1_1_1), (I e_1.2.2.2)] [] [], Ch.bx n0 b1 0 [(Sl ah_0_0 h_0.1 ch_0_0), (Sl ah_0_1 h_0.2 ch_0_1)] [] [], Ch.ro 0 (Sl ah_0_0 h_0.1 ch_0_0) h_0.1, Ch.ro 0 (Sl ah_0_1 h_0.2 ch_0_1) h_0.2, Ch.ro 0 (Sl ae_1_1_1 e_1.2.2.1 ce_1_1_1) e_1.2.2.1] ∧ Md (cov []) σ6 σm, fun ((((a11, c12), (b14, (a17, c18))), ((a23, (c24, b25)), (a28, (c29, b30)))) : ((((Option Addr) × (Nat)) × ((Nat) × ((Option Addr) × (Nat)))) × (((Option Addr) × ((Nat) × (Nat))) × ((Option Addr) × ((Nat) × (Nat)))))) => fun σm => Hp S0 σ0 σm [Ch.bx n0 b30 0 [(.slice none 0 0), (.slice none 0 0)] [] [], Ch.own n0 n0 (Sl (some ⟨b25, 0, none⟩) ([t_2] : List Int) 1) ([t_2] : List Int), Ch.own n0 0 (Sl a11 r8 c12) r8, Ch.bx n0 b5 0 [(.slice none 0 0), (.slice none 0 0)] [] [], Ch.bx n0 b3 0 [(I e_1.1), (I e_1.2.1), (Sl ae_1_1_1 e_1.2.2.1 ce_1_1_1), (I e_1.2.2.2)] [] [], Ch.bx n0 b1 0 [(Sl ah_0_0 h_0.1 ch_0_0), (Sl ah_0_1 h_0.2 ch_0_1)] [] [], Ch.ro 0 (Sl ah_0_0 h_0.1 ch_0_0) h_0.1, Ch.ro 0 (Sl ah_0_1 h_0.2 ch_0_1) h_0.2, Ch.ro 0 (Sl ae_1_1_1 e_1.2.2.1 ce_1_1_1) e_1.2.2.1] ∧ Md (cov []) σ6 σm, fun ((((a11, c12), (b14, (a17, c18))), ((a23, (c24, b25)), (a28, (c29, b30)))) : ((((Option Addr) × (Nat)) × ((Nat) × ((Option Addr) × (Nat)))) × (((Option Addr) × ((Nat) × (Nat))) × ((Option Addr) × ((Nat) × (Nat)))))) => fun σm => Hp S0 σ0 σm [Ch.bx n0 b30 0 [(.slice none 0 0), (.slice none 0 0)] [] [], Ch.own n0 n0 (Sl (some ⟨b25, 0, none⟩) ([t_2] : List Int) 1) ([t_2] : List Int), Ch.own n0 0 (Sl (some ⟨b14, 0, none⟩) ([(e_1.1, (e_1.2.1, e_1.2.2.1, e_1.2.2.2))] : List (Int × (Int × (List Int) × Int))) 1) ([(e_1.1, (e_1.2.1, e_1.2.2.1, e_1.2.2.2))] : List (Int × (Int × (List Int) × Int))), Ch.bx n0 b5 0 [(.slice none 0 0), (.slice none 0 0)] [] [], Ch.bx n0 b3 0 [(I e_1.1), (I e_1.2.1), (Sl ae_1_1_1 e_1.2.2.1 ce_1_1_1), (I e_1.2.2.2)] [] [], Ch.bx n0 b1 0 [(Sl ah_0_0 h_0.1 ch_0_0), (Sl ah_0_1 h_0.2 ch_0_1)] [] [], Ch.ro 0 (Sl ah_0_0 h_0.1 ch_0_0) h_0.1, Ch.ro 0 (Sl ah_0_1 h_0.2 ch_0_1) h_0.2, Ch.ro 0 (Sl ae_1_1_1 e_1.2.2.1 ce_1_1_1) e_1.2.2.1] ∧ Md (cov []) σ6 σm, fun ((((a11, c12), (b14, (a17, c18))), ((a23, (c24, b25)), (a28, (c29, b30)))) : ((((Option Addr) × (Nat)) × ((Nat) × ((Option Addr) × (Nat)))) × (((Option Addr) × ((Nat) × (Nat))) × ((Option Addr) × ((Nat) × (Nat)))))) => fun σm => Hp S0 σ0 σm [Ch.own n0 n0 (Sl a23 r20 c24) r20, Ch.own n0 0 (Sl a17 xs15 c18) xs15, Ch.own n0 0 (Sl (some ⟨b14, 0, none⟩) ([(e_1.1, (e_1.2.1, e_1.2.2.1, e_1.2.2.2))] : List (Int × (Int × (List Int) × Int))) 1) ([(e_1.1, (e_1.2.1, e_1.2.2.1, e_1.2.2.2))] : List (Int × (Int × (List Int) × Int))), Ch.bx n0 b5 0 [(.slice none 0 0), (.slice none 0 0)] [] [], Ch.bx n0 b3 0 [(I e_1.1), (I e_1.2.1), (Sl ae_1_1_1 e_1.2.2.1 ce_1_1_1), (I e_1.2.2.2)] [] [], Ch.bx n0 b1 0 [(Sl ah_0_0 h_0.1 ch_0_0), (Sl ah_0_1 h_0.2 ch_0_1)] [] [], Ch.ro 0 (Sl ah_0_0 h_0.1 ch_0_0) h_0.1, Ch.ro 0 (Sl ah_0_1 h_0.2 ch_0_1) h_0.2, Ch.ro 0 (Sl ae_1_1_1 e_1.2.2.1 ce_1_1_1) e_1.2.2.1] ∧ Md (fun i => (cov []) i ∨ (fun b => blk (Sl a11 r8 c12) = some b) i) σ6 σm, fun ((((a11, c12), (b14, (a17, c18))), ((a23, (c24, b25)), (a28, (c29, b30)))) : ((((Option Addr) × (Nat)) × ((Nat) × ((Option Addr) × (Nat)))) × (((Option Addr) × ((Nat) × (Nat))) × ((Option Addr) × ((Nat) × (Nat)))))) => fun σm => Hp S0 σ0 σm [Ch.own n0 n0 (Sl (some ⟨b25, 0, none⟩) ([t_2] : List Int) 1) ([t_2] : List Int), Ch.own n0 0 (Sl a17 xs15 c18) xs15, Ch.own n0 0 (Sl (some ⟨b14, 0, none⟩) ([(e_1.1, (e_1.2.1, e_1.2.2.1, e_1.2.2.2))] : List (Int × (Int × (List Int) × Int))) 1) ([(e_1.1, (e_1.2.1, e_1.2.2.1, e_1.2.2.2))] : List (Int × (Int × (List Int) × Int))), Ch.bx n0 b5 0 [(.slice none 0 0), (.slice none 0 0)] [] [], Ch.bx n0 b3 0 [(I e_1.1), (I e_1.2.1), (Sl ae_1_1_1 e_1.2.2.1 ce_1_1_1), (I e_1.2.2.2)] [] [], Ch.bx n0 b1 0 [(Sl ah_0_0 h_0.1 ch_0_0), (Sl ah_0_1 h_0.2 ch_0_1)] [] [], Ch.ro 0 (Sl ah_0_0 h_0.1 ch_0_0) h_0.1, Ch.ro 0 (Sl ah_0_1 h_0.2 ch_0_1) h_0.2, Ch.ro 0 (Sl ae_1_1_1 e_1.2.2.1 ce_1_1_1) e_1.2.2.1] ∧ Md (fun i => (cov []) i ∨ (fun b => blk (Sl a11 r8 c12) = some b) i) σ6 σm, fun ((((a11, c12), (b14, (a17, c18))), ((a23, (c24, b25)), (a28, (c29, b30)))) : ((((Option Addr) × (Nat)) × ((Nat) × ((Option Addr) × (Nat)))) × (((Option Addr) × ((Nat) × (Nat))) × ((Option Addr) × ((Nat) × (Nat)))))) => fun σm => Hp S0 σ0 σm [Ch.bx n0 b30 0 [(.slice none 0 0), (.slice none 0 0)] [] [], Ch.own n0 0 (Sl a17 xs15 c18) xs15, Ch.own n0 0 (Sl (some ⟨b14, 0, none⟩) ([(e_1.1, (e_1.2.1, e_1.2.2.1, e_1.2.2.2))] : List (Int × (Int × (List Int) × Int))) 1) ([(e_1.1, (e_1.2.1, e_1.2.2.1, e_1.2.2.2))] : List (Int × (Int × (List Int) × Int))), Ch.bx n0 b5 0 [(.slice none 0 0), (.slice none 0 0)] [] [], Ch.bx n0 b3 0 [(I e_1.1), (I e_1.2.1), (Sl ae_1_1_1 e_1.2.2.1 ce_1_1_1), (I e_1.2.2.2)] [] [], Ch.bx n0 b1 0 [(Sl ah_0_0 h_0.1 ch_0_0), (Sl ah_0_1 h_0.2 ch_0_1)] [] [], Ch.ro 0 (Sl ah_0_0 h_0.1 ch_0_0) h_0.1, Ch.ro 0 (Sl ah_0_1 h_0.2 ch_0_1) h_0.2, Ch.ro 0 (Sl ae_1_1_1 e_1.2.2.1 ce_1_1_1) e_1.2.2.1] ∧ Md (fun i => (cov []) i ∨ (fun b => blk (Sl a11 r8 c12) = some b) i) σ6 σm, fun ((((a11, c12), (b14, (a17, c18))), ((a23, (c24, b25)), (a28, (c29, b30)))) : ((((Option Addr) × (Nat)) × ((Nat) × ((Option Addr) × (Nat)))) × (((Option Addr) × ((Nat) × (Nat))) × ((Option Addr) × ((Nat) × (Nat)))))) => fun σm => Hp S0 σ0 σm [Ch.bx n0 b30 0 [(.slice none 0 0), (.slice none 0 0)] [] [], Ch.own n0 n0 (Sl (some ⟨b25, 0, none⟩) ([t_2] : List Int) 1) ([t_2] : List Int), Ch.own n0 0 (Sl (some ⟨b14, 0, none⟩) ([(e_1.1, (e_1.2.1, e_1.2.2.1, e_1.2.2.2))] : List (Int × (Int × (List Int) × Int))) 1) ([(e_1.1, (e_1.2.1, e_1.2.2.1, e_1.2.2.2))] : List (Int × (Int × (List Int) × Int))), Ch.own n0 0 (Sl a11 r8 c12) r8, Ch.bx n0 b5 0 [(.slice none 0 0), (.slice none 0 0)] [] [], Ch.bx n0 b3 0 [(I e_1.1), (I e_1.2.1), (Sl ae_1_1_1 e_1.2.2.1 ce_1_1_1), (I e_1.2.2.2)] [] [], Ch.bx n0 b1 0 [(Sl ah_0_0 h_0.1 ch_0_0), (Sl ah_0_1 h_0.2 ch_0_1)] [] [], Ch.ro 0 (Sl ah_0_0 h_0.1 ch_0_0) h_0.1, Ch.ro 0 (Sl ah_0_1 h_0.2 ch_0_1) h_0.2, Ch.ro 0 (Sl ae_1_1_1 e_1.2.2.1 ce_1_1_1) e_1.2.2.1] ∧ Md (cov []) σ6 σm, fun ((((a11, c12), (b14, (a17, c18))), ((a23, (c24, b25)), (a28, (c29, b30)))) : ((((Option Addr) × (Nat)) × ((Nat) × ((Option Addr) × (Nat)))) × (((Option Addr) × ((Nat) × (Nat))) × ((Option Addr) × ((Nat) × (Nat)))))) => fun σm => Hp S0 σ0 σm [Ch.own n0 n0 (Sl (some ⟨b25, 0, none⟩) ([t_2] : List Int) 1) ([t_2] : List Int), Ch.own n0 n0 (Sl a23 r20 c24) r20, Ch.own n0 0 (Sl a17 xs15 c18) xs15, Ch.own n0 0 (Sl (some ⟨b14, 0, none⟩) ([(e_1.1, (e_1.2.1, e_1.2.2.1, e_1.2.2.2))] : List (Int × (Int × (List Int) × Int))) 1) ([(e_1.1, (e_1.2.1, e_1.2.2.1, e_1.2.2.2))] : List (Int × (Int × (List Int) × Int))), Ch.bx n0 b5 0 [(.slice none 0 0), (.slice none 0 0)] [] [], Ch.bx n0 b3 0 [(I e_1.1), (I e_1.2.1), (Sl ae_1_1_1 e_1.2.2.1 ce_1_1_1), (I e_1.2.2.2)] [] [], Ch.bx n0 b1 0 [(Sl ah_0_0 h_0.1 ch_0_0), (Sl ah_0_1 h_0.2 ch_0_1)] [] [], Ch.ro 0 (Sl ah_0_0 h_0.1 ch_0_0) h_0.1, Ch.ro 0 (Sl ah_0_1 h_0.2 ch_0_1) h_0.2, Ch.ro 0 (Sl ae_1_1_1 e_1.2.2.1 ce_1_1_1) e_1.2.2.1] ∧ Md (fun i => (cov []) i ∨ (fun b => blk (Sl a11 r8 c12) = some b) i) σ6 σm, fun ((((a11, c12), (b14, (a17, c18))), ((a23, (c24, b25)), (a28, (c29, b30)))) : ((((Option Addr) × (Nat)) × ((Nat) × ((Option Addr) × (Nat)))) × (((Option Addr) × ((Nat) × (Nat))) × ((Option Addr) × ((Nat) × (Nat)))))) => fun σm => Hp S0 σ0 σm [Ch.bx n0 b30 0 [(.slice none 0 0), (.slice none 0 0)] [] [], Ch.own n0 n0 (Sl a23 r20 c24) r20, Ch.own n0 0 (Sl a17 xs15 c18) xs15, Ch.own n0 0 (Sl (some ⟨b14, 0, none⟩) ([(e_1.1, (e_1.2.1, e_1.2.2.1, e_1.2.2.2))] : List (Int × (Int × (List Int) × Int))) 1) ([(e_1.1, (e_1.2.1, e_1.2.2.1, e_1.2.2.2))] : List (Int × (Int × (List Int) × Int))), Ch.bx n0 b5 0 [(.slice none 0 0), (.slice none 0 0)] [] [], Ch.bx n0 b3 0 [(I e_1.1), (I e_1.2.1), (Sl ae_1_1_1 e_1.2.2.1 ce_1_1_1), (I e_1.2.2.2)] [] [], Ch.bx n0 b1 0 [(Sl ah_0_0 h_0.1 ch_0_0), (Sl ah_0_1 h_0.2 ch_0_1)] [] [], Ch.ro 0 (Sl ah_0_0 h_0.1 ch_0_0) h_0.1, Ch.ro 0 (Sl ah_0_1 h_0.2 ch_0_1) h_0.2, Ch.ro 0 (Sl ae_1_1_1 e_1.2.2.1 ce_1_1_1) e_1.2.2.1] ∧ Md (fun i => (cov []) i ∨ (fun b => blk (Sl a11 r8 c12) = some b) i) σ6 σm, fun ((((a11, c12), (b14, (a17, c18))), ((a23, (c24, b25)), (a28, (c29, b30)))) : ((((Option Addr) × (Nat)) × ((Nat) × ((Option Addr) × (Nat)))) × (((Option Addr) × ((Nat) × (Nat))) × ((Option Addr) × ((Nat) × (Nat)))))) => fun σm => Hp S0 σ0 σm [Ch.bx n0 b30 0 [(.slice none 0 0), (.slice none 0 0)] [] [], Ch.own n0 n0 (Sl (some ⟨b25, 0, none⟩) ([t_2] : List Int) 1) ([t_2] : List Int), Ch.own n0 0 (Sl a17 xs15 c18) xs15, Ch.own n0 0 (Sl (some ⟨b14, 0, none⟩) ([(e_1.1, (e_1.2.1, e_1.2.2.1, e_1.2.2.2))] : List (Int × (Int × (List Int) × Int))) 1) ([(e_1.1, (e_1.2.1, e_1.2.2.1, e_1.2.2.2))] : List (Int × (Int × (List Int) × Int))), Ch.bx n0 b5 0 [(.slice none 0 0), (.slice none 0 0)] [] [], Ch.bx n0 b3 0 [(I e_1.1), (I e_1.2.1), (Sl ae_1_1_1 e_1.2.2.1 ce_1_1_1), (I e_1.2.2.2)] [] [], Ch.bx n0 b1 0 [(Sl ah_0_0 h_0.1 ch_0_0), (Sl ah_0_1 h_0.2 ch_0_1)] [] [], Ch.ro 0 (Sl ah_0_0 h_0.1 ch_0_0) h_0.1, Ch.ro 0 (Sl ah_0_1 h_0.2 ch_0_1) h_0.2, Ch.ro 0 (Sl ae_1_1_1 e_1.2.2.1 ce_1_1_1) e_1.2.2.1] ∧ Md (fun i => (cov []) i ∨ (fun b => blk (Sl a11 r8 c12) = some b) i) σ6 σm, fun ((((a11, c12), (b14, (a17, c18))), ((a23, (c24, b25)), (a28, (c29, b30)))) : ((((Option Addr) × (Nat)) × ((Nat) × ((Option Addr) × (Nat)))) × (((Option Addr) × ((Nat) × (Nat))) × ((Option Addr) × ((Nat) × (Nat)))))) => fun σm => Hp S0 σ0 σm [Ch.own n0 n0 (Sl a28 xs26 c29) xs26, Ch.own n0 n0 (Sl (some ⟨b25, 0, none⟩) ([t_2] : List Int) 1) ([t_2] : List Int), Ch.own n0 0 (Sl a17 xs15 c18) xs15, Ch.own n0 0 (Sl (some ⟨b14, 0, none⟩) ([(e_1.1, (e_1.2.1, e_1.2.2.1, e_1.2.2.2))] : List (Int × (Int × (List Int) × Int))) 1) ([(e_1.1, (e_1.2.1, e_1.2.2.1, e_1.2.2.2))] : List (Int × (Int × (List Int) × Int))), Ch.bx n0 b5 0 [(.slice none 0 0), (.slice none 0 0)] [] [], Ch.bx n0 b3 0 [(I e_1.1), (I e_1.2.1), (Sl ae_1_1_1 e_1.2.2.1 ce_1_1_1), (I e_1.2.2.2)] [] [], Ch.bx n0 b1 0 [(Sl ah_0_0 h_0.1 ch_0_0), (Sl ah_0_1 h_0.2 ch_0_1)] [] [], Ch.ro 0 (Sl ah_0_0 h_0.1 ch_0_0) h_0.1, Ch.ro 0 (Sl ah_0_1 h_0.2 ch_0_1) h_0.2, Ch.ro 0 (Sl ae_1_1_1 e_1.2.2.1 ce_1_1_1) e_1.2.2.1] ∧ Md (fun i => (fun i => (cov []) i ∨ (fun b => blk (Sl a11 r8 c12) = some b) i) i ∨ (fun b => blk (Sl a23 r20 c24) = some b) i) σ6 σm, fun ((((a11, c12), (b14, (a17, c18))), ((a23, (c24, b25)), (a28, (c29, b30)))) : ((((Option Addr) × (Nat)) × ((Nat) × ((Option Addr) × (Nat)))) × (((Option Addr) × ((Nat) × (Nat))) × ((Option Addr) × ((Nat) × (Nat)))))) => fun σm => Hp S0 σ0 σm [Ch.bx n0 b30 0 [(.slice none 0 0), (.slice none 0 0)] [] [], Ch.own n0 n0 (Sl (some ⟨b25, 0, none⟩) ([t_2] : List Int) 1) ([t_2] : List Int), Ch.own n0 n0 (Sl a23 r20 c24) r20, Ch.own n0 0 (Sl a17 xs15 c18) xs15, Ch.own n0 0 (Sl (some ⟨b14, 0, none⟩) ([(e_1.1, (e_1.2.1, e_1.2.2.1, e_1.2.2.2))] : List (Int × (Int × (List Int) × Int))) 1) ([(e_1.1, (e_1.2.1, e_1.2.2.1, e_1.2.2.2))] : List (Int × (Int × (List Int) × Int))), Ch.bx n0 b5 0 [(.slice none 0 0), (.slice none 0 0)] [] [], Ch.bx n0 b3 0 [(I e_1.1), (I e_1.2.1), (Sl ae_1_1_1 e_1.2.2.1 ce_1_1_1), (I e_1.2.2.2)] [] [], Ch.bx n0 b1 0 [(Sl ah_0_0 h_0.1 ch_0_0), (Sl ah_0_1 h_0.2 ch_0_1)] [] [], Ch.ro 0 (Sl ah_0_0 h_0.1 ch_0_0) h_0.1, Ch.ro 0 (Sl ah_0_1 h_0.2 ch_0_1) h_0.2, Ch.ro 0 (Sl ae_1_1_1 e_1.2.2.1 ce_1_1_1) e_1.2.2.1] ∧ Md (fun i => (cov []) i ∨ (fun b => blk (Sl a11 r8 c12) = some b) i) σ6 σm, fun ((((a11, c12), (b14, (a17, c18))), ((a23, (c24, b25)), (a28, (c29, b30)))) : ((((Option Addr) × (Nat)) × ((Nat) × ((Option Addr) × (Nat)))) × (((Option Addr) × ((Nat) × (Nat))) × ((Option Addr) × ((Nat) × (Nat)))))) => fun σm => Hp S0 σ0 σm [Ch.bx n0 b30 0 [(.slice none 0 0), (.slice none 0 0)] [] [], Ch.own n0 n0 (Sl a28 xs26 c29) xs26, Ch.own n0 n0 (Sl (some ⟨b25, 0, none⟩) ([t_2] : List Int) 1) ([t_2] : List Int), Ch.own n0 0 (Sl a17 xs15 c18) xs15, Ch.own n0 0 (Sl (some ⟨b14, 0, none⟩) ([(e_1.1, (e_1.2.1, e_1.2.2.1, e_1.2.2.2))] : List (Int × (Int × (List Int) × Int))) 1) ([(e_1.1, (e_1.2.1, e_1.2.2.1, e_1.2.2.2))] : List (Int × (Int × (List Int) × Int))), Ch.bx n0 b5 0 [(.slice none 0 0), (.slice none 0 0)] [] [], Ch.bx n0 b3 0 [(I e_1.1), (I e_1.2.1), (Sl ae_1_1_1 e_1.2.2.1 ce_1_1_1), (I e_1.2.2.2)] [] [], Ch.bx n0 b1 0 [(Sl ah_0_0 h_0.1 ch_0_0), (Sl ah_0_1 h_0.2 ch_0_1)] [] [], Ch.ro 0 (Sl ah_0_0 h_0.1 ch_0_0) h_0.1, Ch.ro 0 (Sl ah_0_1 h_0.2 ch_0_1) h_0.2, Ch.ro 0 (Sl ae_1_1_1 e_1.2.2.1 ce_1_1_1) e_1.2.2.1] ∧ Md (fun i => (fun i => (cov []) i ∨ (fun b => blk (Sl a11 r8 c12) = some b) i) i ∨ (fun b => blk (Sl a23 r20 c24) = some b) i) σ6 σm] [fun ((((a11, c12), (b14, (a17, c18))), ((a23, (c24, b25)), (a28, (c29, b30)))) : ((((Option Addr) × (Nat)) × ((Nat) × ((Option Addr) × (Nat)))) × (((Option Addr) × ((Nat) × (Nat))) × ((Option Addr) × ((Nat) × (Nat)))))) => (pt b1 0), fun ((((a11, c12), (b14, (a17, c18))), ((a23, (c24, b25)), (a28, (c29, b30)))) : ((((Option Addr) × (Nat)) × ((Nat) × ((Option Addr) × (Nat)))) × (((Option Addr) × ((Nat) × (Nat))) × ((Option Addr) × ((Nat) × (Nat)))))) => (Sl ah_0_0 h_0.1 ch_0_0), fun ((((a11, c12), (b14, (a17, c18))), ((a23, (c24, b25)), (a28, (c29, b30)))) : ((((Option Addr) × (Nat)) × ((Nat) × ((Option Addr) × (Nat)))) × (((Option Addr) × ((Nat) × (Nat))) × ((Option Addr) × ((Nat) × (Nat)))))) => (Sl a11 r8 c12), fun ((((a11, c12), (b14, (a17, c18))), ((a23, (c24, b25)), (a28, (c29, b30)))) : ((((Option Addr) × (Nat)) × ((Nat) × ((Option Addr) × (Nat)))) × (((Option Addr) × ((Nat) × (Nat))) × ((Option Addr) × ((Nat) × (Nat)))))) => (.agg #[(I e_1.1), (I e_1.2.1), (Sl ae_1_1_1 e_1.2.2.1 ce_1_1_1), (I e_1.2.2.2)]), fun ((((a11, c12), (b14, (a17, c18))), ((a23, (c24, b25)), (a28, (c29, b30)))) : ((((Option Addr) × (Nat)) × ((Nat) × ((Option Addr) × (Nat)))) × (((Option Addr) × ((Nat) × (Nat))) × ((Option Addr) × ((Nat) × (Nat)))))) => (Sl (some ⟨b14, 0, none⟩) ([(e_1.1, (e_1.2.1, e_1.2.2.1, e_1.2.2.2))] : List (Int × (Int × (List Int) × Int))) 1), fun ((((a11, c12), (b14, (a17, c18))), ((a23, (c24, b25)), (a28, (c29, b30)))) : ((((Option Addr) × (Nat)) × ((Nat) × ((Option Addr) × (Nat)))) × (((Option Addr) × ((Nat) × (Nat))) × ((Option Addr) × ((Nat) × (Nat)))))) => (Sl a17 xs15 c18), fun ((((a11, c12), (b14, (a17, c18))), ((a23, (c24, b25)), (a28, (c29, b30)))) : ((((Option Addr) × (Nat)) × ((Nat) × ((Option Addr) × (Nat)))) × (((Option Addr) × ((Nat) × (Nat))) × ((Option Addr) × ((Nat) × (Nat)))))) => (pt b1 1), fun ((((a11, c12), (b14, (a17, c18))), ((a23, (c24, b25)), (a28, (c29, b30)))) : ((((Option Addr) × (Nat)) × ((Nat) × ((Option Addr) × (Nat)))) × (((Option Addr) × ((Nat) × (Nat))) × ((Option Addr) × ((Nat) × (Nat)))))) => (Sl ah_0_1 h_0.2 ch_0_1), fun ((((a11, c12), (b14, (a17, c18))), ((a23, (c24, b25)), (a28, (c29, b30)))) : ((((Option Addr) × (Nat)) × ((Nat) × ((Option Addr) × (Nat)))) × (((Option Addr) × ((Nat) × (Nat))) × ((Option Addr) × ((Nat) × (Nat)))))) => (Sl a23 r20 c24), fun ((((a11, c12), (b14, (a17, c18))), ((a23, (c24, b25)), (a28, (c29, b30)))) : ((((Option Addr) × (Nat)) × ((Nat) × ((Option Addr) × (Nat)))) × (((Option Addr) × ((Nat) × (Nat))) × ((Option Addr) × ((Nat) × (Nat)))))) => (I t_2), fun ((((a11, c12), (b14, (a17, c18))), ((a23, (c24, b25)), (a28, (c29, b30)))) : ((((Option Addr) × (Nat)) × ((Nat) × ((Option Addr) × (Nat)))) × (((Option Addr) × ((Nat) × (Nat))) × ((Option Addr) × ((Nat) × (Nat)))))) => (Sl (some ⟨b25, 0, none⟩) ([t_2] : List Int) 1), fun ((((a11, c12), (b14, (a17, c18))), ((a23, (c24, b25)), (a28, (c29, b30)))) : ((((Option Addr) × (Nat)) × ((Nat) × ((Option Addr) × (Nat)))) × (((Option Addr) × ((Nat) × (Nat))) × ((Option Addr) × ((Nat) × (Nat)))))) => (Sl a28 xs26 c29), fun ((((a11, c12), (b14, (a17, c18))), ((a23, (c24, b25)), (a28, (c29, b30)))) : ((((Option Addr) × (Nat)) × ((Nat) × ((Option Addr) × (Nat)))) × (((Option Addr) × ((Nat) × (Nat))) × ((Option Addr) × ((Nat) × (Nat)))))) => (.agg #[(Sl a17 xs15 c18), (Sl a28 xs26 c29)]), fun ((((a11, c12), (b14, (a17, c18))), ((a23, (c24, b25)), (a28, (c29, b30)))) : ((((Option Addr) × (Nat)) × ((Nat) × ((Option Addr) × (Nat)))) × (((Option Addr) × ((Nat) × (Nat))) × ((Option Addr) × ((Nat) × (Nat)))))) => (pt b30 0)] (((none, 0), (0, (none, 0))), ((none, (0, 0)), (none, (0, 0)))) (by kernel_rfl) (by kernel_rfl) ?_ ?_ ?_
 ·intro σm m0
  exact ⟨H.grow (m0.mono fun _ h => h.elim), m0⟩
 ·refine ac rfl (by
    intro k; rintro ⟨⟨⟨a11, c12⟩, ⟨b14, ⟨a17, c18⟩⟩⟩, ⟨⟨a23, ⟨c24, b25⟩⟩, ⟨a28, ⟨c29, b30⟩⟩⟩⟩ ρ σm hJ hoff hdep
    have e3 := look_off (N := 31) (hoff 3 rfl) rfl
    exact dp_v (v := (pt b1 0)) wn (rv_fieldAddr (off := 0) (ft := 23) Try.underlying26 rfl ti23 rfl e3) rfl hJ) ?_
  refine all_cons (by
    refine ⟨?_, ?_⟩
    ·rintro ⟨⟨⟨a11, c12⟩, ⟨b14, ⟨a17, c18⟩⟩⟩, ⟨⟨a23, ⟨c24, b25⟩⟩, ⟨a28, ⟨c29, b30⟩⟩⟩⟩ ρ σm hJ hoff hdep
     have e9 := hdep 0 rfl rfl 9 rfl
     obtain ⟨H, m⟩ := id hJ
     have hc7 := H.cell (u := (Sl ah_0_0 h_0.1 ch_0_0)) (o' := 0) 2 0 rfl rfl rfl
     exact dp_v (v := (Sl ah_0_0 h_0.1 ch_0_0)) wn (rv_load1 Try.underlying23 rfl e9 hc7) rfl hJ
    refine ⟨?_, ?_⟩
    ·rintro ⟨⟨⟨a11, c12⟩, ⟨b14, ⟨a17, c18⟩⟩⟩, ⟨⟨a23, ⟨c24, b25⟩⟩, ⟨a28, ⟨c29, b30⟩⟩⟩⟩ ρ σm hJ hoff hdep
     have e9 := hdep 0 rfl rfl 9 rfl
     obtain ⟨H, m⟩ := id hJ
     have hc7 := H.cell (u := (Sl ah_0_0 h_0.1 ch_0_0)) (o' := 0) 3 0 rfl rfl rfl
     exact dp_v (v := (Sl ah_0_0 h_0.1 ch_0_0)) wn (rv_load1 Try.underlying23 rfl e9 hc7) rfl hJ
    refine ⟨?_, ?_⟩
    ·rintro ⟨⟨⟨a11, c12⟩, ⟨b14, ⟨a17, c18⟩⟩⟩, ⟨⟨a23, ⟨c24, b25⟩⟩, ⟨a28, ⟨c29, b30⟩⟩⟩⟩ ρ σm hJ hoff hdep
     have e9 := hdep 0 rfl rfl 9 rfl
     obtain ⟨H, m⟩ := id hJ
     have hc7 := H.cell (u := (Sl ah_0_0 h_0.1 ch_0_0)) (o' := 0) 3 0 rfl rfl rfl
     exact dp_v (v := (Sl ah_0_0 h_0.1 ch_0_0)) wn (rv_load1 Try.underlying23 rfl e9 hc7) rfl hJ
    refine ⟨?_, ?_⟩
    ·rintro ⟨⟨⟨a11, c12⟩, ⟨b14, ⟨a17, c18⟩⟩⟩, ⟨⟨a23, ⟨c24, b25⟩⟩, ⟨a28, ⟨c29, b30⟩⟩⟩⟩ ρ σm hJ hoff hdep
     have e9 := hdep 0 rfl rfl 9 rfl
     obtain ⟨H, m⟩ := id hJ
     have hc7 := H.cell (u := (Sl ah_0_0 h_0.1 ch_0_0)) (o' := 0) 3 0 rfl rfl rfl
     exact dp_v (v := (Sl ah_0_0 h_0.1 ch_0_0)) wn (rv_load1 Try.underlying23 rfl e9 hc7) rfl hJ
    refine ⟨?_, ?_⟩
    ·rintro ⟨⟨⟨a11, c12⟩, ⟨b14, ⟨a17, c18⟩⟩⟩, ⟨⟨a23, ⟨c24, b25⟩⟩, ⟨a28, ⟨c29, b30⟩⟩⟩⟩ ρ σm hJ hoff hdep
     have e9 := hdep 0 rfl rfl 9 rfl
     obtain ⟨H, m⟩ := id hJ
     have hc7 := H.cell (u := (Sl ah_0_0 h_0.1 ch_0_0)) (o' := 0) 4 0 rfl rfl rfl
     exact dp_v (v := (Sl ah_0_0 h_0.1 ch_0_0)) wn (rv_load1 Try.underlying23 rfl e9 hc7) rfl hJ
    refine ⟨?_, ?_⟩
    ·rintro ⟨⟨⟨a11, c12⟩, ⟨b14, ⟨a17, c18⟩⟩⟩, ⟨⟨a23, ⟨c24, b25⟩⟩, ⟨a28, ⟨c29, b30⟩⟩⟩⟩ ρ σm hJ hoff hdep
     have e9 := hdep 0 rfl rfl 9 rfl
     obtain ⟨H, m⟩ := id hJ
     have hc7 := H.cell (u := (Sl ah_0_0 h_0.1 ch_0_0)) (o' := 0) 4 0 rfl rfl rfl
     exact dp_v (v := (Sl ah_0_0 h_0.1 ch_0_0)) wn (rv_load1 Try.underlying23 rfl e9 hc7) rfl hJ
    refine ⟨?_, ?_⟩
    ·rintro ⟨⟨⟨a11, c12⟩, ⟨b14, ⟨a17, c18⟩⟩⟩, ⟨⟨a23, ⟨c24, b25⟩⟩, ⟨a28, ⟨c29, b30⟩⟩⟩⟩ ρ σm hJ hoff hdep
     have e9 := hdep 0 rfl rfl 9 rfl
     obtain ⟨H, m⟩ := id hJ
     have hc7 := H.cell (u := (Sl ah_0_0 h_0.1 ch_0_0)) (o' := 0) 4 0 rfl rfl rfl
     exact dp_v (v := (Sl ah_0_0 h_0.1 ch_0_0)) wn (rv_load1 Try.underlying23 rfl e9 hc7) rfl hJ
    refine ⟨?_, ?_⟩
    ·rintro ⟨⟨⟨a11, c12⟩, ⟨b14, ⟨a17, c18⟩⟩⟩, ⟨⟨a23, ⟨c24, b25⟩⟩, ⟨a28, ⟨c29, b30⟩⟩⟩⟩ ρ σm hJ hoff hdep
     have e9 := hdep 0 rfl rfl 9 rfl
     obtain ⟨H, m⟩ := id hJ
     have hc7 := H.cell (u := (Sl ah_0_0 h_0.1 ch_0_0)) (o' := 0) 5 0 rfl rfl rfl
     exact dp_v (v := (Sl ah_0_0 h_0.1 ch_0_0)) wn (rv_load1 Try.underlying23 rfl e9 hc7) rfl hJ
    trivial) ?_
  refine all_cons (by
    refine ⟨?_, ?_⟩
    ·rintro ⟨⟨⟨a11, c12⟩, ⟨b14, ⟨a17, c18⟩⟩⟩, ⟨⟨a23, ⟨c24, b25⟩⟩, ⟨a28, ⟨c29, b30⟩⟩⟩⟩ ρ σm hJ hoff hdep
     have e10 : look 31 ρ 10 = (Sl ah_0_0 h_0.1 ch_0_0) := hdep 1 rfl rfl 10 rfl
     obtain ⟨H, m⟩ := id hJ
     refine dp_cx wn (cx_call hc10 (ent_f hc10.fn (by show [look 31 ρ 10] = _; rw [e10])) hn0 (show Hp S0 σ0 _ ([Ch.ro 0 (Sl ah_0_0 h_0.1 ch_0_0) h_0.1] ++ [Ch.bx n0 b5 0 [(.slice none 0 0), (.slice none 0 0)] [] [], Ch.bx n0 b3 0 [(I e_1.1), (I e_1.2.1), (Sl ae_1_1_1 e_1.2.2.1 ce_1_1_1), (I e_1.2.2.2)] [] [], Ch.bx n0 b1 0 [(Sl ah_0_0 h_0.1 ch_0_0), (Sl ah_0_1 h_0.2 ch_0_1)] [] [], Ch.ro 0 (Sl ah_0_0 h_0.1 ch_0_0) h_0.1, Ch.ro 0 (Sl ah_0_1 h_0.2 ch_0_1) h_0.2, Ch.ro 0 (Sl ae_1_1_1 e_1.2.2.1 ce_1_1_1) e_1.2.2.1]) from (H.sel' [3, 0, 1, 2, 3, 4, 5] rfl rfl))) ?_
     rintro _ σq ⟨_, ⟨a11x, c12x, rfl, rfl⟩, H2, m2⟩
     exact ⟨_, (((a11x, c12x), (b14, (a17, c18))), ((a23, (c24, b25)), (a28, (c29, b30)))), rfl, rfl, ⟨H2.sel' [0, 1, 2, 3, 4, 5, 6] rfl rfl, m.comp0 (m2.mono (fun i h => by simp [cov, Ch.ro] at h))⟩, stab [0, 1, 3, 4, 6, 7, 9, 10, 13] (by kernel_rfl) ⟨rfl, rfl, rfl, rfl, rfl, rfl, rfl, rfl, rfl, trivial⟩⟩
    refine ⟨?_, ?_⟩
    ·rintro ⟨⟨⟨a11, c12⟩, ⟨b14, ⟨a17, c18⟩⟩⟩, ⟨⟨a23, ⟨c24, b25⟩⟩, ⟨a28, ⟨c29, b30⟩⟩⟩⟩ ρ σm hJ hoff hdep
     have e10 : look 31 ρ 10 = (Sl ah_0_0 h_0.1 ch_0_0) := hdep 1 rfl rfl 10 rfl
     obtain ⟨H, m⟩ := id hJ
     refine dp_cx wn (cx_call hc10 (ent_f hc10.fn (by show [look 31 ρ 10] = _; rw [e10])) hn0 (show Hp S0 σ0 _ ([Ch.ro 0 (Sl ah_0_0 h_0.1 ch_0_0) h_0.1] ++ [Ch.own n0 0 (Sl (some ⟨b14, 0, none⟩) ([(e_1.1, (e_1.2.1, e_1.2.2.1, e_1.2.2.2))] : List (Int × (Int × (List Int) × Int))) 1) ([(e_1.1, (e_1.2.1, e_1.2.2.1, e_1.2.2.2))] : List (Int × (Int × (List Int) × Int))), Ch.bx n0 b5 0 [(.slice none 0 0), (.slice none 0 0)] [] [], Ch.bx n0 b3 0 [(I e_1.1), (I e_1.2.1), (Sl ae_1_1_1 e_1.2.2.1 ce_1_1_1), (I e_1.2.2.2)] [] [], Ch.bx n0 b1 0 [(Sl ah_0_0 h_0.1 ch_0_0), (Sl ah_0_1 h_0.2 ch_0_1)] [] [], Ch.ro 0 (Sl ah_0_0 h_0.1 ch_0_0) h_0.1, Ch.ro 0 (Sl ah_0_1 h_0.2 ch_0_1) h_0.2, Ch.ro 0 (Sl ae_1_1_1 e_1.2.2.1 ce_1_1_1) e_1.2.2.1]) from (H.sel' [4, 0, 1, 2, 3, 4, 5, 6] rfl rfl))) ?_
     rintro _ σq ⟨_, ⟨a11x, c12x, rfl, rfl⟩, H2, m2⟩
     exact ⟨_, (((a11x, c12x), (b14, (a17, c18))), ((a23, (c24, b25)), (a28, (c29, b30)))), rfl, rfl, ⟨H2.sel' [1, 0, 2, 3, 4, 5, 6, 7] rfl rfl, m.comp0 (m2.mono (fun i h => by simp [cov, Ch.ro] at h))⟩, stab [0, 1, 3, 4, 6, 7, 9, 10, 13] (by kernel_rfl) ⟨rfl, rfl, rfl, rfl, rfl, rfl, rfl, rfl, rfl, trivial⟩⟩
    refine ⟨?_, ?_⟩
    ·rintro ⟨⟨⟨a11, c12⟩, ⟨b14, ⟨a17, c18⟩⟩⟩, ⟨⟨a23, ⟨c24, b25⟩⟩, ⟨a28, ⟨c29, b30⟩⟩⟩⟩ ρ σm hJ hoff hdep
     have e10 : look 31 ρ 10 = (Sl ah_0_0 h_0.1 ch_0_0) := hdep 1 rfl rfl 10 rfl
     obtain ⟨H, m⟩ := id hJ
     refine dp_cx wn (cx_call hc10 (ent_f hc10.fn (by show [look 31 ρ 10] = _; rw [e10])) hn0 (show Hp S0 σ0 _ ([Ch.ro 0 (Sl ah_0_0 h_0.1 ch_0_0) h_0.1] ++ [Ch.own n0 n0 (Sl (some ⟨b25, 0, none⟩) ([t_2] : List Int) 1) ([t_2] : List Int), Ch.bx n0 b5 0 [(.slice none 0 0), (.slice none 0 0)] [] [], Ch.bx n0 b3 0 [(I e_1.1), (I e_1.2.1), (Sl ae_1_1_1 e_1.2.2.1 ce_1_1_1), (I e_1.2.2.2)] [] [], Ch.bx n0 b1 0 [(Sl ah_0_0 h_0.1 ch_0_0), (Sl ah_0_1 h_0.2 ch_0_1)] [] [], Ch.ro 0 (Sl ah_0_0 h_0.1 ch_0_0) h_0.1, Ch.ro 0 (Sl ah_0_1 h_0.2 ch_0_1) h_0.2, Ch.ro 0 (Sl ae_1_1_1 e_1.2.2.1 ce_1_1_1) e_1.2.2.1]) from (H.sel' [4, 0, 1, 2, 3, 4, 5, 6] rfl rfl))) ?_
     rintro _ σq ⟨_, ⟨a11x, c12x, rfl, rfl⟩, H2, m2⟩
     exact ⟨_, (((a11x, c12x), (b14, (a17, c18))), ((a23, (c24, b25)), (a28, (c29, b30)))), rfl, rfl, ⟨H2.sel' [1, 0, 2, 3, 4, 5, 6, 7] rfl rfl, m.comp0 (m2.mono (fun i h => by simp [cov, Ch.ro] at h))⟩, stab [0, 1, 3, 4, 6, 7, 9, 10, 13] (by kernel_rfl) ⟨rfl, rfl, rfl, rfl, rfl, rfl, rfl, rfl, rfl, trivial⟩⟩
    refine ⟨?_, ?_⟩
    ·rintro ⟨⟨⟨a11, c12⟩, ⟨b14, ⟨a17, c18⟩⟩⟩, ⟨⟨a23, ⟨c24, b25⟩⟩, ⟨a28, ⟨c29, b30⟩⟩⟩⟩ ρ σm hJ hoff hdep
     have e10 : look 31 ρ 10 = (Sl ah_0_0 h_0.1 ch_0_0) := hdep 1 rfl rfl 10 rfl
     obtain ⟨H, m⟩ := id hJ
     refine dp_cx wn (cx_call hc10 (ent_f hc10.fn (by show [look 31 ρ 10] = _; rw [e10])) hn0 (show Hp S0 σ0 _ ([Ch.ro 0 (Sl ah_0_0 h_0.1 ch_0_0) h_0.1] ++ [Ch.bx n0 b30 0 [(.slice none 0 0), (.slice none 0 0)] [] [], Ch.bx n0 b5 0 [(.slice none 0 0), (.slice none 0 0)] [] [], Ch.bx n0 b3 0 [(I e_1.1), (I e_1.2.1), (Sl ae_1_1_1 e_1.2.2.1 ce_1_1_1), (I e_1.2.2.2)] [] [], Ch.bx n0 b1 0 [(Sl ah_0_0 h_0.1 ch_0_0), (Sl ah_0_1 h_0.2 ch_0_1)] [] [], Ch.ro 0 (Sl ah_0_0 h_0.1 ch_0_0) h_0.1, Ch.ro 0 (Sl ah_0_1 h_0.2 ch_0_1) h_0.2, Ch.ro 0 (Sl ae_1_1_1 e_1.2.2.1 ce_1_1_1) e_1.2.2.1]) from (H.sel' [4, 0, 1, 2, 3, 4, 5, 6] rfl rfl))) ?_
     rintro _ σq ⟨_, ⟨a11x, c12x, rfl, rfl⟩, H2, m2⟩
     exact ⟨_, (((a11x, c12x), (b14, (a17, c18))), ((a23, (c24, b25)), (a28, (c29, b30)))), rfl, rfl, ⟨H2.sel' [1, 0, 2, 3, 4, 5, 6, 7] rfl rfl, m.comp0 (m2.mono (fun i h => by simp [cov, Ch.ro] at h))⟩, stab [0, 1, 3, 4, 6, 7, 9, 10, 13] (by kernel_rfl) ⟨rfl, rfl, rfl, rfl, rfl, rfl, rfl, rfl, rfl, trivial⟩⟩
    refine ⟨?_, ?_⟩
    ·rintro ⟨⟨⟨a11, c12⟩, ⟨b14, ⟨a17, c18⟩⟩⟩, ⟨⟨a23, ⟨c24, b25⟩⟩, ⟨a28, ⟨c29, b30⟩⟩⟩⟩ ρ σm hJ hoff hdep
     have e10 : look 31 ρ 10 = (Sl ah_0_0 h_0.1 ch_0_0) := hdep 1 rfl rfl 10 rfl
     obtain ⟨H, m⟩ := id hJ
     refine dp_cx wn (cx_call hc10 (ent_f hc10.fn (by show [look 31 ρ 10] = _; rw [e10])) hn0 (show Hp S0 σ0 _ ([Ch.ro 0 (Sl ah_0_0 h_0.1 ch_0_0) h_0.1] ++ [Ch.own n0 n0 (Sl (some ⟨b25, 0, none⟩) ([t_2] : List Int) 1) ([t_2] : List Int), Ch.own n0 0 (Sl (some ⟨b14, 0, none⟩) ([(e_1.1, (e_1.2.1, e_1.2.2.1, e_1.2.2.2))] : List (Int × (Int × (List Int) × Int))) 1) ([(e_1.1, (e_1.2.1, e_1.2.2.1, e_1.2.2.2))] : List (Int × (Int × (List Int) × Int))), Ch.bx n0 b5 0 [(.slice none 0 0), (.slice none 0 0)] [] [], Ch.bx n0 b3 0 [(I e_1.1), (I e_1.2.1), (Sl ae_1_1_1 e_1.2.2.1 ce_1_1_1), (I e_1.2.2.2)] [] [], Ch.bx n0 b1 0 [(Sl ah_0_0 h_0.1 ch_0_0), (Sl ah_0_1 h_0.2 ch_0_1)] [] [], Ch.ro 0 (Sl ah_0_0 h_0.1 ch_0_0) h_0.1, Ch.ro 0 (Sl ah_0_1 h_0.2 ch_0_1) h_0.2, Ch.ro 0 (Sl ae_1_1_1 e_1.2.2.1 ce_1_1_1) e_1.2.2.1]) from (H.sel' [5, 0, 1, 2, 3, 4, 5, 6, 7] rfl rfl))) ?_
     rintro _ σq ⟨_, ⟨a11x, c12x, rfl, rfl⟩, H2, m2⟩
     exact ⟨_, (((a11x, c12x), (b14, (a17, c18))), ((a23, (c24, b25)), (a28, (c29, b30)))), rfl, rfl, ⟨H2.sel' [1, 2, 0, 3, 4, 5, 6, 7, 8] rfl rfl, m.comp0 (m2.mono (fun i h => by simp [cov, Ch.ro] at h))⟩, stab [0, 1, 3, 4, 6, 7, 9, 10, 13] (by kernel_rfl) ⟨rfl, rfl, rfl, rfl, rfl, rfl, rfl, rfl, rfl, trivial⟩⟩
    refine ⟨?_, ?_⟩
    ·rintro ⟨⟨⟨a11, c12⟩, ⟨b14, ⟨a17, c18⟩⟩⟩, ⟨⟨a23, ⟨c24, b25⟩⟩, ⟨a28, ⟨c29, b30⟩⟩⟩⟩ ρ σm hJ hoff hdep
     have e10 : look 31 ρ 10 = (Sl ah_0_0 h_0.1 ch_0_0) := hdep 1 rfl rfl 10 rfl
     obtain ⟨H, m⟩ := id hJ
     refine dp_cx wn (cx_call hc10 (ent_f hc10.fn (by show [look 31 ρ 10] = _; rw [e10])) hn0 (show Hp S0 σ0 _ ([Ch.ro 0 (Sl ah_0_0 h_0.1 ch_0_0) h_0.1] ++ [Ch.bx n0 b30 0 [(.slice none 0 0), (.slice none 0 0)] [] [], Ch.own n0 0 (Sl (some ⟨b14, 0, none⟩) ([(e_1.1, (e_1.2.1, e_1.2.2.1, e_1.2.2.2))] : List (Int × (Int × (List Int) × Int))) 1) ([(e_1.1, (e_1.2.1, e_1.2.2.1, e_1.2.2.2))] : List (Int × (Int × (List Int) × Int))), Ch.bx n0 b5 0 [(.slice none 0 0), (.slice none 0 0)] [] [], Ch.bx n0 b3 0 [(I e_1.1), (I e_1.2.1), (Sl ae_1_1_1 e_1.2.2.1 ce_1_1_1), (I e_1.2.2.2)] [] [], Ch.bx n0 b1 0 [(Sl ah_0_0 h_0.1 ch_0_0), (Sl ah_0_1 h_0.2 ch_0_1)] [] [], Ch.ro 0 (Sl ah_0_0 h_0.1 ch_0_0) h_0.1, Ch.ro 0 (Sl ah_0_1 h_0.2 ch_0_1) h_0.2, Ch.ro 0 (Sl ae_1_1_1 e_1.2.2.1 ce_1_1_1) e_1.2.2.1]) from (H.sel' [5, 0, 1, 2, 3, 4, 5, 6, 7] rfl rfl))) ?_
     rintro _ σq ⟨_, ⟨a11x, c12x, rfl, rfl⟩, H2, m2⟩
     exact ⟨_, (((a11x, c12x), (b14, (a17, c18))), ((a23, (c24, b25)), (a28, (c29, b30)))), rfl, rfl, ⟨H2.sel' [1, 2, 0, 3, 4, 5, 6, 7, 8] rfl rfl, m.comp0 (m2.mono (fun i h => by simp [cov, Ch.ro] at h))⟩, stab [0, 1, 3, 4, 6, 7, 9, 10, 13] (by kernel_rfl) ⟨rfl, rfl, rfl, rfl, rfl, rfl, rfl, rfl, rfl, trivial⟩⟩
    refine ⟨?_, ?_⟩
    ·rintro ⟨⟨⟨a11, c12⟩, ⟨b14, ⟨a17, c18⟩⟩⟩, ⟨⟨a23, ⟨c24, b25⟩⟩, ⟨a28, ⟨c29, b30⟩⟩⟩⟩ ρ σm hJ hoff hdep
     have e10 : look 31 ρ 10 = (Sl ah_0_0 h_0.1 ch_0_0) := hdep 1 rfl rfl 10 rfl
     obtain ⟨H, m⟩ := id hJ
     refine dp_cx wn (cx_call hc10 (ent_f hc10.fn (by show [look 31 ρ 10] = _; rw [e10])) hn0 (show Hp S0 σ0 _ ([Ch.ro 0 (Sl ah_0_0 h_0.1 ch_0_0) h_0.1] ++ [Ch.bx n0 b30 0 [(.slice none 0 0), (.slice none 0 0)] [] [], Ch.own n0 n0 (Sl (some ⟨b25, 0, none⟩) ([t_2] : List Int) 1) ([t_2] : List Int), Ch.bx n0 b5 0 [(.slice none 0 0), (.slice none 0 0)] [] [], Ch.bx n0 b3 0 [(I e_1.1), (I e_1.2.1), (Sl ae_1_1_1 e_1.2.2.1 ce_1_1_1), (I e_1.2.2.2)] [] [], Ch.bx n0 b1 0 [(Sl ah_0_0 h_0.1 ch_0_0), (Sl ah_0_1 h_0.2 ch_0_1)] [] [], Ch.ro 0 (Sl ah_0_0 h_0.1 ch_0_0) h_0.1, Ch.ro 0 (Sl ah_0_1 h_0.2 ch_0_1) h_0.2, Ch.ro 0 (Sl ae_1_1_1 e_1.2.2.1 ce_1_1_1) e_1.2.2.1]) from (H.sel' [5, 0, 1, 2, 3, 4, 5, 6, 7] rfl rfl))) ?_
     rintro _ σq ⟨_, ⟨a11x, c12x, rfl, rfl⟩, H2, m2⟩
     exact ⟨_, (((a11x, c12x), (b14, (a17, c18))), ((a23, (c24, b25)), (a28, (c29, b30)))), rfl, rfl, ⟨H2.sel' [1, 2, 0, 3, 4, 5, 6, 7, 8] rfl rfl, m.comp0 (m2.mono (fun i h => by simp [cov, Ch.ro] at h))⟩, stab [0, 1, 3, 4, 6, 7, 9, 10, 13] (by kernel_rfl) ⟨rfl, rfl, rfl, rfl, rfl, rfl, rfl, rfl, rfl, trivial⟩⟩
    refine ⟨?_, ?_⟩
    ·rintro ⟨⟨⟨a11, c12⟩, ⟨b14, ⟨a17, c18⟩⟩⟩, ⟨⟨a23, ⟨c24, b25⟩⟩, ⟨a28, ⟨c29, b30⟩⟩⟩⟩ ρ σm hJ hoff hdep
     have e10 : look 31 ρ 10 = (Sl ah_0_0 h_0.1 ch_0_0) := hdep 1 rfl rfl 10 rfl
     obtain ⟨H, m⟩ := id hJ
     refine dp_cx wn (cx_call hc10 (ent_f hc10.fn (by show [look 31 ρ 10] = _; rw [e10])) hn0 (show Hp S0 σ0 _ ([Ch.ro 0 (Sl ah_0_0 h_0.1 ch_0_0) h_0.1] ++ [Ch.bx n0 b30 0 [(.slice none 0 0), (.slice none 0 0)] [] [], Ch.own n0 n0 (Sl (some ⟨b25, 0, none⟩) ([t_2] : List Int) 1) ([t_2] : List Int), Ch.own n0 0 (Sl (some ⟨b14, 0, none⟩) ([(e_1.1, (e_1.2.1, e_1.2.2.1, e_1.2.2.2))] : List (Int × (Int × (List Int) × Int))) 1) ([(e_1.1, (e_1.2.1, e_1.2.2.1, e_1.2.2.2))] : List (Int × (Int × (List Int) × Int))), Ch.bx n0 b5 0 [(.slice none 0 0), (.slice none 0 0)] [] [], Ch.bx n0 b3 0 [(I e_1.1), (I e_1.2.1), (Sl ae_1_1_1 e_1.2.2.1 ce_1_1_1), (I e_1.2.2.2)] [] [], Ch.bx n0 b1 0 [(Sl ah_0_0 h_0.1 ch_0_0), (Sl ah_0_1 h_0.2 ch_0_1)] [] [], Ch.ro 0 (Sl ah_0_0 h_0.1 ch_0_0) h_0.1, Ch.ro 0 (Sl ah_0_1 h_0.2 ch_0_1) h_0.2, Ch.ro 0 (Sl ae_1_1_1 e_1.2.2.1 ce_1_1_1) e_1.2.2.1]) from (H.sel' [6, 0, 1, 2, 3, 4, 5, 6, 7, 8] rfl rfl))) ?_
     rintro _ σq ⟨_, ⟨a11x, c12x, rfl, rfl⟩, H2, m2⟩
     exact ⟨_, (((a11x, c12x), (b14, (a17, c18))), ((a23, (c24, b25)), (a28, (c29, b30)))), rfl, rfl, ⟨H2.sel' [1, 2, 3, 0, 4, 5, 6, 7, 8, 9] rfl rfl, m.comp0 (m2.mono (fun i h => by simp [cov, Ch.ro] at h))⟩, stab [0, 1, 3, 4, 6, 7, 9, 10, 13] (by kernel_rfl) ⟨rfl, rfl, rfl, rfl, rfl, rfl, rfl, rfl, rfl, trivial⟩⟩
    trivial) ?_
  refine all_cons (by
    refine ⟨?_, ?_⟩
    ·rintro ⟨⟨⟨a11, c12⟩, ⟨b14, ⟨a17, c18⟩⟩⟩, ⟨⟨a23, ⟨c24, b25⟩⟩, ⟨a28, ⟨c29, b30⟩⟩⟩⟩ ρ σm hJ hoff hdep
     have e4 := look_off (N := 31) (hoff 4 rfl) rfl
     obtain ⟨H, m⟩ := id hJ
     have hc13 := H.cells 1 rfl
     exact dp_v (v := (.agg #[(I e_1.1), (I e_1.2.1), (Sl ae_1_1_1 e_1.2.2.1 ce_1_1_1), (I e_1.2.2.2)])) wn (rv_load (cs := [(I e_1.1), (I e_1.2.1), (Sl ae_1_1_1 e_1.2.2.1 ce_1_1_1), (I e_1.2.2.2)]) Try.underlying56 rfl ti56 e4 rfl hc13) rfl hJ
    refine ⟨?_, ?_⟩
    ·rintro ⟨⟨⟨a11, c12⟩, ⟨b14, ⟨a17, c18⟩⟩⟩, ⟨⟨a23, ⟨c24, b25⟩⟩, ⟨a28, ⟨c29, b30⟩⟩⟩⟩ ρ σm hJ hoff hdep
     have e4 := look_off (N := 31) (hoff 4 rfl) rfl
     obtain ⟨H, m⟩ := id hJ
     have hc13 := H.cells 2 rfl
     exact dp_v (v := (.agg #[(I e_1.1), (I e_1.2.1), (Sl ae_1_1_1 e_1.2.2.1 ce_1_1_1), (I e_1.2.2.2)])) wn (rv_load (cs := [(I e_1.1), (I e_1.2.1), (Sl ae_1_1_1 e_1.2.2.1 ce_1_1_1), (I e_1.2.2.2)]) Try.underlying56 rfl ti56 e4 rfl hc13) rfl hJ
    refine ⟨?_, ?_⟩
    ·rintro ⟨⟨⟨a11, c12⟩, ⟨b14, ⟨a17, c18⟩⟩⟩, ⟨⟨a23, ⟨c24, b25⟩⟩, ⟨a28, ⟨c29, b30⟩⟩⟩⟩ ρ σm hJ hoff hdep
     have e4 := look_off (N := 31) (hoff 4 rfl) rfl
     obtain ⟨H, m⟩ := id hJ
     have hc13 := H.cells 2 rfl
     exact dp_v (v := (.agg #[(I e_1.1), (I e_1.2.1), (Sl ae_1_1_1 e_1.2.2.1 ce_1_1_1), (I e_1.2.2.2)])) wn (rv_load (cs := [(I e_1.1), (I e_1.2.1), (Sl ae_1_1_1 e_1.2.2.1 ce_1_1_1), (I e_1.2.2.2)]) Try.underlying56 rfl ti56 e4 rfl hc13) rfl hJ
    refine ⟨?_, ?_⟩
    ·rintro ⟨⟨⟨a11, c12⟩, ⟨b14, ⟨a17, c18⟩⟩⟩, ⟨⟨a23, ⟨c24, b25⟩⟩, ⟨a28, ⟨c29, b30⟩⟩⟩⟩ ρ σm hJ hoff hdep
     have e4 := look_off (N := 31) (hoff 4 rfl) rfl
     obtain ⟨H, m⟩ := id hJ
     have hc13 := H.cells 2 rfl
     exact dp_v (v := (.agg #[(I e_1.1), (I e_1.2.1), (Sl ae_1_1_1 e_1.2.2.1 ce_1_1_1), (I e_1.2.2.2)])) wn (rv_load (cs := [(I e_1.1), (I e_1.2.1), (Sl ae_1_1_1 e_1.2.2.1 ce_1_1_1), (I e_1.2.2.2)]) Try.underlying56 rfl ti56 e4 rfl hc13) rfl hJ
    refine ⟨?_, ?_⟩
    ·rintro ⟨⟨⟨a11, c12⟩, ⟨b14, ⟨a17, c18⟩⟩⟩, ⟨⟨a23, ⟨c24, b25⟩⟩, ⟨a28, ⟨c29, b30⟩⟩⟩⟩ ρ σm hJ hoff hdep
     have e4 := look_off (N := 31) (hoff 4 rfl) rfl
     obtain ⟨H, m⟩ := id hJ
     have hc13 := H.cells 3 rfl
     exact dp_v (v := (.agg #[(I e_1.1), (I e_1.2.1), (Sl ae_1_1_1 e_1.2.2.1 ce_1_1_1), (I e_1.2.2.2)])) wn (rv_load (cs := [(I e_1.1), (I e_1.2.1), (Sl ae_1_1_1 e_1.2.2.1 ce_1_1_1), (I e_1.2.2.2)]) Try.underlying56 rfl ti56 e4 rfl hc13) rfl hJ
    refine ⟨?_, ?_⟩
    ·rintro ⟨⟨⟨a11, c12⟩, ⟨b14, ⟨a17, c18⟩⟩⟩, ⟨⟨a23, ⟨c24, b25⟩⟩, ⟨a28, ⟨c29, b30⟩⟩⟩⟩ ρ σm hJ hoff hdep
     have e4 := look_off (N := 31) (hoff 4 rfl) rfl
     obtain ⟨H, m⟩ := id hJ
     have hc13 := H.cells 3 rfl
     exact dp_v (v := (.agg #[(I e_1.1), (I e_1.2.1), (Sl ae_1_1_1 e_1.2.2.1 ce_1_1_1), (I e_1.2.2.2)])) wn (rv_load (cs := [(I e_1.1), (I e_1.2.1), (Sl ae_1_1_1 e_1.2.2.1 ce_1_1_1), (I e_1.2.2.2)]) Try.underlying56 rfl ti56 e4 rfl hc13) rfl hJ
    refine ⟨?_, ?_⟩
    ·rintro ⟨⟨⟨a11, c12⟩, ⟨b14, ⟨a17, c18⟩⟩⟩, ⟨⟨a23, ⟨c24, b25⟩⟩, ⟨a28, ⟨c29, b30⟩⟩⟩⟩ ρ σm hJ hoff hdep
     have e4 := look_off (N := 31) (hoff 4 rfl) rfl
     obtain ⟨H, m⟩ := id hJ
     have hc13 := H.cells 3 rfl
     exact dp_v (v := (.agg #[(I e_1.1), (I e_1.2.1), (Sl ae_1_1_1 e_1.2.2.1 ce_1_1_1), (I e_1.2.2.2)])) wn (rv_load (cs := [(I e_1.1), (I e_1.2.1), (Sl ae_1_1_1 e_1.2.2.1 ce_1_1_1), (I e_1.2.2.2)]) Try.underlying56 rfl ti56 e4 rfl hc13) rfl hJ
    refine ⟨?_, ?_⟩
    ·rintro ⟨⟨⟨a11, c12⟩, ⟨b14, ⟨a17, c18⟩⟩⟩, ⟨⟨a23, ⟨c24, b25⟩⟩, ⟨a28, ⟨c29, b30⟩⟩⟩⟩ ρ σm hJ hoff hdep
     have e4 := look_off (N := 31) (hoff 4 rfl) rfl
     obtain ⟨H, m⟩ := id hJ
     have hc13 := H.cells 4 rfl
     exact dp_v (v := (.agg #[(I e_1.1), (I e_1.2.1), (Sl ae_1_1_1 e_1.2.2.1 ce_1_1_1), (I e_1.2.2.2)])) wn (rv_load (cs := [(I e_1.1), (I e_1.2.1), (Sl ae_1_1_1 e_1.2.2.1 ce_1_1_1), (I e_1.2.2.2)]) Try.underlying56 rfl ti56 e4 rfl hc13) rfl hJ
    trivial) ?_
  refine all_cons (by
    refine ⟨?_, ?_⟩
    ·rintro ⟨⟨⟨a11, c12⟩, ⟨b14, ⟨a17, c18⟩⟩⟩, ⟨⟨a23, ⟨c24, b25⟩⟩, ⟨a28, ⟨c29, b30⟩⟩⟩⟩ ρ σm hJ hoff hdep
     have e12 : look 31 ρ 12 = (.agg #[(I e_1.1), (I e_1.2.1), (Sl ae_1_1_1 e_1.2.2.1 ce_1_1_1), (I e_1.2.2.2)]) := hdep 3 rfl rfl 12 rfl
     obtain ⟨H, m⟩ := id hJ
     refine dp_ex wn (ex_buildSlice (el := 0) (xs := ([(e_1.1, (e_1.2.1, e_1.2.2.1, e_1.2.2.2))] : List (Int × (Int × (List Int) × Int)))) (ps := [(0, (.agg #[(I e_1.1), (I e_1.2.1), (Sl ae_1_1_1 e_1.2.2.1 ce_1_1_1), (I e_1.2.2.2)]))]) (cs := [(I e_1.1), (I e_1.2.1), (Sl ae_1_1_1 e_1.2.2.1 ce_1_1_1), (I e_1.2.2.2)]) H hn0 Try.underlying23 ti56 rfl (by show [(0, look 31 ρ 12)] = _; rw [e12]) (by kernel_rfl) (.cons (c := [(I e_1.1), (I e_1.2.1), (Sl ae_1_1_1 e_1.2.2.1 ce_1_1_1), (I e_1.2.2.2)]) ⟨[(I e_1.1)], [(I e_1.2.1), (Sl ae_1_1_1 e_1.2.2.1 ce_1_1_1), (I e_1.2.2.2)], rfl, rfl, ⟨[(I e_1.2.1)], [(Sl ae_1_1_1 e_1.2.2.1 ce_1_1_1), (I e_1.2.2.2)], rfl, rfl, ⟨[(Sl ae_1_1_1 e_1.2.2.1 ce_1_1_1)], [(I e_1.2.2.2)], rfl, ⟨_, rfl, (H.ro 5 rfl)⟩, rfl⟩⟩⟩ (.nil)) rfl) ?_
     rintro _ σq ⟨b14x, rfl, H2, m2⟩
     exact ⟨_, (((a11, c12), (b14x, (a17, c18))), ((a23, (c24, b25)), (a28, (c29, b30)))), rfl, rfl, ⟨H2.sel' [0, 1, 2, 3, 4, 5, 6] rfl rfl, m.comp0 m2⟩, stab [0, 1, 2, 3, 6, 7, 9, 10, 13] (by kernel_rfl) ⟨rfl, rfl, rfl, rfl, rfl, rfl, rfl, rfl, rfl, trivial⟩⟩
    refine ⟨?_, ?_⟩
    ·rintro ⟨⟨⟨a11, c12⟩, ⟨b14, ⟨a17, c18⟩⟩⟩, ⟨⟨a23, ⟨c24, b25⟩⟩, ⟨a28, ⟨c29, b30⟩⟩⟩⟩ ρ σm hJ hoff hdep
     have e12 : look 31 ρ 12 = (.agg #[(I e_1.1), (I e_1.2.1), (Sl ae_1_1_1 e_1.2.2.1 ce_1_1_1), (I e_1.2.2.2)]) := hdep 3 rfl rfl 12 rfl
     obtain ⟨H, m⟩ := id hJ
     refine dp_ex wn (ex_buildSlice (el := 0) (xs := ([(e_1.1, (e_1.2.1, e_1.2.2.1, e_1.2.2.2))] : List (Int × (Int × (List Int) × Int)))) (ps := [(0, (.agg #[(I e_1.1), (I e_1.2.1), (Sl ae_1_1_1 e_1.2.2.1 ce_1_1_1), (I e_1.2.2.2)]))]) (cs := [(I e_1.1), (I e_1.2.1), (Sl ae_1_1_1 e_1.2.2.1 ce_1_1_1), (I e_1.2.2.2)]) H hn0 Try.underlying23 ti56 rfl (by show [(0, look 31 ρ 12)] = _; rw [e12]) (by kernel_rfl) (.cons (c := [(I e_1.1), (I e_1.2.1), (Sl ae_1_1_1 e_1.2.2.1 ce_1_1_1), (I e_1.2.2.2)]) ⟨[(I e_1.1)], [(I e_1.2.1), (Sl ae_1_1_1 e_1.2.2.1 ce_1_1_1), (I e_1.2.2.2)], rfl, rfl, ⟨[(I e_1.2.1)], [(Sl ae_1_1_1 e_1.2.2.1 ce_1_1_1), (I e_1.2.2.2)], rfl, rfl, ⟨[(Sl ae_1_1_1 e_1.2.2.1 ce_1_1_1)], [(I e_1.2.2.2)], rfl, ⟨_, rfl, (H.ro 6 rfl)⟩, rfl⟩⟩⟩ (.nil)) rfl) ?_
     rintro _ σq ⟨b14x, rfl, H2, m2⟩
     exact ⟨_, (((a11, c12), (b14x, (a17, c18))), ((a23, (c24, b25)), (a28, (c29, b30)))), rfl, rfl, ⟨H2.sel' [0, 1, 2, 3, 4, 5, 6, 7] rfl rfl, m.comp0 m2⟩, stab [0, 1, 2, 3, 6, 7, 9, 10, 13] (by kernel_rfl) ⟨rfl, rfl, rfl, rfl, rfl, rfl, rfl, rfl, rfl, trivial⟩⟩
    refine ⟨?_, ?_⟩
    ·rintro ⟨⟨⟨a11, c12⟩, ⟨b14, ⟨a17, c18⟩⟩⟩, ⟨⟨a23, ⟨c24, b25⟩⟩, ⟨a28, ⟨c29, b30⟩⟩⟩⟩ ρ σm hJ hoff hdep
     have e12 : look 31 ρ 12 = (.agg #[(I e_1.1), (I e_1.2.1), (Sl ae_1_1_1 e_1.2.2.1 ce_1_1_1), (I e_1.2.2.2)]) := hdep 3 rfl rfl 12 rfl
     obtain ⟨H, m⟩ := id hJ
     refine dp_ex wn (ex_buildSlice (el := 0) (xs := ([(e_1.1, (e_1.2.1, e_1.2.2.1, e_1.2.2.2))] : List (Int × (Int × (List Int) × Int)))) (ps := [(0, (.agg #[(I e_1.1), (I e_1.2.1), (Sl ae_1_1_1 e_1.2.2.1 ce_1_1_1), (I e_1.2.2.2)]))]) (cs := [(I e_1.1), (I e_1.2.1), (Sl ae_1_1_1 e_1.2.2.1 ce_1_1_1), (I e_1.2.2.2)]) H hn0 Try.underlying23 ti56 rfl (by show [(0, look 31 ρ 12)] = _; rw [e12]) (by kernel_rfl) (.cons (c := [(I e_1.1), (I e_1.2.1), (Sl ae_1_1_1 e_1.2.2.1 ce_1_1_1), (I e_1.2.2.2)]) ⟨[(I e_1.1)], [(I e_1.2.1), (Sl ae_1_1_1 e_1.2.2.1 ce_1_1_1), (I e_1.2.2.2)], rfl, rfl, ⟨[(I e_1.2.1)], [(Sl ae_1_1_1 e_1.2.2.1 ce_1_1_1), (I e_1.2.2.2)], rfl, rfl, ⟨[(Sl ae_1_1_1 e_1.2.2.1 ce_1_1_1)], [(I e_1.2.2.2)], rfl, ⟨_, rfl, (H.ro 6 rfl)⟩, rfl⟩⟩⟩ (.nil)) rfl) ?_
     rintro _ σq ⟨b14x, rfl, H2, m2⟩
     exact ⟨_, (((a11, c12), (b14x, (a17, c18))), ((a23, (c24, b25)), (a28, (c29, b30)))), rfl, rfl, ⟨H2.sel' [1, 0, 2, 3, 4, 5, 6, 7] rfl rfl, m.comp0 m2⟩, stab [0, 1, 2, 3, 6, 7, 9, 10, 13] (by kernel_rfl) ⟨rfl, rfl, rfl, rfl, rfl, rfl, rfl, rfl, rfl, trivial⟩⟩
    refine ⟨?_, ?_⟩
    ·rintro ⟨⟨⟨a11, c12⟩, ⟨b14, ⟨a17, c18⟩⟩⟩, ⟨⟨a23, ⟨c24, b25⟩⟩, ⟨a28, ⟨c29, b30⟩⟩⟩⟩ ρ σm hJ hoff hdep
     have e12 : look 31 ρ 12 = (.agg #[(I e_1.1), (I e_1.2.1), (Sl ae_1_1_1 e_1.2.2.1 ce_1_1_1), (I e_1.2.2.2)]) := hdep 3 rfl rfl 12 rfl
     obtain ⟨H, m⟩ := id hJ
     refine dp_ex wn (ex_buildSlice (el := 0) (xs := ([(e_1.1, (e_1.2.1, e_1.2.2.1, e_1.2.2.2))] : List (Int × (Int × (List Int) × Int)))) (ps := [(0, (.agg #[(I e_1.1), (I e_1.2.1), (Sl ae_1_1_1 e_1.2.2.1 ce_1_1_1), (I e_1.2.2.2)]))]) (cs := [(I e_1.1), (I e_1.2.1), (Sl ae_1_1_1 e_1.2.2.1 ce_1_1_1), (I e_1.2.2.2)]) H hn0 Try.underlying23 ti56 rfl (by show [(0, look 31 ρ 12)] = _; rw [e12]) (by kernel_rfl) (.cons (c := [(I e_1.1), (I e_1.2.1), (Sl ae_1_1_1 e_1.2.2.1 ce_1_1_1), (I e_1.2.2.2)]) ⟨[(I e_1.1)], [(I e_1.2.1), (Sl ae_1_1_1 e_1.2.2.1 ce_1_1_1), (I e_1.2.2.2)], rfl, rfl, ⟨[(I e_1.2.1)], [(Sl ae_1_1_1 e_1.2.2.1 ce_1_1_1), (I e_1.2.2.2)], rfl, rfl, ⟨[(Sl ae_1_1_1 e_1.2.2.1 ce_1_1_1)], [(I e_1.2.2.2)], rfl, ⟨_, rfl, (H.ro 6 rfl)⟩, rfl⟩⟩⟩ (.nil)) rfl) ?_
     rintro _ σq ⟨b14x, rfl, H2, m2⟩
     exact ⟨_, (((a11, c12), (b14x, (a17, c18))), ((a23, (c24, b25)), (a28, (c29, b30)))), rfl, rfl, ⟨H2.sel' [1, 0, 2, 3, 4, 5, 6, 7] rfl rfl, m.comp0 m2⟩, stab [0, 1, 2, 3, 6, 7, 9, 10, 13] (by kernel_rfl) ⟨rfl, rfl, rfl, rfl, rfl, rfl, rfl, rfl, rfl, trivial⟩⟩
    refine ⟨?_, ?_⟩
    ·rintro ⟨⟨⟨a11, c12⟩, ⟨b14, ⟨a17, c18⟩⟩⟩, ⟨⟨a23, ⟨c24, b25⟩⟩, ⟨a28, ⟨c29, b30⟩⟩⟩⟩ ρ σm hJ hoff hdep
     have e12 : look 31 ρ 12 = (.agg #[(I e_1.1), (I e_1.2.1), (Sl ae_1_1_1 e_1.2.2.1 ce_1_1_1), (I e_1.2.2.2)]) := hdep 3 rfl rfl 12 rfl
     obtain ⟨H, m⟩ := id hJ
     refine dp_ex wn (ex_buildSlice (el := 0) (xs := ([(e_1.1, (e_1.2.1, e_1.2.2.1, e_1.2.2.2))] : List (Int × (Int × (List Int) × Int)))) (ps := [(0, (.agg #[(I e_1.1), (I e_1.2.1), (Sl ae_1_1_1 e_1.2.2.1 ce_1_1_1), (I e_1.2.2.2)]))]) (cs := [(I e_1.1), (I e_1.2.1), (Sl ae_1_1_1 e_1.2.2.1 ce_1_1_1), (I e_1.2.2.2)]) H hn0 Try.underlying23 ti56 rfl (by show [(0, look 31 ρ 12)] = _; rw [e12]) (by kernel_rfl) (.cons (c := [(I e_1.1), (I e_1.2.1), (Sl ae_1_1_1 e_1.2.2.1 ce_1_1_1), (I e_1.2.2.2)]) ⟨[(I e_1.1)], [(I e_1.2.1), (Sl ae_1_1_1 e_1.2.2.1 ce_1_1_1), (I e_1.2.2.2)], rfl, rfl, ⟨[(I e_1.2.1)], [(Sl ae_1_1_1 e_1.2.2.1 ce_1_1_1), (I e_1.2.2.2)], rfl, rfl, ⟨[(Sl ae_1_1_1 e_1.2.2.1 ce_1_1_1)], [(I e_1.2.2.2)], rfl, ⟨_, rfl, (H.ro 7 rfl)⟩, rfl⟩⟩⟩ (.nil)) rfl) ?_
     rintro _ σq ⟨b14x, rfl, H2, m2⟩
     exact ⟨_, (((a11, c12), (b14x, (a17, c18))), ((a23, (c24, b25)), (a28, (c29, b30)))), rfl, rfl, ⟨H2.sel' [1, 0, 2, 3, 4, 5, 6, 7, 8] rfl rfl, m.comp0 m2⟩, stab [0, 1, 2, 3, 6, 7, 9, 10, 13] (by kernel_rfl) ⟨rfl, rfl, rfl, rfl, rfl, rfl, rfl, rfl, rfl, trivial⟩⟩
    refine ⟨?_, ?_⟩
    ·rintro ⟨⟨⟨a11, c12⟩, ⟨b14, ⟨a17, c18⟩⟩⟩, ⟨⟨a23, ⟨c24, b25⟩⟩, ⟨a28, ⟨c29, b30⟩⟩⟩⟩ ρ σm hJ hoff hdep
     have e12 : look 31 ρ 12 = (.agg #[(I e_1.1), (I e_1.2.1), (Sl ae_1_1_1 e_1.2.2.1 ce_1_1_1), (I e_1.2.2.2)]) := hdep 3 rfl rfl 12 rfl
     obtain ⟨H, m⟩ := id hJ
     refine dp_ex wn (ex_buildSlice (el := 0) (xs := ([(e_1.1, (e_1.2.1, e_1.2.2.1, e_1.2.2.2))] : List (Int × (Int × (List Int) × Int)))) (ps := [(0, (.agg #[(I e_1.1), (I e_1.2.1), (Sl ae_1_1_1 e_1.2.2.1 ce_1_1_1), (I e_1.2.2.2)]))]) (cs := [(I e_1.1), (I e_1.2.1), (Sl ae_1_1_1 e_1.2.2.1 ce_1_1_1), (I e_1.2.2.2)]) H hn0 Try.underlying23 ti56 rfl (by show [(0, look 31 ρ 12)] = _; rw [e12]) (by kernel_rfl) (.cons (c := [(I e_1.1), (I e_1.2.1), (Sl ae_1_1_1 e_1.2.2.1 ce_1_1_1), (I e_1.2.2.2)]) ⟨[(I e_1.1)], [(I e_1.2.1), (Sl ae_1_1_1 e_1.2.2.1 ce_1_1_1), (I e_1.2.2.2)], rfl, rfl, ⟨[(I e_1.2.1)], [(Sl ae_1_1_1 e_1.2.2.1 ce_1_1_1), (I e_1.2.2.2)], rfl, rfl, ⟨[(Sl ae_1_1_1 e_1.2.2.1 ce_1_1_1)], [(I e_1.2.2.2)], rfl, ⟨_, rfl, (H.ro 7 rfl)⟩, rfl⟩⟩⟩ (.nil)) rfl) ?_
     rintro _ σq ⟨b14x, rfl, H2, m2⟩
     exact ⟨_, (((a11, c12), (b14x, (a17, c18))), ((a23, (c24, b25)), (a28, (c29, b30)))), rfl, rfl, ⟨H2.sel' [1, 0, 2, 3, 4, 5, 6, 7, 8] rfl rfl, m.comp0 m2⟩, stab [0, 1, 2, 3, 6, 7, 9, 10, 13] (by kernel_rfl) ⟨rfl, rfl, rfl, rfl, rfl, rfl, rfl, rfl, rfl, trivial⟩⟩
    refine ⟨?_, ?_⟩
    ·rintro ⟨⟨⟨a11, c12⟩, ⟨b14, ⟨a17, c18⟩⟩⟩, ⟨⟨a23, ⟨c24, b25⟩⟩, ⟨a28, ⟨c29, b30⟩⟩⟩⟩ ρ σm hJ hoff hdep
     have e12 : look 31 ρ 12 = (.agg #[(I e_1.1), (I e_1.2.1), (Sl ae_1_1_1 e_1.2.2.1 ce_1_1_1), (I e_1.2.2.2)]) := hdep 3 rfl rfl 12 rfl
     obtain ⟨H, m⟩ := id hJ
     refine dp_ex wn (ex_buildSlice (el := 0) (xs := ([(e_1.1, (e_1.2.1, e_1.2.2.1, e_1.2.2.2))] : List (Int × (Int × (List Int) × Int)))) (ps := [(0, (.agg #[(I e_1.1), (I e_1.2.1), (Sl ae_1_1_1 e_1.2.2.1 ce_1_1_1), (I e_1.2.2.2)]))]) (cs := [(I e_1.1), (I e_1.2.1), (Sl ae_1_1_1 e_1.2.2.1 ce_1_1_1), (I e_1.2.2.2)]) H hn0 Try.underlying23 ti56 rfl (by show [(0, look 31 ρ 12)] = _; rw [e12]) (by kernel_rfl) (.cons (c := [(I e_1.1), (I e_1.2.1), (Sl ae_1_1_1 e_1.2.2.1 ce_1_1_1), (I e_1.2.2.2)]) ⟨[(I e_1.1)], [(I e_1.2.1), (Sl ae_1_1_1 e_1.2.2.1 ce_1_1_1), (I e_1.2.2.2)], rfl, rfl, ⟨[(I e_1.2.1)], [(Sl ae_1_1_1 e_1.2.2.1 ce_1_1_1), (I e_1.2.2.2)], rfl, rfl, ⟨[(Sl ae_1_1_1 e_1.2.2.1 ce_1_1_1)], [(I e_1.2.2.2)], rfl, ⟨_, rfl, (H.ro 7 rfl)⟩, rfl⟩⟩⟩ (.nil)) rfl) ?_
     rintro _ σq ⟨b14x, rfl, H2, m2⟩
     exact ⟨_, (((a11, c12), (b14x, (a17, c18))), ((a23, (c24, b25)), (a28, (c29, b30)))), rfl, rfl, ⟨H2.sel' [1, 2, 0, 3, 4, 5, 6, 7, 8] rfl rfl, m.comp0 m2⟩, stab [0, 1, 2, 3, 6, 7, 9, 10, 13] (by kernel_rfl) ⟨rfl, rfl, rfl, rfl, rfl, rfl, rfl, rfl, rfl, trivial⟩⟩
    refine ⟨?_, ?_⟩
    ·rintro ⟨⟨⟨a11, c12⟩, ⟨b14, ⟨a17, c18⟩⟩⟩, ⟨⟨a23, ⟨c24, b25⟩⟩, ⟨a28, ⟨c29, b30⟩⟩⟩⟩ ρ σm hJ hoff hdep
     have e12 : look 31 ρ 12 = (.agg #[(I e_1.1), (I e_1.2.1), (Sl ae_1_1_1 e_1.2.2.1 ce_1_1_1), (I e_1.2.2.2)]) := hdep 3 rfl rfl 12 rfl
     obtain ⟨H, m⟩ := id hJ
     refine dp_ex wn (ex_buildSlice (el := 0) (xs := ([(e_1.1, (e_1.2.1, e_1.2.2.1, e_1.2.2.2))] : List (Int × (Int × (List Int) × Int)))) (ps := [(0, (.agg #[(I e_1.1), (I e_1.2.1), (Sl ae_1_1_1 e_1.2.2.1 ce_1_1_1), (I e_1.2.2.2)]))]) (cs := [(I e_1.1), (I e_1.2.1), (Sl ae_1_1_1 e_1.2.2.1 ce_1_1_1), (I e_1.2.2.2)]) H hn0 Try.underlying23 ti56 rfl (by show [(0, look 31 ρ 12)] = _; rw [e12]) (by kernel_rfl) (.cons (c := [(I e_1.1), (I e_1.2.1), (Sl ae_1_1_1 e_1.2.2.1 ce_1_1_1), (I e_1.2.2.2)]) ⟨[(I e_1.1)], [(I e_1.2.1), (Sl ae_1_1_1 e_1.2.2.1 ce_1_1_1), (I e_1.2.2.2)], rfl, rfl, ⟨[(I e_1.2.1)], [(Sl ae_1_1_1 e_1.2.2.1 ce_1_1_1), (I e_1.2.2.2)], rfl, rfl, ⟨[(Sl ae_1_1_1 e_1.2.2.1 ce_1_1_1)], [(I e_1.2.2.2)], rfl, ⟨_, rfl, (H.ro 8 rfl)⟩, rfl⟩⟩⟩ (.nil)) rfl) ?_
     rintro _ σq ⟨b14x, rfl, H2, m2⟩
     exact ⟨_, (((a11, c12), (b14x, (a17, c18))), ((a23, (c24, b25)), (a28, (c29, b30)))), rfl, rfl, ⟨H2.sel' [1, 2, 0, 3, 4, 5, 6, 7, 8, 9] rfl rfl, m.comp0 m2⟩, stab [0, 1, 2, 3, 6, 7, 9, 10, 13] (by kernel_rfl) ⟨rfl, rfl, rfl, rfl, rfl, rfl, rfl, rfl, rfl, trivial⟩⟩
    trivial) ?_
  refine all_cons (by
    refine ⟨?_, ?_⟩
    ·rintro ⟨⟨⟨a11, c12⟩, ⟨b14, ⟨a17, c18⟩⟩⟩, ⟨⟨a23, ⟨c24, b25⟩⟩, ⟨a28, ⟨c29, b30⟩⟩⟩⟩ ρ σm hJ hoff hdep
     have e11 := hdep 2 rfl rfl 11 rfl
     have e13 := hdep 4 rfl rfl 13 rfl
     obtain ⟨H, m⟩ := id hJ
     refine dp_ex wn (ex_append H (i := 1) rfl Try.underlying23 Try.underlying23 ti56 rfl rfl (by decide) (H.own 0 rfl).rd hx16 hn0 e11 e13) ?_
     rintro _ σq ⟨a17x, c18x, rfl, H2, m2⟩
     exact ⟨_, (((a11, c12), (b14, (a17x, c18x))), ((a23, (c24, b25)), (a28, (c29, b30)))), rfl, rfl, ⟨H2.sel' [0, 1, 2, 3, 4, 5, 6, 7] rfl rfl, m.comp m2⟩, stab [0, 1, 2, 3, 4, 6, 7, 9, 10, 13] (by kernel_rfl) ⟨rfl, rfl, rfl, rfl, rfl, rfl, rfl, rfl, rfl, rfl, trivial⟩⟩
    refine ⟨?_, ?_⟩
    ·rintro ⟨⟨⟨a11, c12⟩, ⟨b14, ⟨a17, c18⟩⟩⟩, ⟨⟨a23, ⟨c24, b25⟩⟩, ⟨a28, ⟨c29, b30⟩⟩⟩⟩ ρ σm hJ hoff hdep
     have e11 := hdep 2 rfl rfl 11 rfl
     have e13 := hdep 4 rfl rfl 13 rfl
     obtain ⟨H, m⟩ := id hJ
     refine dp_ex wn (ex_append H (i := 2) rfl Try.underlying23 Try.underlying23 ti56 rfl rfl (by decide) (H.own 1 rfl).rd hx16 hn0 e11 e13) ?_
     rintro _ σq ⟨a17x, c18x, rfl, H2, m2⟩
     exact ⟨_, (((a11, c12), (b14, (a17x, c18x))), ((a23, (c24, b25)), (a28, (c29, b30)))), rfl, rfl, ⟨H2.sel' [1, 0, 2, 3, 4, 5, 6, 7, 8] rfl rfl, m.comp m2⟩, stab [0, 1, 2, 3, 4, 6, 7, 9, 10, 13] (by kernel_rfl) ⟨rfl, rfl, rfl, rfl, rfl, rfl, rfl, rfl, rfl, rfl, trivial⟩⟩
    refine ⟨?_, ?_⟩
    ·rintro ⟨⟨⟨a11, c12⟩, ⟨b14, ⟨a17, c18⟩⟩⟩, ⟨⟨a23, ⟨c24, b25⟩⟩, ⟨a28, ⟨c29, b30⟩⟩⟩⟩ ρ σm hJ hoff hdep
     have e11 := hdep 2 rfl rfl 11 rfl
     have e13 := hdep 4 rfl rfl 13 rfl
     obtain ⟨H, m⟩ := id hJ
     refine dp_ex wn (ex_append H (i := 2) rfl Try.underlying23 Try.underlying23 ti56 rfl rfl (by decide) (H.own 1 rfl).rd hx16 hn0 e11 e13) ?_
     rintro _ σq ⟨a17x, c18x, rfl, H2, m2⟩
     exact ⟨_, (((a11, c12), (b14, (a17x, c18x))), ((a23, (c24, b25)), (a28, (c29, b30)))), rfl, rfl, ⟨H2.sel' [1, 0, 2, 3, 4, 5, 6, 7, 8] rfl rfl, m.comp m2⟩, stab [0, 1, 2, 3, 4, 6, 7, 9, 10, 13] (by kernel_rfl) ⟨rfl, rfl, rfl, rfl, rfl, rfl, rfl, rfl, rfl, rfl, trivial⟩⟩
    refine ⟨?_, ?_⟩
    ·rintro ⟨⟨⟨a11, c12⟩, ⟨b14, ⟨a17, c18⟩⟩⟩, ⟨⟨a23, ⟨c24, b25⟩⟩, ⟨a28, ⟨c29, b30⟩⟩⟩⟩ ρ σm hJ hoff hdep
     have e11 := hdep 2 rfl rfl 11 rfl
     have e13 := hdep 4 rfl rfl 13 rfl
     obtain ⟨H, m⟩ := id hJ
     refine dp_ex wn (ex_append H (i := 3) rfl Try.underlying23 Try.underlying23 ti56 rfl rfl (by decide) (H.own 2 rfl).rd hx16 hn0 e11 e13) ?_
     rintro _ σq ⟨a17x, c18x, rfl, H2, m2⟩
     exact ⟨_, (((a11, c12), (b14, (a17x, c18x))), ((a23, (c24, b25)), (a28, (c29, b30)))), rfl, rfl, ⟨H2.sel' [1, 2, 0, 3, 4, 5, 6, 7, 8, 9] rfl rfl, m.comp m2⟩, stab [0, 1, 2, 3, 4, 6, 7, 9, 10, 13] (by kernel_rfl) ⟨rfl, rfl, rfl, rfl, rfl, rfl, rfl, rfl, rfl, rfl, trivial⟩⟩
    trivial) ?_
  refine ac rfl (by
    intro k; rintro ⟨⟨⟨a11, c12⟩, ⟨b14, ⟨a17, c18⟩⟩⟩, ⟨⟨a23, ⟨c24, b25⟩⟩, ⟨a28, ⟨c29, b30⟩⟩⟩⟩ ρ σm hJ hoff hdep
    have e3 := look_off (N := 31) (hoff 3 rfl) rfl
    exact dp_v (v := (pt b1 1)) wn (rv_fieldAddr (off := 1) (ft := 24) Try.underlying26 rfl ti24 rfl e3) rfl hJ) ?_
  refine all_cons (by
    refine ⟨?_, ?_⟩
    ·rintro ⟨⟨⟨a11, c12⟩, ⟨b14, ⟨a17, c18⟩⟩⟩, ⟨⟨a23, ⟨c24, b25⟩⟩, ⟨a28, ⟨c29, b30⟩⟩⟩⟩ ρ σm hJ hoff hdep
     have e15 := hdep 6 rfl rfl 15 rfl
     obtain ⟨H, m⟩ := id hJ
     have hc19 := H.cell (u := (Sl ah_0_1 h_0.2 ch_0_1)) (o' := 1) 2 1 rfl rfl rfl
     exact dp_v (v := (Sl ah_0_1 h_0.2 ch_0_1)) wn (rv_load1 Try.underlying24 rfl e15 hc19) rfl hJ
    refine ⟨?_, ?_⟩
    ·rintro ⟨⟨⟨a11, c12⟩, ⟨b14, ⟨a17, c18⟩⟩⟩, ⟨⟨a23, ⟨c24, b25⟩⟩, ⟨a28, ⟨c29, b30⟩⟩⟩⟩ ρ σm hJ hoff hdep
     have e15 := hdep 6 rfl rfl 15 rfl
     obtain ⟨H, m⟩ := id hJ
     have hc19 := H.cell (u := (Sl ah_0_1 h_0.2 ch_0_1)) (o' := 1) 3 1 rfl rfl rfl
     exact dp_v (v := (Sl ah_0_1 h_0.2 ch_0_1)) wn (rv_load1 Try.underlying24 rfl e15 hc19) rfl hJ
    refine ⟨?_, ?_⟩
    ·rintro ⟨⟨⟨a11, c12⟩, ⟨b14, ⟨a17, c18⟩⟩⟩, ⟨⟨a23, ⟨c24, b25⟩⟩, ⟨a28, ⟨c29, b30⟩⟩⟩⟩ ρ σm hJ hoff hdep
     have e15 := hdep 6 rfl rfl 15 rfl
     obtain ⟨H, m⟩ := id hJ
     have hc19 := H.cell (u := (Sl ah_0_1 h_0.2 ch_0_1)) (o' := 1) 3 1 rfl rfl rfl
     exact dp_v (v := (Sl ah_0_1 h_0.2 ch_0_1)) wn (rv_load1 Try.underlying24 rfl e15 hc19) rfl hJ
    refine ⟨?_, ?_⟩
    ·rintro ⟨⟨⟨a11, c12⟩, ⟨b14, ⟨a17, c18⟩⟩⟩, ⟨⟨a23, ⟨c24, b25⟩⟩, ⟨a28, ⟨c29, b30⟩⟩⟩⟩ ρ σm hJ hoff hdep
     have e15 := hdep 6 rfl rfl 15 rfl
     obtain ⟨H, m⟩ := id hJ
     have hc19 := H.cell (u := (Sl ah_0_1 h_0.2 ch_0_1)) (o' := 1) 3 1 rfl rfl rfl
     exact dp_v (v := (Sl ah_0_1 h_0.2 ch_0_1)) wn (rv_load1 Try.underlying24 rfl e15 hc19) rfl hJ
    refine ⟨?_, ?_⟩
    ·rintro ⟨⟨⟨a11, c12⟩, ⟨b14, ⟨a17, c18⟩⟩⟩, ⟨⟨a23, ⟨c24, b25⟩⟩, ⟨a28, ⟨c29, b30⟩⟩⟩⟩ ρ σm hJ hoff hdep
     have e15 := hdep 6 rfl rfl 15 rfl
     obtain ⟨H, m⟩ := id hJ
     have hc19 := H.cell (u := (Sl ah_0_1 h_0.2 ch_0_1)) (o' := 1) 3 1 rfl rfl rfl
     exact dp_v (v := (Sl ah_0_1 h_0.2 ch_0_1)) wn (rv_load1 Try.underlying24 rfl e15 hc19) rfl hJ
    refine ⟨?_, ?_⟩
    ·rintro ⟨⟨⟨a11, c12⟩, ⟨b14, ⟨a17, c18⟩⟩⟩, ⟨⟨a23, ⟨c24, b25⟩⟩, ⟨a28, ⟨c29, b30⟩⟩⟩⟩ ρ σm hJ hoff hdep
     have e15 := hdep 6 rfl rfl 15 rfl
     obtain ⟨H, m⟩ := id hJ
     have hc19 := H.cell (u := (Sl ah_0_1 h_0.2 ch_0_1)) (o' := 1) 4 1 rfl rfl rfl
     exact dp_v (v := (Sl ah_0_1 h_0.2 ch_0_1)) wn (rv_load1 Try.underlying24 rfl e15 hc19) rfl hJ
    refine ⟨?_, ?_⟩
    ·rintro ⟨⟨⟨a11, c12⟩, ⟨b14, ⟨a17, c18⟩⟩⟩, ⟨⟨a23, ⟨c24, b25⟩⟩, ⟨a28, ⟨c29, b30⟩⟩⟩⟩ ρ σm hJ hoff hdep
     have e15 := hdep 6 rfl rfl 15 rfl
     obtain ⟨H, m⟩ := id hJ
     have hc19 := H.cell (u := (Sl ah_0_1 h_0.2 ch_0_1)) (o' := 1) 4 1 rfl rfl rfl
     exact dp_v (v := (Sl ah_0_1 h_0.2 ch_0_1)) wn (rv_load1 Try.underlying24 rfl e15 hc19) rfl hJ
    refine ⟨?_, ?_⟩
    ·rintro ⟨⟨⟨a11, c12⟩, ⟨b14, ⟨a17, c18⟩⟩⟩, ⟨⟨a23, ⟨c24, b25⟩⟩, ⟨a28, ⟨c29, b30⟩⟩⟩⟩ ρ σm hJ hoff hdep
     have e15 := hdep 6 rfl rfl 15 rfl
     obtain ⟨H, m⟩ := id hJ
     have hc19 := H.cell (u := (Sl ah_0_1 h_0.2 ch_0_1)) (o' := 1) 4 1 rfl rfl rfl
     exact dp_v (v := (Sl ah_0_1 h_0.2 ch_0_1)) wn (rv_load1 Try.underlying24 rfl e15 hc19) rfl hJ
    refine ⟨?_, ?_⟩
    ·rintro ⟨⟨⟨a11, c12⟩, ⟨b14, ⟨a17, c18⟩⟩⟩, ⟨⟨a23, ⟨c24, b25⟩⟩, ⟨a28, ⟨c29, b30⟩⟩⟩⟩ ρ σm hJ hoff hdep
     have e15 := hdep 6 rfl rfl 15 rfl
     obtain ⟨H, m⟩ := id hJ
     have hc19 := H.cell (u := (Sl ah_0_1 h_0.2 ch_0_1)) (o' := 1) 4 1 rfl rfl rfl
     exact dp_v (v := (Sl ah_0_1 h_0.2 ch_0_1)) wn (rv_load1 Try.underlying24 rfl e15 hc19) rfl hJ
    refine ⟨?_, ?_⟩
    ·rintro ⟨⟨⟨a11, c12⟩, ⟨b14, ⟨a17, c18⟩⟩⟩, ⟨⟨a23, ⟨c24, b25⟩⟩, ⟨a28, ⟨c29, b30⟩⟩⟩⟩ ρ σm hJ hoff hdep
     have e15 := hdep 6 rfl rfl 15 rfl
     obtain ⟨H, m⟩ := id hJ
     have hc19 := H.cell (u := (Sl ah_0_1 h_0.2 ch_0_1)) (o' := 1) 4 1 rfl rfl rfl
     exact dp_v (v := (Sl ah_0_1 h_0.2 ch_0_1)) wn (rv_load1 Try.underlying24 rfl e15 hc19) rfl hJ
    refine ⟨?_, ?_⟩
    ·rintro ⟨⟨⟨a11, c12⟩, ⟨b14, ⟨a17, c18⟩⟩⟩, ⟨⟨a23, ⟨c24, b25⟩⟩, ⟨a28, ⟨c29, b30⟩⟩⟩⟩ ρ σm hJ hoff hdep
     have e15 := hdep 6 rfl rfl 15 rfl
     obtain ⟨H, m⟩ := id hJ
     have hc19 := H.cell (u := (Sl ah_0_1 h_0.2 ch_0_1)) (o' := 1) 4 1 rfl rfl rfl
     exact dp_v (v := (Sl ah_0_1 h_0.2 ch_0_1)) wn (rv_load1 Try.underlying24 rfl e15 hc19) rfl hJ
    refine ⟨?_, ?_⟩
    ·rintro ⟨⟨⟨a11, c12⟩, ⟨b14, ⟨a17, c18⟩⟩⟩, ⟨⟨a23, ⟨c24, b25⟩⟩, ⟨a28, ⟨c29, b30⟩⟩⟩⟩ ρ σm hJ hoff hdep
     have e15 := hdep 6 rfl rfl 15 rfl
     obtain ⟨H, m⟩ := id hJ
     have hc19 := H.cell (u := (Sl ah_0_1 h_0.2 ch_0_1)) (o' := 1) 4 1 rfl rfl rfl
     exact dp_v (v := (Sl ah_0_1 h_0.2 ch_0_1)) wn (rv_load1 Try.underlying24 rfl e15 hc19) rfl hJ
    refine ⟨?_, ?_⟩
    ·rintro ⟨⟨⟨a11, c12⟩, ⟨b14, ⟨a17, c18⟩⟩⟩, ⟨⟨a23, ⟨c24, b25⟩⟩, ⟨a28, ⟨c29, b30⟩⟩⟩⟩ ρ σm hJ hoff hdep
     have e15 := hdep 6 rfl rfl 15 rfl
     obtain ⟨H, m⟩ := id hJ
     have hc19 := H.cell (u := (Sl ah_0_1 h_0.2 ch_0_1)) (o' := 1) 5 1 rfl rfl rfl
     exact dp_v (v := (Sl ah_0_1 h_0.2 ch_0_1)) wn (rv_load1 Try.underlying24 rfl e15 hc19) rfl hJ
    refine ⟨?_, ?_⟩
    ·rintro ⟨⟨⟨a11, c12⟩, ⟨b14, ⟨a17, c18⟩⟩⟩, ⟨⟨a23, ⟨c24, b25⟩⟩, ⟨a28, ⟨c29, b30⟩⟩⟩⟩ ρ σm hJ hoff hdep
     have e15 := hdep 6 rfl rfl 15 rfl
     obtain ⟨H, m⟩ := id hJ
     have hc19 := H.cell (u := (Sl ah_0_1 h_0.2 ch_0_1)) (o' := 1) 5 1 rfl rfl rfl
     exact dp_v (v := (Sl ah_0_1 h_0.2 ch_0_1)) wn (rv_load1 Try.underlying24 rfl e15 hc19) rfl hJ
    refine ⟨?_, ?_⟩
    ·rintro ⟨⟨⟨a11, c12⟩, ⟨b14, ⟨a17, c18⟩⟩⟩, ⟨⟨a23, ⟨c24, b25⟩⟩, ⟨a28, ⟨c29, b30⟩⟩⟩⟩ ρ σm hJ hoff hdep
     have e15 := hdep 6 rfl rfl 15 rfl
     obtain ⟨H, m⟩ := id hJ
     have hc19 := H.cell (u := (Sl ah_0_1 h_0.2 ch_0_1)) (o' := 1) 5 1 rfl rfl rfl
     exact dp_v (v := (Sl ah_0_1 h_0.2 ch_0_1)) wn (rv_load1 Try.underlying24 rfl e15 hc19) rfl hJ
    refine ⟨?_, ?_⟩
    ·rintro ⟨⟨⟨a11, c12⟩, ⟨b14, ⟨a17, c18⟩⟩⟩, ⟨⟨a23, ⟨c24, b25⟩⟩, ⟨a28, ⟨c29, b30⟩⟩⟩⟩ ρ σm hJ hoff hdep
     have e15 := hdep 6 rfl rfl 15 rfl
     obtain ⟨H, m⟩ := id hJ
     have hc19 := H.cell (u := (Sl ah_0_1 h_0.2 ch_0_1)) (o' := 1) 5 1 rfl rfl rfl
     exact dp_v (v := (Sl ah_0_1 h_0.2 ch_0_1)) wn (rv_load1 Try.underlying24 rfl e15 hc19) rfl hJ
    refine ⟨?_, ?_⟩
    ·rintro ⟨⟨⟨a11, c12⟩, ⟨b14, ⟨a17, c18⟩⟩⟩, ⟨⟨a23, ⟨c24, b25⟩⟩, ⟨a28, ⟨c29, b30⟩⟩⟩⟩ ρ σm hJ hoff hdep
     have e15 := hdep 6 rfl rfl 15 rfl
     obtain ⟨H, m⟩ := id hJ
     have hc19 := H.cell (u := (Sl ah_0_1 h_0.2 ch_0_1)) (o' := 1) 5 1 rfl rfl rfl
     exact dp_v (v := (Sl ah_0_1 h_0.2 ch_0_1)) wn (rv_load1 Try.underlying24 rfl e15 hc19) rfl hJ
    refine ⟨?_, ?_⟩
    ·rintro ⟨⟨⟨a11, c12⟩, ⟨b14, ⟨a17, c18⟩⟩⟩, ⟨⟨a23, ⟨c24, b25⟩⟩, ⟨a28, ⟨c29, b30⟩⟩⟩⟩ ρ σm hJ hoff hdep
     have e15 := hdep 6 rfl rfl 15 rfl
     obtain ⟨H, m⟩ := id hJ
     have hc19 := H.cell (u := (Sl ah_0_1 h_0.2 ch_0_1)) (o' := 1) 5 1 rfl rfl rfl
     exact dp_v (v := (Sl ah_0_1 h_0.2 ch_0_1)) wn (rv_load1 Try.underlying24 rfl e15 hc19) rfl hJ
    refine ⟨?_, ?_⟩
    ·rintro ⟨⟨⟨a11, c12⟩, ⟨b14, ⟨a17, c18⟩⟩⟩, ⟨⟨a23, ⟨c24, b25⟩⟩, ⟨a28, ⟨c29, b30⟩⟩⟩⟩ ρ σm hJ hoff hdep
     have e15 := hdep 6 rfl rfl 15 rfl
     obtain ⟨H, m⟩ := id hJ
     have hc19 := H.cell (u := (Sl ah_0_1 h_0.2 ch_0_1)) (o' := 1) 6 1 rfl rfl rfl
     exact dp_v (v := (Sl ah_0_1 h_0.2 ch_0_1)) wn (rv_load1 Try.underlying24 rfl e15 hc19) rfl hJ
    refine ⟨?_, ?_⟩
    ·rintro ⟨⟨⟨a11, c12⟩, ⟨b14, ⟨a17, c18⟩⟩⟩, ⟨⟨a23, ⟨c24, b25⟩⟩, ⟨a28, ⟨c29, b30⟩⟩⟩⟩ ρ σm hJ hoff hdep
     have e15 := hdep 6 rfl rfl 15 rfl
     obtain ⟨H, m⟩ := id hJ
     have hc19 := H.cell (u := (Sl ah_0_1 h_0.2 ch_0_1)) (o' := 1) 6 1 rfl rfl rfl
     exact dp_v (v := (Sl ah_0_1 h_0.2 ch_0_1)) wn (rv_load1 Try.underlying24 rfl e15 hc19) rfl hJ
    trivial) ?_
  refine all_cons (by
    refine ⟨?_, ?_⟩
    ·rintro ⟨⟨⟨a11, c12⟩, ⟨b14, ⟨a17, c18⟩⟩⟩, ⟨⟨a23, ⟨c24, b25⟩⟩, ⟨a28, ⟨c29, b30⟩⟩⟩⟩ ρ σm hJ hoff hdep
     have e16 : look 31 ρ 16 = (Sl ah_0_1 h_0.2 ch_0_1) := hdep 7 rfl rfl 16 rfl
     obtain ⟨H, m⟩ := id hJ
     refine dp_cx wn (cx_call hc22 (ent_f hc22.fn (by show [look 31 ρ 16] = _; rw [e16])) hn0 (show Hp S0 σ0 _ ([Ch.ro 0 (Sl ah_0_1 h_0.2 ch_0_1) h_0.2] ++ [Ch.own n0 0 (Sl a17 xs15 c18) xs15, Ch.own n0 0 (Sl (some ⟨b14, 0, none⟩) ([(e_1.1, (e_1.2.1, e_1.2.2.1, e_1.2.2.2))] : List (Int × (Int × (List Int) × Int))) 1) ([(e_1.1, (e_1.2.1, e_1.2.2.1, e_1.2.2.2))] : List (Int × (Int × (List Int) × Int))), Ch.bx n0 b5 0 [(.slice none 0 0), (.slice none 0 0)] [] [], Ch.bx n0 b3 0 [(I e_1.1), (I e_1.2.1), (Sl ae_1_1_1 e_1.2.2.1 ce_1_1_1), (I e_1.2.2.2)] [] [], Ch.bx n0 b1 0 [(Sl ah_0_0 h_0.1 ch_0_0), (Sl ah_0_1 h_0.2 ch_0_1)] [] [], Ch.ro 0 (Sl ah_0_0 h_0.1 ch_0_0) h_0.1, Ch.ro 0 (Sl ah_0_1 h_0.2 ch_0_1) h_0.2, Ch.ro 0 (Sl ae_1_1_1 e_1.2.2.1 ce_1_1_1) e_1.2.2.1]) from (H.sel' [6, 0, 1, 2, 3, 4, 5, 6, 7] rfl rfl))) ?_
     rintro _ σq ⟨_, ⟨a23x, c24x, rfl, rfl⟩, H2, m2⟩
     exact ⟨_, (((a11, c12), (b14, (a17, c18))), ((a23x, (c24x, b25)), (a28, (c29, b30)))), rfl, rfl, ⟨H2.sel' [0, 1, 2, 3, 4, 5, 6, 7, 8] rfl rfl, m.comp0 (m2.mono (fun i h => by simp [cov, Ch.ro] at h))⟩, stab [0, 1, 2, 3, 4, 5, 6, 7, 9, 10, 13] (by kernel_rfl) ⟨rfl, rfl, rfl, rfl, rfl, rfl, rfl, rfl, rfl, rfl, rfl, trivial⟩⟩
    refine ⟨?_, ?_⟩
    ·rintro ⟨⟨⟨a11, c12⟩, ⟨b14, ⟨a17, c18⟩⟩⟩, ⟨⟨a23, ⟨c24, b25⟩⟩, ⟨a28, ⟨c29, b30⟩⟩⟩⟩ ρ σm hJ hoff hdep
     have e16 : look 31 ρ 16 = (Sl ah_0_1 h_0.2 ch_0_1) := hdep 7 rfl rfl 16 rfl
     obtain ⟨H, m⟩ := id hJ
     refine dp_cx wn (cx_call hc22 (ent_f hc22.fn (by show [look 31 ρ 16] = _; rw [e16])) hn0 (show Hp S0 σ0 _ ([Ch.ro 0 (Sl ah_0_1 h_0.2 ch_0_1) h_0.2] ++ [Ch.own n0 n0 (Sl (some ⟨b25, 0, none⟩) ([t_2] : List Int) 1) ([t_2] : List Int), Ch.own n0 0 (Sl a17 xs15 c18) xs15, Ch.own n0 0 (Sl (some ⟨b14, 0, none⟩) ([(e_1.1, (e_1.2.1, e_1.2.2.1, e_1.2.2.2))] : List (Int × (Int × (List Int) × Int))) 1) ([(e_1.1, (e_1.2.1, e_1.2.2.1, e_1.2.2.2))] : List (Int × (Int × (List Int) × Int))), Ch.bx n0 b5 0 [(.slice none 0 0), (.slice none 0 0)] [] [], Ch.bx n0 b3 0 [(I e_1.1), (I e_1.2.1), (Sl ae_1_1_1 e_1.2.2.1 ce_1_1_1), (I e_1.2.2.2)] [] [], Ch.bx n0 b1 0 [(Sl ah_0_0 h_0.1 ch_0_0), (Sl ah_0_1 h_0.2 ch_0_1)] [] [], Ch.ro 0 (Sl ah_0_0 h_0.1 ch_0_0) h_0.1, Ch.ro 0 (Sl ah_0_1 h_0.2 ch_0_1) h_0.2, Ch.ro 0 (Sl ae_1_1_1 e_1.2.2.1 ce_1_1_1) e_1.2.2.1]) from (H.sel' [7, 0, 1, 2, 3, 4, 5, 6, 7, 8] rfl rfl))) ?_
     rintro _ σq ⟨_, ⟨a23x, c24x, rfl, rfl⟩, H2, m2⟩
     exact ⟨_, (((a11, c12), (b14, (a17, c18))), ((a23x, (c24x, b25)), (a28, (c29, b30)))), rfl, rfl, ⟨H2.sel' [1, 0, 2, 3, 4, 5, 6, 7, 8, 9] rfl rfl, m.comp0 (m2.mono (fun i h => by simp [cov, Ch.ro] at h))⟩, stab [0, 1, 2, 3, 4, 5, 6, 7, 9, 10, 13] (by kernel_rfl) ⟨rfl, rfl, rfl, rfl, rfl, rfl, rfl, rfl, rfl, rfl, rfl, trivial⟩⟩
    refine ⟨?_, ?_⟩
    ·rintro ⟨⟨⟨a11, c12⟩, ⟨b14, ⟨a17, c18⟩⟩⟩, ⟨⟨a23, ⟨c24, b25⟩⟩, ⟨a28, ⟨c29, b30⟩⟩⟩⟩ ρ σm hJ hoff hdep
     have e16 : look 31 ρ 16 = (Sl ah_0_1 h_0.2 ch_0_1) := hdep 7 rfl rfl 16 rfl
     obtain ⟨H, m⟩ := id hJ
     refine dp_cx wn (cx_call hc22 (ent_f hc22.fn (by show [look 31 ρ 16] = _; rw [e16])) hn0 (show Hp S0 σ0 _ ([Ch.ro 0 (Sl ah_0_1 h_0.2 ch_0_1) h_0.2] ++ [Ch.bx n0 b30 0 [(.slice none 0 0), (.slice none 0 0)] [] [], Ch.own n0 0 (Sl a17 xs15 c18) xs15, Ch.own n0 0 (Sl (some ⟨b14, 0, none⟩) ([(e_1.1, (e_1.2.1, e_1.2.2.1, e_1.2.2.2))] : List (Int × (Int × (List Int) × Int))) 1) ([(e_1.1, (e_1.2.1, e_1.2.2.1, e_1.2.2.2))] : List (Int × (Int × (List Int) × Int))), Ch.bx n0 b5 0 [(.slice none 0 0), (.slice none 0 0)] [] [], Ch.bx n0 b3 0 [(I e_1.1), (I e_1.2.1), (Sl ae_1_1_1 e_1.2.2.1 ce_1_1_1), (I e_1.2.2.2)] [] [], Ch.bx n0 b1 0 [(Sl ah_0_0 h_0.1 ch_0_0), (Sl ah_0_1 h_0.2 ch_0_1)] [] [], Ch.ro 0 (Sl ah_0_0 h_0.1 ch_0_0) h_0.1, Ch.ro 0 (Sl ah_0_1 h_0.2 ch_0_1) h_0.2, Ch.ro 0 (Sl ae_1_1_1 e_1.2.2.1 ce_1_1_1) e_1.2.2.1]) from (H.sel' [7, 0, 1, 2, 3, 4, 5, 6, 7, 8] rfl rfl))) ?_
     rintro _ σq ⟨_, ⟨a23x, c24x, rfl, rfl⟩, H2, m2⟩
     exact ⟨_, (((a11, c12), (b14, (a17, c18))), ((a23x, (c24x, b25)), (a28, (c29, b30)))), rfl, rfl, ⟨H2.sel' [1, 0, 2, 3, 4, 5, 6, 7, 8, 9] rfl rfl, m.comp0 (m2.mono (fun i h => by simp [cov, Ch.ro] at h))⟩, stab [0, 1, 2, 3, 4, 5, 6, 7, 9, 10, 13] (by kernel_rfl) ⟨rfl, rfl, rfl, rfl, rfl, rfl, rfl, rfl, rfl, rfl, rfl, trivial⟩⟩
    refine ⟨?_, ?_⟩
    ·rintro ⟨⟨⟨a11, c12⟩, ⟨b14, ⟨a17, c18⟩⟩⟩, ⟨⟨a23, ⟨c24, b25⟩⟩, ⟨a28, ⟨c29, b30⟩⟩⟩⟩ ρ σm hJ hoff hdep
     have e16 : look 31 ρ 16 = (Sl ah_0_1 h_0.2 ch_0_1) := hdep 7 rfl rfl 16 rfl
     obtain ⟨H, m⟩ := id hJ
     refine dp_cx wn (cx_call hc22 (ent_f hc22.fn (by show [look 31 ρ 16] = _; rw [e16])) hn0 (show Hp S0 σ0 _ ([Ch.ro 0 (Sl ah_0_1 h_0.2 ch_0_1) h_0.2] ++ [Ch.bx n0 b30 0 [(.slice none 0 0), (.slice none 0 0)] [] [], Ch.own n0 n0 (Sl (some ⟨b25, 0, none⟩) ([t_2] : List Int) 1) ([t_2] : List Int), Ch.own n0 0 (Sl a17 xs15 c18) xs15, Ch.own n0 0 (Sl (some ⟨b14, 0, none⟩) ([(e_1.1, (e_1.2.1, e_1.2.2.1, e_1.2.2.2))] : List (Int × (Int × (List Int) × Int))) 1) ([(e_1.1, (e_1.2.1, e_1.2.2.1, e_1.2.2.2))] : List (Int × (Int × (List Int) × Int))), Ch.bx n0 b5 0 [(.slice none 0 0), (.slice none 0 0)] [] [], Ch.bx n0 b3 0 [(I e_1.1), (I e_1.2.1), (Sl ae_1_1_1 e_1.2.2.1 ce_1_1_1), (I e_1.2.2.2)] [] [], Ch.bx n0 b1 0 [(Sl ah_0_0 h_0.1 ch_0_0), (Sl ah_0_1 h_0.2 ch_0_1)] [] [], Ch.ro 0 (Sl ah_0_0 h_0.1 ch_0_0) h_0.1, Ch.ro 0 (Sl ah_0_1 h_0.2 ch_0_1) h_0.2, Ch.ro 0 (Sl ae_1_1_1 e_1.2.2.1 ce_1_1_1) e_1.2.2.1]) from (H.sel' [8, 0, 1, 2, 3, 4, 5, 6, 7, 8, 9] rfl rfl))) ?_
     rintro _ σq ⟨_, ⟨a23x, c24x, rfl, rfl⟩, H2, m2⟩
     exact ⟨_, (((a11, c12), (b14, (a17, c18))), ((a23x, (c24x, b25)), (a28, (c29, b30)))), rfl, rfl, ⟨H2.sel' [1, 2, 0, 3, 4, 5, 6, 7, 8, 9, 10] rfl rfl, m.comp0 (m2.mono (fun i h => by simp [cov, Ch.ro] at h))⟩, stab [0, 1, 2, 3, 4, 5, 6, 7, 9, 10, 13] (by kernel_rfl) ⟨rfl, rfl, rfl, rfl, rfl, rfl, rfl, rfl, rfl, rfl, rfl, trivial⟩⟩
    trivial) ?_
  refine ac rfl (by
    intro k; rintro ⟨⟨⟨a11, c12⟩, ⟨b14, ⟨a17, c18⟩⟩⟩, ⟨⟨a23, ⟨c24, b25⟩⟩, ⟨a28, ⟨c29, b30⟩⟩⟩⟩ ρ σm hJ hoff hdep
    have e2 := look_off (N := 31) (hoff 2 rfl) rfl
    exact dp_v (v := (I t_2)) wn (rv_move e2) rfl hJ) ?_
  refine all_cons (by
    refine ⟨?_, ?_⟩
    ·rintro ⟨⟨⟨a11, c12⟩, ⟨b14, ⟨a17, c18⟩⟩⟩, ⟨⟨a23, ⟨c24, b25⟩⟩, ⟨a28, ⟨c29, b30⟩⟩⟩⟩ ρ σm hJ hoff hdep
     have e18 : look 31 ρ 18 = (I t_2) := hdep 9 rfl rfl 18 rfl
     obtain ⟨H, m⟩ := id hJ
     refine dp_ex wn (ex_buildSlice (el := n0) (xs := ([t_2] : List Int)) (ps := [(0, (I t_2))]) (cs := [(I t_2)]) H hn0 Try.underlying24 ti3 rfl (by show [(0, look 31 ρ 18)] = _; rw [e18]) (by kernel_rfl) (.cons (c := [(I t_2)]) rfl (.nil)) rfl) ?_
     rintro _ σq ⟨b25x, rfl, H2, m2⟩
     exact ⟨_, (((a11, c12), (b14, (a17, c18))), ((a23, (c24, b25x)), (a28, (c29, b30)))), rfl, rfl, ⟨H2.sel' [0, 1, 2, 3, 4, 5, 6] rfl rfl, m.comp0 m2⟩, stab [0, 1, 2, 3, 4, 5, 6, 7, 8, 9, 13] (by kernel_rfl) ⟨rfl, rfl, rfl, rfl, rfl, rfl, rfl, rfl, rfl, rfl, rfl, trivial⟩⟩
    refine ⟨?_, ?_⟩
    ·rintro ⟨⟨⟨a11, c12⟩, ⟨b14, ⟨a17, c18⟩⟩⟩, ⟨⟨a23, ⟨c24, b25⟩⟩, ⟨a28, ⟨c29, b30⟩⟩⟩⟩ ρ σm hJ hoff hdep
     have e18 : look 31 ρ 18 = (I t_2) := hdep 9 rfl rfl 18 rfl
     obtain ⟨H, m⟩ := id hJ
     refine dp_ex wn (ex_buildSlice (el := n0) (xs := ([t_2] : List Int)) (ps := [(0, (I t_2))]) (cs := [(I t_2)]) H hn0 Try.underlying24 ti3 rfl (by show [(0, look 31 ρ 18)] = _; rw [e18]) (by kernel_rfl) (.cons (c := [(I t_2)]) rfl (.nil)) rfl) ?_
     rintro _ σq ⟨b25x, rfl, H2, m2⟩
     exact ⟨_, (((a11, c12), (b14, (a17, c18))), ((a23, (c24, b25x)), (a28, (c29, b30)))), rfl, rfl, ⟨H2.sel' [0, 1, 2, 3, 4, 5, 6, 7] rfl rfl, m.comp0 m2⟩, stab [0, 1, 2, 3, 4, 5, 6, 7, 8, 9, 13] (by kernel_rfl) ⟨rfl, rfl, rfl, rfl, rfl, rfl, rfl, rfl, rfl, rfl, rfl, trivial⟩⟩
    refine ⟨?_, ?_⟩
    ·rintro ⟨⟨⟨a11, c12⟩, ⟨b14, ⟨a17, c18⟩⟩⟩, ⟨⟨a23, ⟨c24, b25⟩⟩, ⟨a28, ⟨c29, b30⟩⟩⟩⟩ ρ σm hJ hoff hdep
     have e18 : look 31 ρ 18 = (I t_2) := hdep 9 rfl rfl 18 rfl
     obtain ⟨H, m⟩ := id hJ
     refine dp_ex wn (ex_buildSlice (el := n0) (xs := ([t_2] : List Int)) (ps := [(0, (I t_2))]) (cs := [(I t_2)]) H hn0 Try.underlying24 ti3 rfl (by show [(0, look 31 ρ 18)] = _; rw [e18]) (by kernel_rfl) (.cons (c := [(I t_2)]) rfl (.nil)) rfl) ?_
     rintro _ σq ⟨b25x, rfl, H2, m2⟩
     exact ⟨_, (((a11, c12), (b14, (a17, c18))), ((a23, (c24, b25x)), (a28, (c29, b30)))), rfl, rfl, ⟨H2.sel' [0, 1, 2, 3, 4, 5, 6, 7] rfl rfl, m.comp0 m2⟩, stab [0, 1, 2, 3, 4, 5, 6, 7, 8, 9, 13] (by kernel_rfl) ⟨rfl, rfl, rfl, rfl, rfl, rfl, rfl, rfl, rfl, rfl, rfl, trivial⟩⟩
    refine ⟨?_, ?_⟩
    ·rintro ⟨⟨⟨a11, c12⟩, ⟨b14, ⟨a17, c18⟩⟩⟩, ⟨⟨a23, ⟨c24, b25⟩⟩, ⟨a28, ⟨c29, b30⟩⟩⟩⟩ ρ σm hJ hoff hdep
     have e18 : look 31 ρ 18 = (I t_2) := hdep 9 rfl rfl 18 rfl
     obtain ⟨H, m⟩ := id hJ
     refine dp_ex wn (ex_buildSlice (el := n0) (xs := ([t_2] : List Int)) (ps := [(0, (I t_2))]) (cs := [(I t_2)]) H hn0 Try.underlying24 ti3 rfl (by show [(0, look 31 ρ 18)] = _; rw [e18]) (by kernel_rfl) (.cons (c := [(I t_2)]) rfl (.nil)) rfl) ?_
     rintro _ σq ⟨b25x, rfl, H2, m2⟩
     exact ⟨_, (((a11, c12), (b14, (a17, c18))), ((a23, (c24, b25x)), (a28, (c29, b30)))), rfl, rfl, ⟨H2.sel' [1, 0, 2, 3, 4, 5, 6, 7] rfl rfl, m.comp0 m2⟩, stab [0, 1, 2, 3, 4, 5, 6, 7, 8, 9, 13] (by kernel_rfl) ⟨rfl, rfl, rfl, rfl, rfl, rfl, rfl, rfl, rfl, rfl, rfl, trivial⟩⟩
    refine ⟨?_, ?_⟩
    ·rintro ⟨⟨⟨a11, c12⟩, ⟨b14, ⟨a17, c18⟩⟩⟩, ⟨⟨a23, ⟨c24, b25⟩⟩, ⟨a28, ⟨c29, b30⟩⟩⟩⟩ ρ σm hJ hoff hdep
     have e18 : look 31 ρ 18 = (I t_2) := hdep 9 rfl rfl 18 rfl
     obtain ⟨H, m⟩ := id hJ
     refine dp_ex wn (ex_buildSlice (el := n0) (xs := ([t_2] : List Int)) (ps := [(0, (I t_2))]) (cs := [(I t_2)]) H hn0 Try.underlying24 ti3 rfl (by show [(0, look 31 ρ 18)] = _; rw [e18]) (by kernel_rfl) (.cons (c := [(I t_2)]) rfl (.nil)) rfl) ?_
     rintro _ σq ⟨b25x, rfl, H2, m2⟩
     exact ⟨_, (((a11, c12), (b14, (a17, c18))), ((a23, (c24, b25x)), (a28, (c29, b30)))), rfl, rfl, ⟨H2.sel' [0, 1, 2, 3, 4, 5, 6, 7, 8] rfl rfl, m.comp0 m2⟩, stab [0, 1, 2, 3, 4, 5, 6, 7, 8, 9, 13] (by kernel_rfl) ⟨rfl, rfl, rfl, rfl, rfl, rfl, rfl, rfl, rfl, rfl, rfl, trivial⟩⟩
    refine ⟨?_, ?_⟩
    ·rintro ⟨⟨⟨a11, c12⟩, ⟨b14, ⟨a17, c18⟩⟩⟩, ⟨⟨a23, ⟨c24, b25⟩⟩, ⟨a28, ⟨c29, b30⟩⟩⟩⟩ ρ σm hJ hoff hdep
     have e18 : look 31 ρ 18 = (I t_2) := hdep 9 rfl rfl 18 rfl
     obtain ⟨H, m⟩ := id hJ
     refine dp_ex wn (ex_buildSlice (el := n0) (xs := ([t_2] : List Int)) (ps := [(0, (I t_2))]) (cs := [(I t_2)]) H hn0 Try.underlying24 ti3 rfl (by show [(0, look 31 ρ 18)] = _; rw [e18]) (by kernel_rfl) (.cons (c := [(I t_2)]) rfl (.nil)) rfl) ?_
     rintro _ σq ⟨b25x, rfl, H2, m2⟩
     exact ⟨_, (((a11, c12), (b14, (a17, c18))), ((a23, (c24, b25x)), (a28, (c29, b30)))), rfl, rfl, ⟨H2.sel' [1, 0, 2, 3, 4, 5, 6, 7, 8] rfl rfl, m.comp0 m2⟩, stab [0, 1, 2, 3, 4, 5, 6, 7, 8, 9, 13] (by kernel_rfl) ⟨rfl, rfl, rfl, rfl, rfl, rfl, rfl, rfl, rfl, rfl, rfl, trivial⟩⟩
    refine ⟨?_, ?_⟩
    ·rintro ⟨⟨⟨a11, c12⟩, ⟨b14, ⟨a17, c18⟩⟩⟩, ⟨⟨a23, ⟨c24, b25⟩⟩, ⟨a28, ⟨c29, b30⟩⟩⟩⟩ ρ σm hJ hoff hdep
     have e18 : look 31 ρ 18 = (I t_2) := hdep 9 rfl rfl 18 rfl
     obtain ⟨H, m⟩ := id hJ
     refine dp_ex wn (ex_buildSlice (el := n0) (xs := ([t_2] : List Int)) (ps := [(0, (I t_2))]) (cs := [(I t_2)]) H hn0 Try.underlying24 ti3 rfl (by show [(0, look 31 ρ 18)] = _; rw [e18]) (by kernel_rfl) (.cons (c := [(I t_2)]) rfl (.nil)) rfl) ?_
     rintro _ σq ⟨b25x, rfl, H2, m2⟩
     exact ⟨_, (((a11, c12), (b14, (a17, c18))), ((a23, (c24, b25x)), (a28, (c29, b30)))), rfl, rfl, ⟨H2.sel' [1, 0, 2, 3, 4, 5, 6, 7, 8] rfl rfl, m.comp0 m2⟩, stab [0, 1, 2, 3, 4, 5, 6, 7, 8, 9, 13] (by kernel_rfl) ⟨rfl, rfl, rfl, rfl, rfl, rfl, rfl, rfl, rfl, rfl, rfl, trivial⟩⟩
    refine ⟨?_, ?_⟩
    ·rintro ⟨⟨⟨a11, c12⟩, ⟨b14, ⟨a17, c18⟩⟩⟩, ⟨⟨a23, ⟨c24, b25⟩⟩, ⟨a28, ⟨c29, b30⟩⟩⟩⟩ ρ σm hJ hoff hdep
     have e18 : look 31 ρ 18 = (I t_2) := hdep 9 rfl rfl 18 rfl
     obtain ⟨H, m⟩ := id hJ
     refine dp_ex wn (ex_buildSlice (el := n0) (xs := ([t_2] : List Int)) (ps := [(0, (I t_2))]) (cs := [(I t_2)]) H hn0 Try.underlying24 ti3 rfl (by show [(0, look 31 ρ 18)] = _; rw [e18]) (by kernel_rfl) (.cons (c := [(I t_2)]) rfl (.nil)) rfl) ?_
     rintro _ σq ⟨b25x, rfl, H2, m2⟩
     exact ⟨_, (((a11, c12), (b14, (a17, c18))), ((a23, (c24, b25x)), (a28, (c29, b30)))), rfl, rfl, ⟨H2.sel' [0, 1, 2, 3, 4, 5, 6, 7, 8] rfl rfl, m.comp0 m2⟩, stab [0, 1, 2, 3, 4, 5, 6, 7, 8, 9, 13] (by kernel_rfl) ⟨rfl, rfl, rfl, rfl, rfl, rfl, rfl, rfl, rfl, rfl, rfl, trivial⟩⟩
    refine ⟨?_, ?_⟩
    ·rintro ⟨⟨⟨a11, c12⟩, ⟨b14, ⟨a17, c18⟩⟩⟩, ⟨⟨a23, ⟨c24, b25⟩⟩, ⟨a28, ⟨c29, b30⟩⟩⟩⟩ ρ σm hJ hoff hdep
     have e18 : look 31 ρ 18 = (I t_2) := hdep 9 rfl rfl 18 rfl
     obtain ⟨H, m⟩ := id hJ
     refine dp_ex wn (ex_buildSlice (el := n0) (xs := ([t_2] : List Int)) (ps := [(0, (I t_2))]) (cs := [(I t_2)]) H hn0 Try.underlying24 ti3 rfl (by show [(0, look 31 ρ 18)] = _; rw [e18]) (by kernel_rfl) (.cons (c := [(I t_2)]) rfl (.nil)) rfl) ?_
     rintro _ σq ⟨b25x, rfl, H2, m2⟩
     exact ⟨_, (((a11, c12), (b14, (a17, c18))), ((a23, (c24, b25x)), (a28, (c29, b30)))), rfl, rfl, ⟨H2.sel' [1, 0, 2, 3, 4, 5, 6, 7, 8, 9] rfl rfl, m.comp0 m2⟩, stab [0, 1, 2, 3, 4, 5, 6, 7, 8, 9, 13] (by kernel_rfl) ⟨rfl, rfl, rfl, rfl, rfl, rfl, rfl, rfl, rfl, rfl, rfl, trivial⟩⟩
    refine ⟨?_, ?_⟩
    ·rintro ⟨⟨⟨a11, c12⟩, ⟨b14, ⟨a17, c18⟩⟩⟩, ⟨⟨a23, ⟨c24, b25⟩⟩, ⟨a28, ⟨c29, b30⟩⟩⟩⟩ ρ σm hJ hoff hdep
     have e18 : look 31 ρ 18 = (I t_2) := hdep 9 rfl rfl 18 rfl
     obtain ⟨H, m⟩ := id hJ
     refine dp_ex wn (ex_buildSlice (el := n0) (xs := ([t_2] : List Int)) (ps := [(0, (I t_2))]) (cs := [(I t_2)]) H hn0 Try.underlying24 ti3 rfl (by show [(0, look 31 ρ 18)] = _; rw [e18]) (by kernel_rfl) (.cons (c := [(I t_2)]) rfl (.nil)) rfl) ?_
     rintro _ σq ⟨b25x, rfl, H2, m2⟩
     exact ⟨_, (((a11, c12), (b14, (a17, c18))), ((a23, (c24, b25x)), (a28, (c29, b30)))), rfl, rfl, ⟨H2.sel' [0, 1, 2, 3, 4, 5, 6, 7, 8, 9] rfl rfl, m.comp0 m2⟩, stab [0, 1, 2, 3, 4, 5, 6, 7, 8, 9, 13] (by kernel_rfl) ⟨rfl, rfl, rfl, rfl, rfl, rfl, rfl, rfl, rfl, rfl, rfl, trivial⟩⟩
    refine ⟨?_, ?_⟩
    ·rintro ⟨⟨⟨a11, c12⟩, ⟨b14, ⟨a17, c18⟩⟩⟩, ⟨⟨a23, ⟨c24, b25⟩⟩, ⟨a28, ⟨c29, b30⟩⟩⟩⟩ ρ σm hJ hoff hdep
     have e18 : look 31 ρ 18 = (I t_2) := hdep 9 rfl rfl 18 rfl
     obtain ⟨H, m⟩ := id hJ
     refine dp_ex wn (ex_buildSlice (el := n0) (xs := ([t_2] : List Int)) (ps := [(0, (I t_2))]) (cs := [(I t_2)]) H hn0 Try.underlying24 ti3 rfl (by show [(0, look 31 ρ 18)] = _; rw [e18]) (by kernel_rfl) (.cons (c := [(I t_2)]) rfl (.nil)) rfl) ?_
     rintro _ σq ⟨b25x, rfl, H2, m2⟩
     exact ⟨_, (((a11, c12), (b14, (a17, c18))), ((a23, (c24, b25x)), (a28, (c29, b30)))), rfl, rfl, ⟨H2.sel' [1, 0, 2, 3, 4, 5, 6, 7, 8, 9] rfl rfl, m.comp0 m2⟩, stab [0, 1, 2, 3, 4, 5, 6, 7, 8, 9, 13] (by kernel_rfl) ⟨rfl, rfl, rfl, rfl, rfl, rfl, rfl, rfl, rfl, rfl, rfl, trivial⟩⟩
    refine ⟨?_, ?_⟩
    ·rintro ⟨⟨⟨a11, c12⟩, ⟨b14, ⟨a17, c18⟩⟩⟩, ⟨⟨a23, ⟨c24, b25⟩⟩, ⟨a28, ⟨c29, b30⟩⟩⟩⟩ ρ σm hJ hoff hdep
     have e18 : look 31 ρ 18 = (I t_2) := hdep 9 rfl rfl 18 rfl
     obtain ⟨H, m⟩ := id hJ
     refine dp_ex wn (ex_buildSlice (el := n0) (xs := ([t_2] : List Int)) (ps := [(0, (I t_2))]) (cs := [(I t_2)]) H hn0 Try.underlying24 ti3 rfl (by show [(0, look 31 ρ 18)] = _; rw [e18]) (by kernel_rfl) (.cons (c := [(I t_2)]) rfl (.nil)) rfl) ?_
     rintro _ σq ⟨b25x, rfl, H2, m2⟩
     exact ⟨_, (((a11, c12), (b14, (a17, c18))), ((a23, (c24, b25x)), (a28, (c29, b30)))), rfl, rfl, ⟨H2.sel' [1, 0, 2, 3, 4, 5, 6, 7, 8, 9, 10] rfl rfl, m.comp0 m2⟩, stab [0, 1, 2, 3, 4, 5, 6, 7, 8, 9, 13] (by kernel_rfl) ⟨rfl, rfl, rfl, rfl, rfl, rfl, rfl, rfl, rfl, rfl, rfl, trivial⟩⟩
    trivial) ?_
  refine all_cons (by
    refine ⟨?_, ?_⟩
    ·rintro ⟨⟨⟨a11, c12⟩, ⟨b14, ⟨a17, c18⟩⟩⟩, ⟨⟨a23, ⟨c24, b25⟩⟩, ⟨a28, ⟨c29, b30⟩⟩⟩⟩ ρ σm hJ hoff hdep
     have e17 := hdep 8 rfl rfl 17 rfl
     have e19 := hdep 10 rfl rfl 19 rfl
     obtain ⟨H, m⟩ := id hJ
     refine dp_ex wn (ex_append H (i := 1) rfl Try.underlying24 Try.underlying24 ti3 rfl rfl (by decide) (H.own 0 rfl).rd hx27 hn0 e17 e19) ?_
     rintro _ σq ⟨a28x, c29x, rfl, H2, m2⟩
     exact ⟨_, (((a11, c12), (b14, (a17, c18))), ((a23, (c24, b25)), (a28x, (c29x, b30)))), rfl, rfl, ⟨H2.sel' [0, 1, 2, 3, 4, 5, 6, 7, 8, 9] rfl rfl, m.comp m2⟩, stab [0, 1, 2, 3, 4, 5, 6, 7, 8, 9, 10, 13] (by kernel_rfl) ⟨rfl, rfl, rfl, rfl, rfl, rfl, rfl, rfl, rfl, rfl, rfl, rfl, trivial⟩⟩
    refine ⟨?_, ?_⟩
    ·rintro ⟨⟨⟨a11, c12⟩, ⟨b14, ⟨a17, c18⟩⟩⟩, ⟨⟨a23, ⟨c24, b25⟩⟩, ⟨a28, ⟨c29, b30⟩⟩⟩⟩ ρ σm hJ hoff hdep
     have e17 := hdep 8 rfl rfl 17 rfl
     have e19 := hdep 10 rfl rfl 19 rfl
     obtain ⟨H, m⟩ := id hJ
     refine dp_ex wn (ex_append H (i := 2) rfl Try.underlying24 Try.underlying24 ti3 rfl rfl (by decide) (H.own 1 rfl).rd hx27 hn0 e17 e19) ?_
     rintro _ σq ⟨a28x, c29x, rfl, H2, m2⟩
     exact ⟨_, (((a11, c12), (b14, (a17, c18))), ((a23, (c24, b25)), (a28x, (c29x, b30)))), rfl, rfl, ⟨H2.sel' [1, 0, 2, 3, 4, 5, 6, 7, 8, 9, 10] rfl rfl, m.comp m2⟩, stab [0, 1, 2, 3, 4, 5, 6, 7, 8, 9, 10, 13] (by kernel_rfl) ⟨rfl, rfl, rfl, rfl, rfl, rfl, rfl, rfl, rfl, rfl, rfl, rfl, trivial⟩⟩
    trivial) ?_
  refine ac rfl (by
    intro k; rintro ⟨⟨⟨a11, c12⟩, ⟨b14, ⟨a17, c18⟩⟩⟩, ⟨⟨a23, ⟨c24, b25⟩⟩, ⟨a28, ⟨c29, b30⟩⟩⟩⟩ ρ σm hJ hoff hdep
    have e14 : look 31 ρ 14 = (Sl a17 xs15 c18) := hdep 5 rfl rfl 14 rfl
    have e20 : look 31 ρ 20 = (Sl a28 xs26 c29) := hdep 11 rfl rfl 20 rfl
    exact dp_v (v := (.agg #[(Sl a17 xs15 c18), (Sl a28 xs26 c29)])) wn (rv_build (ps := [(0, (Sl a17 xs15 c18)), (1, (Sl a28 xs26 c29))]) Try.underlying26 ti26 (bp26 Try.underlying26) (by show [(0, look 31 ρ 14), (1, look 31 ρ 20)] = _; rw [e14, e20]) (by kernel_rfl)) rfl hJ) ?_
  refine all_cons (by
    refine ⟨?_, ?_⟩
    ·rintro ⟨⟨⟨a11, c12⟩, ⟨b14, ⟨a17, c18⟩⟩⟩, ⟨⟨a23, ⟨c24, b25⟩⟩, ⟨a28, ⟨c29, b30⟩⟩⟩⟩ ρ σm hJ hoff hdep
     obtain ⟨H, m⟩ := id hJ
     refine dp_ex wn (ex_alloc (cs := [(.slice none 0 0), (.slice none 0 0)]) H hn0 ti26 rfl) ?_
     rintro _ σq ⟨b30x, rfl, H2, m2⟩
     exact ⟨_, (((a11, c12), (b14, (a17, c18))), ((a23, (c24, b25)), (a28, (c29, b30x)))), rfl, rfl, ⟨H2.sel' [0, 1, 2, 3, 4, 5, 6] rfl rfl, m.comp0 m2⟩, stab [0, 1, 2, 3, 4, 5, 6, 7, 8, 9, 10, 11, 12] (by kernel_rfl) ⟨rfl, rfl, rfl, rfl, rfl, rfl, rfl, rfl, rfl, rfl, rfl, rfl, rfl, trivial⟩⟩
    refine ⟨?_, ?_⟩
    ·rintro ⟨⟨⟨a11, c12⟩, ⟨b14, ⟨a17, c18⟩⟩⟩, ⟨⟨a23, ⟨c24, b25⟩⟩, ⟨a28, ⟨c29, b30⟩⟩⟩⟩ ρ σm hJ hoff hdep
     obtain ⟨H, m⟩ := id hJ
     refine dp_ex wn (ex_alloc (cs := [(.slice none 0 0), (.slice none 0 0)]) H hn0 ti26 rfl) ?_
     rintro _ σq ⟨b30x, rfl, H2, m2⟩
     exact ⟨_, (((a11, c12), (b14, (a17, c18))), ((a23, (c24, b25)), (a28, (c29, b30x)))), rfl, rfl, ⟨H2.sel' [0, 1, 2, 3, 4, 5, 6, 7] rfl rfl, m.comp0 m2⟩, stab [0, 1, 2, 3, 4, 5, 6, 7, 8, 9, 10, 11, 12] (by kernel_rfl) ⟨rfl, rfl, rfl, rfl, rfl, rfl, rfl, rfl, rfl, rfl, rfl, rfl, rfl, trivial⟩⟩
    refine ⟨?_, ?_⟩
    ·rintro ⟨⟨⟨a11, c12⟩, ⟨b14, ⟨a17, c18⟩⟩⟩, ⟨⟨a23, ⟨c24, b25⟩⟩, ⟨a28, ⟨c29, b30⟩⟩⟩⟩ ρ σm hJ hoff hdep
     obtain ⟨H, m⟩ := id hJ
     refine dp_ex wn (ex_alloc (cs := [(.slice none 0 0), (.slice none 0 0)]) H hn0 ti26 rfl) ?_
     rintro _ σq ⟨b30x, rfl, H2, m2⟩
     exact ⟨_, (((a11, c12), (b14, (a17, c18))), ((a23, (c24, b25)), (a28, (c29, b30x)))), rfl, rfl, ⟨H2.sel' [0, 1, 2, 3, 4, 5, 6, 7] rfl rfl, m.comp0 m2⟩, stab [0, 1, 2, 3, 4, 5, 6, 7, 8, 9, 10, 11, 12] (by kernel_rfl) ⟨rfl, rfl, rfl, rfl, rfl, rfl, rfl, rfl, rfl, rfl, rfl, rfl, rfl, trivial⟩⟩
    refine ⟨?_, ?_⟩
    ·rintro ⟨⟨⟨a11, c12⟩, ⟨b14, ⟨a17, c18⟩⟩⟩, ⟨⟨a23, ⟨c24, b25⟩⟩, ⟨a28, ⟨c29, b30⟩⟩⟩⟩ ρ σm hJ hoff hdep
     obtain ⟨H, m⟩ := id hJ
     refine dp_ex wn (ex_alloc (cs := [(.slice none 0 0), (.slice none 0 0)]) H hn0 ti26 rfl) ?_
     rintro _ σq ⟨b30x, rfl, H2, m2⟩
     exact ⟨_, (((a11, c12), (b14, (a17, c18))), ((a23, (c24, b25)), (a28, (c29, b30x)))), rfl, rfl, ⟨H2.sel' [0, 1, 2, 3, 4, 5, 6, 7] rfl rfl, m.comp0 m2⟩, stab [0, 1, 2, 3, 4, 5, 6, 7, 8, 9, 10, 11, 12] (by kernel_rfl) ⟨rfl, rfl, rfl, rfl, rfl, rfl, rfl, rfl, rfl, rfl, rfl, rfl, rfl, trivial⟩⟩
    refine ⟨?_, ?_⟩
    ·rintro ⟨⟨⟨a11, c12⟩, ⟨b14, ⟨a17, c18⟩⟩⟩, ⟨⟨a23, ⟨c24, b25⟩⟩, ⟨a28, ⟨c29, b30⟩⟩⟩⟩ ρ σm hJ hoff hdep
     obtain ⟨H, m⟩ := id hJ
     refine dp_ex wn (ex_alloc (cs := [(.slice none 0 0), (.slice none 0 0)]) H hn0 ti26 rfl) ?_
     rintro _ σq ⟨b30x, rfl, H2, m2⟩
     exact ⟨_, (((a11, c12), (b14, (a17, c18))), ((a23, (c24, b25)), (a28, (c29, b30x)))), rfl, rfl, ⟨H2.sel' [0, 1, 2, 3, 4, 5, 6, 7, 8] rfl rfl, m.comp0 m2⟩, stab [0, 1, 2, 3, 4, 5, 6, 7, 8, 9, 10, 11, 12] (by kernel_rfl) ⟨rfl, rfl, rfl, rfl, rfl, rfl, rfl, rfl, rfl, rfl, rfl, rfl, rfl, trivial⟩⟩
    refine ⟨?_, ?_⟩
    ·rintro ⟨⟨⟨a11, c12⟩, ⟨b14, ⟨a17, c18⟩⟩⟩, ⟨⟨a23, ⟨c24, b25⟩⟩, ⟨a28, ⟨c29, b30⟩⟩⟩⟩ ρ σm hJ hoff hdep
     obtain ⟨H, m⟩ := id hJ
     refine dp_ex wn (ex_alloc (cs := [(.slice none 0 0), (.slice none 0 0)]) H hn0 ti26 rfl) ?_
     rintro _ σq ⟨b30x, rfl, H2, m2⟩
     exact ⟨_, (((a11, c12), (b14, (a17, c18))), ((a23, (c24, b25)), (a28, (c29, b30x)))), rfl, rfl, ⟨H2.sel' [0, 1, 2, 3, 4, 5, 6, 7, 8] rfl rfl, m.comp0 m2⟩, stab [0, 1, 2, 3, 4, 5, 6, 7, 8, 9, 10, 11, 12] (by kernel_rfl) ⟨rfl, rfl, rfl, rfl, rfl, rfl, rfl, rfl, rfl, rfl, rfl, rfl, rfl, trivial⟩⟩
    refine ⟨?_, ?_⟩
    ·rintro ⟨⟨⟨a11, c12⟩, ⟨b14, ⟨a17, c18⟩⟩⟩, ⟨⟨a23, ⟨c24, b25⟩⟩, ⟨a28, ⟨c29, b30⟩⟩⟩⟩ ρ σm hJ hoff hdep
     obtain ⟨H, m⟩ := id hJ
     refine dp_ex wn (ex_alloc (cs := [(.slice none 0 0), (.slice none 0 0)]) H hn0 ti26 rfl) ?_
     rintro _ σq ⟨b30x, rfl, H2, m2⟩
     exact ⟨_, (((a11, c12), (b14, (a17, c18))), ((a23, (c24, b25)), (a28, (c29, b30x)))), rfl, rfl, ⟨H2.sel' [0, 1, 2, 3, 4, 5, 6, 7, 8] rfl rfl, m.comp0 m2⟩, stab [0, 1, 2, 3, 4, 5, 6, 7, 8, 9, 10, 11, 12] (by kernel_rfl) ⟨rfl, rfl, rfl, rfl, rfl, rfl, rfl, rfl, rfl, rfl, rfl, rfl, rfl, trivial⟩⟩
    refine ⟨?_, ?_⟩
    ·rintro ⟨⟨⟨a11, c12⟩, ⟨b14, ⟨a17, c18⟩⟩⟩, ⟨⟨a23, ⟨c24, b25⟩⟩, ⟨a28, ⟨c29, b30⟩⟩⟩⟩ ρ σm hJ hoff hdep
     obtain ⟨H, m⟩ := id hJ
     refine dp_ex wn (ex_alloc (cs := [(.slice none 0 0), (.slice none 0 0)]) H hn0 ti26 rfl) ?_
     rintro _ σq ⟨b30x, rfl, H2, m2⟩
     exact ⟨_, (((a11, c12), (b14, (a17, c18))), ((a23, (c24, b25)), (a28, (c29, b30x)))), rfl, rfl, ⟨H2.sel' [0, 1, 2, 3, 4, 5, 6, 7, 8] rfl rfl, m.comp0 m2⟩, stab [0, 1, 2, 3, 4, 5, 6, 7, 8, 9, 10, 11, 12] (by kernel_rfl) ⟨rfl, rfl, rfl, rfl, rfl, rfl, rfl, rfl, rfl, rfl, rfl, rfl, rfl, trivial⟩⟩
    refine ⟨?_, ?_⟩
    ·rintro ⟨⟨⟨a11, c12⟩, ⟨b14, ⟨a17, c18⟩⟩⟩, ⟨⟨a23, ⟨c24, b25⟩⟩, ⟨a28, ⟨c29, b30⟩⟩⟩⟩ ρ σm hJ hoff hdep
     obtain ⟨H, m⟩ := id hJ
     refine dp_ex wn (ex_alloc (cs := [(.slice none 0 0), (.slice none 0 0)]) H hn0 ti26 rfl) ?_
     rintro _ σq ⟨b30x, rfl, H2, m2⟩
     exact ⟨_, (((a11, c12), (b14, (a17, c18))), ((a23, (c24, b25)), (a28, (c29, b30x)))), rfl, rfl, ⟨H2.sel' [0, 1, 2, 3, 4, 5, 6, 7, 8, 9] rfl rfl, m.comp0 m2⟩, stab [0, 1, 2, 3, 4, 5, 6, 7, 8, 9, 10, 11, 12] (by kernel_rfl) ⟨rfl, rfl, rfl, rfl, rfl, rfl, rfl, rfl, rfl, rfl, rfl, rfl, rfl, trivial⟩⟩
    refine ⟨?_, ?_⟩
    ·rintro ⟨⟨⟨a11, c12⟩, ⟨b14, ⟨a17, c18⟩⟩⟩, ⟨⟨a23, ⟨c24, b25⟩⟩, ⟨a28, ⟨c29, b30⟩⟩⟩⟩ ρ σm hJ hoff hdep
     obtain ⟨H, m⟩ := id hJ
     refine dp_ex wn (ex_alloc (cs := [(.slice none 0 0), (.slice none 0 0)]) H hn0 ti26 rfl) ?_
     rintro _ σq ⟨b30x, rfl, H2, m2⟩
     exact ⟨_, (((a11, c12), (b14, (a17, c18))), ((a23, (c24, b25)), (a28, (c29, b30x)))), rfl, rfl, ⟨H2.sel' [0, 1, 2, 3, 4, 5, 6, 7, 8, 9] rfl rfl, m.comp0 m2⟩, stab [0, 1, 2, 3, 4, 5, 6, 7, 8, 9, 10, 11, 12] (by kernel_rfl) ⟨rfl, rfl, rfl, rfl, rfl, rfl, rfl, rfl, rfl, rfl, rfl, rfl, rfl, trivial⟩⟩
    refine ⟨?_, ?_⟩
    ·rintro ⟨⟨⟨a11, c12⟩, ⟨b14, ⟨a17, c18⟩⟩⟩, ⟨⟨a23, ⟨c24, b25⟩⟩, ⟨a28, ⟨c29, b30⟩⟩⟩⟩ ρ σm hJ hoff hdep
     obtain ⟨H, m⟩ := id hJ
     refine dp_ex wn (ex_alloc (cs := [(.slice none 0 0), (.slice none 0 0)]) H hn0 ti26 rfl) ?_
     rintro _ σq ⟨b30x, rfl, H2, m2⟩
     exact ⟨_, (((a11, c12), (b14, (a17, c18))), ((a23, (c24, b25)), (a28, (c29, b30x)))), rfl, rfl, ⟨H2.sel' [0, 1, 2, 3, 4, 5, 6, 7, 8, 9] rfl rfl, m.comp0 m2⟩, stab [0, 1, 2, 3, 4, 5, 6, 7, 8, 9, 10, 11, 12] (by kernel_rfl) ⟨rfl, rfl, rfl, rfl, rfl, rfl, rfl, rfl, rfl, rfl, rfl, rfl, rfl, trivial⟩⟩
    refine ⟨?_, ?_⟩
    ·rintro ⟨⟨⟨a11, c12⟩, ⟨b14, ⟨a17, c18⟩⟩⟩, ⟨⟨a23, ⟨c24, b25⟩⟩, ⟨a28, ⟨c29, b30⟩⟩⟩⟩ ρ σm hJ hoff hdep
     obtain ⟨H, m⟩ := id hJ
     refine dp_ex wn (ex_alloc (cs := [(.slice none 0 0), (.slice none 0 0)]) H hn0 ti26 rfl) ?_
     rintro _ σq ⟨b30x, rfl, H2, m2⟩
     exact ⟨_, (((a11, c12), (b14, (a17, c18))), ((a23, (c24, b25)), (a28, (c29, b30x)))), rfl, rfl, ⟨H2.sel' [0, 1, 2, 3, 4, 5, 6, 7, 8, 9, 10] rfl rfl, m.comp0 m2⟩, stab [0, 1, 2, 3, 4, 5, 6, 7, 8, 9, 10, 11, 12] (by kernel_rfl) ⟨rfl, rfl, rfl, rfl, rfl, rfl, rfl, rfl, rfl, rfl, rfl, rfl, rfl, trivial⟩⟩
    refine ⟨?_, ?_⟩
    ·rintro ⟨⟨⟨a11, c12⟩, ⟨b14, ⟨a17, c18⟩⟩⟩, ⟨⟨a23, ⟨c24, b25⟩⟩, ⟨a28, ⟨c29, b30⟩⟩⟩⟩ ρ σm hJ hoff hdep
     obtain ⟨H, m⟩ := id hJ
     refine dp_ex wn (ex_alloc (cs := [(.slice none 0 0), (.slice none 0 0)]) H hn0 ti26 rfl) ?_
     rintro _ σq ⟨b30x, rfl, H2, m2⟩
     exact ⟨_, (((a11, c12), (b14, (a17, c18))), ((a23, (c24, b25)), (a28, (c29, b30x)))), rfl, rfl, ⟨H2.sel' [0, 1, 2, 3, 4, 5, 6, 7, 8, 9, 10] rfl rfl, m.comp0 m2⟩, stab [0, 1, 2, 3, 4, 5, 6, 7, 8, 9, 10, 11, 12] (by kernel_rfl) ⟨rfl, rfl, rfl, rfl, rfl, rfl, rfl, rfl, rfl, rfl, rfl, rfl, rfl, trivial⟩⟩
    trivial) ?_
  exact all_nil
 ·rintro ⟨⟨⟨a11, c12⟩, ⟨b14, ⟨a17, c18⟩⟩⟩, ⟨⟨a23, ⟨c24, b25⟩⟩, ⟨a28, ⟨c29, b30⟩⟩⟩⟩ ρ σ31 hJ hoff hrel
  have e6 := look_off (N := 31) (hoff 6 rfl) rfl
  have e8 := hrel 13 rfl 8 rfl
  have e21 := hrel 12 rfl 21 rfl
  obtain ⟨H, -⟩ := (show Hp S0 σ0 σ31 [Ch.bx n0 b30 0 [(.slice none 0 0), (.slice none 0 0)] [] [], Ch.own n0 n0 (Sl a28 xs26 c29) xs26, Ch.own n0 n0 (Sl (some ⟨b25, 0, none⟩) ([t_2] : List Int) 1) ([t_2] : List Int), Ch.own n0 0 (Sl a17 xs15 c18) xs15, Ch.own n0 0 (Sl (some ⟨b14, 0, none⟩) ([(e_1.1, (e_1.2.1, e_1.2.2.1, e_1.2.2.2))] : List (Int × (Int × (List Int) × Int))) 1) ([(e_1.1, (e_1.2.1, e_1.2.2.1, e_1.2.2.2))] : List (Int × (Int × (List Int) × Int))), Ch.bx n0 b5 0 [(.slice none 0 0), (.slice none 0 0)] [] [], Ch.bx n0 b3 0 [(I e_1.1), (I e_1.2.1), (Sl ae_1_1_1 e_1.2.2.1 ce_1_1_1), (I e_1.2.2.2)] [] [], Ch.bx n0 b1 0 [(Sl ah_0_0 h_0.1 ch_0_0), (Sl ah_0_1 h_0.2 ch_0_1)] [] [], Ch.ro 0 (Sl ah_0_0 h_0.1 ch_0_0) h_0.1, Ch.ro 0 (Sl ah_0_1 h_0.2 ch_0_1) h_0.2, Ch.ro 0 (Sl ae_1_1_1 e_1.2.2.1 ce_1_1_1) e_1.2.2.1] ∧ Md (fun i => (fun i => (cov []) i ∨ (fun b => blk (Sl a11 r8 c12) = some b) i) i ∨ (fun b => blk (Sl a23 r20 c24) = some b) i) σ6 σ31 from hJ)
  clear hJ Hs
  rw [fr_lookL (L := [(6, (pt b5 0)), (8, (pt b30 0)), (21, (.agg #[(Sl a17 xs15 c18), (Sl a28 xs26 c29)]))]) ⟨e6, e8, e21, trivial⟩]
  clear hoff hrel e6 e8 e21
  refine st_exS (ex_store_box (k := 0) (cs := [(.slice none 0 0), (.slice none 0 0)]) (vs := [(Sl a17 xs15 c18), (Sl a28 xs26 c29)]) (cs' := [(Sl a17 xs15 c18), (Sl a28 xs26 c29)]) H (i := 0) rfl ti26 rfl rfl rfl rfl rfl (Nat.le_of_ble_eq_true rfl) (by simp [plain]) rfl) wn ?_
  rintro σ32 ⟨H, -⟩
  replace H : Hp S0 σ0 σ32 [Ch.bx n0 b30 0 [(Sl a17 xs15 c18), (Sl a28 xs26 c29)] [] [], Ch.own n0 n0 (Sl a28 xs26 c29) xs26, Ch.own n0 0 (Sl a17 xs15 c18) xs15, Ch.bx n0 b5 0 [(.slice none 0 0), (.slice none 0 0)] [] []] := H.sel' [0, 1, 3, 5] rfl rfl
  refine w_end ?_
  refine q_then ?_
  refine c_seq ?_
  refine c_seq ?_
  refine rg ?_
  have hc33 := H.cells 0 rfl
  refine st (v := (.agg #[(Sl a17 xs15 c18), (Sl a28 xs26 c29)])) (rv_load (cs := [(Sl a17 xs15 c18), (Sl a28 xs26 c29)]) Try.underlying26 rfl ti26 rfl rfl hc33) ?_
  obtain ⟨r34, hx35, h'⟩ := bind_some h
  clear h
  have h := h'; clear h'
  have hc36 := c_impl_ValidHistoryD (ah_0_0 := a17) (ch_0_0 := c18) (ah_0_1 := a28) (ch_0_1 := c29) hx35
  have hle := Nat.le_trans hn0 H.size
  refine st_call (cx_lend (Loan.lend (Loan.lend Loan.nil)) hc36 (ent_f hc36.fn rfl) (show Hp S0 σ0 _ ([Ch.own n0 0 (Sl a17 xs15 c18) xs15, Ch.own n0 n0 (Sl a28 xs26 c29) xs26] ++ ([] ++ [Ch.bx n0 b30 0 [(Sl a17 xs15 c18), (Sl a28 xs26 c29)] [] [], Ch.bx n0 b5 0 [(.slice none 0 0), (.slice none 0 0)] [] []])) from (H.sel' [2, 1, 0, 3] rfl rfl)) (by rintro _ _ _ ⟨rfl, rfl⟩; exact trivial)) wn ?_
  rintro _ σ37 ⟨_, ⟨rfl, rfl⟩, H, -, -⟩
  replace H : Hp S0 σ0 σ37 [Ch.own n0 0 (Sl a17 xs15 c18) xs15, Ch.own n0 n0 (Sl a28 xs26 c29) xs26, Ch.bx n0 b30 0 [(Sl a17 xs15 c18), (Sl a28 xs26 c29)] [] [], Ch.bx n0 b5 0 [(.slice none 0 0), (.slice none 0 0)] [] []] := H
  clear hle
  replace H : Hp S0 σ0 σ37 [Ch.own n0 0 (Sl a17 xs15 c18) xs15, Ch.own n0 n0 (Sl a28 xs26 c29) xs26, Ch.bx n0 b30 0 [(Sl a17 xs15 c18), (Sl a28 xs26 c29)] [] [], Ch.bx n0 b5 0 [(.slice none 0 0), (.slice none 0 0)] [] []] := H
  refine st (v := (B (!r34))) (rv_not rfl) ?_
  refine w_end ?_
  refine q_then ?_
  refine cd_cond (!r34) rfl (fun hb38 => ?_) (fun hb38 => ?_)
  ·replace h := bif_t hb38 h
   refine c_seq ?_
   refine rg ?_
   refine st (v := (.agg #[(.slice none 0 0), (.slice none 0 0)])) (rv_build (ps := []) Try.underlying26 ti26 (bp26 Try.underlying26) rfl (by kernel_rfl)) ?_
   refine st_exS (ex_store_box (k := 0) (cs := [(.slice none 0 0), (.slice none 0 0)]) (vs := [(.slice none 0 0), (.slice none 0 0)]) (cs' := [(.slice none 0 0), (.slice none 0 0)]) H (i := 3) rfl ti26 rfl rfl rfl rfl rfl (Nat.le_of_ble_eq_true rfl) (by simp [plain]) rfl) wn ?_
   rintro σ39 ⟨H, -⟩
   refine st (v := (B false)) (rv_assign rfl) ?_
   refine w_end ?_
   refine q_then ?_
   refine c_ret ?_
   refine q_then_r ?_
   obtain ⟨K40, hK41, H⟩ := H.nilDp (Int × (Int × (List Int) × Int)) 0
   replace H := H.nilOwn Int n0 n0
   obtain rfl := Option.some.inj h
   exact fin_ret (v := (.tuple #[(.agg #[(.slice none 0 0), (.slice none 0 0)]), (B false)])) (results_ok Try.results28 (res_cell rfl (run_cellRes (cs := [(.slice none 0 0), (.slice none 0 0)]) Try.underlying26 rfl ti26 rfl (H.cells 2 rfl)) (res_tmp (v := (B false)) rfl res_nil)) rfl) ⟨none, 0, K40, none, 0, rfl, rfl, hK41, rfl⟩ (H.sel' [1, 0] rfl rfl)
  ·replace h := bif_f hb38 h
   refine c_skip ?_
   refine q_then ?_
   refine c_seq ?_
   refine rg ?_
   have hc42 := H.cells 2 rfl
   refine st (v := (.agg #[(Sl a17 xs15 c18), (Sl a28 xs26 c29)])) (rv_load (cs := [(Sl a17 xs15 c18), (Sl a28 xs26 c29)]) Try.underlying26 rfl ti26 rfl rfl hc42) ?_
   refine st (v := (pt b30 0)) (rv_fieldAddr (off := 0) (ft := 23) Try.underlying26 rfl ti23 rfl rfl) ?_
   have hc43 := H.cell (u := (Sl a17 xs15 c18)) (o' := 0) 2 0 rfl rfl rfl
   refine st (v := (Sl a17 xs15 c18)) (rv_load1 Try.underlying23 rfl rfl hc43) ?_
   refine st (v := (I (xs15.length : Int))) (rv_len Try.underlying23 rfl) ?_
   obtain ⟨σ44, hw45, H, -⟩ := H.pub 0 rfl (Nat.zero_le _)
   rw [← hw45]; clear hw45
   obtain ⟨σ46, hw47, H, -⟩ := H.pub 1 rfl (Nat.le_refl _)
   rw [← hw47]; clear hw47
   replace H := H.roLow 0 0 rfl (Nat.zero_le _)
   obtain ⟨r48, hx49, h'⟩ := bind_some h
   clear h
   have h := h'; clear h'
   have hc50 := c_impl_History_firstEntriesD (ah_0_0 := a17) (ch_0_0 := c18) (ah_0_1 := a28) (ch_0_1 := c29) hx49
   refine st_call (cx_call hc50 (ent_f hc50.fn rfl) hn0 (show Hp S0 σ0 _ ([Ch.ro 0 (Sl a17 xs15 c18) xs15, Ch.ro 0 (Sl a28 xs26 c29) xs26] ++ [Ch.ro 0 (Sl a28 xs26 c29) xs26, Ch.ro n0 (Sl a28 xs26 c29) xs26, Ch.ro 0 (Sl a17 xs15 c18) xs15, Ch.bx n0 b30 0 [(Sl a17 xs15 c18), (Sl a28 xs26 c29)] [] [], Ch.bx n0 b5 0 [(.slice none 0 0), (.slice none 0 0)] [] []]) from (H.sel' [2, 0, 0, 1, 2, 3, 4] rfl rfl))) wn ?_
   rintro _ σ58 ⟨_, ⟨a51, c52, K53, a56, c57, rfl, rfl, hK54, ht55⟩, H, -⟩
   replace H : Hp S0 σ0 σ58 [Ch.big K53, Ch.own n0 n0 (Sl a56 r48.2 c57) r48.2, Ch.ro 0 (Sl a28 xs26 c29) xs26, Ch.ro n0 (Sl a28 xs26 c29) xs26, Ch.ro 0 (Sl a17 xs15 c18) xs15, Ch.bx n0 b30 0 [(Sl a17 xs15 c18), (Sl a28 xs26 c29)] [] [], Ch.bx n0 b5 0 [(.slice none 0 0), (.slice none 0 0)] [] []] := H
   refine st_exS (ex_store_box (k := 0) (cs := [(.slice none 0 0), (.slice none 0 0)]) (vs := [(Sl a51 r48.1 c52), (Sl a56 r48.2 c57)]) (cs' := [(Sl a51 r48.1 c52), (Sl a56 r48.2 c57)]) H (i := 6) rfl ti26 rfl rfl rfl rfl rfl (Nat.le_of_ble_eq_true rfl) (by simp [plain]) rfl) wn ?_
   rintro σ59 ⟨H, -⟩
   refine st (v := (B true)) (rv_assign rfl) ?_
   refine w_end ?_
   refine q_then ?_
   refine c_ret ?_
   obtain rfl := Option.some.inj h
   exact fin_ret (v := (.tuple #[(.agg #[(Sl a51 r48.1 c52), (Sl a56 r48.2 c57)]), (B true)])) (results_ok Try.results28 (res_cell rfl (run_cellRes (cs := [(Sl a51 r48.1 c52), (Sl a56 r48.2 c57)]) Try.underlying26 rfl ti26 rfl (H.cells 0 rfl)) (res_tmp (v := (B true)) rfl res_nil)) rfl) ⟨a51, c52, K53, a56, c57, rfl, rfl, hK54, ht55⟩ (H.sel' [1, 2] rfl rfl)

theorem c_laws_markItem {a_0 : Int × (List Int) × Int} {k_1 : Int} {aa_0_1 : Option Addr} {ca_0_1 : Nat} {r : Int × (List Int)} (h : M.laws_markItem a_0 k_1 = some r) :
    Cal2 Try.prog 68 [(.agg #[(I a_0.1), (Sl aa_0_1 a_0.2.1 ca_0_1), (I a_0.2.2)]), (I k_1)] [Ch.own 0 0 (Sl aa_0_1 a_0.2.1 ca_0_1) a_0.2.1] (fun n0 v L => v = (I r.1) ∧ L = [Ch.own 0 0 (Sl aa_0_1 r.2 ca_0_1) r.2] ∧ r.2.length = a_0.2.1.length) := by
 refine cal2 (n := 10) Try.func68 rfl rfl rfl rfl ?_
 intro S0 σ0 n0 hn0 H
 unfold M.laws_markItem at h
 refine c_seq ?_
 refine rg ?_
 refine st_ex (ex_box (cs := [(I a_0.1), (Sl aa_0_1 a_0.2.1 ca_0_1), (I a_0.2.2)]) H hn0 rfl rfl) wn ?_
 rintro _ σ2 ⟨b1, rfl, H, -⟩
 refine st (v := (I 0)) (rv_assign rfl) ?_
 refine w_end ?_
 refine q_then ?_
 refine c_seq ?_
 refine rg ?_
 refine st (v := (pt b1 1)) (rv_fieldAddr (off := 1) (ft := 24) Try.underlying36 rfl ti24 rfl rfl) ?_
 have hc3 := H.cell (u := (Sl aa_0_1 a_0.2.1 ca_0_1)) (o' := 1) 0 1 rfl rfl rfl
 refine st (v := (Sl aa_0_1 a_0.2.1 ca_0_1)) (rv_load1 Try.underlying24 rfl rfl hc3) ?_
 refine st (v := (I k_1)) (rv_move rfl) ?_
 obtain ⟨r4, hx5, h'⟩ := bind_some h
 clear h
 have h := h'; clear h'
 have hc6 := c_laws_markIntS (aa_0 := aa_0_1) (ca_0 := ca_0_1) hx5
 refine st_call (cx_call hc6 (ent_f hc6.fn rfl) hn0 (show Hp S0 σ0 _ ([Ch.own 0 0 (Sl aa_0_1 a_0.2.1 ca_0_1) a_0.2.1] ++ [Ch.bx n0 b1 0 [(I a_0.1), (Sl aa_0_1 a_0.2.1 ca_0_1), (I a_0.2.2)] [] []]) from (H.sel' [1, 0] rfl rfl))) wn ?_
 rintro _ σ8 ⟨_, ⟨rfl, rfl, hn7⟩, H, -⟩
 replace H : Hp S0 σ0 σ8 [Ch.own 0 0 (Sl aa_0_1 r4.2 ca_0_1) r4.2, Ch.bx n0 b1 0 [(I a_0.1), (Sl aa_0_1 a_0.2.1 ca_0_1), (I a_0.2.2)] [] []] := H
 have hsl : (Sl aa_0_1 a_0.2.1 ca_0_1) = (Sl aa_0_1 r4.2 ca_0_1) := sl_len hn7.symm
 try rw [hsl]
 try rw [hsl] at H
 clear hsl
 refine st (v := (I r4.1)) (rv_assign rfl) ?_
 refine w_end ?_
 refine q_then ?_
 refine c_seq ?_
 refine rg ?_
 refine st (v := (I r4.1)) (rv_move rfl) ?_
 refine st (v := (I r4.1)) (rv_assign rfl) ?_
 refine w_end ?_
 refine q_then ?_
 refine c_ret ?_
 obtain rfl := Option.some.inj h
 exact fin_ret (v := (I r4.1)) (results_ok Try.results68 (res_tmp (v := (I r4.1)) rfl res_nil) rfl) ⟨rfl, rfl, hn7⟩ (H.sel' [0] rfl rfl)

theorem c_laws_markEntry {a_0 : Int × (Int × (List Int) × Int)} {k_1 : Int} {aa_0_1_1 : Option Addr} {ca_0_1_1 : Nat} {r : Int × (List Int)} (h : M.laws_markEntry a_0 k_1 = some r) :
    Cal2 Try.prog 30 [(.agg #[(I a_0.1), (I a_0.2.1), (Sl aa_0_1_1 a_0.2.2.1 ca_0_1_1), (I a_0.2.2.2)]), (I k_1)] [Ch.own 0 0 (Sl aa_0_1_1 a_0.2.2.1 ca_0_1_1) a_0.2.2.1] (fun n0 v L => v = (I r.1) ∧ L = [Ch.own 0 0 (Sl aa_0_1_1 r.2 ca_0_1_1) r.2] ∧ r.2.length = a_0.2.2.1.length) := by
 refine cal2 (n := 10) Try.func30 rfl rfl rfl rfl ?_
 intro S0 σ0 n0 hn0 H
 unfold M.laws_markEntry at h
 refine c_seq ?_
 refine rg ?_
 refine st_ex (ex_box (cs := [(I a_0.1), (I a_0.2.1), (Sl aa_0_1_1 a_0.2.2.1 ca_0_1_1), (I a_0.2.2.2)]) H hn0 rfl rfl) wn ?_
 rintro _ σ2 ⟨b1, rfl, H, -⟩
 refine st (v := (I 0)) (rv_assign rfl) ?_
 refine w_end ?_
 refine q_then ?_
 refine c_seq ?_
 refine rg ?_
 refine st (v := (pt b1 1)) (rv_fieldAddr (off := 1) (ft := 36) Try.underlying56 rfl ti36 rfl rfl) ?_
 have hc3 := H.part (us := [(I a_0.2.1), (Sl aa_0_1_1 a_0.2.2.1 ca_0_1_1), (I a_0.2.2.2)]) (o' := 1) 0 1 3 rfl rfl rfl rfl
 refine st (v := (.agg #[(I a_0.2.1), (Sl aa_0_1_1 a_0.2.2.1 ca_0_1_1), (I a_0.2.2.2)])) (rv_load (cs := [(I a_0.2.1), (Sl aa_0_1_1 a_0.2.2.1 ca_0_1_1), (I a_0.2.2.2)]) Try.underlying36 rfl ti36 rfl rfl hc3) ?_
 refine st (v := (I k_1)) (rv_move rfl) ?_
 obtain ⟨r4, hx5, h'⟩ := bind_some h
 clear h
 have h := h'; clear h'
 have hc6 := c_laws_markItem (aa_0_1 := aa_0_1_1) (ca_0_1 := ca_0_1_1) hx5
 refine st_call (cx_call hc6 (ent_f hc6.fn rfl) hn0 (show Hp S0 σ0 _ ([Ch.own 0 0 (Sl aa_0_1_1 a_0.2.2.1 ca_0_1_1) a_0.2.2.1] ++ [Ch.bx n0 b1 0 [(I a_0.1), (I a_0.2.1), (Sl aa_0_1_1 a_0.2.2.1 ca_0_1_1), (I a_0.2.2.2)] [] []]) from (H.sel' [1, 0] rfl rfl))) wn ?_
 rintro _ σ8 ⟨_, ⟨rfl, rfl, hn7⟩, H, -⟩
 replace H : Hp S0 σ0 σ8 [Ch.own 0 0 (Sl aa_0_1_1 r4.2 ca_0_1_1) r4.2, Ch.bx n0 b1 0 [(I a_0.1), (I a_0.2.1), (Sl aa_0_1_1 a_0.2.2.1 ca_0_1_1), (I a_0.2.2.2)] [] []] := H
 have hsl : (Sl aa_0_1_1 a_0.2.2.1 ca_0_1_1) = (Sl aa_0_1_1 r4.2 ca_0_1_1) := sl_len hn7.symm
 try rw [hsl]
 try rw [hsl] at H
 clear hsl
 refine st (v := (I r4.1)) (rv_assign rfl) ?_
 refine w_end ?_
 refine q_then ?_
 refine c_seq ?_
 refine rg ?_
 refine st (v := (I r4.1)) (rv_move rfl) ?_
 refine st (v := (I r4.1)) (rv_assign rfl) ?_
 refine w_end ?_
 refine q_then ?_
 refine c_ret ?_
 obtain rfl := Option.some.inj h
 exact fin_ret (v := (I r4.1)) (results_ok Try.results30 (res_tmp (v := (I r4.1)) rfl res_nil) rfl) ⟨rfl, rfl, hn7⟩ (H.sel' [0] rfl rfl)

theorem c_laws_heldIntS {a_0 : List Int} {k_1 : Int} {aa_0 : Option Addr} {ca_0 : Nat} {r : Int} (h : M.laws_heldIntS a_0 k_1 = some r) :
    Cal2 Try.prog 36 [(Sl aa_0 a_0 ca_0), (I k_1)] [Ch.ro 0 (Sl aa_0 a_0 ca_0) a_0] (fun n0 v L => v = (I r) ∧ L = []) := by
 refine cal2 (n := 21) Try.func36 rfl rfl rfl rfl ?_
 intro S0 σ0 n0 hn0 H
 unfold M.laws_heldIntS at h
 refine c_seq ?_
 refine rg ?_
 refine st (v := (I 0)) (rv_assign rfl) ?_
 refine w_end ?_
 refine q_then ?_
 refine c_seq ?_
 refine c_seq ?_
 refine rg ?_
 refine st (v := (I 0)) (rv_assign rfl) ?_
 refine w_end ?_
 refine q_then ?_
 obtain ⟨o1, hj, h'⟩ := bind_some h
 clear h
 refine c_cut (fun e a w => (∃ t, o1 = (.inl t) ∧ e = .normal ∧ ∃ (ρ : Nat → Value) (σ : St), a = fr 21 (updL ρ [(1, (I t))]) ∧ w = σ.w ∧ Hp S0 σ0 σ []) ∨ (∃ t, o1 = (.inr t) ∧ e = .ret ∧ ∃ (ρ : Nat → Value) (σ : St), a = fr 21 (updL ρ [(4, (I t))]) ∧ w = σ.w ∧ Hp S0 σ0 σ [])) ?_ ?_
 ·clear h'
  rename _ = some o1 => h
  refine c_blk ?_
  refine wp_loopM _ h (fun s2 a w => ∃ (ρ : Nat → Value) (σ : St), a = fr 21 (updL ρ [(0, (Sl aa_0 a_0 ca_0)), (1, (I s2.1)), (5, (I s2.2))]) ∧ w = σ.w ∧ Hp S0 σ0 σ [Ch.ro 0 (Sl aa_0 a_0 ca_0) a_0]) ⟨_, σ0, fr_join ⟨rfl, rfl, rfl, trivial⟩, rfl, H.sel' [0] rfl rfl⟩ ?_
  clear h H
  rintro s2 a w o ⟨ρ, σ3, rfl, rfl, H⟩ h hres
  refine c_seq ?_
  refine c_seq ?_
  refine rg ?_
  refine st (v := (I s2.2)) (rv_move rfl) ?_
  refine st (v := (Sl aa_0 a_0 ca_0)) (rv_move rfl) ?_
  refine st (v := (I (a_0.length : Int))) (rv_len Try.underlying24 rfl) ?_
  refine st (v := (B (decide (s2.2 < (a_0.length : Int))))) (rv_lss (a := s2.2) (b := (a_0.length : Int)) rfl rfl) ?_
  refine w_end ?_
  refine q_then ?_
  refine cd_cond (decide (s2.2 < (a_0.length : Int))) rfl (fun hb4 => ?_) (fun hb4 => ?_)
  ·replace h := bif_t hb4 h
   refine c_skip ?_
   refine q_then ?_
   refine c_seq ?_
   refine c_blk ?_
   refine c_seq ?_
   refine c_seq ?_
   refine rg ?_
   refine st (v := (Sl aa_0 a_0 ca_0)) (rv_move rfl) ?_
   refine st (v := (I s2.2)) (rv_move rfl) ?_
   obtain ⟨x5, hx6, h'⟩ := bind_some h
   clear h
   have h := h'; clear h'
   obtain ⟨b8, o9, hi7, -⟩ := (H.ro 0 rfl).ix hx6
   refine st (v := (pt b8 o9)) (rv_ix Try.underlying24 ti3 rfl rfl hi7) ?_
   have hc10 := ((H.ro 0 rfl).at hx6 hi7).int
   refine st (v := (I x5)) (rv_load1 Try.underlying3 rfl rfl hc10) ?_
   refine st (v := (I s2.1)) (rv_move rfl) ?_
   refine st (v := (B (x5 != s2.1))) (rv_neq (a := x5) (b := s2.1) rfl rfl) ?_
   refine w_end ?_
   refine q_then ?_
   refine cd_cond (x5 != s2.1) rfl (fun hb11 => ?_) (fun hb11 => ?_)
   ·replace h := bif_t hb11 h
    refine c_seq ?_
    refine rg ?_
    refine st (v := (I (-1))) (rv_assign rfl) ?_
    refine w_end ?_
    refine q_then ?_
    refine c_ret ?_
    refine q_then_r ?_
    refine q_blk_r ?_
    refine q_then_r ?_
    refine q_then_r ?_
    refine q_blk_r ?_
    obtain rfl := Option.some.inj h
    obtain rfl := hres _ rfl
    exact .inr (⟨_, rfl, rfl, _, σ3, fr_join ⟨rfl, trivial⟩, rfl, H.sel' [] rfl rfl⟩)
   ·replace h := bif_f hb11 h
    refine c_skip ?_
    refine q_then ?_
    refine rg ?_
    refine st (v := (I s2.1)) (rv_move rfl) ?_
    refine st (v := (I (w64 (s2.1 + 1)))) (rv_add (a := s2.1) (b := 1) rfl rfl) ?_
    refine st (v := (I (w64 (s2.1 + 1)))) (rv_assign rfl) ?_
    refine w_end ?_
    refine q_blk ?_
    refine q_then ?_
    refine rg ?_
    refine st (v := (I s2.2)) (rv_move rfl) ?_
    refine st (v := (I (w64 (s2.2 + 1)))) (rv_add (a := s2.2) (b := 1) rfl rfl) ?_
    refine st (v := (I (w64 (s2.2 + 1)))) (rv_assign rfl) ?_
    refine w_end ?_
    refine q_then ?_
    obtain rfl := Option.some.inj h
    exact ⟨_, rfl, _, σ3, fr_join ⟨rfl, rfl, rfl, trivial⟩, rfl, H.sel' [0] rfl rfl⟩
  ·replace h := bif_f hb4 h
   refine c_exit ?_
   refine q_then_x ?_
   refine q_then_x ?_
   refine q_blk_hit ?_
   obtain rfl := Option.some.inj h
   obtain rfl := hres _ rfl
   exact .inl ⟨_, rfl, rfl, _, σ3, fr_join ⟨rfl, trivial⟩, rfl, H.sel' [] rfl rfl⟩
 ·clear hj
  have h := h'
  clear h' H
  rintro e a w (⟨t12, rfl, rfl, ρ, σ13, rfl, rfl, H⟩ | ⟨t14, rfl, rfl, ρ, σ15, rfl, rfl, H⟩)
  ·replace h := selim_l h
   refine q_then ?_
   refine c_seq ?_
   refine rg ?_
   refine st (v := (I t12)) (rv_move rfl) ?_
   refine st (v := (I t12)) (rv_assign rfl) ?_
   refine w_end ?_
   refine q_then ?_
   refine c_ret ?_
   obtain rfl := Option.some.inj h
   exact fin_ret (v := (I t12)) (results_ok Try.results36 (res_tmp (v := (I t12)) rfl res_nil) rfl) ⟨rfl, rfl⟩ (H.sel' [] rfl rfl)
  ·replace h := selim_r h
   refine q_then_r ?_
   obtain rfl := Option.some.inj h
   exact fin_ret (v := (I t14)) (results_ok Try.results36 (res_tmp (v := (I t14)) rfl res_nil) rfl) ⟨rfl, rfl⟩ (H.sel' [] rfl rfl)

theorem c_laws_heldEntryS {a_0 : List (Int × (Int × (List Int) × Int))} {k_1 : Int} {aa_0 : Option Addr} {ca_0 : Nat} {r : Int} (h : M.laws_heldEntryS a_0 k_1 = some r) :
    Cal2 Try.prog 69 [(Sl aa_0 a_0 ca_0), (I k_1)] [Ch.ro 0 (Sl aa_0 a_0 ca_0) a_0] (fun n0 v L => v = (I r) ∧ L = []) := by
 refine cal2 (n := 52) Try.func69 rfl rfl rfl rfl ?_
 intro S0 σ0 n0 hn0 H
 unfold M.laws_heldEntryS at h
 refine c_seq ?_
 refine rg ?_
 refine st (v := (I 0)) (rv_assign rfl) ?_
 refine w_end ?_
 refine q_then ?_
 refine c_seq ?_
 refine c_seq ?_
 refine rg ?_
 refine st (v := (I 0)) (rv_assign rfl) ?_
 refine w_end ?_
 refine q_then ?_
 obtain ⟨o1, hj, h'⟩ := bind_some h
 clear h
 refine c_cut (fun e a w => (∃ t, o1 = (.inl t) ∧ e = .normal ∧ ∃ (ρ : Nat → Value) (σ : St), a = fr 52 (updL ρ [(1, (I t))]) ∧ w = σ.w ∧ Hp S0 σ0 σ []) ∨ (∃ t, o1 = (.inr t) ∧ e = .ret ∧ ∃ (ρ : Nat → Value) (σ : St), a = fr 52 (updL ρ [(4, (I t))]) ∧ w = σ.w ∧ Hp S0 σ0 σ [])) ?_ ?_
 ·clear h'
  rename _ = some o1 => h
  refine c_blk ?_
  refine wp_loopM _ h (fun s2 a w => ∃ (ρ : Nat → Value) (σ : St), a = fr 52 (updL ρ [(0, (Sl aa_0 a_0 ca_0)), (1, (I s2.1)), (5, (I s2.2))]) ∧ w = σ.w ∧ Hp S0 σ0 σ [Ch.ro 0 (Sl aa_0 a_0 ca_0) a_0]) ⟨_, σ0, fr_join ⟨rfl, rfl, rfl, trivial⟩, rfl, H.sel' [0] rfl rfl⟩ ?_
  clear h H
  rintro s2 a w o ⟨ρ, σ3, rfl, rfl, H⟩ h hres
  refine c_seq ?_
  refine c_seq ?_
  refine rg ?_
  refine st (v := (I s2.2)) (rv_move rfl) ?_
  refine st (v := (Sl aa_0 a_0 ca_0)) (rv_move rfl) ?_
  refine st (v := (I (a_0.length : Int))) (rv_len Try.underlying23 rfl) ?_
  refine st (v := (B (decide (s2.2 < (a_0.length : Int))))) (rv_lss (a := s2.2) (b := (a_0.length : Int)) rfl rfl) ?_
  refine w_end ?_
  refine q_then ?_
  refine cd_cond (decide (s2.2 < (a_0.length : Int))) rfl (fun hb4 => ?_) (fun hb4 => ?_)
  ·replace h := bif_t hb4 h
   refine c_skip ?_
   refine q_then ?_
   refine c_seq ?_
   refine c_blk ?_
   refine c_seq ?_
   refine c_seq ?_
   refine rg ?_
   refine st (v := (Sl aa_0 a_0 ca_0)) (rv_move rfl) ?_
   refine st (v := (I s2.2)) (rv_move rfl) ?_
   obtain ⟨x5, hx6, h'⟩ := bind_some h
   clear h
   have h := h'; clear h'
   obtain ⟨b8, o9, hi7, -⟩ := (H.ro 0 rfl).ix hx6
   refine st (v := (pt b8 o9)) (rv_ix Try.underlying23 ti56 rfl rfl hi7) ?_
   refine st (v := (pt b8 (o9 + 0))) (rv_fieldAddr (off := 0) (ft := 3) Try.underlying56 rfl ti3 rfl rfl) ?_
   have hc10 := ((H.ro 0 rfl).at hx6 hi7).fst.int
   refine st (v := (I x5.1)) (rv_load1 Try.underlying3 rfl rfl hc10) ?_
   refine st (v := (I s2.1)) (rv_move rfl) ?_
   refine st (v := (B (x5.1 != s2.1))) (rv_neq (a := x5.1) (b := s2.1) rfl rfl) ?_
   refine w_end ?_
   refine q_then ?_
   refine cd_cond (x5.1 != s2.1) rfl (fun hb11 => ?_) (fun hb11 => ?_)
   ·replace h := bif_t hb11 h
    refine c_seq ?_
    refine rg ?_
    refine st (v := (I (-1))) (rv_assign rfl) ?_
    refine w_end ?_
    refine q_then ?_
    refine c_ret ?_
    refine q_then_r ?_
    refine q_blk_r ?_
    refine q_then_r ?_
    refine q_then_r ?_
    refine q_blk_r ?_
    obtain rfl := Option.some.inj h
    obtain rfl := hres _ rfl
    exact .inr (⟨_, rfl, rfl, _, σ3, fr_join ⟨rfl, trivial⟩, rfl, H.sel' [] rfl rfl⟩)
   ·replace h := bif_f hb11 h
    refine c_skip ?_
    refine q_then ?_
    refine c_seq ?_
    refine rg ?_
    refine st (v := (I s2.1)) (rv_move rfl) ?_
    refine st (v := (I (w64 (s2.1 + 1)))) (rv_add (a := s2.1) (b := 1) rfl rfl) ?_
    refine st (v := (I (w64 (s2.1 + 1)))) (rv_assign rfl) ?_
    refine w_end ?_
    refine q_then ?_
    refine c_seq ?_
    refine c_seq ?_
    refine rg ?_
    refine st (v := (Sl aa_0 a_0 ca_0)) (rv_move rfl) ?_
    refine st (v := (I s2.2)) (rv_move rfl) ?_
    obtain ⟨x12, hx13, h'⟩ := bind_some h
    clear h
    have h := h'; clear h'
    obtain ⟨b15, o16, hi14, -⟩ := (H.ro 0 rfl).ix hx13
    refine st (v := (pt b15 o16)) (rv_ix Try.underlying23 ti56 rfl rfl hi14) ?_
    refine st (v := (pt b15 (o16 + 1))) (rv_fieldAddr (off := 1) (ft := 36) Try.underlying56 rfl ti36 rfl rfl) ?_
    refine st (v := (pt b15 (o16 + 1))) (rv_fieldAddr (off := 0) (ft := 3) Try.underlying36 rfl ti3 rfl rfl) ?_
    have hc17 := ((H.ro 0 rfl).at hx13 hi14).snd.fst.int
    refine st (v := (I x12.2.1)) (rv_load1 Try.underlying3 rfl rfl hc17) ?_
    refine st (v := (I (w64 (s2.1 + 1)))) (rv_move rfl) ?_
    refine st (v := (B (x12.2.1 != (w64 (s2.1 + 1))))) (rv_neq (a := x12.2.1) (b := (w64 (s2.1 + 1))) rfl rfl) ?_
    refine w_end ?_
    refine q_then ?_
    refine cd_cond (x12.2.1 != (w64 (s2.1 + 1))) rfl (fun hb18 => ?_) (fun hb18 => ?_)
    ·replace h := bif_t hb18 h
     refine c_seq ?_
     refine rg ?_
     refine st (v := (I (-1))) (rv_assign rfl) ?_
     refine w_end ?_
     refine q_then ?_
     refine c_ret ?_
     refine q_then_r ?_
     refine q_blk_r ?_
     refine q_then_r ?_
     refine q_then_r ?_
     refine q_blk_r ?_
     obtain rfl := Option.some.inj h
     obtain rfl := hres _ rfl
     exact .inr (⟨_, rfl, rfl, _, σ3, fr_join ⟨rfl, trivial⟩, rfl, H.sel' [] rfl rfl⟩)
    ·replace h := bif_f hb18 h
     refine c_skip ?_
     refine q_then ?_
     refine c_seq ?_
     refine rg ?_
     refine st (v := (I (w64 (s2.1 + 1)))) (rv_move rfl) ?_
     refine st (v := (I (w64 ((w64 (s2.1 + 1)) + 1)))) (rv_add (a := (w64 (s2.1 + 1))) (b := 1) rfl rfl) ?_
     refine st (v := (I (w64 ((w64 (s2.1 + 1)) + 1)))) (rv_assign rfl) ?_
     refine w_end ?_
     refine q_then ?_
     refine c_seq ?_
     refine rg ?_
     refine st (v := (Sl aa_0 a_0 ca_0)) (rv_move rfl) ?_
     refine st (v := (I s2.2)) (rv_move rfl) ?_
     obtain ⟨x19, hx20, h'⟩ := bind_some h
     clear h
     have h := h'; clear h'
     obtain ⟨b22, o23, hi21, -⟩ := (H.ro 0 rfl).ix hx20
     refine st (v := (pt b22 o23)) (rv_ix Try.underlying23 ti56 rfl rfl hi21) ?_
     refine st (v := (pt b22 (o23 + 1))) (rv_fieldAddr (off := 1) (ft := 36) Try.underlying56 rfl ti36 rfl rfl) ?_
     refine st (v := (pt b22 (o23 + 2))) (rv_fieldAddr (off := 1) (ft := 24) Try.underlying36 rfl ti24 rfl rfl) ?_
     obtain ⟨v27, hc28, hR26⟩ := ((H.ro 0 rfl).at hx20 hi21).snd.snd.fst.slice
     obtain ⟨a24, c25, rfl⟩ := hR26.isSl
     replace H := H.add (d := Ch.ro 0 (Sl a24 x19.2.2.1 c25) x19.2.2.1) hR26 (fun _ h => h)
     clear hR26
     refine st (v := (Sl a24 x19.2.2.1 c25)) (rv_load1 Try.underlying24 rfl rfl hc28) ?_
     refine st (v := (I (w64 ((w64 (s2.1 + 1)) + 1)))) (rv_move rfl) ?_
     obtain ⟨r29, hx30, h'⟩ := bind_some h
     clear h
     have h := h'; clear h'
     have hc31 := c_laws_heldIntS (aa_0 := a24) (ca_0 := c25) hx30
     refine st_call (cx_call hc31 (ent_f hc31.fn rfl) hn0 (show Hp S0 σ0 _ ([Ch.ro 0 (Sl a24 x19.2.2.1 c25) x19.2.2.1] ++ [Ch.ro 0 (Sl a24 x19.2.2.1 c25) x19.2.2.1, Ch.ro 0 (Sl aa_0 a_0 ca_0) a_0]) from (H.sel' [0, 0, 1] rfl rfl))) wn ?_
     rintro _ σ32 ⟨_, ⟨rfl, rfl⟩, H, -⟩
     replace H : Hp S0 σ0 σ32 [Ch.ro 0 (Sl a24 x19.2.2.1 c25) x19.2.2.1, Ch.ro 0 (Sl aa_0 a_0 ca_0) a_0] := H
     refine st (v := (I r29)) (rv_assign rfl) ?_
     refine w_end ?_
     refine q_then ?_
     refine c_seq ?_
     refine c_seq ?_
     refine rg ?_
     refine st (v := (I r29)) (rv_move rfl) ?_
     refine st (v := (B (decide (r29 < 0)))) (rv_lss (a := r29) (b := 0) rfl rfl) ?_
     refine w_end ?_
     refine q_then ?_
     refine cd_cond (decide (r29 < 0)) rfl (fun hb33 => ?_) (fun hb33 => ?_)
     ·replace h := bif_t hb33 h
      refine c_seq ?_
      refine rg ?_
      refine st (v := (I (-1))) (rv_assign rfl) ?_
      refine w_end ?_
      refine q_then ?_
      refine c_ret ?_
      refine q_then_r ?_
      refine q_blk_r ?_
      refine q_then_r ?_
      refine q_then_r ?_
      refine q_blk_r ?_
      obtain rfl := Option.some.inj h
      obtain rfl := hres _ rfl
      exact .inr (⟨_, rfl, rfl, _, σ32, fr_join ⟨rfl, trivial⟩, rfl, H.sel' [] rfl rfl⟩)
     ·replace h := bif_f hb33 h
      refine c_skip ?_
      refine q_then ?_
      refine c_seq ?_
      refine c_seq ?_
      refine rg ?_
      refine st (v := (Sl aa_0 a_0 ca_0)) (rv_move rfl) ?_
      refine st (v := (I s2.2)) (rv_move rfl) ?_
      obtain ⟨x34, hx35, h'⟩ := bind_some h
      clear h
      have h := h'; clear h'
      obtain ⟨b37, o38, hi36, -⟩ := (H.ro 1 rfl).ix hx35
      refine st (v := (pt b37 o38)) (rv_ix Try.underlying23 ti56 rfl rfl hi36) ?_
      refine st (v := (pt b37 (o38 + 1))) (rv_fieldAddr (off := 1) (ft := 36) Try.underlying56 rfl ti36 rfl rfl) ?_
      refine st (v := (pt b37 (o38 + 3))) (rv_fieldAddr (off := 2) (ft := 3) Try.underlying36 rfl ti3 rfl rfl) ?_
      have hc39 := ((H.ro 1 rfl).at hx35 hi36).snd.snd.snd.int
      refine st (v := (I x34.2.2.2)) (rv_load1 Try.underlying3 rfl rfl hc39) ?_
      refine st (v := (I r29)) (rv_move rfl) ?_
      refine st (v := (B (x34.2.2.2 != r29))) (rv_neq (a := x34.2.2.2) (b := r29) rfl rfl) ?_
      refine w_end ?_
      refine q_then ?_
      refine cd_cond (x34.2.2.2 != r29) rfl (fun hb40 => ?_) (fun hb40 => ?_)
      ·replace h := bif_t hb40 h
       refine c_seq ?_
       refine rg ?_
       refine st (v := (I (-1))) (rv_assign rfl) ?_
       refine w_end ?_
       refine q_then ?_
       refine c_ret ?_
       refine q_then_r ?_
       refine q_blk_r ?_
       refine q_then_r ?_
       refine q_then_r ?_
       refine q_blk_r ?_
       obtain rfl := Option.some.inj h
       obtain rfl := hres _ rfl
       exact .inr (⟨_, rfl, rfl, _, σ32, fr_join ⟨rfl, trivial⟩, rfl, H.sel' [] rfl rfl⟩)
      ·replace h := bif_f hb40 h
       refine c_skip ?_
       refine q_then ?_
       refine rg ?_
       refine st (v := (I r29)) (rv_move rfl) ?_
       refine st (v := (I (w64 (r29 + 1)))) (rv_add (a := r29) (b := 1) rfl rfl) ?_
       refine st (v := (I (w64 (r29 + 1)))) (rv_assign rfl) ?_
       refine w_end ?_
       refine q_blk ?_
       refine q_then ?_
       refine rg ?_
       refine st (v := (I s2.2)) (rv_move rfl) ?_
       refine st (v := (I (w64 (s2.2 + 1)))) (rv_add (a := s2.2) (b := 1) rfl rfl) ?_
       refine st (v := (I (w64 (s2.2 + 1)))) (rv_assign rfl) ?_
       refine w_end ?_
       refine q_then ?_
       obtain rfl := Option.some.inj h
       exact ⟨_, rfl, _, σ32, fr_join ⟨rfl, rfl, rfl, trivial⟩, rfl, H.sel' [1] rfl rfl⟩
  ·replace h := bif_f hb4 h
   refine c_exit ?_
   refine q_then_x ?_
   refine q_then_x ?_
   refine q_blk_hit ?_
   obtain rfl := Option.some.inj h
   obtain rfl := hres _ rfl
   exact .inl ⟨_, rfl, rfl, _, σ3, fr_join ⟨rfl, trivial⟩, rfl, H.sel' [] rfl rfl⟩
 ·clear hj
  have h := h'
  clear h' H
  rintro e a w (⟨t41, rfl, rfl, ρ, σ42, rfl, rfl, H⟩ | ⟨t43, rfl, rfl, ρ, σ44, rfl, rfl, H⟩)
  ·replace h := selim_l h
   refine q_then ?_
   refine c_seq ?_
   refine rg ?_
   refine st (v := (I t41)) (rv_move rfl) ?_
   refine st (v := (I t41)) (rv_assign rfl) ?_
   refine w_end ?_
   refine q_then ?_
   refine c_ret ?_
   obtain rfl := Option.some.inj h
   exact fin_ret (v := (I t41)) (results_ok Try.results69 (res_tmp (v := (I t41)) rfl res_nil) rfl) ⟨rfl, rfl⟩ (H.sel' [] rfl rfl)
  ·replace h := selim_r h
   refine q_then_r ?_
   obtain rfl := Option.some.inj h
   exact fin_ret (v := (I t43)) (results_ok Try.results69 (res_tmp (v := (I t43)) rfl res_nil) rfl) ⟨rfl, rfl⟩ (H.sel' [] rfl rfl)

theorem c_laws_heldHistory {a_0 : (List (Int × (Int × (List Int) × Int))) × (List Int)} {k_1 : Int} {aa_0_0 : Option Addr} {ca_0_0 : Nat} {aa_0_1 : Option Addr} {ca_0_1 : Nat} {r : Int} (h : M.laws_heldHistory a_0 k_1 = some r) :
    Cal2 Try.prog 31 [(.agg #[(Sl aa_0_0 a_0.1 ca_0_0), (Sl aa_0_1 a_0.2 ca_0_1)]), (I k_1)] [Ch.ro 0 (Sl aa_0_0 a_0.1 ca_0_0) a_0.1, Ch.ro 0 (Sl aa_0_1 a_0.2 ca_0_1) a_0.2] (fun n0 v L => v = (I r) ∧ L = []) := by
 refine cal2 (n := 18) Try.func31 rfl rfl rfl rfl ?_
 intro S0 σ0 n0 hn0 H
 unfold M.laws_heldHistory at h
 refine c_seq ?_
 refine rg ?_
 refine st_ex (ex_box (cs := [(Sl aa_0_0 a_0.1 ca_0_0), (Sl aa_0_1 a_0.2 ca_0_1)]) H hn0 rfl rfl) wn ?_
 rintro _ σ2 ⟨b1, rfl, H, -⟩
 refine st (v := (I 0)) (rv_assign rfl) ?_
 refine w_end ?_
 refine q_then ?_
 refine c_seq ?_
 refine rg ?_
 refine st (v := (pt b1 0)) (rv_fieldAddr (off := 0) (ft := 23) Try.underlying26 rfl ti23 rfl rfl) ?_
 have hc3 := H.cell (u := (Sl aa_0_0 a_0.1 ca_0_0)) (o' := 0) 0 0 rfl rfl rfl
 refine st (v := (Sl aa_0_0 a_0.1 ca_0_0)) (rv_load1 Try.underlying23 rfl rfl hc3) ?_
 refine st (v := (I k_1)) (rv_move rfl) ?_
 obtain ⟨r4, hx5, h'⟩ := bind_some h
 clear h
 have h := h'; clear h'
 have hc6 := c_laws_heldEntryS (aa_0 := aa_0_0) (ca_0 := ca_0_0) hx5
 refine st_call (cx_call hc6 (ent_f hc6.fn rfl) hn0 (show Hp S0 σ0 _ ([Ch.ro 0 (Sl aa_0_0 a_0.1 ca_0_0) a_0.1] ++ [Ch.bx n0 b1 0 [(Sl aa_0_0 a_0.1 ca_0_0), (Sl aa_0_1 a_0.2 ca_0_1)] [] [], Ch.ro 0 (Sl aa_0_0 a_0.1 ca_0_0) a_0.1, Ch.ro 0 (Sl aa_0_1 a_0.2 ca_0_1) a_0.2]) from (H.sel' [1, 0, 1, 2] rfl rfl))) wn ?_
 rintro _ σ7 ⟨_, ⟨rfl, rfl⟩, H, -⟩
 replace H : Hp S0 σ0 σ7 [Ch.bx n0 b1 0 [(Sl aa_0_0 a_0.1 ca_0_0), (Sl aa_0_1 a_0.2 ca_0_1)] [] [], Ch.ro 0 (Sl aa_0_0 a_0.1 ca_0_0) a_0.1, Ch.ro 0 (Sl aa_0_1 a_0.2 ca_0_1) a_0.2] := H
 refine st (v := (I r4)) (rv_assign rfl) ?_
 refine w_end ?_
 refine q_then ?_
 refine c_seq ?_
 refine c_seq ?_
 refine rg ?_
 refine st (v := (I r4)) (rv_move rfl) ?_
 refine st (v := (B (decide (r4 < 0)))) (rv_lss (a := r4) (b := 0) rfl rfl) ?_
 refine w_end ?_
 refine q_then ?_
 refine cd_cond (decide (r4 < 0)) rfl (fun hb8 => ?_) (fun hb8 => ?_)
 ·replace h := bif_t hb8 h
  refine c_seq ?_
  refine rg ?_
  refine st (v := (I (-1))) (rv_assign rfl) ?_
  refine w_end ?_
  refine q_then ?_
  refine c_ret ?_
  refine q_then_r ?_
  obtain rfl := Option.some.inj h
  exact fin_ret (v := (I (-1))) (results_ok Try.results31 (res_tmp (v := (I (-1))) rfl res_nil) rfl) ⟨rfl, rfl⟩ (H.sel' [] rfl rfl)
 ·replace h := bif_f hb8 h
  refine c_skip ?_
  refine q_then ?_
  refine c_seq ?_
  refine rg ?_
  refine st (v := (pt b1 1)) (rv_fieldAddr (off := 1) (ft := 24) Try.underlying26 rfl ti24 rfl rfl) ?_
  have hc9 := H.cell (u := (Sl aa_0_1 a_0.2 ca_0_1)) (o' := 1) 0 1 rfl rfl rfl
  refine st (v := (Sl aa_0_1 a_0.2 ca_0_1)) (rv_load1 Try.underlying24 rfl rfl hc9) ?_
  refine st (v := (I r4)) (rv_move rfl) ?_
  obtain ⟨r10, hx11, h'⟩ := bind_some h
  clear h
  have h := h'; clear h'
  have hc12 := c_laws_heldIntS (aa_0 := aa_0_1) (ca_0 := ca_0_1) hx11
  refine st_call (cx_call hc12 (ent_f hc12.fn rfl) hn0 (show Hp S0 σ0 _ ([Ch.ro 0 (Sl aa_0_1 a_0.2 ca_0_1) a_0.2] ++ [Ch.bx n0 b1 0 [(Sl aa_0_0 a_0.1 ca_0_0), (Sl aa_0_1 a_0.2 ca_0_1)] [] [], Ch.ro 0 (Sl aa_0_0 a_0.1 ca_0_0) a_0.1, Ch.ro 0 (Sl aa_0_1 a_0.2 ca_0_1) a_0.2]) from (H.sel' [2, 0, 1, 2] rfl rfl))) wn ?_
  rintro _ σ13 ⟨_, ⟨rfl, rfl⟩, H, -⟩
  replace H : Hp S0 σ0 σ13 [Ch.bx n0 b1 0 [(Sl aa_0_0 a_0.1 ca_0_0), (Sl aa_0_1 a_0.2 ca_0_1)] [] [], Ch.ro 0 (Sl aa_0_0 a_0.1 ca_0_0) a_0.1, Ch.ro 0 (Sl aa_0_1 a_0.2 ca_0_1) a_0.2] := H
  refine st (v := (I r10)) (rv_assign rfl) ?_
  refine w_end ?_
  refine q_then ?_
  refine c_seq ?_
  refine c_seq ?_
  refine rg ?_
  refine st (v := (I r10)) (rv_move rfl) ?_
  refine st (v := (B (decide (r10 < 0)))) (rv_lss (a := r10) (b := 0) rfl rfl) ?_
  refine w_end ?_
  refine q_then ?_
  refine cd_cond (decide (r10 < 0)) rfl (fun hb14 => ?_) (fun hb14 => ?_)
  ·replace h := bif_t hb14 h
   refine c_seq ?_
   refine rg ?_
   refine st (v := (I (-1))) (rv_assign rfl) ?_
   refine w_end ?_
   refine q_then ?_
   refine c_ret ?_
   refine q_then_r ?_
   obtain rfl := Option.some.inj h
   exact fin_ret (v := (I (-1))) (results_ok Try.results31 (res_tmp (v := (I (-1))) rfl res_nil) rfl) ⟨rfl, rfl⟩ (H.sel' [] rfl rfl)
  ·replace h := bif_f hb14 h
   refine c_skip ?_
   refine q_then ?_
   refine c_seq ?_
   refine rg ?_
   refine st (v := (I r10)) (rv_move rfl) ?_
   refine st (v := (I r10)) (rv_assign rfl) ?_
   refine w_end ?_
   refine q_then ?_
   refine c_ret ?_
   obtain rfl := Option.some.inj h
   exact fin_ret (v := (I r10)) (results_ok Try.results31 (res_tmp (v := (I r10)) rfl res_nil) rfl) ⟨rfl, rfl⟩ (H.sel' [] rfl rfl)

end Go.Vs
