/- The functions compute what their models say. -/
import Derived.Test.YtfcemgcmpcmgcabKExactAddEntryC5
set_option linter.unusedVariables false
set_option linter.unusedSimpArgs false
set_option maxRecDepth 20000
namespace Go.Vs
open Go Go.Proofs
attribute [local irreducible] Code.wp Code.wpIn wpList wpListIn wpQuiet Calls CallsIn

theorem c_laws_FnExactAddEntry {aH_0 : (List (Int × (Int × (List Int) × Int))) × (List Int)} {aE_1 : Int × (Int × (List Int) × Int)} {aT_2 : Int} {aaH_0_0 : Option Addr} {caH_0_0 : Nat} {aaH_0_1 : Option Addr} {caH_0_1 : Nat} {aaE_1_1_1 : Option Addr} {caE_1_1_1 : Nat} {r : Bool} (h : M.laws_FnExactAddEntry aH_0 aE_1 aT_2 = some r) :
    Cal2 Try.prog 6 [(.agg #[(Sl aaH_0_0 aH_0.1 caH_0_0), (Sl aaH_0_1 aH_0.2 caH_0_1)]), (.agg #[(I aE_1.1), (I aE_1.2.1), (Sl aaE_1_1_1 aE_1.2.2.1 caE_1_1_1), (I aE_1.2.2.2)]), (I aT_2)] [Ch.ro 0 (Sl aaH_0_0 aH_0.1 caH_0_0) aH_0.1, Ch.ro 0 (Sl aaH_0_1 aH_0.2 caH_0_1) aH_0.2, Ch.ro 0 (Sl aaE_1_1_1 aE_1.2.2.1 caE_1_1_1) aE_1.2.2.1] (fun n0 v L => v = (B r) ∧ L = []) := by
 refine cal2 (n := 124) Try.func6 rfl rfl rfl rfl ?_
 intro S0 σ0 n0 hn0 H
 unfold M.laws_FnExactAddEntry at h
 refine c_seq ?_
 refine rg ?_
 refine st_ex (ex_box (cs := [(Sl aaH_0_0 aH_0.1 caH_0_0), (Sl aaH_0_1 aH_0.2 caH_0_1)]) H hn0 rfl rfl) wn ?_
 rintro _ σ2 ⟨b1, rfl, H, -⟩
 refine st_ex (ex_box (cs := [(I aE_1.1), (I aE_1.2.1), (Sl aaE_1_1_1 aE_1.2.2.1 caE_1_1_1), (I aE_1.2.2.2)]) H hn0 rfl rfl) wn ?_
 rintro _ σ4 ⟨b3, rfl, H, -⟩
 refine st (v := (B false)) (rv_assign rfl) ?_
 refine w_end ?_
 refine q_then ?_
 refine c_seq ?_
 refine rg ?_
 refine st (v := (I 1048576)) (rv_assign rfl) ?_
 refine w_end ?_
 refine q_then ?_
 refine c_seq ?_
 refine rg ?_
 have hc5 := H.cells 1 rfl
 refine st (v := (.agg #[(Sl aaH_0_0 aH_0.1 caH_0_0), (Sl aaH_0_1 aH_0.2 caH_0_1)])) (rv_load (cs := [(Sl aaH_0_0 aH_0.1 caH_0_0), (Sl aaH_0_1 aH_0.2 caH_0_1)]) Try.underlying40 rfl ti40 rfl rfl hc5) ?_
 refine st (v := (I 1048576)) (rv_move rfl) ?_
 obtain ⟨r6, hx7, h'⟩ := bind_some h
 clear h
 have h := h'; clear h'
 have hc8 := c_laws_szHistory (aa_0_0 := aaH_0_0) (ca_0_0 := caH_0_0) (aa_0_1 := aaH_0_1) (ca_0_1 := caH_0_1) hx7
 refine st_call (cx_call hc8 (ent_f hc8.fn rfl) hn0 (show Hp S0 σ0 _ ([Ch.ro 0 (Sl aaH_0_0 aH_0.1 caH_0_0) aH_0.1, Ch.ro 0 (Sl aaH_0_1 aH_0.2 caH_0_1) aH_0.2] ++ [Ch.bx n0 b3 0 [(I aE_1.1), (I aE_1.2.1), (Sl aaE_1_1_1 aE_1.2.2.1 caE_1_1_1), (I aE_1.2.2.2)] [] [], Ch.bx n0 b1 0 [(Sl aaH_0_0 aH_0.1 caH_0_0), (Sl aaH_0_1 aH_0.2 caH_0_1)] [] [], Ch.ro 0 (Sl aaH_0_0 aH_0.1 caH_0_0) aH_0.1, Ch.ro 0 (Sl aaH_0_1 aH_0.2 caH_0_1) aH_0.2, Ch.ro 0 (Sl aaE_1_1_1 aE_1.2.2.1 caE_1_1_1) aE_1.2.2.1]) from (H.sel' [2, 3, 0, 1, 2, 3, 4] rfl rfl))) wn ?_
 rintro _ σ9 ⟨_, ⟨rfl, rfl⟩, H, -⟩
 replace H : Hp S0 σ0 σ9 [Ch.bx n0 b3 0 [(I aE_1.1), (I aE_1.2.1), (Sl aaE_1_1_1 aE_1.2.2.1 caE_1_1_1), (I aE_1.2.2.2)] [] [], Ch.bx n0 b1 0 [(Sl aaH_0_0 aH_0.1 caH_0_0), (Sl aaH_0_1 aH_0.2 caH_0_1)] [] [], Ch.ro 0 (Sl aaH_0_0 aH_0.1 caH_0_0) aH_0.1, Ch.ro 0 (Sl aaH_0_1 aH_0.2 caH_0_1) aH_0.2, Ch.ro 0 (Sl aaE_1_1_1 aE_1.2.2.1 caE_1_1_1) aE_1.2.2.1] := H
 refine st (v := (I r6)) (rv_assign rfl) ?_
 refine w_end ?_
 refine q_then ?_
 refine c_seq ?_
 refine c_seq ?_
 refine rg ?_
 refine st (v := (I r6)) (rv_move rfl) ?_
 refine st (v := (B (decide (r6 < 0)))) (rv_lss (a := r6) (b := 0) rfl rfl) ?_
 refine w_end ?_
 refine q_then ?_
 refine cd_cond (decide (r6 < 0)) rfl (fun hb10 => ?_) (fun hb10 => ?_)
 ·replace h := bif_t hb10 h
  refine c_seq ?_
  refine rg ?_
  refine st (v := (B true)) (rv_assign rfl) ?_
  refine w_end ?_
  refine q_then ?_
  refine c_ret ?_
  refine q_then_r ?_
  obtain rfl := Option.some.inj h
  exact fin_ret (v := (B true)) (results_ok Try.results6 (res_tmp (v := (B true)) rfl res_nil) rfl) ⟨rfl, rfl⟩ (H.sel' [] rfl rfl)
 ·replace h := bif_f hb10 h
  refine c_skip ?_
  refine q_then ?_
  refine c_seq ?_
  refine rg ?_
  have hc11 := H.cells 0 rfl
  refine st (v := (.agg #[(I aE_1.1), (I aE_1.2.1), (Sl aaE_1_1_1 aE_1.2.2.1 caE_1_1_1), (I aE_1.2.2.2)])) (rv_load (cs := [(I aE_1.1), (I aE_1.2.1), (Sl aaE_1_1_1 aE_1.2.2.1 caE_1_1_1), (I aE_1.2.2.2)]) Try.underlying51 rfl ti51 rfl rfl hc11) ?_
  refine st (v := (I r6)) (rv_move rfl) ?_
  obtain ⟨r12, hx13, h'⟩ := bind_some h
  clear h
  have h := h'; clear h'
  have hc14 := c_laws_szEntry (aa_0_1_1 := aaE_1_1_1) (ca_0_1_1 := caE_1_1_1) hx13
  refine st_call (cx_call hc14 (ent_f hc14.fn rfl) hn0 (show Hp S0 σ0 _ ([Ch.ro 0 (Sl aaE_1_1_1 aE_1.2.2.1 caE_1_1_1) aE_1.2.2.1] ++ [Ch.bx n0 b3 0 [(I aE_1.1), (I aE_1.2.1), (Sl aaE_1_1_1 aE_1.2.2.1 caE_1_1_1), (I aE_1.2.2.2)] [] [], Ch.bx n0 b1 0 [(Sl aaH_0_0 aH_0.1 caH_0_0), (Sl aaH_0_1 aH_0.2 caH_0_1)] [] [], Ch.ro 0 (Sl aaH_0_0 aH_0.1 caH_0_0) aH_0.1, Ch.ro 0 (Sl aaH_0_1 aH_0.2 caH_0_1) aH_0.2, Ch.ro 0 (Sl aaE_1_1_1 aE_1.2.2.1 caE_1_1_1) aE_1.2.2.1]) from (H.sel' [4, 0, 1, 2, 3, 4] rfl rfl))) wn ?_
  rintro _ σ15 ⟨_, ⟨rfl, rfl⟩, H, -⟩
  replace H : Hp S0 σ0 σ15 [Ch.bx n0 b3 0 [(I aE_1.1), (I aE_1.2.1), (Sl aaE_1_1_1 aE_1.2.2.1 caE_1_1_1), (I aE_1.2.2.2)] [] [], Ch.bx n0 b1 0 [(Sl aaH_0_0 aH_0.1 caH_0_0), (Sl aaH_0_1 aH_0.2 caH_0_1)] [] [], Ch.ro 0 (Sl aaH_0_0 aH_0.1 caH_0_0) aH_0.1, Ch.ro 0 (Sl aaH_0_1 aH_0.2 caH_0_1) aH_0.2, Ch.ro 0 (Sl aaE_1_1_1 aE_1.2.2.1 caE_1_1_1) aE_1.2.2.1] := H
  refine st (v := (I r12)) (rv_assign rfl) ?_
  refine w_end ?_
  refine q_then ?_
  refine c_seq ?_
  refine c_seq ?_
  refine rg ?_
  refine st (v := (I r12)) (rv_move rfl) ?_
  refine st (v := (B (decide (r12 < 0)))) (rv_lss (a := r12) (b := 0) rfl rfl) ?_
  refine w_end ?_
  refine q_then ?_
  refine cd_cond (decide (r12 < 0)) rfl (fun hb16 => ?_) (fun hb16 => ?_)
  ·replace h := bif_t hb16 h
   refine c_seq ?_
   refine rg ?_
   refine st (v := (B true)) (rv_assign rfl) ?_
   refine w_end ?_
   refine q_then ?_
   refine c_ret ?_
   refine q_then_r ?_
   obtain rfl := Option.some.inj h
   exact fin_ret (v := (B true)) (results_ok Try.results6 (res_tmp (v := (B true)) rfl res_nil) rfl) ⟨rfl, rfl⟩ (H.sel' [] rfl rfl)
  ·replace h := bif_f hb16 h
   refine c_skip ?_
   refine q_then ?_
   refine c_seq ?_
   have hc17 := H.cells 1 rfl
   obtain ⟨r18, hx19, h'⟩ := bind_some h
   clear h
   have h := h'; clear h'
   have hc20 := c_laws_toHistoryD (aa_0_0 := aaH_0_0) (ca_0_0 := caH_0_0) (aa_0_1 := aaH_0_1) (ca_0_1 := caH_0_1) hx19
   have hc28 := H.cells 0 rfl
   obtain ⟨r29, hx30, h'⟩ := bind_some h
   clear h
   have h := h'; clear h'
   have hc31 := c_laws_toEntry (aa_0_1_1 := aaE_1_1_1) (ca_0_1_1 := caE_1_1_1) hx30
   obtain ⟨r35, hx36, h'⟩ := bind_some h
   clear h
   have h := h'; clear h'
   have hc37 := fun (a21 : Option Addr) (c22 : Nat) (a25 : Option Addr) (c26 : Nat) (a32 : Option Addr) (c33 : Nat) => c_spec_AddEntry (ah_0_0 := a21) (ch_0_0 := c22) (ah_0_1 := a25) (ch_0_1 := c26) (ae_1_1_1 := a32) (ce_1_1_1 := c33) hx36
   have Hs := H
   refine rg2 (σ := σ15) (Nm := ((((Option Addr) × ((Nat) × (List Ch))) × ((Option Addr) × ((Nat) × (Option Addr)))) × (((Nat) × ((Option Addr) × (Nat))) × ((Option Addr) × ((Nat) × (Nat)))))) 11 [1, 3, 5, 9, 10] [[false, false, false, false, false], [true, false, false, false, false], [false, false, false, true, false], [true, true, false, false, false], [true, false, false, true, false], [true, true, true, false, false], [true, true, false, true, false], [true, true, true, true, false], [true, true, true, true, true]] [[(0, 0), (2, 2)], [(0, 1), (2, 4)], [(0, 0), (1, 1), (2, 2), (4, 4)], [(1, 3), (4, 6)], [(0, 0), (1, 1), (2, 2), (3, 3), (4, 4), (6, 6)], [(3, 5), (6, 7)], [(5, 5), (7, 7)], [(5, 5), (7, 7)], [(5, 5), (7, 7), (8, 8)], [(0, 2), (1, 4), (3, 6), (5, 7)], [(7, 8)]] 8 [fun ((((a21, (c22, K23)), (a25, (c26, a32))), ((c33, (a38, c39)), (a40, (c41, b42)))) : ((((Option Addr) × ((Nat) × (List Ch))) × ((Option Addr) × ((Nat) × (Option Addr)))) × (((Nat) × ((Option Addr) × (Nat))) × ((Option Addr) × ((Nat) × (Nat)))))) => fun σm => Hp S0 σ0 σm [Ch.bx n0 b3 0 [(I aE_1.1), (I aE_1.2.1), (Sl aaE_1_1_1 aE_1.2.2.1 caE_1_1_1), (I aE_1.2.2.2)] [] [], Ch.bx n0 b1 0 [(Sl aaH_0_0 aH_0.1 caH_0_0), (Sl aaH_0_1 aH_0.2 caH_0_1)] [] [], Ch.ro 0 (Sl aaH_0_0 aH_0.1 caH_0_0) aH_0.1, Ch.ro 0 (Sl aaH_0_1 aH_0.2 caH_0_1) aH_0.2, Ch.ro 0 (Sl aaE_1_1_1 aE_1.2.2.1 caE_1_1_1) aE_1.2.2.1] ∧ Md (cov []) σ15 σm, fun ((((a21, (c22, K23)), (a25, (c26, a32))), ((c33, (a38, c39)), (a40, (c41, b42)))) : ((((Option Addr) × ((Nat) × (List Ch))) × ((Option Addr) × ((Nat) × (Option Addr)))) × (((Nat) × ((Option Addr) × (Nat))) × ((Option Addr) × ((Nat) × (Nat)))))) => fun σm => Hp S0 σ0 σm [Ch.ro 0 (Sl a21 r18.1 c22) r18.1, Ch.ro 0 (Sl a25 r18.2 c26) r18.2, Ch.bx n0 b3 0 [(I aE_1.1), (I aE_1.2.1), (Sl aaE_1_1_1 aE_1.2.2.1 caE_1_1_1), (I aE_1.2.2.2)] [] [], Ch.bx n0 b1 0 [(Sl aaH_0_0 aH_0.1 caH_0_0), (Sl aaH_0_1 aH_0.2 caH_0_1)] [] [], Ch.ro 0 (Sl aaH_0_0 aH_0.1 caH_0_0) aH_0.1, Ch.ro 0 (Sl aaH_0_1 aH_0.2 caH_0_1) aH_0.2, Ch.ro 0 (Sl aaE_1_1_1 aE_1.2.2.1 caE_1_1_1) aE_1.2.2.1] ∧ Md (fun i => (cov []) i ∨ (fun i => (fun i => (cov [Ch.ro 0 (Sl aaH_0_0 aH_0.1 caH_0_0) aH_0.1, Ch.ro 0 (Sl aaH_0_1 aH_0.2 caH_0_1) aH_0.2]) i ∨ (cov K23) i) i ∨ (fun b => blk (Sl a25 r18.2 c26) = some b) i) i) σ15 σm ∧ c26 = r18.2.length, fun ((((a21, (c22, K23)), (a25, (c26, a32))), ((c33, (a38, c39)), (a40, (c41, b42)))) : ((((Option Addr) × ((Nat) × (List Ch))) × ((Option Addr) × ((Nat) × (Option Addr)))) × (((Nat) × ((Option Addr) × (Nat))) × ((Option Addr) × ((Nat) × (Nat)))))) => fun σm => Hp S0 σ0 σm [Ch.bx n0 b42 0 [(.slice none 0 0), (.slice none 0 0)] [] [], Ch.bx n0 b3 0 [(I aE_1.1), (I aE_1.2.1), (Sl aaE_1_1_1 aE_1.2.2.1 caE_1_1_1), (I aE_1.2.2.2)] [] [], Ch.bx n0 b1 0 [(Sl aaH_0_0 aH_0.1 caH_0_0), (Sl aaH_0_1 aH_0.2 caH_0_1)] [] [], Ch.ro 0 (Sl aaH_0_0 aH_0.1 caH_0_0) aH_0.1, Ch.ro 0 (Sl aaH_0_1 aH_0.2 caH_0_1) aH_0.2, Ch.ro 0 (Sl aaE_1_1_1 aE_1.2.2.1 caE_1_1_1) aE_1.2.2.1] ∧ Md (cov []) σ15 σm, fun ((((a21, (c22, K23)), (a25, (c26, a32))), ((c33, (a38, c39)), (a40, (c41, b42)))) : ((((Option Addr) × ((Nat) × (List Ch))) × ((Option Addr) × ((Nat) × (Option Addr)))) × (((Nat) × ((Option Addr) × (Nat))) × ((Option Addr) × ((Nat) × (Nat)))))) => fun σm => Hp S0 σ0 σm [Ch.ro 0 (Sl a32 r29.2.2.1 c33) r29.2.2.1, Ch.ro 0 (Sl a21 r18.1 c22) r18.1, Ch.ro 0 (Sl a25 r18.2 c26) r18.2, Ch.bx n0 b3 0 [(I aE_1.1), (I aE_1.2.1), (Sl aaE_1_1_1 aE_1.2.2.1 caE_1_1_1), (I aE_1.2.2.2)] [] [], Ch.bx n0 b1 0 [(Sl aaH_0_0 aH_0.1 caH_0_0), (Sl aaH_0_1 aH_0.2 caH_0_1)] [] [], Ch.ro 0 (Sl aaH_0_0 aH_0.1 caH_0_0) aH_0.1, Ch.ro 0 (Sl aaH_0_1 aH_0.2 caH_0_1) aH_0.2, Ch.ro 0 (Sl aaE_1_1_1 aE_1.2.2.1 caE_1_1_1) aE_1.2.2.1] ∧ Md (fun i => (fun i => (cov []) i ∨ (fun i => (fun i => (cov [Ch.ro 0 (Sl aaH_0_0 aH_0.1 caH_0_0) aH_0.1, Ch.ro 0 (Sl aaH_0_1 aH_0.2 caH_0_1) aH_0.2]) i ∨ (cov K23) i) i ∨ (fun b => blk (Sl a25 r18.2 c26) = some b) i) i) i ∨ (fun i => (cov [Ch.ro 0 (Sl aaE_1_1_1 aE_1.2.2.1 caE_1_1_1) aE_1.2.2.1]) i ∨ (fun b => blk (Sl a32 r29.2.2.1 c33) = some b) i) i) σ15 σm ∧ c26 = r18.2.length ∧ c33 = r29.2.2.1.length, fun ((((a21, (c22, K23)), (a25, (c26, a32))), ((c33, (a38, c39)), (a40, (c41, b42)))) : ((((Option Addr) × ((Nat) × (List Ch))) × ((Option Addr) × ((Nat) × (Option Addr)))) × (((Nat) × ((Option Addr) × (Nat))) × ((Option Addr) × ((Nat) × (Nat)))))) => fun σm => Hp S0 σ0 σm [Ch.bx n0 b42 0 [(.slice none 0 0), (.slice none 0 0)] [] [], Ch.ro 0 (Sl a21 r18.1 c22) r18.1, Ch.ro 0 (Sl a25 r18.2 c26) r18.2, Ch.bx n0 b3 0 [(I aE_1.1), (I aE_1.2.1), (Sl aaE_1_1_1 aE_1.2.2.1 caE_1_1_1), (I aE_1.2.2.2)] [] [], Ch.bx n0 b1 0 [(Sl aaH_0_0 aH_0.1 caH_0_0), (Sl aaH_0_1 aH_0.2 caH_0_1)] [] [], Ch.ro 0 (Sl aaH_0_0 aH_0.1 caH_0_0) aH_0.1, Ch.ro 0 (Sl aaH_0_1 aH_0.2 caH_0_1) aH_0.2, Ch.ro 0 (Sl aaE_1_1_1 aE_1.2.2.1 caE_1_1_1) aE_1.2.2.1] ∧ Md (fun i => (cov []) i ∨ (fun i => (fun i => (cov [Ch.ro 0 (Sl aaH_0_0 aH_0.1 caH_0_0) aH_0.1, Ch.ro 0 (Sl aaH_0_1 aH_0.2 caH_0_1) aH_0.2]) i ∨ (cov K23) i) i ∨ (fun b => blk (Sl a25 r18.2 c26) = some b) i) i) σ15 σm ∧ c26 = r18.2.length, fun ((((a21, (c22, K23)), (a25, (c26, a32))), ((c33, (a38, c39)), (a40, (c41, b42)))) : ((((Option Addr) × ((Nat) × (List Ch))) × ((Option Addr) × ((Nat) × (Option Addr)))) × (((Nat) × ((Option Addr) × (Nat))) × ((Option Addr) × ((Nat) × (Nat)))))) => fun σm => Hp S0 σ0 σm [Ch.own n0 n0 (Sl a38 r35.1.1 c39) r35.1.1, Ch.own n0 n0 (Sl a40 r35.1.2 c41) r35.1.2, Ch.ro 0 (Sl a32 r29.2.2.1 c33) r29.2.2.1, Ch.ro 0 (Sl a21 r18.1 c22) r18.1, Ch.ro 0 (Sl a25 r18.2 c26) r18.2, Ch.bx n0 b3 0 [(I aE_1.1), (I aE_1.2.1), (Sl aaE_1_1_1 aE_1.2.2.1 caE_1_1_1), (I aE_1.2.2.2)] [] [], Ch.bx n0 b1 0 [(Sl aaH_0_0 aH_0.1 caH_0_0), (Sl aaH_0_1 aH_0.2 caH_0_1)] [] [], Ch.ro 0 (Sl aaH_0_0 aH_0.1 caH_0_0) aH_0.1, Ch.ro 0 (Sl aaH_0_1 aH_0.2 caH_0_1) aH_0.2, Ch.ro 0 (Sl aaE_1_1_1 aE_1.2.2.1 caE_1_1_1) aE_1.2.2.1] ∧ Md (fun i => (fun i => (cov []) i ∨ (fun i => (fun i => (cov [Ch.ro 0 (Sl aaH_0_0 aH_0.1 caH_0_0) aH_0.1, Ch.ro 0 (Sl aaH_0_1 aH_0.2 caH_0_1) aH_0.2]) i ∨ (cov K23) i) i ∨ (fun b => blk (Sl a25 r18.2 c26) = some b) i) i) i ∨ (fun i => (cov [Ch.ro 0 (Sl aaE_1_1_1 aE_1.2.2.1 caE_1_1_1) aE_1.2.2.1]) i ∨ (fun b => blk (Sl a32 r29.2.2.1 c33) = some b) i) i) σ15 σm ∧ c26 = r18.2.length ∧ c33 = r29.2.2.1.length, fun ((((a21, (c22, K23)), (a25, (c26, a32))), ((c33, (a38, c39)), (a40, (c41, b42)))) : ((((Option Addr) × ((Nat) × (List Ch))) × ((Option Addr) × ((Nat) × (Option Addr)))) × (((Nat) × ((Option Addr) × (Nat))) × ((Option Addr) × ((Nat) × (Nat)))))) => fun σm => Hp S0 σ0 σm [Ch.bx n0 b42 0 [(.slice none 0 0), (.slice none 0 0)] [] [], Ch.ro 0 (Sl a32 r29.2.2.1 c33) r29.2.2.1, Ch.ro 0 (Sl a21 r18.1 c22) r18.1, Ch.ro 0 (Sl a25 r18.2 c26) r18.2, Ch.bx n0 b3 0 [(I aE_1.1), (I aE_1.2.1), (Sl aaE_1_1_1 aE_1.2.2.1 caE_1_1_1), (I aE_1.2.2.2)] [] [], Ch.bx n0 b1 0 [(Sl aaH_0_0 aH_0.1 caH_0_0), (Sl aaH_0_1 aH_0.2 caH_0_1)] [] [], Ch.ro 0 (Sl aaH_0_0 aH_0.1 caH_0_0) aH_0.1, Ch.ro 0 (Sl aaH_0_1 aH_0.2 caH_0_1) aH_0.2, Ch.ro 0 (Sl aaE_1_1_1 aE_1.2.2.1 caE_1_1_1) aE_1.2.2.1] ∧ Md (fun i => (fun i => (cov []) i ∨ (fun i => (fun i => (cov [Ch.ro 0 (Sl aaH_0_0 aH_0.1 caH_0_0) aH_0.1, Ch.ro 0 (Sl aaH_0_1 aH_0.2 caH_0_1) aH_0.2]) i ∨ (cov K23) i) i ∨ (fun b => blk (Sl a25 r18.2 c26) = some b) i) i) i ∨ (fun i => (cov [Ch.ro 0 (Sl aaE_1_1_1 aE_1.2.2.1 caE_1_1_1) aE_1.2.2.1]) i ∨ (fun b => blk (Sl a32 r29.2.2.1 c33) = some b) i) i) σ15 σm ∧ c26 = r18.2.length ∧ c33 = r29.2.2.1.length, fun ((((a21, (c22, K23)), (a25, (c26, a32))), ((c33, (a38, c39)), (a40, (c41, b42)))) : ((((Option Addr) × ((Nat) × (List Ch))) × ((Option Addr) × ((Nat) × (Option Addr)))) × (((Nat) × ((Option Addr) × (Nat))) × ((Option Addr) × ((Nat) × (Nat)))))) => fun σm => Hp S0 σ0 σm [Ch.bx n0 b42 0 [(.slice none 0 0), (.slice none 0 0)] [] [], Ch.own n0 n0 (Sl a38 r35.1.1 c39) r35.1.1, Ch.own n0 n0 (Sl a40 r35.1.2 c41) r35.1.2, Ch.ro 0 (Sl a32 r29.2.2.1 c33) r29.2.2.1, Ch.ro 0 (Sl a21 r18.1 c22) r18.1, Ch.ro 0 (Sl a25 r18.2 c26) r18.2, Ch.bx n0 b3 0 [(I aE_1.1), (I aE_1.2.1), (Sl aaE_1_1_1 aE_1.2.2.1 caE_1_1_1), (I aE_1.2.2.2)] [] [], Ch.bx n0 b1 0 [(Sl aaH_0_0 aH_0.1 caH_0_0), (Sl aaH_0_1 aH_0.2 caH_0_1)] [] [], Ch.ro 0 (Sl aaH_0_0 aH_0.1 caH_0_0) aH_0.1, Ch.ro 0 (Sl aaH_0_1 aH_0.2 caH_0_1) aH_0.2, Ch.ro 0 (Sl aaE_1_1_1 aE_1.2.2.1 caE_1_1_1) aE_1.2.2.1] ∧ Md (fun i => (fun i => (cov []) i ∨ (fun i => (fun i => (cov [Ch.ro 0 (Sl aaH_0_0 aH_0.1 caH_0_0) aH_0.1, Ch.ro 0 (Sl aaH_0_1 aH_0.2 caH_0_1) aH_0.2]) i ∨ (cov K23) i) i ∨ (fun b => blk (Sl a25 r18.2 c26) = some b) i) i) i ∨ (fun i => (cov [Ch.ro 0 (Sl aaE_1_1_1 aE_1.2.2.1 caE_1_1_1) aE_1.2.2.1]) i ∨ (fun b => blk (Sl a32 r29.2.2.1 c33) = some b) i) i) σ15 σm ∧ c26 = r18.2.length ∧ c33 = r29.2.2.1.length, fun ((((a21, (c22, K23)), (a25, (c26, a32))), ((c33, (a38, c39)), (a40, (c41, b42)))) : ((((Option Addr) × ((Nat) × (List Ch))) × ((Option Addr) × ((Nat) × (Option Addr)))) × (((Nat) × ((Option Addr) × (Nat))) × ((Option Addr) × ((Nat) × (Nat)))))) => fun σm => Hp S0 σ0 σm [Ch.bx n0 b42 0 [(Sl a38 r35.1.1 c39), (Sl a40 r35.1.2 c41)] [] [], Ch.own n0 n0 (Sl a38 r35.1.1 c39) r35.1.1, Ch.own n0 n0 (Sl a40 r35.1.2 c41) r35.1.2, Ch.ro 0 (Sl a32 r29.2.2.1 c33) r29.2.2.1, Ch.ro 0 (Sl a21 r18.1 c22) r18.1, Ch.ro 0 (Sl a25 r18.2 c26) r18.2, Ch.bx n0 b3 0 [(I aE_1.1), (I aE_1.2.1), (Sl aaE_1_1_1 aE_1.2.2.1 caE_1_1_1), (I aE_1.2.2.2)] [] [], Ch.bx n0 b1 0 [(Sl aaH_0_0 aH_0.1 caH_0_0), (Sl aaH_0_1 aH_0.2 caH_0_1)] [] [], Ch.ro 0 (Sl aaH_0_0 aH_0.1 caH_0_0) aH_0.1, Ch.ro 0 (Sl aaH_0_1 aH_0.2 caH_0_1) aH_0.2, Ch.ro 0 (Sl aaE_1_1_1 aE_1.2.2.1 caE_1_1_1) aE_1.2.2.1] ∧ Md (fun i => (fun i => (fun i => (cov []) i ∨ (fun i => (fun i => (cov [Ch.ro 0 (Sl aaH_0_0 aH_0.1 caH_0_0) aH_0.1, Ch.ro 0 (Sl aaH_0_1 aH_0.2 caH_0_1) aH_0.2]) i ∨ (cov K23) i) i ∨ (fun b => blk (Sl a25 r18.2 c26) = some b) i) i) i ∨ (fun i => (cov [Ch.ro 0 (Sl aaE_1_1_1 aE_1.2.2.1 caE_1_1_1) aE_1.2.2.1]) i ∨ (fun b => blk (Sl a32 r29.2.2.1 c33) = some b) i) i) i ∨ (fun i => i = b42) i) σ15 σm ∧ c26 = r18.2.length ∧ c33 = r29.2.2.1.length] [fun ((((a21, (c22, K23)), (a25, (c26, a32))), ((c33, (a38, c39)), (a40, (c41, b42)))) : ((((Option Addr) × ((Nat) × (List Ch))) × ((Option Addr) × ((Nat) × (Option Addr)))) × (((Nat) × ((Option Addr) × (Nat))) × ((Option Addr) × ((Nat) × (Nat)))))) => (.agg #[(Sl aaH_0_0 aH_0.1 caH_0_0), (Sl aaH_0_1 aH_0.2 caH_0_1)]), fun ((((a21, (c22, K23)), (a25, (c26, a32))), ((c33, (a38, c39)), (a40, (c41, b42)))) : ((((Option Addr) × ((Nat) × (List Ch))) × ((Option Addr) × ((Nat) × (Option Addr)))) × (((Nat) × ((Option Addr) × (Nat))) × ((Option Addr) × ((Nat) × (Nat)))))) => (.agg #[(Sl a21 r18.1 c22), (Sl a25 r18.2 c26)]), fun ((((a21, (c22, K23)), (a25, (c26, a32))), ((c33, (a38, c39)), (a40, (c41, b42)))) : ((((Option Addr) × ((Nat) × (List Ch))) × ((Option Addr) × ((Nat) × (Option Addr)))) × (((Nat) × ((Option Addr) × (Nat))) × ((Option Addr) × ((Nat) × (Nat)))))) => (.agg #[(I aE_1.1), (I aE_1.2.1), (Sl aaE_1_1_1 aE_1.2.2.1 caE_1_1_1), (I aE_1.2.2.2)]), fun ((((a21, (c22, K23)), (a25, (c26, a32))), ((c33, (a38, c39)), (a40, (c41, b42)))) : ((((Option Addr) × ((Nat) × (List Ch))) × ((Option Addr) × ((Nat) × (Option Addr)))) × (((Nat) × ((Option Addr) × (Nat))) × ((Option Addr) × ((Nat) × (Nat)))))) => (.agg #[(I r29.1), (I r29.2.1), (Sl a32 r29.2.2.1 c33), (I r29.2.2.2)]), fun ((((a21, (c22, K23)), (a25, (c26, a32))), ((c33, (a38, c39)), (a40, (c41, b42)))) : ((((Option Addr) × ((Nat) × (List Ch))) × ((Option Addr) × ((Nat) × (Option Addr)))) × (((Nat) × ((Option Addr) × (Nat))) × ((Option Addr) × ((Nat) × (Nat)))))) => (I aT_2), fun ((((a21, (c22, K23)), (a25, (c26, a32))), ((c33, (a38, c39)), (a40, (c41, b42)))) : ((((Option Addr) × ((Nat) × (List Ch))) × ((Option Addr) × ((Nat) × (Option Addr)))) × (((Nat) × ((Option Addr) × (Nat))) × ((Option Addr) × ((Nat) × (Nat)))))) => (.tuple #[(.agg #[(Sl a38 r35.1.1 c39), (Sl a40 r35.1.2 c41)]), (B r35.2)]), fun ((((a21, (c22, K23)), (a25, (c26, a32))), ((c33, (a38, c39)), (a40, (c41, b42)))) : ((((Option Addr) × ((Nat) × (List Ch))) × ((Option Addr) × ((Nat) × (Option Addr)))) × (((Nat) × ((Option Addr) × (Nat))) × ((Option Addr) × ((Nat) × (Nat)))))) => (.tuple #[(.agg #[(Sl a38 r35.1.1 c39), (Sl a40 r35.1.2 c41)]), (B r35.2)]), fun ((((a21, (c22, K23)), (a25, (c26, a32))), ((c33, (a38, c39)), (a40, (c41, b42)))) : ((((Option Addr) × ((Nat) × (List Ch))) × ((Option Addr) × ((Nat) × (Option Addr)))) × (((Nat) × ((Option Addr) × (Nat))) × ((Option Addr) × ((Nat) × (Nat)))))) => (.agg #[(Sl a38 r35.1.1 c39), (Sl a40 r35.1.2 c41)]), fun ((((a21, (c22, K23)), (a25, (c26, a32))), ((c33, (a38, c39)), (a40, (c41, b42)))) : ((((Option Addr) × ((Nat) × (List Ch))) × ((Option Addr) × ((Nat) × (Option Addr)))) × (((Nat) × ((Option Addr) × (Nat))) × ((Option Addr) × ((Nat) × (Nat)))))) => (B r35.2), fun ((((a21, (c22, K23)), (a25, (c26, a32))), ((c33, (a38, c39)), (a40, (c41, b42)))) : ((((Option Addr) × ((Nat) × (List Ch))) × ((Option Addr) × ((Nat) × (Option Addr)))) × (((Nat) × ((Option Addr) × (Nat))) × ((Option Addr) × ((Nat) × (Nat)))))) => (pt b42 0), fun ((((a21, (c22, K23)), (a25, (c26, a32))), ((c33, (a38, c39)), (a40, (c41, b42)))) : ((((Option Addr) × ((Nat) × (List Ch))) × ((Option Addr) × ((Nat) × (Option Addr)))) × (((Nat) × ((Option Addr) × (Nat))) × ((Option Addr) × ((Nat) × (Nat)))))) => undef] (((none, (0, [])), (none, (0, none))), ((0, (none, 0)), (none, (0, 0)))) (by kernel_rfl) (by kernel_rfl) ?_ ?_ ?_
   ·intro σm m0
    exact ⟨H.grow (m0.mono fun _ h => h.elim), m0⟩
   ·refine all_cons (by
      refine ⟨?_, ?_⟩
      ·rintro ⟨⟨⟨a21, ⟨c22, K23⟩⟩, ⟨a25, ⟨c26, a32⟩⟩⟩, ⟨⟨c33, ⟨a38, c39⟩⟩, ⟨a40, ⟨c41, b42⟩⟩⟩⟩ ρ σm hJ hoff hdep
       have e3 := look_off (N := 124) (hoff 3 rfl) rfl
       obtain ⟨H, m⟩ := id hJ
       have hc17 := H.cells 1 rfl
       exact dp_v (v := (.agg #[(Sl aaH_0_0 aH_0.1 caH_0_0), (Sl aaH_0_1 aH_0.2 caH_0_1)])) wn (rv_load (cs := [(Sl aaH_0_0 aH_0.1 caH_0_0), (Sl aaH_0_1 aH_0.2 caH_0_1)]) Try.underlying40 rfl ti40 e3 rfl hc17) rfl hJ
      refine ⟨?_, ?_⟩
      ·rintro ⟨⟨⟨a21, ⟨c22, K23⟩⟩, ⟨a25, ⟨c26, a32⟩⟩⟩, ⟨⟨c33, ⟨a38, c39⟩⟩, ⟨a40, ⟨c41, b42⟩⟩⟩⟩ ρ σm hJ hoff hdep
       have e3 := look_off (N := 124) (hoff 3 rfl) rfl
       obtain ⟨H, m⟩ := id hJ
       have hc17 := H.cells 2 rfl
       exact dp_v (v := (.agg #[(Sl aaH_0_0 aH_0.1 caH_0_0), (Sl aaH_0_1 aH_0.2 caH_0_1)])) wn (rv_load (cs := [(Sl aaH_0_0 aH_0.1 caH_0_0), (Sl aaH_0_1 aH_0.2 caH_0_1)]) Try.underlying40 rfl ti40 e3 rfl hc17) rfl hJ
      trivial) ?_
    refine all_cons (by
      refine ⟨?_, ?_⟩
      ·rintro ⟨⟨⟨a21, ⟨c22, K23⟩⟩, ⟨a25, ⟨c26, a32⟩⟩⟩, ⟨⟨c33, ⟨a38, c39⟩⟩, ⟨a40, ⟨c41, b42⟩⟩⟩⟩ ρ σm hJ hoff hdep
       have e30 : look 124 ρ 30 = (.agg #[(Sl aaH_0_0 aH_0.1 caH_0_0), (Sl aaH_0_1 aH_0.2 caH_0_1)]) := hdep 0 rfl rfl 30 rfl
       obtain ⟨H, m⟩ := id hJ
       refine dp_cx wn (cx_call hc20 (ent_f hc20.fn (by show [look 124 ρ 30] = _; rw [e30])) hn0 (show Hp S0 σ0 _ ([Ch.ro 0 (Sl aaH_0_0 aH_0.1 caH_0_0) aH_0.1, Ch.ro 0 (Sl aaH_0_1 aH_0.2 caH_0_1) aH_0.2] ++ [Ch.bx n0 b3 0 [(I aE_1.1), (I aE_1.2.1), (Sl aaE_1_1_1 aE_1.2.2.1 caE_1_1_1), (I aE_1.2.2.2)] [] [], Ch.bx n0 b1 0 [(Sl aaH_0_0 aH_0.1 caH_0_0), (Sl aaH_0_1 aH_0.2 caH_0_1)] [] [], Ch.ro 0 (Sl aaH_0_0 aH_0.1 caH_0_0) aH_0.1, Ch.ro 0 (Sl aaH_0_1 aH_0.2 caH_0_1) aH_0.2, Ch.ro 0 (Sl aaE_1_1_1 aE_1.2.2.1 caE_1_1_1) aE_1.2.2.1]) from (H.sel' [2, 3, 0, 1, 2, 3, 4] rfl rfl))) ?_
       rintro _ σq ⟨_, ⟨a21x, c22x, K23x, a25x, c26x, rfl, rfl, hK24, ht27⟩, H2, m2⟩
       obtain ⟨σr0, hwr0, H2, mr0⟩ := H2.dpPub 0 rfl hK24
       obtain ⟨σr1, hwr1, H2, mr1⟩ := H2.pubSc 1 rfl
       exact ⟨_, (((a21x, (c22x, K23x)), (a25x, (c26x, a32))), ((c33, (a38, c39)), (a40, (c41, b42)))), (hwr1.trans hwr0), rfl, ⟨H2.sel' [1, 0, 2, 3, 4, 5, 6] rfl rfl, m.comp ((m2.comp mr0).comp mr1), ht27⟩, stab [0, 2, 4, 9] (by kernel_rfl) ⟨rfl, rfl, rfl, rfl, trivial⟩⟩
      refine ⟨?_, ?_⟩
      ·rintro ⟨⟨⟨a21, ⟨c22, K23⟩⟩, ⟨a25, ⟨c26, a32⟩⟩⟩, ⟨⟨c33, ⟨a38, c39⟩⟩, ⟨a40, ⟨c41, b42⟩⟩⟩⟩ ρ σm hJ hoff hdep
       have e30 : look 124 ρ 30 = (.agg #[(Sl aaH_0_0 aH_0.1 caH_0_0), (Sl aaH_0_1 aH_0.2 caH_0_1)]) := hdep 0 rfl rfl 30 rfl
       obtain ⟨H, m⟩ := id hJ
       refine dp_cx wn (cx_call hc20 (ent_f hc20.fn (by show [look 124 ρ 30] = _; rw [e30])) hn0 (show Hp S0 σ0 _ ([Ch.ro 0 (Sl aaH_0_0 aH_0.1 caH_0_0) aH_0.1, Ch.ro 0 (Sl aaH_0_1 aH_0.2 caH_0_1) aH_0.2] ++ [Ch.bx n0 b42 0 [(.slice none 0 0), (.slice none 0 0)] [] [], Ch.bx n0 b3 0 [(I aE_1.1), (I aE_1.2.1), (Sl aaE_1_1_1 aE_1.2.2.1 caE_1_1_1), (I aE_1.2.2.2)] [] [], Ch.bx n0 b1 0 [(Sl aaH_0_0 aH_0.1 caH_0_0), (Sl aaH_0_1 aH_0.2 caH_0_1)] [] [], Ch.ro 0 (Sl aaH_0_0 aH_0.1 caH_0_0) aH_0.1, Ch.ro 0 (Sl aaH_0_1 aH_0.2 caH_0_1) aH_0.2, Ch.ro 0 (Sl aaE_1_1_1 aE_1.2.2.1 caE_1_1_1) aE_1.2.2.1]) from (H.sel' [3, 4, 0, 1, 2, 3, 4, 5] rfl rfl))) ?_
       rintro _ σq ⟨_, ⟨a21x, c22x, K23x, a25x, c26x, rfl, rfl, hK24, ht27⟩, H2, m2⟩
       obtain ⟨σr0, hwr0, H2, mr0⟩ := H2.dpPub 0 rfl hK24
       obtain ⟨σr1, hwr1, H2, mr1⟩ := H2.pubSc 1 rfl
       exact ⟨_, (((a21x, (c22x, K23x)), (a25x, (c26x, a32))), ((c33, (a38, c39)), (a40, (c41, b42)))), (hwr1.trans hwr0), rfl, ⟨H2.sel' [2, 1, 0, 3, 4, 5, 6, 7] rfl rfl, m.comp ((m2.comp mr0).comp mr1), ht27⟩, stab [0, 2, 4, 9] (by kernel_rfl) ⟨rfl, rfl, rfl, rfl, trivial⟩⟩
      trivial) ?_
    refine all_cons (by
      refine ⟨?_, ?_⟩
      ·rintro ⟨⟨⟨a21, ⟨c22, K23⟩⟩, ⟨a25, ⟨c26, a32⟩⟩⟩, ⟨⟨c33, ⟨a38, c39⟩⟩, ⟨a40, ⟨c41, b42⟩⟩⟩⟩ ρ σm hJ hoff hdep
       have e4 := look_off (N := 124) (hoff 4 rfl) rfl
       obtain ⟨H, m⟩ := id hJ
       have hc28 := H.cells 0 rfl
       exact dp_v (v := (.agg #[(I aE_1.1), (I aE_1.2.1), (Sl aaE_1_1_1 aE_1.2.2.1 caE_1_1_1), (I aE_1.2.2.2)])) wn (rv_load (cs := [(I aE_1.1), (I aE_1.2.1), (Sl aaE_1_1_1 aE_1.2.2.1 caE_1_1_1), (I aE_1.2.2.2)]) Try.underlying51 rfl ti51 e4 rfl hc28) rfl hJ
      refine ⟨?_, ?_⟩
      ·rintro ⟨⟨⟨a21, ⟨c22, K23⟩⟩, ⟨a25, ⟨c26, a32⟩⟩⟩, ⟨⟨c33, ⟨a38, c39⟩⟩, ⟨a40, ⟨c41, b42⟩⟩⟩⟩ ρ σm hJ hoff hdep
       have e4 := look_off (N := 124) (hoff 4 rfl) rfl
       obtain ⟨H, m, ht27⟩ := id hJ
       have hc28 := H.cells 2 rfl
       exact dp_v (v := (.agg #[(I aE_1.1), (I aE_1.2.1), (Sl aaE_1_1_1 aE_1.2.2.1 caE_1_1_1), (I aE_1.2.2.2)])) wn (rv_load (cs := [(I aE_1.1), (I aE_1.2.1), (Sl aaE_1_1_1 aE_1.2.2.1 caE_1_1_1), (I aE_1.2.2.2)]) Try.underlying51 rfl ti51 e4 rfl hc28) rfl hJ
      refine ⟨?_, ?_⟩
      ·rintro ⟨⟨⟨a21, ⟨c22, K23⟩⟩, ⟨a25, ⟨c26, a32⟩⟩⟩, ⟨⟨c33, ⟨a38, c39⟩⟩, ⟨a40, ⟨c41, b42⟩⟩⟩⟩ ρ σm hJ hoff hdep
       have e4 := look_off (N := 124) (hoff 4 rfl) rfl
       obtain ⟨H, m⟩ := id hJ
       have hc28 := H.cells 1 rfl
       exact dp_v (v := (.agg #[(I aE_1.1), (I aE_1.2.1), (Sl aaE_1_1_1 aE_1.2.2.1 caE_1_1_1), (I aE_1.2.2.2)])) wn (rv_load (cs := [(I aE_1.1), (I aE_1.2.1), (Sl aaE_1_1_1 aE_1.2.2.1 caE_1_1_1), (I aE_1.2.2.2)]) Try.underlying51 rfl ti51 e4 rfl hc28) rfl hJ
      refine ⟨?_, ?_⟩
      ·rintro ⟨⟨⟨a21, ⟨c22, K23⟩⟩, ⟨a25, ⟨c26, a32⟩⟩⟩, ⟨⟨c33, ⟨a38, c39⟩⟩, ⟨a40, ⟨c41, b42⟩⟩⟩⟩ ρ σm hJ hoff hdep
       have e4 := look_off (N := 124) (hoff 4 rfl) rfl
       obtain ⟨H, m, ht27⟩ := id hJ
       have hc28 := H.cells 3 rfl
       exact dp_v (v := (.agg #[(I aE_1.1), (I aE_1.2.1), (Sl aaE_1_1_1 aE_1.2.2.1 caE_1_1_1), (I aE_1.2.2.2)])) wn (rv_load (cs := [(I aE_1.1), (I aE_1.2.1), (Sl aaE_1_1_1 aE_1.2.2.1 caE_1_1_1), (I aE_1.2.2.2)]) Try.underlying51 rfl ti51 e4 rfl hc28) rfl hJ
      trivial) ?_
    refine all_cons (by
      refine ⟨?_, ?_⟩
      ·rintro ⟨⟨⟨a21, ⟨c22, K23⟩⟩, ⟨a25, ⟨c26, a32⟩⟩⟩, ⟨⟨c33, ⟨a38, c39⟩⟩, ⟨a40, ⟨c41, b42⟩⟩⟩⟩ ρ σm hJ hoff hdep
       have e32 : look 124 ρ 32 = (.agg #[(I aE_1.1), (I aE_1.2.1), (Sl aaE_1_1_1 aE_1.2.2.1 caE_1_1_1), (I aE_1.2.2.2)]) := hdep 2 rfl rfl 32 rfl
       obtain ⟨H, m, ht27⟩ := id hJ
       refine dp_cx wn (cx_call hc31 (ent_f hc31.fn (by show [look 124 ρ 32] = _; rw [e32])) hn0 (show Hp S0 σ0 _ ([Ch.ro 0 (Sl aaE_1_1_1 aE_1.2.2.1 caE_1_1_1) aE_1.2.2.1] ++ [Ch.ro 0 (Sl a21 r18.1 c22) r18.1, Ch.ro 0 (Sl a25 r18.2 c26) r18.2, Ch.bx n0 b3 0 [(I aE_1.1), (I aE_1.2.1), (Sl aaE_1_1_1 aE_1.2.2.1 caE_1_1_1), (I aE_1.2.2.2)] [] [], Ch.bx n0 b1 0 [(Sl aaH_0_0 aH_0.1 caH_0_0), (Sl aaH_0_1 aH_0.2 caH_0_1)] [] [], Ch.ro 0 (Sl aaH_0_0 aH_0.1 caH_0_0) aH_0.1, Ch.ro 0 (Sl aaH_0_1 aH_0.2 caH_0_1) aH_0.2, Ch.ro 0 (Sl aaE_1_1_1 aE_1.2.2.1 caE_1_1_1) aE_1.2.2.1]) from (H.sel' [6, 0, 1, 2, 3, 4, 5, 6] rfl rfl))) ?_
       rintro _ σq ⟨_, ⟨a32x, c33x, rfl, rfl, ht34⟩, H2, m2⟩
       obtain ⟨σr0, hwr0, H2, mr0⟩ := H2.pubSc 0 rfl
       exact ⟨_, (((a21, (c22, K23)), (a25, (c26, a32x))), ((c33x, (a38, c39)), (a40, (c41, b42)))), hwr0, rfl, ⟨H2.sel' [0, 1, 2, 3, 4, 5, 6, 7] rfl rfl, m.comp (m2.comp mr0), ht27, ht34⟩, stab [0, 1, 2, 4, 9] (by kernel_rfl) ⟨rfl, rfl, rfl, rfl, rfl, trivial⟩⟩
      refine ⟨?_, ?_⟩
      ·rintro ⟨⟨⟨a21, ⟨c22, K23⟩⟩, ⟨a25, ⟨c26, a32⟩⟩⟩, ⟨⟨c33, ⟨a38, c39⟩⟩, ⟨a40, ⟨c41, b42⟩⟩⟩⟩ ρ σm hJ hoff hdep
       have e32 : look 124 ρ 32 = (.agg #[(I aE_1.1), (I aE_1.2.1), (Sl aaE_1_1_1 aE_1.2.2.1 caE_1_1_1), (I aE_1.2.2.2)]) := hdep 2 rfl rfl 32 rfl
       obtain ⟨H, m, ht27⟩ := id hJ
       refine dp_cx wn (cx_call hc31 (ent_f hc31.fn (by show [look 124 ρ 32] = _; rw [e32])) hn0 (show Hp S0 σ0 _ ([Ch.ro 0 (Sl aaE_1_1_1 aE_1.2.2.1 caE_1_1_1) aE_1.2.2.1] ++ [Ch.bx n0 b42 0 [(.slice none 0 0), (.slice none 0 0)] [] [], Ch.ro 0 (Sl a21 r18.1 c22) r18.1, Ch.ro 0 (Sl a25 r18.2 c26) r18.2, Ch.bx n0 b3 0 [(I aE_1.1), (I aE_1.2.1), (Sl aaE_1_1_1 aE_1.2.2.1 caE_1_1_1), (I aE_1.2.2.2)] [] [], Ch.bx n0 b1 0 [(Sl aaH_0_0 aH_0.1 caH_0_0), (Sl aaH_0_1 aH_0.2 caH_0_1)] [] [], Ch.ro 0 (Sl aaH_0_0 aH_0.1 caH_0_0) aH_0.1, Ch.ro 0 (Sl aaH_0_1 aH_0.2 caH_0_1) aH_0.2, Ch.ro 0 (Sl aaE_1_1_1 aE_1.2.2.1 caE_1_1_1) aE_1.2.2.1]) from (H.sel' [7, 0, 1, 2, 3, 4, 5, 6, 7] rfl rfl))) ?_
       rintro _ σq ⟨_, ⟨a32x, c33x, rfl, rfl, ht34⟩, H2, m2⟩
       obtain ⟨σr0, hwr0, H2, mr0⟩ := H2.pubSc 0 rfl
       exact ⟨_, (((a21, (c22, K23)), (a25, (c26, a32x))), ((c33x, (a38, c39)), (a40, (c41, b42)))), hwr0, rfl, ⟨H2.sel' [1, 0, 2, 3, 4, 5, 6, 7, 8] rfl rfl, m.comp (m2.comp mr0), ht27, ht34⟩, stab [0, 1, 2, 4, 9] (by kernel_rfl) ⟨rfl, rfl, rfl, rfl, rfl, trivial⟩⟩
      trivial) ?_
    refine ac rfl (by
      intro k; rintro ⟨⟨⟨a21, ⟨c22, K23⟩⟩, ⟨a25, ⟨c26, a32⟩⟩⟩, ⟨⟨c33, ⟨a38, c39⟩⟩, ⟨a40, ⟨c41, b42⟩⟩⟩⟩ ρ σm hJ hoff hdep
      have e2 := look_off (N := 124) (hoff 2 rfl) rfl
      exact dp_v (v := (I aT_2)) wn (rv_move e2) rfl hJ) ?_
    refine all_cons (by
      refine ⟨?_, ?_⟩
      ·rintro ⟨⟨⟨a21, ⟨c22, K23⟩⟩, ⟨a25, ⟨c26, a32⟩⟩⟩, ⟨⟨c33, ⟨a38, c39⟩⟩, ⟨a40, ⟨c41, b42⟩⟩⟩⟩ ρ σm hJ hoff hdep
       have e31 : look 124 ρ 31 = (.agg #[(Sl a21 r18.1 c22), (Sl a25 r18.2 c26)]) := hdep 1 rfl rfl 31 rfl
       have e33 : look 124 ρ 33 = (.agg #[(I r29.1), (I r29.2.1), (Sl a32 r29.2.2.1 c33), (I r29.2.2.2)]) := hdep 3 rfl rfl 33 rfl
       have e34 : look 124 ρ 34 = (I aT_2) := hdep 4 rfl rfl 34 rfl
       obtain ⟨H, m, ht27, ht34⟩ := id hJ
       refine dp_cx wn (cx_call (hc37 a21 c22 a25 c26 a32 c33) (ent_f (hc37 a21 c22 a25 c26 a32 c33).fn (by show [look 124 ρ 31, look 124 ρ 33, look 124 ρ 34] = _; rw [e31, e33, e34])) hn0 (show Hp S0 σ0 _ ([Ch.ro 0 (Sl a21 r18.1 c22) r18.1, Ch.ro 0 (Sl a25 r18.2 c26) r18.2, Ch.ro 0 (Sl a32 r29.2.2.1 c33) r29.2.2.1] ++ [Ch.ro 0 (Sl a32 r29.2.2.1 c33) r29.2.2.1, Ch.ro 0 (Sl a21 r18.1 c22) r18.1, Ch.ro 0 (Sl a25 r18.2 c26) r18.2, Ch.bx n0 b3 0 [(I aE_1.1), (I aE_1.2.1), (Sl aaE_1_1_1 aE_1.2.2.1 caE_1_1_1), (I aE_1.2.2.2)] [] [], Ch.bx n0 b1 0 [(Sl aaH_0_0 aH_0.1 caH_0_0), (Sl aaH_0_1 aH_0.2 caH_0_1)] [] [], Ch.ro 0 (Sl aaH_0_0 aH_0.1 caH_0_0) aH_0.1, Ch.ro 0 (Sl aaH_0_1 aH_0.2 caH_0_1) aH_0.2, Ch.ro 0 (Sl aaE_1_1_1 aE_1.2.2.1 caE_1_1_1) aE_1.2.2.1]) from (H.sel' [1, 2, 0, 0, 1, 2, 3, 4, 5, 6, 7] rfl rfl))) ?_
       rintro _ σq ⟨_, ⟨a38x, c39x, a40x, c41x, rfl, rfl⟩, H2, m2⟩
       exact ⟨_, (((a21, (c22, K23)), (a25, (c26, a32))), ((c33, (a38x, c39x)), (a40x, (c41x, b42)))), rfl, rfl, ⟨H2.sel' [0, 1, 2, 3, 4, 5, 6, 7, 8, 9] rfl rfl, m.comp0 (m2.mono (fun i h => by simp [cov, Ch.ro] at h)), ht27, ht34⟩, stab [0, 1, 2, 3, 4, 9] (by kernel_rfl) ⟨rfl, rfl, rfl, rfl, rfl, rfl, trivial⟩⟩
      refine ⟨?_, ?_⟩
      ·rintro ⟨⟨⟨a21, ⟨c22, K23⟩⟩, ⟨a25, ⟨c26, a32⟩⟩⟩, ⟨⟨c33, ⟨a38, c39⟩⟩, ⟨a40, ⟨c41, b42⟩⟩⟩⟩ ρ σm hJ hoff hdep
       have e31 : look 124 ρ 31 = (.agg #[(Sl a21 r18.1 c22), (Sl a25 r18.2 c26)]) := hdep 1 rfl rfl 31 rfl
       have e33 : look 124 ρ 33 = (.agg #[(I r29.1), (I r29.2.1), (Sl a32 r29.2.2.1 c33), (I r29.2.2.2)]) := hdep 3 rfl rfl 33 rfl
       have e34 : look 124 ρ 34 = (I aT_2) := hdep 4 rfl rfl 34 rfl
       obtain ⟨H, m, ht27, ht34⟩ := id hJ
       refine dp_cx wn (cx_call (hc37 a21 c22 a25 c26 a32 c33) (ent_f (hc37 a21 c22 a25 c26 a32 c33).fn (by show [look 124 ρ 31, look 124 ρ 33, look 124 ρ 34] = _; rw [e31, e33, e34])) hn0 (show Hp S0 σ0 _ ([Ch.ro 0 (Sl a21 r18.1 c22) r18.1, Ch.ro 0 (Sl a25 r18.2 c26) r18.2, Ch.ro 0 (Sl a32 r29.2.2.1 c33) r29.2.2.1] ++ [Ch.bx n0 b42 0 [(.slice none 0 0), (.slice none 0 0)] [] [], Ch.ro 0 (Sl a32 r29.2.2.1 c33) r29.2.2.1, Ch.ro 0 (Sl a21 r18.1 c22) r18.1, Ch.ro 0 (Sl a25 r18.2 c26) r18.2, Ch.bx n0 b3 0 [(I aE_1.1), (I aE_1.2.1), (Sl aaE_1_1_1 aE_1.2.2.1 caE_1_1_1), (I aE_1.2.2.2)] [] [], Ch.bx n0 b1 0 [(Sl aaH_0_0 aH_0.1 caH_0_0), (Sl aaH_0_1 aH_0.2 caH_0_1)] [] [], Ch.ro 0 (Sl aaH_0_0 aH_0.1 caH_0_0) aH_0.1, Ch.ro 0 (Sl aaH_0_1 aH_0.2 caH_0_1) aH_0.2, Ch.ro 0 (Sl aaE_1_1_1 aE_1.2.2.1 caE_1_1_1) aE_1.2.2.1]) from (H.sel' [2, 3, 1, 0, 1, 2, 3, 4, 5, 6, 7, 8] rfl rfl))) ?_
       rintro _ σq ⟨_, ⟨a38x, c39x, a40x, c41x, rfl, rfl⟩, H2, m2⟩
       exact ⟨_, (((a21, (c22, K23)), (a25, (c26, a32))), ((c33, (a38x, c39x)), (a40x, (c41x, b42)))), rfl, rfl, ⟨H2.sel' [2, 0, 1, 3, 4, 5, 6, 7, 8, 9, 10] rfl rfl, m.comp0 (m2.mono (fun i h => by simp [cov, Ch.ro] at h)), ht27, ht34⟩, stab [0, 1, 2, 3, 4, 9] (by kernel_rfl) ⟨rfl, rfl, rfl, rfl, rfl, rfl, trivial⟩⟩
      trivial) ?_
    refine ac rfl (by
      intro k; rintro ⟨⟨⟨a21, ⟨c22, K23⟩⟩, ⟨a25, ⟨c26, a32⟩⟩⟩, ⟨⟨c33, ⟨a38, c39⟩⟩, ⟨a40, ⟨c41, b42⟩⟩⟩⟩ ρ σm hJ hoff hdep
      have e35 := hdep 5 rfl rfl 35 rfl
      exact dp_v (v := (.tuple #[(.agg #[(Sl a38 r35.1.1 c39), (Sl a40 r35.1.2 c41)]), (B r35.2)])) wn (rv_move e35) rfl hJ) ?_
    refine ac rfl (by
      intro k; rintro ⟨⟨⟨a21, ⟨c22, K23⟩⟩, ⟨a25, ⟨c26, a32⟩⟩⟩, ⟨⟨c33, ⟨a38, c39⟩⟩, ⟨a40, ⟨c41, b42⟩⟩⟩⟩ ρ σm hJ hoff hdep
      have e29 := hdep 6 rfl rfl 29 rfl
      exact dp_v (v := (.agg #[(Sl a38 r35.1.1 c39), (Sl a40 r35.1.2 c41)])) wn (rv_extract e29 rfl) rfl hJ) ?_
    refine ac rfl (by
      intro k; rintro ⟨⟨⟨a21, ⟨c22, K23⟩⟩, ⟨a25, ⟨c26, a32⟩⟩⟩, ⟨⟨c33, ⟨a38, c39⟩⟩, ⟨a40, ⟨c41, b42⟩⟩⟩⟩ ρ σm hJ hoff hdep
      have e29 := hdep 6 rfl rfl 29 rfl
      exact dp_v (v := (B r35.2)) wn (rv_extract e29 rfl) rfl hJ) ?_
    refine all_cons (by
      refine ⟨?_, ?_⟩
      ·rintro ⟨⟨⟨a21, ⟨c22, K23⟩⟩, ⟨a25, ⟨c26, a32⟩⟩⟩, ⟨⟨c33, ⟨a38, c39⟩⟩, ⟨a40, ⟨c41, b42⟩⟩⟩⟩ ρ σm hJ hoff hdep
       obtain ⟨H, m⟩ := id hJ
       refine dp_ex wn (ex_alloc (cs := [(.slice none 0 0), (.slice none 0 0)]) H hn0 ti26 rfl) ?_
       rintro _ σq ⟨b42x, rfl, H2, m2⟩
       exact ⟨_, (((a21, (c22, K23)), (a25, (c26, a32))), ((c33, (a38, c39)), (a40, (c41, b42x)))), rfl, rfl, ⟨H2.sel' [0, 1, 2, 3, 4, 5] rfl rfl, m.comp0 m2⟩, stab [0, 1, 2, 3, 4, 5, 6, 7, 8] (by kernel_rfl) ⟨rfl, rfl, rfl, rfl, rfl, rfl, rfl, rfl, rfl, trivial⟩⟩
      refine ⟨?_, ?_⟩
      ·rintro ⟨⟨⟨a21, ⟨c22, K23⟩⟩, ⟨a25, ⟨c26, a32⟩⟩⟩, ⟨⟨c33, ⟨a38, c39⟩⟩, ⟨a40, ⟨c41, b42⟩⟩⟩⟩ ρ σm hJ hoff hdep
       obtain ⟨H, m, ht27⟩ := id hJ
       refine dp_ex wn (ex_alloc (cs := [(.slice none 0 0), (.slice none 0 0)]) H hn0 ti26 rfl) ?_
       rintro _ σq ⟨b42x, rfl, H2, m2⟩
       exact ⟨_, (((a21, (c22, K23)), (a25, (c26, a32))), ((c33, (a38, c39)), (a40, (c41, b42x)))), rfl, rfl, ⟨H2.sel' [0, 1, 2, 3, 4, 5, 6, 7] rfl rfl, m.comp0 m2, ht27⟩, stab [0, 1, 2, 3, 4, 5, 6, 7, 8] (by kernel_rfl) ⟨rfl, rfl, rfl, rfl, rfl, rfl, rfl, rfl, rfl, trivial⟩⟩
      refine ⟨?_, ?_⟩
      ·rintro ⟨⟨⟨a21, ⟨c22, K23⟩⟩, ⟨a25, ⟨c26, a32⟩⟩⟩, ⟨⟨c33, ⟨a38, c39⟩⟩, ⟨a40, ⟨c41, b42⟩⟩⟩⟩ ρ σm hJ hoff hdep
       obtain ⟨H, m, ht27, ht34⟩ := id hJ
       refine dp_ex wn (ex_alloc (cs := [(.slice none 0 0), (.slice none 0 0)]) H hn0 ti26 rfl) ?_
       rintro _ σq ⟨b42x, rfl, H2, m2⟩
       exact ⟨_, (((a21, (c22, K23)), (a25, (c26, a32))), ((c33, (a38, c39)), (a40, (c41, b42x)))), rfl, rfl, ⟨H2.sel' [0, 1, 2, 3, 4, 5, 6, 7, 8] rfl rfl, m.comp0 m2, ht27, ht34⟩, stab [0, 1, 2, 3, 4, 5, 6, 7, 8] (by kernel_rfl) ⟨rfl, rfl, rfl, rfl, rfl, rfl, rfl, rfl, rfl, trivial⟩⟩
      refine ⟨?_, ?_⟩
      ·rintro ⟨⟨⟨a21, ⟨c22, K23⟩⟩, ⟨a25, ⟨c26, a32⟩⟩⟩, ⟨⟨c33, ⟨a38, c39⟩⟩, ⟨a40, ⟨c41, b42⟩⟩⟩⟩ ρ σm hJ hoff hdep
       obtain ⟨H, m, ht27, ht34⟩ := id hJ
       refine dp_ex wn (ex_alloc (cs := [(.slice none 0 0), (.slice none 0 0)]) H hn0 ti26 rfl) ?_
       rintro _ σq ⟨b42x, rfl, H2, m2⟩
       exact ⟨_, (((a21, (c22, K23)), (a25, (c26, a32))), ((c33, (a38, c39)), (a40, (c41, b42x)))), rfl, rfl, ⟨H2.sel' [0, 1, 2, 3, 4, 5, 6, 7, 8, 9, 10] rfl rfl, m.comp0 m2, ht27, ht34⟩, stab [0, 1, 2, 3, 4, 5, 6, 7, 8] (by kernel_rfl) ⟨rfl, rfl, rfl, rfl, rfl, rfl, rfl, rfl, rfl, trivial⟩⟩
      trivial) ?_
    refine all_cons (by
      refine ⟨?_, ?_⟩
      ·rintro ⟨⟨⟨a21, ⟨c22, K23⟩⟩, ⟨a25, ⟨c26, a32⟩⟩⟩, ⟨⟨c33, ⟨a38, c39⟩⟩, ⟨a40, ⟨c41, b42⟩⟩⟩⟩ ρ σm hJ hoff hdep
       have e8 := hdep 9 rfl rfl 8 rfl
       have e36 := hdep 7 rfl rfl 36 rfl
       obtain ⟨H, m, ht27, ht34⟩ := id hJ
       refine dp_exS wn rfl (ex_store_box (k := 0) (cs := [(.slice none 0 0), (.slice none 0 0)]) (vs := [(Sl a38 r35.1.1 c39), (Sl a40 r35.1.2 c41)]) (cs' := [(Sl a38 r35.1.1 c39), (Sl a40 r35.1.2 c41)]) H (i := 0) rfl ti26 e8 rfl e36 rfl rfl (Nat.le_of_ble_eq_true rfl) (by simp [plain]) rfl) ?_
       rintro σq ⟨H2, m2⟩
       exact ⟨_, (((a21, (c22, K23)), (a25, (c26, a32))), ((c33, (a38, c39)), (a40, (c41, b42)))), rfl, ⟨H2.sel' [0, 1, 2, 3, 4, 5, 6, 7, 8, 9, 10] rfl rfl, m.comp m2, ht27, ht34⟩, stab [0, 1, 2, 3, 4, 5, 6, 7, 8, 9] (by kernel_rfl) ⟨rfl, rfl, rfl, rfl, rfl, rfl, rfl, rfl, rfl, rfl, trivial⟩⟩
      trivial) ?_
    exact all_nil
   ·rintro ⟨⟨⟨a21, ⟨c22, K23⟩⟩, ⟨a25, ⟨c26, a32⟩⟩⟩, ⟨⟨c33, ⟨a38, c39⟩⟩, ⟨a40, ⟨c41, b42⟩⟩⟩⟩ ρ σ43 hJ hoff hrel
    have e2 := look_off (N := 124) (hoff 2 rfl) rfl
    have e3 := look_off (N := 124) (hoff 3 rfl) rfl
    have e4 := look_off (N := 124) (hoff 4 rfl) rfl
    have e8 := hrel 9 rfl 8 rfl
    have e37 := hrel 8 rfl 37 rfl
    obtain ⟨H, -, ht27, ht34⟩ := (show Hp S0 σ0 σ43 [Ch.bx n0 b42 0 [(Sl a38 r35.1.1 c39), (Sl a40 r35.1.2 c41)] [] [], Ch.own n0 n0 (Sl a38 r35.1.1 c39) r35.1.1, Ch.own n0 n0 (Sl a40 r35.1.2 c41) r35.1.2, Ch.ro 0 (Sl a32 r29.2.2.1 c33) r29.2.2.1, Ch.ro 0 (Sl a21 r18.1 c22) r18.1, Ch.ro 0 (Sl a25 r18.2 c26) r18.2, Ch.bx n0 b3 0 [(I aE_1.1), (I aE_1.2.1), (Sl aaE_1_1_1 aE_1.2.2.1 caE_1_1_1), (I aE_1.2.2.2)] [] [], Ch.bx n0 b1 0 [(Sl aaH_0_0 aH_0.1 caH_0_0), (Sl aaH_0_1 aH_0.2 caH_0_1)] [] [], Ch.ro 0 (Sl aaH_0_0 aH_0.1 caH_0_0) aH_0.1, Ch.ro 0 (Sl aaH_0_1 aH_0.2 caH_0_1) aH_0.2, Ch.ro 0 (Sl aaE_1_1_1 aE_1.2.2.1 caE_1_1_1) aE_1.2.2.1] ∧ Md (fun i => (fun i => (fun i => (cov []) i ∨ (fun i => (fun i => (cov [Ch.ro 0 (Sl aaH_0_0 aH_0.1 caH_0_0) aH_0.1, Ch.ro 0 (Sl aaH_0_1 aH_0.2 caH_0_1) aH_0.2]) i ∨ (cov K23) i) i ∨ (fun b => blk (Sl a25 r18.2 c26) = some b) i) i) i ∨ (fun i => (cov [Ch.ro 0 (Sl aaE_1_1_1 aE_1.2.2.1 caE_1_1_1) aE_1.2.2.1]) i ∨ (fun b => blk (Sl a32 r29.2.2.1 c33) = some b) i) i) i ∨ (fun i => i = b42) i) σ15 σ43 ∧ c26 = r18.2.length ∧ c33 = r29.2.2.1.length from hJ)
    clear hJ Hs
    rw [fr_lookL (L := [(2, (I aT_2)), (3, (pt b1 0)), (4, (pt b3 0)), (8, (pt b42 0)), (37, (B r35.2))]) ⟨e2, e3, e4, e8, e37, trivial⟩]
    clear hoff hrel e2 e3 e4 e8 e37
    refine st (v := (B r35.2)) (rv_assign rfl) ?_
    refine w_end ?_
    refine q_then ?_
    refine c_seq ?_
    refine rg ?_
    have hc44 := H.cells 7 rfl
    refine st (v := (.agg #[(Sl aaH_0_0 aH_0.1 caH_0_0), (Sl aaH_0_1 aH_0.2 caH_0_1)])) (rv_load (cs := [(Sl aaH_0_0 aH_0.1 caH_0_0), (Sl aaH_0_1 aH_0.2 caH_0_1)]) Try.underlying40 rfl ti40 rfl rfl hc44) ?_
    obtain ⟨r45, hx46, h'⟩ := bind_some h
    clear h
    have h := h'; clear h'
    have hc47 := c_laws_toHistoryD (aa_0_0 := aaH_0_0) (ca_0_0 := caH_0_0) (aa_0_1 := aaH_0_1) (ca_0_1 := caH_0_1) hx46
    refine st_call (cx_call hc47 (ent_f hc47.fn rfl) hn0 (show Hp S0 σ0 _ ([Ch.ro 0 (Sl aaH_0_0 aH_0.1 caH_0_0) aH_0.1, Ch.ro 0 (Sl aaH_0_1 aH_0.2 caH_0_1) aH_0.2] ++ [Ch.bx n0 b42 0 [(Sl a38 r35.1.1 c39), (Sl a40 r35.1.2 c41)] [] [], Ch.own n0 n0 (Sl a38 r35.1.1 c39) r35.1.1, Ch.own n0 n0 (Sl a40 r35.1.2 c41) r35.1.2, Ch.ro 0 (Sl a32 r29.2.2.1 c33) r29.2.2.1, Ch.ro 0 (Sl a21 r18.1 c22) r18.1, Ch.ro 0 (Sl a25 r18.2 c26) r18.2, Ch.bx n0 b3 0 [(I aE_1.1), (I aE_1.2.1), (Sl aaE_1_1_1 aE_1.2.2.1 caE_1_1_1), (I aE_1.2.2.2)] [] [], Ch.bx n0 b1 0 [(Sl aaH_0_0 aH_0.1 caH_0_0), (Sl aaH_0_1 aH_0.2 caH_0_1)] [] [], Ch.ro 0 (Sl aaH_0_0 aH_0.1 caH_0_0) aH_0.1, Ch.ro 0 (Sl aaH_0_1 aH_0.2 caH_0_1) aH_0.2, Ch.ro 0 (Sl aaE_1_1_1 aE_1.2.2.1 caE_1_1_1) aE_1.2.2.1]) from (H.sel' [8, 9, 0, 1, 2, 3, 4, 5, 6, 7, 8, 9, 10] rfl rfl))) wn ?_
    rintro _ σ55 ⟨_, ⟨a48, c49, K50, a52, c53, rfl, rfl, hK51, ht54⟩, H, -⟩
    replace H : Hp S0 σ0 σ55 [Ch.big K50, Ch.own n0 n0 (Sl a52 r45.2 c53) r45.2, Ch.bx n0 b42 0 [(Sl a38 r35.1.1 c39), (Sl a40 r35.1.2 c41)] [] [], Ch.own n0 n0 (Sl a38 r35.1.1 c39) r35.1.1, Ch.own n0 n0 (Sl a40 r35.1.2 c41) r35.1.2, Ch.ro 0 (Sl a32 r29.2.2.1 c33) r29.2.2.1, Ch.ro 0 (Sl a21 r18.1 c22) r18.1, Ch.ro 0 (Sl a25 r18.2 c26) r18.2, Ch.bx n0 b3 0 [(I aE_1.1), (I aE_1.2.1), (Sl aaE_1_1_1 aE_1.2.2.1 caE_1_1_1), (I aE_1.2.2.2)] [] [], Ch.bx n0 b1 0 [(Sl aaH_0_0 aH_0.1 caH_0_0), (Sl aaH_0_1 aH_0.2 caH_0_1)] [] [], Ch.ro 0 (Sl aaH_0_0 aH_0.1 caH_0_0) aH_0.1, Ch.ro 0 (Sl aaH_0_1 aH_0.2 caH_0_1) aH_0.2, Ch.ro 0 (Sl aaE_1_1_1 aE_1.2.2.1 caE_1_1_1) aE_1.2.2.1] := H
    replace H : Hp S0 σ0 σ55 [Ch.big K50, Ch.own n0 n0 (Sl a52 r45.2 c53) r45.2, Ch.bx n0 b42 0 [(Sl a38 r35.1.1 c39), (Sl a40 r35.1.2 c41)] [] [], Ch.own n0 n0 (Sl a38 r35.1.1 c39) r35.1.1, Ch.own n0 n0 (Sl a40 r35.1.2 c41) r35.1.2, Ch.bx n0 b3 0 [(I aE_1.1), (I aE_1.2.1), (Sl aaE_1_1_1 aE_1.2.2.1 caE_1_1_1), (I aE_1.2.2.2)] [] [], Ch.bx n0 b1 0 [(Sl aaH_0_0 aH_0.1 caH_0_0), (Sl aaH_0_1 aH_0.2 caH_0_1)] [] [], Ch.ro 0 (Sl aaH_0_0 aH_0.1 caH_0_0) aH_0.1, Ch.ro 0 (Sl aaH_0_1 aH_0.2 caH_0_1) aH_0.2, Ch.ro 0 (Sl aaE_1_1_1 aE_1.2.2.1 caE_1_1_1) aE_1.2.2.1] := H.sel' [0, 1, 2, 3, 4, 8, 9, 10, 11, 12] rfl rfl
    refine st_ex (ex_alloc (cs := [(.slice none 0 0), (.slice none 0 0)]) H hn0 ti26 rfl) wn ?_
    rintro _ σ57 ⟨b56, rfl, H, -⟩
    refine st_exS (ex_store_box (k := 0) (cs := [(.slice none 0 0), (.slice none 0 0)]) (vs := [(Sl a48 r45.1 c49), (Sl a52 r45.2 c53)]) (cs' := [(Sl a48 r45.1 c49), (Sl a52 r45.2 c53)]) H (i := 0) rfl ti26 rfl rfl rfl rfl rfl (Nat.le_of_ble_eq_true rfl) (by simp [plain]) rfl) wn ?_
    rintro σ58 ⟨H, -⟩
    refine w_end ?_
    refine q_then ?_
    refine c_seq ?_
    refine rg ?_
    have hc59 := H.cells 6 rfl
    refine st (v := (.agg #[(I aE_1.1), (I aE_1.2.1), (Sl aaE_1_1_1 aE_1.2.2.1 caE_1_1_1), (I aE_1.2.2.2)])) (rv_load (cs := [(I aE_1.1), (I aE_1.2.1), (Sl aaE_1_1_1 aE_1.2.2.1 caE_1_1_1), (I aE_1.2.2.2)]) Try.underlying51 rfl ti51 rfl rfl hc59) ?_
    obtain ⟨r60, hx61, h'⟩ := bind_some h
    clear h
    have h := h'; clear h'
    have hc62 := c_laws_toEntry (aa_0_1_1 := aaE_1_1_1) (ca_0_1_1 := caE_1_1_1) hx61
    refine st_call (cx_call hc62 (ent_f hc62.fn rfl) hn0 (show Hp S0 σ0 _ ([Ch.ro 0 (Sl aaE_1_1_1 aE_1.2.2.1 caE_1_1_1) aE_1.2.2.1] ++ [Ch.bx n0 b56 0 [(Sl a48 r45.1 c49), (Sl a52 r45.2 c53)] [] [], Ch.big K50, Ch.own n0 n0 (Sl a52 r45.2 c53) r45.2, Ch.bx n0 b42 0 [(Sl a38 r35.1.1 c39), (Sl a40 r35.1.2 c41)] [] [], Ch.own n0 n0 (Sl a38 r35.1.1 c39) r35.1.1, Ch.own n0 n0 (Sl a40 r35.1.2 c41) r35.1.2, Ch.bx n0 b3 0 [(I aE_1.1), (I aE_1.2.1), (Sl aaE_1_1_1 aE_1.2.2.1 caE_1_1_1), (I aE_1.2.2.2)] [] [], Ch.bx n0 b1 0 [(Sl aaH_0_0 aH_0.1 caH_0_0), (Sl aaH_0_1 aH_0.2 caH_0_1)] [] [], Ch.ro 0 (Sl aaH_0_0 aH_0.1 caH_0_0) aH_0.1, Ch.ro 0 (Sl aaH_0_1 aH_0.2 caH_0_1) aH_0.2, Ch.ro 0 (Sl aaE_1_1_1 aE_1.2.2.1 caE_1_1_1) aE_1.2.2.1]) from (H.sel' [10, 0, 1, 2, 3, 4, 5, 6, 7, 8, 9, 10] rfl rfl))) wn ?_
    rintro _ σ66 ⟨_, ⟨a63, c64, rfl, rfl, ht65⟩, H, -⟩
    replace H : Hp S0 σ0 σ66 [Ch.own n0 n0 (Sl a63 r60.2.2.1 c64) r60.2.2.1, Ch.bx n0 b56 0 [(Sl a48 r45.1 c49), (Sl a52 r45.2 c53)] [] [], Ch.big K50, Ch.own n0 n0 (Sl a52 r45.2 c53) r45.2, Ch.bx n0 b42 0 [(Sl a38 r35.1.1 c39), (Sl a40 r35.1.2 c41)] [] [], Ch.own n0 n0 (Sl a38 r35.1.1 c39) r35.1.1, Ch.own n0 n0 (Sl a40 r35.1.2 c41) r35.1.2, Ch.bx n0 b3 0 [(I aE_1.1), (I aE_1.2.1), (Sl aaE_1_1_1 aE_1.2.2.1 caE_1_1_1), (I aE_1.2.2.2)] [] [], Ch.bx n0 b1 0 [(Sl aaH_0_0 aH_0.1 caH_0_0), (Sl aaH_0_1 aH_0.2 caH_0_1)] [] [], Ch.ro 0 (Sl aaH_0_0 aH_0.1 caH_0_0) aH_0.1, Ch.ro 0 (Sl aaH_0_1 aH_0.2 caH_0_1) aH_0.2, Ch.ro 0 (Sl aaE_1_1_1 aE_1.2.2.1 caE_1_1_1) aE_1.2.2.1] := H
    refine st_ex (ex_alloc (cs := [(I 0), (I 0), (.slice none 0 0), (I 0)]) H hn0 ti56 rfl) wn ?_
    rintro _ σ68 ⟨b67, rfl, H, -⟩
    refine st_exS (ex_store_box (k := 0) (cs := [(I 0), (I 0), (.slice none 0 0), (I 0)]) (vs := [(I r60.1), (I r60.2.1), (Sl a63 r60.2.2.1 c64), (I r60.2.2.2)]) (cs' := [(I r60.1), (I r60.2.1), (Sl a63 r60.2.2.1 c64), (I r60.2.2.2)]) H (i := 0) rfl ti56 rfl rfl rfl rfl rfl (Nat.le_of_ble_eq_true rfl) (by simp [plain]) rfl) wn ?_
    rintro σ69 ⟨H, -⟩
    refine w_end ?_
    refine q_then ?_
    refine c_seq ?_
    refine rg ?_
    have hc70 := H.cells 2 rfl
    refine st (v := (.agg #[(Sl a48 r45.1 c49), (Sl a52 r45.2 c53)])) (rv_load (cs := [(Sl a48 r45.1 c49), (Sl a52 r45.2 c53)]) Try.underlying26 rfl ti26 rfl rfl hc70) ?_
    have hc71 := H.cells 0 rfl
    refine st (v := (.agg #[(I r60.1), (I r60.2.1), (Sl a63 r60.2.2.1 c64), (I r60.2.2.2)])) (rv_load (cs := [(I r60.1), (I r60.2.1), (Sl a63 r60.2.2.1 c64), (I r60.2.2.2)]) Try.underlying56 rfl ti56 rfl rfl hc71) ?_
    refine st (v := (I aT_2)) (rv_move rfl) ?_
    obtain ⟨r72, hx73, h'⟩ := bind_some h
    clear h
    have h := h'; clear h'
    have hc74 := c_impl_AddEntryD (ah_0_0 := a48) (ch_0_0 := c49) (ah_0_1 := a52) (ch_0_1 := c53) (ae_1_1_1 := a63) (ce_1_1_1 := c64) hx73
    have hle := Nat.le_trans hn0 H.size
    refine st_call (cx_lend (Loan.lendB hK51.lends (Loan.lend (Loan.lend Loan.nil))) hc74 (ent_f hc74.fn rfl) (show Hp S0 σ0 _ ([Ch.big K50, Ch.own n0 n0 (Sl a52 r45.2 c53) r45.2, Ch.own n0 n0 (Sl a63 r60.2.2.1 c64) r60.2.2.1] ++ ([] ++ [Ch.bx n0 b67 0 [(I r60.1), (I r60.2.1), (Sl a63 r60.2.2.1 c64), (I r60.2.2.2)] [] [], Ch.bx n0 b56 0 [(Sl a48 r45.1 c49), (Sl a52 r45.2 c53)] [] [], Ch.bx n0 b42 0 [(Sl a38 r35.1.1 c39), (Sl a40 r35.1.2 c41)] [] [], Ch.own n0 n0 (Sl a38 r35.1.1 c39) r35.1.1, Ch.own n0 n0 (Sl a40 r35.1.2 c41) r35.1.2, Ch.bx n0 b3 0 [(I aE_1.1), (I aE_1.2.1), (Sl aaE_1_1_1 aE_1.2.2.1 caE_1_1_1), (I aE_1.2.2.2)] [] [], Ch.bx n0 b1 0 [(Sl aaH_0_0 aH_0.1 caH_0_0), (Sl aaH_0_1 aH_0.2 caH_0_1)] [] [], Ch.ro 0 (Sl aaH_0_0 aH_0.1 caH_0_0) aH_0.1, Ch.ro 0 (Sl aaH_0_1 aH_0.2 caH_0_1) aH_0.2, Ch.ro 0 (Sl aaE_1_1_1 aE_1.2.2.1 caE_1_1_1) aE_1.2.2.1])) from (H.sel' [3, 4, 1, 0, 2, 5, 6, 7, 8, 9, 10, 11, 12] rfl rfl)) (by rintro _ _ _ ⟨_, _, _, _, _, rfl, rfl, hK78, _⟩; exact ⟨Dp.abSc hK78, Ab.ownSc, trivial⟩)) wn ?_
    rintro _ σ82 ⟨_, ⟨a75, c76, K77, a80, c81, rfl, rfl, hK78, ht79⟩, H, -, -⟩
    replace H : Hp S0 σ0 σ82 [Ch.big K77, Ch.own σ69.size σ69.size (Sl a80 r72.1.2 c81) r72.1.2, Ch.big K50, Ch.own n0 n0 (Sl a52 r45.2 c53) r45.2, Ch.own n0 n0 (Sl a63 r60.2.2.1 c64) r60.2.2.1, Ch.bx n0 b67 0 [(I r60.1), (I r60.2.1), (Sl a63 r60.2.2.1 c64), (I r60.2.2.2)] [] [], Ch.bx n0 b56 0 [(Sl a48 r45.1 c49), (Sl a52 r45.2 c53)] [] [], Ch.bx n0 b42 0 [(Sl a38 r35.1.1 c39), (Sl a40 r35.1.2 c41)] [] [], Ch.own n0 n0 (Sl a38 r35.1.1 c39) r35.1.1, Ch.own n0 n0 (Sl a40 r35.1.2 c41) r35.1.2, Ch.bx n0 b3 0 [(I aE_1.1), (I aE_1.2.1), (Sl aaE_1_1_1 aE_1.2.2.1 caE_1_1_1), (I aE_1.2.2.2)] [] [], Ch.bx n0 b1 0 [(Sl aaH_0_0 aH_0.1 caH_0_0), (Sl aaH_0_1 aH_0.2 caH_0_1)] [] [], Ch.ro 0 (Sl aaH_0_0 aH_0.1 caH_0_0) aH_0.1, Ch.ro 0 (Sl aaH_0_1 aH_0.2 caH_0_1) aH_0.2, Ch.ro 0 (Sl aaE_1_1_1 aE_1.2.2.1 caE_1_1_1) aE_1.2.2.1] := H
    replace H := H.ownLow 1 n0 n0 rfl hle hle
    clear hle
    replace H : Hp S0 σ0 σ82 [Ch.own n0 n0 (Sl a80 r72.1.2 c81) r72.1.2, Ch.big K77, Ch.big K50, Ch.own n0 n0 (Sl a52 r45.2 c53) r45.2, Ch.own n0 n0 (Sl a63 r60.2.2.1 c64) r60.2.2.1, Ch.bx n0 b67 0 [(I r60.1), (I r60.2.1), (Sl a63 r60.2.2.1 c64), (I r60.2.2.2)] [] [], Ch.bx n0 b56 0 [(Sl a48 r45.1 c49), (Sl a52 r45.2 c53)] [] [], Ch.bx n0 b42 0 [(Sl a38 r35.1.1 c39), (Sl a40 r35.1.2 c41)] [] [], Ch.own n0 n0 (Sl a38 r35.1.1 c39) r35.1.1, Ch.own n0 n0 (Sl a40 r35.1.2 c41) r35.1.2, Ch.bx n0 b3 0 [(I aE_1.1), (I aE_1.2.1), (Sl aaE_1_1_1 aE_1.2.2.1 caE_1_1_1), (I aE_1.2.2.2)] [] [], Ch.bx n0 b1 0 [(Sl aaH_0_0 aH_0.1 caH_0_0), (Sl aaH_0_1 aH_0.2 caH_0_1)] [] [], Ch.ro 0 (Sl aaH_0_0 aH_0.1 caH_0_0) aH_0.1, Ch.ro 0 (Sl aaH_0_1 aH_0.2 caH_0_1) aH_0.2, Ch.ro 0 (Sl aaE_1_1_1 aE_1.2.2.1 caE_1_1_1) aE_1.2.2.1] := H
    refine st (v := (.tuple #[(.agg #[(Sl a75 r72.1.1 c76), (Sl a80 r72.1.2 c81)]), (B r72.2)])) (rv_move rfl) ?_
    refine st (v := (.agg #[(Sl a75 r72.1.1 c76), (Sl a80 r72.1.2 c81)])) (rv_extract rfl rfl) ?_
    refine st (v := (B r72.2)) (rv_extract rfl rfl) ?_
    refine st_ex (ex_alloc (cs := [(.slice none 0 0), (.slice none 0 0)]) H hn0 ti26 rfl) wn ?_
    rintro _ σ84 ⟨b83, rfl, H, -⟩
    refine st_exS (ex_store_box (k := 0) (cs := [(.slice none 0 0), (.slice none 0 0)]) (vs := [(Sl a75 r72.1.1 c76), (Sl a80 r72.1.2 c81)]) (cs' := [(Sl a75 r72.1.1 c76), (Sl a80 r72.1.2 c81)]) H (i := 0) rfl ti26 rfl rfl rfl rfl rfl (Nat.le_of_ble_eq_true rfl) (by simp [plain]) rfl) wn ?_
    rintro σ85 ⟨H, -⟩
    refine st (v := (B r72.2)) (rv_assign rfl) ?_
    refine w_end ?_
    refine q_then ?_
    refine c_seq ?_
    refine c_seq ?_
    obtain ⟨o86, hj, h'⟩ := bind_some h
    clear h
    refine c_cut (fun e a w => e = .normal ∧ ∃ (ρ : Nat → Value) (σ : St), a = fr 124 (updL ρ [(2, (I aT_2)), (3, (pt b1 0)), (4, (pt b3 0)), (8, (pt b42 0)), (9, (B r35.2)), (10, (pt b56 0)), (11, (pt b67 0)), (12, (pt b83 0)), (13, (B r72.2)), (57, (B o86))]) ∧ w = σ.w ∧ Hp S0 σ0 σ [Ch.ro 0 (Sl aaH_0_0 aH_0.1 caH_0_0) aH_0.1, Ch.ro 0 (Sl aaH_0_1 aH_0.2 caH_0_1) aH_0.2, Ch.bx n0 b1 0 [(Sl aaH_0_0 aH_0.1 caH_0_0), (Sl aaH_0_1 aH_0.2 caH_0_1)] [] [], Ch.ro 0 (Sl aaE_1_1_1 aE_1.2.2.1 caE_1_1_1) aE_1.2.2.1, Ch.bx n0 b3 0 [(I aE_1.1), (I aE_1.2.1), (Sl aaE_1_1_1 aE_1.2.2.1 caE_1_1_1), (I aE_1.2.2.2)] [] [], Ch.own n0 n0 (Sl a38 r35.1.1 c39) r35.1.1, Ch.own n0 n0 (Sl a40 r35.1.2 c41) r35.1.2, Ch.bx n0 b42 0 [(Sl a38 r35.1.1 c39), (Sl a40 r35.1.2 c41)] [] [], Ch.big K50, Ch.own n0 n0 (Sl a52 r45.2 c53) r45.2, Ch.bx n0 b56 0 [(Sl a48 r45.1 c49), (Sl a52 r45.2 c53)] [] [], Ch.own n0 n0 (Sl a63 r60.2.2.1 c64) r60.2.2.1, Ch.bx n0 b67 0 [(I r60.1), (I r60.2.1), (Sl a63 r60.2.2.1 c64), (I r60.2.2.2)] [] [], Ch.big K77, Ch.own n0 n0 (Sl a80 r72.1.2 c81) r72.1.2, Ch.bx n0 b83 0 [(Sl a75 r72.1.1 c76), (Sl a80 r72.1.2 c81)] [] []]) ?_ ?_
    ·clear h'
     rename _ = some o86 => h
     refine rg ?_
     have hc87 := H.cells 0 rfl
     refine st (v := (.agg #[(Sl a75 r72.1.1 c76), (Sl a80 r72.1.2 c81)])) (rv_load (cs := [(Sl a75 r72.1.1 c76), (Sl a80 r72.1.2 c81)]) Try.underlying26 rfl ti26 rfl rfl hc87) ?_
     have hc88 := H.cells 8 rfl
     refine st (v := (.agg #[(Sl a38 r35.1.1 c39), (Sl a40 r35.1.2 c41)])) (rv_load (cs := [(Sl a38 r35.1.1 c39), (Sl a40 r35.1.2 c41)]) Try.underlying26 rfl ti26 rfl rfl hc88) ?_
     obtain ⟨r89, hx90, h'⟩ := bind_some h
     clear h
     have h := h'; clear h'
     have hc91 := c_laws_eqHistory (aa_0_0 := a75) (ca_0_0 := c76) (aa_0_1 := a80) (ca_0_1 := c81) (ab_1_0 := a38) (cb_1_0 := c39) (ab_1_1 := a40) (cb_1_1 := c41) hx90
     have hle := Nat.le_trans hn0 H.size
     refine st_call (cx_lend (Loan.lendB hK78.lends (Loan.lend (Loan.lend (Loan.lend Loan.nil)))) hc91 (ent_f hc91.fn rfl) (show Hp S0 σ0 _ ([Ch.big K77, Ch.own n0 n0 (Sl a80 r72.1.2 c81) r72.1.2, Ch.own n0 n0 (Sl a38 r35.1.1 c39) r35.1.1, Ch.own n0 n0 (Sl a40 r35.1.2 c41) r35.1.2] ++ ([] ++ [Ch.bx n0 b83 0 [(Sl a75 r72.1.1 c76), (Sl a80 r72.1.2 c81)] [] [], Ch.big K50, Ch.own n0 n0 (Sl a52 r45.2 c53) r45.2, Ch.own n0 n0 (Sl a63 r60.2.2.1 c64) r60.2.2.1, Ch.bx n0 b67 0 [(I r60.1), (I r60.2.1), (Sl a63 r60.2.2.1 c64), (I r60.2.2.2)] [] [], Ch.bx n0 b56 0 [(Sl a48 r45.1 c49), (Sl a52 r45.2 c53)] [] [], Ch.bx n0 b42 0 [(Sl a38 r35.1.1 c39), (Sl a40 r35.1.2 c41)] [] [], Ch.bx n0 b3 0 [(I aE_1.1), (I aE_1.2.1), (Sl aaE_1_1_1 aE_1.2.2.1 caE_1_1_1), (I aE_1.2.2.2)] [] [], Ch.bx n0 b1 0 [(Sl aaH_0_0 aH_0.1 caH_0_0), (Sl aaH_0_1 aH_0.2 caH_0_1)] [] [], Ch.ro 0 (Sl aaH_0_0 aH_0.1 caH_0_0) aH_0.1, Ch.ro 0 (Sl aaH_0_1 aH_0.2 caH_0_1) aH_0.2, Ch.ro 0 (Sl aaE_1_1_1 aE_1.2.2.1 caE_1_1_1) aE_1.2.2.1])) from (H.sel' [2, 1, 9, 10, 0, 3, 4, 5, 6, 7, 8, 11, 12, 13, 14, 15] rfl rfl)) (by rintro _ _ _ ⟨rfl, rfl⟩; exact trivial)) wn ?_
     rintro _ σ92 ⟨_, ⟨rfl, rfl⟩, H, -, -⟩
     replace H : Hp S0 σ0 σ92 [Ch.big K77, Ch.own n0 n0 (Sl a80 r72.1.2 c81) r72.1.2, Ch.own n0 n0 (Sl a38 r35.1.1 c39) r35.1.1, Ch.own n0 n0 (Sl a40 r35.1.2 c41) r35.1.2, Ch.bx n0 b83 0 [(Sl a75 r72.1.1 c76), (Sl a80 r72.1.2 c81)] [] [], Ch.big K50, Ch.own n0 n0 (Sl a52 r45.2 c53) r45.2, Ch.own n0 n0 (Sl a63 r60.2.2.1 c64) r60.2.2.1, Ch.bx n0 b67 0 [(I r60.1), (I r60.2.1), (Sl a63 r60.2.2.1 c64), (I r60.2.2.2)] [] [], Ch.bx n0 b56 0 [(Sl a48 r45.1 c49), (Sl a52 r45.2 c53)] [] [], Ch.bx n0 b42 0 [(Sl a38 r35.1.1 c39), (Sl a40 r35.1.2 c41)] [] [], Ch.bx n0 b3 0 [(I aE_1.1), (I aE_1.2.1), (Sl aaE_1_1_1 aE_1.2.2.1 caE_1_1_1), (I aE_1.2.2.2)] [] [], Ch.bx n0 b1 0 [(Sl aaH_0_0 aH_0.1 caH_0_0), (Sl aaH_0_1 aH_0.2 caH_0_1)] [] [], Ch.ro 0 (Sl aaH_0_0 aH_0.1 caH_0_0) aH_0.1, Ch.ro 0 (Sl aaH_0_1 aH_0.2 caH_0_1) aH_0.2, Ch.ro 0 (Sl aaE_1_1_1 aE_1.2.2.1 caE_1_1_1) aE_1.2.2.1] := H
     clear hle
     replace H : Hp S0 σ0 σ92 [Ch.big K77, Ch.own n0 n0 (Sl a80 r72.1.2 c81) r72.1.2, Ch.own n0 n0 (Sl a38 r35.1.1 c39) r35.1.1, Ch.own n0 n0 (Sl a40 r35.1.2 c41) r35.1.2, Ch.bx n0 b83 0 [(Sl a75 r72.1.1 c76), (Sl a80 r72.1.2 c81)] [] [], Ch.big K50, Ch.own n0 n0 (Sl a52 r45.2 c53) r45.2, Ch.own n0 n0 (Sl a63 r60.2.2.1 c64) r60.2.2.1, Ch.bx n0 b67 0 [(I r60.1), (I r60.2.1), (Sl a63 r60.2.2.1 c64), (I r60.2.2.2)] [] [], Ch.bx n0 b56 0 [(Sl a48 r45.1 c49), (Sl a52 r45.2 c53)] [] [], Ch.bx n0 b42 0 [(Sl a38 r35.1.1 c39), (Sl a40 r35.1.2 c41)] [] [], Ch.bx n0 b3 0 [(I aE_1.1), (I aE_1.2.1), (Sl aaE_1_1_1 aE_1.2.2.1 caE_1_1_1), (I aE_1.2.2.2)] [] [], Ch.bx n0 b1 0 [(Sl aaH_0_0 aH_0.1 caH_0_0), (Sl aaH_0_1 aH_0.2 caH_0_1)] [] [], Ch.ro 0 (Sl aaH_0_0 aH_0.1 caH_0_0) aH_0.1, Ch.ro 0 (Sl aaH_0_1 aH_0.2 caH_0_1) aH_0.2, Ch.ro 0 (Sl aaE_1_1_1 aE_1.2.2.1 caE_1_1_1) aE_1.2.2.1] := H
     refine st (v := (B (!r89))) (rv_not rfl) ?_
     refine st (v := (B (!r89))) (rv_move rfl) ?_
     rcases Bool.eq_false_or_eq_true (!r89) with hb93 | hb93
     ·replace h := bif_t hb93 h
      refine st_skip (congrArg some hb93) ?_
      refine st_skip (congrArg some hb93) ?_
      refine st_skip (congrArg some hb93) ?_
      refine st (v := (B true)) (rv_pick_t (congrArg B hb93) rfl) ?_
      refine w_end ?_
      obtain rfl := Option.some.inj h
      exact ⟨rfl, _, σ92, fr_join ⟨rfl, rfl, rfl, rfl, rfl, rfl, rfl, rfl, rfl, rfl, trivial⟩, rfl, H.sel' [13, 14, 12, 15, 11, 2, 3, 10, 5, 6, 9, 7, 8, 0, 1, 4] rfl rfl⟩
     ·replace h := bif_f hb93 h
      refine st_g (v := (B r72.2)) (congrArg some hb93) (rv_move rfl) ?_
      refine st_g (v := (B r35.2)) (congrArg some hb93) (rv_move rfl) ?_
      refine st_g (v := (B (r72.2 != r35.2))) (congrArg some hb93) (rv_bneq Try.underlying4 rfl rfl) ?_
      refine st (v := (B (r72.2 != r35.2))) (rv_pick_f (congrArg B hb93) rfl) ?_
      refine w_end ?_
      obtain rfl := Option.some.inj h
      exact ⟨rfl, _, σ92, fr_join ⟨rfl, rfl, rfl, rfl, rfl, rfl, rfl, rfl, rfl, rfl, trivial⟩, rfl, H.sel' [13, 14, 12, 15, 11, 2, 3, 10, 5, 6, 9, 7, 8, 0, 1, 4] rfl rfl⟩
    ·clear hj
     have h := h'
     clear h' H
     rintro e a w ⟨rfl, ρ, σ94, rfl, rfl, H⟩
     refine q_then ?_
     refine cd_cond o86 rfl (fun hb95 => ?_) (fun hb95 => ?_)
     ·replace h := bif_t hb95 h
      refine c_seq ?_
      refine rg ?_
      refine st (v := (B false)) (rv_assign rfl) ?_
      refine w_end ?_
      refine q_then ?_
      refine c_ret ?_
      refine q_then_r ?_
      obtain rfl := Option.some.inj h
      exact fin_ret (v := (B false)) (results_ok Try.results6 (res_tmp (v := (B false)) rfl res_nil) rfl) ⟨rfl, rfl⟩ (H.sel' [] rfl rfl)
     ·replace h := bif_f hb95 h
      refine c_skip ?_
      refine q_then ?_
      refine c_seq ?_
      refine c_seq ?_
      have hc96 := H.cells 10 rfl
      have hc97 := H.cells 2 rfl
      obtain ⟨r98, hx99, h'⟩ := bind_some h
      clear h
      have h := h'; clear h'
      have hc100 := c_laws_toHistoryD (aa_0_0 := aaH_0_0) (ca_0_0 := caH_0_0) (aa_0_1 := aaH_0_1) (ca_0_1 := caH_0_1) hx99
      have Hs := H
      refine rg2 (σ := σ94) (Nm := (Option Addr) × (Nat) × (List Ch) × (Option Addr) × (Nat)) 3 [2] [[false], [true]] [[(0, 0), (1, 1)], [(0, 0)], [(0, 1)]] 1 [fun ((a101, c102, K103, a105, c106) : (Option Addr) × (Nat) × (List Ch) × (Option Addr) × (Nat)) => fun σm => Hp S0 σ0 σm [Ch.ro 0 (Sl aaH_0_0 aH_0.1 caH_0_0) aH_0.1, Ch.ro 0 (Sl aaH_0_1 aH_0.2 caH_0_1) aH_0.2, Ch.bx n0 b1 0 [(Sl aaH_0_0 aH_0.1 caH_0_0), (Sl aaH_0_1 aH_0.2 caH_0_1)] [] [], Ch.ro 0 (Sl aaE_1_1_1 aE_1.2.2.1 caE_1_1_1) aE_1.2.2.1, Ch.bx n0 b3 0 [(I aE_1.1), (I aE_1.2.1), (Sl aaE_1_1_1 aE_1.2.2.1 caE_1_1_1), (I aE_1.2.2.2)] [] [], Ch.own n0 n0 (Sl a38 r35.1.1 c39) r35.1.1, Ch.own n0 n0 (Sl a40 r35.1.2 c41) r35.1.2, Ch.bx n0 b42 0 [(Sl a38 r35.1.1 c39), (Sl a40 r35.1.2 c41)] [] [], Ch.big K50, Ch.own n0 n0 (Sl a52 r45.2 c53) r45.2, Ch.bx n0 b56 0 [(Sl a48 r45.1 c49), (Sl a52 r45.2 c53)] [] [], Ch.own n0 n0 (Sl a63 r60.2.2.1 c64) r60.2.2.1, Ch.bx n0 b67 0 [(I r60.1), (I r60.2.1), (Sl a63 r60.2.2.1 c64), (I r60.2.2.2)] [] [], Ch.big K77, Ch.own n0 n0 (Sl a80 r72.1.2 c81) r72.1.2, Ch.bx n0 b83 0 [(Sl a75 r72.1.1 c76), (Sl a80 r72.1.2 c81)] [] []] ∧ Md (cov []) σ94 σm, fun ((a101, c102, K103, a105, c106) : (Option Addr) × (Nat) × (List Ch) × (Option Addr) × (Nat)) => fun σm => Hp S0 σ0 σm [Ch.big K103, Ch.own n0 n0 (Sl a105 r98.2 c106) r98.2, Ch.ro 0 (Sl aaH_0_0 aH_0.1 caH_0_0) aH_0.1, Ch.ro 0 (Sl aaH_0_1 aH_0.2 caH_0_1) aH_0.2, Ch.bx n0 b1 0 [(Sl aaH_0_0 aH_0.1 caH_0_0), (Sl aaH_0_1 aH_0.2 caH_0_1)] [] [], Ch.ro 0 (Sl aaE_1_1_1 aE_1.2.2.1 caE_1_1_1) aE_1.2.2.1, Ch.bx n0 b3 0 [(I aE_1.1), (I aE_1.2.1), (Sl aaE_1_1_1 aE_1.2.2.1 caE_1_1_1), (I aE_1.2.2.2)] [] [], Ch.own n0 n0 (Sl a38 r35.1.1 c39) r35.1.1, Ch.own n0 n0 (Sl a40 r35.1.2 c41) r35.1.2, Ch.bx n0 b42 0 [(Sl a38 r35.1.1 c39), (Sl a40 r35.1.2 c41)] [] [], Ch.big K50, Ch.own n0 n0 (Sl a52 r45.2 c53) r45.2, Ch.bx n0 b56 0 [(Sl a48 r45.1 c49), (Sl a52 r45.2 c53)] [] [], Ch.own n0 n0 (Sl a63 r60.2.2.1 c64) r60.2.2.1, Ch.bx n0 b67 0 [(I r60.1), (I r60.2.1), (Sl a63 r60.2.2.1 c64), (I r60.2.2.2)] [] [], Ch.big K77, Ch.own n0 n0 (Sl a80 r72.1.2 c81) r72.1.2, Ch.bx n0 b83 0 [(Sl a75 r72.1.1 c76), (Sl a80 r72.1.2 c81)] [] []] ∧ Md (cov []) σ94 σm ∧ Dp 0 (Sl a101 r98.1 c102) r98.1 K103 ∧ c106 = r98.2.length] [fun ((a101, c102, K103, a105, c106) : (Option Addr) × (Nat) × (List Ch) × (Option Addr) × (Nat)) => (.agg #[(Sl a48 r45.1 c49), (Sl a52 r45.2 c53)]), fun ((a101, c102, K103, a105, c106) : (Option Addr) × (Nat) × (List Ch) × (Option Addr) × (Nat)) => (.agg #[(Sl aaH_0_0 aH_0.1 caH_0_0), (Sl aaH_0_1 aH_0.2 caH_0_1)]), fun ((a101, c102, K103, a105, c106) : (Option Addr) × (Nat) × (List Ch) × (Option Addr) × (Nat)) => (.agg #[(Sl a101 r98.1 c102), (Sl a105 r98.2 c106)])] (none, 0, [], none, 0) (by kernel_rfl) (by kernel_rfl) ?_ ?_ ?_
      ·intro σm m0
       exact ⟨H.grow (m0.mono fun _ h => h.elim), m0⟩
      ·refine all_cons (by
         refine ⟨?_, ?_⟩
         ·rintro ⟨a101, c102, K103, a105, c106⟩ ρ σm hJ hoff hdep
          have e10 := look_off (N := 124) (hoff 10 rfl) rfl
          obtain ⟨H, m⟩ := id hJ
          have hc96 := H.cells 10 rfl
          exact dp_v (v := (.agg #[(Sl a48 r45.1 c49), (Sl a52 r45.2 c53)])) wn (rv_load (cs := [(Sl a48 r45.1 c49), (Sl a52 r45.2 c53)]) Try.underlying26 rfl ti26 e10 rfl hc96) rfl hJ
         refine ⟨?_, ?_⟩
         ·rintro ⟨a101, c102, K103, a105, c106⟩ ρ σm hJ hoff hdep
          have e10 := look_off (N := 124) (hoff 10 rfl) rfl
          obtain ⟨H, m, hK104, ht107⟩ := id hJ
          have hc96 := H.cells 12 rfl
          exact dp_v (v := (.agg #[(Sl a48 r45.1 c49), (Sl a52 r45.2 c53)])) wn (rv_load (cs := [(Sl a48 r45.1 c49), (Sl a52 r45.2 c53)]) Try.underlying26 rfl ti26 e10 rfl hc96) rfl hJ
         trivial) ?_
       refine all_cons (by
         refine ⟨?_, ?_⟩
         ·rintro ⟨a101, c102, K103, a105, c106⟩ ρ σm hJ hoff hdep
          have e3 := look_off (N := 124) (hoff 3 rfl) rfl
          obtain ⟨H, m⟩ := id hJ
          have hc97 := H.cells 2 rfl
          exact dp_v (v := (.agg #[(Sl aaH_0_0 aH_0.1 caH_0_0), (Sl aaH_0_1 aH_0.2 caH_0_1)])) wn (rv_load (cs := [(Sl aaH_0_0 aH_0.1 caH_0_0), (Sl aaH_0_1 aH_0.2 caH_0_1)]) Try.underlying40 rfl ti40 e3 rfl hc97) rfl hJ
         trivial) ?_
       refine all_cons (by
         refine ⟨?_, ?_⟩
         ·rintro ⟨a101, c102, K103, a105, c106⟩ ρ σm hJ hoff hdep
          have e59 : look 124 ρ 59 = (.agg #[(Sl aaH_0_0 aH_0.1 caH_0_0), (Sl aaH_0_1 aH_0.2 caH_0_1)]) := hdep 1 rfl rfl 59 rfl
          obtain ⟨H, m⟩ := id hJ
          refine dp_cx wn (cx_call hc100 (ent_f hc100.fn (by show [look 124 ρ 59] = _; rw [e59])) hn0 (show Hp S0 σ0 _ ([Ch.ro 0 (Sl aaH_0_0 aH_0.1 caH_0_0) aH_0.1, Ch.ro 0 (Sl aaH_0_1 aH_0.2 caH_0_1) aH_0.2] ++ [Ch.ro 0 (Sl aaH_0_0 aH_0.1 caH_0_0) aH_0.1, Ch.ro 0 (Sl aaH_0_1 aH_0.2 caH_0_1) aH_0.2, Ch.bx n0 b1 0 [(Sl aaH_0_0 aH_0.1 caH_0_0), (Sl aaH_0_1 aH_0.2 caH_0_1)] [] [], Ch.ro 0 (Sl aaE_1_1_1 aE_1.2.2.1 caE_1_1_1) aE_1.2.2.1, Ch.bx n0 b3 0 [(I aE_1.1), (I aE_1.2.1), (Sl aaE_1_1_1 aE_1.2.2.1 caE_1_1_1), (I aE_1.2.2.2)] [] [], Ch.own n0 n0 (Sl a38 r35.1.1 c39) r35.1.1, Ch.own n0 n0 (Sl a40 r35.1.2 c41) r35.1.2, Ch.bx n0 b42 0 [(Sl a38 r35.1.1 c39), (Sl a40 r35.1.2 c41)] [] [], Ch.big K50, Ch.own n0 n0 (Sl a52 r45.2 c53) r45.2, Ch.bx n0 b56 0 [(Sl a48 r45.1 c49), (Sl a52 r45.2 c53)] [] [], Ch.own n0 n0 (Sl a63 r60.2.2.1 c64) r60.2.2.1, Ch.bx n0 b67 0 [(I r60.1), (I r60.2.1), (Sl a63 r60.2.2.1 c64), (I r60.2.2.2)] [] [], Ch.big K77, Ch.own n0 n0 (Sl a80 r72.1.2 c81) r72.1.2, Ch.bx n0 b83 0 [(Sl a75 r72.1.1 c76), (Sl a80 r72.1.2 c81)] [] []]) from (H.sel' [0, 1, 0, 1, 2, 3, 4, 5, 6, 7, 8, 9, 10, 11, 12, 13, 14, 15] rfl rfl))) ?_
          rintro _ σq ⟨_, ⟨a101x, c102x, K103x, a105x, c106x, rfl, rfl, hK104, ht107⟩, H2, m2⟩
          exact ⟨_, (a101x, c102x, K103x, a105x, c106x), rfl, rfl, ⟨H2.sel' [0, 1, 2, 3, 4, 5, 6, 7, 8, 9, 10, 11, 12, 13, 14, 15, 16, 17] rfl rfl, m.comp0 (m2.mono (fun i h => by simp [cov, Ch.ro] at h)), hK104, ht107⟩, stab [0, 1] (by kernel_rfl) ⟨rfl, rfl, trivial⟩⟩
         trivial) ?_
       exact all_nil
      ·rintro ⟨a101, c102, K103, a105, c106⟩ ρ σ108 hJ hoff hrel
       have e2 := look_off (N := 124) (hoff 2 rfl) rfl
       have e3 := look_off (N := 124) (hoff 3 rfl) rfl
       have e4 := look_off (N := 124) (hoff 4 rfl) rfl
       have e8 := look_off (N := 124) (hoff 8 rfl) rfl
       have e9 := look_off (N := 124) (hoff 9 rfl) rfl
       have e10 := look_off (N := 124) (hoff 10 rfl) rfl
       have e11 := look_off (N := 124) (hoff 11 rfl) rfl
       have e12 := look_off (N := 124) (hoff 12 rfl) rfl
       have e13 := look_off (N := 124) (hoff 13 rfl) rfl
       have e58 := hrel 0 rfl 58 rfl
       have e60 := hrel 2 rfl 60 rfl
       obtain ⟨H, -, hK104, ht107⟩ := (show Hp S0 σ0 σ108 [Ch.big K103, Ch.own n0 n0 (Sl a105 r98.2 c106) r98.2, Ch.ro 0 (Sl aaH_0_0 aH_0.1 caH_0_0) aH_0.1, Ch.ro 0 (Sl aaH_0_1 aH_0.2 caH_0_1) aH_0.2, Ch.bx n0 b1 0 [(Sl aaH_0_0 aH_0.1 caH_0_0), (Sl aaH_0_1 aH_0.2 caH_0_1)] [] [], Ch.ro 0 (Sl aaE_1_1_1 aE_1.2.2.1 caE_1_1_1) aE_1.2.2.1, Ch.bx n0 b3 0 [(I aE_1.1), (I aE_1.2.1), (Sl aaE_1_1_1 aE_1.2.2.1 caE_1_1_1), (I aE_1.2.2.2)] [] [], Ch.own n0 n0 (Sl a38 r35.1.1 c39) r35.1.1, Ch.own n0 n0 (Sl a40 r35.1.2 c41) r35.1.2, Ch.bx n0 b42 0 [(Sl a38 r35.1.1 c39), (Sl a40 r35.1.2 c41)] [] [], Ch.big K50, Ch.own n0 n0 (Sl a52 r45.2 c53) r45.2, Ch.bx n0 b56 0 [(Sl a48 r45.1 c49), (Sl a52 r45.2 c53)] [] [], Ch.own n0 n0 (Sl a63 r60.2.2.1 c64) r60.2.2.1, Ch.bx n0 b67 0 [(I r60.1), (I r60.2.1), (Sl a63 r60.2.2.1 c64), (I r60.2.2.2)] [] [], Ch.big K77, Ch.own n0 n0 (Sl a80 r72.1.2 c81) r72.1.2, Ch.bx n0 b83 0 [(Sl a75 r72.1.1 c76), (Sl a80 r72.1.2 c81)] [] []] ∧ Md (cov []) σ94 σ108 ∧ Dp 0 (Sl a101 r98.1 c102) r98.1 K103 ∧ c106 = r98.2.length from hJ)
       clear hJ Hs
       rw [fr_lookL (L := [(2, (I aT_2)), (3, (pt b1 0)), (4, (pt b3 0)), (8, (pt b42 0)), (9, (B r35.2)), (10, (pt b56 0)), (11, (pt b67 0)), (12, (pt b83 0)), (13, (B r72.2)), (58, (.agg #[(Sl a48 r45.1 c49), (Sl a52 r45.2 c53)])), (60, (.agg #[(Sl a101 r98.1 c102), (Sl a105 r98.2 c106)]))]) ⟨e2, e3, e4, e8, e9, e10, e11, e12, e13, e58, e60, trivial⟩]
       clear hoff hrel e2 e3 e4 e8 e9 e10 e11 e12 e13 e58 e60
       obtain ⟨σ109, hw110, H, -⟩ := H.pub 1 rfl (Nat.le_refl _)
       rw [← hw110]; clear hw110
       replace H := H.roLow 0 0 rfl (Nat.zero_le _)
       obtain ⟨r111, hx112, h'⟩ := bind_some h
       clear h
       have h := h'; clear h'
       have hc113 := c_laws_eqHistory (aa_0_0 := a48) (ca_0_0 := c49) (aa_0_1 := a52) (ca_0_1 := c53) (ab_1_0 := a101) (cb_1_0 := c102) (ab_1_1 := a105) (cb_1_1 := c106) hx112
       have hle := Nat.le_trans hn0 H.size
       refine st_call (cx_lend (Loan.lendB hK51.lends (Loan.lend (Loan.lendB hK104.lends (Loan.same Loan.nil)))) hc113 (ent_f hc113.fn rfl) (show Hp S0 σ0 _ ([Ch.big K50, Ch.own n0 n0 (Sl a52 r45.2 c53) r45.2, Ch.big K103] ++ ([Ch.ro 0 (Sl a105 r98.2 c106) r98.2] ++ [Ch.ro 0 (Sl a105 r98.2 c106) r98.2, Ch.ro n0 (Sl a105 r98.2 c106) r98.2, Ch.ro 0 (Sl aaH_0_0 aH_0.1 caH_0_0) aH_0.1, Ch.ro 0 (Sl aaH_0_1 aH_0.2 caH_0_1) aH_0.2, Ch.bx n0 b1 0 [(Sl aaH_0_0 aH_0.1 caH_0_0), (Sl aaH_0_1 aH_0.2 caH_0_1)] [] [], Ch.ro 0 (Sl aaE_1_1_1 aE_1.2.2.1 caE_1_1_1) aE_1.2.2.1, Ch.bx n0 b3 0 [(I aE_1.1), (I aE_1.2.1), (Sl aaE_1_1_1 aE_1.2.2.1 caE_1_1_1), (I aE_1.2.2.2)] [] [], Ch.own n0 n0 (Sl a38 r35.1.1 c39) r35.1.1, Ch.own n0 n0 (Sl a40 r35.1.2 c41) r35.1.2, Ch.bx n0 b42 0 [(Sl a38 r35.1.1 c39), (Sl a40 r35.1.2 c41)] [] [], Ch.bx n0 b56 0 [(Sl a48 r45.1 c49), (Sl a52 r45.2 c53)] [] [], Ch.own n0 n0 (Sl a63 r60.2.2.1 c64) r60.2.2.1, Ch.bx n0 b67 0 [(I r60.1), (I r60.2.1), (Sl a63 r60.2.2.1 c64), (I r60.2.2.2)] [] [], Ch.big K77, Ch.own n0 n0 (Sl a80 r72.1.2 c81) r72.1.2, Ch.bx n0 b83 0 [(Sl a75 r72.1.1 c76), (Sl a80 r72.1.2 c81)] [] []])) from (H.sel' [11, 12, 2, 0, 0, 1, 3, 4, 5, 6, 7, 8, 9, 10, 13, 14, 15, 16, 17, 18] rfl rfl)) (by rintro _ _ _ ⟨rfl, rfl⟩; exact trivial)) wn ?_
       rintro _ σ114 ⟨_, ⟨rfl, rfl⟩, H, -, -⟩
       replace H : Hp S0 σ0 σ114 [Ch.big K50, Ch.own n0 n0 (Sl a52 r45.2 c53) r45.2, Ch.big K103, Ch.ro 0 (Sl a105 r98.2 c106) r98.2, Ch.ro n0 (Sl a105 r98.2 c106) r98.2, Ch.ro 0 (Sl aaH_0_0 aH_0.1 caH_0_0) aH_0.1, Ch.ro 0 (Sl aaH_0_1 aH_0.2 caH_0_1) aH_0.2, Ch.bx n0 b1 0 [(Sl aaH_0_0 aH_0.1 caH_0_0), (Sl aaH_0_1 aH_0.2 caH_0_1)] [] [], Ch.ro 0 (Sl aaE_1_1_1 aE_1.2.2.1 caE_1_1_1) aE_1.2.2.1, Ch.bx n0 b3 0 [(I aE_1.1), (I aE_1.2.1), (Sl aaE_1_1_1 aE_1.2.2.1 caE_1_1_1), (I aE_1.2.2.2)] [] [], Ch.own n0 n0 (Sl a38 r35.1.1 c39) r35.1.1, Ch.own n0 n0 (Sl a40 r35.1.2 c41) r35.1.2, Ch.bx n0 b42 0 [(Sl a38 r35.1.1 c39), (Sl a40 r35.1.2 c41)] [] [], Ch.bx n0 b56 0 [(Sl a48 r45.1 c49), (Sl a52 r45.2 c53)] [] [], Ch.own n0 n0 (Sl a63 r60.2.2.1 c64) r60.2.2.1, Ch.bx n0 b67 0 [(I r60.1), (I r60.2.1), (Sl a63 r60.2.2.1 c64), (I r60.2.2.2)] [] [], Ch.big K77, Ch.own n0 n0 (Sl a80 r72.1.2 c81) r72.1.2, Ch.bx n0 b83 0 [(Sl a75 r72.1.1 c76), (Sl a80 r72.1.2 c81)] [] []] := H
       clear hle
       replace H : Hp S0 σ0 σ114 [Ch.big K50, Ch.own n0 n0 (Sl a52 r45.2 c53) r45.2, Ch.big K103, Ch.ro 0 (Sl a105 r98.2 c106) r98.2, Ch.ro n0 (Sl a105 r98.2 c106) r98.2, Ch.ro 0 (Sl aaH_0_0 aH_0.1 caH_0_0) aH_0.1, Ch.ro 0 (Sl aaH_0_1 aH_0.2 caH_0_1) aH_0.2, Ch.bx n0 b1 0 [(Sl aaH_0_0 aH_0.1 caH_0_0), (Sl aaH_0_1 aH_0.2 caH_0_1)] [] [], Ch.ro 0 (Sl aaE_1_1_1 aE_1.2.2.1 caE_1_1_1) aE_1.2.2.1, Ch.bx n0 b3 0 [(I aE_1.1), (I aE_1.2.1), (Sl aaE_1_1_1 aE_1.2.2.1 caE_1_1_1), (I aE_1.2.2.2)] [] [], Ch.own n0 n0 (Sl a38 r35.1.1 c39) r35.1.1, Ch.own n0 n0 (Sl a40 r35.1.2 c41) r35.1.2, Ch.bx n0 b42 0 [(Sl a38 r35.1.1 c39), (Sl a40 r35.1.2 c41)] [] [], Ch.bx n0 b56 0 [(Sl a48 r45.1 c49), (Sl a52 r45.2 c53)] [] [], Ch.own n0 n0 (Sl a63 r60.2.2.1 c64) r60.2.2.1, Ch.bx n0 b67 0 [(I r60.1), (I r60.2.1), (Sl a63 r60.2.2.1 c64), (I r60.2.2.2)] [] [], Ch.big K77, Ch.own n0 n0 (Sl a80 r72.1.2 c81) r72.1.2, Ch.bx n0 b83 0 [(Sl a75 r72.1.1 c76), (Sl a80 r72.1.2 c81)] [] []] := H
       replace H : Hp S0 σ0 σ114 [Ch.big K50, Ch.own n0 n0 (Sl a52 r45.2 c53) r45.2, Ch.ro 0 (Sl aaH_0_0 aH_0.1 caH_0_0) aH_0.1, Ch.ro 0 (Sl aaH_0_1 aH_0.2 caH_0_1) aH_0.2, Ch.bx n0 b1 0 [(Sl aaH_0_0 aH_0.1 caH_0_0), (Sl aaH_0_1 aH_0.2 caH_0_1)] [] [], Ch.ro 0 (Sl aaE_1_1_1 aE_1.2.2.1 caE_1_1_1) aE_1.2.2.1, Ch.bx n0 b3 0 [(I aE_1.1), (I aE_1.2.1), (Sl aaE_1_1_1 aE_1.2.2.1 caE_1_1_1), (I aE_1.2.2.2)] [] [], Ch.own n0 n0 (Sl a38 r35.1.1 c39) r35.1.1, Ch.own n0 n0 (Sl a40 r35.1.2 c41) r35.1.2, Ch.bx n0 b42 0 [(Sl a38 r35.1.1 c39), (Sl a40 r35.1.2 c41)] [] [], Ch.bx n0 b56 0 [(Sl a48 r45.1 c49), (Sl a52 r45.2 c53)] [] [], Ch.own n0 n0 (Sl a63 r60.2.2.1 c64) r60.2.2.1, Ch.bx n0 b67 0 [(I r60.1), (I r60.2.1), (Sl a63 r60.2.2.1 c64), (I r60.2.2.2)] [] [], Ch.big K77, Ch.own n0 n0 (Sl a80 r72.1.2 c81) r72.1.2, Ch.bx n0 b83 0 [(Sl a75 r72.1.1 c76), (Sl a80 r72.1.2 c81)] [] []] := H.sel' [0, 1, 5, 6, 7, 8, 9, 10, 11, 12, 13, 14, 15, 16, 17, 18] rfl rfl
       refine st (v := (B (!r111))) (rv_not rfl) ?_
       refine w_end ?_
       refine q_then ?_
       refine cd_cond (!r111) rfl (fun hb115 => ?_) (fun hb115 => ?_)
       ·replace h := bif_t hb115 h
        refine c_seq ?_
        refine rg ?_
        refine st (v := (B false)) (rv_assign rfl) ?_
        refine w_end ?_
        refine q_then ?_
        refine c_ret ?_
        refine q_then_r ?_
        obtain rfl := Option.some.inj h
        exact fin_ret (v := (B false)) (results_ok Try.results6 (res_tmp (v := (B false)) rfl res_nil) rfl) ⟨rfl, rfl⟩ (H.sel' [] rfl rfl)
       ·replace h := bif_f hb115 h
        refine c_skip ?_
        refine q_then ?_
        refine c_seq ?_
        refine c_seq ?_
        have hc116 := H.cells 12 rfl
        have hc117 := H.cells 6 rfl
        obtain ⟨r118, hx119, h'⟩ := bind_some h
        clear h
        have h := h'; clear h'
        have hc120 := c_laws_toEntry (aa_0_1_1 := aaE_1_1_1) (ca_0_1_1 := caE_1_1_1) hx119
        have Hs := H
        refine rg2 (σ := σ114) (Nm := (Option Addr) × (Nat)) 3 [2] [[false], [true]] [[(0, 0), (1, 1)], [(0, 0)], [(0, 1)]] 1 [fun ((a121, c122) : (Option Addr) × (Nat)) => fun σm => Hp S0 σ0 σm [Ch.big K50, Ch.own n0 n0 (Sl a52 r45.2 c53) r45.2, Ch.ro 0 (Sl aaH_0_0 aH_0.1 caH_0_0) aH_0.1, Ch.ro 0 (Sl aaH_0_1 aH_0.2 caH_0_1) aH_0.2, Ch.bx n0 b1 0 [(Sl aaH_0_0 aH_0.1 caH_0_0), (Sl aaH_0_1 aH_0.2 caH_0_1)] [] [], Ch.ro 0 (Sl aaE_1_1_1 aE_1.2.2.1 caE_1_1_1) aE_1.2.2.1, Ch.bx n0 b3 0 [(I aE_1.1), (I aE_1.2.1), (Sl aaE_1_1_1 aE_1.2.2.1 caE_1_1_1), (I aE_1.2.2.2)] [] [], Ch.own n0 n0 (Sl a38 r35.1.1 c39) r35.1.1, Ch.own n0 n0 (Sl a40 r35.1.2 c41) r35.1.2, Ch.bx n0 b42 0 [(Sl a38 r35.1.1 c39), (Sl a40 r35.1.2 c41)] [] [], Ch.bx n0 b56 0 [(Sl a48 r45.1 c49), (Sl a52 r45.2 c53)] [] [], Ch.own n0 n0 (Sl a63 r60.2.2.1 c64) r60.2.2.1, Ch.bx n0 b67 0 [(I r60.1), (I r60.2.1), (Sl a63 r60.2.2.1 c64), (I r60.2.2.2)] [] [], Ch.big K77, Ch.own n0 n0 (Sl a80 r72.1.2 c81) r72.1.2, Ch.bx n0 b83 0 [(Sl a75 r72.1.1 c76), (Sl a80 r72.1.2 c81)] [] []] ∧ Md (cov []) σ114 σm, fun ((a121, c122) : (Option Addr) × (Nat)) => fun σm => Hp S0 σ0 σm [Ch.own n0 n0 (Sl a121 r118.2.2.1 c122) r118.2.2.1, Ch.big K50, Ch.own n0 n0 (Sl a52 r45.2 c53) r45.2, Ch.ro 0 (Sl aaH_0_0 aH_0.1 caH_0_0) aH_0.1, Ch.ro 0 (Sl aaH_0_1 aH_0.2 caH_0_1) aH_0.2, Ch.bx n0 b1 0 [(Sl aaH_0_0 aH_0.1 caH_0_0), (Sl aaH_0_1 aH_0.2 caH_0_1)] [] [], Ch.ro 0 (Sl aaE_1_1_1 aE_1.2.2.1 caE_1_1_1) aE_1.2.2.1, Ch.bx n0 b3 0 [(I aE_1.1), (I aE_1.2.1), (Sl aaE_1_1_1 aE_1.2.2.1 caE_1_1_1), (I aE_1.2.2.2)] [] [], Ch.own n0 n0 (Sl a38 r35.1.1 c39) r35.1.1, Ch.own n0 n0 (Sl a40 r35.1.2 c41) r35.1.2, Ch.bx n0 b42 0 [(Sl a38 r35.1.1 c39), (Sl a40 r35.1.2 c41)] [] [], Ch.bx n0 b56 0 [(Sl a48 r45.1 c49), (Sl a52 r45.2 c53)] [] [], Ch.own n0 n0 (Sl a63 r60.2.2.1 c64) r60.2.2.1, Ch.bx n0 b67 0 [(I r60.1), (I r60.2.1), (Sl a63 r60.2.2.1 c64), (I r60.2.2.2)] [] [], Ch.big K77, Ch.own n0 n0 (Sl a80 r72.1.2 c81) r72.1.2, Ch.bx n0 b83 0 [(Sl a75 r72.1.1 c76), (Sl a80 r72.1.2 c81)] [] []] ∧ Md (cov []) σ114 σm ∧ c122 = r118.2.2.1.length] [fun ((a121, c122) : (Option Addr) × (Nat)) => (.agg #[(I r60.1), (I r60.2.1), (Sl a63 r60.2.2.1 c64), (I r60.2.2.2)]), fun ((a121, c122) : (Option Addr) × (Nat)) => (.agg #[(I aE_1.1), (I aE_1.2.1), (Sl aaE_1_1_1 aE_1.2.2.1 caE_1_1_1), (I aE_1.2.2.2)]), fun ((a121, c122) : (Option Addr) × (Nat)) => (.agg #[(I r118.1), (I r118.2.1), (Sl a121 r118.2.2.1 c122), (I r118.2.2.2)])] (none, 0) (by kernel_rfl) (by kernel_rfl) ?_ ?_ ?_
        ·intro σm m0
         exact ⟨H.grow (m0.mono fun _ h => h.elim), m0⟩
        ·refine all_cons (by
           refine ⟨?_, ?_⟩
           ·rintro ⟨a121, c122⟩ ρ σm hJ hoff hdep
            have e11 := look_off (N := 124) (hoff 11 rfl) rfl
            obtain ⟨H, m⟩ := id hJ
            have hc116 := H.cells 12 rfl
            exact dp_v (v := (.agg #[(I r60.1), (I r60.2.1), (Sl a63 r60.2.2.1 c64), (I r60.2.2.2)])) wn (rv_load (cs := [(I r60.1), (I r60.2.1), (Sl a63 r60.2.2.1 c64), (I r60.2.2.2)]) Try.underlying56 rfl ti56 e11 rfl hc116) rfl hJ
           refine ⟨?_, ?_⟩
           ·rintro ⟨a121, c122⟩ ρ σm hJ hoff hdep
            have e11 := look_off (N := 124) (hoff 11 rfl) rfl
            obtain ⟨H, m, ht123⟩ := id hJ
            have hc116 := H.cells 13 rfl
            exact dp_v (v := (.agg #[(I r60.1), (I r60.2.1), (Sl a63 r60.2.2.1 c64), (I r60.2.2.2)])) wn (rv_load (cs := [(I r60.1), (I r60.2.1), (Sl a63 r60.2.2.1 c64), (I r60.2.2.2)]) Try.underlying56 rfl ti56 e11 rfl hc116) rfl hJ
           trivial) ?_
         refine all_cons (by
           refine ⟨?_, ?_⟩
           ·rintro ⟨a121, c122⟩ ρ σm hJ hoff hdep
            have e4 := look_off (N := 124) (hoff 4 rfl) rfl
            obtain ⟨H, m⟩ := id hJ
            have hc117 := H.cells 6 rfl
            exact dp_v (v := (.agg #[(I aE_1.1), (I aE_1.2.1), (Sl aaE_1_1_1 aE_1.2.2.1 caE_1_1_1), (I aE_1.2.2.2)])) wn (rv_load (cs := [(I aE_1.1), (I aE_1.2.1), (Sl aaE_1_1_1 aE_1.2.2.1 caE_1_1_1), (I aE_1.2.2.2)]) Try.underlying51 rfl ti51 e4 rfl hc117) rfl hJ
           trivial) ?_
         refine all_cons (by
           refine ⟨?_, ?_⟩
           ·rintro ⟨a121, c122⟩ ρ σm hJ hoff hdep
            have e64 : look 124 ρ 64 = (.agg #[(I aE_1.1), (I aE_1.2.1), (Sl aaE_1_1_1 aE_1.2.2.1 caE_1_1_1), (I aE_1.2.2.2)]) := hdep 1 rfl rfl 64 rfl
            obtain ⟨H, m⟩ := id hJ
            refine dp_cx wn (cx_call hc120 (ent_f hc120.fn (by show [look 124 ρ 64] = _; rw [e64])) hn0 (show Hp S0 σ0 _ ([Ch.ro 0 (Sl aaE_1_1_1 aE_1.2.2.1 caE_1_1_1) aE_1.2.2.1] ++ [Ch.big K50, Ch.own n0 n0 (Sl a52 r45.2 c53) r45.2, Ch.ro 0 (Sl aaH_0_0 aH_0.1 caH_0_0) aH_0.1, Ch.ro 0 (Sl aaH_0_1 aH_0.2 caH_0_1) aH_0.2, Ch.bx n0 b1 0 [(Sl aaH_0_0 aH_0.1 caH_0_0), (Sl aaH_0_1 aH_0.2 caH_0_1)] [] [], Ch.ro 0 (Sl aaE_1_1_1 aE_1.2.2.1 caE_1_1_1) aE_1.2.2.1, Ch.bx n0 b3 0 [(I aE_1.1), (I aE_1.2.1), (Sl aaE_1_1_1 aE_1.2.2.1 caE_1_1_1), (I aE_1.2.2.2)] [] [], Ch.own n0 n0 (Sl a38 r35.1.1 c39) r35.1.1, Ch.own n0 n0 (Sl a40 r35.1.2 c41) r35.1.2, Ch.bx n0 b42 0 [(Sl a38 r35.1.1 c39), (Sl a40 r35.1.2 c41)] [] [], Ch.bx n0 b56 0 [(Sl a48 r45.1 c49), (Sl a52 r45.2 c53)] [] [], Ch.own n0 n0 (Sl a63 r60.2.2.1 c64) r60.2.2.1, Ch.bx n0 b67 0 [(I r60.1), (I r60.2.1), (Sl a63 r60.2.2.1 c64), (I r60.2.2.2)] [] [], Ch.big K77, Ch.own n0 n0 (Sl a80 r72.1.2 c81) r72.1.2, Ch.bx n0 b83 0 [(Sl a75 r72.1.1 c76), (Sl a80 r72.1.2 c81)] [] []]) from (H.sel' [5, 0, 1, 2, 3, 4, 5, 6, 7, 8, 9, 10, 11, 12, 13, 14, 15] rfl rfl))) ?_
            rintro _ σq ⟨_, ⟨a121x, c122x, rfl, rfl, ht123⟩, H2, m2⟩
            exact ⟨_, (a121x, c122x), rfl, rfl, ⟨H2.sel' [0, 1, 2, 3, 4, 5, 6, 7, 8, 9, 10, 11, 12, 13, 14, 15, 16] rfl rfl, m.comp0 (m2.mono (fun i h => by simp [cov, Ch.ro] at h)), ht123⟩, stab [0, 1] (by kernel_rfl) ⟨rfl, rfl, trivial⟩⟩
           trivial) ?_
         exact all_nil
        ·rintro ⟨a121, c122⟩ ρ σ124 hJ hoff hrel
         have e2 := look_off (N := 124) (hoff 2 rfl) rfl
         have e3 := look_off (N := 124) (hoff 3 rfl) rfl
         have e4 := look_off (N := 124) (hoff 4 rfl) rfl
         have e8 := look_off (N := 124) (hoff 8 rfl) rfl
         have e9 := look_off (N := 124) (hoff 9 rfl) rfl
         have e10 := look_off (N := 124) (hoff 10 rfl) rfl
         have e11 := look_off (N := 124) (hoff 11 rfl) rfl
         have e12 := look_off (N := 124) (hoff 12 rfl) rfl
         have e13 := look_off (N := 124) (hoff 13 rfl) rfl
         have e63 := hrel 0 rfl 63 rfl
         have e65 := hrel 2 rfl 65 rfl
         obtain ⟨H, -, ht123⟩ := (show Hp S0 σ0 σ124 [Ch.own n0 n0 (Sl a121 r118.2.2.1 c122) r118.2.2.1, Ch.big K50, Ch.own n0 n0 (Sl a52 r45.2 c53) r45.2, Ch.ro 0 (Sl aaH_0_0 aH_0.1 caH_0_0) aH_0.1, Ch.ro 0 (Sl aaH_0_1 aH_0.2 caH_0_1) aH_0.2, Ch.bx n0 b1 0 [(Sl aaH_0_0 aH_0.1 caH_0_0), (Sl aaH_0_1 aH_0.2 caH_0_1)] [] [], Ch.ro 0 (Sl aaE_1_1_1 aE_1.2.2.1 caE_1_1_1) aE_1.2.2.1, Ch.bx n0 b3 0 [(I aE_1.1), (I aE_1.2.1), (Sl aaE_1_1_1 aE_1.2.2.1 caE_1_1_1), (I aE_1.2.2.2)] [] [], Ch.own n0 n0 (Sl a38 r35.1.1 c39) r35.1.1, Ch.own n0 n0 (Sl a40 r35.1.2 c41) r35.1.2, Ch.bx n0 b42 0 [(Sl a38 r35.1.1 c39), (Sl a40 r35.1.2 c41)] [] [], Ch.bx n0 b56 0 [(Sl a48 r45.1 c49), (Sl a52 r45.2 c53)] [] [], Ch.own n0 n0 (Sl a63 r60.2.2.1 c64) r60.2.2.1, Ch.bx n0 b67 0 [(I r60.1), (I r60.2.1), (Sl a63 r60.2.2.1 c64), (I r60.2.2.2)] [] [], Ch.big K77, Ch.own n0 n0 (Sl a80 r72.1.2 c81) r72.1.2, Ch.bx n0 b83 0 [(Sl a75 r72.1.1 c76), (Sl a80 r72.1.2 c81)] [] []] ∧ Md (cov []) σ114 σ124 ∧ c122 = r118.2.2.1.length from hJ)
         clear hJ Hs
         rw [fr_lookL (L := [(2, (I aT_2)), (3, (pt b1 0)), (4, (pt b3 0)), (8, (pt b42 0)), (9, (B r35.2)), (10, (pt b56 0)), (11, (pt b67 0)), (12, (pt b83 0)), (13, (B r72.2)), (63, (.agg #[(I r60.1), (I r60.2.1), (Sl a63 r60.2.2.1 c64), (I r60.2.2.2)])), (65, (.agg #[(I r118.1), (I r118.2.1), (Sl a121 r118.2.2.1 c122), (I r118.2.2.2)]))]) ⟨e2, e3, e4, e8, e9, e10, e11, e12, e13, e63, e65, trivial⟩]
         clear hoff hrel e2 e3 e4 e8 e9 e10 e11 e12 e13 e63 e65
         obtain ⟨σ125, hw126, H, -⟩ := H.pub 0 rfl (Nat.le_refl _)
         rw [← hw126]; clear hw126
         replace H := H.roLow 0 0 rfl (Nat.zero_le _)
         obtain ⟨r127, hx128, h'⟩ := bind_some h
         clear h
         have h := h'; clear h'
         have hc129 := c_laws_eqEntry (aa_0_1_1 := a63) (ca_0_1_1 := c64) (ab_1_1_1 := a121) (cb_1_1_1 := c122) hx128
         have hle := Nat.le_trans hn0 H.size
         refine st_call (cx_lend (Loan.lend (Loan.same Loan.nil)) hc129 (ent_f hc129.fn rfl) (show Hp S0 σ0 _ ([Ch.own n0 n0 (Sl a63 r60.2.2.1 c64) r60.2.2.1] ++ ([Ch.ro 0 (Sl a121 r118.2.2.1 c122) r118.2.2.1] ++ [Ch.ro 0 (Sl a121 r118.2.2.1 c122) r118.2.2.1, Ch.ro n0 (Sl a121 r118.2.2.1 c122) r118.2.2.1, Ch.big K50, Ch.own n0 n0 (Sl a52 r45.2 c53) r45.2, Ch.ro 0 (Sl aaH_0_0 aH_0.1 caH_0_0) aH_0.1, Ch.ro 0 (Sl aaH_0_1 aH_0.2 caH_0_1) aH_0.2, Ch.bx n0 b1 0 [(Sl aaH_0_0 aH_0.1 caH_0_0), (Sl aaH_0_1 aH_0.2 caH_0_1)] [] [], Ch.ro 0 (Sl aaE_1_1_1 aE_1.2.2.1 caE_1_1_1) aE_1.2.2.1, Ch.bx n0 b3 0 [(I aE_1.1), (I aE_1.2.1), (Sl aaE_1_1_1 aE_1.2.2.1 caE_1_1_1), (I aE_1.2.2.2)] [] [], Ch.own n0 n0 (Sl a38 r35.1.1 c39) r35.1.1, Ch.own n0 n0 (Sl a40 r35.1.2 c41) r35.1.2, Ch.bx n0 b42 0 [(Sl a38 r35.1.1 c39), (Sl a40 r35.1.2 c41)] [] [], Ch.bx n0 b56 0 [(Sl a48 r45.1 c49), (Sl a52 r45.2 c53)] [] [], Ch.bx n0 b67 0 [(I r60.1), (I r60.2.1), (Sl a63 r60.2.2.1 c64), (I r60.2.2.2)] [] [], Ch.big K77, Ch.own n0 n0 (Sl a80 r72.1.2 c81) r72.1.2, Ch.bx n0 b83 0 [(Sl a75 r72.1.1 c76), (Sl a80 r72.1.2 c81)] [] []])) from (H.sel' [13, 0, 0, 1, 2, 3, 4, 5, 6, 7, 8, 9, 10, 11, 12, 14, 15, 16, 17] rfl rfl)) (by rintro _ _ _ ⟨rfl, rfl⟩; exact trivial)) wn ?_
         rintro _ σ130 ⟨_, ⟨rfl, rfl⟩, H, -, -⟩
         replace H : Hp S0 σ0 σ130 [Ch.own n0 n0 (Sl a63 r60.2.2.1 c64) r60.2.2.1, Ch.ro 0 (Sl a121 r118.2.2.1 c122) r118.2.2.1, Ch.ro n0 (Sl a121 r118.2.2.1 c122) r118.2.2.1, Ch.big K50, Ch.own n0 n0 (Sl a52 r45.2 c53) r45.2, Ch.ro 0 (Sl aaH_0_0 aH_0.1 caH_0_0) aH_0.1, Ch.ro 0 (Sl aaH_0_1 aH_0.2 caH_0_1) aH_0.2, Ch.bx n0 b1 0 [(Sl aaH_0_0 aH_0.1 caH_0_0), (Sl aaH_0_1 aH_0.2 caH_0_1)] [] [], Ch.ro 0 (Sl aaE_1_1_1 aE_1.2.2.1 caE_1_1_1) aE_1.2.2.1, Ch.bx n0 b3 0 [(I aE_1.1), (I aE_1.2.1), (Sl aaE_1_1_1 aE_1.2.2.1 caE_1_1_1), (I aE_1.2.2.2)] [] [], Ch.own n0 n0 (Sl a38 r35.1.1 c39) r35.1.1, Ch.own n0 n0 (Sl a40 r35.1.2 c41) r35.1.2, Ch.bx n0 b42 0 [(Sl a38 r35.1.1 c39), (Sl a40 r35.1.2 c41)] [] [], Ch.bx n0 b56 0 [(Sl a48 r45.1 c49), (Sl a52 r45.2 c53)] [] [], Ch.bx n0 b67 0 [(I r60.1), (I r60.2.1), (Sl a63 r60.2.2.1 c64), (I r60.2.2.2)] [] [], Ch.big K77, Ch.own n0 n0 (Sl a80 r72.1.2 c81) r72.1.2, Ch.bx n0 b83 0 [(Sl a75 r72.1.1 c76), (Sl a80 r72.1.2 c81)] [] []] := H
         clear hle
         replace H : Hp S0 σ0 σ130 [Ch.own n0 n0 (Sl a63 r60.2.2.1 c64) r60.2.2.1, Ch.ro 0 (Sl a121 r118.2.2.1 c122) r118.2.2.1, Ch.ro n0 (Sl a121 r118.2.2.1 c122) r118.2.2.1, Ch.big K50, Ch.own n0 n0 (Sl a52 r45.2 c53) r45.2, Ch.ro 0 (Sl aaH_0_0 aH_0.1 caH_0_0) aH_0.1, Ch.ro 0 (Sl aaH_0_1 aH_0.2 caH_0_1) aH_0.2, Ch.bx n0 b1 0 [(Sl aaH_0_0 aH_0.1 caH_0_0), (Sl aaH_0_1 aH_0.2 caH_0_1)] [] [], Ch.ro 0 (Sl aaE_1_1_1 aE_1.2.2.1 caE_1_1_1) aE_1.2.2.1, Ch.bx n0 b3 0 [(I aE_1.1), (I aE_1.2.1), (Sl aaE_1_1_1 aE_1.2.2.1 caE_1_1_1), (I aE_1.2.2.2)] [] [], Ch.own n0 n0 (Sl a38 r35.1.1 c39) r35.1.1, Ch.own n0 n0 (Sl a40 r35.1.2 c41) r35.1.2, Ch.bx n0 b42 0 [(Sl a38 r35.1.1 c39), (Sl a40 r35.1.2 c41)] [] [], Ch.bx n0 b56 0 [(Sl a48 r45.1 c49), (Sl a52 r45.2 c53)] [] [], Ch.bx n0 b67 0 [(I r60.1), (I r60.2.1), (Sl a63 r60.2.2.1 c64), (I r60.2.2.2)] [] [], Ch.big K77, Ch.own n0 n0 (Sl a80 r72.1.2 c81) r72.1.2, Ch.bx n0 b83 0 [(Sl a75 r72.1.1 c76), (Sl a80 r72.1.2 c81)] [] []] := H
         replace H : Hp S0 σ0 σ130 [Ch.own n0 n0 (Sl a63 r60.2.2.1 c64) r60.2.2.1, Ch.big K50, Ch.own n0 n0 (Sl a52 r45.2 c53) r45.2, Ch.ro 0 (Sl aaH_0_0 aH_0.1 caH_0_0) aH_0.1, Ch.ro 0 (Sl aaH_0_1 aH_0.2 caH_0_1) aH_0.2, Ch.bx n0 b1 0 [(Sl aaH_0_0 aH_0.1 caH_0_0), (Sl aaH_0_1 aH_0.2 caH_0_1)] [] [], Ch.ro 0 (Sl aaE_1_1_1 aE_1.2.2.1 caE_1_1_1) aE_1.2.2.1, Ch.bx n0 b3 0 [(I aE_1.1), (I aE_1.2.1), (Sl aaE_1_1_1 aE_1.2.2.1 caE_1_1_1), (I aE_1.2.2.2)] [] [], Ch.own n0 n0 (Sl a38 r35.1.1 c39) r35.1.1, Ch.own n0 n0 (Sl a40 r35.1.2 c41) r35.1.2, Ch.bx n0 b42 0 [(Sl a38 r35.1.1 c39), (Sl a40 r35.1.2 c41)] [] [], Ch.bx n0 b56 0 [(Sl a48 r45.1 c49), (Sl a52 r45.2 c53)] [] [], Ch.bx n0 b67 0 [(I r60.1), (I r60.2.1), (Sl a63 r60.2.2.1 c64), (I r60.2.2.2)] [] [], Ch.big K77, Ch.own n0 n0 (Sl a80 r72.1.2 c81) r72.1.2, Ch.bx n0 b83 0 [(Sl a75 r72.1.1 c76), (Sl a80 r72.1.2 c81)] [] []] := H.sel' [0, 3, 4, 5, 6, 7, 8, 9, 10, 11, 12, 13, 14, 15, 16, 17] rfl rfl
         refine st (v := (B (!r127))) (rv_not rfl) ?_
         refine w_end ?_
         refine q_then ?_
         refine cd_cond (!r127) rfl (fun hb131 => ?_) (fun hb131 => ?_)
         ·replace h := bif_t hb131 h
          refine c_seq ?_
          refine rg ?_
          refine st (v := (B false)) (rv_assign rfl) ?_
          refine w_end ?_
          refine q_then ?_
          refine c_ret ?_
          refine q_then_r ?_
          obtain rfl := Option.some.inj h
          exact fin_ret (v := (B false)) (results_ok Try.results6 (res_tmp (v := (B false)) rfl res_nil) rfl) ⟨rfl, rfl⟩ (H.sel' [] rfl rfl)
         ·replace h := bif_f hb131 h
          refine c_skip ?_
          refine q_then ?_
          refine c_seq ?_
          refine rg ?_
          refine st (v := (I 1)) (rv_assign rfl) ?_
          refine w_end ?_
          refine q_then ?_
          refine c_seq ?_
          refine rg ?_
          have hc132 := H.cells 11 rfl
          refine st (v := (.agg #[(Sl a48 r45.1 c49), (Sl a52 r45.2 c53)])) (rv_load (cs := [(Sl a48 r45.1 c49), (Sl a52 r45.2 c53)]) Try.underlying26 rfl ti26 rfl rfl hc132) ?_
          refine st (v := (I 1)) (rv_move rfl) ?_
          replace H := H.ownLow 2 0 0 rfl (Nat.zero_le _) (Nat.zero_le _)
          obtain ⟨r133, hx134, h'⟩ := bind_some h
          clear h
          have h := h'; clear h'
          have hc135 := c_laws_markHistoryB (aa_0_0 := a48) (ca_0_0 := c49) (hKa_0_0 := hK51) (aa_0_1 := a52) (ca_0_1 := c53) hx134
          refine st_call (cx_call hc135 (ent_f hc135.fn rfl) hn0 (show Hp S0 σ0 _ ([Ch.big K50, Ch.own 0 0 (Sl a52 r45.2 c53) r45.2] ++ [Ch.own n0 n0 (Sl a63 r60.2.2.1 c64) r60.2.2.1, Ch.ro 0 (Sl aaH_0_0 aH_0.1 caH_0_0) aH_0.1, Ch.ro 0 (Sl aaH_0_1 aH_0.2 caH_0_1) aH_0.2, Ch.bx n0 b1 0 [(Sl aaH_0_0 aH_0.1 caH_0_0), (Sl aaH_0_1 aH_0.2 caH_0_1)] [] [], Ch.ro 0 (Sl aaE_1_1_1 aE_1.2.2.1 caE_1_1_1) aE_1.2.2.1, Ch.bx n0 b3 0 [(I aE_1.1), (I aE_1.2.1), (Sl aaE_1_1_1 aE_1.2.2.1 caE_1_1_1), (I aE_1.2.2.2)] [] [], Ch.own n0 n0 (Sl a38 r35.1.1 c39) r35.1.1, Ch.own n0 n0 (Sl a40 r35.1.2 c41) r35.1.2, Ch.bx n0 b42 0 [(Sl a38 r35.1.1 c39), (Sl a40 r35.1.2 c41)] [] [], Ch.bx n0 b56 0 [(Sl a48 r45.1 c49), (Sl a52 r45.2 c53)] [] [], Ch.bx n0 b67 0 [(I r60.1), (I r60.2.1), (Sl a63 r60.2.2.1 c64), (I r60.2.2.2)] [] [], Ch.big K77, Ch.own n0 n0 (Sl a80 r72.1.2 c81) r72.1.2, Ch.bx n0 b83 0 [(Sl a75 r72.1.1 c76), (Sl a80 r72.1.2 c81)] [] []]) from (H.sel' [2, 0, 1, 3, 4, 5, 6, 7, 8, 9, 10, 11, 12, 13, 14, 15] rfl rfl))) wn ?_
          rintro _ σ138 ⟨_, ⟨rfl, rfl, hn136, hn137⟩, H, -⟩
          replace H : Hp S0 σ0 σ138 [Ch.ro 0 (Sl a48 r133.2.1 c49) r133.2.1, Ch.own 0 0 (Sl a52 r133.2.2 c53) r133.2.2, Ch.own n0 n0 (Sl a63 r60.2.2.1 c64) r60.2.2.1, Ch.ro 0 (Sl aaH_0_0 aH_0.1 caH_0_0) aH_0.1, Ch.ro 0 (Sl aaH_0_1 aH_0.2 caH_0_1) aH_0.2, Ch.bx n0 b1 0 [(Sl aaH_0_0 aH_0.1 caH_0_0), (Sl aaH_0_1 aH_0.2 caH_0_1)] [] [], Ch.ro 0 (Sl aaE_1_1_1 aE_1.2.2.1 caE_1_1_1) aE_1.2.2.1, Ch.bx n0 b3 0 [(I aE_1.1), (I aE_1.2.1), (Sl aaE_1_1_1 aE_1.2.2.1 caE_1_1_1), (I aE_1.2.2.2)] [] [], Ch.own n0 n0 (Sl a38 r35.1.1 c39) r35.1.1, Ch.own n0 n0 (Sl a40 r35.1.2 c41) r35.1.2, Ch.bx n0 b42 0 [(Sl a38 r35.1.1 c39), (Sl a40 r35.1.2 c41)] [] [], Ch.bx n0 b56 0 [(Sl a48 r45.1 c49), (Sl a52 r45.2 c53)] [] [], Ch.bx n0 b67 0 [(I r60.1), (I r60.2.1), (Sl a63 r60.2.2.1 c64), (I r60.2.2.2)] [] [], Ch.big K77, Ch.own n0 n0 (Sl a80 r72.1.2 c81) r72.1.2, Ch.bx n0 b83 0 [(Sl a75 r72.1.1 c76), (Sl a80 r72.1.2 c81)] [] []] := H
          have hsl : (Sl a48 r45.1 c49) = (Sl a48 r133.2.1 c49) := sl_len hn136.symm
          try rw [hsl]
          try rw [hsl] at H
          clear hsl
          have hsl : (Sl a52 r45.2 c53) = (Sl a52 r133.2.2 c53) := sl_len hn137.symm
          try rw [hsl]
          try rw [hsl] at H
          clear hsl
          replace H : Hp S0 σ0 σ138 [Ch.own n0 n0 (Sl a63 r60.2.2.1 c64) r60.2.2.1, Ch.ro 0 (Sl aaH_0_0 aH_0.1 caH_0_0) aH_0.1, Ch.ro 0 (Sl aaH_0_1 aH_0.2 caH_0_1) aH_0.2, Ch.bx n0 b1 0 [(Sl aaH_0_0 aH_0.1 caH_0_0), (Sl aaH_0_1 aH_0.2 caH_0_1)] [] [], Ch.ro 0 (Sl aaE_1_1_1 aE_1.2.2.1 caE_1_1_1) aE_1.2.2.1, Ch.bx n0 b3 0 [(I aE_1.1), (I aE_1.2.1), (Sl aaE_1_1_1 aE_1.2.2.1 caE_1_1_1), (I aE_1.2.2.2)] [] [], Ch.own n0 n0 (Sl a38 r35.1.1 c39) r35.1.1, Ch.own n0 n0 (Sl a40 r35.1.2 c41) r35.1.2, Ch.bx n0 b42 0 [(Sl a38 r35.1.1 c39), (Sl a40 r35.1.2 c41)] [] [], Ch.bx n0 b67 0 [(I r60.1), (I r60.2.1), (Sl a63 r60.2.2.1 c64), (I r60.2.2.2)] [] [], Ch.big K77, Ch.own n0 n0 (Sl a80 r72.1.2 c81) r72.1.2, Ch.bx n0 b83 0 [(Sl a75 r72.1.1 c76), (Sl a80 r72.1.2 c81)] [] []] := H.sel' [2, 3, 4, 5, 6, 7, 8, 9, 10, 12, 13, 14, 15] rfl rfl
          refine st (v := (I r133.1)) (rv_assign rfl) ?_
          refine w_end ?_
          refine q_then ?_
          refine c_seq ?_
          refine rg ?_
          have hc139 := H.cells 9 rfl
          refine st (v := (.agg #[(I r60.1), (I r60.2.1), (Sl a63 r60.2.2.1 c64), (I r60.2.2.2)])) (rv_load (cs := [(I r60.1), (I r60.2.1), (Sl a63 r60.2.2.1 c64), (I r60.2.2.2)]) Try.underlying56 rfl ti56 rfl rfl hc139) ?_
          refine st (v := (I r133.1)) (rv_move rfl) ?_
          replace H := H.ownLow 0 0 0 rfl (Nat.zero_le _) (Nat.zero_le _)
          obtain ⟨r140, hx141, h'⟩ := bind_some h
          clear h
          have h := h'; clear h'
          have hc142 := c_laws_markEntry (aa_0_1_1 := a63) (ca_0_1_1 := c64) hx141
          refine st_call (cx_call hc142 (ent_f hc142.fn rfl) hn0 (show Hp S0 σ0 _ ([Ch.own 0 0 (Sl a63 r60.2.2.1 c64) r60.2.2.1] ++ [Ch.ro 0 (Sl aaH_0_0 aH_0.1 caH_0_0) aH_0.1, Ch.ro 0 (Sl aaH_0_1 aH_0.2 caH_0_1) aH_0.2, Ch.bx n0 b1 0 [(Sl aaH_0_0 aH_0.1 caH_0_0), (Sl aaH_0_1 aH_0.2 caH_0_1)] [] [], Ch.ro 0 (Sl aaE_1_1_1 aE_1.2.2.1 caE_1_1_1) aE_1.2.2.1, Ch.bx n0 b3 0 [(I aE_1.1), (I aE_1.2.1), (Sl aaE_1_1_1 aE_1.2.2.1 caE_1_1_1), (I aE_1.2.2.2)] [] [], Ch.own n0 n0 (Sl a38 r35.1.1 c39) r35.1.1, Ch.own n0 n0 (Sl a40 r35.1.2 c41) r35.1.2, Ch.bx n0 b42 0 [(Sl a38 r35.1.1 c39), (Sl a40 r35.1.2 c41)] [] [], Ch.bx n0 b67 0 [(I r60.1), (I r60.2.1), (Sl a63 r60.2.2.1 c64), (I r60.2.2.2)] [] [], Ch.big K77, Ch.own n0 n0 (Sl a80 r72.1.2 c81) r72.1.2, Ch.bx n0 b83 0 [(Sl a75 r72.1.1 c76), (Sl a80 r72.1.2 c81)] [] []]) from (H.sel' [0, 1, 2, 3, 4, 5, 6, 7, 8, 9, 10, 11, 12] rfl rfl))) wn ?_
          rintro _ σ144 ⟨_, ⟨rfl, rfl, hn143⟩, H, -⟩
          replace H : Hp S0 σ0 σ144 [Ch.own 0 0 (Sl a63 r140.2 c64) r140.2, Ch.ro 0 (Sl aaH_0_0 aH_0.1 caH_0_0) aH_0.1, Ch.ro 0 (Sl aaH_0_1 aH_0.2 caH_0_1) aH_0.2, Ch.bx n0 b1 0 [(Sl aaH_0_0 aH_0.1 caH_0_0), (Sl aaH_0_1 aH_0.2 caH_0_1)] [] [], Ch.ro 0 (Sl aaE_1_1_1 aE_1.2.2.1 caE_1_1_1) aE_1.2.2.1, Ch.bx n0 b3 0 [(I aE_1.1), (I aE_1.2.1), (Sl aaE_1_1_1 aE_1.2.2.1 caE_1_1_1), (I aE_1.2.2.2)] [] [], Ch.own n0 n0 (Sl a38 r35.1.1 c39) r35.1.1, Ch.own n0 n0 (Sl a40 r35.1.2 c41) r35.1.2, Ch.bx n0 b42 0 [(Sl a38 r35.1.1 c39), (Sl a40 r35.1.2 c41)] [] [], Ch.bx n0 b67 0 [(I r60.1), (I r60.2.1), (Sl a63 r60.2.2.1 c64), (I r60.2.2.2)] [] [], Ch.big K77, Ch.own n0 n0 (Sl a80 r72.1.2 c81) r72.1.2, Ch.bx n0 b83 0 [(Sl a75 r72.1.1 c76), (Sl a80 r72.1.2 c81)] [] []] := H
          have hsl : (Sl a63 r60.2.2.1 c64) = (Sl a63 r140.2 c64) := sl_len hn143.symm
          try rw [hsl]
          try rw [hsl] at H
          clear hsl
          replace H : Hp S0 σ0 σ144 [Ch.ro 0 (Sl aaH_0_0 aH_0.1 caH_0_0) aH_0.1, Ch.ro 0 (Sl aaH_0_1 aH_0.2 caH_0_1) aH_0.2, Ch.bx n0 b1 0 [(Sl aaH_0_0 aH_0.1 caH_0_0), (Sl aaH_0_1 aH_0.2 caH_0_1)] [] [], Ch.ro 0 (Sl aaE_1_1_1 aE_1.2.2.1 caE_1_1_1) aE_1.2.2.1, Ch.bx n0 b3 0 [(I aE_1.1), (I aE_1.2.1), (Sl aaE_1_1_1 aE_1.2.2.1 caE_1_1_1), (I aE_1.2.2.2)] [] [], Ch.own n0 n0 (Sl a38 r35.1.1 c39) r35.1.1, Ch.own n0 n0 (Sl a40 r35.1.2 c41) r35.1.2, Ch.bx n0 b42 0 [(Sl a38 r35.1.1 c39), (Sl a40 r35.1.2 c41)] [] [], Ch.big K77, Ch.own n0 n0 (Sl a80 r72.1.2 c81) r72.1.2, Ch.bx n0 b83 0 [(Sl a75 r72.1.1 c76), (Sl a80 r72.1.2 c81)] [] []] := H.sel' [1, 2, 3, 4, 5, 6, 7, 8, 10, 11, 12] rfl rfl
          refine st (v := (I r140.1)) (rv_assign rfl) ?_
          refine w_end ?_
          refine q_then ?_
          refine c_seq ?_
          refine c_seq ?_
          obtain ⟨o145, hj, h'⟩ := bind_some h
          clear h
          refine c_cut (fun e a w => e = .normal ∧ ∃ (ρ : Nat → Value) (σ : St), a = fr 124 (updL ρ [(2, (I aT_2)), (3, (pt b1 0)), (4, (pt b3 0)), (8, (pt b42 0)), (9, (B r35.2)), (12, (pt b83 0)), (86, (B o145))]) ∧ w = σ.w ∧ Hp S0 σ0 σ [Ch.ro 0 (Sl aaH_0_0 aH_0.1 caH_0_0) aH_0.1, Ch.ro 0 (Sl aaH_0_1 aH_0.2 caH_0_1) aH_0.2, Ch.bx n0 b1 0 [(Sl aaH_0_0 aH_0.1 caH_0_0), (Sl aaH_0_1 aH_0.2 caH_0_1)] [] [], Ch.ro 0 (Sl aaE_1_1_1 aE_1.2.2.1 caE_1_1_1) aE_1.2.2.1, Ch.bx n0 b3 0 [(I aE_1.1), (I aE_1.2.1), (Sl aaE_1_1_1 aE_1.2.2.1 caE_1_1_1), (I aE_1.2.2.2)] [] [], Ch.own n0 n0 (Sl a38 r35.1.1 c39) r35.1.1, Ch.own n0 n0 (Sl a40 r35.1.2 c41) r35.1.2, Ch.bx n0 b42 0 [(Sl a38 r35.1.1 c39), (Sl a40 r35.1.2 c41)] [] [], Ch.big K77, Ch.own n0 n0 (Sl a80 r72.1.2 c81) r72.1.2, Ch.bx n0 b83 0 [(Sl a75 r72.1.1 c76), (Sl a80 r72.1.2 c81)] [] []]) ?_ ?_
          ·clear h'
           rename _ = some o145 => h
           refine rg ?_
           refine st (v := (I r140.1)) (rv_move rfl) ?_
           refine st (v := (B (decide (r140.1 < 0)))) (rv_lss (a := r140.1) (b := 0) rfl rfl) ?_
           refine st (v := (B (decide (r140.1 < 0)))) (rv_move rfl) ?_
           rcases Bool.eq_false_or_eq_true (decide (r140.1 < 0)) with hb146 | hb146
           ·replace h := bif_t hb146 h
            refine st_skip (congrArg some hb146) ?_
            refine st_skip (congrArg some hb146) ?_
            refine st_skip (congrArg some hb146) ?_
            refine st_skip (congrArg some hb146) ?_
            refine st (v := (B true)) (rv_pick_t (congrArg B hb146) rfl) ?_
            refine st (v := (B true)) (rv_move rfl) ?_
            refine st_skip rfl ?_
            refine st_skip rfl ?_
            refine st_skip rfl ?_
            refine st (v := (B true)) (rv_pick_t rfl rfl) ?_
            refine w_end ?_
            obtain rfl := Option.some.inj h
            exact ⟨rfl, _, σ144, fr_join ⟨rfl, rfl, rfl, rfl, rfl, rfl, rfl, trivial⟩, rfl, H.sel' [0, 1, 2, 3, 4, 5, 6, 7, 8, 9, 10] rfl rfl⟩
           ·replace h := bif_f hb146 h
            have hc147 := H.cells 10 rfl
            refine st_g (v := (.agg #[(Sl a75 r72.1.1 c76), (Sl a80 r72.1.2 c81)])) (congrArg some hb146) (rv_load (cs := [(Sl a75 r72.1.1 c76), (Sl a80 r72.1.2 c81)]) Try.underlying26 rfl ti26 rfl rfl hc147) ?_
            have hc148 := H.cells 7 rfl
            refine st_g (v := (.agg #[(Sl a38 r35.1.1 c39), (Sl a40 r35.1.2 c41)])) (congrArg some hb146) (rv_load (cs := [(Sl a38 r35.1.1 c39), (Sl a40 r35.1.2 c41)]) Try.underlying26 rfl ti26 rfl rfl hc148) ?_
            obtain ⟨r149, hx150, h'⟩ := bind_some h
            clear h
            have h := h'; clear h'
            have hc151 := c_laws_eqHistory (aa_0_0 := a75) (ca_0_0 := c76) (aa_0_1 := a80) (ca_0_1 := c81) (ab_1_0 := a38) (cb_1_0 := c39) (ab_1_1 := a40) (cb_1_1 := c41) hx150
            have hle := Nat.le_trans hn0 H.size
            refine st_call (cx_lend (Loan.lendB hK78.lends (Loan.lend (Loan.lend (Loan.lend Loan.nil)))) hc151 (ent_f hc151.fn rfl) (show Hp S0 σ0 _ ([Ch.big K77, Ch.own n0 n0 (Sl a80 r72.1.2 c81) r72.1.2, Ch.own n0 n0 (Sl a38 r35.1.1 c39) r35.1.1, Ch.own n0 n0 (Sl a40 r35.1.2 c41) r35.1.2] ++ ([] ++ [Ch.ro 0 (Sl aaH_0_0 aH_0.1 caH_0_0) aH_0.1, Ch.ro 0 (Sl aaH_0_1 aH_0.2 caH_0_1) aH_0.2, Ch.bx n0 b1 0 [(Sl aaH_0_0 aH_0.1 caH_0_0), (Sl aaH_0_1 aH_0.2 caH_0_1)] [] [], Ch.ro 0 (Sl aaE_1_1_1 aE_1.2.2.1 caE_1_1_1) aE_1.2.2.1, Ch.bx n0 b3 0 [(I aE_1.1), (I aE_1.2.1), (Sl aaE_1_1_1 aE_1.2.2.1 caE_1_1_1), (I aE_1.2.2.2)] [] [], Ch.bx n0 b42 0 [(Sl a38 r35.1.1 c39), (Sl a40 r35.1.2 c41)] [] [], Ch.bx n0 b83 0 [(Sl a75 r72.1.1 c76), (Sl a80 r72.1.2 c81)] [] []])) from (H.sel' [8, 9, 5, 6, 0, 1, 2, 3, 4, 7, 10] rfl rfl)) (by rintro _ _ _ ⟨rfl, rfl⟩; exact trivial)) (wanted_yes rfl (by exact (congrArg some hb146))) ?_
            rintro _ σ152 ⟨_, ⟨rfl, rfl⟩, H, -, -⟩
            replace H : Hp S0 σ0 σ152 [Ch.big K77, Ch.own n0 n0 (Sl a80 r72.1.2 c81) r72.1.2, Ch.own n0 n0 (Sl a38 r35.1.1 c39) r35.1.1, Ch.own n0 n0 (Sl a40 r35.1.2 c41) r35.1.2, Ch.ro 0 (Sl aaH_0_0 aH_0.1 caH_0_0) aH_0.1, Ch.ro 0 (Sl aaH_0_1 aH_0.2 caH_0_1) aH_0.2, Ch.bx n0 b1 0 [(Sl aaH_0_0 aH_0.1 caH_0_0), (Sl aaH_0_1 aH_0.2 caH_0_1)] [] [], Ch.ro 0 (Sl aaE_1_1_1 aE_1.2.2.1 caE_1_1_1) aE_1.2.2.1, Ch.bx n0 b3 0 [(I aE_1.1), (I aE_1.2.1), (Sl aaE_1_1_1 aE_1.2.2.1 caE_1_1_1), (I aE_1.2.2.2)] [] [], Ch.bx n0 b42 0 [(Sl a38 r35.1.1 c39), (Sl a40 r35.1.2 c41)] [] [], Ch.bx n0 b83 0 [(Sl a75 r72.1.1 c76), (Sl a80 r72.1.2 c81)] [] []] := H
            clear hle
            replace H : Hp S0 σ0 σ152 [Ch.big K77, Ch.own n0 n0 (Sl a80 r72.1.2 c81) r72.1.2, Ch.own n0 n0 (Sl a38 r35.1.1 c39) r35.1.1, Ch.own n0 n0 (Sl a40 r35.1.2 c41) r35.1.2, Ch.ro 0 (Sl aaH_0_0 aH_0.1 caH_0_0) aH_0.1, Ch.ro 0 (Sl aaH_0_1 aH_0.2 caH_0_1) aH_0.2, Ch.bx n0 b1 0 [(Sl aaH_0_0 aH_0.1 caH_0_0), (Sl aaH_0_1 aH_0.2 caH_0_1)] [] [], Ch.ro 0 (Sl aaE_1_1_1 aE_1.2.2.1 caE_1_1_1) aE_1.2.2.1, Ch.bx n0 b3 0 [(I aE_1.1), (I aE_1.2.1), (Sl aaE_1_1_1 aE_1.2.2.1 caE_1_1_1), (I aE_1.2.2.2)] [] [], Ch.bx n0 b42 0 [(Sl a38 r35.1.1 c39), (Sl a40 r35.1.2 c41)] [] [], Ch.bx n0 b83 0 [(Sl a75 r72.1.1 c76), (Sl a80 r72.1.2 c81)] [] []] := H
            refine st_g (v := (B (!r149))) (congrArg some hb146) (rv_not rfl) ?_
            refine st (v := (B (!r149))) (rv_pick_f (congrArg B hb146) rfl) ?_
            refine st (v := (B (!r149))) (rv_move rfl) ?_
            rcases Bool.eq_false_or_eq_true (!r149) with hb153 | hb153
            ·replace h := bif_t hb153 h
             refine st_skip (congrArg some hb153) ?_
             refine st_skip (congrArg some hb153) ?_
             refine st_skip (congrArg some hb153) ?_
             refine st (v := (B true)) (rv_pick_t (congrArg B hb153) rfl) ?_
             refine w_end ?_
             obtain rfl := Option.some.inj h
             exact ⟨rfl, _, σ152, fr_join ⟨rfl, rfl, rfl, rfl, rfl, rfl, rfl, trivial⟩, rfl, H.sel' [4, 5, 6, 7, 8, 2, 3, 9, 0, 1, 10] rfl rfl⟩
            ·replace h := bif_f hb153 h
             refine st_g (v := (B r72.2)) (congrArg some hb153) (rv_move rfl) ?_
             refine st_g (v := (B r35.2)) (congrArg some hb153) (rv_move rfl) ?_
             refine st_g (v := (B (r72.2 != r35.2))) (congrArg some hb153) (rv_bneq Try.underlying4 rfl rfl) ?_
             refine st (v := (B (r72.2 != r35.2))) (rv_pick_f (congrArg B hb153) rfl) ?_
             refine w_end ?_
             obtain rfl := Option.some.inj h
             exact ⟨rfl, _, σ152, fr_join ⟨rfl, rfl, rfl, rfl, rfl, rfl, rfl, trivial⟩, rfl, H.sel' [4, 5, 6, 7, 8, 2, 3, 9, 0, 1, 10] rfl rfl⟩
          ·clear hj
           have h := h'
           clear h' H
           rintro e a w ⟨rfl, ρ, σ154, rfl, rfl, H⟩
           refine q_then ?_
           refine cd_cond o145 rfl (fun hb155 => ?_) (fun hb155 => ?_)
           ·replace h := bif_t hb155 h
            refine c_seq ?_
            refine rg ?_
            refine st (v := (B false)) (rv_assign rfl) ?_
            refine w_end ?_
            refine q_then ?_
            refine c_ret ?_
            refine q_then_r ?_
            obtain rfl := Option.some.inj h
            exact fin_ret (v := (B false)) (results_ok Try.results6 (res_tmp (v := (B false)) rfl res_nil) rfl) ⟨rfl, rfl⟩ (H.sel' [] rfl rfl)
           ·replace h := bif_f hb155 h
            refine c_skip ?_
            refine q_then ?_
            refine c_seq ?_
            refine rg ?_
            refine st (v := (I 1)) (rv_assign rfl) ?_
            refine w_end ?_
            refine q_then ?_
            refine c_seq ?_
            refine rg ?_
            have hc156 := H.cells 10 rfl
            refine st (v := (.agg #[(Sl a75 r72.1.1 c76), (Sl a80 r72.1.2 c81)])) (rv_load (cs := [(Sl a75 r72.1.1 c76), (Sl a80 r72.1.2 c81)]) Try.underlying26 rfl ti26 rfl rfl hc156) ?_
            refine st (v := (I 1)) (rv_move rfl) ?_
            replace H := H.ownLow 9 0 0 rfl (Nat.zero_le _) (Nat.zero_le _)
            obtain ⟨r157, hx158, h'⟩ := bind_some h
            clear h
            have h := h'; clear h'
            have hc159 := c_laws_markHistoryB (aa_0_0 := a75) (ca_0_0 := c76) (hKa_0_0 := hK78) (aa_0_1 := a80) (ca_0_1 := c81) hx158
            refine st_call (cx_call hc159 (ent_f hc159.fn rfl) hn0 (show Hp S0 σ0 _ ([Ch.big K77, Ch.own 0 0 (Sl a80 r72.1.2 c81) r72.1.2] ++ [Ch.ro 0 (Sl aaH_0_0 aH_0.1 caH_0_0) aH_0.1, Ch.ro 0 (Sl aaH_0_1 aH_0.2 caH_0_1) aH_0.2, Ch.bx n0 b1 0 [(Sl aaH_0_0 aH_0.1 caH_0_0), (Sl aaH_0_1 aH_0.2 caH_0_1)] [] [], Ch.ro 0 (Sl aaE_1_1_1 aE_1.2.2.1 caE_1_1_1) aE_1.2.2.1, Ch.bx n0 b3 0 [(I aE_1.1), (I aE_1.2.1), (Sl aaE_1_1_1 aE_1.2.2.1 caE_1_1_1), (I aE_1.2.2.2)] [] [], Ch.own n0 n0 (Sl a38 r35.1.1 c39) r35.1.1, Ch.own n0 n0 (Sl a40 r35.1.2 c41) r35.1.2, Ch.bx n0 b42 0 [(Sl a38 r35.1.1 c39), (Sl a40 r35.1.2 c41)] [] [], Ch.bx n0 b83 0 [(Sl a75 r72.1.1 c76), (Sl a80 r72.1.2 c81)] [] []]) from (H.sel' [9, 0, 1, 2, 3, 4, 5, 6, 7, 8, 10] rfl rfl))) wn ?_
            rintro _ σ162 ⟨_, ⟨rfl, rfl, hn160, hn161⟩, H, -⟩
            replace H : Hp S0 σ0 σ162 [Ch.ro 0 (Sl a75 r157.2.1 c76) r157.2.1, Ch.own 0 0 (Sl a80 r157.2.2 c81) r157.2.2, Ch.ro 0 (Sl aaH_0_0 aH_0.1 caH_0_0) aH_0.1, Ch.ro 0 (Sl aaH_0_1 aH_0.2 caH_0_1) aH_0.2, Ch.bx n0 b1 0 [(Sl aaH_0_0 aH_0.1 caH_0_0), (Sl aaH_0_1 aH_0.2 caH_0_1)] [] [], Ch.ro 0 (Sl aaE_1_1_1 aE_1.2.2.1 caE_1_1_1) aE_1.2.2.1, Ch.bx n0 b3 0 [(I aE_1.1), (I aE_1.2.1), (Sl aaE_1_1_1 aE_1.2.2.1 caE_1_1_1), (I aE_1.2.2.2)] [] [], Ch.own n0 n0 (Sl a38 r35.1.1 c39) r35.1.1, Ch.own n0 n0 (Sl a40 r35.1.2 c41) r35.1.2, Ch.bx n0 b42 0 [(Sl a38 r35.1.1 c39), (Sl a40 r35.1.2 c41)] [] [], Ch.bx n0 b83 0 [(Sl a75 r72.1.1 c76), (Sl a80 r72.1.2 c81)] [] []] := H
            have hsl : (Sl a75 r72.1.1 c76) = (Sl a75 r157.2.1 c76) := sl_len hn160.symm
            try rw [hsl]
            try rw [hsl] at H
            clear hsl
            have hsl : (Sl a80 r72.1.2 c81) = (Sl a80 r157.2.2 c81) := sl_len hn161.symm
            try rw [hsl]
            try rw [hsl] at H
            clear hsl
            refine st (v := (I r157.1)) (rv_assign rfl) ?_
            refine w_end ?_
            refine q_then ?_
            refine c_seq ?_
            refine rg ?_
            refine st (v := (I 1)) (rv_assign rfl) ?_
            refine w_end ?_
            refine q_then ?_
            refine c_seq ?_
            refine rg ?_
            have hc163 := H.cells 10 rfl
            refine st (v := (.agg #[(Sl a75 r157.2.1 c76), (Sl a80 r157.2.2 c81)])) (rv_load (cs := [(Sl a75 r157.2.1 c76), (Sl a80 r157.2.2 c81)]) Try.underlying26 rfl ti26 rfl rfl hc163) ?_
            refine st (v := (I 1)) (rv_move rfl) ?_
            obtain ⟨r164, hx165, h'⟩ := bind_some h
            clear h
            have h := h'; clear h'
            have hc166 := c_laws_heldHistory (aa_0_0 := a75) (ca_0_0 := c76) (aa_0_1 := a80) (ca_0_1 := c81) hx165
            have hle := Nat.le_trans hn0 H.size
            refine st_call (cx_lend (Loan.same (Loan.lend Loan.nil)) hc166 (ent_f hc166.fn rfl) (show Hp S0 σ0 _ ([Ch.own 0 0 (Sl a80 r157.2.2 c81) r157.2.2] ++ ([Ch.ro 0 (Sl a75 r157.2.1 c76) r157.2.1] ++ [Ch.ro 0 (Sl a75 r157.2.1 c76) r157.2.1, Ch.ro 0 (Sl aaH_0_0 aH_0.1 caH_0_0) aH_0.1, Ch.ro 0 (Sl aaH_0_1 aH_0.2 caH_0_1) aH_0.2, Ch.bx n0 b1 0 [(Sl aaH_0_0 aH_0.1 caH_0_0), (Sl aaH_0_1 aH_0.2 caH_0_1)] [] [], Ch.ro 0 (Sl aaE_1_1_1 aE_1.2.2.1 caE_1_1_1) aE_1.2.2.1, Ch.bx n0 b3 0 [(I aE_1.1), (I aE_1.2.1), (Sl aaE_1_1_1 aE_1.2.2.1 caE_1_1_1), (I aE_1.2.2.2)] [] [], Ch.own n0 n0 (Sl a38 r35.1.1 c39) r35.1.1, Ch.own n0 n0 (Sl a40 r35.1.2 c41) r35.1.2, Ch.bx n0 b42 0 [(Sl a38 r35.1.1 c39), (Sl a40 r35.1.2 c41)] [] [], Ch.bx n0 b83 0 [(Sl a75 r157.2.1 c76), (Sl a80 r157.2.2 c81)] [] []])) from (H.sel' [1, 0, 0, 2, 3, 4, 5, 6, 7, 8, 9, 10] rfl rfl)) (by rintro _ _ _ ⟨rfl, rfl⟩; exact trivial)) wn ?_
            rintro _ σ167 ⟨_, ⟨rfl, rfl⟩, H, -, -⟩
            replace H : Hp S0 σ0 σ167 [Ch.own 0 0 (Sl a80 r157.2.2 c81) r157.2.2, Ch.ro 0 (Sl a75 r157.2.1 c76) r157.2.1, Ch.ro 0 (Sl aaH_0_0 aH_0.1 caH_0_0) aH_0.1, Ch.ro 0 (Sl aaH_0_1 aH_0.2 caH_0_1) aH_0.2, Ch.bx n0 b1 0 [(Sl aaH_0_0 aH_0.1 caH_0_0), (Sl aaH_0_1 aH_0.2 caH_0_1)] [] [], Ch.ro 0 (Sl aaE_1_1_1 aE_1.2.2.1 caE_1_1_1) aE_1.2.2.1, Ch.bx n0 b3 0 [(I aE_1.1), (I aE_1.2.1), (Sl aaE_1_1_1 aE_1.2.2.1 caE_1_1_1), (I aE_1.2.2.2)] [] [], Ch.own n0 n0 (Sl a38 r35.1.1 c39) r35.1.1, Ch.own n0 n0 (Sl a40 r35.1.2 c41) r35.1.2, Ch.bx n0 b42 0 [(Sl a38 r35.1.1 c39), (Sl a40 r35.1.2 c41)] [] [], Ch.bx n0 b83 0 [(Sl a75 r157.2.1 c76), (Sl a80 r157.2.2 c81)] [] []] := H
            clear hle
            replace H : Hp S0 σ0 σ167 [Ch.own 0 0 (Sl a80 r157.2.2 c81) r157.2.2, Ch.ro 0 (Sl a75 r157.2.1 c76) r157.2.1, Ch.ro 0 (Sl aaH_0_0 aH_0.1 caH_0_0) aH_0.1, Ch.ro 0 (Sl aaH_0_1 aH_0.2 caH_0_1) aH_0.2, Ch.bx n0 b1 0 [(Sl aaH_0_0 aH_0.1 caH_0_0), (Sl aaH_0_1 aH_0.2 caH_0_1)] [] [], Ch.ro 0 (Sl aaE_1_1_1 aE_1.2.2.1 caE_1_1_1) aE_1.2.2.1, Ch.bx n0 b3 0 [(I aE_1.1), (I aE_1.2.1), (Sl aaE_1_1_1 aE_1.2.2.1 caE_1_1_1), (I aE_1.2.2.2)] [] [], Ch.own n0 n0 (Sl a38 r35.1.1 c39) r35.1.1, Ch.own n0 n0 (Sl a40 r35.1.2 c41) r35.1.2, Ch.bx n0 b42 0 [(Sl a38 r35.1.1 c39), (Sl a40 r35.1.2 c41)] [] [], Ch.bx n0 b83 0 [(Sl a75 r157.2.1 c76), (Sl a80 r157.2.2 c81)] [] []] := H
            refine st (v := (I r164)) (rv_assign rfl) ?_
            refine w_end ?_
            refine q_then ?_
            refine c_seq ?_
            refine c_seq ?_
            refine rg ?_
            refine st (v := (I r164)) (rv_move rfl) ?_
            refine st (v := (B (decide (r164 < 0)))) (rv_lss (a := r164) (b := 0) rfl rfl) ?_
            refine w_end ?_
            refine q_then ?_
            refine cd_cond (decide (r164 < 0)) rfl (fun hb168 => ?_) (fun hb168 => ?_)
            ·replace h := bif_t hb168 h
             refine c_seq ?_
             refine rg ?_
             refine st (v := (B false)) (rv_assign rfl) ?_
             refine w_end ?_
             refine q_then ?_
             refine c_ret ?_
             refine q_then_r ?_
             obtain rfl := Option.some.inj h
             exact fin_ret (v := (B false)) (results_ok Try.results6 (res_tmp (v := (B false)) rfl res_nil) rfl) ⟨rfl, rfl⟩ (H.sel' [] rfl rfl)
            ·replace h := bif_f hb168 h
             refine c_skip ?_
             refine q_then ?_
             refine c_seq ?_
             refine c_seq ?_
             refine rg ?_
             refine st (v := (I r164)) (rv_move rfl) ?_
             refine st (v := (I r157.1)) (rv_move rfl) ?_
             refine st (v := (B (r164 != r157.1))) (rv_neq (a := r164) (b := r157.1) rfl rfl) ?_
             refine w_end ?_
             refine q_then ?_
             refine cd_cond (r164 != r157.1) rfl (fun hb169 => ?_) (fun hb169 => ?_)
             ·replace h := bif_t hb169 h
              refine c_seq ?_
              refine rg ?_
              refine st (v := (B false)) (rv_assign rfl) ?_
              refine w_end ?_
              refine q_then ?_
              refine c_ret ?_
              refine q_then_r ?_
              obtain rfl := Option.some.inj h
              exact fin_ret (v := (B false)) (results_ok Try.results6 (res_tmp (v := (B false)) rfl res_nil) rfl) ⟨rfl, rfl⟩ (H.sel' [] rfl rfl)
             ·replace h := bif_f hb169 h
              refine c_skip ?_
              refine q_then ?_
              refine c_seq ?_
              have hc170 := H.cells 4 rfl
              obtain ⟨r171, hx172, h'⟩ := bind_some h
              clear h
              have h := h'; clear h'
              have hc173 := c_laws_toHistoryD (aa_0_0 := aaH_0_0) (ca_0_0 := caH_0_0) (aa_0_1 := aaH_0_1) (ca_0_1 := caH_0_1) hx172
              have hc181 := H.cells 6 rfl
              obtain ⟨r182, hx183, h'⟩ := bind_some h
              clear h
              have h := h'; clear h'
              have hc184 := c_laws_toEntry (aa_0_1_1 := aaE_1_1_1) (ca_0_1_1 := caE_1_1_1) hx183
              obtain ⟨r188, hx189, h'⟩ := bind_some h
              clear h
              have h := h'; clear h'
              have hc190 := fun (a174 : Option Addr) (c175 : Nat) (a178 : Option Addr) (c179 : Nat) (a185 : Option Addr) (c186 : Nat) => c_impl_AddEntryD (ah_0_0 := a174) (ch_0_0 := c175) (ah_0_1 := a178) (ch_0_1 := c179) (ae_1_1_1 := a185) (ce_1_1_1 := c186) hx189
              have Hs := H
              refine rg2 (σ := σ167) (Nm := ((((Option Addr) × ((Nat) × (List Ch))) × ((Option Addr) × ((Nat) × (Option Addr)))) × (((Nat) × ((Option Addr) × (Nat))) × (((List Ch) × (Option Addr)) × ((Nat) × (Nat)))))) 11 [1, 3, 5, 9, 10] [[false, false, false, false, false], [true, false, false, false, false], [false, false, false, true, false], [true, true, false, false, false], [true, false, false, true, false], [true, true, true, false, false], [true, true, false, true, false], [true, true, true, true, false], [true, true, true, true, true]] [[(0, 0), (2, 2)], [(0, 1), (2, 4)], [(0, 0), (1, 1), (2, 2), (4, 4)], [(1, 3), (4, 6)], [(0, 0), (1, 1), (2, 2), (3, 3), (4, 4), (6, 6)], [(3, 5), (6, 7)], [(5, 5), (7, 7)], [(5, 5), (7, 7)], [(5, 5), (7, 7), (8, 8)], [(0, 2), (1, 4), (3, 6), (5, 7)], [(7, 8)]] 8 [fun ((((a174, (c175, K176)), (a178, (c179, a185))), ((c186, (a191, c192)), ((K193, a196), (c197, b198)))) : ((((Option Addr) × ((Nat) × (List Ch))) × ((Option Addr) × ((Nat) × (Option Addr)))) × (((Nat) × ((Option Addr) × (Nat))) × (((List Ch) × (Option Addr)) × ((Nat) × (Nat)))))) => fun σm => Hp S0 σ0 σm [Ch.own 0 0 (Sl a80 r157.2.2 c81) r157.2.2, Ch.ro 0 (Sl a75 r157.2.1 c76) r157.2.1, Ch.ro 0 (Sl aaH_0_0 aH_0.1 caH_0_0) aH_0.1, Ch.ro 0 (Sl aaH_0_1 aH_0.2 caH_0_1) aH_0.2, Ch.bx n0 b1 0 [(Sl aaH_0_0 aH_0.1 caH_0_0), (Sl aaH_0_1 aH_0.2 caH_0_1)] [] [], Ch.ro 0 (Sl aaE_1_1_1 aE_1.2.2.1 caE_1_1_1) aE_1.2.2.1, Ch.bx n0 b3 0 [(I aE_1.1), (I aE_1.2.1), (Sl aaE_1_1_1 aE_1.2.2.1 caE_1_1_1), (I aE_1.2.2.2)] [] [], Ch.own n0 n0 (Sl a38 r35.1.1 c39) r35.1.1, Ch.own n0 n0 (Sl a40 r35.1.2 c41) r35.1.2, Ch.bx n0 b42 0 [(Sl a38 r35.1.1 c39), (Sl a40 r35.1.2 c41)] [] [], Ch.bx n0 b83 0 [(Sl a75 r157.2.1 c76), (Sl a80 r157.2.2 c81)] [] []] ∧ Md (cov []) σ167 σm, fun ((((a174, (c175, K176)), (a178, (c179, a185))), ((c186, (a191, c192)), ((K193, a196), (c197, b198)))) : ((((Option Addr) × ((Nat) × (List Ch))) × ((Option Addr) × ((Nat) × (Option Addr)))) × (((Nat) × ((Option Addr) × (Nat))) × (((List Ch) × (Option Addr)) × ((Nat) × (Nat)))))) => fun σm => Hp S0 σ0 σm [Ch.ro 0 (Sl a174 r171.1 c175) r171.1, Ch.ro 0 (Sl a178 r171.2 c179) r171.2, Ch.own 0 0 (Sl a80 r157.2.2 c81) r157.2.2, Ch.ro 0 (Sl a75 r157.2.1 c76) r157.2.1, Ch.ro 0 (Sl aaH_0_0 aH_0.1 caH_0_0) aH_0.1, Ch.ro 0 (Sl aaH_0_1 aH_0.2 caH_0_1) aH_0.2, Ch.bx n0 b1 0 [(Sl aaH_0_0 aH_0.1 caH_0_0), (Sl aaH_0_1 aH_0.2 caH_0_1)] [] [], Ch.ro 0 (Sl aaE_1_1_1 aE_1.2.2.1 caE_1_1_1) aE_1.2.2.1, Ch.bx n0 b3 0 [(I aE_1.1), (I aE_1.2.1), (Sl aaE_1_1_1 aE_1.2.2.1 caE_1_1_1), (I aE_1.2.2.2)] [] [], Ch.own n0 n0 (Sl a38 r35.1.1 c39) r35.1.1, Ch.own n0 n0 (Sl a40 r35.1.2 c41) r35.1.2, Ch.bx n0 b42 0 [(Sl a38 r35.1.1 c39), (Sl a40 r35.1.2 c41)] [] [], Ch.bx n0 b83 0 [(Sl a75 r157.2.1 c76), (Sl a80 r157.2.2 c81)] [] []] ∧ Md (fun i => (cov []) i ∨ (fun i => (fun i => (cov [Ch.ro 0 (Sl aaH_0_0 aH_0.1 caH_0_0) aH_0.1, Ch.ro 0 (Sl aaH_0_1 aH_0.2 caH_0_1) aH_0.2]) i ∨ (cov K176) i) i ∨ (fun b => blk (Sl a178 r171.2 c179) = some b) i) i) σ167 σm ∧ c179 = r171.2.length, fun ((((a174, (c175, K176)), (a178, (c179, a185))), ((c186, (a191, c192)), ((K193, a196), (c197, b198)))) : ((((Option Addr) × ((Nat) × (List Ch))) × ((Option Addr) × ((Nat) × (Option Addr)))) × (((Nat) × ((Option Addr) × (Nat))) × (((List Ch) × (Option Addr)) × ((Nat) × (Nat)))))) => fun σm => Hp S0 σ0 σm [Ch.bx n0 b198 0 [(.slice none 0 0), (.slice none 0 0)] [] [], Ch.own 0 0 (Sl a80 r157.2.2 c81) r157.2.2, Ch.ro 0 (Sl a75 r157.2.1 c76) r157.2.1, Ch.ro 0 (Sl aaH_0_0 aH_0.1 caH_0_0) aH_0.1, Ch.ro 0 (Sl aaH_0_1 aH_0.2 caH_0_1) aH_0.2, Ch.bx n0 b1 0 [(Sl aaH_0_0 aH_0.1 caH_0_0), (Sl aaH_0_1 aH_0.2 caH_0_1)] [] [], Ch.ro 0 (Sl aaE_1_1_1 aE_1.2.2.1 caE_1_1_1) aE_1.2.2.1, Ch.bx n0 b3 0 [(I aE_1.1), (I aE_1.2.1), (Sl aaE_1_1_1 aE_1.2.2.1 caE_1_1_1), (I aE_1.2.2.2)] [] [], Ch.own n0 n0 (Sl a38 r35.1.1 c39) r35.1.1, Ch.own n0 n0 (Sl a40 r35.1.2 c41) r35.1.2, Ch.bx n0 b42 0 [(Sl a38 r35.1.1 c39), (Sl a40 r35.1.2 c41)] [] [], Ch.bx n0 b83 0 [(Sl a75 r157.2.1 c76), (Sl a80 r157.2.2 c81)] [] []] ∧ Md (cov []) σ167 σm, fun ((((a174, (c175, K176)), (a178, (c179, a185))), ((c186, (a191, c192)), ((K193, a196), (c197, b198)))) : ((((Option Addr) × ((Nat) × (List Ch))) × ((Option Addr) × ((Nat) × (Option Addr)))) × (((Nat) × ((Option Addr) × (Nat))) × (((List Ch) × (Option Addr)) × ((Nat) × (Nat)))))) => fun σm => Hp S0 σ0 σm [Ch.ro 0 (Sl a185 r182.2.2.1 c186) r182.2.2.1, Ch.ro 0 (Sl a174 r171.1 c175) r171.1, Ch.ro 0 (Sl a178 r171.2 c179) r171.2, Ch.own 0 0 (Sl a80 r157.2.2 c81) r157.2.2, Ch.ro 0 (Sl a75 r157.2.1 c76) r157.2.1, Ch.ro 0 (Sl aaH_0_0 aH_0.1 caH_0_0) aH_0.1, Ch.ro 0 (Sl aaH_0_1 aH_0.2 caH_0_1) aH_0.2, Ch.bx n0 b1 0 [(Sl aaH_0_0 aH_0.1 caH_0_0), (Sl aaH_0_1 aH_0.2 caH_0_1)] [] [], Ch.ro 0 (Sl aaE_1_1_1 aE_1.2.2.1 caE_1_1_1) aE_1.2.2.1, Ch.bx n0 b3 0 [(I aE_1.1), (I aE_1.2.1), (Sl aaE_1_1_1 aE_1.2.2.1 caE_1_1_1), (I aE_1.2.2.2)] [] [], Ch.own n0 n0 (Sl a38 r35.1.1 c39) r35.1.1, Ch.own n0 n0 (Sl a40 r35.1.2 c41) r35.1.2, Ch.bx n0 b42 0 [(Sl a38 r35.1.1 c39), (Sl a40 r35.1.2 c41)] [] [], Ch.bx n0 b83 0 [(Sl a75 r157.2.1 c76), (Sl a80 r157.2.2 c81)] [] []] ∧ Md (fun i => (fun i => (cov []) i ∨ (fun i => (fun i => (cov [Ch.ro 0 (Sl aaH_0_0 aH_0.1 caH_0_0) aH_0.1, Ch.ro 0 (Sl aaH_0_1 aH_0.2 caH_0_1) aH_0.2]) i ∨ (cov K176) i) i ∨ (fun b => blk (Sl a178 r171.2 c179) = some b) i) i) i ∨ (fun i => (cov [Ch.ro 0 (Sl aaE_1_1_1 aE_1.2.2.1 caE_1_1_1) aE_1.2.2.1]) i ∨ (fun b => blk (Sl a185 r182.2.2.1 c186) = some b) i) i) σ167 σm ∧ c179 = r171.2.length ∧ c186 = r182.2.2.1.length, fun ((((a174, (c175, K176)), (a178, (c179, a185))), ((c186, (a191, c192)), ((K193, a196), (c197, b198)))) : ((((Option Addr) × ((Nat) × (List Ch))) × ((Option Addr) × ((Nat) × (Option Addr)))) × (((Nat) × ((Option Addr) × (Nat))) × (((List Ch) × (Option Addr)) × ((Nat) × (Nat)))))) => fun σm => Hp S0 σ0 σm [Ch.bx n0 b198 0 [(.slice none 0 0), (.slice none 0 0)] [] [], Ch.ro 0 (Sl a174 r171.1 c175) r171.1, Ch.ro 0 (Sl a178 r171.2 c179) r171.2, Ch.own 0 0 (Sl a80 r157.2.2 c81) r157.2.2, Ch.ro 0 (Sl a75 r157.2.1 c76) r157.2.1, Ch.ro 0 (Sl aaH_0_0 aH_0.1 caH_0_0) aH_0.1, Ch.ro 0 (Sl aaH_0_1 aH_0.2 caH_0_1) aH_0.2, Ch.bx n0 b1 0 [(Sl aaH_0_0 aH_0.1 caH_0_0), (Sl aaH_0_1 aH_0.2 caH_0_1)] [] [], Ch.ro 0 (Sl aaE_1_1_1 aE_1.2.2.1 caE_1_1_1) aE_1.2.2.1, Ch.bx n0 b3 0 [(I aE_1.1), (I aE_1.2.1), (Sl aaE_1_1_1 aE_1.2.2.1 caE_1_1_1), (I aE_1.2.2.2)] [] [], Ch.own n0 n0 (Sl a38 r35.1.1 c39) r35.1.1, Ch.own n0 n0 (Sl a40 r35.1.2 c41) r35.1.2, Ch.bx n0 b42 0 [(Sl a38 r35.1.1 c39), (Sl a40 r35.1.2 c41)] [] [], Ch.bx n0 b83 0 [(Sl a75 r157.2.1 c76), (Sl a80 r157.2.2 c81)] [] []] ∧ Md (fun i => (cov []) i ∨ (fun i => (fun i => (cov [Ch.ro 0 (Sl aaH_0_0 aH_0.1 caH_0_0) aH_0.1, Ch.ro 0 (Sl aaH_0_1 aH_0.2 caH_0_1) aH_0.2]) i ∨ (cov K176) i) i ∨ (fun b => blk (Sl a178 r171.2 c179) = some b) i) i) σ167 σm ∧ c179 = r171.2.length, fun ((((a174, (c175, K176)), (a178, (c179, a185))), ((c186, (a191, c192)), ((K193, a196), (c197, b198)))) : ((((Option Addr) × ((Nat) × (List Ch))) × ((Option Addr) × ((Nat) × (Option Addr)))) × (((Nat) × ((Option Addr) × (Nat))) × (((List Ch) × (Option Addr)) × ((Nat) × (Nat)))))) => fun σm => Hp S0 σ0 σm [Ch.big K193, Ch.own n0 n0 (Sl a196 r188.1.2 c197) r188.1.2, Ch.ro 0 (Sl a185 r182.2.2.1 c186) r182.2.2.1, Ch.ro 0 (Sl a174 r171.1 c175) r171.1, Ch.ro 0 (Sl a178 r171.2 c179) r171.2, Ch.own 0 0 (Sl a80 r157.2.2 c81) r157.2.2, Ch.ro 0 (Sl a75 r157.2.1 c76) r157.2.1, Ch.ro 0 (Sl aaH_0_0 aH_0.1 caH_0_0) aH_0.1, Ch.ro 0 (Sl aaH_0_1 aH_0.2 caH_0_1) aH_0.2, Ch.bx n0 b1 0 [(Sl aaH_0_0 aH_0.1 caH_0_0), (Sl aaH_0_1 aH_0.2 caH_0_1)] [] [], Ch.ro 0 (Sl aaE_1_1_1 aE_1.2.2.1 caE_1_1_1) aE_1.2.2.1, Ch.bx n0 b3 0 [(I aE_1.1), (I aE_1.2.1), (Sl aaE_1_1_1 aE_1.2.2.1 caE_1_1_1), (I aE_1.2.2.2)] [] [], Ch.own n0 n0 (Sl a38 r35.1.1 c39) r35.1.1, Ch.own n0 n0 (Sl a40 r35.1.2 c41) r35.1.2, Ch.bx n0 b42 0 [(Sl a38 r35.1.1 c39), (Sl a40 r35.1.2 c41)] [] [], Ch.bx n0 b83 0 [(Sl a75 r157.2.1 c76), (Sl a80 r157.2.2 c81)] [] []] ∧ Md (fun i => (fun i => (cov []) i ∨ (fun i => (fun i => (cov [Ch.ro 0 (Sl aaH_0_0 aH_0.1 caH_0_0) aH_0.1, Ch.ro 0 (Sl aaH_0_1 aH_0.2 caH_0_1) aH_0.2]) i ∨ (cov K176) i) i ∨ (fun b => blk (Sl a178 r171.2 c179) = some b) i) i) i ∨ (fun i => (cov [Ch.ro 0 (Sl aaE_1_1_1 aE_1.2.2.1 caE_1_1_1) aE_1.2.2.1]) i ∨ (fun b => blk (Sl a185 r182.2.2.1 c186) = some b) i) i) σ167 σm ∧ c179 = r171.2.length ∧ c186 = r182.2.2.1.length ∧ Dp 0 (Sl a191 r188.1.1 c192) r188.1.1 K193 ∧ c192 = r188.1.1.length, fun ((((a174, (c175, K176)), (a178, (c179, a185))), ((c186, (a191, c192)), ((K193, a196), (c197, b198)))) : ((((Option Addr) × ((Nat) × (List Ch))) × ((Option Addr) × ((Nat) × (Option Addr)))) × (((Nat) × ((Option Addr) × (Nat))) × (((List Ch) × (Option Addr)) × ((Nat) × (Nat)))))) => fun σm => Hp S0 σ0 σm [Ch.bx n0 b198 0 [(.slice none 0 0), (.slice none 0 0)] [] [], Ch.ro 0 (Sl a185 r182.2.2.1 c186) r182.2.2.1, Ch.ro 0 (Sl a174 r171.1 c175) r171.1, Ch.ro 0 (Sl a178 r171.2 c179) r171.2, Ch.own 0 0 (Sl a80 r157.2.2 c81) r157.2.2, Ch.ro 0 (Sl a75 r157.2.1 c76) r157.2.1, Ch.ro 0 (Sl aaH_0_0 aH_0.1 caH_0_0) aH_0.1, Ch.ro 0 (Sl aaH_0_1 aH_0.2 caH_0_1) aH_0.2, Ch.bx n0 b1 0 [(Sl aaH_0_0 aH_0.1 caH_0_0), (Sl aaH_0_1 aH_0.2 caH_0_1)] [] [], Ch.ro 0 (Sl aaE_1_1_1 aE_1.2.2.1 caE_1_1_1) aE_1.2.2.1, Ch.bx n0 b3 0 [(I aE_1.1), (I aE_1.2.1), (Sl aaE_1_1_1 aE_1.2.2.1 caE_1_1_1), (I aE_1.2.2.2)] [] [], Ch.own n0 n0 (Sl a38 r35.1.1 c39) r35.1.1, Ch.own n0 n0 (Sl a40 r35.1.2 c41) r35.1.2, Ch.bx n0 b42 0 [(Sl a38 r35.1.1 c39), (Sl a40 r35.1.2 c41)] [] [], Ch.bx n0 b83 0 [(Sl a75 r157.2.1 c76), (Sl a80 r157.2.2 c81)] [] []] ∧ Md (fun i => (fun i => (cov []) i ∨ (fun i => (fun i => (cov [Ch.ro 0 (Sl aaH_0_0 aH_0.1 caH_0_0) aH_0.1, Ch.ro 0 (Sl aaH_0_1 aH_0.2 caH_0_1) aH_0.2]) i ∨ (cov K176) i) i ∨ (fun b => blk (Sl a178 r171.2 c179) = some b) i) i) i ∨ (fun i => (cov [Ch.ro 0 (Sl aaE_1_1_1 aE_1.2.2.1 caE_1_1_1) aE_1.2.2.1]) i ∨ (fun b => blk (Sl a185 r182.2.2.1 c186) = some b) i) i) σ167 σm ∧ c179 = r171.2.length ∧ c186 = r182.2.2.1.length, fun ((((a174, (c175, K176)), (a178, (c179, a185))), ((c186, (a191, c192)), ((K193, a196), (c197, b198)))) : ((((Option Addr) × ((Nat) × (List Ch))) × ((Option Addr) × ((Nat) × (Option Addr)))) × (((Nat) × ((Option Addr) × (Nat))) × (((List Ch) × (Option Addr)) × ((Nat) × (Nat)))))) => fun σm => Hp S0 σ0 σm [Ch.bx n0 b198 0 [(.slice none 0 0), (.slice none 0 0)] [] [], Ch.big K193, Ch.own n0 n0 (Sl a196 r188.1.2 c197) r188.1.2, Ch.ro 0 (Sl a185 r182.2.2.1 c186) r182.2.2.1, Ch.ro 0 (Sl a174 r171.1 c175) r171.1, Ch.ro 0 (Sl a178 r171.2 c179) r171.2, Ch.own 0 0 (Sl a80 r157.2.2 c81) r157.2.2, Ch.ro 0 (Sl a75 r157.2.1 c76) r157.2.1, Ch.ro 0 (Sl aaH_0_0 aH_0.1 caH_0_0) aH_0.1, Ch.ro 0 (Sl aaH_0_1 aH_0.2 caH_0_1) aH_0.2, Ch.bx n0 b1 0 [(Sl aaH_0_0 aH_0.1 caH_0_0), (Sl aaH_0_1 aH_0.2 caH_0_1)] [] [], Ch.ro 0 (Sl aaE_1_1_1 aE_1.2.2.1 caE_1_1_1) aE_1.2.2.1, Ch.bx n0 b3 0 [(I aE_1.1), (I aE_1.2.1), (Sl aaE_1_1_1 aE_1.2.2.1 caE_1_1_1), (I aE_1.2.2.2)] [] [], Ch.own n0 n0 (Sl a38 r35.1.1 c39) r35.1.1, Ch.own n0 n0 (Sl a40 r35.1.2 c41) r35.1.2, Ch.bx n0 b42 0 [(Sl a38 r35.1.1 c39), (Sl a40 r35.1.2 c41)] [] [], Ch.bx n0 b83 0 [(Sl a75 r157.2.1 c76), (Sl a80 r157.2.2 c81)] [] []] ∧ Md (fun i => (fun i => (cov []) i ∨ (fun i => (fun i => (cov [Ch.ro 0 (Sl aaH_0_0 aH_0.1 caH_0_0) aH_0.1, Ch.ro 0 (Sl aaH_0_1 aH_0.2 caH_0_1) aH_0.2]) i ∨ (cov K176) i) i ∨ (fun b => blk (Sl a178 r171.2 c179) = some b) i) i) i ∨ (fun i => (cov [Ch.ro 0 (Sl aaE_1_1_1 aE_1.2.2.1 caE_1_1_1) aE_1.2.2.1]) i ∨ (fun b => blk (Sl a185 r182.2.2.1 c186) = some b) i) i) σ167 σm ∧ c179 = r171.2.length ∧ c186 = r182.2.2.1.length ∧ Dp 0 (Sl a191 r188.1.1 c192) r188.1.1 K193 ∧ c192 = r188.1.1.length, fun ((((a174, (c175, K176)), (a178, (c179, a185))), ((c186, (a191, c192)), ((K193, a196), (c197, b198)))) : ((((Option Addr) × ((Nat) × (List Ch))) × ((Option Addr) × ((Nat) × (Option Addr)))) × (((Nat) × ((Option Addr) × (Nat))) × (((List Ch) × (Option Addr)) × ((Nat) × (Nat)))))) => fun σm => Hp S0 σ0 σm [Ch.bx n0 b198 0 [(Sl a191 r188.1.1 c192), (Sl a196 r188.1.2 c197)] [] [], Ch.big K193, Ch.own n0 n0 (Sl a196 r188.1.2 c197) r188.1.2, Ch.ro 0 (Sl a185 r182.2.2.1 c186) r182.2.2.1, Ch.ro 0 (Sl a174 r171.1 c175) r171.1, Ch.ro 0 (Sl a178 r171.2 c179) r171.2, Ch.own 0 0 (Sl a80 r157.2.2 c81) r157.2.2, Ch.ro 0 (Sl a75 r157.2.1 c76) r157.2.1, Ch.ro 0 (Sl aaH_0_0 aH_0.1 caH_0_0) aH_0.1, Ch.ro 0 (Sl aaH_0_1 aH_0.2 caH_0_1) aH_0.2, Ch.bx n0 b1 0 [(Sl aaH_0_0 aH_0.1 caH_0_0), (Sl aaH_0_1 aH_0.2 caH_0_1)] [] [], Ch.ro 0 (Sl aaE_1_1_1 aE_1.2.2.1 caE_1_1_1) aE_1.2.2.1, Ch.bx n0 b3 0 [(I aE_1.1), (I aE_1.2.1), (Sl aaE_1_1_1 aE_1.2.2.1 caE_1_1_1), (I aE_1.2.2.2)] [] [], Ch.own n0 n0 (Sl a38 r35.1.1 c39) r35.1.1, Ch.own n0 n0 (Sl a40 r35.1.2 c41) r35.1.2, Ch.bx n0 b42 0 [(Sl a38 r35.1.1 c39), (Sl a40 r35.1.2 c41)] [] [], Ch.bx n0 b83 0 [(Sl a75 r157.2.1 c76), (Sl a80 r157.2.2 c81)] [] []] ∧ Md (fun i => (fun i => (fun i => (cov []) i ∨ (fun i => (fun i => (cov [Ch.ro 0 (Sl aaH_0_0 aH_0.1 caH_0_0) aH_0.1, Ch.ro 0 (Sl aaH_0_1 aH_0.2 caH_0_1) aH_0.2]) i ∨ (cov K176) i) i ∨ (fun b => blk (Sl a178 r171.2 c179) = some b) i) i) i ∨ (fun i => (cov [Ch.ro 0 (Sl aaE_1_1_1 aE_1.2.2.1 caE_1_1_1) aE_1.2.2.1]) i ∨ (fun b => blk (Sl a185 r182.2.2.1 c186) = some b) i) i) i ∨ (fun i => i = b198) i) σ167 σm ∧ c179 = r171.2.length ∧ c186 = r182.2.2.1.length ∧ Dp 0 (Sl a191 r188.1.1 c192) r188.1.1 K193 ∧ c192 = r188.1.1.length] [fun ((((a174, (c175, K176)), (a178, (c179, a185))), ((c186, (a191, c192)), ((K193, a196), (c197, b198)))) : ((((Option Addr) × ((Nat) × (List Ch))) × ((Option Addr) × ((Nat) × (Option Addr)))) × (((Nat) × ((Option Addr) × (Nat))) × (((List Ch) × (Option Addr)) × ((Nat) × (Nat)))))) => (.agg #[(Sl aaH_0_0 aH_0.1 caH_0_0), (Sl aaH_0_1 aH_0.2 caH_0_1)]), fun ((((a174, (c175, K176)), (a178, (c179, a185))), ((c186, (a191, c192)), ((K193, a196), (c197, b198)))) : ((((Option Addr) × ((Nat) × (List Ch))) × ((Option Addr) × ((Nat) × (Option Addr)))) × (((Nat) × ((Option Addr) × (Nat))) × (((List Ch) × (Option Addr)) × ((Nat) × (Nat)))))) => (.agg #[(Sl a174 r171.1 c175), (Sl a178 r171.2 c179)]), fun ((((a174, (c175, K176)), (a178, (c179, a185))), ((c186, (a191, c192)), ((K193, a196), (c197, b198)))) : ((((Option Addr) × ((Nat) × (List Ch))) × ((Option Addr) × ((Nat) × (Option Addr)))) × (((Nat) × ((Option Addr) × (Nat))) × (((List Ch) × (Option Addr)) × ((Nat) × (Nat)))))) => (.agg #[(I aE_1.1), (I aE_1.2.1), (Sl aaE_1_1_1 aE_1.2.2.1 caE_1_1_1), (I aE_1.2.2.2)]), fun ((((a174, (c175, K176)), (a178, (c179, a185))), ((c186, (a191, c192)), ((K193, a196), (c197, b198)))) : ((((Option Addr) × ((Nat) × (List Ch))) × ((Option Addr) × ((Nat) × (Option Addr)))) × (((Nat) × ((Option Addr) × (Nat))) × (((List Ch) × (Option Addr)) × ((Nat) × (Nat)))))) => (.agg #[(I r182.1), (I r182.2.1), (Sl a185 r182.2.2.1 c186), (I r182.2.2.2)]), fun ((((a174, (c175, K176)), (a178, (c179, a185))), ((c186, (a191, c192)), ((K193, a196), (c197, b198)))) : ((((Option Addr) × ((Nat) × (List Ch))) × ((Option Addr) × ((Nat) × (Option Addr)))) × (((Nat) × ((Option Addr) × (Nat))) × (((List Ch) × (Option Addr)) × ((Nat) × (Nat)))))) => (I aT_2), fun ((((a174, (c175, K176)), (a178, (c179, a185))), ((c186, (a191, c192)), ((K193, a196), (c197, b198)))) : ((((Option Addr) × ((Nat) × (List Ch))) × ((Option Addr) × ((Nat) × (Option Addr)))) × (((Nat) × ((Option Addr) × (Nat))) × (((List Ch) × (Option Addr)) × ((Nat) × (Nat)))))) => (.tuple #[(.agg #[(Sl a191 r188.1.1 c192), (Sl a196 r188.1.2 c197)]), (B r188.2)]), fun ((((a174, (c175, K176)), (a178, (c179, a185))), ((c186, (a191, c192)), ((K193, a196), (c197, b198)))) : ((((Option Addr) × ((Nat) × (List Ch))) × ((Option Addr) × ((Nat) × (Option Addr)))) × (((Nat) × ((Option Addr) × (Nat))) × (((List Ch) × (Option Addr)) × ((Nat) × (Nat)))))) => (.tuple #[(.agg #[(Sl a191 r188.1.1 c192), (Sl a196 r188.1.2 c197)]), (B r188.2)]), fun ((((a174, (c175, K176)), (a178, (c179, a185))), ((c186, (a191, c192)), ((K193, a196), (c197, b198)))) : ((((Option Addr) × ((Nat) × (List Ch))) × ((Option Addr) × ((Nat) × (Option Addr)))) × (((Nat) × ((Option Addr) × (Nat))) × (((List Ch) × (Option Addr)) × ((Nat) × (Nat)))))) => (.agg #[(Sl a191 r188.1.1 c192), (Sl a196 r188.1.2 c197)]), fun ((((a174, (c175, K176)), (a178, (c179, a185))), ((c186, (a191, c192)), ((K193, a196), (c197, b198)))) : ((((Option Addr) × ((Nat) × (List Ch))) × ((Option Addr) × ((Nat) × (Option Addr)))) × (((Nat) × ((Option Addr) × (Nat))) × (((List Ch) × (Option Addr)) × ((Nat) × (Nat)))))) => (B r188.2), fun ((((a174, (c175, K176)), (a178, (c179, a185))), ((c186, (a191, c192)), ((K193, a196), (c197, b198)))) : ((((Option Addr) × ((Nat) × (List Ch))) × ((Option Addr) × ((Nat) × (Option Addr)))) × (((Nat) × ((Option Addr) × (Nat))) × (((List Ch) × (Option Addr)) × ((Nat) × (Nat)))))) => (pt b198 0), fun ((((a174, (c175, K176)), (a178, (c179, a185))), ((c186, (a191, c192)), ((K193, a196), (c197, b198)))) : ((((Option Addr) × ((Nat) × (List Ch))) × ((Option Addr) × ((Nat) × (Option Addr)))) × (((Nat) × ((Option Addr) × (Nat))) × (((List Ch) × (Option Addr)) × ((Nat) × (Nat)))))) => undef] (((none, (0, [])), (none, (0, none))), ((0, (none, 0)), (([], none), (0, 0)))) (by kernel_rfl) (by kernel_rfl) ?_ ?_ ?_
              ·intro σm m0
               exact ⟨H.grow (m0.mono fun _ h => h.elim), m0⟩
              ·refine all_cons (by
                 refine ⟨?_, ?_⟩
                 ·rintro ⟨⟨⟨a174, ⟨c175, K176⟩⟩, ⟨a178, ⟨c179, a185⟩⟩⟩, ⟨⟨c186, ⟨a191, c192⟩⟩, ⟨⟨K193, a196⟩, ⟨c197, b198⟩⟩⟩⟩ ρ σm hJ hoff hdep
                  have e3 := look_off (N := 124) (hoff 3 rfl) rfl
                  obtain ⟨H, m⟩ := id hJ
                  have hc170 := H.cells 4 rfl
                  exact dp_v (v := (.agg #[(Sl aaH_0_0 aH_0.1 caH_0_0), (Sl aaH_0_1 aH_0.2 caH_0_1)])) wn (rv_load (cs := [(Sl aaH_0_0 aH_0.1 caH_0_0), (Sl aaH_0_1 aH_0.2 caH_0_1)]) Try.underlying40 rfl ti40 e3 rfl hc170) rfl hJ
                 refine ⟨?_, ?_⟩
                 ·rintro ⟨⟨⟨a174, ⟨c175, K176⟩⟩, ⟨a178, ⟨c179, a185⟩⟩⟩, ⟨⟨c186, ⟨a191, c192⟩⟩, ⟨⟨K193, a196⟩, ⟨c197, b198⟩⟩⟩⟩ ρ σm hJ hoff hdep
                  have e3 := look_off (N := 124) (hoff 3 rfl) rfl
                  obtain ⟨H, m⟩ := id hJ
                  have hc170 := H.cells 5 rfl
                  exact dp_v (v := (.agg #[(Sl aaH_0_0 aH_0.1 caH_0_0), (Sl aaH_0_1 aH_0.2 caH_0_1)])) wn (rv_load (cs := [(Sl aaH_0_0 aH_0.1 caH_0_0), (Sl aaH_0_1 aH_0.2 caH_0_1)]) Try.underlying40 rfl ti40 e3 rfl hc170) rfl hJ
                 trivial) ?_
               refine all_cons (by
                 refine ⟨?_, ?_⟩
                 ·rintro ⟨⟨⟨a174, ⟨c175, K176⟩⟩, ⟨a178, ⟨c179, a185⟩⟩⟩, ⟨⟨c186, ⟨a191, c192⟩⟩, ⟨⟨K193, a196⟩, ⟨c197, b198⟩⟩⟩⟩ ρ σm hJ hoff hdep
                  have e99 : look 124 ρ 99 = (.agg #[(Sl aaH_0_0 aH_0.1 caH_0_0), (Sl aaH_0_1 aH_0.2 caH_0_1)]) := hdep 0 rfl rfl 99 rfl
                  obtain ⟨H, m⟩ := id hJ
                  refine dp_cx wn (cx_call hc173 (ent_f hc173.fn (by show [look 124 ρ 99] = _; rw [e99])) hn0 (show Hp S0 σ0 _ ([Ch.ro 0 (Sl aaH_0_0 aH_0.1 caH_0_0) aH_0.1, Ch.ro 0 (Sl aaH_0_1 aH_0.2 caH_0_1) aH_0.2] ++ [Ch.own 0 0 (Sl a80 r157.2.2 c81) r157.2.2, Ch.ro 0 (Sl a75 r157.2.1 c76) r157.2.1, Ch.ro 0 (Sl aaH_0_0 aH_0.1 caH_0_0) aH_0.1, Ch.ro 0 (Sl aaH_0_1 aH_0.2 caH_0_1) aH_0.2, Ch.bx n0 b1 0 [(Sl aaH_0_0 aH_0.1 caH_0_0), (Sl aaH_0_1 aH_0.2 caH_0_1)] [] [], Ch.ro 0 (Sl aaE_1_1_1 aE_1.2.2.1 caE_1_1_1) aE_1.2.2.1, Ch.bx n0 b3 0 [(I aE_1.1), (I aE_1.2.1), (Sl aaE_1_1_1 aE_1.2.2.1 caE_1_1_1), (I aE_1.2.2.2)] [] [], Ch.own n0 n0 (Sl a38 r35.1.1 c39) r35.1.1, Ch.own n0 n0 (Sl a40 r35.1.2 c41) r35.1.2, Ch.bx n0 b42 0 [(Sl a38 r35.1.1 c39), (Sl a40 r35.1.2 c41)] [] [], Ch.bx n0 b83 0 [(Sl a75 r157.2.1 c76), (Sl a80 r157.2.2 c81)] [] []]) from (H.sel' [2, 3, 0, 1, 2, 3, 4, 5, 6, 7, 8, 9, 10] rfl rfl))) ?_
                  rintro _ σq ⟨_, ⟨a174x, c175x, K176x, a178x, c179x, rfl, rfl, hK177, ht180⟩, H2, m2⟩
                  obtain ⟨σr0, hwr0, H2, mr0⟩ := H2.dpPub 0 rfl hK177
                  obtain ⟨σr1, hwr1, H2, mr1⟩ := H2.pubSc 1 rfl
                  exact ⟨_, (((a174x, (c175x, K176x)), (a178x, (c179x, a185))), ((c186, (a191, c192)), ((K193, a196), (c197, b198)))), (hwr1.trans hwr0), rfl, ⟨H2.sel' [1, 0, 2, 3, 4, 5, 6, 7, 8, 9, 10, 11, 12] rfl rfl, m.comp ((m2.comp mr0).comp mr1), ht180⟩, stab [0, 2, 4, 9] (by kernel_rfl) ⟨rfl, rfl, rfl, rfl, trivial⟩⟩
                 refine ⟨?_, ?_⟩
                 ·rintro ⟨⟨⟨a174, ⟨c175, K176⟩⟩, ⟨a178, ⟨c179, a185⟩⟩⟩, ⟨⟨c186, ⟨a191, c192⟩⟩, ⟨⟨K193, a196⟩, ⟨c197, b198⟩⟩⟩⟩ ρ σm hJ hoff hdep
                  have e99 : look 124 ρ 99 = (.agg #[(Sl aaH_0_0 aH_0.1 caH_0_0), (Sl aaH_0_1 aH_0.2 caH_0_1)]) := hdep 0 rfl rfl 99 rfl
                  obtain ⟨H, m⟩ := id hJ
                  refine dp_cx wn (cx_call hc173 (ent_f hc173.fn (by show [look 124 ρ 99] = _; rw [e99])) hn0 (show Hp S0 σ0 _ ([Ch.ro 0 (Sl aaH_0_0 aH_0.1 caH_0_0) aH_0.1, Ch.ro 0 (Sl aaH_0_1 aH_0.2 caH_0_1) aH_0.2] ++ [Ch.bx n0 b198 0 [(.slice none 0 0), (.slice none 0 0)] [] [], Ch.own 0 0 (Sl a80 r157.2.2 c81) r157.2.2, Ch.ro 0 (Sl a75 r157.2.1 c76) r157.2.1, Ch.ro 0 (Sl aaH_0_0 aH_0.1 caH_0_0) aH_0.1, Ch.ro 0 (Sl aaH_0_1 aH_0.2 caH_0_1) aH_0.2, Ch.bx n0 b1 0 [(Sl aaH_0_0 aH_0.1 caH_0_0), (Sl aaH_0_1 aH_0.2 caH_0_1)] [] [], Ch.ro 0 (Sl aaE_1_1_1 aE_1.2.2.1 caE_1_1_1) aE_1.2.2.1, Ch.bx n0 b3 0 [(I aE_1.1), (I aE_1.2.1), (Sl aaE_1_1_1 aE_1.2.2.1 caE_1_1_1), (I aE_1.2.2.2)] [] [], Ch.own n0 n0 (Sl a38 r35.1.1 c39) r35.1.1, Ch.own n0 n0 (Sl a40 r35.1.2 c41) r35.1.2, Ch.bx n0 b42 0 [(Sl a38 r35.1.1 c39), (Sl a40 r35.1.2 c41)] [] [], Ch.bx n0 b83 0 [(Sl a75 r157.2.1 c76), (Sl a80 r157.2.2 c81)] [] []]) from (H.sel' [3, 4, 0, 1, 2, 3, 4, 5, 6, 7, 8, 9, 10, 11] rfl rfl))) ?_
                  rintro _ σq ⟨_, ⟨a174x, c175x, K176x, a178x, c179x, rfl, rfl, hK177, ht180⟩, H2, m2⟩
                  obtain ⟨σr0, hwr0, H2, mr0⟩ := H2.dpPub 0 rfl hK177
                  obtain ⟨σr1, hwr1, H2, mr1⟩ := H2.pubSc 1 rfl
                  exact ⟨_, (((a174x, (c175x, K176x)), (a178x, (c179x, a185))), ((c186, (a191, c192)), ((K193, a196), (c197, b198)))), (hwr1.trans hwr0), rfl, ⟨H2.sel' [2, 1, 0, 3, 4, 5, 6, 7, 8, 9, 10, 11, 12, 13] rfl rfl, m.comp ((m2.comp mr0).comp mr1), ht180⟩, stab [0, 2, 4, 9] (by kernel_rfl) ⟨rfl, rfl, rfl, rfl, trivial⟩⟩
                 trivial) ?_
               refine all_cons (by
                 refine ⟨?_, ?_⟩
                 ·rintro ⟨⟨⟨a174, ⟨c175, K176⟩⟩, ⟨a178, ⟨c179, a185⟩⟩⟩, ⟨⟨c186, ⟨a191, c192⟩⟩, ⟨⟨K193, a196⟩, ⟨c197, b198⟩⟩⟩⟩ ρ σm hJ hoff hdep
                  have e4 := look_off (N := 124) (hoff 4 rfl) rfl
                  obtain ⟨H, m⟩ := id hJ
                  have hc181 := H.cells 6 rfl
                  exact dp_v (v := (.agg #[(I aE_1.1), (I aE_1.2.1), (Sl aaE_1_1_1 aE_1.2.2.1 caE_1_1_1), (I aE_1.2.2.2)])) wn (rv_load (cs := [(I aE_1.1), (I aE_1.2.1), (Sl aaE_1_1_1 aE_1.2.2.1 caE_1_1_1), (I aE_1.2.2.2)]) Try.underlying51 rfl ti51 e4 rfl hc181) rfl hJ
                 refine ⟨?_, ?_⟩
                 ·rintro ⟨⟨⟨a174, ⟨c175, K176⟩⟩, ⟨a178, ⟨c179, a185⟩⟩⟩, ⟨⟨c186, ⟨a191, c192⟩⟩, ⟨⟨K193, a196⟩, ⟨c197, b198⟩⟩⟩⟩ ρ σm hJ hoff hdep
                  have e4 := look_off (N := 124) (hoff 4 rfl) rfl
                  obtain ⟨H, m, ht180⟩ := id hJ
                  have hc181 := H.cells 8 rfl
                  exact dp_v (v := (.agg #[(I aE_1.1), (I aE_1.2.1), (Sl aaE_1_1_1 aE_1.2.2.1 caE_1_1_1), (I aE_1.2.2.2)])) wn (rv_load (cs := [(I aE_1.1), (I aE_1.2.1), (Sl aaE_1_1_1 aE_1.2.2.1 caE_1_1_1), (I aE_1.2.2.2)]) Try.underlying51 rfl ti51 e4 rfl hc181) rfl hJ
                 refine ⟨?_, ?_⟩
                 ·rintro ⟨⟨⟨a174, ⟨c175, K176⟩⟩, ⟨a178, ⟨c179, a185⟩⟩⟩, ⟨⟨c186, ⟨a191, c192⟩⟩, ⟨⟨K193, a196⟩, ⟨c197, b198⟩⟩⟩⟩ ρ σm hJ hoff hdep
                  have e4 := look_off (N := 124) (hoff 4 rfl) rfl
                  obtain ⟨H, m⟩ := id hJ
                  have hc181 := H.cells 7 rfl
                  exact dp_v (v := (.agg #[(I aE_1.1), (I aE_1.2.1), (Sl aaE_1_1_1 aE_1.2.2.1 caE_1_1_1), (I aE_1.2.2.2)])) wn (rv_load (cs := [(I aE_1.1), (I aE_1.2.1), (Sl aaE_1_1_1 aE_1.2.2.1 caE_1_1_1), (I aE_1.2.2.2)]) Try.underlying51 rfl ti51 e4 rfl hc181) rfl hJ
                 refine ⟨?_, ?_⟩
                 ·rintro ⟨⟨⟨a174, ⟨c175, K176⟩⟩, ⟨a178, ⟨c179, a185⟩⟩⟩, ⟨⟨c186, ⟨a191, c192⟩⟩, ⟨⟨K193, a196⟩, ⟨c197, b198⟩⟩⟩⟩ ρ σm hJ hoff hdep
                  have e4 := look_off (N := 124) (hoff 4 rfl) rfl
                  obtain ⟨H, m, ht180⟩ := id hJ
                  have hc181 := H.cells 9 rfl
                  exact dp_v (v := (.agg #[(I aE_1.1), (I aE_1.2.1), (Sl aaE_1_1_1 aE_1.2.2.1 caE_1_1_1), (I aE_1.2.2.2)])) wn (rv_load (cs := [(I aE_1.1), (I aE_1.2.1), (Sl aaE_1_1_1 aE_1.2.2.1 caE_1_1_1), (I aE_1.2.2.2)]) Try.underlying51 rfl ti51 e4 rfl hc181) rfl hJ
                 trivial) ?_
               refine all_cons (by
                 refine ⟨?_, ?_⟩
                 ·rintro ⟨⟨⟨a174, ⟨c175, K176⟩⟩, ⟨a178, ⟨c179, a185⟩⟩⟩, ⟨⟨c186, ⟨a191, c192⟩⟩, ⟨⟨K193, a196⟩, ⟨c197, b198⟩⟩⟩⟩ ρ σm hJ hoff hdep
                  have e101 : look 124 ρ 101 = (.agg #[(I aE_1.1), (I aE_1.2.1), (Sl aaE_1_1_1 aE_1.2.2.1 caE_1_1_1), (I aE_1.2.2.2)]) := hdep 2 rfl rfl 101 rfl
                  obtain ⟨H, m, ht180⟩ := id hJ
                  refine dp_cx wn (cx_call hc184 (ent_f hc184.fn (by show [look 124 ρ 101] = _; rw [e101])) hn0 (show Hp S0 σ0 _ ([Ch.ro 0 (Sl aaE_1_1_1 aE_1.2.2.1 caE_1_1_1) aE_1.2.2.1] ++ [Ch.ro 0 (Sl a174 r171.1 c175) r171.1, Ch.ro 0 (Sl a178 r171.2 c179) r171.2, Ch.own 0 0 (Sl a80 r157.2.2 c81) r157.2.2, Ch.ro 0 (Sl a75 r157.2.1 c76) r157.2.1, Ch.ro 0 (Sl aaH_0_0 aH_0.1 caH_0_0) aH_0.1, Ch.ro 0 (Sl aaH_0_1 aH_0.2 caH_0_1) aH_0.2, Ch.bx n0 b1 0 [(Sl aaH_0_0 aH_0.1 caH_0_0), (Sl aaH_0_1 aH_0.2 caH_0_1)] [] [], Ch.ro 0 (Sl aaE_1_1_1 aE_1.2.2.1 caE_1_1_1) aE_1.2.2.1, Ch.bx n0 b3 0 [(I aE_1.1), (I aE_1.2.1), (Sl aaE_1_1_1 aE_1.2.2.1 caE_1_1_1), (I aE_1.2.2.2)] [] [], Ch.own n0 n0 (Sl a38 r35.1.1 c39) r35.1.1, Ch.own n0 n0 (Sl a40 r35.1.2 c41) r35.1.2, Ch.bx n0 b42 0 [(Sl a38 r35.1.1 c39), (Sl a40 r35.1.2 c41)] [] [], Ch.bx n0 b83 0 [(Sl a75 r157.2.1 c76), (Sl a80 r157.2.2 c81)] [] []]) from (H.sel' [7, 0, 1, 2, 3, 4, 5, 6, 7, 8, 9, 10, 11, 12] rfl rfl))) ?_
                  rintro _ σq ⟨_, ⟨a185x, c186x, rfl, rfl, ht187⟩, H2, m2⟩
                  obtain ⟨σr0, hwr0, H2, mr0⟩ := H2.pubSc 0 rfl
                  exact ⟨_, (((a174, (c175, K176)), (a178, (c179, a185x))), ((c186x, (a191, c192)), ((K193, a196), (c197, b198)))), hwr0, rfl, ⟨H2.sel' [0, 1, 2, 3, 4, 5, 6, 7, 8, 9, 10, 11, 12, 13] rfl rfl, m.comp (m2.comp mr0), ht180, ht187⟩, stab [0, 1, 2, 4, 9] (by kernel_rfl) ⟨rfl, rfl, rfl, rfl, rfl, trivial⟩⟩
                 refine ⟨?_, ?_⟩
                 ·rintro ⟨⟨⟨a174, ⟨c175, K176⟩⟩, ⟨a178, ⟨c179, a185⟩⟩⟩, ⟨⟨c186, ⟨a191, c192⟩⟩, ⟨⟨K193, a196⟩, ⟨c197, b198⟩⟩⟩⟩ ρ σm hJ hoff hdep
                  have e101 : look 124 ρ 101 = (.agg #[(I aE_1.1), (I aE_1.2.1), (Sl aaE_1_1_1 aE_1.2.2.1 caE_1_1_1), (I aE_1.2.2.2)]) := hdep 2 rfl rfl 101 rfl
                  obtain ⟨H, m, ht180⟩ := id hJ
                  refine dp_cx wn (cx_call hc184 (ent_f hc184.fn (by show [look 124 ρ 101] = _; rw [e101])) hn0 (show Hp S0 σ0 _ ([Ch.ro 0 (Sl aaE_1_1_1 aE_1.2.2.1 caE_1_1_1) aE_1.2.2.1] ++ [Ch.bx n0 b198 0 [(.slice none 0 0), (.slice none 0 0)] [] [], Ch.ro 0 (Sl a174 r171.1 c175) r171.1, Ch.ro 0 (Sl a178 r171.2 c179) r171.2, Ch.own 0 0 (Sl a80 r157.2.2 c81) r157.2.2, Ch.ro 0 (Sl a75 r157.2.1 c76) r157.2.1, Ch.ro 0 (Sl aaH_0_0 aH_0.1 caH_0_0) aH_0.1, Ch.ro 0 (Sl aaH_0_1 aH_0.2 caH_0_1) aH_0.2, Ch.bx n0 b1 0 [(Sl aaH_0_0 aH_0.1 caH_0_0), (Sl aaH_0_1 aH_0.2 caH_0_1)] [] [], Ch.ro 0 (Sl aaE_1_1_1 aE_1.2.2.1 caE_1_1_1) aE_1.2.2.1, Ch.bx n0 b3 0 [(I aE_1.1), (I aE_1.2.1), (Sl aaE_1_1_1 aE_1.2.2.1 caE_1_1_1), (I aE_1.2.2.2)] [] [], Ch.own n0 n0 (Sl a38 r35.1.1 c39) r35.1.1, Ch.own n0 n0 (Sl a40 r35.1.2 c41) r35.1.2, Ch.bx n0 b42 0 [(Sl a38 r35.1.1 c39), (Sl a40 r35.1.2 c41)] [] [], Ch.bx n0 b83 0 [(Sl a75 r157.2.1 c76), (Sl a80 r157.2.2 c81)] [] []]) from (H.sel' [8, 0, 1, 2, 3, 4, 5, 6, 7, 8, 9, 10, 11, 12, 13] rfl rfl))) ?_
                  rintro _ σq ⟨_, ⟨a185x, c186x, rfl, rfl, ht187⟩, H2, m2⟩
                  obtain ⟨σr0, hwr0, H2, mr0⟩ := H2.pubSc 0 rfl
                  exact ⟨_, (((a174, (c175, K176)), (a178, (c179, a185x))), ((c186x, (a191, c192)), ((K193, a196), (c197, b198)))), hwr0, rfl, ⟨H2.sel' [1, 0, 2, 3, 4, 5, 6, 7, 8, 9, 10, 11, 12, 13, 14] rfl rfl, m.comp (m2.comp mr0), ht180, ht187⟩, stab [0, 1, 2, 4, 9] (by kernel_rfl) ⟨rfl, rfl, rfl, rfl, rfl, trivial⟩⟩
                 trivial) ?_
               refine ac rfl (by
                 intro k; rintro ⟨⟨⟨a174, ⟨c175, K176⟩⟩, ⟨a178, ⟨c179, a185⟩⟩⟩, ⟨⟨c186, ⟨a191, c192⟩⟩, ⟨⟨K193, a196⟩, ⟨c197, b198⟩⟩⟩⟩ ρ σm hJ hoff hdep
                 have e2 := look_off (N := 124) (hoff 2 rfl) rfl
                 exact dp_v (v := (I aT_2)) wn (rv_move e2) rfl hJ) ?_
               refine all_cons (by
                 refine ⟨?_, ?_⟩
                 ·rintro ⟨⟨⟨a174, ⟨c175, K176⟩⟩, ⟨a178, ⟨c179, a185⟩⟩⟩, ⟨⟨c186, ⟨a191, c192⟩⟩, ⟨⟨K193, a196⟩, ⟨c197, b198⟩⟩⟩⟩ ρ σm hJ hoff hdep
                  have e100 : look 124 ρ 100 = (.agg #[(Sl a174 r171.1 c175), (Sl a178 r171.2 c179)]) := hdep 1 rfl rfl 100 rfl
                  have e102 : look 124 ρ 102 = (.agg #[(I r182.1), (I r182.2.1), (Sl a185 r182.2.2.1 c186), (I r182.2.2.2)]) := hdep 3 rfl rfl 102 rfl
                  have e103 : look 124 ρ 103 = (I aT_2) := hdep 4 rfl rfl 103 rfl
                  obtain ⟨H, m, ht180, ht187⟩ := id hJ
                  refine dp_cx wn (cx_call (hc190 a174 c175 a178 c179 a185 c186) (ent_f (hc190 a174 c175 a178 c179 a185 c186).fn (by show [look 124 ρ 100, look 124 ρ 102, look 124 ρ 103] = _; rw [e100, e102, e103])) hn0 (show Hp S0 σ0 _ ([Ch.ro 0 (Sl a174 r171.1 c175) r171.1, Ch.ro 0 (Sl a178 r171.2 c179) r171.2, Ch.ro 0 (Sl a185 r182.2.2.1 c186) r182.2.2.1] ++ [Ch.ro 0 (Sl a185 r182.2.2.1 c186) r182.2.2.1, Ch.ro 0 (Sl a174 r171.1 c175) r171.1, Ch.ro 0 (Sl a178 r171.2 c179) r171.2, Ch.own 0 0 (Sl a80 r157.2.2 c81) r157.2.2, Ch.ro 0 (Sl a75 r157.2.1 c76) r157.2.1, Ch.ro 0 (Sl aaH_0_0 aH_0.1 caH_0_0) aH_0.1, Ch.ro 0 (Sl aaH_0_1 aH_0.2 caH_0_1) aH_0.2, Ch.bx n0 b1 0 [(Sl aaH_0_0 aH_0.1 caH_0_0), (Sl aaH_0_1 aH_0.2 caH_0_1)] [] [], Ch.ro 0 (Sl aaE_1_1_1 aE_1.2.2.1 caE_1_1_1) aE_1.2.2.1, Ch.bx n0 b3 0 [(I aE_1.1), (I aE_1.2.1), (Sl aaE_1_1_1 aE_1.2.2.1 caE_1_1_1), (I aE_1.2.2.2)] [] [], Ch.own n0 n0 (Sl a38 r35.1.1 c39) r35.1.1, Ch.own n0 n0 (Sl a40 r35.1.2 c41) r35.1.2, Ch.bx n0 b42 0 [(Sl a38 r35.1.1 c39), (Sl a40 r35.1.2 c41)] [] [], Ch.bx n0 b83 0 [(Sl a75 r157.2.1 c76), (Sl a80 r157.2.2 c81)] [] []]) from (H.sel' [1, 2, 0, 0, 1, 2, 3, 4, 5, 6, 7, 8, 9, 10, 11, 12, 13] rfl rfl))) ?_
                  rintro _ σq ⟨_, ⟨a191x, c192x, K193x, a196x, c197x, rfl, rfl, hK194, ht195⟩, H2, m2⟩
                  exact ⟨_, (((a174, (c175, K176)), (a178, (c179, a185))), ((c186, (a191x, c192x)), ((K193x, a196x), (c197x, b198)))), rfl, rfl, ⟨H2.sel' [0, 1, 2, 3, 4, 5, 6, 7, 8, 9, 10, 11, 12, 13, 14, 15] rfl rfl, m.comp0 (m2.mono (fun i h => by simp [cov, Ch.ro] at h)), ht180, ht187, hK194, ht195⟩, stab [0, 1, 2, 3, 4, 9] (by kernel_rfl) ⟨rfl, rfl, rfl, rfl, rfl, rfl, trivial⟩⟩
                 refine ⟨?_, ?_⟩
                 ·rintro ⟨⟨⟨a174, ⟨c175, K176⟩⟩, ⟨a178, ⟨c179, a185⟩⟩⟩, ⟨⟨c186, ⟨a191, c192⟩⟩, ⟨⟨K193, a196⟩, ⟨c197, b198⟩⟩⟩⟩ ρ σm hJ hoff hdep
                  have e100 : look 124 ρ 100 = (.agg #[(Sl a174 r171.1 c175), (Sl a178 r171.2 c179)]) := hdep 1 rfl rfl 100 rfl
                  have e102 : look 124 ρ 102 = (.agg #[(I r182.1), (I r182.2.1), (Sl a185 r182.2.2.1 c186), (I r182.2.2.2)]) := hdep 3 rfl rfl 102 rfl
                  have e103 : look 124 ρ 103 = (I aT_2) := hdep 4 rfl rfl 103 rfl
                  obtain ⟨H, m, ht180, ht187⟩ := id hJ
                  refine dp_cx wn (cx_call (hc190 a174 c175 a178 c179 a185 c186) (ent_f (hc190 a174 c175 a178 c179 a185 c186).fn (by show [look 124 ρ 100, look 124 ρ 102, look 124 ρ 103] = _; rw [e100, e102, e103])) hn0 (show Hp S0 σ0 _ ([Ch.ro 0 (Sl a174 r171.1 c175) r171.1, Ch.ro 0 (Sl a178 r171.2 c179) r171.2, Ch.ro 0 (Sl a185 r182.2.2.1 c186) r182.2.2.1] ++ [Ch.bx n0 b198 0 [(.slice none 0 0), (.slice none 0 0)] [] [], Ch.ro 0 (Sl a185 r182.2.2.1 c186) r182.2.2.1, Ch.ro 0 (Sl a174 r171.1 c175) r171.1, Ch.ro 0 (Sl a178 r171.2 c179) r171.2, Ch.own 0 0 (Sl a80 r157.2.2 c81) r157.2.2, Ch.ro 0 (Sl a75 r157.2.1 c76) r157.2.1, Ch.ro 0 (Sl aaH_0_0 aH_0.1 caH_0_0) aH_0.1, Ch.ro 0 (Sl aaH_0_1 aH_0.2 caH_0_1) aH_0.2, Ch.bx n0 b1 0 [(Sl aaH_0_0 aH_0.1 caH_0_0), (Sl aaH_0_1 aH_0.2 caH_0_1)] [] [], Ch.ro 0 (Sl aaE_1_1_1 aE_1.2.2.1 caE_1_1_1) aE_1.2.2.1, Ch.bx n0 b3 0 [(I aE_1.1), (I aE_1.2.1), (Sl aaE_1_1_1 aE_1.2.2.1 caE_1_1_1), (I aE_1.2.2.2)] [] [], Ch.own n0 n0 (Sl a38 r35.1.1 c39) r35.1.1, Ch.own n0 n0 (Sl a40 r35.1.2 c41) r35.1.2, Ch.bx n0 b42 0 [(Sl a38 r35.1.1 c39), (Sl a40 r35.1.2 c41)] [] [], Ch.bx n0 b83 0 [(Sl a75 r157.2.1 c76), (Sl a80 r157.2.2 c81)] [] []]) from (H.sel' [2, 3, 1, 0, 1, 2, 3, 4, 5, 6, 7, 8, 9, 10, 11, 12, 13, 14] rfl rfl))) ?_
                  rintro _ σq ⟨_, ⟨a191x, c192x, K193x, a196x, c197x, rfl, rfl, hK194, ht195⟩, H2, m2⟩
                  exact ⟨_, (((a174, (c175, K176)), (a178, (c179, a185))), ((c186, (a191x, c192x)), ((K193x, a196x), (c197x, b198)))), rfl, rfl, ⟨H2.sel' [2, 0, 1, 3, 4, 5, 6, 7, 8, 9, 10, 11, 12, 13, 14, 15, 16] rfl rfl, m.comp0 (m2.mono (fun i h => by simp [cov, Ch.ro] at h)), ht180, ht187, hK194, ht195⟩, stab [0, 1, 2, 3, 4, 9] (by kernel_rfl) ⟨rfl, rfl, rfl, rfl, rfl, rfl, trivial⟩⟩
                 trivial) ?_
               refine ac rfl (by
                 intro k; rintro ⟨⟨⟨a174, ⟨c175, K176⟩⟩, ⟨a178, ⟨c179, a185⟩⟩⟩, ⟨⟨c186, ⟨a191, c192⟩⟩, ⟨⟨K193, a196⟩, ⟨c197, b198⟩⟩⟩⟩ ρ σm hJ hoff hdep
                 have e104 := hdep 5 rfl rfl 104 rfl
                 exact dp_v (v := (.tuple #[(.agg #[(Sl a191 r188.1.1 c192), (Sl a196 r188.1.2 c197)]), (B r188.2)])) wn (rv_move e104) rfl hJ) ?_
               refine ac rfl (by
                 intro k; rintro ⟨⟨⟨a174, ⟨c175, K176⟩⟩, ⟨a178, ⟨c179, a185⟩⟩⟩, ⟨⟨c186, ⟨a191, c192⟩⟩, ⟨⟨K193, a196⟩, ⟨c197, b198⟩⟩⟩⟩ ρ σm hJ hoff hdep
                 have e98 := hdep 6 rfl rfl 98 rfl
                 exact dp_v (v := (.agg #[(Sl a191 r188.1.1 c192), (Sl a196 r188.1.2 c197)])) wn (rv_extract e98 rfl) rfl hJ) ?_
               refine ac rfl (by
                 intro k; rintro ⟨⟨⟨a174, ⟨c175, K176⟩⟩, ⟨a178, ⟨c179, a185⟩⟩⟩, ⟨⟨c186, ⟨a191, c192⟩⟩, ⟨⟨K193, a196⟩, ⟨c197, b198⟩⟩⟩⟩ ρ σm hJ hoff hdep
                 have e98 := hdep 6 rfl rfl 98 rfl
                 exact dp_v (v := (B r188.2)) wn (rv_extract e98 rfl) rfl hJ) ?_
               refine all_cons (by
                 refine ⟨?_, ?_⟩
                 ·rintro ⟨⟨⟨a174, ⟨c175, K176⟩⟩, ⟨a178, ⟨c179, a185⟩⟩⟩, ⟨⟨c186, ⟨a191, c192⟩⟩, ⟨⟨K193, a196⟩, ⟨c197, b198⟩⟩⟩⟩ ρ σm hJ hoff hdep
                  obtain ⟨H, m⟩ := id hJ
                  refine dp_ex wn (ex_alloc (cs := [(.slice none 0 0), (.slice none 0 0)]) H hn0 ti26 rfl) ?_
                  rintro _ σq ⟨b198x, rfl, H2, m2⟩
                  exact ⟨_, (((a174, (c175, K176)), (a178, (c179, a185))), ((c186, (a191, c192)), ((K193, a196), (c197, b198x)))), rfl, rfl, ⟨H2.sel' [0, 1, 2, 3, 4, 5, 6, 7, 8, 9, 10, 11] rfl rfl, m.comp0 m2⟩, stab [0, 1, 2, 3, 4, 5, 6, 7, 8] (by kernel_rfl) ⟨rfl, rfl, rfl, rfl, rfl, rfl, rfl, rfl, rfl, trivial⟩⟩
                 refine ⟨?_, ?_⟩
                 ·rintro ⟨⟨⟨a174, ⟨c175, K176⟩⟩, ⟨a178, ⟨c179, a185⟩⟩⟩, ⟨⟨c186, ⟨a191, c192⟩⟩, ⟨⟨K193, a196⟩, ⟨c197, b198⟩⟩⟩⟩ ρ σm hJ hoff hdep
                  obtain ⟨H, m, ht180⟩ := id hJ
                  refine dp_ex wn (ex_alloc (cs := [(.slice none 0 0), (.slice none 0 0)]) H hn0 ti26 rfl) ?_
                  rintro _ σq ⟨b198x, rfl, H2, m2⟩
                  exact ⟨_, (((a174, (c175, K176)), (a178, (c179, a185))), ((c186, (a191, c192)), ((K193, a196), (c197, b198x)))), rfl, rfl, ⟨H2.sel' [0, 1, 2, 3, 4, 5, 6, 7, 8, 9, 10, 11, 12, 13] rfl rfl, m.comp0 m2, ht180⟩, stab [0, 1, 2, 3, 4, 5, 6, 7, 8] (by kernel_rfl) ⟨rfl, rfl, rfl, rfl, rfl, rfl, rfl, rfl, rfl, trivial⟩⟩
                 refine ⟨?_, ?_⟩
                 ·rintro ⟨⟨⟨a174, ⟨c175, K176⟩⟩, ⟨a178, ⟨c179, a185⟩⟩⟩, ⟨⟨c186, ⟨a191, c192⟩⟩, ⟨⟨K193, a196⟩, ⟨c197, b198⟩⟩⟩⟩ ρ σm hJ hoff hdep
                  obtain ⟨H, m, ht180, ht187⟩ := id hJ
                  refine dp_ex wn (ex_alloc (cs := [(.slice none 0 0), (.slice none 0 0)]) H hn0 ti26 rfl) ?_
                  rintro _ σq ⟨b198x, rfl, H2, m2⟩
                  exact ⟨_, (((a174, (c175, K176)), (a178, (c179, a185))), ((c186, (a191, c192)), ((K193, a196), (c197, b198x)))), rfl, rfl, ⟨H2.sel' [0, 1, 2, 3, 4, 5, 6, 7, 8, 9, 10, 11, 12, 13, 14] rfl rfl, m.comp0 m2, ht180, ht187⟩, stab [0, 1, 2, 3, 4, 5, 6, 7, 8] (by kernel_rfl) ⟨rfl, rfl, rfl, rfl, rfl, rfl, rfl, rfl, rfl, trivial⟩⟩
                 refine ⟨?_, ?_⟩
                 ·rintro ⟨⟨⟨a174, ⟨c175, K176⟩⟩, ⟨a178, ⟨c179, a185⟩⟩⟩, ⟨⟨c186, ⟨a191, c192⟩⟩, ⟨⟨K193, a196⟩, ⟨c197, b198⟩⟩⟩⟩ ρ σm hJ hoff hdep
                  obtain ⟨H, m, ht180, ht187, hK194, ht195⟩ := id hJ
                  refine dp_ex wn (ex_alloc (cs := [(.slice none 0 0), (.slice none 0 0)]) H hn0 ti26 rfl) ?_
                  rintro _ σq ⟨b198x, rfl, H2, m2⟩
                  exact ⟨_, (((a174, (c175, K176)), (a178, (c179, a185))), ((c186, (a191, c192)), ((K193, a196), (c197, b198x)))), rfl, rfl, ⟨H2.sel' [0, 1, 2, 3, 4, 5, 6, 7, 8, 9, 10, 11, 12, 13, 14, 15, 16] rfl rfl, m.comp0 m2, ht180, ht187, hK194, ht195⟩, stab [0, 1, 2, 3, 4, 5, 6, 7, 8] (by kernel_rfl) ⟨rfl, rfl, rfl, rfl, rfl, rfl, rfl, rfl, rfl, trivial⟩⟩
                 trivial) ?_
               refine all_cons (by
                 refine ⟨?_, ?_⟩
                 ·rintro ⟨⟨⟨a174, ⟨c175, K176⟩⟩, ⟨a178, ⟨c179, a185⟩⟩⟩, ⟨⟨c186, ⟨a191, c192⟩⟩, ⟨⟨K193, a196⟩, ⟨c197, b198⟩⟩⟩⟩ ρ σm hJ hoff hdep
                  have e17 := hdep 9 rfl rfl 17 rfl
                  have e105 := hdep 7 rfl rfl 105 rfl
                  obtain ⟨H, m, ht180, ht187, hK194, ht195⟩ := id hJ
                  refine dp_exS wn rfl (ex_store_box (k := 0) (cs := [(.slice none 0 0), (.slice none 0 0)]) (vs := [(Sl a191 r188.1.1 c192), (Sl a196 r188.1.2 c197)]) (cs' := [(Sl a191 r188.1.1 c192), (Sl a196 r188.1.2 c197)]) H (i := 0) rfl ti26 e17 rfl e105 rfl rfl (Nat.le_of_ble_eq_true rfl) (by simp [plain]) rfl) ?_
                  rintro σq ⟨H2, m2⟩
                  exact ⟨_, (((a174, (c175, K176)), (a178, (c179, a185))), ((c186, (a191, c192)), ((K193, a196), (c197, b198)))), rfl, ⟨H2.sel' [0, 1, 2, 3, 4, 5, 6, 7, 8, 9, 10, 11, 12, 13, 14, 15, 16] rfl rfl, m.comp m2, ht180, ht187, hK194, ht195⟩, stab [0, 1, 2, 3, 4, 5, 6, 7, 8, 9] (by kernel_rfl) ⟨rfl, rfl, rfl, rfl, rfl, rfl, rfl, rfl, rfl, rfl, trivial⟩⟩
                 trivial) ?_
               exact all_nil
              ·rintro ⟨⟨⟨a174, ⟨c175, K176⟩⟩, ⟨a178, ⟨c179, a185⟩⟩⟩, ⟨⟨c186, ⟨a191, c192⟩⟩, ⟨⟨K193, a196⟩, ⟨c197, b198⟩⟩⟩⟩ ρ σ199 hJ hoff hrel
               have e8 := look_off (N := 124) (hoff 8 rfl) rfl
               have e9 := look_off (N := 124) (hoff 9 rfl) rfl
               have e12 := look_off (N := 124) (hoff 12 rfl) rfl
               have e15 := look_off (N := 124) (hoff 15 rfl) rfl
               have e17 := hrel 9 rfl 17 rfl
               have e106 := hrel 8 rfl 106 rfl
               obtain ⟨H, -, ht180, ht187, hK194, ht195⟩ := (show Hp S0 σ0 σ199 [Ch.bx n0 b198 0 [(Sl a191 r188.1.1 c192), (Sl a196 r188.1.2 c197)] [] [], Ch.big K193, Ch.own n0 n0 (Sl a196 r188.1.2 c197) r188.1.2, Ch.ro 0 (Sl a185 r182.2.2.1 c186) r182.2.2.1, Ch.ro 0 (Sl a174 r171.1 c175) r171.1, Ch.ro 0 (Sl a178 r171.2 c179) r171.2, Ch.own 0 0 (Sl a80 r157.2.2 c81) r157.2.2, Ch.ro 0 (Sl a75 r157.2.1 c76) r157.2.1, Ch.ro 0 (Sl aaH_0_0 aH_0.1 caH_0_0) aH_0.1, Ch.ro 0 (Sl aaH_0_1 aH_0.2 caH_0_1) aH_0.2, Ch.bx n0 b1 0 [(Sl aaH_0_0 aH_0.1 caH_0_0), (Sl aaH_0_1 aH_0.2 caH_0_1)] [] [], Ch.ro 0 (Sl aaE_1_1_1 aE_1.2.2.1 caE_1_1_1) aE_1.2.2.1, Ch.bx n0 b3 0 [(I aE_1.1), (I aE_1.2.1), (Sl aaE_1_1_1 aE_1.2.2.1 caE_1_1_1), (I aE_1.2.2.2)] [] [], Ch.own n0 n0 (Sl a38 r35.1.1 c39) r35.1.1, Ch.own n0 n0 (Sl a40 r35.1.2 c41) r35.1.2, Ch.bx n0 b42 0 [(Sl a38 r35.1.1 c39), (Sl a40 r35.1.2 c41)] [] [], Ch.bx n0 b83 0 [(Sl a75 r157.2.1 c76), (Sl a80 r157.2.2 c81)] [] []] ∧ Md (fun i => (fun i => (fun i => (cov []) i ∨ (fun i => (fun i => (cov [Ch.ro 0 (Sl aaH_0_0 aH_0.1 caH_0_0) aH_0.1, Ch.ro 0 (Sl aaH_0_1 aH_0.2 caH_0_1) aH_0.2]) i ∨ (cov K176) i) i ∨ (fun b => blk (Sl a178 r171.2 c179) = some b) i) i) i ∨ (fun i => (cov [Ch.ro 0 (Sl aaE_1_1_1 aE_1.2.2.1 caE_1_1_1) aE_1.2.2.1]) i ∨ (fun b => blk (Sl a185 r182.2.2.1 c186) = some b) i) i) i ∨ (fun i => i = b198) i) σ167 σ199 ∧ c179 = r171.2.length ∧ c186 = r182.2.2.1.length ∧ Dp 0 (Sl a191 r188.1.1 c192) r188.1.1 K193 ∧ c192 = r188.1.1.length from hJ)
               clear hJ Hs
               rw [fr_lookL (L := [(8, (pt b42 0)), (9, (B r35.2)), (12, (pt b83 0)), (15, (I r157.1)), (17, (pt b198 0)), (106, (B r188.2))]) ⟨e8, e9, e12, e15, e17, e106, trivial⟩]
               clear hoff hrel e8 e9 e12 e15 e17 e106
               refine st (v := (B r188.2)) (rv_assign rfl) ?_
               refine w_end ?_
               refine q_then ?_
               refine c_seq ?_
               refine c_seq ?_
               obtain ⟨o200, hj, h'⟩ := bind_some h
               clear h
               refine c_cut (fun e a w => e = .normal ∧ ∃ (ρ : Nat → Value) (σ : St), a = fr 124 (updL ρ [(12, (pt b83 0)), (15, (I r157.1)), (115, (B o200))]) ∧ w = σ.w ∧ Hp S0 σ0 σ [Ch.ro 0 (Sl a75 r157.2.1 c76) r157.2.1, Ch.own 0 0 (Sl a80 r157.2.2 c81) r157.2.2, Ch.bx n0 b83 0 [(Sl a75 r157.2.1 c76), (Sl a80 r157.2.2 c81)] [] []]) ?_ ?_
               ·clear h'
                rename _ = some o200 => h
                refine rg ?_
                have hc201 := H.cells 0 rfl
                refine st (v := (.agg #[(Sl a191 r188.1.1 c192), (Sl a196 r188.1.2 c197)])) (rv_load (cs := [(Sl a191 r188.1.1 c192), (Sl a196 r188.1.2 c197)]) Try.underlying26 rfl ti26 rfl rfl hc201) ?_
                have hc202 := H.cells 15 rfl
                refine st (v := (.agg #[(Sl a38 r35.1.1 c39), (Sl a40 r35.1.2 c41)])) (rv_load (cs := [(Sl a38 r35.1.1 c39), (Sl a40 r35.1.2 c41)]) Try.underlying26 rfl ti26 rfl rfl hc202) ?_
                obtain ⟨σ203, hw204, H, -⟩ := H.pub 2 rfl (Nat.le_refl _)
                rw [← hw204]; clear hw204
                obtain ⟨σ205, hw206, H, -⟩ := H.pub 13 rfl (Nat.le_refl _)
                rw [← hw206]; clear hw206
                obtain ⟨σ207, hw208, H, -⟩ := H.pub 14 rfl (Nat.le_refl _)
                rw [← hw208]; clear hw208
                replace H := H.roLow 2 0 rfl (Nat.zero_le _)
                replace H := H.roLow 2 0 rfl (Nat.zero_le _)
                replace H := H.roLow 2 0 rfl (Nat.zero_le _)
                obtain ⟨r209, hx210, h'⟩ := bind_some h
                clear h
                have h := h'; clear h'
                have hc211 := c_laws_eqHistory (aa_0_0 := a191) (ca_0_0 := c192) (aa_0_1 := a196) (ca_0_1 := c197) (ab_1_0 := a38) (cb_1_0 := c39) (ab_1_1 := a40) (cb_1_1 := c41) hx210
                have hle := Nat.le_trans hn0 H.size
                refine st_call (cx_lend (Loan.lendB hK194.lends (Loan.same (Loan.same (Loan.same Loan.nil)))) hc211 (ent_f hc211.fn rfl) (show Hp S0 σ0 _ ([Ch.big K193] ++ ([Ch.ro 0 (Sl a196 r188.1.2 c197) r188.1.2, Ch.ro 0 (Sl a38 r35.1.1 c39) r35.1.1, Ch.ro 0 (Sl a40 r35.1.2 c41) r35.1.2] ++ [Ch.ro 0 (Sl a40 r35.1.2 c41) r35.1.2, Ch.ro 0 (Sl a38 r35.1.1 c39) r35.1.1, Ch.ro 0 (Sl a196 r188.1.2 c197) r188.1.2, Ch.ro n0 (Sl a40 r35.1.2 c41) r35.1.2, Ch.ro n0 (Sl a38 r35.1.1 c39) r35.1.1, Ch.ro n0 (Sl a196 r188.1.2 c197) r188.1.2, Ch.bx n0 b198 0 [(Sl a191 r188.1.1 c192), (Sl a196 r188.1.2 c197)] [] [], Ch.ro 0 (Sl a185 r182.2.2.1 c186) r182.2.2.1, Ch.ro 0 (Sl a174 r171.1 c175) r171.1, Ch.ro 0 (Sl a178 r171.2 c179) r171.2, Ch.own 0 0 (Sl a80 r157.2.2 c81) r157.2.2, Ch.ro 0 (Sl a75 r157.2.1 c76) r157.2.1, Ch.ro 0 (Sl aaH_0_0 aH_0.1 caH_0_0) aH_0.1, Ch.ro 0 (Sl aaH_0_1 aH_0.2 caH_0_1) aH_0.2, Ch.bx n0 b1 0 [(Sl aaH_0_0 aH_0.1 caH_0_0), (Sl aaH_0_1 aH_0.2 caH_0_1)] [] [], Ch.ro 0 (Sl aaE_1_1_1 aE_1.2.2.1 caE_1_1_1) aE_1.2.2.1, Ch.bx n0 b3 0 [(I aE_1.1), (I aE_1.2.1), (Sl aaE_1_1_1 aE_1.2.2.1 caE_1_1_1), (I aE_1.2.2.2)] [] [], Ch.bx n0 b42 0 [(Sl a38 r35.1.1 c39), (Sl a40 r35.1.2 c41)] [] [], Ch.bx n0 b83 0 [(Sl a75 r157.2.1 c76), (Sl a80 r157.2.2 c81)] [] []])) from (H.sel' [7, 2, 1, 0, 0, 1, 2, 3, 4, 5, 6, 8, 9, 10, 11, 12, 13, 14, 15, 16, 17, 18, 19] rfl rfl)) (by rintro _ _ _ ⟨rfl, rfl⟩; exact trivial)) wn ?_
                rintro _ σ212 ⟨_, ⟨rfl, rfl⟩, H, -, -⟩
                replace H : Hp S0 σ0 σ212 [Ch.big K193, Ch.ro 0 (Sl a40 r35.1.2 c41) r35.1.2, Ch.ro 0 (Sl a38 r35.1.1 c39) r35.1.1, Ch.ro 0 (Sl a196 r188.1.2 c197) r188.1.2, Ch.ro n0 (Sl a40 r35.1.2 c41) r35.1.2, Ch.ro n0 (Sl a38 r35.1.1 c39) r35.1.1, Ch.ro n0 (Sl a196 r188.1.2 c197) r188.1.2, Ch.bx n0 b198 0 [(Sl a191 r188.1.1 c192), (Sl a196 r188.1.2 c197)] [] [], Ch.ro 0 (Sl a185 r182.2.2.1 c186) r182.2.2.1, Ch.ro 0 (Sl a174 r171.1 c175) r171.1, Ch.ro 0 (Sl a178 r171.2 c179) r171.2, Ch.own 0 0 (Sl a80 r157.2.2 c81) r157.2.2, Ch.ro 0 (Sl a75 r157.2.1 c76) r157.2.1, Ch.ro 0 (Sl aaH_0_0 aH_0.1 caH_0_0) aH_0.1, Ch.ro 0 (Sl aaH_0_1 aH_0.2 caH_0_1) aH_0.2, Ch.bx n0 b1 0 [(Sl aaH_0_0 aH_0.1 caH_0_0), (Sl aaH_0_1 aH_0.2 caH_0_1)] [] [], Ch.ro 0 (Sl aaE_1_1_1 aE_1.2.2.1 caE_1_1_1) aE_1.2.2.1, Ch.bx n0 b3 0 [(I aE_1.1), (I aE_1.2.1), (Sl aaE_1_1_1 aE_1.2.2.1 caE_1_1_1), (I aE_1.2.2.2)] [] [], Ch.bx n0 b42 0 [(Sl a38 r35.1.1 c39), (Sl a40 r35.1.2 c41)] [] [], Ch.bx n0 b83 0 [(Sl a75 r157.2.1 c76), (Sl a80 r157.2.2 c81)] [] []] := H
                clear hle
                replace H : Hp S0 σ0 σ212 [Ch.big K193, Ch.ro 0 (Sl a40 r35.1.2 c41) r35.1.2, Ch.ro 0 (Sl a38 r35.1.1 c39) r35.1.1, Ch.ro 0 (Sl a196 r188.1.2 c197) r188.1.2, Ch.ro n0 (Sl a40 r35.1.2 c41) r35.1.2, Ch.ro n0 (Sl a38 r35.1.1 c39) r35.1.1, Ch.ro n0 (Sl a196 r188.1.2 c197) r188.1.2, Ch.bx n0 b198 0 [(Sl a191 r188.1.1 c192), (Sl a196 r188.1.2 c197)] [] [], Ch.ro 0 (Sl a185 r182.2.2.1 c186) r182.2.2.1, Ch.ro 0 (Sl a174 r171.1 c175) r171.1, Ch.ro 0 (Sl a178 r171.2 c179) r171.2, Ch.own 0 0 (Sl a80 r157.2.2 c81) r157.2.2, Ch.ro 0 (Sl a75 r157.2.1 c76) r157.2.1, Ch.ro 0 (Sl aaH_0_0 aH_0.1 caH_0_0) aH_0.1, Ch.ro 0 (Sl aaH_0_1 aH_0.2 caH_0_1) aH_0.2, Ch.bx n0 b1 0 [(Sl aaH_0_0 aH_0.1 caH_0_0), (Sl aaH_0_1 aH_0.2 caH_0_1)] [] [], Ch.ro 0 (Sl aaE_1_1_1 aE_1.2.2.1 caE_1_1_1) aE_1.2.2.1, Ch.bx n0 b3 0 [(I aE_1.1), (I aE_1.2.1), (Sl aaE_1_1_1 aE_1.2.2.1 caE_1_1_1), (I aE_1.2.2.2)] [] [], Ch.bx n0 b42 0 [(Sl a38 r35.1.1 c39), (Sl a40 r35.1.2 c41)] [] [], Ch.bx n0 b83 0 [(Sl a75 r157.2.1 c76), (Sl a80 r157.2.2 c81)] [] []] := H
                replace H : Hp S0 σ0 σ212 [Ch.own 0 0 (Sl a80 r157.2.2 c81) r157.2.2, Ch.ro 0 (Sl a75 r157.2.1 c76) r157.2.1, Ch.bx n0 b83 0 [(Sl a75 r157.2.1 c76), (Sl a80 r157.2.2 c81)] [] []] := H.sel' [11, 12, 19] rfl rfl
                refine st (v := (B (!r209))) (rv_not rfl) ?_
                refine st (v := (B (!r209))) (rv_move rfl) ?_
                rcases Bool.eq_false_or_eq_true (!r209) with hb213 | hb213
                ·replace h := bif_t hb213 h
                 refine st_skip (congrArg some hb213) ?_
                 refine st_skip (congrArg some hb213) ?_
                 refine st_skip (congrArg some hb213) ?_
                 refine st (v := (B true)) (rv_pick_t (congrArg B hb213) rfl) ?_
                 refine w_end ?_
                 obtain rfl := Option.some.inj h
                 exact ⟨rfl, _, σ212, fr_join ⟨rfl, rfl, rfl, trivial⟩, rfl, H.sel' [1, 0, 2] rfl rfl⟩
                ·replace h := bif_f hb213 h
                 refine st_g (v := (B r188.2)) (congrArg some hb213) (rv_move rfl) ?_
                 refine st_g (v := (B r35.2)) (congrArg some hb213) (rv_move rfl) ?_
                 refine st_g (v := (B (r188.2 != r35.2))) (congrArg some hb213) (rv_bneq Try.underlying4 rfl rfl) ?_
                 refine st (v := (B (r188.2 != r35.2))) (rv_pick_f (congrArg B hb213) rfl) ?_
                 refine w_end ?_
                 obtain rfl := Option.some.inj h
                 exact ⟨rfl, _, σ212, fr_join ⟨rfl, rfl, rfl, trivial⟩, rfl, H.sel' [1, 0, 2] rfl rfl⟩
               ·clear hj
                have h := h'
                clear h' H
                rintro e a w ⟨rfl, ρ, σ214, rfl, rfl, H⟩
                refine q_then ?_
                refine cd_cond o200 rfl (fun hb215 => ?_) (fun hb215 => ?_)
                ·replace h := bif_t hb215 h
                 refine c_seq ?_
                 refine rg ?_
                 refine st (v := (B false)) (rv_assign rfl) ?_
                 refine w_end ?_
                 refine q_then ?_
                 refine c_ret ?_
                 refine q_then_r ?_
                 obtain rfl := Option.some.inj h
                 exact fin_ret (v := (B false)) (results_ok Try.results6 (res_tmp (v := (B false)) rfl res_nil) rfl) ⟨rfl, rfl⟩ (H.sel' [] rfl rfl)
                ·replace h := bif_f hb215 h
                 refine c_skip ?_
                 refine q_then ?_
                 refine c_seq ?_
                 refine rg ?_
                 refine st (v := (I 1)) (rv_assign rfl) ?_
                 refine w_end ?_
                 refine q_then ?_
                 refine c_seq ?_
                 refine rg ?_
                 have hc216 := H.cells 2 rfl
                 refine st (v := (.agg #[(Sl a75 r157.2.1 c76), (Sl a80 r157.2.2 c81)])) (rv_load (cs := [(Sl a75 r157.2.1 c76), (Sl a80 r157.2.2 c81)]) Try.underlying26 rfl ti26 rfl rfl hc216) ?_
                 refine st (v := (I 1)) (rv_move rfl) ?_
                 obtain ⟨σ217, hw218, H, -⟩ := H.pub 1 rfl (Nat.le_refl _)
                 rw [← hw218]; clear hw218
                 obtain ⟨r219, hx220, h'⟩ := bind_some h
                 clear h
                 have h := h'; clear h'
                 have hc221 := c_laws_heldHistory (aa_0_0 := a75) (ca_0_0 := c76) (aa_0_1 := a80) (ca_0_1 := c81) hx220
                 refine st_call (cx_call hc221 (ent_f hc221.fn rfl) hn0 (show Hp S0 σ0 _ ([Ch.ro 0 (Sl a75 r157.2.1 c76) r157.2.1, Ch.ro 0 (Sl a80 r157.2.2 c81) r157.2.2] ++ [Ch.ro 0 (Sl a80 r157.2.2 c81) r157.2.2, Ch.ro 0 (Sl a75 r157.2.1 c76) r157.2.1, Ch.bx n0 b83 0 [(Sl a75 r157.2.1 c76), (Sl a80 r157.2.2 c81)] [] []]) from (H.sel' [1, 0, 0, 1, 2] rfl rfl))) wn ?_
                 rintro _ σ222 ⟨_, ⟨rfl, rfl⟩, H, -⟩
                 replace H : Hp S0 σ0 σ222 [Ch.ro 0 (Sl a80 r157.2.2 c81) r157.2.2, Ch.ro 0 (Sl a75 r157.2.1 c76) r157.2.1, Ch.bx n0 b83 0 [(Sl a75 r157.2.1 c76), (Sl a80 r157.2.2 c81)] [] []] := H
                 refine st (v := (I r219)) (rv_assign rfl) ?_
                 refine w_end ?_
                 refine q_then ?_
                 refine c_seq ?_
                 refine c_seq ?_
                 refine rg ?_
                 refine st (v := (I r219)) (rv_move rfl) ?_
                 refine st (v := (B (decide (r219 < 0)))) (rv_lss (a := r219) (b := 0) rfl rfl) ?_
                 refine w_end ?_
                 refine q_then ?_
                 refine cd_cond (decide (r219 < 0)) rfl (fun hb223 => ?_) (fun hb223 => ?_)
                 ·replace h := bif_t hb223 h
                  refine c_seq ?_
                  refine rg ?_
                  refine st (v := (B false)) (rv_assign rfl) ?_
                  refine w_end ?_
                  refine q_then ?_
                  refine c_ret ?_
                  refine q_then_r ?_
                  obtain rfl := Option.some.inj h
                  exact fin_ret (v := (B false)) (results_ok Try.results6 (res_tmp (v := (B false)) rfl res_nil) rfl) ⟨rfl, rfl⟩ (H.sel' [] rfl rfl)
                 ·replace h := bif_f hb223 h
                  refine c_skip ?_
                  refine q_then ?_
                  refine c_seq ?_
                  refine c_seq ?_
                  refine rg ?_
                  refine st (v := (I r219)) (rv_move rfl) ?_
                  refine st (v := (I r157.1)) (rv_move rfl) ?_
                  refine st (v := (B (r219 != r157.1))) (rv_neq (a := r219) (b := r157.1) rfl rfl) ?_
                  refine w_end ?_
                  refine q_then ?_
                  refine cd_cond (r219 != r157.1) rfl (fun hb224 => ?_) (fun hb224 => ?_)
                  ·replace h := bif_t hb224 h
                   refine c_seq ?_
                   refine rg ?_
                   refine st (v := (B false)) (rv_assign rfl) ?_
                   refine w_end ?_
                   refine q_then ?_
                   refine c_ret ?_
                   refine q_then_r ?_
                   obtain rfl := Option.some.inj h
                   exact fin_ret (v := (B false)) (results_ok Try.results6 (res_tmp (v := (B false)) rfl res_nil) rfl) ⟨rfl, rfl⟩ (H.sel' [] rfl rfl)
                  ·replace h := bif_f hb224 h
                   refine c_skip ?_
                   refine q_then ?_
                   refine c_seq ?_
                   refine rg ?_
                   refine st (v := (B true)) (rv_assign rfl) ?_
                   refine w_end ?_
                   refine q_then ?_
                   refine c_ret ?_
                   obtain rfl := Option.some.inj h
                   exact fin_ret (v := (B true)) (results_ok Try.results6 (res_tmp (v := (B true)) rfl res_nil) rfl) ⟨rfl, rfl⟩ (H.sel' [] rfl rfl)

end Go.Vs
