/- The functions compute what their models say. -/
import Derived.Test.YtnkflplbeagljabDoorKPageCanonicalC2
set_option linter.unusedVariables false
set_option linter.unusedSimpArgs false
set_option maxRecDepth 20000
namespace Go.Vs
open Go Go.Proofs
attribute [local irreducible] Code.wp Code.wpIn wpList wpListIn wpQuiet Calls CallsIn

theorem c_spec_reader_spoil {r_0 : (List UInt8) × Int} {list_1 : List Int} {n_2 : Int} {ar_0_0 : Option Addr} {cr_0_0 : Nat} {lor_0 br_0 or_0 : Nat} {prer_0 sufr_0 : List Value} {alist_1 : Option Addr} {clist_1 : Nat} {r : (List Int) × ((List UInt8) × Int)} (h : M.spec_reader_spoil r_0 list_1 n_2 = some r) :
    Cal2 Tryd.prog 39 [(pt br_0 or_0), (Sl alist_1 list_1 clist_1), (I n_2)] [Ch.bx lor_0 br_0 or_0 [(Sl ar_0_0 r_0.1 cr_0_0), (I r_0.2)] prer_0 sufr_0, Ch.ro 0 (Sl ar_0_0 r_0.1 cr_0_0) r_0.1, Ch.ro 0 (Sl alist_1 list_1 clist_1) list_1] (fun n0 v L => ∃ (az1 : Option Addr), ∃ (cz2 : Nat), ∃ (az3 : Option Addr), ∃ (cz4 : Nat), v = (Sl az1 r.1 cz2) ∧ L = [Ch.own n0 n0 (Sl az1 r.1 cz2) r.1, Ch.bx lor_0 br_0 or_0 [(Sl az3 r.2.1 cz4), (I r.2.2)] prer_0 sufr_0, Ch.ro 0 (Sl az3 r.2.1 cz4) r.2.1]) := by
 refine cal2 (n := 41) Tryd.func39 rfl rfl rfl rfl ?_
 intro S0 σ0 n0 hn0 H
 unfold M.spec_reader_spoil at h
 refine c_seq ?_
 refine rg ?_
 refine st (v := (.slice none 0 0)) (rv_assign rfl) ?_
 refine w_end ?_
 refine q_then ?_
 refine c_seq ?_
 refine rg ?_
 refine st (v := (Sl alist_1 list_1 clist_1)) (rv_move rfl) ?_
 obtain ⟨r1, hx2, h'⟩ := bind_some h
 clear h
 have h := h'; clear h'
 have hc3 := c_spec_copyInts (alist_0 := alist_1) (clist_0 := clist_1) hx2
 refine st_call (cx_call hc3 (ent_f hc3.fn rfl) hn0 (show Hp S0 σ0 _ ([Ch.ro 0 (Sl alist_1 list_1 clist_1) list_1] ++ [Ch.bx lor_0 br_0 or_0 [(Sl ar_0_0 r_0.1 cr_0_0), (I r_0.2)] prer_0 sufr_0, Ch.ro 0 (Sl ar_0_0 r_0.1 cr_0_0) r_0.1, Ch.ro 0 (Sl alist_1 list_1 clist_1) list_1]) from (H.sel' [2, 0, 1, 2] rfl rfl))) wn ?_
 rintro _ σ6 ⟨_, ⟨a4, c5, rfl, rfl⟩, H, -⟩
 replace H : Hp S0 σ0 σ6 [Ch.own n0 n0 (Sl a4 r1 c5) r1, Ch.bx lor_0 br_0 or_0 [(Sl ar_0_0 r_0.1 cr_0_0), (I r_0.2)] prer_0 sufr_0, Ch.ro 0 (Sl ar_0_0 r_0.1 cr_0_0) r_0.1, Ch.ro 0 (Sl alist_1 list_1 clist_1) list_1] := H
 refine st (v := (Sl a4 r1 c5)) (rv_assign rfl) ?_
 refine w_end ?_
 refine q_then ?_
 refine c_seq ?_
 refine c_seq ?_
 refine rg ?_
 refine st (v := (pt br_0 or_0)) (rv_move rfl) ?_
 obtain ⟨r7, hx8, h'⟩ := bind_some h
 clear h
 have h := h'; clear h'
 have hc9 := c_spec_reader_pick (lor_0 := lor_0) (br_0 := br_0) (or_0 := or_0) (prer_0 := prer_0) (sufr_0 := sufr_0) (ar_0_0 := ar_0_0) (cr_0_0 := cr_0_0) hx8
 refine st_call (cx_call hc9 (ent_f hc9.fn rfl) hn0 (show Hp S0 σ0 _ ([Ch.bx lor_0 br_0 or_0 [(Sl ar_0_0 r_0.1 cr_0_0), (I r_0.2)] prer_0 sufr_0, Ch.ro 0 (Sl ar_0_0 r_0.1 cr_0_0) r_0.1] ++ [Ch.own n0 n0 (Sl a4 r1 c5) r1, Ch.ro 0 (Sl ar_0_0 r_0.1 cr_0_0) r_0.1, Ch.ro 0 (Sl alist_1 list_1 clist_1) list_1]) from (H.sel' [1, 2, 0, 2, 3] rfl rfl))) wn ?_
 rintro _ σ12 ⟨_, ⟨a10, c11, rfl, rfl⟩, H, -⟩
 replace H : Hp S0 σ0 σ12 [Ch.bx lor_0 br_0 or_0 [(Sl a10 r7.2.1 c11), (I r7.2.2)] prer_0 sufr_0, Ch.ro 0 (Sl a10 r7.2.1 c11) r7.2.1, Ch.own n0 n0 (Sl a4 r1 c5) r1, Ch.ro 0 (Sl ar_0_0 r_0.1 cr_0_0) r_0.1, Ch.ro 0 (Sl alist_1 list_1 clist_1) list_1] := H
 refine w_end ?_
 refine q_then ?_
 obtain ⟨o13, hj, h'⟩ := bind_some h
 clear h
 refine c_cut (fun e a w => e = .normal ∧ ∃ (ρ : Nat → Value) (σ : St) (aj1 : Option Addr) (cj2 : Nat) (aj3 : Option Addr) (cj4 : Nat), a = fr 41 (updL ρ [(0, (pt br_0 or_0)), (7, (Sl aj3 o13.2 cj4))]) ∧ w = σ.w ∧ Hp S0 σ0 σ [Ch.bx lor_0 br_0 or_0 [(Sl aj1 o13.1.1 cj2), (I o13.1.2)] prer_0 sufr_0, Ch.ro 0 (Sl aj1 o13.1.1 cj2) o13.1.1, Ch.own n0 n0 (Sl aj3 o13.2 cj4) o13.2]) ?_ ?_
 ·clear h'
  rename _ = some o13 => h
  refine c_blk ?_
  refine c_seq ?_
  refine rg ?_
  refine st (v := (B (r7.1 == 0))) (rv_eql (a := r7.1) (b := 0) rfl rfl) ?_
  refine st (v := (B (r7.1 == 0))) (rv_assign rfl) ?_
  refine w_end ?_
  refine q_then ?_
  refine cd_cond (r7.1 == 0) rfl (fun hb14 => ?_) (fun hb14 => ?_)
  ·replace h := bif_t hb14 h
   refine rg ?_
   refine st (v := (Sl a4 r1 c5)) (rv_move rfl) ?_
   refine st (v := (I n_2)) (rv_move rfl) ?_
   refine st_ex (ex_buildSlice (el := n0) (xs := ([n_2] : List Int)) (ps := [(0, (I n_2))]) (cs := [(I n_2)]) H hn0 Tryd.underlying37 ti3 rfl rfl (by kernel_rfl) (.cons (c := [(I n_2)]) rfl (.nil)) rfl) wn ?_
   rintro _ σ16 ⟨b15, rfl, H, -⟩
   obtain ⟨xs17, hx18, h'⟩ := bind_some h
   clear h
   have h := h'; clear h'
   refine st_ex (ex_append H (i := 3) rfl Tryd.underlying37 Tryd.underlying37 ti3 rfl rfl (by decide) (H.own 0 rfl).rd hx18 hn0 rfl rfl) wn ?_
   rintro _ σ21 ⟨a19, c20, rfl, H, -⟩
   refine st (v := (Sl a19 xs17 c20)) (rv_assign rfl) ?_
   refine w_end ?_
   refine q_blk ?_
   obtain rfl := Option.some.inj h
   exact ⟨rfl, _, σ21, a10, c11, a19, c20, fr_join ⟨rfl, rfl, trivial⟩, rfl, H.sel' [2, 3, 0] rfl rfl⟩
  ·replace h := bif_f hb14 h
   refine c_seq ?_
   refine rg ?_
   refine st (v := (B (r7.1 == 1))) (rv_eql (a := r7.1) (b := 1) rfl rfl) ?_
   refine st (v := (B (r7.1 == 1))) (rv_assign rfl) ?_
   refine w_end ?_
   refine q_then ?_
   refine cd_cond (r7.1 == 1) rfl (fun hb22 => ?_) (fun hb22 => ?_)
   ·replace h := bif_t hb22 h
    refine c_seq ?_
    refine rg ?_
    refine st (v := (Sl a4 r1 c5)) (rv_move rfl) ?_
    refine st (v := (I (r1.length : Int))) (rv_len Tryd.underlying37 rfl) ?_
    refine st (v := (B (decide (0 < (r1.length : Int))))) (rv_gtr (a := (r1.length : Int)) (b := 0) rfl rfl) ?_
    refine w_end ?_
    refine q_then ?_
    refine cd_cond (decide (0 < (r1.length : Int))) rfl (fun hb23 => ?_) (fun hb23 => ?_)
    ·replace h := bif_t hb23 h
     refine rg ?_
     refine st (v := (Sl a4 r1 c5)) (rv_move rfl) ?_
     obtain ⟨xs24, hx25, h'⟩ := bind_some h
     clear h
     have h := h'; clear h'
     obtain ⟨a26, c27, hs28, hR29, hb30⟩ := (H.own 2 rfl).slice hx25
     replace H := (H.front (i := 2) rfl).turn (d := Ch.own n0 n0 (Sl a26 xs24 c27) xs24) (fun _ => hR29) hb30; clear hR29 hb30
     refine st (v := (Sl a26 xs24 c27)) (rv_slice_l Tryd.underlying37 ti3 hs28 rfl rfl) ?_
     refine st (v := (Sl a26 xs24 c27)) (rv_assign rfl) ?_
     refine w_end ?_
     refine q_blk ?_
     obtain rfl := Option.some.inj h
     exact ⟨rfl, _, σ12, a10, c11, a26, c27, fr_join ⟨rfl, rfl, trivial⟩, rfl, H.sel' [1, 2, 0] rfl rfl⟩
    ·replace h := bif_f hb23 h
     refine c_skip ?_
     refine q_blk ?_
     obtain rfl := Option.some.inj h
     exact ⟨rfl, _, σ12, a10, c11, a4, c5, fr_join ⟨rfl, rfl, trivial⟩, rfl, H.sel' [0, 1, 2] rfl rfl⟩
   ·replace h := bif_f hb22 h
    refine c_seq ?_
    refine rg ?_
    refine st (v := (B (r7.1 == 2))) (rv_eql (a := r7.1) (b := 2) rfl rfl) ?_
    refine st (v := (B (r7.1 == 2))) (rv_assign rfl) ?_
    refine w_end ?_
    refine q_then ?_
    refine cd_cond (r7.1 == 2) rfl (fun hb31 => ?_) (fun hb31 => ?_)
    ·replace h := bif_t hb31 h
     refine c_seq ?_
     refine rg ?_
     refine st (v := (Sl a4 r1 c5)) (rv_move rfl) ?_
     refine st (v := (I (r1.length : Int))) (rv_len Tryd.underlying37 rfl) ?_
     refine st (v := (B (decide (0 < (r1.length : Int))))) (rv_gtr (a := (r1.length : Int)) (b := 0) rfl rfl) ?_
     refine w_end ?_
     refine q_then ?_
     refine cd_cond (decide (0 < (r1.length : Int))) rfl (fun hb32 => ?_) (fun hb32 => ?_)
     ·replace h := bif_t hb32 h
      refine rg ?_
      refine st (v := (Sl a4 r1 c5)) (rv_move rfl) ?_
      refine st (v := (pt br_0 or_0)) (rv_move rfl) ?_
      refine st (v := (Sl a4 r1 c5)) (rv_move rfl) ?_
      refine st (v := (I (r1.length : Int))) (rv_len Tryd.underlying37 rfl) ?_
      obtain ⟨r33, hx34, h'⟩ := bind_some h
      clear h
      have h := h'; clear h'
      have hc35 := c_spec_reader_pick (lor_0 := lor_0) (br_0 := br_0) (or_0 := or_0) (prer_0 := prer_0) (sufr_0 := sufr_0) (ar_0_0 := a10) (cr_0_0 := c11) hx34
      refine st_call (cx_call hc35 (ent_f hc35.fn rfl) hn0 (show Hp S0 σ0 _ ([Ch.bx lor_0 br_0 or_0 [(Sl a10 r7.2.1 c11), (I r7.2.2)] prer_0 sufr_0, Ch.ro 0 (Sl a10 r7.2.1 c11) r7.2.1] ++ [Ch.ro 0 (Sl a10 r7.2.1 c11) r7.2.1, Ch.own n0 n0 (Sl a4 r1 c5) r1, Ch.ro 0 (Sl ar_0_0 r_0.1 cr_0_0) r_0.1, Ch.ro 0 (Sl alist_1 list_1 clist_1) list_1]) from (H.sel' [0, 1, 1, 2, 3, 4] rfl rfl))) wn ?_
      rintro _ σ38 ⟨_, ⟨a36, c37, rfl, rfl⟩, H, -⟩
      replace H : Hp S0 σ0 σ38 [Ch.bx lor_0 br_0 or_0 [(Sl a36 r33.2.1 c37), (I r33.2.2)] prer_0 sufr_0, Ch.ro 0 (Sl a36 r33.2.1 c37) r33.2.1, Ch.ro 0 (Sl a10 r7.2.1 c11) r7.2.1, Ch.own n0 n0 (Sl a4 r1 c5) r1, Ch.ro 0 (Sl ar_0_0 r_0.1 cr_0_0) r_0.1, Ch.ro 0 (Sl alist_1 list_1 clist_1) list_1] := H
      refine st (v := (pt br_0 or_0)) (rv_move rfl) ?_
      refine st (v := (I n_2)) (rv_move rfl) ?_
      refine st_ex (ex_buildSlice (el := n0) (xs := ([-1, n_2, 0, 1] : List Int)) (ps := [(0, (I (-1))), (1, (I n_2)), (2, (I 0)), (3, (I 1))]) (cs := [(I (-1)), (I n_2), (I 0), (I 1)]) H hn0 Tryd.underlying37 ti3 rfl rfl (by kernel_rfl) (.cons (c := [(I (-1))]) rfl (.cons (c := [(I n_2)]) rfl (.cons (c := [(I 0)]) rfl (.cons (c := [(I 1)]) rfl (.nil))))) rfl) wn ?_
      rintro _ σ40 ⟨b39, rfl, H, -⟩
      obtain ⟨σ41, hw42, H, -⟩ := H.pub 0 rfl (Nat.le_refl _)
      rw [← hw42]; clear hw42
      replace H := H.roLow 0 0 rfl (Nat.zero_le _)
      obtain ⟨r43, hx44, h'⟩ := bind_some h
      clear h
      have h := h'; clear h'
      have hc45 := c_spec_reader_one (lor_0 := lor_0) (br_0 := br_0) (or_0 := or_0) (prer_0 := prer_0) (sufr_0 := sufr_0) (ar_0_0 := a36) (cr_0_0 := c37) (alist_1 := (some ⟨b39, 0, none⟩)) (clist_1 := 4) hx44
      refine st_call (cx_call hc45 (ent_f hc45.fn rfl) hn0 (show Hp S0 σ0 _ ([Ch.bx lor_0 br_0 or_0 [(Sl a36 r33.2.1 c37), (I r33.2.2)] prer_0 sufr_0, Ch.ro 0 (Sl a36 r33.2.1 c37) r33.2.1, Ch.ro 0 (Sl (some ⟨b39, 0, none⟩) ([-1, n_2, 0, 1] : List Int) 4) ([-1, n_2, 0, 1] : List Int)] ++ [Ch.ro 0 (Sl (some ⟨b39, 0, none⟩) ([-1, n_2, 0, 1] : List Int) 4) ([-1, n_2, 0, 1] : List Int), Ch.ro n0 (Sl (some ⟨b39, 0, none⟩) ([-1, n_2, 0, 1] : List Int) 4) ([-1, n_2, 0, 1] : List Int), Ch.ro 0 (Sl a36 r33.2.1 c37) r33.2.1, Ch.ro 0 (Sl a10 r7.2.1 c11) r7.2.1, Ch.own n0 n0 (Sl a4 r1 c5) r1, Ch.ro 0 (Sl ar_0_0 r_0.1 cr_0_0) r_0.1, Ch.ro 0 (Sl alist_1 list_1 clist_1) list_1]) from (H.sel' [2, 3, 0, 0, 1, 3, 4, 5, 6, 7] rfl rfl))) wn ?_
      rintro _ σ48 ⟨_, ⟨a46, c47, rfl, rfl⟩, H, -⟩
      replace H : Hp S0 σ0 σ48 [Ch.bx lor_0 br_0 or_0 [(Sl a46 r43.2.1 c47), (I r43.2.2)] prer_0 sufr_0, Ch.ro 0 (Sl a46 r43.2.1 c47) r43.2.1, Ch.ro 0 (Sl (some ⟨b39, 0, none⟩) ([-1, n_2, 0, 1] : List Int) 4) ([-1, n_2, 0, 1] : List Int), Ch.ro n0 (Sl (some ⟨b39, 0, none⟩) ([-1, n_2, 0, 1] : List Int) 4) ([-1, n_2, 0, 1] : List Int), Ch.ro 0 (Sl a36 r33.2.1 c37) r33.2.1, Ch.ro 0 (Sl a10 r7.2.1 c11) r7.2.1, Ch.own n0 n0 (Sl a4 r1 c5) r1, Ch.ro 0 (Sl ar_0_0 r_0.1 cr_0_0) r_0.1, Ch.ro 0 (Sl alist_1 list_1 clist_1) list_1] := H
      replace H : Hp S0 σ0 σ48 [Ch.bx lor_0 br_0 or_0 [(Sl a46 r43.2.1 c47), (I r43.2.2)] prer_0 sufr_0, Ch.ro 0 (Sl a46 r43.2.1 c47) r43.2.1, Ch.own n0 n0 (Sl a4 r1 c5) r1] := H.sel' [0, 1, 6] rfl rfl
      obtain ⟨x49, hx50, h'⟩ := bind_some h
      clear h
      have h := h'; clear h'
      obtain ⟨b52, o53, hi51, -⟩ := (H.own 2 rfl).ix hx50
      refine st (v := (pt b52 o53)) (rv_ix Tryd.underlying37 ti3 rfl rfl hi51) ?_
      refine st_exS (ex_store_own (e' := r43.1) (vs := [(I r43.1)]) (k := 0) H (i := 2) rfl ti3 hx50 hi51 rfl rfl rfl rfl rfl (Nat.le_of_ble_eq_true rfl) (by simp [plain]) (by rintro _ rfl; exact rfl)) wn ?_
      rintro σ54 ⟨H, -⟩
      have hsl : (Sl a4 r1 c5) = (Sl a4 (r1.set r33.1.toNat r43.1) c5) := sl_len List.length_set.symm
      rw [hsl]; rw [hsl] at H; clear hsl
      refine w_end ?_
      refine q_blk ?_
      obtain rfl := Option.some.inj h
      exact ⟨rfl, _, σ54, a46, c47, a4, c5, fr_join ⟨rfl, rfl, trivial⟩, rfl, H.sel' [1, 2, 0] rfl rfl⟩
     ·replace h := bif_f hb32 h
      refine c_skip ?_
      refine q_blk ?_
      obtain rfl := Option.some.inj h
      exact ⟨rfl, _, σ12, a10, c11, a4, c5, fr_join ⟨rfl, rfl, trivial⟩, rfl, H.sel' [0, 1, 2] rfl rfl⟩
    ·replace h := bif_f hb31 h
     refine c_skip ?_
     refine q_blk ?_
     obtain rfl := Option.some.inj h
     exact ⟨rfl, _, σ12, a10, c11, a4, c5, fr_join ⟨rfl, rfl, trivial⟩, rfl, H.sel' [0, 1, 2] rfl rfl⟩
 ·clear hj
  have h := h'
  clear h' H
  rintro e a w ⟨rfl, ρ, σ55, a56, c57, a58, c59, rfl, rfl, H⟩
  refine q_then ?_
  refine c_seq ?_
  refine rg ?_
  refine st (v := (Sl a58 o13.2 c59)) (rv_move rfl) ?_
  refine st (v := (Sl a58 o13.2 c59)) (rv_assign rfl) ?_
  refine w_end ?_
  refine q_then ?_
  refine c_ret ?_
  obtain rfl := Option.some.inj h
  exact fin_ret (v := (Sl a58 o13.2 c59)) (results_ok Tryd.results39 (res_tmp (v := (Sl a58 o13.2 c59)) rfl res_nil) rfl) ⟨a58, c59, a56, c57, rfl, rfl⟩ (H.sel' [2, 0, 1] rfl rfl)

theorem c_spec_anyVector {r_0 : (List UInt8) × Int} {ar_0_0 : Option Addr} {cr_0_0 : Nat} {lor_0 br_0 or_0 : Nat} {prer_0 sufr_0 : List Value} {r : (List Int) × ((List UInt8) × Int)} (h : M.spec_anyVector r_0 = some r) :
    Cal2 Tryd.prog 28 [(pt br_0 or_0)] [Ch.bx lor_0 br_0 or_0 [(Sl ar_0_0 r_0.1 cr_0_0), (I r_0.2)] prer_0 sufr_0, Ch.ro 0 (Sl ar_0_0 r_0.1 cr_0_0) r_0.1] (fun n0 v L => ∃ (az1 : Option Addr), ∃ (cz2 : Nat), ∃ (az3 : Option Addr), ∃ (cz4 : Nat), v = (Sl az1 r.1 cz2) ∧ L = [Ch.own n0 n0 (Sl az1 r.1 cz2) r.1, Ch.bx lor_0 br_0 or_0 [(Sl az3 r.2.1 cz4), (I r.2.2)] prer_0 sufr_0, Ch.ro 0 (Sl az3 r.2.1 cz4) r.2.1]) := by
 refine cal2 (n := 12) Tryd.func28 rfl rfl rfl rfl ?_
 intro S0 σ0 n0 hn0 H
 unfold M.spec_anyVector at h
 refine c_seq ?_
 refine rg ?_
 refine st (v := (.slice none 0 0)) (rv_assign rfl) ?_
 refine w_end ?_
 refine q_then ?_
 refine c_seq ?_
 refine c_seq ?_
 refine rg ?_
 refine st (v := (pt br_0 or_0)) (rv_move rfl) ?_
 obtain ⟨r1, hx2, h'⟩ := bind_some h
 clear h
 have h := h'; clear h'
 have hc3 := c_spec_reader_pick (lor_0 := lor_0) (br_0 := br_0) (or_0 := or_0) (prer_0 := prer_0) (sufr_0 := sufr_0) (ar_0_0 := ar_0_0) (cr_0_0 := cr_0_0) hx2
 refine st_call (cx_call hc3 (ent_f hc3.fn rfl) hn0 (show Hp S0 σ0 _ ([Ch.bx lor_0 br_0 or_0 [(Sl ar_0_0 r_0.1 cr_0_0), (I r_0.2)] prer_0 sufr_0, Ch.ro 0 (Sl ar_0_0 r_0.1 cr_0_0) r_0.1] ++ [Ch.ro 0 (Sl ar_0_0 r_0.1 cr_0_0) r_0.1]) from (H.sel' [0, 1, 1] rfl rfl))) wn ?_
 rintro _ σ6 ⟨_, ⟨a4, c5, rfl, rfl⟩, H, -⟩
 replace H : Hp S0 σ0 σ6 [Ch.bx lor_0 br_0 or_0 [(Sl a4 r1.2.1 c5), (I r1.2.2)] prer_0 sufr_0, Ch.ro 0 (Sl a4 r1.2.1 c5) r1.2.1, Ch.ro 0 (Sl ar_0_0 r_0.1 cr_0_0) r_0.1] := H
 refine st (v := (B (r1.1 == 0))) (rv_eql (a := r1.1) (b := 0) rfl rfl) ?_
 refine w_end ?_
 refine q_then ?_
 refine cd_cond (r1.1 == 0) rfl (fun hb7 => ?_) (fun hb7 => ?_)
 ·replace h := bif_t hb7 h
  refine c_seq ?_
  refine rg ?_
  refine st (v := (pt br_0 or_0)) (rv_move rfl) ?_
  refine st (v := (pt br_0 or_0)) (rv_move rfl) ?_
  obtain ⟨r8, hx9, h'⟩ := bind_some h
  clear h
  have h := h'; clear h'
  have hc10 := c_spec_someVector (lor_0 := lor_0) (br_0 := br_0) (or_0 := or_0) (prer_0 := prer_0) (sufr_0 := sufr_0) (ar_0_0 := a4) (cr_0_0 := c5) hx9
  refine st_call (cx_call hc10 (ent_f hc10.fn rfl) hn0 (show Hp S0 σ0 _ ([Ch.bx lor_0 br_0 or_0 [(Sl a4 r1.2.1 c5), (I r1.2.2)] prer_0 sufr_0, Ch.ro 0 (Sl a4 r1.2.1 c5) r1.2.1] ++ [Ch.ro 0 (Sl a4 r1.2.1 c5) r1.2.1, Ch.ro 0 (Sl ar_0_0 r_0.1 cr_0_0) r_0.1]) from (H.sel' [0, 1, 1, 2] rfl rfl))) wn ?_
  rintro _ σ15 ⟨_, ⟨a11, c12, a13, c14, rfl, rfl⟩, H, -⟩
  replace H : Hp S0 σ0 σ15 [Ch.own n0 n0 (Sl a11 r8.1 c12) r8.1, Ch.bx lor_0 br_0 or_0 [(Sl a13 r8.2.1 c14), (I r8.2.2)] prer_0 sufr_0, Ch.ro 0 (Sl a13 r8.2.1 c14) r8.2.1, Ch.ro 0 (Sl a4 r1.2.1 c5) r1.2.1, Ch.ro 0 (Sl ar_0_0 r_0.1 cr_0_0) r_0.1] := H
  obtain ⟨σ16, hw17, H, -⟩ := H.pub 0 rfl (Nat.le_refl _)
  rw [← hw17]; clear hw17
  replace H := H.roLow 0 0 rfl (Nat.zero_le _)
  obtain ⟨r18, hx19, h'⟩ := bind_some h
  clear h
  have h := h'; clear h'
  have hc20 := c_spec_reader_spoil (lor_0 := lor_0) (br_0 := br_0) (or_0 := or_0) (prer_0 := prer_0) (sufr_0 := sufr_0) (ar_0_0 := a13) (cr_0_0 := c14) (alist_1 := a11) (clist_1 := c12) hx19
  refine st_call (cx_call hc20 (ent_f hc20.fn rfl) hn0 (show Hp S0 σ0 _ ([Ch.bx lor_0 br_0 or_0 [(Sl a13 r8.2.1 c14), (I r8.2.2)] prer_0 sufr_0, Ch.ro 0 (Sl a13 r8.2.1 c14) r8.2.1, Ch.ro 0 (Sl a11 r8.1 c12) r8.1] ++ [Ch.ro 0 (Sl a11 r8.1 c12) r8.1, Ch.ro n0 (Sl a11 r8.1 c12) r8.1, Ch.ro 0 (Sl a13 r8.2.1 c14) r8.2.1, Ch.ro 0 (Sl a4 r1.2.1 c5) r1.2.1, Ch.ro 0 (Sl ar_0_0 r_0.1 cr_0_0) r_0.1]) from (H.sel' [2, 3, 0, 0, 1, 3, 4, 5] rfl rfl))) wn ?_
  rintro _ σ25 ⟨_, ⟨a21, c22, a23, c24, rfl, rfl⟩, H, -⟩
  replace H : Hp S0 σ0 σ25 [Ch.own n0 n0 (Sl a21 r18.1 c22) r18.1, Ch.bx lor_0 br_0 or_0 [(Sl a23 r18.2.1 c24), (I r18.2.2)] prer_0 sufr_0, Ch.ro 0 (Sl a23 r18.2.1 c24) r18.2.1, Ch.ro 0 (Sl a11 r8.1 c12) r8.1, Ch.ro n0 (Sl a11 r8.1 c12) r8.1, Ch.ro 0 (Sl a13 r8.2.1 c14) r8.2.1, Ch.ro 0 (Sl a4 r1.2.1 c5) r1.2.1, Ch.ro 0 (Sl ar_0_0 r_0.1 cr_0_0) r_0.1] := H
  replace H : Hp S0 σ0 σ25 [Ch.own n0 n0 (Sl a21 r18.1 c22) r18.1, Ch.bx lor_0 br_0 or_0 [(Sl a23 r18.2.1 c24), (I r18.2.2)] prer_0 sufr_0, Ch.ro 0 (Sl a23 r18.2.1 c24) r18.2.1] := H.sel' [0, 1, 2] rfl rfl
  refine st (v := (Sl a21 r18.1 c22)) (rv_assign rfl) ?_
  refine w_end ?_
  refine q_then ?_
  refine c_ret ?_
  refine q_then_r ?_
  obtain rfl := Option.some.inj h
  exact fin_ret (v := (Sl a21 r18.1 c22)) (results_ok Tryd.results28 (res_tmp (v := (Sl a21 r18.1 c22)) rfl res_nil) rfl) ⟨a21, c22, a23, c24, rfl, rfl⟩ (H.sel' [0, 1, 2] rfl rfl)
 ·replace h := bif_f hb7 h
  refine c_skip ?_
  refine q_then ?_
  refine c_seq ?_
  refine rg ?_
  refine st (v := (pt br_0 or_0)) (rv_move rfl) ?_
  obtain ⟨r26, hx27, h'⟩ := bind_some h
  clear h
  have h := h'; clear h'
  have hc28 := c_spec_someVector (lor_0 := lor_0) (br_0 := br_0) (or_0 := or_0) (prer_0 := prer_0) (sufr_0 := sufr_0) (ar_0_0 := a4) (cr_0_0 := c5) hx27
  refine st_call (cx_call hc28 (ent_f hc28.fn rfl) hn0 (show Hp S0 σ0 _ ([Ch.bx lor_0 br_0 or_0 [(Sl a4 r1.2.1 c5), (I r1.2.2)] prer_0 sufr_0, Ch.ro 0 (Sl a4 r1.2.1 c5) r1.2.1] ++ [Ch.ro 0 (Sl a4 r1.2.1 c5) r1.2.1, Ch.ro 0 (Sl ar_0_0 r_0.1 cr_0_0) r_0.1]) from (H.sel' [0, 1, 1, 2] rfl rfl))) wn ?_
  rintro _ σ33 ⟨_, ⟨a29, c30, a31, c32, rfl, rfl⟩, H, -⟩
  replace H : Hp S0 σ0 σ33 [Ch.own n0 n0 (Sl a29 r26.1 c30) r26.1, Ch.bx lor_0 br_0 or_0 [(Sl a31 r26.2.1 c32), (I r26.2.2)] prer_0 sufr_0, Ch.ro 0 (Sl a31 r26.2.1 c32) r26.2.1, Ch.ro 0 (Sl a4 r1.2.1 c5) r1.2.1, Ch.ro 0 (Sl ar_0_0 r_0.1 cr_0_0) r_0.1] := H
  refine st (v := (Sl a29 r26.1 c30)) (rv_assign rfl) ?_
  refine w_end ?_
  refine q_then ?_
  refine c_ret ?_
  obtain rfl := Option.some.inj h
  exact fin_ret (v := (Sl a29 r26.1 c30)) (results_ok Tryd.results28 (res_tmp (v := (Sl a29 r26.1 c30)) rfl res_nil) rfl) ⟨a29, c30, a31, c32, rfl, rfl⟩ (H.sel' [0, 1, 2] rfl rfl)

theorem c_spec_anyItem {r_0 : (List UInt8) × Int} {ar_0_0 : Option Addr} {cr_0_0 : Nat} {lor_0 br_0 or_0 : Nat} {prer_0 sufr_0 : List Value} {r : (Int × (List Int) × Int) × ((List UInt8) × Int)} (h : M.spec_anyItem r_0 = some r) :
    Cal2 Tryd.prog 27 [(pt br_0 or_0)] [Ch.bx lor_0 br_0 or_0 [(Sl ar_0_0 r_0.1 cr_0_0), (I r_0.2)] prer_0 sufr_0, Ch.ro 0 (Sl ar_0_0 r_0.1 cr_0_0) r_0.1] (fun n0 v L => ∃ (az1 : Option Addr), ∃ (cz2 : Nat), ∃ (az3 : Option Addr), ∃ (cz4 : Nat), v = (.agg #[(I r.1.1), (Sl az1 r.1.2.1 cz2), (I r.1.2.2)]) ∧ L = [Ch.own n0 n0 (Sl az1 r.1.2.1 cz2) r.1.2.1, Ch.bx lor_0 br_0 or_0 [(Sl az3 r.2.1 cz4), (I r.2.2)] prer_0 sufr_0, Ch.ro 0 (Sl az3 r.2.1 cz4) r.2.1]) := by
 refine cal2 (n := 26) Tryd.func27 rfl rfl rfl rfl ?_
 intro S0 σ0 n0 hn0 H
 unfold M.spec_anyItem at h
 refine c_seq ?_
 refine rg ?_
 refine st_ex (ex_alloc (cs := [(I 0), (.slice none 0 0), (I 0)]) H hn0 ti39 rfl) wn ?_
 rintro _ σ2 ⟨b1, rfl, H, -⟩
 refine w_end ?_
 refine q_then ?_
 refine c_seq ?_
 refine rg ?_
 refine st (v := (pt br_0 or_0)) (rv_move rfl) ?_
 obtain ⟨r3, hx4, h'⟩ := bind_some h
 clear h
 have h := h'; clear h'
 have hc5 := c_spec_someItem (lor_0 := lor_0) (br_0 := br_0) (or_0 := or_0) (prer_0 := prer_0) (sufr_0 := sufr_0) (ar_0_0 := ar_0_0) (cr_0_0 := cr_0_0) hx4
 refine st_call (cx_call hc5 (ent_f hc5.fn rfl) hn0 (show Hp S0 σ0 _ ([Ch.bx lor_0 br_0 or_0 [(Sl ar_0_0 r_0.1 cr_0_0), (I r_0.2)] prer_0 sufr_0, Ch.ro 0 (Sl ar_0_0 r_0.1 cr_0_0) r_0.1] ++ [Ch.bx n0 b1 0 [(I 0), (.slice none 0 0), (I 0)] [] [], Ch.ro 0 (Sl ar_0_0 r_0.1 cr_0_0) r_0.1]) from (H.sel' [1, 2, 0, 2] rfl rfl))) wn ?_
 rintro _ σ10 ⟨_, ⟨a6, c7, a8, c9, rfl, rfl⟩, H, -⟩
 replace H : Hp S0 σ0 σ10 [Ch.own n0 n0 (Sl a6 r3.1.2.1 c7) r3.1.2.1, Ch.bx lor_0 br_0 or_0 [(Sl a8 r3.2.1 c9), (I r3.2.2)] prer_0 sufr_0, Ch.ro 0 (Sl a8 r3.2.1 c9) r3.2.1, Ch.bx n0 b1 0 [(I 0), (.slice none 0 0), (I 0)] [] [], Ch.ro 0 (Sl ar_0_0 r_0.1 cr_0_0) r_0.1] := H
 refine st_ex (ex_alloc (cs := [(I 0), (.slice none 0 0), (I 0)]) H hn0 ti39 rfl) wn ?_
 rintro _ σ12 ⟨b11, rfl, H, -⟩
 refine st_exS (ex_store_box (k := 0) (cs := [(I 0), (.slice none 0 0), (I 0)]) (vs := [(I r3.1.1), (Sl a6 r3.1.2.1 c7), (I r3.1.2.2)]) (cs' := [(I r3.1.1), (Sl a6 r3.1.2.1 c7), (I r3.1.2.2)]) H (i := 0) rfl ti39 rfl rfl rfl rfl rfl (Nat.le_of_ble_eq_true rfl) (by simp [plain]) rfl) wn ?_
 rintro σ13 ⟨H, -⟩
 refine w_end ?_
 refine q_then ?_
 refine c_seq ?_
 refine c_seq ?_
 refine rg ?_
 refine st (v := (pt br_0 or_0)) (rv_move rfl) ?_
 obtain ⟨r14, hx15, h'⟩ := bind_some h
 clear h
 have h := h'; clear h'
 have hc16 := c_spec_reader_pick (lor_0 := lor_0) (br_0 := br_0) (or_0 := or_0) (prer_0 := prer_0) (sufr_0 := sufr_0) (ar_0_0 := a8) (cr_0_0 := c9) hx15
 refine st_call (cx_call hc16 (ent_f hc16.fn rfl) hn0 (show Hp S0 σ0 _ ([Ch.bx lor_0 br_0 or_0 [(Sl a8 r3.2.1 c9), (I r3.2.2)] prer_0 sufr_0, Ch.ro 0 (Sl a8 r3.2.1 c9) r3.2.1] ++ [Ch.bx n0 b11 0 [(I r3.1.1), (Sl a6 r3.1.2.1 c7), (I r3.1.2.2)] [] [], Ch.own n0 n0 (Sl a6 r3.1.2.1 c7) r3.1.2.1, Ch.ro 0 (Sl a8 r3.2.1 c9) r3.2.1, Ch.bx n0 b1 0 [(I 0), (.slice none 0 0), (I 0)] [] [], Ch.ro 0 (Sl ar_0_0 r_0.1 cr_0_0) r_0.1]) from (H.sel' [2, 3, 0, 1, 3, 4, 5] rfl rfl))) wn ?_
 rintro _ σ19 ⟨_, ⟨a17, c18, rfl, rfl⟩, H, -⟩
 replace H : Hp S0 σ0 σ19 [Ch.bx lor_0 br_0 or_0 [(Sl a17 r14.2.1 c18), (I r14.2.2)] prer_0 sufr_0, Ch.ro 0 (Sl a17 r14.2.1 c18) r14.2.1, Ch.bx n0 b11 0 [(I r3.1.1), (Sl a6 r3.1.2.1 c7), (I r3.1.2.2)] [] [], Ch.own n0 n0 (Sl a6 r3.1.2.1 c7) r3.1.2.1, Ch.ro 0 (Sl a8 r3.2.1 c9) r3.2.1, Ch.bx n0 b1 0 [(I 0), (.slice none 0 0), (I 0)] [] [], Ch.ro 0 (Sl ar_0_0 r_0.1 cr_0_0) r_0.1] := H
 refine w_end ?_
 refine q_then ?_
 obtain ⟨o20, hj, h'⟩ := bind_some h
 clear h
 refine c_cut (fun e a w => e = .normal ∧ ∃ (ρ : Nat → Value) (σ : St) (aj1 : Option Addr) (cj2 : Nat) (aj3 : Option Addr) (cj4 : Nat), a = fr 26 (updL ρ [(0, (pt br_0 or_0)), (2, (pt b1 0)), (3, (pt b11 0))]) ∧ w = σ.w ∧ Hp S0 σ0 σ [Ch.bx lor_0 br_0 or_0 [(Sl aj1 o20.1.1 cj2), (I o20.1.2)] prer_0 sufr_0, Ch.ro 0 (Sl aj1 o20.1.1 cj2) o20.1.1, Ch.bx n0 b11 0 [(I o20.2.1), (Sl aj3 o20.2.2.1 cj4), (I o20.2.2.2)] [] [], Ch.own n0 n0 (Sl aj3 o20.2.2.1 cj4) o20.2.2.1, Ch.bx n0 b1 0 [(I 0), (.slice none 0 0), (I 0)] [] []]) ?_ ?_
 ·clear h'
  rename _ = some o20 => h
  refine c_blk ?_
  refine c_seq ?_
  refine rg ?_
  refine st (v := (B (r14.1 == 0))) (rv_eql (a := r14.1) (b := 0) rfl rfl) ?_
  refine st (v := (B (r14.1 == 0))) (rv_assign rfl) ?_
  refine w_end ?_
  refine q_then ?_
  refine cd_cond (r14.1 == 0) rfl (fun hb21 => ?_) (fun hb21 => ?_)
  ·replace h := bif_t hb21 h
   refine rg ?_
   refine st (v := (pt br_0 or_0)) (rv_move rfl) ?_
   refine st_ex (ex_buildSlice (el := n0) (xs := ([0, 99, 100] : List Int)) (ps := [(0, (I 0)), (1, (I 99)), (2, (I 100))]) (cs := [(I 0), (I 99), (I 100)]) H hn0 Tryd.underlying37 ti3 rfl rfl (by kernel_rfl) (.cons (c := [(I 0)]) rfl (.cons (c := [(I 99)]) rfl (.cons (c := [(I 100)]) rfl (.nil)))) rfl) wn ?_
   rintro _ σ23 ⟨b22, rfl, H, -⟩
   replace H : Hp S0 σ0 σ23 [Ch.own n0 n0 (Sl (some ⟨b22, 0, none⟩) ([0, 99, 100] : List Int) 3) ([0, 99, 100] : List Int), Ch.bx lor_0 br_0 or_0 [(Sl a17 r14.2.1 c18), (I r14.2.2)] prer_0 sufr_0, Ch.ro 0 (Sl a17 r14.2.1 c18) r14.2.1, Ch.bx n0 b11 0 [(I r3.1.1), (Sl a6 r3.1.2.1 c7), (I r3.1.2.2)] [] [], Ch.own n0 n0 (Sl a6 r3.1.2.1 c7) r3.1.2.1, Ch.bx n0 b1 0 [(I 0), (.slice none 0 0), (I 0)] [] []] := H.sel' [0, 1, 2, 3, 4, 6] rfl rfl
   obtain ⟨σ24, hw25, H, -⟩ := H.pub 0 rfl (Nat.le_refl _)
   rw [← hw25]; clear hw25
   replace H := H.roLow 0 0 rfl (Nat.zero_le _)
   obtain ⟨r26, hx27, h'⟩ := bind_some h
   clear h
   have h := h'; clear h'
   have hc28 := c_spec_reader_one (lor_0 := lor_0) (br_0 := br_0) (or_0 := or_0) (prer_0 := prer_0) (sufr_0 := sufr_0) (ar_0_0 := a17) (cr_0_0 := c18) (alist_1 := (some ⟨b22, 0, none⟩)) (clist_1 := 3) hx27
   refine st_call (cx_call hc28 (ent_f hc28.fn rfl) hn0 (show Hp S0 σ0 _ ([Ch.bx lor_0 br_0 or_0 [(Sl a17 r14.2.1 c18), (I r14.2.2)] prer_0 sufr_0, Ch.ro 0 (Sl a17 r14.2.1 c18) r14.2.1, Ch.ro 0 (Sl (some ⟨b22, 0, none⟩) ([0, 99, 100] : List Int) 3) ([0, 99, 100] : List Int)] ++ [Ch.ro 0 (Sl (some ⟨b22, 0, none⟩) ([0, 99, 100] : List Int) 3) ([0, 99, 100] : List Int), Ch.ro n0 (Sl (some ⟨b22, 0, none⟩) ([0, 99, 100] : List Int) 3) ([0, 99, 100] : List Int), Ch.ro 0 (Sl a17 r14.2.1 c18) r14.2.1, Ch.bx n0 b11 0 [(I r3.1.1), (Sl a6 r3.1.2.1 c7), (I r3.1.2.2)] [] [], Ch.own n0 n0 (Sl a6 r3.1.2.1 c7) r3.1.2.1, Ch.bx n0 b1 0 [(I 0), (.slice none 0 0), (I 0)] [] []]) from (H.sel' [2, 3, 0, 0, 1, 3, 4, 5, 6] rfl rfl))) wn ?_
   rintro _ σ31 ⟨_, ⟨a29, c30, rfl, rfl⟩, H, -⟩
   replace H : Hp S0 σ0 σ31 [Ch.bx lor_0 br_0 or_0 [(Sl a29 r26.2.1 c30), (I r26.2.2)] prer_0 sufr_0, Ch.ro 0 (Sl a29 r26.2.1 c30) r26.2.1, Ch.ro 0 (Sl (some ⟨b22, 0, none⟩) ([0, 99, 100] : List Int) 3) ([0, 99, 100] : List Int), Ch.ro n0 (Sl (some ⟨b22, 0, none⟩) ([0, 99, 100] : List Int) 3) ([0, 99, 100] : List Int), Ch.ro 0 (Sl a17 r14.2.1 c18) r14.2.1, Ch.bx n0 b11 0 [(I r3.1.1), (Sl a6 r3.1.2.1 c7), (I r3.1.2.2)] [] [], Ch.own n0 n0 (Sl a6 r3.1.2.1 c7) r3.1.2.1, Ch.bx n0 b1 0 [(I 0), (.slice none 0 0), (I 0)] [] []] := H
   replace H : Hp S0 σ0 σ31 [Ch.bx lor_0 br_0 or_0 [(Sl a29 r26.2.1 c30), (I r26.2.2)] prer_0 sufr_0, Ch.ro 0 (Sl a29 r26.2.1 c30) r26.2.1, Ch.bx n0 b11 0 [(I r3.1.1), (Sl a6 r3.1.2.1 c7), (I r3.1.2.2)] [] [], Ch.own n0 n0 (Sl a6 r3.1.2.1 c7) r3.1.2.1, Ch.bx n0 b1 0 [(I 0), (.slice none 0 0), (I 0)] [] []] := H.sel' [0, 1, 5, 6, 7] rfl rfl
   refine st (v := (pt b11 0)) (rv_fieldAddr (off := 0) (ft := 3) Tryd.underlying39 rfl ti3 rfl rfl) ?_
   refine st_exS (ex_store_box (k := 0) (cs := [(I r3.1.1), (Sl a6 r3.1.2.1 c7), (I r3.1.2.2)]) (vs := [(I r26.1)]) (cs' := [(I r26.1), (Sl a6 r3.1.2.1 c7), (I r3.1.2.2)]) H (i := 2) rfl ti3 rfl rfl rfl rfl rfl (Nat.le_of_ble_eq_true rfl) (by simp [plain]) rfl) wn ?_
   rintro σ32 ⟨H, -⟩
   refine w_end ?_
   refine q_blk ?_
   obtain rfl := Option.some.inj h
   exact ⟨rfl, _, σ32, a29, c30, a6, c7, fr_join ⟨rfl, rfl, rfl, trivial⟩, rfl, H.sel' [1, 2, 0, 3, 4] rfl rfl⟩
  ·replace h := bif_f hb21 h
   refine c_seq ?_
   refine rg ?_
   refine st (v := (B (r14.1 == 1))) (rv_eql (a := r14.1) (b := 1) rfl rfl) ?_
   refine st (v := (B (r14.1 == 1))) (rv_assign rfl) ?_
   refine w_end ?_
   refine q_then ?_
   refine cd_cond (r14.1 == 1) rfl (fun hb33 => ?_) (fun hb33 => ?_)
   ·replace h := bif_t hb33 h
    refine rg ?_
    refine st (v := (pt br_0 or_0)) (rv_move rfl) ?_
    obtain ⟨r34, hx35, h'⟩ := bind_some h
    clear h
    have h := h'; clear h'
    have hc36 := c_spec_anyVector (lor_0 := lor_0) (br_0 := br_0) (or_0 := or_0) (prer_0 := prer_0) (sufr_0 := sufr_0) (ar_0_0 := a17) (cr_0_0 := c18) hx35
    refine st_call (cx_call hc36 (ent_f hc36.fn rfl) hn0 (show Hp S0 σ0 _ ([Ch.bx lor_0 br_0 or_0 [(Sl a17 r14.2.1 c18), (I r14.2.2)] prer_0 sufr_0, Ch.ro 0 (Sl a17 r14.2.1 c18) r14.2.1] ++ [Ch.ro 0 (Sl a17 r14.2.1 c18) r14.2.1, Ch.bx n0 b11 0 [(I r3.1.1), (Sl a6 r3.1.2.1 c7), (I r3.1.2.2)] [] [], Ch.own n0 n0 (Sl a6 r3.1.2.1 c7) r3.1.2.1, Ch.ro 0 (Sl a8 r3.2.1 c9) r3.2.1, Ch.bx n0 b1 0 [(I 0), (.slice none 0 0), (I 0)] [] [], Ch.ro 0 (Sl ar_0_0 r_0.1 cr_0_0) r_0.1]) from (H.sel' [0, 1, 1, 2, 3, 4, 5, 6] rfl rfl))) wn ?_
    rintro _ σ41 ⟨_, ⟨a37, c38, a39, c40, rfl, rfl⟩, H, -⟩
    replace H : Hp S0 σ0 σ41 [Ch.own n0 n0 (Sl a37 r34.1 c38) r34.1, Ch.bx lor_0 br_0 or_0 [(Sl a39 r34.2.1 c40), (I r34.2.2)] prer_0 sufr_0, Ch.ro 0 (Sl a39 r34.2.1 c40) r34.2.1, Ch.ro 0 (Sl a17 r14.2.1 c18) r14.2.1, Ch.bx n0 b11 0 [(I r3.1.1), (Sl a6 r3.1.2.1 c7), (I r3.1.2.2)] [] [], Ch.own n0 n0 (Sl a6 r3.1.2.1 c7) r3.1.2.1, Ch.ro 0 (Sl a8 r3.2.1 c9) r3.2.1, Ch.bx n0 b1 0 [(I 0), (.slice none 0 0), (I 0)] [] [], Ch.ro 0 (Sl ar_0_0 r_0.1 cr_0_0) r_0.1] := H
    replace H : Hp S0 σ0 σ41 [Ch.own n0 n0 (Sl a37 r34.1 c38) r34.1, Ch.bx lor_0 br_0 or_0 [(Sl a39 r34.2.1 c40), (I r34.2.2)] prer_0 sufr_0, Ch.ro 0 (Sl a39 r34.2.1 c40) r34.2.1, Ch.bx n0 b11 0 [(I r3.1.1), (Sl a6 r3.1.2.1 c7), (I r3.1.2.2)] [] [], Ch.own n0 n0 (Sl a6 r3.1.2.1 c7) r3.1.2.1, Ch.bx n0 b1 0 [(I 0), (.slice none 0 0), (I 0)] [] []] := H.sel' [0, 1, 2, 4, 5, 7] rfl rfl
    refine st (v := (pt b11 1)) (rv_fieldAddr (off := 1) (ft := 37) Tryd.underlying39 rfl ti37 rfl rfl) ?_
    refine st_exS (ex_store_box (k := 1) (cs := [(I r3.1.1), (Sl a6 r3.1.2.1 c7), (I r3.1.2.2)]) (vs := [(Sl a37 r34.1 c38)]) (cs' := [(I r3.1.1), (Sl a37 r34.1 c38), (I r3.1.2.2)]) H (i := 3) rfl ti37 rfl rfl rfl rfl rfl (Nat.le_of_ble_eq_true rfl) (by simp [plain]) rfl) wn ?_
    rintro σ42 ⟨H, -⟩
    refine w_end ?_
    refine q_blk ?_
    obtain rfl := Option.some.inj h
    exact ⟨rfl, _, σ42, a39, c40, a37, c38, fr_join ⟨rfl, rfl, rfl, trivial⟩, rfl, H.sel' [2, 3, 0, 1, 5] rfl rfl⟩
   ·replace h := bif_f hb33 h
    refine c_seq ?_
    refine rg ?_
    refine st (v := (B (r14.1 == 2))) (rv_eql (a := r14.1) (b := 2) rfl rfl) ?_
    refine st (v := (B (r14.1 == 2))) (rv_assign rfl) ?_
    refine w_end ?_
    refine q_then ?_
    refine cd_cond (r14.1 == 2) rfl (fun hb43 => ?_) (fun hb43 => ?_)
    ·replace h := bif_t hb43 h
     refine rg ?_
     refine st (v := (pt br_0 or_0)) (rv_move rfl) ?_
     refine st_ex (ex_buildSlice (el := n0) (xs := ([-1, 16] : List Int)) (ps := [(0, (I (-1))), (1, (I 16))]) (cs := [(I (-1)), (I 16)]) H hn0 Tryd.underlying37 ti3 rfl rfl (by kernel_rfl) (.cons (c := [(I (-1))]) rfl (.cons (c := [(I 16)]) rfl (.nil))) rfl) wn ?_
     rintro _ σ45 ⟨b44, rfl, H, -⟩
     replace H : Hp S0 σ0 σ45 [Ch.own n0 n0 (Sl (some ⟨b44, 0, none⟩) ([-1, 16] : List Int) 2) ([-1, 16] : List Int), Ch.bx lor_0 br_0 or_0 [(Sl a17 r14.2.1 c18), (I r14.2.2)] prer_0 sufr_0, Ch.ro 0 (Sl a17 r14.2.1 c18) r14.2.1, Ch.bx n0 b11 0 [(I r3.1.1), (Sl a6 r3.1.2.1 c7), (I r3.1.2.2)] [] [], Ch.own n0 n0 (Sl a6 r3.1.2.1 c7) r3.1.2.1, Ch.bx n0 b1 0 [(I 0), (.slice none 0 0), (I 0)] [] []] := H.sel' [0, 1, 2, 3, 4, 6] rfl rfl
     obtain ⟨σ46, hw47, H, -⟩ := H.pub 0 rfl (Nat.le_refl _)
     rw [← hw47]; clear hw47
     replace H := H.roLow 0 0 rfl (Nat.zero_le _)
     obtain ⟨r48, hx49, h'⟩ := bind_some h
     clear h
     have h := h'; clear h'
     have hc50 := c_spec_reader_one (lor_0 := lor_0) (br_0 := br_0) (or_0 := or_0) (prer_0 := prer_0) (sufr_0 := sufr_0) (ar_0_0 := a17) (cr_0_0 := c18) (alist_1 := (some ⟨b44, 0, none⟩)) (clist_1 := 2) hx49
     refine st_call (cx_call hc50 (ent_f hc50.fn rfl) hn0 (show Hp S0 σ0 _ ([Ch.bx lor_0 br_0 or_0 [(Sl a17 r14.2.1 c18), (I r14.2.2)] prer_0 sufr_0, Ch.ro 0 (Sl a17 r14.2.1 c18) r14.2.1, Ch.ro 0 (Sl (some ⟨b44, 0, none⟩) ([-1, 16] : List Int) 2) ([-1, 16] : List Int)] ++ [Ch.ro 0 (Sl (some ⟨b44, 0, none⟩) ([-1, 16] : List Int) 2) ([-1, 16] : List Int), Ch.ro n0 (Sl (some ⟨b44, 0, none⟩) ([-1, 16] : List Int) 2) ([-1, 16] : List Int), Ch.ro 0 (Sl a17 r14.2.1 c18) r14.2.1, Ch.bx n0 b11 0 [(I r3.1.1), (Sl a6 r3.1.2.1 c7), (I r3.1.2.2)] [] [], Ch.own n0 n0 (Sl a6 r3.1.2.1 c7) r3.1.2.1, Ch.bx n0 b1 0 [(I 0), (.slice none 0 0), (I 0)] [] []]) from (H.sel' [2, 3, 0, 0, 1, 3, 4, 5, 6] rfl rfl))) wn ?_
     rintro _ σ53 ⟨_, ⟨a51, c52, rfl, rfl⟩, H, -⟩
     replace H : Hp S0 σ0 σ53 [Ch.bx lor_0 br_0 or_0 [(Sl a51 r48.2.1 c52), (I r48.2.2)] prer_0 sufr_0, Ch.ro 0 (Sl a51 r48.2.1 c52) r48.2.1, Ch.ro 0 (Sl (some ⟨b44, 0, none⟩) ([-1, 16] : List Int) 2) ([-1, 16] : List Int), Ch.ro n0 (Sl (some ⟨b44, 0, none⟩) ([-1, 16] : List Int) 2) ([-1, 16] : List Int), Ch.ro 0 (Sl a17 r14.2.1 c18) r14.2.1, Ch.bx n0 b11 0 [(I r3.1.1), (Sl a6 r3.1.2.1 c7), (I r3.1.2.2)] [] [], Ch.own n0 n0 (Sl a6 r3.1.2.1 c7) r3.1.2.1, Ch.bx n0 b1 0 [(I 0), (.slice none 0 0), (I 0)] [] []] := H
     replace H : Hp S0 σ0 σ53 [Ch.bx lor_0 br_0 or_0 [(Sl a51 r48.2.1 c52), (I r48.2.2)] prer_0 sufr_0, Ch.ro 0 (Sl a51 r48.2.1 c52) r48.2.1, Ch.bx n0 b11 0 [(I r3.1.1), (Sl a6 r3.1.2.1 c7), (I r3.1.2.2)] [] [], Ch.own n0 n0 (Sl a6 r3.1.2.1 c7) r3.1.2.1, Ch.bx n0 b1 0 [(I 0), (.slice none 0 0), (I 0)] [] []] := H.sel' [0, 1, 5, 6, 7] rfl rfl
     refine st (v := (pt b11 2)) (rv_fieldAddr (off := 2) (ft := 3) Tryd.underlying39 rfl ti3 rfl rfl) ?_
     refine st_exS (ex_store_box (k := 2) (cs := [(I r3.1.1), (Sl a6 r3.1.2.1 c7), (I r3.1.2.2)]) (vs := [(I r48.1)]) (cs' := [(I r3.1.1), (Sl a6 r3.1.2.1 c7), (I r48.1)]) H (i := 2) rfl ti3 rfl rfl rfl rfl rfl (Nat.le_of_ble_eq_true rfl) (by simp [plain]) rfl) wn ?_
     rintro σ54 ⟨H, -⟩
     refine w_end ?_
     refine q_blk ?_
     obtain rfl := Option.some.inj h
     exact ⟨rfl, _, σ54, a51, c52, a6, c7, fr_join ⟨rfl, rfl, rfl, trivial⟩, rfl, H.sel' [1, 2, 0, 3, 4] rfl rfl⟩
    ·replace h := bif_f hb43 h
     refine c_skip ?_
     refine q_blk ?_
     obtain rfl := Option.some.inj h
     exact ⟨rfl, _, σ19, a17, c18, a6, c7, fr_join ⟨rfl, rfl, rfl, trivial⟩, rfl, H.sel' [0, 1, 2, 3, 5] rfl rfl⟩
 ·clear hj
  have h := h'
  clear h' H
  rintro e a w ⟨rfl, ρ, σ55, a56, c57, a58, c59, rfl, rfl, H⟩
  refine q_then ?_
  refine c_seq ?_
  refine rg ?_
  have hc60 := H.cells 2 rfl
  refine st (v := (.agg #[(I o20.2.1), (Sl a58 o20.2.2.1 c59), (I o20.2.2.2)])) (rv_load (cs := [(I o20.2.1), (Sl a58 o20.2.2.1 c59), (I o20.2.2.2)]) Tryd.underlying39 rfl ti39 rfl rfl hc60) ?_
  refine st_exS (ex_store_box (k := 0) (cs := [(I 0), (.slice none 0 0), (I 0)]) (vs := [(I o20.2.1), (Sl a58 o20.2.2.1 c59), (I o20.2.2.2)]) (cs' := [(I o20.2.1), (Sl a58 o20.2.2.1 c59), (I o20.2.2.2)]) H (i := 4) rfl ti39 rfl rfl rfl rfl rfl (Nat.le_of_ble_eq_true rfl) (by simp [plain]) rfl) wn ?_
  rintro σ61 ⟨H, -⟩
  refine w_end ?_
  refine q_then ?_
  refine c_ret ?_
  obtain rfl := Option.some.inj h
  exact fin_ret (v := (.agg #[(I o20.2.1), (Sl a58 o20.2.2.1 c59), (I o20.2.2.2)])) (results_ok Tryd.results27 (res_cell rfl (run_cellRes (cs := [(I o20.2.1), (Sl a58 o20.2.2.1 c59), (I o20.2.2.2)]) Tryd.underlying39 rfl ti39 rfl (H.cells 0 rfl)) res_nil) rfl) ⟨a58, c59, a56, c57, rfl, rfl⟩ (H.sel' [4, 1, 2] rfl rfl)

theorem c_spec_anyStore {r_0 : (List UInt8) × Int} {ar_0_0 : Option Addr} {cr_0_0 : Nat} {lor_0 br_0 or_0 : Nat} {prer_0 sufr_0 : List Value} {r : (List (Int × (List Int) × Int)) × ((List UInt8) × Int)} (h : M.spec_anyStore r_0 = some r) :
    Cal2 Tryd.prog 16 [(pt br_0 or_0)] [Ch.bx lor_0 br_0 or_0 [(Sl ar_0_0 r_0.1 cr_0_0), (I r_0.2)] prer_0 sufr_0, Ch.ro 0 (Sl ar_0_0 r_0.1 cr_0_0) r_0.1] (fun n0 v L => ∃ (az1 : Option Addr), ∃ (cz2 : Nat), ∃ (az3 : Option Addr), ∃ (cz4 : Nat), v = (Sl az1 r.1 cz2) ∧ L = [Ch.own n0 n0 (Sl az1 r.1 cz2) r.1, Ch.bx lor_0 br_0 or_0 [(Sl az3 r.2.1 cz4), (I r.2.2)] prer_0 sufr_0, Ch.ro 0 (Sl az3 r.2.1 cz4) r.2.1]) := by
 refine cal2 (n := 30) Tryd.func16 rfl rfl rfl rfl ?_
 intro S0 σ0 n0 hn0 H
 unfold M.spec_anyStore at h
 refine c_seq ?_
 refine rg ?_
 refine st (v := (.slice none 0 0)) (rv_assign rfl) ?_
 refine w_end ?_
 refine q_then ?_
 refine c_seq ?_
 refine rg ?_
 refine st (v := (pt br_0 or_0)) (rv_move rfl) ?_
 obtain ⟨r1, hx2, h'⟩ := bind_some h
 clear h
 have h := h'; clear h'
 have hc3 := c_spec_someStore (lor_0 := lor_0) (br_0 := br_0) (or_0 := or_0) (prer_0 := prer_0) (sufr_0 := sufr_0) (ar_0_0 := ar_0_0) (cr_0_0 := cr_0_0) hx2
 refine st_call (cx_call hc3 (ent_f hc3.fn rfl) hn0 (show Hp S0 σ0 _ ([Ch.bx lor_0 br_0 or_0 [(Sl ar_0_0 r_0.1 cr_0_0), (I r_0.2)] prer_0 sufr_0, Ch.ro 0 (Sl ar_0_0 r_0.1 cr_0_0) r_0.1] ++ [Ch.ro 0 (Sl ar_0_0 r_0.1 cr_0_0) r_0.1]) from (H.sel' [0, 1, 1] rfl rfl))) wn ?_
 rintro _ σ8 ⟨_, ⟨a4, c5, a6, c7, rfl, rfl⟩, H, -⟩
 replace H : Hp S0 σ0 σ8 [Ch.own n0 n0 (Sl a4 r1.1 c5) r1.1, Ch.bx lor_0 br_0 or_0 [(Sl a6 r1.2.1 c7), (I r1.2.2)] prer_0 sufr_0, Ch.ro 0 (Sl a6 r1.2.1 c7) r1.2.1, Ch.ro 0 (Sl ar_0_0 r_0.1 cr_0_0) r_0.1] := H
 refine st (v := (Sl a4 r1.1 c5)) (rv_assign rfl) ?_
 refine w_end ?_
 refine q_then ?_
 refine c_seq ?_
 refine c_seq ?_
 refine rg ?_
 refine st (v := (pt br_0 or_0)) (rv_move rfl) ?_
 obtain ⟨r9, hx10, h'⟩ := bind_some h
 clear h
 have h := h'; clear h'
 have hc11 := c_spec_reader_pick (lor_0 := lor_0) (br_0 := br_0) (or_0 := or_0) (prer_0 := prer_0) (sufr_0 := sufr_0) (ar_0_0 := a6) (cr_0_0 := c7) hx10
 refine st_call (cx_call hc11 (ent_f hc11.fn rfl) hn0 (show Hp S0 σ0 _ ([Ch.bx lor_0 br_0 or_0 [(Sl a6 r1.2.1 c7), (I r1.2.2)] prer_0 sufr_0, Ch.ro 0 (Sl a6 r1.2.1 c7) r1.2.1] ++ [Ch.own n0 n0 (Sl a4 r1.1 c5) r1.1, Ch.ro 0 (Sl a6 r1.2.1 c7) r1.2.1, Ch.ro 0 (Sl ar_0_0 r_0.1 cr_0_0) r_0.1]) from (H.sel' [1, 2, 0, 2, 3] rfl rfl))) wn ?_
 rintro _ σ14 ⟨_, ⟨a12, c13, rfl, rfl⟩, H, -⟩
 replace H : Hp S0 σ0 σ14 [Ch.bx lor_0 br_0 or_0 [(Sl a12 r9.2.1 c13), (I r9.2.2)] prer_0 sufr_0, Ch.ro 0 (Sl a12 r9.2.1 c13) r9.2.1, Ch.own n0 n0 (Sl a4 r1.1 c5) r1.1, Ch.ro 0 (Sl a6 r1.2.1 c7) r1.2.1, Ch.ro 0 (Sl ar_0_0 r_0.1 cr_0_0) r_0.1] := H
 refine w_end ?_
 refine q_then ?_
 obtain ⟨o15, hj, h'⟩ := bind_some h
 clear h
 refine c_cut (fun e a w => e = .normal ∧ ∃ (ρ : Nat → Value) (σ : St) (aj1 : Option Addr) (cj2 : Nat) (aj3 : Option Addr) (cj4 : Nat), a = fr 30 (updL ρ [(0, (pt br_0 or_0)), (3, (Sl aj3 o15.2 cj4))]) ∧ w = σ.w ∧ Hp S0 σ0 σ [Ch.bx lor_0 br_0 or_0 [(Sl aj1 o15.1.1 cj2), (I o15.1.2)] prer_0 sufr_0, Ch.ro 0 (Sl aj1 o15.1.1 cj2) o15.1.1, Ch.own n0 n0 (Sl aj3 o15.2 cj4) o15.2]) ?_ ?_
 ·clear h'
  rename _ = some o15 => h
  refine c_blk ?_
  refine c_seq ?_
  refine rg ?_
  refine st (v := (B (r9.1 == 0))) (rv_eql (a := r9.1) (b := 0) rfl rfl) ?_
  refine st (v := (B (r9.1 == 0))) (rv_assign rfl) ?_
  refine w_end ?_
  refine q_then ?_
  refine cd_cond (r9.1 == 0) rfl (fun hb16 => ?_) (fun hb16 => ?_)
  ·replace h := bif_t hb16 h
   refine rg ?_
   refine st (v := (Sl a4 r1.1 c5)) (rv_move rfl) ?_
   refine st (v := (pt br_0 or_0)) (rv_move rfl) ?_
   obtain ⟨r17, hx18, h'⟩ := bind_some h
   clear h
   have h := h'; clear h'
   have hc19 := c_spec_anyItem (lor_0 := lor_0) (br_0 := br_0) (or_0 := or_0) (prer_0 := prer_0) (sufr_0 := sufr_0) (ar_0_0 := a12) (cr_0_0 := c13) hx18
   refine st_call (cx_call hc19 (ent_f hc19.fn rfl) hn0 (show Hp S0 σ0 _ ([Ch.bx lor_0 br_0 or_0 [(Sl a12 r9.2.1 c13), (I r9.2.2)] prer_0 sufr_0, Ch.ro 0 (Sl a12 r9.2.1 c13) r9.2.1] ++ [Ch.ro 0 (Sl a12 r9.2.1 c13) r9.2.1, Ch.own n0 n0 (Sl a4 r1.1 c5) r1.1, Ch.ro 0 (Sl a6 r1.2.1 c7) r1.2.1, Ch.ro 0 (Sl ar_0_0 r_0.1 cr_0_0) r_0.1]) from (H.sel' [0, 1, 1, 2, 3, 4] rfl rfl))) wn ?_
   rintro _ σ24 ⟨_, ⟨a20, c21, a22, c23, rfl, rfl⟩, H, -⟩
   replace H : Hp S0 σ0 σ24 [Ch.own n0 n0 (Sl a20 r17.1.2.1 c21) r17.1.2.1, Ch.bx lor_0 br_0 or_0 [(Sl a22 r17.2.1 c23), (I r17.2.2)] prer_0 sufr_0, Ch.ro 0 (Sl a22 r17.2.1 c23) r17.2.1, Ch.ro 0 (Sl a12 r9.2.1 c13) r9.2.1, Ch.own n0 n0 (Sl a4 r1.1 c5) r1.1, Ch.ro 0 (Sl a6 r1.2.1 c7) r1.2.1, Ch.ro 0 (Sl ar_0_0 r_0.1 cr_0_0) r_0.1] := H
   obtain ⟨σ25, hw26, H, -⟩ := H.pub 0 rfl (Nat.le_refl _)
   rw [← hw26]; clear hw26
   refine st_ex (ex_buildSlice (el := n0) (xs := ([(r17.1.1, r17.1.2.1, r17.1.2.2)] : List (Int × (List Int) × Int))) (ps := [(0, (.agg #[(I r17.1.1), (Sl a20 r17.1.2.1 c21), (I r17.1.2.2)]))]) (cs := [(I r17.1.1), (Sl a20 r17.1.2.1 c21), (I r17.1.2.2)]) H hn0 Tryd.underlying23 ti39 rfl rfl (by kernel_rfl) (.cons (c := [(I r17.1.1), (Sl a20 r17.1.2.1 c21), (I r17.1.2.2)]) ⟨[(I r17.1.1)], [(Sl a20 r17.1.2.1 c21), (I r17.1.2.2)], rfl, rfl, ⟨[(Sl a20 r17.1.2.1 c21)], [(I r17.1.2.2)], rfl, ⟨_, rfl, (H.ro 0 rfl)⟩, rfl⟩⟩ (.nil)) rfl) wn ?_
   rintro _ σ28 ⟨b27, rfl, H, -⟩
   replace H : Hp S0 σ0 σ28 [Ch.own n0 n0 (Sl (some ⟨b27, 0, none⟩) ([(r17.1.1, r17.1.2.1, r17.1.2.2)] : List (Int × (List Int) × Int)) 1) ([(r17.1.1, r17.1.2.1, r17.1.2.2)] : List (Int × (List Int) × Int)), Ch.bx lor_0 br_0 or_0 [(Sl a22 r17.2.1 c23), (I r17.2.2)] prer_0 sufr_0, Ch.ro 0 (Sl a22 r17.2.1 c23) r17.2.1, Ch.own n0 n0 (Sl a4 r1.1 c5) r1.1] := H.sel' [0, 2, 3, 5] rfl rfl
   obtain ⟨xs29, hx30, h'⟩ := bind_some h
   clear h
   have h := h'; clear h'
   refine st_ex (ex_append H (i := 3) rfl Tryd.underlying23 Tryd.underlying23 ti39 rfl rfl (by decide) (H.own 0 rfl).rd hx30 hn0 rfl rfl) wn ?_
   rintro _ σ33 ⟨a31, c32, rfl, H, -⟩
   refine st (v := (Sl a31 xs29 c32)) (rv_assign rfl) ?_
   refine w_end ?_
   refine q_blk ?_
   obtain rfl := Option.some.inj h
   exact ⟨rfl, _, σ33, a22, c23, a31, c32, fr_join ⟨rfl, rfl, trivial⟩, rfl, H.sel' [2, 3, 0] rfl rfl⟩
  ·replace h := bif_f hb16 h
   refine c_seq ?_
   refine rg ?_
   refine st (v := (B (r9.1 == 1))) (rv_eql (a := r9.1) (b := 1) rfl rfl) ?_
   refine st (v := (B (r9.1 == 1))) (rv_assign rfl) ?_
   refine w_end ?_
   refine q_then ?_
   refine cd_cond (r9.1 == 1) rfl (fun hb34 => ?_) (fun hb34 => ?_)
   ·replace h := bif_t hb34 h
    refine c_seq ?_
    refine rg ?_
    refine st (v := (Sl a4 r1.1 c5)) (rv_move rfl) ?_
    refine st (v := (I (r1.1.length : Int))) (rv_len Tryd.underlying23 rfl) ?_
    refine st (v := (B (decide (0 < (r1.1.length : Int))))) (rv_gtr (a := (r1.1.length : Int)) (b := 0) rfl rfl) ?_
    refine w_end ?_
    refine q_then ?_
    refine cd_cond (decide (0 < (r1.1.length : Int))) rfl (fun hb35 => ?_) (fun hb35 => ?_)
    ·replace h := bif_t hb35 h
     refine rg ?_
     refine st (v := (Sl a4 r1.1 c5)) (rv_move rfl) ?_
     refine st (v := (pt br_0 or_0)) (rv_move rfl) ?_
     refine st (v := (Sl a4 r1.1 c5)) (rv_move rfl) ?_
     refine st (v := (I (r1.1.length : Int))) (rv_len Tryd.underlying23 rfl) ?_
     obtain ⟨r36, hx37, h'⟩ := bind_some h
     clear h
     have h := h'; clear h'
     have hc38 := c_spec_reader_pick (lor_0 := lor_0) (br_0 := br_0) (or_0 := or_0) (prer_0 := prer_0) (sufr_0 := sufr_0) (ar_0_0 := a12) (cr_0_0 := c13) hx37
     refine st_call (cx_call hc38 (ent_f hc38.fn rfl) hn0 (show Hp S0 σ0 _ ([Ch.bx lor_0 br_0 or_0 [(Sl a12 r9.2.1 c13), (I r9.2.2)] prer_0 sufr_0, Ch.ro 0 (Sl a12 r9.2.1 c13) r9.2.1] ++ [Ch.ro 0 (Sl a12 r9.2.1 c13) r9.2.1, Ch.own n0 n0 (Sl a4 r1.1 c5) r1.1, Ch.ro 0 (Sl a6 r1.2.1 c7) r1.2.1, Ch.ro 0 (Sl ar_0_0 r_0.1 cr_0_0) r_0.1]) from (H.sel' [0, 1, 1, 2, 3, 4] rfl rfl))) wn ?_
     rintro _ σ41 ⟨_, ⟨a39, c40, rfl, rfl⟩, H, -⟩
     replace H : Hp S0 σ0 σ41 [Ch.bx lor_0 br_0 or_0 [(Sl a39 r36.2.1 c40), (I r36.2.2)] prer_0 sufr_0, Ch.ro 0 (Sl a39 r36.2.1 c40) r36.2.1, Ch.ro 0 (Sl a12 r9.2.1 c13) r9.2.1, Ch.own n0 n0 (Sl a4 r1.1 c5) r1.1, Ch.ro 0 (Sl a6 r1.2.1 c7) r1.2.1, Ch.ro 0 (Sl ar_0_0 r_0.1 cr_0_0) r_0.1] := H
     refine st (v := (pt br_0 or_0)) (rv_move rfl) ?_
     obtain ⟨r42, hx43, h'⟩ := bind_some h
     clear h
     have h := h'; clear h'
     have hc44 := c_spec_anyVector (lor_0 := lor_0) (br_0 := br_0) (or_0 := or_0) (prer_0 := prer_0) (sufr_0 := sufr_0) (ar_0_0 := a39) (cr_0_0 := c40) hx43
     refine st_call (cx_call hc44 (ent_f hc44.fn rfl) hn0 (show Hp S0 σ0 _ ([Ch.bx lor_0 br_0 or_0 [(Sl a39 r36.2.1 c40), (I r36.2.2)] prer_0 sufr_0, Ch.ro 0 (Sl a39 r36.2.1 c40) r36.2.1] ++ [Ch.ro 0 (Sl a39 r36.2.1 c40) r36.2.1, Ch.ro 0 (Sl a12 r9.2.1 c13) r9.2.1, Ch.own n0 n0 (Sl a4 r1.1 c5) r1.1, Ch.ro 0 (Sl a6 r1.2.1 c7) r1.2.1, Ch.ro 0 (Sl ar_0_0 r_0.1 cr_0_0) r_0.1]) from (H.sel' [0, 1, 1, 2, 3, 4, 5] rfl rfl))) wn ?_
     rintro _ σ49 ⟨_, ⟨a45, c46, a47, c48, rfl, rfl⟩, H, -⟩
     replace H : Hp S0 σ0 σ49 [Ch.own n0 n0 (Sl a45 r42.1 c46) r42.1, Ch.bx lor_0 br_0 or_0 [(Sl a47 r42.2.1 c48), (I r42.2.2)] prer_0 sufr_0, Ch.ro 0 (Sl a47 r42.2.1 c48) r42.2.1, Ch.ro 0 (Sl a39 r36.2.1 c40) r36.2.1, Ch.ro 0 (Sl a12 r9.2.1 c13) r9.2.1, Ch.own n0 n0 (Sl a4 r1.1 c5) r1.1, Ch.ro 0 (Sl a6 r1.2.1 c7) r1.2.1, Ch.ro 0 (Sl ar_0_0 r_0.1 cr_0_0) r_0.1] := H
     replace H : Hp S0 σ0 σ49 [Ch.own n0 n0 (Sl a45 r42.1 c46) r42.1, Ch.bx lor_0 br_0 or_0 [(Sl a47 r42.2.1 c48), (I r42.2.2)] prer_0 sufr_0, Ch.ro 0 (Sl a47 r42.2.1 c48) r42.2.1, Ch.own n0 n0 (Sl a4 r1.1 c5) r1.1] := H.sel' [0, 1, 2, 5] rfl rfl
     obtain ⟨x50, hx51, h'⟩ := bind_some h
     clear h
     have h := h'; clear h'
     obtain ⟨b53, o54, hi52, -⟩ := (H.own 3 rfl).ix hx51
     refine st (v := (pt b53 o54)) (rv_ix Tryd.underlying23 ti39 rfl rfl hi52) ?_
     refine st (v := (pt b53 (o54 + 1))) (rv_fieldAddr (off := 1) (ft := 37) Tryd.underlying39 rfl ti37 rfl rfl) ?_
     obtain ⟨σ55, hw56, H, -⟩ := H.pub 0 rfl (Nat.le_refl _)
     rw [← hw56]; clear hw56
     refine st_exS (ex_store_own (e' := (x50.1, r42.1, x50.2.2)) (vs := [(Sl a45 r42.1 c46)]) (k := 1) H (i := 3) rfl ti37 hx51 hi52 rfl rfl rfl rfl rfl (Nat.le_of_ble_eq_true rfl) (by simp [plain]) (by rintro _ ⟨_, _, rfl, rfl, ⟨_, _, rfl, ⟨_, rfl, hR59⟩, rfl⟩⟩; exact ⟨[(I x50.1)], [(Sl a45 r42.1 c46), (I x50.2.2)], rfl, rfl, ⟨[(Sl a45 r42.1 c46)], [(I x50.2.2)], rfl, ⟨_, rfl, (H.ro 0 rfl)⟩, rfl⟩⟩)) wn ?_
     rintro σ60 ⟨H, -⟩
     have hsl : (Sl a4 r1.1 c5) = (Sl a4 (r1.1.set r36.1.toNat (x50.1, r42.1, x50.2.2)) c5) := sl_len List.length_set.symm
     rw [hsl]; rw [hsl] at H; clear hsl
     refine w_end ?_
     refine q_blk ?_
     obtain rfl := Option.some.inj h
     exact ⟨rfl, _, σ60, a47, c48, a4, c5, fr_join ⟨rfl, rfl, trivial⟩, rfl, H.sel' [2, 3, 0] rfl rfl⟩
    ·replace h := bif_f hb35 h
     refine c_skip ?_
     refine q_blk ?_
     obtain rfl := Option.some.inj h
     exact ⟨rfl, _, σ14, a12, c13, a4, c5, fr_join ⟨rfl, rfl, trivial⟩, rfl, H.sel' [0, 1, 2] rfl rfl⟩
   ·replace h := bif_f hb34 h
    refine c_skip ?_
    refine q_blk ?_
    obtain rfl := Option.some.inj h
    exact ⟨rfl, _, σ14, a12, c13, a4, c5, fr_join ⟨rfl, rfl, trivial⟩, rfl, H.sel' [0, 1, 2] rfl rfl⟩
 ·clear hj
  have h := h'
  clear h' H
  rintro e a w ⟨rfl, ρ, σ61, a62, c63, a64, c65, rfl, rfl, H⟩
  refine q_then ?_
  refine c_seq ?_
  refine rg ?_
  refine st (v := (Sl a64 o15.2 c65)) (rv_move rfl) ?_
  refine st (v := (Sl a64 o15.2 c65)) (rv_assign rfl) ?_
  refine w_end ?_
  refine q_then ?_
  refine c_ret ?_
  obtain rfl := Option.some.inj h
  exact fin_ret (v := (Sl a64 o15.2 c65)) (results_ok Tryd.results16 (res_tmp (v := (Sl a64 o15.2 c65)) rfl res_nil) rfl) ⟨a64, c65, a62, c63, rfl, rfl⟩ (H.sel' [2, 0, 1] rfl rfl)

theorem c_spec_newReader {code_0 : List UInt8} {acode_0 : Option Addr} {ccode_0 : Nat} {r : ((List UInt8) × Int)} (h : M.spec_newReader code_0 = some r) :
    Cal2 Tryd.prog 17 [(Sl acode_0 code_0 ccode_0)] [Ch.ro 0 (Sl acode_0 code_0 ccode_0) code_0] (fun n0 v L => ∃ (bz1 : Nat), ∃ (az2 : Option Addr), ∃ (cz3 : Nat), v = (pt bz1 0) ∧ L = [Ch.bx n0 bz1 0 [(Sl az2 r.1 cz3), (I r.2)] [] [], Ch.ro 0 (Sl az2 r.1 cz3) r.1]) := by
 refine cal2 (n := 11) Tryd.func17 rfl rfl rfl rfl ?_
 intro S0 σ0 n0 hn0 H
 unfold M.spec_newReader at h
 refine c_seq ?_
 refine rg ?_
 refine st (v := (.pointer none)) (rv_assign rfl) ?_
 refine w_end ?_
 refine q_then ?_
 refine c_seq ?_
 refine c_seq ?_
 refine rg ?_
 refine st (v := (Sl acode_0 code_0 ccode_0)) (rv_move rfl) ?_
 refine st (v := (I (code_0.length : Int))) (rv_len Tryd.underlying22 rfl) ?_
 refine st (v := (B (decide (2000 < (code_0.length : Int))))) (rv_gtr (a := (code_0.length : Int)) (b := 2000) rfl rfl) ?_
 refine w_end ?_
 refine q_then ?_
 obtain ⟨o1, hj, h'⟩ := bind_some h
 clear h
 refine c_cut (fun e a w => e = .normal ∧ ∃ (ρ : Nat → Value) (σ : St) (aj1 : Option Addr) (cj2 : Nat), a = fr 11 (updL ρ [(0, (Sl aj1 o1 cj2))]) ∧ w = σ.w ∧ Hp S0 σ0 σ [Ch.ro 0 (Sl aj1 o1 cj2) o1]) ?_ ?_
 ·clear h'
  rename _ = some o1 => h
  refine cd_cond (decide (2000 < (code_0.length : Int))) rfl (fun hb2 => ?_) (fun hb2 => ?_)
  ·replace h := bif_t hb2 h
   refine rg ?_
   refine st (v := (Sl acode_0 code_0 ccode_0)) (rv_move rfl) ?_
   obtain ⟨xs3, hx4, h'⟩ := bind_some h
   clear h
   have h := h'; clear h'
   obtain ⟨a5, c6, hs7, hR8⟩ := (H.ro 0 rfl).slice hx4
   replace H := H.add (d := Ch.ro 0 (Sl a5 xs3 c6) xs3) hR8 (fun _ h => h)
   clear hR8
   refine st (v := (Sl a5 xs3 c6)) (rv_slice_h Tryd.underlying22 ti5 hs7 rfl rfl) ?_
   refine st (v := (Sl a5 xs3 c6)) (rv_assign rfl) ?_
   refine w_end ?_
   obtain rfl := Option.some.inj h
   exact ⟨rfl, _, σ0, a5, c6, fr_join ⟨rfl, trivial⟩, rfl, H.sel' [0] rfl rfl⟩
  ·replace h := bif_f hb2 h
   refine c_skip ?_
   obtain rfl := Option.some.inj h
   exact ⟨rfl, _, σ0, acode_0, ccode_0, fr_join ⟨rfl, trivial⟩, rfl, H.sel' [0] rfl rfl⟩
 ·clear hj
  have h := h'
  clear h' H
  rintro e a w ⟨rfl, ρ, σ9, a10, c11, rfl, rfl, H⟩
  refine q_then ?_
  refine c_seq ?_
  refine rg ?_
  refine st (v := (Sl a10 o1 c11)) (rv_move rfl) ?_
  refine st (v := (.agg #[(Sl a10 o1 c11), (I 0)])) (rv_build (ps := [(0, (Sl a10 o1 c11))]) Tryd.underlying52 ti52 (bp52 Tryd.underlying52) rfl (by kernel_rfl)) ?_
  refine st_ex (ex_box (cs := [(Sl a10 o1 c11), (I 0)]) H hn0 rfl rfl) wn ?_
  rintro _ σ13 ⟨b12, rfl, H, -⟩
  refine st (v := (pt b12 0)) (rv_assign rfl) ?_
  refine w_end ?_
  refine q_then ?_
  refine c_ret ?_
  obtain rfl := Option.some.inj h
  exact fin_ret (v := (pt b12 0)) (results_ok Tryd.results17 (res_tmp (v := (pt b12 0)) rfl res_nil) rfl) ⟨b12, a10, c11, rfl, rfl⟩ (H.sel' [0, 1] rfl rfl)

theorem c_spec_DrawParsePage {code_0 : List UInt8} {acode_0 : Option Addr} {ccode_0 : Nat} {r : (List UInt8)} (h : M.spec_DrawParsePage code_0 = some r) :
    Cal2 Tryd.prog 12 [(Sl acode_0 code_0 ccode_0)] [Ch.ro 0 (Sl acode_0 code_0 ccode_0) code_0] (fun n0 v L => ∃ (az1 : Option Addr), ∃ (cz2 : Nat), v = (Sl az1 r cz2) ∧ L = [Ch.own n0 n0 (Sl az1 r cz2) r]) := by
 refine cal2 (n := 63) Tryd.func12 rfl rfl rfl rfl ?_
 intro S0 σ0 n0 hn0 H
 unfold M.spec_DrawParsePage at h
 refine c_seq ?_
 refine rg ?_
 refine st (v := (.slice none 0 0)) (rv_assign rfl) ?_
 refine w_end ?_
 refine q_then ?_
 refine c_seq ?_
 refine rg ?_
 refine st (v := (Sl acode_0 code_0 ccode_0)) (rv_move rfl) ?_
 obtain ⟨r1, hx2, h'⟩ := bind_some h
 clear h
 have h := h'; clear h'
 have hc3 := c_spec_newReader (acode_0 := acode_0) (ccode_0 := ccode_0) hx2
 refine st_call (cx_call hc3 (ent_f hc3.fn rfl) hn0 (show Hp S0 σ0 _ ([Ch.ro 0 (Sl acode_0 code_0 ccode_0) code_0] ++ [Ch.ro 0 (Sl acode_0 code_0 ccode_0) code_0]) from (H.sel' [0, 0] rfl rfl))) wn ?_
 rintro _ σ7 ⟨_, ⟨b4, a5, c6, rfl, rfl⟩, H, -⟩
 replace H : Hp S0 σ0 σ7 [Ch.bx n0 b4 0 [(Sl a5 r1.1 c6), (I r1.2)] [] [], Ch.ro 0 (Sl a5 r1.1 c6) r1.1, Ch.ro 0 (Sl acode_0 code_0 ccode_0) code_0] := H
 refine st (v := (pt b4 0)) (rv_assign rfl) ?_
 refine w_end ?_
 refine q_then ?_
 refine c_seq ?_
 refine rg ?_
 refine st (v := (pt b4 0)) (rv_move rfl) ?_
 obtain ⟨r8, hx9, h'⟩ := bind_some h
 clear h
 have h := h'; clear h'
 have hc10 := c_spec_anyStore (lor_0 := n0) (br_0 := b4) (or_0 := 0) (prer_0 := []) (sufr_0 := []) (ar_0_0 := a5) (cr_0_0 := c6) hx9
 refine st_call (cx_call hc10 (ent_f hc10.fn rfl) hn0 (show Hp S0 σ0 _ ([Ch.bx n0 b4 0 [(Sl a5 r1.1 c6), (I r1.2)] [] [], Ch.ro 0 (Sl a5 r1.1 c6) r1.1] ++ [Ch.ro 0 (Sl a5 r1.1 c6) r1.1, Ch.ro 0 (Sl acode_0 code_0 ccode_0) code_0]) from (H.sel' [0, 1, 1, 2] rfl rfl))) wn ?_
 rintro _ σ15 ⟨_, ⟨a11, c12, a13, c14, rfl, rfl⟩, H, -⟩
 replace H : Hp S0 σ0 σ15 [Ch.own n0 n0 (Sl a11 r8.1 c12) r8.1, Ch.bx n0 b4 0 [(Sl a13 r8.2.1 c14), (I r8.2.2)] [] [], Ch.ro 0 (Sl a13 r8.2.1 c14) r8.2.1, Ch.ro 0 (Sl a5 r1.1 c6) r1.1, Ch.ro 0 (Sl acode_0 code_0 ccode_0) code_0] := H
 obtain ⟨σ16, hw17, H, -⟩ := H.pub 0 rfl (Nat.le_refl _)
 rw [← hw17]; clear hw17
 replace H := H.roLow 0 0 rfl (Nat.zero_le _)
 obtain ⟨r18, hx19, h'⟩ := bind_some h
 clear h
 have h := h'; clear h'
 have hc20 := c_spec_FormatPage (alist_0 := a11) (clist_0 := c12) hx19
 refine st_call (cx_call hc20 (ent_f hc20.fn rfl) hn0 (show Hp S0 σ0 _ ([Ch.ro 0 (Sl a11 r8.1 c12) r8.1] ++ [Ch.ro 0 (Sl a11 r8.1 c12) r8.1, Ch.ro n0 (Sl a11 r8.1 c12) r8.1, Ch.bx n0 b4 0 [(Sl a13 r8.2.1 c14), (I r8.2.2)] [] [], Ch.ro 0 (Sl a13 r8.2.1 c14) r8.2.1, Ch.ro 0 (Sl a5 r1.1 c6) r1.1, Ch.ro 0 (Sl acode_0 code_0 ccode_0) code_0]) from (H.sel' [0, 0, 1, 2, 3, 4, 5] rfl rfl))) wn ?_
 rintro _ σ23 ⟨_, ⟨a21, c22, rfl, rfl⟩, H, -⟩
 replace H : Hp S0 σ0 σ23 [Ch.own n0 n0 (Sl a21 r18 c22) r18, Ch.ro 0 (Sl a11 r8.1 c12) r8.1, Ch.ro n0 (Sl a11 r8.1 c12) r8.1, Ch.bx n0 b4 0 [(Sl a13 r8.2.1 c14), (I r8.2.2)] [] [], Ch.ro 0 (Sl a13 r8.2.1 c14) r8.2.1, Ch.ro 0 (Sl a5 r1.1 c6) r1.1, Ch.ro 0 (Sl acode_0 code_0 ccode_0) code_0] := H
 refine st (v := (Sl a21 r18 c22)) (rv_assign rfl) ?_
 refine w_end ?_
 refine q_then ?_
 refine c_seq ?_
 refine c_seq ?_
 obtain ⟨o24, hj, h'⟩ := bind_some h
 clear h
 refine c_cut (fun e a w => e = .normal ∧ ∃ (ρ : Nat → Value) (σ : St) (aj1 : Option Addr) (cj2 : Nat), a = fr 63 (updL ρ [(3, (pt b4 0)), (4, (Sl a21 r18 c22)), (17, (B o24.2))]) ∧ w = σ.w ∧ Hp S0 σ0 σ [Ch.bx n0 b4 0 [(Sl aj1 o24.1.1 cj2), (I o24.1.2)] [] [], Ch.ro 0 (Sl aj1 o24.1.1 cj2) o24.1.1, Ch.own n0 n0 (Sl a21 r18 c22) r18]) ?_ ?_
 ·clear h'
  rename _ = some o24 => h
  refine rg ?_
  refine st (v := (Sl a21 r18 c22)) (rv_move rfl) ?_
  refine st (v := (I (r18.length : Int))) (rv_len Tryd.underlying22 rfl) ?_
  refine st (v := (B (decide (1 < (r18.length : Int))))) (rv_gtr (a := (r18.length : Int)) (b := 1) rfl rfl) ?_
  refine st (v := (B (decide (1 < (r18.length : Int))))) (rv_move rfl) ?_
  rcases Bool.eq_false_or_eq_true (decide (1 < (r18.length : Int))) with hb25 | hb25
  ·replace h := bif_t hb25 h
   refine st_g (v := (pt b4 0)) (congrArg some hb25) (rv_move rfl) ?_
   obtain ⟨r26, hx27, h'⟩ := bind_some h
   clear h
   have h := h'; clear h'
   have hc28 := c_spec_reader_pick (lor_0 := n0) (br_0 := b4) (or_0 := 0) (prer_0 := []) (sufr_0 := []) (ar_0_0 := a13) (cr_0_0 := c14) hx27
   refine st_call (cx_call hc28 (ent_f hc28.fn rfl) hn0 (show Hp S0 σ0 _ ([Ch.bx n0 b4 0 [(Sl a13 r8.2.1 c14), (I r8.2.2)] [] [], Ch.ro 0 (Sl a13 r8.2.1 c14) r8.2.1] ++ [Ch.own n0 n0 (Sl a21 r18 c22) r18, Ch.ro 0 (Sl a11 r8.1 c12) r8.1, Ch.ro n0 (Sl a11 r8.1 c12) r8.1, Ch.ro 0 (Sl a13 r8.2.1 c14) r8.2.1, Ch.ro 0 (Sl a5 r1.1 c6) r1.1, Ch.ro 0 (Sl acode_0 code_0 ccode_0) code_0]) from (H.sel' [3, 4, 0, 1, 2, 4, 5, 6] rfl rfl))) (wanted_yes rfl (by exact (congrArg some hb25))) ?_
   rintro _ σ31 ⟨_, ⟨a29, c30, rfl, rfl⟩, H, -⟩
   replace H : Hp S0 σ0 σ31 [Ch.bx n0 b4 0 [(Sl a29 r26.2.1 c30), (I r26.2.2)] [] [], Ch.ro 0 (Sl a29 r26.2.1 c30) r26.2.1, Ch.own n0 n0 (Sl a21 r18 c22) r18, Ch.ro 0 (Sl a11 r8.1 c12) r8.1, Ch.ro n0 (Sl a11 r8.1 c12) r8.1, Ch.ro 0 (Sl a13 r8.2.1 c14) r8.2.1, Ch.ro 0 (Sl a5 r1.1 c6) r1.1, Ch.ro 0 (Sl acode_0 code_0 ccode_0) code_0] := H
   replace H : Hp S0 σ0 σ31 [Ch.bx n0 b4 0 [(Sl a29 r26.2.1 c30), (I r26.2.2)] [] [], Ch.ro 0 (Sl a29 r26.2.1 c30) r26.2.1, Ch.own n0 n0 (Sl a21 r18 c22) r18] := H.sel' [0, 1, 2] rfl rfl
   refine st_g (v := (B (r26.1 == 0))) (congrArg some hb25) (rv_eql (a := r26.1) (b := 0) rfl rfl) ?_
   refine st (v := (B (r26.1 == 0))) (rv_pick_t (congrArg B hb25) rfl) ?_
   refine w_end ?_
   obtain rfl := Option.some.inj h
   exact ⟨rfl, _, σ31, a29, c30, fr_join ⟨rfl, rfl, rfl, trivial⟩, rfl, H.sel' [0, 1, 2] rfl rfl⟩
  ·replace h := bif_f hb25 h
   refine st_skip (congrArg some hb25) ?_
   refine st_skip (congrArg some hb25) ?_
   refine st_skip (congrArg some hb25) ?_
   refine st (v := (B false)) (rv_pick_f (congrArg B hb25) rfl) ?_
   refine w_end ?_
   obtain rfl := Option.some.inj h
   exact ⟨rfl, _, σ23, a13, c14, fr_join ⟨rfl, rfl, rfl, trivial⟩, rfl, H.sel' [3, 4, 0] rfl rfl⟩
 ·clear hj
  have h := h'
  clear h' H
  rintro e a w ⟨rfl, ρ, σ32, a33, c34, rfl, rfl, H⟩
  refine q_then ?_
  obtain ⟨o35, hj, h'⟩ := bind_some h
  clear h
  refine c_cut (fun e a w => e = .normal ∧ ∃ (ρ : Nat → Value) (σ : St) (aj1 : Option Addr) (cj2 : Nat), a = fr 63 (updL ρ [(4, (Sl aj1 o35 cj2))]) ∧ w = σ.w ∧ Hp S0 σ0 σ [Ch.own n0 n0 (Sl aj1 o35 cj2) o35]) ?_ ?_
  ·clear h'
   rename _ = some o35 => h
   refine cd_cond o24.2 rfl (fun hb36 => ?_) (fun hb36 => ?_)
   ·replace h := bif_t hb36 h
    refine c_seq ?_
    refine rg ?_
    refine st (v := (pt b4 0)) (rv_move rfl) ?_
    obtain ⟨r37, hx38, h'⟩ := bind_some h
    clear h
    have h := h'; clear h'
    have hc39 := c_spec_reader_pick (lor_0 := n0) (br_0 := b4) (or_0 := 0) (prer_0 := []) (sufr_0 := []) (ar_0_0 := a33) (cr_0_0 := c34) hx38
    refine st_call (cx_call hc39 (ent_f hc39.fn rfl) hn0 (show Hp S0 σ0 _ ([Ch.bx n0 b4 0 [(Sl a33 o24.1.1 c34), (I o24.1.2)] [] [], Ch.ro 0 (Sl a33 o24.1.1 c34) o24.1.1] ++ [Ch.ro 0 (Sl a33 o24.1.1 c34) o24.1.1, Ch.own n0 n0 (Sl a21 r18 c22) r18]) from (H.sel' [0, 1, 1, 2] rfl rfl))) wn ?_
    rintro _ σ42 ⟨_, ⟨a40, c41, rfl, rfl⟩, H, -⟩
    replace H : Hp S0 σ0 σ42 [Ch.bx n0 b4 0 [(Sl a40 r37.2.1 c41), (I r37.2.2)] [] [], Ch.ro 0 (Sl a40 r37.2.1 c41) r37.2.1, Ch.ro 0 (Sl a33 o24.1.1 c34) o24.1.1, Ch.own n0 n0 (Sl a21 r18 c22) r18] := H
    refine w_end ?_
    refine q_then ?_
    refine c_blk ?_
    refine c_seq ?_
    refine rg ?_
    refine st (v := (B (r37.1 == 0))) (rv_eql (a := r37.1) (b := 0) rfl rfl) ?_
    refine st (v := (B (r37.1 == 0))) (rv_assign rfl) ?_
    refine w_end ?_
    refine q_then ?_
    refine cd_cond (r37.1 == 0) rfl (fun hb43 => ?_) (fun hb43 => ?_)
    ·replace h := bif_t hb43 h
     refine rg ?_
     refine st (v := (Sl a21 r18 c22)) (rv_move rfl) ?_
     refine st (v := (pt b4 0)) (rv_move rfl) ?_
     refine st (v := (Sl a21 r18 c22)) (rv_move rfl) ?_
     refine st (v := (I (r18.length : Int))) (rv_len Tryd.underlying22 rfl) ?_
     obtain ⟨r44, hx45, h'⟩ := bind_some h
     clear h
     have h := h'; clear h'
     have hc46 := c_spec_reader_pick (lor_0 := n0) (br_0 := b4) (or_0 := 0) (prer_0 := []) (sufr_0 := []) (ar_0_0 := a40) (cr_0_0 := c41) hx45
     refine st_call (cx_call hc46 (ent_f hc46.fn rfl) hn0 (show Hp S0 σ0 _ ([Ch.bx n0 b4 0 [(Sl a40 r37.2.1 c41), (I r37.2.2)] [] [], Ch.ro 0 (Sl a40 r37.2.1 c41) r37.2.1] ++ [Ch.ro 0 (Sl a40 r37.2.1 c41) r37.2.1, Ch.ro 0 (Sl a33 o24.1.1 c34) o24.1.1, Ch.own n0 n0 (Sl a21 r18 c22) r18]) from (H.sel' [0, 1, 1, 2, 3] rfl rfl))) wn ?_
     rintro _ σ49 ⟨_, ⟨a47, c48, rfl, rfl⟩, H, -⟩
     replace H : Hp S0 σ0 σ49 [Ch.bx n0 b4 0 [(Sl a47 r44.2.1 c48), (I r44.2.2)] [] [], Ch.ro 0 (Sl a47 r44.2.1 c48) r44.2.1, Ch.ro 0 (Sl a40 r37.2.1 c41) r37.2.1, Ch.ro 0 (Sl a33 o24.1.1 c34) o24.1.1, Ch.own n0 n0 (Sl a21 r18 c22) r18] := H
     refine st (v := (pt b4 0)) (rv_move rfl) ?_
     obtain ⟨r50, hx51, h'⟩ := bind_some h
     clear h
     have h := h'; clear h'
     have hc52 := c_spec_reader_pick (lor_0 := n0) (br_0 := b4) (or_0 := 0) (prer_0 := []) (sufr_0 := []) (ar_0_0 := a47) (cr_0_0 := c48) hx51
     refine st_call (cx_call hc52 (ent_f hc52.fn rfl) hn0 (show Hp S0 σ0 _ ([Ch.bx n0 b4 0 [(Sl a47 r44.2.1 c48), (I r44.2.2)] [] [], Ch.ro 0 (Sl a47 r44.2.1 c48) r44.2.1] ++ [Ch.ro 0 (Sl a47 r44.2.1 c48) r44.2.1, Ch.ro 0 (Sl a40 r37.2.1 c41) r37.2.1, Ch.ro 0 (Sl a33 o24.1.1 c34) o24.1.1, Ch.own n0 n0 (Sl a21 r18 c22) r18]) from (H.sel' [0, 1, 1, 2, 3, 4] rfl rfl))) wn ?_
     rintro _ σ55 ⟨_, ⟨a53, c54, rfl, rfl⟩, H, -⟩
     replace H : Hp S0 σ0 σ55 [Ch.bx n0 b4 0 [(Sl a53 r50.2.1 c54), (I r50.2.2)] [] [], Ch.ro 0 (Sl a53 r50.2.1 c54) r50.2.1, Ch.ro 0 (Sl a47 r44.2.1 c48) r44.2.1, Ch.ro 0 (Sl a40 r37.2.1 c41) r37.2.1, Ch.ro 0 (Sl a33 o24.1.1 c34) o24.1.1, Ch.own n0 n0 (Sl a21 r18 c22) r18] := H
     refine st (v := (.int .u8 ((gb8 r50.1).toNat : Int))) ((rvk_conv (k := .i64) (k' := .u8) (a := r50.1) Tryd.underlying3 Tryd.underlying5 rfl).b8) ?_
     obtain ⟨x56, hx57, h'⟩ := bind_some h
     clear h
     have h := h'; clear h'
     obtain ⟨b59, o60, hi58, -⟩ := (H.own 5 rfl).ix hx57
     refine st (v := (pt b59 o60)) (rv_ix Tryd.underlying22 ti5 rfl rfl hi58) ?_
     refine st_exS (ex_store_own (e' := (gb8 r50.1)) (vs := [(.int .u8 ((gb8 r50.1).toNat : Int))]) (k := 0) H (i := 5) rfl ti5 hx57 hi58 rfl rfl rfl rfl rfl (Nat.le_of_ble_eq_true rfl) (by simp [plain]) (by rintro _ rfl; exact rfl)) wn ?_
     rintro σ61 ⟨H, -⟩
     have hsl : (Sl a21 r18 c22) = (Sl a21 (r18.set r44.1.toNat (gb8 r50.1)) c22) := sl_len List.length_set.symm
     rw [hsl]; rw [hsl] at H; clear hsl
     refine w_end ?_
     refine q_blk ?_
     obtain rfl := Option.some.inj h
     exact ⟨rfl, _, σ61, a21, c22, fr_join ⟨rfl, trivial⟩, rfl, H.sel' [0] rfl rfl⟩
    ·replace h := bif_f hb43 h
     refine c_seq ?_
     refine rg ?_
     refine st (v := (B (r37.1 == 1))) (rv_eql (a := r37.1) (b := 1) rfl rfl) ?_
     refine st (v := (B (r37.1 == 1))) (rv_assign rfl) ?_
     refine w_end ?_
     refine q_then ?_
     refine cd_cond (r37.1 == 1) rfl (fun hb62 => ?_) (fun hb62 => ?_)
     ·replace h := bif_t hb62 h
      refine rg ?_
      refine st (v := (Sl a21 r18 c22)) (rv_move rfl) ?_
      refine st (v := (Sl a21 r18 c22)) (rv_move rfl) ?_
      refine st (v := (I (r18.length : Int))) (rv_len Tryd.underlying22 rfl) ?_
      refine st (v := (I (w64 ((r18.length : Int) - 1)))) (rv_sub (a := (r18.length : Int)) (b := 1) rfl rfl) ?_
      obtain ⟨xs63, hx64, h'⟩ := bind_some h
      clear h
      have h := h'; clear h'
      obtain ⟨a65, c66, hs67, hR68, hb69⟩ := (H.own 3 rfl).slice hx64
      replace H := (H.front (i := 3) rfl).turn (d := Ch.own n0 n0 (Sl a65 xs63 c66) xs63) (fun _ => hR68) hb69; clear hR68 hb69
      refine st (v := (Sl a65 xs63 c66)) (rv_slice_h Tryd.underlying22 ti5 hs67 rfl rfl) ?_
      refine st (v := (Sl a65 xs63 c66)) (rv_assign rfl) ?_
      refine w_end ?_
      refine q_blk ?_
      obtain rfl := Option.some.inj h
      exact ⟨rfl, _, σ42, a65, c66, fr_join ⟨rfl, trivial⟩, rfl, H.sel' [0] rfl rfl⟩
     ·replace h := bif_f hb62 h
      refine c_seq ?_
      refine rg ?_
      refine st (v := (B (r37.1 == 2))) (rv_eql (a := r37.1) (b := 2) rfl rfl) ?_
      refine st (v := (B (r37.1 == 2))) (rv_assign rfl) ?_
      refine w_end ?_
      refine q_then ?_
      refine cd_cond (r37.1 == 2) rfl (fun hb70 => ?_) (fun hb70 => ?_)
      ·replace h := bif_t hb70 h
       refine c_seq ?_
       refine rg ?_
       refine st (v := (Sl a21 r18 c22)) (rv_move rfl) ?_
       refine st (v := (pt b4 0)) (rv_move rfl) ?_
       refine st (v := (Sl a21 r18 c22)) (rv_move rfl) ?_
       refine st (v := (I (r18.length : Int))) (rv_len Tryd.underlying22 rfl) ?_
       refine st (v := (I (w64 ((r18.length : Int) - 1)))) (rv_sub (a := (r18.length : Int)) (b := 1) rfl rfl) ?_
       obtain ⟨r71, hx72, h'⟩ := bind_some h
       clear h
       have h := h'; clear h'
       have hc73 := c_spec_reader_pick (lor_0 := n0) (br_0 := b4) (or_0 := 0) (prer_0 := []) (sufr_0 := []) (ar_0_0 := a40) (cr_0_0 := c41) hx72
       refine st_call (cx_call hc73 (ent_f hc73.fn rfl) hn0 (show Hp S0 σ0 _ ([Ch.bx n0 b4 0 [(Sl a40 r37.2.1 c41), (I r37.2.2)] [] [], Ch.ro 0 (Sl a40 r37.2.1 c41) r37.2.1] ++ [Ch.ro 0 (Sl a40 r37.2.1 c41) r37.2.1, Ch.ro 0 (Sl a33 o24.1.1 c34) o24.1.1, Ch.own n0 n0 (Sl a21 r18 c22) r18]) from (H.sel' [0, 1, 1, 2, 3] rfl rfl))) wn ?_
       rintro _ σ76 ⟨_, ⟨a74, c75, rfl, rfl⟩, H, -⟩
       replace H : Hp S0 σ0 σ76 [Ch.bx n0 b4 0 [(Sl a74 r71.2.1 c75), (I r71.2.2)] [] [], Ch.ro 0 (Sl a74 r71.2.1 c75) r71.2.1, Ch.ro 0 (Sl a40 r37.2.1 c41) r37.2.1, Ch.ro 0 (Sl a33 o24.1.1 c34) o24.1.1, Ch.own n0 n0 (Sl a21 r18 c22) r18] := H
       refine st (v := (pt b4 0)) (rv_move rfl) ?_
       obtain ⟨r77, hx78, h'⟩ := bind_some h
       clear h
       have h := h'; clear h'
       have hc79 := c_spec_reader_pick (lor_0 := n0) (br_0 := b4) (or_0 := 0) (prer_0 := []) (sufr_0 := []) (ar_0_0 := a74) (cr_0_0 := c75) hx78
       refine st_call (cx_call hc79 (ent_f hc79.fn rfl) hn0 (show Hp S0 σ0 _ ([Ch.bx n0 b4 0 [(Sl a74 r71.2.1 c75), (I r71.2.2)] [] [], Ch.ro 0 (Sl a74 r71.2.1 c75) r71.2.1] ++ [Ch.ro 0 (Sl a74 r71.2.1 c75) r71.2.1, Ch.ro 0 (Sl a40 r37.2.1 c41) r37.2.1, Ch.ro 0 (Sl a33 o24.1.1 c34) o24.1.1, Ch.own n0 n0 (Sl a21 r18 c22) r18]) from (H.sel' [0, 1, 1, 2, 3, 4] rfl rfl))) wn ?_
       rintro _ σ82 ⟨_, ⟨a80, c81, rfl, rfl⟩, H, -⟩
       replace H : Hp S0 σ0 σ82 [Ch.bx n0 b4 0 [(Sl a80 r77.2.1 c81), (I r77.2.2)] [] [], Ch.ro 0 (Sl a80 r77.2.1 c81) r77.2.1, Ch.ro 0 (Sl a74 r71.2.1 c75) r71.2.1, Ch.ro 0 (Sl a40 r37.2.1 c41) r37.2.1, Ch.ro 0 (Sl a33 o24.1.1 c34) o24.1.1, Ch.own n0 n0 (Sl a21 r18 c22) r18] := H
       refine st (v := (.int .u8 ((gb8 r77.1).toNat : Int))) ((rvk_conv (k := .i64) (k' := .u8) (a := r77.1) Tryd.underlying3 Tryd.underlying5 rfl).b8) ?_
       obtain ⟨x83, hx84, h'⟩ := bind_some h
       clear h
       have h := h'; clear h'
       obtain ⟨b86, o87, hi85, -⟩ := (H.own 5 rfl).ix hx84
       refine st (v := (pt b86 o87)) (rv_ix Tryd.underlying22 ti5 rfl rfl hi85) ?_
       refine st_exS (ex_store_own (e' := (gb8 r77.1)) (vs := [(.int .u8 ((gb8 r77.1).toNat : Int))]) (k := 0) H (i := 5) rfl ti5 hx84 hi85 rfl rfl rfl rfl rfl (Nat.le_of_ble_eq_true rfl) (by simp [plain]) (by rintro _ rfl; exact rfl)) wn ?_
       rintro σ88 ⟨H, -⟩
       have hsl : (Sl a21 r18 c22) = (Sl a21 (r18.set r71.1.toNat (gb8 r77.1)) c22) := sl_len List.length_set.symm
       rw [hsl]; rw [hsl] at H; clear hsl
       refine w_end ?_
       refine q_then ?_
       refine rg ?_
       refine st (v := (Sl a21 (r18.set r71.1.toNat (gb8 r77.1)) c22)) (rv_move rfl) ?_
       refine st (v := (Sl a21 (r18.set r71.1.toNat (gb8 r77.1)) c22)) (rv_move rfl) ?_
       refine st (v := (I ((r18.set r71.1.toNat (gb8 r77.1)).length : Int))) (rv_len Tryd.underlying22 rfl) ?_
       refine st (v := (I (w64 (((r18.set r71.1.toNat (gb8 r77.1)).length : Int) - 1)))) (rv_sub (a := ((r18.set r71.1.toNat (gb8 r77.1)).length : Int)) (b := 1) rfl rfl) ?_
       refine st (v := (Sl a21 (r18.set r71.1.toNat (gb8 r77.1)) c22)) (rv_move rfl) ?_
       refine st (v := (Sl a21 (r18.set r71.1.toNat (gb8 r77.1)) c22)) (rv_move rfl) ?_
       refine st (v := (I ((r18.set r71.1.toNat (gb8 r77.1)).length : Int))) (rv_len Tryd.underlying22 rfl) ?_
       refine st (v := (I (w64 (((r18.set r71.1.toNat (gb8 r77.1)).length : Int) - 1)))) (rv_sub (a := ((r18.set r71.1.toNat (gb8 r77.1)).length : Int)) (b := 1) rfl rfl) ?_
       obtain ⟨xs89, hx90, h'⟩ := bind_some h
       clear h
       have h := h'; clear h'
       obtain ⟨a91, c92, hs93, -⟩ := (H.own 0 rfl).slice hx90
       refine st (v := (Sl a91 xs89 c92)) (rv_slice_h Tryd.underlying22 ti5 hs93 rfl rfl) ?_
       obtain ⟨r95, hx96, h'⟩ := bind_some h
       clear h
       have h := h'; clear h'
       have hc97 := c_spec_checkOf (ab_0 := a91) (cb_0 := c92) hx96
       have hle := Nat.le_trans hn0 H.size
       refine st_call (cx_lend (Loan.lendV (fun _ hO => Ow.view hO hx90 hs93) Loan.nil) hc97 (ent_f hc97.fn rfl) (show Hp S0 σ0 _ ([Ch.own n0 n0 (Sl a21 (r18.set r71.1.toNat (gb8 r77.1)) c22) (r18.set r71.1.toNat (gb8 r77.1))] ++ ([] ++ [Ch.bx n0 b4 0 [(Sl a80 r77.2.1 c81), (I r77.2.2)] [] [], Ch.ro 0 (Sl a80 r77.2.1 c81) r77.2.1, Ch.ro 0 (Sl a74 r71.2.1 c75) r71.2.1, Ch.ro 0 (Sl a40 r37.2.1 c41) r37.2.1, Ch.ro 0 (Sl a33 o24.1.1 c34) o24.1.1])) from (H.sel' [0, 1, 2, 3, 4, 5] rfl rfl)) (by rintro _ _ _ ⟨rfl, rfl⟩; exact trivial)) wn ?_
       rintro _ σ98 ⟨_, ⟨rfl, rfl⟩, H, -, -⟩
       replace H : Hp S0 σ0 σ98 [Ch.own n0 n0 (Sl a21 (r18.set r71.1.toNat (gb8 r77.1)) c22) (r18.set r71.1.toNat (gb8 r77.1)), Ch.bx n0 b4 0 [(Sl a80 r77.2.1 c81), (I r77.2.2)] [] [], Ch.ro 0 (Sl a80 r77.2.1 c81) r77.2.1, Ch.ro 0 (Sl a74 r71.2.1 c75) r71.2.1, Ch.ro 0 (Sl a40 r37.2.1 c41) r37.2.1, Ch.ro 0 (Sl a33 o24.1.1 c34) o24.1.1] := H
       clear hle
       replace H : Hp S0 σ0 σ98 [Ch.own n0 n0 (Sl a21 (r18.set r71.1.toNat (gb8 r77.1)) c22) (r18.set r71.1.toNat (gb8 r77.1)), Ch.bx n0 b4 0 [(Sl a80 r77.2.1 c81), (I r77.2.2)] [] [], Ch.ro 0 (Sl a80 r77.2.1 c81) r77.2.1, Ch.ro 0 (Sl a74 r71.2.1 c75) r71.2.1, Ch.ro 0 (Sl a40 r37.2.1 c41) r37.2.1, Ch.ro 0 (Sl a33 o24.1.1 c34) o24.1.1] := H
       refine st (v := (.int .u8 ((gb8 r95).toNat : Int))) ((rvk_conv (k := .i64) (k' := .u8) (a := r95) Tryd.underlying3 Tryd.underlying5 rfl).b8) ?_
       obtain ⟨x99, hx100, h'⟩ := bind_some h
       clear h
       have h := h'; clear h'
       obtain ⟨b102, o103, hi101, -⟩ := (H.own 0 rfl).ix hx100
       refine st (v := (pt b102 o103)) (rv_ix Tryd.underlying22 ti5 rfl rfl hi101) ?_
       refine st_exS (ex_store_own (e' := (gb8 r95)) (vs := [(.int .u8 ((gb8 r95).toNat : Int))]) (k := 0) H (i := 0) rfl ti5 hx100 hi101 rfl rfl rfl rfl rfl (Nat.le_of_ble_eq_true rfl) (by simp [plain]) (by rintro _ rfl; exact rfl)) wn ?_
       rintro σ104 ⟨H, -⟩
       have hsl : (Sl a21 (r18.set r71.1.toNat (gb8 r77.1)) c22) = (Sl a21 ((r18.set r71.1.toNat (gb8 r77.1)).set (w64 (((r18.set r71.1.toNat (gb8 r77.1)).length : Int) - 1)).toNat (gb8 r95)) c22) := sl_len List.length_set.symm
       rw [hsl]; rw [hsl] at H; clear hsl
       refine w_end ?_
       refine q_blk ?_
       obtain rfl := Option.some.inj h
       exact ⟨rfl, _, σ104, a21, c22, fr_join ⟨rfl, trivial⟩, rfl, H.sel' [0] rfl rfl⟩
      ·replace h := bif_f hb70 h
       refine c_skip ?_
       refine q_blk ?_
       obtain rfl := Option.some.inj h
       exact ⟨rfl, _, σ42, a21, c22, fr_join ⟨rfl, trivial⟩, rfl, H.sel' [3] rfl rfl⟩
   ·replace h := bif_f hb36 h
    refine c_skip ?_
    obtain rfl := Option.some.inj h
    exact ⟨rfl, _, σ32, a21, c22, fr_join ⟨rfl, trivial⟩, rfl, H.sel' [2] rfl rfl⟩
  ·clear hj
   have h := h'
   clear h' H
   rintro e a w ⟨rfl, ρ, σ105, a106, c107, rfl, rfl, H⟩
   refine q_then ?_
   refine c_seq ?_
   refine rg ?_
   refine st (v := (Sl a106 o35 c107)) (rv_move rfl) ?_
   refine st (v := (Sl a106 o35 c107)) (rv_assign rfl) ?_
   refine w_end ?_
   refine q_then ?_
   refine c_ret ?_
   obtain rfl := Option.some.inj h
   exact fin_ret (v := (Sl a106 o35 c107)) (results_ok Tryd.results12 (res_tmp (v := (Sl a106 o35 c107)) rfl res_nil) rfl) ⟨a106, c107, rfl, rfl⟩ (H.sel' [0] rfl rfl)

theorem c_spec_ParsePage {b_0 : List UInt8} {ab_0 : Option Addr} {cb_0 : Nat} {r : (List (Int × (List Int) × Int)) × Bool} (h : M.spec_ParsePage b_0 = some r) :
    Cal2 Tryd.prog 13 [(Sl ab_0 b_0 cb_0)] [Ch.ro 0 (Sl ab_0 b_0 cb_0) b_0] (fun n0 v L => ∃ (az1 : Option Addr), ∃ (cz2 : Nat), v = (.tuple #[(Sl az1 r.1 cz2), (B r.2)]) ∧ L = [Ch.own n0 n0 (Sl az1 r.1 cz2) r.1]) := by
 refine cal2 (n := 84) Tryd.func13 rfl rfl rfl rfl ?_
 intro S0 σ0 n0 hn0 H
 unfold M.spec_ParsePage at h
 refine c_seq ?_
 refine rg ?_
 refine st (v := (.slice none 0 0)) (rv_assign rfl) ?_
 refine st (v := (B false)) (rv_assign rfl) ?_
 refine w_end ?_
 refine q_then ?_
 refine c_seq ?_
 refine rg ?_
 refine st (v := (Sl ab_0 b_0 cb_0)) (rv_move rfl) ?_
 refine st (v := (I (b_0.length : Int))) (rv_len Tryd.underlying22 rfl) ?_
 refine st (v := (I (w64 ((b_0.length : Int) - 1)))) (rv_sub (a := (b_0.length : Int)) (b := 1) rfl rfl) ?_
 refine st (v := (I (w64 ((b_0.length : Int) - 1)))) (rv_assign rfl) ?_
 refine w_end ?_
 refine q_then ?_
 refine c_seq ?_
 refine c_seq ?_
 obtain ⟨o1, hj, h'⟩ := bind_some h
 clear h
 refine c_cut (fun e a w => e = .normal ∧ ∃ (ρ : Nat → Value) (σ : St), a = fr 84 (updL ρ [(0, (Sl ab_0 b_0 cb_0)), (36, (B o1))]) ∧ w = σ.w ∧ Hp S0 σ0 σ [Ch.ro 0 (Sl ab_0 b_0 cb_0) b_0]) ?_ ?_
 ·clear h'
  rename _ = some o1 => h
  rcases Bool.eq_false_or_eq_true (decide ((w64 ((b_0.length : Int) - 1)) < 1)) with hb2 | hb2
  ·replace h := bif_t hb2 h
   have Hs := H
   refine rg2 (σ := σ0) (Nm := Unit) 22 [] [[]] [[(0, 0)], [(0, 0)], [(0, 0)], [(0, 0)], [(0, 0)], [(0, 0)], [(0, 0)], [(0, 0)], [(0, 0)], [(0, 0)], [(0, 0)], [(0, 0)], [(0, 0)], [(0, 0)], [(0, 0)], [(0, 0)], [(0, 0)], [(0, 0)], [(0, 0)], [(0, 0)], [(0, 0)], [(0, 0)]] 0 [fun _ => fun σm => Hp S0 σ0 σm [Ch.ro 0 (Sl ab_0 b_0 cb_0) b_0] ∧ Md (cov []) σ0 σm] [fun _ => (I (w64 ((b_0.length : Int) - 1))), fun _ => (B (decide ((w64 ((b_0.length : Int) - 1)) < 1))), fun _ => (B (decide ((w64 ((b_0.length : Int) - 1)) < 1))), fun _ => undef, fun _ => undef, fun _ => undef, fun _ => undef, fun _ => undef, fun _ => undef, fun _ => undef, fun _ => undef, fun _ => (B true), fun _ => (B true), fun _ => undef, fun _ => undef, fun _ => undef, fun _ => undef, fun _ => undef, fun _ => undef, fun _ => undef, fun _ => undef, fun _ => undef] () (by kernel_rfl) (by kernel_rfl) ?_ ?_ ?_
   ·intro σm m0
    exact ⟨H.grow (m0.mono fun _ h => h.elim), m0⟩
   ·refine ac rfl (by
      intro k _nm ρ σm hJ hoff hdep
      have e4 := look_off (N := 84) (hoff 4 rfl) rfl
      exact dp_v (v := (I (w64 ((b_0.length : Int) - 1)))) wn (rv_move e4) rfl hJ) ?_
    refine ac rfl (by
      intro k _nm ρ σm hJ hoff hdep
      have e13 := hdep 0 rfl rfl 13 rfl
      exact dp_v (v := (B (decide ((w64 ((b_0.length : Int) - 1)) < 1)))) wn (rv_lss (a := (w64 ((b_0.length : Int) - 1))) (b := 1) e13 rfl) rfl hJ) ?_
    refine ac rfl (by
      intro k _nm ρ σm hJ hoff hdep
      have e14 := hdep 1 rfl rfl 14 rfl
      exact dp_v (v := (B (decide ((w64 ((b_0.length : Int) - 1)) < 1)))) wn (rv_move e14) rfl hJ) ?_
    refine ac rfl (by
      intro k _nm ρ σm hJ hoff hdep
      have e15 := hdep 2 rfl rfl 15 rfl
      exact dp_skip (wanted_no rfl (yv_of rfl (e15.trans (congrArg B hb2)))) rfl hJ) ?_
    refine ac rfl (by
      intro k _nm ρ σm hJ hoff hdep
      have e15 := hdep 2 rfl rfl 15 rfl
      exact dp_skip (wanted_no rfl (yv_of rfl (e15.trans (congrArg B hb2)))) rfl hJ) ?_
    refine ac rfl (by
      intro k _nm ρ σm hJ hoff hdep
      have e15 := hdep 2 rfl rfl 15 rfl
      exact dp_skip (wanted_no rfl (yv_of rfl (e15.trans (congrArg B hb2)))) rfl hJ) ?_
    refine ac rfl (by
      intro k _nm ρ σm hJ hoff hdep
      have e15 := hdep 2 rfl rfl 15 rfl
      exact dp_skip (wanted_no rfl (yv_of rfl (e15.trans (congrArg B hb2)))) rfl hJ) ?_
    refine ac rfl (by
      intro k _nm ρ σm hJ hoff hdep
      have e15 := hdep 2 rfl rfl 15 rfl
      exact dp_skip (wanted_no rfl (yv_of rfl (e15.trans (congrArg B hb2)))) rfl hJ) ?_
    refine ac rfl (by
      intro k _nm ρ σm hJ hoff hdep
      have e15 := hdep 2 rfl rfl 15 rfl
      exact dp_skip (wanted_no rfl (yv_of rfl (e15.trans (congrArg B hb2)))) rfl hJ) ?_
    refine ac rfl (by
      intro k _nm ρ σm hJ hoff hdep
      have e15 := hdep 2 rfl rfl 15 rfl
      exact dp_skip (wanted_no rfl (yv_of rfl (e15.trans (congrArg B hb2)))) rfl hJ) ?_
    refine ac rfl (by
      intro k _nm ρ σm hJ hoff hdep
      have e15 := hdep 2 rfl rfl 15 rfl
      exact dp_skip (wanted_no rfl (yv_of rfl (e15.trans (congrArg B hb2)))) rfl hJ) ?_
    refine ac rfl (by
      intro k _nm ρ σm hJ hoff hdep
      have e15 := hdep 2 rfl rfl 15 rfl
      exact dp_v (v := (B true)) wn (rv_pick_t (e15.trans (congrArg B hb2)) rfl) rfl hJ) ?_
    refine ac rfl (by
      intro k _nm ρ σm hJ hoff hdep
      have e24 := hdep 11 rfl rfl 24 rfl
      exact dp_v (v := (B true)) wn (rv_move e24) rfl hJ) ?_
    refine ac rfl (by
      intro k _nm ρ σm hJ hoff hdep
      have e25 := hdep 12 rfl rfl 25 rfl
      exact dp_skip (wanted_no rfl (yv_of rfl e25)) rfl hJ) ?_
    refine ac rfl (by
      intro k _nm ρ σm hJ hoff hdep
      have e25 := hdep 12 rfl rfl 25 rfl
      exact dp_skip (wanted_no rfl (yv_of rfl e25)) rfl hJ) ?_
    refine ac rfl (by
      intro k _nm ρ σm hJ hoff hdep
      have e25 := hdep 12 rfl rfl 25 rfl
      exact dp_skip (wanted_no rfl (yv_of rfl e25)) rfl hJ) ?_
    refine ac rfl (by
      intro k _nm ρ σm hJ hoff hdep
      have e25 := hdep 12 rfl rfl 25 rfl
      exact dp_skip (wanted_no rfl (yv_of rfl e25)) rfl hJ) ?_
    refine ac rfl (by
      intro k _nm ρ σm hJ hoff hdep
      have e25 := hdep 12 rfl rfl 25 rfl
      exact dp_skip (wanted_no rfl (yv_of rfl e25)) rfl hJ) ?_
    refine ac rfl (by
      intro k _nm ρ σm hJ hoff hdep
      have e25 := hdep 12 rfl rfl 25 rfl
      exact dp_skip (wanted_no rfl (yv_of rfl e25)) rfl hJ) ?_
    refine ac rfl (by
      intro k _nm ρ σm hJ hoff hdep
      have e25 := hdep 12 rfl rfl 25 rfl
      exact dp_skip (wanted_no rfl (yv_of rfl e25)) rfl hJ) ?_
    refine ac rfl (by
      intro k _nm ρ σm hJ hoff hdep
      have e25 := hdep 12 rfl rfl 25 rfl
      exact dp_skip (wanted_no rfl (yv_of rfl e25)) rfl hJ) ?_
    refine ac rfl (by
      intro k _nm ρ σm hJ hoff hdep
      have e25 := hdep 12 rfl rfl 25 rfl
      exact dp_skip (wanted_no rfl (yv_of rfl e25)) rfl hJ) ?_
    exact all_nil
   ·intro _nm ρ σ3 hJ hoff hrel
    have e0 := look_off (N := 84) (hoff 0 rfl) rfl
    have e25 := hrel 12 rfl 25 rfl
    have e29 := hrel 16 rfl 29 rfl
    have e34 := hrel 21 rfl 34 rfl
    obtain ⟨H, -⟩ := (show Hp S0 σ0 σ3 [Ch.ro 0 (Sl ab_0 b_0 cb_0) b_0] ∧ Md (cov []) σ0 σ3 from hJ)
    clear hJ Hs
    rw [fr_lookL (L := [(0, (Sl ab_0 b_0 cb_0)), (25, (B true)), (29, undef), (34, undef)]) ⟨e0, e25, e29, e34, trivial⟩]
    clear hoff hrel e0 e25 e29 e34
    refine st_skip rfl ?_
    refine st (v := (B true)) (rv_pick_t rfl rfl) ?_
    refine w_end ?_
    obtain rfl := Option.some.inj h
    exact ⟨rfl, _, σ3, fr_join ⟨rfl, rfl, trivial⟩, rfl, H.sel' [0] rfl rfl⟩
  ·replace h := bif_f hb2 h
   obtain ⟨x4, hx5, h'⟩ := bind_some h
   clear h
   have h := h'; clear h'
   obtain ⟨b7, o8, hi6, -⟩ := (H.ro 0 rfl).ix hx5
   have hc9 := ((H.ro 0 rfl).at hx5 hi6).byte
   rcases Bool.eq_false_or_eq_true ((w64 ((b_0.length : Int) - 1)) != (w64 (1 + (w64 ((w64 (x4.toNat : Int)) * 6))))) with hb10 | hb10
   ·replace h := bif_t hb10 h
    have Hs := H
    refine rg2 (σ := σ0) (Nm := Unit) 22 [] [[]] [[(0, 0)], [(0, 0)], [(0, 0)], [(0, 0)], [(0, 0)], [(0, 0)], [(0, 0)], [(0, 0)], [(0, 0)], [(0, 0)], [(0, 0)], [(0, 0)], [(0, 0)], [(0, 0)], [(0, 0)], [(0, 0)], [(0, 0)], [(0, 0)], [(0, 0)], [(0, 0)], [(0, 0)], [(0, 0)]] 0 [fun _ => fun σm => Hp S0 σ0 σm [Ch.ro 0 (Sl ab_0 b_0 cb_0) b_0] ∧ Md (cov []) σ0 σm] [fun _ => (I (w64 ((b_0.length : Int) - 1))), fun _ => (B (decide ((w64 ((b_0.length : Int) - 1)) < 1))), fun _ => (B (decide ((w64 ((b_0.length : Int) - 1)) < 1))), fun _ => (I (w64 ((b_0.length : Int) - 1))), fun _ => (Sl ab_0 b_0 cb_0), fun _ => (pt b7 o8), fun _ => (.int .u8 (x4.toNat : Int)), fun _ => (I (w64 (x4.toNat : Int))), fun _ => (I (w64 ((w64 (x4.toNat : Int)) * 6))), fun _ => (I (w64 (1 + (w64 ((w64 (x4.toNat : Int)) * 6))))), fun _ => (B ((w64 ((b_0.length : Int) - 1)) != (w64 (1 + (w64 ((w64 (x4.toNat : Int)) * 6)))))), fun _ => (B ((w64 ((b_0.length : Int) - 1)) != (w64 (1 + (w64 ((w64 (x4.toNat : Int)) * 6)))))), fun _ => (B ((w64 ((b_0.length : Int) - 1)) != (w64 (1 + (w64 ((w64 (x4.toNat : Int)) * 6)))))), fun _ => undef, fun _ => undef, fun _ => undef, fun _ => undef, fun _ => undef, fun _ => undef, fun _ => undef, fun _ => undef, fun _ => undef] () (by kernel_rfl) (by kernel_rfl) ?_ ?_ ?_
    ·intro σm m0
     exact ⟨H.grow (m0.mono fun _ h => h.elim), m0⟩
    ·refine ac rfl (by
       intro k _nm ρ σm hJ hoff hdep
       have e4 := look_off (N := 84) (hoff 4 rfl) rfl
       exact dp_v (v := (I (w64 ((b_0.length : Int) - 1)))) wn (rv_move e4) rfl hJ) ?_
     refine ac rfl (by
       intro k _nm ρ σm hJ hoff hdep
       have e13 := hdep 0 rfl rfl 13 rfl
       exact dp_v (v := (B (decide ((w64 ((b_0.length : Int) - 1)) < 1)))) wn (rv_lss (a := (w64 ((b_0.length : Int) - 1))) (b := 1) e13 rfl) rfl hJ) ?_
     refine ac rfl (by
       intro k _nm ρ σm hJ hoff hdep
       have e14 := hdep 1 rfl rfl 14 rfl
       exact dp_v (v := (B (decide ((w64 ((b_0.length : Int) - 1)) < 1)))) wn (rv_move e14) rfl hJ) ?_
     refine ac rfl (by
       intro k _nm ρ σm hJ hoff hdep
       have e4 := look_off (N := 84) (hoff 4 rfl) rfl
       have e15 := hdep 2 rfl rfl 15 rfl
       exact dp_v (v := (I (w64 ((b_0.length : Int) - 1)))) (wanted_yes rfl (yv_of rfl (e15.trans (congrArg B hb2)))) (rv_move e4) rfl hJ) ?_
     refine ac rfl (by
       intro k _nm ρ σm hJ hoff hdep
       have e0 := look_off (N := 84) (hoff 0 rfl) rfl
       have e15 := hdep 2 rfl rfl 15 rfl
       exact dp_v (v := (Sl ab_0 b_0 cb_0)) (wanted_yes rfl (yv_of rfl (e15.trans (congrArg B hb2)))) (rv_move e0) rfl hJ) ?_
     refine ac rfl (by
       intro k _nm ρ σm hJ hoff hdep
       have e17 := hdep 4 rfl rfl 17 rfl
       have e15 := hdep 2 rfl rfl 15 rfl
       exact dp_v (v := (pt b7 o8)) (wanted_yes rfl (yv_of rfl (e15.trans (congrArg B hb2)))) (rv_ix Tryd.underlying22 ti5 e17 rfl hi6) rfl hJ) ?_
     refine all_cons (by
       refine ⟨?_, ?_⟩
       ·intro _nm ρ σm hJ hoff hdep
        have e18 := hdep 5 rfl rfl 18 rfl
        have e15 := hdep 2 rfl rfl 15 rfl
        obtain ⟨H, m⟩ := id hJ
        replace hc9 := (Hs.ro 0 rfl).hmd hx5 hi6 (k := 0) (by decide) hc9 m
        exact dp_v (v := (.int .u8 (x4.toNat : Int))) (wanted_yes rfl (yv_of rfl (e15.trans (congrArg B hb2)))) (rv_load1 Tryd.underlying5 rfl e18 hc9) rfl hJ
       trivial) ?_
     refine ac rfl (by
       intro k _nm ρ σm hJ hoff hdep
       have e19 := hdep 6 rfl rfl 19 rfl
       have e15 := hdep 2 rfl rfl 15 rfl
       exact dp_v (v := (I (w64 (x4.toNat : Int)))) (wanted_yes rfl (yv_of rfl (e15.trans (congrArg B hb2)))) (rv_conv Tryd.underlying5 Tryd.underlying3 e19) rfl hJ) ?_
     refine ac rfl (by
       intro k _nm ρ σm hJ hoff hdep
       have e20 := hdep 7 rfl rfl 20 rfl
       have e15 := hdep 2 rfl rfl 15 rfl
       exact dp_v (v := (I (w64 ((w64 (x4.toNat : Int)) * 6)))) (wanted_yes rfl (yv_of rfl (e15.trans (congrArg B hb2)))) (rv_mul (a := (w64 (x4.toNat : Int))) (b := 6) e20 rfl) rfl hJ) ?_
     refine ac rfl (by
       intro k _nm ρ σm hJ hoff hdep
       have e21 := hdep 8 rfl rfl 21 rfl
       have e15 := hdep 2 rfl rfl 15 rfl
       exact dp_v (v := (I (w64 (1 + (w64 ((w64 (x4.toNat : Int)) * 6)))))) (wanted_yes rfl (yv_of rfl (e15.trans (congrArg B hb2)))) (rv_add (a := 1) (b := (w64 ((w64 (x4.toNat : Int)) * 6))) rfl e21) rfl hJ) ?_
     refine ac rfl (by
       intro k _nm ρ σm hJ hoff hdep
       have e16 := hdep 3 rfl rfl 16 rfl
       have e22 := hdep 9 rfl rfl 22 rfl
       have e15 := hdep 2 rfl rfl 15 rfl
       exact dp_v (v := (B ((w64 ((b_0.length : Int) - 1)) != (w64 (1 + (w64 ((w64 (x4.toNat : Int)) * 6))))))) (wanted_yes rfl (yv_of rfl (e15.trans (congrArg B hb2)))) (rv_neq (a := (w64 ((b_0.length : Int) - 1))) (b := (w64 (1 + (w64 ((w64 (x4.toNat : Int)) * 6))))) e16 e22) rfl hJ) ?_
     refine ac rfl (by
       intro k _nm ρ σm hJ hoff hdep
       have e15 := hdep 2 rfl rfl 15 rfl
       have e23 := hdep 10 rfl rfl 23 rfl
       exact dp_v (v := (B ((w64 ((b_0.length : Int) - 1)) != (w64 (1 + (w64 ((w64 (x4.toNat : Int)) * 6))))))) wn (rv_pick_f (e15.trans (congrArg B hb2)) e23) rfl hJ) ?_
     refine ac rfl (by
       intro k _nm ρ σm hJ hoff hdep
       have e24 := hdep 11 rfl rfl 24 rfl
       exact dp_v (v := (B ((w64 ((b_0.length : Int) - 1)) != (w64 (1 + (w64 ((w64 (x4.toNat : Int)) * 6))))))) wn (rv_move e24) rfl hJ) ?_
     refine ac rfl (by
       intro k _nm ρ σm hJ hoff hdep
       have e25 := hdep 12 rfl rfl 25 rfl
       exact dp_skip (wanted_no rfl (yv_of rfl (e25.trans (congrArg B hb10)))) rfl hJ) ?_
     refine ac rfl (by
       intro k _nm ρ σm hJ hoff hdep
       have e25 := hdep 12 rfl rfl 25 rfl
       exact dp_skip (wanted_no rfl (yv_of rfl (e25.trans (congrArg B hb10)))) rfl hJ) ?_
     refine ac rfl (by
       intro k _nm ρ σm hJ hoff hdep
       have e25 := hdep 12 rfl rfl 25 rfl
       exact dp_skip (wanted_no rfl (yv_of rfl (e25.trans (congrArg B hb10)))) rfl hJ) ?_
     refine ac rfl (by
       intro k _nm ρ σm hJ hoff hdep
       have e25 := hdep 12 rfl rfl 25 rfl
       exact dp_skip (wanted_no rfl (yv_of rfl (e25.trans (congrArg B hb10)))) rfl hJ) ?_
     refine ac rfl (by
       intro k _nm ρ σm hJ hoff hdep
       have e25 := hdep 12 rfl rfl 25 rfl
       exact dp_skip (wanted_no rfl (yv_of rfl (e25.trans (congrArg B hb10)))) rfl hJ) ?_
     refine ac rfl (by
       intro k _nm ρ σm hJ hoff hdep
       have e25 := hdep 12 rfl rfl 25 rfl
       exact dp_skip (wanted_no rfl (yv_of rfl (e25.trans (congrArg B hb10)))) rfl hJ) ?_
     refine ac rfl (by
       intro k _nm ρ σm hJ hoff hdep
       have e25 := hdep 12 rfl rfl 25 rfl
       exact dp_skip (wanted_no rfl (yv_of rfl (e25.trans (congrArg B hb10)))) rfl hJ) ?_
     refine ac rfl (by
       intro k _nm ρ σm hJ hoff hdep
       have e25 := hdep 12 rfl rfl 25 rfl
       exact dp_skip (wanted_no rfl (yv_of rfl (e25.trans (congrArg B hb10)))) rfl hJ) ?_
     refine ac rfl (by
       intro k _nm ρ σm hJ hoff hdep
       have e25 := hdep 12 rfl rfl 25 rfl
       exact dp_skip (wanted_no rfl (yv_of rfl (e25.trans (congrArg B hb10)))) rfl hJ) ?_
     exact all_nil
    ·intro _nm ρ σ11 hJ hoff hrel
     have e0 := look_off (N := 84) (hoff 0 rfl) rfl
     have e25 := hrel 12 rfl 25 rfl
     have e29 := hrel 16 rfl 29 rfl
     have e34 := hrel 21 rfl 34 rfl
     obtain ⟨H, -⟩ := (show Hp S0 σ0 σ11 [Ch.ro 0 (Sl ab_0 b_0 cb_0) b_0] ∧ Md (cov []) σ0 σ11 from hJ)
     clear hJ Hs
     rw [fr_lookL (L := [(0, (Sl ab_0 b_0 cb_0)), (25, (B ((w64 ((b_0.length : Int) - 1)) != (w64 (1 + (w64 ((w64 (x4.toNat : Int)) * 6))))))), (29, undef), (34, undef)]) ⟨e0, e25, e29, e34, trivial⟩]
     clear hoff hrel e0 e25 e29 e34
     refine st_skip (congrArg some hb10) ?_
     refine st (v := (B true)) (rv_pick_t (congrArg B hb10) rfl) ?_
     refine w_end ?_
     obtain rfl := Option.some.inj h
     exact ⟨rfl, _, σ11, fr_join ⟨rfl, rfl, trivial⟩, rfl, H.sel' [0] rfl rfl⟩
   ·replace h := bif_f hb10 h
    obtain ⟨xs12, hx13, h'⟩ := bind_some h
    clear h
    have h := h'; clear h'
    obtain ⟨a14, c15, hs16, hR17⟩ := (H.ro 0 rfl).slice hx13
    replace H := H.add (d := Ch.ro 0 (Sl a14 xs12 c15) xs12) hR17 (fun _ h => h)
    clear hR17
    obtain ⟨r18, hx19, h'⟩ := bind_some h
    clear h
    have h := h'; clear h'
    have hc20 := c_spec_checkOf (ab_0 := a14) (cb_0 := c15) hx19
    obtain ⟨x21, hx22, h'⟩ := bind_some h
    clear h
    have h := h'; clear h'
    obtain ⟨b24, o25, hi23, -⟩ := (H.ro 1 rfl).ix hx22
    have hc26 := ((H.ro 1 rfl).at hx22 hi23).byte
    have Hs := H
    refine rg2 (σ := σ0) (Nm := Unit) 22 [16] [[false], [true]] [[(0, 0)], [(0, 0)], [(0, 0)], [(0, 0)], [(0, 0)], [(0, 0)], [(0, 0)], [(0, 0)], [(0, 0)], [(0, 0)], [(0, 0)], [(0, 0)], [(0, 0)], [(0, 0)], [(0, 0)], [(0, 0)], [(0, 1)], [(0, 0), (1, 1)], [(0, 0), (1, 1)], [(0, 0), (1, 1)], [(0, 0), (1, 1)], [(0, 0), (1, 1)]] 1 [fun _ => fun σm => Hp S0 σ0 σm [Ch.ro 0 (Sl a14 xs12 c15) xs12, Ch.ro 0 (Sl ab_0 b_0 cb_0) b_0] ∧ Md (cov []) σ0 σm, fun _ => fun σm => Hp S0 σ0 σm [Ch.ro 0 (Sl a14 xs12 c15) xs12, Ch.ro 0 (Sl ab_0 b_0 cb_0) b_0] ∧ Md (cov []) σ0 σm] [fun _ => (I (w64 ((b_0.length : Int) - 1))), fun _ => (B (decide ((w64 ((b_0.length : Int) - 1)) < 1))), fun _ => (B (decide ((w64 ((b_0.length : Int) - 1)) < 1))), fun _ => (I (w64 ((b_0.length : Int) - 1))), fun _ => (Sl ab_0 b_0 cb_0), fun _ => (pt b7 o8), fun _ => (.int .u8 (x4.toNat : Int)), fun _ => (I (w64 (x4.toNat : Int))), fun _ => (I (w64 ((w64 (x4.toNat : Int)) * 6))), fun _ => (I (w64 (1 + (w64 ((w64 (x4.toNat : Int)) * 6))))), fun _ => (B ((w64 ((b_0.length : Int) - 1)) != (w64 (1 + (w64 ((w64 (x4.toNat : Int)) * 6)))))), fun _ => (B ((w64 ((b_0.length : Int) - 1)) != (w64 (1 + (w64 ((w64 (x4.toNat : Int)) * 6)))))), fun _ => (B ((w64 ((b_0.length : Int) - 1)) != (w64 (1 + (w64 ((w64 (x4.toNat : Int)) * 6)))))), fun _ => (Sl ab_0 b_0 cb_0), fun _ => (I (w64 ((b_0.length : Int) - 1))), fun _ => (Sl a14 xs12 c15), fun _ => (I r18), fun _ => (Sl ab_0 b_0 cb_0), fun _ => (I (w64 ((b_0.length : Int) - 1))), fun _ => (pt b24 o25), fun _ => (.int .u8 (x21.toNat : Int)), fun _ => (I (w64 (x21.toNat : Int)))] () (by kernel_rfl) (by kernel_rfl) ?_ ?_ ?_
    ·intro σm m0
     exact ⟨H.grow (m0.mono fun _ h => h.elim), m0⟩
    ·refine ac rfl (by
       intro k _nm ρ σm hJ hoff hdep
       have e4 := look_off (N := 84) (hoff 4 rfl) rfl
       exact dp_v (v := (I (w64 ((b_0.length : Int) - 1)))) wn (rv_move e4) rfl hJ) ?_
     refine ac rfl (by
       intro k _nm ρ σm hJ hoff hdep
       have e13 := hdep 0 rfl rfl 13 rfl
       exact dp_v (v := (B (decide ((w64 ((b_0.length : Int) - 1)) < 1)))) wn (rv_lss (a := (w64 ((b_0.length : Int) - 1))) (b := 1) e13 rfl) rfl hJ) ?_
     refine ac rfl (by
       intro k _nm ρ σm hJ hoff hdep
       have e14 := hdep 1 rfl rfl 14 rfl
       exact dp_v (v := (B (decide ((w64 ((b_0.length : Int) - 1)) < 1)))) wn (rv_move e14) rfl hJ) ?_
     refine ac rfl (by
       intro k _nm ρ σm hJ hoff hdep
       have e4 := look_off (N := 84) (hoff 4 rfl) rfl
       have e15 := hdep 2 rfl rfl 15 rfl
       exact dp_v (v := (I (w64 ((b_0.length : Int) - 1)))) (wanted_yes rfl (yv_of rfl (e15.trans (congrArg B hb2)))) (rv_move e4) rfl hJ) ?_
     refine ac rfl (by
       intro k _nm ρ σm hJ hoff hdep
       have e0 := look_off (N := 84) (hoff 0 rfl) rfl
       have e15 := hdep 2 rfl rfl 15 rfl
       exact dp_v (v := (Sl ab_0 b_0 cb_0)) (wanted_yes rfl (yv_of rfl (e15.trans (congrArg B hb2)))) (rv_move e0) rfl hJ) ?_
     refine ac rfl (by
       intro k _nm ρ σm hJ hoff hdep
       have e17 := hdep 4 rfl rfl 17 rfl
       have e15 := hdep 2 rfl rfl 15 rfl
       exact dp_v (v := (pt b7 o8)) (wanted_yes rfl (yv_of rfl (e15.trans (congrArg B hb2)))) (rv_ix Tryd.underlying22 ti5 e17 rfl hi6) rfl hJ) ?_
     refine all_cons (by
       refine ⟨?_, ?_⟩
       ·intro _nm ρ σm hJ hoff hdep
        have e18 := hdep 5 rfl rfl 18 rfl
        have e15 := hdep 2 rfl rfl 15 rfl
        obtain ⟨H, m⟩ := id hJ
        replace hc9 := (Hs.ro 1 rfl).hmd hx5 hi6 (k := 0) (by decide) hc9 m
        exact dp_v (v := (.int .u8 (x4.toNat : Int))) (wanted_yes rfl (yv_of rfl (e15.trans (congrArg B hb2)))) (rv_load1 Tryd.underlying5 rfl e18 hc9) rfl hJ
       trivial) ?_
     refine ac rfl (by
       intro k _nm ρ σm hJ hoff hdep
       have e19 := hdep 6 rfl rfl 19 rfl
       have e15 := hdep 2 rfl rfl 15 rfl
       exact dp_v (v := (I (w64 (x4.toNat : Int)))) (wanted_yes rfl (yv_of rfl (e15.trans (congrArg B hb2)))) (rv_conv Tryd.underlying5 Tryd.underlying3 e19) rfl hJ) ?_
     refine ac rfl (by
       intro k _nm ρ σm hJ hoff hdep
       have e20 := hdep 7 rfl rfl 20 rfl
       have e15 := hdep 2 rfl rfl 15 rfl
       exact dp_v (v := (I (w64 ((w64 (x4.toNat : Int)) * 6)))) (wanted_yes rfl (yv_of rfl (e15.trans (congrArg B hb2)))) (rv_mul (a := (w64 (x4.toNat : Int))) (b := 6) e20 rfl) rfl hJ) ?_
     refine ac rfl (by
       intro k _nm ρ σm hJ hoff hdep
       have e21 := hdep 8 rfl rfl 21 rfl
       have e15 := hdep 2 rfl rfl 15 rfl
       exact dp_v (v := (I (w64 (1 + (w64 ((w64 (x4.toNat : Int)) * 6)))))) (wanted_yes rfl (yv_of rfl (e15.trans (congrArg B hb2)))) (rv_add (a := 1) (b := (w64 ((w64 (x4.toNat : Int)) * 6))) rfl e21) rfl hJ) ?_
     refine ac rfl (by
       intro k _nm ρ σm hJ hoff hdep
       have e16 := hdep 3 rfl rfl 16 rfl
       have e22 := hdep 9 rfl rfl 22 rfl
       have e15 := hdep 2 rfl rfl 15 rfl
       exact dp_v (v := (B ((w64 ((b_0.length : Int) - 1)) != (w64 (1 + (w64 ((w64 (x4.toNat : Int)) * 6))))))) (wanted_yes rfl (yv_of rfl (e15.trans (congrArg B hb2)))) (rv_neq (a := (w64 ((b_0.length : Int) - 1))) (b := (w64 (1 + (w64 ((w64 (x4.toNat : Int)) * 6))))) e16 e22) rfl hJ) ?_
     refine ac rfl (by
       intro k _nm ρ σm hJ hoff hdep
       have e15 := hdep 2 rfl rfl 15 rfl
       have e23 := hdep 10 rfl rfl 23 rfl
       exact dp_v (v := (B ((w64 ((b_0.length : Int) - 1)) != (w64 (1 + (w64 ((w64 (x4.toNat : Int)) * 6))))))) wn (rv_pick_f (e15.trans (congrArg B hb2)) e23) rfl hJ) ?_
     refine ac rfl (by
       intro k _nm ρ σm hJ hoff hdep
       have e24 := hdep 11 rfl rfl 24 rfl
       exact dp_v (v := (B ((w64 ((b_0.length : Int) - 1)) != (w64 (1 + (w64 ((w64 (x4.toNat : Int)) * 6))))))) wn (rv_move e24) rfl hJ) ?_
     refine ac rfl (by
       intro k _nm ρ σm hJ hoff hdep
       have e0 := look_off (N := 84) (hoff 0 rfl) rfl
       have e25 := hdep 12 rfl rfl 25 rfl
       exact dp_v (v := (Sl ab_0 b_0 cb_0)) (wanted_yes rfl (yv_of rfl (e25.trans (congrArg B hb10)))) (rv_move e0) rfl hJ) ?_
     refine ac rfl (by
       intro k _nm ρ σm hJ hoff hdep
       have e4 := look_off (N := 84) (hoff 4 rfl) rfl
       have e25 := hdep 12 rfl rfl 25 rfl
       exact dp_v (v := (I (w64 ((b_0.length : Int) - 1)))) (wanted_yes rfl (yv_of rfl (e25.trans (congrArg B hb10)))) (rv_move e4) rfl hJ) ?_
     refine ac rfl (by
       intro k _nm ρ σm hJ hoff hdep
       have e26 := hdep 13 rfl rfl 26 rfl
       have e27 := hdep 14 rfl rfl 27 rfl
       have e25 := hdep 12 rfl rfl 25 rfl
       exact dp_v (v := (Sl a14 xs12 c15)) (wanted_yes rfl (yv_of rfl (e25.trans (congrArg B hb10)))) (rv_slice_h Tryd.underlying22 ti5 hs16 e26 e27) rfl hJ) ?_
     refine all_cons (by
       refine ⟨?_, ?_⟩
       ·intro _nm ρ σm hJ hoff hdep
        have e28 : look 84 ρ 28 = (Sl a14 xs12 c15) := hdep 15 rfl rfl 28 rfl
        have e25 := hdep 12 rfl rfl 25 rfl
        obtain ⟨H, m⟩ := id hJ
        refine dp_cx (wanted_yes rfl (yv_of rfl (e25.trans (congrArg B hb10)))) (cx_call hc20 (ent_f hc20.fn (by show [look 84 ρ 28] = _; rw [e28])) hn0 (show Hp S0 σ0 _ ([Ch.ro 0 (Sl a14 xs12 c15) xs12] ++ [Ch.ro 0 (Sl a14 xs12 c15) xs12, Ch.ro 0 (Sl ab_0 b_0 cb_0) b_0]) from (H.sel' [0, 0, 1] rfl rfl))) ?_
        rintro _ σq ⟨_, ⟨rfl, rfl⟩, H2, m2⟩
        exact ⟨_, (), rfl, rfl, ⟨H2.sel' [0, 1] rfl rfl, m.comp0 (m2.mono (fun i h => by simp [cov, Ch.ro] at h))⟩, stab [0, 1, 2, 3, 4, 5, 6, 7, 8, 9, 10, 11, 12, 13, 14, 15, 17, 18, 19, 20, 21] (by kernel_rfl) ⟨rfl, rfl, rfl, rfl, rfl, rfl, rfl, rfl, rfl, rfl, rfl, rfl, rfl, rfl, rfl, rfl, rfl, rfl, rfl, rfl, rfl, trivial⟩⟩
       trivial) ?_
     refine ac rfl (by
       intro k _nm ρ σm hJ hoff hdep
       have e0 := look_off (N := 84) (hoff 0 rfl) rfl
       have e25 := hdep 12 rfl rfl 25 rfl
       exact dp_v (v := (Sl ab_0 b_0 cb_0)) (wanted_yes rfl (yv_of rfl (e25.trans (congrArg B hb10)))) (rv_move e0) rfl hJ) ?_
     refine ac rfl (by
       intro k _nm ρ σm hJ hoff hdep
       have e4 := look_off (N := 84) (hoff 4 rfl) rfl
       have e25 := hdep 12 rfl rfl 25 rfl
       exact dp_v (v := (I (w64 ((b_0.length : Int) - 1)))) (wanted_yes rfl (yv_of rfl (e25.trans (congrArg B hb10)))) (rv_move e4) rfl hJ) ?_
     refine ac rfl (by
       intro k _nm ρ σm hJ hoff hdep
       have e30 := hdep 17 rfl rfl 30 rfl
       have e31 := hdep 18 rfl rfl 31 rfl
       have e25 := hdep 12 rfl rfl 25 rfl
       exact dp_v (v := (pt b24 o25)) (wanted_yes rfl (yv_of rfl (e25.trans (congrArg B hb10)))) (rv_ix Tryd.underlying22 ti5 e30 e31 hi23) rfl hJ) ?_
     refine all_cons (by
       refine ⟨?_, ?_⟩
       ·intro _nm ρ σm hJ hoff hdep
        have e32 := hdep 19 rfl rfl 32 rfl
        have e25 := hdep 12 rfl rfl 25 rfl
        obtain ⟨H, m⟩ := id hJ
        replace hc26 := (Hs.ro 1 rfl).hmd hx22 hi23 (k := 0) (by decide) hc26 m
        exact dp_v (v := (.int .u8 (x21.toNat : Int))) (wanted_yes rfl (yv_of rfl (e25.trans (congrArg B hb10)))) (rv_load1 Tryd.underlying5 rfl e32 hc26) rfl hJ
       refine ⟨?_, ?_⟩
       ·intro _nm ρ σm hJ hoff hdep
        have e32 := hdep 19 rfl rfl 32 rfl
        have e25 := hdep 12 rfl rfl 25 rfl
        obtain ⟨H, m⟩ := id hJ
        replace hc26 := (Hs.ro 1 rfl).hmd hx22 hi23 (k := 0) (by decide) hc26 m
        exact dp_v (v := (.int .u8 (x21.toNat : Int))) (wanted_yes rfl (yv_of rfl (e25.trans (congrArg B hb10)))) (rv_load1 Tryd.underlying5 rfl e32 hc26) rfl hJ
       trivial) ?_
     refine ac rfl (by
       intro k _nm ρ σm hJ hoff hdep
       have e33 := hdep 20 rfl rfl 33 rfl
       have e25 := hdep 12 rfl rfl 25 rfl
       exact dp_v (v := (I (w64 (x21.toNat : Int)))) (wanted_yes rfl (yv_of rfl (e25.trans (congrArg B hb10)))) (rv_conv Tryd.underlying5 Tryd.underlying3 e33) rfl hJ) ?_
     exact all_nil
    ·intro _nm ρ σ27 hJ hoff hrel
     have e0 := look_off (N := 84) (hoff 0 rfl) rfl
     have e25 := hrel 12 rfl 25 rfl
     have e29 := hrel 16 rfl 29 rfl
     have e34 := hrel 21 rfl 34 rfl
     obtain ⟨H, -⟩ := (show Hp S0 σ0 σ27 [Ch.ro 0 (Sl a14 xs12 c15) xs12, Ch.ro 0 (Sl ab_0 b_0 cb_0) b_0] ∧ Md (cov []) σ0 σ27 from hJ)
     clear hJ Hs
     rw [fr_lookL (L := [(0, (Sl ab_0 b_0 cb_0)), (25, (B ((w64 ((b_0.length : Int) - 1)) != (w64 (1 + (w64 ((w64 (x4.toNat : Int)) * 6))))))), (29, (I r18)), (34, (I (w64 (x21.toNat : Int))))]) ⟨e0, e25, e29, e34, trivial⟩]
     clear hoff hrel e0 e25 e29 e34
     refine st_g (v := (B (r18 != (w64 (x21.toNat : Int))))) (congrArg some hb10) (rv_neq (a := r18) (b := (w64 (x21.toNat : Int))) rfl rfl) ?_
     refine st (v := (B (r18 != (w64 (x21.toNat : Int))))) (rv_pick_f (congrArg B hb10) rfl) ?_
     refine w_end ?_
     obtain rfl := Option.some.inj h
     exact ⟨rfl, _, σ27, fr_join ⟨rfl, rfl, trivial⟩, rfl, H.sel' [1] rfl rfl⟩
 ·clear hj
  have h := h'
  clear h' H
  rintro e a w ⟨rfl, ρ, σ28, rfl, rfl, H⟩
  refine q_then ?_
  refine cd_cond o1 rfl (fun hb29 => ?_) (fun hb29 => ?_)
  ·replace h := bif_t hb29 h
   refine c_seq ?_
   refine rg ?_
   refine st (v := (.slice none 0 0)) (rv_assign rfl) ?_
   refine st (v := (B false)) (rv_assign rfl) ?_
   refine w_end ?_
   refine q_then ?_
   refine c_ret ?_
   refine q_then_r ?_
   replace H := H.nilOwn (Int × (List Int) × Int) n0 n0
   obtain rfl := Option.some.inj h
   exact fin_ret (v := (.tuple #[(.slice none 0 0), (B false)])) (results_ok Tryd.results13 (res_tmp (v := (.slice none 0 0)) rfl (res_tmp (v := (B false)) rfl res_nil)) rfl) ⟨none, 0, rfl, rfl⟩ (H.sel' [0] rfl rfl)
  ·replace h := bif_f hb29 h
   refine c_skip ?_
   refine q_then ?_
   refine c_seq ?_
   refine rg ?_
   refine st_ex (ex_buildSlice (el := n0) (xs := ([] : List (Int × (List Int) × Int))) (ps := []) (cs := []) H hn0 Tryd.underlying23 ti39 rfl rfl (by kernel_rfl) (.nil) rfl) wn ?_
   rintro _ σ31 ⟨b30, rfl, H, -⟩
   refine st (v := (Sl (some ⟨b30, 0, none⟩) ([] : List (Int × (List Int) × Int)) 0)) (rv_assign rfl) ?_
   refine w_end ?_
   refine q_then ?_
   refine c_seq ?_
   refine c_seq ?_
   refine rg ?_
   refine st (v := (I 0)) (rv_assign rfl) ?_
   refine w_end ?_
   refine q_then ?_
   obtain ⟨o32, hj, h'⟩ := bind_some h
   clear h
   refine c_cut (fun e a w => e = .normal ∧ ∃ (ρ : Nat → Value) (σ : St) (aj1 : Option Addr) (cj2 : Nat), a = fr 84 (updL ρ [(5, (Sl aj1 o32 cj2))]) ∧ w = σ.w ∧ Hp S0 σ0 σ [Ch.own n0 n0 (Sl aj1 o32 cj2) o32]) ?_ ?_
   ·clear h'
    rename _ = some o32 => h
    refine c_blk ?_
    refine wp_loopM _ h (fun s33 a w => ∃ (ρ : Nat → Value) (σ : St) (aj1 : Option Addr) (cj2 : Nat), a = fr 84 (updL ρ [(0, (Sl ab_0 b_0 cb_0)), (5, (Sl aj1 s33.1 cj2)), (6, (I s33.2))]) ∧ w = σ.w ∧ Hp S0 σ0 σ [Ch.ro 0 (Sl ab_0 b_0 cb_0) b_0, Ch.own n0 n0 (Sl aj1 s33.1 cj2) s33.1]) ⟨_, σ31, (some ⟨b30, 0, none⟩), 0, fr_join ⟨rfl, rfl, rfl, trivial⟩, rfl, H.sel' [1, 0] rfl rfl⟩ ?_
    clear h H
    rintro s33 a w o ⟨ρ, σ34, a35, c36, rfl, rfl, H⟩ h hres
    refine c_seq ?_
    refine c_seq ?_
    refine rg ?_
    refine st (v := (I s33.2)) (rv_move rfl) ?_
    refine st (v := (Sl ab_0 b_0 cb_0)) (rv_move rfl) ?_
    obtain ⟨x37, hx38, h'⟩ := bind_some h
    clear h
    have h := h'; clear h'
    obtain ⟨b40, o41, hi39, -⟩ := (H.ro 0 rfl).ix hx38
    refine st (v := (pt b40 o41)) (rv_ix Tryd.underlying22 ti5 rfl rfl hi39) ?_
    have hc42 := ((H.ro 0 rfl).at hx38 hi39).byte
    refine st (v := (.int .u8 (x37.toNat : Int))) (rv_load1 Tryd.underlying5 rfl rfl hc42) ?_
    refine st (v := (I (w64 (x37.toNat : Int)))) (rv_conv Tryd.underlying5 Tryd.underlying3 rfl) ?_
    refine st (v := (B (decide (s33.2 < (w64 (x37.toNat : Int)))))) (rv_lss (a := s33.2) (b := (w64 (x37.toNat : Int))) rfl rfl) ?_
    refine w_end ?_
    refine q_then ?_
    refine cd_cond (decide (s33.2 < (w64 (x37.toNat : Int)))) rfl (fun hb43 => ?_) (fun hb43 => ?_)
    ·replace h := bif_t hb43 h
     refine c_skip ?_
     refine q_then ?_
     refine c_seq ?_
     refine c_blk ?_
     refine c_seq ?_
     refine rg ?_
     refine st (v := (Sl ab_0 b_0 cb_0)) (rv_move rfl) ?_
     refine st (v := (I s33.2)) (rv_move rfl) ?_
     refine st (v := (I (w64 (s33.2 * 6)))) (rv_mul (a := s33.2) (b := 6) rfl rfl) ?_
     refine st (v := (I (w64 (1 + (w64 (s33.2 * 6)))))) (rv_add (a := 1) (b := (w64 (s33.2 * 6))) rfl rfl) ?_
     obtain ⟨xs44, hx45, h'⟩ := bind_some h
     clear h
     have h := h'; clear h'
     obtain ⟨a46, c47, hs48, hR49⟩ := (H.ro 0 rfl).slice hx45
     replace H := H.add (d := Ch.ro 0 (Sl a46 xs44 c47) xs44) hR49 (fun _ h => h)
     clear hR49
     refine st (v := (Sl a46 xs44 c47)) (rv_slice_l Tryd.underlying22 ti5 hs48 rfl rfl) ?_
     refine st (v := (Sl a46 xs44 c47)) (rv_assign rfl) ?_
     refine w_end ?_
     refine q_then ?_
     refine c_seq ?_
     obtain ⟨x50, hx51, h'⟩ := bind_some h
     clear h
     have h := h'; clear h'
     obtain ⟨b53, o54, hi52, -⟩ := (H.ro 0 rfl).ix hx51
     have hc55 := ((H.ro 0 rfl).at hx51 hi52).byte
     obtain ⟨x56, hx57, h'⟩ := bind_some h
     clear h
     have h := h'; clear h'
     obtain ⟨b59, o60, hi58, -⟩ := (H.ro 0 rfl).ix hx57
     have hc61 := ((H.ro 0 rfl).at hx57 hi58).byte
     obtain ⟨xs62, hx63, h'⟩ := bind_some h
     clear h
     have h := h'; clear h'
     have Hs := H
     refine rg2 (σ := σ34) (Nm := (Nat) × (Nat) × (Nat)) 11 [8, 10] [[false, false], [true, false], [false, true], [true, true]] [[(0, 0), (1, 1), (2, 2), (3, 3)], [(0, 0), (1, 1), (2, 2), (3, 3)], [(0, 0), (1, 1), (2, 2), (3, 3)], [(0, 0), (1, 1), (2, 2), (3, 3)], [(0, 0), (1, 1), (2, 2), (3, 3)], [(0, 0), (1, 1), (2, 2), (3, 3)], [(0, 0), (1, 1), (2, 2), (3, 3)], [(0, 0), (1, 1), (2, 2), (3, 3)], [(0, 1), (2, 3)], [(1, 1), (3, 3)], [(0, 2), (1, 3)]] 3 [fun ((b64, c65, b67) : (Nat) × (Nat) × (Nat)) => fun σm => Hp S0 σ0 σm [Ch.ro 0 (Sl a46 xs44 c47) xs44, Ch.ro 0 (Sl ab_0 b_0 cb_0) b_0, Ch.own n0 n0 (Sl a35 s33.1 c36) s33.1] ∧ Md (cov []) σ34 σm, fun ((b64, c65, b67) : (Nat) × (Nat) × (Nat)) => fun σm => Hp S0 σ0 σm [Ch.own n0 n0 (Sl (some ⟨b64, 0, none⟩) xs62 c65) xs62, Ch.ro 0 (Sl a46 xs44 c47) xs44, Ch.ro 0 (Sl ab_0 b_0 cb_0) b_0, Ch.own n0 n0 (Sl a35 s33.1 c36) s33.1] ∧ Md (cov []) σ34 σm, fun ((b64, c65, b67) : (Nat) × (Nat) × (Nat)) => fun σm => Hp S0 σ0 σm [Ch.bx n0 b67 0 [(I 0), (.slice none 0 0), (I 0)] [] [], Ch.ro 0 (Sl a46 xs44 c47) xs44, Ch.ro 0 (Sl ab_0 b_0 cb_0) b_0, Ch.own n0 n0 (Sl a35 s33.1 c36) s33.1] ∧ Md (cov []) σ34 σm, fun ((b64, c65, b67) : (Nat) × (Nat) × (Nat)) => fun σm => Hp S0 σ0 σm [Ch.bx n0 b67 0 [(I 0), (.slice none 0 0), (I 0)] [] [], Ch.own n0 n0 (Sl (some ⟨b64, 0, none⟩) xs62 c65) xs62, Ch.ro 0 (Sl a46 xs44 c47) xs44, Ch.ro 0 (Sl ab_0 b_0 cb_0) b_0, Ch.own n0 n0 (Sl a35 s33.1 c36) s33.1] ∧ Md (cov []) σ34 σm] [fun ((b64, c65, b67) : (Nat) × (Nat) × (Nat)) => (Sl a46 xs44 c47), fun ((b64, c65, b67) : (Nat) × (Nat) × (Nat)) => (pt b53 o54), fun ((b64, c65, b67) : (Nat) × (Nat) × (Nat)) => (.int .u8 (x50.toNat : Int)), fun ((b64, c65, b67) : (Nat) × (Nat) × (Nat)) => (I (w64 (x50.toNat : Int))), fun ((b64, c65, b67) : (Nat) × (Nat) × (Nat)) => (Sl a46 xs44 c47), fun ((b64, c65, b67) : (Nat) × (Nat) × (Nat)) => (pt b59 o60), fun ((b64, c65, b67) : (Nat) × (Nat) × (Nat)) => (.int .u8 (x56.toNat : Int)), fun ((b64, c65, b67) : (Nat) × (Nat) × (Nat)) => (I (w64 (x56.toNat : Int))), fun ((b64, c65, b67) : (Nat) × (Nat) × (Nat)) => (Sl (some ⟨b64, 0, none⟩) xs62 c65), fun ((b64, c65, b67) : (Nat) × (Nat) × (Nat)) => (.agg #[(I (w64 (x50.toNat : Int))), (Sl (some ⟨b64, 0, none⟩) xs62 c65), (I (w64 (x56.toNat : Int)))]), fun ((b64, c65, b67) : (Nat) × (Nat) × (Nat)) => (pt b67 0)] (0, 0, 0) (by kernel_rfl) (by kernel_rfl) ?_ ?_ ?_
     ·intro σm m0
      exact ⟨H.grow (m0.mono fun _ h => h.elim), m0⟩
     ·refine ac rfl (by
        intro k; rintro ⟨b64, c65, b67⟩ ρ σm hJ hoff hdep
        have e7 := look_off (N := 84) (hoff 7 rfl) rfl
        exact dp_v (v := (Sl a46 xs44 c47)) wn (rv_move e7) rfl hJ) ?_
      refine ac rfl (by
        intro k; rintro ⟨b64, c65, b67⟩ ρ σm hJ hoff hdep
        have e51 := hdep 0 rfl rfl 51 rfl
        exact dp_v (v := (pt b53 o54)) wn (rv_ix Tryd.underlying22 ti5 e51 rfl hi52) rfl hJ) ?_
      refine all_cons (by
        refine ⟨?_, ?_⟩
        ·rintro ⟨b64, c65, b67⟩ ρ σm hJ hoff hdep
         have e52 := hdep 1 rfl rfl 52 rfl
         obtain ⟨H, m⟩ := id hJ
         replace hc55 := (Hs.ro 0 rfl).hmd hx51 hi52 (k := 0) (by decide) hc55 m
         exact dp_v (v := (.int .u8 (x50.toNat : Int))) wn (rv_load1 Tryd.underlying5 rfl e52 hc55) rfl hJ
        refine ⟨?_, ?_⟩
        ·rintro ⟨b64, c65, b67⟩ ρ σm hJ hoff hdep
         have e52 := hdep 1 rfl rfl 52 rfl
         obtain ⟨H, m⟩ := id hJ
         replace hc55 := (Hs.ro 0 rfl).hmd hx51 hi52 (k := 0) (by decide) hc55 m
         exact dp_v (v := (.int .u8 (x50.toNat : Int))) wn (rv_load1 Tryd.underlying5 rfl e52 hc55) rfl hJ
        refine ⟨?_, ?_⟩
        ·rintro ⟨b64, c65, b67⟩ ρ σm hJ hoff hdep
         have e52 := hdep 1 rfl rfl 52 rfl
         obtain ⟨H, m⟩ := id hJ
         replace hc55 := (Hs.ro 0 rfl).hmd hx51 hi52 (k := 0) (by decide) hc55 m
         exact dp_v (v := (.int .u8 (x50.toNat : Int))) wn (rv_load1 Tryd.underlying5 rfl e52 hc55) rfl hJ
        refine ⟨?_, ?_⟩
        ·rintro ⟨b64, c65, b67⟩ ρ σm hJ hoff hdep
         have e52 := hdep 1 rfl rfl 52 rfl
         obtain ⟨H, m⟩ := id hJ
         replace hc55 := (Hs.ro 0 rfl).hmd hx51 hi52 (k := 0) (by decide) hc55 m
         exact dp_v (v := (.int .u8 (x50.toNat : Int))) wn (rv_load1 Tryd.underlying5 rfl e52 hc55) rfl hJ
        trivial) ?_
      refine ac rfl (by
        intro k; rintro ⟨b64, c65, b67⟩ ρ σm hJ hoff hdep
        have e53 := hdep 2 rfl rfl 53 rfl
        exact dp_v (v := (I (w64 (x50.toNat : Int)))) wn (rv_conv Tryd.underlying5 Tryd.underlying3 e53) rfl hJ) ?_
      refine ac rfl (by
        intro k; rintro ⟨b64, c65, b67⟩ ρ σm hJ hoff hdep
        have e7 := look_off (N := 84) (hoff 7 rfl) rfl
        exact dp_v (v := (Sl a46 xs44 c47)) wn (rv_move e7) rfl hJ) ?_
      refine ac rfl (by
        intro k; rintro ⟨b64, c65, b67⟩ ρ σm hJ hoff hdep
        have e55 := hdep 4 rfl rfl 55 rfl
        exact dp_v (v := (pt b59 o60)) wn (rv_ix Tryd.underlying22 ti5 e55 rfl hi58) rfl hJ) ?_
      refine all_cons (by
        refine ⟨?_, ?_⟩
        ·rintro ⟨b64, c65, b67⟩ ρ σm hJ hoff hdep
         have e56 := hdep 5 rfl rfl 56 rfl
         obtain ⟨H, m⟩ := id hJ
         replace hc61 := (Hs.ro 0 rfl).hmd hx57 hi58 (k := 0) (by decide) hc61 m
         exact dp_v (v := (.int .u8 (x56.toNat : Int))) wn (rv_load1 Tryd.underlying5 rfl e56 hc61) rfl hJ
        refine ⟨?_, ?_⟩
        ·rintro ⟨b64, c65, b67⟩ ρ σm hJ hoff hdep
         have e56 := hdep 5 rfl rfl 56 rfl
         obtain ⟨H, m⟩ := id hJ
         replace hc61 := (Hs.ro 0 rfl).hmd hx57 hi58 (k := 0) (by decide) hc61 m
         exact dp_v (v := (.int .u8 (x56.toNat : Int))) wn (rv_load1 Tryd.underlying5 rfl e56 hc61) rfl hJ
        refine ⟨?_, ?_⟩
        ·rintro ⟨b64, c65, b67⟩ ρ σm hJ hoff hdep
         have e56 := hdep 5 rfl rfl 56 rfl
         obtain ⟨H, m⟩ := id hJ
         replace hc61 := (Hs.ro 0 rfl).hmd hx57 hi58 (k := 0) (by decide) hc61 m
         exact dp_v (v := (.int .u8 (x56.toNat : Int))) wn (rv_load1 Tryd.underlying5 rfl e56 hc61) rfl hJ
        refine ⟨?_, ?_⟩
        ·rintro ⟨b64, c65, b67⟩ ρ σm hJ hoff hdep
         have e56 := hdep 5 rfl rfl 56 rfl
         obtain ⟨H, m⟩ := id hJ
         replace hc61 := (Hs.ro 0 rfl).hmd hx57 hi58 (k := 0) (by decide) hc61 m
         exact dp_v (v := (.int .u8 (x56.toNat : Int))) wn (rv_load1 Tryd.underlying5 rfl e56 hc61) rfl hJ
        trivial) ?_
      refine ac rfl (by
        intro k; rintro ⟨b64, c65, b67⟩ ρ σm hJ hoff hdep
        have e57 := hdep 6 rfl rfl 57 rfl
        exact dp_v (v := (I (w64 (x56.toNat : Int)))) wn (rv_conv Tryd.underlying5 Tryd.underlying3 e57) rfl hJ) ?_
      refine all_cons (by
        refine ⟨?_, ?_⟩
        ·rintro ⟨b64, c65, b67⟩ ρ σm hJ hoff hdep
         obtain ⟨H, m⟩ := id hJ
         refine dp_ex wn (ex_make (el := n0) (z0 := (0 : Int)) (zs := [(I 0)]) H hn0 Tryd.underlying37 ti3 rfl rfl rfl (by decide) hx63 rfl rfl) ?_
         rintro _ σq ⟨b64x, c65x, rfl, -, H2, m2⟩
         exact ⟨_, (b64x, c65x, b67), rfl, rfl, ⟨H2.sel' [0, 1, 2, 3] rfl rfl, m.comp0 m2⟩, stab [0, 1, 2, 3, 4, 5, 6, 7, 10] (by kernel_rfl) ⟨rfl, rfl, rfl, rfl, rfl, rfl, rfl, rfl, rfl, trivial⟩⟩
        refine ⟨?_, ?_⟩
        ·rintro ⟨b64, c65, b67⟩ ρ σm hJ hoff hdep
         obtain ⟨H, m⟩ := id hJ
         refine dp_ex wn (ex_make (el := n0) (z0 := (0 : Int)) (zs := [(I 0)]) H hn0 Tryd.underlying37 ti3 rfl rfl rfl (by decide) hx63 rfl rfl) ?_
         rintro _ σq ⟨b64x, c65x, rfl, -, H2, m2⟩
         exact ⟨_, (b64x, c65x, b67), rfl, rfl, ⟨H2.sel' [1, 0, 2, 3, 4] rfl rfl, m.comp0 m2⟩, stab [0, 1, 2, 3, 4, 5, 6, 7, 10] (by kernel_rfl) ⟨rfl, rfl, rfl, rfl, rfl, rfl, rfl, rfl, rfl, trivial⟩⟩
        trivial) ?_
      refine ac rfl (by
        intro k; rintro ⟨b64, c65, b67⟩ ρ σm hJ hoff hdep
        have e54 : look 84 ρ 54 = (I (w64 (x50.toNat : Int))) := hdep 3 rfl rfl 54 rfl
        have e58 : look 84 ρ 58 = (I (w64 (x56.toNat : Int))) := hdep 7 rfl rfl 58 rfl
        have e59 : look 84 ρ 59 = (Sl (some ⟨b64, 0, none⟩) xs62 c65) := hdep 8 rfl rfl 59 rfl
        exact dp_v (v := (.agg #[(I (w64 (x50.toNat : Int))), (Sl (some ⟨b64, 0, none⟩) xs62 c65), (I (w64 (x56.toNat : Int)))])) wn (rv_build (ps := [(0, (I (w64 (x50.toNat : Int)))), (2, (I (w64 (x56.toNat : Int)))), (1, (Sl (some ⟨b64, 0, none⟩) xs62 c65))]) Tryd.underlying39 ti39 (bp39 Tryd.underlying39) (by show [(0, look 84 ρ 54), (2, look 84 ρ 58), (1, look 84 ρ 59)] = _; rw [e54, e58, e59]) (by kernel_rfl)) rfl hJ) ?_
      refine all_cons (by
        refine ⟨?_, ?_⟩
        ·rintro ⟨b64, c65, b67⟩ ρ σm hJ hoff hdep
         obtain ⟨H, m⟩ := id hJ
         refine dp_ex wn (ex_alloc (cs := [(I 0), (.slice none 0 0), (I 0)]) H hn0 ti39 rfl) ?_
         rintro _ σq ⟨b67x, rfl, H2, m2⟩
         exact ⟨_, (b64, c65, b67x), rfl, rfl, ⟨H2.sel' [0, 1, 2, 3] rfl rfl, m.comp0 m2⟩, stab [0, 1, 2, 3, 4, 5, 6, 7, 8, 9] (by kernel_rfl) ⟨rfl, rfl, rfl, rfl, rfl, rfl, rfl, rfl, rfl, rfl, trivial⟩⟩
        refine ⟨?_, ?_⟩
        ·rintro ⟨b64, c65, b67⟩ ρ σm hJ hoff hdep
         obtain ⟨H, m⟩ := id hJ
         refine dp_ex wn (ex_alloc (cs := [(I 0), (.slice none 0 0), (I 0)]) H hn0 ti39 rfl) ?_
         rintro _ σq ⟨b67x, rfl, H2, m2⟩
         exact ⟨_, (b64, c65, b67x), rfl, rfl, ⟨H2.sel' [0, 1, 2, 3, 4] rfl rfl, m.comp0 m2⟩, stab [0, 1, 2, 3, 4, 5, 6, 7, 8, 9] (by kernel_rfl) ⟨rfl, rfl, rfl, rfl, rfl, rfl, rfl, rfl, rfl, rfl, trivial⟩⟩
        trivial) ?_
      exact all_nil
     ·rintro ⟨b64, c65, b67⟩ ρ σ68 hJ hoff hrel
      have e0 := look_off (N := 84) (hoff 0 rfl) rfl
      have e5 := look_off (N := 84) (hoff 5 rfl) rfl
      have e6 := look_off (N := 84) (hoff 6 rfl) rfl
      have e7 := look_off (N := 84) (hoff 7 rfl) rfl
      have e8 := hrel 10 rfl 8 rfl
      have e60 := hrel 9 rfl 60 rfl
      obtain ⟨H, -⟩ := (show Hp S0 σ0 σ68 [Ch.bx n0 b67 0 [(I 0), (.slice none 0 0), (I 0)] [] [], Ch.own n0 n0 (Sl (some ⟨b64, 0, none⟩) xs62 c65) xs62, Ch.ro 0 (Sl a46 xs44 c47) xs44, Ch.ro 0 (Sl ab_0 b_0 cb_0) b_0, Ch.own n0 n0 (Sl a35 s33.1 c36) s33.1] ∧ Md (cov []) σ34 σ68 from hJ)
      clear hJ Hs
      rw [fr_lookL (L := [(0, (Sl ab_0 b_0 cb_0)), (5, (Sl a35 s33.1 c36)), (6, (I s33.2)), (7, (Sl a46 xs44 c47)), (8, (pt b67 0)), (60, (.agg #[(I (w64 (x50.toNat : Int))), (Sl (some ⟨b64, 0, none⟩) xs62 c65), (I (w64 (x56.toNat : Int)))]))]) ⟨e0, e5, e6, e7, e8, e60, trivial⟩]
      clear hoff hrel e0 e5 e6 e7 e8 e60
      refine st_exS (ex_store_box (k := 0) (cs := [(I 0), (.slice none 0 0), (I 0)]) (vs := [(I (w64 (x50.toNat : Int))), (Sl (some ⟨b64, 0, none⟩) xs62 c65), (I (w64 (x56.toNat : Int)))]) (cs' := [(I (w64 (x50.toNat : Int))), (Sl (some ⟨b64, 0, none⟩) xs62 c65), (I (w64 (x56.toNat : Int)))]) H (i := 0) rfl ti39 rfl rfl rfl rfl rfl (Nat.le_of_ble_eq_true rfl) (by simp [plain]) rfl) wn ?_
      rintro σ69 ⟨H, -⟩
      refine w_end ?_
      refine q_then ?_
      refine c_seq ?_
      refine c_seq ?_
      refine rg ?_
      refine st (v := (I 0)) (rv_assign rfl) ?_
      refine w_end ?_
      refine q_then ?_
      obtain ⟨o70, hj, h'⟩ := bind_some h
      clear h
      refine c_cut (fun e a w => e = .normal ∧ ∃ (ρ : Nat → Value) (σ : St) (aj1 : Option Addr) (cj2 : Nat), a = fr 84 (updL ρ [(0, (Sl ab_0 b_0 cb_0)), (5, (Sl a35 s33.1 c36)), (6, (I s33.2)), (8, (pt b67 0))]) ∧ w = σ.w ∧ Hp S0 σ0 σ [Ch.bx n0 b67 0 [(I o70.1), (Sl aj1 o70.2.1 cj2), (I o70.2.2)] [] [], Ch.own n0 n0 (Sl aj1 o70.2.1 cj2) o70.2.1, Ch.ro 0 (Sl ab_0 b_0 cb_0) b_0, Ch.own n0 n0 (Sl a35 s33.1 c36) s33.1]) ?_ ?_
      ·clear h'
       rename _ = some o70 => h
       refine c_blk ?_
       refine wp_loopM _ h (fun s71 a w => ∃ (ρ : Nat → Value) (σ : St) (aj1 : Option Addr) (cj2 : Nat), a = fr 84 (updL ρ [(0, (Sl ab_0 b_0 cb_0)), (5, (Sl a35 s33.1 c36)), (6, (I s33.2)), (7, (Sl a46 xs44 c47)), (8, (pt b67 0)), (9, (I s71.2))]) ∧ w = σ.w ∧ Hp S0 σ0 σ [Ch.bx n0 b67 0 [(I s71.1.1), (Sl aj1 s71.1.2.1 cj2), (I s71.1.2.2)] [] [], Ch.own n0 n0 (Sl aj1 s71.1.2.1 cj2) s71.1.2.1, Ch.ro 0 (Sl ab_0 b_0 cb_0) b_0, Ch.own n0 n0 (Sl a35 s33.1 c36) s33.1, Ch.ro 0 (Sl a46 xs44 c47) xs44]) ⟨_, σ69, (some ⟨b64, 0, none⟩), c65, fr_join ⟨rfl, rfl, rfl, rfl, rfl, rfl, trivial⟩, rfl, H.sel' [0, 1, 3, 4, 2] rfl rfl⟩ ?_
       clear h H
       rintro s71 a w o ⟨ρ, σ72, a73, c74, rfl, rfl, H⟩ h hres
       refine c_seq ?_
       refine c_seq ?_
       refine rg ?_
       refine st (v := (I s71.2)) (rv_move rfl) ?_
       refine st (v := (B (decide (s71.2 < 4)))) (rv_lss (a := s71.2) (b := 4) rfl rfl) ?_
       refine w_end ?_
       refine q_then ?_
       refine cd_cond (decide (s71.2 < 4)) rfl (fun hb75 => ?_) (fun hb75 => ?_)
       ·replace h := bif_t hb75 h
        refine c_skip ?_
        refine q_then ?_
        refine c_seq ?_
        refine c_blk ?_
        refine rgP (σ := σ72) 10 (by kernel_rfl) (by kernel_rfl) (by kernel_rfl) ?_
        refine sq (v := (pt b67 1)) (rv_fieldAddr (off := 1) (ft := 37) Tryd.underlying39 rfl ti37 rfl rfl) ?_
        have hc76 := H.cell (u := (Sl a73 s71.1.2.1 c74)) (o' := 1) 0 1 rfl rfl rfl
        refine sq (v := (Sl a73 s71.1.2.1 c74)) (rv_load1 Tryd.underlying37 rfl rfl hc76) ?_
        refine sq (v := (I s71.2)) (rv_move rfl) ?_
        refine sq (v := (Sl a46 xs44 c47)) (rv_move rfl) ?_
        refine sq (v := (I s71.2)) (rv_move rfl) ?_
        refine sq (v := (I (w64 (2 + s71.2)))) (rv_add (a := 2) (b := s71.2) rfl rfl) ?_
        obtain ⟨x77, hx78, h'⟩ := bind_some h
        clear h
        have h := h'; clear h'
        obtain ⟨b80, o81, hi79, -⟩ := (H.ro 4 rfl).ix hx78
        refine sq (v := (pt b80 o81)) (rv_ix Tryd.underlying22 ti5 rfl rfl hi79) ?_
        have hc82 := ((H.ro 4 rfl).at hx78 hi79).byte
        refine sq (v := (.int .u8 (x77.toNat : Int))) (rv_load1 Tryd.underlying5 rfl rfl hc82) ?_
        refine sq (v := (I (w64 (x77.toNat : Int)))) (rv_conv Tryd.underlying5 Tryd.underlying3 rfl) ?_
        refine sq (v := (I (w64 ((w64 (x77.toNat : Int)) - 128)))) (rv_sub (a := (w64 (x77.toNat : Int))) (b := 128) rfl rfl) ?_
        refine sq_end ?_
        intro σ83 hm84
        replace H := H.grow (hm84.mono fun _ h => h); clear hm84
        obtain ⟨x85, hx86, h'⟩ := bind_some h
        clear h
        have h := h'; clear h'
        obtain ⟨b88, o89, hi87, -⟩ := (H.own 1 rfl).ix hx86
        refine st (v := (pt b88 o89)) (rv_ix Tryd.underlying37 ti3 rfl rfl hi87) ?_
        refine st_exS (ex_store_own (e' := (w64 ((w64 (x77.toNat : Int)) - 128))) (vs := [(I (w64 ((w64 (x77.toNat : Int)) - 128)))]) (k := 0) H (i := 1) rfl ti3 hx86 hi87 rfl rfl rfl rfl rfl (Nat.le_of_ble_eq_true rfl) (by simp [plain]) (by rintro _ rfl; exact rfl)) wn ?_
        rintro σ90 ⟨H, -⟩
        have hsl : (Sl a73 s71.1.2.1 c74) = (Sl a73 (s71.1.2.1.set s71.2.toNat (w64 ((w64 (x77.toNat : Int)) - 128))) c74) := sl_len List.length_set.symm
        rw [hsl]; rw [hsl] at H; clear hsl
        refine w_end ?_
        refine q_blk ?_
        refine q_then ?_
        refine rg ?_
        refine st (v := (I s71.2)) (rv_move rfl) ?_
        refine st (v := (I (w64 (s71.2 + 1)))) (rv_add (a := s71.2) (b := 1) rfl rfl) ?_
        refine st (v := (I (w64 (s71.2 + 1)))) (rv_assign rfl) ?_
        refine w_end ?_
        refine q_then ?_
        obtain rfl := Option.some.inj h
        exact ⟨_, rfl, _, σ90, a73, c74, fr_join ⟨rfl, rfl, rfl, rfl, rfl, rfl, trivial⟩, rfl, H.sel' [1, 0, 2, 3, 4] rfl rfl⟩
       ·replace h := bif_f hb75 h
        refine c_exit ?_
        refine q_then_x ?_
        refine q_then_x ?_
        refine q_blk_hit ?_
        obtain rfl := Option.some.inj h
        obtain rfl := hres _ rfl
        exact ⟨rfl, _, σ72, a73, c74, fr_join ⟨rfl, rfl, rfl, rfl, trivial⟩, rfl, H.sel' [0, 1, 2, 3] rfl rfl⟩
      ·clear hj
       have h := h'
       clear h' H
       rintro e a w ⟨rfl, ρ, σ91, a92, c93, rfl, rfl, H⟩
       refine q_then ?_
       refine rg ?_
       refine st (v := (Sl a35 s33.1 c36)) (rv_move rfl) ?_
       have hc94 := H.cells 0 rfl
       refine st (v := (.agg #[(I o70.1), (Sl a92 o70.2.1 c93), (I o70.2.2)])) (rv_load (cs := [(I o70.1), (Sl a92 o70.2.1 c93), (I o70.2.2)]) Tryd.underlying39 rfl ti39 rfl rfl hc94) ?_
       obtain ⟨σ95, hw96, H, -⟩ := H.pub 1 rfl (Nat.le_refl _)
       rw [← hw96]; clear hw96
       refine st_ex (ex_buildSlice (el := n0) (xs := ([(o70.1, o70.2.1, o70.2.2)] : List (Int × (List Int) × Int))) (ps := [(0, (.agg #[(I o70.1), (Sl a92 o70.2.1 c93), (I o70.2.2)]))]) (cs := [(I o70.1), (Sl a92 o70.2.1 c93), (I o70.2.2)]) H hn0 Tryd.underlying23 ti39 rfl rfl (by kernel_rfl) (.cons (c := [(I o70.1), (Sl a92 o70.2.1 c93), (I o70.2.2)]) ⟨[(I o70.1)], [(Sl a92 o70.2.1 c93), (I o70.2.2)], rfl, rfl, ⟨[(Sl a92 o70.2.1 c93)], [(I o70.2.2)], rfl, ⟨_, rfl, (H.ro 0 rfl)⟩, rfl⟩⟩ (.nil)) rfl) wn ?_
       rintro _ σ98 ⟨b97, rfl, H, -⟩
       obtain ⟨xs99, hx100, h'⟩ := bind_some h
       clear h
       have h := h'; clear h'
       refine st_ex (ex_append H (i := 4) rfl Tryd.underlying23 Tryd.underlying23 ti39 rfl rfl (by decide) (H.own 0 rfl).rd hx100 hn0 rfl rfl) wn ?_
       rintro _ σ103 ⟨a101, c102, rfl, H, -⟩
       refine st (v := (Sl a101 xs99 c102)) (rv_assign rfl) ?_
       refine w_end ?_
       refine q_blk ?_
       refine q_then ?_
       refine rg ?_
       refine st (v := (I s33.2)) (rv_move rfl) ?_
       refine st (v := (I (w64 (s33.2 + 1)))) (rv_add (a := s33.2) (b := 1) rfl rfl) ?_
       refine st (v := (I (w64 (s33.2 + 1)))) (rv_assign rfl) ?_
       refine w_end ?_
       refine q_then ?_
       obtain rfl := Option.some.inj h
       exact ⟨_, rfl, _, σ103, a101, c102, fr_join ⟨rfl, rfl, rfl, trivial⟩, rfl, H.sel' [4, 0] rfl rfl⟩
    ·replace h := bif_f hb43 h
     refine c_exit ?_
     refine q_then_x ?_
     refine q_then_x ?_
     refine q_blk_hit ?_
     obtain rfl := Option.some.inj h
     obtain rfl := hres _ rfl
     exact ⟨rfl, _, σ34, a35, c36, fr_join ⟨rfl, trivial⟩, rfl, H.sel' [1] rfl rfl⟩
   ·clear hj
    have h := h'
    clear h' H
    rintro e a w ⟨rfl, ρ, σ104, a105, c106, rfl, rfl, H⟩
    refine q_then ?_
    refine c_seq ?_
    refine c_seq ?_
    refine rg ?_
    refine st (v := (Sl a105 o32 c106)) (rv_move rfl) ?_
    obtain ⟨r107, hx108, h'⟩ := bind_some h
    clear h
    have h := h'; clear h'
    have hc109 := c_spec_validStore (alist_0 := a105) (clist_0 := c106) hx108
    have hle := Nat.le_trans hn0 H.size
    refine st_call (cx_lend (Loan.lend Loan.nil) hc109 (ent_f hc109.fn rfl) (show Hp S0 σ0 _ ([Ch.own n0 n0 (Sl a105 o32 c106) o32] ++ ([] ++ [])) from (H.sel' [0] rfl rfl)) (by rintro _ _ _ ⟨rfl, rfl⟩; exact trivial)) wn ?_
    rintro _ σ110 ⟨_, ⟨rfl, rfl⟩, H, -, -⟩
    replace H : Hp S0 σ0 σ110 [Ch.own n0 n0 (Sl a105 o32 c106) o32] := H
    clear hle
    replace H : Hp S0 σ0 σ110 [Ch.own n0 n0 (Sl a105 o32 c106) o32] := H
    refine st (v := (B (!r107))) (rv_not rfl) ?_
    refine w_end ?_
    refine q_then ?_
    refine cd_cond (!r107) rfl (fun hb111 => ?_) (fun hb111 => ?_)
    ·replace h := bif_t hb111 h
     refine c_seq ?_
     refine rg ?_
     refine st (v := (.slice none 0 0)) (rv_assign rfl) ?_
     refine st (v := (B false)) (rv_assign rfl) ?_
     refine w_end ?_
     refine q_then ?_
     refine c_ret ?_
     refine q_then_r ?_
     replace H := H.nilOwn (Int × (List Int) × Int) n0 n0
     obtain rfl := Option.some.inj h
     exact fin_ret (v := (.tuple #[(.slice none 0 0), (B false)])) (results_ok Tryd.results13 (res_tmp (v := (.slice none 0 0)) rfl (res_tmp (v := (B false)) rfl res_nil)) rfl) ⟨none, 0, rfl, rfl⟩ (H.sel' [0] rfl rfl)
    ·replace h := bif_f hb111 h
     refine c_skip ?_
     refine q_then ?_
     refine c_seq ?_
     refine rg ?_
     refine st (v := (Sl a105 o32 c106)) (rv_move rfl) ?_
     refine st (v := (Sl a105 o32 c106)) (rv_assign rfl) ?_
     refine st (v := (B true)) (rv_assign rfl) ?_
     refine w_end ?_
     refine q_then ?_
     refine c_ret ?_
     obtain rfl := Option.some.inj h
     exact fin_ret (v := (.tuple #[(Sl a105 o32 c106), (B true)])) (results_ok Tryd.results13 (res_tmp (v := (Sl a105 o32 c106)) rfl (res_tmp (v := (B true)) rfl res_nil)) rfl) ⟨a105, c106, rfl, rfl⟩ (H.sel' [0] rfl rfl)

theorem c_laws_FnPageCanonical {code_0 : List UInt8} {acode_0 : Option Addr} {ccode_0 : Nat} {ga : Nat → Addr} {r : Bool} (h : M.laws_FnPageCanonical code_0 = some r) :
    Cal2 Tryd.prog 4 [(Sl acode_0 code_0 ccode_0)] [Ch.ro 0 (Sl acode_0 code_0 ccode_0) code_0, Ch.gl 68 ga [1, 2, 0]] (fun n0 v L => v = (B r) ∧ L = []) := by
 refine cal2 (n := 44) Tryd.func4 rfl rfl rfl rfl ?_
 intro S0 σ0 n0 hn0 H
 unfold M.laws_FnPageCanonical at h
 refine c_seq ?_
 refine rg ?_
 refine st (v := (B false)) (rv_assign rfl) ?_
 refine w_end ?_
 refine q_then ?_
 refine c_seq ?_
 refine c_seq ?_
 refine rg ?_
 refine st (v := (Sl acode_0 code_0 ccode_0)) (rv_move rfl) ?_
 refine st (v := (I (code_0.length : Int))) (rv_len Tryd.underlying22 rfl) ?_
 refine st (v := (B (decide (1048576 < (code_0.length : Int))))) (rv_gtr (a := (code_0.length : Int)) (b := 1048576) rfl rfl) ?_
 refine w_end ?_
 refine q_then ?_
 refine cd_cond (decide (1048576 < (code_0.length : Int))) rfl (fun hb1 => ?_) (fun hb1 => ?_)
 ·replace h := bif_t hb1 h
  refine c_seq ?_
  refine rg ?_
  refine st (v := (B true)) (rv_assign rfl) ?_
  refine w_end ?_
  refine q_then ?_
  refine c_ret ?_
  refine q_then_r ?_
  obtain rfl := Option.some.inj h
  exact fin_ret (v := (B true)) (results_ok Tryd.results4 (res_tmp (v := (B true)) rfl res_nil) rfl) ⟨rfl, rfl⟩ (H.sel' [] rfl rfl)
 ·replace h := bif_f hb1 h
  refine c_skip ?_
  refine q_then ?_
  refine c_seq ?_
  refine rg ?_
  refine st (v := (Sl acode_0 code_0 ccode_0)) (rv_move rfl) ?_
  obtain ⟨r2, hx3, h'⟩ := bind_some h
  clear h
  have h := h'; clear h'
  have hc4 := c_spec_DrawParsePage (acode_0 := acode_0) (ccode_0 := ccode_0) hx3
  refine st_call (cx_call hc4 (ent_f hc4.fn rfl) hn0 (show Hp S0 σ0 _ ([Ch.ro 0 (Sl acode_0 code_0 ccode_0) code_0] ++ [Ch.ro 0 (Sl acode_0 code_0 ccode_0) code_0, Ch.gl 68 ga [1, 2, 0]]) from (H.sel' [0, 0, 1] rfl rfl))) wn ?_
  rintro _ σ7 ⟨_, ⟨a5, c6, rfl, rfl⟩, H, -⟩
  replace H : Hp S0 σ0 σ7 [Ch.own n0 n0 (Sl a5 r2 c6) r2, Ch.ro 0 (Sl acode_0 code_0 ccode_0) code_0, Ch.gl 68 ga [1, 2, 0]] := H
  refine st (v := (Sl a5 r2 c6)) (rv_assign rfl) ?_
  refine w_end ?_
  refine q_then ?_
  refine c_seq ?_
  refine rg ?_
  refine st (v := (Sl a5 r2 c6)) (rv_move rfl) ?_
  obtain ⟨r8, hx9, h'⟩ := bind_some h
  clear h
  have h := h'; clear h'
  have hc10 := c_impl_ParsePage (ab_0 := a5) (cb_0 := c6) (ga := ga) hx9
  have hle := Nat.le_trans hn0 H.size
  refine st_call (cx_lend (Loan.lend (Loan.same Loan.nil)) hc10 (ent_f hc10.fn rfl) (show Hp S0 σ0 _ ([Ch.own n0 n0 (Sl a5 r2 c6) r2] ++ ([Ch.gl 68 ga [1, 2, 0]] ++ [Ch.ro 0 (Sl acode_0 code_0 ccode_0) code_0, Ch.gl 68 ga [1, 2, 0]])) from (H.sel' [0, 2, 1, 2] rfl rfl)) (by rintro _ _ _ ⟨_, _, rfl, rfl⟩; exact ⟨Ab.own (Nat.le_refl _), trivial⟩)) wn ?_
  rintro _ σ13 ⟨_, ⟨a11, c12, rfl, rfl⟩, H, -, -⟩
  replace H : Hp S0 σ0 σ13 [Ch.own σ7.size σ7.size (Sl a11 r8.1 c12) r8.1, Ch.own n0 n0 (Sl a5 r2 c6) r2, Ch.ro 0 (Sl acode_0 code_0 ccode_0) code_0, Ch.gl 68 ga [1, 2, 0]] := H
  replace H := H.ownLow 0 n0 n0 rfl hle hle
  clear hle
  replace H : Hp S0 σ0 σ13 [Ch.own n0 n0 (Sl a11 r8.1 c12) r8.1, Ch.own n0 n0 (Sl a5 r2 c6) r2, Ch.ro 0 (Sl acode_0 code_0 ccode_0) code_0, Ch.gl 68 ga [1, 2, 0]] := H
  refine st (v := (.tuple #[(Sl a11 r8.1 c12), (B r8.2)])) (rv_move rfl) ?_
  refine st (v := (Sl a11 r8.1 c12)) (rv_extract rfl rfl) ?_
  refine st (v := (B r8.2)) (rv_extract rfl rfl) ?_
  refine st (v := (Sl a11 r8.1 c12)) (rv_assign rfl) ?_
  refine st (v := (B r8.2)) (rv_assign rfl) ?_
  refine w_end ?_
  refine q_then ?_
  refine c_seq ?_
  refine rg ?_
  refine st (v := (Sl a5 r2 c6)) (rv_move rfl) ?_
  obtain ⟨r14, hx15, h'⟩ := bind_some h
  clear h
  have h := h'; clear h'
  have hc16 := c_spec_ParsePage (ab_0 := a5) (cb_0 := c6) hx15
  have hle := Nat.le_trans hn0 H.size
  refine st_call (cx_lend (Loan.lend Loan.nil) hc16 (ent_f hc16.fn rfl) (show Hp S0 σ0 _ ([Ch.own n0 n0 (Sl a5 r2 c6) r2] ++ ([] ++ [Ch.own n0 n0 (Sl a11 r8.1 c12) r8.1, Ch.ro 0 (Sl acode_0 code_0 ccode_0) code_0, Ch.gl 68 ga [1, 2, 0]])) from (H.sel' [1, 0, 2, 3] rfl rfl)) (by rintro _ _ _ ⟨_, _, rfl, rfl⟩; exact ⟨Ab.own (Nat.le_refl _), trivial⟩)) wn ?_
  rintro _ σ19 ⟨_, ⟨a17, c18, rfl, rfl⟩, H, -, -⟩
  replace H : Hp S0 σ0 σ19 [Ch.own σ13.size σ13.size (Sl a17 r14.1 c18) r14.1, Ch.own n0 n0 (Sl a5 r2 c6) r2, Ch.own n0 n0 (Sl a11 r8.1 c12) r8.1, Ch.ro 0 (Sl acode_0 code_0 ccode_0) code_0, Ch.gl 68 ga [1, 2, 0]] := H
  replace H := H.ownLow 0 n0 n0 rfl hle hle
  clear hle
  replace H : Hp S0 σ0 σ19 [Ch.own n0 n0 (Sl a17 r14.1 c18) r14.1, Ch.own n0 n0 (Sl a5 r2 c6) r2, Ch.own n0 n0 (Sl a11 r8.1 c12) r8.1, Ch.ro 0 (Sl acode_0 code_0 ccode_0) code_0, Ch.gl 68 ga [1, 2, 0]] := H
  refine st (v := (.tuple #[(Sl a17 r14.1 c18), (B r14.2)])) (rv_move rfl) ?_
  refine st (v := (Sl a17 r14.1 c18)) (rv_extract rfl rfl) ?_
  refine st (v := (B r14.2)) (rv_extract rfl rfl) ?_
  refine st (v := (Sl a17 r14.1 c18)) (rv_assign rfl) ?_
  refine st (v := (B r14.2)) (rv_assign rfl) ?_
  refine w_end ?_
  refine q_then ?_
  refine c_seq ?_
  refine c_seq ?_
  obtain ⟨o20, hj, h'⟩ := bind_some h
  clear h
  refine c_cut (fun e a w => e = .normal ∧ ∃ (ρ : Nat → Value) (σ : St), a = fr 44 (updL ρ [(3, (Sl a5 r2 c6)), (4, (Sl a11 r8.1 c12)), (5, (B r8.2)), (31, (B o20))]) ∧ w = σ.w ∧ Hp S0 σ0 σ [Ch.own n0 n0 (Sl a5 r2 c6) r2, Ch.own n0 n0 (Sl a11 r8.1 c12) r8.1, Ch.gl 68 ga [1, 2, 0]]) ?_ ?_
  ·clear h'
   rename _ = some o20 => h
   refine rg ?_
   refine st (v := (Sl a11 r8.1 c12)) (rv_move rfl) ?_
   refine st (v := (Sl a17 r14.1 c18)) (rv_move rfl) ?_
   obtain ⟨σ21, hw22, H, -⟩ := H.pub 0 rfl (Nat.le_refl _)
   rw [← hw22]; clear hw22
   replace H := H.roLow 0 0 rfl (Nat.zero_le _)
   obtain ⟨r23, hx24, h'⟩ := bind_some h
   clear h
   have h := h'; clear h'
   have hc25 := c_laws_equalItems (aa_0 := a11) (ca_0 := c12) (ab_1 := a17) (cb_1 := c18) hx24
   have hle := Nat.le_trans hn0 H.size
   refine st_call (cx_lend (Loan.lend (Loan.same Loan.nil)) hc25 (ent_f hc25.fn rfl) (show Hp S0 σ0 _ ([Ch.own n0 n0 (Sl a11 r8.1 c12) r8.1] ++ ([Ch.ro 0 (Sl a17 r14.1 c18) r14.1] ++ [Ch.ro 0 (Sl a17 r14.1 c18) r14.1, Ch.ro n0 (Sl a17 r14.1 c18) r14.1, Ch.own n0 n0 (Sl a5 r2 c6) r2, Ch.ro 0 (Sl acode_0 code_0 ccode_0) code_0, Ch.gl 68 ga [1, 2, 0]])) from (H.sel' [3, 0, 0, 1, 2, 4, 5] rfl rfl)) (by rintro _ _ _ ⟨rfl, rfl⟩; exact trivial)) wn ?_
   rintro _ σ26 ⟨_, ⟨rfl, rfl⟩, H, -, -⟩
   replace H : Hp S0 σ0 σ26 [Ch.own n0 n0 (Sl a11 r8.1 c12) r8.1, Ch.ro 0 (Sl a17 r14.1 c18) r14.1, Ch.ro n0 (Sl a17 r14.1 c18) r14.1, Ch.own n0 n0 (Sl a5 r2 c6) r2, Ch.ro 0 (Sl acode_0 code_0 ccode_0) code_0, Ch.gl 68 ga [1, 2, 0]] := H
   clear hle
   replace H : Hp S0 σ0 σ26 [Ch.own n0 n0 (Sl a11 r8.1 c12) r8.1, Ch.ro 0 (Sl a17 r14.1 c18) r14.1, Ch.ro n0 (Sl a17 r14.1 c18) r14.1, Ch.own n0 n0 (Sl a5 r2 c6) r2, Ch.ro 0 (Sl acode_0 code_0 ccode_0) code_0, Ch.gl 68 ga [1, 2, 0]] := H
   refine st (v := (B (!r23))) (rv_not rfl) ?_
   refine st (v := (B (!r23))) (rv_move rfl) ?_
   rcases Bool.eq_false_or_eq_true (!r23) with hb27 | hb27
   ·replace h := bif_t hb27 h
    refine st_skip (congrArg some hb27) ?_
    refine st_skip (congrArg some hb27) ?_
    refine st_skip (congrArg some hb27) ?_
    refine st (v := (B true)) (rv_pick_t (congrArg B hb27) rfl) ?_
    refine w_end ?_
    obtain rfl := Option.some.inj h
    exact ⟨rfl, _, σ26, fr_join ⟨rfl, rfl, rfl, rfl, trivial⟩, rfl, H.sel' [3, 0, 5] rfl rfl⟩
   ·replace h := bif_f hb27 h
    refine st_g (v := (B r8.2)) (congrArg some hb27) (rv_move rfl) ?_
    refine st_g (v := (B r14.2)) (congrArg some hb27) (rv_move rfl) ?_
    refine st_g (v := (B (r8.2 != r14.2))) (congrArg some hb27) (rv_bneq Tryd.underlying4 rfl rfl) ?_
    refine st (v := (B (r8.2 != r14.2))) (rv_pick_f (congrArg B hb27) rfl) ?_
    refine w_end ?_
    obtain rfl := Option.some.inj h
    exact ⟨rfl, _, σ26, fr_join ⟨rfl, rfl, rfl, rfl, trivial⟩, rfl, H.sel' [3, 0, 5] rfl rfl⟩
  ·clear hj
   have h := h'
   clear h' H
   rintro e a w ⟨rfl, ρ, σ28, rfl, rfl, H⟩
   refine q_then ?_
   refine cd_cond o20 rfl (fun hb29 => ?_) (fun hb29 => ?_)
   ·replace h := bif_t hb29 h
    refine c_seq ?_
    refine rg ?_
    refine st (v := (B false)) (rv_assign rfl) ?_
    refine w_end ?_
    refine q_then ?_
    refine c_ret ?_
    refine q_then_r ?_
    obtain rfl := Option.some.inj h
    exact fin_ret (v := (B false)) (results_ok Tryd.results4 (res_tmp (v := (B false)) rfl res_nil) rfl) ⟨rfl, rfl⟩ (H.sel' [] rfl rfl)
   ·replace h := bif_f hb29 h
    refine c_skip ?_
    refine q_then ?_
    refine c_seq ?_
    refine rg ?_
    refine st (v := (B r8.2)) (rv_move rfl) ?_
    refine st (v := (B (!r8.2))) (rv_not rfl) ?_
    refine st (v := (B (!r8.2))) (rv_move rfl) ?_
    rcases Bool.eq_false_or_eq_true (!r8.2) with hb30 | hb30
    ·replace h := bif_t hb30 h
     refine st_skip (congrArg some hb30) ?_
     refine st_skip (congrArg some hb30) ?_
     refine st_skip (congrArg some hb30) ?_
     refine st_skip (congrArg some hb30) ?_
     refine st_skip (congrArg some hb30) ?_
     refine st_skip_u rfl ?_
     refine st_skip_u rfl ?_
     refine st_skip (congrArg some hb30) ?_
     refine st (v := (B true)) (rv_pick_t (congrArg B hb30) rfl) ?_
     refine st (v := (B true)) (rv_assign rfl) ?_
     refine w_end ?_
     refine q_then ?_
     refine c_ret ?_
     obtain rfl := Option.some.inj h
     exact fin_ret (v := (B true)) (results_ok Tryd.results4 (res_tmp (v := (B true)) rfl res_nil) rfl) ⟨rfl, rfl⟩ (H.sel' [] rfl rfl)
    ·replace h := bif_f hb30 h
     refine st_g (v := (Sl a11 r8.1 c12)) (congrArg some hb30) (rv_move rfl) ?_
     obtain ⟨r31, hx32, h'⟩ := bind_some h
     clear h
     have h := h'; clear h'
     have hc33 := c_impl_FormatPage (alist_0 := a11) (clist_0 := c12) hx32
     have hle := Nat.le_trans hn0 H.size
     refine st_call (cx_lend (Loan.lend Loan.nil) hc33 (ent_f hc33.fn rfl) (show Hp S0 σ0 _ ([Ch.own n0 n0 (Sl a11 r8.1 c12) r8.1] ++ ([] ++ [Ch.own n0 n0 (Sl a5 r2 c6) r2, Ch.gl 68 ga [1, 2, 0]])) from (H.sel' [1, 0, 2] rfl rfl)) (by rintro _ _ _ ⟨_, _, rfl, rfl⟩; exact ⟨Ab.ownSc, trivial⟩)) (wanted_yes rfl (by exact (congrArg some hb30))) ?_
     rintro _ σ36 ⟨_, ⟨a34, c35, rfl, rfl⟩, H, -, -⟩
     replace H : Hp S0 σ0 σ36 [Ch.own σ28.size σ28.size (Sl a34 r31 c35) r31, Ch.own n0 n0 (Sl a11 r8.1 c12) r8.1, Ch.own n0 n0 (Sl a5 r2 c6) r2, Ch.gl 68 ga [1, 2, 0]] := H
     replace H := H.ownLow 0 n0 n0 rfl hle hle
     clear hle
     replace H : Hp S0 σ0 σ36 [Ch.own n0 n0 (Sl a34 r31 c35) r31, Ch.own n0 n0 (Sl a11 r8.1 c12) r8.1, Ch.own n0 n0 (Sl a5 r2 c6) r2, Ch.gl 68 ga [1, 2, 0]] := H
     refine st_g (v := (Sl a5 r2 c6)) (congrArg some hb30) (rv_move rfl) ?_
     obtain ⟨σ37, hw38, H, -⟩ := H.pub 0 rfl (Nat.le_refl _)
     rw [← hw38]; clear hw38
     obtain ⟨σ39, hw40, H, -⟩ := H.pub 2 rfl (Nat.le_refl _)
     rw [← hw40]; clear hw40
     replace H := H.roLow 1 0 rfl (Nat.zero_le _)
     replace H := H.roLow 1 0 rfl (Nat.zero_le _)
     obtain ⟨r41, hx42, h'⟩ := bind_some h
     clear h
     have h := h'; clear h'
     have hc43 := c_laws_equalBytes (aa_0 := a34) (ca_0 := c35) (ab_1 := a5) (cb_1 := c6) hx42
     refine st_call (cx_call hc43 (ent_f hc43.fn rfl) hn0 (show Hp S0 σ0 _ ([Ch.ro 0 (Sl a34 r31 c35) r31, Ch.ro 0 (Sl a5 r2 c6) r2] ++ [Ch.ro 0 (Sl a5 r2 c6) r2, Ch.ro 0 (Sl a34 r31 c35) r31, Ch.ro n0 (Sl a5 r2 c6) r2, Ch.ro n0 (Sl a34 r31 c35) r31, Ch.own n0 n0 (Sl a11 r8.1 c12) r8.1, Ch.gl 68 ga [1, 2, 0]]) from (H.sel' [1, 0, 0, 1, 2, 3, 4, 5] rfl rfl))) (wanted_yes rfl (by exact (congrArg some hb30))) ?_
     rintro _ σ44 ⟨_, ⟨rfl, rfl⟩, H, -⟩
     replace H : Hp S0 σ0 σ44 [Ch.ro 0 (Sl a5 r2 c6) r2, Ch.ro 0 (Sl a34 r31 c35) r31, Ch.ro n0 (Sl a5 r2 c6) r2, Ch.ro n0 (Sl a34 r31 c35) r31, Ch.own n0 n0 (Sl a11 r8.1 c12) r8.1, Ch.gl 68 ga [1, 2, 0]] := H
     refine st_g (v := (B r41)) (congrArg some hb30) (rv_move rfl) ?_
     rcases Bool.eq_false_or_eq_true r41 with hb45 | hb45
     ·replace h := bif_t hb45 h
      refine st_g (v := (Sl a11 r8.1 c12)) (congrArg some hb45) (rv_move rfl) ?_
      obtain ⟨σ46, hw47, H, -⟩ := H.pub 4 rfl (Nat.le_refl _)
      rw [← hw47]; clear hw47
      replace H := H.roLow 0 0 rfl (Nat.zero_le _)
      obtain ⟨r48, hx49, h'⟩ := bind_some h
      clear h
      have h := h'; clear h'
      have hc50 := c_impl_ValidStore (alist_0 := a11) (clist_0 := c12) hx49
      refine st_call (cx_call hc50 (ent_f hc50.fn rfl) hn0 (show Hp S0 σ0 _ ([Ch.ro 0 (Sl a11 r8.1 c12) r8.1] ++ [Ch.ro 0 (Sl a11 r8.1 c12) r8.1, Ch.ro n0 (Sl a11 r8.1 c12) r8.1, Ch.ro 0 (Sl a5 r2 c6) r2, Ch.ro 0 (Sl a34 r31 c35) r31, Ch.ro n0 (Sl a5 r2 c6) r2, Ch.ro n0 (Sl a34 r31 c35) r31, Ch.gl 68 ga [1, 2, 0]]) from (H.sel' [0, 0, 1, 2, 3, 4, 5, 6] rfl rfl))) (wanted_yes rfl (by exact (congrArg some hb45))) ?_
      rintro _ σ51 ⟨_, ⟨rfl, rfl⟩, H, -⟩
      replace H : Hp S0 σ0 σ51 [Ch.ro 0 (Sl a11 r8.1 c12) r8.1, Ch.ro n0 (Sl a11 r8.1 c12) r8.1, Ch.ro 0 (Sl a5 r2 c6) r2, Ch.ro 0 (Sl a34 r31 c35) r31, Ch.ro n0 (Sl a5 r2 c6) r2, Ch.ro n0 (Sl a34 r31 c35) r31, Ch.gl 68 ga [1, 2, 0]] := H
      refine st_g (v := (B r48)) (congrArg some hb30) (rv_pick_t (congrArg B hb45) rfl) ?_
      refine st (v := (B r48)) (rv_pick_f (congrArg B hb30) rfl) ?_
      refine st (v := (B r48)) (rv_assign rfl) ?_
      refine w_end ?_
      refine q_then ?_
      refine c_ret ?_
      obtain rfl := Option.some.inj h
      exact fin_ret (v := (B r48)) (results_ok Tryd.results4 (res_tmp (v := (B r48)) rfl res_nil) rfl) ⟨rfl, rfl⟩ (H.sel' [] rfl rfl)
     ·replace h := bif_f hb45 h
      refine st_skip (congrArg some hb45) ?_
      refine st_skip (congrArg some hb45) ?_
      refine st_g (v := (B false)) (congrArg some hb30) (rv_pick_f (congrArg B hb45) rfl) ?_
      refine st (v := (B false)) (rv_pick_f (congrArg B hb30) rfl) ?_
      refine st (v := (B false)) (rv_assign rfl) ?_
      refine w_end ?_
      refine q_then ?_
      refine c_ret ?_
      obtain rfl := Option.some.inj h
      exact fin_ret (v := (B false)) (results_ok Tryd.results4 (res_tmp (v := (B false)) rfl res_nil) rfl) ⟨rfl, rfl⟩ (H.sel' [] rfl rfl)

end Go.Vs
