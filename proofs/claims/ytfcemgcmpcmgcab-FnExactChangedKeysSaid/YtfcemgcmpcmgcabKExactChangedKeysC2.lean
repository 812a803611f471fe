/- The functions compute what their models say. -/
import Derived.Test.YtfcemgcmpcmgcabKExactChangedKeysC1
set_option linter.unusedVariables false
set_option linter.unusedSimpArgs false
set_option maxRecDepth 20000
namespace Go.Vs
open Go Go.Proofs
attribute [local irreducible] Code.wp Code.wpIn wpList wpListIn wpQuiet Calls CallsIn

theorem c_impl_PutItem {list_0 : List (Int × (List Int) × Int)} {x_1 : Int × (List Int) × Int} {alist_0 : Option Addr} {clist_0 : Nat} {ax_1_1 : Option Addr} {cx_1_1 : Nat} {r : (List (Int × (List Int) × Int)) × Bool} (h : M.impl_PutItem list_0 x_1 = some r) :
    Cal2 Try.prog 136 [(Sl alist_0 list_0 clist_0), (.agg #[(I x_1.1), (Sl ax_1_1 x_1.2.1 cx_1_1), (I x_1.2.2)])] [Ch.ro 0 (Sl alist_0 list_0 clist_0) list_0, Ch.ro 0 (Sl ax_1_1 x_1.2.1 cx_1_1) x_1.2.1] (fun n0 v L => ∃ (az1 : Option Addr), ∃ (cz2 : Nat), v = (.tuple #[(Sl az1 r.1 cz2), (B r.2)]) ∧ L = [Ch.own 0 0 (Sl az1 r.1 cz2) r.1]) := by
 refine cal2 (n := 43) Try.func136 rfl rfl rfl rfl ?_
 intro S0 σ0 n0 hn0 H
 unfold M.impl_PutItem at h
 refine c_seq ?_
 refine rg ?_
 refine st_ex (ex_box (cs := [(I x_1.1), (Sl ax_1_1 x_1.2.1 cx_1_1), (I x_1.2.2)]) H hn0 rfl rfl) wn ?_
 rintro _ σ2 ⟨b1, rfl, H, -⟩
 refine st (v := (.slice none 0 0)) (rv_assign rfl) ?_
 refine st (v := (B false)) (rv_assign rfl) ?_
 refine w_end ?_
 refine q_then ?_
 refine c_seq ?_
 refine c_seq ?_
 obtain ⟨o3, hj, h'⟩ := bind_some h
 clear h
 refine c_cut (fun e a w => e = .normal ∧ ∃ (ρ : Nat → Value) (σ : St), a = fr 43 (updL ρ [(0, (Sl alist_0 list_0 clist_0)), (3, (pt b1 0)), (16, (B o3))]) ∧ w = σ.w ∧ Hp S0 σ0 σ [Ch.ro 0 (Sl alist_0 list_0 clist_0) list_0, Ch.ro 0 (Sl ax_1_1 x_1.2.1 cx_1_1) x_1.2.1, Ch.bx n0 b1 0 [(I x_1.1), (Sl ax_1_1 x_1.2.1 cx_1_1), (I x_1.2.2)] [] []]) ?_ ?_
 ·clear h'
  rename _ = some o3 => h
  refine rg ?_
  refine st (v := (Sl alist_0 list_0 clist_0)) (rv_move rfl) ?_
  obtain ⟨r4, hx5, h'⟩ := bind_some h
  clear h
  have h := h'; clear h'
  have hc6 := c_impl_ValidStore (alist_0 := alist_0) (clist_0 := clist_0) hx5
  refine st_call (cx_call hc6 (ent_f hc6.fn rfl) hn0 (show Hp S0 σ0 _ ([Ch.ro 0 (Sl alist_0 list_0 clist_0) list_0] ++ [Ch.bx n0 b1 0 [(I x_1.1), (Sl ax_1_1 x_1.2.1 cx_1_1), (I x_1.2.2)] [] [], Ch.ro 0 (Sl alist_0 list_0 clist_0) list_0, Ch.ro 0 (Sl ax_1_1 x_1.2.1 cx_1_1) x_1.2.1]) from (H.sel' [1, 0, 1, 2] rfl rfl))) wn ?_
  rintro _ σ7 ⟨_, ⟨rfl, rfl⟩, H, -⟩
  replace H : Hp S0 σ0 σ7 [Ch.bx n0 b1 0 [(I x_1.1), (Sl ax_1_1 x_1.2.1 cx_1_1), (I x_1.2.2)] [] [], Ch.ro 0 (Sl alist_0 list_0 clist_0) list_0, Ch.ro 0 (Sl ax_1_1 x_1.2.1 cx_1_1) x_1.2.1] := H
  refine st (v := (B (!r4))) (rv_not rfl) ?_
  refine st (v := (B (!r4))) (rv_move rfl) ?_
  rcases Bool.eq_false_or_eq_true (!r4) with hb8 | hb8
  ·replace h := bif_t hb8 h
   refine st_skip (congrArg some hb8) ?_
   refine st_skip (congrArg some hb8) ?_
   refine st_skip (congrArg some hb8) ?_
   refine st (v := (B true)) (rv_pick_t (congrArg B hb8) rfl) ?_
   refine w_end ?_
   obtain rfl := Option.some.inj h
   exact ⟨rfl, _, σ7, fr_join ⟨rfl, rfl, rfl, trivial⟩, rfl, H.sel' [1, 2, 0] rfl rfl⟩
  ·replace h := bif_f hb8 h
   have hc9 := H.cells 0 rfl
   refine st_g (v := (.agg #[(I x_1.1), (Sl ax_1_1 x_1.2.1 cx_1_1), (I x_1.2.2)])) (congrArg some hb8) (rv_load (cs := [(I x_1.1), (Sl ax_1_1 x_1.2.1 cx_1_1), (I x_1.2.2)]) Try.underlying36 rfl ti36 rfl rfl hc9) ?_
   obtain ⟨r10, hx11, h'⟩ := bind_some h
   clear h
   have h := h'; clear h'
   have hc12 := c_impl_validItem (ax_0_1 := ax_1_1) (cx_0_1 := cx_1_1) hx11
   refine st_call (cx_call hc12 (ent_f hc12.fn rfl) hn0 (show Hp S0 σ0 _ ([Ch.ro 0 (Sl ax_1_1 x_1.2.1 cx_1_1) x_1.2.1] ++ [Ch.bx n0 b1 0 [(I x_1.1), (Sl ax_1_1 x_1.2.1 cx_1_1), (I x_1.2.2)] [] [], Ch.ro 0 (Sl alist_0 list_0 clist_0) list_0, Ch.ro 0 (Sl ax_1_1 x_1.2.1 cx_1_1) x_1.2.1]) from (H.sel' [2, 0, 1, 2] rfl rfl))) (wanted_yes rfl (by exact (congrArg some hb8))) ?_
   rintro _ σ13 ⟨_, ⟨rfl, rfl⟩, H, -⟩
   replace H : Hp S0 σ0 σ13 [Ch.bx n0 b1 0 [(I x_1.1), (Sl ax_1_1 x_1.2.1 cx_1_1), (I x_1.2.2)] [] [], Ch.ro 0 (Sl alist_0 list_0 clist_0) list_0, Ch.ro 0 (Sl ax_1_1 x_1.2.1 cx_1_1) x_1.2.1] := H
   refine st_g (v := (B (!r10))) (congrArg some hb8) (rv_not rfl) ?_
   refine st (v := (B (!r10))) (rv_pick_f (congrArg B hb8) rfl) ?_
   refine w_end ?_
   obtain rfl := Option.some.inj h
   exact ⟨rfl, _, σ13, fr_join ⟨rfl, rfl, rfl, trivial⟩, rfl, H.sel' [1, 2, 0] rfl rfl⟩
 ·clear hj
  have h := h'
  clear h' H
  rintro e a w ⟨rfl, ρ, σ14, rfl, rfl, H⟩
  refine q_then ?_
  refine cd_cond o3 rfl (fun hb15 => ?_) (fun hb15 => ?_)
  ·replace h := bif_t hb15 h
   refine c_seq ?_
   refine rg ?_
   refine st (v := (.slice none 0 0)) (rv_assign rfl) ?_
   refine st (v := (B false)) (rv_assign rfl) ?_
   refine w_end ?_
   refine q_then ?_
   refine c_ret ?_
   refine q_then_r ?_
   replace H := H.nilOwn (Int × (List Int) × Int) 0 0
   obtain rfl := Option.some.inj h
   exact fin_ret (v := (.tuple #[(.slice none 0 0), (B false)])) (results_ok Try.results136 (res_tmp (v := (.slice none 0 0)) rfl (res_tmp (v := (B false)) rfl res_nil)) rfl) ⟨none, 0, rfl, rfl⟩ (H.sel' [0] rfl rfl)
  ·replace h := bif_f hb15 h
   refine c_skip ?_
   refine q_then ?_
   refine c_seq ?_
   refine rg ?_
   refine st (v := (Sl alist_0 list_0 clist_0)) (rv_move rfl) ?_
   refine st (v := (pt b1 0)) (rv_fieldAddr (off := 0) (ft := 3) Try.underlying36 rfl ti3 rfl rfl) ?_
   have hc16 := H.cell (u := (I x_1.1)) (o' := 0) 2 0 rfl rfl rfl
   refine st (v := (I x_1.1)) (rv_load1 Try.underlying3 rfl rfl hc16) ?_
   obtain ⟨r17, hx18, h'⟩ := bind_some h
   clear h
   have h := h'; clear h'
   have hc19 := c_impl_placeOf (alist_0 := alist_0) (clist_0 := clist_0) hx18
   refine st_call (cx_call hc19 (ent_f hc19.fn rfl) hn0 (show Hp S0 σ0 _ ([Ch.ro 0 (Sl alist_0 list_0 clist_0) list_0] ++ [Ch.ro 0 (Sl alist_0 list_0 clist_0) list_0, Ch.ro 0 (Sl ax_1_1 x_1.2.1 cx_1_1) x_1.2.1, Ch.bx n0 b1 0 [(I x_1.1), (Sl ax_1_1 x_1.2.1 cx_1_1), (I x_1.2.2)] [] []]) from (H.sel' [0, 0, 1, 2] rfl rfl))) wn ?_
   rintro _ σ20 ⟨_, ⟨rfl, rfl⟩, H, -⟩
   replace H : Hp S0 σ0 σ20 [Ch.ro 0 (Sl alist_0 list_0 clist_0) list_0, Ch.ro 0 (Sl ax_1_1 x_1.2.1 cx_1_1) x_1.2.1, Ch.bx n0 b1 0 [(I x_1.1), (Sl ax_1_1 x_1.2.1 cx_1_1), (I x_1.2.2)] [] []] := H
   refine st (v := (.tuple #[(I r17.1), (B r17.2)])) (rv_move rfl) ?_
   refine st (v := (I r17.1)) (rv_extract rfl rfl) ?_
   refine st (v := (B r17.2)) (rv_extract rfl rfl) ?_
   refine st (v := (I r17.1)) (rv_assign rfl) ?_
   refine st (v := (B r17.2)) (rv_assign rfl) ?_
   refine w_end ?_
   refine q_then ?_
   refine c_seq ?_
   refine c_seq ?_
   refine rg ?_
   refine st (v := (B r17.2)) (rv_move rfl) ?_
   refine w_end ?_
   refine q_then ?_
   refine cd_cond r17.2 rfl (fun hb21 => ?_) (fun hb21 => ?_)
   ·replace h := bif_t hb21 h
    refine c_seq ?_
    refine rg ?_
    refine st (v := (Sl alist_0 list_0 clist_0)) (rv_move rfl) ?_
    obtain ⟨r22, hx23, h'⟩ := bind_some h
    clear h
    have h := h'; clear h'
    have hc24 := c_impl_copyItems (alist_0 := alist_0) (clist_0 := clist_0) hx23
    refine st_call (cx_call hc24 (ent_f hc24.fn rfl) hn0 (show Hp S0 σ0 _ ([Ch.ro 0 (Sl alist_0 list_0 clist_0) list_0] ++ [Ch.ro 0 (Sl alist_0 list_0 clist_0) list_0, Ch.ro 0 (Sl ax_1_1 x_1.2.1 cx_1_1) x_1.2.1, Ch.bx n0 b1 0 [(I x_1.1), (Sl ax_1_1 x_1.2.1 cx_1_1), (I x_1.2.2)] [] []]) from (H.sel' [0, 0, 1, 2] rfl rfl))) wn ?_
    rintro _ σ28 ⟨_, ⟨a25, c26, rfl, rfl, ht27⟩, H, -⟩
    replace H : Hp S0 σ0 σ28 [Ch.own n0 n0 (Sl a25 r22 c26) r22, Ch.ro 0 (Sl alist_0 list_0 clist_0) list_0, Ch.ro 0 (Sl ax_1_1 x_1.2.1 cx_1_1) x_1.2.1, Ch.bx n0 b1 0 [(I x_1.1), (Sl ax_1_1 x_1.2.1 cx_1_1), (I x_1.2.2)] [] []] := H
    refine st (v := (Sl a25 r22 c26)) (rv_assign rfl) ?_
    refine w_end ?_
    refine q_then ?_
    refine c_seq ?_
    refine rg ?_
    refine st (v := (Sl a25 r22 c26)) (rv_move rfl) ?_
    refine st (v := (I r17.1)) (rv_move rfl) ?_
    have hc29 := H.cells 3 rfl
    refine st (v := (.agg #[(I x_1.1), (Sl ax_1_1 x_1.2.1 cx_1_1), (I x_1.2.2)])) (rv_load (cs := [(I x_1.1), (Sl ax_1_1 x_1.2.1 cx_1_1), (I x_1.2.2)]) Try.underlying36 rfl ti36 rfl rfl hc29) ?_
    obtain ⟨r30, hx31, h'⟩ := bind_some h
    clear h
    have h := h'; clear h'
    have hc32 := c_impl_copyItem (ax_0_1 := ax_1_1) (cx_0_1 := cx_1_1) hx31
    refine st_call (cx_call hc32 (ent_f hc32.fn rfl) hn0 (show Hp S0 σ0 _ ([Ch.ro 0 (Sl ax_1_1 x_1.2.1 cx_1_1) x_1.2.1] ++ [Ch.own n0 n0 (Sl a25 r22 c26) r22, Ch.ro 0 (Sl alist_0 list_0 clist_0) list_0, Ch.ro 0 (Sl ax_1_1 x_1.2.1 cx_1_1) x_1.2.1, Ch.bx n0 b1 0 [(I x_1.1), (Sl ax_1_1 x_1.2.1 cx_1_1), (I x_1.2.2)] [] []]) from (H.sel' [2, 0, 1, 2, 3] rfl rfl))) wn ?_
    rintro _ σ35 ⟨_, ⟨a33, c34, rfl, rfl⟩, H, -⟩
    replace H : Hp S0 σ0 σ35 [Ch.own n0 n0 (Sl a33 r30.2.1 c34) r30.2.1, Ch.own n0 n0 (Sl a25 r22 c26) r22, Ch.ro 0 (Sl alist_0 list_0 clist_0) list_0, Ch.ro 0 (Sl ax_1_1 x_1.2.1 cx_1_1) x_1.2.1, Ch.bx n0 b1 0 [(I x_1.1), (Sl ax_1_1 x_1.2.1 cx_1_1), (I x_1.2.2)] [] []] := H
    obtain ⟨x36, hx37, h'⟩ := bind_some h
    clear h
    have h := h'; clear h'
    obtain ⟨b39, o40, hi38, -⟩ := (H.own 1 rfl).ix hx37
    refine st (v := (pt b39 o40)) (rv_ix Try.underlying32 ti36 rfl rfl hi38) ?_
    obtain ⟨σ41, hw42, H, -⟩ := H.pub 0 rfl (Nat.le_refl _)
    rw [← hw42]; clear hw42
    refine st_exS (ex_store_own (e' := (r30.1, r30.2.1, r30.2.2)) (vs := [(I r30.1), (Sl a33 r30.2.1 c34), (I r30.2.2)]) (k := 0) H (i := 1) rfl ti36 hx37 hi38 rfl rfl rfl rfl rfl (Nat.le_of_ble_eq_true rfl) (by simp [plain]) (by rintro _ ⟨_, _, rfl, rfl, ⟨_, _, rfl, ⟨_, rfl, hR45⟩, rfl⟩⟩; exact ⟨[(I r30.1)], [(Sl a33 r30.2.1 c34), (I r30.2.2)], rfl, rfl, ⟨[(Sl a33 r30.2.1 c34)], [(I r30.2.2)], rfl, ⟨_, rfl, (H.ro 0 rfl)⟩, rfl⟩⟩)) wn ?_
    rintro σ46 ⟨H, -⟩
    have hsl : (Sl a25 r22 c26) = (Sl a25 (r22.set r17.1.toNat (r30.1, r30.2.1, r30.2.2)) c26) := sl_len List.length_set.symm
    rw [hsl]; rw [hsl] at H; clear hsl
    refine w_end ?_
    refine q_then ?_
    refine c_seq ?_
    refine rg ?_
    refine st (v := (Sl a25 (r22.set r17.1.toNat (r30.1, r30.2.1, r30.2.2)) c26)) (rv_move rfl) ?_
    refine st (v := (Sl a25 (r22.set r17.1.toNat (r30.1, r30.2.1, r30.2.2)) c26)) (rv_assign rfl) ?_
    refine st (v := (B true)) (rv_assign rfl) ?_
    refine w_end ?_
    refine q_then ?_
    refine c_ret ?_
    refine q_then_r ?_
    replace H := H.ownLow 0 0 0 rfl (Nat.zero_le _) (Nat.zero_le _)
    obtain rfl := Option.some.inj h
    exact fin_ret (v := (.tuple #[(Sl a25 (r22.set r17.1.toNat (r30.1, r30.2.1, r30.2.2)) c26), (B true)])) (results_ok Try.results136 (res_tmp (v := (Sl a25 (r22.set r17.1.toNat (r30.1, r30.2.1, r30.2.2)) c26)) rfl (res_tmp (v := (B true)) rfl res_nil)) rfl) ⟨a25, c26, rfl, rfl⟩ (H.sel' [0] rfl rfl)
   ·replace h := bif_f hb21 h
    refine c_skip ?_
    refine q_then ?_
    refine c_seq ?_
    refine c_seq ?_
    refine rg ?_
    refine st (v := (Sl alist_0 list_0 clist_0)) (rv_move rfl) ?_
    refine st (v := (I (list_0.length : Int))) (rv_len Try.underlying32 rfl) ?_
    refine st (v := (B ((list_0.length : Int) == 16))) (rv_eql (a := (list_0.length : Int)) (b := 16) rfl rfl) ?_
    refine w_end ?_
    refine q_then ?_
    refine cd_cond ((list_0.length : Int) == 16) rfl (fun hb47 => ?_) (fun hb47 => ?_)
    ·replace h := bif_t hb47 h
     refine c_seq ?_
     refine rg ?_
     refine st (v := (.slice none 0 0)) (rv_assign rfl) ?_
     refine st (v := (B false)) (rv_assign rfl) ?_
     refine w_end ?_
     refine q_then ?_
     refine c_ret ?_
     refine q_then_r ?_
     replace H := H.nilOwn (Int × (List Int) × Int) 0 0
     obtain rfl := Option.some.inj h
     exact fin_ret (v := (.tuple #[(.slice none 0 0), (B false)])) (results_ok Try.results136 (res_tmp (v := (.slice none 0 0)) rfl (res_tmp (v := (B false)) rfl res_nil)) rfl) ⟨none, 0, rfl, rfl⟩ (H.sel' [0] rfl rfl)
    ·replace h := bif_f hb47 h
     refine c_skip ?_
     refine q_then ?_
     refine c_seq ?_
     obtain ⟨r48, hx49, h'⟩ := bind_some h
     clear h
     have h := h'; clear h'
     have hc50 := c_impl_copyItems (alist_0 := alist_0) (clist_0 := clist_0) hx49
     have hc54 := H.cells 2 rfl
     obtain ⟨r55, hx56, h'⟩ := bind_some h
     clear h
     have h := h'; clear h'
     have hc57 := c_impl_copyItem (ax_0_1 := ax_1_1) (cx_0_1 := cx_1_1) hx56
     have Hs := H
     refine rg2 (σ := σ20) (Nm := (Option Addr) × (Nat) × (Option Addr) × (Nat) × (Nat)) 6 [1, 4, 5] [[false, false, false], [true, false, false], [true, true, false], [true, true, true]] [[(0, 0)], [(0, 1)], [(0, 0), (1, 1), (2, 2), (3, 3)], [(0, 0), (1, 1)], [(1, 2)], [(2, 3)]] 3 [fun ((a51, c52, a58, c59, b60) : (Option Addr) × (Nat) × (Option Addr) × (Nat) × (Nat)) => fun σm => Hp S0 σ0 σm [Ch.ro 0 (Sl alist_0 list_0 clist_0) list_0, Ch.ro 0 (Sl ax_1_1 x_1.2.1 cx_1_1) x_1.2.1, Ch.bx n0 b1 0 [(I x_1.1), (Sl ax_1_1 x_1.2.1 cx_1_1), (I x_1.2.2)] [] []] ∧ Md (cov []) σ20 σm, fun ((a51, c52, a58, c59, b60) : (Option Addr) × (Nat) × (Option Addr) × (Nat) × (Nat)) => fun σm => Hp S0 σ0 σm [Ch.own n0 n0 (Sl a51 r48 c52) r48, Ch.ro 0 (Sl alist_0 list_0 clist_0) list_0, Ch.ro 0 (Sl ax_1_1 x_1.2.1 cx_1_1) x_1.2.1, Ch.bx n0 b1 0 [(I x_1.1), (Sl ax_1_1 x_1.2.1 cx_1_1), (I x_1.2.2)] [] []] ∧ Md (cov []) σ20 σm ∧ c52 = r48.length, fun ((a51, c52, a58, c59, b60) : (Option Addr) × (Nat) × (Option Addr) × (Nat) × (Nat)) => fun σm => Hp S0 σ0 σm [Ch.ro n0 (Sl a58 r55.2.1 c59) r55.2.1, Ch.own n0 n0 (Sl a51 r48 c52) r48, Ch.ro 0 (Sl alist_0 list_0 clist_0) list_0, Ch.ro 0 (Sl ax_1_1 x_1.2.1 cx_1_1) x_1.2.1, Ch.bx n0 b1 0 [(I x_1.1), (Sl ax_1_1 x_1.2.1 cx_1_1), (I x_1.2.2)] [] []] ∧ Md (fun i => (cov []) i ∨ (fun i => (cov [Ch.ro 0 (Sl ax_1_1 x_1.2.1 cx_1_1) x_1.2.1]) i ∨ (fun b => blk (Sl a58 r55.2.1 c59) = some b) i) i) σ20 σm ∧ c52 = r48.length, fun ((a51, c52, a58, c59, b60) : (Option Addr) × (Nat) × (Option Addr) × (Nat) × (Nat)) => fun σm => Hp S0 σ0 σm [Ch.own n0 n0 (Sl (some ⟨b60, 0, none⟩) ([(r55.1, r55.2.1, r55.2.2)] : List (Int × (List Int) × Int)) 1) ([(r55.1, r55.2.1, r55.2.2)] : List (Int × (List Int) × Int)), Ch.ro n0 (Sl a58 r55.2.1 c59) r55.2.1, Ch.own n0 n0 (Sl a51 r48 c52) r48, Ch.ro 0 (Sl alist_0 list_0 clist_0) list_0, Ch.ro 0 (Sl ax_1_1 x_1.2.1 cx_1_1) x_1.2.1, Ch.bx n0 b1 0 [(I x_1.1), (Sl ax_1_1 x_1.2.1 cx_1_1), (I x_1.2.2)] [] []] ∧ Md (fun i => (cov []) i ∨ (fun i => (cov [Ch.ro 0 (Sl ax_1_1 x_1.2.1 cx_1_1) x_1.2.1]) i ∨ (fun b => blk (Sl a58 r55.2.1 c59) = some b) i) i) σ20 σm ∧ c52 = r48.length] [fun ((a51, c52, a58, c59, b60) : (Option Addr) × (Nat) × (Option Addr) × (Nat) × (Nat)) => (Sl alist_0 list_0 clist_0), fun ((a51, c52, a58, c59, b60) : (Option Addr) × (Nat) × (Option Addr) × (Nat) × (Nat)) => (Sl a51 r48 c52), fun ((a51, c52, a58, c59, b60) : (Option Addr) × (Nat) × (Option Addr) × (Nat) × (Nat)) => (I r17.1), fun ((a51, c52, a58, c59, b60) : (Option Addr) × (Nat) × (Option Addr) × (Nat) × (Nat)) => (.agg #[(I x_1.1), (Sl ax_1_1 x_1.2.1 cx_1_1), (I x_1.2.2)]), fun ((a51, c52, a58, c59, b60) : (Option Addr) × (Nat) × (Option Addr) × (Nat) × (Nat)) => (.agg #[(I r55.1), (Sl a58 r55.2.1 c59), (I r55.2.2)]), fun ((a51, c52, a58, c59, b60) : (Option Addr) × (Nat) × (Option Addr) × (Nat) × (Nat)) => (Sl (some ⟨b60, 0, none⟩) ([(r55.1, r55.2.1, r55.2.2)] : List (Int × (List Int) × Int)) 1)] (none, 0, none, 0, 0) (by kernel_rfl) (by kernel_rfl) ?_ ?_ ?_
     ·intro σm m0
      exact ⟨H.grow (m0.mono fun _ h => h.elim), m0⟩
     ·refine ac rfl (by
        intro k; rintro ⟨a51, c52, a58, c59, b60⟩ ρ σm hJ hoff hdep
        have e0 := look_off (N := 43) (hoff 0 rfl) rfl
        exact dp_v (v := (Sl alist_0 list_0 clist_0)) wn (rv_move e0) rfl hJ) ?_
      refine all_cons (by
        refine ⟨?_, ?_⟩
        ·rintro ⟨a51, c52, a58, c59, b60⟩ ρ σm hJ hoff hdep
         have e36 : look 43 ρ 36 = (Sl alist_0 list_0 clist_0) := hdep 0 rfl rfl 36 rfl
         obtain ⟨H, m⟩ := id hJ
         refine dp_cx wn (cx_call hc50 (ent_f hc50.fn (by show [look 43 ρ 36] = _; rw [e36])) hn0 (show Hp S0 σ0 _ ([Ch.ro 0 (Sl alist_0 list_0 clist_0) list_0] ++ [Ch.ro 0 (Sl alist_0 list_0 clist_0) list_0, Ch.ro 0 (Sl ax_1_1 x_1.2.1 cx_1_1) x_1.2.1, Ch.bx n0 b1 0 [(I x_1.1), (Sl ax_1_1 x_1.2.1 cx_1_1), (I x_1.2.2)] [] []]) from (H.sel' [0, 0, 1, 2] rfl rfl))) ?_
         rintro _ σq ⟨_, ⟨a51x, c52x, rfl, rfl, ht53⟩, H2, m2⟩
         exact ⟨_, (a51x, c52x, a58, c59, b60), rfl, rfl, ⟨H2.sel' [0, 1, 2, 3] rfl rfl, m.comp0 (m2.mono (fun i h => by simp [cov, Ch.ro] at h)), ht53⟩, stab [0, 2, 3] (by kernel_rfl) ⟨rfl, rfl, rfl, trivial⟩⟩
        trivial) ?_
      refine ac rfl (by
        intro k; rintro ⟨a51, c52, a58, c59, b60⟩ ρ σm hJ hoff hdep
        have e6 := look_off (N := 43) (hoff 6 rfl) rfl
        exact dp_v (v := (I r17.1)) wn (rv_move e6) rfl hJ) ?_
      refine all_cons (by
        refine ⟨?_, ?_⟩
        ·rintro ⟨a51, c52, a58, c59, b60⟩ ρ σm hJ hoff hdep
         have e3 := look_off (N := 43) (hoff 3 rfl) rfl
         obtain ⟨H, m⟩ := id hJ
         have hc54 := H.cells 2 rfl
         exact dp_v (v := (.agg #[(I x_1.1), (Sl ax_1_1 x_1.2.1 cx_1_1), (I x_1.2.2)])) wn (rv_load (cs := [(I x_1.1), (Sl ax_1_1 x_1.2.1 cx_1_1), (I x_1.2.2)]) Try.underlying36 rfl ti36 e3 rfl hc54) rfl hJ
        refine ⟨?_, ?_⟩
        ·rintro ⟨a51, c52, a58, c59, b60⟩ ρ σm hJ hoff hdep
         have e3 := look_off (N := 43) (hoff 3 rfl) rfl
         obtain ⟨H, m, ht53⟩ := id hJ
         have hc54 := H.cells 3 rfl
         exact dp_v (v := (.agg #[(I x_1.1), (Sl ax_1_1 x_1.2.1 cx_1_1), (I x_1.2.2)])) wn (rv_load (cs := [(I x_1.1), (Sl ax_1_1 x_1.2.1 cx_1_1), (I x_1.2.2)]) Try.underlying36 rfl ti36 e3 rfl hc54) rfl hJ
        trivial) ?_
      refine all_cons (by
        refine ⟨?_, ?_⟩
        ·rintro ⟨a51, c52, a58, c59, b60⟩ ρ σm hJ hoff hdep
         have e39 : look 43 ρ 39 = (.agg #[(I x_1.1), (Sl ax_1_1 x_1.2.1 cx_1_1), (I x_1.2.2)]) := hdep 3 rfl rfl 39 rfl
         obtain ⟨H, m, ht53⟩ := id hJ
         refine dp_cx wn (cx_call hc57 (ent_f hc57.fn (by show [look 43 ρ 39] = _; rw [e39])) hn0 (show Hp S0 σ0 _ ([Ch.ro 0 (Sl ax_1_1 x_1.2.1 cx_1_1) x_1.2.1] ++ [Ch.own n0 n0 (Sl a51 r48 c52) r48, Ch.ro 0 (Sl alist_0 list_0 clist_0) list_0, Ch.ro 0 (Sl ax_1_1 x_1.2.1 cx_1_1) x_1.2.1, Ch.bx n0 b1 0 [(I x_1.1), (Sl ax_1_1 x_1.2.1 cx_1_1), (I x_1.2.2)] [] []]) from (H.sel' [2, 0, 1, 2, 3] rfl rfl))) ?_
         rintro _ σq ⟨_, ⟨a58x, c59x, rfl, rfl⟩, H2, m2⟩
         obtain ⟨σr0, hwr0, H2, mr0⟩ := H2.pub 0 rfl (Nat.le_refl _)
         exact ⟨_, (a51, c52, a58x, c59x, b60), hwr0, rfl, ⟨H2.sel' [0, 1, 2, 3, 4] rfl rfl, m.comp (m2.comp mr0), ht53⟩, stab [0, 1, 2, 3] (by kernel_rfl) ⟨rfl, rfl, rfl, rfl, trivial⟩⟩
        trivial) ?_
      refine all_cons (by
        refine ⟨?_, ?_⟩
        ·rintro ⟨a51, c52, a58, c59, b60⟩ ρ σm hJ hoff hdep
         have e40 : look 43 ρ 40 = (.agg #[(I r55.1), (Sl a58 r55.2.1 c59), (I r55.2.2)]) := hdep 4 rfl rfl 40 rfl
         obtain ⟨H, m, ht53⟩ := id hJ
         refine dp_ex wn (ex_buildSlice (el := n0) (xs := ([(r55.1, r55.2.1, r55.2.2)] : List (Int × (List Int) × Int))) (ps := [(0, (.agg #[(I r55.1), (Sl a58 r55.2.1 c59), (I r55.2.2)]))]) (cs := [(I r55.1), (Sl a58 r55.2.1 c59), (I r55.2.2)]) H hn0 Try.underlying32 ti36 rfl (by show [(0, look 43 ρ 40)] = _; rw [e40]) (by kernel_rfl) (.cons (c := [(I r55.1), (Sl a58 r55.2.1 c59), (I r55.2.2)]) ⟨[(I r55.1)], [(Sl a58 r55.2.1 c59), (I r55.2.2)], rfl, rfl, ⟨[(Sl a58 r55.2.1 c59)], [(I r55.2.2)], rfl, ⟨_, rfl, (H.ro 0 rfl)⟩, rfl⟩⟩ (.nil)) rfl) ?_
         rintro _ σq ⟨b60x, rfl, H2, m2⟩
         exact ⟨_, (a51, c52, a58, c59, b60x), rfl, rfl, ⟨H2.sel' [0, 1, 2, 3, 4, 5] rfl rfl, m.comp0 m2, ht53⟩, stab [0, 1, 2, 3, 4] (by kernel_rfl) ⟨rfl, rfl, rfl, rfl, rfl, trivial⟩⟩
        trivial) ?_
      exact all_nil
     ·rintro ⟨a51, c52, a58, c59, b60⟩ ρ σ61 hJ hoff hrel
      have e37 := hrel 1 rfl 37 rfl
      have e38 := hrel 2 rfl 38 rfl
      have e41 := hrel 5 rfl 41 rfl
      obtain ⟨H, -, ht53⟩ := (show Hp S0 σ0 σ61 [Ch.own n0 n0 (Sl (some ⟨b60, 0, none⟩) ([(r55.1, r55.2.1, r55.2.2)] : List (Int × (List Int) × Int)) 1) ([(r55.1, r55.2.1, r55.2.2)] : List (Int × (List Int) × Int)), Ch.ro n0 (Sl a58 r55.2.1 c59) r55.2.1, Ch.own n0 n0 (Sl a51 r48 c52) r48, Ch.ro 0 (Sl alist_0 list_0 clist_0) list_0, Ch.ro 0 (Sl ax_1_1 x_1.2.1 cx_1_1) x_1.2.1, Ch.bx n0 b1 0 [(I x_1.1), (Sl ax_1_1 x_1.2.1 cx_1_1), (I x_1.2.2)] [] []] ∧ Md (fun i => (cov []) i ∨ (fun i => (cov [Ch.ro 0 (Sl ax_1_1 x_1.2.1 cx_1_1) x_1.2.1]) i ∨ (fun b => blk (Sl a58 r55.2.1 c59) = some b) i) i) σ20 σ61 ∧ c52 = r48.length from hJ)
      clear hJ Hs
      rw [fr_lookL (L := [(37, (Sl a51 r48 c52)), (38, (I r17.1)), (41, (Sl (some ⟨b60, 0, none⟩) ([(r55.1, r55.2.1, r55.2.2)] : List (Int × (List Int) × Int)) 1))]) ⟨e37, e38, e41, trivial⟩]
      clear hoff hrel e37 e38 e41
      obtain ⟨σ62, hw63, H, -⟩ := H.pub 0 rfl (Nat.le_refl _)
      rw [← hw63]; clear hw63
      replace H := H.ownLow 2 0 0 rfl (Nat.zero_le _) (Nat.zero_le _)
      replace H := H.roLow 1 0 rfl (Nat.zero_le _)
      obtain ⟨r64, hx65, h'⟩ := bind_some h
      clear h
      have h := h'; clear h'
      have hc66 := c_slices_Insert_impl_Item_impl_Item (as_0 := a51) (cs_0 := c52) (hts_0 := ht53) (av_2 := (some ⟨b60, 0, none⟩)) (cv_2 := 1) hx65
      refine st_call (cx_call hc66 (ent_f hc66.fn rfl) hn0 (show Hp S0 σ0 _ ([Ch.own 0 0 (Sl a51 r48 c52) r48, Ch.ro 0 (Sl (some ⟨b60, 0, none⟩) ([(r55.1, r55.2.1, r55.2.2)] : List (Int × (List Int) × Int)) 1) ([(r55.1, r55.2.1, r55.2.2)] : List (Int × (List Int) × Int))] ++ [Ch.ro 0 (Sl (some ⟨b60, 0, none⟩) ([(r55.1, r55.2.1, r55.2.2)] : List (Int × (List Int) × Int)) 1) ([(r55.1, r55.2.1, r55.2.2)] : List (Int × (List Int) × Int)), Ch.ro n0 (Sl (some ⟨b60, 0, none⟩) ([(r55.1, r55.2.1, r55.2.2)] : List (Int × (List Int) × Int)) 1) ([(r55.1, r55.2.1, r55.2.2)] : List (Int × (List Int) × Int)), Ch.ro n0 (Sl a58 r55.2.1 c59) r55.2.1, Ch.ro 0 (Sl alist_0 list_0 clist_0) list_0, Ch.ro 0 (Sl ax_1_1 x_1.2.1 cx_1_1) x_1.2.1, Ch.bx n0 b1 0 [(I x_1.1), (Sl ax_1_1 x_1.2.1 cx_1_1), (I x_1.2.2)] [] []]) from (H.sel' [1, 0, 0, 2, 3, 4, 5, 6] rfl rfl))) wn ?_
      rintro _ σ69 ⟨_, ⟨a67, c68, rfl, rfl⟩, H, -⟩
      replace H : Hp S0 σ0 σ69 [Ch.own 0 0 (Sl a67 r64 c68) r64, Ch.ro 0 (Sl (some ⟨b60, 0, none⟩) ([(r55.1, r55.2.1, r55.2.2)] : List (Int × (List Int) × Int)) 1) ([(r55.1, r55.2.1, r55.2.2)] : List (Int × (List Int) × Int)), Ch.ro n0 (Sl (some ⟨b60, 0, none⟩) ([(r55.1, r55.2.1, r55.2.2)] : List (Int × (List Int) × Int)) 1) ([(r55.1, r55.2.1, r55.2.2)] : List (Int × (List Int) × Int)), Ch.ro n0 (Sl a58 r55.2.1 c59) r55.2.1, Ch.ro 0 (Sl alist_0 list_0 clist_0) list_0, Ch.ro 0 (Sl ax_1_1 x_1.2.1 cx_1_1) x_1.2.1, Ch.bx n0 b1 0 [(I x_1.1), (Sl ax_1_1 x_1.2.1 cx_1_1), (I x_1.2.2)] [] []] := H
      refine st (v := (Sl a67 r64 c68)) (rv_assign rfl) ?_
      refine st (v := (B true)) (rv_assign rfl) ?_
      refine w_end ?_
      refine q_then ?_
      refine c_ret ?_
      obtain rfl := Option.some.inj h
      exact fin_ret (v := (.tuple #[(Sl a67 r64 c68), (B true)])) (results_ok Try.results136 (res_tmp (v := (Sl a67 r64 c68)) rfl (res_tmp (v := (B true)) rfl res_nil)) rfl) ⟨a67, c68, rfl, rfl⟩ (H.sel' [0] rfl rfl)

theorem c_impl_putChange_apply {c_0 : (Int × (List Int) × Int)} {list_1 : List (Int × (List Int) × Int)} {ac_0_0_1 : Option Addr} {cc_0_0_1 : Nat} {alist_1 : Option Addr} {clist_1 : Nat} {r : (List (Int × (List Int) × Int)) × Bool} (h : M.impl_putChange_apply c_0 list_1 = some r) :
    Cal2 Try.prog 133 [(.agg #[(I c_0.1), (Sl ac_0_0_1 c_0.2.1 cc_0_0_1), (I c_0.2.2)]), (Sl alist_1 list_1 clist_1)] [Ch.ro 0 (Sl ac_0_0_1 c_0.2.1 cc_0_0_1) c_0.2.1, Ch.ro 0 (Sl alist_1 list_1 clist_1) list_1] (fun n0 v L => ∃ (az1 : Option Addr), ∃ (cz2 : Nat), v = (.tuple #[(Sl az1 r.1 cz2), (B r.2)]) ∧ L = [Ch.own 0 0 (Sl az1 r.1 cz2) r.1]) := by
 refine cal2 (n := 12) Try.func133 rfl rfl rfl rfl ?_
 intro S0 σ0 n0 hn0 H
 unfold M.impl_putChange_apply at h
 refine c_seq ?_
 refine rg ?_
 refine st_ex (ex_box (cs := [(I c_0.1), (Sl ac_0_0_1 c_0.2.1 cc_0_0_1), (I c_0.2.2)]) H hn0 rfl rfl) wn ?_
 rintro _ σ2 ⟨b1, rfl, H, -⟩
 refine st (v := (.slice none 0 0)) (rv_assign rfl) ?_
 refine st (v := (B false)) (rv_assign rfl) ?_
 refine w_end ?_
 refine q_then ?_
 refine c_seq ?_
 refine rg ?_
 refine st (v := (Sl alist_1 list_1 clist_1)) (rv_move rfl) ?_
 refine st (v := (pt b1 0)) (rv_fieldAddr (off := 0) (ft := 36) Try.underlying130 rfl ti36 rfl rfl) ?_
 have hc3 := H.part (us := [(I c_0.1), (Sl ac_0_0_1 c_0.2.1 cc_0_0_1), (I c_0.2.2)]) (o' := 0) 0 0 3 rfl rfl rfl rfl
 refine st (v := (.agg #[(I c_0.1), (Sl ac_0_0_1 c_0.2.1 cc_0_0_1), (I c_0.2.2)])) (rv_load (cs := [(I c_0.1), (Sl ac_0_0_1 c_0.2.1 cc_0_0_1), (I c_0.2.2)]) Try.underlying36 rfl ti36 rfl rfl hc3) ?_
 obtain ⟨r4, hx5, h'⟩ := bind_some h
 clear h
 have h := h'; clear h'
 have hc6 := c_impl_PutItem (alist_0 := alist_1) (clist_0 := clist_1) (ax_1_1 := ac_0_0_1) (cx_1_1 := cc_0_0_1) hx5
 refine st_call (cx_call hc6 (ent_f hc6.fn rfl) hn0 (show Hp S0 σ0 _ ([Ch.ro 0 (Sl alist_1 list_1 clist_1) list_1, Ch.ro 0 (Sl ac_0_0_1 c_0.2.1 cc_0_0_1) c_0.2.1] ++ [Ch.bx n0 b1 0 [(I c_0.1), (Sl ac_0_0_1 c_0.2.1 cc_0_0_1), (I c_0.2.2)] [] [], Ch.ro 0 (Sl ac_0_0_1 c_0.2.1 cc_0_0_1) c_0.2.1, Ch.ro 0 (Sl alist_1 list_1 clist_1) list_1]) from (H.sel' [2, 1, 0, 1, 2] rfl rfl))) wn ?_
 rintro _ σ9 ⟨_, ⟨a7, c8, rfl, rfl⟩, H, -⟩
 replace H : Hp S0 σ0 σ9 [Ch.own 0 0 (Sl a7 r4.1 c8) r4.1, Ch.bx n0 b1 0 [(I c_0.1), (Sl ac_0_0_1 c_0.2.1 cc_0_0_1), (I c_0.2.2)] [] [], Ch.ro 0 (Sl ac_0_0_1 c_0.2.1 cc_0_0_1) c_0.2.1, Ch.ro 0 (Sl alist_1 list_1 clist_1) list_1] := H
 refine st (v := (Sl a7 r4.1 c8)) (rv_extract rfl rfl) ?_
 refine st (v := (B r4.2)) (rv_extract rfl rfl) ?_
 refine st (v := (Sl a7 r4.1 c8)) (rv_assign rfl) ?_
 refine st (v := (B r4.2)) (rv_assign rfl) ?_
 refine w_end ?_
 refine q_then ?_
 refine c_ret ?_
 obtain rfl := Option.some.inj h
 exact fin_ret (v := (.tuple #[(Sl a7 r4.1 c8), (B r4.2)])) (results_ok Try.results133 (res_tmp (v := (Sl a7 r4.1 c8)) rfl (res_tmp (v := (B r4.2)) rfl res_nil)) rfl) ⟨a7, c8, rfl, rfl⟩ (H.sel' [0] rfl rfl)

theorem c_impl_ReplayLog {list_0 : List (Int × (List Int) × Int)} {log_1 : List (Int × (Int × (List Int) × Int))} {alist_0 : Option Addr} {clist_0 : Nat} {alog_1 : Option Addr} {clog_1 : Nat} {r : (List (Int × (List Int) × Int)) × Int} (h : M.impl_ReplayLog list_0 log_1 = some r) :
    Cal2 Try.prog 49 [(Sl alist_0 list_0 clist_0), (Sl alog_1 log_1 clog_1)] [Ch.ro 0 (Sl alist_0 list_0 clist_0) list_0, Ch.ro 0 (Sl alog_1 log_1 clog_1) log_1] (fun n0 v L => ∃ (az1 : Option Addr), ∃ (cz2 : Nat), v = (.tuple #[(Sl az1 r.1 cz2), (I r.2)]) ∧ L = [Ch.ro 0 (Sl az1 r.1 cz2) r.1]) := by
 refine cal2 (n := 49) Try.func49 rfl rfl rfl rfl ?_
 intro S0 σ0 n0 hn0 H
 unfold M.impl_ReplayLog at h
 refine c_seq ?_
 refine rg ?_
 refine st (v := (.slice none 0 0)) (rv_assign rfl) ?_
 refine st (v := (I 0)) (rv_assign rfl) ?_
 refine w_end ?_
 refine q_then ?_
 refine c_seq ?_
 refine rg ?_
 refine st (v := (Sl alog_1 log_1 clog_1)) (rv_move rfl) ?_
 obtain ⟨r1, hx2, h'⟩ := bind_some h
 clear h
 have h := h'; clear h'
 have hc3 := c_impl_changesOf (alog_0 := alog_1) (clog_0 := clog_1) hx2
 refine st_call (cx_call hc3 (ent_f hc3.fn rfl) hn0 (show Hp S0 σ0 _ ([Ch.ro 0 (Sl alog_1 log_1 clog_1) log_1] ++ [Ch.ro 0 (Sl alist_0 list_0 clist_0) list_0, Ch.ro 0 (Sl alog_1 log_1 clog_1) log_1]) from (H.sel' [1, 0, 1] rfl rfl))) wn ?_
 rintro _ σ6 ⟨_, ⟨a4, c5, rfl, rfl⟩, H, -⟩
 replace H : Hp S0 σ0 σ6 [Ch.own n0 0 (Sl a4 r1.1 c5) r1.1, Ch.ro 0 (Sl alist_0 list_0 clist_0) list_0, Ch.ro 0 (Sl alog_1 log_1 clog_1) log_1] := H
 refine st (v := (.tuple #[(Sl a4 r1.1 c5), (B r1.2)])) (rv_move rfl) ?_
 refine st (v := (Sl a4 r1.1 c5)) (rv_extract rfl rfl) ?_
 refine st (v := (B r1.2)) (rv_extract rfl rfl) ?_
 refine st (v := (Sl a4 r1.1 c5)) (rv_assign rfl) ?_
 refine st (v := (B r1.2)) (rv_assign rfl) ?_
 refine w_end ?_
 refine q_then ?_
 refine c_seq ?_
 refine c_seq ?_
 obtain ⟨o7, hj, h'⟩ := bind_some h
 clear h
 refine c_cut (fun e a w => e = .normal ∧ ∃ (ρ : Nat → Value) (σ : St), a = fr 49 (updL ρ [(0, (Sl alist_0 list_0 clist_0)), (6, (Sl a4 r1.1 c5)), (24, (B o7))]) ∧ w = σ.w ∧ Hp S0 σ0 σ [Ch.ro 0 (Sl alist_0 list_0 clist_0) list_0, Ch.own n0 0 (Sl a4 r1.1 c5) r1.1]) ?_ ?_
 ·clear h'
  rename _ = some o7 => h
  refine rg ?_
  refine st (v := (B r1.2)) (rv_move rfl) ?_
  refine st (v := (B (!r1.2))) (rv_not rfl) ?_
  refine st (v := (B (!r1.2))) (rv_move rfl) ?_
  rcases Bool.eq_false_or_eq_true (!r1.2) with hb8 | hb8
  ·replace h := bif_t hb8 h
   refine st_skip (congrArg some hb8) ?_
   refine st_skip (congrArg some hb8) ?_
   refine st_skip (congrArg some hb8) ?_
   refine st (v := (B true)) (rv_pick_t (congrArg B hb8) rfl) ?_
   refine w_end ?_
   obtain rfl := Option.some.inj h
   exact ⟨rfl, _, σ6, fr_join ⟨rfl, rfl, rfl, trivial⟩, rfl, H.sel' [1, 0] rfl rfl⟩
  ·replace h := bif_f hb8 h
   refine st_g (v := (Sl alist_0 list_0 clist_0)) (congrArg some hb8) (rv_move rfl) ?_
   obtain ⟨r9, hx10, h'⟩ := bind_some h
   clear h
   have h := h'; clear h'
   have hc11 := c_impl_ValidStore (alist_0 := alist_0) (clist_0 := clist_0) hx10
   refine st_call (cx_call hc11 (ent_f hc11.fn rfl) hn0 (show Hp S0 σ0 _ ([Ch.ro 0 (Sl alist_0 list_0 clist_0) list_0] ++ [Ch.own n0 0 (Sl a4 r1.1 c5) r1.1, Ch.ro 0 (Sl alist_0 list_0 clist_0) list_0, Ch.ro 0 (Sl alog_1 log_1 clog_1) log_1]) from (H.sel' [1, 0, 1, 2] rfl rfl))) (wanted_yes rfl (by exact (congrArg some hb8))) ?_
   rintro _ σ12 ⟨_, ⟨rfl, rfl⟩, H, -⟩
   replace H : Hp S0 σ0 σ12 [Ch.own n0 0 (Sl a4 r1.1 c5) r1.1, Ch.ro 0 (Sl alist_0 list_0 clist_0) list_0, Ch.ro 0 (Sl alog_1 log_1 clog_1) log_1] := H
   refine st_g (v := (B (!r9))) (congrArg some hb8) (rv_not rfl) ?_
   refine st (v := (B (!r9))) (rv_pick_f (congrArg B hb8) rfl) ?_
   refine w_end ?_
   obtain rfl := Option.some.inj h
   exact ⟨rfl, _, σ12, fr_join ⟨rfl, rfl, rfl, trivial⟩, rfl, H.sel' [1, 0] rfl rfl⟩
 ·clear hj
  have h := h'
  clear h' H
  rintro e a w ⟨rfl, ρ, σ13, rfl, rfl, H⟩
  refine q_then ?_
  refine cd_cond o7 rfl (fun hb14 => ?_) (fun hb14 => ?_)
  ·replace h := bif_t hb14 h
   refine c_seq ?_
   refine rg ?_
   refine st (v := (.slice none 0 0)) (rv_assign rfl) ?_
   refine st (v := (I (-1))) (rv_assign rfl) ?_
   refine w_end ?_
   refine q_then ?_
   refine c_ret ?_
   refine q_then_r ?_
   replace H := H.nilRo (Int × (List Int) × Int) 0
   obtain rfl := Option.some.inj h
   exact fin_ret (v := (.tuple #[(.slice none 0 0), (I (-1))])) (results_ok Try.results49 (res_tmp (v := (.slice none 0 0)) rfl (res_tmp (v := (I (-1))) rfl res_nil)) rfl) ⟨none, 0, rfl, rfl⟩ (H.sel' [0] rfl rfl)
  ·replace h := bif_f hb14 h
   refine c_skip ?_
   refine q_then ?_
   refine c_seq ?_
   refine rg ?_
   refine st (v := (Sl alist_0 list_0 clist_0)) (rv_move rfl) ?_
   obtain ⟨r15, hx16, h'⟩ := bind_some h
   clear h
   have h := h'; clear h'
   have hc17 := c_impl_copyItems (alist_0 := alist_0) (clist_0 := clist_0) hx16
   refine st_call (cx_call hc17 (ent_f hc17.fn rfl) hn0 (show Hp S0 σ0 _ ([Ch.ro 0 (Sl alist_0 list_0 clist_0) list_0] ++ [Ch.ro 0 (Sl alist_0 list_0 clist_0) list_0, Ch.own n0 0 (Sl a4 r1.1 c5) r1.1]) from (H.sel' [0, 0, 1] rfl rfl))) wn ?_
   rintro _ σ21 ⟨_, ⟨a18, c19, rfl, rfl, ht20⟩, H, -⟩
   replace H : Hp S0 σ0 σ21 [Ch.own n0 n0 (Sl a18 r15 c19) r15, Ch.ro 0 (Sl alist_0 list_0 clist_0) list_0, Ch.own n0 0 (Sl a4 r1.1 c5) r1.1] := H
   refine st (v := (Sl a18 r15 c19)) (rv_assign rfl) ?_
   refine w_end ?_
   refine q_then ?_
   refine c_seq ?_
   refine c_seq ?_
   refine rg ?_
   refine st (v := (Sl a4 r1.1 c5)) (rv_move rfl) ?_
   refine st (v := (I (r1.1.length : Int))) (rv_len Try.underlying108 rfl) ?_
   refine st (v := (I 0)) (rv_move rfl) ?_
   refine w_end ?_
   refine q_then ?_
   obtain ⟨o22, hj, h'⟩ := bind_some h
   clear h
   refine c_cut (fun e a w => (∃ t, o22 = (.inl t) ∧ e = .normal ∧ ∃ (ρ : Nat → Value) (σ : St) (aj1 : Option Addr) (cj2 : Nat), a = fr 49 (updL ρ [(6, (Sl a4 r1.1 c5)), (8, (Sl aj1 t cj2))]) ∧ w = σ.w ∧ Hp S0 σ0 σ [Ch.own n0 0 (Sl a4 r1.1 c5) r1.1, Ch.own 0 0 (Sl aj1 t cj2) t]) ∨ (∃ t, o22 = (.inr t) ∧ e = .ret ∧ ∃ (ρ : Nat → Value) (σ : St) (aj1 : Option Addr) (cj2 : Nat), a = fr 49 (updL ρ [(4, (Sl aj1 t.1 cj2)), (5, (I t.2))]) ∧ w = σ.w ∧ Hp S0 σ0 σ [Ch.ro 0 (Sl aj1 t.1 cj2) t.1])) ?_ ?_
   ·clear h'
    rename _ = some o22 => h
    refine c_blk ?_
    replace H := H.ownLow 0 0 0 rfl (Nat.zero_le _) (Nat.zero_le _)
    refine wp_loopM _ h (fun s23 a w => ∃ (ρ : Nat → Value) (σ : St) (aj1 : Option Addr) (cj2 : Nat), a = fr 49 (updL ρ [(6, (Sl a4 r1.1 c5)), (8, (Sl aj1 s23.1 cj2)), (27, (Sl a4 r1.1 c5)), (28, (I (r1.1.length : Int))), (29, (I s23.2))]) ∧ w = σ.w ∧ Hp S0 σ0 σ [Ch.own n0 0 (Sl a4 r1.1 c5) r1.1, Ch.own 0 0 (Sl aj1 s23.1 cj2) s23.1]) ⟨_, σ21, a18, c19, fr_join ⟨rfl, rfl, rfl, rfl, rfl, trivial⟩, rfl, H.sel' [2, 0] rfl rfl⟩ ?_
    clear h H
    rintro s23 a w o ⟨ρ, σ24, a25, c26, rfl, rfl, H⟩ h hres
    refine c_seq ?_
    refine rg ?_
    refine st (v := (B (decide (s23.2 < (r1.1.length : Int))))) (rv_lss (a := s23.2) (b := (r1.1.length : Int)) rfl rfl) ?_
    refine w_end ?_
    refine q_then ?_
    refine c_seq ?_
    refine cd_cond (decide (s23.2 < (r1.1.length : Int))) rfl (fun hb27 => ?_) (fun hb27 => ?_)
    ·replace h := bif_t hb27 h
     refine c_skip ?_
     refine q_then ?_
     refine c_seq ?_
     refine c_blk ?_
     refine c_seq ?_
     refine rg ?_
     refine st (v := (I s23.2)) (rv_move rfl) ?_
     obtain ⟨x28, hx29, h'⟩ := bind_some h
     clear h
     have h := h'; clear h'
     obtain ⟨b31, o32, hi30, -⟩ := (H.own 0 rfl).ix hx29
     refine st (v := (pt b31 o32)) (rv_ix Try.underlying108 ti113 rfl rfl hi30) ?_
     obtain ⟨_, ⟨_, _, rfl, ⟨_, _, rfl, rfl, ⟨_, _, rfl, ⟨_, rfl, hR38⟩, rfl⟩⟩, rfl⟩, hl33, hq34⟩ := ((H.own 0 rfl).at hx29 hi30).cells
     obtain ⟨a36, c37, rfl⟩ := hR38.isSl
     have hc35 : HCell _ _ _ = some (ifs2 x28.1 (.iface 132 (.agg #[(I x28.2.1)])) (.iface 130 (.agg #[(I x28.2.2.1), (Sl a36 x28.2.2.2.1 c37), (I x28.2.2.2.2)]))) := hq34 0 Nat.zero_lt_one
     clear hq34
     replace H := H.add (d := Ch.ro 0 (Sl a36 x28.2.2.2.1 c37) x28.2.2.2.1) hR38 (fun _ h => h)
     clear hR38
     refine st (v := (ifs2 x28.1 (.iface 132 (.agg #[(I x28.2.1)])) (.iface 130 (.agg #[(I x28.2.2.1), (Sl a36 x28.2.2.2.1 c37), (I x28.2.2.2.2)])))) (rv_load1 Try.underlying113 rfl rfl hc35) ?_
     refine st (v := (I s23.2)) (rv_assign rfl) ?_
     refine st (v := (ifs2 x28.1 (.iface 132 (.agg #[(I x28.2.1)])) (.iface 130 (.agg #[(I x28.2.2.1), (Sl a36 x28.2.2.2.1 c37), (I x28.2.2.2.2)])))) (rv_assign rfl) ?_
     refine w_end ?_
     refine q_then ?_
     refine c_seq ?_
     obtain ⟨o39, hj, h'⟩ := bind_some h
     clear h
     refine c_cut (fun e a w => e = .normal ∧ ∃ (ρ : Nat → Value) (σ : St) (aj1 : Option Addr) (cj2 : Nat), a = fr 49 (updL ρ [(6, (Sl a4 r1.1 c5)), (8, (Sl a25 s23.1 c26)), (9, (I s23.2)), (11, (Sl aj1 o39.1 cj2)), (12, (B o39.2)), (27, (Sl a4 r1.1 c5)), (28, (I (r1.1.length : Int))), (29, (I s23.2))]) ∧ w = σ.w ∧ Hp S0 σ0 σ [Ch.own n0 0 (Sl a4 r1.1 c5) r1.1, Ch.ro 0 (Sl a25 s23.1 c26) s23.1, Ch.own 0 0 (Sl aj1 o39.1 cj2) o39.1]) ?_ ?_
     ·clear h'
      rename _ = some o39 => h
      refine rg ?_
      refine st (v := (ifs2 x28.1 (.iface 132 (.agg #[(I x28.2.1)])) (.iface 130 (.agg #[(I x28.2.2.1), (Sl a36 x28.2.2.2.1 c37), (I x28.2.2.2.2)])))) (rv_move rfl) ?_
      refine st (v := (Sl a25 s23.1 c26)) (rv_move rfl) ?_
      rcases Bool.eq_false_or_eq_true (x28.1 == 1) with hb40 | hb40
      ·replace h := bif_t hb40 h
       have hv42 : (ifs2 x28.1 (.iface 132 (.agg #[(I x28.2.1)])) (.iface 130 (.agg #[(I x28.2.2.1), (Sl a36 x28.2.2.2.1 c37), (I x28.2.2.2.2)]))) = (.iface 132 (.agg #[(I x28.2.1)]) : Value) := ct hb40
       obtain ⟨σ43, hw44, H, -⟩ := H.pub 2 rfl (Nat.le_refl _)
       rw [← hw44]; clear hw44
       obtain ⟨r45, hx46, h'⟩ := bind_some h
       clear h
       have h := h'; clear h'
       have hc47 := c_impl_dropChange_apply (alist_1 := a25) (clist_1 := c26) hx46
       refine st_call (cx_call hc47 ((by exact ent_ix hc47.fn (by kernel_rfl) Try.underlying132 rfl hv42 rfl)) hn0 (show Hp S0 σ0 _ ([Ch.ro 0 (Sl a25 s23.1 c26) s23.1] ++ [Ch.ro 0 (Sl a25 s23.1 c26) s23.1, Ch.ro 0 (Sl a36 x28.2.2.2.1 c37) x28.2.2.2.1, Ch.own n0 0 (Sl a4 r1.1 c5) r1.1]) from (H.sel' [0, 0, 1, 2] rfl rfl))) wn ?_
       rintro _ σ50 ⟨_, ⟨a48, c49, rfl, rfl⟩, H, -⟩
       replace H : Hp S0 σ0 σ50 [Ch.own 0 0 (Sl a48 r45.1 c49) r45.1, Ch.ro 0 (Sl a25 s23.1 c26) s23.1, Ch.ro 0 (Sl a36 x28.2.2.2.1 c37) x28.2.2.2.1, Ch.own n0 0 (Sl a4 r1.1 c5) r1.1] := H
       refine st (v := (.tuple #[(Sl a48 r45.1 c49), (B r45.2)])) (rv_move rfl) ?_
       refine st (v := (Sl a48 r45.1 c49)) (rv_extract rfl rfl) ?_
       refine st (v := (B r45.2)) (rv_extract rfl rfl) ?_
       refine st (v := (Sl a48 r45.1 c49)) (rv_assign rfl) ?_
       refine st (v := (B r45.2)) (rv_assign rfl) ?_
       refine w_end ?_
       obtain rfl := Option.some.inj h
       exact ⟨rfl, _, σ50, a48, c49, fr_join ⟨rfl, rfl, rfl, rfl, rfl, rfl, rfl, rfl, trivial⟩, rfl, H.sel' [3, 1, 0] rfl rfl⟩
      ·replace h := bif_f hb40 h
       rcases Bool.eq_false_or_eq_true (x28.1 == 2) with hb41 | hb41
       ·replace h := bif_t hb41 h
        have hv51 : (ifs2 x28.1 (.iface 132 (.agg #[(I x28.2.1)])) (.iface 130 (.agg #[(I x28.2.2.1), (Sl a36 x28.2.2.2.1 c37), (I x28.2.2.2.2)]))) = (.iface 130 (.agg #[(I x28.2.2.1), (Sl a36 x28.2.2.2.1 c37), (I x28.2.2.2.2)]) : Value) := (cf hb40).trans (ct hb41)
        obtain ⟨σ52, hw53, H, -⟩ := H.pub 2 rfl (Nat.le_refl _)
        rw [← hw53]; clear hw53
        obtain ⟨r54, hx55, h'⟩ := bind_some h
        clear h
        have h := h'; clear h'
        have hc56 := c_impl_putChange_apply (ac_0_0_1 := a36) (cc_0_0_1 := c37) (alist_1 := a25) (clist_1 := c26) hx55
        refine st_call (cx_call hc56 ((by exact ent_ix hc56.fn (by kernel_rfl) Try.underlying130 rfl hv51 rfl)) hn0 (show Hp S0 σ0 _ ([Ch.ro 0 (Sl a36 x28.2.2.2.1 c37) x28.2.2.2.1, Ch.ro 0 (Sl a25 s23.1 c26) s23.1] ++ [Ch.ro 0 (Sl a25 s23.1 c26) s23.1, Ch.ro 0 (Sl a36 x28.2.2.2.1 c37) x28.2.2.2.1, Ch.own n0 0 (Sl a4 r1.1 c5) r1.1]) from (H.sel' [1, 0, 0, 1, 2] rfl rfl))) wn ?_
        rintro _ σ59 ⟨_, ⟨a57, c58, rfl, rfl⟩, H, -⟩
        replace H : Hp S0 σ0 σ59 [Ch.own 0 0 (Sl a57 r54.1 c58) r54.1, Ch.ro 0 (Sl a25 s23.1 c26) s23.1, Ch.ro 0 (Sl a36 x28.2.2.2.1 c37) x28.2.2.2.1, Ch.own n0 0 (Sl a4 r1.1 c5) r1.1] := H
        refine st (v := (.tuple #[(Sl a57 r54.1 c58), (B r54.2)])) (rv_move rfl) ?_
        refine st (v := (Sl a57 r54.1 c58)) (rv_extract rfl rfl) ?_
        refine st (v := (B r54.2)) (rv_extract rfl rfl) ?_
        refine st (v := (Sl a57 r54.1 c58)) (rv_assign rfl) ?_
        refine st (v := (B r54.2)) (rv_assign rfl) ?_
        refine w_end ?_
        obtain rfl := Option.some.inj h
        exact ⟨rfl, _, σ59, a57, c58, fr_join ⟨rfl, rfl, rfl, rfl, rfl, rfl, rfl, rfl, trivial⟩, rfl, H.sel' [3, 1, 0] rfl rfl⟩
       ·replace h := bif_f hb41 h
        cases h
     ·clear hj
      have h := h'
      clear h' H
      rintro e a w ⟨rfl, ρ, σ61, a62, c63, rfl, rfl, H⟩
      refine q_then ?_
      refine c_seq ?_
      refine c_seq ?_
      refine rg ?_
      refine st (v := (B o39.2)) (rv_move rfl) ?_
      refine st (v := (B (!o39.2))) (rv_not rfl) ?_
      refine w_end ?_
      refine q_then ?_
      refine cd_cond (!o39.2) rfl (fun hb64 => ?_) (fun hb64 => ?_)
      ·replace h := bif_t hb64 h
       refine c_seq ?_
       refine rg ?_
       refine st (v := (Sl a25 s23.1 c26)) (rv_move rfl) ?_
       refine st (v := (I s23.2)) (rv_move rfl) ?_
       refine st (v := (Sl a25 s23.1 c26)) (rv_assign rfl) ?_
       refine st (v := (I s23.2)) (rv_assign rfl) ?_
       refine w_end ?_
       refine q_then ?_
       refine c_ret ?_
       refine q_then_r ?_
       refine q_blk_r ?_
       refine q_then_r ?_
       refine q_then_r ?_
       refine q_blk_r ?_
       obtain rfl := Option.some.inj h
       obtain rfl := hres _ rfl
       exact .inr (⟨_, rfl, rfl, _, σ61, a25, c26, fr_join ⟨rfl, rfl, trivial⟩, rfl, H.sel' [1] rfl rfl⟩)
      ·replace h := bif_f hb64 h
       refine c_skip ?_
       refine q_then ?_
       refine rg ?_
       refine st (v := (Sl a62 o39.1 c63)) (rv_move rfl) ?_
       refine st (v := (Sl a62 o39.1 c63)) (rv_assign rfl) ?_
       refine w_end ?_
       refine q_blk ?_
       refine q_then ?_
       refine rg ?_
       refine st (v := (I (w64 (s23.2 + 1)))) (rv_add (a := s23.2) (b := 1) rfl rfl) ?_
       refine st (v := (I (w64 (s23.2 + 1)))) (rv_move rfl) ?_
       refine w_end ?_
       refine q_then ?_
       obtain rfl := Option.some.inj h
       exact ⟨_, rfl, _, σ61, a62, c63, fr_join ⟨rfl, rfl, rfl, rfl, rfl, trivial⟩, rfl, H.sel' [0, 2] rfl rfl⟩
    ·replace h := bif_f hb27 h
     refine c_exit ?_
     refine q_then_x ?_
     refine q_then_x ?_
     refine q_blk_hit ?_
     obtain rfl := Option.some.inj h
     obtain rfl := hres _ rfl
     exact .inl ⟨_, rfl, rfl, _, σ24, a25, c26, fr_join ⟨rfl, rfl, trivial⟩, rfl, H.sel' [0, 1] rfl rfl⟩
   ·clear hj
    have h := h'
    clear h' H
    rintro e a w (⟨t65, rfl, rfl, ρ, σ66, a67, c68, rfl, rfl, H⟩ | ⟨t71, rfl, rfl, ρ, σ72, a73, c74, rfl, rfl, H⟩)
    ·replace h := selim_l h
     refine q_then ?_
     refine c_seq ?_
     refine rg ?_
     refine st (v := (Sl a67 t65 c68)) (rv_move rfl) ?_
     refine st (v := (Sl a4 r1.1 c5)) (rv_move rfl) ?_
     refine st (v := (I (r1.1.length : Int))) (rv_len Try.underlying108 rfl) ?_
     refine st (v := (Sl a67 t65 c68)) (rv_assign rfl) ?_
     refine st (v := (I (r1.1.length : Int))) (rv_assign rfl) ?_
     refine w_end ?_
     refine q_then ?_
     refine c_ret ?_
     obtain ⟨σ69, hw70, H, -⟩ := H.pub 1 rfl (Nat.le_refl _)
     rw [← hw70]; clear hw70
     obtain rfl := Option.some.inj h
     exact fin_ret (v := (.tuple #[(Sl a67 t65 c68), (I (r1.1.length : Int))])) (results_ok Try.results49 (res_tmp (v := (Sl a67 t65 c68)) rfl (res_tmp (v := (I (r1.1.length : Int))) rfl res_nil)) rfl) ⟨a67, c68, rfl, rfl⟩ (H.sel' [0] rfl rfl)
    ·replace h := selim_r h
     refine q_then_r ?_
     obtain rfl := Option.some.inj h
     exact fin_ret (v := (.tuple #[(Sl a73 t71.1 c74), (I t71.2)])) (results_ok Try.results49 (res_tmp (v := (Sl a73 t71.1 c74)) rfl (res_tmp (v := (I t71.2)) rfl res_nil)) rfl) ⟨a73, c74, rfl, rfl⟩ (H.sel' [0] rfl rfl)

theorem c_impl_ValidHistory {h_0 : (List (Int × (Int × (List Int) × Int))) × (List Int)} {ah_0_0 : Option Addr} {ch_0_0 : Nat} {ah_0_1 : Option Addr} {ch_0_1 : Nat} {r : Bool} (h : M.impl_ValidHistory h_0 = some r) :
    Cal2 Try.prog 13 [(.agg #[(Sl ah_0_0 h_0.1 ch_0_0), (Sl ah_0_1 h_0.2 ch_0_1)])] [Ch.ro 0 (Sl ah_0_0 h_0.1 ch_0_0) h_0.1, Ch.ro 0 (Sl ah_0_1 h_0.2 ch_0_1) h_0.2] (fun n0 v L => v = (B r) ∧ L = []) := by
 refine cal2 (n := 29) Try.func13 rfl rfl rfl rfl ?_
 intro S0 σ0 n0 hn0 H
 unfold M.impl_ValidHistory at h
 refine c_seq ?_
 refine rg ?_
 refine st_ex (ex_box (cs := [(Sl ah_0_0 h_0.1 ch_0_0), (Sl ah_0_1 h_0.2 ch_0_1)]) H hn0 rfl rfl) wn ?_
 rintro _ σ2 ⟨b1, rfl, H, -⟩
 refine st (v := (B false)) (rv_assign rfl) ?_
 refine w_end ?_
 refine q_then ?_
 refine c_seq ?_
 refine c_seq ?_
 obtain ⟨o3, hj, h'⟩ := bind_some h
 clear h
 refine c_cut (fun e a w => e = .normal ∧ ∃ (ρ : Nat → Value) (σ : St), a = fr 29 (updL ρ [(1, (pt b1 0)), (17, (B o3))]) ∧ w = σ.w ∧ Hp S0 σ0 σ [Ch.ro 0 (Sl ah_0_0 h_0.1 ch_0_0) h_0.1, Ch.ro 0 (Sl ah_0_1 h_0.2 ch_0_1) h_0.2, Ch.bx n0 b1 0 [(Sl ah_0_0 h_0.1 ch_0_0), (Sl ah_0_1 h_0.2 ch_0_1)] [] []]) ?_ ?_
 ·clear h'
  rename _ = some o3 => h
  refine rg ?_
  refine st (v := (pt b1 1)) (rv_fieldAddr (off := 1) (ft := 24) Try.underlying26 rfl ti24 rfl rfl) ?_
  have hc4 := H.cell (u := (Sl ah_0_1 h_0.2 ch_0_1)) (o' := 1) 0 1 rfl rfl rfl
  refine st (v := (Sl ah_0_1 h_0.2 ch_0_1)) (rv_load1 Try.underlying24 rfl rfl hc4) ?_
  refine st (v := (I (h_0.2.length : Int))) (rv_len Try.underlying24 rfl) ?_
  refine st (v := (pt b1 0)) (rv_fieldAddr (off := 0) (ft := 23) Try.underlying26 rfl ti23 rfl rfl) ?_
  have hc5 := H.cell (u := (Sl ah_0_0 h_0.1 ch_0_0)) (o' := 0) 0 0 rfl rfl rfl
  refine st (v := (Sl ah_0_0 h_0.1 ch_0_0)) (rv_load1 Try.underlying23 rfl rfl hc5) ?_
  refine st (v := (I (h_0.1.length : Int))) (rv_len Try.underlying23 rfl) ?_
  refine st (v := (B ((h_0.2.length : Int) != (h_0.1.length : Int)))) (rv_neq (a := (h_0.2.length : Int)) (b := (h_0.1.length : Int)) rfl rfl) ?_
  refine st (v := (B ((h_0.2.length : Int) != (h_0.1.length : Int)))) (rv_move rfl) ?_
  rcases Bool.eq_false_or_eq_true ((h_0.2.length : Int) != (h_0.1.length : Int)) with hb6 | hb6
  ·replace h := bif_t hb6 h
   refine st_skip (congrArg some hb6) ?_
   refine st_skip (congrArg some hb6) ?_
   refine st_skip (congrArg some hb6) ?_
   refine st_skip (congrArg some hb6) ?_
   refine st (v := (B true)) (rv_pick_t (congrArg B hb6) rfl) ?_
   refine w_end ?_
   obtain rfl := Option.some.inj h
   exact ⟨rfl, _, σ2, fr_join ⟨rfl, rfl, trivial⟩, rfl, H.sel' [1, 2, 0] rfl rfl⟩
  ·replace h := bif_f hb6 h
   refine st_g (v := (pt b1 1)) (congrArg some hb6) (rv_fieldAddr (off := 1) (ft := 24) Try.underlying26 rfl ti24 rfl rfl) ?_
   have hc7 := H.cell (u := (Sl ah_0_1 h_0.2 ch_0_1)) (o' := 1) 0 1 rfl rfl rfl
   refine st_g (v := (Sl ah_0_1 h_0.2 ch_0_1)) (congrArg some hb6) (rv_load1 Try.underlying24 rfl rfl hc7) ?_
   obtain ⟨r8, hx9, h'⟩ := bind_some h
   clear h
   have h := h'; clear h'
   have hc10 := c_impl_validTimes (atimes_0 := ah_0_1) (ctimes_0 := ch_0_1) hx9
   refine st_call (cx_call hc10 (ent_f hc10.fn rfl) hn0 (show Hp S0 σ0 _ ([Ch.ro 0 (Sl ah_0_1 h_0.2 ch_0_1) h_0.2] ++ [Ch.bx n0 b1 0 [(Sl ah_0_0 h_0.1 ch_0_0), (Sl ah_0_1 h_0.2 ch_0_1)] [] [], Ch.ro 0 (Sl ah_0_0 h_0.1 ch_0_0) h_0.1, Ch.ro 0 (Sl ah_0_1 h_0.2 ch_0_1) h_0.2]) from (H.sel' [2, 0, 1, 2] rfl rfl))) (wanted_yes rfl (by exact (congrArg some hb6))) ?_
   rintro _ σ11 ⟨_, ⟨rfl, rfl⟩, H, -⟩
   replace H : Hp S0 σ0 σ11 [Ch.bx n0 b1 0 [(Sl ah_0_0 h_0.1 ch_0_0), (Sl ah_0_1 h_0.2 ch_0_1)] [] [], Ch.ro 0 (Sl ah_0_0 h_0.1 ch_0_0) h_0.1, Ch.ro 0 (Sl ah_0_1 h_0.2 ch_0_1) h_0.2] := H
   refine st_g (v := (B (!r8))) (congrArg some hb6) (rv_not rfl) ?_
   refine st (v := (B (!r8))) (rv_pick_f (congrArg B hb6) rfl) ?_
   refine w_end ?_
   obtain rfl := Option.some.inj h
   exact ⟨rfl, _, σ11, fr_join ⟨rfl, rfl, trivial⟩, rfl, H.sel' [1, 2, 0] rfl rfl⟩
 ·clear hj
  have h := h'
  clear h' H
  rintro e a w ⟨rfl, ρ, σ12, rfl, rfl, H⟩
  refine q_then ?_
  refine cd_cond o3 rfl (fun hb13 => ?_) (fun hb13 => ?_)
  ·replace h := bif_t hb13 h
   refine c_seq ?_
   refine rg ?_
   refine st (v := (B false)) (rv_assign rfl) ?_
   refine w_end ?_
   refine q_then ?_
   refine c_ret ?_
   refine q_then_r ?_
   obtain rfl := Option.some.inj h
   exact fin_ret (v := (B false)) (results_ok Try.results13 (res_tmp (v := (B false)) rfl res_nil) rfl) ⟨rfl, rfl⟩ (H.sel' [] rfl rfl)
  ·replace h := bif_f hb13 h
   refine c_skip ?_
   refine q_then ?_
   refine c_seq ?_
   refine rg ?_
   refine st (v := (pt b1 0)) (rv_fieldAddr (off := 0) (ft := 23) Try.underlying26 rfl ti23 rfl rfl) ?_
   have hc14 := H.cell (u := (Sl ah_0_0 h_0.1 ch_0_0)) (o' := 0) 2 0 rfl rfl rfl
   refine st (v := (Sl ah_0_0 h_0.1 ch_0_0)) (rv_load1 Try.underlying23 rfl rfl hc14) ?_
   replace H := H.nilRo (Int × (List Int) × Int) 0
   obtain ⟨r15, hx16, h'⟩ := bind_some h
   clear h
   have h := h'; clear h'
   have hc17 := c_impl_ReplayLog (alist_0 := none) (clist_0 := 0) (alog_1 := ah_0_0) (clog_1 := ch_0_0) hx16
   refine st_call (cx_call hc17 (ent_f hc17.fn rfl) hn0 (show Hp S0 σ0 _ ([Ch.ro 0 (Sl none ([] : List (Int × (List Int) × Int)) 0) ([] : List (Int × (List Int) × Int)), Ch.ro 0 (Sl ah_0_0 h_0.1 ch_0_0) h_0.1] ++ [Ch.ro 0 (Sl none ([] : List (Int × (List Int) × Int)) 0) ([] : List (Int × (List Int) × Int)), Ch.ro 0 (Sl ah_0_0 h_0.1 ch_0_0) h_0.1, Ch.ro 0 (Sl ah_0_1 h_0.2 ch_0_1) h_0.2, Ch.bx n0 b1 0 [(Sl ah_0_0 h_0.1 ch_0_0), (Sl ah_0_1 h_0.2 ch_0_1)] [] []]) from (H.sel' [0, 1, 0, 1, 2, 3] rfl rfl))) wn ?_
   rintro _ σ20 ⟨_, ⟨a18, c19, rfl, rfl⟩, H, -⟩
   replace H : Hp S0 σ0 σ20 [Ch.ro 0 (Sl a18 r15.1 c19) r15.1, Ch.ro 0 (Sl none ([] : List (Int × (List Int) × Int)) 0) ([] : List (Int × (List Int) × Int)), Ch.ro 0 (Sl ah_0_0 h_0.1 ch_0_0) h_0.1, Ch.ro 0 (Sl ah_0_1 h_0.2 ch_0_1) h_0.2, Ch.bx n0 b1 0 [(Sl ah_0_0 h_0.1 ch_0_0), (Sl ah_0_1 h_0.2 ch_0_1)] [] []] := H
   refine st (v := (.tuple #[(Sl a18 r15.1 c19), (I r15.2)])) (rv_move rfl) ?_
   refine st (v := (Sl a18 r15.1 c19)) (rv_extract rfl rfl) ?_
   refine st (v := (I r15.2)) (rv_extract rfl rfl) ?_
   refine st (v := (Sl a18 r15.1 c19)) (rv_assign rfl) ?_
   refine st (v := (I r15.2)) (rv_assign rfl) ?_
   refine w_end ?_
   refine q_then ?_
   refine c_seq ?_
   refine rg ?_
   refine st (v := (I r15.2)) (rv_move rfl) ?_
   refine st (v := (pt b1 0)) (rv_fieldAddr (off := 0) (ft := 23) Try.underlying26 rfl ti23 rfl rfl) ?_
   have hc21 := H.cell (u := (Sl ah_0_0 h_0.1 ch_0_0)) (o' := 0) 4 0 rfl rfl rfl
   refine st (v := (Sl ah_0_0 h_0.1 ch_0_0)) (rv_load1 Try.underlying23 rfl rfl hc21) ?_
   refine st (v := (I (h_0.1.length : Int))) (rv_len Try.underlying23 rfl) ?_
   refine st (v := (B (r15.2 == (h_0.1.length : Int)))) (rv_eql (a := r15.2) (b := (h_0.1.length : Int)) rfl rfl) ?_
   refine st (v := (B (r15.2 == (h_0.1.length : Int)))) (rv_assign rfl) ?_
   refine w_end ?_
   refine q_then ?_
   refine c_ret ?_
   obtain rfl := Option.some.inj h
   exact fin_ret (v := (B (r15.2 == (h_0.1.length : Int)))) (results_ok Try.results13 (res_tmp (v := (B (r15.2 == (h_0.1.length : Int)))) rfl res_nil) rfl) ⟨rfl, rfl⟩ (H.sel' [] rfl rfl)

theorem c_impl_validMoment {t_0 : Int}  {r : Bool} (h : M.impl_validMoment t_0 = some r) :
    Cal2 Try.prog 40 [(I t_0)] [] (fun n0 v L => v = (B r) ∧ L = []) := by
 refine cal2 (n := 9) Try.func40 rfl rfl rfl rfl ?_
 intro S0 σ0 n0 hn0 H
 unfold M.impl_validMoment at h
 refine c_seq ?_
 refine rg ?_
 refine st (v := (B false)) (rv_assign rfl) ?_
 refine w_end ?_
 refine q_then ?_
 refine c_seq ?_
 refine rg ?_
 refine st (v := (I t_0)) (rv_move rfl) ?_
 refine st (v := (B (decide (0 ≤ t_0)))) (rv_geq (a := t_0) (b := 0) rfl rfl) ?_
 refine st (v := (B (decide (0 ≤ t_0)))) (rv_move rfl) ?_
 rcases Bool.eq_false_or_eq_true (decide (0 ≤ t_0)) with hb1 | hb1
 ·replace h := bif_t hb1 h
  refine st_g (v := (I t_0)) (congrArg some hb1) (rv_move rfl) ?_
  refine st_g (v := (B (decide (t_0 ≤ 1000)))) (congrArg some hb1) (rv_leq (a := t_0) (b := 1000) rfl rfl) ?_
  refine st (v := (B (decide (t_0 ≤ 1000)))) (rv_pick_t (congrArg B hb1) rfl) ?_
  refine st (v := (B (decide (t_0 ≤ 1000)))) (rv_assign rfl) ?_
  refine w_end ?_
  refine q_then ?_
  refine c_ret ?_
  obtain rfl := Option.some.inj h
  exact fin_ret (v := (B (decide (t_0 ≤ 1000)))) (results_ok Try.results40 (res_tmp (v := (B (decide (t_0 ≤ 1000)))) rfl res_nil) rfl) ⟨rfl, rfl⟩ (H.sel' [] rfl rfl)
 ·replace h := bif_f hb1 h
  refine st_skip (congrArg some hb1) ?_
  refine st_skip (congrArg some hb1) ?_
  refine st (v := (B false)) (rv_pick_f (congrArg B hb1) rfl) ?_
  refine st (v := (B false)) (rv_assign rfl) ?_
  refine w_end ?_
  refine q_then ?_
  refine c_ret ?_
  obtain rfl := Option.some.inj h
  exact fin_ret (v := (B false)) (results_ok Try.results40 (res_tmp (v := (B false)) rfl res_nil) rfl) ⟨rfl, rfl⟩ (H.sel' [] rfl rfl)

theorem c_impl_version_node {v_0 : Vr (Int × (List Int) × Int)} {av_0 : Option Addr} {r : ((Po (Int × (List Int) × Int)) × ((Vr (Int × (List Int) × Int)) × (Vr (Int × (List Int) × Int))))} (h : M.impl_version_node v_0 = some r) :
    Cal2 Try.prog 76 [(.pointer av_0)] [Ch.pv 0 (.pointer av_0) v_0] (fun n0 v L => ∃ (az1 : Option Addr), ∃ (az2 : Option Addr), ∃ (az3 : Option Addr), v = (.agg #[(.pointer az1), (.pointer az2), (.pointer az3)]) ∧ L = [Ch.pv 0 (.pointer az1) r.1, Ch.pv 0 (.pointer az2) r.2.1, Ch.pv 0 (.pointer az3) r.2.2]) := by
 refine cal2 (n := 9) Try.func76 rfl rfl rfl rfl ?_
 intro S0 σ0 n0 hn0 H
 unfold M.impl_version_node at h
 refine c_seq ?_
 refine rg ?_
 refine st_ex (ex_alloc (cs := [(.pointer none), (.pointer none), (.pointer none)]) H hn0 ti102 rfl) wn ?_
 rintro _ σ2 ⟨b1, rfl, H, -⟩
 refine w_end ?_
 refine q_then ?_
 refine c_seq ?_
 refine c_seq ?_
 refine rg ?_
 refine st (v := (.pointer av_0)) (rv_move rfl) ?_
 refine st (v := (B v_0.isNil)) (rv_eqlNilV Try.underlying72 (H.pv 1 rfl) rfl rfl) ?_
 refine w_end ?_
 refine q_then ?_
 refine cd_cond v_0.isNil rfl (fun hb3 => ?_) (fun hb3 => ?_)
 ·replace h := bif_t hb3 h
  refine c_seq ?_
  refine rg ?_
  refine st (v := (.agg #[(.pointer none), (.pointer none), (.pointer none)])) (rv_build (ps := []) Try.underlying102 ti102 (bp102 Try.underlying102) rfl (by kernel_rfl)) ?_
  refine st_exS (ex_store_box (k := 0) (cs := [(.pointer none), (.pointer none), (.pointer none)]) (vs := [(.pointer none), (.pointer none), (.pointer none)]) (cs' := [(.pointer none), (.pointer none), (.pointer none)]) H (i := 0) rfl ti102 rfl rfl rfl rfl rfl (Nat.le_of_ble_eq_true rfl) (by simp [plain]) rfl) wn ?_
  rintro σ4 ⟨H, -⟩
  refine w_end ?_
  refine q_then ?_
  refine c_ret ?_
  refine q_then_r ?_
  replace H := H.nilPv (Po (Int × (List Int) × Int)) 0
  replace H := H.nilPv (Vr (Int × (List Int) × Int)) 0
  replace H := H.nilPv (Vr (Int × (List Int) × Int)) 0
  obtain rfl := Option.some.inj h
  exact fin_ret (v := (.agg #[(.pointer none), (.pointer none), (.pointer none)])) (results_ok Try.results76 (res_cell rfl (run_cellRes (cs := [(.pointer none), (.pointer none), (.pointer none)]) Try.underlying102 rfl ti102 rfl (H.cells 3 rfl)) res_nil) rfl) ⟨none, none, none, rfl, rfl⟩ (H.sel' [2, 1, 0] rfl rfl)
 ·replace h := bif_f hb3 h
  refine c_skip ?_
  refine q_then ?_
  refine c_seq ?_
  refine rg ?_
  refine st (v := (.pointer av_0)) (rv_move rfl) ?_
  obtain ⟨x5, hx6, h'⟩ := bind_some h
  clear h
  have h := h'; clear h'
  obtain ⟨b8, o9, hi7⟩ := (H.pv 1 rfl).ex hx6
  refine st (v := (pt b8 o9)) (rv_nilCheckT hi7 rfl) ?_
  obtain ⟨_, ⟨_, _, rfl, ⟨_, rfl, hR13⟩, ⟨_, _, rfl, ⟨_, rfl, hR15⟩, ⟨_, rfl, hR17⟩⟩⟩, hl10, hc11⟩ := ((H.pv 1 rfl).at hx6 hi7).cells
  obtain ⟨a12, rfl⟩ := hR13.isPtr
  obtain ⟨a14, rfl⟩ := hR15.isPtr
  obtain ⟨a16, rfl⟩ := hR17.isPtr
  replace H := H.add (d := Ch.pv 0 (.pointer a12) x5.1) hR13 (fun _ h => h)
  clear hR13
  replace H := H.add (d := Ch.pv 0 (.pointer a14) x5.2.1) hR15 (fun _ h => h)
  clear hR15
  replace H := H.add (d := Ch.pv 0 (.pointer a16) x5.2.2) hR17 (fun _ h => h)
  clear hR17
  refine st (v := (.agg #[(.pointer a12), (.pointer a14), (.pointer a16)])) (rv_load Try.underlying102 rfl ti102 rfl hl10 hc11) ?_
  refine st_exS (ex_store_box (k := 0) (cs := [(.pointer none), (.pointer none), (.pointer none)]) (vs := [(.pointer a12), (.pointer a14), (.pointer a16)]) (cs' := [(.pointer a12), (.pointer a14), (.pointer a16)]) H (i := 3) rfl ti102 rfl rfl rfl rfl rfl (Nat.le_of_ble_eq_true rfl) (by simp [plain]) rfl) wn ?_
  rintro σ18 ⟨H, -⟩
  refine w_end ?_
  refine q_then ?_
  refine c_ret ?_
  obtain rfl := Option.some.inj h
  exact fin_ret (v := (.agg #[(.pointer a12), (.pointer a14), (.pointer a16)])) (results_ok Try.results76 (res_cell rfl (run_cellRes (cs := [(.pointer a12), (.pointer a14), (.pointer a16)]) Try.underlying102 rfl ti102 rfl (H.cells 0 rfl)) res_nil) rfl) ⟨a12, a14, a16, rfl, rfl⟩ (H.sel' [3, 2, 1] rfl rfl)

theorem c_impl_version_with : ∀ (fuel : Nat) {v_0 : Vr (Int × (List Int) × Int)} {key_1 : Int} {bits_2 : Int} {x_3 : Po (Int × (List Int) × Int)} {av_0 : Option Addr} {ax_3 : Option Addr} {r : (Vr (Int × (List Int) × Int))} (h : M.impl_version_with fuel v_0 key_1 bits_2 x_3 = some r),
    Cal2 Try.prog 96 [(.pointer av_0), (I key_1), (I bits_2), (.pointer ax_3)] [Ch.pv 0 (.pointer av_0) v_0, Ch.pv 0 (.pointer ax_3) x_3] (fun n0 v L => ∃ (az1 : Option Addr), v = (.pointer az1) ∧ L = [Ch.pv 0 (.pointer az1) r]) := by
 intro fuel
 induction fuel with
 | zero => intro _ _ _ _ _ _ r h; cases h
 | succ fuel ih =>
 ·intro v_0 key_1 bits_2 x_3 av_0 ax_3 r h
  replace h : M.impl_version_with_F (M.impl_version_with fuel) v_0 key_1 bits_2 x_3 = some r := h
  refine cal2 (n := 34) Try.func96 rfl rfl rfl rfl ?_
  intro S0 σ0 n0 hn0 H
  unfold M.impl_version_with_F at h
  refine c_seq ?_
  refine rg ?_
  refine st (v := (.pointer none)) (rv_assign rfl) ?_
  refine w_end ?_
  refine q_then ?_
  refine c_seq ?_
  refine rg ?_
  refine st (v := (.pointer av_0)) (rv_move rfl) ?_
  obtain ⟨r1, hx2, h'⟩ := bind_some h
  clear h
  have h := h'; clear h'
  have hc3 := c_impl_version_node (av_0 := av_0) hx2
  refine st_call (cx_call hc3 (ent_f hc3.fn rfl) hn0 (show Hp S0 σ0 _ ([Ch.pv 0 (.pointer av_0) v_0] ++ [Ch.pv 0 (.pointer av_0) v_0, Ch.pv 0 (.pointer ax_3) x_3]) from (H.sel' [0, 0, 1] rfl rfl))) wn ?_
  rintro _ σ7 ⟨_, ⟨a4, a5, a6, rfl, rfl⟩, H, -⟩
  replace H : Hp S0 σ0 σ7 [Ch.pv 0 (.pointer a4) r1.1, Ch.pv 0 (.pointer a5) r1.2.1, Ch.pv 0 (.pointer a6) r1.2.2, Ch.pv 0 (.pointer av_0) v_0, Ch.pv 0 (.pointer ax_3) x_3] := H
  refine st_ex (ex_alloc (cs := [(.pointer none), (.pointer none), (.pointer none)]) H hn0 ti102 rfl) wn ?_
  rintro _ σ9 ⟨b8, rfl, H, -⟩
  refine st_exS (ex_store_box (k := 0) (cs := [(.pointer none), (.pointer none), (.pointer none)]) (vs := [(.pointer a4), (.pointer a5), (.pointer a6)]) (cs' := [(.pointer a4), (.pointer a5), (.pointer a6)]) H (i := 0) rfl ti102 rfl rfl rfl rfl rfl (Nat.le_of_ble_eq_true rfl) (by simp [plain]) rfl) wn ?_
  rintro σ10 ⟨H, -⟩
  refine w_end ?_
  refine q_then ?_
  refine c_seq ?_
  refine c_seq ?_
  refine rg ?_
  refine st (v := (I bits_2)) (rv_move rfl) ?_
  refine st (v := (B (bits_2 == 0))) (rv_eql (a := bits_2) (b := 0) rfl rfl) ?_
  refine w_end ?_
  refine q_then ?_
  obtain ⟨o11, hj, h'⟩ := bind_some h
  clear h
  refine c_cut (fun e a w => e = .normal ∧ ∃ (ρ : Nat → Value) (σ : St) (aj1 : Option Addr) (aj2 : Option Addr) (aj3 : Option Addr), a = fr 34 (updL ρ [(9, (pt b8 0))]) ∧ w = σ.w ∧ Hp S0 σ0 σ [Ch.bx n0 b8 0 [(.pointer aj1), (.pointer aj2), (.pointer aj3)] [] [], Ch.pv 0 (.pointer aj1) o11.1, Ch.pv 0 (.pointer aj2) o11.2.1, Ch.pv 0 (.pointer aj3) o11.2.2]) ?_ ?_
  ·clear h'
   rename _ = some o11 => h
   refine cd_cond (bits_2 == 0) rfl (fun hb12 => ?_) (fun hb12 => ?_)
   ·replace h := bif_t hb12 h
    refine rg ?_
    refine st (v := (.pointer ax_3)) (rv_move rfl) ?_
    refine st (v := (pt b8 0)) (rv_fieldAddr (off := 0) (ft := 99) Try.underlying102 rfl ti99 rfl rfl) ?_
    refine st_exS (ex_store_box (k := 0) (cs := [(.pointer a4), (.pointer a5), (.pointer a6)]) (vs := [(.pointer ax_3)]) (cs' := [(.pointer ax_3), (.pointer a5), (.pointer a6)]) H (i := 0) rfl ti99 rfl rfl rfl rfl rfl (Nat.le_of_ble_eq_true rfl) (by simp [plain]) rfl) wn ?_
    rintro σ13 ⟨H, -⟩
    refine w_end ?_
    obtain rfl := Option.some.inj h
    exact ⟨rfl, _, σ13, ax_3, a5, a6, fr_join ⟨rfl, trivial⟩, rfl, H.sel' [0, 5, 2, 3] rfl rfl⟩
   ·replace h := bif_f hb12 h
    refine c_seq ?_
    refine rg ?_
    refine st (v := (I key_1)) (rv_move rfl) ?_
    refine st (v := (I bits_2)) (rv_move rfl) ?_
    refine st (v := (I (w64 (bits_2 - 1)))) (rv_sub (a := bits_2) (b := 1) rfl rfl) ?_
    obtain ⟨q14, hx15, h'⟩ := bind_some h
    clear h
    have h := h'; clear h'
    refine st (v := (I q14)) (rvk_shrG (k := .i64) (k' := .i64) (a := key_1) (b := (w64 (bits_2 - 1))) hx15 rfl rfl) ?_
    refine st (v := (I (gand q14 1))) (rv_and (a := q14) (b := 1) rfl rfl) ?_
    refine st (v := (I (gand q14 1))) (rv_assign rfl) ?_
    refine w_end ?_
    refine q_then ?_
    refine rg ?_
    refine st (v := (I (gand q14 1))) (rv_move rfl) ?_
    refine st (v := (I (gand q14 1))) (rv_move rfl) ?_
    refine st (v := (pt b8 1)) (rv_fieldAddr (off := 1) (ft := 100) Try.underlying102 rfl ti100 rfl rfl) ?_
    obtain ⟨x16, hx17, h'⟩ := bind_some h
    clear h
    have h := h'; clear h'
    have hl18 := gsel2_lt hx17
    refine st (v := (pt b8 (1 + (gand q14 1).toNat * 1))) (rv_indexAddr_array Try.underlying100 ti72 rfl rfl hl18.1 hl18.2) ?_
    have hc19 := Hp.selCell (o' := 1) (a0 := a5) (a1 := a6) H 0 1 rfl rfl rfl hx17 rfl
    have hR20 : PV 0 _ (.pointer (bsel (gand q14 1) a5 a6)) x16 := PV.sel (H.pv 2 rfl) (H.pv 3 rfl) hx17
    replace H := H.add (d := Ch.pv 0 (.pointer (bsel (gand q14 1) a5 a6)) x16) hR20 (fun _ h => h)
    clear hR20
    refine st (v := (.pointer (bsel (gand q14 1) a5 a6))) (rv_load1 Try.underlying72 rfl rfl hc19) ?_
    refine st (v := (I key_1)) (rv_move rfl) ?_
    refine st (v := (I bits_2)) (rv_move rfl) ?_
    refine st (v := (I (w64 (bits_2 - 1)))) (rv_sub (a := bits_2) (b := 1) rfl rfl) ?_
    refine st (v := (.pointer ax_3)) (rv_move rfl) ?_
    obtain ⟨r21, hx22, h'⟩ := bind_some h
    clear h
    have h := h'; clear h'
    have hc23 := ih (av_0 := (bsel (gand q14 1) a5 a6)) (ax_3 := ax_3) hx22
    refine st_call (cx_call hc23 (ent_f hc23.fn rfl) hn0 (show Hp S0 σ0 _ ([Ch.pv 0 (.pointer (bsel (gand q14 1) a5 a6)) x16, Ch.pv 0 (.pointer ax_3) x_3] ++ [Ch.pv 0 (.pointer (bsel (gand q14 1) a5 a6)) x16, Ch.bx n0 b8 0 [(.pointer a4), (.pointer a5), (.pointer a6)] [] [], Ch.pv 0 (.pointer a4) r1.1, Ch.pv 0 (.pointer a5) r1.2.1, Ch.pv 0 (.pointer a6) r1.2.2, Ch.pv 0 (.pointer av_0) v_0, Ch.pv 0 (.pointer ax_3) x_3]) from (H.sel' [0, 6, 0, 1, 2, 3, 4, 5, 6] rfl rfl))) wn ?_
    rintro _ σ25 ⟨_, ⟨a24, rfl, rfl⟩, H, -⟩
    replace H : Hp S0 σ0 σ25 [Ch.pv 0 (.pointer a24) r21, Ch.pv 0 (.pointer (bsel (gand q14 1) a5 a6)) x16, Ch.bx n0 b8 0 [(.pointer a4), (.pointer a5), (.pointer a6)] [] [], Ch.pv 0 (.pointer a4) r1.1, Ch.pv 0 (.pointer a5) r1.2.1, Ch.pv 0 (.pointer a6) r1.2.2, Ch.pv 0 (.pointer av_0) v_0, Ch.pv 0 (.pointer ax_3) x_3] := H
    replace H : Hp S0 σ0 σ25 [Ch.pv 0 (.pointer a24) r21, Ch.bx n0 b8 0 [(.pointer a4), (.pointer a5), (.pointer a6)] [] [], Ch.pv 0 (.pointer a4) r1.1, Ch.pv 0 (.pointer a5) r1.2.1, Ch.pv 0 (.pointer a6) r1.2.2] := H.sel' [0, 2, 3, 4, 5] rfl rfl
    refine st (v := (pt b8 1)) (rv_fieldAddr (off := 1) (ft := 100) Try.underlying102 rfl ti100 rfl rfl) ?_
    obtain ⟨x26, hx27, h'⟩ := bind_some h
    clear h
    have h := h'; clear h'
    have hl28 := gsel2_lt hx27
    refine st (v := (pt b8 (1 + (gand q14 1).toNat * 1))) (rv_indexAddr_array Try.underlying100 ti72 rfl rfl hl28.1 hl28.2) ?_
    replace H := H.add (d := Ch.pv 0 (.pointer (bsel (gand q14 1) a24 a5)) (bsel (gand q14 1) r21 r1.2.1)) (PV.bsel (e := gand q14 1) (H.pv 0 rfl) (H.pv 3 rfl)) (fun _ h => h)
    replace H := H.add (d := Ch.pv 0 (.pointer (bsel (gand q14 1) a6 a24)) (bsel (gand q14 1) r1.2.2 r21)) (PV.bsel (e := gand q14 1) (H.pv 5 rfl) (H.pv 1 rfl)) (fun _ h => h)
    refine st_exS (ex_store_box (k := 1 + (gand q14 1).toNat * 1) (cs := [(.pointer a4), (.pointer a5), (.pointer a6)]) (vs := [(.pointer a24)]) (cs' := [(.pointer a4), (.pointer (bsel (gand q14 1) a24 a5)), (.pointer (bsel (gand q14 1) a6 a24))]) H (i := 3) rfl ti72 rfl (Nat.zero_add _).symm rfl rfl rfl (sel_fits hx27) (by simp [plain]) (sel_set hx27)) wn ?_
    rintro σ29 ⟨H, -⟩
    refine w_end ?_
    obtain rfl := Option.some.inj h
    exact ⟨rfl, _, σ29, a4, (bsel (gand q14 1) a24 a5), (bsel (gand q14 1) a6 a24), fr_join ⟨rfl, trivial⟩, rfl, H.sel' [0, 4, 2, 1] rfl rfl⟩
  ·clear hj
   have h := h'
   clear h' H
   rintro e a w ⟨rfl, ρ, σ30, a31, a32, a33, rfl, rfl, H⟩
   refine q_then ?_
   refine c_seq ?_
   refine rg ?_
   refine st (v := (pt b8 0)) (rv_assign rfl) ?_
   refine w_end ?_
   refine q_then ?_
   refine c_ret ?_
   have hp36 : Rp.rp 0 σ30 [(.pointer a31), (.pointer a32), (.pointer a33)] ((o11.1, (o11.2.1, o11.2.2)) : (Po (Int × (List Int) × Int)) × ((Vr (Int × (List Int) × Int)) × (Vr (Int × (List Int) × Int)))) := ⟨[(.pointer a31)], [(.pointer a32), (.pointer a33)], rfl, ⟨_, rfl, (H.pv 1 rfl)⟩, ⟨[(.pointer a32)], [(.pointer a33)], rfl, ⟨_, rfl, (H.pv 2 rfl)⟩, ⟨_, rfl, (H.pv 3 rfl)⟩⟩⟩
   obtain ⟨σ34, hw35, H, -⟩ := H.pubPv (τ := Vr (Int × (List Int) × Int)) 0 0 rfl (Nat.zero_le _) rfl hp36 (Nat.le_of_ble_eq_true rfl)
   rw [← hw35]; clear hw35
   replace H : Hp S0 σ0 σ34 [Ch.pv 0 (.pointer (some ⟨b8, 0, none⟩)) (Vr.mk (o11.1, (o11.2.1, o11.2.2))), Ch.pv 0 (.pointer a31) o11.1, Ch.pv 0 (.pointer a32) o11.2.1, Ch.pv 0 (.pointer a33) o11.2.2] := H
   obtain rfl := Option.some.inj h
   exact fin_ret (v := (.pointer (some ⟨b8, 0, none⟩))) (results_ok Try.results96 (res_tmp (v := (.pointer (some ⟨b8, 0, none⟩))) rfl res_nil) rfl) ⟨(some ⟨b8, 0, none⟩), rfl, rfl⟩ (H.sel' [0] rfl rfl)

theorem c_impl_version_after {v_0 : Vr (Int × (List Int) × Int)} {e_1 : Int × (Int × (List Int) × Int)} {av_0 : Option Addr} {ae_1_1_1 : Option Addr} {ce_1_1_1 : Nat} {r : (Vr (Int × (List Int) × Int))} (h : M.impl_version_after v_0 e_1 = some r) :
    Cal2 Try.prog 75 [(.pointer av_0), (.agg #[(I e_1.1), (I e_1.2.1), (Sl ae_1_1_1 e_1.2.2.1 ce_1_1_1), (I e_1.2.2.2)])] [Ch.pv 0 (.pointer av_0) v_0, Ch.ro 0 (Sl ae_1_1_1 e_1.2.2.1 ce_1_1_1) e_1.2.2.1] (fun n0 v L => ∃ (az1 : Option Addr), v = (.pointer az1) ∧ L = [Ch.pv 0 (.pointer az1) r]) := by
 refine cal2 (n := 19) Try.func75 rfl rfl rfl rfl ?_
 intro S0 σ0 n0 hn0 H
 unfold M.impl_version_after at h
 refine c_seq ?_
 refine rg ?_
 refine st_ex (ex_box (cs := [(I e_1.1), (I e_1.2.1), (Sl ae_1_1_1 e_1.2.2.1 ce_1_1_1), (I e_1.2.2.2)]) H hn0 rfl rfl) wn ?_
 rintro _ σ2 ⟨b1, rfl, H, -⟩
 refine st (v := (.pointer none)) (rv_assign rfl) ?_
 refine w_end ?_
 refine q_then ?_
 refine c_seq ?_
 refine c_seq ?_
 refine rg ?_
 refine st (v := (pt b1 0)) (rv_fieldAddr (off := 0) (ft := 3) Try.underlying56 rfl ti3 rfl rfl) ?_
 have hc3 := H.cell (u := (I e_1.1)) (o' := 0) 0 0 rfl rfl rfl
 refine st (v := (I e_1.1)) (rv_load1 Try.underlying3 rfl rfl hc3) ?_
 refine st (v := (B (e_1.1 == 2))) (rv_eql (a := e_1.1) (b := 2) rfl rfl) ?_
 refine w_end ?_
 refine q_then ?_
 refine cd_cond (e_1.1 == 2) rfl (fun hb4 => ?_) (fun hb4 => ?_)
 ·replace h := bif_t hb4 h
  refine c_seq ?_
  refine rg ?_
  refine st (v := (.pointer av_0)) (rv_move rfl) ?_
  refine st (v := (pt b1 1)) (rv_fieldAddr (off := 1) (ft := 36) Try.underlying56 rfl ti36 rfl rfl) ?_
  refine st (v := (pt b1 1)) (rv_fieldAddr (off := 0) (ft := 3) Try.underlying36 rfl ti3 rfl rfl) ?_
  have hc5 := H.cell (u := (I e_1.2.1)) (o' := 1) 0 1 rfl rfl rfl
  refine st (v := (I e_1.2.1)) (rv_load1 Try.underlying3 rfl rfl hc5) ?_
  replace H := H.nilPv (Po (Int × (List Int) × Int)) 0
  obtain ⟨r6, hx7, h'⟩ := bind_some h
  clear h
  have h := h'; clear h'
  have hc8 := c_impl_version_with 100 (av_0 := av_0) (ax_3 := none) hx7
  refine st_call (cx_call hc8 (ent_f hc8.fn rfl) hn0 (show Hp S0 σ0 _ ([Ch.pv 0 (.pointer av_0) v_0, Ch.pv 0 (.pointer none) (Po.nil : Po (Int × (List Int) × Int))] ++ [Ch.pv 0 (.pointer none) (Po.nil : Po (Int × (List Int) × Int)), Ch.bx n0 b1 0 [(I e_1.1), (I e_1.2.1), (Sl ae_1_1_1 e_1.2.2.1 ce_1_1_1), (I e_1.2.2.2)] [] [], Ch.pv 0 (.pointer av_0) v_0, Ch.ro 0 (Sl ae_1_1_1 e_1.2.2.1 ce_1_1_1) e_1.2.2.1]) from (H.sel' [2, 0, 0, 1, 2, 3] rfl rfl))) wn ?_
  rintro _ σ10 ⟨_, ⟨a9, rfl, rfl⟩, H, -⟩
  replace H : Hp S0 σ0 σ10 [Ch.pv 0 (.pointer a9) r6, Ch.pv 0 (.pointer none) (Po.nil : Po (Int × (List Int) × Int)), Ch.bx n0 b1 0 [(I e_1.1), (I e_1.2.1), (Sl ae_1_1_1 e_1.2.2.1 ce_1_1_1), (I e_1.2.2.2)] [] [], Ch.pv 0 (.pointer av_0) v_0, Ch.ro 0 (Sl ae_1_1_1 e_1.2.2.1 ce_1_1_1) e_1.2.2.1] := H
  refine st (v := (.pointer a9)) (rv_assign rfl) ?_
  refine w_end ?_
  refine q_then ?_
  refine c_ret ?_
  refine q_then_r ?_
  obtain rfl := Option.some.inj h
  exact fin_ret (v := (.pointer a9)) (results_ok Try.results75 (res_tmp (v := (.pointer a9)) rfl res_nil) rfl) ⟨a9, rfl, rfl⟩ (H.sel' [0] rfl rfl)
 ·replace h := bif_f hb4 h
  refine c_skip ?_
  refine q_then ?_
  refine c_seq ?_
  refine rg ?_
  refine st (v := (.pointer av_0)) (rv_move rfl) ?_
  refine st (v := (pt b1 1)) (rv_fieldAddr (off := 1) (ft := 36) Try.underlying56 rfl ti36 rfl rfl) ?_
  refine st (v := (pt b1 1)) (rv_fieldAddr (off := 0) (ft := 3) Try.underlying36 rfl ti3 rfl rfl) ?_
  have hc11 := H.cell (u := (I e_1.2.1)) (o' := 1) 0 1 rfl rfl rfl
  refine st (v := (I e_1.2.1)) (rv_load1 Try.underlying3 rfl rfl hc11) ?_
  refine st (v := (pt b1 1)) (rv_fieldAddr (off := 1) (ft := 36) Try.underlying56 rfl ti36 rfl rfl) ?_
  have hp14 : Rp.rp 0 σ2 [(I e_1.2.1), (Sl ae_1_1_1 e_1.2.2.1 ce_1_1_1), (I e_1.2.2.2)] ((e_1.2.1, e_1.2.2.1, e_1.2.2.2) : Int × (List Int) × Int) := ⟨[(I e_1.2.1)], [(Sl ae_1_1_1 e_1.2.2.1 ce_1_1_1), (I e_1.2.2.2)], rfl, rfl, ⟨[(Sl ae_1_1_1 e_1.2.2.1 ce_1_1_1)], [(I e_1.2.2.2)], rfl, ⟨_, rfl, (H.ro 2 rfl)⟩, rfl⟩⟩
  obtain ⟨σ12, hw13, H, -⟩ := H.pubPv (τ := Po (Int × (List Int) × Int)) 0 1 rfl (Nat.zero_le _) rfl hp14 (Nat.le_of_ble_eq_true rfl)
  rw [← hw13]; clear hw13
  replace H : Hp S0 σ0 σ12 [Ch.pv 0 (.pointer (some ⟨b1, 1, none⟩)) (Po.to (e_1.2.1, e_1.2.2.1, e_1.2.2.2)), Ch.pv 0 (.pointer av_0) v_0, Ch.ro 0 (Sl ae_1_1_1 e_1.2.2.1 ce_1_1_1) e_1.2.2.1] := H
  obtain ⟨r15, hx16, h'⟩ := bind_some h
  clear h
  have h := h'; clear h'
  have hc17 := c_impl_version_with 100 (av_0 := av_0) (ax_3 := (some ⟨b1, 1, none⟩)) hx16
  refine st_call (cx_call hc17 (ent_f hc17.fn rfl) hn0 (show Hp S0 σ0 _ ([Ch.pv 0 (.pointer av_0) v_0, Ch.pv 0 (.pointer (some ⟨b1, 1, none⟩)) (Po.to (e_1.2.1, e_1.2.2.1, e_1.2.2.2))] ++ [Ch.pv 0 (.pointer (some ⟨b1, 1, none⟩)) (Po.to (e_1.2.1, e_1.2.2.1, e_1.2.2.2)), Ch.pv 0 (.pointer av_0) v_0, Ch.ro 0 (Sl ae_1_1_1 e_1.2.2.1 ce_1_1_1) e_1.2.2.1]) from (H.sel' [1, 0, 0, 1, 2] rfl rfl))) wn ?_
  rintro _ σ19 ⟨_, ⟨a18, rfl, rfl⟩, H, -⟩
  replace H : Hp S0 σ0 σ19 [Ch.pv 0 (.pointer a18) r15, Ch.pv 0 (.pointer (some ⟨b1, 1, none⟩)) (Po.to (e_1.2.1, e_1.2.2.1, e_1.2.2.2)), Ch.pv 0 (.pointer av_0) v_0, Ch.ro 0 (Sl ae_1_1_1 e_1.2.2.1 ce_1_1_1) e_1.2.2.1] := H
  refine st (v := (.pointer a18)) (rv_assign rfl) ?_
  refine w_end ?_
  refine q_then ?_
  refine c_ret ?_
  obtain rfl := Option.some.inj h
  exact fin_ret (v := (.pointer a18)) (results_ok Try.results75 (res_tmp (v := (.pointer a18)) rfl res_nil) rfl) ⟨a18, rfl, rfl⟩ (H.sel' [0] rfl rfl)

theorem c_impl_History_versions {h_0 : (List (Int × (Int × (List Int) × Int))) × (List Int)} {ah_0_0 : Option Addr} {ch_0_0 : Nat} {ah_0_1 : Option Addr} {ch_0_1 : Nat} {r : (List (Vr (Int × (List Int) × Int)))} (h : M.impl_History_versions h_0 = some r) :
    Cal2 Try.prog 41 [(.agg #[(Sl ah_0_0 h_0.1 ch_0_0), (Sl ah_0_1 h_0.2 ch_0_1)])] [Ch.ro 0 (Sl ah_0_0 h_0.1 ch_0_0) h_0.1, Ch.ro 0 (Sl ah_0_1 h_0.2 ch_0_1) h_0.2] (fun n0 v L => ∃ (az1 : Option Addr), ∃ (cz2 : Nat), v = (Sl az1 r cz2) ∧ L = [Ch.own n0 0 (Sl az1 r cz2) r]) := by
 refine cal2 (n := 26) Try.func41 rfl rfl rfl rfl ?_
 intro S0 σ0 n0 hn0 H
 unfold M.impl_History_versions at h
 refine c_seq ?_
 refine rg ?_
 refine st_ex (ex_box (cs := [(Sl ah_0_0 h_0.1 ch_0_0), (Sl ah_0_1 h_0.2 ch_0_1)]) H hn0 rfl rfl) wn ?_
 rintro _ σ2 ⟨b1, rfl, H, -⟩
 refine st (v := (.slice none 0 0)) (rv_assign rfl) ?_
 refine w_end ?_
 refine q_then ?_
 refine c_seq ?_
 refine rg ?_
 refine st_ex (ex_buildSlice (el := n0) (xs := ([Vr.nil] : List (Vr (Int × (List Int) × Int)))) (ps := [(0, (.pointer none))]) (cs := [(.pointer none)]) H hn0 Try.underlying69 ti72 rfl rfl (by kernel_rfl) (.cons (c := [(.pointer none)]) ⟨_, rfl, rfl⟩ (.nil)) rfl) wn ?_
 rintro _ σ4 ⟨b3, rfl, H, -⟩
 refine st (v := (Sl (some ⟨b3, 0, none⟩) ([Vr.nil] : List (Vr (Int × (List Int) × Int))) 1)) (rv_assign rfl) ?_
 refine w_end ?_
 refine q_then ?_
 refine c_seq ?_
 refine c_seq ?_
 refine rg ?_
 refine st (v := (pt b1 0)) (rv_fieldAddr (off := 0) (ft := 23) Try.underlying26 rfl ti23 rfl rfl) ?_
 have hc5 := H.cell (u := (Sl ah_0_0 h_0.1 ch_0_0)) (o' := 0) 1 0 rfl rfl rfl
 refine st (v := (Sl ah_0_0 h_0.1 ch_0_0)) (rv_load1 Try.underlying23 rfl rfl hc5) ?_
 refine st (v := (I (h_0.1.length : Int))) (rv_len Try.underlying23 rfl) ?_
 refine st (v := (I 0)) (rv_move rfl) ?_
 refine w_end ?_
 refine q_then ?_
 obtain ⟨o6, hj, h'⟩ := bind_some h
 clear h
 refine c_cut (fun e a w => e = .normal ∧ ∃ (ρ : Nat → Value) (σ : St) (aj1 : Option Addr) (cj2 : Nat), a = fr 26 (updL ρ [(3, (Sl aj1 o6 cj2))]) ∧ w = σ.w ∧ Hp S0 σ0 σ [Ch.own n0 0 (Sl aj1 o6 cj2) o6]) ?_ ?_
 ·clear h'
  rename _ = some o6 => h
  refine c_blk ?_
  replace H := H.ownLow 0 n0 0 rfl (Nat.le_refl _) (Nat.zero_le _)
  refine wp_loopM _ h (fun s7 a w => ∃ (ρ : Nat → Value) (σ : St) (aj1 : Option Addr) (cj2 : Nat), a = fr 26 (updL ρ [(3, (Sl aj1 s7.1 cj2)), (8, (Sl ah_0_0 h_0.1 ch_0_0)), (9, (I (h_0.1.length : Int))), (10, (I s7.2))]) ∧ w = σ.w ∧ Hp S0 σ0 σ [Ch.own n0 0 (Sl aj1 s7.1 cj2) s7.1, Ch.ro 0 (Sl ah_0_0 h_0.1 ch_0_0) h_0.1]) ⟨_, σ4, (some ⟨b3, 0, none⟩), 1, fr_join ⟨rfl, rfl, rfl, rfl, trivial⟩, rfl, H.sel' [0, 2] rfl rfl⟩ ?_
  clear h H
  rintro s7 a w o ⟨ρ, σ8, a9, c10, rfl, rfl, H⟩ h hres
  refine c_seq ?_
  refine rg ?_
  refine st (v := (B (decide (s7.2 < (h_0.1.length : Int))))) (rv_lss (a := s7.2) (b := (h_0.1.length : Int)) rfl rfl) ?_
  refine w_end ?_
  refine q_then ?_
  refine c_seq ?_
  refine cd_cond (decide (s7.2 < (h_0.1.length : Int))) rfl (fun hb11 => ?_) (fun hb11 => ?_)
  ·replace h := bif_t hb11 h
   refine c_skip ?_
   refine q_then ?_
   refine c_seq ?_
   refine c_blk ?_
   refine c_seq ?_
   refine rg ?_
   refine st (v := (I s7.2)) (rv_move rfl) ?_
   obtain ⟨x12, hx13, h'⟩ := bind_some h
   clear h
   have h := h'; clear h'
   obtain ⟨b15, o16, hi14, -⟩ := (H.ro 1 rfl).ix hx13
   refine st (v := (pt b15 o16)) (rv_ix Try.underlying23 ti56 rfl rfl hi14) ?_
   obtain ⟨_, ⟨_, _, rfl, rfl, ⟨_, _, rfl, rfl, ⟨_, _, rfl, ⟨_, rfl, hR21⟩, rfl⟩⟩⟩, hl17, hc18⟩ := ((H.ro 1 rfl).at hx13 hi14).cells
   obtain ⟨a19, c20, rfl⟩ := hR21.isSl
   replace H := H.add (d := Ch.ro 0 (Sl a19 x12.2.2.1 c20) x12.2.2.1) hR21 (fun _ h => h)
   clear hR21
   refine st (v := (.agg #[(I x12.1), (I x12.2.1), (Sl a19 x12.2.2.1 c20), (I x12.2.2.2)])) (rv_load Try.underlying56 rfl ti56 rfl hl17 hc18) ?_
   refine st_ex (ex_alloc (cs := [(I 0), (I 0), (.slice none 0 0), (I 0)]) H hn0 ti56 rfl) wn ?_
   rintro _ σ23 ⟨b22, rfl, H, -⟩
   refine st (v := (I s7.2)) (rv_assign rfl) ?_
   refine st_exS (ex_store_box (k := 0) (cs := [(I 0), (I 0), (.slice none 0 0), (I 0)]) (vs := [(I x12.1), (I x12.2.1), (Sl a19 x12.2.2.1 c20), (I x12.2.2.2)]) (cs' := [(I x12.1), (I x12.2.1), (Sl a19 x12.2.2.1 c20), (I x12.2.2.2)]) H (i := 0) rfl ti56 rfl rfl rfl rfl rfl (Nat.le_of_ble_eq_true rfl) (by simp [plain]) rfl) wn ?_
   rintro σ24 ⟨H, -⟩
   refine w_end ?_
   refine q_then ?_
   obtain ⟨x25, hx26, h'⟩ := bind_some h
   clear h
   have h := h'; clear h'
   obtain ⟨b28, o29, hi27, -⟩ := (H.own 2 rfl).ix hx26
   obtain ⟨v33, hc32, hR31⟩ := ((H.own 2 rfl).at hx26 hi27).vr
   obtain ⟨a30, rfl⟩ := hR31.isPtr
   replace H := H.add (d := Ch.pv 0 (.pointer a30) x25) hR31 (fun _ h => h)
   clear hR31
   have hc34 := H.cells 1 rfl
   obtain ⟨r35, hx36, h'⟩ := bind_some h
   clear h
   have h := h'; clear h'
   have hc37 := c_impl_version_after (av_0 := a30) (ae_1_1_1 := a19) (ce_1_1_1 := c20) hx36
   have Hs := H
   refine rg2 (σ := σ24) (Nm := (Option Addr) × (Nat)) 8 [6, 7] [[false, false], [true, false], [true, true]] [[(0, 0), (1, 1), (2, 2)], [(0, 0)], [(0, 0)], [(0, 0)], [(0, 0)], [(0, 0)], [(0, 1)], [(1, 2)]] 2 [fun ((a38, b39) : (Option Addr) × (Nat)) => fun σm => Hp S0 σ0 σm [Ch.pv 0 (.pointer a30) x25, Ch.bx n0 b22 0 [(I x12.1), (I x12.2.1), (Sl a19 x12.2.2.1 c20), (I x12.2.2.2)] [] [], Ch.ro 0 (Sl a19 x12.2.2.1 c20) x12.2.2.1, Ch.own n0 0 (Sl a9 s7.1 c10) s7.1, Ch.ro 0 (Sl ah_0_0 h_0.1 ch_0_0) h_0.1] ∧ Md (cov []) σ24 σm, fun ((a38, b39) : (Option Addr) × (Nat)) => fun σm => Hp S0 σ0 σm [Ch.pv 0 (.pointer a38) r35, Ch.pv 0 (.pointer a30) x25, Ch.bx n0 b22 0 [(I x12.1), (I x12.2.1), (Sl a19 x12.2.2.1 c20), (I x12.2.2.2)] [] [], Ch.ro 0 (Sl a19 x12.2.2.1 c20) x12.2.2.1, Ch.own n0 0 (Sl a9 s7.1 c10) s7.1, Ch.ro 0 (Sl ah_0_0 h_0.1 ch_0_0) h_0.1] ∧ Md (cov []) σ24 σm, fun ((a38, b39) : (Option Addr) × (Nat)) => fun σm => Hp S0 σ0 σm [Ch.own n0 0 (Sl (some ⟨b39, 0, none⟩) ([r35] : List (Vr (Int × (List Int) × Int))) 1) ([r35] : List (Vr (Int × (List Int) × Int))), Ch.pv 0 (.pointer a38) r35, Ch.pv 0 (.pointer a30) x25, Ch.bx n0 b22 0 [(I x12.1), (I x12.2.1), (Sl a19 x12.2.2.1 c20), (I x12.2.2.2)] [] [], Ch.ro 0 (Sl a19 x12.2.2.1 c20) x12.2.2.1, Ch.own n0 0 (Sl a9 s7.1 c10) s7.1, Ch.ro 0 (Sl ah_0_0 h_0.1 ch_0_0) h_0.1] ∧ Md (cov []) σ24 σm] [fun ((a38, b39) : (Option Addr) × (Nat)) => (Sl a9 s7.1 c10), fun ((a38, b39) : (Option Addr) × (Nat)) => (Sl a9 s7.1 c10), fun ((a38, b39) : (Option Addr) × (Nat)) => (I s7.2), fun ((a38, b39) : (Option Addr) × (Nat)) => (pt b28 o29), fun ((a38, b39) : (Option Addr) × (Nat)) => (.pointer a30), fun ((a38, b39) : (Option Addr) × (Nat)) => (.agg #[(I x12.1), (I x12.2.1), (Sl a19 x12.2.2.1 c20), (I x12.2.2.2)]), fun ((a38, b39) : (Option Addr) × (Nat)) => (.pointer a38), fun ((a38, b39) : (Option Addr) × (Nat)) => (Sl (some ⟨b39, 0, none⟩) ([r35] : List (Vr (Int × (List Int) × Int))) 1)] (none, 0) (by kernel_rfl) (by kernel_rfl) ?_ ?_ ?_
   ·intro σm m0
    exact ⟨H.grow (m0.mono fun _ h => h.elim), m0⟩
   ·refine ac rfl (by
      intro k; rintro ⟨a38, b39⟩ ρ σm hJ hoff hdep
      have e3 := look_off (N := 26) (hoff 3 rfl) rfl
      exact dp_v (v := (Sl a9 s7.1 c10)) wn (rv_move e3) rfl hJ) ?_
    refine ac rfl (by
      intro k; rintro ⟨a38, b39⟩ ρ σm hJ hoff hdep
      have e3 := look_off (N := 26) (hoff 3 rfl) rfl
      exact dp_v (v := (Sl a9 s7.1 c10)) wn (rv_move e3) rfl hJ) ?_
    refine ac rfl (by
      intro k; rintro ⟨a38, b39⟩ ρ σm hJ hoff hdep
      have e4 := look_off (N := 26) (hoff 4 rfl) rfl
      exact dp_v (v := (I s7.2)) wn (rv_move e4) rfl hJ) ?_
    refine ac rfl (by
      intro k; rintro ⟨a38, b39⟩ ρ σm hJ hoff hdep
      have e16 := hdep 1 rfl rfl 16 rfl
      have e17 := hdep 2 rfl rfl 17 rfl
      exact dp_v (v := (pt b28 o29)) wn (rv_ix Try.underlying69 ti72 e16 e17 hi27) rfl hJ) ?_
    refine all_cons (by
      refine ⟨?_, ?_⟩
      ·rintro ⟨a38, b39⟩ ρ σm hJ hoff hdep
       have e18 := hdep 3 rfl rfl 18 rfl
       obtain ⟨H, m⟩ := id hJ
       replace hc32 := m.hcell hc32 nocov
       exact dp_v (v := (.pointer a30)) wn (rv_load1 Try.underlying72 rfl e18 hc32) rfl hJ
      trivial) ?_
    refine all_cons (by
      refine ⟨?_, ?_⟩
      ·rintro ⟨a38, b39⟩ ρ σm hJ hoff hdep
       have e5 := look_off (N := 26) (hoff 5 rfl) rfl
       obtain ⟨H, m⟩ := id hJ
       have hc34 := H.cells 1 rfl
       exact dp_v (v := (.agg #[(I x12.1), (I x12.2.1), (Sl a19 x12.2.2.1 c20), (I x12.2.2.2)])) wn (rv_load (cs := [(I x12.1), (I x12.2.1), (Sl a19 x12.2.2.1 c20), (I x12.2.2.2)]) Try.underlying56 rfl ti56 e5 rfl hc34) rfl hJ
      trivial) ?_
    refine all_cons (by
      refine ⟨?_, ?_⟩
      ·rintro ⟨a38, b39⟩ ρ σm hJ hoff hdep
       have e19 : look 26 ρ 19 = (.pointer a30) := hdep 4 rfl rfl 19 rfl
       have e20 : look 26 ρ 20 = (.agg #[(I x12.1), (I x12.2.1), (Sl a19 x12.2.2.1 c20), (I x12.2.2.2)]) := hdep 5 rfl rfl 20 rfl
       obtain ⟨H, m⟩ := id hJ
       refine dp_cx wn (cx_call hc37 (ent_f hc37.fn (by show [look 26 ρ 19, look 26 ρ 20] = _; rw [e19, e20])) hn0 (show Hp S0 σ0 _ ([Ch.pv 0 (.pointer a30) x25, Ch.ro 0 (Sl a19 x12.2.2.1 c20) x12.2.2.1] ++ [Ch.pv 0 (.pointer a30) x25, Ch.bx n0 b22 0 [(I x12.1), (I x12.2.1), (Sl a19 x12.2.2.1 c20), (I x12.2.2.2)] [] [], Ch.ro 0 (Sl a19 x12.2.2.1 c20) x12.2.2.1, Ch.own n0 0 (Sl a9 s7.1 c10) s7.1, Ch.ro 0 (Sl ah_0_0 h_0.1 ch_0_0) h_0.1]) from (H.sel' [0, 2, 0, 1, 2, 3, 4] rfl rfl))) ?_
       rintro _ σq ⟨_, ⟨a38x, rfl, rfl⟩, H2, m2⟩
       exact ⟨_, (a38x, b39), rfl, rfl, ⟨H2.sel' [0, 1, 2, 3, 4, 5] rfl rfl, m.comp0 (m2.mono (fun i h => by simp [cov, Ch.ro, Ch.pv] at h))⟩, stab [0, 1, 2, 3, 4, 5] (by kernel_rfl) ⟨rfl, rfl, rfl, rfl, rfl, rfl, trivial⟩⟩
      trivial) ?_
    refine all_cons (by
      refine ⟨?_, ?_⟩
      ·rintro ⟨a38, b39⟩ ρ σm hJ hoff hdep
       have e21 : look 26 ρ 21 = (.pointer a38) := hdep 6 rfl rfl 21 rfl
       obtain ⟨H, m⟩ := id hJ
       refine dp_ex wn (ex_buildSlice (el := 0) (xs := ([r35] : List (Vr (Int × (List Int) × Int)))) (ps := [(0, (.pointer a38))]) (cs := [(.pointer a38)]) H hn0 Try.underlying69 ti72 rfl (by show [(0, look 26 ρ 21)] = _; rw [e21]) (by kernel_rfl) (.cons (c := [(.pointer a38)]) ⟨_, rfl, (H.pv 0 rfl)⟩ (.nil)) rfl) ?_
       rintro _ σq ⟨b39x, rfl, H2, m2⟩
       exact ⟨_, (a38, b39x), rfl, rfl, ⟨H2.sel' [0, 1, 2, 3, 4, 5, 6] rfl rfl, m.comp0 m2⟩, stab [0, 1, 2, 3, 4, 5, 6] (by kernel_rfl) ⟨rfl, rfl, rfl, rfl, rfl, rfl, rfl, trivial⟩⟩
      trivial) ?_
    exact all_nil
   ·rintro ⟨a38, b39⟩ ρ σ40 hJ hoff hrel
    have e8 := look_off (N := 26) (hoff 8 rfl) rfl
    have e9 := look_off (N := 26) (hoff 9 rfl) rfl
    have e10 := look_off (N := 26) (hoff 10 rfl) rfl
    have e15 := hrel 0 rfl 15 rfl
    have e22 := hrel 7 rfl 22 rfl
    obtain ⟨H, -⟩ := (show Hp S0 σ0 σ40 [Ch.own n0 0 (Sl (some ⟨b39, 0, none⟩) ([r35] : List (Vr (Int × (List Int) × Int))) 1) ([r35] : List (Vr (Int × (List Int) × Int))), Ch.pv 0 (.pointer a38) r35, Ch.pv 0 (.pointer a30) x25, Ch.bx n0 b22 0 [(I x12.1), (I x12.2.1), (Sl a19 x12.2.2.1 c20), (I x12.2.2.2)] [] [], Ch.ro 0 (Sl a19 x12.2.2.1 c20) x12.2.2.1, Ch.own n0 0 (Sl a9 s7.1 c10) s7.1, Ch.ro 0 (Sl ah_0_0 h_0.1 ch_0_0) h_0.1] ∧ Md (cov []) σ24 σ40 from hJ)
    clear hJ Hs
    rw [fr_lookL (L := [(8, (Sl ah_0_0 h_0.1 ch_0_0)), (9, (I (h_0.1.length : Int))), (10, (I s7.2)), (15, (Sl a9 s7.1 c10)), (22, (Sl (some ⟨b39, 0, none⟩) ([r35] : List (Vr (Int × (List Int) × Int))) 1))]) ⟨e8, e9, e10, e15, e22, trivial⟩]
    clear hoff hrel e8 e9 e10 e15 e22
    obtain ⟨xs41, hx42, h'⟩ := bind_some h
    clear h
    have h := h'; clear h'
    refine st_ex (ex_append H (i := 5) rfl Try.underlying69 Try.underlying69 ti72 rfl rfl (by decide) (H.own 0 rfl).rd hx42 hn0 rfl rfl) wn ?_
    rintro _ σ45 ⟨a43, c44, rfl, H, -⟩
    refine st (v := (Sl a43 xs41 c44)) (rv_assign rfl) ?_
    refine w_end ?_
    refine q_blk ?_
    refine q_then ?_
    refine rg ?_
    refine st (v := (I (w64 (s7.2 + 1)))) (rv_add (a := s7.2) (b := 1) rfl rfl) ?_
    refine st (v := (I (w64 (s7.2 + 1)))) (rv_move rfl) ?_
    refine w_end ?_
    refine q_then ?_
    obtain rfl := Option.some.inj h
    exact ⟨_, rfl, _, σ45, a43, c44, fr_join ⟨rfl, rfl, rfl, rfl, trivial⟩, rfl, H.sel' [0, 6] rfl rfl⟩
  ·replace h := bif_f hb11 h
   refine c_exit ?_
   refine q_then_x ?_
   refine q_then_x ?_
   refine q_blk_hit ?_
   obtain rfl := Option.some.inj h
   obtain rfl := hres _ rfl
   exact ⟨rfl, _, σ8, a9, c10, fr_join ⟨rfl, trivial⟩, rfl, H.sel' [0] rfl rfl⟩
 ·clear hj
  have h := h'
  clear h' H
  rintro e a w ⟨rfl, ρ, σ46, a47, c48, rfl, rfl, H⟩
  refine q_then ?_
  refine c_seq ?_
  refine rg ?_
  refine st (v := (Sl a47 o6 c48)) (rv_move rfl) ?_
  refine st (v := (Sl a47 o6 c48)) (rv_assign rfl) ?_
  refine w_end ?_
  refine q_then ?_
  refine c_ret ?_
  obtain rfl := Option.some.inj h
  exact fin_ret (v := (Sl a47 o6 c48)) (results_ok Try.results41 (res_tmp (v := (Sl a47 o6 c48)) rfl res_nil) rfl) ⟨a47, c48, rfl, rfl⟩ (H.sel' [0] rfl rfl)

theorem c_slices_Equal_int_int {s1_0 : List Int} {s2_1 : List Int} {as1_0 : Option Addr} {cs1_0 : Nat} {as2_1 : Option Addr} {cs2_1 : Nat} {r : Bool} (h : M.slices_Equal_int_int s1_0 s2_1 = some r) :
    Cal2 Try.prog 97 [(Sl as1_0 s1_0 cs1_0), (Sl as2_1 s2_1 cs2_1)] [Ch.ro 0 (Sl as1_0 s1_0 cs1_0) s1_0, Ch.ro 0 (Sl as2_1 s2_1 cs2_1) s2_1] (fun n0 v L => v = (B r) ∧ L = []) := by
 refine cal2 (n := 26) Try.func97 rfl rfl rfl rfl ?_
 intro S0 σ0 n0 hn0 H
 unfold M.slices_Equal_int_int at h
 refine c_seq ?_
 refine rg ?_
 refine st (v := (B false)) (rv_assign rfl) ?_
 refine w_end ?_
 refine q_then ?_
 refine c_seq ?_
 refine c_seq ?_
 refine rg ?_
 refine st (v := (Sl as1_0 s1_0 cs1_0)) (rv_move rfl) ?_
 refine st (v := (I (s1_0.length : Int))) (rv_len Try.underlying24 rfl) ?_
 refine st (v := (Sl as2_1 s2_1 cs2_1)) (rv_move rfl) ?_
 refine st (v := (I (s2_1.length : Int))) (rv_len Try.underlying24 rfl) ?_
 refine st (v := (B ((s1_0.length : Int) != (s2_1.length : Int)))) (rv_neq (a := (s1_0.length : Int)) (b := (s2_1.length : Int)) rfl rfl) ?_
 refine w_end ?_
 refine q_then ?_
 refine cd_cond ((s1_0.length : Int) != (s2_1.length : Int)) rfl (fun hb1 => ?_) (fun hb1 => ?_)
 ·replace h := bif_t hb1 h
  refine c_seq ?_
  refine rg ?_
  refine st (v := (B false)) (rv_assign rfl) ?_
  refine w_end ?_
  refine q_then ?_
  refine c_ret ?_
  refine q_then_r ?_
  obtain rfl := Option.some.inj h
  exact fin_ret (v := (B false)) (results_ok Try.results97 (res_tmp (v := (B false)) rfl res_nil) rfl) ⟨rfl, rfl⟩ (H.sel' [] rfl rfl)
 ·replace h := bif_f hb1 h
  refine c_skip ?_
  refine q_then ?_
  refine c_seq ?_
  refine c_seq ?_
  refine rg ?_
  refine st (v := (Sl as1_0 s1_0 cs1_0)) (rv_move rfl) ?_
  refine st (v := (I (s1_0.length : Int))) (rv_len Try.underlying24 rfl) ?_
  refine st (v := (I 0)) (rv_move rfl) ?_
  refine w_end ?_
  refine q_then ?_
  obtain ⟨o2, hj, h'⟩ := bind_some h
  clear h
  refine c_cut (fun e a w => (∃ t, o2 = (.inl t) ∧ e = .normal ∧ ∃ (ρ : Nat → Value) (σ : St), a = fr 26 (updL ρ []) ∧ w = σ.w ∧ Hp S0 σ0 σ []) ∨ (∃ t, o2 = (.inr t) ∧ e = .ret ∧ ∃ (ρ : Nat → Value) (σ : St), a = fr 26 (updL ρ [(4, (B t))]) ∧ w = σ.w ∧ Hp S0 σ0 σ [])) ?_ ?_
  ·clear h'
   rename _ = some o2 => h
   refine c_blk ?_
   refine wp_loopM _ h (fun s3 a w => ∃ (ρ : Nat → Value) (σ : St), a = fr 26 (updL ρ [(0, (Sl as1_0 s1_0 cs1_0)), (1, (Sl as2_1 s2_1 cs2_1)), (12, (I (s1_0.length : Int))), (13, (I s3))]) ∧ w = σ.w ∧ Hp S0 σ0 σ [Ch.ro 0 (Sl as1_0 s1_0 cs1_0) s1_0, Ch.ro 0 (Sl as2_1 s2_1 cs2_1) s2_1]) ⟨_, σ0, fr_join ⟨rfl, rfl, rfl, rfl, trivial⟩, rfl, H.sel' [0, 1] rfl rfl⟩ ?_
   clear h H
   rintro s3 a w o ⟨ρ, σ4, rfl, rfl, H⟩ h hres
   refine c_seq ?_
   refine rg ?_
   refine st (v := (B (decide (s3 < (s1_0.length : Int))))) (rv_lss (a := s3) (b := (s1_0.length : Int)) rfl rfl) ?_
   refine w_end ?_
   refine q_then ?_
   refine c_seq ?_
   refine cd_cond (decide (s3 < (s1_0.length : Int))) rfl (fun hb5 => ?_) (fun hb5 => ?_)
   ·replace h := bif_t hb5 h
    refine c_skip ?_
    refine q_then ?_
    refine c_seq ?_
    refine c_blk ?_
    refine c_seq ?_
    refine rg ?_
    refine st (v := (I s3)) (rv_move rfl) ?_
    refine st (v := (I s3)) (rv_assign rfl) ?_
    refine w_end ?_
    refine q_then ?_
    refine c_seq ?_
    refine rgP (σ := σ4) 8 (by kernel_rfl) (by kernel_rfl) (by kernel_rfl) ?_
    refine sq (v := (Sl as1_0 s1_0 cs1_0)) (rv_move rfl) ?_
    refine sq (v := (I s3)) (rv_move rfl) ?_
    obtain ⟨x6, hx7, h'⟩ := bind_some h
    clear h
    have h := h'; clear h'
    obtain ⟨b9, o10, hi8, -⟩ := (H.ro 0 rfl).ix hx7
    refine sq (v := (pt b9 o10)) (rv_ix Try.underlying24 ti3 rfl rfl hi8) ?_
    have hc11 := ((H.ro 0 rfl).at hx7 hi8).int
    refine sq (v := (I x6)) (rv_load1 Try.underlying3 rfl rfl hc11) ?_
    refine sq (v := (Sl as2_1 s2_1 cs2_1)) (rv_move rfl) ?_
    refine sq (v := (I s3)) (rv_move rfl) ?_
    obtain ⟨x12, hx13, h'⟩ := bind_some h
    clear h
    have h := h'; clear h'
    obtain ⟨b15, o16, hi14, -⟩ := (H.ro 1 rfl).ix hx13
    refine sq (v := (pt b15 o16)) (rv_ix Try.underlying24 ti3 rfl rfl hi14) ?_
    have hc17 := ((H.ro 1 rfl).at hx13 hi14).int
    refine sq (v := (I x12)) (rv_load1 Try.underlying3 rfl rfl hc17) ?_
    refine sq_end ?_
    intro σ18 hm19
    replace H := H.grow (hm19.mono fun _ h => h); clear hm19
    refine st (v := (B (x6 != x12))) (rv_neq (a := x6) (b := x12) rfl rfl) ?_
    refine w_end ?_
    refine q_then ?_
    refine cd_cond (x6 != x12) rfl (fun hb20 => ?_) (fun hb20 => ?_)
    ·replace h := bif_t hb20 h
     refine c_seq ?_
     refine rg ?_
     refine st (v := (B false)) (rv_assign rfl) ?_
     refine w_end ?_
     refine q_then ?_
     refine c_ret ?_
     refine q_blk_r ?_
     refine q_then_r ?_
     refine q_then_r ?_
     refine q_blk_r ?_
     obtain rfl := Option.some.inj h
     obtain rfl := hres _ rfl
     exact .inr (⟨_, rfl, rfl, _, σ18, fr_join ⟨rfl, trivial⟩, rfl, H.sel' [] rfl rfl⟩)
    ·replace h := bif_f hb20 h
     refine c_skip ?_
     refine q_blk ?_
     refine q_then ?_
     refine rg ?_
     refine st (v := (I (w64 (s3 + 1)))) (rv_add (a := s3) (b := 1) rfl rfl) ?_
     refine st (v := (I (w64 (s3 + 1)))) (rv_move rfl) ?_
     refine w_end ?_
     refine q_then ?_
     obtain rfl := Option.some.inj h
     exact ⟨_, rfl, _, σ18, fr_join ⟨rfl, rfl, rfl, rfl, trivial⟩, rfl, H.sel' [0, 1] rfl rfl⟩
   ·replace h := bif_f hb5 h
    refine c_exit ?_
    refine q_then_x ?_
    refine q_then_x ?_
    refine q_blk_hit ?_
    obtain rfl := Option.some.inj h
    obtain rfl := hres _ rfl
    exact .inl ⟨_, rfl, rfl, _, σ4, fr_join trivial, rfl, H.sel' [] rfl rfl⟩
  ·clear hj
   have h := h'
   clear h' H
   rintro e a w (⟨t21, rfl, rfl, ρ, σ22, rfl, rfl, H⟩ | ⟨t23, rfl, rfl, ρ, σ24, rfl, rfl, H⟩)
   ·replace h := selim_l h
    refine q_then ?_
    refine c_seq ?_
    refine rg ?_
    refine st (v := (B true)) (rv_assign rfl) ?_
    refine w_end ?_
    refine q_then ?_
    refine c_ret ?_
    obtain rfl := Option.some.inj h
    exact fin_ret (v := (B true)) (results_ok Try.results97 (res_tmp (v := (B true)) rfl res_nil) rfl) ⟨rfl, rfl⟩ (H.sel' [] rfl rfl)
   ·replace h := selim_r h
    refine q_then_r ?_
    obtain rfl := Option.some.inj h
    exact fin_ret (v := (B t23)) (results_ok Try.results97 (res_tmp (v := (B t23)) rfl res_nil) rfl) ⟨rfl, rfl⟩ (H.sel' [] rfl rfl)

theorem c_impl_equalItems {a_0 : Int × (List Int) × Int} {b_1 : Int × (List Int) × Int} {aa_0_1 : Option Addr} {ca_0_1 : Nat} {ab_1_1 : Option Addr} {cb_1_1 : Nat} {r : Bool} (h : M.impl_equalItems a_0 b_1 = some r) :
    Cal2 Try.prog 77 [(.agg #[(I a_0.1), (Sl aa_0_1 a_0.2.1 ca_0_1), (I a_0.2.2)]), (.agg #[(I b_1.1), (Sl ab_1_1 b_1.2.1 cb_1_1), (I b_1.2.2)])] [Ch.ro 0 (Sl aa_0_1 a_0.2.1 ca_0_1) a_0.2.1, Ch.ro 0 (Sl ab_1_1 b_1.2.1 cb_1_1) b_1.2.1] (fun n0 v L => v = (B r) ∧ L = []) := by
 refine cal2 (n := 24) Try.func77 rfl rfl rfl rfl ?_
 intro S0 σ0 n0 hn0 H
 unfold M.impl_equalItems at h
 refine c_seq ?_
 refine rg ?_
 refine st_ex (ex_box (cs := [(I a_0.1), (Sl aa_0_1 a_0.2.1 ca_0_1), (I a_0.2.2)]) H hn0 rfl rfl) wn ?_
 rintro _ σ2 ⟨b1, rfl, H, -⟩
 refine st_ex (ex_box (cs := [(I b_1.1), (Sl ab_1_1 b_1.2.1 cb_1_1), (I b_1.2.2)]) H hn0 rfl rfl) wn ?_
 rintro _ σ4 ⟨b3, rfl, H, -⟩
 refine st (v := (B false)) (rv_assign rfl) ?_
 refine w_end ?_
 refine q_then ?_
 refine c_seq ?_
 refine rg ?_
 refine st (v := (pt b1 0)) (rv_fieldAddr (off := 0) (ft := 3) Try.underlying36 rfl ti3 rfl rfl) ?_
 have hc5 := H.cell (u := (I a_0.1)) (o' := 0) 1 0 rfl rfl rfl
 refine st (v := (I a_0.1)) (rv_load1 Try.underlying3 rfl rfl hc5) ?_
 refine st (v := (pt b3 0)) (rv_fieldAddr (off := 0) (ft := 3) Try.underlying36 rfl ti3 rfl rfl) ?_
 have hc6 := H.cell (u := (I b_1.1)) (o' := 0) 0 0 rfl rfl rfl
 refine st (v := (I b_1.1)) (rv_load1 Try.underlying3 rfl rfl hc6) ?_
 refine st (v := (B (a_0.1 == b_1.1))) (rv_eql (a := a_0.1) (b := b_1.1) rfl rfl) ?_
 refine st (v := (B (a_0.1 == b_1.1))) (rv_move rfl) ?_
 rcases Bool.eq_false_or_eq_true (a_0.1 == b_1.1) with hb7 | hb7
 ·replace h := bif_t hb7 h
  refine st_g (v := (pt b1 2)) (congrArg some hb7) (rv_fieldAddr (off := 2) (ft := 3) Try.underlying36 rfl ti3 rfl rfl) ?_
  have hc8 := H.cell (u := (I a_0.2.2)) (o' := 2) 1 2 rfl rfl rfl
  refine st_g (v := (I a_0.2.2)) (congrArg some hb7) (rv_load1 Try.underlying3 rfl rfl hc8) ?_
  refine st_g (v := (pt b3 2)) (congrArg some hb7) (rv_fieldAddr (off := 2) (ft := 3) Try.underlying36 rfl ti3 rfl rfl) ?_
  have hc9 := H.cell (u := (I b_1.2.2)) (o' := 2) 0 2 rfl rfl rfl
  refine st_g (v := (I b_1.2.2)) (congrArg some hb7) (rv_load1 Try.underlying3 rfl rfl hc9) ?_
  refine st_g (v := (B (a_0.2.2 == b_1.2.2))) (congrArg some hb7) (rv_eql (a := a_0.2.2) (b := b_1.2.2) rfl rfl) ?_
  refine st (v := (B (a_0.2.2 == b_1.2.2))) (rv_pick_t (congrArg B hb7) rfl) ?_
  refine st (v := (B (a_0.2.2 == b_1.2.2))) (rv_move rfl) ?_
  rcases Bool.eq_false_or_eq_true (a_0.2.2 == b_1.2.2) with hb10 | hb10
  ·replace h := bif_t hb10 h
   refine st_g (v := (pt b1 1)) (congrArg some hb10) (rv_fieldAddr (off := 1) (ft := 24) Try.underlying36 rfl ti24 rfl rfl) ?_
   have hc11 := H.cell (u := (Sl aa_0_1 a_0.2.1 ca_0_1)) (o' := 1) 1 1 rfl rfl rfl
   refine st_g (v := (Sl aa_0_1 a_0.2.1 ca_0_1)) (congrArg some hb10) (rv_load1 Try.underlying24 rfl rfl hc11) ?_
   refine st_g (v := (pt b3 1)) (congrArg some hb10) (rv_fieldAddr (off := 1) (ft := 24) Try.underlying36 rfl ti24 rfl rfl) ?_
   have hc12 := H.cell (u := (Sl ab_1_1 b_1.2.1 cb_1_1)) (o' := 1) 0 1 rfl rfl rfl
   refine st_g (v := (Sl ab_1_1 b_1.2.1 cb_1_1)) (congrArg some hb10) (rv_load1 Try.underlying24 rfl rfl hc12) ?_
   obtain ⟨r13, hx14, h'⟩ := bind_some h
   clear h
   have h := h'; clear h'
   have hc15 := c_slices_Equal_int_int (as1_0 := aa_0_1) (cs1_0 := ca_0_1) (as2_1 := ab_1_1) (cs2_1 := cb_1_1) hx14
   refine st_call (cx_call hc15 (ent_f hc15.fn rfl) hn0 (show Hp S0 σ0 _ ([Ch.ro 0 (Sl aa_0_1 a_0.2.1 ca_0_1) a_0.2.1, Ch.ro 0 (Sl ab_1_1 b_1.2.1 cb_1_1) b_1.2.1] ++ [Ch.bx n0 b3 0 [(I b_1.1), (Sl ab_1_1 b_1.2.1 cb_1_1), (I b_1.2.2)] [] [], Ch.bx n0 b1 0 [(I a_0.1), (Sl aa_0_1 a_0.2.1 ca_0_1), (I a_0.2.2)] [] [], Ch.ro 0 (Sl aa_0_1 a_0.2.1 ca_0_1) a_0.2.1, Ch.ro 0 (Sl ab_1_1 b_1.2.1 cb_1_1) b_1.2.1]) from (H.sel' [2, 3, 0, 1, 2, 3] rfl rfl))) (wanted_yes rfl (by exact (congrArg some hb10))) ?_
   rintro _ σ16 ⟨_, ⟨rfl, rfl⟩, H, -⟩
   replace H : Hp S0 σ0 σ16 [Ch.bx n0 b3 0 [(I b_1.1), (Sl ab_1_1 b_1.2.1 cb_1_1), (I b_1.2.2)] [] [], Ch.bx n0 b1 0 [(I a_0.1), (Sl aa_0_1 a_0.2.1 ca_0_1), (I a_0.2.2)] [] [], Ch.ro 0 (Sl aa_0_1 a_0.2.1 ca_0_1) a_0.2.1, Ch.ro 0 (Sl ab_1_1 b_1.2.1 cb_1_1) b_1.2.1] := H
   refine st (v := (B r13)) (rv_pick_t (congrArg B hb10) rfl) ?_
   refine st (v := (B r13)) (rv_assign rfl) ?_
   refine w_end ?_
   refine q_then ?_
   refine c_ret ?_
   obtain rfl := Option.some.inj h
   exact fin_ret (v := (B r13)) (results_ok Try.results77 (res_tmp (v := (B r13)) rfl res_nil) rfl) ⟨rfl, rfl⟩ (H.sel' [] rfl rfl)
  ·replace h := bif_f hb10 h
   refine st_skip (congrArg some hb10) ?_
   refine st_skip (congrArg some hb10) ?_
   refine st_skip (congrArg some hb10) ?_
   refine st_skip (congrArg some hb10) ?_
   refine st_skip (congrArg some hb10) ?_
   refine st (v := (B false)) (rv_pick_f (congrArg B hb10) rfl) ?_
   refine st (v := (B false)) (rv_assign rfl) ?_
   refine w_end ?_
   refine q_then ?_
   refine c_ret ?_
   obtain rfl := Option.some.inj h
   exact fin_ret (v := (B false)) (results_ok Try.results77 (res_tmp (v := (B false)) rfl res_nil) rfl) ⟨rfl, rfl⟩ (H.sel' [] rfl rfl)
 ·replace h := bif_f hb7 h
  refine st_skip (congrArg some hb7) ?_
  refine st_skip (congrArg some hb7) ?_
  refine st_skip (congrArg some hb7) ?_
  refine st_skip (congrArg some hb7) ?_
  refine st_skip (congrArg some hb7) ?_
  refine st (v := (B false)) (rv_pick_f (congrArg B hb7) rfl) ?_
  refine st (v := (B false)) (rv_move rfl) ?_
  refine st_skip rfl ?_
  refine st_skip rfl ?_
  refine st_skip rfl ?_
  refine st_skip rfl ?_
  refine st_skip rfl ?_
  refine st (v := (B false)) (rv_pick_f rfl rfl) ?_
  refine st (v := (B false)) (rv_assign rfl) ?_
  refine w_end ?_
  refine q_then ?_
  refine c_ret ?_
  obtain rfl := Option.some.inj h
  exact fin_ret (v := (B false)) (results_ok Try.results77 (res_tmp (v := (B false)) rfl res_nil) rfl) ⟨rfl, rfl⟩ (H.sel' [] rfl rfl)

theorem c_impl_appendChanged : ∀ (fuel : Nat) {keys_0 : List Int} {v_1 : Vr (Int × (List Int) × Int)} {w_2 : Vr (Int × (List Int) × Int)} {akeys_0 : Option Addr} {ckeys_0 : Nat} {av_1 : Option Addr} {aw_2 : Option Addr} {r : (List Int)} (h : M.impl_appendChanged fuel keys_0 v_1 w_2 = some r),
    Cal2 Try.prog 42 [(Sl akeys_0 keys_0 ckeys_0), (.pointer av_1), (.pointer aw_2)] [Ch.own 0 0 (Sl akeys_0 keys_0 ckeys_0) keys_0, Ch.pv 0 (.pointer av_1) v_1, Ch.pv 0 (.pointer aw_2) w_2] (fun n0 v L => ∃ (az1 : Option Addr), ∃ (cz2 : Nat), v = (Sl az1 r cz2) ∧ L = [Ch.own 0 n0 (Sl az1 r cz2) r]) := by
 intro fuel
 induction fuel with
 | zero => intro _ _ _ _ _ _ _ r h; cases h
 | succ fuel ih =>
 ·intro keys_0 v_1 w_2 akeys_0 ckeys_0 av_1 aw_2 r h
  replace h : M.impl_appendChanged_F (M.impl_appendChanged fuel) keys_0 v_1 w_2 = some r := h
  refine cal2 (n := 79) Try.func42 rfl rfl rfl rfl ?_
  intro S0 σ0 n0 hn0 H
  unfold M.impl_appendChanged_F at h
  refine c_seq ?_
  refine rg ?_
  refine st (v := (.slice none 0 0)) (rv_assign rfl) ?_
  refine w_end ?_
  refine q_then ?_
  refine c_seq ?_
  refine c_seq ?_
  refine rg ?_
  refine st (v := (.pointer av_1)) (rv_move rfl) ?_
  refine st (v := (.pointer aw_2)) (rv_move rfl) ?_
  refine st (v := (B (peq av_1 aw_2))) (rv_eqlV Try.underlying72 ti102 rfl (H.pv 1 rfl) (H.pv 2 rfl) rfl rfl) ?_
  refine w_end ?_
  refine q_then ?_
  refine cd_cond (peq av_1 aw_2) rfl (fun hb1 => ?_) (fun hb1 => ?_)
  ·have hq := PV.same hb1 (H.pv 1 rfl) (H.pv 2 rfl)
   replace h := gboth_t hq h
   clear hq
   refine c_seq ?_
   refine rg ?_
   refine st (v := (Sl akeys_0 keys_0 ckeys_0)) (rv_move rfl) ?_
   refine st (v := (Sl akeys_0 keys_0 ckeys_0)) (rv_assign rfl) ?_
   refine w_end ?_
   refine q_then ?_
   refine c_ret ?_
   refine q_then_r ?_
   replace H := H.ownSc 0 0 n0 rfl (Nat.le_refl _)
   obtain rfl := Option.some.inj h
   exact fin_ret (v := (Sl akeys_0 keys_0 ckeys_0)) (results_ok Try.results42 (res_tmp (v := (Sl akeys_0 keys_0 ckeys_0)) rfl res_nil) rfl) ⟨akeys_0, ckeys_0, rfl, rfl⟩ (H.sel' [0] rfl rfl)
  ·replace h := gboth_f (PV.other hb1 (H.pv 1 rfl) (H.pv 2 rfl)) h
   refine c_skip ?_
   refine q_then ?_
   refine c_seq ?_
   refine rg ?_
   refine st (v := (.pointer av_1)) (rv_move rfl) ?_
   obtain ⟨r2, hx3, h'⟩ := bind_some h
   clear h
   have h := h'; clear h'
   have hc4 := c_impl_version_node (av_0 := av_1) hx3
   refine st_call (cx_call hc4 (ent_f hc4.fn rfl) hn0 (show Hp S0 σ0 _ ([Ch.pv 0 (.pointer av_1) v_1] ++ [Ch.own 0 0 (Sl akeys_0 keys_0 ckeys_0) keys_0, Ch.pv 0 (.pointer av_1) v_1, Ch.pv 0 (.pointer aw_2) w_2]) from (H.sel' [1, 0, 1, 2] rfl rfl))) wn ?_
   rintro _ σ8 ⟨_, ⟨a5, a6, a7, rfl, rfl⟩, H, -⟩
   replace H : Hp S0 σ0 σ8 [Ch.pv 0 (.pointer a5) r2.1, Ch.pv 0 (.pointer a6) r2.2.1, Ch.pv 0 (.pointer a7) r2.2.2, Ch.own 0 0 (Sl akeys_0 keys_0 ckeys_0) keys_0, Ch.pv 0 (.pointer av_1) v_1, Ch.pv 0 (.pointer aw_2) w_2] := H
   refine st (v := (.pointer aw_2)) (rv_move rfl) ?_
   obtain ⟨r9, hx10, h'⟩ := bind_some h
   clear h
   have h := h'; clear h'
   have hc11 := c_impl_version_node (av_0 := aw_2) hx10
   refine st_call (cx_call hc11 (ent_f hc11.fn rfl) hn0 (show Hp S0 σ0 _ ([Ch.pv 0 (.pointer aw_2) w_2] ++ [Ch.pv 0 (.pointer a5) r2.1, Ch.pv 0 (.pointer a6) r2.2.1, Ch.pv 0 (.pointer a7) r2.2.2, Ch.own 0 0 (Sl akeys_0 keys_0 ckeys_0) keys_0, Ch.pv 0 (.pointer av_1) v_1, Ch.pv 0 (.pointer aw_2) w_2]) from (H.sel' [5, 0, 1, 2, 3, 4, 5] rfl rfl))) wn ?_
   rintro _ σ15 ⟨_, ⟨a12, a13, a14, rfl, rfl⟩, H, -⟩
   replace H : Hp S0 σ0 σ15 [Ch.pv 0 (.pointer a12) r9.1, Ch.pv 0 (.pointer a13) r9.2.1, Ch.pv 0 (.pointer a14) r9.2.2, Ch.pv 0 (.pointer a5) r2.1, Ch.pv 0 (.pointer a6) r2.2.1, Ch.pv 0 (.pointer a7) r2.2.2, Ch.own 0 0 (Sl akeys_0 keys_0 ckeys_0) keys_0, Ch.pv 0 (.pointer av_1) v_1, Ch.pv 0 (.pointer aw_2) w_2] := H
   replace H : Hp S0 σ0 σ15 [Ch.pv 0 (.pointer a12) r9.1, Ch.pv 0 (.pointer a13) r9.2.1, Ch.pv 0 (.pointer a14) r9.2.2, Ch.pv 0 (.pointer a5) r2.1, Ch.pv 0 (.pointer a6) r2.2.1, Ch.pv 0 (.pointer a7) r2.2.2, Ch.own 0 0 (Sl akeys_0 keys_0 ckeys_0) keys_0] := H.sel' [0, 1, 2, 3, 4, 5, 6] rfl rfl
   refine st_ex (ex_alloc (cs := [(.pointer none), (.pointer none), (.pointer none)]) H hn0 ti102 rfl) wn ?_
   rintro _ σ17 ⟨b16, rfl, H, -⟩
   refine st_ex (ex_alloc (cs := [(.pointer none), (.pointer none), (.pointer none)]) H hn0 ti102 rfl) wn ?_
   rintro _ σ19 ⟨b18, rfl, H, -⟩
   refine st_exS (ex_store_box (k := 0) (cs := [(.pointer none), (.pointer none), (.pointer none)]) (vs := [(.pointer a5), (.pointer a6), (.pointer a7)]) (cs' := [(.pointer a5), (.pointer a6), (.pointer a7)]) H (i := 1) rfl ti102 rfl rfl rfl rfl rfl (Nat.le_of_ble_eq_true rfl) (by simp [plain]) rfl) wn ?_
   rintro σ20 ⟨H, -⟩
   refine st_exS (ex_store_box (k := 0) (cs := [(.pointer none), (.pointer none), (.pointer none)]) (vs := [(.pointer a12), (.pointer a13), (.pointer a14)]) (cs' := [(.pointer a12), (.pointer a13), (.pointer a14)]) H (i := 1) rfl ti102 rfl rfl rfl rfl rfl (Nat.le_of_ble_eq_true rfl) (by simp [plain]) rfl) wn ?_
   rintro σ21 ⟨H, -⟩
   refine w_end ?_
   refine q_then ?_
   refine c_seq ?_
   refine c_seq ?_
   refine rg ?_
   refine st (v := (I 0)) (rv_move rfl) ?_
   refine w_end ?_
   refine q_then ?_
   obtain ⟨o22, hj, h'⟩ := bind_some h
   clear h
   refine c_cut (fun e a w => e = .normal ∧ ∃ (ρ : Nat → Value) (σ : St) (aj1 : Option Addr) (cj2 : Nat), a = fr 79 (updL ρ [(0, (Sl aj1 o22 cj2)), (7, (pt b16 0)), (8, (pt b18 0))]) ∧ w = σ.w ∧ Hp S0 σ0 σ [Ch.own 0 0 (Sl aj1 o22 cj2) o22, Ch.pv 0 (.pointer a5) r2.1, Ch.pv 0 (.pointer a6) r2.2.1, Ch.pv 0 (.pointer a7) r2.2.2, Ch.bx n0 b16 0 [(.pointer a5), (.pointer a6), (.pointer a7)] [] [], Ch.pv 0 (.pointer a12) r9.1, Ch.pv 0 (.pointer a13) r9.2.1, Ch.pv 0 (.pointer a14) r9.2.2, Ch.bx n0 b18 0 [(.pointer a12), (.pointer a13), (.pointer a14)] [] []]) ?_ ?_
   ·clear h'
    rename _ = some o22 => h
    refine c_blk ?_
    refine wp_loopM _ h (fun s23 a w => ∃ (ρ : Nat → Value) (σ : St) (aj1 : Option Addr) (cj2 : Nat), a = fr 79 (updL ρ [(0, (Sl aj1 s23.1 cj2)), (7, (pt b16 0)), (8, (pt b18 0)), (18, (I s23.2))]) ∧ w = σ.w ∧ Hp S0 σ0 σ [Ch.own 0 0 (Sl aj1 s23.1 cj2) s23.1, Ch.pv 0 (.pointer a5) r2.1, Ch.pv 0 (.pointer a6) r2.2.1, Ch.pv 0 (.pointer a7) r2.2.2, Ch.bx n0 b16 0 [(.pointer a5), (.pointer a6), (.pointer a7)] [] [], Ch.pv 0 (.pointer a12) r9.1, Ch.pv 0 (.pointer a13) r9.2.1, Ch.pv 0 (.pointer a14) r9.2.2, Ch.bx n0 b18 0 [(.pointer a12), (.pointer a13), (.pointer a14)] [] []]) ⟨_, σ21, akeys_0, ckeys_0, fr_join ⟨rfl, rfl, rfl, rfl, trivial⟩, rfl, H.sel' [8, 5, 6, 7, 1, 2, 3, 4, 0] rfl rfl⟩ ?_
    clear h H
    rintro s23 a w o ⟨ρ, σ24, a25, c26, rfl, rfl, H⟩ h hres
    refine c_seq ?_
    refine rg ?_
    refine st (v := (B (decide (s23.2 < 2)))) (rv_lss (a := s23.2) (b := 2) rfl rfl) ?_
    refine w_end ?_
    refine q_then ?_
    refine c_seq ?_
    refine cd_cond (decide (s23.2 < 2)) rfl (fun hb27 => ?_) (fun hb27 => ?_)
    ·replace h := bif_t hb27 h
     refine c_skip ?_
     refine q_then ?_
     refine c_seq ?_
     refine c_blk ?_
     refine c_seq ?_
     refine rg ?_
     refine st (v := (I s23.2)) (rv_move rfl) ?_
     refine st (v := (I s23.2)) (rv_assign rfl) ?_
     refine w_end ?_
     refine q_then ?_
     refine rgP (σ := σ24) 9 (by kernel_rfl) (by kernel_rfl) (by kernel_rfl) ?_
     refine sq (v := (Sl a25 s23.1 c26)) (rv_move rfl) ?_
     refine sq (v := (I s23.2)) (rv_move rfl) ?_
     refine sq (v := (pt b16 1)) (rv_fieldAddr (off := 1) (ft := 100) Try.underlying102 rfl ti100 rfl rfl) ?_
     obtain ⟨x28, hx29, h'⟩ := bind_some h
     clear h
     have h := h'; clear h'
     have hl30 := gsel2_lt hx29
     refine sq (v := (pt b16 (1 + s23.2.toNat * 1))) (rv_indexAddr_array Try.underlying100 ti72 rfl rfl hl30.1 hl30.2) ?_
     have hc31 := Hp.selCell (o' := 1) (a0 := a6) (a1 := a7) H 4 1 rfl rfl rfl hx29 rfl
     have hR32 : PV 0 _ (.pointer (bsel s23.2 a6 a7)) x28 := PV.sel (H.pv 2 rfl) (H.pv 3 rfl) hx29
     replace H := H.add (d := Ch.pv 0 (.pointer (bsel s23.2 a6 a7)) x28) hR32 (fun _ h => h)
     clear hR32
     refine sq (v := (.pointer (bsel s23.2 a6 a7))) (rv_load1 Try.underlying72 rfl rfl hc31) ?_
     refine sq (v := (I s23.2)) (rv_move rfl) ?_
     refine sq (v := (pt b18 1)) (rv_fieldAddr (off := 1) (ft := 100) Try.underlying102 rfl ti100 rfl rfl) ?_
     obtain ⟨x33, hx34, h'⟩ := bind_some h
     clear h
     have h := h'; clear h'
     have hl35 := gsel2_lt hx34
     refine sq (v := (pt b18 (1 + s23.2.toNat * 1))) (rv_indexAddr_array Try.underlying100 ti72 rfl rfl hl35.1 hl35.2) ?_
     have hc36 := Hp.selCell (o' := 1) (a0 := a13) (a1 := a14) H 9 1 rfl rfl rfl hx34 rfl
     have hR37 : PV 0 _ (.pointer (bsel s23.2 a13 a14)) x33 := PV.sel (H.pv 7 rfl) (H.pv 8 rfl) hx34
     replace H := H.add (d := Ch.pv 0 (.pointer (bsel s23.2 a13 a14)) x33) hR37 (fun _ h => h)
     clear hR37
     refine sq (v := (.pointer (bsel s23.2 a13 a14))) (rv_load1 Try.underlying72 rfl rfl hc36) ?_
     refine sq_end ?_
     intro σ38 hm39
     replace H := H.grow (hm39.mono fun _ h => h); clear hm39
     obtain ⟨r40, hx41, h'⟩ := bind_some h
     clear h
     have h := h'; clear h'
     have hc42 := ih (akeys_0 := a25) (ckeys_0 := c26) (av_1 := (bsel s23.2 a6 a7)) (aw_2 := (bsel s23.2 a13 a14)) hx41
     refine st_call (cx_call hc42 (ent_f hc42.fn rfl) hn0 (show Hp S0 σ0 _ ([Ch.own 0 0 (Sl a25 s23.1 c26) s23.1, Ch.pv 0 (.pointer (bsel s23.2 a6 a7)) x28, Ch.pv 0 (.pointer (bsel s23.2 a13 a14)) x33] ++ [Ch.pv 0 (.pointer (bsel s23.2 a13 a14)) x33, Ch.pv 0 (.pointer (bsel s23.2 a6 a7)) x28, Ch.pv 0 (.pointer a5) r2.1, Ch.pv 0 (.pointer a6) r2.2.1, Ch.pv 0 (.pointer a7) r2.2.2, Ch.bx n0 b16 0 [(.pointer a5), (.pointer a6), (.pointer a7)] [] [], Ch.pv 0 (.pointer a12) r9.1, Ch.pv 0 (.pointer a13) r9.2.1, Ch.pv 0 (.pointer a14) r9.2.2, Ch.bx n0 b18 0 [(.pointer a12), (.pointer a13), (.pointer a14)] [] []]) from (H.sel' [2, 1, 0, 0, 1, 3, 4, 5, 6, 7, 8, 9, 10] rfl rfl))) wn ?_
     rintro _ σ45 ⟨_, ⟨a43, c44, rfl, rfl⟩, H, -⟩
     replace H : Hp S0 σ0 σ45 [Ch.own 0 n0 (Sl a43 r40 c44) r40, Ch.pv 0 (.pointer (bsel s23.2 a13 a14)) x33, Ch.pv 0 (.pointer (bsel s23.2 a6 a7)) x28, Ch.pv 0 (.pointer a5) r2.1, Ch.pv 0 (.pointer a6) r2.2.1, Ch.pv 0 (.pointer a7) r2.2.2, Ch.bx n0 b16 0 [(.pointer a5), (.pointer a6), (.pointer a7)] [] [], Ch.pv 0 (.pointer a12) r9.1, Ch.pv 0 (.pointer a13) r9.2.1, Ch.pv 0 (.pointer a14) r9.2.2, Ch.bx n0 b18 0 [(.pointer a12), (.pointer a13), (.pointer a14)] [] []] := H
     replace H : Hp S0 σ0 σ45 [Ch.own 0 n0 (Sl a43 r40 c44) r40, Ch.pv 0 (.pointer a5) r2.1, Ch.pv 0 (.pointer a6) r2.2.1, Ch.pv 0 (.pointer a7) r2.2.2, Ch.bx n0 b16 0 [(.pointer a5), (.pointer a6), (.pointer a7)] [] [], Ch.pv 0 (.pointer a12) r9.1, Ch.pv 0 (.pointer a13) r9.2.1, Ch.pv 0 (.pointer a14) r9.2.2, Ch.bx n0 b18 0 [(.pointer a12), (.pointer a13), (.pointer a14)] [] []] := H.sel' [0, 3, 4, 5, 6, 7, 8, 9, 10] rfl rfl
     refine st (v := (Sl a43 r40 c44)) (rv_assign rfl) ?_
     refine w_end ?_
     refine q_blk ?_
     refine q_then ?_
     refine rg ?_
     refine st (v := (I (w64 (s23.2 + 1)))) (rv_add (a := s23.2) (b := 1) rfl rfl) ?_
     refine st (v := (I (w64 (s23.2 + 1)))) (rv_move rfl) ?_
     refine w_end ?_
     refine q_then ?_
     replace H := H.ownSc 0 0 0 rfl (Nat.le_refl _)
     obtain rfl := Option.some.inj h
     exact ⟨_, rfl, _, σ45, a43, c44, fr_join ⟨rfl, rfl, rfl, rfl, trivial⟩, rfl, H.sel' [0, 1, 2, 3, 4, 5, 6, 7, 8] rfl rfl⟩
    ·replace h := bif_f hb27 h
     refine c_exit ?_
     refine q_then_x ?_
     refine q_then_x ?_
     refine q_blk_hit ?_
     obtain rfl := Option.some.inj h
     obtain rfl := hres _ rfl
     exact ⟨rfl, _, σ24, a25, c26, fr_join ⟨rfl, rfl, rfl, trivial⟩, rfl, H.sel' [0, 1, 2, 3, 4, 5, 6, 7, 8] rfl rfl⟩
   ·clear hj
    have h := h'
    clear h' H
    rintro e a w ⟨rfl, ρ, σ46, a47, c48, rfl, rfl, H⟩
    refine q_then ?_
    refine c_seq ?_
    refine c_blk ?_
    refine c_seq ?_
    obtain ⟨o49, hj, h'⟩ := bind_some h
    clear h
    refine c_cut (fun e a w => e = .normal ∧ ∃ (ρ : Nat → Value) (σ : St), a = fr 79 (updL ρ [(0, (Sl a47 o22 c48)), (7, (pt b16 0)), (8, (pt b18 0)), (32, (B o49))]) ∧ w = σ.w ∧ Hp S0 σ0 σ [Ch.own 0 0 (Sl a47 o22 c48) o22, Ch.pv 0 (.pointer a5) r2.1, Ch.pv 0 (.pointer a6) r2.2.1, Ch.pv 0 (.pointer a7) r2.2.2, Ch.bx n0 b16 0 [(.pointer a5), (.pointer a6), (.pointer a7)] [] [], Ch.pv 0 (.pointer a12) r9.1, Ch.pv 0 (.pointer a13) r9.2.1, Ch.pv 0 (.pointer a14) r9.2.2, Ch.bx n0 b18 0 [(.pointer a12), (.pointer a13), (.pointer a14)] [] []]) ?_ ?_
    ·clear h'
     rename _ = some o49 => h
     refine rgP (σ := σ46) 16 (by kernel_rfl) (by kernel_rfl) (by kernel_rfl) ?_
     refine sq (v := (pt b16 0)) (rv_fieldAddr (off := 0) (ft := 99) Try.underlying102 rfl ti99 rfl rfl) ?_
     have hc50 := H.cell (u := (.pointer a5)) (o' := 0) 4 0 rfl rfl rfl
     refine sq (v := (.pointer a5)) (rv_load1 Try.underlying99 rfl rfl hc50) ?_
     refine sq (v := (B (!r2.1.isNil))) (rv_neqNilV Try.underlying99 (H.pv 1 rfl) rfl rfl) ?_
     refine sq (v := (B (!r2.1.isNil))) (rv_move rfl) ?_
     rcases Bool.eq_false_or_eq_true (!r2.1.isNil) with hb51 | hb51
     ·replace h := bif_t hb51 h
      refine sq_g (v := (pt b18 0)) (congrArg some hb51) (rv_fieldAddr (off := 0) (ft := 99) Try.underlying102 rfl ti99 rfl rfl) ?_
      have hc52 := H.cell (u := (.pointer a12)) (o' := 0) 8 0 rfl rfl rfl
      refine sq_g (v := (.pointer a12)) (congrArg some hb51) (rv_load1 Try.underlying99 rfl rfl hc52) ?_
      refine sq_g (v := (B r9.1.isNil)) (congrArg some hb51) (rv_eqlNilV Try.underlying99 (H.pv 5 rfl) rfl rfl) ?_
      refine sq_g (v := (B r9.1.isNil)) (congrArg some hb51) (rv_move rfl) ?_
      rcases Bool.eq_false_or_eq_true r9.1.isNil with hb53 | hb53
      ·replace h := bif_t hb53 h
       refine sq_skip (congrArg some hb53) ?_
       refine sq_skip (congrArg some hb53) ?_
       refine sq_skip (congrArg some hb53) ?_
       refine sq_skip (congrArg some hb53) ?_
       refine sq_skip (congrArg some hb53) ?_
       refine sq_skip (congrArg some hb53) ?_
       refine sq_skip (congrArg some hb53) ?_
       refine sq_skip (congrArg some hb53) ?_
       refine sq_end ?_
       intro σ54 hm55
       replace H := H.grow (hm55.mono fun _ h => h); clear hm55
       refine st_skip (congrArg some hb53) ?_
       refine st_skip (congrArg some hb53) ?_
       refine st_g (v := (B true)) (congrArg some hb51) (rv_pick_t (congrArg B hb53) rfl) ?_
       refine st (v := (B true)) (rv_pick_t (congrArg B hb51) rfl) ?_
       refine st (v := (B true)) (rv_assign rfl) ?_
       refine w_end ?_
       obtain rfl := Option.some.inj h
       exact ⟨rfl, _, σ54, fr_join ⟨rfl, rfl, rfl, rfl, trivial⟩, rfl, H.sel' [0, 1, 2, 3, 4, 5, 6, 7, 8] rfl rfl⟩
      ·replace h := bif_f hb53 h
       refine sq_g (v := (pt b16 0)) (congrArg some hb53) (rv_fieldAddr (off := 0) (ft := 99) Try.underlying102 rfl ti99 rfl rfl) ?_
       have hc56 := H.cell (u := (.pointer a5)) (o' := 0) 4 0 rfl rfl rfl
       refine sq_g (v := (.pointer a5)) (congrArg some hb53) (rv_load1 Try.underlying99 rfl rfl hc56) ?_
       obtain ⟨x57, hx58, h'⟩ := bind_some h
       clear h
       have h := h'; clear h'
       obtain ⟨b60, o61, hi59⟩ := (H.pv 1 rfl).ex hx58
       refine sq_g (v := (pt b60 o61)) (congrArg some hb53) (rv_nilCheckT hi59 rfl) ?_
       obtain ⟨_, ⟨_, _, rfl, rfl, ⟨_, _, rfl, ⟨_, rfl, hR66⟩, rfl⟩⟩, hl62, hc63⟩ := ((H.pv 1 rfl).at hx58 hi59).cells
       obtain ⟨a64, c65, rfl⟩ := hR66.isSl
       replace H := H.add (d := Ch.ro 0 (Sl a64 x57.2.1 c65) x57.2.1) hR66 (fun _ h => h)
       clear hR66
       refine sq_g (v := (.agg #[(I x57.1), (Sl a64 x57.2.1 c65), (I x57.2.2)])) (congrArg some hb53) (rv_load Try.underlying36 rfl ti36 rfl hl62 hc63) ?_
       refine sq_g (v := (pt b18 0)) (congrArg some hb53) (rv_fieldAddr (off := 0) (ft := 99) Try.underlying102 rfl ti99 rfl rfl) ?_
       have hc67 := H.cell (u := (.pointer a12)) (o' := 0) 9 0 rfl rfl rfl
       refine sq_g (v := (.pointer a12)) (congrArg some hb53) (rv_load1 Try.underlying99 rfl rfl hc67) ?_
       obtain ⟨x68, hx69, h'⟩ := bind_some h
       clear h
       have h := h'; clear h'
       obtain ⟨b71, o72, hi70⟩ := (H.pv 6 rfl).ex hx69
       refine sq_g (v := (pt b71 o72)) (congrArg some hb53) (rv_nilCheckT hi70 rfl) ?_
       obtain ⟨_, ⟨_, _, rfl, rfl, ⟨_, _, rfl, ⟨_, rfl, hR77⟩, rfl⟩⟩, hl73, hc74⟩ := ((H.pv 6 rfl).at hx69 hi70).cells
       obtain ⟨a75, c76, rfl⟩ := hR77.isSl
       replace H := H.add (d := Ch.ro 0 (Sl a75 x68.2.1 c76) x68.2.1) hR77 (fun _ h => h)
       clear hR77
       refine sq_g (v := (.agg #[(I x68.1), (Sl a75 x68.2.1 c76), (I x68.2.2)])) (congrArg some hb53) (rv_load Try.underlying36 rfl ti36 rfl hl73 hc74) ?_
       refine sq_end ?_
       intro σ78 hm79
       replace H := H.grow (hm79.mono fun _ h => h); clear hm79
       obtain ⟨r80, hx81, h'⟩ := bind_some h
       clear h
       have h := h'; clear h'
       have hc82 := c_impl_equalItems (aa_0_1 := a64) (ca_0_1 := c65) (ab_1_1 := a75) (cb_1_1 := c76) hx81
       refine st_call (cx_call hc82 (ent_f hc82.fn rfl) hn0 (show Hp S0 σ0 _ ([Ch.ro 0 (Sl a64 x57.2.1 c65) x57.2.1, Ch.ro 0 (Sl a75 x68.2.1 c76) x68.2.1] ++ [Ch.ro 0 (Sl a75 x68.2.1 c76) x68.2.1, Ch.ro 0 (Sl a64 x57.2.1 c65) x57.2.1, Ch.own 0 0 (Sl a47 o22 c48) o22, Ch.pv 0 (.pointer a5) r2.1, Ch.pv 0 (.pointer a6) r2.2.1, Ch.pv 0 (.pointer a7) r2.2.2, Ch.bx n0 b16 0 [(.pointer a5), (.pointer a6), (.pointer a7)] [] [], Ch.pv 0 (.pointer a12) r9.1, Ch.pv 0 (.pointer a13) r9.2.1, Ch.pv 0 (.pointer a14) r9.2.2, Ch.bx n0 b18 0 [(.pointer a12), (.pointer a13), (.pointer a14)] [] []]) from (H.sel' [1, 0, 0, 1, 2, 3, 4, 5, 6, 7, 8, 9, 10] rfl rfl))) (wanted_yes rfl (by exact (congrArg some hb53))) ?_
       rintro _ σ83 ⟨_, ⟨rfl, rfl⟩, H, -⟩
       replace H : Hp S0 σ0 σ83 [Ch.ro 0 (Sl a75 x68.2.1 c76) x68.2.1, Ch.ro 0 (Sl a64 x57.2.1 c65) x57.2.1, Ch.own 0 0 (Sl a47 o22 c48) o22, Ch.pv 0 (.pointer a5) r2.1, Ch.pv 0 (.pointer a6) r2.2.1, Ch.pv 0 (.pointer a7) r2.2.2, Ch.bx n0 b16 0 [(.pointer a5), (.pointer a6), (.pointer a7)] [] [], Ch.pv 0 (.pointer a12) r9.1, Ch.pv 0 (.pointer a13) r9.2.1, Ch.pv 0 (.pointer a14) r9.2.2, Ch.bx n0 b18 0 [(.pointer a12), (.pointer a13), (.pointer a14)] [] []] := H
       replace H : Hp S0 σ0 σ83 [Ch.own 0 0 (Sl a47 o22 c48) o22, Ch.pv 0 (.pointer a5) r2.1, Ch.pv 0 (.pointer a6) r2.2.1, Ch.pv 0 (.pointer a7) r2.2.2, Ch.bx n0 b16 0 [(.pointer a5), (.pointer a6), (.pointer a7)] [] [], Ch.pv 0 (.pointer a12) r9.1, Ch.pv 0 (.pointer a13) r9.2.1, Ch.pv 0 (.pointer a14) r9.2.2, Ch.bx n0 b18 0 [(.pointer a12), (.pointer a13), (.pointer a14)] [] []] := H.sel' [2, 3, 4, 5, 6, 7, 8, 9, 10] rfl rfl
       refine st_g (v := (B (!r80))) (congrArg some hb53) (rv_not rfl) ?_
       refine st_g (v := (B (!r80))) (congrArg some hb51) (rv_pick_f (congrArg B hb53) rfl) ?_
       refine st (v := (B (!r80))) (rv_pick_t (congrArg B hb51) rfl) ?_
       refine st (v := (B (!r80))) (rv_assign rfl) ?_
       refine w_end ?_
       obtain rfl := Option.some.inj h
       exact ⟨rfl, _, σ83, fr_join ⟨rfl, rfl, rfl, rfl, trivial⟩, rfl, H.sel' [0, 1, 2, 3, 4, 5, 6, 7, 8] rfl rfl⟩
     ·replace h := bif_f hb51 h
      refine sq_skip (congrArg some hb51) ?_
      refine sq_skip (congrArg some hb51) ?_
      refine sq_skip (congrArg some hb51) ?_
      refine sq_skip (congrArg some hb51) ?_
      refine sq_skip_u rfl ?_
      refine sq_skip_u rfl ?_
      refine sq_skip_u rfl ?_
      refine sq_skip_u rfl ?_
      refine sq_skip_u rfl ?_
      refine sq_skip_u rfl ?_
      refine sq_skip_u rfl ?_
      refine sq_skip_u rfl ?_
      refine sq_end ?_
      intro σ84 hm85
      replace H := H.grow (hm85.mono fun _ h => h); clear hm85
      refine st_skip_u rfl ?_
      refine st_skip_u rfl ?_
      refine st_skip (congrArg some hb51) ?_
      refine st (v := (B false)) (rv_pick_f (congrArg B hb51) rfl) ?_
      refine st (v := (B false)) (rv_assign rfl) ?_
      refine w_end ?_
      obtain rfl := Option.some.inj h
      exact ⟨rfl, _, σ84, fr_join ⟨rfl, rfl, rfl, rfl, trivial⟩, rfl, H.sel' [0, 1, 2, 3, 4, 5, 6, 7, 8] rfl rfl⟩
    ·clear hj
     have h := h'
     clear h' H
     rintro e a w ⟨rfl, ρ, σ86, rfl, rfl, H⟩
     refine q_then ?_
     refine cd_cond o49 rfl (fun hb87 => ?_) (fun hb87 => ?_)
     ·replace h := bif_t hb87 h
      refine c_seq ?_
      refine rg ?_
      refine st (v := (Sl a47 o22 c48)) (rv_move rfl) ?_
      refine st (v := (pt b16 0)) (rv_fieldAddr (off := 0) (ft := 99) Try.underlying102 rfl ti99 rfl rfl) ?_
      have hc88 := H.cell (u := (.pointer a5)) (o' := 0) 4 0 rfl rfl rfl
      refine st (v := (.pointer a5)) (rv_load1 Try.underlying99 rfl rfl hc88) ?_
      obtain ⟨x89, hx90, h'⟩ := bind_some h
      clear h
      have h := h'; clear h'
      obtain ⟨b92, o93, hi91⟩ := (H.pv 1 rfl).ex hx90
      refine st (v := (pt b92 o93)) (rv_nilCheckT hi91 rfl) ?_
      refine st (v := (pt b92 (o93 + 0))) (rv_fieldAddr (off := 0) (ft := 3) Try.underlying36 rfl ti3 rfl rfl) ?_
      have hc94 := ((H.pv 1 rfl).at hx90 hi91).fst.int
      refine st (v := (I x89.1)) (rv_load1 Try.underlying3 rfl rfl hc94) ?_
      refine st_ex (ex_buildSlice (el := n0) (xs := ([x89.1] : List Int)) (ps := [(0, (I x89.1))]) (cs := [(I x89.1)]) H hn0 Try.underlying24 ti3 rfl rfl (by kernel_rfl) (.cons (c := [(I x89.1)]) rfl (.nil)) rfl) wn ?_
      rintro _ σ96 ⟨b95, rfl, H, -⟩
      replace H : Hp S0 σ0 σ96 [Ch.own n0 n0 (Sl (some ⟨b95, 0, none⟩) ([x89.1] : List Int) 1) ([x89.1] : List Int), Ch.own 0 0 (Sl a47 o22 c48) o22] := H.sel' [0, 1] rfl rfl
      obtain ⟨xs97, hx98, h'⟩ := bind_some h
      clear h
      have h := h'; clear h'
      refine st_ex (ex_append H (i := 1) rfl Try.underlying24 Try.underlying24 ti3 rfl rfl (by decide) ((H.own 0 rfl).rd.sc) hx98 (Nat.zero_le _) rfl rfl) wn ?_
      rintro _ σ101 ⟨a99, c100, rfl, H, -⟩
      refine st (v := (Sl a99 xs97 c100)) (rv_assign rfl) ?_
      refine w_end ?_
      refine q_then ?_
      refine c_ret ?_
      refine q_blk_r ?_
      refine q_then_r ?_
      replace H := H.ownSc 0 0 n0 rfl (Nat.le_refl _)
      obtain rfl := Option.some.inj h
      exact fin_ret (v := (Sl a99 xs97 c100)) (results_ok Try.results42 (res_tmp (v := (Sl a99 xs97 c100)) rfl res_nil) rfl) ⟨a99, c100, rfl, rfl⟩ (H.sel' [0] rfl rfl)
     ·replace h := bif_f hb87 h
      refine c_seq ?_
      obtain ⟨o102, hj, h'⟩ := bind_some h
      clear h
      refine c_cut (fun e a w => e = .normal ∧ ∃ (ρ : Nat → Value) (σ : St), a = fr 79 (updL ρ [(0, (Sl a47 o22 c48)), (8, (pt b18 0)), (61, (B o102))]) ∧ w = σ.w ∧ Hp S0 σ0 σ [Ch.own 0 0 (Sl a47 o22 c48) o22, Ch.pv 0 (.pointer a12) r9.1, Ch.pv 0 (.pointer a13) r9.2.1, Ch.pv 0 (.pointer a14) r9.2.2, Ch.bx n0 b18 0 [(.pointer a12), (.pointer a13), (.pointer a14)] [] []]) ?_ ?_
      ·clear h'
       rename _ = some o102 => h
       refine rg ?_
       refine st (v := (pt b16 0)) (rv_fieldAddr (off := 0) (ft := 99) Try.underlying102 rfl ti99 rfl rfl) ?_
       have hc103 := H.cell (u := (.pointer a5)) (o' := 0) 4 0 rfl rfl rfl
       refine st (v := (.pointer a5)) (rv_load1 Try.underlying99 rfl rfl hc103) ?_
       refine st (v := (B r2.1.isNil)) (rv_eqlNilV Try.underlying99 (H.pv 1 rfl) rfl rfl) ?_
       refine st (v := (B r2.1.isNil)) (rv_move rfl) ?_
       rcases Bool.eq_false_or_eq_true r2.1.isNil with hb104 | hb104
       ·replace h := bif_t hb104 h
        refine st_g (v := (pt b18 0)) (congrArg some hb104) (rv_fieldAddr (off := 0) (ft := 99) Try.underlying102 rfl ti99 rfl rfl) ?_
        have hc105 := H.cell (u := (.pointer a12)) (o' := 0) 8 0 rfl rfl rfl
        refine st_g (v := (.pointer a12)) (congrArg some hb104) (rv_load1 Try.underlying99 rfl rfl hc105) ?_
        refine st_g (v := (B (!r9.1.isNil))) (congrArg some hb104) (rv_neqNilV Try.underlying99 (H.pv 5 rfl) rfl rfl) ?_
        refine st (v := (B (!r9.1.isNil))) (rv_pick_t (congrArg B hb104) rfl) ?_
        refine st (v := (B (!r9.1.isNil))) (rv_assign rfl) ?_
        refine w_end ?_
        obtain rfl := Option.some.inj h
        exact ⟨rfl, _, σ86, fr_join ⟨rfl, rfl, rfl, trivial⟩, rfl, H.sel' [0, 5, 6, 7, 8] rfl rfl⟩
       ·replace h := bif_f hb104 h
        refine st_skip (congrArg some hb104) ?_
        refine st_skip (congrArg some hb104) ?_
        refine st_skip (congrArg some hb104) ?_
        refine st (v := (B false)) (rv_pick_f (congrArg B hb104) rfl) ?_
        refine st (v := (B false)) (rv_assign rfl) ?_
        refine w_end ?_
        obtain rfl := Option.some.inj h
        exact ⟨rfl, _, σ86, fr_join ⟨rfl, rfl, rfl, trivial⟩, rfl, H.sel' [0, 5, 6, 7, 8] rfl rfl⟩
      ·clear hj
       have h := h'
       clear h' H
       rintro e a w ⟨rfl, ρ, σ106, rfl, rfl, H⟩
       refine q_then ?_
       refine cd_cond o102 rfl (fun hb107 => ?_) (fun hb107 => ?_)
       ·replace h := bif_t hb107 h
        refine c_seq ?_
        refine rg ?_
        refine st (v := (Sl a47 o22 c48)) (rv_move rfl) ?_
        refine st (v := (pt b18 0)) (rv_fieldAddr (off := 0) (ft := 99) Try.underlying102 rfl ti99 rfl rfl) ?_
        have hc108 := H.cell (u := (.pointer a12)) (o' := 0) 4 0 rfl rfl rfl
        refine st (v := (.pointer a12)) (rv_load1 Try.underlying99 rfl rfl hc108) ?_
        obtain ⟨x109, hx110, h'⟩ := bind_some h
        clear h
        have h := h'; clear h'
        obtain ⟨b112, o113, hi111⟩ := (H.pv 1 rfl).ex hx110
        refine st (v := (pt b112 o113)) (rv_nilCheckT hi111 rfl) ?_
        refine st (v := (pt b112 (o113 + 0))) (rv_fieldAddr (off := 0) (ft := 3) Try.underlying36 rfl ti3 rfl rfl) ?_
        have hc114 := ((H.pv 1 rfl).at hx110 hi111).fst.int
        refine st (v := (I x109.1)) (rv_load1 Try.underlying3 rfl rfl hc114) ?_
        refine st_ex (ex_buildSlice (el := n0) (xs := ([x109.1] : List Int)) (ps := [(0, (I x109.1))]) (cs := [(I x109.1)]) H hn0 Try.underlying24 ti3 rfl rfl (by kernel_rfl) (.cons (c := [(I x109.1)]) rfl (.nil)) rfl) wn ?_
        rintro _ σ116 ⟨b115, rfl, H, -⟩
        obtain ⟨xs117, hx118, h'⟩ := bind_some h
        clear h
        have h := h'; clear h'
        refine st_ex (ex_append H (i := 1) rfl Try.underlying24 Try.underlying24 ti3 rfl rfl (by decide) ((H.own 0 rfl).rd.sc) hx118 (Nat.zero_le _) rfl rfl) wn ?_
        rintro _ σ121 ⟨a119, c120, rfl, H, -⟩
        refine st (v := (Sl a119 xs117 c120)) (rv_assign rfl) ?_
        refine w_end ?_
        refine q_then ?_
        refine c_ret ?_
        refine q_blk_r ?_
        refine q_then_r ?_
        replace H := H.ownSc 0 0 n0 rfl (Nat.le_refl _)
        obtain rfl := Option.some.inj h
        exact fin_ret (v := (Sl a119 xs117 c120)) (results_ok Try.results42 (res_tmp (v := (Sl a119 xs117 c120)) rfl res_nil) rfl) ⟨a119, c120, rfl, rfl⟩ (H.sel' [0] rfl rfl)
       ·replace h := bif_f hb107 h
        refine c_skip ?_
        refine q_blk ?_
        refine q_then ?_
        refine c_seq ?_
        refine rg ?_
        refine st (v := (Sl a47 o22 c48)) (rv_move rfl) ?_
        refine st (v := (Sl a47 o22 c48)) (rv_assign rfl) ?_
        refine w_end ?_
        refine q_then ?_
        refine c_ret ?_
        replace H := H.ownSc 0 0 n0 rfl (Nat.le_refl _)
        obtain rfl := Option.some.inj h
        exact fin_ret (v := (Sl a47 o22 c48)) (results_ok Try.results42 (res_tmp (v := (Sl a47 o22 c48)) rfl res_nil) rfl) ⟨a47, c48, rfl, rfl⟩ (H.sel' [0] rfl rfl)

theorem c_slices_isNaN_int {x_0 : Int}  {r : Bool} (h : M.slices_isNaN_int x_0 = some r) :
    Cal2 Try.prog 99 [(I x_0)] [] (fun n0 v L => v = (B r) ∧ L = []) := by
 refine cal2 (n := 6) Try.func99 rfl rfl rfl rfl ?_
 intro S0 σ0 n0 hn0 H
 unfold M.slices_isNaN_int at h
 refine c_seq ?_
 refine rg ?_
 refine st (v := (B false)) (rv_assign rfl) ?_
 refine w_end ?_
 refine q_then ?_
 refine c_seq ?_
 refine rg ?_
 refine st (v := (I x_0)) (rv_move rfl) ?_
 refine st (v := (I x_0)) (rv_move rfl) ?_
 refine st (v := (B (x_0 != x_0))) (rv_neq (a := x_0) (b := x_0) rfl rfl) ?_
 refine st (v := (B (x_0 != x_0))) (rv_assign rfl) ?_
 refine w_end ?_
 refine q_then ?_
 refine c_ret ?_
 obtain rfl := Option.some.inj h
 exact fin_ret (v := (B (x_0 != x_0))) (results_ok Try.results99 (res_tmp (v := (B (x_0 != x_0))) rfl res_nil) rfl) ⟨rfl, rfl⟩ (H.sel' [] rfl rfl)

theorem c_slices_BinarySearch_int_int {x_0 : List Int} {target_1 : Int} {ax_0 : Option Addr} {cx_0 : Nat} {r : Int × Bool} (h : M.slices_BinarySearch_int_int x_0 target_1 = some r) :
    Cal2 Try.prog 78 [(Sl ax_0 x_0 cx_0), (I target_1)] [Ch.ro 0 (Sl ax_0 x_0 cx_0) x_0] (fun n0 v L => v = (.tuple #[(I r.1), (B r.2)]) ∧ L = []) := by
 refine cal2 (n := 54) Try.func78 rfl rfl rfl rfl ?_
 intro S0 σ0 n0 hn0 H
 unfold M.slices_BinarySearch_int_int at h
 refine c_seq ?_
 refine rg ?_
 refine st (v := (I 0)) (rv_assign rfl) ?_
 refine st (v := (B false)) (rv_assign rfl) ?_
 refine w_end ?_
 refine q_then ?_
 refine c_seq ?_
 refine rg ?_
 refine st (v := (Sl ax_0 x_0 cx_0)) (rv_move rfl) ?_
 refine st (v := (I (x_0.length : Int))) (rv_len Try.underlying24 rfl) ?_
 refine st (v := (I (x_0.length : Int))) (rv_assign rfl) ?_
 refine w_end ?_
 refine q_then ?_
 refine c_seq ?_
 refine rg ?_
 refine st (v := (I (x_0.length : Int))) (rv_move rfl) ?_
 refine st (v := (I 0)) (rv_assign rfl) ?_
 refine st (v := (I (x_0.length : Int))) (rv_assign rfl) ?_
 refine w_end ?_
 refine q_then ?_
 refine c_seq ?_
 obtain ⟨o1, hj, h'⟩ := bind_some h
 clear h
 refine c_cut (fun e a w => e = .normal ∧ ∃ (ρ : Nat → Value) (σ : St), a = fr 54 (updL ρ [(0, (Sl ax_0 x_0 cx_0)), (1, (I target_1)), (6, (I (x_0.length : Int))), (7, (I o1))]) ∧ w = σ.w ∧ Hp S0 σ0 σ [Ch.ro 0 (Sl ax_0 x_0 cx_0) x_0]) ?_ ?_
 ·clear h'
  rename _ = some o1 => h
  refine c_blk ?_
  refine wp_loopM _ h (fun s2 a w => ∃ (ρ : Nat → Value) (σ : St), a = fr 54 (updL ρ [(0, (Sl ax_0 x_0 cx_0)), (1, (I target_1)), (6, (I (x_0.length : Int))), (7, (I s2.1)), (8, (I s2.2))]) ∧ w = σ.w ∧ Hp S0 σ0 σ [Ch.ro 0 (Sl ax_0 x_0 cx_0) x_0]) ⟨_, σ0, fr_join ⟨rfl, rfl, rfl, rfl, rfl, trivial⟩, rfl, H.sel' [0] rfl rfl⟩ ?_
  clear h H
  rintro s2 a w o ⟨ρ, σ3, rfl, rfl, H⟩ h hres
  refine c_seq ?_
  refine c_seq ?_
  refine rg ?_
  refine st (v := (I s2.1)) (rv_move rfl) ?_
  refine st (v := (I s2.2)) (rv_move rfl) ?_
  refine st (v := (B (decide (s2.1 < s2.2)))) (rv_lss (a := s2.1) (b := s2.2) rfl rfl) ?_
  refine w_end ?_
  refine q_then ?_
  refine cd_cond (decide (s2.1 < s2.2)) rfl (fun hb4 => ?_) (fun hb4 => ?_)
  ·replace h := bif_t hb4 h
   refine c_skip ?_
   refine q_then ?_
   refine c_blk ?_
   refine c_seq ?_
   refine rg ?_
   refine st (v := (I s2.1)) (rv_move rfl) ?_
   refine st (v := (I s2.2)) (rv_move rfl) ?_
   refine st (v := (I (w64 (s2.1 + s2.2)))) (rv_add (a := s2.1) (b := s2.2) rfl rfl) ?_
   refine st (v := (.int .u64 (wk .u64 (w64 (s2.1 + s2.2))))) (rvk_conv (k := .i64) (k' := .u64) (a := (w64 (s2.1 + s2.2))) Try.underlying3 Try.underlying122 rfl) ?_
   refine st (v := (.int .u64 (gshr .u64 (wk .u64 (w64 (s2.1 + s2.2))) 1))) (rvk_shr (k := .u64) (k' := .u64) (a := (wk .u64 (w64 (s2.1 + s2.2)))) (b := 1) rfl rfl (by decide)) ?_
   refine st (v := (I (wk .i64 (gshr .u64 (wk .u64 (w64 (s2.1 + s2.2))) 1)))) (rvk_conv (k := .u64) (k' := .i64) (a := (gshr .u64 (wk .u64 (w64 (s2.1 + s2.2))) 1)) Try.underlying122 Try.underlying3 rfl) ?_
   refine st (v := (I (wk .i64 (gshr .u64 (wk .u64 (w64 (s2.1 + s2.2))) 1)))) (rv_assign rfl) ?_
   refine w_end ?_
   refine q_then ?_
   refine c_seq ?_
   refine rg ?_
   refine st (v := (Sl ax_0 x_0 cx_0)) (rv_move rfl) ?_
   refine st (v := (I (wk .i64 (gshr .u64 (wk .u64 (w64 (s2.1 + s2.2))) 1)))) (rv_move rfl) ?_
   obtain ⟨x5, hx6, h'⟩ := bind_some h
   clear h
   have h := h'; clear h'
   obtain ⟨b8, o9, hi7, -⟩ := (H.ro 0 rfl).ix hx6
   refine st (v := (pt b8 o9)) (rv_ix Try.underlying24 ti3 rfl rfl hi7) ?_
   have hc10 := ((H.ro 0 rfl).at hx6 hi7).int
   refine st (v := (I x5)) (rv_load1 Try.underlying3 rfl rfl hc10) ?_
   refine st (v := (I target_1)) (rv_move rfl) ?_
   obtain ⟨r11, hx12, h'⟩ := bind_some h
   clear h
   have h := h'; clear h'
   have hc13 := c_cmp_Less_int hx12
   refine st_call (cx_call hc13 (ent_f hc13.fn rfl) hn0 (show Hp S0 σ0 _ ([] ++ [Ch.ro 0 (Sl ax_0 x_0 cx_0) x_0]) from (H.sel' [0] rfl rfl))) wn ?_
   rintro _ σ14 ⟨_, ⟨rfl, rfl⟩, H, -⟩
   replace H : Hp S0 σ0 σ14 [Ch.ro 0 (Sl ax_0 x_0 cx_0) x_0] := H
   refine w_end ?_
   refine q_then ?_
   refine cd_cond r11 rfl (fun hb15 => ?_) (fun hb15 => ?_)
   ·replace h := bif_t hb15 h
    refine rg ?_
    refine st (v := (I (wk .i64 (gshr .u64 (wk .u64 (w64 (s2.1 + s2.2))) 1)))) (rv_move rfl) ?_
    refine st (v := (I (w64 ((wk .i64 (gshr .u64 (wk .u64 (w64 (s2.1 + s2.2))) 1)) + 1)))) (rv_add (a := (wk .i64 (gshr .u64 (wk .u64 (w64 (s2.1 + s2.2))) 1))) (b := 1) rfl rfl) ?_
    refine st (v := (I (w64 ((wk .i64 (gshr .u64 (wk .u64 (w64 (s2.1 + s2.2))) 1)) + 1)))) (rv_assign rfl) ?_
    refine w_end ?_
    refine q_blk ?_
    refine q_then ?_
    obtain rfl := Option.some.inj h
    exact ⟨_, rfl, _, σ14, fr_join ⟨rfl, rfl, rfl, rfl, rfl, trivial⟩, rfl, H.sel' [0] rfl rfl⟩
   ·replace h := bif_f hb15 h
    refine rg ?_
    refine st (v := (I (wk .i64 (gshr .u64 (wk .u64 (w64 (s2.1 + s2.2))) 1)))) (rv_move rfl) ?_
    refine st (v := (I (wk .i64 (gshr .u64 (wk .u64 (w64 (s2.1 + s2.2))) 1)))) (rv_assign rfl) ?_
    refine w_end ?_
    refine q_blk ?_
    refine q_then ?_
    obtain rfl := Option.some.inj h
    exact ⟨_, rfl, _, σ14, fr_join ⟨rfl, rfl, rfl, rfl, rfl, trivial⟩, rfl, H.sel' [0] rfl rfl⟩
  ·replace h := bif_f hb4 h
   refine c_exit ?_
   refine q_then_x ?_
   refine q_then_x ?_
   refine q_blk_hit ?_
   obtain rfl := Option.some.inj h
   obtain rfl := hres _ rfl
   exact ⟨rfl, _, σ3, fr_join ⟨rfl, rfl, rfl, rfl, trivial⟩, rfl, H.sel' [0] rfl rfl⟩
 ·clear hj
  have h := h'
  clear h' H
  rintro e a w ⟨rfl, ρ, σ16, rfl, rfl, H⟩
  refine q_then ?_
  refine c_seq ?_
  refine rg ?_
  refine st (v := (I o1)) (rv_move rfl) ?_
  refine st (v := (I o1)) (rv_move rfl) ?_
  refine st (v := (I (x_0.length : Int))) (rv_move rfl) ?_
  refine st (v := (B (decide (o1 < (x_0.length : Int))))) (rv_lss (a := o1) (b := (x_0.length : Int)) rfl rfl) ?_
  refine st (v := (B (decide (o1 < (x_0.length : Int))))) (rv_move rfl) ?_
  rcases Bool.eq_false_or_eq_true (decide (o1 < (x_0.length : Int))) with hb17 | hb17
  ·replace h := bif_t hb17 h
   refine st_g (v := (Sl ax_0 x_0 cx_0)) (congrArg some hb17) (rv_move rfl) ?_
   refine st_g (v := (I o1)) (congrArg some hb17) (rv_move rfl) ?_
   obtain ⟨x18, hx19, h'⟩ := bind_some h
   clear h
   have h := h'; clear h'
   obtain ⟨b21, o22, hi20, -⟩ := (H.ro 0 rfl).ix hx19
   refine st_g (v := (pt b21 o22)) (congrArg some hb17) (rv_ix Try.underlying24 ti3 rfl rfl hi20) ?_
   have hc23 := ((H.ro 0 rfl).at hx19 hi20).int
   refine st_g (v := (I x18)) (congrArg some hb17) (rv_load1 Try.underlying3 rfl rfl hc23) ?_
   refine st_g (v := (I target_1)) (congrArg some hb17) (rv_move rfl) ?_
   refine st_g (v := (B (x18 == target_1))) (congrArg some hb17) (rv_eql (a := x18) (b := target_1) rfl rfl) ?_
   refine st_g (v := (B (x18 == target_1))) (congrArg some hb17) (rv_move rfl) ?_
   rcases Bool.eq_false_or_eq_true (x18 == target_1) with hb24 | hb24
   ·replace h := bif_t hb24 h
    refine st_skip (congrArg some hb24) ?_
    refine st_skip (congrArg some hb24) ?_
    refine st_skip (congrArg some hb24) ?_
    refine st_skip (congrArg some hb24) ?_
    refine st_skip (congrArg some hb24) ?_
    refine st_skip (congrArg some hb24) ?_
    refine st_skip_u rfl ?_
    refine st_skip_u rfl ?_
    refine st_skip (congrArg some hb24) ?_
    refine st_g (v := (B true)) (congrArg some hb17) (rv_pick_t (congrArg B hb24) rfl) ?_
    refine st (v := (B true)) (rv_pick_t (congrArg B hb17) rfl) ?_
    refine st (v := (I o1)) (rv_assign rfl) ?_
    refine st (v := (B true)) (rv_assign rfl) ?_
    refine w_end ?_
    refine q_then ?_
    refine c_ret ?_
    obtain rfl := Option.some.inj h
    exact fin_ret (v := (.tuple #[(I o1), (B true)])) (results_ok Try.results78 (res_tmp (v := (I o1)) rfl (res_tmp (v := (B true)) rfl res_nil)) rfl) ⟨rfl, rfl⟩ (H.sel' [] rfl rfl)
   ·replace h := bif_f hb24 h
    refine st_g (v := (Sl ax_0 x_0 cx_0)) (congrArg some hb24) (rv_move rfl) ?_
    refine st_g (v := (I o1)) (congrArg some hb24) (rv_move rfl) ?_
    obtain ⟨x25, hx26, h'⟩ := bind_some h
    clear h
    have h := h'; clear h'
    obtain ⟨b28, o29, hi27, -⟩ := (H.ro 0 rfl).ix hx26
    refine st_g (v := (pt b28 o29)) (congrArg some hb24) (rv_ix Try.underlying24 ti3 rfl rfl hi27) ?_
    have hc30 := ((H.ro 0 rfl).at hx26 hi27).int
    refine st_g (v := (I x25)) (congrArg some hb24) (rv_load1 Try.underlying3 rfl rfl hc30) ?_
    obtain ⟨r31, hx32, h'⟩ := bind_some h
    clear h
    have h := h'; clear h'
    have hc33 := c_slices_isNaN_int hx32
    refine st_call (cx_call hc33 (ent_f hc33.fn rfl) hn0 (show Hp S0 σ0 _ ([] ++ [Ch.ro 0 (Sl ax_0 x_0 cx_0) x_0]) from (H.sel' [0] rfl rfl))) (wanted_yes rfl (by exact (congrArg some hb24))) ?_
    rintro _ σ34 ⟨_, ⟨rfl, rfl⟩, H, -⟩
    replace H : Hp S0 σ0 σ34 [Ch.ro 0 (Sl ax_0 x_0 cx_0) x_0] := H
    refine st_g (v := (B r31)) (congrArg some hb24) (rv_move rfl) ?_
    rcases Bool.eq_false_or_eq_true r31 with hb35 | hb35
    ·replace h := bif_t hb35 h
     refine st_g (v := (I target_1)) (congrArg some hb35) (rv_move rfl) ?_
     obtain ⟨r36, hx37, h'⟩ := bind_some h
     clear h
     have h := h'; clear h'
     have hc38 := c_slices_isNaN_int hx37
     refine st_call (cx_call hc38 (ent_f hc38.fn rfl) hn0 (show Hp S0 σ0 _ ([] ++ [Ch.ro 0 (Sl ax_0 x_0 cx_0) x_0]) from (H.sel' [0] rfl rfl))) (wanted_yes rfl (by exact (congrArg some hb35))) ?_
     rintro _ σ39 ⟨_, ⟨rfl, rfl⟩, H, -⟩
     replace H : Hp S0 σ0 σ39 [Ch.ro 0 (Sl ax_0 x_0 cx_0) x_0] := H
     refine st_g (v := (B r36)) (congrArg some hb24) (rv_pick_t (congrArg B hb35) rfl) ?_
     refine st_g (v := (B r36)) (congrArg some hb17) (rv_pick_f (congrArg B hb24) rfl) ?_
     refine st (v := (B r36)) (rv_pick_t (congrArg B hb17) rfl) ?_
     refine st (v := (I o1)) (rv_assign rfl) ?_
     refine st (v := (B r36)) (rv_assign rfl) ?_
     refine w_end ?_
     refine q_then ?_
     refine c_ret ?_
     obtain rfl := Option.some.inj h
     exact fin_ret (v := (.tuple #[(I o1), (B r36)])) (results_ok Try.results78 (res_tmp (v := (I o1)) rfl (res_tmp (v := (B r36)) rfl res_nil)) rfl) ⟨rfl, rfl⟩ (H.sel' [] rfl rfl)
    ·replace h := bif_f hb35 h
     refine st_skip (congrArg some hb35) ?_
     refine st_skip (congrArg some hb35) ?_
     refine st_g (v := (B false)) (congrArg some hb24) (rv_pick_f (congrArg B hb35) rfl) ?_
     refine st_g (v := (B false)) (congrArg some hb17) (rv_pick_f (congrArg B hb24) rfl) ?_
     refine st (v := (B false)) (rv_pick_t (congrArg B hb17) rfl) ?_
     refine st (v := (I o1)) (rv_assign rfl) ?_
     refine st (v := (B false)) (rv_assign rfl) ?_
     refine w_end ?_
     refine q_then ?_
     refine c_ret ?_
     obtain rfl := Option.some.inj h
     exact fin_ret (v := (.tuple #[(I o1), (B false)])) (results_ok Try.results78 (res_tmp (v := (I o1)) rfl (res_tmp (v := (B false)) rfl res_nil)) rfl) ⟨rfl, rfl⟩ (H.sel' [] rfl rfl)
  ·replace h := bif_f hb17 h
   refine st_skip (congrArg some hb17) ?_
   refine st_skip (congrArg some hb17) ?_
   refine st_skip (congrArg some hb17) ?_
   refine st_skip (congrArg some hb17) ?_
   refine st_skip (congrArg some hb17) ?_
   refine st_skip (congrArg some hb17) ?_
   refine st_skip (congrArg some hb17) ?_
   refine st_skip_u rfl ?_
   refine st_skip_u rfl ?_
   refine st_skip_u rfl ?_
   refine st_skip_u rfl ?_
   refine st_skip_u rfl ?_
   refine st_skip_u rfl ?_
   refine st_skip_u rfl ?_
   refine st_skip_u rfl ?_
   refine st_skip_u rfl ?_
   refine st_skip (congrArg some hb17) ?_
   refine st (v := (B false)) (rv_pick_f (congrArg B hb17) rfl) ?_
   refine st (v := (I o1)) (rv_assign rfl) ?_
   refine st (v := (B false)) (rv_assign rfl) ?_
   refine w_end ?_
   refine q_then ?_
   refine c_ret ?_
   obtain rfl := Option.some.inj h
   exact fin_ret (v := (.tuple #[(I o1), (B false)])) (results_ok Try.results78 (res_tmp (v := (I o1)) rfl (res_tmp (v := (B false)) rfl res_nil)) rfl) ⟨rfl, rfl⟩ (H.sel' [] rfl rfl)

theorem c_impl_History_entriesUntil {h_0 : (List (Int × (Int × (List Int) × Int))) × (List Int)} {t_1 : Int} {ah_0_0 : Option Addr} {ch_0_0 : Nat} {ah_0_1 : Option Addr} {ch_0_1 : Nat} {r : Int} (h : M.impl_History_entriesUntil h_0 t_1 = some r) :
    Cal2 Try.prog 43 [(.agg #[(Sl ah_0_0 h_0.1 ch_0_0), (Sl ah_0_1 h_0.2 ch_0_1)]), (I t_1)] [Ch.ro 0 (Sl ah_0_0 h_0.1 ch_0_0) h_0.1, Ch.ro 0 (Sl ah_0_1 h_0.2 ch_0_1) h_0.2] (fun n0 v L => v = (I r) ∧ L = []) := by
 refine cal2 (n := 16) Try.func43 rfl rfl rfl rfl ?_
 intro S0 σ0 n0 hn0 H
 unfold M.impl_History_entriesUntil at h
 refine c_seq ?_
 refine rg ?_
 refine st_ex (ex_box (cs := [(Sl ah_0_0 h_0.1 ch_0_0), (Sl ah_0_1 h_0.2 ch_0_1)]) H hn0 rfl rfl) wn ?_
 rintro _ σ2 ⟨b1, rfl, H, -⟩
 refine st (v := (I 0)) (rv_assign rfl) ?_
 refine w_end ?_
 refine q_then ?_
 refine c_seq ?_
 refine rg ?_
 refine st (v := (pt b1 1)) (rv_fieldAddr (off := 1) (ft := 24) Try.underlying26 rfl ti24 rfl rfl) ?_
 have hc3 := H.cell (u := (Sl ah_0_1 h_0.2 ch_0_1)) (o' := 1) 0 1 rfl rfl rfl
 refine st (v := (Sl ah_0_1 h_0.2 ch_0_1)) (rv_load1 Try.underlying24 rfl rfl hc3) ?_
 refine st (v := (I t_1)) (rv_move rfl) ?_
 refine st (v := (I (w64 (t_1 + 1)))) (rv_add (a := t_1) (b := 1) rfl rfl) ?_
 obtain ⟨r4, hx5, h'⟩ := bind_some h
 clear h
 have h := h'; clear h'
 have hc6 := c_slices_BinarySearch_int_int (ax_0 := ah_0_1) (cx_0 := ch_0_1) hx5
 refine st_call (cx_call hc6 (ent_f hc6.fn rfl) hn0 (show Hp S0 σ0 _ ([Ch.ro 0 (Sl ah_0_1 h_0.2 ch_0_1) h_0.2] ++ [Ch.bx n0 b1 0 [(Sl ah_0_0 h_0.1 ch_0_0), (Sl ah_0_1 h_0.2 ch_0_1)] [] [], Ch.ro 0 (Sl ah_0_0 h_0.1 ch_0_0) h_0.1, Ch.ro 0 (Sl ah_0_1 h_0.2 ch_0_1) h_0.2]) from (H.sel' [2, 0, 1, 2] rfl rfl))) wn ?_
 rintro _ σ7 ⟨_, ⟨rfl, rfl⟩, H, -⟩
 replace H : Hp S0 σ0 σ7 [Ch.bx n0 b1 0 [(Sl ah_0_0 h_0.1 ch_0_0), (Sl ah_0_1 h_0.2 ch_0_1)] [] [], Ch.ro 0 (Sl ah_0_0 h_0.1 ch_0_0) h_0.1, Ch.ro 0 (Sl ah_0_1 h_0.2 ch_0_1) h_0.2] := H
 refine st (v := (.tuple #[(I r4.1), (B r4.2)])) (rv_move rfl) ?_
 refine st (v := (I r4.1)) (rv_extract rfl rfl) ?_
 refine st (v := (B r4.2)) (rv_extract rfl rfl) ?_
 refine st (v := (I r4.1)) (rv_assign rfl) ?_
 refine st (v := (B r4.2)) (rv_assign rfl) ?_
 refine w_end ?_
 refine q_then ?_
 refine c_seq ?_
 refine rg ?_
 refine st (v := (I r4.1)) (rv_move rfl) ?_
 refine st (v := (I r4.1)) (rv_assign rfl) ?_
 refine w_end ?_
 refine q_then ?_
 refine c_ret ?_
 obtain rfl := Option.some.inj h
 exact fin_ret (v := (I r4.1)) (results_ok Try.results43 (res_tmp (v := (I r4.1)) rfl res_nil) rfl) ⟨rfl, rfl⟩ (H.sel' [] rfl rfl)

end Go.Vs
