/- The functions compute what their models say. -/
import Derived.Test.YtfcemgcmpcmgcaaKRollBackTwiceC1
set_option linter.unusedVariables false
set_option linter.unusedSimpArgs false
set_option maxRecDepth 20000
namespace Go.Vs
open Go Go.Proofs
attribute [local irreducible] Code.wp Code.wpIn wpList wpListIn wpQuiet Calls CallsIn

theorem c_impl_PutItem {list_0 : List (Int × (List Int) × Int)} {x_1 : Int × (List Int) × Int} {alist_0 : Option Addr} {clist_0 : Nat} {ax_1_1 : Option Addr} {cx_1_1 : Nat} {r : (List (Int × (List Int) × Int)) × Bool} (h : M.impl_PutItem list_0 x_1 = some r) :
    Cal2 Try.prog 140 [(Sl alist_0 list_0 clist_0), (.agg #[(I x_1.1), (Sl ax_1_1 x_1.2.1 cx_1_1), (I x_1.2.2)])] [Ch.ro 0 (Sl alist_0 list_0 clist_0) list_0, Ch.ro 0 (Sl ax_1_1 x_1.2.1 cx_1_1) x_1.2.1] (fun n0 v L => ∃ (az1 : Option Addr), ∃ (cz2 : Nat), v = (.tuple #[(Sl az1 r.1 cz2), (B r.2)]) ∧ L = [Ch.own 0 0 (Sl az1 r.1 cz2) r.1]) := by
 refine cal2 (n := 43) Try.func140 rfl rfl rfl rfl ?_
 intro S0 σ0 n0 hn0 H
 unfold M.impl_PutItem at h
 refine c_seq ?_
 refine rg ?_
 refine st_ex (ex_box (cs := [(I x_1.1), (Sl ax_1_1 x_1.2.1 cx_1_1), (I x_1.2.2)]) H hn0 rfl rfl) wn ?_
 rintro _ σ2 ⟨b1, rfl, H, -⟩
 refine st (v := (.slice none 0 0)) (rv_assign rfl) ?_
 refine st (v := (B false)) (rv_assign rfl) ?_
 refine w_end ?_
 refine q_then ?_
 refine c_seq ?_
 refine c_seq ?_
 obtain ⟨o3, hj, h'⟩ := bind_some h
 clear h
 refine c_cut (fun e a w => e = .normal ∧ ∃ (ρ : Nat → Value) (σ : St), a = fr 43 (updL ρ [(0, (Sl alist_0 list_0 clist_0)), (3, (pt b1 0)), (16, (B o3))]) ∧ w = σ.w ∧ Hp S0 σ0 σ [Ch.ro 0 (Sl alist_0 list_0 clist_0) list_0, Ch.ro 0 (Sl ax_1_1 x_1.2.1 cx_1_1) x_1.2.1, Ch.bx n0 b1 0 [(I x_1.1), (Sl ax_1_1 x_1.2.1 cx_1_1), (I x_1.2.2)] [] []]) ?_ ?_
 ·clear h'
  rename _ = some o3 => h
  refine rg ?_
  refine st (v := (Sl alist_0 list_0 clist_0)) (rv_move rfl) ?_
  obtain ⟨r4, hx5, h'⟩ := bind_some h
  clear h
  have h := h'; clear h'
  have hc6 := c_impl_ValidStore (alist_0 := alist_0) (clist_0 := clist_0) hx5
  refine st_call (cx_call hc6 (ent_f hc6.fn rfl) hn0 (show Hp S0 σ0 _ ([Ch.ro 0 (Sl alist_0 list_0 clist_0) list_0] ++ [Ch.bx n0 b1 0 [(I x_1.1), (Sl ax_1_1 x_1.2.1 cx_1_1), (I x_1.2.2)] [] [], Ch.ro 0 (Sl alist_0 list_0 clist_0) list_0, Ch.ro 0 (Sl ax_1_1 x_1.2.1 cx_1_1) x_1.2.1]) from (H.sel' [1, 0, 1, 2] rfl rfl))) wn ?_
  rintro _ σ7 ⟨_, ⟨rfl, rfl⟩, H, -⟩
  replace H : Hp S0 σ0 σ7 [Ch.bx n0 b1 0 [(I x_1.1), (Sl ax_1_1 x_1.2.1 cx_1_1), (I x_1.2.2)] [] [], Ch.ro 0 (Sl alist_0 list_0 clist_0) list_0, Ch.ro 0 (Sl ax_1_1 x_1.2.1 cx_1_1) x_1.2.1] := H
  refine st (v := (B (!r4))) (rv_not rfl) ?_
  refine st (v := (B (!r4))) (rv_move rfl) ?_
  rcases Bool.eq_false_or_eq_true (!r4) with hb8 | hb8
  ·replace h := bif_t hb8 h
   refine st_skip (congrArg some hb8) ?_
   refine st_skip (congrArg some hb8) ?_
   refine st_skip (congrArg some hb8) ?_
   refine st (v := (B true)) (rv_pick_t (congrArg B hb8) rfl) ?_
   refine w_end ?_
   obtain rfl := Option.some.inj h
   exact ⟨rfl, _, σ7, fr_join ⟨rfl, rfl, rfl, trivial⟩, rfl, H.sel' [1, 2, 0] rfl rfl⟩
  ·replace h := bif_f hb8 h
   have hc9 := H.cells 0 rfl
   refine st_g (v := (.agg #[(I x_1.1), (Sl ax_1_1 x_1.2.1 cx_1_1), (I x_1.2.2)])) (congrArg some hb8) (rv_load (cs := [(I x_1.1), (Sl ax_1_1 x_1.2.1 cx_1_1), (I x_1.2.2)]) Try.underlying41 rfl ti41 rfl rfl hc9) ?_
   obtain ⟨r10, hx11, h'⟩ := bind_some h
   clear h
   have h := h'; clear h'
   have hc12 := c_impl_validItem (ax_0_1 := ax_1_1) (cx_0_1 := cx_1_1) hx11
   refine st_call (cx_call hc12 (ent_f hc12.fn rfl) hn0 (show Hp S0 σ0 _ ([Ch.ro 0 (Sl ax_1_1 x_1.2.1 cx_1_1) x_1.2.1] ++ [Ch.bx n0 b1 0 [(I x_1.1), (Sl ax_1_1 x_1.2.1 cx_1_1), (I x_1.2.2)] [] [], Ch.ro 0 (Sl alist_0 list_0 clist_0) list_0, Ch.ro 0 (Sl ax_1_1 x_1.2.1 cx_1_1) x_1.2.1]) from (H.sel' [2, 0, 1, 2] rfl rfl))) (wanted_yes rfl (by exact (congrArg some hb8))) ?_
   rintro _ σ13 ⟨_, ⟨rfl, rfl⟩, H, -⟩
   replace H : Hp S0 σ0 σ13 [Ch.bx n0 b1 0 [(I x_1.1), (Sl ax_1_1 x_1.2.1 cx_1_1), (I x_1.2.2)] [] [], Ch.ro 0 (Sl alist_0 list_0 clist_0) list_0, Ch.ro 0 (Sl ax_1_1 x_1.2.1 cx_1_1) x_1.2.1] := H
   refine st_g (v := (B (!r10))) (congrArg some hb8) (rv_not rfl) ?_
   refine st (v := (B (!r10))) (rv_pick_f (congrArg B hb8) rfl) ?_
   refine w_end ?_
   obtain rfl := Option.some.inj h
   exact ⟨rfl, _, σ13, fr_join ⟨rfl, rfl, rfl, trivial⟩, rfl, H.sel' [1, 2, 0] rfl rfl⟩
 ·clear hj
  have h := h'
  clear h' H
  rintro e a w ⟨rfl, ρ, σ14, rfl, rfl, H⟩
  refine q_then ?_
  refine cd_cond o3 rfl (fun hb15 => ?_) (fun hb15 => ?_)
  ·replace h := bif_t hb15 h
   refine c_seq ?_
   refine rg ?_
   refine st (v := (.slice none 0 0)) (rv_assign rfl) ?_
   refine st (v := (B false)) (rv_assign rfl) ?_
   refine w_end ?_
   refine q_then ?_
   refine c_ret ?_
   refine q_then_r ?_
   replace H := H.nilOwn (Int × (List Int) × Int) 0 0
   obtain rfl := Option.some.inj h
   exact fin_ret (v := (.tuple #[(.slice none 0 0), (B false)])) (results_ok Try.results140 (res_tmp (v := (.slice none 0 0)) rfl (res_tmp (v := (B false)) rfl res_nil)) rfl) ⟨none, 0, rfl, rfl⟩ (H.sel' [0] rfl rfl)
  ·replace h := bif_f hb15 h
   refine c_skip ?_
   refine q_then ?_
   refine c_seq ?_
   refine rg ?_
   refine st (v := (Sl alist_0 list_0 clist_0)) (rv_move rfl) ?_
   refine st (v := (pt b1 0)) (rv_fieldAddr (off := 0) (ft := 3) Try.underlying41 rfl ti3 rfl rfl) ?_
   have hc16 := H.cell (u := (I x_1.1)) (o' := 0) 2 0 rfl rfl rfl
   refine st (v := (I x_1.1)) (rv_load1 Try.underlying3 rfl rfl hc16) ?_
   obtain ⟨r17, hx18, h'⟩ := bind_some h
   clear h
   have h := h'; clear h'
   have hc19 := c_impl_placeOf (alist_0 := alist_0) (clist_0 := clist_0) hx18
   refine st_call (cx_call hc19 (ent_f hc19.fn rfl) hn0 (show Hp S0 σ0 _ ([Ch.ro 0 (Sl alist_0 list_0 clist_0) list_0] ++ [Ch.ro 0 (Sl alist_0 list_0 clist_0) list_0, Ch.ro 0 (Sl ax_1_1 x_1.2.1 cx_1_1) x_1.2.1, Ch.bx n0 b1 0 [(I x_1.1), (Sl ax_1_1 x_1.2.1 cx_1_1), (I x_1.2.2)] [] []]) from (H.sel' [0, 0, 1, 2] rfl rfl))) wn ?_
   rintro _ σ20 ⟨_, ⟨rfl, rfl⟩, H, -⟩
   replace H : Hp S0 σ0 σ20 [Ch.ro 0 (Sl alist_0 list_0 clist_0) list_0, Ch.ro 0 (Sl ax_1_1 x_1.2.1 cx_1_1) x_1.2.1, Ch.bx n0 b1 0 [(I x_1.1), (Sl ax_1_1 x_1.2.1 cx_1_1), (I x_1.2.2)] [] []] := H
   refine st (v := (.tuple #[(I r17.1), (B r17.2)])) (rv_move rfl) ?_
   refine st (v := (I r17.1)) (rv_extract rfl rfl) ?_
   refine st (v := (B r17.2)) (rv_extract rfl rfl) ?_
   refine st (v := (I r17.1)) (rv_assign rfl) ?_
   refine st (v := (B r17.2)) (rv_assign rfl) ?_
   refine w_end ?_
   refine q_then ?_
   refine c_seq ?_
   refine c_seq ?_
   refine rg ?_
   refine st (v := (B r17.2)) (rv_move rfl) ?_
   refine w_end ?_
   refine q_then ?_
   refine cd_cond r17.2 rfl (fun hb21 => ?_) (fun hb21 => ?_)
   ·replace h := bif_t hb21 h
    refine c_seq ?_
    refine rg ?_
    refine st (v := (Sl alist_0 list_0 clist_0)) (rv_move rfl) ?_
    obtain ⟨r22, hx23, h'⟩ := bind_some h
    clear h
    have h := h'; clear h'
    have hc24 := c_impl_copyItems (alist_0 := alist_0) (clist_0 := clist_0) hx23
    refine st_call (cx_call hc24 (ent_f hc24.fn rfl) hn0 (show Hp S0 σ0 _ ([Ch.ro 0 (Sl alist_0 list_0 clist_0) list_0] ++ [Ch.ro 0 (Sl alist_0 list_0 clist_0) list_0, Ch.ro 0 (Sl ax_1_1 x_1.2.1 cx_1_1) x_1.2.1, Ch.bx n0 b1 0 [(I x_1.1), (Sl ax_1_1 x_1.2.1 cx_1_1), (I x_1.2.2)] [] []]) from (H.sel' [0, 0, 1, 2] rfl rfl))) wn ?_
    rintro _ σ28 ⟨_, ⟨a25, c26, rfl, rfl, ht27⟩, H, -⟩
    replace H : Hp S0 σ0 σ28 [Ch.own n0 n0 (Sl a25 r22 c26) r22, Ch.ro 0 (Sl alist_0 list_0 clist_0) list_0, Ch.ro 0 (Sl ax_1_1 x_1.2.1 cx_1_1) x_1.2.1, Ch.bx n0 b1 0 [(I x_1.1), (Sl ax_1_1 x_1.2.1 cx_1_1), (I x_1.2.2)] [] []] := H
    refine st (v := (Sl a25 r22 c26)) (rv_assign rfl) ?_
    refine w_end ?_
    refine q_then ?_
    refine c_seq ?_
    refine rg ?_
    refine st (v := (Sl a25 r22 c26)) (rv_move rfl) ?_
    refine st (v := (I r17.1)) (rv_move rfl) ?_
    have hc29 := H.cells 3 rfl
    refine st (v := (.agg #[(I x_1.1), (Sl ax_1_1 x_1.2.1 cx_1_1), (I x_1.2.2)])) (rv_load (cs := [(I x_1.1), (Sl ax_1_1 x_1.2.1 cx_1_1), (I x_1.2.2)]) Try.underlying41 rfl ti41 rfl rfl hc29) ?_
    obtain ⟨r30, hx31, h'⟩ := bind_some h
    clear h
    have h := h'; clear h'
    have hc32 := c_impl_copyItem (ax_0_1 := ax_1_1) (cx_0_1 := cx_1_1) hx31
    refine st_call (cx_call hc32 (ent_f hc32.fn rfl) hn0 (show Hp S0 σ0 _ ([Ch.ro 0 (Sl ax_1_1 x_1.2.1 cx_1_1) x_1.2.1] ++ [Ch.own n0 n0 (Sl a25 r22 c26) r22, Ch.ro 0 (Sl alist_0 list_0 clist_0) list_0, Ch.ro 0 (Sl ax_1_1 x_1.2.1 cx_1_1) x_1.2.1, Ch.bx n0 b1 0 [(I x_1.1), (Sl ax_1_1 x_1.2.1 cx_1_1), (I x_1.2.2)] [] []]) from (H.sel' [2, 0, 1, 2, 3] rfl rfl))) wn ?_
    rintro _ σ35 ⟨_, ⟨a33, c34, rfl, rfl⟩, H, -⟩
    replace H : Hp S0 σ0 σ35 [Ch.own n0 n0 (Sl a33 r30.2.1 c34) r30.2.1, Ch.own n0 n0 (Sl a25 r22 c26) r22, Ch.ro 0 (Sl alist_0 list_0 clist_0) list_0, Ch.ro 0 (Sl ax_1_1 x_1.2.1 cx_1_1) x_1.2.1, Ch.bx n0 b1 0 [(I x_1.1), (Sl ax_1_1 x_1.2.1 cx_1_1), (I x_1.2.2)] [] []] := H
    obtain ⟨x36, hx37, h'⟩ := bind_some h
    clear h
    have h := h'; clear h'
    obtain ⟨b39, o40, hi38, -⟩ := (H.own 1 rfl).ix hx37
    refine st (v := (pt b39 o40)) (rv_ix Try.underlying33 ti41 rfl rfl hi38) ?_
    obtain ⟨σ41, hw42, H, -⟩ := H.pub 0 rfl (Nat.le_refl _)
    rw [← hw42]; clear hw42
    refine st_exS (ex_store_own (e' := (r30.1, r30.2.1, r30.2.2)) (vs := [(I r30.1), (Sl a33 r30.2.1 c34), (I r30.2.2)]) (k := 0) H (i := 1) rfl ti41 hx37 hi38 rfl rfl rfl rfl rfl (Nat.le_of_ble_eq_true rfl) (by simp [plain]) (by rintro _ ⟨_, _, rfl, rfl, ⟨_, _, rfl, ⟨_, rfl, hR45⟩, rfl⟩⟩; exact ⟨[(I r30.1)], [(Sl a33 r30.2.1 c34), (I r30.2.2)], rfl, rfl, ⟨[(Sl a33 r30.2.1 c34)], [(I r30.2.2)], rfl, ⟨_, rfl, (H.ro 0 rfl)⟩, rfl⟩⟩)) wn ?_
    rintro σ46 ⟨H, -⟩
    have hsl : (Sl a25 r22 c26) = (Sl a25 (r22.set r17.1.toNat (r30.1, r30.2.1, r30.2.2)) c26) := sl_len List.length_set.symm
    rw [hsl]; rw [hsl] at H; clear hsl
    refine w_end ?_
    refine q_then ?_
    refine c_seq ?_
    refine rg ?_
    refine st (v := (Sl a25 (r22.set r17.1.toNat (r30.1, r30.2.1, r30.2.2)) c26)) (rv_move rfl) ?_
    refine st (v := (Sl a25 (r22.set r17.1.toNat (r30.1, r30.2.1, r30.2.2)) c26)) (rv_assign rfl) ?_
    refine st (v := (B true)) (rv_assign rfl) ?_
    refine w_end ?_
    refine q_then ?_
    refine c_ret ?_
    refine q_then_r ?_
    replace H := H.ownLow 0 0 0 rfl (Nat.zero_le _) (Nat.zero_le _)
    obtain rfl := Option.some.inj h
    exact fin_ret (v := (.tuple #[(Sl a25 (r22.set r17.1.toNat (r30.1, r30.2.1, r30.2.2)) c26), (B true)])) (results_ok Try.results140 (res_tmp (v := (Sl a25 (r22.set r17.1.toNat (r30.1, r30.2.1, r30.2.2)) c26)) rfl (res_tmp (v := (B true)) rfl res_nil)) rfl) ⟨a25, c26, rfl, rfl⟩ (H.sel' [0] rfl rfl)
   ·replace h := bif_f hb21 h
    refine c_skip ?_
    refine q_then ?_
    refine c_seq ?_
    refine c_seq ?_
    refine rg ?_
    refine st (v := (Sl alist_0 list_0 clist_0)) (rv_move rfl) ?_
    refine st (v := (I (list_0.length : Int))) (rv_len Try.underlying33 rfl) ?_
    refine st (v := (B ((list_0.length : Int) == 16))) (rv_eql (a := (list_0.length : Int)) (b := 16) rfl rfl) ?_
    refine w_end ?_
    refine q_then ?_
    refine cd_cond ((list_0.length : Int) == 16) rfl (fun hb47 => ?_) (fun hb47 => ?_)
    ·replace h := bif_t hb47 h
     refine c_seq ?_
     refine rg ?_
     refine st (v := (.slice none 0 0)) (rv_assign rfl) ?_
     refine st (v := (B false)) (rv_assign rfl) ?_
     refine w_end ?_
     refine q_then ?_
     refine c_ret ?_
     refine q_then_r ?_
     replace H := H.nilOwn (Int × (List Int) × Int) 0 0
     obtain rfl := Option.some.inj h
     exact fin_ret (v := (.tuple #[(.slice none 0 0), (B false)])) (results_ok Try.results140 (res_tmp (v := (.slice none 0 0)) rfl (res_tmp (v := (B false)) rfl res_nil)) rfl) ⟨none, 0, rfl, rfl⟩ (H.sel' [0] rfl rfl)
    ·replace h := bif_f hb47 h
     refine c_skip ?_
     refine q_then ?_
     refine c_seq ?_
     obtain ⟨r48, hx49, h'⟩ := bind_some h
     clear h
     have h := h'; clear h'
     have hc50 := c_impl_copyItems (alist_0 := alist_0) (clist_0 := clist_0) hx49
     have hc54 := H.cells 2 rfl
     obtain ⟨r55, hx56, h'⟩ := bind_some h
     clear h
     have h := h'; clear h'
     have hc57 := c_impl_copyItem (ax_0_1 := ax_1_1) (cx_0_1 := cx_1_1) hx56
     have Hs := H
     refine rg2 (σ := σ20) (Nm := (Option Addr) × (Nat) × (Option Addr) × (Nat) × (Nat)) 6 [1, 4, 5] [[false, false, false], [true, false, false], [true, true, false], [true, true, true]] [[(0, 0)], [(0, 1)], [(0, 0), (1, 1), (2, 2), (3, 3)], [(0, 0), (1, 1)], [(1, 2)], [(2, 3)]] 3 [fun ((a51, c52, a58, c59, b60) : (Option Addr) × (Nat) × (Option Addr) × (Nat) × (Nat)) => fun σm => Hp S0 σ0 σm [Ch.ro 0 (Sl alist_0 list_0 clist_0) list_0, Ch.ro 0 (Sl ax_1_1 x_1.2.1 cx_1_1) x_1.2.1, Ch.bx n0 b1 0 [(I x_1.1), (Sl ax_1_1 x_1.2.1 cx_1_1), (I x_1.2.2)] [] []] ∧ Md (cov []) σ20 σm, fun ((a51, c52, a58, c59, b60) : (Option Addr) × (Nat) × (Option Addr) × (Nat) × (Nat)) => fun σm => Hp S0 σ0 σm [Ch.own n0 n0 (Sl a51 r48 c52) r48, Ch.ro 0 (Sl alist_0 list_0 clist_0) list_0, Ch.ro 0 (Sl ax_1_1 x_1.2.1 cx_1_1) x_1.2.1, Ch.bx n0 b1 0 [(I x_1.1), (Sl ax_1_1 x_1.2.1 cx_1_1), (I x_1.2.2)] [] []] ∧ Md (cov []) σ20 σm ∧ c52 = r48.length, fun ((a51, c52, a58, c59, b60) : (Option Addr) × (Nat) × (Option Addr) × (Nat) × (Nat)) => fun σm => Hp S0 σ0 σm [Ch.ro n0 (Sl a58 r55.2.1 c59) r55.2.1, Ch.own n0 n0 (Sl a51 r48 c52) r48, Ch.ro 0 (Sl alist_0 list_0 clist_0) list_0, Ch.ro 0 (Sl ax_1_1 x_1.2.1 cx_1_1) x_1.2.1, Ch.bx n0 b1 0 [(I x_1.1), (Sl ax_1_1 x_1.2.1 cx_1_1), (I x_1.2.2)] [] []] ∧ Md (fun i => (cov []) i ∨ (fun i => (cov [Ch.ro 0 (Sl ax_1_1 x_1.2.1 cx_1_1) x_1.2.1]) i ∨ (fun b => blk (Sl a58 r55.2.1 c59) = some b) i) i) σ20 σm ∧ c52 = r48.length, fun ((a51, c52, a58, c59, b60) : (Option Addr) × (Nat) × (Option Addr) × (Nat) × (Nat)) => fun σm => Hp S0 σ0 σm [Ch.own n0 n0 (Sl (some ⟨b60, 0, none⟩) ([(r55.1, r55.2.1, r55.2.2)] : List (Int × (List Int) × Int)) 1) ([(r55.1, r55.2.1, r55.2.2)] : List (Int × (List Int) × Int)), Ch.ro n0 (Sl a58 r55.2.1 c59) r55.2.1, Ch.own n0 n0 (Sl a51 r48 c52) r48, Ch.ro 0 (Sl alist_0 list_0 clist_0) list_0, Ch.ro 0 (Sl ax_1_1 x_1.2.1 cx_1_1) x_1.2.1, Ch.bx n0 b1 0 [(I x_1.1), (Sl ax_1_1 x_1.2.1 cx_1_1), (I x_1.2.2)] [] []] ∧ Md (fun i => (cov []) i ∨ (fun i => (cov [Ch.ro 0 (Sl ax_1_1 x_1.2.1 cx_1_1) x_1.2.1]) i ∨ (fun b => blk (Sl a58 r55.2.1 c59) = some b) i) i) σ20 σm ∧ c52 = r48.length] [fun ((a51, c52, a58, c59, b60) : (Option Addr) × (Nat) × (Option Addr) × (Nat) × (Nat)) => (Sl alist_0 list_0 clist_0), fun ((a51, c52, a58, c59, b60) : (Option Addr) × (Nat) × (Option Addr) × (Nat) × (Nat)) => (Sl a51 r48 c52), fun ((a51, c52, a58, c59, b60) : (Option Addr) × (Nat) × (Option Addr) × (Nat) × (Nat)) => (I r17.1), fun ((a51, c52, a58, c59, b60) : (Option Addr) × (Nat) × (Option Addr) × (Nat) × (Nat)) => (.agg #[(I x_1.1), (Sl ax_1_1 x_1.2.1 cx_1_1), (I x_1.2.2)]), fun ((a51, c52, a58, c59, b60) : (Option Addr) × (Nat) × (Option Addr) × (Nat) × (Nat)) => (.agg #[(I r55.1), (Sl a58 r55.2.1 c59), (I r55.2.2)]), fun ((a51, c52, a58, c59, b60) : (Option Addr) × (Nat) × (Option Addr) × (Nat) × (Nat)) => (Sl (some ⟨b60, 0, none⟩) ([(r55.1, r55.2.1, r55.2.2)] : List (Int × (List Int) × Int)) 1)] (none, 0, none, 0, 0) (by kernel_rfl) (by kernel_rfl) ?_ ?_ ?_
     ·intro σm m0
      exact ⟨H.grow (m0.mono fun _ h => h.elim), m0⟩
     ·refine ac rfl (by
        intro k; rintro ⟨a51, c52, a58, c59, b60⟩ ρ σm hJ hoff hdep
        have e0 := look_off (N := 43) (hoff 0 rfl) rfl
        exact dp_v (v := (Sl alist_0 list_0 clist_0)) wn (rv_move e0) rfl hJ) ?_
      refine all_cons (by
        refine ⟨?_, ?_⟩
        ·rintro ⟨a51, c52, a58, c59, b60⟩ ρ σm hJ hoff hdep
         have e36 : look 43 ρ 36 = (Sl alist_0 list_0 clist_0) := hdep 0 rfl rfl 36 rfl
         obtain ⟨H, m⟩ := id hJ
         refine dp_cx wn (cx_call hc50 (ent_f hc50.fn (by show [look 43 ρ 36] = _; rw [e36])) hn0 (show Hp S0 σ0 _ ([Ch.ro 0 (Sl alist_0 list_0 clist_0) list_0] ++ [Ch.ro 0 (Sl alist_0 list_0 clist_0) list_0, Ch.ro 0 (Sl ax_1_1 x_1.2.1 cx_1_1) x_1.2.1, Ch.bx n0 b1 0 [(I x_1.1), (Sl ax_1_1 x_1.2.1 cx_1_1), (I x_1.2.2)] [] []]) from (H.sel' [0, 0, 1, 2] rfl rfl))) ?_
         rintro _ σq ⟨_, ⟨a51x, c52x, rfl, rfl, ht53⟩, H2, m2⟩
         exact ⟨_, (a51x, c52x, a58, c59, b60), rfl, rfl, ⟨H2.sel' [0, 1, 2, 3] rfl rfl, m.comp0 (m2.mono (fun i h => by simp [cov, Ch.ro] at h)), ht53⟩, stab [0, 2, 3] (by kernel_rfl) ⟨rfl, rfl, rfl, trivial⟩⟩
        trivial) ?_
      refine ac rfl (by
        intro k; rintro ⟨a51, c52, a58, c59, b60⟩ ρ σm hJ hoff hdep
        have e6 := look_off (N := 43) (hoff 6 rfl) rfl
        exact dp_v (v := (I r17.1)) wn (rv_move e6) rfl hJ) ?_
      refine all_cons (by
        refine ⟨?_, ?_⟩
        ·rintro ⟨a51, c52, a58, c59, b60⟩ ρ σm hJ hoff hdep
         have e3 := look_off (N := 43) (hoff 3 rfl) rfl
         obtain ⟨H, m⟩ := id hJ
         have hc54 := H.cells 2 rfl
         exact dp_v (v := (.agg #[(I x_1.1), (Sl ax_1_1 x_1.2.1 cx_1_1), (I x_1.2.2)])) wn (rv_load (cs := [(I x_1.1), (Sl ax_1_1 x_1.2.1 cx_1_1), (I x_1.2.2)]) Try.underlying41 rfl ti41 e3 rfl hc54) rfl hJ
        refine ⟨?_, ?_⟩
        ·rintro ⟨a51, c52, a58, c59, b60⟩ ρ σm hJ hoff hdep
         have e3 := look_off (N := 43) (hoff 3 rfl) rfl
         obtain ⟨H, m, ht53⟩ := id hJ
         have hc54 := H.cells 3 rfl
         exact dp_v (v := (.agg #[(I x_1.1), (Sl ax_1_1 x_1.2.1 cx_1_1), (I x_1.2.2)])) wn (rv_load (cs := [(I x_1.1), (Sl ax_1_1 x_1.2.1 cx_1_1), (I x_1.2.2)]) Try.underlying41 rfl ti41 e3 rfl hc54) rfl hJ
        trivial) ?_
      refine all_cons (by
        refine ⟨?_, ?_⟩
        ·rintro ⟨a51, c52, a58, c59, b60⟩ ρ σm hJ hoff hdep
         have e39 : look 43 ρ 39 = (.agg #[(I x_1.1), (Sl ax_1_1 x_1.2.1 cx_1_1), (I x_1.2.2)]) := hdep 3 rfl rfl 39 rfl
         obtain ⟨H, m, ht53⟩ := id hJ
         refine dp_cx wn (cx_call hc57 (ent_f hc57.fn (by show [look 43 ρ 39] = _; rw [e39])) hn0 (show Hp S0 σ0 _ ([Ch.ro 0 (Sl ax_1_1 x_1.2.1 cx_1_1) x_1.2.1] ++ [Ch.own n0 n0 (Sl a51 r48 c52) r48, Ch.ro 0 (Sl alist_0 list_0 clist_0) list_0, Ch.ro 0 (Sl ax_1_1 x_1.2.1 cx_1_1) x_1.2.1, Ch.bx n0 b1 0 [(I x_1.1), (Sl ax_1_1 x_1.2.1 cx_1_1), (I x_1.2.2)] [] []]) from (H.sel' [2, 0, 1, 2, 3] rfl rfl))) ?_
         rintro _ σq ⟨_, ⟨a58x, c59x, rfl, rfl⟩, H2, m2⟩
         obtain ⟨σr0, hwr0, H2, mr0⟩ := H2.pub 0 rfl (Nat.le_refl _)
         exact ⟨_, (a51, c52, a58x, c59x, b60), hwr0, rfl, ⟨H2.sel' [0, 1, 2, 3, 4] rfl rfl, m.comp (m2.comp mr0), ht53⟩, stab [0, 1, 2, 3] (by kernel_rfl) ⟨rfl, rfl, rfl, rfl, trivial⟩⟩
        trivial) ?_
      refine all_cons (by
        refine ⟨?_, ?_⟩
        ·rintro ⟨a51, c52, a58, c59, b60⟩ ρ σm hJ hoff hdep
         have e40 : look 43 ρ 40 = (.agg #[(I r55.1), (Sl a58 r55.2.1 c59), (I r55.2.2)]) := hdep 4 rfl rfl 40 rfl
         obtain ⟨H, m, ht53⟩ := id hJ
         refine dp_ex wn (ex_buildSlice (el := n0) (xs := ([(r55.1, r55.2.1, r55.2.2)] : List (Int × (List Int) × Int))) (ps := [(0, (.agg #[(I r55.1), (Sl a58 r55.2.1 c59), (I r55.2.2)]))]) (cs := [(I r55.1), (Sl a58 r55.2.1 c59), (I r55.2.2)]) H hn0 Try.underlying33 ti41 rfl (by show [(0, look 43 ρ 40)] = _; rw [e40]) (by kernel_rfl) (.cons (c := [(I r55.1), (Sl a58 r55.2.1 c59), (I r55.2.2)]) ⟨[(I r55.1)], [(Sl a58 r55.2.1 c59), (I r55.2.2)], rfl, rfl, ⟨[(Sl a58 r55.2.1 c59)], [(I r55.2.2)], rfl, ⟨_, rfl, (H.ro 0 rfl)⟩, rfl⟩⟩ (.nil)) rfl) ?_
         rintro _ σq ⟨b60x, rfl, H2, m2⟩
         exact ⟨_, (a51, c52, a58, c59, b60x), rfl, rfl, ⟨H2.sel' [0, 1, 2, 3, 4, 5] rfl rfl, m.comp0 m2, ht53⟩, stab [0, 1, 2, 3, 4] (by kernel_rfl) ⟨rfl, rfl, rfl, rfl, rfl, trivial⟩⟩
        trivial) ?_
      exact all_nil
     ·rintro ⟨a51, c52, a58, c59, b60⟩ ρ σ61 hJ hoff hrel
      have e37 := hrel 1 rfl 37 rfl
      have e38 := hrel 2 rfl 38 rfl
      have e41 := hrel 5 rfl 41 rfl
      obtain ⟨H, -, ht53⟩ := (show Hp S0 σ0 σ61 [Ch.own n0 n0 (Sl (some ⟨b60, 0, none⟩) ([(r55.1, r55.2.1, r55.2.2)] : List (Int × (List Int) × Int)) 1) ([(r55.1, r55.2.1, r55.2.2)] : List (Int × (List Int) × Int)), Ch.ro n0 (Sl a58 r55.2.1 c59) r55.2.1, Ch.own n0 n0 (Sl a51 r48 c52) r48, Ch.ro 0 (Sl alist_0 list_0 clist_0) list_0, Ch.ro 0 (Sl ax_1_1 x_1.2.1 cx_1_1) x_1.2.1, Ch.bx n0 b1 0 [(I x_1.1), (Sl ax_1_1 x_1.2.1 cx_1_1), (I x_1.2.2)] [] []] ∧ Md (fun i => (cov []) i ∨ (fun i => (cov [Ch.ro 0 (Sl ax_1_1 x_1.2.1 cx_1_1) x_1.2.1]) i ∨ (fun b => blk (Sl a58 r55.2.1 c59) = some b) i) i) σ20 σ61 ∧ c52 = r48.length from hJ)
      clear hJ Hs
      rw [fr_lookL (L := [(37, (Sl a51 r48 c52)), (38, (I r17.1)), (41, (Sl (some ⟨b60, 0, none⟩) ([(r55.1, r55.2.1, r55.2.2)] : List (Int × (List Int) × Int)) 1))]) ⟨e37, e38, e41, trivial⟩]
      clear hoff hrel e37 e38 e41
      obtain ⟨σ62, hw63, H, -⟩ := H.pub 0 rfl (Nat.le_refl _)
      rw [← hw63]; clear hw63
      replace H := H.ownLow 2 0 0 rfl (Nat.zero_le _) (Nat.zero_le _)
      replace H := H.roLow 1 0 rfl (Nat.zero_le _)
      obtain ⟨r64, hx65, h'⟩ := bind_some h
      clear h
      have h := h'; clear h'
      have hc66 := c_slices_Insert_impl_Item_impl_Item (as_0 := a51) (cs_0 := c52) (hts_0 := ht53) (av_2 := (some ⟨b60, 0, none⟩)) (cv_2 := 1) hx65
      refine st_call (cx_call hc66 (ent_f hc66.fn rfl) hn0 (show Hp S0 σ0 _ ([Ch.own 0 0 (Sl a51 r48 c52) r48, Ch.ro 0 (Sl (some ⟨b60, 0, none⟩) ([(r55.1, r55.2.1, r55.2.2)] : List (Int × (List Int) × Int)) 1) ([(r55.1, r55.2.1, r55.2.2)] : List (Int × (List Int) × Int))] ++ [Ch.ro 0 (Sl (some ⟨b60, 0, none⟩) ([(r55.1, r55.2.1, r55.2.2)] : List (Int × (List Int) × Int)) 1) ([(r55.1, r55.2.1, r55.2.2)] : List (Int × (List Int) × Int)), Ch.ro n0 (Sl (some ⟨b60, 0, none⟩) ([(r55.1, r55.2.1, r55.2.2)] : List (Int × (List Int) × Int)) 1) ([(r55.1, r55.2.1, r55.2.2)] : List (Int × (List Int) × Int)), Ch.ro n0 (Sl a58 r55.2.1 c59) r55.2.1, Ch.ro 0 (Sl alist_0 list_0 clist_0) list_0, Ch.ro 0 (Sl ax_1_1 x_1.2.1 cx_1_1) x_1.2.1, Ch.bx n0 b1 0 [(I x_1.1), (Sl ax_1_1 x_1.2.1 cx_1_1), (I x_1.2.2)] [] []]) from (H.sel' [1, 0, 0, 2, 3, 4, 5, 6] rfl rfl))) wn ?_
      rintro _ σ69 ⟨_, ⟨a67, c68, rfl, rfl⟩, H, -⟩
      replace H : Hp S0 σ0 σ69 [Ch.own 0 0 (Sl a67 r64 c68) r64, Ch.ro 0 (Sl (some ⟨b60, 0, none⟩) ([(r55.1, r55.2.1, r55.2.2)] : List (Int × (List Int) × Int)) 1) ([(r55.1, r55.2.1, r55.2.2)] : List (Int × (List Int) × Int)), Ch.ro n0 (Sl (some ⟨b60, 0, none⟩) ([(r55.1, r55.2.1, r55.2.2)] : List (Int × (List Int) × Int)) 1) ([(r55.1, r55.2.1, r55.2.2)] : List (Int × (List Int) × Int)), Ch.ro n0 (Sl a58 r55.2.1 c59) r55.2.1, Ch.ro 0 (Sl alist_0 list_0 clist_0) list_0, Ch.ro 0 (Sl ax_1_1 x_1.2.1 cx_1_1) x_1.2.1, Ch.bx n0 b1 0 [(I x_1.1), (Sl ax_1_1 x_1.2.1 cx_1_1), (I x_1.2.2)] [] []] := H
      refine st (v := (Sl a67 r64 c68)) (rv_assign rfl) ?_
      refine st (v := (B true)) (rv_assign rfl) ?_
      refine w_end ?_
      refine q_then ?_
      refine c_ret ?_
      obtain rfl := Option.some.inj h
      exact fin_ret (v := (.tuple #[(Sl a67 r64 c68), (B true)])) (results_ok Try.results140 (res_tmp (v := (Sl a67 r64 c68)) rfl (res_tmp (v := (B true)) rfl res_nil)) rfl) ⟨a67, c68, rfl, rfl⟩ (H.sel' [0] rfl rfl)

theorem c_impl_putChange_apply {c_0 : (Int × (List Int) × Int)} {list_1 : List (Int × (List Int) × Int)} {ac_0_0_1 : Option Addr} {cc_0_0_1 : Nat} {alist_1 : Option Addr} {clist_1 : Nat} {r : (List (Int × (List Int) × Int)) × Bool} (h : M.impl_putChange_apply c_0 list_1 = some r) :
    Cal2 Try.prog 138 [(.agg #[(I c_0.1), (Sl ac_0_0_1 c_0.2.1 cc_0_0_1), (I c_0.2.2)]), (Sl alist_1 list_1 clist_1)] [Ch.ro 0 (Sl ac_0_0_1 c_0.2.1 cc_0_0_1) c_0.2.1, Ch.ro 0 (Sl alist_1 list_1 clist_1) list_1] (fun n0 v L => ∃ (az1 : Option Addr), ∃ (cz2 : Nat), v = (.tuple #[(Sl az1 r.1 cz2), (B r.2)]) ∧ L = [Ch.own 0 0 (Sl az1 r.1 cz2) r.1]) := by
 refine cal2 (n := 12) Try.func138 rfl rfl rfl rfl ?_
 intro S0 σ0 n0 hn0 H
 unfold M.impl_putChange_apply at h
 refine c_seq ?_
 refine rg ?_
 refine st_ex (ex_box (cs := [(I c_0.1), (Sl ac_0_0_1 c_0.2.1 cc_0_0_1), (I c_0.2.2)]) H hn0 rfl rfl) wn ?_
 rintro _ σ2 ⟨b1, rfl, H, -⟩
 refine st (v := (.slice none 0 0)) (rv_assign rfl) ?_
 refine st (v := (B false)) (rv_assign rfl) ?_
 refine w_end ?_
 refine q_then ?_
 refine c_seq ?_
 refine rg ?_
 refine st (v := (Sl alist_1 list_1 clist_1)) (rv_move rfl) ?_
 refine st (v := (pt b1 0)) (rv_fieldAddr (off := 0) (ft := 41) Try.underlying98 rfl ti41 rfl rfl) ?_
 have hc3 := H.part (us := [(I c_0.1), (Sl ac_0_0_1 c_0.2.1 cc_0_0_1), (I c_0.2.2)]) (o' := 0) 0 0 3 rfl rfl rfl rfl
 refine st (v := (.agg #[(I c_0.1), (Sl ac_0_0_1 c_0.2.1 cc_0_0_1), (I c_0.2.2)])) (rv_load (cs := [(I c_0.1), (Sl ac_0_0_1 c_0.2.1 cc_0_0_1), (I c_0.2.2)]) Try.underlying41 rfl ti41 rfl rfl hc3) ?_
 obtain ⟨r4, hx5, h'⟩ := bind_some h
 clear h
 have h := h'; clear h'
 have hc6 := c_impl_PutItem (alist_0 := alist_1) (clist_0 := clist_1) (ax_1_1 := ac_0_0_1) (cx_1_1 := cc_0_0_1) hx5
 refine st_call (cx_call hc6 (ent_f hc6.fn rfl) hn0 (show Hp S0 σ0 _ ([Ch.ro 0 (Sl alist_1 list_1 clist_1) list_1, Ch.ro 0 (Sl ac_0_0_1 c_0.2.1 cc_0_0_1) c_0.2.1] ++ [Ch.bx n0 b1 0 [(I c_0.1), (Sl ac_0_0_1 c_0.2.1 cc_0_0_1), (I c_0.2.2)] [] [], Ch.ro 0 (Sl ac_0_0_1 c_0.2.1 cc_0_0_1) c_0.2.1, Ch.ro 0 (Sl alist_1 list_1 clist_1) list_1]) from (H.sel' [2, 1, 0, 1, 2] rfl rfl))) wn ?_
 rintro _ σ9 ⟨_, ⟨a7, c8, rfl, rfl⟩, H, -⟩
 replace H : Hp S0 σ0 σ9 [Ch.own 0 0 (Sl a7 r4.1 c8) r4.1, Ch.bx n0 b1 0 [(I c_0.1), (Sl ac_0_0_1 c_0.2.1 cc_0_0_1), (I c_0.2.2)] [] [], Ch.ro 0 (Sl ac_0_0_1 c_0.2.1 cc_0_0_1) c_0.2.1, Ch.ro 0 (Sl alist_1 list_1 clist_1) list_1] := H
 refine st (v := (Sl a7 r4.1 c8)) (rv_extract rfl rfl) ?_
 refine st (v := (B r4.2)) (rv_extract rfl rfl) ?_
 refine st (v := (Sl a7 r4.1 c8)) (rv_assign rfl) ?_
 refine st (v := (B r4.2)) (rv_assign rfl) ?_
 refine w_end ?_
 refine q_then ?_
 refine c_ret ?_
 obtain rfl := Option.some.inj h
 exact fin_ret (v := (.tuple #[(Sl a7 r4.1 c8), (B r4.2)])) (results_ok Try.results138 (res_tmp (v := (Sl a7 r4.1 c8)) rfl (res_tmp (v := (B r4.2)) rfl res_nil)) rfl) ⟨a7, c8, rfl, rfl⟩ (H.sel' [0] rfl rfl)

theorem c_impl_ReplayLog {list_0 : List (Int × (List Int) × Int)} {log_1 : List (Int × (Int × (List Int) × Int))} {alist_0 : Option Addr} {clist_0 : Nat} {alog_1 : Option Addr} {clog_1 : Nat} {r : (List (Int × (List Int) × Int)) × Int} (h : M.impl_ReplayLog list_0 log_1 = some r) :
    Cal2 Try.prog 23 [(Sl alist_0 list_0 clist_0), (Sl alog_1 log_1 clog_1)] [Ch.ro 0 (Sl alist_0 list_0 clist_0) list_0, Ch.ro 0 (Sl alog_1 log_1 clog_1) log_1] (fun n0 v L => ∃ (az1 : Option Addr), ∃ (cz2 : Nat), v = (.tuple #[(Sl az1 r.1 cz2), (I r.2)]) ∧ L = [Ch.ro 0 (Sl az1 r.1 cz2) r.1]) := by
 refine cal2 (n := 49) Try.func23 rfl rfl rfl rfl ?_
 intro S0 σ0 n0 hn0 H
 unfold M.impl_ReplayLog at h
 refine c_seq ?_
 refine rg ?_
 refine st (v := (.slice none 0 0)) (rv_assign rfl) ?_
 refine st (v := (I 0)) (rv_assign rfl) ?_
 refine w_end ?_
 refine q_then ?_
 refine c_seq ?_
 refine rg ?_
 refine st (v := (Sl alog_1 log_1 clog_1)) (rv_move rfl) ?_
 obtain ⟨r1, hx2, h'⟩ := bind_some h
 clear h
 have h := h'; clear h'
 have hc3 := c_impl_changesOf (alog_0 := alog_1) (clog_0 := clog_1) hx2
 refine st_call (cx_call hc3 (ent_f hc3.fn rfl) hn0 (show Hp S0 σ0 _ ([Ch.ro 0 (Sl alog_1 log_1 clog_1) log_1] ++ [Ch.ro 0 (Sl alist_0 list_0 clist_0) list_0, Ch.ro 0 (Sl alog_1 log_1 clog_1) log_1]) from (H.sel' [1, 0, 1] rfl rfl))) wn ?_
 rintro _ σ6 ⟨_, ⟨a4, c5, rfl, rfl⟩, H, -⟩
 replace H : Hp S0 σ0 σ6 [Ch.own n0 0 (Sl a4 r1.1 c5) r1.1, Ch.ro 0 (Sl alist_0 list_0 clist_0) list_0, Ch.ro 0 (Sl alog_1 log_1 clog_1) log_1] := H
 refine st (v := (.tuple #[(Sl a4 r1.1 c5), (B r1.2)])) (rv_move rfl) ?_
 refine st (v := (Sl a4 r1.1 c5)) (rv_extract rfl rfl) ?_
 refine st (v := (B r1.2)) (rv_extract rfl rfl) ?_
 refine st (v := (Sl a4 r1.1 c5)) (rv_assign rfl) ?_
 refine st (v := (B r1.2)) (rv_assign rfl) ?_
 refine w_end ?_
 refine q_then ?_
 refine c_seq ?_
 refine c_seq ?_
 obtain ⟨o7, hj, h'⟩ := bind_some h
 clear h
 refine c_cut (fun e a w => e = .normal ∧ ∃ (ρ : Nat → Value) (σ : St), a = fr 49 (updL ρ [(0, (Sl alist_0 list_0 clist_0)), (6, (Sl a4 r1.1 c5)), (24, (B o7))]) ∧ w = σ.w ∧ Hp S0 σ0 σ [Ch.ro 0 (Sl alist_0 list_0 clist_0) list_0, Ch.own n0 0 (Sl a4 r1.1 c5) r1.1]) ?_ ?_
 ·clear h'
  rename _ = some o7 => h
  refine rg ?_
  refine st (v := (B r1.2)) (rv_move rfl) ?_
  refine st (v := (B (!r1.2))) (rv_not rfl) ?_
  refine st (v := (B (!r1.2))) (rv_move rfl) ?_
  rcases Bool.eq_false_or_eq_true (!r1.2) with hb8 | hb8
  ·replace h := bif_t hb8 h
   refine st_skip (congrArg some hb8) ?_
   refine st_skip (congrArg some hb8) ?_
   refine st_skip (congrArg some hb8) ?_
   refine st (v := (B true)) (rv_pick_t (congrArg B hb8) rfl) ?_
   refine w_end ?_
   obtain rfl := Option.some.inj h
   exact ⟨rfl, _, σ6, fr_join ⟨rfl, rfl, rfl, trivial⟩, rfl, H.sel' [1, 0] rfl rfl⟩
  ·replace h := bif_f hb8 h
   refine st_g (v := (Sl alist_0 list_0 clist_0)) (congrArg some hb8) (rv_move rfl) ?_
   obtain ⟨r9, hx10, h'⟩ := bind_some h
   clear h
   have h := h'; clear h'
   have hc11 := c_impl_ValidStore (alist_0 := alist_0) (clist_0 := clist_0) hx10
   refine st_call (cx_call hc11 (ent_f hc11.fn rfl) hn0 (show Hp S0 σ0 _ ([Ch.ro 0 (Sl alist_0 list_0 clist_0) list_0] ++ [Ch.own n0 0 (Sl a4 r1.1 c5) r1.1, Ch.ro 0 (Sl alist_0 list_0 clist_0) list_0, Ch.ro 0 (Sl alog_1 log_1 clog_1) log_1]) from (H.sel' [1, 0, 1, 2] rfl rfl))) (wanted_yes rfl (by exact (congrArg some hb8))) ?_
   rintro _ σ12 ⟨_, ⟨rfl, rfl⟩, H, -⟩
   replace H : Hp S0 σ0 σ12 [Ch.own n0 0 (Sl a4 r1.1 c5) r1.1, Ch.ro 0 (Sl alist_0 list_0 clist_0) list_0, Ch.ro 0 (Sl alog_1 log_1 clog_1) log_1] := H
   refine st_g (v := (B (!r9))) (congrArg some hb8) (rv_not rfl) ?_
   refine st (v := (B (!r9))) (rv_pick_f (congrArg B hb8) rfl) ?_
   refine w_end ?_
   obtain rfl := Option.some.inj h
   exact ⟨rfl, _, σ12, fr_join ⟨rfl, rfl, rfl, trivial⟩, rfl, H.sel' [1, 0] rfl rfl⟩
 ·clear hj
  have h := h'
  clear h' H
  rintro e a w ⟨rfl, ρ, σ13, rfl, rfl, H⟩
  refine q_then ?_
  refine cd_cond o7 rfl (fun hb14 => ?_) (fun hb14 => ?_)
  ·replace h := bif_t hb14 h
   refine c_seq ?_
   refine rg ?_
   refine st (v := (.slice none 0 0)) (rv_assign rfl) ?_
   refine st (v := (I (-1))) (rv_assign rfl) ?_
   refine w_end ?_
   refine q_then ?_
   refine c_ret ?_
   refine q_then_r ?_
   replace H := H.nilRo (Int × (List Int) × Int) 0
   obtain rfl := Option.some.inj h
   exact fin_ret (v := (.tuple #[(.slice none 0 0), (I (-1))])) (results_ok Try.results23 (res_tmp (v := (.slice none 0 0)) rfl (res_tmp (v := (I (-1))) rfl res_nil)) rfl) ⟨none, 0, rfl, rfl⟩ (H.sel' [0] rfl rfl)
  ·replace h := bif_f hb14 h
   refine c_skip ?_
   refine q_then ?_
   refine c_seq ?_
   refine rg ?_
   refine st (v := (Sl alist_0 list_0 clist_0)) (rv_move rfl) ?_
   obtain ⟨r15, hx16, h'⟩ := bind_some h
   clear h
   have h := h'; clear h'
   have hc17 := c_impl_copyItems (alist_0 := alist_0) (clist_0 := clist_0) hx16
   refine st_call (cx_call hc17 (ent_f hc17.fn rfl) hn0 (show Hp S0 σ0 _ ([Ch.ro 0 (Sl alist_0 list_0 clist_0) list_0] ++ [Ch.ro 0 (Sl alist_0 list_0 clist_0) list_0, Ch.own n0 0 (Sl a4 r1.1 c5) r1.1]) from (H.sel' [0, 0, 1] rfl rfl))) wn ?_
   rintro _ σ21 ⟨_, ⟨a18, c19, rfl, rfl, ht20⟩, H, -⟩
   replace H : Hp S0 σ0 σ21 [Ch.own n0 n0 (Sl a18 r15 c19) r15, Ch.ro 0 (Sl alist_0 list_0 clist_0) list_0, Ch.own n0 0 (Sl a4 r1.1 c5) r1.1] := H
   refine st (v := (Sl a18 r15 c19)) (rv_assign rfl) ?_
   refine w_end ?_
   refine q_then ?_
   refine c_seq ?_
   refine c_seq ?_
   refine rg ?_
   refine st (v := (Sl a4 r1.1 c5)) (rv_move rfl) ?_
   refine st (v := (I (r1.1.length : Int))) (rv_len Try.underlying62 rfl) ?_
   refine st (v := (I 0)) (rv_move rfl) ?_
   refine w_end ?_
   refine q_then ?_
   obtain ⟨o22, hj, h'⟩ := bind_some h
   clear h
   refine c_cut (fun e a w => (∃ t, o22 = (.inl t) ∧ e = .normal ∧ ∃ (ρ : Nat → Value) (σ : St) (aj1 : Option Addr) (cj2 : Nat), a = fr 49 (updL ρ [(6, (Sl a4 r1.1 c5)), (8, (Sl aj1 t cj2))]) ∧ w = σ.w ∧ Hp S0 σ0 σ [Ch.own n0 0 (Sl a4 r1.1 c5) r1.1, Ch.own 0 0 (Sl aj1 t cj2) t]) ∨ (∃ t, o22 = (.inr t) ∧ e = .ret ∧ ∃ (ρ : Nat → Value) (σ : St) (aj1 : Option Addr) (cj2 : Nat), a = fr 49 (updL ρ [(4, (Sl aj1 t.1 cj2)), (5, (I t.2))]) ∧ w = σ.w ∧ Hp S0 σ0 σ [Ch.ro 0 (Sl aj1 t.1 cj2) t.1])) ?_ ?_
   ·clear h'
    rename _ = some o22 => h
    refine c_blk ?_
    replace H := H.ownLow 0 0 0 rfl (Nat.zero_le _) (Nat.zero_le _)
    refine wp_loopM _ h (fun s23 a w => ∃ (ρ : Nat → Value) (σ : St) (aj1 : Option Addr) (cj2 : Nat), a = fr 49 (updL ρ [(6, (Sl a4 r1.1 c5)), (8, (Sl aj1 s23.1 cj2)), (27, (Sl a4 r1.1 c5)), (28, (I (r1.1.length : Int))), (29, (I s23.2))]) ∧ w = σ.w ∧ Hp S0 σ0 σ [Ch.own n0 0 (Sl a4 r1.1 c5) r1.1, Ch.own 0 0 (Sl aj1 s23.1 cj2) s23.1]) ⟨_, σ21, a18, c19, fr_join ⟨rfl, rfl, rfl, rfl, rfl, trivial⟩, rfl, H.sel' [2, 0] rfl rfl⟩ ?_
    clear h H
    rintro s23 a w o ⟨ρ, σ24, a25, c26, rfl, rfl, H⟩ h hres
    refine c_seq ?_
    refine rg ?_
    refine st (v := (B (decide (s23.2 < (r1.1.length : Int))))) (rv_lss (a := s23.2) (b := (r1.1.length : Int)) rfl rfl) ?_
    refine w_end ?_
    refine q_then ?_
    refine c_seq ?_
    refine cd_cond (decide (s23.2 < (r1.1.length : Int))) rfl (fun hb27 => ?_) (fun hb27 => ?_)
    ·replace h := bif_t hb27 h
     refine c_skip ?_
     refine q_then ?_
     refine c_seq ?_
     refine c_blk ?_
     refine c_seq ?_
     refine rg ?_
     refine st (v := (I s23.2)) (rv_move rfl) ?_
     obtain ⟨x28, hx29, h'⟩ := bind_some h
     clear h
     have h := h'; clear h'
     obtain ⟨b31, o32, hi30, -⟩ := (H.own 0 rfl).ix hx29
     refine st (v := (pt b31 o32)) (rv_ix Try.underlying62 ti75 rfl rfl hi30) ?_
     obtain ⟨_, ⟨_, _, rfl, ⟨_, _, rfl, rfl, ⟨_, _, rfl, ⟨_, rfl, hR38⟩, rfl⟩⟩, rfl⟩, hl33, hq34⟩ := ((H.own 0 rfl).at hx29 hi30).cells
     obtain ⟨a36, c37, rfl⟩ := hR38.isSl
     have hc35 : HCell _ _ _ = some (ifs2 x28.1 (.iface 94 (.agg #[(I x28.2.1)])) (.iface 98 (.agg #[(I x28.2.2.1), (Sl a36 x28.2.2.2.1 c37), (I x28.2.2.2.2)]))) := hq34 0 Nat.zero_lt_one
     clear hq34
     replace H := H.add (d := Ch.ro 0 (Sl a36 x28.2.2.2.1 c37) x28.2.2.2.1) hR38 (fun _ h => h)
     clear hR38
     refine st (v := (ifs2 x28.1 (.iface 94 (.agg #[(I x28.2.1)])) (.iface 98 (.agg #[(I x28.2.2.1), (Sl a36 x28.2.2.2.1 c37), (I x28.2.2.2.2)])))) (rv_load1 Try.underlying75 rfl rfl hc35) ?_
     refine st (v := (I s23.2)) (rv_assign rfl) ?_
     refine st (v := (ifs2 x28.1 (.iface 94 (.agg #[(I x28.2.1)])) (.iface 98 (.agg #[(I x28.2.2.1), (Sl a36 x28.2.2.2.1 c37), (I x28.2.2.2.2)])))) (rv_assign rfl) ?_
     refine w_end ?_
     refine q_then ?_
     refine c_seq ?_
     obtain ⟨o39, hj, h'⟩ := bind_some h
     clear h
     refine c_cut (fun e a w => e = .normal ∧ ∃ (ρ : Nat → Value) (σ : St) (aj1 : Option Addr) (cj2 : Nat), a = fr 49 (updL ρ [(6, (Sl a4 r1.1 c5)), (8, (Sl a25 s23.1 c26)), (9, (I s23.2)), (11, (Sl aj1 o39.1 cj2)), (12, (B o39.2)), (27, (Sl a4 r1.1 c5)), (28, (I (r1.1.length : Int))), (29, (I s23.2))]) ∧ w = σ.w ∧ Hp S0 σ0 σ [Ch.own n0 0 (Sl a4 r1.1 c5) r1.1, Ch.ro 0 (Sl a25 s23.1 c26) s23.1, Ch.own 0 0 (Sl aj1 o39.1 cj2) o39.1]) ?_ ?_
     ·clear h'
      rename _ = some o39 => h
      refine rg ?_
      refine st (v := (ifs2 x28.1 (.iface 94 (.agg #[(I x28.2.1)])) (.iface 98 (.agg #[(I x28.2.2.1), (Sl a36 x28.2.2.2.1 c37), (I x28.2.2.2.2)])))) (rv_move rfl) ?_
      refine st (v := (Sl a25 s23.1 c26)) (rv_move rfl) ?_
      rcases Bool.eq_false_or_eq_true (x28.1 == 1) with hb40 | hb40
      ·replace h := bif_t hb40 h
       have hv42 : (ifs2 x28.1 (.iface 94 (.agg #[(I x28.2.1)])) (.iface 98 (.agg #[(I x28.2.2.1), (Sl a36 x28.2.2.2.1 c37), (I x28.2.2.2.2)]))) = (.iface 94 (.agg #[(I x28.2.1)]) : Value) := ct hb40
       obtain ⟨σ43, hw44, H, -⟩ := H.pub 2 rfl (Nat.le_refl _)
       rw [← hw44]; clear hw44
       obtain ⟨r45, hx46, h'⟩ := bind_some h
       clear h
       have h := h'; clear h'
       have hc47 := c_impl_dropChange_apply (alist_1 := a25) (clist_1 := c26) hx46
       refine st_call (cx_call hc47 ((by exact ent_ix hc47.fn (by kernel_rfl) Try.underlying94 rfl hv42 rfl)) hn0 (show Hp S0 σ0 _ ([Ch.ro 0 (Sl a25 s23.1 c26) s23.1] ++ [Ch.ro 0 (Sl a25 s23.1 c26) s23.1, Ch.ro 0 (Sl a36 x28.2.2.2.1 c37) x28.2.2.2.1, Ch.own n0 0 (Sl a4 r1.1 c5) r1.1]) from (H.sel' [0, 0, 1, 2] rfl rfl))) wn ?_
       rintro _ σ50 ⟨_, ⟨a48, c49, rfl, rfl⟩, H, -⟩
       replace H : Hp S0 σ0 σ50 [Ch.own 0 0 (Sl a48 r45.1 c49) r45.1, Ch.ro 0 (Sl a25 s23.1 c26) s23.1, Ch.ro 0 (Sl a36 x28.2.2.2.1 c37) x28.2.2.2.1, Ch.own n0 0 (Sl a4 r1.1 c5) r1.1] := H
       refine st (v := (.tuple #[(Sl a48 r45.1 c49), (B r45.2)])) (rv_move rfl) ?_
       refine st (v := (Sl a48 r45.1 c49)) (rv_extract rfl rfl) ?_
       refine st (v := (B r45.2)) (rv_extract rfl rfl) ?_
       refine st (v := (Sl a48 r45.1 c49)) (rv_assign rfl) ?_
       refine st (v := (B r45.2)) (rv_assign rfl) ?_
       refine w_end ?_
       obtain rfl := Option.some.inj h
       exact ⟨rfl, _, σ50, a48, c49, fr_join ⟨rfl, rfl, rfl, rfl, rfl, rfl, rfl, rfl, trivial⟩, rfl, H.sel' [3, 1, 0] rfl rfl⟩
      ·replace h := bif_f hb40 h
       rcases Bool.eq_false_or_eq_true (x28.1 == 2) with hb41 | hb41
       ·replace h := bif_t hb41 h
        have hv51 : (ifs2 x28.1 (.iface 94 (.agg #[(I x28.2.1)])) (.iface 98 (.agg #[(I x28.2.2.1), (Sl a36 x28.2.2.2.1 c37), (I x28.2.2.2.2)]))) = (.iface 98 (.agg #[(I x28.2.2.1), (Sl a36 x28.2.2.2.1 c37), (I x28.2.2.2.2)]) : Value) := (cf hb40).trans (ct hb41)
        obtain ⟨σ52, hw53, H, -⟩ := H.pub 2 rfl (Nat.le_refl _)
        rw [← hw53]; clear hw53
        obtain ⟨r54, hx55, h'⟩ := bind_some h
        clear h
        have h := h'; clear h'
        have hc56 := c_impl_putChange_apply (ac_0_0_1 := a36) (cc_0_0_1 := c37) (alist_1 := a25) (clist_1 := c26) hx55
        refine st_call (cx_call hc56 ((by exact ent_ix hc56.fn (by kernel_rfl) Try.underlying98 rfl hv51 rfl)) hn0 (show Hp S0 σ0 _ ([Ch.ro 0 (Sl a36 x28.2.2.2.1 c37) x28.2.2.2.1, Ch.ro 0 (Sl a25 s23.1 c26) s23.1] ++ [Ch.ro 0 (Sl a25 s23.1 c26) s23.1, Ch.ro 0 (Sl a36 x28.2.2.2.1 c37) x28.2.2.2.1, Ch.own n0 0 (Sl a4 r1.1 c5) r1.1]) from (H.sel' [1, 0, 0, 1, 2] rfl rfl))) wn ?_
        rintro _ σ59 ⟨_, ⟨a57, c58, rfl, rfl⟩, H, -⟩
        replace H : Hp S0 σ0 σ59 [Ch.own 0 0 (Sl a57 r54.1 c58) r54.1, Ch.ro 0 (Sl a25 s23.1 c26) s23.1, Ch.ro 0 (Sl a36 x28.2.2.2.1 c37) x28.2.2.2.1, Ch.own n0 0 (Sl a4 r1.1 c5) r1.1] := H
        refine st (v := (.tuple #[(Sl a57 r54.1 c58), (B r54.2)])) (rv_move rfl) ?_
        refine st (v := (Sl a57 r54.1 c58)) (rv_extract rfl rfl) ?_
        refine st (v := (B r54.2)) (rv_extract rfl rfl) ?_
        refine st (v := (Sl a57 r54.1 c58)) (rv_assign rfl) ?_
        refine st (v := (B r54.2)) (rv_assign rfl) ?_
        refine w_end ?_
        obtain rfl := Option.some.inj h
        exact ⟨rfl, _, σ59, a57, c58, fr_join ⟨rfl, rfl, rfl, rfl, rfl, rfl, rfl, rfl, trivial⟩, rfl, H.sel' [3, 1, 0] rfl rfl⟩
       ·replace h := bif_f hb41 h
        cases h
     ·clear hj
      have h := h'
      clear h' H
      rintro e a w ⟨rfl, ρ, σ61, a62, c63, rfl, rfl, H⟩
      refine q_then ?_
      refine c_seq ?_
      refine c_seq ?_
      refine rg ?_
      refine st (v := (B o39.2)) (rv_move rfl) ?_
      refine st (v := (B (!o39.2))) (rv_not rfl) ?_
      refine w_end ?_
      refine q_then ?_
      refine cd_cond (!o39.2) rfl (fun hb64 => ?_) (fun hb64 => ?_)
      ·replace h := bif_t hb64 h
       refine c_seq ?_
       refine rg ?_
       refine st (v := (Sl a25 s23.1 c26)) (rv_move rfl) ?_
       refine st (v := (I s23.2)) (rv_move rfl) ?_
       refine st (v := (Sl a25 s23.1 c26)) (rv_assign rfl) ?_
       refine st (v := (I s23.2)) (rv_assign rfl) ?_
       refine w_end ?_
       refine q_then ?_
       refine c_ret ?_
       refine q_then_r ?_
       refine q_blk_r ?_
       refine q_then_r ?_
       refine q_then_r ?_
       refine q_blk_r ?_
       obtain rfl := Option.some.inj h
       obtain rfl := hres _ rfl
       exact .inr (⟨_, rfl, rfl, _, σ61, a25, c26, fr_join ⟨rfl, rfl, trivial⟩, rfl, H.sel' [1] rfl rfl⟩)
      ·replace h := bif_f hb64 h
       refine c_skip ?_
       refine q_then ?_
       refine rg ?_
       refine st (v := (Sl a62 o39.1 c63)) (rv_move rfl) ?_
       refine st (v := (Sl a62 o39.1 c63)) (rv_assign rfl) ?_
       refine w_end ?_
       refine q_blk ?_
       refine q_then ?_
       refine rg ?_
       refine st (v := (I (w64 (s23.2 + 1)))) (rv_add (a := s23.2) (b := 1) rfl rfl) ?_
       refine st (v := (I (w64 (s23.2 + 1)))) (rv_move rfl) ?_
       refine w_end ?_
       refine q_then ?_
       obtain rfl := Option.some.inj h
       exact ⟨_, rfl, _, σ61, a62, c63, fr_join ⟨rfl, rfl, rfl, rfl, rfl, trivial⟩, rfl, H.sel' [0, 2] rfl rfl⟩
    ·replace h := bif_f hb27 h
     refine c_exit ?_
     refine q_then_x ?_
     refine q_then_x ?_
     refine q_blk_hit ?_
     obtain rfl := Option.some.inj h
     obtain rfl := hres _ rfl
     exact .inl ⟨_, rfl, rfl, _, σ24, a25, c26, fr_join ⟨rfl, rfl, trivial⟩, rfl, H.sel' [0, 1] rfl rfl⟩
   ·clear hj
    have h := h'
    clear h' H
    rintro e a w (⟨t65, rfl, rfl, ρ, σ66, a67, c68, rfl, rfl, H⟩ | ⟨t71, rfl, rfl, ρ, σ72, a73, c74, rfl, rfl, H⟩)
    ·replace h := selim_l h
     refine q_then ?_
     refine c_seq ?_
     refine rg ?_
     refine st (v := (Sl a67 t65 c68)) (rv_move rfl) ?_
     refine st (v := (Sl a4 r1.1 c5)) (rv_move rfl) ?_
     refine st (v := (I (r1.1.length : Int))) (rv_len Try.underlying62 rfl) ?_
     refine st (v := (Sl a67 t65 c68)) (rv_assign rfl) ?_
     refine st (v := (I (r1.1.length : Int))) (rv_assign rfl) ?_
     refine w_end ?_
     refine q_then ?_
     refine c_ret ?_
     obtain ⟨σ69, hw70, H, -⟩ := H.pub 1 rfl (Nat.le_refl _)
     rw [← hw70]; clear hw70
     obtain rfl := Option.some.inj h
     exact fin_ret (v := (.tuple #[(Sl a67 t65 c68), (I (r1.1.length : Int))])) (results_ok Try.results23 (res_tmp (v := (Sl a67 t65 c68)) rfl (res_tmp (v := (I (r1.1.length : Int))) rfl res_nil)) rfl) ⟨a67, c68, rfl, rfl⟩ (H.sel' [0] rfl rfl)
    ·replace h := selim_r h
     refine q_then_r ?_
     obtain rfl := Option.some.inj h
     exact fin_ret (v := (.tuple #[(Sl a73 t71.1 c74), (I t71.2)])) (results_ok Try.results23 (res_tmp (v := (Sl a73 t71.1 c74)) rfl (res_tmp (v := (I t71.2)) rfl res_nil)) rfl) ⟨a73, c74, rfl, rfl⟩ (H.sel' [0] rfl rfl)

theorem c_cmp_Less_int {x_0 : Int} {y_1 : Int}  {r : Bool} (h : M.cmp_Less_int x_0 y_1 = some r) :
    Cal2 Try.prog 101 [(I x_0), (I y_1)] [] (fun n0 v L => v = (B r) ∧ L = []) := by
 refine cal2 (n := 17) Try.func101 rfl rfl rfl rfl ?_
 intro S0 σ0 n0 hn0 H
 unfold M.cmp_Less_int at h
 refine c_seq ?_
 refine rg ?_
 refine st (v := (B false)) (rv_assign rfl) ?_
 refine w_end ?_
 refine q_then ?_
 refine c_seq ?_
 refine rg ?_
 refine st (v := (I x_0)) (rv_move rfl) ?_
 obtain ⟨r1, hx2, h'⟩ := bind_some h
 clear h
 have h := h'; clear h'
 have hc3 := c_cmp_isNaN_int hx2
 refine st_call (cx_call hc3 (ent_f hc3.fn rfl) hn0 (show Hp S0 σ0 _ ([] ++ []) from (H.sel' [] rfl rfl))) wn ?_
 rintro _ σ4 ⟨_, ⟨rfl, rfl⟩, H, -⟩
 replace H : Hp S0 σ0 σ4 [] := H
 refine st (v := (B r1)) (rv_move rfl) ?_
 rcases Bool.eq_false_or_eq_true r1 with hb5 | hb5
 ·replace h := bif_t hb5 h
  refine st_g (v := (I y_1)) (congrArg some hb5) (rv_move rfl) ?_
  obtain ⟨r6, hx7, h'⟩ := bind_some h
  clear h
  have h := h'; clear h'
  have hc8 := c_cmp_isNaN_int hx7
  refine st_call (cx_call hc8 (ent_f hc8.fn rfl) hn0 (show Hp S0 σ0 _ ([] ++ []) from (H.sel' [] rfl rfl))) (wanted_yes rfl (by exact (congrArg some hb5))) ?_
  rintro _ σ9 ⟨_, ⟨rfl, rfl⟩, H, -⟩
  replace H : Hp S0 σ0 σ9 [] := H
  refine st_g (v := (B (!r6))) (congrArg some hb5) (rv_not rfl) ?_
  refine st (v := (B (!r6))) (rv_pick_t (congrArg B hb5) rfl) ?_
  refine st (v := (B (!r6))) (rv_move rfl) ?_
  rcases Bool.eq_false_or_eq_true (!r6) with hb10 | hb10
  ·replace h := bif_t hb10 h
   refine st_skip (congrArg some hb10) ?_
   refine st_skip (congrArg some hb10) ?_
   refine st_skip (congrArg some hb10) ?_
   refine st (v := (B true)) (rv_pick_t (congrArg B hb10) rfl) ?_
   refine st (v := (B true)) (rv_assign rfl) ?_
   refine w_end ?_
   refine q_then ?_
   refine c_ret ?_
   obtain rfl := Option.some.inj h
   exact fin_ret (v := (B true)) (results_ok Try.results101 (res_tmp (v := (B true)) rfl res_nil) rfl) ⟨rfl, rfl⟩ (H.sel' [] rfl rfl)
  ·replace h := bif_f hb10 h
   refine st_g (v := (I x_0)) (congrArg some hb10) (rv_move rfl) ?_
   refine st_g (v := (I y_1)) (congrArg some hb10) (rv_move rfl) ?_
   refine st_g (v := (B (decide (x_0 < y_1)))) (congrArg some hb10) (rv_lss (a := x_0) (b := y_1) rfl rfl) ?_
   refine st (v := (B (decide (x_0 < y_1)))) (rv_pick_f (congrArg B hb10) rfl) ?_
   refine st (v := (B (decide (x_0 < y_1)))) (rv_assign rfl) ?_
   refine w_end ?_
   refine q_then ?_
   refine c_ret ?_
   obtain rfl := Option.some.inj h
   exact fin_ret (v := (B (decide (x_0 < y_1)))) (results_ok Try.results101 (res_tmp (v := (B (decide (x_0 < y_1)))) rfl res_nil) rfl) ⟨rfl, rfl⟩ (H.sel' [] rfl rfl)
 ·replace h := bif_f hb5 h
  refine st_skip (congrArg some hb5) ?_
  refine st_skip (congrArg some hb5) ?_
  refine st_skip (congrArg some hb5) ?_
  refine st (v := (B false)) (rv_pick_f (congrArg B hb5) rfl) ?_
  refine st (v := (B false)) (rv_move rfl) ?_
  refine st_g (v := (I x_0)) rfl (rv_move rfl) ?_
  refine st_g (v := (I y_1)) rfl (rv_move rfl) ?_
  refine st_g (v := (B (decide (x_0 < y_1)))) rfl (rv_lss (a := x_0) (b := y_1) rfl rfl) ?_
  refine st (v := (B (decide (x_0 < y_1)))) (rv_pick_f rfl rfl) ?_
  refine st (v := (B (decide (x_0 < y_1)))) (rv_assign rfl) ?_
  refine w_end ?_
  refine q_then ?_
  refine c_ret ?_
  obtain rfl := Option.some.inj h
  exact fin_ret (v := (B (decide (x_0 < y_1)))) (results_ok Try.results101 (res_tmp (v := (B (decide (x_0 < y_1)))) rfl res_nil) rfl) ⟨rfl, rfl⟩ (H.sel' [] rfl rfl)

theorem c_slices_IsSorted_int_int {x_0 : List Int} {ax_0 : Option Addr} {cx_0 : Nat} {r : Bool} (h : M.slices_IsSorted_int_int x_0 = some r) :
    Cal2 Try.prog 75 [(Sl ax_0 x_0 cx_0)] [Ch.ro 0 (Sl ax_0 x_0 cx_0) x_0] (fun n0 v L => v = (B r) ∧ L = []) := by
 refine cal2 (n := 21) Try.func75 rfl rfl rfl rfl ?_
 intro S0 σ0 n0 hn0 H
 unfold M.slices_IsSorted_int_int at h
 refine c_seq ?_
 refine rg ?_
 refine st (v := (B false)) (rv_assign rfl) ?_
 refine w_end ?_
 refine q_then ?_
 refine c_seq ?_
 refine c_seq ?_
 refine rg ?_
 refine st (v := (Sl ax_0 x_0 cx_0)) (rv_move rfl) ?_
 refine st (v := (I (x_0.length : Int))) (rv_len Try.underlying24 rfl) ?_
 refine st (v := (I (w64 ((x_0.length : Int) - 1)))) (rv_sub (a := (x_0.length : Int)) (b := 1) rfl rfl) ?_
 refine st (v := (I (w64 ((x_0.length : Int) - 1)))) (rv_assign rfl) ?_
 refine w_end ?_
 refine q_then ?_
 obtain ⟨o1, hj, h'⟩ := bind_some h
 clear h
 refine c_cut (fun e a w => (∃ t, o1 = (.inl t) ∧ e = .normal ∧ ∃ (ρ : Nat → Value) (σ : St), a = fr 21 (updL ρ []) ∧ w = σ.w ∧ Hp S0 σ0 σ []) ∨ (∃ t, o1 = (.inr t) ∧ e = .ret ∧ ∃ (ρ : Nat → Value) (σ : St), a = fr 21 (updL ρ [(2, (B t))]) ∧ w = σ.w ∧ Hp S0 σ0 σ [])) ?_ ?_
 ·clear h'
  rename _ = some o1 => h
  refine c_blk ?_
  refine wp_loopM _ h (fun s2 a w => ∃ (ρ : Nat → Value) (σ : St), a = fr 21 (updL ρ [(0, (Sl ax_0 x_0 cx_0)), (3, (I s2))]) ∧ w = σ.w ∧ Hp S0 σ0 σ [Ch.ro 0 (Sl ax_0 x_0 cx_0) x_0]) ⟨_, σ0, fr_join ⟨rfl, rfl, trivial⟩, rfl, H.sel' [0] rfl rfl⟩ ?_
  clear h H
  rintro s2 a w o ⟨ρ, σ3, rfl, rfl, H⟩ h hres
  refine c_seq ?_
  refine c_seq ?_
  refine rg ?_
  refine st (v := (I s2)) (rv_move rfl) ?_
  refine st (v := (B (decide (0 < s2)))) (rv_gtr (a := s2) (b := 0) rfl rfl) ?_
  refine w_end ?_
  refine q_then ?_
  refine cd_cond (decide (0 < s2)) rfl (fun hb4 => ?_) (fun hb4 => ?_)
  ·replace h := bif_t hb4 h
   refine c_skip ?_
   refine q_then ?_
   refine c_seq ?_
   refine c_blk ?_
   refine c_seq ?_
   refine rgP (σ := σ3) 9 (by kernel_rfl) (by kernel_rfl) (by kernel_rfl) ?_
   refine sq (v := (Sl ax_0 x_0 cx_0)) (rv_move rfl) ?_
   refine sq (v := (I s2)) (rv_move rfl) ?_
   obtain ⟨x5, hx6, h'⟩ := bind_some h
   clear h
   have h := h'; clear h'
   obtain ⟨b8, o9, hi7, -⟩ := (H.ro 0 rfl).ix hx6
   refine sq (v := (pt b8 o9)) (rv_ix Try.underlying24 ti3 rfl rfl hi7) ?_
   have hc10 := ((H.ro 0 rfl).at hx6 hi7).int
   refine sq (v := (I x5)) (rv_load1 Try.underlying3 rfl rfl hc10) ?_
   refine sq (v := (Sl ax_0 x_0 cx_0)) (rv_move rfl) ?_
   refine sq (v := (I s2)) (rv_move rfl) ?_
   refine sq (v := (I (w64 (s2 - 1)))) (rv_sub (a := s2) (b := 1) rfl rfl) ?_
   obtain ⟨x11, hx12, h'⟩ := bind_some h
   clear h
   have h := h'; clear h'
   obtain ⟨b14, o15, hi13, -⟩ := (H.ro 0 rfl).ix hx12
   refine sq (v := (pt b14 o15)) (rv_ix Try.underlying24 ti3 rfl rfl hi13) ?_
   have hc16 := ((H.ro 0 rfl).at hx12 hi13).int
   refine sq (v := (I x11)) (rv_load1 Try.underlying3 rfl rfl hc16) ?_
   refine sq_end ?_
   intro σ17 hm18
   replace H := H.grow (hm18.mono fun _ h => h); clear hm18
   obtain ⟨r19, hx20, h'⟩ := bind_some h
   clear h
   have h := h'; clear h'
   have hc21 := c_cmp_Less_int hx20
   refine st_call (cx_call hc21 (ent_f hc21.fn rfl) hn0 (show Hp S0 σ0 _ ([] ++ [Ch.ro 0 (Sl ax_0 x_0 cx_0) x_0]) from (H.sel' [0] rfl rfl))) wn ?_
   rintro _ σ22 ⟨_, ⟨rfl, rfl⟩, H, -⟩
   replace H : Hp S0 σ0 σ22 [Ch.ro 0 (Sl ax_0 x_0 cx_0) x_0] := H
   refine w_end ?_
   refine q_then ?_
   refine cd_cond r19 rfl (fun hb23 => ?_) (fun hb23 => ?_)
   ·replace h := bif_t hb23 h
    refine c_seq ?_
    refine rg ?_
    refine st (v := (B false)) (rv_assign rfl) ?_
    refine w_end ?_
    refine q_then ?_
    refine c_ret ?_
    refine q_blk_r ?_
    refine q_then_r ?_
    refine q_then_r ?_
    refine q_blk_r ?_
    obtain rfl := Option.some.inj h
    obtain rfl := hres _ rfl
    exact .inr (⟨_, rfl, rfl, _, σ22, fr_join ⟨rfl, trivial⟩, rfl, H.sel' [] rfl rfl⟩)
   ·replace h := bif_f hb23 h
    refine c_skip ?_
    refine q_blk ?_
    refine q_then ?_
    refine rg ?_
    refine st (v := (I s2)) (rv_move rfl) ?_
    refine st (v := (I (w64 (s2 - 1)))) (rv_sub (a := s2) (b := 1) rfl rfl) ?_
    refine st (v := (I (w64 (s2 - 1)))) (rv_assign rfl) ?_
    refine w_end ?_
    refine q_then ?_
    obtain rfl := Option.some.inj h
    exact ⟨_, rfl, _, σ22, fr_join ⟨rfl, rfl, trivial⟩, rfl, H.sel' [0] rfl rfl⟩
  ·replace h := bif_f hb4 h
   refine c_exit ?_
   refine q_then_x ?_
   refine q_then_x ?_
   refine q_blk_hit ?_
   obtain rfl := Option.some.inj h
   obtain rfl := hres _ rfl
   exact .inl ⟨_, rfl, rfl, _, σ3, fr_join trivial, rfl, H.sel' [] rfl rfl⟩
 ·clear hj
  have h := h'
  clear h' H
  rintro e a w (⟨t24, rfl, rfl, ρ, σ25, rfl, rfl, H⟩ | ⟨t26, rfl, rfl, ρ, σ27, rfl, rfl, H⟩)
  ·replace h := selim_l h
   refine q_then ?_
   refine c_seq ?_
   refine rg ?_
   refine st (v := (B true)) (rv_assign rfl) ?_
   refine w_end ?_
   refine q_then ?_
   refine c_ret ?_
   obtain rfl := Option.some.inj h
   exact fin_ret (v := (B true)) (results_ok Try.results75 (res_tmp (v := (B true)) rfl res_nil) rfl) ⟨rfl, rfl⟩ (H.sel' [] rfl rfl)
  ·replace h := selim_r h
   refine q_then_r ?_
   obtain rfl := Option.some.inj h
   exact fin_ret (v := (B t26)) (results_ok Try.results75 (res_tmp (v := (B t26)) rfl res_nil) rfl) ⟨rfl, rfl⟩ (H.sel' [] rfl rfl)

theorem c_impl_validTimes {times_0 : List Int} {atimes_0 : Option Addr} {ctimes_0 : Nat} {r : Bool} (h : M.impl_validTimes times_0 = some r) :
    Cal2 Try.prog 42 [(Sl atimes_0 times_0 ctimes_0)] [Ch.ro 0 (Sl atimes_0 times_0 ctimes_0) times_0] (fun n0 v L => v = (B r) ∧ L = []) := by
 refine cal2 (n := 20) Try.func42 rfl rfl rfl rfl ?_
 intro S0 σ0 n0 hn0 H
 unfold M.impl_validTimes at h
 refine c_seq ?_
 refine rg ?_
 refine st (v := (B false)) (rv_assign rfl) ?_
 refine w_end ?_
 refine q_then ?_
 refine c_seq ?_
 refine c_seq ?_
 refine rg ?_
 refine st (v := (Sl atimes_0 times_0 ctimes_0)) (rv_move rfl) ?_
 refine st (v := (I (times_0.length : Int))) (rv_len Try.underlying24 rfl) ?_
 refine st (v := (I 0)) (rv_move rfl) ?_
 refine w_end ?_
 refine q_then ?_
 obtain ⟨o1, hj, h'⟩ := bind_some h
 clear h
 refine c_cut (fun e a w => (∃ t, o1 = (.inl t) ∧ e = .normal ∧ ∃ (ρ : Nat → Value) (σ : St), a = fr 20 (updL ρ [(0, (Sl atimes_0 times_0 ctimes_0))]) ∧ w = σ.w ∧ Hp S0 σ0 σ [Ch.ro 0 (Sl atimes_0 times_0 ctimes_0) times_0]) ∨ (∃ t, o1 = (.inr t) ∧ e = .ret ∧ ∃ (ρ : Nat → Value) (σ : St), a = fr 20 (updL ρ [(2, (B t))]) ∧ w = σ.w ∧ Hp S0 σ0 σ [])) ?_ ?_
 ·clear h'
  rename _ = some o1 => h
  refine c_blk ?_
  refine wp_loopM _ h (fun s2 a w => ∃ (ρ : Nat → Value) (σ : St), a = fr 20 (updL ρ [(0, (Sl atimes_0 times_0 ctimes_0)), (5, (Sl atimes_0 times_0 ctimes_0)), (6, (I (times_0.length : Int))), (7, (I s2))]) ∧ w = σ.w ∧ Hp S0 σ0 σ [Ch.ro 0 (Sl atimes_0 times_0 ctimes_0) times_0]) ⟨_, σ0, fr_join ⟨rfl, rfl, rfl, rfl, trivial⟩, rfl, H.sel' [0] rfl rfl⟩ ?_
  clear h H
  rintro s2 a w o ⟨ρ, σ3, rfl, rfl, H⟩ h hres
  refine c_seq ?_
  refine rg ?_
  refine st (v := (B (decide (s2 < (times_0.length : Int))))) (rv_lss (a := s2) (b := (times_0.length : Int)) rfl rfl) ?_
  refine w_end ?_
  refine q_then ?_
  refine c_seq ?_
  refine cd_cond (decide (s2 < (times_0.length : Int))) rfl (fun hb4 => ?_) (fun hb4 => ?_)
  ·replace h := bif_t hb4 h
   refine c_skip ?_
   refine q_then ?_
   refine c_seq ?_
   refine c_blk ?_
   refine c_seq ?_
   refine rg ?_
   obtain ⟨x5, hx6, h'⟩ := bind_some h
   clear h
   have h := h'; clear h'
   obtain ⟨b8, o9, hi7, -⟩ := (H.ro 0 rfl).ix hx6
   refine st (v := (pt b8 o9)) (rv_ix Try.underlying24 ti3 rfl rfl hi7) ?_
   have hc10 := ((H.ro 0 rfl).at hx6 hi7).int
   refine st (v := (I x5)) (rv_load1 Try.underlying3 rfl rfl hc10) ?_
   refine st (v := (I x5)) (rv_assign rfl) ?_
   refine w_end ?_
   refine q_then ?_
   refine c_seq ?_
   obtain ⟨o11, hj, h'⟩ := bind_some h
   clear h
   refine c_cut (fun e a w => e = .normal ∧ ∃ (ρ : Nat → Value) (σ : St), a = fr 20 (updL ρ [(0, (Sl atimes_0 times_0 ctimes_0)), (5, (Sl atimes_0 times_0 ctimes_0)), (6, (I (times_0.length : Int))), (7, (I s2)), (16, (B o11))]) ∧ w = σ.w ∧ Hp S0 σ0 σ [Ch.ro 0 (Sl atimes_0 times_0 ctimes_0) times_0]) ?_ ?_
   ·clear h'
    rename _ = some o11 => h
    refine rg ?_
    refine st (v := (I x5)) (rv_move rfl) ?_
    refine st (v := (B (decide (x5 < 1)))) (rv_lss (a := x5) (b := 1) rfl rfl) ?_
    refine st (v := (B (decide (x5 < 1)))) (rv_move rfl) ?_
    rcases Bool.eq_false_or_eq_true (decide (x5 < 1)) with hb12 | hb12
    ·replace h := bif_t hb12 h
     refine st_skip (congrArg some hb12) ?_
     refine st_skip (congrArg some hb12) ?_
     refine st (v := (B true)) (rv_pick_t (congrArg B hb12) rfl) ?_
     refine w_end ?_
     obtain rfl := Option.some.inj h
     exact ⟨rfl, _, σ3, fr_join ⟨rfl, rfl, rfl, rfl, rfl, trivial⟩, rfl, H.sel' [0] rfl rfl⟩
    ·replace h := bif_f hb12 h
     refine st_g (v := (I x5)) (congrArg some hb12) (rv_move rfl) ?_
     refine st_g (v := (B (decide (1000 < x5)))) (congrArg some hb12) (rv_gtr (a := x5) (b := 1000) rfl rfl) ?_
     refine st (v := (B (decide (1000 < x5)))) (rv_pick_f (congrArg B hb12) rfl) ?_
     refine w_end ?_
     obtain rfl := Option.some.inj h
     exact ⟨rfl, _, σ3, fr_join ⟨rfl, rfl, rfl, rfl, rfl, trivial⟩, rfl, H.sel' [0] rfl rfl⟩
   ·clear hj
    have h := h'
    clear h' H
    rintro e a w ⟨rfl, ρ, σ13, rfl, rfl, H⟩
    refine q_then ?_
    refine cd_cond o11 rfl (fun hb14 => ?_) (fun hb14 => ?_)
    ·replace h := bif_t hb14 h
     refine c_seq ?_
     refine rg ?_
     refine st (v := (B false)) (rv_assign rfl) ?_
     refine w_end ?_
     refine q_then ?_
     refine c_ret ?_
     refine q_blk_r ?_
     refine q_then_r ?_
     refine q_then_r ?_
     refine q_blk_r ?_
     obtain rfl := Option.some.inj h
     obtain rfl := hres _ rfl
     exact .inr (⟨_, rfl, rfl, _, σ13, fr_join ⟨rfl, trivial⟩, rfl, H.sel' [] rfl rfl⟩)
    ·replace h := bif_f hb14 h
     refine c_skip ?_
     refine q_blk ?_
     refine q_then ?_
     refine rg ?_
     refine st (v := (I (w64 (s2 + 1)))) (rv_add (a := s2) (b := 1) rfl rfl) ?_
     refine st (v := (I (w64 (s2 + 1)))) (rv_move rfl) ?_
     refine w_end ?_
     refine q_then ?_
     obtain rfl := Option.some.inj h
     exact ⟨_, rfl, _, σ13, fr_join ⟨rfl, rfl, rfl, rfl, trivial⟩, rfl, H.sel' [0] rfl rfl⟩
  ·replace h := bif_f hb4 h
   refine c_exit ?_
   refine q_then_x ?_
   refine q_then_x ?_
   refine q_blk_hit ?_
   obtain rfl := Option.some.inj h
   obtain rfl := hres _ rfl
   exact .inl ⟨_, rfl, rfl, _, σ3, fr_join ⟨rfl, trivial⟩, rfl, H.sel' [0] rfl rfl⟩
 ·clear hj
  have h := h'
  clear h' H
  rintro e a w (⟨t15, rfl, rfl, ρ, σ16, rfl, rfl, H⟩ | ⟨t21, rfl, rfl, ρ, σ22, rfl, rfl, H⟩)
  ·replace h := selim_l h
   refine q_then ?_
   refine c_seq ?_
   refine rg ?_
   refine st (v := (Sl atimes_0 times_0 ctimes_0)) (rv_move rfl) ?_
   obtain ⟨r17, hx18, h'⟩ := bind_some h
   clear h
   have h := h'; clear h'
   have hc19 := c_slices_IsSorted_int_int (ax_0 := atimes_0) (cx_0 := ctimes_0) hx18
   refine st_call (cx_call hc19 (ent_f hc19.fn rfl) hn0 (show Hp S0 σ0 _ ([Ch.ro 0 (Sl atimes_0 times_0 ctimes_0) times_0] ++ [Ch.ro 0 (Sl atimes_0 times_0 ctimes_0) times_0]) from (H.sel' [0, 0] rfl rfl))) wn ?_
   rintro _ σ20 ⟨_, ⟨rfl, rfl⟩, H, -⟩
   replace H : Hp S0 σ0 σ20 [Ch.ro 0 (Sl atimes_0 times_0 ctimes_0) times_0] := H
   refine st (v := (B r17)) (rv_assign rfl) ?_
   refine w_end ?_
   refine q_then ?_
   refine c_ret ?_
   obtain rfl := Option.some.inj h
   exact fin_ret (v := (B r17)) (results_ok Try.results42 (res_tmp (v := (B r17)) rfl res_nil) rfl) ⟨rfl, rfl⟩ (H.sel' [] rfl rfl)
  ·replace h := selim_r h
   refine q_then_r ?_
   obtain rfl := Option.some.inj h
   exact fin_ret (v := (B t21)) (results_ok Try.results42 (res_tmp (v := (B t21)) rfl res_nil) rfl) ⟨rfl, rfl⟩ (H.sel' [] rfl rfl)

theorem c_impl_ValidHistory {h_0 : (List (Int × (Int × (List Int) × Int))) × (List Int)} {ah_0_0 : Option Addr} {ch_0_0 : Nat} {ah_0_1 : Option Addr} {ch_0_1 : Nat} {r : Bool} (h : M.impl_ValidHistory h_0 = some r) :
    Cal2 Try.prog 16 [(.agg #[(Sl ah_0_0 h_0.1 ch_0_0), (Sl ah_0_1 h_0.2 ch_0_1)])] [Ch.ro 0 (Sl ah_0_0 h_0.1 ch_0_0) h_0.1, Ch.ro 0 (Sl ah_0_1 h_0.2 ch_0_1) h_0.2] (fun n0 v L => v = (B r) ∧ L = []) := by
 refine cal2 (n := 29) Try.func16 rfl rfl rfl rfl ?_
 intro S0 σ0 n0 hn0 H
 unfold M.impl_ValidHistory at h
 refine c_seq ?_
 refine rg ?_
 refine st_ex (ex_box (cs := [(Sl ah_0_0 h_0.1 ch_0_0), (Sl ah_0_1 h_0.2 ch_0_1)]) H hn0 rfl rfl) wn ?_
 rintro _ σ2 ⟨b1, rfl, H, -⟩
 refine st (v := (B false)) (rv_assign rfl) ?_
 refine w_end ?_
 refine q_then ?_
 refine c_seq ?_
 refine c_seq ?_
 obtain ⟨o3, hj, h'⟩ := bind_some h
 clear h
 refine c_cut (fun e a w => e = .normal ∧ ∃ (ρ : Nat → Value) (σ : St), a = fr 29 (updL ρ [(1, (pt b1 0)), (17, (B o3))]) ∧ w = σ.w ∧ Hp S0 σ0 σ [Ch.ro 0 (Sl ah_0_0 h_0.1 ch_0_0) h_0.1, Ch.ro 0 (Sl ah_0_1 h_0.2 ch_0_1) h_0.2, Ch.bx n0 b1 0 [(Sl ah_0_0 h_0.1 ch_0_0), (Sl ah_0_1 h_0.2 ch_0_1)] [] []]) ?_ ?_
 ·clear h'
  rename _ = some o3 => h
  refine rg ?_
  refine st (v := (pt b1 1)) (rv_fieldAddr (off := 1) (ft := 24) Try.underlying26 rfl ti24 rfl rfl) ?_
  have hc4 := H.cell (u := (Sl ah_0_1 h_0.2 ch_0_1)) (o' := 1) 0 1 rfl rfl rfl
  refine st (v := (Sl ah_0_1 h_0.2 ch_0_1)) (rv_load1 Try.underlying24 rfl rfl hc4) ?_
  refine st (v := (I (h_0.2.length : Int))) (rv_len Try.underlying24 rfl) ?_
  refine st (v := (pt b1 0)) (rv_fieldAddr (off := 0) (ft := 23) Try.underlying26 rfl ti23 rfl rfl) ?_
  have hc5 := H.cell (u := (Sl ah_0_0 h_0.1 ch_0_0)) (o' := 0) 0 0 rfl rfl rfl
  refine st (v := (Sl ah_0_0 h_0.1 ch_0_0)) (rv_load1 Try.underlying23 rfl rfl hc5) ?_
  refine st (v := (I (h_0.1.length : Int))) (rv_len Try.underlying23 rfl) ?_
  refine st (v := (B ((h_0.2.length : Int) != (h_0.1.length : Int)))) (rv_neq (a := (h_0.2.length : Int)) (b := (h_0.1.length : Int)) rfl rfl) ?_
  refine st (v := (B ((h_0.2.length : Int) != (h_0.1.length : Int)))) (rv_move rfl) ?_
  rcases Bool.eq_false_or_eq_true ((h_0.2.length : Int) != (h_0.1.length : Int)) with hb6 | hb6
  ·replace h := bif_t hb6 h
   refine st_skip (congrArg some hb6) ?_
   refine st_skip (congrArg some hb6) ?_
   refine st_skip (congrArg some hb6) ?_
   refine st_skip (congrArg some hb6) ?_
   refine st (v := (B true)) (rv_pick_t (congrArg B hb6) rfl) ?_
   refine w_end ?_
   obtain rfl := Option.some.inj h
   exact ⟨rfl, _, σ2, fr_join ⟨rfl, rfl, trivial⟩, rfl, H.sel' [1, 2, 0] rfl rfl⟩
  ·replace h := bif_f hb6 h
   refine st_g (v := (pt b1 1)) (congrArg some hb6) (rv_fieldAddr (off := 1) (ft := 24) Try.underlying26 rfl ti24 rfl rfl) ?_
   have hc7 := H.cell (u := (Sl ah_0_1 h_0.2 ch_0_1)) (o' := 1) 0 1 rfl rfl rfl
   refine st_g (v := (Sl ah_0_1 h_0.2 ch_0_1)) (congrArg some hb6) (rv_load1 Try.underlying24 rfl rfl hc7) ?_
   obtain ⟨r8, hx9, h'⟩ := bind_some h
   clear h
   have h := h'; clear h'
   have hc10 := c_impl_validTimes (atimes_0 := ah_0_1) (ctimes_0 := ch_0_1) hx9
   refine st_call (cx_call hc10 (ent_f hc10.fn rfl) hn0 (show Hp S0 σ0 _ ([Ch.ro 0 (Sl ah_0_1 h_0.2 ch_0_1) h_0.2] ++ [Ch.bx n0 b1 0 [(Sl ah_0_0 h_0.1 ch_0_0), (Sl ah_0_1 h_0.2 ch_0_1)] [] [], Ch.ro 0 (Sl ah_0_0 h_0.1 ch_0_0) h_0.1, Ch.ro 0 (Sl ah_0_1 h_0.2 ch_0_1) h_0.2]) from (H.sel' [2, 0, 1, 2] rfl rfl))) (wanted_yes rfl (by exact (congrArg some hb6))) ?_
   rintro _ σ11 ⟨_, ⟨rfl, rfl⟩, H, -⟩
   replace H : Hp S0 σ0 σ11 [Ch.bx n0 b1 0 [(Sl ah_0_0 h_0.1 ch_0_0), (Sl ah_0_1 h_0.2 ch_0_1)] [] [], Ch.ro 0 (Sl ah_0_0 h_0.1 ch_0_0) h_0.1, Ch.ro 0 (Sl ah_0_1 h_0.2 ch_0_1) h_0.2] := H
   refine st_g (v := (B (!r8))) (congrArg some hb6) (rv_not rfl) ?_
   refine st (v := (B (!r8))) (rv_pick_f (congrArg B hb6) rfl) ?_
   refine w_end ?_
   obtain rfl := Option.some.inj h
   exact ⟨rfl, _, σ11, fr_join ⟨rfl, rfl, trivial⟩, rfl, H.sel' [1, 2, 0] rfl rfl⟩
 ·clear hj
  have h := h'
  clear h' H
  rintro e a w ⟨rfl, ρ, σ12, rfl, rfl, H⟩
  refine q_then ?_
  refine cd_cond o3 rfl (fun hb13 => ?_) (fun hb13 => ?_)
  ·replace h := bif_t hb13 h
   refine c_seq ?_
   refine rg ?_
   refine st (v := (B false)) (rv_assign rfl) ?_
   refine w_end ?_
   refine q_then ?_
   refine c_ret ?_
   refine q_then_r ?_
   obtain rfl := Option.some.inj h
   exact fin_ret (v := (B false)) (results_ok Try.results16 (res_tmp (v := (B false)) rfl res_nil) rfl) ⟨rfl, rfl⟩ (H.sel' [] rfl rfl)
  ·replace h := bif_f hb13 h
   refine c_skip ?_
   refine q_then ?_
   refine c_seq ?_
   refine rg ?_
   refine st (v := (pt b1 0)) (rv_fieldAddr (off := 0) (ft := 23) Try.underlying26 rfl ti23 rfl rfl) ?_
   have hc14 := H.cell (u := (Sl ah_0_0 h_0.1 ch_0_0)) (o' := 0) 2 0 rfl rfl rfl
   refine st (v := (Sl ah_0_0 h_0.1 ch_0_0)) (rv_load1 Try.underlying23 rfl rfl hc14) ?_
   replace H := H.nilRo (Int × (List Int) × Int) 0
   obtain ⟨r15, hx16, h'⟩ := bind_some h
   clear h
   have h := h'; clear h'
   have hc17 := c_impl_ReplayLog (alist_0 := none) (clist_0 := 0) (alog_1 := ah_0_0) (clog_1 := ch_0_0) hx16
   refine st_call (cx_call hc17 (ent_f hc17.fn rfl) hn0 (show Hp S0 σ0 _ ([Ch.ro 0 (Sl none ([] : List (Int × (List Int) × Int)) 0) ([] : List (Int × (List Int) × Int)), Ch.ro 0 (Sl ah_0_0 h_0.1 ch_0_0) h_0.1] ++ [Ch.ro 0 (Sl none ([] : List (Int × (List Int) × Int)) 0) ([] : List (Int × (List Int) × Int)), Ch.ro 0 (Sl ah_0_0 h_0.1 ch_0_0) h_0.1, Ch.ro 0 (Sl ah_0_1 h_0.2 ch_0_1) h_0.2, Ch.bx n0 b1 0 [(Sl ah_0_0 h_0.1 ch_0_0), (Sl ah_0_1 h_0.2 ch_0_1)] [] []]) from (H.sel' [0, 1, 0, 1, 2, 3] rfl rfl))) wn ?_
   rintro _ σ20 ⟨_, ⟨a18, c19, rfl, rfl⟩, H, -⟩
   replace H : Hp S0 σ0 σ20 [Ch.ro 0 (Sl a18 r15.1 c19) r15.1, Ch.ro 0 (Sl none ([] : List (Int × (List Int) × Int)) 0) ([] : List (Int × (List Int) × Int)), Ch.ro 0 (Sl ah_0_0 h_0.1 ch_0_0) h_0.1, Ch.ro 0 (Sl ah_0_1 h_0.2 ch_0_1) h_0.2, Ch.bx n0 b1 0 [(Sl ah_0_0 h_0.1 ch_0_0), (Sl ah_0_1 h_0.2 ch_0_1)] [] []] := H
   refine st (v := (.tuple #[(Sl a18 r15.1 c19), (I r15.2)])) (rv_move rfl) ?_
   refine st (v := (Sl a18 r15.1 c19)) (rv_extract rfl rfl) ?_
   refine st (v := (I r15.2)) (rv_extract rfl rfl) ?_
   refine st (v := (Sl a18 r15.1 c19)) (rv_assign rfl) ?_
   refine st (v := (I r15.2)) (rv_assign rfl) ?_
   refine w_end ?_
   refine q_then ?_
   refine c_seq ?_
   refine rg ?_
   refine st (v := (I r15.2)) (rv_move rfl) ?_
   refine st (v := (pt b1 0)) (rv_fieldAddr (off := 0) (ft := 23) Try.underlying26 rfl ti23 rfl rfl) ?_
   have hc21 := H.cell (u := (Sl ah_0_0 h_0.1 ch_0_0)) (o' := 0) 4 0 rfl rfl rfl
   refine st (v := (Sl ah_0_0 h_0.1 ch_0_0)) (rv_load1 Try.underlying23 rfl rfl hc21) ?_
   refine st (v := (I (h_0.1.length : Int))) (rv_len Try.underlying23 rfl) ?_
   refine st (v := (B (r15.2 == (h_0.1.length : Int)))) (rv_eql (a := r15.2) (b := (h_0.1.length : Int)) rfl rfl) ?_
   refine st (v := (B (r15.2 == (h_0.1.length : Int)))) (rv_assign rfl) ?_
   refine w_end ?_
   refine q_then ?_
   refine c_ret ?_
   obtain rfl := Option.some.inj h
   exact fin_ret (v := (B (r15.2 == (h_0.1.length : Int)))) (results_ok Try.results16 (res_tmp (v := (B (r15.2 == (h_0.1.length : Int)))) rfl res_nil) rfl) ⟨rfl, rfl⟩ (H.sel' [] rfl rfl)

theorem c_impl_validMoment {t_0 : Int}  {r : Bool} (h : M.impl_validMoment t_0 = some r) :
    Cal2 Try.prog 46 [(I t_0)] [] (fun n0 v L => v = (B r) ∧ L = []) := by
 refine cal2 (n := 9) Try.func46 rfl rfl rfl rfl ?_
 intro S0 σ0 n0 hn0 H
 unfold M.impl_validMoment at h
 refine c_seq ?_
 refine rg ?_
 refine st (v := (B false)) (rv_assign rfl) ?_
 refine w_end ?_
 refine q_then ?_
 refine c_seq ?_
 refine rg ?_
 refine st (v := (I t_0)) (rv_move rfl) ?_
 refine st (v := (B (decide (0 ≤ t_0)))) (rv_geq (a := t_0) (b := 0) rfl rfl) ?_
 refine st (v := (B (decide (0 ≤ t_0)))) (rv_move rfl) ?_
 rcases Bool.eq_false_or_eq_true (decide (0 ≤ t_0)) with hb1 | hb1
 ·replace h := bif_t hb1 h
  refine st_g (v := (I t_0)) (congrArg some hb1) (rv_move rfl) ?_
  refine st_g (v := (B (decide (t_0 ≤ 1000)))) (congrArg some hb1) (rv_leq (a := t_0) (b := 1000) rfl rfl) ?_
  refine st (v := (B (decide (t_0 ≤ 1000)))) (rv_pick_t (congrArg B hb1) rfl) ?_
  refine st (v := (B (decide (t_0 ≤ 1000)))) (rv_assign rfl) ?_
  refine w_end ?_
  refine q_then ?_
  refine c_ret ?_
  obtain rfl := Option.some.inj h
  exact fin_ret (v := (B (decide (t_0 ≤ 1000)))) (results_ok Try.results46 (res_tmp (v := (B (decide (t_0 ≤ 1000)))) rfl res_nil) rfl) ⟨rfl, rfl⟩ (H.sel' [] rfl rfl)
 ·replace h := bif_f hb1 h
  refine st_skip (congrArg some hb1) ?_
  refine st_skip (congrArg some hb1) ?_
  refine st (v := (B false)) (rv_pick_f (congrArg B hb1) rfl) ?_
  refine st (v := (B false)) (rv_assign rfl) ?_
  refine w_end ?_
  refine q_then ?_
  refine c_ret ?_
  obtain rfl := Option.some.inj h
  exact fin_ret (v := (B false)) (results_ok Try.results46 (res_tmp (v := (B false)) rfl res_nil) rfl) ⟨rfl, rfl⟩ (H.sel' [] rfl rfl)

theorem c_slices_isNaN_int {x_0 : Int}  {r : Bool} (h : M.slices_isNaN_int x_0 = some r) :
    Cal2 Try.prog 104 [(I x_0)] [] (fun n0 v L => v = (B r) ∧ L = []) := by
 refine cal2 (n := 6) Try.func104 rfl rfl rfl rfl ?_
 intro S0 σ0 n0 hn0 H
 unfold M.slices_isNaN_int at h
 refine c_seq ?_
 refine rg ?_
 refine st (v := (B false)) (rv_assign rfl) ?_
 refine w_end ?_
 refine q_then ?_
 refine c_seq ?_
 refine rg ?_
 refine st (v := (I x_0)) (rv_move rfl) ?_
 refine st (v := (I x_0)) (rv_move rfl) ?_
 refine st (v := (B (x_0 != x_0))) (rv_neq (a := x_0) (b := x_0) rfl rfl) ?_
 refine st (v := (B (x_0 != x_0))) (rv_assign rfl) ?_
 refine w_end ?_
 refine q_then ?_
 refine c_ret ?_
 obtain rfl := Option.some.inj h
 exact fin_ret (v := (B (x_0 != x_0))) (results_ok Try.results104 (res_tmp (v := (B (x_0 != x_0))) rfl res_nil) rfl) ⟨rfl, rfl⟩ (H.sel' [] rfl rfl)

theorem c_slices_BinarySearch_int_int {x_0 : List Int} {target_1 : Int} {ax_0 : Option Addr} {cx_0 : Nat} {r : Int × Bool} (h : M.slices_BinarySearch_int_int x_0 target_1 = some r) :
    Cal2 Try.prog 79 [(Sl ax_0 x_0 cx_0), (I target_1)] [Ch.ro 0 (Sl ax_0 x_0 cx_0) x_0] (fun n0 v L => v = (.tuple #[(I r.1), (B r.2)]) ∧ L = []) := by
 refine cal2 (n := 54) Try.func79 rfl rfl rfl rfl ?_
 intro S0 σ0 n0 hn0 H
 unfold M.slices_BinarySearch_int_int at h
 refine c_seq ?_
 refine rg ?_
 refine st (v := (I 0)) (rv_assign rfl) ?_
 refine st (v := (B false)) (rv_assign rfl) ?_
 refine w_end ?_
 refine q_then ?_
 refine c_seq ?_
 refine rg ?_
 refine st (v := (Sl ax_0 x_0 cx_0)) (rv_move rfl) ?_
 refine st (v := (I (x_0.length : Int))) (rv_len Try.underlying24 rfl) ?_
 refine st (v := (I (x_0.length : Int))) (rv_assign rfl) ?_
 refine w_end ?_
 refine q_then ?_
 refine c_seq ?_
 refine rg ?_
 refine st (v := (I (x_0.length : Int))) (rv_move rfl) ?_
 refine st (v := (I 0)) (rv_assign rfl) ?_
 refine st (v := (I (x_0.length : Int))) (rv_assign rfl) ?_
 refine w_end ?_
 refine q_then ?_
 refine c_seq ?_
 obtain ⟨o1, hj, h'⟩ := bind_some h
 clear h
 refine c_cut (fun e a w => e = .normal ∧ ∃ (ρ : Nat → Value) (σ : St), a = fr 54 (updL ρ [(0, (Sl ax_0 x_0 cx_0)), (1, (I target_1)), (6, (I (x_0.length : Int))), (7, (I o1))]) ∧ w = σ.w ∧ Hp S0 σ0 σ [Ch.ro 0 (Sl ax_0 x_0 cx_0) x_0]) ?_ ?_
 ·clear h'
  rename _ = some o1 => h
  refine c_blk ?_
  refine wp_loopM _ h (fun s2 a w => ∃ (ρ : Nat → Value) (σ : St), a = fr 54 (updL ρ [(0, (Sl ax_0 x_0 cx_0)), (1, (I target_1)), (6, (I (x_0.length : Int))), (7, (I s2.1)), (8, (I s2.2))]) ∧ w = σ.w ∧ Hp S0 σ0 σ [Ch.ro 0 (Sl ax_0 x_0 cx_0) x_0]) ⟨_, σ0, fr_join ⟨rfl, rfl, rfl, rfl, rfl, trivial⟩, rfl, H.sel' [0] rfl rfl⟩ ?_
  clear h H
  rintro s2 a w o ⟨ρ, σ3, rfl, rfl, H⟩ h hres
  refine c_seq ?_
  refine c_seq ?_
  refine rg ?_
  refine st (v := (I s2.1)) (rv_move rfl) ?_
  refine st (v := (I s2.2)) (rv_move rfl) ?_
  refine st (v := (B (decide (s2.1 < s2.2)))) (rv_lss (a := s2.1) (b := s2.2) rfl rfl) ?_
  refine w_end ?_
  refine q_then ?_
  refine cd_cond (decide (s2.1 < s2.2)) rfl (fun hb4 => ?_) (fun hb4 => ?_)
  ·replace h := bif_t hb4 h
   refine c_skip ?_
   refine q_then ?_
   refine c_blk ?_
   refine c_seq ?_
   refine rg ?_
   refine st (v := (I s2.1)) (rv_move rfl) ?_
   refine st (v := (I s2.2)) (rv_move rfl) ?_
   refine st (v := (I (w64 (s2.1 + s2.2)))) (rv_add (a := s2.1) (b := s2.2) rfl rfl) ?_
   refine st (v := (.int .u64 (wk .u64 (w64 (s2.1 + s2.2))))) (rvk_conv (k := .i64) (k' := .u64) (a := (w64 (s2.1 + s2.2))) Try.underlying3 Try.underlying121 rfl) ?_
   refine st (v := (.int .u64 (gshr .u64 (wk .u64 (w64 (s2.1 + s2.2))) 1))) (rvk_shr (k := .u64) (k' := .u64) (a := (wk .u64 (w64 (s2.1 + s2.2)))) (b := 1) rfl rfl (by decide)) ?_
   refine st (v := (I (wk .i64 (gshr .u64 (wk .u64 (w64 (s2.1 + s2.2))) 1)))) (rvk_conv (k := .u64) (k' := .i64) (a := (gshr .u64 (wk .u64 (w64 (s2.1 + s2.2))) 1)) Try.underlying121 Try.underlying3 rfl) ?_
   refine st (v := (I (wk .i64 (gshr .u64 (wk .u64 (w64 (s2.1 + s2.2))) 1)))) (rv_assign rfl) ?_
   refine w_end ?_
   refine q_then ?_
   refine c_seq ?_
   refine rg ?_
   refine st (v := (Sl ax_0 x_0 cx_0)) (rv_move rfl) ?_
   refine st (v := (I (wk .i64 (gshr .u64 (wk .u64 (w64 (s2.1 + s2.2))) 1)))) (rv_move rfl) ?_
   obtain ⟨x5, hx6, h'⟩ := bind_some h
   clear h
   have h := h'; clear h'
   obtain ⟨b8, o9, hi7, -⟩ := (H.ro 0 rfl).ix hx6
   refine st (v := (pt b8 o9)) (rv_ix Try.underlying24 ti3 rfl rfl hi7) ?_
   have hc10 := ((H.ro 0 rfl).at hx6 hi7).int
   refine st (v := (I x5)) (rv_load1 Try.underlying3 rfl rfl hc10) ?_
   refine st (v := (I target_1)) (rv_move rfl) ?_
   obtain ⟨r11, hx12, h'⟩ := bind_some h
   clear h
   have h := h'; clear h'
   have hc13 := c_cmp_Less_int hx12
   refine st_call (cx_call hc13 (ent_f hc13.fn rfl) hn0 (show Hp S0 σ0 _ ([] ++ [Ch.ro 0 (Sl ax_0 x_0 cx_0) x_0]) from (H.sel' [0] rfl rfl))) wn ?_
   rintro _ σ14 ⟨_, ⟨rfl, rfl⟩, H, -⟩
   replace H : Hp S0 σ0 σ14 [Ch.ro 0 (Sl ax_0 x_0 cx_0) x_0] := H
   refine w_end ?_
   refine q_then ?_
   refine cd_cond r11 rfl (fun hb15 => ?_) (fun hb15 => ?_)
   ·replace h := bif_t hb15 h
    refine rg ?_
    refine st (v := (I (wk .i64 (gshr .u64 (wk .u64 (w64 (s2.1 + s2.2))) 1)))) (rv_move rfl) ?_
    refine st (v := (I (w64 ((wk .i64 (gshr .u64 (wk .u64 (w64 (s2.1 + s2.2))) 1)) + 1)))) (rv_add (a := (wk .i64 (gshr .u64 (wk .u64 (w64 (s2.1 + s2.2))) 1))) (b := 1) rfl rfl) ?_
    refine st (v := (I (w64 ((wk .i64 (gshr .u64 (wk .u64 (w64 (s2.1 + s2.2))) 1)) + 1)))) (rv_assign rfl) ?_
    refine w_end ?_
    refine q_blk ?_
    refine q_then ?_
    obtain rfl := Option.some.inj h
    exact ⟨_, rfl, _, σ14, fr_join ⟨rfl, rfl, rfl, rfl, rfl, trivial⟩, rfl, H.sel' [0] rfl rfl⟩
   ·replace h := bif_f hb15 h
    refine rg ?_
    refine st (v := (I (wk .i64 (gshr .u64 (wk .u64 (w64 (s2.1 + s2.2))) 1)))) (rv_move rfl) ?_
    refine st (v := (I (wk .i64 (gshr .u64 (wk .u64 (w64 (s2.1 + s2.2))) 1)))) (rv_assign rfl) ?_
    refine w_end ?_
    refine q_blk ?_
    refine q_then ?_
    obtain rfl := Option.some.inj h
    exact ⟨_, rfl, _, σ14, fr_join ⟨rfl, rfl, rfl, rfl, rfl, trivial⟩, rfl, H.sel' [0] rfl rfl⟩
  ·replace h := bif_f hb4 h
   refine c_exit ?_
   refine q_then_x ?_
   refine q_then_x ?_
   refine q_blk_hit ?_
   obtain rfl := Option.some.inj h
   obtain rfl := hres _ rfl
   exact ⟨rfl, _, σ3, fr_join ⟨rfl, rfl, rfl, rfl, trivial⟩, rfl, H.sel' [0] rfl rfl⟩
 ·clear hj
  have h := h'
  clear h' H
  rintro e a w ⟨rfl, ρ, σ16, rfl, rfl, H⟩
  refine q_then ?_
  refine c_seq ?_
  refine rg ?_
  refine st (v := (I o1)) (rv_move rfl) ?_
  refine st (v := (I o1)) (rv_move rfl) ?_
  refine st (v := (I (x_0.length : Int))) (rv_move rfl) ?_
  refine st (v := (B (decide (o1 < (x_0.length : Int))))) (rv_lss (a := o1) (b := (x_0.length : Int)) rfl rfl) ?_
  refine st (v := (B (decide (o1 < (x_0.length : Int))))) (rv_move rfl) ?_
  rcases Bool.eq_false_or_eq_true (decide (o1 < (x_0.length : Int))) with hb17 | hb17
  ·replace h := bif_t hb17 h
   refine st_g (v := (Sl ax_0 x_0 cx_0)) (congrArg some hb17) (rv_move rfl) ?_
   refine st_g (v := (I o1)) (congrArg some hb17) (rv_move rfl) ?_
   obtain ⟨x18, hx19, h'⟩ := bind_some h
   clear h
   have h := h'; clear h'
   obtain ⟨b21, o22, hi20, -⟩ := (H.ro 0 rfl).ix hx19
   refine st_g (v := (pt b21 o22)) (congrArg some hb17) (rv_ix Try.underlying24 ti3 rfl rfl hi20) ?_
   have hc23 := ((H.ro 0 rfl).at hx19 hi20).int
   refine st_g (v := (I x18)) (congrArg some hb17) (rv_load1 Try.underlying3 rfl rfl hc23) ?_
   refine st_g (v := (I target_1)) (congrArg some hb17) (rv_move rfl) ?_
   refine st_g (v := (B (x18 == target_1))) (congrArg some hb17) (rv_eql (a := x18) (b := target_1) rfl rfl) ?_
   refine st_g (v := (B (x18 == target_1))) (congrArg some hb17) (rv_move rfl) ?_
   rcases Bool.eq_false_or_eq_true (x18 == target_1) with hb24 | hb24
   ·replace h := bif_t hb24 h
    refine st_skip (congrArg some hb24) ?_
    refine st_skip (congrArg some hb24) ?_
    refine st_skip (congrArg some hb24) ?_
    refine st_skip (congrArg some hb24) ?_
    refine st_skip (congrArg some hb24) ?_
    refine st_skip (congrArg some hb24) ?_
    refine st_skip_u rfl ?_
    refine st_skip_u rfl ?_
    refine st_skip (congrArg some hb24) ?_
    refine st_g (v := (B true)) (congrArg some hb17) (rv_pick_t (congrArg B hb24) rfl) ?_
    refine st (v := (B true)) (rv_pick_t (congrArg B hb17) rfl) ?_
    refine st (v := (I o1)) (rv_assign rfl) ?_
    refine st (v := (B true)) (rv_assign rfl) ?_
    refine w_end ?_
    refine q_then ?_
    refine c_ret ?_
    obtain rfl := Option.some.inj h
    exact fin_ret (v := (.tuple #[(I o1), (B true)])) (results_ok Try.results79 (res_tmp (v := (I o1)) rfl (res_tmp (v := (B true)) rfl res_nil)) rfl) ⟨rfl, rfl⟩ (H.sel' [] rfl rfl)
   ·replace h := bif_f hb24 h
    refine st_g (v := (Sl ax_0 x_0 cx_0)) (congrArg some hb24) (rv_move rfl) ?_
    refine st_g (v := (I o1)) (congrArg some hb24) (rv_move rfl) ?_
    obtain ⟨x25, hx26, h'⟩ := bind_some h
    clear h
    have h := h'; clear h'
    obtain ⟨b28, o29, hi27, -⟩ := (H.ro 0 rfl).ix hx26
    refine st_g (v := (pt b28 o29)) (congrArg some hb24) (rv_ix Try.underlying24 ti3 rfl rfl hi27) ?_
    have hc30 := ((H.ro 0 rfl).at hx26 hi27).int
    refine st_g (v := (I x25)) (congrArg some hb24) (rv_load1 Try.underlying3 rfl rfl hc30) ?_
    obtain ⟨r31, hx32, h'⟩ := bind_some h
    clear h
    have h := h'; clear h'
    have hc33 := c_slices_isNaN_int hx32
    refine st_call (cx_call hc33 (ent_f hc33.fn rfl) hn0 (show Hp S0 σ0 _ ([] ++ [Ch.ro 0 (Sl ax_0 x_0 cx_0) x_0]) from (H.sel' [0] rfl rfl))) (wanted_yes rfl (by exact (congrArg some hb24))) ?_
    rintro _ σ34 ⟨_, ⟨rfl, rfl⟩, H, -⟩
    replace H : Hp S0 σ0 σ34 [Ch.ro 0 (Sl ax_0 x_0 cx_0) x_0] := H
    refine st_g (v := (B r31)) (congrArg some hb24) (rv_move rfl) ?_
    rcases Bool.eq_false_or_eq_true r31 with hb35 | hb35
    ·replace h := bif_t hb35 h
     refine st_g (v := (I target_1)) (congrArg some hb35) (rv_move rfl) ?_
     obtain ⟨r36, hx37, h'⟩ := bind_some h
     clear h
     have h := h'; clear h'
     have hc38 := c_slices_isNaN_int hx37
     refine st_call (cx_call hc38 (ent_f hc38.fn rfl) hn0 (show Hp S0 σ0 _ ([] ++ [Ch.ro 0 (Sl ax_0 x_0 cx_0) x_0]) from (H.sel' [0] rfl rfl))) (wanted_yes rfl (by exact (congrArg some hb35))) ?_
     rintro _ σ39 ⟨_, ⟨rfl, rfl⟩, H, -⟩
     replace H : Hp S0 σ0 σ39 [Ch.ro 0 (Sl ax_0 x_0 cx_0) x_0] := H
     refine st_g (v := (B r36)) (congrArg some hb24) (rv_pick_t (congrArg B hb35) rfl) ?_
     refine st_g (v := (B r36)) (congrArg some hb17) (rv_pick_f (congrArg B hb24) rfl) ?_
     refine st (v := (B r36)) (rv_pick_t (congrArg B hb17) rfl) ?_
     refine st (v := (I o1)) (rv_assign rfl) ?_
     refine st (v := (B r36)) (rv_assign rfl) ?_
     refine w_end ?_
     refine q_then ?_
     refine c_ret ?_
     obtain rfl := Option.some.inj h
     exact fin_ret (v := (.tuple #[(I o1), (B r36)])) (results_ok Try.results79 (res_tmp (v := (I o1)) rfl (res_tmp (v := (B r36)) rfl res_nil)) rfl) ⟨rfl, rfl⟩ (H.sel' [] rfl rfl)
    ·replace h := bif_f hb35 h
     refine st_skip (congrArg some hb35) ?_
     refine st_skip (congrArg some hb35) ?_
     refine st_g (v := (B false)) (congrArg some hb24) (rv_pick_f (congrArg B hb35) rfl) ?_
     refine st_g (v := (B false)) (congrArg some hb17) (rv_pick_f (congrArg B hb24) rfl) ?_
     refine st (v := (B false)) (rv_pick_t (congrArg B hb17) rfl) ?_
     refine st (v := (I o1)) (rv_assign rfl) ?_
     refine st (v := (B false)) (rv_assign rfl) ?_
     refine w_end ?_
     refine q_then ?_
     refine c_ret ?_
     obtain rfl := Option.some.inj h
     exact fin_ret (v := (.tuple #[(I o1), (B false)])) (results_ok Try.results79 (res_tmp (v := (I o1)) rfl (res_tmp (v := (B false)) rfl res_nil)) rfl) ⟨rfl, rfl⟩ (H.sel' [] rfl rfl)
  ·replace h := bif_f hb17 h
   refine st_skip (congrArg some hb17) ?_
   refine st_skip (congrArg some hb17) ?_
   refine st_skip (congrArg some hb17) ?_
   refine st_skip (congrArg some hb17) ?_
   refine st_skip (congrArg some hb17) ?_
   refine st_skip (congrArg some hb17) ?_
   refine st_skip (congrArg some hb17) ?_
   refine st_skip_u rfl ?_
   refine st_skip_u rfl ?_
   refine st_skip_u rfl ?_
   refine st_skip_u rfl ?_
   refine st_skip_u rfl ?_
   refine st_skip_u rfl ?_
   refine st_skip_u rfl ?_
   refine st_skip_u rfl ?_
   refine st_skip_u rfl ?_
   refine st_skip (congrArg some hb17) ?_
   refine st (v := (B false)) (rv_pick_f (congrArg B hb17) rfl) ?_
   refine st (v := (I o1)) (rv_assign rfl) ?_
   refine st (v := (B false)) (rv_assign rfl) ?_
   refine w_end ?_
   refine q_then ?_
   refine c_ret ?_
   obtain rfl := Option.some.inj h
   exact fin_ret (v := (.tuple #[(I o1), (B false)])) (results_ok Try.results79 (res_tmp (v := (I o1)) rfl (res_tmp (v := (B false)) rfl res_nil)) rfl) ⟨rfl, rfl⟩ (H.sel' [] rfl rfl)

theorem c_impl_History_entriesUntil {h_0 : (List (Int × (Int × (List Int) × Int))) × (List Int)} {t_1 : Int} {ah_0_0 : Option Addr} {ch_0_0 : Nat} {ah_0_1 : Option Addr} {ch_0_1 : Nat} {r : Int} (h : M.impl_History_entriesUntil h_0 t_1 = some r) :
    Cal2 Try.prog 48 [(.agg #[(Sl ah_0_0 h_0.1 ch_0_0), (Sl ah_0_1 h_0.2 ch_0_1)]), (I t_1)] [Ch.ro 0 (Sl ah_0_0 h_0.1 ch_0_0) h_0.1, Ch.ro 0 (Sl ah_0_1 h_0.2 ch_0_1) h_0.2] (fun n0 v L => v = (I r) ∧ L = []) := by
 refine cal2 (n := 16) Try.func48 rfl rfl rfl rfl ?_
 intro S0 σ0 n0 hn0 H
 unfold M.impl_History_entriesUntil at h
 refine c_seq ?_
 refine rg ?_
 refine st_ex (ex_box (cs := [(Sl ah_0_0 h_0.1 ch_0_0), (Sl ah_0_1 h_0.2 ch_0_1)]) H hn0 rfl rfl) wn ?_
 rintro _ σ2 ⟨b1, rfl, H, -⟩
 refine st (v := (I 0)) (rv_assign rfl) ?_
 refine w_end ?_
 refine q_then ?_
 refine c_seq ?_
 refine rg ?_
 refine st (v := (pt b1 1)) (rv_fieldAddr (off := 1) (ft := 24) Try.underlying26 rfl ti24 rfl rfl) ?_
 have hc3 := H.cell (u := (Sl ah_0_1 h_0.2 ch_0_1)) (o' := 1) 0 1 rfl rfl rfl
 refine st (v := (Sl ah_0_1 h_0.2 ch_0_1)) (rv_load1 Try.underlying24 rfl rfl hc3) ?_
 refine st (v := (I t_1)) (rv_move rfl) ?_
 refine st (v := (I (w64 (t_1 + 1)))) (rv_add (a := t_1) (b := 1) rfl rfl) ?_
 obtain ⟨r4, hx5, h'⟩ := bind_some h
 clear h
 have h := h'; clear h'
 have hc6 := c_slices_BinarySearch_int_int (ax_0 := ah_0_1) (cx_0 := ch_0_1) hx5
 refine st_call (cx_call hc6 (ent_f hc6.fn rfl) hn0 (show Hp S0 σ0 _ ([Ch.ro 0 (Sl ah_0_1 h_0.2 ch_0_1) h_0.2] ++ [Ch.bx n0 b1 0 [(Sl ah_0_0 h_0.1 ch_0_0), (Sl ah_0_1 h_0.2 ch_0_1)] [] [], Ch.ro 0 (Sl ah_0_0 h_0.1 ch_0_0) h_0.1, Ch.ro 0 (Sl ah_0_1 h_0.2 ch_0_1) h_0.2]) from (H.sel' [2, 0, 1, 2] rfl rfl))) wn ?_
 rintro _ σ7 ⟨_, ⟨rfl, rfl⟩, H, -⟩
 replace H : Hp S0 σ0 σ7 [Ch.bx n0 b1 0 [(Sl ah_0_0 h_0.1 ch_0_0), (Sl ah_0_1 h_0.2 ch_0_1)] [] [], Ch.ro 0 (Sl ah_0_0 h_0.1 ch_0_0) h_0.1, Ch.ro 0 (Sl ah_0_1 h_0.2 ch_0_1) h_0.2] := H
 refine st (v := (.tuple #[(I r4.1), (B r4.2)])) (rv_move rfl) ?_
 refine st (v := (I r4.1)) (rv_extract rfl rfl) ?_
 refine st (v := (B r4.2)) (rv_extract rfl rfl) ?_
 refine st (v := (I r4.1)) (rv_assign rfl) ?_
 refine st (v := (B r4.2)) (rv_assign rfl) ?_
 refine w_end ?_
 refine q_then ?_
 refine c_seq ?_
 refine rg ?_
 refine st (v := (I r4.1)) (rv_move rfl) ?_
 refine st (v := (I r4.1)) (rv_assign rfl) ?_
 refine w_end ?_
 refine q_then ?_
 refine c_ret ?_
 obtain rfl := Option.some.inj h
 exact fin_ret (v := (I r4.1)) (results_ok Try.results48 (res_tmp (v := (I r4.1)) rfl res_nil) rfl) ⟨rfl, rfl⟩ (H.sel' [] rfl rfl)

theorem c_impl_copyLog {log_0 : List (Int × (Int × (List Int) × Int))} {alog_0 : Option Addr} {clog_0 : Nat} {r : (List (Int × (Int × (List Int) × Int)))} (h : M.impl_copyLog log_0 = some r) :
    Cal2 Try.prog 89 [(Sl alog_0 log_0 clog_0)] [Ch.ro 0 (Sl alog_0 log_0 clog_0) log_0] (fun n0 v L => ∃ (az1 : Option Addr), ∃ (cz2 : Nat), v = (Sl az1 r cz2) ∧ L = [Ch.own n0 n0 (Sl az1 r cz2) r] ∧ cz2 = r.length) := by
 refine cal2 (n := 27) Try.func89 rfl rfl rfl rfl ?_
 intro S0 σ0 n0 hn0 H
 unfold M.impl_copyLog at h
 refine c_seq ?_
 refine rg ?_
 refine st (v := (.slice none 0 0)) (rv_assign rfl) ?_
 refine w_end ?_
 refine q_then ?_
 refine c_seq ?_
 refine rg ?_
 refine st (v := (Sl alog_0 log_0 clog_0)) (rv_move rfl) ?_
 refine st (v := (I (log_0.length : Int))) (rv_len Try.underlying23 rfl) ?_
 obtain ⟨xs1, hx2, h'⟩ := bind_some h
 clear h
 have h := h'; clear h'
 refine st_ex (ex_make (el := n0) (z0 := ((0, (0, [], 0)) : Int × (Int × (List Int) × Int))) (zs := [(I 0), (I 0), (.slice none 0 0), (I 0)]) H hn0 Try.underlying23 ti43 rfl rfl (⟨[(I 0)], [(I 0), (.slice none 0 0), (I 0)], rfl, rfl, ⟨[(I 0)], [(.slice none 0 0), (I 0)], rfl, rfl, ⟨[(.slice none 0 0)], [(I 0)], rfl, ⟨_, rfl, RS.nil⟩, rfl⟩⟩⟩) (by decide) hx2 rfl rfl) wn ?_
 rintro _ σ6 ⟨b3, c4, rfl, ht5, H, -⟩
 replace ht5 := ht5.trans (gmake_len hx2).symm
 refine st (v := (Sl (some ⟨b3, 0, none⟩) xs1 c4)) (rv_assign rfl) ?_
 refine w_end ?_
 refine q_then ?_
 refine c_seq ?_
 refine c_seq ?_
 refine rg ?_
 refine st (v := (Sl alog_0 log_0 clog_0)) (rv_move rfl) ?_
 refine st (v := (I (log_0.length : Int))) (rv_len Try.underlying23 rfl) ?_
 refine st (v := (I 0)) (rv_move rfl) ?_
 refine w_end ?_
 refine q_then ?_
 obtain ⟨o7, hj, h'⟩ := bind_some h
 clear h
 refine c_cut (fun e a w => e = .normal ∧ ∃ (ρ : Nat → Value) (σ : St), a = fr 27 (updL ρ [(3, (Sl (some ⟨b3, 0, none⟩) o7 c4))]) ∧ w = σ.w ∧ Hp S0 σ0 σ [Ch.own n0 n0 (Sl (some ⟨b3, 0, none⟩) o7 c4) o7] ∧ c4 = o7.length ∧ o7.length = xs1.length) ?_ ?_
 ·clear h'
  rename _ = some o7 => h
  refine c_blk ?_
  refine wp_loopM _ h (fun s8 a w => ∃ (ρ : Nat → Value) (σ : St), a = fr 27 (updL ρ [(3, (Sl (some ⟨b3, 0, none⟩) s8.1 c4)), (9, (Sl alog_0 log_0 clog_0)), (10, (I (log_0.length : Int))), (11, (I s8.2))]) ∧ w = σ.w ∧ Hp S0 σ0 σ [Ch.own n0 n0 (Sl (some ⟨b3, 0, none⟩) s8.1 c4) s8.1, Ch.ro 0 (Sl alog_0 log_0 clog_0) log_0] ∧ c4 = s8.1.length ∧ s8.1.length = xs1.length) ⟨_, σ6, fr_join ⟨rfl, rfl, rfl, rfl, trivial⟩, rfl, H.sel' [0, 1] rfl rfl, ht5, rfl⟩ ?_
  clear h H
  rintro s8 a w o ⟨ρ, σ9, rfl, rfl, H, ht10, hn11⟩ h hres
  refine c_seq ?_
  refine rg ?_
  refine st (v := (B (decide (s8.2 < (log_0.length : Int))))) (rv_lss (a := s8.2) (b := (log_0.length : Int)) rfl rfl) ?_
  refine w_end ?_
  refine q_then ?_
  refine c_seq ?_
  refine cd_cond (decide (s8.2 < (log_0.length : Int))) rfl (fun hb12 => ?_) (fun hb12 => ?_)
  ·replace h := bif_t hb12 h
   refine c_skip ?_
   refine q_then ?_
   refine c_seq ?_
   refine c_blk ?_
   refine c_seq ?_
   refine rg ?_
   refine st (v := (I s8.2)) (rv_move rfl) ?_
   obtain ⟨x13, hx14, h'⟩ := bind_some h
   clear h
   have h := h'; clear h'
   obtain ⟨b16, o17, hi15, -⟩ := (H.ro 1 rfl).ix hx14
   refine st (v := (pt b16 o17)) (rv_ix Try.underlying23 ti43 rfl rfl hi15) ?_
   obtain ⟨_, ⟨_, _, rfl, rfl, ⟨_, _, rfl, rfl, ⟨_, _, rfl, ⟨_, rfl, hR22⟩, rfl⟩⟩⟩, hl18, hc19⟩ := ((H.ro 1 rfl).at hx14 hi15).cells
   obtain ⟨a20, c21, rfl⟩ := hR22.isSl
   replace H := H.add (d := Ch.ro 0 (Sl a20 x13.2.2.1 c21) x13.2.2.1) hR22 (fun _ h => h)
   clear hR22
   refine st (v := (.agg #[(I x13.1), (I x13.2.1), (Sl a20 x13.2.2.1 c21), (I x13.2.2.2)])) (rv_load Try.underlying43 rfl ti43 rfl hl18 hc19) ?_
   refine st_ex (ex_alloc (cs := [(I 0), (I 0), (.slice none 0 0), (I 0)]) H hn0 ti43 rfl) wn ?_
   rintro _ σ24 ⟨b23, rfl, H, -⟩
   refine st (v := (I s8.2)) (rv_assign rfl) ?_
   refine st_exS (ex_store_box (k := 0) (cs := [(I 0), (I 0), (.slice none 0 0), (I 0)]) (vs := [(I x13.1), (I x13.2.1), (Sl a20 x13.2.2.1 c21), (I x13.2.2.2)]) (cs' := [(I x13.1), (I x13.2.1), (Sl a20 x13.2.2.1 c21), (I x13.2.2.2)]) H (i := 0) rfl ti43 rfl rfl rfl rfl rfl (Nat.le_of_ble_eq_true rfl) (by simp [plain]) rfl) wn ?_
   rintro σ25 ⟨H, -⟩
   refine w_end ?_
   refine q_then ?_
   have hc26 := H.cell (u := (I x13.1)) (o' := 0) 0 0 rfl rfl rfl
   have hc27 := H.part (us := [(I x13.2.1), (Sl a20 x13.2.2.1 c21), (I x13.2.2.2)]) (o' := 1) 0 1 3 rfl rfl rfl rfl
   obtain ⟨r28, hx29, h'⟩ := bind_some h
   clear h
   have h := h'; clear h'
   have hc30 := c_impl_copyItem (ax_0_1 := a20) (cx_0_1 := c21) hx29
   have Hs := H
   refine rg2 (σ := σ25) (Nm := (Option Addr) × (Nat)) 8 [6] [[false], [true]] [[(0, 0), (1, 1)], [(0, 0), (1, 1)], [(0, 0), (1, 1)], [(0, 0), (1, 1)], [(0, 0)], [(0, 0)], [(0, 1)], [(1, 1)]] 1 [fun ((a31, c32) : (Option Addr) × (Nat)) => fun σm => Hp S0 σ0 σm [Ch.bx n0 b23 0 [(I x13.1), (I x13.2.1), (Sl a20 x13.2.2.1 c21), (I x13.2.2.2)] [] [], Ch.ro 0 (Sl a20 x13.2.2.1 c21) x13.2.2.1, Ch.own n0 n0 (Sl (some ⟨b3, 0, none⟩) s8.1 c4) s8.1, Ch.ro 0 (Sl alog_0 log_0 clog_0) log_0] ∧ Md (cov []) σ25 σm, fun ((a31, c32) : (Option Addr) × (Nat)) => fun σm => Hp S0 σ0 σm [Ch.own n0 n0 (Sl a31 r28.2.1 c32) r28.2.1, Ch.bx n0 b23 0 [(I x13.1), (I x13.2.1), (Sl a20 x13.2.2.1 c21), (I x13.2.2.2)] [] [], Ch.ro 0 (Sl a20 x13.2.2.1 c21) x13.2.2.1, Ch.own n0 n0 (Sl (some ⟨b3, 0, none⟩) s8.1 c4) s8.1, Ch.ro 0 (Sl alog_0 log_0 clog_0) log_0] ∧ Md (cov []) σ25 σm] [fun ((a31, c32) : (Option Addr) × (Nat)) => (Sl (some ⟨b3, 0, none⟩) s8.1 c4), fun ((a31, c32) : (Option Addr) × (Nat)) => (I s8.2), fun ((a31, c32) : (Option Addr) × (Nat)) => (pt b23 0), fun ((a31, c32) : (Option Addr) × (Nat)) => (I x13.1), fun ((a31, c32) : (Option Addr) × (Nat)) => (pt b23 1), fun ((a31, c32) : (Option Addr) × (Nat)) => (.agg #[(I x13.2.1), (Sl a20 x13.2.2.1 c21), (I x13.2.2.2)]), fun ((a31, c32) : (Option Addr) × (Nat)) => (.agg #[(I r28.1), (Sl a31 r28.2.1 c32), (I r28.2.2)]), fun ((a31, c32) : (Option Addr) × (Nat)) => (.agg #[(I x13.1), (I r28.1), (Sl a31 r28.2.1 c32), (I r28.2.2)])] (none, 0) (by kernel_rfl) (by kernel_rfl) ?_ ?_ ?_
   ·intro σm m0
    exact ⟨H.grow (m0.mono fun _ h => h.elim), m0⟩
   ·refine ac rfl (by
      intro k; rintro ⟨a31, c32⟩ ρ σm hJ hoff hdep
      have e3 := look_off (N := 27) (hoff 3 rfl) rfl
      exact dp_v (v := (Sl (some ⟨b3, 0, none⟩) s8.1 c4)) wn (rv_move e3) rfl hJ) ?_
    refine ac rfl (by
      intro k; rintro ⟨a31, c32⟩ ρ σm hJ hoff hdep
      have e4 := look_off (N := 27) (hoff 4 rfl) rfl
      exact dp_v (v := (I s8.2)) wn (rv_move e4) rfl hJ) ?_
    refine ac rfl (by
      intro k; rintro ⟨a31, c32⟩ ρ σm hJ hoff hdep
      have e5 := look_off (N := 27) (hoff 5 rfl) rfl
      exact dp_v (v := (pt b23 0)) wn (rv_fieldAddr (off := 0) (ft := 3) Try.underlying43 rfl ti3 rfl e5) rfl hJ) ?_
    refine all_cons (by
      refine ⟨?_, ?_⟩
      ·rintro ⟨a31, c32⟩ ρ σm hJ hoff hdep
       have e18 := hdep 2 rfl rfl 18 rfl
       obtain ⟨H, m⟩ := id hJ
       have hc26 := H.cell (u := (I x13.1)) (o' := 0) 0 0 rfl rfl rfl
       exact dp_v (v := (I x13.1)) wn (rv_load1 Try.underlying3 rfl e18 hc26) rfl hJ
      refine ⟨?_, ?_⟩
      ·rintro ⟨a31, c32⟩ ρ σm hJ hoff hdep
       have e18 := hdep 2 rfl rfl 18 rfl
       obtain ⟨H, m⟩ := id hJ
       have hc26 := H.cell (u := (I x13.1)) (o' := 0) 1 0 rfl rfl rfl
       exact dp_v (v := (I x13.1)) wn (rv_load1 Try.underlying3 rfl e18 hc26) rfl hJ
      trivial) ?_
    refine ac rfl (by
      intro k; rintro ⟨a31, c32⟩ ρ σm hJ hoff hdep
      have e5 := look_off (N := 27) (hoff 5 rfl) rfl
      exact dp_v (v := (pt b23 1)) wn (rv_fieldAddr (off := 1) (ft := 41) Try.underlying43 rfl ti41 rfl e5) rfl hJ) ?_
    refine all_cons (by
      refine ⟨?_, ?_⟩
      ·rintro ⟨a31, c32⟩ ρ σm hJ hoff hdep
       have e20 := hdep 4 rfl rfl 20 rfl
       obtain ⟨H, m⟩ := id hJ
       have hc27 := H.part (us := [(I x13.2.1), (Sl a20 x13.2.2.1 c21), (I x13.2.2.2)]) (o' := 1) 0 1 3 rfl rfl rfl rfl
       exact dp_v (v := (.agg #[(I x13.2.1), (Sl a20 x13.2.2.1 c21), (I x13.2.2.2)])) wn (rv_load (cs := [(I x13.2.1), (Sl a20 x13.2.2.1 c21), (I x13.2.2.2)]) Try.underlying41 rfl ti41 e20 rfl hc27) rfl hJ
      trivial) ?_
    refine all_cons (by
      refine ⟨?_, ?_⟩
      ·rintro ⟨a31, c32⟩ ρ σm hJ hoff hdep
       have e21 : look 27 ρ 21 = (.agg #[(I x13.2.1), (Sl a20 x13.2.2.1 c21), (I x13.2.2.2)]) := hdep 5 rfl rfl 21 rfl
       obtain ⟨H, m⟩ := id hJ
       refine dp_cx wn (cx_call hc30 (ent_f hc30.fn (by show [look 27 ρ 21] = _; rw [e21])) hn0 (show Hp S0 σ0 _ ([Ch.ro 0 (Sl a20 x13.2.2.1 c21) x13.2.2.1] ++ [Ch.bx n0 b23 0 [(I x13.1), (I x13.2.1), (Sl a20 x13.2.2.1 c21), (I x13.2.2.2)] [] [], Ch.ro 0 (Sl a20 x13.2.2.1 c21) x13.2.2.1, Ch.own n0 n0 (Sl (some ⟨b3, 0, none⟩) s8.1 c4) s8.1, Ch.ro 0 (Sl alog_0 log_0 clog_0) log_0]) from (H.sel' [1, 0, 1, 2, 3] rfl rfl))) ?_
       rintro _ σq ⟨_, ⟨a31x, c32x, rfl, rfl⟩, H2, m2⟩
       exact ⟨_, (a31x, c32x), rfl, rfl, ⟨H2.sel' [0, 1, 2, 3, 4] rfl rfl, m.comp0 (m2.mono (fun i h => by simp [cov, Ch.ro] at h))⟩, stab [0, 1, 2, 3, 4, 5] (by kernel_rfl) ⟨rfl, rfl, rfl, rfl, rfl, rfl, trivial⟩⟩
      trivial) ?_
    refine ac rfl (by
      intro k; rintro ⟨a31, c32⟩ ρ σm hJ hoff hdep
      have e19 : look 27 ρ 19 = (I x13.1) := hdep 3 rfl rfl 19 rfl
      have e22 : look 27 ρ 22 = (.agg #[(I r28.1), (Sl a31 r28.2.1 c32), (I r28.2.2)]) := hdep 6 rfl rfl 22 rfl
      exact dp_v (v := (.agg #[(I x13.1), (I r28.1), (Sl a31 r28.2.1 c32), (I r28.2.2)])) wn (rv_build (ps := [(0, (I x13.1)), (1, (.agg #[(I r28.1), (Sl a31 r28.2.1 c32), (I r28.2.2)]))]) Try.underlying43 ti43 (bp43 Try.underlying43) (by show [(0, look 27 ρ 19), (1, look 27 ρ 22)] = _; rw [e19, e22]) (by kernel_rfl)) rfl hJ) ?_
    exact all_nil
   ·rintro ⟨a31, c32⟩ ρ σ33 hJ hoff hrel
    have e3 := look_off (N := 27) (hoff 3 rfl) rfl
    have e9 := look_off (N := 27) (hoff 9 rfl) rfl
    have e10 := look_off (N := 27) (hoff 10 rfl) rfl
    have e11 := look_off (N := 27) (hoff 11 rfl) rfl
    have e16 := hrel 0 rfl 16 rfl
    have e17 := hrel 1 rfl 17 rfl
    have e23 := hrel 7 rfl 23 rfl
    obtain ⟨H, -⟩ := (show Hp S0 σ0 σ33 [Ch.own n0 n0 (Sl a31 r28.2.1 c32) r28.2.1, Ch.bx n0 b23 0 [(I x13.1), (I x13.2.1), (Sl a20 x13.2.2.1 c21), (I x13.2.2.2)] [] [], Ch.ro 0 (Sl a20 x13.2.2.1 c21) x13.2.2.1, Ch.own n0 n0 (Sl (some ⟨b3, 0, none⟩) s8.1 c4) s8.1, Ch.ro 0 (Sl alog_0 log_0 clog_0) log_0] ∧ Md (cov []) σ25 σ33 from hJ)
    clear hJ Hs
    rw [fr_lookL (L := [(3, (Sl (some ⟨b3, 0, none⟩) s8.1 c4)), (9, (Sl alog_0 log_0 clog_0)), (10, (I (log_0.length : Int))), (11, (I s8.2)), (16, (Sl (some ⟨b3, 0, none⟩) s8.1 c4)), (17, (I s8.2)), (23, (.agg #[(I x13.1), (I r28.1), (Sl a31 r28.2.1 c32), (I r28.2.2)]))]) ⟨e3, e9, e10, e11, e16, e17, e23, trivial⟩]
    clear hoff hrel e3 e9 e10 e11 e16 e17 e23
    obtain ⟨x34, hx35, h'⟩ := bind_some h
    clear h
    have h := h'; clear h'
    obtain ⟨b37, o38, hi36, -⟩ := (H.own 3 rfl).ix hx35
    refine st (v := (pt b37 o38)) (rv_ix Try.underlying23 ti43 rfl rfl hi36) ?_
    obtain ⟨σ39, hw40, H, -⟩ := H.pub 0 rfl (Nat.le_refl _)
    rw [← hw40]; clear hw40
    refine st_exS (ex_store_own (e' := (x13.1, (r28.1, r28.2.1, r28.2.2))) (vs := [(I x13.1), (I r28.1), (Sl a31 r28.2.1 c32), (I r28.2.2)]) (k := 0) H (i := 3) rfl ti43 hx35 hi36 rfl rfl rfl rfl rfl (Nat.le_of_ble_eq_true rfl) (by simp [plain]) (by rintro _ ⟨_, _, rfl, rfl, ⟨_, _, rfl, rfl, ⟨_, _, rfl, ⟨_, rfl, hR43⟩, rfl⟩⟩⟩; exact ⟨[(I x13.1)], [(I r28.1), (Sl a31 r28.2.1 c32), (I r28.2.2)], rfl, rfl, ⟨[(I r28.1)], [(Sl a31 r28.2.1 c32), (I r28.2.2)], rfl, rfl, ⟨[(Sl a31 r28.2.1 c32)], [(I r28.2.2)], rfl, ⟨_, rfl, (H.ro 0 rfl)⟩, rfl⟩⟩⟩)) wn ?_
    rintro σ44 ⟨H, -⟩
    have hsl : (Sl (some ⟨b3, 0, none⟩) s8.1 c4) = (Sl (some ⟨b3, 0, none⟩) (s8.1.set s8.2.toNat (x13.1, (r28.1, r28.2.1, r28.2.2))) c4) := sl_len List.length_set.symm
    rw [hsl]; rw [hsl] at H; clear hsl
    refine w_end ?_
    refine q_blk ?_
    refine q_then ?_
    refine rg ?_
    refine st (v := (I (w64 (s8.2 + 1)))) (rv_add (a := s8.2) (b := 1) rfl rfl) ?_
    refine st (v := (I (w64 (s8.2 + 1)))) (rv_move rfl) ?_
    refine w_end ?_
    refine q_then ?_
    obtain rfl := Option.some.inj h
    exact ⟨_, rfl, _, σ44, fr_join ⟨rfl, rfl, rfl, rfl, trivial⟩, rfl, H.sel' [0, 4] rfl rfl, (ht10.trans List.length_set.symm), (List.length_set.trans hn11)⟩
  ·replace h := bif_f hb12 h
   refine c_exit ?_
   refine q_then_x ?_
   refine q_then_x ?_
   refine q_blk_hit ?_
   obtain rfl := Option.some.inj h
   obtain rfl := hres _ rfl
   exact ⟨rfl, _, σ9, fr_join ⟨rfl, trivial⟩, rfl, H.sel' [0] rfl rfl, ht10, hn11⟩
 ·clear hj
  have h := h'
  clear h' H
  rintro e a w ⟨rfl, ρ, σ45, rfl, rfl, H, ht46, hn47⟩
  refine q_then ?_
  refine c_seq ?_
  refine rg ?_
  refine st (v := (Sl (some ⟨b3, 0, none⟩) o7 c4)) (rv_move rfl) ?_
  refine st (v := (Sl (some ⟨b3, 0, none⟩) o7 c4)) (rv_assign rfl) ?_
  refine w_end ?_
  refine q_then ?_
  refine c_ret ?_
  obtain rfl := Option.some.inj h
  exact fin_ret (v := (Sl (some ⟨b3, 0, none⟩) o7 c4)) (results_ok Try.results89 (res_tmp (v := (Sl (some ⟨b3, 0, none⟩) o7 c4)) rfl res_nil) rfl) ⟨(some ⟨b3, 0, none⟩), c4, rfl, rfl, ht46⟩ (H.sel' [0] rfl rfl)

theorem c_impl_History_firstEntries {h_0 : (List (Int × (Int × (List Int) × Int))) × (List Int)} {many_1 : Int} {ah_0_0 : Option Addr} {ch_0_0 : Nat} {ah_0_1 : Option Addr} {ch_0_1 : Nat} {r : ((List (Int × (Int × (List Int) × Int))) × (List Int))} (h : M.impl_History_firstEntries h_0 many_1 = some r) :
    Cal2 Try.prog 59 [(.agg #[(Sl ah_0_0 h_0.1 ch_0_0), (Sl ah_0_1 h_0.2 ch_0_1)]), (I many_1)] [Ch.ro 0 (Sl ah_0_0 h_0.1 ch_0_0) h_0.1, Ch.ro 0 (Sl ah_0_1 h_0.2 ch_0_1) h_0.2] (fun n0 v L => ∃ (az1 : Option Addr), ∃ (cz2 : Nat), ∃ (az4 : Option Addr), ∃ (cz5 : Nat), v = (.agg #[(Sl az1 r.1 cz2), (Sl az4 r.2 cz5)]) ∧ L = [Ch.own n0 n0 (Sl az1 r.1 cz2) r.1, Ch.own n0 n0 (Sl az4 r.2 cz5) r.2] ∧ cz2 = r.1.length) := by
 refine cal2 (n := 16) Try.func59 rfl rfl rfl rfl ?_
 intro S0 σ0 n0 hn0 H
 unfold M.impl_History_firstEntries at h
 refine c_seq ?_
 refine rg ?_
 refine st_ex (ex_box (cs := [(Sl ah_0_0 h_0.1 ch_0_0), (Sl ah_0_1 h_0.2 ch_0_1)]) H hn0 rfl rfl) wn ?_
 rintro _ σ2 ⟨b1, rfl, H, -⟩
 refine st_ex (ex_alloc (cs := [(.slice none 0 0), (.slice none 0 0)]) H hn0 ti26 rfl) wn ?_
 rintro _ σ4 ⟨b3, rfl, H, -⟩
 refine w_end ?_
 refine q_then ?_
 refine c_seq ?_
 have hc5 := H.cell (u := (Sl ah_0_0 h_0.1 ch_0_0)) (o' := 0) 1 0 rfl rfl rfl
 obtain ⟨xs6, hx7, h'⟩ := bind_some h
 clear h
 have h := h'; clear h'
 obtain ⟨a8, c9, hs10, hR11⟩ := (H.ro 2 rfl).slice hx7
 replace H := H.add (d := Ch.ro 0 (Sl a8 xs6 c9) xs6) hR11 (fun _ h => h)
 clear hR11
 obtain ⟨r12, hx13, h'⟩ := bind_some h
 clear h
 have h := h'; clear h'
 have hc14 := c_impl_copyLog (alog_0 := a8) (clog_0 := c9) hx13
 have hc18 := H.cell (u := (Sl ah_0_1 h_0.2 ch_0_1)) (o' := 1) 2 1 rfl rfl rfl
 obtain ⟨xs19, hx20, h'⟩ := bind_some h
 clear h
 have h := h'; clear h'
 obtain ⟨a21, c22, hs23, hR24⟩ := (H.ro 4 rfl).slice hx20
 replace H := H.add (d := Ch.ro 0 (Sl a21 xs19 c22) xs19) hR24 (fun _ h => h)
 clear hR24
 have Hs := H
 refine rg2 (σ := σ4) (Nm := (Option Addr) × (Nat)) 9 [4] [[false], [true]] [[(0, 0)], [(0, 0)], [(0, 0)], [(0, 0)], [(0, 1)], [(0, 0), (1, 1)], [(0, 0), (1, 1)], [(0, 0), (1, 1)], [(0, 0), (1, 1)]] 1 [fun ((a15, c16) : (Option Addr) × (Nat)) => fun σm => Hp S0 σ0 σm [Ch.ro 0 (Sl a21 xs19 c22) xs19, Ch.ro 0 (Sl a8 xs6 c9) xs6, Ch.bx n0 b3 0 [(.slice none 0 0), (.slice none 0 0)] [] [], Ch.bx n0 b1 0 [(Sl ah_0_0 h_0.1 ch_0_0), (Sl ah_0_1 h_0.2 ch_0_1)] [] [], Ch.ro 0 (Sl ah_0_0 h_0.1 ch_0_0) h_0.1, Ch.ro 0 (Sl ah_0_1 h_0.2 ch_0_1) h_0.2] ∧ Md (cov []) σ4 σm, fun ((a15, c16) : (Option Addr) × (Nat)) => fun σm => Hp S0 σ0 σm [Ch.own n0 n0 (Sl a15 r12 c16) r12, Ch.ro 0 (Sl a21 xs19 c22) xs19, Ch.ro 0 (Sl a8 xs6 c9) xs6, Ch.bx n0 b3 0 [(.slice none 0 0), (.slice none 0 0)] [] [], Ch.bx n0 b1 0 [(Sl ah_0_0 h_0.1 ch_0_0), (Sl ah_0_1 h_0.2 ch_0_1)] [] [], Ch.ro 0 (Sl ah_0_0 h_0.1 ch_0_0) h_0.1, Ch.ro 0 (Sl ah_0_1 h_0.2 ch_0_1) h_0.2] ∧ Md (cov []) σ4 σm ∧ c16 = r12.length] [fun ((a15, c16) : (Option Addr) × (Nat)) => (pt b1 0), fun ((a15, c16) : (Option Addr) × (Nat)) => (Sl ah_0_0 h_0.1 ch_0_0), fun ((a15, c16) : (Option Addr) × (Nat)) => (I many_1), fun ((a15, c16) : (Option Addr) × (Nat)) => (Sl a8 xs6 c9), fun ((a15, c16) : (Option Addr) × (Nat)) => (Sl a15 r12 c16), fun ((a15, c16) : (Option Addr) × (Nat)) => (pt b1 1), fun ((a15, c16) : (Option Addr) × (Nat)) => (Sl ah_0_1 h_0.2 ch_0_1), fun ((a15, c16) : (Option Addr) × (Nat)) => (I many_1), fun ((a15, c16) : (Option Addr) × (Nat)) => (Sl a21 xs19 c22)] (none, 0) (by kernel_rfl) (by kernel_rfl) ?_ ?_ ?_
 ·intro σm m0
  exact ⟨H.grow (m0.mono fun _ h => h.elim), m0⟩
 ·refine ac rfl (by
    intro k; rintro ⟨a15, c16⟩ ρ σm hJ hoff hdep
    have e2 := look_off (N := 16) (hoff 2 rfl) rfl
    exact dp_v (v := (pt b1 0)) wn (rv_fieldAddr (off := 0) (ft := 23) Try.underlying26 rfl ti23 rfl e2) rfl hJ) ?_
  refine all_cons (by
    refine ⟨?_, ?_⟩
    ·rintro ⟨a15, c16⟩ ρ σm hJ hoff hdep
     have e5 := hdep 0 rfl rfl 5 rfl
     obtain ⟨H, m⟩ := id hJ
     have hc5 := H.cell (u := (Sl ah_0_0 h_0.1 ch_0_0)) (o' := 0) 3 0 rfl rfl rfl
     exact dp_v (v := (Sl ah_0_0 h_0.1 ch_0_0)) wn (rv_load1 Try.underlying23 rfl e5 hc5) rfl hJ
    trivial) ?_
  refine ac rfl (by
    intro k; rintro ⟨a15, c16⟩ ρ σm hJ hoff hdep
    have e1 := look_off (N := 16) (hoff 1 rfl) rfl
    exact dp_v (v := (I many_1)) wn (rv_move e1) rfl hJ) ?_
  refine ac rfl (by
    intro k; rintro ⟨a15, c16⟩ ρ σm hJ hoff hdep
    have e6 := hdep 1 rfl rfl 6 rfl
    have e7 := hdep 2 rfl rfl 7 rfl
    exact dp_v (v := (Sl a8 xs6 c9)) wn (rv_slice_h Try.underlying23 ti43 hs10 e6 e7) rfl hJ) ?_
  refine all_cons (by
    refine ⟨?_, ?_⟩
    ·rintro ⟨a15, c16⟩ ρ σm hJ hoff hdep
     have e8 : look 16 ρ 8 = (Sl a8 xs6 c9) := hdep 3 rfl rfl 8 rfl
     obtain ⟨H, m⟩ := id hJ
     refine dp_cx wn (cx_call hc14 (ent_f hc14.fn (by show [look 16 ρ 8] = _; rw [e8])) hn0 (show Hp S0 σ0 _ ([Ch.ro 0 (Sl a8 xs6 c9) xs6] ++ [Ch.ro 0 (Sl a21 xs19 c22) xs19, Ch.ro 0 (Sl a8 xs6 c9) xs6, Ch.bx n0 b3 0 [(.slice none 0 0), (.slice none 0 0)] [] [], Ch.bx n0 b1 0 [(Sl ah_0_0 h_0.1 ch_0_0), (Sl ah_0_1 h_0.2 ch_0_1)] [] [], Ch.ro 0 (Sl ah_0_0 h_0.1 ch_0_0) h_0.1, Ch.ro 0 (Sl ah_0_1 h_0.2 ch_0_1) h_0.2]) from (H.sel' [1, 0, 1, 2, 3, 4, 5] rfl rfl))) ?_
     rintro _ σq ⟨_, ⟨a15x, c16x, rfl, rfl, ht17⟩, H2, m2⟩
     exact ⟨_, (a15x, c16x), rfl, rfl, ⟨H2.sel' [0, 1, 2, 3, 4, 5, 6] rfl rfl, m.comp0 (m2.mono (fun i h => by simp [cov, Ch.ro] at h)), ht17⟩, stab [0, 1, 2, 3, 5, 6, 7, 8] (by kernel_rfl) ⟨rfl, rfl, rfl, rfl, rfl, rfl, rfl, rfl, trivial⟩⟩
    trivial) ?_
  refine ac rfl (by
    intro k; rintro ⟨a15, c16⟩ ρ σm hJ hoff hdep
    have e2 := look_off (N := 16) (hoff 2 rfl) rfl
    exact dp_v (v := (pt b1 1)) wn (rv_fieldAddr (off := 1) (ft := 24) Try.underlying26 rfl ti24 rfl e2) rfl hJ) ?_
  refine all_cons (by
    refine ⟨?_, ?_⟩
    ·rintro ⟨a15, c16⟩ ρ σm hJ hoff hdep
     have e10 := hdep 5 rfl rfl 10 rfl
     obtain ⟨H, m⟩ := id hJ
     have hc18 := H.cell (u := (Sl ah_0_1 h_0.2 ch_0_1)) (o' := 1) 3 1 rfl rfl rfl
     exact dp_v (v := (Sl ah_0_1 h_0.2 ch_0_1)) wn (rv_load1 Try.underlying24 rfl e10 hc18) rfl hJ
    refine ⟨?_, ?_⟩
    ·rintro ⟨a15, c16⟩ ρ σm hJ hoff hdep
     have e10 := hdep 5 rfl rfl 10 rfl
     obtain ⟨H, m, ht17⟩ := id hJ
     have hc18 := H.cell (u := (Sl ah_0_1 h_0.2 ch_0_1)) (o' := 1) 4 1 rfl rfl rfl
     exact dp_v (v := (Sl ah_0_1 h_0.2 ch_0_1)) wn (rv_load1 Try.underlying24 rfl e10 hc18) rfl hJ
    trivial) ?_
  refine ac rfl (by
    intro k; rintro ⟨a15, c16⟩ ρ σm hJ hoff hdep
    have e1 := look_off (N := 16) (hoff 1 rfl) rfl
    exact dp_v (v := (I many_1)) wn (rv_move e1) rfl hJ) ?_
  refine ac rfl (by
    intro k; rintro ⟨a15, c16⟩ ρ σm hJ hoff hdep
    have e11 := hdep 6 rfl rfl 11 rfl
    have e12 := hdep 7 rfl rfl 12 rfl
    exact dp_v (v := (Sl a21 xs19 c22)) wn (rv_slice_h Try.underlying24 ti3 hs23 e11 e12) rfl hJ) ?_
  exact all_nil
 ·rintro ⟨a15, c16⟩ ρ σ25 hJ hoff hrel
  have e4 := look_off (N := 16) (hoff 4 rfl) rfl
  have e9 := hrel 4 rfl 9 rfl
  have e13 := hrel 8 rfl 13 rfl
  obtain ⟨H, -, ht17⟩ := (show Hp S0 σ0 σ25 [Ch.own n0 n0 (Sl a15 r12 c16) r12, Ch.ro 0 (Sl a21 xs19 c22) xs19, Ch.ro 0 (Sl a8 xs6 c9) xs6, Ch.bx n0 b3 0 [(.slice none 0 0), (.slice none 0 0)] [] [], Ch.bx n0 b1 0 [(Sl ah_0_0 h_0.1 ch_0_0), (Sl ah_0_1 h_0.2 ch_0_1)] [] [], Ch.ro 0 (Sl ah_0_0 h_0.1 ch_0_0) h_0.1, Ch.ro 0 (Sl ah_0_1 h_0.2 ch_0_1) h_0.2] ∧ Md (cov []) σ4 σ25 ∧ c16 = r12.length from hJ)
  clear hJ Hs
  rw [fr_lookL (L := [(4, (pt b3 0)), (9, (Sl a15 r12 c16)), (13, (Sl a21 xs19 c22))]) ⟨e4, e9, e13, trivial⟩]
  clear hoff hrel e4 e9 e13
  obtain ⟨r26, hx27, h'⟩ := bind_some h
  clear h
  have h := h'; clear h'
  have hc28 := c_slices_Clone_int_int (as_0 := a21) (cs_0 := c22) hx27
  refine st_call (cx_call hc28 (ent_f hc28.fn rfl) hn0 (show Hp S0 σ0 _ ([Ch.ro 0 (Sl a21 xs19 c22) xs19] ++ [Ch.own n0 n0 (Sl a15 r12 c16) r12, Ch.ro 0 (Sl a21 xs19 c22) xs19, Ch.ro 0 (Sl a8 xs6 c9) xs6, Ch.bx n0 b3 0 [(.slice none 0 0), (.slice none 0 0)] [] [], Ch.bx n0 b1 0 [(Sl ah_0_0 h_0.1 ch_0_0), (Sl ah_0_1 h_0.2 ch_0_1)] [] [], Ch.ro 0 (Sl ah_0_0 h_0.1 ch_0_0) h_0.1, Ch.ro 0 (Sl ah_0_1 h_0.2 ch_0_1) h_0.2]) from (H.sel' [1, 0, 1, 2, 3, 4, 5, 6] rfl rfl))) wn ?_
  rintro _ σ31 ⟨_, ⟨a29, c30, rfl, rfl⟩, H, -⟩
  replace H : Hp S0 σ0 σ31 [Ch.own n0 n0 (Sl a29 r26 c30) r26, Ch.own n0 n0 (Sl a15 r12 c16) r12, Ch.ro 0 (Sl a21 xs19 c22) xs19, Ch.ro 0 (Sl a8 xs6 c9) xs6, Ch.bx n0 b3 0 [(.slice none 0 0), (.slice none 0 0)] [] [], Ch.bx n0 b1 0 [(Sl ah_0_0 h_0.1 ch_0_0), (Sl ah_0_1 h_0.2 ch_0_1)] [] [], Ch.ro 0 (Sl ah_0_0 h_0.1 ch_0_0) h_0.1, Ch.ro 0 (Sl ah_0_1 h_0.2 ch_0_1) h_0.2] := H
  replace H : Hp S0 σ0 σ31 [Ch.own n0 n0 (Sl a29 r26 c30) r26, Ch.own n0 n0 (Sl a15 r12 c16) r12, Ch.bx n0 b3 0 [(.slice none 0 0), (.slice none 0 0)] [] []] := H.sel' [0, 1, 4] rfl rfl
  refine st (v := (.agg #[(Sl a15 r12 c16), (Sl a29 r26 c30)])) (rv_build (ps := [(0, (Sl a15 r12 c16)), (1, (Sl a29 r26 c30))]) Try.underlying26 ti26 (bp26 Try.underlying26) rfl (by kernel_rfl)) ?_
  refine st_exS (ex_store_box (k := 0) (cs := [(.slice none 0 0), (.slice none 0 0)]) (vs := [(Sl a15 r12 c16), (Sl a29 r26 c30)]) (cs' := [(Sl a15 r12 c16), (Sl a29 r26 c30)]) H (i := 2) rfl ti26 rfl rfl rfl rfl rfl (Nat.le_of_ble_eq_true rfl) (by simp [plain]) rfl) wn ?_
  rintro σ32 ⟨H, -⟩
  refine w_end ?_
  refine q_then ?_
  refine c_ret ?_
  obtain rfl := Option.some.inj h
  exact fin_ret (v := (.agg #[(Sl a15 r12 c16), (Sl a29 r26 c30)])) (results_ok Try.results59 (res_cell rfl (run_cellRes (cs := [(Sl a15 r12 c16), (Sl a29 r26 c30)]) Try.underlying26 rfl ti26 rfl (H.cells 0 rfl)) res_nil) rfl) ⟨a15, c16, a29, c30, rfl, rfl, ht17⟩ (H.sel' [2, 1] rfl rfl)

theorem c_impl_RollBack {h_0 : (List (Int × (Int × (List Int) × Int))) × (List Int)} {t_1 : Int} {ah_0_0 : Option Addr} {ch_0_0 : Nat} {ah_0_1 : Option Addr} {ch_0_1 : Nat} {r : ((List (Int × (Int × (List Int) × Int))) × (List Int)) × Bool} (h : M.impl_RollBack h_0 t_1 = some r) :
    Cal2 Try.prog 32 [(.agg #[(Sl ah_0_0 h_0.1 ch_0_0), (Sl ah_0_1 h_0.2 ch_0_1)]), (I t_1)] [Ch.ro 0 (Sl ah_0_0 h_0.1 ch_0_0) h_0.1, Ch.ro 0 (Sl ah_0_1 h_0.2 ch_0_1) h_0.2] (fun n0 v L => ∃ (az1 : Option Addr), ∃ (cz2 : Nat), ∃ (az4 : Option Addr), ∃ (cz5 : Nat), v = (.tuple #[(.agg #[(Sl az1 r.1.1 cz2), (Sl az4 r.1.2 cz5)]), (B r.2)]) ∧ L = [Ch.own n0 n0 (Sl az1 r.1.1 cz2) r.1.1, Ch.own n0 n0 (Sl az4 r.1.2 cz5) r.1.2] ∧ cz2 = r.1.1.length) := by
 refine cal2 (n := 20) Try.func32 rfl rfl rfl rfl ?_
 intro S0 σ0 n0 hn0 H
 unfold M.impl_RollBack at h
 refine c_seq ?_
 refine rg ?_
 refine st_ex (ex_box (cs := [(Sl ah_0_0 h_0.1 ch_0_0), (Sl ah_0_1 h_0.2 ch_0_1)]) H hn0 rfl rfl) wn ?_
 rintro _ σ2 ⟨b1, rfl, H, -⟩
 refine st_ex (ex_alloc (cs := [(.slice none 0 0), (.slice none 0 0)]) H hn0 ti26 rfl) wn ?_
 rintro _ σ4 ⟨b3, rfl, H, -⟩
 refine st (v := (B false)) (rv_assign rfl) ?_
 refine w_end ?_
 refine q_then ?_
 refine c_seq ?_
 refine c_seq ?_
 obtain ⟨o5, hj, h'⟩ := bind_some h
 clear h
 refine c_cut (fun e a w => e = .normal ∧ ∃ (ρ : Nat → Value) (σ : St), a = fr 20 (updL ρ [(1, (I t_1)), (2, (pt b1 0)), (4, (pt b3 0)), (13, (B o5))]) ∧ w = σ.w ∧ Hp S0 σ0 σ [Ch.ro 0 (Sl ah_0_0 h_0.1 ch_0_0) h_0.1, Ch.ro 0 (Sl ah_0_1 h_0.2 ch_0_1) h_0.2, Ch.bx n0 b1 0 [(Sl ah_0_0 h_0.1 ch_0_0), (Sl ah_0_1 h_0.2 ch_0_1)] [] [], Ch.bx n0 b3 0 [(.slice none 0 0), (.slice none 0 0)] [] []]) ?_ ?_
 ·clear h'
  rename _ = some o5 => h
  refine rg ?_
  have hc6 := H.cells 1 rfl
  refine st (v := (.agg #[(Sl ah_0_0 h_0.1 ch_0_0), (Sl ah_0_1 h_0.2 ch_0_1)])) (rv_load (cs := [(Sl ah_0_0 h_0.1 ch_0_0), (Sl ah_0_1 h_0.2 ch_0_1)]) Try.underlying26 rfl ti26 rfl rfl hc6) ?_
  obtain ⟨r7, hx8, h'⟩ := bind_some h
  clear h
  have h := h'; clear h'
  have hc9 := c_impl_ValidHistory (ah_0_0 := ah_0_0) (ch_0_0 := ch_0_0) (ah_0_1 := ah_0_1) (ch_0_1 := ch_0_1) hx8
  refine st_call (cx_call hc9 (ent_f hc9.fn rfl) hn0 (show Hp S0 σ0 _ ([Ch.ro 0 (Sl ah_0_0 h_0.1 ch_0_0) h_0.1, Ch.ro 0 (Sl ah_0_1 h_0.2 ch_0_1) h_0.2] ++ [Ch.bx n0 b3 0 [(.slice none 0 0), (.slice none 0 0)] [] [], Ch.bx n0 b1 0 [(Sl ah_0_0 h_0.1 ch_0_0), (Sl ah_0_1 h_0.2 ch_0_1)] [] [], Ch.ro 0 (Sl ah_0_0 h_0.1 ch_0_0) h_0.1, Ch.ro 0 (Sl ah_0_1 h_0.2 ch_0_1) h_0.2]) from (H.sel' [2, 3, 0, 1, 2, 3] rfl rfl))) wn ?_
  rintro _ σ10 ⟨_, ⟨rfl, rfl⟩, H, -⟩
  replace H : Hp S0 σ0 σ10 [Ch.bx n0 b3 0 [(.slice none 0 0), (.slice none 0 0)] [] [], Ch.bx n0 b1 0 [(Sl ah_0_0 h_0.1 ch_0_0), (Sl ah_0_1 h_0.2 ch_0_1)] [] [], Ch.ro 0 (Sl ah_0_0 h_0.1 ch_0_0) h_0.1, Ch.ro 0 (Sl ah_0_1 h_0.2 ch_0_1) h_0.2] := H
  refine st (v := (B (!r7))) (rv_not rfl) ?_
  refine st (v := (B (!r7))) (rv_move rfl) ?_
  rcases Bool.eq_false_or_eq_true (!r7) with hb11 | hb11
  ·replace h := bif_t hb11 h
   refine st_skip (congrArg some hb11) ?_
   refine st_skip (congrArg some hb11) ?_
   refine st_skip (congrArg some hb11) ?_
   refine st (v := (B true)) (rv_pick_t (congrArg B hb11) rfl) ?_
   refine w_end ?_
   obtain rfl := Option.some.inj h
   exact ⟨rfl, _, σ10, fr_join ⟨rfl, rfl, rfl, rfl, trivial⟩, rfl, H.sel' [2, 3, 1, 0] rfl rfl⟩
  ·replace h := bif_f hb11 h
   refine st_g (v := (I t_1)) (congrArg some hb11) (rv_move rfl) ?_
   obtain ⟨r12, hx13, h'⟩ := bind_some h
   clear h
   have h := h'; clear h'
   have hc14 := c_impl_validMoment hx13
   refine st_call (cx_call hc14 (ent_f hc14.fn rfl) hn0 (show Hp S0 σ0 _ ([] ++ [Ch.bx n0 b3 0 [(.slice none 0 0), (.slice none 0 0)] [] [], Ch.bx n0 b1 0 [(Sl ah_0_0 h_0.1 ch_0_0), (Sl ah_0_1 h_0.2 ch_0_1)] [] [], Ch.ro 0 (Sl ah_0_0 h_0.1 ch_0_0) h_0.1, Ch.ro 0 (Sl ah_0_1 h_0.2 ch_0_1) h_0.2]) from (H.sel' [0, 1, 2, 3] rfl rfl))) (wanted_yes rfl (by exact (congrArg some hb11))) ?_
   rintro _ σ15 ⟨_, ⟨rfl, rfl⟩, H, -⟩
   replace H : Hp S0 σ0 σ15 [Ch.bx n0 b3 0 [(.slice none 0 0), (.slice none 0 0)] [] [], Ch.bx n0 b1 0 [(Sl ah_0_0 h_0.1 ch_0_0), (Sl ah_0_1 h_0.2 ch_0_1)] [] [], Ch.ro 0 (Sl ah_0_0 h_0.1 ch_0_0) h_0.1, Ch.ro 0 (Sl ah_0_1 h_0.2 ch_0_1) h_0.2] := H
   refine st_g (v := (B (!r12))) (congrArg some hb11) (rv_not rfl) ?_
   refine st (v := (B (!r12))) (rv_pick_f (congrArg B hb11) rfl) ?_
   refine w_end ?_
   obtain rfl := Option.some.inj h
   exact ⟨rfl, _, σ15, fr_join ⟨rfl, rfl, rfl, rfl, trivial⟩, rfl, H.sel' [2, 3, 1, 0] rfl rfl⟩
 ·clear hj
  have h := h'
  clear h' H
  rintro e a w ⟨rfl, ρ, σ16, rfl, rfl, H⟩
  refine q_then ?_
  refine cd_cond o5 rfl (fun hb17 => ?_) (fun hb17 => ?_)
  ·replace h := bif_t hb17 h
   refine c_seq ?_
   refine rg ?_
   refine st (v := (.agg #[(.slice none 0 0), (.slice none 0 0)])) (rv_build (ps := []) Try.underlying26 ti26 (bp26 Try.underlying26) rfl (by kernel_rfl)) ?_
   refine st_exS (ex_store_box (k := 0) (cs := [(.slice none 0 0), (.slice none 0 0)]) (vs := [(.slice none 0 0), (.slice none 0 0)]) (cs' := [(.slice none 0 0), (.slice none 0 0)]) H (i := 3) rfl ti26 rfl rfl rfl rfl rfl (Nat.le_of_ble_eq_true rfl) (by simp [plain]) rfl) wn ?_
   rintro σ18 ⟨H, -⟩
   refine st (v := (B false)) (rv_assign rfl) ?_
   refine w_end ?_
   refine q_then ?_
   refine c_ret ?_
   refine q_then_r ?_
   replace H := H.nilOwn (Int × (Int × (List Int) × Int)) n0 n0
   replace H := H.nilOwn Int n0 n0
   obtain rfl := Option.some.inj h
   exact fin_ret (v := (.tuple #[(.agg #[(.slice none 0 0), (.slice none 0 0)]), (B false)])) (results_ok Try.results32 (res_cell rfl (run_cellRes (cs := [(.slice none 0 0), (.slice none 0 0)]) Try.underlying26 rfl ti26 rfl (H.cells 2 rfl)) (res_tmp (v := (B false)) rfl res_nil)) rfl) ⟨none, 0, none, 0, rfl, rfl, rfl⟩ (H.sel' [1, 0] rfl rfl)
  ·replace h := bif_f hb17 h
   refine c_skip ?_
   refine q_then ?_
   refine c_seq ?_
   have hc19 := H.cells 2 rfl
   have hc20 := H.cells 2 rfl
   obtain ⟨r21, hx22, h'⟩ := bind_some h
   clear h
   have h := h'; clear h'
   have hc23 := c_impl_History_entriesUntil (ah_0_0 := ah_0_0) (ch_0_0 := ch_0_0) (ah_0_1 := ah_0_1) (ch_0_1 := ch_0_1) hx22
   have Hs := H
   refine rg2 (σ := σ16) (Nm := Unit) 4 [3] [[false], [true]] [[(0, 0), (1, 1)], [(0, 0)], [(0, 0)], [(0, 1)]] 1 [fun _ => fun σm => Hp S0 σ0 σm [Ch.ro 0 (Sl ah_0_0 h_0.1 ch_0_0) h_0.1, Ch.ro 0 (Sl ah_0_1 h_0.2 ch_0_1) h_0.2, Ch.bx n0 b1 0 [(Sl ah_0_0 h_0.1 ch_0_0), (Sl ah_0_1 h_0.2 ch_0_1)] [] [], Ch.bx n0 b3 0 [(.slice none 0 0), (.slice none 0 0)] [] []] ∧ Md (cov []) σ16 σm, fun _ => fun σm => Hp S0 σ0 σm [Ch.ro 0 (Sl ah_0_0 h_0.1 ch_0_0) h_0.1, Ch.ro 0 (Sl ah_0_1 h_0.2 ch_0_1) h_0.2, Ch.bx n0 b1 0 [(Sl ah_0_0 h_0.1 ch_0_0), (Sl ah_0_1 h_0.2 ch_0_1)] [] [], Ch.bx n0 b3 0 [(.slice none 0 0), (.slice none 0 0)] [] []] ∧ Md (cov []) σ16 σm] [fun _ => (.agg #[(Sl ah_0_0 h_0.1 ch_0_0), (Sl ah_0_1 h_0.2 ch_0_1)]), fun _ => (.agg #[(Sl ah_0_0 h_0.1 ch_0_0), (Sl ah_0_1 h_0.2 ch_0_1)]), fun _ => (I t_1), fun _ => (I r21)] () (by kernel_rfl) (by kernel_rfl) ?_ ?_ ?_
   ·intro σm m0
    exact ⟨H.grow (m0.mono fun _ h => h.elim), m0⟩
   ·refine all_cons (by
      refine ⟨?_, ?_⟩
      ·intro _nm ρ σm hJ hoff hdep
       have e2 := look_off (N := 20) (hoff 2 rfl) rfl
       obtain ⟨H, m⟩ := id hJ
       have hc19 := H.cells 2 rfl
       exact dp_v (v := (.agg #[(Sl ah_0_0 h_0.1 ch_0_0), (Sl ah_0_1 h_0.2 ch_0_1)])) wn (rv_load (cs := [(Sl ah_0_0 h_0.1 ch_0_0), (Sl ah_0_1 h_0.2 ch_0_1)]) Try.underlying26 rfl ti26 e2 rfl hc19) rfl hJ
      refine ⟨?_, ?_⟩
      ·intro _nm ρ σm hJ hoff hdep
       have e2 := look_off (N := 20) (hoff 2 rfl) rfl
       obtain ⟨H, m⟩ := id hJ
       have hc19 := H.cells 2 rfl
       exact dp_v (v := (.agg #[(Sl ah_0_0 h_0.1 ch_0_0), (Sl ah_0_1 h_0.2 ch_0_1)])) wn (rv_load (cs := [(Sl ah_0_0 h_0.1 ch_0_0), (Sl ah_0_1 h_0.2 ch_0_1)]) Try.underlying26 rfl ti26 e2 rfl hc19) rfl hJ
      trivial) ?_
    refine all_cons (by
      refine ⟨?_, ?_⟩
      ·intro _nm ρ σm hJ hoff hdep
       have e2 := look_off (N := 20) (hoff 2 rfl) rfl
       obtain ⟨H, m⟩ := id hJ
       have hc20 := H.cells 2 rfl
       exact dp_v (v := (.agg #[(Sl ah_0_0 h_0.1 ch_0_0), (Sl ah_0_1 h_0.2 ch_0_1)])) wn (rv_load (cs := [(Sl ah_0_0 h_0.1 ch_0_0), (Sl ah_0_1 h_0.2 ch_0_1)]) Try.underlying26 rfl ti26 e2 rfl hc20) rfl hJ
      trivial) ?_
    refine ac rfl (by
      intro k _nm ρ σm hJ hoff hdep
      have e1 := look_off (N := 20) (hoff 1 rfl) rfl
      exact dp_v (v := (I t_1)) wn (rv_move e1) rfl hJ) ?_
    refine all_cons (by
      refine ⟨?_, ?_⟩
      ·intro _nm ρ σm hJ hoff hdep
       have e16 : look 20 ρ 16 = (.agg #[(Sl ah_0_0 h_0.1 ch_0_0), (Sl ah_0_1 h_0.2 ch_0_1)]) := hdep 1 rfl rfl 16 rfl
       have e17 : look 20 ρ 17 = (I t_1) := hdep 2 rfl rfl 17 rfl
       obtain ⟨H, m⟩ := id hJ
       refine dp_cx wn (cx_call hc23 (ent_f hc23.fn (by show [look 20 ρ 16, look 20 ρ 17] = _; rw [e16, e17])) hn0 (show Hp S0 σ0 _ ([Ch.ro 0 (Sl ah_0_0 h_0.1 ch_0_0) h_0.1, Ch.ro 0 (Sl ah_0_1 h_0.2 ch_0_1) h_0.2] ++ [Ch.ro 0 (Sl ah_0_0 h_0.1 ch_0_0) h_0.1, Ch.ro 0 (Sl ah_0_1 h_0.2 ch_0_1) h_0.2, Ch.bx n0 b1 0 [(Sl ah_0_0 h_0.1 ch_0_0), (Sl ah_0_1 h_0.2 ch_0_1)] [] [], Ch.bx n0 b3 0 [(.slice none 0 0), (.slice none 0 0)] [] []]) from (H.sel' [0, 1, 0, 1, 2, 3] rfl rfl))) ?_
       rintro _ σq ⟨_, ⟨rfl, rfl⟩, H2, m2⟩
       exact ⟨_, (), rfl, rfl, ⟨H2.sel' [0, 1, 2, 3] rfl rfl, m.comp0 (m2.mono (fun i h => by simp [cov, Ch.ro] at h))⟩, stab [0, 1, 2] (by kernel_rfl) ⟨rfl, rfl, rfl, trivial⟩⟩
      trivial) ?_
    exact all_nil
   ·intro _nm ρ σ24 hJ hoff hrel
    have e4 := look_off (N := 20) (hoff 4 rfl) rfl
    have e15 := hrel 0 rfl 15 rfl
    have e18 := hrel 3 rfl 18 rfl
    obtain ⟨H, -⟩ := (show Hp S0 σ0 σ24 [Ch.ro 0 (Sl ah_0_0 h_0.1 ch_0_0) h_0.1, Ch.ro 0 (Sl ah_0_1 h_0.2 ch_0_1) h_0.2, Ch.bx n0 b1 0 [(Sl ah_0_0 h_0.1 ch_0_0), (Sl ah_0_1 h_0.2 ch_0_1)] [] [], Ch.bx n0 b3 0 [(.slice none 0 0), (.slice none 0 0)] [] []] ∧ Md (cov []) σ16 σ24 from hJ)
    clear hJ Hs
    rw [fr_lookL (L := [(4, (pt b3 0)), (15, (.agg #[(Sl ah_0_0 h_0.1 ch_0_0), (Sl ah_0_1 h_0.2 ch_0_1)])), (18, (I r21))]) ⟨e4, e15, e18, trivial⟩]
    clear hoff hrel e4 e15 e18
    obtain ⟨r25, hx26, h'⟩ := bind_some h
    clear h
    have h := h'; clear h'
    have hc27 := c_impl_History_firstEntries (ah_0_0 := ah_0_0) (ch_0_0 := ch_0_0) (ah_0_1 := ah_0_1) (ch_0_1 := ch_0_1) hx26
    refine st_call (cx_call hc27 (ent_f hc27.fn rfl) hn0 (show Hp S0 σ0 _ ([Ch.ro 0 (Sl ah_0_0 h_0.1 ch_0_0) h_0.1, Ch.ro 0 (Sl ah_0_1 h_0.2 ch_0_1) h_0.2] ++ [Ch.ro 0 (Sl ah_0_0 h_0.1 ch_0_0) h_0.1, Ch.ro 0 (Sl ah_0_1 h_0.2 ch_0_1) h_0.2, Ch.bx n0 b1 0 [(Sl ah_0_0 h_0.1 ch_0_0), (Sl ah_0_1 h_0.2 ch_0_1)] [] [], Ch.bx n0 b3 0 [(.slice none 0 0), (.slice none 0 0)] [] []]) from (H.sel' [0, 1, 0, 1, 2, 3] rfl rfl))) wn ?_
    rintro _ σ33 ⟨_, ⟨a28, c29, a31, c32, rfl, rfl, ht30⟩, H, -⟩
    replace H : Hp S0 σ0 σ33 [Ch.own n0 n0 (Sl a28 r25.1 c29) r25.1, Ch.own n0 n0 (Sl a31 r25.2 c32) r25.2, Ch.ro 0 (Sl ah_0_0 h_0.1 ch_0_0) h_0.1, Ch.ro 0 (Sl ah_0_1 h_0.2 ch_0_1) h_0.2, Ch.bx n0 b1 0 [(Sl ah_0_0 h_0.1 ch_0_0), (Sl ah_0_1 h_0.2 ch_0_1)] [] [], Ch.bx n0 b3 0 [(.slice none 0 0), (.slice none 0 0)] [] []] := H
    refine st_exS (ex_store_box (k := 0) (cs := [(.slice none 0 0), (.slice none 0 0)]) (vs := [(Sl a28 r25.1 c29), (Sl a31 r25.2 c32)]) (cs' := [(Sl a28 r25.1 c29), (Sl a31 r25.2 c32)]) H (i := 5) rfl ti26 rfl rfl rfl rfl rfl (Nat.le_of_ble_eq_true rfl) (by simp [plain]) rfl) wn ?_
    rintro σ34 ⟨H, -⟩
    refine st (v := (B true)) (rv_assign rfl) ?_
    refine w_end ?_
    refine q_then ?_
    refine c_ret ?_
    obtain rfl := Option.some.inj h
    exact fin_ret (v := (.tuple #[(.agg #[(Sl a28 r25.1 c29), (Sl a31 r25.2 c32)]), (B true)])) (results_ok Try.results32 (res_cell rfl (run_cellRes (cs := [(Sl a28 r25.1 c29), (Sl a31 r25.2 c32)]) Try.underlying26 rfl ti26 rfl (H.cells 0 rfl)) (res_tmp (v := (B true)) rfl res_nil)) rfl) ⟨a28, c29, a31, c32, rfl, rfl, ht30⟩ (H.sel' [1, 2] rfl rfl)

theorem c_spec_reader_pick {r_0 : (List UInt8) × Int} {n_1 : Int} {ar_0_0 : Option Addr} {cr_0_0 : Nat} {lor_0 br_0 or_0 : Nat} {prer_0 sufr_0 : List Value} {r : Int × ((List UInt8) × Int)} (h : M.spec_reader_pick r_0 n_1 = some r) :
    Cal2 Try.prog 73 [(pt br_0 or_0), (I n_1)] [Ch.bx lor_0 br_0 or_0 [(Sl ar_0_0 r_0.1 cr_0_0), (I r_0.2)] prer_0 sufr_0, Ch.ro 0 (Sl ar_0_0 r_0.1 cr_0_0) r_0.1] (fun n0 v L => ∃ (az1 : Option Addr), ∃ (cz2 : Nat), v = (I r.1) ∧ L = [Ch.bx lor_0 br_0 or_0 [(Sl az1 r.2.1 cz2), (I r.2.2)] prer_0 sufr_0, Ch.ro 0 (Sl az1 r.2.1 cz2) r.2.1]) := by
 refine cal2 (n := 99) Try.func73 rfl rfl rfl rfl ?_
 intro S0 σ0 n0 hn0 H
 unfold M.spec_reader_pick at h
 refine c_seq ?_
 refine rg ?_
 refine st (v := (I 0)) (rv_assign rfl) ?_
 refine w_end ?_
 refine q_then ?_
 refine c_seq ?_
 refine rg ?_
 refine st (v := (pt br_0 or_0)) (rv_move rfl) ?_
 refine st (v := (pt br_0 or_0)) (rv_move rfl) ?_
 refine st (v := (pt br_0 or_0)) (rv_nilCheck rfl) ?_
 refine st (v := (pt br_0 (or_0 + 1))) (rv_fieldAddr (off := 1) (ft := 3) Try.underlying101 rfl ti3 rfl rfl) ?_
 have hc1 := H.cell (u := (I r_0.2)) (o' := (or_0 + 1)) 0 1 rfl rfl rfl
 refine st (v := (I r_0.2)) (rv_load1 Try.underlying3 rfl rfl hc1) ?_
 refine st (v := (I (w64 (r_0.2 + 1)))) (rv_add (a := r_0.2) (b := 1) rfl rfl) ?_
 refine st (v := (pt br_0 or_0)) (rv_nilCheck rfl) ?_
 refine st (v := (pt br_0 (or_0 + 1))) (rv_fieldAddr (off := 1) (ft := 3) Try.underlying101 rfl ti3 rfl rfl) ?_
 refine st_exS (ex_store_box (k := 1) (cs := [(Sl ar_0_0 r_0.1 cr_0_0), (I r_0.2)]) (vs := [(I (w64 (r_0.2 + 1)))]) (cs' := [(Sl ar_0_0 r_0.1 cr_0_0), (I (w64 (r_0.2 + 1)))]) H (i := 0) rfl ti3 rfl rfl rfl rfl rfl (Nat.le_of_ble_eq_true rfl) (by simp [plain]) rfl) wn ?_
 rintro σ2 ⟨H, -⟩
 refine w_end ?_
 refine q_then ?_
 refine c_seq ?_
 refine c_seq ?_
 obtain ⟨o3, hj, h'⟩ := bind_some h
 clear h
 refine c_cut (fun e a w => e = .normal ∧ ∃ (ρ : Nat → Value) (σ : St), a = fr 99 (updL ρ [(0, (pt br_0 or_0)), (1, (I n_1)), (24, (B o3))]) ∧ w = σ.w ∧ Hp S0 σ0 σ [Ch.ro 0 (Sl ar_0_0 r_0.1 cr_0_0) r_0.1, Ch.bx lor_0 br_0 or_0 [(Sl ar_0_0 r_0.1 cr_0_0), (I (w64 (r_0.2 + 1)))] prer_0 sufr_0]) ?_ ?_
 ·clear h'
  rename _ = some o3 => h
  refine rg ?_
  refine st (v := (I n_1)) (rv_move rfl) ?_
  refine st (v := (B (decide (n_1 < 1)))) (rv_lss (a := n_1) (b := 1) rfl rfl) ?_
  refine st (v := (B (decide (n_1 < 1)))) (rv_move rfl) ?_
  rcases Bool.eq_false_or_eq_true (decide (n_1 < 1)) with hb4 | hb4
  ·replace h := bif_t hb4 h
   refine st_skip (congrArg some hb4) ?_
   refine st_skip (congrArg some hb4) ?_
   refine st_skip (congrArg some hb4) ?_
   refine st_skip (congrArg some hb4) ?_
   refine st_skip (congrArg some hb4) ?_
   refine st_skip (congrArg some hb4) ?_
   refine st (v := (B true)) (rv_pick_t (congrArg B hb4) rfl) ?_
   refine w_end ?_
   obtain rfl := Option.some.inj h
   exact ⟨rfl, _, σ2, fr_join ⟨rfl, rfl, rfl, trivial⟩, rfl, H.sel' [1, 0] rfl rfl⟩
  ·replace h := bif_f hb4 h
   refine st_g (v := (pt br_0 or_0)) (congrArg some hb4) (rv_move rfl) ?_
   refine st_g (v := (pt br_0 or_0)) (congrArg some hb4) (rv_nilCheck rfl) ?_
   refine st_g (v := (pt br_0 or_0)) (congrArg some hb4) (rv_fieldAddr (off := 0) (ft := 22) Try.underlying101 rfl ti22 rfl rfl) ?_
   have hc5 := H.cell (u := (Sl ar_0_0 r_0.1 cr_0_0)) (o' := or_0) 0 0 rfl rfl rfl
   refine st_g (v := (Sl ar_0_0 r_0.1 cr_0_0)) (congrArg some hb4) (rv_load1 Try.underlying22 rfl rfl hc5) ?_
   refine st_g (v := (I (r_0.1.length : Int))) (congrArg some hb4) (rv_len Try.underlying22 rfl) ?_
   refine st_g (v := (B ((r_0.1.length : Int) == 0))) (congrArg some hb4) (rv_eql (a := (r_0.1.length : Int)) (b := 0) rfl rfl) ?_
   refine st (v := (B ((r_0.1.length : Int) == 0))) (rv_pick_f (congrArg B hb4) rfl) ?_
   refine w_end ?_
   obtain rfl := Option.some.inj h
   exact ⟨rfl, _, σ2, fr_join ⟨rfl, rfl, rfl, trivial⟩, rfl, H.sel' [1, 0] rfl rfl⟩
 ·clear hj
  have h := h'
  clear h' H
  rintro e a w ⟨rfl, ρ, σ6, rfl, rfl, H⟩
  refine q_then ?_
  refine cd_cond o3 rfl (fun hb7 => ?_) (fun hb7 => ?_)
  ·replace h := bif_t hb7 h
   refine c_seq ?_
   refine rg ?_
   refine st (v := (I 0)) (rv_assign rfl) ?_
   refine w_end ?_
   refine q_then ?_
   refine c_ret ?_
   refine q_then_r ?_
   obtain rfl := Option.some.inj h
   exact fin_ret (v := (I 0)) (results_ok Try.results73 (res_tmp (v := (I 0)) rfl res_nil) rfl) ⟨ar_0_0, cr_0_0, rfl, rfl⟩ (H.sel' [1, 0] rfl rfl)
  ·replace h := bif_f hb7 h
   refine c_skip ?_
   refine q_then ?_
   refine c_seq ?_
   refine rg ?_
   refine st (v := (pt br_0 or_0)) (rv_move rfl) ?_
   refine st (v := (pt br_0 or_0)) (rv_nilCheck rfl) ?_
   refine st (v := (pt br_0 (or_0 + 1))) (rv_fieldAddr (off := 1) (ft := 3) Try.underlying101 rfl ti3 rfl rfl) ?_
   have hc8 := H.cell (u := (I (w64 (r_0.2 + 1)))) (o' := (or_0 + 1)) 1 1 rfl rfl rfl
   refine st (v := (I (w64 (r_0.2 + 1)))) (rv_load1 Try.underlying3 rfl rfl hc8) ?_
   refine st (v := (I (w64 ((w64 (r_0.2 + 1)) - 1)))) (rv_sub (a := (w64 (r_0.2 + 1))) (b := 1) rfl rfl) ?_
   refine st (v := (I (w64 ((w64 (r_0.2 + 1)) - 1)))) (rv_assign rfl) ?_
   refine w_end ?_
   refine q_then ?_
   refine c_seq ?_
   refine c_seq ?_
   refine rg ?_
   refine st (v := (I (w64 ((w64 (r_0.2 + 1)) - 1)))) (rv_move rfl) ?_
   refine st (v := (pt br_0 or_0)) (rv_move rfl) ?_
   refine st (v := (pt br_0 or_0)) (rv_nilCheck rfl) ?_
   refine st (v := (pt br_0 or_0)) (rv_fieldAddr (off := 0) (ft := 22) Try.underlying101 rfl ti22 rfl rfl) ?_
   have hc9 := H.cell (u := (Sl ar_0_0 r_0.1 cr_0_0)) (o' := or_0) 1 0 rfl rfl rfl
   refine st (v := (Sl ar_0_0 r_0.1 cr_0_0)) (rv_load1 Try.underlying22 rfl rfl hc9) ?_
   refine st (v := (I (r_0.1.length : Int))) (rv_len Try.underlying22 rfl) ?_
   refine st (v := (B (decide ((w64 ((w64 (r_0.2 + 1)) - 1)) < (r_0.1.length : Int))))) (rv_lss (a := (w64 ((w64 (r_0.2 + 1)) - 1))) (b := (r_0.1.length : Int)) rfl rfl) ?_
   refine w_end ?_
   refine q_then ?_
   refine cd_cond (decide ((w64 ((w64 (r_0.2 + 1)) - 1)) < (r_0.1.length : Int))) rfl (fun hb10 => ?_) (fun hb10 => ?_)
   ·replace h := bif_t hb10 h
    refine c_seq ?_
    refine rg ?_
    refine st (v := (pt br_0 or_0)) (rv_move rfl) ?_
    refine st (v := (pt br_0 or_0)) (rv_nilCheck rfl) ?_
    refine st (v := (pt br_0 or_0)) (rv_fieldAddr (off := 0) (ft := 22) Try.underlying101 rfl ti22 rfl rfl) ?_
    have hc11 := H.cell (u := (Sl ar_0_0 r_0.1 cr_0_0)) (o' := or_0) 1 0 rfl rfl rfl
    refine st (v := (Sl ar_0_0 r_0.1 cr_0_0)) (rv_load1 Try.underlying22 rfl rfl hc11) ?_
    refine st (v := (I (w64 ((w64 (r_0.2 + 1)) - 1)))) (rv_move rfl) ?_
    obtain ⟨x12, hx13, h'⟩ := bind_some h
    clear h
    have h := h'; clear h'
    obtain ⟨b15, o16, hi14, -⟩ := (H.ro 0 rfl).ix hx13
    refine st (v := (pt b15 o16)) (rv_ix Try.underlying22 ti5 rfl rfl hi14) ?_
    have hc17 := ((H.ro 0 rfl).at hx13 hi14).byte
    refine st (v := (.int .u8 (x12.toNat : Int))) (rv_load1 Try.underlying5 rfl rfl hc17) ?_
    refine st (v := (I (w64 (x12.toNat : Int)))) (rv_conv Try.underlying5 Try.underlying3 rfl) ?_
    refine st (v := (I n_1)) (rv_move rfl) ?_
    obtain ⟨q18, hx19, h'⟩ := bind_some h
    clear h
    have h := h'; clear h'
    refine st (v := (I q18)) (rv_remG (a := (w64 (x12.toNat : Int))) (b := n_1) hx19 rfl rfl) ?_
    refine st (v := (I q18)) (rv_assign rfl) ?_
    refine w_end ?_
    refine q_then ?_
    refine c_ret ?_
    refine q_then_r ?_
    obtain rfl := Option.some.inj h
    exact fin_ret (v := (I q18)) (results_ok Try.results73 (res_tmp (v := (I q18)) rfl res_nil) rfl) ⟨ar_0_0, cr_0_0, rfl, rfl⟩ (H.sel' [1, 0] rfl rfl)
   ·replace h := bif_f hb10 h
    refine c_skip ?_
    refine q_then ?_
    refine c_seq ?_
    refine rgP (σ := σ6) 44 (by kernel_rfl) (by kernel_rfl) (by kernel_rfl) ?_
    refine sq (v := (pt br_0 or_0)) (rv_move rfl) ?_
    refine sq (v := (pt br_0 or_0)) (rv_nilCheck rfl) ?_
    refine sq (v := (pt br_0 or_0)) (rv_fieldAddr (off := 0) (ft := 22) Try.underlying101 rfl ti22 rfl rfl) ?_
    have hc20 := H.cell (u := (Sl ar_0_0 r_0.1 cr_0_0)) (o' := or_0) 1 0 rfl rfl rfl
    refine sq (v := (Sl ar_0_0 r_0.1 cr_0_0)) (rv_load1 Try.underlying22 rfl rfl hc20) ?_
    refine sq (v := (I (w64 ((w64 (r_0.2 + 1)) - 1)))) (rv_move rfl) ?_
    refine sq (v := (pt br_0 or_0)) (rv_move rfl) ?_
    refine sq (v := (pt br_0 or_0)) (rv_nilCheck rfl) ?_
    refine sq (v := (pt br_0 or_0)) (rv_fieldAddr (off := 0) (ft := 22) Try.underlying101 rfl ti22 rfl rfl) ?_
    have hc21 := H.cell (u := (Sl ar_0_0 r_0.1 cr_0_0)) (o' := or_0) 1 0 rfl rfl rfl
    refine sq (v := (Sl ar_0_0 r_0.1 cr_0_0)) (rv_load1 Try.underlying22 rfl rfl hc21) ?_
    refine sq (v := (I (r_0.1.length : Int))) (rv_len Try.underlying22 rfl) ?_
    obtain ⟨q22, hx23, h'⟩ := bind_some h
    clear h
    have h := h'; clear h'
    refine sq (v := (I q22)) (rv_remG (a := (w64 ((w64 (r_0.2 + 1)) - 1))) (b := (r_0.1.length : Int)) hx23 rfl rfl) ?_
    obtain ⟨x24, hx25, h'⟩ := bind_some h
    clear h
    have h := h'; clear h'
    obtain ⟨b27, o28, hi26, -⟩ := (H.ro 0 rfl).ix hx25
    refine sq (v := (pt b27 o28)) (rv_ix Try.underlying22 ti5 rfl rfl hi26) ?_
    have hc29 := ((H.ro 0 rfl).at hx25 hi26).byte
    refine sq (v := (.int .u8 (x24.toNat : Int))) (rv_load1 Try.underlying5 rfl rfl hc29) ?_
    refine sq (v := (I (w64 (x24.toNat : Int)))) (rv_conv Try.underlying5 Try.underlying3 rfl) ?_
    refine sq (v := (I (w64 ((w64 (x24.toNat : Int)) * 131)))) (rv_mul (a := (w64 (x24.toNat : Int))) (b := 131) rfl rfl) ?_
    refine sq (v := (pt br_0 or_0)) (rv_move rfl) ?_
    refine sq (v := (pt br_0 or_0)) (rv_nilCheck rfl) ?_
    refine sq (v := (pt br_0 or_0)) (rv_fieldAddr (off := 0) (ft := 22) Try.underlying101 rfl ti22 rfl rfl) ?_
    have hc30 := H.cell (u := (Sl ar_0_0 r_0.1 cr_0_0)) (o' := or_0) 1 0 rfl rfl rfl
    refine sq (v := (Sl ar_0_0 r_0.1 cr_0_0)) (rv_load1 Try.underlying22 rfl rfl hc30) ?_
    refine sq (v := (I (w64 ((w64 (r_0.2 + 1)) - 1)))) (rv_move rfl) ?_
    refine sq (v := (I (w64 ((w64 ((w64 (r_0.2 + 1)) - 1)) * 7)))) (rv_mul (a := (w64 ((w64 (r_0.2 + 1)) - 1))) (b := 7) rfl rfl) ?_
    refine sq (v := (I (w64 ((w64 ((w64 ((w64 (r_0.2 + 1)) - 1)) * 7)) + 3)))) (rv_add (a := (w64 ((w64 ((w64 (r_0.2 + 1)) - 1)) * 7))) (b := 3) rfl rfl) ?_
    refine sq (v := (pt br_0 or_0)) (rv_move rfl) ?_
    refine sq (v := (pt br_0 or_0)) (rv_nilCheck rfl) ?_
    refine sq (v := (pt br_0 or_0)) (rv_fieldAddr (off := 0) (ft := 22) Try.underlying101 rfl ti22 rfl rfl) ?_
    have hc31 := H.cell (u := (Sl ar_0_0 r_0.1 cr_0_0)) (o' := or_0) 1 0 rfl rfl rfl
    refine sq (v := (Sl ar_0_0 r_0.1 cr_0_0)) (rv_load1 Try.underlying22 rfl rfl hc31) ?_
    refine sq (v := (I (r_0.1.length : Int))) (rv_len Try.underlying22 rfl) ?_
    obtain ⟨q32, hx33, h'⟩ := bind_some h
    clear h
    have h := h'; clear h'
    refine sq (v := (I q32)) (rv_remG (a := (w64 ((w64 ((w64 ((w64 (r_0.2 + 1)) - 1)) * 7)) + 3))) (b := (r_0.1.length : Int)) hx33 rfl rfl) ?_
    obtain ⟨x34, hx35, h'⟩ := bind_some h
    clear h
    have h := h'; clear h'
    obtain ⟨b37, o38, hi36, -⟩ := (H.ro 0 rfl).ix hx35
    refine sq (v := (pt b37 o38)) (rv_ix Try.underlying22 ti5 rfl rfl hi36) ?_
    have hc39 := ((H.ro 0 rfl).at hx35 hi36).byte
    refine sq (v := (.int .u8 (x34.toNat : Int))) (rv_load1 Try.underlying5 rfl rfl hc39) ?_
    refine sq (v := (I (w64 (x34.toNat : Int)))) (rv_conv Try.underlying5 Try.underlying3 rfl) ?_
    refine sq (v := (I (w64 ((w64 (x34.toNat : Int)) * 1117)))) (rv_mul (a := (w64 (x34.toNat : Int))) (b := 1117) rfl rfl) ?_
    refine sq (v := (I (w64 ((w64 ((w64 (x24.toNat : Int)) * 131)) + (w64 ((w64 (x34.toNat : Int)) * 1117)))))) (rv_add (a := (w64 ((w64 (x24.toNat : Int)) * 131))) (b := (w64 ((w64 (x34.toNat : Int)) * 1117))) rfl rfl) ?_
    refine sq (v := (I (w64 ((w64 (r_0.2 + 1)) - 1)))) (rv_move rfl) ?_
    refine sq (v := (I (w64 ((w64 ((w64 (r_0.2 + 1)) - 1)) * 29)))) (rv_mul (a := (w64 ((w64 (r_0.2 + 1)) - 1))) (b := 29) rfl rfl) ?_
    refine sq (v := (I (w64 ((w64 ((w64 ((w64 (x24.toNat : Int)) * 131)) + (w64 ((w64 (x34.toNat : Int)) * 1117)))) + (w64 ((w64 ((w64 (r_0.2 + 1)) - 1)) * 29)))))) (rv_add (a := (w64 ((w64 ((w64 (x24.toNat : Int)) * 131)) + (w64 ((w64 (x34.toNat : Int)) * 1117))))) (b := (w64 ((w64 ((w64 (r_0.2 + 1)) - 1)) * 29))) rfl rfl) ?_
    refine sq (v := (I (w64 ((w64 (r_0.2 + 1)) - 1)))) (rv_move rfl) ?_
    refine sq (v := (pt br_0 or_0)) (rv_move rfl) ?_
    refine sq (v := (pt br_0 or_0)) (rv_nilCheck rfl) ?_
    refine sq (v := (pt br_0 or_0)) (rv_fieldAddr (off := 0) (ft := 22) Try.underlying101 rfl ti22 rfl rfl) ?_
    have hc40 := H.cell (u := (Sl ar_0_0 r_0.1 cr_0_0)) (o' := or_0) 1 0 rfl rfl rfl
    refine sq (v := (Sl ar_0_0 r_0.1 cr_0_0)) (rv_load1 Try.underlying22 rfl rfl hc40) ?_
    refine sq (v := (I (r_0.1.length : Int))) (rv_len Try.underlying22 rfl) ?_
    obtain ⟨q41, hx42, h'⟩ := bind_some h
    clear h
    have h := h'; clear h'
    refine sq (v := (I q41)) (rv_quoG (a := (w64 ((w64 (r_0.2 + 1)) - 1))) (b := (r_0.1.length : Int)) hx42 rfl rfl) ?_
    refine sq (v := (I (w64 (q41 * 53)))) (rv_mul (a := q41) (b := 53) rfl rfl) ?_
    refine sq_end ?_
    intro σ43 hm44
    replace H := H.grow (hm44.mono fun _ h => h); clear hm44
    refine st (v := (I (w64 ((w64 ((w64 ((w64 ((w64 (x24.toNat : Int)) * 131)) + (w64 ((w64 (x34.toNat : Int)) * 1117)))) + (w64 ((w64 ((w64 (r_0.2 + 1)) - 1)) * 29)))) + (w64 (q41 * 53)))))) (rv_add (a := (w64 ((w64 ((w64 ((w64 (x24.toNat : Int)) * 131)) + (w64 ((w64 (x34.toNat : Int)) * 1117)))) + (w64 ((w64 ((w64 (r_0.2 + 1)) - 1)) * 29))))) (b := (w64 (q41 * 53))) rfl rfl) ?_
    refine st (v := (I (w64 ((w64 ((w64 ((w64 ((w64 (x24.toNat : Int)) * 131)) + (w64 ((w64 (x34.toNat : Int)) * 1117)))) + (w64 ((w64 ((w64 (r_0.2 + 1)) - 1)) * 29)))) + (w64 (q41 * 53)))))) (rv_assign rfl) ?_
    refine w_end ?_
    refine q_then ?_
    refine c_seq ?_
    refine rg ?_
    refine st (v := (I (w64 ((w64 ((w64 ((w64 ((w64 (x24.toNat : Int)) * 131)) + (w64 ((w64 (x34.toNat : Int)) * 1117)))) + (w64 ((w64 ((w64 (r_0.2 + 1)) - 1)) * 29)))) + (w64 (q41 * 53)))))) (rv_move rfl) ?_
    refine st (v := (I (w64 ((w64 ((w64 ((w64 ((w64 (x24.toNat : Int)) * 131)) + (w64 ((w64 (x34.toNat : Int)) * 1117)))) + (w64 ((w64 ((w64 (r_0.2 + 1)) - 1)) * 29)))) + (w64 (q41 * 53)))))) (rv_move rfl) ?_
    refine st (v := (I (w64 ((w64 ((w64 ((w64 ((w64 ((w64 (x24.toNat : Int)) * 131)) + (w64 ((w64 (x34.toNat : Int)) * 1117)))) + (w64 ((w64 ((w64 (r_0.2 + 1)) - 1)) * 29)))) + (w64 (q41 * 53)))).tdiv 64)))) (rv_quo (a := (w64 ((w64 ((w64 ((w64 ((w64 (x24.toNat : Int)) * 131)) + (w64 ((w64 (x34.toNat : Int)) * 1117)))) + (w64 ((w64 ((w64 (r_0.2 + 1)) - 1)) * 29)))) + (w64 (q41 * 53))))) (b := 64) rfl rfl (by decide)) ?_
    refine st (v := (I (gxor (w64 ((w64 ((w64 ((w64 ((w64 (x24.toNat : Int)) * 131)) + (w64 ((w64 (x34.toNat : Int)) * 1117)))) + (w64 ((w64 ((w64 (r_0.2 + 1)) - 1)) * 29)))) + (w64 (q41 * 53)))) (w64 ((w64 ((w64 ((w64 ((w64 ((w64 (x24.toNat : Int)) * 131)) + (w64 ((w64 (x34.toNat : Int)) * 1117)))) + (w64 ((w64 ((w64 (r_0.2 + 1)) - 1)) * 29)))) + (w64 (q41 * 53)))).tdiv 64))))) (rv_xor (a := (w64 ((w64 ((w64 ((w64 ((w64 (x24.toNat : Int)) * 131)) + (w64 ((w64 (x34.toNat : Int)) * 1117)))) + (w64 ((w64 ((w64 (r_0.2 + 1)) - 1)) * 29)))) + (w64 (q41 * 53))))) (b := (w64 ((w64 ((w64 ((w64 ((w64 ((w64 (x24.toNat : Int)) * 131)) + (w64 ((w64 (x34.toNat : Int)) * 1117)))) + (w64 ((w64 ((w64 (r_0.2 + 1)) - 1)) * 29)))) + (w64 (q41 * 53)))).tdiv 64))) rfl rfl) ?_
    refine st (v := (I (gxor (w64 ((w64 ((w64 ((w64 ((w64 (x24.toNat : Int)) * 131)) + (w64 ((w64 (x34.toNat : Int)) * 1117)))) + (w64 ((w64 ((w64 (r_0.2 + 1)) - 1)) * 29)))) + (w64 (q41 * 53)))) (w64 ((w64 ((w64 ((w64 ((w64 ((w64 (x24.toNat : Int)) * 131)) + (w64 ((w64 (x34.toNat : Int)) * 1117)))) + (w64 ((w64 ((w64 (r_0.2 + 1)) - 1)) * 29)))) + (w64 (q41 * 53)))).tdiv 64))))) (rv_assign rfl) ?_
    refine w_end ?_
    refine q_then ?_
    refine c_seq ?_
    refine rg ?_
    refine st (v := (I (gxor (w64 ((w64 ((w64 ((w64 ((w64 (x24.toNat : Int)) * 131)) + (w64 ((w64 (x34.toNat : Int)) * 1117)))) + (w64 ((w64 ((w64 (r_0.2 + 1)) - 1)) * 29)))) + (w64 (q41 * 53)))) (w64 ((w64 ((w64 ((w64 ((w64 ((w64 (x24.toNat : Int)) * 131)) + (w64 ((w64 (x34.toNat : Int)) * 1117)))) + (w64 ((w64 ((w64 (r_0.2 + 1)) - 1)) * 29)))) + (w64 (q41 * 53)))).tdiv 64))))) (rv_move rfl) ?_
    refine st (v := (I n_1)) (rv_move rfl) ?_
    obtain ⟨q45, hx46, h'⟩ := bind_some h
    clear h
    have h := h'; clear h'
    refine st (v := (I q45)) (rv_remG (a := (gxor (w64 ((w64 ((w64 ((w64 ((w64 (x24.toNat : Int)) * 131)) + (w64 ((w64 (x34.toNat : Int)) * 1117)))) + (w64 ((w64 ((w64 (r_0.2 + 1)) - 1)) * 29)))) + (w64 (q41 * 53)))) (w64 ((w64 ((w64 ((w64 ((w64 ((w64 (x24.toNat : Int)) * 131)) + (w64 ((w64 (x34.toNat : Int)) * 1117)))) + (w64 ((w64 ((w64 (r_0.2 + 1)) - 1)) * 29)))) + (w64 (q41 * 53)))).tdiv 64)))) (b := n_1) hx46 rfl rfl) ?_
    refine st (v := (I q45)) (rv_assign rfl) ?_
    refine w_end ?_
    refine q_then ?_
    refine c_ret ?_
    obtain rfl := Option.some.inj h
    exact fin_ret (v := (I q45)) (results_ok Try.results73 (res_tmp (v := (I q45)) rfl res_nil) rfl) ⟨ar_0_0, cr_0_0, rfl, rfl⟩ (H.sel' [1, 0] rfl rfl)

theorem c_spec_reader_one {r_0 : (List UInt8) × Int} {list_1 : List Int} {ar_0_0 : Option Addr} {cr_0_0 : Nat} {lor_0 br_0 or_0 : Nat} {prer_0 sufr_0 : List Value} {alist_1 : Option Addr} {clist_1 : Nat} {r : Int × ((List UInt8) × Int)} (h : M.spec_reader_one r_0 list_1 = some r) :
    Cal2 Try.prog 55 [(pt br_0 or_0), (Sl alist_1 list_1 clist_1)] [Ch.bx lor_0 br_0 or_0 [(Sl ar_0_0 r_0.1 cr_0_0), (I r_0.2)] prer_0 sufr_0, Ch.ro 0 (Sl ar_0_0 r_0.1 cr_0_0) r_0.1, Ch.ro 0 (Sl alist_1 list_1 clist_1) list_1] (fun n0 v L => ∃ (az1 : Option Addr), ∃ (cz2 : Nat), v = (I r.1) ∧ L = [Ch.bx lor_0 br_0 or_0 [(Sl az1 r.2.1 cz2), (I r.2.2)] prer_0 sufr_0, Ch.ro 0 (Sl az1 r.2.1 cz2) r.2.1]) := by
 refine cal2 (n := 12) Try.func55 rfl rfl rfl rfl ?_
 intro S0 σ0 n0 hn0 H
 unfold M.spec_reader_one at h
 refine c_seq ?_
 refine rg ?_
 refine st (v := (I 0)) (rv_assign rfl) ?_
 refine w_end ?_
 refine q_then ?_
 refine c_seq ?_
 refine rg ?_
 refine st (v := (Sl alist_1 list_1 clist_1)) (rv_move rfl) ?_
 refine st (v := (pt br_0 or_0)) (rv_move rfl) ?_
 refine st (v := (Sl alist_1 list_1 clist_1)) (rv_move rfl) ?_
 refine st (v := (I (list_1.length : Int))) (rv_len Try.underlying24 rfl) ?_
 obtain ⟨r1, hx2, h'⟩ := bind_some h
 clear h
 have h := h'; clear h'
 have hc3 := c_spec_reader_pick (lor_0 := lor_0) (br_0 := br_0) (or_0 := or_0) (prer_0 := prer_0) (sufr_0 := sufr_0) (ar_0_0 := ar_0_0) (cr_0_0 := cr_0_0) hx2
 refine st_call (cx_call hc3 (ent_f hc3.fn rfl) hn0 (show Hp S0 σ0 _ ([Ch.bx lor_0 br_0 or_0 [(Sl ar_0_0 r_0.1 cr_0_0), (I r_0.2)] prer_0 sufr_0, Ch.ro 0 (Sl ar_0_0 r_0.1 cr_0_0) r_0.1] ++ [Ch.ro 0 (Sl ar_0_0 r_0.1 cr_0_0) r_0.1, Ch.ro 0 (Sl alist_1 list_1 clist_1) list_1]) from (H.sel' [0, 1, 1, 2] rfl rfl))) wn ?_
 rintro _ σ6 ⟨_, ⟨a4, c5, rfl, rfl⟩, H, -⟩
 replace H : Hp S0 σ0 σ6 [Ch.bx lor_0 br_0 or_0 [(Sl a4 r1.2.1 c5), (I r1.2.2)] prer_0 sufr_0, Ch.ro 0 (Sl a4 r1.2.1 c5) r1.2.1, Ch.ro 0 (Sl ar_0_0 r_0.1 cr_0_0) r_0.1, Ch.ro 0 (Sl alist_1 list_1 clist_1) list_1] := H
 obtain ⟨x7, hx8, h'⟩ := bind_some h
 clear h
 have h := h'; clear h'
 obtain ⟨b10, o11, hi9, -⟩ := (H.ro 3 rfl).ix hx8
 refine st (v := (pt b10 o11)) (rv_ix Try.underlying24 ti3 rfl rfl hi9) ?_
 have hc12 := ((H.ro 3 rfl).at hx8 hi9).int
 refine st (v := (I x7)) (rv_load1 Try.underlying3 rfl rfl hc12) ?_
 refine st (v := (I x7)) (rv_assign rfl) ?_
 refine w_end ?_
 refine q_then ?_
 refine c_ret ?_
 obtain rfl := Option.some.inj h
 exact fin_ret (v := (I x7)) (results_ok Try.results55 (res_tmp (v := (I x7)) rfl res_nil) rfl) ⟨a4, c5, rfl, rfl⟩ (H.sel' [0, 1] rfl rfl)

theorem c_spec_someCoord {r_0 : (List UInt8) × Int} {ar_0_0 : Option Addr} {cr_0_0 : Nat} {lor_0 br_0 or_0 : Nat} {prer_0 sufr_0 : List Value} {r : Int × ((List UInt8) × Int)} (h : M.spec_someCoord r_0 = some r) :
    Cal2 Try.prog 118 [(pt br_0 or_0)] [Ch.bx lor_0 br_0 or_0 [(Sl ar_0_0 r_0.1 cr_0_0), (I r_0.2)] prer_0 sufr_0, Ch.ro 0 (Sl ar_0_0 r_0.1 cr_0_0) r_0.1] (fun n0 v L => ∃ (az1 : Option Addr), ∃ (cz2 : Nat), v = (I r.1) ∧ L = [Ch.bx lor_0 br_0 or_0 [(Sl az1 r.2.1 cz2), (I r.2.2)] prer_0 sufr_0, Ch.ro 0 (Sl az1 r.2.1 cz2) r.2.1]) := by
 refine cal2 (n := 12) Try.func118 rfl rfl rfl rfl ?_
 intro S0 σ0 n0 hn0 H
 unfold M.spec_someCoord at h
 refine c_seq ?_
 refine rg ?_
 refine st (v := (I 0)) (rv_assign rfl) ?_
 refine w_end ?_
 refine q_then ?_
 refine c_seq ?_
 refine rg ?_
 refine st (v := (pt br_0 or_0)) (rv_move rfl) ?_
 refine st (v := (pt br_0 or_0)) (rv_move rfl) ?_
 obtain ⟨r1, hx2, h'⟩ := bind_some h
 clear h
 have h := h'; clear h'
 have hc3 := c_spec_reader_pick (lor_0 := lor_0) (br_0 := br_0) (or_0 := or_0) (prer_0 := prer_0) (sufr_0 := sufr_0) (ar_0_0 := ar_0_0) (cr_0_0 := cr_0_0) hx2
 refine st_call (cx_call hc3 (ent_f hc3.fn rfl) hn0 (show Hp S0 σ0 _ ([Ch.bx lor_0 br_0 or_0 [(Sl ar_0_0 r_0.1 cr_0_0), (I r_0.2)] prer_0 sufr_0, Ch.ro 0 (Sl ar_0_0 r_0.1 cr_0_0) r_0.1] ++ [Ch.ro 0 (Sl ar_0_0 r_0.1 cr_0_0) r_0.1]) from (H.sel' [0, 1, 1] rfl rfl))) wn ?_
 rintro _ σ6 ⟨_, ⟨a4, c5, rfl, rfl⟩, H, -⟩
 replace H : Hp S0 σ0 σ6 [Ch.bx lor_0 br_0 or_0 [(Sl a4 r1.2.1 c5), (I r1.2.2)] prer_0 sufr_0, Ch.ro 0 (Sl a4 r1.2.1 c5) r1.2.1, Ch.ro 0 (Sl ar_0_0 r_0.1 cr_0_0) r_0.1] := H
 refine st (v := (I (w64 (r1.1 - 100)))) (rv_sub (a := r1.1) (b := 100) rfl rfl) ?_
 refine st (v := (pt br_0 or_0)) (rv_move rfl) ?_
 obtain ⟨r7, hx8, h'⟩ := bind_some h
 clear h
 have h := h'; clear h'
 have hc9 := c_spec_reader_pick (lor_0 := lor_0) (br_0 := br_0) (or_0 := or_0) (prer_0 := prer_0) (sufr_0 := sufr_0) (ar_0_0 := a4) (cr_0_0 := c5) hx8
 refine st_call (cx_call hc9 (ent_f hc9.fn rfl) hn0 (show Hp S0 σ0 _ ([Ch.bx lor_0 br_0 or_0 [(Sl a4 r1.2.1 c5), (I r1.2.2)] prer_0 sufr_0, Ch.ro 0 (Sl a4 r1.2.1 c5) r1.2.1] ++ [Ch.ro 0 (Sl a4 r1.2.1 c5) r1.2.1, Ch.ro 0 (Sl ar_0_0 r_0.1 cr_0_0) r_0.1]) from (H.sel' [0, 1, 1, 2] rfl rfl))) wn ?_
 rintro _ σ12 ⟨_, ⟨a10, c11, rfl, rfl⟩, H, -⟩
 replace H : Hp S0 σ0 σ12 [Ch.bx lor_0 br_0 or_0 [(Sl a10 r7.2.1 c11), (I r7.2.2)] prer_0 sufr_0, Ch.ro 0 (Sl a10 r7.2.1 c11) r7.2.1, Ch.ro 0 (Sl a4 r1.2.1 c5) r1.2.1, Ch.ro 0 (Sl ar_0_0 r_0.1 cr_0_0) r_0.1] := H
 refine st (v := (I (w64 (r7.1 - 10)))) (rv_sub (a := r7.1) (b := 10) rfl rfl) ?_
 refine st_ex (ex_buildSlice (el := n0) (xs := ([0, 1, -1, 5, -7, 10, 3, 100, -100, w64 (r1.1 - 100), w64 (r7.1 - 10)] : List Int)) (ps := [(0, (I 0)), (1, (I 1)), (2, (I (-1))), (3, (I 5)), (4, (I (-7))), (5, (I 10)), (6, (I 3)), (7, (I 100)), (8, (I (-100))), (9, (I (w64 (r1.1 - 100)))), (10, (I (w64 (r7.1 - 10))))]) (cs := [(I 0), (I 1), (I (-1)), (I 5), (I (-7)), (I 10), (I 3), (I 100), (I (-100)), (I (w64 (r1.1 - 100))), (I (w64 (r7.1 - 10)))]) H hn0 Try.underlying24 ti3 rfl rfl (by kernel_rfl) (.cons (c := [(I 0)]) rfl (.cons (c := [(I 1)]) rfl (.cons (c := [(I (-1))]) rfl (.cons (c := [(I 5)]) rfl (.cons (c := [(I (-7))]) rfl (.cons (c := [(I 10)]) rfl (.cons (c := [(I 3)]) rfl (.cons (c := [(I 100)]) rfl (.cons (c := [(I (-100))]) rfl (.cons (c := [(I (w64 (r1.1 - 100)))]) rfl (.cons (c := [(I (w64 (r7.1 - 10)))]) rfl (.nil)))))))))))) rfl) wn ?_
 rintro _ σ14 ⟨b13, rfl, H, -⟩
 obtain ⟨σ15, hw16, H, -⟩ := H.pub 0 rfl (Nat.le_refl _)
 rw [← hw16]; clear hw16
 replace H := H.roLow 0 0 rfl (Nat.zero_le _)
 obtain ⟨r17, hx18, h'⟩ := bind_some h
 clear h
 have h := h'; clear h'
 have hc19 := c_spec_reader_one (lor_0 := lor_0) (br_0 := br_0) (or_0 := or_0) (prer_0 := prer_0) (sufr_0 := sufr_0) (ar_0_0 := a10) (cr_0_0 := c11) (alist_1 := (some ⟨b13, 0, none⟩)) (clist_1 := 11) hx18
 refine st_call (cx_call hc19 (ent_f hc19.fn rfl) hn0 (show Hp S0 σ0 _ ([Ch.bx lor_0 br_0 or_0 [(Sl a10 r7.2.1 c11), (I r7.2.2)] prer_0 sufr_0, Ch.ro 0 (Sl a10 r7.2.1 c11) r7.2.1, Ch.ro 0 (Sl (some ⟨b13, 0, none⟩) ([0, 1, -1, 5, -7, 10, 3, 100, -100, w64 (r1.1 - 100), w64 (r7.1 - 10)] : List Int) 11) ([0, 1, -1, 5, -7, 10, 3, 100, -100, w64 (r1.1 - 100), w64 (r7.1 - 10)] : List Int)] ++ [Ch.ro 0 (Sl (some ⟨b13, 0, none⟩) ([0, 1, -1, 5, -7, 10, 3, 100, -100, w64 (r1.1 - 100), w64 (r7.1 - 10)] : List Int) 11) ([0, 1, -1, 5, -7, 10, 3, 100, -100, w64 (r1.1 - 100), w64 (r7.1 - 10)] : List Int), Ch.ro n0 (Sl (some ⟨b13, 0, none⟩) ([0, 1, -1, 5, -7, 10, 3, 100, -100, w64 (r1.1 - 100), w64 (r7.1 - 10)] : List Int) 11) ([0, 1, -1, 5, -7, 10, 3, 100, -100, w64 (r1.1 - 100), w64 (r7.1 - 10)] : List Int), Ch.ro 0 (Sl a10 r7.2.1 c11) r7.2.1, Ch.ro 0 (Sl a4 r1.2.1 c5) r1.2.1, Ch.ro 0 (Sl ar_0_0 r_0.1 cr_0_0) r_0.1]) from (H.sel' [2, 3, 0, 0, 1, 3, 4, 5] rfl rfl))) wn ?_
 rintro _ σ22 ⟨_, ⟨a20, c21, rfl, rfl⟩, H, -⟩
 replace H : Hp S0 σ0 σ22 [Ch.bx lor_0 br_0 or_0 [(Sl a20 r17.2.1 c21), (I r17.2.2)] prer_0 sufr_0, Ch.ro 0 (Sl a20 r17.2.1 c21) r17.2.1, Ch.ro 0 (Sl (some ⟨b13, 0, none⟩) ([0, 1, -1, 5, -7, 10, 3, 100, -100, w64 (r1.1 - 100), w64 (r7.1 - 10)] : List Int) 11) ([0, 1, -1, 5, -7, 10, 3, 100, -100, w64 (r1.1 - 100), w64 (r7.1 - 10)] : List Int), Ch.ro n0 (Sl (some ⟨b13, 0, none⟩) ([0, 1, -1, 5, -7, 10, 3, 100, -100, w64 (r1.1 - 100), w64 (r7.1 - 10)] : List Int) 11) ([0, 1, -1, 5, -7, 10, 3, 100, -100, w64 (r1.1 - 100), w64 (r7.1 - 10)] : List Int), Ch.ro 0 (Sl a10 r7.2.1 c11) r7.2.1, Ch.ro 0 (Sl a4 r1.2.1 c5) r1.2.1, Ch.ro 0 (Sl ar_0_0 r_0.1 cr_0_0) r_0.1] := H
 refine st (v := (I r17.1)) (rv_assign rfl) ?_
 refine w_end ?_
 refine q_then ?_
 refine c_ret ?_
 obtain rfl := Option.some.inj h
 exact fin_ret (v := (I r17.1)) (results_ok Try.results118 (res_tmp (v := (I r17.1)) rfl res_nil) rfl) ⟨a20, c21, rfl, rfl⟩ (H.sel' [0, 1] rfl rfl)

end Go.Vs
