/- The functions compute what their models say. -/
import Derived.Test.YtfcemgcmpcmgcabKExactStoreAtC1
set_option linter.unusedVariables false
set_option linter.unusedSimpArgs false
set_option maxRecDepth 20000
namespace Go.Vs
open Go Go.Proofs
attribute [local irreducible] Code.wp Code.wpIn wpList wpListIn wpQuiet Calls CallsIn

theorem c_impl_PutItemD {list_0 : List (Int × (List Int) × Int)} {x_1 : Int × (List Int) × Int} {alist_0 : Option Addr} {clist_0 : Nat} {ax_1_1 : Option Addr} {cx_1_1 : Nat} {r : (List (Int × (List Int) × Int)) × Bool} (h : M.impl_PutItemD list_0 x_1 = some r) :
    Cal2 Try.prog 136 [(Sl alist_0 list_0 clist_0), (.agg #[(I x_1.1), (Sl ax_1_1 x_1.2.1 cx_1_1), (I x_1.2.2)])] [Ch.ro 0 (Sl alist_0 list_0 clist_0) list_0, Ch.ro 0 (Sl ax_1_1 x_1.2.1 cx_1_1) x_1.2.1] (fun n0 v L => ∃ (az1 : Option Addr), ∃ (cz2 : Nat), ∃ (Kz3 : List Ch), v = (.tuple #[(Sl az1 r.1 cz2), (B r.2)]) ∧ L = [Ch.big Kz3] ∧ Dp 0 (Sl az1 r.1 cz2) r.1 Kz3) := by
 refine cal2 (n := 43) Try.func136 rfl rfl rfl rfl ?_
 intro S0 σ0 n0 hn0 H
 unfold M.impl_PutItemD at h
 refine c_seq ?_
 refine rg ?_
 refine st_ex (ex_box (cs := [(I x_1.1), (Sl ax_1_1 x_1.2.1 cx_1_1), (I x_1.2.2)]) H hn0 rfl rfl) wn ?_
 rintro _ σ2 ⟨b1, rfl, H, -⟩
 refine st (v := (.slice none 0 0)) (rv_assign rfl) ?_
 refine st (v := (B false)) (rv_assign rfl) ?_
 refine w_end ?_
 refine q_then ?_
 refine c_seq ?_
 refine c_seq ?_
 obtain ⟨o3, hj, h'⟩ := bind_some h
 clear h
 refine c_cut (fun e a w => e = .normal ∧ ∃ (ρ : Nat → Value) (σ : St), a = fr 43 (updL ρ [(0, (Sl alist_0 list_0 clist_0)), (3, (pt b1 0)), (16, (B o3))]) ∧ w = σ.w ∧ Hp S0 σ0 σ [Ch.ro 0 (Sl alist_0 list_0 clist_0) list_0, Ch.ro 0 (Sl ax_1_1 x_1.2.1 cx_1_1) x_1.2.1, Ch.bx n0 b1 0 [(I x_1.1), (Sl ax_1_1 x_1.2.1 cx_1_1), (I x_1.2.2)] [] []]) ?_ ?_
 ·clear h'
  rename _ = some o3 => h
  refine rg ?_
  refine st (v := (Sl alist_0 list_0 clist_0)) (rv_move rfl) ?_
  obtain ⟨r4, hx5, h'⟩ := bind_some h
  clear h
  have h := h'; clear h'
  have hc6 := c_impl_ValidStore (alist_0 := alist_0) (clist_0 := clist_0) hx5
  refine st_call (cx_call hc6 (ent_f hc6.fn rfl) hn0 (show Hp S0 σ0 _ ([Ch.ro 0 (Sl alist_0 list_0 clist_0) list_0] ++ [Ch.bx n0 b1 0 [(I x_1.1), (Sl ax_1_1 x_1.2.1 cx_1_1), (I x_1.2.2)] [] [], Ch.ro 0 (Sl alist_0 list_0 clist_0) list_0, Ch.ro 0 (Sl ax_1_1 x_1.2.1 cx_1_1) x_1.2.1]) from (H.sel' [1, 0, 1, 2] rfl rfl))) wn ?_
  rintro _ σ7 ⟨_, ⟨rfl, rfl⟩, H, -⟩
  replace H : Hp S0 σ0 σ7 [Ch.bx n0 b1 0 [(I x_1.1), (Sl ax_1_1 x_1.2.1 cx_1_1), (I x_1.2.2)] [] [], Ch.ro 0 (Sl alist_0 list_0 clist_0) list_0, Ch.ro 0 (Sl ax_1_1 x_1.2.1 cx_1_1) x_1.2.1] := H
  refine st (v := (B (!r4))) (rv_not rfl) ?_
  refine st (v := (B (!r4))) (rv_move rfl) ?_
  rcases Bool.eq_false_or_eq_true (!r4) with hb8 | hb8
  ·replace h := bif_t hb8 h
   refine st_skip (congrArg some hb8) ?_
   refine st_skip (congrArg some hb8) ?_
   refine st_skip (congrArg some hb8) ?_
   refine st (v := (B true)) (rv_pick_t (congrArg B hb8) rfl) ?_
   refine w_end ?_
   obtain rfl := Option.some.inj h
   exact ⟨rfl, _, σ7, fr_join ⟨rfl, rfl, rfl, trivial⟩, rfl, H.sel' [1, 2, 0] rfl rfl⟩
  ·replace h := bif_f hb8 h
   have hc9 := H.cells 0 rfl
   refine st_g (v := (.agg #[(I x_1.1), (Sl ax_1_1 x_1.2.1 cx_1_1), (I x_1.2.2)])) (congrArg some hb8) (rv_load (cs := [(I x_1.1), (Sl ax_1_1 x_1.2.1 cx_1_1), (I x_1.2.2)]) Try.underlying36 rfl ti36 rfl rfl hc9) ?_
   obtain ⟨r10, hx11, h'⟩ := bind_some h
   clear h
   have h := h'; clear h'
   have hc12 := c_impl_validItem (ax_0_1 := ax_1_1) (cx_0_1 := cx_1_1) hx11
   refine st_call (cx_call hc12 (ent_f hc12.fn rfl) hn0 (show Hp S0 σ0 _ ([Ch.ro 0 (Sl ax_1_1 x_1.2.1 cx_1_1) x_1.2.1] ++ [Ch.bx n0 b1 0 [(I x_1.1), (Sl ax_1_1 x_1.2.1 cx_1_1), (I x_1.2.2)] [] [], Ch.ro 0 (Sl alist_0 list_0 clist_0) list_0, Ch.ro 0 (Sl ax_1_1 x_1.2.1 cx_1_1) x_1.2.1]) from (H.sel' [2, 0, 1, 2] rfl rfl))) (wanted_yes rfl (by exact (congrArg some hb8))) ?_
   rintro _ σ13 ⟨_, ⟨rfl, rfl⟩, H, -⟩
   replace H : Hp S0 σ0 σ13 [Ch.bx n0 b1 0 [(I x_1.1), (Sl ax_1_1 x_1.2.1 cx_1_1), (I x_1.2.2)] [] [], Ch.ro 0 (Sl alist_0 list_0 clist_0) list_0, Ch.ro 0 (Sl ax_1_1 x_1.2.1 cx_1_1) x_1.2.1] := H
   refine st_g (v := (B (!r10))) (congrArg some hb8) (rv_not rfl) ?_
   refine st (v := (B (!r10))) (rv_pick_f (congrArg B hb8) rfl) ?_
   refine w_end ?_
   obtain rfl := Option.some.inj h
   exact ⟨rfl, _, σ13, fr_join ⟨rfl, rfl, rfl, trivial⟩, rfl, H.sel' [1, 2, 0] rfl rfl⟩
 ·clear hj
  have h := h'
  clear h' H
  rintro e a w ⟨rfl, ρ, σ14, rfl, rfl, H⟩
  refine q_then ?_
  refine cd_cond o3 rfl (fun hb15 => ?_) (fun hb15 => ?_)
  ·replace h := bif_t hb15 h
   refine c_seq ?_
   refine rg ?_
   refine st (v := (.slice none 0 0)) (rv_assign rfl) ?_
   refine st (v := (B false)) (rv_assign rfl) ?_
   refine w_end ?_
   refine q_then ?_
   refine c_ret ?_
   refine q_then_r ?_
   obtain ⟨K16, hK17, H⟩ := H.nilDp (Int × (List Int) × Int) 0
   obtain rfl := Option.some.inj h
   exact fin_ret (v := (.tuple #[(.slice none 0 0), (B false)])) (results_ok Try.results136 (res_tmp (v := (.slice none 0 0)) rfl (res_tmp (v := (B false)) rfl res_nil)) rfl) ⟨none, 0, K16, rfl, rfl, hK17⟩ (H.sel' [0] rfl rfl)
  ·replace h := bif_f hb15 h
   refine c_skip ?_
   refine q_then ?_
   refine c_seq ?_
   refine rg ?_
   refine st (v := (Sl alist_0 list_0 clist_0)) (rv_move rfl) ?_
   refine st (v := (pt b1 0)) (rv_fieldAddr (off := 0) (ft := 3) Try.underlying36 rfl ti3 rfl rfl) ?_
   have hc18 := H.cell (u := (I x_1.1)) (o' := 0) 2 0 rfl rfl rfl
   refine st (v := (I x_1.1)) (rv_load1 Try.underlying3 rfl rfl hc18) ?_
   obtain ⟨r19, hx20, h'⟩ := bind_some h
   clear h
   have h := h'; clear h'
   have hc21 := c_impl_placeOf (alist_0 := alist_0) (clist_0 := clist_0) hx20
   refine st_call (cx_call hc21 (ent_f hc21.fn rfl) hn0 (show Hp S0 σ0 _ ([Ch.ro 0 (Sl alist_0 list_0 clist_0) list_0] ++ [Ch.ro 0 (Sl alist_0 list_0 clist_0) list_0, Ch.ro 0 (Sl ax_1_1 x_1.2.1 cx_1_1) x_1.2.1, Ch.bx n0 b1 0 [(I x_1.1), (Sl ax_1_1 x_1.2.1 cx_1_1), (I x_1.2.2)] [] []]) from (H.sel' [0, 0, 1, 2] rfl rfl))) wn ?_
   rintro _ σ22 ⟨_, ⟨rfl, rfl⟩, H, -⟩
   replace H : Hp S0 σ0 σ22 [Ch.ro 0 (Sl alist_0 list_0 clist_0) list_0, Ch.ro 0 (Sl ax_1_1 x_1.2.1 cx_1_1) x_1.2.1, Ch.bx n0 b1 0 [(I x_1.1), (Sl ax_1_1 x_1.2.1 cx_1_1), (I x_1.2.2)] [] []] := H
   refine st (v := (.tuple #[(I r19.1), (B r19.2)])) (rv_move rfl) ?_
   refine st (v := (I r19.1)) (rv_extract rfl rfl) ?_
   refine st (v := (B r19.2)) (rv_extract rfl rfl) ?_
   refine st (v := (I r19.1)) (rv_assign rfl) ?_
   refine st (v := (B r19.2)) (rv_assign rfl) ?_
   refine w_end ?_
   refine q_then ?_
   refine c_seq ?_
   refine c_seq ?_
   refine rg ?_
   refine st (v := (B r19.2)) (rv_move rfl) ?_
   refine w_end ?_
   refine q_then ?_
   refine cd_cond r19.2 rfl (fun hb23 => ?_) (fun hb23 => ?_)
   ·replace h := bif_t hb23 h
    refine c_seq ?_
    refine rg ?_
    refine st (v := (Sl alist_0 list_0 clist_0)) (rv_move rfl) ?_
    obtain ⟨r24, hx25, h'⟩ := bind_some h
    clear h
    have h := h'; clear h'
    have hc26 := c_impl_copyItems (alist_0 := alist_0) (clist_0 := clist_0) hx25
    refine st_call (cx_call hc26 (ent_f hc26.fn rfl) hn0 (show Hp S0 σ0 _ ([Ch.ro 0 (Sl alist_0 list_0 clist_0) list_0] ++ [Ch.ro 0 (Sl alist_0 list_0 clist_0) list_0, Ch.ro 0 (Sl ax_1_1 x_1.2.1 cx_1_1) x_1.2.1, Ch.bx n0 b1 0 [(I x_1.1), (Sl ax_1_1 x_1.2.1 cx_1_1), (I x_1.2.2)] [] []]) from (H.sel' [0, 0, 1, 2] rfl rfl))) wn ?_
    rintro _ σ32 ⟨_, ⟨a27, c28, K29, rfl, rfl, hK30, ht31⟩, H, -⟩
    replace H : Hp S0 σ0 σ32 [Ch.big K29, Ch.ro 0 (Sl alist_0 list_0 clist_0) list_0, Ch.ro 0 (Sl ax_1_1 x_1.2.1 cx_1_1) x_1.2.1, Ch.bx n0 b1 0 [(I x_1.1), (Sl ax_1_1 x_1.2.1 cx_1_1), (I x_1.2.2)] [] []] := H
    refine st (v := (Sl a27 r24 c28)) (rv_assign rfl) ?_
    refine w_end ?_
    refine q_then ?_
    refine c_seq ?_
    refine rg ?_
    refine st (v := (Sl a27 r24 c28)) (rv_move rfl) ?_
    refine st (v := (I r19.1)) (rv_move rfl) ?_
    have hc33 := H.cells 3 rfl
    refine st (v := (.agg #[(I x_1.1), (Sl ax_1_1 x_1.2.1 cx_1_1), (I x_1.2.2)])) (rv_load (cs := [(I x_1.1), (Sl ax_1_1 x_1.2.1 cx_1_1), (I x_1.2.2)]) Try.underlying36 rfl ti36 rfl rfl hc33) ?_
    obtain ⟨r34, hx35, h'⟩ := bind_some h
    clear h
    have h := h'; clear h'
    have hc36 := c_impl_copyItem (ax_0_1 := ax_1_1) (cx_0_1 := cx_1_1) hx35
    refine st_call (cx_call hc36 (ent_f hc36.fn rfl) hn0 (show Hp S0 σ0 _ ([Ch.ro 0 (Sl ax_1_1 x_1.2.1 cx_1_1) x_1.2.1] ++ [Ch.big K29, Ch.ro 0 (Sl alist_0 list_0 clist_0) list_0, Ch.ro 0 (Sl ax_1_1 x_1.2.1 cx_1_1) x_1.2.1, Ch.bx n0 b1 0 [(I x_1.1), (Sl ax_1_1 x_1.2.1 cx_1_1), (I x_1.2.2)] [] []]) from (H.sel' [2, 0, 1, 2, 3] rfl rfl))) wn ?_
    rintro _ σ39 ⟨_, ⟨a37, c38, rfl, rfl⟩, H, -⟩
    replace H : Hp S0 σ0 σ39 [Ch.own n0 n0 (Sl a37 r34.2.1 c38) r34.2.1, Ch.big K29, Ch.ro 0 (Sl alist_0 list_0 clist_0) list_0, Ch.ro 0 (Sl ax_1_1 x_1.2.1 cx_1_1) x_1.2.1, Ch.bx n0 b1 0 [(I x_1.1), (Sl ax_1_1 x_1.2.1 cx_1_1), (I x_1.2.2)] [] []] := H
    obtain ⟨x40, hx41, h'⟩ := bind_some h
    clear h
    have h := h'; clear h'
    obtain ⟨b43, o44, hi42⟩ := H.dpIx 1 rfl hK30 hx41
    refine st (v := (pt b43 o44)) (rv_ix Try.underlying32 ti36 rfl rfl hi42) ?_
    obtain ⟨v45, K46, H, hK47⟩ := H.dpOut 1 rfl hK30 hx41
    replace H := H.tail
    replace H := H.ownSc 1 0 0 rfl (Nat.zero_le _)
    replace H := H.sel' [1, 0, 2, 3, 4] rfl rfl
    obtain ⟨K48, hK49, he50⟩ := hK47.put ((r34.1, r34.2.1, r34.2.2) : Int × (List Int) × Int) (Sl a37 r34.2.1 c38)
    refine st_exS (he50 (ty := _) (k := 0) (vs := [(I r34.1), (Sl a37 r34.2.1 c38), (I r34.2.2)]) H ti36 hi42 rfl rfl rfl rfl rfl (Nat.le_of_ble_eq_true rfl) (by simp [plain]) (by rintro _ _ ⟨_, _, rfl, rfl, ⟨_, _, rfl, ⟨rfl, -⟩, rfl⟩⟩; exact ⟨[(I r34.1)], [(Sl a37 r34.2.1 c38), (I r34.2.2)], rfl, rfl, ⟨[(Sl a37 r34.2.1 c38)], [(I r34.2.2)], rfl, ⟨rfl, rfl⟩, rfl⟩⟩)) wn ?_
    rintro σ51 ⟨H, -⟩
    have hsl : (Sl a27 r24 c28) = (Sl a27 (r24.set r19.1.toNat (r34.1, r34.2.1, r34.2.2)) c28) := sl_len List.length_set.symm
    rw [hsl]; rw [hsl] at hK49; clear hsl
    refine w_end ?_
    refine q_then ?_
    refine c_seq ?_
    refine rg ?_
    refine st (v := (Sl a27 (r24.set r19.1.toNat (r34.1, r34.2.1, r34.2.2)) c28)) (rv_move rfl) ?_
    refine st (v := (Sl a27 (r24.set r19.1.toNat (r34.1, r34.2.1, r34.2.2)) c28)) (rv_assign rfl) ?_
    refine st (v := (B true)) (rv_assign rfl) ?_
    refine w_end ?_
    refine q_then ?_
    refine c_ret ?_
    refine q_then_r ?_
    obtain rfl := Option.some.inj h
    exact fin_ret (v := (.tuple #[(Sl a27 (r24.set r19.1.toNat (r34.1, r34.2.1, r34.2.2)) c28), (B true)])) (results_ok Try.results136 (res_tmp (v := (Sl a27 (r24.set r19.1.toNat (r34.1, r34.2.1, r34.2.2)) c28)) rfl (res_tmp (v := (B true)) rfl res_nil)) rfl) ⟨a27, c28, K48, rfl, rfl, hK49⟩ (H.sel' [0] rfl rfl)
   ·replace h := bif_f hb23 h
    refine c_skip ?_
    refine q_then ?_
    refine c_seq ?_
    refine c_seq ?_
    refine rg ?_
    refine st (v := (Sl alist_0 list_0 clist_0)) (rv_move rfl) ?_
    refine st (v := (I (list_0.length : Int))) (rv_len Try.underlying32 rfl) ?_
    refine st (v := (B ((list_0.length : Int) == 16))) (rv_eql (a := (list_0.length : Int)) (b := 16) rfl rfl) ?_
    refine w_end ?_
    refine q_then ?_
    refine cd_cond ((list_0.length : Int) == 16) rfl (fun hb52 => ?_) (fun hb52 => ?_)
    ·replace h := bif_t hb52 h
     refine c_seq ?_
     refine rg ?_
     refine st (v := (.slice none 0 0)) (rv_assign rfl) ?_
     refine st (v := (B false)) (rv_assign rfl) ?_
     refine w_end ?_
     refine q_then ?_
     refine c_ret ?_
     refine q_then_r ?_
     obtain ⟨K53, hK54, H⟩ := H.nilDp (Int × (List Int) × Int) 0
     obtain rfl := Option.some.inj h
     exact fin_ret (v := (.tuple #[(.slice none 0 0), (B false)])) (results_ok Try.results136 (res_tmp (v := (.slice none 0 0)) rfl (res_tmp (v := (B false)) rfl res_nil)) rfl) ⟨none, 0, K53, rfl, rfl, hK54⟩ (H.sel' [0] rfl rfl)
    ·replace h := bif_f hb52 h
     refine c_skip ?_
     refine q_then ?_
     refine c_seq ?_
     obtain ⟨r55, hx56, h'⟩ := bind_some h
     clear h
     have h := h'; clear h'
     have hc57 := c_impl_copyItems (alist_0 := alist_0) (clist_0 := clist_0) hx56
     have hc63 := H.cells 2 rfl
     obtain ⟨r64, hx65, h'⟩ := bind_some h
     clear h
     have h := h'; clear h'
     have hc66 := c_impl_copyItem (ax_0_1 := ax_1_1) (cx_0_1 := cx_1_1) hx65
     have Hs := H
     refine rg2 (σ := σ22) (Nm := (Option Addr) × (Nat) × (List Ch) × (Option Addr) × (Nat) × (Nat)) 6 [1, 4, 5] [[false, false, false], [true, false, false], [true, true, false], [true, true, true]] [[(0, 0)], [(0, 1)], [(0, 0), (1, 1), (2, 2), (3, 3)], [(0, 0), (1, 1)], [(1, 2)], [(2, 3)]] 3 [fun ((a58, c59, K60, a67, c68, b69) : (Option Addr) × (Nat) × (List Ch) × (Option Addr) × (Nat) × (Nat)) => fun σm => Hp S0 σ0 σm [Ch.ro 0 (Sl alist_0 list_0 clist_0) list_0, Ch.ro 0 (Sl ax_1_1 x_1.2.1 cx_1_1) x_1.2.1, Ch.bx n0 b1 0 [(I x_1.1), (Sl ax_1_1 x_1.2.1 cx_1_1), (I x_1.2.2)] [] []] ∧ Md (cov []) σ22 σm, fun ((a58, c59, K60, a67, c68, b69) : (Option Addr) × (Nat) × (List Ch) × (Option Addr) × (Nat) × (Nat)) => fun σm => Hp S0 σ0 σm [Ch.big K60, Ch.ro 0 (Sl alist_0 list_0 clist_0) list_0, Ch.ro 0 (Sl ax_1_1 x_1.2.1 cx_1_1) x_1.2.1, Ch.bx n0 b1 0 [(I x_1.1), (Sl ax_1_1 x_1.2.1 cx_1_1), (I x_1.2.2)] [] []] ∧ Md (cov []) σ22 σm ∧ Dp 0 (Sl a58 r55 c59) r55 K60 ∧ c59 = r55.length, fun ((a58, c59, K60, a67, c68, b69) : (Option Addr) × (Nat) × (List Ch) × (Option Addr) × (Nat) × (Nat)) => fun σm => Hp S0 σ0 σm [Ch.own n0 n0 (Sl a67 r64.2.1 c68) r64.2.1, Ch.big K60, Ch.ro 0 (Sl alist_0 list_0 clist_0) list_0, Ch.ro 0 (Sl ax_1_1 x_1.2.1 cx_1_1) x_1.2.1, Ch.bx n0 b1 0 [(I x_1.1), (Sl ax_1_1 x_1.2.1 cx_1_1), (I x_1.2.2)] [] []] ∧ Md (cov []) σ22 σm ∧ Dp 0 (Sl a58 r55 c59) r55 K60 ∧ c59 = r55.length, fun ((a58, c59, K60, a67, c68, b69) : (Option Addr) × (Nat) × (List Ch) × (Option Addr) × (Nat) × (Nat)) => fun σm => Hp S0 σ0 σm [Ch.own n0 n0 (Sl (some ⟨b69, 0, none⟩) ([(r64.1, (Sl a67 r64.2.1 c68), r64.2.2)] : List (Int × Value × Int)) 1) ([(r64.1, (Sl a67 r64.2.1 c68), r64.2.2)] : List (Int × Value × Int)), Ch.own n0 n0 (Sl a67 r64.2.1 c68) r64.2.1, Ch.big K60, Ch.ro 0 (Sl alist_0 list_0 clist_0) list_0, Ch.ro 0 (Sl ax_1_1 x_1.2.1 cx_1_1) x_1.2.1, Ch.bx n0 b1 0 [(I x_1.1), (Sl ax_1_1 x_1.2.1 cx_1_1), (I x_1.2.2)] [] []] ∧ Md (cov []) σ22 σm ∧ Dp 0 (Sl a58 r55 c59) r55 K60 ∧ c59 = r55.length] [fun ((a58, c59, K60, a67, c68, b69) : (Option Addr) × (Nat) × (List Ch) × (Option Addr) × (Nat) × (Nat)) => (Sl alist_0 list_0 clist_0), fun ((a58, c59, K60, a67, c68, b69) : (Option Addr) × (Nat) × (List Ch) × (Option Addr) × (Nat) × (Nat)) => (Sl a58 r55 c59), fun ((a58, c59, K60, a67, c68, b69) : (Option Addr) × (Nat) × (List Ch) × (Option Addr) × (Nat) × (Nat)) => (I r19.1), fun ((a58, c59, K60, a67, c68, b69) : (Option Addr) × (Nat) × (List Ch) × (Option Addr) × (Nat) × (Nat)) => (.agg #[(I x_1.1), (Sl ax_1_1 x_1.2.1 cx_1_1), (I x_1.2.2)]), fun ((a58, c59, K60, a67, c68, b69) : (Option Addr) × (Nat) × (List Ch) × (Option Addr) × (Nat) × (Nat)) => (.agg #[(I r64.1), (Sl a67 r64.2.1 c68), (I r64.2.2)]), fun ((a58, c59, K60, a67, c68, b69) : (Option Addr) × (Nat) × (List Ch) × (Option Addr) × (Nat) × (Nat)) => (Sl (some ⟨b69, 0, none⟩) ([(r64.1, (Sl a67 r64.2.1 c68), r64.2.2)] : List (Int × Value × Int)) 1)] (none, 0, [], none, 0, 0) (by kernel_rfl) (by kernel_rfl) ?_ ?_ ?_
     ·intro σm m0
      exact ⟨H.grow (m0.mono fun _ h => h.elim), m0⟩
     ·refine ac rfl (by
        intro k; rintro ⟨a58, c59, K60, a67, c68, b69⟩ ρ σm hJ hoff hdep
        have e0 := look_off (N := 43) (hoff 0 rfl) rfl
        exact dp_v (v := (Sl alist_0 list_0 clist_0)) wn (rv_move e0) rfl hJ) ?_
      refine all_cons (by
        refine ⟨?_, ?_⟩
        ·rintro ⟨a58, c59, K60, a67, c68, b69⟩ ρ σm hJ hoff hdep
         have e36 : look 43 ρ 36 = (Sl alist_0 list_0 clist_0) := hdep 0 rfl rfl 36 rfl
         obtain ⟨H, m⟩ := id hJ
         refine dp_cx wn (cx_call hc57 (ent_f hc57.fn (by show [look 43 ρ 36] = _; rw [e36])) hn0 (show Hp S0 σ0 _ ([Ch.ro 0 (Sl alist_0 list_0 clist_0) list_0] ++ [Ch.ro 0 (Sl alist_0 list_0 clist_0) list_0, Ch.ro 0 (Sl ax_1_1 x_1.2.1 cx_1_1) x_1.2.1, Ch.bx n0 b1 0 [(I x_1.1), (Sl ax_1_1 x_1.2.1 cx_1_1), (I x_1.2.2)] [] []]) from (H.sel' [0, 0, 1, 2] rfl rfl))) ?_
         rintro _ σq ⟨_, ⟨a58x, c59x, K60x, rfl, rfl, hK61, ht62⟩, H2, m2⟩
         exact ⟨_, (a58x, c59x, K60x, a67, c68, b69), rfl, rfl, ⟨H2.sel' [0, 1, 2, 3] rfl rfl, m.comp0 (m2.mono (fun i h => by simp [cov, Ch.ro] at h)), hK61, ht62⟩, stab [0, 2, 3] (by kernel_rfl) ⟨rfl, rfl, rfl, trivial⟩⟩
        trivial) ?_
      refine ac rfl (by
        intro k; rintro ⟨a58, c59, K60, a67, c68, b69⟩ ρ σm hJ hoff hdep
        have e6 := look_off (N := 43) (hoff 6 rfl) rfl
        exact dp_v (v := (I r19.1)) wn (rv_move e6) rfl hJ) ?_
      refine all_cons (by
        refine ⟨?_, ?_⟩
        ·rintro ⟨a58, c59, K60, a67, c68, b69⟩ ρ σm hJ hoff hdep
         have e3 := look_off (N := 43) (hoff 3 rfl) rfl
         obtain ⟨H, m⟩ := id hJ
         have hc63 := H.cells 2 rfl
         exact dp_v (v := (.agg #[(I x_1.1), (Sl ax_1_1 x_1.2.1 cx_1_1), (I x_1.2.2)])) wn (rv_load (cs := [(I x_1.1), (Sl ax_1_1 x_1.2.1 cx_1_1), (I x_1.2.2)]) Try.underlying36 rfl ti36 e3 rfl hc63) rfl hJ
        refine ⟨?_, ?_⟩
        ·rintro ⟨a58, c59, K60, a67, c68, b69⟩ ρ σm hJ hoff hdep
         have e3 := look_off (N := 43) (hoff 3 rfl) rfl
         obtain ⟨H, m, hK61, ht62⟩ := id hJ
         have hc63 := H.cells 3 rfl
         exact dp_v (v := (.agg #[(I x_1.1), (Sl ax_1_1 x_1.2.1 cx_1_1), (I x_1.2.2)])) wn (rv_load (cs := [(I x_1.1), (Sl ax_1_1 x_1.2.1 cx_1_1), (I x_1.2.2)]) Try.underlying36 rfl ti36 e3 rfl hc63) rfl hJ
        trivial) ?_
      refine all_cons (by
        refine ⟨?_, ?_⟩
        ·rintro ⟨a58, c59, K60, a67, c68, b69⟩ ρ σm hJ hoff hdep
         have e39 : look 43 ρ 39 = (.agg #[(I x_1.1), (Sl ax_1_1 x_1.2.1 cx_1_1), (I x_1.2.2)]) := hdep 3 rfl rfl 39 rfl
         obtain ⟨H, m, hK61, ht62⟩ := id hJ
         refine dp_cx wn (cx_call hc66 (ent_f hc66.fn (by show [look 43 ρ 39] = _; rw [e39])) hn0 (show Hp S0 σ0 _ ([Ch.ro 0 (Sl ax_1_1 x_1.2.1 cx_1_1) x_1.2.1] ++ [Ch.big K60, Ch.ro 0 (Sl alist_0 list_0 clist_0) list_0, Ch.ro 0 (Sl ax_1_1 x_1.2.1 cx_1_1) x_1.2.1, Ch.bx n0 b1 0 [(I x_1.1), (Sl ax_1_1 x_1.2.1 cx_1_1), (I x_1.2.2)] [] []]) from (H.sel' [2, 0, 1, 2, 3] rfl rfl))) ?_
         rintro _ σq ⟨_, ⟨a67x, c68x, rfl, rfl⟩, H2, m2⟩
         exact ⟨_, (a58, c59, K60, a67x, c68x, b69), rfl, rfl, ⟨H2.sel' [0, 1, 2, 3, 4] rfl rfl, m.comp0 (m2.mono (fun i h => by simp [cov, Ch.ro] at h)), hK61, ht62⟩, stab [0, 1, 2, 3] (by kernel_rfl) ⟨rfl, rfl, rfl, rfl, trivial⟩⟩
        trivial) ?_
      refine all_cons (by
        refine ⟨?_, ?_⟩
        ·rintro ⟨a58, c59, K60, a67, c68, b69⟩ ρ σm hJ hoff hdep
         have e40 : look 43 ρ 40 = (.agg #[(I r64.1), (Sl a67 r64.2.1 c68), (I r64.2.2)]) := hdep 4 rfl rfl 40 rfl
         obtain ⟨H, m, hK61, ht62⟩ := id hJ
         refine dp_ex wn (ex_buildSlice (el := n0) (xs := ([(r64.1, (Sl a67 r64.2.1 c68), r64.2.2)] : List (Int × Value × Int))) (ps := [(0, (.agg #[(I r64.1), (Sl a67 r64.2.1 c68), (I r64.2.2)]))]) (cs := [(I r64.1), (Sl a67 r64.2.1 c68), (I r64.2.2)]) H hn0 Try.underlying32 ti36 rfl (by show [(0, look 43 ρ 40)] = _; rw [e40]) (by kernel_rfl) (.cons (c := [(I r64.1), (Sl a67 r64.2.1 c68), (I r64.2.2)]) ⟨[(I r64.1)], [(Sl a67 r64.2.1 c68), (I r64.2.2)], rfl, rfl, ⟨[(Sl a67 r64.2.1 c68)], [(I r64.2.2)], rfl, ⟨rfl, rfl⟩, rfl⟩⟩ .nil) rfl) ?_
         rintro _ σq ⟨b69x, rfl, H2, m2⟩
         exact ⟨_, (a58, c59, K60, a67, c68, b69x), rfl, rfl, ⟨H2.sel' [0, 1, 2, 3, 4, 5] rfl rfl, m.comp0 m2, hK61, ht62⟩, stab [0, 1, 2, 3, 4] (by kernel_rfl) ⟨rfl, rfl, rfl, rfl, rfl, trivial⟩⟩
        trivial) ?_
      exact all_nil
     ·rintro ⟨a58, c59, K60, a67, c68, b69⟩ ρ σ70 hJ hoff hrel
      have e37 := hrel 1 rfl 37 rfl
      have e38 := hrel 2 rfl 38 rfl
      have e41 := hrel 5 rfl 41 rfl
      obtain ⟨H, -, hK61, ht62⟩ := (show Hp S0 σ0 σ70 [Ch.own n0 n0 (Sl (some ⟨b69, 0, none⟩) ([(r64.1, (Sl a67 r64.2.1 c68), r64.2.2)] : List (Int × Value × Int)) 1) ([(r64.1, (Sl a67 r64.2.1 c68), r64.2.2)] : List (Int × Value × Int)), Ch.own n0 n0 (Sl a67 r64.2.1 c68) r64.2.1, Ch.big K60, Ch.ro 0 (Sl alist_0 list_0 clist_0) list_0, Ch.ro 0 (Sl ax_1_1 x_1.2.1 cx_1_1) x_1.2.1, Ch.bx n0 b1 0 [(I x_1.1), (Sl ax_1_1 x_1.2.1 cx_1_1), (I x_1.2.2)] [] []] ∧ Md (cov []) σ22 σ70 ∧ Dp 0 (Sl a58 r55 c59) r55 K60 ∧ c59 = r55.length from hJ)
      clear hJ Hs
      rw [fr_lookL (L := [(37, (Sl a58 r55 c59)), (38, (I r19.1)), (41, (Sl (some ⟨b69, 0, none⟩) ([(r64.1, (Sl a67 r64.2.1 c68), r64.2.2)] : List (Int × Value × Int)) 1))]) ⟨e37, e38, e41, trivial⟩]
      clear hoff hrel e37 e38 e41
      obtain ⟨r71, hx72, h'⟩ := bind_some h
      clear h
      have h := h'; clear h'
      have hc73 := c_slices_Insert_impl_Item_impl_Item_ins (as_0 := a58) (cs_0 := c59) (hts_0 := ht62) (av_2 := (some ⟨b69, 0, none⟩)) (cv_2 := 1) (ax_2 := a67) (cx_2 := c68) (lv := n0) (li := n0) (hK := hK61) hx72
      refine st_call (cx_call hc73 (ent_f hc73.fn rfl) hn0 (show Hp S0 σ0 _ ([Ch.big K60, Ch.own n0 n0 (Sl (some ⟨b69, 0, none⟩) ([(r64.1, (Sl a67 r64.2.1 c68), r64.2.2)] : List (Int × Value × Int)) 1) ([(r64.1, (Sl a67 r64.2.1 c68), r64.2.2)] : List (Int × Value × Int)), Ch.own n0 n0 (Sl a67 r64.2.1 c68) r64.2.1] ++ [Ch.ro 0 (Sl alist_0 list_0 clist_0) list_0, Ch.ro 0 (Sl ax_1_1 x_1.2.1 cx_1_1) x_1.2.1, Ch.bx n0 b1 0 [(I x_1.1), (Sl ax_1_1 x_1.2.1 cx_1_1), (I x_1.2.2)] [] []]) from (H.sel' [2, 0, 1, 3, 4, 5] rfl rfl))) wn ?_
      rintro _ σ78 ⟨_, ⟨a74, c75, K76, rfl, rfl, hK77⟩, H, -⟩
      replace H : Hp S0 σ0 σ78 [Ch.big K76, Ch.ro 0 (Sl alist_0 list_0 clist_0) list_0, Ch.ro 0 (Sl ax_1_1 x_1.2.1 cx_1_1) x_1.2.1, Ch.bx n0 b1 0 [(I x_1.1), (Sl ax_1_1 x_1.2.1 cx_1_1), (I x_1.2.2)] [] []] := H
      refine st (v := (Sl a74 r71 c75)) (rv_assign rfl) ?_
      refine st (v := (B true)) (rv_assign rfl) ?_
      refine w_end ?_
      refine q_then ?_
      refine c_ret ?_
      obtain rfl := Option.some.inj h
      exact fin_ret (v := (.tuple #[(Sl a74 r71 c75), (B true)])) (results_ok Try.results136 (res_tmp (v := (Sl a74 r71 c75)) rfl (res_tmp (v := (B true)) rfl res_nil)) rfl) ⟨a74, c75, K76, rfl, rfl, hK77⟩ (H.sel' [0] rfl rfl)

theorem c_impl_putChange_applyD {c_0 : (Int × (List Int) × Int)} {list_1 : List (Int × (List Int) × Int)} {ac_0_0_1 : Option Addr} {cc_0_0_1 : Nat} {alist_1 : Option Addr} {clist_1 : Nat} {r : (List (Int × (List Int) × Int)) × Bool} (h : M.impl_putChange_applyD c_0 list_1 = some r) :
    Cal2 Try.prog 133 [(.agg #[(I c_0.1), (Sl ac_0_0_1 c_0.2.1 cc_0_0_1), (I c_0.2.2)]), (Sl alist_1 list_1 clist_1)] [Ch.ro 0 (Sl ac_0_0_1 c_0.2.1 cc_0_0_1) c_0.2.1, Ch.ro 0 (Sl alist_1 list_1 clist_1) list_1] (fun n0 v L => ∃ (az1 : Option Addr), ∃ (cz2 : Nat), ∃ (Kz3 : List Ch), v = (.tuple #[(Sl az1 r.1 cz2), (B r.2)]) ∧ L = [Ch.big Kz3] ∧ Dp 0 (Sl az1 r.1 cz2) r.1 Kz3) := by
 refine cal2 (n := 12) Try.func133 rfl rfl rfl rfl ?_
 intro S0 σ0 n0 hn0 H
 unfold M.impl_putChange_applyD at h
 refine c_seq ?_
 refine rg ?_
 refine st_ex (ex_box (cs := [(I c_0.1), (Sl ac_0_0_1 c_0.2.1 cc_0_0_1), (I c_0.2.2)]) H hn0 rfl rfl) wn ?_
 rintro _ σ2 ⟨b1, rfl, H, -⟩
 refine st (v := (.slice none 0 0)) (rv_assign rfl) ?_
 refine st (v := (B false)) (rv_assign rfl) ?_
 refine w_end ?_
 refine q_then ?_
 refine c_seq ?_
 refine rg ?_
 refine st (v := (Sl alist_1 list_1 clist_1)) (rv_move rfl) ?_
 refine st (v := (pt b1 0)) (rv_fieldAddr (off := 0) (ft := 36) Try.underlying130 rfl ti36 rfl rfl) ?_
 have hc3 := H.part (us := [(I c_0.1), (Sl ac_0_0_1 c_0.2.1 cc_0_0_1), (I c_0.2.2)]) (o' := 0) 0 0 3 rfl rfl rfl rfl
 refine st (v := (.agg #[(I c_0.1), (Sl ac_0_0_1 c_0.2.1 cc_0_0_1), (I c_0.2.2)])) (rv_load (cs := [(I c_0.1), (Sl ac_0_0_1 c_0.2.1 cc_0_0_1), (I c_0.2.2)]) Try.underlying36 rfl ti36 rfl rfl hc3) ?_
 obtain ⟨r4, hx5, h'⟩ := bind_some h
 clear h
 have h := h'; clear h'
 have hc6 := c_impl_PutItemD (alist_0 := alist_1) (clist_0 := clist_1) (ax_1_1 := ac_0_0_1) (cx_1_1 := cc_0_0_1) hx5
 refine st_call (cx_call hc6 (ent_f hc6.fn rfl) hn0 (show Hp S0 σ0 _ ([Ch.ro 0 (Sl alist_1 list_1 clist_1) list_1, Ch.ro 0 (Sl ac_0_0_1 c_0.2.1 cc_0_0_1) c_0.2.1] ++ [Ch.bx n0 b1 0 [(I c_0.1), (Sl ac_0_0_1 c_0.2.1 cc_0_0_1), (I c_0.2.2)] [] [], Ch.ro 0 (Sl ac_0_0_1 c_0.2.1 cc_0_0_1) c_0.2.1, Ch.ro 0 (Sl alist_1 list_1 clist_1) list_1]) from (H.sel' [2, 1, 0, 1, 2] rfl rfl))) wn ?_
 rintro _ σ11 ⟨_, ⟨a7, c8, K9, rfl, rfl, hK10⟩, H, -⟩
 replace H : Hp S0 σ0 σ11 [Ch.big K9, Ch.bx n0 b1 0 [(I c_0.1), (Sl ac_0_0_1 c_0.2.1 cc_0_0_1), (I c_0.2.2)] [] [], Ch.ro 0 (Sl ac_0_0_1 c_0.2.1 cc_0_0_1) c_0.2.1, Ch.ro 0 (Sl alist_1 list_1 clist_1) list_1] := H
 refine st (v := (Sl a7 r4.1 c8)) (rv_extract rfl rfl) ?_
 refine st (v := (B r4.2)) (rv_extract rfl rfl) ?_
 refine st (v := (Sl a7 r4.1 c8)) (rv_assign rfl) ?_
 refine st (v := (B r4.2)) (rv_assign rfl) ?_
 refine w_end ?_
 refine q_then ?_
 refine c_ret ?_
 obtain rfl := Option.some.inj h
 exact fin_ret (v := (.tuple #[(Sl a7 r4.1 c8), (B r4.2)])) (results_ok Try.results133 (res_tmp (v := (Sl a7 r4.1 c8)) rfl (res_tmp (v := (B r4.2)) rfl res_nil)) rfl) ⟨a7, c8, K9, rfl, rfl, hK10⟩ (H.sel' [0] rfl rfl)

theorem c_impl_ReplayLogD {list_0 : List (Int × (List Int) × Int)} {log_1 : List (Int × (Int × (List Int) × Int))} {alist_0 : Option Addr} {clist_0 : Nat} {alog_1 : Option Addr} {clog_1 : Nat} {r : (List (Int × (List Int) × Int)) × Int} (h : M.impl_ReplayLogD list_0 log_1 = some r) :
    Cal2 Try.prog 49 [(Sl alist_0 list_0 clist_0), (Sl alog_1 log_1 clog_1)] [Ch.ro 0 (Sl alist_0 list_0 clist_0) list_0, Ch.ro 0 (Sl alog_1 log_1 clog_1) log_1] (fun n0 v L => ∃ (az1 : Option Addr), ∃ (cz2 : Nat), ∃ (Kz3 : List Ch), v = (.tuple #[(Sl az1 r.1 cz2), (I r.2)]) ∧ L = [Ch.big Kz3] ∧ Dp 0 (Sl az1 r.1 cz2) r.1 Kz3) := by
 refine cal2 (n := 49) Try.func49 rfl rfl rfl rfl ?_
 intro S0 σ0 n0 hn0 H
 unfold M.impl_ReplayLogD at h
 refine c_seq ?_
 refine rg ?_
 refine st (v := (.slice none 0 0)) (rv_assign rfl) ?_
 refine st (v := (I 0)) (rv_assign rfl) ?_
 refine w_end ?_
 refine q_then ?_
 refine c_seq ?_
 refine rg ?_
 refine st (v := (Sl alog_1 log_1 clog_1)) (rv_move rfl) ?_
 obtain ⟨r1, hx2, h'⟩ := bind_some h
 clear h
 have h := h'; clear h'
 have hc3 := c_impl_changesOf (alog_0 := alog_1) (clog_0 := clog_1) hx2
 refine st_call (cx_call hc3 (ent_f hc3.fn rfl) hn0 (show Hp S0 σ0 _ ([Ch.ro 0 (Sl alog_1 log_1 clog_1) log_1] ++ [Ch.ro 0 (Sl alist_0 list_0 clist_0) list_0, Ch.ro 0 (Sl alog_1 log_1 clog_1) log_1]) from (H.sel' [1, 0, 1] rfl rfl))) wn ?_
 rintro _ σ6 ⟨_, ⟨a4, c5, rfl, rfl⟩, H, -⟩
 replace H : Hp S0 σ0 σ6 [Ch.own n0 0 (Sl a4 r1.1 c5) r1.1, Ch.ro 0 (Sl alist_0 list_0 clist_0) list_0, Ch.ro 0 (Sl alog_1 log_1 clog_1) log_1] := H
 refine st (v := (.tuple #[(Sl a4 r1.1 c5), (B r1.2)])) (rv_move rfl) ?_
 refine st (v := (Sl a4 r1.1 c5)) (rv_extract rfl rfl) ?_
 refine st (v := (B r1.2)) (rv_extract rfl rfl) ?_
 refine st (v := (Sl a4 r1.1 c5)) (rv_assign rfl) ?_
 refine st (v := (B r1.2)) (rv_assign rfl) ?_
 refine w_end ?_
 refine q_then ?_
 refine c_seq ?_
 refine c_seq ?_
 obtain ⟨o7, hj, h'⟩ := bind_some h
 clear h
 refine c_cut (fun e a w => e = .normal ∧ ∃ (ρ : Nat → Value) (σ : St), a = fr 49 (updL ρ [(0, (Sl alist_0 list_0 clist_0)), (6, (Sl a4 r1.1 c5)), (24, (B o7))]) ∧ w = σ.w ∧ Hp S0 σ0 σ [Ch.ro 0 (Sl alist_0 list_0 clist_0) list_0, Ch.own n0 0 (Sl a4 r1.1 c5) r1.1]) ?_ ?_
 ·clear h'
  rename _ = some o7 => h
  refine rg ?_
  refine st (v := (B r1.2)) (rv_move rfl) ?_
  refine st (v := (B (!r1.2))) (rv_not rfl) ?_
  refine st (v := (B (!r1.2))) (rv_move rfl) ?_
  rcases Bool.eq_false_or_eq_true (!r1.2) with hb8 | hb8
  ·replace h := bif_t hb8 h
   refine st_skip (congrArg some hb8) ?_
   refine st_skip (congrArg some hb8) ?_
   refine st_skip (congrArg some hb8) ?_
   refine st (v := (B true)) (rv_pick_t (congrArg B hb8) rfl) ?_
   refine w_end ?_
   obtain rfl := Option.some.inj h
   exact ⟨rfl, _, σ6, fr_join ⟨rfl, rfl, rfl, trivial⟩, rfl, H.sel' [1, 0] rfl rfl⟩
  ·replace h := bif_f hb8 h
   refine st_g (v := (Sl alist_0 list_0 clist_0)) (congrArg some hb8) (rv_move rfl) ?_
   obtain ⟨r9, hx10, h'⟩ := bind_some h
   clear h
   have h := h'; clear h'
   have hc11 := c_impl_ValidStore (alist_0 := alist_0) (clist_0 := clist_0) hx10
   refine st_call (cx_call hc11 (ent_f hc11.fn rfl) hn0 (show Hp S0 σ0 _ ([Ch.ro 0 (Sl alist_0 list_0 clist_0) list_0] ++ [Ch.own n0 0 (Sl a4 r1.1 c5) r1.1, Ch.ro 0 (Sl alist_0 list_0 clist_0) list_0, Ch.ro 0 (Sl alog_1 log_1 clog_1) log_1]) from (H.sel' [1, 0, 1, 2] rfl rfl))) (wanted_yes rfl (by exact (congrArg some hb8))) ?_
   rintro _ σ12 ⟨_, ⟨rfl, rfl⟩, H, -⟩
   replace H : Hp S0 σ0 σ12 [Ch.own n0 0 (Sl a4 r1.1 c5) r1.1, Ch.ro 0 (Sl alist_0 list_0 clist_0) list_0, Ch.ro 0 (Sl alog_1 log_1 clog_1) log_1] := H
   refine st_g (v := (B (!r9))) (congrArg some hb8) (rv_not rfl) ?_
   refine st (v := (B (!r9))) (rv_pick_f (congrArg B hb8) rfl) ?_
   refine w_end ?_
   obtain rfl := Option.some.inj h
   exact ⟨rfl, _, σ12, fr_join ⟨rfl, rfl, rfl, trivial⟩, rfl, H.sel' [1, 0] rfl rfl⟩
 ·clear hj
  have h := h'
  clear h' H
  rintro e a w ⟨rfl, ρ, σ13, rfl, rfl, H⟩
  refine q_then ?_
  refine cd_cond o7 rfl (fun hb14 => ?_) (fun hb14 => ?_)
  ·replace h := bif_t hb14 h
   refine c_seq ?_
   refine rg ?_
   refine st (v := (.slice none 0 0)) (rv_assign rfl) ?_
   refine st (v := (I (-1))) (rv_assign rfl) ?_
   refine w_end ?_
   refine q_then ?_
   refine c_ret ?_
   refine q_then_r ?_
   obtain ⟨K15, hK16, H⟩ := H.nilDp (Int × (List Int) × Int) 0
   obtain rfl := Option.some.inj h
   exact fin_ret (v := (.tuple #[(.slice none 0 0), (I (-1))])) (results_ok Try.results49 (res_tmp (v := (.slice none 0 0)) rfl (res_tmp (v := (I (-1))) rfl res_nil)) rfl) ⟨none, 0, K15, rfl, rfl, hK16⟩ (H.sel' [0] rfl rfl)
  ·replace h := bif_f hb14 h
   refine c_skip ?_
   refine q_then ?_
   refine c_seq ?_
   refine rg ?_
   refine st (v := (Sl alist_0 list_0 clist_0)) (rv_move rfl) ?_
   obtain ⟨r17, hx18, h'⟩ := bind_some h
   clear h
   have h := h'; clear h'
   have hc19 := c_impl_copyItems (alist_0 := alist_0) (clist_0 := clist_0) hx18
   refine st_call (cx_call hc19 (ent_f hc19.fn rfl) hn0 (show Hp S0 σ0 _ ([Ch.ro 0 (Sl alist_0 list_0 clist_0) list_0] ++ [Ch.ro 0 (Sl alist_0 list_0 clist_0) list_0, Ch.own n0 0 (Sl a4 r1.1 c5) r1.1]) from (H.sel' [0, 0, 1] rfl rfl))) wn ?_
   rintro _ σ25 ⟨_, ⟨a20, c21, K22, rfl, rfl, hK23, ht24⟩, H, -⟩
   replace H : Hp S0 σ0 σ25 [Ch.big K22, Ch.ro 0 (Sl alist_0 list_0 clist_0) list_0, Ch.own n0 0 (Sl a4 r1.1 c5) r1.1] := H
   refine st (v := (Sl a20 r17 c21)) (rv_assign rfl) ?_
   refine w_end ?_
   refine q_then ?_
   refine c_seq ?_
   refine c_seq ?_
   refine rg ?_
   refine st (v := (Sl a4 r1.1 c5)) (rv_move rfl) ?_
   refine st (v := (I (r1.1.length : Int))) (rv_len Try.underlying108 rfl) ?_
   refine st (v := (I 0)) (rv_move rfl) ?_
   refine w_end ?_
   refine q_then ?_
   obtain ⟨o26, hj, h'⟩ := bind_some h
   clear h
   refine c_cut (fun e a w => (∃ t, o26 = (.inl t) ∧ e = .normal ∧ ∃ (ρ : Nat → Value) (σ : St) (aj1 : Option Addr) (cj2 : Nat) (Kj3 : List Ch), a = fr 49 (updL ρ [(6, (Sl a4 r1.1 c5)), (8, (Sl aj1 t cj2))]) ∧ w = σ.w ∧ Hp S0 σ0 σ [Ch.own n0 0 (Sl a4 r1.1 c5) r1.1, Ch.big Kj3] ∧ Dp 0 (Sl aj1 t cj2) t Kj3) ∨ (∃ t, o26 = (.inr t) ∧ e = .ret ∧ ∃ (ρ : Nat → Value) (σ : St) (aj1 : Option Addr) (cj2 : Nat) (Kj3 : List Ch), a = fr 49 (updL ρ [(4, (Sl aj1 t.1 cj2)), (5, (I t.2))]) ∧ w = σ.w ∧ Hp S0 σ0 σ [Ch.big Kj3] ∧ Dp 0 (Sl aj1 t.1 cj2) t.1 Kj3)) ?_ ?_
   ·clear h'
    rename _ = some o26 => h
    refine c_blk ?_
    refine wp_loopM _ h (fun s27 a w => ∃ (ρ : Nat → Value) (σ : St) (aj1 : Option Addr) (cj2 : Nat) (Kj3 : List Ch), a = fr 49 (updL ρ [(6, (Sl a4 r1.1 c5)), (8, (Sl aj1 s27.1 cj2)), (27, (Sl a4 r1.1 c5)), (28, (I (r1.1.length : Int))), (29, (I s27.2))]) ∧ w = σ.w ∧ Hp S0 σ0 σ [Ch.own n0 0 (Sl a4 r1.1 c5) r1.1, Ch.big Kj3] ∧ Dp 0 (Sl aj1 s27.1 cj2) s27.1 Kj3) ⟨_, σ25, a20, c21, K22, fr_join ⟨rfl, rfl, rfl, rfl, rfl, trivial⟩, rfl, H.sel' [2, 0] rfl rfl, hK23⟩ ?_
    clear h H
    rintro s27 a w o ⟨ρ, σ28, a29, c30, K31, rfl, rfl, H, hK32⟩ h hres
    refine c_seq ?_
    refine rg ?_
    refine st (v := (B (decide (s27.2 < (r1.1.length : Int))))) (rv_lss (a := s27.2) (b := (r1.1.length : Int)) rfl rfl) ?_
    refine w_end ?_
    refine q_then ?_
    refine c_seq ?_
    refine cd_cond (decide (s27.2 < (r1.1.length : Int))) rfl (fun hb33 => ?_) (fun hb33 => ?_)
    ·replace h := bif_t hb33 h
     refine c_skip ?_
     refine q_then ?_
     refine c_seq ?_
     refine c_blk ?_
     refine c_seq ?_
     refine rg ?_
     refine st (v := (I s27.2)) (rv_move rfl) ?_
     obtain ⟨x34, hx35, h'⟩ := bind_some h
     clear h
     have h := h'; clear h'
     obtain ⟨b37, o38, hi36, -⟩ := (H.own 0 rfl).ix hx35
     refine st (v := (pt b37 o38)) (rv_ix Try.underlying108 ti113 rfl rfl hi36) ?_
     obtain ⟨_, ⟨_, _, rfl, ⟨_, _, rfl, rfl, ⟨_, _, rfl, ⟨_, rfl, hR44⟩, rfl⟩⟩, rfl⟩, hl39, hq40⟩ := ((H.own 0 rfl).at hx35 hi36).cells
     obtain ⟨a42, c43, rfl⟩ := hR44.isSl
     have hc41 : HCell _ _ _ = some (ifs2 x34.1 (.iface 132 (.agg #[(I x34.2.1)])) (.iface 130 (.agg #[(I x34.2.2.1), (Sl a42 x34.2.2.2.1 c43), (I x34.2.2.2.2)]))) := hq40 0 Nat.zero_lt_one
     clear hq40
     replace H := H.add (d := Ch.ro 0 (Sl a42 x34.2.2.2.1 c43) x34.2.2.2.1) hR44 (fun _ h => h)
     clear hR44
     refine st (v := (ifs2 x34.1 (.iface 132 (.agg #[(I x34.2.1)])) (.iface 130 (.agg #[(I x34.2.2.1), (Sl a42 x34.2.2.2.1 c43), (I x34.2.2.2.2)])))) (rv_load1 Try.underlying113 rfl rfl hc41) ?_
     refine st (v := (I s27.2)) (rv_assign rfl) ?_
     refine st (v := (ifs2 x34.1 (.iface 132 (.agg #[(I x34.2.1)])) (.iface 130 (.agg #[(I x34.2.2.1), (Sl a42 x34.2.2.2.1 c43), (I x34.2.2.2.2)])))) (rv_assign rfl) ?_
     refine w_end ?_
     refine q_then ?_
     refine c_seq ?_
     obtain ⟨o45, hj, h'⟩ := bind_some h
     clear h
     refine c_cut (fun e a w => e = .normal ∧ ∃ (ρ : Nat → Value) (σ : St) (aj1 : Option Addr) (cj2 : Nat) (Kj3 : List Ch), a = fr 49 (updL ρ [(6, (Sl a4 r1.1 c5)), (8, (Sl a29 s27.1 c30)), (9, (I s27.2)), (11, (Sl aj1 o45.1 cj2)), (12, (B o45.2)), (27, (Sl a4 r1.1 c5)), (28, (I (r1.1.length : Int))), (29, (I s27.2))]) ∧ w = σ.w ∧ Hp S0 σ0 σ [Ch.own n0 0 (Sl a4 r1.1 c5) r1.1, Ch.big K31, Ch.big Kj3] ∧ Dp 0 (Sl aj1 o45.1 cj2) o45.1 Kj3) ?_ ?_
     ·clear h'
      rename _ = some o45 => h
      refine rg ?_
      refine st (v := (ifs2 x34.1 (.iface 132 (.agg #[(I x34.2.1)])) (.iface 130 (.agg #[(I x34.2.2.1), (Sl a42 x34.2.2.2.1 c43), (I x34.2.2.2.2)])))) (rv_move rfl) ?_
      refine st (v := (Sl a29 s27.1 c30)) (rv_move rfl) ?_
      rcases Bool.eq_false_or_eq_true (x34.1 == 1) with hb46 | hb46
      ·replace h := bif_t hb46 h
       have hv48 : (ifs2 x34.1 (.iface 132 (.agg #[(I x34.2.1)])) (.iface 130 (.agg #[(I x34.2.2.1), (Sl a42 x34.2.2.2.1 c43), (I x34.2.2.2.2)]))) = (.iface 132 (.agg #[(I x34.2.1)]) : Value) := ct hb46
       obtain ⟨r49, hx50, h'⟩ := bind_some h
       clear h
       have h := h'; clear h'
       have hc51 := c_impl_dropChange_applyD (alist_1 := a29) (clist_1 := c30) hx50
       have hle := Nat.le_trans hn0 H.size
       refine st_call (cx_lend (Loan.lendB hK32.lends Loan.nil) hc51 ((by exact ent_ix hc51.fn (by kernel_rfl) Try.underlying132 rfl hv48 rfl)) (show Hp S0 σ0 _ ([Ch.big K31] ++ ([] ++ [Ch.ro 0 (Sl a42 x34.2.2.2.1 c43) x34.2.2.2.1, Ch.own n0 0 (Sl a4 r1.1 c5) r1.1])) from (H.sel' [2, 0, 1] rfl rfl)) (by rintro _ _ _ ⟨_, _, _, rfl, rfl, hK55⟩; exact ⟨Dp.abSc hK55, trivial⟩)) wn ?_
       rintro _ σ56 ⟨_, ⟨a52, c53, K54, rfl, rfl, hK55⟩, H, -, -⟩
       replace H : Hp S0 σ0 σ56 [Ch.big K54, Ch.big K31, Ch.ro 0 (Sl a42 x34.2.2.2.1 c43) x34.2.2.2.1, Ch.own n0 0 (Sl a4 r1.1 c5) r1.1] := H
       clear hle
       replace H : Hp S0 σ0 σ56 [Ch.big K54, Ch.big K31, Ch.ro 0 (Sl a42 x34.2.2.2.1 c43) x34.2.2.2.1, Ch.own n0 0 (Sl a4 r1.1 c5) r1.1] := H
       refine st (v := (.tuple #[(Sl a52 r49.1 c53), (B r49.2)])) (rv_move rfl) ?_
       refine st (v := (Sl a52 r49.1 c53)) (rv_extract rfl rfl) ?_
       refine st (v := (B r49.2)) (rv_extract rfl rfl) ?_
       refine st (v := (Sl a52 r49.1 c53)) (rv_assign rfl) ?_
       refine st (v := (B r49.2)) (rv_assign rfl) ?_
       refine w_end ?_
       obtain rfl := Option.some.inj h
       exact ⟨rfl, _, σ56, a52, c53, K54, fr_join ⟨rfl, rfl, rfl, rfl, rfl, rfl, rfl, rfl, trivial⟩, rfl, H.sel' [3, 1, 0] rfl rfl, hK55⟩
      ·replace h := bif_f hb46 h
       rcases Bool.eq_false_or_eq_true (x34.1 == 2) with hb47 | hb47
       ·replace h := bif_t hb47 h
        have hv57 : (ifs2 x34.1 (.iface 132 (.agg #[(I x34.2.1)])) (.iface 130 (.agg #[(I x34.2.2.1), (Sl a42 x34.2.2.2.1 c43), (I x34.2.2.2.2)]))) = (.iface 130 (.agg #[(I x34.2.2.1), (Sl a42 x34.2.2.2.1 c43), (I x34.2.2.2.2)]) : Value) := (cf hb46).trans (ct hb47)
        obtain ⟨r58, hx59, h'⟩ := bind_some h
        clear h
        have h := h'; clear h'
        have hc60 := c_impl_putChange_applyD (ac_0_0_1 := a42) (cc_0_0_1 := c43) (alist_1 := a29) (clist_1 := c30) hx59
        have hle := Nat.le_trans hn0 H.size
        refine st_call (cx_lend (Loan.same (Loan.lendB hK32.lends Loan.nil)) hc60 ((by exact ent_ix hc60.fn (by kernel_rfl) Try.underlying130 rfl hv57 rfl)) (show Hp S0 σ0 _ ([Ch.big K31] ++ ([Ch.ro 0 (Sl a42 x34.2.2.2.1 c43) x34.2.2.2.1] ++ [Ch.ro 0 (Sl a42 x34.2.2.2.1 c43) x34.2.2.2.1, Ch.own n0 0 (Sl a4 r1.1 c5) r1.1])) from (H.sel' [2, 0, 0, 1] rfl rfl)) (by rintro _ _ _ ⟨_, _, _, rfl, rfl, hK64⟩; exact ⟨Dp.abSc hK64, trivial⟩)) wn ?_
        rintro _ σ65 ⟨_, ⟨a61, c62, K63, rfl, rfl, hK64⟩, H, -, -⟩
        replace H : Hp S0 σ0 σ65 [Ch.big K63, Ch.big K31, Ch.ro 0 (Sl a42 x34.2.2.2.1 c43) x34.2.2.2.1, Ch.own n0 0 (Sl a4 r1.1 c5) r1.1] := H
        clear hle
        replace H : Hp S0 σ0 σ65 [Ch.big K63, Ch.big K31, Ch.ro 0 (Sl a42 x34.2.2.2.1 c43) x34.2.2.2.1, Ch.own n0 0 (Sl a4 r1.1 c5) r1.1] := H
        refine st (v := (.tuple #[(Sl a61 r58.1 c62), (B r58.2)])) (rv_move rfl) ?_
        refine st (v := (Sl a61 r58.1 c62)) (rv_extract rfl rfl) ?_
        refine st (v := (B r58.2)) (rv_extract rfl rfl) ?_
        refine st (v := (Sl a61 r58.1 c62)) (rv_assign rfl) ?_
        refine st (v := (B r58.2)) (rv_assign rfl) ?_
        refine w_end ?_
        obtain rfl := Option.some.inj h
        exact ⟨rfl, _, σ65, a61, c62, K63, fr_join ⟨rfl, rfl, rfl, rfl, rfl, rfl, rfl, rfl, trivial⟩, rfl, H.sel' [3, 1, 0] rfl rfl, hK64⟩
       ·replace h := bif_f hb47 h
        cases h
     ·clear hj
      have h := h'
      clear h' H
      rintro e a w ⟨rfl, ρ, σ67, a68, c69, K70, rfl, rfl, H, hK71⟩
      refine q_then ?_
      refine c_seq ?_
      refine c_seq ?_
      refine rg ?_
      refine st (v := (B o45.2)) (rv_move rfl) ?_
      refine st (v := (B (!o45.2))) (rv_not rfl) ?_
      refine w_end ?_
      refine q_then ?_
      refine cd_cond (!o45.2) rfl (fun hb72 => ?_) (fun hb72 => ?_)
      ·replace h := bif_t hb72 h
       refine c_seq ?_
       refine rg ?_
       refine st (v := (Sl a29 s27.1 c30)) (rv_move rfl) ?_
       refine st (v := (I s27.2)) (rv_move rfl) ?_
       refine st (v := (Sl a29 s27.1 c30)) (rv_assign rfl) ?_
       refine st (v := (I s27.2)) (rv_assign rfl) ?_
       refine w_end ?_
       refine q_then ?_
       refine c_ret ?_
       refine q_then_r ?_
       refine q_blk_r ?_
       refine q_then_r ?_
       refine q_then_r ?_
       refine q_blk_r ?_
       obtain rfl := Option.some.inj h
       obtain rfl := hres _ rfl
       exact .inr (⟨_, rfl, rfl, _, σ67, a29, c30, K31, fr_join ⟨rfl, rfl, trivial⟩, rfl, H.sel' [1] rfl rfl, hK32⟩)
      ·replace h := bif_f hb72 h
       refine c_skip ?_
       refine q_then ?_
       refine rg ?_
       refine st (v := (Sl a68 o45.1 c69)) (rv_move rfl) ?_
       refine st (v := (Sl a68 o45.1 c69)) (rv_assign rfl) ?_
       refine w_end ?_
       refine q_blk ?_
       refine q_then ?_
       refine rg ?_
       refine st (v := (I (w64 (s27.2 + 1)))) (rv_add (a := s27.2) (b := 1) rfl rfl) ?_
       refine st (v := (I (w64 (s27.2 + 1)))) (rv_move rfl) ?_
       refine w_end ?_
       refine q_then ?_
       obtain rfl := Option.some.inj h
       exact ⟨_, rfl, _, σ67, a68, c69, K70, fr_join ⟨rfl, rfl, rfl, rfl, rfl, trivial⟩, rfl, H.sel' [0, 2] rfl rfl, hK71⟩
    ·replace h := bif_f hb33 h
     refine c_exit ?_
     refine q_then_x ?_
     refine q_then_x ?_
     refine q_blk_hit ?_
     obtain rfl := Option.some.inj h
     obtain rfl := hres _ rfl
     exact .inl ⟨_, rfl, rfl, _, σ28, a29, c30, K31, fr_join ⟨rfl, rfl, trivial⟩, rfl, H.sel' [0, 1] rfl rfl, hK32⟩
   ·clear hj
    have h := h'
    clear h' H
    rintro e a w (⟨t73, rfl, rfl, ρ, σ74, a75, c76, K77, rfl, rfl, H, hK78⟩ | ⟨t79, rfl, rfl, ρ, σ80, a81, c82, K83, rfl, rfl, H, hK84⟩)
    ·replace h := selim_l h
     refine q_then ?_
     refine c_seq ?_
     refine rg ?_
     refine st (v := (Sl a75 t73 c76)) (rv_move rfl) ?_
     refine st (v := (Sl a4 r1.1 c5)) (rv_move rfl) ?_
     refine st (v := (I (r1.1.length : Int))) (rv_len Try.underlying108 rfl) ?_
     refine st (v := (Sl a75 t73 c76)) (rv_assign rfl) ?_
     refine st (v := (I (r1.1.length : Int))) (rv_assign rfl) ?_
     refine w_end ?_
     refine q_then ?_
     refine c_ret ?_
     obtain rfl := Option.some.inj h
     exact fin_ret (v := (.tuple #[(Sl a75 t73 c76), (I (r1.1.length : Int))])) (results_ok Try.results49 (res_tmp (v := (Sl a75 t73 c76)) rfl (res_tmp (v := (I (r1.1.length : Int))) rfl res_nil)) rfl) ⟨a75, c76, K77, rfl, rfl, hK78⟩ (H.sel' [1] rfl rfl)
    ·replace h := selim_r h
     refine q_then_r ?_
     obtain rfl := Option.some.inj h
     exact fin_ret (v := (.tuple #[(Sl a81 t79.1 c82), (I t79.2)])) (results_ok Try.results49 (res_tmp (v := (Sl a81 t79.1 c82)) rfl (res_tmp (v := (I t79.2)) rfl res_nil)) rfl) ⟨a81, c82, K83, rfl, rfl, hK84⟩ (H.sel' [0] rfl rfl)

theorem c_impl_ValidHistoryD {h_0 : (List (Int × (Int × (List Int) × Int))) × (List Int)} {ah_0_0 : Option Addr} {ch_0_0 : Nat} {ah_0_1 : Option Addr} {ch_0_1 : Nat} {r : Bool} (h : M.impl_ValidHistoryD h_0 = some r) :
    Cal2 Try.prog 13 [(.agg #[(Sl ah_0_0 h_0.1 ch_0_0), (Sl ah_0_1 h_0.2 ch_0_1)])] [Ch.ro 0 (Sl ah_0_0 h_0.1 ch_0_0) h_0.1, Ch.ro 0 (Sl ah_0_1 h_0.2 ch_0_1) h_0.2] (fun n0 v L => v = (B r) ∧ L = []) := by
 refine cal2 (n := 29) Try.func13 rfl rfl rfl rfl ?_
 intro S0 σ0 n0 hn0 H
 unfold M.impl_ValidHistoryD at h
 refine c_seq ?_
 refine rg ?_
 refine st_ex (ex_box (cs := [(Sl ah_0_0 h_0.1 ch_0_0), (Sl ah_0_1 h_0.2 ch_0_1)]) H hn0 rfl rfl) wn ?_
 rintro _ σ2 ⟨b1, rfl, H, -⟩
 refine st (v := (B false)) (rv_assign rfl) ?_
 refine w_end ?_
 refine q_then ?_
 refine c_seq ?_
 refine c_seq ?_
 obtain ⟨o3, hj, h'⟩ := bind_some h
 clear h
 refine c_cut (fun e a w => e = .normal ∧ ∃ (ρ : Nat → Value) (σ : St), a = fr 29 (updL ρ [(1, (pt b1 0)), (17, (B o3))]) ∧ w = σ.w ∧ Hp S0 σ0 σ [Ch.ro 0 (Sl ah_0_0 h_0.1 ch_0_0) h_0.1, Ch.ro 0 (Sl ah_0_1 h_0.2 ch_0_1) h_0.2, Ch.bx n0 b1 0 [(Sl ah_0_0 h_0.1 ch_0_0), (Sl ah_0_1 h_0.2 ch_0_1)] [] []]) ?_ ?_
 ·clear h'
  rename _ = some o3 => h
  refine rg ?_
  refine st (v := (pt b1 1)) (rv_fieldAddr (off := 1) (ft := 24) Try.underlying26 rfl ti24 rfl rfl) ?_
  have hc4 := H.cell (u := (Sl ah_0_1 h_0.2 ch_0_1)) (o' := 1) 0 1 rfl rfl rfl
  refine st (v := (Sl ah_0_1 h_0.2 ch_0_1)) (rv_load1 Try.underlying24 rfl rfl hc4) ?_
  refine st (v := (I (h_0.2.length : Int))) (rv_len Try.underlying24 rfl) ?_
  refine st (v := (pt b1 0)) (rv_fieldAddr (off := 0) (ft := 23) Try.underlying26 rfl ti23 rfl rfl) ?_
  have hc5 := H.cell (u := (Sl ah_0_0 h_0.1 ch_0_0)) (o' := 0) 0 0 rfl rfl rfl
  refine st (v := (Sl ah_0_0 h_0.1 ch_0_0)) (rv_load1 Try.underlying23 rfl rfl hc5) ?_
  refine st (v := (I (h_0.1.length : Int))) (rv_len Try.underlying23 rfl) ?_
  refine st (v := (B ((h_0.2.length : Int) != (h_0.1.length : Int)))) (rv_neq (a := (h_0.2.length : Int)) (b := (h_0.1.length : Int)) rfl rfl) ?_
  refine st (v := (B ((h_0.2.length : Int) != (h_0.1.length : Int)))) (rv_move rfl) ?_
  rcases Bool.eq_false_or_eq_true ((h_0.2.length : Int) != (h_0.1.length : Int)) with hb6 | hb6
  ·replace h := bif_t hb6 h
   refine st_skip (congrArg some hb6) ?_
   refine st_skip (congrArg some hb6) ?_
   refine st_skip (congrArg some hb6) ?_
   refine st_skip (congrArg some hb6) ?_
   refine st (v := (B true)) (rv_pick_t (congrArg B hb6) rfl) ?_
   refine w_end ?_
   obtain rfl := Option.some.inj h
   exact ⟨rfl, _, σ2, fr_join ⟨rfl, rfl, trivial⟩, rfl, H.sel' [1, 2, 0] rfl rfl⟩
  ·replace h := bif_f hb6 h
   refine st_g (v := (pt b1 1)) (congrArg some hb6) (rv_fieldAddr (off := 1) (ft := 24) Try.underlying26 rfl ti24 rfl rfl) ?_
   have hc7 := H.cell (u := (Sl ah_0_1 h_0.2 ch_0_1)) (o' := 1) 0 1 rfl rfl rfl
   refine st_g (v := (Sl ah_0_1 h_0.2 ch_0_1)) (congrArg some hb6) (rv_load1 Try.underlying24 rfl rfl hc7) ?_
   obtain ⟨r8, hx9, h'⟩ := bind_some h
   clear h
   have h := h'; clear h'
   have hc10 := c_impl_validTimes (atimes_0 := ah_0_1) (ctimes_0 := ch_0_1) hx9
   refine st_call (cx_call hc10 (ent_f hc10.fn rfl) hn0 (show Hp S0 σ0 _ ([Ch.ro 0 (Sl ah_0_1 h_0.2 ch_0_1) h_0.2] ++ [Ch.bx n0 b1 0 [(Sl ah_0_0 h_0.1 ch_0_0), (Sl ah_0_1 h_0.2 ch_0_1)] [] [], Ch.ro 0 (Sl ah_0_0 h_0.1 ch_0_0) h_0.1, Ch.ro 0 (Sl ah_0_1 h_0.2 ch_0_1) h_0.2]) from (H.sel' [2, 0, 1, 2] rfl rfl))) (wanted_yes rfl (by exact (congrArg some hb6))) ?_
   rintro _ σ11 ⟨_, ⟨rfl, rfl⟩, H, -⟩
   replace H : Hp S0 σ0 σ11 [Ch.bx n0 b1 0 [(Sl ah_0_0 h_0.1 ch_0_0), (Sl ah_0_1 h_0.2 ch_0_1)] [] [], Ch.ro 0 (Sl ah_0_0 h_0.1 ch_0_0) h_0.1, Ch.ro 0 (Sl ah_0_1 h_0.2 ch_0_1) h_0.2] := H
   refine st_g (v := (B (!r8))) (congrArg some hb6) (rv_not rfl) ?_
   refine st (v := (B (!r8))) (rv_pick_f (congrArg B hb6) rfl) ?_
   refine w_end ?_
   obtain rfl := Option.some.inj h
   exact ⟨rfl, _, σ11, fr_join ⟨rfl, rfl, trivial⟩, rfl, H.sel' [1, 2, 0] rfl rfl⟩
 ·clear hj
  have h := h'
  clear h' H
  rintro e a w ⟨rfl, ρ, σ12, rfl, rfl, H⟩
  refine q_then ?_
  refine cd_cond o3 rfl (fun hb13 => ?_) (fun hb13 => ?_)
  ·replace h := bif_t hb13 h
   refine c_seq ?_
   refine rg ?_
   refine st (v := (B false)) (rv_assign rfl) ?_
   refine w_end ?_
   refine q_then ?_
   refine c_ret ?_
   refine q_then_r ?_
   obtain rfl := Option.some.inj h
   exact fin_ret (v := (B false)) (results_ok Try.results13 (res_tmp (v := (B false)) rfl res_nil) rfl) ⟨rfl, rfl⟩ (H.sel' [] rfl rfl)
  ·replace h := bif_f hb13 h
   refine c_skip ?_
   refine q_then ?_
   refine c_seq ?_
   refine rg ?_
   refine st (v := (pt b1 0)) (rv_fieldAddr (off := 0) (ft := 23) Try.underlying26 rfl ti23 rfl rfl) ?_
   have hc14 := H.cell (u := (Sl ah_0_0 h_0.1 ch_0_0)) (o' := 0) 2 0 rfl rfl rfl
   refine st (v := (Sl ah_0_0 h_0.1 ch_0_0)) (rv_load1 Try.underlying23 rfl rfl hc14) ?_
   replace H := H.nilRo (Int × (List Int) × Int) 0
   obtain ⟨r15, hx16, h'⟩ := bind_some h
   clear h
   have h := h'; clear h'
   have hc17 := c_impl_ReplayLogD (alist_0 := none) (clist_0 := 0) (alog_1 := ah_0_0) (clog_1 := ch_0_0) hx16
   refine st_call (cx_call hc17 (ent_f hc17.fn rfl) hn0 (show Hp S0 σ0 _ ([Ch.ro 0 (Sl none ([] : List (Int × (List Int) × Int)) 0) ([] : List (Int × (List Int) × Int)), Ch.ro 0 (Sl ah_0_0 h_0.1 ch_0_0) h_0.1] ++ [Ch.ro 0 (Sl none ([] : List (Int × (List Int) × Int)) 0) ([] : List (Int × (List Int) × Int)), Ch.ro 0 (Sl ah_0_0 h_0.1 ch_0_0) h_0.1, Ch.ro 0 (Sl ah_0_1 h_0.2 ch_0_1) h_0.2, Ch.bx n0 b1 0 [(Sl ah_0_0 h_0.1 ch_0_0), (Sl ah_0_1 h_0.2 ch_0_1)] [] []]) from (H.sel' [0, 1, 0, 1, 2, 3] rfl rfl))) wn ?_
   rintro _ σ22 ⟨_, ⟨a18, c19, K20, rfl, rfl, hK21⟩, H, -⟩
   replace H : Hp S0 σ0 σ22 [Ch.big K20, Ch.ro 0 (Sl none ([] : List (Int × (List Int) × Int)) 0) ([] : List (Int × (List Int) × Int)), Ch.ro 0 (Sl ah_0_0 h_0.1 ch_0_0) h_0.1, Ch.ro 0 (Sl ah_0_1 h_0.2 ch_0_1) h_0.2, Ch.bx n0 b1 0 [(Sl ah_0_0 h_0.1 ch_0_0), (Sl ah_0_1 h_0.2 ch_0_1)] [] []] := H
   refine st (v := (.tuple #[(Sl a18 r15.1 c19), (I r15.2)])) (rv_move rfl) ?_
   refine st (v := (Sl a18 r15.1 c19)) (rv_extract rfl rfl) ?_
   refine st (v := (I r15.2)) (rv_extract rfl rfl) ?_
   refine st (v := (Sl a18 r15.1 c19)) (rv_assign rfl) ?_
   refine st (v := (I r15.2)) (rv_assign rfl) ?_
   refine w_end ?_
   refine q_then ?_
   refine c_seq ?_
   refine rg ?_
   refine st (v := (I r15.2)) (rv_move rfl) ?_
   refine st (v := (pt b1 0)) (rv_fieldAddr (off := 0) (ft := 23) Try.underlying26 rfl ti23 rfl rfl) ?_
   have hc23 := H.cell (u := (Sl ah_0_0 h_0.1 ch_0_0)) (o' := 0) 4 0 rfl rfl rfl
   refine st (v := (Sl ah_0_0 h_0.1 ch_0_0)) (rv_load1 Try.underlying23 rfl rfl hc23) ?_
   refine st (v := (I (h_0.1.length : Int))) (rv_len Try.underlying23 rfl) ?_
   refine st (v := (B (r15.2 == (h_0.1.length : Int)))) (rv_eql (a := r15.2) (b := (h_0.1.length : Int)) rfl rfl) ?_
   refine st (v := (B (r15.2 == (h_0.1.length : Int)))) (rv_assign rfl) ?_
   refine w_end ?_
   refine q_then ?_
   refine c_ret ?_
   obtain rfl := Option.some.inj h
   exact fin_ret (v := (B (r15.2 == (h_0.1.length : Int)))) (results_ok Try.results13 (res_tmp (v := (B (r15.2 == (h_0.1.length : Int)))) rfl res_nil) rfl) ⟨rfl, rfl⟩ (H.sel' [] rfl rfl)

theorem c_impl_validMoment {t_0 : Int}  {r : Bool} (h : M.impl_validMoment t_0 = some r) :
    Cal2 Try.prog 40 [(I t_0)] [] (fun n0 v L => v = (B r) ∧ L = []) := by
 refine cal2 (n := 9) Try.func40 rfl rfl rfl rfl ?_
 intro S0 σ0 n0 hn0 H
 unfold M.impl_validMoment at h
 refine c_seq ?_
 refine rg ?_
 refine st (v := (B false)) (rv_assign rfl) ?_
 refine w_end ?_
 refine q_then ?_
 refine c_seq ?_
 refine rg ?_
 refine st (v := (I t_0)) (rv_move rfl) ?_
 refine st (v := (B (decide (0 ≤ t_0)))) (rv_geq (a := t_0) (b := 0) rfl rfl) ?_
 refine st (v := (B (decide (0 ≤ t_0)))) (rv_move rfl) ?_
 rcases Bool.eq_false_or_eq_true (decide (0 ≤ t_0)) with hb1 | hb1
 ·replace h := bif_t hb1 h
  refine st_g (v := (I t_0)) (congrArg some hb1) (rv_move rfl) ?_
  refine st_g (v := (B (decide (t_0 ≤ 1000)))) (congrArg some hb1) (rv_leq (a := t_0) (b := 1000) rfl rfl) ?_
  refine st (v := (B (decide (t_0 ≤ 1000)))) (rv_pick_t (congrArg B hb1) rfl) ?_
  refine st (v := (B (decide (t_0 ≤ 1000)))) (rv_assign rfl) ?_
  refine w_end ?_
  refine q_then ?_
  refine c_ret ?_
  obtain rfl := Option.some.inj h
  exact fin_ret (v := (B (decide (t_0 ≤ 1000)))) (results_ok Try.results40 (res_tmp (v := (B (decide (t_0 ≤ 1000)))) rfl res_nil) rfl) ⟨rfl, rfl⟩ (H.sel' [] rfl rfl)
 ·replace h := bif_f hb1 h
  refine st_skip (congrArg some hb1) ?_
  refine st_skip (congrArg some hb1) ?_
  refine st (v := (B false)) (rv_pick_f (congrArg B hb1) rfl) ?_
  refine st (v := (B false)) (rv_assign rfl) ?_
  refine w_end ?_
  refine q_then ?_
  refine c_ret ?_
  obtain rfl := Option.some.inj h
  exact fin_ret (v := (B false)) (results_ok Try.results40 (res_tmp (v := (B false)) rfl res_nil) rfl) ⟨rfl, rfl⟩ (H.sel' [] rfl rfl)

theorem c_impl_version_node {v_0 : Vr (Int × (List Int) × Int)} {av_0 : Option Addr} {r : ((Po (Int × (List Int) × Int)) × ((Vr (Int × (List Int) × Int)) × (Vr (Int × (List Int) × Int))))} (h : M.impl_version_node v_0 = some r) :
    Cal2 Try.prog 76 [(.pointer av_0)] [Ch.pv 0 (.pointer av_0) v_0] (fun n0 v L => ∃ (az1 : Option Addr), ∃ (az2 : Option Addr), ∃ (az3 : Option Addr), v = (.agg #[(.pointer az1), (.pointer az2), (.pointer az3)]) ∧ L = [Ch.pv 0 (.pointer az1) r.1, Ch.pv 0 (.pointer az2) r.2.1, Ch.pv 0 (.pointer az3) r.2.2]) := by
 refine cal2 (n := 9) Try.func76 rfl rfl rfl rfl ?_
 intro S0 σ0 n0 hn0 H
 unfold M.impl_version_node at h
 refine c_seq ?_
 refine rg ?_
 refine st_ex (ex_alloc (cs := [(.pointer none), (.pointer none), (.pointer none)]) H hn0 ti102 rfl) wn ?_
 rintro _ σ2 ⟨b1, rfl, H, -⟩
 refine w_end ?_
 refine q_then ?_
 refine c_seq ?_
 refine c_seq ?_
 refine rg ?_
 refine st (v := (.pointer av_0)) (rv_move rfl) ?_
 refine st (v := (B v_0.isNil)) (rv_eqlNilV Try.underlying72 (H.pv 1 rfl) rfl rfl) ?_
 refine w_end ?_
 refine q_then ?_
 refine cd_cond v_0.isNil rfl (fun hb3 => ?_) (fun hb3 => ?_)
 ·replace h := bif_t hb3 h
  refine c_seq ?_
  refine rg ?_
  refine st (v := (.agg #[(.pointer none), (.pointer none), (.pointer none)])) (rv_build (ps := []) Try.underlying102 ti102 (bp102 Try.underlying102) rfl (by kernel_rfl)) ?_
  refine st_exS (ex_store_box (k := 0) (cs := [(.pointer none), (.pointer none), (.pointer none)]) (vs := [(.pointer none), (.pointer none), (.pointer none)]) (cs' := [(.pointer none), (.pointer none), (.pointer none)]) H (i := 0) rfl ti102 rfl rfl rfl rfl rfl (Nat.le_of_ble_eq_true rfl) (by simp [plain]) rfl) wn ?_
  rintro σ4 ⟨H, -⟩
  refine w_end ?_
  refine q_then ?_
  refine c_ret ?_
  refine q_then_r ?_
  replace H := H.nilPv (Po (Int × (List Int) × Int)) 0
  replace H := H.nilPv (Vr (Int × (List Int) × Int)) 0
  replace H := H.nilPv (Vr (Int × (List Int) × Int)) 0
  obtain rfl := Option.some.inj h
  exact fin_ret (v := (.agg #[(.pointer none), (.pointer none), (.pointer none)])) (results_ok Try.results76 (res_cell rfl (run_cellRes (cs := [(.pointer none), (.pointer none), (.pointer none)]) Try.underlying102 rfl ti102 rfl (H.cells 3 rfl)) res_nil) rfl) ⟨none, none, none, rfl, rfl⟩ (H.sel' [2, 1, 0] rfl rfl)
 ·replace h := bif_f hb3 h
  refine c_skip ?_
  refine q_then ?_
  refine c_seq ?_
  refine rg ?_
  refine st (v := (.pointer av_0)) (rv_move rfl) ?_
  obtain ⟨x5, hx6, h'⟩ := bind_some h
  clear h
  have h := h'; clear h'
  obtain ⟨b8, o9, hi7⟩ := (H.pv 1 rfl).ex hx6
  refine st (v := (pt b8 o9)) (rv_nilCheckT hi7 rfl) ?_
  obtain ⟨_, ⟨_, _, rfl, ⟨_, rfl, hR13⟩, ⟨_, _, rfl, ⟨_, rfl, hR15⟩, ⟨_, rfl, hR17⟩⟩⟩, hl10, hc11⟩ := ((H.pv 1 rfl).at hx6 hi7).cells
  obtain ⟨a12, rfl⟩ := hR13.isPtr
  obtain ⟨a14, rfl⟩ := hR15.isPtr
  obtain ⟨a16, rfl⟩ := hR17.isPtr
  replace H := H.add (d := Ch.pv 0 (.pointer a12) x5.1) hR13 (fun _ h => h)
  clear hR13
  replace H := H.add (d := Ch.pv 0 (.pointer a14) x5.2.1) hR15 (fun _ h => h)
  clear hR15
  replace H := H.add (d := Ch.pv 0 (.pointer a16) x5.2.2) hR17 (fun _ h => h)
  clear hR17
  refine st (v := (.agg #[(.pointer a12), (.pointer a14), (.pointer a16)])) (rv_load Try.underlying102 rfl ti102 rfl hl10 hc11) ?_
  refine st_exS (ex_store_box (k := 0) (cs := [(.pointer none), (.pointer none), (.pointer none)]) (vs := [(.pointer a12), (.pointer a14), (.pointer a16)]) (cs' := [(.pointer a12), (.pointer a14), (.pointer a16)]) H (i := 3) rfl ti102 rfl rfl rfl rfl rfl (Nat.le_of_ble_eq_true rfl) (by simp [plain]) rfl) wn ?_
  rintro σ18 ⟨H, -⟩
  refine w_end ?_
  refine q_then ?_
  refine c_ret ?_
  obtain rfl := Option.some.inj h
  exact fin_ret (v := (.agg #[(.pointer a12), (.pointer a14), (.pointer a16)])) (results_ok Try.results76 (res_cell rfl (run_cellRes (cs := [(.pointer a12), (.pointer a14), (.pointer a16)]) Try.underlying102 rfl ti102 rfl (H.cells 0 rfl)) res_nil) rfl) ⟨a12, a14, a16, rfl, rfl⟩ (H.sel' [3, 2, 1] rfl rfl)

theorem c_impl_version_with : ∀ (fuel : Nat) {v_0 : Vr (Int × (List Int) × Int)} {key_1 : Int} {bits_2 : Int} {x_3 : Po (Int × (List Int) × Int)} {av_0 : Option Addr} {ax_3 : Option Addr} {r : (Vr (Int × (List Int) × Int))} (h : M.impl_version_with fuel v_0 key_1 bits_2 x_3 = some r),
    Cal2 Try.prog 96 [(.pointer av_0), (I key_1), (I bits_2), (.pointer ax_3)] [Ch.pv 0 (.pointer av_0) v_0, Ch.pv 0 (.pointer ax_3) x_3] (fun n0 v L => ∃ (az1 : Option Addr), v = (.pointer az1) ∧ L = [Ch.pv 0 (.pointer az1) r]) := by
 intro fuel
 induction fuel with
 | zero => intro _ _ _ _ _ _ r h; cases h
 | succ fuel ih =>
 ·intro v_0 key_1 bits_2 x_3 av_0 ax_3 r h
  replace h : M.impl_version_with_F (M.impl_version_with fuel) v_0 key_1 bits_2 x_3 = some r := h
  refine cal2 (n := 34) Try.func96 rfl rfl rfl rfl ?_
  intro S0 σ0 n0 hn0 H
  unfold M.impl_version_with_F at h
  refine c_seq ?_
  refine rg ?_
  refine st (v := (.pointer none)) (rv_assign rfl) ?_
  refine w_end ?_
  refine q_then ?_
  refine c_seq ?_
  refine rg ?_
  refine st (v := (.pointer av_0)) (rv_move rfl) ?_
  obtain ⟨r1, hx2, h'⟩ := bind_some h
  clear h
  have h := h'; clear h'
  have hc3 := c_impl_version_node (av_0 := av_0) hx2
  refine st_call (cx_call hc3 (ent_f hc3.fn rfl) hn0 (show Hp S0 σ0 _ ([Ch.pv 0 (.pointer av_0) v_0] ++ [Ch.pv 0 (.pointer av_0) v_0, Ch.pv 0 (.pointer ax_3) x_3]) from (H.sel' [0, 0, 1] rfl rfl))) wn ?_
  rintro _ σ7 ⟨_, ⟨a4, a5, a6, rfl, rfl⟩, H, -⟩
  replace H : Hp S0 σ0 σ7 [Ch.pv 0 (.pointer a4) r1.1, Ch.pv 0 (.pointer a5) r1.2.1, Ch.pv 0 (.pointer a6) r1.2.2, Ch.pv 0 (.pointer av_0) v_0, Ch.pv 0 (.pointer ax_3) x_3] := H
  refine st_ex (ex_alloc (cs := [(.pointer none), (.pointer none), (.pointer none)]) H hn0 ti102 rfl) wn ?_
  rintro _ σ9 ⟨b8, rfl, H, -⟩
  refine st_exS (ex_store_box (k := 0) (cs := [(.pointer none), (.pointer none), (.pointer none)]) (vs := [(.pointer a4), (.pointer a5), (.pointer a6)]) (cs' := [(.pointer a4), (.pointer a5), (.pointer a6)]) H (i := 0) rfl ti102 rfl rfl rfl rfl rfl (Nat.le_of_ble_eq_true rfl) (by simp [plain]) rfl) wn ?_
  rintro σ10 ⟨H, -⟩
  refine w_end ?_
  refine q_then ?_
  refine c_seq ?_
  refine c_seq ?_
  refine rg ?_
  refine st (v := (I bits_2)) (rv_move rfl) ?_
  refine st (v := (B (bits_2 == 0))) (rv_eql (a := bits_2) (b := 0) rfl rfl) ?_
  refine w_end ?_
  refine q_then ?_
  obtain ⟨o11, hj, h'⟩ := bind_some h
  clear h
  refine c_cut (fun e a w => e = .normal ∧ ∃ (ρ : Nat → Value) (σ : St) (aj1 : Option Addr) (aj2 : Option Addr) (aj3 : Option Addr), a = fr 34 (updL ρ [(9, (pt b8 0))]) ∧ w = σ.w ∧ Hp S0 σ0 σ [Ch.bx n0 b8 0 [(.pointer aj1), (.pointer aj2), (.pointer aj3)] [] [], Ch.pv 0 (.pointer aj1) o11.1, Ch.pv 0 (.pointer aj2) o11.2.1, Ch.pv 0 (.pointer aj3) o11.2.2]) ?_ ?_
  ·clear h'
   rename _ = some o11 => h
   refine cd_cond (bits_2 == 0) rfl (fun hb12 => ?_) (fun hb12 => ?_)
   ·replace h := bif_t hb12 h
    refine rg ?_
    refine st (v := (.pointer ax_3)) (rv_move rfl) ?_
    refine st (v := (pt b8 0)) (rv_fieldAddr (off := 0) (ft := 99) Try.underlying102 rfl ti99 rfl rfl) ?_
    refine st_exS (ex_store_box (k := 0) (cs := [(.pointer a4), (.pointer a5), (.pointer a6)]) (vs := [(.pointer ax_3)]) (cs' := [(.pointer ax_3), (.pointer a5), (.pointer a6)]) H (i := 0) rfl ti99 rfl rfl rfl rfl rfl (Nat.le_of_ble_eq_true rfl) (by simp [plain]) rfl) wn ?_
    rintro σ13 ⟨H, -⟩
    refine w_end ?_
    obtain rfl := Option.some.inj h
    exact ⟨rfl, _, σ13, ax_3, a5, a6, fr_join ⟨rfl, trivial⟩, rfl, H.sel' [0, 5, 2, 3] rfl rfl⟩
   ·replace h := bif_f hb12 h
    refine c_seq ?_
    refine rg ?_
    refine st (v := (I key_1)) (rv_move rfl) ?_
    refine st (v := (I bits_2)) (rv_move rfl) ?_
    refine st (v := (I (w64 (bits_2 - 1)))) (rv_sub (a := bits_2) (b := 1) rfl rfl) ?_
    obtain ⟨q14, hx15, h'⟩ := bind_some h
    clear h
    have h := h'; clear h'
    refine st (v := (I q14)) (rvk_shrG (k := .i64) (k' := .i64) (a := key_1) (b := (w64 (bits_2 - 1))) hx15 rfl rfl) ?_
    refine st (v := (I (gand q14 1))) (rv_and (a := q14) (b := 1) rfl rfl) ?_
    refine st (v := (I (gand q14 1))) (rv_assign rfl) ?_
    refine w_end ?_
    refine q_then ?_
    refine rg ?_
    refine st (v := (I (gand q14 1))) (rv_move rfl) ?_
    refine st (v := (I (gand q14 1))) (rv_move rfl) ?_
    refine st (v := (pt b8 1)) (rv_fieldAddr (off := 1) (ft := 100) Try.underlying102 rfl ti100 rfl rfl) ?_
    obtain ⟨x16, hx17, h'⟩ := bind_some h
    clear h
    have h := h'; clear h'
    have hl18 := gsel2_lt hx17
    refine st (v := (pt b8 (1 + (gand q14 1).toNat * 1))) (rv_indexAddr_array Try.underlying100 ti72 rfl rfl hl18.1 hl18.2) ?_
    have hc19 := Hp.selCell (o' := 1) (a0 := a5) (a1 := a6) H 0 1 rfl rfl rfl hx17 rfl
    have hR20 : PV 0 _ (.pointer (bsel (gand q14 1) a5 a6)) x16 := PV.sel (H.pv 2 rfl) (H.pv 3 rfl) hx17
    replace H := H.add (d := Ch.pv 0 (.pointer (bsel (gand q14 1) a5 a6)) x16) hR20 (fun _ h => h)
    clear hR20
    refine st (v := (.pointer (bsel (gand q14 1) a5 a6))) (rv_load1 Try.underlying72 rfl rfl hc19) ?_
    refine st (v := (I key_1)) (rv_move rfl) ?_
    refine st (v := (I bits_2)) (rv_move rfl) ?_
    refine st (v := (I (w64 (bits_2 - 1)))) (rv_sub (a := bits_2) (b := 1) rfl rfl) ?_
    refine st (v := (.pointer ax_3)) (rv_move rfl) ?_
    obtain ⟨r21, hx22, h'⟩ := bind_some h
    clear h
    have h := h'; clear h'
    have hc23 := ih (av_0 := (bsel (gand q14 1) a5 a6)) (ax_3 := ax_3) hx22
    refine st_call (cx_call hc23 (ent_f hc23.fn rfl) hn0 (show Hp S0 σ0 _ ([Ch.pv 0 (.pointer (bsel (gand q14 1) a5 a6)) x16, Ch.pv 0 (.pointer ax_3) x_3] ++ [Ch.pv 0 (.pointer (bsel (gand q14 1) a5 a6)) x16, Ch.bx n0 b8 0 [(.pointer a4), (.pointer a5), (.pointer a6)] [] [], Ch.pv 0 (.pointer a4) r1.1, Ch.pv 0 (.pointer a5) r1.2.1, Ch.pv 0 (.pointer a6) r1.2.2, Ch.pv 0 (.pointer av_0) v_0, Ch.pv 0 (.pointer ax_3) x_3]) from (H.sel' [0, 6, 0, 1, 2, 3, 4, 5, 6] rfl rfl))) wn ?_
    rintro _ σ25 ⟨_, ⟨a24, rfl, rfl⟩, H, -⟩
    replace H : Hp S0 σ0 σ25 [Ch.pv 0 (.pointer a24) r21, Ch.pv 0 (.pointer (bsel (gand q14 1) a5 a6)) x16, Ch.bx n0 b8 0 [(.pointer a4), (.pointer a5), (.pointer a6)] [] [], Ch.pv 0 (.pointer a4) r1.1, Ch.pv 0 (.pointer a5) r1.2.1, Ch.pv 0 (.pointer a6) r1.2.2, Ch.pv 0 (.pointer av_0) v_0, Ch.pv 0 (.pointer ax_3) x_3] := H
    replace H : Hp S0 σ0 σ25 [Ch.pv 0 (.pointer a24) r21, Ch.bx n0 b8 0 [(.pointer a4), (.pointer a5), (.pointer a6)] [] [], Ch.pv 0 (.pointer a4) r1.1, Ch.pv 0 (.pointer a5) r1.2.1, Ch.pv 0 (.pointer a6) r1.2.2] := H.sel' [0, 2, 3, 4, 5] rfl rfl
    refine st (v := (pt b8 1)) (rv_fieldAddr (off := 1) (ft := 100) Try.underlying102 rfl ti100 rfl rfl) ?_
    obtain ⟨x26, hx27, h'⟩ := bind_some h
    clear h
    have h := h'; clear h'
    have hl28 := gsel2_lt hx27
    refine st (v := (pt b8 (1 + (gand q14 1).toNat * 1))) (rv_indexAddr_array Try.underlying100 ti72 rfl rfl hl28.1 hl28.2) ?_
    replace H := H.add (d := Ch.pv 0 (.pointer (bsel (gand q14 1) a24 a5)) (bsel (gand q14 1) r21 r1.2.1)) (PV.bsel (e := gand q14 1) (H.pv 0 rfl) (H.pv 3 rfl)) (fun _ h => h)
    replace H := H.add (d := Ch.pv 0 (.pointer (bsel (gand q14 1) a6 a24)) (bsel (gand q14 1) r1.2.2 r21)) (PV.bsel (e := gand q14 1) (H.pv 5 rfl) (H.pv 1 rfl)) (fun _ h => h)
    refine st_exS (ex_store_box (k := 1 + (gand q14 1).toNat * 1) (cs := [(.pointer a4), (.pointer a5), (.pointer a6)]) (vs := [(.pointer a24)]) (cs' := [(.pointer a4), (.pointer (bsel (gand q14 1) a24 a5)), (.pointer (bsel (gand q14 1) a6 a24))]) H (i := 3) rfl ti72 rfl (Nat.zero_add _).symm rfl rfl rfl (sel_fits hx27) (by simp [plain]) (sel_set hx27)) wn ?_
    rintro σ29 ⟨H, -⟩
    refine w_end ?_
    obtain rfl := Option.some.inj h
    exact ⟨rfl, _, σ29, a4, (bsel (gand q14 1) a24 a5), (bsel (gand q14 1) a6 a24), fr_join ⟨rfl, trivial⟩, rfl, H.sel' [0, 4, 2, 1] rfl rfl⟩
  ·clear hj
   have h := h'
   clear h' H
   rintro e a w ⟨rfl, ρ, σ30, a31, a32, a33, rfl, rfl, H⟩
   refine q_then ?_
   refine c_seq ?_
   refine rg ?_
   refine st (v := (pt b8 0)) (rv_assign rfl) ?_
   refine w_end ?_
   refine q_then ?_
   refine c_ret ?_
   have hp36 : Rp.rp 0 σ30 [(.pointer a31), (.pointer a32), (.pointer a33)] ((o11.1, (o11.2.1, o11.2.2)) : (Po (Int × (List Int) × Int)) × ((Vr (Int × (List Int) × Int)) × (Vr (Int × (List Int) × Int)))) := ⟨[(.pointer a31)], [(.pointer a32), (.pointer a33)], rfl, ⟨_, rfl, (H.pv 1 rfl)⟩, ⟨[(.pointer a32)], [(.pointer a33)], rfl, ⟨_, rfl, (H.pv 2 rfl)⟩, ⟨_, rfl, (H.pv 3 rfl)⟩⟩⟩
   obtain ⟨σ34, hw35, H, -⟩ := H.pubPv (τ := Vr (Int × (List Int) × Int)) 0 0 rfl (Nat.zero_le _) rfl hp36 (Nat.le_of_ble_eq_true rfl)
   rw [← hw35]; clear hw35
   replace H : Hp S0 σ0 σ34 [Ch.pv 0 (.pointer (some ⟨b8, 0, none⟩)) (Vr.mk (o11.1, (o11.2.1, o11.2.2))), Ch.pv 0 (.pointer a31) o11.1, Ch.pv 0 (.pointer a32) o11.2.1, Ch.pv 0 (.pointer a33) o11.2.2] := H
   obtain rfl := Option.some.inj h
   exact fin_ret (v := (.pointer (some ⟨b8, 0, none⟩))) (results_ok Try.results96 (res_tmp (v := (.pointer (some ⟨b8, 0, none⟩))) rfl res_nil) rfl) ⟨(some ⟨b8, 0, none⟩), rfl, rfl⟩ (H.sel' [0] rfl rfl)

theorem c_impl_version_after {v_0 : Vr (Int × (List Int) × Int)} {e_1 : Int × (Int × (List Int) × Int)} {av_0 : Option Addr} {ae_1_1_1 : Option Addr} {ce_1_1_1 : Nat} {r : (Vr (Int × (List Int) × Int))} (h : M.impl_version_after v_0 e_1 = some r) :
    Cal2 Try.prog 75 [(.pointer av_0), (.agg #[(I e_1.1), (I e_1.2.1), (Sl ae_1_1_1 e_1.2.2.1 ce_1_1_1), (I e_1.2.2.2)])] [Ch.pv 0 (.pointer av_0) v_0, Ch.ro 0 (Sl ae_1_1_1 e_1.2.2.1 ce_1_1_1) e_1.2.2.1] (fun n0 v L => ∃ (az1 : Option Addr), v = (.pointer az1) ∧ L = [Ch.pv 0 (.pointer az1) r]) := by
 refine cal2 (n := 19) Try.func75 rfl rfl rfl rfl ?_
 intro S0 σ0 n0 hn0 H
 unfold M.impl_version_after at h
 refine c_seq ?_
 refine rg ?_
 refine st_ex (ex_box (cs := [(I e_1.1), (I e_1.2.1), (Sl ae_1_1_1 e_1.2.2.1 ce_1_1_1), (I e_1.2.2.2)]) H hn0 rfl rfl) wn ?_
 rintro _ σ2 ⟨b1, rfl, H, -⟩
 refine st (v := (.pointer none)) (rv_assign rfl) ?_
 refine w_end ?_
 refine q_then ?_
 refine c_seq ?_
 refine c_seq ?_
 refine rg ?_
 refine st (v := (pt b1 0)) (rv_fieldAddr (off := 0) (ft := 3) Try.underlying56 rfl ti3 rfl rfl) ?_
 have hc3 := H.cell (u := (I e_1.1)) (o' := 0) 0 0 rfl rfl rfl
 refine st (v := (I e_1.1)) (rv_load1 Try.underlying3 rfl rfl hc3) ?_
 refine st (v := (B (e_1.1 == 2))) (rv_eql (a := e_1.1) (b := 2) rfl rfl) ?_
 refine w_end ?_
 refine q_then ?_
 refine cd_cond (e_1.1 == 2) rfl (fun hb4 => ?_) (fun hb4 => ?_)
 ·replace h := bif_t hb4 h
  refine c_seq ?_
  refine rg ?_
  refine st (v := (.pointer av_0)) (rv_move rfl) ?_
  refine st (v := (pt b1 1)) (rv_fieldAddr (off := 1) (ft := 36) Try.underlying56 rfl ti36 rfl rfl) ?_
  refine st (v := (pt b1 1)) (rv_fieldAddr (off := 0) (ft := 3) Try.underlying36 rfl ti3 rfl rfl) ?_
  have hc5 := H.cell (u := (I e_1.2.1)) (o' := 1) 0 1 rfl rfl rfl
  refine st (v := (I e_1.2.1)) (rv_load1 Try.underlying3 rfl rfl hc5) ?_
  replace H := H.nilPv (Po (Int × (List Int) × Int)) 0
  obtain ⟨r6, hx7, h'⟩ := bind_some h
  clear h
  have h := h'; clear h'
  have hc8 := c_impl_version_with 100 (av_0 := av_0) (ax_3 := none) hx7
  refine st_call (cx_call hc8 (ent_f hc8.fn rfl) hn0 (show Hp S0 σ0 _ ([Ch.pv 0 (.pointer av_0) v_0, Ch.pv 0 (.pointer none) (Po.nil : Po (Int × (List Int) × Int))] ++ [Ch.pv 0 (.pointer none) (Po.nil : Po (Int × (List Int) × Int)), Ch.bx n0 b1 0 [(I e_1.1), (I e_1.2.1), (Sl ae_1_1_1 e_1.2.2.1 ce_1_1_1), (I e_1.2.2.2)] [] [], Ch.pv 0 (.pointer av_0) v_0, Ch.ro 0 (Sl ae_1_1_1 e_1.2.2.1 ce_1_1_1) e_1.2.2.1]) from (H.sel' [2, 0, 0, 1, 2, 3] rfl rfl))) wn ?_
  rintro _ σ10 ⟨_, ⟨a9, rfl, rfl⟩, H, -⟩
  replace H : Hp S0 σ0 σ10 [Ch.pv 0 (.pointer a9) r6, Ch.pv 0 (.pointer none) (Po.nil : Po (Int × (List Int) × Int)), Ch.bx n0 b1 0 [(I e_1.1), (I e_1.2.1), (Sl ae_1_1_1 e_1.2.2.1 ce_1_1_1), (I e_1.2.2.2)] [] [], Ch.pv 0 (.pointer av_0) v_0, Ch.ro 0 (Sl ae_1_1_1 e_1.2.2.1 ce_1_1_1) e_1.2.2.1] := H
  refine st (v := (.pointer a9)) (rv_assign rfl) ?_
  refine w_end ?_
  refine q_then ?_
  refine c_ret ?_
  refine q_then_r ?_
  obtain rfl := Option.some.inj h
  exact fin_ret (v := (.pointer a9)) (results_ok Try.results75 (res_tmp (v := (.pointer a9)) rfl res_nil) rfl) ⟨a9, rfl, rfl⟩ (H.sel' [0] rfl rfl)
 ·replace h := bif_f hb4 h
  refine c_skip ?_
  refine q_then ?_
  refine c_seq ?_
  refine rg ?_
  refine st (v := (.pointer av_0)) (rv_move rfl) ?_
  refine st (v := (pt b1 1)) (rv_fieldAddr (off := 1) (ft := 36) Try.underlying56 rfl ti36 rfl rfl) ?_
  refine st (v := (pt b1 1)) (rv_fieldAddr (off := 0) (ft := 3) Try.underlying36 rfl ti3 rfl rfl) ?_
  have hc11 := H.cell (u := (I e_1.2.1)) (o' := 1) 0 1 rfl rfl rfl
  refine st (v := (I e_1.2.1)) (rv_load1 Try.underlying3 rfl rfl hc11) ?_
  refine st (v := (pt b1 1)) (rv_fieldAddr (off := 1) (ft := 36) Try.underlying56 rfl ti36 rfl rfl) ?_
  have hp14 : Rp.rp 0 σ2 [(I e_1.2.1), (Sl ae_1_1_1 e_1.2.2.1 ce_1_1_1), (I e_1.2.2.2)] ((e_1.2.1, e_1.2.2.1, e_1.2.2.2) : Int × (List Int) × Int) := ⟨[(I e_1.2.1)], [(Sl ae_1_1_1 e_1.2.2.1 ce_1_1_1), (I e_1.2.2.2)], rfl, rfl, ⟨[(Sl ae_1_1_1 e_1.2.2.1 ce_1_1_1)], [(I e_1.2.2.2)], rfl, ⟨_, rfl, (H.ro 2 rfl)⟩, rfl⟩⟩
  obtain ⟨σ12, hw13, H, -⟩ := H.pubPv (τ := Po (Int × (List Int) × Int)) 0 1 rfl (Nat.zero_le _) rfl hp14 (Nat.le_of_ble_eq_true rfl)
  rw [← hw13]; clear hw13
  replace H : Hp S0 σ0 σ12 [Ch.pv 0 (.pointer (some ⟨b1, 1, none⟩)) (Po.to (e_1.2.1, e_1.2.2.1, e_1.2.2.2)), Ch.pv 0 (.pointer av_0) v_0, Ch.ro 0 (Sl ae_1_1_1 e_1.2.2.1 ce_1_1_1) e_1.2.2.1] := H
  obtain ⟨r15, hx16, h'⟩ := bind_some h
  clear h
  have h := h'; clear h'
  have hc17 := c_impl_version_with 100 (av_0 := av_0) (ax_3 := (some ⟨b1, 1, none⟩)) hx16
  refine st_call (cx_call hc17 (ent_f hc17.fn rfl) hn0 (show Hp S0 σ0 _ ([Ch.pv 0 (.pointer av_0) v_0, Ch.pv 0 (.pointer (some ⟨b1, 1, none⟩)) (Po.to (e_1.2.1, e_1.2.2.1, e_1.2.2.2))] ++ [Ch.pv 0 (.pointer (some ⟨b1, 1, none⟩)) (Po.to (e_1.2.1, e_1.2.2.1, e_1.2.2.2)), Ch.pv 0 (.pointer av_0) v_0, Ch.ro 0 (Sl ae_1_1_1 e_1.2.2.1 ce_1_1_1) e_1.2.2.1]) from (H.sel' [1, 0, 0, 1, 2] rfl rfl))) wn ?_
  rintro _ σ19 ⟨_, ⟨a18, rfl, rfl⟩, H, -⟩
  replace H : Hp S0 σ0 σ19 [Ch.pv 0 (.pointer a18) r15, Ch.pv 0 (.pointer (some ⟨b1, 1, none⟩)) (Po.to (e_1.2.1, e_1.2.2.1, e_1.2.2.2)), Ch.pv 0 (.pointer av_0) v_0, Ch.ro 0 (Sl ae_1_1_1 e_1.2.2.1 ce_1_1_1) e_1.2.2.1] := H
  refine st (v := (.pointer a18)) (rv_assign rfl) ?_
  refine w_end ?_
  refine q_then ?_
  refine c_ret ?_
  obtain rfl := Option.some.inj h
  exact fin_ret (v := (.pointer a18)) (results_ok Try.results75 (res_tmp (v := (.pointer a18)) rfl res_nil) rfl) ⟨a18, rfl, rfl⟩ (H.sel' [0] rfl rfl)

theorem c_impl_History_versions {h_0 : (List (Int × (Int × (List Int) × Int))) × (List Int)} {ah_0_0 : Option Addr} {ch_0_0 : Nat} {ah_0_1 : Option Addr} {ch_0_1 : Nat} {r : (List (Vr (Int × (List Int) × Int)))} (h : M.impl_History_versions h_0 = some r) :
    Cal2 Try.prog 41 [(.agg #[(Sl ah_0_0 h_0.1 ch_0_0), (Sl ah_0_1 h_0.2 ch_0_1)])] [Ch.ro 0 (Sl ah_0_0 h_0.1 ch_0_0) h_0.1, Ch.ro 0 (Sl ah_0_1 h_0.2 ch_0_1) h_0.2] (fun n0 v L => ∃ (az1 : Option Addr), ∃ (cz2 : Nat), v = (Sl az1 r cz2) ∧ L = [Ch.own n0 0 (Sl az1 r cz2) r]) := by
 refine cal2 (n := 26) Try.func41 rfl rfl rfl rfl ?_
 intro S0 σ0 n0 hn0 H
 unfold M.impl_History_versions at h
 refine c_seq ?_
 refine rg ?_
 refine st_ex (ex_box (cs := [(Sl ah_0_0 h_0.1 ch_0_0), (Sl ah_0_1 h_0.2 ch_0_1)]) H hn0 rfl rfl) wn ?_
 rintro _ σ2 ⟨b1, rfl, H, -⟩
 refine st (v := (.slice none 0 0)) (rv_assign rfl) ?_
 refine w_end ?_
 refine q_then ?_
 refine c_seq ?_
 refine rg ?_
 refine st_ex (ex_buildSlice (el := n0) (xs := ([Vr.nil] : List (Vr (Int × (List Int) × Int)))) (ps := [(0, (.pointer none))]) (cs := [(.pointer none)]) H hn0 Try.underlying69 ti72 rfl rfl (by kernel_rfl) (.cons (c := [(.pointer none)]) ⟨_, rfl, rfl⟩ (.nil)) rfl) wn ?_
 rintro _ σ4 ⟨b3, rfl, H, -⟩
 refine st (v := (Sl (some ⟨b3, 0, none⟩) ([Vr.nil] : List (Vr (Int × (List Int) × Int))) 1)) (rv_assign rfl) ?_
 refine w_end ?_
 refine q_then ?_
 refine c_seq ?_
 refine c_seq ?_
 refine rg ?_
 refine st (v := (pt b1 0)) (rv_fieldAddr (off := 0) (ft := 23) Try.underlying26 rfl ti23 rfl rfl) ?_
 have hc5 := H.cell (u := (Sl ah_0_0 h_0.1 ch_0_0)) (o' := 0) 1 0 rfl rfl rfl
 refine st (v := (Sl ah_0_0 h_0.1 ch_0_0)) (rv_load1 Try.underlying23 rfl rfl hc5) ?_
 refine st (v := (I (h_0.1.length : Int))) (rv_len Try.underlying23 rfl) ?_
 refine st (v := (I 0)) (rv_move rfl) ?_
 refine w_end ?_
 refine q_then ?_
 obtain ⟨o6, hj, h'⟩ := bind_some h
 clear h
 refine c_cut (fun e a w => e = .normal ∧ ∃ (ρ : Nat → Value) (σ : St) (aj1 : Option Addr) (cj2 : Nat), a = fr 26 (updL ρ [(3, (Sl aj1 o6 cj2))]) ∧ w = σ.w ∧ Hp S0 σ0 σ [Ch.own n0 0 (Sl aj1 o6 cj2) o6]) ?_ ?_
 ·clear h'
  rename _ = some o6 => h
  refine c_blk ?_
  replace H := H.ownLow 0 n0 0 rfl (Nat.le_refl _) (Nat.zero_le _)
  refine wp_loopM _ h (fun s7 a w => ∃ (ρ : Nat → Value) (σ : St) (aj1 : Option Addr) (cj2 : Nat), a = fr 26 (updL ρ [(3, (Sl aj1 s7.1 cj2)), (8, (Sl ah_0_0 h_0.1 ch_0_0)), (9, (I (h_0.1.length : Int))), (10, (I s7.2))]) ∧ w = σ.w ∧ Hp S0 σ0 σ [Ch.own n0 0 (Sl aj1 s7.1 cj2) s7.1, Ch.ro 0 (Sl ah_0_0 h_0.1 ch_0_0) h_0.1]) ⟨_, σ4, (some ⟨b3, 0, none⟩), 1, fr_join ⟨rfl, rfl, rfl, rfl, trivial⟩, rfl, H.sel' [0, 2] rfl rfl⟩ ?_
  clear h H
  rintro s7 a w o ⟨ρ, σ8, a9, c10, rfl, rfl, H⟩ h hres
  refine c_seq ?_
  refine rg ?_
  refine st (v := (B (decide (s7.2 < (h_0.1.length : Int))))) (rv_lss (a := s7.2) (b := (h_0.1.length : Int)) rfl rfl) ?_
  refine w_end ?_
  refine q_then ?_
  refine c_seq ?_
  refine cd_cond (decide (s7.2 < (h_0.1.length : Int))) rfl (fun hb11 => ?_) (fun hb11 => ?_)
  ·replace h := bif_t hb11 h
   refine c_skip ?_
   refine q_then ?_
   refine c_seq ?_
   refine c_blk ?_
   refine c_seq ?_
   refine rg ?_
   refine st (v := (I s7.2)) (rv_move rfl) ?_
   obtain ⟨x12, hx13, h'⟩ := bind_some h
   clear h
   have h := h'; clear h'
   obtain ⟨b15, o16, hi14, -⟩ := (H.ro 1 rfl).ix hx13
   refine st (v := (pt b15 o16)) (rv_ix Try.underlying23 ti56 rfl rfl hi14) ?_
   obtain ⟨_, ⟨_, _, rfl, rfl, ⟨_, _, rfl, rfl, ⟨_, _, rfl, ⟨_, rfl, hR21⟩, rfl⟩⟩⟩, hl17, hc18⟩ := ((H.ro 1 rfl).at hx13 hi14).cells
   obtain ⟨a19, c20, rfl⟩ := hR21.isSl
   replace H := H.add (d := Ch.ro 0 (Sl a19 x12.2.2.1 c20) x12.2.2.1) hR21 (fun _ h => h)
   clear hR21
   refine st (v := (.agg #[(I x12.1), (I x12.2.1), (Sl a19 x12.2.2.1 c20), (I x12.2.2.2)])) (rv_load Try.underlying56 rfl ti56 rfl hl17 hc18) ?_
   refine st_ex (ex_alloc (cs := [(I 0), (I 0), (.slice none 0 0), (I 0)]) H hn0 ti56 rfl) wn ?_
   rintro _ σ23 ⟨b22, rfl, H, -⟩
   refine st (v := (I s7.2)) (rv_assign rfl) ?_
   refine st_exS (ex_store_box (k := 0) (cs := [(I 0), (I 0), (.slice none 0 0), (I 0)]) (vs := [(I x12.1), (I x12.2.1), (Sl a19 x12.2.2.1 c20), (I x12.2.2.2)]) (cs' := [(I x12.1), (I x12.2.1), (Sl a19 x12.2.2.1 c20), (I x12.2.2.2)]) H (i := 0) rfl ti56 rfl rfl rfl rfl rfl (Nat.le_of_ble_eq_true rfl) (by simp [plain]) rfl) wn ?_
   rintro σ24 ⟨H, -⟩
   refine w_end ?_
   refine q_then ?_
   obtain ⟨x25, hx26, h'⟩ := bind_some h
   clear h
   have h := h'; clear h'
   obtain ⟨b28, o29, hi27, -⟩ := (H.own 2 rfl).ix hx26
   obtain ⟨v33, hc32, hR31⟩ := ((H.own 2 rfl).at hx26 hi27).vr
   obtain ⟨a30, rfl⟩ := hR31.isPtr
   replace H := H.add (d := Ch.pv 0 (.pointer a30) x25) hR31 (fun _ h => h)
   clear hR31
   have hc34 := H.cells 1 rfl
   obtain ⟨r35, hx36, h'⟩ := bind_some h
   clear h
   have h := h'; clear h'
   have hc37 := c_impl_version_after (av_0 := a30) (ae_1_1_1 := a19) (ce_1_1_1 := c20) hx36
   have Hs := H
   refine rg2 (σ := σ24) (Nm := (Option Addr) × (Nat)) 8 [6, 7] [[false, false], [true, false], [true, true]] [[(0, 0), (1, 1), (2, 2)], [(0, 0)], [(0, 0)], [(0, 0)], [(0, 0)], [(0, 0)], [(0, 1)], [(1, 2)]] 2 [fun ((a38, b39) : (Option Addr) × (Nat)) => fun σm => Hp S0 σ0 σm [Ch.pv 0 (.pointer a30) x25, Ch.bx n0 b22 0 [(I x12.1), (I x12.2.1), (Sl a19 x12.2.2.1 c20), (I x12.2.2.2)] [] [], Ch.ro 0 (Sl a19 x12.2.2.1 c20) x12.2.2.1, Ch.own n0 0 (Sl a9 s7.1 c10) s7.1, Ch.ro 0 (Sl ah_0_0 h_0.1 ch_0_0) h_0.1] ∧ Md (cov []) σ24 σm, fun ((a38, b39) : (Option Addr) × (Nat)) => fun σm => Hp S0 σ0 σm [Ch.pv 0 (.pointer a38) r35, Ch.pv 0 (.pointer a30) x25, Ch.bx n0 b22 0 [(I x12.1), (I x12.2.1), (Sl a19 x12.2.2.1 c20), (I x12.2.2.2)] [] [], Ch.ro 0 (Sl a19 x12.2.2.1 c20) x12.2.2.1, Ch.own n0 0 (Sl a9 s7.1 c10) s7.1, Ch.ro 0 (Sl ah_0_0 h_0.1 ch_0_0) h_0.1] ∧ Md (cov []) σ24 σm, fun ((a38, b39) : (Option Addr) × (Nat)) => fun σm => Hp S0 σ0 σm [Ch.own n0 0 (Sl (some ⟨b39, 0, none⟩) ([r35] : List (Vr (Int × (List Int) × Int))) 1) ([r35] : List (Vr (Int × (List Int) × Int))), Ch.pv 0 (.pointer a38) r35, Ch.pv 0 (.pointer a30) x25, Ch.bx n0 b22 0 [(I x12.1), (I x12.2.1), (Sl a19 x12.2.2.1 c20), (I x12.2.2.2)] [] [], Ch.ro 0 (Sl a19 x12.2.2.1 c20) x12.2.2.1, Ch.own n0 0 (Sl a9 s7.1 c10) s7.1, Ch.ro 0 (Sl ah_0_0 h_0.1 ch_0_0) h_0.1] ∧ Md (cov []) σ24 σm] [fun ((a38, b39) : (Option Addr) × (Nat)) => (Sl a9 s7.1 c10), fun ((a38, b39) : (Option Addr) × (Nat)) => (Sl a9 s7.1 c10), fun ((a38, b39) : (Option Addr) × (Nat)) => (I s7.2), fun ((a38, b39) : (Option Addr) × (Nat)) => (pt b28 o29), fun ((a38, b39) : (Option Addr) × (Nat)) => (.pointer a30), fun ((a38, b39) : (Option Addr) × (Nat)) => (.agg #[(I x12.1), (I x12.2.1), (Sl a19 x12.2.2.1 c20), (I x12.2.2.2)]), fun ((a38, b39) : (Option Addr) × (Nat)) => (.pointer a38), fun ((a38, b39) : (Option Addr) × (Nat)) => (Sl (some ⟨b39, 0, none⟩) ([r35] : List (Vr (Int × (List Int) × Int))) 1)] (none, 0) (by kernel_rfl) (by kernel_rfl) ?_ ?_ ?_
   ·intro σm m0
    exact ⟨H.grow (m0.mono fun _ h => h.elim), m0⟩
   ·refine ac rfl (by
      intro k; rintro ⟨a38, b39⟩ ρ σm hJ hoff hdep
      have e3 := look_off (N := 26) (hoff 3 rfl) rfl
      exact dp_v (v := (Sl a9 s7.1 c10)) wn (rv_move e3) rfl hJ) ?_
    refine ac rfl (by
      intro k; rintro ⟨a38, b39⟩ ρ σm hJ hoff hdep
      have e3 := look_off (N := 26) (hoff 3 rfl) rfl
      exact dp_v (v := (Sl a9 s7.1 c10)) wn (rv_move e3) rfl hJ) ?_
    refine ac rfl (by
      intro k; rintro ⟨a38, b39⟩ ρ σm hJ hoff hdep
      have e4 := look_off (N := 26) (hoff 4 rfl) rfl
      exact dp_v (v := (I s7.2)) wn (rv_move e4) rfl hJ) ?_
    refine ac rfl (by
      intro k; rintro ⟨a38, b39⟩ ρ σm hJ hoff hdep
      have e16 := hdep 1 rfl rfl 16 rfl
      have e17 := hdep 2 rfl rfl 17 rfl
      exact dp_v (v := (pt b28 o29)) wn (rv_ix Try.underlying69 ti72 e16 e17 hi27) rfl hJ) ?_
    refine all_cons (by
      refine ⟨?_, ?_⟩
      ·rintro ⟨a38, b39⟩ ρ σm hJ hoff hdep
       have e18 := hdep 3 rfl rfl 18 rfl
       obtain ⟨H, m⟩ := id hJ
       replace hc32 := m.hcell hc32 nocov
       exact dp_v (v := (.pointer a30)) wn (rv_load1 Try.underlying72 rfl e18 hc32) rfl hJ
      trivial) ?_
    refine all_cons (by
      refine ⟨?_, ?_⟩
      ·rintro ⟨a38, b39⟩ ρ σm hJ hoff hdep
       have e5 := look_off (N := 26) (hoff 5 rfl) rfl
       obtain ⟨H, m⟩ := id hJ
       have hc34 := H.cells 1 rfl
       exact dp_v (v := (.agg #[(I x12.1), (I x12.2.1), (Sl a19 x12.2.2.1 c20), (I x12.2.2.2)])) wn (rv_load (cs := [(I x12.1), (I x12.2.1), (Sl a19 x12.2.2.1 c20), (I x12.2.2.2)]) Try.underlying56 rfl ti56 e5 rfl hc34) rfl hJ
      trivial) ?_
    refine all_cons (by
      refine ⟨?_, ?_⟩
      ·rintro ⟨a38, b39⟩ ρ σm hJ hoff hdep
       have e19 : look 26 ρ 19 = (.pointer a30) := hdep 4 rfl rfl 19 rfl
       have e20 : look 26 ρ 20 = (.agg #[(I x12.1), (I x12.2.1), (Sl a19 x12.2.2.1 c20), (I x12.2.2.2)]) := hdep 5 rfl rfl 20 rfl
       obtain ⟨H, m⟩ := id hJ
       refine dp_cx wn (cx_call hc37 (ent_f hc37.fn (by show [look 26 ρ 19, look 26 ρ 20] = _; rw [e19, e20])) hn0 (show Hp S0 σ0 _ ([Ch.pv 0 (.pointer a30) x25, Ch.ro 0 (Sl a19 x12.2.2.1 c20) x12.2.2.1] ++ [Ch.pv 0 (.pointer a30) x25, Ch.bx n0 b22 0 [(I x12.1), (I x12.2.1), (Sl a19 x12.2.2.1 c20), (I x12.2.2.2)] [] [], Ch.ro 0 (Sl a19 x12.2.2.1 c20) x12.2.2.1, Ch.own n0 0 (Sl a9 s7.1 c10) s7.1, Ch.ro 0 (Sl ah_0_0 h_0.1 ch_0_0) h_0.1]) from (H.sel' [0, 2, 0, 1, 2, 3, 4] rfl rfl))) ?_
       rintro _ σq ⟨_, ⟨a38x, rfl, rfl⟩, H2, m2⟩
       exact ⟨_, (a38x, b39), rfl, rfl, ⟨H2.sel' [0, 1, 2, 3, 4, 5] rfl rfl, m.comp0 (m2.mono (fun i h => by simp [cov, Ch.ro, Ch.pv] at h))⟩, stab [0, 1, 2, 3, 4, 5] (by kernel_rfl) ⟨rfl, rfl, rfl, rfl, rfl, rfl, trivial⟩⟩
      trivial) ?_
    refine all_cons (by
      refine ⟨?_, ?_⟩
      ·rintro ⟨a38, b39⟩ ρ σm hJ hoff hdep
       have e21 : look 26 ρ 21 = (.pointer a38) := hdep 6 rfl rfl 21 rfl
       obtain ⟨H, m⟩ := id hJ
       refine dp_ex wn (ex_buildSlice (el := 0) (xs := ([r35] : List (Vr (Int × (List Int) × Int)))) (ps := [(0, (.pointer a38))]) (cs := [(.pointer a38)]) H hn0 Try.underlying69 ti72 rfl (by show [(0, look 26 ρ 21)] = _; rw [e21]) (by kernel_rfl) (.cons (c := [(.pointer a38)]) ⟨_, rfl, (H.pv 0 rfl)⟩ (.nil)) rfl) ?_
       rintro _ σq ⟨b39x, rfl, H2, m2⟩
       exact ⟨_, (a38, b39x), rfl, rfl, ⟨H2.sel' [0, 1, 2, 3, 4, 5, 6] rfl rfl, m.comp0 m2⟩, stab [0, 1, 2, 3, 4, 5, 6] (by kernel_rfl) ⟨rfl, rfl, rfl, rfl, rfl, rfl, rfl, trivial⟩⟩
      trivial) ?_
    exact all_nil
   ·rintro ⟨a38, b39⟩ ρ σ40 hJ hoff hrel
    have e8 := look_off (N := 26) (hoff 8 rfl) rfl
    have e9 := look_off (N := 26) (hoff 9 rfl) rfl
    have e10 := look_off (N := 26) (hoff 10 rfl) rfl
    have e15 := hrel 0 rfl 15 rfl
    have e22 := hrel 7 rfl 22 rfl
    obtain ⟨H, -⟩ := (show Hp S0 σ0 σ40 [Ch.own n0 0 (Sl (some ⟨b39, 0, none⟩) ([r35] : List (Vr (Int × (List Int) × Int))) 1) ([r35] : List (Vr (Int × (List Int) × Int))), Ch.pv 0 (.pointer a38) r35, Ch.pv 0 (.pointer a30) x25, Ch.bx n0 b22 0 [(I x12.1), (I x12.2.1), (Sl a19 x12.2.2.1 c20), (I x12.2.2.2)] [] [], Ch.ro 0 (Sl a19 x12.2.2.1 c20) x12.2.2.1, Ch.own n0 0 (Sl a9 s7.1 c10) s7.1, Ch.ro 0 (Sl ah_0_0 h_0.1 ch_0_0) h_0.1] ∧ Md (cov []) σ24 σ40 from hJ)
    clear hJ Hs
    rw [fr_lookL (L := [(8, (Sl ah_0_0 h_0.1 ch_0_0)), (9, (I (h_0.1.length : Int))), (10, (I s7.2)), (15, (Sl a9 s7.1 c10)), (22, (Sl (some ⟨b39, 0, none⟩) ([r35] : List (Vr (Int × (List Int) × Int))) 1))]) ⟨e8, e9, e10, e15, e22, trivial⟩]
    clear hoff hrel e8 e9 e10 e15 e22
    obtain ⟨xs41, hx42, h'⟩ := bind_some h
    clear h
    have h := h'; clear h'
    refine st_ex (ex_append H (i := 5) rfl Try.underlying69 Try.underlying69 ti72 rfl rfl (by decide) (H.own 0 rfl).rd hx42 hn0 rfl rfl) wn ?_
    rintro _ σ45 ⟨a43, c44, rfl, H, -⟩
    refine st (v := (Sl a43 xs41 c44)) (rv_assign rfl) ?_
    refine w_end ?_
    refine q_blk ?_
    refine q_then ?_
    refine rg ?_
    refine st (v := (I (w64 (s7.2 + 1)))) (rv_add (a := s7.2) (b := 1) rfl rfl) ?_
    refine st (v := (I (w64 (s7.2 + 1)))) (rv_move rfl) ?_
    refine w_end ?_
    refine q_then ?_
    obtain rfl := Option.some.inj h
    exact ⟨_, rfl, _, σ45, a43, c44, fr_join ⟨rfl, rfl, rfl, rfl, trivial⟩, rfl, H.sel' [0, 6] rfl rfl⟩
  ·replace h := bif_f hb11 h
   refine c_exit ?_
   refine q_then_x ?_
   refine q_then_x ?_
   refine q_blk_hit ?_
   obtain rfl := Option.some.inj h
   obtain rfl := hres _ rfl
   exact ⟨rfl, _, σ8, a9, c10, fr_join ⟨rfl, trivial⟩, rfl, H.sel' [0] rfl rfl⟩
 ·clear hj
  have h := h'
  clear h' H
  rintro e a w ⟨rfl, ρ, σ46, a47, c48, rfl, rfl, H⟩
  refine q_then ?_
  refine c_seq ?_
  refine rg ?_
  refine st (v := (Sl a47 o6 c48)) (rv_move rfl) ?_
  refine st (v := (Sl a47 o6 c48)) (rv_assign rfl) ?_
  refine w_end ?_
  refine q_then ?_
  refine c_ret ?_
  obtain rfl := Option.some.inj h
  exact fin_ret (v := (Sl a47 o6 c48)) (results_ok Try.results41 (res_tmp (v := (Sl a47 o6 c48)) rfl res_nil) rfl) ⟨a47, c48, rfl, rfl⟩ (H.sel' [0] rfl rfl)

theorem c_slices_isNaN_int {x_0 : Int}  {r : Bool} (h : M.slices_isNaN_int x_0 = some r) :
    Cal2 Try.prog 99 [(I x_0)] [] (fun n0 v L => v = (B r) ∧ L = []) := by
 refine cal2 (n := 6) Try.func99 rfl rfl rfl rfl ?_
 intro S0 σ0 n0 hn0 H
 unfold M.slices_isNaN_int at h
 refine c_seq ?_
 refine rg ?_
 refine st (v := (B false)) (rv_assign rfl) ?_
 refine w_end ?_
 refine q_then ?_
 refine c_seq ?_
 refine rg ?_
 refine st (v := (I x_0)) (rv_move rfl) ?_
 refine st (v := (I x_0)) (rv_move rfl) ?_
 refine st (v := (B (x_0 != x_0))) (rv_neq (a := x_0) (b := x_0) rfl rfl) ?_
 refine st (v := (B (x_0 != x_0))) (rv_assign rfl) ?_
 refine w_end ?_
 refine q_then ?_
 refine c_ret ?_
 obtain rfl := Option.some.inj h
 exact fin_ret (v := (B (x_0 != x_0))) (results_ok Try.results99 (res_tmp (v := (B (x_0 != x_0))) rfl res_nil) rfl) ⟨rfl, rfl⟩ (H.sel' [] rfl rfl)

theorem c_slices_BinarySearch_int_int {x_0 : List Int} {target_1 : Int} {ax_0 : Option Addr} {cx_0 : Nat} {r : Int × Bool} (h : M.slices_BinarySearch_int_int x_0 target_1 = some r) :
    Cal2 Try.prog 78 [(Sl ax_0 x_0 cx_0), (I target_1)] [Ch.ro 0 (Sl ax_0 x_0 cx_0) x_0] (fun n0 v L => v = (.tuple #[(I r.1), (B r.2)]) ∧ L = []) := by
 refine cal2 (n := 54) Try.func78 rfl rfl rfl rfl ?_
 intro S0 σ0 n0 hn0 H
 unfold M.slices_BinarySearch_int_int at h
 refine c_seq ?_
 refine rg ?_
 refine st (v := (I 0)) (rv_assign rfl) ?_
 refine st (v := (B false)) (rv_assign rfl) ?_
 refine w_end ?_
 refine q_then ?_
 refine c_seq ?_
 refine rg ?_
 refine st (v := (Sl ax_0 x_0 cx_0)) (rv_move rfl) ?_
 refine st (v := (I (x_0.length : Int))) (rv_len Try.underlying24 rfl) ?_
 refine st (v := (I (x_0.length : Int))) (rv_assign rfl) ?_
 refine w_end ?_
 refine q_then ?_
 refine c_seq ?_
 refine rg ?_
 refine st (v := (I (x_0.length : Int))) (rv_move rfl) ?_
 refine st (v := (I 0)) (rv_assign rfl) ?_
 refine st (v := (I (x_0.length : Int))) (rv_assign rfl) ?_
 refine w_end ?_
 refine q_then ?_
 refine c_seq ?_
 obtain ⟨o1, hj, h'⟩ := bind_some h
 clear h
 refine c_cut (fun e a w => e = .normal ∧ ∃ (ρ : Nat → Value) (σ : St), a = fr 54 (updL ρ [(0, (Sl ax_0 x_0 cx_0)), (1, (I target_1)), (6, (I (x_0.length : Int))), (7, (I o1))]) ∧ w = σ.w ∧ Hp S0 σ0 σ [Ch.ro 0 (Sl ax_0 x_0 cx_0) x_0]) ?_ ?_
 ·clear h'
  rename _ = some o1 => h
  refine c_blk ?_
  refine wp_loopM _ h (fun s2 a w => ∃ (ρ : Nat → Value) (σ : St), a = fr 54 (updL ρ [(0, (Sl ax_0 x_0 cx_0)), (1, (I target_1)), (6, (I (x_0.length : Int))), (7, (I s2.1)), (8, (I s2.2))]) ∧ w = σ.w ∧ Hp S0 σ0 σ [Ch.ro 0 (Sl ax_0 x_0 cx_0) x_0]) ⟨_, σ0, fr_join ⟨rfl, rfl, rfl, rfl, rfl, trivial⟩, rfl, H.sel' [0] rfl rfl⟩ ?_
  clear h H
  rintro s2 a w o ⟨ρ, σ3, rfl, rfl, H⟩ h hres
  refine c_seq ?_
  refine c_seq ?_
  refine rg ?_
  refine st (v := (I s2.1)) (rv_move rfl) ?_
  refine st (v := (I s2.2)) (rv_move rfl) ?_
  refine st (v := (B (decide (s2.1 < s2.2)))) (rv_lss (a := s2.1) (b := s2.2) rfl rfl) ?_
  refine w_end ?_
  refine q_then ?_
  refine cd_cond (decide (s2.1 < s2.2)) rfl (fun hb4 => ?_) (fun hb4 => ?_)
  ·replace h := bif_t hb4 h
   refine c_skip ?_
   refine q_then ?_
   refine c_blk ?_
   refine c_seq ?_
   refine rg ?_
   refine st (v := (I s2.1)) (rv_move rfl) ?_
   refine st (v := (I s2.2)) (rv_move rfl) ?_
   refine st (v := (I (w64 (s2.1 + s2.2)))) (rv_add (a := s2.1) (b := s2.2) rfl rfl) ?_
   refine st (v := (.int .u64 (wk .u64 (w64 (s2.1 + s2.2))))) (rvk_conv (k := .i64) (k' := .u64) (a := (w64 (s2.1 + s2.2))) Try.underlying3 Try.underlying122 rfl) ?_
   refine st (v := (.int .u64 (gshr .u64 (wk .u64 (w64 (s2.1 + s2.2))) 1))) (rvk_shr (k := .u64) (k' := .u64) (a := (wk .u64 (w64 (s2.1 + s2.2)))) (b := 1) rfl rfl (by decide)) ?_
   refine st (v := (I (wk .i64 (gshr .u64 (wk .u64 (w64 (s2.1 + s2.2))) 1)))) (rvk_conv (k := .u64) (k' := .i64) (a := (gshr .u64 (wk .u64 (w64 (s2.1 + s2.2))) 1)) Try.underlying122 Try.underlying3 rfl) ?_
   refine st (v := (I (wk .i64 (gshr .u64 (wk .u64 (w64 (s2.1 + s2.2))) 1)))) (rv_assign rfl) ?_
   refine w_end ?_
   refine q_then ?_
   refine c_seq ?_
   refine rg ?_
   refine st (v := (Sl ax_0 x_0 cx_0)) (rv_move rfl) ?_
   refine st (v := (I (wk .i64 (gshr .u64 (wk .u64 (w64 (s2.1 + s2.2))) 1)))) (rv_move rfl) ?_
   obtain ⟨x5, hx6, h'⟩ := bind_some h
   clear h
   have h := h'; clear h'
   obtain ⟨b8, o9, hi7, -⟩ := (H.ro 0 rfl).ix hx6
   refine st (v := (pt b8 o9)) (rv_ix Try.underlying24 ti3 rfl rfl hi7) ?_
   have hc10 := ((H.ro 0 rfl).at hx6 hi7).int
   refine st (v := (I x5)) (rv_load1 Try.underlying3 rfl rfl hc10) ?_
   refine st (v := (I target_1)) (rv_move rfl) ?_
   obtain ⟨r11, hx12, h'⟩ := bind_some h
   clear h
   have h := h'; clear h'
   have hc13 := c_cmp_Less_int hx12
   refine st_call (cx_call hc13 (ent_f hc13.fn rfl) hn0 (show Hp S0 σ0 _ ([] ++ [Ch.ro 0 (Sl ax_0 x_0 cx_0) x_0]) from (H.sel' [0] rfl rfl))) wn ?_
   rintro _ σ14 ⟨_, ⟨rfl, rfl⟩, H, -⟩
   replace H : Hp S0 σ0 σ14 [Ch.ro 0 (Sl ax_0 x_0 cx_0) x_0] := H
   refine w_end ?_
   refine q_then ?_
   refine cd_cond r11 rfl (fun hb15 => ?_) (fun hb15 => ?_)
   ·replace h := bif_t hb15 h
    refine rg ?_
    refine st (v := (I (wk .i64 (gshr .u64 (wk .u64 (w64 (s2.1 + s2.2))) 1)))) (rv_move rfl) ?_
    refine st (v := (I (w64 ((wk .i64 (gshr .u64 (wk .u64 (w64 (s2.1 + s2.2))) 1)) + 1)))) (rv_add (a := (wk .i64 (gshr .u64 (wk .u64 (w64 (s2.1 + s2.2))) 1))) (b := 1) rfl rfl) ?_
    refine st (v := (I (w64 ((wk .i64 (gshr .u64 (wk .u64 (w64 (s2.1 + s2.2))) 1)) + 1)))) (rv_assign rfl) ?_
    refine w_end ?_
    refine q_blk ?_
    refine q_then ?_
    obtain rfl := Option.some.inj h
    exact ⟨_, rfl, _, σ14, fr_join ⟨rfl, rfl, rfl, rfl, rfl, trivial⟩, rfl, H.sel' [0] rfl rfl⟩
   ·replace h := bif_f hb15 h
    refine rg ?_
    refine st (v := (I (wk .i64 (gshr .u64 (wk .u64 (w64 (s2.1 + s2.2))) 1)))) (rv_move rfl) ?_
    refine st (v := (I (wk .i64 (gshr .u64 (wk .u64 (w64 (s2.1 + s2.2))) 1)))) (rv_assign rfl) ?_
    refine w_end ?_
    refine q_blk ?_
    refine q_then ?_
    obtain rfl := Option.some.inj h
    exact ⟨_, rfl, _, σ14, fr_join ⟨rfl, rfl, rfl, rfl, rfl, trivial⟩, rfl, H.sel' [0] rfl rfl⟩
  ·replace h := bif_f hb4 h
   refine c_exit ?_
   refine q_then_x ?_
   refine q_then_x ?_
   refine q_blk_hit ?_
   obtain rfl := Option.some.inj h
   obtain rfl := hres _ rfl
   exact ⟨rfl, _, σ3, fr_join ⟨rfl, rfl, rfl, rfl, trivial⟩, rfl, H.sel' [0] rfl rfl⟩
 ·clear hj
  have h := h'
  clear h' H
  rintro e a w ⟨rfl, ρ, σ16, rfl, rfl, H⟩
  refine q_then ?_
  refine c_seq ?_
  refine rg ?_
  refine st (v := (I o1)) (rv_move rfl) ?_
  refine st (v := (I o1)) (rv_move rfl) ?_
  refine st (v := (I (x_0.length : Int))) (rv_move rfl) ?_
  refine st (v := (B (decide (o1 < (x_0.length : Int))))) (rv_lss (a := o1) (b := (x_0.length : Int)) rfl rfl) ?_
  refine st (v := (B (decide (o1 < (x_0.length : Int))))) (rv_move rfl) ?_
  rcases Bool.eq_false_or_eq_true (decide (o1 < (x_0.length : Int))) with hb17 | hb17
  ·replace h := bif_t hb17 h
   refine st_g (v := (Sl ax_0 x_0 cx_0)) (congrArg some hb17) (rv_move rfl) ?_
   refine st_g (v := (I o1)) (congrArg some hb17) (rv_move rfl) ?_
   obtain ⟨x18, hx19, h'⟩ := bind_some h
   clear h
   have h := h'; clear h'
   obtain ⟨b21, o22, hi20, -⟩ := (H.ro 0 rfl).ix hx19
   refine st_g (v := (pt b21 o22)) (congrArg some hb17) (rv_ix Try.underlying24 ti3 rfl rfl hi20) ?_
   have hc23 := ((H.ro 0 rfl).at hx19 hi20).int
   refine st_g (v := (I x18)) (congrArg some hb17) (rv_load1 Try.underlying3 rfl rfl hc23) ?_
   refine st_g (v := (I target_1)) (congrArg some hb17) (rv_move rfl) ?_
   refine st_g (v := (B (x18 == target_1))) (congrArg some hb17) (rv_eql (a := x18) (b := target_1) rfl rfl) ?_
   refine st_g (v := (B (x18 == target_1))) (congrArg some hb17) (rv_move rfl) ?_
   rcases Bool.eq_false_or_eq_true (x18 == target_1) with hb24 | hb24
   ·replace h := bif_t hb24 h
    refine st_skip (congrArg some hb24) ?_
    refine st_skip (congrArg some hb24) ?_
    refine st_skip (congrArg some hb24) ?_
    refine st_skip (congrArg some hb24) ?_
    refine st_skip (congrArg some hb24) ?_
    refine st_skip (congrArg some hb24) ?_
    refine st_skip_u rfl ?_
    refine st_skip_u rfl ?_
    refine st_skip (congrArg some hb24) ?_
    refine st_g (v := (B true)) (congrArg some hb17) (rv_pick_t (congrArg B hb24) rfl) ?_
    refine st (v := (B true)) (rv_pick_t (congrArg B hb17) rfl) ?_
    refine st (v := (I o1)) (rv_assign rfl) ?_
    refine st (v := (B true)) (rv_assign rfl) ?_
    refine w_end ?_
    refine q_then ?_
    refine c_ret ?_
    obtain rfl := Option.some.inj h
    exact fin_ret (v := (.tuple #[(I o1), (B true)])) (results_ok Try.results78 (res_tmp (v := (I o1)) rfl (res_tmp (v := (B true)) rfl res_nil)) rfl) ⟨rfl, rfl⟩ (H.sel' [] rfl rfl)
   ·replace h := bif_f hb24 h
    refine st_g (v := (Sl ax_0 x_0 cx_0)) (congrArg some hb24) (rv_move rfl) ?_
    refine st_g (v := (I o1)) (congrArg some hb24) (rv_move rfl) ?_
    obtain ⟨x25, hx26, h'⟩ := bind_some h
    clear h
    have h := h'; clear h'
    obtain ⟨b28, o29, hi27, -⟩ := (H.ro 0 rfl).ix hx26
    refine st_g (v := (pt b28 o29)) (congrArg some hb24) (rv_ix Try.underlying24 ti3 rfl rfl hi27) ?_
    have hc30 := ((H.ro 0 rfl).at hx26 hi27).int
    refine st_g (v := (I x25)) (congrArg some hb24) (rv_load1 Try.underlying3 rfl rfl hc30) ?_
    obtain ⟨r31, hx32, h'⟩ := bind_some h
    clear h
    have h := h'; clear h'
    have hc33 := c_slices_isNaN_int hx32
    refine st_call (cx_call hc33 (ent_f hc33.fn rfl) hn0 (show Hp S0 σ0 _ ([] ++ [Ch.ro 0 (Sl ax_0 x_0 cx_0) x_0]) from (H.sel' [0] rfl rfl))) (wanted_yes rfl (by exact (congrArg some hb24))) ?_
    rintro _ σ34 ⟨_, ⟨rfl, rfl⟩, H, -⟩
    replace H : Hp S0 σ0 σ34 [Ch.ro 0 (Sl ax_0 x_0 cx_0) x_0] := H
    refine st_g (v := (B r31)) (congrArg some hb24) (rv_move rfl) ?_
    rcases Bool.eq_false_or_eq_true r31 with hb35 | hb35
    ·replace h := bif_t hb35 h
     refine st_g (v := (I target_1)) (congrArg some hb35) (rv_move rfl) ?_
     obtain ⟨r36, hx37, h'⟩ := bind_some h
     clear h
     have h := h'; clear h'
     have hc38 := c_slices_isNaN_int hx37
     refine st_call (cx_call hc38 (ent_f hc38.fn rfl) hn0 (show Hp S0 σ0 _ ([] ++ [Ch.ro 0 (Sl ax_0 x_0 cx_0) x_0]) from (H.sel' [0] rfl rfl))) (wanted_yes rfl (by exact (congrArg some hb35))) ?_
     rintro _ σ39 ⟨_, ⟨rfl, rfl⟩, H, -⟩
     replace H : Hp S0 σ0 σ39 [Ch.ro 0 (Sl ax_0 x_0 cx_0) x_0] := H
     refine st_g (v := (B r36)) (congrArg some hb24) (rv_pick_t (congrArg B hb35) rfl) ?_
     refine st_g (v := (B r36)) (congrArg some hb17) (rv_pick_f (congrArg B hb24) rfl) ?_
     refine st (v := (B r36)) (rv_pick_t (congrArg B hb17) rfl) ?_
     refine st (v := (I o1)) (rv_assign rfl) ?_
     refine st (v := (B r36)) (rv_assign rfl) ?_
     refine w_end ?_
     refine q_then ?_
     refine c_ret ?_
     obtain rfl := Option.some.inj h
     exact fin_ret (v := (.tuple #[(I o1), (B r36)])) (results_ok Try.results78 (res_tmp (v := (I o1)) rfl (res_tmp (v := (B r36)) rfl res_nil)) rfl) ⟨rfl, rfl⟩ (H.sel' [] rfl rfl)
    ·replace h := bif_f hb35 h
     refine st_skip (congrArg some hb35) ?_
     refine st_skip (congrArg some hb35) ?_
     refine st_g (v := (B false)) (congrArg some hb24) (rv_pick_f (congrArg B hb35) rfl) ?_
     refine st_g (v := (B false)) (congrArg some hb17) (rv_pick_f (congrArg B hb24) rfl) ?_
     refine st (v := (B false)) (rv_pick_t (congrArg B hb17) rfl) ?_
     refine st (v := (I o1)) (rv_assign rfl) ?_
     refine st (v := (B false)) (rv_assign rfl) ?_
     refine w_end ?_
     refine q_then ?_
     refine c_ret ?_
     obtain rfl := Option.some.inj h
     exact fin_ret (v := (.tuple #[(I o1), (B false)])) (results_ok Try.results78 (res_tmp (v := (I o1)) rfl (res_tmp (v := (B false)) rfl res_nil)) rfl) ⟨rfl, rfl⟩ (H.sel' [] rfl rfl)
  ·replace h := bif_f hb17 h
   refine st_skip (congrArg some hb17) ?_
   refine st_skip (congrArg some hb17) ?_
   refine st_skip (congrArg some hb17) ?_
   refine st_skip (congrArg some hb17) ?_
   refine st_skip (congrArg some hb17) ?_
   refine st_skip (congrArg some hb17) ?_
   refine st_skip (congrArg some hb17) ?_
   refine st_skip_u rfl ?_
   refine st_skip_u rfl ?_
   refine st_skip_u rfl ?_
   refine st_skip_u rfl ?_
   refine st_skip_u rfl ?_
   refine st_skip_u rfl ?_
   refine st_skip_u rfl ?_
   refine st_skip_u rfl ?_
   refine st_skip_u rfl ?_
   refine st_skip (congrArg some hb17) ?_
   refine st (v := (B false)) (rv_pick_f (congrArg B hb17) rfl) ?_
   refine st (v := (I o1)) (rv_assign rfl) ?_
   refine st (v := (B false)) (rv_assign rfl) ?_
   refine w_end ?_
   refine q_then ?_
   refine c_ret ?_
   obtain rfl := Option.some.inj h
   exact fin_ret (v := (.tuple #[(I o1), (B false)])) (results_ok Try.results78 (res_tmp (v := (I o1)) rfl (res_tmp (v := (B false)) rfl res_nil)) rfl) ⟨rfl, rfl⟩ (H.sel' [] rfl rfl)

theorem c_impl_History_entriesUntil {h_0 : (List (Int × (Int × (List Int) × Int))) × (List Int)} {t_1 : Int} {ah_0_0 : Option Addr} {ch_0_0 : Nat} {ah_0_1 : Option Addr} {ch_0_1 : Nat} {r : Int} (h : M.impl_History_entriesUntil h_0 t_1 = some r) :
    Cal2 Try.prog 43 [(.agg #[(Sl ah_0_0 h_0.1 ch_0_0), (Sl ah_0_1 h_0.2 ch_0_1)]), (I t_1)] [Ch.ro 0 (Sl ah_0_0 h_0.1 ch_0_0) h_0.1, Ch.ro 0 (Sl ah_0_1 h_0.2 ch_0_1) h_0.2] (fun n0 v L => v = (I r) ∧ L = []) := by
 refine cal2 (n := 16) Try.func43 rfl rfl rfl rfl ?_
 intro S0 σ0 n0 hn0 H
 unfold M.impl_History_entriesUntil at h
 refine c_seq ?_
 refine rg ?_
 refine st_ex (ex_box (cs := [(Sl ah_0_0 h_0.1 ch_0_0), (Sl ah_0_1 h_0.2 ch_0_1)]) H hn0 rfl rfl) wn ?_
 rintro _ σ2 ⟨b1, rfl, H, -⟩
 refine st (v := (I 0)) (rv_assign rfl) ?_
 refine w_end ?_
 refine q_then ?_
 refine c_seq ?_
 refine rg ?_
 refine st (v := (pt b1 1)) (rv_fieldAddr (off := 1) (ft := 24) Try.underlying26 rfl ti24 rfl rfl) ?_
 have hc3 := H.cell (u := (Sl ah_0_1 h_0.2 ch_0_1)) (o' := 1) 0 1 rfl rfl rfl
 refine st (v := (Sl ah_0_1 h_0.2 ch_0_1)) (rv_load1 Try.underlying24 rfl rfl hc3) ?_
 refine st (v := (I t_1)) (rv_move rfl) ?_
 refine st (v := (I (w64 (t_1 + 1)))) (rv_add (a := t_1) (b := 1) rfl rfl) ?_
 obtain ⟨r4, hx5, h'⟩ := bind_some h
 clear h
 have h := h'; clear h'
 have hc6 := c_slices_BinarySearch_int_int (ax_0 := ah_0_1) (cx_0 := ch_0_1) hx5
 refine st_call (cx_call hc6 (ent_f hc6.fn rfl) hn0 (show Hp S0 σ0 _ ([Ch.ro 0 (Sl ah_0_1 h_0.2 ch_0_1) h_0.2] ++ [Ch.bx n0 b1 0 [(Sl ah_0_0 h_0.1 ch_0_0), (Sl ah_0_1 h_0.2 ch_0_1)] [] [], Ch.ro 0 (Sl ah_0_0 h_0.1 ch_0_0) h_0.1, Ch.ro 0 (Sl ah_0_1 h_0.2 ch_0_1) h_0.2]) from (H.sel' [2, 0, 1, 2] rfl rfl))) wn ?_
 rintro _ σ7 ⟨_, ⟨rfl, rfl⟩, H, -⟩
 replace H : Hp S0 σ0 σ7 [Ch.bx n0 b1 0 [(Sl ah_0_0 h_0.1 ch_0_0), (Sl ah_0_1 h_0.2 ch_0_1)] [] [], Ch.ro 0 (Sl ah_0_0 h_0.1 ch_0_0) h_0.1, Ch.ro 0 (Sl ah_0_1 h_0.2 ch_0_1) h_0.2] := H
 refine st (v := (.tuple #[(I r4.1), (B r4.2)])) (rv_move rfl) ?_
 refine st (v := (I r4.1)) (rv_extract rfl rfl) ?_
 refine st (v := (B r4.2)) (rv_extract rfl rfl) ?_
 refine st (v := (I r4.1)) (rv_assign rfl) ?_
 refine st (v := (B r4.2)) (rv_assign rfl) ?_
 refine w_end ?_
 refine q_then ?_
 refine c_seq ?_
 refine rg ?_
 refine st (v := (I r4.1)) (rv_move rfl) ?_
 refine st (v := (I r4.1)) (rv_assign rfl) ?_
 refine w_end ?_
 refine q_then ?_
 refine c_ret ?_
 obtain rfl := Option.some.inj h
 exact fin_ret (v := (I r4.1)) (results_ok Try.results43 (res_tmp (v := (I r4.1)) rfl res_nil) rfl) ⟨rfl, rfl⟩ (H.sel' [] rfl rfl)

theorem c_impl_version_appendToD : ∀ (fuel : Nat) {v_0 : Vr (Int × (List Int) × Int)} {list_1 : List (Int × (List Int) × Int)} {av_0 : Option Addr} {alist_1 : Option Addr} {clist_1 : Nat} {lolist_1 : Nat} {Klist_1 : List Ch} (hKlist_1 : Dp lolist_1 (Sl alist_1 list_1 clist_1) list_1 Klist_1) {r : (List (Int × (List Int) × Int))} (h : M.impl_version_appendToD fuel v_0 list_1 = some r),
    Cal2 Try.prog 50 [(.pointer av_0), (Sl alist_1 list_1 clist_1)] [Ch.pv 0 (.pointer av_0) v_0, Ch.big Klist_1] (fun n0 v L => ∃ (az1 : Option Addr), ∃ (cz2 : Nat), ∃ (Kz3 : List Ch), v = (Sl az1 r cz2) ∧ L = [Ch.big Kz3] ∧ Dp 0 (Sl az1 r cz2) r Kz3) := by
 intro fuel
 induction fuel with
 | zero => intro _ _ _ _ _ _ _ _ r h; cases h
 | succ fuel ih =>
 ·intro v_0 list_1 av_0 alist_1 clist_1 lolist_1 Klist_1 hKlist_1 r h
  replace h : M.impl_version_appendToD_F (M.impl_version_appendToD fuel) v_0 list_1 = some r := h
  refine cal2 (n := 36) Try.func50 rfl rfl rfl rfl ?_
  intro S0 σ0 n0 hn0 H
  unfold M.impl_version_appendToD_F at h
  refine c_seq ?_
  refine rg ?_
  refine st (v := (.slice none 0 0)) (rv_assign rfl) ?_
  refine w_end ?_
  refine q_then ?_
  refine c_seq ?_
  refine c_seq ?_
  refine rg ?_
  refine st (v := (.pointer av_0)) (rv_move rfl) ?_
  refine st (v := (B v_0.isNil)) (rv_eqlNilV Try.underlying72 (H.pv 0 rfl) rfl rfl) ?_
  refine w_end ?_
  refine q_then ?_
  refine cd_cond v_0.isNil rfl (fun hb1 => ?_) (fun hb1 => ?_)
  ·replace h := bif_t hb1 h
   refine c_seq ?_
   refine rg ?_
   refine st (v := (Sl alist_1 list_1 clist_1)) (rv_move rfl) ?_
   refine st (v := (Sl alist_1 list_1 clist_1)) (rv_assign rfl) ?_
   refine w_end ?_
   refine q_then ?_
   refine c_ret ?_
   refine q_then_r ?_
   obtain ⟨K2, hK3, H⟩ := H.dpLow (lo' := 0) 1 rfl hKlist_1 (Nat.zero_le _)
   obtain rfl := Option.some.inj h
   exact fin_ret (v := (Sl alist_1 list_1 clist_1)) (results_ok Try.results50 (res_tmp (v := (Sl alist_1 list_1 clist_1)) rfl res_nil) rfl) ⟨alist_1, clist_1, K2, rfl, rfl, hK3⟩ (H.sel' [0] rfl rfl)
  ·replace h := bif_f hb1 h
   refine c_skip ?_
   refine q_then ?_
   refine c_seq ?_
   refine c_seq ?_
   refine rg ?_
   refine st (v := (.pointer av_0)) (rv_move rfl) ?_
   obtain ⟨x4, hx5, h'⟩ := bind_some h
   clear h
   have h := h'; clear h'
   obtain ⟨b7, o8, hi6⟩ := (H.pv 0 rfl).ex hx5
   refine st (v := (pt b7 o8)) (rv_nilCheckT hi6 rfl) ?_
   refine st (v := (pt b7 (o8 + 0))) (rv_fieldAddr (off := 0) (ft := 99) Try.underlying102 rfl ti99 rfl rfl) ?_
   obtain ⟨v12, hc11, hR10⟩ := ((H.pv 0 rfl).at hx5 hi6).fst.po
   obtain ⟨a9, rfl⟩ := hR10.isPtr
   replace H := H.add (d := Ch.pv 0 (.pointer a9) x4.1) hR10 (fun _ h => h)
   clear hR10
   refine st (v := (.pointer a9)) (rv_load1 Try.underlying99 rfl rfl hc11) ?_
   refine st (v := (B (!x4.1.isNil))) (rv_neqNilV Try.underlying99 (H.pv 0 rfl) rfl rfl) ?_
   refine w_end ?_
   refine q_then ?_
   refine cd_cond (!x4.1.isNil) rfl (fun hb13 => ?_) (fun hb13 => ?_)
   ·replace h := bif_t hb13 h
    refine c_seq ?_
    refine rg ?_
    refine st (v := (Sl alist_1 list_1 clist_1)) (rv_move rfl) ?_
    refine st (v := (.pointer av_0)) (rv_move rfl) ?_
    obtain ⟨x14, hx15, h'⟩ := bind_some h
    clear h
    have h := h'; clear h'
    obtain ⟨b17, o18, hi16⟩ := (H.pv 1 rfl).ex hx15
    refine st (v := (pt b17 o18)) (rv_nilCheckT hi16 rfl) ?_
    refine st (v := (pt b17 (o18 + 0))) (rv_fieldAddr (off := 0) (ft := 99) Try.underlying102 rfl ti99 rfl rfl) ?_
    obtain ⟨v22, hc21, hR20⟩ := ((H.pv 1 rfl).at hx15 hi16).fst.po
    obtain ⟨a19, rfl⟩ := hR20.isPtr
    replace H := H.add (d := Ch.pv 0 (.pointer a19) x14.1) hR20 (fun _ h => h)
    clear hR20
    refine st (v := (.pointer a19)) (rv_load1 Try.underlying99 rfl rfl hc21) ?_
    obtain ⟨x23, hx24, h'⟩ := bind_some h
    clear h
    have h := h'; clear h'
    obtain ⟨b26, o27, hi25⟩ := (H.pv 0 rfl).ex hx24
    refine st (v := (pt b26 o27)) (rv_nilCheckT hi25 rfl) ?_
    obtain ⟨_, ⟨_, _, rfl, rfl, ⟨_, _, rfl, ⟨_, rfl, hR32⟩, rfl⟩⟩, hl28, hc29⟩ := ((H.pv 0 rfl).at hx24 hi25).cells
    obtain ⟨a30, c31, rfl⟩ := hR32.isSl
    replace H := H.add (d := Ch.ro 0 (Sl a30 x23.2.1 c31) x23.2.1) hR32 (fun _ h => h)
    clear hR32
    refine st (v := (.agg #[(I x23.1), (Sl a30 x23.2.1 c31), (I x23.2.2)])) (rv_load Try.underlying36 rfl ti36 rfl hl28 hc29) ?_
    obtain ⟨r33, hx34, h'⟩ := bind_some h
    clear h
    have h := h'; clear h'
    have hc35 := c_impl_copyItem (ax_0_1 := a30) (cx_0_1 := c31) hx34
    refine st_call (cx_call hc35 (ent_f hc35.fn rfl) hn0 (show Hp S0 σ0 _ ([Ch.ro 0 (Sl a30 x23.2.1 c31) x23.2.1] ++ [Ch.ro 0 (Sl a30 x23.2.1 c31) x23.2.1, Ch.pv 0 (.pointer a19) x14.1, Ch.pv 0 (.pointer a9) x4.1, Ch.pv 0 (.pointer av_0) v_0, Ch.big Klist_1]) from (H.sel' [0, 0, 1, 2, 3, 4] rfl rfl))) wn ?_
    rintro _ σ38 ⟨_, ⟨a36, c37, rfl, rfl⟩, H, -⟩
    replace H : Hp S0 σ0 σ38 [Ch.own n0 n0 (Sl a36 r33.2.1 c37) r33.2.1, Ch.ro 0 (Sl a30 x23.2.1 c31) x23.2.1, Ch.pv 0 (.pointer a19) x14.1, Ch.pv 0 (.pointer a9) x4.1, Ch.pv 0 (.pointer av_0) v_0, Ch.big Klist_1] := H
    refine st_ex (ex_buildSlice (el := n0) (xs := ([(r33.1, (Sl a36 r33.2.1 c37), r33.2.2)] : List (Int × Value × Int))) (ps := [(0, (.agg #[(I r33.1), (Sl a36 r33.2.1 c37), (I r33.2.2)]))]) (cs := [(I r33.1), (Sl a36 r33.2.1 c37), (I r33.2.2)]) H hn0 Try.underlying32 ti36 rfl rfl (by kernel_rfl) (.cons (c := [(I r33.1), (Sl a36 r33.2.1 c37), (I r33.2.2)]) ⟨[(I r33.1)], [(Sl a36 r33.2.1 c37), (I r33.2.2)], rfl, rfl, ⟨[(Sl a36 r33.2.1 c37)], [(I r33.2.2)], rfl, ⟨rfl, rfl⟩, rfl⟩⟩ .nil) rfl) wn ?_
    rintro _ σ40 ⟨b39, rfl, H, -⟩
    obtain ⟨K43, hK44, H⟩ := H.dpLow (lo' := 0) 6 rfl hKlist_1 (Nat.zero_le _)
    replace H := H.ownLow 2 0 0 rfl (Nat.zero_le _) (Nat.zero_le _)
    replace H := H.sel' [1, 0, 2, 3, 4, 5, 6] rfl rfl
    obtain ⟨xs45, hx46, h'⟩ := bind_some h
    clear h
    have h := h'; clear h'
    refine st_ex (ex_dpApp (e := (r33.1, r33.2.1, r33.2.2)) H hK44 Try.underlying32 Try.underlying32 ti36 rfl rfl (by decide) ((H.own 2 rfl).rd.low (Nat.zero_le _)) hx46 (Nat.zero_le _) rfl rfl) wn ?_
    rintro _ σ51 ⟨a47, c48, K49, rfl, hK50, H, -⟩
    refine st (v := (Sl a47 xs45 c48)) (rv_assign rfl) ?_
    refine w_end ?_
    refine q_then ?_
    refine c_ret ?_
    refine q_then_r ?_
    obtain rfl := Option.some.inj h
    exact fin_ret (v := (Sl a47 xs45 c48)) (results_ok Try.results50 (res_tmp (v := (Sl a47 xs45 c48)) rfl res_nil) rfl) ⟨a47, c48, K49, rfl, rfl, hK50⟩ (H.sel' [0] rfl rfl)
   ·replace h := bif_f hb13 h
    refine c_skip ?_
    refine q_then ?_
    refine c_seq ?_
    obtain ⟨x52, hx53, h'⟩ := bind_some h
    clear h
    have h := h'; clear h'
    obtain ⟨b55, o56, hi54⟩ := (H.pv 1 rfl).ex hx53
    obtain ⟨v60, hc59, hR58⟩ := ((H.pv 1 rfl).at hx53 hi54).snd.snd.vr
    obtain ⟨a57, rfl⟩ := hR58.isPtr
    replace H := H.add (d := Ch.pv 0 (.pointer a57) x52.2.2) hR58 (fun _ h => h)
    clear hR58
    obtain ⟨x61, hx62, h'⟩ := bind_some h
    clear h
    have h := h'; clear h'
    obtain ⟨b64, o65, hi63⟩ := (H.pv 2 rfl).ex hx62
    obtain ⟨v69, hc68, hR67⟩ := ((H.pv 2 rfl).at hx62 hi63).snd.fst.vr
    obtain ⟨a66, rfl⟩ := hR67.isPtr
    replace H := H.add (d := Ch.pv 0 (.pointer a66) x61.2.1) hR67 (fun _ h => h)
    clear hR67
    obtain ⟨r70, hx71, h'⟩ := bind_some h
    clear h
    have h := h'; clear h'
    have hc72 := ih (av_0 := a66) (alist_1 := alist_1) (clist_1 := clist_1) (hKlist_1 := hKlist_1) hx71
    have Hs := H
    refine rg2 (σ := σ0) (Nm := (Option Addr) × (Nat) × (List Ch)) 12 [11] [[false], [true]] [[(0, 0), (1, 1)], [(0, 0), (1, 1)], [(0, 0), (1, 1)], [(0, 0), (1, 1)], [(0, 0), (1, 1)], [(0, 0)], [(0, 0)], [(0, 0)], [(0, 0)], [(0, 0)], [(0, 0)], [(0, 1)]] 1 [fun ((a73, c74, K75) : (Option Addr) × (Nat) × (List Ch)) => fun σm => Hp S0 σ0 σm [Ch.pv 0 (.pointer a66) x61.2.1, Ch.pv 0 (.pointer a57) x52.2.2, Ch.pv 0 (.pointer a9) x4.1, Ch.pv 0 (.pointer av_0) v_0, Ch.big Klist_1] ∧ Md (cov []) σ0 σm, fun ((a73, c74, K75) : (Option Addr) × (Nat) × (List Ch)) => fun σm => Hp S0 σ0 σm [Ch.big K75, Ch.pv 0 (.pointer a66) x61.2.1, Ch.pv 0 (.pointer a57) x52.2.2, Ch.pv 0 (.pointer a9) x4.1, Ch.pv 0 (.pointer av_0) v_0] ∧ Md (fun i => (cov []) i ∨ (cov [Ch.pv 0 (.pointer a66) x61.2.1, Ch.big Klist_1]) i) σ0 σm ∧ Dp 0 (Sl a73 r70 c74) r70 K75] [fun ((a73, c74, K75) : (Option Addr) × (Nat) × (List Ch)) => (.pointer av_0), fun ((a73, c74, K75) : (Option Addr) × (Nat) × (List Ch)) => (pt b55 o56), fun ((a73, c74, K75) : (Option Addr) × (Nat) × (List Ch)) => (pt b55 (o56 + 1)), fun ((a73, c74, K75) : (Option Addr) × (Nat) × (List Ch)) => (pt b55 (o56 + 2)), fun ((a73, c74, K75) : (Option Addr) × (Nat) × (List Ch)) => (.pointer a57), fun ((a73, c74, K75) : (Option Addr) × (Nat) × (List Ch)) => (.pointer av_0), fun ((a73, c74, K75) : (Option Addr) × (Nat) × (List Ch)) => (pt b64 o65), fun ((a73, c74, K75) : (Option Addr) × (Nat) × (List Ch)) => (pt b64 (o65 + 1)), fun ((a73, c74, K75) : (Option Addr) × (Nat) × (List Ch)) => (pt b64 (o65 + 1)), fun ((a73, c74, K75) : (Option Addr) × (Nat) × (List Ch)) => (.pointer a66), fun ((a73, c74, K75) : (Option Addr) × (Nat) × (List Ch)) => (Sl alist_1 list_1 clist_1), fun ((a73, c74, K75) : (Option Addr) × (Nat) × (List Ch)) => (Sl a73 r70 c74)] (none, 0, []) (by kernel_rfl) (by kernel_rfl) ?_ ?_ ?_
    ·intro σm m0
     exact ⟨H.grow (m0.mono fun _ h => h.elim), m0⟩
    ·refine ac rfl (by
       intro k; rintro ⟨a73, c74, K75⟩ ρ σm hJ hoff hdep
       have e0 := look_off (N := 36) (hoff 0 rfl) rfl
       exact dp_v (v := (.pointer av_0)) wn (rv_move e0) rfl hJ) ?_
     refine ac rfl (by
       intro k; rintro ⟨a73, c74, K75⟩ ρ σm hJ hoff hdep
       have e23 := hdep 0 rfl rfl 23 rfl
       exact dp_v (v := (pt b55 o56)) wn (rv_nilCheckT hi54 e23) rfl hJ) ?_
     refine ac rfl (by
       intro k; rintro ⟨a73, c74, K75⟩ ρ σm hJ hoff hdep
       have e24 := hdep 1 rfl rfl 24 rfl
       exact dp_v (v := (pt b55 (o56 + 1))) wn (rv_fieldAddr (off := 1) (ft := 100) Try.underlying102 rfl ti100 rfl e24) rfl hJ) ?_
     refine ac rfl (by
       intro k; rintro ⟨a73, c74, K75⟩ ρ σm hJ hoff hdep
       have e25 := hdep 2 rfl rfl 25 rfl
       exact dp_v (v := (pt b55 (o56 + 2))) wn (rv_indexAddr_arrayC (bl := b55) (o := (o56 + 1)) Try.underlying100 ti72 e25 rfl (by decide) (by decide) rfl) rfl hJ) ?_
     refine all_cons (by
       refine ⟨?_, ?_⟩
       ·rintro ⟨a73, c74, K75⟩ ρ σm hJ hoff hdep
        have e26 := hdep 3 rfl rfl 26 rfl
        obtain ⟨H, m⟩ := id hJ
        replace hc59 := (Hs.pv 3 rfl).hmd hx53 hi54 (k := 2) (by decide) hc59 m
        exact dp_v (v := (.pointer a57)) wn (rv_load1 Try.underlying72 rfl e26 hc59) rfl hJ
       refine ⟨?_, ?_⟩
       ·rintro ⟨a73, c74, K75⟩ ρ σm hJ hoff hdep
        have e26 := hdep 3 rfl rfl 26 rfl
        obtain ⟨H, m, hK76⟩ := id hJ
        replace hc59 := (Hs.pv 3 rfl).hmd hx53 hi54 (k := 2) (by decide) hc59 m
        exact dp_v (v := (.pointer a57)) wn (rv_load1 Try.underlying72 rfl e26 hc59) rfl hJ
       trivial) ?_
     refine ac rfl (by
       intro k; rintro ⟨a73, c74, K75⟩ ρ σm hJ hoff hdep
       have e0 := look_off (N := 36) (hoff 0 rfl) rfl
       exact dp_v (v := (.pointer av_0)) wn (rv_move e0) rfl hJ) ?_
     refine ac rfl (by
       intro k; rintro ⟨a73, c74, K75⟩ ρ σm hJ hoff hdep
       have e28 := hdep 5 rfl rfl 28 rfl
       exact dp_v (v := (pt b64 o65)) wn (rv_nilCheckT hi63 e28) rfl hJ) ?_
     refine ac rfl (by
       intro k; rintro ⟨a73, c74, K75⟩ ρ σm hJ hoff hdep
       have e29 := hdep 6 rfl rfl 29 rfl
       exact dp_v (v := (pt b64 (o65 + 1))) wn (rv_fieldAddr (off := 1) (ft := 100) Try.underlying102 rfl ti100 rfl e29) rfl hJ) ?_
     refine ac rfl (by
       intro k; rintro ⟨a73, c74, K75⟩ ρ σm hJ hoff hdep
       have e30 := hdep 7 rfl rfl 30 rfl
       exact dp_v (v := (pt b64 (o65 + 1))) wn (rv_indexAddr_arrayC (bl := b64) (o := (o65 + 1)) Try.underlying100 ti72 e30 rfl (by decide) (by decide) rfl) rfl hJ) ?_
     refine all_cons (by
       refine ⟨?_, ?_⟩
       ·rintro ⟨a73, c74, K75⟩ ρ σm hJ hoff hdep
        have e31 := hdep 8 rfl rfl 31 rfl
        obtain ⟨H, m⟩ := id hJ
        replace hc68 := (Hs.pv 3 rfl).hmd hx62 hi63 (k := 1) (by decide) hc68 m
        exact dp_v (v := (.pointer a66)) wn (rv_load1 Try.underlying72 rfl e31 hc68) rfl hJ
       trivial) ?_
     refine ac rfl (by
       intro k; rintro ⟨a73, c74, K75⟩ ρ σm hJ hoff hdep
       have e1 := look_off (N := 36) (hoff 1 rfl) rfl
       exact dp_v (v := (Sl alist_1 list_1 clist_1)) wn (rv_move e1) rfl hJ) ?_
     refine all_cons (by
       refine ⟨?_, ?_⟩
       ·rintro ⟨a73, c74, K75⟩ ρ σm hJ hoff hdep
        have e32 : look 36 ρ 32 = (.pointer a66) := hdep 9 rfl rfl 32 rfl
        have e33 : look 36 ρ 33 = (Sl alist_1 list_1 clist_1) := hdep 10 rfl rfl 33 rfl
        obtain ⟨H, m⟩ := id hJ
        refine dp_cx wn (cx_call hc72 (ent_f hc72.fn (by show [look 36 ρ 32, look 36 ρ 33] = _; rw [e32, e33])) hn0 (show Hp S0 σ0 _ ([Ch.pv 0 (.pointer a66) x61.2.1, Ch.big Klist_1] ++ [Ch.pv 0 (.pointer a66) x61.2.1, Ch.pv 0 (.pointer a57) x52.2.2, Ch.pv 0 (.pointer a9) x4.1, Ch.pv 0 (.pointer av_0) v_0]) from (H.sel' [0, 4, 0, 1, 2, 3] rfl rfl))) ?_
        rintro _ σq ⟨_, ⟨a73x, c74x, K75x, rfl, rfl, hK76⟩, H2, m2⟩
        exact ⟨_, (a73x, c74x, K75x), rfl, rfl, ⟨H2.sel' [0, 1, 2, 3, 4] rfl rfl, m.comp m2, hK76⟩, stab [0, 1, 2, 3, 4, 5, 6, 7, 8, 9, 10] (by kernel_rfl) ⟨rfl, rfl, rfl, rfl, rfl, rfl, rfl, rfl, rfl, rfl, rfl, trivial⟩⟩
       trivial) ?_
     exact all_nil
    ·rintro ⟨a73, c74, K75⟩ ρ σ77 hJ hoff hrel
     have e27 := hrel 4 rfl 27 rfl
     have e34 := hrel 11 rfl 34 rfl
     obtain ⟨H, -, hK76⟩ := (show Hp S0 σ0 σ77 [Ch.big K75, Ch.pv 0 (.pointer a66) x61.2.1, Ch.pv 0 (.pointer a57) x52.2.2, Ch.pv 0 (.pointer a9) x4.1, Ch.pv 0 (.pointer av_0) v_0] ∧ Md (fun i => (cov []) i ∨ (cov [Ch.pv 0 (.pointer a66) x61.2.1, Ch.big Klist_1]) i) σ0 σ77 ∧ Dp 0 (Sl a73 r70 c74) r70 K75 from hJ)
     clear hJ Hs
     rw [fr_lookL (L := [(27, (.pointer a57)), (34, (Sl a73 r70 c74))]) ⟨e27, e34, trivial⟩]
     clear hoff hrel e27 e34
     obtain ⟨r78, hx79, h'⟩ := bind_some h
     clear h
     have h := h'; clear h'
     have hc80 := ih (av_0 := a57) (alist_1 := a73) (clist_1 := c74) (hKlist_1 := hK76) hx79
     refine st_call (cx_call hc80 (ent_f hc80.fn rfl) hn0 (show Hp S0 σ0 _ ([Ch.pv 0 (.pointer a57) x52.2.2, Ch.big K75] ++ [Ch.pv 0 (.pointer a66) x61.2.1, Ch.pv 0 (.pointer a57) x52.2.2, Ch.pv 0 (.pointer a9) x4.1, Ch.pv 0 (.pointer av_0) v_0]) from (H.sel' [2, 0, 1, 2, 3, 4] rfl rfl))) wn ?_
     rintro _ σ85 ⟨_, ⟨a81, c82, K83, rfl, rfl, hK84⟩, H, -⟩
     replace H : Hp S0 σ0 σ85 [Ch.big K83, Ch.pv 0 (.pointer a66) x61.2.1, Ch.pv 0 (.pointer a57) x52.2.2, Ch.pv 0 (.pointer a9) x4.1, Ch.pv 0 (.pointer av_0) v_0] := H
     refine st (v := (Sl a81 r78 c82)) (rv_assign rfl) ?_
     refine w_end ?_
     refine q_then ?_
     refine c_ret ?_
     obtain rfl := Option.some.inj h
     exact fin_ret (v := (Sl a81 r78 c82)) (results_ok Try.results50 (res_tmp (v := (Sl a81 r78 c82)) rfl res_nil) rfl) ⟨a81, c82, K83, rfl, rfl, hK84⟩ (H.sel' [0] rfl rfl)

theorem c_impl_StoreAtD {h_0 : (List (Int × (Int × (List Int) × Int))) × (List Int)} {t_1 : Int} {ah_0_0 : Option Addr} {ch_0_0 : Nat} {ah_0_1 : Option Addr} {ch_0_1 : Nat} {r : (List (Int × (List Int) × Int))} (h : M.impl_StoreAtD h_0 t_1 = some r) :
    Cal2 Try.prog 14 [(.agg #[(Sl ah_0_0 h_0.1 ch_0_0), (Sl ah_0_1 h_0.2 ch_0_1)]), (I t_1)] [Ch.ro 0 (Sl ah_0_0 h_0.1 ch_0_0) h_0.1, Ch.ro 0 (Sl ah_0_1 h_0.2 ch_0_1) h_0.2] (fun n0 v L => ∃ (az1 : Option Addr), ∃ (cz2 : Nat), ∃ (Kz3 : List Ch), v = (Sl az1 r cz2) ∧ L = [Ch.big Kz3] ∧ Dp 0 (Sl az1 r cz2) r Kz3) := by
 refine cal2 (n := 21) Try.func14 rfl rfl rfl rfl ?_
 intro S0 σ0 n0 hn0 H
 unfold M.impl_StoreAtD at h
 refine c_seq ?_
 refine rg ?_
 refine st_ex (ex_box (cs := [(Sl ah_0_0 h_0.1 ch_0_0), (Sl ah_0_1 h_0.2 ch_0_1)]) H hn0 rfl rfl) wn ?_
 rintro _ σ2 ⟨b1, rfl, H, -⟩
 refine st (v := (.slice none 0 0)) (rv_assign rfl) ?_
 refine w_end ?_
 refine q_then ?_
 refine c_seq ?_
 refine c_seq ?_
 obtain ⟨o3, hj, h'⟩ := bind_some h
 clear h
 refine c_cut (fun e a w => e = .normal ∧ ∃ (ρ : Nat → Value) (σ : St), a = fr 21 (updL ρ [(1, (I t_1)), (2, (pt b1 0)), (12, (B o3))]) ∧ w = σ.w ∧ Hp S0 σ0 σ [Ch.ro 0 (Sl ah_0_0 h_0.1 ch_0_0) h_0.1, Ch.ro 0 (Sl ah_0_1 h_0.2 ch_0_1) h_0.2, Ch.bx n0 b1 0 [(Sl ah_0_0 h_0.1 ch_0_0), (Sl ah_0_1 h_0.2 ch_0_1)] [] []]) ?_ ?_
 ·clear h'
  rename _ = some o3 => h
  refine rg ?_
  have hc4 := H.cells 0 rfl
  refine st (v := (.agg #[(Sl ah_0_0 h_0.1 ch_0_0), (Sl ah_0_1 h_0.2 ch_0_1)])) (rv_load (cs := [(Sl ah_0_0 h_0.1 ch_0_0), (Sl ah_0_1 h_0.2 ch_0_1)]) Try.underlying26 rfl ti26 rfl rfl hc4) ?_
  obtain ⟨r5, hx6, h'⟩ := bind_some h
  clear h
  have h := h'; clear h'
  have hc7 := c_impl_ValidHistoryD (ah_0_0 := ah_0_0) (ch_0_0 := ch_0_0) (ah_0_1 := ah_0_1) (ch_0_1 := ch_0_1) hx6
  refine st_call (cx_call hc7 (ent_f hc7.fn rfl) hn0 (show Hp S0 σ0 _ ([Ch.ro 0 (Sl ah_0_0 h_0.1 ch_0_0) h_0.1, Ch.ro 0 (Sl ah_0_1 h_0.2 ch_0_1) h_0.2] ++ [Ch.bx n0 b1 0 [(Sl ah_0_0 h_0.1 ch_0_0), (Sl ah_0_1 h_0.2 ch_0_1)] [] [], Ch.ro 0 (Sl ah_0_0 h_0.1 ch_0_0) h_0.1, Ch.ro 0 (Sl ah_0_1 h_0.2 ch_0_1) h_0.2]) from (H.sel' [1, 2, 0, 1, 2] rfl rfl))) wn ?_
  rintro _ σ8 ⟨_, ⟨rfl, rfl⟩, H, -⟩
  replace H : Hp S0 σ0 σ8 [Ch.bx n0 b1 0 [(Sl ah_0_0 h_0.1 ch_0_0), (Sl ah_0_1 h_0.2 ch_0_1)] [] [], Ch.ro 0 (Sl ah_0_0 h_0.1 ch_0_0) h_0.1, Ch.ro 0 (Sl ah_0_1 h_0.2 ch_0_1) h_0.2] := H
  refine st (v := (B (!r5))) (rv_not rfl) ?_
  refine st (v := (B (!r5))) (rv_move rfl) ?_
  rcases Bool.eq_false_or_eq_true (!r5) with hb9 | hb9
  ·replace h := bif_t hb9 h
   refine st_skip (congrArg some hb9) ?_
   refine st_skip (congrArg some hb9) ?_
   refine st_skip (congrArg some hb9) ?_
   refine st (v := (B true)) (rv_pick_t (congrArg B hb9) rfl) ?_
   refine w_end ?_
   obtain rfl := Option.some.inj h
   exact ⟨rfl, _, σ8, fr_join ⟨rfl, rfl, rfl, trivial⟩, rfl, H.sel' [1, 2, 0] rfl rfl⟩
  ·replace h := bif_f hb9 h
   refine st_g (v := (I t_1)) (congrArg some hb9) (rv_move rfl) ?_
   obtain ⟨r10, hx11, h'⟩ := bind_some h
   clear h
   have h := h'; clear h'
   have hc12 := c_impl_validMoment hx11
   refine st_call (cx_call hc12 (ent_f hc12.fn rfl) hn0 (show Hp S0 σ0 _ ([] ++ [Ch.bx n0 b1 0 [(Sl ah_0_0 h_0.1 ch_0_0), (Sl ah_0_1 h_0.2 ch_0_1)] [] [], Ch.ro 0 (Sl ah_0_0 h_0.1 ch_0_0) h_0.1, Ch.ro 0 (Sl ah_0_1 h_0.2 ch_0_1) h_0.2]) from (H.sel' [0, 1, 2] rfl rfl))) (wanted_yes rfl (by exact (congrArg some hb9))) ?_
   rintro _ σ13 ⟨_, ⟨rfl, rfl⟩, H, -⟩
   replace H : Hp S0 σ0 σ13 [Ch.bx n0 b1 0 [(Sl ah_0_0 h_0.1 ch_0_0), (Sl ah_0_1 h_0.2 ch_0_1)] [] [], Ch.ro 0 (Sl ah_0_0 h_0.1 ch_0_0) h_0.1, Ch.ro 0 (Sl ah_0_1 h_0.2 ch_0_1) h_0.2] := H
   refine st_g (v := (B (!r10))) (congrArg some hb9) (rv_not rfl) ?_
   refine st (v := (B (!r10))) (rv_pick_f (congrArg B hb9) rfl) ?_
   refine w_end ?_
   obtain rfl := Option.some.inj h
   exact ⟨rfl, _, σ13, fr_join ⟨rfl, rfl, rfl, trivial⟩, rfl, H.sel' [1, 2, 0] rfl rfl⟩
 ·clear hj
  have h := h'
  clear h' H
  rintro e a w ⟨rfl, ρ, σ14, rfl, rfl, H⟩
  refine q_then ?_
  refine cd_cond o3 rfl (fun hb15 => ?_) (fun hb15 => ?_)
  ·replace h := bif_t hb15 h
   refine c_seq ?_
   refine rg ?_
   refine st (v := (.slice none 0 0)) (rv_assign rfl) ?_
   refine w_end ?_
   refine q_then ?_
   refine c_ret ?_
   refine q_then_r ?_
   obtain ⟨K16, hK17, H⟩ := H.nilDp (Int × (List Int) × Int) 0
   obtain rfl := Option.some.inj h
   exact fin_ret (v := (.slice none 0 0)) (results_ok Try.results14 (res_tmp (v := (.slice none 0 0)) rfl res_nil) rfl) ⟨none, 0, K16, rfl, rfl, hK17⟩ (H.sel' [0] rfl rfl)
  ·replace h := bif_f hb15 h
   refine c_skip ?_
   refine q_then ?_
   refine c_seq ?_
   have hc18 := H.cells 2 rfl
   obtain ⟨r19, hx20, h'⟩ := bind_some h
   clear h
   have h := h'; clear h'
   have hc21 := c_impl_History_versions (ah_0_0 := ah_0_0) (ch_0_0 := ch_0_0) (ah_0_1 := ah_0_1) (ch_0_1 := ch_0_1) hx20
   have hc24 := H.cells 2 rfl
   have Hs := H
   refine rg2 (σ := σ14) (Nm := (Option Addr) × (Nat)) 4 [1] [[false], [true]] [[(0, 0)], [(0, 1)], [(0, 0), (1, 1)], [(0, 0), (1, 1)]] 1 [fun ((a22, c23) : (Option Addr) × (Nat)) => fun σm => Hp S0 σ0 σm [Ch.ro 0 (Sl ah_0_0 h_0.1 ch_0_0) h_0.1, Ch.ro 0 (Sl ah_0_1 h_0.2 ch_0_1) h_0.2, Ch.bx n0 b1 0 [(Sl ah_0_0 h_0.1 ch_0_0), (Sl ah_0_1 h_0.2 ch_0_1)] [] []] ∧ Md (cov []) σ14 σm, fun ((a22, c23) : (Option Addr) × (Nat)) => fun σm => Hp S0 σ0 σm [Ch.own n0 0 (Sl a22 r19 c23) r19, Ch.ro 0 (Sl ah_0_0 h_0.1 ch_0_0) h_0.1, Ch.ro 0 (Sl ah_0_1 h_0.2 ch_0_1) h_0.2, Ch.bx n0 b1 0 [(Sl ah_0_0 h_0.1 ch_0_0), (Sl ah_0_1 h_0.2 ch_0_1)] [] []] ∧ Md (cov []) σ14 σm] [fun ((a22, c23) : (Option Addr) × (Nat)) => (.agg #[(Sl ah_0_0 h_0.1 ch_0_0), (Sl ah_0_1 h_0.2 ch_0_1)]), fun ((a22, c23) : (Option Addr) × (Nat)) => (Sl a22 r19 c23), fun ((a22, c23) : (Option Addr) × (Nat)) => (.agg #[(Sl ah_0_0 h_0.1 ch_0_0), (Sl ah_0_1 h_0.2 ch_0_1)]), fun ((a22, c23) : (Option Addr) × (Nat)) => (I t_1)] (none, 0) (by kernel_rfl) (by kernel_rfl) ?_ ?_ ?_
   ·intro σm m0
    exact ⟨H.grow (m0.mono fun _ h => h.elim), m0⟩
   ·refine all_cons (by
      refine ⟨?_, ?_⟩
      ·rintro ⟨a22, c23⟩ ρ σm hJ hoff hdep
       have e2 := look_off (N := 21) (hoff 2 rfl) rfl
       obtain ⟨H, m⟩ := id hJ
       have hc18 := H.cells 2 rfl
       exact dp_v (v := (.agg #[(Sl ah_0_0 h_0.1 ch_0_0), (Sl ah_0_1 h_0.2 ch_0_1)])) wn (rv_load (cs := [(Sl ah_0_0 h_0.1 ch_0_0), (Sl ah_0_1 h_0.2 ch_0_1)]) Try.underlying26 rfl ti26 e2 rfl hc18) rfl hJ
      trivial) ?_
    refine all_cons (by
      refine ⟨?_, ?_⟩
      ·rintro ⟨a22, c23⟩ ρ σm hJ hoff hdep
       have e13 : look 21 ρ 13 = (.agg #[(Sl ah_0_0 h_0.1 ch_0_0), (Sl ah_0_1 h_0.2 ch_0_1)]) := hdep 0 rfl rfl 13 rfl
       obtain ⟨H, m⟩ := id hJ
       refine dp_cx wn (cx_call hc21 (ent_f hc21.fn (by show [look 21 ρ 13] = _; rw [e13])) hn0 (show Hp S0 σ0 _ ([Ch.ro 0 (Sl ah_0_0 h_0.1 ch_0_0) h_0.1, Ch.ro 0 (Sl ah_0_1 h_0.2 ch_0_1) h_0.2] ++ [Ch.ro 0 (Sl ah_0_0 h_0.1 ch_0_0) h_0.1, Ch.ro 0 (Sl ah_0_1 h_0.2 ch_0_1) h_0.2, Ch.bx n0 b1 0 [(Sl ah_0_0 h_0.1 ch_0_0), (Sl ah_0_1 h_0.2 ch_0_1)] [] []]) from (H.sel' [0, 1, 0, 1, 2] rfl rfl))) ?_
       rintro _ σq ⟨_, ⟨a22x, c23x, rfl, rfl⟩, H2, m2⟩
       exact ⟨_, (a22x, c23x), rfl, rfl, ⟨H2.sel' [0, 1, 2, 3] rfl rfl, m.comp0 (m2.mono (fun i h => by simp [cov, Ch.ro] at h))⟩, stab [0, 2, 3] (by kernel_rfl) ⟨rfl, rfl, rfl, trivial⟩⟩
      trivial) ?_
    refine all_cons (by
      refine ⟨?_, ?_⟩
      ·rintro ⟨a22, c23⟩ ρ σm hJ hoff hdep
       have e2 := look_off (N := 21) (hoff 2 rfl) rfl
       obtain ⟨H, m⟩ := id hJ
       have hc24 := H.cells 2 rfl
       exact dp_v (v := (.agg #[(Sl ah_0_0 h_0.1 ch_0_0), (Sl ah_0_1 h_0.2 ch_0_1)])) wn (rv_load (cs := [(Sl ah_0_0 h_0.1 ch_0_0), (Sl ah_0_1 h_0.2 ch_0_1)]) Try.underlying26 rfl ti26 e2 rfl hc24) rfl hJ
      refine ⟨?_, ?_⟩
      ·rintro ⟨a22, c23⟩ ρ σm hJ hoff hdep
       have e2 := look_off (N := 21) (hoff 2 rfl) rfl
       obtain ⟨H, m⟩ := id hJ
       have hc24 := H.cells 3 rfl
       exact dp_v (v := (.agg #[(Sl ah_0_0 h_0.1 ch_0_0), (Sl ah_0_1 h_0.2 ch_0_1)])) wn (rv_load (cs := [(Sl ah_0_0 h_0.1 ch_0_0), (Sl ah_0_1 h_0.2 ch_0_1)]) Try.underlying26 rfl ti26 e2 rfl hc24) rfl hJ
      trivial) ?_
    refine ac rfl (by
      intro k; rintro ⟨a22, c23⟩ ρ σm hJ hoff hdep
      have e1 := look_off (N := 21) (hoff 1 rfl) rfl
      exact dp_v (v := (I t_1)) wn (rv_move e1) rfl hJ) ?_
    exact all_nil
   ·rintro ⟨a22, c23⟩ ρ σ25 hJ hoff hrel
    have e14 := hrel 1 rfl 14 rfl
    have e15 := hrel 2 rfl 15 rfl
    have e16 := hrel 3 rfl 16 rfl
    obtain ⟨H, -⟩ := (show Hp S0 σ0 σ25 [Ch.own n0 0 (Sl a22 r19 c23) r19, Ch.ro 0 (Sl ah_0_0 h_0.1 ch_0_0) h_0.1, Ch.ro 0 (Sl ah_0_1 h_0.2 ch_0_1) h_0.2, Ch.bx n0 b1 0 [(Sl ah_0_0 h_0.1 ch_0_0), (Sl ah_0_1 h_0.2 ch_0_1)] [] []] ∧ Md (cov []) σ14 σ25 from hJ)
    clear hJ Hs
    rw [fr_lookL (L := [(14, (Sl a22 r19 c23)), (15, (.agg #[(Sl ah_0_0 h_0.1 ch_0_0), (Sl ah_0_1 h_0.2 ch_0_1)])), (16, (I t_1))]) ⟨e14, e15, e16, trivial⟩]
    clear hoff hrel e14 e15 e16
    obtain ⟨r26, hx27, h'⟩ := bind_some h
    clear h
    have h := h'; clear h'
    have hc28 := c_impl_History_entriesUntil (ah_0_0 := ah_0_0) (ch_0_0 := ch_0_0) (ah_0_1 := ah_0_1) (ch_0_1 := ch_0_1) hx27
    refine st_call (cx_call hc28 (ent_f hc28.fn rfl) hn0 (show Hp S0 σ0 _ ([Ch.ro 0 (Sl ah_0_0 h_0.1 ch_0_0) h_0.1, Ch.ro 0 (Sl ah_0_1 h_0.2 ch_0_1) h_0.2] ++ [Ch.own n0 0 (Sl a22 r19 c23) r19, Ch.ro 0 (Sl ah_0_0 h_0.1 ch_0_0) h_0.1, Ch.ro 0 (Sl ah_0_1 h_0.2 ch_0_1) h_0.2, Ch.bx n0 b1 0 [(Sl ah_0_0 h_0.1 ch_0_0), (Sl ah_0_1 h_0.2 ch_0_1)] [] []]) from (H.sel' [1, 2, 0, 1, 2, 3] rfl rfl))) wn ?_
    rintro _ σ29 ⟨_, ⟨rfl, rfl⟩, H, -⟩
    replace H : Hp S0 σ0 σ29 [Ch.own n0 0 (Sl a22 r19 c23) r19, Ch.ro 0 (Sl ah_0_0 h_0.1 ch_0_0) h_0.1, Ch.ro 0 (Sl ah_0_1 h_0.2 ch_0_1) h_0.2, Ch.bx n0 b1 0 [(Sl ah_0_0 h_0.1 ch_0_0), (Sl ah_0_1 h_0.2 ch_0_1)] [] []] := H
    obtain ⟨x30, hx31, h'⟩ := bind_some h
    clear h
    have h := h'; clear h'
    obtain ⟨b33, o34, hi32, -⟩ := (H.own 0 rfl).ix hx31
    refine st (v := (pt b33 o34)) (rv_ix Try.underlying69 ti72 rfl rfl hi32) ?_
    obtain ⟨v38, hc37, hR36⟩ := ((H.own 0 rfl).at hx31 hi32).vr
    obtain ⟨a35, rfl⟩ := hR36.isPtr
    replace H := H.add (d := Ch.pv 0 (.pointer a35) x30) hR36 (fun _ h => h)
    clear hR36
    refine st (v := (.pointer a35)) (rv_load1 Try.underlying72 rfl rfl hc37) ?_
    obtain ⟨K39, hK40, H⟩ := H.nilDp (Int × (List Int) × Int) 0
    obtain ⟨r41, hx42, h'⟩ := bind_some h
    clear h
    have h := h'; clear h'
    have hc43 := c_impl_version_appendToD 100 (av_0 := a35) (alist_1 := none) (clist_1 := 0) (hKlist_1 := hK40) hx42
    refine st_call (cx_call hc43 (ent_f hc43.fn rfl) hn0 (show Hp S0 σ0 _ ([Ch.pv 0 (.pointer a35) x30, Ch.big K39] ++ [Ch.pv 0 (.pointer a35) x30, Ch.own n0 0 (Sl a22 r19 c23) r19, Ch.ro 0 (Sl ah_0_0 h_0.1 ch_0_0) h_0.1, Ch.ro 0 (Sl ah_0_1 h_0.2 ch_0_1) h_0.2, Ch.bx n0 b1 0 [(Sl ah_0_0 h_0.1 ch_0_0), (Sl ah_0_1 h_0.2 ch_0_1)] [] []]) from (H.sel' [1, 0, 1, 2, 3, 4, 5] rfl rfl))) wn ?_
    rintro _ σ48 ⟨_, ⟨a44, c45, K46, rfl, rfl, hK47⟩, H, -⟩
    replace H : Hp S0 σ0 σ48 [Ch.big K46, Ch.pv 0 (.pointer a35) x30, Ch.own n0 0 (Sl a22 r19 c23) r19, Ch.ro 0 (Sl ah_0_0 h_0.1 ch_0_0) h_0.1, Ch.ro 0 (Sl ah_0_1 h_0.2 ch_0_1) h_0.2, Ch.bx n0 b1 0 [(Sl ah_0_0 h_0.1 ch_0_0), (Sl ah_0_1 h_0.2 ch_0_1)] [] []] := H
    refine st (v := (Sl a44 r41 c45)) (rv_assign rfl) ?_
    refine w_end ?_
    refine q_then ?_
    refine c_ret ?_
    obtain rfl := Option.some.inj h
    exact fin_ret (v := (Sl a44 r41 c45)) (results_ok Try.results14 (res_tmp (v := (Sl a44 r41 c45)) rfl res_nil) rfl) ⟨a44, c45, K46, rfl, rfl, hK47⟩ (H.sel' [0] rfl rfl)

theorem c_laws_szIntS {a_0 : List Int} {left_1 : Int} {aa_0 : Option Addr} {ca_0 : Nat} {r : Int} (h : M.laws_szIntS a_0 left_1 = some r) :
    Cal2 Try.prog 52 [(Sl aa_0 a_0 ca_0), (I left_1)] [Ch.ro 0 (Sl aa_0 a_0 ca_0) a_0] (fun n0 v L => v = (I r) ∧ L = []) := by
 refine cal2 (n := 12) Try.func52 rfl rfl rfl rfl ?_
 intro S0 σ0 n0 hn0 H
 unfold M.laws_szIntS at h
 refine c_seq ?_
 refine rg ?_
 refine st (v := (I 0)) (rv_assign rfl) ?_
 refine w_end ?_
 refine q_then ?_
 refine c_seq ?_
 refine rg ?_
 refine st (v := (I left_1)) (rv_move rfl) ?_
 refine st (v := (Sl aa_0 a_0 ca_0)) (rv_move rfl) ?_
 refine st (v := (I (a_0.length : Int))) (rv_len Try.underlying24 rfl) ?_
 refine st (v := (I (w64 (left_1 - (a_0.length : Int))))) (rv_sub (a := left_1) (b := (a_0.length : Int)) rfl rfl) ?_
 refine st (v := (I (w64 (left_1 - (a_0.length : Int))))) (rv_assign rfl) ?_
 refine w_end ?_
 refine q_then ?_
 refine c_seq ?_
 refine c_seq ?_
 refine rg ?_
 refine st (v := (I (w64 (left_1 - (a_0.length : Int))))) (rv_move rfl) ?_
 refine st (v := (B (decide ((w64 (left_1 - (a_0.length : Int))) < 0)))) (rv_lss (a := (w64 (left_1 - (a_0.length : Int)))) (b := 0) rfl rfl) ?_
 refine w_end ?_
 refine q_then ?_
 refine cd_cond (decide ((w64 (left_1 - (a_0.length : Int))) < 0)) rfl (fun hb1 => ?_) (fun hb1 => ?_)
 ·replace h := bif_t hb1 h
  refine c_seq ?_
  refine rg ?_
  refine st (v := (I (-1))) (rv_assign rfl) ?_
  refine w_end ?_
  refine q_then ?_
  refine c_ret ?_
  refine q_then_r ?_
  obtain rfl := Option.some.inj h
  exact fin_ret (v := (I (-1))) (results_ok Try.results52 (res_tmp (v := (I (-1))) rfl res_nil) rfl) ⟨rfl, rfl⟩ (H.sel' [] rfl rfl)
 ·replace h := bif_f hb1 h
  refine c_skip ?_
  refine q_then ?_
  refine c_seq ?_
  refine rg ?_
  refine st (v := (I (w64 (left_1 - (a_0.length : Int))))) (rv_move rfl) ?_
  refine st (v := (I (w64 (left_1 - (a_0.length : Int))))) (rv_assign rfl) ?_
  refine w_end ?_
  refine q_then ?_
  refine c_ret ?_
  obtain rfl := Option.some.inj h
  exact fin_ret (v := (I (w64 (left_1 - (a_0.length : Int))))) (results_ok Try.results52 (res_tmp (v := (I (w64 (left_1 - (a_0.length : Int))))) rfl res_nil) rfl) ⟨rfl, rfl⟩ (H.sel' [] rfl rfl)

theorem c_laws_szItem {a_0 : Int × (List Int) × Int} {left_1 : Int} {aa_0_1 : Option Addr} {ca_0_1 : Nat} {r : Int} (h : M.laws_szItem a_0 left_1 = some r) :
    Cal2 Try.prog 60 [(.agg #[(I a_0.1), (Sl aa_0_1 a_0.2.1 ca_0_1), (I a_0.2.2)]), (I left_1)] [Ch.ro 0 (Sl aa_0_1 a_0.2.1 ca_0_1) a_0.2.1] (fun n0 v L => v = (I r) ∧ L = []) := by
 refine cal2 (n := 12) Try.func60 rfl rfl rfl rfl ?_
 intro S0 σ0 n0 hn0 H
 unfold M.laws_szItem at h
 refine c_seq ?_
 refine rg ?_
 refine st_ex (ex_box (cs := [(I a_0.1), (Sl aa_0_1 a_0.2.1 ca_0_1), (I a_0.2.2)]) H hn0 rfl rfl) wn ?_
 rintro _ σ2 ⟨b1, rfl, H, -⟩
 refine st (v := (I 0)) (rv_assign rfl) ?_
 refine w_end ?_
 refine q_then ?_
 refine c_seq ?_
 refine rg ?_
 refine st (v := (pt b1 1)) (rv_fieldAddr (off := 1) (ft := 24) Try.underlying49 rfl ti24 rfl rfl) ?_
 have hc3 := H.cell (u := (Sl aa_0_1 a_0.2.1 ca_0_1)) (o' := 1) 0 1 rfl rfl rfl
 refine st (v := (Sl aa_0_1 a_0.2.1 ca_0_1)) (rv_load1 Try.underlying24 rfl rfl hc3) ?_
 refine st (v := (I left_1)) (rv_move rfl) ?_
 obtain ⟨r4, hx5, h'⟩ := bind_some h
 clear h
 have h := h'; clear h'
 have hc6 := c_laws_szIntS (aa_0 := aa_0_1) (ca_0 := ca_0_1) hx5
 refine st_call (cx_call hc6 (ent_f hc6.fn rfl) hn0 (show Hp S0 σ0 _ ([Ch.ro 0 (Sl aa_0_1 a_0.2.1 ca_0_1) a_0.2.1] ++ [Ch.bx n0 b1 0 [(I a_0.1), (Sl aa_0_1 a_0.2.1 ca_0_1), (I a_0.2.2)] [] [], Ch.ro 0 (Sl aa_0_1 a_0.2.1 ca_0_1) a_0.2.1]) from (H.sel' [1, 0, 1] rfl rfl))) wn ?_
 rintro _ σ7 ⟨_, ⟨rfl, rfl⟩, H, -⟩
 replace H : Hp S0 σ0 σ7 [Ch.bx n0 b1 0 [(I a_0.1), (Sl aa_0_1 a_0.2.1 ca_0_1), (I a_0.2.2)] [] [], Ch.ro 0 (Sl aa_0_1 a_0.2.1 ca_0_1) a_0.2.1] := H
 refine st (v := (I r4)) (rv_assign rfl) ?_
 refine w_end ?_
 refine q_then ?_
 refine c_seq ?_
 refine c_seq ?_
 refine rg ?_
 refine st (v := (I r4)) (rv_move rfl) ?_
 refine st (v := (B (decide (r4 < 0)))) (rv_lss (a := r4) (b := 0) rfl rfl) ?_
 refine w_end ?_
 refine q_then ?_
 refine cd_cond (decide (r4 < 0)) rfl (fun hb8 => ?_) (fun hb8 => ?_)
 ·replace h := bif_t hb8 h
  refine c_seq ?_
  refine rg ?_
  refine st (v := (I (-1))) (rv_assign rfl) ?_
  refine w_end ?_
  refine q_then ?_
  refine c_ret ?_
  refine q_then_r ?_
  obtain rfl := Option.some.inj h
  exact fin_ret (v := (I (-1))) (results_ok Try.results60 (res_tmp (v := (I (-1))) rfl res_nil) rfl) ⟨rfl, rfl⟩ (H.sel' [] rfl rfl)
 ·replace h := bif_f hb8 h
  refine c_skip ?_
  refine q_then ?_
  refine c_seq ?_
  refine rg ?_
  refine st (v := (I r4)) (rv_move rfl) ?_
  refine st (v := (I r4)) (rv_assign rfl) ?_
  refine w_end ?_
  refine q_then ?_
  refine c_ret ?_
  obtain rfl := Option.some.inj h
  exact fin_ret (v := (I r4)) (results_ok Try.results60 (res_tmp (v := (I r4)) rfl res_nil) rfl) ⟨rfl, rfl⟩ (H.sel' [] rfl rfl)

theorem c_laws_szEntry {a_0 : Int × (Int × (List Int) × Int)} {left_1 : Int} {aa_0_1_1 : Option Addr} {ca_0_1_1 : Nat} {r : Int} (h : M.laws_szEntry a_0 left_1 = some r) :
    Cal2 Try.prog 25 [(.agg #[(I a_0.1), (I a_0.2.1), (Sl aa_0_1_1 a_0.2.2.1 ca_0_1_1), (I a_0.2.2.2)]), (I left_1)] [Ch.ro 0 (Sl aa_0_1_1 a_0.2.2.1 ca_0_1_1) a_0.2.2.1] (fun n0 v L => v = (I r) ∧ L = []) := by
 refine cal2 (n := 12) Try.func25 rfl rfl rfl rfl ?_
 intro S0 σ0 n0 hn0 H
 unfold M.laws_szEntry at h
 refine c_seq ?_
 refine rg ?_
 refine st_ex (ex_box (cs := [(I a_0.1), (I a_0.2.1), (Sl aa_0_1_1 a_0.2.2.1 ca_0_1_1), (I a_0.2.2.2)]) H hn0 rfl rfl) wn ?_
 rintro _ σ2 ⟨b1, rfl, H, -⟩
 refine st (v := (I 0)) (rv_assign rfl) ?_
 refine w_end ?_
 refine q_then ?_
 refine c_seq ?_
 refine rg ?_
 refine st (v := (pt b1 1)) (rv_fieldAddr (off := 1) (ft := 49) Try.underlying51 rfl ti49 rfl rfl) ?_
 have hc3 := H.part (us := [(I a_0.2.1), (Sl aa_0_1_1 a_0.2.2.1 ca_0_1_1), (I a_0.2.2.2)]) (o' := 1) 0 1 3 rfl rfl rfl rfl
 refine st (v := (.agg #[(I a_0.2.1), (Sl aa_0_1_1 a_0.2.2.1 ca_0_1_1), (I a_0.2.2.2)])) (rv_load (cs := [(I a_0.2.1), (Sl aa_0_1_1 a_0.2.2.1 ca_0_1_1), (I a_0.2.2.2)]) Try.underlying49 rfl ti49 rfl rfl hc3) ?_
 refine st (v := (I left_1)) (rv_move rfl) ?_
 obtain ⟨r4, hx5, h'⟩ := bind_some h
 clear h
 have h := h'; clear h'
 have hc6 := c_laws_szItem (aa_0_1 := aa_0_1_1) (ca_0_1 := ca_0_1_1) hx5
 refine st_call (cx_call hc6 (ent_f hc6.fn rfl) hn0 (show Hp S0 σ0 _ ([Ch.ro 0 (Sl aa_0_1_1 a_0.2.2.1 ca_0_1_1) a_0.2.2.1] ++ [Ch.bx n0 b1 0 [(I a_0.1), (I a_0.2.1), (Sl aa_0_1_1 a_0.2.2.1 ca_0_1_1), (I a_0.2.2.2)] [] [], Ch.ro 0 (Sl aa_0_1_1 a_0.2.2.1 ca_0_1_1) a_0.2.2.1]) from (H.sel' [1, 0, 1] rfl rfl))) wn ?_
 rintro _ σ7 ⟨_, ⟨rfl, rfl⟩, H, -⟩
 replace H : Hp S0 σ0 σ7 [Ch.bx n0 b1 0 [(I a_0.1), (I a_0.2.1), (Sl aa_0_1_1 a_0.2.2.1 ca_0_1_1), (I a_0.2.2.2)] [] [], Ch.ro 0 (Sl aa_0_1_1 a_0.2.2.1 ca_0_1_1) a_0.2.2.1] := H
 refine st (v := (I r4)) (rv_assign rfl) ?_
 refine w_end ?_
 refine q_then ?_
 refine c_seq ?_
 refine c_seq ?_
 refine rg ?_
 refine st (v := (I r4)) (rv_move rfl) ?_
 refine st (v := (B (decide (r4 < 0)))) (rv_lss (a := r4) (b := 0) rfl rfl) ?_
 refine w_end ?_
 refine q_then ?_
 refine cd_cond (decide (r4 < 0)) rfl (fun hb8 => ?_) (fun hb8 => ?_)
 ·replace h := bif_t hb8 h
  refine c_seq ?_
  refine rg ?_
  refine st (v := (I (-1))) (rv_assign rfl) ?_
  refine w_end ?_
  refine q_then ?_
  refine c_ret ?_
  refine q_then_r ?_
  obtain rfl := Option.some.inj h
  exact fin_ret (v := (I (-1))) (results_ok Try.results25 (res_tmp (v := (I (-1))) rfl res_nil) rfl) ⟨rfl, rfl⟩ (H.sel' [] rfl rfl)
 ·replace h := bif_f hb8 h
  refine c_skip ?_
  refine q_then ?_
  refine c_seq ?_
  refine rg ?_
  refine st (v := (I r4)) (rv_move rfl) ?_
  refine st (v := (I r4)) (rv_assign rfl) ?_
  refine w_end ?_
  refine q_then ?_
  refine c_ret ?_
  obtain rfl := Option.some.inj h
  exact fin_ret (v := (I r4)) (results_ok Try.results25 (res_tmp (v := (I r4)) rfl res_nil) rfl) ⟨rfl, rfl⟩ (H.sel' [] rfl rfl)

theorem c_laws_szEntryS {a_0 : List (Int × (Int × (List Int) × Int))} {left_1 : Int} {aa_0 : Option Addr} {ca_0 : Nat} {r : Int} (h : M.laws_szEntryS a_0 left_1 = some r) :
    Cal2 Try.prog 51 [(Sl aa_0 a_0 ca_0), (I left_1)] [Ch.ro 0 (Sl aa_0 a_0 ca_0) a_0] (fun n0 v L => v = (I r) ∧ L = []) := by
 refine cal2 (n := 27) Try.func51 rfl rfl rfl rfl ?_
 intro S0 σ0 n0 hn0 H
 unfold M.laws_szEntryS at h
 refine c_seq ?_
 refine rg ?_
 refine st (v := (I 0)) (rv_assign rfl) ?_
 refine w_end ?_
 refine q_then ?_
 refine c_seq ?_
 refine rg ?_
 refine st (v := (I left_1)) (rv_move rfl) ?_
 refine st (v := (Sl aa_0 a_0 ca_0)) (rv_move rfl) ?_
 refine st (v := (I (a_0.length : Int))) (rv_len Try.underlying38 rfl) ?_
 refine st (v := (I (w64 (left_1 - (a_0.length : Int))))) (rv_sub (a := left_1) (b := (a_0.length : Int)) rfl rfl) ?_
 refine st (v := (I (w64 (left_1 - (a_0.length : Int))))) (rv_assign rfl) ?_
 refine w_end ?_
 refine q_then ?_
 refine c_seq ?_
 refine c_seq ?_
 refine rg ?_
 refine st (v := (I (w64 (left_1 - (a_0.length : Int))))) (rv_move rfl) ?_
 refine st (v := (B (decide ((w64 (left_1 - (a_0.length : Int))) < 0)))) (rv_lss (a := (w64 (left_1 - (a_0.length : Int)))) (b := 0) rfl rfl) ?_
 refine w_end ?_
 refine q_then ?_
 refine cd_cond (decide ((w64 (left_1 - (a_0.length : Int))) < 0)) rfl (fun hb1 => ?_) (fun hb1 => ?_)
 ·replace h := bif_t hb1 h
  refine c_seq ?_
  refine rg ?_
  refine st (v := (I (-1))) (rv_assign rfl) ?_
  refine w_end ?_
  refine q_then ?_
  refine c_ret ?_
  refine q_then_r ?_
  obtain rfl := Option.some.inj h
  exact fin_ret (v := (I (-1))) (results_ok Try.results51 (res_tmp (v := (I (-1))) rfl res_nil) rfl) ⟨rfl, rfl⟩ (H.sel' [] rfl rfl)
 ·replace h := bif_f hb1 h
  refine c_skip ?_
  refine q_then ?_
  refine c_seq ?_
  refine c_seq ?_
  refine rg ?_
  refine st (v := (I 0)) (rv_assign rfl) ?_
  refine w_end ?_
  refine q_then ?_
  obtain ⟨o2, hj, h'⟩ := bind_some h
  clear h
  refine c_cut (fun e a w => (∃ t, o2 = (.inl t) ∧ e = .normal ∧ ∃ (ρ : Nat → Value) (σ : St), a = fr 27 (updL ρ [(1, (I t))]) ∧ w = σ.w ∧ Hp S0 σ0 σ []) ∨ (∃ t, o2 = (.inr t) ∧ e = .ret ∧ ∃ (ρ : Nat → Value) (σ : St), a = fr 27 (updL ρ [(4, (I t))]) ∧ w = σ.w ∧ Hp S0 σ0 σ [])) ?_ ?_
  ·clear h'
   rename _ = some o2 => h
   refine c_blk ?_
   refine wp_loopM _ h (fun s3 a w => ∃ (ρ : Nat → Value) (σ : St), a = fr 27 (updL ρ [(0, (Sl aa_0 a_0 ca_0)), (1, (I s3.1)), (5, (I s3.2))]) ∧ w = σ.w ∧ Hp S0 σ0 σ [Ch.ro 0 (Sl aa_0 a_0 ca_0) a_0]) ⟨_, σ0, fr_join ⟨rfl, rfl, rfl, trivial⟩, rfl, H.sel' [0] rfl rfl⟩ ?_
   clear h H
   rintro s3 a w o ⟨ρ, σ4, rfl, rfl, H⟩ h hres
   refine c_seq ?_
   refine c_seq ?_
   refine rg ?_
   refine st (v := (I s3.2)) (rv_move rfl) ?_
   refine st (v := (Sl aa_0 a_0 ca_0)) (rv_move rfl) ?_
   refine st (v := (I (a_0.length : Int))) (rv_len Try.underlying38 rfl) ?_
   refine st (v := (B (decide (s3.2 < (a_0.length : Int))))) (rv_lss (a := s3.2) (b := (a_0.length : Int)) rfl rfl) ?_
   refine w_end ?_
   refine q_then ?_
   refine cd_cond (decide (s3.2 < (a_0.length : Int))) rfl (fun hb5 => ?_) (fun hb5 => ?_)
   ·replace h := bif_t hb5 h
    refine c_skip ?_
    refine q_then ?_
    refine c_seq ?_
    refine c_blk ?_
    refine c_seq ?_
    refine rg ?_
    refine st (v := (Sl aa_0 a_0 ca_0)) (rv_move rfl) ?_
    refine st (v := (I s3.2)) (rv_move rfl) ?_
    obtain ⟨x6, hx7, h'⟩ := bind_some h
    clear h
    have h := h'; clear h'
    obtain ⟨b9, o10, hi8, -⟩ := (H.ro 0 rfl).ix hx7
    refine st (v := (pt b9 o10)) (rv_ix Try.underlying38 ti51 rfl rfl hi8) ?_
    obtain ⟨_, ⟨_, _, rfl, rfl, ⟨_, _, rfl, rfl, ⟨_, _, rfl, ⟨_, rfl, hR15⟩, rfl⟩⟩⟩, hl11, hc12⟩ := ((H.ro 0 rfl).at hx7 hi8).cells
    obtain ⟨a13, c14, rfl⟩ := hR15.isSl
    replace H := H.add (d := Ch.ro 0 (Sl a13 x6.2.2.1 c14) x6.2.2.1) hR15 (fun _ h => h)
    clear hR15
    refine st (v := (.agg #[(I x6.1), (I x6.2.1), (Sl a13 x6.2.2.1 c14), (I x6.2.2.2)])) (rv_load Try.underlying51 rfl ti51 rfl hl11 hc12) ?_
    refine st (v := (I s3.1)) (rv_move rfl) ?_
    obtain ⟨r16, hx17, h'⟩ := bind_some h
    clear h
    have h := h'; clear h'
    have hc18 := c_laws_szEntry (aa_0_1_1 := a13) (ca_0_1_1 := c14) hx17
    refine st_call (cx_call hc18 (ent_f hc18.fn rfl) hn0 (show Hp S0 σ0 _ ([Ch.ro 0 (Sl a13 x6.2.2.1 c14) x6.2.2.1] ++ [Ch.ro 0 (Sl a13 x6.2.2.1 c14) x6.2.2.1, Ch.ro 0 (Sl aa_0 a_0 ca_0) a_0]) from (H.sel' [0, 0, 1] rfl rfl))) wn ?_
    rintro _ σ19 ⟨_, ⟨rfl, rfl⟩, H, -⟩
    replace H : Hp S0 σ0 σ19 [Ch.ro 0 (Sl a13 x6.2.2.1 c14) x6.2.2.1, Ch.ro 0 (Sl aa_0 a_0 ca_0) a_0] := H
    refine st (v := (I r16)) (rv_assign rfl) ?_
    refine w_end ?_
    refine q_then ?_
    refine c_seq ?_
    refine rg ?_
    refine st (v := (I r16)) (rv_move rfl) ?_
    refine st (v := (B (decide (r16 < 0)))) (rv_lss (a := r16) (b := 0) rfl rfl) ?_
    refine w_end ?_
    refine q_then ?_
    refine cd_cond (decide (r16 < 0)) rfl (fun hb20 => ?_) (fun hb20 => ?_)
    ·replace h := bif_t hb20 h
     refine c_seq ?_
     refine rg ?_
     refine st (v := (I (-1))) (rv_assign rfl) ?_
     refine w_end ?_
     refine q_then ?_
     refine c_ret ?_
     refine q_blk_r ?_
     refine q_then_r ?_
     refine q_then_r ?_
     refine q_blk_r ?_
     obtain rfl := Option.some.inj h
     obtain rfl := hres _ rfl
     exact .inr (⟨_, rfl, rfl, _, σ19, fr_join ⟨rfl, trivial⟩, rfl, H.sel' [] rfl rfl⟩)
    ·replace h := bif_f hb20 h
     refine c_skip ?_
     refine q_blk ?_
     refine q_then ?_
     refine rg ?_
     refine st (v := (I s3.2)) (rv_move rfl) ?_
     refine st (v := (I (w64 (s3.2 + 1)))) (rv_add (a := s3.2) (b := 1) rfl rfl) ?_
     refine st (v := (I (w64 (s3.2 + 1)))) (rv_assign rfl) ?_
     refine w_end ?_
     refine q_then ?_
     obtain rfl := Option.some.inj h
     exact ⟨_, rfl, _, σ19, fr_join ⟨rfl, rfl, rfl, trivial⟩, rfl, H.sel' [1] rfl rfl⟩
   ·replace h := bif_f hb5 h
    refine c_exit ?_
    refine q_then_x ?_
    refine q_then_x ?_
    refine q_blk_hit ?_
    obtain rfl := Option.some.inj h
    obtain rfl := hres _ rfl
    exact .inl ⟨_, rfl, rfl, _, σ4, fr_join ⟨rfl, trivial⟩, rfl, H.sel' [] rfl rfl⟩
  ·clear hj
   have h := h'
   clear h' H
   rintro e a w (⟨t21, rfl, rfl, ρ, σ22, rfl, rfl, H⟩ | ⟨t23, rfl, rfl, ρ, σ24, rfl, rfl, H⟩)
   ·replace h := selim_l h
    refine q_then ?_
    refine c_seq ?_
    refine rg ?_
    refine st (v := (I t21)) (rv_move rfl) ?_
    refine st (v := (I t21)) (rv_assign rfl) ?_
    refine w_end ?_
    refine q_then ?_
    refine c_ret ?_
    obtain rfl := Option.some.inj h
    exact fin_ret (v := (I t21)) (results_ok Try.results51 (res_tmp (v := (I t21)) rfl res_nil) rfl) ⟨rfl, rfl⟩ (H.sel' [] rfl rfl)
   ·replace h := selim_r h
    refine q_then_r ?_
    obtain rfl := Option.some.inj h
    exact fin_ret (v := (I t23)) (results_ok Try.results51 (res_tmp (v := (I t23)) rfl res_nil) rfl) ⟨rfl, rfl⟩ (H.sel' [] rfl rfl)

theorem c_laws_szHistory {a_0 : (List (Int × (Int × (List Int) × Int))) × (List Int)} {left_1 : Int} {aa_0_0 : Option Addr} {ca_0_0 : Nat} {aa_0_1 : Option Addr} {ca_0_1 : Nat} {r : Int} (h : M.laws_szHistory a_0 left_1 = some r) :
    Cal2 Try.prog 16 [(.agg #[(Sl aa_0_0 a_0.1 ca_0_0), (Sl aa_0_1 a_0.2 ca_0_1)]), (I left_1)] [Ch.ro 0 (Sl aa_0_0 a_0.1 ca_0_0) a_0.1, Ch.ro 0 (Sl aa_0_1 a_0.2 ca_0_1) a_0.2] (fun n0 v L => v = (I r) ∧ L = []) := by
 refine cal2 (n := 18) Try.func16 rfl rfl rfl rfl ?_
 intro S0 σ0 n0 hn0 H
 unfold M.laws_szHistory at h
 refine c_seq ?_
 refine rg ?_
 refine st_ex (ex_box (cs := [(Sl aa_0_0 a_0.1 ca_0_0), (Sl aa_0_1 a_0.2 ca_0_1)]) H hn0 rfl rfl) wn ?_
 rintro _ σ2 ⟨b1, rfl, H, -⟩
 refine st (v := (I 0)) (rv_assign rfl) ?_
 refine w_end ?_
 refine q_then ?_
 refine c_seq ?_
 refine rg ?_
 refine st (v := (pt b1 0)) (rv_fieldAddr (off := 0) (ft := 38) Try.underlying40 rfl ti38 rfl rfl) ?_
 have hc3 := H.cell (u := (Sl aa_0_0 a_0.1 ca_0_0)) (o' := 0) 0 0 rfl rfl rfl
 refine st (v := (Sl aa_0_0 a_0.1 ca_0_0)) (rv_load1 Try.underlying38 rfl rfl hc3) ?_
 refine st (v := (I left_1)) (rv_move rfl) ?_
 obtain ⟨r4, hx5, h'⟩ := bind_some h
 clear h
 have h := h'; clear h'
 have hc6 := c_laws_szEntryS (aa_0 := aa_0_0) (ca_0 := ca_0_0) hx5
 refine st_call (cx_call hc6 (ent_f hc6.fn rfl) hn0 (show Hp S0 σ0 _ ([Ch.ro 0 (Sl aa_0_0 a_0.1 ca_0_0) a_0.1] ++ [Ch.bx n0 b1 0 [(Sl aa_0_0 a_0.1 ca_0_0), (Sl aa_0_1 a_0.2 ca_0_1)] [] [], Ch.ro 0 (Sl aa_0_0 a_0.1 ca_0_0) a_0.1, Ch.ro 0 (Sl aa_0_1 a_0.2 ca_0_1) a_0.2]) from (H.sel' [1, 0, 1, 2] rfl rfl))) wn ?_
 rintro _ σ7 ⟨_, ⟨rfl, rfl⟩, H, -⟩
 replace H : Hp S0 σ0 σ7 [Ch.bx n0 b1 0 [(Sl aa_0_0 a_0.1 ca_0_0), (Sl aa_0_1 a_0.2 ca_0_1)] [] [], Ch.ro 0 (Sl aa_0_0 a_0.1 ca_0_0) a_0.1, Ch.ro 0 (Sl aa_0_1 a_0.2 ca_0_1) a_0.2] := H
 refine st (v := (I r4)) (rv_assign rfl) ?_
 refine w_end ?_
 refine q_then ?_
 refine c_seq ?_
 refine c_seq ?_
 refine rg ?_
 refine st (v := (I r4)) (rv_move rfl) ?_
 refine st (v := (B (decide (r4 < 0)))) (rv_lss (a := r4) (b := 0) rfl rfl) ?_
 refine w_end ?_
 refine q_then ?_
 refine cd_cond (decide (r4 < 0)) rfl (fun hb8 => ?_) (fun hb8 => ?_)
 ·replace h := bif_t hb8 h
  refine c_seq ?_
  refine rg ?_
  refine st (v := (I (-1))) (rv_assign rfl) ?_
  refine w_end ?_
  refine q_then ?_
  refine c_ret ?_
  refine q_then_r ?_
  obtain rfl := Option.some.inj h
  exact fin_ret (v := (I (-1))) (results_ok Try.results16 (res_tmp (v := (I (-1))) rfl res_nil) rfl) ⟨rfl, rfl⟩ (H.sel' [] rfl rfl)
 ·replace h := bif_f hb8 h
  refine c_skip ?_
  refine q_then ?_
  refine c_seq ?_
  refine rg ?_
  refine st (v := (pt b1 1)) (rv_fieldAddr (off := 1) (ft := 24) Try.underlying40 rfl ti24 rfl rfl) ?_
  have hc9 := H.cell (u := (Sl aa_0_1 a_0.2 ca_0_1)) (o' := 1) 0 1 rfl rfl rfl
  refine st (v := (Sl aa_0_1 a_0.2 ca_0_1)) (rv_load1 Try.underlying24 rfl rfl hc9) ?_
  refine st (v := (I r4)) (rv_move rfl) ?_
  obtain ⟨r10, hx11, h'⟩ := bind_some h
  clear h
  have h := h'; clear h'
  have hc12 := c_laws_szIntS (aa_0 := aa_0_1) (ca_0 := ca_0_1) hx11
  refine st_call (cx_call hc12 (ent_f hc12.fn rfl) hn0 (show Hp S0 σ0 _ ([Ch.ro 0 (Sl aa_0_1 a_0.2 ca_0_1) a_0.2] ++ [Ch.bx n0 b1 0 [(Sl aa_0_0 a_0.1 ca_0_0), (Sl aa_0_1 a_0.2 ca_0_1)] [] [], Ch.ro 0 (Sl aa_0_0 a_0.1 ca_0_0) a_0.1, Ch.ro 0 (Sl aa_0_1 a_0.2 ca_0_1) a_0.2]) from (H.sel' [2, 0, 1, 2] rfl rfl))) wn ?_
  rintro _ σ13 ⟨_, ⟨rfl, rfl⟩, H, -⟩
  replace H : Hp S0 σ0 σ13 [Ch.bx n0 b1 0 [(Sl aa_0_0 a_0.1 ca_0_0), (Sl aa_0_1 a_0.2 ca_0_1)] [] [], Ch.ro 0 (Sl aa_0_0 a_0.1 ca_0_0) a_0.1, Ch.ro 0 (Sl aa_0_1 a_0.2 ca_0_1) a_0.2] := H
  refine st (v := (I r10)) (rv_assign rfl) ?_
  refine w_end ?_
  refine q_then ?_
  refine c_seq ?_
  refine c_seq ?_
  refine rg ?_
  refine st (v := (I r10)) (rv_move rfl) ?_
  refine st (v := (B (decide (r10 < 0)))) (rv_lss (a := r10) (b := 0) rfl rfl) ?_
  refine w_end ?_
  refine q_then ?_
  refine cd_cond (decide (r10 < 0)) rfl (fun hb14 => ?_) (fun hb14 => ?_)
  ·replace h := bif_t hb14 h
   refine c_seq ?_
   refine rg ?_
   refine st (v := (I (-1))) (rv_assign rfl) ?_
   refine w_end ?_
   refine q_then ?_
   refine c_ret ?_
   refine q_then_r ?_
   obtain rfl := Option.some.inj h
   exact fin_ret (v := (I (-1))) (results_ok Try.results16 (res_tmp (v := (I (-1))) rfl res_nil) rfl) ⟨rfl, rfl⟩ (H.sel' [] rfl rfl)
  ·replace h := bif_f hb14 h
   refine c_skip ?_
   refine q_then ?_
   refine c_seq ?_
   refine rg ?_
   refine st (v := (I r10)) (rv_move rfl) ?_
   refine st (v := (I r10)) (rv_assign rfl) ?_
   refine w_end ?_
   refine q_then ?_
   refine c_ret ?_
   obtain rfl := Option.some.inj h
   exact fin_ret (v := (I r10)) (results_ok Try.results16 (res_tmp (v := (I r10)) rfl res_nil) rfl) ⟨rfl, rfl⟩ (H.sel' [] rfl rfl)

end Go.Vs
