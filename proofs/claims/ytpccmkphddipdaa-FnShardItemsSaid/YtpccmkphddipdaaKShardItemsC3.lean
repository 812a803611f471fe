/- The functions compute what their models say. -/
import Derived.Test.YtpccmkphddipdaaKShardItemsC2
set_option linter.unusedVariables false
set_option linter.unusedSimpArgs false
set_option maxRecDepth 20000
namespace Go.Vs
open Go Go.Proofs
attribute [local irreducible] Code.wp Code.wpIn wpList wpListIn wpQuiet Calls CallsIn

theorem c_impl_ShardItems {list_0 : List (Int × (List Int) × Int)} {shards_1 : Int} {n_2 : Int} {alist_0 : Option Addr} {clist_0 : Nat} {r : (List (Int × (List Int) × Int))} (h : M.impl_ShardItems list_0 shards_1 n_2 = some r) :
    Cal2 Try.prog 37 [(Sl alist_0 list_0 clist_0), (I shards_1), (I n_2)] [Ch.ro 0 (Sl alist_0 list_0 clist_0) list_0] (fun n0 v L => ∃ (az1 : Option Addr), ∃ (cz2 : Nat), v = (Sl az1 r cz2) ∧ L = [Ch.own n0 n0 (Sl az1 r cz2) r] ∧ cz2 = r.length) := by
 refine cal2 (n := 19) Try.func37 rfl rfl rfl rfl ?_
 intro S0 σ0 n0 hn0 H
 unfold M.impl_ShardItems at h
 refine c_seq ?_
 refine rg ?_
 refine st_ex (ex_box (cs := [(I shards_1)]) H hn0 rfl rfl) wn ?_
 rintro _ σ2 ⟨b1, rfl, H, -⟩
 refine st_ex (ex_box (cs := [(I n_2)]) H hn0 rfl rfl) wn ?_
 rintro _ σ4 ⟨b3, rfl, H, -⟩
 refine st (v := (.slice none 0 0)) (rv_assign rfl) ?_
 refine w_end ?_
 refine q_then ?_
 refine c_seq ?_
 refine c_seq ?_
 obtain ⟨o5, hj, h'⟩ := bind_some h
 clear h
 refine c_cut (fun e a w => e = .normal ∧ ∃ (ρ : Nat → Value) (σ : St), a = fr 19 (updL ρ [(0, (Sl alist_0 list_0 clist_0)), (4, (pt b1 0)), (5, (pt b3 0)), (14, (B o5))]) ∧ w = σ.w ∧ Hp S0 σ0 σ [Ch.ro 0 (Sl alist_0 list_0 clist_0) list_0, Ch.bx n0 b1 0 [(I shards_1)] [] [], Ch.bx n0 b3 0 [(I n_2)] [] []]) ?_ ?_
 ·clear h'
  rename _ = some o5 => h
  refine rg ?_
  refine st (v := (Sl alist_0 list_0 clist_0)) (rv_move rfl) ?_
  obtain ⟨r6, hx7, h'⟩ := bind_some h
  clear h
  have h := h'; clear h'
  have hc8 := c_impl_ValidStore (alist_0 := alist_0) (clist_0 := clist_0) hx7
  refine st_call (cx_call hc8 (ent_f hc8.fn rfl) hn0 (show Hp S0 σ0 _ ([Ch.ro 0 (Sl alist_0 list_0 clist_0) list_0] ++ [Ch.bx n0 b3 0 [(I n_2)] [] [], Ch.bx n0 b1 0 [(I shards_1)] [] [], Ch.ro 0 (Sl alist_0 list_0 clist_0) list_0]) from (H.sel' [2, 0, 1, 2] rfl rfl))) wn ?_
  rintro _ σ9 ⟨_, ⟨rfl, rfl⟩, H, -⟩
  replace H : Hp S0 σ0 σ9 [Ch.bx n0 b3 0 [(I n_2)] [] [], Ch.bx n0 b1 0 [(I shards_1)] [] [], Ch.ro 0 (Sl alist_0 list_0 clist_0) list_0] := H
  refine st (v := (B (!r6))) (rv_not rfl) ?_
  refine st (v := (B (!r6))) (rv_move rfl) ?_
  rcases Bool.eq_false_or_eq_true (!r6) with hb10 | hb10
  ·replace h := bif_t hb10 h
   refine st_skip (congrArg some hb10) ?_
   refine st_skip (congrArg some hb10) ?_
   refine st_skip (congrArg some hb10) ?_
   refine st (v := (B true)) (rv_pick_t (congrArg B hb10) rfl) ?_
   refine w_end ?_
   obtain rfl := Option.some.inj h
   exact ⟨rfl, _, σ9, fr_join ⟨rfl, rfl, rfl, rfl, trivial⟩, rfl, H.sel' [2, 1, 0] rfl rfl⟩
  ·replace h := bif_f hb10 h
   have hc11 := H.cell (u := (I shards_1)) (o' := 0) 1 0 rfl rfl rfl
   refine st_g (v := (I shards_1)) (congrArg some hb10) (rv_load1 Try.underlying3 rfl rfl hc11) ?_
   obtain ⟨r12, hx13, h'⟩ := bind_some h
   clear h
   have h := h'; clear h'
   have hc14 := c_impl_validShards hx13
   refine st_call (cx_call hc14 (ent_f hc14.fn rfl) hn0 (show Hp S0 σ0 _ ([] ++ [Ch.bx n0 b3 0 [(I n_2)] [] [], Ch.bx n0 b1 0 [(I shards_1)] [] [], Ch.ro 0 (Sl alist_0 list_0 clist_0) list_0]) from (H.sel' [0, 1, 2] rfl rfl))) (wanted_yes rfl (by exact (congrArg some hb10))) ?_
   rintro _ σ15 ⟨_, ⟨rfl, rfl⟩, H, -⟩
   replace H : Hp S0 σ0 σ15 [Ch.bx n0 b3 0 [(I n_2)] [] [], Ch.bx n0 b1 0 [(I shards_1)] [] [], Ch.ro 0 (Sl alist_0 list_0 clist_0) list_0] := H
   refine st_g (v := (B (!r12))) (congrArg some hb10) (rv_not rfl) ?_
   refine st (v := (B (!r12))) (rv_pick_f (congrArg B hb10) rfl) ?_
   refine w_end ?_
   obtain rfl := Option.some.inj h
   exact ⟨rfl, _, σ15, fr_join ⟨rfl, rfl, rfl, rfl, trivial⟩, rfl, H.sel' [2, 1, 0] rfl rfl⟩
 ·clear hj
  have h := h'
  clear h' H
  rintro e a w ⟨rfl, ρ, σ16, rfl, rfl, H⟩
  refine q_then ?_
  refine cd_cond o5 rfl (fun hb17 => ?_) (fun hb17 => ?_)
  ·replace h := bif_t hb17 h
   refine c_seq ?_
   refine rg ?_
   refine st (v := (.slice none 0 0)) (rv_assign rfl) ?_
   refine w_end ?_
   refine q_then ?_
   refine c_ret ?_
   refine q_then_r ?_
   replace H := H.nilOwn (Int × (List Int) × Int) n0 n0
   obtain rfl := Option.some.inj h
   exact fin_ret (v := (.slice none 0 0)) (results_ok Try.results37 (res_tmp (v := (.slice none 0 0)) rfl res_nil) rfl) ⟨none, 0, rfl, rfl, rfl⟩ (H.sel' [0] rfl rfl)
  ·replace h := bif_f hb17 h
   refine c_skip ?_
   refine q_then ?_
   refine c_seq ?_
   refine rg ?_
   refine st (v := (Sl alist_0 list_0 clist_0)) (rv_move rfl) ?_
   refine st (v := (.func (.func 69) #[] #[(pt b1 0), (pt b3 0)])) (rv_makeFunc (vs := [(pt b1 0), (pt b3 0)]) rfl) ?_
   obtain ⟨r18, hx19, h'⟩ := bind_some h
   clear h
   have h := h'; clear h'
   have hc20 := c_impl_itemsThat__impl_ShardItems_1 (alist_0 := alist_0) (clist_0 := clist_0) (lochosen_1_0 := n0) (bchosen_1_0 := b1) (ochosen_1_0 := 0) (prechosen_1_0 := []) (sufchosen_1_0 := []) (lochosen_1_1 := n0) (bchosen_1_1 := b3) (ochosen_1_1 := 0) (prechosen_1_1 := []) (sufchosen_1_1 := []) hx19
   refine st_call (cx_call hc20 (ent_f hc20.fn rfl) hn0 (show Hp S0 σ0 _ ([Ch.ro 0 (Sl alist_0 list_0 clist_0) list_0, Ch.bx n0 b1 0 [(I shards_1)] [] [], Ch.bx n0 b3 0 [(I n_2)] [] []] ++ [Ch.ro 0 (Sl alist_0 list_0 clist_0) list_0]) from (H.sel' [0, 1, 2, 0] rfl rfl))) wn ?_
   rintro _ σ23 ⟨_, ⟨a21, c22, rfl, rfl⟩, H, -⟩
   replace H : Hp S0 σ0 σ23 [Ch.own n0 0 (Sl a21 r18 c22) r18, Ch.bx n0 b1 0 [(I shards_1)] [] [], Ch.bx n0 b3 0 [(I n_2)] [] [], Ch.ro 0 (Sl alist_0 list_0 clist_0) list_0] := H
   obtain ⟨σ24, hw25, H, -⟩ := H.pub 0 rfl (Nat.zero_le _)
   rw [← hw25]; clear hw25
   obtain ⟨r26, hx27, h'⟩ := bind_some h
   clear h
   have h := h'; clear h'
   have hc28 := c_impl_copyItems (alist_0 := a21) (clist_0 := c22) hx27
   refine st_call (cx_call hc28 (ent_f hc28.fn rfl) hn0 (show Hp S0 σ0 _ ([Ch.ro 0 (Sl a21 r18 c22) r18] ++ [Ch.ro 0 (Sl a21 r18 c22) r18, Ch.bx n0 b1 0 [(I shards_1)] [] [], Ch.bx n0 b3 0 [(I n_2)] [] [], Ch.ro 0 (Sl alist_0 list_0 clist_0) list_0]) from (H.sel' [0, 0, 1, 2, 3] rfl rfl))) wn ?_
   rintro _ σ32 ⟨_, ⟨a29, c30, rfl, rfl, ht31⟩, H, -⟩
   replace H : Hp S0 σ0 σ32 [Ch.own n0 n0 (Sl a29 r26 c30) r26, Ch.ro 0 (Sl a21 r18 c22) r18, Ch.bx n0 b1 0 [(I shards_1)] [] [], Ch.bx n0 b3 0 [(I n_2)] [] [], Ch.ro 0 (Sl alist_0 list_0 clist_0) list_0] := H
   refine st (v := (Sl a29 r26 c30)) (rv_assign rfl) ?_
   refine w_end ?_
   refine q_then ?_
   refine c_ret ?_
   obtain rfl := Option.some.inj h
   exact fin_ret (v := (Sl a29 r26 c30)) (results_ok Try.results37 (res_tmp (v := (Sl a29 r26 c30)) rfl res_nil) rfl) ⟨a29, c30, rfl, rfl, ht31⟩ (H.sel' [0] rfl rfl)

theorem c_spec_shardOf {key_0 : Int} {shards_1 : Int}  {r : Int} (h : M.spec_shardOf key_0 shards_1 = some r) :
    Cal2 Try.prog 67 [(I key_0), (I shards_1)] [] (fun n0 v L => v = (I r) ∧ L = []) := by
 refine cal2 (n := 11) Try.func67 rfl rfl rfl rfl ?_
 intro S0 σ0 n0 hn0 H
 unfold M.spec_shardOf at h
 refine c_seq ?_
 refine rg ?_
 refine st (v := (I 0)) (rv_assign rfl) ?_
 refine w_end ?_
 refine q_then ?_
 refine c_seq ?_
 refine rg ?_
 refine st (v := (I key_0)) (rv_move rfl) ?_
 refine st (v := (I (w64 (389 * key_0)))) (rv_mul (a := 389) (b := key_0) rfl rfl) ?_
 refine st (v := (I ((w64 (389 * key_0)).tmod 1009))) (rv_rem (a := (w64 (389 * key_0))) (b := 1009) rfl rfl (by decide)) ?_
 refine st (v := (I shards_1)) (rv_move rfl) ?_
 refine st (v := (I (w64 (((w64 (389 * key_0)).tmod 1009) * shards_1)))) (rv_mul (a := ((w64 (389 * key_0)).tmod 1009)) (b := shards_1) rfl rfl) ?_
 refine st (v := (I (w64 ((w64 (((w64 (389 * key_0)).tmod 1009) * shards_1)).tdiv 1009)))) (rv_quo (a := (w64 (((w64 (389 * key_0)).tmod 1009) * shards_1))) (b := 1009) rfl rfl (by decide)) ?_
 refine st (v := (I (w64 ((w64 (((w64 (389 * key_0)).tmod 1009) * shards_1)).tdiv 1009)))) (rv_assign rfl) ?_
 refine w_end ?_
 refine q_then ?_
 refine c_ret ?_
 obtain rfl := Option.some.inj h
 exact fin_ret (v := (I (w64 ((w64 (((w64 (389 * key_0)).tmod 1009) * shards_1)).tdiv 1009)))) (results_ok Try.results67 (res_tmp (v := (I (w64 ((w64 (((w64 (389 * key_0)).tmod 1009) * shards_1)).tdiv 1009)))) rfl res_nil) rfl) ⟨rfl, rfl⟩ (H.sel' [] rfl rfl)

theorem c_spec_shardItems {list_0 : List (Int × (List Int) × Int)} {shards_1 : Int} {n_2 : Int} {alist_0 : Option Addr} {clist_0 : Nat} {r : (List (Int × (List Int) × Int))} (h : M.spec_shardItems list_0 shards_1 n_2 = some r) :
    Cal2 Try.prog 70 [(Sl alist_0 list_0 clist_0), (I shards_1), (I n_2)] [Ch.ro 0 (Sl alist_0 list_0 clist_0) list_0] (fun n0 v L => ∃ (az1 : Option Addr), ∃ (cz2 : Nat), v = (Sl az1 r cz2) ∧ L = [Ch.own n0 n0 (Sl az1 r cz2) r]) := by
 refine cal2 (n := 34) Try.func70 rfl rfl rfl rfl ?_
 intro S0 σ0 n0 hn0 H
 unfold M.spec_shardItems at h
 refine c_seq ?_
 refine rg ?_
 refine st (v := (.slice none 0 0)) (rv_assign rfl) ?_
 refine w_end ?_
 refine q_then ?_
 refine c_seq ?_
 refine rg ?_
 refine st_ex (ex_buildSlice (el := n0) (xs := ([] : List (Int × (List Int) × Int))) (ps := []) (cs := []) H hn0 Try.underlying27 ti36 rfl rfl (by kernel_rfl) (.nil) rfl) wn ?_
 rintro _ σ2 ⟨b1, rfl, H, -⟩
 refine st (v := (Sl (some ⟨b1, 0, none⟩) ([] : List (Int × (List Int) × Int)) 0)) (rv_assign rfl) ?_
 refine w_end ?_
 refine q_then ?_
 refine c_seq ?_
 refine c_seq ?_
 refine rg ?_
 refine st (v := (I 0)) (rv_assign rfl) ?_
 refine w_end ?_
 refine q_then ?_
 obtain ⟨o3, hj, h'⟩ := bind_some h
 clear h
 refine c_cut (fun e a w => e = .normal ∧ ∃ (ρ : Nat → Value) (σ : St) (aj1 : Option Addr) (cj2 : Nat), a = fr 34 (updL ρ [(7, (Sl aj1 o3 cj2))]) ∧ w = σ.w ∧ Hp S0 σ0 σ [Ch.own n0 n0 (Sl aj1 o3 cj2) o3]) ?_ ?_
 ·clear h'
  rename _ = some o3 => h
  refine c_blk ?_
  refine wp_loopM _ h (fun s4 a w => ∃ (ρ : Nat → Value) (σ : St) (aj1 : Option Addr) (cj2 : Nat), a = fr 34 (updL ρ [(0, (Sl alist_0 list_0 clist_0)), (1, (I shards_1)), (2, (I n_2)), (7, (Sl aj1 s4.1 cj2)), (8, (I s4.2))]) ∧ w = σ.w ∧ Hp S0 σ0 σ [Ch.ro 0 (Sl alist_0 list_0 clist_0) list_0, Ch.own n0 n0 (Sl aj1 s4.1 cj2) s4.1]) ⟨_, σ2, (some ⟨b1, 0, none⟩), 0, fr_join ⟨rfl, rfl, rfl, rfl, rfl, trivial⟩, rfl, H.sel' [1, 0] rfl rfl⟩ ?_
  clear h H
  rintro s4 a w o ⟨ρ, σ5, a6, c7, rfl, rfl, H⟩ h hres
  refine c_seq ?_
  refine c_seq ?_
  refine rg ?_
  refine st (v := (I s4.2)) (rv_move rfl) ?_
  refine st (v := (Sl alist_0 list_0 clist_0)) (rv_move rfl) ?_
  refine st (v := (I (list_0.length : Int))) (rv_len Try.underlying27 rfl) ?_
  refine st (v := (B (decide (s4.2 < (list_0.length : Int))))) (rv_lss (a := s4.2) (b := (list_0.length : Int)) rfl rfl) ?_
  refine w_end ?_
  refine q_then ?_
  refine cd_cond (decide (s4.2 < (list_0.length : Int))) rfl (fun hb8 => ?_) (fun hb8 => ?_)
  ·replace h := bif_t hb8 h
   refine c_skip ?_
   refine q_then ?_
   refine c_seq ?_
   obtain ⟨o9, hj, h'⟩ := bind_some h
   clear h
   refine c_cut (fun e a w => e = .normal ∧ ∃ (ρ : Nat → Value) (σ : St) (aj1 : Option Addr) (cj2 : Nat), a = fr 34 (updL ρ [(0, (Sl alist_0 list_0 clist_0)), (1, (I shards_1)), (2, (I n_2)), (7, (Sl aj1 o9 cj2)), (8, (I s4.2))]) ∧ w = σ.w ∧ Hp S0 σ0 σ [Ch.ro 0 (Sl alist_0 list_0 clist_0) list_0, Ch.own n0 n0 (Sl aj1 o9 cj2) o9]) ?_ ?_
   ·clear h'
    rename _ = some o9 => h
    refine c_blk ?_
    refine c_seq ?_
    refine rg ?_
    refine st (v := (Sl alist_0 list_0 clist_0)) (rv_move rfl) ?_
    refine st (v := (I s4.2)) (rv_move rfl) ?_
    obtain ⟨x10, hx11, h'⟩ := bind_some h
    clear h
    have h := h'; clear h'
    obtain ⟨b13, o14, hi12, -⟩ := (H.ro 0 rfl).ix hx11
    refine st (v := (pt b13 o14)) (rv_ix Try.underlying27 ti36 rfl rfl hi12) ?_
    refine st (v := (pt b13 (o14 + 0))) (rv_fieldAddr (off := 0) (ft := 3) Try.underlying36 rfl ti3 rfl rfl) ?_
    have hc15 := ((H.ro 0 rfl).at hx11 hi12).fst.int
    refine st (v := (I x10.1)) (rv_load1 Try.underlying3 rfl rfl hc15) ?_
    refine st (v := (I shards_1)) (rv_move rfl) ?_
    obtain ⟨r16, hx17, h'⟩ := bind_some h
    clear h
    have h := h'; clear h'
    have hc18 := c_spec_shardOf hx17
    refine st_call (cx_call hc18 (ent_f hc18.fn rfl) hn0 (show Hp S0 σ0 _ ([] ++ [Ch.ro 0 (Sl alist_0 list_0 clist_0) list_0, Ch.own n0 n0 (Sl a6 s4.1 c7) s4.1]) from (H.sel' [0, 1] rfl rfl))) wn ?_
    rintro _ σ19 ⟨_, ⟨rfl, rfl⟩, H, -⟩
    replace H : Hp S0 σ0 σ19 [Ch.ro 0 (Sl alist_0 list_0 clist_0) list_0, Ch.own n0 n0 (Sl a6 s4.1 c7) s4.1] := H
    refine st (v := (I n_2)) (rv_move rfl) ?_
    refine st (v := (B (r16 == n_2))) (rv_eql (a := r16) (b := n_2) rfl rfl) ?_
    refine w_end ?_
    refine q_then ?_
    refine cd_cond (r16 == n_2) rfl (fun hb20 => ?_) (fun hb20 => ?_)
    ·replace h := bif_t hb20 h
     refine rg ?_
     refine st (v := (Sl a6 s4.1 c7)) (rv_move rfl) ?_
     refine st (v := (Sl alist_0 list_0 clist_0)) (rv_move rfl) ?_
     refine st (v := (I s4.2)) (rv_move rfl) ?_
     obtain ⟨x21, hx22, h'⟩ := bind_some h
     clear h
     have h := h'; clear h'
     obtain ⟨b24, o25, hi23, -⟩ := (H.ro 0 rfl).ix hx22
     refine st (v := (pt b24 o25)) (rv_ix Try.underlying27 ti36 rfl rfl hi23) ?_
     obtain ⟨_, ⟨_, _, rfl, rfl, ⟨_, _, rfl, ⟨_, rfl, hR30⟩, rfl⟩⟩, hl26, hc27⟩ := ((H.ro 0 rfl).at hx22 hi23).cells
     obtain ⟨a28, c29, rfl⟩ := hR30.isSl
     replace H := H.add (d := Ch.ro 0 (Sl a28 x21.2.1 c29) x21.2.1) hR30 (fun _ h => h)
     clear hR30
     refine st (v := (.agg #[(I x21.1), (Sl a28 x21.2.1 c29), (I x21.2.2)])) (rv_load Try.underlying36 rfl ti36 rfl hl26 hc27) ?_
     obtain ⟨r31, hx32, h'⟩ := bind_some h
     clear h
     have h := h'; clear h'
     have hc33 := c_spec_copyItem (ax_0_1 := a28) (cx_0_1 := c29) hx32
     refine st_call (cx_call hc33 (ent_f hc33.fn rfl) hn0 (show Hp S0 σ0 _ ([Ch.ro 0 (Sl a28 x21.2.1 c29) x21.2.1] ++ [Ch.ro 0 (Sl a28 x21.2.1 c29) x21.2.1, Ch.ro 0 (Sl alist_0 list_0 clist_0) list_0, Ch.own n0 n0 (Sl a6 s4.1 c7) s4.1]) from (H.sel' [0, 0, 1, 2] rfl rfl))) wn ?_
     rintro _ σ36 ⟨_, ⟨a34, c35, rfl, rfl⟩, H, -⟩
     replace H : Hp S0 σ0 σ36 [Ch.own n0 n0 (Sl a34 r31.2.1 c35) r31.2.1, Ch.ro 0 (Sl a28 x21.2.1 c29) x21.2.1, Ch.ro 0 (Sl alist_0 list_0 clist_0) list_0, Ch.own n0 n0 (Sl a6 s4.1 c7) s4.1] := H
     obtain ⟨σ37, hw38, H, -⟩ := H.pub 0 rfl (Nat.le_refl _)
     rw [← hw38]; clear hw38
     refine st_ex (ex_buildSlice (el := n0) (xs := ([(r31.1, r31.2.1, r31.2.2)] : List (Int × (List Int) × Int))) (ps := [(0, (.agg #[(I r31.1), (Sl a34 r31.2.1 c35), (I r31.2.2)]))]) (cs := [(I r31.1), (Sl a34 r31.2.1 c35), (I r31.2.2)]) H hn0 Try.underlying27 ti36 rfl rfl (by kernel_rfl) (.cons (c := [(I r31.1), (Sl a34 r31.2.1 c35), (I r31.2.2)]) ⟨[(I r31.1)], [(Sl a34 r31.2.1 c35), (I r31.2.2)], rfl, rfl, ⟨[(Sl a34 r31.2.1 c35)], [(I r31.2.2)], rfl, ⟨_, rfl, (H.ro 0 rfl)⟩, rfl⟩⟩ (.nil)) rfl) wn ?_
     rintro _ σ40 ⟨b39, rfl, H, -⟩
     obtain ⟨xs41, hx42, h'⟩ := bind_some h
     clear h
     have h := h'; clear h'
     refine st_ex (ex_append H (i := 4) rfl Try.underlying27 Try.underlying27 ti36 rfl rfl (by decide) (H.own 0 rfl).rd hx42 hn0 rfl rfl) wn ?_
     rintro _ σ45 ⟨a43, c44, rfl, H, -⟩
     refine st (v := (Sl a43 xs41 c44)) (rv_assign rfl) ?_
     refine w_end ?_
     refine q_blk ?_
     obtain rfl := Option.some.inj h
     exact ⟨rfl, _, σ45, a43, c44, fr_join ⟨rfl, rfl, rfl, rfl, rfl, trivial⟩, rfl, H.sel' [4, 0] rfl rfl⟩
    ·replace h := bif_f hb20 h
     refine c_skip ?_
     refine q_blk ?_
     obtain rfl := Option.some.inj h
     exact ⟨rfl, _, σ19, a6, c7, fr_join ⟨rfl, rfl, rfl, rfl, rfl, trivial⟩, rfl, H.sel' [0, 1] rfl rfl⟩
   ·clear hj
    have h := h'
    clear h' H
    rintro e a w ⟨rfl, ρ, σ46, a47, c48, rfl, rfl, H⟩
    refine q_then ?_
    refine rg ?_
    refine st (v := (I s4.2)) (rv_move rfl) ?_
    refine st (v := (I (w64 (s4.2 + 1)))) (rv_add (a := s4.2) (b := 1) rfl rfl) ?_
    refine st (v := (I (w64 (s4.2 + 1)))) (rv_assign rfl) ?_
    refine w_end ?_
    refine q_then ?_
    obtain rfl := Option.some.inj h
    exact ⟨_, rfl, _, σ46, a47, c48, fr_join ⟨rfl, rfl, rfl, rfl, rfl, trivial⟩, rfl, H.sel' [0, 1] rfl rfl⟩
  ·replace h := bif_f hb8 h
   refine c_exit ?_
   refine q_then_x ?_
   refine q_then_x ?_
   refine q_blk_hit ?_
   obtain rfl := Option.some.inj h
   obtain rfl := hres _ rfl
   exact ⟨rfl, _, σ5, a6, c7, fr_join ⟨rfl, trivial⟩, rfl, H.sel' [1] rfl rfl⟩
 ·clear hj
  have h := h'
  clear h' H
  rintro e a w ⟨rfl, ρ, σ49, a50, c51, rfl, rfl, H⟩
  refine q_then ?_
  refine c_seq ?_
  refine rg ?_
  refine st (v := (Sl a50 o3 c51)) (rv_move rfl) ?_
  refine st (v := (Sl a50 o3 c51)) (rv_assign rfl) ?_
  refine w_end ?_
  refine q_then ?_
  refine c_ret ?_
  obtain rfl := Option.some.inj h
  exact fin_ret (v := (Sl a50 o3 c51)) (results_ok Try.results70 (res_tmp (v := (Sl a50 o3 c51)) rfl res_nil) rfl) ⟨a50, c51, rfl, rfl⟩ (H.sel' [0] rfl rfl)

theorem c_spec_ShardItems {list_0 : List (Int × (List Int) × Int)} {shards_1 : Int} {n_2 : Int} {alist_0 : Option Addr} {clist_0 : Nat} {r : (List (Int × (List Int) × Int))} (h : M.spec_ShardItems list_0 shards_1 n_2 = some r) :
    Cal2 Try.prog 38 [(Sl alist_0 list_0 clist_0), (I shards_1), (I n_2)] [Ch.ro 0 (Sl alist_0 list_0 clist_0) list_0] (fun n0 v L => ∃ (az1 : Option Addr), ∃ (cz2 : Nat), v = (Sl az1 r cz2) ∧ L = [Ch.own n0 n0 (Sl az1 r cz2) r]) := by
 refine cal2 (n := 19) Try.func38 rfl rfl rfl rfl ?_
 intro S0 σ0 n0 hn0 H
 unfold M.spec_ShardItems at h
 refine c_seq ?_
 refine rg ?_
 refine st (v := (.slice none 0 0)) (rv_assign rfl) ?_
 refine w_end ?_
 refine q_then ?_
 refine c_seq ?_
 refine c_seq ?_
 obtain ⟨o1, hj, h'⟩ := bind_some h
 clear h
 refine c_cut (fun e a w => e = .normal ∧ ∃ (ρ : Nat → Value) (σ : St), a = fr 19 (updL ρ [(0, (Sl alist_0 list_0 clist_0)), (1, (I shards_1)), (2, (I n_2)), (14, (B o1))]) ∧ w = σ.w ∧ Hp S0 σ0 σ [Ch.ro 0 (Sl alist_0 list_0 clist_0) list_0]) ?_ ?_
 ·clear h'
  rename _ = some o1 => h
  refine rg ?_
  refine st (v := (Sl alist_0 list_0 clist_0)) (rv_move rfl) ?_
  obtain ⟨r2, hx3, h'⟩ := bind_some h
  clear h
  have h := h'; clear h'
  have hc4 := c_spec_validStore (alist_0 := alist_0) (clist_0 := clist_0) hx3
  refine st_call (cx_call hc4 (ent_f hc4.fn rfl) hn0 (show Hp S0 σ0 _ ([Ch.ro 0 (Sl alist_0 list_0 clist_0) list_0] ++ [Ch.ro 0 (Sl alist_0 list_0 clist_0) list_0]) from (H.sel' [0, 0] rfl rfl))) wn ?_
  rintro _ σ5 ⟨_, ⟨rfl, rfl⟩, H, -⟩
  replace H : Hp S0 σ0 σ5 [Ch.ro 0 (Sl alist_0 list_0 clist_0) list_0] := H
  refine st (v := (B (!r2))) (rv_not rfl) ?_
  refine st (v := (B (!r2))) (rv_move rfl) ?_
  rcases Bool.eq_false_or_eq_true (!r2) with hb6 | hb6
  ·replace h := bif_t hb6 h
   refine st_skip (congrArg some hb6) ?_
   refine st_skip (congrArg some hb6) ?_
   refine st_skip (congrArg some hb6) ?_
   refine st (v := (B true)) (rv_pick_t (congrArg B hb6) rfl) ?_
   refine w_end ?_
   obtain rfl := Option.some.inj h
   exact ⟨rfl, _, σ5, fr_join ⟨rfl, rfl, rfl, rfl, trivial⟩, rfl, H.sel' [0] rfl rfl⟩
  ·replace h := bif_f hb6 h
   refine st_g (v := (I shards_1)) (congrArg some hb6) (rv_move rfl) ?_
   obtain ⟨r7, hx8, h'⟩ := bind_some h
   clear h
   have h := h'; clear h'
   have hc9 := c_spec_inRange hx8
   refine st_call (cx_call hc9 (ent_f hc9.fn rfl) hn0 (show Hp S0 σ0 _ ([] ++ [Ch.ro 0 (Sl alist_0 list_0 clist_0) list_0]) from (H.sel' [0] rfl rfl))) (wanted_yes rfl (by exact (congrArg some hb6))) ?_
   rintro _ σ10 ⟨_, ⟨rfl, rfl⟩, H, -⟩
   replace H : Hp S0 σ0 σ10 [Ch.ro 0 (Sl alist_0 list_0 clist_0) list_0] := H
   refine st_g (v := (B (!r7))) (congrArg some hb6) (rv_not rfl) ?_
   refine st (v := (B (!r7))) (rv_pick_f (congrArg B hb6) rfl) ?_
   refine w_end ?_
   obtain rfl := Option.some.inj h
   exact ⟨rfl, _, σ10, fr_join ⟨rfl, rfl, rfl, rfl, trivial⟩, rfl, H.sel' [0] rfl rfl⟩
 ·clear hj
  have h := h'
  clear h' H
  rintro e a w ⟨rfl, ρ, σ11, rfl, rfl, H⟩
  refine q_then ?_
  refine cd_cond o1 rfl (fun hb12 => ?_) (fun hb12 => ?_)
  ·replace h := bif_t hb12 h
   refine c_seq ?_
   refine rg ?_
   refine st (v := (.slice none 0 0)) (rv_assign rfl) ?_
   refine w_end ?_
   refine q_then ?_
   refine c_ret ?_
   refine q_then_r ?_
   replace H := H.nilOwn (Int × (List Int) × Int) n0 n0
   obtain rfl := Option.some.inj h
   exact fin_ret (v := (.slice none 0 0)) (results_ok Try.results38 (res_tmp (v := (.slice none 0 0)) rfl res_nil) rfl) ⟨none, 0, rfl, rfl⟩ (H.sel' [0] rfl rfl)
  ·replace h := bif_f hb12 h
   refine c_skip ?_
   refine q_then ?_
   refine c_seq ?_
   refine rg ?_
   refine st (v := (Sl alist_0 list_0 clist_0)) (rv_move rfl) ?_
   refine st (v := (I shards_1)) (rv_move rfl) ?_
   refine st (v := (I n_2)) (rv_move rfl) ?_
   obtain ⟨r13, hx14, h'⟩ := bind_some h
   clear h
   have h := h'; clear h'
   have hc15 := c_spec_shardItems (alist_0 := alist_0) (clist_0 := clist_0) hx14
   refine st_call (cx_call hc15 (ent_f hc15.fn rfl) hn0 (show Hp S0 σ0 _ ([Ch.ro 0 (Sl alist_0 list_0 clist_0) list_0] ++ [Ch.ro 0 (Sl alist_0 list_0 clist_0) list_0]) from (H.sel' [0, 0] rfl rfl))) wn ?_
   rintro _ σ18 ⟨_, ⟨a16, c17, rfl, rfl⟩, H, -⟩
   replace H : Hp S0 σ0 σ18 [Ch.own n0 n0 (Sl a16 r13 c17) r13, Ch.ro 0 (Sl alist_0 list_0 clist_0) list_0] := H
   refine st (v := (Sl a16 r13 c17)) (rv_assign rfl) ?_
   refine w_end ?_
   refine q_then ?_
   refine c_ret ?_
   obtain rfl := Option.some.inj h
   exact fin_ret (v := (Sl a16 r13 c17)) (results_ok Try.results38 (res_tmp (v := (Sl a16 r13 c17)) rfl res_nil) rfl) ⟨a16, c17, rfl, rfl⟩ (H.sel' [0] rfl rfl)

theorem c_laws_itemOf {list_0 : List (Int × (List Int) × Int)} {key_1 : Int} {alist_0 : Option Addr} {clist_0 : Nat} {r : (Int × (List Int) × Int)} (h : M.laws_itemOf list_0 key_1 = some r) :
    Cal2 Try.prog 39 [(Sl alist_0 list_0 clist_0), (I key_1)] [Ch.ro 0 (Sl alist_0 list_0 clist_0) list_0] (fun n0 v L => ∃ (az1 : Option Addr), ∃ (cz2 : Nat), v = (.agg #[(I r.1), (Sl az1 r.2.1 cz2), (I r.2.2)]) ∧ L = [Ch.ro 0 (Sl az1 r.2.1 cz2) r.2.1]) := by
 refine cal2 (n := 24) Try.func39 rfl rfl rfl rfl ?_
 intro S0 σ0 n0 hn0 H
 unfold M.laws_itemOf at h
 refine c_seq ?_
 refine rg ?_
 refine st_ex (ex_alloc (cs := [(I 0), (.slice none 0 0), (I 0)]) H hn0 ti36 rfl) wn ?_
 rintro _ σ2 ⟨b1, rfl, H, -⟩
 refine w_end ?_
 refine q_then ?_
 refine c_seq ?_
 refine c_seq ?_
 refine rg ?_
 refine st (v := (I 0)) (rv_assign rfl) ?_
 refine w_end ?_
 refine q_then ?_
 obtain ⟨o3, hj, h'⟩ := bind_some h
 clear h
 refine c_cut (fun e a w => (∃ t, o3 = (.inl t) ∧ e = .normal ∧ ∃ (ρ : Nat → Value) (σ : St), a = fr 24 (updL ρ [(4, (pt b1 0))]) ∧ w = σ.w ∧ Hp S0 σ0 σ [Ch.bx n0 b1 0 [(I 0), (.slice none 0 0), (I 0)] [] []]) ∨ (∃ t, o3 = (.inr t) ∧ e = .ret ∧ ∃ (ρ : Nat → Value) (σ : St) (aj1 : Option Addr) (cj2 : Nat), a = fr 24 (updL ρ [(4, (pt b1 0))]) ∧ w = σ.w ∧ Hp S0 σ0 σ [Ch.bx n0 b1 0 [(I t.1), (Sl aj1 t.2.1 cj2), (I t.2.2)] [] [], Ch.ro 0 (Sl aj1 t.2.1 cj2) t.2.1])) ?_ ?_
 ·clear h'
  rename _ = some o3 => h
  refine c_blk ?_
  refine wp_loopM _ h (fun s4 a w => ∃ (ρ : Nat → Value) (σ : St), a = fr 24 (updL ρ [(0, (Sl alist_0 list_0 clist_0)), (1, (I key_1)), (4, (pt b1 0)), (5, (I s4))]) ∧ w = σ.w ∧ Hp S0 σ0 σ [Ch.ro 0 (Sl alist_0 list_0 clist_0) list_0, Ch.bx n0 b1 0 [(I 0), (.slice none 0 0), (I 0)] [] []]) ⟨_, σ2, fr_join ⟨rfl, rfl, rfl, rfl, trivial⟩, rfl, H.sel' [1, 0] rfl rfl⟩ ?_
  clear h H
  rintro s4 a w o ⟨ρ, σ5, rfl, rfl, H⟩ h hres
  refine c_seq ?_
  refine c_seq ?_
  refine rg ?_
  refine st (v := (I s4)) (rv_move rfl) ?_
  refine st (v := (Sl alist_0 list_0 clist_0)) (rv_move rfl) ?_
  refine st (v := (I (list_0.length : Int))) (rv_len Try.underlying27 rfl) ?_
  refine st (v := (B (decide (s4 < (list_0.length : Int))))) (rv_lss (a := s4) (b := (list_0.length : Int)) rfl rfl) ?_
  refine w_end ?_
  refine q_then ?_
  refine cd_cond (decide (s4 < (list_0.length : Int))) rfl (fun hb6 => ?_) (fun hb6 => ?_)
  ·replace h := bif_t hb6 h
   refine c_skip ?_
   refine q_then ?_
   refine c_seq ?_
   refine c_blk ?_
   refine c_seq ?_
   refine rg ?_
   refine st (v := (Sl alist_0 list_0 clist_0)) (rv_move rfl) ?_
   refine st (v := (I s4)) (rv_move rfl) ?_
   obtain ⟨x7, hx8, h'⟩ := bind_some h
   clear h
   have h := h'; clear h'
   obtain ⟨b10, o11, hi9, -⟩ := (H.ro 0 rfl).ix hx8
   refine st (v := (pt b10 o11)) (rv_ix Try.underlying27 ti36 rfl rfl hi9) ?_
   refine st (v := (pt b10 (o11 + 0))) (rv_fieldAddr (off := 0) (ft := 3) Try.underlying36 rfl ti3 rfl rfl) ?_
   have hc12 := ((H.ro 0 rfl).at hx8 hi9).fst.int
   refine st (v := (I x7.1)) (rv_load1 Try.underlying3 rfl rfl hc12) ?_
   refine st (v := (I key_1)) (rv_move rfl) ?_
   refine st (v := (B (x7.1 == key_1))) (rv_eql (a := x7.1) (b := key_1) rfl rfl) ?_
   refine w_end ?_
   refine q_then ?_
   refine cd_cond (x7.1 == key_1) rfl (fun hb13 => ?_) (fun hb13 => ?_)
   ·replace h := bif_t hb13 h
    refine c_seq ?_
    refine rg ?_
    refine st (v := (Sl alist_0 list_0 clist_0)) (rv_move rfl) ?_
    refine st (v := (I s4)) (rv_move rfl) ?_
    obtain ⟨x14, hx15, h'⟩ := bind_some h
    clear h
    have h := h'; clear h'
    obtain ⟨b17, o18, hi16, -⟩ := (H.ro 0 rfl).ix hx15
    refine st (v := (pt b17 o18)) (rv_ix Try.underlying27 ti36 rfl rfl hi16) ?_
    obtain ⟨_, ⟨_, _, rfl, rfl, ⟨_, _, rfl, ⟨_, rfl, hR23⟩, rfl⟩⟩, hl19, hc20⟩ := ((H.ro 0 rfl).at hx15 hi16).cells
    obtain ⟨a21, c22, rfl⟩ := hR23.isSl
    replace H := H.add (d := Ch.ro 0 (Sl a21 x14.2.1 c22) x14.2.1) hR23 (fun _ h => h)
    clear hR23
    refine st (v := (.agg #[(I x14.1), (Sl a21 x14.2.1 c22), (I x14.2.2)])) (rv_load Try.underlying36 rfl ti36 rfl hl19 hc20) ?_
    refine st_exS (ex_store_box (k := 0) (cs := [(I 0), (.slice none 0 0), (I 0)]) (vs := [(I x14.1), (Sl a21 x14.2.1 c22), (I x14.2.2)]) (cs' := [(I x14.1), (Sl a21 x14.2.1 c22), (I x14.2.2)]) H (i := 2) rfl ti36 rfl rfl rfl rfl rfl (Nat.le_of_ble_eq_true rfl) (by simp [plain]) rfl) wn ?_
    rintro σ24 ⟨H, -⟩
    refine w_end ?_
    refine q_then ?_
    refine c_ret ?_
    refine q_blk_r ?_
    refine q_then_r ?_
    refine q_then_r ?_
    refine q_blk_r ?_
    obtain rfl := Option.some.inj h
    obtain rfl := hres _ rfl
    exact .inr (⟨_, rfl, rfl, _, σ24, a21, c22, fr_join ⟨rfl, trivial⟩, rfl, H.sel' [0, 1] rfl rfl⟩)
   ·replace h := bif_f hb13 h
    refine c_skip ?_
    refine q_blk ?_
    refine q_then ?_
    refine rg ?_
    refine st (v := (I s4)) (rv_move rfl) ?_
    refine st (v := (I (w64 (s4 + 1)))) (rv_add (a := s4) (b := 1) rfl rfl) ?_
    refine st (v := (I (w64 (s4 + 1)))) (rv_assign rfl) ?_
    refine w_end ?_
    refine q_then ?_
    obtain rfl := Option.some.inj h
    exact ⟨_, rfl, _, σ5, fr_join ⟨rfl, rfl, rfl, rfl, trivial⟩, rfl, H.sel' [0, 1] rfl rfl⟩
  ·replace h := bif_f hb6 h
   refine c_exit ?_
   refine q_then_x ?_
   refine q_then_x ?_
   refine q_blk_hit ?_
   obtain rfl := Option.some.inj h
   obtain rfl := hres _ rfl
   exact .inl ⟨_, rfl, rfl, _, σ5, fr_join ⟨rfl, trivial⟩, rfl, H.sel' [1] rfl rfl⟩
 ·clear hj
  have h := h'
  clear h' H
  rintro e a w (⟨t25, rfl, rfl, ρ, σ26, rfl, rfl, H⟩ | ⟨t28, rfl, rfl, ρ, σ29, a30, c31, rfl, rfl, H⟩)
  ·replace h := selim_l h
   refine q_then ?_
   refine c_seq ?_
   refine rg ?_
   refine st (v := (.agg #[(I 0), (.slice none 0 0), (I 0)])) (rv_build (ps := []) Try.underlying36 ti36 (bp36 Try.underlying36) rfl (by kernel_rfl)) ?_
   refine st_exS (ex_store_box (k := 0) (cs := [(I 0), (.slice none 0 0), (I 0)]) (vs := [(I 0), (.slice none 0 0), (I 0)]) (cs' := [(I 0), (.slice none 0 0), (I 0)]) H (i := 0) rfl ti36 rfl rfl rfl rfl rfl (Nat.le_of_ble_eq_true rfl) (by simp [plain]) rfl) wn ?_
   rintro σ27 ⟨H, -⟩
   refine w_end ?_
   refine q_then ?_
   refine c_ret ?_
   replace H := H.nilRo Int 0
   obtain rfl := Option.some.inj h
   exact fin_ret (v := (.agg #[(I 0), (.slice none 0 0), (I 0)])) (results_ok Try.results39 (res_cell rfl (run_cellRes (cs := [(I 0), (.slice none 0 0), (I 0)]) Try.underlying36 rfl ti36 rfl (H.cells 1 rfl)) res_nil) rfl) ⟨none, 0, rfl, rfl⟩ (H.sel' [0] rfl rfl)
  ·replace h := selim_r h
   refine q_then_r ?_
   obtain rfl := Option.some.inj h
   exact fin_ret (v := (.agg #[(I t28.1), (Sl a30 t28.2.1 c31), (I t28.2.2)])) (results_ok Try.results39 (res_cell rfl (run_cellRes (cs := [(I t28.1), (Sl a30 t28.2.1 c31), (I t28.2.2)]) Try.underlying36 rfl ti36 rfl (H.cells 0 rfl)) res_nil) rfl) ⟨a30, c31, rfl, rfl⟩ (H.sel' [1] rfl rfl)

theorem c_laws_FnShardItems {code_0 : List UInt8} {acode_0 : Option Addr} {ccode_0 : Nat} {r : Bool} (h : M.laws_FnShardItems code_0 = some r) :
    Cal2 Try.prog 13 [(Sl acode_0 code_0 ccode_0)] [Ch.ro 0 (Sl acode_0 code_0 ccode_0) code_0] (fun n0 v L => v = (B r) ∧ L = []) := by
 refine cal2 (n := 101) Try.func13 rfl rfl rfl rfl ?_
 intro S0 σ0 n0 hn0 H
 unfold M.laws_FnShardItems at h
 refine c_seq ?_
 refine rg ?_
 refine st (v := (B false)) (rv_assign rfl) ?_
 refine w_end ?_
 refine q_then ?_
 refine c_seq ?_
 refine c_seq ?_
 refine rg ?_
 refine st (v := (Sl acode_0 code_0 ccode_0)) (rv_move rfl) ?_
 refine st (v := (I (code_0.length : Int))) (rv_len Try.underlying22 rfl) ?_
 refine st (v := (B (decide (1048576 < (code_0.length : Int))))) (rv_gtr (a := (code_0.length : Int)) (b := 1048576) rfl rfl) ?_
 refine w_end ?_
 refine q_then ?_
 refine cd_cond (decide (1048576 < (code_0.length : Int))) rfl (fun hb1 => ?_) (fun hb1 => ?_)
 ·replace h := bif_t hb1 h
  refine c_seq ?_
  refine rg ?_
  refine st (v := (B true)) (rv_assign rfl) ?_
  refine w_end ?_
  refine q_then ?_
  refine c_ret ?_
  refine q_then_r ?_
  obtain rfl := Option.some.inj h
  exact fin_ret (v := (B true)) (results_ok Try.results13 (res_tmp (v := (B true)) rfl res_nil) rfl) ⟨rfl, rfl⟩ (H.sel' [] rfl rfl)
 ·replace h := bif_f hb1 h
  refine c_skip ?_
  refine q_then ?_
  refine c_seq ?_
  refine rg ?_
  refine st (v := (Sl acode_0 code_0 ccode_0)) (rv_move rfl) ?_
  obtain ⟨r2, hx3, h'⟩ := bind_some h
  clear h
  have h := h'; clear h'
  have hc4 := c_spec_DrawShardItems (acode_0 := acode_0) (ccode_0 := ccode_0) hx3
  refine st_call (cx_call hc4 (ent_f hc4.fn rfl) hn0 (show Hp S0 σ0 _ ([Ch.ro 0 (Sl acode_0 code_0 ccode_0) code_0] ++ [Ch.ro 0 (Sl acode_0 code_0 ccode_0) code_0]) from (H.sel' [0, 0] rfl rfl))) wn ?_
  rintro _ σ7 ⟨_, ⟨a5, c6, rfl, rfl⟩, H, -⟩
  replace H : Hp S0 σ0 σ7 [Ch.own n0 n0 (Sl a5 r2.1 c6) r2.1, Ch.ro 0 (Sl acode_0 code_0 ccode_0) code_0] := H
  refine st (v := (.tuple #[(Sl a5 r2.1 c6), (I r2.2.1), (I r2.2.2)])) (rv_move rfl) ?_
  refine st (v := (Sl a5 r2.1 c6)) (rv_extract rfl rfl) ?_
  refine st (v := (I r2.2.1)) (rv_extract rfl rfl) ?_
  refine st (v := (I r2.2.2)) (rv_extract rfl rfl) ?_
  refine st (v := (Sl a5 r2.1 c6)) (rv_assign rfl) ?_
  refine st (v := (I r2.2.1)) (rv_assign rfl) ?_
  refine st (v := (I r2.2.2)) (rv_assign rfl) ?_
  refine w_end ?_
  refine q_then ?_
  refine c_seq ?_
  refine rg ?_
  refine st (v := (Sl a5 r2.1 c6)) (rv_move rfl) ?_
  refine st (v := (I r2.2.1)) (rv_move rfl) ?_
  refine st (v := (I r2.2.2)) (rv_move rfl) ?_
  obtain ⟨r8, hx9, h'⟩ := bind_some h
  clear h
  have h := h'; clear h'
  have hc10 := c_impl_ShardItems (alist_0 := a5) (clist_0 := c6) hx9
  have hle := Nat.le_trans hn0 H.size
  refine st_call (cx_lend (Loan.lend Loan.nil) hc10 (ent_f hc10.fn rfl) (show Hp S0 σ0 _ ([Ch.own n0 n0 (Sl a5 r2.1 c6) r2.1] ++ ([] ++ [Ch.ro 0 (Sl acode_0 code_0 ccode_0) code_0])) from (H.sel' [0, 1] rfl rfl)) (by rintro _ _ _ ⟨_, _, rfl, rfl, _⟩; exact ⟨Ab.own (Nat.le_refl _), trivial⟩)) wn ?_
  rintro _ σ14 ⟨_, ⟨a11, c12, rfl, rfl, ht13⟩, H, -, -⟩
  replace H : Hp S0 σ0 σ14 [Ch.own σ7.size σ7.size (Sl a11 r8 c12) r8, Ch.own n0 n0 (Sl a5 r2.1 c6) r2.1, Ch.ro 0 (Sl acode_0 code_0 ccode_0) code_0] := H
  replace H := H.ownLow 0 n0 n0 rfl hle hle
  clear hle
  replace H : Hp S0 σ0 σ14 [Ch.own n0 n0 (Sl a11 r8 c12) r8, Ch.own n0 n0 (Sl a5 r2.1 c6) r2.1, Ch.ro 0 (Sl acode_0 code_0 ccode_0) code_0] := H
  refine st (v := (Sl a11 r8 c12)) (rv_assign rfl) ?_
  refine w_end ?_
  refine q_then ?_
  refine c_seq ?_
  refine c_seq ?_
  obtain ⟨o15, hj, h'⟩ := bind_some h
  clear h
  refine c_cut (fun e a w => e = .normal ∧ ∃ (ρ : Nat → Value) (σ : St), a = fr 101 (updL ρ [(3, (Sl a5 r2.1 c6)), (4, (I r2.2.1)), (5, (I r2.2.2)), (6, (Sl a11 r8 c12)), (43, (B o15))]) ∧ w = σ.w ∧ Hp S0 σ0 σ [Ch.own n0 n0 (Sl a5 r2.1 c6) r2.1, Ch.own n0 n0 (Sl a11 r8 c12) r8]) ?_ ?_
  ·clear h'
   rename _ = some o15 => h
   refine rg ?_
   refine st (v := (Sl a11 r8 c12)) (rv_move rfl) ?_
   refine st (v := (Sl a5 r2.1 c6)) (rv_move rfl) ?_
   refine st (v := (I r2.2.1)) (rv_move rfl) ?_
   refine st (v := (I r2.2.2)) (rv_move rfl) ?_
   obtain ⟨r16, hx17, h'⟩ := bind_some h
   clear h
   have h := h'; clear h'
   have hc18 := c_spec_ShardItems (alist_0 := a5) (clist_0 := c6) hx17
   have hle := Nat.le_trans hn0 H.size
   refine st_call (cx_lend (Loan.lend Loan.nil) hc18 (ent_f hc18.fn rfl) (show Hp S0 σ0 _ ([Ch.own n0 n0 (Sl a5 r2.1 c6) r2.1] ++ ([] ++ [Ch.own n0 n0 (Sl a11 r8 c12) r8, Ch.ro 0 (Sl acode_0 code_0 ccode_0) code_0])) from (H.sel' [1, 0, 2] rfl rfl)) (by rintro _ _ _ ⟨_, _, rfl, rfl⟩; exact ⟨Ab.own (Nat.le_refl _), trivial⟩)) wn ?_
   rintro _ σ21 ⟨_, ⟨a19, c20, rfl, rfl⟩, H, -, -⟩
   replace H : Hp S0 σ0 σ21 [Ch.own σ14.size σ14.size (Sl a19 r16 c20) r16, Ch.own n0 n0 (Sl a5 r2.1 c6) r2.1, Ch.own n0 n0 (Sl a11 r8 c12) r8, Ch.ro 0 (Sl acode_0 code_0 ccode_0) code_0] := H
   replace H := H.ownLow 0 n0 n0 rfl hle hle
   clear hle
   replace H : Hp S0 σ0 σ21 [Ch.own n0 n0 (Sl a19 r16 c20) r16, Ch.own n0 n0 (Sl a5 r2.1 c6) r2.1, Ch.own n0 n0 (Sl a11 r8 c12) r8, Ch.ro 0 (Sl acode_0 code_0 ccode_0) code_0] := H
   obtain ⟨σ22, hw23, H, -⟩ := H.pub 0 rfl (Nat.le_refl _)
   rw [← hw23]; clear hw23
   replace H := H.roLow 0 0 rfl (Nat.zero_le _)
   obtain ⟨r24, hx25, h'⟩ := bind_some h
   clear h
   have h := h'; clear h'
   have hc26 := c_laws_equalItems (aa_0 := a11) (ca_0 := c12) (ab_1 := a19) (cb_1 := c20) hx25
   have hle := Nat.le_trans hn0 H.size
   refine st_call (cx_lend (Loan.lend (Loan.same Loan.nil)) hc26 (ent_f hc26.fn rfl) (show Hp S0 σ0 _ ([Ch.own n0 n0 (Sl a11 r8 c12) r8] ++ ([Ch.ro 0 (Sl a19 r16 c20) r16] ++ [Ch.ro 0 (Sl a19 r16 c20) r16, Ch.ro n0 (Sl a19 r16 c20) r16, Ch.own n0 n0 (Sl a5 r2.1 c6) r2.1, Ch.ro 0 (Sl acode_0 code_0 ccode_0) code_0])) from (H.sel' [3, 0, 0, 1, 2, 4] rfl rfl)) (by rintro _ _ _ ⟨rfl, rfl⟩; exact trivial)) wn ?_
   rintro _ σ27 ⟨_, ⟨rfl, rfl⟩, H, -, -⟩
   replace H : Hp S0 σ0 σ27 [Ch.own n0 n0 (Sl a11 r8 c12) r8, Ch.ro 0 (Sl a19 r16 c20) r16, Ch.ro n0 (Sl a19 r16 c20) r16, Ch.own n0 n0 (Sl a5 r2.1 c6) r2.1, Ch.ro 0 (Sl acode_0 code_0 ccode_0) code_0] := H
   clear hle
   replace H : Hp S0 σ0 σ27 [Ch.own n0 n0 (Sl a11 r8 c12) r8, Ch.ro 0 (Sl a19 r16 c20) r16, Ch.ro n0 (Sl a19 r16 c20) r16, Ch.own n0 n0 (Sl a5 r2.1 c6) r2.1, Ch.ro 0 (Sl acode_0 code_0 ccode_0) code_0] := H
   refine st (v := (B (!r24))) (rv_not rfl) ?_
   refine st (v := (B (!r24))) (rv_move rfl) ?_
   rcases Bool.eq_false_or_eq_true (!r24) with hb28 | hb28
   ·replace h := bif_t hb28 h
    refine st_skip (congrArg some hb28) ?_
    refine st_skip (congrArg some hb28) ?_
    refine st_skip (congrArg some hb28) ?_
    refine st (v := (B true)) (rv_pick_t (congrArg B hb28) rfl) ?_
    refine st (v := (B true)) (rv_move rfl) ?_
    refine st_skip rfl ?_
    refine st_skip rfl ?_
    refine st (v := (B true)) (rv_pick_t rfl rfl) ?_
    refine st (v := (B true)) (rv_move rfl) ?_
    refine st_skip rfl ?_
    refine st_skip rfl ?_
    refine st (v := (B true)) (rv_pick_t rfl rfl) ?_
    refine w_end ?_
    obtain rfl := Option.some.inj h
    exact ⟨rfl, _, σ27, fr_join ⟨rfl, rfl, rfl, rfl, rfl, trivial⟩, rfl, H.sel' [3, 0] rfl rfl⟩
   ·replace h := bif_f hb28 h
    refine st_g (v := (Sl a5 r2.1 c6)) (congrArg some hb28) (rv_move rfl) ?_
    obtain ⟨r29, hx30, h'⟩ := bind_some h
    clear h
    have h := h'; clear h'
    have hc31 := c_impl_ValidStore (alist_0 := a5) (clist_0 := c6) hx30
    have hle := Nat.le_trans hn0 H.size
    refine st_call (cx_lend (Loan.lend Loan.nil) hc31 (ent_f hc31.fn rfl) (show Hp S0 σ0 _ ([Ch.own n0 n0 (Sl a5 r2.1 c6) r2.1] ++ ([] ++ [Ch.own n0 n0 (Sl a11 r8 c12) r8, Ch.ro 0 (Sl a19 r16 c20) r16, Ch.ro n0 (Sl a19 r16 c20) r16, Ch.ro 0 (Sl acode_0 code_0 ccode_0) code_0])) from (H.sel' [3, 0, 1, 2, 4] rfl rfl)) (by rintro _ _ _ ⟨rfl, rfl⟩; exact trivial)) (wanted_yes rfl (by exact (congrArg some hb28))) ?_
    rintro _ σ32 ⟨_, ⟨rfl, rfl⟩, H, -, -⟩
    replace H : Hp S0 σ0 σ32 [Ch.own n0 n0 (Sl a5 r2.1 c6) r2.1, Ch.own n0 n0 (Sl a11 r8 c12) r8, Ch.ro 0 (Sl a19 r16 c20) r16, Ch.ro n0 (Sl a19 r16 c20) r16, Ch.ro 0 (Sl acode_0 code_0 ccode_0) code_0] := H
    clear hle
    replace H : Hp S0 σ0 σ32 [Ch.own n0 n0 (Sl a5 r2.1 c6) r2.1, Ch.own n0 n0 (Sl a11 r8 c12) r8, Ch.ro 0 (Sl a19 r16 c20) r16, Ch.ro n0 (Sl a19 r16 c20) r16, Ch.ro 0 (Sl acode_0 code_0 ccode_0) code_0] := H
    refine st_g (v := (B (!r29))) (congrArg some hb28) (rv_not rfl) ?_
    refine st (v := (B (!r29))) (rv_pick_f (congrArg B hb28) rfl) ?_
    refine st (v := (B (!r29))) (rv_move rfl) ?_
    rcases Bool.eq_false_or_eq_true (!r29) with hb33 | hb33
    ·replace h := bif_t hb33 h
     refine st_skip (congrArg some hb33) ?_
     refine st_skip (congrArg some hb33) ?_
     refine st (v := (B true)) (rv_pick_t (congrArg B hb33) rfl) ?_
     refine st (v := (B true)) (rv_move rfl) ?_
     refine st_skip rfl ?_
     refine st_skip rfl ?_
     refine st (v := (B true)) (rv_pick_t rfl rfl) ?_
     refine w_end ?_
     obtain rfl := Option.some.inj h
     exact ⟨rfl, _, σ32, fr_join ⟨rfl, rfl, rfl, rfl, rfl, trivial⟩, rfl, H.sel' [0, 1] rfl rfl⟩
    ·replace h := bif_f hb33 h
     refine st_g (v := (I r2.2.1)) (congrArg some hb33) (rv_move rfl) ?_
     refine st_g (v := (B (decide (r2.2.1 < 1)))) (congrArg some hb33) (rv_lss (a := r2.2.1) (b := 1) rfl rfl) ?_
     refine st (v := (B (decide (r2.2.1 < 1)))) (rv_pick_f (congrArg B hb33) rfl) ?_
     refine st (v := (B (decide (r2.2.1 < 1)))) (rv_move rfl) ?_
     rcases Bool.eq_false_or_eq_true (decide (r2.2.1 < 1)) with hb34 | hb34
     ·replace h := bif_t hb34 h
      refine st_skip (congrArg some hb34) ?_
      refine st_skip (congrArg some hb34) ?_
      refine st (v := (B true)) (rv_pick_t (congrArg B hb34) rfl) ?_
      refine w_end ?_
      obtain rfl := Option.some.inj h
      exact ⟨rfl, _, σ32, fr_join ⟨rfl, rfl, rfl, rfl, rfl, trivial⟩, rfl, H.sel' [0, 1] rfl rfl⟩
     ·replace h := bif_f hb34 h
      refine st_g (v := (I r2.2.1)) (congrArg some hb34) (rv_move rfl) ?_
      refine st_g (v := (B (decide (8 < r2.2.1)))) (congrArg some hb34) (rv_gtr (a := r2.2.1) (b := 8) rfl rfl) ?_
      refine st (v := (B (decide (8 < r2.2.1)))) (rv_pick_f (congrArg B hb34) rfl) ?_
      refine w_end ?_
      obtain rfl := Option.some.inj h
      exact ⟨rfl, _, σ32, fr_join ⟨rfl, rfl, rfl, rfl, rfl, trivial⟩, rfl, H.sel' [0, 1] rfl rfl⟩
  ·clear hj
   have h := h'
   clear h' H
   rintro e a w ⟨rfl, ρ, σ35, rfl, rfl, H⟩
   refine q_then ?_
   refine cd_cond o15 rfl (fun hb36 => ?_) (fun hb36 => ?_)
   ·replace h := bif_t hb36 h
    refine c_seq ?_
    refine rg ?_
    refine st (v := (Sl a11 r8 c12)) (rv_move rfl) ?_
    refine st (v := (Sl a5 r2.1 c6)) (rv_move rfl) ?_
    refine st (v := (I r2.2.1)) (rv_move rfl) ?_
    refine st (v := (I r2.2.2)) (rv_move rfl) ?_
    obtain ⟨σ37, hw38, H, -⟩ := H.pub 0 rfl (Nat.le_refl _)
    rw [← hw38]; clear hw38
    replace H := H.roLow 0 0 rfl (Nat.zero_le _)
    obtain ⟨r39, hx40, h'⟩ := bind_some h
    clear h
    have h := h'; clear h'
    have hc41 := c_spec_ShardItems (alist_0 := a5) (clist_0 := c6) hx40
    refine st_call (cx_call hc41 (ent_f hc41.fn rfl) hn0 (show Hp S0 σ0 _ ([Ch.ro 0 (Sl a5 r2.1 c6) r2.1] ++ [Ch.ro 0 (Sl a5 r2.1 c6) r2.1, Ch.ro n0 (Sl a5 r2.1 c6) r2.1, Ch.own n0 n0 (Sl a11 r8 c12) r8]) from (H.sel' [0, 0, 1, 2] rfl rfl))) wn ?_
    rintro _ σ44 ⟨_, ⟨a42, c43, rfl, rfl⟩, H, -⟩
    replace H : Hp S0 σ0 σ44 [Ch.own n0 n0 (Sl a42 r39 c43) r39, Ch.ro 0 (Sl a5 r2.1 c6) r2.1, Ch.ro n0 (Sl a5 r2.1 c6) r2.1, Ch.own n0 n0 (Sl a11 r8 c12) r8] := H
    obtain ⟨σ45, hw46, H, -⟩ := H.pub 3 rfl (Nat.le_refl _)
    rw [← hw46]; clear hw46
    obtain ⟨σ47, hw48, H, -⟩ := H.pub 1 rfl (Nat.le_refl _)
    rw [← hw48]; clear hw48
    replace H := H.roLow 1 0 rfl (Nat.zero_le _)
    replace H := H.roLow 1 0 rfl (Nat.zero_le _)
    obtain ⟨r49, hx50, h'⟩ := bind_some h
    clear h
    have h := h'; clear h'
    have hc51 := c_laws_equalItems (aa_0 := a11) (ca_0 := c12) (ab_1 := a42) (cb_1 := c43) hx50
    refine st_call (cx_call hc51 (ent_f hc51.fn rfl) hn0 (show Hp S0 σ0 _ ([Ch.ro 0 (Sl a11 r8 c12) r8, Ch.ro 0 (Sl a42 r39 c43) r39] ++ [Ch.ro 0 (Sl a42 r39 c43) r39, Ch.ro 0 (Sl a11 r8 c12) r8, Ch.ro n0 (Sl a42 r39 c43) r39, Ch.ro n0 (Sl a11 r8 c12) r8, Ch.ro 0 (Sl a5 r2.1 c6) r2.1, Ch.ro n0 (Sl a5 r2.1 c6) r2.1]) from (H.sel' [1, 0, 0, 1, 2, 3, 4, 5] rfl rfl))) wn ?_
    rintro _ σ52 ⟨_, ⟨rfl, rfl⟩, H, -⟩
    replace H : Hp S0 σ0 σ52 [Ch.ro 0 (Sl a42 r39 c43) r39, Ch.ro 0 (Sl a11 r8 c12) r8, Ch.ro n0 (Sl a42 r39 c43) r39, Ch.ro n0 (Sl a11 r8 c12) r8, Ch.ro 0 (Sl a5 r2.1 c6) r2.1, Ch.ro n0 (Sl a5 r2.1 c6) r2.1] := H
    refine st (v := (B r49)) (rv_assign rfl) ?_
    refine w_end ?_
    refine q_then ?_
    refine c_ret ?_
    refine q_then_r ?_
    obtain rfl := Option.some.inj h
    exact fin_ret (v := (B r49)) (results_ok Try.results13 (res_tmp (v := (B r49)) rfl res_nil) rfl) ⟨rfl, rfl⟩ (H.sel' [] rfl rfl)
   ·replace h := bif_f hb36 h
    refine c_skip ?_
    refine q_then ?_
    refine c_seq ?_
    refine rg ?_
    refine st (v := (I 0)) (rv_assign rfl) ?_
    refine w_end ?_
    refine q_then ?_
    refine c_seq ?_
    refine c_seq ?_
    refine rg ?_
    refine st (v := (I 0)) (rv_assign rfl) ?_
    refine w_end ?_
    refine q_then ?_
    obtain ⟨o53, hj, h'⟩ := bind_some h
    clear h
    refine c_cut (fun e a w => (∃ t, o53 = (.inl t) ∧ e = .normal ∧ ∃ (ρ : Nat → Value) (σ : St), a = fr 101 (updL ρ [(3, (Sl a5 r2.1 c6)), (6, (Sl a11 r8 c12)), (7, (I t))]) ∧ w = σ.w ∧ Hp S0 σ0 σ [Ch.ro n0 (Sl a5 r2.1 c6) r2.1, Ch.own n0 n0 (Sl a11 r8 c12) r8]) ∨ (∃ t, o53 = (.inr t) ∧ e = .ret ∧ ∃ (ρ : Nat → Value) (σ : St), a = fr 101 (updL ρ [(2, (B t))]) ∧ w = σ.w ∧ Hp S0 σ0 σ [])) ?_ ?_
    ·clear h'
     rename _ = some o53 => h
     refine c_blk ?_
     obtain ⟨σ55, hw56, H, -⟩ := H.pub 0 rfl (Nat.le_refl _)
     rw [← hw56]; clear hw56
     refine wp_loopM _ h (fun s54 a w => ∃ (ρ : Nat → Value) (σ : St), a = fr 101 (updL ρ [(3, (Sl a5 r2.1 c6)), (4, (I r2.2.1)), (6, (Sl a11 r8 c12)), (7, (I s54.1)), (8, (I s54.2))]) ∧ w = σ.w ∧ Hp S0 σ0 σ [Ch.ro n0 (Sl a5 r2.1 c6) r2.1, Ch.own n0 n0 (Sl a11 r8 c12) r8]) ⟨_, σ55, fr_join ⟨rfl, rfl, rfl, rfl, rfl, trivial⟩, rfl, H.sel' [0, 1] rfl rfl⟩ ?_
     clear h H
     rintro s54 a w o ⟨ρ, σ57, rfl, rfl, H⟩ h hres
     refine c_seq ?_
     refine c_seq ?_
     refine rg ?_
     refine st (v := (I s54.2)) (rv_move rfl) ?_
     refine st (v := (I r2.2.1)) (rv_move rfl) ?_
     refine st (v := (B (decide (s54.2 < r2.2.1)))) (rv_lss (a := s54.2) (b := r2.2.1) rfl rfl) ?_
     refine w_end ?_
     refine q_then ?_
     refine cd_cond (decide (s54.2 < r2.2.1)) rfl (fun hb58 => ?_) (fun hb58 => ?_)
     ·replace h := bif_t hb58 h
      refine c_skip ?_
      refine q_then ?_
      refine c_seq ?_
      refine c_blk ?_
      refine c_seq ?_
      refine rg ?_
      refine st (v := (Sl a5 r2.1 c6)) (rv_move rfl) ?_
      refine st (v := (I r2.2.1)) (rv_move rfl) ?_
      refine st (v := (I s54.2)) (rv_move rfl) ?_
      replace H := H.roLow 0 0 rfl (Nat.zero_le _)
      obtain ⟨r59, hx60, h'⟩ := bind_some h
      clear h
      have h := h'; clear h'
      have hc61 := c_impl_ShardItems (alist_0 := a5) (clist_0 := c6) hx60
      refine st_call (cx_call hc61 (ent_f hc61.fn rfl) hn0 (show Hp S0 σ0 _ ([Ch.ro 0 (Sl a5 r2.1 c6) r2.1] ++ [Ch.ro 0 (Sl a5 r2.1 c6) r2.1, Ch.ro n0 (Sl a5 r2.1 c6) r2.1, Ch.own n0 n0 (Sl a11 r8 c12) r8]) from (H.sel' [0, 0, 1, 2] rfl rfl))) wn ?_
      rintro _ σ65 ⟨_, ⟨a62, c63, rfl, rfl, ht64⟩, H, -⟩
      replace H : Hp S0 σ0 σ65 [Ch.own n0 n0 (Sl a62 r59 c63) r59, Ch.ro 0 (Sl a5 r2.1 c6) r2.1, Ch.ro n0 (Sl a5 r2.1 c6) r2.1, Ch.own n0 n0 (Sl a11 r8 c12) r8] := H
      refine st (v := (Sl a62 r59 c63)) (rv_assign rfl) ?_
      refine w_end ?_
      refine q_then ?_
      refine c_seq ?_
      refine rg ?_
      refine st (v := (I s54.1)) (rv_move rfl) ?_
      refine st (v := (Sl a62 r59 c63)) (rv_move rfl) ?_
      refine st (v := (I (r59.length : Int))) (rv_len Try.underlying27 rfl) ?_
      refine st (v := (I (w64 (s54.1 + (r59.length : Int))))) (rv_add (a := s54.1) (b := (r59.length : Int)) rfl rfl) ?_
      refine st (v := (I (w64 (s54.1 + (r59.length : Int))))) (rv_assign rfl) ?_
      refine w_end ?_
      refine q_then ?_
      refine c_seq ?_
      refine rg ?_
      refine st (v := (I 0)) (rv_assign rfl) ?_
      refine w_end ?_
      refine q_then ?_
      obtain ⟨o66, hj, h'⟩ := bind_some h
      clear h
      refine c_cut (fun e a w => (∃ t, o66 = (.inl t) ∧ e = .normal ∧ ∃ (ρ : Nat → Value) (σ : St), a = fr 101 (updL ρ [(3, (Sl a5 r2.1 c6)), (4, (I r2.2.1)), (6, (Sl a11 r8 c12)), (7, (I (w64 (s54.1 + (r59.length : Int))))), (8, (I s54.2))]) ∧ w = σ.w ∧ Hp S0 σ0 σ [Ch.ro n0 (Sl a5 r2.1 c6) r2.1, Ch.own n0 n0 (Sl a11 r8 c12) r8]) ∨ (∃ t, o66 = (.inr t) ∧ e = .ret ∧ ∃ (ρ : Nat → Value) (σ : St), a = fr 101 (updL ρ [(2, (B t))]) ∧ w = σ.w ∧ Hp S0 σ0 σ [])) ?_ ?_
      ·clear h'
       rename _ = some o66 => h
       refine c_blk ?_
       refine wp_loopM _ h (fun s67 a w => ∃ (ρ : Nat → Value) (σ : St), a = fr 101 (updL ρ [(3, (Sl a5 r2.1 c6)), (4, (I r2.2.1)), (6, (Sl a11 r8 c12)), (7, (I (w64 (s54.1 + (r59.length : Int))))), (8, (I s54.2)), (9, (Sl a62 r59 c63)), (10, (I s67))]) ∧ w = σ.w ∧ Hp S0 σ0 σ [Ch.ro n0 (Sl a5 r2.1 c6) r2.1, Ch.own n0 n0 (Sl a11 r8 c12) r8, Ch.own n0 n0 (Sl a62 r59 c63) r59]) ⟨_, σ65, fr_join ⟨rfl, rfl, rfl, rfl, rfl, rfl, rfl, trivial⟩, rfl, H.sel' [2, 3, 0] rfl rfl⟩ ?_
       clear h H
       rintro s67 a w o ⟨ρ, σ68, rfl, rfl, H⟩ h hres
       refine c_seq ?_
       refine c_seq ?_
       refine rg ?_
       refine st (v := (I s67)) (rv_move rfl) ?_
       refine st (v := (Sl a62 r59 c63)) (rv_move rfl) ?_
       refine st (v := (I (r59.length : Int))) (rv_len Try.underlying27 rfl) ?_
       refine st (v := (B (decide (s67 < (r59.length : Int))))) (rv_lss (a := s67) (b := (r59.length : Int)) rfl rfl) ?_
       refine w_end ?_
       refine q_then ?_
       refine cd_cond (decide (s67 < (r59.length : Int))) rfl (fun hb69 => ?_) (fun hb69 => ?_)
       ·replace h := bif_t hb69 h
        refine c_skip ?_
        refine q_then ?_
        refine c_seq ?_
        refine c_blk ?_
        refine c_seq ?_
        obtain ⟨o70, hj, h'⟩ := bind_some h
        clear h
        refine c_cut (fun e a w => e = .normal ∧ ∃ (ρ : Nat → Value) (σ : St), a = fr 101 (updL ρ [(3, (Sl a5 r2.1 c6)), (4, (I r2.2.1)), (6, (Sl a11 r8 c12)), (7, (I (w64 (s54.1 + (r59.length : Int))))), (8, (I s54.2)), (9, (Sl a62 r59 c63)), (10, (I s67)), (92, (B o70))]) ∧ w = σ.w ∧ Hp S0 σ0 σ [Ch.ro n0 (Sl a5 r2.1 c6) r2.1, Ch.own n0 n0 (Sl a11 r8 c12) r8, Ch.own n0 n0 (Sl a62 r59 c63) r59]) ?_ ?_
        ·clear h'
         rename _ = some o70 => h
         obtain ⟨x71, hx72, h'⟩ := bind_some h
         clear h
         have h := h'; clear h'
         obtain ⟨b74, o75, hi73, -⟩ := (H.own 2 rfl).ix hx72
         have hc76 := ((H.own 2 rfl).at hx72 hi73).fst.int
         obtain ⟨r77, hx78, h'⟩ := bind_some h
         clear h
         have h := h'; clear h'
         have hc79 := c_impl_ShardOf hx78
         rcases Bool.eq_false_or_eq_true (r77 != s54.2) with hb80 | hb80
         ·replace h := bif_t hb80 h
          have Hs := H
          refine rg2 (σ := σ68) (Nm := Unit) 21 [6] [[false], [true]] [[(0, 0)], [(0, 0)], [(0, 0)], [(0, 0)], [(0, 0)], [(0, 0)], [(0, 1)], [(0, 0), (1, 1)], [(1, 1)], [(1, 1)], [(1, 1)], [(1, 1)], [(1, 1)], [(1, 1)], [(1, 1)], [(1, 1)], [(1, 1)], [(1, 1)], [(1, 1)], [(1, 1)], [(1, 1)]] 1 [fun _ => fun σm => Hp S0 σ0 σm [Ch.ro n0 (Sl a5 r2.1 c6) r2.1, Ch.own n0 n0 (Sl a11 r8 c12) r8, Ch.own n0 n0 (Sl a62 r59 c63) r59] ∧ Md (cov []) σ68 σm, fun _ => fun σm => Hp S0 σ0 σm [Ch.ro n0 (Sl a5 r2.1 c6) r2.1, Ch.own n0 n0 (Sl a11 r8 c12) r8, Ch.own n0 n0 (Sl a62 r59 c63) r59] ∧ Md (cov []) σ68 σm] [fun _ => (Sl a62 r59 c63), fun _ => (I s67), fun _ => (pt b74 o75), fun _ => (pt b74 (o75 + 0)), fun _ => (I x71.1), fun _ => (I r2.2.1), fun _ => (I r77), fun _ => (I s54.2), fun _ => (B (r77 != s54.2)), fun _ => (B (r77 != s54.2)), fun _ => undef, fun _ => undef, fun _ => undef, fun _ => undef, fun _ => undef, fun _ => undef, fun _ => undef, fun _ => undef, fun _ => undef, fun _ => undef, fun _ => undef] () (by kernel_rfl) (by kernel_rfl) ?_ ?_ ?_
          ·intro σm m0
           exact ⟨H.grow (m0.mono fun _ h => h.elim), m0⟩
          ·refine ac rfl (by
             intro k _nm ρ σm hJ hoff hdep
             have e9 := look_off (N := 101) (hoff 9 rfl) rfl
             exact dp_v (v := (Sl a62 r59 c63)) wn (rv_move e9) rfl hJ) ?_
           refine ac rfl (by
             intro k _nm ρ σm hJ hoff hdep
             have e10 := look_off (N := 101) (hoff 10 rfl) rfl
             exact dp_v (v := (I s67)) wn (rv_move e10) rfl hJ) ?_
           refine ac rfl (by
             intro k _nm ρ σm hJ hoff hdep
             have e69 := hdep 0 rfl rfl 69 rfl
             have e70 := hdep 1 rfl rfl 70 rfl
             exact dp_v (v := (pt b74 o75)) wn (rv_ix Try.underlying27 ti36 e69 e70 hi73) rfl hJ) ?_
           refine ac rfl (by
             intro k _nm ρ σm hJ hoff hdep
             have e71 := hdep 2 rfl rfl 71 rfl
             exact dp_v (v := (pt b74 (o75 + 0))) wn (rv_fieldAddr (off := 0) (ft := 3) Try.underlying36 rfl ti3 rfl e71) rfl hJ) ?_
           refine all_cons (by
             refine ⟨?_, ?_⟩
             ·intro _nm ρ σm hJ hoff hdep
              have e72 := hdep 3 rfl rfl 72 rfl
              obtain ⟨H, m⟩ := id hJ
              have hc76 := ((H.own 2 rfl).at hx72 hi73).fst.int
              exact dp_v (v := (I x71.1)) wn (rv_load1 Try.underlying3 rfl e72 hc76) rfl hJ
             trivial) ?_
           refine ac rfl (by
             intro k _nm ρ σm hJ hoff hdep
             have e4 := look_off (N := 101) (hoff 4 rfl) rfl
             exact dp_v (v := (I r2.2.1)) wn (rv_move e4) rfl hJ) ?_
           refine all_cons (by
             refine ⟨?_, ?_⟩
             ·intro _nm ρ σm hJ hoff hdep
              have e73 : look 101 ρ 73 = (I x71.1) := hdep 4 rfl rfl 73 rfl
              have e74 : look 101 ρ 74 = (I r2.2.1) := hdep 5 rfl rfl 74 rfl
              obtain ⟨H, m⟩ := id hJ
              refine dp_cx wn (cx_call hc79 (ent_f hc79.fn (by show [look 101 ρ 73, look 101 ρ 74] = _; rw [e73, e74])) hn0 (show Hp S0 σ0 _ ([] ++ [Ch.ro n0 (Sl a5 r2.1 c6) r2.1, Ch.own n0 n0 (Sl a11 r8 c12) r8, Ch.own n0 n0 (Sl a62 r59 c63) r59]) from (H.sel' [0, 1, 2] rfl rfl))) ?_
              rintro _ σq ⟨_, ⟨rfl, rfl⟩, H2, m2⟩
              exact ⟨_, (), rfl, rfl, ⟨H2.sel' [0, 1, 2] rfl rfl, m.comp0 m2⟩, stab [0, 1, 2, 3, 4, 5, 7] (by kernel_rfl) ⟨rfl, rfl, rfl, rfl, rfl, rfl, rfl, trivial⟩⟩
             trivial) ?_
           refine ac rfl (by
             intro k _nm ρ σm hJ hoff hdep
             have e8 := look_off (N := 101) (hoff 8 rfl) rfl
             exact dp_v (v := (I s54.2)) wn (rv_move e8) rfl hJ) ?_
           refine ac rfl (by
             intro k _nm ρ σm hJ hoff hdep
             have e75 := hdep 6 rfl rfl 75 rfl
             have e76 := hdep 7 rfl rfl 76 rfl
             exact dp_v (v := (B (r77 != s54.2))) wn (rv_neq (a := r77) (b := s54.2) e75 e76) rfl hJ) ?_
           refine ac rfl (by
             intro k _nm ρ σm hJ hoff hdep
             have e77 := hdep 8 rfl rfl 77 rfl
             exact dp_v (v := (B (r77 != s54.2))) wn (rv_move e77) rfl hJ) ?_
           refine ac rfl (by
             intro k _nm ρ σm hJ hoff hdep
             have e78 := hdep 9 rfl rfl 78 rfl
             exact dp_skip (wanted_no rfl (yv_of rfl (e78.trans (congrArg B hb80)))) rfl hJ) ?_
           refine ac rfl (by
             intro k _nm ρ σm hJ hoff hdep
             have e78 := hdep 9 rfl rfl 78 rfl
             exact dp_skip (wanted_no rfl (yv_of rfl (e78.trans (congrArg B hb80)))) rfl hJ) ?_
           refine ac rfl (by
             intro k _nm ρ σm hJ hoff hdep
             have e78 := hdep 9 rfl rfl 78 rfl
             exact dp_skip (wanted_no rfl (yv_of rfl (e78.trans (congrArg B hb80)))) rfl hJ) ?_
           refine ac rfl (by
             intro k _nm ρ σm hJ hoff hdep
             have e78 := hdep 9 rfl rfl 78 rfl
             exact dp_skip (wanted_no rfl (yv_of rfl (e78.trans (congrArg B hb80)))) rfl hJ) ?_
           refine ac rfl (by
             intro k _nm ρ σm hJ hoff hdep
             have e78 := hdep 9 rfl rfl 78 rfl
             exact dp_skip (wanted_no rfl (yv_of rfl (e78.trans (congrArg B hb80)))) rfl hJ) ?_
           refine ac rfl (by
             intro k _nm ρ σm hJ hoff hdep
             have e78 := hdep 9 rfl rfl 78 rfl
             exact dp_skip (wanted_no rfl (yv_of rfl (e78.trans (congrArg B hb80)))) rfl hJ) ?_
           refine ac rfl (by
             intro k _nm ρ σm hJ hoff hdep
             have e78 := hdep 9 rfl rfl 78 rfl
             exact dp_skip (wanted_no rfl (yv_of rfl (e78.trans (congrArg B hb80)))) rfl hJ) ?_
           refine ac rfl (by
             intro k _nm ρ σm hJ hoff hdep
             have e78 := hdep 9 rfl rfl 78 rfl
             exact dp_skip (wanted_no rfl (yv_of rfl (e78.trans (congrArg B hb80)))) rfl hJ) ?_
           refine ac rfl (by
             intro k _nm ρ σm hJ hoff hdep
             have e78 := hdep 9 rfl rfl 78 rfl
             exact dp_skip (wanted_no rfl (yv_of rfl (e78.trans (congrArg B hb80)))) rfl hJ) ?_
           refine ac rfl (by
             intro k _nm ρ σm hJ hoff hdep
             have e78 := hdep 9 rfl rfl 78 rfl
             exact dp_skip (wanted_no rfl (yv_of rfl (e78.trans (congrArg B hb80)))) rfl hJ) ?_
           refine ac rfl (by
             intro k _nm ρ σm hJ hoff hdep
             have e78 := hdep 9 rfl rfl 78 rfl
             exact dp_skip (wanted_no rfl (yv_of rfl (e78.trans (congrArg B hb80)))) rfl hJ) ?_
           exact all_nil
          ·intro _nm ρ σ81 hJ hoff hrel
           have e3 := look_off (N := 101) (hoff 3 rfl) rfl
           have e4 := look_off (N := 101) (hoff 4 rfl) rfl
           have e6 := look_off (N := 101) (hoff 6 rfl) rfl
           have e7 := look_off (N := 101) (hoff 7 rfl) rfl
           have e8 := look_off (N := 101) (hoff 8 rfl) rfl
           have e9 := look_off (N := 101) (hoff 9 rfl) rfl
           have e10 := look_off (N := 101) (hoff 10 rfl) rfl
           have e78 := hrel 9 rfl 78 rfl
           have e82 := hrel 13 rfl 82 rfl
           have e89 := hrel 20 rfl 89 rfl
           obtain ⟨H, -⟩ := (show Hp S0 σ0 σ81 [Ch.ro n0 (Sl a5 r2.1 c6) r2.1, Ch.own n0 n0 (Sl a11 r8 c12) r8, Ch.own n0 n0 (Sl a62 r59 c63) r59] ∧ Md (cov []) σ68 σ81 from hJ)
           clear hJ Hs
           rw [fr_lookL (L := [(3, (Sl a5 r2.1 c6)), (4, (I r2.2.1)), (6, (Sl a11 r8 c12)), (7, (I (w64 (s54.1 + (r59.length : Int))))), (8, (I s54.2)), (9, (Sl a62 r59 c63)), (10, (I s67)), (78, (B (r77 != s54.2))), (82, undef), (89, undef)]) ⟨e3, e4, e6, e7, e8, e9, e10, e78, e82, e89, trivial⟩]
           clear hoff hrel e3 e4 e6 e7 e8 e9 e10 e78 e82 e89
           refine st_skip (congrArg some hb80) ?_
           refine st_skip (congrArg some hb80) ?_
           refine st (v := (B true)) (rv_pick_t (congrArg B hb80) rfl) ?_
           refine w_end ?_
           obtain rfl := Option.some.inj h
           exact ⟨rfl, _, σ81, fr_join ⟨rfl, rfl, rfl, rfl, rfl, rfl, rfl, rfl, trivial⟩, rfl, H.sel' [0, 1, 2] rfl rfl⟩
         ·replace h := bif_f hb80 h
          obtain ⟨x82, hx83, h'⟩ := bind_some h
          clear h
          have h := h'; clear h'
          obtain ⟨b85, o86, hi84, -⟩ := (H.own 2 rfl).ix hx83
          obtain ⟨_, ⟨_, _, rfl, rfl, ⟨_, _, rfl, ⟨_, rfl, hR91⟩, rfl⟩⟩, hl87, hc88⟩ := ((H.own 2 rfl).at hx83 hi84).cells
          obtain ⟨a89, c90, rfl⟩ := hR91.isSl
          replace H := H.add (d := Ch.ro n0 (Sl a89 x82.2.1 c90) x82.2.1) hR91 (fun _ h => h)
          clear hR91
          obtain ⟨x92, hx93, h'⟩ := bind_some h
          clear h
          have h := h'; clear h'
          obtain ⟨b95, o96, hi94, -⟩ := (H.own 3 rfl).ix hx93
          have hc97 := ((H.own 3 rfl).at hx93 hi94).fst.int
          replace H := H.roLow 1 0 rfl (Nat.zero_le _)
          obtain ⟨r98, hx99, h'⟩ := bind_some h
          clear h
          have h := h'; clear h'
          have hc100 := c_laws_itemOf (alist_0 := a5) (clist_0 := c6) hx99
          have Hs := H
          refine rg2 (σ := σ68) (Nm := (Option Addr) × (Nat)) 21 [6, 20] [[false, false], [true, false], [true, true]] [[(0, 0)], [(0, 0)], [(0, 0)], [(0, 0)], [(0, 0)], [(0, 0)], [(0, 1)], [(0, 0), (1, 1)], [(1, 1)], [(1, 1)], [(1, 1), (2, 2)], [(1, 1), (2, 2)], [(1, 1), (2, 2)], [(1, 1), (2, 2)], [(1, 1)], [(1, 1)], [(1, 1)], [(1, 1)], [(1, 1)], [(1, 1)], [(1, 2)]] 2 [fun ((a101, c102) : (Option Addr) × (Nat)) => fun σm => Hp S0 σ0 σm [Ch.ro 0 (Sl a5 r2.1 c6) r2.1, Ch.ro n0 (Sl a89 x82.2.1 c90) x82.2.1, Ch.ro n0 (Sl a5 r2.1 c6) r2.1, Ch.own n0 n0 (Sl a11 r8 c12) r8, Ch.own n0 n0 (Sl a62 r59 c63) r59] ∧ Md (cov []) σ68 σm, fun ((a101, c102) : (Option Addr) × (Nat)) => fun σm => Hp S0 σ0 σm [Ch.ro 0 (Sl a5 r2.1 c6) r2.1, Ch.ro n0 (Sl a89 x82.2.1 c90) x82.2.1, Ch.ro n0 (Sl a5 r2.1 c6) r2.1, Ch.own n0 n0 (Sl a11 r8 c12) r8, Ch.own n0 n0 (Sl a62 r59 c63) r59] ∧ Md (cov []) σ68 σm, fun ((a101, c102) : (Option Addr) × (Nat)) => fun σm => Hp S0 σ0 σm [Ch.ro 0 (Sl a101 r98.2.1 c102) r98.2.1, Ch.ro 0 (Sl a5 r2.1 c6) r2.1, Ch.ro n0 (Sl a89 x82.2.1 c90) x82.2.1, Ch.ro n0 (Sl a5 r2.1 c6) r2.1, Ch.own n0 n0 (Sl a11 r8 c12) r8, Ch.own n0 n0 (Sl a62 r59 c63) r59] ∧ Md (cov []) σ68 σm] [fun ((a101, c102) : (Option Addr) × (Nat)) => (Sl a62 r59 c63), fun ((a101, c102) : (Option Addr) × (Nat)) => (I s67), fun ((a101, c102) : (Option Addr) × (Nat)) => (pt b74 o75), fun ((a101, c102) : (Option Addr) × (Nat)) => (pt b74 (o75 + 0)), fun ((a101, c102) : (Option Addr) × (Nat)) => (I x71.1), fun ((a101, c102) : (Option Addr) × (Nat)) => (I r2.2.1), fun ((a101, c102) : (Option Addr) × (Nat)) => (I r77), fun ((a101, c102) : (Option Addr) × (Nat)) => (I s54.2), fun ((a101, c102) : (Option Addr) × (Nat)) => (B (r77 != s54.2)), fun ((a101, c102) : (Option Addr) × (Nat)) => (B (r77 != s54.2)), fun ((a101, c102) : (Option Addr) × (Nat)) => (Sl a62 r59 c63), fun ((a101, c102) : (Option Addr) × (Nat)) => (I s67), fun ((a101, c102) : (Option Addr) × (Nat)) => (pt b85 o86), fun ((a101, c102) : (Option Addr) × (Nat)) => (.agg #[(I x82.1), (Sl a89 x82.2.1 c90), (I x82.2.2)]), fun ((a101, c102) : (Option Addr) × (Nat)) => (Sl a5 r2.1 c6), fun ((a101, c102) : (Option Addr) × (Nat)) => (Sl a62 r59 c63), fun ((a101, c102) : (Option Addr) × (Nat)) => (I s67), fun ((a101, c102) : (Option Addr) × (Nat)) => (pt b95 o96), fun ((a101, c102) : (Option Addr) × (Nat)) => (pt b95 (o96 + 0)), fun ((a101, c102) : (Option Addr) × (Nat)) => (I x92.1), fun ((a101, c102) : (Option Addr) × (Nat)) => (.agg #[(I r98.1), (Sl a101 r98.2.1 c102), (I r98.2.2)])] (none, 0) (by kernel_rfl) (by kernel_rfl) ?_ ?_ ?_
          ·intro σm m0
           exact ⟨H.grow (m0.mono fun _ h => h.elim), m0⟩
          ·refine ac rfl (by
             intro k; rintro ⟨a101, c102⟩ ρ σm hJ hoff hdep
             have e9 := look_off (N := 101) (hoff 9 rfl) rfl
             exact dp_v (v := (Sl a62 r59 c63)) wn (rv_move e9) rfl hJ) ?_
           refine ac rfl (by
             intro k; rintro ⟨a101, c102⟩ ρ σm hJ hoff hdep
             have e10 := look_off (N := 101) (hoff 10 rfl) rfl
             exact dp_v (v := (I s67)) wn (rv_move e10) rfl hJ) ?_
           refine ac rfl (by
             intro k; rintro ⟨a101, c102⟩ ρ σm hJ hoff hdep
             have e69 := hdep 0 rfl rfl 69 rfl
             have e70 := hdep 1 rfl rfl 70 rfl
             exact dp_v (v := (pt b74 o75)) wn (rv_ix Try.underlying27 ti36 e69 e70 hi73) rfl hJ) ?_
           refine ac rfl (by
             intro k; rintro ⟨a101, c102⟩ ρ σm hJ hoff hdep
             have e71 := hdep 2 rfl rfl 71 rfl
             exact dp_v (v := (pt b74 (o75 + 0))) wn (rv_fieldAddr (off := 0) (ft := 3) Try.underlying36 rfl ti3 rfl e71) rfl hJ) ?_
           refine all_cons (by
             refine ⟨?_, ?_⟩
             ·rintro ⟨a101, c102⟩ ρ σm hJ hoff hdep
              have e72 := hdep 3 rfl rfl 72 rfl
              obtain ⟨H, m⟩ := id hJ
              have hc76 := ((H.own 4 rfl).at hx72 hi73).fst.int
              exact dp_v (v := (I x71.1)) wn (rv_load1 Try.underlying3 rfl e72 hc76) rfl hJ
             trivial) ?_
           refine ac rfl (by
             intro k; rintro ⟨a101, c102⟩ ρ σm hJ hoff hdep
             have e4 := look_off (N := 101) (hoff 4 rfl) rfl
             exact dp_v (v := (I r2.2.1)) wn (rv_move e4) rfl hJ) ?_
           refine all_cons (by
             refine ⟨?_, ?_⟩
             ·rintro ⟨a101, c102⟩ ρ σm hJ hoff hdep
              have e73 : look 101 ρ 73 = (I x71.1) := hdep 4 rfl rfl 73 rfl
              have e74 : look 101 ρ 74 = (I r2.2.1) := hdep 5 rfl rfl 74 rfl
              obtain ⟨H, m⟩ := id hJ
              refine dp_cx wn (cx_call hc79 (ent_f hc79.fn (by show [look 101 ρ 73, look 101 ρ 74] = _; rw [e73, e74])) hn0 (show Hp S0 σ0 _ ([] ++ [Ch.ro 0 (Sl a5 r2.1 c6) r2.1, Ch.ro n0 (Sl a89 x82.2.1 c90) x82.2.1, Ch.ro n0 (Sl a5 r2.1 c6) r2.1, Ch.own n0 n0 (Sl a11 r8 c12) r8, Ch.own n0 n0 (Sl a62 r59 c63) r59]) from (H.sel' [0, 1, 2, 3, 4] rfl rfl))) ?_
              rintro _ σq ⟨_, ⟨rfl, rfl⟩, H2, m2⟩
              exact ⟨_, (a101, c102), rfl, rfl, ⟨H2.sel' [0, 1, 2, 3, 4] rfl rfl, m.comp0 m2⟩, stab [0, 1, 2, 3, 4, 5, 7] (by kernel_rfl) ⟨rfl, rfl, rfl, rfl, rfl, rfl, rfl, trivial⟩⟩
             trivial) ?_
           refine ac rfl (by
             intro k; rintro ⟨a101, c102⟩ ρ σm hJ hoff hdep
             have e8 := look_off (N := 101) (hoff 8 rfl) rfl
             exact dp_v (v := (I s54.2)) wn (rv_move e8) rfl hJ) ?_
           refine ac rfl (by
             intro k; rintro ⟨a101, c102⟩ ρ σm hJ hoff hdep
             have e75 := hdep 6 rfl rfl 75 rfl
             have e76 := hdep 7 rfl rfl 76 rfl
             exact dp_v (v := (B (r77 != s54.2))) wn (rv_neq (a := r77) (b := s54.2) e75 e76) rfl hJ) ?_
           refine ac rfl (by
             intro k; rintro ⟨a101, c102⟩ ρ σm hJ hoff hdep
             have e77 := hdep 8 rfl rfl 77 rfl
             exact dp_v (v := (B (r77 != s54.2))) wn (rv_move e77) rfl hJ) ?_
           refine ac rfl (by
             intro k; rintro ⟨a101, c102⟩ ρ σm hJ hoff hdep
             have e9 := look_off (N := 101) (hoff 9 rfl) rfl
             have e78 := hdep 9 rfl rfl 78 rfl
             exact dp_v (v := (Sl a62 r59 c63)) (wanted_yes rfl (yv_of rfl (e78.trans (congrArg B hb80)))) (rv_move e9) rfl hJ) ?_
           refine ac rfl (by
             intro k; rintro ⟨a101, c102⟩ ρ σm hJ hoff hdep
             have e10 := look_off (N := 101) (hoff 10 rfl) rfl
             have e78 := hdep 9 rfl rfl 78 rfl
             exact dp_v (v := (I s67)) (wanted_yes rfl (yv_of rfl (e78.trans (congrArg B hb80)))) (rv_move e10) rfl hJ) ?_
           refine ac rfl (by
             intro k; rintro ⟨a101, c102⟩ ρ σm hJ hoff hdep
             have e79 := hdep 10 rfl rfl 79 rfl
             have e80 := hdep 11 rfl rfl 80 rfl
             have e78 := hdep 9 rfl rfl 78 rfl
             exact dp_v (v := (pt b85 o86)) (wanted_yes rfl (yv_of rfl (e78.trans (congrArg B hb80)))) (rv_ix Try.underlying27 ti36 e79 e80 hi84) rfl hJ) ?_
           refine all_cons (by
             refine ⟨?_, ?_⟩
             ·rintro ⟨a101, c102⟩ ρ σm hJ hoff hdep
              have e81 := hdep 12 rfl rfl 81 rfl
              have e78 := hdep 9 rfl rfl 78 rfl
              obtain ⟨H, m⟩ := id hJ
              replace hc88 := fun j hj => m.hcell (hc88 j hj) nocov
              exact dp_v (v := (.agg #[(I x82.1), (Sl a89 x82.2.1 c90), (I x82.2.2)])) (wanted_yes rfl (yv_of rfl (e78.trans (congrArg B hb80)))) (rv_load Try.underlying36 rfl ti36 e81 hl87 hc88) rfl hJ
             refine ⟨?_, ?_⟩
             ·rintro ⟨a101, c102⟩ ρ σm hJ hoff hdep
              have e81 := hdep 12 rfl rfl 81 rfl
              have e78 := hdep 9 rfl rfl 78 rfl
              obtain ⟨H, m⟩ := id hJ
              replace hc88 := fun j hj => m.hcell (hc88 j hj) nocov
              exact dp_v (v := (.agg #[(I x82.1), (Sl a89 x82.2.1 c90), (I x82.2.2)])) (wanted_yes rfl (yv_of rfl (e78.trans (congrArg B hb80)))) (rv_load Try.underlying36 rfl ti36 e81 hl87 hc88) rfl hJ
             trivial) ?_
           refine ac rfl (by
             intro k; rintro ⟨a101, c102⟩ ρ σm hJ hoff hdep
             have e3 := look_off (N := 101) (hoff 3 rfl) rfl
             have e78 := hdep 9 rfl rfl 78 rfl
             exact dp_v (v := (Sl a5 r2.1 c6)) (wanted_yes rfl (yv_of rfl (e78.trans (congrArg B hb80)))) (rv_move e3) rfl hJ) ?_
           refine ac rfl (by
             intro k; rintro ⟨a101, c102⟩ ρ σm hJ hoff hdep
             have e9 := look_off (N := 101) (hoff 9 rfl) rfl
             have e78 := hdep 9 rfl rfl 78 rfl
             exact dp_v (v := (Sl a62 r59 c63)) (wanted_yes rfl (yv_of rfl (e78.trans (congrArg B hb80)))) (rv_move e9) rfl hJ) ?_
           refine ac rfl (by
             intro k; rintro ⟨a101, c102⟩ ρ σm hJ hoff hdep
             have e10 := look_off (N := 101) (hoff 10 rfl) rfl
             have e78 := hdep 9 rfl rfl 78 rfl
             exact dp_v (v := (I s67)) (wanted_yes rfl (yv_of rfl (e78.trans (congrArg B hb80)))) (rv_move e10) rfl hJ) ?_
           refine ac rfl (by
             intro k; rintro ⟨a101, c102⟩ ρ σm hJ hoff hdep
             have e84 := hdep 15 rfl rfl 84 rfl
             have e85 := hdep 16 rfl rfl 85 rfl
             have e78 := hdep 9 rfl rfl 78 rfl
             exact dp_v (v := (pt b95 o96)) (wanted_yes rfl (yv_of rfl (e78.trans (congrArg B hb80)))) (rv_ix Try.underlying27 ti36 e84 e85 hi94) rfl hJ) ?_
           refine ac rfl (by
             intro k; rintro ⟨a101, c102⟩ ρ σm hJ hoff hdep
             have e86 := hdep 17 rfl rfl 86 rfl
             have e78 := hdep 9 rfl rfl 78 rfl
             exact dp_v (v := (pt b95 (o96 + 0))) (wanted_yes rfl (yv_of rfl (e78.trans (congrArg B hb80)))) (rv_fieldAddr (off := 0) (ft := 3) Try.underlying36 rfl ti3 rfl e86) rfl hJ) ?_
           refine all_cons (by
             refine ⟨?_, ?_⟩
             ·rintro ⟨a101, c102⟩ ρ σm hJ hoff hdep
              have e87 := hdep 18 rfl rfl 87 rfl
              have e78 := hdep 9 rfl rfl 78 rfl
              obtain ⟨H, m⟩ := id hJ
              have hc97 := ((H.own 4 rfl).at hx93 hi94).fst.int
              exact dp_v (v := (I x92.1)) (wanted_yes rfl (yv_of rfl (e78.trans (congrArg B hb80)))) (rv_load1 Try.underlying3 rfl e87 hc97) rfl hJ
             trivial) ?_
           refine all_cons (by
             refine ⟨?_, ?_⟩
             ·rintro ⟨a101, c102⟩ ρ σm hJ hoff hdep
              have e83 : look 101 ρ 83 = (Sl a5 r2.1 c6) := hdep 14 rfl rfl 83 rfl
              have e88 : look 101 ρ 88 = (I x92.1) := hdep 19 rfl rfl 88 rfl
              have e78 := hdep 9 rfl rfl 78 rfl
              obtain ⟨H, m⟩ := id hJ
              refine dp_cx (wanted_yes rfl (yv_of rfl (e78.trans (congrArg B hb80)))) (cx_call hc100 (ent_f hc100.fn (by show [look 101 ρ 83, look 101 ρ 88] = _; rw [e83, e88])) hn0 (show Hp S0 σ0 _ ([Ch.ro 0 (Sl a5 r2.1 c6) r2.1] ++ [Ch.ro 0 (Sl a5 r2.1 c6) r2.1, Ch.ro n0 (Sl a89 x82.2.1 c90) x82.2.1, Ch.ro n0 (Sl a5 r2.1 c6) r2.1, Ch.own n0 n0 (Sl a11 r8 c12) r8, Ch.own n0 n0 (Sl a62 r59 c63) r59]) from (H.sel' [0, 0, 1, 2, 3, 4] rfl rfl))) ?_
              rintro _ σq ⟨_, ⟨a101x, c102x, rfl, rfl⟩, H2, m2⟩
              exact ⟨_, (a101x, c102x), rfl, rfl, ⟨H2.sel' [0, 1, 2, 3, 4, 5] rfl rfl, m.comp0 (m2.mono (fun i h => by simp [cov, Ch.ro] at h))⟩, stab [0, 1, 2, 3, 4, 5, 6, 7, 8, 9, 10, 11, 12, 13, 14, 15, 16, 17, 18, 19] (by kernel_rfl) ⟨rfl, rfl, rfl, rfl, rfl, rfl, rfl, rfl, rfl, rfl, rfl, rfl, rfl, rfl, rfl, rfl, rfl, rfl, rfl, rfl, trivial⟩⟩
             trivial) ?_
           exact all_nil
          ·rintro ⟨a101, c102⟩ ρ σ103 hJ hoff hrel
           have e3 := look_off (N := 101) (hoff 3 rfl) rfl
           have e4 := look_off (N := 101) (hoff 4 rfl) rfl
           have e6 := look_off (N := 101) (hoff 6 rfl) rfl
           have e7 := look_off (N := 101) (hoff 7 rfl) rfl
           have e8 := look_off (N := 101) (hoff 8 rfl) rfl
           have e9 := look_off (N := 101) (hoff 9 rfl) rfl
           have e10 := look_off (N := 101) (hoff 10 rfl) rfl
           have e78 := hrel 9 rfl 78 rfl
           have e82 := hrel 13 rfl 82 rfl
           have e89 := hrel 20 rfl 89 rfl
           obtain ⟨H, -⟩ := (show Hp S0 σ0 σ103 [Ch.ro 0 (Sl a101 r98.2.1 c102) r98.2.1, Ch.ro 0 (Sl a5 r2.1 c6) r2.1, Ch.ro n0 (Sl a89 x82.2.1 c90) x82.2.1, Ch.ro n0 (Sl a5 r2.1 c6) r2.1, Ch.own n0 n0 (Sl a11 r8 c12) r8, Ch.own n0 n0 (Sl a62 r59 c63) r59] ∧ Md (cov []) σ68 σ103 from hJ)
           clear hJ Hs
           rw [fr_lookL (L := [(3, (Sl a5 r2.1 c6)), (4, (I r2.2.1)), (6, (Sl a11 r8 c12)), (7, (I (w64 (s54.1 + (r59.length : Int))))), (8, (I s54.2)), (9, (Sl a62 r59 c63)), (10, (I s67)), (78, (B (r77 != s54.2))), (82, (.agg #[(I x82.1), (Sl a89 x82.2.1 c90), (I x82.2.2)])), (89, (.agg #[(I r98.1), (Sl a101 r98.2.1 c102), (I r98.2.2)]))]) ⟨e3, e4, e6, e7, e8, e9, e10, e78, e82, e89, trivial⟩]
           clear hoff hrel e3 e4 e6 e7 e8 e9 e10 e78 e82 e89
           replace H := H.roLow 2 0 rfl (Nat.zero_le _)
           obtain ⟨r104, hx105, h'⟩ := bind_some h
           clear h
           have h := h'; clear h'
           have hc106 := c_laws_equalItem (aa_0_1 := a89) (ca_0_1 := c90) (ab_1_1 := a101) (cb_1_1 := c102) hx105
           refine st_call (cx_call hc106 (ent_f hc106.fn rfl) hn0 (show Hp S0 σ0 _ ([Ch.ro 0 (Sl a89 x82.2.1 c90) x82.2.1, Ch.ro 0 (Sl a101 r98.2.1 c102) r98.2.1] ++ [Ch.ro 0 (Sl a89 x82.2.1 c90) x82.2.1, Ch.ro 0 (Sl a101 r98.2.1 c102) r98.2.1, Ch.ro 0 (Sl a5 r2.1 c6) r2.1, Ch.ro n0 (Sl a89 x82.2.1 c90) x82.2.1, Ch.ro n0 (Sl a5 r2.1 c6) r2.1, Ch.own n0 n0 (Sl a11 r8 c12) r8, Ch.own n0 n0 (Sl a62 r59 c63) r59]) from (H.sel' [0, 1, 0, 1, 2, 3, 4, 5, 6] rfl rfl))) (wanted_yes rfl (by exact (congrArg some hb80))) ?_
           rintro _ σ107 ⟨_, ⟨rfl, rfl⟩, H, -⟩
           replace H : Hp S0 σ0 σ107 [Ch.ro 0 (Sl a89 x82.2.1 c90) x82.2.1, Ch.ro 0 (Sl a101 r98.2.1 c102) r98.2.1, Ch.ro 0 (Sl a5 r2.1 c6) r2.1, Ch.ro n0 (Sl a89 x82.2.1 c90) x82.2.1, Ch.ro n0 (Sl a5 r2.1 c6) r2.1, Ch.own n0 n0 (Sl a11 r8 c12) r8, Ch.own n0 n0 (Sl a62 r59 c63) r59] := H
           refine st_g (v := (B (!r104))) (congrArg some hb80) (rv_not rfl) ?_
           refine st (v := (B (!r104))) (rv_pick_f (congrArg B hb80) rfl) ?_
           refine w_end ?_
           obtain rfl := Option.some.inj h
           exact ⟨rfl, _, σ107, fr_join ⟨rfl, rfl, rfl, rfl, rfl, rfl, rfl, rfl, trivial⟩, rfl, H.sel' [4, 5, 6] rfl rfl⟩
        ·clear hj
         have h := h'
         clear h' H
         rintro e a w ⟨rfl, ρ, σ108, rfl, rfl, H⟩
         refine q_then ?_
         refine cd_cond o70 rfl (fun hb109 => ?_) (fun hb109 => ?_)
         ·replace h := bif_t hb109 h
          refine c_seq ?_
          refine rg ?_
          refine st (v := (B false)) (rv_assign rfl) ?_
          refine w_end ?_
          refine q_then ?_
          refine c_ret ?_
          refine q_blk_r ?_
          refine q_then_r ?_
          refine q_then_r ?_
          refine q_blk_r ?_
          obtain rfl := Option.some.inj h
          obtain rfl := hres _ rfl
          exact .inr (⟨_, rfl, rfl, _, σ108, fr_join ⟨rfl, trivial⟩, rfl, H.sel' [] rfl rfl⟩)
         ·replace h := bif_f hb109 h
          refine c_skip ?_
          refine q_blk ?_
          refine q_then ?_
          refine rg ?_
          refine st (v := (I s67)) (rv_move rfl) ?_
          refine st (v := (I (w64 (s67 + 1)))) (rv_add (a := s67) (b := 1) rfl rfl) ?_
          refine st (v := (I (w64 (s67 + 1)))) (rv_assign rfl) ?_
          refine w_end ?_
          refine q_then ?_
          obtain rfl := Option.some.inj h
          exact ⟨_, rfl, _, σ108, fr_join ⟨rfl, rfl, rfl, rfl, rfl, rfl, rfl, trivial⟩, rfl, H.sel' [0, 1, 2] rfl rfl⟩
       ·replace h := bif_f hb69 h
        refine c_exit ?_
        refine q_then_x ?_
        refine q_then_x ?_
        refine q_blk_hit ?_
        obtain rfl := Option.some.inj h
        obtain rfl := hres _ rfl
        exact .inl ⟨_, rfl, rfl, _, σ68, fr_join ⟨rfl, rfl, rfl, rfl, rfl, trivial⟩, rfl, H.sel' [0, 1] rfl rfl⟩
      ·clear hj
       have h := h'
       clear h' H
       rintro e a w (⟨t110, rfl, rfl, ρ, σ111, rfl, rfl, H⟩ | ⟨t112, rfl, rfl, ρ, σ113, rfl, rfl, H⟩)
       ·replace h := selim_l h
        refine q_blk ?_
        refine q_then ?_
        refine rg ?_
        refine st (v := (I s54.2)) (rv_move rfl) ?_
        refine st (v := (I (w64 (s54.2 + 1)))) (rv_add (a := s54.2) (b := 1) rfl rfl) ?_
        refine st (v := (I (w64 (s54.2 + 1)))) (rv_assign rfl) ?_
        refine w_end ?_
        refine q_then ?_
        obtain rfl := Option.some.inj h
        exact ⟨_, rfl, _, σ111, fr_join ⟨rfl, rfl, rfl, rfl, rfl, trivial⟩, rfl, H.sel' [0, 1] rfl rfl⟩
       ·replace h := selim_r h
        refine q_blk_r ?_
        refine q_then_r ?_
        refine q_then_r ?_
        refine q_blk_r ?_
        obtain rfl := Option.some.inj h
        obtain rfl := hres _ rfl
        exact .inr (⟨_, rfl, rfl, _, σ113, fr_join ⟨rfl, trivial⟩, rfl, H.sel' [] rfl rfl⟩)
     ·replace h := bif_f hb58 h
      refine c_exit ?_
      refine q_then_x ?_
      refine q_then_x ?_
      refine q_blk_hit ?_
      obtain rfl := Option.some.inj h
      obtain rfl := hres _ rfl
      exact .inl ⟨_, rfl, rfl, _, σ57, fr_join ⟨rfl, rfl, rfl, trivial⟩, rfl, H.sel' [0, 1] rfl rfl⟩
    ·clear hj
     have h := h'
     clear h' H
     rintro e a w (⟨t114, rfl, rfl, ρ, σ115, rfl, rfl, H⟩ | ⟨t123, rfl, rfl, ρ, σ124, rfl, rfl, H⟩)
     ·replace h := selim_l h
      refine q_then ?_
      refine c_seq ?_
      refine rg ?_
      refine st (v := (I t114)) (rv_move rfl) ?_
      refine st (v := (Sl a5 r2.1 c6)) (rv_move rfl) ?_
      refine st (v := (I (r2.1.length : Int))) (rv_len Try.underlying27 rfl) ?_
      refine st (v := (B (t114 == (r2.1.length : Int)))) (rv_eql (a := t114) (b := (r2.1.length : Int)) rfl rfl) ?_
      refine st (v := (B (t114 == (r2.1.length : Int)))) (rv_move rfl) ?_
      rcases Bool.eq_false_or_eq_true (t114 == (r2.1.length : Int)) with hb116 | hb116
      ·replace h := bif_t hb116 h
       refine st_g (v := (Sl a11 r8 c12)) (congrArg some hb116) (rv_move rfl) ?_
       obtain ⟨σ117, hw118, H, -⟩ := H.pub 1 rfl (Nat.le_refl _)
       rw [← hw118]; clear hw118
       replace H := H.roLow 0 0 rfl (Nat.zero_le _)
       obtain ⟨r119, hx120, h'⟩ := bind_some h
       clear h
       have h := h'; clear h'
       have hc121 := c_impl_ValidStore (alist_0 := a11) (clist_0 := c12) hx120
       refine st_call (cx_call hc121 (ent_f hc121.fn rfl) hn0 (show Hp S0 σ0 _ ([Ch.ro 0 (Sl a11 r8 c12) r8] ++ [Ch.ro 0 (Sl a11 r8 c12) r8, Ch.ro n0 (Sl a11 r8 c12) r8, Ch.ro n0 (Sl a5 r2.1 c6) r2.1]) from (H.sel' [0, 0, 1, 2] rfl rfl))) (wanted_yes rfl (by exact (congrArg some hb116))) ?_
       rintro _ σ122 ⟨_, ⟨rfl, rfl⟩, H, -⟩
       replace H : Hp S0 σ0 σ122 [Ch.ro 0 (Sl a11 r8 c12) r8, Ch.ro n0 (Sl a11 r8 c12) r8, Ch.ro n0 (Sl a5 r2.1 c6) r2.1] := H
       refine st (v := (B r119)) (rv_pick_t (congrArg B hb116) rfl) ?_
       refine st (v := (B r119)) (rv_assign rfl) ?_
       refine w_end ?_
       refine q_then ?_
       refine c_ret ?_
       obtain rfl := Option.some.inj h
       exact fin_ret (v := (B r119)) (results_ok Try.results13 (res_tmp (v := (B r119)) rfl res_nil) rfl) ⟨rfl, rfl⟩ (H.sel' [] rfl rfl)
      ·replace h := bif_f hb116 h
       refine st_skip (congrArg some hb116) ?_
       refine st_skip (congrArg some hb116) ?_
       refine st (v := (B false)) (rv_pick_f (congrArg B hb116) rfl) ?_
       refine st (v := (B false)) (rv_assign rfl) ?_
       refine w_end ?_
       refine q_then ?_
       refine c_ret ?_
       obtain rfl := Option.some.inj h
       exact fin_ret (v := (B false)) (results_ok Try.results13 (res_tmp (v := (B false)) rfl res_nil) rfl) ⟨rfl, rfl⟩ (H.sel' [] rfl rfl)
     ·replace h := selim_r h
      refine q_then_r ?_
      obtain rfl := Option.some.inj h
      exact fin_ret (v := (B t123)) (results_ok Try.results13 (res_tmp (v := (B t123)) rfl res_nil) rfl) ⟨rfl, rfl⟩ (H.sel' [] rfl rfl)

end Go.Vs
