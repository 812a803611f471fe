/- The functions compute what their models say. -/
import Derived.Test.YtjmaadoeholmiacKExactReachedFromC4
set_option linter.unusedVariables false
set_option linter.unusedSimpArgs false
set_option maxRecDepth 20000
namespace Go.Vs
open Go Go.Proofs
attribute [local irreducible] Code.wp Code.wpIn wpList wpListIn wpQuiet Calls CallsIn

theorem c_slices_partitionOrdered_int {data_0 : List Int} {a_1 : Int} {b_2 : Int} {pivot_3 : Int} {adata_0 : Option Addr} {cdata_0 : Nat} {r : Int × Bool × (List Int)} (h : M.slices_partitionOrdered_int data_0 a_1 b_2 pivot_3 = some r) :
    Cal2 Try.prog 125 [(Sl adata_0 data_0 cdata_0), (I a_1), (I b_2), (I pivot_3)] [Ch.own 0 0 (Sl adata_0 data_0 cdata_0) data_0] (fun n0 v L => v = (.tuple #[(I r.1), (B r.2.1)]) ∧ L = [Ch.own 0 0 (Sl adata_0 r.2.2 cdata_0) r.2.2] ∧ r.2.2.length = data_0.length) := by
 refine cal2 (n := 168) Try.func125 rfl rfl rfl rfl ?_
 intro S0 σ0 n0 hn0 H
 unfold M.slices_partitionOrdered_int at h
 refine c_seq ?_
 refine rg ?_
 refine st (v := (I 0)) (rv_assign rfl) ?_
 refine st (v := (B false)) (rv_assign rfl) ?_
 refine w_end ?_
 refine q_then ?_
 refine c_seq ?_
 obtain ⟨x1, hx2, h'⟩ := bind_some h
 clear h
 have h := h'; clear h'
 obtain ⟨b4, o5, hi3, -⟩ := (H.own 0 rfl).ix hx2
 have hc6 := ((H.own 0 rfl).at hx2 hi3).int
 obtain ⟨x7, hx8, h'⟩ := bind_some h
 clear h
 have h := h'; clear h'
 obtain ⟨b10, o11, hi9, -⟩ := (H.own 0 rfl).ix hx8
 have hc12 := ((H.own 0 rfl).at hx8 hi9).int
 obtain ⟨x13, hx14, h'⟩ := bind_some h
 clear h
 have h := h'; clear h'
 obtain ⟨b16, o17, hi15, -⟩ := (H.own 0 rfl).ix hx14
 have Hs := H
 refine rg2 (σ := σ0) (Nm := Unit) 14 [13] [[false], [true]] [[(0, 0)], [(0, 0)], [(0, 0), (1, 1)], [(0, 0), (1, 1)], [(0, 0)], [(0, 0)], [(0, 0)], [(0, 0)], [(0, 0)], [(0, 0)], [(0, 0)], [(0, 0)], [(0, 0)], [(0, 1)]] 1 [fun _ => fun σm => Hp S0 σ0 σm [Ch.own 0 0 (Sl adata_0 data_0 cdata_0) data_0] ∧ Md (cov []) σ0 σm, fun _ => fun σm => Hp S0 σ0 σm [Ch.own 0 0 (Sl adata_0 data_0 cdata_0) (data_0.set a_1.toNat x1)] ∧ Md (fun i => (cov []) i ∨ (fun b => blk (Sl adata_0 data_0 cdata_0) = some b) i) σ0 σm] [fun _ => (Sl adata_0 data_0 cdata_0), fun _ => (I a_1), fun _ => (Sl adata_0 data_0 cdata_0), fun _ => (I pivot_3), fun _ => (Sl adata_0 data_0 cdata_0), fun _ => (I pivot_3), fun _ => (pt b4 o5), fun _ => (I x1), fun _ => (Sl adata_0 data_0 cdata_0), fun _ => (I a_1), fun _ => (pt b10 o11), fun _ => (I x7), fun _ => (pt b16 o17), fun _ => undef] () (by kernel_rfl) (by kernel_rfl) ?_ ?_ ?_
 ·intro σm m0
  exact ⟨H.grow (m0.mono fun _ h => h.elim), m0⟩
 ·refine ac rfl (by
    intro k _nm ρ σm hJ hoff hdep
    have e0 := look_off (N := 168) (hoff 0 rfl) rfl
    exact dp_v (v := (Sl adata_0 data_0 cdata_0)) wn (rv_move e0) rfl hJ) ?_
  refine ac rfl (by
    intro k _nm ρ σm hJ hoff hdep
    have e1 := look_off (N := 168) (hoff 1 rfl) rfl
    exact dp_v (v := (I a_1)) wn (rv_move e1) rfl hJ) ?_
  refine ac rfl (by
    intro k _nm ρ σm hJ hoff hdep
    have e0 := look_off (N := 168) (hoff 0 rfl) rfl
    exact dp_v (v := (Sl adata_0 data_0 cdata_0)) wn (rv_move e0) rfl hJ) ?_
  refine ac rfl (by
    intro k _nm ρ σm hJ hoff hdep
    have e3 := look_off (N := 168) (hoff 3 rfl) rfl
    exact dp_v (v := (I pivot_3)) wn (rv_move e3) rfl hJ) ?_
  refine ac rfl (by
    intro k _nm ρ σm hJ hoff hdep
    have e0 := look_off (N := 168) (hoff 0 rfl) rfl
    exact dp_v (v := (Sl adata_0 data_0 cdata_0)) wn (rv_move e0) rfl hJ) ?_
  refine ac rfl (by
    intro k _nm ρ σm hJ hoff hdep
    have e3 := look_off (N := 168) (hoff 3 rfl) rfl
    exact dp_v (v := (I pivot_3)) wn (rv_move e3) rfl hJ) ?_
  refine ac rfl (by
    intro k _nm ρ σm hJ hoff hdep
    have e16 := hdep 4 rfl rfl 16 rfl
    have e17 := hdep 5 rfl rfl 17 rfl
    exact dp_v (v := (pt b4 o5)) wn (rv_ix Try.underlying36 ti3 e16 e17 hi3) rfl hJ) ?_
  refine all_cons (by
    refine ⟨?_, ?_⟩
    ·intro _nm ρ σm hJ hoff hdep
     have e18 := hdep 6 rfl rfl 18 rfl
     obtain ⟨H, m⟩ := id hJ
     have hc6 := ((H.own 0 rfl).at hx2 hi3).int
     exact dp_v (v := (I x1)) wn (rv_load1 Try.underlying3 rfl e18 hc6) rfl hJ
    trivial) ?_
  refine ac rfl (by
    intro k _nm ρ σm hJ hoff hdep
    have e0 := look_off (N := 168) (hoff 0 rfl) rfl
    exact dp_v (v := (Sl adata_0 data_0 cdata_0)) wn (rv_move e0) rfl hJ) ?_
  refine ac rfl (by
    intro k _nm ρ σm hJ hoff hdep
    have e1 := look_off (N := 168) (hoff 1 rfl) rfl
    exact dp_v (v := (I a_1)) wn (rv_move e1) rfl hJ) ?_
  refine ac rfl (by
    intro k _nm ρ σm hJ hoff hdep
    have e20 := hdep 8 rfl rfl 20 rfl
    have e21 := hdep 9 rfl rfl 21 rfl
    exact dp_v (v := (pt b10 o11)) wn (rv_ix Try.underlying36 ti3 e20 e21 hi9) rfl hJ) ?_
  refine all_cons (by
    refine ⟨?_, ?_⟩
    ·intro _nm ρ σm hJ hoff hdep
     have e22 := hdep 10 rfl rfl 22 rfl
     obtain ⟨H, m⟩ := id hJ
     have hc12 := ((H.own 0 rfl).at hx8 hi9).int
     exact dp_v (v := (I x7)) wn (rv_load1 Try.underlying3 rfl e22 hc12) rfl hJ
    trivial) ?_
  refine ac rfl (by
    intro k _nm ρ σm hJ hoff hdep
    have e12 := hdep 0 rfl rfl 12 rfl
    have e13 := hdep 1 rfl rfl 13 rfl
    exact dp_v (v := (pt b16 o17)) wn (rv_ix Try.underlying36 ti3 e12 e13 hi15) rfl hJ) ?_
  refine all_cons (by
    refine ⟨?_, ?_⟩
    ·intro _nm ρ σm hJ hoff hdep
     have e24 := hdep 12 rfl rfl 24 rfl
     have e19 := hdep 7 rfl rfl 19 rfl
     obtain ⟨H, m⟩ := id hJ
     refine dp_exS wn rfl (ex_store_own (e' := x1) (vs := [(I x1)]) (k := 0) H (i := 0) rfl ti3 hx14 hi15 e24 rfl e19 rfl rfl (Nat.le_of_ble_eq_true rfl) (by simp [plain]) (by rintro _ rfl; exact rfl)) ?_
     rintro σq ⟨H2, m2⟩
     exact ⟨_, (), rfl, ⟨H2.sel' [0] rfl rfl, m.comp m2⟩, stab [0, 1, 2, 3, 4, 5, 6, 7, 8, 9, 10, 11, 12] (by kernel_rfl) ⟨rfl, rfl, rfl, rfl, rfl, rfl, rfl, rfl, rfl, rfl, rfl, rfl, rfl, trivial⟩⟩
    trivial) ?_
  exact all_nil
 ·intro _nm ρ σ18 hJ hoff hrel
  have e0 := look_off (N := 168) (hoff 0 rfl) rfl
  have e1 := look_off (N := 168) (hoff 1 rfl) rfl
  have e2 := look_off (N := 168) (hoff 2 rfl) rfl
  have e14 := hrel 2 rfl 14 rfl
  have e15 := hrel 3 rfl 15 rfl
  have e23 := hrel 11 rfl 23 rfl
  obtain ⟨H, -⟩ := (show Hp S0 σ0 σ18 [Ch.own 0 0 (Sl adata_0 data_0 cdata_0) (data_0.set a_1.toNat x1)] ∧ Md (fun i => (cov []) i ∨ (fun b => blk (Sl adata_0 data_0 cdata_0) = some b) i) σ0 σ18 from hJ)
  clear hJ Hs
  rw [fr_lookL (L := [(0, (Sl adata_0 data_0 cdata_0)), (1, (I a_1)), (2, (I b_2)), (14, (Sl adata_0 data_0 cdata_0)), (15, (I pivot_3)), (23, (I x7))]) ⟨e0, e1, e2, e14, e15, e23, trivial⟩]
  clear hoff hrel e0 e1 e2 e14 e15 e23
  have hsl : (Sl adata_0 data_0 cdata_0) = (Sl adata_0 (data_0.set a_1.toNat x1) cdata_0) := sl_len (by simp)
  rw [hsl]; rw [hsl] at H; clear hsl
  obtain ⟨x19, hx20, h'⟩ := bind_some h
  clear h
  have h := h'; clear h'
  obtain ⟨b22, o23, hi21, -⟩ := (H.own 0 rfl).ix hx20
  refine st (v := (pt b22 o23)) (rv_ix Try.underlying36 ti3 rfl rfl hi21) ?_
  refine st_exS (ex_store_own (e' := x7) (vs := [(I x7)]) (k := 0) H (i := 0) rfl ti3 hx20 hi21 rfl rfl rfl rfl rfl (Nat.le_of_ble_eq_true rfl) (by simp [plain]) (by rintro _ rfl; exact rfl)) wn ?_
  rintro σ24 ⟨H, -⟩
  have hsl : (Sl adata_0 (data_0.set a_1.toNat x1) cdata_0) = (Sl adata_0 ((data_0.set a_1.toNat x1).set pivot_3.toNat x7) cdata_0) := sl_len List.length_set.symm
  rw [hsl]; rw [hsl] at H; clear hsl
  refine w_end ?_
  refine q_then ?_
  refine c_seq ?_
  refine rg ?_
  refine st (v := (I a_1)) (rv_move rfl) ?_
  refine st (v := (I (w64 (a_1 + 1)))) (rv_add (a := a_1) (b := 1) rfl rfl) ?_
  refine st (v := (I b_2)) (rv_move rfl) ?_
  refine st (v := (I (w64 (b_2 - 1)))) (rv_sub (a := b_2) (b := 1) rfl rfl) ?_
  refine st (v := (I (w64 (a_1 + 1)))) (rv_assign rfl) ?_
  refine st (v := (I (w64 (b_2 - 1)))) (rv_assign rfl) ?_
  refine w_end ?_
  refine q_then ?_
  refine c_seq ?_
  obtain ⟨o25, hj, h'⟩ := bind_some h
  clear h
  refine c_cut (fun e a w => e = .normal ∧ ∃ (ρ : Nat → Value) (σ : St), a = fr 168 (updL ρ [(0, (Sl adata_0 ((data_0.set a_1.toNat x1).set pivot_3.toNat x7) cdata_0)), (1, (I a_1)), (10, (I o25)), (11, (I (w64 (b_2 - 1))))]) ∧ w = σ.w ∧ Hp S0 σ0 σ [Ch.own 0 0 (Sl adata_0 ((data_0.set a_1.toNat x1).set pivot_3.toNat x7) cdata_0) ((data_0.set a_1.toNat x1).set pivot_3.toNat x7)]) ?_ ?_
  ·clear h'
   rename _ = some o25 => h
   refine c_blk ?_
   refine wp_loopM _ h (fun s26 a w => ∃ (ρ : Nat → Value) (σ : St), a = fr 168 (updL ρ [(0, (Sl adata_0 ((data_0.set a_1.toNat x1).set pivot_3.toNat x7) cdata_0)), (1, (I a_1)), (10, (I s26)), (11, (I (w64 (b_2 - 1))))]) ∧ w = σ.w ∧ Hp S0 σ0 σ [Ch.own 0 0 (Sl adata_0 ((data_0.set a_1.toNat x1).set pivot_3.toNat x7) cdata_0) ((data_0.set a_1.toNat x1).set pivot_3.toNat x7)]) ⟨_, σ24, fr_join ⟨rfl, rfl, rfl, rfl, trivial⟩, rfl, H.sel' [0] rfl rfl⟩ ?_
   clear h H
   rintro s26 a w o ⟨ρ, σ27, rfl, rfl, H⟩ h hres
   refine c_seq ?_
   refine c_seq ?_
   obtain ⟨o28, hj, h'⟩ := bind_some h
   clear h
   refine c_cut (fun e a w => e = .normal ∧ ∃ (ρ : Nat → Value) (σ : St), a = fr 168 (updL ρ [(0, (Sl adata_0 ((data_0.set a_1.toNat x1).set pivot_3.toNat x7) cdata_0)), (1, (I a_1)), (10, (I s26)), (11, (I (w64 (b_2 - 1)))), (43, (B o28))]) ∧ w = σ.w ∧ Hp S0 σ0 σ [Ch.own 0 0 (Sl adata_0 ((data_0.set a_1.toNat x1).set pivot_3.toNat x7) cdata_0) ((data_0.set a_1.toNat x1).set pivot_3.toNat x7)]) ?_ ?_
   ·clear h'
    rename _ = some o28 => h
    refine rgP (σ := σ27) 12 (by kernel_rfl) (by kernel_rfl) (by kernel_rfl) ?_
    refine sq (v := (I s26)) (rv_move rfl) ?_
    refine sq (v := (I (w64 (b_2 - 1)))) (rv_move rfl) ?_
    refine sq (v := (B (decide (s26 ≤ (w64 (b_2 - 1)))))) (rv_leq (a := s26) (b := (w64 (b_2 - 1))) rfl rfl) ?_
    refine sq (v := (B (decide (s26 ≤ (w64 (b_2 - 1)))))) (rv_move rfl) ?_
    rcases Bool.eq_false_or_eq_true (decide (s26 ≤ (w64 (b_2 - 1)))) with hb29 | hb29
    ·replace h := bif_t hb29 h
     refine sq_g (v := (Sl adata_0 ((data_0.set a_1.toNat x1).set pivot_3.toNat x7) cdata_0)) (congrArg some hb29) (rv_move rfl) ?_
     refine sq_g (v := (I s26)) (congrArg some hb29) (rv_move rfl) ?_
     obtain ⟨x30, hx31, h'⟩ := bind_some h
     clear h
     have h := h'; clear h'
     obtain ⟨b33, o34, hi32, -⟩ := (H.own 0 rfl).ix hx31
     refine sq_g (v := (pt b33 o34)) (congrArg some hb29) (rv_ix Try.underlying36 ti3 rfl rfl hi32) ?_
     have hc35 := ((H.own 0 rfl).at hx31 hi32).int
     refine sq_g (v := (I x30)) (congrArg some hb29) (rv_load1 Try.underlying3 rfl rfl hc35) ?_
     refine sq_g (v := (Sl adata_0 ((data_0.set a_1.toNat x1).set pivot_3.toNat x7) cdata_0)) (congrArg some hb29) (rv_move rfl) ?_
     refine sq_g (v := (I a_1)) (congrArg some hb29) (rv_move rfl) ?_
     obtain ⟨x36, hx37, h'⟩ := bind_some h
     clear h
     have h := h'; clear h'
     obtain ⟨b39, o40, hi38, -⟩ := (H.own 0 rfl).ix hx37
     refine sq_g (v := (pt b39 o40)) (congrArg some hb29) (rv_ix Try.underlying36 ti3 rfl rfl hi38) ?_
     have hc41 := ((H.own 0 rfl).at hx37 hi38).int
     refine sq_g (v := (I x36)) (congrArg some hb29) (rv_load1 Try.underlying3 rfl rfl hc41) ?_
     refine sq_end ?_
     intro σ42 hm43
     replace H := H.grow (hm43.mono fun _ h => h); clear hm43
     obtain ⟨r44, hx45, h'⟩ := bind_some h
     clear h
     have h := h'; clear h'
     have hc46 := c_cmp_Less_int hx45
     refine st_call (cx_call hc46 (ent_f hc46.fn rfl) hn0 (show Hp S0 σ0 _ ([] ++ [Ch.own 0 0 (Sl adata_0 ((data_0.set a_1.toNat x1).set pivot_3.toNat x7) cdata_0) ((data_0.set a_1.toNat x1).set pivot_3.toNat x7)]) from (H.sel' [0] rfl rfl))) (wanted_yes rfl (by exact (congrArg some hb29))) ?_
     rintro _ σ47 ⟨_, ⟨rfl, rfl⟩, H, -⟩
     replace H : Hp S0 σ0 σ47 [Ch.own 0 0 (Sl adata_0 ((data_0.set a_1.toNat x1).set pivot_3.toNat x7) cdata_0) ((data_0.set a_1.toNat x1).set pivot_3.toNat x7)] := H
     refine st (v := (B r44)) (rv_pick_t (congrArg B hb29) rfl) ?_
     refine w_end ?_
     obtain rfl := Option.some.inj h
     exact ⟨rfl, _, σ47, fr_join ⟨rfl, rfl, rfl, rfl, rfl, trivial⟩, rfl, H.sel' [0] rfl rfl⟩
    ·replace h := bif_f hb29 h
     refine sq_skip (congrArg some hb29) ?_
     refine sq_skip (congrArg some hb29) ?_
     refine sq_skip (congrArg some hb29) ?_
     refine sq_skip (congrArg some hb29) ?_
     refine sq_skip (congrArg some hb29) ?_
     refine sq_skip (congrArg some hb29) ?_
     refine sq_skip (congrArg some hb29) ?_
     refine sq_skip (congrArg some hb29) ?_
     refine sq_end ?_
     intro σ48 hm49
     replace H := H.grow (hm49.mono fun _ h => h); clear hm49
     refine st_skip (congrArg some hb29) ?_
     refine st (v := (B false)) (rv_pick_f (congrArg B hb29) rfl) ?_
     refine w_end ?_
     obtain rfl := Option.some.inj h
     exact ⟨rfl, _, σ48, fr_join ⟨rfl, rfl, rfl, rfl, rfl, trivial⟩, rfl, H.sel' [0] rfl rfl⟩
   ·clear hj
    have h := h'
    clear h' H
    rintro e a w ⟨rfl, ρ, σ50, rfl, rfl, H⟩
    refine q_then ?_
    refine cd_cond o28 rfl (fun hb51 => ?_) (fun hb51 => ?_)
    ·replace h := bif_t hb51 h
     refine c_skip ?_
     refine q_then ?_
     refine c_blk ?_
     refine rg ?_
     refine st (v := (I s26)) (rv_move rfl) ?_
     refine st (v := (I (w64 (s26 + 1)))) (rv_add (a := s26) (b := 1) rfl rfl) ?_
     refine st (v := (I (w64 (s26 + 1)))) (rv_assign rfl) ?_
     refine w_end ?_
     refine q_blk ?_
     refine q_then ?_
     obtain rfl := Option.some.inj h
     exact ⟨_, rfl, _, σ50, fr_join ⟨rfl, rfl, rfl, rfl, trivial⟩, rfl, H.sel' [0] rfl rfl⟩
    ·replace h := bif_f hb51 h
     refine c_exit ?_
     refine q_then_x ?_
     refine q_then_x ?_
     refine q_blk_hit ?_
     obtain rfl := Option.some.inj h
     obtain rfl := hres _ rfl
     exact ⟨rfl, _, σ50, fr_join ⟨rfl, rfl, rfl, rfl, trivial⟩, rfl, H.sel' [0] rfl rfl⟩
  ·clear hj
   have h := h'
   clear h' H
   rintro e a w ⟨rfl, ρ, σ52, rfl, rfl, H⟩
   refine q_then ?_
   refine c_seq ?_
   obtain ⟨o53, hj, h'⟩ := bind_some h
   clear h
   refine c_cut (fun e a w => e = .normal ∧ ∃ (ρ : Nat → Value) (σ : St), a = fr 168 (updL ρ [(0, (Sl adata_0 ((data_0.set a_1.toNat x1).set pivot_3.toNat x7) cdata_0)), (1, (I a_1)), (10, (I o25)), (11, (I o53))]) ∧ w = σ.w ∧ Hp S0 σ0 σ [Ch.own 0 0 (Sl adata_0 ((data_0.set a_1.toNat x1).set pivot_3.toNat x7) cdata_0) ((data_0.set a_1.toNat x1).set pivot_3.toNat x7)]) ?_ ?_
   ·clear h'
    rename _ = some o53 => h
    refine c_blk ?_
    refine wp_loopM _ h (fun s54 a w => ∃ (ρ : Nat → Value) (σ : St), a = fr 168 (updL ρ [(0, (Sl adata_0 ((data_0.set a_1.toNat x1).set pivot_3.toNat x7) cdata_0)), (1, (I a_1)), (10, (I o25)), (11, (I s54))]) ∧ w = σ.w ∧ Hp S0 σ0 σ [Ch.own 0 0 (Sl adata_0 ((data_0.set a_1.toNat x1).set pivot_3.toNat x7) cdata_0) ((data_0.set a_1.toNat x1).set pivot_3.toNat x7)]) ⟨_, σ52, fr_join ⟨rfl, rfl, rfl, rfl, trivial⟩, rfl, H.sel' [0] rfl rfl⟩ ?_
    clear h H
    rintro s54 a w o ⟨ρ, σ55, rfl, rfl, H⟩ h hres
    refine c_seq ?_
    refine c_seq ?_
    obtain ⟨o56, hj, h'⟩ := bind_some h
    clear h
    refine c_cut (fun e a w => e = .normal ∧ ∃ (ρ : Nat → Value) (σ : St), a = fr 168 (updL ρ [(0, (Sl adata_0 ((data_0.set a_1.toNat x1).set pivot_3.toNat x7) cdata_0)), (1, (I a_1)), (10, (I o25)), (11, (I s54)), (60, (B o56))]) ∧ w = σ.w ∧ Hp S0 σ0 σ [Ch.own 0 0 (Sl adata_0 ((data_0.set a_1.toNat x1).set pivot_3.toNat x7) cdata_0) ((data_0.set a_1.toNat x1).set pivot_3.toNat x7)]) ?_ ?_
    ·clear h'
     rename _ = some o56 => h
     refine rgP (σ := σ55) 12 (by kernel_rfl) (by kernel_rfl) (by kernel_rfl) ?_
     refine sq (v := (I o25)) (rv_move rfl) ?_
     refine sq (v := (I s54)) (rv_move rfl) ?_
     refine sq (v := (B (decide (o25 ≤ s54)))) (rv_leq (a := o25) (b := s54) rfl rfl) ?_
     refine sq (v := (B (decide (o25 ≤ s54)))) (rv_move rfl) ?_
     rcases Bool.eq_false_or_eq_true (decide (o25 ≤ s54)) with hb57 | hb57
     ·replace h := bif_t hb57 h
      refine sq_g (v := (Sl adata_0 ((data_0.set a_1.toNat x1).set pivot_3.toNat x7) cdata_0)) (congrArg some hb57) (rv_move rfl) ?_
      refine sq_g (v := (I s54)) (congrArg some hb57) (rv_move rfl) ?_
      obtain ⟨x58, hx59, h'⟩ := bind_some h
      clear h
      have h := h'; clear h'
      obtain ⟨b61, o62, hi60, -⟩ := (H.own 0 rfl).ix hx59
      refine sq_g (v := (pt b61 o62)) (congrArg some hb57) (rv_ix Try.underlying36 ti3 rfl rfl hi60) ?_
      have hc63 := ((H.own 0 rfl).at hx59 hi60).int
      refine sq_g (v := (I x58)) (congrArg some hb57) (rv_load1 Try.underlying3 rfl rfl hc63) ?_
      refine sq_g (v := (Sl adata_0 ((data_0.set a_1.toNat x1).set pivot_3.toNat x7) cdata_0)) (congrArg some hb57) (rv_move rfl) ?_
      refine sq_g (v := (I a_1)) (congrArg some hb57) (rv_move rfl) ?_
      obtain ⟨x64, hx65, h'⟩ := bind_some h
      clear h
      have h := h'; clear h'
      obtain ⟨b67, o68, hi66, -⟩ := (H.own 0 rfl).ix hx65
      refine sq_g (v := (pt b67 o68)) (congrArg some hb57) (rv_ix Try.underlying36 ti3 rfl rfl hi66) ?_
      have hc69 := ((H.own 0 rfl).at hx65 hi66).int
      refine sq_g (v := (I x64)) (congrArg some hb57) (rv_load1 Try.underlying3 rfl rfl hc69) ?_
      refine sq_end ?_
      intro σ70 hm71
      replace H := H.grow (hm71.mono fun _ h => h); clear hm71
      obtain ⟨r72, hx73, h'⟩ := bind_some h
      clear h
      have h := h'; clear h'
      have hc74 := c_cmp_Less_int hx73
      refine st_call (cx_call hc74 (ent_f hc74.fn rfl) hn0 (show Hp S0 σ0 _ ([] ++ [Ch.own 0 0 (Sl adata_0 ((data_0.set a_1.toNat x1).set pivot_3.toNat x7) cdata_0) ((data_0.set a_1.toNat x1).set pivot_3.toNat x7)]) from (H.sel' [0] rfl rfl))) (wanted_yes rfl (by exact (congrArg some hb57))) ?_
      rintro _ σ75 ⟨_, ⟨rfl, rfl⟩, H, -⟩
      replace H : Hp S0 σ0 σ75 [Ch.own 0 0 (Sl adata_0 ((data_0.set a_1.toNat x1).set pivot_3.toNat x7) cdata_0) ((data_0.set a_1.toNat x1).set pivot_3.toNat x7)] := H
      refine st_g (v := (B (!r72))) (congrArg some hb57) (rv_not rfl) ?_
      refine st (v := (B (!r72))) (rv_pick_t (congrArg B hb57) rfl) ?_
      refine w_end ?_
      obtain rfl := Option.some.inj h
      exact ⟨rfl, _, σ75, fr_join ⟨rfl, rfl, rfl, rfl, rfl, trivial⟩, rfl, H.sel' [0] rfl rfl⟩
     ·replace h := bif_f hb57 h
      refine sq_skip (congrArg some hb57) ?_
      refine sq_skip (congrArg some hb57) ?_
      refine sq_skip (congrArg some hb57) ?_
      refine sq_skip (congrArg some hb57) ?_
      refine sq_skip (congrArg some hb57) ?_
      refine sq_skip (congrArg some hb57) ?_
      refine sq_skip (congrArg some hb57) ?_
      refine sq_skip (congrArg some hb57) ?_
      refine sq_end ?_
      intro σ76 hm77
      replace H := H.grow (hm77.mono fun _ h => h); clear hm77
      refine st_skip (congrArg some hb57) ?_
      refine st_skip (congrArg some hb57) ?_
      refine st (v := (B false)) (rv_pick_f (congrArg B hb57) rfl) ?_
      refine w_end ?_
      obtain rfl := Option.some.inj h
      exact ⟨rfl, _, σ76, fr_join ⟨rfl, rfl, rfl, rfl, rfl, trivial⟩, rfl, H.sel' [0] rfl rfl⟩
    ·clear hj
     have h := h'
     clear h' H
     rintro e a w ⟨rfl, ρ, σ78, rfl, rfl, H⟩
     refine q_then ?_
     refine cd_cond o56 rfl (fun hb79 => ?_) (fun hb79 => ?_)
     ·replace h := bif_t hb79 h
      refine c_skip ?_
      refine q_then ?_
      refine c_blk ?_
      refine rg ?_
      refine st (v := (I s54)) (rv_move rfl) ?_
      refine st (v := (I (w64 (s54 - 1)))) (rv_sub (a := s54) (b := 1) rfl rfl) ?_
      refine st (v := (I (w64 (s54 - 1)))) (rv_assign rfl) ?_
      refine w_end ?_
      refine q_blk ?_
      refine q_then ?_
      obtain rfl := Option.some.inj h
      exact ⟨_, rfl, _, σ78, fr_join ⟨rfl, rfl, rfl, rfl, trivial⟩, rfl, H.sel' [0] rfl rfl⟩
     ·replace h := bif_f hb79 h
      refine c_exit ?_
      refine q_then_x ?_
      refine q_then_x ?_
      refine q_blk_hit ?_
      obtain rfl := Option.some.inj h
      obtain rfl := hres _ rfl
      exact ⟨rfl, _, σ78, fr_join ⟨rfl, rfl, rfl, rfl, trivial⟩, rfl, H.sel' [0] rfl rfl⟩
   ·clear hj
    have h := h'
    clear h' H
    rintro e a w ⟨rfl, ρ, σ80, rfl, rfl, H⟩
    refine q_then ?_
    refine c_seq ?_
    refine c_seq ?_
    refine rg ?_
    refine st (v := (I o25)) (rv_move rfl) ?_
    refine st (v := (I o53)) (rv_move rfl) ?_
    refine st (v := (B (decide (o53 < o25)))) (rv_gtr (a := o25) (b := o53) rfl rfl) ?_
    refine w_end ?_
    refine q_then ?_
    refine cd_cond (decide (o53 < o25)) rfl (fun hb81 => ?_) (fun hb81 => ?_)
    ·replace h := bif_t hb81 h
     refine c_seq ?_
     obtain ⟨x82, hx83, h'⟩ := bind_some h
     clear h
     have h := h'; clear h'
     obtain ⟨b85, o86, hi84, -⟩ := (H.own 0 rfl).ix hx83
     have hc87 := ((H.own 0 rfl).at hx83 hi84).int
     obtain ⟨x88, hx89, h'⟩ := bind_some h
     clear h
     have h := h'; clear h'
     obtain ⟨b91, o92, hi90, -⟩ := (H.own 0 rfl).ix hx89
     have hc93 := ((H.own 0 rfl).at hx89 hi90).int
     obtain ⟨x94, hx95, h'⟩ := bind_some h
     clear h
     have h := h'; clear h'
     obtain ⟨b97, o98, hi96, -⟩ := (H.own 0 rfl).ix hx95
     have Hs := H
     refine rg2 (σ := σ80) (Nm := Unit) 14 [13] [[false], [true]] [[(0, 0)], [(0, 0)], [(0, 0), (1, 1)], [(0, 0), (1, 1)], [(0, 0)], [(0, 0)], [(0, 0)], [(0, 0)], [(0, 0)], [(0, 0)], [(0, 0)], [(0, 0)], [(0, 0)], [(0, 1)]] 1 [fun _ => fun σm => Hp S0 σ0 σm [Ch.own 0 0 (Sl adata_0 ((data_0.set a_1.toNat x1).set pivot_3.toNat x7) cdata_0) ((data_0.set a_1.toNat x1).set pivot_3.toNat x7)] ∧ Md (cov []) σ80 σm, fun _ => fun σm => Hp S0 σ0 σm [Ch.own 0 0 (Sl adata_0 ((data_0.set a_1.toNat x1).set pivot_3.toNat x7) cdata_0) (((data_0.set a_1.toNat x1).set pivot_3.toNat x7).set o53.toNat x82)] ∧ Md (fun i => (cov []) i ∨ (fun b => blk (Sl adata_0 ((data_0.set a_1.toNat x1).set pivot_3.toNat x7) cdata_0) = some b) i) σ80 σm] [fun _ => (Sl adata_0 ((data_0.set a_1.toNat x1).set pivot_3.toNat x7) cdata_0), fun _ => (I o53), fun _ => (Sl adata_0 ((data_0.set a_1.toNat x1).set pivot_3.toNat x7) cdata_0), fun _ => (I a_1), fun _ => (Sl adata_0 ((data_0.set a_1.toNat x1).set pivot_3.toNat x7) cdata_0), fun _ => (I a_1), fun _ => (pt b85 o86), fun _ => (I x82), fun _ => (Sl adata_0 ((data_0.set a_1.toNat x1).set pivot_3.toNat x7) cdata_0), fun _ => (I o53), fun _ => (pt b91 o92), fun _ => (I x88), fun _ => (pt b97 o98), fun _ => undef] () (by kernel_rfl) (by kernel_rfl) ?_ ?_ ?_
     ·intro σm m0
      exact ⟨H.grow (m0.mono fun _ h => h.elim), m0⟩
     ·refine ac rfl (by
        intro k _nm ρ σm hJ hoff hdep
        have e0 := look_off (N := 168) (hoff 0 rfl) rfl
        exact dp_v (v := (Sl adata_0 ((data_0.set a_1.toNat x1).set pivot_3.toNat x7) cdata_0)) wn (rv_move e0) rfl hJ) ?_
      refine ac rfl (by
        intro k _nm ρ σm hJ hoff hdep
        have e11 := look_off (N := 168) (hoff 11 rfl) rfl
        exact dp_v (v := (I o53)) wn (rv_move e11) rfl hJ) ?_
      refine ac rfl (by
        intro k _nm ρ σm hJ hoff hdep
        have e0 := look_off (N := 168) (hoff 0 rfl) rfl
        exact dp_v (v := (Sl adata_0 ((data_0.set a_1.toNat x1).set pivot_3.toNat x7) cdata_0)) wn (rv_move e0) rfl hJ) ?_
      refine ac rfl (by
        intro k _nm ρ σm hJ hoff hdep
        have e1 := look_off (N := 168) (hoff 1 rfl) rfl
        exact dp_v (v := (I a_1)) wn (rv_move e1) rfl hJ) ?_
      refine ac rfl (by
        intro k _nm ρ σm hJ hoff hdep
        have e0 := look_off (N := 168) (hoff 0 rfl) rfl
        exact dp_v (v := (Sl adata_0 ((data_0.set a_1.toNat x1).set pivot_3.toNat x7) cdata_0)) wn (rv_move e0) rfl hJ) ?_
      refine ac rfl (by
        intro k _nm ρ σm hJ hoff hdep
        have e1 := look_off (N := 168) (hoff 1 rfl) rfl
        exact dp_v (v := (I a_1)) wn (rv_move e1) rfl hJ) ?_
      refine ac rfl (by
        intro k _nm ρ σm hJ hoff hdep
        have e70 := hdep 4 rfl rfl 70 rfl
        have e71 := hdep 5 rfl rfl 71 rfl
        exact dp_v (v := (pt b85 o86)) wn (rv_ix Try.underlying36 ti3 e70 e71 hi84) rfl hJ) ?_
      refine all_cons (by
        refine ⟨?_, ?_⟩
        ·intro _nm ρ σm hJ hoff hdep
         have e72 := hdep 6 rfl rfl 72 rfl
         obtain ⟨H, m⟩ := id hJ
         have hc87 := ((H.own 0 rfl).at hx83 hi84).int
         exact dp_v (v := (I x82)) wn (rv_load1 Try.underlying3 rfl e72 hc87) rfl hJ
        trivial) ?_
      refine ac rfl (by
        intro k _nm ρ σm hJ hoff hdep
        have e0 := look_off (N := 168) (hoff 0 rfl) rfl
        exact dp_v (v := (Sl adata_0 ((data_0.set a_1.toNat x1).set pivot_3.toNat x7) cdata_0)) wn (rv_move e0) rfl hJ) ?_
      refine ac rfl (by
        intro k _nm ρ σm hJ hoff hdep
        have e11 := look_off (N := 168) (hoff 11 rfl) rfl
        exact dp_v (v := (I o53)) wn (rv_move e11) rfl hJ) ?_
      refine ac rfl (by
        intro k _nm ρ σm hJ hoff hdep
        have e74 := hdep 8 rfl rfl 74 rfl
        have e75 := hdep 9 rfl rfl 75 rfl
        exact dp_v (v := (pt b91 o92)) wn (rv_ix Try.underlying36 ti3 e74 e75 hi90) rfl hJ) ?_
      refine all_cons (by
        refine ⟨?_, ?_⟩
        ·intro _nm ρ σm hJ hoff hdep
         have e76 := hdep 10 rfl rfl 76 rfl
         obtain ⟨H, m⟩ := id hJ
         have hc93 := ((H.own 0 rfl).at hx89 hi90).int
         exact dp_v (v := (I x88)) wn (rv_load1 Try.underlying3 rfl e76 hc93) rfl hJ
        trivial) ?_
      refine ac rfl (by
        intro k _nm ρ σm hJ hoff hdep
        have e66 := hdep 0 rfl rfl 66 rfl
        have e67 := hdep 1 rfl rfl 67 rfl
        exact dp_v (v := (pt b97 o98)) wn (rv_ix Try.underlying36 ti3 e66 e67 hi96) rfl hJ) ?_
      refine all_cons (by
        refine ⟨?_, ?_⟩
        ·intro _nm ρ σm hJ hoff hdep
         have e78 := hdep 12 rfl rfl 78 rfl
         have e73 := hdep 7 rfl rfl 73 rfl
         obtain ⟨H, m⟩ := id hJ
         refine dp_exS wn rfl (ex_store_own (e' := x82) (vs := [(I x82)]) (k := 0) H (i := 0) rfl ti3 hx95 hi96 e78 rfl e73 rfl rfl (Nat.le_of_ble_eq_true rfl) (by simp [plain]) (by rintro _ rfl; exact rfl)) ?_
         rintro σq ⟨H2, m2⟩
         exact ⟨_, (), rfl, ⟨H2.sel' [0] rfl rfl, m.comp m2⟩, stab [0, 1, 2, 3, 4, 5, 6, 7, 8, 9, 10, 11, 12] (by kernel_rfl) ⟨rfl, rfl, rfl, rfl, rfl, rfl, rfl, rfl, rfl, rfl, rfl, rfl, rfl, trivial⟩⟩
        trivial) ?_
      exact all_nil
     ·intro _nm ρ σ99 hJ hoff hrel
      have e0 := look_off (N := 168) (hoff 0 rfl) rfl
      have e11 := look_off (N := 168) (hoff 11 rfl) rfl
      have e68 := hrel 2 rfl 68 rfl
      have e69 := hrel 3 rfl 69 rfl
      have e77 := hrel 11 rfl 77 rfl
      obtain ⟨H, -⟩ := (show Hp S0 σ0 σ99 [Ch.own 0 0 (Sl adata_0 ((data_0.set a_1.toNat x1).set pivot_3.toNat x7) cdata_0) (((data_0.set a_1.toNat x1).set pivot_3.toNat x7).set o53.toNat x82)] ∧ Md (fun i => (cov []) i ∨ (fun b => blk (Sl adata_0 ((data_0.set a_1.toNat x1).set pivot_3.toNat x7) cdata_0) = some b) i) σ80 σ99 from hJ)
      clear hJ Hs
      rw [fr_lookL (L := [(0, (Sl adata_0 ((data_0.set a_1.toNat x1).set pivot_3.toNat x7) cdata_0)), (11, (I o53)), (68, (Sl adata_0 ((data_0.set a_1.toNat x1).set pivot_3.toNat x7) cdata_0)), (69, (I a_1)), (77, (I x88))]) ⟨e0, e11, e68, e69, e77, trivial⟩]
      clear hoff hrel e0 e11 e68 e69 e77
      have hsl : (Sl adata_0 ((data_0.set a_1.toNat x1).set pivot_3.toNat x7) cdata_0) = (Sl adata_0 (((data_0.set a_1.toNat x1).set pivot_3.toNat x7).set o53.toNat x82) cdata_0) := sl_len (by simp)
      rw [hsl]; rw [hsl] at H; clear hsl
      obtain ⟨x100, hx101, h'⟩ := bind_some h
      clear h
      have h := h'; clear h'
      obtain ⟨b103, o104, hi102, -⟩ := (H.own 0 rfl).ix hx101
      refine st (v := (pt b103 o104)) (rv_ix Try.underlying36 ti3 rfl rfl hi102) ?_
      refine st_exS (ex_store_own (e' := x88) (vs := [(I x88)]) (k := 0) H (i := 0) rfl ti3 hx101 hi102 rfl rfl rfl rfl rfl (Nat.le_of_ble_eq_true rfl) (by simp [plain]) (by rintro _ rfl; exact rfl)) wn ?_
      rintro σ105 ⟨H, -⟩
      have hsl : (Sl adata_0 (((data_0.set a_1.toNat x1).set pivot_3.toNat x7).set o53.toNat x82) cdata_0) = (Sl adata_0 ((((data_0.set a_1.toNat x1).set pivot_3.toNat x7).set o53.toNat x82).set a_1.toNat x88) cdata_0) := sl_len List.length_set.symm
      rw [hsl]; rw [hsl] at H; clear hsl
      refine w_end ?_
      refine q_then ?_
      refine c_seq ?_
      refine rg ?_
      refine st (v := (I o53)) (rv_move rfl) ?_
      refine st (v := (I o53)) (rv_assign rfl) ?_
      refine st (v := (B true)) (rv_assign rfl) ?_
      refine w_end ?_
      refine q_then ?_
      refine c_ret ?_
      refine q_then_r ?_
      obtain rfl := Option.some.inj h
      exact fin_ret (v := (.tuple #[(I o53), (B true)])) (results_ok Try.results125 (res_tmp (v := (I o53)) rfl (res_tmp (v := (B true)) rfl res_nil)) rfl) ⟨rfl, rfl, (List.length_set.trans (List.length_set.trans (List.length_set.trans List.length_set)))⟩ (H.sel' [0] rfl rfl)
    ·replace h := bif_f hb81 h
     refine c_skip ?_
     refine q_then ?_
     refine c_seq ?_
     obtain ⟨x106, hx107, h'⟩ := bind_some h
     clear h
     have h := h'; clear h'
     obtain ⟨b109, o110, hi108, -⟩ := (H.own 0 rfl).ix hx107
     have hc111 := ((H.own 0 rfl).at hx107 hi108).int
     obtain ⟨x112, hx113, h'⟩ := bind_some h
     clear h
     have h := h'; clear h'
     obtain ⟨b115, o116, hi114, -⟩ := (H.own 0 rfl).ix hx113
     have hc117 := ((H.own 0 rfl).at hx113 hi114).int
     obtain ⟨x118, hx119, h'⟩ := bind_some h
     clear h
     have h := h'; clear h'
     obtain ⟨b121, o122, hi120, -⟩ := (H.own 0 rfl).ix hx119
     have Hs := H
     refine rg2 (σ := σ80) (Nm := Unit) 14 [13] [[false], [true]] [[(0, 0)], [(0, 0)], [(0, 0), (1, 1)], [(0, 0), (1, 1)], [(0, 0)], [(0, 0)], [(0, 0)], [(0, 0)], [(0, 0)], [(0, 0)], [(0, 0)], [(0, 0)], [(0, 0)], [(0, 1)]] 1 [fun _ => fun σm => Hp S0 σ0 σm [Ch.own 0 0 (Sl adata_0 ((data_0.set a_1.toNat x1).set pivot_3.toNat x7) cdata_0) ((data_0.set a_1.toNat x1).set pivot_3.toNat x7)] ∧ Md (cov []) σ80 σm, fun _ => fun σm => Hp S0 σ0 σm [Ch.own 0 0 (Sl adata_0 ((data_0.set a_1.toNat x1).set pivot_3.toNat x7) cdata_0) (((data_0.set a_1.toNat x1).set pivot_3.toNat x7).set o25.toNat x106)] ∧ Md (fun i => (cov []) i ∨ (fun b => blk (Sl adata_0 ((data_0.set a_1.toNat x1).set pivot_3.toNat x7) cdata_0) = some b) i) σ80 σm] [fun _ => (Sl adata_0 ((data_0.set a_1.toNat x1).set pivot_3.toNat x7) cdata_0), fun _ => (I o25), fun _ => (Sl adata_0 ((data_0.set a_1.toNat x1).set pivot_3.toNat x7) cdata_0), fun _ => (I o53), fun _ => (Sl adata_0 ((data_0.set a_1.toNat x1).set pivot_3.toNat x7) cdata_0), fun _ => (I o53), fun _ => (pt b109 o110), fun _ => (I x106), fun _ => (Sl adata_0 ((data_0.set a_1.toNat x1).set pivot_3.toNat x7) cdata_0), fun _ => (I o25), fun _ => (pt b115 o116), fun _ => (I x112), fun _ => (pt b121 o122), fun _ => undef] () (by kernel_rfl) (by kernel_rfl) ?_ ?_ ?_
     ·intro σm m0
      exact ⟨H.grow (m0.mono fun _ h => h.elim), m0⟩
     ·refine ac rfl (by
        intro k _nm ρ σm hJ hoff hdep
        have e0 := look_off (N := 168) (hoff 0 rfl) rfl
        exact dp_v (v := (Sl adata_0 ((data_0.set a_1.toNat x1).set pivot_3.toNat x7) cdata_0)) wn (rv_move e0) rfl hJ) ?_
      refine ac rfl (by
        intro k _nm ρ σm hJ hoff hdep
        have e10 := look_off (N := 168) (hoff 10 rfl) rfl
        exact dp_v (v := (I o25)) wn (rv_move e10) rfl hJ) ?_
      refine ac rfl (by
        intro k _nm ρ σm hJ hoff hdep
        have e0 := look_off (N := 168) (hoff 0 rfl) rfl
        exact dp_v (v := (Sl adata_0 ((data_0.set a_1.toNat x1).set pivot_3.toNat x7) cdata_0)) wn (rv_move e0) rfl hJ) ?_
      refine ac rfl (by
        intro k _nm ρ σm hJ hoff hdep
        have e11 := look_off (N := 168) (hoff 11 rfl) rfl
        exact dp_v (v := (I o53)) wn (rv_move e11) rfl hJ) ?_
      refine ac rfl (by
        intro k _nm ρ σm hJ hoff hdep
        have e0 := look_off (N := 168) (hoff 0 rfl) rfl
        exact dp_v (v := (Sl adata_0 ((data_0.set a_1.toNat x1).set pivot_3.toNat x7) cdata_0)) wn (rv_move e0) rfl hJ) ?_
      refine ac rfl (by
        intro k _nm ρ σm hJ hoff hdep
        have e11 := look_off (N := 168) (hoff 11 rfl) rfl
        exact dp_v (v := (I o53)) wn (rv_move e11) rfl hJ) ?_
      refine ac rfl (by
        intro k _nm ρ σm hJ hoff hdep
        have e85 := hdep 4 rfl rfl 85 rfl
        have e86 := hdep 5 rfl rfl 86 rfl
        exact dp_v (v := (pt b109 o110)) wn (rv_ix Try.underlying36 ti3 e85 e86 hi108) rfl hJ) ?_
      refine all_cons (by
        refine ⟨?_, ?_⟩
        ·intro _nm ρ σm hJ hoff hdep
         have e87 := hdep 6 rfl rfl 87 rfl
         obtain ⟨H, m⟩ := id hJ
         have hc111 := ((H.own 0 rfl).at hx107 hi108).int
         exact dp_v (v := (I x106)) wn (rv_load1 Try.underlying3 rfl e87 hc111) rfl hJ
        trivial) ?_
      refine ac rfl (by
        intro k _nm ρ σm hJ hoff hdep
        have e0 := look_off (N := 168) (hoff 0 rfl) rfl
        exact dp_v (v := (Sl adata_0 ((data_0.set a_1.toNat x1).set pivot_3.toNat x7) cdata_0)) wn (rv_move e0) rfl hJ) ?_
      refine ac rfl (by
        intro k _nm ρ σm hJ hoff hdep
        have e10 := look_off (N := 168) (hoff 10 rfl) rfl
        exact dp_v (v := (I o25)) wn (rv_move e10) rfl hJ) ?_
      refine ac rfl (by
        intro k _nm ρ σm hJ hoff hdep
        have e89 := hdep 8 rfl rfl 89 rfl
        have e90 := hdep 9 rfl rfl 90 rfl
        exact dp_v (v := (pt b115 o116)) wn (rv_ix Try.underlying36 ti3 e89 e90 hi114) rfl hJ) ?_
      refine all_cons (by
        refine ⟨?_, ?_⟩
        ·intro _nm ρ σm hJ hoff hdep
         have e91 := hdep 10 rfl rfl 91 rfl
         obtain ⟨H, m⟩ := id hJ
         have hc117 := ((H.own 0 rfl).at hx113 hi114).int
         exact dp_v (v := (I x112)) wn (rv_load1 Try.underlying3 rfl e91 hc117) rfl hJ
        trivial) ?_
      refine ac rfl (by
        intro k _nm ρ σm hJ hoff hdep
        have e81 := hdep 0 rfl rfl 81 rfl
        have e82 := hdep 1 rfl rfl 82 rfl
        exact dp_v (v := (pt b121 o122)) wn (rv_ix Try.underlying36 ti3 e81 e82 hi120) rfl hJ) ?_
      refine all_cons (by
        refine ⟨?_, ?_⟩
        ·intro _nm ρ σm hJ hoff hdep
         have e93 := hdep 12 rfl rfl 93 rfl
         have e88 := hdep 7 rfl rfl 88 rfl
         obtain ⟨H, m⟩ := id hJ
         refine dp_exS wn rfl (ex_store_own (e' := x106) (vs := [(I x106)]) (k := 0) H (i := 0) rfl ti3 hx119 hi120 e93 rfl e88 rfl rfl (Nat.le_of_ble_eq_true rfl) (by simp [plain]) (by rintro _ rfl; exact rfl)) ?_
         rintro σq ⟨H2, m2⟩
         exact ⟨_, (), rfl, ⟨H2.sel' [0] rfl rfl, m.comp m2⟩, stab [0, 1, 2, 3, 4, 5, 6, 7, 8, 9, 10, 11, 12] (by kernel_rfl) ⟨rfl, rfl, rfl, rfl, rfl, rfl, rfl, rfl, rfl, rfl, rfl, rfl, rfl, trivial⟩⟩
        trivial) ?_
      exact all_nil
     ·intro _nm ρ σ123 hJ hoff hrel
      have e0 := look_off (N := 168) (hoff 0 rfl) rfl
      have e1 := look_off (N := 168) (hoff 1 rfl) rfl
      have e10 := look_off (N := 168) (hoff 10 rfl) rfl
      have e11 := look_off (N := 168) (hoff 11 rfl) rfl
      have e83 := hrel 2 rfl 83 rfl
      have e84 := hrel 3 rfl 84 rfl
      have e92 := hrel 11 rfl 92 rfl
      obtain ⟨H, -⟩ := (show Hp S0 σ0 σ123 [Ch.own 0 0 (Sl adata_0 ((data_0.set a_1.toNat x1).set pivot_3.toNat x7) cdata_0) (((data_0.set a_1.toNat x1).set pivot_3.toNat x7).set o25.toNat x106)] ∧ Md (fun i => (cov []) i ∨ (fun b => blk (Sl adata_0 ((data_0.set a_1.toNat x1).set pivot_3.toNat x7) cdata_0) = some b) i) σ80 σ123 from hJ)
      clear hJ Hs
      rw [fr_lookL (L := [(0, (Sl adata_0 ((data_0.set a_1.toNat x1).set pivot_3.toNat x7) cdata_0)), (1, (I a_1)), (10, (I o25)), (11, (I o53)), (83, (Sl adata_0 ((data_0.set a_1.toNat x1).set pivot_3.toNat x7) cdata_0)), (84, (I o53)), (92, (I x112))]) ⟨e0, e1, e10, e11, e83, e84, e92, trivial⟩]
      clear hoff hrel e0 e1 e10 e11 e83 e84 e92
      have hsl : (Sl adata_0 ((data_0.set a_1.toNat x1).set pivot_3.toNat x7) cdata_0) = (Sl adata_0 (((data_0.set a_1.toNat x1).set pivot_3.toNat x7).set o25.toNat x106) cdata_0) := sl_len (by simp)
      rw [hsl]; rw [hsl] at H; clear hsl
      obtain ⟨x124, hx125, h'⟩ := bind_some h
      clear h
      have h := h'; clear h'
      obtain ⟨b127, o128, hi126, -⟩ := (H.own 0 rfl).ix hx125
      refine st (v := (pt b127 o128)) (rv_ix Try.underlying36 ti3 rfl rfl hi126) ?_
      refine st_exS (ex_store_own (e' := x112) (vs := [(I x112)]) (k := 0) H (i := 0) rfl ti3 hx125 hi126 rfl rfl rfl rfl rfl (Nat.le_of_ble_eq_true rfl) (by simp [plain]) (by rintro _ rfl; exact rfl)) wn ?_
      rintro σ129 ⟨H, -⟩
      have hsl : (Sl adata_0 (((data_0.set a_1.toNat x1).set pivot_3.toNat x7).set o25.toNat x106) cdata_0) = (Sl adata_0 ((((data_0.set a_1.toNat x1).set pivot_3.toNat x7).set o25.toNat x106).set o53.toNat x112) cdata_0) := sl_len List.length_set.symm
      rw [hsl]; rw [hsl] at H; clear hsl
      refine w_end ?_
      refine q_then ?_
      refine c_seq ?_
      refine rg ?_
      refine st (v := (I o25)) (rv_move rfl) ?_
      refine st (v := (I (w64 (o25 + 1)))) (rv_add (a := o25) (b := 1) rfl rfl) ?_
      refine st (v := (I (w64 (o25 + 1)))) (rv_assign rfl) ?_
      refine w_end ?_
      refine q_then ?_
      refine c_seq ?_
      refine rg ?_
      refine st (v := (I o53)) (rv_move rfl) ?_
      refine st (v := (I (w64 (o53 - 1)))) (rv_sub (a := o53) (b := 1) rfl rfl) ?_
      refine st (v := (I (w64 (o53 - 1)))) (rv_assign rfl) ?_
      refine w_end ?_
      refine q_then ?_
      refine c_seq ?_
      obtain ⟨o130, hj, h'⟩ := bind_some h
      clear h
      refine c_cut (fun e a w => e = .normal ∧ ∃ (ρ : Nat → Value) (σ : St), a = fr 168 (updL ρ [(0, (Sl adata_0 o130.1 cdata_0)), (1, (I a_1)), (11, (I o130.2))]) ∧ w = σ.w ∧ Hp S0 σ0 σ [Ch.own 0 0 (Sl adata_0 o130.1 cdata_0) o130.1] ∧ o130.1.length = ((((data_0.set a_1.toNat x1).set pivot_3.toNat x7).set o25.toNat x106).set o53.toNat x112).length) ?_ ?_
      ·clear h'
       rename _ = some o130 => h
       refine c_blk ?_
       refine wp_loopM _ h (fun s131 a w => ∃ (ρ : Nat → Value) (σ : St), a = fr 168 (updL ρ [(0, (Sl adata_0 s131.1 cdata_0)), (1, (I a_1)), (10, (I s131.2.1)), (11, (I s131.2.2))]) ∧ w = σ.w ∧ Hp S0 σ0 σ [Ch.own 0 0 (Sl adata_0 s131.1 cdata_0) s131.1] ∧ s131.1.length = ((((data_0.set a_1.toNat x1).set pivot_3.toNat x7).set o25.toNat x106).set o53.toNat x112).length) ⟨_, σ129, fr_join ⟨rfl, rfl, rfl, rfl, trivial⟩, rfl, H.sel' [0] rfl rfl, rfl⟩ ?_
       clear h H
       rintro s131 a w o ⟨ρ, σ132, rfl, rfl, H, hn133⟩ h hres
       refine c_blk ?_
       refine c_seq ?_
       obtain ⟨o134, hj, h'⟩ := bind_some h
       clear h
       refine c_cut (fun e a w => e = .normal ∧ ∃ (ρ : Nat → Value) (σ : St), a = fr 168 (updL ρ [(0, (Sl adata_0 s131.1 cdata_0)), (1, (I a_1)), (10, (I o134)), (11, (I s131.2.2))]) ∧ w = σ.w ∧ Hp S0 σ0 σ [Ch.own 0 0 (Sl adata_0 s131.1 cdata_0) s131.1]) ?_ ?_
       ·clear h'
        rename _ = some o134 => h
        refine c_blk ?_
        refine wp_loopM _ h (fun s135 a w => ∃ (ρ : Nat → Value) (σ : St), a = fr 168 (updL ρ [(0, (Sl adata_0 s131.1 cdata_0)), (1, (I a_1)), (10, (I s135)), (11, (I s131.2.2))]) ∧ w = σ.w ∧ Hp S0 σ0 σ [Ch.own 0 0 (Sl adata_0 s131.1 cdata_0) s131.1]) ⟨_, σ132, fr_join ⟨rfl, rfl, rfl, rfl, trivial⟩, rfl, H.sel' [0] rfl rfl⟩ ?_
        clear h H
        rintro s135 a w o ⟨ρ, σ136, rfl, rfl, H⟩ h hres
        refine c_seq ?_
        refine c_seq ?_
        obtain ⟨o137, hj, h'⟩ := bind_some h
        clear h
        refine c_cut (fun e a w => e = .normal ∧ ∃ (ρ : Nat → Value) (σ : St), a = fr 168 (updL ρ [(0, (Sl adata_0 s131.1 cdata_0)), (1, (I a_1)), (10, (I s135)), (11, (I s131.2.2)), (112, (B o137))]) ∧ w = σ.w ∧ Hp S0 σ0 σ [Ch.own 0 0 (Sl adata_0 s131.1 cdata_0) s131.1]) ?_ ?_
        ·clear h'
         rename _ = some o137 => h
         refine rgP (σ := σ136) 12 (by kernel_rfl) (by kernel_rfl) (by kernel_rfl) ?_
         refine sq (v := (I s135)) (rv_move rfl) ?_
         refine sq (v := (I s131.2.2)) (rv_move rfl) ?_
         refine sq (v := (B (decide (s135 ≤ s131.2.2)))) (rv_leq (a := s135) (b := s131.2.2) rfl rfl) ?_
         refine sq (v := (B (decide (s135 ≤ s131.2.2)))) (rv_move rfl) ?_
         rcases Bool.eq_false_or_eq_true (decide (s135 ≤ s131.2.2)) with hb138 | hb138
         ·replace h := bif_t hb138 h
          refine sq_g (v := (Sl adata_0 s131.1 cdata_0)) (congrArg some hb138) (rv_move rfl) ?_
          refine sq_g (v := (I s135)) (congrArg some hb138) (rv_move rfl) ?_
          obtain ⟨x139, hx140, h'⟩ := bind_some h
          clear h
          have h := h'; clear h'
          obtain ⟨b142, o143, hi141, -⟩ := (H.own 0 rfl).ix hx140
          refine sq_g (v := (pt b142 o143)) (congrArg some hb138) (rv_ix Try.underlying36 ti3 rfl rfl hi141) ?_
          have hc144 := ((H.own 0 rfl).at hx140 hi141).int
          refine sq_g (v := (I x139)) (congrArg some hb138) (rv_load1 Try.underlying3 rfl rfl hc144) ?_
          refine sq_g (v := (Sl adata_0 s131.1 cdata_0)) (congrArg some hb138) (rv_move rfl) ?_
          refine sq_g (v := (I a_1)) (congrArg some hb138) (rv_move rfl) ?_
          obtain ⟨x145, hx146, h'⟩ := bind_some h
          clear h
          have h := h'; clear h'
          obtain ⟨b148, o149, hi147, -⟩ := (H.own 0 rfl).ix hx146
          refine sq_g (v := (pt b148 o149)) (congrArg some hb138) (rv_ix Try.underlying36 ti3 rfl rfl hi147) ?_
          have hc150 := ((H.own 0 rfl).at hx146 hi147).int
          refine sq_g (v := (I x145)) (congrArg some hb138) (rv_load1 Try.underlying3 rfl rfl hc150) ?_
          refine sq_end ?_
          intro σ151 hm152
          replace H := H.grow (hm152.mono fun _ h => h); clear hm152
          obtain ⟨r153, hx154, h'⟩ := bind_some h
          clear h
          have h := h'; clear h'
          have hc155 := c_cmp_Less_int hx154
          refine st_call (cx_call hc155 (ent_f hc155.fn rfl) hn0 (show Hp S0 σ0 _ ([] ++ [Ch.own 0 0 (Sl adata_0 s131.1 cdata_0) s131.1]) from (H.sel' [0] rfl rfl))) (wanted_yes rfl (by exact (congrArg some hb138))) ?_
          rintro _ σ156 ⟨_, ⟨rfl, rfl⟩, H, -⟩
          replace H : Hp S0 σ0 σ156 [Ch.own 0 0 (Sl adata_0 s131.1 cdata_0) s131.1] := H
          refine st (v := (B r153)) (rv_pick_t (congrArg B hb138) rfl) ?_
          refine w_end ?_
          obtain rfl := Option.some.inj h
          exact ⟨rfl, _, σ156, fr_join ⟨rfl, rfl, rfl, rfl, rfl, trivial⟩, rfl, H.sel' [0] rfl rfl⟩
         ·replace h := bif_f hb138 h
          refine sq_skip (congrArg some hb138) ?_
          refine sq_skip (congrArg some hb138) ?_
          refine sq_skip (congrArg some hb138) ?_
          refine sq_skip (congrArg some hb138) ?_
          refine sq_skip (congrArg some hb138) ?_
          refine sq_skip (congrArg some hb138) ?_
          refine sq_skip (congrArg some hb138) ?_
          refine sq_skip (congrArg some hb138) ?_
          refine sq_end ?_
          intro σ157 hm158
          replace H := H.grow (hm158.mono fun _ h => h); clear hm158
          refine st_skip (congrArg some hb138) ?_
          refine st (v := (B false)) (rv_pick_f (congrArg B hb138) rfl) ?_
          refine w_end ?_
          obtain rfl := Option.some.inj h
          exact ⟨rfl, _, σ157, fr_join ⟨rfl, rfl, rfl, rfl, rfl, trivial⟩, rfl, H.sel' [0] rfl rfl⟩
        ·clear hj
         have h := h'
         clear h' H
         rintro e a w ⟨rfl, ρ, σ159, rfl, rfl, H⟩
         refine q_then ?_
         refine cd_cond o137 rfl (fun hb160 => ?_) (fun hb160 => ?_)
         ·replace h := bif_t hb160 h
          refine c_skip ?_
          refine q_then ?_
          refine c_blk ?_
          refine rg ?_
          refine st (v := (I s135)) (rv_move rfl) ?_
          refine st (v := (I (w64 (s135 + 1)))) (rv_add (a := s135) (b := 1) rfl rfl) ?_
          refine st (v := (I (w64 (s135 + 1)))) (rv_assign rfl) ?_
          refine w_end ?_
          refine q_blk ?_
          refine q_then ?_
          obtain rfl := Option.some.inj h
          exact ⟨_, rfl, _, σ159, fr_join ⟨rfl, rfl, rfl, rfl, trivial⟩, rfl, H.sel' [0] rfl rfl⟩
         ·replace h := bif_f hb160 h
          refine c_exit ?_
          refine q_then_x ?_
          refine q_then_x ?_
          refine q_blk_hit ?_
          obtain rfl := Option.some.inj h
          obtain rfl := hres _ rfl
          exact ⟨rfl, _, σ159, fr_join ⟨rfl, rfl, rfl, rfl, trivial⟩, rfl, H.sel' [0] rfl rfl⟩
       ·clear hj
        have h := h'
        clear h' H
        rintro e a w ⟨rfl, ρ, σ161, rfl, rfl, H⟩
        refine q_then ?_
        refine c_seq ?_
        obtain ⟨o162, hj, h'⟩ := bind_some h
        clear h
        refine c_cut (fun e a w => e = .normal ∧ ∃ (ρ : Nat → Value) (σ : St), a = fr 168 (updL ρ [(0, (Sl adata_0 s131.1 cdata_0)), (1, (I a_1)), (10, (I o134)), (11, (I o162))]) ∧ w = σ.w ∧ Hp S0 σ0 σ [Ch.own 0 0 (Sl adata_0 s131.1 cdata_0) s131.1]) ?_ ?_
        ·clear h'
         rename _ = some o162 => h
         refine c_blk ?_
         refine wp_loopM _ h (fun s163 a w => ∃ (ρ : Nat → Value) (σ : St), a = fr 168 (updL ρ [(0, (Sl adata_0 s131.1 cdata_0)), (1, (I a_1)), (10, (I o134)), (11, (I s163))]) ∧ w = σ.w ∧ Hp S0 σ0 σ [Ch.own 0 0 (Sl adata_0 s131.1 cdata_0) s131.1]) ⟨_, σ161, fr_join ⟨rfl, rfl, rfl, rfl, trivial⟩, rfl, H.sel' [0] rfl rfl⟩ ?_
         clear h H
         rintro s163 a w o ⟨ρ, σ164, rfl, rfl, H⟩ h hres
         refine c_seq ?_
         refine c_seq ?_
         obtain ⟨o165, hj, h'⟩ := bind_some h
         clear h
         refine c_cut (fun e a w => e = .normal ∧ ∃ (ρ : Nat → Value) (σ : St), a = fr 168 (updL ρ [(0, (Sl adata_0 s131.1 cdata_0)), (1, (I a_1)), (10, (I o134)), (11, (I s163)), (129, (B o165))]) ∧ w = σ.w ∧ Hp S0 σ0 σ [Ch.own 0 0 (Sl adata_0 s131.1 cdata_0) s131.1]) ?_ ?_
         ·clear h'
          rename _ = some o165 => h
          refine rgP (σ := σ164) 12 (by kernel_rfl) (by kernel_rfl) (by kernel_rfl) ?_
          refine sq (v := (I o134)) (rv_move rfl) ?_
          refine sq (v := (I s163)) (rv_move rfl) ?_
          refine sq (v := (B (decide (o134 ≤ s163)))) (rv_leq (a := o134) (b := s163) rfl rfl) ?_
          refine sq (v := (B (decide (o134 ≤ s163)))) (rv_move rfl) ?_
          rcases Bool.eq_false_or_eq_true (decide (o134 ≤ s163)) with hb166 | hb166
          ·replace h := bif_t hb166 h
           refine sq_g (v := (Sl adata_0 s131.1 cdata_0)) (congrArg some hb166) (rv_move rfl) ?_
           refine sq_g (v := (I s163)) (congrArg some hb166) (rv_move rfl) ?_
           obtain ⟨x167, hx168, h'⟩ := bind_some h
           clear h
           have h := h'; clear h'
           obtain ⟨b170, o171, hi169, -⟩ := (H.own 0 rfl).ix hx168
           refine sq_g (v := (pt b170 o171)) (congrArg some hb166) (rv_ix Try.underlying36 ti3 rfl rfl hi169) ?_
           have hc172 := ((H.own 0 rfl).at hx168 hi169).int
           refine sq_g (v := (I x167)) (congrArg some hb166) (rv_load1 Try.underlying3 rfl rfl hc172) ?_
           refine sq_g (v := (Sl adata_0 s131.1 cdata_0)) (congrArg some hb166) (rv_move rfl) ?_
           refine sq_g (v := (I a_1)) (congrArg some hb166) (rv_move rfl) ?_
           obtain ⟨x173, hx174, h'⟩ := bind_some h
           clear h
           have h := h'; clear h'
           obtain ⟨b176, o177, hi175, -⟩ := (H.own 0 rfl).ix hx174
           refine sq_g (v := (pt b176 o177)) (congrArg some hb166) (rv_ix Try.underlying36 ti3 rfl rfl hi175) ?_
           have hc178 := ((H.own 0 rfl).at hx174 hi175).int
           refine sq_g (v := (I x173)) (congrArg some hb166) (rv_load1 Try.underlying3 rfl rfl hc178) ?_
           refine sq_end ?_
           intro σ179 hm180
           replace H := H.grow (hm180.mono fun _ h => h); clear hm180
           obtain ⟨r181, hx182, h'⟩ := bind_some h
           clear h
           have h := h'; clear h'
           have hc183 := c_cmp_Less_int hx182
           refine st_call (cx_call hc183 (ent_f hc183.fn rfl) hn0 (show Hp S0 σ0 _ ([] ++ [Ch.own 0 0 (Sl adata_0 s131.1 cdata_0) s131.1]) from (H.sel' [0] rfl rfl))) (wanted_yes rfl (by exact (congrArg some hb166))) ?_
           rintro _ σ184 ⟨_, ⟨rfl, rfl⟩, H, -⟩
           replace H : Hp S0 σ0 σ184 [Ch.own 0 0 (Sl adata_0 s131.1 cdata_0) s131.1] := H
           refine st_g (v := (B (!r181))) (congrArg some hb166) (rv_not rfl) ?_
           refine st (v := (B (!r181))) (rv_pick_t (congrArg B hb166) rfl) ?_
           refine w_end ?_
           obtain rfl := Option.some.inj h
           exact ⟨rfl, _, σ184, fr_join ⟨rfl, rfl, rfl, rfl, rfl, trivial⟩, rfl, H.sel' [0] rfl rfl⟩
          ·replace h := bif_f hb166 h
           refine sq_skip (congrArg some hb166) ?_
           refine sq_skip (congrArg some hb166) ?_
           refine sq_skip (congrArg some hb166) ?_
           refine sq_skip (congrArg some hb166) ?_
           refine sq_skip (congrArg some hb166) ?_
           refine sq_skip (congrArg some hb166) ?_
           refine sq_skip (congrArg some hb166) ?_
           refine sq_skip (congrArg some hb166) ?_
           refine sq_end ?_
           intro σ185 hm186
           replace H := H.grow (hm186.mono fun _ h => h); clear hm186
           refine st_skip (congrArg some hb166) ?_
           refine st_skip (congrArg some hb166) ?_
           refine st (v := (B false)) (rv_pick_f (congrArg B hb166) rfl) ?_
           refine w_end ?_
           obtain rfl := Option.some.inj h
           exact ⟨rfl, _, σ185, fr_join ⟨rfl, rfl, rfl, rfl, rfl, trivial⟩, rfl, H.sel' [0] rfl rfl⟩
         ·clear hj
          have h := h'
          clear h' H
          rintro e a w ⟨rfl, ρ, σ187, rfl, rfl, H⟩
          refine q_then ?_
          refine cd_cond o165 rfl (fun hb188 => ?_) (fun hb188 => ?_)
          ·replace h := bif_t hb188 h
           refine c_skip ?_
           refine q_then ?_
           refine c_blk ?_
           refine rg ?_
           refine st (v := (I s163)) (rv_move rfl) ?_
           refine st (v := (I (w64 (s163 - 1)))) (rv_sub (a := s163) (b := 1) rfl rfl) ?_
           refine st (v := (I (w64 (s163 - 1)))) (rv_assign rfl) ?_
           refine w_end ?_
           refine q_blk ?_
           refine q_then ?_
           obtain rfl := Option.some.inj h
           exact ⟨_, rfl, _, σ187, fr_join ⟨rfl, rfl, rfl, rfl, trivial⟩, rfl, H.sel' [0] rfl rfl⟩
          ·replace h := bif_f hb188 h
           refine c_exit ?_
           refine q_then_x ?_
           refine q_then_x ?_
           refine q_blk_hit ?_
           obtain rfl := Option.some.inj h
           obtain rfl := hres _ rfl
           exact ⟨rfl, _, σ187, fr_join ⟨rfl, rfl, rfl, rfl, trivial⟩, rfl, H.sel' [0] rfl rfl⟩
        ·clear hj
         have h := h'
         clear h' H
         rintro e a w ⟨rfl, ρ, σ189, rfl, rfl, H⟩
         refine q_then ?_
         refine c_seq ?_
         refine c_seq ?_
         refine rg ?_
         refine st (v := (I o134)) (rv_move rfl) ?_
         refine st (v := (I o162)) (rv_move rfl) ?_
         refine st (v := (B (decide (o162 < o134)))) (rv_gtr (a := o134) (b := o162) rfl rfl) ?_
         refine w_end ?_
         refine q_then ?_
         refine cd_cond (decide (o162 < o134)) rfl (fun hb190 => ?_) (fun hb190 => ?_)
         ·replace h := bif_t hb190 h
          refine c_exit ?_
          refine q_then_x ?_
          refine q_blk_x (by decide) ?_
          refine q_then_x ?_
          refine q_blk_hit ?_
          obtain rfl := Option.some.inj h
          obtain rfl := hres _ rfl
          exact ⟨rfl, _, σ189, fr_join ⟨rfl, rfl, rfl, trivial⟩, rfl, H.sel' [0] rfl rfl, ((hn133.trans (List.length_set.trans (List.length_set.trans (List.length_set.trans List.length_set)))).trans (List.length_set.trans (List.length_set.trans (List.length_set.trans List.length_set))).symm)⟩
         ·replace h := bif_f hb190 h
          refine c_skip ?_
          refine q_then ?_
          refine c_seq ?_
          obtain ⟨x191, hx192, h'⟩ := bind_some h
          clear h
          have h := h'; clear h'
          obtain ⟨b194, o195, hi193, -⟩ := (H.own 0 rfl).ix hx192
          have hc196 := ((H.own 0 rfl).at hx192 hi193).int
          obtain ⟨x197, hx198, h'⟩ := bind_some h
          clear h
          have h := h'; clear h'
          obtain ⟨b200, o201, hi199, -⟩ := (H.own 0 rfl).ix hx198
          have hc202 := ((H.own 0 rfl).at hx198 hi199).int
          obtain ⟨x203, hx204, h'⟩ := bind_some h
          clear h
          have h := h'; clear h'
          obtain ⟨b206, o207, hi205, -⟩ := (H.own 0 rfl).ix hx204
          have Hs := H
          refine rg2 (σ := σ189) (Nm := Unit) 14 [13] [[false], [true]] [[(0, 0)], [(0, 0)], [(0, 0), (1, 1)], [(0, 0), (1, 1)], [(0, 0)], [(0, 0)], [(0, 0)], [(0, 0)], [(0, 0)], [(0, 0)], [(0, 0)], [(0, 0)], [(0, 0)], [(0, 1)]] 1 [fun _ => fun σm => Hp S0 σ0 σm [Ch.own 0 0 (Sl adata_0 s131.1 cdata_0) s131.1] ∧ Md (cov []) σ189 σm, fun _ => fun σm => Hp S0 σ0 σm [Ch.own 0 0 (Sl adata_0 s131.1 cdata_0) (s131.1.set o134.toNat x191)] ∧ Md (fun i => (cov []) i ∨ (fun b => blk (Sl adata_0 s131.1 cdata_0) = some b) i) σ189 σm] [fun _ => (Sl adata_0 s131.1 cdata_0), fun _ => (I o134), fun _ => (Sl adata_0 s131.1 cdata_0), fun _ => (I o162), fun _ => (Sl adata_0 s131.1 cdata_0), fun _ => (I o162), fun _ => (pt b194 o195), fun _ => (I x191), fun _ => (Sl adata_0 s131.1 cdata_0), fun _ => (I o134), fun _ => (pt b200 o201), fun _ => (I x197), fun _ => (pt b206 o207), fun _ => undef] () (by kernel_rfl) (by kernel_rfl) ?_ ?_ ?_
          ·intro σm m0
           exact ⟨H.grow (m0.mono fun _ h => h.elim), m0⟩
          ·refine ac rfl (by
             intro k _nm ρ σm hJ hoff hdep
             have e0 := look_off (N := 168) (hoff 0 rfl) rfl
             exact dp_v (v := (Sl adata_0 s131.1 cdata_0)) wn (rv_move e0) rfl hJ) ?_
           refine ac rfl (by
             intro k _nm ρ σm hJ hoff hdep
             have e10 := look_off (N := 168) (hoff 10 rfl) rfl
             exact dp_v (v := (I o134)) wn (rv_move e10) rfl hJ) ?_
           refine ac rfl (by
             intro k _nm ρ σm hJ hoff hdep
             have e0 := look_off (N := 168) (hoff 0 rfl) rfl
             exact dp_v (v := (Sl adata_0 s131.1 cdata_0)) wn (rv_move e0) rfl hJ) ?_
           refine ac rfl (by
             intro k _nm ρ σm hJ hoff hdep
             have e11 := look_off (N := 168) (hoff 11 rfl) rfl
             exact dp_v (v := (I o162)) wn (rv_move e11) rfl hJ) ?_
           refine ac rfl (by
             intro k _nm ρ σm hJ hoff hdep
             have e0 := look_off (N := 168) (hoff 0 rfl) rfl
             exact dp_v (v := (Sl adata_0 s131.1 cdata_0)) wn (rv_move e0) rfl hJ) ?_
           refine ac rfl (by
             intro k _nm ρ σm hJ hoff hdep
             have e11 := look_off (N := 168) (hoff 11 rfl) rfl
             exact dp_v (v := (I o162)) wn (rv_move e11) rfl hJ) ?_
           refine ac rfl (by
             intro k _nm ρ σm hJ hoff hdep
             have e139 := hdep 4 rfl rfl 139 rfl
             have e140 := hdep 5 rfl rfl 140 rfl
             exact dp_v (v := (pt b194 o195)) wn (rv_ix Try.underlying36 ti3 e139 e140 hi193) rfl hJ) ?_
           refine all_cons (by
             refine ⟨?_, ?_⟩
             ·intro _nm ρ σm hJ hoff hdep
              have e141 := hdep 6 rfl rfl 141 rfl
              obtain ⟨H, m⟩ := id hJ
              have hc196 := ((H.own 0 rfl).at hx192 hi193).int
              exact dp_v (v := (I x191)) wn (rv_load1 Try.underlying3 rfl e141 hc196) rfl hJ
             trivial) ?_
           refine ac rfl (by
             intro k _nm ρ σm hJ hoff hdep
             have e0 := look_off (N := 168) (hoff 0 rfl) rfl
             exact dp_v (v := (Sl adata_0 s131.1 cdata_0)) wn (rv_move e0) rfl hJ) ?_
           refine ac rfl (by
             intro k _nm ρ σm hJ hoff hdep
             have e10 := look_off (N := 168) (hoff 10 rfl) rfl
             exact dp_v (v := (I o134)) wn (rv_move e10) rfl hJ) ?_
           refine ac rfl (by
             intro k _nm ρ σm hJ hoff hdep
             have e143 := hdep 8 rfl rfl 143 rfl
             have e144 := hdep 9 rfl rfl 144 rfl
             exact dp_v (v := (pt b200 o201)) wn (rv_ix Try.underlying36 ti3 e143 e144 hi199) rfl hJ) ?_
           refine all_cons (by
             refine ⟨?_, ?_⟩
             ·intro _nm ρ σm hJ hoff hdep
              have e145 := hdep 10 rfl rfl 145 rfl
              obtain ⟨H, m⟩ := id hJ
              have hc202 := ((H.own 0 rfl).at hx198 hi199).int
              exact dp_v (v := (I x197)) wn (rv_load1 Try.underlying3 rfl e145 hc202) rfl hJ
             trivial) ?_
           refine ac rfl (by
             intro k _nm ρ σm hJ hoff hdep
             have e135 := hdep 0 rfl rfl 135 rfl
             have e136 := hdep 1 rfl rfl 136 rfl
             exact dp_v (v := (pt b206 o207)) wn (rv_ix Try.underlying36 ti3 e135 e136 hi205) rfl hJ) ?_
           refine all_cons (by
             refine ⟨?_, ?_⟩
             ·intro _nm ρ σm hJ hoff hdep
              have e147 := hdep 12 rfl rfl 147 rfl
              have e142 := hdep 7 rfl rfl 142 rfl
              obtain ⟨H, m⟩ := id hJ
              refine dp_exS wn rfl (ex_store_own (e' := x191) (vs := [(I x191)]) (k := 0) H (i := 0) rfl ti3 hx204 hi205 e147 rfl e142 rfl rfl (Nat.le_of_ble_eq_true rfl) (by simp [plain]) (by rintro _ rfl; exact rfl)) ?_
              rintro σq ⟨H2, m2⟩
              exact ⟨_, (), rfl, ⟨H2.sel' [0] rfl rfl, m.comp m2⟩, stab [0, 1, 2, 3, 4, 5, 6, 7, 8, 9, 10, 11, 12] (by kernel_rfl) ⟨rfl, rfl, rfl, rfl, rfl, rfl, rfl, rfl, rfl, rfl, rfl, rfl, rfl, trivial⟩⟩
             trivial) ?_
           exact all_nil
          ·intro _nm ρ σ208 hJ hoff hrel
           have e0 := look_off (N := 168) (hoff 0 rfl) rfl
           have e1 := look_off (N := 168) (hoff 1 rfl) rfl
           have e10 := look_off (N := 168) (hoff 10 rfl) rfl
           have e11 := look_off (N := 168) (hoff 11 rfl) rfl
           have e137 := hrel 2 rfl 137 rfl
           have e138 := hrel 3 rfl 138 rfl
           have e146 := hrel 11 rfl 146 rfl
           obtain ⟨H, -⟩ := (show Hp S0 σ0 σ208 [Ch.own 0 0 (Sl adata_0 s131.1 cdata_0) (s131.1.set o134.toNat x191)] ∧ Md (fun i => (cov []) i ∨ (fun b => blk (Sl adata_0 s131.1 cdata_0) = some b) i) σ189 σ208 from hJ)
           clear hJ Hs
           rw [fr_lookL (L := [(0, (Sl adata_0 s131.1 cdata_0)), (1, (I a_1)), (10, (I o134)), (11, (I o162)), (137, (Sl adata_0 s131.1 cdata_0)), (138, (I o162)), (146, (I x197))]) ⟨e0, e1, e10, e11, e137, e138, e146, trivial⟩]
           clear hoff hrel e0 e1 e10 e11 e137 e138 e146
           have hsl : (Sl adata_0 s131.1 cdata_0) = (Sl adata_0 (s131.1.set o134.toNat x191) cdata_0) := sl_len (by simp)
           rw [hsl]; rw [hsl] at H; clear hsl
           obtain ⟨x209, hx210, h'⟩ := bind_some h
           clear h
           have h := h'; clear h'
           obtain ⟨b212, o213, hi211, -⟩ := (H.own 0 rfl).ix hx210
           refine st (v := (pt b212 o213)) (rv_ix Try.underlying36 ti3 rfl rfl hi211) ?_
           refine st_exS (ex_store_own (e' := x197) (vs := [(I x197)]) (k := 0) H (i := 0) rfl ti3 hx210 hi211 rfl rfl rfl rfl rfl (Nat.le_of_ble_eq_true rfl) (by simp [plain]) (by rintro _ rfl; exact rfl)) wn ?_
           rintro σ214 ⟨H, -⟩
           have hsl : (Sl adata_0 (s131.1.set o134.toNat x191) cdata_0) = (Sl adata_0 ((s131.1.set o134.toNat x191).set o162.toNat x197) cdata_0) := sl_len List.length_set.symm
           rw [hsl]; rw [hsl] at H; clear hsl
           refine w_end ?_
           refine q_then ?_
           refine c_seq ?_
           refine rg ?_
           refine st (v := (I o134)) (rv_move rfl) ?_
           refine st (v := (I (w64 (o134 + 1)))) (rv_add (a := o134) (b := 1) rfl rfl) ?_
           refine st (v := (I (w64 (o134 + 1)))) (rv_assign rfl) ?_
           refine w_end ?_
           refine q_then ?_
           refine rg ?_
           refine st (v := (I o162)) (rv_move rfl) ?_
           refine st (v := (I (w64 (o162 - 1)))) (rv_sub (a := o162) (b := 1) rfl rfl) ?_
           refine st (v := (I (w64 (o162 - 1)))) (rv_assign rfl) ?_
           refine w_end ?_
           refine q_blk ?_
           refine q_then ?_
           obtain rfl := Option.some.inj h
           exact ⟨_, rfl, _, σ214, fr_join ⟨rfl, rfl, rfl, rfl, trivial⟩, rfl, H.sel' [0] rfl rfl, ((List.length_set.trans (List.length_set.trans (hn133.trans (List.length_set.trans (List.length_set.trans (List.length_set.trans List.length_set)))))).trans (List.length_set.trans (List.length_set.trans (List.length_set.trans List.length_set))).symm)⟩
      ·clear hj
       have h := h'
       clear h' H
       rintro e a w ⟨rfl, ρ, σ215, rfl, rfl, H, hn216⟩
       refine q_then ?_
       refine c_seq ?_
       obtain ⟨x217, hx218, h'⟩ := bind_some h
       clear h
       have h := h'; clear h'
       obtain ⟨b220, o221, hi219, -⟩ := (H.own 0 rfl).ix hx218
       have hc222 := ((H.own 0 rfl).at hx218 hi219).int
       obtain ⟨x223, hx224, h'⟩ := bind_some h
       clear h
       have h := h'; clear h'
       obtain ⟨b226, o227, hi225, -⟩ := (H.own 0 rfl).ix hx224
       have hc228 := ((H.own 0 rfl).at hx224 hi225).int
       obtain ⟨x229, hx230, h'⟩ := bind_some h
       clear h
       have h := h'; clear h'
       obtain ⟨b232, o233, hi231, -⟩ := (H.own 0 rfl).ix hx230
       have Hs := H
       refine rg2 (σ := σ215) (Nm := Unit) 14 [13] [[false], [true]] [[(0, 0)], [(0, 0)], [(0, 0), (1, 1)], [(0, 0), (1, 1)], [(0, 0)], [(0, 0)], [(0, 0)], [(0, 0)], [(0, 0)], [(0, 0)], [(0, 0)], [(0, 0)], [(0, 0)], [(0, 1)]] 1 [fun _ => fun σm => Hp S0 σ0 σm [Ch.own 0 0 (Sl adata_0 o130.1 cdata_0) o130.1] ∧ Md (cov []) σ215 σm, fun _ => fun σm => Hp S0 σ0 σm [Ch.own 0 0 (Sl adata_0 o130.1 cdata_0) (o130.1.set o130.2.toNat x217)] ∧ Md (fun i => (cov []) i ∨ (fun b => blk (Sl adata_0 o130.1 cdata_0) = some b) i) σ215 σm] [fun _ => (Sl adata_0 o130.1 cdata_0), fun _ => (I o130.2), fun _ => (Sl adata_0 o130.1 cdata_0), fun _ => (I a_1), fun _ => (Sl adata_0 o130.1 cdata_0), fun _ => (I a_1), fun _ => (pt b220 o221), fun _ => (I x217), fun _ => (Sl adata_0 o130.1 cdata_0), fun _ => (I o130.2), fun _ => (pt b226 o227), fun _ => (I x223), fun _ => (pt b232 o233), fun _ => undef] () (by kernel_rfl) (by kernel_rfl) ?_ ?_ ?_
       ·intro σm m0
        exact ⟨H.grow (m0.mono fun _ h => h.elim), m0⟩
       ·refine ac rfl (by
          intro k _nm ρ σm hJ hoff hdep
          have e0 := look_off (N := 168) (hoff 0 rfl) rfl
          exact dp_v (v := (Sl adata_0 o130.1 cdata_0)) wn (rv_move e0) rfl hJ) ?_
        refine ac rfl (by
          intro k _nm ρ σm hJ hoff hdep
          have e11 := look_off (N := 168) (hoff 11 rfl) rfl
          exact dp_v (v := (I o130.2)) wn (rv_move e11) rfl hJ) ?_
        refine ac rfl (by
          intro k _nm ρ σm hJ hoff hdep
          have e0 := look_off (N := 168) (hoff 0 rfl) rfl
          exact dp_v (v := (Sl adata_0 o130.1 cdata_0)) wn (rv_move e0) rfl hJ) ?_
        refine ac rfl (by
          intro k _nm ρ σm hJ hoff hdep
          have e1 := look_off (N := 168) (hoff 1 rfl) rfl
          exact dp_v (v := (I a_1)) wn (rv_move e1) rfl hJ) ?_
        refine ac rfl (by
          intro k _nm ρ σm hJ hoff hdep
          have e0 := look_off (N := 168) (hoff 0 rfl) rfl
          exact dp_v (v := (Sl adata_0 o130.1 cdata_0)) wn (rv_move e0) rfl hJ) ?_
        refine ac rfl (by
          intro k _nm ρ σm hJ hoff hdep
          have e1 := look_off (N := 168) (hoff 1 rfl) rfl
          exact dp_v (v := (I a_1)) wn (rv_move e1) rfl hJ) ?_
        refine ac rfl (by
          intro k _nm ρ σm hJ hoff hdep
          have e157 := hdep 4 rfl rfl 157 rfl
          have e158 := hdep 5 rfl rfl 158 rfl
          exact dp_v (v := (pt b220 o221)) wn (rv_ix Try.underlying36 ti3 e157 e158 hi219) rfl hJ) ?_
        refine all_cons (by
          refine ⟨?_, ?_⟩
          ·intro _nm ρ σm hJ hoff hdep
           have e159 := hdep 6 rfl rfl 159 rfl
           obtain ⟨H, m⟩ := id hJ
           have hc222 := ((H.own 0 rfl).at hx218 hi219).int
           exact dp_v (v := (I x217)) wn (rv_load1 Try.underlying3 rfl e159 hc222) rfl hJ
          trivial) ?_
        refine ac rfl (by
          intro k _nm ρ σm hJ hoff hdep
          have e0 := look_off (N := 168) (hoff 0 rfl) rfl
          exact dp_v (v := (Sl adata_0 o130.1 cdata_0)) wn (rv_move e0) rfl hJ) ?_
        refine ac rfl (by
          intro k _nm ρ σm hJ hoff hdep
          have e11 := look_off (N := 168) (hoff 11 rfl) rfl
          exact dp_v (v := (I o130.2)) wn (rv_move e11) rfl hJ) ?_
        refine ac rfl (by
          intro k _nm ρ σm hJ hoff hdep
          have e161 := hdep 8 rfl rfl 161 rfl
          have e162 := hdep 9 rfl rfl 162 rfl
          exact dp_v (v := (pt b226 o227)) wn (rv_ix Try.underlying36 ti3 e161 e162 hi225) rfl hJ) ?_
        refine all_cons (by
          refine ⟨?_, ?_⟩
          ·intro _nm ρ σm hJ hoff hdep
           have e163 := hdep 10 rfl rfl 163 rfl
           obtain ⟨H, m⟩ := id hJ
           have hc228 := ((H.own 0 rfl).at hx224 hi225).int
           exact dp_v (v := (I x223)) wn (rv_load1 Try.underlying3 rfl e163 hc228) rfl hJ
          trivial) ?_
        refine ac rfl (by
          intro k _nm ρ σm hJ hoff hdep
          have e153 := hdep 0 rfl rfl 153 rfl
          have e154 := hdep 1 rfl rfl 154 rfl
          exact dp_v (v := (pt b232 o233)) wn (rv_ix Try.underlying36 ti3 e153 e154 hi231) rfl hJ) ?_
        refine all_cons (by
          refine ⟨?_, ?_⟩
          ·intro _nm ρ σm hJ hoff hdep
           have e165 := hdep 12 rfl rfl 165 rfl
           have e160 := hdep 7 rfl rfl 160 rfl
           obtain ⟨H, m⟩ := id hJ
           refine dp_exS wn rfl (ex_store_own (e' := x217) (vs := [(I x217)]) (k := 0) H (i := 0) rfl ti3 hx230 hi231 e165 rfl e160 rfl rfl (Nat.le_of_ble_eq_true rfl) (by simp [plain]) (by rintro _ rfl; exact rfl)) ?_
           rintro σq ⟨H2, m2⟩
           exact ⟨_, (), rfl, ⟨H2.sel' [0] rfl rfl, m.comp m2⟩, stab [0, 1, 2, 3, 4, 5, 6, 7, 8, 9, 10, 11, 12] (by kernel_rfl) ⟨rfl, rfl, rfl, rfl, rfl, rfl, rfl, rfl, rfl, rfl, rfl, rfl, rfl, trivial⟩⟩
          trivial) ?_
        exact all_nil
       ·intro _nm ρ σ234 hJ hoff hrel
        have e0 := look_off (N := 168) (hoff 0 rfl) rfl
        have e11 := look_off (N := 168) (hoff 11 rfl) rfl
        have e155 := hrel 2 rfl 155 rfl
        have e156 := hrel 3 rfl 156 rfl
        have e164 := hrel 11 rfl 164 rfl
        obtain ⟨H, -⟩ := (show Hp S0 σ0 σ234 [Ch.own 0 0 (Sl adata_0 o130.1 cdata_0) (o130.1.set o130.2.toNat x217)] ∧ Md (fun i => (cov []) i ∨ (fun b => blk (Sl adata_0 o130.1 cdata_0) = some b) i) σ215 σ234 from hJ)
        clear hJ Hs
        rw [fr_lookL (L := [(0, (Sl adata_0 o130.1 cdata_0)), (11, (I o130.2)), (155, (Sl adata_0 o130.1 cdata_0)), (156, (I a_1)), (164, (I x223))]) ⟨e0, e11, e155, e156, e164, trivial⟩]
        clear hoff hrel e0 e11 e155 e156 e164
        have hsl : (Sl adata_0 o130.1 cdata_0) = (Sl adata_0 (o130.1.set o130.2.toNat x217) cdata_0) := sl_len (by simp)
        rw [hsl]; rw [hsl] at H; clear hsl
        obtain ⟨x235, hx236, h'⟩ := bind_some h
        clear h
        have h := h'; clear h'
        obtain ⟨b238, o239, hi237, -⟩ := (H.own 0 rfl).ix hx236
        refine st (v := (pt b238 o239)) (rv_ix Try.underlying36 ti3 rfl rfl hi237) ?_
        refine st_exS (ex_store_own (e' := x223) (vs := [(I x223)]) (k := 0) H (i := 0) rfl ti3 hx236 hi237 rfl rfl rfl rfl rfl (Nat.le_of_ble_eq_true rfl) (by simp [plain]) (by rintro _ rfl; exact rfl)) wn ?_
        rintro σ240 ⟨H, -⟩
        have hsl : (Sl adata_0 (o130.1.set o130.2.toNat x217) cdata_0) = (Sl adata_0 ((o130.1.set o130.2.toNat x217).set a_1.toNat x223) cdata_0) := sl_len List.length_set.symm
        rw [hsl]; rw [hsl] at H; clear hsl
        refine w_end ?_
        refine q_then ?_
        refine c_seq ?_
        refine rg ?_
        refine st (v := (I o130.2)) (rv_move rfl) ?_
        refine st (v := (I o130.2)) (rv_assign rfl) ?_
        refine st (v := (B false)) (rv_assign rfl) ?_
        refine w_end ?_
        refine q_then ?_
        refine c_ret ?_
        obtain rfl := Option.some.inj h
        exact fin_ret (v := (.tuple #[(I o130.2), (B false)])) (results_ok Try.results125 (res_tmp (v := (I o130.2)) rfl (res_tmp (v := (B false)) rfl res_nil)) rfl) ⟨rfl, rfl, (List.length_set.trans (List.length_set.trans (hn216.trans (List.length_set.trans (List.length_set.trans (List.length_set.trans List.length_set))))))⟩ (H.sel' [0] rfl rfl)

def sort69_ren : Go.Shelf.Ren := ⟨fun | 53 => 69 | 64 => 97 | 63 => 96 | 78 => 126 | 79 => 127 | 70 => 117 | 71 => 118 | 72 => 119 | 73 => 120 | 74 => 121 | 75 => 122 | 59 => 123 | 76 => 124 | 77 => 125 | 88 => 135 | 89 => 136 | 90 => 137 | 91 => 138 | 92 => 139 | 68 => 116 | 96 => 153 | n => n, fun | 22 => 36 | 23 => 3 | 3 => 3 | 51 => 100 | 0 => 0 | 67 => 124 | 69 => 126 | 4 => 4 | 61 => 119 | 60 => 118 | 44 => 82 | 5 => 5 | 9 => 9 | 75 => 138 | 79 => 142 | 83 => 160 | 84 => 161 | n => n, fun | n => n⟩
theorem sort69 : Go.Proofs.SlLaysN.n53 Try.prog sort69_ren := {
  mixed := by kernel_rfl
  f53 := ⟨Try.f69.name, by decide, Try.func69.trans (congrArg some (by kernel_rfl))⟩
  f59 := ⟨Try.f123.name, by decide, Try.func123.trans (congrArg some (by kernel_rfl))⟩
  f63 := ⟨Try.f96.name, by decide, Try.func96.trans (congrArg some (by kernel_rfl))⟩
  f64 := Try.func97.trans (congrArg some (by kernel_rfl))
  f68 := ⟨Try.f116.name, by decide, Try.func116.trans (congrArg some (by kernel_rfl))⟩
  f70 := ⟨Try.f117.name, by decide, Try.func117.trans (congrArg some (by kernel_rfl))⟩
  f71 := ⟨Try.f118.name, by decide, Try.func118.trans (congrArg some (by kernel_rfl))⟩
  f72 := ⟨Try.f119.name, by decide, Try.func119.trans (congrArg some (by kernel_rfl))⟩
  f73 := ⟨Try.f120.name, by decide, Try.func120.trans (congrArg some (by kernel_rfl))⟩
  f74 := ⟨Try.f121.name, by decide, Try.func121.trans (congrArg some (by kernel_rfl))⟩
  f75 := ⟨Try.f122.name, by decide, Try.func122.trans (congrArg some (by kernel_rfl))⟩
  f76 := ⟨Try.f124.name, by decide, Try.func124.trans (congrArg some (by kernel_rfl))⟩
  f77 := ⟨Try.f125.name, by decide, Try.func125.trans (congrArg some (by kernel_rfl))⟩
  f78 := Try.func126.trans (congrArg some (by kernel_rfl))
  f79 := Try.func127.trans (congrArg some (by kernel_rfl))
  f88 := ⟨Try.f135.name, by decide, Try.func135.trans (congrArg some (by kernel_rfl))⟩
  f89 := Try.func136.trans (congrArg some (by kernel_rfl))
  f90 := Try.func137.trans (congrArg some (by kernel_rfl))
  f91 := ⟨Try.f138.name, by decide, Try.func138.trans (congrArg some (by kernel_rfl))⟩
  f92 := ⟨Try.f139.name, by decide, Try.func139.trans (congrArg some (by kernel_rfl))⟩
  f96 := ⟨Try.f153.name, by decide, Try.func153.trans (congrArg some (by kernel_rfl))⟩
  t0 := Try.underlying0
  a0 := Try.isAgg0
  z0 := Try.sizeOf0
  v0 := Try.zeroValue0
  t3 := Try.underlying3
  a3 := Try.isAgg3
  z3 := Try.sizeOf3
  v3 := Try.zeroValue3
  t4 := Try.underlying4
  a4 := Try.isAgg4
  z4 := Try.sizeOf4
  v4 := Try.zeroValue4
  t5 := Try.underlying5
  a5 := Try.isAgg5
  z5 := Try.sizeOf5
  v5 := Try.zeroValue5
  t9 := Try.underlying9
  a9 := Try.isAgg9
  z9 := Try.sizeOf9
  v9 := Try.zeroValue9
  t22 := Try.underlying36
  a22 := Try.isAgg36
  z22 := Try.sizeOf36
  v22 := Try.zeroValue36
  t23 := Try.underlying3
  a23 := Try.isAgg3
  z23 := Try.sizeOf3
  v23 := Try.zeroValue3
  t44 := Try.underlying82
  a44 := Try.isAgg82
  z44 := Try.sizeOf82
  v44 := Try.zeroValue82
  t51 := Try.underlying100
  a51 := Try.isAgg100
  z51 := Try.sizeOf100
  v51 := Try.zeroValue100
  t60 := Try.underlying118
  a60 := Try.isAgg118
  z60 := Try.sizeOf118
  v60 := Try.zeroValue118
  t61 := Try.underlying119
  a61 := Try.isAgg119
  z61 := Try.sizeOf119
  v61 := Try.zeroValue119
  t67 := Try.underlying124
  a67 := Try.isAgg124
  z67 := Try.sizeOf124
  v67 := Try.zeroValue124
  t69 := Try.underlying126
  a69 := Try.isAgg126
  z69 := Try.sizeOf126
  v69 := Try.zeroValue126
  t75 := Try.underlying138
  a75 := Try.isAgg138
  z75 := Try.sizeOf138
  v75 := Try.zeroValue138
  t79 := Try.underlying142
  a79 := Try.isAgg142
  z79 := Try.sizeOf142
  v79 := Try.zeroValue142
  t83 := Try.underlying160
  a83 := Try.isAgg160
  z83 := Try.sizeOf160
  v83 := Try.zeroValue160
  t84 := Try.underlying161
  a84 := Try.isAgg161
  z84 := Try.sizeOf161
  v84 := Try.zeroValue161 }

theorem c_slices_Sort_int_int {x_0 : List Int} {ax_0 : Option Addr} {cx_0 : Nat} {r : List Int} (h : M.slices_Sort_int_int x_0 = some r) :
    Cal2 Try.prog 69 [(Sl ax_0 x_0 cx_0)] [Ch.own 0 0 (Sl ax_0 x_0 cx_0) x_0] (fun n0 v L => v = (.tuple #[]) ∧ L = [Ch.own 0 0 (Sl ax_0 r cx_0) r] ∧ r.length = x_0.length) := by
 obtain ⟨hn, rfl⟩ := ascL_some h
 refine (sortI_cal2 sort69 (xs := x_0) (a := ax_0) (c := cx_0) hn).conv ?_
 rintro m v L ⟨rfl, rfl⟩
 exact ⟨_, ⟨rfl, rfl, ascL_len⟩, fun H => H⟩

theorem c_impl_ReachedFrom {list_0 : List (Int × (List Int) × Int)} {kind_1 : Int} {many_2 : Int} {key_3 : Int} {alist_0 : Option Addr} {clist_0 : Nat} {r : (List Int)} (h : M.impl_ReachedFrom list_0 kind_1 many_2 key_3 = some r) :
    Cal2 Try.prog 37 [(Sl alist_0 list_0 clist_0), (I kind_1), (I many_2), (I key_3)] [Ch.ro 0 (Sl alist_0 list_0 clist_0) list_0] (fun n0 v L => ∃ (az1 : Option Addr), ∃ (cz2 : Nat), v = (Sl az1 r cz2) ∧ L = [Ch.own 0 n0 (Sl az1 r cz2) r]) := by
 refine cal2 (n := 66) Try.func37 rfl rfl rfl rfl ?_
 intro S0 σ0 n0 hn0 H
 unfold M.impl_ReachedFrom at h
 refine c_seq ?_
 refine rg ?_
 refine st (v := (.slice none 0 0)) (rv_assign rfl) ?_
 refine w_end ?_
 refine q_then ?_
 refine c_seq ?_
 refine c_seq ?_
 refine rg ?_
 refine st (v := (Sl alist_0 list_0 clist_0)) (rv_move rfl) ?_
 refine st (v := (I kind_1)) (rv_move rfl) ?_
 refine st (v := (I many_2)) (rv_move rfl) ?_
 obtain ⟨r1, hx2, h'⟩ := bind_some h
 clear h
 have h := h'; clear h'
 have hc3 := c_impl_validLinks (alist_0 := alist_0) (clist_0 := clist_0) hx2
 refine st_call (cx_call hc3 (ent_f hc3.fn rfl) hn0 (show Hp S0 σ0 _ ([Ch.ro 0 (Sl alist_0 list_0 clist_0) list_0] ++ [Ch.ro 0 (Sl alist_0 list_0 clist_0) list_0]) from (H.sel' [0, 0] rfl rfl))) wn ?_
 rintro _ σ4 ⟨_, ⟨rfl, rfl⟩, H, -⟩
 replace H : Hp S0 σ0 σ4 [Ch.ro 0 (Sl alist_0 list_0 clist_0) list_0] := H
 refine st (v := (B (!r1))) (rv_not rfl) ?_
 refine w_end ?_
 refine q_then ?_
 refine cd_cond (!r1) rfl (fun hb5 => ?_) (fun hb5 => ?_)
 ·replace h := bif_t hb5 h
  refine c_seq ?_
  refine rg ?_
  refine st (v := (.slice none 0 0)) (rv_assign rfl) ?_
  refine w_end ?_
  refine q_then ?_
  refine c_ret ?_
  refine q_then_r ?_
  replace H := H.nilOwn Int 0 n0
  obtain rfl := Option.some.inj h
  exact fin_ret (v := (.slice none 0 0)) (results_ok Try.results37 (res_tmp (v := (.slice none 0 0)) rfl res_nil) rfl) ⟨none, 0, rfl, rfl⟩ (H.sel' [0] rfl rfl)
 ·replace h := bif_f hb5 h
  refine c_skip ?_
  refine q_then ?_
  refine c_seq ?_
  refine c_seq ?_
  refine rg ?_
  refine st (v := (Sl alist_0 list_0 clist_0)) (rv_move rfl) ?_
  refine st (v := (I key_3)) (rv_move rfl) ?_
  obtain ⟨r6, hx7, h'⟩ := bind_some h
  clear h
  have h := h'; clear h'
  have hc8 := c_impl_placeOf (alist_0 := alist_0) (clist_0 := clist_0) hx7
  refine st_call (cx_call hc8 (ent_f hc8.fn rfl) hn0 (show Hp S0 σ0 _ ([Ch.ro 0 (Sl alist_0 list_0 clist_0) list_0] ++ [Ch.ro 0 (Sl alist_0 list_0 clist_0) list_0]) from (H.sel' [0, 0] rfl rfl))) wn ?_
  rintro _ σ9 ⟨_, ⟨rfl, rfl⟩, H, -⟩
  replace H : Hp S0 σ0 σ9 [Ch.ro 0 (Sl alist_0 list_0 clist_0) list_0] := H
  refine st (v := (.tuple #[(I r6.1), (B r6.2)])) (rv_move rfl) ?_
  refine st (v := (I r6.1)) (rv_extract rfl rfl) ?_
  refine st (v := (B r6.2)) (rv_extract rfl rfl) ?_
  refine st (v := (I r6.1)) (rv_assign rfl) ?_
  refine st (v := (B r6.2)) (rv_assign rfl) ?_
  refine w_end ?_
  refine q_then ?_
  refine c_seq ?_
  refine rg ?_
  refine st (v := (B r6.2)) (rv_move rfl) ?_
  refine st (v := (B (!r6.2))) (rv_not rfl) ?_
  refine w_end ?_
  refine q_then ?_
  refine cd_cond (!r6.2) rfl (fun hb10 => ?_) (fun hb10 => ?_)
  ·replace h := bif_t hb10 h
   refine c_seq ?_
   refine rg ?_
   refine st (v := (.slice none 0 0)) (rv_assign rfl) ?_
   refine w_end ?_
   refine q_then ?_
   refine c_ret ?_
   refine q_then_r ?_
   replace H := H.nilOwn Int 0 n0
   obtain rfl := Option.some.inj h
   exact fin_ret (v := (.slice none 0 0)) (results_ok Try.results37 (res_tmp (v := (.slice none 0 0)) rfl res_nil) rfl) ⟨none, 0, rfl, rfl⟩ (H.sel' [0] rfl rfl)
  ·replace h := bif_f hb10 h
   refine c_skip ?_
   refine q_then ?_
   refine c_seq ?_
   refine rg ?_
   refine st (v := (Sl alist_0 list_0 clist_0)) (rv_move rfl) ?_
   refine st (v := (I kind_1)) (rv_move rfl) ?_
   refine st (v := (I many_2)) (rv_move rfl) ?_
   obtain ⟨r11, hx12, h'⟩ := bind_some h
   clear h
   have h := h'; clear h'
   have hc13 := c_impl_linkItems (alist_0 := alist_0) (clist_0 := clist_0) hx12
   refine st_call (cx_call hc13 (ent_f hc13.fn rfl) hn0 (show Hp S0 σ0 _ ([Ch.ro 0 (Sl alist_0 list_0 clist_0) list_0] ++ [Ch.ro 0 (Sl alist_0 list_0 clist_0) list_0]) from (H.sel' [0, 0] rfl rfl))) wn ?_
   rintro _ σ17 ⟨_, ⟨b14, K15, rfl, rfl, hK16⟩, H, -⟩
   replace H : Hp S0 σ0 σ17 [Ch.big K15, Ch.ro 0 (Sl alist_0 list_0 clist_0) list_0] := H
   refine st (v := (.map (some b14))) (rv_assign rfl) ?_
   refine w_end ?_
   refine q_then ?_
   refine c_seq ?_
   refine rg ?_
   refine st (v := (I key_3)) (rv_move rfl) ?_
   refine st_ex (ex_buildSlice (el := n0) (xs := ([key_3] : List Int)) (ps := [(0, (I key_3))]) (cs := [(I key_3)]) H hn0 Try.underlying36 ti3 rfl rfl (by kernel_rfl) (.cons (c := [(I key_3)]) rfl (.nil)) rfl) wn ?_
   rintro _ σ19 ⟨b18, rfl, H, -⟩
   refine st (v := (Sl (some ⟨b18, 0, none⟩) ([key_3] : List Int) 1)) (rv_assign rfl) ?_
   refine w_end ?_
   refine q_then ?_
   refine c_seq ?_
   refine c_seq ?_
   refine rg ?_
   refine st (v := (I 0)) (rv_assign rfl) ?_
   refine w_end ?_
   refine q_then ?_
   obtain ⟨o20, hj, h'⟩ := bind_some h
   clear h
   refine c_cut (fun e a w => e = .normal ∧ ∃ (ρ : Nat → Value) (σ : St) (aj1 : Option Addr) (cj2 : Nat), a = fr 66 (updL ρ [(12, (Sl aj1 o20 cj2))]) ∧ w = σ.w ∧ Hp S0 σ0 σ [Ch.own n0 n0 (Sl aj1 o20 cj2) o20]) ?_ ?_
   ·clear h'
    rename _ = some o20 => h
    refine c_blk ?_
    obtain ⟨σ22, hw23, H, -⟩ := H.mpPub 1 rfl hK16
    rw [← hw23]; clear hw23
    refine wp_loopM _ h (fun s21 a w => ∃ (ρ : Nat → Value) (σ : St) (aj1 : Option Addr) (cj2 : Nat), a = fr 66 (updL ρ [(11, (.map (some b14))), (12, (Sl aj1 s21.1 cj2)), (13, (I s21.2))]) ∧ w = σ.w ∧ Hp S0 σ0 σ [Ch.mr b14 r11, Ch.own n0 n0 (Sl aj1 s21.1 cj2) s21.1]) ⟨_, σ22, (some ⟨b18, 0, none⟩), 1, fr_join ⟨rfl, rfl, rfl, trivial⟩, rfl, H.sel' [0, 1] rfl rfl⟩ ?_
    clear h H
    rintro s21 a w o ⟨ρ, σ24, a25, c26, rfl, rfl, H⟩ h hres
    refine c_seq ?_
    refine c_seq ?_
    refine rg ?_
    refine st (v := (I s21.2)) (rv_move rfl) ?_
    refine st (v := (Sl a25 s21.1 c26)) (rv_move rfl) ?_
    refine st (v := (I (s21.1.length : Int))) (rv_len Try.underlying36 rfl) ?_
    refine st (v := (B (decide (s21.2 < (s21.1.length : Int))))) (rv_lss (a := s21.2) (b := (s21.1.length : Int)) rfl rfl) ?_
    refine w_end ?_
    refine q_then ?_
    refine cd_cond (decide (s21.2 < (s21.1.length : Int))) rfl (fun hb27 => ?_) (fun hb27 => ?_)
    ·replace h := bif_t hb27 h
     refine c_skip ?_
     refine q_then ?_
     refine c_seq ?_
     refine c_blk ?_
     refine c_seq ?_
     refine rg ?_
     refine st (v := (.map (some b14))) (rv_move rfl) ?_
     refine st (v := (Sl a25 s21.1 c26)) (rv_move rfl) ?_
     refine st (v := (I s21.2)) (rv_move rfl) ?_
     obtain ⟨x28, hx29, h'⟩ := bind_some h
     clear h
     have h := h'; clear h'
     obtain ⟨b31, o32, hi30, -⟩ := (H.own 1 rfl).ix hx29
     refine st (v := (pt b31 o32)) (rv_ix Try.underlying36 ti3 rfl rfl hi30) ?_
     have hc33 := ((H.own 1 rfl).at hx29 hi30).int
     refine st (v := (I x28)) (rv_load1 Try.underlying3 rfl rfl hc33) ?_
     obtain ⟨v37, hL36, hR38⟩ := mrGet (H.mr 0 rfl) x28
     obtain ⟨a34, c35, rfl⟩ := hR38.isSl
     replace H := H.add (d := Ch.ro 0 (Sl a34 (mget r11 x28) c35) (mget r11 x28)) hR38 (fun _ h => h)
     clear hR38
     refine st (v := (Sl a34 (mget r11 x28) c35)) (rv_lookup Try.underlying78 Try.underlying3 ti30 rfl rfl hL36) ?_
     refine st (v := (I ((mget r11 x28).length : Int))) (rv_len Try.underlying30 rfl) ?_
     refine st (v := (I 0)) (rv_move rfl) ?_
     refine w_end ?_
     refine q_then ?_
     obtain ⟨o39, hj, h'⟩ := bind_some h
     clear h
     refine c_cut (fun e a w => e = .normal ∧ ∃ (ρ : Nat → Value) (σ : St) (aj1 : Option Addr) (cj2 : Nat), a = fr 66 (updL ρ [(11, (.map (some b14))), (12, (Sl aj1 o39 cj2)), (13, (I s21.2))]) ∧ w = σ.w ∧ Hp S0 σ0 σ [Ch.mr b14 r11, Ch.own n0 n0 (Sl aj1 o39 cj2) o39]) ?_ ?_
     ·clear h'
      rename _ = some o39 => h
      refine c_blk ?_
      refine wp_loopM _ h (fun s40 a w => ∃ (ρ : Nat → Value) (σ : St) (aj1 : Option Addr) (cj2 : Nat), a = fr 66 (updL ρ [(11, (.map (some b14))), (12, (Sl aj1 s40.1 cj2)), (13, (I s21.2)), (46, (Sl a34 (mget r11 x28) c35)), (47, (I ((mget r11 x28).length : Int))), (48, (I s40.2))]) ∧ w = σ.w ∧ Hp S0 σ0 σ [Ch.mr b14 r11, Ch.own n0 n0 (Sl aj1 s40.1 cj2) s40.1, Ch.ro 0 (Sl a34 (mget r11 x28) c35) (mget r11 x28)]) ⟨_, σ24, a25, c26, fr_join ⟨rfl, rfl, rfl, rfl, rfl, rfl, trivial⟩, rfl, H.sel' [1, 2, 0] rfl rfl⟩ ?_
      clear h H
      rintro s40 a w o ⟨ρ, σ41, a42, c43, rfl, rfl, H⟩ h hres
      refine c_seq ?_
      refine rg ?_
      refine st (v := (B (decide (s40.2 < ((mget r11 x28).length : Int))))) (rv_lss (a := s40.2) (b := ((mget r11 x28).length : Int)) rfl rfl) ?_
      refine w_end ?_
      refine q_then ?_
      refine c_seq ?_
      refine cd_cond (decide (s40.2 < ((mget r11 x28).length : Int))) rfl (fun hb44 => ?_) (fun hb44 => ?_)
      ·replace h := bif_t hb44 h
       refine c_skip ?_
       refine q_then ?_
       refine c_seq ?_
       obtain ⟨o45, hj, h'⟩ := bind_some h
       clear h
       refine c_cut (fun e a w => e = .normal ∧ ∃ (ρ : Nat → Value) (σ : St) (aj1 : Option Addr) (cj2 : Nat), a = fr 66 (updL ρ [(11, (.map (some b14))), (12, (Sl aj1 o45 cj2)), (13, (I s21.2)), (46, (Sl a34 (mget r11 x28) c35)), (47, (I ((mget r11 x28).length : Int))), (48, (I s40.2))]) ∧ w = σ.w ∧ Hp S0 σ0 σ [Ch.mr b14 r11, Ch.own n0 n0 (Sl aj1 o45 cj2) o45, Ch.ro 0 (Sl a34 (mget r11 x28) c35) (mget r11 x28)]) ?_ ?_
       ·clear h'
        rename _ = some o45 => h
        refine c_blk ?_
        refine c_seq ?_
        refine rg ?_
        obtain ⟨x46, hx47, h'⟩ := bind_some h
        clear h
        have h := h'; clear h'
        obtain ⟨b49, o50, hi48, -⟩ := (H.ro 2 rfl).ix hx47
        refine st (v := (pt b49 o50)) (rv_ix Try.underlying30 ti65 rfl rfl hi48) ?_
        obtain ⟨_, ⟨_, _, rfl, rfl, ⟨_, _, rfl, ⟨_, rfl, hR55⟩, rfl⟩⟩, hl51, hc52⟩ := ((H.ro 2 rfl).at hx47 hi48).cells
        obtain ⟨a53, c54, rfl⟩ := hR55.isSl
        replace H := H.add (d := Ch.ro 0 (Sl a53 x46.2.1 c54) x46.2.1) hR55 (fun _ h => h)
        clear hR55
        refine st (v := (.agg #[(I x46.1), (Sl a53 x46.2.1 c54), (I x46.2.2)])) (rv_load Try.underlying65 rfl ti65 rfl hl51 hc52) ?_
        refine st_ex (ex_alloc (cs := [(I 0), (.slice none 0 0), (I 0)]) H hn0 ti65 rfl) wn ?_
        rintro _ σ57 ⟨b56, rfl, H, -⟩
        refine st_exS (ex_store_box (k := 0) (cs := [(I 0), (.slice none 0 0), (I 0)]) (vs := [(I x46.1), (Sl a53 x46.2.1 c54), (I x46.2.2)]) (cs' := [(I x46.1), (Sl a53 x46.2.1 c54), (I x46.2.2)]) H (i := 0) rfl ti65 rfl rfl rfl rfl rfl (Nat.le_of_ble_eq_true rfl) (by simp [plain]) rfl) wn ?_
        rintro σ58 ⟨H, -⟩
        refine w_end ?_
        refine q_then ?_
        refine c_seq ?_
        refine rg ?_
        refine st (v := (Sl a42 s40.1 c43)) (rv_move rfl) ?_
        refine st (v := (pt b56 0)) (rv_fieldAddr (off := 0) (ft := 3) Try.underlying65 rfl ti3 rfl rfl) ?_
        have hc59 := H.cell (u := (I x46.1)) (o' := 0) 0 0 rfl rfl rfl
        refine st (v := (I x46.1)) (rv_load1 Try.underlying3 rfl rfl hc59) ?_
        obtain ⟨r60, hx61, h'⟩ := bind_some h
        clear h
        have h := h'; clear h'
        have hc62 := c_slices_Contains_int_int (as_0 := a42) (cs_0 := c43) hx61
        have hle := Nat.le_trans hn0 H.size
        refine st_call (cx_lend (Loan.lend Loan.nil) hc62 (ent_f hc62.fn rfl) (show Hp S0 σ0 _ ([Ch.own n0 n0 (Sl a42 s40.1 c43) s40.1] ++ ([] ++ [Ch.bx n0 b56 0 [(I x46.1), (Sl a53 x46.2.1 c54), (I x46.2.2)] [] [], Ch.ro 0 (Sl a53 x46.2.1 c54) x46.2.1, Ch.mr b14 r11, Ch.ro 0 (Sl a34 (mget r11 x28) c35) (mget r11 x28)])) from (H.sel' [3, 0, 1, 2, 4] rfl rfl)) (by rintro _ _ _ ⟨rfl, rfl⟩; exact trivial)) wn ?_
        rintro _ σ63 ⟨_, ⟨rfl, rfl⟩, H, -, -⟩
        replace H : Hp S0 σ0 σ63 [Ch.own n0 n0 (Sl a42 s40.1 c43) s40.1, Ch.bx n0 b56 0 [(I x46.1), (Sl a53 x46.2.1 c54), (I x46.2.2)] [] [], Ch.ro 0 (Sl a53 x46.2.1 c54) x46.2.1, Ch.mr b14 r11, Ch.ro 0 (Sl a34 (mget r11 x28) c35) (mget r11 x28)] := H
        clear hle
        replace H : Hp S0 σ0 σ63 [Ch.own n0 n0 (Sl a42 s40.1 c43) s40.1, Ch.bx n0 b56 0 [(I x46.1), (Sl a53 x46.2.1 c54), (I x46.2.2)] [] [], Ch.ro 0 (Sl a53 x46.2.1 c54) x46.2.1, Ch.mr b14 r11, Ch.ro 0 (Sl a34 (mget r11 x28) c35) (mget r11 x28)] := H
        refine st (v := (B (!r60))) (rv_not rfl) ?_
        refine w_end ?_
        refine q_then ?_
        refine cd_cond (!r60) rfl (fun hb64 => ?_) (fun hb64 => ?_)
        ·replace h := bif_t hb64 h
         refine rg ?_
         refine st (v := (Sl a42 s40.1 c43)) (rv_move rfl) ?_
         refine st (v := (pt b56 0)) (rv_fieldAddr (off := 0) (ft := 3) Try.underlying65 rfl ti3 rfl rfl) ?_
         have hc65 := H.cell (u := (I x46.1)) (o' := 0) 1 0 rfl rfl rfl
         refine st (v := (I x46.1)) (rv_load1 Try.underlying3 rfl rfl hc65) ?_
         refine st_ex (ex_buildSlice (el := n0) (xs := ([x46.1] : List Int)) (ps := [(0, (I x46.1))]) (cs := [(I x46.1)]) H hn0 Try.underlying36 ti3 rfl rfl (by kernel_rfl) (.cons (c := [(I x46.1)]) rfl (.nil)) rfl) wn ?_
         rintro _ σ67 ⟨b66, rfl, H, -⟩
         obtain ⟨xs68, hx69, h'⟩ := bind_some h
         clear h
         have h := h'; clear h'
         refine st_ex (ex_append H (i := 1) rfl Try.underlying36 Try.underlying36 ti3 rfl rfl (by decide) (H.own 0 rfl).rd hx69 hn0 rfl rfl) wn ?_
         rintro _ σ72 ⟨a70, c71, rfl, H, -⟩
         refine st (v := (Sl a70 xs68 c71)) (rv_assign rfl) ?_
         refine w_end ?_
         refine q_blk ?_
         obtain rfl := Option.some.inj h
         exact ⟨rfl, _, σ72, a70, c71, fr_join ⟨rfl, rfl, rfl, rfl, rfl, rfl, trivial⟩, rfl, H.sel' [4, 0, 5] rfl rfl⟩
        ·replace h := bif_f hb64 h
         refine c_skip ?_
         refine q_blk ?_
         obtain rfl := Option.some.inj h
         exact ⟨rfl, _, σ63, a42, c43, fr_join ⟨rfl, rfl, rfl, rfl, rfl, rfl, trivial⟩, rfl, H.sel' [3, 0, 4] rfl rfl⟩
       ·clear hj
        have h := h'
        clear h' H
        rintro e a w ⟨rfl, ρ, σ73, a74, c75, rfl, rfl, H⟩
        refine q_then ?_
        refine rg ?_
        refine st (v := (I (w64 (s40.2 + 1)))) (rv_add (a := s40.2) (b := 1) rfl rfl) ?_
        refine st (v := (I (w64 (s40.2 + 1)))) (rv_move rfl) ?_
        refine w_end ?_
        refine q_then ?_
        obtain rfl := Option.some.inj h
        exact ⟨_, rfl, _, σ73, a74, c75, fr_join ⟨rfl, rfl, rfl, rfl, rfl, rfl, trivial⟩, rfl, H.sel' [0, 1, 2] rfl rfl⟩
      ·replace h := bif_f hb44 h
       refine c_exit ?_
       refine q_then_x ?_
       refine q_then_x ?_
       refine q_blk_hit ?_
       obtain rfl := Option.some.inj h
       obtain rfl := hres _ rfl
       exact ⟨rfl, _, σ41, a42, c43, fr_join ⟨rfl, rfl, rfl, trivial⟩, rfl, H.sel' [0, 1] rfl rfl⟩
     ·clear hj
      have h := h'
      clear h' H
      rintro e a w ⟨rfl, ρ, σ76, a77, c78, rfl, rfl, H⟩
      refine q_blk ?_
      refine q_then ?_
      refine rg ?_
      refine st (v := (I s21.2)) (rv_move rfl) ?_
      refine st (v := (I (w64 (s21.2 + 1)))) (rv_add (a := s21.2) (b := 1) rfl rfl) ?_
      refine st (v := (I (w64 (s21.2 + 1)))) (rv_assign rfl) ?_
      refine w_end ?_
      refine q_then ?_
      obtain rfl := Option.some.inj h
      exact ⟨_, rfl, _, σ76, a77, c78, fr_join ⟨rfl, rfl, rfl, trivial⟩, rfl, H.sel' [0, 1] rfl rfl⟩
    ·replace h := bif_f hb27 h
     refine c_exit ?_
     refine q_then_x ?_
     refine q_then_x ?_
     refine q_blk_hit ?_
     obtain rfl := Option.some.inj h
     obtain rfl := hres _ rfl
     exact ⟨rfl, _, σ24, a25, c26, fr_join ⟨rfl, trivial⟩, rfl, H.sel' [1] rfl rfl⟩
   ·clear hj
    have h := h'
    clear h' H
    rintro e a w ⟨rfl, ρ, σ79, a80, c81, rfl, rfl, H⟩
    refine q_then ?_
    refine c_seq ?_
    refine rg ?_
    refine st (v := (Sl a80 o20 c81)) (rv_move rfl) ?_
    replace H := H.ownLow 0 0 0 rfl (Nat.zero_le _) (Nat.zero_le _)
    obtain ⟨r82, hx83, h'⟩ := bind_some h
    clear h
    have h := h'; clear h'
    have hc84 := c_slices_Sort_int_int (ax_0 := a80) (cx_0 := c81) hx83
    refine st_call (cx_call hc84 (ent_f hc84.fn rfl) hn0 (show Hp S0 σ0 _ ([Ch.own 0 0 (Sl a80 o20 c81) o20] ++ []) from (H.sel' [0] rfl rfl))) wn ?_
    rintro _ σ86 ⟨_, ⟨rfl, rfl, hn85⟩, H, -⟩
    replace H : Hp S0 σ0 σ86 [Ch.own 0 0 (Sl a80 r82 c81) r82] := H
    have hsl : (Sl a80 o20 c81) = (Sl a80 r82 c81) := sl_len hn85.symm
    try rw [hsl]
    try rw [hsl] at H
    clear hsl
    refine w_end ?_
    refine q_then ?_
    refine c_seq ?_
    refine rg ?_
    refine st (v := (Sl a80 r82 c81)) (rv_move rfl) ?_
    refine st (v := (Sl a80 r82 c81)) (rv_assign rfl) ?_
    refine w_end ?_
    refine q_then ?_
    refine c_ret ?_
    replace H := H.ownSc 0 0 n0 rfl (Nat.le_refl _)
    obtain rfl := Option.some.inj h
    exact fin_ret (v := (Sl a80 r82 c81)) (results_ok Try.results37 (res_tmp (v := (Sl a80 r82 c81)) rfl res_nil) rfl) ⟨a80, c81, rfl, rfl⟩ (H.sel' [0] rfl rfl)

theorem c_laws_heldIntS {a_0 : List Int} {k_1 : Int} {aa_0 : Option Addr} {ca_0 : Nat} {r : Int} (h : M.laws_heldIntS a_0 k_1 = some r) :
    Cal2 Try.prog 38 [(Sl aa_0 a_0 ca_0), (I k_1)] [Ch.ro 0 (Sl aa_0 a_0 ca_0) a_0] (fun n0 v L => v = (I r) ∧ L = []) := by
 refine cal2 (n := 21) Try.func38 rfl rfl rfl rfl ?_
 intro S0 σ0 n0 hn0 H
 unfold M.laws_heldIntS at h
 refine c_seq ?_
 refine rg ?_
 refine st (v := (I 0)) (rv_assign rfl) ?_
 refine w_end ?_
 refine q_then ?_
 refine c_seq ?_
 refine c_seq ?_
 refine rg ?_
 refine st (v := (I 0)) (rv_assign rfl) ?_
 refine w_end ?_
 refine q_then ?_
 obtain ⟨o1, hj, h'⟩ := bind_some h
 clear h
 refine c_cut (fun e a w => (∃ t, o1 = (.inl t) ∧ e = .normal ∧ ∃ (ρ : Nat → Value) (σ : St), a = fr 21 (updL ρ [(1, (I t))]) ∧ w = σ.w ∧ Hp S0 σ0 σ []) ∨ (∃ t, o1 = (.inr t) ∧ e = .ret ∧ ∃ (ρ : Nat → Value) (σ : St), a = fr 21 (updL ρ [(4, (I t))]) ∧ w = σ.w ∧ Hp S0 σ0 σ [])) ?_ ?_
 ·clear h'
  rename _ = some o1 => h
  refine c_blk ?_
  refine wp_loopM _ h (fun s2 a w => ∃ (ρ : Nat → Value) (σ : St), a = fr 21 (updL ρ [(0, (Sl aa_0 a_0 ca_0)), (1, (I s2.1)), (5, (I s2.2))]) ∧ w = σ.w ∧ Hp S0 σ0 σ [Ch.ro 0 (Sl aa_0 a_0 ca_0) a_0]) ⟨_, σ0, fr_join ⟨rfl, rfl, rfl, trivial⟩, rfl, H.sel' [0] rfl rfl⟩ ?_
  clear h H
  rintro s2 a w o ⟨ρ, σ3, rfl, rfl, H⟩ h hres
  refine c_seq ?_
  refine c_seq ?_
  refine rg ?_
  refine st (v := (I s2.2)) (rv_move rfl) ?_
  refine st (v := (Sl aa_0 a_0 ca_0)) (rv_move rfl) ?_
  refine st (v := (I (a_0.length : Int))) (rv_len Try.underlying36 rfl) ?_
  refine st (v := (B (decide (s2.2 < (a_0.length : Int))))) (rv_lss (a := s2.2) (b := (a_0.length : Int)) rfl rfl) ?_
  refine w_end ?_
  refine q_then ?_
  refine cd_cond (decide (s2.2 < (a_0.length : Int))) rfl (fun hb4 => ?_) (fun hb4 => ?_)
  ·replace h := bif_t hb4 h
   refine c_skip ?_
   refine q_then ?_
   refine c_seq ?_
   refine c_blk ?_
   refine c_seq ?_
   refine c_seq ?_
   refine rg ?_
   refine st (v := (Sl aa_0 a_0 ca_0)) (rv_move rfl) ?_
   refine st (v := (I s2.2)) (rv_move rfl) ?_
   obtain ⟨x5, hx6, h'⟩ := bind_some h
   clear h
   have h := h'; clear h'
   obtain ⟨b8, o9, hi7, -⟩ := (H.ro 0 rfl).ix hx6
   refine st (v := (pt b8 o9)) (rv_ix Try.underlying36 ti3 rfl rfl hi7) ?_
   have hc10 := ((H.ro 0 rfl).at hx6 hi7).int
   refine st (v := (I x5)) (rv_load1 Try.underlying3 rfl rfl hc10) ?_
   refine st (v := (I s2.1)) (rv_move rfl) ?_
   refine st (v := (B (x5 != s2.1))) (rv_neq (a := x5) (b := s2.1) rfl rfl) ?_
   refine w_end ?_
   refine q_then ?_
   refine cd_cond (x5 != s2.1) rfl (fun hb11 => ?_) (fun hb11 => ?_)
   ·replace h := bif_t hb11 h
    refine c_seq ?_
    refine rg ?_
    refine st (v := (I (-1))) (rv_assign rfl) ?_
    refine w_end ?_
    refine q_then ?_
    refine c_ret ?_
    refine q_then_r ?_
    refine q_blk_r ?_
    refine q_then_r ?_
    refine q_then_r ?_
    refine q_blk_r ?_
    obtain rfl := Option.some.inj h
    obtain rfl := hres _ rfl
    exact .inr (⟨_, rfl, rfl, _, σ3, fr_join ⟨rfl, trivial⟩, rfl, H.sel' [] rfl rfl⟩)
   ·replace h := bif_f hb11 h
    refine c_skip ?_
    refine q_then ?_
    refine rg ?_
    refine st (v := (I s2.1)) (rv_move rfl) ?_
    refine st (v := (I (w64 (s2.1 + 1)))) (rv_add (a := s2.1) (b := 1) rfl rfl) ?_
    refine st (v := (I (w64 (s2.1 + 1)))) (rv_assign rfl) ?_
    refine w_end ?_
    refine q_blk ?_
    refine q_then ?_
    refine rg ?_
    refine st (v := (I s2.2)) (rv_move rfl) ?_
    refine st (v := (I (w64 (s2.2 + 1)))) (rv_add (a := s2.2) (b := 1) rfl rfl) ?_
    refine st (v := (I (w64 (s2.2 + 1)))) (rv_assign rfl) ?_
    refine w_end ?_
    refine q_then ?_
    obtain rfl := Option.some.inj h
    exact ⟨_, rfl, _, σ3, fr_join ⟨rfl, rfl, rfl, trivial⟩, rfl, H.sel' [0] rfl rfl⟩
  ·replace h := bif_f hb4 h
   refine c_exit ?_
   refine q_then_x ?_
   refine q_then_x ?_
   refine q_blk_hit ?_
   obtain rfl := Option.some.inj h
   obtain rfl := hres _ rfl
   exact .inl ⟨_, rfl, rfl, _, σ3, fr_join ⟨rfl, trivial⟩, rfl, H.sel' [] rfl rfl⟩
 ·clear hj
  have h := h'
  clear h' H
  rintro e a w (⟨t12, rfl, rfl, ρ, σ13, rfl, rfl, H⟩ | ⟨t14, rfl, rfl, ρ, σ15, rfl, rfl, H⟩)
  ·replace h := selim_l h
   refine q_then ?_
   refine c_seq ?_
   refine rg ?_
   refine st (v := (I t12)) (rv_move rfl) ?_
   refine st (v := (I t12)) (rv_assign rfl) ?_
   refine w_end ?_
   refine q_then ?_
   refine c_ret ?_
   obtain rfl := Option.some.inj h
   exact fin_ret (v := (I t12)) (results_ok Try.results38 (res_tmp (v := (I t12)) rfl res_nil) rfl) ⟨rfl, rfl⟩ (H.sel' [] rfl rfl)
  ·replace h := selim_r h
   refine q_then_r ?_
   obtain rfl := Option.some.inj h
   exact fin_ret (v := (I t14)) (results_ok Try.results38 (res_tmp (v := (I t14)) rfl res_nil) rfl) ⟨rfl, rfl⟩ (H.sel' [] rfl rfl)

theorem c_laws_FnExactReachedFrom {aList_0 : List (Int × (List Int) × Int)} {aKind_1 : Int} {aMany_2 : Int} {aKey_3 : Int} {aaList_0 : Option Addr} {caList_0 : Nat} {r : Bool} (h : M.laws_FnExactReachedFrom aList_0 aKind_1 aMany_2 aKey_3 = some r) :
    Cal2 Try.prog 8 [(Sl aaList_0 aList_0 caList_0), (I aKind_1), (I aMany_2), (I aKey_3)] [Ch.ro 0 (Sl aaList_0 aList_0 caList_0) aList_0] (fun n0 v L => v = (B r) ∧ L = []) := by
 refine cal2 (n := 84) Try.func8 rfl rfl rfl rfl ?_
 intro S0 σ0 n0 hn0 H
 unfold M.laws_FnExactReachedFrom at h
 refine c_seq ?_
 refine rg ?_
 refine st (v := (B false)) (rv_assign rfl) ?_
 refine w_end ?_
 refine q_then ?_
 refine c_seq ?_
 refine rg ?_
 refine st (v := (I 1048576)) (rv_assign rfl) ?_
 refine w_end ?_
 refine q_then ?_
 refine c_seq ?_
 refine rg ?_
 refine st (v := (Sl aaList_0 aList_0 caList_0)) (rv_move rfl) ?_
 refine st (v := (I 1048576)) (rv_move rfl) ?_
 obtain ⟨r1, hx2, h'⟩ := bind_some h
 clear h
 have h := h'; clear h'
 have hc3 := c_laws_szItemS (aa_0 := aaList_0) (ca_0 := caList_0) hx2
 refine st_call (cx_call hc3 (ent_f hc3.fn rfl) hn0 (show Hp S0 σ0 _ ([Ch.ro 0 (Sl aaList_0 aList_0 caList_0) aList_0] ++ [Ch.ro 0 (Sl aaList_0 aList_0 caList_0) aList_0]) from (H.sel' [0, 0] rfl rfl))) wn ?_
 rintro _ σ4 ⟨_, ⟨rfl, rfl⟩, H, -⟩
 replace H : Hp S0 σ0 σ4 [Ch.ro 0 (Sl aaList_0 aList_0 caList_0) aList_0] := H
 refine st (v := (I r1)) (rv_assign rfl) ?_
 refine w_end ?_
 refine q_then ?_
 refine c_seq ?_
 refine c_seq ?_
 refine rg ?_
 refine st (v := (I r1)) (rv_move rfl) ?_
 refine st (v := (B (decide (r1 < 0)))) (rv_lss (a := r1) (b := 0) rfl rfl) ?_
 refine w_end ?_
 refine q_then ?_
 refine cd_cond (decide (r1 < 0)) rfl (fun hb5 => ?_) (fun hb5 => ?_)
 ·replace h := bif_t hb5 h
  refine c_seq ?_
  refine rg ?_
  refine st (v := (B true)) (rv_assign rfl) ?_
  refine w_end ?_
  refine q_then ?_
  refine c_ret ?_
  refine q_then_r ?_
  obtain rfl := Option.some.inj h
  exact fin_ret (v := (B true)) (results_ok Try.results8 (res_tmp (v := (B true)) rfl res_nil) rfl) ⟨rfl, rfl⟩ (H.sel' [] rfl rfl)
 ·replace h := bif_f hb5 h
  refine c_skip ?_
  refine q_then ?_
  refine c_seq ?_
  refine rg ?_
  refine st (v := (Sl aaList_0 aList_0 caList_0)) (rv_move rfl) ?_
  obtain ⟨r6, hx7, h'⟩ := bind_some h
  clear h
  have h := h'; clear h'
  have hc8 := c_laws_toItemS (aa_0 := aaList_0) (ca_0 := caList_0) hx7
  refine st_call (cx_call hc8 (ent_f hc8.fn rfl) hn0 (show Hp S0 σ0 _ ([Ch.ro 0 (Sl aaList_0 aList_0 caList_0) aList_0] ++ [Ch.ro 0 (Sl aaList_0 aList_0 caList_0) aList_0]) from (H.sel' [0, 0] rfl rfl))) wn ?_
  rintro _ σ13 ⟨_, ⟨a9, c10, K11, rfl, rfl, hK12⟩, H, -⟩
  replace H : Hp S0 σ0 σ13 [Ch.big K11, Ch.ro 0 (Sl aaList_0 aList_0 caList_0) aList_0] := H
  refine st (v := (I aKind_1)) (rv_move rfl) ?_
  refine st (v := (I aMany_2)) (rv_move rfl) ?_
  refine st (v := (I aKey_3)) (rv_move rfl) ?_
  obtain ⟨r14, hx15, h'⟩ := bind_some h
  clear h
  have h := h'; clear h'
  have hc16 := c_spec_ReachedFrom (alist_0 := a9) (clist_0 := c10) hx15
  have hle := Nat.le_trans hn0 H.size
  refine st_call (cx_lend (Loan.lendB hK12.lends Loan.nil) hc16 (ent_f hc16.fn rfl) (show Hp S0 σ0 _ ([Ch.big K11] ++ ([] ++ [Ch.ro 0 (Sl aaList_0 aList_0 caList_0) aList_0])) from (H.sel' [0, 1] rfl rfl)) (by rintro _ _ _ ⟨_, _, rfl, rfl⟩; exact ⟨Ab.ownSc, trivial⟩)) wn ?_
  rintro _ σ19 ⟨_, ⟨a17, c18, rfl, rfl⟩, H, -, -⟩
  replace H : Hp S0 σ0 σ19 [Ch.own σ13.size σ13.size (Sl a17 r14 c18) r14, Ch.big K11, Ch.ro 0 (Sl aaList_0 aList_0 caList_0) aList_0] := H
  replace H := H.ownLow 0 n0 n0 rfl hle hle
  clear hle
  replace H : Hp S0 σ0 σ19 [Ch.own n0 n0 (Sl a17 r14 c18) r14, Ch.big K11, Ch.ro 0 (Sl aaList_0 aList_0 caList_0) aList_0] := H
  refine st (v := (Sl a17 r14 c18)) (rv_assign rfl) ?_
  refine w_end ?_
  refine q_then ?_
  refine c_seq ?_
  refine rg ?_
  refine st (v := (Sl aaList_0 aList_0 caList_0)) (rv_move rfl) ?_
  obtain ⟨r20, hx21, h'⟩ := bind_some h
  clear h
  have h := h'; clear h'
  have hc22 := c_laws_toItemS (aa_0 := aaList_0) (ca_0 := caList_0) hx21
  refine st_call (cx_call hc22 (ent_f hc22.fn rfl) hn0 (show Hp S0 σ0 _ ([Ch.ro 0 (Sl aaList_0 aList_0 caList_0) aList_0] ++ [Ch.own n0 n0 (Sl a17 r14 c18) r14, Ch.big K11, Ch.ro 0 (Sl aaList_0 aList_0 caList_0) aList_0]) from (H.sel' [2, 0, 1, 2] rfl rfl))) wn ?_
  rintro _ σ27 ⟨_, ⟨a23, c24, K25, rfl, rfl, hK26⟩, H, -⟩
  replace H : Hp S0 σ0 σ27 [Ch.big K25, Ch.own n0 n0 (Sl a17 r14 c18) r14, Ch.big K11, Ch.ro 0 (Sl aaList_0 aList_0 caList_0) aList_0] := H
  refine st (v := (Sl a23 r20 c24)) (rv_assign rfl) ?_
  refine w_end ?_
  refine q_then ?_
  refine c_seq ?_
  refine rg ?_
  refine st (v := (Sl a23 r20 c24)) (rv_move rfl) ?_
  refine st (v := (I aKind_1)) (rv_move rfl) ?_
  refine st (v := (I aMany_2)) (rv_move rfl) ?_
  refine st (v := (I aKey_3)) (rv_move rfl) ?_
  obtain ⟨r28, hx29, h'⟩ := bind_some h
  clear h
  have h := h'; clear h'
  have hc30 := c_impl_ReachedFrom (alist_0 := a23) (clist_0 := c24) hx29
  have hle := Nat.le_trans hn0 H.size
  refine st_call (cx_lend (Loan.lendB hK26.lends Loan.nil) hc30 (ent_f hc30.fn rfl) (show Hp S0 σ0 _ ([Ch.big K25] ++ ([] ++ [Ch.own n0 n0 (Sl a17 r14 c18) r14, Ch.big K11, Ch.ro 0 (Sl aaList_0 aList_0 caList_0) aList_0])) from (H.sel' [0, 1, 2, 3] rfl rfl)) (by rintro _ _ _ ⟨_, _, rfl, rfl⟩; exact ⟨Ab.ownSc, trivial⟩)) wn ?_
  rintro _ σ33 ⟨_, ⟨a31, c32, rfl, rfl⟩, H, -, -⟩
  replace H : Hp S0 σ0 σ33 [Ch.own 0 σ27.size (Sl a31 r28 c32) r28, Ch.big K25, Ch.own n0 n0 (Sl a17 r14 c18) r14, Ch.big K11, Ch.ro 0 (Sl aaList_0 aList_0 caList_0) aList_0] := H
  replace H := H.ownLow 0 0 n0 rfl (Nat.le_refl _) hle
  clear hle
  replace H : Hp S0 σ0 σ33 [Ch.own 0 n0 (Sl a31 r28 c32) r28, Ch.big K25, Ch.own n0 n0 (Sl a17 r14 c18) r14, Ch.big K11, Ch.ro 0 (Sl aaList_0 aList_0 caList_0) aList_0] := H
  refine st (v := (Sl a31 r28 c32)) (rv_assign rfl) ?_
  refine w_end ?_
  refine q_then ?_
  refine c_seq ?_
  refine c_seq ?_
  refine rg ?_
  refine st (v := (Sl a31 r28 c32)) (rv_move rfl) ?_
  refine st (v := (Sl a17 r14 c18)) (rv_move rfl) ?_
  obtain ⟨r34, hx35, h'⟩ := bind_some h
  clear h
  have h := h'; clear h'
  have hc36 := c_laws_eqIntS (aa_0 := a31) (ca_0 := c32) (ab_1 := a17) (cb_1 := c18) hx35
  have hle := Nat.le_trans hn0 H.size
  refine st_call (cx_lend (Loan.lend (Loan.lend Loan.nil)) hc36 (ent_f hc36.fn rfl) (show Hp S0 σ0 _ ([Ch.own 0 n0 (Sl a31 r28 c32) r28, Ch.own n0 n0 (Sl a17 r14 c18) r14] ++ ([] ++ [Ch.big K25, Ch.big K11, Ch.ro 0 (Sl aaList_0 aList_0 caList_0) aList_0])) from (H.sel' [0, 2, 1, 3, 4] rfl rfl)) (by rintro _ _ _ ⟨rfl, rfl⟩; exact trivial)) wn ?_
  rintro _ σ37 ⟨_, ⟨rfl, rfl⟩, H, -, -⟩
  replace H : Hp S0 σ0 σ37 [Ch.own 0 n0 (Sl a31 r28 c32) r28, Ch.own n0 n0 (Sl a17 r14 c18) r14, Ch.big K25, Ch.big K11, Ch.ro 0 (Sl aaList_0 aList_0 caList_0) aList_0] := H
  clear hle
  replace H : Hp S0 σ0 σ37 [Ch.own 0 n0 (Sl a31 r28 c32) r28, Ch.own n0 n0 (Sl a17 r14 c18) r14, Ch.big K25, Ch.big K11, Ch.ro 0 (Sl aaList_0 aList_0 caList_0) aList_0] := H
  refine st (v := (B (!r34))) (rv_not rfl) ?_
  refine w_end ?_
  refine q_then ?_
  refine cd_cond (!r34) rfl (fun hb38 => ?_) (fun hb38 => ?_)
  ·replace h := bif_t hb38 h
   refine c_seq ?_
   refine rg ?_
   refine st (v := (B false)) (rv_assign rfl) ?_
   refine w_end ?_
   refine q_then ?_
   refine c_ret ?_
   refine q_then_r ?_
   obtain rfl := Option.some.inj h
   exact fin_ret (v := (B false)) (results_ok Try.results8 (res_tmp (v := (B false)) rfl res_nil) rfl) ⟨rfl, rfl⟩ (H.sel' [] rfl rfl)
  ·replace h := bif_f hb38 h
   refine c_skip ?_
   refine q_then ?_
   refine c_seq ?_
   refine c_seq ?_
   refine rg ?_
   refine st (v := (Sl a23 r20 c24)) (rv_move rfl) ?_
   refine st (v := (Sl aaList_0 aList_0 caList_0)) (rv_move rfl) ?_
   obtain ⟨r39, hx40, h'⟩ := bind_some h
   clear h
   have h := h'; clear h'
   have hc41 := c_laws_toItemS (aa_0 := aaList_0) (ca_0 := caList_0) hx40
   refine st_call (cx_call hc41 (ent_f hc41.fn rfl) hn0 (show Hp S0 σ0 _ ([Ch.ro 0 (Sl aaList_0 aList_0 caList_0) aList_0] ++ [Ch.own 0 n0 (Sl a31 r28 c32) r28, Ch.own n0 n0 (Sl a17 r14 c18) r14, Ch.big K25, Ch.big K11, Ch.ro 0 (Sl aaList_0 aList_0 caList_0) aList_0]) from (H.sel' [4, 0, 1, 2, 3, 4] rfl rfl))) wn ?_
   rintro _ σ46 ⟨_, ⟨a42, c43, K44, rfl, rfl, hK45⟩, H, -⟩
   replace H : Hp S0 σ0 σ46 [Ch.big K44, Ch.own 0 n0 (Sl a31 r28 c32) r28, Ch.own n0 n0 (Sl a17 r14 c18) r14, Ch.big K25, Ch.big K11, Ch.ro 0 (Sl aaList_0 aList_0 caList_0) aList_0] := H
   obtain ⟨r47, hx48, h'⟩ := bind_some h
   clear h
   have h := h'; clear h'
   have hc49 := c_laws_eqItemS (aa_0 := a23) (ca_0 := c24) (ab_1 := a42) (cb_1 := c43) hx48
   have hle := Nat.le_trans hn0 H.size
   refine st_call (cx_lend (Loan.lendB hK26.lends (Loan.lendB hK45.lends Loan.nil)) hc49 (ent_f hc49.fn rfl) (show Hp S0 σ0 _ ([Ch.big K25, Ch.big K44] ++ ([] ++ [Ch.own 0 n0 (Sl a31 r28 c32) r28, Ch.own n0 n0 (Sl a17 r14 c18) r14, Ch.big K11, Ch.ro 0 (Sl aaList_0 aList_0 caList_0) aList_0])) from (H.sel' [3, 0, 1, 2, 4, 5] rfl rfl)) (by rintro _ _ _ ⟨rfl, rfl⟩; exact trivial)) wn ?_
   rintro _ σ50 ⟨_, ⟨rfl, rfl⟩, H, -, -⟩
   replace H : Hp S0 σ0 σ50 [Ch.big K25, Ch.big K44, Ch.own 0 n0 (Sl a31 r28 c32) r28, Ch.own n0 n0 (Sl a17 r14 c18) r14, Ch.big K11, Ch.ro 0 (Sl aaList_0 aList_0 caList_0) aList_0] := H
   clear hle
   replace H : Hp S0 σ0 σ50 [Ch.big K25, Ch.big K44, Ch.own 0 n0 (Sl a31 r28 c32) r28, Ch.own n0 n0 (Sl a17 r14 c18) r14, Ch.big K11, Ch.ro 0 (Sl aaList_0 aList_0 caList_0) aList_0] := H
   refine st (v := (B (!r47))) (rv_not rfl) ?_
   refine w_end ?_
   refine q_then ?_
   refine cd_cond (!r47) rfl (fun hb51 => ?_) (fun hb51 => ?_)
   ·replace h := bif_t hb51 h
    refine c_seq ?_
    refine rg ?_
    refine st (v := (B false)) (rv_assign rfl) ?_
    refine w_end ?_
    refine q_then ?_
    refine c_ret ?_
    refine q_then_r ?_
    obtain rfl := Option.some.inj h
    exact fin_ret (v := (B false)) (results_ok Try.results8 (res_tmp (v := (B false)) rfl res_nil) rfl) ⟨rfl, rfl⟩ (H.sel' [] rfl rfl)
   ·replace h := bif_f hb51 h
    refine c_skip ?_
    refine q_then ?_
    refine c_seq ?_
    refine rg ?_
    refine st (v := (I 1)) (rv_assign rfl) ?_
    refine w_end ?_
    refine q_then ?_
    refine c_seq ?_
    refine rg ?_
    refine st (v := (Sl a23 r20 c24)) (rv_move rfl) ?_
    refine st (v := (I 1)) (rv_move rfl) ?_
    obtain ⟨r52, hx53, h'⟩ := bind_some h
    clear h
    have h := h'; clear h'
    have hc54 := c_laws_markItemS (aa_0 := a23) (ca_0 := c24) (hK := hK26) hx53
    refine st_call (cx_call hc54 (ent_f hc54.fn rfl) hn0 (show Hp S0 σ0 _ ([Ch.big K25] ++ [Ch.big K44, Ch.own 0 n0 (Sl a31 r28 c32) r28, Ch.own n0 n0 (Sl a17 r14 c18) r14, Ch.big K11, Ch.ro 0 (Sl aaList_0 aList_0 caList_0) aList_0]) from (H.sel' [0, 1, 2, 3, 4, 5] rfl rfl))) wn ?_
    rintro _ σ55 ⟨_, ⟨rfl, rfl⟩, H, -⟩
    replace H : Hp S0 σ0 σ55 [Ch.big K44, Ch.own 0 n0 (Sl a31 r28 c32) r28, Ch.own n0 n0 (Sl a17 r14 c18) r14, Ch.big K11, Ch.ro 0 (Sl aaList_0 aList_0 caList_0) aList_0] := H
    refine st (v := (I r52)) (rv_assign rfl) ?_
    refine w_end ?_
    refine q_then ?_
    refine c_seq ?_
    refine c_seq ?_
    obtain ⟨o56, hj, h'⟩ := bind_some h
    clear h
    refine c_cut (fun e a w => e = .normal ∧ ∃ (ρ : Nat → Value) (σ : St), a = fr 84 (updL ρ [(0, (Sl aaList_0 aList_0 caList_0)), (1, (I aKind_1)), (2, (I aMany_2)), (3, (I aKey_3)), (10, (Sl a17 r14 c18)), (12, (Sl a31 r28 c32)), (54, (B o56))]) ∧ w = σ.w ∧ Hp S0 σ0 σ [Ch.ro 0 (Sl aaList_0 aList_0 caList_0) aList_0, Ch.own n0 n0 (Sl a17 r14 c18) r14, Ch.own 0 n0 (Sl a31 r28 c32) r28]) ?_ ?_
    ·clear h'
     rename _ = some o56 => h
     refine rg ?_
     refine st (v := (I r52)) (rv_move rfl) ?_
     refine st (v := (B (decide (r52 < 0)))) (rv_lss (a := r52) (b := 0) rfl rfl) ?_
     refine st (v := (B (decide (r52 < 0)))) (rv_move rfl) ?_
     rcases Bool.eq_false_or_eq_true (decide (r52 < 0)) with hb57 | hb57
     ·replace h := bif_t hb57 h
      refine st_skip (congrArg some hb57) ?_
      refine st_skip (congrArg some hb57) ?_
      refine st_skip (congrArg some hb57) ?_
      refine st_skip (congrArg some hb57) ?_
      refine st (v := (B true)) (rv_pick_t (congrArg B hb57) rfl) ?_
      refine w_end ?_
      obtain rfl := Option.some.inj h
      exact ⟨rfl, _, σ55, fr_join ⟨rfl, rfl, rfl, rfl, rfl, rfl, rfl, trivial⟩, rfl, H.sel' [4, 2, 1] rfl rfl⟩
     ·replace h := bif_f hb57 h
      refine st_g (v := (Sl a31 r28 c32)) (congrArg some hb57) (rv_move rfl) ?_
      refine st_g (v := (Sl a17 r14 c18)) (congrArg some hb57) (rv_move rfl) ?_
      obtain ⟨r58, hx59, h'⟩ := bind_some h
      clear h
      have h := h'; clear h'
      have hc60 := c_laws_eqIntS (aa_0 := a31) (ca_0 := c32) (ab_1 := a17) (cb_1 := c18) hx59
      have hle := Nat.le_trans hn0 H.size
      refine st_call (cx_lend (Loan.lend (Loan.lend Loan.nil)) hc60 (ent_f hc60.fn rfl) (show Hp S0 σ0 _ ([Ch.own 0 n0 (Sl a31 r28 c32) r28, Ch.own n0 n0 (Sl a17 r14 c18) r14] ++ ([] ++ [Ch.big K44, Ch.big K11, Ch.ro 0 (Sl aaList_0 aList_0 caList_0) aList_0])) from (H.sel' [1, 2, 0, 3, 4] rfl rfl)) (by rintro _ _ _ ⟨rfl, rfl⟩; exact trivial)) (wanted_yes rfl (by exact (congrArg some hb57))) ?_
      rintro _ σ61 ⟨_, ⟨rfl, rfl⟩, H, -, -⟩
      replace H : Hp S0 σ0 σ61 [Ch.own 0 n0 (Sl a31 r28 c32) r28, Ch.own n0 n0 (Sl a17 r14 c18) r14, Ch.big K44, Ch.big K11, Ch.ro 0 (Sl aaList_0 aList_0 caList_0) aList_0] := H
      clear hle
      replace H : Hp S0 σ0 σ61 [Ch.own 0 n0 (Sl a31 r28 c32) r28, Ch.own n0 n0 (Sl a17 r14 c18) r14, Ch.big K44, Ch.big K11, Ch.ro 0 (Sl aaList_0 aList_0 caList_0) aList_0] := H
      refine st_g (v := (B (!r58))) (congrArg some hb57) (rv_not rfl) ?_
      refine st (v := (B (!r58))) (rv_pick_f (congrArg B hb57) rfl) ?_
      refine w_end ?_
      obtain rfl := Option.some.inj h
      exact ⟨rfl, _, σ61, fr_join ⟨rfl, rfl, rfl, rfl, rfl, rfl, rfl, trivial⟩, rfl, H.sel' [4, 1, 0] rfl rfl⟩
    ·clear hj
     have h := h'
     clear h' H
     rintro e a w ⟨rfl, ρ, σ62, rfl, rfl, H⟩
     refine q_then ?_
     refine cd_cond o56 rfl (fun hb63 => ?_) (fun hb63 => ?_)
     ·replace h := bif_t hb63 h
      refine c_seq ?_
      refine rg ?_
      refine st (v := (B false)) (rv_assign rfl) ?_
      refine w_end ?_
      refine q_then ?_
      refine c_ret ?_
      refine q_then_r ?_
      obtain rfl := Option.some.inj h
      exact fin_ret (v := (B false)) (results_ok Try.results8 (res_tmp (v := (B false)) rfl res_nil) rfl) ⟨rfl, rfl⟩ (H.sel' [] rfl rfl)
     ·replace h := bif_f hb63 h
      refine c_skip ?_
      refine q_then ?_
      refine c_seq ?_
      refine rg ?_
      refine st (v := (I 1)) (rv_assign rfl) ?_
      refine w_end ?_
      refine q_then ?_
      refine c_seq ?_
      refine rg ?_
      refine st (v := (Sl a31 r28 c32)) (rv_move rfl) ?_
      refine st (v := (I 1)) (rv_move rfl) ?_
      replace H := H.ownLow 2 0 0 rfl (Nat.zero_le _) (Nat.zero_le _)
      obtain ⟨r64, hx65, h'⟩ := bind_some h
      clear h
      have h := h'; clear h'
      have hc66 := c_laws_markIntS (aa_0 := a31) (ca_0 := c32) hx65
      refine st_call (cx_call hc66 (ent_f hc66.fn rfl) hn0 (show Hp S0 σ0 _ ([Ch.own 0 0 (Sl a31 r28 c32) r28] ++ [Ch.ro 0 (Sl aaList_0 aList_0 caList_0) aList_0, Ch.own n0 n0 (Sl a17 r14 c18) r14]) from (H.sel' [0, 1, 2] rfl rfl))) wn ?_
      rintro _ σ68 ⟨_, ⟨rfl, rfl, hn67⟩, H, -⟩
      replace H : Hp S0 σ0 σ68 [Ch.own 0 0 (Sl a31 r64.2 c32) r64.2, Ch.ro 0 (Sl aaList_0 aList_0 caList_0) aList_0, Ch.own n0 n0 (Sl a17 r14 c18) r14] := H
      have hsl : (Sl a31 r28 c32) = (Sl a31 r64.2 c32) := sl_len hn67.symm
      try rw [hsl]
      try rw [hsl] at H
      clear hsl
      refine st (v := (I r64.1)) (rv_assign rfl) ?_
      refine w_end ?_
      refine q_then ?_
      refine c_seq ?_
      refine rg ?_
      refine st (v := (I 1)) (rv_assign rfl) ?_
      refine w_end ?_
      refine q_then ?_
      refine c_seq ?_
      refine rg ?_
      refine st (v := (Sl a31 r64.2 c32)) (rv_move rfl) ?_
      refine st (v := (I 1)) (rv_move rfl) ?_
      obtain ⟨r69, hx70, h'⟩ := bind_some h
      clear h
      have h := h'; clear h'
      have hc71 := c_laws_heldIntS (aa_0 := a31) (ca_0 := c32) hx70
      have hle := Nat.le_trans hn0 H.size
      refine st_call (cx_lend (Loan.lend Loan.nil) hc71 (ent_f hc71.fn rfl) (show Hp S0 σ0 _ ([Ch.own 0 0 (Sl a31 r64.2 c32) r64.2] ++ ([] ++ [Ch.ro 0 (Sl aaList_0 aList_0 caList_0) aList_0, Ch.own n0 n0 (Sl a17 r14 c18) r14])) from (H.sel' [0, 1, 2] rfl rfl)) (by rintro _ _ _ ⟨rfl, rfl⟩; exact trivial)) wn ?_
      rintro _ σ72 ⟨_, ⟨rfl, rfl⟩, H, -, -⟩
      replace H : Hp S0 σ0 σ72 [Ch.own 0 0 (Sl a31 r64.2 c32) r64.2, Ch.ro 0 (Sl aaList_0 aList_0 caList_0) aList_0, Ch.own n0 n0 (Sl a17 r14 c18) r14] := H
      clear hle
      replace H : Hp S0 σ0 σ72 [Ch.own 0 0 (Sl a31 r64.2 c32) r64.2, Ch.ro 0 (Sl aaList_0 aList_0 caList_0) aList_0, Ch.own n0 n0 (Sl a17 r14 c18) r14] := H
      refine st (v := (I r69)) (rv_assign rfl) ?_
      refine w_end ?_
      refine q_then ?_
      refine c_seq ?_
      refine c_seq ?_
      refine rg ?_
      refine st (v := (I r69)) (rv_move rfl) ?_
      refine st (v := (B (decide (r69 < 0)))) (rv_lss (a := r69) (b := 0) rfl rfl) ?_
      refine w_end ?_
      refine q_then ?_
      refine cd_cond (decide (r69 < 0)) rfl (fun hb73 => ?_) (fun hb73 => ?_)
      ·replace h := bif_t hb73 h
       refine c_seq ?_
       refine rg ?_
       refine st (v := (B false)) (rv_assign rfl) ?_
       refine w_end ?_
       refine q_then ?_
       refine c_ret ?_
       refine q_then_r ?_
       obtain rfl := Option.some.inj h
       exact fin_ret (v := (B false)) (results_ok Try.results8 (res_tmp (v := (B false)) rfl res_nil) rfl) ⟨rfl, rfl⟩ (H.sel' [] rfl rfl)
      ·replace h := bif_f hb73 h
       refine c_skip ?_
       refine q_then ?_
       refine c_seq ?_
       refine c_seq ?_
       refine rg ?_
       refine st (v := (I r69)) (rv_move rfl) ?_
       refine st (v := (I r64.1)) (rv_move rfl) ?_
       refine st (v := (B (r69 != r64.1))) (rv_neq (a := r69) (b := r64.1) rfl rfl) ?_
       refine w_end ?_
       refine q_then ?_
       refine cd_cond (r69 != r64.1) rfl (fun hb74 => ?_) (fun hb74 => ?_)
       ·replace h := bif_t hb74 h
        refine c_seq ?_
        refine rg ?_
        refine st (v := (B false)) (rv_assign rfl) ?_
        refine w_end ?_
        refine q_then ?_
        refine c_ret ?_
        refine q_then_r ?_
        obtain rfl := Option.some.inj h
        exact fin_ret (v := (B false)) (results_ok Try.results8 (res_tmp (v := (B false)) rfl res_nil) rfl) ⟨rfl, rfl⟩ (H.sel' [] rfl rfl)
       ·replace h := bif_f hb74 h
        refine c_skip ?_
        refine q_then ?_
        refine c_seq ?_
        refine rg ?_
        refine st (v := (Sl aaList_0 aList_0 caList_0)) (rv_move rfl) ?_
        obtain ⟨r75, hx76, h'⟩ := bind_some h
        clear h
        have h := h'; clear h'
        have hc77 := c_laws_toItemS (aa_0 := aaList_0) (ca_0 := caList_0) hx76
        refine st_call (cx_call hc77 (ent_f hc77.fn rfl) hn0 (show Hp S0 σ0 _ ([Ch.ro 0 (Sl aaList_0 aList_0 caList_0) aList_0] ++ [Ch.own 0 0 (Sl a31 r64.2 c32) r64.2, Ch.ro 0 (Sl aaList_0 aList_0 caList_0) aList_0, Ch.own n0 n0 (Sl a17 r14 c18) r14]) from (H.sel' [1, 0, 1, 2] rfl rfl))) wn ?_
        rintro _ σ82 ⟨_, ⟨a78, c79, K80, rfl, rfl, hK81⟩, H, -⟩
        replace H : Hp S0 σ0 σ82 [Ch.big K80, Ch.own 0 0 (Sl a31 r64.2 c32) r64.2, Ch.ro 0 (Sl aaList_0 aList_0 caList_0) aList_0, Ch.own n0 n0 (Sl a17 r14 c18) r14] := H
        refine st (v := (I aKind_1)) (rv_move rfl) ?_
        refine st (v := (I aMany_2)) (rv_move rfl) ?_
        refine st (v := (I aKey_3)) (rv_move rfl) ?_
        obtain ⟨r83, hx84, h'⟩ := bind_some h
        clear h
        have h := h'; clear h'
        have hc85 := c_impl_ReachedFrom (alist_0 := a78) (clist_0 := c79) hx84
        have hle := Nat.le_trans hn0 H.size
        refine st_call (cx_lend (Loan.lendB hK81.lends Loan.nil) hc85 (ent_f hc85.fn rfl) (show Hp S0 σ0 _ ([Ch.big K80] ++ ([] ++ [Ch.own 0 0 (Sl a31 r64.2 c32) r64.2, Ch.ro 0 (Sl aaList_0 aList_0 caList_0) aList_0, Ch.own n0 n0 (Sl a17 r14 c18) r14])) from (H.sel' [0, 1, 2, 3] rfl rfl)) (by rintro _ _ _ ⟨_, _, rfl, rfl⟩; exact ⟨Ab.ownSc, trivial⟩)) wn ?_
        rintro _ σ88 ⟨_, ⟨a86, c87, rfl, rfl⟩, H, -, -⟩
        replace H : Hp S0 σ0 σ88 [Ch.own 0 σ82.size (Sl a86 r83 c87) r83, Ch.big K80, Ch.own 0 0 (Sl a31 r64.2 c32) r64.2, Ch.ro 0 (Sl aaList_0 aList_0 caList_0) aList_0, Ch.own n0 n0 (Sl a17 r14 c18) r14] := H
        replace H := H.ownLow 0 0 n0 rfl (Nat.le_refl _) hle
        clear hle
        replace H : Hp S0 σ0 σ88 [Ch.own 0 n0 (Sl a86 r83 c87) r83, Ch.big K80, Ch.own 0 0 (Sl a31 r64.2 c32) r64.2, Ch.ro 0 (Sl aaList_0 aList_0 caList_0) aList_0, Ch.own n0 n0 (Sl a17 r14 c18) r14] := H
        refine st (v := (Sl a86 r83 c87)) (rv_assign rfl) ?_
        refine w_end ?_
        refine q_then ?_
        refine c_seq ?_
        refine c_seq ?_
        refine rg ?_
        refine st (v := (Sl a86 r83 c87)) (rv_move rfl) ?_
        refine st (v := (Sl a17 r14 c18)) (rv_move rfl) ?_
        replace H := H.ownLow 0 0 0 rfl (Nat.le_refl _) (Nat.zero_le _)
        obtain ⟨σ89, hw90, H, -⟩ := H.pub 0 rfl (Nat.le_refl _)
        rw [← hw90]; clear hw90
        obtain ⟨σ91, hw92, H, -⟩ := H.pub 4 rfl (Nat.le_refl _)
        rw [← hw92]; clear hw92
        replace H := H.roLow 0 0 rfl (Nat.zero_le _)
        obtain ⟨r93, hx94, h'⟩ := bind_some h
        clear h
        have h := h'; clear h'
        have hc95 := c_laws_eqIntS (aa_0 := a86) (ca_0 := c87) (ab_1 := a17) (cb_1 := c18) hx94
        refine st_call (cx_call hc95 (ent_f hc95.fn rfl) hn0 (show Hp S0 σ0 _ ([Ch.ro 0 (Sl a86 r83 c87) r83, Ch.ro 0 (Sl a17 r14 c18) r14] ++ [Ch.ro 0 (Sl a17 r14 c18) r14, Ch.ro n0 (Sl a17 r14 c18) r14, Ch.ro 0 (Sl a86 r83 c87) r83, Ch.big K80, Ch.own 0 0 (Sl a31 r64.2 c32) r64.2, Ch.ro 0 (Sl aaList_0 aList_0 caList_0) aList_0]) from (H.sel' [2, 0, 0, 1, 2, 3, 4, 5] rfl rfl))) wn ?_
        rintro _ σ96 ⟨_, ⟨rfl, rfl⟩, H, -⟩
        replace H : Hp S0 σ0 σ96 [Ch.ro 0 (Sl a17 r14 c18) r14, Ch.ro n0 (Sl a17 r14 c18) r14, Ch.ro 0 (Sl a86 r83 c87) r83, Ch.big K80, Ch.own 0 0 (Sl a31 r64.2 c32) r64.2, Ch.ro 0 (Sl aaList_0 aList_0 caList_0) aList_0] := H
        refine st (v := (B (!r93))) (rv_not rfl) ?_
        refine w_end ?_
        refine q_then ?_
        refine cd_cond (!r93) rfl (fun hb97 => ?_) (fun hb97 => ?_)
        ·replace h := bif_t hb97 h
         refine c_seq ?_
         refine rg ?_
         refine st (v := (B false)) (rv_assign rfl) ?_
         refine w_end ?_
         refine q_then ?_
         refine c_ret ?_
         refine q_then_r ?_
         obtain rfl := Option.some.inj h
         exact fin_ret (v := (B false)) (results_ok Try.results8 (res_tmp (v := (B false)) rfl res_nil) rfl) ⟨rfl, rfl⟩ (H.sel' [] rfl rfl)
        ·replace h := bif_f hb97 h
         refine c_skip ?_
         refine q_then ?_
         refine c_seq ?_
         refine rg ?_
         refine st (v := (I 1)) (rv_assign rfl) ?_
         refine w_end ?_
         refine q_then ?_
         refine c_seq ?_
         refine rg ?_
         refine st (v := (Sl a31 r64.2 c32)) (rv_move rfl) ?_
         refine st (v := (I 1)) (rv_move rfl) ?_
         obtain ⟨σ98, hw99, H, -⟩ := H.pub 4 rfl (Nat.le_refl _)
         rw [← hw99]; clear hw99
         obtain ⟨r100, hx101, h'⟩ := bind_some h
         clear h
         have h := h'; clear h'
         have hc102 := c_laws_heldIntS (aa_0 := a31) (ca_0 := c32) hx101
         refine st_call (cx_call hc102 (ent_f hc102.fn rfl) hn0 (show Hp S0 σ0 _ ([Ch.ro 0 (Sl a31 r64.2 c32) r64.2] ++ [Ch.ro 0 (Sl a31 r64.2 c32) r64.2, Ch.ro 0 (Sl a17 r14 c18) r14, Ch.ro n0 (Sl a17 r14 c18) r14, Ch.ro 0 (Sl a86 r83 c87) r83, Ch.big K80, Ch.ro 0 (Sl aaList_0 aList_0 caList_0) aList_0]) from (H.sel' [0, 0, 1, 2, 3, 4, 5] rfl rfl))) wn ?_
         rintro _ σ103 ⟨_, ⟨rfl, rfl⟩, H, -⟩
         replace H : Hp S0 σ0 σ103 [Ch.ro 0 (Sl a31 r64.2 c32) r64.2, Ch.ro 0 (Sl a17 r14 c18) r14, Ch.ro n0 (Sl a17 r14 c18) r14, Ch.ro 0 (Sl a86 r83 c87) r83, Ch.big K80, Ch.ro 0 (Sl aaList_0 aList_0 caList_0) aList_0] := H
         refine st (v := (I r100)) (rv_assign rfl) ?_
         refine w_end ?_
         refine q_then ?_
         refine c_seq ?_
         refine c_seq ?_
         refine rg ?_
         refine st (v := (I r100)) (rv_move rfl) ?_
         refine st (v := (B (decide (r100 < 0)))) (rv_lss (a := r100) (b := 0) rfl rfl) ?_
         refine w_end ?_
         refine q_then ?_
         refine cd_cond (decide (r100 < 0)) rfl (fun hb104 => ?_) (fun hb104 => ?_)
         ·replace h := bif_t hb104 h
          refine c_seq ?_
          refine rg ?_
          refine st (v := (B false)) (rv_assign rfl) ?_
          refine w_end ?_
          refine q_then ?_
          refine c_ret ?_
          refine q_then_r ?_
          obtain rfl := Option.some.inj h
          exact fin_ret (v := (B false)) (results_ok Try.results8 (res_tmp (v := (B false)) rfl res_nil) rfl) ⟨rfl, rfl⟩ (H.sel' [] rfl rfl)
         ·replace h := bif_f hb104 h
          refine c_skip ?_
          refine q_then ?_
          refine c_seq ?_
          refine c_seq ?_
          refine rg ?_
          refine st (v := (I r100)) (rv_move rfl) ?_
          refine st (v := (I r64.1)) (rv_move rfl) ?_
          refine st (v := (B (r100 != r64.1))) (rv_neq (a := r100) (b := r64.1) rfl rfl) ?_
          refine w_end ?_
          refine q_then ?_
          refine cd_cond (r100 != r64.1) rfl (fun hb105 => ?_) (fun hb105 => ?_)
          ·replace h := bif_t hb105 h
           refine c_seq ?_
           refine rg ?_
           refine st (v := (B false)) (rv_assign rfl) ?_
           refine w_end ?_
           refine q_then ?_
           refine c_ret ?_
           refine q_then_r ?_
           obtain rfl := Option.some.inj h
           exact fin_ret (v := (B false)) (results_ok Try.results8 (res_tmp (v := (B false)) rfl res_nil) rfl) ⟨rfl, rfl⟩ (H.sel' [] rfl rfl)
          ·replace h := bif_f hb105 h
           refine c_skip ?_
           refine q_then ?_
           refine c_seq ?_
           refine rg ?_
           refine st (v := (B true)) (rv_assign rfl) ?_
           refine w_end ?_
           refine q_then ?_
           refine c_ret ?_
           obtain rfl := Option.some.inj h
           exact fin_ret (v := (B true)) (results_ok Try.results8 (res_tmp (v := (B true)) rfl res_nil) rfl) ⟨rfl, rfl⟩ (H.sel' [] rfl rfl)

end Go.Vs
