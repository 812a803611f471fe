/- The functions compute what their models say. -/
import Derived.Test.YtbbddfckcpfoaaaGreatKReachedFromC6
set_option linter.unusedVariables false
set_option linter.unusedSimpArgs false
set_option maxRecDepth 20000
namespace Go.Vs
open Go Go.Proofs
attribute [local irreducible] Code.wp Code.wpIn wpList wpListIn wpQuiet Calls CallsIn

theorem c_slices_partitionOrdered_int {Hj : List Int} {Dx : Int} {Dy : Int} {Jk : Int} {Hk : Option Addr} {Hl : Nat} {r : Int × Bool × (List Int)} (h : M.slices_partitionOrdered_int Hj Dx Dy Jk = some r) :
    Cal2 Tryz.prog 185 [(Sl Hk Hj Hl), (I Dx), (I Dy), (I Jk)] [Ch.own 0 0 (Sl Hk Hj Hl) Hj] (fun n0 v L => v = (.tuple #[(I r.1), (B r.2.1)]) ∧ L = [Ch.own 0 0 (Sl Hk r.2.2 Hl) r.2.2] ∧ r.2.2.length = Hj.length) := by
 refine cal2 (n := 168) Tryz.func185 rfl rfl rfl rfl ?_
 intro S0 σ0 n0 hn0 H
 unfold M.slices_partitionOrdered_int at h
 refine c_seq (rg (sa (I 0) rfl (sa (B false) rfl (w_end (q_then (c_seq ?_))))))
 revert h; refine br fun x1 hx2 h => ?_
 obtain ⟨b4, o5, hi3, -⟩ := (H.own 0 rfl).ix hx2
 have hc6 := ((H.own 0 rfl).at hx2 hi3).int
 revert h; refine br fun x7 hx8 h => ?_
 obtain ⟨b10, o11, hi9, -⟩ := (H.own 0 rfl).ix hx8
 have hc12 := ((H.own 0 rfl).at hx8 hi9).int
 revert h; refine br fun x13 hx14 h => ?_
 obtain ⟨b16, o17, hi15, -⟩ := (H.own 0 rfl).ix hx14
 have Hs := H
 refine rg2 (σ := σ0) (Nm := Unit) 14 [13] [[false], [true]] [[(0, 0)], [(0, 0)], [(0, 0), (1, 1)], [(0, 0), (1, 1)], [(0, 0)], [(0, 0)], [(0, 0)], [(0, 0)], [(0, 0)], [(0, 0)], [(0, 0)], [(0, 0)], [(0, 0)], [(0, 1)]] 1 [fun _ => fun σm => Hp S0 σ0 σm [Ch.own 0 0 (Sl Hk Hj Hl) Hj] ∧ Md (cov []) σ0 σm, fun _ => fun σm => Hp S0 σ0 σm [Ch.own 0 0 (Sl Hk Hj Hl) (Hj.set Dx.toNat x1)] ∧ Md (fun i => (cov []) i ∨ (fun b => blk (Sl Hk Hj Hl) = some b) i) σ0 σm] [fun _ => (Sl Hk Hj Hl), fun _ => (I Dx), fun _ => (Sl Hk Hj Hl), fun _ => (I Jk), fun _ => (Sl Hk Hj Hl), fun _ => (I Jk), fun _ => (pt b4 o5), fun _ => (I x1), fun _ => (Sl Hk Hj Hl), fun _ => (I Dx), fun _ => (pt b10 o11), fun _ => (I x7), fun _ => (pt b16 o17), fun _ => undef] () (by kernel_rfl) (by kernel_rfl) ?_ ?_ ?_
 ·intro σm m0
  exact ⟨H.grow (m0.mono fun _ h => h.elim), m0⟩
 ·refine ac rfl (by
    intro k _nm ρ σm hJ hoff hdep
    have e0 := look_off (N := 168) (hoff 0 rfl) rfl
    exact dp_v (v := (Sl Hk Hj Hl)) wn (rv_move e0) rfl hJ) ?_
  refine ac rfl (by
    intro k _nm ρ σm hJ hoff hdep
    have e1 := look_off (N := 168) (hoff 1 rfl) rfl
    exact dp_v (v := (I Dx)) wn (rv_move e1) rfl hJ) ?_
  refine ac rfl (by
    intro k _nm ρ σm hJ hoff hdep
    have e0 := look_off (N := 168) (hoff 0 rfl) rfl
    exact dp_v (v := (Sl Hk Hj Hl)) wn (rv_move e0) rfl hJ) ?_
  refine ac rfl (by
    intro k _nm ρ σm hJ hoff hdep
    have e3 := look_off (N := 168) (hoff 3 rfl) rfl
    exact dp_v (v := (I Jk)) wn (rv_move e3) rfl hJ) ?_
  refine ac rfl (by
    intro k _nm ρ σm hJ hoff hdep
    have e0 := look_off (N := 168) (hoff 0 rfl) rfl
    exact dp_v (v := (Sl Hk Hj Hl)) wn (rv_move e0) rfl hJ) ?_
  refine ac rfl (by
    intro k _nm ρ σm hJ hoff hdep
    have e3 := look_off (N := 168) (hoff 3 rfl) rfl
    exact dp_v (v := (I Jk)) wn (rv_move e3) rfl hJ) ?_
  refine ac rfl (by
    intro k _nm ρ σm hJ hoff hdep
    have e16 := hdep 4 rfl rfl 16 rfl
    have e17 := hdep 5 rfl rfl 17 rfl
    exact dp_v (v := (pt b4 o5)) wn (rv_ix Tryz.underlying27 ti3 e16 e17 hi3) rfl hJ) ?_
  refine all_cons (by
    refine ⟨?_, ?_⟩
    ·intro _nm ρ σm hJ hoff hdep
     have e18 := hdep 6 rfl rfl 18 rfl
     obtain ⟨H, m⟩ := id hJ
     have hc6 := ((H.own 0 rfl).at hx2 hi3).int
     exact dp_v (v := (I x1)) wn (rv_load1 Tryz.underlying3 rfl e18 hc6) rfl hJ
    trivial) ?_
  refine ac rfl (by
    intro k _nm ρ σm hJ hoff hdep
    have e0 := look_off (N := 168) (hoff 0 rfl) rfl
    exact dp_v (v := (Sl Hk Hj Hl)) wn (rv_move e0) rfl hJ) ?_
  refine ac rfl (by
    intro k _nm ρ σm hJ hoff hdep
    have e1 := look_off (N := 168) (hoff 1 rfl) rfl
    exact dp_v (v := (I Dx)) wn (rv_move e1) rfl hJ) ?_
  refine ac rfl (by
    intro k _nm ρ σm hJ hoff hdep
    have e20 := hdep 8 rfl rfl 20 rfl
    have e21 := hdep 9 rfl rfl 21 rfl
    exact dp_v (v := (pt b10 o11)) wn (rv_ix Tryz.underlying27 ti3 e20 e21 hi9) rfl hJ) ?_
  refine all_cons (by
    refine ⟨?_, ?_⟩
    ·intro _nm ρ σm hJ hoff hdep
     have e22 := hdep 10 rfl rfl 22 rfl
     obtain ⟨H, m⟩ := id hJ
     have hc12 := ((H.own 0 rfl).at hx8 hi9).int
     exact dp_v (v := (I x7)) wn (rv_load1 Tryz.underlying3 rfl e22 hc12) rfl hJ
    trivial) ?_
  refine ac rfl (by
    intro k _nm ρ σm hJ hoff hdep
    have e12 := hdep 0 rfl rfl 12 rfl
    have e13 := hdep 1 rfl rfl 13 rfl
    exact dp_v (v := (pt b16 o17)) wn (rv_ix Tryz.underlying27 ti3 e12 e13 hi15) rfl hJ) ?_
  refine all_cons (by
    refine ⟨?_, ?_⟩
    ·intro _nm ρ σm hJ hoff hdep
     have e24 := hdep 12 rfl rfl 24 rfl
     have e19 := hdep 7 rfl rfl 19 rfl
     obtain ⟨H, m⟩ := id hJ
     refine dp_exS wn rfl (ex_store_own (e' := x1) (vs := [(I x1)]) (k := 0) H (i := 0) rfl ti3 hx14 hi15 e24 rfl e19 rfl rfl (Nat.le_of_ble_eq_true rfl) (by simp [plain]) (by rintro _ rfl; exact rfl)) ?_
     rintro σq ⟨H2, m2⟩
     exact ⟨_, (), rfl, ⟨H2.sel' [0] rfl rfl, m.comp m2⟩, stab [0, 1, 2, 3, 4, 5, 6, 7, 8, 9, 10, 11, 12] (by kernel_rfl) ⟨rfl, rfl, rfl, rfl, rfl, rfl, rfl, rfl, rfl, rfl, rfl, rfl, rfl, trivial⟩⟩
    trivial) ?_
  exact all_nil
 ·intro _nm ρ σ18 hJ hoff hrel
  have e0 := look_off (N := 168) (hoff 0 rfl) rfl
  have e1 := look_off (N := 168) (hoff 1 rfl) rfl
  have e2 := look_off (N := 168) (hoff 2 rfl) rfl
  have e14 := hrel 2 rfl 14 rfl
  have e15 := hrel 3 rfl 15 rfl
  have e23 := hrel 11 rfl 23 rfl
  obtain ⟨H, -⟩ := (show Hp S0 σ0 σ18 [Ch.own 0 0 (Sl Hk Hj Hl) (Hj.set Dx.toNat x1)] ∧ Md (fun i => (cov []) i ∨ (fun b => blk (Sl Hk Hj Hl) = some b) i) σ0 σ18 from hJ)
  clear hJ Hs
  rw [fr_lookL (L := [(0, (Sl Hk Hj Hl)), (1, (I Dx)), (2, (I Dy)), (14, (Sl Hk Hj Hl)), (15, (I Jk)), (23, (I x7))]) ⟨e0, e1, e2, e14, e15, e23, trivial⟩]
  clear hoff hrel e0 e1 e2 e14 e15 e23
  have hsl : (Sl Hk Hj Hl) = (Sl Hk (Hj.set Dx.toNat x1) Hl) := sl_len (by simp)
  rw [hsl]; rw [hsl] at H; clear hsl
  revert h; refine br fun x19 hx20 h => ?_
  obtain ⟨b22, o23, hi21, -⟩ := (H.own 0 rfl).ix hx20
  refine st (v := (pt b22 o23)) (rv_ix Tryz.underlying27 ti3 rfl rfl hi21) ?_
  refine st_exS (ex_store_own (e' := x7) (vs := [(I x7)]) (k := 0) H (i := 0) rfl ti3 hx20 hi21 rfl rfl rfl rfl rfl (Nat.le_of_ble_eq_true rfl) (by simp [plain]) (by rintro _ rfl; exact rfl)) wn ?_
  rintro σ24 ⟨H, -⟩
  have hsl : (Sl Hk (Hj.set Dx.toNat x1) Hl) = (Sl Hk ((Hj.set Dx.toNat x1).set Jk.toNat x7) Hl) := sl_len List.length_set.symm
  rw [hsl]; rw [hsl] at H; clear hsl
  refine w_end (q_then (c_seq (rg (sm (I Dx) rfl (st (v := (I (w64 (Dx + 1)))) (rv_add (a := Dx) (b := 1) rfl rfl) (sm (I Dy) rfl (st (v := (I (w64 (Dy - 1)))) (rv_sub (a := Dy) (b := 1) rfl rfl) (sa (I (w64 (Dx + 1))) rfl (sa (I (w64 (Dy - 1))) rfl (w_end (q_then ?_)))))))))))
  refine c_seq ?_
  obtain ⟨o25, hj, h'⟩ := bind_some h
  clear h
  refine c_cut (fun e a w => e = .normal ∧ ∃ (ρ : Nat → Value) (σ : St), a = fr 168 (updL ρ [(0, (Sl Hk ((Hj.set Dx.toNat x1).set Jk.toNat x7) Hl)), (1, (I Dx)), (10, (I o25)), (11, (I (w64 (Dy - 1))))]) ∧ w = σ.w ∧ Hp S0 σ0 σ [Ch.own 0 0 (Sl Hk ((Hj.set Dx.toNat x1).set Jk.toNat x7) Hl) ((Hj.set Dx.toNat x1).set Jk.toNat x7)]) ?_ ?_
  ·clear h'
   rename _ = some o25 => h
   refine c_blk (wp_loopM _ h (fun s26 a w => ∃ (ρ : Nat → Value) (σ : St), a = fr 168 (updL ρ [(0, (Sl Hk ((Hj.set Dx.toNat x1).set Jk.toNat x7) Hl)), (1, (I Dx)), (10, (I s26)), (11, (I (w64 (Dy - 1))))]) ∧ w = σ.w ∧ Hp S0 σ0 σ [Ch.own 0 0 (Sl Hk ((Hj.set Dx.toNat x1).set Jk.toNat x7) Hl) ((Hj.set Dx.toNat x1).set Jk.toNat x7)]) ⟨_, σ24, fr_join ⟨rfl, rfl, rfl, rfl, trivial⟩, rfl, H.sel' [0] rfl rfl⟩ ?_)
   clear h H
   rintro s26 a w o ⟨ρ, σ27, rfl, rfl, H⟩ h hres
   refine c_seq (c_seq ?_)
   obtain ⟨o28, hj, h'⟩ := bind_some h
   clear h
   refine c_cut (fun e a w => e = .normal ∧ ∃ (ρ : Nat → Value) (σ : St), a = fr 168 (updL ρ [(0, (Sl Hk ((Hj.set Dx.toNat x1).set Jk.toNat x7) Hl)), (1, (I Dx)), (10, (I s26)), (11, (I (w64 (Dy - 1)))), (43, (B o28))]) ∧ w = σ.w ∧ Hp S0 σ0 σ [Ch.own 0 0 (Sl Hk ((Hj.set Dx.toNat x1).set Jk.toNat x7) Hl) ((Hj.set Dx.toNat x1).set Jk.toNat x7)]) ?_ ?_
   ·clear h'
    rename _ = some o28 => h
    refine rgP (σ := σ27) 12 (by kernel_rfl) (by kernel_rfl) (by kernel_rfl) ?_
    refine sq (v := (I s26)) (rv_move rfl) (sq (v := (I (w64 (Dy - 1)))) (rv_move rfl) (sq (v := (B (decide (s26 ≤ (w64 (Dy - 1)))))) (rv_leq (a := s26) (b := (w64 (Dy - 1))) rfl rfl) (sq (v := (B (decide (s26 ≤ (w64 (Dy - 1)))))) (rv_move rfl) ?_)))
    rcases Bool.eq_false_or_eq_true (decide (s26 ≤ (w64 (Dy - 1)))) with hb29 | hb29
    ·replace h := bif_t hb29 h
     refine sq_g (v := (Sl Hk ((Hj.set Dx.toNat x1).set Jk.toNat x7) Hl)) (congrArg some hb29) (rv_move rfl) (sq_g (v := (I s26)) (congrArg some hb29) (rv_move rfl) ?_)
     revert h; refine br fun x30 hx31 h => ?_
     obtain ⟨b33, o34, hi32, -⟩ := (H.own 0 rfl).ix hx31
     refine sq_g (v := (pt b33 o34)) (congrArg some hb29) (rv_ix Tryz.underlying27 ti3 rfl rfl hi32) ?_
     have hc35 := ((H.own 0 rfl).at hx31 hi32).int
     refine sq_g (v := (I x30)) (congrArg some hb29) (rv_load1 Tryz.underlying3 rfl rfl hc35) (sq_g (v := (Sl Hk ((Hj.set Dx.toNat x1).set Jk.toNat x7) Hl)) (congrArg some hb29) (rv_move rfl) (sq_g (v := (I Dx)) (congrArg some hb29) (rv_move rfl) ?_))
     revert h; refine br fun x36 hx37 h => ?_
     obtain ⟨b39, o40, hi38, -⟩ := (H.own 0 rfl).ix hx37
     refine sq_g (v := (pt b39 o40)) (congrArg some hb29) (rv_ix Tryz.underlying27 ti3 rfl rfl hi38) ?_
     have hc41 := ((H.own 0 rfl).at hx37 hi38).int
     refine sq_g (v := (I x36)) (congrArg some hb29) (rv_load1 Tryz.underlying3 rfl rfl hc41) (sq_end ?_)
     intro σ42 hm43
     replace H := H.grow (hm43.mono fun _ h => h); clear hm43
     revert h; refine br fun r44 hx45 h => ?_
     have hc46 := c_cmp_Less_int hx45
     refine st_call (cx_call hc46 (ent_f hc46.fn rfl) hn0 (H.sel' [0] rfl rfl : Hp S0 σ0 _ ([] ++ _))) (wanted_yes rfl (by exact (congrArg some hb29))) ?_
     rintro _ σ47 ⟨_, ⟨rfl, rfl⟩, H, -⟩
     replace H : Hp _ _ _ [_] := H
     refine st (v := (B r44)) (rv_pick_t (congrArg B hb29) rfl) (w_end ?_)
     obtain rfl := sj h
     exact ⟨rfl, _, σ47, fr_join ⟨rfl, rfl, rfl, rfl, rfl, trivial⟩, rfl, H.sel' [0] rfl rfl⟩
    ·replace h := bif_f hb29 h
     refine sq_skip (congrArg some hb29) (sq_skip (congrArg some hb29) (sq_skip (congrArg some hb29) (sq_skip (congrArg some hb29) (sq_skip (congrArg some hb29) (sq_skip (congrArg some hb29) (sq_skip (congrArg some hb29) (sq_skip (congrArg some hb29) (sq_end ?_))))))))
     intro σ48 hm49
     replace H := H.grow (hm49.mono fun _ h => h); clear hm49
     refine st_skip (congrArg some hb29) (st (v := (B false)) (rv_pick_f (congrArg B hb29) rfl) (w_end ?_))
     obtain rfl := sj h
     exact ⟨rfl, _, σ48, fr_join ⟨rfl, rfl, rfl, rfl, rfl, trivial⟩, rfl, H.sel' [0] rfl rfl⟩
   ·clear hj
    have h := h'
    clear h' H
    rintro e a w ⟨rfl, ρ, σ50, rfl, rfl, H⟩
    refine q_then ?_
    refine cd_cond o28 rfl (fun hb51 => ?_) (fun hb51 => ?_)
    ·replace h := bif_t hb51 h
     refine c_skip (q_then (c_blk (rg (sm (I s26) rfl (st (v := (I (w64 (s26 + 1)))) (rv_add (a := s26) (b := 1) rfl rfl) (sa (I (w64 (s26 + 1))) rfl (w_end (q_blk (q_then ?_)))))))))
     obtain rfl := sj h
     exact ⟨_, rfl, _, σ50, fr_join ⟨rfl, rfl, rfl, rfl, trivial⟩, rfl, H.sel' [0] rfl rfl⟩
    ·replace h := bif_f hb51 h
     refine c_exit (q_then_x (q_then_x (q_blk_hit ?_)))
     obtain rfl := sj h
     obtain rfl := hres _ rfl
     exact ⟨rfl, _, σ50, fr_join ⟨rfl, rfl, rfl, rfl, trivial⟩, rfl, H.sel' [0] rfl rfl⟩
  ·clear hj
   have h := h'
   clear h' H
   rintro e a w ⟨rfl, ρ, σ52, rfl, rfl, H⟩
   refine q_then (c_seq ?_)
   obtain ⟨o53, hj, h'⟩ := bind_some h
   clear h
   refine c_cut (fun e a w => e = .normal ∧ ∃ (ρ : Nat → Value) (σ : St), a = fr 168 (updL ρ [(0, (Sl Hk ((Hj.set Dx.toNat x1).set Jk.toNat x7) Hl)), (1, (I Dx)), (10, (I o25)), (11, (I o53))]) ∧ w = σ.w ∧ Hp S0 σ0 σ [Ch.own 0 0 (Sl Hk ((Hj.set Dx.toNat x1).set Jk.toNat x7) Hl) ((Hj.set Dx.toNat x1).set Jk.toNat x7)]) ?_ ?_
   ·clear h'
    rename _ = some o53 => h
    refine c_blk (wp_loopM _ h (fun s54 a w => ∃ (ρ : Nat → Value) (σ : St), a = fr 168 (updL ρ [(0, (Sl Hk ((Hj.set Dx.toNat x1).set Jk.toNat x7) Hl)), (1, (I Dx)), (10, (I o25)), (11, (I s54))]) ∧ w = σ.w ∧ Hp S0 σ0 σ [Ch.own 0 0 (Sl Hk ((Hj.set Dx.toNat x1).set Jk.toNat x7) Hl) ((Hj.set Dx.toNat x1).set Jk.toNat x7)]) ⟨_, σ52, fr_join ⟨rfl, rfl, rfl, rfl, trivial⟩, rfl, H.sel' [0] rfl rfl⟩ ?_)
    clear h H
    rintro s54 a w o ⟨ρ, σ55, rfl, rfl, H⟩ h hres
    refine c_seq (c_seq ?_)
    obtain ⟨o56, hj, h'⟩ := bind_some h
    clear h
    refine c_cut (fun e a w => e = .normal ∧ ∃ (ρ : Nat → Value) (σ : St), a = fr 168 (updL ρ [(0, (Sl Hk ((Hj.set Dx.toNat x1).set Jk.toNat x7) Hl)), (1, (I Dx)), (10, (I o25)), (11, (I s54)), (60, (B o56))]) ∧ w = σ.w ∧ Hp S0 σ0 σ [Ch.own 0 0 (Sl Hk ((Hj.set Dx.toNat x1).set Jk.toNat x7) Hl) ((Hj.set Dx.toNat x1).set Jk.toNat x7)]) ?_ ?_
    ·clear h'
     rename _ = some o56 => h
     refine rgP (σ := σ55) 12 (by kernel_rfl) (by kernel_rfl) (by kernel_rfl) ?_
     refine sq (v := (I o25)) (rv_move rfl) (sq (v := (I s54)) (rv_move rfl) (sq (v := (B (decide (o25 ≤ s54)))) (rv_leq (a := o25) (b := s54) rfl rfl) (sq (v := (B (decide (o25 ≤ s54)))) (rv_move rfl) ?_)))
     rcases Bool.eq_false_or_eq_true (decide (o25 ≤ s54)) with hb57 | hb57
     ·replace h := bif_t hb57 h
      refine sq_g (v := (Sl Hk ((Hj.set Dx.toNat x1).set Jk.toNat x7) Hl)) (congrArg some hb57) (rv_move rfl) (sq_g (v := (I s54)) (congrArg some hb57) (rv_move rfl) ?_)
      revert h; refine br fun x58 hx59 h => ?_
      obtain ⟨b61, o62, hi60, -⟩ := (H.own 0 rfl).ix hx59
      refine sq_g (v := (pt b61 o62)) (congrArg some hb57) (rv_ix Tryz.underlying27 ti3 rfl rfl hi60) ?_
      have hc63 := ((H.own 0 rfl).at hx59 hi60).int
      refine sq_g (v := (I x58)) (congrArg some hb57) (rv_load1 Tryz.underlying3 rfl rfl hc63) (sq_g (v := (Sl Hk ((Hj.set Dx.toNat x1).set Jk.toNat x7) Hl)) (congrArg some hb57) (rv_move rfl) (sq_g (v := (I Dx)) (congrArg some hb57) (rv_move rfl) ?_))
      revert h; refine br fun x64 hx65 h => ?_
      obtain ⟨b67, o68, hi66, -⟩ := (H.own 0 rfl).ix hx65
      refine sq_g (v := (pt b67 o68)) (congrArg some hb57) (rv_ix Tryz.underlying27 ti3 rfl rfl hi66) ?_
      have hc69 := ((H.own 0 rfl).at hx65 hi66).int
      refine sq_g (v := (I x64)) (congrArg some hb57) (rv_load1 Tryz.underlying3 rfl rfl hc69) (sq_end ?_)
      intro σ70 hm71
      replace H := H.grow (hm71.mono fun _ h => h); clear hm71
      revert h; refine br fun r72 hx73 h => ?_
      have hc74 := c_cmp_Less_int hx73
      refine st_call (cx_call hc74 (ent_f hc74.fn rfl) hn0 (H.sel' [0] rfl rfl : Hp S0 σ0 _ ([] ++ _))) (wanted_yes rfl (by exact (congrArg some hb57))) ?_
      rintro _ σ75 ⟨_, ⟨rfl, rfl⟩, H, -⟩
      replace H : Hp _ _ _ [_] := H
      refine st_g (v := (B (!r72))) (congrArg some hb57) (rv_not rfl) (st (v := (B (!r72))) (rv_pick_t (congrArg B hb57) rfl) (w_end ?_))
      obtain rfl := sj h
      exact ⟨rfl, _, σ75, fr_join ⟨rfl, rfl, rfl, rfl, rfl, trivial⟩, rfl, H.sel' [0] rfl rfl⟩
     ·replace h := bif_f hb57 h
      refine sq_skip (congrArg some hb57) (sq_skip (congrArg some hb57) (sq_skip (congrArg some hb57) (sq_skip (congrArg some hb57) (sq_skip (congrArg some hb57) (sq_skip (congrArg some hb57) (sq_skip (congrArg some hb57) (sq_skip (congrArg some hb57) (sq_end ?_))))))))
      intro σ76 hm77
      replace H := H.grow (hm77.mono fun _ h => h); clear hm77
      refine st_skip (congrArg some hb57) (st_skip (congrArg some hb57) (st (v := (B false)) (rv_pick_f (congrArg B hb57) rfl) (w_end ?_)))
      obtain rfl := sj h
      exact ⟨rfl, _, σ76, fr_join ⟨rfl, rfl, rfl, rfl, rfl, trivial⟩, rfl, H.sel' [0] rfl rfl⟩
    ·clear hj
     have h := h'
     clear h' H
     rintro e a w ⟨rfl, ρ, σ78, rfl, rfl, H⟩
     refine q_then ?_
     refine cd_cond o56 rfl (fun hb79 => ?_) (fun hb79 => ?_)
     ·replace h := bif_t hb79 h
      refine c_skip (q_then (c_blk (rg (sm (I s54) rfl (st (v := (I (w64 (s54 - 1)))) (rv_sub (a := s54) (b := 1) rfl rfl) (sa (I (w64 (s54 - 1))) rfl (w_end (q_blk (q_then ?_)))))))))
      obtain rfl := sj h
      exact ⟨_, rfl, _, σ78, fr_join ⟨rfl, rfl, rfl, rfl, trivial⟩, rfl, H.sel' [0] rfl rfl⟩
     ·replace h := bif_f hb79 h
      refine c_exit (q_then_x (q_then_x (q_blk_hit ?_)))
      obtain rfl := sj h
      obtain rfl := hres _ rfl
      exact ⟨rfl, _, σ78, fr_join ⟨rfl, rfl, rfl, rfl, trivial⟩, rfl, H.sel' [0] rfl rfl⟩
   ·clear hj
    have h := h'
    clear h' H
    rintro e a w ⟨rfl, ρ, σ80, rfl, rfl, H⟩
    refine q_then (c_seq (c_seq (rg (sm (I o25) rfl (sm (I o53) rfl (st (v := (B (decide (o53 < o25)))) (rv_gtr (a := o25) (b := o53) rfl rfl) (w_end (q_then ?_))))))))
    refine cd_cond (decide (o53 < o25)) rfl (fun hb81 => ?_) (fun hb81 => ?_)
    ·replace h := bif_t hb81 h
     refine c_seq ?_
     revert h; refine br fun x82 hx83 h => ?_
     obtain ⟨b85, o86, hi84, -⟩ := (H.own 0 rfl).ix hx83
     have hc87 := ((H.own 0 rfl).at hx83 hi84).int
     revert h; refine br fun x88 hx89 h => ?_
     obtain ⟨b91, o92, hi90, -⟩ := (H.own 0 rfl).ix hx89
     have hc93 := ((H.own 0 rfl).at hx89 hi90).int
     revert h; refine br fun x94 hx95 h => ?_
     obtain ⟨b97, o98, hi96, -⟩ := (H.own 0 rfl).ix hx95
     have Hs := H
     refine rg2 (σ := σ80) (Nm := Unit) 14 [13] [[false], [true]] [[(0, 0)], [(0, 0)], [(0, 0), (1, 1)], [(0, 0), (1, 1)], [(0, 0)], [(0, 0)], [(0, 0)], [(0, 0)], [(0, 0)], [(0, 0)], [(0, 0)], [(0, 0)], [(0, 0)], [(0, 1)]] 1 [fun _ => fun σm => Hp S0 σ0 σm [Ch.own 0 0 (Sl Hk ((Hj.set Dx.toNat x1).set Jk.toNat x7) Hl) ((Hj.set Dx.toNat x1).set Jk.toNat x7)] ∧ Md (cov []) σ80 σm, fun _ => fun σm => Hp S0 σ0 σm [Ch.own 0 0 (Sl Hk ((Hj.set Dx.toNat x1).set Jk.toNat x7) Hl) (((Hj.set Dx.toNat x1).set Jk.toNat x7).set o53.toNat x82)] ∧ Md (fun i => (cov []) i ∨ (fun b => blk (Sl Hk ((Hj.set Dx.toNat x1).set Jk.toNat x7) Hl) = some b) i) σ80 σm] [fun _ => (Sl Hk ((Hj.set Dx.toNat x1).set Jk.toNat x7) Hl), fun _ => (I o53), fun _ => (Sl Hk ((Hj.set Dx.toNat x1).set Jk.toNat x7) Hl), fun _ => (I Dx), fun _ => (Sl Hk ((Hj.set Dx.toNat x1).set Jk.toNat x7) Hl), fun _ => (I Dx), fun _ => (pt b85 o86), fun _ => (I x82), fun _ => (Sl Hk ((Hj.set Dx.toNat x1).set Jk.toNat x7) Hl), fun _ => (I o53), fun _ => (pt b91 o92), fun _ => (I x88), fun _ => (pt b97 o98), fun _ => undef] () (by kernel_rfl) (by kernel_rfl) ?_ ?_ ?_
     ·intro σm m0
      exact ⟨H.grow (m0.mono fun _ h => h.elim), m0⟩
     ·refine ac rfl (by
        intro k _nm ρ σm hJ hoff hdep
        have e0 := look_off (N := 168) (hoff 0 rfl) rfl
        exact dp_v (v := (Sl Hk ((Hj.set Dx.toNat x1).set Jk.toNat x7) Hl)) wn (rv_move e0) rfl hJ) ?_
      refine ac rfl (by
        intro k _nm ρ σm hJ hoff hdep
        have e11 := look_off (N := 168) (hoff 11 rfl) rfl
        exact dp_v (v := (I o53)) wn (rv_move e11) rfl hJ) ?_
      refine ac rfl (by
        intro k _nm ρ σm hJ hoff hdep
        have e0 := look_off (N := 168) (hoff 0 rfl) rfl
        exact dp_v (v := (Sl Hk ((Hj.set Dx.toNat x1).set Jk.toNat x7) Hl)) wn (rv_move e0) rfl hJ) ?_
      refine ac rfl (by
        intro k _nm ρ σm hJ hoff hdep
        have e1 := look_off (N := 168) (hoff 1 rfl) rfl
        exact dp_v (v := (I Dx)) wn (rv_move e1) rfl hJ) ?_
      refine ac rfl (by
        intro k _nm ρ σm hJ hoff hdep
        have e0 := look_off (N := 168) (hoff 0 rfl) rfl
        exact dp_v (v := (Sl Hk ((Hj.set Dx.toNat x1).set Jk.toNat x7) Hl)) wn (rv_move e0) rfl hJ) ?_
      refine ac rfl (by
        intro k _nm ρ σm hJ hoff hdep
        have e1 := look_off (N := 168) (hoff 1 rfl) rfl
        exact dp_v (v := (I Dx)) wn (rv_move e1) rfl hJ) ?_
      refine ac rfl (by
        intro k _nm ρ σm hJ hoff hdep
        have e70 := hdep 4 rfl rfl 70 rfl
        have e71 := hdep 5 rfl rfl 71 rfl
        exact dp_v (v := (pt b85 o86)) wn (rv_ix Tryz.underlying27 ti3 e70 e71 hi84) rfl hJ) ?_
      refine all_cons (by
        refine ⟨?_, ?_⟩
        ·intro _nm ρ σm hJ hoff hdep
         have e72 := hdep 6 rfl rfl 72 rfl
         obtain ⟨H, m⟩ := id hJ
         have hc87 := ((H.own 0 rfl).at hx83 hi84).int
         exact dp_v (v := (I x82)) wn (rv_load1 Tryz.underlying3 rfl e72 hc87) rfl hJ
        trivial) ?_
      refine ac rfl (by
        intro k _nm ρ σm hJ hoff hdep
        have e0 := look_off (N := 168) (hoff 0 rfl) rfl
        exact dp_v (v := (Sl Hk ((Hj.set Dx.toNat x1).set Jk.toNat x7) Hl)) wn (rv_move e0) rfl hJ) ?_
      refine ac rfl (by
        intro k _nm ρ σm hJ hoff hdep
        have e11 := look_off (N := 168) (hoff 11 rfl) rfl
        exact dp_v (v := (I o53)) wn (rv_move e11) rfl hJ) ?_
      refine ac rfl (by
        intro k _nm ρ σm hJ hoff hdep
        have e74 := hdep 8 rfl rfl 74 rfl
        have e75 := hdep 9 rfl rfl 75 rfl
        exact dp_v (v := (pt b91 o92)) wn (rv_ix Tryz.underlying27 ti3 e74 e75 hi90) rfl hJ) ?_
      refine all_cons (by
        refine ⟨?_, ?_⟩
        ·intro _nm ρ σm hJ hoff hdep
         have e76 := hdep 10 rfl rfl 76 rfl
         obtain ⟨H, m⟩ := id hJ
         have hc93 := ((H.own 0 rfl).at hx89 hi90).int
         exact dp_v (v := (I x88)) wn (rv_load1 Tryz.underlying3 rfl e76 hc93) rfl hJ
        trivial) ?_
      refine ac rfl (by
        intro k _nm ρ σm hJ hoff hdep
        have e66 := hdep 0 rfl rfl 66 rfl
        have e67 := hdep 1 rfl rfl 67 rfl
        exact dp_v (v := (pt b97 o98)) wn (rv_ix Tryz.underlying27 ti3 e66 e67 hi96) rfl hJ) ?_
      refine all_cons (by
        refine ⟨?_, ?_⟩
        ·intro _nm ρ σm hJ hoff hdep
         have e78 := hdep 12 rfl rfl 78 rfl
         have e73 := hdep 7 rfl rfl 73 rfl
         obtain ⟨H, m⟩ := id hJ
         refine dp_exS wn rfl (ex_store_own (e' := x82) (vs := [(I x82)]) (k := 0) H (i := 0) rfl ti3 hx95 hi96 e78 rfl e73 rfl rfl (Nat.le_of_ble_eq_true rfl) (by simp [plain]) (by rintro _ rfl; exact rfl)) ?_
         rintro σq ⟨H2, m2⟩
         exact ⟨_, (), rfl, ⟨H2.sel' [0] rfl rfl, m.comp m2⟩, stab [0, 1, 2, 3, 4, 5, 6, 7, 8, 9, 10, 11, 12] (by kernel_rfl) ⟨rfl, rfl, rfl, rfl, rfl, rfl, rfl, rfl, rfl, rfl, rfl, rfl, rfl, trivial⟩⟩
        trivial) ?_
      exact all_nil
     ·intro _nm ρ σ99 hJ hoff hrel
      have e0 := look_off (N := 168) (hoff 0 rfl) rfl
      have e11 := look_off (N := 168) (hoff 11 rfl) rfl
      have e68 := hrel 2 rfl 68 rfl
      have e69 := hrel 3 rfl 69 rfl
      have e77 := hrel 11 rfl 77 rfl
      obtain ⟨H, -⟩ := (show Hp S0 σ0 σ99 [Ch.own 0 0 (Sl Hk ((Hj.set Dx.toNat x1).set Jk.toNat x7) Hl) (((Hj.set Dx.toNat x1).set Jk.toNat x7).set o53.toNat x82)] ∧ Md (fun i => (cov []) i ∨ (fun b => blk (Sl Hk ((Hj.set Dx.toNat x1).set Jk.toNat x7) Hl) = some b) i) σ80 σ99 from hJ)
      clear hJ Hs
      rw [fr_lookL (L := [(0, (Sl Hk ((Hj.set Dx.toNat x1).set Jk.toNat x7) Hl)), (11, (I o53)), (68, (Sl Hk ((Hj.set Dx.toNat x1).set Jk.toNat x7) Hl)), (69, (I Dx)), (77, (I x88))]) ⟨e0, e11, e68, e69, e77, trivial⟩]
      clear hoff hrel e0 e11 e68 e69 e77
      have hsl : (Sl Hk ((Hj.set Dx.toNat x1).set Jk.toNat x7) Hl) = (Sl Hk (((Hj.set Dx.toNat x1).set Jk.toNat x7).set o53.toNat x82) Hl) := sl_len (by simp)
      rw [hsl]; rw [hsl] at H; clear hsl
      revert h; refine br fun x100 hx101 h => ?_
      obtain ⟨b103, o104, hi102, -⟩ := (H.own 0 rfl).ix hx101
      refine st (v := (pt b103 o104)) (rv_ix Tryz.underlying27 ti3 rfl rfl hi102) ?_
      refine st_exS (ex_store_own (e' := x88) (vs := [(I x88)]) (k := 0) H (i := 0) rfl ti3 hx101 hi102 rfl rfl rfl rfl rfl (Nat.le_of_ble_eq_true rfl) (by simp [plain]) (by rintro _ rfl; exact rfl)) wn ?_
      rintro σ105 ⟨H, -⟩
      have hsl : (Sl Hk (((Hj.set Dx.toNat x1).set Jk.toNat x7).set o53.toNat x82) Hl) = (Sl Hk ((((Hj.set Dx.toNat x1).set Jk.toNat x7).set o53.toNat x82).set Dx.toNat x88) Hl) := sl_len List.length_set.symm
      rw [hsl]; rw [hsl] at H; clear hsl
      refine w_end (q_then (c_seq (rg (sm (I o53) rfl (sa (I o53) rfl (sa (B true) rfl (w_end (q_then (c_ret (q_then_r ?_))))))))))
      obtain rfl := sj h
      exact fin_ret (v := (.tuple #[(I o53), (B true)])) (results_ok Tryz.results185 (res_tmp (v := (I o53)) rfl (res_tmp (v := (B true)) rfl res_nil)) rfl) ⟨rfl, rfl, (List.length_set.trans (List.length_set.trans (List.length_set.trans List.length_set)))⟩ (H.sel' [0] rfl rfl)
    ·replace h := bif_f hb81 h
     refine c_skip (q_then (c_seq ?_))
     revert h; refine br fun x106 hx107 h => ?_
     obtain ⟨b109, o110, hi108, -⟩ := (H.own 0 rfl).ix hx107
     have hc111 := ((H.own 0 rfl).at hx107 hi108).int
     revert h; refine br fun x112 hx113 h => ?_
     obtain ⟨b115, o116, hi114, -⟩ := (H.own 0 rfl).ix hx113
     have hc117 := ((H.own 0 rfl).at hx113 hi114).int
     revert h; refine br fun x118 hx119 h => ?_
     obtain ⟨b121, o122, hi120, -⟩ := (H.own 0 rfl).ix hx119
     have Hs := H
     refine rg2 (σ := σ80) (Nm := Unit) 14 [13] [[false], [true]] [[(0, 0)], [(0, 0)], [(0, 0), (1, 1)], [(0, 0), (1, 1)], [(0, 0)], [(0, 0)], [(0, 0)], [(0, 0)], [(0, 0)], [(0, 0)], [(0, 0)], [(0, 0)], [(0, 0)], [(0, 1)]] 1 [fun _ => fun σm => Hp S0 σ0 σm [Ch.own 0 0 (Sl Hk ((Hj.set Dx.toNat x1).set Jk.toNat x7) Hl) ((Hj.set Dx.toNat x1).set Jk.toNat x7)] ∧ Md (cov []) σ80 σm, fun _ => fun σm => Hp S0 σ0 σm [Ch.own 0 0 (Sl Hk ((Hj.set Dx.toNat x1).set Jk.toNat x7) Hl) (((Hj.set Dx.toNat x1).set Jk.toNat x7).set o25.toNat x106)] ∧ Md (fun i => (cov []) i ∨ (fun b => blk (Sl Hk ((Hj.set Dx.toNat x1).set Jk.toNat x7) Hl) = some b) i) σ80 σm] [fun _ => (Sl Hk ((Hj.set Dx.toNat x1).set Jk.toNat x7) Hl), fun _ => (I o25), fun _ => (Sl Hk ((Hj.set Dx.toNat x1).set Jk.toNat x7) Hl), fun _ => (I o53), fun _ => (Sl Hk ((Hj.set Dx.toNat x1).set Jk.toNat x7) Hl), fun _ => (I o53), fun _ => (pt b109 o110), fun _ => (I x106), fun _ => (Sl Hk ((Hj.set Dx.toNat x1).set Jk.toNat x7) Hl), fun _ => (I o25), fun _ => (pt b115 o116), fun _ => (I x112), fun _ => (pt b121 o122), fun _ => undef] () (by kernel_rfl) (by kernel_rfl) ?_ ?_ ?_
     ·intro σm m0
      exact ⟨H.grow (m0.mono fun _ h => h.elim), m0⟩
     ·refine ac rfl (by
        intro k _nm ρ σm hJ hoff hdep
        have e0 := look_off (N := 168) (hoff 0 rfl) rfl
        exact dp_v (v := (Sl Hk ((Hj.set Dx.toNat x1).set Jk.toNat x7) Hl)) wn (rv_move e0) rfl hJ) ?_
      refine ac rfl (by
        intro k _nm ρ σm hJ hoff hdep
        have e10 := look_off (N := 168) (hoff 10 rfl) rfl
        exact dp_v (v := (I o25)) wn (rv_move e10) rfl hJ) ?_
      refine ac rfl (by
        intro k _nm ρ σm hJ hoff hdep
        have e0 := look_off (N := 168) (hoff 0 rfl) rfl
        exact dp_v (v := (Sl Hk ((Hj.set Dx.toNat x1).set Jk.toNat x7) Hl)) wn (rv_move e0) rfl hJ) ?_
      refine ac rfl (by
        intro k _nm ρ σm hJ hoff hdep
        have e11 := look_off (N := 168) (hoff 11 rfl) rfl
        exact dp_v (v := (I o53)) wn (rv_move e11) rfl hJ) ?_
      refine ac rfl (by
        intro k _nm ρ σm hJ hoff hdep
        have e0 := look_off (N := 168) (hoff 0 rfl) rfl
        exact dp_v (v := (Sl Hk ((Hj.set Dx.toNat x1).set Jk.toNat x7) Hl)) wn (rv_move e0) rfl hJ) ?_
      refine ac rfl (by
        intro k _nm ρ σm hJ hoff hdep
        have e11 := look_off (N := 168) (hoff 11 rfl) rfl
        exact dp_v (v := (I o53)) wn (rv_move e11) rfl hJ) ?_
      refine ac rfl (by
        intro k _nm ρ σm hJ hoff hdep
        have e85 := hdep 4 rfl rfl 85 rfl
        have e86 := hdep 5 rfl rfl 86 rfl
        exact dp_v (v := (pt b109 o110)) wn (rv_ix Tryz.underlying27 ti3 e85 e86 hi108) rfl hJ) ?_
      refine all_cons (by
        refine ⟨?_, ?_⟩
        ·intro _nm ρ σm hJ hoff hdep
         have e87 := hdep 6 rfl rfl 87 rfl
         obtain ⟨H, m⟩ := id hJ
         have hc111 := ((H.own 0 rfl).at hx107 hi108).int
         exact dp_v (v := (I x106)) wn (rv_load1 Tryz.underlying3 rfl e87 hc111) rfl hJ
        trivial) ?_
      refine ac rfl (by
        intro k _nm ρ σm hJ hoff hdep
        have e0 := look_off (N := 168) (hoff 0 rfl) rfl
        exact dp_v (v := (Sl Hk ((Hj.set Dx.toNat x1).set Jk.toNat x7) Hl)) wn (rv_move e0) rfl hJ) ?_
      refine ac rfl (by
        intro k _nm ρ σm hJ hoff hdep
        have e10 := look_off (N := 168) (hoff 10 rfl) rfl
        exact dp_v (v := (I o25)) wn (rv_move e10) rfl hJ) ?_
      refine ac rfl (by
        intro k _nm ρ σm hJ hoff hdep
        have e89 := hdep 8 rfl rfl 89 rfl
        have e90 := hdep 9 rfl rfl 90 rfl
        exact dp_v (v := (pt b115 o116)) wn (rv_ix Tryz.underlying27 ti3 e89 e90 hi114) rfl hJ) ?_
      refine all_cons (by
        refine ⟨?_, ?_⟩
        ·intro _nm ρ σm hJ hoff hdep
         have e91 := hdep 10 rfl rfl 91 rfl
         obtain ⟨H, m⟩ := id hJ
         have hc117 := ((H.own 0 rfl).at hx113 hi114).int
         exact dp_v (v := (I x112)) wn (rv_load1 Tryz.underlying3 rfl e91 hc117) rfl hJ
        trivial) ?_
      refine ac rfl (by
        intro k _nm ρ σm hJ hoff hdep
        have e81 := hdep 0 rfl rfl 81 rfl
        have e82 := hdep 1 rfl rfl 82 rfl
        exact dp_v (v := (pt b121 o122)) wn (rv_ix Tryz.underlying27 ti3 e81 e82 hi120) rfl hJ) ?_
      refine all_cons (by
        refine ⟨?_, ?_⟩
        ·intro _nm ρ σm hJ hoff hdep
         have e93 := hdep 12 rfl rfl 93 rfl
         have e88 := hdep 7 rfl rfl 88 rfl
         obtain ⟨H, m⟩ := id hJ
         refine dp_exS wn rfl (ex_store_own (e' := x106) (vs := [(I x106)]) (k := 0) H (i := 0) rfl ti3 hx119 hi120 e93 rfl e88 rfl rfl (Nat.le_of_ble_eq_true rfl) (by simp [plain]) (by rintro _ rfl; exact rfl)) ?_
         rintro σq ⟨H2, m2⟩
         exact ⟨_, (), rfl, ⟨H2.sel' [0] rfl rfl, m.comp m2⟩, stab [0, 1, 2, 3, 4, 5, 6, 7, 8, 9, 10, 11, 12] (by kernel_rfl) ⟨rfl, rfl, rfl, rfl, rfl, rfl, rfl, rfl, rfl, rfl, rfl, rfl, rfl, trivial⟩⟩
        trivial) ?_
      exact all_nil
     ·intro _nm ρ σ123 hJ hoff hrel
      have e0 := look_off (N := 168) (hoff 0 rfl) rfl
      have e1 := look_off (N := 168) (hoff 1 rfl) rfl
      have e10 := look_off (N := 168) (hoff 10 rfl) rfl
      have e11 := look_off (N := 168) (hoff 11 rfl) rfl
      have e83 := hrel 2 rfl 83 rfl
      have e84 := hrel 3 rfl 84 rfl
      have e92 := hrel 11 rfl 92 rfl
      obtain ⟨H, -⟩ := (show Hp S0 σ0 σ123 [Ch.own 0 0 (Sl Hk ((Hj.set Dx.toNat x1).set Jk.toNat x7) Hl) (((Hj.set Dx.toNat x1).set Jk.toNat x7).set o25.toNat x106)] ∧ Md (fun i => (cov []) i ∨ (fun b => blk (Sl Hk ((Hj.set Dx.toNat x1).set Jk.toNat x7) Hl) = some b) i) σ80 σ123 from hJ)
      clear hJ Hs
      rw [fr_lookL (L := [(0, (Sl Hk ((Hj.set Dx.toNat x1).set Jk.toNat x7) Hl)), (1, (I Dx)), (10, (I o25)), (11, (I o53)), (83, (Sl Hk ((Hj.set Dx.toNat x1).set Jk.toNat x7) Hl)), (84, (I o53)), (92, (I x112))]) ⟨e0, e1, e10, e11, e83, e84, e92, trivial⟩]
      clear hoff hrel e0 e1 e10 e11 e83 e84 e92
      have hsl : (Sl Hk ((Hj.set Dx.toNat x1).set Jk.toNat x7) Hl) = (Sl Hk (((Hj.set Dx.toNat x1).set Jk.toNat x7).set o25.toNat x106) Hl) := sl_len (by simp)
      rw [hsl]; rw [hsl] at H; clear hsl
      revert h; refine br fun x124 hx125 h => ?_
      obtain ⟨b127, o128, hi126, -⟩ := (H.own 0 rfl).ix hx125
      refine st (v := (pt b127 o128)) (rv_ix Tryz.underlying27 ti3 rfl rfl hi126) ?_
      refine st_exS (ex_store_own (e' := x112) (vs := [(I x112)]) (k := 0) H (i := 0) rfl ti3 hx125 hi126 rfl rfl rfl rfl rfl (Nat.le_of_ble_eq_true rfl) (by simp [plain]) (by rintro _ rfl; exact rfl)) wn ?_
      rintro σ129 ⟨H, -⟩
      have hsl : (Sl Hk (((Hj.set Dx.toNat x1).set Jk.toNat x7).set o25.toNat x106) Hl) = (Sl Hk ((((Hj.set Dx.toNat x1).set Jk.toNat x7).set o25.toNat x106).set o53.toNat x112) Hl) := sl_len List.length_set.symm
      rw [hsl]; rw [hsl] at H; clear hsl
      refine w_end (q_then (c_seq (rg (sm (I o25) rfl (st (v := (I (w64 (o25 + 1)))) (rv_add (a := o25) (b := 1) rfl rfl) (sa (I (w64 (o25 + 1))) rfl (w_end (q_then (c_seq (rg (sm (I o53) rfl ?_)))))))))))
      refine st (v := (I (w64 (o53 - 1)))) (rv_sub (a := o53) (b := 1) rfl rfl) (sa (I (w64 (o53 - 1))) rfl (w_end (q_then (c_seq ?_))))
      obtain ⟨o130, hj, h'⟩ := bind_some h
      clear h
      refine c_cut (fun e a w => e = .normal ∧ ∃ (ρ : Nat → Value) (σ : St), a = fr 168 (updL ρ [(0, (Sl Hk o130.1 Hl)), (1, (I Dx)), (11, (I o130.2))]) ∧ w = σ.w ∧ Hp S0 σ0 σ [Ch.own 0 0 (Sl Hk o130.1 Hl) o130.1] ∧ o130.1.length = ((((Hj.set Dx.toNat x1).set Jk.toNat x7).set o25.toNat x106).set o53.toNat x112).length) ?_ ?_
      ·clear h'
       rename _ = some o130 => h
       refine c_blk (wp_loopM _ h (fun s131 a w => ∃ (ρ : Nat → Value) (σ : St), a = fr 168 (updL ρ [(0, (Sl Hk s131.1 Hl)), (1, (I Dx)), (10, (I s131.2.1)), (11, (I s131.2.2))]) ∧ w = σ.w ∧ Hp S0 σ0 σ [Ch.own 0 0 (Sl Hk s131.1 Hl) s131.1] ∧ s131.1.length = ((((Hj.set Dx.toNat x1).set Jk.toNat x7).set o25.toNat x106).set o53.toNat x112).length) ⟨_, σ129, fr_join ⟨rfl, rfl, rfl, rfl, trivial⟩, rfl, H.sel' [0] rfl rfl, rfl⟩ ?_)
       clear h H
       rintro s131 a w o ⟨ρ, σ132, rfl, rfl, H, hn133⟩ h hres
       refine c_blk (c_seq ?_)
       obtain ⟨o134, hj, h'⟩ := bind_some h
       clear h
       refine c_cut (fun e a w => e = .normal ∧ ∃ (ρ : Nat → Value) (σ : St), a = fr 168 (updL ρ [(0, (Sl Hk s131.1 Hl)), (1, (I Dx)), (10, (I o134)), (11, (I s131.2.2))]) ∧ w = σ.w ∧ Hp S0 σ0 σ [Ch.own 0 0 (Sl Hk s131.1 Hl) s131.1]) ?_ ?_
       ·clear h'
        rename _ = some o134 => h
        refine c_blk (wp_loopM _ h (fun s135 a w => ∃ (ρ : Nat → Value) (σ : St), a = fr 168 (updL ρ [(0, (Sl Hk s131.1 Hl)), (1, (I Dx)), (10, (I s135)), (11, (I s131.2.2))]) ∧ w = σ.w ∧ Hp S0 σ0 σ [Ch.own 0 0 (Sl Hk s131.1 Hl) s131.1]) ⟨_, σ132, fr_join ⟨rfl, rfl, rfl, rfl, trivial⟩, rfl, H.sel' [0] rfl rfl⟩ ?_)
        clear h H
        rintro s135 a w o ⟨ρ, σ136, rfl, rfl, H⟩ h hres
        refine c_seq (c_seq ?_)
        obtain ⟨o137, hj, h'⟩ := bind_some h
        clear h
        refine c_cut (fun e a w => e = .normal ∧ ∃ (ρ : Nat → Value) (σ : St), a = fr 168 (updL ρ [(0, (Sl Hk s131.1 Hl)), (1, (I Dx)), (10, (I s135)), (11, (I s131.2.2)), (112, (B o137))]) ∧ w = σ.w ∧ Hp S0 σ0 σ [Ch.own 0 0 (Sl Hk s131.1 Hl) s131.1]) ?_ ?_
        ·clear h'
         rename _ = some o137 => h
         refine rgP (σ := σ136) 12 (by kernel_rfl) (by kernel_rfl) (by kernel_rfl) ?_
         refine sq (v := (I s135)) (rv_move rfl) (sq (v := (I s131.2.2)) (rv_move rfl) (sq (v := (B (decide (s135 ≤ s131.2.2)))) (rv_leq (a := s135) (b := s131.2.2) rfl rfl) (sq (v := (B (decide (s135 ≤ s131.2.2)))) (rv_move rfl) ?_)))
         rcases Bool.eq_false_or_eq_true (decide (s135 ≤ s131.2.2)) with hb138 | hb138
         ·replace h := bif_t hb138 h
          refine sq_g (v := (Sl Hk s131.1 Hl)) (congrArg some hb138) (rv_move rfl) (sq_g (v := (I s135)) (congrArg some hb138) (rv_move rfl) ?_)
          revert h; refine br fun x139 hx140 h => ?_
          obtain ⟨b142, o143, hi141, -⟩ := (H.own 0 rfl).ix hx140
          refine sq_g (v := (pt b142 o143)) (congrArg some hb138) (rv_ix Tryz.underlying27 ti3 rfl rfl hi141) ?_
          have hc144 := ((H.own 0 rfl).at hx140 hi141).int
          refine sq_g (v := (I x139)) (congrArg some hb138) (rv_load1 Tryz.underlying3 rfl rfl hc144) (sq_g (v := (Sl Hk s131.1 Hl)) (congrArg some hb138) (rv_move rfl) (sq_g (v := (I Dx)) (congrArg some hb138) (rv_move rfl) ?_))
          revert h; refine br fun x145 hx146 h => ?_
          obtain ⟨b148, o149, hi147, -⟩ := (H.own 0 rfl).ix hx146
          refine sq_g (v := (pt b148 o149)) (congrArg some hb138) (rv_ix Tryz.underlying27 ti3 rfl rfl hi147) ?_
          have hc150 := ((H.own 0 rfl).at hx146 hi147).int
          refine sq_g (v := (I x145)) (congrArg some hb138) (rv_load1 Tryz.underlying3 rfl rfl hc150) (sq_end ?_)
          intro σ151 hm152
          replace H := H.grow (hm152.mono fun _ h => h); clear hm152
          revert h; refine br fun r153 hx154 h => ?_
          have hc155 := c_cmp_Less_int hx154
          refine st_call (cx_call hc155 (ent_f hc155.fn rfl) hn0 (H.sel' [0] rfl rfl : Hp S0 σ0 _ ([] ++ _))) (wanted_yes rfl (by exact (congrArg some hb138))) ?_
          rintro _ σ156 ⟨_, ⟨rfl, rfl⟩, H, -⟩
          replace H : Hp _ _ _ [_] := H
          refine st (v := (B r153)) (rv_pick_t (congrArg B hb138) rfl) (w_end ?_)
          obtain rfl := sj h
          exact ⟨rfl, _, σ156, fr_join ⟨rfl, rfl, rfl, rfl, rfl, trivial⟩, rfl, H.sel' [0] rfl rfl⟩
         ·replace h := bif_f hb138 h
          refine sq_skip (congrArg some hb138) (sq_skip (congrArg some hb138) (sq_skip (congrArg some hb138) (sq_skip (congrArg some hb138) (sq_skip (congrArg some hb138) (sq_skip (congrArg some hb138) (sq_skip (congrArg some hb138) (sq_skip (congrArg some hb138) (sq_end ?_))))))))
          intro σ157 hm158
          replace H := H.grow (hm158.mono fun _ h => h); clear hm158
          refine st_skip (congrArg some hb138) (st (v := (B false)) (rv_pick_f (congrArg B hb138) rfl) (w_end ?_))
          obtain rfl := sj h
          exact ⟨rfl, _, σ157, fr_join ⟨rfl, rfl, rfl, rfl, rfl, trivial⟩, rfl, H.sel' [0] rfl rfl⟩
        ·clear hj
         have h := h'
         clear h' H
         rintro e a w ⟨rfl, ρ, σ159, rfl, rfl, H⟩
         refine q_then ?_
         refine cd_cond o137 rfl (fun hb160 => ?_) (fun hb160 => ?_)
         ·replace h := bif_t hb160 h
          refine c_skip (q_then (c_blk (rg (sm (I s135) rfl (st (v := (I (w64 (s135 + 1)))) (rv_add (a := s135) (b := 1) rfl rfl) (sa (I (w64 (s135 + 1))) rfl (w_end (q_blk (q_then ?_)))))))))
          obtain rfl := sj h
          exact ⟨_, rfl, _, σ159, fr_join ⟨rfl, rfl, rfl, rfl, trivial⟩, rfl, H.sel' [0] rfl rfl⟩
         ·replace h := bif_f hb160 h
          refine c_exit (q_then_x (q_then_x (q_blk_hit ?_)))
          obtain rfl := sj h
          obtain rfl := hres _ rfl
          exact ⟨rfl, _, σ159, fr_join ⟨rfl, rfl, rfl, rfl, trivial⟩, rfl, H.sel' [0] rfl rfl⟩
       ·clear hj
        have h := h'
        clear h' H
        rintro e a w ⟨rfl, ρ, σ161, rfl, rfl, H⟩
        refine q_then (c_seq ?_)
        obtain ⟨o162, hj, h'⟩ := bind_some h
        clear h
        refine c_cut (fun e a w => e = .normal ∧ ∃ (ρ : Nat → Value) (σ : St), a = fr 168 (updL ρ [(0, (Sl Hk s131.1 Hl)), (1, (I Dx)), (10, (I o134)), (11, (I o162))]) ∧ w = σ.w ∧ Hp S0 σ0 σ [Ch.own 0 0 (Sl Hk s131.1 Hl) s131.1]) ?_ ?_
        ·clear h'
         rename _ = some o162 => h
         refine c_blk (wp_loopM _ h (fun s163 a w => ∃ (ρ : Nat → Value) (σ : St), a = fr 168 (updL ρ [(0, (Sl Hk s131.1 Hl)), (1, (I Dx)), (10, (I o134)), (11, (I s163))]) ∧ w = σ.w ∧ Hp S0 σ0 σ [Ch.own 0 0 (Sl Hk s131.1 Hl) s131.1]) ⟨_, σ161, fr_join ⟨rfl, rfl, rfl, rfl, trivial⟩, rfl, H.sel' [0] rfl rfl⟩ ?_)
         clear h H
         rintro s163 a w o ⟨ρ, σ164, rfl, rfl, H⟩ h hres
         refine c_seq (c_seq ?_)
         obtain ⟨o165, hj, h'⟩ := bind_some h
         clear h
         refine c_cut (fun e a w => e = .normal ∧ ∃ (ρ : Nat → Value) (σ : St), a = fr 168 (updL ρ [(0, (Sl Hk s131.1 Hl)), (1, (I Dx)), (10, (I o134)), (11, (I s163)), (129, (B o165))]) ∧ w = σ.w ∧ Hp S0 σ0 σ [Ch.own 0 0 (Sl Hk s131.1 Hl) s131.1]) ?_ ?_
         ·clear h'
          rename _ = some o165 => h
          refine rgP (σ := σ164) 12 (by kernel_rfl) (by kernel_rfl) (by kernel_rfl) ?_
          refine sq (v := (I o134)) (rv_move rfl) (sq (v := (I s163)) (rv_move rfl) (sq (v := (B (decide (o134 ≤ s163)))) (rv_leq (a := o134) (b := s163) rfl rfl) (sq (v := (B (decide (o134 ≤ s163)))) (rv_move rfl) ?_)))
          rcases Bool.eq_false_or_eq_true (decide (o134 ≤ s163)) with hb166 | hb166
          ·replace h := bif_t hb166 h
           refine sq_g (v := (Sl Hk s131.1 Hl)) (congrArg some hb166) (rv_move rfl) (sq_g (v := (I s163)) (congrArg some hb166) (rv_move rfl) ?_)
           revert h; refine br fun x167 hx168 h => ?_
           obtain ⟨b170, o171, hi169, -⟩ := (H.own 0 rfl).ix hx168
           refine sq_g (v := (pt b170 o171)) (congrArg some hb166) (rv_ix Tryz.underlying27 ti3 rfl rfl hi169) ?_
           have hc172 := ((H.own 0 rfl).at hx168 hi169).int
           refine sq_g (v := (I x167)) (congrArg some hb166) (rv_load1 Tryz.underlying3 rfl rfl hc172) (sq_g (v := (Sl Hk s131.1 Hl)) (congrArg some hb166) (rv_move rfl) (sq_g (v := (I Dx)) (congrArg some hb166) (rv_move rfl) ?_))
           revert h; refine br fun x173 hx174 h => ?_
           obtain ⟨b176, o177, hi175, -⟩ := (H.own 0 rfl).ix hx174
           refine sq_g (v := (pt b176 o177)) (congrArg some hb166) (rv_ix Tryz.underlying27 ti3 rfl rfl hi175) ?_
           have hc178 := ((H.own 0 rfl).at hx174 hi175).int
           refine sq_g (v := (I x173)) (congrArg some hb166) (rv_load1 Tryz.underlying3 rfl rfl hc178) (sq_end ?_)
           intro σ179 hm180
           replace H := H.grow (hm180.mono fun _ h => h); clear hm180
           revert h; refine br fun r181 hx182 h => ?_
           have hc183 := c_cmp_Less_int hx182
           refine st_call (cx_call hc183 (ent_f hc183.fn rfl) hn0 (H.sel' [0] rfl rfl : Hp S0 σ0 _ ([] ++ _))) (wanted_yes rfl (by exact (congrArg some hb166))) ?_
           rintro _ σ184 ⟨_, ⟨rfl, rfl⟩, H, -⟩
           replace H : Hp _ _ _ [_] := H
           refine st_g (v := (B (!r181))) (congrArg some hb166) (rv_not rfl) (st (v := (B (!r181))) (rv_pick_t (congrArg B hb166) rfl) (w_end ?_))
           obtain rfl := sj h
           exact ⟨rfl, _, σ184, fr_join ⟨rfl, rfl, rfl, rfl, rfl, trivial⟩, rfl, H.sel' [0] rfl rfl⟩
          ·replace h := bif_f hb166 h
           refine sq_skip (congrArg some hb166) (sq_skip (congrArg some hb166) (sq_skip (congrArg some hb166) (sq_skip (congrArg some hb166) (sq_skip (congrArg some hb166) (sq_skip (congrArg some hb166) (sq_skip (congrArg some hb166) (sq_skip (congrArg some hb166) (sq_end ?_))))))))
           intro σ185 hm186
           replace H := H.grow (hm186.mono fun _ h => h); clear hm186
           refine st_skip (congrArg some hb166) (st_skip (congrArg some hb166) (st (v := (B false)) (rv_pick_f (congrArg B hb166) rfl) (w_end ?_)))
           obtain rfl := sj h
           exact ⟨rfl, _, σ185, fr_join ⟨rfl, rfl, rfl, rfl, rfl, trivial⟩, rfl, H.sel' [0] rfl rfl⟩
         ·clear hj
          have h := h'
          clear h' H
          rintro e a w ⟨rfl, ρ, σ187, rfl, rfl, H⟩
          refine q_then ?_
          refine cd_cond o165 rfl (fun hb188 => ?_) (fun hb188 => ?_)
          ·replace h := bif_t hb188 h
           refine c_skip (q_then (c_blk (rg (sm (I s163) rfl (st (v := (I (w64 (s163 - 1)))) (rv_sub (a := s163) (b := 1) rfl rfl) (sa (I (w64 (s163 - 1))) rfl (w_end (q_blk (q_then ?_)))))))))
           obtain rfl := sj h
           exact ⟨_, rfl, _, σ187, fr_join ⟨rfl, rfl, rfl, rfl, trivial⟩, rfl, H.sel' [0] rfl rfl⟩
          ·replace h := bif_f hb188 h
           refine c_exit (q_then_x (q_then_x (q_blk_hit ?_)))
           obtain rfl := sj h
           obtain rfl := hres _ rfl
           exact ⟨rfl, _, σ187, fr_join ⟨rfl, rfl, rfl, rfl, trivial⟩, rfl, H.sel' [0] rfl rfl⟩
        ·clear hj
         have h := h'
         clear h' H
         rintro e a w ⟨rfl, ρ, σ189, rfl, rfl, H⟩
         refine q_then (c_seq (c_seq (rg (sm (I o134) rfl (sm (I o162) rfl (st (v := (B (decide (o162 < o134)))) (rv_gtr (a := o134) (b := o162) rfl rfl) (w_end (q_then ?_))))))))
         refine cd_cond (decide (o162 < o134)) rfl (fun hb190 => ?_) (fun hb190 => ?_)
         ·replace h := bif_t hb190 h
          refine c_exit (q_then_x ?_)
          refine q_blk_x (by decide) ?_
          refine q_then_x (q_blk_hit ?_)
          obtain rfl := sj h
          obtain rfl := hres _ rfl
          exact ⟨rfl, _, σ189, fr_join ⟨rfl, rfl, rfl, trivial⟩, rfl, H.sel' [0] rfl rfl, ((hn133.trans (List.length_set.trans (List.length_set.trans (List.length_set.trans List.length_set)))).trans (List.length_set.trans (List.length_set.trans (List.length_set.trans List.length_set))).symm)⟩
         ·replace h := bif_f hb190 h
          refine c_skip (q_then (c_seq ?_))
          revert h; refine br fun x191 hx192 h => ?_
          obtain ⟨b194, o195, hi193, -⟩ := (H.own 0 rfl).ix hx192
          have hc196 := ((H.own 0 rfl).at hx192 hi193).int
          revert h; refine br fun x197 hx198 h => ?_
          obtain ⟨b200, o201, hi199, -⟩ := (H.own 0 rfl).ix hx198
          have hc202 := ((H.own 0 rfl).at hx198 hi199).int
          revert h; refine br fun x203 hx204 h => ?_
          obtain ⟨b206, o207, hi205, -⟩ := (H.own 0 rfl).ix hx204
          have Hs := H
          refine rg2 (σ := σ189) (Nm := Unit) 14 [13] [[false], [true]] [[(0, 0)], [(0, 0)], [(0, 0), (1, 1)], [(0, 0), (1, 1)], [(0, 0)], [(0, 0)], [(0, 0)], [(0, 0)], [(0, 0)], [(0, 0)], [(0, 0)], [(0, 0)], [(0, 0)], [(0, 1)]] 1 [fun _ => fun σm => Hp S0 σ0 σm [Ch.own 0 0 (Sl Hk s131.1 Hl) s131.1] ∧ Md (cov []) σ189 σm, fun _ => fun σm => Hp S0 σ0 σm [Ch.own 0 0 (Sl Hk s131.1 Hl) (s131.1.set o134.toNat x191)] ∧ Md (fun i => (cov []) i ∨ (fun b => blk (Sl Hk s131.1 Hl) = some b) i) σ189 σm] [fun _ => (Sl Hk s131.1 Hl), fun _ => (I o134), fun _ => (Sl Hk s131.1 Hl), fun _ => (I o162), fun _ => (Sl Hk s131.1 Hl), fun _ => (I o162), fun _ => (pt b194 o195), fun _ => (I x191), fun _ => (Sl Hk s131.1 Hl), fun _ => (I o134), fun _ => (pt b200 o201), fun _ => (I x197), fun _ => (pt b206 o207), fun _ => undef] () (by kernel_rfl) (by kernel_rfl) ?_ ?_ ?_
          ·intro σm m0
           exact ⟨H.grow (m0.mono fun _ h => h.elim), m0⟩
          ·refine ac rfl (by
             intro k _nm ρ σm hJ hoff hdep
             have e0 := look_off (N := 168) (hoff 0 rfl) rfl
             exact dp_v (v := (Sl Hk s131.1 Hl)) wn (rv_move e0) rfl hJ) ?_
           refine ac rfl (by
             intro k _nm ρ σm hJ hoff hdep
             have e10 := look_off (N := 168) (hoff 10 rfl) rfl
             exact dp_v (v := (I o134)) wn (rv_move e10) rfl hJ) ?_
           refine ac rfl (by
             intro k _nm ρ σm hJ hoff hdep
             have e0 := look_off (N := 168) (hoff 0 rfl) rfl
             exact dp_v (v := (Sl Hk s131.1 Hl)) wn (rv_move e0) rfl hJ) ?_
           refine ac rfl (by
             intro k _nm ρ σm hJ hoff hdep
             have e11 := look_off (N := 168) (hoff 11 rfl) rfl
             exact dp_v (v := (I o162)) wn (rv_move e11) rfl hJ) ?_
           refine ac rfl (by
             intro k _nm ρ σm hJ hoff hdep
             have e0 := look_off (N := 168) (hoff 0 rfl) rfl
             exact dp_v (v := (Sl Hk s131.1 Hl)) wn (rv_move e0) rfl hJ) ?_
           refine ac rfl (by
             intro k _nm ρ σm hJ hoff hdep
             have e11 := look_off (N := 168) (hoff 11 rfl) rfl
             exact dp_v (v := (I o162)) wn (rv_move e11) rfl hJ) ?_
           refine ac rfl (by
             intro k _nm ρ σm hJ hoff hdep
             have e139 := hdep 4 rfl rfl 139 rfl
             have e140 := hdep 5 rfl rfl 140 rfl
             exact dp_v (v := (pt b194 o195)) wn (rv_ix Tryz.underlying27 ti3 e139 e140 hi193) rfl hJ) ?_
           refine all_cons (by
             refine ⟨?_, ?_⟩
             ·intro _nm ρ σm hJ hoff hdep
              have e141 := hdep 6 rfl rfl 141 rfl
              obtain ⟨H, m⟩ := id hJ
              have hc196 := ((H.own 0 rfl).at hx192 hi193).int
              exact dp_v (v := (I x191)) wn (rv_load1 Tryz.underlying3 rfl e141 hc196) rfl hJ
             trivial) ?_
           refine ac rfl (by
             intro k _nm ρ σm hJ hoff hdep
             have e0 := look_off (N := 168) (hoff 0 rfl) rfl
             exact dp_v (v := (Sl Hk s131.1 Hl)) wn (rv_move e0) rfl hJ) ?_
           refine ac rfl (by
             intro k _nm ρ σm hJ hoff hdep
             have e10 := look_off (N := 168) (hoff 10 rfl) rfl
             exact dp_v (v := (I o134)) wn (rv_move e10) rfl hJ) ?_
           refine ac rfl (by
             intro k _nm ρ σm hJ hoff hdep
             have e143 := hdep 8 rfl rfl 143 rfl
             have e144 := hdep 9 rfl rfl 144 rfl
             exact dp_v (v := (pt b200 o201)) wn (rv_ix Tryz.underlying27 ti3 e143 e144 hi199) rfl hJ) ?_
           refine all_cons (by
             refine ⟨?_, ?_⟩
             ·intro _nm ρ σm hJ hoff hdep
              have e145 := hdep 10 rfl rfl 145 rfl
              obtain ⟨H, m⟩ := id hJ
              have hc202 := ((H.own 0 rfl).at hx198 hi199).int
              exact dp_v (v := (I x197)) wn (rv_load1 Tryz.underlying3 rfl e145 hc202) rfl hJ
             trivial) ?_
           refine ac rfl (by
             intro k _nm ρ σm hJ hoff hdep
             have e135 := hdep 0 rfl rfl 135 rfl
             have e136 := hdep 1 rfl rfl 136 rfl
             exact dp_v (v := (pt b206 o207)) wn (rv_ix Tryz.underlying27 ti3 e135 e136 hi205) rfl hJ) ?_
           refine all_cons (by
             refine ⟨?_, ?_⟩
             ·intro _nm ρ σm hJ hoff hdep
              have e147 := hdep 12 rfl rfl 147 rfl
              have e142 := hdep 7 rfl rfl 142 rfl
              obtain ⟨H, m⟩ := id hJ
              refine dp_exS wn rfl (ex_store_own (e' := x191) (vs := [(I x191)]) (k := 0) H (i := 0) rfl ti3 hx204 hi205 e147 rfl e142 rfl rfl (Nat.le_of_ble_eq_true rfl) (by simp [plain]) (by rintro _ rfl; exact rfl)) ?_
              rintro σq ⟨H2, m2⟩
              exact ⟨_, (), rfl, ⟨H2.sel' [0] rfl rfl, m.comp m2⟩, stab [0, 1, 2, 3, 4, 5, 6, 7, 8, 9, 10, 11, 12] (by kernel_rfl) ⟨rfl, rfl, rfl, rfl, rfl, rfl, rfl, rfl, rfl, rfl, rfl, rfl, rfl, trivial⟩⟩
             trivial) ?_
           exact all_nil
          ·intro _nm ρ σ208 hJ hoff hrel
           have e0 := look_off (N := 168) (hoff 0 rfl) rfl
           have e1 := look_off (N := 168) (hoff 1 rfl) rfl
           have e10 := look_off (N := 168) (hoff 10 rfl) rfl
           have e11 := look_off (N := 168) (hoff 11 rfl) rfl
           have e137 := hrel 2 rfl 137 rfl
           have e138 := hrel 3 rfl 138 rfl
           have e146 := hrel 11 rfl 146 rfl
           obtain ⟨H, -⟩ := (show Hp S0 σ0 σ208 [Ch.own 0 0 (Sl Hk s131.1 Hl) (s131.1.set o134.toNat x191)] ∧ Md (fun i => (cov []) i ∨ (fun b => blk (Sl Hk s131.1 Hl) = some b) i) σ189 σ208 from hJ)
           clear hJ Hs
           rw [fr_lookL (L := [(0, (Sl Hk s131.1 Hl)), (1, (I Dx)), (10, (I o134)), (11, (I o162)), (137, (Sl Hk s131.1 Hl)), (138, (I o162)), (146, (I x197))]) ⟨e0, e1, e10, e11, e137, e138, e146, trivial⟩]
           clear hoff hrel e0 e1 e10 e11 e137 e138 e146
           have hsl : (Sl Hk s131.1 Hl) = (Sl Hk (s131.1.set o134.toNat x191) Hl) := sl_len (by simp)
           rw [hsl]; rw [hsl] at H; clear hsl
           revert h; refine br fun x209 hx210 h => ?_
           obtain ⟨b212, o213, hi211, -⟩ := (H.own 0 rfl).ix hx210
           refine st (v := (pt b212 o213)) (rv_ix Tryz.underlying27 ti3 rfl rfl hi211) ?_
           refine st_exS (ex_store_own (e' := x197) (vs := [(I x197)]) (k := 0) H (i := 0) rfl ti3 hx210 hi211 rfl rfl rfl rfl rfl (Nat.le_of_ble_eq_true rfl) (by simp [plain]) (by rintro _ rfl; exact rfl)) wn ?_
           rintro σ214 ⟨H, -⟩
           have hsl : (Sl Hk (s131.1.set o134.toNat x191) Hl) = (Sl Hk ((s131.1.set o134.toNat x191).set o162.toNat x197) Hl) := sl_len List.length_set.symm
           rw [hsl]; rw [hsl] at H; clear hsl
           refine w_end (q_then (c_seq (rg (sm (I o134) rfl (st (v := (I (w64 (o134 + 1)))) (rv_add (a := o134) (b := 1) rfl rfl) (sa (I (w64 (o134 + 1))) rfl (w_end (q_then (rg (sm (I o162) rfl (st (v := (I (w64 (o162 - 1)))) (rv_sub (a := o162) (b := 1) rfl rfl) ?_)))))))))))
           refine sa (I (w64 (o162 - 1))) rfl (w_end (q_blk (q_then ?_)))
           obtain rfl := sj h
           exact ⟨_, rfl, _, σ214, fr_join ⟨rfl, rfl, rfl, rfl, trivial⟩, rfl, H.sel' [0] rfl rfl, ((List.length_set.trans (List.length_set.trans (hn133.trans (List.length_set.trans (List.length_set.trans (List.length_set.trans List.length_set)))))).trans (List.length_set.trans (List.length_set.trans (List.length_set.trans List.length_set))).symm)⟩
      ·clear hj
       have h := h'
       clear h' H
       rintro e a w ⟨rfl, ρ, σ215, rfl, rfl, H, hn216⟩
       refine q_then (c_seq ?_)
       revert h; refine br fun x217 hx218 h => ?_
       obtain ⟨b220, o221, hi219, -⟩ := (H.own 0 rfl).ix hx218
       have hc222 := ((H.own 0 rfl).at hx218 hi219).int
       revert h; refine br fun x223 hx224 h => ?_
       obtain ⟨b226, o227, hi225, -⟩ := (H.own 0 rfl).ix hx224
       have hc228 := ((H.own 0 rfl).at hx224 hi225).int
       revert h; refine br fun x229 hx230 h => ?_
       obtain ⟨b232, o233, hi231, -⟩ := (H.own 0 rfl).ix hx230
       have Hs := H
       refine rg2 (σ := σ215) (Nm := Unit) 14 [13] [[false], [true]] [[(0, 0)], [(0, 0)], [(0, 0), (1, 1)], [(0, 0), (1, 1)], [(0, 0)], [(0, 0)], [(0, 0)], [(0, 0)], [(0, 0)], [(0, 0)], [(0, 0)], [(0, 0)], [(0, 0)], [(0, 1)]] 1 [fun _ => fun σm => Hp S0 σ0 σm [Ch.own 0 0 (Sl Hk o130.1 Hl) o130.1] ∧ Md (cov []) σ215 σm, fun _ => fun σm => Hp S0 σ0 σm [Ch.own 0 0 (Sl Hk o130.1 Hl) (o130.1.set o130.2.toNat x217)] ∧ Md (fun i => (cov []) i ∨ (fun b => blk (Sl Hk o130.1 Hl) = some b) i) σ215 σm] [fun _ => (Sl Hk o130.1 Hl), fun _ => (I o130.2), fun _ => (Sl Hk o130.1 Hl), fun _ => (I Dx), fun _ => (Sl Hk o130.1 Hl), fun _ => (I Dx), fun _ => (pt b220 o221), fun _ => (I x217), fun _ => (Sl Hk o130.1 Hl), fun _ => (I o130.2), fun _ => (pt b226 o227), fun _ => (I x223), fun _ => (pt b232 o233), fun _ => undef] () (by kernel_rfl) (by kernel_rfl) ?_ ?_ ?_
       ·intro σm m0
        exact ⟨H.grow (m0.mono fun _ h => h.elim), m0⟩
       ·refine ac rfl (by
          intro k _nm ρ σm hJ hoff hdep
          have e0 := look_off (N := 168) (hoff 0 rfl) rfl
          exact dp_v (v := (Sl Hk o130.1 Hl)) wn (rv_move e0) rfl hJ) ?_
        refine ac rfl (by
          intro k _nm ρ σm hJ hoff hdep
          have e11 := look_off (N := 168) (hoff 11 rfl) rfl
          exact dp_v (v := (I o130.2)) wn (rv_move e11) rfl hJ) ?_
        refine ac rfl (by
          intro k _nm ρ σm hJ hoff hdep
          have e0 := look_off (N := 168) (hoff 0 rfl) rfl
          exact dp_v (v := (Sl Hk o130.1 Hl)) wn (rv_move e0) rfl hJ) ?_
        refine ac rfl (by
          intro k _nm ρ σm hJ hoff hdep
          have e1 := look_off (N := 168) (hoff 1 rfl) rfl
          exact dp_v (v := (I Dx)) wn (rv_move e1) rfl hJ) ?_
        refine ac rfl (by
          intro k _nm ρ σm hJ hoff hdep
          have e0 := look_off (N := 168) (hoff 0 rfl) rfl
          exact dp_v (v := (Sl Hk o130.1 Hl)) wn (rv_move e0) rfl hJ) ?_
        refine ac rfl (by
          intro k _nm ρ σm hJ hoff hdep
          have e1 := look_off (N := 168) (hoff 1 rfl) rfl
          exact dp_v (v := (I Dx)) wn (rv_move e1) rfl hJ) ?_
        refine ac rfl (by
          intro k _nm ρ σm hJ hoff hdep
          have e157 := hdep 4 rfl rfl 157 rfl
          have e158 := hdep 5 rfl rfl 158 rfl
          exact dp_v (v := (pt b220 o221)) wn (rv_ix Tryz.underlying27 ti3 e157 e158 hi219) rfl hJ) ?_
        refine all_cons (by
          refine ⟨?_, ?_⟩
          ·intro _nm ρ σm hJ hoff hdep
           have e159 := hdep 6 rfl rfl 159 rfl
           obtain ⟨H, m⟩ := id hJ
           have hc222 := ((H.own 0 rfl).at hx218 hi219).int
           exact dp_v (v := (I x217)) wn (rv_load1 Tryz.underlying3 rfl e159 hc222) rfl hJ
          trivial) ?_
        refine ac rfl (by
          intro k _nm ρ σm hJ hoff hdep
          have e0 := look_off (N := 168) (hoff 0 rfl) rfl
          exact dp_v (v := (Sl Hk o130.1 Hl)) wn (rv_move e0) rfl hJ) ?_
        refine ac rfl (by
          intro k _nm ρ σm hJ hoff hdep
          have e11 := look_off (N := 168) (hoff 11 rfl) rfl
          exact dp_v (v := (I o130.2)) wn (rv_move e11) rfl hJ) ?_
        refine ac rfl (by
          intro k _nm ρ σm hJ hoff hdep
          have e161 := hdep 8 rfl rfl 161 rfl
          have e162 := hdep 9 rfl rfl 162 rfl
          exact dp_v (v := (pt b226 o227)) wn (rv_ix Tryz.underlying27 ti3 e161 e162 hi225) rfl hJ) ?_
        refine all_cons (by
          refine ⟨?_, ?_⟩
          ·intro _nm ρ σm hJ hoff hdep
           have e163 := hdep 10 rfl rfl 163 rfl
           obtain ⟨H, m⟩ := id hJ
           have hc228 := ((H.own 0 rfl).at hx224 hi225).int
           exact dp_v (v := (I x223)) wn (rv_load1 Tryz.underlying3 rfl e163 hc228) rfl hJ
          trivial) ?_
        refine ac rfl (by
          intro k _nm ρ σm hJ hoff hdep
          have e153 := hdep 0 rfl rfl 153 rfl
          have e154 := hdep 1 rfl rfl 154 rfl
          exact dp_v (v := (pt b232 o233)) wn (rv_ix Tryz.underlying27 ti3 e153 e154 hi231) rfl hJ) ?_
        refine all_cons (by
          refine ⟨?_, ?_⟩
          ·intro _nm ρ σm hJ hoff hdep
           have e165 := hdep 12 rfl rfl 165 rfl
           have e160 := hdep 7 rfl rfl 160 rfl
           obtain ⟨H, m⟩ := id hJ
           refine dp_exS wn rfl (ex_store_own (e' := x217) (vs := [(I x217)]) (k := 0) H (i := 0) rfl ti3 hx230 hi231 e165 rfl e160 rfl rfl (Nat.le_of_ble_eq_true rfl) (by simp [plain]) (by rintro _ rfl; exact rfl)) ?_
           rintro σq ⟨H2, m2⟩
           exact ⟨_, (), rfl, ⟨H2.sel' [0] rfl rfl, m.comp m2⟩, stab [0, 1, 2, 3, 4, 5, 6, 7, 8, 9, 10, 11, 12] (by kernel_rfl) ⟨rfl, rfl, rfl, rfl, rfl, rfl, rfl, rfl, rfl, rfl, rfl, rfl, rfl, trivial⟩⟩
          trivial) ?_
        exact all_nil
       ·intro _nm ρ σ234 hJ hoff hrel
        have e0 := look_off (N := 168) (hoff 0 rfl) rfl
        have e11 := look_off (N := 168) (hoff 11 rfl) rfl
        have e155 := hrel 2 rfl 155 rfl
        have e156 := hrel 3 rfl 156 rfl
        have e164 := hrel 11 rfl 164 rfl
        obtain ⟨H, -⟩ := (show Hp S0 σ0 σ234 [Ch.own 0 0 (Sl Hk o130.1 Hl) (o130.1.set o130.2.toNat x217)] ∧ Md (fun i => (cov []) i ∨ (fun b => blk (Sl Hk o130.1 Hl) = some b) i) σ215 σ234 from hJ)
        clear hJ Hs
        rw [fr_lookL (L := [(0, (Sl Hk o130.1 Hl)), (11, (I o130.2)), (155, (Sl Hk o130.1 Hl)), (156, (I Dx)), (164, (I x223))]) ⟨e0, e11, e155, e156, e164, trivial⟩]
        clear hoff hrel e0 e11 e155 e156 e164
        have hsl : (Sl Hk o130.1 Hl) = (Sl Hk (o130.1.set o130.2.toNat x217) Hl) := sl_len (by simp)
        rw [hsl]; rw [hsl] at H; clear hsl
        revert h; refine br fun x235 hx236 h => ?_
        obtain ⟨b238, o239, hi237, -⟩ := (H.own 0 rfl).ix hx236
        refine st (v := (pt b238 o239)) (rv_ix Tryz.underlying27 ti3 rfl rfl hi237) ?_
        refine st_exS (ex_store_own (e' := x223) (vs := [(I x223)]) (k := 0) H (i := 0) rfl ti3 hx236 hi237 rfl rfl rfl rfl rfl (Nat.le_of_ble_eq_true rfl) (by simp [plain]) (by rintro _ rfl; exact rfl)) wn ?_
        rintro σ240 ⟨H, -⟩
        have hsl : (Sl Hk (o130.1.set o130.2.toNat x217) Hl) = (Sl Hk ((o130.1.set o130.2.toNat x217).set Dx.toNat x223) Hl) := sl_len List.length_set.symm
        rw [hsl]; rw [hsl] at H; clear hsl
        refine w_end (q_then (c_seq (rg (sm (I o130.2) rfl (sa (I o130.2) rfl (sa (B false) rfl (w_end (q_then (c_ret ?_)))))))))
        obtain rfl := sj h
        exact fin_ret (v := (.tuple #[(I o130.2), (B false)])) (results_ok Tryz.results185 (res_tmp (v := (I o130.2)) rfl (res_tmp (v := (B false)) rfl res_nil)) rfl) ⟨rfl, rfl, (List.length_set.trans (List.length_set.trans (hn216.trans (List.length_set.trans (List.length_set.trans (List.length_set.trans List.length_set))))))⟩ (H.sel' [0] rfl rfl)

def sort102_ren : Go.Shelf.Ren := ⟨fun | 53 => 102 | 64 => 149 | 63 => 148 | 78 => 186 | 79 => 187 | 70 => 177 | 71 => 178 | 72 => 179 | 73 => 180 | 74 => 181 | 75 => 182 | 59 => 183 | 76 => 184 | 77 => 185 | 88 => 197 | 89 => 198 | 90 => 199 | 91 => 200 | 92 => 201 | 68 => 175 | 96 => 212 | n => n, fun | 22 => 27 | 23 => 3 | 3 => 3 | 51 => 150 | 0 => 0 | 67 => 176 | 69 => 178 | 4 => 4 | 61 => 170 | 60 => 169 | 44 => 113 | 5 => 5 | 9 => 9 | 75 => 190 | 79 => 194 | 83 => 203 | 84 => 204 | n => n, fun | n => n⟩
theorem sort102 : Go.Proofs.SlLaysN.n53 Tryz.prog sort102_ren := {
  mixed := by kernel_rfl
  f53 := ⟨Tryz.f102.name, by decide, Tryz.func102.trans (congrArg some (by kernel_rfl))⟩
  f59 := ⟨Tryz.f183.name, by decide, Tryz.func183.trans (congrArg some (by kernel_rfl))⟩
  f63 := ⟨Tryz.f148.name, by decide, Tryz.func148.trans (congrArg some (by kernel_rfl))⟩
  f64 := Tryz.func149.trans (congrArg some (by kernel_rfl))
  f68 := ⟨Tryz.f175.name, by decide, Tryz.func175.trans (congrArg some (by kernel_rfl))⟩
  f70 := ⟨Tryz.f177.name, by decide, Tryz.func177.trans (congrArg some (by kernel_rfl))⟩
  f71 := ⟨Tryz.f178.name, by decide, Tryz.func178.trans (congrArg some (by kernel_rfl))⟩
  f72 := ⟨Tryz.f179.name, by decide, Tryz.func179.trans (congrArg some (by kernel_rfl))⟩
  f73 := ⟨Tryz.f180.name, by decide, Tryz.func180.trans (congrArg some (by kernel_rfl))⟩
  f74 := ⟨Tryz.f181.name, by decide, Tryz.func181.trans (congrArg some (by kernel_rfl))⟩
  f75 := ⟨Tryz.f182.name, by decide, Tryz.func182.trans (congrArg some (by kernel_rfl))⟩
  f76 := ⟨Tryz.f184.name, by decide, Tryz.func184.trans (congrArg some (by kernel_rfl))⟩
  f77 := ⟨Tryz.f185.name, by decide, Tryz.func185.trans (congrArg some (by kernel_rfl))⟩
  f78 := Tryz.func186.trans (congrArg some (by kernel_rfl))
  f79 := Tryz.func187.trans (congrArg some (by kernel_rfl))
  f88 := ⟨Tryz.f197.name, by decide, Tryz.func197.trans (congrArg some (by kernel_rfl))⟩
  f89 := Tryz.func198.trans (congrArg some (by kernel_rfl))
  f90 := Tryz.func199.trans (congrArg some (by kernel_rfl))
  f91 := ⟨Tryz.f200.name, by decide, Tryz.func200.trans (congrArg some (by kernel_rfl))⟩
  f92 := ⟨Tryz.f201.name, by decide, Tryz.func201.trans (congrArg some (by kernel_rfl))⟩
  f96 := ⟨Tryz.f212.name, by decide, Tryz.func212.trans (congrArg some (by kernel_rfl))⟩
  t0 := Tryz.underlying0
  a0 := Tryz.isAgg0
  z0 := Tryz.sizeOf0
  v0 := Tryz.zeroValue0
  t3 := Tryz.underlying3
  a3 := Tryz.isAgg3
  z3 := Tryz.sizeOf3
  v3 := Tryz.zeroValue3
  t4 := Tryz.underlying4
  a4 := Tryz.isAgg4
  z4 := Tryz.sizeOf4
  v4 := Tryz.zeroValue4
  t5 := Tryz.underlying5
  a5 := Tryz.isAgg5
  z5 := Tryz.sizeOf5
  v5 := Tryz.zeroValue5
  t9 := Tryz.underlying9
  a9 := Tryz.isAgg9
  z9 := Tryz.sizeOf9
  v9 := Tryz.zeroValue9
  t22 := Tryz.underlying27
  a22 := Tryz.isAgg27
  z22 := Tryz.sizeOf27
  v22 := Tryz.zeroValue27
  t23 := Tryz.underlying3
  a23 := Tryz.isAgg3
  z23 := Tryz.sizeOf3
  v23 := Tryz.zeroValue3
  t44 := Tryz.underlying113
  a44 := Tryz.isAgg113
  z44 := Tryz.sizeOf113
  v44 := Tryz.zeroValue113
  t51 := Tryz.underlying150
  a51 := Tryz.isAgg150
  z51 := Tryz.sizeOf150
  v51 := Tryz.zeroValue150
  t60 := Tryz.underlying169
  a60 := Tryz.isAgg169
  z60 := Tryz.sizeOf169
  v60 := Tryz.zeroValue169
  t61 := Tryz.underlying170
  a61 := Tryz.isAgg170
  z61 := Tryz.sizeOf170
  v61 := Tryz.zeroValue170
  t67 := Tryz.underlying176
  a67 := Tryz.isAgg176
  z67 := Tryz.sizeOf176
  v67 := Tryz.zeroValue176
  t69 := Tryz.underlying178
  a69 := Tryz.isAgg178
  z69 := Tryz.sizeOf178
  v69 := Tryz.zeroValue178
  t75 := Tryz.underlying190
  a75 := Tryz.isAgg190
  z75 := Tryz.sizeOf190
  v75 := Tryz.zeroValue190
  t79 := Tryz.underlying194
  a79 := Tryz.isAgg194
  z79 := Tryz.sizeOf194
  v79 := Tryz.zeroValue194
  t83 := Tryz.underlying203
  a83 := Tryz.isAgg203
  z83 := Tryz.sizeOf203
  v83 := Tryz.zeroValue203
  t84 := Tryz.underlying204
  a84 := Tryz.isAgg204
  z84 := Tryz.sizeOf204
  v84 := Tryz.zeroValue204 }

theorem c_slices_Sort_int_int {Bj : List Int} {Dq : Option Addr} {Dr : Nat} {r : List Int} (h : M.slices_Sort_int_int Bj = some r) :
    Cal2 Tryz.prog 102 [(Sl Dq Bj Dr)] [Ch.own 0 0 (Sl Dq Bj Dr) Bj] (fun n0 v L => v = (.tuple #[]) ∧ L = [Ch.own 0 0 (Sl Dq r Dr) r] ∧ r.length = Bj.length) := by
 obtain ⟨hn, rfl⟩ := ascL_some h
 refine (sortI_cal2 sort102 (xs := Bj) (a := Dq) (c := Dr) hn).conv ?_
 rintro m v L ⟨rfl, rfl⟩
 exact ⟨_, ⟨rfl, rfl, ascL_len⟩, fun H => H⟩

theorem c_impl_ReachedFrom {Aa : List (Int × (List Int) × Int)} {Fi : Int} {Fp : Int} {Ha : Int} {Ad : Option Addr} {Ae : Nat} {r : (List Int)} (h : M.impl_ReachedFrom Aa Fi Fp Ha = some r) :
    Cal2 Tryz.prog 40 [(Sl Ad Aa Ae), (I Fi), (I Fp), (I Ha)] [Ch.ro 0 (Sl Ad Aa Ae) Aa] (fun n0 v L => ∃ (az1 : Option Addr), ∃ (cz2 : Nat), v = (Sl az1 r cz2) ∧ L = [Ch.own 0 n0 (Sl az1 r cz2) r]) := by
 refine cal2 (n := 66) Tryz.func40 rfl rfl rfl rfl ?_
 intro S0 σ0 n0 hn0 H
 unfold M.impl_ReachedFrom at h
 refine c_seq (rg (sa (.slice none 0 0) rfl (w_end (q_then (c_seq (c_seq (rg (sm (Sl Ad Aa Ae) rfl (sm (I Fi) rfl (sm (I Fp) rfl ?_))))))))))
 revert h; refine br fun r1 hx2 h => ?_
 have hc3 := c_impl_validLinks (Ad := Ad) (Ae := Ae) hx2
 refine st_call (cx_call hc3 (ent_f hc3.fn rfl) hn0 (H.sel' [0, 0] rfl rfl : Hp S0 σ0 _ ([_] ++ _))) wn ?_
 rintro _ σ4 ⟨_, ⟨rfl, rfl⟩, H, -⟩
 replace H : Hp _ _ _ [_] := H
 refine st (v := (B (!r1))) (rv_not rfl) (w_end (q_then ?_))
 refine cd_cond (!r1) rfl (fun hb5 => ?_) (fun hb5 => ?_)
 ·replace h := bif_t hb5 h
  refine c_seq (rg (sa (.slice none 0 0) rfl (w_end (q_then (c_ret (q_then_r ?_))))))
  replace H := H.nilOwn Int 0 n0
  obtain rfl := sj h
  exact fin_ret (v := (.slice none 0 0)) (results_ok Tryz.results40 (res_tmp (v := (.slice none 0 0)) rfl res_nil) rfl) ⟨none, 0, rfl, rfl⟩ (H.sel' [0] rfl rfl)
 ·replace h := bif_f hb5 h
  refine c_skip (q_then (c_seq (c_seq (rg (sm (Sl Ad Aa Ae) rfl (sm (I Ha) rfl ?_))))))
  revert h; refine br fun r6 hx7 h => ?_
  have hc8 := c_impl_placeOf (Ad := Ad) (Ae := Ae) hx7
  refine st_call (cx_call hc8 (ent_f hc8.fn rfl) hn0 (H.sel' [0, 0] rfl rfl : Hp S0 σ0 _ ([_] ++ _))) wn ?_
  rintro _ σ9 ⟨_, ⟨rfl, rfl⟩, H, -⟩
  replace H : Hp _ _ _ [_] := H
  refine sm (.tuple #[(I r6.1), (B r6.2)]) rfl (st (v := (I r6.1)) (rv_extract rfl rfl) (st (v := (B r6.2)) (rv_extract rfl rfl) (sa (I r6.1) rfl (sa (B r6.2) rfl (w_end (q_then (c_seq (rg (sm (B r6.2) rfl (st (v := (B (!r6.2))) (rv_not rfl) (w_end ?_)))))))))))
  refine q_then ?_
  refine cd_cond (!r6.2) rfl (fun hb10 => ?_) (fun hb10 => ?_)
  ·replace h := bif_t hb10 h
   refine c_seq (rg (sa (.slice none 0 0) rfl (w_end (q_then (c_ret (q_then_r ?_))))))
   replace H := H.nilOwn Int 0 n0
   obtain rfl := sj h
   exact fin_ret (v := (.slice none 0 0)) (results_ok Tryz.results40 (res_tmp (v := (.slice none 0 0)) rfl res_nil) rfl) ⟨none, 0, rfl, rfl⟩ (H.sel' [0] rfl rfl)
  ·replace h := bif_f hb10 h
   refine c_skip (q_then (c_seq (rg (sm (Sl Ad Aa Ae) rfl (sm (I Fi) rfl (sm (I Fp) rfl ?_))))))
   revert h; refine br fun r11 hx12 h => ?_
   have hc13 := c_impl_linkItems (Ad := Ad) (Ae := Ae) hx12
   refine st_call (cx_call hc13 (ent_f hc13.fn rfl) hn0 (H.sel' [0, 0] rfl rfl : Hp S0 σ0 _ ([_] ++ _))) wn ?_
   rintro _ σ17 ⟨_, ⟨b14, K15, rfl, rfl, hK16⟩, H, -⟩
   replace H : Hp _ _ _ [_, _] := H
   refine sa (.map (some b14)) rfl (w_end (q_then (c_seq (rg (sm (I Ha) rfl ?_)))))
   refine st_ex (ex_buildSlice (el := n0) (xs := ([Ha] : List Int)) (ps := [(0, (I Ha))]) (cs := [(I Ha)]) H hn0 Tryz.underlying27 ti3 rfl rfl (by kernel_rfl) (.cons (c := [(I Ha)]) rfl (.nil)) rfl) wn ?_
   rintro _ σ19 ⟨b18, rfl, H, -⟩
   refine sa (Sl (some ⟨b18, 0, none⟩) ([Ha] : List Int) 1) rfl (w_end (q_then (c_seq (c_seq (rg (sa (I 0) rfl (w_end (q_then ?_))))))))
   obtain ⟨o20, hj, h'⟩ := bind_some h
   clear h
   refine c_cut (fun e a w => e = .normal ∧ ∃ (ρ : Nat → Value) (σ : St) (aj1 : Option Addr) (cj2 : Nat), a = fr 66 (updL ρ [(12, (Sl aj1 o20 cj2))]) ∧ w = σ.w ∧ Hp S0 σ0 σ [Ch.own n0 n0 (Sl aj1 o20 cj2) o20]) ?_ ?_
   ·clear h'
    rename _ = some o20 => h
    refine c_blk ?_
    obtain ⟨σ22, hw23, H, -⟩ := H.mpPub 1 rfl hK16
    rw [← hw23]; clear hw23
    refine wp_loopM _ h (fun s21 a w => ∃ (ρ : Nat → Value) (σ : St) (aj1 : Option Addr) (cj2 : Nat), a = fr 66 (updL ρ [(11, (.map (some b14))), (12, (Sl aj1 s21.1 cj2)), (13, (I s21.2))]) ∧ w = σ.w ∧ Hp S0 σ0 σ [Ch.mr b14 r11, Ch.own n0 n0 (Sl aj1 s21.1 cj2) s21.1]) ⟨_, σ22, (some ⟨b18, 0, none⟩), 1, fr_join ⟨rfl, rfl, rfl, trivial⟩, rfl, H.sel' [0, 1] rfl rfl⟩ ?_
    clear h H
    rintro s21 a w o ⟨ρ, σ24, a25, c26, rfl, rfl, H⟩ h hres
    refine c_seq (c_seq (rg (sm (I s21.2) rfl (sm (Sl a25 s21.1 c26) rfl (st (v := (I (s21.1.length : Int))) (rv_len Tryz.underlying27 rfl) (st (v := (B (decide (s21.2 < (s21.1.length : Int))))) (rv_lss (a := s21.2) (b := (s21.1.length : Int)) rfl rfl) (w_end (q_then ?_))))))))
    refine cd_cond (decide (s21.2 < (s21.1.length : Int))) rfl (fun hb27 => ?_) (fun hb27 => ?_)
    ·replace h := bif_t hb27 h
     refine c_skip (q_then (c_seq (c_blk (c_seq (rg (sm (.map (some b14)) rfl (sm (Sl a25 s21.1 c26) rfl (sm (I s21.2) rfl ?_))))))))
     revert h; refine br fun x28 hx29 h => ?_
     obtain ⟨b31, o32, hi30, -⟩ := (H.own 1 rfl).ix hx29
     refine st (v := (pt b31 o32)) (rv_ix Tryz.underlying27 ti3 rfl rfl hi30) ?_
     have hc33 := ((H.own 1 rfl).at hx29 hi30).int
     refine st (v := (I x28)) (rv_load1 Tryz.underlying3 rfl rfl hc33) ?_
     obtain ⟨v37, hL36, hR38⟩ := mrGet (H.mr 0 rfl) x28
     obtain ⟨a34, c35, rfl⟩ := hR38.isSl
     replace H := H.add (d := Ch.ro 0 (Sl a34 (mget r11 x28) c35) (mget r11 x28)) hR38 (fun _ h => h)
     clear hR38
     refine st (v := (Sl a34 (mget r11 x28) c35)) (rv_lookup Tryz.underlying111 Tryz.underlying3 ti26 rfl rfl hL36) (st (v := (I ((mget r11 x28).length : Int))) (rv_len Tryz.underlying26 rfl) (sm (I 0) rfl (w_end (q_then ?_))))
     obtain ⟨o39, hj, h'⟩ := bind_some h
     clear h
     refine c_cut (fun e a w => e = .normal ∧ ∃ (ρ : Nat → Value) (σ : St) (aj1 : Option Addr) (cj2 : Nat), a = fr 66 (updL ρ [(11, (.map (some b14))), (12, (Sl aj1 o39 cj2)), (13, (I s21.2))]) ∧ w = σ.w ∧ Hp S0 σ0 σ [Ch.mr b14 r11, Ch.own n0 n0 (Sl aj1 o39 cj2) o39]) ?_ ?_
     ·clear h'
      rename _ = some o39 => h
      refine c_blk (wp_loopM _ h (fun s40 a w => ∃ (ρ : Nat → Value) (σ : St) (aj1 : Option Addr) (cj2 : Nat), a = fr 66 (updL ρ [(11, (.map (some b14))), (12, (Sl aj1 s40.1 cj2)), (13, (I s21.2)), (46, (Sl a34 (mget r11 x28) c35)), (47, (I ((mget r11 x28).length : Int))), (48, (I s40.2))]) ∧ w = σ.w ∧ Hp S0 σ0 σ [Ch.mr b14 r11, Ch.own n0 n0 (Sl aj1 s40.1 cj2) s40.1, Ch.ro 0 (Sl a34 (mget r11 x28) c35) (mget r11 x28)]) ⟨_, σ24, a25, c26, fr_join ⟨rfl, rfl, rfl, rfl, rfl, rfl, trivial⟩, rfl, H.sel' [1, 2, 0] rfl rfl⟩ ?_)
      clear h H
      rintro s40 a w o ⟨ρ, σ41, a42, c43, rfl, rfl, H⟩ h hres
      refine c_seq (rg (st (v := (B (decide (s40.2 < ((mget r11 x28).length : Int))))) (rv_lss (a := s40.2) (b := ((mget r11 x28).length : Int)) rfl rfl) (w_end (q_then (c_seq ?_)))))
      refine cd_cond (decide (s40.2 < ((mget r11 x28).length : Int))) rfl (fun hb44 => ?_) (fun hb44 => ?_)
      ·replace h := bif_t hb44 h
       refine c_skip (q_then (c_seq ?_))
       obtain ⟨o45, hj, h'⟩ := bind_some h
       clear h
       refine c_cut (fun e a w => e = .normal ∧ ∃ (ρ : Nat → Value) (σ : St) (aj1 : Option Addr) (cj2 : Nat), a = fr 66 (updL ρ [(11, (.map (some b14))), (12, (Sl aj1 o45 cj2)), (13, (I s21.2)), (46, (Sl a34 (mget r11 x28) c35)), (47, (I ((mget r11 x28).length : Int))), (48, (I s40.2))]) ∧ w = σ.w ∧ Hp S0 σ0 σ [Ch.mr b14 r11, Ch.own n0 n0 (Sl aj1 o45 cj2) o45, Ch.ro 0 (Sl a34 (mget r11 x28) c35) (mget r11 x28)]) ?_ ?_
       ·clear h'
        rename _ = some o45 => h
        refine c_blk (c_seq (rg ?_))
        revert h; refine br fun x46 hx47 h => ?_
        obtain ⟨b49, o50, hi48, -⟩ := (H.ro 2 rfl).ix hx47
        refine st (v := (pt b49 o50)) (rv_ix Tryz.underlying26 ti34 rfl rfl hi48) ?_
        obtain ⟨_, ⟨_, _, rfl, rfl, ⟨_, _, rfl, ⟨_, rfl, hR55⟩, rfl⟩⟩, hl51, hc52⟩ := ((H.ro 2 rfl).at hx47 hi48).cells
        obtain ⟨a53, c54, rfl⟩ := hR55.isSl
        replace H := H.add (d := Ch.ro 0 (Sl a53 x46.2.1 c54) x46.2.1) hR55 (fun _ h => h)
        clear hR55
        refine st (v := (.agg #[(I x46.1), (Sl a53 x46.2.1 c54), (I x46.2.2)])) (rv_load Tryz.underlying34 rfl ti34 rfl hl51 hc52) (st_ex (ex_alloc (cs := [(I 0), (.slice none 0 0), (I 0)]) H hn0 ti34 rfl) wn ?_)
        rintro _ σ57 ⟨b56, rfl, H, -⟩
        refine st_exS (ex_store_box (k := 0) (cs := [(I 0), (.slice none 0 0), (I 0)]) (vs := [(I x46.1), (Sl a53 x46.2.1 c54), (I x46.2.2)]) (cs' := [(I x46.1), (Sl a53 x46.2.1 c54), (I x46.2.2)]) H (i := 0) rfl ti34 rfl rfl rfl rfl rfl (Nat.le_of_ble_eq_true rfl) (by simp [plain]) rfl) wn ?_
        rintro σ58 ⟨H, -⟩
        refine w_end (q_then (c_seq (rg (sm (Sl a42 s40.1 c43) rfl (st (v := (pt b56 0)) (rv_fieldAddr (off := 0) (ft := 3) Tryz.underlying34 rfl ti3 rfl rfl) ?_)))))
        have hc59 := H.cell (u := (I x46.1)) (o' := 0) 0 0 rfl rfl rfl
        refine st (v := (I x46.1)) (rv_load1 Tryz.underlying3 rfl rfl hc59) ?_
        revert h; refine br fun r60 hx61 h => ?_
        have hc62 := c_slices_Contains_int_int (Cu := a42) (Cv := c43) hx61
        have hle := Nat.le_trans hn0 H.size
        refine st_call (cx_lend (Loan.lend Loan.nil) hc62 (ent_f hc62.fn rfl) (show Hp S0 σ0 _ ([Ch.own n0 n0 (Sl a42 s40.1 c43) s40.1] ++ ([] ++ [Ch.bx n0 b56 0 [(I x46.1), (Sl a53 x46.2.1 c54), (I x46.2.2)] [] [], Ch.ro 0 (Sl a53 x46.2.1 c54) x46.2.1, Ch.mr b14 r11, Ch.ro 0 (Sl a34 (mget r11 x28) c35) (mget r11 x28)])) from (H.sel' [3, 0, 1, 2, 4] rfl rfl)) (by rintro _ _ _ ⟨rfl, rfl⟩; exact trivial)) wn ?_
        rintro _ σ63 ⟨_, ⟨rfl, rfl⟩, H, -, -⟩
        replace H : Hp _ _ _ [_, _, _, _, _] := H
        clear hle
        replace H : Hp _ _ _ [_, _, _, _, _] := H
        refine st (v := (B (!r60))) (rv_not rfl) (w_end (q_then ?_))
        refine cd_cond (!r60) rfl (fun hb64 => ?_) (fun hb64 => ?_)
        ·replace h := bif_t hb64 h
         refine rg (sm (Sl a42 s40.1 c43) rfl (st (v := (pt b56 0)) (rv_fieldAddr (off := 0) (ft := 3) Tryz.underlying34 rfl ti3 rfl rfl) ?_))
         have hc65 := H.cell (u := (I x46.1)) (o' := 0) 1 0 rfl rfl rfl
         refine st (v := (I x46.1)) (rv_load1 Tryz.underlying3 rfl rfl hc65) ?_
         refine st_ex (ex_buildSlice (el := n0) (xs := ([x46.1] : List Int)) (ps := [(0, (I x46.1))]) (cs := [(I x46.1)]) H hn0 Tryz.underlying27 ti3 rfl rfl (by kernel_rfl) (.cons (c := [(I x46.1)]) rfl (.nil)) rfl) wn ?_
         rintro _ σ67 ⟨b66, rfl, H, -⟩
         revert h; refine br fun xs68 hx69 h => ?_
         refine st_ex (ex_append H (i := 1) rfl Tryz.underlying27 Tryz.underlying27 ti3 rfl rfl (by decide) (H.own 0 rfl).rd hx69 hn0 rfl rfl) wn ?_
         rintro _ σ72 ⟨a70, c71, rfl, H, -⟩
         refine sa (Sl a70 xs68 c71) rfl (w_end (q_blk ?_))
         obtain rfl := sj h
         exact ⟨rfl, _, σ72, a70, c71, fr_join ⟨rfl, rfl, rfl, rfl, rfl, rfl, trivial⟩, rfl, H.sel' [4, 0, 5] rfl rfl⟩
        ·replace h := bif_f hb64 h
         refine c_skip (q_blk ?_)
         obtain rfl := sj h
         exact ⟨rfl, _, σ63, a42, c43, fr_join ⟨rfl, rfl, rfl, rfl, rfl, rfl, trivial⟩, rfl, H.sel' [3, 0, 4] rfl rfl⟩
       ·clear hj
        have h := h'
        clear h' H
        rintro e a w ⟨rfl, ρ, σ73, a74, c75, rfl, rfl, H⟩
        refine q_then (rg (st (v := (I (w64 (s40.2 + 1)))) (rv_add (a := s40.2) (b := 1) rfl rfl) (sm (I (w64 (s40.2 + 1))) rfl (w_end (q_then ?_)))))
        obtain rfl := sj h
        exact ⟨_, rfl, _, σ73, a74, c75, fr_join ⟨rfl, rfl, rfl, rfl, rfl, rfl, trivial⟩, rfl, H.sel' [0, 1, 2] rfl rfl⟩
      ·replace h := bif_f hb44 h
       refine c_exit (q_then_x (q_then_x (q_blk_hit ?_)))
       obtain rfl := sj h
       obtain rfl := hres _ rfl
       exact ⟨rfl, _, σ41, a42, c43, fr_join ⟨rfl, rfl, rfl, trivial⟩, rfl, H.sel' [0, 1] rfl rfl⟩
     ·clear hj
      have h := h'
      clear h' H
      rintro e a w ⟨rfl, ρ, σ76, a77, c78, rfl, rfl, H⟩
      refine q_blk (q_then (rg (sm (I s21.2) rfl (st (v := (I (w64 (s21.2 + 1)))) (rv_add (a := s21.2) (b := 1) rfl rfl) (sa (I (w64 (s21.2 + 1))) rfl (w_end (q_then ?_)))))))
      obtain rfl := sj h
      exact ⟨_, rfl, _, σ76, a77, c78, fr_join ⟨rfl, rfl, rfl, trivial⟩, rfl, H.sel' [0, 1] rfl rfl⟩
    ·replace h := bif_f hb27 h
     refine c_exit (q_then_x (q_then_x (q_blk_hit ?_)))
     obtain rfl := sj h
     obtain rfl := hres _ rfl
     exact ⟨rfl, _, σ24, a25, c26, fr_join ⟨rfl, trivial⟩, rfl, H.sel' [1] rfl rfl⟩
   ·clear hj
    have h := h'
    clear h' H
    rintro e a w ⟨rfl, ρ, σ79, a80, c81, rfl, rfl, H⟩
    refine q_then (c_seq (rg (sm (Sl a80 o20 c81) rfl ?_)))
    replace H := H.ownLow 0 0 0 rfl (Nat.zero_le _) (Nat.zero_le _)
    revert h; refine br fun r82 hx83 h => ?_
    have hc84 := c_slices_Sort_int_int (Dq := a80) (Dr := c81) hx83
    refine st_call (cx_call hc84 (ent_f hc84.fn rfl) hn0 (H.sel' [0] rfl rfl : Hp S0 σ0 _ ([_] ++ _))) wn ?_
    rintro _ σ86 ⟨_, ⟨rfl, rfl, hn85⟩, H, -⟩
    replace H : Hp _ _ _ [_] := H
    have hsl : (Sl a80 o20 c81) = (Sl a80 r82 c81) := sl_len hn85.symm
    try rw [hsl]
    try rw [hsl] at H
    clear hsl
    refine w_end (q_then (c_seq (rg (sm (Sl a80 r82 c81) rfl (sa (Sl a80 r82 c81) rfl (w_end (q_then (c_ret ?_))))))))
    replace H := H.ownSc 0 0 n0 rfl (Nat.le_refl _)
    obtain rfl := sj h
    exact fin_ret (v := (Sl a80 r82 c81)) (results_ok Tryz.results40 (res_tmp (v := (Sl a80 r82 c81)) rfl res_nil) rfl) ⟨a80, c81, rfl, rfl⟩ (H.sel' [0] rfl rfl)

theorem c_laws_FnReachedFrom {Am : List UInt8} {Ao : Option Addr} {Ap : Nat} {r : Bool} (h : M.laws_FnReachedFrom Am = some r) :
    Cal2 Tryz.prog 10 [(Sl Ao Am Ap)] [Ch.ro 0 (Sl Ao Am Ap) Am] (fun n0 v L => v = (B r) ∧ L = []) := by
 refine cal2 (n := 82) Tryz.func10 rfl rfl rfl rfl ?_
 intro S0 σ0 n0 hn0 H
 unfold M.laws_FnReachedFrom at h
 refine c_seq (rg (sa (B false) rfl (w_end (q_then (c_seq (c_seq (rg (sm (Sl Ao Am Ap) rfl (st (v := (I (Am.length : Int))) (rv_len Tryz.underlying22 rfl) (st (v := (B (decide (1048576 < (Am.length : Int))))) (rv_gtr (a := (Am.length : Int)) (b := 1048576) rfl rfl) (w_end ?_)))))))))))
 refine q_then ?_
 refine cd_cond (decide (1048576 < (Am.length : Int))) rfl (fun hb1 => ?_) (fun hb1 => ?_)
 ·replace h := bif_t hb1 h
  refine c_seq (rg (sa (B true) rfl (w_end (q_then (c_ret (q_then_r ?_))))))
  obtain rfl := sj h
  exact fin_ret (v := (B true)) (results_ok Tryz.results10 (res_tmp (v := (B true)) rfl res_nil) rfl) ⟨rfl, rfl⟩ (H.sel' [] rfl rfl)
 ·replace h := bif_f hb1 h
  refine c_skip (q_then (c_seq (rg (sm (Sl Ao Am Ap) rfl ?_))))
  revert h; refine br fun r2 hx3 h => ?_
  have hc4 := c_spec_DrawWalkTo (Ao := Ao) (Ap := Ap) hx3
  refine st_call (cx_call hc4 (ent_f hc4.fn rfl) hn0 (H.sel' [0, 0] rfl rfl : Hp S0 σ0 _ ([_] ++ _))) wn ?_
  rintro _ σ9 ⟨_, ⟨a5, c6, a7, c8, rfl, rfl⟩, H, -⟩
  replace H : Hp _ _ _ [_, _, _] := H
  refine sm (.tuple #[(Sl a5 r2.1 c6), (I r2.2.1), (I r2.2.2.1), (I r2.2.2.2.1), (Sl a7 r2.2.2.2.2 c8)]) rfl (st (v := (Sl a5 r2.1 c6)) (rv_extract rfl rfl) (st (v := (I r2.2.1)) (rv_extract rfl rfl) (st (v := (I r2.2.2.1)) (rv_extract rfl rfl) (st (v := (I r2.2.2.2.1)) (rv_extract rfl rfl) (st (v := (Sl a7 r2.2.2.2.2 c8)) (rv_extract rfl rfl) (sa (Sl a5 r2.1 c6) rfl (sa (I r2.2.1) rfl (sa (I r2.2.2.1) rfl (sa (I r2.2.2.2.1) rfl (sa (Sl a7 r2.2.2.2.2 c8) rfl (w_end ?_)))))))))))
  refine q_then (c_seq (rg (sm (Sl a5 r2.1 c6) rfl (sm (I r2.2.1) rfl (sm (I r2.2.2.1) rfl (sm (I r2.2.2.2.1) rfl (sm (Sl a7 r2.2.2.2.2 c8) rfl ?_)))))))
  replace H := H.roLow 0 0 rfl (Nat.zero_le _)
  revert h; refine br fun r10 hx11 h => ?_
  have hc12 := c_impl_WalkTo (Ad := a5) (Ae := c6) (Hd := a7) (He := c8) hx11
  have hle := Nat.le_trans hn0 H.size
  refine st_call (cx_lend (Loan.same (Loan.lend Loan.nil)) hc12 (ent_f hc12.fn rfl) (show Hp S0 σ0 _ ([Ch.own n0 n0 (Sl a7 r2.2.2.2.2 c8) r2.2.2.2.2] ++ ([Ch.ro 0 (Sl a5 r2.1 c6) r2.1] ++ [Ch.ro 0 (Sl a5 r2.1 c6) r2.1, Ch.ro n0 (Sl a5 r2.1 c6) r2.1, Ch.ro 0 (Sl Ao Am Ap) Am])) from (H.sel' [2, 0, 0, 1, 3] rfl rfl)) (by rintro _ _ _ ⟨_, _, rfl, rfl⟩; exact ⟨Ab.ownSc, trivial⟩)) wn ?_
  rintro _ σ15 ⟨_, ⟨a13, c14, rfl, rfl⟩, H, -, -⟩
  replace H : Hp _ _ _ [_, _, _, _, _] := H
  replace H := H.ownLow 0 n0 n0 rfl hle hle
  clear hle
  replace H : Hp _ _ _ [_, _, _, _, _] := H
  refine sm (.tuple #[(Sl a13 r10.1 c14), (B r10.2)]) rfl (st (v := (Sl a13 r10.1 c14)) (rv_extract rfl rfl) (st (v := (B r10.2)) (rv_extract rfl rfl) (sa (Sl a13 r10.1 c14) rfl (sa (B r10.2) rfl (w_end (q_then (c_seq (rg (sm (Sl a5 r2.1 c6) rfl (sm (I r2.2.1) rfl (sm (I r2.2.2.1) rfl ?_)))))))))))
  refine sm (I r2.2.2.2.1) rfl (sm (Sl a7 r2.2.2.2.2 c8) rfl ?_)
  obtain ⟨σ16, hw17, H, -⟩ := H.pub 1 rfl (Nat.le_refl _)
  rw [← hw17]; clear hw17
  replace H := H.roLow 3 0 rfl (Nat.zero_le _)
  replace H := H.roLow 1 0 rfl (Nat.zero_le _)
  revert h; refine br fun r18 hx19 h => ?_
  have hc20 := c_spec_WalkTo (Ad := a5) (Ae := c6) (Hd := a7) (He := c8) hx19
  refine st_call (cx_call hc20 (ent_f hc20.fn rfl) hn0 (H.sel' [1, 0, 0, 1, 2, 3, 4, 5, 6] rfl rfl : Hp S0 σ0 _ ([_, _] ++ _))) wn ?_
  rintro _ σ23 ⟨_, ⟨a21, c22, rfl, rfl⟩, H, -⟩
  replace H : Hp _ _ _ [_, _, _, _, _, _, _, _] := H
  replace H : Hp S0 σ0 σ23 [Ch.own n0 n0 (Sl a21 r18.1 c22) r18.1, Ch.own n0 n0 (Sl a13 r10.1 c14) r10.1, Ch.ro n0 (Sl a5 r2.1 c6) r2.1] := H.sel' [0, 4, 6] rfl rfl
  refine sm (.tuple #[(Sl a21 r18.1 c22), (B r18.2)]) rfl (st (v := (Sl a21 r18.1 c22)) (rv_extract rfl rfl) (st (v := (B r18.2)) (rv_extract rfl rfl) (sa (Sl a21 r18.1 c22) rfl (sa (B r18.2) rfl (w_end (q_then (c_seq (c_seq ?_))))))))
  obtain ⟨o24, hj, h'⟩ := bind_some h
  clear h
  refine c_cut (fun e a w => e = .normal ∧ ∃ (ρ : Nat → Value) (σ : St), a = fr 82 (updL ρ [(3, (Sl a5 r2.1 c6)), (4, (I r2.2.1)), (5, (I r2.2.2.1)), (6, (I r2.2.2.2.1)), (8, (Sl a13 r10.1 c14)), (9, (B r10.2)), (10, (Sl a21 r18.1 c22)), (11, (B r18.2)), (55, (B o24))]) ∧ w = σ.w ∧ Hp S0 σ0 σ [Ch.ro n0 (Sl a5 r2.1 c6) r2.1, Ch.own n0 n0 (Sl a13 r10.1 c14) r10.1, Ch.own n0 n0 (Sl a21 r18.1 c22) r18.1]) ?_ ?_
  ·clear h'
   rename _ = some o24 => h
   refine rg (sm (Sl a13 r10.1 c14) rfl (sm (Sl a21 r18.1 c22) rfl ?_))
   revert h; refine br fun r25 hx26 h => ?_
   have hc27 := c_laws_equalInts (Ah := a13) (Ai := c14) (Aj := a21) (Ak := c22) hx26
   have hle := Nat.le_trans hn0 H.size
   refine st_call (cx_lend (Loan.lend (Loan.lend Loan.nil)) hc27 (ent_f hc27.fn rfl) (show Hp S0 σ0 _ ([Ch.own n0 n0 (Sl a13 r10.1 c14) r10.1, Ch.own n0 n0 (Sl a21 r18.1 c22) r18.1] ++ ([] ++ [Ch.ro n0 (Sl a5 r2.1 c6) r2.1])) from (H.sel' [1, 0, 2] rfl rfl)) (by rintro _ _ _ ⟨rfl, rfl⟩; exact trivial)) wn ?_
   rintro _ σ28 ⟨_, ⟨rfl, rfl⟩, H, -, -⟩
   replace H : Hp _ _ _ [_, _, _] := H
   clear hle
   replace H : Hp _ _ _ [_, _, _] := H
   refine st (v := (B (!r25))) (rv_not rfl) (sm (B (!r25)) rfl ?_)
   rcases Bool.eq_false_or_eq_true (!r25) with hb29 | hb29
   ·replace h := bif_t hb29 h
    refine st_skip (congrArg some hb29) (st_skip (congrArg some hb29) (st_skip (congrArg some hb29) (st (v := (B true)) (rv_pick_t (congrArg B hb29) rfl) (sm (B true) rfl (st_skip rfl (st_skip rfl (st (v := (B true)) (rv_pick_t rfl rfl) (w_end ?_))))))))
    obtain rfl := sj h
    exact ⟨rfl, _, σ28, fr_join ⟨rfl, rfl, rfl, rfl, rfl, rfl, rfl, rfl, rfl, trivial⟩, rfl, H.sel' [2, 0, 1] rfl rfl⟩
   ·replace h := bif_f hb29 h
    refine st_g (v := (B r10.2)) (congrArg some hb29) (rv_move rfl) (st_g (v := (B r18.2)) (congrArg some hb29) (rv_move rfl) (st_g (v := (B (r10.2 != r18.2))) (congrArg some hb29) (rv_bneq Tryz.underlying4 rfl rfl) (st (v := (B (r10.2 != r18.2))) (rv_pick_f (congrArg B hb29) rfl) (sm (B (r10.2 != r18.2)) rfl ?_))))
    rcases Bool.eq_false_or_eq_true (r10.2 != r18.2) with hb30 | hb30
    ·replace h := bif_t hb30 h
     refine st_skip (congrArg some hb30) (st_skip (congrArg some hb30) (st (v := (B true)) (rv_pick_t (congrArg B hb30) rfl) (w_end ?_)))
     obtain rfl := sj h
     exact ⟨rfl, _, σ28, fr_join ⟨rfl, rfl, rfl, rfl, rfl, rfl, rfl, rfl, rfl, trivial⟩, rfl, H.sel' [2, 0, 1] rfl rfl⟩
    ·replace h := bif_f hb30 h
     refine st_g (v := (B r10.2)) (congrArg some hb30) (rv_move rfl) (st_g (v := (B (!r10.2))) (congrArg some hb30) (rv_not rfl) (st (v := (B (!r10.2))) (rv_pick_f (congrArg B hb30) rfl) (w_end ?_)))
     obtain rfl := sj h
     exact ⟨rfl, _, σ28, fr_join ⟨rfl, rfl, rfl, rfl, rfl, rfl, rfl, rfl, rfl, trivial⟩, rfl, H.sel' [2, 0, 1] rfl rfl⟩
  ·clear hj
   have h := h'
   clear h' H
   rintro e a w ⟨rfl, ρ, σ31, rfl, rfl, H⟩
   refine q_then ?_
   refine cd_cond o24 rfl (fun hb32 => ?_) (fun hb32 => ?_)
   ·replace h := bif_t hb32 h
    refine c_seq (rg (sm (Sl a13 r10.1 c14) rfl (sm (Sl a21 r18.1 c22) rfl ?_)))
    obtain ⟨σ33, hw34, H, -⟩ := H.pub 1 rfl (Nat.le_refl _)
    rw [← hw34]; clear hw34
    obtain ⟨σ35, hw36, H, -⟩ := H.pub 2 rfl (Nat.le_refl _)
    rw [← hw36]; clear hw36
    replace H := H.roLow 1 0 rfl (Nat.zero_le _)
    replace H := H.roLow 1 0 rfl (Nat.zero_le _)
    revert h; refine br fun r37 hx38 h => ?_
    have hc39 := c_laws_equalInts (Ah := a13) (Ai := c14) (Aj := a21) (Ak := c22) hx38
    refine st_call (cx_call hc39 (ent_f hc39.fn rfl) hn0 (H.sel' [1, 0, 0, 1, 2, 3, 4] rfl rfl : Hp S0 σ0 _ ([_, _] ++ _))) wn ?_
    rintro _ σ40 ⟨_, ⟨rfl, rfl⟩, H, -⟩
    replace H : Hp _ _ _ [_, _, _, _, _] := H
    refine sm (B r37) rfl ?_
    rcases Bool.eq_false_or_eq_true r37 with hb41 | hb41
    ·replace h := bif_t hb41 h
     refine st_g (v := (B r10.2)) (congrArg some hb41) (rv_move rfl) (st_g (v := (B r18.2)) (congrArg some hb41) (rv_move rfl) (st_g (v := (B (r10.2 == r18.2))) (congrArg some hb41) (rv_beql Tryz.underlying4 rfl rfl) (st (v := (B (r10.2 == r18.2))) (rv_pick_t (congrArg B hb41) rfl) (sa (B (r10.2 == r18.2)) rfl (w_end (q_then (c_ret (q_then_r ?_))))))))
     obtain rfl := sj h
     exact fin_ret (v := (B (r10.2 == r18.2))) (results_ok Tryz.results10 (res_tmp (v := (B (r10.2 == r18.2))) rfl res_nil) rfl) ⟨rfl, rfl⟩ (H.sel' [] rfl rfl)
    ·replace h := bif_f hb41 h
     refine st_skip (congrArg some hb41) (st_skip (congrArg some hb41) (st_skip (congrArg some hb41) (st (v := (B false)) (rv_pick_f (congrArg B hb41) rfl) (sa (B false) rfl (w_end (q_then (c_ret (q_then_r ?_))))))))
     obtain rfl := sj h
     exact fin_ret (v := (B false)) (results_ok Tryz.results10 (res_tmp (v := (B false)) rfl res_nil) rfl) ⟨rfl, rfl⟩ (H.sel' [] rfl rfl)
   ·replace h := bif_f hb32 h
    refine c_skip (q_then (c_seq (rg (sm (Sl a5 r2.1 c6) rfl (sm (I r2.2.1) rfl (sm (I r2.2.2.1) rfl (sm (I r2.2.2.2.1) rfl ?_)))))))
    replace H := H.roLow 0 0 rfl (Nat.zero_le _)
    revert h; refine br fun r42 hx43 h => ?_
    have hc44 := c_impl_ReachedFrom (Ad := a5) (Ae := c6) hx43
    refine st_call (cx_call hc44 (ent_f hc44.fn rfl) hn0 (H.sel' [0, 0, 1, 2, 3] rfl rfl : Hp S0 σ0 _ ([_] ++ _))) wn ?_
    rintro _ σ47 ⟨_, ⟨a45, c46, rfl, rfl⟩, H, -⟩
    replace H : Hp _ _ _ [_, _, _, _, _] := H
    refine sa (Sl a45 r42 c46) rfl (w_end (q_then (c_seq (c_seq (rg (sa (I 0) rfl (w_end (q_then ?_))))))))
    obtain ⟨o48, hj, h'⟩ := bind_some h
    clear h
    refine c_cut (fun e a w => (∃ t, o48 = (.inl t) ∧ e = .normal ∧ ∃ (ρ : Nat → Value) (σ : St), a = fr 82 (updL ρ []) ∧ w = σ.w ∧ Hp S0 σ0 σ []) ∨ (∃ t, o48 = (.inr t) ∧ e = .ret ∧ ∃ (ρ : Nat → Value) (σ : St), a = fr 82 (updL ρ [(2, (B t))]) ∧ w = σ.w ∧ Hp S0 σ0 σ [])) ?_ ?_
    ·clear h'
     rename _ = some o48 => h
     refine c_blk (wp_loopM _ h (fun s49 a w => ∃ (ρ : Nat → Value) (σ : St), a = fr 82 (updL ρ [(8, (Sl a13 r10.1 c14)), (12, (Sl a45 r42 c46)), (13, (I s49))]) ∧ w = σ.w ∧ Hp S0 σ0 σ [Ch.own n0 n0 (Sl a13 r10.1 c14) r10.1, Ch.own 0 n0 (Sl a45 r42 c46) r42]) ⟨_, σ47, fr_join ⟨rfl, rfl, rfl, trivial⟩, rfl, H.sel' [3, 0] rfl rfl⟩ ?_)
     clear h H
     rintro s49 a w o ⟨ρ, σ50, rfl, rfl, H⟩ h hres
     refine c_seq (c_seq (rg (sm (I s49) rfl (sm (Sl a13 r10.1 c14) rfl (st (v := (I (r10.1.length : Int))) (rv_len Tryz.underlying27 rfl) (st (v := (B (decide (s49 < (r10.1.length : Int))))) (rv_lss (a := s49) (b := (r10.1.length : Int)) rfl rfl) (w_end (q_then ?_))))))))
     refine cd_cond (decide (s49 < (r10.1.length : Int))) rfl (fun hb51 => ?_) (fun hb51 => ?_)
     ·replace h := bif_t hb51 h
      refine c_skip (q_then (c_seq (c_blk (c_seq (rg (sm (Sl a45 r42 c46) rfl (sm (Sl a13 r10.1 c14) rfl (sm (I s49) rfl ?_))))))))
      revert h; refine br fun x52 hx53 h => ?_
      obtain ⟨b55, o56, hi54, -⟩ := (H.own 0 rfl).ix hx53
      refine st (v := (pt b55 o56)) (rv_ix Tryz.underlying27 ti3 rfl rfl hi54) ?_
      have hc57 := ((H.own 0 rfl).at hx53 hi54).int
      refine st (v := (I x52)) (rv_load1 Tryz.underlying3 rfl rfl hc57) ?_
      revert h; refine br fun r58 hx59 h => ?_
      have hc60 := c_laws_isIn (Ad := a45) (Ae := c46) hx59
      have hle := Nat.le_trans hn0 H.size
      refine st_call (cx_lend (Loan.lend Loan.nil) hc60 (ent_f hc60.fn rfl) (show Hp S0 σ0 _ ([Ch.own 0 n0 (Sl a45 r42 c46) r42] ++ ([] ++ [Ch.own n0 n0 (Sl a13 r10.1 c14) r10.1])) from (H.sel' [1, 0] rfl rfl)) (by rintro _ _ _ ⟨rfl, rfl⟩; exact trivial)) wn ?_
      rintro _ σ61 ⟨_, ⟨rfl, rfl⟩, H, -, -⟩
      replace H : Hp _ _ _ [_, _] := H
      clear hle
      replace H : Hp _ _ _ [_, _] := H
      refine st (v := (B (!r58))) (rv_not rfl) (w_end (q_then ?_))
      refine cd_cond (!r58) rfl (fun hb62 => ?_) (fun hb62 => ?_)
      ·replace h := bif_t hb62 h
       refine c_seq (rg (sa (B false) rfl (w_end (q_then (c_ret (q_blk_r (q_then_r (q_then_r (q_blk_r ?_)))))))))
       obtain rfl := sj h
       obtain rfl := hres _ rfl
       exact .inr (⟨_, rfl, rfl, _, σ61, fr_join ⟨rfl, trivial⟩, rfl, H.sel' [] rfl rfl⟩)
      ·replace h := bif_f hb62 h
       refine c_skip (q_blk (q_then (rg (sm (I s49) rfl (st (v := (I (w64 (s49 + 1)))) (rv_add (a := s49) (b := 1) rfl rfl) (sa (I (w64 (s49 + 1))) rfl (w_end (q_then ?_))))))))
       obtain rfl := sj h
       exact ⟨_, rfl, _, σ61, fr_join ⟨rfl, rfl, rfl, trivial⟩, rfl, H.sel' [1, 0] rfl rfl⟩
     ·replace h := bif_f hb51 h
      refine c_exit (q_then_x (q_then_x (q_blk_hit ?_)))
      obtain rfl := sj h
      obtain rfl := hres _ rfl
      exact .inl ⟨_, rfl, rfl, _, σ50, fr_join trivial, rfl, H.sel' [] rfl rfl⟩
    ·clear hj
     have h := h'
     clear h' H
     rintro e a w (⟨t63, rfl, rfl, ρ, σ64, rfl, rfl, H⟩ | ⟨t65, rfl, rfl, ρ, σ66, rfl, rfl, H⟩)
     ·replace h := selim_l h
      refine q_then (c_seq (rg (sa (B true) rfl (w_end (q_then (c_ret ?_))))))
      obtain rfl := sj h
      exact fin_ret (v := (B true)) (results_ok Tryz.results10 (res_tmp (v := (B true)) rfl res_nil) rfl) ⟨rfl, rfl⟩ (H.sel' [] rfl rfl)
     ·replace h := selim_r h
      refine q_then_r ?_
      obtain rfl := sj h
      exact fin_ret (v := (B t65)) (results_ok Tryz.results10 (res_tmp (v := (B t65)) rfl res_nil) rfl) ⟨rfl, rfl⟩ (H.sel' [] rfl rfl)

end Go.Vs
