/- The functions compute what their models say. -/
import Derived.Test.YtbbddfckcpfoaaaGreatKReachedFromC5
set_option linter.unusedVariables false
set_option linter.unusedSimpArgs false
set_option maxRecDepth 20000
namespace Go.Vs
open Go Go.Proofs
attribute [local irreducible] Code.wp Code.wpIn wpList wpListIn wpQuiet Calls CallsIn

theorem c_slices_partialInsertionSortOrdered_int {Hj : List Int} {Dx : Int} {Dy : Int} {Hk : Option Addr} {Hl : Nat} {r : Bool × (List Int)} (h : M.slices_partialInsertionSortOrdered_int Hj Dx Dy = some r) :
    Cal2 Tryz.prog 182 [(Sl Hk Hj Hl), (I Dx), (I Dy)] [Ch.own 0 0 (Sl Hk Hj Hl) Hj] (fun n0 v L => v = (B r.1) ∧ L = [Ch.own 0 0 (Sl Hk r.2 Hl) r.2] ∧ r.2.length = Hj.length) := by
 refine cal2 (n := 133) Tryz.func182 rfl rfl rfl rfl ?_
 intro S0 σ0 n0 hn0 H
 unfold M.slices_partialInsertionSortOrdered_int at h
 refine c_seq (rg (sa (B false) rfl (w_end (q_then (c_seq (rg (sm (I Dx) rfl (st (v := (I (w64 (Dx + 1)))) (rv_add (a := Dx) (b := 1) rfl rfl) (sa (I (w64 (Dx + 1))) rfl (w_end (q_then ?_)))))))))))
 refine c_seq (c_seq (rg (sa (I 0) rfl (w_end (q_then ?_)))))
 obtain ⟨o1, hj, h'⟩ := bind_some h
 clear h
 refine c_cut (fun e a w => (∃ t, o1 = (.inl t) ∧ e = .normal ∧ ∃ (ρ : Nat → Value) (σ : St), a = fr 133 (updL ρ [(0, (Sl Hk t Hl))]) ∧ w = σ.w ∧ Hp S0 σ0 σ [Ch.own 0 0 (Sl Hk t Hl) t] ∧ t.length = Hj.length) ∨ (∃ t, o1 = (.inr t) ∧ e = .ret ∧ ∃ (ρ : Nat → Value) (σ : St), a = fr 133 (updL ρ [(0, (Sl Hk t.1 Hl)), (6, (B t.2))]) ∧ w = σ.w ∧ Hp S0 σ0 σ [Ch.own 0 0 (Sl Hk t.1 Hl) t.1] ∧ t.1.length = Hj.length)) ?_ ?_
 ·clear h'
  rename _ = some o1 => h
  refine c_blk (wp_loopM _ h (fun s2 a w => ∃ (ρ : Nat → Value) (σ : St), a = fr 133 (updL ρ [(0, (Sl Hk s2.1 Hl)), (1, (I Dx)), (2, (I Dy)), (7, (I s2.2.1)), (8, (I s2.2.2))]) ∧ w = σ.w ∧ Hp S0 σ0 σ [Ch.own 0 0 (Sl Hk s2.1 Hl) s2.1] ∧ s2.1.length = Hj.length) ⟨_, σ0, fr_join ⟨rfl, rfl, rfl, rfl, rfl, trivial⟩, rfl, H.sel' [0] rfl rfl, rfl⟩ ?_)
  clear h H
  rintro s2 a w o ⟨ρ, σ3, rfl, rfl, H, hn4⟩ h hres
  refine c_seq (c_seq (rg (sm (I s2.2.2) rfl (st (v := (B (decide (s2.2.2 < 5)))) (rv_lss (a := s2.2.2) (b := 5) rfl rfl) (w_end (q_then ?_))))))
  refine cd_cond (decide (s2.2.2 < 5)) rfl (fun hb5 => ?_) (fun hb5 => ?_)
  ·replace h := bif_t hb5 h
   refine c_skip (q_then (c_seq ?_))
   obtain ⟨o6, hj, h'⟩ := bind_some h
   clear h
   refine c_cut (fun e a w => (∃ t, o6 = (.inl t) ∧ e = .normal ∧ ∃ (ρ : Nat → Value) (σ : St), a = fr 133 (updL ρ [(0, (Sl Hk t.1 Hl)), (1, (I Dx)), (2, (I Dy)), (7, (I t.2)), (8, (I s2.2.2))]) ∧ w = σ.w ∧ Hp S0 σ0 σ [Ch.own 0 0 (Sl Hk t.1 Hl) t.1] ∧ t.1.length = s2.1.length) ∨ (∃ t, o6 = (.inr t) ∧ e = .ret ∧ ∃ (ρ : Nat → Value) (σ : St), a = fr 133 (updL ρ [(0, (Sl Hk t.1 Hl)), (6, (B t.2))]) ∧ w = σ.w ∧ Hp S0 σ0 σ [Ch.own 0 0 (Sl Hk t.1 Hl) t.1] ∧ t.1.length = s2.1.length)) ?_ ?_
   ·clear h'
    rename _ = some o6 => h
    refine c_blk (c_seq ?_)
    obtain ⟨o7, hj, h'⟩ := bind_some h
    clear h
    refine c_cut (fun e a w => e = .normal ∧ ∃ (ρ : Nat → Value) (σ : St), a = fr 133 (updL ρ [(0, (Sl Hk s2.1 Hl)), (1, (I Dx)), (2, (I Dy)), (7, (I o7)), (8, (I s2.2.2))]) ∧ w = σ.w ∧ Hp S0 σ0 σ [Ch.own 0 0 (Sl Hk s2.1 Hl) s2.1]) ?_ ?_
    ·clear h'
     rename _ = some o7 => h
     refine c_blk (wp_loopM _ h (fun s8 a w => ∃ (ρ : Nat → Value) (σ : St), a = fr 133 (updL ρ [(0, (Sl Hk s2.1 Hl)), (1, (I Dx)), (2, (I Dy)), (7, (I s8)), (8, (I s2.2.2))]) ∧ w = σ.w ∧ Hp S0 σ0 σ [Ch.own 0 0 (Sl Hk s2.1 Hl) s2.1]) ⟨_, σ3, fr_join ⟨rfl, rfl, rfl, rfl, rfl, trivial⟩, rfl, H.sel' [0] rfl rfl⟩ ?_)
     clear h H
     rintro s8 a w o ⟨ρ, σ9, rfl, rfl, H⟩ h hres
     refine c_seq (c_seq ?_)
     obtain ⟨o10, hj, h'⟩ := bind_some h
     clear h
     refine c_cut (fun e a w => e = .normal ∧ ∃ (ρ : Nat → Value) (σ : St), a = fr 133 (updL ρ [(0, (Sl Hk s2.1 Hl)), (1, (I Dx)), (2, (I Dy)), (7, (I s8)), (8, (I s2.2.2)), (32, (B o10))]) ∧ w = σ.w ∧ Hp S0 σ0 σ [Ch.own 0 0 (Sl Hk s2.1 Hl) s2.1]) ?_ ?_
     ·clear h'
      rename _ = some o10 => h
      refine rgP (σ := σ9) 13 (by kernel_rfl) (by kernel_rfl) (by kernel_rfl) ?_
      refine sq (v := (I s8)) (rv_move rfl) (sq (v := (I Dy)) (rv_move rfl) (sq (v := (B (decide (s8 < Dy)))) (rv_lss (a := s8) (b := Dy) rfl rfl) (sq (v := (B (decide (s8 < Dy)))) (rv_move rfl) ?_)))
      rcases Bool.eq_false_or_eq_true (decide (s8 < Dy)) with hb11 | hb11
      ·replace h := bif_t hb11 h
       refine sq_g (v := (Sl Hk s2.1 Hl)) (congrArg some hb11) (rv_move rfl) (sq_g (v := (I s8)) (congrArg some hb11) (rv_move rfl) ?_)
       revert h; refine br fun x12 hx13 h => ?_
       obtain ⟨b15, o16, hi14, -⟩ := (H.own 0 rfl).ix hx13
       refine sq_g (v := (pt b15 o16)) (congrArg some hb11) (rv_ix Tryz.underlying27 ti3 rfl rfl hi14) ?_
       have hc17 := ((H.own 0 rfl).at hx13 hi14).int
       refine sq_g (v := (I x12)) (congrArg some hb11) (rv_load1 Tryz.underlying3 rfl rfl hc17) (sq_g (v := (Sl Hk s2.1 Hl)) (congrArg some hb11) (rv_move rfl) (sq_g (v := (I s8)) (congrArg some hb11) (rv_move rfl) (sq_g (v := (I (w64 (s8 - 1)))) (congrArg some hb11) (rv_sub (a := s8) (b := 1) rfl rfl) ?_)))
       revert h; refine br fun x18 hx19 h => ?_
       obtain ⟨b21, o22, hi20, -⟩ := (H.own 0 rfl).ix hx19
       refine sq_g (v := (pt b21 o22)) (congrArg some hb11) (rv_ix Tryz.underlying27 ti3 rfl rfl hi20) ?_
       have hc23 := ((H.own 0 rfl).at hx19 hi20).int
       refine sq_g (v := (I x18)) (congrArg some hb11) (rv_load1 Tryz.underlying3 rfl rfl hc23) (sq_end ?_)
       intro σ24 hm25
       replace H := H.grow (hm25.mono fun _ h => h); clear hm25
       revert h; refine br fun r26 hx27 h => ?_
       have hc28 := c_cmp_Less_int hx27
       refine st_call (cx_call hc28 (ent_f hc28.fn rfl) hn0 (H.sel' [0] rfl rfl : Hp S0 σ0 _ ([] ++ _))) (wanted_yes rfl (by exact (congrArg some hb11))) ?_
       rintro _ σ29 ⟨_, ⟨rfl, rfl⟩, H, -⟩
       replace H : Hp _ _ _ [_] := H
       refine st_g (v := (B (!r26))) (congrArg some hb11) (rv_not rfl) (st (v := (B (!r26))) (rv_pick_t (congrArg B hb11) rfl) (w_end ?_))
       obtain rfl := sj h
       exact ⟨rfl, _, σ29, fr_join ⟨rfl, rfl, rfl, rfl, rfl, rfl, trivial⟩, rfl, H.sel' [0] rfl rfl⟩
      ·replace h := bif_f hb11 h
       refine sq_skip (congrArg some hb11) (sq_skip (congrArg some hb11) (sq_skip (congrArg some hb11) (sq_skip (congrArg some hb11) (sq_skip (congrArg some hb11) (sq_skip (congrArg some hb11) (sq_skip (congrArg some hb11) (sq_skip (congrArg some hb11) (sq_skip (congrArg some hb11) (sq_end ?_)))))))))
       intro σ30 hm31
       replace H := H.grow (hm31.mono fun _ h => h); clear hm31
       refine st_skip (congrArg some hb11) (st_skip (congrArg some hb11) (st (v := (B false)) (rv_pick_f (congrArg B hb11) rfl) (w_end ?_)))
       obtain rfl := sj h
       exact ⟨rfl, _, σ30, fr_join ⟨rfl, rfl, rfl, rfl, rfl, rfl, trivial⟩, rfl, H.sel' [0] rfl rfl⟩
     ·clear hj
      have h := h'
      clear h' H
      rintro e a w ⟨rfl, ρ, σ32, rfl, rfl, H⟩
      refine q_then ?_
      refine cd_cond o10 rfl (fun hb33 => ?_) (fun hb33 => ?_)
      ·replace h := bif_t hb33 h
       refine c_skip (q_then (c_blk (rg (sm (I s8) rfl (st (v := (I (w64 (s8 + 1)))) (rv_add (a := s8) (b := 1) rfl rfl) (sa (I (w64 (s8 + 1))) rfl (w_end (q_blk (q_then ?_)))))))))
       obtain rfl := sj h
       exact ⟨_, rfl, _, σ32, fr_join ⟨rfl, rfl, rfl, rfl, rfl, trivial⟩, rfl, H.sel' [0] rfl rfl⟩
      ·replace h := bif_f hb33 h
       refine c_exit (q_then_x (q_then_x (q_blk_hit ?_)))
       obtain rfl := sj h
       obtain rfl := hres _ rfl
       exact ⟨rfl, _, σ32, fr_join ⟨rfl, rfl, rfl, rfl, rfl, trivial⟩, rfl, H.sel' [0] rfl rfl⟩
    ·clear hj
     have h := h'
     clear h' H
     rintro e a w ⟨rfl, ρ, σ34, rfl, rfl, H⟩
     refine q_then (c_seq (c_seq (rg (sm (I o7) rfl (sm (I Dy) rfl (st (v := (B (o7 == Dy))) (rv_eql (a := o7) (b := Dy) rfl rfl) (w_end (q_then ?_))))))))
     refine cd_cond (o7 == Dy) rfl (fun hb35 => ?_) (fun hb35 => ?_)
     ·replace h := bif_t hb35 h
      refine c_seq (rg (sa (B true) rfl (w_end (q_then (c_ret (q_then_r (q_blk_r ?_)))))))
      obtain rfl := sj h
      exact .inr (⟨_, rfl, rfl, _, σ34, fr_join ⟨rfl, rfl, trivial⟩, rfl, H.sel' [0] rfl rfl, rfl⟩)
     ·replace h := bif_f hb35 h
      refine c_skip (q_then (c_seq (c_seq (rg (sm (I Dy) rfl (sm (I Dx) rfl (st (v := (I (w64 (Dy - Dx)))) (rv_sub (a := Dy) (b := Dx) rfl rfl) (st (v := (B (decide ((w64 (Dy - Dx)) < 50)))) (rv_lss (a := (w64 (Dy - Dx))) (b := 50) rfl rfl) (w_end (q_then ?_))))))))))
      refine cd_cond (decide ((w64 (Dy - Dx)) < 50)) rfl (fun hb36 => ?_) (fun hb36 => ?_)
      ·replace h := bif_t hb36 h
       refine c_seq (rg (sa (B false) rfl (w_end (q_then (c_ret (q_then_r (q_blk_r ?_)))))))
       obtain rfl := sj h
       exact .inr (⟨_, rfl, rfl, _, σ34, fr_join ⟨rfl, rfl, trivial⟩, rfl, H.sel' [0] rfl rfl, rfl⟩)
      ·replace h := bif_f hb36 h
       refine c_skip (q_then (c_seq ?_))
       revert h; refine br fun x37 hx38 h => ?_
       obtain ⟨b40, o41, hi39, -⟩ := (H.own 0 rfl).ix hx38
       have hc42 := ((H.own 0 rfl).at hx38 hi39).int
       revert h; refine br fun x43 hx44 h => ?_
       obtain ⟨b46, o47, hi45, -⟩ := (H.own 0 rfl).ix hx44
       have hc48 := ((H.own 0 rfl).at hx44 hi45).int
       revert h; refine br fun x49 hx50 h => ?_
       obtain ⟨b52, o53, hi51, -⟩ := (H.own 0 rfl).ix hx50
       have Hs := H
       refine rg2 (σ := σ34) (Nm := Unit) 16 [15] [[false], [true]] [[(0, 0)], [(0, 0)], [(0, 0), (1, 1)], [(0, 0), (1, 1)], [(0, 0), (1, 1)], [(0, 0)], [(0, 0)], [(0, 0)], [(0, 0)], [(0, 0)], [(0, 0)], [(0, 0)], [(0, 0)], [(0, 0)], [(0, 0)], [(0, 1)]] 1 [fun _ => fun σm => Hp S0 σ0 σm [Ch.own 0 0 (Sl Hk s2.1 Hl) s2.1] ∧ Md (cov []) σ34 σm, fun _ => fun σm => Hp S0 σ0 σm [Ch.own 0 0 (Sl Hk s2.1 Hl) (s2.1.set o7.toNat x37)] ∧ Md (fun i => (cov []) i ∨ (fun b => blk (Sl Hk s2.1 Hl) = some b) i) σ34 σm] [fun _ => (Sl Hk s2.1 Hl), fun _ => (I o7), fun _ => (Sl Hk s2.1 Hl), fun _ => (I o7), fun _ => (I (w64 (o7 - 1))), fun _ => (Sl Hk s2.1 Hl), fun _ => (I o7), fun _ => (I (w64 (o7 - 1))), fun _ => (pt b40 o41), fun _ => (I x37), fun _ => (Sl Hk s2.1 Hl), fun _ => (I o7), fun _ => (pt b46 o47), fun _ => (I x43), fun _ => (pt b52 o53), fun _ => undef] () (by kernel_rfl) (by kernel_rfl) ?_ ?_ ?_
       ·intro σm m0
        exact ⟨H.grow (m0.mono fun _ h => h.elim), m0⟩
       ·refine ac rfl (by
          intro k _nm ρ σm hJ hoff hdep
          have e0 := look_off (N := 133) (hoff 0 rfl) rfl
          exact dp_v (v := (Sl Hk s2.1 Hl)) wn (rv_move e0) rfl hJ) ?_
        refine ac rfl (by
          intro k _nm ρ σm hJ hoff hdep
          have e7 := look_off (N := 133) (hoff 7 rfl) rfl
          exact dp_v (v := (I o7)) wn (rv_move e7) rfl hJ) ?_
        refine ac rfl (by
          intro k _nm ρ σm hJ hoff hdep
          have e0 := look_off (N := 133) (hoff 0 rfl) rfl
          exact dp_v (v := (Sl Hk s2.1 Hl)) wn (rv_move e0) rfl hJ) ?_
        refine ac rfl (by
          intro k _nm ρ σm hJ hoff hdep
          have e7 := look_off (N := 133) (hoff 7 rfl) rfl
          exact dp_v (v := (I o7)) wn (rv_move e7) rfl hJ) ?_
        refine ac rfl (by
          intro k _nm ρ σm hJ hoff hdep
          have e45 := hdep 3 rfl rfl 45 rfl
          exact dp_v (v := (I (w64 (o7 - 1)))) wn (rv_sub (a := o7) (b := 1) e45 rfl) rfl hJ) ?_
        refine ac rfl (by
          intro k _nm ρ σm hJ hoff hdep
          have e0 := look_off (N := 133) (hoff 0 rfl) rfl
          exact dp_v (v := (Sl Hk s2.1 Hl)) wn (rv_move e0) rfl hJ) ?_
        refine ac rfl (by
          intro k _nm ρ σm hJ hoff hdep
          have e7 := look_off (N := 133) (hoff 7 rfl) rfl
          exact dp_v (v := (I o7)) wn (rv_move e7) rfl hJ) ?_
        refine ac rfl (by
          intro k _nm ρ σm hJ hoff hdep
          have e48 := hdep 6 rfl rfl 48 rfl
          exact dp_v (v := (I (w64 (o7 - 1)))) wn (rv_sub (a := o7) (b := 1) e48 rfl) rfl hJ) ?_
        refine ac rfl (by
          intro k _nm ρ σm hJ hoff hdep
          have e47 := hdep 5 rfl rfl 47 rfl
          have e49 := hdep 7 rfl rfl 49 rfl
          exact dp_v (v := (pt b40 o41)) wn (rv_ix Tryz.underlying27 ti3 e47 e49 hi39) rfl hJ) ?_
        refine all_cons (by
          refine ⟨?_, ?_⟩
          ·intro _nm ρ σm hJ hoff hdep
           have e50 := hdep 8 rfl rfl 50 rfl
           obtain ⟨H, m⟩ := id hJ
           have hc42 := ((H.own 0 rfl).at hx38 hi39).int
           exact dp_v (v := (I x37)) wn (rv_load1 Tryz.underlying3 rfl e50 hc42) rfl hJ
          trivial) ?_
        refine ac rfl (by
          intro k _nm ρ σm hJ hoff hdep
          have e0 := look_off (N := 133) (hoff 0 rfl) rfl
          exact dp_v (v := (Sl Hk s2.1 Hl)) wn (rv_move e0) rfl hJ) ?_
        refine ac rfl (by
          intro k _nm ρ σm hJ hoff hdep
          have e7 := look_off (N := 133) (hoff 7 rfl) rfl
          exact dp_v (v := (I o7)) wn (rv_move e7) rfl hJ) ?_
        refine ac rfl (by
          intro k _nm ρ σm hJ hoff hdep
          have e52 := hdep 10 rfl rfl 52 rfl
          have e53 := hdep 11 rfl rfl 53 rfl
          exact dp_v (v := (pt b46 o47)) wn (rv_ix Tryz.underlying27 ti3 e52 e53 hi45) rfl hJ) ?_
        refine all_cons (by
          refine ⟨?_, ?_⟩
          ·intro _nm ρ σm hJ hoff hdep
           have e54 := hdep 12 rfl rfl 54 rfl
           obtain ⟨H, m⟩ := id hJ
           have hc48 := ((H.own 0 rfl).at hx44 hi45).int
           exact dp_v (v := (I x43)) wn (rv_load1 Tryz.underlying3 rfl e54 hc48) rfl hJ
          trivial) ?_
        refine ac rfl (by
          intro k _nm ρ σm hJ hoff hdep
          have e42 := hdep 0 rfl rfl 42 rfl
          have e43 := hdep 1 rfl rfl 43 rfl
          exact dp_v (v := (pt b52 o53)) wn (rv_ix Tryz.underlying27 ti3 e42 e43 hi51) rfl hJ) ?_
        refine all_cons (by
          refine ⟨?_, ?_⟩
          ·intro _nm ρ σm hJ hoff hdep
           have e56 := hdep 14 rfl rfl 56 rfl
           have e51 := hdep 9 rfl rfl 51 rfl
           obtain ⟨H, m⟩ := id hJ
           refine dp_exS wn rfl (ex_store_own (e' := x37) (vs := [(I x37)]) (k := 0) H (i := 0) rfl ti3 hx50 hi51 e56 rfl e51 rfl rfl (Nat.le_of_ble_eq_true rfl) (by simp [plain]) (by rintro _ rfl; exact rfl)) ?_
           rintro σq ⟨H2, m2⟩
           exact ⟨_, (), rfl, ⟨H2.sel' [0] rfl rfl, m.comp m2⟩, stab [0, 1, 2, 3, 4, 5, 6, 7, 8, 9, 10, 11, 12, 13, 14] (by kernel_rfl) ⟨rfl, rfl, rfl, rfl, rfl, rfl, rfl, rfl, rfl, rfl, rfl, rfl, rfl, rfl, rfl, trivial⟩⟩
          trivial) ?_
        exact all_nil
       ·intro _nm ρ σ54 hJ hoff hrel
        have e0 := look_off (N := 133) (hoff 0 rfl) rfl
        have e1 := look_off (N := 133) (hoff 1 rfl) rfl
        have e2 := look_off (N := 133) (hoff 2 rfl) rfl
        have e7 := look_off (N := 133) (hoff 7 rfl) rfl
        have e8 := look_off (N := 133) (hoff 8 rfl) rfl
        have e44 := hrel 2 rfl 44 rfl
        have e46 := hrel 4 rfl 46 rfl
        have e55 := hrel 13 rfl 55 rfl
        obtain ⟨H, -⟩ := (show Hp S0 σ0 σ54 [Ch.own 0 0 (Sl Hk s2.1 Hl) (s2.1.set o7.toNat x37)] ∧ Md (fun i => (cov []) i ∨ (fun b => blk (Sl Hk s2.1 Hl) = some b) i) σ34 σ54 from hJ)
        clear hJ Hs
        rw [fr_lookL (L := [(0, (Sl Hk s2.1 Hl)), (1, (I Dx)), (2, (I Dy)), (7, (I o7)), (8, (I s2.2.2)), (44, (Sl Hk s2.1 Hl)), (46, (I (w64 (o7 - 1)))), (55, (I x43))]) ⟨e0, e1, e2, e7, e8, e44, e46, e55, trivial⟩]
        clear hoff hrel e0 e1 e2 e7 e8 e44 e46 e55
        have hsl : (Sl Hk s2.1 Hl) = (Sl Hk (s2.1.set o7.toNat x37) Hl) := sl_len (by simp)
        rw [hsl]; rw [hsl] at H; clear hsl
        revert h; refine br fun x55 hx56 h => ?_
        obtain ⟨b58, o59, hi57, -⟩ := (H.own 0 rfl).ix hx56
        refine st (v := (pt b58 o59)) (rv_ix Tryz.underlying27 ti3 rfl rfl hi57) ?_
        refine st_exS (ex_store_own (e' := x43) (vs := [(I x43)]) (k := 0) H (i := 0) rfl ti3 hx56 hi57 rfl rfl rfl rfl rfl (Nat.le_of_ble_eq_true rfl) (by simp [plain]) (by rintro _ rfl; exact rfl)) wn ?_
        rintro σ60 ⟨H, -⟩
        have hsl : (Sl Hk (s2.1.set o7.toNat x37) Hl) = (Sl Hk ((s2.1.set o7.toNat x37).set (w64 (o7 - 1)).toNat x43) Hl) := sl_len List.length_set.symm
        rw [hsl]; rw [hsl] at H; clear hsl
        refine w_end (q_then (c_seq (c_seq (rg (sm (I o7) rfl (sm (I Dx) rfl (st (v := (I (w64 (o7 - Dx)))) (rv_sub (a := o7) (b := Dx) rfl rfl) (st (v := (B (decide (2 ≤ (w64 (o7 - Dx)))))) (rv_geq (a := (w64 (o7 - Dx))) (b := 2) rfl rfl) (w_end (q_then ?_))))))))))
        obtain ⟨o61, hj, h'⟩ := bind_some h
        clear h
        refine c_cut (fun e a w => e = .normal ∧ ∃ (ρ : Nat → Value) (σ : St), a = fr 133 (updL ρ [(0, (Sl Hk o61 Hl)), (1, (I Dx)), (2, (I Dy)), (7, (I o7)), (8, (I s2.2.2))]) ∧ w = σ.w ∧ Hp S0 σ0 σ [Ch.own 0 0 (Sl Hk o61 Hl) o61] ∧ o61.length = ((s2.1.set o7.toNat x37).set (w64 (o7 - 1)).toNat x43).length) ?_ ?_
        ·clear h'
         rename _ = some o61 => h
         refine cd_cond (decide (2 ≤ (w64 (o7 - Dx)))) rfl (fun hb62 => ?_) (fun hb62 => ?_)
         ·replace h := bif_t hb62 h
          refine c_seq (rg (sm (I o7) rfl (st (v := (I (w64 (o7 - 1)))) (rv_sub (a := o7) (b := 1) rfl rfl) (sa (I (w64 (o7 - 1))) rfl (w_end (q_then ?_))))))
          obtain ⟨o63, hj, h'⟩ := bind_some h
          clear h
          refine c_cut (fun e a w => e = .normal ∧ ∃ (ρ : Nat → Value) (σ : St), a = fr 133 (updL ρ [(0, (Sl Hk o63 Hl)), (1, (I Dx)), (2, (I Dy)), (7, (I o7)), (8, (I s2.2.2))]) ∧ w = σ.w ∧ Hp S0 σ0 σ [Ch.own 0 0 (Sl Hk o63 Hl) o63] ∧ o63.length = ((s2.1.set o7.toNat x37).set (w64 (o7 - 1)).toNat x43).length) ?_ ?_
          ·clear h'
           rename _ = some o63 => h
           refine c_blk (wp_loopM _ h (fun s64 a w => ∃ (ρ : Nat → Value) (σ : St), a = fr 133 (updL ρ [(0, (Sl Hk s64.1 Hl)), (1, (I Dx)), (2, (I Dy)), (7, (I o7)), (8, (I s2.2.2)), (9, (I s64.2))]) ∧ w = σ.w ∧ Hp S0 σ0 σ [Ch.own 0 0 (Sl Hk s64.1 Hl) s64.1] ∧ s64.1.length = ((s2.1.set o7.toNat x37).set (w64 (o7 - 1)).toNat x43).length) ⟨_, σ60, fr_join ⟨rfl, rfl, rfl, rfl, rfl, rfl, trivial⟩, rfl, H.sel' [0] rfl rfl, rfl⟩ ?_)
           clear h H
           rintro s64 a w o ⟨ρ, σ65, rfl, rfl, H, hn66⟩ h hres
           refine c_seq (c_seq (rg (sm (I s64.2) rfl (st (v := (B (decide (1 ≤ s64.2)))) (rv_geq (a := s64.2) (b := 1) rfl rfl) (w_end (q_then ?_))))))
           refine cd_cond (decide (1 ≤ s64.2)) rfl (fun hb67 => ?_) (fun hb67 => ?_)
           ·replace h := bif_t hb67 h
            refine c_skip (q_then (c_seq (c_blk (c_seq (c_seq ?_)))))
            refine rgP (σ := σ65) 9 (by kernel_rfl) (by kernel_rfl) (by kernel_rfl) ?_
            refine sq (v := (Sl Hk s64.1 Hl)) (rv_move rfl) (sq (v := (I s64.2)) (rv_move rfl) ?_)
            revert h; refine br fun x68 hx69 h => ?_
            obtain ⟨b71, o72, hi70, -⟩ := (H.own 0 rfl).ix hx69
            refine sq (v := (pt b71 o72)) (rv_ix Tryz.underlying27 ti3 rfl rfl hi70) ?_
            have hc73 := ((H.own 0 rfl).at hx69 hi70).int
            refine sq (v := (I x68)) (rv_load1 Tryz.underlying3 rfl rfl hc73) (sq (v := (Sl Hk s64.1 Hl)) (rv_move rfl) (sq (v := (I s64.2)) (rv_move rfl) (sq (v := (I (w64 (s64.2 - 1)))) (rv_sub (a := s64.2) (b := 1) rfl rfl) ?_)))
            revert h; refine br fun x74 hx75 h => ?_
            obtain ⟨b77, o78, hi76, -⟩ := (H.own 0 rfl).ix hx75
            refine sq (v := (pt b77 o78)) (rv_ix Tryz.underlying27 ti3 rfl rfl hi76) ?_
            have hc79 := ((H.own 0 rfl).at hx75 hi76).int
            refine sq (v := (I x74)) (rv_load1 Tryz.underlying3 rfl rfl hc79) (sq_end ?_)
            intro σ80 hm81
            replace H := H.grow (hm81.mono fun _ h => h); clear hm81
            revert h; refine br fun r82 hx83 h => ?_
            have hc84 := c_cmp_Less_int hx83
            refine st_call (cx_call hc84 (ent_f hc84.fn rfl) hn0 (H.sel' [0] rfl rfl : Hp S0 σ0 _ ([] ++ _))) wn ?_
            rintro _ σ85 ⟨_, ⟨rfl, rfl⟩, H, -⟩
            replace H : Hp _ _ _ [_] := H
            refine st (v := (B (!r82))) (rv_not rfl) (w_end (q_then ?_))
            refine cd_cond (!r82) rfl (fun hb86 => ?_) (fun hb86 => ?_)
            ·replace h := bif_t hb86 h
             refine c_exit (q_then_x ?_)
             refine q_blk_x (by decide) ?_
             refine q_then_x (q_then_x (q_blk_hit ?_))
             obtain rfl := sj h
             obtain rfl := hres _ rfl
             exact ⟨rfl, _, σ85, fr_join ⟨rfl, rfl, rfl, rfl, rfl, trivial⟩, rfl, H.sel' [0] rfl rfl, ((hn66.trans (List.length_set.trans (List.length_set.trans hn4))).trans (List.length_set.trans (List.length_set.trans hn4)).symm)⟩
            ·replace h := bif_f hb86 h
             refine c_skip (q_then ?_)
             revert h; refine br fun x87 hx88 h => ?_
             obtain ⟨b90, o91, hi89, -⟩ := (H.own 0 rfl).ix hx88
             have hc92 := ((H.own 0 rfl).at hx88 hi89).int
             revert h; refine br fun x93 hx94 h => ?_
             obtain ⟨b96, o97, hi95, -⟩ := (H.own 0 rfl).ix hx94
             have hc98 := ((H.own 0 rfl).at hx94 hi95).int
             revert h; refine br fun x99 hx100 h => ?_
             obtain ⟨b102, o103, hi101, -⟩ := (H.own 0 rfl).ix hx100
             have Hs := H
             refine rg2 (σ := σ85) (Nm := Unit) 16 [15] [[false], [true]] [[(0, 0)], [(0, 0)], [(0, 0), (1, 1)], [(0, 0), (1, 1)], [(0, 0), (1, 1)], [(0, 0)], [(0, 0)], [(0, 0)], [(0, 0)], [(0, 0)], [(0, 0)], [(0, 0)], [(0, 0)], [(0, 0)], [(0, 0)], [(0, 1)]] 1 [fun _ => fun σm => Hp S0 σ0 σm [Ch.own 0 0 (Sl Hk s64.1 Hl) s64.1] ∧ Md (cov []) σ85 σm, fun _ => fun σm => Hp S0 σ0 σm [Ch.own 0 0 (Sl Hk s64.1 Hl) (s64.1.set s64.2.toNat x87)] ∧ Md (fun i => (cov []) i ∨ (fun b => blk (Sl Hk s64.1 Hl) = some b) i) σ85 σm] [fun _ => (Sl Hk s64.1 Hl), fun _ => (I s64.2), fun _ => (Sl Hk s64.1 Hl), fun _ => (I s64.2), fun _ => (I (w64 (s64.2 - 1))), fun _ => (Sl Hk s64.1 Hl), fun _ => (I s64.2), fun _ => (I (w64 (s64.2 - 1))), fun _ => (pt b90 o91), fun _ => (I x87), fun _ => (Sl Hk s64.1 Hl), fun _ => (I s64.2), fun _ => (pt b96 o97), fun _ => (I x93), fun _ => (pt b102 o103), fun _ => undef] () (by kernel_rfl) (by kernel_rfl) ?_ ?_ ?_
             ·intro σm m0
              exact ⟨H.grow (m0.mono fun _ h => h.elim), m0⟩
             ·refine ac rfl (by
                intro k _nm ρ σm hJ hoff hdep
                have e0 := look_off (N := 133) (hoff 0 rfl) rfl
                exact dp_v (v := (Sl Hk s64.1 Hl)) wn (rv_move e0) rfl hJ) ?_
              refine ac rfl (by
                intro k _nm ρ σm hJ hoff hdep
                have e9 := look_off (N := 133) (hoff 9 rfl) rfl
                exact dp_v (v := (I s64.2)) wn (rv_move e9) rfl hJ) ?_
              refine ac rfl (by
                intro k _nm ρ σm hJ hoff hdep
                have e0 := look_off (N := 133) (hoff 0 rfl) rfl
                exact dp_v (v := (Sl Hk s64.1 Hl)) wn (rv_move e0) rfl hJ) ?_
              refine ac rfl (by
                intro k _nm ρ σm hJ hoff hdep
                have e9 := look_off (N := 133) (hoff 9 rfl) rfl
                exact dp_v (v := (I s64.2)) wn (rv_move e9) rfl hJ) ?_
              refine ac rfl (by
                intro k _nm ρ σm hJ hoff hdep
                have e82 := hdep 3 rfl rfl 82 rfl
                exact dp_v (v := (I (w64 (s64.2 - 1)))) wn (rv_sub (a := s64.2) (b := 1) e82 rfl) rfl hJ) ?_
              refine ac rfl (by
                intro k _nm ρ σm hJ hoff hdep
                have e0 := look_off (N := 133) (hoff 0 rfl) rfl
                exact dp_v (v := (Sl Hk s64.1 Hl)) wn (rv_move e0) rfl hJ) ?_
              refine ac rfl (by
                intro k _nm ρ σm hJ hoff hdep
                have e9 := look_off (N := 133) (hoff 9 rfl) rfl
                exact dp_v (v := (I s64.2)) wn (rv_move e9) rfl hJ) ?_
              refine ac rfl (by
                intro k _nm ρ σm hJ hoff hdep
                have e85 := hdep 6 rfl rfl 85 rfl
                exact dp_v (v := (I (w64 (s64.2 - 1)))) wn (rv_sub (a := s64.2) (b := 1) e85 rfl) rfl hJ) ?_
              refine ac rfl (by
                intro k _nm ρ σm hJ hoff hdep
                have e84 := hdep 5 rfl rfl 84 rfl
                have e86 := hdep 7 rfl rfl 86 rfl
                exact dp_v (v := (pt b90 o91)) wn (rv_ix Tryz.underlying27 ti3 e84 e86 hi89) rfl hJ) ?_
              refine all_cons (by
                refine ⟨?_, ?_⟩
                ·intro _nm ρ σm hJ hoff hdep
                 have e87 := hdep 8 rfl rfl 87 rfl
                 obtain ⟨H, m⟩ := id hJ
                 have hc92 := ((H.own 0 rfl).at hx88 hi89).int
                 exact dp_v (v := (I x87)) wn (rv_load1 Tryz.underlying3 rfl e87 hc92) rfl hJ
                trivial) ?_
              refine ac rfl (by
                intro k _nm ρ σm hJ hoff hdep
                have e0 := look_off (N := 133) (hoff 0 rfl) rfl
                exact dp_v (v := (Sl Hk s64.1 Hl)) wn (rv_move e0) rfl hJ) ?_
              refine ac rfl (by
                intro k _nm ρ σm hJ hoff hdep
                have e9 := look_off (N := 133) (hoff 9 rfl) rfl
                exact dp_v (v := (I s64.2)) wn (rv_move e9) rfl hJ) ?_
              refine ac rfl (by
                intro k _nm ρ σm hJ hoff hdep
                have e89 := hdep 10 rfl rfl 89 rfl
                have e90 := hdep 11 rfl rfl 90 rfl
                exact dp_v (v := (pt b96 o97)) wn (rv_ix Tryz.underlying27 ti3 e89 e90 hi95) rfl hJ) ?_
              refine all_cons (by
                refine ⟨?_, ?_⟩
                ·intro _nm ρ σm hJ hoff hdep
                 have e91 := hdep 12 rfl rfl 91 rfl
                 obtain ⟨H, m⟩ := id hJ
                 have hc98 := ((H.own 0 rfl).at hx94 hi95).int
                 exact dp_v (v := (I x93)) wn (rv_load1 Tryz.underlying3 rfl e91 hc98) rfl hJ
                trivial) ?_
              refine ac rfl (by
                intro k _nm ρ σm hJ hoff hdep
                have e79 := hdep 0 rfl rfl 79 rfl
                have e80 := hdep 1 rfl rfl 80 rfl
                exact dp_v (v := (pt b102 o103)) wn (rv_ix Tryz.underlying27 ti3 e79 e80 hi101) rfl hJ) ?_
              refine all_cons (by
                refine ⟨?_, ?_⟩
                ·intro _nm ρ σm hJ hoff hdep
                 have e93 := hdep 14 rfl rfl 93 rfl
                 have e88 := hdep 9 rfl rfl 88 rfl
                 obtain ⟨H, m⟩ := id hJ
                 refine dp_exS wn rfl (ex_store_own (e' := x87) (vs := [(I x87)]) (k := 0) H (i := 0) rfl ti3 hx100 hi101 e93 rfl e88 rfl rfl (Nat.le_of_ble_eq_true rfl) (by simp [plain]) (by rintro _ rfl; exact rfl)) ?_
                 rintro σq ⟨H2, m2⟩
                 exact ⟨_, (), rfl, ⟨H2.sel' [0] rfl rfl, m.comp m2⟩, stab [0, 1, 2, 3, 4, 5, 6, 7, 8, 9, 10, 11, 12, 13, 14] (by kernel_rfl) ⟨rfl, rfl, rfl, rfl, rfl, rfl, rfl, rfl, rfl, rfl, rfl, rfl, rfl, rfl, rfl, trivial⟩⟩
                trivial) ?_
              exact all_nil
             ·intro _nm ρ σ104 hJ hoff hrel
              have e0 := look_off (N := 133) (hoff 0 rfl) rfl
              have e1 := look_off (N := 133) (hoff 1 rfl) rfl
              have e2 := look_off (N := 133) (hoff 2 rfl) rfl
              have e7 := look_off (N := 133) (hoff 7 rfl) rfl
              have e8 := look_off (N := 133) (hoff 8 rfl) rfl
              have e9 := look_off (N := 133) (hoff 9 rfl) rfl
              have e81 := hrel 2 rfl 81 rfl
              have e83 := hrel 4 rfl 83 rfl
              have e92 := hrel 13 rfl 92 rfl
              obtain ⟨H, -⟩ := (show Hp S0 σ0 σ104 [Ch.own 0 0 (Sl Hk s64.1 Hl) (s64.1.set s64.2.toNat x87)] ∧ Md (fun i => (cov []) i ∨ (fun b => blk (Sl Hk s64.1 Hl) = some b) i) σ85 σ104 from hJ)
              clear hJ Hs
              rw [fr_lookL (L := [(0, (Sl Hk s64.1 Hl)), (1, (I Dx)), (2, (I Dy)), (7, (I o7)), (8, (I s2.2.2)), (9, (I s64.2)), (81, (Sl Hk s64.1 Hl)), (83, (I (w64 (s64.2 - 1)))), (92, (I x93))]) ⟨e0, e1, e2, e7, e8, e9, e81, e83, e92, trivial⟩]
              clear hoff hrel e0 e1 e2 e7 e8 e9 e81 e83 e92
              have hsl : (Sl Hk s64.1 Hl) = (Sl Hk (s64.1.set s64.2.toNat x87) Hl) := sl_len (by simp)
              rw [hsl]; rw [hsl] at H; clear hsl
              revert h; refine br fun x105 hx106 h => ?_
              obtain ⟨b108, o109, hi107, -⟩ := (H.own 0 rfl).ix hx106
              refine st (v := (pt b108 o109)) (rv_ix Tryz.underlying27 ti3 rfl rfl hi107) ?_
              refine st_exS (ex_store_own (e' := x93) (vs := [(I x93)]) (k := 0) H (i := 0) rfl ti3 hx106 hi107 rfl rfl rfl rfl rfl (Nat.le_of_ble_eq_true rfl) (by simp [plain]) (by rintro _ rfl; exact rfl)) wn ?_
              rintro σ110 ⟨H, -⟩
              have hsl : (Sl Hk (s64.1.set s64.2.toNat x87) Hl) = (Sl Hk ((s64.1.set s64.2.toNat x87).set (w64 (s64.2 - 1)).toNat x93) Hl) := sl_len List.length_set.symm
              rw [hsl]; rw [hsl] at H; clear hsl
              refine w_end (q_blk (q_then (rg (sm (I s64.2) rfl (st (v := (I (w64 (s64.2 - 1)))) (rv_sub (a := s64.2) (b := 1) rfl rfl) (sa (I (w64 (s64.2 - 1))) rfl (w_end (q_then ?_))))))))
              obtain rfl := sj h
              exact ⟨_, rfl, _, σ110, fr_join ⟨rfl, rfl, rfl, rfl, rfl, rfl, trivial⟩, rfl, H.sel' [0] rfl rfl, ((List.length_set.trans (List.length_set.trans (hn66.trans (List.length_set.trans (List.length_set.trans hn4))))).trans (List.length_set.trans (List.length_set.trans hn4)).symm)⟩
           ·replace h := bif_f hb67 h
            refine c_exit (q_then_x (q_then_x (q_blk_hit ?_)))
            obtain rfl := sj h
            obtain rfl := hres _ rfl
            exact ⟨rfl, _, σ65, fr_join ⟨rfl, rfl, rfl, rfl, rfl, trivial⟩, rfl, H.sel' [0] rfl rfl, ((hn66.trans (List.length_set.trans (List.length_set.trans hn4))).trans (List.length_set.trans (List.length_set.trans hn4)).symm)⟩
          ·clear hj
           have h := h'
           clear h' H
           rintro e a w ⟨rfl, ρ, σ111, rfl, rfl, H, hn112⟩
           obtain rfl := sj h
           exact ⟨rfl, _, σ111, fr_join ⟨rfl, rfl, rfl, rfl, rfl, trivial⟩, rfl, H.sel' [0] rfl rfl, ((hn112.trans (List.length_set.trans (List.length_set.trans hn4))).trans (List.length_set.trans (List.length_set.trans hn4)).symm)⟩
         ·replace h := bif_f hb62 h
          refine c_skip ?_
          obtain rfl := sj h
          exact ⟨rfl, _, σ60, fr_join ⟨rfl, rfl, rfl, rfl, rfl, trivial⟩, rfl, H.sel' [0] rfl rfl, rfl⟩
        ·clear hj
         have h := h'
         clear h' H
         rintro e a w ⟨rfl, ρ, σ113, rfl, rfl, H, hn114⟩
         refine q_then (c_seq (rg (sm (I Dy) rfl (sm (I o7) rfl (st (v := (I (w64 (Dy - o7)))) (rv_sub (a := Dy) (b := o7) rfl rfl) (st (v := (B (decide (2 ≤ (w64 (Dy - o7)))))) (rv_geq (a := (w64 (Dy - o7))) (b := 2) rfl rfl) (w_end (q_then ?_))))))))
         refine cd_cond (decide (2 ≤ (w64 (Dy - o7)))) rfl (fun hb115 => ?_) (fun hb115 => ?_)
         ·replace h := bif_t hb115 h
          refine c_seq (rg (sm (I o7) rfl (st (v := (I (w64 (o7 + 1)))) (rv_add (a := o7) (b := 1) rfl rfl) (sa (I (w64 (o7 + 1))) rfl (w_end (q_then ?_))))))
          obtain ⟨o116, hj, h'⟩ := bind_some h
          clear h
          refine c_cut (fun e a w => e = .normal ∧ ∃ (ρ : Nat → Value) (σ : St), a = fr 133 (updL ρ [(0, (Sl Hk o116 Hl)), (1, (I Dx)), (2, (I Dy)), (7, (I o7)), (8, (I s2.2.2))]) ∧ w = σ.w ∧ Hp S0 σ0 σ [Ch.own 0 0 (Sl Hk o116 Hl) o116] ∧ o116.length = o61.length) ?_ ?_
          ·clear h'
           rename _ = some o116 => h
           refine c_blk (wp_loopM _ h (fun s117 a w => ∃ (ρ : Nat → Value) (σ : St), a = fr 133 (updL ρ [(0, (Sl Hk s117.1 Hl)), (1, (I Dx)), (2, (I Dy)), (7, (I o7)), (8, (I s2.2.2)), (10, (I s117.2))]) ∧ w = σ.w ∧ Hp S0 σ0 σ [Ch.own 0 0 (Sl Hk s117.1 Hl) s117.1] ∧ s117.1.length = o61.length) ⟨_, σ113, fr_join ⟨rfl, rfl, rfl, rfl, rfl, rfl, trivial⟩, rfl, H.sel' [0] rfl rfl, rfl⟩ ?_)
           clear h H
           rintro s117 a w o ⟨ρ, σ118, rfl, rfl, H, hn119⟩ h hres
           refine c_seq (c_seq (rg (sm (I s117.2) rfl (sm (I Dy) rfl (st (v := (B (decide (s117.2 < Dy)))) (rv_lss (a := s117.2) (b := Dy) rfl rfl) (w_end (q_then ?_)))))))
           refine cd_cond (decide (s117.2 < Dy)) rfl (fun hb120 => ?_) (fun hb120 => ?_)
           ·replace h := bif_t hb120 h
            refine c_skip (q_then (c_seq (c_blk (c_seq (c_seq ?_)))))
            refine rgP (σ := σ118) 9 (by kernel_rfl) (by kernel_rfl) (by kernel_rfl) ?_
            refine sq (v := (Sl Hk s117.1 Hl)) (rv_move rfl) (sq (v := (I s117.2)) (rv_move rfl) ?_)
            revert h; refine br fun x121 hx122 h => ?_
            obtain ⟨b124, o125, hi123, -⟩ := (H.own 0 rfl).ix hx122
            refine sq (v := (pt b124 o125)) (rv_ix Tryz.underlying27 ti3 rfl rfl hi123) ?_
            have hc126 := ((H.own 0 rfl).at hx122 hi123).int
            refine sq (v := (I x121)) (rv_load1 Tryz.underlying3 rfl rfl hc126) (sq (v := (Sl Hk s117.1 Hl)) (rv_move rfl) (sq (v := (I s117.2)) (rv_move rfl) (sq (v := (I (w64 (s117.2 - 1)))) (rv_sub (a := s117.2) (b := 1) rfl rfl) ?_)))
            revert h; refine br fun x127 hx128 h => ?_
            obtain ⟨b130, o131, hi129, -⟩ := (H.own 0 rfl).ix hx128
            refine sq (v := (pt b130 o131)) (rv_ix Tryz.underlying27 ti3 rfl rfl hi129) ?_
            have hc132 := ((H.own 0 rfl).at hx128 hi129).int
            refine sq (v := (I x127)) (rv_load1 Tryz.underlying3 rfl rfl hc132) (sq_end ?_)
            intro σ133 hm134
            replace H := H.grow (hm134.mono fun _ h => h); clear hm134
            revert h; refine br fun r135 hx136 h => ?_
            have hc137 := c_cmp_Less_int hx136
            refine st_call (cx_call hc137 (ent_f hc137.fn rfl) hn0 (H.sel' [0] rfl rfl : Hp S0 σ0 _ ([] ++ _))) wn ?_
            rintro _ σ138 ⟨_, ⟨rfl, rfl⟩, H, -⟩
            replace H : Hp _ _ _ [_] := H
            refine st (v := (B (!r135))) (rv_not rfl) (w_end (q_then ?_))
            refine cd_cond (!r135) rfl (fun hb139 => ?_) (fun hb139 => ?_)
            ·replace h := bif_t hb139 h
             refine c_exit (q_then_x ?_)
             refine q_blk_x (by decide) ?_
             refine q_then_x (q_then_x (q_blk_hit ?_))
             obtain rfl := sj h
             obtain rfl := hres _ rfl
             exact ⟨rfl, _, σ138, fr_join ⟨rfl, rfl, rfl, rfl, rfl, trivial⟩, rfl, H.sel' [0] rfl rfl, ((hn119.trans (hn114.trans (List.length_set.trans (List.length_set.trans hn4)))).trans (hn114.trans (List.length_set.trans (List.length_set.trans hn4))).symm)⟩
            ·replace h := bif_f hb139 h
             refine c_skip (q_then ?_)
             revert h; refine br fun x140 hx141 h => ?_
             obtain ⟨b143, o144, hi142, -⟩ := (H.own 0 rfl).ix hx141
             have hc145 := ((H.own 0 rfl).at hx141 hi142).int
             revert h; refine br fun x146 hx147 h => ?_
             obtain ⟨b149, o150, hi148, -⟩ := (H.own 0 rfl).ix hx147
             have hc151 := ((H.own 0 rfl).at hx147 hi148).int
             revert h; refine br fun x152 hx153 h => ?_
             obtain ⟨b155, o156, hi154, -⟩ := (H.own 0 rfl).ix hx153
             have Hs := H
             refine rg2 (σ := σ138) (Nm := Unit) 16 [15] [[false], [true]] [[(0, 0)], [(0, 0)], [(0, 0), (1, 1)], [(0, 0), (1, 1)], [(0, 0), (1, 1)], [(0, 0)], [(0, 0)], [(0, 0)], [(0, 0)], [(0, 0)], [(0, 0)], [(0, 0)], [(0, 0)], [(0, 0)], [(0, 0)], [(0, 1)]] 1 [fun _ => fun σm => Hp S0 σ0 σm [Ch.own 0 0 (Sl Hk s117.1 Hl) s117.1] ∧ Md (cov []) σ138 σm, fun _ => fun σm => Hp S0 σ0 σm [Ch.own 0 0 (Sl Hk s117.1 Hl) (s117.1.set s117.2.toNat x140)] ∧ Md (fun i => (cov []) i ∨ (fun b => blk (Sl Hk s117.1 Hl) = some b) i) σ138 σm] [fun _ => (Sl Hk s117.1 Hl), fun _ => (I s117.2), fun _ => (Sl Hk s117.1 Hl), fun _ => (I s117.2), fun _ => (I (w64 (s117.2 - 1))), fun _ => (Sl Hk s117.1 Hl), fun _ => (I s117.2), fun _ => (I (w64 (s117.2 - 1))), fun _ => (pt b143 o144), fun _ => (I x140), fun _ => (Sl Hk s117.1 Hl), fun _ => (I s117.2), fun _ => (pt b149 o150), fun _ => (I x146), fun _ => (pt b155 o156), fun _ => undef] () (by kernel_rfl) (by kernel_rfl) ?_ ?_ ?_
             ·intro σm m0
              exact ⟨H.grow (m0.mono fun _ h => h.elim), m0⟩
             ·refine ac rfl (by
                intro k _nm ρ σm hJ hoff hdep
                have e0 := look_off (N := 133) (hoff 0 rfl) rfl
                exact dp_v (v := (Sl Hk s117.1 Hl)) wn (rv_move e0) rfl hJ) ?_
              refine ac rfl (by
                intro k _nm ρ σm hJ hoff hdep
                have e10 := look_off (N := 133) (hoff 10 rfl) rfl
                exact dp_v (v := (I s117.2)) wn (rv_move e10) rfl hJ) ?_
              refine ac rfl (by
                intro k _nm ρ σm hJ hoff hdep
                have e0 := look_off (N := 133) (hoff 0 rfl) rfl
                exact dp_v (v := (Sl Hk s117.1 Hl)) wn (rv_move e0) rfl hJ) ?_
              refine ac rfl (by
                intro k _nm ρ σm hJ hoff hdep
                have e10 := look_off (N := 133) (hoff 10 rfl) rfl
                exact dp_v (v := (I s117.2)) wn (rv_move e10) rfl hJ) ?_
              refine ac rfl (by
                intro k _nm ρ σm hJ hoff hdep
                have e120 := hdep 3 rfl rfl 120 rfl
                exact dp_v (v := (I (w64 (s117.2 - 1)))) wn (rv_sub (a := s117.2) (b := 1) e120 rfl) rfl hJ) ?_
              refine ac rfl (by
                intro k _nm ρ σm hJ hoff hdep
                have e0 := look_off (N := 133) (hoff 0 rfl) rfl
                exact dp_v (v := (Sl Hk s117.1 Hl)) wn (rv_move e0) rfl hJ) ?_
              refine ac rfl (by
                intro k _nm ρ σm hJ hoff hdep
                have e10 := look_off (N := 133) (hoff 10 rfl) rfl
                exact dp_v (v := (I s117.2)) wn (rv_move e10) rfl hJ) ?_
              refine ac rfl (by
                intro k _nm ρ σm hJ hoff hdep
                have e123 := hdep 6 rfl rfl 123 rfl
                exact dp_v (v := (I (w64 (s117.2 - 1)))) wn (rv_sub (a := s117.2) (b := 1) e123 rfl) rfl hJ) ?_
              refine ac rfl (by
                intro k _nm ρ σm hJ hoff hdep
                have e122 := hdep 5 rfl rfl 122 rfl
                have e124 := hdep 7 rfl rfl 124 rfl
                exact dp_v (v := (pt b143 o144)) wn (rv_ix Tryz.underlying27 ti3 e122 e124 hi142) rfl hJ) ?_
              refine all_cons (by
                refine ⟨?_, ?_⟩
                ·intro _nm ρ σm hJ hoff hdep
                 have e125 := hdep 8 rfl rfl 125 rfl
                 obtain ⟨H, m⟩ := id hJ
                 have hc145 := ((H.own 0 rfl).at hx141 hi142).int
                 exact dp_v (v := (I x140)) wn (rv_load1 Tryz.underlying3 rfl e125 hc145) rfl hJ
                trivial) ?_
              refine ac rfl (by
                intro k _nm ρ σm hJ hoff hdep
                have e0 := look_off (N := 133) (hoff 0 rfl) rfl
                exact dp_v (v := (Sl Hk s117.1 Hl)) wn (rv_move e0) rfl hJ) ?_
              refine ac rfl (by
                intro k _nm ρ σm hJ hoff hdep
                have e10 := look_off (N := 133) (hoff 10 rfl) rfl
                exact dp_v (v := (I s117.2)) wn (rv_move e10) rfl hJ) ?_
              refine ac rfl (by
                intro k _nm ρ σm hJ hoff hdep
                have e127 := hdep 10 rfl rfl 127 rfl
                have e128 := hdep 11 rfl rfl 128 rfl
                exact dp_v (v := (pt b149 o150)) wn (rv_ix Tryz.underlying27 ti3 e127 e128 hi148) rfl hJ) ?_
              refine all_cons (by
                refine ⟨?_, ?_⟩
                ·intro _nm ρ σm hJ hoff hdep
                 have e129 := hdep 12 rfl rfl 129 rfl
                 obtain ⟨H, m⟩ := id hJ
                 have hc151 := ((H.own 0 rfl).at hx147 hi148).int
                 exact dp_v (v := (I x146)) wn (rv_load1 Tryz.underlying3 rfl e129 hc151) rfl hJ
                trivial) ?_
              refine ac rfl (by
                intro k _nm ρ σm hJ hoff hdep
                have e117 := hdep 0 rfl rfl 117 rfl
                have e118 := hdep 1 rfl rfl 118 rfl
                exact dp_v (v := (pt b155 o156)) wn (rv_ix Tryz.underlying27 ti3 e117 e118 hi154) rfl hJ) ?_
              refine all_cons (by
                refine ⟨?_, ?_⟩
                ·intro _nm ρ σm hJ hoff hdep
                 have e131 := hdep 14 rfl rfl 131 rfl
                 have e126 := hdep 9 rfl rfl 126 rfl
                 obtain ⟨H, m⟩ := id hJ
                 refine dp_exS wn rfl (ex_store_own (e' := x140) (vs := [(I x140)]) (k := 0) H (i := 0) rfl ti3 hx153 hi154 e131 rfl e126 rfl rfl (Nat.le_of_ble_eq_true rfl) (by simp [plain]) (by rintro _ rfl; exact rfl)) ?_
                 rintro σq ⟨H2, m2⟩
                 exact ⟨_, (), rfl, ⟨H2.sel' [0] rfl rfl, m.comp m2⟩, stab [0, 1, 2, 3, 4, 5, 6, 7, 8, 9, 10, 11, 12, 13, 14] (by kernel_rfl) ⟨rfl, rfl, rfl, rfl, rfl, rfl, rfl, rfl, rfl, rfl, rfl, rfl, rfl, rfl, rfl, trivial⟩⟩
                trivial) ?_
              exact all_nil
             ·intro _nm ρ σ157 hJ hoff hrel
              have e0 := look_off (N := 133) (hoff 0 rfl) rfl
              have e1 := look_off (N := 133) (hoff 1 rfl) rfl
              have e2 := look_off (N := 133) (hoff 2 rfl) rfl
              have e7 := look_off (N := 133) (hoff 7 rfl) rfl
              have e8 := look_off (N := 133) (hoff 8 rfl) rfl
              have e10 := look_off (N := 133) (hoff 10 rfl) rfl
              have e119 := hrel 2 rfl 119 rfl
              have e121 := hrel 4 rfl 121 rfl
              have e130 := hrel 13 rfl 130 rfl
              obtain ⟨H, -⟩ := (show Hp S0 σ0 σ157 [Ch.own 0 0 (Sl Hk s117.1 Hl) (s117.1.set s117.2.toNat x140)] ∧ Md (fun i => (cov []) i ∨ (fun b => blk (Sl Hk s117.1 Hl) = some b) i) σ138 σ157 from hJ)
              clear hJ Hs
              rw [fr_lookL (L := [(0, (Sl Hk s117.1 Hl)), (1, (I Dx)), (2, (I Dy)), (7, (I o7)), (8, (I s2.2.2)), (10, (I s117.2)), (119, (Sl Hk s117.1 Hl)), (121, (I (w64 (s117.2 - 1)))), (130, (I x146))]) ⟨e0, e1, e2, e7, e8, e10, e119, e121, e130, trivial⟩]
              clear hoff hrel e0 e1 e2 e7 e8 e10 e119 e121 e130
              have hsl : (Sl Hk s117.1 Hl) = (Sl Hk (s117.1.set s117.2.toNat x140) Hl) := sl_len (by simp)
              rw [hsl]; rw [hsl] at H; clear hsl
              revert h; refine br fun x158 hx159 h => ?_
              obtain ⟨b161, o162, hi160, -⟩ := (H.own 0 rfl).ix hx159
              refine st (v := (pt b161 o162)) (rv_ix Tryz.underlying27 ti3 rfl rfl hi160) ?_
              refine st_exS (ex_store_own (e' := x146) (vs := [(I x146)]) (k := 0) H (i := 0) rfl ti3 hx159 hi160 rfl rfl rfl rfl rfl (Nat.le_of_ble_eq_true rfl) (by simp [plain]) (by rintro _ rfl; exact rfl)) wn ?_
              rintro σ163 ⟨H, -⟩
              have hsl : (Sl Hk (s117.1.set s117.2.toNat x140) Hl) = (Sl Hk ((s117.1.set s117.2.toNat x140).set (w64 (s117.2 - 1)).toNat x146) Hl) := sl_len List.length_set.symm
              rw [hsl]; rw [hsl] at H; clear hsl
              refine w_end (q_blk (q_then (rg (sm (I s117.2) rfl (st (v := (I (w64 (s117.2 + 1)))) (rv_add (a := s117.2) (b := 1) rfl rfl) (sa (I (w64 (s117.2 + 1))) rfl (w_end (q_then ?_))))))))
              obtain rfl := sj h
              exact ⟨_, rfl, _, σ163, fr_join ⟨rfl, rfl, rfl, rfl, rfl, rfl, trivial⟩, rfl, H.sel' [0] rfl rfl, ((List.length_set.trans (List.length_set.trans (hn119.trans (hn114.trans (List.length_set.trans (List.length_set.trans hn4)))))).trans (hn114.trans (List.length_set.trans (List.length_set.trans hn4))).symm)⟩
           ·replace h := bif_f hb120 h
            refine c_exit (q_then_x (q_then_x (q_blk_hit ?_)))
            obtain rfl := sj h
            obtain rfl := hres _ rfl
            exact ⟨rfl, _, σ118, fr_join ⟨rfl, rfl, rfl, rfl, rfl, trivial⟩, rfl, H.sel' [0] rfl rfl, ((hn119.trans (hn114.trans (List.length_set.trans (List.length_set.trans hn4)))).trans (hn114.trans (List.length_set.trans (List.length_set.trans hn4))).symm)⟩
          ·clear hj
           have h := h'
           clear h' H
           rintro e a w ⟨rfl, ρ, σ164, rfl, rfl, H, hn165⟩
           refine q_blk ?_
           obtain rfl := sj h
           exact .inl ⟨_, rfl, rfl, _, σ164, fr_join ⟨rfl, rfl, rfl, rfl, rfl, trivial⟩, rfl, H.sel' [0] rfl rfl, ((hn165.trans (hn114.trans (List.length_set.trans (List.length_set.trans hn4)))).trans hn4.symm)⟩
         ·replace h := bif_f hb115 h
          refine c_skip (q_blk ?_)
          obtain rfl := sj h
          exact .inl ⟨_, rfl, rfl, _, σ113, fr_join ⟨rfl, rfl, rfl, rfl, rfl, trivial⟩, rfl, H.sel' [0] rfl rfl, ((hn114.trans (List.length_set.trans (List.length_set.trans hn4))).trans hn4.symm)⟩
   ·clear hj
    have h := h'
    clear h' H
    rintro e a w (⟨t166, rfl, rfl, ρ, σ167, rfl, rfl, H, hn168⟩ | ⟨t169, rfl, rfl, ρ, σ170, rfl, rfl, H, hn171⟩)
    ·replace h := selim_l h
     refine q_then (rg (sm (I s2.2.2) rfl (st (v := (I (w64 (s2.2.2 + 1)))) (rv_add (a := s2.2.2) (b := 1) rfl rfl) (sa (I (w64 (s2.2.2 + 1))) rfl (w_end (q_then ?_))))))
     obtain rfl := sj h
     exact ⟨_, rfl, _, σ167, fr_join ⟨rfl, rfl, rfl, rfl, rfl, trivial⟩, rfl, H.sel' [0] rfl rfl, (hn168.trans hn4)⟩
    ·replace h := selim_r h
     refine q_then_r (q_then_r (q_blk_r ?_))
     obtain rfl := sj h
     obtain rfl := hres _ rfl
     exact .inr (⟨_, rfl, rfl, _, σ170, fr_join ⟨rfl, rfl, trivial⟩, rfl, H.sel' [0] rfl rfl, (hn171.trans hn4)⟩)
  ·replace h := bif_f hb5 h
   refine c_exit (q_then_x (q_then_x (q_blk_hit ?_)))
   obtain rfl := sj h
   obtain rfl := hres _ rfl
   exact .inl ⟨_, rfl, rfl, _, σ3, fr_join ⟨rfl, trivial⟩, rfl, H.sel' [0] rfl rfl, hn4⟩
 ·clear hj
  have h := h'
  clear h' H
  rintro e a w (⟨t172, rfl, rfl, ρ, σ173, rfl, rfl, H, hn174⟩ | ⟨t175, rfl, rfl, ρ, σ176, rfl, rfl, H, hn177⟩)
  ·replace h := selim_l h
   refine q_then (c_seq (rg (sa (B false) rfl (w_end (q_then (c_ret ?_))))))
   obtain rfl := sj h
   exact fin_ret (v := (B false)) (results_ok Tryz.results182 (res_tmp (v := (B false)) rfl res_nil) rfl) ⟨rfl, rfl, hn174⟩ (H.sel' [0] rfl rfl)
  ·replace h := selim_r h
   refine q_then_r ?_
   obtain rfl := sj h
   exact fin_ret (v := (B t175.2)) (results_ok Tryz.results182 (res_tmp (v := (B t175.2)) rfl res_nil) rfl) ⟨rfl, rfl, hn177⟩ (H.sel' [0] rfl rfl)

theorem c_slices_partitionEqualOrdered_int {Hj : List Int} {Dx : Int} {Dy : Int} {Jk : Int} {Hk : Option Addr} {Hl : Nat} {r : Int × (List Int)} (h : M.slices_partitionEqualOrdered_int Hj Dx Dy Jk = some r) :
    Cal2 Tryz.prog 184 [(Sl Hk Hj Hl), (I Dx), (I Dy), (I Jk)] [Ch.own 0 0 (Sl Hk Hj Hl) Hj] (fun n0 v L => v = (I r.1) ∧ L = [Ch.own 0 0 (Sl Hk r.2 Hl) r.2] ∧ r.2.length = Hj.length) := by
 refine cal2 (n := 84) Tryz.func184 rfl rfl rfl rfl ?_
 intro S0 σ0 n0 hn0 H
 unfold M.slices_partitionEqualOrdered_int at h
 refine c_seq (rg (sa (I 0) rfl (w_end (q_then (c_seq ?_)))))
 revert h; refine br fun x1 hx2 h => ?_
 obtain ⟨b4, o5, hi3, -⟩ := (H.own 0 rfl).ix hx2
 have hc6 := ((H.own 0 rfl).at hx2 hi3).int
 revert h; refine br fun x7 hx8 h => ?_
 obtain ⟨b10, o11, hi9, -⟩ := (H.own 0 rfl).ix hx8
 have hc12 := ((H.own 0 rfl).at hx8 hi9).int
 revert h; refine br fun x13 hx14 h => ?_
 obtain ⟨b16, o17, hi15, -⟩ := (H.own 0 rfl).ix hx14
 have Hs := H
 refine rg2 (σ := σ0) (Nm := Unit) 14 [13] [[false], [true]] [[(0, 0)], [(0, 0)], [(0, 0), (1, 1)], [(0, 0), (1, 1)], [(0, 0)], [(0, 0)], [(0, 0)], [(0, 0)], [(0, 0)], [(0, 0)], [(0, 0)], [(0, 0)], [(0, 0)], [(0, 1)]] 1 [fun _ => fun σm => Hp S0 σ0 σm [Ch.own 0 0 (Sl Hk Hj Hl) Hj] ∧ Md (cov []) σ0 σm, fun _ => fun σm => Hp S0 σ0 σm [Ch.own 0 0 (Sl Hk Hj Hl) (Hj.set Dx.toNat x1)] ∧ Md (fun i => (cov []) i ∨ (fun b => blk (Sl Hk Hj Hl) = some b) i) σ0 σm] [fun _ => (Sl Hk Hj Hl), fun _ => (I Dx), fun _ => (Sl Hk Hj Hl), fun _ => (I Jk), fun _ => (Sl Hk Hj Hl), fun _ => (I Jk), fun _ => (pt b4 o5), fun _ => (I x1), fun _ => (Sl Hk Hj Hl), fun _ => (I Dx), fun _ => (pt b10 o11), fun _ => (I x7), fun _ => (pt b16 o17), fun _ => undef] () (by kernel_rfl) (by kernel_rfl) ?_ ?_ ?_
 ·intro σm m0
  exact ⟨H.grow (m0.mono fun _ h => h.elim), m0⟩
 ·refine ac rfl (by
    intro k _nm ρ σm hJ hoff hdep
    have e0 := look_off (N := 84) (hoff 0 rfl) rfl
    exact dp_v (v := (Sl Hk Hj Hl)) wn (rv_move e0) rfl hJ) ?_
  refine ac rfl (by
    intro k _nm ρ σm hJ hoff hdep
    have e1 := look_off (N := 84) (hoff 1 rfl) rfl
    exact dp_v (v := (I Dx)) wn (rv_move e1) rfl hJ) ?_
  refine ac rfl (by
    intro k _nm ρ σm hJ hoff hdep
    have e0 := look_off (N := 84) (hoff 0 rfl) rfl
    exact dp_v (v := (Sl Hk Hj Hl)) wn (rv_move e0) rfl hJ) ?_
  refine ac rfl (by
    intro k _nm ρ σm hJ hoff hdep
    have e3 := look_off (N := 84) (hoff 3 rfl) rfl
    exact dp_v (v := (I Jk)) wn (rv_move e3) rfl hJ) ?_
  refine ac rfl (by
    intro k _nm ρ σm hJ hoff hdep
    have e0 := look_off (N := 84) (hoff 0 rfl) rfl
    exact dp_v (v := (Sl Hk Hj Hl)) wn (rv_move e0) rfl hJ) ?_
  refine ac rfl (by
    intro k _nm ρ σm hJ hoff hdep
    have e3 := look_off (N := 84) (hoff 3 rfl) rfl
    exact dp_v (v := (I Jk)) wn (rv_move e3) rfl hJ) ?_
  refine ac rfl (by
    intro k _nm ρ σm hJ hoff hdep
    have e15 := hdep 4 rfl rfl 15 rfl
    have e16 := hdep 5 rfl rfl 16 rfl
    exact dp_v (v := (pt b4 o5)) wn (rv_ix Tryz.underlying27 ti3 e15 e16 hi3) rfl hJ) ?_
  refine all_cons (by
    refine ⟨?_, ?_⟩
    ·intro _nm ρ σm hJ hoff hdep
     have e17 := hdep 6 rfl rfl 17 rfl
     obtain ⟨H, m⟩ := id hJ
     have hc6 := ((H.own 0 rfl).at hx2 hi3).int
     exact dp_v (v := (I x1)) wn (rv_load1 Tryz.underlying3 rfl e17 hc6) rfl hJ
    trivial) ?_
  refine ac rfl (by
    intro k _nm ρ σm hJ hoff hdep
    have e0 := look_off (N := 84) (hoff 0 rfl) rfl
    exact dp_v (v := (Sl Hk Hj Hl)) wn (rv_move e0) rfl hJ) ?_
  refine ac rfl (by
    intro k _nm ρ σm hJ hoff hdep
    have e1 := look_off (N := 84) (hoff 1 rfl) rfl
    exact dp_v (v := (I Dx)) wn (rv_move e1) rfl hJ) ?_
  refine ac rfl (by
    intro k _nm ρ σm hJ hoff hdep
    have e19 := hdep 8 rfl rfl 19 rfl
    have e20 := hdep 9 rfl rfl 20 rfl
    exact dp_v (v := (pt b10 o11)) wn (rv_ix Tryz.underlying27 ti3 e19 e20 hi9) rfl hJ) ?_
  refine all_cons (by
    refine ⟨?_, ?_⟩
    ·intro _nm ρ σm hJ hoff hdep
     have e21 := hdep 10 rfl rfl 21 rfl
     obtain ⟨H, m⟩ := id hJ
     have hc12 := ((H.own 0 rfl).at hx8 hi9).int
     exact dp_v (v := (I x7)) wn (rv_load1 Tryz.underlying3 rfl e21 hc12) rfl hJ
    trivial) ?_
  refine ac rfl (by
    intro k _nm ρ σm hJ hoff hdep
    have e11 := hdep 0 rfl rfl 11 rfl
    have e12 := hdep 1 rfl rfl 12 rfl
    exact dp_v (v := (pt b16 o17)) wn (rv_ix Tryz.underlying27 ti3 e11 e12 hi15) rfl hJ) ?_
  refine all_cons (by
    refine ⟨?_, ?_⟩
    ·intro _nm ρ σm hJ hoff hdep
     have e23 := hdep 12 rfl rfl 23 rfl
     have e18 := hdep 7 rfl rfl 18 rfl
     obtain ⟨H, m⟩ := id hJ
     refine dp_exS wn rfl (ex_store_own (e' := x1) (vs := [(I x1)]) (k := 0) H (i := 0) rfl ti3 hx14 hi15 e23 rfl e18 rfl rfl (Nat.le_of_ble_eq_true rfl) (by simp [plain]) (by rintro _ rfl; exact rfl)) ?_
     rintro σq ⟨H2, m2⟩
     exact ⟨_, (), rfl, ⟨H2.sel' [0] rfl rfl, m.comp m2⟩, stab [0, 1, 2, 3, 4, 5, 6, 7, 8, 9, 10, 11, 12] (by kernel_rfl) ⟨rfl, rfl, rfl, rfl, rfl, rfl, rfl, rfl, rfl, rfl, rfl, rfl, rfl, trivial⟩⟩
    trivial) ?_
  exact all_nil
 ·intro _nm ρ σ18 hJ hoff hrel
  have e0 := look_off (N := 84) (hoff 0 rfl) rfl
  have e1 := look_off (N := 84) (hoff 1 rfl) rfl
  have e2 := look_off (N := 84) (hoff 2 rfl) rfl
  have e13 := hrel 2 rfl 13 rfl
  have e14 := hrel 3 rfl 14 rfl
  have e22 := hrel 11 rfl 22 rfl
  obtain ⟨H, -⟩ := (show Hp S0 σ0 σ18 [Ch.own 0 0 (Sl Hk Hj Hl) (Hj.set Dx.toNat x1)] ∧ Md (fun i => (cov []) i ∨ (fun b => blk (Sl Hk Hj Hl) = some b) i) σ0 σ18 from hJ)
  clear hJ Hs
  rw [fr_lookL (L := [(0, (Sl Hk Hj Hl)), (1, (I Dx)), (2, (I Dy)), (13, (Sl Hk Hj Hl)), (14, (I Jk)), (22, (I x7))]) ⟨e0, e1, e2, e13, e14, e22, trivial⟩]
  clear hoff hrel e0 e1 e2 e13 e14 e22
  have hsl : (Sl Hk Hj Hl) = (Sl Hk (Hj.set Dx.toNat x1) Hl) := sl_len (by simp)
  rw [hsl]; rw [hsl] at H; clear hsl
  revert h; refine br fun x19 hx20 h => ?_
  obtain ⟨b22, o23, hi21, -⟩ := (H.own 0 rfl).ix hx20
  refine st (v := (pt b22 o23)) (rv_ix Tryz.underlying27 ti3 rfl rfl hi21) ?_
  refine st_exS (ex_store_own (e' := x7) (vs := [(I x7)]) (k := 0) H (i := 0) rfl ti3 hx20 hi21 rfl rfl rfl rfl rfl (Nat.le_of_ble_eq_true rfl) (by simp [plain]) (by rintro _ rfl; exact rfl)) wn ?_
  rintro σ24 ⟨H, -⟩
  have hsl : (Sl Hk (Hj.set Dx.toNat x1) Hl) = (Sl Hk ((Hj.set Dx.toNat x1).set Jk.toNat x7) Hl) := sl_len List.length_set.symm
  rw [hsl]; rw [hsl] at H; clear hsl
  refine w_end (q_then (c_seq (rg (sm (I Dx) rfl (st (v := (I (w64 (Dx + 1)))) (rv_add (a := Dx) (b := 1) rfl rfl) (sm (I Dy) rfl (st (v := (I (w64 (Dy - 1)))) (rv_sub (a := Dy) (b := 1) rfl rfl) (sa (I (w64 (Dx + 1))) rfl (sa (I (w64 (Dy - 1))) rfl (w_end (q_then ?_)))))))))))
  refine c_seq ?_
  obtain ⟨o25, hj, h'⟩ := bind_some h
  clear h
  refine c_cut (fun e a w => e = .normal ∧ ∃ (ρ : Nat → Value) (σ : St), a = fr 84 (updL ρ [(0, (Sl Hk o25.1 Hl)), (9, (I o25.2))]) ∧ w = σ.w ∧ Hp S0 σ0 σ [Ch.own 0 0 (Sl Hk o25.1 Hl) o25.1] ∧ o25.1.length = ((Hj.set Dx.toNat x1).set Jk.toNat x7).length) ?_ ?_
  ·clear h'
   rename _ = some o25 => h
   refine c_blk (wp_loopM _ h (fun s26 a w => ∃ (ρ : Nat → Value) (σ : St), a = fr 84 (updL ρ [(0, (Sl Hk s26.1 Hl)), (1, (I Dx)), (9, (I s26.2.1)), (10, (I s26.2.2))]) ∧ w = σ.w ∧ Hp S0 σ0 σ [Ch.own 0 0 (Sl Hk s26.1 Hl) s26.1] ∧ s26.1.length = ((Hj.set Dx.toNat x1).set Jk.toNat x7).length) ⟨_, σ24, fr_join ⟨rfl, rfl, rfl, rfl, trivial⟩, rfl, H.sel' [0] rfl rfl, rfl⟩ ?_)
   clear h H
   rintro s26 a w o ⟨ρ, σ27, rfl, rfl, H, hn28⟩ h hres
   refine c_blk (c_seq ?_)
   obtain ⟨o29, hj, h'⟩ := bind_some h
   clear h
   refine c_cut (fun e a w => e = .normal ∧ ∃ (ρ : Nat → Value) (σ : St), a = fr 84 (updL ρ [(0, (Sl Hk s26.1 Hl)), (1, (I Dx)), (9, (I o29)), (10, (I s26.2.2))]) ∧ w = σ.w ∧ Hp S0 σ0 σ [Ch.own 0 0 (Sl Hk s26.1 Hl) s26.1]) ?_ ?_
   ·clear h'
    rename _ = some o29 => h
    refine c_blk (wp_loopM _ h (fun s30 a w => ∃ (ρ : Nat → Value) (σ : St), a = fr 84 (updL ρ [(0, (Sl Hk s26.1 Hl)), (1, (I Dx)), (9, (I s30)), (10, (I s26.2.2))]) ∧ w = σ.w ∧ Hp S0 σ0 σ [Ch.own 0 0 (Sl Hk s26.1 Hl) s26.1]) ⟨_, σ27, fr_join ⟨rfl, rfl, rfl, rfl, trivial⟩, rfl, H.sel' [0] rfl rfl⟩ ?_)
    clear h H
    rintro s30 a w o ⟨ρ, σ31, rfl, rfl, H⟩ h hres
    refine c_seq (c_seq ?_)
    obtain ⟨o32, hj, h'⟩ := bind_some h
    clear h
    refine c_cut (fun e a w => e = .normal ∧ ∃ (ρ : Nat → Value) (σ : St), a = fr 84 (updL ρ [(0, (Sl Hk s26.1 Hl)), (1, (I Dx)), (9, (I s30)), (10, (I s26.2.2)), (43, (B o32))]) ∧ w = σ.w ∧ Hp S0 σ0 σ [Ch.own 0 0 (Sl Hk s26.1 Hl) s26.1]) ?_ ?_
    ·clear h'
     rename _ = some o32 => h
     refine rgP (σ := σ31) 12 (by kernel_rfl) (by kernel_rfl) (by kernel_rfl) ?_
     refine sq (v := (I s30)) (rv_move rfl) (sq (v := (I s26.2.2)) (rv_move rfl) (sq (v := (B (decide (s30 ≤ s26.2.2)))) (rv_leq (a := s30) (b := s26.2.2) rfl rfl) (sq (v := (B (decide (s30 ≤ s26.2.2)))) (rv_move rfl) ?_)))
     rcases Bool.eq_false_or_eq_true (decide (s30 ≤ s26.2.2)) with hb33 | hb33
     ·replace h := bif_t hb33 h
      refine sq_g (v := (Sl Hk s26.1 Hl)) (congrArg some hb33) (rv_move rfl) (sq_g (v := (I Dx)) (congrArg some hb33) (rv_move rfl) ?_)
      revert h; refine br fun x34 hx35 h => ?_
      obtain ⟨b37, o38, hi36, -⟩ := (H.own 0 rfl).ix hx35
      refine sq_g (v := (pt b37 o38)) (congrArg some hb33) (rv_ix Tryz.underlying27 ti3 rfl rfl hi36) ?_
      have hc39 := ((H.own 0 rfl).at hx35 hi36).int
      refine sq_g (v := (I x34)) (congrArg some hb33) (rv_load1 Tryz.underlying3 rfl rfl hc39) (sq_g (v := (Sl Hk s26.1 Hl)) (congrArg some hb33) (rv_move rfl) (sq_g (v := (I s30)) (congrArg some hb33) (rv_move rfl) ?_))
      revert h; refine br fun x40 hx41 h => ?_
      obtain ⟨b43, o44, hi42, -⟩ := (H.own 0 rfl).ix hx41
      refine sq_g (v := (pt b43 o44)) (congrArg some hb33) (rv_ix Tryz.underlying27 ti3 rfl rfl hi42) ?_
      have hc45 := ((H.own 0 rfl).at hx41 hi42).int
      refine sq_g (v := (I x40)) (congrArg some hb33) (rv_load1 Tryz.underlying3 rfl rfl hc45) (sq_end ?_)
      intro σ46 hm47
      replace H := H.grow (hm47.mono fun _ h => h); clear hm47
      revert h; refine br fun r48 hx49 h => ?_
      have hc50 := c_cmp_Less_int hx49
      refine st_call (cx_call hc50 (ent_f hc50.fn rfl) hn0 (H.sel' [0] rfl rfl : Hp S0 σ0 _ ([] ++ _))) (wanted_yes rfl (by exact (congrArg some hb33))) ?_
      rintro _ σ51 ⟨_, ⟨rfl, rfl⟩, H, -⟩
      replace H : Hp _ _ _ [_] := H
      refine st_g (v := (B (!r48))) (congrArg some hb33) (rv_not rfl) (st (v := (B (!r48))) (rv_pick_t (congrArg B hb33) rfl) (w_end ?_))
      obtain rfl := sj h
      exact ⟨rfl, _, σ51, fr_join ⟨rfl, rfl, rfl, rfl, rfl, trivial⟩, rfl, H.sel' [0] rfl rfl⟩
     ·replace h := bif_f hb33 h
      refine sq_skip (congrArg some hb33) (sq_skip (congrArg some hb33) (sq_skip (congrArg some hb33) (sq_skip (congrArg some hb33) (sq_skip (congrArg some hb33) (sq_skip (congrArg some hb33) (sq_skip (congrArg some hb33) (sq_skip (congrArg some hb33) (sq_end ?_))))))))
      intro σ52 hm53
      replace H := H.grow (hm53.mono fun _ h => h); clear hm53
      refine st_skip (congrArg some hb33) (st_skip (congrArg some hb33) (st (v := (B false)) (rv_pick_f (congrArg B hb33) rfl) (w_end ?_)))
      obtain rfl := sj h
      exact ⟨rfl, _, σ52, fr_join ⟨rfl, rfl, rfl, rfl, rfl, trivial⟩, rfl, H.sel' [0] rfl rfl⟩
    ·clear hj
     have h := h'
     clear h' H
     rintro e a w ⟨rfl, ρ, σ54, rfl, rfl, H⟩
     refine q_then ?_
     refine cd_cond o32 rfl (fun hb55 => ?_) (fun hb55 => ?_)
     ·replace h := bif_t hb55 h
      refine c_skip (q_then (c_blk (rg (sm (I s30) rfl (st (v := (I (w64 (s30 + 1)))) (rv_add (a := s30) (b := 1) rfl rfl) (sa (I (w64 (s30 + 1))) rfl (w_end (q_blk (q_then ?_)))))))))
      obtain rfl := sj h
      exact ⟨_, rfl, _, σ54, fr_join ⟨rfl, rfl, rfl, rfl, trivial⟩, rfl, H.sel' [0] rfl rfl⟩
     ·replace h := bif_f hb55 h
      refine c_exit (q_then_x (q_then_x (q_blk_hit ?_)))
      obtain rfl := sj h
      obtain rfl := hres _ rfl
      exact ⟨rfl, _, σ54, fr_join ⟨rfl, rfl, rfl, rfl, trivial⟩, rfl, H.sel' [0] rfl rfl⟩
   ·clear hj
    have h := h'
    clear h' H
    rintro e a w ⟨rfl, ρ, σ56, rfl, rfl, H⟩
    refine q_then (c_seq ?_)
    obtain ⟨o57, hj, h'⟩ := bind_some h
    clear h
    refine c_cut (fun e a w => e = .normal ∧ ∃ (ρ : Nat → Value) (σ : St), a = fr 84 (updL ρ [(0, (Sl Hk s26.1 Hl)), (1, (I Dx)), (9, (I o29)), (10, (I o57))]) ∧ w = σ.w ∧ Hp S0 σ0 σ [Ch.own 0 0 (Sl Hk s26.1 Hl) s26.1]) ?_ ?_
    ·clear h'
     rename _ = some o57 => h
     refine c_blk (wp_loopM _ h (fun s58 a w => ∃ (ρ : Nat → Value) (σ : St), a = fr 84 (updL ρ [(0, (Sl Hk s26.1 Hl)), (1, (I Dx)), (9, (I o29)), (10, (I s58))]) ∧ w = σ.w ∧ Hp S0 σ0 σ [Ch.own 0 0 (Sl Hk s26.1 Hl) s26.1]) ⟨_, σ56, fr_join ⟨rfl, rfl, rfl, rfl, trivial⟩, rfl, H.sel' [0] rfl rfl⟩ ?_)
     clear h H
     rintro s58 a w o ⟨ρ, σ59, rfl, rfl, H⟩ h hres
     refine c_seq (c_seq ?_)
     obtain ⟨o60, hj, h'⟩ := bind_some h
     clear h
     refine c_cut (fun e a w => e = .normal ∧ ∃ (ρ : Nat → Value) (σ : St), a = fr 84 (updL ρ [(0, (Sl Hk s26.1 Hl)), (1, (I Dx)), (9, (I o29)), (10, (I s58)), (59, (B o60))]) ∧ w = σ.w ∧ Hp S0 σ0 σ [Ch.own 0 0 (Sl Hk s26.1 Hl) s26.1]) ?_ ?_
     ·clear h'
      rename _ = some o60 => h
      refine rgP (σ := σ59) 12 (by kernel_rfl) (by kernel_rfl) (by kernel_rfl) ?_
      refine sq (v := (I o29)) (rv_move rfl) (sq (v := (I s58)) (rv_move rfl) (sq (v := (B (decide (o29 ≤ s58)))) (rv_leq (a := o29) (b := s58) rfl rfl) (sq (v := (B (decide (o29 ≤ s58)))) (rv_move rfl) ?_)))
      rcases Bool.eq_false_or_eq_true (decide (o29 ≤ s58)) with hb61 | hb61
      ·replace h := bif_t hb61 h
       refine sq_g (v := (Sl Hk s26.1 Hl)) (congrArg some hb61) (rv_move rfl) (sq_g (v := (I Dx)) (congrArg some hb61) (rv_move rfl) ?_)
       revert h; refine br fun x62 hx63 h => ?_
       obtain ⟨b65, o66, hi64, -⟩ := (H.own 0 rfl).ix hx63
       refine sq_g (v := (pt b65 o66)) (congrArg some hb61) (rv_ix Tryz.underlying27 ti3 rfl rfl hi64) ?_
       have hc67 := ((H.own 0 rfl).at hx63 hi64).int
       refine sq_g (v := (I x62)) (congrArg some hb61) (rv_load1 Tryz.underlying3 rfl rfl hc67) (sq_g (v := (Sl Hk s26.1 Hl)) (congrArg some hb61) (rv_move rfl) (sq_g (v := (I s58)) (congrArg some hb61) (rv_move rfl) ?_))
       revert h; refine br fun x68 hx69 h => ?_
       obtain ⟨b71, o72, hi70, -⟩ := (H.own 0 rfl).ix hx69
       refine sq_g (v := (pt b71 o72)) (congrArg some hb61) (rv_ix Tryz.underlying27 ti3 rfl rfl hi70) ?_
       have hc73 := ((H.own 0 rfl).at hx69 hi70).int
       refine sq_g (v := (I x68)) (congrArg some hb61) (rv_load1 Tryz.underlying3 rfl rfl hc73) (sq_end ?_)
       intro σ74 hm75
       replace H := H.grow (hm75.mono fun _ h => h); clear hm75
       revert h; refine br fun r76 hx77 h => ?_
       have hc78 := c_cmp_Less_int hx77
       refine st_call (cx_call hc78 (ent_f hc78.fn rfl) hn0 (H.sel' [0] rfl rfl : Hp S0 σ0 _ ([] ++ _))) (wanted_yes rfl (by exact (congrArg some hb61))) ?_
       rintro _ σ79 ⟨_, ⟨rfl, rfl⟩, H, -⟩
       replace H : Hp _ _ _ [_] := H
       refine st (v := (B r76)) (rv_pick_t (congrArg B hb61) rfl) (w_end ?_)
       obtain rfl := sj h
       exact ⟨rfl, _, σ79, fr_join ⟨rfl, rfl, rfl, rfl, rfl, trivial⟩, rfl, H.sel' [0] rfl rfl⟩
      ·replace h := bif_f hb61 h
       refine sq_skip (congrArg some hb61) (sq_skip (congrArg some hb61) (sq_skip (congrArg some hb61) (sq_skip (congrArg some hb61) (sq_skip (congrArg some hb61) (sq_skip (congrArg some hb61) (sq_skip (congrArg some hb61) (sq_skip (congrArg some hb61) (sq_end ?_))))))))
       intro σ80 hm81
       replace H := H.grow (hm81.mono fun _ h => h); clear hm81
       refine st_skip (congrArg some hb61) (st (v := (B false)) (rv_pick_f (congrArg B hb61) rfl) (w_end ?_))
       obtain rfl := sj h
       exact ⟨rfl, _, σ80, fr_join ⟨rfl, rfl, rfl, rfl, rfl, trivial⟩, rfl, H.sel' [0] rfl rfl⟩
     ·clear hj
      have h := h'
      clear h' H
      rintro e a w ⟨rfl, ρ, σ82, rfl, rfl, H⟩
      refine q_then ?_
      refine cd_cond o60 rfl (fun hb83 => ?_) (fun hb83 => ?_)
      ·replace h := bif_t hb83 h
       refine c_skip (q_then (c_blk (rg (sm (I s58) rfl (st (v := (I (w64 (s58 - 1)))) (rv_sub (a := s58) (b := 1) rfl rfl) (sa (I (w64 (s58 - 1))) rfl (w_end (q_blk (q_then ?_)))))))))
       obtain rfl := sj h
       exact ⟨_, rfl, _, σ82, fr_join ⟨rfl, rfl, rfl, rfl, trivial⟩, rfl, H.sel' [0] rfl rfl⟩
      ·replace h := bif_f hb83 h
       refine c_exit (q_then_x (q_then_x (q_blk_hit ?_)))
       obtain rfl := sj h
       obtain rfl := hres _ rfl
       exact ⟨rfl, _, σ82, fr_join ⟨rfl, rfl, rfl, rfl, trivial⟩, rfl, H.sel' [0] rfl rfl⟩
    ·clear hj
     have h := h'
     clear h' H
     rintro e a w ⟨rfl, ρ, σ84, rfl, rfl, H⟩
     refine q_then (c_seq (c_seq (rg (sm (I o29) rfl (sm (I o57) rfl (st (v := (B (decide (o57 < o29)))) (rv_gtr (a := o29) (b := o57) rfl rfl) (w_end (q_then ?_))))))))
     refine cd_cond (decide (o57 < o29)) rfl (fun hb85 => ?_) (fun hb85 => ?_)
     ·replace h := bif_t hb85 h
      refine c_exit (q_then_x ?_)
      refine q_blk_x (by decide) ?_
      refine q_then_x (q_blk_hit ?_)
      obtain rfl := sj h
      obtain rfl := hres _ rfl
      exact ⟨rfl, _, σ84, fr_join ⟨rfl, rfl, trivial⟩, rfl, H.sel' [0] rfl rfl, ((hn28.trans (List.length_set.trans List.length_set)).trans (List.length_set.trans List.length_set).symm)⟩
     ·replace h := bif_f hb85 h
      refine c_skip (q_then (c_seq ?_))
      revert h; refine br fun x86 hx87 h => ?_
      obtain ⟨b89, o90, hi88, -⟩ := (H.own 0 rfl).ix hx87
      have hc91 := ((H.own 0 rfl).at hx87 hi88).int
      revert h; refine br fun x92 hx93 h => ?_
      obtain ⟨b95, o96, hi94, -⟩ := (H.own 0 rfl).ix hx93
      have hc97 := ((H.own 0 rfl).at hx93 hi94).int
      revert h; refine br fun x98 hx99 h => ?_
      obtain ⟨b101, o102, hi100, -⟩ := (H.own 0 rfl).ix hx99
      have Hs := H
      refine rg2 (σ := σ84) (Nm := Unit) 14 [13] [[false], [true]] [[(0, 0)], [(0, 0)], [(0, 0), (1, 1)], [(0, 0), (1, 1)], [(0, 0)], [(0, 0)], [(0, 0)], [(0, 0)], [(0, 0)], [(0, 0)], [(0, 0)], [(0, 0)], [(0, 0)], [(0, 1)]] 1 [fun _ => fun σm => Hp S0 σ0 σm [Ch.own 0 0 (Sl Hk s26.1 Hl) s26.1] ∧ Md (cov []) σ84 σm, fun _ => fun σm => Hp S0 σ0 σm [Ch.own 0 0 (Sl Hk s26.1 Hl) (s26.1.set o29.toNat x86)] ∧ Md (fun i => (cov []) i ∨ (fun b => blk (Sl Hk s26.1 Hl) = some b) i) σ84 σm] [fun _ => (Sl Hk s26.1 Hl), fun _ => (I o29), fun _ => (Sl Hk s26.1 Hl), fun _ => (I o57), fun _ => (Sl Hk s26.1 Hl), fun _ => (I o57), fun _ => (pt b89 o90), fun _ => (I x86), fun _ => (Sl Hk s26.1 Hl), fun _ => (I o29), fun _ => (pt b95 o96), fun _ => (I x92), fun _ => (pt b101 o102), fun _ => undef] () (by kernel_rfl) (by kernel_rfl) ?_ ?_ ?_
      ·intro σm m0
       exact ⟨H.grow (m0.mono fun _ h => h.elim), m0⟩
      ·refine ac rfl (by
         intro k _nm ρ σm hJ hoff hdep
         have e0 := look_off (N := 84) (hoff 0 rfl) rfl
         exact dp_v (v := (Sl Hk s26.1 Hl)) wn (rv_move e0) rfl hJ) ?_
       refine ac rfl (by
         intro k _nm ρ σm hJ hoff hdep
         have e9 := look_off (N := 84) (hoff 9 rfl) rfl
         exact dp_v (v := (I o29)) wn (rv_move e9) rfl hJ) ?_
       refine ac rfl (by
         intro k _nm ρ σm hJ hoff hdep
         have e0 := look_off (N := 84) (hoff 0 rfl) rfl
         exact dp_v (v := (Sl Hk s26.1 Hl)) wn (rv_move e0) rfl hJ) ?_
       refine ac rfl (by
         intro k _nm ρ σm hJ hoff hdep
         have e10 := look_off (N := 84) (hoff 10 rfl) rfl
         exact dp_v (v := (I o57)) wn (rv_move e10) rfl hJ) ?_
       refine ac rfl (by
         intro k _nm ρ σm hJ hoff hdep
         have e0 := look_off (N := 84) (hoff 0 rfl) rfl
         exact dp_v (v := (Sl Hk s26.1 Hl)) wn (rv_move e0) rfl hJ) ?_
       refine ac rfl (by
         intro k _nm ρ σm hJ hoff hdep
         have e10 := look_off (N := 84) (hoff 10 rfl) rfl
         exact dp_v (v := (I o57)) wn (rv_move e10) rfl hJ) ?_
       refine ac rfl (by
         intro k _nm ρ σm hJ hoff hdep
         have e69 := hdep 4 rfl rfl 69 rfl
         have e70 := hdep 5 rfl rfl 70 rfl
         exact dp_v (v := (pt b89 o90)) wn (rv_ix Tryz.underlying27 ti3 e69 e70 hi88) rfl hJ) ?_
       refine all_cons (by
         refine ⟨?_, ?_⟩
         ·intro _nm ρ σm hJ hoff hdep
          have e71 := hdep 6 rfl rfl 71 rfl
          obtain ⟨H, m⟩ := id hJ
          have hc91 := ((H.own 0 rfl).at hx87 hi88).int
          exact dp_v (v := (I x86)) wn (rv_load1 Tryz.underlying3 rfl e71 hc91) rfl hJ
         trivial) ?_
       refine ac rfl (by
         intro k _nm ρ σm hJ hoff hdep
         have e0 := look_off (N := 84) (hoff 0 rfl) rfl
         exact dp_v (v := (Sl Hk s26.1 Hl)) wn (rv_move e0) rfl hJ) ?_
       refine ac rfl (by
         intro k _nm ρ σm hJ hoff hdep
         have e9 := look_off (N := 84) (hoff 9 rfl) rfl
         exact dp_v (v := (I o29)) wn (rv_move e9) rfl hJ) ?_
       refine ac rfl (by
         intro k _nm ρ σm hJ hoff hdep
         have e73 := hdep 8 rfl rfl 73 rfl
         have e74 := hdep 9 rfl rfl 74 rfl
         exact dp_v (v := (pt b95 o96)) wn (rv_ix Tryz.underlying27 ti3 e73 e74 hi94) rfl hJ) ?_
       refine all_cons (by
         refine ⟨?_, ?_⟩
         ·intro _nm ρ σm hJ hoff hdep
          have e75 := hdep 10 rfl rfl 75 rfl
          obtain ⟨H, m⟩ := id hJ
          have hc97 := ((H.own 0 rfl).at hx93 hi94).int
          exact dp_v (v := (I x92)) wn (rv_load1 Tryz.underlying3 rfl e75 hc97) rfl hJ
         trivial) ?_
       refine ac rfl (by
         intro k _nm ρ σm hJ hoff hdep
         have e65 := hdep 0 rfl rfl 65 rfl
         have e66 := hdep 1 rfl rfl 66 rfl
         exact dp_v (v := (pt b101 o102)) wn (rv_ix Tryz.underlying27 ti3 e65 e66 hi100) rfl hJ) ?_
       refine all_cons (by
         refine ⟨?_, ?_⟩
         ·intro _nm ρ σm hJ hoff hdep
          have e77 := hdep 12 rfl rfl 77 rfl
          have e72 := hdep 7 rfl rfl 72 rfl
          obtain ⟨H, m⟩ := id hJ
          refine dp_exS wn rfl (ex_store_own (e' := x86) (vs := [(I x86)]) (k := 0) H (i := 0) rfl ti3 hx99 hi100 e77 rfl e72 rfl rfl (Nat.le_of_ble_eq_true rfl) (by simp [plain]) (by rintro _ rfl; exact rfl)) ?_
          rintro σq ⟨H2, m2⟩
          exact ⟨_, (), rfl, ⟨H2.sel' [0] rfl rfl, m.comp m2⟩, stab [0, 1, 2, 3, 4, 5, 6, 7, 8, 9, 10, 11, 12] (by kernel_rfl) ⟨rfl, rfl, rfl, rfl, rfl, rfl, rfl, rfl, rfl, rfl, rfl, rfl, rfl, trivial⟩⟩
         trivial) ?_
       exact all_nil
      ·intro _nm ρ σ103 hJ hoff hrel
       have e0 := look_off (N := 84) (hoff 0 rfl) rfl
       have e1 := look_off (N := 84) (hoff 1 rfl) rfl
       have e9 := look_off (N := 84) (hoff 9 rfl) rfl
       have e10 := look_off (N := 84) (hoff 10 rfl) rfl
       have e67 := hrel 2 rfl 67 rfl
       have e68 := hrel 3 rfl 68 rfl
       have e76 := hrel 11 rfl 76 rfl
       obtain ⟨H, -⟩ := (show Hp S0 σ0 σ103 [Ch.own 0 0 (Sl Hk s26.1 Hl) (s26.1.set o29.toNat x86)] ∧ Md (fun i => (cov []) i ∨ (fun b => blk (Sl Hk s26.1 Hl) = some b) i) σ84 σ103 from hJ)
       clear hJ Hs
       rw [fr_lookL (L := [(0, (Sl Hk s26.1 Hl)), (1, (I Dx)), (9, (I o29)), (10, (I o57)), (67, (Sl Hk s26.1 Hl)), (68, (I o57)), (76, (I x92))]) ⟨e0, e1, e9, e10, e67, e68, e76, trivial⟩]
       clear hoff hrel e0 e1 e9 e10 e67 e68 e76
       have hsl : (Sl Hk s26.1 Hl) = (Sl Hk (s26.1.set o29.toNat x86) Hl) := sl_len (by simp)
       rw [hsl]; rw [hsl] at H; clear hsl
       revert h; refine br fun x104 hx105 h => ?_
       obtain ⟨b107, o108, hi106, -⟩ := (H.own 0 rfl).ix hx105
       refine st (v := (pt b107 o108)) (rv_ix Tryz.underlying27 ti3 rfl rfl hi106) ?_
       refine st_exS (ex_store_own (e' := x92) (vs := [(I x92)]) (k := 0) H (i := 0) rfl ti3 hx105 hi106 rfl rfl rfl rfl rfl (Nat.le_of_ble_eq_true rfl) (by simp [plain]) (by rintro _ rfl; exact rfl)) wn ?_
       rintro σ109 ⟨H, -⟩
       have hsl : (Sl Hk (s26.1.set o29.toNat x86) Hl) = (Sl Hk ((s26.1.set o29.toNat x86).set o57.toNat x92) Hl) := sl_len List.length_set.symm
       rw [hsl]; rw [hsl] at H; clear hsl
       refine w_end (q_then (c_seq (rg (sm (I o29) rfl (st (v := (I (w64 (o29 + 1)))) (rv_add (a := o29) (b := 1) rfl rfl) (sa (I (w64 (o29 + 1))) rfl (w_end (q_then (rg (sm (I o57) rfl (st (v := (I (w64 (o57 - 1)))) (rv_sub (a := o57) (b := 1) rfl rfl) ?_)))))))))))
       refine sa (I (w64 (o57 - 1))) rfl (w_end (q_blk (q_then ?_)))
       obtain rfl := sj h
       exact ⟨_, rfl, _, σ109, fr_join ⟨rfl, rfl, rfl, rfl, trivial⟩, rfl, H.sel' [0] rfl rfl, ((List.length_set.trans (List.length_set.trans (hn28.trans (List.length_set.trans List.length_set)))).trans (List.length_set.trans List.length_set).symm)⟩
  ·clear hj
   have h := h'
   clear h' H
   rintro e a w ⟨rfl, ρ, σ110, rfl, rfl, H, hn111⟩
   refine q_then (c_seq (rg (sm (I o25.2) rfl (sa (I o25.2) rfl (w_end (q_then (c_ret ?_)))))))
   obtain rfl := sj h
   exact fin_ret (v := (I o25.2)) (results_ok Tryz.results184 (res_tmp (v := (I o25.2)) rfl res_nil) rfl) ⟨rfl, rfl, (hn111.trans (List.length_set.trans List.length_set))⟩ (H.sel' [0] rfl rfl)

end Go.Vs
