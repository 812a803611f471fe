/- The functions compute what their models say. -/
import Derived.Test.YtjmaadoeholmiabGreatKReachedFromMoreC2
set_option linter.unusedVariables false
set_option linter.unusedSimpArgs false
set_option maxRecDepth 20000
namespace Go.Vs
open Go Go.Proofs
attribute [local irreducible] Code.wp Code.wpIn wpList wpListIn wpQuiet Calls CallsIn

theorem c_impl_distanceOf {Bu : Int} {Cj : List Int} (Ck : Cj.length = 4) {r : Int} (h : M.impl_distanceOf Bu Cj = some r) :
    Cal2 Tryz.prog 99 [(I Bu), (.agg (List.map I Cj).toArray)] [] (fun n0 v L => v = (I r) ∧ L = []) := by
 refine cal2 (n := 38) Tryz.func99 rfl rfl rfl rfl ?_
 intro S0 σ0 n0 hn0 H
 unfold M.impl_distanceOf at h
 refine c_seq (rg (st_ex (ex_box (cs := (List.map I Cj)) H hn0 rfl rfl) wn ?_))
 rintro _ σ2 ⟨b1, rfl, H, -⟩
 refine sa (I 0) rfl (w_end (q_then (c_seq (rg (sa (I 0) rfl (w_end (q_then (c_seq (c_seq (rg ?_))))))))))
 have hc3 := H.cells 0 rfl
 refine st (v := (.agg (List.map I Cj).toArray)) (rv_load (cs := (List.map I Cj)) Tryz.underlying112 rfl ti112 rfl (by rw [List.length_map]; exact Ck) hc3) ?_
 refine sm (I 0) rfl (w_end (q_then ?_))
 obtain ⟨o4, hj, h'⟩ := bind_some h
 clear h
 refine c_cut (fun e a w => (∃ t, o4 = (.inl t) ∧ e = .normal ∧ ∃ (ρ : Nat → Value) (σ : St), a = fr 38 (updL ρ [(5, (I t))]) ∧ w = σ.w ∧ Hp S0 σ0 σ []) ∨ (∃ t, o4 = (.inr t) ∧ e = .ret ∧ ∃ (ρ : Nat → Value) (σ : St), a = fr 38 (updL ρ [(4, (I t))]) ∧ w = σ.w ∧ Hp S0 σ0 σ [])) ?_ ?_
 ·clear h'
  rename _ = some o4 => h
  refine c_blk (wp_loopM _ h (fun s5 a w => ∃ (ρ : Nat → Value) (σ : St), a = fr 38 (updL ρ [(0, (I Bu)), (5, (I s5.1)), (8, (.agg (List.map I Cj).toArray)), (9, (I s5.2))]) ∧ w = σ.w ∧ Hp S0 σ0 σ []) ⟨_, σ2, fr_join ⟨rfl, rfl, rfl, rfl, trivial⟩, rfl, H.sel' [] rfl rfl⟩ ?_)
  clear h H
  rintro s5 a w o ⟨ρ, σ6, rfl, rfl, H⟩ h hres
  refine c_seq (rg (st (v := (B (decide (s5.2 < 4)))) (rv_lss (a := s5.2) (b := 4) rfl rfl) (w_end (q_then (c_seq ?_)))))
  refine cd_cond (decide (s5.2 < 4)) rfl (fun hb7 => ?_) (fun hb7 => ?_)
  ·replace h := bif_t hb7 h
   refine c_skip (q_then (c_seq ?_))
   obtain ⟨o8, hj, h'⟩ := bind_some h
   clear h
   refine c_cut (fun e a w => (∃ t, o8 = (.inl t) ∧ e = .normal ∧ ∃ (ρ : Nat → Value) (σ : St), a = fr 38 (updL ρ [(0, (I Bu)), (5, (I t)), (8, (.agg (List.map I Cj).toArray)), (9, (I s5.2))]) ∧ w = σ.w ∧ Hp S0 σ0 σ []) ∨ (∃ t, o8 = (.inr t) ∧ e = .ret ∧ ∃ (ρ : Nat → Value) (σ : St), a = fr 38 (updL ρ [(4, (I t))]) ∧ w = σ.w ∧ Hp S0 σ0 σ [])) ?_ ?_
   ·clear h'
    rename _ = some o8 => h
    refine c_blk (c_seq (rg ?_))
    revert h; refine br fun x9 hx10 h => ?_
    refine st (v := (I x9)) (rv_idx Tryz.underlying112 ti3 Tryz.underlying3 rfl rfl hx10 Ck) (sa (I x9) rfl (w_end (q_then (c_seq (rg (sm (I Bu) rfl (w_end (q_then (c_blk (c_seq (rg ?_)))))))))))
    refine st (v := (B (Bu == 1))) (rv_eql (a := Bu) (b := 1) rfl rfl) (sa (B (Bu == 1)) rfl (w_end (q_then ?_)))
    refine cd_cond (Bu == 1) rfl (fun hb11 => ?_) (fun hb11 => ?_)
    ·replace h := bif_t hb11 h
     refine rg (sm (I s5.1) rfl (sm (I x9) rfl (st (v := (I (w64 (s5.1 + x9)))) (rv_add (a := s5.1) (b := x9) rfl rfl) (sa (I (w64 (s5.1 + x9))) rfl (w_end (q_blk (q_blk ?_)))))))
     obtain rfl := sj h
     exact .inl ⟨_, rfl, rfl, _, σ6, fr_join ⟨rfl, rfl, rfl, rfl, trivial⟩, rfl, H.sel' [] rfl rfl⟩
    ·replace h := bif_f hb11 h
     refine c_seq (rg (st (v := (B (Bu == 2))) (rv_eql (a := Bu) (b := 2) rfl rfl) (sa (B (Bu == 2)) rfl (w_end (q_then ?_)))))
     refine cd_cond (Bu == 2) rfl (fun hb12 => ?_) (fun hb12 => ?_)
     ·replace h := bif_t hb12 h
      refine rg (sm (I s5.1) rfl (sm (I x9) rfl (st (v := (I (max s5.1 x9))) (rv_max rfl rfl) (sa (I (max s5.1 x9)) rfl (w_end (q_blk (q_blk ?_)))))))
      obtain rfl := sj h
      exact .inl ⟨_, rfl, rfl, _, σ6, fr_join ⟨rfl, rfl, rfl, rfl, trivial⟩, rfl, H.sel' [] rfl rfl⟩
     ·replace h := bif_f hb12 h
      refine c_seq (rg (st (v := (B (Bu == 3))) (rv_eql (a := Bu) (b := 3) rfl rfl) (sa (B (Bu == 3)) rfl (w_end (q_then ?_)))))
      refine cd_cond (Bu == 3) rfl (fun hb13 => ?_) (fun hb13 => ?_)
      ·replace h := bif_t hb13 h
       refine rg (sm (I s5.1) rfl (sm (I x9) rfl (sm (I x9) rfl (st (v := (I (w64 (x9 * x9)))) (rv_mul (a := x9) (b := x9) rfl rfl) (st (v := (I (w64 (s5.1 + (w64 (x9 * x9)))))) (rv_add (a := s5.1) (b := (w64 (x9 * x9))) rfl rfl) (sa (I (w64 (s5.1 + (w64 (x9 * x9))))) rfl (w_end (q_blk (q_blk ?_)))))))))
       obtain rfl := sj h
       exact .inl ⟨_, rfl, rfl, _, σ6, fr_join ⟨rfl, rfl, rfl, rfl, trivial⟩, rfl, H.sel' [] rfl rfl⟩
      ·replace h := bif_f hb13 h
       refine c_seq (rg (st (v := (B (Bu == 4))) (rv_eql (a := Bu) (b := 4) rfl rfl) (sa (B (Bu == 4)) rfl (w_end (q_then ?_)))))
       refine cd_cond (Bu == 4) rfl (fun hb14 => ?_) (fun hb14 => ?_)
       ·replace h := bif_t hb14 h
        refine rg (sm (I s5.1) rfl (sm (I x9) rfl (st (v := (I (min x9 1))) (rv_min rfl rfl) (st (v := (I (w64 (s5.1 + (min x9 1))))) (rv_add (a := s5.1) (b := (min x9 1)) rfl rfl) (sa (I (w64 (s5.1 + (min x9 1)))) rfl (w_end (q_blk (q_blk ?_))))))))
        obtain rfl := sj h
        exact .inl ⟨_, rfl, rfl, _, σ6, fr_join ⟨rfl, rfl, rfl, rfl, trivial⟩, rfl, H.sel' [] rfl rfl⟩
       ·replace h := bif_f hb14 h
        refine c_seq (rg (sa (I (-1)) rfl (w_end (q_then (c_ret (q_blk_r (q_blk_r ?_)))))))
        obtain rfl := sj h
        exact .inr (⟨_, rfl, rfl, _, σ6, fr_join ⟨rfl, trivial⟩, rfl, H.sel' [] rfl rfl⟩)
   ·clear hj
    have h := h'
    clear h' H
    rintro e a w (⟨t15, rfl, rfl, ρ, σ16, rfl, rfl, H⟩ | ⟨t17, rfl, rfl, ρ, σ18, rfl, rfl, H⟩)
    ·replace h := selim_l h
     refine q_then (rg (st (v := (I (w64 (s5.2 + 1)))) (rv_add (a := s5.2) (b := 1) rfl rfl) (sm (I (w64 (s5.2 + 1))) rfl (w_end (q_then ?_)))))
     obtain rfl := sj h
     exact ⟨_, rfl, _, σ16, fr_join ⟨rfl, rfl, rfl, rfl, trivial⟩, rfl, H.sel' [] rfl rfl⟩
    ·replace h := selim_r h
     refine q_then_r (q_then_r (q_blk_r ?_))
     obtain rfl := sj h
     obtain rfl := hres _ rfl
     exact .inr (⟨_, rfl, rfl, _, σ18, fr_join ⟨rfl, trivial⟩, rfl, H.sel' [] rfl rfl⟩)
  ·replace h := bif_f hb7 h
   refine c_exit (q_then_x (q_then_x (q_blk_hit ?_)))
   obtain rfl := sj h
   obtain rfl := hres _ rfl
   exact .inl ⟨_, rfl, rfl, _, σ6, fr_join ⟨rfl, trivial⟩, rfl, H.sel' [] rfl rfl⟩
 ·clear hj
  have h := h'
  clear h' H
  rintro e a w (⟨t19, rfl, rfl, ρ, σ20, rfl, rfl, H⟩ | ⟨t21, rfl, rfl, ρ, σ22, rfl, rfl, H⟩)
  ·replace h := selim_l h
   refine q_then (c_seq (rg (sm (I t19) rfl (sa (I t19) rfl (w_end (q_then (c_ret ?_)))))))
   obtain rfl := sj h
   exact fin_ret (v := (I t19)) (results_ok Tryz.results99 (res_tmp (v := (I t19)) rfl res_nil) rfl) ⟨rfl, rfl⟩ (H.sel' [] rfl rfl)
  ·replace h := selim_r h
   refine q_then_r ?_
   obtain rfl := sj h
   exact fin_ret (v := (I t21)) (results_ok Tryz.results99 (res_tmp (v := (I t21)) rfl res_nil) rfl) ⟨rfl, rfl⟩ (H.sel' [] rfl rfl)

theorem c_impl_Distance {Bu : Int} {Cl : List Int} {Cm : List Int} {Cn : Option Addr} {Cp : Nat} {Cq : Option Addr} {Cr : Nat} {r : Int} (h : M.impl_Distance Bu Cl Cm = some r) :
    Cal2 Tryz.prog 70 [(I Bu), (Sl Cn Cl Cp), (Sl Cq Cm Cr)] [Ch.ro 0 (Sl Cn Cl Cp) Cl, Ch.ro 0 (Sl Cq Cm Cr) Cm] (fun n0 v L => v = (I r) ∧ L = []) := by
 refine cal2 (n := 24) Tryz.func70 rfl rfl rfl rfl ?_
 intro S0 σ0 n0 hn0 H
 unfold M.impl_Distance at h
 refine c_seq (rg (sa (I 0) rfl (w_end (q_then (c_seq (c_seq ?_))))))
 obtain ⟨o1, hj, h'⟩ := bind_some h
 clear h
 refine c_cut (fun e a w => e = .normal ∧ ∃ (ρ : Nat → Value) (σ : St), a = fr 24 (updL ρ [(0, (I Bu)), (1, (Sl Cn Cl Cp)), (2, (Sl Cq Cm Cr)), (14, (B o1))]) ∧ w = σ.w ∧ Hp S0 σ0 σ [Ch.ro 0 (Sl Cn Cl Cp) Cl, Ch.ro 0 (Sl Cq Cm Cr) Cm]) ?_ ?_
 ·clear h'
  rename _ = some o1 => h
  refine rg (sm (Sl Cn Cl Cp) rfl ?_)
  revert h; refine br fun r2 hx3 h => ?_
  have hc4 := c_impl_ValidVector (Bh := Cn) (Bi := Cp) hx3
  refine st_call (cx_call hc4 (ent_f hc4.fn rfl) hn0 (H.sel' [0, 0, 1] rfl rfl : Hp S0 σ0 _ ([_] ++ _))) wn ?_
  rintro _ σ5 ⟨_, ⟨rfl, rfl⟩, H, -⟩
  replace H : Hp _ _ _ [_, _] := H
  refine st (v := (B (!r2))) (rv_not rfl) (sm (B (!r2)) rfl ?_)
  rcases Bool.eq_false_or_eq_true (!r2) with hb6 | hb6
  ·replace h := bif_t hb6 h
   refine st_skip (congrArg some hb6) (st_skip (congrArg some hb6) (st_skip (congrArg some hb6) (st (v := (B true)) (rv_pick_t (congrArg B hb6) rfl) (w_end ?_))))
   obtain rfl := sj h
   exact ⟨rfl, _, σ5, fr_join ⟨rfl, rfl, rfl, rfl, trivial⟩, rfl, H.sel' [0, 1] rfl rfl⟩
  ·replace h := bif_f hb6 h
   refine st_g (v := (Sl Cq Cm Cr)) (congrArg some hb6) (rv_move rfl) ?_
   revert h; refine br fun r7 hx8 h => ?_
   have hc9 := c_impl_ValidVector (Bh := Cq) (Bi := Cr) hx8
   refine st_call (cx_call hc9 (ent_f hc9.fn rfl) hn0 (H.sel' [1, 0, 1] rfl rfl : Hp S0 σ0 _ ([_] ++ _))) (wanted_yes rfl (by exact (congrArg some hb6))) ?_
   rintro _ σ10 ⟨_, ⟨rfl, rfl⟩, H, -⟩
   replace H : Hp _ _ _ [_, _] := H
   refine st_g (v := (B (!r7))) (congrArg some hb6) (rv_not rfl) (st (v := (B (!r7))) (rv_pick_f (congrArg B hb6) rfl) (w_end ?_))
   obtain rfl := sj h
   exact ⟨rfl, _, σ10, fr_join ⟨rfl, rfl, rfl, rfl, trivial⟩, rfl, H.sel' [0, 1] rfl rfl⟩
 ·clear hj
  have h := h'
  clear h' H
  rintro e a w ⟨rfl, ρ, σ11, rfl, rfl, H⟩
  refine q_then ?_
  refine cd_cond o1 rfl (fun hb12 => ?_) (fun hb12 => ?_)
  ·replace h := bif_t hb12 h
   refine c_seq (rg (sa (I (-1)) rfl (w_end (q_then (c_ret (q_then_r ?_))))))
   obtain rfl := sj h
   exact fin_ret (v := (I (-1))) (results_ok Tryz.results70 (res_tmp (v := (I (-1))) rfl res_nil) rfl) ⟨rfl, rfl⟩ (H.sel' [] rfl rfl)
  ·replace h := bif_f hb12 h
   refine c_skip (q_then (c_seq ?_))
   revert h; refine br fun xs13 hx14 h => ?_
   obtain ⟨hl18, hq19⟩ := garr_some hx14
   clear hx14 hq19
   obtain ⟨b15, o16, rfl, hc17⟩ := (H.ro 0 rfl).arr (Nat.lt_of_lt_of_le (by decide) hl18)
   revert h; refine br fun xs20 hx21 h => ?_
   obtain ⟨hl25, hq26⟩ := garr_some hx21
   clear hx21 hq26
   obtain ⟨b22, o23, rfl, hc24⟩ := (H.ro 1 rfl).arr (Nat.lt_of_lt_of_le (by decide) hl25)
   revert h; refine br fun r27 hx28 h => ?_
   have hc29 := c_impl_gapsOf (by rw [List.length_take]; have := hl18; omega) (by rw [List.length_take]; have := hl25; omega) hx28
   have Hs := H
   refine rg2 (σ := σ11) (Nm := Unit) 8 [7] [[false], [true]] [[(0, 0), (1, 1)], [(0, 0)], [(0, 0)], [(0, 0)], [(0, 0)], [(0, 0)], [(0, 0)], [(0, 1)]] 1 [fun _ => fun σm => Hp S0 σ0 σm [Ch.ro 0 (Sl (some ⟨b15, o16, none⟩) Cl Cp) Cl, Ch.ro 0 (Sl (some ⟨b22, o23, none⟩) Cm Cr) Cm] ∧ Md (cov []) σ11 σm, fun _ => fun σm => Hp S0 σ0 σm [Ch.ro 0 (Sl (some ⟨b15, o16, none⟩) Cl Cp) Cl, Ch.ro 0 (Sl (some ⟨b22, o23, none⟩) Cm Cr) Cm] ∧ Md (cov []) σ11 σm ∧ r27.length = 4] [fun _ => (I Bu), fun _ => (Sl (some ⟨b15, o16, none⟩) Cl Cp), fun _ => (.pointer (some ⟨b15, o16, none⟩)), fun _ => (.agg (List.map I (List.take 4 Cl)).toArray), fun _ => (Sl (some ⟨b22, o23, none⟩) Cm Cr), fun _ => (.pointer (some ⟨b22, o23, none⟩)), fun _ => (.agg (List.map I (List.take 4 Cm)).toArray), fun _ => (.agg (List.map I r27).toArray)] () (by kernel_rfl) (by kernel_rfl) ?_ ?_ ?_
   ·intro σm m0
    exact ⟨H.grow (m0.mono fun _ h => h.elim), m0⟩
   ·refine ac rfl (by
      intro k _nm ρ σm hJ hoff hdep
      have e0 := look_off (N := 24) (hoff 0 rfl) rfl
      exact dp_v (v := (I Bu)) wn (rv_move e0) rfl hJ) ?_
    refine ac rfl (by
      intro k _nm ρ σm hJ hoff hdep
      have e1 := look_off (N := 24) (hoff 1 rfl) rfl
      exact dp_v (v := (Sl (some ⟨b15, o16, none⟩) Cl Cp)) wn (rv_move e1) rfl hJ) ?_
    refine ac rfl (by
      intro k _nm ρ σm hJ hoff hdep
      have e16 := hdep 1 rfl rfl 16 rfl
      exact dp_v (v := (.pointer (some ⟨b15, o16, none⟩))) wn (rv_arrPtr Tryz.underlying112 e16 hl18) rfl hJ) ?_
    refine all_cons (by
      refine ⟨?_, ?_⟩
      ·intro _nm ρ σm hJ hoff hdep
       have e17 := hdep 2 rfl rfl 17 rfl
       obtain ⟨H, m⟩ := id hJ
       replace hc17 := (Hs.ro 0 rfl).arr_md hc17 m
       exact dp_v (v := (.agg (List.map I (List.take 4 Cl)).toArray)) wn (rv_load (cs := List.map I (List.take 4 Cl)) Tryz.underlying112 rfl ti112 e17 (by rw [List.length_map, List.length_take]; have := hl18; omega) (arr_take hc17)) rfl hJ
      trivial) ?_
    refine ac rfl (by
      intro k _nm ρ σm hJ hoff hdep
      have e2 := look_off (N := 24) (hoff 2 rfl) rfl
      exact dp_v (v := (Sl (some ⟨b22, o23, none⟩) Cm Cr)) wn (rv_move e2) rfl hJ) ?_
    refine ac rfl (by
      intro k _nm ρ σm hJ hoff hdep
      have e19 := hdep 4 rfl rfl 19 rfl
      exact dp_v (v := (.pointer (some ⟨b22, o23, none⟩))) wn (rv_arrPtr Tryz.underlying112 e19 hl25) rfl hJ) ?_
    refine all_cons (by
      refine ⟨?_, ?_⟩
      ·intro _nm ρ σm hJ hoff hdep
       have e20 := hdep 5 rfl rfl 20 rfl
       obtain ⟨H, m⟩ := id hJ
       replace hc24 := (Hs.ro 1 rfl).arr_md hc24 m
       exact dp_v (v := (.agg (List.map I (List.take 4 Cm)).toArray)) wn (rv_load (cs := List.map I (List.take 4 Cm)) Tryz.underlying112 rfl ti112 e20 (by rw [List.length_map, List.length_take]; have := hl25; omega) (arr_take hc24)) rfl hJ
      trivial) ?_
    refine all_cons (by
      refine ⟨?_, ?_⟩
      ·intro _nm ρ σm hJ hoff hdep
       have e18 : look 24 ρ 18 = (.agg (List.map I (List.take 4 Cl)).toArray) := hdep 3 rfl rfl 18 rfl
       have e21 : look 24 ρ 21 = (.agg (List.map I (List.take 4 Cm)).toArray) := hdep 6 rfl rfl 21 rfl
       obtain ⟨H, m⟩ := id hJ
       refine dp_cx wn (cx_call hc29 (ent_f hc29.fn (by show [look 24 ρ 18, look 24 ρ 21] = _; rw [e18, e21])) hn0 (H.sel' [0, 1] rfl rfl : Hp S0 σ0 _ ([] ++ _))) ?_
       rintro _ σq ⟨_, ⟨rfl, rfl, hl30⟩, H2, m2⟩
       exact ⟨_, (), rfl, rfl, ⟨H2.sel' [0, 1] rfl rfl, m.comp0 m2, hl30⟩, stab [0, 1, 2, 3, 4, 5, 6] (by kernel_rfl) ⟨rfl, rfl, rfl, rfl, rfl, rfl, rfl, trivial⟩⟩
      trivial) ?_
    exact all_nil
   ·intro _nm ρ σ31 hJ hoff hrel
    have e15 := hrel 0 rfl 15 rfl
    have e22 := hrel 7 rfl 22 rfl
    obtain ⟨H, -, hl30⟩ := (show Hp S0 σ0 σ31 [Ch.ro 0 (Sl (some ⟨b15, o16, none⟩) Cl Cp) Cl, Ch.ro 0 (Sl (some ⟨b22, o23, none⟩) Cm Cr) Cm] ∧ Md (cov []) σ11 σ31 ∧ r27.length = 4 from hJ)
    clear hJ Hs
    rw [fr_lookL (L := [(15, (I Bu)), (22, (.agg (List.map I r27).toArray))]) ⟨e15, e22, trivial⟩]
    clear hoff hrel e15 e22
    revert h; refine br fun r32 hx33 h => ?_
    have hc34 := c_impl_distanceOf hl30 hx33
    refine st_call (cx_call hc34 (ent_f hc34.fn rfl) hn0 (H.sel' [0, 1] rfl rfl : Hp S0 σ0 _ ([] ++ _))) wn ?_
    rintro _ σ35 ⟨_, ⟨rfl, rfl⟩, H, -⟩
    replace H : Hp _ _ _ [_, _] := H
    refine sa (I r32) rfl (w_end (q_then (c_ret ?_)))
    obtain rfl := sj h
    exact fin_ret (v := (I r32)) (results_ok Tryz.results70 (res_tmp (v := (I r32)) rfl res_nil) rfl) ⟨rfl, rfl⟩ (H.sel' [] rfl rfl)

theorem c_impl_hitOf {Bj : Int × (List Int) × Int} {Bv : Int} {Cs : List Int} {Bk : Option Addr} {Bl : Nat} {Ct : Option Addr} {Cu : Nat} {r : (Int × Int)} (h : M.impl_hitOf Bj Bv Cs = some r) :
    Cal2 Tryz.prog 49 [(.agg #[(I Bj.1), (Sl Bk Bj.2.1 Bl), (I Bj.2.2)]), (I Bv), (Sl Ct Cs Cu)] [Ch.ro 0 (Sl Bk Bj.2.1 Bl) Bj.2.1, Ch.ro 0 (Sl Ct Cs Cu) Cs] (fun n0 v L => v = (.agg #[(I r.1), (I r.2)]) ∧ L = []) := by
 refine cal2 (n := 15) Tryz.func49 rfl rfl rfl rfl ?_
 intro S0 σ0 n0 hn0 H
 unfold M.impl_hitOf at h
 refine c_seq (rg (st_ex (ex_box (cs := [(I Bj.1), (Sl Bk Bj.2.1 Bl), (I Bj.2.2)]) H hn0 rfl rfl) wn ?_))
 rintro _ σ2 ⟨b1, rfl, H, -⟩
 refine st_ex (ex_alloc (cs := [(I 0), (I 0)]) H hn0 ti37 rfl) wn ?_
 rintro _ σ4 ⟨b3, rfl, H, -⟩
 refine w_end (q_then (c_seq ?_))
 have hc5 := H.cell (u := (I Bj.1)) (o' := 0) 1 0 rfl rfl rfl
 have hc6 := H.cell (u := (Sl Bk Bj.2.1 Bl)) (o' := 1) 1 1 rfl rfl rfl
 revert h; refine br fun r7 hx8 h => ?_
 have hc9 := c_impl_Distance (Cn := Bk) (Cp := Bl) (Cq := Ct) (Cr := Cu) hx8
 have Hs := H
 refine rg2 (σ := σ4) (Nm := Unit) 7 [6] [[false], [true]] [[(0, 0), (1, 1)], [(0, 0), (1, 1)], [(0, 0)], [(0, 0)], [(0, 0)], [(0, 0)], [(0, 1)]] 1 [fun _ => fun σm => Hp S0 σ0 σm [Ch.bx n0 b3 0 [(I 0), (I 0)] [] [], Ch.bx n0 b1 0 [(I Bj.1), (Sl Bk Bj.2.1 Bl), (I Bj.2.2)] [] [], Ch.ro 0 (Sl Bk Bj.2.1 Bl) Bj.2.1, Ch.ro 0 (Sl Ct Cs Cu) Cs] ∧ Md (cov []) σ4 σm, fun _ => fun σm => Hp S0 σ0 σm [Ch.bx n0 b3 0 [(I 0), (I 0)] [] [], Ch.bx n0 b1 0 [(I Bj.1), (Sl Bk Bj.2.1 Bl), (I Bj.2.2)] [] [], Ch.ro 0 (Sl Bk Bj.2.1 Bl) Bj.2.1, Ch.ro 0 (Sl Ct Cs Cu) Cs] ∧ Md (cov []) σ4 σm] [fun _ => (pt b1 0), fun _ => (I Bj.1), fun _ => (I Bv), fun _ => (pt b1 1), fun _ => (Sl Bk Bj.2.1 Bl), fun _ => (Sl Ct Cs Cu), fun _ => (I r7)] () (by kernel_rfl) (by kernel_rfl) ?_ ?_ ?_
 ·intro σm m0
  exact ⟨H.grow (m0.mono fun _ h => h.elim), m0⟩
 ·refine ac rfl (by
    intro k _nm ρ σm hJ hoff hdep
    have e3 := look_off (N := 15) (hoff 3 rfl) rfl
    exact dp_v (v := (pt b1 0)) wn (rv_fieldAddr (off := 0) (ft := 3) Tryz.underlying34 rfl ti3 rfl e3) rfl hJ) ?_
  refine all_cons (by
    refine ⟨?_, ?_⟩
    ·intro _nm ρ σm hJ hoff hdep
     have e7 := hdep 0 rfl rfl 7 rfl
     obtain ⟨H, m⟩ := id hJ
     have hc5 := H.cell (u := (I Bj.1)) (o' := 0) 1 0 rfl rfl rfl
     exact dp_v (v := (I Bj.1)) wn (rv_load1 Tryz.underlying3 rfl e7 hc5) rfl hJ
    refine ⟨?_, ?_⟩
    ·intro _nm ρ σm hJ hoff hdep
     have e7 := hdep 0 rfl rfl 7 rfl
     obtain ⟨H, m⟩ := id hJ
     have hc5 := H.cell (u := (I Bj.1)) (o' := 0) 1 0 rfl rfl rfl
     exact dp_v (v := (I Bj.1)) wn (rv_load1 Tryz.underlying3 rfl e7 hc5) rfl hJ
    trivial) ?_
  refine ac rfl (by
    intro k _nm ρ σm hJ hoff hdep
    have e1 := look_off (N := 15) (hoff 1 rfl) rfl
    exact dp_v (v := (I Bv)) wn (rv_move e1) rfl hJ) ?_
  refine ac rfl (by
    intro k _nm ρ σm hJ hoff hdep
    have e3 := look_off (N := 15) (hoff 3 rfl) rfl
    exact dp_v (v := (pt b1 1)) wn (rv_fieldAddr (off := 1) (ft := 26) Tryz.underlying34 rfl ti26 rfl e3) rfl hJ) ?_
  refine all_cons (by
    refine ⟨?_, ?_⟩
    ·intro _nm ρ σm hJ hoff hdep
     have e10 := hdep 3 rfl rfl 10 rfl
     obtain ⟨H, m⟩ := id hJ
     have hc6 := H.cell (u := (Sl Bk Bj.2.1 Bl)) (o' := 1) 1 1 rfl rfl rfl
     exact dp_v (v := (Sl Bk Bj.2.1 Bl)) wn (rv_load1 Tryz.underlying26 rfl e10 hc6) rfl hJ
    trivial) ?_
  refine ac rfl (by
    intro k _nm ρ σm hJ hoff hdep
    have e2 := look_off (N := 15) (hoff 2 rfl) rfl
    exact dp_v (v := (Sl Ct Cs Cu)) wn (rv_move e2) rfl hJ) ?_
  refine all_cons (by
    refine ⟨?_, ?_⟩
    ·intro _nm ρ σm hJ hoff hdep
     have e9 : look 15 ρ 9 = (I Bv) := hdep 2 rfl rfl 9 rfl
     have e11 : look 15 ρ 11 = (Sl Bk Bj.2.1 Bl) := hdep 4 rfl rfl 11 rfl
     have e12 : look 15 ρ 12 = (Sl Ct Cs Cu) := hdep 5 rfl rfl 12 rfl
     obtain ⟨H, m⟩ := id hJ
     refine dp_cx wn (cx_call hc9 (ent_f hc9.fn (by show [look 15 ρ 9, look 15 ρ 11, look 15 ρ 12] = _; rw [e9, e11, e12])) hn0 (H.sel' [2, 3, 0, 1, 2, 3] rfl rfl : Hp S0 σ0 _ ([_, _] ++ _))) ?_
     rintro _ σq ⟨_, ⟨rfl, rfl⟩, H2, m2⟩
     exact ⟨_, (), rfl, rfl, ⟨H2.sel' [0, 1, 2, 3] rfl rfl, m.comp0 (m2.mono (fun i h => by simp [cov, Ch.ro] at h))⟩, stab [0, 1, 2, 3, 4, 5] (by kernel_rfl) ⟨rfl, rfl, rfl, rfl, rfl, rfl, trivial⟩⟩
    trivial) ?_
  exact all_nil
 ·intro _nm ρ σ10 hJ hoff hrel
  have e6 := look_off (N := 15) (hoff 6 rfl) rfl
  have e8 := hrel 1 rfl 8 rfl
  have e13 := hrel 6 rfl 13 rfl
  obtain ⟨H, -⟩ := (show Hp S0 σ0 σ10 [Ch.bx n0 b3 0 [(I 0), (I 0)] [] [], Ch.bx n0 b1 0 [(I Bj.1), (Sl Bk Bj.2.1 Bl), (I Bj.2.2)] [] [], Ch.ro 0 (Sl Bk Bj.2.1 Bl) Bj.2.1, Ch.ro 0 (Sl Ct Cs Cu) Cs] ∧ Md (cov []) σ4 σ10 from hJ)
  clear hJ Hs
  rw [fr_lookL (L := [(6, (pt b3 0)), (8, (I Bj.1)), (13, (I r7))]) ⟨e6, e8, e13, trivial⟩]
  clear hoff hrel e6 e8 e13
  refine st (v := (.agg #[(I Bj.1), (I r7)])) (rv_build (ps := [(0, (I Bj.1)), (1, (I r7))]) Tryz.underlying37 ti37 (bp37 Tryz.underlying37) rfl (by kernel_rfl)) ?_
  refine st_exS (ex_store_box (k := 0) (cs := [(I 0), (I 0)]) (vs := [(I Bj.1), (I r7)]) (cs' := [(I Bj.1), (I r7)]) H (i := 0) rfl ti37 rfl rfl rfl rfl rfl (Nat.le_of_ble_eq_true rfl) (by simp [plain]) rfl) wn ?_
  rintro σ11 ⟨H, -⟩
  refine w_end (q_then (c_ret ?_))
  obtain rfl := sj h
  exact fin_ret (v := (.agg #[(I Bj.1), (I r7)])) (results_ok Tryz.results49 (res_cell rfl (run_cellRes (cs := [(I Bj.1), (I r7)]) Tryz.underlying37 rfl ti37 rfl (H.cells 0 rfl)) res_nil) rfl) ⟨rfl, rfl⟩ (H.sel' [] rfl rfl)

theorem c_cmp_Or_int {Cv : List Int} {Cw : Option Addr} {Cy : Nat} {r : Int} (h : M.cmp_Or_int Cv = some r) :
    Cal2 Tryz.prog 88 [(Sl Cw Cv Cy)] [Ch.ro 0 (Sl Cw Cv Cy) Cv] (fun n0 v L => v = (I r) ∧ L = []) := by
 refine cal2 (n := 18) Tryz.func88 rfl rfl rfl rfl ?_
 intro S0 σ0 n0 hn0 H
 unfold M.cmp_Or_int at h
 refine c_seq (rg (sa (I 0) rfl (w_end (q_then (c_seq (rg (sa (I 0) rfl (w_end (q_then (c_seq (c_seq ?_)))))))))))
 refine rg (sm (Sl Cw Cv Cy) rfl (st (v := (I (Cv.length : Int))) (rv_len Tryz.underlying26 rfl) (sm (I 0) rfl (w_end (q_then ?_)))))
 obtain ⟨o1, hj, h'⟩ := bind_some h
 clear h
 refine c_cut (fun e a w => (∃ t, o1 = (.inl t) ∧ e = .normal ∧ ∃ (ρ : Nat → Value) (σ : St), a = fr 18 (updL ρ [(3, (I 0))]) ∧ w = σ.w ∧ Hp S0 σ0 σ []) ∨ (∃ t, o1 = (.inr t) ∧ e = .ret ∧ ∃ (ρ : Nat → Value) (σ : St), a = fr 18 (updL ρ [(2, (I t))]) ∧ w = σ.w ∧ Hp S0 σ0 σ [])) ?_ ?_
 ·clear h'
  rename _ = some o1 => h
  refine c_blk (wp_loopM _ h (fun s2 a w => ∃ (ρ : Nat → Value) (σ : St), a = fr 18 (updL ρ [(3, (I 0)), (6, (Sl Cw Cv Cy)), (7, (I (Cv.length : Int))), (8, (I s2))]) ∧ w = σ.w ∧ Hp S0 σ0 σ [Ch.ro 0 (Sl Cw Cv Cy) Cv]) ⟨_, σ0, fr_join ⟨rfl, rfl, rfl, rfl, trivial⟩, rfl, H.sel' [0] rfl rfl⟩ ?_)
  clear h H
  rintro s2 a w o ⟨ρ, σ3, rfl, rfl, H⟩ h hres
  refine c_seq (rg (st (v := (B (decide (s2 < (Cv.length : Int))))) (rv_lss (a := s2) (b := (Cv.length : Int)) rfl rfl) (w_end (q_then (c_seq ?_)))))
  refine cd_cond (decide (s2 < (Cv.length : Int))) rfl (fun hb4 => ?_) (fun hb4 => ?_)
  ·replace h := bif_t hb4 h
   refine c_skip (q_then (c_seq (c_blk (c_seq (rg ?_)))))
   revert h; refine br fun x5 hx6 h => ?_
   obtain ⟨b8, o9, hi7, -⟩ := (H.ro 0 rfl).ix hx6
   refine st (v := (pt b8 o9)) (rv_ix Tryz.underlying26 ti3 rfl rfl hi7) ?_
   have hc10 := ((H.ro 0 rfl).at hx6 hi7).int
   refine st (v := (I x5)) (rv_load1 Tryz.underlying3 rfl rfl hc10) (sa (I x5) rfl (w_end (q_then (c_seq (rg (sm (I x5) rfl (sm (I 0) rfl (st (v := (B (x5 != 0))) (rv_neq (a := x5) (b := 0) rfl rfl) (w_end (q_then ?_))))))))))
   refine cd_cond (x5 != 0) rfl (fun hb11 => ?_) (fun hb11 => ?_)
   ·replace h := bif_t hb11 h
    refine c_seq (rg (sm (I x5) rfl (sa (I x5) rfl (w_end (q_then (c_ret (q_blk_r (q_then_r (q_then_r (q_blk_r ?_))))))))))
    obtain rfl := sj h
    obtain rfl := hres _ rfl
    exact .inr (⟨_, rfl, rfl, _, σ3, fr_join ⟨rfl, trivial⟩, rfl, H.sel' [] rfl rfl⟩)
   ·replace h := bif_f hb11 h
    refine c_skip (q_blk (q_then (rg (st (v := (I (w64 (s2 + 1)))) (rv_add (a := s2) (b := 1) rfl rfl) (sm (I (w64 (s2 + 1))) rfl (w_end (q_then ?_)))))))
    obtain rfl := sj h
    exact ⟨_, rfl, _, σ3, fr_join ⟨rfl, rfl, rfl, rfl, trivial⟩, rfl, H.sel' [0] rfl rfl⟩
  ·replace h := bif_f hb4 h
   refine c_exit (q_then_x (q_then_x (q_blk_hit ?_)))
   obtain rfl := sj h
   obtain rfl := hres _ rfl
   exact .inl ⟨_, rfl, rfl, _, σ3, fr_join ⟨rfl, trivial⟩, rfl, H.sel' [] rfl rfl⟩
 ·clear hj
  have h := h'
  clear h' H
  rintro e a w (⟨t12, rfl, rfl, ρ, σ13, rfl, rfl, H⟩ | ⟨t14, rfl, rfl, ρ, σ15, rfl, rfl, H⟩)
  ·replace h := selim_l h
   refine q_then (c_seq (rg (sm (I 0) rfl (sa (I 0) rfl (w_end (q_then (c_ret ?_)))))))
   obtain rfl := sj h
   exact fin_ret (v := (I 0)) (results_ok Tryz.results88 (res_tmp (v := (I 0)) rfl res_nil) rfl) ⟨rfl, rfl⟩ (H.sel' [] rfl rfl)
  ·replace h := selim_r h
   refine q_then_r ?_
   obtain rfl := sj h
   exact fin_ret (v := (I t14)) (results_ok Tryz.results88 (res_tmp (v := (I t14)) rfl res_nil) rfl) ⟨rfl, rfl⟩ (H.sel' [] rfl rfl)

theorem c_impl_compareHits {Aa : Int × Int} {Ac : Int × Int}  {r : Int} (h : M.impl_compareHits Aa Ac = some r) :
    Cal2 Tryz.prog 50 [(.agg #[(I Aa.1), (I Aa.2)]), (.agg #[(I Ac.1), (I Ac.2)])] [] (fun n0 v L => v = (I r) ∧ L = []) := by
 refine cal2 (n := 17) Tryz.func50 rfl rfl rfl rfl ?_
 intro S0 σ0 n0 hn0 H
 unfold M.impl_compareHits at h
 refine c_seq (rg (st_ex (ex_box (cs := [(I Aa.1), (I Aa.2)]) H hn0 rfl rfl) wn ?_))
 rintro _ σ2 ⟨b1, rfl, H, -⟩
 refine st_ex (ex_box (cs := [(I Ac.1), (I Ac.2)]) H hn0 rfl rfl) wn ?_
 rintro _ σ4 ⟨b3, rfl, H, -⟩
 refine sa (I 0) rfl (w_end (q_then (c_seq ?_)))
 have hc5 := H.cell (u := (I Aa.2)) (o' := 1) 1 1 rfl rfl rfl
 have hc6 := H.cell (u := (I Ac.2)) (o' := 1) 0 1 rfl rfl rfl
 revert h; refine br fun r7 hx8 h => ?_
 have hc9 := c_cmp_Compare_int hx8
 have hc10 := H.cell (u := (I Aa.1)) (o' := 0) 1 0 rfl rfl rfl
 have hc11 := H.cell (u := (I Ac.1)) (o' := 0) 0 0 rfl rfl rfl
 have Hs := H
 refine rg2 (σ := σ4) (Nm := Unit) 9 [4] [[false], [true]] [[(0, 0)], [(0, 0)], [(0, 0)], [(0, 0)], [(0, 1)], [(0, 0), (1, 1)], [(0, 0), (1, 1)], [(0, 0), (1, 1)], [(0, 0), (1, 1)]] 1 [fun _ => fun σm => Hp S0 σ0 σm [Ch.bx n0 b3 0 [(I Ac.1), (I Ac.2)] [] [], Ch.bx n0 b1 0 [(I Aa.1), (I Aa.2)] [] []] ∧ Md (cov []) σ4 σm, fun _ => fun σm => Hp S0 σ0 σm [Ch.bx n0 b3 0 [(I Ac.1), (I Ac.2)] [] [], Ch.bx n0 b1 0 [(I Aa.1), (I Aa.2)] [] []] ∧ Md (cov []) σ4 σm] [fun _ => (pt b1 1), fun _ => (I Aa.2), fun _ => (pt b3 1), fun _ => (I Ac.2), fun _ => (I r7), fun _ => (pt b1 0), fun _ => (I Aa.1), fun _ => (pt b3 0), fun _ => (I Ac.1)] () (by kernel_rfl) (by kernel_rfl) ?_ ?_ ?_
 ·intro σm m0
  exact ⟨H.grow (m0.mono fun _ h => h.elim), m0⟩
 ·refine ac rfl (by
    intro k _nm ρ σm hJ hoff hdep
    have e2 := look_off (N := 17) (hoff 2 rfl) rfl
    exact dp_v (v := (pt b1 1)) wn (rv_fieldAddr (off := 1) (ft := 3) Tryz.underlying37 rfl ti3 rfl e2) rfl hJ) ?_
  refine all_cons (by
    refine ⟨?_, ?_⟩
    ·intro _nm ρ σm hJ hoff hdep
     have e5 := hdep 0 rfl rfl 5 rfl
     obtain ⟨H, m⟩ := id hJ
     have hc5 := H.cell (u := (I Aa.2)) (o' := 1) 1 1 rfl rfl rfl
     exact dp_v (v := (I Aa.2)) wn (rv_load1 Tryz.underlying3 rfl e5 hc5) rfl hJ
    trivial) ?_
  refine ac rfl (by
    intro k _nm ρ σm hJ hoff hdep
    have e3 := look_off (N := 17) (hoff 3 rfl) rfl
    exact dp_v (v := (pt b3 1)) wn (rv_fieldAddr (off := 1) (ft := 3) Tryz.underlying37 rfl ti3 rfl e3) rfl hJ) ?_
  refine all_cons (by
    refine ⟨?_, ?_⟩
    ·intro _nm ρ σm hJ hoff hdep
     have e7 := hdep 2 rfl rfl 7 rfl
     obtain ⟨H, m⟩ := id hJ
     have hc6 := H.cell (u := (I Ac.2)) (o' := 1) 0 1 rfl rfl rfl
     exact dp_v (v := (I Ac.2)) wn (rv_load1 Tryz.underlying3 rfl e7 hc6) rfl hJ
    trivial) ?_
  refine all_cons (by
    refine ⟨?_, ?_⟩
    ·intro _nm ρ σm hJ hoff hdep
     have e6 : look 17 ρ 6 = (I Aa.2) := hdep 1 rfl rfl 6 rfl
     have e8 : look 17 ρ 8 = (I Ac.2) := hdep 3 rfl rfl 8 rfl
     obtain ⟨H, m⟩ := id hJ
     refine dp_cx wn (cx_call hc9 (ent_f hc9.fn (by show [look 17 ρ 6, look 17 ρ 8] = _; rw [e6, e8])) hn0 (H.sel' [0, 1] rfl rfl : Hp S0 σ0 _ ([] ++ _))) ?_
     rintro _ σq ⟨_, ⟨rfl, rfl⟩, H2, m2⟩
     exact ⟨_, (), rfl, rfl, ⟨H2.sel' [0, 1] rfl rfl, m.comp0 m2⟩, stab [0, 1, 2, 3, 5, 6, 7, 8] (by kernel_rfl) ⟨rfl, rfl, rfl, rfl, rfl, rfl, rfl, rfl, trivial⟩⟩
    trivial) ?_
  refine ac rfl (by
    intro k _nm ρ σm hJ hoff hdep
    have e2 := look_off (N := 17) (hoff 2 rfl) rfl
    exact dp_v (v := (pt b1 0)) wn (rv_fieldAddr (off := 0) (ft := 3) Tryz.underlying37 rfl ti3 rfl e2) rfl hJ) ?_
  refine all_cons (by
    refine ⟨?_, ?_⟩
    ·intro _nm ρ σm hJ hoff hdep
     have e10 := hdep 5 rfl rfl 10 rfl
     obtain ⟨H, m⟩ := id hJ
     have hc10 := H.cell (u := (I Aa.1)) (o' := 0) 1 0 rfl rfl rfl
     exact dp_v (v := (I Aa.1)) wn (rv_load1 Tryz.underlying3 rfl e10 hc10) rfl hJ
    refine ⟨?_, ?_⟩
    ·intro _nm ρ σm hJ hoff hdep
     have e10 := hdep 5 rfl rfl 10 rfl
     obtain ⟨H, m⟩ := id hJ
     have hc10 := H.cell (u := (I Aa.1)) (o' := 0) 1 0 rfl rfl rfl
     exact dp_v (v := (I Aa.1)) wn (rv_load1 Tryz.underlying3 rfl e10 hc10) rfl hJ
    trivial) ?_
  refine ac rfl (by
    intro k _nm ρ σm hJ hoff hdep
    have e3 := look_off (N := 17) (hoff 3 rfl) rfl
    exact dp_v (v := (pt b3 0)) wn (rv_fieldAddr (off := 0) (ft := 3) Tryz.underlying37 rfl ti3 rfl e3) rfl hJ) ?_
  refine all_cons (by
    refine ⟨?_, ?_⟩
    ·intro _nm ρ σm hJ hoff hdep
     have e12 := hdep 7 rfl rfl 12 rfl
     obtain ⟨H, m⟩ := id hJ
     have hc11 := H.cell (u := (I Ac.1)) (o' := 0) 0 0 rfl rfl rfl
     exact dp_v (v := (I Ac.1)) wn (rv_load1 Tryz.underlying3 rfl e12 hc11) rfl hJ
    refine ⟨?_, ?_⟩
    ·intro _nm ρ σm hJ hoff hdep
     have e12 := hdep 7 rfl rfl 12 rfl
     obtain ⟨H, m⟩ := id hJ
     have hc11 := H.cell (u := (I Ac.1)) (o' := 0) 0 0 rfl rfl rfl
     exact dp_v (v := (I Ac.1)) wn (rv_load1 Tryz.underlying3 rfl e12 hc11) rfl hJ
    trivial) ?_
  exact all_nil
 ·intro _nm ρ σ12 hJ hoff hrel
  have e9 := hrel 4 rfl 9 rfl
  have e11 := hrel 6 rfl 11 rfl
  have e13 := hrel 8 rfl 13 rfl
  obtain ⟨H, -⟩ := (show Hp S0 σ0 σ12 [Ch.bx n0 b3 0 [(I Ac.1), (I Ac.2)] [] [], Ch.bx n0 b1 0 [(I Aa.1), (I Aa.2)] [] []] ∧ Md (cov []) σ4 σ12 from hJ)
  clear hJ Hs
  rw [fr_lookL (L := [(9, (I r7)), (11, (I Aa.1)), (13, (I Ac.1))]) ⟨e9, e11, e13, trivial⟩]
  clear hoff hrel e9 e11 e13
  revert h; refine br fun r13 hx14 h => ?_
  have hc15 := c_cmp_Compare_int hx14
  refine st_call (cx_call hc15 (ent_f hc15.fn rfl) hn0 (H.sel' [0, 1] rfl rfl : Hp S0 σ0 _ ([] ++ _))) wn ?_
  rintro _ σ16 ⟨_, ⟨rfl, rfl⟩, H, -⟩
  replace H : Hp _ _ _ [_, _] := H
  refine st_ex (ex_buildSlice (el := n0) (xs := ([r7, r13] : List Int)) (ps := [(0, (I r7)), (1, (I r13))]) (cs := [(I r7), (I r13)]) H hn0 Tryz.underlying26 ti3 rfl rfl (by kernel_rfl) (.cons (c := [(I r7)]) rfl (.cons (c := [(I r13)]) rfl (.nil))) rfl) wn ?_
  rintro _ σ18 ⟨b17, rfl, H, -⟩
  obtain ⟨σ19, hw20, H, -⟩ := H.pub 0 rfl (Nat.le_refl _)
  rw [← hw20]; clear hw20
  replace H := H.roLow 0 0 rfl (Nat.zero_le _)
  revert h; refine br fun r21 hx22 h => ?_
  have hc23 := c_cmp_Or_int (Cw := (some ⟨b17, 0, none⟩)) (Cy := 2) hx22
  refine st_call (cx_call hc23 (ent_f hc23.fn rfl) hn0 (H.sel' [0, 0, 1, 2, 3] rfl rfl : Hp S0 σ0 _ ([_] ++ _))) wn ?_
  rintro _ σ24 ⟨_, ⟨rfl, rfl⟩, H, -⟩
  replace H : Hp _ _ _ [_, _, _, _] := H
  refine sa (I r21) rfl (w_end (q_then (c_ret ?_)))
  obtain rfl := sj h
  exact fin_ret (v := (I r21)) (results_ok Tryz.results50 (res_tmp (v := (I r21)) rfl res_nil) rfl) ⟨rfl, rfl⟩ (H.sel' [] rfl rfl)

theorem c_impl_sortByDistance_1__p3__p24 {Bj : Int × (List Int) × Int} {By : Int × (List Int) × Int} {Cz : Int} {Da : List Int} {Bk : Option Addr} {Bl : Nat} {Db : Option Addr} {Dc : Nat} {Dd De : Nat} {Dg Dh : Nat} {r : Int} (h : M.impl_sortByDistance_1__p3__p24 Bj By Cz Da = some r) :
    Cal2 Tryz.prog 108 [(.agg #[(I Bj.1), (Sl Bk Bj.2.1 Bl), (I Bj.2.2)]), (.agg #[(I By.1), (Sl Db By.2.1 Dc), (I By.2.2)]), (pt Dd De), (pt Dg Dh)] [Ch.ro 0 (Sl Bk Bj.2.1 Bl) Bj.2.1, Ch.ro 0 (Sl Db By.2.1 Dc) By.2.1, Ch.ro 0 (Sl (some ⟨Dd, De, none⟩) ([Cz] : List Int) 1) ([Cz] : List Int), Ch.ro 0 (Sl (some ⟨Dg, Dh, none⟩) ([Da] : List (List Int)) 1) ([Da] : List (List Int))] (fun n0 v L => v = (I r) ∧ L = []) := by
 refine cal2 (n := 16) Tryz.func108 rfl rfl rfl rfl ?_
 intro S0 σ0 n0 hn0 H
 unfold M.impl_sortByDistance_1__p3__p24 at h
 have hxp_2 : gidx ([Cz] : List Int) 0 = some Cz := rfl
 have hip_2 : Ix (Sl (some ⟨Dd, De, none⟩) ([Cz] : List Int) 1) 0 1 Dd De := ix_one
 have hxp_3 : gidx ([Da] : List (List Int)) 0 = some Da := rfl
 have hip_3 : Ix (Sl (some ⟨Dg, Dh, none⟩) ([Da] : List (List Int)) 1) 0 1 Dg Dh := ix_one
 refine c_seq (rg (st_ex (ex_box (cs := [(I Bj.1), (Sl Bk Bj.2.1 Bl), (I Bj.2.2)]) H hn0 rfl rfl) wn ?_))
 rintro _ σ2 ⟨b1, rfl, H, -⟩
 refine st_ex (ex_box (cs := [(I By.1), (Sl Db By.2.1 Dc), (I By.2.2)]) H hn0 rfl rfl) wn ?_
 rintro _ σ4 ⟨b3, rfl, H, -⟩
 refine sa (I 0) rfl (w_end (q_then (c_seq ?_)))
 have hc5 := H.cells 1 rfl
 have hc6 := ((H.ro 4 rfl).at hxp_2 hip_2).int
 obtain ⟨v10, hc11, hR9⟩ := ((H.ro 5 rfl).at hxp_3 hip_3).slice
 obtain ⟨a7, c8, rfl⟩ := hR9.isSl
 replace H := H.add (d := Ch.ro 0 (Sl a7 Da c8) Da) hR9 (fun _ h => h)
 clear hR9
 revert h; refine br fun r12 hx13 h => ?_
 have hc14 := c_impl_hitOf (Bk := Bk) (Bl := Bl) (Ct := a7) (Cu := c8) hx13
 have hc15 := H.cells 1 rfl
 have hc16 := ((H.ro 5 rfl).at hxp_2 hip_2).int
 obtain ⟨v20, hc21, hR19⟩ := ((H.ro 6 rfl).at hxp_3 hip_3).slice
 obtain ⟨a17, c18, rfl⟩ := hR19.isSl
 replace H := H.add (d := Ch.ro 0 (Sl a17 Da c18) Da) hR19 (fun _ h => h)
 clear hR19
 have Hs := H
 refine rg2 (σ := σ4) (Nm := Unit) 7 [3] [[false], [true]] [[(0, 0)], [(0, 0)], [(0, 0)], [(0, 1)], [(0, 0), (1, 1)], [(0, 0), (1, 1)], [(0, 0), (1, 1)]] 1 [fun _ => fun σm => Hp S0 σ0 σm [Ch.ro 0 (Sl a17 Da c18) Da, Ch.ro 0 (Sl a7 Da c8) Da, Ch.bx n0 b3 0 [(I By.1), (Sl Db By.2.1 Dc), (I By.2.2)] [] [], Ch.bx n0 b1 0 [(I Bj.1), (Sl Bk Bj.2.1 Bl), (I Bj.2.2)] [] [], Ch.ro 0 (Sl Bk Bj.2.1 Bl) Bj.2.1, Ch.ro 0 (Sl Db By.2.1 Dc) By.2.1, Ch.ro 0 (Sl (some ⟨Dd, De, none⟩) ([Cz] : List Int) 1) ([Cz] : List Int), Ch.ro 0 (Sl (some ⟨Dg, Dh, none⟩) ([Da] : List (List Int)) 1) ([Da] : List (List Int))] ∧ Md (cov []) σ4 σm, fun _ => fun σm => Hp S0 σ0 σm [Ch.ro 0 (Sl a17 Da c18) Da, Ch.ro 0 (Sl a7 Da c8) Da, Ch.bx n0 b3 0 [(I By.1), (Sl Db By.2.1 Dc), (I By.2.2)] [] [], Ch.bx n0 b1 0 [(I Bj.1), (Sl Bk Bj.2.1 Bl), (I Bj.2.2)] [] [], Ch.ro 0 (Sl Bk Bj.2.1 Bl) Bj.2.1, Ch.ro 0 (Sl Db By.2.1 Dc) By.2.1, Ch.ro 0 (Sl (some ⟨Dd, De, none⟩) ([Cz] : List Int) 1) ([Cz] : List Int), Ch.ro 0 (Sl (some ⟨Dg, Dh, none⟩) ([Da] : List (List Int)) 1) ([Da] : List (List Int))] ∧ Md (cov []) σ4 σm] [fun _ => (.agg #[(I Bj.1), (Sl Bk Bj.2.1 Bl), (I Bj.2.2)]), fun _ => (I Cz), fun _ => (Sl a7 Da c8), fun _ => (.agg #[(I r12.1), (I r12.2)]), fun _ => (.agg #[(I By.1), (Sl Db By.2.1 Dc), (I By.2.2)]), fun _ => (I Cz), fun _ => (Sl a17 Da c18)] () (by kernel_rfl) (by kernel_rfl) ?_ ?_ ?_
 ·intro σm m0
  exact ⟨H.grow (m0.mono fun _ h => h.elim), m0⟩
 ·refine all_cons (by
    refine ⟨?_, ?_⟩
    ·intro _nm ρ σm hJ hoff hdep
     have e4 := look_off (N := 16) (hoff 4 rfl) rfl
     obtain ⟨H, m⟩ := id hJ
     have hc5 := H.cells 3 rfl
     exact dp_v (v := (.agg #[(I Bj.1), (Sl Bk Bj.2.1 Bl), (I Bj.2.2)])) wn (rv_load (cs := [(I Bj.1), (Sl Bk Bj.2.1 Bl), (I Bj.2.2)]) Tryz.underlying34 rfl ti34 e4 rfl hc5) rfl hJ
    trivial) ?_
  refine all_cons (by
    refine ⟨?_, ?_⟩
    ·intro _nm ρ σm hJ hoff hdep
     have e2 := look_off (N := 16) (hoff 2 rfl) rfl
     obtain ⟨H, m⟩ := id hJ
     replace hc6 := (Hs.ro 6 rfl).hmd hxp_2 hip_2 (k := 0) (by decide) hc6 m
     exact dp_v (v := (I Cz)) wn (rv_load1 Tryz.underlying3 rfl e2 hc6) rfl hJ
    trivial) ?_
  refine all_cons (by
    refine ⟨?_, ?_⟩
    ·intro _nm ρ σm hJ hoff hdep
     have e3 := look_off (N := 16) (hoff 3 rfl) rfl
     obtain ⟨H, m⟩ := id hJ
     replace hc11 := (Hs.ro 7 rfl).hmd hxp_3 hip_3 (k := 0) (by decide) hc11 m
     exact dp_v (v := (Sl a7 Da c8)) wn (rv_load1 Tryz.underlying26 rfl e3 hc11) rfl hJ
    trivial) ?_
  refine all_cons (by
    refine ⟨?_, ?_⟩
    ·intro _nm ρ σm hJ hoff hdep
     have e7 : look 16 ρ 7 = (.agg #[(I Bj.1), (Sl Bk Bj.2.1 Bl), (I Bj.2.2)]) := hdep 0 rfl rfl 7 rfl
     have e8 : look 16 ρ 8 = (I Cz) := hdep 1 rfl rfl 8 rfl
     have e9 : look 16 ρ 9 = (Sl a7 Da c8) := hdep 2 rfl rfl 9 rfl
     obtain ⟨H, m⟩ := id hJ
     refine dp_cx wn (cx_call hc14 (ent_f hc14.fn (by show [look 16 ρ 7, look 16 ρ 8, look 16 ρ 9] = _; rw [e7, e8, e9])) hn0 (H.sel' [4, 1, 0, 1, 2, 3, 4, 5, 6, 7] rfl rfl : Hp S0 σ0 _ ([_, _] ++ _))) ?_
     rintro _ σq ⟨_, ⟨rfl, rfl⟩, H2, m2⟩
     exact ⟨_, (), rfl, rfl, ⟨H2.sel' [0, 1, 2, 3, 4, 5, 6, 7] rfl rfl, m.comp0 (m2.mono (fun i h => by simp [cov, Ch.ro] at h))⟩, stab [0, 1, 2, 4, 5, 6] (by kernel_rfl) ⟨rfl, rfl, rfl, rfl, rfl, rfl, trivial⟩⟩
    trivial) ?_
  refine all_cons (by
    refine ⟨?_, ?_⟩
    ·intro _nm ρ σm hJ hoff hdep
     have e5 := look_off (N := 16) (hoff 5 rfl) rfl
     obtain ⟨H, m⟩ := id hJ
     have hc15 := H.cells 2 rfl
     exact dp_v (v := (.agg #[(I By.1), (Sl Db By.2.1 Dc), (I By.2.2)])) wn (rv_load (cs := [(I By.1), (Sl Db By.2.1 Dc), (I By.2.2)]) Tryz.underlying34 rfl ti34 e5 rfl hc15) rfl hJ
    refine ⟨?_, ?_⟩
    ·intro _nm ρ σm hJ hoff hdep
     have e5 := look_off (N := 16) (hoff 5 rfl) rfl
     obtain ⟨H, m⟩ := id hJ
     have hc15 := H.cells 2 rfl
     exact dp_v (v := (.agg #[(I By.1), (Sl Db By.2.1 Dc), (I By.2.2)])) wn (rv_load (cs := [(I By.1), (Sl Db By.2.1 Dc), (I By.2.2)]) Tryz.underlying34 rfl ti34 e5 rfl hc15) rfl hJ
    trivial) ?_
  refine all_cons (by
    refine ⟨?_, ?_⟩
    ·intro _nm ρ σm hJ hoff hdep
     have e2 := look_off (N := 16) (hoff 2 rfl) rfl
     obtain ⟨H, m⟩ := id hJ
     replace hc16 := (Hs.ro 6 rfl).hmd hxp_2 hip_2 (k := 0) (by decide) hc16 m
     exact dp_v (v := (I Cz)) wn (rv_load1 Tryz.underlying3 rfl e2 hc16) rfl hJ
    refine ⟨?_, ?_⟩
    ·intro _nm ρ σm hJ hoff hdep
     have e2 := look_off (N := 16) (hoff 2 rfl) rfl
     obtain ⟨H, m⟩ := id hJ
     replace hc16 := (Hs.ro 6 rfl).hmd hxp_2 hip_2 (k := 0) (by decide) hc16 m
     exact dp_v (v := (I Cz)) wn (rv_load1 Tryz.underlying3 rfl e2 hc16) rfl hJ
    trivial) ?_
  refine all_cons (by
    refine ⟨?_, ?_⟩
    ·intro _nm ρ σm hJ hoff hdep
     have e3 := look_off (N := 16) (hoff 3 rfl) rfl
     obtain ⟨H, m⟩ := id hJ
     replace hc21 := (Hs.ro 7 rfl).hmd hxp_3 hip_3 (k := 0) (by decide) hc21 m
     exact dp_v (v := (Sl a17 Da c18)) wn (rv_load1 Tryz.underlying26 rfl e3 hc21) rfl hJ
    refine ⟨?_, ?_⟩
    ·intro _nm ρ σm hJ hoff hdep
     have e3 := look_off (N := 16) (hoff 3 rfl) rfl
     obtain ⟨H, m⟩ := id hJ
     replace hc21 := (Hs.ro 7 rfl).hmd hxp_3 hip_3 (k := 0) (by decide) hc21 m
     exact dp_v (v := (Sl a17 Da c18)) wn (rv_load1 Tryz.underlying26 rfl e3 hc21) rfl hJ
    trivial) ?_
  exact all_nil
 ·intro _nm ρ σ22 hJ hoff hrel
  have e10 := hrel 3 rfl 10 rfl
  have e11 := hrel 4 rfl 11 rfl
  have e12 := hrel 5 rfl 12 rfl
  have e13 := hrel 6 rfl 13 rfl
  obtain ⟨H, -⟩ := (show Hp S0 σ0 σ22 [Ch.ro 0 (Sl a17 Da c18) Da, Ch.ro 0 (Sl a7 Da c8) Da, Ch.bx n0 b3 0 [(I By.1), (Sl Db By.2.1 Dc), (I By.2.2)] [] [], Ch.bx n0 b1 0 [(I Bj.1), (Sl Bk Bj.2.1 Bl), (I Bj.2.2)] [] [], Ch.ro 0 (Sl Bk Bj.2.1 Bl) Bj.2.1, Ch.ro 0 (Sl Db By.2.1 Dc) By.2.1, Ch.ro 0 (Sl (some ⟨Dd, De, none⟩) ([Cz] : List Int) 1) ([Cz] : List Int), Ch.ro 0 (Sl (some ⟨Dg, Dh, none⟩) ([Da] : List (List Int)) 1) ([Da] : List (List Int))] ∧ Md (cov []) σ4 σ22 from hJ)
  clear hJ Hs
  rw [fr_lookL (L := [(10, (.agg #[(I r12.1), (I r12.2)])), (11, (.agg #[(I By.1), (Sl Db By.2.1 Dc), (I By.2.2)])), (12, (I Cz)), (13, (Sl a17 Da c18))]) ⟨e10, e11, e12, e13, trivial⟩]
  clear hoff hrel e10 e11 e12 e13
  revert h; refine br fun r23 hx24 h => ?_
  have hc25 := c_impl_hitOf (Bk := Db) (Bl := Dc) (Ct := a17) (Cu := c18) hx24
  refine st_call (cx_call hc25 (ent_f hc25.fn rfl) hn0 (H.sel' [5, 0, 0, 1, 2, 3, 4, 5, 6, 7] rfl rfl : Hp S0 σ0 _ ([_, _] ++ _))) wn ?_
  rintro _ σ26 ⟨_, ⟨rfl, rfl⟩, H, -⟩
  replace H : Hp _ _ _ [_, _, _, _, _, _, _, _] := H
  replace H : Hp S0 σ0 σ26 [] := H.sel' [] rfl rfl
  revert h; refine br fun r27 hx28 h => ?_
  have hc29 := c_impl_compareHits hx28
  refine st_call (cx_call hc29 (ent_f hc29.fn rfl) hn0 (H.sel' [] rfl rfl : Hp S0 σ0 _ ([] ++ _))) wn ?_
  rintro _ σ30 ⟨_, ⟨rfl, rfl⟩, H, -⟩
  replace H : Hp _ _ _ [] := H
  refine sa (I r27) rfl (w_end (q_then (c_ret ?_)))
  obtain rfl := sj h
  exact fin_ret (v := (I r27)) (results_ok Tryz.results108 (res_tmp (v := (I r27)) rfl res_nil) rfl) ⟨rfl, rfl⟩ (H.sel' [] rfl rfl)

def sort107_ren : Go.Shelf.Ren := ⟨fun | 6 => 107 | 15 => 91 | 14 => 125 | 28 => 118 | 29 => 119 | 20 => 136 | 21 => 137 | 22 => 138 | 23 => 139 | 24 => 140 | 25 => 141 | 26 => 142 | 27 => 143 | 46 => 147 | 47 => 127 | 48 => 128 | 49 => 148 | 50 => 149 | 57 => 158 | n => n, fun | 22 => 23 | 24 => 34 | 25 => 117 | 3 => 3 | 39 => 101 | 0 => 0 | 53 => 126 | 55 => 128 | 4 => 4 | 46 => 120 | 45 => 119 | 50 => 69 | 5 => 5 | 9 => 9 | 66 => 139 | 70 => 143 | 76 => 161 | 77 => 162 | n => n, fun | n => n⟩
theorem sort107 : Go.Proofs.SlLaysF0.n6 Tryz.prog sort107_ren := {
  mixed := by kernel_rfl
  f6 := ⟨Tryz.f107.name, by decide, Tryz.func107.trans (congrArg some (by kernel_rfl))⟩
  f14 := ⟨Tryz.f125.name, by decide, Tryz.func125.trans (congrArg some (by kernel_rfl))⟩
  f15 := Tryz.func91.trans (congrArg some (by kernel_rfl))
  f20 := ⟨Tryz.f136.name, by decide, Tryz.func136.trans (congrArg some (by kernel_rfl))⟩
  f21 := ⟨Tryz.f137.name, by decide, Tryz.func137.trans (congrArg some (by kernel_rfl))⟩
  f22 := ⟨Tryz.f138.name, by decide, Tryz.func138.trans (congrArg some (by kernel_rfl))⟩
  f23 := ⟨Tryz.f139.name, by decide, Tryz.func139.trans (congrArg some (by kernel_rfl))⟩
  f24 := ⟨Tryz.f140.name, by decide, Tryz.func140.trans (congrArg some (by kernel_rfl))⟩
  f25 := ⟨Tryz.f141.name, by decide, Tryz.func141.trans (congrArg some (by kernel_rfl))⟩
  f26 := ⟨Tryz.f142.name, by decide, Tryz.func142.trans (congrArg some (by kernel_rfl))⟩
  f27 := ⟨Tryz.f143.name, by decide, Tryz.func143.trans (congrArg some (by kernel_rfl))⟩
  f28 := Tryz.func118.trans (congrArg some (by kernel_rfl))
  f29 := Tryz.func119.trans (congrArg some (by kernel_rfl))
  f46 := ⟨Tryz.f147.name, by decide, Tryz.func147.trans (congrArg some (by kernel_rfl))⟩
  f47 := Tryz.func127.trans (congrArg some (by kernel_rfl))
  f48 := Tryz.func128.trans (congrArg some (by kernel_rfl))
  f49 := ⟨Tryz.f148.name, by decide, Tryz.func148.trans (congrArg some (by kernel_rfl))⟩
  f50 := ⟨Tryz.f149.name, by decide, Tryz.func149.trans (congrArg some (by kernel_rfl))⟩
  f57 := ⟨Tryz.f158.name, by decide, Tryz.func158.trans (congrArg some (by kernel_rfl))⟩
  t0 := Tryz.underlying0
  a0 := Tryz.isAgg0
  z0 := Tryz.sizeOf0
  v0 := Tryz.zeroValue0
  t3 := Tryz.underlying3
  a3 := Tryz.isAgg3
  z3 := Tryz.sizeOf3
  v3 := Tryz.zeroValue3
  t4 := Tryz.underlying4
  a4 := Tryz.isAgg4
  z4 := Tryz.sizeOf4
  v4 := Tryz.zeroValue4
  t5 := Tryz.underlying5
  a5 := Tryz.isAgg5
  z5 := Tryz.sizeOf5
  v5 := Tryz.zeroValue5
  t9 := Tryz.underlying9
  a9 := Tryz.isAgg9
  z9 := Tryz.sizeOf9
  v9 := Tryz.zeroValue9
  t22 := Tryz.underlying23
  a22 := Tryz.isAgg23
  z22 := Tryz.sizeOf23
  v22 := Tryz.zeroValue23
  t25 := Tryz.underlying117
  a25 := Tryz.isAgg117
  z25 := Tryz.sizeOf117
  v25 := Tryz.zeroValue117
  t39 := Tryz.underlying101
  a39 := Tryz.isAgg101
  z39 := Tryz.sizeOf101
  v39 := Tryz.zeroValue101
  t45 := Tryz.underlying119
  a45 := Tryz.isAgg119
  z45 := Tryz.sizeOf119
  v45 := Tryz.zeroValue119
  t46 := Tryz.underlying120
  a46 := Tryz.isAgg120
  z46 := Tryz.sizeOf120
  v46 := Tryz.zeroValue120
  t50 := Tryz.underlying69
  a50 := Tryz.isAgg69
  z50 := Tryz.sizeOf69
  v50 := Tryz.zeroValue69
  t53 := Tryz.underlying126
  a53 := Tryz.isAgg126
  z53 := Tryz.sizeOf126
  v53 := Tryz.zeroValue126
  t55 := Tryz.underlying128
  a55 := Tryz.isAgg128
  z55 := Tryz.sizeOf128
  v55 := Tryz.zeroValue128
  t66 := Tryz.underlying139
  a66 := Tryz.isAgg139
  z66 := Tryz.sizeOf139
  v66 := Tryz.zeroValue139
  t70 := Tryz.underlying143
  a70 := Tryz.isAgg143
  z70 := Tryz.sizeOf143
  v70 := Tryz.zeroValue143
  t76 := Tryz.underlying161
  a76 := Tryz.isAgg161
  z76 := Tryz.sizeOf161
  v76 := Tryz.zeroValue161
  t77 := Tryz.underlying162
  a77 := Tryz.isAgg162
  z77 := Tryz.sizeOf162
  v77 := Tryz.zeroValue162 }

theorem c_slices_SortFunc_impl_Item_impl_Item__impl_sortByDistance_1 {Bj : List (Int × (List Int) × Int)} {Di : Int} {Dj : List Int} {Cb : Option Addr} {Cc : Nat} {Dk Dm Dn : Nat} {Do Dq : List Value} {Dr : Option Addr} {Ds : Nat} {Dt Du Dv : Nat} {Dw Dx : List Value} {r : List (Int × (List Int) × Int)} (h : M.slices_SortFunc_impl_Item_impl_Item__impl_sortByDistance_1 Bj Di Dj = some r) :
    Cal2 Tryz.prog 107 [(Sl Cb Bj Cc), (.func (.func 108) #[] #[(pt Dm Dn), (pt Du Dv)])] [Ch.own 0 0 (Sl Cb Bj Cc) Bj, Ch.bx Dk Dm Dn [(I Di)] Do Dq, Ch.bx Dt Du Dv [(Sl Dr Dj Ds)] Dw Dx, Ch.ro 0 (Sl Dr Dj Ds) Dj] (fun n0 v L => v = (.tuple #[]) ∧ L = [Ch.own 0 0 (Sl Cb r Cc) r, Ch.bx Dk Dm Dn [(I Di)] Do Dq, Ch.bx Dt Du Dv [(Sl Dr Dj Ds)] Dw Dx] ∧ r.length = Bj.length) := by
 obtain ⟨hn, hs, hL, rfl⟩ := sortD_some h
 have hE : ∀ σ σ' : St, Ext σ σ' → (RS 0 σ (Sl (some ⟨Dm, Dn, none⟩) ([Di] : List Int) 1) ([Di] : List Int) ∧ RS 0 σ (Sl (some ⟨Du, Dv, none⟩) ([Dj] : List (List Int)) 1) ([Dj] : List (List Int)) ∧ RS 0 σ (Sl Dr Dj Ds) Dj) → (RS 0 σ' (Sl (some ⟨Dm, Dn, none⟩) ([Di] : List Int) 1) ([Di] : List Int) ∧ RS 0 σ' (Sl (some ⟨Du, Dv, none⟩) ([Dj] : List (List Int)) 1) ([Dj] : List (List Int)) ∧ RS 0 σ' (Sl Dr Dj Ds) Dj) := fun σ σ' hE hp => ⟨hp.1.ext hE, hp.2.1.ext hE, hp.2.2.ext hE⟩
 have hB : ∀ σ : St, allAs σ [Ch.bx Dk Dm Dn [(I Di)] Do Dq, Ch.bx Dt Du Dv [(Sl Dr Dj Ds)] Dw Dx, Ch.ro 0 (Sl Dr Dj Ds) Dj] → apart [Ch.bx Dk Dm Dn [(I Di)] Do Dq, Ch.bx Dt Du Dv [(Sl Dr Dj Ds)] Dw Dx, Ch.ro 0 (Sl Dr Dj Ds) Dj] → ∃ σp, Pb (cov [Ch.bx Dk Dm Dn [(I Di)] Do Dq, Ch.bx Dt Du Dv [(Sl Dr Dj Ds)] Dw Dx, Ch.ro 0 (Sl Dr Dj Ds) Dj]) σ σp ∧ (RS 0 σp (Sl (some ⟨Dm, Dn, none⟩) ([Di] : List Int) 1) ([Di] : List Int) ∧ RS 0 σp (Sl (some ⟨Du, Dv, none⟩) ([Dj] : List (List Int)) 1) ([Dj] : List (List Int)) ∧ RS 0 σp (Sl Dr Dj Ds) Dj) := by
     intro σ hA hP
     obtain ⟨σ0, p0, r0, a0⟩ := pubBox (α := Int) (x := Di) hA hP (by exact rfl)
     obtain ⟨σ1, p1, r1, a1⟩ := pubBox (α := List Int) (x := Dj) a0 hP.2 (by exact ⟨_, rfl, (a0.2.1 : RS 0 σ0 (Sl Dr Dj Ds) Dj)⟩)
     exact ⟨σ1, (p0.trans p1).mono (fun i h => h.elim (fun h => .inl h) (fun h => .inr (.inl h))), (r0.ext p1.md.ext), r1, a1.1⟩
 have hC : ∀ σ : St, (RS 0 σ (Sl (some ⟨Dm, Dn, none⟩) ([Di] : List Int) 1) ([Di] : List Int) ∧ RS 0 σ (Sl (some ⟨Du, Dv, none⟩) ([Dj] : List (List Int)) 1) ([Dj] : List (List Int)) ∧ RS 0 σ (Sl Dr Dj Ds) Dj) → ∀ x ∈ Bj, ∀ y ∈ Bj, ∀ cx cy, Rp.rp 0 σ cx x → Rp.rp 0 σ cy y → Calls Tryz.prog 108 ([Value.agg cx.toArray, Value.agg cy.toArray] ++ [(pt Dm Dn), (pt Du Dv)]).toArray σ.w fun e w' => e = .returned (I ((M.impl_sortByDistance_1__p3__p24 (x.1, x.2.1, x.2.2) (y.1, y.2.1, y.2.2) Di Dj).getD 0)) ∧ ∃ q os, w' = Go.Sort.grow (σ.w.drewN q) os := by
     intro σ hp x hx y hy cx cy rx ry
     obtain ⟨r, hr⟩ := hs x hx y hy
     obtain ⟨_, _, rfl, rfl, ⟨_, _, rfl, ⟨_, rfl, hRx_1⟩, rfl⟩⟩ := rx
     obtain ⟨_, _, rfl, rfl, ⟨_, _, rfl, ⟨_, rfl, hRy_1⟩, rfl⟩⟩ := ry
     obtain ⟨ax_1, cx_1, rfl⟩ := hRx_1.isSl
     obtain ⟨ay_1, cy_1, rfl⟩ := hRy_1.isSl
     have hc := c_impl_sortByDistance_1__p3__p24 (Bk := ax_1) (Bl := cx_1) (Db := ay_1) (Dc := cy_1) (Dd := Dm) (De := Dn) (Dg := Du) (Dh := Dv) hr
     refine (hc.runs σ 0 (Nat.zero_le _) (Hp.begin ⟨hRx_1, ⟨hRy_1, ⟨hp.1, ⟨hp.2.1, trivial⟩⟩⟩⟩ ⟨fun _ h => h.elim, ⟨fun _ h => h.elim, ⟨fun _ h => h.elim, ⟨fun _ h => h.elim, trivial⟩⟩⟩⟩)).mono ?_
     rintro e w' ⟨v, σ', L', rfl, rfl, ⟨rfl, -⟩, H⟩
     exact ⟨by rw [hr]; rfl, (H.md.mono fun i => fun h => h.elim (fun h => h.elim) (fun h => h.elim (fun h => h.elim) (fun h => h.elim (fun h => h.elim) (fun h => h.elim (fun h => h.elim) (fun h => h))))).grown⟩
 refine (sort_cal2 (α := (Int × (List Int) × Int)) sort107 Tryz.isAgg34 Tryz.sizeOf34 (xs := Bj) (a := Cb) (c := Cc) (g := 108) (cb := [(pt Dm Dn), (pt Du Dv)]) (B := [Ch.bx Dk Dm Dn [(I Di)] Do Dq, Ch.bx Dt Du Dv [(Sl Dr Dj Ds)] Dw Dx, Ch.ro 0 (Sl Dr Dj Ds) Dj]) (fun x y => (M.impl_sortByDistance_1__p3__p24 (x.1, x.2.1, x.2.2) (y.1, y.2.1, y.2.2) Di Dj).getD 0) hL hn ⟨_, _, Tryz.func108, rfl, rfl⟩ _ hE hB hC).conv ?_
 rintro m v L ⟨rfl, rfl⟩
 exact ⟨_, ⟨rfl, rfl, sortL_len⟩, fun H => H.sel' [0, 1, 2] rfl rfl⟩

theorem c_impl_sortByDistance {Ah : List (Int × (List Int) × Int)} {Bv : Int} {Cs : List Int} {Aj : Option Addr} {Ak : Nat} {Ct : Option Addr} {Cu : Nat} {r : (List (Int × (List Int) × Int))} (h : M.impl_sortByDistance Ah Bv Cs = some r) :
    Cal2 Tryz.prog 87 [(Sl Aj Ah Ak), (I Bv), (Sl Ct Cs Cu)] [Ch.ro 0 (Sl Aj Ah Ak) Ah, Ch.ro 0 (Sl Ct Cs Cu) Cs] (fun n0 v L => ∃ (az1 : Option Addr), ∃ (cz2 : Nat), v = (Sl az1 r cz2) ∧ L = [Ch.own 0 0 (Sl az1 r cz2) r]) := by
 refine cal2 (n := 14) Tryz.func87 rfl rfl rfl rfl ?_
 intro S0 σ0 n0 hn0 H
 unfold M.impl_sortByDistance at h
 refine c_seq (rg (st_ex (ex_box (cs := [(I Bv)]) H hn0 rfl rfl) wn ?_))
 rintro _ σ2 ⟨b1, rfl, H, -⟩
 refine st_ex (ex_box (cs := [(Sl Ct Cs Cu)]) H hn0 rfl rfl) wn ?_
 rintro _ σ4 ⟨b3, rfl, H, -⟩
 refine sa (.slice none 0 0) rfl (w_end (q_then (c_seq (rg (sm (Sl Aj Ah Ak) rfl ?_)))))
 revert h; refine br fun r5 hx6 h => ?_
 have hc7 := c_slices_Clone_impl_Item_impl_Item (Ce := Aj) (Cf := Ak) hx6
 refine st_call (cx_call hc7 (ent_f hc7.fn rfl) hn0 (H.sel' [2, 0, 1, 2, 3] rfl rfl : Hp S0 σ0 _ ([_] ++ _))) wn ?_
 rintro _ σ10 ⟨_, ⟨a8, c9, rfl, rfl⟩, H, -⟩
 replace H : Hp _ _ _ [_, _, _, _, _] := H
 refine sa (Sl a8 r5 c9) rfl (w_end (q_then (c_seq (rg (sm (Sl a8 r5 c9) rfl (st (v := (.func (.func 108) #[] #[(pt b1 0), (pt b3 0)])) (rv_makeFunc (vs := [(pt b1 0), (pt b3 0)]) rfl) ?_))))))
 replace H := H.ownLow 0 0 0 rfl (Nat.zero_le _) (Nat.zero_le _)
 revert h; refine br fun r11 hx12 h => ?_
 have hc13 := c_slices_SortFunc_impl_Item_impl_Item__impl_sortByDistance_1 (Cb := a8) (Cc := c9) (Dk := n0) (Dm := b1) (Dn := 0) (Do := []) (Dq := []) (Dt := n0) (Du := b3) (Dv := 0) (Dw := []) (Dx := []) (Dr := Ct) (Ds := Cu) hx12
 refine st_call (cx_call hc13 (ent_f hc13.fn rfl) hn0 (H.sel' [0, 2, 1, 4, 3, 4] rfl rfl : Hp S0 σ0 _ ([_, _, _, _] ++ _))) wn ?_
 rintro _ σ15 ⟨_, ⟨rfl, rfl, hn14⟩, H, -⟩
 replace H : Hp _ _ _ [_, _, _, _, _] := H
 have hsl : (Sl a8 r5 c9) = (Sl a8 r11 c9) := sl_len hn14.symm
 try rw [hsl]
 try rw [hsl] at H
 clear hsl
 refine w_end (q_then (c_seq (rg (sm (Sl a8 r11 c9) rfl (sa (Sl a8 r11 c9) rfl (w_end (q_then (c_ret ?_))))))))
 obtain rfl := sj h
 exact fin_ret (v := (Sl a8 r11 c9)) (results_ok Tryz.results87 (res_tmp (v := (Sl a8 r11 c9)) rfl res_nil) rfl) ⟨a8, c9, rfl, rfl⟩ (H.sel' [0] rfl rfl)

theorem c_impl_linkItems_1__p_impl_Item {Dy : Int × (List Int) × Int} {Dz : Int × (List Int) × Int} {Ea : Option Addr} {Eb : Nat} {Ec : Option Addr} {Ed : Nat} {Ee Ef Eg : Nat} {Eh Ei : List Value} {r : Bool} (h : M.impl_linkItems_1__p_impl_Item Dy Dz = some r) :
    Cal2 Tryz.prog 86 [(.agg #[(I Dy.1), (Sl Ea Dy.2.1 Eb), (I Dy.2.2)]), (pt Ef Eg)] [Ch.ro 0 (Sl Ea Dy.2.1 Eb) Dy.2.1, Ch.bx Ee Ef Eg [(I Dz.1), (Sl Ec Dz.2.1 Ed), (I Dz.2.2)] Eh Ei, Ch.ro 0 (Sl Ec Dz.2.1 Ed) Dz.2.1] (fun n0 v L => v = (B r) ∧ L = [Ch.bx Ee Ef Eg [(I Dz.1), (Sl Ec Dz.2.1 Ed), (I Dz.2.2)] Eh Ei]) := by
 refine cal2 (n := 9) Tryz.func86 rfl rfl rfl rfl ?_
 intro S0 σ0 n0 hn0 H
 unfold M.impl_linkItems_1__p_impl_Item at h
 refine c_seq (rg (st_ex (ex_box (cs := [(I Dy.1), (Sl Ea Dy.2.1 Eb), (I Dy.2.2)]) H hn0 rfl rfl) wn ?_))
 rintro _ σ2 ⟨b1, rfl, H, -⟩
 refine sa (B false) rfl (w_end (q_then (c_seq (rg (st (v := (pt b1 0)) (rv_fieldAddr (off := 0) (ft := 3) Tryz.underlying34 rfl ti3 rfl rfl) ?_)))))
 have hc3 := H.cell (u := (I Dy.1)) (o' := 0) 0 0 rfl rfl rfl
 refine st (v := (I Dy.1)) (rv_load1 Tryz.underlying3 rfl rfl hc3) (st (v := (pt Ef Eg)) (rv_fieldAddr (off := 0) (ft := 3) Tryz.underlying34 rfl ti3 rfl rfl) ?_)
 have hc4 := H.cell (u := (I Dz.1)) (o' := Eg) 2 0 rfl rfl rfl
 refine st (v := (I Dz.1)) (rv_load1 Tryz.underlying3 rfl rfl hc4) (st (v := (B (Dy.1 != Dz.1))) (rv_neq (a := Dy.1) (b := Dz.1) rfl rfl) (sa (B (Dy.1 != Dz.1)) rfl (w_end (q_then (c_ret ?_)))))
 obtain rfl := sj h
 exact fin_ret (v := (B (Dy.1 != Dz.1))) (results_ok Tryz.results86 (res_tmp (v := (B (Dy.1 != Dz.1))) rfl res_nil) rfl) ⟨rfl, rfl⟩ (H.sel' [2] rfl rfl)

theorem c_impl_itemsThat__impl_linkItems_1 {Ah : List (Int × (List Int) × Int)} {Ej : Int × (List Int) × Int} {Aj : Option Addr} {Ak : Nat} {Ek : Option Addr} {El : Nat} {Em En Eo : Nat} {Ep Er : List Value} {r : (List (Int × (List Int) × Int))} (h : M.impl_itemsThat__impl_linkItems_1 Ah Ej = some r) :
    Cal2 Tryz.prog 71 [(Sl Aj Ah Ak), (.func (.func 86) #[] #[(pt En Eo)])] [Ch.ro 0 (Sl Aj Ah Ak) Ah, Ch.bx Em En Eo [(I Ej.1), (Sl Ek Ej.2.1 El), (I Ej.2.2)] Ep Er, Ch.ro 0 (Sl Ek Ej.2.1 El) Ej.2.1] (fun n0 v L => ∃ (az1 : Option Addr), ∃ (cz2 : Nat), v = (Sl az1 r cz2) ∧ L = [Ch.own n0 0 (Sl az1 r cz2) r, Ch.bx Em En Eo [(I Ej.1), (Sl Ek Ej.2.1 El), (I Ej.2.2)] Ep Er]) := by
 refine cal2 (n := 23) Tryz.func71 rfl rfl rfl rfl ?_
 intro S0 σ0 n0 hn0 H
 unfold M.impl_itemsThat__impl_linkItems_1 at h
 refine c_seq (rg (sa (.slice none 0 0) rfl (w_end (q_then (c_seq (rg (sa (.slice none 0 0) rfl (w_end (q_then (c_seq (c_seq ?_)))))))))))
 refine rg (sm (Sl Aj Ah Ak) rfl (st (v := (I (Ah.length : Int))) (rv_len Tryz.underlying23 rfl) (sm (I 0) rfl (w_end (q_then ?_)))))
 obtain ⟨o1, hj, h'⟩ := bind_some h
 clear h
 refine c_cut (fun e a w => e = .normal ∧ ∃ (ρ : Nat → Value) (σ : St) (aj1 : Option Addr) (cj2 : Nat), a = fr 23 (updL ρ [(1, (.func (.func 86) #[] #[(pt En Eo)])), (5, (Sl aj1 o1 cj2))]) ∧ w = σ.w ∧ Hp S0 σ0 σ [Ch.ro 0 (Sl Ek Ej.2.1 El) Ej.2.1, Ch.bx Em En Eo [(I Ej.1), (Sl Ek Ej.2.1 El), (I Ej.2.2)] Ep Er, Ch.own n0 0 (Sl aj1 o1 cj2) o1]) ?_ ?_
 ·clear h'
  rename _ = some o1 => h
  refine c_blk ?_
  replace H := H.nilOwn (Int × (List Int) × Int) n0 0
  refine wp_loopM _ h (fun s2 a w => ∃ (ρ : Nat → Value) (σ : St) (aj1 : Option Addr) (cj2 : Nat), a = fr 23 (updL ρ [(1, (.func (.func 86) #[] #[(pt En Eo)])), (5, (Sl aj1 s2.1 cj2)), (8, (Sl Aj Ah Ak)), (9, (I (Ah.length : Int))), (10, (I s2.2))]) ∧ w = σ.w ∧ Hp S0 σ0 σ [Ch.ro 0 (Sl Ek Ej.2.1 El) Ej.2.1, Ch.bx Em En Eo [(I Ej.1), (Sl Ek Ej.2.1 El), (I Ej.2.2)] Ep Er, Ch.own n0 0 (Sl aj1 s2.1 cj2) s2.1, Ch.ro 0 (Sl Aj Ah Ak) Ah]) ⟨_, σ0, none, 0, fr_join ⟨rfl, rfl, rfl, rfl, rfl, trivial⟩, rfl, H.sel' [3, 2, 0, 1] rfl rfl⟩ ?_
  clear h H
  rintro s2 a w o ⟨ρ, σ3, a4, c5, rfl, rfl, H⟩ h hres
  refine c_seq (rg (st (v := (B (decide (s2.2 < (Ah.length : Int))))) (rv_lss (a := s2.2) (b := (Ah.length : Int)) rfl rfl) (w_end (q_then (c_seq ?_)))))
  refine cd_cond (decide (s2.2 < (Ah.length : Int))) rfl (fun hb6 => ?_) (fun hb6 => ?_)
  ·replace h := bif_t hb6 h
   refine c_skip (q_then (c_seq ?_))
   obtain ⟨o7, hj, h'⟩ := bind_some h
   clear h
   refine c_cut (fun e a w => e = .normal ∧ ∃ (ρ : Nat → Value) (σ : St) (aj1 : Option Addr) (cj2 : Nat), a = fr 23 (updL ρ [(1, (.func (.func 86) #[] #[(pt En Eo)])), (5, (Sl aj1 o7 cj2)), (8, (Sl Aj Ah Ak)), (9, (I (Ah.length : Int))), (10, (I s2.2))]) ∧ w = σ.w ∧ Hp S0 σ0 σ [Ch.ro 0 (Sl Ek Ej.2.1 El) Ej.2.1, Ch.bx Em En Eo [(I Ej.1), (Sl Ek Ej.2.1 El), (I Ej.2.2)] Ep Er, Ch.own n0 0 (Sl aj1 o7 cj2) o7, Ch.ro 0 (Sl Aj Ah Ak) Ah]) ?_ ?_
   ·clear h'
    rename _ = some o7 => h
    refine c_blk (c_seq (rg ?_))
    revert h; refine br fun x8 hx9 h => ?_
    obtain ⟨b11, o12, hi10, -⟩ := (H.ro 3 rfl).ix hx9
    refine st (v := (pt b11 o12)) (rv_ix Tryz.underlying23 ti34 rfl rfl hi10) ?_
    obtain ⟨_, ⟨_, _, rfl, rfl, ⟨_, _, rfl, ⟨_, rfl, hR17⟩, rfl⟩⟩, hl13, hc14⟩ := ((H.ro 3 rfl).at hx9 hi10).cells
    obtain ⟨a15, c16, rfl⟩ := hR17.isSl
    replace H := H.add (d := Ch.ro 0 (Sl a15 x8.2.1 c16) x8.2.1) hR17 (fun _ h => h)
    clear hR17
    refine st (v := (.agg #[(I x8.1), (Sl a15 x8.2.1 c16), (I x8.2.2)])) (rv_load Tryz.underlying34 rfl ti34 rfl hl13 hc14) (st_ex (ex_alloc (cs := [(I 0), (.slice none 0 0), (I 0)]) H hn0 ti34 rfl) wn ?_)
    rintro _ σ19 ⟨b18, rfl, H, -⟩
    refine st_exS (ex_store_box (k := 0) (cs := [(I 0), (.slice none 0 0), (I 0)]) (vs := [(I x8.1), (Sl a15 x8.2.1 c16), (I x8.2.2)]) (cs' := [(I x8.1), (Sl a15 x8.2.1 c16), (I x8.2.2)]) H (i := 0) rfl ti34 rfl rfl rfl rfl rfl (Nat.le_of_ble_eq_true rfl) (by simp [plain]) rfl) wn ?_
    rintro σ20 ⟨H, -⟩
    refine w_end (q_then (c_seq (rg (sm (.func (.func 86) #[] #[(pt En Eo)]) rfl ?_))))
    have hc21 := H.cells 0 rfl
    refine st (v := (.agg #[(I x8.1), (Sl a15 x8.2.1 c16), (I x8.2.2)])) (rv_load (cs := [(I x8.1), (Sl a15 x8.2.1 c16), (I x8.2.2)]) Tryz.underlying34 rfl ti34 rfl rfl hc21) ?_
    revert h; refine br fun r22 hx23 h => ?_
    have hc24 := c_impl_linkItems_1__p_impl_Item (Ea := a15) (Eb := c16) (Ee := Em) (Ef := En) (Eg := Eo) (Eh := Ep) (Ei := Er) (Ec := Ek) (Ed := El) hx23
    refine st_call (cx_call hc24 (ent_v (cap := [(pt En Eo)]) hc24.fn rfl rfl) hn0 (H.sel' [1, 3, 2, 0, 1, 2, 4, 5] rfl rfl : Hp S0 σ0 _ ([_, _, _] ++ _))) wn ?_
    rintro _ σ25 ⟨_, ⟨rfl, rfl⟩, H, -⟩
    replace H : Hp _ _ _ [_, _, _, _, _, _] := H
    refine w_end (q_then ?_)
    refine cd_cond r22 rfl (fun hb26 => ?_) (fun hb26 => ?_)
    ·replace h := bif_t hb26 h
     refine rg (sm (Sl a4 s2.1 c5) rfl ?_)
     have hc27 := H.cells 1 rfl
     refine st (v := (.agg #[(I x8.1), (Sl a15 x8.2.1 c16), (I x8.2.2)])) (rv_load (cs := [(I x8.1), (Sl a15 x8.2.1 c16), (I x8.2.2)]) Tryz.underlying34 rfl ti34 rfl rfl hc27) ?_
     refine st_ex (ex_buildSlice (el := 0) (xs := ([(x8.1, x8.2.1, x8.2.2)] : List (Int × (List Int) × Int))) (ps := [(0, (.agg #[(I x8.1), (Sl a15 x8.2.1 c16), (I x8.2.2)]))]) (cs := [(I x8.1), (Sl a15 x8.2.1 c16), (I x8.2.2)]) H hn0 Tryz.underlying23 ti34 rfl rfl (by kernel_rfl) (.cons (c := [(I x8.1), (Sl a15 x8.2.1 c16), (I x8.2.2)]) ⟨[(I x8.1)], [(Sl a15 x8.2.1 c16), (I x8.2.2)], rfl, rfl, ⟨[(Sl a15 x8.2.1 c16)], [(I x8.2.2)], rfl, ⟨_, rfl, (H.ro 2 rfl)⟩, rfl⟩⟩ (.nil)) rfl) wn ?_
     rintro _ σ29 ⟨b28, rfl, H, -⟩
     revert h; refine br fun xs30 hx31 h => ?_
     refine st_ex (ex_append H (i := 5) rfl Tryz.underlying23 Tryz.underlying23 ti34 rfl rfl (by decide) (H.own 0 rfl).rd hx31 hn0 rfl rfl) wn ?_
     rintro _ σ34 ⟨a32, c33, rfl, H, -⟩
     refine sa (Sl a32 xs30 c33) rfl (w_end (q_blk ?_))
     obtain rfl := sj h
     exact ⟨rfl, _, σ34, a32, c33, fr_join ⟨rfl, rfl, rfl, rfl, rfl, trivial⟩, rfl, H.sel' [5, 2, 0, 6] rfl rfl⟩
    ·replace h := bif_f hb26 h
     refine c_skip (q_blk ?_)
     obtain rfl := sj h
     exact ⟨rfl, _, σ25, a4, c5, fr_join ⟨rfl, rfl, rfl, rfl, rfl, trivial⟩, rfl, H.sel' [3, 0, 4, 5] rfl rfl⟩
   ·clear hj
    have h := h'
    clear h' H
    rintro e a w ⟨rfl, ρ, σ35, a36, c37, rfl, rfl, H⟩
    refine q_then (rg (st (v := (I (w64 (s2.2 + 1)))) (rv_add (a := s2.2) (b := 1) rfl rfl) (sm (I (w64 (s2.2 + 1))) rfl (w_end (q_then ?_)))))
    obtain rfl := sj h
    exact ⟨_, rfl, _, σ35, a36, c37, fr_join ⟨rfl, rfl, rfl, rfl, rfl, trivial⟩, rfl, H.sel' [0, 1, 2, 3] rfl rfl⟩
  ·replace h := bif_f hb6 h
   refine c_exit (q_then_x (q_then_x (q_blk_hit ?_)))
   obtain rfl := sj h
   obtain rfl := hres _ rfl
   exact ⟨rfl, _, σ3, a4, c5, fr_join ⟨rfl, rfl, trivial⟩, rfl, H.sel' [0, 1, 2] rfl rfl⟩
 ·clear hj
  have h := h'
  clear h' H
  rintro e a w ⟨rfl, ρ, σ38, a39, c40, rfl, rfl, H⟩
  refine q_then (c_seq (rg (sm (Sl a39 o1 c40) rfl (sa (Sl a39 o1 c40) rfl (w_end (q_then (c_ret ?_)))))))
  obtain rfl := sj h
  exact fin_ret (v := (Sl a39 o1 c40)) (results_ok Tryz.results71 (res_tmp (v := (Sl a39 o1 c40)) rfl res_nil) rfl) ⟨a39, c40, rfl, rfl⟩ (H.sel' [2, 1] rfl rfl)

theorem c_impl_linkItems {Ah : List (Int × (List Int) × Int)} {Bv : Int} {Bw : Int} {Aj : Option Addr} {Ak : Nat} {r : (List (Int × (List (Int × (List Int) × Int))))} (h : M.impl_linkItems Ah Bv Bw = some r) :
    Cal2 Tryz.prog 48 [(Sl Aj Ah Ak), (I Bv), (I Bw)] [Ch.ro 0 (Sl Aj Ah Ak) Ah] (fun n0 v L => ∃ (bz1 : Nat), ∃ (Kz2 : List Ch), v = (.map (some bz1)) ∧ L = [Ch.big Kz2] ∧ Mp 0 0 bz1 r Kz2) := by
 refine cal2 (n := 38) Tryz.func48 rfl rfl rfl rfl ?_
 intro S0 σ0 n0 hn0 H
 unfold M.impl_linkItems at h
 refine c_seq (rg (sa (.map none) rfl (w_end (q_then (c_seq (rg (st_ex (ex_makeMap (lo := 0) (Int × (List Int) × Int) 0 H (Nat.zero_le _)) wn ?_)))))))
 rintro _ σ4 ⟨b1, K2, rfl, hK3, H, -⟩
 refine sa (.map (some b1)) rfl (w_end (q_then (c_seq (c_seq (rg (sm (Sl Aj Ah Ak) rfl (st (v := (I (Ah.length : Int))) (rv_len Tryz.underlying23 rfl) (sm (I 0) rfl (w_end (q_then ?_))))))))))
 obtain ⟨o5, hj, h'⟩ := bind_some h
 clear h
 refine c_cut (fun e a w => e = .normal ∧ ∃ (ρ : Nat → Value) (σ : St) (bj1 : Nat) (Kj2 : List Ch), a = fr 38 (updL ρ [(7, (.map (some bj1)))]) ∧ w = σ.w ∧ Hp S0 σ0 σ [Ch.big Kj2] ∧ Mp 0 0 bj1 o5 Kj2) ?_ ?_
 ·clear h'
  rename _ = some o5 => h
  refine c_blk (wp_loopM _ h (fun s6 a w => ∃ (ρ : Nat → Value) (σ : St) (bj1 : Nat) (Kj2 : List Ch), a = fr 38 (updL ρ [(0, (Sl Aj Ah Ak)), (1, (I Bv)), (2, (I Bw)), (7, (.map (some bj1))), (13, (Sl Aj Ah Ak)), (14, (I (Ah.length : Int))), (15, (I s6.2))]) ∧ w = σ.w ∧ Hp S0 σ0 σ [Ch.ro 0 (Sl Aj Ah Ak) Ah, Ch.big Kj2] ∧ Mp 0 0 bj1 s6.1 Kj2) ⟨_, σ4, b1, K2, fr_join ⟨rfl, rfl, rfl, rfl, rfl, rfl, rfl, trivial⟩, rfl, H.sel' [1, 0] rfl rfl, hK3⟩ ?_)
  clear h H
  rintro s6 a w o ⟨ρ, σ7, b8, K9, rfl, rfl, H, hK10⟩ h hres
  refine c_seq (rg (st (v := (B (decide (s6.2 < (Ah.length : Int))))) (rv_lss (a := s6.2) (b := (Ah.length : Int)) rfl rfl) (w_end (q_then (c_seq ?_)))))
  refine cd_cond (decide (s6.2 < (Ah.length : Int))) rfl (fun hb11 => ?_) (fun hb11 => ?_)
  ·replace h := bif_t hb11 h
   refine c_skip (q_then (c_seq (c_blk (c_seq (rg ?_)))))
   revert h; refine br fun x12 hx13 h => ?_
   obtain ⟨b15, o16, hi14, -⟩ := (H.ro 0 rfl).ix hx13
   refine st (v := (pt b15 o16)) (rv_ix Tryz.underlying23 ti34 rfl rfl hi14) ?_
   obtain ⟨_, ⟨_, _, rfl, rfl, ⟨_, _, rfl, ⟨_, rfl, hR21⟩, rfl⟩⟩, hl17, hc18⟩ := ((H.ro 0 rfl).at hx13 hi14).cells
   obtain ⟨a19, c20, rfl⟩ := hR21.isSl
   replace H := H.add (d := Ch.ro 0 (Sl a19 x12.2.1 c20) x12.2.1) hR21 (fun _ h => h)
   clear hR21
   refine st (v := (.agg #[(I x12.1), (Sl a19 x12.2.1 c20), (I x12.2.2)])) (rv_load Tryz.underlying34 rfl ti34 rfl hl17 hc18) (st_ex (ex_alloc (cs := [(I 0), (.slice none 0 0), (I 0)]) H hn0 ti34 rfl) wn ?_)
   rintro _ σ23 ⟨b22, rfl, H, -⟩
   refine st_exS (ex_store_box (k := 0) (cs := [(I 0), (.slice none 0 0), (I 0)]) (vs := [(I x12.1), (Sl a19 x12.2.1 c20), (I x12.2.2)]) (cs' := [(I x12.1), (Sl a19 x12.2.1 c20), (I x12.2.2)]) H (i := 0) rfl ti34 rfl rfl rfl rfl rfl (Nat.le_of_ble_eq_true rfl) (by simp [plain]) rfl) wn ?_
   rintro σ24 ⟨H, -⟩
   refine w_end (q_then (c_seq (rg (sm (Sl Aj Ah Ak) rfl (st (v := (.func (.func 86) #[] #[(pt b22 0)])) (rv_makeFunc (vs := [(pt b22 0)]) rfl) ?_)))))
   revert h; refine br fun r25 hx26 h => ?_
   have hc27 := c_impl_itemsThat__impl_linkItems_1 (Aj := Aj) (Ak := Ak) (Em := n0) (En := b22) (Eo := 0) (Ep := []) (Er := []) (Ek := a19) (El := c20) hx26
   refine st_call (cx_call hc27 (ent_f hc27.fn rfl) hn0 (H.sel' [2, 0, 1, 1, 2, 3] rfl rfl : Hp S0 σ0 _ ([_, _, _] ++ _))) wn ?_
   rintro _ σ30 ⟨_, ⟨a28, c29, rfl, rfl⟩, H, -⟩
   replace H : Hp _ _ _ [_, _, _, _, _] := H
   refine sa (Sl a28 r25 c29) rfl (w_end (q_then (c_seq (rg (sm (Sl a28 r25 c29) rfl (sm (I Bv) rfl (st (v := (pt b22 1)) (rv_fieldAddr (off := 1) (ft := 26) Tryz.underlying34 rfl ti26 rfl rfl) ?_)))))))
   have hc31 := H.cell (u := (Sl a19 x12.2.1 c20)) (o' := 1) 1 1 rfl rfl rfl
   refine st (v := (Sl a19 x12.2.1 c20)) (rv_load1 Tryz.underlying26 rfl rfl hc31) ?_
   obtain ⟨σ32, hw33, H, -⟩ := H.pub 0 rfl (Nat.zero_le _)
   rw [← hw33]; clear hw33
   revert h; refine br fun r34 hx35 h => ?_
   have hc36 := c_impl_sortByDistance (Aj := a28) (Ak := c29) (Ct := a19) (Cu := c20) hx35
   refine st_call (cx_call hc36 (ent_f hc36.fn rfl) hn0 (H.sel' [0, 2, 0, 1, 2, 3, 4] rfl rfl : Hp S0 σ0 _ ([_, _] ++ _))) wn ?_
   rintro _ σ39 ⟨_, ⟨a37, c38, rfl, rfl⟩, H, -⟩
   replace H : Hp _ _ _ [_, _, _, _, _, _] := H
   refine sa (Sl a37 r34 c38) rfl (w_end (q_then ?_))
   refine rgP (σ := σ39) 9 (by kernel_rfl) (by kernel_rfl) (by kernel_rfl) ?_
   refine sq (v := (.map (some b8))) (rv_move rfl) (sq (v := (pt b22 0)) (rv_fieldAddr (off := 0) (ft := 3) Tryz.underlying34 rfl ti3 rfl rfl) ?_)
   have hc40 := H.cell (u := (I x12.1)) (o' := 0) 2 0 rfl rfl rfl
   refine sq (v := (I x12.1)) (rv_load1 Tryz.underlying3 rfl rfl hc40) (sq (v := (Sl a37 r34 c38)) (rv_move rfl) (sq (v := (I Bw)) (rv_move rfl) (sq (v := (Sl a37 r34 c38)) (rv_move rfl) (sq (v := (I (r34.length : Int))) (rv_len Tryz.underlying23 rfl) (sq (v := (I (min Bw (r34.length : Int)))) (rv_min rfl rfl) ?_)))))
   revert h; refine br fun xs41 hx42 h => ?_
   obtain ⟨a43, c44, hs45, hR46, hb47⟩ := (H.own 0 rfl).slice hx42
   replace H := (H.front (i := 0) rfl).turn (d := Ch.own 0 0 (Sl a43 xs41 c44) xs41) (fun _ => hR46) hb47; clear hR46 hb47
   refine sq (v := (Sl a43 xs41 c44)) (rv_slice_h Tryz.underlying23 ti34 hs45 rfl rfl) (sq_end ?_)
   intro σ48 hm49
   replace H := H.grow (hm49.mono fun _ h => h); clear hm49
   obtain ⟨v50, K51, H, hK52⟩ := H.mpOut x12.1 5 rfl hK10
   replace H := H.sel' [1, 2, 3, 4, 5, 6] rfl rfl
   replace H := H.sel' [0, 1, 2, 3, 4, 5] rfl rfl
   obtain ⟨K53, hK54, he55⟩ := hK52.put (Sl a43 xs41 c44) xs41
   refine st_exS (he55 (ty := _) H Tryz.underlying72 Tryz.underlying3 rfl rfl rfl) wn ?_
   rintro σ56 ⟨H, -⟩
   refine w_end (q_blk (q_then (rg (st (v := (I (w64 (s6.2 + 1)))) (rv_add (a := s6.2) (b := 1) rfl rfl) (sm (I (w64 (s6.2 + 1))) rfl (w_end (q_then ?_)))))))
   obtain rfl := sj h
   exact ⟨_, rfl, _, σ56, b8, K53, fr_join ⟨rfl, rfl, rfl, rfl, rfl, rfl, rfl, trivial⟩, rfl, H.sel' [4, 0] rfl rfl, hK54⟩
  ·replace h := bif_f hb11 h
   refine c_exit (q_then_x (q_then_x (q_blk_hit ?_)))
   obtain rfl := sj h
   obtain rfl := hres _ rfl
   exact ⟨rfl, _, σ7, b8, K9, fr_join ⟨rfl, trivial⟩, rfl, H.sel' [1] rfl rfl, hK10⟩
 ·clear hj
  have h := h'
  clear h' H
  rintro e a w ⟨rfl, ρ, σ57, b58, K59, rfl, rfl, H, hK60⟩
  refine q_then (c_seq (rg (sm (.map (some b58)) rfl (sa (.map (some b58)) rfl (w_end (q_then (c_ret ?_)))))))
  obtain rfl := sj h
  exact fin_ret (v := (.map (some b58))) (results_ok Tryz.results48 (res_tmp (v := (.map (some b58))) rfl res_nil) rfl) ⟨b58, K59, rfl, rfl, hK60⟩ (H.sel' [0] rfl rfl)

theorem c_slices_Index_int_int {Cd : List Int} {Es : Int} {Ce : Option Addr} {Cf : Nat} {r : Int} (h : M.slices_Index_int_int Cd Es = some r) :
    Cal2 Tryz.prog 89 [(Sl Ce Cd Cf), (I Es)] [Ch.ro 0 (Sl Ce Cd Cf) Cd] (fun n0 v L => v = (I r) ∧ L = []) := by
 refine cal2 (n := 19) Tryz.func89 rfl rfl rfl rfl ?_
 intro S0 σ0 n0 hn0 H
 unfold M.slices_Index_int_int at h
 refine c_seq (rg (sa (I 0) rfl (w_end (q_then (c_seq (c_seq (rg (sm (Sl Ce Cd Cf) rfl (st (v := (I (Cd.length : Int))) (rv_len Tryz.underlying26 rfl) (sm (I 0) rfl (w_end ?_)))))))))))
 refine q_then ?_
 obtain ⟨o1, hj, h'⟩ := bind_some h
 clear h
 refine c_cut (fun e a w => (∃ t, o1 = (.inl t) ∧ e = .normal ∧ ∃ (ρ : Nat → Value) (σ : St), a = fr 19 (updL ρ []) ∧ w = σ.w ∧ Hp S0 σ0 σ []) ∨ (∃ t, o1 = (.inr t) ∧ e = .ret ∧ ∃ (ρ : Nat → Value) (σ : St), a = fr 19 (updL ρ [(4, (I t))]) ∧ w = σ.w ∧ Hp S0 σ0 σ [])) ?_ ?_
 ·clear h'
  rename _ = some o1 => h
  refine c_blk (wp_loopM _ h (fun s2 a w => ∃ (ρ : Nat → Value) (σ : St), a = fr 19 (updL ρ [(0, (Sl Ce Cd Cf)), (1, (I Es)), (7, (I (Cd.length : Int))), (8, (I s2))]) ∧ w = σ.w ∧ Hp S0 σ0 σ [Ch.ro 0 (Sl Ce Cd Cf) Cd]) ⟨_, σ0, fr_join ⟨rfl, rfl, rfl, rfl, trivial⟩, rfl, H.sel' [0] rfl rfl⟩ ?_)
  clear h H
  rintro s2 a w o ⟨ρ, σ3, rfl, rfl, H⟩ h hres
  refine c_seq (rg (st (v := (B (decide (s2 < (Cd.length : Int))))) (rv_lss (a := s2) (b := (Cd.length : Int)) rfl rfl) (w_end (q_then (c_seq ?_)))))
  refine cd_cond (decide (s2 < (Cd.length : Int))) rfl (fun hb4 => ?_) (fun hb4 => ?_)
  ·replace h := bif_t hb4 h
   refine c_skip (q_then (c_seq (c_blk (c_seq (rg (sm (I s2) rfl (sa (I s2) rfl (w_end (q_then (c_seq (rg ?_)))))))))))
   refine sm (I Es) rfl (sm (Sl Ce Cd Cf) rfl (sm (I s2) rfl ?_))
   revert h; refine br fun x5 hx6 h => ?_
   obtain ⟨b8, o9, hi7, -⟩ := (H.ro 0 rfl).ix hx6
   refine st (v := (pt b8 o9)) (rv_ix Tryz.underlying26 ti3 rfl rfl hi7) ?_
   have hc10 := ((H.ro 0 rfl).at hx6 hi7).int
   refine st (v := (I x5)) (rv_load1 Tryz.underlying3 rfl rfl hc10) (st (v := (B (Es == x5))) (rv_eql (a := Es) (b := x5) rfl rfl) (w_end (q_then ?_)))
   refine cd_cond (Es == x5) rfl (fun hb11 => ?_) (fun hb11 => ?_)
   ·replace h := bif_t hb11 h
    refine c_seq (rg (sm (I s2) rfl (sa (I s2) rfl (w_end (q_then (c_ret (q_blk_r (q_then_r (q_then_r (q_blk_r ?_))))))))))
    obtain rfl := sj h
    obtain rfl := hres _ rfl
    exact .inr (⟨_, rfl, rfl, _, σ3, fr_join ⟨rfl, trivial⟩, rfl, H.sel' [] rfl rfl⟩)
   ·replace h := bif_f hb11 h
    refine c_skip (q_blk (q_then (rg (st (v := (I (w64 (s2 + 1)))) (rv_add (a := s2) (b := 1) rfl rfl) (sm (I (w64 (s2 + 1))) rfl (w_end (q_then ?_)))))))
    obtain rfl := sj h
    exact ⟨_, rfl, _, σ3, fr_join ⟨rfl, rfl, rfl, rfl, trivial⟩, rfl, H.sel' [0] rfl rfl⟩
  ·replace h := bif_f hb4 h
   refine c_exit (q_then_x (q_then_x (q_blk_hit ?_)))
   obtain rfl := sj h
   obtain rfl := hres _ rfl
   exact .inl ⟨_, rfl, rfl, _, σ3, fr_join trivial, rfl, H.sel' [] rfl rfl⟩
 ·clear hj
  have h := h'
  clear h' H
  rintro e a w (⟨t12, rfl, rfl, ρ, σ13, rfl, rfl, H⟩ | ⟨t14, rfl, rfl, ρ, σ15, rfl, rfl, H⟩)
  ·replace h := selim_l h
   refine q_then (c_seq (rg (sa (I (-1)) rfl (w_end (q_then (c_ret ?_))))))
   obtain rfl := sj h
   exact fin_ret (v := (I (-1))) (results_ok Tryz.results89 (res_tmp (v := (I (-1))) rfl res_nil) rfl) ⟨rfl, rfl⟩ (H.sel' [] rfl rfl)
  ·replace h := selim_r h
   refine q_then_r ?_
   obtain rfl := sj h
   exact fin_ret (v := (I t14)) (results_ok Tryz.results89 (res_tmp (v := (I t14)) rfl res_nil) rfl) ⟨rfl, rfl⟩ (H.sel' [] rfl rfl)

theorem c_slices_Contains_int_int {Cd : List Int} {Es : Int} {Ce : Option Addr} {Cf : Nat} {r : Bool} (h : M.slices_Contains_int_int Cd Es = some r) :
    Cal2 Tryz.prog 55 [(Sl Ce Cd Cf), (I Es)] [Ch.ro 0 (Sl Ce Cd Cf) Cd] (fun n0 v L => v = (B r) ∧ L = []) := by
 refine cal2 (n := 9) Tryz.func55 rfl rfl rfl rfl ?_
 intro S0 σ0 n0 hn0 H
 unfold M.slices_Contains_int_int at h
 refine c_seq (rg (sa (B false) rfl (w_end (q_then (c_seq (rg (sm (Sl Ce Cd Cf) rfl (sm (I Es) rfl ?_))))))))
 revert h; refine br fun r1 hx2 h => ?_
 have hc3 := c_slices_Index_int_int (Ce := Ce) (Cf := Cf) hx2
 refine st_call (cx_call hc3 (ent_f hc3.fn rfl) hn0 (H.sel' [0, 0] rfl rfl : Hp S0 σ0 _ ([_] ++ _))) wn ?_
 rintro _ σ4 ⟨_, ⟨rfl, rfl⟩, H, -⟩
 replace H : Hp _ _ _ [_] := H
 refine st (v := (B (decide (0 ≤ r1)))) (rv_geq (a := r1) (b := 0) rfl rfl) (sa (B (decide (0 ≤ r1))) rfl (w_end (q_then (c_ret ?_))))
 obtain rfl := sj h
 exact fin_ret (v := (B (decide (0 ≤ r1)))) (results_ok Tryz.results55 (res_tmp (v := (B (decide (0 ≤ r1)))) rfl res_nil) rfl) ⟨rfl, rfl⟩ (H.sel' [] rfl rfl)

theorem c_cmp_Less_int {Bj : Int} {By : Int}  {r : Bool} (h : M.cmp_Less_int Bj By = some r) :
    Cal2 Tryz.prog 115 [(I Bj), (I By)] [] (fun n0 v L => v = (B r) ∧ L = []) := by
 refine cal2 (n := 17) Tryz.func115 rfl rfl rfl rfl ?_
 intro S0 σ0 n0 hn0 H
 unfold M.cmp_Less_int at h
 refine c_seq (rg (sa (B false) rfl (w_end (q_then (c_seq (rg (sm (I Bj) rfl ?_)))))))
 revert h; refine br fun r1 hx2 h => ?_
 have hc3 := c_cmp_isNaN_int hx2
 refine st_call (cx_call hc3 (ent_f hc3.fn rfl) hn0 (H.sel' [] rfl rfl : Hp S0 σ0 _ ([] ++ _))) wn ?_
 rintro _ σ4 ⟨_, ⟨rfl, rfl⟩, H, -⟩
 replace H : Hp _ _ _ [] := H
 refine sm (B r1) rfl ?_
 rcases Bool.eq_false_or_eq_true r1 with hb5 | hb5
 ·replace h := bif_t hb5 h
  refine st_g (v := (I By)) (congrArg some hb5) (rv_move rfl) ?_
  revert h; refine br fun r6 hx7 h => ?_
  have hc8 := c_cmp_isNaN_int hx7
  refine st_call (cx_call hc8 (ent_f hc8.fn rfl) hn0 (H.sel' [] rfl rfl : Hp S0 σ0 _ ([] ++ _))) (wanted_yes rfl (by exact (congrArg some hb5))) ?_
  rintro _ σ9 ⟨_, ⟨rfl, rfl⟩, H, -⟩
  replace H : Hp _ _ _ [] := H
  refine st_g (v := (B (!r6))) (congrArg some hb5) (rv_not rfl) (st (v := (B (!r6))) (rv_pick_t (congrArg B hb5) rfl) (sm (B (!r6)) rfl ?_))
  rcases Bool.eq_false_or_eq_true (!r6) with hb10 | hb10
  ·replace h := bif_t hb10 h
   refine st_skip (congrArg some hb10) (st_skip (congrArg some hb10) (st_skip (congrArg some hb10) (st (v := (B true)) (rv_pick_t (congrArg B hb10) rfl) (sa (B true) rfl (w_end (q_then (c_ret ?_)))))))
   obtain rfl := sj h
   exact fin_ret (v := (B true)) (results_ok Tryz.results115 (res_tmp (v := (B true)) rfl res_nil) rfl) ⟨rfl, rfl⟩ (H.sel' [] rfl rfl)
  ·replace h := bif_f hb10 h
   refine st_g (v := (I Bj)) (congrArg some hb10) (rv_move rfl) (st_g (v := (I By)) (congrArg some hb10) (rv_move rfl) (st_g (v := (B (decide (Bj < By)))) (congrArg some hb10) (rv_lss (a := Bj) (b := By) rfl rfl) (st (v := (B (decide (Bj < By)))) (rv_pick_f (congrArg B hb10) rfl) (sa (B (decide (Bj < By))) rfl (w_end (q_then (c_ret ?_)))))))
   obtain rfl := sj h
   exact fin_ret (v := (B (decide (Bj < By)))) (results_ok Tryz.results115 (res_tmp (v := (B (decide (Bj < By)))) rfl res_nil) rfl) ⟨rfl, rfl⟩ (H.sel' [] rfl rfl)
 ·replace h := bif_f hb5 h
  refine st_skip (congrArg some hb5) (st_skip (congrArg some hb5) (st_skip (congrArg some hb5) (st (v := (B false)) (rv_pick_f (congrArg B hb5) rfl) (sm (B false) rfl (st_g (v := (I Bj)) rfl (rv_move rfl) (st_g (v := (I By)) rfl (rv_move rfl) (st_g (v := (B (decide (Bj < By)))) rfl (rv_lss (a := Bj) (b := By) rfl rfl) (st (v := (B (decide (Bj < By)))) (rv_pick_f rfl rfl) (sa (B (decide (Bj < By))) rfl (w_end (q_then ?_)))))))))))
  refine c_ret ?_
  obtain rfl := sj h
  exact fin_ret (v := (B (decide (Bj < By)))) (results_ok Tryz.results115 (res_tmp (v := (B (decide (Bj < By)))) rfl res_nil) rfl) ⟨rfl, rfl⟩ (H.sel' [] rfl rfl)

theorem c_slices_insertionSortOrdered_int {Et : List Int} {Cl : Int} {Cm : Int} {Eu : Option Addr} {Ev : Nat} {r : (List Int)} (h : M.slices_insertionSortOrdered_int Et Cl Cm = some r) :
    Cal2 Tryz.prog 109 [(Sl Eu Et Ev), (I Cl), (I Cm)] [Ch.own 0 0 (Sl Eu Et Ev) Et] (fun n0 v L => v = (.tuple #[]) ∧ L = [Ch.own 0 0 (Sl Eu r Ev) r] ∧ r.length = Et.length) := by
 refine cal2 (n := 49) Tryz.func109 rfl rfl rfl rfl ?_
 intro S0 σ0 n0 hn0 H
 unfold M.slices_insertionSortOrdered_int at h
 refine c_seq (rg (sm (I Cl) rfl (st (v := (I (w64 (Cl + 1)))) (rv_add (a := Cl) (b := 1) rfl rfl) (sa (I (w64 (Cl + 1))) rfl (w_end (q_then ?_))))))
 obtain ⟨o1, hj, h'⟩ := bind_some h
 clear h
 refine c_cut (fun e a w => e = .normal ∧ ∃ (ρ : Nat → Value) (σ : St), a = fr 49 (updL ρ [(0, (Sl Eu o1 Ev))]) ∧ w = σ.w ∧ Hp S0 σ0 σ [Ch.own 0 0 (Sl Eu o1 Ev) o1] ∧ o1.length = Et.length) ?_ ?_
 ·clear h'
  rename _ = some o1 => h
  refine c_blk (wp_loopM _ h (fun s2 a w => ∃ (ρ : Nat → Value) (σ : St), a = fr 49 (updL ρ [(0, (Sl Eu s2.1 Ev)), (1, (I Cl)), (2, (I Cm)), (6, (I s2.2))]) ∧ w = σ.w ∧ Hp S0 σ0 σ [Ch.own 0 0 (Sl Eu s2.1 Ev) s2.1] ∧ s2.1.length = Et.length) ⟨_, σ0, fr_join ⟨rfl, rfl, rfl, rfl, trivial⟩, rfl, H.sel' [0] rfl rfl, rfl⟩ ?_)
  clear h H
  rintro s2 a w o ⟨ρ, σ3, rfl, rfl, H, hn4⟩ h hres
  refine c_seq (c_seq (rg (sm (I s2.2) rfl (sm (I Cm) rfl (st (v := (B (decide (s2.2 < Cm)))) (rv_lss (a := s2.2) (b := Cm) rfl rfl) (w_end (q_then ?_)))))))
  refine cd_cond (decide (s2.2 < Cm)) rfl (fun hb5 => ?_) (fun hb5 => ?_)
  ·replace h := bif_t hb5 h
   refine c_skip (q_then (c_seq (c_blk (c_seq (rg (sm (I s2.2) rfl (sa (I s2.2) rfl (w_end (q_then ?_)))))))))
   obtain ⟨o6, hj, h'⟩ := bind_some h
   clear h
   refine c_cut (fun e a w => e = .normal ∧ ∃ (ρ : Nat → Value) (σ : St), a = fr 49 (updL ρ [(0, (Sl Eu o6 Ev)), (1, (I Cl)), (2, (I Cm)), (6, (I s2.2))]) ∧ w = σ.w ∧ Hp S0 σ0 σ [Ch.own 0 0 (Sl Eu o6 Ev) o6] ∧ o6.length = s2.1.length) ?_ ?_
   ·clear h'
    rename _ = some o6 => h
    refine c_blk (wp_loopM _ h (fun s7 a w => ∃ (ρ : Nat → Value) (σ : St), a = fr 49 (updL ρ [(0, (Sl Eu s7.1 Ev)), (1, (I Cl)), (2, (I Cm)), (6, (I s2.2)), (7, (I s7.2))]) ∧ w = σ.w ∧ Hp S0 σ0 σ [Ch.own 0 0 (Sl Eu s7.1 Ev) s7.1] ∧ s7.1.length = s2.1.length) ⟨_, σ3, fr_join ⟨rfl, rfl, rfl, rfl, rfl, trivial⟩, rfl, H.sel' [0] rfl rfl, rfl⟩ ?_)
    clear h H
    rintro s7 a w o ⟨ρ, σ8, rfl, rfl, H, hn9⟩ h hres
    refine c_seq (c_seq ?_)
    obtain ⟨o10, hj, h'⟩ := bind_some h
    clear h
    refine c_cut (fun e a w => e = .normal ∧ ∃ (ρ : Nat → Value) (σ : St), a = fr 49 (updL ρ [(0, (Sl Eu s7.1 Ev)), (1, (I Cl)), (2, (I Cm)), (6, (I s2.2)), (7, (I s7.2)), (30, (B o10))]) ∧ w = σ.w ∧ Hp S0 σ0 σ [Ch.own 0 0 (Sl Eu s7.1 Ev) s7.1]) ?_ ?_
    ·clear h'
     rename _ = some o10 => h
     refine rgP (σ := σ8) 13 (by kernel_rfl) (by kernel_rfl) (by kernel_rfl) ?_
     refine sq (v := (I s7.2)) (rv_move rfl) (sq (v := (I Cl)) (rv_move rfl) (sq (v := (B (decide (Cl < s7.2)))) (rv_gtr (a := s7.2) (b := Cl) rfl rfl) (sq (v := (B (decide (Cl < s7.2)))) (rv_move rfl) ?_)))
     rcases Bool.eq_false_or_eq_true (decide (Cl < s7.2)) with hb11 | hb11
     ·replace h := bif_t hb11 h
      refine sq_g (v := (Sl Eu s7.1 Ev)) (congrArg some hb11) (rv_move rfl) (sq_g (v := (I s7.2)) (congrArg some hb11) (rv_move rfl) ?_)
      revert h; refine br fun x12 hx13 h => ?_
      obtain ⟨b15, o16, hi14, -⟩ := (H.own 0 rfl).ix hx13
      refine sq_g (v := (pt b15 o16)) (congrArg some hb11) (rv_ix Tryz.underlying26 ti3 rfl rfl hi14) ?_
      have hc17 := ((H.own 0 rfl).at hx13 hi14).int
      refine sq_g (v := (I x12)) (congrArg some hb11) (rv_load1 Tryz.underlying3 rfl rfl hc17) (sq_g (v := (Sl Eu s7.1 Ev)) (congrArg some hb11) (rv_move rfl) (sq_g (v := (I s7.2)) (congrArg some hb11) (rv_move rfl) (sq_g (v := (I (w64 (s7.2 - 1)))) (congrArg some hb11) (rv_sub (a := s7.2) (b := 1) rfl rfl) ?_)))
      revert h; refine br fun x18 hx19 h => ?_
      obtain ⟨b21, o22, hi20, -⟩ := (H.own 0 rfl).ix hx19
      refine sq_g (v := (pt b21 o22)) (congrArg some hb11) (rv_ix Tryz.underlying26 ti3 rfl rfl hi20) ?_
      have hc23 := ((H.own 0 rfl).at hx19 hi20).int
      refine sq_g (v := (I x18)) (congrArg some hb11) (rv_load1 Tryz.underlying3 rfl rfl hc23) (sq_end ?_)
      intro σ24 hm25
      replace H := H.grow (hm25.mono fun _ h => h); clear hm25
      revert h; refine br fun r26 hx27 h => ?_
      have hc28 := c_cmp_Less_int hx27
      refine st_call (cx_call hc28 (ent_f hc28.fn rfl) hn0 (H.sel' [0] rfl rfl : Hp S0 σ0 _ ([] ++ _))) (wanted_yes rfl (by exact (congrArg some hb11))) ?_
      rintro _ σ29 ⟨_, ⟨rfl, rfl⟩, H, -⟩
      replace H : Hp _ _ _ [_] := H
      refine st (v := (B r26)) (rv_pick_t (congrArg B hb11) rfl) (w_end ?_)
      obtain rfl := sj h
      exact ⟨rfl, _, σ29, fr_join ⟨rfl, rfl, rfl, rfl, rfl, rfl, trivial⟩, rfl, H.sel' [0] rfl rfl⟩
     ·replace h := bif_f hb11 h
      refine sq_skip (congrArg some hb11) (sq_skip (congrArg some hb11) (sq_skip (congrArg some hb11) (sq_skip (congrArg some hb11) (sq_skip (congrArg some hb11) (sq_skip (congrArg some hb11) (sq_skip (congrArg some hb11) (sq_skip (congrArg some hb11) (sq_skip (congrArg some hb11) (sq_end ?_)))))))))
      intro σ30 hm31
      replace H := H.grow (hm31.mono fun _ h => h); clear hm31
      refine st_skip (congrArg some hb11) (st (v := (B false)) (rv_pick_f (congrArg B hb11) rfl) (w_end ?_))
      obtain rfl := sj h
      exact ⟨rfl, _, σ30, fr_join ⟨rfl, rfl, rfl, rfl, rfl, rfl, trivial⟩, rfl, H.sel' [0] rfl rfl⟩
    ·clear hj
     have h := h'
     clear h' H
     rintro e a w ⟨rfl, ρ, σ32, rfl, rfl, H⟩
     refine q_then ?_
     refine cd_cond o10 rfl (fun hb33 => ?_) (fun hb33 => ?_)
     ·replace h := bif_t hb33 h
      refine c_skip (q_then (c_seq (c_blk ?_)))
      revert h; refine br fun x34 hx35 h => ?_
      obtain ⟨b37, o38, hi36, -⟩ := (H.own 0 rfl).ix hx35
      have hc39 := ((H.own 0 rfl).at hx35 hi36).int
      revert h; refine br fun x40 hx41 h => ?_
      obtain ⟨b43, o44, hi42, -⟩ := (H.own 0 rfl).ix hx41
      have hc45 := ((H.own 0 rfl).at hx41 hi42).int
      revert h; refine br fun x46 hx47 h => ?_
      obtain ⟨b49, o50, hi48, -⟩ := (H.own 0 rfl).ix hx47
      have Hs := H
      refine rg2 (σ := σ32) (Nm := Unit) 16 [15] [[false], [true]] [[(0, 0)], [(0, 0)], [(0, 0), (1, 1)], [(0, 0), (1, 1)], [(0, 0), (1, 1)], [(0, 0)], [(0, 0)], [(0, 0)], [(0, 0)], [(0, 0)], [(0, 0)], [(0, 0)], [(0, 0)], [(0, 0)], [(0, 0)], [(0, 1)]] 1 [fun _ => fun σm => Hp S0 σ0 σm [Ch.own 0 0 (Sl Eu s7.1 Ev) s7.1] ∧ Md (cov []) σ32 σm, fun _ => fun σm => Hp S0 σ0 σm [Ch.own 0 0 (Sl Eu s7.1 Ev) (s7.1.set s7.2.toNat x34)] ∧ Md (fun i => (cov []) i ∨ (fun b => blk (Sl Eu s7.1 Ev) = some b) i) σ32 σm] [fun _ => (Sl Eu s7.1 Ev), fun _ => (I s7.2), fun _ => (Sl Eu s7.1 Ev), fun _ => (I s7.2), fun _ => (I (w64 (s7.2 - 1))), fun _ => (Sl Eu s7.1 Ev), fun _ => (I s7.2), fun _ => (I (w64 (s7.2 - 1))), fun _ => (pt b37 o38), fun _ => (I x34), fun _ => (Sl Eu s7.1 Ev), fun _ => (I s7.2), fun _ => (pt b43 o44), fun _ => (I x40), fun _ => (pt b49 o50), fun _ => undef] () (by kernel_rfl) (by kernel_rfl) ?_ ?_ ?_
      ·intro σm m0
       exact ⟨H.grow (m0.mono fun _ h => h.elim), m0⟩
      ·refine ac rfl (by
         intro k _nm ρ σm hJ hoff hdep
         have e0 := look_off (N := 49) (hoff 0 rfl) rfl
         exact dp_v (v := (Sl Eu s7.1 Ev)) wn (rv_move e0) rfl hJ) ?_
       refine ac rfl (by
         intro k _nm ρ σm hJ hoff hdep
         have e7 := look_off (N := 49) (hoff 7 rfl) rfl
         exact dp_v (v := (I s7.2)) wn (rv_move e7) rfl hJ) ?_
       refine ac rfl (by
         intro k _nm ρ σm hJ hoff hdep
         have e0 := look_off (N := 49) (hoff 0 rfl) rfl
         exact dp_v (v := (Sl Eu s7.1 Ev)) wn (rv_move e0) rfl hJ) ?_
       refine ac rfl (by
         intro k _nm ρ σm hJ hoff hdep
         have e7 := look_off (N := 49) (hoff 7 rfl) rfl
         exact dp_v (v := (I s7.2)) wn (rv_move e7) rfl hJ) ?_
       refine ac rfl (by
         intro k _nm ρ σm hJ hoff hdep
         have e36 := hdep 3 rfl rfl 36 rfl
         exact dp_v (v := (I (w64 (s7.2 - 1)))) wn (rv_sub (a := s7.2) (b := 1) e36 rfl) rfl hJ) ?_
       refine ac rfl (by
         intro k _nm ρ σm hJ hoff hdep
         have e0 := look_off (N := 49) (hoff 0 rfl) rfl
         exact dp_v (v := (Sl Eu s7.1 Ev)) wn (rv_move e0) rfl hJ) ?_
       refine ac rfl (by
         intro k _nm ρ σm hJ hoff hdep
         have e7 := look_off (N := 49) (hoff 7 rfl) rfl
         exact dp_v (v := (I s7.2)) wn (rv_move e7) rfl hJ) ?_
       refine ac rfl (by
         intro k _nm ρ σm hJ hoff hdep
         have e39 := hdep 6 rfl rfl 39 rfl
         exact dp_v (v := (I (w64 (s7.2 - 1)))) wn (rv_sub (a := s7.2) (b := 1) e39 rfl) rfl hJ) ?_
       refine ac rfl (by
         intro k _nm ρ σm hJ hoff hdep
         have e38 := hdep 5 rfl rfl 38 rfl
         have e40 := hdep 7 rfl rfl 40 rfl
         exact dp_v (v := (pt b37 o38)) wn (rv_ix Tryz.underlying26 ti3 e38 e40 hi36) rfl hJ) ?_
       refine all_cons (by
         refine ⟨?_, ?_⟩
         ·intro _nm ρ σm hJ hoff hdep
          have e41 := hdep 8 rfl rfl 41 rfl
          obtain ⟨H, m⟩ := id hJ
          have hc39 := ((H.own 0 rfl).at hx35 hi36).int
          exact dp_v (v := (I x34)) wn (rv_load1 Tryz.underlying3 rfl e41 hc39) rfl hJ
         trivial) ?_
       refine ac rfl (by
         intro k _nm ρ σm hJ hoff hdep
         have e0 := look_off (N := 49) (hoff 0 rfl) rfl
         exact dp_v (v := (Sl Eu s7.1 Ev)) wn (rv_move e0) rfl hJ) ?_
       refine ac rfl (by
         intro k _nm ρ σm hJ hoff hdep
         have e7 := look_off (N := 49) (hoff 7 rfl) rfl
         exact dp_v (v := (I s7.2)) wn (rv_move e7) rfl hJ) ?_
       refine ac rfl (by
         intro k _nm ρ σm hJ hoff hdep
         have e43 := hdep 10 rfl rfl 43 rfl
         have e44 := hdep 11 rfl rfl 44 rfl
         exact dp_v (v := (pt b43 o44)) wn (rv_ix Tryz.underlying26 ti3 e43 e44 hi42) rfl hJ) ?_
       refine all_cons (by
         refine ⟨?_, ?_⟩
         ·intro _nm ρ σm hJ hoff hdep
          have e45 := hdep 12 rfl rfl 45 rfl
          obtain ⟨H, m⟩ := id hJ
          have hc45 := ((H.own 0 rfl).at hx41 hi42).int
          exact dp_v (v := (I x40)) wn (rv_load1 Tryz.underlying3 rfl e45 hc45) rfl hJ
         trivial) ?_
       refine ac rfl (by
         intro k _nm ρ σm hJ hoff hdep
         have e33 := hdep 0 rfl rfl 33 rfl
         have e34 := hdep 1 rfl rfl 34 rfl
         exact dp_v (v := (pt b49 o50)) wn (rv_ix Tryz.underlying26 ti3 e33 e34 hi48) rfl hJ) ?_
       refine all_cons (by
         refine ⟨?_, ?_⟩
         ·intro _nm ρ σm hJ hoff hdep
          have e47 := hdep 14 rfl rfl 47 rfl
          have e42 := hdep 9 rfl rfl 42 rfl
          obtain ⟨H, m⟩ := id hJ
          refine dp_exS wn rfl (ex_store_own (e' := x34) (vs := [(I x34)]) (k := 0) H (i := 0) rfl ti3 hx47 hi48 e47 rfl e42 rfl rfl (Nat.le_of_ble_eq_true rfl) (by simp [plain]) (by rintro _ rfl; exact rfl)) ?_
          rintro σq ⟨H2, m2⟩
          exact ⟨_, (), rfl, ⟨H2.sel' [0] rfl rfl, m.comp m2⟩, stab [0, 1, 2, 3, 4, 5, 6, 7, 8, 9, 10, 11, 12, 13, 14] (by kernel_rfl) ⟨rfl, rfl, rfl, rfl, rfl, rfl, rfl, rfl, rfl, rfl, rfl, rfl, rfl, rfl, rfl, trivial⟩⟩
         trivial) ?_
       exact all_nil
      ·intro _nm ρ σ51 hJ hoff hrel
       have e0 := look_off (N := 49) (hoff 0 rfl) rfl
       have e1 := look_off (N := 49) (hoff 1 rfl) rfl
       have e2 := look_off (N := 49) (hoff 2 rfl) rfl
       have e6 := look_off (N := 49) (hoff 6 rfl) rfl
       have e7 := look_off (N := 49) (hoff 7 rfl) rfl
       have e35 := hrel 2 rfl 35 rfl
       have e37 := hrel 4 rfl 37 rfl
       have e46 := hrel 13 rfl 46 rfl
       obtain ⟨H, -⟩ := (show Hp S0 σ0 σ51 [Ch.own 0 0 (Sl Eu s7.1 Ev) (s7.1.set s7.2.toNat x34)] ∧ Md (fun i => (cov []) i ∨ (fun b => blk (Sl Eu s7.1 Ev) = some b) i) σ32 σ51 from hJ)
       clear hJ Hs
       rw [fr_lookL (L := [(0, (Sl Eu s7.1 Ev)), (1, (I Cl)), (2, (I Cm)), (6, (I s2.2)), (7, (I s7.2)), (35, (Sl Eu s7.1 Ev)), (37, (I (w64 (s7.2 - 1)))), (46, (I x40))]) ⟨e0, e1, e2, e6, e7, e35, e37, e46, trivial⟩]
       clear hoff hrel e0 e1 e2 e6 e7 e35 e37 e46
       have hsl : (Sl Eu s7.1 Ev) = (Sl Eu (s7.1.set s7.2.toNat x34) Ev) := sl_len (by simp)
       rw [hsl]; rw [hsl] at H; clear hsl
       revert h; refine br fun x52 hx53 h => ?_
       obtain ⟨b55, o56, hi54, -⟩ := (H.own 0 rfl).ix hx53
       refine st (v := (pt b55 o56)) (rv_ix Tryz.underlying26 ti3 rfl rfl hi54) ?_
       refine st_exS (ex_store_own (e' := x40) (vs := [(I x40)]) (k := 0) H (i := 0) rfl ti3 hx53 hi54 rfl rfl rfl rfl rfl (Nat.le_of_ble_eq_true rfl) (by simp [plain]) (by rintro _ rfl; exact rfl)) wn ?_
       rintro σ57 ⟨H, -⟩
       have hsl : (Sl Eu (s7.1.set s7.2.toNat x34) Ev) = (Sl Eu ((s7.1.set s7.2.toNat x34).set (w64 (s7.2 - 1)).toNat x40) Ev) := sl_len List.length_set.symm
       rw [hsl]; rw [hsl] at H; clear hsl
       refine w_end (q_blk (q_then (rg (sm (I s7.2) rfl (st (v := (I (w64 (s7.2 - 1)))) (rv_sub (a := s7.2) (b := 1) rfl rfl) (sa (I (w64 (s7.2 - 1))) rfl (w_end (q_then ?_))))))))
       obtain rfl := sj h
       exact ⟨_, rfl, _, σ57, fr_join ⟨rfl, rfl, rfl, rfl, rfl, trivial⟩, rfl, H.sel' [0] rfl rfl, ((List.length_set.trans (List.length_set.trans (hn9.trans hn4))).trans hn4.symm)⟩
     ·replace h := bif_f hb33 h
      refine c_exit (q_then_x (q_then_x (q_blk_hit ?_)))
      obtain rfl := sj h
      obtain rfl := hres _ rfl
      exact ⟨rfl, _, σ32, fr_join ⟨rfl, rfl, rfl, rfl, trivial⟩, rfl, H.sel' [0] rfl rfl, ((hn9.trans hn4).trans hn4.symm)⟩
   ·clear hj
    have h := h'
    clear h' H
    rintro e a w ⟨rfl, ρ, σ58, rfl, rfl, H, hn59⟩
    refine q_blk (q_then (rg (sm (I s2.2) rfl (st (v := (I (w64 (s2.2 + 1)))) (rv_add (a := s2.2) (b := 1) rfl rfl) (sa (I (w64 (s2.2 + 1))) rfl (w_end (q_then ?_)))))))
    obtain rfl := sj h
    exact ⟨_, rfl, _, σ58, fr_join ⟨rfl, rfl, rfl, rfl, trivial⟩, rfl, H.sel' [0] rfl rfl, (hn59.trans hn4)⟩
  ·replace h := bif_f hb5 h
   refine c_exit (q_then_x (q_then_x (q_blk_hit ?_)))
   obtain rfl := sj h
   obtain rfl := hres _ rfl
   exact ⟨rfl, _, σ3, fr_join ⟨rfl, trivial⟩, rfl, H.sel' [0] rfl rfl, hn4⟩
 ·clear hj
  have h := h'
  clear h' H
  rintro e a w ⟨rfl, ρ, σ60, rfl, rfl, H, hn61⟩
  obtain rfl := sj h
  exact fin_end (v := (.tuple #[])) (results_ok Tryz.results109 res_nil rfl) ⟨rfl, rfl, hn61⟩ (H.sel' [0] rfl rfl)

theorem c_slices_siftDownOrdered_int {Et : List Int} {Ew : Int} {Ey : Int} {Ez : Int} {Eu : Option Addr} {Ev : Nat} {r : (List Int)} (h : M.slices_siftDownOrdered_int Et Ew Ey Ez = some r) :
    Cal2 Tryz.prog 126 [(Sl Eu Et Ev), (I Ew), (I Ey), (I Ez)] [Ch.own 0 0 (Sl Eu Et Ev) Et] (fun n0 v L => v = (.tuple #[]) ∧ L = [Ch.own 0 0 (Sl Eu r Ev) r] ∧ r.length = Et.length) := by
 refine cal2 (n := 76) Tryz.func126 rfl rfl rfl rfl ?_
 intro S0 σ0 n0 hn0 H
 unfold M.slices_siftDownOrdered_int at h
 refine c_seq (rg (sm (I Ew) rfl (sa (I Ew) rfl (w_end (q_then ?_)))))
 obtain ⟨o1, hj, h'⟩ := bind_some h
 clear h
 refine c_cut (fun e a w => (∃ t, o1 = (.inl t) ∧ e = .normal ∧ ∃ (ρ : Nat → Value) (σ : St), a = fr 76 (updL ρ [(0, (Sl Eu t Ev))]) ∧ w = σ.w ∧ Hp S0 σ0 σ [Ch.own 0 0 (Sl Eu t Ev) t] ∧ t.length = Et.length) ∨ (∃ t, o1 = (.inr t) ∧ e = .ret ∧ ∃ (ρ : Nat → Value) (σ : St), a = fr 76 (updL ρ [(0, (Sl Eu t Ev))]) ∧ w = σ.w ∧ Hp S0 σ0 σ [Ch.own 0 0 (Sl Eu t Ev) t] ∧ t.length = Et.length)) ?_ ?_
 ·clear h'
  rename _ = some o1 => h
  refine c_blk (wp_loopM _ h (fun s2 a w => ∃ (ρ : Nat → Value) (σ : St), a = fr 76 (updL ρ [(0, (Sl Eu s2.1 Ev)), (2, (I Ey)), (3, (I Ez)), (8, (I s2.2))]) ∧ w = σ.w ∧ Hp S0 σ0 σ [Ch.own 0 0 (Sl Eu s2.1 Ev) s2.1] ∧ s2.1.length = Et.length) ⟨_, σ0, fr_join ⟨rfl, rfl, rfl, rfl, trivial⟩, rfl, H.sel' [0] rfl rfl, rfl⟩ ?_)
  clear h H
  rintro s2 a w o ⟨ρ, σ3, rfl, rfl, H, hn4⟩ h hres
  refine c_blk (c_seq (rg (sm (I s2.2) rfl (st (v := (I (w64 (2 * s2.2)))) (rv_mul (a := 2) (b := s2.2) rfl rfl) (st (v := (I (w64 ((w64 (2 * s2.2)) + 1)))) (rv_add (a := (w64 (2 * s2.2))) (b := 1) rfl rfl) (sa (I (w64 ((w64 (2 * s2.2)) + 1))) rfl (w_end (q_then (c_seq (c_seq (rg ?_)))))))))))
  refine sm (I (w64 ((w64 (2 * s2.2)) + 1))) rfl (sm (I Ey) rfl (st (v := (B (decide (Ey ≤ (w64 ((w64 (2 * s2.2)) + 1)))))) (rv_geq (a := (w64 ((w64 (2 * s2.2)) + 1))) (b := Ey) rfl rfl) (w_end (q_then ?_))))
  refine cd_cond (decide (Ey ≤ (w64 ((w64 (2 * s2.2)) + 1)))) rfl (fun hb5 => ?_) (fun hb5 => ?_)
  ·replace h := bif_t hb5 h
   refine c_exit (q_then_x ?_)
   refine q_blk_x (by decide) ?_
   refine q_then_x (q_blk_hit ?_)
   obtain rfl := sj h
   obtain rfl := hres _ rfl
   exact .inl ⟨_, rfl, rfl, _, σ3, fr_join ⟨rfl, trivial⟩, rfl, H.sel' [0] rfl rfl, hn4⟩
  ·replace h := bif_f hb5 h
   refine c_skip (q_then (c_seq (c_seq ?_)))
   obtain ⟨o6, hj, h'⟩ := bind_some h
   clear h
   refine c_cut (fun e a w => e = .normal ∧ ∃ (ρ : Nat → Value) (σ : St), a = fr 76 (updL ρ [(0, (Sl Eu s2.1 Ev)), (2, (I Ey)), (3, (I Ez)), (8, (I s2.2)), (9, (I (w64 ((w64 (2 * s2.2)) + 1)))), (36, (B o6))]) ∧ w = σ.w ∧ Hp S0 σ0 σ [Ch.own 0 0 (Sl Eu s2.1 Ev) s2.1]) ?_ ?_
   ·clear h'
    rename _ = some o6 => h
    refine rgP (σ := σ3) 18 (by kernel_rfl) (by kernel_rfl) (by kernel_rfl) ?_
    refine sq (v := (I (w64 ((w64 (2 * s2.2)) + 1)))) (rv_move rfl) (sq (v := (I (w64 ((w64 ((w64 (2 * s2.2)) + 1)) + 1)))) (rv_add (a := (w64 ((w64 (2 * s2.2)) + 1))) (b := 1) rfl rfl) (sq (v := (I Ey)) (rv_move rfl) (sq (v := (B (decide ((w64 ((w64 ((w64 (2 * s2.2)) + 1)) + 1)) < Ey)))) (rv_lss (a := (w64 ((w64 ((w64 (2 * s2.2)) + 1)) + 1))) (b := Ey) rfl rfl) (sq (v := (B (decide ((w64 ((w64 ((w64 (2 * s2.2)) + 1)) + 1)) < Ey)))) (rv_move rfl) ?_))))
    rcases Bool.eq_false_or_eq_true (decide ((w64 ((w64 ((w64 (2 * s2.2)) + 1)) + 1)) < Ey)) with hb7 | hb7
    ·replace h := bif_t hb7 h
     refine sq_g (v := (Sl Eu s2.1 Ev)) (congrArg some hb7) (rv_move rfl) (sq_g (v := (I Ez)) (congrArg some hb7) (rv_move rfl) (sq_g (v := (I (w64 ((w64 (2 * s2.2)) + 1)))) (congrArg some hb7) (rv_move rfl) (sq_g (v := (I (w64 (Ez + (w64 ((w64 (2 * s2.2)) + 1)))))) (congrArg some hb7) (rv_add (a := Ez) (b := (w64 ((w64 (2 * s2.2)) + 1))) rfl rfl) ?_)))
     revert h; refine br fun x8 hx9 h => ?_
     obtain ⟨b11, o12, hi10, -⟩ := (H.own 0 rfl).ix hx9
     refine sq_g (v := (pt b11 o12)) (congrArg some hb7) (rv_ix Tryz.underlying26 ti3 rfl rfl hi10) ?_
     have hc13 := ((H.own 0 rfl).at hx9 hi10).int
     refine sq_g (v := (I x8)) (congrArg some hb7) (rv_load1 Tryz.underlying3 rfl rfl hc13) (sq_g (v := (Sl Eu s2.1 Ev)) (congrArg some hb7) (rv_move rfl) (sq_g (v := (I Ez)) (congrArg some hb7) (rv_move rfl) (sq_g (v := (I (w64 ((w64 (2 * s2.2)) + 1)))) (congrArg some hb7) (rv_move rfl) (sq_g (v := (I (w64 (Ez + (w64 ((w64 (2 * s2.2)) + 1)))))) (congrArg some hb7) (rv_add (a := Ez) (b := (w64 ((w64 (2 * s2.2)) + 1))) rfl rfl) (sq_g (v := (I (w64 ((w64 (Ez + (w64 ((w64 (2 * s2.2)) + 1)))) + 1)))) (congrArg some hb7) (rv_add (a := (w64 (Ez + (w64 ((w64 (2 * s2.2)) + 1))))) (b := 1) rfl rfl) ?_)))))
     revert h; refine br fun x14 hx15 h => ?_
     obtain ⟨b17, o18, hi16, -⟩ := (H.own 0 rfl).ix hx15
     refine sq_g (v := (pt b17 o18)) (congrArg some hb7) (rv_ix Tryz.underlying26 ti3 rfl rfl hi16) ?_
     have hc19 := ((H.own 0 rfl).at hx15 hi16).int
     refine sq_g (v := (I x14)) (congrArg some hb7) (rv_load1 Tryz.underlying3 rfl rfl hc19) (sq_end ?_)
     intro σ20 hm21
     replace H := H.grow (hm21.mono fun _ h => h); clear hm21
     revert h; refine br fun r22 hx23 h => ?_
     have hc24 := c_cmp_Less_int hx23
     refine st_call (cx_call hc24 (ent_f hc24.fn rfl) hn0 (H.sel' [0] rfl rfl : Hp S0 σ0 _ ([] ++ _))) (wanted_yes rfl (by exact (congrArg some hb7))) ?_
     rintro _ σ25 ⟨_, ⟨rfl, rfl⟩, H, -⟩
     replace H : Hp _ _ _ [_] := H
     refine st (v := (B r22)) (rv_pick_t (congrArg B hb7) rfl) (w_end ?_)
     obtain rfl := sj h
     exact ⟨rfl, _, σ25, fr_join ⟨rfl, rfl, rfl, rfl, rfl, rfl, trivial⟩, rfl, H.sel' [0] rfl rfl⟩
    ·replace h := bif_f hb7 h
     refine sq_skip (congrArg some hb7) (sq_skip (congrArg some hb7) (sq_skip (congrArg some hb7) (sq_skip (congrArg some hb7) (sq_skip (congrArg some hb7) (sq_skip (congrArg some hb7) (sq_skip (congrArg some hb7) (sq_skip (congrArg some hb7) (sq_skip (congrArg some hb7) (sq_skip (congrArg some hb7) (sq_skip (congrArg some hb7) (sq_skip (congrArg some hb7) ?_)))))))))))
     refine sq_skip (congrArg some hb7) (sq_end ?_)
     intro σ26 hm27
     replace H := H.grow (hm27.mono fun _ h => h); clear hm27
     refine st_skip (congrArg some hb7) (st (v := (B false)) (rv_pick_f (congrArg B hb7) rfl) (w_end ?_))
     obtain rfl := sj h
     exact ⟨rfl, _, σ26, fr_join ⟨rfl, rfl, rfl, rfl, rfl, rfl, trivial⟩, rfl, H.sel' [0] rfl rfl⟩
   ·clear hj
    have h := h'
    clear h' H
    rintro e a w ⟨rfl, ρ, σ28, rfl, rfl, H⟩
    refine q_then ?_
    obtain ⟨o29, hj, h'⟩ := bind_some h
    clear h
    refine c_cut (fun e a w => e = .normal ∧ ∃ (ρ : Nat → Value) (σ : St), a = fr 76 (updL ρ [(0, (Sl Eu s2.1 Ev)), (2, (I Ey)), (3, (I Ez)), (8, (I s2.2)), (9, (I o29))]) ∧ w = σ.w ∧ Hp S0 σ0 σ [Ch.own 0 0 (Sl Eu s2.1 Ev) s2.1]) ?_ ?_
    ·clear h'
     rename _ = some o29 => h
     refine cd_cond o6 rfl (fun hb30 => ?_) (fun hb30 => ?_)
     ·replace h := bif_t hb30 h
      refine rg (sm (I (w64 ((w64 (2 * s2.2)) + 1))) rfl (st (v := (I (w64 ((w64 ((w64 (2 * s2.2)) + 1)) + 1)))) (rv_add (a := (w64 ((w64 (2 * s2.2)) + 1))) (b := 1) rfl rfl) (sa (I (w64 ((w64 ((w64 (2 * s2.2)) + 1)) + 1))) rfl (w_end ?_))))
      obtain rfl := sj h
      exact ⟨rfl, _, σ28, fr_join ⟨rfl, rfl, rfl, rfl, rfl, trivial⟩, rfl, H.sel' [0] rfl rfl⟩
     ·replace h := bif_f hb30 h
      refine c_skip ?_
      obtain rfl := sj h
      exact ⟨rfl, _, σ28, fr_join ⟨rfl, rfl, rfl, rfl, rfl, trivial⟩, rfl, H.sel' [0] rfl rfl⟩
    ·clear hj
     have h := h'
     clear h' H
     rintro e a w ⟨rfl, ρ, σ31, rfl, rfl, H⟩
     refine q_then (c_seq (c_seq ?_))
     refine rgP (σ := σ31) 12 (by kernel_rfl) (by kernel_rfl) (by kernel_rfl) ?_
     refine sq (v := (Sl Eu s2.1 Ev)) (rv_move rfl) (sq (v := (I Ez)) (rv_move rfl) (sq (v := (I s2.2)) (rv_move rfl) (sq (v := (I (w64 (Ez + s2.2)))) (rv_add (a := Ez) (b := s2.2) rfl rfl) ?_)))
     revert h; refine br fun x32 hx33 h => ?_
     obtain ⟨b35, o36, hi34, -⟩ := (H.own 0 rfl).ix hx33
     refine sq (v := (pt b35 o36)) (rv_ix Tryz.underlying26 ti3 rfl rfl hi34) ?_
     have hc37 := ((H.own 0 rfl).at hx33 hi34).int
     refine sq (v := (I x32)) (rv_load1 Tryz.underlying3 rfl rfl hc37) (sq (v := (Sl Eu s2.1 Ev)) (rv_move rfl) (sq (v := (I Ez)) (rv_move rfl) (sq (v := (I o29)) (rv_move rfl) (sq (v := (I (w64 (Ez + o29)))) (rv_add (a := Ez) (b := o29) rfl rfl) ?_))))
     revert h; refine br fun x38 hx39 h => ?_
     obtain ⟨b41, o42, hi40, -⟩ := (H.own 0 rfl).ix hx39
     refine sq (v := (pt b41 o42)) (rv_ix Tryz.underlying26 ti3 rfl rfl hi40) ?_
     have hc43 := ((H.own 0 rfl).at hx39 hi40).int
     refine sq (v := (I x38)) (rv_load1 Tryz.underlying3 rfl rfl hc43) (sq_end ?_)
     intro σ44 hm45
     replace H := H.grow (hm45.mono fun _ h => h); clear hm45
     revert h; refine br fun r46 hx47 h => ?_
     have hc48 := c_cmp_Less_int hx47
     refine st_call (cx_call hc48 (ent_f hc48.fn rfl) hn0 (H.sel' [0] rfl rfl : Hp S0 σ0 _ ([] ++ _))) wn ?_
     rintro _ σ49 ⟨_, ⟨rfl, rfl⟩, H, -⟩
     replace H : Hp _ _ _ [_] := H
     refine st (v := (B (!r46))) (rv_not rfl) (w_end (q_then ?_))
     refine cd_cond (!r46) rfl (fun hb50 => ?_) (fun hb50 => ?_)
     ·replace h := bif_t hb50 h
      refine c_ret (q_then_r (q_blk_r (q_then_r (q_blk_r ?_))))
      obtain rfl := sj h
      obtain rfl := hres _ rfl
      exact .inr (⟨_, rfl, rfl, _, σ49, fr_join ⟨rfl, trivial⟩, rfl, H.sel' [0] rfl rfl, hn4⟩)
     ·replace h := bif_f hb50 h
      refine c_skip (q_then (c_seq ?_))
      revert h; refine br fun x51 hx52 h => ?_
      obtain ⟨b54, o55, hi53, -⟩ := (H.own 0 rfl).ix hx52
      have hc56 := ((H.own 0 rfl).at hx52 hi53).int
      revert h; refine br fun x57 hx58 h => ?_
      obtain ⟨b60, o61, hi59, -⟩ := (H.own 0 rfl).ix hx58
      have hc62 := ((H.own 0 rfl).at hx58 hi59).int
      revert h; refine br fun x63 hx64 h => ?_
      obtain ⟨b66, o67, hi65, -⟩ := (H.own 0 rfl).ix hx64
      have Hs := H
      refine rg2 (σ := σ49) (Nm := Unit) 22 [21] [[false], [true]] [[(0, 0)], [(0, 0)], [(0, 0)], [(0, 0)], [(0, 0), (1, 1)], [(0, 0), (1, 1)], [(0, 0), (1, 1)], [(0, 0), (1, 1)], [(0, 0)], [(0, 0)], [(0, 0)], [(0, 0)], [(0, 0)], [(0, 0)], [(0, 0)], [(0, 0)], [(0, 0)], [(0, 0)], [(0, 0)], [(0, 0)], [(0, 0)], [(0, 1)]] 1 [fun _ => fun σm => Hp S0 σ0 σm [Ch.own 0 0 (Sl Eu s2.1 Ev) s2.1] ∧ Md (cov []) σ49 σm, fun _ => fun σm => Hp S0 σ0 σm [Ch.own 0 0 (Sl Eu s2.1 Ev) (s2.1.set (w64 (Ez + s2.2)).toNat x51)] ∧ Md (fun i => (cov []) i ∨ (fun b => blk (Sl Eu s2.1 Ev) = some b) i) σ49 σm] [fun _ => (Sl Eu s2.1 Ev), fun _ => (I Ez), fun _ => (I s2.2), fun _ => (I (w64 (Ez + s2.2))), fun _ => (Sl Eu s2.1 Ev), fun _ => (I Ez), fun _ => (I o29), fun _ => (I (w64 (Ez + o29))), fun _ => (Sl Eu s2.1 Ev), fun _ => (I Ez), fun _ => (I o29), fun _ => (I (w64 (Ez + o29))), fun _ => (pt b54 o55), fun _ => (I x51), fun _ => (Sl Eu s2.1 Ev), fun _ => (I Ez), fun _ => (I s2.2), fun _ => (I (w64 (Ez + s2.2))), fun _ => (pt b60 o61), fun _ => (I x57), fun _ => (pt b66 o67), fun _ => undef] () (by kernel_rfl) (by kernel_rfl) ?_ ?_ ?_
      ·intro σm m0
       exact ⟨H.grow (m0.mono fun _ h => h.elim), m0⟩
      ·refine ac rfl (by
         intro k _nm ρ σm hJ hoff hdep
         have e0 := look_off (N := 76) (hoff 0 rfl) rfl
         exact dp_v (v := (Sl Eu s2.1 Ev)) wn (rv_move e0) rfl hJ) ?_
       refine ac rfl (by
         intro k _nm ρ σm hJ hoff hdep
         have e3 := look_off (N := 76) (hoff 3 rfl) rfl
         exact dp_v (v := (I Ez)) wn (rv_move e3) rfl hJ) ?_
       refine ac rfl (by
         intro k _nm ρ σm hJ hoff hdep
         have e8 := look_off (N := 76) (hoff 8 rfl) rfl
         exact dp_v (v := (I s2.2)) wn (rv_move e8) rfl hJ) ?_
       refine ac rfl (by
         intro k _nm ρ σm hJ hoff hdep
         have e54 := hdep 1 rfl rfl 54 rfl
         have e55 := hdep 2 rfl rfl 55 rfl
         exact dp_v (v := (I (w64 (Ez + s2.2)))) wn (rv_add (a := Ez) (b := s2.2) e54 e55) rfl hJ) ?_
       refine ac rfl (by
         intro k _nm ρ σm hJ hoff hdep
         have e0 := look_off (N := 76) (hoff 0 rfl) rfl
         exact dp_v (v := (Sl Eu s2.1 Ev)) wn (rv_move e0) rfl hJ) ?_
       refine ac rfl (by
         intro k _nm ρ σm hJ hoff hdep
         have e3 := look_off (N := 76) (hoff 3 rfl) rfl
         exact dp_v (v := (I Ez)) wn (rv_move e3) rfl hJ) ?_
       refine ac rfl (by
         intro k _nm ρ σm hJ hoff hdep
         have e9 := look_off (N := 76) (hoff 9 rfl) rfl
         exact dp_v (v := (I o29)) wn (rv_move e9) rfl hJ) ?_
       refine ac rfl (by
         intro k _nm ρ σm hJ hoff hdep
         have e58 := hdep 5 rfl rfl 58 rfl
         have e59 := hdep 6 rfl rfl 59 rfl
         exact dp_v (v := (I (w64 (Ez + o29)))) wn (rv_add (a := Ez) (b := o29) e58 e59) rfl hJ) ?_
       refine ac rfl (by
         intro k _nm ρ σm hJ hoff hdep
         have e0 := look_off (N := 76) (hoff 0 rfl) rfl
         exact dp_v (v := (Sl Eu s2.1 Ev)) wn (rv_move e0) rfl hJ) ?_
       refine ac rfl (by
         intro k _nm ρ σm hJ hoff hdep
         have e3 := look_off (N := 76) (hoff 3 rfl) rfl
         exact dp_v (v := (I Ez)) wn (rv_move e3) rfl hJ) ?_
       refine ac rfl (by
         intro k _nm ρ σm hJ hoff hdep
         have e9 := look_off (N := 76) (hoff 9 rfl) rfl
         exact dp_v (v := (I o29)) wn (rv_move e9) rfl hJ) ?_
       refine ac rfl (by
         intro k _nm ρ σm hJ hoff hdep
         have e62 := hdep 9 rfl rfl 62 rfl
         have e63 := hdep 10 rfl rfl 63 rfl
         exact dp_v (v := (I (w64 (Ez + o29)))) wn (rv_add (a := Ez) (b := o29) e62 e63) rfl hJ) ?_
       refine ac rfl (by
         intro k _nm ρ σm hJ hoff hdep
         have e61 := hdep 8 rfl rfl 61 rfl
         have e64 := hdep 11 rfl rfl 64 rfl
         exact dp_v (v := (pt b54 o55)) wn (rv_ix Tryz.underlying26 ti3 e61 e64 hi53) rfl hJ) ?_
       refine all_cons (by
         refine ⟨?_, ?_⟩
         ·intro _nm ρ σm hJ hoff hdep
          have e65 := hdep 12 rfl rfl 65 rfl
          obtain ⟨H, m⟩ := id hJ
          have hc56 := ((H.own 0 rfl).at hx52 hi53).int
          exact dp_v (v := (I x51)) wn (rv_load1 Tryz.underlying3 rfl e65 hc56) rfl hJ
         trivial) ?_
       refine ac rfl (by
         intro k _nm ρ σm hJ hoff hdep
         have e0 := look_off (N := 76) (hoff 0 rfl) rfl
         exact dp_v (v := (Sl Eu s2.1 Ev)) wn (rv_move e0) rfl hJ) ?_
       refine ac rfl (by
         intro k _nm ρ σm hJ hoff hdep
         have e3 := look_off (N := 76) (hoff 3 rfl) rfl
         exact dp_v (v := (I Ez)) wn (rv_move e3) rfl hJ) ?_
       refine ac rfl (by
         intro k _nm ρ σm hJ hoff hdep
         have e8 := look_off (N := 76) (hoff 8 rfl) rfl
         exact dp_v (v := (I s2.2)) wn (rv_move e8) rfl hJ) ?_
       refine ac rfl (by
         intro k _nm ρ σm hJ hoff hdep
         have e68 := hdep 15 rfl rfl 68 rfl
         have e69 := hdep 16 rfl rfl 69 rfl
         exact dp_v (v := (I (w64 (Ez + s2.2)))) wn (rv_add (a := Ez) (b := s2.2) e68 e69) rfl hJ) ?_
       refine ac rfl (by
         intro k _nm ρ σm hJ hoff hdep
         have e67 := hdep 14 rfl rfl 67 rfl
         have e70 := hdep 17 rfl rfl 70 rfl
         exact dp_v (v := (pt b60 o61)) wn (rv_ix Tryz.underlying26 ti3 e67 e70 hi59) rfl hJ) ?_
       refine all_cons (by
         refine ⟨?_, ?_⟩
         ·intro _nm ρ σm hJ hoff hdep
          have e71 := hdep 18 rfl rfl 71 rfl
          obtain ⟨H, m⟩ := id hJ
          have hc62 := ((H.own 0 rfl).at hx58 hi59).int
          exact dp_v (v := (I x57)) wn (rv_load1 Tryz.underlying3 rfl e71 hc62) rfl hJ
         trivial) ?_
       refine ac rfl (by
         intro k _nm ρ σm hJ hoff hdep
         have e53 := hdep 0 rfl rfl 53 rfl
         have e56 := hdep 3 rfl rfl 56 rfl
         exact dp_v (v := (pt b66 o67)) wn (rv_ix Tryz.underlying26 ti3 e53 e56 hi65) rfl hJ) ?_
       refine all_cons (by
         refine ⟨?_, ?_⟩
         ·intro _nm ρ σm hJ hoff hdep
          have e73 := hdep 20 rfl rfl 73 rfl
          have e66 := hdep 13 rfl rfl 66 rfl
          obtain ⟨H, m⟩ := id hJ
          refine dp_exS wn rfl (ex_store_own (e' := x51) (vs := [(I x51)]) (k := 0) H (i := 0) rfl ti3 hx64 hi65 e73 rfl e66 rfl rfl (Nat.le_of_ble_eq_true rfl) (by simp [plain]) (by rintro _ rfl; exact rfl)) ?_
          rintro σq ⟨H2, m2⟩
          exact ⟨_, (), rfl, ⟨H2.sel' [0] rfl rfl, m.comp m2⟩, stab [0, 1, 2, 3, 4, 5, 6, 7, 8, 9, 10, 11, 12, 13, 14, 15, 16, 17, 18, 19, 20] (by kernel_rfl) ⟨rfl, rfl, rfl, rfl, rfl, rfl, rfl, rfl, rfl, rfl, rfl, rfl, rfl, rfl, rfl, rfl, rfl, rfl, rfl, rfl, rfl, trivial⟩⟩
         trivial) ?_
       exact all_nil
      ·intro _nm ρ σ68 hJ hoff hrel
       have e0 := look_off (N := 76) (hoff 0 rfl) rfl
       have e2 := look_off (N := 76) (hoff 2 rfl) rfl
       have e3 := look_off (N := 76) (hoff 3 rfl) rfl
       have e9 := look_off (N := 76) (hoff 9 rfl) rfl
       have e57 := hrel 4 rfl 57 rfl
       have e60 := hrel 7 rfl 60 rfl
       have e72 := hrel 19 rfl 72 rfl
       obtain ⟨H, -⟩ := (show Hp S0 σ0 σ68 [Ch.own 0 0 (Sl Eu s2.1 Ev) (s2.1.set (w64 (Ez + s2.2)).toNat x51)] ∧ Md (fun i => (cov []) i ∨ (fun b => blk (Sl Eu s2.1 Ev) = some b) i) σ49 σ68 from hJ)
       clear hJ Hs
       rw [fr_lookL (L := [(0, (Sl Eu s2.1 Ev)), (2, (I Ey)), (3, (I Ez)), (9, (I o29)), (57, (Sl Eu s2.1 Ev)), (60, (I (w64 (Ez + o29)))), (72, (I x57))]) ⟨e0, e2, e3, e9, e57, e60, e72, trivial⟩]
       clear hoff hrel e0 e2 e3 e9 e57 e60 e72
       have hsl : (Sl Eu s2.1 Ev) = (Sl Eu (s2.1.set (w64 (Ez + s2.2)).toNat x51) Ev) := sl_len (by simp)
       rw [hsl]; rw [hsl] at H; clear hsl
       revert h; refine br fun x69 hx70 h => ?_
       obtain ⟨b72, o73, hi71, -⟩ := (H.own 0 rfl).ix hx70
       refine st (v := (pt b72 o73)) (rv_ix Tryz.underlying26 ti3 rfl rfl hi71) ?_
       refine st_exS (ex_store_own (e' := x57) (vs := [(I x57)]) (k := 0) H (i := 0) rfl ti3 hx70 hi71 rfl rfl rfl rfl rfl (Nat.le_of_ble_eq_true rfl) (by simp [plain]) (by rintro _ rfl; exact rfl)) wn ?_
       rintro σ74 ⟨H, -⟩
       have hsl : (Sl Eu (s2.1.set (w64 (Ez + s2.2)).toNat x51) Ev) = (Sl Eu ((s2.1.set (w64 (Ez + s2.2)).toNat x51).set (w64 (Ez + o29)).toNat x57) Ev) := sl_len List.length_set.symm
       rw [hsl]; rw [hsl] at H; clear hsl
       refine w_end (q_then (rg (sm (I o29) rfl (sa (I o29) rfl (w_end (q_blk (q_then ?_)))))))
       obtain rfl := sj h
       exact ⟨_, rfl, _, σ74, fr_join ⟨rfl, rfl, rfl, rfl, trivial⟩, rfl, H.sel' [0] rfl rfl, (List.length_set.trans (List.length_set.trans hn4))⟩
 ·clear hj
  have h := h'
  clear h' H
  rintro e a w (⟨t75, rfl, rfl, ρ, σ76, rfl, rfl, H, hn77⟩ | ⟨t78, rfl, rfl, ρ, σ79, rfl, rfl, H, hn80⟩)
  ·replace h := selim_l h
   obtain rfl := sj h
   exact fin_end (v := (.tuple #[])) (results_ok Tryz.results126 res_nil rfl) ⟨rfl, rfl, hn77⟩ (H.sel' [0] rfl rfl)
  ·replace h := selim_r h
   obtain rfl := sj h
   exact fin_ret (v := (.tuple #[])) (results_ok Tryz.results126 res_nil rfl) ⟨rfl, rfl, hn80⟩ (H.sel' [0] rfl rfl)

theorem c_slices_heapSortOrdered_int {Et : List Int} {Cl : Int} {Cm : Int} {Eu : Option Addr} {Ev : Nat} {r : (List Int)} (h : M.slices_heapSortOrdered_int Et Cl Cm = some r) :
    Cal2 Tryz.prog 110 [(Sl Eu Et Ev), (I Cl), (I Cm)] [Ch.own 0 0 (Sl Eu Et Ev) Et] (fun n0 v L => v = (.tuple #[]) ∧ L = [Ch.own 0 0 (Sl Eu r Ev) r] ∧ r.length = Et.length) := by
 refine cal2 (n := 56) Tryz.func110 rfl rfl rfl rfl ?_
 intro S0 σ0 n0 hn0 H
 unfold M.slices_heapSortOrdered_int at h
 refine c_seq (rg (sm (I Cl) rfl (sa (I Cl) rfl (w_end (q_then (c_seq (rg (sa (I 0) rfl (w_end (q_then (c_seq ?_)))))))))))
 refine rg (sm (I Cm) rfl (sm (I Cl) rfl (st (v := (I (w64 (Cm - Cl)))) (rv_sub (a := Cm) (b := Cl) rfl rfl) (sa (I (w64 (Cm - Cl))) rfl (w_end (q_then (c_seq (c_seq (rg (sm (I (w64 (Cm - Cl))) rfl (st (v := (I (w64 ((w64 (Cm - Cl)) - 1)))) (rv_sub (a := (w64 (Cm - Cl))) (b := 1) rfl rfl) ?_)))))))))))
 refine st (v := (I (w64 ((w64 ((w64 (Cm - Cl)) - 1)).tdiv 2)))) (rv_quo (a := (w64 ((w64 (Cm - Cl)) - 1))) (b := 2) rfl rfl (by decide)) ?_
 refine sa (I (w64 ((w64 ((w64 (Cm - Cl)) - 1)).tdiv 2))) rfl (w_end (q_then ?_))
 obtain ⟨o1, hj, h'⟩ := bind_some h
 clear h
 refine c_cut (fun e a w => e = .normal ∧ ∃ (ρ : Nat → Value) (σ : St), a = fr 56 (updL ρ [(0, (Sl Eu o1 Ev)), (6, (I Cl)), (7, (I 0)), (8, (I (w64 (Cm - Cl))))]) ∧ w = σ.w ∧ Hp S0 σ0 σ [Ch.own 0 0 (Sl Eu o1 Ev) o1] ∧ o1.length = Et.length) ?_ ?_
 ·clear h'
  rename _ = some o1 => h
  refine c_blk (wp_loopM _ h (fun s2 a w => ∃ (ρ : Nat → Value) (σ : St), a = fr 56 (updL ρ [(0, (Sl Eu s2.1 Ev)), (6, (I Cl)), (7, (I 0)), (8, (I (w64 (Cm - Cl)))), (9, (I s2.2))]) ∧ w = σ.w ∧ Hp S0 σ0 σ [Ch.own 0 0 (Sl Eu s2.1 Ev) s2.1] ∧ s2.1.length = Et.length) ⟨_, σ0, fr_join ⟨rfl, rfl, rfl, rfl, rfl, trivial⟩, rfl, H.sel' [0] rfl rfl, rfl⟩ ?_)
  clear h H
  rintro s2 a w o ⟨ρ, σ3, rfl, rfl, H, hn4⟩ h hres
  refine c_seq (c_seq (rg (sm (I s2.2) rfl (st (v := (B (decide (0 ≤ s2.2)))) (rv_geq (a := s2.2) (b := 0) rfl rfl) (w_end (q_then ?_))))))
  refine cd_cond (decide (0 ≤ s2.2)) rfl (fun hb5 => ?_) (fun hb5 => ?_)
  ·replace h := bif_t hb5 h
   refine c_skip (q_then (c_seq (c_blk (rg (sm (Sl Eu s2.1 Ev) rfl (sm (I s2.2) rfl (sm (I (w64 (Cm - Cl))) rfl (sm (I Cl) rfl ?_))))))))
   revert h; refine br fun r6 hx7 h => ?_
   have hc8 := c_slices_siftDownOrdered_int (Eu := Eu) (Ev := Ev) hx7
   refine st_call (cx_call hc8 (ent_f hc8.fn rfl) hn0 (H.sel' [0] rfl rfl : Hp S0 σ0 _ ([_] ++ _))) wn ?_
   rintro _ σ10 ⟨_, ⟨rfl, rfl, hn9⟩, H, -⟩
   replace H : Hp _ _ _ [_] := H
   have hsl : (Sl Eu s2.1 Ev) = (Sl Eu r6 Ev) := sl_len hn9.symm
   try rw [hsl]
   try rw [hsl] at H
   clear hsl
   refine w_end (q_blk (q_then (rg (sm (I s2.2) rfl (st (v := (I (w64 (s2.2 - 1)))) (rv_sub (a := s2.2) (b := 1) rfl rfl) (sa (I (w64 (s2.2 - 1))) rfl (w_end (q_then ?_))))))))
   obtain rfl := sj h
   exact ⟨_, rfl, _, σ10, fr_join ⟨rfl, rfl, rfl, rfl, rfl, trivial⟩, rfl, H.sel' [0] rfl rfl, (hn9.trans hn4)⟩
  ·replace h := bif_f hb5 h
   refine c_exit (q_then_x (q_then_x (q_blk_hit ?_)))
   obtain rfl := sj h
   obtain rfl := hres _ rfl
   exact ⟨rfl, _, σ3, fr_join ⟨rfl, rfl, rfl, rfl, trivial⟩, rfl, H.sel' [0] rfl rfl, hn4⟩
 ·clear hj
  have h := h'
  clear h' H
  rintro e a w ⟨rfl, ρ, σ11, rfl, rfl, H, hn12⟩
  refine q_then (c_seq (rg (sm (I (w64 (Cm - Cl))) rfl (st (v := (I (w64 ((w64 (Cm - Cl)) - 1)))) (rv_sub (a := (w64 (Cm - Cl))) (b := 1) rfl rfl) (sa (I (w64 ((w64 (Cm - Cl)) - 1))) rfl (w_end (q_then ?_)))))))
  obtain ⟨o13, hj, h'⟩ := bind_some h
  clear h
  refine c_cut (fun e a w => e = .normal ∧ ∃ (ρ : Nat → Value) (σ : St), a = fr 56 (updL ρ [(0, (Sl Eu o13 Ev))]) ∧ w = σ.w ∧ Hp S0 σ0 σ [Ch.own 0 0 (Sl Eu o13 Ev) o13] ∧ o13.length = o1.length) ?_ ?_
  ·clear h'
   rename _ = some o13 => h
   refine c_blk (wp_loopM _ h (fun s14 a w => ∃ (ρ : Nat → Value) (σ : St), a = fr 56 (updL ρ [(0, (Sl Eu s14.1 Ev)), (6, (I Cl)), (7, (I 0)), (10, (I s14.2))]) ∧ w = σ.w ∧ Hp S0 σ0 σ [Ch.own 0 0 (Sl Eu s14.1 Ev) s14.1] ∧ s14.1.length = o1.length) ⟨_, σ11, fr_join ⟨rfl, rfl, rfl, rfl, trivial⟩, rfl, H.sel' [0] rfl rfl, rfl⟩ ?_)
   clear h H
   rintro s14 a w o ⟨ρ, σ15, rfl, rfl, H, hn16⟩ h hres
   refine c_seq (c_seq (rg (sm (I s14.2) rfl (st (v := (B (decide (0 ≤ s14.2)))) (rv_geq (a := s14.2) (b := 0) rfl rfl) (w_end (q_then ?_))))))
   refine cd_cond (decide (0 ≤ s14.2)) rfl (fun hb17 => ?_) (fun hb17 => ?_)
   ·replace h := bif_t hb17 h
    refine c_skip (q_then (c_seq (c_blk (c_seq ?_))))
    revert h; refine br fun x18 hx19 h => ?_
    obtain ⟨b21, o22, hi20, -⟩ := (H.own 0 rfl).ix hx19
    have hc23 := ((H.own 0 rfl).at hx19 hi20).int
    revert h; refine br fun x24 hx25 h => ?_
    obtain ⟨b27, o28, hi26, -⟩ := (H.own 0 rfl).ix hx25
    have hc29 := ((H.own 0 rfl).at hx25 hi26).int
    revert h; refine br fun x30 hx31 h => ?_
    obtain ⟨b33, o34, hi32, -⟩ := (H.own 0 rfl).ix hx31
    have Hs := H
    refine rg2 (σ := σ15) (Nm := Unit) 18 [17] [[false], [true]] [[(0, 0)], [(0, 0)], [(0, 0), (1, 1)], [(0, 0), (1, 1)], [(0, 0), (1, 1)], [(0, 0), (1, 1)], [(0, 0)], [(0, 0)], [(0, 0)], [(0, 0)], [(0, 0)], [(0, 0)], [(0, 0)], [(0, 0)], [(0, 0)], [(0, 0)], [(0, 0)], [(0, 1)]] 1 [fun _ => fun σm => Hp S0 σ0 σm [Ch.own 0 0 (Sl Eu s14.1 Ev) s14.1] ∧ Md (cov []) σ15 σm, fun _ => fun σm => Hp S0 σ0 σm [Ch.own 0 0 (Sl Eu s14.1 Ev) (s14.1.set Cl.toNat x18)] ∧ Md (fun i => (cov []) i ∨ (fun b => blk (Sl Eu s14.1 Ev) = some b) i) σ15 σm] [fun _ => (Sl Eu s14.1 Ev), fun _ => (I Cl), fun _ => (Sl Eu s14.1 Ev), fun _ => (I Cl), fun _ => (I s14.2), fun _ => (I (w64 (Cl + s14.2))), fun _ => (Sl Eu s14.1 Ev), fun _ => (I Cl), fun _ => (I s14.2), fun _ => (I (w64 (Cl + s14.2))), fun _ => (pt b21 o22), fun _ => (I x18), fun _ => (Sl Eu s14.1 Ev), fun _ => (I Cl), fun _ => (pt b27 o28), fun _ => (I x24), fun _ => (pt b33 o34), fun _ => undef] () (by kernel_rfl) (by kernel_rfl) ?_ ?_ ?_
    ·intro σm m0
     exact ⟨H.grow (m0.mono fun _ h => h.elim), m0⟩
    ·refine ac rfl (by
       intro k _nm ρ σm hJ hoff hdep
       have e0 := look_off (N := 56) (hoff 0 rfl) rfl
       exact dp_v (v := (Sl Eu s14.1 Ev)) wn (rv_move e0) rfl hJ) ?_
     refine ac rfl (by
       intro k _nm ρ σm hJ hoff hdep
       have e6 := look_off (N := 56) (hoff 6 rfl) rfl
       exact dp_v (v := (I Cl)) wn (rv_move e6) rfl hJ) ?_
     refine ac rfl (by
       intro k _nm ρ σm hJ hoff hdep
       have e0 := look_off (N := 56) (hoff 0 rfl) rfl
       exact dp_v (v := (Sl Eu s14.1 Ev)) wn (rv_move e0) rfl hJ) ?_
     refine ac rfl (by
       intro k _nm ρ σm hJ hoff hdep
       have e6 := look_off (N := 56) (hoff 6 rfl) rfl
       exact dp_v (v := (I Cl)) wn (rv_move e6) rfl hJ) ?_
     refine ac rfl (by
       intro k _nm ρ σm hJ hoff hdep
       have e10 := look_off (N := 56) (hoff 10 rfl) rfl
       exact dp_v (v := (I s14.2)) wn (rv_move e10) rfl hJ) ?_
     refine ac rfl (by
       intro k _nm ρ σm hJ hoff hdep
       have e36 := hdep 3 rfl rfl 36 rfl
       have e37 := hdep 4 rfl rfl 37 rfl
       exact dp_v (v := (I (w64 (Cl + s14.2)))) wn (rv_add (a := Cl) (b := s14.2) e36 e37) rfl hJ) ?_
     refine ac rfl (by
       intro k _nm ρ σm hJ hoff hdep
       have e0 := look_off (N := 56) (hoff 0 rfl) rfl
       exact dp_v (v := (Sl Eu s14.1 Ev)) wn (rv_move e0) rfl hJ) ?_
     refine ac rfl (by
       intro k _nm ρ σm hJ hoff hdep
       have e6 := look_off (N := 56) (hoff 6 rfl) rfl
       exact dp_v (v := (I Cl)) wn (rv_move e6) rfl hJ) ?_
     refine ac rfl (by
       intro k _nm ρ σm hJ hoff hdep
       have e10 := look_off (N := 56) (hoff 10 rfl) rfl
       exact dp_v (v := (I s14.2)) wn (rv_move e10) rfl hJ) ?_
     refine ac rfl (by
       intro k _nm ρ σm hJ hoff hdep
       have e40 := hdep 7 rfl rfl 40 rfl
       have e41 := hdep 8 rfl rfl 41 rfl
       exact dp_v (v := (I (w64 (Cl + s14.2)))) wn (rv_add (a := Cl) (b := s14.2) e40 e41) rfl hJ) ?_
     refine ac rfl (by
       intro k _nm ρ σm hJ hoff hdep
       have e39 := hdep 6 rfl rfl 39 rfl
       have e42 := hdep 9 rfl rfl 42 rfl
       exact dp_v (v := (pt b21 o22)) wn (rv_ix Tryz.underlying26 ti3 e39 e42 hi20) rfl hJ) ?_
     refine all_cons (by
       refine ⟨?_, ?_⟩
       ·intro _nm ρ σm hJ hoff hdep
        have e43 := hdep 10 rfl rfl 43 rfl
        obtain ⟨H, m⟩ := id hJ
        have hc23 := ((H.own 0 rfl).at hx19 hi20).int
        exact dp_v (v := (I x18)) wn (rv_load1 Tryz.underlying3 rfl e43 hc23) rfl hJ
       trivial) ?_
     refine ac rfl (by
       intro k _nm ρ σm hJ hoff hdep
       have e0 := look_off (N := 56) (hoff 0 rfl) rfl
       exact dp_v (v := (Sl Eu s14.1 Ev)) wn (rv_move e0) rfl hJ) ?_
     refine ac rfl (by
       intro k _nm ρ σm hJ hoff hdep
       have e6 := look_off (N := 56) (hoff 6 rfl) rfl
       exact dp_v (v := (I Cl)) wn (rv_move e6) rfl hJ) ?_
     refine ac rfl (by
       intro k _nm ρ σm hJ hoff hdep
       have e45 := hdep 12 rfl rfl 45 rfl
       have e46 := hdep 13 rfl rfl 46 rfl
       exact dp_v (v := (pt b27 o28)) wn (rv_ix Tryz.underlying26 ti3 e45 e46 hi26) rfl hJ) ?_
     refine all_cons (by
       refine ⟨?_, ?_⟩
       ·intro _nm ρ σm hJ hoff hdep
        have e47 := hdep 14 rfl rfl 47 rfl
        obtain ⟨H, m⟩ := id hJ
        have hc29 := ((H.own 0 rfl).at hx25 hi26).int
        exact dp_v (v := (I x24)) wn (rv_load1 Tryz.underlying3 rfl e47 hc29) rfl hJ
       trivial) ?_
     refine ac rfl (by
       intro k _nm ρ σm hJ hoff hdep
       have e33 := hdep 0 rfl rfl 33 rfl
       have e34 := hdep 1 rfl rfl 34 rfl
       exact dp_v (v := (pt b33 o34)) wn (rv_ix Tryz.underlying26 ti3 e33 e34 hi32) rfl hJ) ?_
     refine all_cons (by
       refine ⟨?_, ?_⟩
       ·intro _nm ρ σm hJ hoff hdep
        have e49 := hdep 16 rfl rfl 49 rfl
        have e44 := hdep 11 rfl rfl 44 rfl
        obtain ⟨H, m⟩ := id hJ
        refine dp_exS wn rfl (ex_store_own (e' := x18) (vs := [(I x18)]) (k := 0) H (i := 0) rfl ti3 hx31 hi32 e49 rfl e44 rfl rfl (Nat.le_of_ble_eq_true rfl) (by simp [plain]) (by rintro _ rfl; exact rfl)) ?_
        rintro σq ⟨H2, m2⟩
        exact ⟨_, (), rfl, ⟨H2.sel' [0] rfl rfl, m.comp m2⟩, stab [0, 1, 2, 3, 4, 5, 6, 7, 8, 9, 10, 11, 12, 13, 14, 15, 16] (by kernel_rfl) ⟨rfl, rfl, rfl, rfl, rfl, rfl, rfl, rfl, rfl, rfl, rfl, rfl, rfl, rfl, rfl, rfl, rfl, trivial⟩⟩
       trivial) ?_
     exact all_nil
    ·intro _nm ρ σ35 hJ hoff hrel
     have e0 := look_off (N := 56) (hoff 0 rfl) rfl
     have e6 := look_off (N := 56) (hoff 6 rfl) rfl
     have e7 := look_off (N := 56) (hoff 7 rfl) rfl
     have e10 := look_off (N := 56) (hoff 10 rfl) rfl
     have e35 := hrel 2 rfl 35 rfl
     have e38 := hrel 5 rfl 38 rfl
     have e48 := hrel 15 rfl 48 rfl
     obtain ⟨H, -⟩ := (show Hp S0 σ0 σ35 [Ch.own 0 0 (Sl Eu s14.1 Ev) (s14.1.set Cl.toNat x18)] ∧ Md (fun i => (cov []) i ∨ (fun b => blk (Sl Eu s14.1 Ev) = some b) i) σ15 σ35 from hJ)
     clear hJ Hs
     rw [fr_lookL (L := [(0, (Sl Eu s14.1 Ev)), (6, (I Cl)), (7, (I 0)), (10, (I s14.2)), (35, (Sl Eu s14.1 Ev)), (38, (I (w64 (Cl + s14.2)))), (48, (I x24))]) ⟨e0, e6, e7, e10, e35, e38, e48, trivial⟩]
     clear hoff hrel e0 e6 e7 e10 e35 e38 e48
     have hsl : (Sl Eu s14.1 Ev) = (Sl Eu (s14.1.set Cl.toNat x18) Ev) := sl_len (by simp)
     rw [hsl]; rw [hsl] at H; clear hsl
     revert h; refine br fun x36 hx37 h => ?_
     obtain ⟨b39, o40, hi38, -⟩ := (H.own 0 rfl).ix hx37
     refine st (v := (pt b39 o40)) (rv_ix Tryz.underlying26 ti3 rfl rfl hi38) ?_
     refine st_exS (ex_store_own (e' := x24) (vs := [(I x24)]) (k := 0) H (i := 0) rfl ti3 hx37 hi38 rfl rfl rfl rfl rfl (Nat.le_of_ble_eq_true rfl) (by simp [plain]) (by rintro _ rfl; exact rfl)) wn ?_
     rintro σ41 ⟨H, -⟩
     have hsl : (Sl Eu (s14.1.set Cl.toNat x18) Ev) = (Sl Eu ((s14.1.set Cl.toNat x18).set (w64 (Cl + s14.2)).toNat x24) Ev) := sl_len List.length_set.symm
     rw [hsl]; rw [hsl] at H; clear hsl
     refine w_end (q_then (rg (sm (Sl Eu ((s14.1.set Cl.toNat x18).set (w64 (Cl + s14.2)).toNat x24) Ev) rfl (sm (I 0) rfl (sm (I s14.2) rfl (sm (I Cl) rfl ?_))))))
     revert h; refine br fun r42 hx43 h => ?_
     have hc44 := c_slices_siftDownOrdered_int (Eu := Eu) (Ev := Ev) hx43
     refine st_call (cx_call hc44 (ent_f hc44.fn rfl) hn0 (H.sel' [0] rfl rfl : Hp S0 σ0 _ ([_] ++ _))) wn ?_
     rintro _ σ46 ⟨_, ⟨rfl, rfl, hn45⟩, H, -⟩
     replace H : Hp _ _ _ [_] := H
     have hsl : (Sl Eu ((s14.1.set Cl.toNat x18).set (w64 (Cl + s14.2)).toNat x24) Ev) = (Sl Eu r42 Ev) := sl_len hn45.symm
     try rw [hsl]
     try rw [hsl] at H
     clear hsl
     refine w_end (q_blk (q_then (rg (sm (I s14.2) rfl (st (v := (I (w64 (s14.2 - 1)))) (rv_sub (a := s14.2) (b := 1) rfl rfl) (sa (I (w64 (s14.2 - 1))) rfl (w_end (q_then ?_))))))))
     obtain rfl := sj h
     exact ⟨_, rfl, _, σ46, fr_join ⟨rfl, rfl, rfl, rfl, trivial⟩, rfl, H.sel' [0] rfl rfl, ((hn45.trans (List.length_set.trans (List.length_set.trans (hn16.trans hn12)))).trans hn12.symm)⟩
   ·replace h := bif_f hb17 h
    refine c_exit (q_then_x (q_then_x (q_blk_hit ?_)))
    obtain rfl := sj h
    obtain rfl := hres _ rfl
    exact ⟨rfl, _, σ15, fr_join ⟨rfl, trivial⟩, rfl, H.sel' [0] rfl rfl, ((hn16.trans hn12).trans hn12.symm)⟩
  ·clear hj
   have h := h'
   clear h' H
   rintro e a w ⟨rfl, ρ, σ47, rfl, rfl, H, hn48⟩
   obtain rfl := sj h
   exact fin_end (v := (.tuple #[])) (results_ok Tryz.results110 res_nil rfl) ⟨rfl, rfl, (hn48.trans hn12)⟩ (H.sel' [0] rfl rfl)

end Go.Vs
