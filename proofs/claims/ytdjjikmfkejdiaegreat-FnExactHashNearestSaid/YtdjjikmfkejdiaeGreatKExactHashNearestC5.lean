/- The functions compute what their models say. -/
import Derived.Test.YtdjjikmfkejdiaeGreatKExactHashNearestC4
set_option linter.unusedVariables false
set_option linter.unusedSimpArgs false
set_option maxRecDepth 20000
namespace Go.Vs
open Go Go.Proofs
attribute [local irreducible] Code.wp Code.wpIn wpList wpListIn wpQuiet Calls CallsIn

theorem c_impl_BitsApart {Aa : Int} {Ah : Int}  {r : Int} (h : M.impl_BitsApart Aa Ah = some r) :
    Cal2 Tryz.prog 96 [(I Aa), (I Ah)] [] (fun n0 v L => v = (I r) ∧ L = []) := by
 refine cal2 (n := 18) Tryz.func96 rfl rfl rfl rfl ?_
 intro S0 σ0 n0 hn0 H
 unfold M.impl_BitsApart at h
 refine c_seq (rg (sa (I 0) rfl (w_end (q_then (c_seq (c_seq ?_))))))
 obtain ⟨o1, hj, h'⟩ := bind_some h
 clear h
 refine c_cut (fun e a w => e = .normal ∧ ∃ (ρ : Nat → Value) (σ : St), a = fr 18 (updL ρ [(0, (I Aa)), (1, (I Ah)), (12, (B o1))]) ∧ w = σ.w ∧ Hp S0 σ0 σ []) ?_ ?_
 ·clear h'
  rename _ = some o1 => h
  refine rg (sm (I Aa) rfl ?_)
  revert h; refine br fun r2 hx3 h => ?_
  have hc4 := c_impl_validHash hx3
  refine st_call (cx_call hc4 (ent_f hc4.fn rfl) hn0 (H.sel' [] rfl rfl : Hp S0 σ0 _ ([] ++ _))) wn ?_
  rintro _ σ5 ⟨_, ⟨rfl, rfl⟩, H, -⟩
  replace H : Hp _ _ _ [] := H
  refine st (v := (B (!r2))) (rv_not rfl) (sm (B (!r2)) rfl ?_)
  rcases Bool.eq_false_or_eq_true (!r2) with hb6 | hb6
  ·replace h := bif_t hb6 h
   refine st_skip (congrArg some hb6) (st_skip (congrArg some hb6) (st_skip (congrArg some hb6) (st (v := (B true)) (rv_pick_t (congrArg B hb6) rfl) (w_end ?_))))
   obtain rfl := sj h
   exact ⟨rfl, _, σ5, fr_join ⟨rfl, rfl, rfl, trivial⟩, rfl, H.sel' [] rfl rfl⟩
  ·replace h := bif_f hb6 h
   refine st_g (v := (I Ah)) (congrArg some hb6) (rv_move rfl) ?_
   revert h; refine br fun r7 hx8 h => ?_
   have hc9 := c_impl_validHash hx8
   refine st_call (cx_call hc9 (ent_f hc9.fn rfl) hn0 (H.sel' [] rfl rfl : Hp S0 σ0 _ ([] ++ _))) (wanted_yes rfl (by exact (congrArg some hb6))) ?_
   rintro _ σ10 ⟨_, ⟨rfl, rfl⟩, H, -⟩
   replace H : Hp _ _ _ [] := H
   refine st_g (v := (B (!r7))) (congrArg some hb6) (rv_not rfl) (st (v := (B (!r7))) (rv_pick_f (congrArg B hb6) rfl) (w_end ?_))
   obtain rfl := sj h
   exact ⟨rfl, _, σ10, fr_join ⟨rfl, rfl, rfl, trivial⟩, rfl, H.sel' [] rfl rfl⟩
 ·clear hj
  have h := h'
  clear h' H
  rintro e a w ⟨rfl, ρ, σ11, rfl, rfl, H⟩
  refine q_then ?_
  refine cd_cond o1 rfl (fun hb12 => ?_) (fun hb12 => ?_)
  ·replace h := bif_t hb12 h
   refine c_seq (rg (sa (I (-1)) rfl (w_end (q_then (c_ret (q_then_r ?_))))))
   obtain rfl := sj h
   exact fin_ret (v := (I (-1))) (results_ok Tryz.results96 (res_tmp (v := (I (-1))) rfl res_nil) rfl) ⟨rfl, rfl⟩ (H.sel' [] rfl rfl)
  ·replace h := bif_f hb12 h
   refine c_skip (q_then (c_seq (rg (sm (I Aa) rfl (sm (I Ah) rfl (st (v := (I (gxor Aa Ah))) (rv_xor (a := Aa) (b := Ah) rfl rfl) (st (v := (.int .u64 (wk .u64 (gxor Aa Ah)))) (rvk_conv (k := .i64) (k' := .u64) (a := (gxor Aa Ah)) Tryz.underlying3 Tryz.underlying132 rfl) ?_)))))))
   revert h; refine br fun r13 hx14 h => ?_
   have hc15 := c_math_bits_OnesCount hx14
   refine st_call (cx_call hc15 (ent_f hc15.fn rfl) hn0 (H.sel' [] rfl rfl : Hp S0 σ0 _ ([] ++ _))) wn ?_
   rintro _ σ16 ⟨_, ⟨rfl, rfl⟩, H, -⟩
   replace H : Hp _ _ _ [] := H
   refine sa (I r13) rfl (w_end (q_then (c_ret ?_)))
   obtain rfl := sj h
   exact fin_ret (v := (I r13)) (results_ok Tryz.results96 (res_tmp (v := (I r13)) rfl res_nil) rfl) ⟨rfl, rfl⟩ (H.sel' [] rfl rfl)

theorem c_impl_bucketItems_1__p3__p_SSint__p3 {Az : Int × (List Int) × Int} {Et : Int} {Eu : List (List Int)} {Gc : Int} {Ba : Option Addr} {Bb : Nat} {Ev Ew Ey : Nat} {Ez Fa : List Value} {Fb : Option Addr} {Fc : Nat} {Fd Fe Ff : Nat} {Fg Fh : List Value} {Gd Ge Gf : Nat} {Gg Gh : List Value} {r : Bool} (h : M.impl_bucketItems_1__p3__p_SSint__p3 Az Et Eu Gc = some r) :
    Cal2 Tryz.prog 95 [(.agg #[(I Az.1), (Sl Ba Az.2.1 Bb), (I Az.2.2)]), (pt Ew Ey), (pt Fe Ff), (pt Ge Gf)] [Ch.ro 0 (Sl Ba Az.2.1 Bb) Az.2.1, Ch.bx Ev Ew Ey [(I Et)] Ez Fa, Ch.bx Fd Fe Ff [(Sl Fb Eu Fc)] Fg Fh, Ch.ro 0 (Sl Fb Eu Fc) Eu, Ch.bx Gd Ge Gf [(I Gc)] Gg Gh] (fun n0 v L => v = (B r) ∧ L = [Ch.bx Ev Ew Ey [(I Et)] Ez Fa, Ch.bx Fd Fe Ff [(Sl Fb Eu Fc)] Fg Fh, Ch.bx Gd Ge Gf [(I Gc)] Gg Gh]) := by
 refine cal2 (n := 14) Tryz.func95 rfl rfl rfl rfl ?_
 intro S0 σ0 n0 hn0 H
 unfold M.impl_bucketItems_1__p3__p_SSint__p3 at h
 refine c_seq (rg (st_ex (ex_box (cs := [(I Az.1), (Sl Ba Az.2.1 Bb), (I Az.2.2)]) H hn0 rfl rfl) wn ?_))
 rintro _ σ2 ⟨b1, rfl, H, -⟩
 refine sa (B false) rfl (w_end (q_then (c_seq ?_)))
 have hc3 := H.cell (u := (I Et)) (o' := Ey) 2 0 rfl rfl rfl
 have hc4 := H.cell (u := (Sl Fb Eu Fc)) (o' := Ff) 3 0 rfl rfl rfl
 have hc5 := H.cell (u := (Sl Ba Az.2.1 Bb)) (o' := 1) 0 1 rfl rfl rfl
 revert h; refine br fun r6 hx7 h => ?_
 have hc8 := c_impl_HashOf (Bt := Fb) (Bu := Fc) (Bv := Ba) (Bw := Bb) hx7
 revert h; refine br fun r9 hx10 h => ?_
 have hc11 := c_impl_BitsApart hx10
 have hc12 := H.cell (u := (I Gc)) (o' := Gf) 5 0 rfl rfl rfl
 have Hs := H
 refine rg2 (σ := σ2) (Nm := Unit) 7 [4, 5] [[false, false], [true, false], [true, true]] [[(0, 0), (1, 1)], [(0, 0)], [(0, 0)], [(0, 0)], [(0, 1)], [(1, 2)], [(0, 0), (1, 1), (2, 2)]] 2 [fun _ => fun σm => Hp S0 σ0 σm [Ch.bx n0 b1 0 [(I Az.1), (Sl Ba Az.2.1 Bb), (I Az.2.2)] [] [], Ch.ro 0 (Sl Ba Az.2.1 Bb) Az.2.1, Ch.bx Ev Ew Ey [(I Et)] Ez Fa, Ch.bx Fd Fe Ff [(Sl Fb Eu Fc)] Fg Fh, Ch.ro 0 (Sl Fb Eu Fc) Eu, Ch.bx Gd Ge Gf [(I Gc)] Gg Gh] ∧ Md (cov []) σ2 σm, fun _ => fun σm => Hp S0 σ0 σm [Ch.bx n0 b1 0 [(I Az.1), (Sl Ba Az.2.1 Bb), (I Az.2.2)] [] [], Ch.ro 0 (Sl Ba Az.2.1 Bb) Az.2.1, Ch.bx Ev Ew Ey [(I Et)] Ez Fa, Ch.bx Fd Fe Ff [(Sl Fb Eu Fc)] Fg Fh, Ch.ro 0 (Sl Fb Eu Fc) Eu, Ch.bx Gd Ge Gf [(I Gc)] Gg Gh] ∧ Md (cov []) σ2 σm, fun _ => fun σm => Hp S0 σ0 σm [Ch.bx n0 b1 0 [(I Az.1), (Sl Ba Az.2.1 Bb), (I Az.2.2)] [] [], Ch.ro 0 (Sl Ba Az.2.1 Bb) Az.2.1, Ch.bx Ev Ew Ey [(I Et)] Ez Fa, Ch.bx Fd Fe Ff [(Sl Fb Eu Fc)] Fg Fh, Ch.ro 0 (Sl Fb Eu Fc) Eu, Ch.bx Gd Ge Gf [(I Gc)] Gg Gh] ∧ Md (cov []) σ2 σm] [fun _ => (I Et), fun _ => (Sl Fb Eu Fc), fun _ => (pt b1 1), fun _ => (Sl Ba Az.2.1 Bb), fun _ => (I r6), fun _ => (I r9), fun _ => (I Gc)] () (by kernel_rfl) (by kernel_rfl) ?_ ?_ ?_
 ·intro σm m0
  exact ⟨H.grow (m0.mono fun _ h => h.elim), m0⟩
 ·refine all_cons (by
    refine ⟨?_, ?_⟩
    ·intro _nm ρ σm hJ hoff hdep
     have e1 := look_off (N := 14) (hoff 1 rfl) rfl
     obtain ⟨H, m⟩ := id hJ
     have hc3 := H.cell (u := (I Et)) (o' := Ey) 2 0 rfl rfl rfl
     exact dp_v (v := (I Et)) wn (rv_load1 Tryz.underlying3 rfl e1 hc3) rfl hJ
    refine ⟨?_, ?_⟩
    ·intro _nm ρ σm hJ hoff hdep
     have e1 := look_off (N := 14) (hoff 1 rfl) rfl
     obtain ⟨H, m⟩ := id hJ
     have hc3 := H.cell (u := (I Et)) (o' := Ey) 2 0 rfl rfl rfl
     exact dp_v (v := (I Et)) wn (rv_load1 Tryz.underlying3 rfl e1 hc3) rfl hJ
    trivial) ?_
  refine all_cons (by
    refine ⟨?_, ?_⟩
    ·intro _nm ρ σm hJ hoff hdep
     have e2 := look_off (N := 14) (hoff 2 rfl) rfl
     obtain ⟨H, m⟩ := id hJ
     have hc4 := H.cell (u := (Sl Fb Eu Fc)) (o' := Ff) 3 0 rfl rfl rfl
     exact dp_v (v := (Sl Fb Eu Fc)) wn (rv_load1 Tryz.underlying22 rfl e2 hc4) rfl hJ
    trivial) ?_
  refine ac rfl (by
    intro k _nm ρ σm hJ hoff hdep
    have e4 := look_off (N := 14) (hoff 4 rfl) rfl
    exact dp_v (v := (pt b1 1)) wn (rv_fieldAddr (off := 1) (ft := 26) Tryz.underlying62 rfl ti26 rfl e4) rfl hJ) ?_
  refine all_cons (by
    refine ⟨?_, ?_⟩
    ·intro _nm ρ σm hJ hoff hdep
     have e8 := hdep 2 rfl rfl 8 rfl
     obtain ⟨H, m⟩ := id hJ
     have hc5 := H.cell (u := (Sl Ba Az.2.1 Bb)) (o' := 1) 0 1 rfl rfl rfl
     exact dp_v (v := (Sl Ba Az.2.1 Bb)) wn (rv_load1 Tryz.underlying26 rfl e8 hc5) rfl hJ
    trivial) ?_
  refine all_cons (by
    refine ⟨?_, ?_⟩
    ·intro _nm ρ σm hJ hoff hdep
     have e7 : look 14 ρ 7 = (Sl Fb Eu Fc) := hdep 1 rfl rfl 7 rfl
     have e9 : look 14 ρ 9 = (Sl Ba Az.2.1 Bb) := hdep 3 rfl rfl 9 rfl
     obtain ⟨H, m⟩ := id hJ
     refine dp_cx wn (cx_call hc8 (ent_f hc8.fn (by show [look 14 ρ 7, look 14 ρ 9] = _; rw [e7, e9])) hn0 (H.sel' [4, 1, 0, 1, 2, 3, 4, 5] rfl rfl : Hp S0 σ0 _ ([_, _] ++ _))) ?_
     rintro _ σq ⟨_, ⟨rfl, rfl⟩, H2, m2⟩
     exact ⟨_, (), rfl, rfl, ⟨H2.sel' [0, 1, 2, 3, 4, 5] rfl rfl, m.comp0 (m2.mono (fun i h => by simp [cov, Ch.ro] at h))⟩, stab [0, 1, 2, 3, 6] (by kernel_rfl) ⟨rfl, rfl, rfl, rfl, rfl, trivial⟩⟩
    trivial) ?_
  refine all_cons (by
    refine ⟨?_, ?_⟩
    ·intro _nm ρ σm hJ hoff hdep
     have e6 : look 14 ρ 6 = (I Et) := hdep 0 rfl rfl 6 rfl
     have e10 : look 14 ρ 10 = (I r6) := hdep 4 rfl rfl 10 rfl
     obtain ⟨H, m⟩ := id hJ
     refine dp_cx wn (cx_call hc11 (ent_f hc11.fn (by show [look 14 ρ 6, look 14 ρ 10] = _; rw [e6, e10])) hn0 (H.sel' [0, 1, 2, 3, 4, 5] rfl rfl : Hp S0 σ0 _ ([] ++ _))) ?_
     rintro _ σq ⟨_, ⟨rfl, rfl⟩, H2, m2⟩
     exact ⟨_, (), rfl, rfl, ⟨H2.sel' [0, 1, 2, 3, 4, 5] rfl rfl, m.comp0 m2⟩, stab [0, 1, 2, 3, 4, 6] (by kernel_rfl) ⟨rfl, rfl, rfl, rfl, rfl, rfl, trivial⟩⟩
    trivial) ?_
  refine all_cons (by
    refine ⟨?_, ?_⟩
    ·intro _nm ρ σm hJ hoff hdep
     have e3 := look_off (N := 14) (hoff 3 rfl) rfl
     obtain ⟨H, m⟩ := id hJ
     have hc12 := H.cell (u := (I Gc)) (o' := Gf) 5 0 rfl rfl rfl
     exact dp_v (v := (I Gc)) wn (rv_load1 Tryz.underlying3 rfl e3 hc12) rfl hJ
    refine ⟨?_, ?_⟩
    ·intro _nm ρ σm hJ hoff hdep
     have e3 := look_off (N := 14) (hoff 3 rfl) rfl
     obtain ⟨H, m⟩ := id hJ
     have hc12 := H.cell (u := (I Gc)) (o' := Gf) 5 0 rfl rfl rfl
     exact dp_v (v := (I Gc)) wn (rv_load1 Tryz.underlying3 rfl e3 hc12) rfl hJ
    refine ⟨?_, ?_⟩
    ·intro _nm ρ σm hJ hoff hdep
     have e3 := look_off (N := 14) (hoff 3 rfl) rfl
     obtain ⟨H, m⟩ := id hJ
     have hc12 := H.cell (u := (I Gc)) (o' := Gf) 5 0 rfl rfl rfl
     exact dp_v (v := (I Gc)) wn (rv_load1 Tryz.underlying3 rfl e3 hc12) rfl hJ
    trivial) ?_
  exact all_nil
 ·intro _nm ρ σ13 hJ hoff hrel
  have e1 := look_off (N := 14) (hoff 1 rfl) rfl
  have e2 := look_off (N := 14) (hoff 2 rfl) rfl
  have e3 := look_off (N := 14) (hoff 3 rfl) rfl
  have e11 := hrel 5 rfl 11 rfl
  have e12 := hrel 6 rfl 12 rfl
  obtain ⟨H, -⟩ := (show Hp S0 σ0 σ13 [Ch.bx n0 b1 0 [(I Az.1), (Sl Ba Az.2.1 Bb), (I Az.2.2)] [] [], Ch.ro 0 (Sl Ba Az.2.1 Bb) Az.2.1, Ch.bx Ev Ew Ey [(I Et)] Ez Fa, Ch.bx Fd Fe Ff [(Sl Fb Eu Fc)] Fg Fh, Ch.ro 0 (Sl Fb Eu Fc) Eu, Ch.bx Gd Ge Gf [(I Gc)] Gg Gh] ∧ Md (cov []) σ2 σ13 from hJ)
  clear hJ Hs
  rw [fr_lookL (L := [(1, (pt Ew Ey)), (2, (pt Fe Ff)), (3, (pt Ge Gf)), (11, (I r9)), (12, (I Gc))]) ⟨e1, e2, e3, e11, e12, trivial⟩]
  clear hoff hrel e1 e2 e3 e11 e12
  refine st (v := (B (decide (r9 ≤ Gc)))) (rv_leq (a := r9) (b := Gc) rfl rfl) (sa (B (decide (r9 ≤ Gc))) rfl (w_end (q_then (c_ret ?_))))
  obtain rfl := sj h
  exact fin_ret (v := (B (decide (r9 ≤ Gc)))) (results_ok Tryz.results95 (res_tmp (v := (B (decide (r9 ≤ Gc)))) rfl res_nil) rfl) ⟨rfl, rfl⟩ (H.sel' [2, 3, 5] rfl rfl)

theorem c_impl_itemsThat__impl_bucketItems_1 {As : List (Int × (List Int) × Int)} {Gi : Int} {Gj : List (List Int)} {Gk : Int} {Au : Option Addr} {Av : Nat} {Gl Gm Gn : Nat} {Gp Gq : List Value} {Gr : Option Addr} {Gs : Nat} {Gt Gu Gv : Nat} {Gw Gx : List Value} {Gy Gz Ha : Nat} {Hc Hd : List Value} {r : (List (Int × (List Int) × Int))} (h : M.impl_itemsThat__impl_bucketItems_1 As Gi Gj Gk = some r) :
    Cal2 Tryz.prog 54 [(Sl Au As Av), (.func (.func 95) #[] #[(pt Gm Gn), (pt Gu Gv), (pt Gz Ha)])] [Ch.ro 0 (Sl Au As Av) As, Ch.bx Gl Gm Gn [(I Gi)] Gp Gq, Ch.bx Gt Gu Gv [(Sl Gr Gj Gs)] Gw Gx, Ch.ro 0 (Sl Gr Gj Gs) Gj, Ch.bx Gy Gz Ha [(I Gk)] Hc Hd] (fun n0 v L => ∃ (az1 : Option Addr), ∃ (cz2 : Nat), v = (Sl az1 r cz2) ∧ L = [Ch.own n0 0 (Sl az1 r cz2) r, Ch.bx Gl Gm Gn [(I Gi)] Gp Gq, Ch.bx Gt Gu Gv [(Sl Gr Gj Gs)] Gw Gx, Ch.bx Gy Gz Ha [(I Gk)] Hc Hd]) := by
 refine cal2 (n := 23) Tryz.func54 rfl rfl rfl rfl ?_
 intro S0 σ0 n0 hn0 H
 unfold M.impl_itemsThat__impl_bucketItems_1 at h
 refine c_seq (rg (sa (.slice none 0 0) rfl (w_end (q_then (c_seq (rg (sa (.slice none 0 0) rfl (w_end (q_then (c_seq (c_seq ?_)))))))))))
 refine rg (sm (Sl Au As Av) rfl (st (v := (I (As.length : Int))) (rv_len Tryz.underlying33 rfl) (sm (I 0) rfl (w_end (q_then ?_)))))
 obtain ⟨o1, hj, h'⟩ := bind_some h
 clear h
 refine c_cut (fun e a w => e = .normal ∧ ∃ (ρ : Nat → Value) (σ : St) (aj1 : Option Addr) (cj2 : Nat), a = fr 23 (updL ρ [(1, (.func (.func 95) #[] #[(pt Gm Gn), (pt Gu Gv), (pt Gz Ha)])), (5, (Sl aj1 o1 cj2))]) ∧ w = σ.w ∧ Hp S0 σ0 σ [Ch.bx Gl Gm Gn [(I Gi)] Gp Gq, Ch.ro 0 (Sl Gr Gj Gs) Gj, Ch.bx Gt Gu Gv [(Sl Gr Gj Gs)] Gw Gx, Ch.bx Gy Gz Ha [(I Gk)] Hc Hd, Ch.own n0 0 (Sl aj1 o1 cj2) o1]) ?_ ?_
 ·clear h'
  rename _ = some o1 => h
  refine c_blk ?_
  replace H := H.nilOwn (Int × (List Int) × Int) n0 0
  refine wp_loopM _ h (fun s2 a w => ∃ (ρ : Nat → Value) (σ : St) (aj1 : Option Addr) (cj2 : Nat), a = fr 23 (updL ρ [(1, (.func (.func 95) #[] #[(pt Gm Gn), (pt Gu Gv), (pt Gz Ha)])), (5, (Sl aj1 s2.1 cj2)), (8, (Sl Au As Av)), (9, (I (As.length : Int))), (10, (I s2.2))]) ∧ w = σ.w ∧ Hp S0 σ0 σ [Ch.bx Gl Gm Gn [(I Gi)] Gp Gq, Ch.ro 0 (Sl Gr Gj Gs) Gj, Ch.bx Gt Gu Gv [(Sl Gr Gj Gs)] Gw Gx, Ch.bx Gy Gz Ha [(I Gk)] Hc Hd, Ch.own n0 0 (Sl aj1 s2.1 cj2) s2.1, Ch.ro 0 (Sl Au As Av) As]) ⟨_, σ0, none, 0, fr_join ⟨rfl, rfl, rfl, rfl, rfl, trivial⟩, rfl, H.sel' [2, 4, 3, 5, 0, 1] rfl rfl⟩ ?_
  clear h H
  rintro s2 a w o ⟨ρ, σ3, a4, c5, rfl, rfl, H⟩ h hres
  refine c_seq (rg (st (v := (B (decide (s2.2 < (As.length : Int))))) (rv_lss (a := s2.2) (b := (As.length : Int)) rfl rfl) (w_end (q_then (c_seq ?_)))))
  refine cd_cond (decide (s2.2 < (As.length : Int))) rfl (fun hb6 => ?_) (fun hb6 => ?_)
  ·replace h := bif_t hb6 h
   refine c_skip (q_then (c_seq ?_))
   obtain ⟨o7, hj, h'⟩ := bind_some h
   clear h
   refine c_cut (fun e a w => e = .normal ∧ ∃ (ρ : Nat → Value) (σ : St) (aj1 : Option Addr) (cj2 : Nat), a = fr 23 (updL ρ [(1, (.func (.func 95) #[] #[(pt Gm Gn), (pt Gu Gv), (pt Gz Ha)])), (5, (Sl aj1 o7 cj2)), (8, (Sl Au As Av)), (9, (I (As.length : Int))), (10, (I s2.2))]) ∧ w = σ.w ∧ Hp S0 σ0 σ [Ch.bx Gl Gm Gn [(I Gi)] Gp Gq, Ch.ro 0 (Sl Gr Gj Gs) Gj, Ch.bx Gt Gu Gv [(Sl Gr Gj Gs)] Gw Gx, Ch.bx Gy Gz Ha [(I Gk)] Hc Hd, Ch.own n0 0 (Sl aj1 o7 cj2) o7, Ch.ro 0 (Sl Au As Av) As]) ?_ ?_
   ·clear h'
    rename _ = some o7 => h
    refine c_blk (c_seq (rg ?_))
    revert h; refine br fun x8 hx9 h => ?_
    obtain ⟨b11, o12, hi10, -⟩ := (H.ro 5 rfl).ix hx9
    refine st (v := (pt b11 o12)) (rv_ix Tryz.underlying33 ti62 rfl rfl hi10) ?_
    obtain ⟨_, ⟨_, _, rfl, rfl, ⟨_, _, rfl, ⟨_, rfl, hR17⟩, rfl⟩⟩, hl13, hc14⟩ := ((H.ro 5 rfl).at hx9 hi10).cells
    obtain ⟨a15, c16, rfl⟩ := hR17.isSl
    replace H := H.add (d := Ch.ro 0 (Sl a15 x8.2.1 c16) x8.2.1) hR17 (fun _ h => h)
    clear hR17
    refine st (v := (.agg #[(I x8.1), (Sl a15 x8.2.1 c16), (I x8.2.2)])) (rv_load Tryz.underlying62 rfl ti62 rfl hl13 hc14) (st_ex (ex_alloc (cs := [(I 0), (.slice none 0 0), (I 0)]) H hn0 ti62 rfl) wn ?_)
    rintro _ σ19 ⟨b18, rfl, H, -⟩
    refine st_exS (ex_store_box (k := 0) (cs := [(I 0), (.slice none 0 0), (I 0)]) (vs := [(I x8.1), (Sl a15 x8.2.1 c16), (I x8.2.2)]) (cs' := [(I x8.1), (Sl a15 x8.2.1 c16), (I x8.2.2)]) H (i := 0) rfl ti62 rfl rfl rfl rfl rfl (Nat.le_of_ble_eq_true rfl) (by simp [plain]) rfl) wn ?_
    rintro σ20 ⟨H, -⟩
    refine w_end (q_then (c_seq (rg (sm (.func (.func 95) #[] #[(pt Gm Gn), (pt Gu Gv), (pt Gz Ha)]) rfl ?_))))
    have hc21 := H.cells 0 rfl
    refine st (v := (.agg #[(I x8.1), (Sl a15 x8.2.1 c16), (I x8.2.2)])) (rv_load (cs := [(I x8.1), (Sl a15 x8.2.1 c16), (I x8.2.2)]) Tryz.underlying62 rfl ti62 rfl rfl hc21) ?_
    revert h; refine br fun r22 hx23 h => ?_
    have hc24 := c_impl_bucketItems_1__p3__p_SSint__p3 (Ba := a15) (Bb := c16) (Ev := Gl) (Ew := Gm) (Ey := Gn) (Ez := Gp) (Fa := Gq) (Fd := Gt) (Fe := Gu) (Ff := Gv) (Fg := Gw) (Fh := Gx) (Fb := Gr) (Fc := Gs) (Gd := Gy) (Ge := Gz) (Gf := Ha) (Gg := Hc) (Gh := Hd) hx23
    refine st_call (cx_call hc24 (ent_v (cap := [(pt Gm Gn), (pt Gu Gv), (pt Gz Ha)]) hc24.fn rfl rfl) hn0 (H.sel' [1, 2, 4, 3, 5, 0, 1, 3, 6, 7] rfl rfl : Hp S0 σ0 _ ([_, _, _, _, _] ++ _))) wn ?_
    rintro _ σ25 ⟨_, ⟨rfl, rfl⟩, H, -⟩
    replace H : Hp _ _ _ [_, _, _, _, _, _, _, _] := H
    refine w_end (q_then ?_)
    refine cd_cond r22 rfl (fun hb26 => ?_) (fun hb26 => ?_)
    ·replace h := bif_t hb26 h
     refine rg (sm (Sl a4 s2.1 c5) rfl ?_)
     have hc27 := H.cells 3 rfl
     refine st (v := (.agg #[(I x8.1), (Sl a15 x8.2.1 c16), (I x8.2.2)])) (rv_load (cs := [(I x8.1), (Sl a15 x8.2.1 c16), (I x8.2.2)]) Tryz.underlying62 rfl ti62 rfl rfl hc27) ?_
     refine st_ex (ex_buildSlice (el := 0) (xs := ([(x8.1, x8.2.1, x8.2.2)] : List (Int × (List Int) × Int))) (ps := [(0, (.agg #[(I x8.1), (Sl a15 x8.2.1 c16), (I x8.2.2)]))]) (cs := [(I x8.1), (Sl a15 x8.2.1 c16), (I x8.2.2)]) H hn0 Tryz.underlying33 ti62 rfl rfl (by kernel_rfl) (.cons (c := [(I x8.1), (Sl a15 x8.2.1 c16), (I x8.2.2)]) ⟨[(I x8.1)], [(Sl a15 x8.2.1 c16), (I x8.2.2)], rfl, rfl, ⟨[(Sl a15 x8.2.1 c16)], [(I x8.2.2)], rfl, ⟨_, rfl, (H.ro 4 rfl)⟩, rfl⟩⟩ (.nil)) rfl) wn ?_
     rintro _ σ29 ⟨b28, rfl, H, -⟩
     replace H : Hp S0 σ0 σ29 [Ch.own n0 0 (Sl (some ⟨b28, 0, none⟩) ([(x8.1, x8.2.1, x8.2.2)] : List (Int × (List Int) × Int)) 1) ([(x8.1, x8.2.1, x8.2.2)] : List (Int × (List Int) × Int)), Ch.bx Gl Gm Gn [(I Gi)] Gp Gq, Ch.bx Gt Gu Gv [(Sl Gr Gj Gs)] Gw Gx, Ch.bx Gy Gz Ha [(I Gk)] Hc Hd, Ch.ro 0 (Sl Gr Gj Gs) Gj, Ch.own n0 0 (Sl a4 s2.1 c5) s2.1, Ch.ro 0 (Sl Au As Av) As] := H.sel' [0, 1, 2, 3, 6, 7, 8] rfl rfl
     revert h; refine br fun xs30 hx31 h => ?_
     refine st_ex (ex_append H (i := 5) rfl Tryz.underlying33 Tryz.underlying33 ti62 rfl rfl (by decide) (H.own 0 rfl).rd hx31 hn0 rfl rfl) wn ?_
     rintro _ σ34 ⟨a32, c33, rfl, H, -⟩
     refine sa (Sl a32 xs30 c33) rfl (w_end (q_blk ?_))
     obtain rfl := sj h
     exact ⟨rfl, _, σ34, a32, c33, fr_join ⟨rfl, rfl, rfl, rfl, rfl, trivial⟩, rfl, H.sel' [2, 5, 3, 4, 0, 6] rfl rfl⟩
    ·replace h := bif_f hb26 h
     refine c_skip (q_blk ?_)
     obtain rfl := sj h
     exact ⟨rfl, _, σ25, a4, c5, fr_join ⟨rfl, rfl, rfl, rfl, rfl, trivial⟩, rfl, H.sel' [0, 5, 1, 2, 6, 7] rfl rfl⟩
   ·clear hj
    have h := h'
    clear h' H
    rintro e a w ⟨rfl, ρ, σ35, a36, c37, rfl, rfl, H⟩
    refine q_then (rg (st (v := (I (w64 (s2.2 + 1)))) (rv_add (a := s2.2) (b := 1) rfl rfl) (sm (I (w64 (s2.2 + 1))) rfl (w_end (q_then ?_)))))
    obtain rfl := sj h
    exact ⟨_, rfl, _, σ35, a36, c37, fr_join ⟨rfl, rfl, rfl, rfl, rfl, trivial⟩, rfl, H.sel' [0, 1, 2, 3, 4, 5] rfl rfl⟩
  ·replace h := bif_f hb6 h
   refine c_exit (q_then_x (q_then_x (q_blk_hit ?_)))
   obtain rfl := sj h
   obtain rfl := hres _ rfl
   exact ⟨rfl, _, σ3, a4, c5, fr_join ⟨rfl, rfl, trivial⟩, rfl, H.sel' [0, 1, 2, 3, 4] rfl rfl⟩
 ·clear hj
  have h := h'
  clear h' H
  rintro e a w ⟨rfl, ρ, σ38, a39, c40, rfl, rfl, H⟩
  refine q_then (c_seq (rg (sm (Sl a39 o1 c40) rfl (sa (Sl a39 o1 c40) rfl (w_end (q_then (c_ret ?_)))))))
  obtain rfl := sj h
  exact fin_ret (v := (Sl a39 o1 c40)) (results_ok Tryz.results54 (res_tmp (v := (Sl a39 o1 c40)) rfl res_nil) rfl) ⟨a39, c40, rfl, rfl⟩ (H.sel' [4, 0, 2, 3] rfl rfl)

theorem c_impl_bucketItems {Br : List (List Int)} {By : List (Int × (List Int) × Int)} {Be : List Int} {Ga : Int} {Bt : Option Addr} {Bu : Nat} {Ca : Option Addr} {Cb : Nat} {Bf : Option Addr} {Bg : Nat} {r : (List (Int × (List Int) × Int))} (h : M.impl_bucketItems Br By Be Ga = some r) :
    Cal2 Tryz.prog 64 [(Sl Bt Br Bu), (Sl Ca By Cb), (Sl Bf Be Bg), (I Ga)] [Ch.ro 0 (Sl Bt Br Bu) Br, Ch.ro 0 (Sl Ca By Cb) By, Ch.ro 0 (Sl Bf Be Bg) Be] (fun n0 v L => ∃ (az1 : Option Addr), ∃ (cz2 : Nat), v = (Sl az1 r cz2) ∧ L = [Ch.own n0 0 (Sl az1 r cz2) r]) := by
 refine cal2 (n := 16) Tryz.func64 rfl rfl rfl rfl ?_
 intro S0 σ0 n0 hn0 H
 unfold M.impl_bucketItems at h
 refine c_seq (rg (st_ex (ex_box (cs := [(Sl Bt Br Bu)]) H hn0 rfl rfl) wn ?_))
 rintro _ σ2 ⟨b1, rfl, H, -⟩
 refine st_ex (ex_box (cs := [(I Ga)]) H hn0 rfl rfl) wn ?_
 rintro _ σ4 ⟨b3, rfl, H, -⟩
 refine sa (.slice none 0 0) rfl (w_end (q_then (c_seq (rg ?_))))
 have hc5 := H.cell (u := (Sl Bt Br Bu)) (o' := 0) 1 0 rfl rfl rfl
 refine st (v := (Sl Bt Br Bu)) (rv_load1 Tryz.underlying22 rfl rfl hc5) (sm (Sl Bf Be Bg) rfl ?_)
 revert h; refine br fun r6 hx7 h => ?_
 have hc8 := c_impl_HashOf (Bt := Bt) (Bu := Bu) (Bv := Bf) (Bw := Bg) hx7
 refine st_call (cx_call hc8 (ent_f hc8.fn rfl) hn0 (H.sel' [2, 4, 0, 1, 2, 3, 4] rfl rfl : Hp S0 σ0 _ ([_, _] ++ _))) wn ?_
 rintro _ σ9 ⟨_, ⟨rfl, rfl⟩, H, -⟩
 replace H : Hp _ _ _ [_, _, _, _, _] := H
 refine st_ex (ex_alloc (cs := [(I 0)]) H hn0 ti3 rfl) wn ?_
 rintro _ σ11 ⟨b10, rfl, H, -⟩
 refine st_exS (ex_store_box (k := 0) (cs := [(I 0)]) (vs := [(I r6)]) (cs' := [(I r6)]) H (i := 0) rfl ti3 rfl rfl rfl rfl rfl (Nat.le_of_ble_eq_true rfl) (by simp [plain]) rfl) wn ?_
 rintro σ12 ⟨H, -⟩
 refine w_end (q_then (c_seq (rg (sm (Sl Ca By Cb) rfl (st (v := (.func (.func 95) #[] #[(pt b10 0), (pt b1 0), (pt b3 0)])) (rv_makeFunc (vs := [(pt b10 0), (pt b1 0), (pt b3 0)]) rfl) ?_)))))
 revert h; refine br fun r13 hx14 h => ?_
 have hc15 := c_impl_itemsThat__impl_bucketItems_1 (Au := Ca) (Av := Cb) (Gl := n0) (Gm := b10) (Gn := 0) (Gp := []) (Gq := []) (Gt := n0) (Gu := b1) (Gv := 0) (Gw := []) (Gx := []) (Gr := Bt) (Gs := Bu) (Gy := n0) (Gz := b3) (Ha := 0) (Hc := []) (Hd := []) hx14
 refine st_call (cx_call hc15 (ent_f hc15.fn rfl) hn0 (H.sel' [4, 0, 2, 3, 1, 3, 4, 5] rfl rfl : Hp S0 σ0 _ ([_, _, _, _, _] ++ _))) wn ?_
 rintro _ σ18 ⟨_, ⟨a16, c17, rfl, rfl⟩, H, -⟩
 replace H : Hp _ _ _ [_, _, _, _, _, _, _] := H
 refine sa (Sl a16 r13 c17) rfl (w_end (q_then (c_ret ?_)))
 obtain rfl := sj h
 exact fin_ret (v := (Sl a16 r13 c17)) (results_ok Tryz.results64 (res_tmp (v := (Sl a16 r13 c17)) rfl res_nil) rfl) ⟨a16, c17, rfl, rfl⟩ (H.sel' [0] rfl rfl)

theorem c_impl_HashNearest {Br : List (List Int)} {By : List (Int × (List Int) × Int)} {Be : List Int} {Bz : Int} {Cd : Int} {Bt : Option Addr} {Bu : Nat} {Ca : Option Addr} {Cb : Nat} {Bf : Option Addr} {Bg : Nat} {r : (List (Int × Int))} (h : M.impl_HashNearest Br By Be Bz Cd = some r) :
    Cal2 Tryz.prog 28 [(Sl Bt Br Bu), (Sl Ca By Cb), (Sl Bf Be Bg), (I Bz), (I Cd)] [Ch.ro 0 (Sl Bt Br Bu) Br, Ch.ro 0 (Sl Ca By Cb) By, Ch.ro 0 (Sl Bf Be Bg) Be] (fun n0 v L => ∃ (az1 : Option Addr), ∃ (cz2 : Nat), v = (Sl az1 r cz2) ∧ L = [Ch.own 0 n0 (Sl az1 r cz2) r]) := by
 refine cal2 (n := 30) Tryz.func28 rfl rfl rfl rfl ?_
 intro S0 σ0 n0 hn0 H
 unfold M.impl_HashNearest at h
 refine c_seq (rg (sa (.slice none 0 0) rfl (w_end (q_then (c_seq (c_seq ?_))))))
 obtain ⟨o1, hj, h'⟩ := bind_some h
 clear h
 refine c_cut (fun e a w => e = .normal ∧ ∃ (ρ : Nat → Value) (σ : St), a = fr 30 (updL ρ [(0, (Sl Bt Br Bu)), (1, (Sl Ca By Cb)), (2, (Sl Bf Be Bg)), (3, (I Bz)), (4, (I Cd)), (21, (B o1))]) ∧ w = σ.w ∧ Hp S0 σ0 σ [Ch.ro 0 (Sl Bt Br Bu) Br, Ch.ro 0 (Sl Ca By Cb) By, Ch.ro 0 (Sl Bf Be Bg) Be]) ?_ ?_
 ·clear h'
  rename _ = some o1 => h
  refine rg (sm (Sl Bt Br Bu) rfl (sm (Sl Ca By Cb) rfl (sm (Sl Bf Be Bg) rfl (sm (I Bz) rfl ?_))))
  revert h; refine br fun r2 hx3 h => ?_
  have hc4 := c_impl_validBucket (Bt := Bt) (Bu := Bu) (Ca := Ca) (Cb := Cb) (Bf := Bf) (Bg := Bg) hx3
  refine st_call (cx_call hc4 (ent_f hc4.fn rfl) hn0 (H.sel' [0, 1, 2, 0, 1, 2] rfl rfl : Hp S0 σ0 _ ([_, _, _] ++ _))) wn ?_
  rintro _ σ5 ⟨_, ⟨rfl, rfl⟩, H, -⟩
  replace H : Hp _ _ _ [_, _, _] := H
  refine st (v := (B (!r2))) (rv_not rfl) (sm (B (!r2)) rfl ?_)
  rcases Bool.eq_false_or_eq_true (!r2) with hb6 | hb6
  ·replace h := bif_t hb6 h
   refine st_skip (congrArg some hb6) (st_skip (congrArg some hb6) (st_skip (congrArg some hb6) (st (v := (B true)) (rv_pick_t (congrArg B hb6) rfl) (w_end ?_))))
   obtain rfl := sj h
   exact ⟨rfl, _, σ5, fr_join ⟨rfl, rfl, rfl, rfl, rfl, rfl, trivial⟩, rfl, H.sel' [0, 1, 2] rfl rfl⟩
  ·replace h := bif_f hb6 h
   refine st_g (v := (I Cd)) (congrArg some hb6) (rv_move rfl) ?_
   revert h; refine br fun r7 hx8 h => ?_
   have hc9 := c_impl_validCount hx8
   refine st_call (cx_call hc9 (ent_f hc9.fn rfl) hn0 (H.sel' [0, 1, 2] rfl rfl : Hp S0 σ0 _ ([] ++ _))) (wanted_yes rfl (by exact (congrArg some hb6))) ?_
   rintro _ σ10 ⟨_, ⟨rfl, rfl⟩, H, -⟩
   replace H : Hp _ _ _ [_, _, _] := H
   refine st_g (v := (B (!r7))) (congrArg some hb6) (rv_not rfl) (st (v := (B (!r7))) (rv_pick_f (congrArg B hb6) rfl) (w_end ?_))
   obtain rfl := sj h
   exact ⟨rfl, _, σ10, fr_join ⟨rfl, rfl, rfl, rfl, rfl, rfl, trivial⟩, rfl, H.sel' [0, 1, 2] rfl rfl⟩
 ·clear hj
  have h := h'
  clear h' H
  rintro e a w ⟨rfl, ρ, σ11, rfl, rfl, H⟩
  refine q_then ?_
  refine cd_cond o1 rfl (fun hb12 => ?_) (fun hb12 => ?_)
  ·replace h := bif_t hb12 h
   refine c_seq (rg (sa (.slice none 0 0) rfl (w_end (q_then (c_ret (q_then_r ?_))))))
   replace H := H.nilOwn (Int × Int) 0 n0
   obtain rfl := sj h
   exact fin_ret (v := (.slice none 0 0)) (results_ok Tryz.results28 (res_tmp (v := (.slice none 0 0)) rfl res_nil) rfl) ⟨none, 0, rfl, rfl⟩ (H.sel' [0] rfl rfl)
  ·replace h := bif_f hb12 h
   refine c_skip (q_then (c_seq (rg (sm (Sl Bt Br Bu) rfl (sm (Sl Ca By Cb) rfl (sm (Sl Bf Be Bg) rfl (sm (I Bz) rfl ?_)))))))
   revert h; refine br fun r13 hx14 h => ?_
   have hc15 := c_impl_bucketItems (Bt := Bt) (Bu := Bu) (Ca := Ca) (Cb := Cb) (Bf := Bf) (Bg := Bg) hx14
   refine st_call (cx_call hc15 (ent_f hc15.fn rfl) hn0 (H.sel' [0, 1, 2, 0, 1, 2] rfl rfl : Hp S0 σ0 _ ([_, _, _] ++ _))) wn ?_
   rintro _ σ18 ⟨_, ⟨a16, c17, rfl, rfl⟩, H, -⟩
   replace H : Hp _ _ _ [_, _, _, _] := H
   refine sm (Sl Bf Be Bg) rfl (sm (I Cd) rfl ?_)
   obtain ⟨σ19, hw20, H, -⟩ := H.pub 0 rfl (Nat.zero_le _)
   rw [← hw20]; clear hw20
   revert h; refine br fun r21 hx22 h => ?_
   have hc23 := c_impl_nearestAmong (Au := a16) (Av := c17) (Bf := Bf) (Bg := Bg) hx22
   refine st_call (cx_call hc23 (ent_f hc23.fn rfl) hn0 (H.sel' [0, 3, 0, 1, 2, 3] rfl rfl : Hp S0 σ0 _ ([_, _] ++ _))) wn ?_
   rintro _ σ26 ⟨_, ⟨a24, c25, rfl, rfl⟩, H, -⟩
   replace H : Hp _ _ _ [_, _, _, _, _] := H
   refine sa (Sl a24 r21 c25) rfl (w_end (q_then (c_ret ?_)))
   obtain rfl := sj h
   exact fin_ret (v := (Sl a24 r21 c25)) (results_ok Tryz.results28 (res_tmp (v := (Sl a24 r21 c25)) rfl res_nil) rfl) ⟨a24, c25, rfl, rfl⟩ (H.sel' [0] rfl rfl)

theorem c_laws_eqIntSS {Aa : List (List Int)} {Ah : List (List Int)} {Ad : Option Addr} {Ae : Nat} {Ai : Option Addr} {Aj : Nat} {r : Bool} (h : M.laws_eqIntSS Aa Ah = some r) :
    Cal2 Tryz.prog 29 [(Sl Ad Aa Ae), (Sl Ai Ah Aj)] [Ch.ro 0 (Sl Ad Aa Ae) Aa, Ch.ro 0 (Sl Ai Ah Aj) Ah] (fun n0 v L => v = (B r) ∧ L = []) := by
 refine cal2 (n := 27) Tryz.func29 rfl rfl rfl rfl ?_
 intro S0 σ0 n0 hn0 H
 unfold M.laws_eqIntSS at h
 refine c_seq (rg (sa (B false) rfl (w_end (q_then (c_seq (c_seq (rg (sm (Sl Ad Aa Ae) rfl (st (v := (I (Aa.length : Int))) (rv_len Tryz.underlying22 rfl) (sm (Sl Ai Ah Aj) rfl (st (v := (I (Ah.length : Int))) (rv_len Tryz.underlying22 rfl) ?_)))))))))))
 refine st (v := (B ((Aa.length : Int) != (Ah.length : Int)))) (rv_neq (a := (Aa.length : Int)) (b := (Ah.length : Int)) rfl rfl) (w_end (q_then ?_))
 refine cd_cond ((Aa.length : Int) != (Ah.length : Int)) rfl (fun hb1 => ?_) (fun hb1 => ?_)
 ·replace h := bif_t hb1 h
  refine c_seq (rg (sa (B false) rfl (w_end (q_then (c_ret (q_then_r ?_))))))
  obtain rfl := sj h
  exact fin_ret (v := (B false)) (results_ok Tryz.results29 (res_tmp (v := (B false)) rfl res_nil) rfl) ⟨rfl, rfl⟩ (H.sel' [] rfl rfl)
 ·replace h := bif_f hb1 h
  refine c_skip (q_then (c_seq (c_seq (rg (sa (I 0) rfl (w_end (q_then ?_)))))))
  obtain ⟨o2, hj, h'⟩ := bind_some h
  clear h
  refine c_cut (fun e a w => (∃ t, o2 = (.inl t) ∧ e = .normal ∧ ∃ (ρ : Nat → Value) (σ : St), a = fr 27 (updL ρ []) ∧ w = σ.w ∧ Hp S0 σ0 σ []) ∨ (∃ t, o2 = (.inr t) ∧ e = .ret ∧ ∃ (ρ : Nat → Value) (σ : St), a = fr 27 (updL ρ [(4, (B t))]) ∧ w = σ.w ∧ Hp S0 σ0 σ [])) ?_ ?_
  ·clear h'
   rename _ = some o2 => h
   refine c_blk (wp_loopM _ h (fun s3 a w => ∃ (ρ : Nat → Value) (σ : St), a = fr 27 (updL ρ [(0, (Sl Ad Aa Ae)), (1, (Sl Ai Ah Aj)), (5, (I s3))]) ∧ w = σ.w ∧ Hp S0 σ0 σ [Ch.ro 0 (Sl Ad Aa Ae) Aa, Ch.ro 0 (Sl Ai Ah Aj) Ah]) ⟨_, σ0, fr_join ⟨rfl, rfl, rfl, trivial⟩, rfl, H.sel' [0, 1] rfl rfl⟩ ?_)
   clear h H
   rintro s3 a w o ⟨ρ, σ4, rfl, rfl, H⟩ h hres
   refine c_seq (c_seq (rg (sm (I s3) rfl (sm (Sl Ad Aa Ae) rfl (st (v := (I (Aa.length : Int))) (rv_len Tryz.underlying22 rfl) (st (v := (B (decide (s3 < (Aa.length : Int))))) (rv_lss (a := s3) (b := (Aa.length : Int)) rfl rfl) (w_end (q_then ?_))))))))
   refine cd_cond (decide (s3 < (Aa.length : Int))) rfl (fun hb5 => ?_) (fun hb5 => ?_)
   ·replace h := bif_t hb5 h
    refine c_skip (q_then (c_seq (c_blk (c_seq ?_))))
    refine rgP (σ := σ4) 8 (by kernel_rfl) (by kernel_rfl) (by kernel_rfl) ?_
    refine sq (v := (Sl Ad Aa Ae)) (rv_move rfl) (sq (v := (I s3)) (rv_move rfl) ?_)
    revert h; refine br fun x6 hx7 h => ?_
    obtain ⟨b9, o10, hi8, -⟩ := (H.ro 0 rfl).ix hx7
    refine sq (v := (pt b9 o10)) (rv_ix Tryz.underlying22 ti26 rfl rfl hi8) ?_
    obtain ⟨v14, hc15, hR13⟩ := ((H.ro 0 rfl).at hx7 hi8).slice
    obtain ⟨a11, c12, rfl⟩ := hR13.isSl
    replace H := H.add (d := Ch.ro 0 (Sl a11 x6 c12) x6) hR13 (fun _ h => h)
    clear hR13
    refine sq (v := (Sl a11 x6 c12)) (rv_load1 Tryz.underlying26 rfl rfl hc15) (sq (v := (Sl Ai Ah Aj)) (rv_move rfl) (sq (v := (I s3)) (rv_move rfl) ?_))
    revert h; refine br fun x16 hx17 h => ?_
    obtain ⟨b19, o20, hi18, -⟩ := (H.ro 2 rfl).ix hx17
    refine sq (v := (pt b19 o20)) (rv_ix Tryz.underlying22 ti26 rfl rfl hi18) ?_
    obtain ⟨v24, hc25, hR23⟩ := ((H.ro 2 rfl).at hx17 hi18).slice
    obtain ⟨a21, c22, rfl⟩ := hR23.isSl
    replace H := H.add (d := Ch.ro 0 (Sl a21 x16 c22) x16) hR23 (fun _ h => h)
    clear hR23
    refine sq (v := (Sl a21 x16 c22)) (rv_load1 Tryz.underlying26 rfl rfl hc25) (sq_end ?_)
    intro σ26 hm27
    replace H := H.grow (hm27.mono fun _ h => h); clear hm27
    revert h; refine br fun r28 hx29 h => ?_
    have hc30 := c_laws_eqIntS (Ad := a11) (Ae := c12) (Ai := a21) (Aj := c22) hx29
    refine st_call (cx_call hc30 (ent_f hc30.fn rfl) hn0 (H.sel' [1, 0, 0, 1, 2, 3] rfl rfl : Hp S0 σ0 _ ([_, _] ++ _))) wn ?_
    rintro _ σ31 ⟨_, ⟨rfl, rfl⟩, H, -⟩
    replace H : Hp _ _ _ [_, _, _, _] := H
    refine st (v := (B (!r28))) (rv_not rfl) (w_end (q_then ?_))
    refine cd_cond (!r28) rfl (fun hb32 => ?_) (fun hb32 => ?_)
    ·replace h := bif_t hb32 h
     refine c_seq (rg (sa (B false) rfl (w_end (q_then (c_ret (q_blk_r (q_then_r (q_then_r (q_blk_r ?_)))))))))
     obtain rfl := sj h
     obtain rfl := hres _ rfl
     exact .inr (⟨_, rfl, rfl, _, σ31, fr_join ⟨rfl, trivial⟩, rfl, H.sel' [] rfl rfl⟩)
    ·replace h := bif_f hb32 h
     refine c_skip (q_blk (q_then (rg (sm (I s3) rfl (st (v := (I (w64 (s3 + 1)))) (rv_add (a := s3) (b := 1) rfl rfl) (sa (I (w64 (s3 + 1))) rfl (w_end (q_then ?_))))))))
     obtain rfl := sj h
     exact ⟨_, rfl, _, σ31, fr_join ⟨rfl, rfl, rfl, trivial⟩, rfl, H.sel' [2, 3] rfl rfl⟩
   ·replace h := bif_f hb5 h
    refine c_exit (q_then_x (q_then_x (q_blk_hit ?_)))
    obtain rfl := sj h
    obtain rfl := hres _ rfl
    exact .inl ⟨_, rfl, rfl, _, σ4, fr_join trivial, rfl, H.sel' [] rfl rfl⟩
  ·clear hj
   have h := h'
   clear h' H
   rintro e a w (⟨t33, rfl, rfl, ρ, σ34, rfl, rfl, H⟩ | ⟨t35, rfl, rfl, ρ, σ36, rfl, rfl, H⟩)
   ·replace h := selim_l h
    refine q_then (c_seq (rg (sa (B true) rfl (w_end (q_then (c_ret ?_))))))
    obtain rfl := sj h
    exact fin_ret (v := (B true)) (results_ok Tryz.results29 (res_tmp (v := (B true)) rfl res_nil) rfl) ⟨rfl, rfl⟩ (H.sel' [] rfl rfl)
   ·replace h := selim_r h
    refine q_then_r ?_
    obtain rfl := sj h
    exact fin_ret (v := (B t35)) (results_ok Tryz.results29 (res_tmp (v := (B t35)) rfl res_nil) rfl) ⟨rfl, rfl⟩ (H.sel' [] rfl rfl)

theorem c_laws_markIntSS {Aa : List (List Int)} {Ao : Int} {Ad : Option Addr} {Ae : Nat} {lo : Nat} {K : List Ch} (hK : Dp lo (Sl Ad Aa Ae) Aa K) {r : Int} (h : M.markIntSD Aa Ao = some r) :
    Cal2 Tryz.prog 30 [(Sl Ad Aa Ae), (I Ao)] [Ch.big K] (fun n0 v L => v = (I r) ∧ L = []) := by
 obtain ⟨hn, h⟩ := markIntSD_some h
 obtain ⟨ps, hps, rfl⟩ := hK.ex
 refine cal2 (n := 19) Tryz.func30 rfl rfl rfl rfl ?_
 intro S0 σ0 n0 hn0 H
 refine c_seq (rg (sa (I 0) rfl (w_end (q_then (c_seq (c_seq (rg (sa (I 0) rfl (w_end (q_then ?_))))))))))
 refine c_cut (fun e a w => e = .normal ∧ ∃ (ρ : Nat → Value) (σ : St), a = fr 19 (updL ρ [(1, (I r))]) ∧ w = σ.w ∧ Hp S0 σ0 σ []) ?_ ?_
 ·refine c_blk ?_
  have hlen : ps.length = Aa.length := by rw [hps]; simp
  refine wp_loop_ghost (fun m a w => ∃ (i : Nat) (ρ : Nat → Value) (σ : St) (ys : List Value) (qs : List ((List Int) × Value)) (k : Int), i + m = Aa.length ∧ qs.length = m ∧ ys.drop i = qs.map dsh ∧ M.dmarkIntSS (qs.map (·.1)) k = some r ∧ a = fr 19 (updL ρ [(0, (Sl Ad Aa Ae)), (1, (I k)), (5, (I (i : Int)))]) ∧ w = σ.w ∧ Hp S0 σ0 σ [Ch.own lo lo (Sl Ad Aa Ae) ys, Ch.big (qs.map (dow lo))]) Aa.length ⟨0, _, σ0, _, ps, Ao, by omega, hlen, rfl, hps ▸ h, fr_join ⟨rfl, rfl, rfl, trivial⟩, rfl, H.unbig⟩ ?_
  clear H
  rintro m _ _ ⟨i, ρ, σ3, ys, qs, k, him, hqs, hys, hk, rfl, rfl, H⟩
  refine c_seq (c_seq (rg (sm (I (i : Int)) rfl (sm (Sl Ad Aa Ae) rfl (st (v := (I (Aa.length : Int))) (rv_len Tryz.underlying22 rfl) (st (v := (B (decide ((i : Int) < (Aa.length : Int))))) (rv_lss (a := (i : Int)) (b := (Aa.length : Int)) rfl rfl) (w_end (q_then ?_))))))))
  refine cd_cond (decide ((i : Int) < (Aa.length : Int))) rfl (fun hb => ?_) (fun hb => ?_)
  ·have hlt : i < Aa.length := by have := of_decide_eq_true hb; omega
   obtain ⟨m, rfl⟩ : ∃ m', m = m' + 1 := ⟨m - 1, by omega⟩
   obtain ⟨p, qs, rfl⟩ : ∃ p qs', qs = p :: qs' := by cases qs with
    | nil => cases hqs
    | cons p qs => exact ⟨p, qs, rfl⟩
   obtain ⟨q, hq, hk'⟩ := bind_some (show (M.laws_markIntS p.1 k).bind (fun q => M.dmarkIntSS (qs.map (·.1)) q.1) = some r from hk)
   replace hys : ys.drop i = dsh p :: qs.map dsh := hys
   refine c_skip (q_then (c_seq (c_blk (rg (sm (Sl Ad Aa Ae) rfl (sm (I (i : Int)) rfl ?_))))))
   have hx7 := gidx_drop hys
   obtain ⟨b9, o10, hi8, -⟩ := (H.own 0 rfl).ix hx7
   refine st (v := (pt b9 o10)) (rv_ix Tryz.underlying22 ti26 rfl rfl hi8) ?_
   obtain ⟨_, ⟨rfl, hpl⟩, hl18, hc19⟩ := ((H.own 0 rfl).at hx7 hi8).cells
   replace H := Hp.unbig (H.sel' [1, 0] rfl rfl)
   obtain ⟨a20, c21, h22⟩ : IsSl p.2 p.1.length := (show Ow σ3 lo lo p.2 p.1 from H.head).isSl
   obtain ⟨px, hd⟩ := p
   dsimp only at h22 hq hys hc19
   subst h22
   have hc20 := hc19 0 (by simp)
   refine st (v := (Sl a20 px c21)) (rv_load1 Tryz.underlying26 rfl rfl hc20) (sm (I k) rfl ?_)
   replace H : Hp _ _ _ [_, _, _] := H
   replace H := H.ownSc 0 0 0 rfl (Nat.zero_le _)
   have hc25 := c_laws_markIntS (Ad := a20) (Ae := c21) hq
   refine st_call (cx_call hc25 (ent_f hc25.fn rfl) hn0 (H.sel' [0, 1, 2] rfl rfl : Hp S0 σ0 _ ([_] ++ _))) (wanted_none _ rfl _) ?_
   rintro _ σ29 ⟨_, ⟨rfl, rfl, -⟩, H, -⟩
   replace H : Hp _ _ _ [_, _, _] := H
   replace H := H.sel' [2, 1] rfl rfl
   refine sa (I q.1) rfl (w_end (q_blk (q_then (rg (sm (I (i : Int)) rfl (st (v := (I (w64 ((i : Int) + 1)))) (rv_add (a := (i : Int)) (b := 1) rfl rfl) (sa (I (w64 ((i : Int) + 1))) rfl (w_end ?_))))))))
   have e1 : w64 ((i : Int) + 1) = ((i + 1 : Nat) : Int) := w64_id (by omega) (by omega)
   rw [e1]
   refine q_then ?_
   exact ⟨m, by omega, i + 1, _, σ29, _, qs, _, by omega, by simpa using hqs, drop_next hys, hk', fr_join ⟨rfl, rfl, rfl, trivial⟩, rfl, H⟩
  ·have hlt : ¬ i < Aa.length := by have := of_decide_eq_false hb; omega
   obtain rfl : m = 0 := by omega
   obtain rfl : qs = [] := List.eq_nil_of_length_eq_zero hqs
   obtain rfl : k = r := Option.some.inj hk
   refine c_exit (q_then_x (q_then_x (q_blk_hit ?_)))
   exact ⟨rfl, _, σ3, fr_join ⟨rfl, trivial⟩, rfl, H.sel' [] rfl rfl⟩
 ·clear H
  rintro e a w ⟨rfl, ρ, σ41, rfl, rfl, H⟩
  refine q_then (c_seq (rg (sm (I r) rfl (sa (I r) rfl (w_end (q_then (c_ret ?_)))))))
  exact fin_ret (v := (I r)) (results_ok Tryz.results30 (res_tmp (v := (I r)) rfl res_nil) rfl) ⟨rfl, rfl⟩ H


theorem c_laws_FnExactHashNearest {He : List (List Int)} {Hf : List (Int × (List Int) × Int)} {Hg : List Int} {Hi : Int} {Hj : Int} {Hk : Option Addr} {Hl : Nat} {Hm : Option Addr} {Hn : Nat} {Ho : Option Addr} {Hq : Nat} {r : Bool} (h : M.laws_FnExactHashNearest He Hf Hg Hi Hj = some r) :
    Cal2 Tryz.prog 5 [(Sl Hk He Hl), (Sl Hm Hf Hn), (Sl Ho Hg Hq), (I Hi), (I Hj)] [Ch.ro 0 (Sl Hk He Hl) He, Ch.ro 0 (Sl Hm Hf Hn) Hf, Ch.ro 0 (Sl Ho Hg Hq) Hg] (fun n0 v L => v = (B r) ∧ L = []) := by
 refine cal2 (n := 123) Tryz.func5 rfl rfl rfl rfl ?_
 intro S0 σ0 n0 hn0 H
 unfold M.laws_FnExactHashNearest at h
 refine c_seq (rg (sa (B false) rfl (w_end (q_then (c_seq (c_seq (rg (sm (Sl Ho Hg Hq) rfl (st (v := (I (Hg.length : Int))) (rv_len Tryz.underlying26 rfl) (st (v := (B (decide (1048576 < (Hg.length : Int))))) (rv_gtr (a := (Hg.length : Int)) (b := 1048576) rfl rfl) (w_end ?_)))))))))))
 refine q_then ?_
 refine cd_cond (decide (1048576 < (Hg.length : Int))) rfl (fun hb1 => ?_) (fun hb1 => ?_)
 ·replace h := bif_t hb1 h
  refine c_seq (rg (sa (B true) rfl (w_end (q_then (c_ret (q_then_r ?_))))))
  obtain rfl := sj h
  exact fin_ret (v := (B true)) (results_ok Tryz.results5 (res_tmp (v := (B true)) rfl res_nil) rfl) ⟨rfl, rfl⟩ (H.sel' [] rfl rfl)
 ·replace h := bif_f hb1 h
  refine c_skip (q_then (c_seq (rg (sa (I 1048576) rfl (w_end (q_then (c_seq (rg (sm (Sl Hk He Hl) rfl (sm (I 1048576) rfl ?_))))))))))
  revert h; refine br fun r2 hx3 h => ?_
  have hc4 := c_laws_szIntSS (Ad := Hk) (Ae := Hl) hx3
  refine st_call (cx_call hc4 (ent_f hc4.fn rfl) hn0 (H.sel' [0, 0, 1, 2] rfl rfl : Hp S0 σ0 _ ([_] ++ _))) wn ?_
  rintro _ σ5 ⟨_, ⟨rfl, rfl⟩, H, -⟩
  replace H : Hp _ _ _ [_, _, _] := H
  refine sa (I r2) rfl (w_end (q_then (c_seq (c_seq (rg (sm (I r2) rfl (st (v := (B (decide (r2 < 0)))) (rv_lss (a := r2) (b := 0) rfl rfl) (w_end (q_then ?_)))))))))
  refine cd_cond (decide (r2 < 0)) rfl (fun hb6 => ?_) (fun hb6 => ?_)
  ·replace h := bif_t hb6 h
   refine c_seq (rg (sa (B true) rfl (w_end (q_then (c_ret (q_then_r ?_))))))
   obtain rfl := sj h
   exact fin_ret (v := (B true)) (results_ok Tryz.results5 (res_tmp (v := (B true)) rfl res_nil) rfl) ⟨rfl, rfl⟩ (H.sel' [] rfl rfl)
  ·replace h := bif_f hb6 h
   refine c_skip (q_then (c_seq (rg (sm (Sl Hm Hf Hn) rfl (sm (I r2) rfl ?_)))))
   revert h; refine br fun r7 hx8 h => ?_
   have hc9 := c_laws_szItemS (Ad := Hm) (Ae := Hn) hx8
   refine st_call (cx_call hc9 (ent_f hc9.fn rfl) hn0 (H.sel' [1, 0, 1, 2] rfl rfl : Hp S0 σ0 _ ([_] ++ _))) wn ?_
   rintro _ σ10 ⟨_, ⟨rfl, rfl⟩, H, -⟩
   replace H : Hp _ _ _ [_, _, _] := H
   refine sa (I r7) rfl (w_end (q_then (c_seq (c_seq (rg (sm (I r7) rfl (st (v := (B (decide (r7 < 0)))) (rv_lss (a := r7) (b := 0) rfl rfl) (w_end (q_then ?_)))))))))
   refine cd_cond (decide (r7 < 0)) rfl (fun hb11 => ?_) (fun hb11 => ?_)
   ·replace h := bif_t hb11 h
    refine c_seq (rg (sa (B true) rfl (w_end (q_then (c_ret (q_then_r ?_))))))
    obtain rfl := sj h
    exact fin_ret (v := (B true)) (results_ok Tryz.results5 (res_tmp (v := (B true)) rfl res_nil) rfl) ⟨rfl, rfl⟩ (H.sel' [] rfl rfl)
   ·replace h := bif_f hb11 h
    refine c_skip (q_then (c_seq (rg (sm (Sl Hk He Hl) rfl ?_))))
    revert h; refine br fun r12 hx13 h => ?_
    have hc14 := c_laws_toIntSS (Ad := Hk) (Ae := Hl) hx13
    refine st_call (cx_call hc14 (ent_f hc14.fn rfl) hn0 (H.sel' [0, 0, 1, 2] rfl rfl : Hp S0 σ0 _ ([_] ++ _))) wn ?_
    rintro _ σ19 ⟨_, ⟨a15, c16, K17, rfl, rfl, hK18⟩, H, -⟩
    replace H : Hp _ _ _ [_, _, _, _] := H
    refine sm (Sl Hm Hf Hn) rfl ?_
    revert h; refine br fun r20 hx21 h => ?_
    have hc22 := c_laws_toItemS (Ad := Hm) (Ae := Hn) hx21
    refine st_call (cx_call hc22 (ent_f hc22.fn rfl) hn0 (H.sel' [2, 0, 1, 2, 3] rfl rfl : Hp S0 σ0 _ ([_] ++ _))) wn ?_
    rintro _ σ27 ⟨_, ⟨a23, c24, K25, rfl, rfl, hK26⟩, H, -⟩
    replace H : Hp _ _ _ [_, _, _, _, _] := H
    refine sm (Sl Ho Hg Hq) rfl ?_
    revert h; refine br fun r28 hx29 h => ?_
    have hc30 := c_laws_toIntS (Ad := Ho) (Ae := Hq) hx29
    refine st_call (cx_call hc30 (ent_f hc30.fn rfl) hn0 (H.sel' [4, 0, 1, 2, 3, 4] rfl rfl : Hp S0 σ0 _ ([_] ++ _))) wn ?_
    rintro _ σ34 ⟨_, ⟨a31, c32, rfl, rfl, ht33⟩, H, -⟩
    replace H : Hp _ _ _ [_, _, _, _, _, _] := H
    refine sm (I Hi) rfl (sm (I Hj) rfl ?_)
    obtain ⟨σ35, hw36, H, -⟩ := H.pub 0 rfl (Nat.le_refl _)
    rw [← hw36]; clear hw36
    replace H := H.roLow 0 0 rfl (Nat.zero_le _)
    revert h; refine br fun r37 hx38 h => ?_
    have hc39 := c_spec_HashNearest (Bt := a15) (Bu := c16) (Ca := a23) (Cb := c24) (Bf := a31) (Bg := c32) hx38
    have hle := Nat.le_trans hn0 H.size
    refine st_call (cx_lend (Loan.lendB hK18.lends (Loan.lendB hK26.lends (Loan.same Loan.nil))) hc39 (ent_f hc39.fn rfl) (show Hp S0 σ0 _ ([Ch.big K17, Ch.big K25] ++ ([Ch.ro 0 (Sl a31 r28 c32) r28] ++ [Ch.ro 0 (Sl a31 r28 c32) r28, Ch.ro n0 (Sl a31 r28 c32) r28, Ch.ro 0 (Sl Hk He Hl) He, Ch.ro 0 (Sl Hm Hf Hn) Hf, Ch.ro 0 (Sl Ho Hg Hq) Hg])) from (H.sel' [3, 2, 0, 0, 1, 4, 5, 6] rfl rfl)) (by rintro _ _ _ ⟨_, _, rfl, rfl⟩; exact ⟨Ab.ownSc, trivial⟩)) wn ?_
    rintro _ σ42 ⟨_, ⟨a40, c41, rfl, rfl⟩, H, -, -⟩
    replace H : Hp _ _ _ [_, _, _, _, _, _, _, _] := H
    replace H := H.ownLow 0 n0 n0 rfl hle hle
    clear hle
    replace H : Hp _ _ _ [_, _, _, _, _, _, _, _] := H
    replace H : Hp S0 σ0 σ42 [Ch.own n0 n0 (Sl a40 r37 c41) r37, Ch.ro 0 (Sl Hk He Hl) He, Ch.ro 0 (Sl Hm Hf Hn) Hf, Ch.ro 0 (Sl Ho Hg Hq) Hg] := H.sel' [0, 5, 6, 7] rfl rfl
    refine sa (Sl a40 r37 c41) rfl (w_end (q_then (c_seq (rg (sm (Sl Hk He Hl) rfl ?_)))))
    revert h; refine br fun r43 hx44 h => ?_
    have hc45 := c_laws_toIntSS (Ad := Hk) (Ae := Hl) hx44
    refine st_call (cx_call hc45 (ent_f hc45.fn rfl) hn0 (H.sel' [1, 0, 1, 2, 3] rfl rfl : Hp S0 σ0 _ ([_] ++ _))) wn ?_
    rintro _ σ50 ⟨_, ⟨a46, c47, K48, rfl, rfl, hK49⟩, H, -⟩
    replace H : Hp _ _ _ [_, _, _, _, _] := H
    refine sa (Sl a46 r43 c47) rfl (w_end (q_then (c_seq (rg (sm (Sl Hm Hf Hn) rfl ?_)))))
    revert h; refine br fun r51 hx52 h => ?_
    have hc53 := c_laws_toItemS (Ad := Hm) (Ae := Hn) hx52
    refine st_call (cx_call hc53 (ent_f hc53.fn rfl) hn0 (H.sel' [3, 0, 1, 2, 3, 4] rfl rfl : Hp S0 σ0 _ ([_] ++ _))) wn ?_
    rintro _ σ58 ⟨_, ⟨a54, c55, K56, rfl, rfl, hK57⟩, H, -⟩
    replace H : Hp _ _ _ [_, _, _, _, _, _] := H
    refine sa (Sl a54 r51 c55) rfl (w_end (q_then (c_seq (rg (sm (Sl Ho Hg Hq) rfl ?_)))))
    revert h; refine br fun r59 hx60 h => ?_
    have hc61 := c_laws_toIntS (Ad := Ho) (Ae := Hq) hx60
    refine st_call (cx_call hc61 (ent_f hc61.fn rfl) hn0 (H.sel' [5, 0, 1, 2, 3, 4, 5] rfl rfl : Hp S0 σ0 _ ([_] ++ _))) wn ?_
    rintro _ σ65 ⟨_, ⟨a62, c63, rfl, rfl, ht64⟩, H, -⟩
    replace H : Hp _ _ _ [_, _, _, _, _, _, _] := H
    refine sa (Sl a62 r59 c63) rfl (w_end (q_then (c_seq (rg (sm (Sl a46 r43 c47) rfl (sm (Sl a54 r51 c55) rfl (sm (Sl a62 r59 c63) rfl (sm (I Hi) rfl (sm (I Hj) rfl ?_)))))))))
    revert h; refine br fun r66 hx67 h => ?_
    have hc68 := c_impl_HashNearest (Bt := a46) (Bu := c47) (Ca := a54) (Cb := c55) (Bf := a62) (Bg := c63) hx67
    have hle := Nat.le_trans hn0 H.size
    refine st_call (cx_lend (Loan.lendB hK49.lends (Loan.lendB hK57.lends (Loan.lend Loan.nil))) hc68 (ent_f hc68.fn rfl) (show Hp S0 σ0 _ ([Ch.big K48, Ch.big K56, Ch.own n0 n0 (Sl a62 r59 c63) r59] ++ ([] ++ [Ch.own n0 n0 (Sl a40 r37 c41) r37, Ch.ro 0 (Sl Hk He Hl) He, Ch.ro 0 (Sl Hm Hf Hn) Hf, Ch.ro 0 (Sl Ho Hg Hq) Hg])) from (H.sel' [2, 1, 0, 3, 4, 5, 6] rfl rfl)) (by rintro _ _ _ ⟨_, _, rfl, rfl⟩; exact ⟨Ab.ownSc, trivial⟩)) wn ?_
    rintro _ σ71 ⟨_, ⟨a69, c70, rfl, rfl⟩, H, -, -⟩
    replace H : Hp _ _ _ [_, _, _, _, _, _, _, _] := H
    replace H := H.ownLow 0 0 n0 rfl (Nat.le_refl _) hle
    clear hle
    replace H : Hp _ _ _ [_, _, _, _, _, _, _, _] := H
    refine sa (Sl a69 r66 c70) rfl (w_end (q_then (c_seq (c_seq (rg (sm (Sl a69 r66 c70) rfl (sm (Sl a40 r37 c41) rfl ?_)))))))
    revert h; refine br fun r72 hx73 h => ?_
    have hc74 := c_laws_eqHitS (Ad := a69) (Ae := c70) (Ai := a40) (Aj := c41) hx73
    have hle := Nat.le_trans hn0 H.size
    refine st_call (cx_lend (Loan.lend (Loan.lend Loan.nil)) hc74 (ent_f hc74.fn rfl) (show Hp S0 σ0 _ ([Ch.own 0 n0 (Sl a69 r66 c70) r66, Ch.own n0 n0 (Sl a40 r37 c41) r37] ++ ([] ++ [Ch.big K48, Ch.big K56, Ch.own n0 n0 (Sl a62 r59 c63) r59, Ch.ro 0 (Sl Hk He Hl) He, Ch.ro 0 (Sl Hm Hf Hn) Hf, Ch.ro 0 (Sl Ho Hg Hq) Hg])) from (H.sel' [0, 4, 1, 2, 3, 5, 6, 7] rfl rfl)) (by rintro _ _ _ ⟨rfl, rfl⟩; exact trivial)) wn ?_
    rintro _ σ75 ⟨_, ⟨rfl, rfl⟩, H, -, -⟩
    replace H : Hp _ _ _ [_, _, _, _, _, _, _, _] := H
    clear hle
    replace H : Hp _ _ _ [_, _, _, _, _, _, _, _] := H
    refine st (v := (B (!r72))) (rv_not rfl) (w_end (q_then ?_))
    refine cd_cond (!r72) rfl (fun hb76 => ?_) (fun hb76 => ?_)
    ·replace h := bif_t hb76 h
     refine c_seq (rg (sa (B false) rfl (w_end (q_then (c_ret (q_then_r ?_))))))
     obtain rfl := sj h
     exact fin_ret (v := (B false)) (results_ok Tryz.results5 (res_tmp (v := (B false)) rfl res_nil) rfl) ⟨rfl, rfl⟩ (H.sel' [] rfl rfl)
    ·replace h := bif_f hb76 h
     refine c_skip (q_then (c_seq (c_seq (rg (sm (Sl a46 r43 c47) rfl (sm (Sl Hk He Hl) rfl ?_))))))
     revert h; refine br fun r77 hx78 h => ?_
     have hc79 := c_laws_toIntSS (Ad := Hk) (Ae := Hl) hx78
     refine st_call (cx_call hc79 (ent_f hc79.fn rfl) hn0 (H.sel' [5, 0, 1, 2, 3, 4, 5, 6, 7] rfl rfl : Hp S0 σ0 _ ([_] ++ _))) wn ?_
     rintro _ σ84 ⟨_, ⟨a80, c81, K82, rfl, rfl, hK83⟩, H, -⟩
     replace H : Hp _ _ _ [_, _, _, _, _, _, _, _, _] := H
     revert h; refine br fun r85 hx86 h => ?_
     have hc87 := c_laws_eqIntSS (Ad := a46) (Ae := c47) (Ai := a80) (Aj := c81) hx86
     have hle := Nat.le_trans hn0 H.size
     refine st_call (cx_lend (Loan.lendB hK49.lends (Loan.lendB hK83.lends Loan.nil)) hc87 (ent_f hc87.fn rfl) (show Hp S0 σ0 _ ([Ch.big K48, Ch.big K82] ++ ([] ++ [Ch.own 0 n0 (Sl a69 r66 c70) r66, Ch.own n0 n0 (Sl a40 r37 c41) r37, Ch.big K56, Ch.own n0 n0 (Sl a62 r59 c63) r59, Ch.ro 0 (Sl Hk He Hl) He, Ch.ro 0 (Sl Hm Hf Hn) Hf, Ch.ro 0 (Sl Ho Hg Hq) Hg])) from (H.sel' [3, 0, 1, 2, 4, 5, 6, 7, 8] rfl rfl)) (by rintro _ _ _ ⟨rfl, rfl⟩; exact trivial)) wn ?_
     rintro _ σ88 ⟨_, ⟨rfl, rfl⟩, H, -, -⟩
     replace H : Hp _ _ _ [_, _, _, _, _, _, _, _, _] := H
     clear hle
     replace H : Hp _ _ _ [_, _, _, _, _, _, _, _, _] := H
     replace H : Hp S0 σ0 σ88 [Ch.big K48, Ch.own 0 n0 (Sl a69 r66 c70) r66, Ch.own n0 n0 (Sl a40 r37 c41) r37, Ch.big K56, Ch.own n0 n0 (Sl a62 r59 c63) r59, Ch.ro 0 (Sl Hk He Hl) He, Ch.ro 0 (Sl Hm Hf Hn) Hf, Ch.ro 0 (Sl Ho Hg Hq) Hg] := H.sel' [0, 2, 3, 4, 5, 6, 7, 8] rfl rfl
     refine st (v := (B (!r85))) (rv_not rfl) (w_end (q_then ?_))
     refine cd_cond (!r85) rfl (fun hb89 => ?_) (fun hb89 => ?_)
     ·replace h := bif_t hb89 h
      refine c_seq (rg (sa (B false) rfl (w_end (q_then (c_ret (q_then_r ?_))))))
      obtain rfl := sj h
      exact fin_ret (v := (B false)) (results_ok Tryz.results5 (res_tmp (v := (B false)) rfl res_nil) rfl) ⟨rfl, rfl⟩ (H.sel' [] rfl rfl)
     ·replace h := bif_f hb89 h
      refine c_skip (q_then (c_seq (c_seq (rg (sm (Sl a54 r51 c55) rfl (sm (Sl Hm Hf Hn) rfl ?_))))))
      revert h; refine br fun r90 hx91 h => ?_
      have hc92 := c_laws_toItemS (Ad := Hm) (Ae := Hn) hx91
      refine st_call (cx_call hc92 (ent_f hc92.fn rfl) hn0 (H.sel' [6, 0, 1, 2, 3, 4, 5, 6, 7] rfl rfl : Hp S0 σ0 _ ([_] ++ _))) wn ?_
      rintro _ σ97 ⟨_, ⟨a93, c94, K95, rfl, rfl, hK96⟩, H, -⟩
      replace H : Hp _ _ _ [_, _, _, _, _, _, _, _, _] := H
      revert h; refine br fun r98 hx99 h => ?_
      have hc100 := c_laws_eqItemS (Ad := a54) (Ae := c55) (Ai := a93) (Aj := c94) hx99
      have hle := Nat.le_trans hn0 H.size
      refine st_call (cx_lend (Loan.lendB hK57.lends (Loan.lendB hK96.lends Loan.nil)) hc100 (ent_f hc100.fn rfl) (show Hp S0 σ0 _ ([Ch.big K56, Ch.big K95] ++ ([] ++ [Ch.big K48, Ch.own 0 n0 (Sl a69 r66 c70) r66, Ch.own n0 n0 (Sl a40 r37 c41) r37, Ch.own n0 n0 (Sl a62 r59 c63) r59, Ch.ro 0 (Sl Hk He Hl) He, Ch.ro 0 (Sl Hm Hf Hn) Hf, Ch.ro 0 (Sl Ho Hg Hq) Hg])) from (H.sel' [4, 0, 1, 2, 3, 5, 6, 7, 8] rfl rfl)) (by rintro _ _ _ ⟨rfl, rfl⟩; exact trivial)) wn ?_
      rintro _ σ101 ⟨_, ⟨rfl, rfl⟩, H, -, -⟩
      replace H : Hp _ _ _ [_, _, _, _, _, _, _, _, _] := H
      clear hle
      replace H : Hp _ _ _ [_, _, _, _, _, _, _, _, _] := H
      replace H : Hp S0 σ0 σ101 [Ch.big K56, Ch.big K48, Ch.own 0 n0 (Sl a69 r66 c70) r66, Ch.own n0 n0 (Sl a40 r37 c41) r37, Ch.own n0 n0 (Sl a62 r59 c63) r59, Ch.ro 0 (Sl Hk He Hl) He, Ch.ro 0 (Sl Hm Hf Hn) Hf, Ch.ro 0 (Sl Ho Hg Hq) Hg] := H.sel' [0, 2, 3, 4, 5, 6, 7, 8] rfl rfl
      refine st (v := (B (!r98))) (rv_not rfl) (w_end (q_then ?_))
      refine cd_cond (!r98) rfl (fun hb102 => ?_) (fun hb102 => ?_)
      ·replace h := bif_t hb102 h
       refine c_seq (rg (sa (B false) rfl (w_end (q_then (c_ret (q_then_r ?_))))))
       obtain rfl := sj h
       exact fin_ret (v := (B false)) (results_ok Tryz.results5 (res_tmp (v := (B false)) rfl res_nil) rfl) ⟨rfl, rfl⟩ (H.sel' [] rfl rfl)
      ·replace h := bif_f hb102 h
       refine c_skip (q_then (c_seq (c_seq (rg (sm (Sl a62 r59 c63) rfl (sm (Sl Ho Hg Hq) rfl ?_))))))
       revert h; refine br fun r103 hx104 h => ?_
       have hc105 := c_laws_toIntS (Ad := Ho) (Ae := Hq) hx104
       refine st_call (cx_call hc105 (ent_f hc105.fn rfl) hn0 (H.sel' [7, 0, 1, 2, 3, 4, 5, 6, 7] rfl rfl : Hp S0 σ0 _ ([_] ++ _))) wn ?_
       rintro _ σ109 ⟨_, ⟨a106, c107, rfl, rfl, ht108⟩, H, -⟩
       replace H : Hp _ _ _ [_, _, _, _, _, _, _, _, _] := H
       obtain ⟨σ110, hw111, H, -⟩ := H.pub 0 rfl (Nat.le_refl _)
       rw [← hw111]; clear hw111
       replace H := H.roLow 0 0 rfl (Nat.zero_le _)
       revert h; refine br fun r112 hx113 h => ?_
       have hc114 := c_laws_eqIntS (Ad := a62) (Ae := c63) (Ai := a106) (Aj := c107) hx113
       have hle := Nat.le_trans hn0 H.size
       refine st_call (cx_lend (Loan.lend (Loan.same Loan.nil)) hc114 (ent_f hc114.fn rfl) (show Hp S0 σ0 _ ([Ch.own n0 n0 (Sl a62 r59 c63) r59] ++ ([Ch.ro 0 (Sl a106 r103 c107) r103] ++ [Ch.ro 0 (Sl a106 r103 c107) r103, Ch.ro n0 (Sl a106 r103 c107) r103, Ch.big K56, Ch.big K48, Ch.own 0 n0 (Sl a69 r66 c70) r66, Ch.own n0 n0 (Sl a40 r37 c41) r37, Ch.ro 0 (Sl Hk He Hl) He, Ch.ro 0 (Sl Hm Hf Hn) Hf, Ch.ro 0 (Sl Ho Hg Hq) Hg])) from (H.sel' [6, 0, 0, 1, 2, 3, 4, 5, 7, 8, 9] rfl rfl)) (by rintro _ _ _ ⟨rfl, rfl⟩; exact trivial)) wn ?_
       rintro _ σ115 ⟨_, ⟨rfl, rfl⟩, H, -, -⟩
       replace H : Hp _ _ _ [_, _, _, _, _, _, _, _, _, _] := H
       clear hle
       replace H : Hp _ _ _ [_, _, _, _, _, _, _, _, _, _] := H
       replace H : Hp S0 σ0 σ115 [Ch.own n0 n0 (Sl a62 r59 c63) r59, Ch.big K56, Ch.big K48, Ch.own 0 n0 (Sl a69 r66 c70) r66, Ch.own n0 n0 (Sl a40 r37 c41) r37, Ch.ro 0 (Sl Hk He Hl) He, Ch.ro 0 (Sl Hm Hf Hn) Hf, Ch.ro 0 (Sl Ho Hg Hq) Hg] := H.sel' [0, 3, 4, 5, 6, 7, 8, 9] rfl rfl
       refine st (v := (B (!r112))) (rv_not rfl) (w_end (q_then ?_))
       refine cd_cond (!r112) rfl (fun hb116 => ?_) (fun hb116 => ?_)
       ·replace h := bif_t hb116 h
        refine c_seq (rg (sa (B false) rfl (w_end (q_then (c_ret (q_then_r ?_))))))
        obtain rfl := sj h
        exact fin_ret (v := (B false)) (results_ok Tryz.results5 (res_tmp (v := (B false)) rfl res_nil) rfl) ⟨rfl, rfl⟩ (H.sel' [] rfl rfl)
       ·replace h := bif_f hb116 h
        refine c_skip (q_then (c_seq (rg (sa (I 1) rfl (w_end (q_then (c_seq (rg (sm (Sl a46 r43 c47) rfl (sm (I 1) rfl ?_))))))))))
        revert h; refine br fun r117 hx118 h => ?_
        have hc119 := c_laws_markIntSS (Ad := a46) (Ae := c47) (hK := hK49) hx118
        refine st_call (cx_call hc119 (ent_f hc119.fn rfl) hn0 (H.sel' [2, 0, 1, 3, 4, 5, 6, 7] rfl rfl : Hp S0 σ0 _ ([_] ++ _))) wn ?_
        rintro _ σ120 ⟨_, ⟨rfl, rfl⟩, H, -⟩
        replace H : Hp _ _ _ [_, _, _, _, _, _, _] := H
        refine sa (I r117) rfl (w_end (q_then (c_seq (rg (sm (Sl a54 r51 c55) rfl (sm (I r117) rfl ?_))))))
        revert h; refine br fun r121 hx122 h => ?_
        have hc123 := c_laws_markItemS (Ad := a54) (Ae := c55) (hK := hK57) hx122
        refine st_call (cx_call hc123 (ent_f hc123.fn rfl) hn0 (H.sel' [1, 0, 2, 3, 4, 5, 6] rfl rfl : Hp S0 σ0 _ ([_] ++ _))) wn ?_
        rintro _ σ124 ⟨_, ⟨rfl, rfl⟩, H, -⟩
        replace H : Hp _ _ _ [_, _, _, _, _, _] := H
        refine sa (I r121) rfl (w_end (q_then (c_seq (rg (sm (Sl a62 r59 c63) rfl (sm (I r121) rfl ?_))))))
        replace H := H.ownLow 0 0 0 rfl (Nat.zero_le _) (Nat.zero_le _)
        revert h; refine br fun r125 hx126 h => ?_
        have hc127 := c_laws_markIntS (Ad := a62) (Ae := c63) hx126
        refine st_call (cx_call hc127 (ent_f hc127.fn rfl) hn0 (H.sel' [0, 1, 2, 3, 4, 5] rfl rfl : Hp S0 σ0 _ ([_] ++ _))) wn ?_
        rintro _ σ129 ⟨_, ⟨rfl, rfl, hn128⟩, H, -⟩
        replace H : Hp _ _ _ [_, _, _, _, _, _] := H
        have hsl : (Sl a62 r59 c63) = (Sl a62 r125.2 c63) := sl_len hn128.symm
        try rw [hsl]
        try rw [hsl] at H
        clear hsl
        refine sa (I r125.1) rfl (w_end (q_then (c_seq (c_seq ?_))))
        obtain ⟨o130, hj, h'⟩ := bind_some h
        clear h
        refine c_cut (fun e a w => e = .normal ∧ ∃ (ρ : Nat → Value) (σ : St), a = fr 123 (updL ρ [(0, (Sl Hk He Hl)), (1, (Sl Hm Hf Hn)), (2, (Sl Ho Hg Hq)), (3, (I Hi)), (4, (I Hj)), (12, (Sl a40 r37 c41)), (16, (Sl a69 r66 c70)), (90, (B o130))]) ∧ w = σ.w ∧ Hp S0 σ0 σ [Ch.ro 0 (Sl Hk He Hl) He, Ch.ro 0 (Sl Hm Hf Hn) Hf, Ch.ro 0 (Sl Ho Hg Hq) Hg, Ch.own n0 n0 (Sl a40 r37 c41) r37, Ch.own 0 n0 (Sl a69 r66 c70) r66]) ?_ ?_
        ·clear h'
         rename _ = some o130 => h
         refine rg (sm (I r125.1) rfl (st (v := (B (decide (r125.1 < 0)))) (rv_lss (a := r125.1) (b := 0) rfl rfl) (sm (B (decide (r125.1 < 0))) rfl ?_)))
         rcases Bool.eq_false_or_eq_true (decide (r125.1 < 0)) with hb131 | hb131
         ·replace h := bif_t hb131 h
          refine st_skip (congrArg some hb131) (st_skip (congrArg some hb131) (st_skip (congrArg some hb131) (st_skip (congrArg some hb131) (st (v := (B true)) (rv_pick_t (congrArg B hb131) rfl) (w_end ?_)))))
          obtain rfl := sj h
          exact ⟨rfl, _, σ129, fr_join ⟨rfl, rfl, rfl, rfl, rfl, rfl, rfl, rfl, trivial⟩, rfl, H.sel' [3, 4, 5, 2, 1] rfl rfl⟩
         ·replace h := bif_f hb131 h
          refine st_g (v := (Sl a69 r66 c70)) (congrArg some hb131) (rv_move rfl) (st_g (v := (Sl a40 r37 c41)) (congrArg some hb131) (rv_move rfl) ?_)
          revert h; refine br fun r132 hx133 h => ?_
          have hc134 := c_laws_eqHitS (Ad := a69) (Ae := c70) (Ai := a40) (Aj := c41) hx133
          have hle := Nat.le_trans hn0 H.size
          refine st_call (cx_lend (Loan.lend (Loan.lend Loan.nil)) hc134 (ent_f hc134.fn rfl) (show Hp S0 σ0 _ ([Ch.own 0 n0 (Sl a69 r66 c70) r66, Ch.own n0 n0 (Sl a40 r37 c41) r37] ++ ([] ++ [Ch.own 0 0 (Sl a62 r125.2 c63) r125.2, Ch.ro 0 (Sl Hk He Hl) He, Ch.ro 0 (Sl Hm Hf Hn) Hf, Ch.ro 0 (Sl Ho Hg Hq) Hg])) from (H.sel' [1, 2, 0, 3, 4, 5] rfl rfl)) (by rintro _ _ _ ⟨rfl, rfl⟩; exact trivial)) (wanted_yes rfl (by exact (congrArg some hb131))) ?_
          rintro _ σ135 ⟨_, ⟨rfl, rfl⟩, H, -, -⟩
          replace H : Hp _ _ _ [_, _, _, _, _, _] := H
          clear hle
          replace H : Hp _ _ _ [_, _, _, _, _, _] := H
          refine st_g (v := (B (!r132))) (congrArg some hb131) (rv_not rfl) (st (v := (B (!r132))) (rv_pick_f (congrArg B hb131) rfl) (w_end ?_))
          obtain rfl := sj h
          exact ⟨rfl, _, σ135, fr_join ⟨rfl, rfl, rfl, rfl, rfl, rfl, rfl, rfl, trivial⟩, rfl, H.sel' [3, 4, 5, 1, 0] rfl rfl⟩
        ·clear hj
         have h := h'
         clear h' H
         rintro e a w ⟨rfl, ρ, σ136, rfl, rfl, H⟩
         refine q_then ?_
         refine cd_cond o130 rfl (fun hb137 => ?_) (fun hb137 => ?_)
         ·replace h := bif_t hb137 h
          refine c_seq (rg (sa (B false) rfl (w_end (q_then (c_ret (q_then_r ?_))))))
          obtain rfl := sj h
          exact fin_ret (v := (B false)) (results_ok Tryz.results5 (res_tmp (v := (B false)) rfl res_nil) rfl) ⟨rfl, rfl⟩ (H.sel' [] rfl rfl)
         ·replace h := bif_f hb137 h
          refine c_skip (q_then (c_seq (rg (sa (I 1) rfl (w_end (q_then (c_seq (rg (sm (Sl a69 r66 c70) rfl (sm (I 1) rfl ?_))))))))))
          replace H := H.ownLow 4 0 0 rfl (Nat.zero_le _) (Nat.zero_le _)
          revert h; refine br fun r138 hx139 h => ?_
          have hc140 := c_laws_markHitS (Ad := a69) (Ae := c70) hx139
          refine st_call (cx_call hc140 (ent_f hc140.fn rfl) hn0 (H.sel' [0, 1, 2, 3, 4] rfl rfl : Hp S0 σ0 _ ([_] ++ _))) wn ?_
          rintro _ σ142 ⟨_, ⟨rfl, rfl, hn141⟩, H, -⟩
          replace H : Hp _ _ _ [_, _, _, _, _] := H
          have hsl : (Sl a69 r66 c70) = (Sl a69 r138.2 c70) := sl_len hn141.symm
          try rw [hsl]
          try rw [hsl] at H
          clear hsl
          refine sa (I r138.1) rfl (w_end (q_then (c_seq (rg (sa (I 1) rfl (w_end (q_then (c_seq (rg (sm (Sl a69 r138.2 c70) rfl (sm (I 1) rfl ?_)))))))))))
          revert h; refine br fun r143 hx144 h => ?_
          have hc145 := c_laws_heldHitS (Ad := a69) (Ae := c70) hx144
          have hle := Nat.le_trans hn0 H.size
          refine st_call (cx_lend (Loan.lend Loan.nil) hc145 (ent_f hc145.fn rfl) (show Hp S0 σ0 _ ([Ch.own 0 0 (Sl a69 r138.2 c70) r138.2] ++ ([] ++ [Ch.ro 0 (Sl Hk He Hl) He, Ch.ro 0 (Sl Hm Hf Hn) Hf, Ch.ro 0 (Sl Ho Hg Hq) Hg, Ch.own n0 n0 (Sl a40 r37 c41) r37])) from (H.sel' [0, 1, 2, 3, 4] rfl rfl)) (by rintro _ _ _ ⟨rfl, rfl⟩; exact trivial)) wn ?_
          rintro _ σ146 ⟨_, ⟨rfl, rfl⟩, H, -, -⟩
          replace H : Hp _ _ _ [_, _, _, _, _] := H
          clear hle
          replace H : Hp _ _ _ [_, _, _, _, _] := H
          refine sa (I r143) rfl (w_end (q_then (c_seq (c_seq (rg (sm (I r143) rfl (st (v := (B (decide (r143 < 0)))) (rv_lss (a := r143) (b := 0) rfl rfl) (w_end (q_then ?_)))))))))
          refine cd_cond (decide (r143 < 0)) rfl (fun hb147 => ?_) (fun hb147 => ?_)
          ·replace h := bif_t hb147 h
           refine c_seq (rg (sa (B false) rfl (w_end (q_then (c_ret (q_then_r ?_))))))
           obtain rfl := sj h
           exact fin_ret (v := (B false)) (results_ok Tryz.results5 (res_tmp (v := (B false)) rfl res_nil) rfl) ⟨rfl, rfl⟩ (H.sel' [] rfl rfl)
          ·replace h := bif_f hb147 h
           refine c_skip (q_then (c_seq (c_seq (rg (sm (I r143) rfl (sm (I r138.1) rfl (st (v := (B (r143 != r138.1))) (rv_neq (a := r143) (b := r138.1) rfl rfl) (w_end (q_then ?_)))))))))
           refine cd_cond (r143 != r138.1) rfl (fun hb148 => ?_) (fun hb148 => ?_)
           ·replace h := bif_t hb148 h
            refine c_seq (rg (sa (B false) rfl (w_end (q_then (c_ret (q_then_r ?_))))))
            obtain rfl := sj h
            exact fin_ret (v := (B false)) (results_ok Tryz.results5 (res_tmp (v := (B false)) rfl res_nil) rfl) ⟨rfl, rfl⟩ (H.sel' [] rfl rfl)
           ·replace h := bif_f hb148 h
            refine c_skip (q_then (c_seq (rg (sm (Sl Hk He Hl) rfl ?_))))
            revert h; refine br fun r149 hx150 h => ?_
            have hc151 := c_laws_toIntSS (Ad := Hk) (Ae := Hl) hx150
            refine st_call (cx_call hc151 (ent_f hc151.fn rfl) hn0 (H.sel' [1, 0, 1, 2, 3, 4] rfl rfl : Hp S0 σ0 _ ([_] ++ _))) wn ?_
            rintro _ σ156 ⟨_, ⟨a152, c153, K154, rfl, rfl, hK155⟩, H, -⟩
            replace H : Hp _ _ _ [_, _, _, _, _, _] := H
            refine sm (Sl Hm Hf Hn) rfl ?_
            revert h; refine br fun r157 hx158 h => ?_
            have hc159 := c_laws_toItemS (Ad := Hm) (Ae := Hn) hx158
            refine st_call (cx_call hc159 (ent_f hc159.fn rfl) hn0 (H.sel' [3, 0, 1, 2, 3, 4, 5] rfl rfl : Hp S0 σ0 _ ([_] ++ _))) wn ?_
            rintro _ σ164 ⟨_, ⟨a160, c161, K162, rfl, rfl, hK163⟩, H, -⟩
            replace H : Hp _ _ _ [_, _, _, _, _, _, _] := H
            refine sm (Sl Ho Hg Hq) rfl ?_
            revert h; refine br fun r165 hx166 h => ?_
            have hc167 := c_laws_toIntS (Ad := Ho) (Ae := Hq) hx166
            refine st_call (cx_call hc167 (ent_f hc167.fn rfl) hn0 (H.sel' [5, 0, 1, 2, 3, 4, 5, 6] rfl rfl : Hp S0 σ0 _ ([_] ++ _))) wn ?_
            rintro _ σ171 ⟨_, ⟨a168, c169, rfl, rfl, ht170⟩, H, -⟩
            replace H : Hp _ _ _ [_, _, _, _, _, _, _, _] := H
            replace H : Hp S0 σ0 σ171 [Ch.own n0 n0 (Sl a168 r165 c169) r165, Ch.big K162, Ch.big K154, Ch.own 0 0 (Sl a69 r138.2 c70) r138.2, Ch.own n0 n0 (Sl a40 r37 c41) r37] := H.sel' [0, 1, 2, 3, 7] rfl rfl
            refine sm (I Hi) rfl (sm (I Hj) rfl ?_)
            obtain ⟨σ172, hw173, H, -⟩ := H.pub 0 rfl (Nat.le_refl _)
            rw [← hw173]; clear hw173
            replace H := H.roLow 0 0 rfl (Nat.zero_le _)
            revert h; refine br fun r174 hx175 h => ?_
            have hc176 := c_impl_HashNearest (Bt := a152) (Bu := c153) (Ca := a160) (Cb := c161) (Bf := a168) (Bg := c169) hx175
            have hle := Nat.le_trans hn0 H.size
            refine st_call (cx_lend (Loan.lendB hK155.lends (Loan.lendB hK163.lends (Loan.same Loan.nil))) hc176 (ent_f hc176.fn rfl) (show Hp S0 σ0 _ ([Ch.big K154, Ch.big K162] ++ ([Ch.ro 0 (Sl a168 r165 c169) r165] ++ [Ch.ro 0 (Sl a168 r165 c169) r165, Ch.ro n0 (Sl a168 r165 c169) r165, Ch.own 0 0 (Sl a69 r138.2 c70) r138.2, Ch.own n0 n0 (Sl a40 r37 c41) r37])) from (H.sel' [3, 2, 0, 0, 1, 4, 5] rfl rfl)) (by rintro _ _ _ ⟨_, _, rfl, rfl⟩; exact ⟨Ab.ownSc, trivial⟩)) wn ?_
            rintro _ σ179 ⟨_, ⟨a177, c178, rfl, rfl⟩, H, -, -⟩
            replace H : Hp _ _ _ [_, _, _, _, _, _, _] := H
            replace H := H.ownLow 0 0 n0 rfl (Nat.le_refl _) hle
            clear hle
            replace H : Hp _ _ _ [_, _, _, _, _, _, _] := H
            refine sa (Sl a177 r174 c178) rfl (w_end (q_then (c_seq (c_seq (rg (sm (Sl a177 r174 c178) rfl (sm (Sl a40 r37 c41) rfl ?_)))))))
            replace H := H.ownLow 0 0 0 rfl (Nat.le_refl _) (Nat.zero_le _)
            obtain ⟨σ180, hw181, H, -⟩ := H.pub 0 rfl (Nat.le_refl _)
            rw [← hw181]; clear hw181
            obtain ⟨σ182, hw183, H, -⟩ := H.pub 6 rfl (Nat.le_refl _)
            rw [← hw183]; clear hw183
            replace H := H.roLow 0 0 rfl (Nat.zero_le _)
            revert h; refine br fun r184 hx185 h => ?_
            have hc186 := c_laws_eqHitS (Ad := a177) (Ae := c178) (Ai := a40) (Aj := c41) hx185
            refine st_call (cx_call hc186 (ent_f hc186.fn rfl) hn0 (H.sel' [2, 0, 0, 1, 2, 3, 4, 5, 6, 7] rfl rfl : Hp S0 σ0 _ ([_, _] ++ _))) wn ?_
            rintro _ σ187 ⟨_, ⟨rfl, rfl⟩, H, -⟩
            replace H : Hp _ _ _ [_, _, _, _, _, _, _, _] := H
            replace H : Hp S0 σ0 σ187 [Ch.own 0 0 (Sl a69 r138.2 c70) r138.2] := H.sel' [7] rfl rfl
            refine st (v := (B (!r184))) (rv_not rfl) (w_end (q_then ?_))
            refine cd_cond (!r184) rfl (fun hb188 => ?_) (fun hb188 => ?_)
            ·replace h := bif_t hb188 h
             refine c_seq (rg (sa (B false) rfl (w_end (q_then (c_ret (q_then_r ?_))))))
             obtain rfl := sj h
             exact fin_ret (v := (B false)) (results_ok Tryz.results5 (res_tmp (v := (B false)) rfl res_nil) rfl) ⟨rfl, rfl⟩ (H.sel' [] rfl rfl)
            ·replace h := bif_f hb188 h
             refine c_skip (q_then (c_seq (rg (sa (I 1) rfl (w_end (q_then (c_seq (rg (sm (Sl a69 r138.2 c70) rfl (sm (I 1) rfl ?_))))))))))
             obtain ⟨σ189, hw190, H, -⟩ := H.pub 0 rfl (Nat.le_refl _)
             rw [← hw190]; clear hw190
             revert h; refine br fun r191 hx192 h => ?_
             have hc193 := c_laws_heldHitS (Ad := a69) (Ae := c70) hx192
             refine st_call (cx_call hc193 (ent_f hc193.fn rfl) hn0 (H.sel' [0, 0] rfl rfl : Hp S0 σ0 _ ([_] ++ _))) wn ?_
             rintro _ σ194 ⟨_, ⟨rfl, rfl⟩, H, -⟩
             replace H : Hp _ _ _ [_] := H
             refine sa (I r191) rfl (w_end (q_then (c_seq (c_seq (rg (sm (I r191) rfl (st (v := (B (decide (r191 < 0)))) (rv_lss (a := r191) (b := 0) rfl rfl) (w_end (q_then ?_)))))))))
             refine cd_cond (decide (r191 < 0)) rfl (fun hb195 => ?_) (fun hb195 => ?_)
             ·replace h := bif_t hb195 h
              refine c_seq (rg (sa (B false) rfl (w_end (q_then (c_ret (q_then_r ?_))))))
              obtain rfl := sj h
              exact fin_ret (v := (B false)) (results_ok Tryz.results5 (res_tmp (v := (B false)) rfl res_nil) rfl) ⟨rfl, rfl⟩ (H.sel' [] rfl rfl)
             ·replace h := bif_f hb195 h
              refine c_skip (q_then (c_seq (c_seq (rg (sm (I r191) rfl (sm (I r138.1) rfl (st (v := (B (r191 != r138.1))) (rv_neq (a := r191) (b := r138.1) rfl rfl) (w_end (q_then ?_)))))))))
              refine cd_cond (r191 != r138.1) rfl (fun hb196 => ?_) (fun hb196 => ?_)
              ·replace h := bif_t hb196 h
               refine c_seq (rg (sa (B false) rfl (w_end (q_then (c_ret (q_then_r ?_))))))
               obtain rfl := sj h
               exact fin_ret (v := (B false)) (results_ok Tryz.results5 (res_tmp (v := (B false)) rfl res_nil) rfl) ⟨rfl, rfl⟩ (H.sel' [] rfl rfl)
              ·replace h := bif_f hb196 h
               refine c_skip (q_then (c_seq (rg (sa (B true) rfl (w_end (q_then (c_ret ?_)))))))
               obtain rfl := sj h
               exact fin_ret (v := (B true)) (results_ok Tryz.results5 (res_tmp (v := (B true)) rfl res_nil) rfl) ⟨rfl, rfl⟩ (H.sel' [] rfl rfl)

end Go.Vs
