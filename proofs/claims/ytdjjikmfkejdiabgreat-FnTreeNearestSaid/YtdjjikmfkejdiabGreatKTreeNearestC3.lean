/- The functions compute what their models say. -/
import Derived.Test.YtdjjikmfkejdiabGreatKTreeNearestC2
set_option linter.unusedVariables false
set_option linter.unusedSimpArgs false
set_option maxRecDepth 20000
namespace Go.Vs
open Go Go.Proofs
attribute [local irreducible] Code.wp Code.wpIn wpList wpListIn wpQuiet Calls CallsIn

theorem c_cmp_Or_int {Ct : List Int} {Cu : Option Addr} {Cv : Nat} {r : Int} (h : M.cmp_Or_int Ct = some r) :
    Cal2 Tryz.prog 68 [(Sl Cu Ct Cv)] [Ch.ro 0 (Sl Cu Ct Cv) Ct] (fun n0 v L => v = (I r) ∧ L = []) := by
 refine cal2 (n := 18) Tryz.func68 rfl rfl rfl rfl ?_
 intro S0 σ0 n0 hn0 H
 unfold M.cmp_Or_int at h
 refine c_seq (rg (sa (I 0) rfl (w_end (q_then (c_seq (rg (sa (I 0) rfl (w_end (q_then (c_seq (c_seq ?_)))))))))))
 refine rg (sm (Sl Cu Ct Cv) rfl (st (v := (I (Ct.length : Int))) (rv_len Tryz.underlying24 rfl) (sm (I 0) rfl (w_end (q_then ?_)))))
 obtain ⟨o1, hj, h'⟩ := bind_some h
 clear h
 refine c_cut (fun e a w => (∃ t, o1 = (.inl t) ∧ e = .normal ∧ ∃ (ρ : Nat → Value) (σ : St), a = fr 18 (updL ρ [(3, (I 0))]) ∧ w = σ.w ∧ Hp S0 σ0 σ []) ∨ (∃ t, o1 = (.inr t) ∧ e = .ret ∧ ∃ (ρ : Nat → Value) (σ : St), a = fr 18 (updL ρ [(2, (I t))]) ∧ w = σ.w ∧ Hp S0 σ0 σ [])) ?_ ?_
 ·clear h'
  rename _ = some o1 => h
  refine c_blk (wp_loopM _ h (fun s2 a w => ∃ (ρ : Nat → Value) (σ : St), a = fr 18 (updL ρ [(3, (I 0)), (6, (Sl Cu Ct Cv)), (7, (I (Ct.length : Int))), (8, (I s2))]) ∧ w = σ.w ∧ Hp S0 σ0 σ [Ch.ro 0 (Sl Cu Ct Cv) Ct]) ⟨_, σ0, fr_join ⟨rfl, rfl, rfl, rfl, trivial⟩, rfl, H.sel' [0] rfl rfl⟩ ?_)
  clear h H
  rintro s2 a w o ⟨ρ, σ3, rfl, rfl, H⟩ h hres
  refine c_seq (rg (st (v := (B (decide (s2 < (Ct.length : Int))))) (rv_lss (a := s2) (b := (Ct.length : Int)) rfl rfl) (w_end (q_then (c_seq ?_)))))
  refine cd_cond (decide (s2 < (Ct.length : Int))) rfl (fun hb4 => ?_) (fun hb4 => ?_)
  ·replace h := bif_t hb4 h
   refine c_skip (q_then (c_seq (c_blk (c_seq (rg ?_)))))
   revert h; refine br fun x5 hx6 h => ?_
   obtain ⟨b8, o9, hi7, -⟩ := (H.ro 0 rfl).ix hx6
   refine st (v := (pt b8 o9)) (rv_ix Tryz.underlying24 ti3 rfl rfl hi7) ?_
   have hc10 := ((H.ro 0 rfl).at hx6 hi7).int
   refine st (v := (I x5)) (rv_load1 Tryz.underlying3 rfl rfl hc10) (sa (I x5) rfl (w_end (q_then (c_seq (rg (sm (I x5) rfl (sm (I 0) rfl (st (v := (B (x5 != 0))) (rv_neq (a := x5) (b := 0) rfl rfl) (w_end (q_then ?_))))))))))
   refine cd_cond (x5 != 0) rfl (fun hb11 => ?_) (fun hb11 => ?_)
   ·replace h := bif_t hb11 h
    refine c_seq (rg (sm (I x5) rfl (sa (I x5) rfl (w_end (q_then (c_ret (q_blk_r (q_then_r (q_then_r (q_blk_r ?_))))))))))
    obtain rfl := sj h
    obtain rfl := hres _ rfl
    exact .inr (⟨_, rfl, rfl, _, σ3, fr_join ⟨rfl, trivial⟩, rfl, H.sel' [] rfl rfl⟩)
   ·replace h := bif_f hb11 h
    refine c_skip (q_blk (q_then (rg (st (v := (I (w64 (s2 + 1)))) (rv_add (a := s2) (b := 1) rfl rfl) (sm (I (w64 (s2 + 1))) rfl (w_end (q_then ?_)))))))
    obtain rfl := sj h
    exact ⟨_, rfl, _, σ3, fr_join ⟨rfl, rfl, rfl, rfl, trivial⟩, rfl, H.sel' [0] rfl rfl⟩
  ·replace h := bif_f hb4 h
   refine c_exit (q_then_x (q_then_x (q_blk_hit ?_)))
   obtain rfl := sj h
   obtain rfl := hres _ rfl
   exact .inl ⟨_, rfl, rfl, _, σ3, fr_join ⟨rfl, trivial⟩, rfl, H.sel' [] rfl rfl⟩
 ·clear hj
  have h := h'
  clear h' H
  rintro e a w (⟨t12, rfl, rfl, ρ, σ13, rfl, rfl, H⟩ | ⟨t14, rfl, rfl, ρ, σ15, rfl, rfl, H⟩)
  ·replace h := selim_l h
   refine q_then (c_seq (rg (sm (I 0) rfl (sa (I 0) rfl (w_end (q_then (c_ret ?_)))))))
   obtain rfl := sj h
   exact fin_ret (v := (I 0)) (results_ok Tryz.results68 (res_tmp (v := (I 0)) rfl res_nil) rfl) ⟨rfl, rfl⟩ (H.sel' [] rfl rfl)
  ·replace h := selim_r h
   refine q_then_r ?_
   obtain rfl := sj h
   exact fin_ret (v := (I t14)) (results_ok Tryz.results68 (res_tmp (v := (I t14)) rfl res_nil) rfl) ⟨rfl, rfl⟩ (H.sel' [] rfl rfl)

theorem c_impl_compareHits {By : Int × Int} {Bz : Int × Int}  {r : Int} (h : M.impl_compareHits By Bz = some r) :
    Cal2 Tryz.prog 43 [(.agg #[(I By.1), (I By.2)]), (.agg #[(I Bz.1), (I Bz.2)])] [] (fun n0 v L => v = (I r) ∧ L = []) := by
 refine cal2 (n := 17) Tryz.func43 rfl rfl rfl rfl ?_
 intro S0 σ0 n0 hn0 H
 unfold M.impl_compareHits at h
 refine c_seq (rg (st_ex (ex_box (cs := [(I By.1), (I By.2)]) H hn0 rfl rfl) wn ?_))
 rintro _ σ2 ⟨b1, rfl, H, -⟩
 refine st_ex (ex_box (cs := [(I Bz.1), (I Bz.2)]) H hn0 rfl rfl) wn ?_
 rintro _ σ4 ⟨b3, rfl, H, -⟩
 refine sa (I 0) rfl (w_end (q_then (c_seq ?_)))
 have hc5 := H.cell (u := (I By.2)) (o' := 1) 1 1 rfl rfl rfl
 have hc6 := H.cell (u := (I Bz.2)) (o' := 1) 0 1 rfl rfl rfl
 revert h; refine br fun r7 hx8 h => ?_
 have hc9 := c_cmp_Compare_int hx8
 have hc10 := H.cell (u := (I By.1)) (o' := 0) 1 0 rfl rfl rfl
 have hc11 := H.cell (u := (I Bz.1)) (o' := 0) 0 0 rfl rfl rfl
 have Hs := H
 refine rg2 (σ := σ4) (Nm := Unit) 9 [4] [[false], [true]] [[(0, 0)], [(0, 0)], [(0, 0)], [(0, 0)], [(0, 1)], [(0, 0), (1, 1)], [(0, 0), (1, 1)], [(0, 0), (1, 1)], [(0, 0), (1, 1)]] 1 [fun _ => fun σm => Hp S0 σ0 σm [Ch.bx n0 b3 0 [(I Bz.1), (I Bz.2)] [] [], Ch.bx n0 b1 0 [(I By.1), (I By.2)] [] []] ∧ Md (cov []) σ4 σm, fun _ => fun σm => Hp S0 σ0 σm [Ch.bx n0 b3 0 [(I Bz.1), (I Bz.2)] [] [], Ch.bx n0 b1 0 [(I By.1), (I By.2)] [] []] ∧ Md (cov []) σ4 σm] [fun _ => (pt b1 1), fun _ => (I By.2), fun _ => (pt b3 1), fun _ => (I Bz.2), fun _ => (I r7), fun _ => (pt b1 0), fun _ => (I By.1), fun _ => (pt b3 0), fun _ => (I Bz.1)] () (by kernel_rfl) (by kernel_rfl) ?_ ?_ ?_
 ·intro σm m0
  exact ⟨H.grow (m0.mono fun _ h => h.elim), m0⟩
 ·refine ac rfl (by
    intro k _nm ρ σm hJ hoff hdep
    have e2 := look_off (N := 17) (hoff 2 rfl) rfl
    exact dp_v (v := (pt b1 1)) wn (rv_fieldAddr (off := 1) (ft := 3) Tryz.underlying43 rfl ti3 rfl e2) rfl hJ) ?_
  refine all_cons (by
    refine ⟨?_, ?_⟩
    ·intro _nm ρ σm hJ hoff hdep
     have e5 := hdep 0 rfl rfl 5 rfl
     obtain ⟨H, m⟩ := id hJ
     have hc5 := H.cell (u := (I By.2)) (o' := 1) 1 1 rfl rfl rfl
     exact dp_v (v := (I By.2)) wn (rv_load1 Tryz.underlying3 rfl e5 hc5) rfl hJ
    trivial) ?_
  refine ac rfl (by
    intro k _nm ρ σm hJ hoff hdep
    have e3 := look_off (N := 17) (hoff 3 rfl) rfl
    exact dp_v (v := (pt b3 1)) wn (rv_fieldAddr (off := 1) (ft := 3) Tryz.underlying43 rfl ti3 rfl e3) rfl hJ) ?_
  refine all_cons (by
    refine ⟨?_, ?_⟩
    ·intro _nm ρ σm hJ hoff hdep
     have e7 := hdep 2 rfl rfl 7 rfl
     obtain ⟨H, m⟩ := id hJ
     have hc6 := H.cell (u := (I Bz.2)) (o' := 1) 0 1 rfl rfl rfl
     exact dp_v (v := (I Bz.2)) wn (rv_load1 Tryz.underlying3 rfl e7 hc6) rfl hJ
    trivial) ?_
  refine all_cons (by
    refine ⟨?_, ?_⟩
    ·intro _nm ρ σm hJ hoff hdep
     have e6 : look 17 ρ 6 = (I By.2) := hdep 1 rfl rfl 6 rfl
     have e8 : look 17 ρ 8 = (I Bz.2) := hdep 3 rfl rfl 8 rfl
     obtain ⟨H, m⟩ := id hJ
     refine dp_cx wn (cx_call hc9 (ent_f hc9.fn (by show [look 17 ρ 6, look 17 ρ 8] = _; rw [e6, e8])) hn0 (H.sel' [0, 1] rfl rfl : Hp S0 σ0 _ ([] ++ _))) ?_
     rintro _ σq ⟨_, ⟨rfl, rfl⟩, H2, m2⟩
     exact ⟨_, (), rfl, rfl, ⟨H2.sel' [0, 1] rfl rfl, m.comp0 m2⟩, stab [0, 1, 2, 3, 5, 6, 7, 8] (by kernel_rfl) ⟨rfl, rfl, rfl, rfl, rfl, rfl, rfl, rfl, trivial⟩⟩
    trivial) ?_
  refine ac rfl (by
    intro k _nm ρ σm hJ hoff hdep
    have e2 := look_off (N := 17) (hoff 2 rfl) rfl
    exact dp_v (v := (pt b1 0)) wn (rv_fieldAddr (off := 0) (ft := 3) Tryz.underlying43 rfl ti3 rfl e2) rfl hJ) ?_
  refine all_cons (by
    refine ⟨?_, ?_⟩
    ·intro _nm ρ σm hJ hoff hdep
     have e10 := hdep 5 rfl rfl 10 rfl
     obtain ⟨H, m⟩ := id hJ
     have hc10 := H.cell (u := (I By.1)) (o' := 0) 1 0 rfl rfl rfl
     exact dp_v (v := (I By.1)) wn (rv_load1 Tryz.underlying3 rfl e10 hc10) rfl hJ
    refine ⟨?_, ?_⟩
    ·intro _nm ρ σm hJ hoff hdep
     have e10 := hdep 5 rfl rfl 10 rfl
     obtain ⟨H, m⟩ := id hJ
     have hc10 := H.cell (u := (I By.1)) (o' := 0) 1 0 rfl rfl rfl
     exact dp_v (v := (I By.1)) wn (rv_load1 Tryz.underlying3 rfl e10 hc10) rfl hJ
    trivial) ?_
  refine ac rfl (by
    intro k _nm ρ σm hJ hoff hdep
    have e3 := look_off (N := 17) (hoff 3 rfl) rfl
    exact dp_v (v := (pt b3 0)) wn (rv_fieldAddr (off := 0) (ft := 3) Tryz.underlying43 rfl ti3 rfl e3) rfl hJ) ?_
  refine all_cons (by
    refine ⟨?_, ?_⟩
    ·intro _nm ρ σm hJ hoff hdep
     have e12 := hdep 7 rfl rfl 12 rfl
     obtain ⟨H, m⟩ := id hJ
     have hc11 := H.cell (u := (I Bz.1)) (o' := 0) 0 0 rfl rfl rfl
     exact dp_v (v := (I Bz.1)) wn (rv_load1 Tryz.underlying3 rfl e12 hc11) rfl hJ
    refine ⟨?_, ?_⟩
    ·intro _nm ρ σm hJ hoff hdep
     have e12 := hdep 7 rfl rfl 12 rfl
     obtain ⟨H, m⟩ := id hJ
     have hc11 := H.cell (u := (I Bz.1)) (o' := 0) 0 0 rfl rfl rfl
     exact dp_v (v := (I Bz.1)) wn (rv_load1 Tryz.underlying3 rfl e12 hc11) rfl hJ
    trivial) ?_
  exact all_nil
 ·intro _nm ρ σ12 hJ hoff hrel
  have e9 := hrel 4 rfl 9 rfl
  have e11 := hrel 6 rfl 11 rfl
  have e13 := hrel 8 rfl 13 rfl
  obtain ⟨H, -⟩ := (show Hp S0 σ0 σ12 [Ch.bx n0 b3 0 [(I Bz.1), (I Bz.2)] [] [], Ch.bx n0 b1 0 [(I By.1), (I By.2)] [] []] ∧ Md (cov []) σ4 σ12 from hJ)
  clear hJ Hs
  rw [fr_lookL (L := [(9, (I r7)), (11, (I By.1)), (13, (I Bz.1))]) ⟨e9, e11, e13, trivial⟩]
  clear hoff hrel e9 e11 e13
  revert h; refine br fun r13 hx14 h => ?_
  have hc15 := c_cmp_Compare_int hx14
  refine st_call (cx_call hc15 (ent_f hc15.fn rfl) hn0 (H.sel' [0, 1] rfl rfl : Hp S0 σ0 _ ([] ++ _))) wn ?_
  rintro _ σ16 ⟨_, ⟨rfl, rfl⟩, H, -⟩
  replace H : Hp _ _ _ [_, _] := H
  refine st_ex (ex_buildSlice (el := n0) (xs := ([r7, r13] : List Int)) (ps := [(0, (I r7)), (1, (I r13))]) (cs := [(I r7), (I r13)]) H hn0 Tryz.underlying24 ti3 rfl rfl (by kernel_rfl) (.cons (c := [(I r7)]) rfl (.cons (c := [(I r13)]) rfl (.nil))) rfl) wn ?_
  rintro _ σ18 ⟨b17, rfl, H, -⟩
  obtain ⟨σ19, hw20, H, -⟩ := H.pub 0 rfl (Nat.le_refl _)
  rw [← hw20]; clear hw20
  replace H := H.roLow 0 0 rfl (Nat.zero_le _)
  revert h; refine br fun r21 hx22 h => ?_
  have hc23 := c_cmp_Or_int (Cu := (some ⟨b17, 0, none⟩)) (Cv := 2) hx22
  refine st_call (cx_call hc23 (ent_f hc23.fn rfl) hn0 (H.sel' [0, 0, 1, 2, 3] rfl rfl : Hp S0 σ0 _ ([_] ++ _))) wn ?_
  rintro _ σ24 ⟨_, ⟨rfl, rfl⟩, H, -⟩
  replace H : Hp _ _ _ [_, _, _, _] := H
  refine sa (I r21) rfl (w_end (q_then (c_ret ?_)))
  obtain rfl := sj h
  exact fin_ret (v := (I r21)) (results_ok Tryz.results43 (res_tmp (v := (I r21)) rfl res_nil) rfl) ⟨rfl, rfl⟩ (H.sel' [] rfl rfl)

theorem c_impl_hitHeap_Less {Cj : List (Int × Int)} {Cw : Int} {Cy : Int} {Ck : Option Addr} {Cl : Nat} {r : Bool} (h : M.impl_hitHeap_Less Cj Cw Cy = some r) :
    Cal2 Tryz.prog 140 [(Sl Ck Cj Cl), (I Cw), (I Cy)] [Ch.ro 0 (Sl Ck Cj Cl) Cj] (fun n0 v L => v = (B r) ∧ L = []) := by
 refine cal2 (n := 17) Tryz.func140 rfl rfl rfl rfl ?_
 intro S0 σ0 n0 hn0 H
 unfold M.impl_hitHeap_Less at h
 refine c_seq (rg (sa (B false) rfl (w_end (q_then (c_seq ?_)))))
 refine rgP (σ := σ0) 8 (by kernel_rfl) (by kernel_rfl) (by kernel_rfl) ?_
 refine sq (v := (Sl Ck Cj Cl)) (rv_move rfl) (sq (v := (I Cw)) (rv_move rfl) ?_)
 revert h; refine br fun x1 hx2 h => ?_
 obtain ⟨b4, o5, hi3, -⟩ := (H.ro 0 rfl).ix hx2
 refine sq (v := (pt b4 o5)) (rv_ix Tryz.underlying34 ti43 rfl rfl hi3) ?_
 obtain ⟨_, ⟨_, _, rfl, rfl, rfl⟩, hl6, hc7⟩ := ((H.ro 0 rfl).at hx2 hi3).cells
 refine sq (v := (.agg #[(I x1.1), (I x1.2)])) (rv_load Tryz.underlying43 rfl ti43 rfl hl6 hc7) (sq (v := (Sl Ck Cj Cl)) (rv_move rfl) (sq (v := (I Cy)) (rv_move rfl) ?_))
 revert h; refine br fun x8 hx9 h => ?_
 obtain ⟨b11, o12, hi10, -⟩ := (H.ro 0 rfl).ix hx9
 refine sq (v := (pt b11 o12)) (rv_ix Tryz.underlying34 ti43 rfl rfl hi10) ?_
 obtain ⟨_, ⟨_, _, rfl, rfl, rfl⟩, hl13, hc14⟩ := ((H.ro 0 rfl).at hx9 hi10).cells
 refine sq (v := (.agg #[(I x8.1), (I x8.2)])) (rv_load Tryz.underlying43 rfl ti43 rfl hl13 hc14) (sq_end ?_)
 intro σ15 hm16
 replace H := H.grow (hm16.mono fun _ h => h); clear hm16
 revert h; refine br fun r17 hx18 h => ?_
 have hc19 := c_impl_compareHits hx18
 refine st_call (cx_call hc19 (ent_f hc19.fn rfl) hn0 (H.sel' [0] rfl rfl : Hp S0 σ0 _ ([] ++ _))) wn ?_
 rintro _ σ20 ⟨_, ⟨rfl, rfl⟩, H, -⟩
 replace H : Hp _ _ _ [_] := H
 refine st (v := (B (decide (0 < r17)))) (rv_gtr (a := r17) (b := 0) rfl rfl) (sa (B (decide (0 < r17))) rfl (w_end (q_then (c_ret ?_))))
 obtain rfl := sj h
 exact fin_ret (v := (B (decide (0 < r17)))) (results_ok Tryz.results140 (res_tmp (v := (B (decide (0 < r17)))) rfl res_nil) rfl) ⟨rfl, rfl⟩ (H.sel' [] rfl rfl)

theorem c_impl_hitHeap_Swap {Cj : List (Int × Int)} {Cw : Int} {Cy : Int} {Ck : Option Addr} {Cl : Nat} {r : (List (Int × Int))} (h : M.impl_hitHeap_Swap Cj Cw Cy = some r) :
    Cal2 Tryz.prog 141 [(Sl Ck Cj Cl), (I Cw), (I Cy)] [Ch.own 0 0 (Sl Ck Cj Cl) Cj] (fun n0 v L => v = (.tuple #[]) ∧ L = [Ch.own 0 0 (Sl Ck r Cl) r] ∧ r.length = Cj.length) := by
 refine cal2 (n := 20) Tryz.func141 rfl rfl rfl rfl ?_
 intro S0 σ0 n0 hn0 H
 unfold M.impl_hitHeap_Swap at h
 revert h; refine br fun x1 hx2 h => ?_
 obtain ⟨b4, o5, hi3, -⟩ := (H.own 0 rfl).ix hx2
 obtain ⟨_, ⟨_, _, rfl, rfl, rfl⟩, hl6, hc7⟩ := ((H.own 0 rfl).at hx2 hi3).cells
 revert h; refine br fun x8 hx9 h => ?_
 obtain ⟨b11, o12, hi10, -⟩ := (H.own 0 rfl).ix hx9
 obtain ⟨_, ⟨_, _, rfl, rfl, rfl⟩, hl13, hc14⟩ := ((H.own 0 rfl).at hx9 hi10).cells
 revert h; refine br fun x15 hx16 h => ?_
 obtain ⟨b18, o19, hi17, -⟩ := (H.own 0 rfl).ix hx16
 have Hs := H
 refine rg2 (σ := σ0) (Nm := Unit) 14 [13] [[false], [true]] [[(0, 0)], [(0, 0)], [(0, 0), (1, 1)], [(0, 0), (1, 1)], [(0, 0)], [(0, 0)], [(0, 0)], [(0, 0)], [(0, 0)], [(0, 0)], [(0, 0)], [(0, 0)], [(0, 0)], [(0, 1)]] 1 [fun _ => fun σm => Hp S0 σ0 σm [Ch.own 0 0 (Sl Ck Cj Cl) Cj] ∧ Md (cov []) σ0 σm, fun _ => fun σm => Hp S0 σ0 σm [Ch.own 0 0 (Sl Ck Cj Cl) (Cj.set Cw.toNat (x1.1, x1.2))] ∧ Md (fun i => (cov []) i ∨ (fun b => blk (Sl Ck Cj Cl) = some b) i) σ0 σm] [fun _ => (Sl Ck Cj Cl), fun _ => (I Cw), fun _ => (Sl Ck Cj Cl), fun _ => (I Cy), fun _ => (Sl Ck Cj Cl), fun _ => (I Cy), fun _ => (pt b4 o5), fun _ => (.agg #[(I x1.1), (I x1.2)]), fun _ => (Sl Ck Cj Cl), fun _ => (I Cw), fun _ => (pt b11 o12), fun _ => (.agg #[(I x8.1), (I x8.2)]), fun _ => (pt b18 o19), fun _ => undef] () (by kernel_rfl) (by kernel_rfl) ?_ ?_ ?_
 ·intro σm m0
  exact ⟨H.grow (m0.mono fun _ h => h.elim), m0⟩
 ·refine ac rfl (by
    intro k _nm ρ σm hJ hoff hdep
    have e0 := look_off (N := 20) (hoff 0 rfl) rfl
    exact dp_v (v := (Sl Ck Cj Cl)) wn (rv_move e0) rfl hJ) ?_
  refine ac rfl (by
    intro k _nm ρ σm hJ hoff hdep
    have e1 := look_off (N := 20) (hoff 1 rfl) rfl
    exact dp_v (v := (I Cw)) wn (rv_move e1) rfl hJ) ?_
  refine ac rfl (by
    intro k _nm ρ σm hJ hoff hdep
    have e0 := look_off (N := 20) (hoff 0 rfl) rfl
    exact dp_v (v := (Sl Ck Cj Cl)) wn (rv_move e0) rfl hJ) ?_
  refine ac rfl (by
    intro k _nm ρ σm hJ hoff hdep
    have e2 := look_off (N := 20) (hoff 2 rfl) rfl
    exact dp_v (v := (I Cy)) wn (rv_move e2) rfl hJ) ?_
  refine ac rfl (by
    intro k _nm ρ σm hJ hoff hdep
    have e0 := look_off (N := 20) (hoff 0 rfl) rfl
    exact dp_v (v := (Sl Ck Cj Cl)) wn (rv_move e0) rfl hJ) ?_
  refine ac rfl (by
    intro k _nm ρ σm hJ hoff hdep
    have e2 := look_off (N := 20) (hoff 2 rfl) rfl
    exact dp_v (v := (I Cy)) wn (rv_move e2) rfl hJ) ?_
  refine ac rfl (by
    intro k _nm ρ σm hJ hoff hdep
    have e10 := hdep 4 rfl rfl 10 rfl
    have e11 := hdep 5 rfl rfl 11 rfl
    exact dp_v (v := (pt b4 o5)) wn (rv_ix Tryz.underlying34 ti43 e10 e11 hi3) rfl hJ) ?_
  refine all_cons (by
    refine ⟨?_, ?_⟩
    ·intro _nm ρ σm hJ hoff hdep
     have e12 := hdep 6 rfl rfl 12 rfl
     obtain ⟨H, m⟩ := id hJ
     obtain ⟨_, ⟨_, _, rfl, rfl, rfl⟩, hl6, hc7⟩ := ((H.own 0 rfl).at hx2 hi3).cells
     exact dp_v (v := (.agg #[(I x1.1), (I x1.2)])) wn (rv_load Tryz.underlying43 rfl ti43 e12 hl6 hc7) rfl hJ
    trivial) ?_
  refine ac rfl (by
    intro k _nm ρ σm hJ hoff hdep
    have e0 := look_off (N := 20) (hoff 0 rfl) rfl
    exact dp_v (v := (Sl Ck Cj Cl)) wn (rv_move e0) rfl hJ) ?_
  refine ac rfl (by
    intro k _nm ρ σm hJ hoff hdep
    have e1 := look_off (N := 20) (hoff 1 rfl) rfl
    exact dp_v (v := (I Cw)) wn (rv_move e1) rfl hJ) ?_
  refine ac rfl (by
    intro k _nm ρ σm hJ hoff hdep
    have e14 := hdep 8 rfl rfl 14 rfl
    have e15 := hdep 9 rfl rfl 15 rfl
    exact dp_v (v := (pt b11 o12)) wn (rv_ix Tryz.underlying34 ti43 e14 e15 hi10) rfl hJ) ?_
  refine all_cons (by
    refine ⟨?_, ?_⟩
    ·intro _nm ρ σm hJ hoff hdep
     have e16 := hdep 10 rfl rfl 16 rfl
     obtain ⟨H, m⟩ := id hJ
     obtain ⟨_, ⟨_, _, rfl, rfl, rfl⟩, hl13, hc14⟩ := ((H.own 0 rfl).at hx9 hi10).cells
     exact dp_v (v := (.agg #[(I x8.1), (I x8.2)])) wn (rv_load Tryz.underlying43 rfl ti43 e16 hl13 hc14) rfl hJ
    trivial) ?_
  refine ac rfl (by
    intro k _nm ρ σm hJ hoff hdep
    have e6 := hdep 0 rfl rfl 6 rfl
    have e7 := hdep 1 rfl rfl 7 rfl
    exact dp_v (v := (pt b18 o19)) wn (rv_ix Tryz.underlying34 ti43 e6 e7 hi17) rfl hJ) ?_
  refine all_cons (by
    refine ⟨?_, ?_⟩
    ·intro _nm ρ σm hJ hoff hdep
     have e18 := hdep 12 rfl rfl 18 rfl
     have e13 := hdep 7 rfl rfl 13 rfl
     obtain ⟨H, m⟩ := id hJ
     refine dp_exS wn rfl (ex_store_own (e' := (x1.1, x1.2)) (vs := [(I x1.1), (I x1.2)]) (k := 0) H (i := 0) rfl ti43 hx16 hi17 e18 rfl e13 rfl rfl (Nat.le_of_ble_eq_true rfl) (by simp [plain]) (by rintro _ ⟨_, _, rfl, rfl, rfl⟩; exact ⟨[(I x1.1)], [(I x1.2)], rfl, rfl, rfl⟩)) ?_
     rintro σq ⟨H2, m2⟩
     exact ⟨_, (), rfl, ⟨H2.sel' [0] rfl rfl, m.comp m2⟩, stab [0, 1, 2, 3, 4, 5, 6, 7, 8, 9, 10, 11, 12] (by kernel_rfl) ⟨rfl, rfl, rfl, rfl, rfl, rfl, rfl, rfl, rfl, rfl, rfl, rfl, rfl, trivial⟩⟩
    trivial) ?_
  exact all_nil
 ·intro _nm ρ σ20 hJ hoff hrel
  have e0 := look_off (N := 20) (hoff 0 rfl) rfl
  have e8 := hrel 2 rfl 8 rfl
  have e9 := hrel 3 rfl 9 rfl
  have e17 := hrel 11 rfl 17 rfl
  obtain ⟨H, -⟩ := (show Hp S0 σ0 σ20 [Ch.own 0 0 (Sl Ck Cj Cl) (Cj.set Cw.toNat (x1.1, x1.2))] ∧ Md (fun i => (cov []) i ∨ (fun b => blk (Sl Ck Cj Cl) = some b) i) σ0 σ20 from hJ)
  clear hJ Hs
  rw [fr_lookL (L := [(0, (Sl Ck Cj Cl)), (8, (Sl Ck Cj Cl)), (9, (I Cy)), (17, (.agg #[(I x8.1), (I x8.2)]))]) ⟨e0, e8, e9, e17, trivial⟩]
  clear hoff hrel e0 e8 e9 e17
  have hsl : (Sl Ck Cj Cl) = (Sl Ck (Cj.set Cw.toNat (x1.1, x1.2)) Cl) := sl_len (by simp)
  rw [hsl]; rw [hsl] at H; clear hsl
  revert h; refine br fun x21 hx22 h => ?_
  obtain ⟨b24, o25, hi23, -⟩ := (H.own 0 rfl).ix hx22
  refine st (v := (pt b24 o25)) (rv_ix Tryz.underlying34 ti43 rfl rfl hi23) ?_
  refine st_exS (ex_store_own (e' := (x8.1, x8.2)) (vs := [(I x8.1), (I x8.2)]) (k := 0) H (i := 0) rfl ti43 hx22 hi23 rfl rfl rfl rfl rfl (Nat.le_of_ble_eq_true rfl) (by simp [plain]) (by rintro _ ⟨_, _, rfl, rfl, rfl⟩; exact ⟨[(I x8.1)], [(I x8.2)], rfl, rfl, rfl⟩)) wn ?_
  rintro σ26 ⟨H, -⟩
  have hsl : (Sl Ck (Cj.set Cw.toNat (x1.1, x1.2)) Cl) = (Sl Ck ((Cj.set Cw.toNat (x1.1, x1.2)).set Cy.toNat (x8.1, x8.2)) Cl) := sl_len List.length_set.symm
  rw [hsl]; rw [hsl] at H; clear hsl
  refine w_end ?_
  obtain rfl := sj h
  exact fin_end (v := (.tuple #[])) (results_ok Tryz.results141 res_nil rfl) ⟨rfl, rfl, (List.length_set.trans List.length_set)⟩ (H.sel' [0] rfl rfl)

theorem c_container_heap_up__impl_hitHeap {Cj : List (Int × Int)} {Cz : Int} {Ck : Option Addr} {Cl : Nat} {Cm Cn Cp : Nat} {Cq Cr : List Value} {r : (List (Int × Int))} (h : M.container_heap_up__impl_hitHeap Cj Cz = some r) :
    Cal2 Tryz.prog 82 [(.iface 91 (pt Cn Cp)), (I Cz)] [Ch.bx Cm Cn Cp [(Sl Ck Cj Cl)] Cq Cr, Ch.own 0 0 (Sl Ck Cj Cl) Cj] (fun n0 v L => ∃ (az1 : Option Addr), ∃ (cz2 : Nat), v = (.tuple #[]) ∧ L = [Ch.bx Cm Cn Cp [(Sl az1 r cz2)] Cq Cr, Ch.own 0 0 (Sl az1 r cz2) r]) := by
 refine cal2 (n := 23) Tryz.func82 rfl rfl rfl rfl ?_
 intro S0 σ0 n0 hn0 H
 unfold M.container_heap_up__impl_hitHeap at h
 obtain ⟨o1, hj, h'⟩ := bind_some h
 clear h
 refine c_cut (fun e a w => e = .normal ∧ ∃ (ρ : Nat → Value) (σ : St) (aj1 : Option Addr) (cj2 : Nat), a = fr 23 (updL ρ [(0, (.iface 91 (pt Cn Cp)))]) ∧ w = σ.w ∧ Hp S0 σ0 σ [Ch.bx Cm Cn Cp [(Sl aj1 o1 cj2)] Cq Cr, Ch.own 0 0 (Sl aj1 o1 cj2) o1]) ?_ ?_
 ·clear h'
  rename _ = some o1 => h
  refine c_blk (wp_loopM _ h (fun s2 a w => ∃ (ρ : Nat → Value) (σ : St) (aj1 : Option Addr) (cj2 : Nat), a = fr 23 (updL ρ [(0, (.iface 91 (pt Cn Cp))), (1, (I s2.2))]) ∧ w = σ.w ∧ Hp S0 σ0 σ [Ch.bx Cm Cn Cp [(Sl aj1 s2.1 cj2)] Cq Cr, Ch.own 0 0 (Sl aj1 s2.1 cj2) s2.1]) ⟨_, σ0, Ck, Cl, fr_join ⟨rfl, rfl, trivial⟩, rfl, H.sel' [0, 1] rfl rfl⟩ ?_)
  clear h H
  rintro s2 a w o ⟨ρ, σ3, a4, c5, rfl, rfl, H⟩ h hres
  refine c_blk (c_seq (rg (sm (I s2.2) rfl (st (v := (I (w64 (s2.2 - 1)))) (rv_sub (a := s2.2) (b := 1) rfl rfl) ?_))))
  refine st (v := (I (w64 ((w64 (s2.2 - 1)).tdiv 2)))) (rv_quo (a := (w64 (s2.2 - 1))) (b := 2) rfl rfl (by decide)) ?_
  refine sa (I (w64 ((w64 (s2.2 - 1)).tdiv 2))) rfl (w_end (q_then (c_seq (c_seq ?_))))
  obtain ⟨o6, hj, h'⟩ := bind_some h
  clear h
  refine c_cut (fun e a w => e = .normal ∧ ∃ (ρ : Nat → Value) (σ : St), a = fr 23 (updL ρ [(0, (.iface 91 (pt Cn Cp))), (1, (I s2.2)), (4, (I (w64 ((w64 (s2.2 - 1)).tdiv 2)))), (17, (B o6))]) ∧ w = σ.w ∧ Hp S0 σ0 σ [Ch.own 0 0 (Sl a4 s2.1 c5) s2.1, Ch.bx Cm Cn Cp [(Sl a4 s2.1 c5)] Cq Cr]) ?_ ?_
  ·clear h'
   rename _ = some o6 => h
   refine rg (sm (I (w64 ((w64 (s2.2 - 1)).tdiv 2))) rfl (sm (I s2.2) rfl (st (v := (B ((w64 ((w64 (s2.2 - 1)).tdiv 2)) == s2.2))) (rv_eql (a := (w64 ((w64 (s2.2 - 1)).tdiv 2))) (b := s2.2) rfl rfl) (sm (B ((w64 ((w64 (s2.2 - 1)).tdiv 2)) == s2.2)) rfl ?_))))
   rcases Bool.eq_false_or_eq_true ((w64 ((w64 (s2.2 - 1)).tdiv 2)) == s2.2) with hb7 | hb7
   ·replace h := bif_t hb7 h
    refine st_skip (congrArg some hb7) (st_skip (congrArg some hb7) (st_skip (congrArg some hb7) (st_skip (congrArg some hb7) (st_skip (congrArg some hb7) (st (v := (B true)) (rv_pick_t (congrArg B hb7) rfl) (w_end ?_))))))
    obtain rfl := sj h
    exact ⟨rfl, _, σ3, fr_join ⟨rfl, rfl, rfl, rfl, trivial⟩, rfl, H.sel' [1, 0] rfl rfl⟩
   ·replace h := bif_f hb7 h
    refine st_g (v := (.iface 91 (pt Cn Cp))) (congrArg some hb7) (rv_move rfl) (st_g (v := (I s2.2)) (congrArg some hb7) (rv_move rfl) (st_g (v := (I (w64 ((w64 (s2.2 - 1)).tdiv 2)))) (congrArg some hb7) (rv_move rfl) ?_))
    revert h; refine br fun r8 hx9 h => ?_
    have hc10 := c_impl_hitHeap_Less (Ck := a4) (Cl := c5) hx9
    have hle := Nat.le_trans hn0 H.size
    refine st_call (cx_lend (Loan.lend Loan.nil) hc10 (ent_iv hc10.fn (by kernel_rfl) Tryz.underlying91 Tryz.underlying34 rfl rfl (H.cell (u := (Sl a4 s2.1 c5)) (o' := Cp) 0 0 rfl rfl rfl) rfl) (show Hp S0 σ0 _ ([Ch.own 0 0 (Sl a4 s2.1 c5) s2.1] ++ ([] ++ [Ch.bx Cm Cn Cp [(Sl a4 s2.1 c5)] Cq Cr])) from (H.sel' [1, 0] rfl rfl)) (by rintro _ _ _ ⟨rfl, rfl⟩; exact trivial)) (wanted_yes rfl (by exact (congrArg some hb7))) ?_
    rintro _ σ11 ⟨_, ⟨rfl, rfl⟩, H, -, -⟩
    replace H : Hp _ _ _ [_, _] := H
    clear hle
    replace H : Hp _ _ _ [_, _] := H
    refine st_g (v := (B (!r8))) (congrArg some hb7) (rv_not rfl) (st (v := (B (!r8))) (rv_pick_f (congrArg B hb7) rfl) (w_end ?_))
    obtain rfl := sj h
    exact ⟨rfl, _, σ11, fr_join ⟨rfl, rfl, rfl, rfl, trivial⟩, rfl, H.sel' [0, 1] rfl rfl⟩
  ·clear hj
   have h := h'
   clear h' H
   rintro e a w ⟨rfl, ρ, σ12, rfl, rfl, H⟩
   refine q_then ?_
   refine cd_cond o6 rfl (fun hb13 => ?_) (fun hb13 => ?_)
   ·replace h := bif_t hb13 h
    refine c_exit (q_then_x ?_)
    refine q_blk_x (by decide) ?_
    refine q_then_x (q_blk_hit ?_)
    obtain rfl := sj h
    obtain rfl := hres _ rfl
    exact ⟨rfl, _, σ12, a4, c5, fr_join ⟨rfl, trivial⟩, rfl, H.sel' [1, 0] rfl rfl⟩
   ·replace h := bif_f hb13 h
    refine c_skip (q_then (c_seq (rg (sm (.iface 91 (pt Cn Cp)) rfl (sm (I (w64 ((w64 (s2.2 - 1)).tdiv 2))) rfl (sm (I s2.2) rfl ?_))))))
    revert h; refine br fun r14 hx15 h => ?_
    have hc16 := c_impl_hitHeap_Swap (Ck := a4) (Cl := c5) hx15
    refine st_call (cx_call hc16 (ent_iv hc16.fn (by kernel_rfl) Tryz.underlying91 Tryz.underlying34 rfl rfl (H.cell (u := (Sl a4 s2.1 c5)) (o' := Cp) 1 0 rfl rfl rfl) rfl) hn0 (H.sel' [0, 1] rfl rfl : Hp S0 σ0 _ ([_] ++ _))) wn ?_
    rintro _ σ18 ⟨_, ⟨rfl, rfl, hn17⟩, H, -⟩
    replace H : Hp _ _ _ [_, _] := H
    have hsl : (Sl a4 s2.1 c5) = (Sl a4 r14 c5) := sl_len hn17.symm
    try rw [hsl]
    try rw [hsl] at H
    clear hsl
    refine w_end (q_then (rg (sm (I (w64 ((w64 (s2.2 - 1)).tdiv 2))) rfl (sa (I (w64 ((w64 (s2.2 - 1)).tdiv 2))) rfl (w_end (q_blk (q_then ?_)))))))
    obtain rfl := sj h
    exact ⟨_, rfl, _, σ18, a4, c5, fr_join ⟨rfl, rfl, trivial⟩, rfl, H.sel' [1, 0] rfl rfl⟩
 ·clear hj
  have h := h'
  clear h' H
  rintro e a w ⟨rfl, ρ, σ19, a20, c21, rfl, rfl, H⟩
  obtain rfl := sj h
  exact fin_end (v := (.tuple #[])) (results_ok Tryz.results82 res_nil rfl) ⟨a20, c21, rfl, rfl⟩ (H.sel' [0, 1] rfl rfl)

theorem c_container_heap_Push__impl_hitHeap__impl_Hit {Cj : List (Int × Int)} {Bg : Int × Int} {Ck : Option Addr} {Cl : Nat} {Cm Cn Cp : Nat} {Cq Cr : List Value} {r : (List (Int × Int))} (h : M.container_heap_Push__impl_hitHeap__impl_Hit Cj Bg = some r) :
    Cal2 Tryz.prog 58 [(.iface 91 (pt Cn Cp)), (.iface 43 (.agg #[(I Bg.1), (I Bg.2)]))] [Ch.bx Cm Cn Cp [(Sl Ck Cj Cl)] Cq Cr, Ch.own 0 0 (Sl Ck Cj Cl) Cj] (fun n0 v L => ∃ (az1 : Option Addr), ∃ (cz2 : Nat), v = (.tuple #[]) ∧ L = [Ch.bx Cm Cn Cp [(Sl az1 r cz2)] Cq Cr, Ch.own 0 0 (Sl az1 r cz2) r]) := by
 refine cal2 (n := 12) Tryz.func58 rfl rfl rfl rfl ?_
 intro S0 σ0 n0 hn0 H
 unfold M.container_heap_Push__impl_hitHeap__impl_Hit at h
 refine c_seq (rg (sm (.iface 91 (pt Cn Cp)) rfl (sm (.iface 43 (.agg #[(I Bg.1), (I Bg.2)])) rfl ?_)))
 revert h; refine br fun r1 hx2 h => ?_
 have hc3 := c_impl_hitHeap_Push__impl_Hit (Cm := Cm) (Cn := Cn) (Cp := Cp) (Cq := Cq) (Cr := Cr) (Ck := Ck) (Cl := Cl) hx2
 refine st_call (cx_call hc3 (ent_ip hc3.fn (by kernel_rfl) Tryz.underlying91 rfl rfl) hn0 (H.sel' [0, 1] rfl rfl : Hp S0 σ0 _ ([_, _] ++ _))) wn ?_
 rintro _ σ6 ⟨_, ⟨a4, c5, rfl, rfl⟩, H, -⟩
 replace H : Hp _ _ _ [_, _] := H
 refine w_end (q_then (rg (sm (.iface 91 (pt Cn Cp)) rfl (sm (.iface 91 (pt Cn Cp)) rfl ?_))))
 revert h; refine br fun r7 hx8 h => ?_
 have hc9 := c_impl_hitHeap_Len (Ck := a4) (Cl := c5) hx8
 have hle := Nat.le_trans hn0 H.size
 refine st_call (cx_lend (Loan.lend Loan.nil) hc9 (ent_iv hc9.fn (by kernel_rfl) Tryz.underlying91 Tryz.underlying34 rfl rfl (H.cell (u := (Sl a4 r1 c5)) (o' := Cp) 0 0 rfl rfl rfl) rfl) (show Hp S0 σ0 _ ([Ch.own 0 0 (Sl a4 r1 c5) r1] ++ ([] ++ [Ch.bx Cm Cn Cp [(Sl a4 r1 c5)] Cq Cr])) from (H.sel' [1, 0] rfl rfl)) (by rintro _ _ _ ⟨rfl, rfl⟩; exact trivial)) wn ?_
 rintro _ σ10 ⟨_, ⟨rfl, rfl⟩, H, -, -⟩
 replace H : Hp _ _ _ [_, _] := H
 clear hle
 replace H : Hp _ _ _ [_, _] := H
 refine st (v := (I (w64 (r7 - 1)))) (rv_sub (a := r7) (b := 1) rfl rfl) ?_
 revert h; refine br fun r11 hx12 h => ?_
 have hc13 := c_container_heap_up__impl_hitHeap (Cm := Cm) (Cn := Cn) (Cp := Cp) (Cq := Cq) (Cr := Cr) (Ck := a4) (Cl := c5) hx12
 refine st_call (cx_call hc13 (ent_f hc13.fn rfl) hn0 (H.sel' [1, 0] rfl rfl : Hp S0 σ0 _ ([_, _] ++ _))) wn ?_
 rintro _ σ16 ⟨_, ⟨a14, c15, rfl, rfl⟩, H, -⟩
 replace H : Hp _ _ _ [_, _] := H
 refine w_end ?_
 obtain rfl := sj h
 exact fin_end (v := (.tuple #[])) (results_ok Tryz.results58 res_nil rfl) ⟨a14, c15, rfl, rfl⟩ (H.sel' [0, 1] rfl rfl)

theorem c_container_heap_down__impl_hitHeap {Cj : List (Int × Int)} {Da : Int} {Aw : Int} {Ck : Option Addr} {Cl : Nat} {Cm Cn Cp : Nat} {Cq Cr : List Value} {r : Bool × (List (Int × Int))} (h : M.container_heap_down__impl_hitHeap Cj Da Aw = some r) :
    Cal2 Tryz.prog 83 [(.iface 91 (pt Cn Cp)), (I Da), (I Aw)] [Ch.bx Cm Cn Cp [(Sl Ck Cj Cl)] Cq Cr, Ch.own 0 0 (Sl Ck Cj Cl) Cj] (fun n0 v L => ∃ (az1 : Option Addr), ∃ (cz2 : Nat), v = (B r.1) ∧ L = [Ch.bx Cm Cn Cp [(Sl az1 r.2 cz2)] Cq Cr, Ch.own 0 0 (Sl az1 r.2 cz2) r.2]) := by
 refine cal2 (n := 48) Tryz.func83 rfl rfl rfl rfl ?_
 intro S0 σ0 n0 hn0 H
 unfold M.container_heap_down__impl_hitHeap at h
 refine c_seq (rg (sa (B false) rfl (w_end (q_then (c_seq (rg (sm (I Da) rfl (sa (I Da) rfl (w_end (q_then (c_seq ?_)))))))))))
 obtain ⟨o1, hj, h'⟩ := bind_some h
 clear h
 refine c_cut (fun e a w => e = .normal ∧ ∃ (ρ : Nat → Value) (σ : St) (aj1 : Option Addr) (cj2 : Nat), a = fr 48 (updL ρ [(0, (.iface 91 (pt Cn Cp))), (1, (I Da)), (7, (I o1.2))]) ∧ w = σ.w ∧ Hp S0 σ0 σ [Ch.bx Cm Cn Cp [(Sl aj1 o1.1 cj2)] Cq Cr, Ch.own 0 0 (Sl aj1 o1.1 cj2) o1.1]) ?_ ?_
 ·clear h'
  rename _ = some o1 => h
  refine c_blk (wp_loopM _ h (fun s2 a w => ∃ (ρ : Nat → Value) (σ : St) (aj1 : Option Addr) (cj2 : Nat), a = fr 48 (updL ρ [(0, (.iface 91 (pt Cn Cp))), (1, (I Da)), (2, (I Aw)), (7, (I s2.2))]) ∧ w = σ.w ∧ Hp S0 σ0 σ [Ch.bx Cm Cn Cp [(Sl aj1 s2.1 cj2)] Cq Cr, Ch.own 0 0 (Sl aj1 s2.1 cj2) s2.1]) ⟨_, σ0, Ck, Cl, fr_join ⟨rfl, rfl, rfl, rfl, trivial⟩, rfl, H.sel' [0, 1] rfl rfl⟩ ?_)
  clear h H
  rintro s2 a w o ⟨ρ, σ3, a4, c5, rfl, rfl, H⟩ h hres
  refine c_blk (c_seq (rg (sm (I s2.2) rfl (st (v := (I (w64 (2 * s2.2)))) (rv_mul (a := 2) (b := s2.2) rfl rfl) (st (v := (I (w64 ((w64 (2 * s2.2)) + 1)))) (rv_add (a := (w64 (2 * s2.2))) (b := 1) rfl rfl) (sa (I (w64 ((w64 (2 * s2.2)) + 1))) rfl (w_end (q_then (c_seq (c_seq ?_))))))))))
  obtain ⟨o6, hj, h'⟩ := bind_some h
  clear h
  refine c_cut (fun e a w => e = .normal ∧ ∃ (ρ : Nat → Value) (σ : St), a = fr 48 (updL ρ [(0, (.iface 91 (pt Cn Cp))), (1, (I Da)), (2, (I Aw)), (7, (I s2.2)), (8, (I (w64 ((w64 (2 * s2.2)) + 1)))), (21, (B o6))]) ∧ w = σ.w ∧ Hp S0 σ0 σ [Ch.own 0 0 (Sl a4 s2.1 c5) s2.1, Ch.bx Cm Cn Cp [(Sl a4 s2.1 c5)] Cq Cr]) ?_ ?_
  ·clear h'
   rename _ = some o6 => h
   refine rg (sm (I (w64 ((w64 (2 * s2.2)) + 1))) rfl (sm (I Aw) rfl (st (v := (B (decide (Aw ≤ (w64 ((w64 (2 * s2.2)) + 1)))))) (rv_geq (a := (w64 ((w64 (2 * s2.2)) + 1))) (b := Aw) rfl rfl) (sm (B (decide (Aw ≤ (w64 ((w64 (2 * s2.2)) + 1))))) rfl ?_))))
   rcases Bool.eq_false_or_eq_true (decide (Aw ≤ (w64 ((w64 (2 * s2.2)) + 1)))) with hb7 | hb7
   ·replace h := bif_t hb7 h
    refine st_skip (congrArg some hb7) (st_skip (congrArg some hb7) (st (v := (B true)) (rv_pick_t (congrArg B hb7) rfl) (w_end ?_)))
    obtain rfl := sj h
    exact ⟨rfl, _, σ3, fr_join ⟨rfl, rfl, rfl, rfl, rfl, rfl, trivial⟩, rfl, H.sel' [1, 0] rfl rfl⟩
   ·replace h := bif_f hb7 h
    refine st_g (v := (I (w64 ((w64 (2 * s2.2)) + 1)))) (congrArg some hb7) (rv_move rfl) (st_g (v := (B (decide ((w64 ((w64 (2 * s2.2)) + 1)) < 0)))) (congrArg some hb7) (rv_lss (a := (w64 ((w64 (2 * s2.2)) + 1))) (b := 0) rfl rfl) (st (v := (B (decide ((w64 ((w64 (2 * s2.2)) + 1)) < 0)))) (rv_pick_f (congrArg B hb7) rfl) (w_end ?_)))
    obtain rfl := sj h
    exact ⟨rfl, _, σ3, fr_join ⟨rfl, rfl, rfl, rfl, rfl, rfl, trivial⟩, rfl, H.sel' [1, 0] rfl rfl⟩
  ·clear hj
   have h := h'
   clear h' H
   rintro e a w ⟨rfl, ρ, σ8, rfl, rfl, H⟩
   refine q_then ?_
   refine cd_cond o6 rfl (fun hb9 => ?_) (fun hb9 => ?_)
   ·replace h := bif_t hb9 h
    refine c_exit (q_then_x ?_)
    refine q_blk_x (by decide) ?_
    refine q_then_x (q_blk_hit ?_)
    obtain rfl := sj h
    obtain rfl := hres _ rfl
    exact ⟨rfl, _, σ8, a4, c5, fr_join ⟨rfl, rfl, rfl, trivial⟩, rfl, H.sel' [1, 0] rfl rfl⟩
   ·replace h := bif_f hb9 h
    refine c_skip (q_then (c_seq (rg (sm (I (w64 ((w64 (2 * s2.2)) + 1))) rfl (sa (I (w64 ((w64 (2 * s2.2)) + 1))) rfl (w_end (q_then (c_seq (c_seq (rg (sm (I (w64 ((w64 (2 * s2.2)) + 1))) rfl ?_)))))))))))
    refine st (v := (I (w64 ((w64 ((w64 (2 * s2.2)) + 1)) + 1)))) (rv_add (a := (w64 ((w64 (2 * s2.2)) + 1))) (b := 1) rfl rfl) (sa (I (w64 ((w64 ((w64 (2 * s2.2)) + 1)) + 1))) rfl (w_end (q_then (c_seq ?_))))
    obtain ⟨o10, hj, h'⟩ := bind_some h
    clear h
    refine c_cut (fun e a w => e = .normal ∧ ∃ (ρ : Nat → Value) (σ : St), a = fr 48 (updL ρ [(0, (.iface 91 (pt Cn Cp))), (1, (I Da)), (2, (I Aw)), (7, (I s2.2)), (9, (I (w64 ((w64 (2 * s2.2)) + 1)))), (10, (I (w64 ((w64 ((w64 (2 * s2.2)) + 1)) + 1)))), (33, (B o10))]) ∧ w = σ.w ∧ Hp S0 σ0 σ [Ch.own 0 0 (Sl a4 s2.1 c5) s2.1, Ch.bx Cm Cn Cp [(Sl a4 s2.1 c5)] Cq Cr]) ?_ ?_
    ·clear h'
     rename _ = some o10 => h
     refine rg (sm (I (w64 ((w64 ((w64 (2 * s2.2)) + 1)) + 1))) rfl (sm (I Aw) rfl (st (v := (B (decide ((w64 ((w64 ((w64 (2 * s2.2)) + 1)) + 1)) < Aw)))) (rv_lss (a := (w64 ((w64 ((w64 (2 * s2.2)) + 1)) + 1))) (b := Aw) rfl rfl) (sm (B (decide ((w64 ((w64 ((w64 (2 * s2.2)) + 1)) + 1)) < Aw))) rfl ?_))))
     rcases Bool.eq_false_or_eq_true (decide ((w64 ((w64 ((w64 (2 * s2.2)) + 1)) + 1)) < Aw)) with hb11 | hb11
     ·replace h := bif_t hb11 h
      refine st_g (v := (.iface 91 (pt Cn Cp))) (congrArg some hb11) (rv_move rfl) (st_g (v := (I (w64 ((w64 ((w64 (2 * s2.2)) + 1)) + 1)))) (congrArg some hb11) (rv_move rfl) (st_g (v := (I (w64 ((w64 (2 * s2.2)) + 1)))) (congrArg some hb11) (rv_move rfl) ?_))
      revert h; refine br fun r12 hx13 h => ?_
      have hc14 := c_impl_hitHeap_Less (Ck := a4) (Cl := c5) hx13
      have hle := Nat.le_trans hn0 H.size
      refine st_call (cx_lend (Loan.lend Loan.nil) hc14 (ent_iv hc14.fn (by kernel_rfl) Tryz.underlying91 Tryz.underlying34 rfl rfl (H.cell (u := (Sl a4 s2.1 c5)) (o' := Cp) 1 0 rfl rfl rfl) rfl) (show Hp S0 σ0 _ ([Ch.own 0 0 (Sl a4 s2.1 c5) s2.1] ++ ([] ++ [Ch.bx Cm Cn Cp [(Sl a4 s2.1 c5)] Cq Cr])) from (H.sel' [0, 1] rfl rfl)) (by rintro _ _ _ ⟨rfl, rfl⟩; exact trivial)) (wanted_yes rfl (by exact (congrArg some hb11))) ?_
      rintro _ σ15 ⟨_, ⟨rfl, rfl⟩, H, -, -⟩
      replace H : Hp _ _ _ [_, _] := H
      clear hle
      replace H : Hp _ _ _ [_, _] := H
      refine st (v := (B r12)) (rv_pick_t (congrArg B hb11) rfl) (w_end ?_)
      obtain rfl := sj h
      exact ⟨rfl, _, σ15, fr_join ⟨rfl, rfl, rfl, rfl, rfl, rfl, rfl, trivial⟩, rfl, H.sel' [0, 1] rfl rfl⟩
     ·replace h := bif_f hb11 h
      refine st_skip (congrArg some hb11) (st_skip (congrArg some hb11) (st_skip (congrArg some hb11) (st_skip (congrArg some hb11) (st (v := (B false)) (rv_pick_f (congrArg B hb11) rfl) (w_end ?_)))))
      obtain rfl := sj h
      exact ⟨rfl, _, σ8, fr_join ⟨rfl, rfl, rfl, rfl, rfl, rfl, rfl, trivial⟩, rfl, H.sel' [0, 1] rfl rfl⟩
    ·clear hj
     have h := h'
     clear h' H
     rintro e a w ⟨rfl, ρ, σ16, rfl, rfl, H⟩
     refine q_then ?_
     obtain ⟨o17, hj, h'⟩ := bind_some h
     clear h
     refine c_cut (fun e a w => e = .normal ∧ ∃ (ρ : Nat → Value) (σ : St), a = fr 48 (updL ρ [(0, (.iface 91 (pt Cn Cp))), (1, (I Da)), (2, (I Aw)), (7, (I s2.2)), (9, (I o17))]) ∧ w = σ.w ∧ Hp S0 σ0 σ [Ch.own 0 0 (Sl a4 s2.1 c5) s2.1, Ch.bx Cm Cn Cp [(Sl a4 s2.1 c5)] Cq Cr]) ?_ ?_
     ·clear h'
      rename _ = some o17 => h
      refine cd_cond o10 rfl (fun hb18 => ?_) (fun hb18 => ?_)
      ·replace h := bif_t hb18 h
       refine rg (sm (I (w64 ((w64 ((w64 (2 * s2.2)) + 1)) + 1))) rfl (sa (I (w64 ((w64 ((w64 (2 * s2.2)) + 1)) + 1))) rfl (w_end ?_)))
       obtain rfl := sj h
       exact ⟨rfl, _, σ16, fr_join ⟨rfl, rfl, rfl, rfl, rfl, trivial⟩, rfl, H.sel' [0, 1] rfl rfl⟩
      ·replace h := bif_f hb18 h
       refine c_skip ?_
       obtain rfl := sj h
       exact ⟨rfl, _, σ16, fr_join ⟨rfl, rfl, rfl, rfl, rfl, trivial⟩, rfl, H.sel' [0, 1] rfl rfl⟩
     ·clear hj
      have h := h'
      clear h' H
      rintro e a w ⟨rfl, ρ, σ19, rfl, rfl, H⟩
      refine q_then (c_seq (c_seq (rg (sm (.iface 91 (pt Cn Cp)) rfl (sm (I o17) rfl (sm (I s2.2) rfl ?_))))))
      revert h; refine br fun r20 hx21 h => ?_
      have hc22 := c_impl_hitHeap_Less (Ck := a4) (Cl := c5) hx21
      have hle := Nat.le_trans hn0 H.size
      refine st_call (cx_lend (Loan.lend Loan.nil) hc22 (ent_iv hc22.fn (by kernel_rfl) Tryz.underlying91 Tryz.underlying34 rfl rfl (H.cell (u := (Sl a4 s2.1 c5)) (o' := Cp) 1 0 rfl rfl rfl) rfl) (show Hp S0 σ0 _ ([Ch.own 0 0 (Sl a4 s2.1 c5) s2.1] ++ ([] ++ [Ch.bx Cm Cn Cp [(Sl a4 s2.1 c5)] Cq Cr])) from (H.sel' [0, 1] rfl rfl)) (by rintro _ _ _ ⟨rfl, rfl⟩; exact trivial)) wn ?_
      rintro _ σ23 ⟨_, ⟨rfl, rfl⟩, H, -, -⟩
      replace H : Hp _ _ _ [_, _] := H
      clear hle
      replace H : Hp _ _ _ [_, _] := H
      refine st (v := (B (!r20))) (rv_not rfl) (w_end (q_then ?_))
      refine cd_cond (!r20) rfl (fun hb24 => ?_) (fun hb24 => ?_)
      ·replace h := bif_t hb24 h
       refine c_exit (q_then_x ?_)
       refine q_blk_x (by decide) ?_
       refine q_then_x (q_blk_hit ?_)
       obtain rfl := sj h
       obtain rfl := hres _ rfl
       exact ⟨rfl, _, σ23, a4, c5, fr_join ⟨rfl, rfl, rfl, trivial⟩, rfl, H.sel' [1, 0] rfl rfl⟩
      ·replace h := bif_f hb24 h
       refine c_skip (q_then (c_seq (rg (sm (.iface 91 (pt Cn Cp)) rfl (sm (I s2.2) rfl (sm (I o17) rfl ?_))))))
       revert h; refine br fun r25 hx26 h => ?_
       have hc27 := c_impl_hitHeap_Swap (Ck := a4) (Cl := c5) hx26
       refine st_call (cx_call hc27 (ent_iv hc27.fn (by kernel_rfl) Tryz.underlying91 Tryz.underlying34 rfl rfl (H.cell (u := (Sl a4 s2.1 c5)) (o' := Cp) 1 0 rfl rfl rfl) rfl) hn0 (H.sel' [0, 1] rfl rfl : Hp S0 σ0 _ ([_] ++ _))) wn ?_
       rintro _ σ29 ⟨_, ⟨rfl, rfl, hn28⟩, H, -⟩
       replace H : Hp _ _ _ [_, _] := H
       have hsl : (Sl a4 s2.1 c5) = (Sl a4 r25 c5) := sl_len hn28.symm
       try rw [hsl]
       try rw [hsl] at H
       clear hsl
       refine w_end (q_then (rg (sm (I o17) rfl (sa (I o17) rfl (w_end (q_blk (q_then ?_)))))))
       obtain rfl := sj h
       exact ⟨_, rfl, _, σ29, a4, c5, fr_join ⟨rfl, rfl, rfl, rfl, trivial⟩, rfl, H.sel' [1, 0] rfl rfl⟩
 ·clear hj
  have h := h'
  clear h' H
  rintro e a w ⟨rfl, ρ, σ30, a31, c32, rfl, rfl, H⟩
  refine q_then (c_seq (rg (sm (I o1.2) rfl (sm (I Da) rfl (st (v := (B (decide (Da < o1.2)))) (rv_gtr (a := o1.2) (b := Da) rfl rfl) (sa (B (decide (Da < o1.2))) rfl (w_end (q_then (c_ret ?_)))))))))
  obtain rfl := sj h
  exact fin_ret (v := (B (decide (Da < o1.2)))) (results_ok Tryz.results83 (res_tmp (v := (B (decide (Da < o1.2)))) rfl res_nil) rfl) ⟨a31, c32, rfl, rfl⟩ (H.sel' [0, 1] rfl rfl)

theorem c_impl_hitHeap_Pop {Cj : List (Int × Int)} {Ck : Option Addr} {Cl : Nat} {Cm Cn Cp : Nat} {Cq Cr : List Value} {r : ((Int) × (Int)) × (List (Int × Int))} (h : M.impl_hitHeap_Pop Cj = some r) :
    Cal2 Tryz.prog 143 [(pt Cn Cp)] [Ch.bx Cm Cn Cp [(Sl Ck Cj Cl)] Cq Cr, Ch.own 0 0 (Sl Ck Cj Cl) Cj] (fun n0 v L => ∃ (az1 : Option Addr), ∃ (cz2 : Nat), v = (.iface 43 (.agg #[(I r.1.1), (I r.1.2)])) ∧ L = [Ch.bx Cm Cn Cp [(Sl az1 r.2 cz2)] Cq Cr, Ch.own 0 0 (Sl az1 r.2 cz2) r.2]) := by
 refine cal2 (n := 25) Tryz.func143 rfl rfl rfl rfl ?_
 intro S0 σ0 n0 hn0 H
 unfold M.impl_hitHeap_Pop at h
 refine c_seq (rg (sa (.nilIface) rfl (w_end (q_then (c_seq (rg (sm (pt Cn Cp) rfl (st (v := (pt Cn Cp)) (rv_nilCheck rfl) ?_))))))))
 have hc1 := H.cell (u := (Sl Ck Cj Cl)) (o' := Cp) 0 0 rfl rfl rfl
 refine st (v := (Sl Ck Cj Cl)) (rv_load1 Tryz.underlying34 rfl rfl hc1) (st (v := (I (Cj.length : Int))) (rv_len Tryz.underlying34 rfl) (st (v := (I (w64 ((Cj.length : Int) - 1)))) (rv_sub (a := (Cj.length : Int)) (b := 1) rfl rfl) (sa (I (w64 ((Cj.length : Int) - 1))) rfl (w_end (q_then (c_seq (rg (sm (pt Cn Cp) rfl (st (v := (pt Cn Cp)) (rv_nilCheck rfl) ?_)))))))))
 have hc2 := H.cell (u := (Sl Ck Cj Cl)) (o' := Cp) 0 0 rfl rfl rfl
 refine st (v := (Sl Ck Cj Cl)) (rv_load1 Tryz.underlying34 rfl rfl hc2) (sm (I (w64 ((Cj.length : Int) - 1))) rfl ?_)
 revert h; refine br fun x3 hx4 h => ?_
 obtain ⟨b6, o7, hi5, -⟩ := (H.own 1 rfl).ix hx4
 refine st (v := (pt b6 o7)) (rv_ix Tryz.underlying34 ti43 rfl rfl hi5) ?_
 obtain ⟨_, ⟨_, _, rfl, rfl, rfl⟩, hl8, hc9⟩ := ((H.own 1 rfl).at hx4 hi5).cells
 refine st (v := (.agg #[(I x3.1), (I x3.2)])) (rv_load Tryz.underlying43 rfl ti43 rfl hl8 hc9) (st_ex (ex_alloc (cs := [(I 0), (I 0)]) H hn0 ti43 rfl) wn ?_)
 rintro _ σ11 ⟨b10, rfl, H, -⟩
 refine st_exS (ex_store_box (k := 0) (cs := [(I 0), (I 0)]) (vs := [(I x3.1), (I x3.2)]) (cs' := [(I x3.1), (I x3.2)]) H (i := 0) rfl ti43 rfl rfl rfl rfl rfl (Nat.le_of_ble_eq_true rfl) (by simp [plain]) rfl) wn ?_
 rintro σ12 ⟨H, -⟩
 refine w_end (q_then (c_seq (rg (sm (pt Cn Cp) rfl (sm (pt Cn Cp) rfl (st (v := (pt Cn Cp)) (rv_nilCheck rfl) ?_))))))
 have hc13 := H.cell (u := (Sl Ck Cj Cl)) (o' := Cp) 1 0 rfl rfl rfl
 refine st (v := (Sl Ck Cj Cl)) (rv_load1 Tryz.underlying34 rfl rfl hc13) (sm (I (w64 ((Cj.length : Int) - 1))) rfl ?_)
 revert h; refine br fun xs14 hx15 h => ?_
 obtain ⟨a16, c17, hs18, -⟩ := (H.own 2 rfl).slice hx15
 refine st (v := (Sl a16 xs14 c17)) (rv_slice_h Tryz.underlying34 ti43 hs18 rfl rfl) (st (v := (pt Cn Cp)) (rv_nilCheck rfl) ?_)
 have hv20 := (H.own 2 rfl).view hx15 hs18
 replace H := (H.front (i := 2) rfl).turn (d := Ch.own 0 0 (Sl a16 xs14 c17) xs14) (fun _ => hv20.1) hv20.2; clear hv20
 refine st_exS (ex_store_box (k := 0) (cs := [(Sl Ck Cj Cl)]) (vs := [(Sl a16 xs14 c17)]) (cs' := [(Sl a16 xs14 c17)]) H (i := 2) rfl ti34 rfl rfl rfl rfl rfl (Nat.le_of_ble_eq_true rfl) (by simp [plain]) rfl) wn ?_
 rintro σ21 ⟨H, -⟩
 refine w_end (q_then (c_seq (rg ?_)))
 have hc22 := H.cells 2 rfl
 refine st (v := (.agg #[(I x3.1), (I x3.2)])) (rv_load (cs := [(I x3.1), (I x3.2)]) Tryz.underlying43 rfl ti43 rfl rfl hc22) (st (v := (.iface 43 (.agg #[(I x3.1), (I x3.2)]))) (rv_makeInterface Tryz.underlying43 rfl rfl) (sa (.iface 43 (.agg #[(I x3.1), (I x3.2)])) rfl (w_end (q_then (c_ret ?_)))))
 obtain rfl := sj h
 exact fin_ret (v := (.iface 43 (.agg #[(I x3.1), (I x3.2)]))) (results_ok Tryz.results143 (res_tmp (v := (.iface 43 (.agg #[(I x3.1), (I x3.2)]))) rfl res_nil) rfl) ⟨a16, c17, rfl, rfl⟩ (H.sel' [0, 1] rfl rfl)

theorem c_container_heap_Pop__impl_hitHeap {Cj : List (Int × Int)} {Ck : Option Addr} {Cl : Nat} {Cm Cn Cp : Nat} {Cq Cr : List Value} {r : ((Int) × (Int)) × (List (Int × Int))} (h : M.container_heap_Pop__impl_hitHeap Cj = some r) :
    Cal2 Tryz.prog 59 [(.iface 91 (pt Cn Cp))] [Ch.bx Cm Cn Cp [(Sl Ck Cj Cl)] Cq Cr, Ch.own 0 0 (Sl Ck Cj Cl) Cj] (fun n0 v L => ∃ (az1 : Option Addr), ∃ (cz2 : Nat), v = (.iface 43 (.agg #[(I r.1.1), (I r.1.2)])) ∧ L = [Ch.bx Cm Cn Cp [(Sl az1 r.2 cz2)] Cq Cr, Ch.own 0 0 (Sl az1 r.2 cz2) r.2]) := by
 refine cal2 (n := 15) Tryz.func59 rfl rfl rfl rfl ?_
 intro S0 σ0 n0 hn0 H
 unfold M.container_heap_Pop__impl_hitHeap at h
 refine c_seq (rg (sa (.nilIface) rfl (w_end (q_then (c_seq (rg (sm (.iface 91 (pt Cn Cp)) rfl ?_)))))))
 revert h; refine br fun r1 hx2 h => ?_
 have hc3 := c_impl_hitHeap_Len (Ck := Ck) (Cl := Cl) hx2
 have hle := Nat.le_trans hn0 H.size
 refine st_call (cx_lend (Loan.lend Loan.nil) hc3 (ent_iv hc3.fn (by kernel_rfl) Tryz.underlying91 Tryz.underlying34 rfl rfl (H.cell (u := (Sl Ck Cj Cl)) (o' := Cp) 0 0 rfl rfl rfl) rfl) (show Hp S0 σ0 _ ([Ch.own 0 0 (Sl Ck Cj Cl) Cj] ++ ([] ++ [Ch.bx Cm Cn Cp [(Sl Ck Cj Cl)] Cq Cr])) from (H.sel' [1, 0] rfl rfl)) (by rintro _ _ _ ⟨rfl, rfl⟩; exact trivial)) wn ?_
 rintro _ σ4 ⟨_, ⟨rfl, rfl⟩, H, -, -⟩
 replace H : Hp _ _ _ [_, _] := H
 clear hle
 replace H : Hp _ _ _ [_, _] := H
 refine st (v := (I (w64 (r1 - 1)))) (rv_sub (a := r1) (b := 1) rfl rfl) (sa (I (w64 (r1 - 1))) rfl (w_end (q_then (c_seq (rg (sm (.iface 91 (pt Cn Cp)) rfl (sm (I (w64 (r1 - 1))) rfl ?_)))))))
 revert h; refine br fun r5 hx6 h => ?_
 have hc7 := c_impl_hitHeap_Swap (Ck := Ck) (Cl := Cl) hx6
 refine st_call (cx_call hc7 (ent_iv hc7.fn (by kernel_rfl) Tryz.underlying91 Tryz.underlying34 rfl rfl (H.cell (u := (Sl Ck Cj Cl)) (o' := Cp) 1 0 rfl rfl rfl) rfl) hn0 (H.sel' [0, 1] rfl rfl : Hp S0 σ0 _ ([_] ++ _))) wn ?_
 rintro _ σ9 ⟨_, ⟨rfl, rfl, hn8⟩, H, -⟩
 replace H : Hp _ _ _ [_, _] := H
 have hsl : (Sl Ck Cj Cl) = (Sl Ck r5 Cl) := sl_len hn8.symm
 try rw [hsl]
 try rw [hsl] at H
 clear hsl
 refine w_end (q_then (c_seq (rg (sm (.iface 91 (pt Cn Cp)) rfl (sm (I (w64 (r1 - 1))) rfl ?_)))))
 revert h; refine br fun r10 hx11 h => ?_
 have hc12 := c_container_heap_down__impl_hitHeap (Cm := Cm) (Cn := Cn) (Cp := Cp) (Cq := Cq) (Cr := Cr) (Ck := Ck) (Cl := Cl) hx11
 refine st_call (cx_call hc12 (ent_f hc12.fn rfl) hn0 (H.sel' [1, 0] rfl rfl : Hp S0 σ0 _ ([_, _] ++ _))) wn ?_
 rintro _ σ15 ⟨_, ⟨a13, c14, rfl, rfl⟩, H, -⟩
 replace H : Hp _ _ _ [_, _] := H
 refine w_end (q_then (c_seq (rg (sm (.iface 91 (pt Cn Cp)) rfl ?_))))
 revert h; refine br fun r16 hx17 h => ?_
 have hc18 := c_impl_hitHeap_Pop (Cm := Cm) (Cn := Cn) (Cp := Cp) (Cq := Cq) (Cr := Cr) (Ck := a13) (Cl := c14) hx17
 refine st_call (cx_call hc18 (ent_ip hc18.fn (by kernel_rfl) Tryz.underlying91 rfl rfl) hn0 (H.sel' [0, 1] rfl rfl : Hp S0 σ0 _ ([_, _] ++ _))) wn ?_
 rintro _ σ21 ⟨_, ⟨a19, c20, rfl, rfl⟩, H, -⟩
 replace H : Hp _ _ _ [_, _] := H
 refine sa (.iface 43 (.agg #[(I r16.1.1), (I r16.1.2)])) rfl (w_end (q_then (c_ret ?_)))
 obtain rfl := sj h
 exact fin_ret (v := (.iface 43 (.agg #[(I r16.1.1), (I r16.1.2)]))) (results_ok Tryz.results59 (res_tmp (v := (.iface 43 (.agg #[(I r16.1.1), (I r16.1.2)]))) rfl res_nil) rfl) ⟨a19, c20, rfl, rfl⟩ (H.sel' [0, 1] rfl rfl)

theorem c_impl_nearestHits_offer {Ax : Int × (List (Int × Int))} {Db : Int × Int} {Dc : Option Addr} {Dd : Nat} {De Dg Dh : Nat} {Di Dj : List Value} {r : (Int × (List (Int × Int)))} (h : M.impl_nearestHits_offer Ax Db = some r) :
    Cal2 Tryz.prog 37 [(pt Dg Dh), (.agg #[(I Db.1), (I Db.2)])] [Ch.bx De Dg Dh [(I Ax.1), (Sl Dc Ax.2 Dd)] Di Dj, Ch.own 0 0 (Sl Dc Ax.2 Dd) Ax.2] (fun n0 v L => ∃ (az1 : Option Addr), ∃ (cz2 : Nat), v = (.tuple #[]) ∧ L = [Ch.bx De Dg Dh [(I r.1), (Sl az1 r.2 cz2)] Di Dj, Ch.own 0 0 (Sl az1 r.2 cz2) r.2]) := by
 refine cal2 (n := 26) Tryz.func37 rfl rfl rfl rfl ?_
 intro S0 σ0 n0 hn0 H
 unfold M.impl_nearestHits_offer at h
 refine c_seq (rg (st_ex (ex_box (cs := [(I Db.1), (I Db.2)]) H hn0 rfl rfl) wn ?_))
 rintro _ σ2 ⟨b1, rfl, H, -⟩
 refine w_end (q_then (c_seq ?_))
 refine rgP (σ := σ2) 6 (by kernel_rfl) (by kernel_rfl) (by kernel_rfl) ?_
 refine sq (v := (pt Dg Dh)) (rv_move rfl) (sq (v := (pt Dg Dh)) (rv_nilCheck rfl) (sq (v := (pt Dg (Dh + 1))) (rv_fieldAddr (off := 1) (ft := 34) Tryz.underlying36 rfl ti34 rfl rfl) (sq (v := (.iface 91 (pt Dg (Dh + 1)))) (rv_makeInterface Tryz.underlying91 rfl rfl) ?_)))
 have hc3 := H.cells 0 rfl
 refine sq (v := (.agg #[(I Db.1), (I Db.2)])) (rv_load (cs := [(I Db.1), (I Db.2)]) Tryz.underlying43 rfl ti43 rfl rfl hc3) (sq (v := (.iface 43 (.agg #[(I Db.1), (I Db.2)]))) (rv_makeInterface Tryz.underlying43 rfl rfl) (sq_end ?_))
 intro σ4 hm5
 replace H := H.grow (hm5.mono fun _ h => h); clear hm5
 replace H := Hp.focus (c1 := [(I Ax.1)]) (c2 := [(Sl Dc Ax.2 Dd)]) (c3 := []) (o' := (Dh + 1)) H 1 rfl rfl
 revert h; refine br fun r6 hx7 h => ?_
 have hc8 := c_container_heap_Push__impl_hitHeap__impl_Hit (Cm := De) (Cn := Dg) (Cp := (Dh + 1)) (Cq := (Di ++ [(I Ax.1)])) (Cr := ([] ++ Dj)) (Ck := Dc) (Cl := Dd) hx7
 refine st_call (cx_call hc8 (ent_f hc8.fn rfl) hn0 (H.sel' [0, 2, 1] rfl rfl : Hp S0 σ0 _ ([_, _] ++ _))) wn ?_
 rintro _ σ11 ⟨_, ⟨a9, c10, rfl, rfl⟩, H, -⟩
 replace H : Hp _ _ _ [_, _, _] := H
 replace H : Hp S0 σ0 σ11 [Ch.bx De Dg Dh [(I Ax.1), (Sl a9 r6 c10)] Di Dj, Ch.own 0 0 (Sl a9 r6 c10) r6, Ch.bx n0 b1 0 [(I Db.1), (I Db.2)] [] []] := Hp.unfocus (o := Dh) (c1 := [(I Ax.1)]) (c2 := [(Sl a9 r6 c10)]) (c3 := []) (pre := Di) (suf := Dj) H 0 rfl rfl
 refine w_end (q_then (c_seq ?_))
 refine rgP (σ := σ11) 9 (by kernel_rfl) (by kernel_rfl) (by kernel_rfl) ?_
 refine sq (v := (pt Dg Dh)) (rv_move rfl) (sq (v := (pt Dg Dh)) (rv_nilCheck rfl) (sq (v := (pt Dg (Dh + 1))) (rv_fieldAddr (off := 1) (ft := 34) Tryz.underlying36 rfl ti34 rfl rfl) ?_))
 have hc12 := H.cell (u := (Sl a9 r6 c10)) (o' := (Dh + 1)) 0 1 rfl rfl rfl
 refine sq (v := (Sl a9 r6 c10)) (rv_load1 Tryz.underlying34 rfl rfl hc12) (sq (v := (I (r6.length : Int))) (rv_len Tryz.underlying34 rfl) (sq (v := (pt Dg Dh)) (rv_move rfl) (sq (v := (pt Dg Dh)) (rv_nilCheck rfl) (sq (v := (pt Dg Dh)) (rv_fieldAddr (off := 0) (ft := 3) Tryz.underlying36 rfl ti3 rfl rfl) ?_))))
 have hc13 := H.cell (u := (I Ax.1)) (o' := Dh) 0 0 rfl rfl rfl
 refine sq (v := (I Ax.1)) (rv_load1 Tryz.underlying3 rfl rfl hc13) (sq_end ?_)
 intro σ14 hm15
 replace H := H.grow (hm15.mono fun _ h => h); clear hm15
 refine st (v := (B (decide (Ax.1 < (r6.length : Int))))) (rv_gtr (a := (r6.length : Int)) (b := Ax.1) rfl rfl) (w_end (q_then ?_))
 refine cd_cond (decide (Ax.1 < (r6.length : Int))) rfl (fun hb16 => ?_) (fun hb16 => ?_)
 ·replace h := bif_t hb16 h
  refine rg (sm (pt Dg Dh) rfl (st (v := (pt Dg Dh)) (rv_nilCheck rfl) (st (v := (pt Dg (Dh + 1))) (rv_fieldAddr (off := 1) (ft := 34) Tryz.underlying36 rfl ti34 rfl rfl) (st (v := (.iface 91 (pt Dg (Dh + 1)))) (rv_makeInterface Tryz.underlying91 rfl rfl) ?_))))
  replace H := Hp.focus (c1 := [(I Ax.1)]) (c2 := [(Sl a9 r6 c10)]) (c3 := []) (o' := (Dh + 1)) H 0 rfl rfl
  revert h; refine br fun r17 hx18 h => ?_
  have hc19 := c_container_heap_Pop__impl_hitHeap (Cm := De) (Cn := Dg) (Cp := (Dh + 1)) (Cq := (Di ++ [(I Ax.1)])) (Cr := ([] ++ Dj)) (Ck := a9) (Cl := c10) hx18
  refine st_call (cx_call hc19 (ent_f hc19.fn rfl) hn0 (H.sel' [0, 1, 2] rfl rfl : Hp S0 σ0 _ ([_, _] ++ _))) wn ?_
  rintro _ σ22 ⟨_, ⟨a20, c21, rfl, rfl⟩, H, -⟩
  replace H : Hp _ _ _ [_, _, _] := H
  replace H : Hp S0 σ0 σ22 [Ch.bx De Dg Dh [(I Ax.1), (Sl a20 r17.2 c21)] Di Dj, Ch.own 0 0 (Sl a20 r17.2 c21) r17.2, Ch.bx n0 b1 0 [(I Db.1), (I Db.2)] [] []] := Hp.unfocus (o := Dh) (c1 := [(I Ax.1)]) (c2 := [(Sl a20 r17.2 c21)]) (c3 := []) (pre := Di) (suf := Dj) H 0 rfl rfl
  refine w_end ?_
  obtain rfl := sj h
  exact fin_end (v := (.tuple #[])) (results_ok Tryz.results37 res_nil rfl) ⟨a20, c21, rfl, rfl⟩ (H.sel' [0, 1] rfl rfl)
 ·replace h := bif_f hb16 h
  refine c_skip ?_
  obtain rfl := sj h
  exact fin_end (v := (.tuple #[])) (results_ok Tryz.results37 res_nil rfl) ⟨a9, c10, rfl, rfl⟩ (H.sel' [0, 1] rfl rfl)

theorem c_impl_branch_turns {Dk : Tr (Int × (List Int) × Int)} {Dm : Int} {Dn : Option Addr} {r : ((Tr (Int × (List Int) × Int)) × Int) × ((Tr (Int × (List Int) × Int)) × Int)} (h : M.impl_branch_turns Dk Dm = some r) :
    Cal2 Tryz.prog 38 [(.pointer Dn), (I Dm)] [Ch.pr 0 (.pointer Dn) Dk] (fun n0 v L => ∃ (az1 : Option Addr), ∃ (az2 : Option Addr), v = (.tuple #[(.agg #[(.pointer az1), (I r.1.2)]), (.agg #[(.pointer az2), (I r.2.2)])]) ∧ L = [Ch.pr 0 (.pointer az1) r.1.1, Ch.pr 0 (.pointer az2) r.2.1]) := by
 refine cal2 (n := 44) Tryz.func38 rfl rfl rfl rfl ?_
 intro S0 σ0 n0 hn0 H
 unfold M.impl_branch_turns at h
 refine c_seq (rg (st_ex (ex_alloc (cs := [(.pointer none), (I 0)]) H hn0 ti63 rfl) wn ?_))
 rintro _ σ2 ⟨b1, rfl, H, -⟩
 refine st_ex (ex_alloc (cs := [(.pointer none), (I 0)]) H hn0 ti63 rfl) wn ?_
 rintro _ σ4 ⟨b3, rfl, H, -⟩
 refine w_end (q_then (c_seq (c_seq (rg (sm (I Dm) rfl (sm (.pointer Dn) rfl ?_))))))
 revert h; refine br fun x5 hx6 h => ?_
 obtain ⟨b8, o9, hi7⟩ := (H.pr 2 rfl).ex hx6
 refine st (v := (pt b8 o9)) (rv_nilCheckT hi7 rfl) (st (v := (pt b8 (o9 + 3))) (rv_fieldAddr (off := 3) (ft := 3) Tryz.underlying68 rfl ti3 rfl rfl) ?_)
 have hc10 := ((H.pr 2 rfl).at hx6 hi7).snd.fst.int
 refine st (v := (I x5.2.1)) (rv_load1 Tryz.underlying3 rfl rfl hc10) (st (v := (B (decide (Dm ≤ x5.2.1)))) (rv_leq (a := Dm) (b := x5.2.1) rfl rfl) (w_end (q_then ?_)))
 refine cd_cond (decide (Dm ≤ x5.2.1)) rfl (fun hb11 => ?_) (fun hb11 => ?_)
 ·replace h := bif_t hb11 h
  refine c_seq ?_
  revert h; refine br fun x12 hx13 h => ?_
  obtain ⟨b15, o16, hi14⟩ := (H.pr 2 rfl).ex hx13
  obtain ⟨v20, hc19, hR18⟩ := ((H.pr 2 rfl).at hx13 hi14).snd.snd.fst.tree
  obtain ⟨a17, rfl⟩ := hR18.isPtr
  replace H := H.add (d := Ch.pr 0 (.pointer a17) x12.2.2.1) hR18 (fun _ h => h)
  clear hR18
  revert h; refine br fun x21 hx22 h => ?_
  obtain ⟨b24, o25, hi23⟩ := (H.pr 3 rfl).ex hx22
  obtain ⟨v29, hc28, hR27⟩ := ((H.pr 3 rfl).at hx22 hi23).snd.snd.snd.tree
  obtain ⟨a26, rfl⟩ := hR27.isPtr
  replace H := H.add (d := Ch.pr 0 (.pointer a26) x21.2.2.2) hR27 (fun _ h => h)
  clear hR27
  revert h; refine br fun x30 hx31 h => ?_
  obtain ⟨b33, o34, hi32⟩ := (H.pr 4 rfl).ex hx31
  have hc35 := ((H.pr 4 rfl).at hx31 hi32).snd.fst.int
  have Hs := H
  refine rg2 (σ := σ4) (Nm := Unit) 17 [16] [[false], [true]] [[(0, 0)], [(0, 0)], [(0, 0)], [(0, 0)], [(0, 0)], [(0, 0), (1, 1)], [(0, 0), (1, 1)], [(0, 0), (1, 1)], [(0, 0), (1, 1)], [(0, 0), (1, 1)], [(0, 0), (1, 1)], [(0, 0), (1, 1)], [(0, 0), (1, 1)], [(0, 0), (1, 1)], [(0, 0), (1, 1)], [(0, 0), (1, 1)], [(0, 1)]] 1 [fun _ => fun σm => Hp S0 σ0 σm [Ch.pr 0 (.pointer a26) x21.2.2.2, Ch.pr 0 (.pointer a17) x12.2.2.1, Ch.bx n0 b3 0 [(.pointer none), (I 0)] [] [], Ch.bx n0 b1 0 [(.pointer none), (I 0)] [] [], Ch.pr 0 (.pointer Dn) Dk] ∧ Md (cov []) σ4 σm, fun _ => fun σm => Hp S0 σ0 σm [Ch.bx n0 b1 0 [(.pointer a17), (I 0)] [] [], Ch.pr 0 (.pointer a26) x21.2.2.2, Ch.pr 0 (.pointer a17) x12.2.2.1, Ch.bx n0 b3 0 [(.pointer none), (I 0)] [] [], Ch.pr 0 (.pointer Dn) Dk] ∧ Md (fun i => (cov []) i ∨ (fun i => i = b1) i) σ4 σm] [fun _ => (.pointer Dn), fun _ => (pt b15 o16), fun _ => (pt b15 (o16 + 4)), fun _ => (.pointer a17), fun _ => (.agg #[(.pointer a17), (I 0)]), fun _ => (.pointer Dn), fun _ => (pt b24 o25), fun _ => (pt b24 (o25 + 5)), fun _ => (.pointer a26), fun _ => (.pointer Dn), fun _ => (pt b33 o34), fun _ => (pt b33 (o34 + 3)), fun _ => (I x30.2.1), fun _ => (I Dm), fun _ => (I (w64 (x30.2.1 - Dm))), fun _ => (.agg #[(.pointer a26), (I (w64 (x30.2.1 - Dm)))]), fun _ => undef] () (by kernel_rfl) (by kernel_rfl) ?_ ?_ ?_
  ·intro σm m0
   exact ⟨H.grow (m0.mono fun _ h => h.elim), m0⟩
  ·refine ac rfl (by
     intro k _nm ρ σm hJ hoff hdep
     have e0 := look_off (N := 44) (hoff 0 rfl) rfl
     exact dp_v (v := (.pointer Dn)) wn (rv_move e0) rfl hJ) ?_
   refine ac rfl (by
     intro k _nm ρ σm hJ hoff hdep
     have e12 := hdep 0 rfl rfl 12 rfl
     exact dp_v (v := (pt b15 o16)) wn (rv_nilCheckT hi14 e12) rfl hJ) ?_
   refine ac rfl (by
     intro k _nm ρ σm hJ hoff hdep
     have e13 := hdep 1 rfl rfl 13 rfl
     exact dp_v (v := (pt b15 (o16 + 4))) wn (rv_fieldAddr (off := 4) (ft := 39) Tryz.underlying68 rfl ti39 rfl e13) rfl hJ) ?_
   refine all_cons (by
     refine ⟨?_, ?_⟩
     ·intro _nm ρ σm hJ hoff hdep
      have e14 := hdep 2 rfl rfl 14 rfl
      obtain ⟨H, m⟩ := id hJ
      replace hc19 := (Hs.pr 4 rfl).hmd hx13 hi14 (k := 4) (by decide) hc19 m
      exact dp_v (v := (.pointer a17)) wn (rv_load1 Tryz.underlying39 rfl e14 hc19) rfl hJ
     trivial) ?_
   refine ac rfl (by
     intro k _nm ρ σm hJ hoff hdep
     have e15 : look 44 ρ 15 = (.pointer a17) := hdep 3 rfl rfl 15 rfl
     exact dp_v (v := (.agg #[(.pointer a17), (I 0)])) wn (rv_build (ps := [(0, (.pointer a17))]) Tryz.underlying63 ti63 (bp63 Tryz.underlying63) (by show [(0, look 44 ρ 15)] = _; rw [e15]) (by kernel_rfl)) rfl hJ) ?_
   refine ac rfl (by
     intro k _nm ρ σm hJ hoff hdep
     have e0 := look_off (N := 44) (hoff 0 rfl) rfl
     exact dp_v (v := (.pointer Dn)) wn (rv_move e0) rfl hJ) ?_
   refine ac rfl (by
     intro k _nm ρ σm hJ hoff hdep
     have e17 := hdep 5 rfl rfl 17 rfl
     exact dp_v (v := (pt b24 o25)) wn (rv_nilCheckT hi23 e17) rfl hJ) ?_
   refine ac rfl (by
     intro k _nm ρ σm hJ hoff hdep
     have e18 := hdep 6 rfl rfl 18 rfl
     exact dp_v (v := (pt b24 (o25 + 5))) wn (rv_fieldAddr (off := 5) (ft := 39) Tryz.underlying68 rfl ti39 rfl e18) rfl hJ) ?_
   refine all_cons (by
     refine ⟨?_, ?_⟩
     ·intro _nm ρ σm hJ hoff hdep
      have e19 := hdep 7 rfl rfl 19 rfl
      obtain ⟨H, m⟩ := id hJ
      replace hc28 := (Hs.pr 4 rfl).hmd hx22 hi23 (k := 5) (by decide) hc28 m
      exact dp_v (v := (.pointer a26)) wn (rv_load1 Tryz.underlying39 rfl e19 hc28) rfl hJ
     refine ⟨?_, ?_⟩
     ·intro _nm ρ σm hJ hoff hdep
      have e19 := hdep 7 rfl rfl 19 rfl
      obtain ⟨H, m⟩ := id hJ
      replace hc28 := (Hs.pr 4 rfl).hmd hx22 hi23 (k := 5) (by decide) hc28 m
      exact dp_v (v := (.pointer a26)) wn (rv_load1 Tryz.underlying39 rfl e19 hc28) rfl hJ
     trivial) ?_
   refine ac rfl (by
     intro k _nm ρ σm hJ hoff hdep
     have e0 := look_off (N := 44) (hoff 0 rfl) rfl
     exact dp_v (v := (.pointer Dn)) wn (rv_move e0) rfl hJ) ?_
   refine ac rfl (by
     intro k _nm ρ σm hJ hoff hdep
     have e21 := hdep 9 rfl rfl 21 rfl
     exact dp_v (v := (pt b33 o34)) wn (rv_nilCheckT hi32 e21) rfl hJ) ?_
   refine ac rfl (by
     intro k _nm ρ σm hJ hoff hdep
     have e22 := hdep 10 rfl rfl 22 rfl
     exact dp_v (v := (pt b33 (o34 + 3))) wn (rv_fieldAddr (off := 3) (ft := 3) Tryz.underlying68 rfl ti3 rfl e22) rfl hJ) ?_
   refine all_cons (by
     refine ⟨?_, ?_⟩
     ·intro _nm ρ σm hJ hoff hdep
      have e23 := hdep 11 rfl rfl 23 rfl
      obtain ⟨H, m⟩ := id hJ
      replace hc35 := (Hs.pr 4 rfl).hmd hx31 hi32 (k := 3) (by decide) hc35 m
      exact dp_v (v := (I x30.2.1)) wn (rv_load1 Tryz.underlying3 rfl e23 hc35) rfl hJ
     refine ⟨?_, ?_⟩
     ·intro _nm ρ σm hJ hoff hdep
      have e23 := hdep 11 rfl rfl 23 rfl
      obtain ⟨H, m⟩ := id hJ
      replace hc35 := (Hs.pr 4 rfl).hmd hx31 hi32 (k := 3) (by decide) hc35 m
      exact dp_v (v := (I x30.2.1)) wn (rv_load1 Tryz.underlying3 rfl e23 hc35) rfl hJ
     trivial) ?_
   refine ac rfl (by
     intro k _nm ρ σm hJ hoff hdep
     have e1 := look_off (N := 44) (hoff 1 rfl) rfl
     exact dp_v (v := (I Dm)) wn (rv_move e1) rfl hJ) ?_
   refine ac rfl (by
     intro k _nm ρ σm hJ hoff hdep
     have e24 := hdep 12 rfl rfl 24 rfl
     have e25 := hdep 13 rfl rfl 25 rfl
     exact dp_v (v := (I (w64 (x30.2.1 - Dm)))) wn (rv_sub (a := x30.2.1) (b := Dm) e24 e25) rfl hJ) ?_
   refine ac rfl (by
     intro k _nm ρ σm hJ hoff hdep
     have e20 : look 44 ρ 20 = (.pointer a26) := hdep 8 rfl rfl 20 rfl
     have e26 : look 44 ρ 26 = (I (w64 (x30.2.1 - Dm))) := hdep 14 rfl rfl 26 rfl
     exact dp_v (v := (.agg #[(.pointer a26), (I (w64 (x30.2.1 - Dm)))])) wn (rv_build (ps := [(0, (.pointer a26)), (1, (I (w64 (x30.2.1 - Dm))))]) Tryz.underlying63 ti63 (bp63 Tryz.underlying63) (by show [(0, look 44 ρ 20), (1, look 44 ρ 26)] = _; rw [e20, e26]) (by kernel_rfl)) rfl hJ) ?_
   refine all_cons (by
     refine ⟨?_, ?_⟩
     ·intro _nm ρ σm hJ hoff hdep
      have e4 := look_off (N := 44) (hoff 4 rfl) rfl
      have e16 := hdep 4 rfl rfl 16 rfl
      obtain ⟨H, m⟩ := id hJ
      refine dp_exS wn rfl (ex_store_box (k := 0) (cs := [(.pointer none), (I 0)]) (vs := [(.pointer a17), (I 0)]) (cs' := [(.pointer a17), (I 0)]) H (i := 3) rfl ti63 e4 rfl e16 rfl rfl (Nat.le_of_ble_eq_true rfl) (by simp [plain]) rfl) ?_
      rintro σq ⟨H2, m2⟩
      exact ⟨_, (), rfl, ⟨H2.sel' [0, 1, 2, 3, 4] rfl rfl, m.comp m2⟩, stab [0, 1, 2, 3, 4, 5, 6, 7, 8, 9, 10, 11, 12, 13, 14, 15] (by kernel_rfl) ⟨rfl, rfl, rfl, rfl, rfl, rfl, rfl, rfl, rfl, rfl, rfl, rfl, rfl, rfl, rfl, rfl, trivial⟩⟩
     trivial) ?_
   exact all_nil
  ·intro _nm ρ σ36 hJ hoff hrel
   have e4 := look_off (N := 44) (hoff 4 rfl) rfl
   have e5 := look_off (N := 44) (hoff 5 rfl) rfl
   have e27 := hrel 15 rfl 27 rfl
   obtain ⟨H, -⟩ := (show Hp S0 σ0 σ36 [Ch.bx n0 b1 0 [(.pointer a17), (I 0)] [] [], Ch.pr 0 (.pointer a26) x21.2.2.2, Ch.pr 0 (.pointer a17) x12.2.2.1, Ch.bx n0 b3 0 [(.pointer none), (I 0)] [] [], Ch.pr 0 (.pointer Dn) Dk] ∧ Md (fun i => (cov []) i ∨ (fun i => i = b1) i) σ4 σ36 from hJ)
   clear hJ Hs
   rw [fr_lookL (L := [(4, (pt b1 0)), (5, (pt b3 0)), (27, (.agg #[(.pointer a26), (I (w64 (x30.2.1 - Dm)))]))]) ⟨e4, e5, e27, trivial⟩]
   clear hoff hrel e4 e5 e27
   refine st_exS (ex_store_box (k := 0) (cs := [(.pointer none), (I 0)]) (vs := [(.pointer a26), (I (w64 (x30.2.1 - Dm)))]) (cs' := [(.pointer a26), (I (w64 (x30.2.1 - Dm)))]) H (i := 3) rfl ti63 rfl rfl rfl rfl rfl (Nat.le_of_ble_eq_true rfl) (by simp [plain]) rfl) wn ?_
   rintro σ37 ⟨H, -⟩
   refine w_end (q_then (c_ret (q_then_r ?_)))
   obtain rfl := sj h
   exact fin_ret (v := (.tuple #[(.agg #[(.pointer a17), (I 0)]), (.agg #[(.pointer a26), (I (w64 (x30.2.1 - Dm)))])])) (results_ok Tryz.results38 (res_cell rfl (run_cellRes (cs := [(.pointer a17), (I 0)]) Tryz.underlying63 rfl ti63 rfl (H.cells 1 rfl)) (res_cell rfl (run_cellRes (cs := [(.pointer a26), (I (w64 (x30.2.1 - Dm)))]) Tryz.underlying63 rfl ti63 rfl (H.cells 0 rfl)) res_nil)) rfl) ⟨a17, a26, rfl, rfl⟩ (H.sel' [3, 2] rfl rfl)
 ·replace h := bif_f hb11 h
  refine c_skip (q_then (c_seq ?_))
  revert h; refine br fun x38 hx39 h => ?_
  obtain ⟨b41, o42, hi40⟩ := (H.pr 2 rfl).ex hx39
  obtain ⟨v46, hc45, hR44⟩ := ((H.pr 2 rfl).at hx39 hi40).snd.snd.snd.tree
  obtain ⟨a43, rfl⟩ := hR44.isPtr
  replace H := H.add (d := Ch.pr 0 (.pointer a43) x38.2.2.2) hR44 (fun _ h => h)
  clear hR44
  revert h; refine br fun x47 hx48 h => ?_
  obtain ⟨b50, o51, hi49⟩ := (H.pr 3 rfl).ex hx48
  obtain ⟨v55, hc54, hR53⟩ := ((H.pr 3 rfl).at hx48 hi49).snd.snd.fst.tree
  obtain ⟨a52, rfl⟩ := hR53.isPtr
  replace H := H.add (d := Ch.pr 0 (.pointer a52) x47.2.2.1) hR53 (fun _ h => h)
  clear hR53
  revert h; refine br fun x56 hx57 h => ?_
  obtain ⟨b59, o60, hi58⟩ := (H.pr 4 rfl).ex hx57
  have hc61 := ((H.pr 4 rfl).at hx57 hi58).snd.fst.int
  have Hs := H
  refine rg2 (σ := σ4) (Nm := Unit) 17 [16] [[false], [true]] [[(0, 0)], [(0, 0)], [(0, 0)], [(0, 0)], [(0, 0)], [(0, 0), (1, 1)], [(0, 0), (1, 1)], [(0, 0), (1, 1)], [(0, 0), (1, 1)], [(0, 0), (1, 1)], [(0, 0), (1, 1)], [(0, 0), (1, 1)], [(0, 0), (1, 1)], [(0, 0), (1, 1)], [(0, 0), (1, 1)], [(0, 0), (1, 1)], [(0, 1)]] 1 [fun _ => fun σm => Hp S0 σ0 σm [Ch.pr 0 (.pointer a52) x47.2.2.1, Ch.pr 0 (.pointer a43) x38.2.2.2, Ch.bx n0 b3 0 [(.pointer none), (I 0)] [] [], Ch.bx n0 b1 0 [(.pointer none), (I 0)] [] [], Ch.pr 0 (.pointer Dn) Dk] ∧ Md (cov []) σ4 σm, fun _ => fun σm => Hp S0 σ0 σm [Ch.bx n0 b1 0 [(.pointer a43), (I 0)] [] [], Ch.pr 0 (.pointer a52) x47.2.2.1, Ch.pr 0 (.pointer a43) x38.2.2.2, Ch.bx n0 b3 0 [(.pointer none), (I 0)] [] [], Ch.pr 0 (.pointer Dn) Dk] ∧ Md (fun i => (cov []) i ∨ (fun i => i = b1) i) σ4 σm] [fun _ => (.pointer Dn), fun _ => (pt b41 o42), fun _ => (pt b41 (o42 + 5)), fun _ => (.pointer a43), fun _ => (.agg #[(.pointer a43), (I 0)]), fun _ => (.pointer Dn), fun _ => (pt b50 o51), fun _ => (pt b50 (o51 + 4)), fun _ => (.pointer a52), fun _ => (I Dm), fun _ => (.pointer Dn), fun _ => (pt b59 o60), fun _ => (pt b59 (o60 + 3)), fun _ => (I x56.2.1), fun _ => (I (w64 (Dm - x56.2.1))), fun _ => (.agg #[(.pointer a52), (I (w64 (Dm - x56.2.1)))]), fun _ => undef] () (by kernel_rfl) (by kernel_rfl) ?_ ?_ ?_
  ·intro σm m0
   exact ⟨H.grow (m0.mono fun _ h => h.elim), m0⟩
  ·refine ac rfl (by
     intro k _nm ρ σm hJ hoff hdep
     have e0 := look_off (N := 44) (hoff 0 rfl) rfl
     exact dp_v (v := (.pointer Dn)) wn (rv_move e0) rfl hJ) ?_
   refine ac rfl (by
     intro k _nm ρ σm hJ hoff hdep
     have e28 := hdep 0 rfl rfl 28 rfl
     exact dp_v (v := (pt b41 o42)) wn (rv_nilCheckT hi40 e28) rfl hJ) ?_
   refine ac rfl (by
     intro k _nm ρ σm hJ hoff hdep
     have e29 := hdep 1 rfl rfl 29 rfl
     exact dp_v (v := (pt b41 (o42 + 5))) wn (rv_fieldAddr (off := 5) (ft := 39) Tryz.underlying68 rfl ti39 rfl e29) rfl hJ) ?_
   refine all_cons (by
     refine ⟨?_, ?_⟩
     ·intro _nm ρ σm hJ hoff hdep
      have e30 := hdep 2 rfl rfl 30 rfl
      obtain ⟨H, m⟩ := id hJ
      replace hc45 := (Hs.pr 4 rfl).hmd hx39 hi40 (k := 5) (by decide) hc45 m
      exact dp_v (v := (.pointer a43)) wn (rv_load1 Tryz.underlying39 rfl e30 hc45) rfl hJ
     trivial) ?_
   refine ac rfl (by
     intro k _nm ρ σm hJ hoff hdep
     have e31 : look 44 ρ 31 = (.pointer a43) := hdep 3 rfl rfl 31 rfl
     exact dp_v (v := (.agg #[(.pointer a43), (I 0)])) wn (rv_build (ps := [(0, (.pointer a43))]) Tryz.underlying63 ti63 (bp63 Tryz.underlying63) (by show [(0, look 44 ρ 31)] = _; rw [e31]) (by kernel_rfl)) rfl hJ) ?_
   refine ac rfl (by
     intro k _nm ρ σm hJ hoff hdep
     have e0 := look_off (N := 44) (hoff 0 rfl) rfl
     exact dp_v (v := (.pointer Dn)) wn (rv_move e0) rfl hJ) ?_
   refine ac rfl (by
     intro k _nm ρ σm hJ hoff hdep
     have e33 := hdep 5 rfl rfl 33 rfl
     exact dp_v (v := (pt b50 o51)) wn (rv_nilCheckT hi49 e33) rfl hJ) ?_
   refine ac rfl (by
     intro k _nm ρ σm hJ hoff hdep
     have e34 := hdep 6 rfl rfl 34 rfl
     exact dp_v (v := (pt b50 (o51 + 4))) wn (rv_fieldAddr (off := 4) (ft := 39) Tryz.underlying68 rfl ti39 rfl e34) rfl hJ) ?_
   refine all_cons (by
     refine ⟨?_, ?_⟩
     ·intro _nm ρ σm hJ hoff hdep
      have e35 := hdep 7 rfl rfl 35 rfl
      obtain ⟨H, m⟩ := id hJ
      replace hc54 := (Hs.pr 4 rfl).hmd hx48 hi49 (k := 4) (by decide) hc54 m
      exact dp_v (v := (.pointer a52)) wn (rv_load1 Tryz.underlying39 rfl e35 hc54) rfl hJ
     refine ⟨?_, ?_⟩
     ·intro _nm ρ σm hJ hoff hdep
      have e35 := hdep 7 rfl rfl 35 rfl
      obtain ⟨H, m⟩ := id hJ
      replace hc54 := (Hs.pr 4 rfl).hmd hx48 hi49 (k := 4) (by decide) hc54 m
      exact dp_v (v := (.pointer a52)) wn (rv_load1 Tryz.underlying39 rfl e35 hc54) rfl hJ
     trivial) ?_
   refine ac rfl (by
     intro k _nm ρ σm hJ hoff hdep
     have e1 := look_off (N := 44) (hoff 1 rfl) rfl
     exact dp_v (v := (I Dm)) wn (rv_move e1) rfl hJ) ?_
   refine ac rfl (by
     intro k _nm ρ σm hJ hoff hdep
     have e0 := look_off (N := 44) (hoff 0 rfl) rfl
     exact dp_v (v := (.pointer Dn)) wn (rv_move e0) rfl hJ) ?_
   refine ac rfl (by
     intro k _nm ρ σm hJ hoff hdep
     have e38 := hdep 10 rfl rfl 38 rfl
     exact dp_v (v := (pt b59 o60)) wn (rv_nilCheckT hi58 e38) rfl hJ) ?_
   refine ac rfl (by
     intro k _nm ρ σm hJ hoff hdep
     have e39 := hdep 11 rfl rfl 39 rfl
     exact dp_v (v := (pt b59 (o60 + 3))) wn (rv_fieldAddr (off := 3) (ft := 3) Tryz.underlying68 rfl ti3 rfl e39) rfl hJ) ?_
   refine all_cons (by
     refine ⟨?_, ?_⟩
     ·intro _nm ρ σm hJ hoff hdep
      have e40 := hdep 12 rfl rfl 40 rfl
      obtain ⟨H, m⟩ := id hJ
      replace hc61 := (Hs.pr 4 rfl).hmd hx57 hi58 (k := 3) (by decide) hc61 m
      exact dp_v (v := (I x56.2.1)) wn (rv_load1 Tryz.underlying3 rfl e40 hc61) rfl hJ
     refine ⟨?_, ?_⟩
     ·intro _nm ρ σm hJ hoff hdep
      have e40 := hdep 12 rfl rfl 40 rfl
      obtain ⟨H, m⟩ := id hJ
      replace hc61 := (Hs.pr 4 rfl).hmd hx57 hi58 (k := 3) (by decide) hc61 m
      exact dp_v (v := (I x56.2.1)) wn (rv_load1 Tryz.underlying3 rfl e40 hc61) rfl hJ
     trivial) ?_
   refine ac rfl (by
     intro k _nm ρ σm hJ hoff hdep
     have e37 := hdep 9 rfl rfl 37 rfl
     have e41 := hdep 13 rfl rfl 41 rfl
     exact dp_v (v := (I (w64 (Dm - x56.2.1)))) wn (rv_sub (a := Dm) (b := x56.2.1) e37 e41) rfl hJ) ?_
   refine ac rfl (by
     intro k _nm ρ σm hJ hoff hdep
     have e36 : look 44 ρ 36 = (.pointer a52) := hdep 8 rfl rfl 36 rfl
     have e42 : look 44 ρ 42 = (I (w64 (Dm - x56.2.1))) := hdep 14 rfl rfl 42 rfl
     exact dp_v (v := (.agg #[(.pointer a52), (I (w64 (Dm - x56.2.1)))])) wn (rv_build (ps := [(0, (.pointer a52)), (1, (I (w64 (Dm - x56.2.1))))]) Tryz.underlying63 ti63 (bp63 Tryz.underlying63) (by show [(0, look 44 ρ 36), (1, look 44 ρ 42)] = _; rw [e36, e42]) (by kernel_rfl)) rfl hJ) ?_
   refine all_cons (by
     refine ⟨?_, ?_⟩
     ·intro _nm ρ σm hJ hoff hdep
      have e4 := look_off (N := 44) (hoff 4 rfl) rfl
      have e32 := hdep 4 rfl rfl 32 rfl
      obtain ⟨H, m⟩ := id hJ
      refine dp_exS wn rfl (ex_store_box (k := 0) (cs := [(.pointer none), (I 0)]) (vs := [(.pointer a43), (I 0)]) (cs' := [(.pointer a43), (I 0)]) H (i := 3) rfl ti63 e4 rfl e32 rfl rfl (Nat.le_of_ble_eq_true rfl) (by simp [plain]) rfl) ?_
      rintro σq ⟨H2, m2⟩
      exact ⟨_, (), rfl, ⟨H2.sel' [0, 1, 2, 3, 4] rfl rfl, m.comp m2⟩, stab [0, 1, 2, 3, 4, 5, 6, 7, 8, 9, 10, 11, 12, 13, 14, 15] (by kernel_rfl) ⟨rfl, rfl, rfl, rfl, rfl, rfl, rfl, rfl, rfl, rfl, rfl, rfl, rfl, rfl, rfl, rfl, trivial⟩⟩
     trivial) ?_
   exact all_nil
  ·intro _nm ρ σ62 hJ hoff hrel
   have e4 := look_off (N := 44) (hoff 4 rfl) rfl
   have e5 := look_off (N := 44) (hoff 5 rfl) rfl
   have e43 := hrel 15 rfl 43 rfl
   obtain ⟨H, -⟩ := (show Hp S0 σ0 σ62 [Ch.bx n0 b1 0 [(.pointer a43), (I 0)] [] [], Ch.pr 0 (.pointer a52) x47.2.2.1, Ch.pr 0 (.pointer a43) x38.2.2.2, Ch.bx n0 b3 0 [(.pointer none), (I 0)] [] [], Ch.pr 0 (.pointer Dn) Dk] ∧ Md (fun i => (cov []) i ∨ (fun i => i = b1) i) σ4 σ62 from hJ)
   clear hJ Hs
   rw [fr_lookL (L := [(4, (pt b1 0)), (5, (pt b3 0)), (43, (.agg #[(.pointer a52), (I (w64 (Dm - x56.2.1)))]))]) ⟨e4, e5, e43, trivial⟩]
   clear hoff hrel e4 e5 e43
   refine st_exS (ex_store_box (k := 0) (cs := [(.pointer none), (I 0)]) (vs := [(.pointer a52), (I (w64 (Dm - x56.2.1)))]) (cs' := [(.pointer a52), (I (w64 (Dm - x56.2.1)))]) H (i := 3) rfl ti63 rfl rfl rfl rfl rfl (Nat.le_of_ble_eq_true rfl) (by simp [plain]) rfl) wn ?_
   rintro σ63 ⟨H, -⟩
   refine w_end (q_then (c_ret ?_))
   obtain rfl := sj h
   exact fin_ret (v := (.tuple #[(.agg #[(.pointer a43), (I 0)]), (.agg #[(.pointer a52), (I (w64 (Dm - x56.2.1)))])])) (results_ok Tryz.results38 (res_cell rfl (run_cellRes (cs := [(.pointer a43), (I 0)]) Tryz.underlying63 rfl ti63 rfl (H.cells 1 rfl)) (res_cell rfl (run_cellRes (cs := [(.pointer a52), (I (w64 (Dm - x56.2.1)))]) Tryz.underlying63 rfl ti63 rfl (H.cells 0 rfl)) res_nil)) rfl) ⟨a43, a52, rfl, rfl⟩ (H.sel' [3, 2] rfl rfl)

theorem c_impl_nearestHits_reach {Ax : Int × (List (Int × Int))} {Dc : Option Addr} {Dd : Nat} {De Dg Dh : Nat} {Di Dj : List Value} {r : Int} (h : M.impl_nearestHits_reach Ax = some r) :
    Cal2 Tryz.prog 35 [(pt Dg Dh)] [Ch.bx De Dg Dh [(I Ax.1), (Sl Dc Ax.2 Dd)] Di Dj, Ch.own 0 0 (Sl Dc Ax.2 Dd) Ax.2] (fun n0 v L => v = (I r) ∧ L = [Ch.bx De Dg Dh [(I Ax.1), (Sl Dc Ax.2 Dd)] Di Dj, Ch.own 0 0 (Sl Dc Ax.2 Dd) Ax.2]) := by
 refine cal2 (n := 20) Tryz.func35 rfl rfl rfl rfl ?_
 intro S0 σ0 n0 hn0 H
 unfold M.impl_nearestHits_reach at h
 refine c_seq (rg (sa (I 0) rfl (w_end (q_then (c_seq (c_seq ?_))))))
 refine rgP (σ := σ0) 9 (by kernel_rfl) (by kernel_rfl) (by kernel_rfl) ?_
 refine sq (v := (pt Dg Dh)) (rv_move rfl) (sq (v := (pt Dg Dh)) (rv_nilCheck rfl) (sq (v := (pt Dg (Dh + 1))) (rv_fieldAddr (off := 1) (ft := 34) Tryz.underlying36 rfl ti34 rfl rfl) ?_))
 have hc1 := H.cell (u := (Sl Dc Ax.2 Dd)) (o' := (Dh + 1)) 0 1 rfl rfl rfl
 refine sq (v := (Sl Dc Ax.2 Dd)) (rv_load1 Tryz.underlying34 rfl rfl hc1) (sq (v := (I (Ax.2.length : Int))) (rv_len Tryz.underlying34 rfl) (sq (v := (pt Dg Dh)) (rv_move rfl) (sq (v := (pt Dg Dh)) (rv_nilCheck rfl) (sq (v := (pt Dg Dh)) (rv_fieldAddr (off := 0) (ft := 3) Tryz.underlying36 rfl ti3 rfl rfl) ?_))))
 have hc2 := H.cell (u := (I Ax.1)) (o' := Dh) 0 0 rfl rfl rfl
 refine sq (v := (I Ax.1)) (rv_load1 Tryz.underlying3 rfl rfl hc2) (sq_end ?_)
 intro σ3 hm4
 replace H := H.grow (hm4.mono fun _ h => h); clear hm4
 refine st (v := (B (decide ((Ax.2.length : Int) < Ax.1)))) (rv_lss (a := (Ax.2.length : Int)) (b := Ax.1) rfl rfl) (w_end (q_then ?_))
 refine cd_cond (decide ((Ax.2.length : Int) < Ax.1)) rfl (fun hb5 => ?_) (fun hb5 => ?_)
 ·replace h := bif_t hb5 h
  refine c_seq (rg (sa (I 1000000) rfl (w_end (q_then (c_ret (q_then_r ?_))))))
  obtain rfl := sj h
  exact fin_ret (v := (I 1000000)) (results_ok Tryz.results35 (res_tmp (v := (I 1000000)) rfl res_nil) rfl) ⟨rfl, rfl⟩ (H.sel' [0, 1] rfl rfl)
 ·replace h := bif_f hb5 h
  refine c_skip (q_then (c_seq (rg (sm (pt Dg Dh) rfl (st (v := (pt Dg Dh)) (rv_nilCheck rfl) (st (v := (pt Dg (Dh + 1))) (rv_fieldAddr (off := 1) (ft := 34) Tryz.underlying36 rfl ti34 rfl rfl) ?_))))))
  have hc6 := H.cell (u := (Sl Dc Ax.2 Dd)) (o' := (Dh + 1)) 0 1 rfl rfl rfl
  refine st (v := (Sl Dc Ax.2 Dd)) (rv_load1 Tryz.underlying34 rfl rfl hc6) ?_
  revert h; refine br fun x7 hx8 h => ?_
  obtain ⟨b10, o11, hi9, -⟩ := (H.own 1 rfl).ix hx8
  refine st (v := (pt b10 o11)) (rv_ix Tryz.underlying34 ti43 rfl rfl hi9) (st (v := (pt b10 (o11 + 1))) (rv_fieldAddr (off := 1) (ft := 3) Tryz.underlying43 rfl ti3 rfl rfl) ?_)
  have hc12 := ((H.own 1 rfl).at hx8 hi9).snd.int
  refine st (v := (I x7.2)) (rv_load1 Tryz.underlying3 rfl rfl hc12) (sa (I x7.2) rfl (w_end (q_then (c_ret ?_))))
  obtain rfl := sj h
  exact fin_ret (v := (I x7.2)) (results_ok Tryz.results35 (res_tmp (v := (I x7.2)) rfl res_nil) rfl) ⟨rfl, rfl⟩ (H.sel' [0, 1] rfl rfl)

theorem c_impl_searchTree {Do : Tr (Int × (List Int) × Int)} {Bq : Int} {Br : List Int} {Bs : Int} {Dq : Option Addr} {Bt : Option Addr} {Bu : Nat} {r : (Int × (List (Int × Int))) × Int} (h : M.impl_searchTree Do Bq Br Bs = some r) :
    Cal2 Tryz.prog 16 [(.pointer Dq), (I Bq), (Sl Bt Br Bu), (I Bs)] [Ch.pr 0 (.pointer Dq) Do, Ch.ro 0 (Sl Bt Br Bu) Br] (fun n0 v L => ∃ (az1 : Option Addr), ∃ (cz2 : Nat), v = (.tuple #[(.agg #[(I r.1.1), (Sl az1 r.1.2 cz2)]), (I r.2)]) ∧ L = [Ch.own 0 n0 (Sl az1 r.1.2 cz2) r.1.2]) := by
 refine cal2 (n := 72) Tryz.func16 rfl rfl rfl rfl ?_
 intro S0 σ0 n0 hn0 H
 unfold M.impl_searchTree at h
 refine c_seq (rg (st_ex (ex_alloc (cs := [(I 0), (.slice none 0 0)]) H hn0 ti36 rfl) wn ?_))
 rintro _ σ2 ⟨b1, rfl, H, -⟩
 refine sa (I 0) rfl (w_end (q_then (c_seq (rg (sm (I Bs) rfl ?_)))))
 refine st (v := (.agg #[(I Bs), (.slice none 0 0)])) (rv_build (ps := [(0, (I Bs))]) Tryz.underlying36 ti36 (bp36 Tryz.underlying36) rfl (by kernel_rfl)) ?_
 refine st_ex (ex_alloc (cs := [(I 0), (.slice none 0 0)]) H hn0 ti36 rfl) wn ?_
 rintro _ σ4 ⟨b3, rfl, H, -⟩
 refine st_exS (ex_store_box (k := 0) (cs := [(I 0), (.slice none 0 0)]) (vs := [(I Bs), (.slice none 0 0)]) (cs' := [(I Bs), (.slice none 0 0)]) H (i := 0) rfl ti36 rfl rfl rfl rfl rfl (Nat.le_of_ble_eq_true rfl) (by simp [plain]) rfl) wn ?_
 rintro σ5 ⟨H, -⟩
 refine sa (I 0) rfl (w_end (q_then (c_seq (rg (sm (.pointer Dq) rfl ?_)))))
 refine st (v := (.agg #[(.pointer Dq), (I 0)])) (rv_build (ps := [(0, (.pointer Dq))]) Tryz.underlying63 ti63 (bp63 Tryz.underlying63) rfl (by kernel_rfl)) ?_
 refine st_ex (ex_buildSlice (el := 0) (xs := ([(Do, 0)] : List ((Tr (Int × (List Int) × Int)) × Int))) (ps := [(0, (.agg #[(.pointer Dq), (I 0)]))]) (cs := [(.pointer Dq), (I 0)]) H hn0 Tryz.underlying64 ti63 rfl rfl (by kernel_rfl) (.cons (c := [(.pointer Dq), (I 0)]) ⟨[(.pointer Dq)], [(I 0)], rfl, ⟨_, rfl, (H.pr 2 rfl)⟩, rfl⟩ (.nil)) rfl) wn ?_
 rintro _ σ7 ⟨b6, rfl, H, -⟩
 refine sa (Sl (some ⟨b6, 0, none⟩) ([(Do, 0)] : List ((Tr (Int × (List Int) × Int)) × Int)) 1) rfl (w_end (q_then (c_seq ?_)))
 obtain ⟨o8, hj, h'⟩ := bind_some h
 clear h
 refine c_cut (fun e a w => e = .normal ∧ ∃ (ρ : Nat → Value) (σ : St) (aj1 : Option Addr) (cj2 : Nat), a = fr 72 (updL ρ [(8, (pt b1 0)), (10, (pt b3 0)), (11, (I o8.2))]) ∧ w = σ.w ∧ Hp S0 σ0 σ [Ch.bx n0 b3 0 [(I o8.1.1), (Sl aj1 o8.1.2 cj2)] [] [], Ch.own 0 0 (Sl aj1 o8.1.2 cj2) o8.1.2, Ch.bx n0 b1 0 [(I 0), (.slice none 0 0)] [] []]) ?_ ?_
 ·clear h'
  rename _ = some o8 => h
  refine c_blk ?_
  replace H := H.nilOwn (Int × Int) 0 0
  refine wp_loopM _ h (fun s9 a w => ∃ (ρ : Nat → Value) (σ : St) (aj1 : Option Addr) (cj2 : Nat) (aj3 : Option Addr) (cj4 : Nat), a = fr 72 (updL ρ [(1, (I Bq)), (2, (Sl Bt Br Bu)), (8, (pt b1 0)), (10, (pt b3 0)), (11, (I s9.2.1)), (12, (Sl aj3 s9.2.2 cj4))]) ∧ w = σ.w ∧ Hp S0 σ0 σ [Ch.bx n0 b3 0 [(I s9.1.1), (Sl aj1 s9.1.2 cj2)] [] [], Ch.own 0 0 (Sl aj1 s9.1.2 cj2) s9.1.2, Ch.ro 0 (Sl Bt Br Bu) Br, Ch.bx n0 b1 0 [(I 0), (.slice none 0 0)] [] [], Ch.own n0 0 (Sl aj3 s9.2.2 cj4) s9.2.2]) ⟨_, σ7, none, 0, (some ⟨b6, 0, none⟩), 1, fr_join ⟨rfl, rfl, rfl, rfl, rfl, rfl, trivial⟩, rfl, H.sel' [2, 0, 5, 3, 1] rfl rfl⟩ ?_
  clear h H
  rintro s9 a w o ⟨ρ, σ10, a11, c12, a13, c14, rfl, rfl, H⟩ h hres
  refine c_seq (c_seq (rg (sm (Sl a13 s9.2.2 c14) rfl (st (v := (I (s9.2.2.length : Int))) (rv_len Tryz.underlying64 rfl) (st (v := (B (decide (0 < (s9.2.2.length : Int))))) (rv_gtr (a := (s9.2.2.length : Int)) (b := 0) rfl rfl) (w_end (q_then ?_)))))))
  refine cd_cond (decide (0 < (s9.2.2.length : Int))) rfl (fun hb15 => ?_) (fun hb15 => ?_)
  ·replace h := bif_t hb15 h
   refine c_skip (q_then (c_blk (c_seq (rg (sm (Sl a13 s9.2.2 c14) rfl (sm (Sl a13 s9.2.2 c14) rfl (st (v := (I (s9.2.2.length : Int))) (rv_len Tryz.underlying64 rfl) (st (v := (I (w64 ((s9.2.2.length : Int) - 1)))) (rv_sub (a := (s9.2.2.length : Int)) (b := 1) rfl rfl) ?_))))))))
   revert h; refine br fun x16 hx17 h => ?_
   obtain ⟨b19, o20, hi18, -⟩ := (H.own 4 rfl).ix hx17
   refine st (v := (pt b19 o20)) (rv_ix Tryz.underlying64 ti63 rfl rfl hi18) ?_
   obtain ⟨_, ⟨_, _, rfl, ⟨_, rfl, hR24⟩, rfl⟩, hl21, hc22⟩ := ((H.own 4 rfl).at hx17 hi18).cells
   obtain ⟨a23, rfl⟩ := hR24.isPtr
   replace H := H.add (d := Ch.pr 0 (.pointer a23) x16.1) hR24 (fun _ h => h)
   clear hR24
   refine st (v := (.agg #[(.pointer a23), (I x16.2)])) (rv_load Tryz.underlying63 rfl ti63 rfl hl21 hc22) (st_ex (ex_alloc (cs := [(.pointer none), (I 0)]) H hn0 ti63 rfl) wn ?_)
   rintro _ σ26 ⟨b25, rfl, H, -⟩
   refine st_exS (ex_store_box (k := 0) (cs := [(.pointer none), (I 0)]) (vs := [(.pointer a23), (I x16.2)]) (cs' := [(.pointer a23), (I x16.2)]) H (i := 0) rfl ti63 rfl rfl rfl rfl rfl (Nat.le_of_ble_eq_true rfl) (by simp [plain]) rfl) wn ?_
   rintro σ27 ⟨H, -⟩
   refine w_end (q_then (c_seq (rg (sm (Sl a13 s9.2.2 c14) rfl (sm (Sl a13 s9.2.2 c14) rfl (st (v := (I (s9.2.2.length : Int))) (rv_len Tryz.underlying64 rfl) (st (v := (I (w64 ((s9.2.2.length : Int) - 1)))) (rv_sub (a := (s9.2.2.length : Int)) (b := 1) rfl rfl) ?_)))))))
   revert h; refine br fun xs28 hx29 h => ?_
   obtain ⟨a30, c31, hs32, hR33, hb34⟩ := (H.own 6 rfl).slice hx29
   replace H := (H.front (i := 6) rfl).turn (d := Ch.own n0 0 (Sl a30 xs28 c31) xs28) (fun _ => hR33) hb34; clear hR33 hb34
   refine st (v := (Sl a30 xs28 c31)) (rv_slice_h Tryz.underlying64 ti63 hs32 rfl rfl) (sa (Sl a30 xs28 c31) rfl (w_end (q_then (c_seq (c_seq ?_)))))
   obtain ⟨o35, hj, h'⟩ := bind_some h
   clear h
   refine c_cut (fun e a w => e = .normal ∧ ∃ (ρ : Nat → Value) (σ : St), a = fr 72 (updL ρ [(1, (I Bq)), (2, (Sl Bt Br Bu)), (8, (pt b1 0)), (10, (pt b3 0)), (11, (I s9.2.1)), (12, (Sl a30 xs28 c31)), (13, (pt b25 0)), (44, (B o35))]) ∧ w = σ.w ∧ Hp S0 σ0 σ [Ch.ro 0 (Sl Bt Br Bu) Br, Ch.bx n0 b1 0 [(I 0), (.slice none 0 0)] [] [], Ch.own 0 0 (Sl a11 s9.1.2 c12) s9.1.2, Ch.bx n0 b3 0 [(I s9.1.1), (Sl a11 s9.1.2 c12)] [] [], Ch.own n0 0 (Sl a30 xs28 c31) xs28, Ch.pr 0 (.pointer a23) x16.1, Ch.bx n0 b25 0 [(.pointer a23), (I x16.2)] [] []]) ?_ ?_
   ·clear h'
    rename _ = some o35 => h
    have hc36 := H.cell (u := (.pointer a23)) (o' := 0) 1 0 rfl rfl rfl
    rcases Bool.eq_false_or_eq_true x16.1.isNil with hb37 | hb37
    ·replace h := bif_t hb37 h
     have Hs := H
     refine rg2 (σ := σ27) (Nm := Unit) 7 [] [[]] [[(0, 0)], [(0, 0)], [(0, 0)], [(0, 0)], [(0, 0)], [(0, 0)], [(0, 0)]] 0 [fun _ => fun σm => Hp S0 σ0 σm [Ch.own n0 0 (Sl a30 xs28 c31) xs28, Ch.bx n0 b25 0 [(.pointer a23), (I x16.2)] [] [], Ch.pr 0 (.pointer a23) x16.1, Ch.bx n0 b3 0 [(I s9.1.1), (Sl a11 s9.1.2 c12)] [] [], Ch.own 0 0 (Sl a11 s9.1.2 c12) s9.1.2, Ch.ro 0 (Sl Bt Br Bu) Br, Ch.bx n0 b1 0 [(I 0), (.slice none 0 0)] [] []] ∧ Md (cov []) σ27 σm] [fun _ => (pt b25 0), fun _ => (.pointer a23), fun _ => (B x16.1.isNil), fun _ => (B x16.1.isNil), fun _ => undef, fun _ => undef, fun _ => undef] () (by kernel_rfl) (by kernel_rfl) ?_ ?_ ?_
     ·intro σm m0
      exact ⟨H.grow (m0.mono fun _ h => h.elim), m0⟩
     ·refine ac rfl (by
        intro k _nm ρ σm hJ hoff hdep
        have e13 := look_off (N := 72) (hoff 13 rfl) rfl
        exact dp_v (v := (pt b25 0)) wn (rv_fieldAddr (off := 0) (ft := 39) Tryz.underlying63 rfl ti39 rfl e13) rfl hJ) ?_
      refine all_cons (by
        refine ⟨?_, ?_⟩
        ·intro _nm ρ σm hJ hoff hdep
         have e36 := hdep 0 rfl rfl 36 rfl
         obtain ⟨H, m⟩ := id hJ
         have hc36 := H.cell (u := (.pointer a23)) (o' := 0) 1 0 rfl rfl rfl
         exact dp_v (v := (.pointer a23)) wn (rv_load1 Tryz.underlying39 rfl e36 hc36) rfl hJ
        trivial) ?_
      refine ac rfl (by
        intro k _nm ρ σm hJ hoff hdep
        have e37 := hdep 1 rfl rfl 37 rfl
        exact dp_v (v := (B x16.1.isNil)) wn (rv_eqlNil Tryz.underlying39 (H.pr 2 rfl) e37 rfl) rfl hJ) ?_
      refine ac rfl (by
        intro k _nm ρ σm hJ hoff hdep
        have e38 := hdep 2 rfl rfl 38 rfl
        exact dp_v (v := (B x16.1.isNil)) wn (rv_move e38) rfl hJ) ?_
      refine ac rfl (by
        intro k _nm ρ σm hJ hoff hdep
        have e39 := hdep 3 rfl rfl 39 rfl
        exact dp_skip (wanted_no rfl (yv_of rfl (e39.trans (congrArg B hb37)))) rfl hJ) ?_
      refine ac rfl (by
        intro k _nm ρ σm hJ hoff hdep
        have e39 := hdep 3 rfl rfl 39 rfl
        exact dp_skip (wanted_no rfl (yv_of rfl (e39.trans (congrArg B hb37)))) rfl hJ) ?_
      refine ac rfl (by
        intro k _nm ρ σm hJ hoff hdep
        have e39 := hdep 3 rfl rfl 39 rfl
        exact dp_skip (wanted_no rfl (yv_of rfl (e39.trans (congrArg B hb37)))) rfl hJ) ?_
      exact all_nil
     ·intro _nm ρ σ38 hJ hoff hrel
      have e1 := look_off (N := 72) (hoff 1 rfl) rfl
      have e2 := look_off (N := 72) (hoff 2 rfl) rfl
      have e8 := look_off (N := 72) (hoff 8 rfl) rfl
      have e10 := look_off (N := 72) (hoff 10 rfl) rfl
      have e11 := look_off (N := 72) (hoff 11 rfl) rfl
      have e12 := look_off (N := 72) (hoff 12 rfl) rfl
      have e13 := look_off (N := 72) (hoff 13 rfl) rfl
      have e39 := hrel 3 rfl 39 rfl
      have e41 := hrel 5 rfl 41 rfl
      have e42 := hrel 6 rfl 42 rfl
      obtain ⟨H, -⟩ := (show Hp S0 σ0 σ38 [Ch.own n0 0 (Sl a30 xs28 c31) xs28, Ch.bx n0 b25 0 [(.pointer a23), (I x16.2)] [] [], Ch.pr 0 (.pointer a23) x16.1, Ch.bx n0 b3 0 [(I s9.1.1), (Sl a11 s9.1.2 c12)] [] [], Ch.own 0 0 (Sl a11 s9.1.2 c12) s9.1.2, Ch.ro 0 (Sl Bt Br Bu) Br, Ch.bx n0 b1 0 [(I 0), (.slice none 0 0)] [] []] ∧ Md (cov []) σ27 σ38 from hJ)
      clear hJ Hs
      rw [fr_lookL (L := [(1, (I Bq)), (2, (Sl Bt Br Bu)), (8, (pt b1 0)), (10, (pt b3 0)), (11, (I s9.2.1)), (12, (Sl a30 xs28 c31)), (13, (pt b25 0)), (39, (B x16.1.isNil)), (41, undef), (42, undef)]) ⟨e1, e2, e8, e10, e11, e12, e13, e39, e41, e42, trivial⟩]
      clear hoff hrel e1 e2 e8 e10 e11 e12 e13 e39 e41 e42
      refine st_skip (congrArg some hb37) (st (v := (B true)) (rv_pick_t (congrArg B hb37) rfl) (w_end ?_))
      obtain rfl := sj h
      exact ⟨rfl, _, σ38, fr_join ⟨rfl, rfl, rfl, rfl, rfl, rfl, rfl, rfl, trivial⟩, rfl, H.sel' [5, 6, 4, 3, 0, 2, 1] rfl rfl⟩
    ·replace h := bif_f hb37 h
     have hc39 := H.cell (u := (I x16.2)) (o' := 1) 1 1 rfl rfl rfl
     revert h; refine br fun r40 hx41 h => ?_
     have hc42 := c_impl_nearestHits_reach (De := n0) (Dg := b3) (Dh := 0) (Di := []) (Dj := []) (Dc := a11) (Dd := c12) hx41
     have Hs := H
     refine rg2 (σ := σ27) (Nm := Unit) 7 [6] [[false], [true]] [[(0, 0)], [(0, 0)], [(0, 0)], [(0, 0)], [(0, 0), (1, 1)], [(0, 0), (1, 1)], [(0, 1)]] 1 [fun _ => fun σm => Hp S0 σ0 σm [Ch.own n0 0 (Sl a30 xs28 c31) xs28, Ch.bx n0 b25 0 [(.pointer a23), (I x16.2)] [] [], Ch.pr 0 (.pointer a23) x16.1, Ch.bx n0 b3 0 [(I s9.1.1), (Sl a11 s9.1.2 c12)] [] [], Ch.own 0 0 (Sl a11 s9.1.2 c12) s9.1.2, Ch.ro 0 (Sl Bt Br Bu) Br, Ch.bx n0 b1 0 [(I 0), (.slice none 0 0)] [] []] ∧ Md (cov []) σ27 σm, fun _ => fun σm => Hp S0 σ0 σm [Ch.bx n0 b3 0 [(I s9.1.1), (Sl a11 s9.1.2 c12)] [] [], Ch.own 0 0 (Sl a11 s9.1.2 c12) s9.1.2, Ch.own n0 0 (Sl a30 xs28 c31) xs28, Ch.bx n0 b25 0 [(.pointer a23), (I x16.2)] [] [], Ch.pr 0 (.pointer a23) x16.1, Ch.ro 0 (Sl Bt Br Bu) Br, Ch.bx n0 b1 0 [(I 0), (.slice none 0 0)] [] []] ∧ Md (fun i => (cov []) i ∨ (cov [Ch.bx n0 b3 0 [(I s9.1.1), (Sl a11 s9.1.2 c12)] [] [], Ch.own 0 0 (Sl a11 s9.1.2 c12) s9.1.2]) i) σ27 σm] [fun _ => (pt b25 0), fun _ => (.pointer a23), fun _ => (B x16.1.isNil), fun _ => (B x16.1.isNil), fun _ => (pt b25 1), fun _ => (I x16.2), fun _ => (I r40)] () (by kernel_rfl) (by kernel_rfl) ?_ ?_ ?_
     ·intro σm m0
      exact ⟨H.grow (m0.mono fun _ h => h.elim), m0⟩
     ·refine ac rfl (by
        intro k _nm ρ σm hJ hoff hdep
        have e13 := look_off (N := 72) (hoff 13 rfl) rfl
        exact dp_v (v := (pt b25 0)) wn (rv_fieldAddr (off := 0) (ft := 39) Tryz.underlying63 rfl ti39 rfl e13) rfl hJ) ?_
      refine all_cons (by
        refine ⟨?_, ?_⟩
        ·intro _nm ρ σm hJ hoff hdep
         have e36 := hdep 0 rfl rfl 36 rfl
         obtain ⟨H, m⟩ := id hJ
         have hc36 := H.cell (u := (.pointer a23)) (o' := 0) 1 0 rfl rfl rfl
         exact dp_v (v := (.pointer a23)) wn (rv_load1 Tryz.underlying39 rfl e36 hc36) rfl hJ
        trivial) ?_
      refine ac rfl (by
        intro k _nm ρ σm hJ hoff hdep
        have e37 := hdep 1 rfl rfl 37 rfl
        exact dp_v (v := (B x16.1.isNil)) wn (rv_eqlNil Tryz.underlying39 (H.pr 2 rfl) e37 rfl) rfl hJ) ?_
      refine ac rfl (by
        intro k _nm ρ σm hJ hoff hdep
        have e38 := hdep 2 rfl rfl 38 rfl
        exact dp_v (v := (B x16.1.isNil)) wn (rv_move e38) rfl hJ) ?_
      refine ac rfl (by
        intro k _nm ρ σm hJ hoff hdep
        have e13 := look_off (N := 72) (hoff 13 rfl) rfl
        have e39 := hdep 3 rfl rfl 39 rfl
        exact dp_v (v := (pt b25 1)) (wanted_yes rfl (yv_of rfl (e39.trans (congrArg B hb37)))) (rv_fieldAddr (off := 1) (ft := 3) Tryz.underlying63 rfl ti3 rfl e13) rfl hJ) ?_
      refine all_cons (by
        refine ⟨?_, ?_⟩
        ·intro _nm ρ σm hJ hoff hdep
         have e40 := hdep 4 rfl rfl 40 rfl
         have e39 := hdep 3 rfl rfl 39 rfl
         obtain ⟨H, m⟩ := id hJ
         have hc39 := H.cell (u := (I x16.2)) (o' := 1) 1 1 rfl rfl rfl
         exact dp_v (v := (I x16.2)) (wanted_yes rfl (yv_of rfl (e39.trans (congrArg B hb37)))) (rv_load1 Tryz.underlying3 rfl e40 hc39) rfl hJ
        refine ⟨?_, ?_⟩
        ·intro _nm ρ σm hJ hoff hdep
         have e40 := hdep 4 rfl rfl 40 rfl
         have e39 := hdep 3 rfl rfl 39 rfl
         obtain ⟨H, m⟩ := id hJ
         have hc39 := H.cell (u := (I x16.2)) (o' := 1) 3 1 rfl rfl rfl
         exact dp_v (v := (I x16.2)) (wanted_yes rfl (yv_of rfl (e39.trans (congrArg B hb37)))) (rv_load1 Tryz.underlying3 rfl e40 hc39) rfl hJ
        trivial) ?_
      refine all_cons (by
        refine ⟨?_, ?_⟩
        ·intro _nm ρ σm hJ hoff hdep
         have e10 : look 72 ρ 10 = (pt b3 0) := look_off (hoff 10 rfl) rfl
         have e39 := hdep 3 rfl rfl 39 rfl
         obtain ⟨H, m⟩ := id hJ
         refine dp_cx (wanted_yes rfl (yv_of rfl (e39.trans (congrArg B hb37)))) (cx_call hc42 (ent_f hc42.fn (by show [look 72 ρ 10] = _; rw [e10])) hn0 (H.sel' [3, 4, 0, 1, 2, 5, 6] rfl rfl : Hp S0 σ0 _ ([_, _] ++ _))) ?_
         rintro _ σq ⟨_, ⟨rfl, rfl⟩, H2, m2⟩
         exact ⟨_, (), rfl, rfl, ⟨H2.sel' [0, 1, 2, 3, 4, 5, 6] rfl rfl, m.comp m2⟩, stab [0, 1, 2, 3, 4, 5] (by kernel_rfl) ⟨rfl, rfl, rfl, rfl, rfl, rfl, trivial⟩⟩
        trivial) ?_
      exact all_nil
     ·intro _nm ρ σ43 hJ hoff hrel
      have e1 := look_off (N := 72) (hoff 1 rfl) rfl
      have e2 := look_off (N := 72) (hoff 2 rfl) rfl
      have e8 := look_off (N := 72) (hoff 8 rfl) rfl
      have e10 := look_off (N := 72) (hoff 10 rfl) rfl
      have e11 := look_off (N := 72) (hoff 11 rfl) rfl
      have e12 := look_off (N := 72) (hoff 12 rfl) rfl
      have e13 := look_off (N := 72) (hoff 13 rfl) rfl
      have e39 := hrel 3 rfl 39 rfl
      have e41 := hrel 5 rfl 41 rfl
      have e42 := hrel 6 rfl 42 rfl
      obtain ⟨H, -⟩ := (show Hp S0 σ0 σ43 [Ch.bx n0 b3 0 [(I s9.1.1), (Sl a11 s9.1.2 c12)] [] [], Ch.own 0 0 (Sl a11 s9.1.2 c12) s9.1.2, Ch.own n0 0 (Sl a30 xs28 c31) xs28, Ch.bx n0 b25 0 [(.pointer a23), (I x16.2)] [] [], Ch.pr 0 (.pointer a23) x16.1, Ch.ro 0 (Sl Bt Br Bu) Br, Ch.bx n0 b1 0 [(I 0), (.slice none 0 0)] [] []] ∧ Md (fun i => (cov []) i ∨ (cov [Ch.bx n0 b3 0 [(I s9.1.1), (Sl a11 s9.1.2 c12)] [] [], Ch.own 0 0 (Sl a11 s9.1.2 c12) s9.1.2]) i) σ27 σ43 from hJ)
      clear hJ Hs
      rw [fr_lookL (L := [(1, (I Bq)), (2, (Sl Bt Br Bu)), (8, (pt b1 0)), (10, (pt b3 0)), (11, (I s9.2.1)), (12, (Sl a30 xs28 c31)), (13, (pt b25 0)), (39, (B x16.1.isNil)), (41, (I x16.2)), (42, (I r40))]) ⟨e1, e2, e8, e10, e11, e12, e13, e39, e41, e42, trivial⟩]
      clear hoff hrel e1 e2 e8 e10 e11 e12 e13 e39 e41 e42
      refine st_g (v := (B (decide (r40 < x16.2)))) (congrArg some hb37) (rv_gtr (a := x16.2) (b := r40) rfl rfl) (st (v := (B (decide (r40 < x16.2)))) (rv_pick_f (congrArg B hb37) rfl) (w_end ?_))
      obtain rfl := sj h
      exact ⟨rfl, _, σ43, fr_join ⟨rfl, rfl, rfl, rfl, rfl, rfl, rfl, rfl, trivial⟩, rfl, H.sel' [5, 6, 1, 0, 2, 4, 3] rfl rfl⟩
   ·clear hj
    have h := h'
    clear h' H
    rintro e a w ⟨rfl, ρ, σ44, rfl, rfl, H⟩
    refine q_then ?_
    refine cd_cond o35 rfl (fun hb45 => ?_) (fun hb45 => ?_)
    ·replace h := bif_t hb45 h
     refine c_exit (q_then_x (q_blk_hit (q_then ?_)))
     obtain rfl := sj h
     exact ⟨_, rfl, _, σ44, a11, c12, a30, c31, fr_join ⟨rfl, rfl, rfl, rfl, rfl, rfl, trivial⟩, rfl, H.sel' [3, 2, 0, 1, 4] rfl rfl⟩
    ·replace h := bif_f hb45 h
     refine c_skip (q_then (c_seq (rg (sm (I s9.2.1) rfl (st (v := (I (w64 (s9.2.1 + 1)))) (rv_add (a := s9.2.1) (b := 1) rfl rfl) (sa (I (w64 (s9.2.1 + 1))) rfl (w_end (q_then (c_seq (rg (st (v := (pt b25 0)) (rv_fieldAddr (off := 0) (ft := 39) Tryz.underlying63 rfl ti39 rfl rfl) ?_)))))))))))
     have hc46 := H.cell (u := (.pointer a23)) (o' := 0) 6 0 rfl rfl rfl
     refine st (v := (.pointer a23)) (rv_load1 Tryz.underlying39 rfl rfl hc46) ?_
     revert h; refine br fun x47 hx48 h => ?_
     obtain ⟨b50, o51, hi49⟩ := (H.pr 5 rfl).ex hx48
     refine st (v := (pt b50 o51)) (rv_nilCheckT hi49 rfl) (st (v := (pt b50 (o51 + 0))) (rv_fieldAddr (off := 0) (ft := 59) Tryz.underlying68 rfl ti59 rfl rfl) ?_)
     obtain ⟨_, ⟨_, _, rfl, rfl, ⟨_, _, rfl, ⟨_, rfl, hR56⟩, rfl⟩⟩, hl52, hc53⟩ := ((H.pr 5 rfl).at hx48 hi49).fst.cells
     obtain ⟨a54, c55, rfl⟩ := hR56.isSl
     replace H := H.add (d := Ch.ro 0 (Sl a54 x47.1.2.1 c55) x47.1.2.1) hR56 (fun _ h => h)
     clear hR56
     refine st (v := (.agg #[(I x47.1.1), (Sl a54 x47.1.2.1 c55), (I x47.1.2.2)])) (rv_load Tryz.underlying59 rfl ti59 rfl hl52 hc53) (sm (I Bq) rfl (sm (Sl Bt Br Bu) rfl ?_))
     revert h; refine br fun r57 hx58 h => ?_
     have hc59 := c_impl_hitOf (Be := a54) (Bf := c55) (Bt := Bt) (Bu := Bu) hx58
     refine st_call (cx_call hc59 (ent_f hc59.fn rfl) hn0 (H.sel' [0, 1, 0, 1, 2, 3, 4, 5, 6, 7] rfl rfl : Hp S0 σ0 _ ([_, _] ++ _))) wn ?_
     rintro _ σ60 ⟨_, ⟨rfl, rfl⟩, H, -⟩
     replace H : Hp _ _ _ [_, _, _, _, _, _, _, _] := H
     replace H : Hp S0 σ0 σ60 [Ch.ro 0 (Sl Bt Br Bu) Br, Ch.bx n0 b1 0 [(I 0), (.slice none 0 0)] [] [], Ch.own 0 0 (Sl a11 s9.1.2 c12) s9.1.2, Ch.bx n0 b3 0 [(I s9.1.1), (Sl a11 s9.1.2 c12)] [] [], Ch.own n0 0 (Sl a30 xs28 c31) xs28, Ch.pr 0 (.pointer a23) x16.1, Ch.bx n0 b25 0 [(.pointer a23), (I x16.2)] [] []] := H.sel' [1, 2, 3, 4, 5, 6, 7] rfl rfl
     refine st_ex (ex_alloc (cs := [(I 0), (I 0)]) H hn0 ti43 rfl) wn ?_
     rintro _ σ62 ⟨b61, rfl, H, -⟩
     refine st_exS (ex_store_box (k := 0) (cs := [(I 0), (I 0)]) (vs := [(I r57.1), (I r57.2)]) (cs' := [(I r57.1), (I r57.2)]) H (i := 0) rfl ti43 rfl rfl rfl rfl rfl (Nat.le_of_ble_eq_true rfl) (by simp [plain]) rfl) wn ?_
     rintro σ63 ⟨H, -⟩
     refine w_end (q_then (c_seq (rg ?_)))
     have hc64 := H.cells 0 rfl
     refine st (v := (.agg #[(I r57.1), (I r57.2)])) (rv_load (cs := [(I r57.1), (I r57.2)]) Tryz.underlying43 rfl ti43 rfl rfl hc64) ?_
     revert h; refine br fun r65 hx66 h => ?_
     have hc67 := c_impl_nearestHits_offer (De := n0) (Dg := b3) (Dh := 0) (Di := []) (Dj := []) (Dc := a11) (Dd := c12) hx66
     refine st_call (cx_call hc67 (ent_f hc67.fn rfl) hn0 (H.sel' [4, 3, 0, 1, 2, 5, 6, 7] rfl rfl : Hp S0 σ0 _ ([_, _] ++ _))) wn ?_
     rintro _ σ70 ⟨_, ⟨a68, c69, rfl, rfl⟩, H, -⟩
     replace H : Hp _ _ _ [_, _, _, _, _, _, _, _] := H
     refine w_end (q_then (c_seq (rg (st (v := (pt b25 0)) (rv_fieldAddr (off := 0) (ft := 39) Tryz.underlying63 rfl ti39 rfl rfl) ?_))))
     have hc71 := H.cell (u := (.pointer a23)) (o' := 0) 7 0 rfl rfl rfl
     refine st (v := (.pointer a23)) (rv_load1 Tryz.underlying39 rfl rfl hc71) (st (v := (pt b61 1)) (rv_fieldAddr (off := 1) (ft := 3) Tryz.underlying43 rfl ti3 rfl rfl) ?_)
     have hc72 := H.cell (u := (I r57.2)) (o' := 1) 2 1 rfl rfl rfl
     refine st (v := (I r57.2)) (rv_load1 Tryz.underlying3 rfl rfl hc72) ?_
     revert h; refine br fun r73 hx74 h => ?_
     have hc75 := c_impl_branch_turns (Dn := a23) hx74
     refine st_call (cx_call hc75 (ent_f hc75.fn rfl) hn0 (H.sel' [6, 0, 1, 2, 3, 4, 5, 6, 7] rfl rfl : Hp S0 σ0 _ ([_] ++ _))) wn ?_
     rintro _ σ78 ⟨_, ⟨a76, a77, rfl, rfl⟩, H, -⟩
     replace H : Hp _ _ _ [_, _, _, _, _, _, _, _, _, _] := H
     replace H : Hp S0 σ0 σ78 [Ch.pr 0 (.pointer a76) r73.1.1, Ch.pr 0 (.pointer a77) r73.2.1, Ch.bx n0 b3 0 [(I r65.1), (Sl a68 r65.2 c69)] [] [], Ch.own 0 0 (Sl a68 r65.2 c69) r65.2, Ch.ro 0 (Sl Bt Br Bu) Br, Ch.bx n0 b1 0 [(I 0), (.slice none 0 0)] [] [], Ch.own n0 0 (Sl a30 xs28 c31) xs28] := H.sel' [0, 1, 2, 3, 5, 6, 7] rfl rfl
     refine sm (.tuple #[(.agg #[(.pointer a76), (I r73.1.2)]), (.agg #[(.pointer a77), (I r73.2.2)])]) rfl (st (v := (.agg #[(.pointer a76), (I r73.1.2)])) (rv_extract rfl rfl) (st (v := (.agg #[(.pointer a77), (I r73.2.2)])) (rv_extract rfl rfl) (st_ex (ex_alloc (cs := [(.pointer none), (I 0)]) H hn0 ti63 rfl) wn ?_)))
     rintro _ σ80 ⟨b79, rfl, H, -⟩
     refine st_ex (ex_alloc (cs := [(.pointer none), (I 0)]) H hn0 ti63 rfl) wn ?_
     rintro _ σ82 ⟨b81, rfl, H, -⟩
     refine st_exS (ex_store_box (k := 0) (cs := [(.pointer none), (I 0)]) (vs := [(.pointer a76), (I r73.1.2)]) (cs' := [(.pointer a76), (I r73.1.2)]) H (i := 1) rfl ti63 rfl rfl rfl rfl rfl (Nat.le_of_ble_eq_true rfl) (by simp [plain]) rfl) wn ?_
     rintro σ83 ⟨H, -⟩
     refine st_exS (ex_store_box (k := 0) (cs := [(.pointer none), (I 0)]) (vs := [(.pointer a77), (I r73.2.2)]) (cs' := [(.pointer a77), (I r73.2.2)]) H (i := 1) rfl ti63 rfl rfl rfl rfl rfl (Nat.le_of_ble_eq_true rfl) (by simp [plain]) rfl) wn ?_
     rintro σ84 ⟨H, -⟩
     refine w_end (q_then (rg (sm (Sl a30 xs28 c31) rfl ?_)))
     have hc85 := H.cells 0 rfl
     refine st (v := (.agg #[(.pointer a77), (I r73.2.2)])) (rv_load (cs := [(.pointer a77), (I r73.2.2)]) Tryz.underlying63 rfl ti63 rfl rfl hc85) ?_
     have hc86 := H.cells 1 rfl
     refine st (v := (.agg #[(.pointer a76), (I r73.1.2)])) (rv_load (cs := [(.pointer a76), (I r73.1.2)]) Tryz.underlying63 rfl ti63 rfl rfl hc86) ?_
     refine st_ex (ex_buildSlice (el := 0) (xs := ([(r73.2.1, r73.2.2), (r73.1.1, r73.1.2)] : List ((Tr (Int × (List Int) × Int)) × Int))) (ps := [(0, (.agg #[(.pointer a77), (I r73.2.2)])), (1, (.agg #[(.pointer a76), (I r73.1.2)]))]) (cs := [(.pointer a77), (I r73.2.2), (.pointer a76), (I r73.1.2)]) H hn0 Tryz.underlying64 ti63 rfl rfl (by kernel_rfl) (.cons (c := [(.pointer a77), (I r73.2.2)]) ⟨[(.pointer a77)], [(I r73.2.2)], rfl, ⟨_, rfl, (H.pr 3 rfl)⟩, rfl⟩ (.cons (c := [(.pointer a76), (I r73.1.2)]) ⟨[(.pointer a76)], [(I r73.1.2)], rfl, ⟨_, rfl, (H.pr 2 rfl)⟩, rfl⟩ (.nil))) rfl) wn ?_
     rintro _ σ88 ⟨b87, rfl, H, -⟩
     replace H : Hp S0 σ0 σ88 [Ch.own n0 0 (Sl (some ⟨b87, 0, none⟩) ([(r73.2.1, r73.2.2), (r73.1.1, r73.1.2)] : List ((Tr (Int × (List Int) × Int)) × Int)) 2) ([(r73.2.1, r73.2.2), (r73.1.1, r73.1.2)] : List ((Tr (Int × (List Int) × Int)) × Int)), Ch.bx n0 b3 0 [(I r65.1), (Sl a68 r65.2 c69)] [] [], Ch.own 0 0 (Sl a68 r65.2 c69) r65.2, Ch.ro 0 (Sl Bt Br Bu) Br, Ch.bx n0 b1 0 [(I 0), (.slice none 0 0)] [] [], Ch.own n0 0 (Sl a30 xs28 c31) xs28] := H.sel' [0, 5, 6, 7, 8, 9] rfl rfl
     revert h; refine br fun xs89 hx90 h => ?_
     refine st_ex (ex_append H (i := 5) rfl Tryz.underlying64 Tryz.underlying64 ti63 rfl rfl (by decide) (H.own 0 rfl).rd hx90 hn0 rfl rfl) wn ?_
     rintro _ σ93 ⟨a91, c92, rfl, H, -⟩
     refine sa (Sl a91 xs89 c92) rfl (w_end (q_blk (q_then ?_)))
     obtain rfl := sj h
     exact ⟨_, rfl, _, σ93, a68, c69, a91, c92, fr_join ⟨rfl, rfl, rfl, rfl, rfl, rfl, trivial⟩, rfl, H.sel' [2, 3, 4, 5, 0] rfl rfl⟩
  ·replace h := bif_f hb15 h
   refine c_exit (q_then_x (q_then_x (q_blk_hit ?_)))
   obtain rfl := sj h
   obtain rfl := hres _ rfl
   exact ⟨rfl, _, σ10, a11, c12, fr_join ⟨rfl, rfl, rfl, trivial⟩, rfl, H.sel' [0, 1, 3] rfl rfl⟩
 ·clear hj
  have h := h'
  clear h' H
  rintro e a w ⟨rfl, ρ, σ94, a95, c96, rfl, rfl, H⟩
  refine q_then (c_seq (rg ?_))
  have hc97 := H.cells 0 rfl
  refine st (v := (.agg #[(I o8.1.1), (Sl a95 o8.1.2 c96)])) (rv_load (cs := [(I o8.1.1), (Sl a95 o8.1.2 c96)]) Tryz.underlying36 rfl ti36 rfl rfl hc97) (sm (I o8.2) rfl ?_)
  refine st_exS (ex_store_box (k := 0) (cs := [(I 0), (.slice none 0 0)]) (vs := [(I o8.1.1), (Sl a95 o8.1.2 c96)]) (cs' := [(I o8.1.1), (Sl a95 o8.1.2 c96)]) H (i := 2) rfl ti36 rfl rfl rfl rfl rfl (Nat.le_of_ble_eq_true rfl) (by simp [plain]) rfl) wn ?_
  rintro σ98 ⟨H, -⟩
  refine sa (I o8.2) rfl (w_end (q_then (c_ret ?_)))
  replace H := H.ownSc 2 0 n0 rfl (Nat.le_refl _)
  obtain rfl := sj h
  exact fin_ret (v := (.tuple #[(.agg #[(I o8.1.1), (Sl a95 o8.1.2 c96)]), (I o8.2)])) (results_ok Tryz.results16 (res_cell rfl (run_cellRes (cs := [(I o8.1.1), (Sl a95 o8.1.2 c96)]) Tryz.underlying36 rfl ti36 rfl (H.cells 1 rfl)) (res_tmp (v := (I o8.2)) rfl res_nil)) rfl) ⟨a95, c96, rfl, rfl⟩ (H.sel' [0] rfl rfl)

theorem c_slices_Clone_impl_Item_impl_Item {Dr : List (Int × (List Int) × Int)} {Ds : Option Addr} {Dt : Nat} {r : (List (Int × (List Int) × Int))} (h : M.slices_Clone_impl_Item_impl_Item Dr = some r) :
    Cal2 Tryz.prog 60 [(Sl Ds Dr Dt)] [Ch.ro 0 (Sl Ds Dr Dt) Dr] (fun n0 v L => ∃ (az1 : Option Addr), ∃ (cz2 : Nat), v = (Sl az1 r cz2) ∧ L = [Ch.own n0 0 (Sl az1 r cz2) r]) := by
 refine cal2 (n := 8) Tryz.func60 rfl rfl rfl rfl ?_
 intro S0 σ0 n0 hn0 H
 unfold M.slices_Clone_impl_Item_impl_Item at h
 refine c_seq (rg (sa (.slice none 0 0) rfl (w_end (q_then (c_seq (c_seq (rg (sm (Sl Ds Dr Dt) rfl (st (v := (B Ds.isNone)) (rv_nilS Tryz.underlying23 rfl rfl) (w_end (q_then ?_)))))))))))
 refine cd_cond Ds.isNone rfl (fun hb1 => ?_) (fun hb1 => ?_)
 ·have hq := RS.nilOf hb1 (H.ro 0 rfl)
  subst hq
  replace h : some [] = some r := by simpa [gapp] using h
  refine c_seq (rg (sa (.slice none 0 0) rfl (w_end (q_then (c_ret (q_then_r ?_))))))
  replace H := H.nilOwn (Int × (List Int) × Int) n0 0
  obtain rfl := sj h
  exact fin_ret (v := (.slice none 0 0)) (results_ok Tryz.results60 (res_tmp (v := (.slice none 0 0)) rfl res_nil) rfl) ⟨none, 0, rfl, rfl⟩ (H.sel' [0] rfl rfl)
 ·refine c_skip ?_
  refine q_then (c_seq (rg ?_))
  refine st_ex (ex_buildSlice (el := n0) (xs := ([] : List (Int × (List Int) × Int))) (ps := []) (cs := []) H hn0 Tryz.underlying23 ti59 rfl rfl (by kernel_rfl) (.nil) rfl) wn ?_
  rintro _ σ3 ⟨b2, rfl, H, -⟩
  refine sm (Sl Ds Dr Dt) rfl ?_
  replace H := H.ownLow 0 n0 0 rfl (Nat.le_refl _) (Nat.zero_le _)
  revert h; refine br fun xs4 hx5 h => ?_
  refine st_ex (ex_append H (i := 0) rfl Tryz.underlying23 Tryz.underlying23 ti59 rfl rfl (by decide) (H.ro 1 rfl).rd hx5 hn0 rfl rfl) wn ?_
  rintro _ σ8 ⟨a6, c7, rfl, H, -⟩
  refine sa (Sl a6 xs4 c7) rfl (w_end (q_then (c_ret ?_)))
  obtain rfl := sj h
  exact fin_ret (v := (Sl a6 xs4 c7)) (results_ok Tryz.results60 (res_tmp (v := (Sl a6 xs4 c7)) rfl res_nil) rfl) ⟨a6, c7, rfl, rfl⟩ (H.sel' [0] rfl rfl)

theorem c_slices_xorshift_Next {Ae : Int} {Ai Aj Ak : Nat} {Am Ao : List Value} {r : Int × Int} (h : M.slices_xorshift_Next Ae = some r) :
    Cal2 Tryz.prog 115 [(pt Aj Ak)] [Ch.bx Ai Aj Ak [(.int .u64 Ae)] Am Ao] (fun n0 v L => v = (.int .u64 r.1) ∧ L = [Ch.bx Ai Aj Ak [(.int .u64 r.2)] Am Ao]) := by
 refine cal2 (n := 33) Tryz.func115 rfl rfl rfl rfl ?_
 intro S0 σ0 n0 hn0 H
 unfold M.slices_xorshift_Next at h
 refine c_seq (rg (sa (.int .u64 0) rfl (w_end (q_then (c_seq ?_)))))
 refine rgP (σ := σ0) 7 (by kernel_rfl) (by kernel_rfl) (by kernel_rfl) ?_
 refine sq (v := (pt Aj Ak)) (rv_move rfl) (sq (v := (pt Aj Ak)) (rv_nilCheck rfl) ?_)
 have hc1 := H.cell (u := (.int .u64 Ae)) (o' := Ak) 0 0 rfl rfl rfl
 refine sq (v := (.int .u64 Ae)) (rv_load1 Tryz.underlying146 rfl rfl hc1) (sq (v := (pt Aj Ak)) (rv_move rfl) (sq (v := (pt Aj Ak)) (rv_nilCheck rfl) ?_))
 have hc2 := H.cell (u := (.int .u64 Ae)) (o' := Ak) 0 0 rfl rfl rfl
 refine sq (v := (.int .u64 Ae)) (rv_load1 Tryz.underlying146 rfl rfl hc2) ?_
 refine sq (v := (.int .u64 (gshl .u64 Ae 13))) (rvk_shl (k := .u64) (k' := .u64) (a := Ae) (b := 13) rfl rfl (by decide)) ?_
 refine sq_end ?_
 intro σ3 hm4
 replace H := H.grow (hm4.mono fun _ h => h); clear hm4
 refine st (v := (.int .u64 (gxork .u64 Ae (gshl .u64 Ae 13)))) (rvk_xor (k := .u64) (a := Ae) (b := (gshl .u64 Ae 13)) rfl rfl) (st (v := (pt Aj Ak)) (rv_nilCheck rfl) ?_)
 refine st_exS (ex_store_box (k := 0) (cs := [(.int .u64 Ae)]) (vs := [(.int .u64 (gxork .u64 Ae (gshl .u64 Ae 13)))]) (cs' := [(.int .u64 (gxork .u64 Ae (gshl .u64 Ae 13)))]) H (i := 0) rfl ti146 rfl rfl rfl rfl rfl (Nat.le_of_ble_eq_true rfl) (by simp [plain]) rfl) wn ?_
 rintro σ5 ⟨H, -⟩
 refine w_end (q_then (c_seq ?_))
 refine rgP (σ := σ5) 7 (by kernel_rfl) (by kernel_rfl) (by kernel_rfl) ?_
 refine sq (v := (pt Aj Ak)) (rv_move rfl) (sq (v := (pt Aj Ak)) (rv_nilCheck rfl) ?_)
 have hc6 := H.cell (u := (.int .u64 (gxork .u64 Ae (gshl .u64 Ae 13)))) (o' := Ak) 0 0 rfl rfl rfl
 refine sq (v := (.int .u64 (gxork .u64 Ae (gshl .u64 Ae 13)))) (rv_load1 Tryz.underlying146 rfl rfl hc6) (sq (v := (pt Aj Ak)) (rv_move rfl) (sq (v := (pt Aj Ak)) (rv_nilCheck rfl) ?_))
 have hc7 := H.cell (u := (.int .u64 (gxork .u64 Ae (gshl .u64 Ae 13)))) (o' := Ak) 0 0 rfl rfl rfl
 refine sq (v := (.int .u64 (gxork .u64 Ae (gshl .u64 Ae 13)))) (rv_load1 Tryz.underlying146 rfl rfl hc7) ?_
 refine sq (v := (.int .u64 (gshr .u64 (gxork .u64 Ae (gshl .u64 Ae 13)) 7))) (rvk_shr (k := .u64) (k' := .u64) (a := (gxork .u64 Ae (gshl .u64 Ae 13))) (b := 7) rfl rfl (by decide)) ?_
 refine sq_end ?_
 intro σ8 hm9
 replace H := H.grow (hm9.mono fun _ h => h); clear hm9
 refine st (v := (.int .u64 (gxork .u64 (gxork .u64 Ae (gshl .u64 Ae 13)) (gshr .u64 (gxork .u64 Ae (gshl .u64 Ae 13)) 7)))) (rvk_xor (k := .u64) (a := (gxork .u64 Ae (gshl .u64 Ae 13))) (b := (gshr .u64 (gxork .u64 Ae (gshl .u64 Ae 13)) 7)) rfl rfl) (st (v := (pt Aj Ak)) (rv_nilCheck rfl) ?_)
 refine st_exS (ex_store_box (k := 0) (cs := [(.int .u64 (gxork .u64 Ae (gshl .u64 Ae 13)))]) (vs := [(.int .u64 (gxork .u64 (gxork .u64 Ae (gshl .u64 Ae 13)) (gshr .u64 (gxork .u64 Ae (gshl .u64 Ae 13)) 7)))]) (cs' := [(.int .u64 (gxork .u64 (gxork .u64 Ae (gshl .u64 Ae 13)) (gshr .u64 (gxork .u64 Ae (gshl .u64 Ae 13)) 7)))]) H (i := 0) rfl ti146 rfl rfl rfl rfl rfl (Nat.le_of_ble_eq_true rfl) (by simp [plain]) rfl) wn ?_
 rintro σ10 ⟨H, -⟩
 refine w_end (q_then (c_seq ?_))
 refine rgP (σ := σ10) 7 (by kernel_rfl) (by kernel_rfl) (by kernel_rfl) ?_
 refine sq (v := (pt Aj Ak)) (rv_move rfl) (sq (v := (pt Aj Ak)) (rv_nilCheck rfl) ?_)
 have hc11 := H.cell (u := (.int .u64 (gxork .u64 (gxork .u64 Ae (gshl .u64 Ae 13)) (gshr .u64 (gxork .u64 Ae (gshl .u64 Ae 13)) 7)))) (o' := Ak) 0 0 rfl rfl rfl
 refine sq (v := (.int .u64 (gxork .u64 (gxork .u64 Ae (gshl .u64 Ae 13)) (gshr .u64 (gxork .u64 Ae (gshl .u64 Ae 13)) 7)))) (rv_load1 Tryz.underlying146 rfl rfl hc11) (sq (v := (pt Aj Ak)) (rv_move rfl) (sq (v := (pt Aj Ak)) (rv_nilCheck rfl) ?_))
 have hc12 := H.cell (u := (.int .u64 (gxork .u64 (gxork .u64 Ae (gshl .u64 Ae 13)) (gshr .u64 (gxork .u64 Ae (gshl .u64 Ae 13)) 7)))) (o' := Ak) 0 0 rfl rfl rfl
 refine sq (v := (.int .u64 (gxork .u64 (gxork .u64 Ae (gshl .u64 Ae 13)) (gshr .u64 (gxork .u64 Ae (gshl .u64 Ae 13)) 7)))) (rv_load1 Tryz.underlying146 rfl rfl hc12) ?_
 refine sq (v := (.int .u64 (gshl .u64 (gxork .u64 (gxork .u64 Ae (gshl .u64 Ae 13)) (gshr .u64 (gxork .u64 Ae (gshl .u64 Ae 13)) 7)) 17))) (rvk_shl (k := .u64) (k' := .u64) (a := (gxork .u64 (gxork .u64 Ae (gshl .u64 Ae 13)) (gshr .u64 (gxork .u64 Ae (gshl .u64 Ae 13)) 7))) (b := 17) rfl rfl (by decide)) ?_
 refine sq_end ?_
 intro σ13 hm14
 replace H := H.grow (hm14.mono fun _ h => h); clear hm14
 refine st (v := (.int .u64 (gxork .u64 (gxork .u64 (gxork .u64 Ae (gshl .u64 Ae 13)) (gshr .u64 (gxork .u64 Ae (gshl .u64 Ae 13)) 7)) (gshl .u64 (gxork .u64 (gxork .u64 Ae (gshl .u64 Ae 13)) (gshr .u64 (gxork .u64 Ae (gshl .u64 Ae 13)) 7)) 17)))) (rvk_xor (k := .u64) (a := (gxork .u64 (gxork .u64 Ae (gshl .u64 Ae 13)) (gshr .u64 (gxork .u64 Ae (gshl .u64 Ae 13)) 7))) (b := (gshl .u64 (gxork .u64 (gxork .u64 Ae (gshl .u64 Ae 13)) (gshr .u64 (gxork .u64 Ae (gshl .u64 Ae 13)) 7)) 17)) rfl rfl) (st (v := (pt Aj Ak)) (rv_nilCheck rfl) ?_)
 refine st_exS (ex_store_box (k := 0) (cs := [(.int .u64 (gxork .u64 (gxork .u64 Ae (gshl .u64 Ae 13)) (gshr .u64 (gxork .u64 Ae (gshl .u64 Ae 13)) 7)))]) (vs := [(.int .u64 (gxork .u64 (gxork .u64 (gxork .u64 Ae (gshl .u64 Ae 13)) (gshr .u64 (gxork .u64 Ae (gshl .u64 Ae 13)) 7)) (gshl .u64 (gxork .u64 (gxork .u64 Ae (gshl .u64 Ae 13)) (gshr .u64 (gxork .u64 Ae (gshl .u64 Ae 13)) 7)) 17)))]) (cs' := [(.int .u64 (gxork .u64 (gxork .u64 (gxork .u64 Ae (gshl .u64 Ae 13)) (gshr .u64 (gxork .u64 Ae (gshl .u64 Ae 13)) 7)) (gshl .u64 (gxork .u64 (gxork .u64 Ae (gshl .u64 Ae 13)) (gshr .u64 (gxork .u64 Ae (gshl .u64 Ae 13)) 7)) 17)))]) H (i := 0) rfl ti146 rfl rfl rfl rfl rfl (Nat.le_of_ble_eq_true rfl) (by simp [plain]) rfl) wn ?_
 rintro σ15 ⟨H, -⟩
 refine w_end (q_then (c_seq (rg (sm (pt Aj Ak) rfl (st (v := (pt Aj Ak)) (rv_nilCheck rfl) ?_)))))
 have hc16 := H.cell (u := (.int .u64 (gxork .u64 (gxork .u64 (gxork .u64 Ae (gshl .u64 Ae 13)) (gshr .u64 (gxork .u64 Ae (gshl .u64 Ae 13)) 7)) (gshl .u64 (gxork .u64 (gxork .u64 Ae (gshl .u64 Ae 13)) (gshr .u64 (gxork .u64 Ae (gshl .u64 Ae 13)) 7)) 17)))) (o' := Ak) 0 0 rfl rfl rfl
 refine st (v := (.int .u64 (gxork .u64 (gxork .u64 (gxork .u64 Ae (gshl .u64 Ae 13)) (gshr .u64 (gxork .u64 Ae (gshl .u64 Ae 13)) 7)) (gshl .u64 (gxork .u64 (gxork .u64 Ae (gshl .u64 Ae 13)) (gshr .u64 (gxork .u64 Ae (gshl .u64 Ae 13)) 7)) 17)))) (rv_load1 Tryz.underlying146 rfl rfl hc16) (sa (.int .u64 (gxork .u64 (gxork .u64 (gxork .u64 Ae (gshl .u64 Ae 13)) (gshr .u64 (gxork .u64 Ae (gshl .u64 Ae 13)) 7)) (gshl .u64 (gxork .u64 (gxork .u64 Ae (gshl .u64 Ae 13)) (gshr .u64 (gxork .u64 Ae (gshl .u64 Ae 13)) 7)) 17))) rfl (w_end (q_then (c_ret ?_))))
 obtain rfl := sj h
 exact fin_ret (v := (.int .u64 (gxork .u64 (gxork .u64 (gxork .u64 Ae (gshl .u64 Ae 13)) (gshr .u64 (gxork .u64 Ae (gshl .u64 Ae 13)) 7)) (gshl .u64 (gxork .u64 (gxork .u64 Ae (gshl .u64 Ae 13)) (gshr .u64 (gxork .u64 Ae (gshl .u64 Ae 13)) 7)) 17)))) (results_ok Tryz.results115 (res_tmp (v := (.int .u64 (gxork .u64 (gxork .u64 (gxork .u64 Ae (gshl .u64 Ae 13)) (gshr .u64 (gxork .u64 Ae (gshl .u64 Ae 13)) 7)) (gshl .u64 (gxork .u64 (gxork .u64 Ae (gshl .u64 Ae 13)) (gshr .u64 (gxork .u64 Ae (gshl .u64 Ae 13)) 7)) 17)))) rfl res_nil) rfl) ⟨rfl, rfl⟩ (H.sel' [0] rfl rfl)

theorem c_impl_sortByDistance_1__p3__p24 {Bd : Int × (List Int) × Int} {Cs : Int × (List Int) × Int} {Du : Int} {Dv : List Int} {Be : Option Addr} {Bf : Nat} {Dw : Option Addr} {Dx : Nat} {Dy Dz : Nat} {Ea Eb : Nat} {r : Int} (h : M.impl_sortByDistance_1__p3__p24 Bd Cs Du Dv = some r) :
    Cal2 Tryz.prog 62 [(.agg #[(I Bd.1), (Sl Be Bd.2.1 Bf), (I Bd.2.2)]), (.agg #[(I Cs.1), (Sl Dw Cs.2.1 Dx), (I Cs.2.2)]), (pt Dy Dz), (pt Ea Eb)] [Ch.ro 0 (Sl Be Bd.2.1 Bf) Bd.2.1, Ch.ro 0 (Sl Dw Cs.2.1 Dx) Cs.2.1, Ch.ro 0 (Sl (some ⟨Dy, Dz, none⟩) ([Du] : List Int) 1) ([Du] : List Int), Ch.ro 0 (Sl (some ⟨Ea, Eb, none⟩) ([Dv] : List (List Int)) 1) ([Dv] : List (List Int))] (fun n0 v L => v = (I r) ∧ L = []) := by
 refine cal2 (n := 16) Tryz.func62 rfl rfl rfl rfl ?_
 intro S0 σ0 n0 hn0 H
 unfold M.impl_sortByDistance_1__p3__p24 at h
 have hxp_2 : gidx ([Du] : List Int) 0 = some Du := rfl
 have hip_2 : Ix (Sl (some ⟨Dy, Dz, none⟩) ([Du] : List Int) 1) 0 1 Dy Dz := ix_one
 have hxp_3 : gidx ([Dv] : List (List Int)) 0 = some Dv := rfl
 have hip_3 : Ix (Sl (some ⟨Ea, Eb, none⟩) ([Dv] : List (List Int)) 1) 0 1 Ea Eb := ix_one
 refine c_seq (rg (st_ex (ex_box (cs := [(I Bd.1), (Sl Be Bd.2.1 Bf), (I Bd.2.2)]) H hn0 rfl rfl) wn ?_))
 rintro _ σ2 ⟨b1, rfl, H, -⟩
 refine st_ex (ex_box (cs := [(I Cs.1), (Sl Dw Cs.2.1 Dx), (I Cs.2.2)]) H hn0 rfl rfl) wn ?_
 rintro _ σ4 ⟨b3, rfl, H, -⟩
 refine sa (I 0) rfl (w_end (q_then (c_seq ?_)))
 have hc5 := H.cells 1 rfl
 have hc6 := ((H.ro 4 rfl).at hxp_2 hip_2).int
 obtain ⟨v10, hc11, hR9⟩ := ((H.ro 5 rfl).at hxp_3 hip_3).slice
 obtain ⟨a7, c8, rfl⟩ := hR9.isSl
 replace H := H.add (d := Ch.ro 0 (Sl a7 Dv c8) Dv) hR9 (fun _ h => h)
 clear hR9
 revert h; refine br fun r12 hx13 h => ?_
 have hc14 := c_impl_hitOf (Be := Be) (Bf := Bf) (Bt := a7) (Bu := c8) hx13
 have hc15 := H.cells 1 rfl
 have hc16 := ((H.ro 5 rfl).at hxp_2 hip_2).int
 obtain ⟨v20, hc21, hR19⟩ := ((H.ro 6 rfl).at hxp_3 hip_3).slice
 obtain ⟨a17, c18, rfl⟩ := hR19.isSl
 replace H := H.add (d := Ch.ro 0 (Sl a17 Dv c18) Dv) hR19 (fun _ h => h)
 clear hR19
 have Hs := H
 refine rg2 (σ := σ4) (Nm := Unit) 7 [3] [[false], [true]] [[(0, 0)], [(0, 0)], [(0, 0)], [(0, 1)], [(0, 0), (1, 1)], [(0, 0), (1, 1)], [(0, 0), (1, 1)]] 1 [fun _ => fun σm => Hp S0 σ0 σm [Ch.ro 0 (Sl a17 Dv c18) Dv, Ch.ro 0 (Sl a7 Dv c8) Dv, Ch.bx n0 b3 0 [(I Cs.1), (Sl Dw Cs.2.1 Dx), (I Cs.2.2)] [] [], Ch.bx n0 b1 0 [(I Bd.1), (Sl Be Bd.2.1 Bf), (I Bd.2.2)] [] [], Ch.ro 0 (Sl Be Bd.2.1 Bf) Bd.2.1, Ch.ro 0 (Sl Dw Cs.2.1 Dx) Cs.2.1, Ch.ro 0 (Sl (some ⟨Dy, Dz, none⟩) ([Du] : List Int) 1) ([Du] : List Int), Ch.ro 0 (Sl (some ⟨Ea, Eb, none⟩) ([Dv] : List (List Int)) 1) ([Dv] : List (List Int))] ∧ Md (cov []) σ4 σm, fun _ => fun σm => Hp S0 σ0 σm [Ch.ro 0 (Sl a17 Dv c18) Dv, Ch.ro 0 (Sl a7 Dv c8) Dv, Ch.bx n0 b3 0 [(I Cs.1), (Sl Dw Cs.2.1 Dx), (I Cs.2.2)] [] [], Ch.bx n0 b1 0 [(I Bd.1), (Sl Be Bd.2.1 Bf), (I Bd.2.2)] [] [], Ch.ro 0 (Sl Be Bd.2.1 Bf) Bd.2.1, Ch.ro 0 (Sl Dw Cs.2.1 Dx) Cs.2.1, Ch.ro 0 (Sl (some ⟨Dy, Dz, none⟩) ([Du] : List Int) 1) ([Du] : List Int), Ch.ro 0 (Sl (some ⟨Ea, Eb, none⟩) ([Dv] : List (List Int)) 1) ([Dv] : List (List Int))] ∧ Md (cov []) σ4 σm] [fun _ => (.agg #[(I Bd.1), (Sl Be Bd.2.1 Bf), (I Bd.2.2)]), fun _ => (I Du), fun _ => (Sl a7 Dv c8), fun _ => (.agg #[(I r12.1), (I r12.2)]), fun _ => (.agg #[(I Cs.1), (Sl Dw Cs.2.1 Dx), (I Cs.2.2)]), fun _ => (I Du), fun _ => (Sl a17 Dv c18)] () (by kernel_rfl) (by kernel_rfl) ?_ ?_ ?_
 ·intro σm m0
  exact ⟨H.grow (m0.mono fun _ h => h.elim), m0⟩
 ·refine all_cons (by
    refine ⟨?_, ?_⟩
    ·intro _nm ρ σm hJ hoff hdep
     have e4 := look_off (N := 16) (hoff 4 rfl) rfl
     obtain ⟨H, m⟩ := id hJ
     have hc5 := H.cells 3 rfl
     exact dp_v (v := (.agg #[(I Bd.1), (Sl Be Bd.2.1 Bf), (I Bd.2.2)])) wn (rv_load (cs := [(I Bd.1), (Sl Be Bd.2.1 Bf), (I Bd.2.2)]) Tryz.underlying59 rfl ti59 e4 rfl hc5) rfl hJ
    trivial) ?_
  refine all_cons (by
    refine ⟨?_, ?_⟩
    ·intro _nm ρ σm hJ hoff hdep
     have e2 := look_off (N := 16) (hoff 2 rfl) rfl
     obtain ⟨H, m⟩ := id hJ
     replace hc6 := (Hs.ro 6 rfl).hmd hxp_2 hip_2 (k := 0) (by decide) hc6 m
     exact dp_v (v := (I Du)) wn (rv_load1 Tryz.underlying3 rfl e2 hc6) rfl hJ
    trivial) ?_
  refine all_cons (by
    refine ⟨?_, ?_⟩
    ·intro _nm ρ σm hJ hoff hdep
     have e3 := look_off (N := 16) (hoff 3 rfl) rfl
     obtain ⟨H, m⟩ := id hJ
     replace hc11 := (Hs.ro 7 rfl).hmd hxp_3 hip_3 (k := 0) (by decide) hc11 m
     exact dp_v (v := (Sl a7 Dv c8)) wn (rv_load1 Tryz.underlying24 rfl e3 hc11) rfl hJ
    trivial) ?_
  refine all_cons (by
    refine ⟨?_, ?_⟩
    ·intro _nm ρ σm hJ hoff hdep
     have e7 : look 16 ρ 7 = (.agg #[(I Bd.1), (Sl Be Bd.2.1 Bf), (I Bd.2.2)]) := hdep 0 rfl rfl 7 rfl
     have e8 : look 16 ρ 8 = (I Du) := hdep 1 rfl rfl 8 rfl
     have e9 : look 16 ρ 9 = (Sl a7 Dv c8) := hdep 2 rfl rfl 9 rfl
     obtain ⟨H, m⟩ := id hJ
     refine dp_cx wn (cx_call hc14 (ent_f hc14.fn (by show [look 16 ρ 7, look 16 ρ 8, look 16 ρ 9] = _; rw [e7, e8, e9])) hn0 (H.sel' [4, 1, 0, 1, 2, 3, 4, 5, 6, 7] rfl rfl : Hp S0 σ0 _ ([_, _] ++ _))) ?_
     rintro _ σq ⟨_, ⟨rfl, rfl⟩, H2, m2⟩
     exact ⟨_, (), rfl, rfl, ⟨H2.sel' [0, 1, 2, 3, 4, 5, 6, 7] rfl rfl, m.comp0 (m2.mono (fun i h => by simp [cov, Ch.ro] at h))⟩, stab [0, 1, 2, 4, 5, 6] (by kernel_rfl) ⟨rfl, rfl, rfl, rfl, rfl, rfl, trivial⟩⟩
    trivial) ?_
  refine all_cons (by
    refine ⟨?_, ?_⟩
    ·intro _nm ρ σm hJ hoff hdep
     have e5 := look_off (N := 16) (hoff 5 rfl) rfl
     obtain ⟨H, m⟩ := id hJ
     have hc15 := H.cells 2 rfl
     exact dp_v (v := (.agg #[(I Cs.1), (Sl Dw Cs.2.1 Dx), (I Cs.2.2)])) wn (rv_load (cs := [(I Cs.1), (Sl Dw Cs.2.1 Dx), (I Cs.2.2)]) Tryz.underlying59 rfl ti59 e5 rfl hc15) rfl hJ
    refine ⟨?_, ?_⟩
    ·intro _nm ρ σm hJ hoff hdep
     have e5 := look_off (N := 16) (hoff 5 rfl) rfl
     obtain ⟨H, m⟩ := id hJ
     have hc15 := H.cells 2 rfl
     exact dp_v (v := (.agg #[(I Cs.1), (Sl Dw Cs.2.1 Dx), (I Cs.2.2)])) wn (rv_load (cs := [(I Cs.1), (Sl Dw Cs.2.1 Dx), (I Cs.2.2)]) Tryz.underlying59 rfl ti59 e5 rfl hc15) rfl hJ
    trivial) ?_
  refine all_cons (by
    refine ⟨?_, ?_⟩
    ·intro _nm ρ σm hJ hoff hdep
     have e2 := look_off (N := 16) (hoff 2 rfl) rfl
     obtain ⟨H, m⟩ := id hJ
     replace hc16 := (Hs.ro 6 rfl).hmd hxp_2 hip_2 (k := 0) (by decide) hc16 m
     exact dp_v (v := (I Du)) wn (rv_load1 Tryz.underlying3 rfl e2 hc16) rfl hJ
    refine ⟨?_, ?_⟩
    ·intro _nm ρ σm hJ hoff hdep
     have e2 := look_off (N := 16) (hoff 2 rfl) rfl
     obtain ⟨H, m⟩ := id hJ
     replace hc16 := (Hs.ro 6 rfl).hmd hxp_2 hip_2 (k := 0) (by decide) hc16 m
     exact dp_v (v := (I Du)) wn (rv_load1 Tryz.underlying3 rfl e2 hc16) rfl hJ
    trivial) ?_
  refine all_cons (by
    refine ⟨?_, ?_⟩
    ·intro _nm ρ σm hJ hoff hdep
     have e3 := look_off (N := 16) (hoff 3 rfl) rfl
     obtain ⟨H, m⟩ := id hJ
     replace hc21 := (Hs.ro 7 rfl).hmd hxp_3 hip_3 (k := 0) (by decide) hc21 m
     exact dp_v (v := (Sl a17 Dv c18)) wn (rv_load1 Tryz.underlying24 rfl e3 hc21) rfl hJ
    refine ⟨?_, ?_⟩
    ·intro _nm ρ σm hJ hoff hdep
     have e3 := look_off (N := 16) (hoff 3 rfl) rfl
     obtain ⟨H, m⟩ := id hJ
     replace hc21 := (Hs.ro 7 rfl).hmd hxp_3 hip_3 (k := 0) (by decide) hc21 m
     exact dp_v (v := (Sl a17 Dv c18)) wn (rv_load1 Tryz.underlying24 rfl e3 hc21) rfl hJ
    trivial) ?_
  exact all_nil
 ·intro _nm ρ σ22 hJ hoff hrel
  have e10 := hrel 3 rfl 10 rfl
  have e11 := hrel 4 rfl 11 rfl
  have e12 := hrel 5 rfl 12 rfl
  have e13 := hrel 6 rfl 13 rfl
  obtain ⟨H, -⟩ := (show Hp S0 σ0 σ22 [Ch.ro 0 (Sl a17 Dv c18) Dv, Ch.ro 0 (Sl a7 Dv c8) Dv, Ch.bx n0 b3 0 [(I Cs.1), (Sl Dw Cs.2.1 Dx), (I Cs.2.2)] [] [], Ch.bx n0 b1 0 [(I Bd.1), (Sl Be Bd.2.1 Bf), (I Bd.2.2)] [] [], Ch.ro 0 (Sl Be Bd.2.1 Bf) Bd.2.1, Ch.ro 0 (Sl Dw Cs.2.1 Dx) Cs.2.1, Ch.ro 0 (Sl (some ⟨Dy, Dz, none⟩) ([Du] : List Int) 1) ([Du] : List Int), Ch.ro 0 (Sl (some ⟨Ea, Eb, none⟩) ([Dv] : List (List Int)) 1) ([Dv] : List (List Int))] ∧ Md (cov []) σ4 σ22 from hJ)
  clear hJ Hs
  rw [fr_lookL (L := [(10, (.agg #[(I r12.1), (I r12.2)])), (11, (.agg #[(I Cs.1), (Sl Dw Cs.2.1 Dx), (I Cs.2.2)])), (12, (I Du)), (13, (Sl a17 Dv c18))]) ⟨e10, e11, e12, e13, trivial⟩]
  clear hoff hrel e10 e11 e12 e13
  revert h; refine br fun r23 hx24 h => ?_
  have hc25 := c_impl_hitOf (Be := Dw) (Bf := Dx) (Bt := a17) (Bu := c18) hx24
  refine st_call (cx_call hc25 (ent_f hc25.fn rfl) hn0 (H.sel' [5, 0, 0, 1, 2, 3, 4, 5, 6, 7] rfl rfl : Hp S0 σ0 _ ([_, _] ++ _))) wn ?_
  rintro _ σ26 ⟨_, ⟨rfl, rfl⟩, H, -⟩
  replace H : Hp _ _ _ [_, _, _, _, _, _, _, _] := H
  replace H : Hp S0 σ0 σ26 [] := H.sel' [] rfl rfl
  revert h; refine br fun r27 hx28 h => ?_
  have hc29 := c_impl_compareHits hx28
  refine st_call (cx_call hc29 (ent_f hc29.fn rfl) hn0 (H.sel' [] rfl rfl : Hp S0 σ0 _ ([] ++ _))) wn ?_
  rintro _ σ30 ⟨_, ⟨rfl, rfl⟩, H, -⟩
  replace H : Hp _ _ _ [] := H
  refine sa (I r27) rfl (w_end (q_then (c_ret ?_)))
  obtain rfl := sj h
  exact fin_ret (v := (I r27)) (results_ok Tryz.results62 (res_tmp (v := (I r27)) rfl res_nil) rfl) ⟨rfl, rfl⟩ (H.sel' [] rfl rfl)

def sort61_ren : Go.Shelf.Ren := ⟨fun | 6 => 61 | 15 => 85 | 14 => 84 | 28 => 102 | 29 => 103 | 20 => 94 | 21 => 95 | 22 => 96 | 23 => 97 | 24 => 98 | 25 => 99 | 26 => 100 | 27 => 101 | 46 => 113 | 47 => 114 | 48 => 115 | 49 => 116 | 50 => 117 | 57 => 121 | n => n, fun | 22 => 23 | 24 => 59 | 25 => 95 | 3 => 3 | 39 => 121 | 0 => 0 | 53 => 137 | 55 => 139 | 4 => 4 | 46 => 130 | 45 => 129 | 50 => 134 | 5 => 5 | 9 => 9 | 66 => 146 | 70 => 150 | 76 => 154 | 77 => 155 | n => n, fun | n => n⟩
theorem sort61 : Go.Proofs.SlLaysF0.n6 Tryz.prog sort61_ren := {
  mixed := by kernel_rfl
  f6 := ⟨Tryz.f61.name, by decide, Tryz.func61.trans (congrArg some (by kernel_rfl))⟩
  f14 := ⟨Tryz.f84.name, by decide, Tryz.func84.trans (congrArg some (by kernel_rfl))⟩
  f15 := Tryz.func85.trans (congrArg some (by kernel_rfl))
  f20 := ⟨Tryz.f94.name, by decide, Tryz.func94.trans (congrArg some (by kernel_rfl))⟩
  f21 := ⟨Tryz.f95.name, by decide, Tryz.func95.trans (congrArg some (by kernel_rfl))⟩
  f22 := ⟨Tryz.f96.name, by decide, Tryz.func96.trans (congrArg some (by kernel_rfl))⟩
  f23 := ⟨Tryz.f97.name, by decide, Tryz.func97.trans (congrArg some (by kernel_rfl))⟩
  f24 := ⟨Tryz.f98.name, by decide, Tryz.func98.trans (congrArg some (by kernel_rfl))⟩
  f25 := ⟨Tryz.f99.name, by decide, Tryz.func99.trans (congrArg some (by kernel_rfl))⟩
  f26 := ⟨Tryz.f100.name, by decide, Tryz.func100.trans (congrArg some (by kernel_rfl))⟩
  f27 := ⟨Tryz.f101.name, by decide, Tryz.func101.trans (congrArg some (by kernel_rfl))⟩
  f28 := Tryz.func102.trans (congrArg some (by kernel_rfl))
  f29 := Tryz.func103.trans (congrArg some (by kernel_rfl))
  f46 := ⟨Tryz.f113.name, by decide, Tryz.func113.trans (congrArg some (by kernel_rfl))⟩
  f47 := Tryz.func114.trans (congrArg some (by kernel_rfl))
  f48 := Tryz.func115.trans (congrArg some (by kernel_rfl))
  f49 := ⟨Tryz.f116.name, by decide, Tryz.func116.trans (congrArg some (by kernel_rfl))⟩
  f50 := ⟨Tryz.f117.name, by decide, Tryz.func117.trans (congrArg some (by kernel_rfl))⟩
  f57 := ⟨Tryz.f121.name, by decide, Tryz.func121.trans (congrArg some (by kernel_rfl))⟩
  t0 := Tryz.underlying0
  a0 := Tryz.isAgg0
  z0 := Tryz.sizeOf0
  v0 := Tryz.zeroValue0
  t3 := Tryz.underlying3
  a3 := Tryz.isAgg3
  z3 := Tryz.sizeOf3
  v3 := Tryz.zeroValue3
  t4 := Tryz.underlying4
  a4 := Tryz.isAgg4
  z4 := Tryz.sizeOf4
  v4 := Tryz.zeroValue4
  t5 := Tryz.underlying5
  a5 := Tryz.isAgg5
  z5 := Tryz.sizeOf5
  v5 := Tryz.zeroValue5
  t9 := Tryz.underlying9
  a9 := Tryz.isAgg9
  z9 := Tryz.sizeOf9
  v9 := Tryz.zeroValue9
  t22 := Tryz.underlying23
  a22 := Tryz.isAgg23
  z22 := Tryz.sizeOf23
  v22 := Tryz.zeroValue23
  t25 := Tryz.underlying95
  a25 := Tryz.isAgg95
  z25 := Tryz.sizeOf95
  v25 := Tryz.zeroValue95
  t39 := Tryz.underlying121
  a39 := Tryz.isAgg121
  z39 := Tryz.sizeOf121
  v39 := Tryz.zeroValue121
  t45 := Tryz.underlying129
  a45 := Tryz.isAgg129
  z45 := Tryz.sizeOf129
  v45 := Tryz.zeroValue129
  t46 := Tryz.underlying130
  a46 := Tryz.isAgg130
  z46 := Tryz.sizeOf130
  v46 := Tryz.zeroValue130
  t50 := Tryz.underlying134
  a50 := Tryz.isAgg134
  z50 := Tryz.sizeOf134
  v50 := Tryz.zeroValue134
  t53 := Tryz.underlying137
  a53 := Tryz.isAgg137
  z53 := Tryz.sizeOf137
  v53 := Tryz.zeroValue137
  t55 := Tryz.underlying139
  a55 := Tryz.isAgg139
  z55 := Tryz.sizeOf139
  v55 := Tryz.zeroValue139
  t66 := Tryz.underlying146
  a66 := Tryz.isAgg146
  z66 := Tryz.sizeOf146
  v66 := Tryz.zeroValue146
  t70 := Tryz.underlying150
  a70 := Tryz.isAgg150
  z70 := Tryz.sizeOf150
  v70 := Tryz.zeroValue150
  t76 := Tryz.underlying154
  a76 := Tryz.isAgg154
  z76 := Tryz.sizeOf154
  v76 := Tryz.zeroValue154
  t77 := Tryz.underlying155
  a77 := Tryz.isAgg155
  z77 := Tryz.sizeOf155
  v77 := Tryz.zeroValue155 }

theorem c_slices_SortFunc_impl_Item_impl_Item__impl_sortByDistance_1 {Bd : List (Int × (List Int) × Int)} {Ec : Int} {Ed : List Int} {Ee : Option Addr} {Ef : Nat} {Eg Eh Ei : Nat} {Ej Ek : List Value} {El : Option Addr} {Em : Nat} {En Eo Ep : Nat} {Er Es : List Value} {r : List (Int × (List Int) × Int)} (h : M.slices_SortFunc_impl_Item_impl_Item__impl_sortByDistance_1 Bd Ec Ed = some r) :
    Cal2 Tryz.prog 61 [(Sl Ee Bd Ef), (.func (.func 62) #[] #[(pt Eh Ei), (pt Eo Ep)])] [Ch.own 0 0 (Sl Ee Bd Ef) Bd, Ch.bx Eg Eh Ei [(I Ec)] Ej Ek, Ch.bx En Eo Ep [(Sl El Ed Em)] Er Es, Ch.ro 0 (Sl El Ed Em) Ed] (fun n0 v L => v = (.tuple #[]) ∧ L = [Ch.own 0 0 (Sl Ee r Ef) r, Ch.bx Eg Eh Ei [(I Ec)] Ej Ek, Ch.bx En Eo Ep [(Sl El Ed Em)] Er Es] ∧ r.length = Bd.length) := by
 obtain ⟨hn, hs, hL, rfl⟩ := sortD_some h
 have hE : ∀ σ σ' : St, Ext σ σ' → (RS 0 σ (Sl (some ⟨Eh, Ei, none⟩) ([Ec] : List Int) 1) ([Ec] : List Int) ∧ RS 0 σ (Sl (some ⟨Eo, Ep, none⟩) ([Ed] : List (List Int)) 1) ([Ed] : List (List Int)) ∧ RS 0 σ (Sl El Ed Em) Ed) → (RS 0 σ' (Sl (some ⟨Eh, Ei, none⟩) ([Ec] : List Int) 1) ([Ec] : List Int) ∧ RS 0 σ' (Sl (some ⟨Eo, Ep, none⟩) ([Ed] : List (List Int)) 1) ([Ed] : List (List Int)) ∧ RS 0 σ' (Sl El Ed Em) Ed) := fun σ σ' hE hp => ⟨hp.1.ext hE, hp.2.1.ext hE, hp.2.2.ext hE⟩
 have hB : ∀ σ : St, allAs σ [Ch.bx Eg Eh Ei [(I Ec)] Ej Ek, Ch.bx En Eo Ep [(Sl El Ed Em)] Er Es, Ch.ro 0 (Sl El Ed Em) Ed] → apart [Ch.bx Eg Eh Ei [(I Ec)] Ej Ek, Ch.bx En Eo Ep [(Sl El Ed Em)] Er Es, Ch.ro 0 (Sl El Ed Em) Ed] → ∃ σp, Pb (cov [Ch.bx Eg Eh Ei [(I Ec)] Ej Ek, Ch.bx En Eo Ep [(Sl El Ed Em)] Er Es, Ch.ro 0 (Sl El Ed Em) Ed]) σ σp ∧ (RS 0 σp (Sl (some ⟨Eh, Ei, none⟩) ([Ec] : List Int) 1) ([Ec] : List Int) ∧ RS 0 σp (Sl (some ⟨Eo, Ep, none⟩) ([Ed] : List (List Int)) 1) ([Ed] : List (List Int)) ∧ RS 0 σp (Sl El Ed Em) Ed) := by
     intro σ hA hP
     obtain ⟨σ0, p0, r0, a0⟩ := pubBox (α := Int) (x := Ec) hA hP (by exact rfl)
     obtain ⟨σ1, p1, r1, a1⟩ := pubBox (α := List Int) (x := Ed) a0 hP.2 (by exact ⟨_, rfl, (a0.2.1 : RS 0 σ0 (Sl El Ed Em) Ed)⟩)
     exact ⟨σ1, (p0.trans p1).mono (fun i h => h.elim (fun h => .inl h) (fun h => .inr (.inl h))), (r0.ext p1.md.ext), r1, a1.1⟩
 have hC : ∀ σ : St, (RS 0 σ (Sl (some ⟨Eh, Ei, none⟩) ([Ec] : List Int) 1) ([Ec] : List Int) ∧ RS 0 σ (Sl (some ⟨Eo, Ep, none⟩) ([Ed] : List (List Int)) 1) ([Ed] : List (List Int)) ∧ RS 0 σ (Sl El Ed Em) Ed) → ∀ x ∈ Bd, ∀ y ∈ Bd, ∀ cx cy, Rp.rp 0 σ cx x → Rp.rp 0 σ cy y → Calls Tryz.prog 62 ([Value.agg cx.toArray, Value.agg cy.toArray] ++ [(pt Eh Ei), (pt Eo Ep)]).toArray σ.w fun e w' => e = .returned (I ((M.impl_sortByDistance_1__p3__p24 (x.1, x.2.1, x.2.2) (y.1, y.2.1, y.2.2) Ec Ed).getD 0)) ∧ ∃ q os, w' = Go.Sort.grow (σ.w.drewN q) os := by
     intro σ hp x hx y hy cx cy rx ry
     obtain ⟨r, hr⟩ := hs x hx y hy
     obtain ⟨_, _, rfl, rfl, ⟨_, _, rfl, ⟨_, rfl, hRx_1⟩, rfl⟩⟩ := rx
     obtain ⟨_, _, rfl, rfl, ⟨_, _, rfl, ⟨_, rfl, hRy_1⟩, rfl⟩⟩ := ry
     obtain ⟨ax_1, cx_1, rfl⟩ := hRx_1.isSl
     obtain ⟨ay_1, cy_1, rfl⟩ := hRy_1.isSl
     have hc := c_impl_sortByDistance_1__p3__p24 (Be := ax_1) (Bf := cx_1) (Dw := ay_1) (Dx := cy_1) (Dy := Eh) (Dz := Ei) (Ea := Eo) (Eb := Ep) hr
     refine (hc.runs σ 0 (Nat.zero_le _) (Hp.begin ⟨hRx_1, ⟨hRy_1, ⟨hp.1, ⟨hp.2.1, trivial⟩⟩⟩⟩ ⟨fun _ h => h.elim, ⟨fun _ h => h.elim, ⟨fun _ h => h.elim, ⟨fun _ h => h.elim, trivial⟩⟩⟩⟩)).mono ?_
     rintro e w' ⟨v, σ', L', rfl, rfl, ⟨rfl, -⟩, H⟩
     exact ⟨by rw [hr]; rfl, (H.md.mono fun i => fun h => h.elim (fun h => h.elim) (fun h => h.elim (fun h => h.elim) (fun h => h.elim (fun h => h.elim) (fun h => h.elim (fun h => h.elim) (fun h => h))))).grown⟩
 refine (sort_cal2 (α := (Int × (List Int) × Int)) sort61 Tryz.isAgg59 Tryz.sizeOf59 (xs := Bd) (a := Ee) (c := Ef) (g := 62) (cb := [(pt Eh Ei), (pt Eo Ep)]) (B := [Ch.bx Eg Eh Ei [(I Ec)] Ej Ek, Ch.bx En Eo Ep [(Sl El Ed Em)] Er Es, Ch.ro 0 (Sl El Ed Em) Ed]) (fun x y => (M.impl_sortByDistance_1__p3__p24 (x.1, x.2.1, x.2.2) (y.1, y.2.1, y.2.2) Ec Ed).getD 0) hL hn ⟨_, _, Tryz.func62, rfl, rfl⟩ _ hE hB hC).conv ?_
 rintro m v L ⟨rfl, rfl⟩
 exact ⟨_, ⟨rfl, rfl, sortL_len⟩, fun H => H.sel' [0, 1, 2] rfl rfl⟩

end Go.Vs
