/- The functions compute what their models say. -/
import Derived.Test.YtflpjndobffkjaaKTreeVisitsAllC2
set_option linter.unusedVariables false
set_option linter.unusedSimpArgs false
set_option maxRecDepth 20000
namespace Go.Vs
open Go Go.Proofs
attribute [local irreducible] Code.wp Code.wpIn wpList wpListIn wpQuiet Calls CallsIn

theorem c_impl_sortByDistance_1__p3__p24 {Bd : Int × (List Int) × Int} {Cf : Int × (List Int) × Int} {Ck : Int} {Cl : List Int} {Be : Option Addr} {Bf : Nat} {Cm : Option Addr} {Cn : Nat} {Cp Cq Cr : Nat} {Cs Ct : List Value} {Cu : Option Addr} {Cv : Nat} {Cw Cy Cz : Nat} {Da Db : List Value} {r : Int} (h : M.impl_sortByDistance_1__p3__p24 Bd Cf Ck Cl = some r) :
    Cal2 Try.prog 88 [(.agg #[(I Bd.1), (Sl Be Bd.2.1 Bf), (I Bd.2.2)]), (.agg #[(I Cf.1), (Sl Cm Cf.2.1 Cn), (I Cf.2.2)]), (pt Cq Cr), (pt Cy Cz)] [Ch.ro 0 (Sl Be Bd.2.1 Bf) Bd.2.1, Ch.ro 0 (Sl Cm Cf.2.1 Cn) Cf.2.1, Ch.bx Cp Cq Cr [(I Ck)] Cs Ct, Ch.bx Cw Cy Cz [(Sl Cu Cl Cv)] Da Db, Ch.ro 0 (Sl Cu Cl Cv) Cl] (fun n0 v L => v = (I r) ∧ L = [Ch.bx Cp Cq Cr [(I Ck)] Cs Ct, Ch.bx Cw Cy Cz [(Sl Cu Cl Cv)] Da Db]) := by
 refine cal2 (n := 16) Try.func88 rfl rfl rfl rfl ?_
 intro S0 σ0 n0 hn0 H
 unfold M.impl_sortByDistance_1__p3__p24 at h
 refine c_seq (rg (st_ex (ex_box (cs := [(I Bd.1), (Sl Be Bd.2.1 Bf), (I Bd.2.2)]) H hn0 rfl rfl) wn ?_))
 rintro _ σ2 ⟨b1, rfl, H, -⟩
 refine st_ex (ex_box (cs := [(I Cf.1), (Sl Cm Cf.2.1 Cn), (I Cf.2.2)]) H hn0 rfl rfl) wn ?_
 rintro _ σ4 ⟨b3, rfl, H, -⟩
 refine st (v := (I 0)) (rv_assign rfl) (w_end (q_then (c_seq ?_)))
 have hc5 := H.cells 1 rfl
 have hc6 := H.cell (u := (I Ck)) (o' := Cr) 4 0 rfl rfl rfl
 have hc7 := H.cell (u := (Sl Cu Cl Cv)) (o' := Cz) 5 0 rfl rfl rfl
 obtain ⟨r8, hx9, h'⟩ := bind_some h
 clear h
 have h := h'; clear h'
 have hc10 := c_impl_hitOf (Be := Be) (Bf := Bf) (Cd := Cu) (Ce := Cv) hx9
 have hc11 := H.cells 0 rfl
 have hc12 := H.cell (u := (I Ck)) (o' := Cr) 4 0 rfl rfl rfl
 have hc13 := H.cell (u := (Sl Cu Cl Cv)) (o' := Cz) 5 0 rfl rfl rfl
 have Hs := H
 refine rg2 (σ := σ4) (Nm := Unit) 7 [3] [[false], [true]] [[(0, 0)], [(0, 0)], [(0, 0)], [(0, 1)], [(0, 0), (1, 1)], [(0, 0), (1, 1)], [(0, 0), (1, 1)]] 1 [fun _ => fun σm => Hp S0 σ0 σm [Ch.bx n0 b3 0 [(I Cf.1), (Sl Cm Cf.2.1 Cn), (I Cf.2.2)] [] [], Ch.bx n0 b1 0 [(I Bd.1), (Sl Be Bd.2.1 Bf), (I Bd.2.2)] [] [], Ch.ro 0 (Sl Be Bd.2.1 Bf) Bd.2.1, Ch.ro 0 (Sl Cm Cf.2.1 Cn) Cf.2.1, Ch.bx Cp Cq Cr [(I Ck)] Cs Ct, Ch.bx Cw Cy Cz [(Sl Cu Cl Cv)] Da Db, Ch.ro 0 (Sl Cu Cl Cv) Cl] ∧ Md (cov []) σ4 σm, fun _ => fun σm => Hp S0 σ0 σm [Ch.bx n0 b3 0 [(I Cf.1), (Sl Cm Cf.2.1 Cn), (I Cf.2.2)] [] [], Ch.bx n0 b1 0 [(I Bd.1), (Sl Be Bd.2.1 Bf), (I Bd.2.2)] [] [], Ch.ro 0 (Sl Be Bd.2.1 Bf) Bd.2.1, Ch.ro 0 (Sl Cm Cf.2.1 Cn) Cf.2.1, Ch.bx Cp Cq Cr [(I Ck)] Cs Ct, Ch.bx Cw Cy Cz [(Sl Cu Cl Cv)] Da Db, Ch.ro 0 (Sl Cu Cl Cv) Cl] ∧ Md (cov []) σ4 σm] [fun _ => (.agg #[(I Bd.1), (Sl Be Bd.2.1 Bf), (I Bd.2.2)]), fun _ => (I Ck), fun _ => (Sl Cu Cl Cv), fun _ => (.agg #[(I r8.1), (I r8.2)]), fun _ => (.agg #[(I Cf.1), (Sl Cm Cf.2.1 Cn), (I Cf.2.2)]), fun _ => (I Ck), fun _ => (Sl Cu Cl Cv)] () (by kernel_rfl) (by kernel_rfl) ?_ ?_ ?_
 ·intro σm m0
  exact ⟨H.grow (m0.mono fun _ h => h.elim), m0⟩
 ·refine all_cons (by
    refine ⟨?_, ?_⟩
    ·intro _nm ρ σm hJ hoff hdep
     have e4 := look_off (N := 16) (hoff 4 rfl) rfl
     obtain ⟨H, m⟩ := id hJ
     have hc5 := H.cells 1 rfl
     exact dp_v (v := (.agg #[(I Bd.1), (Sl Be Bd.2.1 Bf), (I Bd.2.2)])) wn (rv_load (cs := [(I Bd.1), (Sl Be Bd.2.1 Bf), (I Bd.2.2)]) Try.underlying34 rfl ti34 e4 rfl hc5) rfl hJ
    trivial) ?_
  refine all_cons (by
    refine ⟨?_, ?_⟩
    ·intro _nm ρ σm hJ hoff hdep
     have e2 := look_off (N := 16) (hoff 2 rfl) rfl
     obtain ⟨H, m⟩ := id hJ
     have hc6 := H.cell (u := (I Ck)) (o' := Cr) 4 0 rfl rfl rfl
     exact dp_v (v := (I Ck)) wn (rv_load1 Try.underlying3 rfl e2 hc6) rfl hJ
    trivial) ?_
  refine all_cons (by
    refine ⟨?_, ?_⟩
    ·intro _nm ρ σm hJ hoff hdep
     have e3 := look_off (N := 16) (hoff 3 rfl) rfl
     obtain ⟨H, m⟩ := id hJ
     have hc7 := H.cell (u := (Sl Cu Cl Cv)) (o' := Cz) 5 0 rfl rfl rfl
     exact dp_v (v := (Sl Cu Cl Cv)) wn (rv_load1 Try.underlying29 rfl e3 hc7) rfl hJ
    trivial) ?_
  refine all_cons (by
    refine ⟨?_, ?_⟩
    ·intro _nm ρ σm hJ hoff hdep
     have e7 : look 16 ρ 7 = (.agg #[(I Bd.1), (Sl Be Bd.2.1 Bf), (I Bd.2.2)]) := hdep 0 rfl rfl 7 rfl
     have e8 : look 16 ρ 8 = (I Ck) := hdep 1 rfl rfl 8 rfl
     have e9 : look 16 ρ 9 = (Sl Cu Cl Cv) := hdep 2 rfl rfl 9 rfl
     obtain ⟨H, m⟩ := id hJ
     refine dp_cx wn (cx_call hc10 (ent_f hc10.fn (by show [look 16 ρ 7, look 16 ρ 8, look 16 ρ 9] = _; rw [e7, e8, e9])) hn0 (H.sel' [2, 6, 0, 1, 2, 3, 4, 5, 6] rfl rfl : Hp S0 σ0 _ ([_, _] ++ _))) ?_
     rintro _ σq ⟨_, ⟨rfl, rfl⟩, H2, m2⟩
     exact ⟨_, (), rfl, rfl, ⟨H2.sel' [0, 1, 2, 3, 4, 5, 6] rfl rfl, m.comp0 (m2.mono (fun i h => by simp [cov, Ch.ro] at h))⟩, stab [0, 1, 2, 4, 5, 6] (by kernel_rfl) ⟨rfl, rfl, rfl, rfl, rfl, rfl, trivial⟩⟩
    trivial) ?_
  refine all_cons (by
    refine ⟨?_, ?_⟩
    ·intro _nm ρ σm hJ hoff hdep
     have e5 := look_off (N := 16) (hoff 5 rfl) rfl
     obtain ⟨H, m⟩ := id hJ
     have hc11 := H.cells 0 rfl
     exact dp_v (v := (.agg #[(I Cf.1), (Sl Cm Cf.2.1 Cn), (I Cf.2.2)])) wn (rv_load (cs := [(I Cf.1), (Sl Cm Cf.2.1 Cn), (I Cf.2.2)]) Try.underlying34 rfl ti34 e5 rfl hc11) rfl hJ
    refine ⟨?_, ?_⟩
    ·intro _nm ρ σm hJ hoff hdep
     have e5 := look_off (N := 16) (hoff 5 rfl) rfl
     obtain ⟨H, m⟩ := id hJ
     have hc11 := H.cells 0 rfl
     exact dp_v (v := (.agg #[(I Cf.1), (Sl Cm Cf.2.1 Cn), (I Cf.2.2)])) wn (rv_load (cs := [(I Cf.1), (Sl Cm Cf.2.1 Cn), (I Cf.2.2)]) Try.underlying34 rfl ti34 e5 rfl hc11) rfl hJ
    trivial) ?_
  refine all_cons (by
    refine ⟨?_, ?_⟩
    ·intro _nm ρ σm hJ hoff hdep
     have e2 := look_off (N := 16) (hoff 2 rfl) rfl
     obtain ⟨H, m⟩ := id hJ
     have hc12 := H.cell (u := (I Ck)) (o' := Cr) 4 0 rfl rfl rfl
     exact dp_v (v := (I Ck)) wn (rv_load1 Try.underlying3 rfl e2 hc12) rfl hJ
    refine ⟨?_, ?_⟩
    ·intro _nm ρ σm hJ hoff hdep
     have e2 := look_off (N := 16) (hoff 2 rfl) rfl
     obtain ⟨H, m⟩ := id hJ
     have hc12 := H.cell (u := (I Ck)) (o' := Cr) 4 0 rfl rfl rfl
     exact dp_v (v := (I Ck)) wn (rv_load1 Try.underlying3 rfl e2 hc12) rfl hJ
    trivial) ?_
  refine all_cons (by
    refine ⟨?_, ?_⟩
    ·intro _nm ρ σm hJ hoff hdep
     have e3 := look_off (N := 16) (hoff 3 rfl) rfl
     obtain ⟨H, m⟩ := id hJ
     have hc13 := H.cell (u := (Sl Cu Cl Cv)) (o' := Cz) 5 0 rfl rfl rfl
     exact dp_v (v := (Sl Cu Cl Cv)) wn (rv_load1 Try.underlying29 rfl e3 hc13) rfl hJ
    refine ⟨?_, ?_⟩
    ·intro _nm ρ σm hJ hoff hdep
     have e3 := look_off (N := 16) (hoff 3 rfl) rfl
     obtain ⟨H, m⟩ := id hJ
     have hc13 := H.cell (u := (Sl Cu Cl Cv)) (o' := Cz) 5 0 rfl rfl rfl
     exact dp_v (v := (Sl Cu Cl Cv)) wn (rv_load1 Try.underlying29 rfl e3 hc13) rfl hJ
    trivial) ?_
  exact all_nil
 ·intro _nm ρ σ14 hJ hoff hrel
  have e2 := look_off (N := 16) (hoff 2 rfl) rfl
  have e3 := look_off (N := 16) (hoff 3 rfl) rfl
  have e10 := hrel 3 rfl 10 rfl
  have e11 := hrel 4 rfl 11 rfl
  have e12 := hrel 5 rfl 12 rfl
  have e13 := hrel 6 rfl 13 rfl
  obtain ⟨H, -⟩ := (show Hp S0 σ0 σ14 [Ch.bx n0 b3 0 [(I Cf.1), (Sl Cm Cf.2.1 Cn), (I Cf.2.2)] [] [], Ch.bx n0 b1 0 [(I Bd.1), (Sl Be Bd.2.1 Bf), (I Bd.2.2)] [] [], Ch.ro 0 (Sl Be Bd.2.1 Bf) Bd.2.1, Ch.ro 0 (Sl Cm Cf.2.1 Cn) Cf.2.1, Ch.bx Cp Cq Cr [(I Ck)] Cs Ct, Ch.bx Cw Cy Cz [(Sl Cu Cl Cv)] Da Db, Ch.ro 0 (Sl Cu Cl Cv) Cl] ∧ Md (cov []) σ4 σ14 from hJ)
  clear hJ Hs
  rw [fr_lookL (L := [(2, (pt Cq Cr)), (3, (pt Cy Cz)), (10, (.agg #[(I r8.1), (I r8.2)])), (11, (.agg #[(I Cf.1), (Sl Cm Cf.2.1 Cn), (I Cf.2.2)])), (12, (I Ck)), (13, (Sl Cu Cl Cv))]) ⟨e2, e3, e10, e11, e12, e13, trivial⟩]
  clear hoff hrel e2 e3 e10 e11 e12 e13
  obtain ⟨r15, hx16, h'⟩ := bind_some h
  clear h
  have h := h'; clear h'
  have hc17 := c_impl_hitOf (Be := Cm) (Bf := Cn) (Cd := Cu) (Ce := Cv) hx16
  refine st_call (cx_call hc17 (ent_f hc17.fn rfl) hn0 (H.sel' [3, 6, 0, 1, 2, 3, 4, 5, 6] rfl rfl : Hp S0 σ0 _ ([_, _] ++ _))) wn ?_
  rintro _ σ18 ⟨_, ⟨rfl, rfl⟩, H, -⟩
  replace H : Hp _ _ _ [_, _, _, _, _, _, _] := H
  obtain ⟨r19, hx20, h'⟩ := bind_some h
  clear h
  have h := h'; clear h'
  have hc21 := c_impl_compareHits hx20
  refine st_call (cx_call hc21 (ent_f hc21.fn rfl) hn0 (H.sel' [0, 1, 2, 3, 4, 5, 6] rfl rfl : Hp S0 σ0 _ ([] ++ _))) wn ?_
  rintro _ σ22 ⟨_, ⟨rfl, rfl⟩, H, -⟩
  replace H : Hp _ _ _ [_, _, _, _, _, _, _] := H
  refine st (v := (I r19)) (rv_assign rfl) (w_end (q_then (c_ret ?_)))
  obtain rfl := Option.some.inj h
  exact fin_ret (v := (I r19)) (results_ok Try.results88 (res_tmp (v := (I r19)) rfl res_nil) rfl) ⟨rfl, rfl⟩ (H.sel' [4, 5] rfl rfl)

theorem c_slices_insertionSortCmpFunc_impl_Item__impl_sortByDistance_1 {Dc : List (Int × (List Int) × Int)} {Bq : Int} {Br : Int} {Dd : Int} {De : List Int} {Dg : Option Addr} {Dh : Nat} {Di Dj Dk : Nat} {Dl Dm : List Value} {Dn : Option Addr} {Do : Nat} {Dp Dq Dr : Nat} {Ds Dt : List Value} {r : (List (Int × (List Int) × Int))} (h : M.slices_insertionSortCmpFunc_impl_Item__impl_sortByDistance_1 Dc Bq Br Dd De = some r) :
    Cal2 Try.prog 112 [(Sl Dg Dc Dh), (I Bq), (I Br), (.func (.func 88) #[] #[(pt Dj Dk), (pt Dq Dr)])] [Ch.own 0 0 (Sl Dg Dc Dh) Dc, Ch.bx Di Dj Dk [(I Dd)] Dl Dm, Ch.bx Dp Dq Dr [(Sl Dn De Do)] Ds Dt, Ch.ro 0 (Sl Dn De Do) De] (fun n0 v L => v = (.tuple #[]) ∧ L = [Ch.own 0 0 (Sl Dg r Dh) r, Ch.bx Di Dj Dk [(I Dd)] Dl Dm, Ch.bx Dp Dq Dr [(Sl Dn De Do)] Ds Dt] ∧ r.length = Dc.length) := by
 refine cal2 (n := 53) Try.func112 rfl rfl rfl rfl ?_
 intro S0 σ0 n0 hn0 H
 unfold M.slices_insertionSortCmpFunc_impl_Item__impl_sortByDistance_1 at h
 refine c_seq (rg (st (v := (I Bq)) (rv_move rfl) (st (v := (I (w64 (Bq + 1)))) (rv_add (a := Bq) (b := 1) rfl rfl) (st (v := (I (w64 (Bq + 1)))) (rv_assign rfl) (w_end (q_then ?_))))))
 obtain ⟨o1, hj, h'⟩ := bind_some h
 clear h
 refine c_cut (fun e a w => e = .normal ∧ ∃ (ρ : Nat → Value) (σ : St), a = fr 53 (updL ρ [(0, (Sl Dg o1 Dh)), (3, (.func (.func 88) #[] #[(pt Dj Dk), (pt Dq Dr)]))]) ∧ w = σ.w ∧ Hp S0 σ0 σ [Ch.own 0 0 (Sl Dg o1 Dh) o1, Ch.bx Di Dj Dk [(I Dd)] Dl Dm, Ch.ro 0 (Sl Dn De Do) De, Ch.bx Dp Dq Dr [(Sl Dn De Do)] Ds Dt] ∧ o1.length = Dc.length) ?_ ?_
 ·clear h'
  rename _ = some o1 => h
  refine c_blk (wp_loopM _ h (fun s2 a w => ∃ (ρ : Nat → Value) (σ : St), a = fr 53 (updL ρ [(0, (Sl Dg s2.1 Dh)), (1, (I Bq)), (2, (I Br)), (3, (.func (.func 88) #[] #[(pt Dj Dk), (pt Dq Dr)])), (8, (I s2.2))]) ∧ w = σ.w ∧ Hp S0 σ0 σ [Ch.own 0 0 (Sl Dg s2.1 Dh) s2.1, Ch.bx Di Dj Dk [(I Dd)] Dl Dm, Ch.ro 0 (Sl Dn De Do) De, Ch.bx Dp Dq Dr [(Sl Dn De Do)] Ds Dt] ∧ s2.1.length = Dc.length) ⟨_, σ0, fr_join ⟨rfl, rfl, rfl, rfl, rfl, trivial⟩, rfl, H.sel' [0, 1, 3, 2] rfl rfl, rfl⟩ ?_)
  clear h H
  rintro s2 a w o ⟨ρ, σ3, rfl, rfl, H, hn4⟩ h hres
  refine c_seq (c_seq (rg (st (v := (I s2.2)) (rv_move rfl) (st (v := (I Br)) (rv_move rfl) (st (v := (B (decide (s2.2 < Br)))) (rv_lss (a := s2.2) (b := Br) rfl rfl) (w_end (q_then ?_)))))))
  refine cd_cond (decide (s2.2 < Br)) rfl (fun hb5 => ?_) (fun hb5 => ?_)
  ·replace h := bif_t hb5 h
   refine c_skip (q_then (c_seq (c_blk (c_seq (rg (st (v := (I s2.2)) (rv_move rfl) (st (v := (I s2.2)) (rv_assign rfl) (w_end (q_then ?_)))))))))
   obtain ⟨o6, hj, h'⟩ := bind_some h
   clear h
   refine c_cut (fun e a w => e = .normal ∧ ∃ (ρ : Nat → Value) (σ : St), a = fr 53 (updL ρ [(0, (Sl Dg o6 Dh)), (1, (I Bq)), (2, (I Br)), (3, (.func (.func 88) #[] #[(pt Dj Dk), (pt Dq Dr)])), (8, (I s2.2))]) ∧ w = σ.w ∧ Hp S0 σ0 σ [Ch.own 0 0 (Sl Dg o6 Dh) o6, Ch.bx Di Dj Dk [(I Dd)] Dl Dm, Ch.ro 0 (Sl Dn De Do) De, Ch.bx Dp Dq Dr [(Sl Dn De Do)] Ds Dt] ∧ o6.length = s2.1.length) ?_ ?_
   ·clear h'
    rename _ = some o6 => h
    refine c_blk (wp_loopM _ h (fun s7 a w => ∃ (ρ : Nat → Value) (σ : St), a = fr 53 (updL ρ [(0, (Sl Dg s7.1 Dh)), (1, (I Bq)), (2, (I Br)), (3, (.func (.func 88) #[] #[(pt Dj Dk), (pt Dq Dr)])), (8, (I s2.2)), (9, (I s7.2))]) ∧ w = σ.w ∧ Hp S0 σ0 σ [Ch.own 0 0 (Sl Dg s7.1 Dh) s7.1, Ch.bx Di Dj Dk [(I Dd)] Dl Dm, Ch.ro 0 (Sl Dn De Do) De, Ch.bx Dp Dq Dr [(Sl Dn De Do)] Ds Dt] ∧ s7.1.length = s2.1.length) ⟨_, σ3, fr_join ⟨rfl, rfl, rfl, rfl, rfl, rfl, trivial⟩, rfl, H.sel' [0, 1, 2, 3] rfl rfl, rfl⟩ ?_)
    clear h H
    rintro s7 a w o ⟨ρ, σ8, rfl, rfl, H, hn9⟩ h hres
    refine c_seq (c_seq ?_)
    obtain ⟨o10, hj, h'⟩ := bind_some h
    clear h
    refine c_cut (fun e a w => e = .normal ∧ ∃ (ρ : Nat → Value) (σ : St), a = fr 53 (updL ρ [(0, (Sl Dg s7.1 Dh)), (1, (I Bq)), (2, (I Br)), (3, (.func (.func 88) #[] #[(pt Dj Dk), (pt Dq Dr)])), (8, (I s2.2)), (9, (I s7.2)), (34, (B o10))]) ∧ w = σ.w ∧ Hp S0 σ0 σ [Ch.own 0 0 (Sl Dg s7.1 Dh) s7.1, Ch.bx Di Dj Dk [(I Dd)] Dl Dm, Ch.ro 0 (Sl Dn De Do) De, Ch.bx Dp Dq Dr [(Sl Dn De Do)] Ds Dt]) ?_ ?_
    ·clear h'
     rename _ = some o10 => h
     refine rgP (σ := σ8) 14 (by kernel_rfl) (by kernel_rfl) (by kernel_rfl) ?_
     refine sq (v := (I s7.2)) (rv_move rfl) (sq (v := (I Bq)) (rv_move rfl) (sq (v := (B (decide (Bq < s7.2)))) (rv_gtr (a := s7.2) (b := Bq) rfl rfl) (sq (v := (B (decide (Bq < s7.2)))) (rv_move rfl) ?_)))
     rcases Bool.eq_false_or_eq_true (decide (Bq < s7.2)) with hb11 | hb11
     ·replace h := bif_t hb11 h
      refine sq_g (v := (.func (.func 88) #[] #[(pt Dj Dk), (pt Dq Dr)])) (congrArg some hb11) (rv_move rfl) (sq_g (v := (Sl Dg s7.1 Dh)) (congrArg some hb11) (rv_move rfl) (sq_g (v := (I s7.2)) (congrArg some hb11) (rv_move rfl) ?_))
      obtain ⟨x12, hx13, h'⟩ := bind_some h
      clear h
      have h := h'; clear h'
      obtain ⟨b15, o16, hi14, -⟩ := (H.own 0 rfl).ix hx13
      refine sq_g (v := (pt b15 o16)) (congrArg some hb11) (rv_ix Try.underlying23 ti34 rfl rfl hi14) ?_
      obtain ⟨_, ⟨_, _, rfl, rfl, ⟨_, _, rfl, ⟨_, rfl, hR21⟩, rfl⟩⟩, hl17, hc18⟩ := ((H.own 0 rfl).at hx13 hi14).cells
      obtain ⟨a19, c20, rfl⟩ := hR21.isSl
      replace H := H.add (d := Ch.ro 0 (Sl a19 x12.2.1 c20) x12.2.1) hR21 (fun _ h => h)
      clear hR21
      refine sq_g (v := (.agg #[(I x12.1), (Sl a19 x12.2.1 c20), (I x12.2.2)])) (congrArg some hb11) (rv_load Try.underlying34 rfl ti34 rfl hl17 hc18) (sq_g (v := (Sl Dg s7.1 Dh)) (congrArg some hb11) (rv_move rfl) (sq_g (v := (I s7.2)) (congrArg some hb11) (rv_move rfl) (sq_g (v := (I (w64 (s7.2 - 1)))) (congrArg some hb11) (rv_sub (a := s7.2) (b := 1) rfl rfl) ?_)))
      obtain ⟨x22, hx23, h'⟩ := bind_some h
      clear h
      have h := h'; clear h'
      obtain ⟨b25, o26, hi24, -⟩ := (H.own 1 rfl).ix hx23
      refine sq_g (v := (pt b25 o26)) (congrArg some hb11) (rv_ix Try.underlying23 ti34 rfl rfl hi24) ?_
      obtain ⟨_, ⟨_, _, rfl, rfl, ⟨_, _, rfl, ⟨_, rfl, hR31⟩, rfl⟩⟩, hl27, hc28⟩ := ((H.own 1 rfl).at hx23 hi24).cells
      obtain ⟨a29, c30, rfl⟩ := hR31.isSl
      replace H := H.add (d := Ch.ro 0 (Sl a29 x22.2.1 c30) x22.2.1) hR31 (fun _ h => h)
      clear hR31
      refine sq_g (v := (.agg #[(I x22.1), (Sl a29 x22.2.1 c30), (I x22.2.2)])) (congrArg some hb11) (rv_load Try.underlying34 rfl ti34 rfl hl27 hc28) (sq_end ?_)
      intro σ32 hm33
      replace H := H.grow (hm33.mono fun _ h => h); clear hm33
      obtain ⟨r34, hx35, h'⟩ := bind_some h
      clear h
      have h := h'; clear h'
      have hc36 := c_impl_sortByDistance_1__p3__p24 (Be := a19) (Bf := c20) (Cm := a29) (Cn := c30) (Cp := Di) (Cq := Dj) (Cr := Dk) (Cs := Dl) (Ct := Dm) (Cw := Dp) (Cy := Dq) (Cz := Dr) (Da := Ds) (Db := Dt) (Cu := Dn) (Cv := Do) hx35
      refine st_call (cx_call hc36 (ent_v (cap := [(pt Dj Dk), (pt Dq Dr)]) hc36.fn rfl rfl) hn0 (H.sel' [1, 0, 3, 5, 4, 0, 1, 2, 4] rfl rfl : Hp S0 σ0 _ ([_, _, _, _, _] ++ _))) (wanted_yes rfl (by exact (congrArg some hb11))) ?_
      rintro _ σ37 ⟨_, ⟨rfl, rfl⟩, H, -⟩
      replace H : Hp _ _ _ [_, _, _, _, _, _] := H
      refine st_g (v := (B (decide (r34 < 0)))) (congrArg some hb11) (rv_lss (a := r34) (b := 0) rfl rfl) (st (v := (B (decide (r34 < 0)))) (rv_pick_t (congrArg B hb11) rfl) (w_end ?_))
      obtain rfl := Option.some.inj h
      exact ⟨rfl, _, σ37, fr_join ⟨rfl, rfl, rfl, rfl, rfl, rfl, rfl, trivial⟩, rfl, H.sel' [4, 0, 5, 1] rfl rfl⟩
     ·replace h := bif_f hb11 h
      refine sq_skip (congrArg some hb11) (sq_skip (congrArg some hb11) (sq_skip (congrArg some hb11) (sq_skip (congrArg some hb11) (sq_skip (congrArg some hb11) (sq_skip (congrArg some hb11) (sq_skip (congrArg some hb11) (sq_skip (congrArg some hb11) (sq_skip (congrArg some hb11) (sq_skip (congrArg some hb11) (sq_end ?_))))))))))
      intro σ38 hm39
      replace H := H.grow (hm39.mono fun _ h => h); clear hm39
      refine st_skip (congrArg some hb11) (st_skip (congrArg some hb11) (st (v := (B false)) (rv_pick_f (congrArg B hb11) rfl) (w_end ?_)))
      obtain rfl := Option.some.inj h
      exact ⟨rfl, _, σ38, fr_join ⟨rfl, rfl, rfl, rfl, rfl, rfl, rfl, trivial⟩, rfl, H.sel' [0, 1, 2, 3] rfl rfl⟩
    ·clear hj
     have h := h'
     clear h' H
     rintro e a w ⟨rfl, ρ, σ40, rfl, rfl, H⟩
     refine q_then ?_
     refine cd_cond o10 rfl (fun hb41 => ?_) (fun hb41 => ?_)
     ·replace h := bif_t hb41 h
      refine c_skip (q_then (c_seq (c_blk ?_)))
      obtain ⟨x42, hx43, h'⟩ := bind_some h
      clear h
      have h := h'; clear h'
      obtain ⟨b45, o46, hi44, -⟩ := (H.own 0 rfl).ix hx43
      obtain ⟨_, ⟨_, _, rfl, rfl, ⟨_, _, rfl, ⟨_, rfl, hR51⟩, rfl⟩⟩, hl47, hc48⟩ := ((H.own 0 rfl).at hx43 hi44).cells
      obtain ⟨a49, c50, rfl⟩ := hR51.isSl
      replace H := H.add (d := Ch.ro 0 (Sl a49 x42.2.1 c50) x42.2.1) hR51 (fun _ h => h)
      clear hR51
      obtain ⟨x52, hx53, h'⟩ := bind_some h
      clear h
      have h := h'; clear h'
      obtain ⟨b55, o56, hi54, -⟩ := (H.own 1 rfl).ix hx53
      obtain ⟨_, ⟨_, _, rfl, rfl, ⟨_, _, rfl, ⟨_, rfl, hR61⟩, rfl⟩⟩, hl57, hc58⟩ := ((H.own 1 rfl).at hx53 hi54).cells
      obtain ⟨a59, c60, rfl⟩ := hR61.isSl
      replace H := H.add (d := Ch.ro 0 (Sl a59 x52.2.1 c60) x52.2.1) hR61 (fun _ h => h)
      clear hR61
      obtain ⟨x62, hx63, h'⟩ := bind_some h
      clear h
      have h := h'; clear h'
      obtain ⟨b65, o66, hi64, -⟩ := (H.own 2 rfl).ix hx63
      have Hs := H
      refine rg2 (σ := σ40) (Nm := Unit) 16 [15] [[false], [true]] [[(0, 0)], [(0, 0)], [(0, 0), (1, 1)], [(0, 0), (1, 1)], [(0, 0), (1, 1)], [(0, 0)], [(0, 0)], [(0, 0)], [(0, 0)], [(0, 0)], [(0, 0)], [(0, 0)], [(0, 0)], [(0, 0)], [(0, 0)], [(0, 1)]] 1 [fun _ => fun σm => Hp S0 σ0 σm [Ch.ro 0 (Sl a59 x52.2.1 c60) x52.2.1, Ch.ro 0 (Sl a49 x42.2.1 c50) x42.2.1, Ch.own 0 0 (Sl Dg s7.1 Dh) s7.1, Ch.bx Di Dj Dk [(I Dd)] Dl Dm, Ch.ro 0 (Sl Dn De Do) De, Ch.bx Dp Dq Dr [(Sl Dn De Do)] Ds Dt] ∧ Md (cov []) σ40 σm, fun _ => fun σm => Hp S0 σ0 σm [Ch.own 0 0 (Sl Dg s7.1 Dh) (s7.1.set s7.2.toNat (x42.1, x42.2.1, x42.2.2)), Ch.ro 0 (Sl a59 x52.2.1 c60) x52.2.1, Ch.ro 0 (Sl a49 x42.2.1 c50) x42.2.1, Ch.bx Di Dj Dk [(I Dd)] Dl Dm, Ch.ro 0 (Sl Dn De Do) De, Ch.bx Dp Dq Dr [(Sl Dn De Do)] Ds Dt] ∧ Md (fun i => (cov []) i ∨ (fun b => blk (Sl Dg s7.1 Dh) = some b) i) σ40 σm] [fun _ => (Sl Dg s7.1 Dh), fun _ => (I s7.2), fun _ => (Sl Dg s7.1 Dh), fun _ => (I s7.2), fun _ => (I (w64 (s7.2 - 1))), fun _ => (Sl Dg s7.1 Dh), fun _ => (I s7.2), fun _ => (I (w64 (s7.2 - 1))), fun _ => (pt b45 o46), fun _ => (.agg #[(I x42.1), (Sl a49 x42.2.1 c50), (I x42.2.2)]), fun _ => (Sl Dg s7.1 Dh), fun _ => (I s7.2), fun _ => (pt b55 o56), fun _ => (.agg #[(I x52.1), (Sl a59 x52.2.1 c60), (I x52.2.2)]), fun _ => (pt b65 o66), fun _ => undef] () (by kernel_rfl) (by kernel_rfl) ?_ ?_ ?_
      ·intro σm m0
       exact ⟨H.grow (m0.mono fun _ h => h.elim), m0⟩
      ·refine ac rfl (by
         intro k _nm ρ σm hJ hoff hdep
         have e0 := look_off (N := 53) (hoff 0 rfl) rfl
         exact dp_v (v := (Sl Dg s7.1 Dh)) wn (rv_move e0) rfl hJ) ?_
       refine ac rfl (by
         intro k _nm ρ σm hJ hoff hdep
         have e9 := look_off (N := 53) (hoff 9 rfl) rfl
         exact dp_v (v := (I s7.2)) wn (rv_move e9) rfl hJ) ?_
       refine ac rfl (by
         intro k _nm ρ σm hJ hoff hdep
         have e0 := look_off (N := 53) (hoff 0 rfl) rfl
         exact dp_v (v := (Sl Dg s7.1 Dh)) wn (rv_move e0) rfl hJ) ?_
       refine ac rfl (by
         intro k _nm ρ σm hJ hoff hdep
         have e9 := look_off (N := 53) (hoff 9 rfl) rfl
         exact dp_v (v := (I s7.2)) wn (rv_move e9) rfl hJ) ?_
       refine ac rfl (by
         intro k _nm ρ σm hJ hoff hdep
         have e40 := hdep 3 rfl rfl 40 rfl
         exact dp_v (v := (I (w64 (s7.2 - 1)))) wn (rv_sub (a := s7.2) (b := 1) e40 rfl) rfl hJ) ?_
       refine ac rfl (by
         intro k _nm ρ σm hJ hoff hdep
         have e0 := look_off (N := 53) (hoff 0 rfl) rfl
         exact dp_v (v := (Sl Dg s7.1 Dh)) wn (rv_move e0) rfl hJ) ?_
       refine ac rfl (by
         intro k _nm ρ σm hJ hoff hdep
         have e9 := look_off (N := 53) (hoff 9 rfl) rfl
         exact dp_v (v := (I s7.2)) wn (rv_move e9) rfl hJ) ?_
       refine ac rfl (by
         intro k _nm ρ σm hJ hoff hdep
         have e43 := hdep 6 rfl rfl 43 rfl
         exact dp_v (v := (I (w64 (s7.2 - 1)))) wn (rv_sub (a := s7.2) (b := 1) e43 rfl) rfl hJ) ?_
       refine ac rfl (by
         intro k _nm ρ σm hJ hoff hdep
         have e42 := hdep 5 rfl rfl 42 rfl
         have e44 := hdep 7 rfl rfl 44 rfl
         exact dp_v (v := (pt b45 o46)) wn (rv_ix Try.underlying23 ti34 e42 e44 hi44) rfl hJ) ?_
       refine all_cons (by
         refine ⟨?_, ?_⟩
         ·intro _nm ρ σm hJ hoff hdep
          have e45 := hdep 8 rfl rfl 45 rfl
          obtain ⟨H, m⟩ := id hJ
          replace hc48 := fun j hj => m.hcell (hc48 j hj) nocov
          exact dp_v (v := (.agg #[(I x42.1), (Sl a49 x42.2.1 c50), (I x42.2.2)])) wn (rv_load Try.underlying34 rfl ti34 e45 hl47 hc48) rfl hJ
         trivial) ?_
       refine ac rfl (by
         intro k _nm ρ σm hJ hoff hdep
         have e0 := look_off (N := 53) (hoff 0 rfl) rfl
         exact dp_v (v := (Sl Dg s7.1 Dh)) wn (rv_move e0) rfl hJ) ?_
       refine ac rfl (by
         intro k _nm ρ σm hJ hoff hdep
         have e9 := look_off (N := 53) (hoff 9 rfl) rfl
         exact dp_v (v := (I s7.2)) wn (rv_move e9) rfl hJ) ?_
       refine ac rfl (by
         intro k _nm ρ σm hJ hoff hdep
         have e47 := hdep 10 rfl rfl 47 rfl
         have e48 := hdep 11 rfl rfl 48 rfl
         exact dp_v (v := (pt b55 o56)) wn (rv_ix Try.underlying23 ti34 e47 e48 hi54) rfl hJ) ?_
       refine all_cons (by
         refine ⟨?_, ?_⟩
         ·intro _nm ρ σm hJ hoff hdep
          have e49 := hdep 12 rfl rfl 49 rfl
          obtain ⟨H, m⟩ := id hJ
          replace hc58 := fun j hj => m.hcell (hc58 j hj) nocov
          exact dp_v (v := (.agg #[(I x52.1), (Sl a59 x52.2.1 c60), (I x52.2.2)])) wn (rv_load Try.underlying34 rfl ti34 e49 hl57 hc58) rfl hJ
         trivial) ?_
       refine ac rfl (by
         intro k _nm ρ σm hJ hoff hdep
         have e37 := hdep 0 rfl rfl 37 rfl
         have e38 := hdep 1 rfl rfl 38 rfl
         exact dp_v (v := (pt b65 o66)) wn (rv_ix Try.underlying23 ti34 e37 e38 hi64) rfl hJ) ?_
       refine all_cons (by
         refine ⟨?_, ?_⟩
         ·intro _nm ρ σm hJ hoff hdep
          have e51 := hdep 14 rfl rfl 51 rfl
          have e46 := hdep 9 rfl rfl 46 rfl
          obtain ⟨H, m⟩ := id hJ
          refine dp_exS wn rfl (ex_store_own (e' := (x42.1, x42.2.1, x42.2.2)) (vs := [(I x42.1), (Sl a49 x42.2.1 c50), (I x42.2.2)]) (k := 0) H (i := 2) rfl ti34 hx63 hi64 e51 rfl e46 rfl rfl (Nat.le_of_ble_eq_true rfl) (by simp [plain]) (by rintro _ ⟨_, _, rfl, rfl, ⟨_, _, rfl, ⟨_, rfl, hR69⟩, rfl⟩⟩; exact ⟨[(I x42.1)], [(Sl a49 x42.2.1 c50), (I x42.2.2)], rfl, rfl, ⟨[(Sl a49 x42.2.1 c50)], [(I x42.2.2)], rfl, ⟨_, rfl, (H.ro 1 rfl)⟩, rfl⟩⟩)) ?_
          rintro σq ⟨H2, m2⟩
          exact ⟨_, (), rfl, ⟨H2.sel' [0, 1, 2, 3, 4, 5] rfl rfl, m.comp m2⟩, stab [0, 1, 2, 3, 4, 5, 6, 7, 8, 9, 10, 11, 12, 13, 14] (by kernel_rfl) ⟨rfl, rfl, rfl, rfl, rfl, rfl, rfl, rfl, rfl, rfl, rfl, rfl, rfl, rfl, rfl, trivial⟩⟩
         trivial) ?_
       exact all_nil
      ·intro _nm ρ σ70 hJ hoff hrel
       have e0 := look_off (N := 53) (hoff 0 rfl) rfl
       have e1 := look_off (N := 53) (hoff 1 rfl) rfl
       have e2 := look_off (N := 53) (hoff 2 rfl) rfl
       have e3 := look_off (N := 53) (hoff 3 rfl) rfl
       have e8 := look_off (N := 53) (hoff 8 rfl) rfl
       have e9 := look_off (N := 53) (hoff 9 rfl) rfl
       have e39 := hrel 2 rfl 39 rfl
       have e41 := hrel 4 rfl 41 rfl
       have e50 := hrel 13 rfl 50 rfl
       obtain ⟨H, -⟩ := (show Hp S0 σ0 σ70 [Ch.own 0 0 (Sl Dg s7.1 Dh) (s7.1.set s7.2.toNat (x42.1, x42.2.1, x42.2.2)), Ch.ro 0 (Sl a59 x52.2.1 c60) x52.2.1, Ch.ro 0 (Sl a49 x42.2.1 c50) x42.2.1, Ch.bx Di Dj Dk [(I Dd)] Dl Dm, Ch.ro 0 (Sl Dn De Do) De, Ch.bx Dp Dq Dr [(Sl Dn De Do)] Ds Dt] ∧ Md (fun i => (cov []) i ∨ (fun b => blk (Sl Dg s7.1 Dh) = some b) i) σ40 σ70 from hJ)
       clear hJ Hs
       rw [fr_lookL (L := [(0, (Sl Dg s7.1 Dh)), (1, (I Bq)), (2, (I Br)), (3, (.func (.func 88) #[] #[(pt Dj Dk), (pt Dq Dr)])), (8, (I s2.2)), (9, (I s7.2)), (39, (Sl Dg s7.1 Dh)), (41, (I (w64 (s7.2 - 1)))), (50, (.agg #[(I x52.1), (Sl a59 x52.2.1 c60), (I x52.2.2)]))]) ⟨e0, e1, e2, e3, e8, e9, e39, e41, e50, trivial⟩]
       clear hoff hrel e0 e1 e2 e3 e8 e9 e39 e41 e50
       have hsl : (Sl Dg s7.1 Dh) = (Sl Dg (s7.1.set s7.2.toNat (x42.1, x42.2.1, x42.2.2)) Dh) := sl_len (by simp)
       rw [hsl]; rw [hsl] at H; clear hsl
       obtain ⟨x71, hx72, h'⟩ := bind_some h
       clear h
       have h := h'; clear h'
       obtain ⟨b74, o75, hi73, -⟩ := (H.own 0 rfl).ix hx72
       refine st (v := (pt b74 o75)) (rv_ix Try.underlying23 ti34 rfl rfl hi73) ?_
       refine st_exS (ex_store_own (e' := (x52.1, x52.2.1, x52.2.2)) (vs := [(I x52.1), (Sl a59 x52.2.1 c60), (I x52.2.2)]) (k := 0) H (i := 0) rfl ti34 hx72 hi73 rfl rfl rfl rfl rfl (Nat.le_of_ble_eq_true rfl) (by simp [plain]) (by rintro _ ⟨_, _, rfl, rfl, ⟨_, _, rfl, ⟨_, rfl, hR78⟩, rfl⟩⟩; exact ⟨[(I x52.1)], [(Sl a59 x52.2.1 c60), (I x52.2.2)], rfl, rfl, ⟨[(Sl a59 x52.2.1 c60)], [(I x52.2.2)], rfl, ⟨_, rfl, (H.ro 1 rfl)⟩, rfl⟩⟩)) wn ?_
       rintro σ79 ⟨H, -⟩
       have hsl : (Sl Dg (s7.1.set s7.2.toNat (x42.1, x42.2.1, x42.2.2)) Dh) = (Sl Dg ((s7.1.set s7.2.toNat (x42.1, x42.2.1, x42.2.2)).set (w64 (s7.2 - 1)).toNat (x52.1, x52.2.1, x52.2.2)) Dh) := sl_len List.length_set.symm
       rw [hsl]; rw [hsl] at H; clear hsl
       refine w_end (q_blk (q_then (rg (st (v := (I s7.2)) (rv_move rfl) (st (v := (I (w64 (s7.2 - 1)))) (rv_sub (a := s7.2) (b := 1) rfl rfl) (st (v := (I (w64 (s7.2 - 1)))) (rv_assign rfl) (w_end (q_then ?_))))))))
       obtain rfl := Option.some.inj h
       exact ⟨_, rfl, _, σ79, fr_join ⟨rfl, rfl, rfl, rfl, rfl, rfl, trivial⟩, rfl, H.sel' [0, 3, 4, 5] rfl rfl, ((List.length_set.trans (List.length_set.trans (hn9.trans hn4))).trans hn4.symm)⟩
     ·replace h := bif_f hb41 h
      refine c_exit (q_then_x (q_then_x (q_blk_hit ?_)))
      obtain rfl := Option.some.inj h
      obtain rfl := hres _ rfl
      exact ⟨rfl, _, σ40, fr_join ⟨rfl, rfl, rfl, rfl, rfl, trivial⟩, rfl, H.sel' [0, 1, 2, 3] rfl rfl, ((hn9.trans hn4).trans hn4.symm)⟩
   ·clear hj
    have h := h'
    clear h' H
    rintro e a w ⟨rfl, ρ, σ80, rfl, rfl, H, hn81⟩
    refine q_blk (q_then (rg (st (v := (I s2.2)) (rv_move rfl) (st (v := (I (w64 (s2.2 + 1)))) (rv_add (a := s2.2) (b := 1) rfl rfl) (st (v := (I (w64 (s2.2 + 1)))) (rv_assign rfl) (w_end (q_then ?_)))))))
    obtain rfl := Option.some.inj h
    exact ⟨_, rfl, _, σ80, fr_join ⟨rfl, rfl, rfl, rfl, rfl, trivial⟩, rfl, H.sel' [0, 1, 2, 3] rfl rfl, (hn81.trans hn4)⟩
  ·replace h := bif_f hb5 h
   refine c_exit (q_then_x (q_then_x (q_blk_hit ?_)))
   obtain rfl := Option.some.inj h
   obtain rfl := hres _ rfl
   exact ⟨rfl, _, σ3, fr_join ⟨rfl, rfl, trivial⟩, rfl, H.sel' [0, 1, 2, 3] rfl rfl, hn4⟩
 ·clear hj
  have h := h'
  clear h' H
  rintro e a w ⟨rfl, ρ, σ82, rfl, rfl, H, hn83⟩
  obtain rfl := Option.some.inj h
  exact fin_end (v := (.tuple #[])) (results_ok Try.results112 res_nil rfl) ⟨rfl, rfl, hn83⟩ (H.sel' [0, 1, 3] rfl rfl)

theorem c_slices_siftDownCmpFunc_impl_Item__impl_sortByDistance_1 {Dc : List (Int × (List Int) × Int)} {Du : Int} {Dv : Int} {Dw : Int} {Dx : Int} {Dy : List Int} {Dg : Option Addr} {Dh : Nat} {Dz Ea Eb : Nat} {Ec Ed : List Value} {Ee : Option Addr} {Ef : Nat} {Eg Eh Ei : Nat} {Ej Ek : List Value} {r : (List (Int × (List Int) × Int))} (h : M.slices_siftDownCmpFunc_impl_Item__impl_sortByDistance_1 Dc Du Dv Dw Dx Dy = some r) :
    Cal2 Try.prog 124 [(Sl Dg Dc Dh), (I Du), (I Dv), (I Dw), (.func (.func 88) #[] #[(pt Ea Eb), (pt Eh Ei)])] [Ch.own 0 0 (Sl Dg Dc Dh) Dc, Ch.bx Dz Ea Eb [(I Dx)] Ec Ed, Ch.bx Eg Eh Ei [(Sl Ee Dy Ef)] Ej Ek, Ch.ro 0 (Sl Ee Dy Ef) Dy] (fun n0 v L => v = (.tuple #[]) ∧ L = [Ch.own 0 0 (Sl Dg r Dh) r, Ch.bx Dz Ea Eb [(I Dx)] Ec Ed, Ch.bx Eg Eh Ei [(Sl Ee Dy Ef)] Ej Ek] ∧ r.length = Dc.length) := by
 refine cal2 (n := 82) Try.func124 rfl rfl rfl rfl ?_
 intro S0 σ0 n0 hn0 H
 unfold M.slices_siftDownCmpFunc_impl_Item__impl_sortByDistance_1 at h
 refine c_seq (rg (st (v := (I Du)) (rv_move rfl) (st (v := (I Du)) (rv_assign rfl) (w_end (q_then ?_)))))
 obtain ⟨o1, hj, h'⟩ := bind_some h
 clear h
 refine c_cut (fun e a w => (∃ t, o1 = (.inl t) ∧ e = .normal ∧ ∃ (ρ : Nat → Value) (σ : St), a = fr 82 (updL ρ [(0, (Sl Dg t Dh)), (4, (.func (.func 88) #[] #[(pt Ea Eb), (pt Eh Ei)]))]) ∧ w = σ.w ∧ Hp S0 σ0 σ [Ch.own 0 0 (Sl Dg t Dh) t, Ch.bx Dz Ea Eb [(I Dx)] Ec Ed, Ch.ro 0 (Sl Ee Dy Ef) Dy, Ch.bx Eg Eh Ei [(Sl Ee Dy Ef)] Ej Ek] ∧ t.length = Dc.length) ∨ (∃ t, o1 = (.inr t) ∧ e = .ret ∧ ∃ (ρ : Nat → Value) (σ : St), a = fr 82 (updL ρ [(0, (Sl Dg t Dh)), (4, (.func (.func 88) #[] #[(pt Ea Eb), (pt Eh Ei)]))]) ∧ w = σ.w ∧ Hp S0 σ0 σ [Ch.own 0 0 (Sl Dg t Dh) t, Ch.bx Dz Ea Eb [(I Dx)] Ec Ed, Ch.ro 0 (Sl Ee Dy Ef) Dy, Ch.bx Eg Eh Ei [(Sl Ee Dy Ef)] Ej Ek] ∧ t.length = Dc.length)) ?_ ?_
 ·clear h'
  rename _ = some o1 => h
  refine c_blk (wp_loopM _ h (fun s2 a w => ∃ (ρ : Nat → Value) (σ : St), a = fr 82 (updL ρ [(0, (Sl Dg s2.1 Dh)), (2, (I Dv)), (3, (I Dw)), (4, (.func (.func 88) #[] #[(pt Ea Eb), (pt Eh Ei)])), (10, (I s2.2))]) ∧ w = σ.w ∧ Hp S0 σ0 σ [Ch.own 0 0 (Sl Dg s2.1 Dh) s2.1, Ch.bx Dz Ea Eb [(I Dx)] Ec Ed, Ch.ro 0 (Sl Ee Dy Ef) Dy, Ch.bx Eg Eh Ei [(Sl Ee Dy Ef)] Ej Ek] ∧ s2.1.length = Dc.length) ⟨_, σ0, fr_join ⟨rfl, rfl, rfl, rfl, rfl, trivial⟩, rfl, H.sel' [0, 1, 3, 2] rfl rfl, rfl⟩ ?_)
  clear h H
  rintro s2 a w o ⟨ρ, σ3, rfl, rfl, H, hn4⟩ h hres
  refine c_blk (c_seq (rg (st (v := (I s2.2)) (rv_move rfl) (st (v := (I (w64 (2 * s2.2)))) (rv_mul (a := 2) (b := s2.2) rfl rfl) (st (v := (I (w64 ((w64 (2 * s2.2)) + 1)))) (rv_add (a := (w64 (2 * s2.2))) (b := 1) rfl rfl) (st (v := (I (w64 ((w64 (2 * s2.2)) + 1)))) (rv_assign rfl) (w_end (q_then (c_seq (c_seq (rg ?_)))))))))))
  refine st (v := (I (w64 ((w64 (2 * s2.2)) + 1)))) (rv_move rfl) (st (v := (I Dv)) (rv_move rfl) (st (v := (B (decide (Dv ≤ (w64 ((w64 (2 * s2.2)) + 1)))))) (rv_geq (a := (w64 ((w64 (2 * s2.2)) + 1))) (b := Dv) rfl rfl) (w_end (q_then ?_))))
  refine cd_cond (decide (Dv ≤ (w64 ((w64 (2 * s2.2)) + 1)))) rfl (fun hb5 => ?_) (fun hb5 => ?_)
  ·replace h := bif_t hb5 h
   refine c_exit (q_then_x ?_)
   refine q_blk_x (by decide) ?_
   refine q_then_x (q_blk_hit ?_)
   obtain rfl := Option.some.inj h
   obtain rfl := hres _ rfl
   exact .inl ⟨_, rfl, rfl, _, σ3, fr_join ⟨rfl, rfl, trivial⟩, rfl, H.sel' [0, 1, 2, 3] rfl rfl, hn4⟩
  ·replace h := bif_f hb5 h
   refine c_skip (q_then (c_seq (c_seq ?_)))
   obtain ⟨o6, hj, h'⟩ := bind_some h
   clear h
   refine c_cut (fun e a w => e = .normal ∧ ∃ (ρ : Nat → Value) (σ : St), a = fr 82 (updL ρ [(0, (Sl Dg s2.1 Dh)), (2, (I Dv)), (3, (I Dw)), (4, (.func (.func 88) #[] #[(pt Ea Eb), (pt Eh Ei)])), (10, (I s2.2)), (11, (I (w64 ((w64 (2 * s2.2)) + 1)))), (40, (B o6))]) ∧ w = σ.w ∧ Hp S0 σ0 σ [Ch.own 0 0 (Sl Dg s2.1 Dh) s2.1, Ch.bx Dz Ea Eb [(I Dx)] Ec Ed, Ch.ro 0 (Sl Ee Dy Ef) Dy, Ch.bx Eg Eh Ei [(Sl Ee Dy Ef)] Ej Ek]) ?_ ?_
   ·clear h'
    rename _ = some o6 => h
    refine rgP (σ := σ3) 19 (by kernel_rfl) (by kernel_rfl) (by kernel_rfl) ?_
    refine sq (v := (I (w64 ((w64 (2 * s2.2)) + 1)))) (rv_move rfl) (sq (v := (I (w64 ((w64 ((w64 (2 * s2.2)) + 1)) + 1)))) (rv_add (a := (w64 ((w64 (2 * s2.2)) + 1))) (b := 1) rfl rfl) (sq (v := (I Dv)) (rv_move rfl) (sq (v := (B (decide ((w64 ((w64 ((w64 (2 * s2.2)) + 1)) + 1)) < Dv)))) (rv_lss (a := (w64 ((w64 ((w64 (2 * s2.2)) + 1)) + 1))) (b := Dv) rfl rfl) (sq (v := (B (decide ((w64 ((w64 ((w64 (2 * s2.2)) + 1)) + 1)) < Dv)))) (rv_move rfl) ?_))))
    rcases Bool.eq_false_or_eq_true (decide ((w64 ((w64 ((w64 (2 * s2.2)) + 1)) + 1)) < Dv)) with hb7 | hb7
    ·replace h := bif_t hb7 h
     refine sq_g (v := (.func (.func 88) #[] #[(pt Ea Eb), (pt Eh Ei)])) (congrArg some hb7) (rv_move rfl) (sq_g (v := (Sl Dg s2.1 Dh)) (congrArg some hb7) (rv_move rfl) (sq_g (v := (I Dw)) (congrArg some hb7) (rv_move rfl) (sq_g (v := (I (w64 ((w64 (2 * s2.2)) + 1)))) (congrArg some hb7) (rv_move rfl) (sq_g (v := (I (w64 (Dw + (w64 ((w64 (2 * s2.2)) + 1)))))) (congrArg some hb7) (rv_add (a := Dw) (b := (w64 ((w64 (2 * s2.2)) + 1))) rfl rfl) ?_))))
     obtain ⟨x8, hx9, h'⟩ := bind_some h
     clear h
     have h := h'; clear h'
     obtain ⟨b11, o12, hi10, -⟩ := (H.own 0 rfl).ix hx9
     refine sq_g (v := (pt b11 o12)) (congrArg some hb7) (rv_ix Try.underlying23 ti34 rfl rfl hi10) ?_
     obtain ⟨_, ⟨_, _, rfl, rfl, ⟨_, _, rfl, ⟨_, rfl, hR17⟩, rfl⟩⟩, hl13, hc14⟩ := ((H.own 0 rfl).at hx9 hi10).cells
     obtain ⟨a15, c16, rfl⟩ := hR17.isSl
     replace H := H.add (d := Ch.ro 0 (Sl a15 x8.2.1 c16) x8.2.1) hR17 (fun _ h => h)
     clear hR17
     refine sq_g (v := (.agg #[(I x8.1), (Sl a15 x8.2.1 c16), (I x8.2.2)])) (congrArg some hb7) (rv_load Try.underlying34 rfl ti34 rfl hl13 hc14) (sq_g (v := (Sl Dg s2.1 Dh)) (congrArg some hb7) (rv_move rfl) (sq_g (v := (I Dw)) (congrArg some hb7) (rv_move rfl) (sq_g (v := (I (w64 ((w64 (2 * s2.2)) + 1)))) (congrArg some hb7) (rv_move rfl) (sq_g (v := (I (w64 (Dw + (w64 ((w64 (2 * s2.2)) + 1)))))) (congrArg some hb7) (rv_add (a := Dw) (b := (w64 ((w64 (2 * s2.2)) + 1))) rfl rfl) (sq_g (v := (I (w64 ((w64 (Dw + (w64 ((w64 (2 * s2.2)) + 1)))) + 1)))) (congrArg some hb7) (rv_add (a := (w64 (Dw + (w64 ((w64 (2 * s2.2)) + 1))))) (b := 1) rfl rfl) ?_)))))
     obtain ⟨x18, hx19, h'⟩ := bind_some h
     clear h
     have h := h'; clear h'
     obtain ⟨b21, o22, hi20, -⟩ := (H.own 1 rfl).ix hx19
     refine sq_g (v := (pt b21 o22)) (congrArg some hb7) (rv_ix Try.underlying23 ti34 rfl rfl hi20) ?_
     obtain ⟨_, ⟨_, _, rfl, rfl, ⟨_, _, rfl, ⟨_, rfl, hR27⟩, rfl⟩⟩, hl23, hc24⟩ := ((H.own 1 rfl).at hx19 hi20).cells
     obtain ⟨a25, c26, rfl⟩ := hR27.isSl
     replace H := H.add (d := Ch.ro 0 (Sl a25 x18.2.1 c26) x18.2.1) hR27 (fun _ h => h)
     clear hR27
     refine sq_g (v := (.agg #[(I x18.1), (Sl a25 x18.2.1 c26), (I x18.2.2)])) (congrArg some hb7) (rv_load Try.underlying34 rfl ti34 rfl hl23 hc24) (sq_end ?_)
     intro σ28 hm29
     replace H := H.grow (hm29.mono fun _ h => h); clear hm29
     obtain ⟨r30, hx31, h'⟩ := bind_some h
     clear h
     have h := h'; clear h'
     have hc32 := c_impl_sortByDistance_1__p3__p24 (Be := a15) (Bf := c16) (Cm := a25) (Cn := c26) (Cp := Dz) (Cq := Ea) (Cr := Eb) (Cs := Ec) (Ct := Ed) (Cw := Eg) (Cy := Eh) (Cz := Ei) (Da := Ej) (Db := Ek) (Cu := Ee) (Cv := Ef) hx31
     refine st_call (cx_call hc32 (ent_v (cap := [(pt Ea Eb), (pt Eh Ei)]) hc32.fn rfl rfl) hn0 (H.sel' [1, 0, 3, 5, 4, 0, 1, 2, 4] rfl rfl : Hp S0 σ0 _ ([_, _, _, _, _] ++ _))) (wanted_yes rfl (by exact (congrArg some hb7))) ?_
     rintro _ σ33 ⟨_, ⟨rfl, rfl⟩, H, -⟩
     replace H : Hp _ _ _ [_, _, _, _, _, _] := H
     refine st_g (v := (B (decide (r30 < 0)))) (congrArg some hb7) (rv_lss (a := r30) (b := 0) rfl rfl) (st (v := (B (decide (r30 < 0)))) (rv_pick_t (congrArg B hb7) rfl) (w_end ?_))
     obtain rfl := Option.some.inj h
     exact ⟨rfl, _, σ33, fr_join ⟨rfl, rfl, rfl, rfl, rfl, rfl, rfl, trivial⟩, rfl, H.sel' [4, 0, 5, 1] rfl rfl⟩
    ·replace h := bif_f hb7 h
     refine sq_skip (congrArg some hb7) (sq_skip (congrArg some hb7) (sq_skip (congrArg some hb7) (sq_skip (congrArg some hb7) (sq_skip (congrArg some hb7) (sq_skip (congrArg some hb7) (sq_skip (congrArg some hb7) (sq_skip (congrArg some hb7) (sq_skip (congrArg some hb7) (sq_skip (congrArg some hb7) (sq_skip (congrArg some hb7) (sq_skip (congrArg some hb7) ?_)))))))))))
     refine sq_skip (congrArg some hb7) (sq_skip (congrArg some hb7) (sq_end ?_))
     intro σ34 hm35
     replace H := H.grow (hm35.mono fun _ h => h); clear hm35
     refine st_skip (congrArg some hb7) (st_skip (congrArg some hb7) (st (v := (B false)) (rv_pick_f (congrArg B hb7) rfl) (w_end ?_)))
     obtain rfl := Option.some.inj h
     exact ⟨rfl, _, σ34, fr_join ⟨rfl, rfl, rfl, rfl, rfl, rfl, rfl, trivial⟩, rfl, H.sel' [0, 1, 2, 3] rfl rfl⟩
   ·clear hj
    have h := h'
    clear h' H
    rintro e a w ⟨rfl, ρ, σ36, rfl, rfl, H⟩
    refine q_then ?_
    obtain ⟨o37, hj, h'⟩ := bind_some h
    clear h
    refine c_cut (fun e a w => e = .normal ∧ ∃ (ρ : Nat → Value) (σ : St), a = fr 82 (updL ρ [(0, (Sl Dg s2.1 Dh)), (2, (I Dv)), (3, (I Dw)), (4, (.func (.func 88) #[] #[(pt Ea Eb), (pt Eh Ei)])), (10, (I s2.2)), (11, (I o37))]) ∧ w = σ.w ∧ Hp S0 σ0 σ [Ch.own 0 0 (Sl Dg s2.1 Dh) s2.1, Ch.bx Dz Ea Eb [(I Dx)] Ec Ed, Ch.ro 0 (Sl Ee Dy Ef) Dy, Ch.bx Eg Eh Ei [(Sl Ee Dy Ef)] Ej Ek]) ?_ ?_
    ·clear h'
     rename _ = some o37 => h
     refine cd_cond o6 rfl (fun hb38 => ?_) (fun hb38 => ?_)
     ·replace h := bif_t hb38 h
      refine rg (st (v := (I (w64 ((w64 (2 * s2.2)) + 1)))) (rv_move rfl) (st (v := (I (w64 ((w64 ((w64 (2 * s2.2)) + 1)) + 1)))) (rv_add (a := (w64 ((w64 (2 * s2.2)) + 1))) (b := 1) rfl rfl) (st (v := (I (w64 ((w64 ((w64 (2 * s2.2)) + 1)) + 1)))) (rv_assign rfl) (w_end ?_))))
      obtain rfl := Option.some.inj h
      exact ⟨rfl, _, σ36, fr_join ⟨rfl, rfl, rfl, rfl, rfl, rfl, trivial⟩, rfl, H.sel' [0, 1, 2, 3] rfl rfl⟩
     ·replace h := bif_f hb38 h
      refine c_skip ?_
      obtain rfl := Option.some.inj h
      exact ⟨rfl, _, σ36, fr_join ⟨rfl, rfl, rfl, rfl, rfl, rfl, trivial⟩, rfl, H.sel' [0, 1, 2, 3] rfl rfl⟩
    ·clear hj
     have h := h'
     clear h' H
     rintro e a w ⟨rfl, ρ, σ39, rfl, rfl, H⟩
     refine q_then (c_seq (c_seq ?_))
     refine rgP (σ := σ39) 13 (by kernel_rfl) (by kernel_rfl) (by kernel_rfl) ?_
     refine sq (v := (.func (.func 88) #[] #[(pt Ea Eb), (pt Eh Ei)])) (rv_move rfl) (sq (v := (Sl Dg s2.1 Dh)) (rv_move rfl) (sq (v := (I Dw)) (rv_move rfl) (sq (v := (I s2.2)) (rv_move rfl) (sq (v := (I (w64 (Dw + s2.2)))) (rv_add (a := Dw) (b := s2.2) rfl rfl) ?_))))
     obtain ⟨x40, hx41, h'⟩ := bind_some h
     clear h
     have h := h'; clear h'
     obtain ⟨b43, o44, hi42, -⟩ := (H.own 0 rfl).ix hx41
     refine sq (v := (pt b43 o44)) (rv_ix Try.underlying23 ti34 rfl rfl hi42) ?_
     obtain ⟨_, ⟨_, _, rfl, rfl, ⟨_, _, rfl, ⟨_, rfl, hR49⟩, rfl⟩⟩, hl45, hc46⟩ := ((H.own 0 rfl).at hx41 hi42).cells
     obtain ⟨a47, c48, rfl⟩ := hR49.isSl
     replace H := H.add (d := Ch.ro 0 (Sl a47 x40.2.1 c48) x40.2.1) hR49 (fun _ h => h)
     clear hR49
     refine sq (v := (.agg #[(I x40.1), (Sl a47 x40.2.1 c48), (I x40.2.2)])) (rv_load Try.underlying34 rfl ti34 rfl hl45 hc46) (sq (v := (Sl Dg s2.1 Dh)) (rv_move rfl) (sq (v := (I Dw)) (rv_move rfl) (sq (v := (I o37)) (rv_move rfl) (sq (v := (I (w64 (Dw + o37)))) (rv_add (a := Dw) (b := o37) rfl rfl) ?_))))
     obtain ⟨x50, hx51, h'⟩ := bind_some h
     clear h
     have h := h'; clear h'
     obtain ⟨b53, o54, hi52, -⟩ := (H.own 1 rfl).ix hx51
     refine sq (v := (pt b53 o54)) (rv_ix Try.underlying23 ti34 rfl rfl hi52) ?_
     obtain ⟨_, ⟨_, _, rfl, rfl, ⟨_, _, rfl, ⟨_, rfl, hR59⟩, rfl⟩⟩, hl55, hc56⟩ := ((H.own 1 rfl).at hx51 hi52).cells
     obtain ⟨a57, c58, rfl⟩ := hR59.isSl
     replace H := H.add (d := Ch.ro 0 (Sl a57 x50.2.1 c58) x50.2.1) hR59 (fun _ h => h)
     clear hR59
     refine sq (v := (.agg #[(I x50.1), (Sl a57 x50.2.1 c58), (I x50.2.2)])) (rv_load Try.underlying34 rfl ti34 rfl hl55 hc56) (sq_end ?_)
     intro σ60 hm61
     replace H := H.grow (hm61.mono fun _ h => h); clear hm61
     obtain ⟨r62, hx63, h'⟩ := bind_some h
     clear h
     have h := h'; clear h'
     have hc64 := c_impl_sortByDistance_1__p3__p24 (Be := a47) (Bf := c48) (Cm := a57) (Cn := c58) (Cp := Dz) (Cq := Ea) (Cr := Eb) (Cs := Ec) (Ct := Ed) (Cw := Eg) (Cy := Eh) (Cz := Ei) (Da := Ej) (Db := Ek) (Cu := Ee) (Cv := Ef) hx63
     refine st_call (cx_call hc64 (ent_v (cap := [(pt Ea Eb), (pt Eh Ei)]) hc64.fn rfl rfl) hn0 (H.sel' [1, 0, 3, 5, 4, 0, 1, 2, 4] rfl rfl : Hp S0 σ0 _ ([_, _, _, _, _] ++ _))) wn ?_
     rintro _ σ65 ⟨_, ⟨rfl, rfl⟩, H, -⟩
     replace H : Hp _ _ _ [_, _, _, _, _, _] := H
     refine st (v := (B (decide (r62 < 0)))) (rv_lss (a := r62) (b := 0) rfl rfl) (st (v := (B (!(decide (r62 < 0))))) (rv_not rfl) (w_end (q_then ?_)))
     refine cd_cond (!(decide (r62 < 0))) rfl (fun hb66 => ?_) (fun hb66 => ?_)
     ·replace h := bif_t hb66 h
      refine c_ret (q_then_r (q_blk_r (q_then_r (q_blk_r ?_))))
      obtain rfl := Option.some.inj h
      obtain rfl := hres _ rfl
      exact .inr (⟨_, rfl, rfl, _, σ65, fr_join ⟨rfl, rfl, trivial⟩, rfl, H.sel' [4, 0, 5, 1] rfl rfl, hn4⟩)
     ·replace h := bif_f hb66 h
      refine c_skip (q_then (c_seq ?_))
      obtain ⟨x67, hx68, h'⟩ := bind_some h
      clear h
      have h := h'; clear h'
      obtain ⟨b70, o71, hi69, -⟩ := (H.own 4 rfl).ix hx68
      obtain ⟨_, ⟨_, _, rfl, rfl, ⟨_, _, rfl, ⟨_, rfl, hR76⟩, rfl⟩⟩, hl72, hc73⟩ := ((H.own 4 rfl).at hx68 hi69).cells
      obtain ⟨a74, c75, rfl⟩ := hR76.isSl
      replace H := H.add (d := Ch.ro 0 (Sl a74 x67.2.1 c75) x67.2.1) hR76 (fun _ h => h)
      clear hR76
      obtain ⟨x77, hx78, h'⟩ := bind_some h
      clear h
      have h := h'; clear h'
      obtain ⟨b80, o81, hi79, -⟩ := (H.own 5 rfl).ix hx78
      obtain ⟨_, ⟨_, _, rfl, rfl, ⟨_, _, rfl, ⟨_, rfl, hR86⟩, rfl⟩⟩, hl82, hc83⟩ := ((H.own 5 rfl).at hx78 hi79).cells
      obtain ⟨a84, c85, rfl⟩ := hR86.isSl
      replace H := H.add (d := Ch.ro 0 (Sl a84 x77.2.1 c85) x77.2.1) hR86 (fun _ h => h)
      clear hR86
      obtain ⟨x87, hx88, h'⟩ := bind_some h
      clear h
      have h := h'; clear h'
      obtain ⟨b90, o91, hi89, -⟩ := (H.own 6 rfl).ix hx88
      have Hs := H
      refine rg2 (σ := σ65) (Nm := Unit) 22 [21] [[false], [true]] [[(0, 0)], [(0, 0)], [(0, 0)], [(0, 0)], [(0, 0), (1, 1)], [(0, 0), (1, 1)], [(0, 0), (1, 1)], [(0, 0), (1, 1)], [(0, 0)], [(0, 0)], [(0, 0)], [(0, 0)], [(0, 0)], [(0, 0)], [(0, 0)], [(0, 0)], [(0, 0)], [(0, 0)], [(0, 0)], [(0, 0)], [(0, 0)], [(0, 1)]] 1 [fun _ => fun σm => Hp S0 σ0 σm [Ch.ro 0 (Sl a84 x77.2.1 c85) x77.2.1, Ch.ro 0 (Sl a74 x67.2.1 c75) x67.2.1, Ch.bx Dz Ea Eb [(I Dx)] Ec Ed, Ch.bx Eg Eh Ei [(Sl Ee Dy Ef)] Ej Ek, Ch.ro 0 (Sl a57 x50.2.1 c58) x50.2.1, Ch.ro 0 (Sl a47 x40.2.1 c48) x40.2.1, Ch.own 0 0 (Sl Dg s2.1 Dh) s2.1, Ch.ro 0 (Sl Ee Dy Ef) Dy] ∧ Md (cov []) σ65 σm, fun _ => fun σm => Hp S0 σ0 σm [Ch.own 0 0 (Sl Dg s2.1 Dh) (s2.1.set (w64 (Dw + s2.2)).toNat (x67.1, x67.2.1, x67.2.2)), Ch.ro 0 (Sl a84 x77.2.1 c85) x77.2.1, Ch.ro 0 (Sl a74 x67.2.1 c75) x67.2.1, Ch.bx Dz Ea Eb [(I Dx)] Ec Ed, Ch.bx Eg Eh Ei [(Sl Ee Dy Ef)] Ej Ek, Ch.ro 0 (Sl a57 x50.2.1 c58) x50.2.1, Ch.ro 0 (Sl a47 x40.2.1 c48) x40.2.1, Ch.ro 0 (Sl Ee Dy Ef) Dy] ∧ Md (fun i => (cov []) i ∨ (fun b => blk (Sl Dg s2.1 Dh) = some b) i) σ65 σm] [fun _ => (Sl Dg s2.1 Dh), fun _ => (I Dw), fun _ => (I s2.2), fun _ => (I (w64 (Dw + s2.2))), fun _ => (Sl Dg s2.1 Dh), fun _ => (I Dw), fun _ => (I o37), fun _ => (I (w64 (Dw + o37))), fun _ => (Sl Dg s2.1 Dh), fun _ => (I Dw), fun _ => (I o37), fun _ => (I (w64 (Dw + o37))), fun _ => (pt b70 o71), fun _ => (.agg #[(I x67.1), (Sl a74 x67.2.1 c75), (I x67.2.2)]), fun _ => (Sl Dg s2.1 Dh), fun _ => (I Dw), fun _ => (I s2.2), fun _ => (I (w64 (Dw + s2.2))), fun _ => (pt b80 o81), fun _ => (.agg #[(I x77.1), (Sl a84 x77.2.1 c85), (I x77.2.2)]), fun _ => (pt b90 o91), fun _ => undef] () (by kernel_rfl) (by kernel_rfl) ?_ ?_ ?_
      ·intro σm m0
       exact ⟨H.grow (m0.mono fun _ h => h.elim), m0⟩
      ·refine ac rfl (by
         intro k _nm ρ σm hJ hoff hdep
         have e0 := look_off (N := 82) (hoff 0 rfl) rfl
         exact dp_v (v := (Sl Dg s2.1 Dh)) wn (rv_move e0) rfl hJ) ?_
       refine ac rfl (by
         intro k _nm ρ σm hJ hoff hdep
         have e3 := look_off (N := 82) (hoff 3 rfl) rfl
         exact dp_v (v := (I Dw)) wn (rv_move e3) rfl hJ) ?_
       refine ac rfl (by
         intro k _nm ρ σm hJ hoff hdep
         have e10 := look_off (N := 82) (hoff 10 rfl) rfl
         exact dp_v (v := (I s2.2)) wn (rv_move e10) rfl hJ) ?_
       refine ac rfl (by
         intro k _nm ρ σm hJ hoff hdep
         have e60 := hdep 1 rfl rfl 60 rfl
         have e61 := hdep 2 rfl rfl 61 rfl
         exact dp_v (v := (I (w64 (Dw + s2.2)))) wn (rv_add (a := Dw) (b := s2.2) e60 e61) rfl hJ) ?_
       refine ac rfl (by
         intro k _nm ρ σm hJ hoff hdep
         have e0 := look_off (N := 82) (hoff 0 rfl) rfl
         exact dp_v (v := (Sl Dg s2.1 Dh)) wn (rv_move e0) rfl hJ) ?_
       refine ac rfl (by
         intro k _nm ρ σm hJ hoff hdep
         have e3 := look_off (N := 82) (hoff 3 rfl) rfl
         exact dp_v (v := (I Dw)) wn (rv_move e3) rfl hJ) ?_
       refine ac rfl (by
         intro k _nm ρ σm hJ hoff hdep
         have e11 := look_off (N := 82) (hoff 11 rfl) rfl
         exact dp_v (v := (I o37)) wn (rv_move e11) rfl hJ) ?_
       refine ac rfl (by
         intro k _nm ρ σm hJ hoff hdep
         have e64 := hdep 5 rfl rfl 64 rfl
         have e65 := hdep 6 rfl rfl 65 rfl
         exact dp_v (v := (I (w64 (Dw + o37)))) wn (rv_add (a := Dw) (b := o37) e64 e65) rfl hJ) ?_
       refine ac rfl (by
         intro k _nm ρ σm hJ hoff hdep
         have e0 := look_off (N := 82) (hoff 0 rfl) rfl
         exact dp_v (v := (Sl Dg s2.1 Dh)) wn (rv_move e0) rfl hJ) ?_
       refine ac rfl (by
         intro k _nm ρ σm hJ hoff hdep
         have e3 := look_off (N := 82) (hoff 3 rfl) rfl
         exact dp_v (v := (I Dw)) wn (rv_move e3) rfl hJ) ?_
       refine ac rfl (by
         intro k _nm ρ σm hJ hoff hdep
         have e11 := look_off (N := 82) (hoff 11 rfl) rfl
         exact dp_v (v := (I o37)) wn (rv_move e11) rfl hJ) ?_
       refine ac rfl (by
         intro k _nm ρ σm hJ hoff hdep
         have e68 := hdep 9 rfl rfl 68 rfl
         have e69 := hdep 10 rfl rfl 69 rfl
         exact dp_v (v := (I (w64 (Dw + o37)))) wn (rv_add (a := Dw) (b := o37) e68 e69) rfl hJ) ?_
       refine ac rfl (by
         intro k _nm ρ σm hJ hoff hdep
         have e67 := hdep 8 rfl rfl 67 rfl
         have e70 := hdep 11 rfl rfl 70 rfl
         exact dp_v (v := (pt b70 o71)) wn (rv_ix Try.underlying23 ti34 e67 e70 hi69) rfl hJ) ?_
       refine all_cons (by
         refine ⟨?_, ?_⟩
         ·intro _nm ρ σm hJ hoff hdep
          have e71 := hdep 12 rfl rfl 71 rfl
          obtain ⟨H, m⟩ := id hJ
          replace hc73 := fun j hj => m.hcell (hc73 j hj) nocov
          exact dp_v (v := (.agg #[(I x67.1), (Sl a74 x67.2.1 c75), (I x67.2.2)])) wn (rv_load Try.underlying34 rfl ti34 e71 hl72 hc73) rfl hJ
         trivial) ?_
       refine ac rfl (by
         intro k _nm ρ σm hJ hoff hdep
         have e0 := look_off (N := 82) (hoff 0 rfl) rfl
         exact dp_v (v := (Sl Dg s2.1 Dh)) wn (rv_move e0) rfl hJ) ?_
       refine ac rfl (by
         intro k _nm ρ σm hJ hoff hdep
         have e3 := look_off (N := 82) (hoff 3 rfl) rfl
         exact dp_v (v := (I Dw)) wn (rv_move e3) rfl hJ) ?_
       refine ac rfl (by
         intro k _nm ρ σm hJ hoff hdep
         have e10 := look_off (N := 82) (hoff 10 rfl) rfl
         exact dp_v (v := (I s2.2)) wn (rv_move e10) rfl hJ) ?_
       refine ac rfl (by
         intro k _nm ρ σm hJ hoff hdep
         have e74 := hdep 15 rfl rfl 74 rfl
         have e75 := hdep 16 rfl rfl 75 rfl
         exact dp_v (v := (I (w64 (Dw + s2.2)))) wn (rv_add (a := Dw) (b := s2.2) e74 e75) rfl hJ) ?_
       refine ac rfl (by
         intro k _nm ρ σm hJ hoff hdep
         have e73 := hdep 14 rfl rfl 73 rfl
         have e76 := hdep 17 rfl rfl 76 rfl
         exact dp_v (v := (pt b80 o81)) wn (rv_ix Try.underlying23 ti34 e73 e76 hi79) rfl hJ) ?_
       refine all_cons (by
         refine ⟨?_, ?_⟩
         ·intro _nm ρ σm hJ hoff hdep
          have e77 := hdep 18 rfl rfl 77 rfl
          obtain ⟨H, m⟩ := id hJ
          replace hc83 := fun j hj => m.hcell (hc83 j hj) nocov
          exact dp_v (v := (.agg #[(I x77.1), (Sl a84 x77.2.1 c85), (I x77.2.2)])) wn (rv_load Try.underlying34 rfl ti34 e77 hl82 hc83) rfl hJ
         trivial) ?_
       refine ac rfl (by
         intro k _nm ρ σm hJ hoff hdep
         have e59 := hdep 0 rfl rfl 59 rfl
         have e62 := hdep 3 rfl rfl 62 rfl
         exact dp_v (v := (pt b90 o91)) wn (rv_ix Try.underlying23 ti34 e59 e62 hi89) rfl hJ) ?_
       refine all_cons (by
         refine ⟨?_, ?_⟩
         ·intro _nm ρ σm hJ hoff hdep
          have e79 := hdep 20 rfl rfl 79 rfl
          have e72 := hdep 13 rfl rfl 72 rfl
          obtain ⟨H, m⟩ := id hJ
          refine dp_exS wn rfl (ex_store_own (e' := (x67.1, x67.2.1, x67.2.2)) (vs := [(I x67.1), (Sl a74 x67.2.1 c75), (I x67.2.2)]) (k := 0) H (i := 6) rfl ti34 hx88 hi89 e79 rfl e72 rfl rfl (Nat.le_of_ble_eq_true rfl) (by simp [plain]) (by rintro _ ⟨_, _, rfl, rfl, ⟨_, _, rfl, ⟨_, rfl, hR94⟩, rfl⟩⟩; exact ⟨[(I x67.1)], [(Sl a74 x67.2.1 c75), (I x67.2.2)], rfl, rfl, ⟨[(Sl a74 x67.2.1 c75)], [(I x67.2.2)], rfl, ⟨_, rfl, (H.ro 1 rfl)⟩, rfl⟩⟩)) ?_
          rintro σq ⟨H2, m2⟩
          exact ⟨_, (), rfl, ⟨H2.sel' [0, 1, 2, 3, 4, 5, 6, 7] rfl rfl, m.comp m2⟩, stab [0, 1, 2, 3, 4, 5, 6, 7, 8, 9, 10, 11, 12, 13, 14, 15, 16, 17, 18, 19, 20] (by kernel_rfl) ⟨rfl, rfl, rfl, rfl, rfl, rfl, rfl, rfl, rfl, rfl, rfl, rfl, rfl, rfl, rfl, rfl, rfl, rfl, rfl, rfl, rfl, trivial⟩⟩
         trivial) ?_
       exact all_nil
      ·intro _nm ρ σ95 hJ hoff hrel
       have e0 := look_off (N := 82) (hoff 0 rfl) rfl
       have e2 := look_off (N := 82) (hoff 2 rfl) rfl
       have e3 := look_off (N := 82) (hoff 3 rfl) rfl
       have e4 := look_off (N := 82) (hoff 4 rfl) rfl
       have e11 := look_off (N := 82) (hoff 11 rfl) rfl
       have e63 := hrel 4 rfl 63 rfl
       have e66 := hrel 7 rfl 66 rfl
       have e78 := hrel 19 rfl 78 rfl
       obtain ⟨H, -⟩ := (show Hp S0 σ0 σ95 [Ch.own 0 0 (Sl Dg s2.1 Dh) (s2.1.set (w64 (Dw + s2.2)).toNat (x67.1, x67.2.1, x67.2.2)), Ch.ro 0 (Sl a84 x77.2.1 c85) x77.2.1, Ch.ro 0 (Sl a74 x67.2.1 c75) x67.2.1, Ch.bx Dz Ea Eb [(I Dx)] Ec Ed, Ch.bx Eg Eh Ei [(Sl Ee Dy Ef)] Ej Ek, Ch.ro 0 (Sl a57 x50.2.1 c58) x50.2.1, Ch.ro 0 (Sl a47 x40.2.1 c48) x40.2.1, Ch.ro 0 (Sl Ee Dy Ef) Dy] ∧ Md (fun i => (cov []) i ∨ (fun b => blk (Sl Dg s2.1 Dh) = some b) i) σ65 σ95 from hJ)
       clear hJ Hs
       rw [fr_lookL (L := [(0, (Sl Dg s2.1 Dh)), (2, (I Dv)), (3, (I Dw)), (4, (.func (.func 88) #[] #[(pt Ea Eb), (pt Eh Ei)])), (11, (I o37)), (63, (Sl Dg s2.1 Dh)), (66, (I (w64 (Dw + o37)))), (78, (.agg #[(I x77.1), (Sl a84 x77.2.1 c85), (I x77.2.2)]))]) ⟨e0, e2, e3, e4, e11, e63, e66, e78, trivial⟩]
       clear hoff hrel e0 e2 e3 e4 e11 e63 e66 e78
       have hsl : (Sl Dg s2.1 Dh) = (Sl Dg (s2.1.set (w64 (Dw + s2.2)).toNat (x67.1, x67.2.1, x67.2.2)) Dh) := sl_len (by simp)
       rw [hsl]; rw [hsl] at H; clear hsl
       obtain ⟨x96, hx97, h'⟩ := bind_some h
       clear h
       have h := h'; clear h'
       obtain ⟨b99, o100, hi98, -⟩ := (H.own 0 rfl).ix hx97
       refine st (v := (pt b99 o100)) (rv_ix Try.underlying23 ti34 rfl rfl hi98) ?_
       refine st_exS (ex_store_own (e' := (x77.1, x77.2.1, x77.2.2)) (vs := [(I x77.1), (Sl a84 x77.2.1 c85), (I x77.2.2)]) (k := 0) H (i := 0) rfl ti34 hx97 hi98 rfl rfl rfl rfl rfl (Nat.le_of_ble_eq_true rfl) (by simp [plain]) (by rintro _ ⟨_, _, rfl, rfl, ⟨_, _, rfl, ⟨_, rfl, hR103⟩, rfl⟩⟩; exact ⟨[(I x77.1)], [(Sl a84 x77.2.1 c85), (I x77.2.2)], rfl, rfl, ⟨[(Sl a84 x77.2.1 c85)], [(I x77.2.2)], rfl, ⟨_, rfl, (H.ro 1 rfl)⟩, rfl⟩⟩)) wn ?_
       rintro σ104 ⟨H, -⟩
       have hsl : (Sl Dg (s2.1.set (w64 (Dw + s2.2)).toNat (x67.1, x67.2.1, x67.2.2)) Dh) = (Sl Dg ((s2.1.set (w64 (Dw + s2.2)).toNat (x67.1, x67.2.1, x67.2.2)).set (w64 (Dw + o37)).toNat (x77.1, x77.2.1, x77.2.2)) Dh) := sl_len List.length_set.symm
       rw [hsl]; rw [hsl] at H; clear hsl
       replace H : Hp S0 σ0 σ104 [Ch.own 0 0 (Sl Dg ((s2.1.set (w64 (Dw + s2.2)).toNat (x67.1, x67.2.1, x67.2.2)).set (w64 (Dw + o37)).toNat (x77.1, x77.2.1, x77.2.2)) Dh) ((s2.1.set (w64 (Dw + s2.2)).toNat (x67.1, x67.2.1, x67.2.2)).set (w64 (Dw + o37)).toNat (x77.1, x77.2.1, x77.2.2)), Ch.bx Dz Ea Eb [(I Dx)] Ec Ed, Ch.bx Eg Eh Ei [(Sl Ee Dy Ef)] Ej Ek, Ch.ro 0 (Sl Ee Dy Ef) Dy] := H.sel' [0, 3, 4, 7] rfl rfl
       refine w_end (q_then (rg (st (v := (I o37)) (rv_move rfl) (st (v := (I o37)) (rv_assign rfl) (w_end (q_blk (q_then ?_)))))))
       obtain rfl := Option.some.inj h
       exact ⟨_, rfl, _, σ104, fr_join ⟨rfl, rfl, rfl, rfl, rfl, trivial⟩, rfl, H.sel' [0, 1, 3, 2] rfl rfl, (List.length_set.trans (List.length_set.trans hn4))⟩
 ·clear hj
  have h := h'
  clear h' H
  rintro e a w (⟨t105, rfl, rfl, ρ, σ106, rfl, rfl, H, hn107⟩ | ⟨t108, rfl, rfl, ρ, σ109, rfl, rfl, H, hn110⟩)
  ·replace h := selim_l h
   obtain rfl := Option.some.inj h
   exact fin_end (v := (.tuple #[])) (results_ok Try.results124 res_nil rfl) ⟨rfl, rfl, hn107⟩ (H.sel' [0, 1, 3] rfl rfl)
  ·replace h := selim_r h
   obtain rfl := Option.some.inj h
   exact fin_ret (v := (.tuple #[])) (results_ok Try.results124 res_nil rfl) ⟨rfl, rfl, hn110⟩ (H.sel' [0, 1, 3] rfl rfl)

theorem c_slices_heapSortCmpFunc_impl_Item__impl_sortByDistance_1 {Dc : List (Int × (List Int) × Int)} {Bq : Int} {Br : Int} {Dd : Int} {De : List Int} {Dg : Option Addr} {Dh : Nat} {Di Dj Dk : Nat} {Dl Dm : List Value} {Dn : Option Addr} {Do : Nat} {Dp Dq Dr : Nat} {Ds Dt : List Value} {r : (List (Int × (List Int) × Int))} (h : M.slices_heapSortCmpFunc_impl_Item__impl_sortByDistance_1 Dc Bq Br Dd De = some r) :
    Cal2 Try.prog 113 [(Sl Dg Dc Dh), (I Bq), (I Br), (.func (.func 88) #[] #[(pt Dj Dk), (pt Dq Dr)])] [Ch.own 0 0 (Sl Dg Dc Dh) Dc, Ch.bx Di Dj Dk [(I Dd)] Dl Dm, Ch.bx Dp Dq Dr [(Sl Dn De Do)] Ds Dt, Ch.ro 0 (Sl Dn De Do) De] (fun n0 v L => v = (.tuple #[]) ∧ L = [Ch.own 0 0 (Sl Dg r Dh) r, Ch.bx Di Dj Dk [(I Dd)] Dl Dm, Ch.bx Dp Dq Dr [(Sl Dn De Do)] Ds Dt] ∧ r.length = Dc.length) := by
 refine cal2 (n := 60) Try.func113 rfl rfl rfl rfl ?_
 intro S0 σ0 n0 hn0 H
 unfold M.slices_heapSortCmpFunc_impl_Item__impl_sortByDistance_1 at h
 refine c_seq (rg (st (v := (I Bq)) (rv_move rfl) (st (v := (I Bq)) (rv_assign rfl) (w_end (q_then (c_seq (rg (st (v := (I 0)) (rv_assign rfl) (w_end (q_then (c_seq ?_)))))))))))
 refine rg (st (v := (I Br)) (rv_move rfl) (st (v := (I Bq)) (rv_move rfl) (st (v := (I (w64 (Br - Bq)))) (rv_sub (a := Br) (b := Bq) rfl rfl) (st (v := (I (w64 (Br - Bq)))) (rv_assign rfl) (w_end (q_then (c_seq (c_seq (rg (st (v := (I (w64 (Br - Bq)))) (rv_move rfl) (st (v := (I (w64 ((w64 (Br - Bq)) - 1)))) (rv_sub (a := (w64 (Br - Bq))) (b := 1) rfl rfl) ?_)))))))))))
 refine st (v := (I (w64 ((w64 ((w64 (Br - Bq)) - 1)).tdiv 2)))) (rv_quo (a := (w64 ((w64 (Br - Bq)) - 1))) (b := 2) rfl rfl (by decide)) ?_
 refine st (v := (I (w64 ((w64 ((w64 (Br - Bq)) - 1)).tdiv 2)))) (rv_assign rfl) (w_end (q_then ?_))
 obtain ⟨o1, hj, h'⟩ := bind_some h
 clear h
 refine c_cut (fun e a w => e = .normal ∧ ∃ (ρ : Nat → Value) (σ : St), a = fr 60 (updL ρ [(0, (Sl Dg o1 Dh)), (3, (.func (.func 88) #[] #[(pt Dj Dk), (pt Dq Dr)])), (8, (I Bq)), (9, (I 0)), (10, (I (w64 (Br - Bq))))]) ∧ w = σ.w ∧ Hp S0 σ0 σ [Ch.own 0 0 (Sl Dg o1 Dh) o1, Ch.bx Di Dj Dk [(I Dd)] Dl Dm, Ch.ro 0 (Sl Dn De Do) De, Ch.bx Dp Dq Dr [(Sl Dn De Do)] Ds Dt] ∧ o1.length = Dc.length) ?_ ?_
 ·clear h'
  rename _ = some o1 => h
  refine c_blk (wp_loopM _ h (fun s2 a w => ∃ (ρ : Nat → Value) (σ : St), a = fr 60 (updL ρ [(0, (Sl Dg s2.1 Dh)), (3, (.func (.func 88) #[] #[(pt Dj Dk), (pt Dq Dr)])), (8, (I Bq)), (9, (I 0)), (10, (I (w64 (Br - Bq)))), (11, (I s2.2))]) ∧ w = σ.w ∧ Hp S0 σ0 σ [Ch.own 0 0 (Sl Dg s2.1 Dh) s2.1, Ch.bx Di Dj Dk [(I Dd)] Dl Dm, Ch.ro 0 (Sl Dn De Do) De, Ch.bx Dp Dq Dr [(Sl Dn De Do)] Ds Dt] ∧ s2.1.length = Dc.length) ⟨_, σ0, fr_join ⟨rfl, rfl, rfl, rfl, rfl, rfl, trivial⟩, rfl, H.sel' [0, 1, 3, 2] rfl rfl, rfl⟩ ?_)
  clear h H
  rintro s2 a w o ⟨ρ, σ3, rfl, rfl, H, hn4⟩ h hres
  refine c_seq (c_seq (rg (st (v := (I s2.2)) (rv_move rfl) (st (v := (B (decide (0 ≤ s2.2)))) (rv_geq (a := s2.2) (b := 0) rfl rfl) (w_end (q_then ?_))))))
  refine cd_cond (decide (0 ≤ s2.2)) rfl (fun hb5 => ?_) (fun hb5 => ?_)
  ·replace h := bif_t hb5 h
   refine c_skip (q_then (c_seq (c_blk (rg (st (v := (Sl Dg s2.1 Dh)) (rv_move rfl) (st (v := (I s2.2)) (rv_move rfl) (st (v := (I (w64 (Br - Bq)))) (rv_move rfl) (st (v := (I Bq)) (rv_move rfl) (st (v := (.func (.func 88) #[] #[(pt Dj Dk), (pt Dq Dr)])) (rv_move rfl) ?_)))))))))
   obtain ⟨r6, hx7, h'⟩ := bind_some h
   clear h
   have h := h'; clear h'
   have hc8 := c_slices_siftDownCmpFunc_impl_Item__impl_sortByDistance_1 (Dg := Dg) (Dh := Dh) (Dz := Di) (Ea := Dj) (Eb := Dk) (Ec := Dl) (Ed := Dm) (Eg := Dp) (Eh := Dq) (Ei := Dr) (Ej := Ds) (Ek := Dt) (Ee := Dn) (Ef := Do) hx7
   refine st_call (cx_call hc8 (ent_f hc8.fn rfl) hn0 (H.sel' [0, 1, 3, 2, 2] rfl rfl : Hp S0 σ0 _ ([_, _, _, _] ++ _))) wn ?_
   rintro _ σ10 ⟨_, ⟨rfl, rfl, hn9⟩, H, -⟩
   replace H : Hp _ _ _ [_, _, _, _] := H
   have hsl : (Sl Dg s2.1 Dh) = (Sl Dg r6 Dh) := sl_len hn9.symm
   try rw [hsl]
   try rw [hsl] at H
   clear hsl
   refine w_end (q_blk (q_then (rg (st (v := (I s2.2)) (rv_move rfl) (st (v := (I (w64 (s2.2 - 1)))) (rv_sub (a := s2.2) (b := 1) rfl rfl) (st (v := (I (w64 (s2.2 - 1)))) (rv_assign rfl) (w_end (q_then ?_))))))))
   obtain rfl := Option.some.inj h
   exact ⟨_, rfl, _, σ10, fr_join ⟨rfl, rfl, rfl, rfl, rfl, rfl, trivial⟩, rfl, H.sel' [0, 1, 3, 2] rfl rfl, (hn9.trans hn4)⟩
  ·replace h := bif_f hb5 h
   refine c_exit (q_then_x (q_then_x (q_blk_hit ?_)))
   obtain rfl := Option.some.inj h
   obtain rfl := hres _ rfl
   exact ⟨rfl, _, σ3, fr_join ⟨rfl, rfl, rfl, rfl, rfl, trivial⟩, rfl, H.sel' [0, 1, 2, 3] rfl rfl, hn4⟩
 ·clear hj
  have h := h'
  clear h' H
  rintro e a w ⟨rfl, ρ, σ11, rfl, rfl, H, hn12⟩
  refine q_then (c_seq (rg (st (v := (I (w64 (Br - Bq)))) (rv_move rfl) (st (v := (I (w64 ((w64 (Br - Bq)) - 1)))) (rv_sub (a := (w64 (Br - Bq))) (b := 1) rfl rfl) (st (v := (I (w64 ((w64 (Br - Bq)) - 1)))) (rv_assign rfl) (w_end (q_then ?_)))))))
  obtain ⟨o13, hj, h'⟩ := bind_some h
  clear h
  refine c_cut (fun e a w => e = .normal ∧ ∃ (ρ : Nat → Value) (σ : St), a = fr 60 (updL ρ [(0, (Sl Dg o13 Dh)), (3, (.func (.func 88) #[] #[(pt Dj Dk), (pt Dq Dr)]))]) ∧ w = σ.w ∧ Hp S0 σ0 σ [Ch.own 0 0 (Sl Dg o13 Dh) o13, Ch.bx Di Dj Dk [(I Dd)] Dl Dm, Ch.ro 0 (Sl Dn De Do) De, Ch.bx Dp Dq Dr [(Sl Dn De Do)] Ds Dt] ∧ o13.length = o1.length) ?_ ?_
  ·clear h'
   rename _ = some o13 => h
   refine c_blk (wp_loopM _ h (fun s14 a w => ∃ (ρ : Nat → Value) (σ : St), a = fr 60 (updL ρ [(0, (Sl Dg s14.1 Dh)), (3, (.func (.func 88) #[] #[(pt Dj Dk), (pt Dq Dr)])), (8, (I Bq)), (9, (I 0)), (12, (I s14.2))]) ∧ w = σ.w ∧ Hp S0 σ0 σ [Ch.own 0 0 (Sl Dg s14.1 Dh) s14.1, Ch.bx Di Dj Dk [(I Dd)] Dl Dm, Ch.ro 0 (Sl Dn De Do) De, Ch.bx Dp Dq Dr [(Sl Dn De Do)] Ds Dt] ∧ s14.1.length = o1.length) ⟨_, σ11, fr_join ⟨rfl, rfl, rfl, rfl, rfl, trivial⟩, rfl, H.sel' [0, 1, 2, 3] rfl rfl, rfl⟩ ?_)
   clear h H
   rintro s14 a w o ⟨ρ, σ15, rfl, rfl, H, hn16⟩ h hres
   refine c_seq (c_seq (rg (st (v := (I s14.2)) (rv_move rfl) (st (v := (B (decide (0 ≤ s14.2)))) (rv_geq (a := s14.2) (b := 0) rfl rfl) (w_end (q_then ?_))))))
   refine cd_cond (decide (0 ≤ s14.2)) rfl (fun hb17 => ?_) (fun hb17 => ?_)
   ·replace h := bif_t hb17 h
    refine c_skip (q_then (c_seq (c_blk (c_seq ?_))))
    obtain ⟨x18, hx19, h'⟩ := bind_some h
    clear h
    have h := h'; clear h'
    obtain ⟨b21, o22, hi20, -⟩ := (H.own 0 rfl).ix hx19
    obtain ⟨_, ⟨_, _, rfl, rfl, ⟨_, _, rfl, ⟨_, rfl, hR27⟩, rfl⟩⟩, hl23, hc24⟩ := ((H.own 0 rfl).at hx19 hi20).cells
    obtain ⟨a25, c26, rfl⟩ := hR27.isSl
    replace H := H.add (d := Ch.ro 0 (Sl a25 x18.2.1 c26) x18.2.1) hR27 (fun _ h => h)
    clear hR27
    obtain ⟨x28, hx29, h'⟩ := bind_some h
    clear h
    have h := h'; clear h'
    obtain ⟨b31, o32, hi30, -⟩ := (H.own 1 rfl).ix hx29
    obtain ⟨_, ⟨_, _, rfl, rfl, ⟨_, _, rfl, ⟨_, rfl, hR37⟩, rfl⟩⟩, hl33, hc34⟩ := ((H.own 1 rfl).at hx29 hi30).cells
    obtain ⟨a35, c36, rfl⟩ := hR37.isSl
    replace H := H.add (d := Ch.ro 0 (Sl a35 x28.2.1 c36) x28.2.1) hR37 (fun _ h => h)
    clear hR37
    obtain ⟨x38, hx39, h'⟩ := bind_some h
    clear h
    have h := h'; clear h'
    obtain ⟨b41, o42, hi40, -⟩ := (H.own 2 rfl).ix hx39
    have Hs := H
    refine rg2 (σ := σ15) (Nm := Unit) 18 [17] [[false], [true]] [[(0, 0)], [(0, 0)], [(0, 0), (1, 1)], [(0, 0), (1, 1)], [(0, 0), (1, 1)], [(0, 0), (1, 1)], [(0, 0)], [(0, 0)], [(0, 0)], [(0, 0)], [(0, 0)], [(0, 0)], [(0, 0)], [(0, 0)], [(0, 0)], [(0, 0)], [(0, 0)], [(0, 1)]] 1 [fun _ => fun σm => Hp S0 σ0 σm [Ch.ro 0 (Sl a35 x28.2.1 c36) x28.2.1, Ch.ro 0 (Sl a25 x18.2.1 c26) x18.2.1, Ch.own 0 0 (Sl Dg s14.1 Dh) s14.1, Ch.bx Di Dj Dk [(I Dd)] Dl Dm, Ch.ro 0 (Sl Dn De Do) De, Ch.bx Dp Dq Dr [(Sl Dn De Do)] Ds Dt] ∧ Md (cov []) σ15 σm, fun _ => fun σm => Hp S0 σ0 σm [Ch.own 0 0 (Sl Dg s14.1 Dh) (s14.1.set Bq.toNat (x18.1, x18.2.1, x18.2.2)), Ch.ro 0 (Sl a35 x28.2.1 c36) x28.2.1, Ch.ro 0 (Sl a25 x18.2.1 c26) x18.2.1, Ch.bx Di Dj Dk [(I Dd)] Dl Dm, Ch.ro 0 (Sl Dn De Do) De, Ch.bx Dp Dq Dr [(Sl Dn De Do)] Ds Dt] ∧ Md (fun i => (cov []) i ∨ (fun b => blk (Sl Dg s14.1 Dh) = some b) i) σ15 σm] [fun _ => (Sl Dg s14.1 Dh), fun _ => (I Bq), fun _ => (Sl Dg s14.1 Dh), fun _ => (I Bq), fun _ => (I s14.2), fun _ => (I (w64 (Bq + s14.2))), fun _ => (Sl Dg s14.1 Dh), fun _ => (I Bq), fun _ => (I s14.2), fun _ => (I (w64 (Bq + s14.2))), fun _ => (pt b21 o22), fun _ => (.agg #[(I x18.1), (Sl a25 x18.2.1 c26), (I x18.2.2)]), fun _ => (Sl Dg s14.1 Dh), fun _ => (I Bq), fun _ => (pt b31 o32), fun _ => (.agg #[(I x28.1), (Sl a35 x28.2.1 c36), (I x28.2.2)]), fun _ => (pt b41 o42), fun _ => undef] () (by kernel_rfl) (by kernel_rfl) ?_ ?_ ?_
    ·intro σm m0
     exact ⟨H.grow (m0.mono fun _ h => h.elim), m0⟩
    ·refine ac rfl (by
       intro k _nm ρ σm hJ hoff hdep
       have e0 := look_off (N := 60) (hoff 0 rfl) rfl
       exact dp_v (v := (Sl Dg s14.1 Dh)) wn (rv_move e0) rfl hJ) ?_
     refine ac rfl (by
       intro k _nm ρ σm hJ hoff hdep
       have e8 := look_off (N := 60) (hoff 8 rfl) rfl
       exact dp_v (v := (I Bq)) wn (rv_move e8) rfl hJ) ?_
     refine ac rfl (by
       intro k _nm ρ σm hJ hoff hdep
       have e0 := look_off (N := 60) (hoff 0 rfl) rfl
       exact dp_v (v := (Sl Dg s14.1 Dh)) wn (rv_move e0) rfl hJ) ?_
     refine ac rfl (by
       intro k _nm ρ σm hJ hoff hdep
       have e8 := look_off (N := 60) (hoff 8 rfl) rfl
       exact dp_v (v := (I Bq)) wn (rv_move e8) rfl hJ) ?_
     refine ac rfl (by
       intro k _nm ρ σm hJ hoff hdep
       have e12 := look_off (N := 60) (hoff 12 rfl) rfl
       exact dp_v (v := (I s14.2)) wn (rv_move e12) rfl hJ) ?_
     refine ac rfl (by
       intro k _nm ρ σm hJ hoff hdep
       have e39 := hdep 3 rfl rfl 39 rfl
       have e40 := hdep 4 rfl rfl 40 rfl
       exact dp_v (v := (I (w64 (Bq + s14.2)))) wn (rv_add (a := Bq) (b := s14.2) e39 e40) rfl hJ) ?_
     refine ac rfl (by
       intro k _nm ρ σm hJ hoff hdep
       have e0 := look_off (N := 60) (hoff 0 rfl) rfl
       exact dp_v (v := (Sl Dg s14.1 Dh)) wn (rv_move e0) rfl hJ) ?_
     refine ac rfl (by
       intro k _nm ρ σm hJ hoff hdep
       have e8 := look_off (N := 60) (hoff 8 rfl) rfl
       exact dp_v (v := (I Bq)) wn (rv_move e8) rfl hJ) ?_
     refine ac rfl (by
       intro k _nm ρ σm hJ hoff hdep
       have e12 := look_off (N := 60) (hoff 12 rfl) rfl
       exact dp_v (v := (I s14.2)) wn (rv_move e12) rfl hJ) ?_
     refine ac rfl (by
       intro k _nm ρ σm hJ hoff hdep
       have e43 := hdep 7 rfl rfl 43 rfl
       have e44 := hdep 8 rfl rfl 44 rfl
       exact dp_v (v := (I (w64 (Bq + s14.2)))) wn (rv_add (a := Bq) (b := s14.2) e43 e44) rfl hJ) ?_
     refine ac rfl (by
       intro k _nm ρ σm hJ hoff hdep
       have e42 := hdep 6 rfl rfl 42 rfl
       have e45 := hdep 9 rfl rfl 45 rfl
       exact dp_v (v := (pt b21 o22)) wn (rv_ix Try.underlying23 ti34 e42 e45 hi20) rfl hJ) ?_
     refine all_cons (by
       refine ⟨?_, ?_⟩
       ·intro _nm ρ σm hJ hoff hdep
        have e46 := hdep 10 rfl rfl 46 rfl
        obtain ⟨H, m⟩ := id hJ
        replace hc24 := fun j hj => m.hcell (hc24 j hj) nocov
        exact dp_v (v := (.agg #[(I x18.1), (Sl a25 x18.2.1 c26), (I x18.2.2)])) wn (rv_load Try.underlying34 rfl ti34 e46 hl23 hc24) rfl hJ
       trivial) ?_
     refine ac rfl (by
       intro k _nm ρ σm hJ hoff hdep
       have e0 := look_off (N := 60) (hoff 0 rfl) rfl
       exact dp_v (v := (Sl Dg s14.1 Dh)) wn (rv_move e0) rfl hJ) ?_
     refine ac rfl (by
       intro k _nm ρ σm hJ hoff hdep
       have e8 := look_off (N := 60) (hoff 8 rfl) rfl
       exact dp_v (v := (I Bq)) wn (rv_move e8) rfl hJ) ?_
     refine ac rfl (by
       intro k _nm ρ σm hJ hoff hdep
       have e48 := hdep 12 rfl rfl 48 rfl
       have e49 := hdep 13 rfl rfl 49 rfl
       exact dp_v (v := (pt b31 o32)) wn (rv_ix Try.underlying23 ti34 e48 e49 hi30) rfl hJ) ?_
     refine all_cons (by
       refine ⟨?_, ?_⟩
       ·intro _nm ρ σm hJ hoff hdep
        have e50 := hdep 14 rfl rfl 50 rfl
        obtain ⟨H, m⟩ := id hJ
        replace hc34 := fun j hj => m.hcell (hc34 j hj) nocov
        exact dp_v (v := (.agg #[(I x28.1), (Sl a35 x28.2.1 c36), (I x28.2.2)])) wn (rv_load Try.underlying34 rfl ti34 e50 hl33 hc34) rfl hJ
       trivial) ?_
     refine ac rfl (by
       intro k _nm ρ σm hJ hoff hdep
       have e36 := hdep 0 rfl rfl 36 rfl
       have e37 := hdep 1 rfl rfl 37 rfl
       exact dp_v (v := (pt b41 o42)) wn (rv_ix Try.underlying23 ti34 e36 e37 hi40) rfl hJ) ?_
     refine all_cons (by
       refine ⟨?_, ?_⟩
       ·intro _nm ρ σm hJ hoff hdep
        have e52 := hdep 16 rfl rfl 52 rfl
        have e47 := hdep 11 rfl rfl 47 rfl
        obtain ⟨H, m⟩ := id hJ
        refine dp_exS wn rfl (ex_store_own (e' := (x18.1, x18.2.1, x18.2.2)) (vs := [(I x18.1), (Sl a25 x18.2.1 c26), (I x18.2.2)]) (k := 0) H (i := 2) rfl ti34 hx39 hi40 e52 rfl e47 rfl rfl (Nat.le_of_ble_eq_true rfl) (by simp [plain]) (by rintro _ ⟨_, _, rfl, rfl, ⟨_, _, rfl, ⟨_, rfl, hR45⟩, rfl⟩⟩; exact ⟨[(I x18.1)], [(Sl a25 x18.2.1 c26), (I x18.2.2)], rfl, rfl, ⟨[(Sl a25 x18.2.1 c26)], [(I x18.2.2)], rfl, ⟨_, rfl, (H.ro 1 rfl)⟩, rfl⟩⟩)) ?_
        rintro σq ⟨H2, m2⟩
        exact ⟨_, (), rfl, ⟨H2.sel' [0, 1, 2, 3, 4, 5] rfl rfl, m.comp m2⟩, stab [0, 1, 2, 3, 4, 5, 6, 7, 8, 9, 10, 11, 12, 13, 14, 15, 16] (by kernel_rfl) ⟨rfl, rfl, rfl, rfl, rfl, rfl, rfl, rfl, rfl, rfl, rfl, rfl, rfl, rfl, rfl, rfl, rfl, trivial⟩⟩
       trivial) ?_
     exact all_nil
    ·intro _nm ρ σ46 hJ hoff hrel
     have e0 := look_off (N := 60) (hoff 0 rfl) rfl
     have e3 := look_off (N := 60) (hoff 3 rfl) rfl
     have e8 := look_off (N := 60) (hoff 8 rfl) rfl
     have e9 := look_off (N := 60) (hoff 9 rfl) rfl
     have e12 := look_off (N := 60) (hoff 12 rfl) rfl
     have e38 := hrel 2 rfl 38 rfl
     have e41 := hrel 5 rfl 41 rfl
     have e51 := hrel 15 rfl 51 rfl
     obtain ⟨H, -⟩ := (show Hp S0 σ0 σ46 [Ch.own 0 0 (Sl Dg s14.1 Dh) (s14.1.set Bq.toNat (x18.1, x18.2.1, x18.2.2)), Ch.ro 0 (Sl a35 x28.2.1 c36) x28.2.1, Ch.ro 0 (Sl a25 x18.2.1 c26) x18.2.1, Ch.bx Di Dj Dk [(I Dd)] Dl Dm, Ch.ro 0 (Sl Dn De Do) De, Ch.bx Dp Dq Dr [(Sl Dn De Do)] Ds Dt] ∧ Md (fun i => (cov []) i ∨ (fun b => blk (Sl Dg s14.1 Dh) = some b) i) σ15 σ46 from hJ)
     clear hJ Hs
     rw [fr_lookL (L := [(0, (Sl Dg s14.1 Dh)), (3, (.func (.func 88) #[] #[(pt Dj Dk), (pt Dq Dr)])), (8, (I Bq)), (9, (I 0)), (12, (I s14.2)), (38, (Sl Dg s14.1 Dh)), (41, (I (w64 (Bq + s14.2)))), (51, (.agg #[(I x28.1), (Sl a35 x28.2.1 c36), (I x28.2.2)]))]) ⟨e0, e3, e8, e9, e12, e38, e41, e51, trivial⟩]
     clear hoff hrel e0 e3 e8 e9 e12 e38 e41 e51
     have hsl : (Sl Dg s14.1 Dh) = (Sl Dg (s14.1.set Bq.toNat (x18.1, x18.2.1, x18.2.2)) Dh) := sl_len (by simp)
     rw [hsl]; rw [hsl] at H; clear hsl
     obtain ⟨x47, hx48, h'⟩ := bind_some h
     clear h
     have h := h'; clear h'
     obtain ⟨b50, o51, hi49, -⟩ := (H.own 0 rfl).ix hx48
     refine st (v := (pt b50 o51)) (rv_ix Try.underlying23 ti34 rfl rfl hi49) ?_
     refine st_exS (ex_store_own (e' := (x28.1, x28.2.1, x28.2.2)) (vs := [(I x28.1), (Sl a35 x28.2.1 c36), (I x28.2.2)]) (k := 0) H (i := 0) rfl ti34 hx48 hi49 rfl rfl rfl rfl rfl (Nat.le_of_ble_eq_true rfl) (by simp [plain]) (by rintro _ ⟨_, _, rfl, rfl, ⟨_, _, rfl, ⟨_, rfl, hR54⟩, rfl⟩⟩; exact ⟨[(I x28.1)], [(Sl a35 x28.2.1 c36), (I x28.2.2)], rfl, rfl, ⟨[(Sl a35 x28.2.1 c36)], [(I x28.2.2)], rfl, ⟨_, rfl, (H.ro 1 rfl)⟩, rfl⟩⟩)) wn ?_
     rintro σ55 ⟨H, -⟩
     have hsl : (Sl Dg (s14.1.set Bq.toNat (x18.1, x18.2.1, x18.2.2)) Dh) = (Sl Dg ((s14.1.set Bq.toNat (x18.1, x18.2.1, x18.2.2)).set (w64 (Bq + s14.2)).toNat (x28.1, x28.2.1, x28.2.2)) Dh) := sl_len List.length_set.symm
     rw [hsl]; rw [hsl] at H; clear hsl
     refine w_end (q_then (rg (st (v := (Sl Dg ((s14.1.set Bq.toNat (x18.1, x18.2.1, x18.2.2)).set (w64 (Bq + s14.2)).toNat (x28.1, x28.2.1, x28.2.2)) Dh)) (rv_move rfl) (st (v := (I 0)) (rv_move rfl) (st (v := (I s14.2)) (rv_move rfl) (st (v := (I Bq)) (rv_move rfl) (st (v := (.func (.func 88) #[] #[(pt Dj Dk), (pt Dq Dr)])) (rv_move rfl) ?_)))))))
     obtain ⟨r56, hx57, h'⟩ := bind_some h
     clear h
     have h := h'; clear h'
     have hc58 := c_slices_siftDownCmpFunc_impl_Item__impl_sortByDistance_1 (Dg := Dg) (Dh := Dh) (Dz := Di) (Ea := Dj) (Eb := Dk) (Ec := Dl) (Ed := Dm) (Eg := Dp) (Eh := Dq) (Ei := Dr) (Ej := Ds) (Ek := Dt) (Ee := Dn) (Ef := Do) hx57
     refine st_call (cx_call hc58 (ent_f hc58.fn rfl) hn0 (H.sel' [0, 3, 5, 4, 1, 2, 4] rfl rfl : Hp S0 σ0 _ ([_, _, _, _] ++ _))) wn ?_
     rintro _ σ60 ⟨_, ⟨rfl, rfl, hn59⟩, H, -⟩
     replace H : Hp _ _ _ [_, _, _, _, _, _] := H
     have hsl : (Sl Dg ((s14.1.set Bq.toNat (x18.1, x18.2.1, x18.2.2)).set (w64 (Bq + s14.2)).toNat (x28.1, x28.2.1, x28.2.2)) Dh) = (Sl Dg r56 Dh) := sl_len hn59.symm
     try rw [hsl]
     try rw [hsl] at H
     clear hsl
     refine w_end (q_blk (q_then (rg (st (v := (I s14.2)) (rv_move rfl) (st (v := (I (w64 (s14.2 - 1)))) (rv_sub (a := s14.2) (b := 1) rfl rfl) (st (v := (I (w64 (s14.2 - 1)))) (rv_assign rfl) (w_end (q_then ?_))))))))
     obtain rfl := Option.some.inj h
     exact ⟨_, rfl, _, σ60, fr_join ⟨rfl, rfl, rfl, rfl, rfl, trivial⟩, rfl, H.sel' [0, 1, 5, 2] rfl rfl, ((hn59.trans (List.length_set.trans (List.length_set.trans (hn16.trans hn12)))).trans hn12.symm)⟩
   ·replace h := bif_f hb17 h
    refine c_exit (q_then_x (q_then_x (q_blk_hit ?_)))
    obtain rfl := Option.some.inj h
    obtain rfl := hres _ rfl
    exact ⟨rfl, _, σ15, fr_join ⟨rfl, rfl, trivial⟩, rfl, H.sel' [0, 1, 2, 3] rfl rfl, ((hn16.trans hn12).trans hn12.symm)⟩
  ·clear hj
   have h := h'
   clear h' H
   rintro e a w ⟨rfl, ρ, σ61, rfl, rfl, H, hn62⟩
   obtain rfl := Option.some.inj h
   exact fin_end (v := (.tuple #[])) (results_ok Try.results113 res_nil rfl) ⟨rfl, rfl, (hn62.trans hn12)⟩ (H.sel' [0, 1, 3] rfl rfl)

theorem c_slices_breakPatternsCmpFunc_impl_Item__impl_sortByDistance_1 {Dc : List (Int × (List Int) × Int)} {Bq : Int} {Br : Int} {Dd : Int} {De : List Int} {Dg : Option Addr} {Dh : Nat} {Di Dj Dk : Nat} {Dl Dm : List Value} {Dn : Option Addr} {Do : Nat} {Dp Dq Dr : Nat} {Ds Dt : List Value} {r : (List (Int × (List Int) × Int))} (h : M.slices_breakPatternsCmpFunc_impl_Item__impl_sortByDistance_1 Dc Bq Br Dd De = some r) :
    Cal2 Try.prog 114 [(Sl Dg Dc Dh), (I Bq), (I Br), (.func (.func 88) #[] #[(pt Dj Dk), (pt Dq Dr)])] [Ch.own 0 0 (Sl Dg Dc Dh) Dc, Ch.bx Di Dj Dk [(I Dd)] Dl Dm, Ch.bx Dp Dq Dr [(Sl Dn De Do)] Ds Dt, Ch.ro 0 (Sl Dn De Do) De] (fun n0 v L => v = (.tuple #[]) ∧ L = [Ch.own 0 0 (Sl Dg r Dh) r, Ch.bx Di Dj Dk [(I Dd)] Dl Dm, Ch.bx Dp Dq Dr [(Sl Dn De Do)] Ds Dt] ∧ r.length = Dc.length) := by
 refine cal2 (n := 67) Try.func114 rfl rfl rfl rfl ?_
 intro S0 σ0 n0 hn0 H
 unfold M.slices_breakPatternsCmpFunc_impl_Item__impl_sortByDistance_1 at h
 refine c_seq (rg (st (v := (I Br)) (rv_move rfl) (st (v := (I Bq)) (rv_move rfl) (st (v := (I (w64 (Br - Bq)))) (rv_sub (a := Br) (b := Bq) rfl rfl) (st (v := (I (w64 (Br - Bq)))) (rv_assign rfl) (w_end (q_then (c_seq (rg (st (v := (I (w64 (Br - Bq)))) (rv_move rfl) (st (v := (B (decide (8 ≤ (w64 (Br - Bq)))))) (rv_geq (a := (w64 (Br - Bq))) (b := 8) rfl rfl) ?_)))))))))))
 refine w_end (q_then ?_)
 refine cd_cond (decide (8 ≤ (w64 (Br - Bq)))) rfl (fun hb1 => ?_) (fun hb1 => ?_)
 ·replace h := bif_t hb1 h
  refine c_seq (rg (st (v := (I (w64 (Br - Bq)))) (rv_move rfl) (st (v := (.int .u64 (wk .u64 (w64 (Br - Bq))))) (rvk_conv (k := .i64) (k' := .u64) (a := (w64 (Br - Bq))) Try.underlying3 Try.underlying157 rfl) (st_ex (ex_alloc (cs := [(.int .u64 0)]) H hn0 ti157 rfl) wn ?_))))
  rintro _ σ3 ⟨b2, rfl, H, -⟩
  refine st_exS (ex_store_box (k := 0) (cs := [(.int .u64 0)]) (vs := [(.int .u64 (wk .u64 (w64 (Br - Bq))))]) (cs' := [(.int .u64 (wk .u64 (w64 (Br - Bq))))]) H (i := 0) rfl ti157 rfl rfl rfl rfl rfl (Nat.le_of_ble_eq_true rfl) (by simp [plain]) rfl) wn ?_
  rintro σ4 ⟨H, -⟩
  refine w_end (q_then (c_seq (rg (st (v := (I (w64 (Br - Bq)))) (rv_move rfl) ?_))))
  obtain ⟨r5, hx6, h'⟩ := bind_some h
  clear h
  have h := h'; clear h'
  have hc7 := c_slices_nextPowerOfTwo hx6
  refine st_call (cx_call hc7 (ent_f hc7.fn rfl) hn0 (H.sel' [0, 1, 2, 3, 4] rfl rfl : Hp S0 σ0 _ ([] ++ _))) wn ?_
  rintro _ σ8 ⟨_, ⟨rfl, rfl⟩, H, -⟩
  replace H : Hp _ _ _ [_, _, _, _, _] := H
  refine st (v := (.int .u64 r5)) (rv_assign rfl) (w_end (q_then (c_seq (rg (st (v := (I Bq)) (rv_move rfl) (st (v := (I (w64 (Br - Bq)))) (rv_move rfl) ?_))))))
  refine st (v := (I (w64 ((w64 (Br - Bq)).tdiv 4)))) (rv_quo (a := (w64 (Br - Bq))) (b := 4) rfl rfl (by decide)) ?_
  refine st (v := (I (w64 ((w64 ((w64 (Br - Bq)).tdiv 4)) * 2)))) (rv_mul (a := (w64 ((w64 (Br - Bq)).tdiv 4))) (b := 2) rfl rfl) (st (v := (I (w64 (Bq + (w64 ((w64 ((w64 (Br - Bq)).tdiv 4)) * 2)))))) (rv_add (a := Bq) (b := (w64 ((w64 ((w64 (Br - Bq)).tdiv 4)) * 2))) rfl rfl) (st (v := (I (w64 ((w64 (Bq + (w64 ((w64 ((w64 (Br - Bq)).tdiv 4)) * 2)))) - 1)))) (rv_sub (a := (w64 (Bq + (w64 ((w64 ((w64 (Br - Bq)).tdiv 4)) * 2))))) (b := 1) rfl rfl) (st (v := (I (w64 ((w64 (Bq + (w64 ((w64 ((w64 (Br - Bq)).tdiv 4)) * 2)))) - 1)))) (rv_assign rfl) (w_end (q_then ?_)))))
  obtain ⟨o9, hj, h'⟩ := bind_some h
  clear h
  refine c_cut (fun e a w => e = .normal ∧ ∃ (ρ : Nat → Value) (σ : St), a = fr 67 (updL ρ [(0, (Sl Dg o9 Dh)), (3, (.func (.func 88) #[] #[(pt Dj Dk), (pt Dq Dr)]))]) ∧ w = σ.w ∧ Hp S0 σ0 σ [Ch.own 0 0 (Sl Dg o9 Dh) o9, Ch.bx Di Dj Dk [(I Dd)] Dl Dm, Ch.ro 0 (Sl Dn De Do) De, Ch.bx Dp Dq Dr [(Sl Dn De Do)] Ds Dt] ∧ o9.length = Dc.length) ?_ ?_
  ·clear h'
   rename _ = some o9 => h
   refine c_blk (wp_loopM _ h (fun s10 a w => ∃ (ρ : Nat → Value) (σ : St), a = fr 67 (updL ρ [(0, (Sl Dg s10.1 Dh)), (1, (I Bq)), (3, (.func (.func 88) #[] #[(pt Dj Dk), (pt Dq Dr)])), (8, (I (w64 (Br - Bq)))), (9, (pt b2 0)), (10, (.int .u64 r5)), (11, (I s10.2.2))]) ∧ w = σ.w ∧ Hp S0 σ0 σ [Ch.bx n0 b2 0 [(.int .u64 s10.2.1)] [] [], Ch.own 0 0 (Sl Dg s10.1 Dh) s10.1, Ch.bx Di Dj Dk [(I Dd)] Dl Dm, Ch.ro 0 (Sl Dn De Do) De, Ch.bx Dp Dq Dr [(Sl Dn De Do)] Ds Dt] ∧ s10.1.length = Dc.length) ⟨_, σ8, fr_join ⟨rfl, rfl, rfl, rfl, rfl, rfl, rfl, trivial⟩, rfl, H.sel' [0, 1, 2, 4, 3] rfl rfl, rfl⟩ ?_)
   clear h H
   rintro s10 a w o ⟨ρ, σ11, rfl, rfl, H, hn12⟩ h hres
   refine c_seq (c_seq (rg (st (v := (I s10.2.2)) (rv_move rfl) (st (v := (I Bq)) (rv_move rfl) (st (v := (I (w64 (Br - Bq)))) (rv_move rfl) ?_)))))
   refine st (v := (I (w64 ((w64 (Br - Bq)).tdiv 4)))) (rv_quo (a := (w64 (Br - Bq))) (b := 4) rfl rfl (by decide)) ?_
   refine st (v := (I (w64 ((w64 ((w64 (Br - Bq)).tdiv 4)) * 2)))) (rv_mul (a := (w64 ((w64 (Br - Bq)).tdiv 4))) (b := 2) rfl rfl) (st (v := (I (w64 (Bq + (w64 ((w64 ((w64 (Br - Bq)).tdiv 4)) * 2)))))) (rv_add (a := Bq) (b := (w64 ((w64 ((w64 (Br - Bq)).tdiv 4)) * 2))) rfl rfl) (st (v := (I (w64 ((w64 (Bq + (w64 ((w64 ((w64 (Br - Bq)).tdiv 4)) * 2)))) + 1)))) (rv_add (a := (w64 (Bq + (w64 ((w64 ((w64 (Br - Bq)).tdiv 4)) * 2))))) (b := 1) rfl rfl) (st (v := (B (decide (s10.2.2 ≤ (w64 ((w64 (Bq + (w64 ((w64 ((w64 (Br - Bq)).tdiv 4)) * 2)))) + 1)))))) (rv_leq (a := s10.2.2) (b := (w64 ((w64 (Bq + (w64 ((w64 ((w64 (Br - Bq)).tdiv 4)) * 2)))) + 1))) rfl rfl) (w_end (q_then ?_)))))
   refine cd_cond (decide (s10.2.2 ≤ (w64 ((w64 (Bq + (w64 ((w64 ((w64 (Br - Bq)).tdiv 4)) * 2)))) + 1)))) rfl (fun hb13 => ?_) (fun hb13 => ?_)
   ·replace h := bif_t hb13 h
    refine c_skip (q_then (c_seq (c_blk (c_seq (rg ?_)))))
    obtain ⟨r14, hx15, h'⟩ := bind_some h
    clear h
    have h := h'; clear h'
    have hc16 := c_slices_xorshift_Next (Ai := n0) (Aj := b2) (Ak := 0) (Am := []) (Ao := []) hx15
    refine st_call (cx_call hc16 (ent_f hc16.fn rfl) hn0 (H.sel' [0, 1, 2, 3, 4] rfl rfl : Hp S0 σ0 _ ([_] ++ _))) wn ?_
    rintro _ σ17 ⟨_, ⟨rfl, rfl⟩, H, -⟩
    replace H : Hp _ _ _ [_, _, _, _, _] := H
    refine st (v := (.int .u64 r5)) (rv_move rfl) (st (v := (.int .u64 (wk .u64 (r5 - 1)))) (rvk_sub (k := .u64) (a := r5) (b := 1) rfl rfl) (st (v := (.int .u64 (gandk .u64 r14.1 (wk .u64 (r5 - 1))))) (rvk_and (k := .u64) (a := r14.1) (b := (wk .u64 (r5 - 1))) rfl rfl) (st (v := (I (wk .i64 (gandk .u64 r14.1 (wk .u64 (r5 - 1)))))) (rvk_conv (k := .u64) (k' := .i64) (a := (gandk .u64 r14.1 (wk .u64 (r5 - 1)))) Try.underlying132 Try.underlying3 rfl) (st (v := (I (wk .i64 (gandk .u64 r14.1 (wk .u64 (r5 - 1)))))) (rv_assign rfl) (w_end (q_then (c_seq (c_seq (rg (st (v := (I (wk .i64 (gandk .u64 r14.1 (wk .u64 (r5 - 1)))))) (rv_move rfl) (st (v := (I (w64 (Br - Bq)))) (rv_move rfl) ?_)))))))))))
    refine st (v := (B (decide ((w64 (Br - Bq)) ≤ (wk .i64 (gandk .u64 r14.1 (wk .u64 (r5 - 1)))))))) (rv_geq (a := (wk .i64 (gandk .u64 r14.1 (wk .u64 (r5 - 1))))) (b := (w64 (Br - Bq))) rfl rfl) (w_end (q_then ?_))
    obtain ⟨o18, hj, h'⟩ := bind_some h
    clear h
    refine c_cut (fun e a w => e = .normal ∧ ∃ (ρ : Nat → Value) (σ : St), a = fr 67 (updL ρ [(0, (Sl Dg s10.1 Dh)), (1, (I Bq)), (3, (.func (.func 88) #[] #[(pt Dj Dk), (pt Dq Dr)])), (8, (I (w64 (Br - Bq)))), (9, (pt b2 0)), (10, (.int .u64 r5)), (11, (I s10.2.2)), (12, (I o18))]) ∧ w = σ.w ∧ Hp S0 σ0 σ [Ch.own 0 0 (Sl Dg s10.1 Dh) s10.1, Ch.bx Di Dj Dk [(I Dd)] Dl Dm, Ch.ro 0 (Sl Dn De Do) De, Ch.bx Dp Dq Dr [(Sl Dn De Do)] Ds Dt, Ch.bx n0 b2 0 [(.int .u64 r14.2)] [] []]) ?_ ?_
    ·clear h'
     rename _ = some o18 => h
     refine cd_cond (decide ((w64 (Br - Bq)) ≤ (wk .i64 (gandk .u64 r14.1 (wk .u64 (r5 - 1)))))) rfl (fun hb19 => ?_) (fun hb19 => ?_)
     ·replace h := bif_t hb19 h
      refine rg (st (v := (I (wk .i64 (gandk .u64 r14.1 (wk .u64 (r5 - 1)))))) (rv_move rfl) (st (v := (I (w64 (Br - Bq)))) (rv_move rfl) (st (v := (I (w64 ((wk .i64 (gandk .u64 r14.1 (wk .u64 (r5 - 1)))) - (w64 (Br - Bq)))))) (rv_sub (a := (wk .i64 (gandk .u64 r14.1 (wk .u64 (r5 - 1))))) (b := (w64 (Br - Bq))) rfl rfl) (st (v := (I (w64 ((wk .i64 (gandk .u64 r14.1 (wk .u64 (r5 - 1)))) - (w64 (Br - Bq)))))) (rv_assign rfl) (w_end ?_)))))
      obtain rfl := Option.some.inj h
      exact ⟨rfl, _, σ17, fr_join ⟨rfl, rfl, rfl, rfl, rfl, rfl, rfl, rfl, trivial⟩, rfl, H.sel' [1, 2, 3, 4, 0] rfl rfl⟩
     ·replace h := bif_f hb19 h
      refine c_skip ?_
      obtain rfl := Option.some.inj h
      exact ⟨rfl, _, σ17, fr_join ⟨rfl, rfl, rfl, rfl, rfl, rfl, rfl, rfl, trivial⟩, rfl, H.sel' [1, 2, 3, 4, 0] rfl rfl⟩
    ·clear hj
     have h := h'
     clear h' H
     rintro e a w ⟨rfl, ρ, σ20, rfl, rfl, H⟩
     refine q_then ?_
     obtain ⟨x21, hx22, h'⟩ := bind_some h
     clear h
     have h := h'; clear h'
     obtain ⟨b24, o25, hi23, -⟩ := (H.own 0 rfl).ix hx22
     obtain ⟨_, ⟨_, _, rfl, rfl, ⟨_, _, rfl, ⟨_, rfl, hR30⟩, rfl⟩⟩, hl26, hc27⟩ := ((H.own 0 rfl).at hx22 hi23).cells
     obtain ⟨a28, c29, rfl⟩ := hR30.isSl
     replace H := H.add (d := Ch.ro 0 (Sl a28 x21.2.1 c29) x21.2.1) hR30 (fun _ h => h)
     clear hR30
     obtain ⟨x31, hx32, h'⟩ := bind_some h
     clear h
     have h := h'; clear h'
     obtain ⟨b34, o35, hi33, -⟩ := (H.own 1 rfl).ix hx32
     obtain ⟨_, ⟨_, _, rfl, rfl, ⟨_, _, rfl, ⟨_, rfl, hR40⟩, rfl⟩⟩, hl36, hc37⟩ := ((H.own 1 rfl).at hx32 hi33).cells
     obtain ⟨a38, c39, rfl⟩ := hR40.isSl
     replace H := H.add (d := Ch.ro 0 (Sl a38 x31.2.1 c39) x31.2.1) hR40 (fun _ h => h)
     clear hR40
     obtain ⟨x41, hx42, h'⟩ := bind_some h
     clear h
     have h := h'; clear h'
     obtain ⟨b44, o45, hi43, -⟩ := (H.own 2 rfl).ix hx42
     have Hs := H
     refine rg2 (σ := σ20) (Nm := Unit) 18 [17] [[false], [true]] [[(0, 0)], [(0, 0)], [(0, 0), (1, 1)], [(0, 0), (1, 1)], [(0, 0), (1, 1)], [(0, 0), (1, 1)], [(0, 0)], [(0, 0)], [(0, 0)], [(0, 0)], [(0, 0)], [(0, 0)], [(0, 0)], [(0, 0)], [(0, 0)], [(0, 0)], [(0, 0)], [(0, 1)]] 1 [fun _ => fun σm => Hp S0 σ0 σm [Ch.ro 0 (Sl a38 x31.2.1 c39) x31.2.1, Ch.ro 0 (Sl a28 x21.2.1 c29) x21.2.1, Ch.own 0 0 (Sl Dg s10.1 Dh) s10.1, Ch.bx Di Dj Dk [(I Dd)] Dl Dm, Ch.ro 0 (Sl Dn De Do) De, Ch.bx Dp Dq Dr [(Sl Dn De Do)] Ds Dt, Ch.bx n0 b2 0 [(.int .u64 r14.2)] [] []] ∧ Md (cov []) σ20 σm, fun _ => fun σm => Hp S0 σ0 σm [Ch.own 0 0 (Sl Dg s10.1 Dh) (s10.1.set s10.2.2.toNat (x21.1, x21.2.1, x21.2.2)), Ch.ro 0 (Sl a38 x31.2.1 c39) x31.2.1, Ch.ro 0 (Sl a28 x21.2.1 c29) x21.2.1, Ch.bx Di Dj Dk [(I Dd)] Dl Dm, Ch.ro 0 (Sl Dn De Do) De, Ch.bx Dp Dq Dr [(Sl Dn De Do)] Ds Dt, Ch.bx n0 b2 0 [(.int .u64 r14.2)] [] []] ∧ Md (fun i => (cov []) i ∨ (fun b => blk (Sl Dg s10.1 Dh) = some b) i) σ20 σm] [fun _ => (Sl Dg s10.1 Dh), fun _ => (I s10.2.2), fun _ => (Sl Dg s10.1 Dh), fun _ => (I Bq), fun _ => (I o18), fun _ => (I (w64 (Bq + o18))), fun _ => (Sl Dg s10.1 Dh), fun _ => (I Bq), fun _ => (I o18), fun _ => (I (w64 (Bq + o18))), fun _ => (pt b24 o25), fun _ => (.agg #[(I x21.1), (Sl a28 x21.2.1 c29), (I x21.2.2)]), fun _ => (Sl Dg s10.1 Dh), fun _ => (I s10.2.2), fun _ => (pt b34 o35), fun _ => (.agg #[(I x31.1), (Sl a38 x31.2.1 c39), (I x31.2.2)]), fun _ => (pt b44 o45), fun _ => undef] () (by kernel_rfl) (by kernel_rfl) ?_ ?_ ?_
     ·intro σm m0
      exact ⟨H.grow (m0.mono fun _ h => h.elim), m0⟩
     ·refine ac rfl (by
        intro k _nm ρ σm hJ hoff hdep
        have e0 := look_off (N := 67) (hoff 0 rfl) rfl
        exact dp_v (v := (Sl Dg s10.1 Dh)) wn (rv_move e0) rfl hJ) ?_
      refine ac rfl (by
        intro k _nm ρ σm hJ hoff hdep
        have e11 := look_off (N := 67) (hoff 11 rfl) rfl
        exact dp_v (v := (I s10.2.2)) wn (rv_move e11) rfl hJ) ?_
      refine ac rfl (by
        intro k _nm ρ σm hJ hoff hdep
        have e0 := look_off (N := 67) (hoff 0 rfl) rfl
        exact dp_v (v := (Sl Dg s10.1 Dh)) wn (rv_move e0) rfl hJ) ?_
      refine ac rfl (by
        intro k _nm ρ σm hJ hoff hdep
        have e1 := look_off (N := 67) (hoff 1 rfl) rfl
        exact dp_v (v := (I Bq)) wn (rv_move e1) rfl hJ) ?_
      refine ac rfl (by
        intro k _nm ρ σm hJ hoff hdep
        have e12 := look_off (N := 67) (hoff 12 rfl) rfl
        exact dp_v (v := (I o18)) wn (rv_move e12) rfl hJ) ?_
      refine ac rfl (by
        intro k _nm ρ σm hJ hoff hdep
        have e52 := hdep 3 rfl rfl 52 rfl
        have e53 := hdep 4 rfl rfl 53 rfl
        exact dp_v (v := (I (w64 (Bq + o18)))) wn (rv_add (a := Bq) (b := o18) e52 e53) rfl hJ) ?_
      refine ac rfl (by
        intro k _nm ρ σm hJ hoff hdep
        have e0 := look_off (N := 67) (hoff 0 rfl) rfl
        exact dp_v (v := (Sl Dg s10.1 Dh)) wn (rv_move e0) rfl hJ) ?_
      refine ac rfl (by
        intro k _nm ρ σm hJ hoff hdep
        have e1 := look_off (N := 67) (hoff 1 rfl) rfl
        exact dp_v (v := (I Bq)) wn (rv_move e1) rfl hJ) ?_
      refine ac rfl (by
        intro k _nm ρ σm hJ hoff hdep
        have e12 := look_off (N := 67) (hoff 12 rfl) rfl
        exact dp_v (v := (I o18)) wn (rv_move e12) rfl hJ) ?_
      refine ac rfl (by
        intro k _nm ρ σm hJ hoff hdep
        have e56 := hdep 7 rfl rfl 56 rfl
        have e57 := hdep 8 rfl rfl 57 rfl
        exact dp_v (v := (I (w64 (Bq + o18)))) wn (rv_add (a := Bq) (b := o18) e56 e57) rfl hJ) ?_
      refine ac rfl (by
        intro k _nm ρ σm hJ hoff hdep
        have e55 := hdep 6 rfl rfl 55 rfl
        have e58 := hdep 9 rfl rfl 58 rfl
        exact dp_v (v := (pt b24 o25)) wn (rv_ix Try.underlying23 ti34 e55 e58 hi23) rfl hJ) ?_
      refine all_cons (by
        refine ⟨?_, ?_⟩
        ·intro _nm ρ σm hJ hoff hdep
         have e59 := hdep 10 rfl rfl 59 rfl
         obtain ⟨H, m⟩ := id hJ
         replace hc27 := fun j hj => m.hcell (hc27 j hj) nocov
         exact dp_v (v := (.agg #[(I x21.1), (Sl a28 x21.2.1 c29), (I x21.2.2)])) wn (rv_load Try.underlying34 rfl ti34 e59 hl26 hc27) rfl hJ
        trivial) ?_
      refine ac rfl (by
        intro k _nm ρ σm hJ hoff hdep
        have e0 := look_off (N := 67) (hoff 0 rfl) rfl
        exact dp_v (v := (Sl Dg s10.1 Dh)) wn (rv_move e0) rfl hJ) ?_
      refine ac rfl (by
        intro k _nm ρ σm hJ hoff hdep
        have e11 := look_off (N := 67) (hoff 11 rfl) rfl
        exact dp_v (v := (I s10.2.2)) wn (rv_move e11) rfl hJ) ?_
      refine ac rfl (by
        intro k _nm ρ σm hJ hoff hdep
        have e61 := hdep 12 rfl rfl 61 rfl
        have e62 := hdep 13 rfl rfl 62 rfl
        exact dp_v (v := (pt b34 o35)) wn (rv_ix Try.underlying23 ti34 e61 e62 hi33) rfl hJ) ?_
      refine all_cons (by
        refine ⟨?_, ?_⟩
        ·intro _nm ρ σm hJ hoff hdep
         have e63 := hdep 14 rfl rfl 63 rfl
         obtain ⟨H, m⟩ := id hJ
         replace hc37 := fun j hj => m.hcell (hc37 j hj) nocov
         exact dp_v (v := (.agg #[(I x31.1), (Sl a38 x31.2.1 c39), (I x31.2.2)])) wn (rv_load Try.underlying34 rfl ti34 e63 hl36 hc37) rfl hJ
        trivial) ?_
      refine ac rfl (by
        intro k _nm ρ σm hJ hoff hdep
        have e49 := hdep 0 rfl rfl 49 rfl
        have e50 := hdep 1 rfl rfl 50 rfl
        exact dp_v (v := (pt b44 o45)) wn (rv_ix Try.underlying23 ti34 e49 e50 hi43) rfl hJ) ?_
      refine all_cons (by
        refine ⟨?_, ?_⟩
        ·intro _nm ρ σm hJ hoff hdep
         have e65 := hdep 16 rfl rfl 65 rfl
         have e60 := hdep 11 rfl rfl 60 rfl
         obtain ⟨H, m⟩ := id hJ
         refine dp_exS wn rfl (ex_store_own (e' := (x21.1, x21.2.1, x21.2.2)) (vs := [(I x21.1), (Sl a28 x21.2.1 c29), (I x21.2.2)]) (k := 0) H (i := 2) rfl ti34 hx42 hi43 e65 rfl e60 rfl rfl (Nat.le_of_ble_eq_true rfl) (by simp [plain]) (by rintro _ ⟨_, _, rfl, rfl, ⟨_, _, rfl, ⟨_, rfl, hR48⟩, rfl⟩⟩; exact ⟨[(I x21.1)], [(Sl a28 x21.2.1 c29), (I x21.2.2)], rfl, rfl, ⟨[(Sl a28 x21.2.1 c29)], [(I x21.2.2)], rfl, ⟨_, rfl, (H.ro 1 rfl)⟩, rfl⟩⟩)) ?_
         rintro σq ⟨H2, m2⟩
         exact ⟨_, (), rfl, ⟨H2.sel' [0, 1, 2, 3, 4, 5, 6] rfl rfl, m.comp m2⟩, stab [0, 1, 2, 3, 4, 5, 6, 7, 8, 9, 10, 11, 12, 13, 14, 15, 16] (by kernel_rfl) ⟨rfl, rfl, rfl, rfl, rfl, rfl, rfl, rfl, rfl, rfl, rfl, rfl, rfl, rfl, rfl, rfl, rfl, trivial⟩⟩
        trivial) ?_
      exact all_nil
     ·intro _nm ρ σ49 hJ hoff hrel
      have e0 := look_off (N := 67) (hoff 0 rfl) rfl
      have e1 := look_off (N := 67) (hoff 1 rfl) rfl
      have e3 := look_off (N := 67) (hoff 3 rfl) rfl
      have e8 := look_off (N := 67) (hoff 8 rfl) rfl
      have e9 := look_off (N := 67) (hoff 9 rfl) rfl
      have e10 := look_off (N := 67) (hoff 10 rfl) rfl
      have e11 := look_off (N := 67) (hoff 11 rfl) rfl
      have e51 := hrel 2 rfl 51 rfl
      have e54 := hrel 5 rfl 54 rfl
      have e64 := hrel 15 rfl 64 rfl
      obtain ⟨H, -⟩ := (show Hp S0 σ0 σ49 [Ch.own 0 0 (Sl Dg s10.1 Dh) (s10.1.set s10.2.2.toNat (x21.1, x21.2.1, x21.2.2)), Ch.ro 0 (Sl a38 x31.2.1 c39) x31.2.1, Ch.ro 0 (Sl a28 x21.2.1 c29) x21.2.1, Ch.bx Di Dj Dk [(I Dd)] Dl Dm, Ch.ro 0 (Sl Dn De Do) De, Ch.bx Dp Dq Dr [(Sl Dn De Do)] Ds Dt, Ch.bx n0 b2 0 [(.int .u64 r14.2)] [] []] ∧ Md (fun i => (cov []) i ∨ (fun b => blk (Sl Dg s10.1 Dh) = some b) i) σ20 σ49 from hJ)
      clear hJ Hs
      rw [fr_lookL (L := [(0, (Sl Dg s10.1 Dh)), (1, (I Bq)), (3, (.func (.func 88) #[] #[(pt Dj Dk), (pt Dq Dr)])), (8, (I (w64 (Br - Bq)))), (9, (pt b2 0)), (10, (.int .u64 r5)), (11, (I s10.2.2)), (51, (Sl Dg s10.1 Dh)), (54, (I (w64 (Bq + o18)))), (64, (.agg #[(I x31.1), (Sl a38 x31.2.1 c39), (I x31.2.2)]))]) ⟨e0, e1, e3, e8, e9, e10, e11, e51, e54, e64, trivial⟩]
      clear hoff hrel e0 e1 e3 e8 e9 e10 e11 e51 e54 e64
      have hsl : (Sl Dg s10.1 Dh) = (Sl Dg (s10.1.set s10.2.2.toNat (x21.1, x21.2.1, x21.2.2)) Dh) := sl_len (by simp)
      rw [hsl]; rw [hsl] at H; clear hsl
      obtain ⟨x50, hx51, h'⟩ := bind_some h
      clear h
      have h := h'; clear h'
      obtain ⟨b53, o54, hi52, -⟩ := (H.own 0 rfl).ix hx51
      refine st (v := (pt b53 o54)) (rv_ix Try.underlying23 ti34 rfl rfl hi52) ?_
      refine st_exS (ex_store_own (e' := (x31.1, x31.2.1, x31.2.2)) (vs := [(I x31.1), (Sl a38 x31.2.1 c39), (I x31.2.2)]) (k := 0) H (i := 0) rfl ti34 hx51 hi52 rfl rfl rfl rfl rfl (Nat.le_of_ble_eq_true rfl) (by simp [plain]) (by rintro _ ⟨_, _, rfl, rfl, ⟨_, _, rfl, ⟨_, rfl, hR57⟩, rfl⟩⟩; exact ⟨[(I x31.1)], [(Sl a38 x31.2.1 c39), (I x31.2.2)], rfl, rfl, ⟨[(Sl a38 x31.2.1 c39)], [(I x31.2.2)], rfl, ⟨_, rfl, (H.ro 1 rfl)⟩, rfl⟩⟩)) wn ?_
      rintro σ58 ⟨H, -⟩
      have hsl : (Sl Dg (s10.1.set s10.2.2.toNat (x21.1, x21.2.1, x21.2.2)) Dh) = (Sl Dg ((s10.1.set s10.2.2.toNat (x21.1, x21.2.1, x21.2.2)).set (w64 (Bq + o18)).toNat (x31.1, x31.2.1, x31.2.2)) Dh) := sl_len List.length_set.symm
      rw [hsl]; rw [hsl] at H; clear hsl
      refine w_end (q_blk (q_then (rg (st (v := (I s10.2.2)) (rv_move rfl) (st (v := (I (w64 (s10.2.2 + 1)))) (rv_add (a := s10.2.2) (b := 1) rfl rfl) (st (v := (I (w64 (s10.2.2 + 1)))) (rv_assign rfl) (w_end (q_then ?_))))))))
      obtain rfl := Option.some.inj h
      exact ⟨_, rfl, _, σ58, fr_join ⟨rfl, rfl, rfl, rfl, rfl, rfl, rfl, trivial⟩, rfl, H.sel' [6, 0, 3, 4, 5] rfl rfl, (List.length_set.trans (List.length_set.trans hn12))⟩
   ·replace h := bif_f hb13 h
    refine c_exit (q_then_x (q_then_x (q_blk_hit ?_)))
    obtain rfl := Option.some.inj h
    obtain rfl := hres _ rfl
    exact ⟨rfl, _, σ11, fr_join ⟨rfl, rfl, trivial⟩, rfl, H.sel' [1, 2, 3, 4] rfl rfl, hn12⟩
  ·clear hj
   have h := h'
   clear h' H
   rintro e a w ⟨rfl, ρ, σ59, rfl, rfl, H, hn60⟩
   obtain rfl := Option.some.inj h
   exact fin_end (v := (.tuple #[])) (results_ok Try.results114 res_nil rfl) ⟨rfl, rfl, hn60⟩ (H.sel' [0, 1, 3] rfl rfl)
 ·replace h := bif_f hb1 h
  refine c_skip ?_
  obtain rfl := Option.some.inj h
  exact fin_end (v := (.tuple #[])) (results_ok Try.results114 res_nil rfl) ⟨rfl, rfl, rfl⟩ (H.sel' [0, 1, 2] rfl rfl)

theorem c_slices_order2CmpFunc_impl_Item__impl_sortByDistance_1 {Dc : List (Int × (List Int) × Int)} {Bq : Int} {Br : Int} {El : Int} {Dx : Int} {Dy : List Int} {Dg : Option Addr} {Dh : Nat} {Em En Eo : Nat} {Ep Er : List Value} {Dz Ea Eb : Nat} {Ec Ed : List Value} {Ee : Option Addr} {Ef : Nat} {Eg Eh Ei : Nat} {Ej Ek : List Value} {r : Int × Int × Int} (h : M.slices_order2CmpFunc_impl_Item__impl_sortByDistance_1 Dc Bq Br El Dx Dy = some r) :
    Cal2 Try.prog 129 [(Sl Dg Dc Dh), (I Bq), (I Br), (pt En Eo), (.func (.func 88) #[] #[(pt Ea Eb), (pt Eh Ei)])] [Ch.ro 0 (Sl Dg Dc Dh) Dc, Ch.bx Em En Eo [(I El)] Ep Er, Ch.bx Dz Ea Eb [(I Dx)] Ec Ed, Ch.bx Eg Eh Ei [(Sl Ee Dy Ef)] Ej Ek, Ch.ro 0 (Sl Ee Dy Ef) Dy] (fun n0 v L => v = (.tuple #[(I r.1), (I r.2.1)]) ∧ L = [Ch.bx Em En Eo [(I r.2.2)] Ep Er, Ch.bx Dz Ea Eb [(I Dx)] Ec Ed, Ch.bx Eg Eh Ei [(Sl Ee Dy Ef)] Ej Ek]) := by
 refine cal2 (n := 32) Try.func129 rfl rfl rfl rfl ?_
 intro S0 σ0 n0 hn0 H
 unfold M.slices_order2CmpFunc_impl_Item__impl_sortByDistance_1 at h
 refine c_seq (rg (st (v := (I 0)) (rv_assign rfl) (st (v := (I 0)) (rv_assign rfl) (w_end (q_then (c_seq (c_seq ?_)))))))
 refine rgP (σ := σ0) 9 (by kernel_rfl) (by kernel_rfl) (by kernel_rfl) ?_
 refine sq (v := (.func (.func 88) #[] #[(pt Ea Eb), (pt Eh Ei)])) (rv_move rfl) (sq (v := (Sl Dg Dc Dh)) (rv_move rfl) (sq (v := (I Br)) (rv_move rfl) ?_))
 obtain ⟨x1, hx2, h'⟩ := bind_some h
 clear h
 have h := h'; clear h'
 obtain ⟨b4, o5, hi3, -⟩ := (H.ro 0 rfl).ix hx2
 refine sq (v := (pt b4 o5)) (rv_ix Try.underlying23 ti34 rfl rfl hi3) ?_
 obtain ⟨_, ⟨_, _, rfl, rfl, ⟨_, _, rfl, ⟨_, rfl, hR10⟩, rfl⟩⟩, hl6, hc7⟩ := ((H.ro 0 rfl).at hx2 hi3).cells
 obtain ⟨a8, c9, rfl⟩ := hR10.isSl
 replace H := H.add (d := Ch.ro 0 (Sl a8 x1.2.1 c9) x1.2.1) hR10 (fun _ h => h)
 clear hR10
 refine sq (v := (.agg #[(I x1.1), (Sl a8 x1.2.1 c9), (I x1.2.2)])) (rv_load Try.underlying34 rfl ti34 rfl hl6 hc7) (sq (v := (Sl Dg Dc Dh)) (rv_move rfl) (sq (v := (I Bq)) (rv_move rfl) ?_))
 obtain ⟨x11, hx12, h'⟩ := bind_some h
 clear h
 have h := h'; clear h'
 obtain ⟨b14, o15, hi13, -⟩ := (H.ro 1 rfl).ix hx12
 refine sq (v := (pt b14 o15)) (rv_ix Try.underlying23 ti34 rfl rfl hi13) ?_
 obtain ⟨_, ⟨_, _, rfl, rfl, ⟨_, _, rfl, ⟨_, rfl, hR20⟩, rfl⟩⟩, hl16, hc17⟩ := ((H.ro 1 rfl).at hx12 hi13).cells
 obtain ⟨a18, c19, rfl⟩ := hR20.isSl
 replace H := H.add (d := Ch.ro 0 (Sl a18 x11.2.1 c19) x11.2.1) hR20 (fun _ h => h)
 clear hR20
 refine sq (v := (.agg #[(I x11.1), (Sl a18 x11.2.1 c19), (I x11.2.2)])) (rv_load Try.underlying34 rfl ti34 rfl hl16 hc17) (sq_end ?_)
 intro σ21 hm22
 replace H := H.grow (hm22.mono fun _ h => h); clear hm22
 obtain ⟨r23, hx24, h'⟩ := bind_some h
 clear h
 have h := h'; clear h'
 have hc25 := c_impl_sortByDistance_1__p3__p24 (Be := a8) (Bf := c9) (Cm := a18) (Cn := c19) (Cp := Dz) (Cq := Ea) (Cr := Eb) (Cs := Ec) (Ct := Ed) (Cw := Eg) (Cy := Eh) (Cz := Ei) (Da := Ej) (Db := Ek) (Cu := Ee) (Cv := Ef) hx24
 refine st_call (cx_call hc25 (ent_v (cap := [(pt Ea Eb), (pt Eh Ei)]) hc25.fn rfl rfl) hn0 (H.sel' [1, 0, 4, 5, 6, 0, 1, 2, 3, 6] rfl rfl : Hp S0 σ0 _ ([_, _, _, _, _] ++ _))) wn ?_
 rintro _ σ26 ⟨_, ⟨rfl, rfl⟩, H, -⟩
 replace H : Hp _ _ _ [_, _, _, _, _, _, _] := H
 refine st (v := (B (decide (r23 < 0)))) (rv_lss (a := r23) (b := 0) rfl rfl) (w_end (q_then ?_))
 refine cd_cond (decide (r23 < 0)) rfl (fun hb27 => ?_) (fun hb27 => ?_)
 ·replace h := bif_t hb27 h
  refine c_seq (rg (st (v := (pt En Eo)) (rv_move rfl) (st (v := (pt En Eo)) (rv_nilCheck rfl) ?_)))
  have hc28 := H.cell (u := (I El)) (o' := Eo) 5 0 rfl rfl rfl
  refine st (v := (I El)) (rv_load1 Try.underlying3 rfl rfl hc28) (st (v := (I (w64 (El + 1)))) (rv_add (a := El) (b := 1) rfl rfl) (st (v := (pt En Eo)) (rv_nilCheck rfl) ?_))
  refine st_exS (ex_store_box (k := 0) (cs := [(I El)]) (vs := [(I (w64 (El + 1)))]) (cs' := [(I (w64 (El + 1)))]) H (i := 5) rfl ti3 rfl rfl rfl rfl rfl (Nat.le_of_ble_eq_true rfl) (by simp [plain]) rfl) wn ?_
  rintro σ29 ⟨H, -⟩
  refine w_end (q_then (c_seq (rg (st (v := (I Br)) (rv_move rfl) (st (v := (I Bq)) (rv_move rfl) (st (v := (I Br)) (rv_assign rfl) (st (v := (I Bq)) (rv_assign rfl) (w_end (q_then (c_ret (q_then_r ?_)))))))))))
  obtain rfl := Option.some.inj h
  exact fin_ret (v := (.tuple #[(I Br), (I Bq)])) (results_ok Try.results129 (res_tmp (v := (I Br)) rfl (res_tmp (v := (I Bq)) rfl res_nil)) rfl) ⟨rfl, rfl⟩ (H.sel' [0, 1, 2] rfl rfl)
 ·replace h := bif_f hb27 h
  refine c_skip (q_then (c_seq (rg (st (v := (I Bq)) (rv_move rfl) (st (v := (I Br)) (rv_move rfl) (st (v := (I Bq)) (rv_assign rfl) (st (v := (I Br)) (rv_assign rfl) (w_end (q_then (c_ret ?_))))))))))
  obtain rfl := Option.some.inj h
  exact fin_ret (v := (.tuple #[(I Bq), (I Br)])) (results_ok Try.results129 (res_tmp (v := (I Bq)) rfl (res_tmp (v := (I Br)) rfl res_nil)) rfl) ⟨rfl, rfl⟩ (H.sel' [5, 0, 1] rfl rfl)

theorem c_slices_medianCmpFunc_impl_Item__impl_sortByDistance_1 {Dc : List (Int × (List Int) × Int)} {Bq : Int} {Br : Int} {Es : Int} {Et : Int} {Eu : Int} {Ev : List Int} {Dg : Option Addr} {Dh : Nat} {Ew Ey Ez : Nat} {Fa Fb : List Value} {Fc Fd Fe : Nat} {Ff Fg : List Value} {Fh : Option Addr} {Fi : Nat} {Fj Fk Fl : Nat} {Fm Fn : List Value} {r : Int × Int} (h : M.slices_medianCmpFunc_impl_Item__impl_sortByDistance_1 Dc Bq Br Es Et Eu Ev = some r) :
    Cal2 Try.prog 128 [(Sl Dg Dc Dh), (I Bq), (I Br), (I Es), (pt Ey Ez), (.func (.func 88) #[] #[(pt Fd Fe), (pt Fk Fl)])] [Ch.ro 0 (Sl Dg Dc Dh) Dc, Ch.bx Ew Ey Ez [(I Et)] Fa Fb, Ch.bx Fc Fd Fe [(I Eu)] Ff Fg, Ch.bx Fj Fk Fl [(Sl Fh Ev Fi)] Fm Fn, Ch.ro 0 (Sl Fh Ev Fi) Ev] (fun n0 v L => v = (I r.1) ∧ L = [Ch.bx Ew Ey Ez [(I r.2)] Fa Fb, Ch.bx Fc Fd Fe [(I Eu)] Ff Fg, Ch.bx Fj Fk Fl [(Sl Fh Ev Fi)] Fm Fn]) := by
 refine cal2 (n := 41) Try.func128 rfl rfl rfl rfl ?_
 intro S0 σ0 n0 hn0 H
 unfold M.slices_medianCmpFunc_impl_Item__impl_sortByDistance_1 at h
 refine c_seq (rg (st (v := (I 0)) (rv_assign rfl) (w_end (q_then (c_seq (rg (st (v := (Sl Dg Dc Dh)) (rv_move rfl) (st (v := (I Bq)) (rv_move rfl) (st (v := (I Br)) (rv_move rfl) (st (v := (pt Ey Ez)) (rv_move rfl) (st (v := (.func (.func 88) #[] #[(pt Fd Fe), (pt Fk Fl)])) (rv_move rfl) ?_)))))))))))
 obtain ⟨r1, hx2, h'⟩ := bind_some h
 clear h
 have h := h'; clear h'
 have hc3 := c_slices_order2CmpFunc_impl_Item__impl_sortByDistance_1 (Dg := Dg) (Dh := Dh) (Em := Ew) (En := Ey) (Eo := Ez) (Ep := Fa) (Er := Fb) (Dz := Fc) (Ea := Fd) (Eb := Fe) (Ec := Ff) (Ed := Fg) (Eg := Fj) (Eh := Fk) (Ei := Fl) (Ej := Fm) (Ek := Fn) (Ee := Fh) (Ef := Fi) hx2
 refine st_call (cx_call hc3 (ent_f hc3.fn rfl) hn0 (H.sel' [0, 1, 2, 3, 4, 0, 4] rfl rfl : Hp S0 σ0 _ ([_, _, _, _, _] ++ _))) wn ?_
 rintro _ σ4 ⟨_, ⟨rfl, rfl⟩, H, -⟩
 replace H : Hp _ _ _ [_, _, _, _, _] := H
 refine st (v := (.tuple #[(I r1.1), (I r1.2.1)])) (rv_move rfl) (st (v := (I r1.1)) (rv_extract rfl rfl) (st (v := (I r1.2.1)) (rv_extract rfl rfl) (st (v := (I r1.1)) (rv_assign rfl) (st (v := (I r1.2.1)) (rv_assign rfl) (w_end (q_then (c_seq (rg (st (v := (Sl Dg Dc Dh)) (rv_move rfl) (st (v := (I r1.2.1)) (rv_move rfl) (st (v := (I Es)) (rv_move rfl) ?_)))))))))))
 refine st (v := (pt Ey Ez)) (rv_move rfl) (st (v := (.func (.func 88) #[] #[(pt Fd Fe), (pt Fk Fl)])) (rv_move rfl) ?_)
 obtain ⟨r5, hx6, h'⟩ := bind_some h
 clear h
 have h := h'; clear h'
 have hc7 := c_slices_order2CmpFunc_impl_Item__impl_sortByDistance_1 (Dg := Dg) (Dh := Dh) (Em := Ew) (En := Ey) (Eo := Ez) (Ep := Fa) (Er := Fb) (Dz := Fc) (Ea := Fd) (Eb := Fe) (Ec := Ff) (Ed := Fg) (Eg := Fj) (Eh := Fk) (Ei := Fl) (Ej := Fm) (Ek := Fn) (Ee := Fh) (Ef := Fi) hx6
 refine st_call (cx_call hc7 (ent_f hc7.fn rfl) hn0 (H.sel' [3, 0, 1, 2, 4, 3, 4] rfl rfl : Hp S0 σ0 _ ([_, _, _, _, _] ++ _))) wn ?_
 rintro _ σ8 ⟨_, ⟨rfl, rfl⟩, H, -⟩
 replace H : Hp _ _ _ [_, _, _, _, _] := H
 refine st (v := (.tuple #[(I r5.1), (I r5.2.1)])) (rv_move rfl) (st (v := (I r5.1)) (rv_extract rfl rfl) (st (v := (I r5.2.1)) (rv_extract rfl rfl) (st (v := (I r5.1)) (rv_assign rfl) (st (v := (I r5.2.1)) (rv_assign rfl) (w_end (q_then (c_seq (rg (st (v := (Sl Dg Dc Dh)) (rv_move rfl) (st (v := (I r1.1)) (rv_move rfl) (st (v := (I r5.1)) (rv_move rfl) ?_)))))))))))
 refine st (v := (pt Ey Ez)) (rv_move rfl) (st (v := (.func (.func 88) #[] #[(pt Fd Fe), (pt Fk Fl)])) (rv_move rfl) ?_)
 obtain ⟨r9, hx10, h'⟩ := bind_some h
 clear h
 have h := h'; clear h'
 have hc11 := c_slices_order2CmpFunc_impl_Item__impl_sortByDistance_1 (Dg := Dg) (Dh := Dh) (Em := Ew) (En := Ey) (Eo := Ez) (Ep := Fa) (Er := Fb) (Dz := Fc) (Ea := Fd) (Eb := Fe) (Ec := Ff) (Ed := Fg) (Eg := Fj) (Eh := Fk) (Ei := Fl) (Ej := Fm) (Ek := Fn) (Ee := Fh) (Ef := Fi) hx10
 refine st_call (cx_call hc11 (ent_f hc11.fn rfl) hn0 (H.sel' [3, 0, 1, 2, 4, 3, 4] rfl rfl : Hp S0 σ0 _ ([_, _, _, _, _] ++ _))) wn ?_
 rintro _ σ12 ⟨_, ⟨rfl, rfl⟩, H, -⟩
 replace H : Hp _ _ _ [_, _, _, _, _] := H
 refine st (v := (.tuple #[(I r9.1), (I r9.2.1)])) (rv_move rfl) (st (v := (I r9.1)) (rv_extract rfl rfl) (st (v := (I r9.2.1)) (rv_extract rfl rfl) (st (v := (I r9.1)) (rv_assign rfl) (st (v := (I r9.2.1)) (rv_assign rfl) (w_end (q_then (c_seq (rg (st (v := (I r9.2.1)) (rv_move rfl) (st (v := (I r9.2.1)) (rv_assign rfl) (w_end ?_)))))))))))
 refine q_then (c_ret ?_)
 obtain rfl := Option.some.inj h
 exact fin_ret (v := (I r9.2.1)) (results_ok Try.results128 (res_tmp (v := (I r9.2.1)) rfl res_nil) rfl) ⟨rfl, rfl⟩ (H.sel' [0, 1, 2] rfl rfl)

theorem c_slices_medianAdjacentCmpFunc_impl_Item__impl_sortByDistance_1 {Dc : List (Int × (List Int) × Int)} {Bq : Int} {Fo : Int} {Dd : Int} {De : List Int} {Dg : Option Addr} {Dh : Nat} {Fp Fq Fr : Nat} {Fs Ft : List Value} {Di Dj Dk : Nat} {Dl Dm : List Value} {Dn : Option Addr} {Do : Nat} {Dp Dq Dr : Nat} {Ds Dt : List Value} {r : Int × Int} (h : M.slices_medianAdjacentCmpFunc_impl_Item__impl_sortByDistance_1 Dc Bq Fo Dd De = some r) :
    Cal2 Try.prog 127 [(Sl Dg Dc Dh), (I Bq), (pt Fq Fr), (.func (.func 88) #[] #[(pt Dj Dk), (pt Dq Dr)])] [Ch.ro 0 (Sl Dg Dc Dh) Dc, Ch.bx Fp Fq Fr [(I Fo)] Fs Ft, Ch.bx Di Dj Dk [(I Dd)] Dl Dm, Ch.bx Dp Dq Dr [(Sl Dn De Do)] Ds Dt, Ch.ro 0 (Sl Dn De Do) De] (fun n0 v L => v = (I r.1) ∧ L = [Ch.bx Fp Fq Fr [(I r.2)] Fs Ft, Ch.bx Di Dj Dk [(I Dd)] Dl Dm, Ch.bx Dp Dq Dr [(Sl Dn De Do)] Ds Dt]) := by
 refine cal2 (n := 18) Try.func127 rfl rfl rfl rfl ?_
 intro S0 σ0 n0 hn0 H
 unfold M.slices_medianAdjacentCmpFunc_impl_Item__impl_sortByDistance_1 at h
 refine c_seq (rg (st (v := (I 0)) (rv_assign rfl) (w_end (q_then (c_seq (rg (st (v := (Sl Dg Dc Dh)) (rv_move rfl) (st (v := (I Bq)) (rv_move rfl) (st (v := (I (w64 (Bq - 1)))) (rv_sub (a := Bq) (b := 1) rfl rfl) (st (v := (I Bq)) (rv_move rfl) (st (v := (I Bq)) (rv_move rfl) ?_)))))))))))
 refine st (v := (I (w64 (Bq + 1)))) (rv_add (a := Bq) (b := 1) rfl rfl) (st (v := (pt Fq Fr)) (rv_move rfl) (st (v := (.func (.func 88) #[] #[(pt Dj Dk), (pt Dq Dr)])) (rv_move rfl) ?_))
 obtain ⟨r1, hx2, h'⟩ := bind_some h
 clear h
 have h := h'; clear h'
 have hc3 := c_slices_medianCmpFunc_impl_Item__impl_sortByDistance_1 (Dg := Dg) (Dh := Dh) (Ew := Fp) (Ey := Fq) (Ez := Fr) (Fa := Fs) (Fb := Ft) (Fc := Di) (Fd := Dj) (Fe := Dk) (Ff := Dl) (Fg := Dm) (Fj := Dp) (Fk := Dq) (Fl := Dr) (Fm := Ds) (Fn := Dt) (Fh := Dn) (Fi := Do) hx2
 refine st_call (cx_call hc3 (ent_f hc3.fn rfl) hn0 (H.sel' [0, 1, 2, 3, 4, 0, 4] rfl rfl : Hp S0 σ0 _ ([_, _, _, _, _] ++ _))) wn ?_
 rintro _ σ4 ⟨_, ⟨rfl, rfl⟩, H, -⟩
 replace H : Hp _ _ _ [_, _, _, _, _] := H
 refine st (v := (I r1.1)) (rv_assign rfl) (w_end (q_then (c_ret ?_)))
 obtain rfl := Option.some.inj h
 exact fin_ret (v := (I r1.1)) (results_ok Try.results127 (res_tmp (v := (I r1.1)) rfl res_nil) rfl) ⟨rfl, rfl⟩ (H.sel' [0, 1, 2] rfl rfl)

theorem c_slices_choosePivotCmpFunc_impl_Item__impl_sortByDistance_1 {Dc : List (Int × (List Int) × Int)} {Bq : Int} {Br : Int} {Dd : Int} {De : List Int} {Dg : Option Addr} {Dh : Nat} {Di Dj Dk : Nat} {Dl Dm : List Value} {Dn : Option Addr} {Do : Nat} {Dp Dq Dr : Nat} {Ds Dt : List Value} {r : Int × Int} (h : M.slices_choosePivotCmpFunc_impl_Item__impl_sortByDistance_1 Dc Bq Br Dd De = some r) :
    Cal2 Try.prog 115 [(Sl Dg Dc Dh), (I Bq), (I Br), (.func (.func 88) #[] #[(pt Dj Dk), (pt Dq Dr)])] [Ch.ro 0 (Sl Dg Dc Dh) Dc, Ch.bx Di Dj Dk [(I Dd)] Dl Dm, Ch.bx Dp Dq Dr [(Sl Dn De Do)] Ds Dt, Ch.ro 0 (Sl Dn De Do) De] (fun n0 v L => v = (.tuple #[(I r.1), (I r.2)]) ∧ L = [Ch.bx Di Dj Dk [(I Dd)] Dl Dm, Ch.bx Dp Dq Dr [(Sl Dn De Do)] Ds Dt]) := by
 refine cal2 (n := 63) Try.func115 rfl rfl rfl rfl ?_
 intro S0 σ0 n0 hn0 H
 unfold M.slices_choosePivotCmpFunc_impl_Item__impl_sortByDistance_1 at h
 refine c_seq (rg (st (v := (I 0)) (rv_assign rfl) (st (v := (I 0)) (rv_assign rfl) (w_end (q_then (c_seq (rg (st (v := (I Br)) (rv_move rfl) (st (v := (I Bq)) (rv_move rfl) (st (v := (I (w64 (Br - Bq)))) (rv_sub (a := Br) (b := Bq) rfl rfl) (st (v := (I (w64 (Br - Bq)))) (rv_assign rfl) ?_)))))))))))
 refine w_end (q_then (c_seq (rg (st_ex (ex_alloc (cs := [(I 0)]) H hn0 ti3 rfl) wn ?_))))
 rintro _ σ2 ⟨b1, rfl, H, -⟩
 refine w_end (q_then (c_seq (rg (st (v := (I Bq)) (rv_move rfl) (st (v := (I (w64 (Br - Bq)))) (rv_move rfl) ?_)))))
 refine st (v := (I (w64 ((w64 (Br - Bq)).tdiv 4)))) (rv_quo (a := (w64 (Br - Bq))) (b := 4) rfl rfl (by decide)) ?_
 refine st (v := (I (w64 ((w64 ((w64 (Br - Bq)).tdiv 4)) * 1)))) (rv_mul (a := (w64 ((w64 (Br - Bq)).tdiv 4))) (b := 1) rfl rfl) (st (v := (I (w64 (Bq + (w64 ((w64 ((w64 (Br - Bq)).tdiv 4)) * 1)))))) (rv_add (a := Bq) (b := (w64 ((w64 ((w64 (Br - Bq)).tdiv 4)) * 1))) rfl rfl) (st (v := (I (w64 (Bq + (w64 ((w64 ((w64 (Br - Bq)).tdiv 4)) * 1)))))) (rv_assign rfl) (w_end (q_then (c_seq (rg (st (v := (I Bq)) (rv_move rfl) (st (v := (I (w64 (Br - Bq)))) (rv_move rfl) ?_))))))))
 refine st (v := (I (w64 ((w64 (Br - Bq)).tdiv 4)))) (rv_quo (a := (w64 (Br - Bq))) (b := 4) rfl rfl (by decide)) ?_
 refine st (v := (I (w64 ((w64 ((w64 (Br - Bq)).tdiv 4)) * 2)))) (rv_mul (a := (w64 ((w64 (Br - Bq)).tdiv 4))) (b := 2) rfl rfl) (st (v := (I (w64 (Bq + (w64 ((w64 ((w64 (Br - Bq)).tdiv 4)) * 2)))))) (rv_add (a := Bq) (b := (w64 ((w64 ((w64 (Br - Bq)).tdiv 4)) * 2))) rfl rfl) (st (v := (I (w64 (Bq + (w64 ((w64 ((w64 (Br - Bq)).tdiv 4)) * 2)))))) (rv_assign rfl) (w_end (q_then (c_seq (rg (st (v := (I Bq)) (rv_move rfl) (st (v := (I (w64 (Br - Bq)))) (rv_move rfl) ?_))))))))
 refine st (v := (I (w64 ((w64 (Br - Bq)).tdiv 4)))) (rv_quo (a := (w64 (Br - Bq))) (b := 4) rfl rfl (by decide)) ?_
 refine st (v := (I (w64 ((w64 ((w64 (Br - Bq)).tdiv 4)) * 3)))) (rv_mul (a := (w64 ((w64 (Br - Bq)).tdiv 4))) (b := 3) rfl rfl) (st (v := (I (w64 (Bq + (w64 ((w64 ((w64 (Br - Bq)).tdiv 4)) * 3)))))) (rv_add (a := Bq) (b := (w64 ((w64 ((w64 (Br - Bq)).tdiv 4)) * 3))) rfl rfl) (st (v := (I (w64 (Bq + (w64 ((w64 ((w64 (Br - Bq)).tdiv 4)) * 3)))))) (rv_assign rfl) (w_end (q_then (c_seq (c_seq (rg (st (v := (I (w64 (Br - Bq)))) (rv_move rfl) (st (v := (B (decide (8 ≤ (w64 (Br - Bq)))))) (rv_geq (a := (w64 (Br - Bq))) (b := 8) rfl rfl) (w_end (q_then ?_)))))))))))
 obtain ⟨o3, hj, h'⟩ := bind_some h
 clear h
 refine c_cut (fun e a w => e = .normal ∧ ∃ (ρ : Nat → Value) (σ : St), a = fr 63 (updL ρ [(3, (.func (.func 88) #[] #[(pt Dj Dk), (pt Dq Dr)])), (11, (pt b1 0)), (13, (I o3.2))]) ∧ w = σ.w ∧ Hp S0 σ0 σ [Ch.bx n0 b1 0 [(I o3.1)] [] [], Ch.bx Di Dj Dk [(I Dd)] Dl Dm, Ch.ro 0 (Sl Dn De Do) De, Ch.bx Dp Dq Dr [(Sl Dn De Do)] Ds Dt]) ?_ ?_
 ·clear h'
  rename _ = some o3 => h
  refine cd_cond (decide (8 ≤ (w64 (Br - Bq)))) rfl (fun hb4 => ?_) (fun hb4 => ?_)
  ·replace h := bif_t hb4 h
   refine c_seq (c_seq (rg (st (v := (I (w64 (Br - Bq)))) (rv_move rfl) (st (v := (B (decide (50 ≤ (w64 (Br - Bq)))))) (rv_geq (a := (w64 (Br - Bq))) (b := 50) rfl rfl) (w_end (q_then ?_))))))
   obtain ⟨o5, hj, h'⟩ := bind_some h
   clear h
   refine c_cut (fun e a w => e = .normal ∧ ∃ (ρ : Nat → Value) (σ : St), a = fr 63 (updL ρ [(0, (Sl Dg Dc Dh)), (3, (.func (.func 88) #[] #[(pt Dj Dk), (pt Dq Dr)])), (11, (pt b1 0)), (12, (I o5.2.1)), (13, (I o5.2.2.1)), (14, (I o5.2.2.2))]) ∧ w = σ.w ∧ Hp S0 σ0 σ [Ch.bx n0 b1 0 [(I o5.1)] [] [], Ch.ro 0 (Sl Dg Dc Dh) Dc, Ch.bx Di Dj Dk [(I Dd)] Dl Dm, Ch.ro 0 (Sl Dn De Do) De, Ch.bx Dp Dq Dr [(Sl Dn De Do)] Ds Dt]) ?_ ?_
   ·clear h'
    rename _ = some o5 => h
    refine cd_cond (decide (50 ≤ (w64 (Br - Bq)))) rfl (fun hb6 => ?_) (fun hb6 => ?_)
    ·replace h := bif_t hb6 h
     refine c_seq (rg (st (v := (Sl Dg Dc Dh)) (rv_move rfl) (st (v := (I (w64 (Bq + (w64 ((w64 ((w64 (Br - Bq)).tdiv 4)) * 1)))))) (rv_move rfl) (st (v := (.func (.func 88) #[] #[(pt Dj Dk), (pt Dq Dr)])) (rv_move rfl) ?_))))
     obtain ⟨r7, hx8, h'⟩ := bind_some h
     clear h
     have h := h'; clear h'
     have hc9 := c_slices_medianAdjacentCmpFunc_impl_Item__impl_sortByDistance_1 (Dg := Dg) (Dh := Dh) (Fp := n0) (Fq := b1) (Fr := 0) (Fs := []) (Ft := []) (Di := Di) (Dj := Dj) (Dk := Dk) (Dl := Dl) (Dm := Dm) (Dp := Dp) (Dq := Dq) (Dr := Dr) (Ds := Ds) (Dt := Dt) (Dn := Dn) (Do := Do) hx8
     refine st_call (cx_call hc9 (ent_f hc9.fn rfl) hn0 (H.sel' [1, 0, 2, 3, 4, 1, 4] rfl rfl : Hp S0 σ0 _ ([_, _, _, _, _] ++ _))) wn ?_
     rintro _ σ10 ⟨_, ⟨rfl, rfl⟩, H, -⟩
     replace H : Hp _ _ _ [_, _, _, _, _] := H
     refine st (v := (I r7.1)) (rv_assign rfl) (w_end (q_then (c_seq (rg (st (v := (Sl Dg Dc Dh)) (rv_move rfl) (st (v := (I (w64 (Bq + (w64 ((w64 ((w64 (Br - Bq)).tdiv 4)) * 2)))))) (rv_move rfl) (st (v := (.func (.func 88) #[] #[(pt Dj Dk), (pt Dq Dr)])) (rv_move rfl) ?_)))))))
     obtain ⟨r11, hx12, h'⟩ := bind_some h
     clear h
     have h := h'; clear h'
     have hc13 := c_slices_medianAdjacentCmpFunc_impl_Item__impl_sortByDistance_1 (Dg := Dg) (Dh := Dh) (Fp := n0) (Fq := b1) (Fr := 0) (Fs := []) (Ft := []) (Di := Di) (Dj := Dj) (Dk := Dk) (Dl := Dl) (Dm := Dm) (Dp := Dp) (Dq := Dq) (Dr := Dr) (Ds := Ds) (Dt := Dt) (Dn := Dn) (Do := Do) hx12
     refine st_call (cx_call hc13 (ent_f hc13.fn rfl) hn0 (H.sel' [3, 0, 1, 2, 4, 3, 4] rfl rfl : Hp S0 σ0 _ ([_, _, _, _, _] ++ _))) wn ?_
     rintro _ σ14 ⟨_, ⟨rfl, rfl⟩, H, -⟩
     replace H : Hp _ _ _ [_, _, _, _, _] := H
     refine st (v := (I r11.1)) (rv_assign rfl) (w_end (q_then (rg (st (v := (Sl Dg Dc Dh)) (rv_move rfl) (st (v := (I (w64 (Bq + (w64 ((w64 ((w64 (Br - Bq)).tdiv 4)) * 3)))))) (rv_move rfl) (st (v := (.func (.func 88) #[] #[(pt Dj Dk), (pt Dq Dr)])) (rv_move rfl) ?_))))))
     obtain ⟨r15, hx16, h'⟩ := bind_some h
     clear h
     have h := h'; clear h'
     have hc17 := c_slices_medianAdjacentCmpFunc_impl_Item__impl_sortByDistance_1 (Dg := Dg) (Dh := Dh) (Fp := n0) (Fq := b1) (Fr := 0) (Fs := []) (Ft := []) (Di := Di) (Dj := Dj) (Dk := Dk) (Dl := Dl) (Dm := Dm) (Dp := Dp) (Dq := Dq) (Dr := Dr) (Ds := Ds) (Dt := Dt) (Dn := Dn) (Do := Do) hx16
     refine st_call (cx_call hc17 (ent_f hc17.fn rfl) hn0 (H.sel' [3, 0, 1, 2, 4, 3, 4] rfl rfl : Hp S0 σ0 _ ([_, _, _, _, _] ++ _))) wn ?_
     rintro _ σ18 ⟨_, ⟨rfl, rfl⟩, H, -⟩
     replace H : Hp _ _ _ [_, _, _, _, _] := H
     refine st (v := (I r15.1)) (rv_assign rfl) (w_end ?_)
     obtain rfl := Option.some.inj h
     exact ⟨rfl, _, σ18, fr_join ⟨rfl, rfl, rfl, rfl, rfl, rfl, trivial⟩, rfl, H.sel' [0, 3, 1, 4, 2] rfl rfl⟩
    ·replace h := bif_f hb6 h
     refine c_skip ?_
     obtain rfl := Option.some.inj h
     exact ⟨rfl, _, σ2, fr_join ⟨rfl, rfl, rfl, rfl, rfl, rfl, trivial⟩, rfl, H.sel' [0, 1, 2, 4, 3] rfl rfl⟩
   ·clear hj
    have h := h'
    clear h' H
    rintro e a w ⟨rfl, ρ, σ19, rfl, rfl, H⟩
    refine q_then (rg (st (v := (Sl Dg Dc Dh)) (rv_move rfl) (st (v := (I o5.2.1)) (rv_move rfl) (st (v := (I o5.2.2.1)) (rv_move rfl) (st (v := (I o5.2.2.2)) (rv_move rfl) (st (v := (.func (.func 88) #[] #[(pt Dj Dk), (pt Dq Dr)])) (rv_move rfl) ?_))))))
    obtain ⟨r20, hx21, h'⟩ := bind_some h
    clear h
    have h := h'; clear h'
    have hc22 := c_slices_medianCmpFunc_impl_Item__impl_sortByDistance_1 (Dg := Dg) (Dh := Dh) (Ew := n0) (Ey := b1) (Ez := 0) (Fa := []) (Fb := []) (Fc := Di) (Fd := Dj) (Fe := Dk) (Ff := Dl) (Fg := Dm) (Fj := Dp) (Fk := Dq) (Fl := Dr) (Fm := Ds) (Fn := Dt) (Fh := Dn) (Fi := Do) hx21
    refine st_call (cx_call hc22 (ent_f hc22.fn rfl) hn0 (H.sel' [1, 0, 2, 4, 3, 1, 3] rfl rfl : Hp S0 σ0 _ ([_, _, _, _, _] ++ _))) wn ?_
    rintro _ σ23 ⟨_, ⟨rfl, rfl⟩, H, -⟩
    replace H : Hp _ _ _ [_, _, _, _, _] := H
    refine st (v := (I r20.1)) (rv_assign rfl) (w_end ?_)
    obtain rfl := Option.some.inj h
    exact ⟨rfl, _, σ23, fr_join ⟨rfl, rfl, rfl, trivial⟩, rfl, H.sel' [0, 1, 4, 2] rfl rfl⟩
  ·replace h := bif_f hb4 h
   refine c_skip ?_
   obtain rfl := Option.some.inj h
   exact ⟨rfl, _, σ2, fr_join ⟨rfl, rfl, rfl, trivial⟩, rfl, H.sel' [0, 2, 4, 3] rfl rfl⟩
 ·clear hj
  have h := h'
  clear h' H
  rintro e a w ⟨rfl, ρ, σ24, rfl, rfl, H⟩
  refine q_then (c_seq (rg ?_))
  have hc25 := H.cell (u := (I o3.1)) (o' := 0) 0 0 rfl rfl rfl
  refine st (v := (I o3.1)) (rv_load1 Try.underlying3 rfl rfl hc25) (w_end (q_then (c_blk (c_seq (rg (st (v := (B (o3.1 == 0))) (rv_eql (a := o3.1) (b := 0) rfl rfl) (st (v := (B (o3.1 == 0))) (rv_assign rfl) (w_end (q_then ?_)))))))))
  refine cd_cond (o3.1 == 0) rfl (fun hb26 => ?_) (fun hb26 => ?_)
  ·replace h := bif_t hb26 h
   refine c_seq (rg (st (v := (I o3.2)) (rv_move rfl) (st (v := (I o3.2)) (rv_assign rfl) (st (v := (I 1)) (rv_assign rfl) (w_end (q_then (c_ret (q_blk_r ?_))))))))
   obtain rfl := Option.some.inj h
   exact fin_ret (v := (.tuple #[(I o3.2), (I 1)])) (results_ok Try.results115 (res_tmp (v := (I o3.2)) rfl (res_tmp (v := (I 1)) rfl res_nil)) rfl) ⟨rfl, rfl⟩ (H.sel' [1, 3] rfl rfl)
  ·replace h := bif_f hb26 h
   refine c_seq (rg (st (v := (B (o3.1 == 12))) (rv_eql (a := o3.1) (b := 12) rfl rfl) (st (v := (B (o3.1 == 12))) (rv_assign rfl) (w_end (q_then ?_)))))
   refine cd_cond (o3.1 == 12) rfl (fun hb27 => ?_) (fun hb27 => ?_)
   ·replace h := bif_t hb27 h
    refine c_seq (rg (st (v := (I o3.2)) (rv_move rfl) (st (v := (I o3.2)) (rv_assign rfl) (st (v := (I 2)) (rv_assign rfl) (w_end (q_then (c_ret (q_blk_r ?_))))))))
    obtain rfl := Option.some.inj h
    exact fin_ret (v := (.tuple #[(I o3.2), (I 2)])) (results_ok Try.results115 (res_tmp (v := (I o3.2)) rfl (res_tmp (v := (I 2)) rfl res_nil)) rfl) ⟨rfl, rfl⟩ (H.sel' [1, 3] rfl rfl)
   ·replace h := bif_f hb27 h
    refine c_seq (rg (st (v := (I o3.2)) (rv_move rfl) (st (v := (I o3.2)) (rv_assign rfl) (st (v := (I 0)) (rv_assign rfl) (w_end (q_then (c_ret (q_blk_r ?_))))))))
    obtain rfl := Option.some.inj h
    exact fin_ret (v := (.tuple #[(I o3.2), (I 0)])) (results_ok Try.results115 (res_tmp (v := (I o3.2)) rfl (res_tmp (v := (I 0)) rfl res_nil)) rfl) ⟨rfl, rfl⟩ (H.sel' [1, 3] rfl rfl)

end Go.Vs
