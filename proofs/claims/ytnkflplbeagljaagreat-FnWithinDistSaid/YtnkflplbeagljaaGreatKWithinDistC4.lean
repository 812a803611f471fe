/- The functions compute what their models say. -/
import Derived.Test.YtnkflplbeagljaaGreatKWithinDistC3
set_option linter.unusedVariables false
set_option linter.unusedSimpArgs false
set_option maxRecDepth 20000
namespace Go.Vs
open Go Go.Proofs
attribute [local irreducible] Code.wp Code.wpIn wpList wpListIn wpQuiet Calls CallsIn

theorem c_spec_validQuery {As : List (Int × (List Int) × Int)} {Bq : Int} {Br : List Int} {Au : Option Addr} {Av : Nat} {Bt : Option Addr} {Bu : Nat} {r : Bool} (h : M.spec_validQuery As Bq Br = some r) :
    Cal2 Tryz.prog 40 [(Sl Au As Av), (I Bq), (Sl Bt Br Bu)] [Ch.ro 0 (Sl Au As Av) As, Ch.ro 0 (Sl Bt Br Bu) Br] (fun n0 v L => v = (B r) ∧ L = []) := by
 refine cal2 (n := 17) Tryz.func40 rfl rfl rfl rfl ?_
 intro S0 σ0 n0 hn0 H
 unfold M.spec_validQuery at h
 refine c_seq (rg (sa (B false) rfl (w_end (q_then (c_seq (rg (sm (Sl Au As Av) rfl ?_)))))))
 revert h; refine br fun r1 hx2 h => ?_
 have hc3 := c_spec_validStore (Au := Au) (Av := Av) hx2
 refine st_call (cx_call hc3 (ent_f hc3.fn rfl) hn0 (H.sel' [0, 0, 1] rfl rfl : Hp S0 σ0 _ ([_] ++ _))) wn ?_
 rintro _ σ4 ⟨_, ⟨rfl, rfl⟩, H, -⟩
 replace H : Hp _ _ _ [_, _] := H
 refine sm (B r1) rfl ?_
 rcases Bool.eq_false_or_eq_true r1 with hb5 | hb5
 ·replace h := bif_t hb5 h
  refine st_g (v := (I Bq)) (congrArg some hb5) (rv_move rfl) ?_
  revert h; refine br fun r6 hx7 h => ?_
  have hc8 := c_spec_validKind hx7
  refine st_call (cx_call hc8 (ent_f hc8.fn rfl) hn0 (H.sel' [0, 1] rfl rfl : Hp S0 σ0 _ ([] ++ _))) (wanted_yes rfl (by exact (congrArg some hb5))) ?_
  rintro _ σ9 ⟨_, ⟨rfl, rfl⟩, H, -⟩
  replace H : Hp _ _ _ [_, _] := H
  refine st (v := (B r6)) (rv_pick_t (congrArg B hb5) rfl) (sm (B r6) rfl ?_)
  rcases Bool.eq_false_or_eq_true r6 with hb10 | hb10
  ·replace h := bif_t hb10 h
   refine st_g (v := (Sl Bt Br Bu)) (congrArg some hb10) (rv_move rfl) ?_
   revert h; refine br fun r11 hx12 h => ?_
   have hc13 := c_spec_isVector (Bb := Bt) (Bc := Bu) hx12
   refine st_call (cx_call hc13 (ent_f hc13.fn rfl) hn0 (H.sel' [1, 0, 1] rfl rfl : Hp S0 σ0 _ ([_] ++ _))) (wanted_yes rfl (by exact (congrArg some hb10))) ?_
   rintro _ σ14 ⟨_, ⟨rfl, rfl⟩, H, -⟩
   replace H : Hp _ _ _ [_, _] := H
   refine st (v := (B r11)) (rv_pick_t (congrArg B hb10) rfl) (sa (B r11) rfl (w_end (q_then (c_ret ?_))))
   obtain rfl := sj h
   exact fin_ret (v := (B r11)) (results_ok Tryz.results40 (res_tmp (v := (B r11)) rfl res_nil) rfl) ⟨rfl, rfl⟩ (H.sel' [] rfl rfl)
  ·replace h := bif_f hb10 h
   refine st_skip (congrArg some hb10) (st_skip (congrArg some hb10) (st (v := (B false)) (rv_pick_f (congrArg B hb10) rfl) (sa (B false) rfl (w_end (q_then (c_ret ?_))))))
   obtain rfl := sj h
   exact fin_ret (v := (B false)) (results_ok Tryz.results40 (res_tmp (v := (B false)) rfl res_nil) rfl) ⟨rfl, rfl⟩ (H.sel' [] rfl rfl)
 ·replace h := bif_f hb5 h
  refine st_skip (congrArg some hb5) (st_skip (congrArg some hb5) (st (v := (B false)) (rv_pick_f (congrArg B hb5) rfl) (sm (B false) rfl (st_skip rfl (st_skip rfl (st (v := (B false)) (rv_pick_f rfl rfl) (sa (B false) rfl (w_end (q_then (c_ret ?_))))))))))
  obtain rfl := sj h
  exact fin_ret (v := (B false)) (results_ok Tryz.results40 (res_tmp (v := (B false)) rfl res_nil) rfl) ⟨rfl, rfl⟩ (H.sel' [] rfl rfl)

theorem c_spec_nearer {Cj : Int × Int} {Ck : Int × Int}  {r : Bool} (h : M.spec_nearer Cj Ck = some r) :
    Cal2 Tryz.prog 115 [(.agg #[(I Cj.1), (I Cj.2)]), (.agg #[(I Ck.1), (I Ck.2)])] [] (fun n0 v L => v = (B r) ∧ L = []) := by
 refine cal2 (n := 24) Tryz.func115 rfl rfl rfl rfl ?_
 intro S0 σ0 n0 hn0 H
 unfold M.spec_nearer at h
 refine c_seq (rg (st_ex (ex_box (cs := [(I Cj.1), (I Cj.2)]) H hn0 rfl rfl) wn ?_))
 rintro _ σ2 ⟨b1, rfl, H, -⟩
 refine st_ex (ex_box (cs := [(I Ck.1), (I Ck.2)]) H hn0 rfl rfl) wn ?_
 rintro _ σ4 ⟨b3, rfl, H, -⟩
 refine sa (B false) rfl (w_end (q_then (c_seq (rg (st (v := (pt b1 1)) (rv_fieldAddr (off := 1) (ft := 3) Tryz.underlying44 rfl ti3 rfl rfl) ?_)))))
 have hc5 := H.cell (u := (I Cj.2)) (o' := 1) 1 1 rfl rfl rfl
 refine st (v := (I Cj.2)) (rv_load1 Tryz.underlying3 rfl rfl hc5) (st (v := (pt b3 1)) (rv_fieldAddr (off := 1) (ft := 3) Tryz.underlying44 rfl ti3 rfl rfl) ?_)
 have hc6 := H.cell (u := (I Ck.2)) (o' := 1) 0 1 rfl rfl rfl
 refine st (v := (I Ck.2)) (rv_load1 Tryz.underlying3 rfl rfl hc6) (st (v := (B (decide (Cj.2 < Ck.2)))) (rv_lss (a := Cj.2) (b := Ck.2) rfl rfl) (sm (B (decide (Cj.2 < Ck.2))) rfl ?_))
 rcases Bool.eq_false_or_eq_true (decide (Cj.2 < Ck.2)) with hb7 | hb7
 ·replace h := bif_t hb7 h
  refine st_skip (congrArg some hb7) (st_skip (congrArg some hb7) (st_skip (congrArg some hb7) (st_skip (congrArg some hb7) (st_skip (congrArg some hb7) (st_skip (congrArg some hb7) (st_skip_u rfl (st_skip_u rfl (st_skip_u rfl (st_skip_u rfl (st_skip_u rfl (st_skip (congrArg some hb7) ?_)))))))))))
  refine st (v := (B true)) (rv_pick_t (congrArg B hb7) rfl) (sa (B true) rfl (w_end (q_then (c_ret ?_))))
  obtain rfl := sj h
  exact fin_ret (v := (B true)) (results_ok Tryz.results115 (res_tmp (v := (B true)) rfl res_nil) rfl) ⟨rfl, rfl⟩ (H.sel' [] rfl rfl)
 ·replace h := bif_f hb7 h
  refine st_g (v := (pt b1 1)) (congrArg some hb7) (rv_fieldAddr (off := 1) (ft := 3) Tryz.underlying44 rfl ti3 rfl rfl) ?_
  have hc8 := H.cell (u := (I Cj.2)) (o' := 1) 1 1 rfl rfl rfl
  refine st_g (v := (I Cj.2)) (congrArg some hb7) (rv_load1 Tryz.underlying3 rfl rfl hc8) (st_g (v := (pt b3 1)) (congrArg some hb7) (rv_fieldAddr (off := 1) (ft := 3) Tryz.underlying44 rfl ti3 rfl rfl) ?_)
  have hc9 := H.cell (u := (I Ck.2)) (o' := 1) 0 1 rfl rfl rfl
  refine st_g (v := (I Ck.2)) (congrArg some hb7) (rv_load1 Tryz.underlying3 rfl rfl hc9) (st_g (v := (B (Cj.2 == Ck.2))) (congrArg some hb7) (rv_eql (a := Cj.2) (b := Ck.2) rfl rfl) (st_g (v := (B (Cj.2 == Ck.2))) (congrArg some hb7) (rv_move rfl) ?_))
  rcases Bool.eq_false_or_eq_true (Cj.2 == Ck.2) with hb10 | hb10
  ·replace h := bif_t hb10 h
   refine st_g (v := (pt b1 0)) (congrArg some hb10) (rv_fieldAddr (off := 0) (ft := 3) Tryz.underlying44 rfl ti3 rfl rfl) ?_
   have hc11 := H.cell (u := (I Cj.1)) (o' := 0) 1 0 rfl rfl rfl
   refine st_g (v := (I Cj.1)) (congrArg some hb10) (rv_load1 Tryz.underlying3 rfl rfl hc11) (st_g (v := (pt b3 0)) (congrArg some hb10) (rv_fieldAddr (off := 0) (ft := 3) Tryz.underlying44 rfl ti3 rfl rfl) ?_)
   have hc12 := H.cell (u := (I Ck.1)) (o' := 0) 0 0 rfl rfl rfl
   refine st_g (v := (I Ck.1)) (congrArg some hb10) (rv_load1 Tryz.underlying3 rfl rfl hc12) (st_g (v := (B (decide (Cj.1 < Ck.1)))) (congrArg some hb10) (rv_lss (a := Cj.1) (b := Ck.1) rfl rfl) (st_g (v := (B (decide (Cj.1 < Ck.1)))) (congrArg some hb7) (rv_pick_t (congrArg B hb10) rfl) (st (v := (B (decide (Cj.1 < Ck.1)))) (rv_pick_f (congrArg B hb7) rfl) (sa (B (decide (Cj.1 < Ck.1))) rfl (w_end (q_then (c_ret ?_)))))))
   obtain rfl := sj h
   exact fin_ret (v := (B (decide (Cj.1 < Ck.1)))) (results_ok Tryz.results115 (res_tmp (v := (B (decide (Cj.1 < Ck.1)))) rfl res_nil) rfl) ⟨rfl, rfl⟩ (H.sel' [] rfl rfl)
  ·replace h := bif_f hb10 h
   refine st_skip (congrArg some hb10) (st_skip (congrArg some hb10) (st_skip (congrArg some hb10) (st_skip (congrArg some hb10) (st_skip (congrArg some hb10) (st_g (v := (B false)) (congrArg some hb7) (rv_pick_f (congrArg B hb10) rfl) (st (v := (B false)) (rv_pick_f (congrArg B hb7) rfl) (sa (B false) rfl (w_end (q_then (c_ret ?_))))))))))
   obtain rfl := sj h
   exact fin_ret (v := (B false)) (results_ok Tryz.results115 (res_tmp (v := (B false)) rfl res_nil) rfl) ⟨rfl, rfl⟩ (H.sel' [] rfl rfl)

theorem c_spec_addHit {As : List (Int × Int)} {Cq : Int × Int} {Ge : Int} {Au : Option Addr} {Av : Nat} {r : (List (Int × Int))} (h : M.spec_addHit As Cq Ge = some r) :
    Cal2 Tryz.prog 70 [(Sl Au As Av), (.agg #[(I Cq.1), (I Cq.2)]), (I Ge)] [Ch.ro 0 (Sl Au As Av) As] (fun n0 v L => ∃ (az1 : Option Addr), ∃ (cz2 : Nat), v = (Sl az1 r cz2) ∧ L = [Ch.own n0 n0 (Sl az1 r cz2) r]) := by
 refine cal2 (n := 58) Tryz.func70 rfl rfl rfl rfl ?_
 intro S0 σ0 n0 hn0 H
 unfold M.spec_addHit at h
 refine c_seq (rg (st_ex (ex_box (cs := [(I Cq.1), (I Cq.2)]) H hn0 rfl rfl) wn ?_))
 rintro _ σ2 ⟨b1, rfl, H, -⟩
 refine sa (.slice none 0 0) rfl (w_end (q_then (c_seq ?_)))
 revert h; refine br fun xs4 hx5 h => ?_
 have hc8 := H.cells 0 rfl
 have Hs := H
 refine rg2 (σ := σ2) (Nm := (Nat) × (Option Addr) × (Nat) × (Nat)) 5 [0, 2, 4] [[false, false, false], [true, false, false], [false, false, true], [true, true, false], [true, false, true], [true, true, true]] [[(0, 1), (2, 4)], [(0, 0), (1, 1), (2, 2), (4, 4)], [(1, 3), (4, 5)], [(0, 0), (1, 1), (3, 3)], [(0, 2), (1, 4), (3, 5)]] 5 [fun ((b3, a6, c7, b9) : (Nat) × (Option Addr) × (Nat) × (Nat)) => fun σm => Hp S0 σ0 σm [Ch.bx n0 b1 0 [(I Cq.1), (I Cq.2)] [] [], Ch.ro 0 (Sl Au As Av) As] ∧ Md (cov []) σ2 σm, fun ((b3, a6, c7, b9) : (Nat) × (Option Addr) × (Nat) × (Nat)) => fun σm => Hp S0 σ0 σm [Ch.own n0 n0 (Sl (some ⟨b3, 0, none⟩) ([] : List (Int × Int)) 0) ([] : List (Int × Int)), Ch.bx n0 b1 0 [(I Cq.1), (I Cq.2)] [] [], Ch.ro 0 (Sl Au As Av) As] ∧ Md (cov []) σ2 σm, fun ((b3, a6, c7, b9) : (Nat) × (Option Addr) × (Nat) × (Nat)) => fun σm => Hp S0 σ0 σm [Ch.own n0 n0 (Sl (some ⟨b9, 0, none⟩) ([(Cq.1, Cq.2)] : List (Int × Int)) 1) ([(Cq.1, Cq.2)] : List (Int × Int)), Ch.bx n0 b1 0 [(I Cq.1), (I Cq.2)] [] [], Ch.ro 0 (Sl Au As Av) As] ∧ Md (cov []) σ2 σm, fun ((b3, a6, c7, b9) : (Nat) × (Option Addr) × (Nat) × (Nat)) => fun σm => Hp S0 σ0 σm [Ch.own n0 n0 (Sl a6 xs4 c7) xs4, Ch.bx n0 b1 0 [(I Cq.1), (I Cq.2)] [] [], Ch.ro 0 (Sl Au As Av) As] ∧ Md (fun i => (cov []) i ∨ (fun b => blk (Sl (some ⟨b3, 0, none⟩) ([] : List (Int × Int)) 0) = some b) i) σ2 σm, fun ((b3, a6, c7, b9) : (Nat) × (Option Addr) × (Nat) × (Nat)) => fun σm => Hp S0 σ0 σm [Ch.own n0 n0 (Sl (some ⟨b9, 0, none⟩) ([(Cq.1, Cq.2)] : List (Int × Int)) 1) ([(Cq.1, Cq.2)] : List (Int × Int)), Ch.own n0 n0 (Sl (some ⟨b3, 0, none⟩) ([] : List (Int × Int)) 0) ([] : List (Int × Int)), Ch.bx n0 b1 0 [(I Cq.1), (I Cq.2)] [] [], Ch.ro 0 (Sl Au As Av) As] ∧ Md (cov []) σ2 σm, fun ((b3, a6, c7, b9) : (Nat) × (Option Addr) × (Nat) × (Nat)) => fun σm => Hp S0 σ0 σm [Ch.own n0 n0 (Sl (some ⟨b9, 0, none⟩) ([(Cq.1, Cq.2)] : List (Int × Int)) 1) ([(Cq.1, Cq.2)] : List (Int × Int)), Ch.own n0 n0 (Sl a6 xs4 c7) xs4, Ch.bx n0 b1 0 [(I Cq.1), (I Cq.2)] [] [], Ch.ro 0 (Sl Au As Av) As] ∧ Md (fun i => (cov []) i ∨ (fun b => blk (Sl (some ⟨b3, 0, none⟩) ([] : List (Int × Int)) 0) = some b) i) σ2 σm] [fun ((b3, a6, c7, b9) : (Nat) × (Option Addr) × (Nat) × (Nat)) => (Sl (some ⟨b3, 0, none⟩) ([] : List (Int × Int)) 0), fun ((b3, a6, c7, b9) : (Nat) × (Option Addr) × (Nat) × (Nat)) => (Sl Au As Av), fun ((b3, a6, c7, b9) : (Nat) × (Option Addr) × (Nat) × (Nat)) => (Sl a6 xs4 c7), fun ((b3, a6, c7, b9) : (Nat) × (Option Addr) × (Nat) × (Nat)) => (.agg #[(I Cq.1), (I Cq.2)]), fun ((b3, a6, c7, b9) : (Nat) × (Option Addr) × (Nat) × (Nat)) => (Sl (some ⟨b9, 0, none⟩) ([(Cq.1, Cq.2)] : List (Int × Int)) 1)] (0, none, 0, 0) (by kernel_rfl) (by kernel_rfl) ?_ ?_ ?_
 ·intro σm m0
  exact ⟨H.grow (m0.mono fun _ h => h.elim), m0⟩
 ·refine all_cons (by
    refine ⟨?_, ?_⟩
    ·rintro ⟨b3, a6, c7, b9⟩ ρ σm hJ hoff hdep
     obtain ⟨H, m⟩ := id hJ
     refine dp_ex wn (ex_buildSlice (el := n0) (xs := ([] : List (Int × Int))) (ps := []) (cs := []) H hn0 Tryz.underlying27 ti44 rfl rfl (by kernel_rfl) (.nil) rfl) ?_
     rintro _ σq ⟨b3x, rfl, H2, m2⟩
     exact ⟨_, (b3x, a6, c7, b9), rfl, rfl, ⟨H2.sel' [0, 1, 2] rfl rfl, m.comp0 m2⟩, stab [1, 3, 4] (by kernel_rfl) ⟨rfl, rfl, rfl, trivial⟩⟩
    refine ⟨?_, ?_⟩
    ·rintro ⟨b3, a6, c7, b9⟩ ρ σm hJ hoff hdep
     obtain ⟨H, m⟩ := id hJ
     refine dp_ex wn (ex_buildSlice (el := n0) (xs := ([] : List (Int × Int))) (ps := []) (cs := []) H hn0 Tryz.underlying27 ti44 rfl rfl (by kernel_rfl) (.nil) rfl) ?_
     rintro _ σq ⟨b3x, rfl, H2, m2⟩
     exact ⟨_, (b3x, a6, c7, b9), rfl, rfl, ⟨H2.sel' [1, 0, 2, 3] rfl rfl, m.comp0 m2⟩, stab [1, 3, 4] (by kernel_rfl) ⟨rfl, rfl, rfl, trivial⟩⟩
    trivial) ?_
  refine ac rfl (by
    intro k; rintro ⟨b3, a6, c7, b9⟩ ρ σm hJ hoff hdep
    have e0 := look_off (N := 58) (hoff 0 rfl) rfl
    exact dp_v (v := (Sl Au As Av)) wn (rv_move e0) rfl hJ) ?_
  refine all_cons (by
    refine ⟨?_, ?_⟩
    ·rintro ⟨b3, a6, c7, b9⟩ ρ σm hJ hoff hdep
     have e10 := hdep 0 rfl rfl 10 rfl
     have e11 := hdep 1 rfl rfl 11 rfl
     obtain ⟨H, m⟩ := id hJ
     refine dp_ex wn (ex_append H (i := 0) rfl Tryz.underlying27 Tryz.underlying27 ti44 rfl rfl (by decide) ((H.ro 2 rfl).rd.sc) hx5 hn0 e10 e11) ?_
     rintro _ σq ⟨a6x, c7x, rfl, H2, m2⟩
     exact ⟨_, (b3, a6x, c7x, b9), rfl, rfl, ⟨H2.sel' [0, 1, 2] rfl rfl, m.comp m2⟩, stab [0, 1, 3, 4] (by kernel_rfl) ⟨rfl, rfl, rfl, rfl, trivial⟩⟩
    refine ⟨?_, ?_⟩
    ·rintro ⟨b3, a6, c7, b9⟩ ρ σm hJ hoff hdep
     have e10 := hdep 0 rfl rfl 10 rfl
     have e11 := hdep 1 rfl rfl 11 rfl
     obtain ⟨H, m⟩ := id hJ
     refine dp_ex wn (ex_append H (i := 1) rfl Tryz.underlying27 Tryz.underlying27 ti44 rfl rfl (by decide) ((H.ro 3 rfl).rd.sc) hx5 hn0 e10 e11) ?_
     rintro _ σq ⟨a6x, c7x, rfl, H2, m2⟩
     exact ⟨_, (b3, a6x, c7x, b9), rfl, rfl, ⟨H2.sel' [1, 0, 2, 3] rfl rfl, m.comp m2⟩, stab [0, 1, 3, 4] (by kernel_rfl) ⟨rfl, rfl, rfl, rfl, trivial⟩⟩
    trivial) ?_
  refine all_cons (by
    refine ⟨?_, ?_⟩
    ·rintro ⟨b3, a6, c7, b9⟩ ρ σm hJ hoff hdep
     have e4 := look_off (N := 58) (hoff 4 rfl) rfl
     obtain ⟨H, m⟩ := id hJ
     have hc8 := H.cells 0 rfl
     exact dp_v (v := (.agg #[(I Cq.1), (I Cq.2)])) wn (rv_load (cs := [(I Cq.1), (I Cq.2)]) Tryz.underlying44 rfl ti44 e4 rfl hc8) rfl hJ
    refine ⟨?_, ?_⟩
    ·rintro ⟨b3, a6, c7, b9⟩ ρ σm hJ hoff hdep
     have e4 := look_off (N := 58) (hoff 4 rfl) rfl
     obtain ⟨H, m⟩ := id hJ
     have hc8 := H.cells 1 rfl
     exact dp_v (v := (.agg #[(I Cq.1), (I Cq.2)])) wn (rv_load (cs := [(I Cq.1), (I Cq.2)]) Tryz.underlying44 rfl ti44 e4 rfl hc8) rfl hJ
    refine ⟨?_, ?_⟩
    ·rintro ⟨b3, a6, c7, b9⟩ ρ σm hJ hoff hdep
     have e4 := look_off (N := 58) (hoff 4 rfl) rfl
     obtain ⟨H, m⟩ := id hJ
     have hc8 := H.cells 1 rfl
     exact dp_v (v := (.agg #[(I Cq.1), (I Cq.2)])) wn (rv_load (cs := [(I Cq.1), (I Cq.2)]) Tryz.underlying44 rfl ti44 e4 rfl hc8) rfl hJ
    trivial) ?_
  refine all_cons (by
    refine ⟨?_, ?_⟩
    ·rintro ⟨b3, a6, c7, b9⟩ ρ σm hJ hoff hdep
     have e13 : look 58 ρ 13 = (.agg #[(I Cq.1), (I Cq.2)]) := hdep 3 rfl rfl 13 rfl
     obtain ⟨H, m⟩ := id hJ
     refine dp_ex wn (ex_buildSlice (el := n0) (xs := ([(Cq.1, Cq.2)] : List (Int × Int))) (ps := [(0, (.agg #[(I Cq.1), (I Cq.2)]))]) (cs := [(I Cq.1), (I Cq.2)]) H hn0 Tryz.underlying27 ti44 rfl (by show [(0, look 58 ρ 13)] = _; rw [e13]) (by kernel_rfl) (.cons (c := [(I Cq.1), (I Cq.2)]) ⟨[(I Cq.1)], [(I Cq.2)], rfl, rfl, rfl⟩ (.nil)) rfl) ?_
     rintro _ σq ⟨b9x, rfl, H2, m2⟩
     exact ⟨_, (b3, a6, c7, b9x), rfl, rfl, ⟨H2.sel' [0, 1, 2] rfl rfl, m.comp0 m2⟩, stab [0, 1, 2, 3] (by kernel_rfl) ⟨rfl, rfl, rfl, rfl, trivial⟩⟩
    refine ⟨?_, ?_⟩
    ·rintro ⟨b3, a6, c7, b9⟩ ρ σm hJ hoff hdep
     have e13 : look 58 ρ 13 = (.agg #[(I Cq.1), (I Cq.2)]) := hdep 3 rfl rfl 13 rfl
     obtain ⟨H, m⟩ := id hJ
     refine dp_ex wn (ex_buildSlice (el := n0) (xs := ([(Cq.1, Cq.2)] : List (Int × Int))) (ps := [(0, (.agg #[(I Cq.1), (I Cq.2)]))]) (cs := [(I Cq.1), (I Cq.2)]) H hn0 Tryz.underlying27 ti44 rfl (by show [(0, look 58 ρ 13)] = _; rw [e13]) (by kernel_rfl) (.cons (c := [(I Cq.1), (I Cq.2)]) ⟨[(I Cq.1)], [(I Cq.2)], rfl, rfl, rfl⟩ (.nil)) rfl) ?_
     rintro _ σq ⟨b9x, rfl, H2, m2⟩
     exact ⟨_, (b3, a6, c7, b9x), rfl, rfl, ⟨H2.sel' [0, 1, 2, 3] rfl rfl, m.comp0 m2⟩, stab [0, 1, 2, 3] (by kernel_rfl) ⟨rfl, rfl, rfl, rfl, trivial⟩⟩
    refine ⟨?_, ?_⟩
    ·rintro ⟨b3, a6, c7, b9⟩ ρ σm hJ hoff hdep
     have e13 : look 58 ρ 13 = (.agg #[(I Cq.1), (I Cq.2)]) := hdep 3 rfl rfl 13 rfl
     obtain ⟨H, m⟩ := id hJ
     refine dp_ex wn (ex_buildSlice (el := n0) (xs := ([(Cq.1, Cq.2)] : List (Int × Int))) (ps := [(0, (.agg #[(I Cq.1), (I Cq.2)]))]) (cs := [(I Cq.1), (I Cq.2)]) H hn0 Tryz.underlying27 ti44 rfl (by show [(0, look 58 ρ 13)] = _; rw [e13]) (by kernel_rfl) (.cons (c := [(I Cq.1), (I Cq.2)]) ⟨[(I Cq.1)], [(I Cq.2)], rfl, rfl, rfl⟩ (.nil)) rfl) ?_
     rintro _ σq ⟨b9x, rfl, H2, m2⟩
     exact ⟨_, (b3, a6, c7, b9x), rfl, rfl, ⟨H2.sel' [0, 1, 2, 3] rfl rfl, m.comp0 m2⟩, stab [0, 1, 2, 3] (by kernel_rfl) ⟨rfl, rfl, rfl, rfl, trivial⟩⟩
    trivial) ?_
  exact all_nil
 ·rintro ⟨b3, a6, c7, b9⟩ ρ σ10 hJ hoff hrel
  have e2 := look_off (N := 58) (hoff 2 rfl) rfl
  have e12 := hrel 2 rfl 12 rfl
  have e14 := hrel 4 rfl 14 rfl
  obtain ⟨H, -⟩ := (show Hp S0 σ0 σ10 [Ch.own n0 n0 (Sl (some ⟨b9, 0, none⟩) ([(Cq.1, Cq.2)] : List (Int × Int)) 1) ([(Cq.1, Cq.2)] : List (Int × Int)), Ch.own n0 n0 (Sl a6 xs4 c7) xs4, Ch.bx n0 b1 0 [(I Cq.1), (I Cq.2)] [] [], Ch.ro 0 (Sl Au As Av) As] ∧ Md (fun i => (cov []) i ∨ (fun b => blk (Sl (some ⟨b3, 0, none⟩) ([] : List (Int × Int)) 0) = some b) i) σ2 σ10 from hJ)
  clear hJ Hs
  rw [fr_lookL (L := [(2, (I Ge)), (12, (Sl a6 xs4 c7)), (14, (Sl (some ⟨b9, 0, none⟩) ([(Cq.1, Cq.2)] : List (Int × Int)) 1))]) ⟨e2, e12, e14, trivial⟩]
  clear hoff hrel e2 e12 e14
  revert h; refine br fun xs11 hx12 h => ?_
  refine st_ex (ex_append H (i := 1) rfl Tryz.underlying27 Tryz.underlying27 ti44 rfl rfl (by decide) (H.own 0 rfl).rd hx12 hn0 rfl rfl) wn ?_
  rintro _ σ15 ⟨a13, c14, rfl, H, -⟩
  refine sa (Sl a13 xs11 c14) rfl (w_end (q_then (c_seq (c_seq (rg (sm (Sl a13 xs11 c14) rfl (st (v := (I (xs11.length : Int))) (rv_len Tryz.underlying27 rfl) (st (v := (I (w64 ((xs11.length : Int) - 1)))) (rv_sub (a := (xs11.length : Int)) (b := 1) rfl rfl) (sa (I (w64 ((xs11.length : Int) - 1))) rfl (w_end (q_then ?_)))))))))))
  obtain ⟨o16, hj, h'⟩ := bind_some h
  clear h
  refine c_cut (fun e a w => e = .normal ∧ ∃ (ρ : Nat → Value) (σ : St), a = fr 58 (updL ρ [(2, (I Ge)), (7, (Sl a13 o16 c14))]) ∧ w = σ.w ∧ Hp S0 σ0 σ [Ch.own n0 n0 (Sl a13 o16 c14) o16] ∧ o16.length = xs11.length) ?_ ?_
  ·clear h'
   rename _ = some o16 => h
   refine c_blk (wp_loopM _ h (fun s17 a w => ∃ (ρ : Nat → Value) (σ : St), a = fr 58 (updL ρ [(2, (I Ge)), (7, (Sl a13 s17.1 c14)), (8, (I s17.2))]) ∧ w = σ.w ∧ Hp S0 σ0 σ [Ch.own n0 n0 (Sl a13 s17.1 c14) s17.1] ∧ s17.1.length = xs11.length) ⟨_, σ15, fr_join ⟨rfl, rfl, rfl, trivial⟩, rfl, H.sel' [0] rfl rfl, rfl⟩ ?_)
   clear h H
   rintro s17 a w o ⟨ρ, σ18, rfl, rfl, H, hn19⟩ h hres
   refine c_seq (c_seq ?_)
   obtain ⟨o20, hj, h'⟩ := bind_some h
   clear h
   refine c_cut (fun e a w => e = .normal ∧ ∃ (ρ : Nat → Value) (σ : St), a = fr 58 (updL ρ [(2, (I Ge)), (7, (Sl a13 s17.1 c14)), (8, (I s17.2)), (32, (B o20))]) ∧ w = σ.w ∧ Hp S0 σ0 σ [Ch.own n0 n0 (Sl a13 s17.1 c14) s17.1]) ?_ ?_
   ·clear h'
    rename _ = some o20 => h
    refine rgP (σ := σ18) 12 (by kernel_rfl) (by kernel_rfl) (by kernel_rfl) ?_
    refine sq (v := (I s17.2)) (rv_move rfl) (sq (v := (B (decide (0 < s17.2)))) (rv_gtr (a := s17.2) (b := 0) rfl rfl) (sq (v := (B (decide (0 < s17.2)))) (rv_move rfl) ?_))
    rcases Bool.eq_false_or_eq_true (decide (0 < s17.2)) with hb21 | hb21
    ·replace h := bif_t hb21 h
     refine sq_g (v := (Sl a13 s17.1 c14)) (congrArg some hb21) (rv_move rfl) (sq_g (v := (I s17.2)) (congrArg some hb21) (rv_move rfl) ?_)
     revert h; refine br fun x22 hx23 h => ?_
     obtain ⟨b25, o26, hi24, -⟩ := (H.own 0 rfl).ix hx23
     refine sq_g (v := (pt b25 o26)) (congrArg some hb21) (rv_ix Tryz.underlying27 ti44 rfl rfl hi24) ?_
     obtain ⟨_, ⟨_, _, rfl, rfl, rfl⟩, hl27, hc28⟩ := ((H.own 0 rfl).at hx23 hi24).cells
     refine sq_g (v := (.agg #[(I x22.1), (I x22.2)])) (congrArg some hb21) (rv_load Tryz.underlying44 rfl ti44 rfl hl27 hc28) (sq_g (v := (Sl a13 s17.1 c14)) (congrArg some hb21) (rv_move rfl) (sq_g (v := (I s17.2)) (congrArg some hb21) (rv_move rfl) (sq_g (v := (I (w64 (s17.2 - 1)))) (congrArg some hb21) (rv_sub (a := s17.2) (b := 1) rfl rfl) ?_)))
     revert h; refine br fun x29 hx30 h => ?_
     obtain ⟨b32, o33, hi31, -⟩ := (H.own 0 rfl).ix hx30
     refine sq_g (v := (pt b32 o33)) (congrArg some hb21) (rv_ix Tryz.underlying27 ti44 rfl rfl hi31) ?_
     obtain ⟨_, ⟨_, _, rfl, rfl, rfl⟩, hl34, hc35⟩ := ((H.own 0 rfl).at hx30 hi31).cells
     refine sq_g (v := (.agg #[(I x29.1), (I x29.2)])) (congrArg some hb21) (rv_load Tryz.underlying44 rfl ti44 rfl hl34 hc35) (sq_end ?_)
     intro σ36 hm37
     replace H := H.grow (hm37.mono fun _ h => h); clear hm37
     revert h; refine br fun r38 hx39 h => ?_
     have hc40 := c_spec_nearer hx39
     refine st_call (cx_call hc40 (ent_f hc40.fn rfl) hn0 (H.sel' [0] rfl rfl : Hp S0 σ0 _ ([] ++ _))) (wanted_yes rfl (by exact (congrArg some hb21))) ?_
     rintro _ σ41 ⟨_, ⟨rfl, rfl⟩, H, -⟩
     replace H : Hp _ _ _ [_] := H
     refine st (v := (B r38)) (rv_pick_t (congrArg B hb21) rfl) (w_end ?_)
     obtain rfl := sj h
     exact ⟨rfl, _, σ41, fr_join ⟨rfl, rfl, rfl, rfl, trivial⟩, rfl, H.sel' [0] rfl rfl⟩
    ·replace h := bif_f hb21 h
     refine sq_skip (congrArg some hb21) (sq_skip (congrArg some hb21) (sq_skip (congrArg some hb21) (sq_skip (congrArg some hb21) (sq_skip (congrArg some hb21) (sq_skip (congrArg some hb21) (sq_skip (congrArg some hb21) (sq_skip (congrArg some hb21) (sq_skip (congrArg some hb21) (sq_end ?_)))))))))
     intro σ42 hm43
     replace H := H.grow (hm43.mono fun _ h => h); clear hm43
     refine st_skip (congrArg some hb21) (st (v := (B false)) (rv_pick_f (congrArg B hb21) rfl) (w_end ?_))
     obtain rfl := sj h
     exact ⟨rfl, _, σ42, fr_join ⟨rfl, rfl, rfl, rfl, trivial⟩, rfl, H.sel' [0] rfl rfl⟩
   ·clear hj
    have h := h'
    clear h' H
    rintro e a w ⟨rfl, ρ, σ44, rfl, rfl, H⟩
    refine q_then ?_
    refine cd_cond o20 rfl (fun hb45 => ?_) (fun hb45 => ?_)
    ·replace h := bif_t hb45 h
     refine c_skip (q_then (c_seq (c_blk (c_seq (rg (sm (Sl a13 s17.1 c14) rfl (sm (I s17.2) rfl ?_)))))))
     revert h; refine br fun x46 hx47 h => ?_
     obtain ⟨b49, o50, hi48, -⟩ := (H.own 0 rfl).ix hx47
     refine st (v := (pt b49 o50)) (rv_ix Tryz.underlying27 ti44 rfl rfl hi48) ?_
     obtain ⟨_, ⟨_, _, rfl, rfl, rfl⟩, hl51, hc52⟩ := ((H.own 0 rfl).at hx47 hi48).cells
     refine st (v := (.agg #[(I x46.1), (I x46.2)])) (rv_load Tryz.underlying44 rfl ti44 rfl hl51 hc52) (st_ex (ex_alloc (cs := [(I 0), (I 0)]) H hn0 ti44 rfl) wn ?_)
     rintro _ σ54 ⟨b53, rfl, H, -⟩
     refine st_exS (ex_store_box (k := 0) (cs := [(I 0), (I 0)]) (vs := [(I x46.1), (I x46.2)]) (cs' := [(I x46.1), (I x46.2)]) H (i := 0) rfl ti44 rfl rfl rfl rfl rfl (Nat.le_of_ble_eq_true rfl) (by simp [plain]) rfl) wn ?_
     rintro σ55 ⟨H, -⟩
     refine w_end (q_then (c_seq (rg (sm (Sl a13 s17.1 c14) rfl (sm (I s17.2) rfl (sm (Sl a13 s17.1 c14) rfl (sm (I s17.2) rfl (st (v := (I (w64 (s17.2 - 1)))) (rv_sub (a := s17.2) (b := 1) rfl rfl) ?_))))))))
     revert h; refine br fun x56 hx57 h => ?_
     obtain ⟨b59, o60, hi58, -⟩ := (H.own 1 rfl).ix hx57
     refine st (v := (pt b59 o60)) (rv_ix Tryz.underlying27 ti44 rfl rfl hi58) ?_
     obtain ⟨_, ⟨_, _, rfl, rfl, rfl⟩, hl61, hc62⟩ := ((H.own 1 rfl).at hx57 hi58).cells
     refine st (v := (.agg #[(I x56.1), (I x56.2)])) (rv_load Tryz.underlying44 rfl ti44 rfl hl61 hc62) ?_
     revert h; refine br fun x63 hx64 h => ?_
     obtain ⟨b66, o67, hi65, -⟩ := (H.own 1 rfl).ix hx64
     refine st (v := (pt b66 o67)) (rv_ix Tryz.underlying27 ti44 rfl rfl hi65) ?_
     refine st_exS (ex_store_own (e' := (x56.1, x56.2)) (vs := [(I x56.1), (I x56.2)]) (k := 0) H (i := 1) rfl ti44 hx64 hi65 rfl rfl rfl rfl rfl (Nat.le_of_ble_eq_true rfl) (by simp [plain]) (by rintro _ ⟨_, _, rfl, rfl, rfl⟩; exact ⟨[(I x56.1)], [(I x56.2)], rfl, rfl, rfl⟩)) wn ?_
     rintro σ68 ⟨H, -⟩
     have hsl : (Sl a13 s17.1 c14) = (Sl a13 (s17.1.set s17.2.toNat (x56.1, x56.2)) c14) := sl_len List.length_set.symm
     rw [hsl]; rw [hsl] at H; clear hsl
     refine w_end (q_then (rg (sm (Sl a13 (s17.1.set s17.2.toNat (x56.1, x56.2)) c14) rfl (sm (I s17.2) rfl (st (v := (I (w64 (s17.2 - 1)))) (rv_sub (a := s17.2) (b := 1) rfl rfl) ?_)))))
     have hc69 := H.cells 1 rfl
     refine st (v := (.agg #[(I x46.1), (I x46.2)])) (rv_load (cs := [(I x46.1), (I x46.2)]) Tryz.underlying44 rfl ti44 rfl rfl hc69) ?_
     revert h; refine br fun x70 hx71 h => ?_
     obtain ⟨b73, o74, hi72, -⟩ := (H.own 0 rfl).ix hx71
     refine st (v := (pt b73 o74)) (rv_ix Tryz.underlying27 ti44 rfl rfl hi72) ?_
     refine st_exS (ex_store_own (e' := (x46.1, x46.2)) (vs := [(I x46.1), (I x46.2)]) (k := 0) H (i := 0) rfl ti44 hx71 hi72 rfl rfl rfl rfl rfl (Nat.le_of_ble_eq_true rfl) (by simp [plain]) (by rintro _ ⟨_, _, rfl, rfl, rfl⟩; exact ⟨[(I x46.1)], [(I x46.2)], rfl, rfl, rfl⟩)) wn ?_
     rintro σ75 ⟨H, -⟩
     have hsl : (Sl a13 (s17.1.set s17.2.toNat (x56.1, x56.2)) c14) = (Sl a13 ((s17.1.set s17.2.toNat (x56.1, x56.2)).set (w64 (s17.2 - 1)).toNat (x46.1, x46.2)) c14) := sl_len List.length_set.symm
     rw [hsl]; rw [hsl] at H; clear hsl
     refine w_end (q_blk (q_then (rg (sm (I s17.2) rfl (st (v := (I (w64 (s17.2 - 1)))) (rv_sub (a := s17.2) (b := 1) rfl rfl) (sa (I (w64 (s17.2 - 1))) rfl (w_end (q_then ?_))))))))
     obtain rfl := sj h
     exact ⟨_, rfl, _, σ75, fr_join ⟨rfl, rfl, rfl, trivial⟩, rfl, H.sel' [0] rfl rfl, (List.length_set.trans (List.length_set.trans hn19))⟩
    ·replace h := bif_f hb45 h
     refine c_exit (q_then_x (q_then_x (q_blk_hit ?_)))
     obtain rfl := sj h
     obtain rfl := hres _ rfl
     exact ⟨rfl, _, σ44, fr_join ⟨rfl, rfl, trivial⟩, rfl, H.sel' [0] rfl rfl, hn19⟩
  ·clear hj
   have h := h'
   clear h' H
   rintro e a w ⟨rfl, ρ, σ76, rfl, rfl, H, hn77⟩
   refine q_then (c_seq (rg (sm (Sl a13 o16 c14) rfl (sm (I Ge) rfl (sm (Sl a13 o16 c14) rfl (st (v := (I (o16.length : Int))) (rv_len Tryz.underlying27 rfl) (st (v := (I (min Ge (o16.length : Int)))) (rv_min rfl rfl) ?_)))))))
   revert h; refine br fun xs78 hx79 h => ?_
   obtain ⟨a80, c81, hs82, hR83, hb84⟩ := (H.own 0 rfl).slice hx79
   replace H := (H.front (i := 0) rfl).turn (d := Ch.own n0 n0 (Sl a80 xs78 c81) xs78) (fun _ => hR83) hb84; clear hR83 hb84
   refine st (v := (Sl a80 xs78 c81)) (rv_slice_h Tryz.underlying27 ti44 hs82 rfl rfl) (sa (Sl a80 xs78 c81) rfl (w_end (q_then (c_ret ?_))))
   obtain rfl := sj h
   exact fin_ret (v := (Sl a80 xs78 c81)) (results_ok Tryz.results70 (res_tmp (v := (Sl a80 xs78 c81)) rfl res_nil) rfl) ⟨a80, c81, rfl, rfl⟩ (H.sel' [0] rfl rfl)

theorem c_spec_size {Ax : Int}  {r : Int} (h : M.spec_size Ax = some r) :
    Cal2 Tryz.prog 116 [(I Ax)] [] (fun n0 v L => v = (I r) ∧ L = []) := by
 refine cal2 (n := 7) Tryz.func116 rfl rfl rfl rfl ?_
 intro S0 σ0 n0 hn0 H
 unfold M.spec_size at h
 refine c_seq (rg (sa (I 0) rfl (w_end (q_then (c_seq (rg (sm (I Ax) rfl (sm (I Ax) rfl (st (v := (I (w64 (0 - Ax)))) (rv_neg (a := Ax) rfl) (st (v := (I (max Ax (w64 (0 - Ax))))) (rv_max rfl rfl) (sa (I (max Ax (w64 (0 - Ax)))) rfl ?_)))))))))))
 refine w_end (q_then (c_ret ?_))
 obtain rfl := sj h
 exact fin_ret (v := (I (max Ax (w64 (0 - Ax))))) (results_ok Tryz.results116 (res_tmp (v := (I (max Ax (w64 (0 - Ax))))) rfl res_nil) rfl) ⟨rfl, rfl⟩ (H.sel' [] rfl rfl)

theorem c_spec_toInt {Gf : Bool}  {r : Int} (h : M.spec_toInt Gf = some r) :
    Cal2 Tryz.prog 117 [(B Gf)] [] (fun n0 v L => v = (I r) ∧ L = []) := by
 refine cal2 (n := 4) Tryz.func117 rfl rfl rfl rfl ?_
 intro S0 σ0 n0 hn0 H
 unfold M.spec_toInt at h
 refine c_seq (rg (sa (I 0) rfl (w_end (q_then (c_seq (c_seq (rg (sm (B Gf) rfl (w_end (q_then ?_))))))))))
 refine cd_cond Gf rfl (fun hb1 => ?_) (fun hb1 => ?_)
 ·replace h := bif_t hb1 h
  refine c_seq (rg (sa (I 1) rfl (w_end (q_then (c_ret (q_then_r ?_))))))
  obtain rfl := sj h
  exact fin_ret (v := (I 1)) (results_ok Tryz.results117 (res_tmp (v := (I 1)) rfl res_nil) rfl) ⟨rfl, rfl⟩ (H.sel' [] rfl rfl)
 ·replace h := bif_f hb1 h
  refine c_skip (q_then (c_seq (rg (sa (I 0) rfl (w_end (q_then (c_ret ?_)))))))
  obtain rfl := sj h
  exact fin_ret (v := (I 0)) (results_ok Tryz.results117 (res_tmp (v := (I 0)) rfl res_nil) rfl) ⟨rfl, rfl⟩ (H.sel' [] rfl rfl)

theorem c_spec_dist {Bp : Int} {Eb : List Int} {Ec : List Int} {Ed : Option Addr} {Ee : Nat} {Ef : Option Addr} {Eg : Nat} {r : Int} (h : M.spec_dist Bp Eb Ec = some r) :
    Cal2 Tryz.prog 71 [(I Bp), (Sl Ed Eb Ee), (Sl Ef Ec Eg)] [Ch.ro 0 (Sl Ed Eb Ee) Eb, Ch.ro 0 (Sl Ef Ec Eg) Ec] (fun n0 v L => v = (I r) ∧ L = []) := by
 refine cal2 (n := 50) Tryz.func71 rfl rfl rfl rfl ?_
 intro S0 σ0 n0 hn0 H
 unfold M.spec_dist at h
 refine c_seq (rg (sa (I 0) rfl (w_end (q_then (c_seq (rg (sa (I 0) rfl (w_end (q_then (c_seq (c_seq ?_)))))))))))
 refine rg (sa (I 0) rfl (w_end (q_then ?_)))
 obtain ⟨o1, hj, h'⟩ := bind_some h
 clear h
 refine c_cut (fun e a w => e = .normal ∧ ∃ (ρ : Nat → Value) (σ : St), a = fr 50 (updL ρ [(7, (I o1))]) ∧ w = σ.w ∧ Hp S0 σ0 σ []) ?_ ?_
 ·clear h'
  rename _ = some o1 => h
  refine c_blk (wp_loopM _ h (fun s2 a w => ∃ (ρ : Nat → Value) (σ : St), a = fr 50 (updL ρ [(0, (I Bp)), (1, (Sl Ed Eb Ee)), (2, (Sl Ef Ec Eg)), (7, (I s2.1)), (8, (I s2.2))]) ∧ w = σ.w ∧ Hp S0 σ0 σ [Ch.ro 0 (Sl Ed Eb Ee) Eb, Ch.ro 0 (Sl Ef Ec Eg) Ec]) ⟨_, σ0, fr_join ⟨rfl, rfl, rfl, rfl, rfl, trivial⟩, rfl, H.sel' [0, 1] rfl rfl⟩ ?_)
  clear h H
  rintro s2 a w o ⟨ρ, σ3, rfl, rfl, H⟩ h hres
  refine c_seq (c_seq (rg (sm (I s2.2) rfl (sm (Sl Ed Eb Ee) rfl (st (v := (I (Eb.length : Int))) (rv_len Tryz.underlying24 rfl) (st (v := (B (decide (s2.2 < (Eb.length : Int))))) (rv_lss (a := s2.2) (b := (Eb.length : Int)) rfl rfl) (w_end (q_then ?_))))))))
  refine cd_cond (decide (s2.2 < (Eb.length : Int))) rfl (fun hb4 => ?_) (fun hb4 => ?_)
  ·replace h := bif_t hb4 h
   refine c_skip (q_then (c_seq ?_))
   obtain ⟨o5, hj, h'⟩ := bind_some h
   clear h
   refine c_cut (fun e a w => e = .normal ∧ ∃ (ρ : Nat → Value) (σ : St), a = fr 50 (updL ρ [(0, (I Bp)), (1, (Sl Ed Eb Ee)), (2, (Sl Ef Ec Eg)), (7, (I o5)), (8, (I s2.2))]) ∧ w = σ.w ∧ Hp S0 σ0 σ [Ch.ro 0 (Sl Ed Eb Ee) Eb, Ch.ro 0 (Sl Ef Ec Eg) Ec]) ?_ ?_
   ·clear h'
    rename _ = some o5 => h
    refine c_blk (c_seq ?_)
    refine rgP (σ := σ3) 8 (by kernel_rfl) (by kernel_rfl) (by kernel_rfl) ?_
    refine sq (v := (Sl Ed Eb Ee)) (rv_move rfl) (sq (v := (I s2.2)) (rv_move rfl) ?_)
    revert h; refine br fun x6 hx7 h => ?_
    obtain ⟨b9, o10, hi8, -⟩ := (H.ro 0 rfl).ix hx7
    refine sq (v := (pt b9 o10)) (rv_ix Tryz.underlying24 ti3 rfl rfl hi8) ?_
    have hc11 := ((H.ro 0 rfl).at hx7 hi8).int
    refine sq (v := (I x6)) (rv_load1 Tryz.underlying3 rfl rfl hc11) (sq (v := (Sl Ef Ec Eg)) (rv_move rfl) (sq (v := (I s2.2)) (rv_move rfl) ?_))
    revert h; refine br fun x12 hx13 h => ?_
    obtain ⟨b15, o16, hi14, -⟩ := (H.ro 1 rfl).ix hx13
    refine sq (v := (pt b15 o16)) (rv_ix Tryz.underlying24 ti3 rfl rfl hi14) ?_
    have hc17 := ((H.ro 1 rfl).at hx13 hi14).int
    refine sq (v := (I x12)) (rv_load1 Tryz.underlying3 rfl rfl hc17) (sq_end ?_)
    intro σ18 hm19
    replace H := H.grow (hm19.mono fun _ h => h); clear hm19
    refine st (v := (I (w64 (x6 - x12)))) (rv_sub (a := x6) (b := x12) rfl rfl) ?_
    revert h; refine br fun r20 hx21 h => ?_
    have hc22 := c_spec_size hx21
    refine st_call (cx_call hc22 (ent_f hc22.fn rfl) hn0 (H.sel' [0, 1] rfl rfl : Hp S0 σ0 _ ([] ++ _))) wn ?_
    rintro _ σ23 ⟨_, ⟨rfl, rfl⟩, H, -⟩
    replace H : Hp _ _ _ [_, _] := H
    refine sa (I r20) rfl (w_end (q_then (c_seq (rg (sm (I Bp) rfl (w_end (q_then (c_blk (c_seq (rg (st (v := (B (Bp == 1))) (rv_eql (a := Bp) (b := 1) rfl rfl) ?_)))))))))))
    refine sa (B (Bp == 1)) rfl (w_end (q_then ?_))
    refine cd_cond (Bp == 1) rfl (fun hb24 => ?_) (fun hb24 => ?_)
    ·replace h := bif_t hb24 h
     refine rg (sm (I s2.1) rfl (sm (I r20) rfl (st (v := (I (w64 (s2.1 + r20)))) (rv_add (a := s2.1) (b := r20) rfl rfl) (sa (I (w64 (s2.1 + r20))) rfl (w_end (q_blk (q_blk ?_)))))))
     obtain rfl := sj h
     exact ⟨rfl, _, σ23, fr_join ⟨rfl, rfl, rfl, rfl, rfl, trivial⟩, rfl, H.sel' [0, 1] rfl rfl⟩
    ·replace h := bif_f hb24 h
     refine c_seq (rg (st (v := (B (Bp == 2))) (rv_eql (a := Bp) (b := 2) rfl rfl) (sa (B (Bp == 2)) rfl (w_end (q_then ?_)))))
     refine cd_cond (Bp == 2) rfl (fun hb25 => ?_) (fun hb25 => ?_)
     ·replace h := bif_t hb25 h
      refine rg (sm (I s2.1) rfl (sm (I r20) rfl (st (v := (I (max s2.1 r20))) (rv_max rfl rfl) (sa (I (max s2.1 r20)) rfl (w_end (q_blk (q_blk ?_)))))))
      obtain rfl := sj h
      exact ⟨rfl, _, σ23, fr_join ⟨rfl, rfl, rfl, rfl, rfl, trivial⟩, rfl, H.sel' [0, 1] rfl rfl⟩
     ·replace h := bif_f hb25 h
      refine c_seq (rg (st (v := (B (Bp == 3))) (rv_eql (a := Bp) (b := 3) rfl rfl) (sa (B (Bp == 3)) rfl (w_end (q_then ?_)))))
      refine cd_cond (Bp == 3) rfl (fun hb26 => ?_) (fun hb26 => ?_)
      ·replace h := bif_t hb26 h
       refine rg (sm (I s2.1) rfl (sm (I r20) rfl (sm (I r20) rfl (st (v := (I (w64 (r20 * r20)))) (rv_mul (a := r20) (b := r20) rfl rfl) (st (v := (I (w64 (s2.1 + (w64 (r20 * r20)))))) (rv_add (a := s2.1) (b := (w64 (r20 * r20))) rfl rfl) (sa (I (w64 (s2.1 + (w64 (r20 * r20))))) rfl (w_end (q_blk (q_blk ?_)))))))))
       obtain rfl := sj h
       exact ⟨rfl, _, σ23, fr_join ⟨rfl, rfl, rfl, rfl, rfl, trivial⟩, rfl, H.sel' [0, 1] rfl rfl⟩
      ·replace h := bif_f hb26 h
       refine rg (sm (I s2.1) rfl (sm (I r20) rfl (st (v := (B (decide (0 < r20)))) (rv_gtr (a := r20) (b := 0) rfl rfl) ?_)))
       revert h; refine br fun r27 hx28 h => ?_
       have hc29 := c_spec_toInt hx28
       refine st_call (cx_call hc29 (ent_f hc29.fn rfl) hn0 (H.sel' [0, 1] rfl rfl : Hp S0 σ0 _ ([] ++ _))) wn ?_
       rintro _ σ30 ⟨_, ⟨rfl, rfl⟩, H, -⟩
       replace H : Hp _ _ _ [_, _] := H
       refine st (v := (I (w64 (s2.1 + r27)))) (rv_add (a := s2.1) (b := r27) rfl rfl) (sa (I (w64 (s2.1 + r27))) rfl (w_end (q_blk (q_blk ?_))))
       obtain rfl := sj h
       exact ⟨rfl, _, σ30, fr_join ⟨rfl, rfl, rfl, rfl, rfl, trivial⟩, rfl, H.sel' [0, 1] rfl rfl⟩
   ·clear hj
    have h := h'
    clear h' H
    rintro e a w ⟨rfl, ρ, σ31, rfl, rfl, H⟩
    refine q_then (rg (sm (I s2.2) rfl (st (v := (I (w64 (s2.2 + 1)))) (rv_add (a := s2.2) (b := 1) rfl rfl) (sa (I (w64 (s2.2 + 1))) rfl (w_end (q_then ?_))))))
    obtain rfl := sj h
    exact ⟨_, rfl, _, σ31, fr_join ⟨rfl, rfl, rfl, rfl, rfl, trivial⟩, rfl, H.sel' [0, 1] rfl rfl⟩
  ·replace h := bif_f hb4 h
   refine c_exit (q_then_x (q_then_x (q_blk_hit ?_)))
   obtain rfl := sj h
   obtain rfl := hres _ rfl
   exact ⟨rfl, _, σ3, fr_join ⟨rfl, trivial⟩, rfl, H.sel' [] rfl rfl⟩
 ·clear hj
  have h := h'
  clear h' H
  rintro e a w ⟨rfl, ρ, σ32, rfl, rfl, H⟩
  refine q_then (c_seq (rg (sm (I o1) rfl (sa (I o1) rfl (w_end (q_then (c_ret ?_)))))))
  obtain rfl := sj h
  exact fin_ret (v := (I o1)) (results_ok Tryz.results71 (res_tmp (v := (I o1)) rfl res_nil) rfl) ⟨rfl, rfl⟩ (H.sel' [] rfl rfl)

theorem c_spec_nearest {As : List (Int × (List Int) × Int)} {Bq : Int} {Br : List Int} {Bs : Int} {Au : Option Addr} {Av : Nat} {Bt : Option Addr} {Bu : Nat} {r : (List (Int × Int))} (h : M.spec_nearest As Bq Br Bs = some r) :
    Cal2 Tryz.prog 41 [(Sl Au As Av), (I Bq), (Sl Bt Br Bu), (I Bs)] [Ch.ro 0 (Sl Au As Av) As, Ch.ro 0 (Sl Bt Br Bu) Br] (fun n0 v L => ∃ (az1 : Option Addr), ∃ (cz2 : Nat), v = (Sl az1 r cz2) ∧ L = [Ch.own n0 n0 (Sl az1 r cz2) r]) := by
 refine cal2 (n := 36) Tryz.func41 rfl rfl rfl rfl ?_
 intro S0 σ0 n0 hn0 H
 unfold M.spec_nearest at h
 refine c_seq (rg (sa (.slice none 0 0) rfl (w_end (q_then (c_seq (rg ?_))))))
 refine st_ex (ex_buildSlice (el := n0) (xs := ([] : List (Int × Int))) (ps := []) (cs := []) H hn0 Tryz.underlying27 ti44 rfl rfl (by kernel_rfl) (.nil) rfl) wn ?_
 rintro _ σ2 ⟨b1, rfl, H, -⟩
 refine sa (Sl (some ⟨b1, 0, none⟩) ([] : List (Int × Int)) 0) rfl (w_end (q_then (c_seq (c_seq (rg (sa (I 0) rfl (w_end (q_then ?_))))))))
 obtain ⟨o3, hj, h'⟩ := bind_some h
 clear h
 refine c_cut (fun e a w => e = .normal ∧ ∃ (ρ : Nat → Value) (σ : St) (aj1 : Option Addr) (cj2 : Nat), a = fr 36 (updL ρ [(9, (Sl aj1 o3 cj2))]) ∧ w = σ.w ∧ Hp S0 σ0 σ [Ch.own n0 n0 (Sl aj1 o3 cj2) o3]) ?_ ?_
 ·clear h'
  rename _ = some o3 => h
  refine c_blk (wp_loopM _ h (fun s4 a w => ∃ (ρ : Nat → Value) (σ : St) (aj1 : Option Addr) (cj2 : Nat), a = fr 36 (updL ρ [(0, (Sl Au As Av)), (1, (I Bq)), (2, (Sl Bt Br Bu)), (3, (I Bs)), (9, (Sl aj1 s4.1 cj2)), (10, (I s4.2))]) ∧ w = σ.w ∧ Hp S0 σ0 σ [Ch.ro 0 (Sl Au As Av) As, Ch.ro 0 (Sl Bt Br Bu) Br, Ch.own n0 n0 (Sl aj1 s4.1 cj2) s4.1]) ⟨_, σ2, (some ⟨b1, 0, none⟩), 0, fr_join ⟨rfl, rfl, rfl, rfl, rfl, rfl, trivial⟩, rfl, H.sel' [1, 2, 0] rfl rfl⟩ ?_)
  clear h H
  rintro s4 a w o ⟨ρ, σ5, a6, c7, rfl, rfl, H⟩ h hres
  refine c_seq (c_seq (rg (sm (I s4.2) rfl (sm (Sl Au As Av) rfl (st (v := (I (As.length : Int))) (rv_len Tryz.underlying23 rfl) (st (v := (B (decide (s4.2 < (As.length : Int))))) (rv_lss (a := s4.2) (b := (As.length : Int)) rfl rfl) (w_end (q_then ?_))))))))
  refine cd_cond (decide (s4.2 < (As.length : Int))) rfl (fun hb8 => ?_) (fun hb8 => ?_)
  ·replace h := bif_t hb8 h
   refine c_skip (q_then (c_seq (c_blk ?_)))
   revert h; refine br fun x9 hx10 h => ?_
   obtain ⟨b12, o13, hi11, -⟩ := (H.ro 0 rfl).ix hx10
   have hc14 := ((H.ro 0 rfl).at hx10 hi11).fst.int
   revert h; refine br fun x15 hx16 h => ?_
   obtain ⟨b18, o19, hi17, -⟩ := (H.ro 0 rfl).ix hx16
   obtain ⟨v23, hc24, hR22⟩ := ((H.ro 0 rfl).at hx16 hi17).snd.fst.slice
   obtain ⟨a20, c21, rfl⟩ := hR22.isSl
   replace H := H.add (d := Ch.ro 0 (Sl a20 x15.2.1 c21) x15.2.1) hR22 (fun _ h => h)
   clear hR22
   revert h; refine br fun r25 hx26 h => ?_
   have hc27 := c_spec_dist (Ed := a20) (Ee := c21) (Ef := Bt) (Eg := Bu) hx26
   have Hs := H
   refine rg2 (σ := σ5) (Nm := Unit) 16 [13] [[false], [true]] [[(0, 0), (1, 1)], [(0, 0), (1, 1)], [(0, 0), (1, 1)], [(0, 0), (1, 1)], [(0, 0), (1, 1)], [(0, 0), (1, 1)], [(0, 0)], [(0, 0)], [(0, 0)], [(0, 0)], [(0, 0)], [(0, 0)], [(0, 0)], [(0, 1)], [(1, 1)], [(0, 0), (1, 1)]] 1 [fun _ => fun σm => Hp S0 σ0 σm [Ch.ro 0 (Sl a20 x15.2.1 c21) x15.2.1, Ch.ro 0 (Sl Au As Av) As, Ch.ro 0 (Sl Bt Br Bu) Br, Ch.own n0 n0 (Sl a6 s4.1 c7) s4.1] ∧ Md (cov []) σ5 σm, fun _ => fun σm => Hp S0 σ0 σm [Ch.ro 0 (Sl a20 x15.2.1 c21) x15.2.1, Ch.ro 0 (Sl Au As Av) As, Ch.ro 0 (Sl Bt Br Bu) Br, Ch.own n0 n0 (Sl a6 s4.1 c7) s4.1] ∧ Md (cov []) σ5 σm] [fun _ => (Sl a6 s4.1 c7), fun _ => (Sl Au As Av), fun _ => (I s4.2), fun _ => (pt b12 o13), fun _ => (pt b12 (o13 + 0)), fun _ => (I x9.1), fun _ => (I Bq), fun _ => (Sl Au As Av), fun _ => (I s4.2), fun _ => (pt b18 o19), fun _ => (pt b18 (o19 + 1)), fun _ => (Sl a20 x15.2.1 c21), fun _ => (Sl Bt Br Bu), fun _ => (I r25), fun _ => (.agg #[(I x9.1), (I r25)]), fun _ => (I Bs)] () (by kernel_rfl) (by kernel_rfl) ?_ ?_ ?_
   ·intro σm m0
    exact ⟨H.grow (m0.mono fun _ h => h.elim), m0⟩
   ·refine ac rfl (by
      intro k _nm ρ σm hJ hoff hdep
      have e9 := look_off (N := 36) (hoff 9 rfl) rfl
      exact dp_v (v := (Sl a6 s4.1 c7)) wn (rv_move e9) rfl hJ) ?_
    refine ac rfl (by
      intro k _nm ρ σm hJ hoff hdep
      have e0 := look_off (N := 36) (hoff 0 rfl) rfl
      exact dp_v (v := (Sl Au As Av)) wn (rv_move e0) rfl hJ) ?_
    refine ac rfl (by
      intro k _nm ρ σm hJ hoff hdep
      have e10 := look_off (N := 36) (hoff 10 rfl) rfl
      exact dp_v (v := (I s4.2)) wn (rv_move e10) rfl hJ) ?_
    refine ac rfl (by
      intro k _nm ρ σm hJ hoff hdep
      have e19 := hdep 1 rfl rfl 19 rfl
      have e20 := hdep 2 rfl rfl 20 rfl
      exact dp_v (v := (pt b12 o13)) wn (rv_ix Tryz.underlying23 ti33 e19 e20 hi11) rfl hJ) ?_
    refine ac rfl (by
      intro k _nm ρ σm hJ hoff hdep
      have e21 := hdep 3 rfl rfl 21 rfl
      exact dp_v (v := (pt b12 (o13 + 0))) wn (rv_fieldAddr (off := 0) (ft := 3) Tryz.underlying33 rfl ti3 rfl e21) rfl hJ) ?_
    refine all_cons (by
      refine ⟨?_, ?_⟩
      ·intro _nm ρ σm hJ hoff hdep
       have e22 := hdep 4 rfl rfl 22 rfl
       obtain ⟨H, m⟩ := id hJ
       replace hc14 := (Hs.ro 1 rfl).hmd hx10 hi11 (k := 0) (by decide) hc14 m
       exact dp_v (v := (I x9.1)) wn (rv_load1 Tryz.underlying3 rfl e22 hc14) rfl hJ
      refine ⟨?_, ?_⟩
      ·intro _nm ρ σm hJ hoff hdep
       have e22 := hdep 4 rfl rfl 22 rfl
       obtain ⟨H, m⟩ := id hJ
       replace hc14 := (Hs.ro 1 rfl).hmd hx10 hi11 (k := 0) (by decide) hc14 m
       exact dp_v (v := (I x9.1)) wn (rv_load1 Tryz.underlying3 rfl e22 hc14) rfl hJ
      trivial) ?_
    refine ac rfl (by
      intro k _nm ρ σm hJ hoff hdep
      have e1 := look_off (N := 36) (hoff 1 rfl) rfl
      exact dp_v (v := (I Bq)) wn (rv_move e1) rfl hJ) ?_
    refine ac rfl (by
      intro k _nm ρ σm hJ hoff hdep
      have e0 := look_off (N := 36) (hoff 0 rfl) rfl
      exact dp_v (v := (Sl Au As Av)) wn (rv_move e0) rfl hJ) ?_
    refine ac rfl (by
      intro k _nm ρ σm hJ hoff hdep
      have e10 := look_off (N := 36) (hoff 10 rfl) rfl
      exact dp_v (v := (I s4.2)) wn (rv_move e10) rfl hJ) ?_
    refine ac rfl (by
      intro k _nm ρ σm hJ hoff hdep
      have e25 := hdep 7 rfl rfl 25 rfl
      have e26 := hdep 8 rfl rfl 26 rfl
      exact dp_v (v := (pt b18 o19)) wn (rv_ix Tryz.underlying23 ti33 e25 e26 hi17) rfl hJ) ?_
    refine ac rfl (by
      intro k _nm ρ σm hJ hoff hdep
      have e27 := hdep 9 rfl rfl 27 rfl
      exact dp_v (v := (pt b18 (o19 + 1))) wn (rv_fieldAddr (off := 1) (ft := 24) Tryz.underlying33 rfl ti24 rfl e27) rfl hJ) ?_
    refine all_cons (by
      refine ⟨?_, ?_⟩
      ·intro _nm ρ σm hJ hoff hdep
       have e28 := hdep 10 rfl rfl 28 rfl
       obtain ⟨H, m⟩ := id hJ
       replace hc24 := (Hs.ro 1 rfl).hmd hx16 hi17 (k := 1) (by decide) hc24 m
       exact dp_v (v := (Sl a20 x15.2.1 c21)) wn (rv_load1 Tryz.underlying24 rfl e28 hc24) rfl hJ
      trivial) ?_
    refine ac rfl (by
      intro k _nm ρ σm hJ hoff hdep
      have e2 := look_off (N := 36) (hoff 2 rfl) rfl
      exact dp_v (v := (Sl Bt Br Bu)) wn (rv_move e2) rfl hJ) ?_
    refine all_cons (by
      refine ⟨?_, ?_⟩
      ·intro _nm ρ σm hJ hoff hdep
       have e24 : look 36 ρ 24 = (I Bq) := hdep 6 rfl rfl 24 rfl
       have e29 : look 36 ρ 29 = (Sl a20 x15.2.1 c21) := hdep 11 rfl rfl 29 rfl
       have e30 : look 36 ρ 30 = (Sl Bt Br Bu) := hdep 12 rfl rfl 30 rfl
       obtain ⟨H, m⟩ := id hJ
       refine dp_cx wn (cx_call hc27 (ent_f hc27.fn (by show [look 36 ρ 24, look 36 ρ 29, look 36 ρ 30] = _; rw [e24, e29, e30])) hn0 (H.sel' [0, 2, 0, 1, 2, 3] rfl rfl : Hp S0 σ0 _ ([_, _] ++ _))) ?_
       rintro _ σq ⟨_, ⟨rfl, rfl⟩, H2, m2⟩
       exact ⟨_, (), rfl, rfl, ⟨H2.sel' [0, 1, 2, 3] rfl rfl, m.comp0 (m2.mono (fun i h => by simp [cov, Ch.ro] at h))⟩, stab [0, 1, 2, 3, 4, 5, 6, 7, 8, 9, 10, 11, 12, 15] (by kernel_rfl) ⟨rfl, rfl, rfl, rfl, rfl, rfl, rfl, rfl, rfl, rfl, rfl, rfl, rfl, rfl, trivial⟩⟩
      trivial) ?_
    refine ac rfl (by
      intro k _nm ρ σm hJ hoff hdep
      have e23 : look 36 ρ 23 = (I x9.1) := hdep 5 rfl rfl 23 rfl
      have e31 : look 36 ρ 31 = (I r25) := hdep 13 rfl rfl 31 rfl
      exact dp_v (v := (.agg #[(I x9.1), (I r25)])) wn (rv_build (ps := [(0, (I x9.1)), (1, (I r25))]) Tryz.underlying44 ti44 (bp44 Tryz.underlying44) (by show [(0, look 36 ρ 23), (1, look 36 ρ 31)] = _; rw [e23, e31]) (by kernel_rfl)) rfl hJ) ?_
    refine ac rfl (by
      intro k _nm ρ σm hJ hoff hdep
      have e3 := look_off (N := 36) (hoff 3 rfl) rfl
      exact dp_v (v := (I Bs)) wn (rv_move e3) rfl hJ) ?_
    exact all_nil
   ·intro _nm ρ σ28 hJ hoff hrel
    have e0 := look_off (N := 36) (hoff 0 rfl) rfl
    have e1 := look_off (N := 36) (hoff 1 rfl) rfl
    have e2 := look_off (N := 36) (hoff 2 rfl) rfl
    have e3 := look_off (N := 36) (hoff 3 rfl) rfl
    have e10 := look_off (N := 36) (hoff 10 rfl) rfl
    have e18 := hrel 0 rfl 18 rfl
    have e32 := hrel 14 rfl 32 rfl
    have e33 := hrel 15 rfl 33 rfl
    obtain ⟨H, -⟩ := (show Hp S0 σ0 σ28 [Ch.ro 0 (Sl a20 x15.2.1 c21) x15.2.1, Ch.ro 0 (Sl Au As Av) As, Ch.ro 0 (Sl Bt Br Bu) Br, Ch.own n0 n0 (Sl a6 s4.1 c7) s4.1] ∧ Md (cov []) σ5 σ28 from hJ)
    clear hJ Hs
    rw [fr_lookL (L := [(0, (Sl Au As Av)), (1, (I Bq)), (2, (Sl Bt Br Bu)), (3, (I Bs)), (10, (I s4.2)), (18, (Sl a6 s4.1 c7)), (32, (.agg #[(I x9.1), (I r25)])), (33, (I Bs))]) ⟨e0, e1, e2, e3, e10, e18, e32, e33, trivial⟩]
    clear hoff hrel e0 e1 e2 e3 e10 e18 e32 e33
    obtain ⟨σ29, hw30, H, -⟩ := H.pub 3 rfl (Nat.le_refl _)
    rw [← hw30]; clear hw30
    replace H := H.roLow 0 0 rfl (Nat.zero_le _)
    revert h; refine br fun r31 hx32 h => ?_
    have hc33 := c_spec_addHit (Au := a6) (Av := c7) hx32
    refine st_call (cx_call hc33 (ent_f hc33.fn rfl) hn0 (H.sel' [0, 0, 1, 2, 3, 4] rfl rfl : Hp S0 σ0 _ ([_] ++ _))) wn ?_
    rintro _ σ36 ⟨_, ⟨a34, c35, rfl, rfl⟩, H, -⟩
    replace H : Hp _ _ _ [_, _, _, _, _, _] := H
    refine sa (Sl a34 r31 c35) rfl (w_end (q_blk (q_then (rg (sm (I s4.2) rfl (st (v := (I (w64 (s4.2 + 1)))) (rv_add (a := s4.2) (b := 1) rfl rfl) (sa (I (w64 (s4.2 + 1))) rfl (w_end (q_then ?_)))))))))
    obtain rfl := sj h
    exact ⟨_, rfl, _, σ36, a34, c35, fr_join ⟨rfl, rfl, rfl, rfl, rfl, rfl, trivial⟩, rfl, H.sel' [4, 5, 0] rfl rfl⟩
  ·replace h := bif_f hb8 h
   refine c_exit (q_then_x (q_then_x (q_blk_hit ?_)))
   obtain rfl := sj h
   obtain rfl := hres _ rfl
   exact ⟨rfl, _, σ5, a6, c7, fr_join ⟨rfl, trivial⟩, rfl, H.sel' [2] rfl rfl⟩
 ·clear hj
  have h := h'
  clear h' H
  rintro e a w ⟨rfl, ρ, σ37, a38, c39, rfl, rfl, H⟩
  refine q_then (c_seq (rg (sm (Sl a38 o3 c39) rfl (sa (Sl a38 o3 c39) rfl (w_end (q_then (c_ret ?_)))))))
  obtain rfl := sj h
  exact fin_ret (v := (Sl a38 o3 c39)) (results_ok Tryz.results41 (res_tmp (v := (Sl a38 o3 c39)) rfl res_nil) rfl) ⟨a38, c39, rfl, rfl⟩ (H.sel' [0] rfl rfl)

theorem c_spec_WithinDist {As : List (Int × (List Int) × Int)} {Bq : Int} {Br : List Int} {Fy : Int} {Au : Option Addr} {Av : Nat} {Bt : Option Addr} {Bu : Nat} {r : (List (Int × Int))} (h : M.spec_WithinDist As Bq Br Fy = some r) :
    Cal2 Tryz.prog 11 [(Sl Au As Av), (I Bq), (Sl Bt Br Bu), (I Fy)] [Ch.ro 0 (Sl Au As Av) As, Ch.ro 0 (Sl Bt Br Bu) Br] (fun n0 v L => ∃ (az1 : Option Addr), ∃ (cz2 : Nat), v = (Sl az1 r cz2) ∧ L = [Ch.own n0 n0 (Sl az1 r cz2) r]) := by
 refine cal2 (n := 47) Tryz.func11 rfl rfl rfl rfl ?_
 intro S0 σ0 n0 hn0 H
 unfold M.spec_WithinDist at h
 refine c_seq (rg (sa (.slice none 0 0) rfl (w_end (q_then (c_seq (rg ?_))))))
 refine st_ex (ex_buildSlice (el := n0) (xs := ([] : List (Int × Int))) (ps := []) (cs := []) H hn0 Tryz.underlying27 ti44 rfl rfl (by kernel_rfl) (.nil) rfl) wn ?_
 rintro _ σ2 ⟨b1, rfl, H, -⟩
 refine sa (Sl (some ⟨b1, 0, none⟩) ([] : List (Int × Int)) 0) rfl (w_end (q_then (c_seq (c_seq ?_))))
 obtain ⟨o3, hj, h'⟩ := bind_some h
 clear h
 refine c_cut (fun e a w => e = .normal ∧ ∃ (ρ : Nat → Value) (σ : St), a = fr 47 (updL ρ [(0, (Sl Au As Av)), (1, (I Bq)), (2, (Sl Bt Br Bu)), (3, (I Fy)), (9, (Sl (some ⟨b1, 0, none⟩) ([] : List (Int × Int)) 0)), (21, (B o3))]) ∧ w = σ.w ∧ Hp S0 σ0 σ [Ch.ro 0 (Sl Au As Av) As, Ch.ro 0 (Sl Bt Br Bu) Br, Ch.own n0 n0 (Sl (some ⟨b1, 0, none⟩) ([] : List (Int × Int)) 0) ([] : List (Int × Int))]) ?_ ?_
 ·clear h'
  rename _ = some o3 => h
  refine rg (sm (Sl Au As Av) rfl (sm (I Bq) rfl (sm (Sl Bt Br Bu) rfl ?_)))
  revert h; refine br fun r4 hx5 h => ?_
  have hc6 := c_spec_validQuery (Au := Au) (Av := Av) (Bt := Bt) (Bu := Bu) hx5
  refine st_call (cx_call hc6 (ent_f hc6.fn rfl) hn0 (H.sel' [1, 2, 0, 1, 2] rfl rfl : Hp S0 σ0 _ ([_, _] ++ _))) wn ?_
  rintro _ σ7 ⟨_, ⟨rfl, rfl⟩, H, -⟩
  replace H : Hp _ _ _ [_, _, _] := H
  refine st (v := (B (!r4))) (rv_not rfl) (sm (B (!r4)) rfl ?_)
  rcases Bool.eq_false_or_eq_true (!r4) with hb8 | hb8
  ·replace h := bif_t hb8 h
   refine st_skip (congrArg some hb8) (st_skip (congrArg some hb8) (st (v := (B true)) (rv_pick_t (congrArg B hb8) rfl) (w_end ?_)))
   obtain rfl := sj h
   exact ⟨rfl, _, σ7, fr_join ⟨rfl, rfl, rfl, rfl, rfl, rfl, trivial⟩, rfl, H.sel' [1, 2, 0] rfl rfl⟩
  ·replace h := bif_f hb8 h
   refine st_g (v := (I Fy)) (congrArg some hb8) (rv_move rfl) (st_g (v := (B (decide (Fy < 0)))) (congrArg some hb8) (rv_lss (a := Fy) (b := 0) rfl rfl) (st (v := (B (decide (Fy < 0)))) (rv_pick_f (congrArg B hb8) rfl) (w_end ?_)))
   obtain rfl := sj h
   exact ⟨rfl, _, σ7, fr_join ⟨rfl, rfl, rfl, rfl, rfl, rfl, trivial⟩, rfl, H.sel' [1, 2, 0] rfl rfl⟩
 ·clear hj
  have h := h'
  clear h' H
  rintro e a w ⟨rfl, ρ, σ9, rfl, rfl, H⟩
  refine q_then ?_
  refine cd_cond o3 rfl (fun hb10 => ?_) (fun hb10 => ?_)
  ·replace h := bif_t hb10 h
   refine c_seq (rg (sa (.slice none 0 0) rfl (w_end (q_then (c_ret (q_then_r ?_))))))
   replace H := H.nilOwn (Int × Int) n0 n0
   obtain rfl := sj h
   exact fin_ret (v := (.slice none 0 0)) (results_ok Tryz.results11 (res_tmp (v := (.slice none 0 0)) rfl res_nil) rfl) ⟨none, 0, rfl, rfl⟩ (H.sel' [0] rfl rfl)
  ·replace h := bif_f hb10 h
   refine c_skip (q_then (c_seq (rg (sm (Sl Au As Av) rfl (sm (I Bq) rfl (sm (Sl Bt Br Bu) rfl ?_))))))
   revert h; refine br fun r11 hx12 h => ?_
   have hc13 := c_spec_nearest (Au := Au) (Av := Av) (Bt := Bt) (Bu := Bu) hx12
   refine st_call (cx_call hc13 (ent_f hc13.fn rfl) hn0 (H.sel' [0, 1, 0, 1, 2] rfl rfl : Hp S0 σ0 _ ([_, _] ++ _))) wn ?_
   rintro _ σ16 ⟨_, ⟨a14, c15, rfl, rfl⟩, H, -⟩
   replace H : Hp _ _ _ [_, _, _, _] := H
   refine sa (Sl a14 r11 c15) rfl (w_end (q_then (c_seq (c_seq (rg (sa (I 0) rfl (w_end (q_then ?_))))))))
   obtain ⟨o17, hj, h'⟩ := bind_some h
   clear h
   refine c_cut (fun e a w => e = .normal ∧ ∃ (ρ : Nat → Value) (σ : St) (aj1 : Option Addr) (cj2 : Nat), a = fr 47 (updL ρ [(9, (Sl aj1 o17 cj2))]) ∧ w = σ.w ∧ Hp S0 σ0 σ [Ch.own n0 n0 (Sl aj1 o17 cj2) o17]) ?_ ?_
   ·clear h'
    rename _ = some o17 => h
    refine c_blk (wp_loopM _ h (fun s18 a w => ∃ (ρ : Nat → Value) (σ : St) (aj1 : Option Addr) (cj2 : Nat), a = fr 47 (updL ρ [(3, (I Fy)), (9, (Sl aj1 s18.1 cj2)), (10, (Sl a14 r11 c15)), (11, (I s18.2))]) ∧ w = σ.w ∧ Hp S0 σ0 σ [Ch.own n0 n0 (Sl aj1 s18.1 cj2) s18.1, Ch.own n0 n0 (Sl a14 r11 c15) r11]) ⟨_, σ16, (some ⟨b1, 0, none⟩), 0, fr_join ⟨rfl, rfl, rfl, rfl, trivial⟩, rfl, H.sel' [3, 0] rfl rfl⟩ ?_)
    clear h H
    rintro s18 a w o ⟨ρ, σ19, a20, c21, rfl, rfl, H⟩ h hres
    refine c_seq (c_seq (rg (sm (I s18.2) rfl (sm (Sl a14 r11 c15) rfl (st (v := (I (r11.length : Int))) (rv_len Tryz.underlying27 rfl) (st (v := (B (decide (s18.2 < (r11.length : Int))))) (rv_lss (a := s18.2) (b := (r11.length : Int)) rfl rfl) (w_end (q_then ?_))))))))
    refine cd_cond (decide (s18.2 < (r11.length : Int))) rfl (fun hb22 => ?_) (fun hb22 => ?_)
    ·replace h := bif_t hb22 h
     refine c_skip (q_then (c_seq ?_))
     obtain ⟨o23, hj, h'⟩ := bind_some h
     clear h
     refine c_cut (fun e a w => e = .normal ∧ ∃ (ρ : Nat → Value) (σ : St) (aj1 : Option Addr) (cj2 : Nat), a = fr 47 (updL ρ [(3, (I Fy)), (9, (Sl aj1 o23 cj2)), (10, (Sl a14 r11 c15)), (11, (I s18.2))]) ∧ w = σ.w ∧ Hp S0 σ0 σ [Ch.own n0 n0 (Sl aj1 o23 cj2) o23, Ch.own n0 n0 (Sl a14 r11 c15) r11]) ?_ ?_
     ·clear h'
      rename _ = some o23 => h
      refine c_blk (c_seq (rg (sm (Sl a14 r11 c15) rfl (sm (I s18.2) rfl ?_))))
      revert h; refine br fun x24 hx25 h => ?_
      obtain ⟨b27, o28, hi26, -⟩ := (H.own 1 rfl).ix hx25
      refine st (v := (pt b27 o28)) (rv_ix Tryz.underlying27 ti44 rfl rfl hi26) (st (v := (pt b27 (o28 + 1))) (rv_fieldAddr (off := 1) (ft := 3) Tryz.underlying44 rfl ti3 rfl rfl) ?_)
      have hc29 := ((H.own 1 rfl).at hx25 hi26).snd.int
      refine st (v := (I x24.2)) (rv_load1 Tryz.underlying3 rfl rfl hc29) (sm (I Fy) rfl (st (v := (B (decide (x24.2 ≤ Fy)))) (rv_leq (a := x24.2) (b := Fy) rfl rfl) (w_end (q_then ?_))))
      refine cd_cond (decide (x24.2 ≤ Fy)) rfl (fun hb30 => ?_) (fun hb30 => ?_)
      ·replace h := bif_t hb30 h
       refine rg (sm (Sl a20 s18.1 c21) rfl (sm (Sl a14 r11 c15) rfl (sm (I s18.2) rfl ?_)))
       revert h; refine br fun x31 hx32 h => ?_
       obtain ⟨b34, o35, hi33, -⟩ := (H.own 1 rfl).ix hx32
       refine st (v := (pt b34 o35)) (rv_ix Tryz.underlying27 ti44 rfl rfl hi33) ?_
       obtain ⟨_, ⟨_, _, rfl, rfl, rfl⟩, hl36, hc37⟩ := ((H.own 1 rfl).at hx32 hi33).cells
       refine st (v := (.agg #[(I x31.1), (I x31.2)])) (rv_load Tryz.underlying44 rfl ti44 rfl hl36 hc37) ?_
       refine st_ex (ex_buildSlice (el := n0) (xs := ([(x31.1, x31.2)] : List (Int × Int))) (ps := [(0, (.agg #[(I x31.1), (I x31.2)]))]) (cs := [(I x31.1), (I x31.2)]) H hn0 Tryz.underlying27 ti44 rfl rfl (by kernel_rfl) (.cons (c := [(I x31.1), (I x31.2)]) ⟨[(I x31.1)], [(I x31.2)], rfl, rfl, rfl⟩ (.nil)) rfl) wn ?_
       rintro _ σ39 ⟨b38, rfl, H, -⟩
       revert h; refine br fun xs40 hx41 h => ?_
       refine st_ex (ex_append H (i := 1) rfl Tryz.underlying27 Tryz.underlying27 ti44 rfl rfl (by decide) (H.own 0 rfl).rd hx41 hn0 rfl rfl) wn ?_
       rintro _ σ44 ⟨a42, c43, rfl, H, -⟩
       refine sa (Sl a42 xs40 c43) rfl (w_end (q_blk ?_))
       obtain rfl := sj h
       exact ⟨rfl, _, σ44, a42, c43, fr_join ⟨rfl, rfl, rfl, rfl, trivial⟩, rfl, H.sel' [0, 2] rfl rfl⟩
      ·replace h := bif_f hb30 h
       refine c_skip (q_blk ?_)
       obtain rfl := sj h
       exact ⟨rfl, _, σ19, a20, c21, fr_join ⟨rfl, rfl, rfl, rfl, trivial⟩, rfl, H.sel' [0, 1] rfl rfl⟩
     ·clear hj
      have h := h'
      clear h' H
      rintro e a w ⟨rfl, ρ, σ45, a46, c47, rfl, rfl, H⟩
      refine q_then (rg (sm (I s18.2) rfl (st (v := (I (w64 (s18.2 + 1)))) (rv_add (a := s18.2) (b := 1) rfl rfl) (sa (I (w64 (s18.2 + 1))) rfl (w_end (q_then ?_))))))
      obtain rfl := sj h
      exact ⟨_, rfl, _, σ45, a46, c47, fr_join ⟨rfl, rfl, rfl, rfl, trivial⟩, rfl, H.sel' [0, 1] rfl rfl⟩
    ·replace h := bif_f hb22 h
     refine c_exit (q_then_x (q_then_x (q_blk_hit ?_)))
     obtain rfl := sj h
     obtain rfl := hres _ rfl
     exact ⟨rfl, _, σ19, a20, c21, fr_join ⟨rfl, trivial⟩, rfl, H.sel' [0] rfl rfl⟩
   ·clear hj
    have h := h'
    clear h' H
    rintro e a w ⟨rfl, ρ, σ48, a49, c50, rfl, rfl, H⟩
    refine q_then (c_seq (rg (sm (Sl a49 o17 c50) rfl (sa (Sl a49 o17 c50) rfl (w_end (q_then (c_ret ?_)))))))
    obtain rfl := sj h
    exact fin_ret (v := (Sl a49 o17 c50)) (results_ok Tryz.results11 (res_tmp (v := (Sl a49 o17 c50)) rfl res_nil) rfl) ⟨a49, c50, rfl, rfl⟩ (H.sel' [0] rfl rfl)

theorem c_laws_isIn {As : List Int} {Af : Int} {Au : Option Addr} {Av : Nat} {r : Bool} (h : M.laws_isIn As Af = some r) :
    Cal2 Tryz.prog 13 [(Sl Au As Av), (I Af)] [Ch.ro 0 (Sl Au As Av) As] (fun n0 v L => v = (B r) ∧ L = []) := by
 refine cal2 (n := 18) Tryz.func13 rfl rfl rfl rfl ?_
 intro S0 σ0 n0 hn0 H
 unfold M.laws_isIn at h
 refine c_seq (rg (sa (B false) rfl (w_end (q_then (c_seq (c_seq (rg (sa (I 0) rfl (w_end (q_then ?_))))))))))
 obtain ⟨o1, hj, h'⟩ := bind_some h
 clear h
 refine c_cut (fun e a w => (∃ t, o1 = (.inl t) ∧ e = .normal ∧ ∃ (ρ : Nat → Value) (σ : St), a = fr 18 (updL ρ []) ∧ w = σ.w ∧ Hp S0 σ0 σ []) ∨ (∃ t, o1 = (.inr t) ∧ e = .ret ∧ ∃ (ρ : Nat → Value) (σ : St), a = fr 18 (updL ρ [(4, (B t))]) ∧ w = σ.w ∧ Hp S0 σ0 σ [])) ?_ ?_
 ·clear h'
  rename _ = some o1 => h
  refine c_blk (wp_loopM _ h (fun s2 a w => ∃ (ρ : Nat → Value) (σ : St), a = fr 18 (updL ρ [(0, (Sl Au As Av)), (1, (I Af)), (5, (I s2))]) ∧ w = σ.w ∧ Hp S0 σ0 σ [Ch.ro 0 (Sl Au As Av) As]) ⟨_, σ0, fr_join ⟨rfl, rfl, rfl, trivial⟩, rfl, H.sel' [0] rfl rfl⟩ ?_)
  clear h H
  rintro s2 a w o ⟨ρ, σ3, rfl, rfl, H⟩ h hres
  refine c_seq (c_seq (rg (sm (I s2) rfl (sm (Sl Au As Av) rfl (st (v := (I (As.length : Int))) (rv_len Tryz.underlying24 rfl) (st (v := (B (decide (s2 < (As.length : Int))))) (rv_lss (a := s2) (b := (As.length : Int)) rfl rfl) (w_end (q_then ?_))))))))
  refine cd_cond (decide (s2 < (As.length : Int))) rfl (fun hb4 => ?_) (fun hb4 => ?_)
  ·replace h := bif_t hb4 h
   refine c_skip (q_then (c_seq (c_blk (c_seq (rg (sm (Sl Au As Av) rfl (sm (I s2) rfl ?_)))))))
   revert h; refine br fun x5 hx6 h => ?_
   obtain ⟨b8, o9, hi7, -⟩ := (H.ro 0 rfl).ix hx6
   refine st (v := (pt b8 o9)) (rv_ix Tryz.underlying24 ti3 rfl rfl hi7) ?_
   have hc10 := ((H.ro 0 rfl).at hx6 hi7).int
   refine st (v := (I x5)) (rv_load1 Tryz.underlying3 rfl rfl hc10) (sm (I Af) rfl (st (v := (B (x5 == Af))) (rv_eql (a := x5) (b := Af) rfl rfl) (w_end (q_then ?_))))
   refine cd_cond (x5 == Af) rfl (fun hb11 => ?_) (fun hb11 => ?_)
   ·replace h := bif_t hb11 h
    refine c_seq (rg (sa (B true) rfl (w_end (q_then (c_ret (q_blk_r (q_then_r (q_then_r (q_blk_r ?_)))))))))
    obtain rfl := sj h
    obtain rfl := hres _ rfl
    exact .inr (⟨_, rfl, rfl, _, σ3, fr_join ⟨rfl, trivial⟩, rfl, H.sel' [] rfl rfl⟩)
   ·replace h := bif_f hb11 h
    refine c_skip (q_blk (q_then (rg (sm (I s2) rfl (st (v := (I (w64 (s2 + 1)))) (rv_add (a := s2) (b := 1) rfl rfl) (sa (I (w64 (s2 + 1))) rfl (w_end (q_then ?_))))))))
    obtain rfl := sj h
    exact ⟨_, rfl, _, σ3, fr_join ⟨rfl, rfl, rfl, trivial⟩, rfl, H.sel' [0] rfl rfl⟩
  ·replace h := bif_f hb4 h
   refine c_exit (q_then_x (q_then_x (q_blk_hit ?_)))
   obtain rfl := sj h
   obtain rfl := hres _ rfl
   exact .inl ⟨_, rfl, rfl, _, σ3, fr_join trivial, rfl, H.sel' [] rfl rfl⟩
 ·clear hj
  have h := h'
  clear h' H
  rintro e a w (⟨t12, rfl, rfl, ρ, σ13, rfl, rfl, H⟩ | ⟨t14, rfl, rfl, ρ, σ15, rfl, rfl, H⟩)
  ·replace h := selim_l h
   refine q_then (c_seq (rg (sa (B false) rfl (w_end (q_then (c_ret ?_))))))
   obtain rfl := sj h
   exact fin_ret (v := (B false)) (results_ok Tryz.results13 (res_tmp (v := (B false)) rfl res_nil) rfl) ⟨rfl, rfl⟩ (H.sel' [] rfl rfl)
  ·replace h := selim_r h
   refine q_then_r ?_
   obtain rfl := sj h
   exact fin_ret (v := (B t14)) (results_ok Tryz.results13 (res_tmp (v := (B t14)) rfl res_nil) rfl) ⟨rfl, rfl⟩ (H.sel' [] rfl rfl)

theorem c_laws_keys {As : List (Int × Int)} {Au : Option Addr} {Av : Nat} {r : (List Int)} (h : M.laws_keys As = some r) :
    Cal2 Tryz.prog 14 [(Sl Au As Av)] [Ch.ro 0 (Sl Au As Av) As] (fun n0 v L => ∃ (az1 : Option Addr), ∃ (cz2 : Nat), v = (Sl az1 r cz2) ∧ L = [Ch.own n0 n0 (Sl az1 r cz2) r]) := by
 refine cal2 (n := 21) Tryz.func14 rfl rfl rfl rfl ?_
 intro S0 σ0 n0 hn0 H
 unfold M.laws_keys at h
 refine c_seq (rg (sa (.slice none 0 0) rfl (w_end (q_then (c_seq (rg ?_))))))
 refine st_ex (ex_buildSlice (el := n0) (xs := ([] : List Int)) (ps := []) (cs := []) H hn0 Tryz.underlying24 ti3 rfl rfl (by kernel_rfl) (.nil) rfl) wn ?_
 rintro _ σ2 ⟨b1, rfl, H, -⟩
 refine sa (Sl (some ⟨b1, 0, none⟩) ([] : List Int) 0) rfl (w_end (q_then (c_seq (c_seq (rg (sa (I 0) rfl (w_end (q_then ?_))))))))
 obtain ⟨o3, hj, h'⟩ := bind_some h
 clear h
 refine c_cut (fun e a w => e = .normal ∧ ∃ (ρ : Nat → Value) (σ : St) (aj1 : Option Addr) (cj2 : Nat), a = fr 21 (updL ρ [(3, (Sl aj1 o3 cj2))]) ∧ w = σ.w ∧ Hp S0 σ0 σ [Ch.own n0 n0 (Sl aj1 o3 cj2) o3]) ?_ ?_
 ·clear h'
  rename _ = some o3 => h
  refine c_blk (wp_loopM _ h (fun s4 a w => ∃ (ρ : Nat → Value) (σ : St) (aj1 : Option Addr) (cj2 : Nat), a = fr 21 (updL ρ [(0, (Sl Au As Av)), (3, (Sl aj1 s4.1 cj2)), (4, (I s4.2))]) ∧ w = σ.w ∧ Hp S0 σ0 σ [Ch.ro 0 (Sl Au As Av) As, Ch.own n0 n0 (Sl aj1 s4.1 cj2) s4.1]) ⟨_, σ2, (some ⟨b1, 0, none⟩), 0, fr_join ⟨rfl, rfl, rfl, trivial⟩, rfl, H.sel' [1, 0] rfl rfl⟩ ?_)
  clear h H
  rintro s4 a w o ⟨ρ, σ5, a6, c7, rfl, rfl, H⟩ h hres
  refine c_seq (c_seq (rg (sm (I s4.2) rfl (sm (Sl Au As Av) rfl (st (v := (I (As.length : Int))) (rv_len Tryz.underlying27 rfl) (st (v := (B (decide (s4.2 < (As.length : Int))))) (rv_lss (a := s4.2) (b := (As.length : Int)) rfl rfl) (w_end (q_then ?_))))))))
  refine cd_cond (decide (s4.2 < (As.length : Int))) rfl (fun hb8 => ?_) (fun hb8 => ?_)
  ·replace h := bif_t hb8 h
   refine c_skip (q_then (c_seq (c_blk (rg (sm (Sl a6 s4.1 c7) rfl (sm (Sl Au As Av) rfl (sm (I s4.2) rfl ?_)))))))
   revert h; refine br fun x9 hx10 h => ?_
   obtain ⟨b12, o13, hi11, -⟩ := (H.ro 0 rfl).ix hx10
   refine st (v := (pt b12 o13)) (rv_ix Tryz.underlying27 ti44 rfl rfl hi11) (st (v := (pt b12 (o13 + 0))) (rv_fieldAddr (off := 0) (ft := 3) Tryz.underlying44 rfl ti3 rfl rfl) ?_)
   have hc14 := ((H.ro 0 rfl).at hx10 hi11).fst.int
   refine st (v := (I x9.1)) (rv_load1 Tryz.underlying3 rfl rfl hc14) ?_
   refine st_ex (ex_buildSlice (el := n0) (xs := ([x9.1] : List Int)) (ps := [(0, (I x9.1))]) (cs := [(I x9.1)]) H hn0 Tryz.underlying24 ti3 rfl rfl (by kernel_rfl) (.cons (c := [(I x9.1)]) rfl (.nil)) rfl) wn ?_
   rintro _ σ16 ⟨b15, rfl, H, -⟩
   revert h; refine br fun xs17 hx18 h => ?_
   refine st_ex (ex_append H (i := 2) rfl Tryz.underlying24 Tryz.underlying24 ti3 rfl rfl (by decide) (H.own 0 rfl).rd hx18 hn0 rfl rfl) wn ?_
   rintro _ σ21 ⟨a19, c20, rfl, H, -⟩
   refine sa (Sl a19 xs17 c20) rfl (w_end (q_blk (q_then (rg (sm (I s4.2) rfl (st (v := (I (w64 (s4.2 + 1)))) (rv_add (a := s4.2) (b := 1) rfl rfl) (sa (I (w64 (s4.2 + 1))) rfl (w_end (q_then ?_)))))))))
   obtain rfl := sj h
   exact ⟨_, rfl, _, σ21, a19, c20, fr_join ⟨rfl, rfl, rfl, trivial⟩, rfl, H.sel' [2, 0] rfl rfl⟩
  ·replace h := bif_f hb8 h
   refine c_exit (q_then_x (q_then_x (q_blk_hit ?_)))
   obtain rfl := sj h
   obtain rfl := hres _ rfl
   exact ⟨rfl, _, σ5, a6, c7, fr_join ⟨rfl, trivial⟩, rfl, H.sel' [1] rfl rfl⟩
 ·clear hj
  have h := h'
  clear h' H
  rintro e a w ⟨rfl, ρ, σ22, a23, c24, rfl, rfl, H⟩
  refine q_then (c_seq (rg (sm (Sl a23 o3 c24) rfl (sa (Sl a23 o3 c24) rfl (w_end (q_then (c_ret ?_)))))))
  obtain rfl := sj h
  exact fin_ret (v := (Sl a23 o3 c24)) (results_ok Tryz.results14 (res_tmp (v := (Sl a23 o3 c24)) rfl res_nil) rfl) ⟨a23, c24, rfl, rfl⟩ (H.sel' [0] rfl rfl)

theorem c_impl_validHit {Bv : Int × Int}  {r : Bool} (h : M.impl_validHit Bv = some r) :
    Cal2 Tryz.prog 47 [(.agg #[(I Bv.1), (I Bv.2)])] [] (fun n0 v L => v = (B r) ∧ L = []) := by
 refine cal2 (n := 16) Tryz.func47 rfl rfl rfl rfl ?_
 intro S0 σ0 n0 hn0 H
 unfold M.impl_validHit at h
 refine c_seq (rg (st_ex (ex_box (cs := [(I Bv.1), (I Bv.2)]) H hn0 rfl rfl) wn ?_))
 rintro _ σ2 ⟨b1, rfl, H, -⟩
 refine sa (B false) rfl (w_end (q_then (c_seq (rg (st (v := (pt b1 0)) (rv_fieldAddr (off := 0) (ft := 3) Tryz.underlying44 rfl ti3 rfl rfl) ?_)))))
 have hc3 := H.cell (u := (I Bv.1)) (o' := 0) 0 0 rfl rfl rfl
 refine st (v := (I Bv.1)) (rv_load1 Tryz.underlying3 rfl rfl hc3) ?_
 revert h; refine br fun r4 hx5 h => ?_
 have hc6 := c_impl_validKey hx5
 refine st_call (cx_call hc6 (ent_f hc6.fn rfl) hn0 (H.sel' [0] rfl rfl : Hp S0 σ0 _ ([] ++ _))) wn ?_
 rintro _ σ7 ⟨_, ⟨rfl, rfl⟩, H, -⟩
 replace H : Hp _ _ _ [_] := H
 refine sm (B r4) rfl ?_
 rcases Bool.eq_false_or_eq_true r4 with hb8 | hb8
 ·replace h := bif_t hb8 h
  refine st_g (v := (pt b1 1)) (congrArg some hb8) (rv_fieldAddr (off := 1) (ft := 3) Tryz.underlying44 rfl ti3 rfl rfl) ?_
  have hc9 := H.cell (u := (I Bv.2)) (o' := 1) 0 1 rfl rfl rfl
  refine st_g (v := (I Bv.2)) (congrArg some hb8) (rv_load1 Tryz.underlying3 rfl rfl hc9) (st_g (v := (B (decide (0 ≤ Bv.2)))) (congrArg some hb8) (rv_geq (a := Bv.2) (b := 0) rfl rfl) (st (v := (B (decide (0 ≤ Bv.2)))) (rv_pick_t (congrArg B hb8) rfl) (sm (B (decide (0 ≤ Bv.2))) rfl ?_)))
  rcases Bool.eq_false_or_eq_true (decide (0 ≤ Bv.2)) with hb10 | hb10
  ·replace h := bif_t hb10 h
   refine st_g (v := (pt b1 1)) (congrArg some hb10) (rv_fieldAddr (off := 1) (ft := 3) Tryz.underlying44 rfl ti3 rfl rfl) ?_
   have hc11 := H.cell (u := (I Bv.2)) (o' := 1) 0 1 rfl rfl rfl
   refine st_g (v := (I Bv.2)) (congrArg some hb10) (rv_load1 Tryz.underlying3 rfl rfl hc11) (st_g (v := (B (decide (Bv.2 ≤ 1000000)))) (congrArg some hb10) (rv_leq (a := Bv.2) (b := 1000000) rfl rfl) (st (v := (B (decide (Bv.2 ≤ 1000000)))) (rv_pick_t (congrArg B hb10) rfl) (sa (B (decide (Bv.2 ≤ 1000000))) rfl (w_end (q_then (c_ret ?_))))))
   obtain rfl := sj h
   exact fin_ret (v := (B (decide (Bv.2 ≤ 1000000)))) (results_ok Tryz.results47 (res_tmp (v := (B (decide (Bv.2 ≤ 1000000)))) rfl res_nil) rfl) ⟨rfl, rfl⟩ (H.sel' [] rfl rfl)
  ·replace h := bif_f hb10 h
   refine st_skip (congrArg some hb10) (st_skip (congrArg some hb10) (st_skip (congrArg some hb10) (st (v := (B false)) (rv_pick_f (congrArg B hb10) rfl) (sa (B false) rfl (w_end (q_then (c_ret ?_)))))))
   obtain rfl := sj h
   exact fin_ret (v := (B false)) (results_ok Tryz.results47 (res_tmp (v := (B false)) rfl res_nil) rfl) ⟨rfl, rfl⟩ (H.sel' [] rfl rfl)
 ·replace h := bif_f hb8 h
  refine st_skip (congrArg some hb8) (st_skip (congrArg some hb8) (st_skip (congrArg some hb8) (st (v := (B false)) (rv_pick_f (congrArg B hb8) rfl) (sm (B false) rfl (st_skip rfl (st_skip rfl (st_skip rfl (st (v := (B false)) (rv_pick_f rfl rfl) (sa (B false) rfl (w_end (q_then ?_)))))))))))
  refine c_ret ?_
  obtain rfl := sj h
  exact fin_ret (v := (B false)) (results_ok Tryz.results47 (res_tmp (v := (B false)) rfl res_nil) rfl) ⟨rfl, rfl⟩ (H.sel' [] rfl rfl)

theorem c_impl_placeIn_1__p3 {Bv : Int × Int} {Eh : Int} {Ej Ek El : Nat} {Em En : List Value} {r : Bool} (h : M.impl_placeIn_1__p3 Bv Eh = some r) :
    Cal2 Tryz.prog 100 [(.agg #[(I Bv.1), (I Bv.2)]), (pt Ek El)] [Ch.bx Ej Ek El [(I Eh)] Em En] (fun n0 v L => v = (B r) ∧ L = [Ch.bx Ej Ek El [(I Eh)] Em En]) := by
 refine cal2 (n := 8) Tryz.func100 rfl rfl rfl rfl ?_
 intro S0 σ0 n0 hn0 H
 unfold M.impl_placeIn_1__p3 at h
 refine c_seq (rg (st_ex (ex_box (cs := [(I Bv.1), (I Bv.2)]) H hn0 rfl rfl) wn ?_))
 rintro _ σ2 ⟨b1, rfl, H, -⟩
 refine sa (B false) rfl (w_end (q_then (c_seq (rg (st (v := (pt b1 0)) (rv_fieldAddr (off := 0) (ft := 3) Tryz.underlying44 rfl ti3 rfl rfl) ?_)))))
 have hc3 := H.cell (u := (I Bv.1)) (o' := 0) 0 0 rfl rfl rfl
 refine st (v := (I Bv.1)) (rv_load1 Tryz.underlying3 rfl rfl hc3) ?_
 have hc4 := H.cell (u := (I Eh)) (o' := El) 1 0 rfl rfl rfl
 refine st (v := (I Eh)) (rv_load1 Tryz.underlying3 rfl rfl hc4) (st (v := (B (Bv.1 == Eh))) (rv_eql (a := Bv.1) (b := Eh) rfl rfl) (sa (B (Bv.1 == Eh)) rfl (w_end (q_then (c_ret ?_)))))
 obtain rfl := sj h
 exact fin_ret (v := (B (Bv.1 == Eh))) (results_ok Tryz.results100 (res_tmp (v := (B (Bv.1 == Eh))) rfl res_nil) rfl) ⟨rfl, rfl⟩ (H.sel' [1] rfl rfl)

theorem c_slices_IndexFunc_impl_Hit_impl_Hit__impl_placeIn_1 {Cz : List (Int × Int)} {Fm : Int} {Da : Option Addr} {Db : Nat} {Fn Fo Fp : Nat} {Fq Fr : List Value} {r : Int} (h : M.slices_IndexFunc_impl_Hit_impl_Hit__impl_placeIn_1 Cz Fm = some r) :
    Cal2 Tryz.prog 90 [(Sl Da Cz Db), (.func (.func 100) #[] #[(pt Fo Fp)])] [Ch.ro 0 (Sl Da Cz Db) Cz, Ch.bx Fn Fo Fp [(I Fm)] Fq Fr] (fun n0 v L => v = (I r) ∧ L = [Ch.bx Fn Fo Fp [(I Fm)] Fq Fr]) := by
 refine cal2 (n := 19) Tryz.func90 rfl rfl rfl rfl ?_
 intro S0 σ0 n0 hn0 H
 unfold M.slices_IndexFunc_impl_Hit_impl_Hit__impl_placeIn_1 at h
 refine c_seq (rg (sa (I 0) rfl (w_end (q_then (c_seq (c_seq (rg (sm (Sl Da Cz Db) rfl (st (v := (I (Cz.length : Int))) (rv_len Tryz.underlying27 rfl) (sm (I 0) rfl (w_end ?_)))))))))))
 refine q_then ?_
 obtain ⟨o1, hj, h'⟩ := bind_some h
 clear h
 refine c_cut (fun e a w => (∃ t, o1 = (.inl t) ∧ e = .normal ∧ ∃ (ρ : Nat → Value) (σ : St), a = fr 19 (updL ρ [(1, (.func (.func 100) #[] #[(pt Fo Fp)]))]) ∧ w = σ.w ∧ Hp S0 σ0 σ [Ch.bx Fn Fo Fp [(I Fm)] Fq Fr]) ∨ (∃ t, o1 = (.inr t) ∧ e = .ret ∧ ∃ (ρ : Nat → Value) (σ : St), a = fr 19 (updL ρ [(1, (.func (.func 100) #[] #[(pt Fo Fp)])), (4, (I t))]) ∧ w = σ.w ∧ Hp S0 σ0 σ [Ch.bx Fn Fo Fp [(I Fm)] Fq Fr])) ?_ ?_
 ·clear h'
  rename _ = some o1 => h
  refine c_blk (wp_loopM _ h (fun s2 a w => ∃ (ρ : Nat → Value) (σ : St), a = fr 19 (updL ρ [(0, (Sl Da Cz Db)), (1, (.func (.func 100) #[] #[(pt Fo Fp)])), (7, (I (Cz.length : Int))), (8, (I s2))]) ∧ w = σ.w ∧ Hp S0 σ0 σ [Ch.ro 0 (Sl Da Cz Db) Cz, Ch.bx Fn Fo Fp [(I Fm)] Fq Fr]) ⟨_, σ0, fr_join ⟨rfl, rfl, rfl, rfl, trivial⟩, rfl, H.sel' [0, 1] rfl rfl⟩ ?_)
  clear h H
  rintro s2 a w o ⟨ρ, σ3, rfl, rfl, H⟩ h hres
  refine c_seq (rg (st (v := (B (decide (s2 < (Cz.length : Int))))) (rv_lss (a := s2) (b := (Cz.length : Int)) rfl rfl) (w_end (q_then (c_seq ?_)))))
  refine cd_cond (decide (s2 < (Cz.length : Int))) rfl (fun hb4 => ?_) (fun hb4 => ?_)
  ·replace h := bif_t hb4 h
   refine c_skip (q_then (c_seq (c_blk (c_seq (rg (sm (I s2) rfl (sa (I s2) rfl (w_end (q_then (c_seq (rg ?_)))))))))))
   refine sm (.func (.func 100) #[] #[(pt Fo Fp)]) rfl (sm (Sl Da Cz Db) rfl (sm (I s2) rfl ?_))
   revert h; refine br fun x5 hx6 h => ?_
   obtain ⟨b8, o9, hi7, -⟩ := (H.ro 0 rfl).ix hx6
   refine st (v := (pt b8 o9)) (rv_ix Tryz.underlying27 ti44 rfl rfl hi7) ?_
   obtain ⟨_, ⟨_, _, rfl, rfl, rfl⟩, hl10, hc11⟩ := ((H.ro 0 rfl).at hx6 hi7).cells
   refine st (v := (.agg #[(I x5.1), (I x5.2)])) (rv_load Tryz.underlying44 rfl ti44 rfl hl10 hc11) ?_
   revert h; refine br fun r12 hx13 h => ?_
   have hc14 := c_impl_placeIn_1__p3 (Ej := Fn) (Ek := Fo) (El := Fp) (Em := Fq) (En := Fr) hx13
   refine st_call (cx_call hc14 (ent_v (cap := [(pt Fo Fp)]) hc14.fn rfl rfl) hn0 (H.sel' [1, 0] rfl rfl : Hp S0 σ0 _ ([_] ++ _))) wn ?_
   rintro _ σ15 ⟨_, ⟨rfl, rfl⟩, H, -⟩
   replace H : Hp _ _ _ [_, _] := H
   refine w_end (q_then ?_)
   refine cd_cond r12 rfl (fun hb16 => ?_) (fun hb16 => ?_)
   ·replace h := bif_t hb16 h
    refine c_seq (rg (sm (I s2) rfl (sa (I s2) rfl (w_end (q_then (c_ret (q_blk_r (q_then_r (q_then_r (q_blk_r ?_))))))))))
    obtain rfl := sj h
    obtain rfl := hres _ rfl
    exact .inr (⟨_, rfl, rfl, _, σ15, fr_join ⟨rfl, rfl, trivial⟩, rfl, H.sel' [0] rfl rfl⟩)
   ·replace h := bif_f hb16 h
    refine c_skip (q_blk (q_then (rg (st (v := (I (w64 (s2 + 1)))) (rv_add (a := s2) (b := 1) rfl rfl) (sm (I (w64 (s2 + 1))) rfl (w_end (q_then ?_)))))))
    obtain rfl := sj h
    exact ⟨_, rfl, _, σ15, fr_join ⟨rfl, rfl, rfl, rfl, trivial⟩, rfl, H.sel' [1, 0] rfl rfl⟩
  ·replace h := bif_f hb4 h
   refine c_exit (q_then_x (q_then_x (q_blk_hit ?_)))
   obtain rfl := sj h
   obtain rfl := hres _ rfl
   exact .inl ⟨_, rfl, rfl, _, σ3, fr_join ⟨rfl, trivial⟩, rfl, H.sel' [1] rfl rfl⟩
 ·clear hj
  have h := h'
  clear h' H
  rintro e a w (⟨t17, rfl, rfl, ρ, σ18, rfl, rfl, H⟩ | ⟨t19, rfl, rfl, ρ, σ20, rfl, rfl, H⟩)
  ·replace h := selim_l h
   refine q_then (c_seq (rg (sa (I (-1)) rfl (w_end (q_then (c_ret ?_))))))
   obtain rfl := sj h
   exact fin_ret (v := (I (-1))) (results_ok Tryz.results90 (res_tmp (v := (I (-1))) rfl res_nil) rfl) ⟨rfl, rfl⟩ (H.sel' [0] rfl rfl)
  ·replace h := selim_r h
   refine q_then_r ?_
   obtain rfl := sj h
   exact fin_ret (v := (I t19)) (results_ok Tryz.results90 (res_tmp (v := (I t19)) rfl res_nil) rfl) ⟨rfl, rfl⟩ (H.sel' [0] rfl rfl)

theorem c_impl_placeIn {As : List (Int × Int)} {Gg : Int} {Au : Option Addr} {Av : Nat} {r : Int} (h : M.impl_placeIn As Gg = some r) :
    Cal2 Tryz.prog 49 [(Sl Au As Av), (I Gg)] [Ch.ro 0 (Sl Au As Av) As] (fun n0 v L => v = (I r) ∧ L = []) := by
 refine cal2 (n := 8) Tryz.func49 rfl rfl rfl rfl ?_
 intro S0 σ0 n0 hn0 H
 unfold M.impl_placeIn at h
 refine c_seq (rg (st_ex (ex_box (cs := [(I Gg)]) H hn0 rfl rfl) wn ?_))
 rintro _ σ2 ⟨b1, rfl, H, -⟩
 refine sa (I 0) rfl (w_end (q_then (c_seq (rg (sm (Sl Au As Av) rfl (st (v := (.func (.func 100) #[] #[(pt b1 0)])) (rv_makeFunc (vs := [(pt b1 0)]) rfl) ?_))))))
 revert h; refine br fun r3 hx4 h => ?_
 have hc5 := c_slices_IndexFunc_impl_Hit_impl_Hit__impl_placeIn_1 (Da := Au) (Db := Av) (Fn := n0) (Fo := b1) (Fp := 0) (Fq := []) (Fr := []) hx4
 refine st_call (cx_call hc5 (ent_f hc5.fn rfl) hn0 (H.sel' [1, 0, 1] rfl rfl : Hp S0 σ0 _ ([_, _] ++ _))) wn ?_
 rintro _ σ6 ⟨_, ⟨rfl, rfl⟩, H, -⟩
 replace H : Hp _ _ _ [_, _] := H
 refine sa (I r3) rfl (w_end (q_then (c_ret ?_)))
 obtain rfl := sj h
 exact fin_ret (v := (I r3)) (results_ok Tryz.results49 (res_tmp (v := (I r3)) rfl res_nil) rfl) ⟨rfl, rfl⟩ (H.sel' [] rfl rfl)

theorem c_impl_ValidHits {As : List (Int × Int)} {Au : Option Addr} {Av : Nat} {r : Bool} (h : M.impl_ValidHits As = some r) :
    Cal2 Tryz.prog 16 [(Sl Au As Av)] [Ch.ro 0 (Sl Au As Av) As] (fun n0 v L => v = (B r) ∧ L = []) := by
 refine cal2 (n := 40) Tryz.func16 rfl rfl rfl rfl ?_
 intro S0 σ0 n0 hn0 H
 unfold M.impl_ValidHits at h
 refine c_seq (rg (sa (B false) rfl (w_end (q_then (c_seq (c_seq (rg (sm (Sl Au As Av) rfl (st (v := (I (As.length : Int))) (rv_len Tryz.underlying27 rfl) (st (v := (B (decide (16 < (As.length : Int))))) (rv_gtr (a := (As.length : Int)) (b := 16) rfl rfl) (w_end ?_)))))))))))
 refine q_then ?_
 refine cd_cond (decide (16 < (As.length : Int))) rfl (fun hb1 => ?_) (fun hb1 => ?_)
 ·replace h := bif_t hb1 h
  refine c_seq (rg (sa (B false) rfl (w_end (q_then (c_ret (q_then_r ?_))))))
  obtain rfl := sj h
  exact fin_ret (v := (B false)) (results_ok Tryz.results16 (res_tmp (v := (B false)) rfl res_nil) rfl) ⟨rfl, rfl⟩ (H.sel' [] rfl rfl)
 ·replace h := bif_f hb1 h
  refine c_skip (q_then (c_seq (c_seq (rg (sm (Sl Au As Av) rfl (st (v := (I (As.length : Int))) (rv_len Tryz.underlying27 rfl) (sm (I 0) rfl (w_end (q_then ?_)))))))))
  obtain ⟨o2, hj, h'⟩ := bind_some h
  clear h
  refine c_cut (fun e a w => (∃ t, o2 = (.inl t) ∧ e = .normal ∧ ∃ (ρ : Nat → Value) (σ : St), a = fr 40 (updL ρ []) ∧ w = σ.w ∧ Hp S0 σ0 σ []) ∨ (∃ t, o2 = (.inr t) ∧ e = .ret ∧ ∃ (ρ : Nat → Value) (σ : St), a = fr 40 (updL ρ [(2, (B t))]) ∧ w = σ.w ∧ Hp S0 σ0 σ [])) ?_ ?_
  ·clear h'
   rename _ = some o2 => h
   refine c_blk (wp_loopM _ h (fun s3 a w => ∃ (ρ : Nat → Value) (σ : St), a = fr 40 (updL ρ [(0, (Sl Au As Av)), (8, (Sl Au As Av)), (9, (I (As.length : Int))), (10, (I s3))]) ∧ w = σ.w ∧ Hp S0 σ0 σ [Ch.ro 0 (Sl Au As Av) As]) ⟨_, σ0, fr_join ⟨rfl, rfl, rfl, rfl, trivial⟩, rfl, H.sel' [0] rfl rfl⟩ ?_)
   clear h H
   rintro s3 a w o ⟨ρ, σ4, rfl, rfl, H⟩ h hres
   refine c_seq (rg (st (v := (B (decide (s3 < (As.length : Int))))) (rv_lss (a := s3) (b := (As.length : Int)) rfl rfl) (w_end (q_then (c_seq ?_)))))
   refine cd_cond (decide (s3 < (As.length : Int))) rfl (fun hb5 => ?_) (fun hb5 => ?_)
   ·replace h := bif_t hb5 h
    refine c_skip (q_then (c_seq (c_blk (c_seq (rg (sm (I s3) rfl ?_))))))
    revert h; refine br fun x6 hx7 h => ?_
    obtain ⟨b9, o10, hi8, -⟩ := (H.ro 0 rfl).ix hx7
    refine st (v := (pt b9 o10)) (rv_ix Tryz.underlying27 ti44 rfl rfl hi8) ?_
    obtain ⟨_, ⟨_, _, rfl, rfl, rfl⟩, hl11, hc12⟩ := ((H.ro 0 rfl).at hx7 hi8).cells
    refine st (v := (.agg #[(I x6.1), (I x6.2)])) (rv_load Tryz.underlying44 rfl ti44 rfl hl11 hc12) (st_ex (ex_alloc (cs := [(I 0), (I 0)]) H hn0 ti44 rfl) wn ?_)
    rintro _ σ14 ⟨b13, rfl, H, -⟩
    refine sa (I s3) rfl ?_
    refine st_exS (ex_store_box (k := 0) (cs := [(I 0), (I 0)]) (vs := [(I x6.1), (I x6.2)]) (cs' := [(I x6.1), (I x6.2)]) H (i := 0) rfl ti44 rfl rfl rfl rfl rfl (Nat.le_of_ble_eq_true rfl) (by simp [plain]) rfl) wn ?_
    rintro σ15 ⟨H, -⟩
    refine w_end (q_then (c_seq (c_seq ?_)))
    obtain ⟨o16, hj, h'⟩ := bind_some h
    clear h
    refine c_cut (fun e a w => e = .normal ∧ ∃ (ρ : Nat → Value) (σ : St), a = fr 40 (updL ρ [(0, (Sl Au As Av)), (3, (I s3)), (4, (pt b13 0)), (8, (Sl Au As Av)), (9, (I (As.length : Int))), (10, (I s3)), (31, (B o16))]) ∧ w = σ.w ∧ Hp S0 σ0 σ [Ch.ro 0 (Sl Au As Av) As, Ch.bx n0 b13 0 [(I x6.1), (I x6.2)] [] []]) ?_ ?_
    ·clear h'
     rename _ = some o16 => h
     have hc17 := H.cells 0 rfl
     revert h; refine br fun r18 hx19 h => ?_
     have hc20 := c_impl_validHit hx19
     rcases Bool.eq_false_or_eq_true (!r18) with hb21 | hb21
     ·replace h := bif_t hb21 h
      have Hs := H
      refine rg2 (σ := σ15) (Nm := Unit) 13 [1] [[false], [true]] [[(0, 0)], [(0, 1)], [(1, 1)], [(1, 1)], [(1, 1)], [(1, 1)], [(1, 1)], [(1, 1)], [(1, 1)], [(1, 1)], [(1, 1)], [(1, 1)], [(1, 1)]] 1 [fun _ => fun σm => Hp S0 σ0 σm [Ch.bx n0 b13 0 [(I x6.1), (I x6.2)] [] [], Ch.ro 0 (Sl Au As Av) As] ∧ Md (cov []) σ15 σm, fun _ => fun σm => Hp S0 σ0 σm [Ch.bx n0 b13 0 [(I x6.1), (I x6.2)] [] [], Ch.ro 0 (Sl Au As Av) As] ∧ Md (cov []) σ15 σm] [fun _ => (.agg #[(I x6.1), (I x6.2)]), fun _ => (B r18), fun _ => (B (!r18)), fun _ => (B (!r18)), fun _ => undef, fun _ => undef, fun _ => undef, fun _ => undef, fun _ => undef, fun _ => undef, fun _ => undef, fun _ => undef, fun _ => undef] () (by kernel_rfl) (by kernel_rfl) ?_ ?_ ?_
      ·intro σm m0
       exact ⟨H.grow (m0.mono fun _ h => h.elim), m0⟩
      ·refine all_cons (by
         refine ⟨?_, ?_⟩
         ·intro _nm ρ σm hJ hoff hdep
          have e4 := look_off (N := 40) (hoff 4 rfl) rfl
          obtain ⟨H, m⟩ := id hJ
          have hc17 := H.cells 0 rfl
          exact dp_v (v := (.agg #[(I x6.1), (I x6.2)])) wn (rv_load (cs := [(I x6.1), (I x6.2)]) Tryz.underlying44 rfl ti44 e4 rfl hc17) rfl hJ
         trivial) ?_
       refine all_cons (by
         refine ⟨?_, ?_⟩
         ·intro _nm ρ σm hJ hoff hdep
          have e15 : look 40 ρ 15 = (.agg #[(I x6.1), (I x6.2)]) := hdep 0 rfl rfl 15 rfl
          obtain ⟨H, m⟩ := id hJ
          refine dp_cx wn (cx_call hc20 (ent_f hc20.fn (by show [look 40 ρ 15] = _; rw [e15])) hn0 (H.sel' [0, 1] rfl rfl : Hp S0 σ0 _ ([] ++ _))) ?_
          rintro _ σq ⟨_, ⟨rfl, rfl⟩, H2, m2⟩
          exact ⟨_, (), rfl, rfl, ⟨H2.sel' [0, 1] rfl rfl, m.comp0 m2⟩, stab [0] (by kernel_rfl) ⟨rfl, trivial⟩⟩
         trivial) ?_
       refine ac rfl (by
         intro k _nm ρ σm hJ hoff hdep
         have e16 := hdep 1 rfl rfl 16 rfl
         exact dp_v (v := (B (!r18))) wn (rv_not e16) rfl hJ) ?_
       refine ac rfl (by
         intro k _nm ρ σm hJ hoff hdep
         have e17 := hdep 2 rfl rfl 17 rfl
         exact dp_v (v := (B (!r18))) wn (rv_move e17) rfl hJ) ?_
       refine ac rfl (by
         intro k _nm ρ σm hJ hoff hdep
         have e18 := hdep 3 rfl rfl 18 rfl
         exact dp_skip (wanted_no rfl (yv_of rfl (e18.trans (congrArg B hb21)))) rfl hJ) ?_
       refine ac rfl (by
         intro k _nm ρ σm hJ hoff hdep
         have e18 := hdep 3 rfl rfl 18 rfl
         exact dp_skip (wanted_no rfl (yv_of rfl (e18.trans (congrArg B hb21)))) rfl hJ) ?_
       refine ac rfl (by
         intro k _nm ρ σm hJ hoff hdep
         have e18 := hdep 3 rfl rfl 18 rfl
         exact dp_skip (wanted_no rfl (yv_of rfl (e18.trans (congrArg B hb21)))) rfl hJ) ?_
       refine ac rfl (by
         intro k _nm ρ σm hJ hoff hdep
         have e21 := hdep 6 rfl rfl 21 rfl
         exact dp_skip (wanted_u rfl (yv_undef rfl e21)) rfl hJ) ?_
       refine ac rfl (by
         intro k _nm ρ σm hJ hoff hdep
         have e21 := hdep 6 rfl rfl 21 rfl
         exact dp_skip (wanted_u rfl (yv_undef rfl e21)) rfl hJ) ?_
       refine ac rfl (by
         intro k _nm ρ σm hJ hoff hdep
         have e21 := hdep 6 rfl rfl 21 rfl
         exact dp_skip (wanted_u rfl (yv_undef rfl e21)) rfl hJ) ?_
       refine ac rfl (by
         intro k _nm ρ σm hJ hoff hdep
         have e21 := hdep 6 rfl rfl 21 rfl
         exact dp_skip (wanted_u rfl (yv_undef rfl e21)) rfl hJ) ?_
       refine ac rfl (by
         intro k _nm ρ σm hJ hoff hdep
         have e21 := hdep 6 rfl rfl 21 rfl
         exact dp_skip (wanted_u rfl (yv_undef rfl e21)) rfl hJ) ?_
       refine ac rfl (by
         intro k _nm ρ σm hJ hoff hdep
         have e21 := hdep 6 rfl rfl 21 rfl
         exact dp_skip (wanted_u rfl (yv_undef rfl e21)) rfl hJ) ?_
       exact all_nil
      ·intro _nm ρ σ22 hJ hoff hrel
       have e0 := look_off (N := 40) (hoff 0 rfl) rfl
       have e3 := look_off (N := 40) (hoff 3 rfl) rfl
       have e4 := look_off (N := 40) (hoff 4 rfl) rfl
       have e8 := look_off (N := 40) (hoff 8 rfl) rfl
       have e9 := look_off (N := 40) (hoff 9 rfl) rfl
       have e10 := look_off (N := 40) (hoff 10 rfl) rfl
       have e18 := hrel 3 rfl 18 rfl
       have e21 := hrel 6 rfl 21 rfl
       have e26 := hrel 11 rfl 26 rfl
       have e27 := hrel 12 rfl 27 rfl
       obtain ⟨H, -⟩ := (show Hp S0 σ0 σ22 [Ch.bx n0 b13 0 [(I x6.1), (I x6.2)] [] [], Ch.ro 0 (Sl Au As Av) As] ∧ Md (cov []) σ15 σ22 from hJ)
       clear hJ Hs
       rw [fr_lookL (L := [(0, (Sl Au As Av)), (3, (I s3)), (4, (pt b13 0)), (8, (Sl Au As Av)), (9, (I (As.length : Int))), (10, (I s3)), (18, (B (!r18))), (21, undef), (26, undef), (27, undef)]) ⟨e0, e3, e4, e8, e9, e10, e18, e21, e26, e27, trivial⟩]
       clear hoff hrel e0 e3 e4 e8 e9 e10 e18 e21 e26 e27
       refine st_skip_u rfl (st_skip_u rfl (st_skip (congrArg some hb21) (st (v := (B true)) (rv_pick_t (congrArg B hb21) rfl) (w_end ?_))))
       obtain rfl := sj h
       exact ⟨rfl, _, σ22, fr_join ⟨rfl, rfl, rfl, rfl, rfl, rfl, rfl, trivial⟩, rfl, H.sel' [1, 0] rfl rfl⟩
     ·replace h := bif_f hb21 h
      rcases Bool.eq_false_or_eq_true (decide (0 < s3)) with hb23 | hb23
      ·replace h := bif_t hb23 h
       revert h; refine br fun x24 hx25 h => ?_
       obtain ⟨b27, o28, hi26, -⟩ := (H.ro 1 rfl).ix hx25
       obtain ⟨_, ⟨_, _, rfl, rfl, rfl⟩, hl29, hc30⟩ := ((H.ro 1 rfl).at hx25 hi26).cells
       have hc31 := H.cells 0 rfl
       have Hs := H
       refine rg2 (σ := σ15) (Nm := Unit) 13 [1] [[false], [true]] [[(0, 0)], [(0, 1)], [(1, 1)], [(1, 1)], [(1, 1)], [(1, 1)], [(1, 1)], [(1, 1)], [(1, 1)], [(1, 1)], [(1, 1)], [(1, 1)], [(1, 1)]] 1 [fun _ => fun σm => Hp S0 σ0 σm [Ch.bx n0 b13 0 [(I x6.1), (I x6.2)] [] [], Ch.ro 0 (Sl Au As Av) As] ∧ Md (cov []) σ15 σm, fun _ => fun σm => Hp S0 σ0 σm [Ch.bx n0 b13 0 [(I x6.1), (I x6.2)] [] [], Ch.ro 0 (Sl Au As Av) As] ∧ Md (cov []) σ15 σm] [fun _ => (.agg #[(I x6.1), (I x6.2)]), fun _ => (B r18), fun _ => (B (!r18)), fun _ => (B (!r18)), fun _ => (I s3), fun _ => (B (decide (0 < s3))), fun _ => (B (decide (0 < s3))), fun _ => (Sl Au As Av), fun _ => (I s3), fun _ => (I (w64 (s3 - 1))), fun _ => (pt b27 o28), fun _ => (.agg #[(I x24.1), (I x24.2)]), fun _ => (.agg #[(I x6.1), (I x6.2)])] () (by kernel_rfl) (by kernel_rfl) ?_ ?_ ?_
       ·intro σm m0
        exact ⟨H.grow (m0.mono fun _ h => h.elim), m0⟩
       ·refine all_cons (by
          refine ⟨?_, ?_⟩
          ·intro _nm ρ σm hJ hoff hdep
           have e4 := look_off (N := 40) (hoff 4 rfl) rfl
           obtain ⟨H, m⟩ := id hJ
           have hc17 := H.cells 0 rfl
           exact dp_v (v := (.agg #[(I x6.1), (I x6.2)])) wn (rv_load (cs := [(I x6.1), (I x6.2)]) Tryz.underlying44 rfl ti44 e4 rfl hc17) rfl hJ
          trivial) ?_
        refine all_cons (by
          refine ⟨?_, ?_⟩
          ·intro _nm ρ σm hJ hoff hdep
           have e15 : look 40 ρ 15 = (.agg #[(I x6.1), (I x6.2)]) := hdep 0 rfl rfl 15 rfl
           obtain ⟨H, m⟩ := id hJ
           refine dp_cx wn (cx_call hc20 (ent_f hc20.fn (by show [look 40 ρ 15] = _; rw [e15])) hn0 (H.sel' [0, 1] rfl rfl : Hp S0 σ0 _ ([] ++ _))) ?_
           rintro _ σq ⟨_, ⟨rfl, rfl⟩, H2, m2⟩
           exact ⟨_, (), rfl, rfl, ⟨H2.sel' [0, 1] rfl rfl, m.comp0 m2⟩, stab [0] (by kernel_rfl) ⟨rfl, trivial⟩⟩
          trivial) ?_
        refine ac rfl (by
          intro k _nm ρ σm hJ hoff hdep
          have e16 := hdep 1 rfl rfl 16 rfl
          exact dp_v (v := (B (!r18))) wn (rv_not e16) rfl hJ) ?_
        refine ac rfl (by
          intro k _nm ρ σm hJ hoff hdep
          have e17 := hdep 2 rfl rfl 17 rfl
          exact dp_v (v := (B (!r18))) wn (rv_move e17) rfl hJ) ?_
        refine ac rfl (by
          intro k _nm ρ σm hJ hoff hdep
          have e3 := look_off (N := 40) (hoff 3 rfl) rfl
          have e18 := hdep 3 rfl rfl 18 rfl
          exact dp_v (v := (I s3)) (wanted_yes rfl (yv_of rfl (e18.trans (congrArg B hb21)))) (rv_move e3) rfl hJ) ?_
        refine ac rfl (by
          intro k _nm ρ σm hJ hoff hdep
          have e19 := hdep 4 rfl rfl 19 rfl
          have e18 := hdep 3 rfl rfl 18 rfl
          exact dp_v (v := (B (decide (0 < s3)))) (wanted_yes rfl (yv_of rfl (e18.trans (congrArg B hb21)))) (rv_gtr (a := s3) (b := 0) e19 rfl) rfl hJ) ?_
        refine ac rfl (by
          intro k _nm ρ σm hJ hoff hdep
          have e20 := hdep 5 rfl rfl 20 rfl
          have e18 := hdep 3 rfl rfl 18 rfl
          exact dp_v (v := (B (decide (0 < s3)))) (wanted_yes rfl (yv_of rfl (e18.trans (congrArg B hb21)))) (rv_move e20) rfl hJ) ?_
        refine ac rfl (by
          intro k _nm ρ σm hJ hoff hdep
          have e0 := look_off (N := 40) (hoff 0 rfl) rfl
          have e21 := hdep 6 rfl rfl 21 rfl
          exact dp_v (v := (Sl Au As Av)) (wanted_yes rfl (yv_of rfl (e21.trans (congrArg B hb23)))) (rv_move e0) rfl hJ) ?_
        refine ac rfl (by
          intro k _nm ρ σm hJ hoff hdep
          have e3 := look_off (N := 40) (hoff 3 rfl) rfl
          have e21 := hdep 6 rfl rfl 21 rfl
          exact dp_v (v := (I s3)) (wanted_yes rfl (yv_of rfl (e21.trans (congrArg B hb23)))) (rv_move e3) rfl hJ) ?_
        refine ac rfl (by
          intro k _nm ρ σm hJ hoff hdep
          have e23 := hdep 8 rfl rfl 23 rfl
          have e21 := hdep 6 rfl rfl 21 rfl
          exact dp_v (v := (I (w64 (s3 - 1)))) (wanted_yes rfl (yv_of rfl (e21.trans (congrArg B hb23)))) (rv_sub (a := s3) (b := 1) e23 rfl) rfl hJ) ?_
        refine ac rfl (by
          intro k _nm ρ σm hJ hoff hdep
          have e22 := hdep 7 rfl rfl 22 rfl
          have e24 := hdep 9 rfl rfl 24 rfl
          have e21 := hdep 6 rfl rfl 21 rfl
          exact dp_v (v := (pt b27 o28)) (wanted_yes rfl (yv_of rfl (e21.trans (congrArg B hb23)))) (rv_ix Tryz.underlying27 ti44 e22 e24 hi26) rfl hJ) ?_
        refine all_cons (by
          refine ⟨?_, ?_⟩
          ·intro _nm ρ σm hJ hoff hdep
           have e25 := hdep 10 rfl rfl 25 rfl
           have e21 := hdep 6 rfl rfl 21 rfl
           obtain ⟨H, m⟩ := id hJ
           replace hc30 := fun j hj => (Hs.ro 1 rfl).hmd hx25 hi26 (k := j) (Nat.lt_of_lt_of_eq hj hl29) (hc30 j hj) m
           exact dp_v (v := (.agg #[(I x24.1), (I x24.2)])) (wanted_yes rfl (yv_of rfl (e21.trans (congrArg B hb23)))) (rv_load Tryz.underlying44 rfl ti44 e25 hl29 hc30) rfl hJ
          trivial) ?_
        refine all_cons (by
          refine ⟨?_, ?_⟩
          ·intro _nm ρ σm hJ hoff hdep
           have e4 := look_off (N := 40) (hoff 4 rfl) rfl
           have e21 := hdep 6 rfl rfl 21 rfl
           obtain ⟨H, m⟩ := id hJ
           have hc31 := H.cells 0 rfl
           exact dp_v (v := (.agg #[(I x6.1), (I x6.2)])) (wanted_yes rfl (yv_of rfl (e21.trans (congrArg B hb23)))) (rv_load (cs := [(I x6.1), (I x6.2)]) Tryz.underlying44 rfl ti44 e4 rfl hc31) rfl hJ
          trivial) ?_
        exact all_nil
       ·intro _nm ρ σ32 hJ hoff hrel
        have e0 := look_off (N := 40) (hoff 0 rfl) rfl
        have e3 := look_off (N := 40) (hoff 3 rfl) rfl
        have e4 := look_off (N := 40) (hoff 4 rfl) rfl
        have e8 := look_off (N := 40) (hoff 8 rfl) rfl
        have e9 := look_off (N := 40) (hoff 9 rfl) rfl
        have e10 := look_off (N := 40) (hoff 10 rfl) rfl
        have e18 := hrel 3 rfl 18 rfl
        have e21 := hrel 6 rfl 21 rfl
        have e26 := hrel 11 rfl 26 rfl
        have e27 := hrel 12 rfl 27 rfl
        obtain ⟨H, -⟩ := (show Hp S0 σ0 σ32 [Ch.bx n0 b13 0 [(I x6.1), (I x6.2)] [] [], Ch.ro 0 (Sl Au As Av) As] ∧ Md (cov []) σ15 σ32 from hJ)
        clear hJ Hs
        rw [fr_lookL (L := [(0, (Sl Au As Av)), (3, (I s3)), (4, (pt b13 0)), (8, (Sl Au As Av)), (9, (I (As.length : Int))), (10, (I s3)), (18, (B (!r18))), (21, (B (decide (0 < s3)))), (26, (.agg #[(I x24.1), (I x24.2)])), (27, (.agg #[(I x6.1), (I x6.2)]))]) ⟨e0, e3, e4, e8, e9, e10, e18, e21, e26, e27, trivial⟩]
        clear hoff hrel e0 e3 e4 e8 e9 e10 e18 e21 e26 e27
        revert h; refine br fun r33 hx34 h => ?_
        have hc35 := c_impl_compareHits hx34
        refine st_call (cx_call hc35 (ent_f hc35.fn rfl) hn0 (H.sel' [0, 1] rfl rfl : Hp S0 σ0 _ ([] ++ _))) (wanted_yes rfl (by exact (congrArg some hb23))) ?_
        rintro _ σ36 ⟨_, ⟨rfl, rfl⟩, H, -⟩
        replace H : Hp _ _ _ [_, _] := H
        refine st_g (v := (B (decide (0 ≤ r33)))) (congrArg some hb23) (rv_geq (a := r33) (b := 0) rfl rfl) (st_g (v := (B (decide (0 ≤ r33)))) (congrArg some hb21) (rv_pick_t (congrArg B hb23) rfl) (st (v := (B (decide (0 ≤ r33)))) (rv_pick_f (congrArg B hb21) rfl) (w_end ?_)))
        obtain rfl := sj h
        exact ⟨rfl, _, σ36, fr_join ⟨rfl, rfl, rfl, rfl, rfl, rfl, rfl, trivial⟩, rfl, H.sel' [1, 0] rfl rfl⟩
      ·replace h := bif_f hb23 h
       have Hs := H
       refine rg2 (σ := σ15) (Nm := Unit) 13 [1] [[false], [true]] [[(0, 0)], [(0, 1)], [(1, 1)], [(1, 1)], [(1, 1)], [(1, 1)], [(1, 1)], [(1, 1)], [(1, 1)], [(1, 1)], [(1, 1)], [(1, 1)], [(1, 1)]] 1 [fun _ => fun σm => Hp S0 σ0 σm [Ch.bx n0 b13 0 [(I x6.1), (I x6.2)] [] [], Ch.ro 0 (Sl Au As Av) As] ∧ Md (cov []) σ15 σm, fun _ => fun σm => Hp S0 σ0 σm [Ch.bx n0 b13 0 [(I x6.1), (I x6.2)] [] [], Ch.ro 0 (Sl Au As Av) As] ∧ Md (cov []) σ15 σm] [fun _ => (.agg #[(I x6.1), (I x6.2)]), fun _ => (B r18), fun _ => (B (!r18)), fun _ => (B (!r18)), fun _ => (I s3), fun _ => (B (decide (0 < s3))), fun _ => (B (decide (0 < s3))), fun _ => undef, fun _ => undef, fun _ => undef, fun _ => undef, fun _ => undef, fun _ => undef] () (by kernel_rfl) (by kernel_rfl) ?_ ?_ ?_
       ·intro σm m0
        exact ⟨H.grow (m0.mono fun _ h => h.elim), m0⟩
       ·refine all_cons (by
          refine ⟨?_, ?_⟩
          ·intro _nm ρ σm hJ hoff hdep
           have e4 := look_off (N := 40) (hoff 4 rfl) rfl
           obtain ⟨H, m⟩ := id hJ
           have hc17 := H.cells 0 rfl
           exact dp_v (v := (.agg #[(I x6.1), (I x6.2)])) wn (rv_load (cs := [(I x6.1), (I x6.2)]) Tryz.underlying44 rfl ti44 e4 rfl hc17) rfl hJ
          trivial) ?_
        refine all_cons (by
          refine ⟨?_, ?_⟩
          ·intro _nm ρ σm hJ hoff hdep
           have e15 : look 40 ρ 15 = (.agg #[(I x6.1), (I x6.2)]) := hdep 0 rfl rfl 15 rfl
           obtain ⟨H, m⟩ := id hJ
           refine dp_cx wn (cx_call hc20 (ent_f hc20.fn (by show [look 40 ρ 15] = _; rw [e15])) hn0 (H.sel' [0, 1] rfl rfl : Hp S0 σ0 _ ([] ++ _))) ?_
           rintro _ σq ⟨_, ⟨rfl, rfl⟩, H2, m2⟩
           exact ⟨_, (), rfl, rfl, ⟨H2.sel' [0, 1] rfl rfl, m.comp0 m2⟩, stab [0] (by kernel_rfl) ⟨rfl, trivial⟩⟩
          trivial) ?_
        refine ac rfl (by
          intro k _nm ρ σm hJ hoff hdep
          have e16 := hdep 1 rfl rfl 16 rfl
          exact dp_v (v := (B (!r18))) wn (rv_not e16) rfl hJ) ?_
        refine ac rfl (by
          intro k _nm ρ σm hJ hoff hdep
          have e17 := hdep 2 rfl rfl 17 rfl
          exact dp_v (v := (B (!r18))) wn (rv_move e17) rfl hJ) ?_
        refine ac rfl (by
          intro k _nm ρ σm hJ hoff hdep
          have e3 := look_off (N := 40) (hoff 3 rfl) rfl
          have e18 := hdep 3 rfl rfl 18 rfl
          exact dp_v (v := (I s3)) (wanted_yes rfl (yv_of rfl (e18.trans (congrArg B hb21)))) (rv_move e3) rfl hJ) ?_
        refine ac rfl (by
          intro k _nm ρ σm hJ hoff hdep
          have e19 := hdep 4 rfl rfl 19 rfl
          have e18 := hdep 3 rfl rfl 18 rfl
          exact dp_v (v := (B (decide (0 < s3)))) (wanted_yes rfl (yv_of rfl (e18.trans (congrArg B hb21)))) (rv_gtr (a := s3) (b := 0) e19 rfl) rfl hJ) ?_
        refine ac rfl (by
          intro k _nm ρ σm hJ hoff hdep
          have e20 := hdep 5 rfl rfl 20 rfl
          have e18 := hdep 3 rfl rfl 18 rfl
          exact dp_v (v := (B (decide (0 < s3)))) (wanted_yes rfl (yv_of rfl (e18.trans (congrArg B hb21)))) (rv_move e20) rfl hJ) ?_
        refine ac rfl (by
          intro k _nm ρ σm hJ hoff hdep
          have e21 := hdep 6 rfl rfl 21 rfl
          exact dp_skip (wanted_no rfl (yv_of rfl (e21.trans (congrArg B hb23)))) rfl hJ) ?_
        refine ac rfl (by
          intro k _nm ρ σm hJ hoff hdep
          have e21 := hdep 6 rfl rfl 21 rfl
          exact dp_skip (wanted_no rfl (yv_of rfl (e21.trans (congrArg B hb23)))) rfl hJ) ?_
        refine ac rfl (by
          intro k _nm ρ σm hJ hoff hdep
          have e21 := hdep 6 rfl rfl 21 rfl
          exact dp_skip (wanted_no rfl (yv_of rfl (e21.trans (congrArg B hb23)))) rfl hJ) ?_
        refine ac rfl (by
          intro k _nm ρ σm hJ hoff hdep
          have e21 := hdep 6 rfl rfl 21 rfl
          exact dp_skip (wanted_no rfl (yv_of rfl (e21.trans (congrArg B hb23)))) rfl hJ) ?_
        refine ac rfl (by
          intro k _nm ρ σm hJ hoff hdep
          have e21 := hdep 6 rfl rfl 21 rfl
          exact dp_skip (wanted_no rfl (yv_of rfl (e21.trans (congrArg B hb23)))) rfl hJ) ?_
        refine ac rfl (by
          intro k _nm ρ σm hJ hoff hdep
          have e21 := hdep 6 rfl rfl 21 rfl
          exact dp_skip (wanted_no rfl (yv_of rfl (e21.trans (congrArg B hb23)))) rfl hJ) ?_
        exact all_nil
       ·intro _nm ρ σ37 hJ hoff hrel
        have e0 := look_off (N := 40) (hoff 0 rfl) rfl
        have e3 := look_off (N := 40) (hoff 3 rfl) rfl
        have e4 := look_off (N := 40) (hoff 4 rfl) rfl
        have e8 := look_off (N := 40) (hoff 8 rfl) rfl
        have e9 := look_off (N := 40) (hoff 9 rfl) rfl
        have e10 := look_off (N := 40) (hoff 10 rfl) rfl
        have e18 := hrel 3 rfl 18 rfl
        have e21 := hrel 6 rfl 21 rfl
        have e26 := hrel 11 rfl 26 rfl
        have e27 := hrel 12 rfl 27 rfl
        obtain ⟨H, -⟩ := (show Hp S0 σ0 σ37 [Ch.bx n0 b13 0 [(I x6.1), (I x6.2)] [] [], Ch.ro 0 (Sl Au As Av) As] ∧ Md (cov []) σ15 σ37 from hJ)
        clear hJ Hs
        rw [fr_lookL (L := [(0, (Sl Au As Av)), (3, (I s3)), (4, (pt b13 0)), (8, (Sl Au As Av)), (9, (I (As.length : Int))), (10, (I s3)), (18, (B (!r18))), (21, (B (decide (0 < s3)))), (26, undef), (27, undef)]) ⟨e0, e3, e4, e8, e9, e10, e18, e21, e26, e27, trivial⟩]
        clear hoff hrel e0 e3 e4 e8 e9 e10 e18 e21 e26 e27
        refine st_skip (congrArg some hb23) (st_skip (congrArg some hb23) (st_g (v := (B false)) (congrArg some hb21) (rv_pick_f (congrArg B hb23) rfl) (st (v := (B false)) (rv_pick_f (congrArg B hb21) rfl) (w_end ?_))))
        obtain rfl := sj h
        exact ⟨rfl, _, σ37, fr_join ⟨rfl, rfl, rfl, rfl, rfl, rfl, rfl, trivial⟩, rfl, H.sel' [1, 0] rfl rfl⟩
    ·clear hj
     have h := h'
     clear h' H
     rintro e a w ⟨rfl, ρ, σ38, rfl, rfl, H⟩
     refine q_then ?_
     refine cd_cond o16 rfl (fun hb39 => ?_) (fun hb39 => ?_)
     ·replace h := bif_t hb39 h
      refine c_seq (rg (sa (B false) rfl (w_end (q_then (c_ret (q_then_r (q_blk_r (q_then_r (q_then_r (q_blk_r ?_))))))))))
      obtain rfl := sj h
      obtain rfl := hres _ rfl
      exact .inr (⟨_, rfl, rfl, _, σ38, fr_join ⟨rfl, trivial⟩, rfl, H.sel' [] rfl rfl⟩)
     ·replace h := bif_f hb39 h
      refine c_skip (q_then (c_seq ?_))
      refine rgP (σ := σ38) 5 (by kernel_rfl) (by kernel_rfl) (by kernel_rfl) ?_
      refine sq (v := (Sl Au As Av)) (rv_move rfl) (sq (v := (I s3)) (rv_move rfl) ?_)
      revert h; refine br fun xs40 hx41 h => ?_
      obtain ⟨a42, c43, hs44, hR45⟩ := (H.ro 0 rfl).slice hx41
      replace H := H.add (d := Ch.ro 0 (Sl a42 xs40 c43) xs40) hR45 (fun _ h => h)
      clear hR45
      refine sq (v := (Sl a42 xs40 c43)) (rv_slice_h Tryz.underlying27 ti44 hs44 rfl rfl) (sq (v := (pt b13 0)) (rv_fieldAddr (off := 0) (ft := 3) Tryz.underlying44 rfl ti3 rfl rfl) ?_)
      have hc46 := H.cell (u := (I x6.1)) (o' := 0) 2 0 rfl rfl rfl
      refine sq (v := (I x6.1)) (rv_load1 Tryz.underlying3 rfl rfl hc46) (sq_end ?_)
      intro σ47 hm48
      replace H := H.grow (hm48.mono fun _ h => h); clear hm48
      revert h; refine br fun r49 hx50 h => ?_
      have hc51 := c_impl_placeIn (Au := a42) (Av := c43) hx50
      refine st_call (cx_call hc51 (ent_f hc51.fn rfl) hn0 (H.sel' [0, 0, 1, 2] rfl rfl : Hp S0 σ0 _ ([_] ++ _))) wn ?_
      rintro _ σ52 ⟨_, ⟨rfl, rfl⟩, H, -⟩
      replace H : Hp _ _ _ [_, _, _] := H
      refine st (v := (B (decide (0 ≤ r49)))) (rv_geq (a := r49) (b := 0) rfl rfl) (w_end (q_then ?_))
      refine cd_cond (decide (0 ≤ r49)) rfl (fun hb53 => ?_) (fun hb53 => ?_)
      ·replace h := bif_t hb53 h
       refine c_seq (rg (sa (B false) rfl (w_end (q_then (c_ret (q_blk_r (q_then_r (q_then_r (q_blk_r ?_)))))))))
       obtain rfl := sj h
       obtain rfl := hres _ rfl
       exact .inr (⟨_, rfl, rfl, _, σ52, fr_join ⟨rfl, trivial⟩, rfl, H.sel' [] rfl rfl⟩)
      ·replace h := bif_f hb53 h
       refine c_skip (q_blk (q_then (rg (st (v := (I (w64 (s3 + 1)))) (rv_add (a := s3) (b := 1) rfl rfl) (sm (I (w64 (s3 + 1))) rfl (w_end (q_then ?_)))))))
       obtain rfl := sj h
       exact ⟨_, rfl, _, σ52, fr_join ⟨rfl, rfl, rfl, rfl, trivial⟩, rfl, H.sel' [1] rfl rfl⟩
   ·replace h := bif_f hb5 h
    refine c_exit (q_then_x (q_then_x (q_blk_hit ?_)))
    obtain rfl := sj h
    obtain rfl := hres _ rfl
    exact .inl ⟨_, rfl, rfl, _, σ4, fr_join trivial, rfl, H.sel' [] rfl rfl⟩
  ·clear hj
   have h := h'
   clear h' H
   rintro e a w (⟨t54, rfl, rfl, ρ, σ55, rfl, rfl, H⟩ | ⟨t56, rfl, rfl, ρ, σ57, rfl, rfl, H⟩)
   ·replace h := selim_l h
    refine q_then (c_seq (rg (sa (B true) rfl (w_end (q_then (c_ret ?_))))))
    obtain rfl := sj h
    exact fin_ret (v := (B true)) (results_ok Tryz.results16 (res_tmp (v := (B true)) rfl res_nil) rfl) ⟨rfl, rfl⟩ (H.sel' [] rfl rfl)
   ·replace h := selim_r h
    refine q_then_r ?_
    obtain rfl := sj h
    exact fin_ret (v := (B t56)) (results_ok Tryz.results16 (res_tmp (v := (B t56)) rfl res_nil) rfl) ⟨rfl, rfl⟩ (H.sel' [] rfl rfl)

end Go.Vs
