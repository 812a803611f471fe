/- The functions compute what their models say. -/
import Derived.Test.YtdjjikmfkejdiaaGreatKInBoxMostC3
set_option linter.unusedVariables false
set_option linter.unusedSimpArgs false
set_option maxRecDepth 20000
namespace Go.Vs
open Go Go.Proofs
attribute [local irreducible] Code.wp Code.wpIn wpList wpListIn wpQuiet Calls CallsIn

theorem c_spec_nearer {Cj : Int × Int} {Ck : Int × Int}  {r : Bool} (h : M.spec_nearer Cj Ck = some r) :
    Cal2 Tryz.prog 54 [(.agg #[(I Cj.1), (I Cj.2)]), (.agg #[(I Ck.1), (I Ck.2)])] [] (fun n0 v L => v = (B r) ∧ L = []) := by
 refine cal2 (n := 24) Tryz.func54 rfl rfl rfl rfl ?_
 intro S0 σ0 n0 hn0 H
 unfold M.spec_nearer at h
 refine c_seq (rg (st_ex (ex_box (cs := [(I Cj.1), (I Cj.2)]) H hn0 rfl rfl) wn ?_))
 rintro _ σ2 ⟨b1, rfl, H, -⟩
 refine st_ex (ex_box (cs := [(I Ck.1), (I Ck.2)]) H hn0 rfl rfl) wn ?_
 rintro _ σ4 ⟨b3, rfl, H, -⟩
 refine sa (B false) rfl (w_end (q_then (c_seq (rg (st (v := (pt b1 1)) (rv_fieldAddr (off := 1) (ft := 3) Tryz.underlying35 rfl ti3 rfl rfl) ?_)))))
 have hc5 := H.cell (u := (I Cj.2)) (o' := 1) 1 1 rfl rfl rfl
 refine st (v := (I Cj.2)) (rv_load1 Tryz.underlying3 rfl rfl hc5) (st (v := (pt b3 1)) (rv_fieldAddr (off := 1) (ft := 3) Tryz.underlying35 rfl ti3 rfl rfl) ?_)
 have hc6 := H.cell (u := (I Ck.2)) (o' := 1) 0 1 rfl rfl rfl
 refine st (v := (I Ck.2)) (rv_load1 Tryz.underlying3 rfl rfl hc6) (st (v := (B (decide (Cj.2 < Ck.2)))) (rv_lss (a := Cj.2) (b := Ck.2) rfl rfl) (sm (B (decide (Cj.2 < Ck.2))) rfl ?_))
 rcases Bool.eq_false_or_eq_true (decide (Cj.2 < Ck.2)) with hb7 | hb7
 ·replace h := bif_t hb7 h
  refine st_skip (congrArg some hb7) (st_skip (congrArg some hb7) (st_skip (congrArg some hb7) (st_skip (congrArg some hb7) (st_skip (congrArg some hb7) (st_skip (congrArg some hb7) (st_skip_u rfl (st_skip_u rfl (st_skip_u rfl (st_skip_u rfl (st_skip_u rfl (st_skip (congrArg some hb7) ?_)))))))))))
  refine st (v := (B true)) (rv_pick_t (congrArg B hb7) rfl) (sa (B true) rfl (w_end (q_then (c_ret ?_))))
  obtain rfl := sj h
  exact fin_ret (v := (B true)) (results_ok Tryz.results54 (res_tmp (v := (B true)) rfl res_nil) rfl) ⟨rfl, rfl⟩ (H.sel' [] rfl rfl)
 ·replace h := bif_f hb7 h
  refine st_g (v := (pt b1 1)) (congrArg some hb7) (rv_fieldAddr (off := 1) (ft := 3) Tryz.underlying35 rfl ti3 rfl rfl) ?_
  have hc8 := H.cell (u := (I Cj.2)) (o' := 1) 1 1 rfl rfl rfl
  refine st_g (v := (I Cj.2)) (congrArg some hb7) (rv_load1 Tryz.underlying3 rfl rfl hc8) (st_g (v := (pt b3 1)) (congrArg some hb7) (rv_fieldAddr (off := 1) (ft := 3) Tryz.underlying35 rfl ti3 rfl rfl) ?_)
  have hc9 := H.cell (u := (I Ck.2)) (o' := 1) 0 1 rfl rfl rfl
  refine st_g (v := (I Ck.2)) (congrArg some hb7) (rv_load1 Tryz.underlying3 rfl rfl hc9) (st_g (v := (B (Cj.2 == Ck.2))) (congrArg some hb7) (rv_eql (a := Cj.2) (b := Ck.2) rfl rfl) (st_g (v := (B (Cj.2 == Ck.2))) (congrArg some hb7) (rv_move rfl) ?_))
  rcases Bool.eq_false_or_eq_true (Cj.2 == Ck.2) with hb10 | hb10
  ·replace h := bif_t hb10 h
   refine st_g (v := (pt b1 0)) (congrArg some hb10) (rv_fieldAddr (off := 0) (ft := 3) Tryz.underlying35 rfl ti3 rfl rfl) ?_
   have hc11 := H.cell (u := (I Cj.1)) (o' := 0) 1 0 rfl rfl rfl
   refine st_g (v := (I Cj.1)) (congrArg some hb10) (rv_load1 Tryz.underlying3 rfl rfl hc11) (st_g (v := (pt b3 0)) (congrArg some hb10) (rv_fieldAddr (off := 0) (ft := 3) Tryz.underlying35 rfl ti3 rfl rfl) ?_)
   have hc12 := H.cell (u := (I Ck.1)) (o' := 0) 0 0 rfl rfl rfl
   refine st_g (v := (I Ck.1)) (congrArg some hb10) (rv_load1 Tryz.underlying3 rfl rfl hc12) (st_g (v := (B (decide (Cj.1 < Ck.1)))) (congrArg some hb10) (rv_lss (a := Cj.1) (b := Ck.1) rfl rfl) (st_g (v := (B (decide (Cj.1 < Ck.1)))) (congrArg some hb7) (rv_pick_t (congrArg B hb10) rfl) (st (v := (B (decide (Cj.1 < Ck.1)))) (rv_pick_f (congrArg B hb7) rfl) (sa (B (decide (Cj.1 < Ck.1))) rfl (w_end (q_then (c_ret ?_)))))))
   obtain rfl := sj h
   exact fin_ret (v := (B (decide (Cj.1 < Ck.1)))) (results_ok Tryz.results54 (res_tmp (v := (B (decide (Cj.1 < Ck.1)))) rfl res_nil) rfl) ⟨rfl, rfl⟩ (H.sel' [] rfl rfl)
  ·replace h := bif_f hb10 h
   refine st_skip (congrArg some hb10) (st_skip (congrArg some hb10) (st_skip (congrArg some hb10) (st_skip (congrArg some hb10) (st_skip (congrArg some hb10) (st_g (v := (B false)) (congrArg some hb7) (rv_pick_f (congrArg B hb10) rfl) (st (v := (B false)) (rv_pick_f (congrArg B hb7) rfl) (sa (B false) rfl (w_end (q_then (c_ret ?_))))))))))
   obtain rfl := sj h
   exact fin_ret (v := (B false)) (results_ok Tryz.results54 (res_tmp (v := (B false)) rfl res_nil) rfl) ⟨rfl, rfl⟩ (H.sel' [] rfl rfl)

theorem c_spec_addHit {As : List (Int × Int)} {Cq : Int × Int} {Ge : Int} {Au : Option Addr} {Av : Nat} {r : (List (Int × Int))} (h : M.spec_addHit As Cq Ge = some r) :
    Cal2 Tryz.prog 38 [(Sl Au As Av), (.agg #[(I Cq.1), (I Cq.2)]), (I Ge)] [Ch.ro 0 (Sl Au As Av) As] (fun n0 v L => ∃ (az1 : Option Addr), ∃ (cz2 : Nat), v = (Sl az1 r cz2) ∧ L = [Ch.own n0 n0 (Sl az1 r cz2) r]) := by
 refine cal2 (n := 58) Tryz.func38 rfl rfl rfl rfl ?_
 intro S0 σ0 n0 hn0 H
 unfold M.spec_addHit at h
 refine c_seq (rg (st_ex (ex_box (cs := [(I Cq.1), (I Cq.2)]) H hn0 rfl rfl) wn ?_))
 rintro _ σ2 ⟨b1, rfl, H, -⟩
 refine sa (.slice none 0 0) rfl (w_end (q_then (c_seq ?_)))
 revert h; refine br fun xs4 hx5 h => ?_
 have hc8 := H.cells 0 rfl
 have Hs := H
 refine rg2 (σ := σ2) (Nm := (Nat) × (Option Addr) × (Nat) × (Nat)) 5 [0, 2, 4] [[false, false, false], [true, false, false], [false, false, true], [true, true, false], [true, false, true], [true, true, true]] [[(0, 1), (2, 4)], [(0, 0), (1, 1), (2, 2), (4, 4)], [(1, 3), (4, 5)], [(0, 0), (1, 1), (3, 3)], [(0, 2), (1, 4), (3, 5)]] 5 [fun ((b3, a6, c7, b9) : (Nat) × (Option Addr) × (Nat) × (Nat)) => fun σm => Hp S0 σ0 σm [Ch.bx n0 b1 0 [(I Cq.1), (I Cq.2)] [] [], Ch.ro 0 (Sl Au As Av) As] ∧ Md (cov []) σ2 σm, fun ((b3, a6, c7, b9) : (Nat) × (Option Addr) × (Nat) × (Nat)) => fun σm => Hp S0 σ0 σm [Ch.own n0 n0 (Sl (some ⟨b3, 0, none⟩) ([] : List (Int × Int)) 0) ([] : List (Int × Int)), Ch.bx n0 b1 0 [(I Cq.1), (I Cq.2)] [] [], Ch.ro 0 (Sl Au As Av) As] ∧ Md (cov []) σ2 σm, fun ((b3, a6, c7, b9) : (Nat) × (Option Addr) × (Nat) × (Nat)) => fun σm => Hp S0 σ0 σm [Ch.own n0 n0 (Sl (some ⟨b9, 0, none⟩) ([(Cq.1, Cq.2)] : List (Int × Int)) 1) ([(Cq.1, Cq.2)] : List (Int × Int)), Ch.bx n0 b1 0 [(I Cq.1), (I Cq.2)] [] [], Ch.ro 0 (Sl Au As Av) As] ∧ Md (cov []) σ2 σm, fun ((b3, a6, c7, b9) : (Nat) × (Option Addr) × (Nat) × (Nat)) => fun σm => Hp S0 σ0 σm [Ch.own n0 n0 (Sl a6 xs4 c7) xs4, Ch.bx n0 b1 0 [(I Cq.1), (I Cq.2)] [] [], Ch.ro 0 (Sl Au As Av) As] ∧ Md (fun i => (cov []) i ∨ (fun b => blk (Sl (some ⟨b3, 0, none⟩) ([] : List (Int × Int)) 0) = some b) i) σ2 σm, fun ((b3, a6, c7, b9) : (Nat) × (Option Addr) × (Nat) × (Nat)) => fun σm => Hp S0 σ0 σm [Ch.own n0 n0 (Sl (some ⟨b9, 0, none⟩) ([(Cq.1, Cq.2)] : List (Int × Int)) 1) ([(Cq.1, Cq.2)] : List (Int × Int)), Ch.own n0 n0 (Sl (some ⟨b3, 0, none⟩) ([] : List (Int × Int)) 0) ([] : List (Int × Int)), Ch.bx n0 b1 0 [(I Cq.1), (I Cq.2)] [] [], Ch.ro 0 (Sl Au As Av) As] ∧ Md (cov []) σ2 σm, fun ((b3, a6, c7, b9) : (Nat) × (Option Addr) × (Nat) × (Nat)) => fun σm => Hp S0 σ0 σm [Ch.own n0 n0 (Sl (some ⟨b9, 0, none⟩) ([(Cq.1, Cq.2)] : List (Int × Int)) 1) ([(Cq.1, Cq.2)] : List (Int × Int)), Ch.own n0 n0 (Sl a6 xs4 c7) xs4, Ch.bx n0 b1 0 [(I Cq.1), (I Cq.2)] [] [], Ch.ro 0 (Sl Au As Av) As] ∧ Md (fun i => (cov []) i ∨ (fun b => blk (Sl (some ⟨b3, 0, none⟩) ([] : List (Int × Int)) 0) = some b) i) σ2 σm] [fun ((b3, a6, c7, b9) : (Nat) × (Option Addr) × (Nat) × (Nat)) => (Sl (some ⟨b3, 0, none⟩) ([] : List (Int × Int)) 0), fun ((b3, a6, c7, b9) : (Nat) × (Option Addr) × (Nat) × (Nat)) => (Sl Au As Av), fun ((b3, a6, c7, b9) : (Nat) × (Option Addr) × (Nat) × (Nat)) => (Sl a6 xs4 c7), fun ((b3, a6, c7, b9) : (Nat) × (Option Addr) × (Nat) × (Nat)) => (.agg #[(I Cq.1), (I Cq.2)]), fun ((b3, a6, c7, b9) : (Nat) × (Option Addr) × (Nat) × (Nat)) => (Sl (some ⟨b9, 0, none⟩) ([(Cq.1, Cq.2)] : List (Int × Int)) 1)] (0, none, 0, 0) (by kernel_rfl) (by kernel_rfl) ?_ ?_ ?_
 ·intro σm m0
  exact ⟨H.grow (m0.mono fun _ h => h.elim), m0⟩
 ·refine all_cons (by
    refine ⟨?_, ?_⟩
    ·rintro ⟨b3, a6, c7, b9⟩ ρ σm hJ hoff hdep
     obtain ⟨H, m⟩ := id hJ
     refine dp_ex wn (ex_buildSlice (el := n0) (xs := ([] : List (Int × Int))) (ps := []) (cs := []) H hn0 Tryz.underlying27 ti35 rfl rfl (by kernel_rfl) (.nil) rfl) ?_
     rintro _ σq ⟨b3x, rfl, H2, m2⟩
     exact ⟨_, (b3x, a6, c7, b9), rfl, rfl, ⟨H2.sel' [0, 1, 2] rfl rfl, m.comp0 m2⟩, stab [1, 3, 4] (by kernel_rfl) ⟨rfl, rfl, rfl, trivial⟩⟩
    refine ⟨?_, ?_⟩
    ·rintro ⟨b3, a6, c7, b9⟩ ρ σm hJ hoff hdep
     obtain ⟨H, m⟩ := id hJ
     refine dp_ex wn (ex_buildSlice (el := n0) (xs := ([] : List (Int × Int))) (ps := []) (cs := []) H hn0 Tryz.underlying27 ti35 rfl rfl (by kernel_rfl) (.nil) rfl) ?_
     rintro _ σq ⟨b3x, rfl, H2, m2⟩
     exact ⟨_, (b3x, a6, c7, b9), rfl, rfl, ⟨H2.sel' [1, 0, 2, 3] rfl rfl, m.comp0 m2⟩, stab [1, 3, 4] (by kernel_rfl) ⟨rfl, rfl, rfl, trivial⟩⟩
    trivial) ?_
  refine ac rfl (by
    intro k; rintro ⟨b3, a6, c7, b9⟩ ρ σm hJ hoff hdep
    have e0 := look_off (N := 58) (hoff 0 rfl) rfl
    exact dp_v (v := (Sl Au As Av)) wn (rv_move e0) rfl hJ) ?_
  refine all_cons (by
    refine ⟨?_, ?_⟩
    ·rintro ⟨b3, a6, c7, b9⟩ ρ σm hJ hoff hdep
     have e10 := hdep 0 rfl rfl 10 rfl
     have e11 := hdep 1 rfl rfl 11 rfl
     obtain ⟨H, m⟩ := id hJ
     refine dp_ex wn (ex_append H (i := 0) rfl Tryz.underlying27 Tryz.underlying27 ti35 rfl rfl (by decide) ((H.ro 2 rfl).rd.sc) hx5 hn0 e10 e11) ?_
     rintro _ σq ⟨a6x, c7x, rfl, H2, m2⟩
     exact ⟨_, (b3, a6x, c7x, b9), rfl, rfl, ⟨H2.sel' [0, 1, 2] rfl rfl, m.comp m2⟩, stab [0, 1, 3, 4] (by kernel_rfl) ⟨rfl, rfl, rfl, rfl, trivial⟩⟩
    refine ⟨?_, ?_⟩
    ·rintro ⟨b3, a6, c7, b9⟩ ρ σm hJ hoff hdep
     have e10 := hdep 0 rfl rfl 10 rfl
     have e11 := hdep 1 rfl rfl 11 rfl
     obtain ⟨H, m⟩ := id hJ
     refine dp_ex wn (ex_append H (i := 1) rfl Tryz.underlying27 Tryz.underlying27 ti35 rfl rfl (by decide) ((H.ro 3 rfl).rd.sc) hx5 hn0 e10 e11) ?_
     rintro _ σq ⟨a6x, c7x, rfl, H2, m2⟩
     exact ⟨_, (b3, a6x, c7x, b9), rfl, rfl, ⟨H2.sel' [1, 0, 2, 3] rfl rfl, m.comp m2⟩, stab [0, 1, 3, 4] (by kernel_rfl) ⟨rfl, rfl, rfl, rfl, trivial⟩⟩
    trivial) ?_
  refine all_cons (by
    refine ⟨?_, ?_⟩
    ·rintro ⟨b3, a6, c7, b9⟩ ρ σm hJ hoff hdep
     have e4 := look_off (N := 58) (hoff 4 rfl) rfl
     obtain ⟨H, m⟩ := id hJ
     have hc8 := H.cells 0 rfl
     exact dp_v (v := (.agg #[(I Cq.1), (I Cq.2)])) wn (rv_load (cs := [(I Cq.1), (I Cq.2)]) Tryz.underlying35 rfl ti35 e4 rfl hc8) rfl hJ
    refine ⟨?_, ?_⟩
    ·rintro ⟨b3, a6, c7, b9⟩ ρ σm hJ hoff hdep
     have e4 := look_off (N := 58) (hoff 4 rfl) rfl
     obtain ⟨H, m⟩ := id hJ
     have hc8 := H.cells 1 rfl
     exact dp_v (v := (.agg #[(I Cq.1), (I Cq.2)])) wn (rv_load (cs := [(I Cq.1), (I Cq.2)]) Tryz.underlying35 rfl ti35 e4 rfl hc8) rfl hJ
    refine ⟨?_, ?_⟩
    ·rintro ⟨b3, a6, c7, b9⟩ ρ σm hJ hoff hdep
     have e4 := look_off (N := 58) (hoff 4 rfl) rfl
     obtain ⟨H, m⟩ := id hJ
     have hc8 := H.cells 1 rfl
     exact dp_v (v := (.agg #[(I Cq.1), (I Cq.2)])) wn (rv_load (cs := [(I Cq.1), (I Cq.2)]) Tryz.underlying35 rfl ti35 e4 rfl hc8) rfl hJ
    trivial) ?_
  refine all_cons (by
    refine ⟨?_, ?_⟩
    ·rintro ⟨b3, a6, c7, b9⟩ ρ σm hJ hoff hdep
     have e13 : look 58 ρ 13 = (.agg #[(I Cq.1), (I Cq.2)]) := hdep 3 rfl rfl 13 rfl
     obtain ⟨H, m⟩ := id hJ
     refine dp_ex wn (ex_buildSlice (el := n0) (xs := ([(Cq.1, Cq.2)] : List (Int × Int))) (ps := [(0, (.agg #[(I Cq.1), (I Cq.2)]))]) (cs := [(I Cq.1), (I Cq.2)]) H hn0 Tryz.underlying27 ti35 rfl (by show [(0, look 58 ρ 13)] = _; rw [e13]) (by kernel_rfl) (.cons (c := [(I Cq.1), (I Cq.2)]) ⟨[(I Cq.1)], [(I Cq.2)], rfl, rfl, rfl⟩ (.nil)) rfl) ?_
     rintro _ σq ⟨b9x, rfl, H2, m2⟩
     exact ⟨_, (b3, a6, c7, b9x), rfl, rfl, ⟨H2.sel' [0, 1, 2] rfl rfl, m.comp0 m2⟩, stab [0, 1, 2, 3] (by kernel_rfl) ⟨rfl, rfl, rfl, rfl, trivial⟩⟩
    refine ⟨?_, ?_⟩
    ·rintro ⟨b3, a6, c7, b9⟩ ρ σm hJ hoff hdep
     have e13 : look 58 ρ 13 = (.agg #[(I Cq.1), (I Cq.2)]) := hdep 3 rfl rfl 13 rfl
     obtain ⟨H, m⟩ := id hJ
     refine dp_ex wn (ex_buildSlice (el := n0) (xs := ([(Cq.1, Cq.2)] : List (Int × Int))) (ps := [(0, (.agg #[(I Cq.1), (I Cq.2)]))]) (cs := [(I Cq.1), (I Cq.2)]) H hn0 Tryz.underlying27 ti35 rfl (by show [(0, look 58 ρ 13)] = _; rw [e13]) (by kernel_rfl) (.cons (c := [(I Cq.1), (I Cq.2)]) ⟨[(I Cq.1)], [(I Cq.2)], rfl, rfl, rfl⟩ (.nil)) rfl) ?_
     rintro _ σq ⟨b9x, rfl, H2, m2⟩
     exact ⟨_, (b3, a6, c7, b9x), rfl, rfl, ⟨H2.sel' [0, 1, 2, 3] rfl rfl, m.comp0 m2⟩, stab [0, 1, 2, 3] (by kernel_rfl) ⟨rfl, rfl, rfl, rfl, trivial⟩⟩
    refine ⟨?_, ?_⟩
    ·rintro ⟨b3, a6, c7, b9⟩ ρ σm hJ hoff hdep
     have e13 : look 58 ρ 13 = (.agg #[(I Cq.1), (I Cq.2)]) := hdep 3 rfl rfl 13 rfl
     obtain ⟨H, m⟩ := id hJ
     refine dp_ex wn (ex_buildSlice (el := n0) (xs := ([(Cq.1, Cq.2)] : List (Int × Int))) (ps := [(0, (.agg #[(I Cq.1), (I Cq.2)]))]) (cs := [(I Cq.1), (I Cq.2)]) H hn0 Tryz.underlying27 ti35 rfl (by show [(0, look 58 ρ 13)] = _; rw [e13]) (by kernel_rfl) (.cons (c := [(I Cq.1), (I Cq.2)]) ⟨[(I Cq.1)], [(I Cq.2)], rfl, rfl, rfl⟩ (.nil)) rfl) ?_
     rintro _ σq ⟨b9x, rfl, H2, m2⟩
     exact ⟨_, (b3, a6, c7, b9x), rfl, rfl, ⟨H2.sel' [0, 1, 2, 3] rfl rfl, m.comp0 m2⟩, stab [0, 1, 2, 3] (by kernel_rfl) ⟨rfl, rfl, rfl, rfl, trivial⟩⟩
    trivial) ?_
  exact all_nil
 ·rintro ⟨b3, a6, c7, b9⟩ ρ σ10 hJ hoff hrel
  have e2 := look_off (N := 58) (hoff 2 rfl) rfl
  have e12 := hrel 2 rfl 12 rfl
  have e14 := hrel 4 rfl 14 rfl
  obtain ⟨H, -⟩ := (show Hp S0 σ0 σ10 [Ch.own n0 n0 (Sl (some ⟨b9, 0, none⟩) ([(Cq.1, Cq.2)] : List (Int × Int)) 1) ([(Cq.1, Cq.2)] : List (Int × Int)), Ch.own n0 n0 (Sl a6 xs4 c7) xs4, Ch.bx n0 b1 0 [(I Cq.1), (I Cq.2)] [] [], Ch.ro 0 (Sl Au As Av) As] ∧ Md (fun i => (cov []) i ∨ (fun b => blk (Sl (some ⟨b3, 0, none⟩) ([] : List (Int × Int)) 0) = some b) i) σ2 σ10 from hJ)
  clear hJ Hs
  rw [fr_lookL (L := [(2, (I Ge)), (12, (Sl a6 xs4 c7)), (14, (Sl (some ⟨b9, 0, none⟩) ([(Cq.1, Cq.2)] : List (Int × Int)) 1))]) ⟨e2, e12, e14, trivial⟩]
  clear hoff hrel e2 e12 e14
  revert h; refine br fun xs11 hx12 h => ?_
  refine st_ex (ex_append H (i := 1) rfl Tryz.underlying27 Tryz.underlying27 ti35 rfl rfl (by decide) (H.own 0 rfl).rd hx12 hn0 rfl rfl) wn ?_
  rintro _ σ15 ⟨a13, c14, rfl, H, -⟩
  refine sa (Sl a13 xs11 c14) rfl (w_end (q_then (c_seq (c_seq (rg (sm (Sl a13 xs11 c14) rfl (st (v := (I (xs11.length : Int))) (rv_len Tryz.underlying27 rfl) (st (v := (I (w64 ((xs11.length : Int) - 1)))) (rv_sub (a := (xs11.length : Int)) (b := 1) rfl rfl) (sa (I (w64 ((xs11.length : Int) - 1))) rfl (w_end (q_then ?_)))))))))))
  obtain ⟨o16, hj, h'⟩ := bind_some h
  clear h
  refine c_cut (fun e a w => e = .normal ∧ ∃ (ρ : Nat → Value) (σ : St), a = fr 58 (updL ρ [(2, (I Ge)), (7, (Sl a13 o16 c14))]) ∧ w = σ.w ∧ Hp S0 σ0 σ [Ch.own n0 n0 (Sl a13 o16 c14) o16] ∧ o16.length = xs11.length) ?_ ?_
  ·clear h'
   rename _ = some o16 => h
   refine c_blk (wp_loopM _ h (fun s17 a w => ∃ (ρ : Nat → Value) (σ : St), a = fr 58 (updL ρ [(2, (I Ge)), (7, (Sl a13 s17.1 c14)), (8, (I s17.2))]) ∧ w = σ.w ∧ Hp S0 σ0 σ [Ch.own n0 n0 (Sl a13 s17.1 c14) s17.1] ∧ s17.1.length = xs11.length) ⟨_, σ15, fr_join ⟨rfl, rfl, rfl, trivial⟩, rfl, H.sel' [0] rfl rfl, rfl⟩ ?_)
   clear h H
   rintro s17 a w o ⟨ρ, σ18, rfl, rfl, H, hn19⟩ h hres
   refine c_seq (c_seq ?_)
   obtain ⟨o20, hj, h'⟩ := bind_some h
   clear h
   refine c_cut (fun e a w => e = .normal ∧ ∃ (ρ : Nat → Value) (σ : St), a = fr 58 (updL ρ [(2, (I Ge)), (7, (Sl a13 s17.1 c14)), (8, (I s17.2)), (32, (B o20))]) ∧ w = σ.w ∧ Hp S0 σ0 σ [Ch.own n0 n0 (Sl a13 s17.1 c14) s17.1]) ?_ ?_
   ·clear h'
    rename _ = some o20 => h
    refine rgP (σ := σ18) 12 (by kernel_rfl) (by kernel_rfl) (by kernel_rfl) ?_
    refine sq (v := (I s17.2)) (rv_move rfl) (sq (v := (B (decide (0 < s17.2)))) (rv_gtr (a := s17.2) (b := 0) rfl rfl) (sq (v := (B (decide (0 < s17.2)))) (rv_move rfl) ?_))
    rcases Bool.eq_false_or_eq_true (decide (0 < s17.2)) with hb21 | hb21
    ·replace h := bif_t hb21 h
     refine sq_g (v := (Sl a13 s17.1 c14)) (congrArg some hb21) (rv_move rfl) (sq_g (v := (I s17.2)) (congrArg some hb21) (rv_move rfl) ?_)
     revert h; refine br fun x22 hx23 h => ?_
     obtain ⟨b25, o26, hi24, -⟩ := (H.own 0 rfl).ix hx23
     refine sq_g (v := (pt b25 o26)) (congrArg some hb21) (rv_ix Tryz.underlying27 ti35 rfl rfl hi24) ?_
     obtain ⟨_, ⟨_, _, rfl, rfl, rfl⟩, hl27, hc28⟩ := ((H.own 0 rfl).at hx23 hi24).cells
     refine sq_g (v := (.agg #[(I x22.1), (I x22.2)])) (congrArg some hb21) (rv_load Tryz.underlying35 rfl ti35 rfl hl27 hc28) (sq_g (v := (Sl a13 s17.1 c14)) (congrArg some hb21) (rv_move rfl) (sq_g (v := (I s17.2)) (congrArg some hb21) (rv_move rfl) (sq_g (v := (I (w64 (s17.2 - 1)))) (congrArg some hb21) (rv_sub (a := s17.2) (b := 1) rfl rfl) ?_)))
     revert h; refine br fun x29 hx30 h => ?_
     obtain ⟨b32, o33, hi31, -⟩ := (H.own 0 rfl).ix hx30
     refine sq_g (v := (pt b32 o33)) (congrArg some hb21) (rv_ix Tryz.underlying27 ti35 rfl rfl hi31) ?_
     obtain ⟨_, ⟨_, _, rfl, rfl, rfl⟩, hl34, hc35⟩ := ((H.own 0 rfl).at hx30 hi31).cells
     refine sq_g (v := (.agg #[(I x29.1), (I x29.2)])) (congrArg some hb21) (rv_load Tryz.underlying35 rfl ti35 rfl hl34 hc35) (sq_end ?_)
     intro σ36 hm37
     replace H := H.grow (hm37.mono fun _ h => h); clear hm37
     revert h; refine br fun r38 hx39 h => ?_
     have hc40 := c_spec_nearer hx39
     refine st_call (cx_call hc40 (ent_f hc40.fn rfl) hn0 (H.sel' [0] rfl rfl : Hp S0 σ0 _ ([] ++ _))) (wanted_yes rfl (by exact (congrArg some hb21))) ?_
     rintro _ σ41 ⟨_, ⟨rfl, rfl⟩, H, -⟩
     replace H : Hp _ _ _ [_] := H
     refine st (v := (B r38)) (rv_pick_t (congrArg B hb21) rfl) (w_end ?_)
     obtain rfl := sj h
     exact ⟨rfl, _, σ41, fr_join ⟨rfl, rfl, rfl, rfl, trivial⟩, rfl, H.sel' [0] rfl rfl⟩
    ·replace h := bif_f hb21 h
     refine sq_skip (congrArg some hb21) (sq_skip (congrArg some hb21) (sq_skip (congrArg some hb21) (sq_skip (congrArg some hb21) (sq_skip (congrArg some hb21) (sq_skip (congrArg some hb21) (sq_skip (congrArg some hb21) (sq_skip (congrArg some hb21) (sq_skip (congrArg some hb21) (sq_end ?_)))))))))
     intro σ42 hm43
     replace H := H.grow (hm43.mono fun _ h => h); clear hm43
     refine st_skip (congrArg some hb21) (st (v := (B false)) (rv_pick_f (congrArg B hb21) rfl) (w_end ?_))
     obtain rfl := sj h
     exact ⟨rfl, _, σ42, fr_join ⟨rfl, rfl, rfl, rfl, trivial⟩, rfl, H.sel' [0] rfl rfl⟩
   ·clear hj
    have h := h'
    clear h' H
    rintro e a w ⟨rfl, ρ, σ44, rfl, rfl, H⟩
    refine q_then ?_
    refine cd_cond o20 rfl (fun hb45 => ?_) (fun hb45 => ?_)
    ·replace h := bif_t hb45 h
     refine c_skip (q_then (c_seq (c_blk (c_seq (rg (sm (Sl a13 s17.1 c14) rfl (sm (I s17.2) rfl ?_)))))))
     revert h; refine br fun x46 hx47 h => ?_
     obtain ⟨b49, o50, hi48, -⟩ := (H.own 0 rfl).ix hx47
     refine st (v := (pt b49 o50)) (rv_ix Tryz.underlying27 ti35 rfl rfl hi48) ?_
     obtain ⟨_, ⟨_, _, rfl, rfl, rfl⟩, hl51, hc52⟩ := ((H.own 0 rfl).at hx47 hi48).cells
     refine st (v := (.agg #[(I x46.1), (I x46.2)])) (rv_load Tryz.underlying35 rfl ti35 rfl hl51 hc52) (st_ex (ex_alloc (cs := [(I 0), (I 0)]) H hn0 ti35 rfl) wn ?_)
     rintro _ σ54 ⟨b53, rfl, H, -⟩
     refine st_exS (ex_store_box (k := 0) (cs := [(I 0), (I 0)]) (vs := [(I x46.1), (I x46.2)]) (cs' := [(I x46.1), (I x46.2)]) H (i := 0) rfl ti35 rfl rfl rfl rfl rfl (Nat.le_of_ble_eq_true rfl) (by simp [plain]) rfl) wn ?_
     rintro σ55 ⟨H, -⟩
     refine w_end (q_then (c_seq (rg (sm (Sl a13 s17.1 c14) rfl (sm (I s17.2) rfl (sm (Sl a13 s17.1 c14) rfl (sm (I s17.2) rfl (st (v := (I (w64 (s17.2 - 1)))) (rv_sub (a := s17.2) (b := 1) rfl rfl) ?_))))))))
     revert h; refine br fun x56 hx57 h => ?_
     obtain ⟨b59, o60, hi58, -⟩ := (H.own 1 rfl).ix hx57
     refine st (v := (pt b59 o60)) (rv_ix Tryz.underlying27 ti35 rfl rfl hi58) ?_
     obtain ⟨_, ⟨_, _, rfl, rfl, rfl⟩, hl61, hc62⟩ := ((H.own 1 rfl).at hx57 hi58).cells
     refine st (v := (.agg #[(I x56.1), (I x56.2)])) (rv_load Tryz.underlying35 rfl ti35 rfl hl61 hc62) ?_
     revert h; refine br fun x63 hx64 h => ?_
     obtain ⟨b66, o67, hi65, -⟩ := (H.own 1 rfl).ix hx64
     refine st (v := (pt b66 o67)) (rv_ix Tryz.underlying27 ti35 rfl rfl hi65) ?_
     refine st_exS (ex_store_own (e' := (x56.1, x56.2)) (vs := [(I x56.1), (I x56.2)]) (k := 0) H (i := 1) rfl ti35 hx64 hi65 rfl rfl rfl rfl rfl (Nat.le_of_ble_eq_true rfl) (by simp [plain]) (by rintro _ ⟨_, _, rfl, rfl, rfl⟩; exact ⟨[(I x56.1)], [(I x56.2)], rfl, rfl, rfl⟩)) wn ?_
     rintro σ68 ⟨H, -⟩
     have hsl : (Sl a13 s17.1 c14) = (Sl a13 (s17.1.set s17.2.toNat (x56.1, x56.2)) c14) := sl_len List.length_set.symm
     rw [hsl]; rw [hsl] at H; clear hsl
     refine w_end (q_then (rg (sm (Sl a13 (s17.1.set s17.2.toNat (x56.1, x56.2)) c14) rfl (sm (I s17.2) rfl (st (v := (I (w64 (s17.2 - 1)))) (rv_sub (a := s17.2) (b := 1) rfl rfl) ?_)))))
     have hc69 := H.cells 1 rfl
     refine st (v := (.agg #[(I x46.1), (I x46.2)])) (rv_load (cs := [(I x46.1), (I x46.2)]) Tryz.underlying35 rfl ti35 rfl rfl hc69) ?_
     revert h; refine br fun x70 hx71 h => ?_
     obtain ⟨b73, o74, hi72, -⟩ := (H.own 0 rfl).ix hx71
     refine st (v := (pt b73 o74)) (rv_ix Tryz.underlying27 ti35 rfl rfl hi72) ?_
     refine st_exS (ex_store_own (e' := (x46.1, x46.2)) (vs := [(I x46.1), (I x46.2)]) (k := 0) H (i := 0) rfl ti35 hx71 hi72 rfl rfl rfl rfl rfl (Nat.le_of_ble_eq_true rfl) (by simp [plain]) (by rintro _ ⟨_, _, rfl, rfl, rfl⟩; exact ⟨[(I x46.1)], [(I x46.2)], rfl, rfl, rfl⟩)) wn ?_
     rintro σ75 ⟨H, -⟩
     have hsl : (Sl a13 (s17.1.set s17.2.toNat (x56.1, x56.2)) c14) = (Sl a13 ((s17.1.set s17.2.toNat (x56.1, x56.2)).set (w64 (s17.2 - 1)).toNat (x46.1, x46.2)) c14) := sl_len List.length_set.symm
     rw [hsl]; rw [hsl] at H; clear hsl
     refine w_end (q_blk (q_then (rg (sm (I s17.2) rfl (st (v := (I (w64 (s17.2 - 1)))) (rv_sub (a := s17.2) (b := 1) rfl rfl) (sa (I (w64 (s17.2 - 1))) rfl (w_end (q_then ?_))))))))
     obtain rfl := sj h
     exact ⟨_, rfl, _, σ75, fr_join ⟨rfl, rfl, rfl, trivial⟩, rfl, H.sel' [0] rfl rfl, (List.length_set.trans (List.length_set.trans hn19))⟩
    ·replace h := bif_f hb45 h
     refine c_exit (q_then_x (q_then_x (q_blk_hit ?_)))
     obtain rfl := sj h
     obtain rfl := hres _ rfl
     exact ⟨rfl, _, σ44, fr_join ⟨rfl, rfl, trivial⟩, rfl, H.sel' [0] rfl rfl, hn19⟩
  ·clear hj
   have h := h'
   clear h' H
   rintro e a w ⟨rfl, ρ, σ76, rfl, rfl, H, hn77⟩
   refine q_then (c_seq (rg (sm (Sl a13 o16 c14) rfl (sm (I Ge) rfl (sm (Sl a13 o16 c14) rfl (st (v := (I (o16.length : Int))) (rv_len Tryz.underlying27 rfl) (st (v := (I (min Ge (o16.length : Int)))) (rv_min rfl rfl) ?_)))))))
   revert h; refine br fun xs78 hx79 h => ?_
   obtain ⟨a80, c81, hs82, hR83, hb84⟩ := (H.own 0 rfl).slice hx79
   replace H := (H.front (i := 0) rfl).turn (d := Ch.own n0 n0 (Sl a80 xs78 c81) xs78) (fun _ => hR83) hb84; clear hR83 hb84
   refine st (v := (Sl a80 xs78 c81)) (rv_slice_h Tryz.underlying27 ti35 hs82 rfl rfl) (sa (Sl a80 xs78 c81) rfl (w_end (q_then (c_ret ?_))))
   obtain rfl := sj h
   exact fin_ret (v := (Sl a80 xs78 c81)) (results_ok Tryz.results38 (res_tmp (v := (Sl a80 xs78 c81)) rfl res_nil) rfl) ⟨a80, c81, rfl, rfl⟩ (H.sel' [0] rfl rfl)

theorem c_spec_size {Ax : Int}  {r : Int} (h : M.spec_size Ax = some r) :
    Cal2 Tryz.prog 55 [(I Ax)] [] (fun n0 v L => v = (I r) ∧ L = []) := by
 refine cal2 (n := 7) Tryz.func55 rfl rfl rfl rfl ?_
 intro S0 σ0 n0 hn0 H
 unfold M.spec_size at h
 refine c_seq (rg (sa (I 0) rfl (w_end (q_then (c_seq (rg (sm (I Ax) rfl (sm (I Ax) rfl (st (v := (I (w64 (0 - Ax)))) (rv_neg (a := Ax) rfl) (st (v := (I (max Ax (w64 (0 - Ax))))) (rv_max rfl rfl) (sa (I (max Ax (w64 (0 - Ax)))) rfl ?_)))))))))))
 refine w_end (q_then (c_ret ?_))
 obtain rfl := sj h
 exact fin_ret (v := (I (max Ax (w64 (0 - Ax))))) (results_ok Tryz.results55 (res_tmp (v := (I (max Ax (w64 (0 - Ax))))) rfl res_nil) rfl) ⟨rfl, rfl⟩ (H.sel' [] rfl rfl)

theorem c_spec_toInt {Gf : Bool}  {r : Int} (h : M.spec_toInt Gf = some r) :
    Cal2 Tryz.prog 56 [(B Gf)] [] (fun n0 v L => v = (I r) ∧ L = []) := by
 refine cal2 (n := 4) Tryz.func56 rfl rfl rfl rfl ?_
 intro S0 σ0 n0 hn0 H
 unfold M.spec_toInt at h
 refine c_seq (rg (sa (I 0) rfl (w_end (q_then (c_seq (c_seq (rg (sm (B Gf) rfl (w_end (q_then ?_))))))))))
 refine cd_cond Gf rfl (fun hb1 => ?_) (fun hb1 => ?_)
 ·replace h := bif_t hb1 h
  refine c_seq (rg (sa (I 1) rfl (w_end (q_then (c_ret (q_then_r ?_))))))
  obtain rfl := sj h
  exact fin_ret (v := (I 1)) (results_ok Tryz.results56 (res_tmp (v := (I 1)) rfl res_nil) rfl) ⟨rfl, rfl⟩ (H.sel' [] rfl rfl)
 ·replace h := bif_f hb1 h
  refine c_skip (q_then (c_seq (rg (sa (I 0) rfl (w_end (q_then (c_ret ?_)))))))
  obtain rfl := sj h
  exact fin_ret (v := (I 0)) (results_ok Tryz.results56 (res_tmp (v := (I 0)) rfl res_nil) rfl) ⟨rfl, rfl⟩ (H.sel' [] rfl rfl)

theorem c_spec_dist {Bo : Int} {Eb : List Int} {Ec : List Int} {Ed : Option Addr} {Ee : Nat} {Ef : Option Addr} {Eg : Nat} {r : Int} (h : M.spec_dist Bo Eb Ec = some r) :
    Cal2 Tryz.prog 39 [(I Bo), (Sl Ed Eb Ee), (Sl Ef Ec Eg)] [Ch.ro 0 (Sl Ed Eb Ee) Eb, Ch.ro 0 (Sl Ef Ec Eg) Ec] (fun n0 v L => v = (I r) ∧ L = []) := by
 refine cal2 (n := 50) Tryz.func39 rfl rfl rfl rfl ?_
 intro S0 σ0 n0 hn0 H
 unfold M.spec_dist at h
 refine c_seq (rg (sa (I 0) rfl (w_end (q_then (c_seq (rg (sa (I 0) rfl (w_end (q_then (c_seq (c_seq ?_)))))))))))
 refine rg (sa (I 0) rfl (w_end (q_then ?_)))
 obtain ⟨o1, hj, h'⟩ := bind_some h
 clear h
 refine c_cut (fun e a w => e = .normal ∧ ∃ (ρ : Nat → Value) (σ : St), a = fr 50 (updL ρ [(7, (I o1))]) ∧ w = σ.w ∧ Hp S0 σ0 σ []) ?_ ?_
 ·clear h'
  rename _ = some o1 => h
  refine c_blk (wp_loopM _ h (fun s2 a w => ∃ (ρ : Nat → Value) (σ : St), a = fr 50 (updL ρ [(0, (I Bo)), (1, (Sl Ed Eb Ee)), (2, (Sl Ef Ec Eg)), (7, (I s2.1)), (8, (I s2.2))]) ∧ w = σ.w ∧ Hp S0 σ0 σ [Ch.ro 0 (Sl Ed Eb Ee) Eb, Ch.ro 0 (Sl Ef Ec Eg) Ec]) ⟨_, σ0, fr_join ⟨rfl, rfl, rfl, rfl, rfl, trivial⟩, rfl, H.sel' [0, 1] rfl rfl⟩ ?_)
  clear h H
  rintro s2 a w o ⟨ρ, σ3, rfl, rfl, H⟩ h hres
  refine c_seq (c_seq (rg (sm (I s2.2) rfl (sm (Sl Ed Eb Ee) rfl (st (v := (I (Eb.length : Int))) (rv_len Tryz.underlying24 rfl) (st (v := (B (decide (s2.2 < (Eb.length : Int))))) (rv_lss (a := s2.2) (b := (Eb.length : Int)) rfl rfl) (w_end (q_then ?_))))))))
  refine cd_cond (decide (s2.2 < (Eb.length : Int))) rfl (fun hb4 => ?_) (fun hb4 => ?_)
  ·replace h := bif_t hb4 h
   refine c_skip (q_then (c_seq ?_))
   obtain ⟨o5, hj, h'⟩ := bind_some h
   clear h
   refine c_cut (fun e a w => e = .normal ∧ ∃ (ρ : Nat → Value) (σ : St), a = fr 50 (updL ρ [(0, (I Bo)), (1, (Sl Ed Eb Ee)), (2, (Sl Ef Ec Eg)), (7, (I o5)), (8, (I s2.2))]) ∧ w = σ.w ∧ Hp S0 σ0 σ [Ch.ro 0 (Sl Ed Eb Ee) Eb, Ch.ro 0 (Sl Ef Ec Eg) Ec]) ?_ ?_
   ·clear h'
    rename _ = some o5 => h
    refine c_blk (c_seq ?_)
    refine rgP (σ := σ3) 8 (by kernel_rfl) (by kernel_rfl) (by kernel_rfl) ?_
    refine sq (v := (Sl Ed Eb Ee)) (rv_move rfl) (sq (v := (I s2.2)) (rv_move rfl) ?_)
    revert h; refine br fun x6 hx7 h => ?_
    obtain ⟨b9, o10, hi8, -⟩ := (H.ro 0 rfl).ix hx7
    refine sq (v := (pt b9 o10)) (rv_ix Tryz.underlying24 ti3 rfl rfl hi8) ?_
    have hc11 := ((H.ro 0 rfl).at hx7 hi8).int
    refine sq (v := (I x6)) (rv_load1 Tryz.underlying3 rfl rfl hc11) (sq (v := (Sl Ef Ec Eg)) (rv_move rfl) (sq (v := (I s2.2)) (rv_move rfl) ?_))
    revert h; refine br fun x12 hx13 h => ?_
    obtain ⟨b15, o16, hi14, -⟩ := (H.ro 1 rfl).ix hx13
    refine sq (v := (pt b15 o16)) (rv_ix Tryz.underlying24 ti3 rfl rfl hi14) ?_
    have hc17 := ((H.ro 1 rfl).at hx13 hi14).int
    refine sq (v := (I x12)) (rv_load1 Tryz.underlying3 rfl rfl hc17) (sq_end ?_)
    intro σ18 hm19
    replace H := H.grow (hm19.mono fun _ h => h); clear hm19
    refine st (v := (I (w64 (x6 - x12)))) (rv_sub (a := x6) (b := x12) rfl rfl) ?_
    revert h; refine br fun r20 hx21 h => ?_
    have hc22 := c_spec_size hx21
    refine st_call (cx_call hc22 (ent_f hc22.fn rfl) hn0 (H.sel' [0, 1] rfl rfl : Hp S0 σ0 _ ([] ++ _))) wn ?_
    rintro _ σ23 ⟨_, ⟨rfl, rfl⟩, H, -⟩
    replace H : Hp _ _ _ [_, _] := H
    refine sa (I r20) rfl (w_end (q_then (c_seq (rg (sm (I Bo) rfl (w_end (q_then (c_blk (c_seq (rg (st (v := (B (Bo == 1))) (rv_eql (a := Bo) (b := 1) rfl rfl) ?_)))))))))))
    refine sa (B (Bo == 1)) rfl (w_end (q_then ?_))
    refine cd_cond (Bo == 1) rfl (fun hb24 => ?_) (fun hb24 => ?_)
    ·replace h := bif_t hb24 h
     refine rg (sm (I s2.1) rfl (sm (I r20) rfl (st (v := (I (w64 (s2.1 + r20)))) (rv_add (a := s2.1) (b := r20) rfl rfl) (sa (I (w64 (s2.1 + r20))) rfl (w_end (q_blk (q_blk ?_)))))))
     obtain rfl := sj h
     exact ⟨rfl, _, σ23, fr_join ⟨rfl, rfl, rfl, rfl, rfl, trivial⟩, rfl, H.sel' [0, 1] rfl rfl⟩
    ·replace h := bif_f hb24 h
     refine c_seq (rg (st (v := (B (Bo == 2))) (rv_eql (a := Bo) (b := 2) rfl rfl) (sa (B (Bo == 2)) rfl (w_end (q_then ?_)))))
     refine cd_cond (Bo == 2) rfl (fun hb25 => ?_) (fun hb25 => ?_)
     ·replace h := bif_t hb25 h
      refine rg (sm (I s2.1) rfl (sm (I r20) rfl (st (v := (I (max s2.1 r20))) (rv_max rfl rfl) (sa (I (max s2.1 r20)) rfl (w_end (q_blk (q_blk ?_)))))))
      obtain rfl := sj h
      exact ⟨rfl, _, σ23, fr_join ⟨rfl, rfl, rfl, rfl, rfl, trivial⟩, rfl, H.sel' [0, 1] rfl rfl⟩
     ·replace h := bif_f hb25 h
      refine c_seq (rg (st (v := (B (Bo == 3))) (rv_eql (a := Bo) (b := 3) rfl rfl) (sa (B (Bo == 3)) rfl (w_end (q_then ?_)))))
      refine cd_cond (Bo == 3) rfl (fun hb26 => ?_) (fun hb26 => ?_)
      ·replace h := bif_t hb26 h
       refine rg (sm (I s2.1) rfl (sm (I r20) rfl (sm (I r20) rfl (st (v := (I (w64 (r20 * r20)))) (rv_mul (a := r20) (b := r20) rfl rfl) (st (v := (I (w64 (s2.1 + (w64 (r20 * r20)))))) (rv_add (a := s2.1) (b := (w64 (r20 * r20))) rfl rfl) (sa (I (w64 (s2.1 + (w64 (r20 * r20))))) rfl (w_end (q_blk (q_blk ?_)))))))))
       obtain rfl := sj h
       exact ⟨rfl, _, σ23, fr_join ⟨rfl, rfl, rfl, rfl, rfl, trivial⟩, rfl, H.sel' [0, 1] rfl rfl⟩
      ·replace h := bif_f hb26 h
       refine rg (sm (I s2.1) rfl (sm (I r20) rfl (st (v := (B (decide (0 < r20)))) (rv_gtr (a := r20) (b := 0) rfl rfl) ?_)))
       revert h; refine br fun r27 hx28 h => ?_
       have hc29 := c_spec_toInt hx28
       refine st_call (cx_call hc29 (ent_f hc29.fn rfl) hn0 (H.sel' [0, 1] rfl rfl : Hp S0 σ0 _ ([] ++ _))) wn ?_
       rintro _ σ30 ⟨_, ⟨rfl, rfl⟩, H, -⟩
       replace H : Hp _ _ _ [_, _] := H
       refine st (v := (I (w64 (s2.1 + r27)))) (rv_add (a := s2.1) (b := r27) rfl rfl) (sa (I (w64 (s2.1 + r27))) rfl (w_end (q_blk (q_blk ?_))))
       obtain rfl := sj h
       exact ⟨rfl, _, σ30, fr_join ⟨rfl, rfl, rfl, rfl, rfl, trivial⟩, rfl, H.sel' [0, 1] rfl rfl⟩
   ·clear hj
    have h := h'
    clear h' H
    rintro e a w ⟨rfl, ρ, σ31, rfl, rfl, H⟩
    refine q_then (rg (sm (I s2.2) rfl (st (v := (I (w64 (s2.2 + 1)))) (rv_add (a := s2.2) (b := 1) rfl rfl) (sa (I (w64 (s2.2 + 1))) rfl (w_end (q_then ?_))))))
    obtain rfl := sj h
    exact ⟨_, rfl, _, σ31, fr_join ⟨rfl, rfl, rfl, rfl, rfl, trivial⟩, rfl, H.sel' [0, 1] rfl rfl⟩
  ·replace h := bif_f hb4 h
   refine c_exit (q_then_x (q_then_x (q_blk_hit ?_)))
   obtain rfl := sj h
   obtain rfl := hres _ rfl
   exact ⟨rfl, _, σ3, fr_join ⟨rfl, trivial⟩, rfl, H.sel' [] rfl rfl⟩
 ·clear hj
  have h := h'
  clear h' H
  rintro e a w ⟨rfl, ρ, σ32, rfl, rfl, H⟩
  refine q_then (c_seq (rg (sm (I o1) rfl (sa (I o1) rfl (w_end (q_then (c_ret ?_)))))))
  obtain rfl := sj h
  exact fin_ret (v := (I o1)) (results_ok Tryz.results39 (res_tmp (v := (I o1)) rfl res_nil) rfl) ⟨rfl, rfl⟩ (H.sel' [] rfl rfl)

theorem c_spec_nearest {As : List (Int × (List Int) × Int)} {Bq : Int} {Br : List Int} {Bs : Int} {Au : Option Addr} {Av : Nat} {Bt : Option Addr} {Bu : Nat} {r : (List (Int × Int))} (h : M.spec_nearest As Bq Br Bs = some r) :
    Cal2 Tryz.prog 19 [(Sl Au As Av), (I Bq), (Sl Bt Br Bu), (I Bs)] [Ch.ro 0 (Sl Au As Av) As, Ch.ro 0 (Sl Bt Br Bu) Br] (fun n0 v L => ∃ (az1 : Option Addr), ∃ (cz2 : Nat), v = (Sl az1 r cz2) ∧ L = [Ch.own n0 n0 (Sl az1 r cz2) r]) := by
 refine cal2 (n := 36) Tryz.func19 rfl rfl rfl rfl ?_
 intro S0 σ0 n0 hn0 H
 unfold M.spec_nearest at h
 refine c_seq (rg (sa (.slice none 0 0) rfl (w_end (q_then (c_seq (rg ?_))))))
 refine st_ex (ex_buildSlice (el := n0) (xs := ([] : List (Int × Int))) (ps := []) (cs := []) H hn0 Tryz.underlying27 ti35 rfl rfl (by kernel_rfl) (.nil) rfl) wn ?_
 rintro _ σ2 ⟨b1, rfl, H, -⟩
 refine sa (Sl (some ⟨b1, 0, none⟩) ([] : List (Int × Int)) 0) rfl (w_end (q_then (c_seq (c_seq (rg (sa (I 0) rfl (w_end (q_then ?_))))))))
 obtain ⟨o3, hj, h'⟩ := bind_some h
 clear h
 refine c_cut (fun e a w => e = .normal ∧ ∃ (ρ : Nat → Value) (σ : St) (aj1 : Option Addr) (cj2 : Nat), a = fr 36 (updL ρ [(9, (Sl aj1 o3 cj2))]) ∧ w = σ.w ∧ Hp S0 σ0 σ [Ch.own n0 n0 (Sl aj1 o3 cj2) o3]) ?_ ?_
 ·clear h'
  rename _ = some o3 => h
  refine c_blk (wp_loopM _ h (fun s4 a w => ∃ (ρ : Nat → Value) (σ : St) (aj1 : Option Addr) (cj2 : Nat), a = fr 36 (updL ρ [(0, (Sl Au As Av)), (1, (I Bq)), (2, (Sl Bt Br Bu)), (3, (I Bs)), (9, (Sl aj1 s4.1 cj2)), (10, (I s4.2))]) ∧ w = σ.w ∧ Hp S0 σ0 σ [Ch.ro 0 (Sl Au As Av) As, Ch.ro 0 (Sl Bt Br Bu) Br, Ch.own n0 n0 (Sl aj1 s4.1 cj2) s4.1]) ⟨_, σ2, (some ⟨b1, 0, none⟩), 0, fr_join ⟨rfl, rfl, rfl, rfl, rfl, rfl, trivial⟩, rfl, H.sel' [1, 2, 0] rfl rfl⟩ ?_)
  clear h H
  rintro s4 a w o ⟨ρ, σ5, a6, c7, rfl, rfl, H⟩ h hres
  refine c_seq (c_seq (rg (sm (I s4.2) rfl (sm (Sl Au As Av) rfl (st (v := (I (As.length : Int))) (rv_len Tryz.underlying23 rfl) (st (v := (B (decide (s4.2 < (As.length : Int))))) (rv_lss (a := s4.2) (b := (As.length : Int)) rfl rfl) (w_end (q_then ?_))))))))
  refine cd_cond (decide (s4.2 < (As.length : Int))) rfl (fun hb8 => ?_) (fun hb8 => ?_)
  ·replace h := bif_t hb8 h
   refine c_skip (q_then (c_seq (c_blk ?_)))
   revert h; refine br fun x9 hx10 h => ?_
   obtain ⟨b12, o13, hi11, -⟩ := (H.ro 0 rfl).ix hx10
   have hc14 := ((H.ro 0 rfl).at hx10 hi11).fst.int
   revert h; refine br fun x15 hx16 h => ?_
   obtain ⟨b18, o19, hi17, -⟩ := (H.ro 0 rfl).ix hx16
   obtain ⟨v23, hc24, hR22⟩ := ((H.ro 0 rfl).at hx16 hi17).snd.fst.slice
   obtain ⟨a20, c21, rfl⟩ := hR22.isSl
   replace H := H.add (d := Ch.ro 0 (Sl a20 x15.2.1 c21) x15.2.1) hR22 (fun _ h => h)
   clear hR22
   revert h; refine br fun r25 hx26 h => ?_
   have hc27 := c_spec_dist (Ed := a20) (Ee := c21) (Ef := Bt) (Eg := Bu) hx26
   have Hs := H
   refine rg2 (σ := σ5) (Nm := Unit) 16 [13] [[false], [true]] [[(0, 0), (1, 1)], [(0, 0), (1, 1)], [(0, 0), (1, 1)], [(0, 0), (1, 1)], [(0, 0), (1, 1)], [(0, 0), (1, 1)], [(0, 0)], [(0, 0)], [(0, 0)], [(0, 0)], [(0, 0)], [(0, 0)], [(0, 0)], [(0, 1)], [(1, 1)], [(0, 0), (1, 1)]] 1 [fun _ => fun σm => Hp S0 σ0 σm [Ch.ro 0 (Sl a20 x15.2.1 c21) x15.2.1, Ch.ro 0 (Sl Au As Av) As, Ch.ro 0 (Sl Bt Br Bu) Br, Ch.own n0 n0 (Sl a6 s4.1 c7) s4.1] ∧ Md (cov []) σ5 σm, fun _ => fun σm => Hp S0 σ0 σm [Ch.ro 0 (Sl a20 x15.2.1 c21) x15.2.1, Ch.ro 0 (Sl Au As Av) As, Ch.ro 0 (Sl Bt Br Bu) Br, Ch.own n0 n0 (Sl a6 s4.1 c7) s4.1] ∧ Md (cov []) σ5 σm] [fun _ => (Sl a6 s4.1 c7), fun _ => (Sl Au As Av), fun _ => (I s4.2), fun _ => (pt b12 o13), fun _ => (pt b12 (o13 + 0)), fun _ => (I x9.1), fun _ => (I Bq), fun _ => (Sl Au As Av), fun _ => (I s4.2), fun _ => (pt b18 o19), fun _ => (pt b18 (o19 + 1)), fun _ => (Sl a20 x15.2.1 c21), fun _ => (Sl Bt Br Bu), fun _ => (I r25), fun _ => (.agg #[(I x9.1), (I r25)]), fun _ => (I Bs)] () (by kernel_rfl) (by kernel_rfl) ?_ ?_ ?_
   ·intro σm m0
    exact ⟨H.grow (m0.mono fun _ h => h.elim), m0⟩
   ·refine ac rfl (by
      intro k _nm ρ σm hJ hoff hdep
      have e9 := look_off (N := 36) (hoff 9 rfl) rfl
      exact dp_v (v := (Sl a6 s4.1 c7)) wn (rv_move e9) rfl hJ) ?_
    refine ac rfl (by
      intro k _nm ρ σm hJ hoff hdep
      have e0 := look_off (N := 36) (hoff 0 rfl) rfl
      exact dp_v (v := (Sl Au As Av)) wn (rv_move e0) rfl hJ) ?_
    refine ac rfl (by
      intro k _nm ρ σm hJ hoff hdep
      have e10 := look_off (N := 36) (hoff 10 rfl) rfl
      exact dp_v (v := (I s4.2)) wn (rv_move e10) rfl hJ) ?_
    refine ac rfl (by
      intro k _nm ρ σm hJ hoff hdep
      have e19 := hdep 1 rfl rfl 19 rfl
      have e20 := hdep 2 rfl rfl 20 rfl
      exact dp_v (v := (pt b12 o13)) wn (rv_ix Tryz.underlying23 ti44 e19 e20 hi11) rfl hJ) ?_
    refine ac rfl (by
      intro k _nm ρ σm hJ hoff hdep
      have e21 := hdep 3 rfl rfl 21 rfl
      exact dp_v (v := (pt b12 (o13 + 0))) wn (rv_fieldAddr (off := 0) (ft := 3) Tryz.underlying44 rfl ti3 rfl e21) rfl hJ) ?_
    refine all_cons (by
      refine ⟨?_, ?_⟩
      ·intro _nm ρ σm hJ hoff hdep
       have e22 := hdep 4 rfl rfl 22 rfl
       obtain ⟨H, m⟩ := id hJ
       replace hc14 := (Hs.ro 1 rfl).hmd hx10 hi11 (k := 0) (by decide) hc14 m
       exact dp_v (v := (I x9.1)) wn (rv_load1 Tryz.underlying3 rfl e22 hc14) rfl hJ
      refine ⟨?_, ?_⟩
      ·intro _nm ρ σm hJ hoff hdep
       have e22 := hdep 4 rfl rfl 22 rfl
       obtain ⟨H, m⟩ := id hJ
       replace hc14 := (Hs.ro 1 rfl).hmd hx10 hi11 (k := 0) (by decide) hc14 m
       exact dp_v (v := (I x9.1)) wn (rv_load1 Tryz.underlying3 rfl e22 hc14) rfl hJ
      trivial) ?_
    refine ac rfl (by
      intro k _nm ρ σm hJ hoff hdep
      have e1 := look_off (N := 36) (hoff 1 rfl) rfl
      exact dp_v (v := (I Bq)) wn (rv_move e1) rfl hJ) ?_
    refine ac rfl (by
      intro k _nm ρ σm hJ hoff hdep
      have e0 := look_off (N := 36) (hoff 0 rfl) rfl
      exact dp_v (v := (Sl Au As Av)) wn (rv_move e0) rfl hJ) ?_
    refine ac rfl (by
      intro k _nm ρ σm hJ hoff hdep
      have e10 := look_off (N := 36) (hoff 10 rfl) rfl
      exact dp_v (v := (I s4.2)) wn (rv_move e10) rfl hJ) ?_
    refine ac rfl (by
      intro k _nm ρ σm hJ hoff hdep
      have e25 := hdep 7 rfl rfl 25 rfl
      have e26 := hdep 8 rfl rfl 26 rfl
      exact dp_v (v := (pt b18 o19)) wn (rv_ix Tryz.underlying23 ti44 e25 e26 hi17) rfl hJ) ?_
    refine ac rfl (by
      intro k _nm ρ σm hJ hoff hdep
      have e27 := hdep 9 rfl rfl 27 rfl
      exact dp_v (v := (pt b18 (o19 + 1))) wn (rv_fieldAddr (off := 1) (ft := 24) Tryz.underlying44 rfl ti24 rfl e27) rfl hJ) ?_
    refine all_cons (by
      refine ⟨?_, ?_⟩
      ·intro _nm ρ σm hJ hoff hdep
       have e28 := hdep 10 rfl rfl 28 rfl
       obtain ⟨H, m⟩ := id hJ
       replace hc24 := (Hs.ro 1 rfl).hmd hx16 hi17 (k := 1) (by decide) hc24 m
       exact dp_v (v := (Sl a20 x15.2.1 c21)) wn (rv_load1 Tryz.underlying24 rfl e28 hc24) rfl hJ
      trivial) ?_
    refine ac rfl (by
      intro k _nm ρ σm hJ hoff hdep
      have e2 := look_off (N := 36) (hoff 2 rfl) rfl
      exact dp_v (v := (Sl Bt Br Bu)) wn (rv_move e2) rfl hJ) ?_
    refine all_cons (by
      refine ⟨?_, ?_⟩
      ·intro _nm ρ σm hJ hoff hdep
       have e24 : look 36 ρ 24 = (I Bq) := hdep 6 rfl rfl 24 rfl
       have e29 : look 36 ρ 29 = (Sl a20 x15.2.1 c21) := hdep 11 rfl rfl 29 rfl
       have e30 : look 36 ρ 30 = (Sl Bt Br Bu) := hdep 12 rfl rfl 30 rfl
       obtain ⟨H, m⟩ := id hJ
       refine dp_cx wn (cx_call hc27 (ent_f hc27.fn (by show [look 36 ρ 24, look 36 ρ 29, look 36 ρ 30] = _; rw [e24, e29, e30])) hn0 (H.sel' [0, 2, 0, 1, 2, 3] rfl rfl : Hp S0 σ0 _ ([_, _] ++ _))) ?_
       rintro _ σq ⟨_, ⟨rfl, rfl⟩, H2, m2⟩
       exact ⟨_, (), rfl, rfl, ⟨H2.sel' [0, 1, 2, 3] rfl rfl, m.comp0 (m2.mono (fun i h => by simp [cov, Ch.ro] at h))⟩, stab [0, 1, 2, 3, 4, 5, 6, 7, 8, 9, 10, 11, 12, 15] (by kernel_rfl) ⟨rfl, rfl, rfl, rfl, rfl, rfl, rfl, rfl, rfl, rfl, rfl, rfl, rfl, rfl, trivial⟩⟩
      trivial) ?_
    refine ac rfl (by
      intro k _nm ρ σm hJ hoff hdep
      have e23 : look 36 ρ 23 = (I x9.1) := hdep 5 rfl rfl 23 rfl
      have e31 : look 36 ρ 31 = (I r25) := hdep 13 rfl rfl 31 rfl
      exact dp_v (v := (.agg #[(I x9.1), (I r25)])) wn (rv_build (ps := [(0, (I x9.1)), (1, (I r25))]) Tryz.underlying35 ti35 (bp35 Tryz.underlying35) (by show [(0, look 36 ρ 23), (1, look 36 ρ 31)] = _; rw [e23, e31]) (by kernel_rfl)) rfl hJ) ?_
    refine ac rfl (by
      intro k _nm ρ σm hJ hoff hdep
      have e3 := look_off (N := 36) (hoff 3 rfl) rfl
      exact dp_v (v := (I Bs)) wn (rv_move e3) rfl hJ) ?_
    exact all_nil
   ·intro _nm ρ σ28 hJ hoff hrel
    have e0 := look_off (N := 36) (hoff 0 rfl) rfl
    have e1 := look_off (N := 36) (hoff 1 rfl) rfl
    have e2 := look_off (N := 36) (hoff 2 rfl) rfl
    have e3 := look_off (N := 36) (hoff 3 rfl) rfl
    have e10 := look_off (N := 36) (hoff 10 rfl) rfl
    have e18 := hrel 0 rfl 18 rfl
    have e32 := hrel 14 rfl 32 rfl
    have e33 := hrel 15 rfl 33 rfl
    obtain ⟨H, -⟩ := (show Hp S0 σ0 σ28 [Ch.ro 0 (Sl a20 x15.2.1 c21) x15.2.1, Ch.ro 0 (Sl Au As Av) As, Ch.ro 0 (Sl Bt Br Bu) Br, Ch.own n0 n0 (Sl a6 s4.1 c7) s4.1] ∧ Md (cov []) σ5 σ28 from hJ)
    clear hJ Hs
    rw [fr_lookL (L := [(0, (Sl Au As Av)), (1, (I Bq)), (2, (Sl Bt Br Bu)), (3, (I Bs)), (10, (I s4.2)), (18, (Sl a6 s4.1 c7)), (32, (.agg #[(I x9.1), (I r25)])), (33, (I Bs))]) ⟨e0, e1, e2, e3, e10, e18, e32, e33, trivial⟩]
    clear hoff hrel e0 e1 e2 e3 e10 e18 e32 e33
    obtain ⟨σ29, hw30, H, -⟩ := H.pub 3 rfl (Nat.le_refl _)
    rw [← hw30]; clear hw30
    replace H := H.roLow 0 0 rfl (Nat.zero_le _)
    revert h; refine br fun r31 hx32 h => ?_
    have hc33 := c_spec_addHit (Au := a6) (Av := c7) hx32
    refine st_call (cx_call hc33 (ent_f hc33.fn rfl) hn0 (H.sel' [0, 0, 1, 2, 3, 4] rfl rfl : Hp S0 σ0 _ ([_] ++ _))) wn ?_
    rintro _ σ36 ⟨_, ⟨a34, c35, rfl, rfl⟩, H, -⟩
    replace H : Hp _ _ _ [_, _, _, _, _, _] := H
    refine sa (Sl a34 r31 c35) rfl (w_end (q_blk (q_then (rg (sm (I s4.2) rfl (st (v := (I (w64 (s4.2 + 1)))) (rv_add (a := s4.2) (b := 1) rfl rfl) (sa (I (w64 (s4.2 + 1))) rfl (w_end (q_then ?_)))))))))
    obtain rfl := sj h
    exact ⟨_, rfl, _, σ36, a34, c35, fr_join ⟨rfl, rfl, rfl, rfl, rfl, rfl, trivial⟩, rfl, H.sel' [4, 5, 0] rfl rfl⟩
  ·replace h := bif_f hb8 h
   refine c_exit (q_then_x (q_then_x (q_blk_hit ?_)))
   obtain rfl := sj h
   obtain rfl := hres _ rfl
   exact ⟨rfl, _, σ5, a6, c7, fr_join ⟨rfl, trivial⟩, rfl, H.sel' [2] rfl rfl⟩
 ·clear hj
  have h := h'
  clear h' H
  rintro e a w ⟨rfl, ρ, σ37, a38, c39, rfl, rfl, H⟩
  refine q_then (c_seq (rg (sm (Sl a38 o3 c39) rfl (sa (Sl a38 o3 c39) rfl (w_end (q_then (c_ret ?_)))))))
  obtain rfl := sj h
  exact fin_ret (v := (Sl a38 o3 c39)) (results_ok Tryz.results19 (res_tmp (v := (Sl a38 o3 c39)) rfl res_nil) rfl) ⟨a38, c39, rfl, rfl⟩ (H.sel' [0] rfl rfl)

theorem c_spec_WithinDist {As : List (Int × (List Int) × Int)} {Bq : Int} {Br : List Int} {Fy : Int} {Au : Option Addr} {Av : Nat} {Bt : Option Addr} {Bu : Nat} {r : (List (Int × Int))} (h : M.spec_WithinDist As Bq Br Fy = some r) :
    Cal2 Tryz.prog 7 [(Sl Au As Av), (I Bq), (Sl Bt Br Bu), (I Fy)] [Ch.ro 0 (Sl Au As Av) As, Ch.ro 0 (Sl Bt Br Bu) Br] (fun n0 v L => ∃ (az1 : Option Addr), ∃ (cz2 : Nat), v = (Sl az1 r cz2) ∧ L = [Ch.own n0 n0 (Sl az1 r cz2) r]) := by
 refine cal2 (n := 47) Tryz.func7 rfl rfl rfl rfl ?_
 intro S0 σ0 n0 hn0 H
 unfold M.spec_WithinDist at h
 refine c_seq (rg (sa (.slice none 0 0) rfl (w_end (q_then (c_seq (rg ?_))))))
 refine st_ex (ex_buildSlice (el := n0) (xs := ([] : List (Int × Int))) (ps := []) (cs := []) H hn0 Tryz.underlying27 ti35 rfl rfl (by kernel_rfl) (.nil) rfl) wn ?_
 rintro _ σ2 ⟨b1, rfl, H, -⟩
 refine sa (Sl (some ⟨b1, 0, none⟩) ([] : List (Int × Int)) 0) rfl (w_end (q_then (c_seq (c_seq ?_))))
 obtain ⟨o3, hj, h'⟩ := bind_some h
 clear h
 refine c_cut (fun e a w => e = .normal ∧ ∃ (ρ : Nat → Value) (σ : St), a = fr 47 (updL ρ [(0, (Sl Au As Av)), (1, (I Bq)), (2, (Sl Bt Br Bu)), (3, (I Fy)), (9, (Sl (some ⟨b1, 0, none⟩) ([] : List (Int × Int)) 0)), (21, (B o3))]) ∧ w = σ.w ∧ Hp S0 σ0 σ [Ch.ro 0 (Sl Au As Av) As, Ch.ro 0 (Sl Bt Br Bu) Br, Ch.own n0 n0 (Sl (some ⟨b1, 0, none⟩) ([] : List (Int × Int)) 0) ([] : List (Int × Int))]) ?_ ?_
 ·clear h'
  rename _ = some o3 => h
  refine rg (sm (Sl Au As Av) rfl (sm (I Bq) rfl (sm (Sl Bt Br Bu) rfl ?_)))
  revert h; refine br fun r4 hx5 h => ?_
  have hc6 := c_spec_validQuery (Au := Au) (Av := Av) (Bt := Bt) (Bu := Bu) hx5
  refine st_call (cx_call hc6 (ent_f hc6.fn rfl) hn0 (H.sel' [1, 2, 0, 1, 2] rfl rfl : Hp S0 σ0 _ ([_, _] ++ _))) wn ?_
  rintro _ σ7 ⟨_, ⟨rfl, rfl⟩, H, -⟩
  replace H : Hp _ _ _ [_, _, _] := H
  refine st (v := (B (!r4))) (rv_not rfl) (sm (B (!r4)) rfl ?_)
  rcases Bool.eq_false_or_eq_true (!r4) with hb8 | hb8
  ·replace h := bif_t hb8 h
   refine st_skip (congrArg some hb8) (st_skip (congrArg some hb8) (st (v := (B true)) (rv_pick_t (congrArg B hb8) rfl) (w_end ?_)))
   obtain rfl := sj h
   exact ⟨rfl, _, σ7, fr_join ⟨rfl, rfl, rfl, rfl, rfl, rfl, trivial⟩, rfl, H.sel' [1, 2, 0] rfl rfl⟩
  ·replace h := bif_f hb8 h
   refine st_g (v := (I Fy)) (congrArg some hb8) (rv_move rfl) (st_g (v := (B (decide (Fy < 0)))) (congrArg some hb8) (rv_lss (a := Fy) (b := 0) rfl rfl) (st (v := (B (decide (Fy < 0)))) (rv_pick_f (congrArg B hb8) rfl) (w_end ?_)))
   obtain rfl := sj h
   exact ⟨rfl, _, σ7, fr_join ⟨rfl, rfl, rfl, rfl, rfl, rfl, trivial⟩, rfl, H.sel' [1, 2, 0] rfl rfl⟩
 ·clear hj
  have h := h'
  clear h' H
  rintro e a w ⟨rfl, ρ, σ9, rfl, rfl, H⟩
  refine q_then ?_
  refine cd_cond o3 rfl (fun hb10 => ?_) (fun hb10 => ?_)
  ·replace h := bif_t hb10 h
   refine c_seq (rg (sa (.slice none 0 0) rfl (w_end (q_then (c_ret (q_then_r ?_))))))
   replace H := H.nilOwn (Int × Int) n0 n0
   obtain rfl := sj h
   exact fin_ret (v := (.slice none 0 0)) (results_ok Tryz.results7 (res_tmp (v := (.slice none 0 0)) rfl res_nil) rfl) ⟨none, 0, rfl, rfl⟩ (H.sel' [0] rfl rfl)
  ·replace h := bif_f hb10 h
   refine c_skip (q_then (c_seq (rg (sm (Sl Au As Av) rfl (sm (I Bq) rfl (sm (Sl Bt Br Bu) rfl ?_))))))
   revert h; refine br fun r11 hx12 h => ?_
   have hc13 := c_spec_nearest (Au := Au) (Av := Av) (Bt := Bt) (Bu := Bu) hx12
   refine st_call (cx_call hc13 (ent_f hc13.fn rfl) hn0 (H.sel' [0, 1, 0, 1, 2] rfl rfl : Hp S0 σ0 _ ([_, _] ++ _))) wn ?_
   rintro _ σ16 ⟨_, ⟨a14, c15, rfl, rfl⟩, H, -⟩
   replace H : Hp _ _ _ [_, _, _, _] := H
   refine sa (Sl a14 r11 c15) rfl (w_end (q_then (c_seq (c_seq (rg (sa (I 0) rfl (w_end (q_then ?_))))))))
   obtain ⟨o17, hj, h'⟩ := bind_some h
   clear h
   refine c_cut (fun e a w => e = .normal ∧ ∃ (ρ : Nat → Value) (σ : St) (aj1 : Option Addr) (cj2 : Nat), a = fr 47 (updL ρ [(9, (Sl aj1 o17 cj2))]) ∧ w = σ.w ∧ Hp S0 σ0 σ [Ch.own n0 n0 (Sl aj1 o17 cj2) o17]) ?_ ?_
   ·clear h'
    rename _ = some o17 => h
    refine c_blk (wp_loopM _ h (fun s18 a w => ∃ (ρ : Nat → Value) (σ : St) (aj1 : Option Addr) (cj2 : Nat), a = fr 47 (updL ρ [(3, (I Fy)), (9, (Sl aj1 s18.1 cj2)), (10, (Sl a14 r11 c15)), (11, (I s18.2))]) ∧ w = σ.w ∧ Hp S0 σ0 σ [Ch.own n0 n0 (Sl aj1 s18.1 cj2) s18.1, Ch.own n0 n0 (Sl a14 r11 c15) r11]) ⟨_, σ16, (some ⟨b1, 0, none⟩), 0, fr_join ⟨rfl, rfl, rfl, rfl, trivial⟩, rfl, H.sel' [3, 0] rfl rfl⟩ ?_)
    clear h H
    rintro s18 a w o ⟨ρ, σ19, a20, c21, rfl, rfl, H⟩ h hres
    refine c_seq (c_seq (rg (sm (I s18.2) rfl (sm (Sl a14 r11 c15) rfl (st (v := (I (r11.length : Int))) (rv_len Tryz.underlying27 rfl) (st (v := (B (decide (s18.2 < (r11.length : Int))))) (rv_lss (a := s18.2) (b := (r11.length : Int)) rfl rfl) (w_end (q_then ?_))))))))
    refine cd_cond (decide (s18.2 < (r11.length : Int))) rfl (fun hb22 => ?_) (fun hb22 => ?_)
    ·replace h := bif_t hb22 h
     refine c_skip (q_then (c_seq ?_))
     obtain ⟨o23, hj, h'⟩ := bind_some h
     clear h
     refine c_cut (fun e a w => e = .normal ∧ ∃ (ρ : Nat → Value) (σ : St) (aj1 : Option Addr) (cj2 : Nat), a = fr 47 (updL ρ [(3, (I Fy)), (9, (Sl aj1 o23 cj2)), (10, (Sl a14 r11 c15)), (11, (I s18.2))]) ∧ w = σ.w ∧ Hp S0 σ0 σ [Ch.own n0 n0 (Sl aj1 o23 cj2) o23, Ch.own n0 n0 (Sl a14 r11 c15) r11]) ?_ ?_
     ·clear h'
      rename _ = some o23 => h
      refine c_blk (c_seq (rg (sm (Sl a14 r11 c15) rfl (sm (I s18.2) rfl ?_))))
      revert h; refine br fun x24 hx25 h => ?_
      obtain ⟨b27, o28, hi26, -⟩ := (H.own 1 rfl).ix hx25
      refine st (v := (pt b27 o28)) (rv_ix Tryz.underlying27 ti35 rfl rfl hi26) (st (v := (pt b27 (o28 + 1))) (rv_fieldAddr (off := 1) (ft := 3) Tryz.underlying35 rfl ti3 rfl rfl) ?_)
      have hc29 := ((H.own 1 rfl).at hx25 hi26).snd.int
      refine st (v := (I x24.2)) (rv_load1 Tryz.underlying3 rfl rfl hc29) (sm (I Fy) rfl (st (v := (B (decide (x24.2 ≤ Fy)))) (rv_leq (a := x24.2) (b := Fy) rfl rfl) (w_end (q_then ?_))))
      refine cd_cond (decide (x24.2 ≤ Fy)) rfl (fun hb30 => ?_) (fun hb30 => ?_)
      ·replace h := bif_t hb30 h
       refine rg (sm (Sl a20 s18.1 c21) rfl (sm (Sl a14 r11 c15) rfl (sm (I s18.2) rfl ?_)))
       revert h; refine br fun x31 hx32 h => ?_
       obtain ⟨b34, o35, hi33, -⟩ := (H.own 1 rfl).ix hx32
       refine st (v := (pt b34 o35)) (rv_ix Tryz.underlying27 ti35 rfl rfl hi33) ?_
       obtain ⟨_, ⟨_, _, rfl, rfl, rfl⟩, hl36, hc37⟩ := ((H.own 1 rfl).at hx32 hi33).cells
       refine st (v := (.agg #[(I x31.1), (I x31.2)])) (rv_load Tryz.underlying35 rfl ti35 rfl hl36 hc37) ?_
       refine st_ex (ex_buildSlice (el := n0) (xs := ([(x31.1, x31.2)] : List (Int × Int))) (ps := [(0, (.agg #[(I x31.1), (I x31.2)]))]) (cs := [(I x31.1), (I x31.2)]) H hn0 Tryz.underlying27 ti35 rfl rfl (by kernel_rfl) (.cons (c := [(I x31.1), (I x31.2)]) ⟨[(I x31.1)], [(I x31.2)], rfl, rfl, rfl⟩ (.nil)) rfl) wn ?_
       rintro _ σ39 ⟨b38, rfl, H, -⟩
       revert h; refine br fun xs40 hx41 h => ?_
       refine st_ex (ex_append H (i := 1) rfl Tryz.underlying27 Tryz.underlying27 ti35 rfl rfl (by decide) (H.own 0 rfl).rd hx41 hn0 rfl rfl) wn ?_
       rintro _ σ44 ⟨a42, c43, rfl, H, -⟩
       refine sa (Sl a42 xs40 c43) rfl (w_end (q_blk ?_))
       obtain rfl := sj h
       exact ⟨rfl, _, σ44, a42, c43, fr_join ⟨rfl, rfl, rfl, rfl, trivial⟩, rfl, H.sel' [0, 2] rfl rfl⟩
      ·replace h := bif_f hb30 h
       refine c_skip (q_blk ?_)
       obtain rfl := sj h
       exact ⟨rfl, _, σ19, a20, c21, fr_join ⟨rfl, rfl, rfl, rfl, trivial⟩, rfl, H.sel' [0, 1] rfl rfl⟩
     ·clear hj
      have h := h'
      clear h' H
      rintro e a w ⟨rfl, ρ, σ45, a46, c47, rfl, rfl, H⟩
      refine q_then (rg (sm (I s18.2) rfl (st (v := (I (w64 (s18.2 + 1)))) (rv_add (a := s18.2) (b := 1) rfl rfl) (sa (I (w64 (s18.2 + 1))) rfl (w_end (q_then ?_))))))
      obtain rfl := sj h
      exact ⟨_, rfl, _, σ45, a46, c47, fr_join ⟨rfl, rfl, rfl, rfl, trivial⟩, rfl, H.sel' [0, 1] rfl rfl⟩
    ·replace h := bif_f hb22 h
     refine c_exit (q_then_x (q_then_x (q_blk_hit ?_)))
     obtain rfl := sj h
     obtain rfl := hres _ rfl
     exact ⟨rfl, _, σ19, a20, c21, fr_join ⟨rfl, trivial⟩, rfl, H.sel' [0] rfl rfl⟩
   ·clear hj
    have h := h'
    clear h' H
    rintro e a w ⟨rfl, ρ, σ48, a49, c50, rfl, rfl, H⟩
    refine q_then (c_seq (rg (sm (Sl a49 o17 c50) rfl (sa (Sl a49 o17 c50) rfl (w_end (q_then (c_ret ?_)))))))
    obtain rfl := sj h
    exact fin_ret (v := (Sl a49 o17 c50)) (results_ok Tryz.results7 (res_tmp (v := (Sl a49 o17 c50)) rfl res_nil) rfl) ⟨a49, c50, rfl, rfl⟩ (H.sel' [0] rfl rfl)

theorem c_impl_keysOf {As : List (Int × (List Int) × Int)} {Au : Option Addr} {Av : Nat} {r : (List Int)} (h : M.impl_keysOf As = some r) :
    Cal2 Tryz.prog 22 [(Sl Au As Av)] [Ch.ro 0 (Sl Au As Av) As] (fun n0 v L => ∃ (az1 : Option Addr), ∃ (cz2 : Nat), v = (Sl az1 r cz2) ∧ L = [Ch.own n0 n0 (Sl az1 r cz2) r] ∧ cz2 = r.length) := by
 refine cal2 (n := 23) Tryz.func22 rfl rfl rfl rfl ?_
 intro S0 σ0 n0 hn0 H
 unfold M.impl_keysOf at h
 refine c_seq (rg (sa (.slice none 0 0) rfl (w_end (q_then (c_seq (rg (sm (Sl Au As Av) rfl (st (v := (I (As.length : Int))) (rv_len Tryz.underlying23 rfl) ?_))))))))
 revert h; refine br fun xs1 hx2 h => ?_
 refine st_ex (ex_make (el := n0) (z0 := (0 : Int)) (zs := [(I 0)]) H hn0 Tryz.underlying24 ti3 rfl rfl rfl (by decide) hx2 rfl rfl) wn ?_
 rintro _ σ6 ⟨b3, c4, rfl, ht5, H, -⟩
 replace ht5 := ht5.trans (gmake_len hx2).symm
 refine sa (Sl (some ⟨b3, 0, none⟩) xs1 c4) rfl (w_end (q_then (c_seq (c_seq (rg (sm (Sl Au As Av) rfl (st (v := (I (As.length : Int))) (rv_len Tryz.underlying23 rfl) (sm (I 0) rfl (w_end (q_then ?_))))))))))
 obtain ⟨o7, hj, h'⟩ := bind_some h
 clear h
 refine c_cut (fun e a w => e = .normal ∧ ∃ (ρ : Nat → Value) (σ : St), a = fr 23 (updL ρ [(3, (Sl (some ⟨b3, 0, none⟩) o7 c4))]) ∧ w = σ.w ∧ Hp S0 σ0 σ [Ch.own n0 n0 (Sl (some ⟨b3, 0, none⟩) o7 c4) o7] ∧ c4 = o7.length ∧ o7.length = xs1.length) ?_ ?_
 ·clear h'
  rename _ = some o7 => h
  refine c_blk (wp_loopM _ h (fun s8 a w => ∃ (ρ : Nat → Value) (σ : St), a = fr 23 (updL ρ [(3, (Sl (some ⟨b3, 0, none⟩) s8.1 c4)), (9, (Sl Au As Av)), (10, (I (As.length : Int))), (11, (I s8.2))]) ∧ w = σ.w ∧ Hp S0 σ0 σ [Ch.own n0 n0 (Sl (some ⟨b3, 0, none⟩) s8.1 c4) s8.1, Ch.ro 0 (Sl Au As Av) As] ∧ c4 = s8.1.length ∧ s8.1.length = xs1.length) ⟨_, σ6, fr_join ⟨rfl, rfl, rfl, rfl, trivial⟩, rfl, H.sel' [0, 1] rfl rfl, ht5, rfl⟩ ?_)
  clear h H
  rintro s8 a w o ⟨ρ, σ9, rfl, rfl, H, ht10, hn11⟩ h hres
  refine c_seq (rg (st (v := (B (decide (s8.2 < (As.length : Int))))) (rv_lss (a := s8.2) (b := (As.length : Int)) rfl rfl) (w_end (q_then (c_seq ?_)))))
  refine cd_cond (decide (s8.2 < (As.length : Int))) rfl (fun hb12 => ?_) (fun hb12 => ?_)
  ·replace h := bif_t hb12 h
   refine c_skip (q_then (c_seq (c_blk (c_seq (rg (sm (I s8.2) rfl ?_))))))
   revert h; refine br fun x13 hx14 h => ?_
   obtain ⟨b16, o17, hi15, -⟩ := (H.ro 1 rfl).ix hx14
   refine st (v := (pt b16 o17)) (rv_ix Tryz.underlying23 ti44 rfl rfl hi15) ?_
   obtain ⟨_, ⟨_, _, rfl, rfl, ⟨_, _, rfl, ⟨_, rfl, hR22⟩, rfl⟩⟩, hl18, hc19⟩ := ((H.ro 1 rfl).at hx14 hi15).cells
   obtain ⟨a20, c21, rfl⟩ := hR22.isSl
   replace H := H.add (d := Ch.ro 0 (Sl a20 x13.2.1 c21) x13.2.1) hR22 (fun _ h => h)
   clear hR22
   refine st (v := (.agg #[(I x13.1), (Sl a20 x13.2.1 c21), (I x13.2.2)])) (rv_load Tryz.underlying44 rfl ti44 rfl hl18 hc19) (st_ex (ex_alloc (cs := [(I 0), (.slice none 0 0), (I 0)]) H hn0 ti44 rfl) wn ?_)
   rintro _ σ24 ⟨b23, rfl, H, -⟩
   refine sa (I s8.2) rfl ?_
   refine st_exS (ex_store_box (k := 0) (cs := [(I 0), (.slice none 0 0), (I 0)]) (vs := [(I x13.1), (Sl a20 x13.2.1 c21), (I x13.2.2)]) (cs' := [(I x13.1), (Sl a20 x13.2.1 c21), (I x13.2.2)]) H (i := 0) rfl ti44 rfl rfl rfl rfl rfl (Nat.le_of_ble_eq_true rfl) (by simp [plain]) rfl) wn ?_
   rintro σ25 ⟨H, -⟩
   refine w_end (q_then (rg (sm (Sl (some ⟨b3, 0, none⟩) s8.1 c4) rfl (sm (I s8.2) rfl (st (v := (pt b23 0)) (rv_fieldAddr (off := 0) (ft := 3) Tryz.underlying44 rfl ti3 rfl rfl) ?_)))))
   have hc26 := H.cell (u := (I x13.1)) (o' := 0) 0 0 rfl rfl rfl
   refine st (v := (I x13.1)) (rv_load1 Tryz.underlying3 rfl rfl hc26) ?_
   revert h; refine br fun x27 hx28 h => ?_
   obtain ⟨b30, o31, hi29, -⟩ := (H.own 2 rfl).ix hx28
   refine st (v := (pt b30 o31)) (rv_ix Tryz.underlying24 ti3 rfl rfl hi29) ?_
   refine st_exS (ex_store_own (e' := x13.1) (vs := [(I x13.1)]) (k := 0) H (i := 2) rfl ti3 hx28 hi29 rfl rfl rfl rfl rfl (Nat.le_of_ble_eq_true rfl) (by simp [plain]) (by rintro _ rfl; exact rfl)) wn ?_
   rintro σ32 ⟨H, -⟩
   have hsl : (Sl (some ⟨b3, 0, none⟩) s8.1 c4) = (Sl (some ⟨b3, 0, none⟩) (s8.1.set s8.2.toNat x13.1) c4) := sl_len List.length_set.symm
   rw [hsl]; rw [hsl] at H; clear hsl
   refine w_end (q_blk (q_then (rg (st (v := (I (w64 (s8.2 + 1)))) (rv_add (a := s8.2) (b := 1) rfl rfl) (sm (I (w64 (s8.2 + 1))) rfl (w_end (q_then ?_)))))))
   obtain rfl := sj h
   exact ⟨_, rfl, _, σ32, fr_join ⟨rfl, rfl, rfl, rfl, trivial⟩, rfl, H.sel' [0, 3] rfl rfl, (ht10.trans List.length_set.symm), (List.length_set.trans hn11)⟩
  ·replace h := bif_f hb12 h
   refine c_exit (q_then_x (q_then_x (q_blk_hit ?_)))
   obtain rfl := sj h
   obtain rfl := hres _ rfl
   exact ⟨rfl, _, σ9, fr_join ⟨rfl, trivial⟩, rfl, H.sel' [0] rfl rfl, ht10, hn11⟩
 ·clear hj
  have h := h'
  clear h' H
  rintro e a w ⟨rfl, ρ, σ33, rfl, rfl, H, ht34, hn35⟩
  refine q_then (c_seq (rg (sm (Sl (some ⟨b3, 0, none⟩) o7 c4) rfl (sa (Sl (some ⟨b3, 0, none⟩) o7 c4) rfl (w_end (q_then (c_ret ?_)))))))
  obtain rfl := sj h
  exact fin_ret (v := (Sl (some ⟨b3, 0, none⟩) o7 c4)) (results_ok Tryz.results22 (res_tmp (v := (Sl (some ⟨b3, 0, none⟩) o7 c4)) rfl res_nil) rfl) ⟨(some ⟨b3, 0, none⟩), c4, rfl, rfl, ht34⟩ (H.sel' [0] rfl rfl)

theorem c_impl_insideBox {Gg : List Int} {Ay : List Int} {Az : List Int} {Gh : Option Addr} {Gi : Nat} {Gj : Option Addr} {Gk : Nat} {Gl : Option Addr} {Gm : Nat} {r : Bool} (h : M.impl_insideBox Gg Ay Az = some r) :
    Cal2 Tryz.prog 25 [(Sl Gh Gg Gi), (Sl Gj Ay Gk), (Sl Gl Az Gm)] [Ch.ro 0 (Sl Gh Gg Gi) Gg, Ch.ro 0 (Sl Gj Ay Gk) Ay, Ch.ro 0 (Sl Gl Az Gm) Az] (fun n0 v L => v = (B r) ∧ L = []) := by
 refine cal2 (n := 31) Tryz.func25 rfl rfl rfl rfl ?_
 intro S0 σ0 n0 hn0 H
 unfold M.impl_insideBox at h
 refine c_seq (rg (sa (B false) rfl (w_end (q_then (c_seq (c_seq (rg (sm (Sl Gh Gg Gi) rfl (st (v := (I (Gg.length : Int))) (rv_len Tryz.underlying24 rfl) (sm (I 0) rfl (w_end ?_)))))))))))
 refine q_then ?_
 obtain ⟨o1, hj, h'⟩ := bind_some h
 clear h
 refine c_cut (fun e a w => (∃ t, o1 = (.inl t) ∧ e = .normal ∧ ∃ (ρ : Nat → Value) (σ : St), a = fr 31 (updL ρ []) ∧ w = σ.w ∧ Hp S0 σ0 σ []) ∨ (∃ t, o1 = (.inr t) ∧ e = .ret ∧ ∃ (ρ : Nat → Value) (σ : St), a = fr 31 (updL ρ [(6, (B t))]) ∧ w = σ.w ∧ Hp S0 σ0 σ [])) ?_ ?_
 ·clear h'
  rename _ = some o1 => h
  refine c_blk (wp_loopM _ h (fun s2 a w => ∃ (ρ : Nat → Value) (σ : St), a = fr 31 (updL ρ [(1, (Sl Gj Ay Gk)), (2, (Sl Gl Az Gm)), (9, (Sl Gh Gg Gi)), (10, (I (Gg.length : Int))), (11, (I s2))]) ∧ w = σ.w ∧ Hp S0 σ0 σ [Ch.ro 0 (Sl Gj Ay Gk) Ay, Ch.ro 0 (Sl Gl Az Gm) Az, Ch.ro 0 (Sl Gh Gg Gi) Gg]) ⟨_, σ0, fr_join ⟨rfl, rfl, rfl, rfl, rfl, trivial⟩, rfl, H.sel' [1, 2, 0] rfl rfl⟩ ?_)
  clear h H
  rintro s2 a w o ⟨ρ, σ3, rfl, rfl, H⟩ h hres
  refine c_seq (rg (st (v := (B (decide (s2 < (Gg.length : Int))))) (rv_lss (a := s2) (b := (Gg.length : Int)) rfl rfl) (w_end (q_then (c_seq ?_)))))
  refine cd_cond (decide (s2 < (Gg.length : Int))) rfl (fun hb4 => ?_) (fun hb4 => ?_)
  ·replace h := bif_t hb4 h
   refine c_skip (q_then (c_seq (c_blk (c_seq (rg (sm (I s2) rfl ?_))))))
   revert h; refine br fun x5 hx6 h => ?_
   obtain ⟨b8, o9, hi7, -⟩ := (H.ro 2 rfl).ix hx6
   refine st (v := (pt b8 o9)) (rv_ix Tryz.underlying24 ti3 rfl rfl hi7) ?_
   have hc10 := ((H.ro 2 rfl).at hx6 hi7).int
   refine st (v := (I x5)) (rv_load1 Tryz.underlying3 rfl rfl hc10) (sa (I s2) rfl (sa (I x5) rfl (w_end (q_then (c_seq ?_)))))
   obtain ⟨o11, hj, h'⟩ := bind_some h
   clear h
   refine c_cut (fun e a w => e = .normal ∧ ∃ (ρ : Nat → Value) (σ : St), a = fr 31 (updL ρ [(1, (Sl Gj Ay Gk)), (2, (Sl Gl Az Gm)), (9, (Sl Gh Gg Gi)), (10, (I (Gg.length : Int))), (11, (I s2)), (29, (B o11))]) ∧ w = σ.w ∧ Hp S0 σ0 σ [Ch.ro 0 (Sl Gj Ay Gk) Ay, Ch.ro 0 (Sl Gl Az Gm) Az, Ch.ro 0 (Sl Gh Gg Gi) Gg]) ?_ ?_
   ·clear h'
    rename _ = some o11 => h
    refine rg (sm (I x5) rfl (sm (Sl Gj Ay Gk) rfl (sm (I s2) rfl ?_)))
    revert h; refine br fun x12 hx13 h => ?_
    obtain ⟨b15, o16, hi14, -⟩ := (H.ro 0 rfl).ix hx13
    refine st (v := (pt b15 o16)) (rv_ix Tryz.underlying24 ti3 rfl rfl hi14) ?_
    have hc17 := ((H.ro 0 rfl).at hx13 hi14).int
    refine st (v := (I x12)) (rv_load1 Tryz.underlying3 rfl rfl hc17) (st (v := (B (decide (x5 < x12)))) (rv_lss (a := x5) (b := x12) rfl rfl) (sm (B (decide (x5 < x12))) rfl ?_))
    rcases Bool.eq_false_or_eq_true (decide (x5 < x12)) with hb18 | hb18
    ·replace h := bif_t hb18 h
     refine st_skip (congrArg some hb18) (st_skip (congrArg some hb18) (st_skip (congrArg some hb18) (st_skip (congrArg some hb18) (st_skip (congrArg some hb18) (st_skip (congrArg some hb18) (st (v := (B true)) (rv_pick_t (congrArg B hb18) rfl) (w_end ?_)))))))
     obtain rfl := sj h
     exact ⟨rfl, _, σ3, fr_join ⟨rfl, rfl, rfl, rfl, rfl, rfl, trivial⟩, rfl, H.sel' [0, 1, 2] rfl rfl⟩
    ·replace h := bif_f hb18 h
     refine st_g (v := (I x5)) (congrArg some hb18) (rv_move rfl) (st_g (v := (Sl Gl Az Gm)) (congrArg some hb18) (rv_move rfl) (st_g (v := (I s2)) (congrArg some hb18) (rv_move rfl) ?_))
     revert h; refine br fun x19 hx20 h => ?_
     obtain ⟨b22, o23, hi21, -⟩ := (H.ro 1 rfl).ix hx20
     refine st_g (v := (pt b22 o23)) (congrArg some hb18) (rv_ix Tryz.underlying24 ti3 rfl rfl hi21) ?_
     have hc24 := ((H.ro 1 rfl).at hx20 hi21).int
     refine st_g (v := (I x19)) (congrArg some hb18) (rv_load1 Tryz.underlying3 rfl rfl hc24) (st_g (v := (B (decide (x19 < x5)))) (congrArg some hb18) (rv_gtr (a := x5) (b := x19) rfl rfl) (st (v := (B (decide (x19 < x5)))) (rv_pick_f (congrArg B hb18) rfl) (w_end ?_)))
     obtain rfl := sj h
     exact ⟨rfl, _, σ3, fr_join ⟨rfl, rfl, rfl, rfl, rfl, rfl, trivial⟩, rfl, H.sel' [0, 1, 2] rfl rfl⟩
   ·clear hj
    have h := h'
    clear h' H
    rintro e a w ⟨rfl, ρ, σ25, rfl, rfl, H⟩
    refine q_then ?_
    refine cd_cond o11 rfl (fun hb26 => ?_) (fun hb26 => ?_)
    ·replace h := bif_t hb26 h
     refine c_seq (rg (sa (B false) rfl (w_end (q_then (c_ret (q_blk_r (q_then_r (q_then_r (q_blk_r ?_)))))))))
     obtain rfl := sj h
     obtain rfl := hres _ rfl
     exact .inr (⟨_, rfl, rfl, _, σ25, fr_join ⟨rfl, trivial⟩, rfl, H.sel' [] rfl rfl⟩)
    ·replace h := bif_f hb26 h
     refine c_skip (q_blk (q_then (rg (st (v := (I (w64 (s2 + 1)))) (rv_add (a := s2) (b := 1) rfl rfl) (sm (I (w64 (s2 + 1))) rfl (w_end (q_then ?_)))))))
     obtain rfl := sj h
     exact ⟨_, rfl, _, σ25, fr_join ⟨rfl, rfl, rfl, rfl, rfl, trivial⟩, rfl, H.sel' [0, 1, 2] rfl rfl⟩
  ·replace h := bif_f hb4 h
   refine c_exit (q_then_x (q_then_x (q_blk_hit ?_)))
   obtain rfl := sj h
   obtain rfl := hres _ rfl
   exact .inl ⟨_, rfl, rfl, _, σ3, fr_join trivial, rfl, H.sel' [] rfl rfl⟩
 ·clear hj
  have h := h'
  clear h' H
  rintro e a w (⟨t27, rfl, rfl, ρ, σ28, rfl, rfl, H⟩ | ⟨t29, rfl, rfl, ρ, σ30, rfl, rfl, H⟩)
  ·replace h := selim_l h
   refine q_then (c_seq (rg (sa (B true) rfl (w_end (q_then (c_ret ?_))))))
   obtain rfl := sj h
   exact fin_ret (v := (B true)) (results_ok Tryz.results25 (res_tmp (v := (B true)) rfl res_nil) rfl) ⟨rfl, rfl⟩ (H.sel' [] rfl rfl)
  ·replace h := selim_r h
   refine q_then_r ?_
   obtain rfl := sj h
   exact fin_ret (v := (B t29)) (results_ok Tryz.results25 (res_tmp (v := (B t29)) rfl res_nil) rfl) ⟨rfl, rfl⟩ (H.sel' [] rfl rfl)

theorem c_impl_InBox_1__p24__p24 {Bd : Int × (List Int) × Int} {Eh : List Int} {Ei : List Int} {Be : Option Addr} {Bf : Nat} {Gn : Option Addr} {Gp : Nat} {Ej Ek El : Nat} {Em En : List Value} {Eo : Option Addr} {Ep : Nat} {Er Es Et : Nat} {Eu Ev : List Value} {r : Bool} (h : M.impl_InBox_1__p24__p24 Bd Eh Ei = some r) :
    Cal2 Tryz.prog 24 [(.agg #[(I Bd.1), (Sl Be Bd.2.1 Bf), (I Bd.2.2)]), (pt Ek El), (pt Es Et)] [Ch.ro 0 (Sl Be Bd.2.1 Bf) Bd.2.1, Ch.bx Ej Ek El [(Sl Gn Eh Gp)] Em En, Ch.ro 0 (Sl Gn Eh Gp) Eh, Ch.bx Er Es Et [(Sl Eo Ei Ep)] Eu Ev, Ch.ro 0 (Sl Eo Ei Ep) Ei] (fun n0 v L => v = (B r) ∧ L = [Ch.bx Ej Ek El [(Sl Gn Eh Gp)] Em En, Ch.bx Er Es Et [(Sl Eo Ei Ep)] Eu Ev]) := by
 refine cal2 (n := 10) Tryz.func24 rfl rfl rfl rfl ?_
 intro S0 σ0 n0 hn0 H
 unfold M.impl_InBox_1__p24__p24 at h
 refine c_seq (rg (st_ex (ex_box (cs := [(I Bd.1), (Sl Be Bd.2.1 Bf), (I Bd.2.2)]) H hn0 rfl rfl) wn ?_))
 rintro _ σ2 ⟨b1, rfl, H, -⟩
 refine sa (B false) rfl (w_end (q_then (c_seq (rg (st (v := (pt b1 1)) (rv_fieldAddr (off := 1) (ft := 24) Tryz.underlying44 rfl ti24 rfl rfl) ?_)))))
 have hc3 := H.cell (u := (Sl Be Bd.2.1 Bf)) (o' := 1) 0 1 rfl rfl rfl
 refine st (v := (Sl Be Bd.2.1 Bf)) (rv_load1 Tryz.underlying24 rfl rfl hc3) ?_
 have hc4 := H.cell (u := (Sl Gn Eh Gp)) (o' := El) 2 0 rfl rfl rfl
 refine st (v := (Sl Gn Eh Gp)) (rv_load1 Tryz.underlying24 rfl rfl hc4) ?_
 have hc5 := H.cell (u := (Sl Eo Ei Ep)) (o' := Et) 4 0 rfl rfl rfl
 refine st (v := (Sl Eo Ei Ep)) (rv_load1 Tryz.underlying24 rfl rfl hc5) ?_
 revert h; refine br fun r6 hx7 h => ?_
 have hc8 := c_impl_insideBox (Gh := Be) (Gi := Bf) (Gj := Gn) (Gk := Gp) (Gl := Eo) (Gm := Ep) hx7
 refine st_call (cx_call hc8 (ent_f hc8.fn rfl) hn0 (H.sel' [1, 3, 5, 0, 1, 2, 3, 4, 5] rfl rfl : Hp S0 σ0 _ ([_, _, _] ++ _))) wn ?_
 rintro _ σ9 ⟨_, ⟨rfl, rfl⟩, H, -⟩
 replace H : Hp _ _ _ [_, _, _, _, _, _] := H
 refine sa (B r6) rfl (w_end (q_then (c_ret ?_)))
 obtain rfl := sj h
 exact fin_ret (v := (B r6)) (results_ok Tryz.results24 (res_tmp (v := (B r6)) rfl res_nil) rfl) ⟨rfl, rfl⟩ (H.sel' [2, 4] rfl rfl)

theorem c_impl_itemsThat__impl_InBox_1 {As : List (Int × (List Int) × Int)} {Gq : List Int} {Gr : List Int} {Au : Option Addr} {Av : Nat} {Gs : Option Addr} {Gt : Nat} {Gu Gv Gw : Nat} {Gx Gy : List Value} {Gz : Option Addr} {Ha : Nat} {Hc Hd He : Nat} {Hf Hg : List Value} {r : (List (Int × (List Int) × Int))} (h : M.impl_itemsThat__impl_InBox_1 As Gq Gr = some r) :
    Cal2 Tryz.prog 23 [(Sl Au As Av), (.func (.func 24) #[] #[(pt Gv Gw), (pt Hd He)])] [Ch.ro 0 (Sl Au As Av) As, Ch.bx Gu Gv Gw [(Sl Gs Gq Gt)] Gx Gy, Ch.ro 0 (Sl Gs Gq Gt) Gq, Ch.bx Hc Hd He [(Sl Gz Gr Ha)] Hf Hg, Ch.ro 0 (Sl Gz Gr Ha) Gr] (fun n0 v L => ∃ (az1 : Option Addr), ∃ (cz2 : Nat), v = (Sl az1 r cz2) ∧ L = [Ch.own n0 0 (Sl az1 r cz2) r, Ch.bx Gu Gv Gw [(Sl Gs Gq Gt)] Gx Gy, Ch.bx Hc Hd He [(Sl Gz Gr Ha)] Hf Hg]) := by
 refine cal2 (n := 23) Tryz.func23 rfl rfl rfl rfl ?_
 intro S0 σ0 n0 hn0 H
 unfold M.impl_itemsThat__impl_InBox_1 at h
 refine c_seq (rg (sa (.slice none 0 0) rfl (w_end (q_then (c_seq (rg (sa (.slice none 0 0) rfl (w_end (q_then (c_seq (c_seq ?_)))))))))))
 refine rg (sm (Sl Au As Av) rfl (st (v := (I (As.length : Int))) (rv_len Tryz.underlying23 rfl) (sm (I 0) rfl (w_end (q_then ?_)))))
 obtain ⟨o1, hj, h'⟩ := bind_some h
 clear h
 refine c_cut (fun e a w => e = .normal ∧ ∃ (ρ : Nat → Value) (σ : St) (aj1 : Option Addr) (cj2 : Nat), a = fr 23 (updL ρ [(1, (.func (.func 24) #[] #[(pt Gv Gw), (pt Hd He)])), (5, (Sl aj1 o1 cj2))]) ∧ w = σ.w ∧ Hp S0 σ0 σ [Ch.ro 0 (Sl Gs Gq Gt) Gq, Ch.bx Gu Gv Gw [(Sl Gs Gq Gt)] Gx Gy, Ch.ro 0 (Sl Gz Gr Ha) Gr, Ch.bx Hc Hd He [(Sl Gz Gr Ha)] Hf Hg, Ch.own n0 0 (Sl aj1 o1 cj2) o1]) ?_ ?_
 ·clear h'
  rename _ = some o1 => h
  refine c_blk ?_
  replace H := H.nilOwn (Int × (List Int) × Int) n0 0
  refine wp_loopM _ h (fun s2 a w => ∃ (ρ : Nat → Value) (σ : St) (aj1 : Option Addr) (cj2 : Nat), a = fr 23 (updL ρ [(1, (.func (.func 24) #[] #[(pt Gv Gw), (pt Hd He)])), (5, (Sl aj1 s2.1 cj2)), (8, (Sl Au As Av)), (9, (I (As.length : Int))), (10, (I s2.2))]) ∧ w = σ.w ∧ Hp S0 σ0 σ [Ch.ro 0 (Sl Gs Gq Gt) Gq, Ch.bx Gu Gv Gw [(Sl Gs Gq Gt)] Gx Gy, Ch.ro 0 (Sl Gz Gr Ha) Gr, Ch.bx Hc Hd He [(Sl Gz Gr Ha)] Hf Hg, Ch.own n0 0 (Sl aj1 s2.1 cj2) s2.1, Ch.ro 0 (Sl Au As Av) As]) ⟨_, σ0, none, 0, fr_join ⟨rfl, rfl, rfl, rfl, rfl, trivial⟩, rfl, H.sel' [3, 2, 5, 4, 0, 1] rfl rfl⟩ ?_
  clear h H
  rintro s2 a w o ⟨ρ, σ3, a4, c5, rfl, rfl, H⟩ h hres
  refine c_seq (rg (st (v := (B (decide (s2.2 < (As.length : Int))))) (rv_lss (a := s2.2) (b := (As.length : Int)) rfl rfl) (w_end (q_then (c_seq ?_)))))
  refine cd_cond (decide (s2.2 < (As.length : Int))) rfl (fun hb6 => ?_) (fun hb6 => ?_)
  ·replace h := bif_t hb6 h
   refine c_skip (q_then (c_seq ?_))
   obtain ⟨o7, hj, h'⟩ := bind_some h
   clear h
   refine c_cut (fun e a w => e = .normal ∧ ∃ (ρ : Nat → Value) (σ : St) (aj1 : Option Addr) (cj2 : Nat), a = fr 23 (updL ρ [(1, (.func (.func 24) #[] #[(pt Gv Gw), (pt Hd He)])), (5, (Sl aj1 o7 cj2)), (8, (Sl Au As Av)), (9, (I (As.length : Int))), (10, (I s2.2))]) ∧ w = σ.w ∧ Hp S0 σ0 σ [Ch.ro 0 (Sl Gs Gq Gt) Gq, Ch.bx Gu Gv Gw [(Sl Gs Gq Gt)] Gx Gy, Ch.ro 0 (Sl Gz Gr Ha) Gr, Ch.bx Hc Hd He [(Sl Gz Gr Ha)] Hf Hg, Ch.own n0 0 (Sl aj1 o7 cj2) o7, Ch.ro 0 (Sl Au As Av) As]) ?_ ?_
   ·clear h'
    rename _ = some o7 => h
    refine c_blk (c_seq (rg ?_))
    revert h; refine br fun x8 hx9 h => ?_
    obtain ⟨b11, o12, hi10, -⟩ := (H.ro 5 rfl).ix hx9
    refine st (v := (pt b11 o12)) (rv_ix Tryz.underlying23 ti44 rfl rfl hi10) ?_
    obtain ⟨_, ⟨_, _, rfl, rfl, ⟨_, _, rfl, ⟨_, rfl, hR17⟩, rfl⟩⟩, hl13, hc14⟩ := ((H.ro 5 rfl).at hx9 hi10).cells
    obtain ⟨a15, c16, rfl⟩ := hR17.isSl
    replace H := H.add (d := Ch.ro 0 (Sl a15 x8.2.1 c16) x8.2.1) hR17 (fun _ h => h)
    clear hR17
    refine st (v := (.agg #[(I x8.1), (Sl a15 x8.2.1 c16), (I x8.2.2)])) (rv_load Tryz.underlying44 rfl ti44 rfl hl13 hc14) (st_ex (ex_alloc (cs := [(I 0), (.slice none 0 0), (I 0)]) H hn0 ti44 rfl) wn ?_)
    rintro _ σ19 ⟨b18, rfl, H, -⟩
    refine st_exS (ex_store_box (k := 0) (cs := [(I 0), (.slice none 0 0), (I 0)]) (vs := [(I x8.1), (Sl a15 x8.2.1 c16), (I x8.2.2)]) (cs' := [(I x8.1), (Sl a15 x8.2.1 c16), (I x8.2.2)]) H (i := 0) rfl ti44 rfl rfl rfl rfl rfl (Nat.le_of_ble_eq_true rfl) (by simp [plain]) rfl) wn ?_
    rintro σ20 ⟨H, -⟩
    refine w_end (q_then (c_seq (rg (sm (.func (.func 24) #[] #[(pt Gv Gw), (pt Hd He)]) rfl ?_))))
    have hc21 := H.cells 0 rfl
    refine st (v := (.agg #[(I x8.1), (Sl a15 x8.2.1 c16), (I x8.2.2)])) (rv_load (cs := [(I x8.1), (Sl a15 x8.2.1 c16), (I x8.2.2)]) Tryz.underlying44 rfl ti44 rfl rfl hc21) ?_
    revert h; refine br fun r22 hx23 h => ?_
    have hc24 := c_impl_InBox_1__p24__p24 (Be := a15) (Bf := c16) (Ej := Gu) (Ek := Gv) (El := Gw) (Em := Gx) (En := Gy) (Gn := Gs) (Gp := Gt) (Er := Hc) (Es := Hd) (Et := He) (Eu := Hf) (Ev := Hg) (Eo := Gz) (Ep := Ha) hx23
    refine st_call (cx_call hc24 (ent_v (cap := [(pt Gv Gw), (pt Hd He)]) hc24.fn rfl rfl) hn0 (H.sel' [1, 3, 2, 5, 4, 0, 1, 2, 4, 6, 7] rfl rfl : Hp S0 σ0 _ ([_, _, _, _, _] ++ _))) wn ?_
    rintro _ σ25 ⟨_, ⟨rfl, rfl⟩, H, -⟩
    replace H : Hp _ _ _ [_, _, _, _, _, _, _, _] := H
    refine w_end (q_then ?_)
    refine cd_cond r22 rfl (fun hb26 => ?_) (fun hb26 => ?_)
    ·replace h := bif_t hb26 h
     refine rg (sm (Sl a4 s2.1 c5) rfl ?_)
     have hc27 := H.cells 2 rfl
     refine st (v := (.agg #[(I x8.1), (Sl a15 x8.2.1 c16), (I x8.2.2)])) (rv_load (cs := [(I x8.1), (Sl a15 x8.2.1 c16), (I x8.2.2)]) Tryz.underlying44 rfl ti44 rfl rfl hc27) ?_
     refine st_ex (ex_buildSlice (el := 0) (xs := ([(x8.1, x8.2.1, x8.2.2)] : List (Int × (List Int) × Int))) (ps := [(0, (.agg #[(I x8.1), (Sl a15 x8.2.1 c16), (I x8.2.2)]))]) (cs := [(I x8.1), (Sl a15 x8.2.1 c16), (I x8.2.2)]) H hn0 Tryz.underlying23 ti44 rfl rfl (by kernel_rfl) (.cons (c := [(I x8.1), (Sl a15 x8.2.1 c16), (I x8.2.2)]) ⟨[(I x8.1)], [(Sl a15 x8.2.1 c16), (I x8.2.2)], rfl, rfl, ⟨[(Sl a15 x8.2.1 c16)], [(I x8.2.2)], rfl, ⟨_, rfl, (H.ro 3 rfl)⟩, rfl⟩⟩ (.nil)) rfl) wn ?_
     rintro _ σ29 ⟨b28, rfl, H, -⟩
     replace H : Hp S0 σ0 σ29 [Ch.own n0 0 (Sl (some ⟨b28, 0, none⟩) ([(x8.1, x8.2.1, x8.2.2)] : List (Int × (List Int) × Int)) 1) ([(x8.1, x8.2.1, x8.2.2)] : List (Int × (List Int) × Int)), Ch.bx Gu Gv Gw [(Sl Gs Gq Gt)] Gx Gy, Ch.bx Hc Hd He [(Sl Gz Gr Ha)] Hf Hg, Ch.ro 0 (Sl Gs Gq Gt) Gq, Ch.ro 0 (Sl Gz Gr Ha) Gr, Ch.own n0 0 (Sl a4 s2.1 c5) s2.1, Ch.ro 0 (Sl Au As Av) As] := H.sel' [0, 1, 2, 5, 6, 7, 8] rfl rfl
     revert h; refine br fun xs30 hx31 h => ?_
     refine st_ex (ex_append H (i := 5) rfl Tryz.underlying23 Tryz.underlying23 ti44 rfl rfl (by decide) (H.own 0 rfl).rd hx31 hn0 rfl rfl) wn ?_
     rintro _ σ34 ⟨a32, c33, rfl, H, -⟩
     refine sa (Sl a32 xs30 c33) rfl (w_end (q_blk ?_))
     obtain rfl := sj h
     exact ⟨rfl, _, σ34, a32, c33, fr_join ⟨rfl, rfl, rfl, rfl, rfl, trivial⟩, rfl, H.sel' [4, 2, 5, 3, 0, 6] rfl rfl⟩
    ·replace h := bif_f hb26 h
     refine c_skip (q_blk ?_)
     obtain rfl := sj h
     exact ⟨rfl, _, σ25, a4, c5, fr_join ⟨rfl, rfl, rfl, rfl, rfl, trivial⟩, rfl, H.sel' [4, 0, 5, 1, 6, 7] rfl rfl⟩
   ·clear hj
    have h := h'
    clear h' H
    rintro e a w ⟨rfl, ρ, σ35, a36, c37, rfl, rfl, H⟩
    refine q_then (rg (st (v := (I (w64 (s2.2 + 1)))) (rv_add (a := s2.2) (b := 1) rfl rfl) (sm (I (w64 (s2.2 + 1))) rfl (w_end (q_then ?_)))))
    obtain rfl := sj h
    exact ⟨_, rfl, _, σ35, a36, c37, fr_join ⟨rfl, rfl, rfl, rfl, rfl, trivial⟩, rfl, H.sel' [0, 1, 2, 3, 4, 5] rfl rfl⟩
  ·replace h := bif_f hb6 h
   refine c_exit (q_then_x (q_then_x (q_blk_hit ?_)))
   obtain rfl := sj h
   obtain rfl := hres _ rfl
   exact ⟨rfl, _, σ3, a4, c5, fr_join ⟨rfl, rfl, trivial⟩, rfl, H.sel' [0, 1, 2, 3, 4] rfl rfl⟩
 ·clear hj
  have h := h'
  clear h' H
  rintro e a w ⟨rfl, ρ, σ38, a39, c40, rfl, rfl, H⟩
  refine q_then (c_seq (rg (sm (Sl a39 o1 c40) rfl (sa (Sl a39 o1 c40) rfl (w_end (q_then (c_ret ?_)))))))
  obtain rfl := sj h
  exact fin_ret (v := (Sl a39 o1 c40)) (results_ok Tryz.results23 (res_tmp (v := (Sl a39 o1 c40)) rfl res_nil) rfl) ⟨a39, c40, rfl, rfl⟩ (H.sel' [4, 1, 3] rfl rfl)

theorem c_impl_InBox {As : List (Int × (List Int) × Int)} {Ay : List Int} {Az : List Int} {Au : Option Addr} {Av : Nat} {Gj : Option Addr} {Gk : Nat} {Gl : Option Addr} {Gm : Nat} {r : (List Int)} (h : M.impl_InBox As Ay Az = some r) :
    Cal2 Tryz.prog 10 [(Sl Au As Av), (Sl Gj Ay Gk), (Sl Gl Az Gm)] [Ch.ro 0 (Sl Au As Av) As, Ch.ro 0 (Sl Gj Ay Gk) Ay, Ch.ro 0 (Sl Gl Az Gm) Az] (fun n0 v L => ∃ (az1 : Option Addr), ∃ (cz2 : Nat), v = (Sl az1 r cz2) ∧ L = [Ch.own n0 n0 (Sl az1 r cz2) r] ∧ cz2 = r.length) := by
 refine cal2 (n := 24) Tryz.func10 rfl rfl rfl rfl ?_
 intro S0 σ0 n0 hn0 H
 unfold M.impl_InBox at h
 refine c_seq (rg (st_ex (ex_box (cs := [(Sl Gj Ay Gk)]) H hn0 rfl rfl) wn ?_))
 rintro _ σ2 ⟨b1, rfl, H, -⟩
 refine st_ex (ex_box (cs := [(Sl Gl Az Gm)]) H hn0 rfl rfl) wn ?_
 rintro _ σ4 ⟨b3, rfl, H, -⟩
 refine sa (.slice none 0 0) rfl (w_end (q_then (c_seq (c_seq ?_))))
 obtain ⟨o5, hj, h'⟩ := bind_some h
 clear h
 refine c_cut (fun e a w => e = .normal ∧ ∃ (ρ : Nat → Value) (σ : St), a = fr 24 (updL ρ [(0, (Sl Au As Av)), (4, (pt b1 0)), (5, (pt b3 0)), (19, (B o5))]) ∧ w = σ.w ∧ Hp S0 σ0 σ [Ch.ro 0 (Sl Au As Av) As, Ch.ro 0 (Sl Gj Ay Gk) Ay, Ch.bx n0 b1 0 [(Sl Gj Ay Gk)] [] [], Ch.ro 0 (Sl Gl Az Gm) Az, Ch.bx n0 b3 0 [(Sl Gl Az Gm)] [] []]) ?_ ?_
 ·clear h'
  rename _ = some o5 => h
  refine rg (sm (Sl Au As Av) rfl ?_)
  revert h; refine br fun r6 hx7 h => ?_
  have hc8 := c_impl_ValidStore (Au := Au) (Av := Av) hx7
  refine st_call (cx_call hc8 (ent_f hc8.fn rfl) hn0 (H.sel' [2, 0, 1, 2, 3, 4] rfl rfl : Hp S0 σ0 _ ([_] ++ _))) wn ?_
  rintro _ σ9 ⟨_, ⟨rfl, rfl⟩, H, -⟩
  replace H : Hp _ _ _ [_, _, _, _, _] := H
  refine st (v := (B (!r6))) (rv_not rfl) (sm (B (!r6)) rfl ?_)
  rcases Bool.eq_false_or_eq_true (!r6) with hb10 | hb10
  ·replace h := bif_t hb10 h
   refine st_skip (congrArg some hb10) (st_skip (congrArg some hb10) (st_skip (congrArg some hb10) (st (v := (B true)) (rv_pick_t (congrArg B hb10) rfl) (sm (B true) rfl (st_skip rfl (st_skip rfl (st_skip rfl (st (v := (B true)) (rv_pick_t rfl rfl) (w_end ?_)))))))))
   obtain rfl := sj h
   exact ⟨rfl, _, σ9, fr_join ⟨rfl, rfl, rfl, rfl, trivial⟩, rfl, H.sel' [2, 3, 1, 4, 0] rfl rfl⟩
  ·replace h := bif_f hb10 h
   have hc11 := H.cell (u := (Sl Gj Ay Gk)) (o' := 0) 1 0 rfl rfl rfl
   refine st_g (v := (Sl Gj Ay Gk)) (congrArg some hb10) (rv_load1 Tryz.underlying24 rfl rfl hc11) ?_
   revert h; refine br fun r12 hx13 h => ?_
   have hc14 := c_impl_ValidVector (Bb := Gj) (Bc := Gk) hx13
   refine st_call (cx_call hc14 (ent_f hc14.fn rfl) hn0 (H.sel' [3, 0, 1, 2, 3, 4] rfl rfl : Hp S0 σ0 _ ([_] ++ _))) (wanted_yes rfl (by exact (congrArg some hb10))) ?_
   rintro _ σ15 ⟨_, ⟨rfl, rfl⟩, H, -⟩
   replace H : Hp _ _ _ [_, _, _, _, _] := H
   refine st_g (v := (B (!r12))) (congrArg some hb10) (rv_not rfl) (st (v := (B (!r12))) (rv_pick_f (congrArg B hb10) rfl) (sm (B (!r12)) rfl ?_))
   rcases Bool.eq_false_or_eq_true (!r12) with hb16 | hb16
   ·replace h := bif_t hb16 h
    refine st_skip (congrArg some hb16) (st_skip (congrArg some hb16) (st_skip (congrArg some hb16) (st (v := (B true)) (rv_pick_t (congrArg B hb16) rfl) (w_end ?_))))
    obtain rfl := sj h
    exact ⟨rfl, _, σ15, fr_join ⟨rfl, rfl, rfl, rfl, trivial⟩, rfl, H.sel' [2, 3, 1, 4, 0] rfl rfl⟩
   ·replace h := bif_f hb16 h
    have hc17 := H.cell (u := (Sl Gl Az Gm)) (o' := 0) 0 0 rfl rfl rfl
    refine st_g (v := (Sl Gl Az Gm)) (congrArg some hb16) (rv_load1 Tryz.underlying24 rfl rfl hc17) ?_
    revert h; refine br fun r18 hx19 h => ?_
    have hc20 := c_impl_ValidVector (Bb := Gl) (Bc := Gm) hx19
    refine st_call (cx_call hc20 (ent_f hc20.fn rfl) hn0 (H.sel' [4, 0, 1, 2, 3, 4] rfl rfl : Hp S0 σ0 _ ([_] ++ _))) (wanted_yes rfl (by exact (congrArg some hb16))) ?_
    rintro _ σ21 ⟨_, ⟨rfl, rfl⟩, H, -⟩
    replace H : Hp _ _ _ [_, _, _, _, _] := H
    refine st_g (v := (B (!r18))) (congrArg some hb16) (rv_not rfl) (st (v := (B (!r18))) (rv_pick_f (congrArg B hb16) rfl) (w_end ?_))
    obtain rfl := sj h
    exact ⟨rfl, _, σ21, fr_join ⟨rfl, rfl, rfl, rfl, trivial⟩, rfl, H.sel' [2, 3, 1, 4, 0] rfl rfl⟩
 ·clear hj
  have h := h'
  clear h' H
  rintro e a w ⟨rfl, ρ, σ22, rfl, rfl, H⟩
  refine q_then ?_
  refine cd_cond o5 rfl (fun hb23 => ?_) (fun hb23 => ?_)
  ·replace h := bif_t hb23 h
   refine c_seq (rg (sa (.slice none 0 0) rfl (w_end (q_then (c_ret (q_then_r ?_))))))
   replace H := H.nilOwn Int n0 n0
   obtain rfl := sj h
   exact fin_ret (v := (.slice none 0 0)) (results_ok Tryz.results10 (res_tmp (v := (.slice none 0 0)) rfl res_nil) rfl) ⟨none, 0, rfl, rfl, rfl⟩ (H.sel' [0] rfl rfl)
  ·replace h := bif_f hb23 h
   refine c_skip (q_then (c_seq (rg (sm (Sl Au As Av) rfl (st (v := (.func (.func 24) #[] #[(pt b1 0), (pt b3 0)])) (rv_makeFunc (vs := [(pt b1 0), (pt b3 0)]) rfl) ?_)))))
   revert h; refine br fun r24 hx25 h => ?_
   have hc26 := c_impl_itemsThat__impl_InBox_1 (Au := Au) (Av := Av) (Gu := n0) (Gv := b1) (Gw := 0) (Gx := []) (Gy := []) (Gs := Gj) (Gt := Gk) (Hc := n0) (Hd := b3) (He := 0) (Hf := []) (Hg := []) (Gz := Gl) (Ha := Gm) hx25
   refine st_call (cx_call hc26 (ent_f hc26.fn rfl) hn0 (H.sel' [0, 2, 1, 4, 3, 0, 1, 3] rfl rfl : Hp S0 σ0 _ ([_, _, _, _, _] ++ _))) wn ?_
   rintro _ σ29 ⟨_, ⟨a27, c28, rfl, rfl⟩, H, -⟩
   replace H : Hp _ _ _ [_, _, _, _, _, _] := H
   obtain ⟨σ30, hw31, H, -⟩ := H.pub 0 rfl (Nat.zero_le _)
   rw [← hw31]; clear hw31
   revert h; refine br fun r32 hx33 h => ?_
   have hc34 := c_impl_keysOf (Au := a27) (Av := c28) hx33
   refine st_call (cx_call hc34 (ent_f hc34.fn rfl) hn0 (H.sel' [0, 0, 1, 2, 3, 4, 5] rfl rfl : Hp S0 σ0 _ ([_] ++ _))) wn ?_
   rintro _ σ38 ⟨_, ⟨a35, c36, rfl, rfl, ht37⟩, H, -⟩
   replace H : Hp _ _ _ [_, _, _, _, _, _, _] := H
   refine sa (Sl a35 r32 c36) rfl (w_end (q_then (c_ret ?_)))
   obtain rfl := sj h
   exact fin_ret (v := (Sl a35 r32 c36)) (results_ok Tryz.results10 (res_tmp (v := (Sl a35 r32 c36)) rfl res_nil) rfl) ⟨a35, c36, rfl, rfl, ht37⟩ (H.sel' [0] rfl rfl)

theorem c_laws_isIn {As : List Int} {Af : Int} {Au : Option Addr} {Av : Nat} {r : Bool} (h : M.laws_isIn As Af = some r) :
    Cal2 Tryz.prog 11 [(Sl Au As Av), (I Af)] [Ch.ro 0 (Sl Au As Av) As] (fun n0 v L => v = (B r) ∧ L = []) := by
 refine cal2 (n := 18) Tryz.func11 rfl rfl rfl rfl ?_
 intro S0 σ0 n0 hn0 H
 unfold M.laws_isIn at h
 refine c_seq (rg (sa (B false) rfl (w_end (q_then (c_seq (c_seq (rg (sa (I 0) rfl (w_end (q_then ?_))))))))))
 obtain ⟨o1, hj, h'⟩ := bind_some h
 clear h
 refine c_cut (fun e a w => (∃ t, o1 = (.inl t) ∧ e = .normal ∧ ∃ (ρ : Nat → Value) (σ : St), a = fr 18 (updL ρ []) ∧ w = σ.w ∧ Hp S0 σ0 σ []) ∨ (∃ t, o1 = (.inr t) ∧ e = .ret ∧ ∃ (ρ : Nat → Value) (σ : St), a = fr 18 (updL ρ [(4, (B t))]) ∧ w = σ.w ∧ Hp S0 σ0 σ [])) ?_ ?_
 ·clear h'
  rename _ = some o1 => h
  refine c_blk (wp_loopM _ h (fun s2 a w => ∃ (ρ : Nat → Value) (σ : St), a = fr 18 (updL ρ [(0, (Sl Au As Av)), (1, (I Af)), (5, (I s2))]) ∧ w = σ.w ∧ Hp S0 σ0 σ [Ch.ro 0 (Sl Au As Av) As]) ⟨_, σ0, fr_join ⟨rfl, rfl, rfl, trivial⟩, rfl, H.sel' [0] rfl rfl⟩ ?_)
  clear h H
  rintro s2 a w o ⟨ρ, σ3, rfl, rfl, H⟩ h hres
  refine c_seq (c_seq (rg (sm (I s2) rfl (sm (Sl Au As Av) rfl (st (v := (I (As.length : Int))) (rv_len Tryz.underlying24 rfl) (st (v := (B (decide (s2 < (As.length : Int))))) (rv_lss (a := s2) (b := (As.length : Int)) rfl rfl) (w_end (q_then ?_))))))))
  refine cd_cond (decide (s2 < (As.length : Int))) rfl (fun hb4 => ?_) (fun hb4 => ?_)
  ·replace h := bif_t hb4 h
   refine c_skip (q_then (c_seq (c_blk (c_seq (rg (sm (Sl Au As Av) rfl (sm (I s2) rfl ?_)))))))
   revert h; refine br fun x5 hx6 h => ?_
   obtain ⟨b8, o9, hi7, -⟩ := (H.ro 0 rfl).ix hx6
   refine st (v := (pt b8 o9)) (rv_ix Tryz.underlying24 ti3 rfl rfl hi7) ?_
   have hc10 := ((H.ro 0 rfl).at hx6 hi7).int
   refine st (v := (I x5)) (rv_load1 Tryz.underlying3 rfl rfl hc10) (sm (I Af) rfl (st (v := (B (x5 == Af))) (rv_eql (a := x5) (b := Af) rfl rfl) (w_end (q_then ?_))))
   refine cd_cond (x5 == Af) rfl (fun hb11 => ?_) (fun hb11 => ?_)
   ·replace h := bif_t hb11 h
    refine c_seq (rg (sa (B true) rfl (w_end (q_then (c_ret (q_blk_r (q_then_r (q_then_r (q_blk_r ?_)))))))))
    obtain rfl := sj h
    obtain rfl := hres _ rfl
    exact .inr (⟨_, rfl, rfl, _, σ3, fr_join ⟨rfl, trivial⟩, rfl, H.sel' [] rfl rfl⟩)
   ·replace h := bif_f hb11 h
    refine c_skip (q_blk (q_then (rg (sm (I s2) rfl (st (v := (I (w64 (s2 + 1)))) (rv_add (a := s2) (b := 1) rfl rfl) (sa (I (w64 (s2 + 1))) rfl (w_end (q_then ?_))))))))
    obtain rfl := sj h
    exact ⟨_, rfl, _, σ3, fr_join ⟨rfl, rfl, rfl, trivial⟩, rfl, H.sel' [0] rfl rfl⟩
  ·replace h := bif_f hb4 h
   refine c_exit (q_then_x (q_then_x (q_blk_hit ?_)))
   obtain rfl := sj h
   obtain rfl := hres _ rfl
   exact .inl ⟨_, rfl, rfl, _, σ3, fr_join trivial, rfl, H.sel' [] rfl rfl⟩
 ·clear hj
  have h := h'
  clear h' H
  rintro e a w (⟨t12, rfl, rfl, ρ, σ13, rfl, rfl, H⟩ | ⟨t14, rfl, rfl, ρ, σ15, rfl, rfl, H⟩)
  ·replace h := selim_l h
   refine q_then (c_seq (rg (sa (B false) rfl (w_end (q_then (c_ret ?_))))))
   obtain rfl := sj h
   exact fin_ret (v := (B false)) (results_ok Tryz.results11 (res_tmp (v := (B false)) rfl res_nil) rfl) ⟨rfl, rfl⟩ (H.sel' [] rfl rfl)
  ·replace h := selim_r h
   refine q_then_r ?_
   obtain rfl := sj h
   exact fin_ret (v := (B t14)) (results_ok Tryz.results11 (res_tmp (v := (B t14)) rfl res_nil) rfl) ⟨rfl, rfl⟩ (H.sel' [] rfl rfl)

theorem c_laws_FnInBoxMost {Aa : List UInt8} {Ac : Option Addr} {Ad : Nat} {r : Bool} (h : M.laws_FnInBoxMost Aa = some r) :
    Cal2 Tryz.prog 3 [(Sl Ac Aa Ad)] [Ch.ro 0 (Sl Ac Aa Ad) Aa] (fun n0 v L => v = (B r) ∧ L = []) := by
 refine cal2 (n := 119) Tryz.func3 rfl rfl rfl rfl ?_
 intro S0 σ0 n0 hn0 H
 unfold M.laws_FnInBoxMost at h
 refine c_seq (rg (sa (B false) rfl (w_end (q_then (c_seq (c_seq (rg (sm (Sl Ac Aa Ad) rfl (st (v := (I (Aa.length : Int))) (rv_len Tryz.underlying22 rfl) (st (v := (B (decide (1048576 < (Aa.length : Int))))) (rv_gtr (a := (Aa.length : Int)) (b := 1048576) rfl rfl) (w_end ?_)))))))))))
 refine q_then ?_
 refine cd_cond (decide (1048576 < (Aa.length : Int))) rfl (fun hb1 => ?_) (fun hb1 => ?_)
 ·replace h := bif_t hb1 h
  refine c_seq (rg (sa (B true) rfl (w_end (q_then (c_ret (q_then_r ?_))))))
  obtain rfl := sj h
  exact fin_ret (v := (B true)) (results_ok Tryz.results3 (res_tmp (v := (B true)) rfl res_nil) rfl) ⟨rfl, rfl⟩ (H.sel' [] rfl rfl)
 ·replace h := bif_f hb1 h
  refine c_skip (q_then (c_seq (rg (sm (Sl Ac Aa Ad) rfl ?_))))
  revert h; refine br fun r2 hx3 h => ?_
  have hc4 := c_spec_DrawWithinDist (Ac := Ac) (Ad := Ad) hx3
  refine st_call (cx_call hc4 (ent_f hc4.fn rfl) hn0 (H.sel' [0, 0] rfl rfl : Hp S0 σ0 _ ([_] ++ _))) wn ?_
  rintro _ σ9 ⟨_, ⟨a5, c6, a7, c8, rfl, rfl⟩, H, -⟩
  replace H : Hp _ _ _ [_, _, _] := H
  refine sm (.tuple #[(Sl a5 r2.1 c6), (I r2.2.1), (Sl a7 r2.2.2.1 c8), (I r2.2.2.2)]) rfl (st (v := (Sl a5 r2.1 c6)) (rv_extract rfl rfl) (st (v := (I r2.2.1)) (rv_extract rfl rfl) (st (v := (Sl a7 r2.2.2.1 c8)) (rv_extract rfl rfl) (st (v := (I r2.2.2.2)) (rv_extract rfl rfl) (sa (Sl a5 r2.1 c6) rfl (sa (I r2.2.1) rfl (sa (Sl a7 r2.2.2.1 c8) rfl (sa (I r2.2.2.2) rfl (w_end (q_then (c_seq ?_)))))))))))
  refine rg (sm (Sl a5 r2.1 c6) rfl (sm (I r2.2.1) rfl (sm (Sl a7 r2.2.2.1 c8) rfl (sm (I r2.2.2.2) rfl ?_))))
  revert h; refine br fun r10 hx11 h => ?_
  have hc12 := c_impl_WithinDist (Au := a5) (Av := c6) (Bt := a7) (Bu := c8) hx11
  have hle := Nat.le_trans hn0 H.size
  refine st_call (cx_lend (Loan.lend (Loan.lend Loan.nil)) hc12 (ent_f hc12.fn rfl) (show Hp S0 σ0 _ ([Ch.own n0 n0 (Sl a5 r2.1 c6) r2.1, Ch.own n0 n0 (Sl a7 r2.2.2.1 c8) r2.2.2.1] ++ ([] ++ [Ch.ro 0 (Sl Ac Aa Ad) Aa])) from (H.sel' [0, 1, 2] rfl rfl)) (by rintro _ _ _ ⟨_, _, rfl, rfl⟩; exact ⟨Ab.ownSc, trivial⟩)) wn ?_
  rintro _ σ15 ⟨_, ⟨a13, c14, rfl, rfl⟩, H, -, -⟩
  replace H : Hp _ _ _ [_, _, _, _] := H
  replace H := H.ownLow 0 0 n0 rfl (Nat.le_refl _) hle
  clear hle
  replace H : Hp _ _ _ [_, _, _, _] := H
  refine sa (Sl a13 r10 c14) rfl (w_end (q_then (c_seq (c_seq ?_))))
  obtain ⟨o16, hj, h'⟩ := bind_some h
  clear h
  refine c_cut (fun e a w => e = .normal ∧ ∃ (ρ : Nat → Value) (σ : St), a = fr 119 (updL ρ [(3, (Sl a5 r2.1 c6)), (4, (I r2.2.1)), (5, (Sl a7 r2.2.2.1 c8)), (6, (I r2.2.2.2)), (7, (Sl a13 r10 c14)), (50, (B o16))]) ∧ w = σ.w ∧ Hp S0 σ0 σ [Ch.own n0 n0 (Sl a5 r2.1 c6) r2.1, Ch.own n0 n0 (Sl a7 r2.2.2.1 c8) r2.2.2.1, Ch.own 0 n0 (Sl a13 r10 c14) r10]) ?_ ?_
  ·clear h'
   rename _ = some o16 => h
   refine rg (sm (Sl a13 r10 c14) rfl (sm (Sl a5 r2.1 c6) rfl (sm (I r2.2.1) rfl (sm (Sl a7 r2.2.2.1 c8) rfl (sm (I r2.2.2.2) rfl ?_)))))
   revert h; refine br fun r17 hx18 h => ?_
   have hc19 := c_spec_WithinDist (Au := a5) (Av := c6) (Bt := a7) (Bu := c8) hx18
   have hle := Nat.le_trans hn0 H.size
   refine st_call (cx_lend (Loan.lend (Loan.lend Loan.nil)) hc19 (ent_f hc19.fn rfl) (show Hp S0 σ0 _ ([Ch.own n0 n0 (Sl a5 r2.1 c6) r2.1, Ch.own n0 n0 (Sl a7 r2.2.2.1 c8) r2.2.2.1] ++ ([] ++ [Ch.own 0 n0 (Sl a13 r10 c14) r10, Ch.ro 0 (Sl Ac Aa Ad) Aa])) from (H.sel' [1, 2, 0, 3] rfl rfl)) (by rintro _ _ _ ⟨_, _, rfl, rfl⟩; exact ⟨Ab.ownSc, trivial⟩)) wn ?_
   rintro _ σ22 ⟨_, ⟨a20, c21, rfl, rfl⟩, H, -, -⟩
   replace H : Hp _ _ _ [_, _, _, _, _] := H
   replace H := H.ownLow 0 n0 n0 rfl hle hle
   clear hle
   replace H : Hp _ _ _ [_, _, _, _, _] := H
   obtain ⟨σ23, hw24, H, -⟩ := H.pub 0 rfl (Nat.le_refl _)
   rw [← hw24]; clear hw24
   replace H := H.roLow 0 0 rfl (Nat.zero_le _)
   revert h; refine br fun r25 hx26 h => ?_
   have hc27 := c_laws_equalHits (Ga := a13) (Gb := c14) (Gc := a20) (Gd := c21) hx26
   have hle := Nat.le_trans hn0 H.size
   refine st_call (cx_lend (Loan.lend (Loan.same Loan.nil)) hc27 (ent_f hc27.fn rfl) (show Hp S0 σ0 _ ([Ch.own 0 n0 (Sl a13 r10 c14) r10] ++ ([Ch.ro 0 (Sl a20 r17 c21) r17] ++ [Ch.ro 0 (Sl a20 r17 c21) r17, Ch.ro n0 (Sl a20 r17 c21) r17, Ch.own n0 n0 (Sl a5 r2.1 c6) r2.1, Ch.own n0 n0 (Sl a7 r2.2.2.1 c8) r2.2.2.1, Ch.ro 0 (Sl Ac Aa Ad) Aa])) from (H.sel' [4, 0, 0, 1, 2, 3, 5] rfl rfl)) (by rintro _ _ _ ⟨rfl, rfl⟩; exact trivial)) wn ?_
   rintro _ σ28 ⟨_, ⟨rfl, rfl⟩, H, -, -⟩
   replace H : Hp _ _ _ [_, _, _, _, _, _] := H
   clear hle
   replace H : Hp _ _ _ [_, _, _, _, _, _] := H
   refine st (v := (B (!r25))) (rv_not rfl) (sm (B (!r25)) rfl ?_)
   rcases Bool.eq_false_or_eq_true (!r25) with hb29 | hb29
   ·replace h := bif_t hb29 h
    refine st_skip (congrArg some hb29) (st_skip (congrArg some hb29) (st_skip (congrArg some hb29) (st (v := (B true)) (rv_pick_t (congrArg B hb29) rfl) (sm (B true) rfl (st_skip rfl (st_skip rfl (st_skip rfl (st (v := (B true)) (rv_pick_t rfl rfl) (sm (B true) rfl (st_skip rfl (st_skip rfl ?_)))))))))))
    refine st (v := (B true)) (rv_pick_t rfl rfl) (w_end ?_)
    obtain rfl := sj h
    exact ⟨rfl, _, σ28, fr_join ⟨rfl, rfl, rfl, rfl, rfl, rfl, trivial⟩, rfl, H.sel' [3, 4, 0] rfl rfl⟩
   ·replace h := bif_f hb29 h
    refine st_g (v := (Sl a5 r2.1 c6)) (congrArg some hb29) (rv_move rfl) ?_
    revert h; refine br fun r30 hx31 h => ?_
    have hc32 := c_impl_ValidStore (Au := a5) (Av := c6) hx31
    have hle := Nat.le_trans hn0 H.size
    refine st_call (cx_lend (Loan.lend Loan.nil) hc32 (ent_f hc32.fn rfl) (show Hp S0 σ0 _ ([Ch.own n0 n0 (Sl a5 r2.1 c6) r2.1] ++ ([] ++ [Ch.own 0 n0 (Sl a13 r10 c14) r10, Ch.ro 0 (Sl a20 r17 c21) r17, Ch.ro n0 (Sl a20 r17 c21) r17, Ch.own n0 n0 (Sl a7 r2.2.2.1 c8) r2.2.2.1, Ch.ro 0 (Sl Ac Aa Ad) Aa])) from (H.sel' [3, 0, 1, 2, 4, 5] rfl rfl)) (by rintro _ _ _ ⟨rfl, rfl⟩; exact trivial)) (wanted_yes rfl (by exact (congrArg some hb29))) ?_
    rintro _ σ33 ⟨_, ⟨rfl, rfl⟩, H, -, -⟩
    replace H : Hp _ _ _ [_, _, _, _, _, _] := H
    clear hle
    replace H : Hp _ _ _ [_, _, _, _, _, _] := H
    refine st_g (v := (B (!r30))) (congrArg some hb29) (rv_not rfl) (st (v := (B (!r30))) (rv_pick_f (congrArg B hb29) rfl) (sm (B (!r30)) rfl ?_))
    rcases Bool.eq_false_or_eq_true (!r30) with hb34 | hb34
    ·replace h := bif_t hb34 h
     refine st_skip (congrArg some hb34) (st_skip (congrArg some hb34) (st_skip (congrArg some hb34) (st (v := (B true)) (rv_pick_t (congrArg B hb34) rfl) (sm (B true) rfl (st_skip rfl (st_skip rfl (st (v := (B true)) (rv_pick_t rfl rfl) (w_end ?_))))))))
     obtain rfl := sj h
     exact ⟨rfl, _, σ33, fr_join ⟨rfl, rfl, rfl, rfl, rfl, rfl, trivial⟩, rfl, H.sel' [0, 4, 1] rfl rfl⟩
    ·replace h := bif_f hb34 h
     refine st_g (v := (Sl a7 r2.2.2.1 c8)) (congrArg some hb34) (rv_move rfl) ?_
     revert h; refine br fun r35 hx36 h => ?_
     have hc37 := c_impl_ValidVector (Bb := a7) (Bc := c8) hx36
     have hle := Nat.le_trans hn0 H.size
     refine st_call (cx_lend (Loan.lend Loan.nil) hc37 (ent_f hc37.fn rfl) (show Hp S0 σ0 _ ([Ch.own n0 n0 (Sl a7 r2.2.2.1 c8) r2.2.2.1] ++ ([] ++ [Ch.own n0 n0 (Sl a5 r2.1 c6) r2.1, Ch.own 0 n0 (Sl a13 r10 c14) r10, Ch.ro 0 (Sl a20 r17 c21) r17, Ch.ro n0 (Sl a20 r17 c21) r17, Ch.ro 0 (Sl Ac Aa Ad) Aa])) from (H.sel' [4, 0, 1, 2, 3, 5] rfl rfl)) (by rintro _ _ _ ⟨rfl, rfl⟩; exact trivial)) (wanted_yes rfl (by exact (congrArg some hb34))) ?_
     rintro _ σ38 ⟨_, ⟨rfl, rfl⟩, H, -, -⟩
     replace H : Hp _ _ _ [_, _, _, _, _, _] := H
     clear hle
     replace H : Hp _ _ _ [_, _, _, _, _, _] := H
     refine st_g (v := (B (!r35))) (congrArg some hb34) (rv_not rfl) (st (v := (B (!r35))) (rv_pick_f (congrArg B hb34) rfl) (sm (B (!r35)) rfl ?_))
     rcases Bool.eq_false_or_eq_true (!r35) with hb39 | hb39
     ·replace h := bif_t hb39 h
      refine st_skip (congrArg some hb39) (st_skip (congrArg some hb39) (st (v := (B true)) (rv_pick_t (congrArg B hb39) rfl) (w_end ?_)))
      obtain rfl := sj h
      exact ⟨rfl, _, σ38, fr_join ⟨rfl, rfl, rfl, rfl, rfl, rfl, trivial⟩, rfl, H.sel' [1, 0, 2] rfl rfl⟩
     ·replace h := bif_f hb39 h
      refine st_g (v := (I r2.2.2.2)) (congrArg some hb39) (rv_move rfl) (st_g (v := (B (decide (r2.2.2.2 < 0)))) (congrArg some hb39) (rv_lss (a := r2.2.2.2) (b := 0) rfl rfl) (st (v := (B (decide (r2.2.2.2 < 0)))) (rv_pick_f (congrArg B hb39) rfl) (w_end ?_)))
      obtain rfl := sj h
      exact ⟨rfl, _, σ38, fr_join ⟨rfl, rfl, rfl, rfl, rfl, rfl, trivial⟩, rfl, H.sel' [1, 0, 2] rfl rfl⟩
  ·clear hj
   have h := h'
   clear h' H
   rintro e a w ⟨rfl, ρ, σ40, rfl, rfl, H⟩
   refine q_then ?_
   refine cd_cond o16 rfl (fun hb41 => ?_) (fun hb41 => ?_)
   ·replace h := bif_t hb41 h
    refine c_seq (rg (sm (Sl a13 r10 c14) rfl (sm (Sl a5 r2.1 c6) rfl (sm (I r2.2.1) rfl (sm (Sl a7 r2.2.2.1 c8) rfl (sm (I r2.2.2.2) rfl ?_))))))
    obtain ⟨σ42, hw43, H, -⟩ := H.pub 0 rfl (Nat.le_refl _)
    rw [← hw43]; clear hw43
    obtain ⟨σ44, hw45, H, -⟩ := H.pub 1 rfl (Nat.le_refl _)
    rw [← hw45]; clear hw45
    replace H := H.roLow 1 0 rfl (Nat.zero_le _)
    replace H := H.roLow 1 0 rfl (Nat.zero_le _)
    revert h; refine br fun r46 hx47 h => ?_
    have hc48 := c_spec_WithinDist (Au := a5) (Av := c6) (Bt := a7) (Bu := c8) hx47
    refine st_call (cx_call hc48 (ent_f hc48.fn rfl) hn0 (H.sel' [1, 0, 0, 1, 2, 3, 4] rfl rfl : Hp S0 σ0 _ ([_, _] ++ _))) wn ?_
    rintro _ σ51 ⟨_, ⟨a49, c50, rfl, rfl⟩, H, -⟩
    replace H : Hp _ _ _ [_, _, _, _, _, _] := H
    replace H := H.ownLow 5 0 0 rfl (Nat.le_refl _) (Nat.zero_le _)
    obtain ⟨σ52, hw53, H, -⟩ := H.pub 0 rfl (Nat.le_refl _)
    rw [← hw53]; clear hw53
    obtain ⟨σ54, hw55, H, -⟩ := H.pub 1 rfl (Nat.le_refl _)
    rw [← hw55]; clear hw55
    replace H := H.roLow 0 0 rfl (Nat.zero_le _)
    revert h; refine br fun r56 hx57 h => ?_
    have hc58 := c_laws_equalHits (Ga := a13) (Gb := c14) (Gc := a49) (Gd := c50) hx57
    refine st_call (cx_call hc58 (ent_f hc58.fn rfl) hn0 (H.sel' [2, 0, 0, 1, 2, 3, 4, 5, 6] rfl rfl : Hp S0 σ0 _ ([_, _] ++ _))) wn ?_
    rintro _ σ59 ⟨_, ⟨rfl, rfl⟩, H, -⟩
    replace H : Hp _ _ _ [_, _, _, _, _, _, _] := H
    refine sa (B r56) rfl (w_end (q_then (c_ret (q_then_r ?_))))
    obtain rfl := sj h
    exact fin_ret (v := (B r56)) (results_ok Tryz.results3 (res_tmp (v := (B r56)) rfl res_nil) rfl) ⟨rfl, rfl⟩ (H.sel' [] rfl rfl)
   ·replace h := bif_f hb41 h
    refine c_skip (q_then (c_seq (rg ?_)))
    refine st_ex (ex_buildSlice (el := n0) (xs := ([] : List Int)) (ps := []) (cs := []) H hn0 Tryz.underlying24 ti3 rfl rfl (by kernel_rfl) (.nil) rfl) wn ?_
    rintro _ σ61 ⟨b60, rfl, H, -⟩
    refine sa (Sl (some ⟨b60, 0, none⟩) ([] : List Int) 0) rfl (w_end (q_then (c_seq (rg ?_))))
    refine st_ex (ex_buildSlice (el := n0) (xs := ([] : List Int)) (ps := []) (cs := []) H hn0 Tryz.underlying24 ti3 rfl rfl (by kernel_rfl) (.nil) rfl) wn ?_
    rintro _ σ63 ⟨b62, rfl, H, -⟩
    refine sa (Sl (some ⟨b62, 0, none⟩) ([] : List Int) 0) rfl (w_end (q_then (c_seq (c_seq (rg (sa (I 0) rfl (w_end (q_then ?_))))))))
    obtain ⟨o64, hj, h'⟩ := bind_some h
    clear h
    refine c_cut (fun e a w => e = .normal ∧ ∃ (ρ : Nat → Value) (σ : St) (aj1 : Option Addr) (cj2 : Nat) (aj3 : Option Addr) (cj4 : Nat), a = fr 119 (updL ρ [(3, (Sl a5 r2.1 c6)), (5, (Sl a7 r2.2.2.1 c8)), (6, (I r2.2.2.2)), (8, (Sl aj1 o64.1 cj2)), (9, (Sl aj3 o64.2 cj4))]) ∧ w = σ.w ∧ Hp S0 σ0 σ [Ch.own n0 n0 (Sl a5 r2.1 c6) r2.1, Ch.own n0 n0 (Sl a7 r2.2.2.1 c8) r2.2.2.1, Ch.own n0 n0 (Sl aj1 o64.1 cj2) o64.1, Ch.own n0 n0 (Sl aj3 o64.2 cj4) o64.2]) ?_ ?_
    ·clear h'
     rename _ = some o64 => h
     refine c_blk (wp_loopM _ h (fun s65 a w => ∃ (ρ : Nat → Value) (σ : St) (aj1 : Option Addr) (cj2 : Nat) (aj3 : Option Addr) (cj4 : Nat), a = fr 119 (updL ρ [(3, (Sl a5 r2.1 c6)), (5, (Sl a7 r2.2.2.1 c8)), (6, (I r2.2.2.2)), (8, (Sl aj1 s65.1 cj2)), (9, (Sl aj3 s65.2.1 cj4)), (10, (I s65.2.2))]) ∧ w = σ.w ∧ Hp S0 σ0 σ [Ch.own n0 n0 (Sl a5 r2.1 c6) r2.1, Ch.own n0 n0 (Sl a7 r2.2.2.1 c8) r2.2.2.1, Ch.own n0 n0 (Sl aj1 s65.1 cj2) s65.1, Ch.own n0 n0 (Sl aj3 s65.2.1 cj4) s65.2.1]) ⟨_, σ63, (some ⟨b60, 0, none⟩), 0, (some ⟨b62, 0, none⟩), 0, fr_join ⟨rfl, rfl, rfl, rfl, rfl, rfl, trivial⟩, rfl, H.sel' [2, 3, 1, 0] rfl rfl⟩ ?_)
     clear h H
     rintro s65 a w o ⟨ρ, σ66, a67, c68, a69, c70, rfl, rfl, H⟩ h hres
     refine c_seq (c_seq (rg (sm (I s65.2.2) rfl (sm (Sl a7 r2.2.2.1 c8) rfl (st (v := (I (r2.2.2.1.length : Int))) (rv_len Tryz.underlying24 rfl) (st (v := (B (decide (s65.2.2 < (r2.2.2.1.length : Int))))) (rv_lss (a := s65.2.2) (b := (r2.2.2.1.length : Int)) rfl rfl) (w_end (q_then ?_))))))))
     refine cd_cond (decide (s65.2.2 < (r2.2.2.1.length : Int))) rfl (fun hb71 => ?_) (fun hb71 => ?_)
     ·replace h := bif_t hb71 h
      refine c_skip (q_then (c_seq (c_blk (c_seq (rg (sm (Sl a67 s65.1 c68) rfl (sm (Sl a7 r2.2.2.1 c8) rfl (sm (I s65.2.2) rfl ?_))))))))
      revert h; refine br fun x72 hx73 h => ?_
      obtain ⟨b75, o76, hi74, -⟩ := (H.own 1 rfl).ix hx73
      refine st (v := (pt b75 o76)) (rv_ix Tryz.underlying24 ti3 rfl rfl hi74) ?_
      have hc77 := ((H.own 1 rfl).at hx73 hi74).int
      refine st (v := (I x72)) (rv_load1 Tryz.underlying3 rfl rfl hc77) (sm (I r2.2.2.2) rfl (st (v := (I (w64 (x72 - r2.2.2.2)))) (rv_sub (a := x72) (b := r2.2.2.2) rfl rfl) ?_))
      refine st_ex (ex_buildSlice (el := n0) (xs := ([w64 (x72 - r2.2.2.2)] : List Int)) (ps := [(0, (I (w64 (x72 - r2.2.2.2))))]) (cs := [(I (w64 (x72 - r2.2.2.2)))]) H hn0 Tryz.underlying24 ti3 rfl rfl (by kernel_rfl) (.cons (c := [(I (w64 (x72 - r2.2.2.2)))]) rfl (.nil)) rfl) wn ?_
      rintro _ σ79 ⟨b78, rfl, H, -⟩
      revert h; refine br fun xs80 hx81 h => ?_
      refine st_ex (ex_append H (i := 3) rfl Tryz.underlying24 Tryz.underlying24 ti3 rfl rfl (by decide) (H.own 0 rfl).rd hx81 hn0 rfl rfl) wn ?_
      rintro _ σ84 ⟨a82, c83, rfl, H, -⟩
      refine sa (Sl a82 xs80 c83) rfl (w_end (q_then (rg (sm (Sl a69 s65.2.1 c70) rfl (sm (Sl a7 r2.2.2.1 c8) rfl (sm (I s65.2.2) rfl ?_))))))
      revert h; refine br fun x85 hx86 h => ?_
      obtain ⟨b88, o89, hi87, -⟩ := (H.own 3 rfl).ix hx86
      refine st (v := (pt b88 o89)) (rv_ix Tryz.underlying24 ti3 rfl rfl hi87) ?_
      have hc90 := ((H.own 3 rfl).at hx86 hi87).int
      refine st (v := (I x85)) (rv_load1 Tryz.underlying3 rfl rfl hc90) (sm (I r2.2.2.2) rfl (st (v := (I (w64 (x85 + r2.2.2.2)))) (rv_add (a := x85) (b := r2.2.2.2) rfl rfl) ?_))
      refine st_ex (ex_buildSlice (el := n0) (xs := ([w64 (x85 + r2.2.2.2)] : List Int)) (ps := [(0, (I (w64 (x85 + r2.2.2.2))))]) (cs := [(I (w64 (x85 + r2.2.2.2)))]) H hn0 Tryz.underlying24 ti3 rfl rfl (by kernel_rfl) (.cons (c := [(I (w64 (x85 + r2.2.2.2)))]) rfl (.nil)) rfl) wn ?_
      rintro _ σ92 ⟨b91, rfl, H, -⟩
      revert h; refine br fun xs93 hx94 h => ?_
      refine st_ex (ex_append H (i := 5) rfl Tryz.underlying24 Tryz.underlying24 ti3 rfl rfl (by decide) (H.own 0 rfl).rd hx94 hn0 rfl rfl) wn ?_
      rintro _ σ97 ⟨a95, c96, rfl, H, -⟩
      refine sa (Sl a95 xs93 c96) rfl (w_end (q_blk (q_then (rg (sm (I s65.2.2) rfl (st (v := (I (w64 (s65.2.2 + 1)))) (rv_add (a := s65.2.2) (b := 1) rfl rfl) (sa (I (w64 (s65.2.2 + 1))) rfl (w_end (q_then ?_)))))))))
      obtain rfl := sj h
      exact ⟨_, rfl, _, σ97, a82, c83, a95, c96, fr_join ⟨rfl, rfl, rfl, rfl, rfl, rfl, trivial⟩, rfl, H.sel' [4, 5, 2, 0] rfl rfl⟩
     ·replace h := bif_f hb71 h
      refine c_exit (q_then_x (q_then_x (q_blk_hit ?_)))
      obtain rfl := sj h
      obtain rfl := hres _ rfl
      exact ⟨rfl, _, σ66, a67, c68, a69, c70, fr_join ⟨rfl, rfl, rfl, rfl, rfl, trivial⟩, rfl, H.sel' [0, 1, 2, 3] rfl rfl⟩
    ·clear hj
     have h := h'
     clear h' H
     rintro e a w ⟨rfl, ρ, σ98, a99, c100, a101, c102, rfl, rfl, H⟩
     refine q_then (c_seq (c_seq ?_))
     obtain ⟨o103, hj, h'⟩ := bind_some h
     clear h
     refine c_cut (fun e a w => e = .normal ∧ ∃ (ρ : Nat → Value) (σ : St), a = fr 119 (updL ρ [(3, (Sl a5 r2.1 c6)), (5, (Sl a7 r2.2.2.1 c8)), (6, (I r2.2.2.2)), (8, (Sl a99 o64.1 c100)), (9, (Sl a101 o64.2 c102)), (91, (B o103))]) ∧ w = σ.w ∧ Hp S0 σ0 σ [Ch.own n0 n0 (Sl a5 r2.1 c6) r2.1, Ch.own n0 n0 (Sl a7 r2.2.2.1 c8) r2.2.2.1, Ch.own n0 n0 (Sl a99 o64.1 c100) o64.1, Ch.own n0 n0 (Sl a101 o64.2 c102) o64.2]) ?_ ?_
     ·clear h'
      rename _ = some o103 => h
      refine rg (sm (Sl a99 o64.1 c100) rfl ?_)
      revert h; refine br fun r104 hx105 h => ?_
      have hc106 := c_impl_ValidVector (Bb := a99) (Bc := c100) hx105
      have hle := Nat.le_trans hn0 H.size
      refine st_call (cx_lend (Loan.lend Loan.nil) hc106 (ent_f hc106.fn rfl) (show Hp S0 σ0 _ ([Ch.own n0 n0 (Sl a99 o64.1 c100) o64.1] ++ ([] ++ [Ch.own n0 n0 (Sl a5 r2.1 c6) r2.1, Ch.own n0 n0 (Sl a7 r2.2.2.1 c8) r2.2.2.1, Ch.own n0 n0 (Sl a101 o64.2 c102) o64.2])) from (H.sel' [2, 0, 1, 3] rfl rfl)) (by rintro _ _ _ ⟨rfl, rfl⟩; exact trivial)) wn ?_
      rintro _ σ107 ⟨_, ⟨rfl, rfl⟩, H, -, -⟩
      replace H : Hp _ _ _ [_, _, _, _] := H
      clear hle
      replace H : Hp _ _ _ [_, _, _, _] := H
      refine st (v := (B (!r104))) (rv_not rfl) (sm (B (!r104)) rfl ?_)
      rcases Bool.eq_false_or_eq_true (!r104) with hb108 | hb108
      ·replace h := bif_t hb108 h
       refine st_skip (congrArg some hb108) (st_skip (congrArg some hb108) (st_skip (congrArg some hb108) (st (v := (B true)) (rv_pick_t (congrArg B hb108) rfl) (w_end ?_))))
       obtain rfl := sj h
       exact ⟨rfl, _, σ107, fr_join ⟨rfl, rfl, rfl, rfl, rfl, rfl, trivial⟩, rfl, H.sel' [1, 2, 0, 3] rfl rfl⟩
      ·replace h := bif_f hb108 h
       refine st_g (v := (Sl a101 o64.2 c102)) (congrArg some hb108) (rv_move rfl) ?_
       revert h; refine br fun r109 hx110 h => ?_
       have hc111 := c_impl_ValidVector (Bb := a101) (Bc := c102) hx110
       have hle := Nat.le_trans hn0 H.size
       refine st_call (cx_lend (Loan.lend Loan.nil) hc111 (ent_f hc111.fn rfl) (show Hp S0 σ0 _ ([Ch.own n0 n0 (Sl a101 o64.2 c102) o64.2] ++ ([] ++ [Ch.own n0 n0 (Sl a99 o64.1 c100) o64.1, Ch.own n0 n0 (Sl a5 r2.1 c6) r2.1, Ch.own n0 n0 (Sl a7 r2.2.2.1 c8) r2.2.2.1])) from (H.sel' [3, 0, 1, 2] rfl rfl)) (by rintro _ _ _ ⟨rfl, rfl⟩; exact trivial)) (wanted_yes rfl (by exact (congrArg some hb108))) ?_
       rintro _ σ112 ⟨_, ⟨rfl, rfl⟩, H, -, -⟩
       replace H : Hp _ _ _ [_, _, _, _] := H
       clear hle
       replace H : Hp _ _ _ [_, _, _, _] := H
       refine st_g (v := (B (!r109))) (congrArg some hb108) (rv_not rfl) (st (v := (B (!r109))) (rv_pick_f (congrArg B hb108) rfl) (w_end ?_))
       obtain rfl := sj h
       exact ⟨rfl, _, σ112, fr_join ⟨rfl, rfl, rfl, rfl, rfl, rfl, trivial⟩, rfl, H.sel' [2, 3, 1, 0] rfl rfl⟩
     ·clear hj
      have h := h'
      clear h' H
      rintro e a w ⟨rfl, ρ, σ113, rfl, rfl, H⟩
      refine q_then ?_
      refine cd_cond o103 rfl (fun hb114 => ?_) (fun hb114 => ?_)
      ·replace h := bif_t hb114 h
       refine c_seq (rg (sa (B true) rfl (w_end (q_then (c_ret (q_then_r ?_))))))
       obtain rfl := sj h
       exact fin_ret (v := (B true)) (results_ok Tryz.results3 (res_tmp (v := (B true)) rfl res_nil) rfl) ⟨rfl, rfl⟩ (H.sel' [] rfl rfl)
      ·replace h := bif_f hb114 h
       refine c_skip (q_then (c_seq (rg (sm (Sl a5 r2.1 c6) rfl (sm (Sl a99 o64.1 c100) rfl (sm (Sl a101 o64.2 c102) rfl ?_))))))
       obtain ⟨σ115, hw116, H, -⟩ := H.pub 2 rfl (Nat.le_refl _)
       rw [← hw116]; clear hw116
       obtain ⟨σ117, hw118, H, -⟩ := H.pub 3 rfl (Nat.le_refl _)
       rw [← hw118]; clear hw118
       replace H := H.roLow 1 0 rfl (Nat.zero_le _)
       replace H := H.roLow 1 0 rfl (Nat.zero_le _)
       revert h; refine br fun r119 hx120 h => ?_
       have hc121 := c_impl_InBox (Au := a5) (Av := c6) (Gj := a99) (Gk := c100) (Gl := a101) (Gm := c102) hx120
       have hle := Nat.le_trans hn0 H.size
       refine st_call (cx_lend (Loan.lend (Loan.same (Loan.same Loan.nil))) hc121 (ent_f hc121.fn rfl) (show Hp S0 σ0 _ ([Ch.own n0 n0 (Sl a5 r2.1 c6) r2.1] ++ ([Ch.ro 0 (Sl a99 o64.1 c100) o64.1, Ch.ro 0 (Sl a101 o64.2 c102) o64.2] ++ [Ch.ro 0 (Sl a101 o64.2 c102) o64.2, Ch.ro 0 (Sl a99 o64.1 c100) o64.1, Ch.ro n0 (Sl a101 o64.2 c102) o64.2, Ch.ro n0 (Sl a99 o64.1 c100) o64.1, Ch.own n0 n0 (Sl a7 r2.2.2.1 c8) r2.2.2.1])) from (H.sel' [4, 1, 0, 0, 1, 2, 3, 5] rfl rfl)) (by rintro _ _ _ ⟨_, _, rfl, rfl, _⟩; exact ⟨Ab.ownSc, trivial⟩)) wn ?_
       rintro _ σ125 ⟨_, ⟨a122, c123, rfl, rfl, ht124⟩, H, -, -⟩
       replace H : Hp _ _ _ [_, _, _, _, _, _, _] := H
       replace H := H.ownLow 0 n0 n0 rfl hle hle
       clear hle
       replace H : Hp _ _ _ [_, _, _, _, _, _, _] := H
       refine sa (Sl a122 r119 c123) rfl (w_end (q_then (c_seq (rg (sm (Sl a5 r2.1 c6) rfl (sm (Sl a7 r2.2.2.1 c8) rfl (sm (I r2.2.2.2) rfl ?_)))))))
       obtain ⟨σ126, hw127, H, -⟩ := H.pub 1 rfl (Nat.le_refl _)
       rw [← hw127]; clear hw127
       obtain ⟨σ128, hw129, H, -⟩ := H.pub 6 rfl (Nat.le_refl _)
       rw [← hw129]; clear hw129
       replace H := H.roLow 1 0 rfl (Nat.zero_le _)
       replace H := H.roLow 1 0 rfl (Nat.zero_le _)
       revert h; refine br fun r130 hx131 h => ?_
       have hc132 := c_impl_WithinDist (Au := a5) (Av := c6) (Bt := a7) (Bu := c8) hx131
       refine st_call (cx_call hc132 (ent_f hc132.fn rfl) hn0 (H.sel' [1, 0, 0, 1, 2, 3, 4, 5, 6, 7, 8] rfl rfl : Hp S0 σ0 _ ([_, _] ++ _))) wn ?_
       rintro _ σ135 ⟨_, ⟨a133, c134, rfl, rfl⟩, H, -⟩
       replace H : Hp _ _ _ [_, _, _, _, _, _, _, _, _, _] := H
       replace H : Hp S0 σ0 σ135 [Ch.own 0 n0 (Sl a133 r130 c134) r130, Ch.own n0 n0 (Sl a122 r119 c123) r119] := H.sel' [0, 5] rfl rfl
       refine sa (Sl a133 r130 c134) rfl (w_end (q_then (c_seq (c_seq (rg (sa (I 0) rfl (w_end (q_then ?_))))))))
       obtain ⟨o136, hj, h'⟩ := bind_some h
       clear h
       refine c_cut (fun e a w => (∃ t, o136 = (.inl t) ∧ e = .normal ∧ ∃ (ρ : Nat → Value) (σ : St), a = fr 119 (updL ρ [(11, (Sl a122 r119 c123)), (12, (Sl a133 r130 c134))]) ∧ w = σ.w ∧ Hp S0 σ0 σ [Ch.own n0 n0 (Sl a122 r119 c123) r119, Ch.own 0 n0 (Sl a133 r130 c134) r130]) ∨ (∃ t, o136 = (.inr t) ∧ e = .ret ∧ ∃ (ρ : Nat → Value) (σ : St), a = fr 119 (updL ρ [(2, (B t))]) ∧ w = σ.w ∧ Hp S0 σ0 σ [])) ?_ ?_
       ·clear h'
        rename _ = some o136 => h
        refine c_blk (wp_loopM _ h (fun s137 a w => ∃ (ρ : Nat → Value) (σ : St), a = fr 119 (updL ρ [(11, (Sl a122 r119 c123)), (12, (Sl a133 r130 c134)), (13, (I s137))]) ∧ w = σ.w ∧ Hp S0 σ0 σ [Ch.own n0 n0 (Sl a122 r119 c123) r119, Ch.own 0 n0 (Sl a133 r130 c134) r130]) ⟨_, σ135, fr_join ⟨rfl, rfl, rfl, trivial⟩, rfl, H.sel' [1, 0] rfl rfl⟩ ?_)
        clear h H
        rintro s137 a w o ⟨ρ, σ138, rfl, rfl, H⟩ h hres
        refine c_seq (c_seq (rg (sm (I s137) rfl (sm (Sl a133 r130 c134) rfl (st (v := (I (r130.length : Int))) (rv_len Tryz.underlying27 rfl) (st (v := (B (decide (s137 < (r130.length : Int))))) (rv_lss (a := s137) (b := (r130.length : Int)) rfl rfl) (w_end (q_then ?_))))))))
        refine cd_cond (decide (s137 < (r130.length : Int))) rfl (fun hb139 => ?_) (fun hb139 => ?_)
        ·replace h := bif_t hb139 h
         refine c_skip (q_then (c_seq (c_blk (c_seq (rg (sm (Sl a122 r119 c123) rfl (sm (Sl a133 r130 c134) rfl (sm (I s137) rfl ?_))))))))
         revert h; refine br fun x140 hx141 h => ?_
         obtain ⟨b143, o144, hi142, -⟩ := (H.own 1 rfl).ix hx141
         refine st (v := (pt b143 o144)) (rv_ix Tryz.underlying27 ti35 rfl rfl hi142) (st (v := (pt b143 (o144 + 0))) (rv_fieldAddr (off := 0) (ft := 3) Tryz.underlying35 rfl ti3 rfl rfl) ?_)
         have hc145 := ((H.own 1 rfl).at hx141 hi142).fst.int
         refine st (v := (I x140.1)) (rv_load1 Tryz.underlying3 rfl rfl hc145) ?_
         revert h; refine br fun r146 hx147 h => ?_
         have hc148 := c_laws_isIn (Au := a122) (Av := c123) hx147
         have hle := Nat.le_trans hn0 H.size
         refine st_call (cx_lend (Loan.lend Loan.nil) hc148 (ent_f hc148.fn rfl) (show Hp S0 σ0 _ ([Ch.own n0 n0 (Sl a122 r119 c123) r119] ++ ([] ++ [Ch.own 0 n0 (Sl a133 r130 c134) r130])) from (H.sel' [0, 1] rfl rfl)) (by rintro _ _ _ ⟨rfl, rfl⟩; exact trivial)) wn ?_
         rintro _ σ149 ⟨_, ⟨rfl, rfl⟩, H, -, -⟩
         replace H : Hp _ _ _ [_, _] := H
         clear hle
         replace H : Hp _ _ _ [_, _] := H
         refine st (v := (B (!r146))) (rv_not rfl) (w_end (q_then ?_))
         refine cd_cond (!r146) rfl (fun hb150 => ?_) (fun hb150 => ?_)
         ·replace h := bif_t hb150 h
          refine c_seq (rg (sa (B false) rfl (w_end (q_then (c_ret (q_blk_r (q_then_r (q_then_r (q_blk_r ?_)))))))))
          obtain rfl := sj h
          obtain rfl := hres _ rfl
          exact .inr (⟨_, rfl, rfl, _, σ149, fr_join ⟨rfl, trivial⟩, rfl, H.sel' [] rfl rfl⟩)
         ·replace h := bif_f hb150 h
          refine c_skip (q_blk (q_then (rg (sm (I s137) rfl (st (v := (I (w64 (s137 + 1)))) (rv_add (a := s137) (b := 1) rfl rfl) (sa (I (w64 (s137 + 1))) rfl (w_end (q_then ?_))))))))
          obtain rfl := sj h
          exact ⟨_, rfl, _, σ149, fr_join ⟨rfl, rfl, rfl, trivial⟩, rfl, H.sel' [0, 1] rfl rfl⟩
        ·replace h := bif_f hb139 h
         refine c_exit (q_then_x (q_then_x (q_blk_hit ?_)))
         obtain rfl := sj h
         obtain rfl := hres _ rfl
         exact .inl ⟨_, rfl, rfl, _, σ138, fr_join ⟨rfl, rfl, trivial⟩, rfl, H.sel' [0, 1] rfl rfl⟩
       ·clear hj
        have h := h'
        clear h' H
        rintro e a w (⟨t151, rfl, rfl, ρ, σ152, rfl, rfl, H⟩ | ⟨t153, rfl, rfl, ρ, σ154, rfl, rfl, H⟩)
        ·replace h := selim_l h
         refine q_then (c_seq (rg (sm (Sl a122 r119 c123) rfl (st (v := (I (r119.length : Int))) (rv_len Tryz.underlying24 rfl) (sm (Sl a133 r130 c134) rfl (st (v := (I (r130.length : Int))) (rv_len Tryz.underlying27 rfl) (st (v := (B ((r119.length : Int) == (r130.length : Int)))) (rv_eql (a := (r119.length : Int)) (b := (r130.length : Int)) rfl rfl) (sa (B ((r119.length : Int) == (r130.length : Int))) rfl (w_end (q_then (c_ret ?_)))))))))))
         obtain rfl := sj h
         exact fin_ret (v := (B ((r119.length : Int) == (r130.length : Int)))) (results_ok Tryz.results3 (res_tmp (v := (B ((r119.length : Int) == (r130.length : Int)))) rfl res_nil) rfl) ⟨rfl, rfl⟩ (H.sel' [] rfl rfl)
        ·replace h := selim_r h
         refine q_then_r ?_
         obtain rfl := sj h
         exact fin_ret (v := (B t153)) (results_ok Tryz.results3 (res_tmp (v := (B t153)) rfl res_nil) rfl) ⟨rfl, rfl⟩ (H.sel' [] rfl rfl)

end Go.Vs
