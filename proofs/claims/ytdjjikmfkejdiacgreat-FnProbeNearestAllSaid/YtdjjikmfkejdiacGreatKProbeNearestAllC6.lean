/- The functions compute what their models say. -/
import Derived.Test.YtdjjikmfkejdiacGreatKProbeNearestAllC5
set_option linter.unusedVariables false
set_option linter.unusedSimpArgs false
set_option maxRecDepth 20000
namespace Go.Vs
open Go Go.Proofs
attribute [local irreducible] Code.wp Code.wpIn wpList wpListIn wpQuiet Calls CallsIn

theorem c_spec_nearer {Cs : Int × Int} {Ct : Int × Int}  {r : Bool} (h : M.spec_nearer Cs Ct = some r) :
    Cal2 Tryz.prog 81 [(.agg #[(I Cs.1), (I Cs.2)]), (.agg #[(I Ct.1), (I Ct.2)])] [] (fun n0 v L => v = (B r) ∧ L = []) := by
 refine cal2 (n := 24) Tryz.func81 rfl rfl rfl rfl ?_
 intro S0 σ0 n0 hn0 H
 unfold M.spec_nearer at h
 refine c_seq (rg (st_ex (ex_box (cs := [(I Cs.1), (I Cs.2)]) H hn0 rfl rfl) wn ?_))
 rintro _ σ2 ⟨b1, rfl, H, -⟩
 refine st_ex (ex_box (cs := [(I Ct.1), (I Ct.2)]) H hn0 rfl rfl) wn ?_
 rintro _ σ4 ⟨b3, rfl, H, -⟩
 refine sa (B false) rfl (w_end (q_then (c_seq (rg (st (v := (pt b1 1)) (rv_fieldAddr (off := 1) (ft := 3) Tryz.underlying35 rfl ti3 rfl rfl) ?_)))))
 have hc5 := H.cell (u := (I Cs.2)) (o' := 1) 1 1 rfl rfl rfl
 refine st (v := (I Cs.2)) (rv_load1 Tryz.underlying3 rfl rfl hc5) (st (v := (pt b3 1)) (rv_fieldAddr (off := 1) (ft := 3) Tryz.underlying35 rfl ti3 rfl rfl) ?_)
 have hc6 := H.cell (u := (I Ct.2)) (o' := 1) 0 1 rfl rfl rfl
 refine st (v := (I Ct.2)) (rv_load1 Tryz.underlying3 rfl rfl hc6) (st (v := (B (decide (Cs.2 < Ct.2)))) (rv_lss (a := Cs.2) (b := Ct.2) rfl rfl) (sm (B (decide (Cs.2 < Ct.2))) rfl ?_))
 rcases Bool.eq_false_or_eq_true (decide (Cs.2 < Ct.2)) with hb7 | hb7
 ·replace h := bif_t hb7 h
  refine st_skip (congrArg some hb7) (st_skip (congrArg some hb7) (st_skip (congrArg some hb7) (st_skip (congrArg some hb7) (st_skip (congrArg some hb7) (st_skip (congrArg some hb7) (st_skip_u rfl (st_skip_u rfl (st_skip_u rfl (st_skip_u rfl (st_skip_u rfl (st_skip (congrArg some hb7) ?_)))))))))))
  refine st (v := (B true)) (rv_pick_t (congrArg B hb7) rfl) (sa (B true) rfl (w_end (q_then (c_ret ?_))))
  obtain rfl := sj h
  exact fin_ret (v := (B true)) (results_ok Tryz.results81 (res_tmp (v := (B true)) rfl res_nil) rfl) ⟨rfl, rfl⟩ (H.sel' [] rfl rfl)
 ·replace h := bif_f hb7 h
  refine st_g (v := (pt b1 1)) (congrArg some hb7) (rv_fieldAddr (off := 1) (ft := 3) Tryz.underlying35 rfl ti3 rfl rfl) ?_
  have hc8 := H.cell (u := (I Cs.2)) (o' := 1) 1 1 rfl rfl rfl
  refine st_g (v := (I Cs.2)) (congrArg some hb7) (rv_load1 Tryz.underlying3 rfl rfl hc8) (st_g (v := (pt b3 1)) (congrArg some hb7) (rv_fieldAddr (off := 1) (ft := 3) Tryz.underlying35 rfl ti3 rfl rfl) ?_)
  have hc9 := H.cell (u := (I Ct.2)) (o' := 1) 0 1 rfl rfl rfl
  refine st_g (v := (I Ct.2)) (congrArg some hb7) (rv_load1 Tryz.underlying3 rfl rfl hc9) (st_g (v := (B (Cs.2 == Ct.2))) (congrArg some hb7) (rv_eql (a := Cs.2) (b := Ct.2) rfl rfl) (st_g (v := (B (Cs.2 == Ct.2))) (congrArg some hb7) (rv_move rfl) ?_))
  rcases Bool.eq_false_or_eq_true (Cs.2 == Ct.2) with hb10 | hb10
  ·replace h := bif_t hb10 h
   refine st_g (v := (pt b1 0)) (congrArg some hb10) (rv_fieldAddr (off := 0) (ft := 3) Tryz.underlying35 rfl ti3 rfl rfl) ?_
   have hc11 := H.cell (u := (I Cs.1)) (o' := 0) 1 0 rfl rfl rfl
   refine st_g (v := (I Cs.1)) (congrArg some hb10) (rv_load1 Tryz.underlying3 rfl rfl hc11) (st_g (v := (pt b3 0)) (congrArg some hb10) (rv_fieldAddr (off := 0) (ft := 3) Tryz.underlying35 rfl ti3 rfl rfl) ?_)
   have hc12 := H.cell (u := (I Ct.1)) (o' := 0) 0 0 rfl rfl rfl
   refine st_g (v := (I Ct.1)) (congrArg some hb10) (rv_load1 Tryz.underlying3 rfl rfl hc12) (st_g (v := (B (decide (Cs.1 < Ct.1)))) (congrArg some hb10) (rv_lss (a := Cs.1) (b := Ct.1) rfl rfl) (st_g (v := (B (decide (Cs.1 < Ct.1)))) (congrArg some hb7) (rv_pick_t (congrArg B hb10) rfl) (st (v := (B (decide (Cs.1 < Ct.1)))) (rv_pick_f (congrArg B hb7) rfl) (sa (B (decide (Cs.1 < Ct.1))) rfl (w_end (q_then (c_ret ?_)))))))
   obtain rfl := sj h
   exact fin_ret (v := (B (decide (Cs.1 < Ct.1)))) (results_ok Tryz.results81 (res_tmp (v := (B (decide (Cs.1 < Ct.1)))) rfl res_nil) rfl) ⟨rfl, rfl⟩ (H.sel' [] rfl rfl)
  ·replace h := bif_f hb10 h
   refine st_skip (congrArg some hb10) (st_skip (congrArg some hb10) (st_skip (congrArg some hb10) (st_skip (congrArg some hb10) (st_skip (congrArg some hb10) (st_g (v := (B false)) (congrArg some hb7) (rv_pick_f (congrArg B hb10) rfl) (st (v := (B false)) (rv_pick_f (congrArg B hb7) rfl) (sa (B false) rfl (w_end (q_then (c_ret ?_))))))))))
   obtain rfl := sj h
   exact fin_ret (v := (B false)) (results_ok Tryz.results81 (res_tmp (v := (B false)) rfl res_nil) rfl) ⟨rfl, rfl⟩ (H.sel' [] rfl rfl)

theorem c_spec_addHit {As : List (Int × Int)} {Cz : Int × Int} {Kj : Int} {Au : Option Addr} {Av : Nat} {r : (List (Int × Int))} (h : M.spec_addHit As Cz Kj = some r) :
    Cal2 Tryz.prog 58 [(Sl Au As Av), (.agg #[(I Cz.1), (I Cz.2)]), (I Kj)] [Ch.ro 0 (Sl Au As Av) As] (fun n0 v L => ∃ (az1 : Option Addr), ∃ (cz2 : Nat), v = (Sl az1 r cz2) ∧ L = [Ch.own n0 n0 (Sl az1 r cz2) r]) := by
 refine cal2 (n := 58) Tryz.func58 rfl rfl rfl rfl ?_
 intro S0 σ0 n0 hn0 H
 unfold M.spec_addHit at h
 refine c_seq (rg (st_ex (ex_box (cs := [(I Cz.1), (I Cz.2)]) H hn0 rfl rfl) wn ?_))
 rintro _ σ2 ⟨b1, rfl, H, -⟩
 refine sa (.slice none 0 0) rfl (w_end (q_then (c_seq ?_)))
 revert h; refine br fun xs4 hx5 h => ?_
 have hc8 := H.cells 0 rfl
 have Hs := H
 refine rg2 (σ := σ2) (Nm := (Nat) × (Option Addr) × (Nat) × (Nat)) 5 [0, 2, 4] [[false, false, false], [true, false, false], [false, false, true], [true, true, false], [true, false, true], [true, true, true]] [[(0, 1), (2, 4)], [(0, 0), (1, 1), (2, 2), (4, 4)], [(1, 3), (4, 5)], [(0, 0), (1, 1), (3, 3)], [(0, 2), (1, 4), (3, 5)]] 5 [fun ((b3, a6, c7, b9) : (Nat) × (Option Addr) × (Nat) × (Nat)) => fun σm => Hp S0 σ0 σm [Ch.bx n0 b1 0 [(I Cz.1), (I Cz.2)] [] [], Ch.ro 0 (Sl Au As Av) As] ∧ Md (cov []) σ2 σm, fun ((b3, a6, c7, b9) : (Nat) × (Option Addr) × (Nat) × (Nat)) => fun σm => Hp S0 σ0 σm [Ch.own n0 n0 (Sl (some ⟨b3, 0, none⟩) ([] : List (Int × Int)) 0) ([] : List (Int × Int)), Ch.bx n0 b1 0 [(I Cz.1), (I Cz.2)] [] [], Ch.ro 0 (Sl Au As Av) As] ∧ Md (cov []) σ2 σm, fun ((b3, a6, c7, b9) : (Nat) × (Option Addr) × (Nat) × (Nat)) => fun σm => Hp S0 σ0 σm [Ch.own n0 n0 (Sl (some ⟨b9, 0, none⟩) ([(Cz.1, Cz.2)] : List (Int × Int)) 1) ([(Cz.1, Cz.2)] : List (Int × Int)), Ch.bx n0 b1 0 [(I Cz.1), (I Cz.2)] [] [], Ch.ro 0 (Sl Au As Av) As] ∧ Md (cov []) σ2 σm, fun ((b3, a6, c7, b9) : (Nat) × (Option Addr) × (Nat) × (Nat)) => fun σm => Hp S0 σ0 σm [Ch.own n0 n0 (Sl a6 xs4 c7) xs4, Ch.bx n0 b1 0 [(I Cz.1), (I Cz.2)] [] [], Ch.ro 0 (Sl Au As Av) As] ∧ Md (fun i => (cov []) i ∨ (fun b => blk (Sl (some ⟨b3, 0, none⟩) ([] : List (Int × Int)) 0) = some b) i) σ2 σm, fun ((b3, a6, c7, b9) : (Nat) × (Option Addr) × (Nat) × (Nat)) => fun σm => Hp S0 σ0 σm [Ch.own n0 n0 (Sl (some ⟨b9, 0, none⟩) ([(Cz.1, Cz.2)] : List (Int × Int)) 1) ([(Cz.1, Cz.2)] : List (Int × Int)), Ch.own n0 n0 (Sl (some ⟨b3, 0, none⟩) ([] : List (Int × Int)) 0) ([] : List (Int × Int)), Ch.bx n0 b1 0 [(I Cz.1), (I Cz.2)] [] [], Ch.ro 0 (Sl Au As Av) As] ∧ Md (cov []) σ2 σm, fun ((b3, a6, c7, b9) : (Nat) × (Option Addr) × (Nat) × (Nat)) => fun σm => Hp S0 σ0 σm [Ch.own n0 n0 (Sl (some ⟨b9, 0, none⟩) ([(Cz.1, Cz.2)] : List (Int × Int)) 1) ([(Cz.1, Cz.2)] : List (Int × Int)), Ch.own n0 n0 (Sl a6 xs4 c7) xs4, Ch.bx n0 b1 0 [(I Cz.1), (I Cz.2)] [] [], Ch.ro 0 (Sl Au As Av) As] ∧ Md (fun i => (cov []) i ∨ (fun b => blk (Sl (some ⟨b3, 0, none⟩) ([] : List (Int × Int)) 0) = some b) i) σ2 σm] [fun ((b3, a6, c7, b9) : (Nat) × (Option Addr) × (Nat) × (Nat)) => (Sl (some ⟨b3, 0, none⟩) ([] : List (Int × Int)) 0), fun ((b3, a6, c7, b9) : (Nat) × (Option Addr) × (Nat) × (Nat)) => (Sl Au As Av), fun ((b3, a6, c7, b9) : (Nat) × (Option Addr) × (Nat) × (Nat)) => (Sl a6 xs4 c7), fun ((b3, a6, c7, b9) : (Nat) × (Option Addr) × (Nat) × (Nat)) => (.agg #[(I Cz.1), (I Cz.2)]), fun ((b3, a6, c7, b9) : (Nat) × (Option Addr) × (Nat) × (Nat)) => (Sl (some ⟨b9, 0, none⟩) ([(Cz.1, Cz.2)] : List (Int × Int)) 1)] (0, none, 0, 0) (by kernel_rfl) (by kernel_rfl) ?_ ?_ ?_
 ·intro σm m0
  exact ⟨H.grow (m0.mono fun _ h => h.elim), m0⟩
 ·refine all_cons (by
    refine ⟨?_, ?_⟩
    ·rintro ⟨b3, a6, c7, b9⟩ ρ σm hJ hoff hdep
     obtain ⟨H, m⟩ := id hJ
     refine dp_ex wn (ex_buildSlice (el := n0) (xs := ([] : List (Int × Int))) (ps := []) (cs := []) H hn0 Tryz.underlying28 ti35 rfl rfl (by kernel_rfl) (.nil) rfl) ?_
     rintro _ σq ⟨b3x, rfl, H2, m2⟩
     exact ⟨_, (b3x, a6, c7, b9), rfl, rfl, ⟨H2.sel' [0, 1, 2] rfl rfl, m.comp0 m2⟩, stab [1, 3, 4] (by kernel_rfl) ⟨rfl, rfl, rfl, trivial⟩⟩
    refine ⟨?_, ?_⟩
    ·rintro ⟨b3, a6, c7, b9⟩ ρ σm hJ hoff hdep
     obtain ⟨H, m⟩ := id hJ
     refine dp_ex wn (ex_buildSlice (el := n0) (xs := ([] : List (Int × Int))) (ps := []) (cs := []) H hn0 Tryz.underlying28 ti35 rfl rfl (by kernel_rfl) (.nil) rfl) ?_
     rintro _ σq ⟨b3x, rfl, H2, m2⟩
     exact ⟨_, (b3x, a6, c7, b9), rfl, rfl, ⟨H2.sel' [1, 0, 2, 3] rfl rfl, m.comp0 m2⟩, stab [1, 3, 4] (by kernel_rfl) ⟨rfl, rfl, rfl, trivial⟩⟩
    trivial) ?_
  refine ac rfl (by
    intro k; rintro ⟨b3, a6, c7, b9⟩ ρ σm hJ hoff hdep
    have e0 := look_off (N := 58) (hoff 0 rfl) rfl
    exact dp_v (v := (Sl Au As Av)) wn (rv_move e0) rfl hJ) ?_
  refine all_cons (by
    refine ⟨?_, ?_⟩
    ·rintro ⟨b3, a6, c7, b9⟩ ρ σm hJ hoff hdep
     have e10 := hdep 0 rfl rfl 10 rfl
     have e11 := hdep 1 rfl rfl 11 rfl
     obtain ⟨H, m⟩ := id hJ
     refine dp_ex wn (ex_append H (i := 0) rfl Tryz.underlying28 Tryz.underlying28 ti35 rfl rfl (by decide) ((H.ro 2 rfl).rd.sc) hx5 hn0 e10 e11) ?_
     rintro _ σq ⟨a6x, c7x, rfl, H2, m2⟩
     exact ⟨_, (b3, a6x, c7x, b9), rfl, rfl, ⟨H2.sel' [0, 1, 2] rfl rfl, m.comp m2⟩, stab [0, 1, 3, 4] (by kernel_rfl) ⟨rfl, rfl, rfl, rfl, trivial⟩⟩
    refine ⟨?_, ?_⟩
    ·rintro ⟨b3, a6, c7, b9⟩ ρ σm hJ hoff hdep
     have e10 := hdep 0 rfl rfl 10 rfl
     have e11 := hdep 1 rfl rfl 11 rfl
     obtain ⟨H, m⟩ := id hJ
     refine dp_ex wn (ex_append H (i := 1) rfl Tryz.underlying28 Tryz.underlying28 ti35 rfl rfl (by decide) ((H.ro 3 rfl).rd.sc) hx5 hn0 e10 e11) ?_
     rintro _ σq ⟨a6x, c7x, rfl, H2, m2⟩
     exact ⟨_, (b3, a6x, c7x, b9), rfl, rfl, ⟨H2.sel' [1, 0, 2, 3] rfl rfl, m.comp m2⟩, stab [0, 1, 3, 4] (by kernel_rfl) ⟨rfl, rfl, rfl, rfl, trivial⟩⟩
    trivial) ?_
  refine all_cons (by
    refine ⟨?_, ?_⟩
    ·rintro ⟨b3, a6, c7, b9⟩ ρ σm hJ hoff hdep
     have e4 := look_off (N := 58) (hoff 4 rfl) rfl
     obtain ⟨H, m⟩ := id hJ
     have hc8 := H.cells 0 rfl
     exact dp_v (v := (.agg #[(I Cz.1), (I Cz.2)])) wn (rv_load (cs := [(I Cz.1), (I Cz.2)]) Tryz.underlying35 rfl ti35 e4 rfl hc8) rfl hJ
    refine ⟨?_, ?_⟩
    ·rintro ⟨b3, a6, c7, b9⟩ ρ σm hJ hoff hdep
     have e4 := look_off (N := 58) (hoff 4 rfl) rfl
     obtain ⟨H, m⟩ := id hJ
     have hc8 := H.cells 1 rfl
     exact dp_v (v := (.agg #[(I Cz.1), (I Cz.2)])) wn (rv_load (cs := [(I Cz.1), (I Cz.2)]) Tryz.underlying35 rfl ti35 e4 rfl hc8) rfl hJ
    refine ⟨?_, ?_⟩
    ·rintro ⟨b3, a6, c7, b9⟩ ρ σm hJ hoff hdep
     have e4 := look_off (N := 58) (hoff 4 rfl) rfl
     obtain ⟨H, m⟩ := id hJ
     have hc8 := H.cells 1 rfl
     exact dp_v (v := (.agg #[(I Cz.1), (I Cz.2)])) wn (rv_load (cs := [(I Cz.1), (I Cz.2)]) Tryz.underlying35 rfl ti35 e4 rfl hc8) rfl hJ
    trivial) ?_
  refine all_cons (by
    refine ⟨?_, ?_⟩
    ·rintro ⟨b3, a6, c7, b9⟩ ρ σm hJ hoff hdep
     have e13 : look 58 ρ 13 = (.agg #[(I Cz.1), (I Cz.2)]) := hdep 3 rfl rfl 13 rfl
     obtain ⟨H, m⟩ := id hJ
     refine dp_ex wn (ex_buildSlice (el := n0) (xs := ([(Cz.1, Cz.2)] : List (Int × Int))) (ps := [(0, (.agg #[(I Cz.1), (I Cz.2)]))]) (cs := [(I Cz.1), (I Cz.2)]) H hn0 Tryz.underlying28 ti35 rfl (by show [(0, look 58 ρ 13)] = _; rw [e13]) (by kernel_rfl) (.cons (c := [(I Cz.1), (I Cz.2)]) ⟨[(I Cz.1)], [(I Cz.2)], rfl, rfl, rfl⟩ (.nil)) rfl) ?_
     rintro _ σq ⟨b9x, rfl, H2, m2⟩
     exact ⟨_, (b3, a6, c7, b9x), rfl, rfl, ⟨H2.sel' [0, 1, 2] rfl rfl, m.comp0 m2⟩, stab [0, 1, 2, 3] (by kernel_rfl) ⟨rfl, rfl, rfl, rfl, trivial⟩⟩
    refine ⟨?_, ?_⟩
    ·rintro ⟨b3, a6, c7, b9⟩ ρ σm hJ hoff hdep
     have e13 : look 58 ρ 13 = (.agg #[(I Cz.1), (I Cz.2)]) := hdep 3 rfl rfl 13 rfl
     obtain ⟨H, m⟩ := id hJ
     refine dp_ex wn (ex_buildSlice (el := n0) (xs := ([(Cz.1, Cz.2)] : List (Int × Int))) (ps := [(0, (.agg #[(I Cz.1), (I Cz.2)]))]) (cs := [(I Cz.1), (I Cz.2)]) H hn0 Tryz.underlying28 ti35 rfl (by show [(0, look 58 ρ 13)] = _; rw [e13]) (by kernel_rfl) (.cons (c := [(I Cz.1), (I Cz.2)]) ⟨[(I Cz.1)], [(I Cz.2)], rfl, rfl, rfl⟩ (.nil)) rfl) ?_
     rintro _ σq ⟨b9x, rfl, H2, m2⟩
     exact ⟨_, (b3, a6, c7, b9x), rfl, rfl, ⟨H2.sel' [0, 1, 2, 3] rfl rfl, m.comp0 m2⟩, stab [0, 1, 2, 3] (by kernel_rfl) ⟨rfl, rfl, rfl, rfl, trivial⟩⟩
    refine ⟨?_, ?_⟩
    ·rintro ⟨b3, a6, c7, b9⟩ ρ σm hJ hoff hdep
     have e13 : look 58 ρ 13 = (.agg #[(I Cz.1), (I Cz.2)]) := hdep 3 rfl rfl 13 rfl
     obtain ⟨H, m⟩ := id hJ
     refine dp_ex wn (ex_buildSlice (el := n0) (xs := ([(Cz.1, Cz.2)] : List (Int × Int))) (ps := [(0, (.agg #[(I Cz.1), (I Cz.2)]))]) (cs := [(I Cz.1), (I Cz.2)]) H hn0 Tryz.underlying28 ti35 rfl (by show [(0, look 58 ρ 13)] = _; rw [e13]) (by kernel_rfl) (.cons (c := [(I Cz.1), (I Cz.2)]) ⟨[(I Cz.1)], [(I Cz.2)], rfl, rfl, rfl⟩ (.nil)) rfl) ?_
     rintro _ σq ⟨b9x, rfl, H2, m2⟩
     exact ⟨_, (b3, a6, c7, b9x), rfl, rfl, ⟨H2.sel' [0, 1, 2, 3] rfl rfl, m.comp0 m2⟩, stab [0, 1, 2, 3] (by kernel_rfl) ⟨rfl, rfl, rfl, rfl, trivial⟩⟩
    trivial) ?_
  exact all_nil
 ·rintro ⟨b3, a6, c7, b9⟩ ρ σ10 hJ hoff hrel
  have e2 := look_off (N := 58) (hoff 2 rfl) rfl
  have e12 := hrel 2 rfl 12 rfl
  have e14 := hrel 4 rfl 14 rfl
  obtain ⟨H, -⟩ := (show Hp S0 σ0 σ10 [Ch.own n0 n0 (Sl (some ⟨b9, 0, none⟩) ([(Cz.1, Cz.2)] : List (Int × Int)) 1) ([(Cz.1, Cz.2)] : List (Int × Int)), Ch.own n0 n0 (Sl a6 xs4 c7) xs4, Ch.bx n0 b1 0 [(I Cz.1), (I Cz.2)] [] [], Ch.ro 0 (Sl Au As Av) As] ∧ Md (fun i => (cov []) i ∨ (fun b => blk (Sl (some ⟨b3, 0, none⟩) ([] : List (Int × Int)) 0) = some b) i) σ2 σ10 from hJ)
  clear hJ Hs
  rw [fr_lookL (L := [(2, (I Kj)), (12, (Sl a6 xs4 c7)), (14, (Sl (some ⟨b9, 0, none⟩) ([(Cz.1, Cz.2)] : List (Int × Int)) 1))]) ⟨e2, e12, e14, trivial⟩]
  clear hoff hrel e2 e12 e14
  revert h; refine br fun xs11 hx12 h => ?_
  refine st_ex (ex_append H (i := 1) rfl Tryz.underlying28 Tryz.underlying28 ti35 rfl rfl (by decide) (H.own 0 rfl).rd hx12 hn0 rfl rfl) wn ?_
  rintro _ σ15 ⟨a13, c14, rfl, H, -⟩
  refine sa (Sl a13 xs11 c14) rfl (w_end (q_then (c_seq (c_seq (rg (sm (Sl a13 xs11 c14) rfl (st (v := (I (xs11.length : Int))) (rv_len Tryz.underlying28 rfl) (st (v := (I (w64 ((xs11.length : Int) - 1)))) (rv_sub (a := (xs11.length : Int)) (b := 1) rfl rfl) (sa (I (w64 ((xs11.length : Int) - 1))) rfl (w_end (q_then ?_)))))))))))
  obtain ⟨o16, hj, h'⟩ := bind_some h
  clear h
  refine c_cut (fun e a w => e = .normal ∧ ∃ (ρ : Nat → Value) (σ : St), a = fr 58 (updL ρ [(2, (I Kj)), (7, (Sl a13 o16 c14))]) ∧ w = σ.w ∧ Hp S0 σ0 σ [Ch.own n0 n0 (Sl a13 o16 c14) o16] ∧ o16.length = xs11.length) ?_ ?_
  ·clear h'
   rename _ = some o16 => h
   refine c_blk (wp_loopM _ h (fun s17 a w => ∃ (ρ : Nat → Value) (σ : St), a = fr 58 (updL ρ [(2, (I Kj)), (7, (Sl a13 s17.1 c14)), (8, (I s17.2))]) ∧ w = σ.w ∧ Hp S0 σ0 σ [Ch.own n0 n0 (Sl a13 s17.1 c14) s17.1] ∧ s17.1.length = xs11.length) ⟨_, σ15, fr_join ⟨rfl, rfl, rfl, trivial⟩, rfl, H.sel' [0] rfl rfl, rfl⟩ ?_)
   clear h H
   rintro s17 a w o ⟨ρ, σ18, rfl, rfl, H, hn19⟩ h hres
   refine c_seq (c_seq ?_)
   obtain ⟨o20, hj, h'⟩ := bind_some h
   clear h
   refine c_cut (fun e a w => e = .normal ∧ ∃ (ρ : Nat → Value) (σ : St), a = fr 58 (updL ρ [(2, (I Kj)), (7, (Sl a13 s17.1 c14)), (8, (I s17.2)), (32, (B o20))]) ∧ w = σ.w ∧ Hp S0 σ0 σ [Ch.own n0 n0 (Sl a13 s17.1 c14) s17.1]) ?_ ?_
   ·clear h'
    rename _ = some o20 => h
    refine rgP (σ := σ18) 12 (by kernel_rfl) (by kernel_rfl) (by kernel_rfl) ?_
    refine sq (v := (I s17.2)) (rv_move rfl) (sq (v := (B (decide (0 < s17.2)))) (rv_gtr (a := s17.2) (b := 0) rfl rfl) (sq (v := (B (decide (0 < s17.2)))) (rv_move rfl) ?_))
    rcases Bool.eq_false_or_eq_true (decide (0 < s17.2)) with hb21 | hb21
    ·replace h := bif_t hb21 h
     refine sq_g (v := (Sl a13 s17.1 c14)) (congrArg some hb21) (rv_move rfl) (sq_g (v := (I s17.2)) (congrArg some hb21) (rv_move rfl) ?_)
     revert h; refine br fun x22 hx23 h => ?_
     obtain ⟨b25, o26, hi24, -⟩ := (H.own 0 rfl).ix hx23
     refine sq_g (v := (pt b25 o26)) (congrArg some hb21) (rv_ix Tryz.underlying28 ti35 rfl rfl hi24) ?_
     obtain ⟨_, ⟨_, _, rfl, rfl, rfl⟩, hl27, hc28⟩ := ((H.own 0 rfl).at hx23 hi24).cells
     refine sq_g (v := (.agg #[(I x22.1), (I x22.2)])) (congrArg some hb21) (rv_load Tryz.underlying35 rfl ti35 rfl hl27 hc28) (sq_g (v := (Sl a13 s17.1 c14)) (congrArg some hb21) (rv_move rfl) (sq_g (v := (I s17.2)) (congrArg some hb21) (rv_move rfl) (sq_g (v := (I (w64 (s17.2 - 1)))) (congrArg some hb21) (rv_sub (a := s17.2) (b := 1) rfl rfl) ?_)))
     revert h; refine br fun x29 hx30 h => ?_
     obtain ⟨b32, o33, hi31, -⟩ := (H.own 0 rfl).ix hx30
     refine sq_g (v := (pt b32 o33)) (congrArg some hb21) (rv_ix Tryz.underlying28 ti35 rfl rfl hi31) ?_
     obtain ⟨_, ⟨_, _, rfl, rfl, rfl⟩, hl34, hc35⟩ := ((H.own 0 rfl).at hx30 hi31).cells
     refine sq_g (v := (.agg #[(I x29.1), (I x29.2)])) (congrArg some hb21) (rv_load Tryz.underlying35 rfl ti35 rfl hl34 hc35) (sq_end ?_)
     intro σ36 hm37
     replace H := H.grow (hm37.mono fun _ h => h); clear hm37
     revert h; refine br fun r38 hx39 h => ?_
     have hc40 := c_spec_nearer hx39
     refine st_call (cx_call hc40 (ent_f hc40.fn rfl) hn0 (H.sel' [0] rfl rfl : Hp S0 σ0 _ ([] ++ _))) (wanted_yes rfl (by exact (congrArg some hb21))) ?_
     rintro _ σ41 ⟨_, ⟨rfl, rfl⟩, H, -⟩
     replace H : Hp _ _ _ [_] := H
     refine st (v := (B r38)) (rv_pick_t (congrArg B hb21) rfl) (w_end ?_)
     obtain rfl := sj h
     exact ⟨rfl, _, σ41, fr_join ⟨rfl, rfl, rfl, rfl, trivial⟩, rfl, H.sel' [0] rfl rfl⟩
    ·replace h := bif_f hb21 h
     refine sq_skip (congrArg some hb21) (sq_skip (congrArg some hb21) (sq_skip (congrArg some hb21) (sq_skip (congrArg some hb21) (sq_skip (congrArg some hb21) (sq_skip (congrArg some hb21) (sq_skip (congrArg some hb21) (sq_skip (congrArg some hb21) (sq_skip (congrArg some hb21) (sq_end ?_)))))))))
     intro σ42 hm43
     replace H := H.grow (hm43.mono fun _ h => h); clear hm43
     refine st_skip (congrArg some hb21) (st (v := (B false)) (rv_pick_f (congrArg B hb21) rfl) (w_end ?_))
     obtain rfl := sj h
     exact ⟨rfl, _, σ42, fr_join ⟨rfl, rfl, rfl, rfl, trivial⟩, rfl, H.sel' [0] rfl rfl⟩
   ·clear hj
    have h := h'
    clear h' H
    rintro e a w ⟨rfl, ρ, σ44, rfl, rfl, H⟩
    refine q_then ?_
    refine cd_cond o20 rfl (fun hb45 => ?_) (fun hb45 => ?_)
    ·replace h := bif_t hb45 h
     refine c_skip (q_then (c_seq (c_blk (c_seq (rg (sm (Sl a13 s17.1 c14) rfl (sm (I s17.2) rfl ?_)))))))
     revert h; refine br fun x46 hx47 h => ?_
     obtain ⟨b49, o50, hi48, -⟩ := (H.own 0 rfl).ix hx47
     refine st (v := (pt b49 o50)) (rv_ix Tryz.underlying28 ti35 rfl rfl hi48) ?_
     obtain ⟨_, ⟨_, _, rfl, rfl, rfl⟩, hl51, hc52⟩ := ((H.own 0 rfl).at hx47 hi48).cells
     refine st (v := (.agg #[(I x46.1), (I x46.2)])) (rv_load Tryz.underlying35 rfl ti35 rfl hl51 hc52) (st_ex (ex_alloc (cs := [(I 0), (I 0)]) H hn0 ti35 rfl) wn ?_)
     rintro _ σ54 ⟨b53, rfl, H, -⟩
     refine st_exS (ex_store_box (k := 0) (cs := [(I 0), (I 0)]) (vs := [(I x46.1), (I x46.2)]) (cs' := [(I x46.1), (I x46.2)]) H (i := 0) rfl ti35 rfl rfl rfl rfl rfl (Nat.le_of_ble_eq_true rfl) (by simp [plain]) rfl) wn ?_
     rintro σ55 ⟨H, -⟩
     refine w_end (q_then (c_seq (rg (sm (Sl a13 s17.1 c14) rfl (sm (I s17.2) rfl (sm (Sl a13 s17.1 c14) rfl (sm (I s17.2) rfl (st (v := (I (w64 (s17.2 - 1)))) (rv_sub (a := s17.2) (b := 1) rfl rfl) ?_))))))))
     revert h; refine br fun x56 hx57 h => ?_
     obtain ⟨b59, o60, hi58, -⟩ := (H.own 1 rfl).ix hx57
     refine st (v := (pt b59 o60)) (rv_ix Tryz.underlying28 ti35 rfl rfl hi58) ?_
     obtain ⟨_, ⟨_, _, rfl, rfl, rfl⟩, hl61, hc62⟩ := ((H.own 1 rfl).at hx57 hi58).cells
     refine st (v := (.agg #[(I x56.1), (I x56.2)])) (rv_load Tryz.underlying35 rfl ti35 rfl hl61 hc62) ?_
     revert h; refine br fun x63 hx64 h => ?_
     obtain ⟨b66, o67, hi65, -⟩ := (H.own 1 rfl).ix hx64
     refine st (v := (pt b66 o67)) (rv_ix Tryz.underlying28 ti35 rfl rfl hi65) ?_
     refine st_exS (ex_store_own (e' := (x56.1, x56.2)) (vs := [(I x56.1), (I x56.2)]) (k := 0) H (i := 1) rfl ti35 hx64 hi65 rfl rfl rfl rfl rfl (Nat.le_of_ble_eq_true rfl) (by simp [plain]) (by rintro _ ⟨_, _, rfl, rfl, rfl⟩; exact ⟨[(I x56.1)], [(I x56.2)], rfl, rfl, rfl⟩)) wn ?_
     rintro σ68 ⟨H, -⟩
     have hsl : (Sl a13 s17.1 c14) = (Sl a13 (s17.1.set s17.2.toNat (x56.1, x56.2)) c14) := sl_len List.length_set.symm
     rw [hsl]; rw [hsl] at H; clear hsl
     refine w_end (q_then (rg (sm (Sl a13 (s17.1.set s17.2.toNat (x56.1, x56.2)) c14) rfl (sm (I s17.2) rfl (st (v := (I (w64 (s17.2 - 1)))) (rv_sub (a := s17.2) (b := 1) rfl rfl) ?_)))))
     have hc69 := H.cells 1 rfl
     refine st (v := (.agg #[(I x46.1), (I x46.2)])) (rv_load (cs := [(I x46.1), (I x46.2)]) Tryz.underlying35 rfl ti35 rfl rfl hc69) ?_
     revert h; refine br fun x70 hx71 h => ?_
     obtain ⟨b73, o74, hi72, -⟩ := (H.own 0 rfl).ix hx71
     refine st (v := (pt b73 o74)) (rv_ix Tryz.underlying28 ti35 rfl rfl hi72) ?_
     refine st_exS (ex_store_own (e' := (x46.1, x46.2)) (vs := [(I x46.1), (I x46.2)]) (k := 0) H (i := 0) rfl ti35 hx71 hi72 rfl rfl rfl rfl rfl (Nat.le_of_ble_eq_true rfl) (by simp [plain]) (by rintro _ ⟨_, _, rfl, rfl, rfl⟩; exact ⟨[(I x46.1)], [(I x46.2)], rfl, rfl, rfl⟩)) wn ?_
     rintro σ75 ⟨H, -⟩
     have hsl : (Sl a13 (s17.1.set s17.2.toNat (x56.1, x56.2)) c14) = (Sl a13 ((s17.1.set s17.2.toNat (x56.1, x56.2)).set (w64 (s17.2 - 1)).toNat (x46.1, x46.2)) c14) := sl_len List.length_set.symm
     rw [hsl]; rw [hsl] at H; clear hsl
     refine w_end (q_blk (q_then (rg (sm (I s17.2) rfl (st (v := (I (w64 (s17.2 - 1)))) (rv_sub (a := s17.2) (b := 1) rfl rfl) (sa (I (w64 (s17.2 - 1))) rfl (w_end (q_then ?_))))))))
     obtain rfl := sj h
     exact ⟨_, rfl, _, σ75, fr_join ⟨rfl, rfl, rfl, trivial⟩, rfl, H.sel' [0] rfl rfl, (List.length_set.trans (List.length_set.trans hn19))⟩
    ·replace h := bif_f hb45 h
     refine c_exit (q_then_x (q_then_x (q_blk_hit ?_)))
     obtain rfl := sj h
     obtain rfl := hres _ rfl
     exact ⟨rfl, _, σ44, fr_join ⟨rfl, rfl, trivial⟩, rfl, H.sel' [0] rfl rfl, hn19⟩
  ·clear hj
   have h := h'
   clear h' H
   rintro e a w ⟨rfl, ρ, σ76, rfl, rfl, H, hn77⟩
   refine q_then (c_seq (rg (sm (Sl a13 o16 c14) rfl (sm (I Kj) rfl (sm (Sl a13 o16 c14) rfl (st (v := (I (o16.length : Int))) (rv_len Tryz.underlying28 rfl) (st (v := (I (min Kj (o16.length : Int)))) (rv_min rfl rfl) ?_)))))))
   revert h; refine br fun xs78 hx79 h => ?_
   obtain ⟨a80, c81, hs82, hR83, hb84⟩ := (H.own 0 rfl).slice hx79
   replace H := (H.front (i := 0) rfl).turn (d := Ch.own n0 n0 (Sl a80 xs78 c81) xs78) (fun _ => hR83) hb84; clear hR83 hb84
   refine st (v := (Sl a80 xs78 c81)) (rv_slice_h Tryz.underlying28 ti35 hs82 rfl rfl) (sa (Sl a80 xs78 c81) rfl (w_end (q_then (c_ret ?_))))
   obtain rfl := sj h
   exact fin_ret (v := (Sl a80 xs78 c81)) (results_ok Tryz.results58 (res_tmp (v := (Sl a80 xs78 c81)) rfl res_nil) rfl) ⟨a80, c81, rfl, rfl⟩ (H.sel' [0] rfl rfl)

theorem c_spec_size {Ax : Int}  {r : Int} (h : M.spec_size Ax = some r) :
    Cal2 Tryz.prog 82 [(I Ax)] [] (fun n0 v L => v = (I r) ∧ L = []) := by
 refine cal2 (n := 7) Tryz.func82 rfl rfl rfl rfl ?_
 intro S0 σ0 n0 hn0 H
 unfold M.spec_size at h
 refine c_seq (rg (sa (I 0) rfl (w_end (q_then (c_seq (rg (sm (I Ax) rfl (sm (I Ax) rfl (st (v := (I (w64 (0 - Ax)))) (rv_neg (a := Ax) rfl) (st (v := (I (max Ax (w64 (0 - Ax))))) (rv_max rfl rfl) (sa (I (max Ax (w64 (0 - Ax)))) rfl ?_)))))))))))
 refine w_end (q_then (c_ret ?_))
 obtain rfl := sj h
 exact fin_ret (v := (I (max Ax (w64 (0 - Ax))))) (results_ok Tryz.results82 (res_tmp (v := (I (max Ax (w64 (0 - Ax))))) rfl res_nil) rfl) ⟨rfl, rfl⟩ (H.sel' [] rfl rfl)

theorem c_spec_toInt {Kk : Bool}  {r : Int} (h : M.spec_toInt Kk = some r) :
    Cal2 Tryz.prog 83 [(B Kk)] [] (fun n0 v L => v = (I r) ∧ L = []) := by
 refine cal2 (n := 4) Tryz.func83 rfl rfl rfl rfl ?_
 intro S0 σ0 n0 hn0 H
 unfold M.spec_toInt at h
 refine c_seq (rg (sa (I 0) rfl (w_end (q_then (c_seq (c_seq (rg (sm (B Kk) rfl (w_end (q_then ?_))))))))))
 refine cd_cond Kk rfl (fun hb1 => ?_) (fun hb1 => ?_)
 ·replace h := bif_t hb1 h
  refine c_seq (rg (sa (I 1) rfl (w_end (q_then (c_ret (q_then_r ?_))))))
  obtain rfl := sj h
  exact fin_ret (v := (I 1)) (results_ok Tryz.results83 (res_tmp (v := (I 1)) rfl res_nil) rfl) ⟨rfl, rfl⟩ (H.sel' [] rfl rfl)
 ·replace h := bif_f hb1 h
  refine c_skip (q_then (c_seq (rg (sa (I 0) rfl (w_end (q_then (c_ret ?_)))))))
  obtain rfl := sj h
  exact fin_ret (v := (I 0)) (results_ok Tryz.results83 (res_tmp (v := (I 0)) rfl res_nil) rfl) ⟨rfl, rfl⟩ (H.sel' [] rfl rfl)

theorem c_spec_dist {Bw : Int} {Ej : List Int} {Ek : List Int} {El : Option Addr} {Em : Nat} {En : Option Addr} {Eo : Nat} {r : Int} (h : M.spec_dist Bw Ej Ek = some r) :
    Cal2 Tryz.prog 59 [(I Bw), (Sl El Ej Em), (Sl En Ek Eo)] [Ch.ro 0 (Sl El Ej Em) Ej, Ch.ro 0 (Sl En Ek Eo) Ek] (fun n0 v L => v = (I r) ∧ L = []) := by
 refine cal2 (n := 50) Tryz.func59 rfl rfl rfl rfl ?_
 intro S0 σ0 n0 hn0 H
 unfold M.spec_dist at h
 refine c_seq (rg (sa (I 0) rfl (w_end (q_then (c_seq (rg (sa (I 0) rfl (w_end (q_then (c_seq (c_seq ?_)))))))))))
 refine rg (sa (I 0) rfl (w_end (q_then ?_)))
 obtain ⟨o1, hj, h'⟩ := bind_some h
 clear h
 refine c_cut (fun e a w => e = .normal ∧ ∃ (ρ : Nat → Value) (σ : St), a = fr 50 (updL ρ [(7, (I o1))]) ∧ w = σ.w ∧ Hp S0 σ0 σ []) ?_ ?_
 ·clear h'
  rename _ = some o1 => h
  refine c_blk (wp_loopM _ h (fun s2 a w => ∃ (ρ : Nat → Value) (σ : St), a = fr 50 (updL ρ [(0, (I Bw)), (1, (Sl El Ej Em)), (2, (Sl En Ek Eo)), (7, (I s2.1)), (8, (I s2.2))]) ∧ w = σ.w ∧ Hp S0 σ0 σ [Ch.ro 0 (Sl El Ej Em) Ej, Ch.ro 0 (Sl En Ek Eo) Ek]) ⟨_, σ0, fr_join ⟨rfl, rfl, rfl, rfl, rfl, trivial⟩, rfl, H.sel' [0, 1] rfl rfl⟩ ?_)
  clear h H
  rintro s2 a w o ⟨ρ, σ3, rfl, rfl, H⟩ h hres
  refine c_seq (c_seq (rg (sm (I s2.2) rfl (sm (Sl El Ej Em) rfl (st (v := (I (Ej.length : Int))) (rv_len Tryz.underlying25 rfl) (st (v := (B (decide (s2.2 < (Ej.length : Int))))) (rv_lss (a := s2.2) (b := (Ej.length : Int)) rfl rfl) (w_end (q_then ?_))))))))
  refine cd_cond (decide (s2.2 < (Ej.length : Int))) rfl (fun hb4 => ?_) (fun hb4 => ?_)
  ·replace h := bif_t hb4 h
   refine c_skip (q_then (c_seq ?_))
   obtain ⟨o5, hj, h'⟩ := bind_some h
   clear h
   refine c_cut (fun e a w => e = .normal ∧ ∃ (ρ : Nat → Value) (σ : St), a = fr 50 (updL ρ [(0, (I Bw)), (1, (Sl El Ej Em)), (2, (Sl En Ek Eo)), (7, (I o5)), (8, (I s2.2))]) ∧ w = σ.w ∧ Hp S0 σ0 σ [Ch.ro 0 (Sl El Ej Em) Ej, Ch.ro 0 (Sl En Ek Eo) Ek]) ?_ ?_
   ·clear h'
    rename _ = some o5 => h
    refine c_blk (c_seq ?_)
    refine rgP (σ := σ3) 8 (by kernel_rfl) (by kernel_rfl) (by kernel_rfl) ?_
    refine sq (v := (Sl El Ej Em)) (rv_move rfl) (sq (v := (I s2.2)) (rv_move rfl) ?_)
    revert h; refine br fun x6 hx7 h => ?_
    obtain ⟨b9, o10, hi8, -⟩ := (H.ro 0 rfl).ix hx7
    refine sq (v := (pt b9 o10)) (rv_ix Tryz.underlying25 ti3 rfl rfl hi8) ?_
    have hc11 := ((H.ro 0 rfl).at hx7 hi8).int
    refine sq (v := (I x6)) (rv_load1 Tryz.underlying3 rfl rfl hc11) (sq (v := (Sl En Ek Eo)) (rv_move rfl) (sq (v := (I s2.2)) (rv_move rfl) ?_))
    revert h; refine br fun x12 hx13 h => ?_
    obtain ⟨b15, o16, hi14, -⟩ := (H.ro 1 rfl).ix hx13
    refine sq (v := (pt b15 o16)) (rv_ix Tryz.underlying25 ti3 rfl rfl hi14) ?_
    have hc17 := ((H.ro 1 rfl).at hx13 hi14).int
    refine sq (v := (I x12)) (rv_load1 Tryz.underlying3 rfl rfl hc17) (sq_end ?_)
    intro σ18 hm19
    replace H := H.grow (hm19.mono fun _ h => h); clear hm19
    refine st (v := (I (w64 (x6 - x12)))) (rv_sub (a := x6) (b := x12) rfl rfl) ?_
    revert h; refine br fun r20 hx21 h => ?_
    have hc22 := c_spec_size hx21
    refine st_call (cx_call hc22 (ent_f hc22.fn rfl) hn0 (H.sel' [0, 1] rfl rfl : Hp S0 σ0 _ ([] ++ _))) wn ?_
    rintro _ σ23 ⟨_, ⟨rfl, rfl⟩, H, -⟩
    replace H : Hp _ _ _ [_, _] := H
    refine sa (I r20) rfl (w_end (q_then (c_seq (rg (sm (I Bw) rfl (w_end (q_then (c_blk (c_seq (rg (st (v := (B (Bw == 1))) (rv_eql (a := Bw) (b := 1) rfl rfl) ?_)))))))))))
    refine sa (B (Bw == 1)) rfl (w_end (q_then ?_))
    refine cd_cond (Bw == 1) rfl (fun hb24 => ?_) (fun hb24 => ?_)
    ·replace h := bif_t hb24 h
     refine rg (sm (I s2.1) rfl (sm (I r20) rfl (st (v := (I (w64 (s2.1 + r20)))) (rv_add (a := s2.1) (b := r20) rfl rfl) (sa (I (w64 (s2.1 + r20))) rfl (w_end (q_blk (q_blk ?_)))))))
     obtain rfl := sj h
     exact ⟨rfl, _, σ23, fr_join ⟨rfl, rfl, rfl, rfl, rfl, trivial⟩, rfl, H.sel' [0, 1] rfl rfl⟩
    ·replace h := bif_f hb24 h
     refine c_seq (rg (st (v := (B (Bw == 2))) (rv_eql (a := Bw) (b := 2) rfl rfl) (sa (B (Bw == 2)) rfl (w_end (q_then ?_)))))
     refine cd_cond (Bw == 2) rfl (fun hb25 => ?_) (fun hb25 => ?_)
     ·replace h := bif_t hb25 h
      refine rg (sm (I s2.1) rfl (sm (I r20) rfl (st (v := (I (max s2.1 r20))) (rv_max rfl rfl) (sa (I (max s2.1 r20)) rfl (w_end (q_blk (q_blk ?_)))))))
      obtain rfl := sj h
      exact ⟨rfl, _, σ23, fr_join ⟨rfl, rfl, rfl, rfl, rfl, trivial⟩, rfl, H.sel' [0, 1] rfl rfl⟩
     ·replace h := bif_f hb25 h
      refine c_seq (rg (st (v := (B (Bw == 3))) (rv_eql (a := Bw) (b := 3) rfl rfl) (sa (B (Bw == 3)) rfl (w_end (q_then ?_)))))
      refine cd_cond (Bw == 3) rfl (fun hb26 => ?_) (fun hb26 => ?_)
      ·replace h := bif_t hb26 h
       refine rg (sm (I s2.1) rfl (sm (I r20) rfl (sm (I r20) rfl (st (v := (I (w64 (r20 * r20)))) (rv_mul (a := r20) (b := r20) rfl rfl) (st (v := (I (w64 (s2.1 + (w64 (r20 * r20)))))) (rv_add (a := s2.1) (b := (w64 (r20 * r20))) rfl rfl) (sa (I (w64 (s2.1 + (w64 (r20 * r20))))) rfl (w_end (q_blk (q_blk ?_)))))))))
       obtain rfl := sj h
       exact ⟨rfl, _, σ23, fr_join ⟨rfl, rfl, rfl, rfl, rfl, trivial⟩, rfl, H.sel' [0, 1] rfl rfl⟩
      ·replace h := bif_f hb26 h
       refine rg (sm (I s2.1) rfl (sm (I r20) rfl (st (v := (B (decide (0 < r20)))) (rv_gtr (a := r20) (b := 0) rfl rfl) ?_)))
       revert h; refine br fun r27 hx28 h => ?_
       have hc29 := c_spec_toInt hx28
       refine st_call (cx_call hc29 (ent_f hc29.fn rfl) hn0 (H.sel' [0, 1] rfl rfl : Hp S0 σ0 _ ([] ++ _))) wn ?_
       rintro _ σ30 ⟨_, ⟨rfl, rfl⟩, H, -⟩
       replace H : Hp _ _ _ [_, _] := H
       refine st (v := (I (w64 (s2.1 + r27)))) (rv_add (a := s2.1) (b := r27) rfl rfl) (sa (I (w64 (s2.1 + r27))) rfl (w_end (q_blk (q_blk ?_))))
       obtain rfl := sj h
       exact ⟨rfl, _, σ30, fr_join ⟨rfl, rfl, rfl, rfl, rfl, trivial⟩, rfl, H.sel' [0, 1] rfl rfl⟩
   ·clear hj
    have h := h'
    clear h' H
    rintro e a w ⟨rfl, ρ, σ31, rfl, rfl, H⟩
    refine q_then (rg (sm (I s2.2) rfl (st (v := (I (w64 (s2.2 + 1)))) (rv_add (a := s2.2) (b := 1) rfl rfl) (sa (I (w64 (s2.2 + 1))) rfl (w_end (q_then ?_))))))
    obtain rfl := sj h
    exact ⟨_, rfl, _, σ31, fr_join ⟨rfl, rfl, rfl, rfl, rfl, trivial⟩, rfl, H.sel' [0, 1] rfl rfl⟩
  ·replace h := bif_f hb4 h
   refine c_exit (q_then_x (q_then_x (q_blk_hit ?_)))
   obtain rfl := sj h
   obtain rfl := hres _ rfl
   exact ⟨rfl, _, σ3, fr_join ⟨rfl, trivial⟩, rfl, H.sel' [] rfl rfl⟩
 ·clear hj
  have h := h'
  clear h' H
  rintro e a w ⟨rfl, ρ, σ32, rfl, rfl, H⟩
  refine q_then (c_seq (rg (sm (I o1) rfl (sa (I o1) rfl (w_end (q_then (c_ret ?_)))))))
  obtain rfl := sj h
  exact fin_ret (v := (I o1)) (results_ok Tryz.results59 (res_tmp (v := (I o1)) rfl res_nil) rfl) ⟨rfl, rfl⟩ (H.sel' [] rfl rfl)

theorem c_spec_probes {Bn : List (List Int)} {Bo : List Int} {Bp : Int} {Bq : Option Addr} {Br : Nat} {Bs : Option Addr} {Bt : Nat} {r : (List Int)} (h : M.spec_probes Bn Bo Bp = some r) :
    Cal2 Tryz.prog 28 [(Sl Bq Bn Br), (Sl Bs Bo Bt), (I Bp)] [Ch.ro 0 (Sl Bq Bn Br) Bn, Ch.ro 0 (Sl Bs Bo Bt) Bo] (fun n0 v L => ∃ (az1 : Option Addr), ∃ (cz2 : Nat), v = (Sl az1 r cz2) ∧ L = [Ch.own n0 n0 (Sl az1 r cz2) r]) := by
 refine cal2 (n := 45) Tryz.func28 rfl rfl rfl rfl ?_
 intro S0 σ0 n0 hn0 H
 unfold M.spec_probes at h
 refine c_seq (rg (sa (.slice none 0 0) rfl (w_end (q_then (c_seq (rg ?_))))))
 refine st_ex (ex_buildSlice (el := n0) (xs := ([] : List (Int × Int))) (ps := []) (cs := []) H hn0 Tryz.underlying28 ti35 rfl rfl (by kernel_rfl) (.nil) rfl) wn ?_
 rintro _ σ2 ⟨b1, rfl, H, -⟩
 refine sa (Sl (some ⟨b1, 0, none⟩) ([] : List (Int × Int)) 0) rfl (w_end (q_then (c_seq (c_seq (rg (sa (I 0) rfl (w_end (q_then ?_))))))))
 obtain ⟨o3, hj, h'⟩ := bind_some h
 clear h
 refine c_cut (fun e a w => e = .normal ∧ ∃ (ρ : Nat → Value) (σ : St) (aj1 : Option Addr) (cj2 : Nat), a = fr 45 (updL ρ [(7, (Sl aj1 o3 cj2))]) ∧ w = σ.w ∧ Hp S0 σ0 σ [Ch.own n0 n0 (Sl aj1 o3 cj2) o3]) ?_ ?_
 ·clear h'
  rename _ = some o3 => h
  refine c_blk (wp_loopM _ h (fun s4 a w => ∃ (ρ : Nat → Value) (σ : St) (aj1 : Option Addr) (cj2 : Nat), a = fr 45 (updL ρ [(0, (Sl Bq Bn Br)), (1, (Sl Bs Bo Bt)), (2, (I Bp)), (7, (Sl aj1 s4.1 cj2)), (8, (I s4.2))]) ∧ w = σ.w ∧ Hp S0 σ0 σ [Ch.ro 0 (Sl Bq Bn Br) Bn, Ch.ro 0 (Sl Bs Bo Bt) Bo, Ch.own n0 n0 (Sl aj1 s4.1 cj2) s4.1]) ⟨_, σ2, (some ⟨b1, 0, none⟩), 0, fr_join ⟨rfl, rfl, rfl, rfl, rfl, trivial⟩, rfl, H.sel' [1, 2, 0] rfl rfl⟩ ?_)
  clear h H
  rintro s4 a w o ⟨ρ, σ5, a6, c7, rfl, rfl, H⟩ h hres
  refine c_seq (c_seq (rg (sm (I s4.2) rfl (sm (Sl Bq Bn Br) rfl (st (v := (I (Bn.length : Int))) (rv_len Tryz.underlying23 rfl) (st (v := (B (decide (s4.2 < (Bn.length : Int))))) (rv_lss (a := s4.2) (b := (Bn.length : Int)) rfl rfl) (w_end (q_then ?_))))))))
  refine cd_cond (decide (s4.2 < (Bn.length : Int))) rfl (fun hb8 => ?_) (fun hb8 => ?_)
  ·replace h := bif_t hb8 h
   refine c_skip (q_then (c_seq (c_blk (rg (sm (Sl a6 s4.1 c7) rfl (sm (I s4.2) rfl (sm (Sl Bq Bn Br) rfl (sm (I s4.2) rfl ?_))))))))
   revert h; refine br fun x9 hx10 h => ?_
   obtain ⟨b12, o13, hi11, -⟩ := (H.ro 0 rfl).ix hx10
   refine st (v := (pt b12 o13)) (rv_ix Tryz.underlying23 ti25 rfl rfl hi11) ?_
   obtain ⟨v17, hc18, hR16⟩ := ((H.ro 0 rfl).at hx10 hi11).slice
   obtain ⟨a14, c15, rfl⟩ := hR16.isSl
   replace H := H.add (d := Ch.ro 0 (Sl a14 x9 c15) x9) hR16 (fun _ h => h)
   clear hR16
   refine st (v := (Sl a14 x9 c15)) (rv_load1 Tryz.underlying25 rfl rfl hc18) (sm (Sl Bs Bo Bt) rfl ?_)
   revert h; refine br fun r19 hx20 h => ?_
   have hc21 := c_spec_dist (El := a14) (Em := c15) (En := Bs) (Eo := Bt) hx20
   refine st_call (cx_call hc21 (ent_f hc21.fn rfl) hn0 (H.sel' [0, 2, 0, 1, 2, 3] rfl rfl : Hp S0 σ0 _ ([_, _] ++ _))) wn ?_
   rintro _ σ22 ⟨_, ⟨rfl, rfl⟩, H, -⟩
   replace H : Hp _ _ _ [_, _, _, _] := H
   refine st (v := (.agg #[(I s4.2), (I r19)])) (rv_build (ps := [(0, (I s4.2)), (1, (I r19))]) Tryz.underlying35 ti35 (bp35 Tryz.underlying35) rfl (by kernel_rfl)) ?_
   refine sm (I Bp) rfl ?_
   obtain ⟨σ23, hw24, H, -⟩ := H.pub 3 rfl (Nat.le_refl _)
   rw [← hw24]; clear hw24
   replace H := H.roLow 0 0 rfl (Nat.zero_le _)
   revert h; refine br fun r25 hx26 h => ?_
   have hc27 := c_spec_addHit (Au := a6) (Av := c7) hx26
   refine st_call (cx_call hc27 (ent_f hc27.fn rfl) hn0 (H.sel' [0, 0, 1, 2, 3, 4] rfl rfl : Hp S0 σ0 _ ([_] ++ _))) wn ?_
   rintro _ σ30 ⟨_, ⟨a28, c29, rfl, rfl⟩, H, -⟩
   replace H : Hp _ _ _ [_, _, _, _, _, _] := H
   refine sa (Sl a28 r25 c29) rfl (w_end (q_blk (q_then (rg (sm (I s4.2) rfl (st (v := (I (w64 (s4.2 + 1)))) (rv_add (a := s4.2) (b := 1) rfl rfl) (sa (I (w64 (s4.2 + 1))) rfl (w_end (q_then ?_)))))))))
   obtain rfl := sj h
   exact ⟨_, rfl, _, σ30, a28, c29, fr_join ⟨rfl, rfl, rfl, rfl, rfl, trivial⟩, rfl, H.sel' [4, 5, 0] rfl rfl⟩
  ·replace h := bif_f hb8 h
   refine c_exit (q_then_x (q_then_x (q_blk_hit ?_)))
   obtain rfl := sj h
   obtain rfl := hres _ rfl
   exact ⟨rfl, _, σ5, a6, c7, fr_join ⟨rfl, trivial⟩, rfl, H.sel' [2] rfl rfl⟩
 ·clear hj
  have h := h'
  clear h' H
  rintro e a w ⟨rfl, ρ, σ31, a32, c33, rfl, rfl, H⟩
  refine q_then (c_seq (rg ?_))
  refine st_ex (ex_buildSlice (el := n0) (xs := ([] : List Int)) (ps := []) (cs := []) H hn0 Tryz.underlying25 ti3 rfl rfl (by kernel_rfl) (.nil) rfl) wn ?_
  rintro _ σ35 ⟨b34, rfl, H, -⟩
  refine sa (Sl (some ⟨b34, 0, none⟩) ([] : List Int) 0) rfl (w_end (q_then (c_seq (c_seq (rg (sa (I 0) rfl (w_end (q_then ?_))))))))
  obtain ⟨o36, hj, h'⟩ := bind_some h
  clear h
  refine c_cut (fun e a w => e = .normal ∧ ∃ (ρ : Nat → Value) (σ : St) (aj1 : Option Addr) (cj2 : Nat), a = fr 45 (updL ρ [(9, (Sl aj1 o36 cj2))]) ∧ w = σ.w ∧ Hp S0 σ0 σ [Ch.own n0 n0 (Sl aj1 o36 cj2) o36]) ?_ ?_
  ·clear h'
   rename _ = some o36 => h
   refine c_blk (wp_loopM _ h (fun s37 a w => ∃ (ρ : Nat → Value) (σ : St) (aj1 : Option Addr) (cj2 : Nat), a = fr 45 (updL ρ [(7, (Sl a32 o3 c33)), (9, (Sl aj1 s37.1 cj2)), (10, (I s37.2))]) ∧ w = σ.w ∧ Hp S0 σ0 σ [Ch.own n0 n0 (Sl a32 o3 c33) o3, Ch.own n0 n0 (Sl aj1 s37.1 cj2) s37.1]) ⟨_, σ35, (some ⟨b34, 0, none⟩), 0, fr_join ⟨rfl, rfl, rfl, trivial⟩, rfl, H.sel' [1, 0] rfl rfl⟩ ?_)
   clear h H
   rintro s37 a w o ⟨ρ, σ38, a39, c40, rfl, rfl, H⟩ h hres
   refine c_seq (c_seq (rg (sm (I s37.2) rfl (sm (Sl a32 o3 c33) rfl (st (v := (I (o3.length : Int))) (rv_len Tryz.underlying28 rfl) (st (v := (B (decide (s37.2 < (o3.length : Int))))) (rv_lss (a := s37.2) (b := (o3.length : Int)) rfl rfl) (w_end (q_then ?_))))))))
   refine cd_cond (decide (s37.2 < (o3.length : Int))) rfl (fun hb41 => ?_) (fun hb41 => ?_)
   ·replace h := bif_t hb41 h
    refine c_skip (q_then (c_seq (c_blk (rg (sm (Sl a39 s37.1 c40) rfl (sm (Sl a32 o3 c33) rfl (sm (I s37.2) rfl ?_)))))))
    revert h; refine br fun x42 hx43 h => ?_
    obtain ⟨b45, o46, hi44, -⟩ := (H.own 0 rfl).ix hx43
    refine st (v := (pt b45 o46)) (rv_ix Tryz.underlying28 ti35 rfl rfl hi44) (st (v := (pt b45 (o46 + 0))) (rv_fieldAddr (off := 0) (ft := 3) Tryz.underlying35 rfl ti3 rfl rfl) ?_)
    have hc47 := ((H.own 0 rfl).at hx43 hi44).fst.int
    refine st (v := (I x42.1)) (rv_load1 Tryz.underlying3 rfl rfl hc47) ?_
    refine st_ex (ex_buildSlice (el := n0) (xs := ([x42.1] : List Int)) (ps := [(0, (I x42.1))]) (cs := [(I x42.1)]) H hn0 Tryz.underlying25 ti3 rfl rfl (by kernel_rfl) (.cons (c := [(I x42.1)]) rfl (.nil)) rfl) wn ?_
    rintro _ σ49 ⟨b48, rfl, H, -⟩
    revert h; refine br fun xs50 hx51 h => ?_
    refine st_ex (ex_append H (i := 2) rfl Tryz.underlying25 Tryz.underlying25 ti3 rfl rfl (by decide) (H.own 0 rfl).rd hx51 hn0 rfl rfl) wn ?_
    rintro _ σ54 ⟨a52, c53, rfl, H, -⟩
    refine sa (Sl a52 xs50 c53) rfl (w_end (q_blk (q_then (rg (sm (I s37.2) rfl (st (v := (I (w64 (s37.2 + 1)))) (rv_add (a := s37.2) (b := 1) rfl rfl) (sa (I (w64 (s37.2 + 1))) rfl (w_end (q_then ?_)))))))))
    obtain rfl := sj h
    exact ⟨_, rfl, _, σ54, a52, c53, fr_join ⟨rfl, rfl, rfl, trivial⟩, rfl, H.sel' [2, 0] rfl rfl⟩
   ·replace h := bif_f hb41 h
    refine c_exit (q_then_x (q_then_x (q_blk_hit ?_)))
    obtain rfl := sj h
    obtain rfl := hres _ rfl
    exact ⟨rfl, _, σ38, a39, c40, fr_join ⟨rfl, trivial⟩, rfl, H.sel' [1] rfl rfl⟩
  ·clear hj
   have h := h'
   clear h' H
   rintro e a w ⟨rfl, ρ, σ55, a56, c57, rfl, rfl, H⟩
   refine q_then (c_seq (rg (sm (Sl a56 o36 c57) rfl (sa (Sl a56 o36 c57) rfl (w_end (q_then (c_ret ?_)))))))
   obtain rfl := sj h
   exact fin_ret (v := (Sl a56 o36 c57)) (results_ok Tryz.results28 (res_tmp (v := (Sl a56 o36 c57)) rfl res_nil) rfl) ⟨a56, c57, rfl, rfl⟩ (H.sel' [0] rfl rfl)

theorem c_spec_isIn {As : List Int} {Af : Int} {Au : Option Addr} {Av : Nat} {r : Bool} (h : M.spec_isIn As Af = some r) :
    Cal2 Tryz.prog 29 [(Sl Au As Av), (I Af)] [Ch.ro 0 (Sl Au As Av) As] (fun n0 v L => v = (B r) ∧ L = []) := by
 refine cal2 (n := 18) Tryz.func29 rfl rfl rfl rfl ?_
 intro S0 σ0 n0 hn0 H
 unfold M.spec_isIn at h
 refine c_seq (rg (sa (B false) rfl (w_end (q_then (c_seq (c_seq (rg (sa (I 0) rfl (w_end (q_then ?_))))))))))
 obtain ⟨o1, hj, h'⟩ := bind_some h
 clear h
 refine c_cut (fun e a w => (∃ t, o1 = (.inl t) ∧ e = .normal ∧ ∃ (ρ : Nat → Value) (σ : St), a = fr 18 (updL ρ []) ∧ w = σ.w ∧ Hp S0 σ0 σ []) ∨ (∃ t, o1 = (.inr t) ∧ e = .ret ∧ ∃ (ρ : Nat → Value) (σ : St), a = fr 18 (updL ρ [(4, (B t))]) ∧ w = σ.w ∧ Hp S0 σ0 σ [])) ?_ ?_
 ·clear h'
  rename _ = some o1 => h
  refine c_blk (wp_loopM _ h (fun s2 a w => ∃ (ρ : Nat → Value) (σ : St), a = fr 18 (updL ρ [(0, (Sl Au As Av)), (1, (I Af)), (5, (I s2))]) ∧ w = σ.w ∧ Hp S0 σ0 σ [Ch.ro 0 (Sl Au As Av) As]) ⟨_, σ0, fr_join ⟨rfl, rfl, rfl, trivial⟩, rfl, H.sel' [0] rfl rfl⟩ ?_)
  clear h H
  rintro s2 a w o ⟨ρ, σ3, rfl, rfl, H⟩ h hres
  refine c_seq (c_seq (rg (sm (I s2) rfl (sm (Sl Au As Av) rfl (st (v := (I (As.length : Int))) (rv_len Tryz.underlying25 rfl) (st (v := (B (decide (s2 < (As.length : Int))))) (rv_lss (a := s2) (b := (As.length : Int)) rfl rfl) (w_end (q_then ?_))))))))
  refine cd_cond (decide (s2 < (As.length : Int))) rfl (fun hb4 => ?_) (fun hb4 => ?_)
  ·replace h := bif_t hb4 h
   refine c_skip (q_then (c_seq (c_blk (c_seq (rg (sm (Sl Au As Av) rfl (sm (I s2) rfl ?_)))))))
   revert h; refine br fun x5 hx6 h => ?_
   obtain ⟨b8, o9, hi7, -⟩ := (H.ro 0 rfl).ix hx6
   refine st (v := (pt b8 o9)) (rv_ix Tryz.underlying25 ti3 rfl rfl hi7) ?_
   have hc10 := ((H.ro 0 rfl).at hx6 hi7).int
   refine st (v := (I x5)) (rv_load1 Tryz.underlying3 rfl rfl hc10) (sm (I Af) rfl (st (v := (B (x5 == Af))) (rv_eql (a := x5) (b := Af) rfl rfl) (w_end (q_then ?_))))
   refine cd_cond (x5 == Af) rfl (fun hb11 => ?_) (fun hb11 => ?_)
   ·replace h := bif_t hb11 h
    refine c_seq (rg (sa (B true) rfl (w_end (q_then (c_ret (q_blk_r (q_then_r (q_then_r (q_blk_r ?_)))))))))
    obtain rfl := sj h
    obtain rfl := hres _ rfl
    exact .inr (⟨_, rfl, rfl, _, σ3, fr_join ⟨rfl, trivial⟩, rfl, H.sel' [] rfl rfl⟩)
   ·replace h := bif_f hb11 h
    refine c_skip (q_blk (q_then (rg (sm (I s2) rfl (st (v := (I (w64 (s2 + 1)))) (rv_add (a := s2) (b := 1) rfl rfl) (sa (I (w64 (s2 + 1))) rfl (w_end (q_then ?_))))))))
    obtain rfl := sj h
    exact ⟨_, rfl, _, σ3, fr_join ⟨rfl, rfl, rfl, trivial⟩, rfl, H.sel' [0] rfl rfl⟩
  ·replace h := bif_f hb4 h
   refine c_exit (q_then_x (q_then_x (q_blk_hit ?_)))
   obtain rfl := sj h
   obtain rfl := hres _ rfl
   exact .inl ⟨_, rfl, rfl, _, σ3, fr_join trivial, rfl, H.sel' [] rfl rfl⟩
 ·clear hj
  have h := h'
  clear h' H
  rintro e a w (⟨t12, rfl, rfl, ρ, σ13, rfl, rfl, H⟩ | ⟨t14, rfl, rfl, ρ, σ15, rfl, rfl, H⟩)
  ·replace h := selim_l h
   refine q_then (c_seq (rg (sa (B false) rfl (w_end (q_then (c_ret ?_))))))
   obtain rfl := sj h
   exact fin_ret (v := (B false)) (results_ok Tryz.results29 (res_tmp (v := (B false)) rfl res_nil) rfl) ⟨rfl, rfl⟩ (H.sel' [] rfl rfl)
  ·replace h := selim_r h
   refine q_then_r ?_
   obtain rfl := sj h
   exact fin_ret (v := (B t14)) (results_ok Tryz.results29 (res_tmp (v := (B t14)) rfl res_nil) rfl) ⟨rfl, rfl⟩ (H.sel' [] rfl rfl)

theorem c_spec_centreOf {Bn : List (List Int)} {Bo : List Int} {Bq : Option Addr} {Br : Nat} {Bs : Option Addr} {Bt : Nat} {r : Int} (h : M.spec_centreOf Bn Bo = some r) :
    Cal2 Tryz.prog 30 [(Sl Bq Bn Br), (Sl Bs Bo Bt)] [Ch.ro 0 (Sl Bq Bn Br) Bn, Ch.ro 0 (Sl Bs Bo Bt) Bo] (fun n0 v L => v = (I r) ∧ L = []) := by
 refine cal2 (n := 28) Tryz.func30 rfl rfl rfl rfl ?_
 intro S0 σ0 n0 hn0 H
 unfold M.spec_centreOf at h
 refine c_seq (rg (sa (I 0) rfl (w_end (q_then (c_seq (rg (sa (I 0) rfl (w_end (q_then (c_seq (c_seq ?_)))))))))))
 refine rg (sa (I 1) rfl (w_end (q_then ?_)))
 obtain ⟨o1, hj, h'⟩ := bind_some h
 clear h
 refine c_cut (fun e a w => e = .normal ∧ ∃ (ρ : Nat → Value) (σ : St), a = fr 28 (updL ρ [(5, (I o1))]) ∧ w = σ.w ∧ Hp S0 σ0 σ []) ?_ ?_
 ·clear h'
  rename _ = some o1 => h
  refine c_blk (wp_loopM _ h (fun s2 a w => ∃ (ρ : Nat → Value) (σ : St), a = fr 28 (updL ρ [(0, (Sl Bq Bn Br)), (1, (Sl Bs Bo Bt)), (5, (I s2.1)), (6, (I s2.2))]) ∧ w = σ.w ∧ Hp S0 σ0 σ [Ch.ro 0 (Sl Bq Bn Br) Bn, Ch.ro 0 (Sl Bs Bo Bt) Bo]) ⟨_, σ0, fr_join ⟨rfl, rfl, rfl, rfl, trivial⟩, rfl, H.sel' [0, 1] rfl rfl⟩ ?_)
  clear h H
  rintro s2 a w o ⟨ρ, σ3, rfl, rfl, H⟩ h hres
  refine c_seq (c_seq (rg (sm (I s2.2) rfl (sm (Sl Bq Bn Br) rfl (st (v := (I (Bn.length : Int))) (rv_len Tryz.underlying23 rfl) (st (v := (B (decide (s2.2 < (Bn.length : Int))))) (rv_lss (a := s2.2) (b := (Bn.length : Int)) rfl rfl) (w_end (q_then ?_))))))))
  refine cd_cond (decide (s2.2 < (Bn.length : Int))) rfl (fun hb4 => ?_) (fun hb4 => ?_)
  ·replace h := bif_t hb4 h
   refine c_skip (q_then (c_seq ?_))
   obtain ⟨o5, hj, h'⟩ := bind_some h
   clear h
   refine c_cut (fun e a w => e = .normal ∧ ∃ (ρ : Nat → Value) (σ : St), a = fr 28 (updL ρ [(0, (Sl Bq Bn Br)), (1, (Sl Bs Bo Bt)), (5, (I o5)), (6, (I s2.2))]) ∧ w = σ.w ∧ Hp S0 σ0 σ [Ch.ro 0 (Sl Bq Bn Br) Bn, Ch.ro 0 (Sl Bs Bo Bt) Bo]) ?_ ?_
   ·clear h'
    rename _ = some o5 => h
    refine c_blk (c_seq ?_)
    revert h; refine br fun x6 hx7 h => ?_
    obtain ⟨b9, o10, hi8, -⟩ := (H.ro 0 rfl).ix hx7
    obtain ⟨v14, hc15, hR13⟩ := ((H.ro 0 rfl).at hx7 hi8).slice
    obtain ⟨a11, c12, rfl⟩ := hR13.isSl
    replace H := H.add (d := Ch.ro 0 (Sl a11 x6 c12) x6) hR13 (fun _ h => h)
    clear hR13
    revert h; refine br fun r16 hx17 h => ?_
    have hc18 := c_spec_dist (El := a11) (Em := c12) (En := Bs) (Eo := Bt) hx17
    revert h; refine br fun x19 hx20 h => ?_
    obtain ⟨b22, o23, hi21, -⟩ := (H.ro 1 rfl).ix hx20
    obtain ⟨v27, hc28, hR26⟩ := ((H.ro 1 rfl).at hx20 hi21).slice
    obtain ⟨a24, c25, rfl⟩ := hR26.isSl
    replace H := H.add (d := Ch.ro 0 (Sl a24 x19 c25) x19) hR26 (fun _ h => h)
    clear hR26
    have Hs := H
    refine rg2 (σ := σ3) (Nm := Unit) 11 [5] [[false], [true]] [[(0, 0)], [(0, 0)], [(0, 0)], [(0, 0)], [(0, 0)], [(0, 1)], [(0, 0), (1, 1)], [(0, 0), (1, 1)], [(0, 0), (1, 1)], [(0, 0), (1, 1)], [(0, 0), (1, 1)]] 1 [fun _ => fun σm => Hp S0 σ0 σm [Ch.ro 0 (Sl a24 x19 c25) x19, Ch.ro 0 (Sl a11 x6 c12) x6, Ch.ro 0 (Sl Bq Bn Br) Bn, Ch.ro 0 (Sl Bs Bo Bt) Bo] ∧ Md (cov []) σ3 σm, fun _ => fun σm => Hp S0 σ0 σm [Ch.ro 0 (Sl a24 x19 c25) x19, Ch.ro 0 (Sl a11 x6 c12) x6, Ch.ro 0 (Sl Bq Bn Br) Bn, Ch.ro 0 (Sl Bs Bo Bt) Bo] ∧ Md (cov []) σ3 σm] [fun _ => (Sl Bq Bn Br), fun _ => (I s2.2), fun _ => (pt b9 o10), fun _ => (Sl a11 x6 c12), fun _ => (Sl Bs Bo Bt), fun _ => (I r16), fun _ => (Sl Bq Bn Br), fun _ => (I s2.1), fun _ => (pt b22 o23), fun _ => (Sl a24 x19 c25), fun _ => (Sl Bs Bo Bt)] () (by kernel_rfl) (by kernel_rfl) ?_ ?_ ?_
    ·intro σm m0
     exact ⟨H.grow (m0.mono fun _ h => h.elim), m0⟩
    ·refine ac rfl (by
       intro k _nm ρ σm hJ hoff hdep
       have e0 := look_off (N := 28) (hoff 0 rfl) rfl
       exact dp_v (v := (Sl Bq Bn Br)) wn (rv_move e0) rfl hJ) ?_
     refine ac rfl (by
       intro k _nm ρ σm hJ hoff hdep
       have e6 := look_off (N := 28) (hoff 6 rfl) rfl
       exact dp_v (v := (I s2.2)) wn (rv_move e6) rfl hJ) ?_
     refine ac rfl (by
       intro k _nm ρ σm hJ hoff hdep
       have e13 := hdep 0 rfl rfl 13 rfl
       have e14 := hdep 1 rfl rfl 14 rfl
       exact dp_v (v := (pt b9 o10)) wn (rv_ix Tryz.underlying23 ti25 e13 e14 hi8) rfl hJ) ?_
     refine all_cons (by
       refine ⟨?_, ?_⟩
       ·intro _nm ρ σm hJ hoff hdep
        have e15 := hdep 2 rfl rfl 15 rfl
        obtain ⟨H, m⟩ := id hJ
        replace hc15 := (Hs.ro 2 rfl).hmd hx7 hi8 (k := 0) (by decide) hc15 m
        exact dp_v (v := (Sl a11 x6 c12)) wn (rv_load1 Tryz.underlying25 rfl e15 hc15) rfl hJ
       trivial) ?_
     refine ac rfl (by
       intro k _nm ρ σm hJ hoff hdep
       have e1 := look_off (N := 28) (hoff 1 rfl) rfl
       exact dp_v (v := (Sl Bs Bo Bt)) wn (rv_move e1) rfl hJ) ?_
     refine all_cons (by
       refine ⟨?_, ?_⟩
       ·intro _nm ρ σm hJ hoff hdep
        have e16 : look 28 ρ 16 = (Sl a11 x6 c12) := hdep 3 rfl rfl 16 rfl
        have e17 : look 28 ρ 17 = (Sl Bs Bo Bt) := hdep 4 rfl rfl 17 rfl
        obtain ⟨H, m⟩ := id hJ
        refine dp_cx wn (cx_call hc18 (ent_f hc18.fn (by show [(I 3), look 28 ρ 16, look 28 ρ 17] = _; rw [e16, e17])) hn0 (H.sel' [1, 3, 0, 1, 2, 3] rfl rfl : Hp S0 σ0 _ ([_, _] ++ _))) ?_
        rintro _ σq ⟨_, ⟨rfl, rfl⟩, H2, m2⟩
        exact ⟨_, (), rfl, rfl, ⟨H2.sel' [0, 1, 2, 3] rfl rfl, m.comp0 (m2.mono (fun i h => by simp [cov, Ch.ro] at h))⟩, stab [0, 1, 2, 3, 4, 6, 7, 8, 9, 10] (by kernel_rfl) ⟨rfl, rfl, rfl, rfl, rfl, rfl, rfl, rfl, rfl, rfl, trivial⟩⟩
       trivial) ?_
     refine ac rfl (by
       intro k _nm ρ σm hJ hoff hdep
       have e0 := look_off (N := 28) (hoff 0 rfl) rfl
       exact dp_v (v := (Sl Bq Bn Br)) wn (rv_move e0) rfl hJ) ?_
     refine ac rfl (by
       intro k _nm ρ σm hJ hoff hdep
       have e5 := look_off (N := 28) (hoff 5 rfl) rfl
       exact dp_v (v := (I s2.1)) wn (rv_move e5) rfl hJ) ?_
     refine ac rfl (by
       intro k _nm ρ σm hJ hoff hdep
       have e19 := hdep 6 rfl rfl 19 rfl
       have e20 := hdep 7 rfl rfl 20 rfl
       exact dp_v (v := (pt b22 o23)) wn (rv_ix Tryz.underlying23 ti25 e19 e20 hi21) rfl hJ) ?_
     refine all_cons (by
       refine ⟨?_, ?_⟩
       ·intro _nm ρ σm hJ hoff hdep
        have e21 := hdep 8 rfl rfl 21 rfl
        obtain ⟨H, m⟩ := id hJ
        replace hc28 := (Hs.ro 2 rfl).hmd hx20 hi21 (k := 0) (by decide) hc28 m
        exact dp_v (v := (Sl a24 x19 c25)) wn (rv_load1 Tryz.underlying25 rfl e21 hc28) rfl hJ
       refine ⟨?_, ?_⟩
       ·intro _nm ρ σm hJ hoff hdep
        have e21 := hdep 8 rfl rfl 21 rfl
        obtain ⟨H, m⟩ := id hJ
        replace hc28 := (Hs.ro 2 rfl).hmd hx20 hi21 (k := 0) (by decide) hc28 m
        exact dp_v (v := (Sl a24 x19 c25)) wn (rv_load1 Tryz.underlying25 rfl e21 hc28) rfl hJ
       trivial) ?_
     refine ac rfl (by
       intro k _nm ρ σm hJ hoff hdep
       have e1 := look_off (N := 28) (hoff 1 rfl) rfl
       exact dp_v (v := (Sl Bs Bo Bt)) wn (rv_move e1) rfl hJ) ?_
     exact all_nil
    ·intro _nm ρ σ29 hJ hoff hrel
     have e0 := look_off (N := 28) (hoff 0 rfl) rfl
     have e1 := look_off (N := 28) (hoff 1 rfl) rfl
     have e5 := look_off (N := 28) (hoff 5 rfl) rfl
     have e6 := look_off (N := 28) (hoff 6 rfl) rfl
     have e18 := hrel 5 rfl 18 rfl
     have e22 := hrel 9 rfl 22 rfl
     have e23 := hrel 10 rfl 23 rfl
     obtain ⟨H, -⟩ := (show Hp S0 σ0 σ29 [Ch.ro 0 (Sl a24 x19 c25) x19, Ch.ro 0 (Sl a11 x6 c12) x6, Ch.ro 0 (Sl Bq Bn Br) Bn, Ch.ro 0 (Sl Bs Bo Bt) Bo] ∧ Md (cov []) σ3 σ29 from hJ)
     clear hJ Hs
     rw [fr_lookL (L := [(0, (Sl Bq Bn Br)), (1, (Sl Bs Bo Bt)), (5, (I s2.1)), (6, (I s2.2)), (18, (I r16)), (22, (Sl a24 x19 c25)), (23, (Sl Bs Bo Bt))]) ⟨e0, e1, e5, e6, e18, e22, e23, trivial⟩]
     clear hoff hrel e0 e1 e5 e6 e18 e22 e23
     revert h; refine br fun r30 hx31 h => ?_
     have hc32 := c_spec_dist (El := a24) (Em := c25) (En := Bs) (Eo := Bt) hx31
     refine st_call (cx_call hc32 (ent_f hc32.fn rfl) hn0 (H.sel' [0, 3, 0, 1, 2, 3] rfl rfl : Hp S0 σ0 _ ([_, _] ++ _))) wn ?_
     rintro _ σ33 ⟨_, ⟨rfl, rfl⟩, H, -⟩
     replace H : Hp _ _ _ [_, _, _, _] := H
     refine st (v := (B (decide (r16 < r30)))) (rv_lss (a := r16) (b := r30) rfl rfl) (w_end (q_then ?_))
     refine cd_cond (decide (r16 < r30)) rfl (fun hb34 => ?_) (fun hb34 => ?_)
     ·replace h := bif_t hb34 h
      refine rg (sm (I s2.2) rfl (sa (I s2.2) rfl (w_end (q_blk ?_))))
      obtain rfl := sj h
      exact ⟨rfl, _, σ33, fr_join ⟨rfl, rfl, rfl, rfl, trivial⟩, rfl, H.sel' [2, 3] rfl rfl⟩
     ·replace h := bif_f hb34 h
      refine c_skip (q_blk ?_)
      obtain rfl := sj h
      exact ⟨rfl, _, σ33, fr_join ⟨rfl, rfl, rfl, rfl, trivial⟩, rfl, H.sel' [2, 3] rfl rfl⟩
   ·clear hj
    have h := h'
    clear h' H
    rintro e a w ⟨rfl, ρ, σ35, rfl, rfl, H⟩
    refine q_then (rg (sm (I s2.2) rfl (st (v := (I (w64 (s2.2 + 1)))) (rv_add (a := s2.2) (b := 1) rfl rfl) (sa (I (w64 (s2.2 + 1))) rfl (w_end (q_then ?_))))))
    obtain rfl := sj h
    exact ⟨_, rfl, _, σ35, fr_join ⟨rfl, rfl, rfl, rfl, trivial⟩, rfl, H.sel' [0, 1] rfl rfl⟩
  ·replace h := bif_f hb4 h
   refine c_exit (q_then_x (q_then_x (q_blk_hit ?_)))
   obtain rfl := sj h
   obtain rfl := hres _ rfl
   exact ⟨rfl, _, σ3, fr_join ⟨rfl, trivial⟩, rfl, H.sel' [] rfl rfl⟩
 ·clear hj
  have h := h'
  clear h' H
  rintro e a w ⟨rfl, ρ, σ36, rfl, rfl, H⟩
  refine q_then (c_seq (rg (sm (I o1) rfl (sa (I o1) rfl (w_end (q_then (c_ret ?_)))))))
  obtain rfl := sj h
  exact fin_ret (v := (I o1)) (results_ok Tryz.results30 (res_tmp (v := (I o1)) rfl res_nil) rfl) ⟨rfl, rfl⟩ (H.sel' [] rfl rfl)

theorem c_spec_nearest {As : List (Int × (List Int) × Int)} {Bz : Int} {Ca : List Int} {Cb : Int} {Au : Option Addr} {Av : Nat} {Cc : Option Addr} {Cd : Nat} {r : (List (Int × Int))} (h : M.spec_nearest As Bz Ca Cb = some r) :
    Cal2 Tryz.prog 31 [(Sl Au As Av), (I Bz), (Sl Cc Ca Cd), (I Cb)] [Ch.ro 0 (Sl Au As Av) As, Ch.ro 0 (Sl Cc Ca Cd) Ca] (fun n0 v L => ∃ (az1 : Option Addr), ∃ (cz2 : Nat), v = (Sl az1 r cz2) ∧ L = [Ch.own n0 n0 (Sl az1 r cz2) r]) := by
 refine cal2 (n := 36) Tryz.func31 rfl rfl rfl rfl ?_
 intro S0 σ0 n0 hn0 H
 unfold M.spec_nearest at h
 refine c_seq (rg (sa (.slice none 0 0) rfl (w_end (q_then (c_seq (rg ?_))))))
 refine st_ex (ex_buildSlice (el := n0) (xs := ([] : List (Int × Int))) (ps := []) (cs := []) H hn0 Tryz.underlying28 ti35 rfl rfl (by kernel_rfl) (.nil) rfl) wn ?_
 rintro _ σ2 ⟨b1, rfl, H, -⟩
 refine sa (Sl (some ⟨b1, 0, none⟩) ([] : List (Int × Int)) 0) rfl (w_end (q_then (c_seq (c_seq (rg (sa (I 0) rfl (w_end (q_then ?_))))))))
 obtain ⟨o3, hj, h'⟩ := bind_some h
 clear h
 refine c_cut (fun e a w => e = .normal ∧ ∃ (ρ : Nat → Value) (σ : St) (aj1 : Option Addr) (cj2 : Nat), a = fr 36 (updL ρ [(9, (Sl aj1 o3 cj2))]) ∧ w = σ.w ∧ Hp S0 σ0 σ [Ch.own n0 n0 (Sl aj1 o3 cj2) o3]) ?_ ?_
 ·clear h'
  rename _ = some o3 => h
  refine c_blk (wp_loopM _ h (fun s4 a w => ∃ (ρ : Nat → Value) (σ : St) (aj1 : Option Addr) (cj2 : Nat), a = fr 36 (updL ρ [(0, (Sl Au As Av)), (1, (I Bz)), (2, (Sl Cc Ca Cd)), (3, (I Cb)), (9, (Sl aj1 s4.1 cj2)), (10, (I s4.2))]) ∧ w = σ.w ∧ Hp S0 σ0 σ [Ch.ro 0 (Sl Au As Av) As, Ch.ro 0 (Sl Cc Ca Cd) Ca, Ch.own n0 n0 (Sl aj1 s4.1 cj2) s4.1]) ⟨_, σ2, (some ⟨b1, 0, none⟩), 0, fr_join ⟨rfl, rfl, rfl, rfl, rfl, rfl, trivial⟩, rfl, H.sel' [1, 2, 0] rfl rfl⟩ ?_)
  clear h H
  rintro s4 a w o ⟨ρ, σ5, a6, c7, rfl, rfl, H⟩ h hres
  refine c_seq (c_seq (rg (sm (I s4.2) rfl (sm (Sl Au As Av) rfl (st (v := (I (As.length : Int))) (rv_len Tryz.underlying24 rfl) (st (v := (B (decide (s4.2 < (As.length : Int))))) (rv_lss (a := s4.2) (b := (As.length : Int)) rfl rfl) (w_end (q_then ?_))))))))
  refine cd_cond (decide (s4.2 < (As.length : Int))) rfl (fun hb8 => ?_) (fun hb8 => ?_)
  ·replace h := bif_t hb8 h
   refine c_skip (q_then (c_seq (c_blk ?_)))
   revert h; refine br fun x9 hx10 h => ?_
   obtain ⟨b12, o13, hi11, -⟩ := (H.ro 0 rfl).ix hx10
   have hc14 := ((H.ro 0 rfl).at hx10 hi11).fst.int
   revert h; refine br fun x15 hx16 h => ?_
   obtain ⟨b18, o19, hi17, -⟩ := (H.ro 0 rfl).ix hx16
   obtain ⟨v23, hc24, hR22⟩ := ((H.ro 0 rfl).at hx16 hi17).snd.fst.slice
   obtain ⟨a20, c21, rfl⟩ := hR22.isSl
   replace H := H.add (d := Ch.ro 0 (Sl a20 x15.2.1 c21) x15.2.1) hR22 (fun _ h => h)
   clear hR22
   revert h; refine br fun r25 hx26 h => ?_
   have hc27 := c_spec_dist (El := a20) (Em := c21) (En := Cc) (Eo := Cd) hx26
   have Hs := H
   refine rg2 (σ := σ5) (Nm := Unit) 16 [13] [[false], [true]] [[(0, 0), (1, 1)], [(0, 0), (1, 1)], [(0, 0), (1, 1)], [(0, 0), (1, 1)], [(0, 0), (1, 1)], [(0, 0), (1, 1)], [(0, 0)], [(0, 0)], [(0, 0)], [(0, 0)], [(0, 0)], [(0, 0)], [(0, 0)], [(0, 1)], [(1, 1)], [(0, 0), (1, 1)]] 1 [fun _ => fun σm => Hp S0 σ0 σm [Ch.ro 0 (Sl a20 x15.2.1 c21) x15.2.1, Ch.ro 0 (Sl Au As Av) As, Ch.ro 0 (Sl Cc Ca Cd) Ca, Ch.own n0 n0 (Sl a6 s4.1 c7) s4.1] ∧ Md (cov []) σ5 σm, fun _ => fun σm => Hp S0 σ0 σm [Ch.ro 0 (Sl a20 x15.2.1 c21) x15.2.1, Ch.ro 0 (Sl Au As Av) As, Ch.ro 0 (Sl Cc Ca Cd) Ca, Ch.own n0 n0 (Sl a6 s4.1 c7) s4.1] ∧ Md (cov []) σ5 σm] [fun _ => (Sl a6 s4.1 c7), fun _ => (Sl Au As Av), fun _ => (I s4.2), fun _ => (pt b12 o13), fun _ => (pt b12 (o13 + 0)), fun _ => (I x9.1), fun _ => (I Bz), fun _ => (Sl Au As Av), fun _ => (I s4.2), fun _ => (pt b18 o19), fun _ => (pt b18 (o19 + 1)), fun _ => (Sl a20 x15.2.1 c21), fun _ => (Sl Cc Ca Cd), fun _ => (I r25), fun _ => (.agg #[(I x9.1), (I r25)]), fun _ => (I Cb)] () (by kernel_rfl) (by kernel_rfl) ?_ ?_ ?_
   ·intro σm m0
    exact ⟨H.grow (m0.mono fun _ h => h.elim), m0⟩
   ·refine ac rfl (by
      intro k _nm ρ σm hJ hoff hdep
      have e9 := look_off (N := 36) (hoff 9 rfl) rfl
      exact dp_v (v := (Sl a6 s4.1 c7)) wn (rv_move e9) rfl hJ) ?_
    refine ac rfl (by
      intro k _nm ρ σm hJ hoff hdep
      have e0 := look_off (N := 36) (hoff 0 rfl) rfl
      exact dp_v (v := (Sl Au As Av)) wn (rv_move e0) rfl hJ) ?_
    refine ac rfl (by
      intro k _nm ρ σm hJ hoff hdep
      have e10 := look_off (N := 36) (hoff 10 rfl) rfl
      exact dp_v (v := (I s4.2)) wn (rv_move e10) rfl hJ) ?_
    refine ac rfl (by
      intro k _nm ρ σm hJ hoff hdep
      have e19 := hdep 1 rfl rfl 19 rfl
      have e20 := hdep 2 rfl rfl 20 rfl
      exact dp_v (v := (pt b12 o13)) wn (rv_ix Tryz.underlying24 ti41 e19 e20 hi11) rfl hJ) ?_
    refine ac rfl (by
      intro k _nm ρ σm hJ hoff hdep
      have e21 := hdep 3 rfl rfl 21 rfl
      exact dp_v (v := (pt b12 (o13 + 0))) wn (rv_fieldAddr (off := 0) (ft := 3) Tryz.underlying41 rfl ti3 rfl e21) rfl hJ) ?_
    refine all_cons (by
      refine ⟨?_, ?_⟩
      ·intro _nm ρ σm hJ hoff hdep
       have e22 := hdep 4 rfl rfl 22 rfl
       obtain ⟨H, m⟩ := id hJ
       replace hc14 := (Hs.ro 1 rfl).hmd hx10 hi11 (k := 0) (by decide) hc14 m
       exact dp_v (v := (I x9.1)) wn (rv_load1 Tryz.underlying3 rfl e22 hc14) rfl hJ
      refine ⟨?_, ?_⟩
      ·intro _nm ρ σm hJ hoff hdep
       have e22 := hdep 4 rfl rfl 22 rfl
       obtain ⟨H, m⟩ := id hJ
       replace hc14 := (Hs.ro 1 rfl).hmd hx10 hi11 (k := 0) (by decide) hc14 m
       exact dp_v (v := (I x9.1)) wn (rv_load1 Tryz.underlying3 rfl e22 hc14) rfl hJ
      trivial) ?_
    refine ac rfl (by
      intro k _nm ρ σm hJ hoff hdep
      have e1 := look_off (N := 36) (hoff 1 rfl) rfl
      exact dp_v (v := (I Bz)) wn (rv_move e1) rfl hJ) ?_
    refine ac rfl (by
      intro k _nm ρ σm hJ hoff hdep
      have e0 := look_off (N := 36) (hoff 0 rfl) rfl
      exact dp_v (v := (Sl Au As Av)) wn (rv_move e0) rfl hJ) ?_
    refine ac rfl (by
      intro k _nm ρ σm hJ hoff hdep
      have e10 := look_off (N := 36) (hoff 10 rfl) rfl
      exact dp_v (v := (I s4.2)) wn (rv_move e10) rfl hJ) ?_
    refine ac rfl (by
      intro k _nm ρ σm hJ hoff hdep
      have e25 := hdep 7 rfl rfl 25 rfl
      have e26 := hdep 8 rfl rfl 26 rfl
      exact dp_v (v := (pt b18 o19)) wn (rv_ix Tryz.underlying24 ti41 e25 e26 hi17) rfl hJ) ?_
    refine ac rfl (by
      intro k _nm ρ σm hJ hoff hdep
      have e27 := hdep 9 rfl rfl 27 rfl
      exact dp_v (v := (pt b18 (o19 + 1))) wn (rv_fieldAddr (off := 1) (ft := 25) Tryz.underlying41 rfl ti25 rfl e27) rfl hJ) ?_
    refine all_cons (by
      refine ⟨?_, ?_⟩
      ·intro _nm ρ σm hJ hoff hdep
       have e28 := hdep 10 rfl rfl 28 rfl
       obtain ⟨H, m⟩ := id hJ
       replace hc24 := (Hs.ro 1 rfl).hmd hx16 hi17 (k := 1) (by decide) hc24 m
       exact dp_v (v := (Sl a20 x15.2.1 c21)) wn (rv_load1 Tryz.underlying25 rfl e28 hc24) rfl hJ
      trivial) ?_
    refine ac rfl (by
      intro k _nm ρ σm hJ hoff hdep
      have e2 := look_off (N := 36) (hoff 2 rfl) rfl
      exact dp_v (v := (Sl Cc Ca Cd)) wn (rv_move e2) rfl hJ) ?_
    refine all_cons (by
      refine ⟨?_, ?_⟩
      ·intro _nm ρ σm hJ hoff hdep
       have e24 : look 36 ρ 24 = (I Bz) := hdep 6 rfl rfl 24 rfl
       have e29 : look 36 ρ 29 = (Sl a20 x15.2.1 c21) := hdep 11 rfl rfl 29 rfl
       have e30 : look 36 ρ 30 = (Sl Cc Ca Cd) := hdep 12 rfl rfl 30 rfl
       obtain ⟨H, m⟩ := id hJ
       refine dp_cx wn (cx_call hc27 (ent_f hc27.fn (by show [look 36 ρ 24, look 36 ρ 29, look 36 ρ 30] = _; rw [e24, e29, e30])) hn0 (H.sel' [0, 2, 0, 1, 2, 3] rfl rfl : Hp S0 σ0 _ ([_, _] ++ _))) ?_
       rintro _ σq ⟨_, ⟨rfl, rfl⟩, H2, m2⟩
       exact ⟨_, (), rfl, rfl, ⟨H2.sel' [0, 1, 2, 3] rfl rfl, m.comp0 (m2.mono (fun i h => by simp [cov, Ch.ro] at h))⟩, stab [0, 1, 2, 3, 4, 5, 6, 7, 8, 9, 10, 11, 12, 15] (by kernel_rfl) ⟨rfl, rfl, rfl, rfl, rfl, rfl, rfl, rfl, rfl, rfl, rfl, rfl, rfl, rfl, trivial⟩⟩
      trivial) ?_
    refine ac rfl (by
      intro k _nm ρ σm hJ hoff hdep
      have e23 : look 36 ρ 23 = (I x9.1) := hdep 5 rfl rfl 23 rfl
      have e31 : look 36 ρ 31 = (I r25) := hdep 13 rfl rfl 31 rfl
      exact dp_v (v := (.agg #[(I x9.1), (I r25)])) wn (rv_build (ps := [(0, (I x9.1)), (1, (I r25))]) Tryz.underlying35 ti35 (bp35 Tryz.underlying35) (by show [(0, look 36 ρ 23), (1, look 36 ρ 31)] = _; rw [e23, e31]) (by kernel_rfl)) rfl hJ) ?_
    refine ac rfl (by
      intro k _nm ρ σm hJ hoff hdep
      have e3 := look_off (N := 36) (hoff 3 rfl) rfl
      exact dp_v (v := (I Cb)) wn (rv_move e3) rfl hJ) ?_
    exact all_nil
   ·intro _nm ρ σ28 hJ hoff hrel
    have e0 := look_off (N := 36) (hoff 0 rfl) rfl
    have e1 := look_off (N := 36) (hoff 1 rfl) rfl
    have e2 := look_off (N := 36) (hoff 2 rfl) rfl
    have e3 := look_off (N := 36) (hoff 3 rfl) rfl
    have e10 := look_off (N := 36) (hoff 10 rfl) rfl
    have e18 := hrel 0 rfl 18 rfl
    have e32 := hrel 14 rfl 32 rfl
    have e33 := hrel 15 rfl 33 rfl
    obtain ⟨H, -⟩ := (show Hp S0 σ0 σ28 [Ch.ro 0 (Sl a20 x15.2.1 c21) x15.2.1, Ch.ro 0 (Sl Au As Av) As, Ch.ro 0 (Sl Cc Ca Cd) Ca, Ch.own n0 n0 (Sl a6 s4.1 c7) s4.1] ∧ Md (cov []) σ5 σ28 from hJ)
    clear hJ Hs
    rw [fr_lookL (L := [(0, (Sl Au As Av)), (1, (I Bz)), (2, (Sl Cc Ca Cd)), (3, (I Cb)), (10, (I s4.2)), (18, (Sl a6 s4.1 c7)), (32, (.agg #[(I x9.1), (I r25)])), (33, (I Cb))]) ⟨e0, e1, e2, e3, e10, e18, e32, e33, trivial⟩]
    clear hoff hrel e0 e1 e2 e3 e10 e18 e32 e33
    obtain ⟨σ29, hw30, H, -⟩ := H.pub 3 rfl (Nat.le_refl _)
    rw [← hw30]; clear hw30
    replace H := H.roLow 0 0 rfl (Nat.zero_le _)
    revert h; refine br fun r31 hx32 h => ?_
    have hc33 := c_spec_addHit (Au := a6) (Av := c7) hx32
    refine st_call (cx_call hc33 (ent_f hc33.fn rfl) hn0 (H.sel' [0, 0, 1, 2, 3, 4] rfl rfl : Hp S0 σ0 _ ([_] ++ _))) wn ?_
    rintro _ σ36 ⟨_, ⟨a34, c35, rfl, rfl⟩, H, -⟩
    replace H : Hp _ _ _ [_, _, _, _, _, _] := H
    refine sa (Sl a34 r31 c35) rfl (w_end (q_blk (q_then (rg (sm (I s4.2) rfl (st (v := (I (w64 (s4.2 + 1)))) (rv_add (a := s4.2) (b := 1) rfl rfl) (sa (I (w64 (s4.2 + 1))) rfl (w_end (q_then ?_)))))))))
    obtain rfl := sj h
    exact ⟨_, rfl, _, σ36, a34, c35, fr_join ⟨rfl, rfl, rfl, rfl, rfl, rfl, trivial⟩, rfl, H.sel' [4, 5, 0] rfl rfl⟩
  ·replace h := bif_f hb8 h
   refine c_exit (q_then_x (q_then_x (q_blk_hit ?_)))
   obtain rfl := sj h
   obtain rfl := hres _ rfl
   exact ⟨rfl, _, σ5, a6, c7, fr_join ⟨rfl, trivial⟩, rfl, H.sel' [2] rfl rfl⟩
 ·clear hj
  have h := h'
  clear h' H
  rintro e a w ⟨rfl, ρ, σ37, a38, c39, rfl, rfl, H⟩
  refine q_then (c_seq (rg (sm (Sl a38 o3 c39) rfl (sa (Sl a38 o3 c39) rfl (w_end (q_then (c_ret ?_)))))))
  obtain rfl := sj h
  exact fin_ret (v := (Sl a38 o3 c39)) (results_ok Tryz.results31 (res_tmp (v := (Sl a38 o3 c39)) rfl res_nil) rfl) ⟨a38, c39, rfl, rfl⟩ (H.sel' [0] rfl rfl)

theorem c_spec_ProbeNearest {Bn : List (List Int)} {Ap : List (Int × (List Int) × Int)} {Ca : List Int} {Kd : Int} {Ke : Int} {Bq : Option Addr} {Br : Nat} {Aq : Option Addr} {Ar : Nat} {Cc : Option Addr} {Cd : Nat} {r : (List (Int × Int))} (h : M.spec_ProbeNearest Bn Ap Ca Kd Ke = some r) :
    Cal2 Tryz.prog 9 [(Sl Bq Bn Br), (Sl Aq Ap Ar), (Sl Cc Ca Cd), (I Kd), (I Ke)] [Ch.ro 0 (Sl Bq Bn Br) Bn, Ch.ro 0 (Sl Aq Ap Ar) Ap, Ch.ro 0 (Sl Cc Ca Cd) Ca] (fun n0 v L => ∃ (az1 : Option Addr), ∃ (cz2 : Nat), v = (Sl az1 r cz2) ∧ L = [Ch.own n0 n0 (Sl az1 r cz2) r]) := by
 refine cal2 (n := 64) Tryz.func9 rfl rfl rfl rfl ?_
 intro S0 σ0 n0 hn0 H
 unfold M.spec_ProbeNearest at h
 refine c_seq (rg (sa (.slice none 0 0) rfl (w_end (q_then (c_seq (c_seq ?_))))))
 obtain ⟨o1, hj, h'⟩ := bind_some h
 clear h
 refine c_cut (fun e a w => e = .normal ∧ ∃ (ρ : Nat → Value) (σ : St), a = fr 64 (updL ρ [(0, (Sl Bq Bn Br)), (1, (Sl Aq Ap Ar)), (2, (Sl Cc Ca Cd)), (3, (I Kd)), (4, (I Ke)), (32, (B o1))]) ∧ w = σ.w ∧ Hp S0 σ0 σ [Ch.ro 0 (Sl Bq Bn Br) Bn, Ch.ro 0 (Sl Aq Ap Ar) Ap, Ch.ro 0 (Sl Cc Ca Cd) Ca]) ?_ ?_
 ·clear h'
  rename _ = some o1 => h
  refine rg (sm (Sl Bq Bn Br) rfl ?_)
  revert h; refine br fun r2 hx3 h => ?_
  have hc4 := c_spec_validCentres (Au := Bq) (Av := Br) hx3
  refine st_call (cx_call hc4 (ent_f hc4.fn rfl) hn0 (H.sel' [0, 0, 1, 2] rfl rfl : Hp S0 σ0 _ ([_] ++ _))) wn ?_
  rintro _ σ5 ⟨_, ⟨rfl, rfl⟩, H, -⟩
  replace H : Hp _ _ _ [_, _, _] := H
  refine st (v := (B (!r2))) (rv_not rfl) (sm (B (!r2)) rfl ?_)
  rcases Bool.eq_false_or_eq_true (!r2) with hb6 | hb6
  ·replace h := bif_t hb6 h
   refine st_skip (congrArg some hb6) (st_skip (congrArg some hb6) (st_skip (congrArg some hb6) (st_skip (congrArg some hb6) (st (v := (B true)) (rv_pick_t (congrArg B hb6) rfl) (sm (B true) rfl (st_skip rfl (st_skip rfl (st_skip rfl (st (v := (B true)) (rv_pick_t rfl rfl) (sm (B true) rfl (st_skip rfl ?_)))))))))))
   refine st_skip rfl (st_skip rfl (st (v := (B true)) (rv_pick_t rfl rfl) (w_end ?_)))
   obtain rfl := sj h
   exact ⟨rfl, _, σ5, fr_join ⟨rfl, rfl, rfl, rfl, rfl, rfl, trivial⟩, rfl, H.sel' [0, 1, 2] rfl rfl⟩
  ·replace h := bif_f hb6 h
   refine st_g (v := (Sl Aq Ap Ar)) (congrArg some hb6) (rv_move rfl) (st_g (v := (Sl Cc Ca Cd)) (congrArg some hb6) (rv_move rfl) ?_)
   revert h; refine br fun r7 hx8 h => ?_
   have hc9 := c_spec_validQuery (Au := Aq) (Av := Ar) (Cc := Cc) (Cd := Cd) hx8
   refine st_call (cx_call hc9 (ent_f hc9.fn rfl) hn0 (H.sel' [1, 2, 0, 1, 2] rfl rfl : Hp S0 σ0 _ ([_, _] ++ _))) (wanted_yes rfl (by exact (congrArg some hb6))) ?_
   rintro _ σ10 ⟨_, ⟨rfl, rfl⟩, H, -⟩
   replace H : Hp _ _ _ [_, _, _] := H
   refine st_g (v := (B (!r7))) (congrArg some hb6) (rv_not rfl) (st (v := (B (!r7))) (rv_pick_f (congrArg B hb6) rfl) (sm (B (!r7)) rfl ?_))
   rcases Bool.eq_false_or_eq_true (!r7) with hb11 | hb11
   ·replace h := bif_t hb11 h
    refine st_skip (congrArg some hb11) (st_skip (congrArg some hb11) (st_skip (congrArg some hb11) (st (v := (B true)) (rv_pick_t (congrArg B hb11) rfl) (sm (B true) rfl (st_skip rfl (st_skip rfl (st_skip rfl (st (v := (B true)) (rv_pick_t rfl rfl) (w_end ?_)))))))))
    obtain rfl := sj h
    exact ⟨rfl, _, σ10, fr_join ⟨rfl, rfl, rfl, rfl, rfl, rfl, trivial⟩, rfl, H.sel' [0, 1, 2] rfl rfl⟩
   ·replace h := bif_f hb11 h
    refine st_g (v := (I Kd)) (congrArg some hb11) (rv_move rfl) ?_
    revert h; refine br fun r12 hx13 h => ?_
    have hc14 := c_spec_inRange hx13
    refine st_call (cx_call hc14 (ent_f hc14.fn rfl) hn0 (H.sel' [0, 1, 2] rfl rfl : Hp S0 σ0 _ ([] ++ _))) (wanted_yes rfl (by exact (congrArg some hb11))) ?_
    rintro _ σ15 ⟨_, ⟨rfl, rfl⟩, H, -⟩
    replace H : Hp _ _ _ [_, _, _] := H
    refine st_g (v := (B (!r12))) (congrArg some hb11) (rv_not rfl) (st (v := (B (!r12))) (rv_pick_f (congrArg B hb11) rfl) (sm (B (!r12)) rfl ?_))
    rcases Bool.eq_false_or_eq_true (!r12) with hb16 | hb16
    ·replace h := bif_t hb16 h
     refine st_skip (congrArg some hb16) (st_skip (congrArg some hb16) (st_skip (congrArg some hb16) (st (v := (B true)) (rv_pick_t (congrArg B hb16) rfl) (w_end ?_))))
     obtain rfl := sj h
     exact ⟨rfl, _, σ15, fr_join ⟨rfl, rfl, rfl, rfl, rfl, rfl, trivial⟩, rfl, H.sel' [0, 1, 2] rfl rfl⟩
    ·replace h := bif_f hb16 h
     refine st_g (v := (I Ke)) (congrArg some hb16) (rv_move rfl) ?_
     revert h; refine br fun r17 hx18 h => ?_
     have hc19 := c_spec_inRange hx18
     refine st_call (cx_call hc19 (ent_f hc19.fn rfl) hn0 (H.sel' [0, 1, 2] rfl rfl : Hp S0 σ0 _ ([] ++ _))) (wanted_yes rfl (by exact (congrArg some hb16))) ?_
     rintro _ σ20 ⟨_, ⟨rfl, rfl⟩, H, -⟩
     replace H : Hp _ _ _ [_, _, _] := H
     refine st_g (v := (B (!r17))) (congrArg some hb16) (rv_not rfl) (st (v := (B (!r17))) (rv_pick_f (congrArg B hb16) rfl) (w_end ?_))
     obtain rfl := sj h
     exact ⟨rfl, _, σ20, fr_join ⟨rfl, rfl, rfl, rfl, rfl, rfl, trivial⟩, rfl, H.sel' [0, 1, 2] rfl rfl⟩
 ·clear hj
  have h := h'
  clear h' H
  rintro e a w ⟨rfl, ρ, σ21, rfl, rfl, H⟩
  refine q_then ?_
  refine cd_cond o1 rfl (fun hb22 => ?_) (fun hb22 => ?_)
  ·replace h := bif_t hb22 h
   refine c_seq (rg (sa (.slice none 0 0) rfl (w_end (q_then (c_ret (q_then_r ?_))))))
   replace H := H.nilOwn (Int × Int) n0 n0
   obtain rfl := sj h
   exact fin_ret (v := (.slice none 0 0)) (results_ok Tryz.results9 (res_tmp (v := (.slice none 0 0)) rfl res_nil) rfl) ⟨none, 0, rfl, rfl⟩ (H.sel' [0] rfl rfl)
  ·replace h := bif_f hb22 h
   refine c_skip (q_then (c_seq (rg (sm (Sl Bq Bn Br) rfl (sm (Sl Cc Ca Cd) rfl (sm (I Kd) rfl ?_))))))
   revert h; refine br fun r23 hx24 h => ?_
   have hc25 := c_spec_probes (Bq := Bq) (Br := Br) (Bs := Cc) (Bt := Cd) hx24
   refine st_call (cx_call hc25 (ent_f hc25.fn rfl) hn0 (H.sel' [0, 2, 0, 1, 2] rfl rfl : Hp S0 σ0 _ ([_, _] ++ _))) wn ?_
   rintro _ σ28 ⟨_, ⟨a26, c27, rfl, rfl⟩, H, -⟩
   replace H : Hp _ _ _ [_, _, _, _] := H
   refine sa (Sl a26 r23 c27) rfl (w_end (q_then (c_seq (rg ?_))))
   refine st_ex (ex_buildSlice (el := n0) (xs := ([] : List (Int × (List Int) × Int))) (ps := []) (cs := []) H hn0 Tryz.underlying24 ti41 rfl rfl (by kernel_rfl) (.nil) rfl) wn ?_
   rintro _ σ30 ⟨b29, rfl, H, -⟩
   refine sa (Sl (some ⟨b29, 0, none⟩) ([] : List (Int × (List Int) × Int)) 0) rfl (w_end (q_then (c_seq (c_seq (rg (sa (I 0) rfl (w_end (q_then ?_))))))))
   obtain ⟨o31, hj, h'⟩ := bind_some h
   clear h
   refine c_cut (fun e a w => e = .normal ∧ ∃ (ρ : Nat → Value) (σ : St) (aj1 : Option Addr) (cj2 : Nat), a = fr 64 (updL ρ [(2, (Sl Cc Ca Cd)), (4, (I Ke)), (12, (Sl aj1 o31 cj2))]) ∧ w = σ.w ∧ Hp S0 σ0 σ [Ch.ro 0 (Sl Cc Ca Cd) Ca, Ch.own n0 0 (Sl aj1 o31 cj2) o31]) ?_ ?_
   ·clear h'
    rename _ = some o31 => h
    refine c_blk ?_
    replace H := H.ownLow 0 n0 0 rfl (Nat.le_refl _) (Nat.zero_le _)
    refine wp_loopM _ h (fun s32 a w => ∃ (ρ : Nat → Value) (σ : St) (aj1 : Option Addr) (cj2 : Nat), a = fr 64 (updL ρ [(0, (Sl Bq Bn Br)), (1, (Sl Aq Ap Ar)), (2, (Sl Cc Ca Cd)), (4, (I Ke)), (11, (Sl a26 r23 c27)), (12, (Sl aj1 s32.1 cj2)), (13, (I s32.2))]) ∧ w = σ.w ∧ Hp S0 σ0 σ [Ch.ro 0 (Sl Bq Bn Br) Bn, Ch.ro 0 (Sl Aq Ap Ar) Ap, Ch.ro 0 (Sl Cc Ca Cd) Ca, Ch.own n0 n0 (Sl a26 r23 c27) r23, Ch.own n0 0 (Sl aj1 s32.1 cj2) s32.1]) ⟨_, σ30, (some ⟨b29, 0, none⟩), 0, fr_join ⟨rfl, rfl, rfl, rfl, rfl, rfl, rfl, trivial⟩, rfl, H.sel' [2, 3, 4, 1, 0] rfl rfl⟩ ?_
    clear h H
    rintro s32 a w o ⟨ρ, σ33, a34, c35, rfl, rfl, H⟩ h hres
    refine c_seq (c_seq (rg (sm (I s32.2) rfl (sm (Sl Aq Ap Ar) rfl (st (v := (I (Ap.length : Int))) (rv_len Tryz.underlying24 rfl) (st (v := (B (decide (s32.2 < (Ap.length : Int))))) (rv_lss (a := s32.2) (b := (Ap.length : Int)) rfl rfl) (w_end (q_then ?_))))))))
    refine cd_cond (decide (s32.2 < (Ap.length : Int))) rfl (fun hb36 => ?_) (fun hb36 => ?_)
    ·replace h := bif_t hb36 h
     refine c_skip (q_then (c_seq ?_))
     obtain ⟨o37, hj, h'⟩ := bind_some h
     clear h
     refine c_cut (fun e a w => e = .normal ∧ ∃ (ρ : Nat → Value) (σ : St) (aj1 : Option Addr) (cj2 : Nat), a = fr 64 (updL ρ [(0, (Sl Bq Bn Br)), (1, (Sl Aq Ap Ar)), (2, (Sl Cc Ca Cd)), (4, (I Ke)), (11, (Sl a26 r23 c27)), (12, (Sl aj1 o37 cj2)), (13, (I s32.2))]) ∧ w = σ.w ∧ Hp S0 σ0 σ [Ch.ro 0 (Sl Bq Bn Br) Bn, Ch.ro 0 (Sl Aq Ap Ar) Ap, Ch.ro 0 (Sl Cc Ca Cd) Ca, Ch.own n0 n0 (Sl a26 r23 c27) r23, Ch.own n0 0 (Sl aj1 o37 cj2) o37]) ?_ ?_
     ·clear h'
      rename _ = some o37 => h
      refine c_blk (c_seq (rg (sm (Sl a26 r23 c27) rfl (sm (Sl Bq Bn Br) rfl (sm (Sl Aq Ap Ar) rfl (sm (I s32.2) rfl ?_))))))
      revert h; refine br fun x38 hx39 h => ?_
      obtain ⟨b41, o42, hi40, -⟩ := (H.ro 1 rfl).ix hx39
      refine st (v := (pt b41 o42)) (rv_ix Tryz.underlying24 ti41 rfl rfl hi40) (st (v := (pt b41 (o42 + 1))) (rv_fieldAddr (off := 1) (ft := 25) Tryz.underlying41 rfl ti25 rfl rfl) ?_)
      obtain ⟨v46, hc47, hR45⟩ := ((H.ro 1 rfl).at hx39 hi40).snd.fst.slice
      obtain ⟨a43, c44, rfl⟩ := hR45.isSl
      replace H := H.add (d := Ch.ro 0 (Sl a43 x38.2.1 c44) x38.2.1) hR45 (fun _ h => h)
      clear hR45
      refine st (v := (Sl a43 x38.2.1 c44)) (rv_load1 Tryz.underlying25 rfl rfl hc47) ?_
      revert h; refine br fun r48 hx49 h => ?_
      have hc50 := c_spec_centreOf (Bq := Bq) (Br := Br) (Bs := a43) (Bt := c44) hx49
      refine st_call (cx_call hc50 (ent_f hc50.fn rfl) hn0 (H.sel' [1, 0, 0, 1, 2, 3, 4, 5] rfl rfl : Hp S0 σ0 _ ([_, _] ++ _))) wn ?_
      rintro _ σ51 ⟨_, ⟨rfl, rfl⟩, H, -⟩
      replace H : Hp _ _ _ [_, _, _, _, _, _] := H
      revert h; refine br fun r52 hx53 h => ?_
      have hc54 := c_spec_isIn (Au := a26) (Av := c27) hx53
      have hle := Nat.le_trans hn0 H.size
      refine st_call (cx_lend (Loan.lend Loan.nil) hc54 (ent_f hc54.fn rfl) (show Hp S0 σ0 _ ([Ch.own n0 n0 (Sl a26 r23 c27) r23] ++ ([] ++ [Ch.ro 0 (Sl a43 x38.2.1 c44) x38.2.1, Ch.ro 0 (Sl Bq Bn Br) Bn, Ch.ro 0 (Sl Aq Ap Ar) Ap, Ch.ro 0 (Sl Cc Ca Cd) Ca, Ch.own n0 0 (Sl a34 s32.1 c35) s32.1])) from (H.sel' [4, 0, 1, 2, 3, 5] rfl rfl)) (by rintro _ _ _ ⟨rfl, rfl⟩; exact trivial)) wn ?_
      rintro _ σ55 ⟨_, ⟨rfl, rfl⟩, H, -, -⟩
      replace H : Hp _ _ _ [_, _, _, _, _, _] := H
      clear hle
      replace H : Hp _ _ _ [_, _, _, _, _, _] := H
      refine w_end (q_then ?_)
      refine cd_cond r52 rfl (fun hb56 => ?_) (fun hb56 => ?_)
      ·replace h := bif_t hb56 h
       refine rg (sm (Sl a34 s32.1 c35) rfl (sm (Sl Aq Ap Ar) rfl (sm (I s32.2) rfl ?_)))
       revert h; refine br fun x57 hx58 h => ?_
       obtain ⟨b60, o61, hi59, -⟩ := (H.ro 3 rfl).ix hx58
       refine st (v := (pt b60 o61)) (rv_ix Tryz.underlying24 ti41 rfl rfl hi59) ?_
       obtain ⟨_, ⟨_, _, rfl, rfl, ⟨_, _, rfl, ⟨_, rfl, hR66⟩, rfl⟩⟩, hl62, hc63⟩ := ((H.ro 3 rfl).at hx58 hi59).cells
       obtain ⟨a64, c65, rfl⟩ := hR66.isSl
       replace H := H.add (d := Ch.ro 0 (Sl a64 x57.2.1 c65) x57.2.1) hR66 (fun _ h => h)
       clear hR66
       refine st (v := (.agg #[(I x57.1), (Sl a64 x57.2.1 c65), (I x57.2.2)])) (rv_load Tryz.underlying41 rfl ti41 rfl hl62 hc63) ?_
       refine st_ex (ex_buildSlice (el := 0) (xs := ([(x57.1, x57.2.1, x57.2.2)] : List (Int × (List Int) × Int))) (ps := [(0, (.agg #[(I x57.1), (Sl a64 x57.2.1 c65), (I x57.2.2)]))]) (cs := [(I x57.1), (Sl a64 x57.2.1 c65), (I x57.2.2)]) H hn0 Tryz.underlying24 ti41 rfl rfl (by kernel_rfl) (.cons (c := [(I x57.1), (Sl a64 x57.2.1 c65), (I x57.2.2)]) ⟨[(I x57.1)], [(Sl a64 x57.2.1 c65), (I x57.2.2)], rfl, rfl, ⟨[(Sl a64 x57.2.1 c65)], [(I x57.2.2)], rfl, ⟨_, rfl, (H.ro 0 rfl)⟩, rfl⟩⟩ (.nil)) rfl) wn ?_
       rintro _ σ68 ⟨b67, rfl, H, -⟩
       replace H : Hp S0 σ0 σ68 [Ch.own n0 0 (Sl (some ⟨b67, 0, none⟩) ([(x57.1, x57.2.1, x57.2.2)] : List (Int × (List Int) × Int)) 1) ([(x57.1, x57.2.1, x57.2.2)] : List (Int × (List Int) × Int)), Ch.own n0 n0 (Sl a26 r23 c27) r23, Ch.ro 0 (Sl Bq Bn Br) Bn, Ch.ro 0 (Sl Aq Ap Ar) Ap, Ch.ro 0 (Sl Cc Ca Cd) Ca, Ch.own n0 0 (Sl a34 s32.1 c35) s32.1] := H.sel' [0, 2, 4, 5, 6, 7] rfl rfl
       revert h; refine br fun xs69 hx70 h => ?_
       refine st_ex (ex_append H (i := 5) rfl Tryz.underlying24 Tryz.underlying24 ti41 rfl rfl (by decide) (H.own 0 rfl).rd hx70 hn0 rfl rfl) wn ?_
       rintro _ σ73 ⟨a71, c72, rfl, H, -⟩
       refine sa (Sl a71 xs69 c72) rfl (w_end (q_blk ?_))
       obtain rfl := sj h
       exact ⟨rfl, _, σ73, a71, c72, fr_join ⟨rfl, rfl, rfl, rfl, rfl, rfl, rfl, trivial⟩, rfl, H.sel' [3, 4, 5, 2, 0] rfl rfl⟩
      ·replace h := bif_f hb56 h
       refine c_skip (q_blk ?_)
       obtain rfl := sj h
       exact ⟨rfl, _, σ55, a34, c35, fr_join ⟨rfl, rfl, rfl, rfl, rfl, rfl, rfl, trivial⟩, rfl, H.sel' [2, 3, 4, 0, 5] rfl rfl⟩
     ·clear hj
      have h := h'
      clear h' H
      rintro e a w ⟨rfl, ρ, σ74, a75, c76, rfl, rfl, H⟩
      refine q_then (rg (sm (I s32.2) rfl (st (v := (I (w64 (s32.2 + 1)))) (rv_add (a := s32.2) (b := 1) rfl rfl) (sa (I (w64 (s32.2 + 1))) rfl (w_end (q_then ?_))))))
      obtain rfl := sj h
      exact ⟨_, rfl, _, σ74, a75, c76, fr_join ⟨rfl, rfl, rfl, rfl, rfl, rfl, rfl, trivial⟩, rfl, H.sel' [0, 1, 2, 3, 4] rfl rfl⟩
    ·replace h := bif_f hb36 h
     refine c_exit (q_then_x (q_then_x (q_blk_hit ?_)))
     obtain rfl := sj h
     obtain rfl := hres _ rfl
     exact ⟨rfl, _, σ33, a34, c35, fr_join ⟨rfl, rfl, rfl, trivial⟩, rfl, H.sel' [2, 4] rfl rfl⟩
   ·clear hj
    have h := h'
    clear h' H
    rintro e a w ⟨rfl, ρ, σ77, a78, c79, rfl, rfl, H⟩
    refine q_then (c_seq (rg (sm (Sl a78 o31 c79) rfl (sm (Sl Cc Ca Cd) rfl (sm (I Ke) rfl ?_)))))
    obtain ⟨σ80, hw81, H, -⟩ := H.pub 1 rfl (Nat.zero_le _)
    rw [← hw81]; clear hw81
    revert h; refine br fun r82 hx83 h => ?_
    have hc84 := c_spec_nearest (Au := a78) (Av := c79) (Cc := Cc) (Cd := Cd) hx83
    refine st_call (cx_call hc84 (ent_f hc84.fn rfl) hn0 (H.sel' [0, 1, 0, 1] rfl rfl : Hp S0 σ0 _ ([_, _] ++ _))) wn ?_
    rintro _ σ87 ⟨_, ⟨a85, c86, rfl, rfl⟩, H, -⟩
    replace H : Hp _ _ _ [_, _, _] := H
    refine sa (Sl a85 r82 c86) rfl (w_end (q_then (c_ret ?_)))
    obtain rfl := sj h
    exact fin_ret (v := (Sl a85 r82 c86)) (results_ok Tryz.results9 (res_tmp (v := (Sl a85 r82 c86)) rfl res_nil) rfl) ⟨a85, c86, rfl, rfl⟩ (H.sel' [0] rfl rfl)

theorem c_impl_Nearest {As : List (Int × (List Int) × Int)} {Bz : Int} {Ca : List Int} {Cb : Int} {Au : Option Addr} {Av : Nat} {Cc : Option Addr} {Cd : Nat} {r : (List (Int × Int))} (h : M.impl_Nearest As Bz Ca Cb = some r) :
    Cal2 Tryz.prog 11 [(Sl Au As Av), (I Bz), (Sl Cc Ca Cd), (I Cb)] [Ch.ro 0 (Sl Au As Av) As, Ch.ro 0 (Sl Cc Ca Cd) Ca] (fun n0 v L => ∃ (az1 : Option Addr), ∃ (cz2 : Nat), v = (Sl az1 r cz2) ∧ L = [Ch.own 0 n0 (Sl az1 r cz2) r]) := by
 refine cal2 (n := 20) Tryz.func11 rfl rfl rfl rfl ?_
 intro S0 σ0 n0 hn0 H
 unfold M.impl_Nearest at h
 refine c_seq (rg (sa (.slice none 0 0) rfl (w_end (q_then (c_seq (c_seq (rg (sm (Sl Au As Av) rfl (sm (I Bz) rfl (sm (Sl Cc Ca Cd) rfl (sm (I Cb) rfl ?_)))))))))))
 revert h; refine br fun r1 hx2 h => ?_
 have hc3 := c_impl_validSearch (Au := Au) (Av := Av) (Cc := Cc) (Cd := Cd) hx2
 refine st_call (cx_call hc3 (ent_f hc3.fn rfl) hn0 (H.sel' [0, 1, 0, 1] rfl rfl : Hp S0 σ0 _ ([_, _] ++ _))) wn ?_
 rintro _ σ4 ⟨_, ⟨rfl, rfl⟩, H, -⟩
 replace H : Hp _ _ _ [_, _] := H
 refine st (v := (B (!r1))) (rv_not rfl) (w_end (q_then ?_))
 refine cd_cond (!r1) rfl (fun hb5 => ?_) (fun hb5 => ?_)
 ·replace h := bif_t hb5 h
  refine c_seq (rg (sa (.slice none 0 0) rfl (w_end (q_then (c_ret (q_then_r ?_))))))
  replace H := H.nilOwn (Int × Int) 0 n0
  obtain rfl := sj h
  exact fin_ret (v := (.slice none 0 0)) (results_ok Tryz.results11 (res_tmp (v := (.slice none 0 0)) rfl res_nil) rfl) ⟨none, 0, rfl, rfl⟩ (H.sel' [0] rfl rfl)
 ·replace h := bif_f hb5 h
  refine c_skip (q_then (c_seq (rg (sm (Sl Au As Av) rfl (sm (I Bz) rfl (sm (Sl Cc Ca Cd) rfl (sm (I Cb) rfl ?_)))))))
  revert h; refine br fun r6 hx7 h => ?_
  have hc8 := c_impl_nearestAmong (Au := Au) (Av := Av) (Cc := Cc) (Cd := Cd) hx7
  refine st_call (cx_call hc8 (ent_f hc8.fn rfl) hn0 (H.sel' [0, 1, 0, 1] rfl rfl : Hp S0 σ0 _ ([_, _] ++ _))) wn ?_
  rintro _ σ11 ⟨_, ⟨a9, c10, rfl, rfl⟩, H, -⟩
  replace H : Hp _ _ _ [_, _, _] := H
  refine sa (Sl a9 r6 c10) rfl (w_end (q_then (c_ret ?_)))
  obtain rfl := sj h
  exact fin_ret (v := (Sl a9 r6 c10)) (results_ok Tryz.results11 (res_tmp (v := (Sl a9 r6 c10)) rfl res_nil) rfl) ⟨a9, c10, rfl, rfl⟩ (H.sel' [0] rfl rfl)

theorem c_laws_FnProbeNearestAll {Aa : List UInt8} {Ac : Option Addr} {Ad : Nat} {r : Bool} (h : M.laws_FnProbeNearestAll Aa = some r) :
    Cal2 Tryz.prog 3 [(Sl Ac Aa Ad)] [Ch.ro 0 (Sl Ac Aa Ad) Aa] (fun n0 v L => v = (B r) ∧ L = []) := by
 refine cal2 (n := 58) Tryz.func3 rfl rfl rfl rfl ?_
 intro S0 σ0 n0 hn0 H
 unfold M.laws_FnProbeNearestAll at h
 refine c_seq (rg (sa (B false) rfl (w_end (q_then (c_seq (c_seq (rg (sm (Sl Ac Aa Ad) rfl (st (v := (I (Aa.length : Int))) (rv_len Tryz.underlying22 rfl) (st (v := (B (decide (1048576 < (Aa.length : Int))))) (rv_gtr (a := (Aa.length : Int)) (b := 1048576) rfl rfl) (w_end ?_)))))))))))
 refine q_then ?_
 refine cd_cond (decide (1048576 < (Aa.length : Int))) rfl (fun hb1 => ?_) (fun hb1 => ?_)
 ·replace h := bif_t hb1 h
  refine c_seq (rg (sa (B true) rfl (w_end (q_then (c_ret (q_then_r ?_))))))
  obtain rfl := sj h
  exact fin_ret (v := (B true)) (results_ok Tryz.results3 (res_tmp (v := (B true)) rfl res_nil) rfl) ⟨rfl, rfl⟩ (H.sel' [] rfl rfl)
 ·replace h := bif_f hb1 h
  refine c_skip (q_then (c_seq (rg (sm (Sl Ac Aa Ad) rfl ?_))))
  revert h; refine br fun r2 hx3 h => ?_
  have hc4 := c_spec_DrawProbeNearest (Ac := Ac) (Ad := Ad) hx3
  refine st_call (cx_call hc4 (ent_f hc4.fn rfl) hn0 (H.sel' [0, 0] rfl rfl : Hp S0 σ0 _ ([_] ++ _))) wn ?_
  rintro _ σ11 ⟨_, ⟨a5, c6, a7, c8, a9, c10, rfl, rfl⟩, H, -⟩
  replace H : Hp _ _ _ [_, _, _, _] := H
  refine sm (.tuple #[(Sl a5 r2.1 c6), (Sl a7 r2.2.1 c8), (Sl a9 r2.2.2.1 c10), (I r2.2.2.2.1), (I r2.2.2.2.2)]) rfl (st (v := (Sl a5 r2.1 c6)) (rv_extract rfl rfl) (st (v := (Sl a7 r2.2.1 c8)) (rv_extract rfl rfl) (st (v := (Sl a9 r2.2.2.1 c10)) (rv_extract rfl rfl) (st (v := (I r2.2.2.2.1)) (rv_extract rfl rfl) (st (v := (I r2.2.2.2.2)) (rv_extract rfl rfl) (sa (Sl a5 r2.1 c6) rfl (sa (Sl a7 r2.2.1 c8) rfl (sa (Sl a9 r2.2.2.1 c10) rfl (sa (I r2.2.2.2.1) rfl (sa (I r2.2.2.2.2) rfl (w_end ?_)))))))))))
  refine q_then (c_seq (rg (sm (Sl a5 r2.1 c6) rfl (sm (Sl a7 r2.2.1 c8) rfl (sm (Sl a9 r2.2.2.1 c10) rfl (sm (I r2.2.2.2.1) rfl (sm (I r2.2.2.2.2) rfl ?_)))))))
  revert h; refine br fun r12 hx13 h => ?_
  have hc14 := c_impl_ProbeNearest (Bq := a5) (Br := c6) (Aq := a7) (Ar := c8) (Cc := a9) (Cd := c10) hx13
  have hle := Nat.le_trans hn0 H.size
  refine st_call (cx_lend (Loan.lend (Loan.lend (Loan.lend Loan.nil))) hc14 (ent_f hc14.fn rfl) (show Hp S0 σ0 _ ([Ch.own n0 n0 (Sl a5 r2.1 c6) r2.1, Ch.own n0 n0 (Sl a7 r2.2.1 c8) r2.2.1, Ch.own n0 n0 (Sl a9 r2.2.2.1 c10) r2.2.2.1] ++ ([] ++ [Ch.ro 0 (Sl Ac Aa Ad) Aa])) from (H.sel' [0, 1, 2, 3] rfl rfl)) (by rintro _ _ _ ⟨_, _, rfl, rfl⟩; exact ⟨Ab.ownSc, trivial⟩)) wn ?_
  rintro _ σ17 ⟨_, ⟨a15, c16, rfl, rfl⟩, H, -, -⟩
  replace H : Hp _ _ _ [_, _, _, _, _] := H
  replace H := H.ownLow 0 0 n0 rfl (Nat.le_refl _) hle
  clear hle
  replace H : Hp _ _ _ [_, _, _, _, _] := H
  refine sa (Sl a15 r12 c16) rfl (w_end (q_then (c_seq (c_seq ?_))))
  obtain ⟨o18, hj, h'⟩ := bind_some h
  clear h
  refine c_cut (fun e a w => e = .normal ∧ ∃ (ρ : Nat → Value) (σ : St), a = fr 58 (updL ρ [(3, (Sl a5 r2.1 c6)), (4, (Sl a7 r2.2.1 c8)), (5, (Sl a9 r2.2.2.1 c10)), (6, (I r2.2.2.2.1)), (7, (I r2.2.2.2.2)), (8, (Sl a15 r12 c16)), (39, (B o18))]) ∧ w = σ.w ∧ Hp S0 σ0 σ [Ch.own n0 n0 (Sl a5 r2.1 c6) r2.1, Ch.own n0 n0 (Sl a7 r2.2.1 c8) r2.2.1, Ch.own n0 n0 (Sl a9 r2.2.2.1 c10) r2.2.2.1, Ch.own 0 n0 (Sl a15 r12 c16) r12]) ?_ ?_
  ·clear h'
   rename _ = some o18 => h
   refine rg (sm (Sl a15 r12 c16) rfl (sm (Sl a5 r2.1 c6) rfl (sm (Sl a7 r2.2.1 c8) rfl (sm (Sl a9 r2.2.2.1 c10) rfl (sm (I r2.2.2.2.1) rfl (sm (I r2.2.2.2.2) rfl ?_))))))
   revert h; refine br fun r19 hx20 h => ?_
   have hc21 := c_spec_ProbeNearest (Bq := a5) (Br := c6) (Aq := a7) (Ar := c8) (Cc := a9) (Cd := c10) hx20
   have hle := Nat.le_trans hn0 H.size
   refine st_call (cx_lend (Loan.lend (Loan.lend (Loan.lend Loan.nil))) hc21 (ent_f hc21.fn rfl) (show Hp S0 σ0 _ ([Ch.own n0 n0 (Sl a5 r2.1 c6) r2.1, Ch.own n0 n0 (Sl a7 r2.2.1 c8) r2.2.1, Ch.own n0 n0 (Sl a9 r2.2.2.1 c10) r2.2.2.1] ++ ([] ++ [Ch.own 0 n0 (Sl a15 r12 c16) r12, Ch.ro 0 (Sl Ac Aa Ad) Aa])) from (H.sel' [1, 2, 3, 0, 4] rfl rfl)) (by rintro _ _ _ ⟨_, _, rfl, rfl⟩; exact ⟨Ab.ownSc, trivial⟩)) wn ?_
   rintro _ σ24 ⟨_, ⟨a22, c23, rfl, rfl⟩, H, -, -⟩
   replace H : Hp _ _ _ [_, _, _, _, _, _] := H
   replace H := H.ownLow 0 n0 n0 rfl hle hle
   clear hle
   replace H : Hp _ _ _ [_, _, _, _, _, _] := H
   obtain ⟨σ25, hw26, H, -⟩ := H.pub 0 rfl (Nat.le_refl _)
   rw [← hw26]; clear hw26
   replace H := H.roLow 0 0 rfl (Nat.zero_le _)
   revert h; refine br fun r27 hx28 h => ?_
   have hc29 := c_laws_equalHits (Kf := a15) (Kg := c16) (Kh := a22) (Ki := c23) hx28
   have hle := Nat.le_trans hn0 H.size
   refine st_call (cx_lend (Loan.lend (Loan.same Loan.nil)) hc29 (ent_f hc29.fn rfl) (show Hp S0 σ0 _ ([Ch.own 0 n0 (Sl a15 r12 c16) r12] ++ ([Ch.ro 0 (Sl a22 r19 c23) r19] ++ [Ch.ro 0 (Sl a22 r19 c23) r19, Ch.ro n0 (Sl a22 r19 c23) r19, Ch.own n0 n0 (Sl a5 r2.1 c6) r2.1, Ch.own n0 n0 (Sl a7 r2.2.1 c8) r2.2.1, Ch.own n0 n0 (Sl a9 r2.2.2.1 c10) r2.2.2.1, Ch.ro 0 (Sl Ac Aa Ad) Aa])) from (H.sel' [5, 0, 0, 1, 2, 3, 4, 6] rfl rfl)) (by rintro _ _ _ ⟨rfl, rfl⟩; exact trivial)) wn ?_
   rintro _ σ30 ⟨_, ⟨rfl, rfl⟩, H, -, -⟩
   replace H : Hp _ _ _ [_, _, _, _, _, _, _] := H
   clear hle
   replace H : Hp _ _ _ [_, _, _, _, _, _, _] := H
   refine st (v := (B (!r27))) (rv_not rfl) (sm (B (!r27)) rfl ?_)
   rcases Bool.eq_false_or_eq_true (!r27) with hb31 | hb31
   ·replace h := bif_t hb31 h
    refine st_skip (congrArg some hb31) (st_skip (congrArg some hb31) (st_skip (congrArg some hb31) (st (v := (B true)) (rv_pick_t (congrArg B hb31) rfl) (w_end ?_))))
    obtain rfl := sj h
    exact ⟨rfl, _, σ30, fr_join ⟨rfl, rfl, rfl, rfl, rfl, rfl, rfl, trivial⟩, rfl, H.sel' [3, 4, 5, 0] rfl rfl⟩
   ·replace h := bif_f hb31 h
    refine st_g (v := (Sl a5 r2.1 c6)) (congrArg some hb31) (rv_move rfl) ?_
    revert h; refine br fun r32 hx33 h => ?_
    have hc34 := c_impl_ValidCentres (Au := a5) (Av := c6) hx33
    have hle := Nat.le_trans hn0 H.size
    refine st_call (cx_lend (Loan.lend Loan.nil) hc34 (ent_f hc34.fn rfl) (show Hp S0 σ0 _ ([Ch.own n0 n0 (Sl a5 r2.1 c6) r2.1] ++ ([] ++ [Ch.own 0 n0 (Sl a15 r12 c16) r12, Ch.ro 0 (Sl a22 r19 c23) r19, Ch.ro n0 (Sl a22 r19 c23) r19, Ch.own n0 n0 (Sl a7 r2.2.1 c8) r2.2.1, Ch.own n0 n0 (Sl a9 r2.2.2.1 c10) r2.2.2.1, Ch.ro 0 (Sl Ac Aa Ad) Aa])) from (H.sel' [3, 0, 1, 2, 4, 5, 6] rfl rfl)) (by rintro _ _ _ ⟨rfl, rfl⟩; exact trivial)) (wanted_yes rfl (by exact (congrArg some hb31))) ?_
    rintro _ σ35 ⟨_, ⟨rfl, rfl⟩, H, -, -⟩
    replace H : Hp _ _ _ [_, _, _, _, _, _, _] := H
    clear hle
    replace H : Hp _ _ _ [_, _, _, _, _, _, _] := H
    refine st_g (v := (B (!r32))) (congrArg some hb31) (rv_not rfl) (st (v := (B (!r32))) (rv_pick_f (congrArg B hb31) rfl) (w_end ?_))
    obtain rfl := sj h
    exact ⟨rfl, _, σ35, fr_join ⟨rfl, rfl, rfl, rfl, rfl, rfl, rfl, trivial⟩, rfl, H.sel' [0, 4, 5, 1] rfl rfl⟩
  ·clear hj
   have h := h'
   clear h' H
   rintro e a w ⟨rfl, ρ, σ36, rfl, rfl, H⟩
   refine q_then ?_
   refine cd_cond o18 rfl (fun hb37 => ?_) (fun hb37 => ?_)
   ·replace h := bif_t hb37 h
    refine c_seq (rg (sm (Sl a15 r12 c16) rfl (sm (Sl a5 r2.1 c6) rfl (sm (Sl a7 r2.2.1 c8) rfl (sm (Sl a9 r2.2.2.1 c10) rfl (sm (I r2.2.2.2.1) rfl (sm (I r2.2.2.2.2) rfl ?_)))))))
    obtain ⟨σ38, hw39, H, -⟩ := H.pub 0 rfl (Nat.le_refl _)
    rw [← hw39]; clear hw39
    obtain ⟨σ40, hw41, H, -⟩ := H.pub 1 rfl (Nat.le_refl _)
    rw [← hw41]; clear hw41
    obtain ⟨σ42, hw43, H, -⟩ := H.pub 2 rfl (Nat.le_refl _)
    rw [← hw43]; clear hw43
    replace H := H.roLow 2 0 rfl (Nat.zero_le _)
    replace H := H.roLow 2 0 rfl (Nat.zero_le _)
    replace H := H.roLow 2 0 rfl (Nat.zero_le _)
    revert h; refine br fun r44 hx45 h => ?_
    have hc46 := c_spec_ProbeNearest (Bq := a5) (Br := c6) (Aq := a7) (Ar := c8) (Cc := a9) (Cd := c10) hx45
    refine st_call (cx_call hc46 (ent_f hc46.fn rfl) hn0 (H.sel' [2, 1, 0, 0, 1, 2, 3, 4, 5, 6] rfl rfl : Hp S0 σ0 _ ([_, _, _] ++ _))) wn ?_
    rintro _ σ49 ⟨_, ⟨a47, c48, rfl, rfl⟩, H, -⟩
    replace H : Hp _ _ _ [_, _, _, _, _, _, _, _] := H
    replace H : Hp S0 σ0 σ49 [Ch.own n0 n0 (Sl a47 r44 c48) r44, Ch.own 0 n0 (Sl a15 r12 c16) r12] := H.sel' [0, 7] rfl rfl
    replace H := H.ownLow 1 0 0 rfl (Nat.le_refl _) (Nat.zero_le _)
    obtain ⟨σ50, hw51, H, -⟩ := H.pub 0 rfl (Nat.le_refl _)
    rw [← hw51]; clear hw51
    obtain ⟨σ52, hw53, H, -⟩ := H.pub 1 rfl (Nat.le_refl _)
    rw [← hw53]; clear hw53
    replace H := H.roLow 0 0 rfl (Nat.zero_le _)
    revert h; refine br fun r54 hx55 h => ?_
    have hc56 := c_laws_equalHits (Kf := a15) (Kg := c16) (Kh := a47) (Ki := c48) hx55
    refine st_call (cx_call hc56 (ent_f hc56.fn rfl) hn0 (H.sel' [2, 0, 0, 1, 2] rfl rfl : Hp S0 σ0 _ ([_, _] ++ _))) wn ?_
    rintro _ σ57 ⟨_, ⟨rfl, rfl⟩, H, -⟩
    replace H : Hp _ _ _ [_, _, _] := H
    refine sa (B r54) rfl (w_end (q_then (c_ret (q_then_r ?_))))
    obtain rfl := sj h
    exact fin_ret (v := (B r54)) (results_ok Tryz.results3 (res_tmp (v := (B r54)) rfl res_nil) rfl) ⟨rfl, rfl⟩ (H.sel' [] rfl rfl)
   ·replace h := bif_f hb37 h
    refine c_skip (q_then (c_seq (rg (sm (Sl a5 r2.1 c6) rfl (sm (Sl a7 r2.2.1 c8) rfl (sm (Sl a9 r2.2.2.1 c10) rfl (sm (I r2.2.2.2.2) rfl ?_)))))))
    obtain ⟨σ58, hw59, H, -⟩ := H.pub 0 rfl (Nat.le_refl _)
    rw [← hw59]; clear hw59
    replace H := H.roLow 0 0 rfl (Nat.zero_le _)
    revert h; refine br fun r60 hx61 h => ?_
    have hc62 := c_impl_ProbeNearest (Bq := a5) (Br := c6) (Aq := a7) (Ar := c8) (Cc := a9) (Cd := c10) hx61
    have hle := Nat.le_trans hn0 H.size
    refine st_call (cx_lend (Loan.same (Loan.lend (Loan.lend Loan.nil))) hc62 (ent_f hc62.fn rfl) (show Hp S0 σ0 _ ([Ch.own n0 n0 (Sl a7 r2.2.1 c8) r2.2.1, Ch.own n0 n0 (Sl a9 r2.2.2.1 c10) r2.2.2.1] ++ ([Ch.ro 0 (Sl a5 r2.1 c6) r2.1] ++ [Ch.ro 0 (Sl a5 r2.1 c6) r2.1, Ch.ro n0 (Sl a5 r2.1 c6) r2.1, Ch.own 0 n0 (Sl a15 r12 c16) r12])) from (H.sel' [2, 3, 0, 0, 1, 4] rfl rfl)) (by rintro _ _ _ ⟨_, _, rfl, rfl⟩; exact ⟨Ab.ownSc, trivial⟩)) wn ?_
    rintro _ σ65 ⟨_, ⟨a63, c64, rfl, rfl⟩, H, -, -⟩
    replace H : Hp _ _ _ [_, _, _, _, _, _] := H
    replace H := H.ownLow 0 0 n0 rfl (Nat.le_refl _) hle
    clear hle
    replace H : Hp _ _ _ [_, _, _, _, _, _] := H
    refine sm (Sl a7 r2.2.1 c8) rfl (sm (Sl a9 r2.2.2.1 c10) rfl (sm (I r2.2.2.2.2) rfl ?_))
    obtain ⟨σ66, hw67, H, -⟩ := H.pub 1 rfl (Nat.le_refl _)
    rw [← hw67]; clear hw67
    obtain ⟨σ68, hw69, H, -⟩ := H.pub 2 rfl (Nat.le_refl _)
    rw [← hw69]; clear hw69
    replace H := H.roLow 1 0 rfl (Nat.zero_le _)
    replace H := H.roLow 1 0 rfl (Nat.zero_le _)
    revert h; refine br fun r70 hx71 h => ?_
    have hc72 := c_impl_Nearest (Au := a7) (Av := c8) (Cc := a9) (Cd := c10) hx71
    refine st_call (cx_call hc72 (ent_f hc72.fn rfl) hn0 (H.sel' [1, 0, 0, 1, 2, 3, 4, 5, 6, 7] rfl rfl : Hp S0 σ0 _ ([_, _] ++ _))) wn ?_
    rintro _ σ75 ⟨_, ⟨a73, c74, rfl, rfl⟩, H, -⟩
    replace H : Hp _ _ _ [_, _, _, _, _, _, _, _, _] := H
    replace H : Hp S0 σ0 σ75 [Ch.own 0 n0 (Sl a73 r70 c74) r70, Ch.own 0 n0 (Sl a63 r60 c64) r60] := H.sel' [0, 5] rfl rfl
    replace H := H.ownLow 1 0 0 rfl (Nat.le_refl _) (Nat.zero_le _)
    obtain ⟨σ76, hw77, H, -⟩ := H.pub 0 rfl (Nat.le_refl _)
    rw [← hw77]; clear hw77
    replace H := H.ownLow 1 0 0 rfl (Nat.le_refl _) (Nat.zero_le _)
    obtain ⟨σ78, hw79, H, -⟩ := H.pub 0 rfl (Nat.le_refl _)
    rw [← hw79]; clear hw79
    revert h; refine br fun r80 hx81 h => ?_
    have hc82 := c_laws_equalHits (Kf := a63) (Kg := c64) (Kh := a73) (Ki := c74) hx81
    refine st_call (cx_call hc82 (ent_f hc82.fn rfl) hn0 (H.sel' [1, 0, 0, 1] rfl rfl : Hp S0 σ0 _ ([_, _] ++ _))) wn ?_
    rintro _ σ83 ⟨_, ⟨rfl, rfl⟩, H, -⟩
    replace H : Hp _ _ _ [_, _] := H
    refine sa (B r80) rfl (w_end (q_then (c_ret ?_)))
    obtain rfl := sj h
    exact fin_ret (v := (B r80)) (results_ok Tryz.results3 (res_tmp (v := (B r80)) rfl res_nil) rfl) ⟨rfl, rfl⟩ (H.sel' [] rfl rfl)

end Go.Vs
