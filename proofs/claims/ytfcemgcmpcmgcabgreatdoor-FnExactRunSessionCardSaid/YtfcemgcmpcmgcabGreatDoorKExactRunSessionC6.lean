/- The functions compute what their models say. -/
import Derived.Test.YtfcemgcmpcmgcabGreatDoorKExactRunSessionC5
set_option linter.unusedVariables false
set_option linter.unusedSimpArgs false
set_option maxRecDepth 20000
namespace Go.Vs
open Go Go.Proofs
attribute [local irreducible] Code.wp Code.wpIn wpList wpListIn wpQuiet Calls CallsIn

theorem c_impl_session_near {Af : (List (Int × (List Int) × Int)) × Int} {Dw : List ByteArray} {Cj : Option Addr} {Ck : Nat} {Cl Cm Cn : Nat} {Cp Cq : List Value} {Dx : Option Addr} {Dy : Nat} {r : ByteArray} (h : M.impl_session_near Af Dw = some r) :
    Cal2 Tryz.prog 26 [(pt Cm Cn), (Sl Dx Dw Dy)] [Ch.bx Cl Cm Cn [(Sl Cj Af.1 Ck), (I Af.2)] Cp Cq, Ch.ro 0 (Sl Cj Af.1 Ck) Af.1, Ch.ro 0 (Sl Dx Dw Dy) Dw, Ch.gw gw0] (fun n0 v L => v = (.string r) ∧ L = [Ch.bx Cl Cm Cn [(Sl Cj Af.1 Ck), (I Af.2)] Cp Cq]) := by
 refine cal2 (n := 60) Tryz.func26 rfl rfl rfl rfl ?_
 intro S0 σ0 n0 hn0 H
 unfold M.impl_session_near at h
 refine c_seq (rg (sa (.string (ByteArray.mk #[])) rfl (w_end (q_then (c_seq ?_)))))
 revert h; refine br fun x1 hx2 h => ?_
 obtain ⟨b4, o5, hi3, -⟩ := (H.ro 2 rfl).ix hx2
 have hc6 := ((H.ro 2 rfl).at hx2 hi3).str
 revert h; refine br fun r7 hx8 h => ?_
 have hc9 := c_impl_readVector hx8
 revert h; refine br fun x12 hx13 h => ?_
 obtain ⟨b15, o16, hi14, -⟩ := (H.ro 2 rfl).ix hx13
 have hc17 := ((H.ro 2 rfl).at hx13 hi14).str
 have Hs := H
 refine rg2 (σ := σ0) (Nm := (Option Addr) × (Nat)) 7 [3] [[false], [true]] [[(0, 0)], [(0, 0)], [(0, 0)], [(0, 1)], [(0, 0), (1, 1)], [(0, 0), (1, 1)], [(0, 0), (1, 1)]] 1 [fun ((a10, c11) : (Option Addr) × (Nat)) => fun σm => Hp S0 σ0 σm [Ch.bx Cl Cm Cn [(Sl Cj Af.1 Ck), (I Af.2)] Cp Cq, Ch.ro 0 (Sl Cj Af.1 Ck) Af.1, Ch.ro 0 (Sl Dx Dw Dy) Dw, Ch.gw gw0] ∧ Md (cov []) σ0 σm, fun ((a10, c11) : (Option Addr) × (Nat)) => fun σm => Hp S0 σ0 σm [Ch.own n0 n0 (Sl a10 r7 c11) r7, Ch.bx Cl Cm Cn [(Sl Cj Af.1 Ck), (I Af.2)] Cp Cq, Ch.ro 0 (Sl Cj Af.1 Ck) Af.1, Ch.ro 0 (Sl Dx Dw Dy) Dw, Ch.gw gw0] ∧ Md (cov []) σ0 σm] [fun ((a10, c11) : (Option Addr) × (Nat)) => (Sl Dx Dw Dy), fun ((a10, c11) : (Option Addr) × (Nat)) => (pt b4 o5), fun ((a10, c11) : (Option Addr) × (Nat)) => (.string x1), fun ((a10, c11) : (Option Addr) × (Nat)) => (Sl a10 r7 c11), fun ((a10, c11) : (Option Addr) × (Nat)) => (Sl Dx Dw Dy), fun ((a10, c11) : (Option Addr) × (Nat)) => (pt b15 o16), fun ((a10, c11) : (Option Addr) × (Nat)) => (.string x12)] (none, 0) (by kernel_rfl) (by kernel_rfl) ?_ ?_ ?_
 ·intro σm m0
  exact ⟨H.grow (m0.mono fun _ h => h.elim), m0⟩
 ·refine ac rfl (by
    intro k; rintro ⟨a10, c11⟩ ρ σm hJ hoff hdep
    have e1 := look_off (N := 60) (hoff 1 rfl) rfl
    exact dp_v (v := (Sl Dx Dw Dy)) wn (rv_move e1) rfl hJ) ?_
  refine ac rfl (by
    intro k; rintro ⟨a10, c11⟩ ρ σm hJ hoff hdep
    have e10 := hdep 0 rfl rfl 10 rfl
    exact dp_v (v := (pt b4 o5)) wn (rv_ix Tryz.underlying22 ti9 e10 rfl hi3) rfl hJ) ?_
  refine all_cons (by
    refine ⟨?_, ?_⟩
    ·rintro ⟨a10, c11⟩ ρ σm hJ hoff hdep
     have e11 := hdep 1 rfl rfl 11 rfl
     obtain ⟨H, m⟩ := id hJ
     replace hc6 := (Hs.ro 2 rfl).hmd hx2 hi3 (k := 0) (by decide) hc6 m
     exact dp_v (v := (.string x1)) wn (rv_load1 Tryz.underlying9 rfl e11 hc6) rfl hJ
    trivial) ?_
  refine all_cons (by
    refine ⟨?_, ?_⟩
    ·rintro ⟨a10, c11⟩ ρ σm hJ hoff hdep
     have e12 : look 60 ρ 12 = (.string x1) := hdep 2 rfl rfl 12 rfl
     obtain ⟨H, m⟩ := id hJ
     refine dp_cx wn (cx_call hc9 (ent_f hc9.fn (by show [look 60 ρ 12] = _; rw [e12])) hn0 (H.sel' [3, 0, 1, 2, 3] rfl rfl : Hp S0 σ0 _ ([_] ++ _))) ?_
     rintro _ σq ⟨_, ⟨a10x, c11x, rfl, rfl⟩, H2, m2⟩
     exact ⟨_, (a10x, c11x), rfl, rfl, ⟨H2.sel' [0, 1, 2, 3, 4] rfl rfl, m.comp0 (m2.mono (fun i h => by simp [cov, Ch.ro, Ch.gw] at h))⟩, stab [0, 1, 2, 4, 5, 6] (by kernel_rfl) ⟨rfl, rfl, rfl, rfl, rfl, rfl, trivial⟩⟩
    trivial) ?_
  refine ac rfl (by
    intro k; rintro ⟨a10, c11⟩ ρ σm hJ hoff hdep
    have e1 := look_off (N := 60) (hoff 1 rfl) rfl
    exact dp_v (v := (Sl Dx Dw Dy)) wn (rv_move e1) rfl hJ) ?_
  refine ac rfl (by
    intro k; rintro ⟨a10, c11⟩ ρ σm hJ hoff hdep
    have e14 := hdep 4 rfl rfl 14 rfl
    exact dp_v (v := (pt b15 o16)) wn (rv_ix Tryz.underlying22 ti9 e14 rfl hi14) rfl hJ) ?_
  refine all_cons (by
    refine ⟨?_, ?_⟩
    ·rintro ⟨a10, c11⟩ ρ σm hJ hoff hdep
     have e15 := hdep 5 rfl rfl 15 rfl
     obtain ⟨H, m⟩ := id hJ
     replace hc17 := (Hs.ro 2 rfl).hmd hx13 hi14 (k := 0) (by decide) hc17 m
     exact dp_v (v := (.string x12)) wn (rv_load1 Tryz.underlying9 rfl e15 hc17) rfl hJ
    refine ⟨?_, ?_⟩
    ·rintro ⟨a10, c11⟩ ρ σm hJ hoff hdep
     have e15 := hdep 5 rfl rfl 15 rfl
     obtain ⟨H, m⟩ := id hJ
     replace hc17 := (Hs.ro 2 rfl).hmd hx13 hi14 (k := 0) (by decide) hc17 m
     exact dp_v (v := (.string x12)) wn (rv_load1 Tryz.underlying9 rfl e15 hc17) rfl hJ
    trivial) ?_
  exact all_nil
 ·rintro ⟨a10, c11⟩ ρ σ18 hJ hoff hrel
  have e0 := look_off (N := 60) (hoff 0 rfl) rfl
  have e13 := hrel 3 rfl 13 rfl
  have e16 := hrel 6 rfl 16 rfl
  obtain ⟨H, -⟩ := (show Hp S0 σ0 σ18 [Ch.own n0 n0 (Sl a10 r7 c11) r7, Ch.bx Cl Cm Cn [(Sl Cj Af.1 Ck), (I Af.2)] Cp Cq, Ch.ro 0 (Sl Cj Af.1 Ck) Af.1, Ch.ro 0 (Sl Dx Dw Dy) Dw, Ch.gw gw0] ∧ Md (cov []) σ0 σ18 from hJ)
  clear hJ Hs
  rw [fr_lookL (L := [(0, (pt Cm Cn)), (13, (Sl a10 r7 c11)), (16, (.string x12))]) ⟨e0, e13, e16, trivial⟩]
  clear hoff hrel e0 e13 e16
  revert h; refine br fun r19 hx20 h => ?_
  have hc21 := c_impl_readNumber hx20
  refine st_call (cx_call hc21 (ent_f hc21.fn rfl) hn0 (H.sel' [4, 0, 1, 2, 3, 4] rfl rfl : Hp S0 σ0 _ ([_] ++ _))) wn ?_
  rintro _ σ22 ⟨_, ⟨rfl, rfl⟩, H, -⟩
  replace H : Hp _ _ _ [_, _, _, _, _] := H
  refine sa (Sl a10 r7 c11) rfl (sa (I r19) rfl (w_end (q_then (c_seq (c_seq ?_)))))
  refine rgP (σ := σ22) 10 (by kernel_rfl) (by kernel_rfl) (by kernel_rfl) ?_
  refine sq (v := (pt Cm Cn)) (rv_move rfl) (sq (v := (pt Cm Cn)) (rv_nilCheck rfl) (sq (v := (pt Cm Cn)) (rv_fieldAddr (off := 0) (ft := 29) Tryz.underlying34 rfl ti29 rfl rfl) ?_))
  have hc23 := H.cell (u := (Sl Cj Af.1 Ck)) (o' := Cn) 1 0 rfl rfl rfl
  refine sq (v := (Sl Cj Af.1 Ck)) (rv_load1 Tryz.underlying29 rfl rfl hc23) (sq (v := (pt Cm Cn)) (rv_move rfl) (sq (v := (pt Cm Cn)) (rv_nilCheck rfl) (sq (v := (pt Cm (Cn + 1))) (rv_fieldAddr (off := 1) (ft := 3) Tryz.underlying34 rfl ti3 rfl rfl) ?_)))
  have hc24 := H.cell (u := (I Af.2)) (o' := (Cn + 1)) 1 1 rfl rfl rfl
  refine sq (v := (I Af.2)) (rv_load1 Tryz.underlying3 rfl rfl hc24) (sq (v := (Sl a10 r7 c11)) (rv_move rfl) (sq (v := (I r19)) (rv_move rfl) (sq_end ?_)))
  intro σ25 hm26
  replace H := H.grow (hm26.mono fun _ h => h); clear hm26
  revert h; refine br fun r27 hx28 h => ?_
  have hc29 := c_impl_validSearch (Am := Cj) (Ao := Ck) (Bl := a10) (Bm := c11) hx28
  have hle := Nat.le_trans hn0 H.size
  refine st_call (cx_lend (Loan.same (Loan.lend Loan.nil)) hc29 (ent_f hc29.fn rfl) (show Hp S0 σ0 _ ([Ch.own n0 n0 (Sl a10 r7 c11) r7] ++ ([Ch.ro 0 (Sl Cj Af.1 Ck) Af.1] ++ [Ch.bx Cl Cm Cn [(Sl Cj Af.1 Ck), (I Af.2)] Cp Cq, Ch.ro 0 (Sl Cj Af.1 Ck) Af.1, Ch.ro 0 (Sl Dx Dw Dy) Dw, Ch.gw gw0])) from (H.sel' [0, 2, 1, 2, 3, 4] rfl rfl)) (by rintro _ _ _ ⟨rfl, rfl⟩; exact trivial)) wn ?_
  rintro _ σ30 ⟨_, ⟨rfl, rfl⟩, H, -, -⟩
  replace H : Hp _ _ _ [_, _, _, _, _] := H
  clear hle
  replace H : Hp _ _ _ [_, _, _, _, _] := H
  refine st (v := (B (!r27))) (rv_not rfl) (w_end (q_then ?_))
  refine cd_cond (!r27) rfl (fun hb31 => ?_) (fun hb31 => ?_)
  ·replace h := bif_t hb31 h
   refine c_seq (rg (sa (.string (ByteArray.mk #[110, 111])) rfl (w_end (q_then (c_ret (q_then_r ?_))))))
   obtain rfl := sj h
   exact fin_ret (v := (.string (ByteArray.mk #[110, 111]))) (results_ok Tryz.results26 (res_tmp (v := (.string (ByteArray.mk #[110, 111]))) rfl res_nil) rfl) ⟨rfl, rfl⟩ (H.sel' [1] rfl rfl)
  ·replace h := bif_f hb31 h
   refine c_skip (q_then (c_seq (rg (sa (.slice none 0 0) rfl (w_end (q_then (c_seq (c_seq ?_))))))))
   obtain ⟨σ32, hw33, H, -⟩ := H.pub 0 rfl (Nat.le_refl _)
   rw [← hw33]; clear hw33
   have hc34 := H.cell (u := (Sl Cj Af.1 Ck)) (o' := Cn) 1 0 rfl rfl rfl
   have hc35 := H.cell (u := (I Af.2)) (o' := (Cn + 1)) 1 1 rfl rfl rfl
   replace H := H.roLow 0 0 rfl (Nat.zero_le _)
   revert h; refine br fun r36 hx37 h => ?_
   have hc38 := c_impl_Nearest (Am := Cj) (Ao := Ck) (Bl := a10) (Bm := c11) hx37
   have Hs := H
   refine rg2 (σ := σ32) (Nm := (Option Addr) × (Nat)) 13 [10] [[false], [true]] [[(0, 0)], [(0, 0)], [(0, 0)], [(0, 0)], [(0, 0)], [(0, 0)], [(0, 0)], [(0, 0)], [(0, 0)], [(0, 0)], [(0, 1)], [(1, 1)], [(0, 0), (1, 1)]] 1 [fun ((a39, c40) : (Option Addr) × (Nat)) => fun σm => Hp S0 σ0 σm [Ch.ro 0 (Sl a10 r7 c11) r7, Ch.ro n0 (Sl a10 r7 c11) r7, Ch.bx Cl Cm Cn [(Sl Cj Af.1 Ck), (I Af.2)] Cp Cq, Ch.ro 0 (Sl Cj Af.1 Ck) Af.1, Ch.ro 0 (Sl Dx Dw Dy) Dw, Ch.gw gw0] ∧ Md (cov []) σ32 σm, fun ((a39, c40) : (Option Addr) × (Nat)) => fun σm => Hp S0 σ0 σm [Ch.own 0 n0 (Sl a39 r36 c40) r36, Ch.ro 0 (Sl a10 r7 c11) r7, Ch.ro n0 (Sl a10 r7 c11) r7, Ch.bx Cl Cm Cn [(Sl Cj Af.1 Ck), (I Af.2)] Cp Cq, Ch.ro 0 (Sl Cj Af.1 Ck) Af.1, Ch.ro 0 (Sl Dx Dw Dy) Dw, Ch.gw gw0] ∧ Md (cov []) σ32 σm] [fun ((a39, c40) : (Option Addr) × (Nat)) => (pt Cm Cn), fun ((a39, c40) : (Option Addr) × (Nat)) => (pt Cm Cn), fun ((a39, c40) : (Option Addr) × (Nat)) => (pt Cm Cn), fun ((a39, c40) : (Option Addr) × (Nat)) => (Sl Cj Af.1 Ck), fun ((a39, c40) : (Option Addr) × (Nat)) => (pt Cm Cn), fun ((a39, c40) : (Option Addr) × (Nat)) => (pt Cm Cn), fun ((a39, c40) : (Option Addr) × (Nat)) => (pt Cm (Cn + 1)), fun ((a39, c40) : (Option Addr) × (Nat)) => (I Af.2), fun ((a39, c40) : (Option Addr) × (Nat)) => (Sl a10 r7 c11), fun ((a39, c40) : (Option Addr) × (Nat)) => (I r19), fun ((a39, c40) : (Option Addr) × (Nat)) => (Sl a39 r36 c40), fun ((a39, c40) : (Option Addr) × (Nat)) => (I (r36.length : Int)), fun ((a39, c40) : (Option Addr) × (Nat)) => (I 0)] (none, 0) (by kernel_rfl) (by kernel_rfl) ?_ ?_ ?_
   ·intro σm m0
    exact ⟨H.grow (m0.mono fun _ h => h.elim), m0⟩
   ·refine ac rfl (by
      intro k; rintro ⟨a39, c40⟩ ρ σm hJ hoff hdep
      have e0 := look_off (N := 60) (hoff 0 rfl) rfl
      exact dp_v (v := (pt Cm Cn)) wn (rv_move e0) rfl hJ) ?_
    refine ac rfl (by
      intro k; rintro ⟨a39, c40⟩ ρ σm hJ hoff hdep
      have e30 := hdep 0 rfl rfl 30 rfl
      exact dp_v (v := (pt Cm Cn)) wn (rv_nilCheck e30) rfl hJ) ?_
    refine ac rfl (by
      intro k; rintro ⟨a39, c40⟩ ρ σm hJ hoff hdep
      have e31 := hdep 1 rfl rfl 31 rfl
      exact dp_v (v := (pt Cm Cn)) wn (rv_fieldAddr (off := 0) (ft := 29) Tryz.underlying34 rfl ti29 rfl e31) rfl hJ) ?_
    refine all_cons (by
      refine ⟨?_, ?_⟩
      ·rintro ⟨a39, c40⟩ ρ σm hJ hoff hdep
       have e32 := hdep 2 rfl rfl 32 rfl
       obtain ⟨H, m⟩ := id hJ
       have hc34 := H.cell (u := (Sl Cj Af.1 Ck)) (o' := Cn) 2 0 rfl rfl rfl
       exact dp_v (v := (Sl Cj Af.1 Ck)) wn (rv_load1 Tryz.underlying29 rfl e32 hc34) rfl hJ
      trivial) ?_
    refine ac rfl (by
      intro k; rintro ⟨a39, c40⟩ ρ σm hJ hoff hdep
      have e0 := look_off (N := 60) (hoff 0 rfl) rfl
      exact dp_v (v := (pt Cm Cn)) wn (rv_move e0) rfl hJ) ?_
    refine ac rfl (by
      intro k; rintro ⟨a39, c40⟩ ρ σm hJ hoff hdep
      have e34 := hdep 4 rfl rfl 34 rfl
      exact dp_v (v := (pt Cm Cn)) wn (rv_nilCheck e34) rfl hJ) ?_
    refine ac rfl (by
      intro k; rintro ⟨a39, c40⟩ ρ σm hJ hoff hdep
      have e35 := hdep 5 rfl rfl 35 rfl
      exact dp_v (v := (pt Cm (Cn + 1))) wn (rv_fieldAddr (off := 1) (ft := 3) Tryz.underlying34 rfl ti3 rfl e35) rfl hJ) ?_
    refine all_cons (by
      refine ⟨?_, ?_⟩
      ·rintro ⟨a39, c40⟩ ρ σm hJ hoff hdep
       have e36 := hdep 6 rfl rfl 36 rfl
       obtain ⟨H, m⟩ := id hJ
       have hc35 := H.cell (u := (I Af.2)) (o' := (Cn + 1)) 2 1 rfl rfl rfl
       exact dp_v (v := (I Af.2)) wn (rv_load1 Tryz.underlying3 rfl e36 hc35) rfl hJ
      trivial) ?_
    refine ac rfl (by
      intro k; rintro ⟨a39, c40⟩ ρ σm hJ hoff hdep
      have e5 := look_off (N := 60) (hoff 5 rfl) rfl
      exact dp_v (v := (Sl a10 r7 c11)) wn (rv_move e5) rfl hJ) ?_
    refine ac rfl (by
      intro k; rintro ⟨a39, c40⟩ ρ σm hJ hoff hdep
      have e6 := look_off (N := 60) (hoff 6 rfl) rfl
      exact dp_v (v := (I r19)) wn (rv_move e6) rfl hJ) ?_
    refine all_cons (by
      refine ⟨?_, ?_⟩
      ·rintro ⟨a39, c40⟩ ρ σm hJ hoff hdep
       have e33 : look 60 ρ 33 = (Sl Cj Af.1 Ck) := hdep 3 rfl rfl 33 rfl
       have e37 : look 60 ρ 37 = (I Af.2) := hdep 7 rfl rfl 37 rfl
       have e38 : look 60 ρ 38 = (Sl a10 r7 c11) := hdep 8 rfl rfl 38 rfl
       have e39 : look 60 ρ 39 = (I r19) := hdep 9 rfl rfl 39 rfl
       obtain ⟨H, m⟩ := id hJ
       refine dp_cx wn (cx_call hc38 (ent_f hc38.fn (by show [look 60 ρ 33, look 60 ρ 37, look 60 ρ 38, look 60 ρ 39] = _; rw [e33, e37, e38, e39])) hn0 (H.sel' [3, 0, 0, 1, 2, 3, 4, 5] rfl rfl : Hp S0 σ0 _ ([_, _] ++ _))) ?_
       rintro _ σq ⟨_, ⟨a39x, c40x, rfl, rfl⟩, H2, m2⟩
       exact ⟨_, (a39x, c40x), rfl, rfl, ⟨H2.sel' [0, 1, 2, 3, 4, 5, 6] rfl rfl, m.comp0 (m2.mono (fun i h => by simp [cov, Ch.ro] at h))⟩, stab [0, 1, 2, 3, 4, 5, 6, 7, 8, 9, 12] (by kernel_rfl) ⟨rfl, rfl, rfl, rfl, rfl, rfl, rfl, rfl, rfl, rfl, rfl, trivial⟩⟩
      trivial) ?_
    refine ac rfl (by
      intro k; rintro ⟨a39, c40⟩ ρ σm hJ hoff hdep
      have e40 := hdep 10 rfl rfl 40 rfl
      exact dp_v (v := (I (r36.length : Int))) wn (rv_len Tryz.underlying74 e40) rfl hJ) ?_
    refine ac rfl (by
      intro k; rintro ⟨a39, c40⟩ ρ σm hJ hoff hdep
      exact dp_v (v := (I 0)) wn (rv_move rfl) rfl hJ) ?_
    exact all_nil
   ·rintro ⟨a39, c40⟩ ρ σ41 hJ hoff hrel
    have e0 := look_off (N := 60) (hoff 0 rfl) rfl
    have e7 := look_off (N := 60) (hoff 7 rfl) rfl
    have e40 := hrel 10 rfl 40 rfl
    have e41 := hrel 11 rfl 41 rfl
    have e42 := hrel 12 rfl 42 rfl
    obtain ⟨H, -⟩ := (show Hp S0 σ0 σ41 [Ch.own 0 n0 (Sl a39 r36 c40) r36, Ch.ro 0 (Sl a10 r7 c11) r7, Ch.ro n0 (Sl a10 r7 c11) r7, Ch.bx Cl Cm Cn [(Sl Cj Af.1 Ck), (I Af.2)] Cp Cq, Ch.ro 0 (Sl Cj Af.1 Ck) Af.1, Ch.ro 0 (Sl Dx Dw Dy) Dw, Ch.gw gw0] ∧ Md (cov []) σ32 σ41 from hJ)
    clear hJ Hs
    rw [fr_lookL (L := [(0, (pt Cm Cn)), (7, (.slice none 0 0)), (40, (Sl a39 r36 c40)), (41, (I (r36.length : Int))), (42, (I 0))]) ⟨e0, e7, e40, e41, e42, trivial⟩]
    clear hoff hrel e0 e7 e40 e41 e42
    refine w_end (q_then ?_)
    obtain ⟨o42, hj, h'⟩ := bind_some h
    clear h
    refine c_cut (fun e a w => e = .normal ∧ ∃ (ρ : Nat → Value) (σ : St) (aj1 : Option Addr) (cj2 : Nat), a = fr 60 (updL ρ [(0, (pt Cm Cn)), (7, (Sl aj1 o42 cj2))]) ∧ w = σ.w ∧ Hp S0 σ0 σ [Ch.ro 0 (Sl Cj Af.1 Ck) Af.1, Ch.bx Cl Cm Cn [(Sl Cj Af.1 Ck), (I Af.2)] Cp Cq, Ch.own n0 n0 (Sl aj1 o42 cj2) o42, Ch.gw gw0]) ?_ ?_
    ·clear h'
     rename _ = some o42 => h
     refine c_blk ?_
     replace H := H.nilOwn ByteArray n0 n0
     refine wp_loopM _ h (fun s43 a w => ∃ (ρ : Nat → Value) (σ : St) (aj1 : Option Addr) (cj2 : Nat), a = fr 60 (updL ρ [(0, (pt Cm Cn)), (7, (Sl aj1 s43.1 cj2)), (40, (Sl a39 r36 c40)), (41, (I (r36.length : Int))), (42, (I s43.2))]) ∧ w = σ.w ∧ Hp S0 σ0 σ [Ch.ro 0 (Sl Cj Af.1 Ck) Af.1, Ch.bx Cl Cm Cn [(Sl Cj Af.1 Ck), (I Af.2)] Cp Cq, Ch.own n0 n0 (Sl aj1 s43.1 cj2) s43.1, Ch.own 0 n0 (Sl a39 r36 c40) r36, Ch.gw gw0]) ⟨_, σ41, none, 0, fr_join ⟨rfl, rfl, rfl, rfl, rfl, trivial⟩, rfl, H.sel' [5, 4, 0, 1, 7] rfl rfl⟩ ?_
     clear h H
     rintro s43 a w o ⟨ρ, σ44, a45, c46, rfl, rfl, H⟩ h hres
     refine c_seq (rg (st (v := (B (decide (s43.2 < (r36.length : Int))))) (rv_lss (a := s43.2) (b := (r36.length : Int)) rfl rfl) (w_end (q_then (c_seq ?_)))))
     refine cd_cond (decide (s43.2 < (r36.length : Int))) rfl (fun hb47 => ?_) (fun hb47 => ?_)
     ·replace h := bif_t hb47 h
      refine c_skip (q_then (c_seq (c_blk (c_seq (rg ?_)))))
      revert h; refine br fun x48 hx49 h => ?_
      obtain ⟨b51, o52, hi50, -⟩ := (H.own 3 rfl).ix hx49
      refine st (v := (pt b51 o52)) (rv_ix Tryz.underlying74 ti81 rfl rfl hi50) ?_
      obtain ⟨_, ⟨_, _, rfl, rfl, rfl⟩, hl53, hc54⟩ := ((H.own 3 rfl).at hx49 hi50).cells
      refine st (v := (.agg #[(I x48.1), (I x48.2)])) (rv_load Tryz.underlying81 rfl ti81 rfl hl53 hc54) (st_ex (ex_alloc (cs := [(I 0), (I 0)]) H hn0 ti81 rfl) wn ?_)
      rintro _ σ56 ⟨b55, rfl, H, -⟩
      refine st_exS (ex_store_box (k := 0) (cs := [(I 0), (I 0)]) (vs := [(I x48.1), (I x48.2)]) (cs' := [(I x48.1), (I x48.2)]) H (i := 0) rfl ti81 rfl rfl rfl rfl rfl (Nat.le_of_ble_eq_true rfl) (by simp [plain]) rfl) wn ?_
      rintro σ57 ⟨H, -⟩
      refine w_end (q_then ?_)
      have hc58 := H.cell (u := (I x48.1)) (o' := 0) 0 0 rfl rfl rfl
      revert h; refine br fun r59 hx60 h => ?_
      have hc61 := c_strconv_Itoa hx60
      revert h; refine br fun s62 hx63 h => ?_
      have hc64 := H.cell (u := (I x48.2)) (o' := 1) 0 1 rfl rfl rfl
      revert h; refine br fun r65 hx66 h => ?_
      have hc67 := c_strconv_Itoa hx66
      revert h; refine br fun s68 hx69 h => ?_
      have Hs := H
      refine rg2 (σ := σ57) (Nm := (Nat)) 10 [3, 7, 9] [[false, false, false], [true, false, false], [true, true, false], [true, true, true]] [[(0, 0), (1, 1), (2, 2), (3, 3)], [(0, 0)], [(0, 0)], [(0, 1)], [(1, 1), (2, 2)], [(0, 0), (1, 1)], [(0, 0), (1, 1)], [(1, 2)], [(2, 2)], [(2, 3)]] 3 [fun (b70 : (Nat)) => fun σm => Hp S0 σ0 σm [Ch.bx n0 b55 0 [(I x48.1), (I x48.2)] [] [], Ch.ro 0 (Sl Cj Af.1 Ck) Af.1, Ch.bx Cl Cm Cn [(Sl Cj Af.1 Ck), (I Af.2)] Cp Cq, Ch.own n0 n0 (Sl a45 s43.1 c46) s43.1, Ch.own 0 n0 (Sl a39 r36 c40) r36, Ch.gw gw0] ∧ Md (cov []) σ57 σm, fun (b70 : (Nat)) => fun σm => Hp S0 σ0 σm [Ch.bx n0 b55 0 [(I x48.1), (I x48.2)] [] [], Ch.ro 0 (Sl Cj Af.1 Ck) Af.1, Ch.bx Cl Cm Cn [(Sl Cj Af.1 Ck), (I Af.2)] Cp Cq, Ch.own n0 n0 (Sl a45 s43.1 c46) s43.1, Ch.own 0 n0 (Sl a39 r36 c40) r36, Ch.gw gw0] ∧ Md (cov []) σ57 σm, fun (b70 : (Nat)) => fun σm => Hp S0 σ0 σm [Ch.bx n0 b55 0 [(I x48.1), (I x48.2)] [] [], Ch.ro 0 (Sl Cj Af.1 Ck) Af.1, Ch.bx Cl Cm Cn [(Sl Cj Af.1 Ck), (I Af.2)] Cp Cq, Ch.own n0 n0 (Sl a45 s43.1 c46) s43.1, Ch.own 0 n0 (Sl a39 r36 c40) r36, Ch.gw gw0] ∧ Md (cov []) σ57 σm, fun (b70 : (Nat)) => fun σm => Hp S0 σ0 σm [Ch.own n0 n0 (Sl (some ⟨b70, 0, none⟩) ([s68] : List ByteArray) 1) ([s68] : List ByteArray), Ch.bx n0 b55 0 [(I x48.1), (I x48.2)] [] [], Ch.ro 0 (Sl Cj Af.1 Ck) Af.1, Ch.bx Cl Cm Cn [(Sl Cj Af.1 Ck), (I Af.2)] Cp Cq, Ch.own n0 n0 (Sl a45 s43.1 c46) s43.1, Ch.own 0 n0 (Sl a39 r36 c40) r36, Ch.gw gw0] ∧ Md (cov []) σ57 σm] [fun (b70 : (Nat)) => (Sl a45 s43.1 c46), fun (b70 : (Nat)) => (pt b55 0), fun (b70 : (Nat)) => (I x48.1), fun (b70 : (Nat)) => (.string r59), fun (b70 : (Nat)) => (.string s62), fun (b70 : (Nat)) => (pt b55 1), fun (b70 : (Nat)) => (I x48.2), fun (b70 : (Nat)) => (.string r65), fun (b70 : (Nat)) => (.string s68), fun (b70 : (Nat)) => (Sl (some ⟨b70, 0, none⟩) ([s68] : List ByteArray) 1)] (0) (by kernel_rfl) (by kernel_rfl) ?_ ?_ ?_
      ·intro σm m0
       exact ⟨H.grow (m0.mono fun _ h => h.elim), m0⟩
      ·refine ac rfl (by
         intro k b70 ρ σm hJ hoff hdep
         have e7 := look_off (N := 60) (hoff 7 rfl) rfl
         exact dp_v (v := (Sl a45 s43.1 c46)) wn (rv_move e7) rfl hJ) ?_
       refine ac rfl (by
         intro k b70 ρ σm hJ hoff hdep
         have e9 := look_off (N := 60) (hoff 9 rfl) rfl
         exact dp_v (v := (pt b55 0)) wn (rv_fieldAddr (off := 0) (ft := 3) Tryz.underlying81 rfl ti3 rfl e9) rfl hJ) ?_
       refine all_cons (by
         refine ⟨?_, ?_⟩
         ·intro b70 ρ σm hJ hoff hdep
          have e47 := hdep 1 rfl rfl 47 rfl
          obtain ⟨H, m⟩ := id hJ
          have hc58 := H.cell (u := (I x48.1)) (o' := 0) 0 0 rfl rfl rfl
          exact dp_v (v := (I x48.1)) wn (rv_load1 Tryz.underlying3 rfl e47 hc58) rfl hJ
         trivial) ?_
       refine all_cons (by
         refine ⟨?_, ?_⟩
         ·intro b70 ρ σm hJ hoff hdep
          have e48 : look 60 ρ 48 = (I x48.1) := hdep 2 rfl rfl 48 rfl
          obtain ⟨H, m⟩ := id hJ
          refine dp_cx wn (cx_call hc61 (ent_f hc61.fn (by show [look 60 ρ 48] = _; rw [e48])) hn0 (H.sel' [5, 0, 1, 2, 3, 4, 5] rfl rfl : Hp S0 σ0 _ ([_] ++ _))) ?_
          rintro _ σq ⟨_, ⟨rfl, rfl⟩, H2, m2⟩
          exact ⟨_, b70, rfl, rfl, ⟨H2.sel' [0, 1, 2, 3, 4, 5] rfl rfl, m.comp0 (m2.mono (fun i h => by simp [cov, Ch.ro, Ch.gw] at h))⟩, stab [0, 1, 2, 5, 6] (by kernel_rfl) ⟨rfl, rfl, rfl, rfl, rfl, trivial⟩⟩
         trivial) ?_
       refine ac rfl (by
         intro k b70 ρ σm hJ hoff hdep
         have e49 := hdep 3 rfl rfl 49 rfl
         exact dp_v (v := (.string s62)) wn (rv_scat e49 rfl hx63) rfl hJ) ?_
       refine ac rfl (by
         intro k b70 ρ σm hJ hoff hdep
         have e9 := look_off (N := 60) (hoff 9 rfl) rfl
         exact dp_v (v := (pt b55 1)) wn (rv_fieldAddr (off := 1) (ft := 3) Tryz.underlying81 rfl ti3 rfl e9) rfl hJ) ?_
       refine all_cons (by
         refine ⟨?_, ?_⟩
         ·intro b70 ρ σm hJ hoff hdep
          have e51 := hdep 5 rfl rfl 51 rfl
          obtain ⟨H, m⟩ := id hJ
          have hc64 := H.cell (u := (I x48.2)) (o' := 1) 0 1 rfl rfl rfl
          exact dp_v (v := (I x48.2)) wn (rv_load1 Tryz.underlying3 rfl e51 hc64) rfl hJ
         refine ⟨?_, ?_⟩
         ·intro b70 ρ σm hJ hoff hdep
          have e51 := hdep 5 rfl rfl 51 rfl
          obtain ⟨H, m⟩ := id hJ
          have hc64 := H.cell (u := (I x48.2)) (o' := 1) 0 1 rfl rfl rfl
          exact dp_v (v := (I x48.2)) wn (rv_load1 Tryz.underlying3 rfl e51 hc64) rfl hJ
         trivial) ?_
       refine all_cons (by
         refine ⟨?_, ?_⟩
         ·intro b70 ρ σm hJ hoff hdep
          have e52 : look 60 ρ 52 = (I x48.2) := hdep 6 rfl rfl 52 rfl
          obtain ⟨H, m⟩ := id hJ
          refine dp_cx wn (cx_call hc67 (ent_f hc67.fn (by show [look 60 ρ 52] = _; rw [e52])) hn0 (H.sel' [5, 0, 1, 2, 3, 4, 5] rfl rfl : Hp S0 σ0 _ ([_] ++ _))) ?_
          rintro _ σq ⟨_, ⟨rfl, rfl⟩, H2, m2⟩
          exact ⟨_, b70, rfl, rfl, ⟨H2.sel' [0, 1, 2, 3, 4, 5] rfl rfl, m.comp0 (m2.mono (fun i h => by simp [cov, Ch.ro, Ch.gw] at h))⟩, stab [0, 1, 2, 3, 4, 5, 6] (by kernel_rfl) ⟨rfl, rfl, rfl, rfl, rfl, rfl, rfl, trivial⟩⟩
         trivial) ?_
       refine ac rfl (by
         intro k b70 ρ σm hJ hoff hdep
         have e50 := hdep 4 rfl rfl 50 rfl
         have e53 := hdep 7 rfl rfl 53 rfl
         exact dp_v (v := (.string s68)) wn (rv_scat e50 e53 hx69) rfl hJ) ?_
       refine all_cons (by
         refine ⟨?_, ?_⟩
         ·intro b70 ρ σm hJ hoff hdep
          have e54 : look 60 ρ 54 = (.string s68) := hdep 8 rfl rfl 54 rfl
          obtain ⟨H, m⟩ := id hJ
          refine dp_ex wn (ex_buildSlice (el := n0) (xs := ([s68] : List ByteArray)) (ps := [(0, (.string s68))]) (cs := [(.string s68)]) H hn0 Tryz.underlying22 ti9 rfl (by show [(0, look 60 ρ 54)] = _; rw [e54]) (by kernel_rfl) (.cons (c := [(.string s68)]) rfl (.nil)) rfl) ?_
          rintro _ σq ⟨b70x, rfl, H2, m2⟩
          exact ⟨_, b70x, rfl, rfl, ⟨H2.sel' [0, 1, 2, 3, 4, 5, 6] rfl rfl, m.comp0 m2⟩, stab [0, 1, 2, 3, 4, 5, 6, 7, 8] (by kernel_rfl) ⟨rfl, rfl, rfl, rfl, rfl, rfl, rfl, rfl, rfl, trivial⟩⟩
         trivial) ?_
       exact all_nil
      ·intro b70 ρ σ71 hJ hoff hrel
       have e0 := look_off (N := 60) (hoff 0 rfl) rfl
       have e40 := look_off (N := 60) (hoff 40 rfl) rfl
       have e41 := look_off (N := 60) (hoff 41 rfl) rfl
       have e42 := look_off (N := 60) (hoff 42 rfl) rfl
       have e46 := hrel 0 rfl 46 rfl
       have e55 := hrel 9 rfl 55 rfl
       obtain ⟨H, -⟩ := (show Hp S0 σ0 σ71 [Ch.own n0 n0 (Sl (some ⟨b70, 0, none⟩) ([s68] : List ByteArray) 1) ([s68] : List ByteArray), Ch.bx n0 b55 0 [(I x48.1), (I x48.2)] [] [], Ch.ro 0 (Sl Cj Af.1 Ck) Af.1, Ch.bx Cl Cm Cn [(Sl Cj Af.1 Ck), (I Af.2)] Cp Cq, Ch.own n0 n0 (Sl a45 s43.1 c46) s43.1, Ch.own 0 n0 (Sl a39 r36 c40) r36, Ch.gw gw0] ∧ Md (cov []) σ57 σ71 from hJ)
       clear hJ Hs
       rw [fr_lookL (L := [(0, (pt Cm Cn)), (40, (Sl a39 r36 c40)), (41, (I (r36.length : Int))), (42, (I s43.2)), (46, (Sl a45 s43.1 c46)), (55, (Sl (some ⟨b70, 0, none⟩) ([s68] : List ByteArray) 1))]) ⟨e0, e40, e41, e42, e46, e55, trivial⟩]
       clear hoff hrel e0 e40 e41 e42 e46 e55
       revert h; refine br fun xs72 hx73 h => ?_
       refine st_ex (ex_append H (i := 4) rfl Tryz.underlying22 Tryz.underlying22 ti9 rfl rfl (by decide) (H.own 0 rfl).rd hx73 hn0 rfl rfl) wn ?_
       rintro _ σ76 ⟨a74, c75, rfl, H, -⟩
       refine sa (Sl a74 xs72 c75) rfl (w_end (q_blk (q_then (rg (st (v := (I (w64 (s43.2 + 1)))) (rv_add (a := s43.2) (b := 1) rfl rfl) (sm (I (w64 (s43.2 + 1))) rfl (w_end (q_then ?_))))))))
       obtain rfl := sj h
       exact ⟨_, rfl, _, σ76, a74, c75, fr_join ⟨rfl, rfl, rfl, rfl, rfl, trivial⟩, rfl, H.sel' [3, 4, 0, 5, 6] rfl rfl⟩
     ·replace h := bif_f hb47 h
      refine c_exit (q_then_x (q_then_x (q_blk_hit ?_)))
      obtain rfl := sj h
      obtain rfl := hres _ rfl
      exact ⟨rfl, _, σ44, a45, c46, fr_join ⟨rfl, rfl, trivial⟩, rfl, H.sel' [0, 1, 2, 4] rfl rfl⟩
    ·clear hj
     have h := h'
     clear h' H
     rintro e a w ⟨rfl, ρ, σ77, a78, c79, rfl, rfl, H⟩
     refine q_then (c_seq (rg (sm (Sl a78 o42 c79) rfl ?_)))
     obtain ⟨σ80, hw81, H, -⟩ := H.pub 2 rfl (Nat.le_refl _)
     rw [← hw81]; clear hw81
     replace H := H.roLow 0 0 rfl (Nat.zero_le _)
     revert h; refine br fun r82 hx83 h => ?_
     have hc84 := c_strings_Join (Gz := a78) (Ha := c79) hx83
     refine st_call (cx_call hc84 (ent_f hc84.fn rfl) hn0 (H.sel' [0, 4, 0, 1, 2, 3, 4] rfl rfl : Hp S0 σ0 _ ([_, _] ++ _))) wn ?_
     rintro _ σ85 ⟨_, ⟨rfl, rfl⟩, H, -⟩
     replace H : Hp _ _ _ [_, _, _, _, _] := H
     refine sa (.string r82) rfl (w_end (q_then (c_ret ?_)))
     obtain rfl := sj h
     exact fin_ret (v := (.string r82)) (results_ok Tryz.results26 (res_tmp (v := (.string r82)) rfl res_nil) rfl) ⟨rfl, rfl⟩ (H.sel' [3] rfl rfl)

theorem c_impl_session_choose {Af : (List (Int × (List Int) × Int)) × Int} {Dw : List ByteArray} {Cj : Option Addr} {Ck : Nat} {Cl Cm Cn : Nat} {Cp Cq : List Value} {Dx : Option Addr} {Dy : Nat} {r : ByteArray × ((List (Int × (List Int) × Int)) × Int)} (h : M.impl_session_choose Af Dw = some r) :
    Cal2 Tryz.prog 27 [(pt Cm Cn), (Sl Dx Dw Dy)] [Ch.bx Cl Cm Cn [(Sl Cj Af.1 Ck), (I Af.2)] Cp Cq, Ch.ro 0 (Sl Cj Af.1 Ck) Af.1, Ch.ro 0 (Sl Dx Dw Dy) Dw, Ch.gw gw0] (fun n0 v L => ∃ (az1 : Option Addr), ∃ (cz2 : Nat), v = (.string r.1) ∧ L = [Ch.bx Cl Cm Cn [(Sl az1 r.2.1 cz2), (I r.2.2)] Cp Cq, Ch.ro 0 (Sl az1 r.2.1 cz2) r.2.1]) := by
 refine cal2 (n := 17) Tryz.func27 rfl rfl rfl rfl ?_
 intro S0 σ0 n0 hn0 H
 unfold M.impl_session_choose at h
 refine c_seq (rg (sa (.string (ByteArray.mk #[])) rfl (w_end (q_then (c_seq (rg (sm (Sl Dx Dw Dy) rfl ?_)))))))
 revert h; refine br fun x1 hx2 h => ?_
 obtain ⟨b4, o5, hi3, -⟩ := (H.ro 2 rfl).ix hx2
 refine st (v := (pt b4 o5)) (rv_ix Tryz.underlying22 ti9 rfl rfl hi3) ?_
 have hc6 := ((H.ro 2 rfl).at hx2 hi3).str
 refine st (v := (.string x1)) (rv_load1 Tryz.underlying9 rfl rfl hc6) ?_
 revert h; refine br fun r7 hx8 h => ?_
 have hc9 := c_impl_readNumber hx8
 refine st_call (cx_call hc9 (ent_f hc9.fn rfl) hn0 (H.sel' [3, 0, 1, 2, 3] rfl rfl : Hp S0 σ0 _ ([_] ++ _))) wn ?_
 rintro _ σ10 ⟨_, ⟨rfl, rfl⟩, H, -⟩
 replace H : Hp _ _ _ [_, _, _, _] := H
 refine sa (I r7) rfl (w_end (q_then (c_seq (c_seq (rg (sm (I r7) rfl ?_))))))
 revert h; refine br fun r11 hx12 h => ?_
 have hc13 := c_impl_validKind hx12
 refine st_call (cx_call hc13 (ent_f hc13.fn rfl) hn0 (H.sel' [0, 1, 2, 3] rfl rfl : Hp S0 σ0 _ ([] ++ _))) wn ?_
 rintro _ σ14 ⟨_, ⟨rfl, rfl⟩, H, -⟩
 replace H : Hp _ _ _ [_, _, _, _] := H
 refine st (v := (B (!r11))) (rv_not rfl) (w_end (q_then ?_))
 refine cd_cond (!r11) rfl (fun hb15 => ?_) (fun hb15 => ?_)
 ·replace h := bif_t hb15 h
  refine c_seq (rg (sa (.string (ByteArray.mk #[110, 111])) rfl (w_end (q_then (c_ret (q_then_r ?_))))))
  obtain rfl := sj h
  exact fin_ret (v := (.string (ByteArray.mk #[110, 111]))) (results_ok Tryz.results27 (res_tmp (v := (.string (ByteArray.mk #[110, 111]))) rfl res_nil) rfl) ⟨Cj, Ck, rfl, rfl⟩ (H.sel' [0, 1] rfl rfl)
 ·replace h := bif_f hb15 h
  refine c_skip (q_then (c_seq (rg (sm (pt Cm Cn) rfl (sm (I r7) rfl (st (v := (pt Cm Cn)) (rv_nilCheck rfl) (st (v := (pt Cm (Cn + 1))) (rv_fieldAddr (off := 1) (ft := 3) Tryz.underlying34 rfl ti3 rfl rfl) ?_)))))))
  refine st_exS (ex_store_box (k := 1) (cs := [(Sl Cj Af.1 Ck), (I Af.2)]) (vs := [(I r7)]) (cs' := [(Sl Cj Af.1 Ck), (I r7)]) H (i := 0) rfl ti3 rfl rfl rfl rfl rfl (Nat.le_of_ble_eq_true rfl) (by simp [plain]) rfl) wn ?_
  rintro σ16 ⟨H, -⟩
  refine w_end (q_then (c_seq (rg (sa (.string (ByteArray.mk #[111, 107])) rfl (w_end (q_then (c_ret ?_)))))))
  obtain rfl := sj h
  exact fin_ret (v := (.string (ByteArray.mk #[111, 107]))) (results_ok Tryz.results27 (res_tmp (v := (.string (ByteArray.mk #[111, 107]))) rfl res_nil) rfl) ⟨Cj, Ck, rfl, rfl⟩ (H.sel' [0, 1] rfl rfl)

theorem c_impl_ClosestPair {Ak : List (Int × (List Int) × Int)} {Bz : Int} {Am : Option Addr} {Ao : Nat} {r : Int × Int × Bool} (h : M.impl_ClosestPair Ak Bz = some r) :
    Cal2 Tryz.prog 51 [(Sl Am Ak Ao), (I Bz)] [Ch.ro 0 (Sl Am Ak Ao) Ak] (fun n0 v L => v = (.tuple #[(I r.1), (I r.2.1), (B r.2.2)]) ∧ L = []) := by
 refine cal2 (n := 62) Tryz.func51 rfl rfl rfl rfl ?_
 intro S0 σ0 n0 hn0 H
 unfold M.impl_ClosestPair at h
 refine c_seq (rg (sa (I 0) rfl (sa (I 0) rfl (sa (B false) rfl (w_end (q_then (c_seq (c_seq ?_))))))))
 obtain ⟨o1, hj, h'⟩ := bind_some h
 clear h
 refine c_cut (fun e a w => e = .normal ∧ ∃ (ρ : Nat → Value) (σ : St), a = fr 62 (updL ρ [(0, (Sl Am Ak Ao)), (1, (I Bz)), (27, (B o1))]) ∧ w = σ.w ∧ Hp S0 σ0 σ [Ch.ro 0 (Sl Am Ak Ao) Ak]) ?_ ?_
 ·clear h'
  rename _ = some o1 => h
  refine rg (sm (Sl Am Ak Ao) rfl ?_)
  revert h; refine br fun r2 hx3 h => ?_
  have hc4 := c_impl_ValidStore (Am := Am) (Ao := Ao) hx3
  refine st_call (cx_call hc4 (ent_f hc4.fn rfl) hn0 (H.sel' [0, 0] rfl rfl : Hp S0 σ0 _ ([_] ++ _))) wn ?_
  rintro _ σ5 ⟨_, ⟨rfl, rfl⟩, H, -⟩
  replace H : Hp _ _ _ [_] := H
  refine st (v := (B (!r2))) (rv_not rfl) (sm (B (!r2)) rfl ?_)
  rcases Bool.eq_false_or_eq_true (!r2) with hb6 | hb6
  ·replace h := bif_t hb6 h
   refine st_skip (congrArg some hb6) (st_skip (congrArg some hb6) (st_skip (congrArg some hb6) (st (v := (B true)) (rv_pick_t (congrArg B hb6) rfl) (sm (B true) rfl (st_skip rfl (st_skip rfl (st_skip rfl (st (v := (B true)) (rv_pick_t rfl rfl) (w_end ?_)))))))))
   obtain rfl := sj h
   exact ⟨rfl, _, σ5, fr_join ⟨rfl, rfl, rfl, trivial⟩, rfl, H.sel' [0] rfl rfl⟩
  ·replace h := bif_f hb6 h
   refine st_g (v := (I Bz)) (congrArg some hb6) (rv_move rfl) ?_
   revert h; refine br fun r7 hx8 h => ?_
   have hc9 := c_impl_validKind hx8
   refine st_call (cx_call hc9 (ent_f hc9.fn rfl) hn0 (H.sel' [0] rfl rfl : Hp S0 σ0 _ ([] ++ _))) (wanted_yes rfl (by exact (congrArg some hb6))) ?_
   rintro _ σ10 ⟨_, ⟨rfl, rfl⟩, H, -⟩
   replace H : Hp _ _ _ [_] := H
   refine st_g (v := (B (!r7))) (congrArg some hb6) (rv_not rfl) (st (v := (B (!r7))) (rv_pick_f (congrArg B hb6) rfl) (sm (B (!r7)) rfl ?_))
   rcases Bool.eq_false_or_eq_true (!r7) with hb11 | hb11
   ·replace h := bif_t hb11 h
    refine st_skip (congrArg some hb11) (st_skip (congrArg some hb11) (st_skip (congrArg some hb11) (st (v := (B true)) (rv_pick_t (congrArg B hb11) rfl) (w_end ?_))))
    obtain rfl := sj h
    exact ⟨rfl, _, σ10, fr_join ⟨rfl, rfl, rfl, trivial⟩, rfl, H.sel' [0] rfl rfl⟩
   ·replace h := bif_f hb11 h
    refine st_g (v := (Sl Am Ak Ao)) (congrArg some hb11) (rv_move rfl) (st_g (v := (I (Ak.length : Int))) (congrArg some hb11) (rv_len Tryz.underlying29 rfl) (st_g (v := (B (decide ((Ak.length : Int) < 2)))) (congrArg some hb11) (rv_lss (a := (Ak.length : Int)) (b := 2) rfl rfl) (st (v := (B (decide ((Ak.length : Int) < 2)))) (rv_pick_f (congrArg B hb11) rfl) (w_end ?_))))
    obtain rfl := sj h
    exact ⟨rfl, _, σ10, fr_join ⟨rfl, rfl, rfl, trivial⟩, rfl, H.sel' [0] rfl rfl⟩
 ·clear hj
  have h := h'
  clear h' H
  rintro e a w ⟨rfl, ρ, σ12, rfl, rfl, H⟩
  refine q_then ?_
  refine cd_cond o1 rfl (fun hb13 => ?_) (fun hb13 => ?_)
  ·replace h := bif_t hb13 h
   refine c_seq (rg (sa (I 0) rfl (sa (I 0) rfl (sa (B false) rfl (w_end (q_then (c_ret (q_then_r ?_))))))))
   obtain rfl := sj h
   exact fin_ret (v := (.tuple #[(I 0), (I 0), (B false)])) (results_ok Tryz.results51 (res_tmp (v := (I 0)) rfl (res_tmp (v := (I 0)) rfl (res_tmp (v := (B false)) rfl res_nil))) rfl) ⟨rfl, rfl⟩ (H.sel' [] rfl rfl)
  ·replace h := bif_f hb13 h
   refine c_skip (q_then (c_seq (rg (sa (I 0) rfl (sa (I 0) rfl (sa (I 1000000) rfl (w_end (q_then (c_seq (c_seq (rg ?_)))))))))))
   refine sm (Sl Am Ak Ao) rfl (st (v := (I (Ak.length : Int))) (rv_len Tryz.underlying29 rfl) (sm (I 0) rfl (w_end (q_then ?_))))
   obtain ⟨o14, hj, h'⟩ := bind_some h
   clear h
   refine c_cut (fun e a w => e = .normal ∧ ∃ (ρ : Nat → Value) (σ : St), a = fr 62 (updL ρ [(7, (I o14.1)), (8, (I o14.2))]) ∧ w = σ.w ∧ Hp S0 σ0 σ []) ?_ ?_
   ·clear h'
    rename _ = some o14 => h
    refine c_blk (wp_loopM _ h (fun s15 a w => ∃ (ρ : Nat → Value) (σ : St), a = fr 62 (updL ρ [(0, (Sl Am Ak Ao)), (1, (I Bz)), (7, (I s15.1)), (8, (I s15.2.1)), (9, (I s15.2.2.1)), (28, (Sl Am Ak Ao)), (29, (I (Ak.length : Int))), (30, (I s15.2.2.2))]) ∧ w = σ.w ∧ Hp S0 σ0 σ [Ch.ro 0 (Sl Am Ak Ao) Ak]) ⟨_, σ12, fr_join ⟨rfl, rfl, rfl, rfl, rfl, rfl, rfl, rfl, trivial⟩, rfl, H.sel' [0] rfl rfl⟩ ?_)
    clear h H
    rintro s15 a w o ⟨ρ, σ16, rfl, rfl, H⟩ h hres
    refine c_seq (rg (st (v := (B (decide (s15.2.2.2 < (Ak.length : Int))))) (rv_lss (a := s15.2.2.2) (b := (Ak.length : Int)) rfl rfl) (w_end (q_then (c_seq ?_)))))
    refine cd_cond (decide (s15.2.2.2 < (Ak.length : Int))) rfl (fun hb17 => ?_) (fun hb17 => ?_)
    ·replace h := bif_t hb17 h
     refine c_skip (q_then (c_seq (c_blk (c_seq (rg (sm (I s15.2.2.2) rfl ?_))))))
     revert h; refine br fun x18 hx19 h => ?_
     obtain ⟨b21, o22, hi20, -⟩ := (H.ro 0 rfl).ix hx19
     refine st (v := (pt b21 o22)) (rv_ix Tryz.underlying29 ti67 rfl rfl hi20) ?_
     obtain ⟨_, ⟨_, _, rfl, rfl, ⟨_, _, rfl, ⟨_, rfl, hR27⟩, rfl⟩⟩, hl23, hc24⟩ := ((H.ro 0 rfl).at hx19 hi20).cells
     obtain ⟨a25, c26, rfl⟩ := hR27.isSl
     replace H := H.add (d := Ch.ro 0 (Sl a25 x18.2.1 c26) x18.2.1) hR27 (fun _ h => h)
     clear hR27
     refine st (v := (.agg #[(I x18.1), (Sl a25 x18.2.1 c26), (I x18.2.2)])) (rv_load Tryz.underlying67 rfl ti67 rfl hl23 hc24) (st_ex (ex_alloc (cs := [(I 0), (.slice none 0 0), (I 0)]) H hn0 ti67 rfl) wn ?_)
     rintro _ σ29 ⟨b28, rfl, H, -⟩
     refine sa (I s15.2.2.2) rfl ?_
     refine st_exS (ex_store_box (k := 0) (cs := [(I 0), (.slice none 0 0), (I 0)]) (vs := [(I x18.1), (Sl a25 x18.2.1 c26), (I x18.2.2)]) (cs' := [(I x18.1), (Sl a25 x18.2.1 c26), (I x18.2.2)]) H (i := 0) rfl ti67 rfl rfl rfl rfl rfl (Nat.le_of_ble_eq_true rfl) (by simp [plain]) rfl) wn ?_
     rintro σ30 ⟨H, -⟩
     refine w_end (q_then (c_seq (rg (sm (Sl Am Ak Ao) rfl (sm (I s15.2.2.2) rfl (st (v := (I (w64 (s15.2.2.2 + 1)))) (rv_add (a := s15.2.2.2) (b := 1) rfl rfl) ?_))))))
     revert h; refine br fun xs31 hx32 h => ?_
     obtain ⟨a33, c34, hs35, hR36⟩ := (H.ro 2 rfl).slice hx32
     replace H := H.add (d := Ch.ro 0 (Sl a33 xs31 c34) xs31) hR36 (fun _ h => h)
     clear hR36
     refine st (v := (Sl a33 xs31 c34)) (rv_slice_l Tryz.underlying29 ti67 hs35 rfl rfl) (st (v := (I (xs31.length : Int))) (rv_len Tryz.underlying29 rfl) (sm (I 0) rfl (w_end (q_then ?_))))
     obtain ⟨o37, hj, h'⟩ := bind_some h
     clear h
     refine c_cut (fun e a w => e = .normal ∧ ∃ (ρ : Nat → Value) (σ : St), a = fr 62 (updL ρ [(0, (Sl Am Ak Ao)), (1, (I Bz)), (7, (I o37.1)), (8, (I o37.2.1)), (9, (I o37.2.2)), (28, (Sl Am Ak Ao)), (29, (I (Ak.length : Int))), (30, (I s15.2.2.2))]) ∧ w = σ.w ∧ Hp S0 σ0 σ [Ch.ro 0 (Sl Am Ak Ao) Ak]) ?_ ?_
     ·clear h'
      rename _ = some o37 => h
      refine c_blk (wp_loopM _ h (fun s38 a w => ∃ (ρ : Nat → Value) (σ : St), a = fr 62 (updL ρ [(0, (Sl Am Ak Ao)), (1, (I Bz)), (7, (I s38.1)), (8, (I s38.2.1)), (9, (I s38.2.2.1)), (11, (pt b28 0)), (28, (Sl Am Ak Ao)), (29, (I (Ak.length : Int))), (30, (I s15.2.2.2)), (38, (Sl a33 xs31 c34)), (39, (I (xs31.length : Int))), (40, (I s38.2.2.2))]) ∧ w = σ.w ∧ Hp S0 σ0 σ [Ch.ro 0 (Sl Am Ak Ao) Ak, Ch.ro 0 (Sl a25 x18.2.1 c26) x18.2.1, Ch.bx n0 b28 0 [(I x18.1), (Sl a25 x18.2.1 c26), (I x18.2.2)] [] [], Ch.ro 0 (Sl a33 xs31 c34) xs31]) ⟨_, σ30, fr_join ⟨rfl, rfl, rfl, rfl, rfl, rfl, rfl, rfl, rfl, rfl, rfl, rfl, trivial⟩, rfl, H.sel' [3, 2, 1, 0] rfl rfl⟩ ?_)
      clear h H
      rintro s38 a w o ⟨ρ, σ39, rfl, rfl, H⟩ h hres
      refine c_seq (rg (st (v := (B (decide (s38.2.2.2 < (xs31.length : Int))))) (rv_lss (a := s38.2.2.2) (b := (xs31.length : Int)) rfl rfl) (w_end (q_then (c_seq ?_)))))
      refine cd_cond (decide (s38.2.2.2 < (xs31.length : Int))) rfl (fun hb40 => ?_) (fun hb40 => ?_)
      ·replace h := bif_t hb40 h
       refine c_skip (q_then (c_seq ?_))
       obtain ⟨o41, hj, h'⟩ := bind_some h
       clear h
       refine c_cut (fun e a w => e = .normal ∧ ∃ (ρ : Nat → Value) (σ : St), a = fr 62 (updL ρ [(0, (Sl Am Ak Ao)), (1, (I Bz)), (7, (I o41.1)), (8, (I o41.2.1)), (9, (I o41.2.2)), (11, (pt b28 0)), (28, (Sl Am Ak Ao)), (29, (I (Ak.length : Int))), (30, (I s15.2.2.2)), (38, (Sl a33 xs31 c34)), (39, (I (xs31.length : Int))), (40, (I s38.2.2.2))]) ∧ w = σ.w ∧ Hp S0 σ0 σ [Ch.ro 0 (Sl Am Ak Ao) Ak, Ch.ro 0 (Sl a25 x18.2.1 c26) x18.2.1, Ch.bx n0 b28 0 [(I x18.1), (Sl a25 x18.2.1 c26), (I x18.2.2)] [] [], Ch.ro 0 (Sl a33 xs31 c34) xs31]) ?_ ?_
       ·clear h'
        rename _ = some o41 => h
        refine c_blk (c_seq (rg ?_))
        revert h; refine br fun x42 hx43 h => ?_
        obtain ⟨b45, o46, hi44, -⟩ := (H.ro 3 rfl).ix hx43
        refine st (v := (pt b45 o46)) (rv_ix Tryz.underlying29 ti67 rfl rfl hi44) ?_
        obtain ⟨_, ⟨_, _, rfl, rfl, ⟨_, _, rfl, ⟨_, rfl, hR51⟩, rfl⟩⟩, hl47, hc48⟩ := ((H.ro 3 rfl).at hx43 hi44).cells
        obtain ⟨a49, c50, rfl⟩ := hR51.isSl
        replace H := H.add (d := Ch.ro 0 (Sl a49 x42.2.1 c50) x42.2.1) hR51 (fun _ h => h)
        clear hR51
        refine st (v := (.agg #[(I x42.1), (Sl a49 x42.2.1 c50), (I x42.2.2)])) (rv_load Tryz.underlying67 rfl ti67 rfl hl47 hc48) (st_ex (ex_alloc (cs := [(I 0), (.slice none 0 0), (I 0)]) H hn0 ti67 rfl) wn ?_)
        rintro _ σ53 ⟨b52, rfl, H, -⟩
        refine st_exS (ex_store_box (k := 0) (cs := [(I 0), (.slice none 0 0), (I 0)]) (vs := [(I x42.1), (Sl a49 x42.2.1 c50), (I x42.2.2)]) (cs' := [(I x42.1), (Sl a49 x42.2.1 c50), (I x42.2.2)]) H (i := 0) rfl ti67 rfl rfl rfl rfl rfl (Nat.le_of_ble_eq_true rfl) (by simp [plain]) rfl) wn ?_
        rintro σ54 ⟨H, -⟩
        refine w_end (q_then (c_seq (rg (sm (I Bz) rfl (st (v := (pt b28 1)) (rv_fieldAddr (off := 1) (ft := 51) Tryz.underlying67 rfl ti51 rfl rfl) ?_)))))
        have hc55 := H.cell (u := (Sl a25 x18.2.1 c26)) (o' := 1) 4 1 rfl rfl rfl
        refine st (v := (Sl a25 x18.2.1 c26)) (rv_load1 Tryz.underlying51 rfl rfl hc55) (st (v := (pt b52 1)) (rv_fieldAddr (off := 1) (ft := 51) Tryz.underlying67 rfl ti51 rfl rfl) ?_)
        have hc56 := H.cell (u := (Sl a49 x42.2.1 c50)) (o' := 1) 0 1 rfl rfl rfl
        refine st (v := (Sl a49 x42.2.1 c50)) (rv_load1 Tryz.underlying51 rfl rfl hc56) ?_
        revert h; refine br fun r57 hx58 h => ?_
        have hc59 := c_impl_Distance (Br := a25) (Bs := c26) (Bt := a49) (Bu := c50) hx58
        refine st_call (cx_call hc59 (ent_f hc59.fn rfl) hn0 (H.sel' [3, 1, 0, 1, 2, 3, 4, 5] rfl rfl : Hp S0 σ0 _ ([_, _] ++ _))) wn ?_
        rintro _ σ60 ⟨_, ⟨rfl, rfl⟩, H, -⟩
        replace H : Hp _ _ _ [_, _, _, _, _, _] := H
        refine sa (I r57) rfl (w_end (q_then (c_seq (rg (sm (I r57) rfl (sm (I s38.2.2.1) rfl (st (v := (B (decide (r57 < s38.2.2.1)))) (rv_lss (a := r57) (b := s38.2.2.1) rfl rfl) (w_end (q_then ?_)))))))))
        refine cd_cond (decide (r57 < s38.2.2.1)) rfl (fun hb61 => ?_) (fun hb61 => ?_)
        ·replace h := bif_t hb61 h
         refine rgP (σ := σ60) 7 (by kernel_rfl) (by kernel_rfl) (by kernel_rfl) ?_
         refine sq (v := (pt b28 0)) (rv_fieldAddr (off := 0) (ft := 3) Tryz.underlying67 rfl ti3 rfl rfl) ?_
         have hc62 := H.cell (u := (I x18.1)) (o' := 0) 4 0 rfl rfl rfl
         refine sq (v := (I x18.1)) (rv_load1 Tryz.underlying3 rfl rfl hc62) (sq (v := (pt b52 0)) (rv_fieldAddr (off := 0) (ft := 3) Tryz.underlying67 rfl ti3 rfl rfl) ?_)
         have hc63 := H.cell (u := (I x42.1)) (o' := 0) 0 0 rfl rfl rfl
         refine sq (v := (I x42.1)) (rv_load1 Tryz.underlying3 rfl rfl hc63) (sq (v := (I r57)) (rv_move rfl) (sq (v := (I x18.1)) (rv_assign rfl) (sq (v := (I x42.1)) (rv_assign rfl) (sq_end ?_))))
         intro σ64 hm65
         replace H := H.grow (hm65.mono fun _ h => h); clear hm65
         refine sa (I r57) rfl (w_end (q_blk ?_))
         obtain rfl := sj h
         exact ⟨rfl, _, σ64, fr_join ⟨rfl, rfl, rfl, rfl, rfl, rfl, rfl, rfl, rfl, rfl, rfl, rfl, trivial⟩, rfl, H.sel' [2, 3, 4, 5] rfl rfl⟩
        ·replace h := bif_f hb61 h
         refine c_skip (q_blk ?_)
         obtain rfl := sj h
         exact ⟨rfl, _, σ60, fr_join ⟨rfl, rfl, rfl, rfl, rfl, rfl, rfl, rfl, rfl, rfl, rfl, rfl, trivial⟩, rfl, H.sel' [2, 3, 4, 5] rfl rfl⟩
       ·clear hj
        have h := h'
        clear h' H
        rintro e a w ⟨rfl, ρ, σ66, rfl, rfl, H⟩
        refine q_then (rg (st (v := (I (w64 (s38.2.2.2 + 1)))) (rv_add (a := s38.2.2.2) (b := 1) rfl rfl) (sm (I (w64 (s38.2.2.2 + 1))) rfl (w_end (q_then ?_)))))
        obtain rfl := sj h
        exact ⟨_, rfl, _, σ66, fr_join ⟨rfl, rfl, rfl, rfl, rfl, rfl, rfl, rfl, rfl, rfl, rfl, rfl, trivial⟩, rfl, H.sel' [0, 1, 2, 3] rfl rfl⟩
      ·replace h := bif_f hb40 h
       refine c_exit (q_then_x (q_then_x (q_blk_hit ?_)))
       obtain rfl := sj h
       obtain rfl := hres _ rfl
       exact ⟨rfl, _, σ39, fr_join ⟨rfl, rfl, rfl, rfl, rfl, rfl, rfl, rfl, trivial⟩, rfl, H.sel' [0] rfl rfl⟩
     ·clear hj
      have h := h'
      clear h' H
      rintro e a w ⟨rfl, ρ, σ67, rfl, rfl, H⟩
      refine q_blk (q_then (rg (st (v := (I (w64 (s15.2.2.2 + 1)))) (rv_add (a := s15.2.2.2) (b := 1) rfl rfl) (sm (I (w64 (s15.2.2.2 + 1))) rfl (w_end (q_then ?_))))))
      obtain rfl := sj h
      exact ⟨_, rfl, _, σ67, fr_join ⟨rfl, rfl, rfl, rfl, rfl, rfl, rfl, rfl, trivial⟩, rfl, H.sel' [0] rfl rfl⟩
    ·replace h := bif_f hb17 h
     refine c_exit (q_then_x (q_then_x (q_blk_hit ?_)))
     obtain rfl := sj h
     obtain rfl := hres _ rfl
     exact ⟨rfl, _, σ16, fr_join ⟨rfl, rfl, trivial⟩, rfl, H.sel' [] rfl rfl⟩
   ·clear hj
    have h := h'
    clear h' H
    rintro e a w ⟨rfl, ρ, σ68, rfl, rfl, H⟩
    refine q_then (c_seq (rg (sm (I o14.1) rfl (sm (I o14.2) rfl (sa (I o14.1) rfl (sa (I o14.2) rfl (sa (B true) rfl (w_end (q_then (c_ret ?_))))))))))
    obtain rfl := sj h
    exact fin_ret (v := (.tuple #[(I o14.1), (I o14.2), (B true)])) (results_ok Tryz.results51 (res_tmp (v := (I o14.1)) rfl (res_tmp (v := (I o14.2)) rfl (res_tmp (v := (B true)) rfl res_nil))) rfl) ⟨rfl, rfl⟩ (H.sel' [] rfl rfl)

theorem c_impl_session_pair {Af : (List (Int × (List Int) × Int)) × Int} {Ef : List ByteArray} {Cj : Option Addr} {Ck : Nat} {Cl Cm Cn : Nat} {Cp Cq : List Value} {Hc : Option Addr} {Hd : Nat} {r : ByteArray} (h : M.impl_session_pair Af Ef = some r) :
    Cal2 Tryz.prog 28 [(pt Cm Cn), (Sl Hc Ef Hd)] [Ch.bx Cl Cm Cn [(Sl Cj Af.1 Ck), (I Af.2)] Cp Cq, Ch.ro 0 (Sl Cj Af.1 Ck) Af.1, Ch.ro 0 (Sl Hc Ef Hd) Ef, Ch.gw gw0] (fun n0 v L => v = (.string r) ∧ L = [Ch.bx Cl Cm Cn [(Sl Cj Af.1 Ck), (I Af.2)] Cp Cq]) := by
 refine cal2 (n := 29) Tryz.func28 rfl rfl rfl rfl ?_
 intro S0 σ0 n0 hn0 H
 unfold M.impl_session_pair at h
 refine c_seq (rg (sa (.string (ByteArray.mk #[])) rfl (w_end (q_then (c_seq ?_)))))
 have hc1 := H.cell (u := (Sl Cj Af.1 Ck)) (o' := Cn) 0 0 rfl rfl rfl
 have hc2 := H.cell (u := (I Af.2)) (o' := (Cn + 1)) 0 1 rfl rfl rfl
 revert h; refine br fun r3 hx4 h => ?_
 have hc5 := c_impl_ClosestPair (Am := Cj) (Ao := Ck) hx4
 have Hs := H
 refine rg2 (σ := σ0) (Nm := Unit) 15 [8] [[false], [true]] [[(0, 0)], [(0, 0)], [(0, 0)], [(0, 0)], [(0, 0)], [(0, 0)], [(0, 0)], [(0, 0)], [(0, 1)], [(1, 1)], [(1, 1)], [(1, 1)], [(1, 1)], [(1, 1)], [(1, 1)]] 1 [fun _ => fun σm => Hp S0 σ0 σm [Ch.bx Cl Cm Cn [(Sl Cj Af.1 Ck), (I Af.2)] Cp Cq, Ch.ro 0 (Sl Cj Af.1 Ck) Af.1, Ch.ro 0 (Sl Hc Ef Hd) Ef, Ch.gw gw0] ∧ Md (cov []) σ0 σm, fun _ => fun σm => Hp S0 σ0 σm [Ch.bx Cl Cm Cn [(Sl Cj Af.1 Ck), (I Af.2)] Cp Cq, Ch.ro 0 (Sl Cj Af.1 Ck) Af.1, Ch.ro 0 (Sl Hc Ef Hd) Ef, Ch.gw gw0] ∧ Md (cov []) σ0 σm] [fun _ => (pt Cm Cn), fun _ => (pt Cm Cn), fun _ => (pt Cm Cn), fun _ => (Sl Cj Af.1 Ck), fun _ => (pt Cm Cn), fun _ => (pt Cm Cn), fun _ => (pt Cm (Cn + 1)), fun _ => (I Af.2), fun _ => (.tuple #[(I r3.1), (I r3.2.1), (B r3.2.2)]), fun _ => (.tuple #[(I r3.1), (I r3.2.1), (B r3.2.2)]), fun _ => (I r3.1), fun _ => (I r3.2.1), fun _ => (B r3.2.2), fun _ => (I r3.1), fun _ => (I r3.2.1)] () (by kernel_rfl) (by kernel_rfl) ?_ ?_ ?_
 ·intro σm m0
  exact ⟨H.grow (m0.mono fun _ h => h.elim), m0⟩
 ·refine ac rfl (by
    intro k _nm ρ σm hJ hoff hdep
    have e0 := look_off (N := 29) (hoff 0 rfl) rfl
    exact dp_v (v := (pt Cm Cn)) wn (rv_move e0) rfl hJ) ?_
  refine ac rfl (by
    intro k _nm ρ σm hJ hoff hdep
    have e9 := hdep 0 rfl rfl 9 rfl
    exact dp_v (v := (pt Cm Cn)) wn (rv_nilCheck e9) rfl hJ) ?_
  refine ac rfl (by
    intro k _nm ρ σm hJ hoff hdep
    have e10 := hdep 1 rfl rfl 10 rfl
    exact dp_v (v := (pt Cm Cn)) wn (rv_fieldAddr (off := 0) (ft := 29) Tryz.underlying34 rfl ti29 rfl e10) rfl hJ) ?_
  refine all_cons (by
    refine ⟨?_, ?_⟩
    ·intro _nm ρ σm hJ hoff hdep
     have e11 := hdep 2 rfl rfl 11 rfl
     obtain ⟨H, m⟩ := id hJ
     have hc1 := H.cell (u := (Sl Cj Af.1 Ck)) (o' := Cn) 0 0 rfl rfl rfl
     exact dp_v (v := (Sl Cj Af.1 Ck)) wn (rv_load1 Tryz.underlying29 rfl e11 hc1) rfl hJ
    trivial) ?_
  refine ac rfl (by
    intro k _nm ρ σm hJ hoff hdep
    have e0 := look_off (N := 29) (hoff 0 rfl) rfl
    exact dp_v (v := (pt Cm Cn)) wn (rv_move e0) rfl hJ) ?_
  refine ac rfl (by
    intro k _nm ρ σm hJ hoff hdep
    have e13 := hdep 4 rfl rfl 13 rfl
    exact dp_v (v := (pt Cm Cn)) wn (rv_nilCheck e13) rfl hJ) ?_
  refine ac rfl (by
    intro k _nm ρ σm hJ hoff hdep
    have e14 := hdep 5 rfl rfl 14 rfl
    exact dp_v (v := (pt Cm (Cn + 1))) wn (rv_fieldAddr (off := 1) (ft := 3) Tryz.underlying34 rfl ti3 rfl e14) rfl hJ) ?_
  refine all_cons (by
    refine ⟨?_, ?_⟩
    ·intro _nm ρ σm hJ hoff hdep
     have e15 := hdep 6 rfl rfl 15 rfl
     obtain ⟨H, m⟩ := id hJ
     have hc2 := H.cell (u := (I Af.2)) (o' := (Cn + 1)) 0 1 rfl rfl rfl
     exact dp_v (v := (I Af.2)) wn (rv_load1 Tryz.underlying3 rfl e15 hc2) rfl hJ
    trivial) ?_
  refine all_cons (by
    refine ⟨?_, ?_⟩
    ·intro _nm ρ σm hJ hoff hdep
     have e12 : look 29 ρ 12 = (Sl Cj Af.1 Ck) := hdep 3 rfl rfl 12 rfl
     have e16 : look 29 ρ 16 = (I Af.2) := hdep 7 rfl rfl 16 rfl
     obtain ⟨H, m⟩ := id hJ
     refine dp_cx wn (cx_call hc5 (ent_f hc5.fn (by show [look 29 ρ 12, look 29 ρ 16] = _; rw [e12, e16])) hn0 (H.sel' [1, 0, 1, 2, 3] rfl rfl : Hp S0 σ0 _ ([_] ++ _))) ?_
     rintro _ σq ⟨_, ⟨rfl, rfl⟩, H2, m2⟩
     exact ⟨_, (), rfl, rfl, ⟨H2.sel' [0, 1, 2, 3] rfl rfl, m.comp0 (m2.mono (fun i h => by simp [cov, Ch.ro] at h))⟩, stab [0, 1, 2, 3, 4, 5, 6, 7] (by kernel_rfl) ⟨rfl, rfl, rfl, rfl, rfl, rfl, rfl, rfl, trivial⟩⟩
    trivial) ?_
  refine ac rfl (by
    intro k _nm ρ σm hJ hoff hdep
    have e17 := hdep 8 rfl rfl 17 rfl
    exact dp_v (v := (.tuple #[(I r3.1), (I r3.2.1), (B r3.2.2)])) wn (rv_move e17) rfl hJ) ?_
  refine ac rfl (by
    intro k _nm ρ σm hJ hoff hdep
    have e8 := hdep 9 rfl rfl 8 rfl
    exact dp_v (v := (I r3.1)) wn (rv_extract e8 rfl) rfl hJ) ?_
  refine ac rfl (by
    intro k _nm ρ σm hJ hoff hdep
    have e8 := hdep 9 rfl rfl 8 rfl
    exact dp_v (v := (I r3.2.1)) wn (rv_extract e8 rfl) rfl hJ) ?_
  refine ac rfl (by
    intro k _nm ρ σm hJ hoff hdep
    have e8 := hdep 9 rfl rfl 8 rfl
    exact dp_v (v := (B r3.2.2)) wn (rv_extract e8 rfl) rfl hJ) ?_
  refine ac rfl (by
    intro k _nm ρ σm hJ hoff hdep
    have e18 := hdep 10 rfl rfl 18 rfl
    exact dp_v (v := (I r3.1)) wn (rv_assign e18) rfl hJ) ?_
  refine ac rfl (by
    intro k _nm ρ σm hJ hoff hdep
    have e19 := hdep 11 rfl rfl 19 rfl
    exact dp_v (v := (I r3.2.1)) wn (rv_assign e19) rfl hJ) ?_
  exact all_nil
 ·intro _nm ρ σ6 hJ hoff hrel
  have e0 := look_off (N := 29) (hoff 0 rfl) rfl
  have e5 := hrel 13 rfl 5 rfl
  have e6 := hrel 14 rfl 6 rfl
  have e20 := hrel 12 rfl 20 rfl
  obtain ⟨H, -⟩ := (show Hp S0 σ0 σ6 [Ch.bx Cl Cm Cn [(Sl Cj Af.1 Ck), (I Af.2)] Cp Cq, Ch.ro 0 (Sl Cj Af.1 Ck) Af.1, Ch.ro 0 (Sl Hc Ef Hd) Ef, Ch.gw gw0] ∧ Md (cov []) σ0 σ6 from hJ)
  clear hJ Hs
  rw [fr_lookL (L := [(0, (pt Cm Cn)), (5, (I r3.1)), (6, (I r3.2.1)), (20, (B r3.2.2))]) ⟨e0, e5, e6, e20, trivial⟩]
  clear hoff hrel e0 e5 e6 e20
  refine sa (B r3.2.2) rfl (w_end (q_then (c_seq (c_seq (rg (sm (B r3.2.2) rfl (st (v := (B (!r3.2.2))) (rv_not rfl) (w_end (q_then ?_)))))))))
  refine cd_cond (!r3.2.2) rfl (fun hb7 => ?_) (fun hb7 => ?_)
  ·replace h := bif_t hb7 h
   refine c_seq (rg (sa (.string (ByteArray.mk #[110, 111])) rfl (w_end (q_then (c_ret (q_then_r ?_))))))
   obtain rfl := sj h
   exact fin_ret (v := (.string (ByteArray.mk #[110, 111]))) (results_ok Tryz.results28 (res_tmp (v := (.string (ByteArray.mk #[110, 111]))) rfl res_nil) rfl) ⟨rfl, rfl⟩ (H.sel' [0] rfl rfl)
  ·replace h := bif_f hb7 h
   refine c_skip (q_then (c_seq (rg (sm (I r3.1) rfl ?_))))
   revert h; refine br fun r8 hx9 h => ?_
   have hc10 := c_strconv_Itoa hx9
   refine st_call (cx_call hc10 (ent_f hc10.fn rfl) hn0 (H.sel' [3, 0, 1, 2, 3] rfl rfl : Hp S0 σ0 _ ([_] ++ _))) wn ?_
   rintro _ σ11 ⟨_, ⟨rfl, rfl⟩, H, -⟩
   replace H : Hp _ _ _ [_, _, _, _] := H
   revert h; refine br fun s12 hx13 h => ?_
   refine st (v := (.string s12)) (rv_scat rfl rfl hx13) (sm (I r3.2.1) rfl ?_)
   revert h; refine br fun r14 hx15 h => ?_
   have hc16 := c_strconv_Itoa hx15
   refine st_call (cx_call hc16 (ent_f hc16.fn rfl) hn0 (H.sel' [3, 0, 1, 2, 3] rfl rfl : Hp S0 σ0 _ ([_] ++ _))) wn ?_
   rintro _ σ17 ⟨_, ⟨rfl, rfl⟩, H, -⟩
   replace H : Hp _ _ _ [_, _, _, _] := H
   revert h; refine br fun s18 hx19 h => ?_
   refine st (v := (.string s18)) (rv_scat rfl rfl hx19) (sa (.string s18) rfl (w_end (q_then (c_ret ?_))))
   obtain rfl := sj h
   exact fin_ret (v := (.string s18)) (results_ok Tryz.results28 (res_tmp (v := (.string s18)) rfl res_nil) rfl) ⟨rfl, rfl⟩ (H.sel' [0] rfl rfl)

theorem c_impl_session_count {Af : (List (Int × (List Int) × Int)) × Int} {Ef : List ByteArray} {Cj : Option Addr} {Ck : Nat} {Cl Cm Cn : Nat} {Cp Cq : List Value} {Hc : Option Addr} {Hd : Nat} {r : ByteArray} (h : M.impl_session_count Af Ef = some r) :
    Cal2 Tryz.prog 29 [(pt Cm Cn), (Sl Hc Ef Hd)] [Ch.bx Cl Cm Cn [(Sl Cj Af.1 Ck), (I Af.2)] Cp Cq, Ch.ro 0 (Sl Cj Af.1 Ck) Af.1, Ch.ro 0 (Sl Hc Ef Hd) Ef, Ch.gw gw0] (fun n0 v L => v = (.string r) ∧ L = [Ch.bx Cl Cm Cn [(Sl Cj Af.1 Ck), (I Af.2)] Cp Cq]) := by
 refine cal2 (n := 11) Tryz.func29 rfl rfl rfl rfl ?_
 intro S0 σ0 n0 hn0 H
 unfold M.impl_session_count at h
 refine c_seq (rg (sa (.string (ByteArray.mk #[])) rfl (w_end (q_then (c_seq (rg (sm (pt Cm Cn) rfl (st (v := (pt Cm Cn)) (rv_nilCheck rfl) (st (v := (pt Cm Cn)) (rv_fieldAddr (off := 0) (ft := 29) Tryz.underlying34 rfl ti29 rfl rfl) ?_)))))))))
 have hc1 := H.cell (u := (Sl Cj Af.1 Ck)) (o' := Cn) 0 0 rfl rfl rfl
 refine st (v := (Sl Cj Af.1 Ck)) (rv_load1 Tryz.underlying29 rfl rfl hc1) (st (v := (I (Af.1.length : Int))) (rv_len Tryz.underlying29 rfl) ?_)
 revert h; refine br fun r2 hx3 h => ?_
 have hc4 := c_strconv_Itoa hx3
 refine st_call (cx_call hc4 (ent_f hc4.fn rfl) hn0 (H.sel' [3, 0, 1, 2, 3] rfl rfl : Hp S0 σ0 _ ([_] ++ _))) wn ?_
 rintro _ σ5 ⟨_, ⟨rfl, rfl⟩, H, -⟩
 replace H : Hp _ _ _ [_, _, _, _] := H
 refine sa (.string r2) rfl (w_end (q_then (c_ret ?_)))
 obtain rfl := sj h
 exact fin_ret (v := (.string r2)) (results_ok Tryz.results29 (res_tmp (v := (.string r2)) rfl res_nil) rfl) ⟨rfl, rfl⟩ (H.sel' [0] rfl rfl)

theorem c_impl_runLine__cm {He : (List (Int × (List Int) × Int)) × Int} {Ce : ByteArray} {Hf : Option Addr} {Hg : Nat} {Hi Hj Hk : Nat} {Hl Hm : List Value} {Hn : Nat} {r : ByteArray × ((List (Int × (List Int) × Int)) × Int)} (h : M.impl_runLine__cm He Ce = some r) :
    Cal2 Tryz.prog 12 [(.map (some Hn)), (.string Ce)] [Ch.bx Hi Hj Hk [(Sl Hf He.1 Hg), (I He.2)] Hl Hm, Ch.ro 0 (Sl Hf He.1 Hg) He.1, Ch.cr Hn (rows_impl_session_commands Hj Hk), Ch.gw gw0] (fun n0 v L => ∃ (az1 : Option Addr), ∃ (cz2 : Nat), v = (.string r.1) ∧ L = [Ch.bx Hi Hj Hk [(Sl az1 r.2.1 cz2), (I r.2.2)] Hl Hm, Ch.ro 0 (Sl az1 r.2.1 cz2) r.2.1]) := by
 refine cal2 (n := 33) Tryz.func12 rfl rfl rfl rfl ?_
 intro S0 σ0 n0 hn0 H
 unfold M.impl_runLine__cm at h
 refine c_seq (rg (sa (.string (ByteArray.mk #[])) rfl (w_end (q_then (c_seq (rg (sm (.string Ce) rfl ?_)))))))
 revert h; refine br fun r1 hx2 h => ?_
 have hc3 := c_strings_Split hx2
 refine st_call (cx_call hc3 (ent_f hc3.fn rfl) hn0 (H.sel' [3, 0, 1, 2, 3] rfl rfl : Hp S0 σ0 _ ([_] ++ _))) wn ?_
 rintro _ σ6 ⟨_, ⟨a4, c5, rfl, rfl⟩, H, -⟩
 replace H : Hp _ _ _ [_, _, _, _, _] := H
 refine sa (Sl a4 r1 c5) rfl (w_end (q_then (c_seq (rg (sm (.map (some Hn)) rfl (sm (Sl a4 r1 c5) rfl ?_))))))
 revert h; refine br fun x7 hx8 h => ?_
 obtain ⟨b10, o11, hi9, -⟩ := (H.own 0 rfl).ix hx8
 refine st (v := (pt b10 o11)) (rv_ix Tryz.underlying22 ti9 rfl rfl hi9) ?_
 have hc12 := ((H.own 0 rfl).at hx8 hi9).str
 refine st (v := (.string x7)) (rv_load1 Tryz.underlying9 rfl rfl hc12) ?_
 rcases Bool.eq_false_or_eq_true (x7 == (ByteArray.mk #[112, 117, 116])) with hb13 | hb13
 ·replace h := bif_t hb13 h
  have hL19 := (H.cr 3 rfl).1
  refine st (v := (.tuple #[(.agg #[(I 3), (.func (.func 24) #[(pt Hj Hk)] #[])]), (B true)])) (rv_lookupC (k := x7) (es := rows_impl_session_commands Hj Hk) Tryz.underlying35 Tryz.underlying9 ti60 rfl rfl hL19 (.inl ⟨sfind_t hb13, rfl⟩)) (sm (.tuple #[(.agg #[(I 3), (.func (.func 24) #[(pt Hj Hk)] #[])]), (B true)]) rfl (st (v := (.agg #[(I 3), (.func (.func 24) #[(pt Hj Hk)] #[])])) (rv_extract rfl rfl) (st (v := (B true)) (rv_extract rfl rfl) (st_ex (ex_alloc (cs := [(I 0), .nilFunc]) H hn0 ti60 rfl) wn ?_))))
  rintro _ σ21 ⟨b20, rfl, H, -⟩
  refine st_exS (ex_store_box (k := 0) (cs := [(I 0), .nilFunc]) (vs := [(I 3), (.func (.func 24) #[(pt Hj Hk)] #[])]) (cs' := [(I 3), (.func (.func 24) #[(pt Hj Hk)] #[])]) H (i := 0) rfl ti60 rfl rfl rfl rfl rfl (Nat.le_of_ble_eq_true rfl) (by simp [plain]) rfl) wn ?_
  rintro σ22 ⟨H, -⟩
  refine sa (B true) rfl (w_end (q_then (c_seq (c_seq (rg (sm (B true) rfl (st (v := (B (!true))) (rv_not rfl) (sm (B (!true)) rfl (st_g (v := (Sl a4 r1 c5)) rfl (rv_move rfl) (st_g (v := (I (r1.length : Int))) rfl (rv_len Tryz.underlying22 rfl) (st_g (v := (I (w64 ((r1.length : Int) - 1)))) rfl (rv_sub (a := (r1.length : Int)) (b := 1) rfl rfl) ?_)))))))))))
  refine st_g (v := (pt b20 0)) rfl (rv_fieldAddr (off := 0) (ft := 3) Tryz.underlying60 rfl ti3 rfl rfl) ?_
  have hc23 := H.cell (u := (I 3)) (o' := 0) 0 0 rfl rfl rfl
  refine st_g (v := (I 3)) rfl (rv_load1 Tryz.underlying3 rfl rfl hc23) (st_g (v := (B ((w64 ((r1.length : Int) - 1)) != 3))) rfl (rv_neq (a := (w64 ((r1.length : Int) - 1))) (b := 3) rfl rfl) (st (v := (B ((w64 ((r1.length : Int) - 1)) != 3))) (rv_pick_f rfl rfl) (w_end (q_then ?_))))
  refine cd_cond ((w64 ((r1.length : Int) - 1)) != 3) rfl (fun hb24 => ?_) (fun hb24 => ?_)
  ·replace h := bif_t hb24 h
   refine c_seq (rg (sa (.string (ByteArray.mk #[119, 104, 97, 116])) rfl (w_end (q_then (c_ret (q_then_r ?_))))))
   obtain rfl := sj h
   exact fin_ret (v := (.string (ByteArray.mk #[119, 104, 97, 116]))) (results_ok Tryz.results12 (res_tmp (v := (.string (ByteArray.mk #[119, 104, 97, 116]))) rfl res_nil) rfl) ⟨Hf, Hg, rfl, rfl⟩ (H.sel' [2, 3] rfl rfl)
  ·replace h := bif_f hb24 h
   refine c_skip (q_then (c_seq ?_))
   refine rgP (σ := σ22) 4 (by kernel_rfl) (by kernel_rfl) (by kernel_rfl) ?_
   refine sq (v := (pt b20 1)) (rv_fieldAddr (off := 1) (ft := 24) Tryz.underlying60 rfl ti24 rfl rfl) ?_
   have hc25 := H.cell (u := (.func (.func 24) #[(pt Hj Hk)] #[])) (o' := 1) 0 1 rfl rfl rfl
   refine sq (v := (.func (.func 24) #[(pt Hj Hk)] #[])) (rv_load1 Tryz.underlying24 rfl rfl hc25) (sq (v := (Sl a4 r1 c5)) (rv_move rfl) ?_)
   revert h; refine br fun xs26 hx27 h => ?_
   obtain ⟨a28, c29, hs30, hR31, hb32⟩ := (H.own 1 rfl).slice hx27
   replace H := (H.front (i := 1) rfl).turn (d := Ch.own n0 n0 (Sl a28 xs26 c29) xs26) (fun _ => hR31) hb32; clear hR31 hb32
   refine sq (v := (Sl a28 xs26 c29)) (rv_slice_l Tryz.underlying22 ti9 hs30 rfl rfl) (sq_end ?_)
   intro σ33 hm34
   replace H := H.grow (hm34.mono fun _ h => h); clear hm34
   obtain ⟨σ35, hw36, H, -⟩ := H.pub 0 rfl (Nat.le_refl _)
   rw [← hw36]; clear hw36
   replace H := H.roLow 0 0 rfl (Nat.zero_le _)
   revert h; refine br fun r37 hx38 h => ?_
   have hc39 := c_impl_session_put (Cl := Hi) (Cm := Hj) (Cn := Hk) (Cp := Hl) (Cq := Hm) (Cj := Hf) (Ck := Hg) (Dx := a28) (Dy := c29) hx38
   refine st_call (cx_call hc39 (ent_vf (fst := [(pt Hj Hk)]) hc39.fn rfl rfl) hn0 (H.sel' [3, 4, 0, 6, 0, 1, 2, 4, 5, 6] rfl rfl : Hp S0 σ0 _ ([_, _, _, _] ++ _))) wn ?_
   rintro _ σ42 ⟨_, ⟨a40, c41, rfl, rfl⟩, H, -⟩
   replace H : Hp _ _ _ [_, _, _, _, _, _, _, _] := H
   replace H : Hp S0 σ0 σ42 [Ch.bx Hi Hj Hk [(Sl a40 r37.2.1 c41), (I r37.2.2)] Hl Hm, Ch.ro 0 (Sl a40 r37.2.1 c41) r37.2.1, Ch.cr Hn (rows_impl_session_commands Hj Hk), Ch.gw gw0] := H.sel' [0, 1, 6, 7] rfl rfl
   refine sa (.string r37.1) rfl (w_end (q_then (c_ret ?_)))
   obtain rfl := sj h
   exact fin_ret (v := (.string r37.1)) (results_ok Tryz.results12 (res_tmp (v := (.string r37.1)) rfl res_nil) rfl) ⟨a40, c41, rfl, rfl⟩ (H.sel' [0, 1] rfl rfl)
 ·replace h := bif_f hb13 h
  rcases Bool.eq_false_or_eq_true (x7 == (ByteArray.mk #[100, 114, 111, 112])) with hb14 | hb14
  ·replace h := bif_t hb14 h
   have hL43 := (H.cr 3 rfl).1
   refine st (v := (.tuple #[(.agg #[(I 1), (.func (.func 25) #[(pt Hj Hk)] #[])]), (B true)])) (rv_lookupC (k := x7) (es := rows_impl_session_commands Hj Hk) Tryz.underlying35 Tryz.underlying9 ti60 rfl rfl hL43 (.inl ⟨(sfind_f hb13).trans (sfind_t hb14), rfl⟩)) (sm (.tuple #[(.agg #[(I 1), (.func (.func 25) #[(pt Hj Hk)] #[])]), (B true)]) rfl (st (v := (.agg #[(I 1), (.func (.func 25) #[(pt Hj Hk)] #[])])) (rv_extract rfl rfl) (st (v := (B true)) (rv_extract rfl rfl) (st_ex (ex_alloc (cs := [(I 0), .nilFunc]) H hn0 ti60 rfl) wn ?_))))
   rintro _ σ45 ⟨b44, rfl, H, -⟩
   refine st_exS (ex_store_box (k := 0) (cs := [(I 0), .nilFunc]) (vs := [(I 1), (.func (.func 25) #[(pt Hj Hk)] #[])]) (cs' := [(I 1), (.func (.func 25) #[(pt Hj Hk)] #[])]) H (i := 0) rfl ti60 rfl rfl rfl rfl rfl (Nat.le_of_ble_eq_true rfl) (by simp [plain]) rfl) wn ?_
   rintro σ46 ⟨H, -⟩
   refine sa (B true) rfl (w_end (q_then (c_seq (c_seq (rg (sm (B true) rfl (st (v := (B (!true))) (rv_not rfl) (sm (B (!true)) rfl (st_g (v := (Sl a4 r1 c5)) rfl (rv_move rfl) (st_g (v := (I (r1.length : Int))) rfl (rv_len Tryz.underlying22 rfl) (st_g (v := (I (w64 ((r1.length : Int) - 1)))) rfl (rv_sub (a := (r1.length : Int)) (b := 1) rfl rfl) ?_)))))))))))
   refine st_g (v := (pt b44 0)) rfl (rv_fieldAddr (off := 0) (ft := 3) Tryz.underlying60 rfl ti3 rfl rfl) ?_
   have hc47 := H.cell (u := (I 1)) (o' := 0) 0 0 rfl rfl rfl
   refine st_g (v := (I 1)) rfl (rv_load1 Tryz.underlying3 rfl rfl hc47) (st_g (v := (B ((w64 ((r1.length : Int) - 1)) != 1))) rfl (rv_neq (a := (w64 ((r1.length : Int) - 1))) (b := 1) rfl rfl) (st (v := (B ((w64 ((r1.length : Int) - 1)) != 1))) (rv_pick_f rfl rfl) (w_end (q_then ?_))))
   refine cd_cond ((w64 ((r1.length : Int) - 1)) != 1) rfl (fun hb48 => ?_) (fun hb48 => ?_)
   ·replace h := bif_t hb48 h
    refine c_seq (rg (sa (.string (ByteArray.mk #[119, 104, 97, 116])) rfl (w_end (q_then (c_ret (q_then_r ?_))))))
    obtain rfl := sj h
    exact fin_ret (v := (.string (ByteArray.mk #[119, 104, 97, 116]))) (results_ok Tryz.results12 (res_tmp (v := (.string (ByteArray.mk #[119, 104, 97, 116]))) rfl res_nil) rfl) ⟨Hf, Hg, rfl, rfl⟩ (H.sel' [2, 3] rfl rfl)
   ·replace h := bif_f hb48 h
    refine c_skip (q_then (c_seq ?_))
    refine rgP (σ := σ46) 4 (by kernel_rfl) (by kernel_rfl) (by kernel_rfl) ?_
    refine sq (v := (pt b44 1)) (rv_fieldAddr (off := 1) (ft := 24) Tryz.underlying60 rfl ti24 rfl rfl) ?_
    have hc49 := H.cell (u := (.func (.func 25) #[(pt Hj Hk)] #[])) (o' := 1) 0 1 rfl rfl rfl
    refine sq (v := (.func (.func 25) #[(pt Hj Hk)] #[])) (rv_load1 Tryz.underlying24 rfl rfl hc49) (sq (v := (Sl a4 r1 c5)) (rv_move rfl) ?_)
    revert h; refine br fun xs50 hx51 h => ?_
    obtain ⟨a52, c53, hs54, hR55, hb56⟩ := (H.own 1 rfl).slice hx51
    replace H := (H.front (i := 1) rfl).turn (d := Ch.own n0 n0 (Sl a52 xs50 c53) xs50) (fun _ => hR55) hb56; clear hR55 hb56
    refine sq (v := (Sl a52 xs50 c53)) (rv_slice_l Tryz.underlying22 ti9 hs54 rfl rfl) (sq_end ?_)
    intro σ57 hm58
    replace H := H.grow (hm58.mono fun _ h => h); clear hm58
    obtain ⟨σ59, hw60, H, -⟩ := H.pub 0 rfl (Nat.le_refl _)
    rw [← hw60]; clear hw60
    replace H := H.roLow 0 0 rfl (Nat.zero_le _)
    revert h; refine br fun r61 hx62 h => ?_
    have hc63 := c_impl_session_drop (Cl := Hi) (Cm := Hj) (Cn := Hk) (Cp := Hl) (Cq := Hm) (Cj := Hf) (Ck := Hg) (Dx := a52) (Dy := c53) hx62
    refine st_call (cx_call hc63 (ent_vf (fst := [(pt Hj Hk)]) hc63.fn rfl rfl) hn0 (H.sel' [3, 4, 0, 6, 0, 1, 2, 4, 5, 6] rfl rfl : Hp S0 σ0 _ ([_, _, _, _] ++ _))) wn ?_
    rintro _ σ66 ⟨_, ⟨a64, c65, rfl, rfl⟩, H, -⟩
    replace H : Hp _ _ _ [_, _, _, _, _, _, _, _] := H
    replace H : Hp S0 σ0 σ66 [Ch.bx Hi Hj Hk [(Sl a64 r61.2.1 c65), (I r61.2.2)] Hl Hm, Ch.ro 0 (Sl a64 r61.2.1 c65) r61.2.1, Ch.cr Hn (rows_impl_session_commands Hj Hk), Ch.gw gw0] := H.sel' [0, 1, 6, 7] rfl rfl
    refine sa (.string r61.1) rfl (w_end (q_then (c_ret ?_)))
    obtain rfl := sj h
    exact fin_ret (v := (.string r61.1)) (results_ok Tryz.results12 (res_tmp (v := (.string r61.1)) rfl res_nil) rfl) ⟨a64, c65, rfl, rfl⟩ (H.sel' [0, 1] rfl rfl)
  ·replace h := bif_f hb14 h
   rcases Bool.eq_false_or_eq_true (x7 == (ByteArray.mk #[110, 101, 97, 114])) with hb15 | hb15
   ·replace h := bif_t hb15 h
    have hL67 := (H.cr 3 rfl).1
    refine st (v := (.tuple #[(.agg #[(I 2), (.func (.func 26) #[(pt Hj Hk)] #[])]), (B true)])) (rv_lookupC (k := x7) (es := rows_impl_session_commands Hj Hk) Tryz.underlying35 Tryz.underlying9 ti60 rfl rfl hL67 (.inl ⟨(sfind_f hb13).trans ((sfind_f hb14).trans (sfind_t hb15)), rfl⟩)) (sm (.tuple #[(.agg #[(I 2), (.func (.func 26) #[(pt Hj Hk)] #[])]), (B true)]) rfl (st (v := (.agg #[(I 2), (.func (.func 26) #[(pt Hj Hk)] #[])])) (rv_extract rfl rfl) (st (v := (B true)) (rv_extract rfl rfl) (st_ex (ex_alloc (cs := [(I 0), .nilFunc]) H hn0 ti60 rfl) wn ?_))))
    rintro _ σ69 ⟨b68, rfl, H, -⟩
    refine st_exS (ex_store_box (k := 0) (cs := [(I 0), .nilFunc]) (vs := [(I 2), (.func (.func 26) #[(pt Hj Hk)] #[])]) (cs' := [(I 2), (.func (.func 26) #[(pt Hj Hk)] #[])]) H (i := 0) rfl ti60 rfl rfl rfl rfl rfl (Nat.le_of_ble_eq_true rfl) (by simp [plain]) rfl) wn ?_
    rintro σ70 ⟨H, -⟩
    refine sa (B true) rfl (w_end (q_then (c_seq (c_seq (rg (sm (B true) rfl (st (v := (B (!true))) (rv_not rfl) (sm (B (!true)) rfl (st_g (v := (Sl a4 r1 c5)) rfl (rv_move rfl) (st_g (v := (I (r1.length : Int))) rfl (rv_len Tryz.underlying22 rfl) (st_g (v := (I (w64 ((r1.length : Int) - 1)))) rfl (rv_sub (a := (r1.length : Int)) (b := 1) rfl rfl) ?_)))))))))))
    refine st_g (v := (pt b68 0)) rfl (rv_fieldAddr (off := 0) (ft := 3) Tryz.underlying60 rfl ti3 rfl rfl) ?_
    have hc71 := H.cell (u := (I 2)) (o' := 0) 0 0 rfl rfl rfl
    refine st_g (v := (I 2)) rfl (rv_load1 Tryz.underlying3 rfl rfl hc71) (st_g (v := (B ((w64 ((r1.length : Int) - 1)) != 2))) rfl (rv_neq (a := (w64 ((r1.length : Int) - 1))) (b := 2) rfl rfl) (st (v := (B ((w64 ((r1.length : Int) - 1)) != 2))) (rv_pick_f rfl rfl) (w_end (q_then ?_))))
    refine cd_cond ((w64 ((r1.length : Int) - 1)) != 2) rfl (fun hb72 => ?_) (fun hb72 => ?_)
    ·replace h := bif_t hb72 h
     refine c_seq (rg (sa (.string (ByteArray.mk #[119, 104, 97, 116])) rfl (w_end (q_then (c_ret (q_then_r ?_))))))
     obtain rfl := sj h
     exact fin_ret (v := (.string (ByteArray.mk #[119, 104, 97, 116]))) (results_ok Tryz.results12 (res_tmp (v := (.string (ByteArray.mk #[119, 104, 97, 116]))) rfl res_nil) rfl) ⟨Hf, Hg, rfl, rfl⟩ (H.sel' [2, 3] rfl rfl)
    ·replace h := bif_f hb72 h
     refine c_skip (q_then (c_seq ?_))
     refine rgP (σ := σ70) 4 (by kernel_rfl) (by kernel_rfl) (by kernel_rfl) ?_
     refine sq (v := (pt b68 1)) (rv_fieldAddr (off := 1) (ft := 24) Tryz.underlying60 rfl ti24 rfl rfl) ?_
     have hc73 := H.cell (u := (.func (.func 26) #[(pt Hj Hk)] #[])) (o' := 1) 0 1 rfl rfl rfl
     refine sq (v := (.func (.func 26) #[(pt Hj Hk)] #[])) (rv_load1 Tryz.underlying24 rfl rfl hc73) (sq (v := (Sl a4 r1 c5)) (rv_move rfl) ?_)
     revert h; refine br fun xs74 hx75 h => ?_
     obtain ⟨a76, c77, hs78, hR79, hb80⟩ := (H.own 1 rfl).slice hx75
     replace H := (H.front (i := 1) rfl).turn (d := Ch.own n0 n0 (Sl a76 xs74 c77) xs74) (fun _ => hR79) hb80; clear hR79 hb80
     refine sq (v := (Sl a76 xs74 c77)) (rv_slice_l Tryz.underlying22 ti9 hs78 rfl rfl) (sq_end ?_)
     intro σ81 hm82
     replace H := H.grow (hm82.mono fun _ h => h); clear hm82
     obtain ⟨σ83, hw84, H, -⟩ := H.pub 0 rfl (Nat.le_refl _)
     rw [← hw84]; clear hw84
     replace H := H.roLow 0 0 rfl (Nat.zero_le _)
     revert h; refine br fun r85 hx86 h => ?_
     have hc87 := c_impl_session_near (Cl := Hi) (Cm := Hj) (Cn := Hk) (Cp := Hl) (Cq := Hm) (Cj := Hf) (Ck := Hg) (Dx := a76) (Dy := c77) hx86
     refine st_call (cx_call hc87 (ent_vf (fst := [(pt Hj Hk)]) hc87.fn rfl rfl) hn0 (H.sel' [3, 4, 0, 6, 0, 1, 2, 4, 5, 6] rfl rfl : Hp S0 σ0 _ ([_, _, _, _] ++ _))) wn ?_
     rintro _ σ88 ⟨_, ⟨rfl, rfl⟩, H, -⟩
     replace H : Hp _ _ _ [_, _, _, _, _, _, _] := H
     refine sa (.string r85) rfl (w_end (q_then (c_ret ?_)))
     obtain rfl := sj h
     exact fin_ret (v := (.string r85)) (results_ok Tryz.results12 (res_tmp (v := (.string r85)) rfl res_nil) rfl) ⟨Hf, Hg, rfl, rfl⟩ (H.sel' [0, 4] rfl rfl)
   ·replace h := bif_f hb15 h
    rcases Bool.eq_false_or_eq_true (x7 == (ByteArray.mk #[107, 105, 110, 100])) with hb16 | hb16
    ·replace h := bif_t hb16 h
     have hL89 := (H.cr 3 rfl).1
     refine st (v := (.tuple #[(.agg #[(I 1), (.func (.func 27) #[(pt Hj Hk)] #[])]), (B true)])) (rv_lookupC (k := x7) (es := rows_impl_session_commands Hj Hk) Tryz.underlying35 Tryz.underlying9 ti60 rfl rfl hL89 (.inl ⟨(sfind_f hb13).trans ((sfind_f hb14).trans ((sfind_f hb15).trans (sfind_t hb16))), rfl⟩)) (sm (.tuple #[(.agg #[(I 1), (.func (.func 27) #[(pt Hj Hk)] #[])]), (B true)]) rfl (st (v := (.agg #[(I 1), (.func (.func 27) #[(pt Hj Hk)] #[])])) (rv_extract rfl rfl) (st (v := (B true)) (rv_extract rfl rfl) (st_ex (ex_alloc (cs := [(I 0), .nilFunc]) H hn0 ti60 rfl) wn ?_))))
     rintro _ σ91 ⟨b90, rfl, H, -⟩
     refine st_exS (ex_store_box (k := 0) (cs := [(I 0), .nilFunc]) (vs := [(I 1), (.func (.func 27) #[(pt Hj Hk)] #[])]) (cs' := [(I 1), (.func (.func 27) #[(pt Hj Hk)] #[])]) H (i := 0) rfl ti60 rfl rfl rfl rfl rfl (Nat.le_of_ble_eq_true rfl) (by simp [plain]) rfl) wn ?_
     rintro σ92 ⟨H, -⟩
     refine sa (B true) rfl (w_end (q_then (c_seq (c_seq (rg (sm (B true) rfl (st (v := (B (!true))) (rv_not rfl) (sm (B (!true)) rfl (st_g (v := (Sl a4 r1 c5)) rfl (rv_move rfl) (st_g (v := (I (r1.length : Int))) rfl (rv_len Tryz.underlying22 rfl) (st_g (v := (I (w64 ((r1.length : Int) - 1)))) rfl (rv_sub (a := (r1.length : Int)) (b := 1) rfl rfl) ?_)))))))))))
     refine st_g (v := (pt b90 0)) rfl (rv_fieldAddr (off := 0) (ft := 3) Tryz.underlying60 rfl ti3 rfl rfl) ?_
     have hc93 := H.cell (u := (I 1)) (o' := 0) 0 0 rfl rfl rfl
     refine st_g (v := (I 1)) rfl (rv_load1 Tryz.underlying3 rfl rfl hc93) (st_g (v := (B ((w64 ((r1.length : Int) - 1)) != 1))) rfl (rv_neq (a := (w64 ((r1.length : Int) - 1))) (b := 1) rfl rfl) (st (v := (B ((w64 ((r1.length : Int) - 1)) != 1))) (rv_pick_f rfl rfl) (w_end (q_then ?_))))
     refine cd_cond ((w64 ((r1.length : Int) - 1)) != 1) rfl (fun hb94 => ?_) (fun hb94 => ?_)
     ·replace h := bif_t hb94 h
      refine c_seq (rg (sa (.string (ByteArray.mk #[119, 104, 97, 116])) rfl (w_end (q_then (c_ret (q_then_r ?_))))))
      obtain rfl := sj h
      exact fin_ret (v := (.string (ByteArray.mk #[119, 104, 97, 116]))) (results_ok Tryz.results12 (res_tmp (v := (.string (ByteArray.mk #[119, 104, 97, 116]))) rfl res_nil) rfl) ⟨Hf, Hg, rfl, rfl⟩ (H.sel' [2, 3] rfl rfl)
     ·replace h := bif_f hb94 h
      refine c_skip (q_then (c_seq ?_))
      refine rgP (σ := σ92) 4 (by kernel_rfl) (by kernel_rfl) (by kernel_rfl) ?_
      refine sq (v := (pt b90 1)) (rv_fieldAddr (off := 1) (ft := 24) Tryz.underlying60 rfl ti24 rfl rfl) ?_
      have hc95 := H.cell (u := (.func (.func 27) #[(pt Hj Hk)] #[])) (o' := 1) 0 1 rfl rfl rfl
      refine sq (v := (.func (.func 27) #[(pt Hj Hk)] #[])) (rv_load1 Tryz.underlying24 rfl rfl hc95) (sq (v := (Sl a4 r1 c5)) (rv_move rfl) ?_)
      revert h; refine br fun xs96 hx97 h => ?_
      obtain ⟨a98, c99, hs100, hR101, hb102⟩ := (H.own 1 rfl).slice hx97
      replace H := (H.front (i := 1) rfl).turn (d := Ch.own n0 n0 (Sl a98 xs96 c99) xs96) (fun _ => hR101) hb102; clear hR101 hb102
      refine sq (v := (Sl a98 xs96 c99)) (rv_slice_l Tryz.underlying22 ti9 hs100 rfl rfl) (sq_end ?_)
      intro σ103 hm104
      replace H := H.grow (hm104.mono fun _ h => h); clear hm104
      obtain ⟨σ105, hw106, H, -⟩ := H.pub 0 rfl (Nat.le_refl _)
      rw [← hw106]; clear hw106
      replace H := H.roLow 0 0 rfl (Nat.zero_le _)
      revert h; refine br fun r107 hx108 h => ?_
      have hc109 := c_impl_session_choose (Cl := Hi) (Cm := Hj) (Cn := Hk) (Cp := Hl) (Cq := Hm) (Cj := Hf) (Ck := Hg) (Dx := a98) (Dy := c99) hx108
      refine st_call (cx_call hc109 (ent_vf (fst := [(pt Hj Hk)]) hc109.fn rfl rfl) hn0 (H.sel' [3, 4, 0, 6, 0, 1, 2, 4, 5, 6] rfl rfl : Hp S0 σ0 _ ([_, _, _, _] ++ _))) wn ?_
      rintro _ σ112 ⟨_, ⟨a110, c111, rfl, rfl⟩, H, -⟩
      replace H : Hp _ _ _ [_, _, _, _, _, _, _, _] := H
      replace H : Hp S0 σ0 σ112 [Ch.bx Hi Hj Hk [(Sl a110 r107.2.1 c111), (I r107.2.2)] Hl Hm, Ch.ro 0 (Sl a110 r107.2.1 c111) r107.2.1, Ch.cr Hn (rows_impl_session_commands Hj Hk), Ch.gw gw0] := H.sel' [0, 1, 6, 7] rfl rfl
      refine sa (.string r107.1) rfl (w_end (q_then (c_ret ?_)))
      obtain rfl := sj h
      exact fin_ret (v := (.string r107.1)) (results_ok Tryz.results12 (res_tmp (v := (.string r107.1)) rfl res_nil) rfl) ⟨a110, c111, rfl, rfl⟩ (H.sel' [0, 1] rfl rfl)
    ·replace h := bif_f hb16 h
     rcases Bool.eq_false_or_eq_true (x7 == (ByteArray.mk #[112, 97, 105, 114])) with hb17 | hb17
     ·replace h := bif_t hb17 h
      have hL113 := (H.cr 3 rfl).1
      refine st (v := (.tuple #[(.agg #[(I 0), (.func (.func 28) #[(pt Hj Hk)] #[])]), (B true)])) (rv_lookupC (k := x7) (es := rows_impl_session_commands Hj Hk) Tryz.underlying35 Tryz.underlying9 ti60 rfl rfl hL113 (.inl ⟨(sfind_f hb13).trans ((sfind_f hb14).trans ((sfind_f hb15).trans ((sfind_f hb16).trans (sfind_t hb17)))), rfl⟩)) (sm (.tuple #[(.agg #[(I 0), (.func (.func 28) #[(pt Hj Hk)] #[])]), (B true)]) rfl (st (v := (.agg #[(I 0), (.func (.func 28) #[(pt Hj Hk)] #[])])) (rv_extract rfl rfl) (st (v := (B true)) (rv_extract rfl rfl) (st_ex (ex_alloc (cs := [(I 0), .nilFunc]) H hn0 ti60 rfl) wn ?_))))
      rintro _ σ115 ⟨b114, rfl, H, -⟩
      refine st_exS (ex_store_box (k := 0) (cs := [(I 0), .nilFunc]) (vs := [(I 0), (.func (.func 28) #[(pt Hj Hk)] #[])]) (cs' := [(I 0), (.func (.func 28) #[(pt Hj Hk)] #[])]) H (i := 0) rfl ti60 rfl rfl rfl rfl rfl (Nat.le_of_ble_eq_true rfl) (by simp [plain]) rfl) wn ?_
      rintro σ116 ⟨H, -⟩
      refine sa (B true) rfl (w_end (q_then (c_seq (c_seq (rg (sm (B true) rfl (st (v := (B (!true))) (rv_not rfl) (sm (B (!true)) rfl (st_g (v := (Sl a4 r1 c5)) rfl (rv_move rfl) (st_g (v := (I (r1.length : Int))) rfl (rv_len Tryz.underlying22 rfl) (st_g (v := (I (w64 ((r1.length : Int) - 1)))) rfl (rv_sub (a := (r1.length : Int)) (b := 1) rfl rfl) ?_)))))))))))
      refine st_g (v := (pt b114 0)) rfl (rv_fieldAddr (off := 0) (ft := 3) Tryz.underlying60 rfl ti3 rfl rfl) ?_
      have hc117 := H.cell (u := (I 0)) (o' := 0) 0 0 rfl rfl rfl
      refine st_g (v := (I 0)) rfl (rv_load1 Tryz.underlying3 rfl rfl hc117) (st_g (v := (B ((w64 ((r1.length : Int) - 1)) != 0))) rfl (rv_neq (a := (w64 ((r1.length : Int) - 1))) (b := 0) rfl rfl) (st (v := (B ((w64 ((r1.length : Int) - 1)) != 0))) (rv_pick_f rfl rfl) (w_end (q_then ?_))))
      refine cd_cond ((w64 ((r1.length : Int) - 1)) != 0) rfl (fun hb118 => ?_) (fun hb118 => ?_)
      ·replace h := bif_t hb118 h
       refine c_seq (rg (sa (.string (ByteArray.mk #[119, 104, 97, 116])) rfl (w_end (q_then (c_ret (q_then_r ?_))))))
       obtain rfl := sj h
       exact fin_ret (v := (.string (ByteArray.mk #[119, 104, 97, 116]))) (results_ok Tryz.results12 (res_tmp (v := (.string (ByteArray.mk #[119, 104, 97, 116]))) rfl res_nil) rfl) ⟨Hf, Hg, rfl, rfl⟩ (H.sel' [2, 3] rfl rfl)
      ·replace h := bif_f hb118 h
       refine c_skip (q_then (c_seq ?_))
       refine rgP (σ := σ116) 4 (by kernel_rfl) (by kernel_rfl) (by kernel_rfl) ?_
       refine sq (v := (pt b114 1)) (rv_fieldAddr (off := 1) (ft := 24) Tryz.underlying60 rfl ti24 rfl rfl) ?_
       have hc119 := H.cell (u := (.func (.func 28) #[(pt Hj Hk)] #[])) (o' := 1) 0 1 rfl rfl rfl
       refine sq (v := (.func (.func 28) #[(pt Hj Hk)] #[])) (rv_load1 Tryz.underlying24 rfl rfl hc119) (sq (v := (Sl a4 r1 c5)) (rv_move rfl) ?_)
       revert h; refine br fun xs120 hx121 h => ?_
       obtain ⟨a122, c123, hs124, hR125, hb126⟩ := (H.own 1 rfl).slice hx121
       replace H := (H.front (i := 1) rfl).turn (d := Ch.own n0 n0 (Sl a122 xs120 c123) xs120) (fun _ => hR125) hb126; clear hR125 hb126
       refine sq (v := (Sl a122 xs120 c123)) (rv_slice_l Tryz.underlying22 ti9 hs124 rfl rfl) (sq_end ?_)
       intro σ127 hm128
       replace H := H.grow (hm128.mono fun _ h => h); clear hm128
       obtain ⟨σ129, hw130, H, -⟩ := H.pub 0 rfl (Nat.le_refl _)
       rw [← hw130]; clear hw130
       replace H := H.roLow 0 0 rfl (Nat.zero_le _)
       revert h; refine br fun r131 hx132 h => ?_
       have hc133 := c_impl_session_pair (Cl := Hi) (Cm := Hj) (Cn := Hk) (Cp := Hl) (Cq := Hm) (Cj := Hf) (Ck := Hg) (Hc := a122) (Hd := c123) hx132
       refine st_call (cx_call hc133 (ent_vf (fst := [(pt Hj Hk)]) hc133.fn rfl rfl) hn0 (H.sel' [3, 4, 0, 6, 0, 1, 2, 4, 5, 6] rfl rfl : Hp S0 σ0 _ ([_, _, _, _] ++ _))) wn ?_
       rintro _ σ134 ⟨_, ⟨rfl, rfl⟩, H, -⟩
       replace H : Hp _ _ _ [_, _, _, _, _, _, _] := H
       refine sa (.string r131) rfl (w_end (q_then (c_ret ?_)))
       obtain rfl := sj h
       exact fin_ret (v := (.string r131)) (results_ok Tryz.results12 (res_tmp (v := (.string r131)) rfl res_nil) rfl) ⟨Hf, Hg, rfl, rfl⟩ (H.sel' [0, 4] rfl rfl)
     ·replace h := bif_f hb17 h
      rcases Bool.eq_false_or_eq_true (x7 == (ByteArray.mk #[99, 111, 117, 110, 116])) with hb18 | hb18
      ·replace h := bif_t hb18 h
       have hL135 := (H.cr 3 rfl).1
       refine st (v := (.tuple #[(.agg #[(I 0), (.func (.func 29) #[(pt Hj Hk)] #[])]), (B true)])) (rv_lookupC (k := x7) (es := rows_impl_session_commands Hj Hk) Tryz.underlying35 Tryz.underlying9 ti60 rfl rfl hL135 (.inl ⟨(sfind_f hb13).trans ((sfind_f hb14).trans ((sfind_f hb15).trans ((sfind_f hb16).trans ((sfind_f hb17).trans (sfind_t hb18))))), rfl⟩)) (sm (.tuple #[(.agg #[(I 0), (.func (.func 29) #[(pt Hj Hk)] #[])]), (B true)]) rfl (st (v := (.agg #[(I 0), (.func (.func 29) #[(pt Hj Hk)] #[])])) (rv_extract rfl rfl) (st (v := (B true)) (rv_extract rfl rfl) (st_ex (ex_alloc (cs := [(I 0), .nilFunc]) H hn0 ti60 rfl) wn ?_))))
       rintro _ σ137 ⟨b136, rfl, H, -⟩
       refine st_exS (ex_store_box (k := 0) (cs := [(I 0), .nilFunc]) (vs := [(I 0), (.func (.func 29) #[(pt Hj Hk)] #[])]) (cs' := [(I 0), (.func (.func 29) #[(pt Hj Hk)] #[])]) H (i := 0) rfl ti60 rfl rfl rfl rfl rfl (Nat.le_of_ble_eq_true rfl) (by simp [plain]) rfl) wn ?_
       rintro σ138 ⟨H, -⟩
       refine sa (B true) rfl (w_end (q_then (c_seq (c_seq (rg (sm (B true) rfl (st (v := (B (!true))) (rv_not rfl) (sm (B (!true)) rfl (st_g (v := (Sl a4 r1 c5)) rfl (rv_move rfl) (st_g (v := (I (r1.length : Int))) rfl (rv_len Tryz.underlying22 rfl) (st_g (v := (I (w64 ((r1.length : Int) - 1)))) rfl (rv_sub (a := (r1.length : Int)) (b := 1) rfl rfl) ?_)))))))))))
       refine st_g (v := (pt b136 0)) rfl (rv_fieldAddr (off := 0) (ft := 3) Tryz.underlying60 rfl ti3 rfl rfl) ?_
       have hc139 := H.cell (u := (I 0)) (o' := 0) 0 0 rfl rfl rfl
       refine st_g (v := (I 0)) rfl (rv_load1 Tryz.underlying3 rfl rfl hc139) (st_g (v := (B ((w64 ((r1.length : Int) - 1)) != 0))) rfl (rv_neq (a := (w64 ((r1.length : Int) - 1))) (b := 0) rfl rfl) (st (v := (B ((w64 ((r1.length : Int) - 1)) != 0))) (rv_pick_f rfl rfl) (w_end (q_then ?_))))
       refine cd_cond ((w64 ((r1.length : Int) - 1)) != 0) rfl (fun hb140 => ?_) (fun hb140 => ?_)
       ·replace h := bif_t hb140 h
        refine c_seq (rg (sa (.string (ByteArray.mk #[119, 104, 97, 116])) rfl (w_end (q_then (c_ret (q_then_r ?_))))))
        obtain rfl := sj h
        exact fin_ret (v := (.string (ByteArray.mk #[119, 104, 97, 116]))) (results_ok Tryz.results12 (res_tmp (v := (.string (ByteArray.mk #[119, 104, 97, 116]))) rfl res_nil) rfl) ⟨Hf, Hg, rfl, rfl⟩ (H.sel' [2, 3] rfl rfl)
       ·replace h := bif_f hb140 h
        refine c_skip (q_then (c_seq ?_))
        refine rgP (σ := σ138) 4 (by kernel_rfl) (by kernel_rfl) (by kernel_rfl) ?_
        refine sq (v := (pt b136 1)) (rv_fieldAddr (off := 1) (ft := 24) Tryz.underlying60 rfl ti24 rfl rfl) ?_
        have hc141 := H.cell (u := (.func (.func 29) #[(pt Hj Hk)] #[])) (o' := 1) 0 1 rfl rfl rfl
        refine sq (v := (.func (.func 29) #[(pt Hj Hk)] #[])) (rv_load1 Tryz.underlying24 rfl rfl hc141) (sq (v := (Sl a4 r1 c5)) (rv_move rfl) ?_)
        revert h; refine br fun xs142 hx143 h => ?_
        obtain ⟨a144, c145, hs146, hR147, hb148⟩ := (H.own 1 rfl).slice hx143
        replace H := (H.front (i := 1) rfl).turn (d := Ch.own n0 n0 (Sl a144 xs142 c145) xs142) (fun _ => hR147) hb148; clear hR147 hb148
        refine sq (v := (Sl a144 xs142 c145)) (rv_slice_l Tryz.underlying22 ti9 hs146 rfl rfl) (sq_end ?_)
        intro σ149 hm150
        replace H := H.grow (hm150.mono fun _ h => h); clear hm150
        obtain ⟨σ151, hw152, H, -⟩ := H.pub 0 rfl (Nat.le_refl _)
        rw [← hw152]; clear hw152
        replace H := H.roLow 0 0 rfl (Nat.zero_le _)
        revert h; refine br fun r153 hx154 h => ?_
        have hc155 := c_impl_session_count (Cl := Hi) (Cm := Hj) (Cn := Hk) (Cp := Hl) (Cq := Hm) (Cj := Hf) (Ck := Hg) (Hc := a144) (Hd := c145) hx154
        refine st_call (cx_call hc155 (ent_vf (fst := [(pt Hj Hk)]) hc155.fn rfl rfl) hn0 (H.sel' [3, 4, 0, 6, 0, 1, 2, 4, 5, 6] rfl rfl : Hp S0 σ0 _ ([_, _, _, _] ++ _))) wn ?_
        rintro _ σ156 ⟨_, ⟨rfl, rfl⟩, H, -⟩
        replace H : Hp _ _ _ [_, _, _, _, _, _, _] := H
        refine sa (.string r153) rfl (w_end (q_then (c_ret ?_)))
        obtain rfl := sj h
        exact fin_ret (v := (.string r153)) (results_ok Tryz.results12 (res_tmp (v := (.string r153)) rfl res_nil) rfl) ⟨Hf, Hg, rfl, rfl⟩ (H.sel' [0, 4] rfl rfl)
      ·replace h := bif_f hb18 h
       have hL157 := (H.cr 3 rfl).1
       refine st (v := (.tuple #[(.agg #[(I 0), .nilFunc]), (B false)])) (rv_lookupC (i := 0) (v := .nilIface) (k := x7) (es := rows_impl_session_commands Hj Hk) Tryz.underlying35 Tryz.underlying9 ti60 rfl rfl hL157 (.inr ⟨(sfind_f hb13).trans ((sfind_f hb14).trans ((sfind_f hb15).trans ((sfind_f hb16).trans ((sfind_f hb17).trans ((sfind_f hb18).trans (rfl)))))), rfl⟩)) (sm (.tuple #[(.agg #[(I 0), .nilFunc]), (B false)]) rfl (st (v := (.agg #[(I 0), .nilFunc])) (rv_extract rfl rfl) (st (v := (B false)) (rv_extract rfl rfl) (st_ex (ex_alloc (cs := [(I 0), .nilFunc]) H hn0 ti60 rfl) wn ?_))))
       rintro _ σ159 ⟨b158, rfl, H, -⟩
       refine st_exS (ex_store_box (k := 0) (cs := [(I 0), .nilFunc]) (vs := [(I 0), .nilFunc]) (cs' := [(I 0), .nilFunc]) H (i := 0) rfl ti60 rfl rfl rfl rfl rfl (Nat.le_of_ble_eq_true rfl) (by simp [plain]) rfl) wn ?_
       rintro σ160 ⟨H, -⟩
       refine sa (B false) rfl (w_end (q_then (c_seq (c_seq (rg (sm (B false) rfl (st (v := (B (!false))) (rv_not rfl) (sm (B (!false)) rfl (st_skip rfl (st_skip rfl (st_skip rfl ?_)))))))))))
       refine st_skip rfl (st_skip rfl (st_skip rfl (st (v := (B true)) (rv_pick_t rfl rfl) (w_end (q_then (cd_true rfl ?_))))))
       refine c_seq (rg (sa (.string (ByteArray.mk #[119, 104, 97, 116])) rfl (w_end (q_then (c_ret (q_then_r ?_))))))
       obtain rfl := sj h
       exact fin_ret (v := (.string (ByteArray.mk #[119, 104, 97, 116]))) (results_ok Tryz.results12 (res_tmp (v := (.string (ByteArray.mk #[119, 104, 97, 116]))) rfl res_nil) rfl) ⟨Hf, Hg, rfl, rfl⟩ (H.sel' [2, 3] rfl rfl)

theorem c_impl_RunSession {Cf : List ByteArray} {Cg : Option Addr} {Ci : Nat} {r : ByteArray} (h : M.impl_RunSession Cf = some r) :
    Cal2 Tryz.prog 7 [(Sl Cg Cf Ci)] [Ch.ro 0 (Sl Cg Cf Ci) Cf, Ch.gw gw0] (fun n0 v L => v = (.string r) ∧ L = []) := by
 refine cal2S (n := 27) Tryz.func7 rfl rfl rfl rfl ?_
 intro S0 σ0 n0 hn0 hS0 H
 replace hS0 : ∀ i, ¬ S0 i := fun i hi => by simpa [cov, Ch.ro, Ch.gw] using hS0 i hi
 unfold M.impl_RunSession at h
 refine c_seq (rg (sa (.string (ByteArray.mk #[])) rfl (w_end (q_then (c_seq (rg ?_))))))
 refine st (v := (.agg #[(.slice none 0 0), (I 1)])) (rv_build (ps := [(1, (I 1))]) Tryz.underlying34 ti34 (bp34 Tryz.underlying34) rfl (by kernel_rfl)) ?_
 refine st_ex (ex_alloc (cs := [(.slice none 0 0), (I 0)]) H hn0 ti34 rfl) wn ?_
 rintro _ σ2 ⟨b1, rfl, H, -⟩
 refine st_exS (ex_store_box (k := 0) (cs := [(.slice none 0 0), (I 0)]) (vs := [(.slice none 0 0), (I 1)]) (cs' := [(.slice none 0 0), (I 1)]) H (i := 0) rfl ti34 rfl rfl rfl rfl rfl (Nat.le_of_ble_eq_true rfl) (by simp [plain]) rfl) wn ?_
 rintro σ3 ⟨H, -⟩
 refine w_end (q_then (c_seq (rg ?_)))
 replace H := H.nilRo (Int × (List Int) × Int) 0
 revert h; refine br fun r4 hx5 h => ?_
 have hc6 := c_impl_session_commands (Cl := n0) (Cm := b1) (Cn := 0) (Cp := []) (Cq := []) (Cj := none) (Ck := 0) hx5
 refine st_call (cx_call hc6 (ent_f hc6.fn rfl) hn0 (H.sel' [1, 0, 0, 2, 3] rfl rfl : Hp S0 σ0 _ ([_, _] ++ _))) wn ?_
 rintro _ σ8 ⟨_, ⟨b7, rfl, rfl⟩, H, -⟩
 replace H : Hp _ _ _ [_, _, _, _, _] := H
 refine sa (.map (some b7)) rfl (w_end (q_then (c_seq (rg (st_ex (ex_allocSb 5 H hn0 ti40) wn ?_)))))
 rintro _ σ10 ⟨b9, rfl, H, -⟩
 refine w_end (q_then (c_seq (c_seq (rg (sm (Sl Cg Cf Ci) rfl (sm (Sl Cg Cf Ci) rfl (st (v := (I (Cf.length : Int))) (rv_len Tryz.underlying22 rfl) (st (v := (I (min (Cf.length : Int) 20))) (rv_min rfl rfl) ?_))))))))
 revert h; refine br fun xs11 hx12 h => ?_
 obtain ⟨a13, c14, hs15, hR16⟩ := (H.ro 4 rfl).slice hx12
 replace H := H.add (d := Ch.ro 0 (Sl a13 xs11 c14) xs11) hR16 (fun _ h => h)
 clear hR16
 refine st (v := (Sl a13 xs11 c14)) (rv_slice_h Tryz.underlying22 ti9 hs15 rfl rfl) (st (v := (I (xs11.length : Int))) (rv_len Tryz.underlying22 rfl) (sm (I 0) rfl (w_end (q_then ?_))))
 obtain ⟨o17, hj, h'⟩ := bind_some h
 clear h
 refine c_cut (fun e a w => e = .normal ∧ ∃ (ρ : Nat → Value) (σ : St) (vj1 : Value), a = fr 27 (updL ρ [(5, (pt b9 0))]) ∧ w = σ.w ∧ Hp S0 σ0 σ [Ch.sb 40 5 n0 b9 vj1 o17, Ch.gw gw0]) ?_ ?_
 ·clear h'
  rename _ = some o17 => h
  refine c_blk ?_
  replace H := H.nilRo (Int × (List Int) × Int) 0
  refine wp_loopM _ h (fun s18 a w => ∃ (ρ : Nat → Value) (σ : St) (aj1 : Option Addr) (cj2 : Nat) (vj3 : Value), a = fr 27 (updL ρ [(4, (.map (some b7))), (5, (pt b9 0)), (14, (Sl a13 xs11 c14)), (15, (I (xs11.length : Int))), (16, (I s18.2.2))]) ∧ w = σ.w ∧ Hp S0 σ0 σ [Ch.bx n0 b1 0 [(Sl aj1 s18.1.1 cj2), (I s18.1.2)] [] [], Ch.ro 0 (Sl aj1 s18.1.1 cj2) s18.1.1, Ch.sb 40 5 n0 b9 vj3 s18.2.1, Ch.cr b7 (rows_impl_session_commands b1 0), Ch.ro 0 (Sl a13 xs11 c14) xs11, Ch.gw gw0]) ⟨_, σ10, none, 0, (.slice none 0 0), fr_join ⟨rfl, rfl, rfl, rfl, rfl, trivial⟩, rfl, H.sel' [4, 0, 2, 3, 1, 7] rfl rfl⟩ ?_
  clear h H
  rintro s18 a w o ⟨ρ, σ19, a20, c21, v22, rfl, rfl, H⟩ h hres
  refine c_seq (rg (st (v := (B (decide (s18.2.2 < (xs11.length : Int))))) (rv_lss (a := s18.2.2) (b := (xs11.length : Int)) rfl rfl) (w_end (q_then (c_seq ?_)))))
  refine cd_cond (decide (s18.2.2 < (xs11.length : Int))) rfl (fun hb23 => ?_) (fun hb23 => ?_)
  ·replace h := bif_t hb23 h
   refine c_skip (q_then (c_seq (c_blk (c_seq (rg ?_)))))
   revert h; refine br fun x24 hx25 h => ?_
   obtain ⟨b27, o28, hi26, -⟩ := (H.ro 4 rfl).ix hx25
   refine st (v := (pt b27 o28)) (rv_ix Tryz.underlying22 ti9 rfl rfl hi26) ?_
   have hc29 := ((H.ro 4 rfl).at hx25 hi26).str
   refine st (v := (.string x24)) (rv_load1 Tryz.underlying9 rfl rfl hc29) (sa (.string x24) rfl (w_end (q_then (c_seq (rg (sm (.map (some b7)) rfl (sm (.string x24) rfl ?_)))))))
   revert h; refine br fun r30 hx31 h => ?_
   have hc32 := c_impl_runLine__cm (Hi := n0) (Hj := b1) (Hk := 0) (Hl := []) (Hm := []) (Hf := a20) (Hg := c21) (Hn := b7) hx31
   refine st_call (cx_call hc32 (ent_f hc32.fn rfl) hn0 (H.sel' [0, 1, 3, 5, 1, 2, 3, 4, 5] rfl rfl : Hp S0 σ0 _ ([_, _, _, _] ++ _))) wn ?_
   rintro _ σ35 ⟨_, ⟨a33, c34, rfl, rfl⟩, H, -⟩
   replace H : Hp _ _ _ [_, _, _, _, _, _, _] := H
   revert h; refine br fun r36 hx37 h => ?_
   have hc38 := c_strings_Builder_WriteString (Cs := n0) (Ct := b9) (Cu := v22) hx37
   refine st_call (cx_call hc38 (ent_f hc38.fn rfl) hn0 (H.sel' [3, 6, 0, 1, 2, 4, 5, 6] rfl rfl : Hp S0 σ0 _ ([_, _] ++ _))) wn ?_
   rintro _ σ40 ⟨_, ⟨v39, rfl, rfl⟩, H, -⟩
   replace H : Hp _ _ _ [_, _, _, _, _, _, _] := H
   refine w_end (q_then (rg ?_))
   revert h; refine br fun r41 hx42 h => ?_
   have hc43 := c_strings_Builder_WriteByte (Cs := n0) (Ct := b9) (Cu := v39) hx42
   refine st_call (cx_call hc43 (ent_f hc43.fn rfl) hn0 (H.sel' [0, 6, 1, 2, 3, 4, 5, 6] rfl rfl : Hp S0 σ0 _ ([_, _] ++ _))) wn ?_
   rintro _ σ45 ⟨_, ⟨v44, rfl, rfl⟩, H, -⟩
   replace H : Hp _ _ _ [_, _, _, _, _, _, _] := H
   refine w_end (q_blk (q_then (rg (st (v := (I (w64 (s18.2.2 + 1)))) (rv_add (a := s18.2.2) (b := 1) rfl rfl) (sm (I (w64 (s18.2.2 + 1))) rfl (w_end (q_then ?_)))))))
   obtain rfl := sj h
   exact ⟨_, rfl, _, σ45, a33, c34, v44, fr_join ⟨rfl, rfl, rfl, rfl, rfl, trivial⟩, rfl, H.sel' [1, 2, 0, 4, 5, 6] rfl rfl⟩
  ·replace h := bif_f hb23 h
   refine c_exit (q_then_x (q_then_x (q_blk_hit ?_)))
   obtain rfl := sj h
   obtain rfl := hres _ rfl
   exact ⟨rfl, _, σ19, v22, fr_join ⟨rfl, trivial⟩, rfl, H.sel' [2, 5] rfl rfl⟩
 ·clear hj
  have h := h'
  clear h' H
  rintro e a w ⟨rfl, ρ, σ46, v47, rfl, rfl, H⟩
  refine q_then (c_seq (rg (st_call (cx_bstring laysS Builder_Extra_156 hS0 (show Hp S0 σ0 _ (Ch.sb 40 5 n0 b9 v47 o17 :: [Ch.gw gw0]) from (H.sel' [0, 1] rfl rfl)) (H.gwl 1 rfl) (ent_f ⟨_, _, Tryz.func14, rfl, rfl⟩ rfl)) wn ?_)))
  rintro _ σ48 ⟨_, ⟨rfl, rfl⟩, H, -⟩
  replace H : Hp _ _ _ [] := H
  refine sa (.string (ByteArray.mk o17.toArray)) rfl (w_end (q_then (c_ret ?_)))
  obtain rfl := sj h
  exact fin_ret (v := (.string (ByteArray.mk o17.toArray))) (results_ok Tryz.results7 (res_tmp (v := (.string (ByteArray.mk o17.toArray))) rfl res_nil) rfl) ⟨rfl, rfl⟩ (H.sel' [] rfl rfl)

theorem c_laws_eqStringS {Aa : List ByteArray} {Bv : List ByteArray} {Ad : Option Addr} {Ae : Nat} {Ho : Option Addr} {Hq : Nat} {r : Bool} (h : M.laws_eqStringS Aa Bv = some r) :
    Cal2 Tryz.prog 8 [(Sl Ad Aa Ae), (Sl Ho Bv Hq)] [Ch.ro 0 (Sl Ad Aa Ae) Aa, Ch.ro 0 (Sl Ho Bv Hq) Bv] (fun n0 v L => v = (B r) ∧ L = []) := by
 refine cal2 (n := 26) Tryz.func8 rfl rfl rfl rfl ?_
 intro S0 σ0 n0 hn0 H
 unfold M.laws_eqStringS at h
 refine c_seq (rg (sa (B false) rfl (w_end (q_then (c_seq (c_seq (rg (sm (Sl Ad Aa Ae) rfl (st (v := (I (Aa.length : Int))) (rv_len Tryz.underlying22 rfl) (sm (Sl Ho Bv Hq) rfl (st (v := (I (Bv.length : Int))) (rv_len Tryz.underlying22 rfl) ?_)))))))))))
 refine st (v := (B ((Aa.length : Int) != (Bv.length : Int)))) (rv_neq (a := (Aa.length : Int)) (b := (Bv.length : Int)) rfl rfl) (w_end (q_then ?_))
 refine cd_cond ((Aa.length : Int) != (Bv.length : Int)) rfl (fun hb1 => ?_) (fun hb1 => ?_)
 ·replace h := bif_t hb1 h
  refine c_seq (rg (sa (B false) rfl (w_end (q_then (c_ret (q_then_r ?_))))))
  obtain rfl := sj h
  exact fin_ret (v := (B false)) (results_ok Tryz.results8 (res_tmp (v := (B false)) rfl res_nil) rfl) ⟨rfl, rfl⟩ (H.sel' [] rfl rfl)
 ·replace h := bif_f hb1 h
  refine c_skip (q_then (c_seq (c_seq (rg (sa (I 0) rfl (w_end (q_then ?_)))))))
  obtain ⟨o2, hj, h'⟩ := bind_some h
  clear h
  refine c_cut (fun e a w => (∃ t, o2 = (.inl t) ∧ e = .normal ∧ ∃ (ρ : Nat → Value) (σ : St), a = fr 26 (updL ρ []) ∧ w = σ.w ∧ Hp S0 σ0 σ []) ∨ (∃ t, o2 = (.inr t) ∧ e = .ret ∧ ∃ (ρ : Nat → Value) (σ : St), a = fr 26 (updL ρ [(4, (B t))]) ∧ w = σ.w ∧ Hp S0 σ0 σ [])) ?_ ?_
  ·clear h'
   rename _ = some o2 => h
   refine c_blk (wp_loopM _ h (fun s3 a w => ∃ (ρ : Nat → Value) (σ : St), a = fr 26 (updL ρ [(0, (Sl Ad Aa Ae)), (1, (Sl Ho Bv Hq)), (5, (I s3))]) ∧ w = σ.w ∧ Hp S0 σ0 σ [Ch.ro 0 (Sl Ad Aa Ae) Aa, Ch.ro 0 (Sl Ho Bv Hq) Bv]) ⟨_, σ0, fr_join ⟨rfl, rfl, rfl, trivial⟩, rfl, H.sel' [0, 1] rfl rfl⟩ ?_)
   clear h H
   rintro s3 a w o ⟨ρ, σ4, rfl, rfl, H⟩ h hres
   refine c_seq (c_seq (rg (sm (I s3) rfl (sm (Sl Ad Aa Ae) rfl (st (v := (I (Aa.length : Int))) (rv_len Tryz.underlying22 rfl) (st (v := (B (decide (s3 < (Aa.length : Int))))) (rv_lss (a := s3) (b := (Aa.length : Int)) rfl rfl) (w_end (q_then ?_))))))))
   refine cd_cond (decide (s3 < (Aa.length : Int))) rfl (fun hb5 => ?_) (fun hb5 => ?_)
   ·replace h := bif_t hb5 h
    refine c_skip (q_then (c_seq (c_blk (c_seq ?_))))
    refine rgP (σ := σ4) 8 (by kernel_rfl) (by kernel_rfl) (by kernel_rfl) ?_
    refine sq (v := (Sl Ad Aa Ae)) (rv_move rfl) (sq (v := (I s3)) (rv_move rfl) ?_)
    revert h; refine br fun x6 hx7 h => ?_
    obtain ⟨b9, o10, hi8, -⟩ := (H.ro 0 rfl).ix hx7
    refine sq (v := (pt b9 o10)) (rv_ix Tryz.underlying22 ti9 rfl rfl hi8) ?_
    have hc11 := ((H.ro 0 rfl).at hx7 hi8).str
    refine sq (v := (.string x6)) (rv_load1 Tryz.underlying9 rfl rfl hc11) (sq (v := (Sl Ho Bv Hq)) (rv_move rfl) (sq (v := (I s3)) (rv_move rfl) ?_))
    revert h; refine br fun x12 hx13 h => ?_
    obtain ⟨b15, o16, hi14, -⟩ := (H.ro 1 rfl).ix hx13
    refine sq (v := (pt b15 o16)) (rv_ix Tryz.underlying22 ti9 rfl rfl hi14) ?_
    have hc17 := ((H.ro 1 rfl).at hx13 hi14).str
    refine sq (v := (.string x12)) (rv_load1 Tryz.underlying9 rfl rfl hc17) (sq_end ?_)
    intro σ18 hm19
    replace H := H.grow (hm19.mono fun _ h => h); clear hm19
    refine st (v := (B (!(x6.toList == x12.toList)))) (rv_sneq rfl rfl) (w_end (q_then ?_))
    refine cd_cond (!(x6.toList == x12.toList)) rfl (fun hb20 => ?_) (fun hb20 => ?_)
    ·replace h := bif_t hb20 h
     refine c_seq (rg (sa (B false) rfl (w_end (q_then (c_ret (q_blk_r (q_then_r (q_then_r (q_blk_r ?_)))))))))
     obtain rfl := sj h
     obtain rfl := hres _ rfl
     exact .inr (⟨_, rfl, rfl, _, σ18, fr_join ⟨rfl, trivial⟩, rfl, H.sel' [] rfl rfl⟩)
    ·replace h := bif_f hb20 h
     refine c_skip (q_blk (q_then (rg (sm (I s3) rfl (st (v := (I (w64 (s3 + 1)))) (rv_add (a := s3) (b := 1) rfl rfl) (sa (I (w64 (s3 + 1))) rfl (w_end (q_then ?_))))))))
     obtain rfl := sj h
     exact ⟨_, rfl, _, σ18, fr_join ⟨rfl, rfl, rfl, trivial⟩, rfl, H.sel' [0, 1] rfl rfl⟩
   ·replace h := bif_f hb5 h
    refine c_exit (q_then_x (q_then_x (q_blk_hit ?_)))
    obtain rfl := sj h
    obtain rfl := hres _ rfl
    exact .inl ⟨_, rfl, rfl, _, σ4, fr_join trivial, rfl, H.sel' [] rfl rfl⟩
  ·clear hj
   have h := h'
   clear h' H
   rintro e a w (⟨t21, rfl, rfl, ρ, σ22, rfl, rfl, H⟩ | ⟨t23, rfl, rfl, ρ, σ24, rfl, rfl, H⟩)
   ·replace h := selim_l h
    refine q_then (c_seq (rg (sa (B true) rfl (w_end (q_then (c_ret ?_))))))
    obtain rfl := sj h
    exact fin_ret (v := (B true)) (results_ok Tryz.results8 (res_tmp (v := (B true)) rfl res_nil) rfl) ⟨rfl, rfl⟩ (H.sel' [] rfl rfl)
   ·replace h := selim_r h
    refine q_then_r ?_
    obtain rfl := sj h
    exact fin_ret (v := (B t23)) (results_ok Tryz.results8 (res_tmp (v := (B t23)) rfl res_nil) rfl) ⟨rfl, rfl⟩ (H.sel' [] rfl rfl)

theorem c_laws_FnExactRunSession {Hr : List ByteArray} {Ht : Option Addr} {Hu : Nat} {r : Bool} (h : M.laws_FnExactRunSession Hr = some r) :
    Cal2 Tryz.prog 3 [(Sl Ht Hr Hu)] [Ch.ro 0 (Sl Ht Hr Hu) Hr, Ch.gw gw0] (fun n0 v L => v = (B r) ∧ L = []) := by
 refine cal2 (n := 27) Tryz.func3 rfl rfl rfl rfl ?_
 intro S0 σ0 n0 hn0 H
 unfold M.laws_FnExactRunSession at h
 refine c_seq (rg (sa (B false) rfl (w_end (q_then (c_seq (rg (sa (I 1048576) rfl (w_end (q_then (c_seq (rg ?_)))))))))))
 refine sm (Sl Ht Hr Hu) rfl (sm (I 1048576) rfl ?_)
 revert h; refine br fun r1 hx2 h => ?_
 have hc3 := c_laws_szStringS (Ad := Ht) (Ae := Hu) hx2
 refine st_call (cx_call hc3 (ent_f hc3.fn rfl) hn0 (H.sel' [0, 0, 1] rfl rfl : Hp S0 σ0 _ ([_] ++ _))) wn ?_
 rintro _ σ4 ⟨_, ⟨rfl, rfl⟩, H, -⟩
 replace H : Hp _ _ _ [_, _] := H
 refine sa (I r1) rfl (w_end (q_then (c_seq (c_seq (rg (sm (I r1) rfl (st (v := (B (decide (r1 < 0)))) (rv_lss (a := r1) (b := 0) rfl rfl) (w_end (q_then ?_)))))))))
 refine cd_cond (decide (r1 < 0)) rfl (fun hb5 => ?_) (fun hb5 => ?_)
 ·replace h := bif_t hb5 h
  refine c_seq (rg (sa (B true) rfl (w_end (q_then (c_ret (q_then_r ?_))))))
  obtain rfl := sj h
  exact fin_ret (v := (B true)) (results_ok Tryz.results3 (res_tmp (v := (B true)) rfl res_nil) rfl) ⟨rfl, rfl⟩ (H.sel' [] rfl rfl)
 ·replace h := bif_f hb5 h
  refine c_skip (q_then (c_seq (rg (sm (Sl Ht Hr Hu) rfl ?_))))
  revert h; refine br fun r6 hx7 h => ?_
  have hc8 := c_laws_toStringS (Ad := Ht) (Ae := Hu) hx7
  refine st_call (cx_call hc8 (ent_f hc8.fn rfl) hn0 (H.sel' [0, 0, 1] rfl rfl : Hp S0 σ0 _ ([_] ++ _))) wn ?_
  rintro _ σ12 ⟨_, ⟨a9, c10, rfl, rfl, ht11⟩, H, -⟩
  replace H : Hp _ _ _ [_, _, _] := H
  obtain ⟨σ13, hw14, H, -⟩ := H.pub 0 rfl (Nat.le_refl _)
  rw [← hw14]; clear hw14
  replace H := H.roLow 0 0 rfl (Nat.zero_le _)
  revert h; refine br fun r15 hx16 h => ?_
  have hc17 := c_spec_RunSession (Cg := a9) (Ci := c10) hx16
  refine st_call (cx_call hc17 (ent_f hc17.fn rfl) hn0 (H.sel' [0, 0, 1, 2, 3] rfl rfl : Hp S0 σ0 _ ([_] ++ _))) wn ?_
  rintro _ σ18 ⟨_, ⟨rfl, rfl⟩, H, -⟩
  replace H : Hp _ _ _ [_, _, _, _] := H
  refine sa (.string r15) rfl (w_end (q_then (c_seq (rg (sm (Sl Ht Hr Hu) rfl ?_)))))
  revert h; refine br fun r19 hx20 h => ?_
  have hc21 := c_laws_toStringS (Ad := Ht) (Ae := Hu) hx20
  refine st_call (cx_call hc21 (ent_f hc21.fn rfl) hn0 (H.sel' [2, 0, 1, 2, 3] rfl rfl : Hp S0 σ0 _ ([_] ++ _))) wn ?_
  rintro _ σ25 ⟨_, ⟨a22, c23, rfl, rfl, ht24⟩, H, -⟩
  replace H : Hp _ _ _ [_, _, _, _, _] := H
  refine sa (Sl a22 r19 c23) rfl (w_end (q_then (c_seq (rg (sm (Sl a22 r19 c23) rfl ?_)))))
  revert h; refine br fun r26 hx27 h => ?_
  have hc28 := c_impl_RunSession (Cg := a22) (Ci := c23) hx27
  have hle := Nat.le_trans hn0 H.size
  refine st_call (cx_lend (Loan.lend (Loan.same Loan.nil)) hc28 (ent_f hc28.fn rfl) (show Hp S0 σ0 _ ([Ch.own n0 n0 (Sl a22 r19 c23) r19] ++ ([Ch.gw gw0] ++ [Ch.ro 0 (Sl a9 r6 c10) r6, Ch.ro n0 (Sl a9 r6 c10) r6, Ch.ro 0 (Sl Ht Hr Hu) Hr, Ch.gw gw0])) from (H.sel' [0, 4, 1, 2, 3, 4] rfl rfl)) (by rintro _ _ _ ⟨rfl, rfl⟩; exact trivial)) wn ?_
  rintro _ σ29 ⟨_, ⟨rfl, rfl⟩, H, -, -⟩
  replace H : Hp _ _ _ [_, _, _, _, _] := H
  clear hle
  replace H : Hp _ _ _ [_, _, _, _, _] := H
  refine sa (.string r26) rfl (w_end (q_then (c_seq (c_seq (rg (sm (.string r26) rfl (sm (.string r15) rfl (st (v := (B (!(r26.toList == r15.toList)))) (rv_sneq rfl rfl) (w_end (q_then ?_))))))))))
  refine cd_cond (!(r26.toList == r15.toList)) rfl (fun hb30 => ?_) (fun hb30 => ?_)
  ·replace h := bif_t hb30 h
   refine c_seq (rg (sa (B false) rfl (w_end (q_then (c_ret (q_then_r ?_))))))
   obtain rfl := sj h
   exact fin_ret (v := (B false)) (results_ok Tryz.results3 (res_tmp (v := (B false)) rfl res_nil) rfl) ⟨rfl, rfl⟩ (H.sel' [] rfl rfl)
  ·replace h := bif_f hb30 h
   refine c_skip (q_then (c_seq (c_seq (rg (sm (Sl a22 r19 c23) rfl (sm (Sl Ht Hr Hu) rfl ?_))))))
   revert h; refine br fun r31 hx32 h => ?_
   have hc33 := c_laws_toStringS (Ad := Ht) (Ae := Hu) hx32
   refine st_call (cx_call hc33 (ent_f hc33.fn rfl) hn0 (H.sel' [3, 0, 1, 2, 3, 4] rfl rfl : Hp S0 σ0 _ ([_] ++ _))) wn ?_
   rintro _ σ37 ⟨_, ⟨a34, c35, rfl, rfl, ht36⟩, H, -⟩
   replace H : Hp _ _ _ [_, _, _, _, _, _] := H
   obtain ⟨σ38, hw39, H, -⟩ := H.pub 1 rfl (Nat.le_refl _)
   rw [← hw39]; clear hw39
   obtain ⟨σ40, hw41, H, -⟩ := H.pub 1 rfl (Nat.le_refl _)
   rw [← hw41]; clear hw41
   replace H := H.roLow 1 0 rfl (Nat.zero_le _)
   replace H := H.roLow 1 0 rfl (Nat.zero_le _)
   revert h; refine br fun r42 hx43 h => ?_
   have hc44 := c_laws_eqStringS (Ad := a22) (Ae := c23) (Ho := a34) (Hq := c35) hx43
   refine st_call (cx_call hc44 (ent_f hc44.fn rfl) hn0 (H.sel' [1, 0, 0, 1, 2, 3, 4, 5, 6, 7] rfl rfl : Hp S0 σ0 _ ([_, _] ++ _))) wn ?_
   rintro _ σ45 ⟨_, ⟨rfl, rfl⟩, H, -⟩
   replace H : Hp _ _ _ [_, _, _, _, _, _, _, _] := H
   replace H : Hp S0 σ0 σ45 [Ch.gw gw0] := H.sel' [7] rfl rfl
   refine st (v := (B (!r42))) (rv_not rfl) (w_end (q_then ?_))
   refine cd_cond (!r42) rfl (fun hb46 => ?_) (fun hb46 => ?_)
   ·replace h := bif_t hb46 h
    refine c_seq (rg (sa (B false) rfl (w_end (q_then (c_ret (q_then_r ?_))))))
    obtain rfl := sj h
    exact fin_ret (v := (B false)) (results_ok Tryz.results3 (res_tmp (v := (B false)) rfl res_nil) rfl) ⟨rfl, rfl⟩ (H.sel' [] rfl rfl)
   ·replace h := bif_f hb46 h
    refine c_skip (q_then (c_seq (rg (sa (B true) rfl (w_end (q_then (c_ret ?_)))))))
    obtain rfl := sj h
    exact fin_ret (v := (B true)) (results_ok Tryz.results3 (res_tmp (v := (B true)) rfl res_nil) rfl) ⟨rfl, rfl⟩ (H.sel' [] rfl rfl)

end Go.Vs
