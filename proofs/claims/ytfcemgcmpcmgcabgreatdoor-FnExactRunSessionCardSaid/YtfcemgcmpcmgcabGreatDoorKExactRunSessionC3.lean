/- The functions compute what their models say. -/
import Derived.Test.YtfcemgcmpcmgcabGreatDoorKExactRunSessionC2
set_option linter.unusedVariables false
set_option linter.unusedSimpArgs false
set_option maxRecDepth 20000
namespace Go.Vs
open Go Go.Proofs
attribute [local irreducible] Code.wp Code.wpIn wpList wpListIn wpQuiet Calls CallsIn

theorem c_spec_desk_line {Ba : (List (Int × (List Int) × Int)) × Int} {Ce : ByteArray} {Be : Option Addr} {Bf : Nat} {Bg Bh Bi : Nat} {Bj Bk : List Value} {r : ByteArray × ((List (Int × (List Int) × Int)) × Int)} (h : M.spec_desk_line Ba Ce = some r) :
    Cal2 Tryz.prog 9 [(pt Bh Bi), (.string Ce)] [Ch.bx Bg Bh Bi [(Sl Be Ba.1 Bf), (I Ba.2)] Bj Bk, Ch.ro 0 (Sl Be Ba.1 Bf) Ba.1] (fun n0 v L => ∃ (az1 : Option Addr), ∃ (cz2 : Nat), v = (.string r.1) ∧ L = [Ch.bx Bg Bh Bi [(Sl az1 r.2.1 cz2), (I r.2.2)] Bj Bk, Ch.ro 0 (Sl az1 r.2.1 cz2) r.2.1]) := by
 refine cal2 (n := 127) Tryz.func9 rfl rfl rfl rfl ?_
 intro S0 σ0 n0 hn0 H
 unfold M.spec_desk_line at h
 refine c_seq (rg (sa (.string (ByteArray.mk #[])) rfl (w_end (q_then (c_seq (rg (sm (.string Ce) rfl ?_)))))))
 revert h; refine br fun r1 hx2 h => ?_
 have hc3 := c_spec_splitAt hx2
 refine st_call (cx_call hc3 (ent_f hc3.fn rfl) hn0 (H.sel' [0, 1] rfl rfl : Hp S0 σ0 _ ([] ++ _))) wn ?_
 rintro _ σ6 ⟨_, ⟨a4, c5, rfl, rfl⟩, H, -⟩
 replace H : Hp _ _ _ [_, _, _] := H
 refine sa (Sl a4 r1 c5) rfl (w_end (q_then (c_seq (c_blk (c_seq ?_)))))
 obtain ⟨o7, hj, h'⟩ := bind_some h
 clear h
 refine c_cut (fun e a w => e = .normal ∧ ∃ (ρ : Nat → Value) (σ : St), a = fr 127 (updL ρ [(0, (pt Bh Bi)), (1, (.string Ce)), (5, (Sl a4 r1 c5)), (11, (B o7))]) ∧ w = σ.w ∧ Hp S0 σ0 σ [Ch.ro 0 (Sl Be Ba.1 Bf) Ba.1, Ch.bx Bg Bh Bi [(Sl Be Ba.1 Bf), (I Ba.2)] Bj Bk, Ch.own n0 n0 (Sl a4 r1 c5) r1]) ?_ ?_
 ·clear h'
  rename _ = some o7 => h
  refine rg (sm (Sl a4 r1 c5) rfl ?_)
  revert h; refine br fun x8 hx9 h => ?_
  obtain ⟨b11, o12, hi10, -⟩ := (H.own 0 rfl).ix hx9
  refine st (v := (pt b11 o12)) (rv_ix Tryz.underlying22 ti9 rfl rfl hi10) ?_
  have hc13 := ((H.own 0 rfl).at hx9 hi10).str
  refine st (v := (.string x8)) (rv_load1 Tryz.underlying9 rfl rfl hc13) (st (v := (B (x8.toList == (ByteArray.mk #[112, 117, 116]).toList))) (rv_seql rfl rfl) (sm (B (x8.toList == (ByteArray.mk #[112, 117, 116]).toList)) rfl ?_))
  rcases Bool.eq_false_or_eq_true (x8.toList == (ByteArray.mk #[112, 117, 116]).toList) with hb14 | hb14
  ·replace h := bif_t hb14 h
   refine st_g (v := (Sl a4 r1 c5)) (congrArg some hb14) (rv_move rfl) (st_g (v := (I (r1.length : Int))) (congrArg some hb14) (rv_len Tryz.underlying22 rfl) (st_g (v := (B ((r1.length : Int) == 4))) (congrArg some hb14) (rv_eql (a := (r1.length : Int)) (b := 4) rfl rfl) (st (v := (B ((r1.length : Int) == 4))) (rv_pick_t (congrArg B hb14) rfl) (sa (B ((r1.length : Int) == 4)) rfl (w_end ?_)))))
   obtain rfl := sj h
   exact ⟨rfl, _, σ6, fr_join ⟨rfl, rfl, rfl, rfl, trivial⟩, rfl, H.sel' [2, 1, 0] rfl rfl⟩
  ·replace h := bif_f hb14 h
   refine st_skip (congrArg some hb14) (st_skip (congrArg some hb14) (st_skip (congrArg some hb14) (st (v := (B false)) (rv_pick_f (congrArg B hb14) rfl) (sa (B false) rfl (w_end ?_)))))
   obtain rfl := sj h
   exact ⟨rfl, _, σ6, fr_join ⟨rfl, rfl, rfl, rfl, trivial⟩, rfl, H.sel' [2, 1, 0] rfl rfl⟩
 ·clear hj
  have h := h'
  clear h' H
  rintro e a w ⟨rfl, ρ, σ15, rfl, rfl, H⟩
  refine q_then ?_
  refine cd_cond o7 rfl (fun hb16 => ?_) (fun hb16 => ?_)
  ·replace h := bif_t hb16 h
   refine c_seq ?_
   revert h; refine br fun x17 hx18 h => ?_
   obtain ⟨b20, o21, hi19, -⟩ := (H.own 2 rfl).ix hx18
   have hc22 := ((H.own 2 rfl).at hx18 hi19).str
   revert h; refine br fun r23 hx24 h => ?_
   have hc25 := c_spec_numberOf hx24
   revert h; refine br fun x26 hx27 h => ?_
   obtain ⟨b29, o30, hi28, -⟩ := (H.own 2 rfl).ix hx27
   have hc31 := ((H.own 2 rfl).at hx27 hi28).str
   revert h; refine br fun r32 hx33 h => ?_
   have hc34 := c_spec_vectorOf hx33
   revert h; refine br fun x37 hx38 h => ?_
   obtain ⟨b40, o41, hi39, -⟩ := (H.own 2 rfl).ix hx38
   have hc42 := ((H.own 2 rfl).at hx38 hi39).str
   revert h; refine br fun r43 hx44 h => ?_
   have hc45 := c_spec_numberOf hx44
   have Hs := H
   refine rg2 (σ := σ15) (Nm := (Option Addr) × (Nat)) 13 [4, 8, 12] [[false, false, false], [true, false, false], [true, true, false], [true, true, true]] [[(0, 0), (1, 1), (2, 2), (3, 3)], [(0, 0)], [(0, 0)], [(0, 0)], [(0, 1)], [(0, 0), (1, 1)], [(0, 0), (1, 1)], [(0, 0), (1, 1)], [(1, 2)], [(0, 0), (1, 1), (2, 2)], [(0, 0), (1, 1), (2, 2)], [(0, 0), (1, 1), (2, 2)], [(2, 3)]] 3 [fun ((a35, c36) : (Option Addr) × (Nat)) => fun σm => Hp S0 σ0 σm [Ch.ro 0 (Sl Be Ba.1 Bf) Ba.1, Ch.bx Bg Bh Bi [(Sl Be Ba.1 Bf), (I Ba.2)] Bj Bk, Ch.own n0 n0 (Sl a4 r1 c5) r1] ∧ Md (cov []) σ15 σm, fun ((a35, c36) : (Option Addr) × (Nat)) => fun σm => Hp S0 σ0 σm [Ch.ro 0 (Sl Be Ba.1 Bf) Ba.1, Ch.bx Bg Bh Bi [(Sl Be Ba.1 Bf), (I Ba.2)] Bj Bk, Ch.own n0 n0 (Sl a4 r1 c5) r1] ∧ Md (cov []) σ15 σm, fun ((a35, c36) : (Option Addr) × (Nat)) => fun σm => Hp S0 σ0 σm [Ch.own n0 n0 (Sl a35 r32 c36) r32, Ch.ro 0 (Sl Be Ba.1 Bf) Ba.1, Ch.bx Bg Bh Bi [(Sl Be Ba.1 Bf), (I Ba.2)] Bj Bk, Ch.own n0 n0 (Sl a4 r1 c5) r1] ∧ Md (cov []) σ15 σm, fun ((a35, c36) : (Option Addr) × (Nat)) => fun σm => Hp S0 σ0 σm [Ch.own n0 n0 (Sl a35 r32 c36) r32, Ch.ro 0 (Sl Be Ba.1 Bf) Ba.1, Ch.bx Bg Bh Bi [(Sl Be Ba.1 Bf), (I Ba.2)] Bj Bk, Ch.own n0 n0 (Sl a4 r1 c5) r1] ∧ Md (cov []) σ15 σm] [fun ((a35, c36) : (Option Addr) × (Nat)) => (pt Bh Bi), fun ((a35, c36) : (Option Addr) × (Nat)) => (Sl a4 r1 c5), fun ((a35, c36) : (Option Addr) × (Nat)) => (pt b20 o21), fun ((a35, c36) : (Option Addr) × (Nat)) => (.string x17), fun ((a35, c36) : (Option Addr) × (Nat)) => (I r23), fun ((a35, c36) : (Option Addr) × (Nat)) => (Sl a4 r1 c5), fun ((a35, c36) : (Option Addr) × (Nat)) => (pt b29 o30), fun ((a35, c36) : (Option Addr) × (Nat)) => (.string x26), fun ((a35, c36) : (Option Addr) × (Nat)) => (Sl a35 r32 c36), fun ((a35, c36) : (Option Addr) × (Nat)) => (Sl a4 r1 c5), fun ((a35, c36) : (Option Addr) × (Nat)) => (pt b40 o41), fun ((a35, c36) : (Option Addr) × (Nat)) => (.string x37), fun ((a35, c36) : (Option Addr) × (Nat)) => (I r43)] (none, 0) (by kernel_rfl) (by kernel_rfl) ?_ ?_ ?_
   ·intro σm m0
    exact ⟨H.grow (m0.mono fun _ h => h.elim), m0⟩
   ·refine ac rfl (by
      intro k; rintro ⟨a35, c36⟩ ρ σm hJ hoff hdep
      have e0 := look_off (N := 127) (hoff 0 rfl) rfl
      exact dp_v (v := (pt Bh Bi)) wn (rv_move e0) rfl hJ) ?_
    refine ac rfl (by
      intro k; rintro ⟨a35, c36⟩ ρ σm hJ hoff hdep
      have e5 := look_off (N := 127) (hoff 5 rfl) rfl
      exact dp_v (v := (Sl a4 r1 c5)) wn (rv_move e5) rfl hJ) ?_
    refine ac rfl (by
      intro k; rintro ⟨a35, c36⟩ ρ σm hJ hoff hdep
      have e22 := hdep 1 rfl rfl 22 rfl
      exact dp_v (v := (pt b20 o21)) wn (rv_ix Tryz.underlying22 ti9 e22 rfl hi19) rfl hJ) ?_
    refine all_cons (by
      refine ⟨?_, ?_⟩
      ·rintro ⟨a35, c36⟩ ρ σm hJ hoff hdep
       have e23 := hdep 2 rfl rfl 23 rfl
       obtain ⟨H, m⟩ := id hJ
       have hc22 := ((H.own 2 rfl).at hx18 hi19).str
       exact dp_v (v := (.string x17)) wn (rv_load1 Tryz.underlying9 rfl e23 hc22) rfl hJ
      trivial) ?_
    refine all_cons (by
      refine ⟨?_, ?_⟩
      ·rintro ⟨a35, c36⟩ ρ σm hJ hoff hdep
       have e24 : look 127 ρ 24 = (.string x17) := hdep 3 rfl rfl 24 rfl
       obtain ⟨H, m⟩ := id hJ
       refine dp_cx wn (cx_call hc25 (ent_f hc25.fn (by show [look 127 ρ 24] = _; rw [e24])) hn0 (H.sel' [0, 1, 2] rfl rfl : Hp S0 σ0 _ ([] ++ _))) ?_
       rintro _ σq ⟨_, ⟨rfl, rfl⟩, H2, m2⟩
       exact ⟨_, (a35, c36), rfl, rfl, ⟨H2.sel' [0, 1, 2] rfl rfl, m.comp0 m2⟩, stab [0, 1, 2, 3, 5, 6, 7, 9, 10, 11] (by kernel_rfl) ⟨rfl, rfl, rfl, rfl, rfl, rfl, rfl, rfl, rfl, rfl, trivial⟩⟩
      trivial) ?_
    refine ac rfl (by
      intro k; rintro ⟨a35, c36⟩ ρ σm hJ hoff hdep
      have e5 := look_off (N := 127) (hoff 5 rfl) rfl
      exact dp_v (v := (Sl a4 r1 c5)) wn (rv_move e5) rfl hJ) ?_
    refine ac rfl (by
      intro k; rintro ⟨a35, c36⟩ ρ σm hJ hoff hdep
      have e26 := hdep 5 rfl rfl 26 rfl
      exact dp_v (v := (pt b29 o30)) wn (rv_ix Tryz.underlying22 ti9 e26 rfl hi28) rfl hJ) ?_
    refine all_cons (by
      refine ⟨?_, ?_⟩
      ·rintro ⟨a35, c36⟩ ρ σm hJ hoff hdep
       have e27 := hdep 6 rfl rfl 27 rfl
       obtain ⟨H, m⟩ := id hJ
       have hc31 := ((H.own 2 rfl).at hx27 hi28).str
       exact dp_v (v := (.string x26)) wn (rv_load1 Tryz.underlying9 rfl e27 hc31) rfl hJ
      refine ⟨?_, ?_⟩
      ·rintro ⟨a35, c36⟩ ρ σm hJ hoff hdep
       have e27 := hdep 6 rfl rfl 27 rfl
       obtain ⟨H, m⟩ := id hJ
       have hc31 := ((H.own 2 rfl).at hx27 hi28).str
       exact dp_v (v := (.string x26)) wn (rv_load1 Tryz.underlying9 rfl e27 hc31) rfl hJ
      trivial) ?_
    refine all_cons (by
      refine ⟨?_, ?_⟩
      ·rintro ⟨a35, c36⟩ ρ σm hJ hoff hdep
       have e28 : look 127 ρ 28 = (.string x26) := hdep 7 rfl rfl 28 rfl
       obtain ⟨H, m⟩ := id hJ
       refine dp_cx wn (cx_call hc34 (ent_f hc34.fn (by show [look 127 ρ 28] = _; rw [e28])) hn0 (H.sel' [0, 1, 2] rfl rfl : Hp S0 σ0 _ ([] ++ _))) ?_
       rintro _ σq ⟨_, ⟨a35x, c36x, rfl, rfl⟩, H2, m2⟩
       exact ⟨_, (a35x, c36x), rfl, rfl, ⟨H2.sel' [0, 1, 2, 3] rfl rfl, m.comp0 m2⟩, stab [0, 1, 2, 3, 4, 5, 6, 7, 9, 10, 11] (by kernel_rfl) ⟨rfl, rfl, rfl, rfl, rfl, rfl, rfl, rfl, rfl, rfl, rfl, trivial⟩⟩
      trivial) ?_
    refine ac rfl (by
      intro k; rintro ⟨a35, c36⟩ ρ σm hJ hoff hdep
      have e5 := look_off (N := 127) (hoff 5 rfl) rfl
      exact dp_v (v := (Sl a4 r1 c5)) wn (rv_move e5) rfl hJ) ?_
    refine ac rfl (by
      intro k; rintro ⟨a35, c36⟩ ρ σm hJ hoff hdep
      have e30 := hdep 9 rfl rfl 30 rfl
      exact dp_v (v := (pt b40 o41)) wn (rv_ix Tryz.underlying22 ti9 e30 rfl hi39) rfl hJ) ?_
    refine all_cons (by
      refine ⟨?_, ?_⟩
      ·rintro ⟨a35, c36⟩ ρ σm hJ hoff hdep
       have e31 := hdep 10 rfl rfl 31 rfl
       obtain ⟨H, m⟩ := id hJ
       have hc42 := ((H.own 2 rfl).at hx38 hi39).str
       exact dp_v (v := (.string x37)) wn (rv_load1 Tryz.underlying9 rfl e31 hc42) rfl hJ
      refine ⟨?_, ?_⟩
      ·rintro ⟨a35, c36⟩ ρ σm hJ hoff hdep
       have e31 := hdep 10 rfl rfl 31 rfl
       obtain ⟨H, m⟩ := id hJ
       have hc42 := ((H.own 2 rfl).at hx38 hi39).str
       exact dp_v (v := (.string x37)) wn (rv_load1 Tryz.underlying9 rfl e31 hc42) rfl hJ
      refine ⟨?_, ?_⟩
      ·rintro ⟨a35, c36⟩ ρ σm hJ hoff hdep
       have e31 := hdep 10 rfl rfl 31 rfl
       obtain ⟨H, m⟩ := id hJ
       have hc42 := ((H.own 3 rfl).at hx38 hi39).str
       exact dp_v (v := (.string x37)) wn (rv_load1 Tryz.underlying9 rfl e31 hc42) rfl hJ
      trivial) ?_
    refine all_cons (by
      refine ⟨?_, ?_⟩
      ·rintro ⟨a35, c36⟩ ρ σm hJ hoff hdep
       have e32 : look 127 ρ 32 = (.string x37) := hdep 11 rfl rfl 32 rfl
       obtain ⟨H, m⟩ := id hJ
       refine dp_cx wn (cx_call hc45 (ent_f hc45.fn (by show [look 127 ρ 32] = _; rw [e32])) hn0 (H.sel' [0, 1, 2, 3] rfl rfl : Hp S0 σ0 _ ([] ++ _))) ?_
       rintro _ σq ⟨_, ⟨rfl, rfl⟩, H2, m2⟩
       exact ⟨_, (a35, c36), rfl, rfl, ⟨H2.sel' [0, 1, 2, 3] rfl rfl, m.comp0 m2⟩, stab [0, 1, 2, 3, 4, 5, 6, 7, 8, 9, 10, 11] (by kernel_rfl) ⟨rfl, rfl, rfl, rfl, rfl, rfl, rfl, rfl, rfl, rfl, rfl, rfl, trivial⟩⟩
      trivial) ?_
    exact all_nil
   ·rintro ⟨a35, c36⟩ ρ σ46 hJ hoff hrel
    have e0 := look_off (N := 127) (hoff 0 rfl) rfl
    have e21 := hrel 0 rfl 21 rfl
    have e25 := hrel 4 rfl 25 rfl
    have e29 := hrel 8 rfl 29 rfl
    have e33 := hrel 12 rfl 33 rfl
    obtain ⟨H, -⟩ := (show Hp S0 σ0 σ46 [Ch.own n0 n0 (Sl a35 r32 c36) r32, Ch.ro 0 (Sl Be Ba.1 Bf) Ba.1, Ch.bx Bg Bh Bi [(Sl Be Ba.1 Bf), (I Ba.2)] Bj Bk, Ch.own n0 n0 (Sl a4 r1 c5) r1] ∧ Md (cov []) σ15 σ46 from hJ)
    clear hJ Hs
    rw [fr_lookL (L := [(0, (pt Bh Bi)), (21, (pt Bh Bi)), (25, (I r23)), (29, (Sl a35 r32 c36)), (33, (I r43))]) ⟨e0, e21, e25, e29, e33, trivial⟩]
    clear hoff hrel e0 e21 e25 e29 e33
    obtain ⟨σ47, hw48, H, -⟩ := H.pub 0 rfl (Nat.le_refl _)
    rw [← hw48]; clear hw48
    replace H := H.roLow 0 0 rfl (Nat.zero_le _)
    revert h; refine br fun r49 hx50 h => ?_
    have hc51 := c_spec_desk_put (Bg := Bg) (Bh := Bh) (Bi := Bi) (Bj := Bj) (Bk := Bk) (Be := Be) (Bf := Bf) (Bl := a35) (Bm := c36) hx50
    refine st_call (cx_call hc51 (ent_f hc51.fn rfl) hn0 (H.sel' [3, 2, 0, 0, 1, 2, 4] rfl rfl : Hp S0 σ0 _ ([_, _, _] ++ _))) wn ?_
    rintro _ σ54 ⟨_, ⟨a52, c53, rfl, rfl⟩, H, -⟩
    replace H : Hp _ _ _ [_, _, _, _, _, _] := H
    refine sa (.string r49.1) rfl (w_end (q_then (c_ret (q_blk_r (q_then_r ?_)))))
    obtain rfl := sj h
    exact fin_ret (v := (.string r49.1)) (results_ok Tryz.results9 (res_tmp (v := (.string r49.1)) rfl res_nil) rfl) ⟨a52, c53, rfl, rfl⟩ (H.sel' [0, 1] rfl rfl)
  ·replace h := bif_f hb16 h
   refine c_seq ?_
   obtain ⟨o55, hj, h'⟩ := bind_some h
   clear h
   refine c_cut (fun e a w => e = .normal ∧ ∃ (ρ : Nat → Value) (σ : St), a = fr 127 (updL ρ [(0, (pt Bh Bi)), (1, (.string Ce)), (5, (Sl a4 r1 c5)), (35, (B o55))]) ∧ w = σ.w ∧ Hp S0 σ0 σ [Ch.ro 0 (Sl Be Ba.1 Bf) Ba.1, Ch.bx Bg Bh Bi [(Sl Be Ba.1 Bf), (I Ba.2)] Bj Bk, Ch.own n0 n0 (Sl a4 r1 c5) r1]) ?_ ?_
   ·clear h'
    rename _ = some o55 => h
    refine rg (sm (Sl a4 r1 c5) rfl ?_)
    revert h; refine br fun x56 hx57 h => ?_
    obtain ⟨b59, o60, hi58, -⟩ := (H.own 2 rfl).ix hx57
    refine st (v := (pt b59 o60)) (rv_ix Tryz.underlying22 ti9 rfl rfl hi58) ?_
    have hc61 := ((H.own 2 rfl).at hx57 hi58).str
    refine st (v := (.string x56)) (rv_load1 Tryz.underlying9 rfl rfl hc61) (st (v := (B (x56.toList == (ByteArray.mk #[100, 114, 111, 112]).toList))) (rv_seql rfl rfl) (sm (B (x56.toList == (ByteArray.mk #[100, 114, 111, 112]).toList)) rfl ?_))
    rcases Bool.eq_false_or_eq_true (x56.toList == (ByteArray.mk #[100, 114, 111, 112]).toList) with hb62 | hb62
    ·replace h := bif_t hb62 h
     refine st_g (v := (Sl a4 r1 c5)) (congrArg some hb62) (rv_move rfl) (st_g (v := (I (r1.length : Int))) (congrArg some hb62) (rv_len Tryz.underlying22 rfl) (st_g (v := (B ((r1.length : Int) == 2))) (congrArg some hb62) (rv_eql (a := (r1.length : Int)) (b := 2) rfl rfl) (st (v := (B ((r1.length : Int) == 2))) (rv_pick_t (congrArg B hb62) rfl) (sa (B ((r1.length : Int) == 2)) rfl (w_end ?_)))))
     obtain rfl := sj h
     exact ⟨rfl, _, σ15, fr_join ⟨rfl, rfl, rfl, rfl, trivial⟩, rfl, H.sel' [0, 1, 2] rfl rfl⟩
    ·replace h := bif_f hb62 h
     refine st_skip (congrArg some hb62) (st_skip (congrArg some hb62) (st_skip (congrArg some hb62) (st (v := (B false)) (rv_pick_f (congrArg B hb62) rfl) (sa (B false) rfl (w_end ?_)))))
     obtain rfl := sj h
     exact ⟨rfl, _, σ15, fr_join ⟨rfl, rfl, rfl, rfl, trivial⟩, rfl, H.sel' [0, 1, 2] rfl rfl⟩
   ·clear hj
    have h := h'
    clear h' H
    rintro e a w ⟨rfl, ρ, σ63, rfl, rfl, H⟩
    refine q_then ?_
    refine cd_cond o55 rfl (fun hb64 => ?_) (fun hb64 => ?_)
    ·replace h := bif_t hb64 h
     refine c_seq (rg (sm (pt Bh Bi) rfl (sm (Sl a4 r1 c5) rfl ?_)))
     revert h; refine br fun x65 hx66 h => ?_
     obtain ⟨b68, o69, hi67, -⟩ := (H.own 2 rfl).ix hx66
     refine st (v := (pt b68 o69)) (rv_ix Tryz.underlying22 ti9 rfl rfl hi67) ?_
     have hc70 := ((H.own 2 rfl).at hx66 hi67).str
     refine st (v := (.string x65)) (rv_load1 Tryz.underlying9 rfl rfl hc70) ?_
     revert h; refine br fun r71 hx72 h => ?_
     have hc73 := c_spec_numberOf hx72
     refine st_call (cx_call hc73 (ent_f hc73.fn rfl) hn0 (H.sel' [0, 1, 2] rfl rfl : Hp S0 σ0 _ ([] ++ _))) wn ?_
     rintro _ σ74 ⟨_, ⟨rfl, rfl⟩, H, -⟩
     replace H : Hp _ _ _ [_, _, _] := H
     revert h; refine br fun r75 hx76 h => ?_
     have hc77 := c_spec_desk_drop (Bg := Bg) (Bh := Bh) (Bi := Bi) (Bj := Bj) (Bk := Bk) (Be := Be) (Bf := Bf) hx76
     refine st_call (cx_call hc77 (ent_f hc77.fn rfl) hn0 (H.sel' [1, 0, 0, 2] rfl rfl : Hp S0 σ0 _ ([_, _] ++ _))) wn ?_
     rintro _ σ80 ⟨_, ⟨a78, c79, rfl, rfl⟩, H, -⟩
     replace H : Hp _ _ _ [_, _, _, _] := H
     refine sa (.string r75.1) rfl (w_end (q_then (c_ret (q_blk_r (q_then_r ?_)))))
     obtain rfl := sj h
     exact fin_ret (v := (.string r75.1)) (results_ok Tryz.results9 (res_tmp (v := (.string r75.1)) rfl res_nil) rfl) ⟨a78, c79, rfl, rfl⟩ (H.sel' [0, 1] rfl rfl)
    ·replace h := bif_f hb64 h
     refine c_seq ?_
     obtain ⟨o81, hj, h'⟩ := bind_some h
     clear h
     refine c_cut (fun e a w => e = .normal ∧ ∃ (ρ : Nat → Value) (σ : St), a = fr 127 (updL ρ [(0, (pt Bh Bi)), (1, (.string Ce)), (5, (Sl a4 r1 c5)), (51, (B o81))]) ∧ w = σ.w ∧ Hp S0 σ0 σ [Ch.ro 0 (Sl Be Ba.1 Bf) Ba.1, Ch.bx Bg Bh Bi [(Sl Be Ba.1 Bf), (I Ba.2)] Bj Bk, Ch.own n0 n0 (Sl a4 r1 c5) r1]) ?_ ?_
     ·clear h'
      rename _ = some o81 => h
      refine rg (sm (Sl a4 r1 c5) rfl ?_)
      revert h; refine br fun x82 hx83 h => ?_
      obtain ⟨b85, o86, hi84, -⟩ := (H.own 2 rfl).ix hx83
      refine st (v := (pt b85 o86)) (rv_ix Tryz.underlying22 ti9 rfl rfl hi84) ?_
      have hc87 := ((H.own 2 rfl).at hx83 hi84).str
      refine st (v := (.string x82)) (rv_load1 Tryz.underlying9 rfl rfl hc87) (st (v := (B (x82.toList == (ByteArray.mk #[110, 101, 97, 114]).toList))) (rv_seql rfl rfl) (sm (B (x82.toList == (ByteArray.mk #[110, 101, 97, 114]).toList)) rfl ?_))
      rcases Bool.eq_false_or_eq_true (x82.toList == (ByteArray.mk #[110, 101, 97, 114]).toList) with hb88 | hb88
      ·replace h := bif_t hb88 h
       refine st_g (v := (Sl a4 r1 c5)) (congrArg some hb88) (rv_move rfl) (st_g (v := (I (r1.length : Int))) (congrArg some hb88) (rv_len Tryz.underlying22 rfl) (st_g (v := (B ((r1.length : Int) == 3))) (congrArg some hb88) (rv_eql (a := (r1.length : Int)) (b := 3) rfl rfl) (st (v := (B ((r1.length : Int) == 3))) (rv_pick_t (congrArg B hb88) rfl) (sa (B ((r1.length : Int) == 3)) rfl (w_end ?_)))))
       obtain rfl := sj h
       exact ⟨rfl, _, σ63, fr_join ⟨rfl, rfl, rfl, rfl, trivial⟩, rfl, H.sel' [0, 1, 2] rfl rfl⟩
      ·replace h := bif_f hb88 h
       refine st_skip (congrArg some hb88) (st_skip (congrArg some hb88) (st_skip (congrArg some hb88) (st (v := (B false)) (rv_pick_f (congrArg B hb88) rfl) (sa (B false) rfl (w_end ?_)))))
       obtain rfl := sj h
       exact ⟨rfl, _, σ63, fr_join ⟨rfl, rfl, rfl, rfl, trivial⟩, rfl, H.sel' [0, 1, 2] rfl rfl⟩
     ·clear hj
      have h := h'
      clear h' H
      rintro e a w ⟨rfl, ρ, σ89, rfl, rfl, H⟩
      refine q_then ?_
      refine cd_cond o81 rfl (fun hb90 => ?_) (fun hb90 => ?_)
      ·replace h := bif_t hb90 h
       refine c_seq ?_
       revert h; refine br fun x91 hx92 h => ?_
       obtain ⟨b94, o95, hi93, -⟩ := (H.own 2 rfl).ix hx92
       have hc96 := ((H.own 2 rfl).at hx92 hi93).str
       revert h; refine br fun r97 hx98 h => ?_
       have hc99 := c_spec_vectorOf hx98
       revert h; refine br fun x102 hx103 h => ?_
       obtain ⟨b105, o106, hi104, -⟩ := (H.own 2 rfl).ix hx103
       have hc107 := ((H.own 2 rfl).at hx103 hi104).str
       revert h; refine br fun r108 hx109 h => ?_
       have hc110 := c_spec_numberOf hx109
       have Hs := H
       refine rg2 (σ := σ89) (Nm := (Option Addr) × (Nat)) 9 [4, 8] [[false, false], [true, false], [true, true]] [[(0, 0), (1, 1), (2, 2)], [(0, 0)], [(0, 0)], [(0, 0)], [(0, 1)], [(0, 0), (1, 1)], [(0, 0), (1, 1)], [(0, 0), (1, 1)], [(1, 2)]] 2 [fun ((a100, c101) : (Option Addr) × (Nat)) => fun σm => Hp S0 σ0 σm [Ch.ro 0 (Sl Be Ba.1 Bf) Ba.1, Ch.bx Bg Bh Bi [(Sl Be Ba.1 Bf), (I Ba.2)] Bj Bk, Ch.own n0 n0 (Sl a4 r1 c5) r1] ∧ Md (cov []) σ89 σm, fun ((a100, c101) : (Option Addr) × (Nat)) => fun σm => Hp S0 σ0 σm [Ch.own n0 n0 (Sl a100 r97 c101) r97, Ch.ro 0 (Sl Be Ba.1 Bf) Ba.1, Ch.bx Bg Bh Bi [(Sl Be Ba.1 Bf), (I Ba.2)] Bj Bk, Ch.own n0 n0 (Sl a4 r1 c5) r1] ∧ Md (cov []) σ89 σm, fun ((a100, c101) : (Option Addr) × (Nat)) => fun σm => Hp S0 σ0 σm [Ch.own n0 n0 (Sl a100 r97 c101) r97, Ch.ro 0 (Sl Be Ba.1 Bf) Ba.1, Ch.bx Bg Bh Bi [(Sl Be Ba.1 Bf), (I Ba.2)] Bj Bk, Ch.own n0 n0 (Sl a4 r1 c5) r1] ∧ Md (cov []) σ89 σm] [fun ((a100, c101) : (Option Addr) × (Nat)) => (pt Bh Bi), fun ((a100, c101) : (Option Addr) × (Nat)) => (Sl a4 r1 c5), fun ((a100, c101) : (Option Addr) × (Nat)) => (pt b94 o95), fun ((a100, c101) : (Option Addr) × (Nat)) => (.string x91), fun ((a100, c101) : (Option Addr) × (Nat)) => (Sl a100 r97 c101), fun ((a100, c101) : (Option Addr) × (Nat)) => (Sl a4 r1 c5), fun ((a100, c101) : (Option Addr) × (Nat)) => (pt b105 o106), fun ((a100, c101) : (Option Addr) × (Nat)) => (.string x102), fun ((a100, c101) : (Option Addr) × (Nat)) => (I r108)] (none, 0) (by kernel_rfl) (by kernel_rfl) ?_ ?_ ?_
       ·intro σm m0
        exact ⟨H.grow (m0.mono fun _ h => h.elim), m0⟩
       ·refine ac rfl (by
          intro k; rintro ⟨a100, c101⟩ ρ σm hJ hoff hdep
          have e0 := look_off (N := 127) (hoff 0 rfl) rfl
          exact dp_v (v := (pt Bh Bi)) wn (rv_move e0) rfl hJ) ?_
        refine ac rfl (by
          intro k; rintro ⟨a100, c101⟩ ρ σm hJ hoff hdep
          have e5 := look_off (N := 127) (hoff 5 rfl) rfl
          exact dp_v (v := (Sl a4 r1 c5)) wn (rv_move e5) rfl hJ) ?_
        refine ac rfl (by
          intro k; rintro ⟨a100, c101⟩ ρ σm hJ hoff hdep
          have e62 := hdep 1 rfl rfl 62 rfl
          exact dp_v (v := (pt b94 o95)) wn (rv_ix Tryz.underlying22 ti9 e62 rfl hi93) rfl hJ) ?_
        refine all_cons (by
          refine ⟨?_, ?_⟩
          ·rintro ⟨a100, c101⟩ ρ σm hJ hoff hdep
           have e63 := hdep 2 rfl rfl 63 rfl
           obtain ⟨H, m⟩ := id hJ
           have hc96 := ((H.own 2 rfl).at hx92 hi93).str
           exact dp_v (v := (.string x91)) wn (rv_load1 Tryz.underlying9 rfl e63 hc96) rfl hJ
          trivial) ?_
        refine all_cons (by
          refine ⟨?_, ?_⟩
          ·rintro ⟨a100, c101⟩ ρ σm hJ hoff hdep
           have e64 : look 127 ρ 64 = (.string x91) := hdep 3 rfl rfl 64 rfl
           obtain ⟨H, m⟩ := id hJ
           refine dp_cx wn (cx_call hc99 (ent_f hc99.fn (by show [look 127 ρ 64] = _; rw [e64])) hn0 (H.sel' [0, 1, 2] rfl rfl : Hp S0 σ0 _ ([] ++ _))) ?_
           rintro _ σq ⟨_, ⟨a100x, c101x, rfl, rfl⟩, H2, m2⟩
           exact ⟨_, (a100x, c101x), rfl, rfl, ⟨H2.sel' [0, 1, 2, 3] rfl rfl, m.comp0 m2⟩, stab [0, 1, 2, 3, 5, 6, 7] (by kernel_rfl) ⟨rfl, rfl, rfl, rfl, rfl, rfl, rfl, trivial⟩⟩
          trivial) ?_
        refine ac rfl (by
          intro k; rintro ⟨a100, c101⟩ ρ σm hJ hoff hdep
          have e5 := look_off (N := 127) (hoff 5 rfl) rfl
          exact dp_v (v := (Sl a4 r1 c5)) wn (rv_move e5) rfl hJ) ?_
        refine ac rfl (by
          intro k; rintro ⟨a100, c101⟩ ρ σm hJ hoff hdep
          have e66 := hdep 5 rfl rfl 66 rfl
          exact dp_v (v := (pt b105 o106)) wn (rv_ix Tryz.underlying22 ti9 e66 rfl hi104) rfl hJ) ?_
        refine all_cons (by
          refine ⟨?_, ?_⟩
          ·rintro ⟨a100, c101⟩ ρ σm hJ hoff hdep
           have e67 := hdep 6 rfl rfl 67 rfl
           obtain ⟨H, m⟩ := id hJ
           have hc107 := ((H.own 2 rfl).at hx103 hi104).str
           exact dp_v (v := (.string x102)) wn (rv_load1 Tryz.underlying9 rfl e67 hc107) rfl hJ
          refine ⟨?_, ?_⟩
          ·rintro ⟨a100, c101⟩ ρ σm hJ hoff hdep
           have e67 := hdep 6 rfl rfl 67 rfl
           obtain ⟨H, m⟩ := id hJ
           have hc107 := ((H.own 3 rfl).at hx103 hi104).str
           exact dp_v (v := (.string x102)) wn (rv_load1 Tryz.underlying9 rfl e67 hc107) rfl hJ
          trivial) ?_
        refine all_cons (by
          refine ⟨?_, ?_⟩
          ·rintro ⟨a100, c101⟩ ρ σm hJ hoff hdep
           have e68 : look 127 ρ 68 = (.string x102) := hdep 7 rfl rfl 68 rfl
           obtain ⟨H, m⟩ := id hJ
           refine dp_cx wn (cx_call hc110 (ent_f hc110.fn (by show [look 127 ρ 68] = _; rw [e68])) hn0 (H.sel' [0, 1, 2, 3] rfl rfl : Hp S0 σ0 _ ([] ++ _))) ?_
           rintro _ σq ⟨_, ⟨rfl, rfl⟩, H2, m2⟩
           exact ⟨_, (a100, c101), rfl, rfl, ⟨H2.sel' [0, 1, 2, 3] rfl rfl, m.comp0 m2⟩, stab [0, 1, 2, 3, 4, 5, 6, 7] (by kernel_rfl) ⟨rfl, rfl, rfl, rfl, rfl, rfl, rfl, rfl, trivial⟩⟩
          trivial) ?_
        exact all_nil
       ·rintro ⟨a100, c101⟩ ρ σ111 hJ hoff hrel
        have e0 := look_off (N := 127) (hoff 0 rfl) rfl
        have e61 := hrel 0 rfl 61 rfl
        have e65 := hrel 4 rfl 65 rfl
        have e69 := hrel 8 rfl 69 rfl
        obtain ⟨H, -⟩ := (show Hp S0 σ0 σ111 [Ch.own n0 n0 (Sl a100 r97 c101) r97, Ch.ro 0 (Sl Be Ba.1 Bf) Ba.1, Ch.bx Bg Bh Bi [(Sl Be Ba.1 Bf), (I Ba.2)] Bj Bk, Ch.own n0 n0 (Sl a4 r1 c5) r1] ∧ Md (cov []) σ89 σ111 from hJ)
        clear hJ Hs
        rw [fr_lookL (L := [(0, (pt Bh Bi)), (61, (pt Bh Bi)), (65, (Sl a100 r97 c101)), (69, (I r108))]) ⟨e0, e61, e65, e69, trivial⟩]
        clear hoff hrel e0 e61 e65 e69
        obtain ⟨σ112, hw113, H, -⟩ := H.pub 0 rfl (Nat.le_refl _)
        rw [← hw113]; clear hw113
        replace H := H.roLow 0 0 rfl (Nat.zero_le _)
        revert h; refine br fun r114 hx115 h => ?_
        have hc116 := c_spec_desk_near (Bg := Bg) (Bh := Bh) (Bi := Bi) (Bj := Bj) (Bk := Bk) (Be := Be) (Bf := Bf) (Cc := a100) (Cd := c101) hx115
        refine st_call (cx_call hc116 (ent_f hc116.fn rfl) hn0 (H.sel' [3, 2, 0, 0, 1, 2, 4] rfl rfl : Hp S0 σ0 _ ([_, _, _] ++ _))) wn ?_
        rintro _ σ117 ⟨_, ⟨rfl, rfl⟩, H, -⟩
        replace H : Hp _ _ _ [_, _, _, _, _] := H
        refine sa (.string r114) rfl (w_end (q_then (c_ret (q_blk_r (q_then_r ?_)))))
        obtain rfl := sj h
        exact fin_ret (v := (.string r114)) (results_ok Tryz.results9 (res_tmp (v := (.string r114)) rfl res_nil) rfl) ⟨Be, Bf, rfl, rfl⟩ (H.sel' [0, 3] rfl rfl)
      ·replace h := bif_f hb90 h
       refine c_seq ?_
       obtain ⟨o118, hj, h'⟩ := bind_some h
       clear h
       refine c_cut (fun e a w => e = .normal ∧ ∃ (ρ : Nat → Value) (σ : St), a = fr 127 (updL ρ [(0, (pt Bh Bi)), (1, (.string Ce)), (5, (Sl a4 r1 c5)), (71, (B o118))]) ∧ w = σ.w ∧ Hp S0 σ0 σ [Ch.ro 0 (Sl Be Ba.1 Bf) Ba.1, Ch.bx Bg Bh Bi [(Sl Be Ba.1 Bf), (I Ba.2)] Bj Bk, Ch.own n0 n0 (Sl a4 r1 c5) r1]) ?_ ?_
       ·clear h'
        rename _ = some o118 => h
        refine rg (sm (Sl a4 r1 c5) rfl ?_)
        revert h; refine br fun x119 hx120 h => ?_
        obtain ⟨b122, o123, hi121, -⟩ := (H.own 2 rfl).ix hx120
        refine st (v := (pt b122 o123)) (rv_ix Tryz.underlying22 ti9 rfl rfl hi121) ?_
        have hc124 := ((H.own 2 rfl).at hx120 hi121).str
        refine st (v := (.string x119)) (rv_load1 Tryz.underlying9 rfl rfl hc124) (st (v := (B (x119.toList == (ByteArray.mk #[107, 105, 110, 100]).toList))) (rv_seql rfl rfl) (sm (B (x119.toList == (ByteArray.mk #[107, 105, 110, 100]).toList)) rfl ?_))
        rcases Bool.eq_false_or_eq_true (x119.toList == (ByteArray.mk #[107, 105, 110, 100]).toList) with hb125 | hb125
        ·replace h := bif_t hb125 h
         refine st_g (v := (Sl a4 r1 c5)) (congrArg some hb125) (rv_move rfl) (st_g (v := (I (r1.length : Int))) (congrArg some hb125) (rv_len Tryz.underlying22 rfl) (st_g (v := (B ((r1.length : Int) == 2))) (congrArg some hb125) (rv_eql (a := (r1.length : Int)) (b := 2) rfl rfl) (st (v := (B ((r1.length : Int) == 2))) (rv_pick_t (congrArg B hb125) rfl) (sa (B ((r1.length : Int) == 2)) rfl (w_end ?_)))))
         obtain rfl := sj h
         exact ⟨rfl, _, σ89, fr_join ⟨rfl, rfl, rfl, rfl, trivial⟩, rfl, H.sel' [0, 1, 2] rfl rfl⟩
        ·replace h := bif_f hb125 h
         refine st_skip (congrArg some hb125) (st_skip (congrArg some hb125) (st_skip (congrArg some hb125) (st (v := (B false)) (rv_pick_f (congrArg B hb125) rfl) (sa (B false) rfl (w_end ?_)))))
         obtain rfl := sj h
         exact ⟨rfl, _, σ89, fr_join ⟨rfl, rfl, rfl, rfl, trivial⟩, rfl, H.sel' [0, 1, 2] rfl rfl⟩
       ·clear hj
        have h := h'
        clear h' H
        rintro e a w ⟨rfl, ρ, σ126, rfl, rfl, H⟩
        refine q_then ?_
        refine cd_cond o118 rfl (fun hb127 => ?_) (fun hb127 => ?_)
        ·replace h := bif_t hb127 h
         refine c_seq (c_seq (rg (sm (Sl a4 r1 c5) rfl ?_)))
         revert h; refine br fun x128 hx129 h => ?_
         obtain ⟨b131, o132, hi130, -⟩ := (H.own 2 rfl).ix hx129
         refine st (v := (pt b131 o132)) (rv_ix Tryz.underlying22 ti9 rfl rfl hi130) ?_
         have hc133 := ((H.own 2 rfl).at hx129 hi130).str
         refine st (v := (.string x128)) (rv_load1 Tryz.underlying9 rfl rfl hc133) ?_
         revert h; refine br fun r134 hx135 h => ?_
         have hc136 := c_spec_numberOf hx135
         refine st_call (cx_call hc136 (ent_f hc136.fn rfl) hn0 (H.sel' [0, 1, 2] rfl rfl : Hp S0 σ0 _ ([] ++ _))) wn ?_
         rintro _ σ137 ⟨_, ⟨rfl, rfl⟩, H, -⟩
         replace H : Hp _ _ _ [_, _, _] := H
         revert h; refine br fun r138 hx139 h => ?_
         have hc140 := c_spec_validKind hx139
         refine st_call (cx_call hc140 (ent_f hc140.fn rfl) hn0 (H.sel' [0, 1, 2] rfl rfl : Hp S0 σ0 _ ([] ++ _))) wn ?_
         rintro _ σ141 ⟨_, ⟨rfl, rfl⟩, H, -⟩
         replace H : Hp _ _ _ [_, _, _] := H
         refine st (v := (B (!r138))) (rv_not rfl) (w_end (q_then ?_))
         refine cd_cond (!r138) rfl (fun hb142 => ?_) (fun hb142 => ?_)
         ·replace h := bif_t hb142 h
          refine c_seq (rg (sa (.string (ByteArray.mk #[110, 111])) rfl (w_end (q_then (c_ret (q_then_r (q_blk_r (q_then_r ?_))))))))
          obtain rfl := sj h
          exact fin_ret (v := (.string (ByteArray.mk #[110, 111]))) (results_ok Tryz.results9 (res_tmp (v := (.string (ByteArray.mk #[110, 111]))) rfl res_nil) rfl) ⟨Be, Bf, rfl, rfl⟩ (H.sel' [1, 0] rfl rfl)
         ·replace h := bif_f hb142 h
          refine c_skip (q_then (c_seq (rg (sm (pt Bh Bi) rfl (sm (Sl a4 r1 c5) rfl ?_)))))
          revert h; refine br fun x143 hx144 h => ?_
          obtain ⟨b146, o147, hi145, -⟩ := (H.own 2 rfl).ix hx144
          refine st (v := (pt b146 o147)) (rv_ix Tryz.underlying22 ti9 rfl rfl hi145) ?_
          have hc148 := ((H.own 2 rfl).at hx144 hi145).str
          refine st (v := (.string x143)) (rv_load1 Tryz.underlying9 rfl rfl hc148) ?_
          revert h; refine br fun r149 hx150 h => ?_
          have hc151 := c_spec_numberOf hx150
          refine st_call (cx_call hc151 (ent_f hc151.fn rfl) hn0 (H.sel' [0, 1, 2] rfl rfl : Hp S0 σ0 _ ([] ++ _))) wn ?_
          rintro _ σ152 ⟨_, ⟨rfl, rfl⟩, H, -⟩
          replace H : Hp _ _ _ [_, _, _] := H
          refine st (v := (pt Bh Bi)) (rv_nilCheck rfl) (st (v := (pt Bh (Bi + 1))) (rv_fieldAddr (off := 1) (ft := 3) Tryz.underlying31 rfl ti3 rfl rfl) ?_)
          refine st_exS (ex_store_box (k := 1) (cs := [(Sl Be Ba.1 Bf), (I Ba.2)]) (vs := [(I r149)]) (cs' := [(Sl Be Ba.1 Bf), (I r149)]) H (i := 1) rfl ti3 rfl rfl rfl rfl rfl (Nat.le_of_ble_eq_true rfl) (by simp [plain]) rfl) wn ?_
          rintro σ153 ⟨H, -⟩
          refine w_end (q_then (c_seq (rg (sa (.string (ByteArray.mk #[111, 107])) rfl (w_end (q_then (c_ret (q_blk_r (q_then_r ?_)))))))))
          obtain rfl := sj h
          exact fin_ret (v := (.string (ByteArray.mk #[111, 107]))) (results_ok Tryz.results9 (res_tmp (v := (.string (ByteArray.mk #[111, 107]))) rfl res_nil) rfl) ⟨Be, Bf, rfl, rfl⟩ (H.sel' [0, 1] rfl rfl)
        ·replace h := bif_f hb127 h
         refine c_seq (rg (sm (.string Ce) rfl (st (v := (B (Ce.toList == (ByteArray.mk #[112, 97, 105, 114]).toList))) (rv_seql rfl rfl) (sa (B (Ce.toList == (ByteArray.mk #[112, 97, 105, 114]).toList)) rfl (w_end (q_then ?_))))))
         refine cd_cond (Ce.toList == (ByteArray.mk #[112, 97, 105, 114]).toList) rfl (fun hb154 => ?_) (fun hb154 => ?_)
         ·replace h := bif_t hb154 h
          refine c_seq ?_
          have hc155 := H.cell (u := (Sl Be Ba.1 Bf)) (o' := Bi) 1 0 rfl rfl rfl
          have hc156 := H.cell (u := (I Ba.2)) (o' := (Bi + 1)) 1 1 rfl rfl rfl
          revert h; refine br fun r157 hx158 h => ?_
          have hc159 := c_spec_ClosestPair (Am := Be) (Ao := Bf) hx158
          have Hs := H
          refine rg2 (σ := σ126) (Nm := Unit) 15 [8] [[false], [true]] [[(0, 0)], [(0, 0)], [(0, 0)], [(0, 0)], [(0, 0)], [(0, 0)], [(0, 0)], [(0, 0)], [(0, 1)], [(1, 1)], [(1, 1)], [(1, 1)], [(1, 1)], [(1, 1)], [(1, 1)]] 1 [fun _ => fun σm => Hp S0 σ0 σm [Ch.ro 0 (Sl Be Ba.1 Bf) Ba.1, Ch.bx Bg Bh Bi [(Sl Be Ba.1 Bf), (I Ba.2)] Bj Bk, Ch.own n0 n0 (Sl a4 r1 c5) r1] ∧ Md (cov []) σ126 σm, fun _ => fun σm => Hp S0 σ0 σm [Ch.ro 0 (Sl Be Ba.1 Bf) Ba.1, Ch.bx Bg Bh Bi [(Sl Be Ba.1 Bf), (I Ba.2)] Bj Bk, Ch.own n0 n0 (Sl a4 r1 c5) r1] ∧ Md (cov []) σ126 σm] [fun _ => (pt Bh Bi), fun _ => (pt Bh Bi), fun _ => (pt Bh Bi), fun _ => (Sl Be Ba.1 Bf), fun _ => (pt Bh Bi), fun _ => (pt Bh Bi), fun _ => (pt Bh (Bi + 1)), fun _ => (I Ba.2), fun _ => (.tuple #[(I r157.1), (I r157.2.1), (B r157.2.2)]), fun _ => (.tuple #[(I r157.1), (I r157.2.1), (B r157.2.2)]), fun _ => (I r157.1), fun _ => (I r157.2.1), fun _ => (B r157.2.2), fun _ => (I r157.1), fun _ => (I r157.2.1)] () (by kernel_rfl) (by kernel_rfl) ?_ ?_ ?_
          ·intro σm m0
           exact ⟨H.grow (m0.mono fun _ h => h.elim), m0⟩
          ·refine ac rfl (by
             intro k _nm ρ σm hJ hoff hdep
             have e0 := look_off (N := 127) (hoff 0 rfl) rfl
             exact dp_v (v := (pt Bh Bi)) wn (rv_move e0) rfl hJ) ?_
           refine ac rfl (by
             intro k _nm ρ σm hJ hoff hdep
             have e98 := hdep 0 rfl rfl 98 rfl
             exact dp_v (v := (pt Bh Bi)) wn (rv_nilCheck e98) rfl hJ) ?_
           refine ac rfl (by
             intro k _nm ρ σm hJ hoff hdep
             have e99 := hdep 1 rfl rfl 99 rfl
             exact dp_v (v := (pt Bh Bi)) wn (rv_fieldAddr (off := 0) (ft := 29) Tryz.underlying31 rfl ti29 rfl e99) rfl hJ) ?_
           refine all_cons (by
             refine ⟨?_, ?_⟩
             ·intro _nm ρ σm hJ hoff hdep
              have e100 := hdep 2 rfl rfl 100 rfl
              obtain ⟨H, m⟩ := id hJ
              have hc155 := H.cell (u := (Sl Be Ba.1 Bf)) (o' := Bi) 1 0 rfl rfl rfl
              exact dp_v (v := (Sl Be Ba.1 Bf)) wn (rv_load1 Tryz.underlying29 rfl e100 hc155) rfl hJ
             trivial) ?_
           refine ac rfl (by
             intro k _nm ρ σm hJ hoff hdep
             have e0 := look_off (N := 127) (hoff 0 rfl) rfl
             exact dp_v (v := (pt Bh Bi)) wn (rv_move e0) rfl hJ) ?_
           refine ac rfl (by
             intro k _nm ρ σm hJ hoff hdep
             have e102 := hdep 4 rfl rfl 102 rfl
             exact dp_v (v := (pt Bh Bi)) wn (rv_nilCheck e102) rfl hJ) ?_
           refine ac rfl (by
             intro k _nm ρ σm hJ hoff hdep
             have e103 := hdep 5 rfl rfl 103 rfl
             exact dp_v (v := (pt Bh (Bi + 1))) wn (rv_fieldAddr (off := 1) (ft := 3) Tryz.underlying31 rfl ti3 rfl e103) rfl hJ) ?_
           refine all_cons (by
             refine ⟨?_, ?_⟩
             ·intro _nm ρ σm hJ hoff hdep
              have e104 := hdep 6 rfl rfl 104 rfl
              obtain ⟨H, m⟩ := id hJ
              have hc156 := H.cell (u := (I Ba.2)) (o' := (Bi + 1)) 1 1 rfl rfl rfl
              exact dp_v (v := (I Ba.2)) wn (rv_load1 Tryz.underlying3 rfl e104 hc156) rfl hJ
             trivial) ?_
           refine all_cons (by
             refine ⟨?_, ?_⟩
             ·intro _nm ρ σm hJ hoff hdep
              have e101 : look 127 ρ 101 = (Sl Be Ba.1 Bf) := hdep 3 rfl rfl 101 rfl
              have e105 : look 127 ρ 105 = (I Ba.2) := hdep 7 rfl rfl 105 rfl
              obtain ⟨H, m⟩ := id hJ
              refine dp_cx wn (cx_call hc159 (ent_f hc159.fn (by show [look 127 ρ 101, look 127 ρ 105] = _; rw [e101, e105])) hn0 (H.sel' [0, 0, 1, 2] rfl rfl : Hp S0 σ0 _ ([_] ++ _))) ?_
              rintro _ σq ⟨_, ⟨rfl, rfl⟩, H2, m2⟩
              exact ⟨_, (), rfl, rfl, ⟨H2.sel' [0, 1, 2] rfl rfl, m.comp0 (m2.mono (fun i h => by simp [cov, Ch.ro] at h))⟩, stab [0, 1, 2, 3, 4, 5, 6, 7] (by kernel_rfl) ⟨rfl, rfl, rfl, rfl, rfl, rfl, rfl, rfl, trivial⟩⟩
             trivial) ?_
           refine ac rfl (by
             intro k _nm ρ σm hJ hoff hdep
             have e106 := hdep 8 rfl rfl 106 rfl
             exact dp_v (v := (.tuple #[(I r157.1), (I r157.2.1), (B r157.2.2)])) wn (rv_move e106) rfl hJ) ?_
           refine ac rfl (by
             intro k _nm ρ σm hJ hoff hdep
             have e97 := hdep 9 rfl rfl 97 rfl
             exact dp_v (v := (I r157.1)) wn (rv_extract e97 rfl) rfl hJ) ?_
           refine ac rfl (by
             intro k _nm ρ σm hJ hoff hdep
             have e97 := hdep 9 rfl rfl 97 rfl
             exact dp_v (v := (I r157.2.1)) wn (rv_extract e97 rfl) rfl hJ) ?_
           refine ac rfl (by
             intro k _nm ρ σm hJ hoff hdep
             have e97 := hdep 9 rfl rfl 97 rfl
             exact dp_v (v := (B r157.2.2)) wn (rv_extract e97 rfl) rfl hJ) ?_
           refine ac rfl (by
             intro k _nm ρ σm hJ hoff hdep
             have e107 := hdep 10 rfl rfl 107 rfl
             exact dp_v (v := (I r157.1)) wn (rv_assign e107) rfl hJ) ?_
           refine ac rfl (by
             intro k _nm ρ σm hJ hoff hdep
             have e108 := hdep 11 rfl rfl 108 rfl
             exact dp_v (v := (I r157.2.1)) wn (rv_assign e108) rfl hJ) ?_
           exact all_nil
          ·intro _nm ρ σ160 hJ hoff hrel
           have e0 := look_off (N := 127) (hoff 0 rfl) rfl
           have e6 := hrel 13 rfl 6 rfl
           have e7 := hrel 14 rfl 7 rfl
           have e109 := hrel 12 rfl 109 rfl
           obtain ⟨H, -⟩ := (show Hp S0 σ0 σ160 [Ch.ro 0 (Sl Be Ba.1 Bf) Ba.1, Ch.bx Bg Bh Bi [(Sl Be Ba.1 Bf), (I Ba.2)] Bj Bk, Ch.own n0 n0 (Sl a4 r1 c5) r1] ∧ Md (cov []) σ126 σ160 from hJ)
           clear hJ Hs
           rw [fr_lookL (L := [(0, (pt Bh Bi)), (6, (I r157.1)), (7, (I r157.2.1)), (109, (B r157.2.2))]) ⟨e0, e6, e7, e109, trivial⟩]
           clear hoff hrel e0 e6 e7 e109
           refine sa (B r157.2.2) rfl (w_end (q_then (c_seq (c_seq (rg (sm (B r157.2.2) rfl (st (v := (B (!r157.2.2))) (rv_not rfl) (w_end (q_then ?_)))))))))
           refine cd_cond (!r157.2.2) rfl (fun hb161 => ?_) (fun hb161 => ?_)
           ·replace h := bif_t hb161 h
            refine c_seq (rg (sa (.string (ByteArray.mk #[110, 111])) rfl (w_end (q_then (c_ret (q_then_r (q_blk_r (q_then_r ?_))))))))
            obtain rfl := sj h
            exact fin_ret (v := (.string (ByteArray.mk #[110, 111]))) (results_ok Tryz.results9 (res_tmp (v := (.string (ByteArray.mk #[110, 111]))) rfl res_nil) rfl) ⟨Be, Bf, rfl, rfl⟩ (H.sel' [1, 0] rfl rfl)
           ·replace h := bif_f hb161 h
            refine c_skip (q_then (c_seq (rg (sm (I r157.1) rfl ?_))))
            revert h; refine br fun r162 hx163 h => ?_
            have hc164 := c_spec_decimal 100 hx163
            refine st_call (cx_call hc164 (ent_f hc164.fn rfl) hn0 (H.sel' [0, 1, 2] rfl rfl : Hp S0 σ0 _ ([] ++ _))) wn ?_
            rintro _ σ165 ⟨_, ⟨rfl, rfl⟩, H, -⟩
            replace H : Hp _ _ _ [_, _, _] := H
            revert h; refine br fun s166 hx167 h => ?_
            refine st (v := (.string s166)) (rv_scat rfl rfl hx167) (sm (I r157.2.1) rfl ?_)
            revert h; refine br fun r168 hx169 h => ?_
            have hc170 := c_spec_decimal 100 hx169
            refine st_call (cx_call hc170 (ent_f hc170.fn rfl) hn0 (H.sel' [0, 1, 2] rfl rfl : Hp S0 σ0 _ ([] ++ _))) wn ?_
            rintro _ σ171 ⟨_, ⟨rfl, rfl⟩, H, -⟩
            replace H : Hp _ _ _ [_, _, _] := H
            revert h; refine br fun s172 hx173 h => ?_
            refine st (v := (.string s172)) (rv_scat rfl rfl hx173) (sa (.string s172) rfl (w_end (q_then (c_ret (q_blk_r (q_then_r ?_))))))
            obtain rfl := sj h
            exact fin_ret (v := (.string s172)) (results_ok Tryz.results9 (res_tmp (v := (.string s172)) rfl res_nil) rfl) ⟨Be, Bf, rfl, rfl⟩ (H.sel' [1, 0] rfl rfl)
         ·replace h := bif_f hb154 h
          refine c_seq (rg (sm (.string Ce) rfl (st (v := (B (Ce.toList == (ByteArray.mk #[99, 111, 117, 110, 116]).toList))) (rv_seql rfl rfl) (sa (B (Ce.toList == (ByteArray.mk #[99, 111, 117, 110, 116]).toList)) rfl (w_end (q_then ?_))))))
          refine cd_cond (Ce.toList == (ByteArray.mk #[99, 111, 117, 110, 116]).toList) rfl (fun hb174 => ?_) (fun hb174 => ?_)
          ·replace h := bif_t hb174 h
           refine c_seq (rg (sm (pt Bh Bi) rfl (st (v := (pt Bh Bi)) (rv_nilCheck rfl) (st (v := (pt Bh Bi)) (rv_fieldAddr (off := 0) (ft := 29) Tryz.underlying31 rfl ti29 rfl rfl) ?_))))
           have hc175 := H.cell (u := (Sl Be Ba.1 Bf)) (o' := Bi) 1 0 rfl rfl rfl
           refine st (v := (Sl Be Ba.1 Bf)) (rv_load1 Tryz.underlying29 rfl rfl hc175) (st (v := (I (Ba.1.length : Int))) (rv_len Tryz.underlying29 rfl) ?_)
           revert h; refine br fun r176 hx177 h => ?_
           have hc178 := c_spec_decimal 100 hx177
           refine st_call (cx_call hc178 (ent_f hc178.fn rfl) hn0 (H.sel' [0, 1, 2] rfl rfl : Hp S0 σ0 _ ([] ++ _))) wn ?_
           rintro _ σ179 ⟨_, ⟨rfl, rfl⟩, H, -⟩
           replace H : Hp _ _ _ [_, _, _] := H
           refine sa (.string r176) rfl (w_end (q_then (c_ret (q_blk_r (q_then_r ?_)))))
           obtain rfl := sj h
           exact fin_ret (v := (.string r176)) (results_ok Tryz.results9 (res_tmp (v := (.string r176)) rfl res_nil) rfl) ⟨Be, Bf, rfl, rfl⟩ (H.sel' [1, 0] rfl rfl)
          ·replace h := bif_f hb174 h
           refine c_skip (q_blk (q_then (c_seq (rg (sa (.string (ByteArray.mk #[119, 104, 97, 116])) rfl (w_end (q_then (c_ret ?_))))))))
           obtain rfl := sj h
           exact fin_ret (v := (.string (ByteArray.mk #[119, 104, 97, 116]))) (results_ok Tryz.results9 (res_tmp (v := (.string (ByteArray.mk #[119, 104, 97, 116]))) rfl res_nil) rfl) ⟨Be, Bf, rfl, rfl⟩ (H.sel' [1, 0] rfl rfl)

theorem c_spec_RunSession {Cf : List ByteArray} {Cg : Option Addr} {Ci : Nat} {r : ByteArray} (h : M.spec_RunSession Cf = some r) :
    Cal2 Tryz.prog 5 [(Sl Cg Cf Ci)] [Ch.ro 0 (Sl Cg Cf Ci) Cf] (fun n0 v L => v = (.string r) ∧ L = []) := by
 refine cal2 (n := 29) Tryz.func5 rfl rfl rfl rfl ?_
 intro S0 σ0 n0 hn0 H
 unfold M.spec_RunSession at h
 refine c_seq (rg (sa (.string (ByteArray.mk #[])) rfl (w_end (q_then (c_seq (rg ?_))))))
 refine st_ex (ex_buildSlice (el := n0) (xs := ([] : List (Int × (List Int) × Int))) (ps := []) (cs := []) H hn0 Tryz.underlying29 ti67 rfl rfl (by kernel_rfl) (.nil) rfl) wn ?_
 rintro _ σ2 ⟨b1, rfl, H, -⟩
 refine st (v := (.agg #[(Sl (some ⟨b1, 0, none⟩) ([] : List (Int × (List Int) × Int)) 0), (I 1)])) (rv_build (ps := [(0, (Sl (some ⟨b1, 0, none⟩) ([] : List (Int × (List Int) × Int)) 0)), (1, (I 1))]) Tryz.underlying31 ti31 (bp31 Tryz.underlying31) rfl (by kernel_rfl)) ?_
 refine st_ex (ex_box (cs := [(Sl (some ⟨b1, 0, none⟩) ([] : List (Int × (List Int) × Int)) 0), (I 1)]) H hn0 rfl rfl) wn ?_
 rintro _ σ4 ⟨b3, rfl, H, -⟩
 refine sa (pt b3 0) rfl (w_end (q_then (c_seq (rg (sa (.string (ByteArray.mk #[])) rfl (w_end (q_then (c_seq (c_seq (rg (sa (I 0) rfl ?_)))))))))))
 refine w_end (q_then ?_)
 obtain ⟨o5, hj, h'⟩ := bind_some h
 clear h
 refine c_cut (fun e a w => e = .normal ∧ ∃ (ρ : Nat → Value) (σ : St), a = fr 29 (updL ρ [(4, (.string o5))]) ∧ w = σ.w ∧ Hp S0 σ0 σ []) ?_ ?_
 ·clear h'
  rename _ = some o5 => h
  refine c_blk ?_
  obtain ⟨σ7, hw8, H, -⟩ := H.pub 1 rfl (Nat.le_refl _)
  rw [← hw8]; clear hw8
  replace H := H.roLow 0 0 rfl (Nat.zero_le _)
  refine wp_loopM _ h (fun s6 a w => ∃ (ρ : Nat → Value) (σ : St) (aj1 : Option Addr) (cj2 : Nat), a = fr 29 (updL ρ [(0, (Sl Cg Cf Ci)), (3, (pt b3 0)), (4, (.string s6.2.1)), (5, (I s6.2.2))]) ∧ w = σ.w ∧ Hp S0 σ0 σ [Ch.bx n0 b3 0 [(Sl aj1 s6.1.1 cj2), (I s6.1.2)] [] [], Ch.ro 0 (Sl aj1 s6.1.1 cj2) s6.1.1, Ch.ro 0 (Sl Cg Cf Ci) Cf]) ⟨_, σ7, (some ⟨b1, 0, none⟩), 0, fr_join ⟨rfl, rfl, rfl, rfl, trivial⟩, rfl, H.sel' [2, 0, 3] rfl rfl⟩ ?_
  clear h H
  rintro s6 a w o ⟨ρ, σ9, a10, c11, rfl, rfl, H⟩ h hres
  refine c_seq (c_seq ?_)
  obtain ⟨o12, hj, h'⟩ := bind_some h
  clear h
  refine c_cut (fun e a w => e = .normal ∧ ∃ (ρ : Nat → Value) (σ : St), a = fr 29 (updL ρ [(0, (Sl Cg Cf Ci)), (3, (pt b3 0)), (4, (.string s6.2.1)), (5, (I s6.2.2)), (16, (B o12))]) ∧ w = σ.w ∧ Hp S0 σ0 σ [Ch.ro 0 (Sl Cg Cf Ci) Cf, Ch.ro 0 (Sl a10 s6.1.1 c11) s6.1.1, Ch.bx n0 b3 0 [(Sl a10 s6.1.1 c11), (I s6.1.2)] [] []]) ?_ ?_
  ·clear h'
   rename _ = some o12 => h
   refine rg (sm (I s6.2.2) rfl (sm (Sl Cg Cf Ci) rfl (st (v := (I (Cf.length : Int))) (rv_len Tryz.underlying22 rfl) (st (v := (B (decide (s6.2.2 < (Cf.length : Int))))) (rv_lss (a := s6.2.2) (b := (Cf.length : Int)) rfl rfl) (sm (B (decide (s6.2.2 < (Cf.length : Int)))) rfl ?_)))))
   rcases Bool.eq_false_or_eq_true (decide (s6.2.2 < (Cf.length : Int))) with hb13 | hb13
   ·replace h := bif_t hb13 h
    refine st_g (v := (I s6.2.2)) (congrArg some hb13) (rv_move rfl) (st_g (v := (B (decide (s6.2.2 < 20)))) (congrArg some hb13) (rv_lss (a := s6.2.2) (b := 20) rfl rfl) (st (v := (B (decide (s6.2.2 < 20)))) (rv_pick_t (congrArg B hb13) rfl) (w_end ?_)))
    obtain rfl := sj h
    exact ⟨rfl, _, σ9, fr_join ⟨rfl, rfl, rfl, rfl, rfl, trivial⟩, rfl, H.sel' [2, 1, 0] rfl rfl⟩
   ·replace h := bif_f hb13 h
    refine st_skip (congrArg some hb13) (st_skip (congrArg some hb13) (st (v := (B false)) (rv_pick_f (congrArg B hb13) rfl) (w_end ?_)))
    obtain rfl := sj h
    exact ⟨rfl, _, σ9, fr_join ⟨rfl, rfl, rfl, rfl, rfl, trivial⟩, rfl, H.sel' [2, 1, 0] rfl rfl⟩
  ·clear hj
   have h := h'
   clear h' H
   rintro e a w ⟨rfl, ρ, σ14, rfl, rfl, H⟩
   refine q_then ?_
   refine cd_cond o12 rfl (fun hb15 => ?_) (fun hb15 => ?_)
   ·replace h := bif_t hb15 h
    refine c_skip (q_then (c_seq (c_blk (rg (sm (.string s6.2.1) rfl (sm (pt b3 0) rfl (sm (Sl Cg Cf Ci) rfl (sm (I s6.2.2) rfl ?_))))))))
    revert h; refine br fun x16 hx17 h => ?_
    obtain ⟨b19, o20, hi18, -⟩ := (H.ro 0 rfl).ix hx17
    refine st (v := (pt b19 o20)) (rv_ix Tryz.underlying22 ti9 rfl rfl hi18) ?_
    have hc21 := ((H.ro 0 rfl).at hx17 hi18).str
    refine st (v := (.string x16)) (rv_load1 Tryz.underlying9 rfl rfl hc21) ?_
    revert h; refine br fun r22 hx23 h => ?_
    have hc24 := c_spec_desk_line (Bg := n0) (Bh := b3) (Bi := 0) (Bj := []) (Bk := []) (Be := a10) (Bf := c11) hx23
    refine st_call (cx_call hc24 (ent_f hc24.fn rfl) hn0 (H.sel' [2, 1, 0, 1] rfl rfl : Hp S0 σ0 _ ([_, _] ++ _))) wn ?_
    rintro _ σ27 ⟨_, ⟨a25, c26, rfl, rfl⟩, H, -⟩
    replace H : Hp _ _ _ [_, _, _, _] := H
    revert h; refine br fun s28 hx29 h => ?_
    refine st (v := (.string s28)) (rv_scat rfl rfl hx29) ?_
    revert h; refine br fun s30 hx31 h => ?_
    refine st (v := (.string s30)) (rv_scat rfl rfl hx31) (sa (.string s30) rfl (w_end (q_blk (q_then (rg (sm (I s6.2.2) rfl (st (v := (I (w64 (s6.2.2 + 1)))) (rv_add (a := s6.2.2) (b := 1) rfl rfl) (sa (I (w64 (s6.2.2 + 1))) rfl (w_end (q_then ?_))))))))))
    obtain rfl := sj h
    exact ⟨_, rfl, _, σ27, a25, c26, fr_join ⟨rfl, rfl, rfl, rfl, trivial⟩, rfl, H.sel' [0, 1, 2] rfl rfl⟩
   ·replace h := bif_f hb15 h
    refine c_exit (q_then_x (q_then_x (q_blk_hit ?_)))
    obtain rfl := sj h
    obtain rfl := hres _ rfl
    exact ⟨rfl, _, σ14, fr_join ⟨rfl, trivial⟩, rfl, H.sel' [] rfl rfl⟩
 ·clear hj
  have h := h'
  clear h' H
  rintro e a w ⟨rfl, ρ, σ32, rfl, rfl, H⟩
  refine q_then (c_seq (rg (sm (.string o5) rfl (sa (.string o5) rfl (w_end (q_then (c_ret ?_)))))))
  obtain rfl := sj h
  exact fin_ret (v := (.string o5)) (results_ok Tryz.results5 (res_tmp (v := (.string o5)) rfl res_nil) rfl) ⟨rfl, rfl⟩ (H.sel' [] rfl rfl)

theorem c_laws_toStringS {Aa : List ByteArray} {Ad : Option Addr} {Ae : Nat} {r : (List ByteArray)} (h : M.laws_toStringS Aa = some r) :
    Cal2 Tryz.prog 6 [(Sl Ad Aa Ae)] [Ch.ro 0 (Sl Ad Aa Ae) Aa] (fun n0 v L => ∃ (az1 : Option Addr), ∃ (cz2 : Nat), v = (Sl az1 r cz2) ∧ L = [Ch.own n0 n0 (Sl az1 r cz2) r] ∧ cz2 = r.length) := by
 refine cal2 (n := 22) Tryz.func6 rfl rfl rfl rfl ?_
 intro S0 σ0 n0 hn0 H
 unfold M.laws_toStringS at h
 refine c_seq (rg (sa (.slice none 0 0) rfl (w_end (q_then (c_seq (rg (sm (Sl Ad Aa Ae) rfl (st (v := (I (Aa.length : Int))) (rv_len Tryz.underlying22 rfl) ?_))))))))
 revert h; refine br fun xs1 hx2 h => ?_
 refine st_ex (ex_make (el := n0) (z0 := (ByteArray.mk #[] : ByteArray)) (zs := [(.string (ByteArray.mk #[]))]) H hn0 Tryz.underlying22 ti9 rfl rfl rfl (by decide) hx2 rfl rfl) wn ?_
 rintro _ σ6 ⟨b3, c4, rfl, ht5, H, -⟩
 replace ht5 := ht5.trans (gmake_len hx2).symm
 refine sa (Sl (some ⟨b3, 0, none⟩) xs1 c4) rfl (w_end (q_then (c_seq (c_seq (rg (sa (I 0) rfl (w_end (q_then ?_))))))))
 obtain ⟨o7, hj, h'⟩ := bind_some h
 clear h
 refine c_cut (fun e a w => e = .normal ∧ ∃ (ρ : Nat → Value) (σ : St), a = fr 22 (updL ρ [(3, (Sl (some ⟨b3, 0, none⟩) o7 c4))]) ∧ w = σ.w ∧ Hp S0 σ0 σ [Ch.own n0 n0 (Sl (some ⟨b3, 0, none⟩) o7 c4) o7] ∧ c4 = o7.length ∧ o7.length = xs1.length) ?_ ?_
 ·clear h'
  rename _ = some o7 => h
  refine c_blk (wp_loopM _ h (fun s8 a w => ∃ (ρ : Nat → Value) (σ : St), a = fr 22 (updL ρ [(0, (Sl Ad Aa Ae)), (3, (Sl (some ⟨b3, 0, none⟩) s8.1 c4)), (4, (I s8.2))]) ∧ w = σ.w ∧ Hp S0 σ0 σ [Ch.ro 0 (Sl Ad Aa Ae) Aa, Ch.own n0 n0 (Sl (some ⟨b3, 0, none⟩) s8.1 c4) s8.1] ∧ c4 = s8.1.length ∧ s8.1.length = xs1.length) ⟨_, σ6, fr_join ⟨rfl, rfl, rfl, trivial⟩, rfl, H.sel' [1, 0] rfl rfl, ht5, rfl⟩ ?_)
  clear h H
  rintro s8 a w o ⟨ρ, σ9, rfl, rfl, H, ht10, hn11⟩ h hres
  refine c_seq (c_seq (rg (sm (I s8.2) rfl (sm (Sl Ad Aa Ae) rfl (st (v := (I (Aa.length : Int))) (rv_len Tryz.underlying22 rfl) (st (v := (B (decide (s8.2 < (Aa.length : Int))))) (rv_lss (a := s8.2) (b := (Aa.length : Int)) rfl rfl) (w_end (q_then ?_))))))))
  refine cd_cond (decide (s8.2 < (Aa.length : Int))) rfl (fun hb12 => ?_) (fun hb12 => ?_)
  ·replace h := bif_t hb12 h
   refine c_skip (q_then (c_seq (c_blk (rg (sm (Sl (some ⟨b3, 0, none⟩) s8.1 c4) rfl (sm (I s8.2) rfl (sm (Sl Ad Aa Ae) rfl (sm (I s8.2) rfl ?_))))))))
   revert h; refine br fun x13 hx14 h => ?_
   obtain ⟨b16, o17, hi15, -⟩ := (H.ro 0 rfl).ix hx14
   refine st (v := (pt b16 o17)) (rv_ix Tryz.underlying22 ti9 rfl rfl hi15) ?_
   have hc18 := ((H.ro 0 rfl).at hx14 hi15).str
   refine st (v := (.string x13)) (rv_load1 Tryz.underlying9 rfl rfl hc18) ?_
   revert h; refine br fun x19 hx20 h => ?_
   obtain ⟨b22, o23, hi21, -⟩ := (H.own 1 rfl).ix hx20
   refine st (v := (pt b22 o23)) (rv_ix Tryz.underlying22 ti9 rfl rfl hi21) ?_
   refine st_exS (ex_store_own (e' := x13) (vs := [(.string x13)]) (k := 0) H (i := 1) rfl ti9 hx20 hi21 rfl rfl rfl rfl rfl (Nat.le_of_ble_eq_true rfl) (by simp [plain]) (by rintro _ rfl; exact rfl)) wn ?_
   rintro σ24 ⟨H, -⟩
   have hsl : (Sl (some ⟨b3, 0, none⟩) s8.1 c4) = (Sl (some ⟨b3, 0, none⟩) (s8.1.set s8.2.toNat x13) c4) := sl_len List.length_set.symm
   rw [hsl]; rw [hsl] at H; clear hsl
   refine w_end (q_blk (q_then (rg (sm (I s8.2) rfl (st (v := (I (w64 (s8.2 + 1)))) (rv_add (a := s8.2) (b := 1) rfl rfl) (sa (I (w64 (s8.2 + 1))) rfl (w_end (q_then ?_))))))))
   obtain rfl := sj h
   exact ⟨_, rfl, _, σ24, fr_join ⟨rfl, rfl, rfl, trivial⟩, rfl, H.sel' [1, 0] rfl rfl, (ht10.trans List.length_set.symm), (List.length_set.trans hn11)⟩
  ·replace h := bif_f hb12 h
   refine c_exit (q_then_x (q_then_x (q_blk_hit ?_)))
   obtain rfl := sj h
   obtain rfl := hres _ rfl
   exact ⟨rfl, _, σ9, fr_join ⟨rfl, trivial⟩, rfl, H.sel' [1] rfl rfl, ht10, hn11⟩
 ·clear hj
  have h := h'
  clear h' H
  rintro e a w ⟨rfl, ρ, σ25, rfl, rfl, H, ht26, hn27⟩
  refine q_then (c_seq (rg (sm (Sl (some ⟨b3, 0, none⟩) o7 c4) rfl (sa (Sl (some ⟨b3, 0, none⟩) o7 c4) rfl (w_end (q_then (c_ret ?_)))))))
  obtain rfl := sj h
  exact fin_ret (v := (Sl (some ⟨b3, 0, none⟩) o7 c4)) (results_ok Tryz.results6 (res_tmp (v := (Sl (some ⟨b3, 0, none⟩) o7 c4)) rfl res_nil) rfl) ⟨(some ⟨b3, 0, none⟩), c4, rfl, rfl, ht26⟩ (H.sel' [0] rfl rfl)

def rows_impl_session_commands (b o : Nat) : List (ByteArray × Value) := [(ByteArray.mk #[112, 117, 116], (.agg #[(I 3), (.func (.func 24) #[(pt b o)] #[])])), (ByteArray.mk #[100, 114, 111, 112], (.agg #[(I 1), (.func (.func 25) #[(pt b o)] #[])])), (ByteArray.mk #[110, 101, 97, 114], (.agg #[(I 2), (.func (.func 26) #[(pt b o)] #[])])), (ByteArray.mk #[107, 105, 110, 100], (.agg #[(I 1), (.func (.func 27) #[(pt b o)] #[])])), (ByteArray.mk #[112, 97, 105, 114], (.agg #[(I 0), (.func (.func 28) #[(pt b o)] #[])])), (ByteArray.mk #[99, 111, 117, 110, 116], (.agg #[(I 0), (.func (.func 29) #[(pt b o)] #[])]))]

theorem c_impl_session_commands {Af : (List (Int × (List Int) × Int)) × Int} {Cj : Option Addr} {Ck : Nat} {Cl Cm Cn : Nat} {Cp Cq : List Value} {r : Unit} (h : M.impl_session_commands Af = some r) :
    Cal2 Tryz.prog 10 [(pt Cm Cn)] [Ch.bx Cl Cm Cn [(Sl Cj Af.1 Ck), (I Af.2)] Cp Cq, Ch.ro 0 (Sl Cj Af.1 Ck) Af.1] (fun n0 v L => ∃ (bz1 : Nat), v = (.map (some bz1)) ∧ L = [Ch.cr bz1 (rows_impl_session_commands Cm Cn), Ch.bx Cl Cm Cn [(Sl Cj Af.1 Ck), (I Af.2)] Cp Cq]) := by
 refine cal2 (n := 23) Tryz.func10 rfl rfl rfl rfl ?_
 intro S0 σ0 n0 hn0 H
 unfold M.impl_session_commands at h
 refine c_seq (rg (sa (.map none) rfl (w_end (q_then (c_seq (rg (st_ex (ex_makeMapC (lo := n0) H hn0) wn ?_)))))))
 rintro _ σ2 ⟨b1, rfl, H, -⟩
 refine sm (pt Cm Cn) rfl (st (v := (.func (.func 24) #[(pt Cm Cn)] #[])) (rv_makeFuncF (vs := [(pt Cm Cn)]) rfl) ?_)
 refine st (v := (.agg #[(I 3), (.func (.func 24) #[(pt Cm Cn)] #[])])) (rv_build (ps := [(0, (I 3)), (1, (.func (.func 24) #[(pt Cm Cn)] #[]))]) Tryz.underlying60 ti60 (bp60 Tryz.underlying60) rfl (by kernel_rfl)) ?_
 replace H := H.front (i := 0) rfl
 refine st_exS (ex_insertC (es := []) H (by simp [ba_beq]) Tryz.underlying35 Tryz.underlying9 rfl rfl rfl) wn ?_
 rintro σ3 ⟨H, -⟩
 replace H : Hp _ _ _ [_, _, _] := H
 refine sm (pt Cm Cn) rfl (st (v := (.func (.func 25) #[(pt Cm Cn)] #[])) (rv_makeFuncF (vs := [(pt Cm Cn)]) rfl) ?_)
 refine st (v := (.agg #[(I 1), (.func (.func 25) #[(pt Cm Cn)] #[])])) (rv_build (ps := [(0, (I 1)), (1, (.func (.func 25) #[(pt Cm Cn)] #[]))]) Tryz.underlying60 ti60 (bp60 Tryz.underlying60) rfl (by kernel_rfl)) ?_
 replace H := H.front (i := 0) rfl
 refine st_exS (ex_insertC (es := [(ByteArray.mk #[112, 117, 116], (.agg #[(I 3), (.func (.func 24) #[(pt Cm Cn)] #[])]))]) H (by simp [ba_beq]) Tryz.underlying35 Tryz.underlying9 rfl rfl rfl) wn ?_
 rintro σ4 ⟨H, -⟩
 replace H : Hp _ _ _ [_, _, _] := H
 refine sm (pt Cm Cn) rfl (st (v := (.func (.func 26) #[(pt Cm Cn)] #[])) (rv_makeFuncF (vs := [(pt Cm Cn)]) rfl) ?_)
 refine st (v := (.agg #[(I 2), (.func (.func 26) #[(pt Cm Cn)] #[])])) (rv_build (ps := [(0, (I 2)), (1, (.func (.func 26) #[(pt Cm Cn)] #[]))]) Tryz.underlying60 ti60 (bp60 Tryz.underlying60) rfl (by kernel_rfl)) ?_
 replace H := H.front (i := 0) rfl
 refine st_exS (ex_insertC (es := [(ByteArray.mk #[112, 117, 116], (.agg #[(I 3), (.func (.func 24) #[(pt Cm Cn)] #[])])), (ByteArray.mk #[100, 114, 111, 112], (.agg #[(I 1), (.func (.func 25) #[(pt Cm Cn)] #[])]))]) H (by simp [ba_beq]) Tryz.underlying35 Tryz.underlying9 rfl rfl rfl) wn ?_
 rintro σ5 ⟨H, -⟩
 replace H : Hp _ _ _ [_, _, _] := H
 refine sm (pt Cm Cn) rfl (st (v := (.func (.func 27) #[(pt Cm Cn)] #[])) (rv_makeFuncF (vs := [(pt Cm Cn)]) rfl) ?_)
 refine st (v := (.agg #[(I 1), (.func (.func 27) #[(pt Cm Cn)] #[])])) (rv_build (ps := [(0, (I 1)), (1, (.func (.func 27) #[(pt Cm Cn)] #[]))]) Tryz.underlying60 ti60 (bp60 Tryz.underlying60) rfl (by kernel_rfl)) ?_
 replace H := H.front (i := 0) rfl
 refine st_exS (ex_insertC (es := [(ByteArray.mk #[112, 117, 116], (.agg #[(I 3), (.func (.func 24) #[(pt Cm Cn)] #[])])), (ByteArray.mk #[100, 114, 111, 112], (.agg #[(I 1), (.func (.func 25) #[(pt Cm Cn)] #[])])), (ByteArray.mk #[110, 101, 97, 114], (.agg #[(I 2), (.func (.func 26) #[(pt Cm Cn)] #[])]))]) H (by simp [ba_beq]) Tryz.underlying35 Tryz.underlying9 rfl rfl rfl) wn ?_
 rintro σ6 ⟨H, -⟩
 replace H : Hp _ _ _ [_, _, _] := H
 refine sm (pt Cm Cn) rfl (st (v := (.func (.func 28) #[(pt Cm Cn)] #[])) (rv_makeFuncF (vs := [(pt Cm Cn)]) rfl) ?_)
 refine st (v := (.agg #[(I 0), (.func (.func 28) #[(pt Cm Cn)] #[])])) (rv_build (ps := [(0, (I 0)), (1, (.func (.func 28) #[(pt Cm Cn)] #[]))]) Tryz.underlying60 ti60 (bp60 Tryz.underlying60) rfl (by kernel_rfl)) ?_
 replace H := H.front (i := 0) rfl
 refine st_exS (ex_insertC (es := [(ByteArray.mk #[112, 117, 116], (.agg #[(I 3), (.func (.func 24) #[(pt Cm Cn)] #[])])), (ByteArray.mk #[100, 114, 111, 112], (.agg #[(I 1), (.func (.func 25) #[(pt Cm Cn)] #[])])), (ByteArray.mk #[110, 101, 97, 114], (.agg #[(I 2), (.func (.func 26) #[(pt Cm Cn)] #[])])), (ByteArray.mk #[107, 105, 110, 100], (.agg #[(I 1), (.func (.func 27) #[(pt Cm Cn)] #[])]))]) H (by simp [ba_beq]) Tryz.underlying35 Tryz.underlying9 rfl rfl rfl) wn ?_
 rintro σ7 ⟨H, -⟩
 replace H : Hp _ _ _ [_, _, _] := H
 refine sm (pt Cm Cn) rfl (st (v := (.func (.func 29) #[(pt Cm Cn)] #[])) (rv_makeFuncF (vs := [(pt Cm Cn)]) rfl) ?_)
 refine st (v := (.agg #[(I 0), (.func (.func 29) #[(pt Cm Cn)] #[])])) (rv_build (ps := [(0, (I 0)), (1, (.func (.func 29) #[(pt Cm Cn)] #[]))]) Tryz.underlying60 ti60 (bp60 Tryz.underlying60) rfl (by kernel_rfl)) ?_
 replace H := H.front (i := 0) rfl
 refine st_exS (ex_insertC (es := [(ByteArray.mk #[112, 117, 116], (.agg #[(I 3), (.func (.func 24) #[(pt Cm Cn)] #[])])), (ByteArray.mk #[100, 114, 111, 112], (.agg #[(I 1), (.func (.func 25) #[(pt Cm Cn)] #[])])), (ByteArray.mk #[110, 101, 97, 114], (.agg #[(I 2), (.func (.func 26) #[(pt Cm Cn)] #[])])), (ByteArray.mk #[107, 105, 110, 100], (.agg #[(I 1), (.func (.func 27) #[(pt Cm Cn)] #[])])), (ByteArray.mk #[112, 97, 105, 114], (.agg #[(I 0), (.func (.func 28) #[(pt Cm Cn)] #[])]))]) H (by simp [ba_beq]) Tryz.underlying35 Tryz.underlying9 rfl rfl rfl) wn ?_
 rintro σ8 ⟨H, -⟩
 replace H : Hp _ _ _ [_, _, _] := H
 refine sm (.map (some b1)) rfl (sa (.map (some b1)) rfl (w_end (q_then (c_ret ?_))))
 obtain ⟨σ9, hw10, H⟩ := Hp.pubCm (H.front (i := 0) rfl)
 rw [← hw10]; clear hw10
 replace H : Hp _ _ _ [_, _, _] := H
 obtain rfl := sj h
 exact fin_ret (v := (.map (some b1))) (results_ok Tryz.results10 (res_tmp (v := (.map (some b1))) rfl res_nil) rfl) ⟨b1, rfl, rfl⟩ (H.sel' [0, 1] rfl rfl)

abbrev gw0 : Gp := libG 5 1 0 4 (by decide) (by decide) (by decide)

def lays156_ren : Go.Shelf.Ren := ⟨fun | 156 => 49 | 165 => 74 | 166 => 11 | 169 => 14 | 240 => 30 | 241 => 94 | 276 => 52 | 277 => 111 | n => n, fun | 31 => 22 | 9 => 9 | 3 => 3 | 4 => 4 | 0 => 0 | 20 => 20 | 72 => 40 | 76 => 43 | 70 => 37 | 37 => 38 | 75 => 42 | 127 => 63 | 164 => 83 | 5 => 5 | 80 => 47 | n => n, fun | n => n⟩
theorem lays156 : Go.Proofs.Lays.n156 Tryz.prog lays156_ren := {
  mixed := by kernel_rfl
  f156 := Tryz.func49.trans (congrArg some (by kernel_rfl))
  f165 := Tryz.func74.trans (congrArg some (by kernel_rfl))
  f166 := Tryz.func11.trans (congrArg some (by kernel_rfl))
  f169 := Tryz.func14.trans (congrArg some (by kernel_rfl))
  f240 := Tryz.func30.trans (congrArg some (by kernel_rfl))
  f241 := Tryz.func94.trans (congrArg some (by kernel_rfl))
  f276 := Tryz.func52.trans (congrArg some (by kernel_rfl))
  f277 := Tryz.func111.trans (congrArg some (by kernel_rfl))
  t0 := Tryz.underlying0
  a0 := Tryz.isAgg0
  z0 := Tryz.sizeOf0
  v0 := Tryz.zeroValue0
  t3 := Tryz.underlying3
  a3 := Tryz.isAgg3
  z3 := Tryz.sizeOf3
  v3 := Tryz.zeroValue3
  t4 := Tryz.underlying4
  a4 := Tryz.isAgg4
  z4 := Tryz.sizeOf4
  v4 := Tryz.zeroValue4
  t9 := Tryz.underlying9
  a9 := Tryz.isAgg9
  z9 := Tryz.sizeOf9
  v9 := Tryz.zeroValue9
  t20 := Tryz.underlying20
  a20 := Tryz.isAgg20
  z20 := Tryz.sizeOf20
  v20 := Tryz.zeroValue20
  t31 := Tryz.underlying22
  a31 := Tryz.isAgg22
  z31 := Tryz.sizeOf22
  v31 := Tryz.zeroValue22
  t37 := Tryz.underlying38
  a37 := Tryz.isAgg38
  z37 := Tryz.sizeOf38
  v37 := Tryz.zeroValue38
  t70 := Tryz.underlying37
  a70 := Tryz.isAgg37
  z70 := Tryz.sizeOf37
  v70 := Tryz.zeroValue37
  t72 := Tryz.underlying40
  a72 := Tryz.isAgg40
  z72 := Tryz.sizeOf40
  v72 := Tryz.zeroValue40
  t75 := Tryz.underlying42
  a75 := Tryz.isAgg42
  z75 := Tryz.sizeOf42
  v75 := Tryz.zeroValue42
  t76 := Tryz.underlying43
  a76 := Tryz.isAgg43
  z76 := Tryz.sizeOf43
  v76 := Tryz.zeroValue43
  t127 := Tryz.underlying63
  a127 := Tryz.isAgg63
  z127 := Tryz.sizeOf63
  v127 := Tryz.zeroValue63
  t164 := Tryz.underlying83
  a164 := Tryz.isAgg83
  z164 := Tryz.sizeOf83
  v164 := Tryz.zeroValue83 }

theorem Builder_Extra_156 : Go.Proofs.Builder.Extra Tryz.prog lays156_ren := {
  sizeBuilder := by kernel_rfl
  liesBuilder := by kernel_rfl
  t5 := Tryz.underlying5
  a5 := Tryz.isAgg5
  z5 := Tryz.sizeOf5
  v5 := Tryz.zeroValue5
  infoByte := by kernel_rfl
  cellsByte := by kernel_rfl
  sizeByte := by kernel_rfl
  neB5 := by decide }

theorem laysS : Go.Proofs.Lays.n169 Tryz.prog lays156_ren := { lays156 with }
theorem laysW : Go.Proofs.Lays.n166 Tryz.prog lays156_ren := { lays156 with }

theorem c_strings_Builder_WriteString {Bn : List UInt8} {Cr : ByteArray} {Cs Ct : Nat} {Cu : Value} {r : Int × (List UInt8)} (h : M.strings_Builder_WriteString Bn Cr = some r) :
    Cal2 Tryz.prog 11 [(pt Ct 0), (.string Cr)] [Ch.sb 40 5 Cs Ct Cu Bn, Ch.gw gw0] (fun n0 v L => ∃ (vz1 : Value), v = (.tuple #[(I r.1), .nilIface]) ∧ L = [Ch.sb 40 5 Cs Ct vz1 r.2]) := by
 exact bstr_cal2 laysW Builder_Extra_156 ⟨_, _, Tryz.func11, rfl, rfl⟩ (show M.bldStr Bn Cr = some r from h)

def lays146_ren : Go.Shelf.Ren := ⟨fun | 146 => 31 | 221 => 53 | 268 => 76 | 138 => 77 | 143 => 78 | 195 => 97 | 197 => 98 | 218 => 99 | 219 => 100 | 260 => 112 | 217 => 113 | 225 => 114 | 224 => 115 | 267 => 116 | 266 => 133 | 314 => 134 | n => n, fun | 9 => 9 | 31 => 22 | 3 => 3 | 4 => 4 | 0 => 0 | 105 => 115 | 21 => 21 | 5 => 5 | 46 => 118 | 119 => 152 | 139 => 155 | 138 => 154 | 146 => 156 | 51 => 149 | n => n, fun | 1 => 0 | 3 => 2 | 4 => 3 | n => n⟩
theorem lays146 : Go.Proofs.Lays.n146 Tryz.prog lays146_ren := {
  mixed := by kernel_rfl
  f138 := Tryz.func77.trans (congrArg some (by kernel_rfl))
  f143 := Tryz.func78.trans (congrArg some (by kernel_rfl))
  f146 := Tryz.func31.trans (congrArg some (by kernel_rfl))
  f195 := Tryz.func97.trans (congrArg some (by kernel_rfl))
  f197 := Tryz.func98.trans (congrArg some (by kernel_rfl))
  f217 := Tryz.func113.trans (congrArg some (by kernel_rfl))
  f218 := Tryz.func99.trans (congrArg some (by kernel_rfl))
  f219 := Tryz.func100.trans (congrArg some (by kernel_rfl))
  f221 := Tryz.func53.trans (congrArg some (by kernel_rfl))
  f224 := Tryz.func115.trans (congrArg some (by kernel_rfl))
  f225 := Tryz.func114.trans (congrArg some (by kernel_rfl))
  f260 := Tryz.func112.trans (congrArg some (by kernel_rfl))
  f266 := Tryz.func133.trans (congrArg some (by kernel_rfl))
  f267 := Tryz.func116.trans (congrArg some (by kernel_rfl))
  f268 := Tryz.func76.trans (congrArg some (by kernel_rfl))
  f314 := Tryz.func134.trans (congrArg some (by kernel_rfl))
  t0 := Tryz.underlying0
  a0 := Tryz.isAgg0
  z0 := Tryz.sizeOf0
  v0 := Tryz.zeroValue0
  t3 := Tryz.underlying3
  a3 := Tryz.isAgg3
  z3 := Tryz.sizeOf3
  v3 := Tryz.zeroValue3
  t4 := Tryz.underlying4
  a4 := Tryz.isAgg4
  z4 := Tryz.sizeOf4
  v4 := Tryz.zeroValue4
  t5 := Tryz.underlying5
  a5 := Tryz.isAgg5
  z5 := Tryz.sizeOf5
  v5 := Tryz.zeroValue5
  t9 := Tryz.underlying9
  a9 := Tryz.isAgg9
  z9 := Tryz.sizeOf9
  v9 := Tryz.zeroValue9
  t21 := Tryz.underlying21
  a21 := Tryz.isAgg21
  z21 := Tryz.sizeOf21
  v21 := Tryz.zeroValue21
  t31 := Tryz.underlying22
  a31 := Tryz.isAgg22
  z31 := Tryz.sizeOf22
  v31 := Tryz.zeroValue22
  t46 := Tryz.underlying118
  a46 := Tryz.isAgg118
  z46 := Tryz.sizeOf118
  v46 := Tryz.zeroValue118
  t51 := Tryz.underlying149
  a51 := Tryz.isAgg149
  z51 := Tryz.sizeOf149
  v51 := Tryz.zeroValue149
  t105 := Tryz.underlying115
  a105 := Tryz.isAgg115
  z105 := Tryz.sizeOf115
  v105 := Tryz.zeroValue115
  t119 := Tryz.underlying152
  a119 := Tryz.isAgg152
  z119 := Tryz.sizeOf152
  t138 := Tryz.underlying154
  a138 := Tryz.isAgg154
  z138 := Tryz.sizeOf154
  v138 := Tryz.zeroValue154
  t139 := Tryz.underlying155
  a139 := Tryz.isAgg155
  z139 := Tryz.sizeOf155
  v139 := Tryz.zeroValue155
  t146 := Tryz.underlying156
  a146 := Tryz.isAgg156
  z146 := Tryz.sizeOf156
  v146 := Tryz.zeroValue156
  g1 := by kernel_rfl
  g3 := by kernel_rfl
  g4 := by kernel_rfl }

theorem c_strings_Split {Af : ByteArray} {Cv : ByteArray}  {r : List ByteArray} (h : M.strings_Split Af Cv = some r) :
    Cal2 Tryz.prog 31 [(.string Af), (.string Cv)] [Ch.gw gw0] (fun n0 v L => ∃ (az1 : Option Addr), ∃ (cz2 : Nat), v = (Sl az1 r cz2) ∧ L = [Ch.own n0 n0 (Sl az1 r cz2) r]) := by
 exact ssplit_cal2 ⟨_, _, Tryz.func31, rfl, rfl⟩ (fun s sep w hg h0 h1 => by
    obtain ⟨m, hm⟩ := libG_max hg
    exact Any.strings_Split lays146 (by kernel_rfl) s sep m w h0 hm h1) (show M.ssplit Af Cv = some r from h)

def laysB_ren : Go.Shelf.Ren := ⟨fun | 167 => 13 | 240 => 30 | 276 => 52 | n => n, lays156_ren.t, lays156_ren.g⟩
theorem laysB : Go.Proofs.Lays.n167 Tryz.prog laysB_ren := {
  mixed := by kernel_rfl
  f167 := Tryz.func13.trans (congrArg some (by kernel_rfl))
  f240 := Tryz.func30.trans (congrArg some (by kernel_rfl))
  f276 := Tryz.func52.trans (congrArg some (by kernel_rfl))
  t0 := lays156.t0
  a0 := lays156.a0
  z0 := lays156.z0
  v0 := lays156.v0
  t4 := lays156.t4
  a4 := lays156.a4
  z4 := lays156.z4
  v4 := lays156.v4
  t9 := lays156.t9
  a9 := lays156.a9
  z9 := lays156.z9
  v9 := lays156.v9
  t20 := lays156.t20
  a20 := lays156.a20
  z20 := lays156.z20
  v20 := lays156.v20
  t37 := lays156.t37
  a37 := lays156.a37
  z37 := lays156.z37
  v37 := lays156.v37
  t70 := lays156.t70
  a70 := lays156.a70
  z70 := lays156.z70
  v70 := lays156.v70
  t72 := lays156.t72
  a72 := lays156.a72
  z72 := lays156.z72
  v72 := lays156.v72
  t75 := lays156.t75
  a75 := lays156.a75
  z75 := lays156.z75
  v75 := lays156.v75
  t164 := lays156.t164
  a164 := lays156.a164
  z164 := lays156.z164
  v164 := lays156.v164
  t5 := Builder_Extra_156.t5
  a5 := Builder_Extra_156.a5
  z5 := Builder_Extra_156.z5
  v5 := Builder_Extra_156.v5 }
theorem laysBX : Go.Proofs.Builder.Extra Tryz.prog laysB_ren := {
  sizeBuilder := Builder_Extra_156.sizeBuilder
  liesBuilder := Builder_Extra_156.liesBuilder
  t5 := Builder_Extra_156.t5
  a5 := Builder_Extra_156.a5
  z5 := Builder_Extra_156.z5
  v5 := Builder_Extra_156.v5
  infoByte := Builder_Extra_156.infoByte
  cellsByte := Builder_Extra_156.cellsByte
  sizeByte := Builder_Extra_156.sizeByte
  neB5 := Builder_Extra_156.neB5 }

theorem c_strings_Builder_WriteByte {Bn : List UInt8} {Ag : UInt8} {Cs Ct : Nat} {Cu : Value} {r : List UInt8} (h : M.strings_Builder_WriteByte Bn Ag = some r) :
    Cal2 Tryz.prog 13 [(pt Ct 0), (.int .u8 (Ag.toNat : Int))] [Ch.sb 40 5 Cs Ct Cu Bn, Ch.gw gw0] (fun n0 v L => ∃ (vz1 : Value), v = .nilIface ∧ L = [Ch.sb 40 5 Cs Ct vz1 r]) := by
 exact bbyte_cal2 laysB laysBX ⟨_, _, Tryz.func13, rfl, rfl⟩ (show M.bldByte Bn Ag = some r from h)

def lays172_ren : Go.Shelf.Ren := ⟨fun | 172 => 89 | 244 => 103 | 245 => 104 | 247 => 118 | 279 => 119 | 280 => 120 | 281 => 121 | 282 => 122 | 287 => 135 | 316 => 136 | 171 => 48 | 205 => 137 | 321 => 146 | 322 => 147 | 243 => 73 | 246 => 93 | 283 => 107 | 284 => 108 | 285 => 109 | 286 => 110 | 129 => 129 | 317 => 128 | 318 => 130 | 319 => 131 | 320 => 132 | 337 => 144 | 338 => 145 | n => n, fun | 9 => 9 | 3 => 3 | 75 => 42 | 76 => 43 | 4 => 4 | 5 => 5 | 167 => 133 | 37 => 38 | 0 => 0 | 85 => 134 | 2 => 2 | 168 => 136 | 53 => 126 | 175 => 158 | 46 => 118 | 210 => 161 | 127 => 63 | 145 => 180 | 143 => 178 | 21 => 21 | 171 => 125 | 173 => 129 | 212 => 148 | 51 => 149 | 20 => 20 | 213 => 150 | 232 => 184 | 233 => 185 | 80 => 47 | n => n, fun | 15 => 4 | 16 => 5 | 17 => 1 | 18 => 6 | 19 => 7 | n => n⟩
theorem lays172 : Go.Proofs.Lays.n172 Tryz.prog lays172_ren := {
  mixed := by kernel_rfl
  f129 := Tryz.func129.trans (congrArg some (by kernel_rfl))
  f171 := Tryz.func48.trans (congrArg some (by kernel_rfl))
  f172 := Tryz.func89.trans (congrArg some (by kernel_rfl))
  f205 := Tryz.func137.trans (congrArg some (by kernel_rfl))
  f243 := Tryz.func73.trans (congrArg some (by kernel_rfl))
  f244 := Tryz.func103.trans (congrArg some (by kernel_rfl))
  f245 := Tryz.func104.trans (congrArg some (by kernel_rfl))
  f246 := Tryz.func93.trans (congrArg some (by kernel_rfl))
  f247 := Tryz.func118.trans (congrArg some (by kernel_rfl))
  f279 := Tryz.func119.trans (congrArg some (by kernel_rfl))
  f280 := Tryz.func120.trans (congrArg some (by kernel_rfl))
  f281 := Tryz.func121.trans (congrArg some (by kernel_rfl))
  f282 := Tryz.func122.trans (congrArg some (by kernel_rfl))
  f283 := Tryz.func107.trans (congrArg some (by kernel_rfl))
  f284 := Tryz.func108.trans (congrArg some (by kernel_rfl))
  f285 := Tryz.func109.trans (congrArg some (by kernel_rfl))
  f286 := Tryz.func110.trans (congrArg some (by kernel_rfl))
  f287 := Tryz.func135.trans (congrArg some (by kernel_rfl))
  f316 := Tryz.func136.trans (congrArg some (by kernel_rfl))
  f317 := Tryz.func128.trans (congrArg some (by kernel_rfl))
  f318 := Tryz.func130.trans (congrArg some (by kernel_rfl))
  f319 := Tryz.func131.trans (congrArg some (by kernel_rfl))
  f320 := Tryz.func132.trans (congrArg some (by kernel_rfl))
  f321 := Tryz.func146.trans (congrArg some (by kernel_rfl))
  f322 := Tryz.func147.trans (congrArg some (by kernel_rfl))
  f337 := Tryz.func144.trans (congrArg some (by kernel_rfl))
  f338 := Tryz.func145.trans (congrArg some (by kernel_rfl))
  t0 := Tryz.underlying0
  a0 := Tryz.isAgg0
  z0 := Tryz.sizeOf0
  v0 := Tryz.zeroValue0
  t2 := Tryz.underlying2
  a2 := Tryz.isAgg2
  z2 := Tryz.sizeOf2
  v2 := Tryz.zeroValue2
  t3 := Tryz.underlying3
  a3 := Tryz.isAgg3
  z3 := Tryz.sizeOf3
  v3 := Tryz.zeroValue3
  t4 := Tryz.underlying4
  a4 := Tryz.isAgg4
  z4 := Tryz.sizeOf4
  v4 := Tryz.zeroValue4
  t5 := Tryz.underlying5
  a5 := Tryz.isAgg5
  z5 := Tryz.sizeOf5
  v5 := Tryz.zeroValue5
  t9 := Tryz.underlying9
  a9 := Tryz.isAgg9
  z9 := Tryz.sizeOf9
  v9 := Tryz.zeroValue9
  t20 := Tryz.underlying20
  a20 := Tryz.isAgg20
  z20 := Tryz.sizeOf20
  v20 := Tryz.zeroValue20
  t21 := Tryz.underlying21
  a21 := Tryz.isAgg21
  z21 := Tryz.sizeOf21
  v21 := Tryz.zeroValue21
  t37 := Tryz.underlying38
  a37 := Tryz.isAgg38
  z37 := Tryz.sizeOf38
  v37 := Tryz.zeroValue38
  t46 := Tryz.underlying118
  a46 := Tryz.isAgg118
  z46 := Tryz.sizeOf118
  v46 := Tryz.zeroValue118
  t51 := Tryz.underlying149
  a51 := Tryz.isAgg149
  z51 := Tryz.sizeOf149
  v51 := Tryz.zeroValue149
  t53 := Tryz.underlying126
  a53 := Tryz.isAgg126
  z53 := Tryz.sizeOf126
  v53 := Tryz.zeroValue126
  t75 := Tryz.underlying42
  a75 := Tryz.isAgg42
  z75 := Tryz.sizeOf42
  v75 := Tryz.zeroValue42
  t76 := Tryz.underlying43
  a76 := Tryz.isAgg43
  z76 := Tryz.sizeOf43
  v76 := Tryz.zeroValue43
  t85 := Tryz.underlying134
  a85 := Tryz.isAgg134
  z85 := Tryz.sizeOf134
  v85 := Tryz.zeroValue134
  t127 := Tryz.underlying63
  a127 := Tryz.isAgg63
  z127 := Tryz.sizeOf63
  v127 := Tryz.zeroValue63
  t143 := Tryz.underlying178
  a143 := Tryz.isAgg178
  z143 := Tryz.sizeOf178
  v143 := Tryz.zeroValue178
  t145 := Tryz.underlying180
  a145 := Tryz.isAgg180
  z145 := Tryz.sizeOf180
  v145 := Tryz.zeroValue180
  t167 := Tryz.underlying133
  a167 := Tryz.isAgg133
  z167 := Tryz.sizeOf133
  v167 := Tryz.zeroValue133
  t168 := Tryz.underlying136
  a168 := Tryz.isAgg136
  z168 := Tryz.sizeOf136
  v168 := Tryz.zeroValue136
  t171 := Tryz.underlying125
  a171 := Tryz.isAgg125
  z171 := Tryz.sizeOf125
  v171 := Tryz.zeroValue125
  t173 := Tryz.underlying129
  a173 := Tryz.isAgg129
  z173 := Tryz.sizeOf129
  v173 := Tryz.zeroValue129
  t175 := Tryz.underlying158
  a175 := Tryz.isAgg158
  z175 := Tryz.sizeOf158
  v175 := Tryz.zeroValue158
  t210 := Tryz.underlying161
  a210 := Tryz.isAgg161
  z210 := Tryz.sizeOf161
  v210 := Tryz.zeroValue161
  t212 := Tryz.underlying148
  a212 := Tryz.isAgg148
  z212 := Tryz.sizeOf148
  v212 := Tryz.zeroValue148
  t213 := Tryz.underlying150
  a213 := Tryz.isAgg150
  z213 := Tryz.sizeOf150
  t232 := Tryz.underlying184
  a232 := Tryz.isAgg184
  z232 := Tryz.sizeOf184
  v232 := Tryz.zeroValue184
  t233 := Tryz.underlying185
  a233 := Tryz.isAgg185
  z233 := Tryz.sizeOf185
  v233 := Tryz.zeroValue185
  g15 := by kernel_rfl
  g16 := by kernel_rfl
  g17 := by kernel_rfl
  g18 := by kernel_rfl
  g19 := by kernel_rfl }

def laysC172_ren : Go.Shelf.Ren := ⟨fun | 172 => 89 | 244 => 103 | 245 => 104 | 247 => 118 | 279 => 119 | 280 => 120 | 281 => 121 | 282 => 122 | 287 => 135 | 316 => 136 | 171 => 48 | 205 => 137 | 321 => 146 | 322 => 147 | 243 => 73 | 246 => 93 | 283 => 107 | 284 => 108 | 285 => 109 | 286 => 110 | 129 => 129 | 317 => 128 | 318 => 130 | 319 => 131 | 320 => 132 | 337 => 144 | 338 => 145 | n => n, fun | 9 => 9 | 3 => 3 | 75 => 42 | 76 => 43 | 4 => 4 | 5 => 5 | 167 => 133 | 37 => 38 | 0 => 0 | 85 => 134 | 2 => 2 | 168 => 136 | 53 => 126 | 175 => 158 | 46 => 118 | 210 => 161 | 127 => 63 | 145 => 180 | 143 => 178 | 21 => 21 | 171 => 125 | 173 => 129 | 212 => 148 | 51 => 149 | 20 => 20 | 213 => 150 | 232 => 184 | 233 => 185 | 80 => 47 | n => n, fun | 15 => 4 | 16 => 5 | 17 => 1 | 18 => 6 | 19 => 7 | n => n⟩
theorem laysC172 : Go.Proofs.LaysC.n172 Tryz.prog laysC172_ren := {
  mixed := by kernel_rfl
  f129 := Tryz.func129.trans (congrArg some (by kernel_rfl))
  f171 := Tryz.func48.trans (congrArg some (by kernel_rfl))
  f172 := Tryz.func89.trans (congrArg some (by kernel_rfl))
  f205 := Tryz.func137.trans (congrArg some (by kernel_rfl))
  f243 := Tryz.func73.trans (congrArg some (by kernel_rfl))
  f244 := Tryz.func103.trans (congrArg some (by kernel_rfl))
  f245 := Tryz.func104.trans (congrArg some (by kernel_rfl))
  f246 := Tryz.func93.trans (congrArg some (by kernel_rfl))
  f247 := Tryz.func118.trans (congrArg some (by kernel_rfl))
  f279 := Tryz.func119.trans (congrArg some (by kernel_rfl))
  f280 := Tryz.func120.trans (congrArg some (by kernel_rfl))
  f281 := Tryz.func121.trans (congrArg some (by kernel_rfl))
  f282 := Tryz.func122.trans (congrArg some (by kernel_rfl))
  f283 := Tryz.func107.trans (congrArg some (by kernel_rfl))
  f284 := Tryz.func108.trans (congrArg some (by kernel_rfl))
  f285 := Tryz.func109.trans (congrArg some (by kernel_rfl))
  f286 := Tryz.func110.trans (congrArg some (by kernel_rfl))
  f287 := Tryz.func135.trans (congrArg some (by kernel_rfl))
  f316 := Tryz.func136.trans (congrArg some (by kernel_rfl))
  f317 := Tryz.func128.trans (congrArg some (by kernel_rfl))
  f318 := Tryz.func130.trans (congrArg some (by kernel_rfl))
  f319 := Tryz.func131.trans (congrArg some (by kernel_rfl))
  f320 := Tryz.func132.trans (congrArg some (by kernel_rfl))
  f321 := Tryz.func146.trans (congrArg some (by kernel_rfl))
  f322 := Tryz.func147.trans (congrArg some (by kernel_rfl))
  f337 := Tryz.func144.trans (congrArg some (by kernel_rfl))
  f338 := Tryz.func145.trans (congrArg some (by kernel_rfl))
  t0 := Tryz.underlying0
  a0 := Tryz.isAgg0
  z0 := Tryz.sizeOf0
  v0 := Tryz.zeroValue0
  t2 := Tryz.underlying2
  a2 := Tryz.isAgg2
  z2 := Tryz.sizeOf2
  v2 := Tryz.zeroValue2
  t3 := Tryz.underlying3
  a3 := Tryz.isAgg3
  z3 := Tryz.sizeOf3
  v3 := Tryz.zeroValue3
  t4 := Tryz.underlying4
  a4 := Tryz.isAgg4
  z4 := Tryz.sizeOf4
  v4 := Tryz.zeroValue4
  t5 := Tryz.underlying5
  a5 := Tryz.isAgg5
  z5 := Tryz.sizeOf5
  v5 := Tryz.zeroValue5
  t9 := Tryz.underlying9
  a9 := Tryz.isAgg9
  z9 := Tryz.sizeOf9
  v9 := Tryz.zeroValue9
  t20 := Tryz.underlying20
  a20 := Tryz.isAgg20
  z20 := Tryz.sizeOf20
  v20 := Tryz.zeroValue20
  t21 := Tryz.underlying21
  a21 := Tryz.isAgg21
  z21 := Tryz.sizeOf21
  v21 := Tryz.zeroValue21
  t37 := Tryz.underlying38
  a37 := Tryz.isAgg38
  z37 := Tryz.sizeOf38
  v37 := Tryz.zeroValue38
  t46 := Tryz.underlying118
  a46 := Tryz.isAgg118
  z46 := Tryz.sizeOf118
  v46 := Tryz.zeroValue118
  t51 := Tryz.underlying149
  a51 := Tryz.isAgg149
  z51 := Tryz.sizeOf149
  v51 := Tryz.zeroValue149
  t53 := Tryz.underlying126
  a53 := Tryz.isAgg126
  z53 := Tryz.sizeOf126
  v53 := Tryz.zeroValue126
  t75 := Tryz.underlying42
  a75 := Tryz.isAgg42
  z75 := Tryz.sizeOf42
  v75 := Tryz.zeroValue42
  t76 := Tryz.underlying43
  a76 := Tryz.isAgg43
  z76 := Tryz.sizeOf43
  v76 := Tryz.zeroValue43
  t85 := Tryz.underlying134
  a85 := Tryz.isAgg134
  z85 := Tryz.sizeOf134
  v85 := Tryz.zeroValue134
  t127 := Tryz.underlying63
  a127 := Tryz.isAgg63
  z127 := Tryz.sizeOf63
  v127 := Tryz.zeroValue63
  t143 := Tryz.underlying178
  a143 := Tryz.isAgg178
  z143 := Tryz.sizeOf178
  v143 := Tryz.zeroValue178
  t145 := Tryz.underlying180
  a145 := Tryz.isAgg180
  z145 := Tryz.sizeOf180
  v145 := Tryz.zeroValue180
  t167 := Tryz.underlying133
  a167 := Tryz.isAgg133
  z167 := Tryz.sizeOf133
  v167 := Tryz.zeroValue133
  t168 := Tryz.underlying136
  a168 := Tryz.isAgg136
  z168 := Tryz.sizeOf136
  v168 := Tryz.zeroValue136
  t171 := Tryz.underlying125
  a171 := Tryz.isAgg125
  z171 := Tryz.sizeOf125
  v171 := Tryz.zeroValue125
  t173 := Tryz.underlying129
  a173 := Tryz.isAgg129
  z173 := Tryz.sizeOf129
  v173 := Tryz.zeroValue129
  t175 := Tryz.underlying158
  a175 := Tryz.isAgg158
  z175 := Tryz.sizeOf158
  v175 := Tryz.zeroValue158
  t210 := Tryz.underlying161
  a210 := Tryz.isAgg161
  z210 := Tryz.sizeOf161
  v210 := Tryz.zeroValue161
  t212 := Tryz.underlying148
  a212 := Tryz.isAgg148
  z212 := Tryz.sizeOf148
  v212 := Tryz.zeroValue148
  t213 := Tryz.underlying150
  a213 := Tryz.isAgg150
  z213 := Tryz.sizeOf150
  t232 := Tryz.underlying184
  a232 := Tryz.isAgg184
  z232 := Tryz.sizeOf184
  v232 := Tryz.zeroValue184
  t233 := Tryz.underlying185
  a233 := Tryz.isAgg185
  z233 := Tryz.sizeOf185
  v233 := Tryz.zeroValue185
  g15 := by kernel_rfl
  g16 := by kernel_rfl
  g17 := by kernel_rfl
  g18 := by kernel_rfl
  g19 := by kernel_rfl
  t80 := Tryz.underlying47
  a80 := Tryz.isAgg47
  z80 := Tryz.sizeOf47
  v80 := Tryz.zeroValue47
  i0 := by kernel_rfl
  i2 := by kernel_rfl
  i3 := by kernel_rfl
  i4 := by kernel_rfl
  i5 := by kernel_rfl
  i9 := by kernel_rfl
  i20 := by kernel_rfl
  i21 := by kernel_rfl
  i37 := by kernel_rfl
  i46 := by kernel_rfl
  i51 := by kernel_rfl
  i53 := by kernel_rfl
  i75 := by kernel_rfl
  i76 := by kernel_rfl
  i80 := by kernel_rfl
  i85 := by kernel_rfl
  i127 := by kernel_rfl
  i143 := by kernel_rfl
  i145 := by kernel_rfl
  i167 := by kernel_rfl
  i168 := by kernel_rfl
  i171 := by kernel_rfl
  i173 := by kernel_rfl
  i175 := by kernel_rfl
  i210 := by kernel_rfl
  i212 := by kernel_rfl
  i232 := by kernel_rfl
  i233 := by kernel_rfl
  m15 := by kernel_rfl
  m16 := by kernel_rfl
  m17 := by kernel_rfl
  m18 := by kernel_rfl
  m19 := by kernel_rfl
  c0 := by kernel_rfl
  c2 := by kernel_rfl
  c3 := by kernel_rfl
  c4 := by kernel_rfl
  c5 := by kernel_rfl
  c9 := by kernel_rfl
  c20 := by kernel_rfl
  c21 := by kernel_rfl
  c37 := by kernel_rfl
  c46 := by kernel_rfl
  c51 := by kernel_rfl
  c53 := by kernel_rfl
  c75 := by kernel_rfl
  c76 := by kernel_rfl
  c80 := by kernel_rfl
  c85 := by kernel_rfl
  c127 := by kernel_rfl
  c143 := by kernel_rfl
  c145 := by kernel_rfl
  c167 := by kernel_rfl
  c168 := by kernel_rfl
  c171 := by kernel_rfl
  c173 := by kernel_rfl
  c175 := by kernel_rfl
  c210 := by kernel_rfl
  c212 := by kernel_rfl
  c213 := by kernel_rfl
  c232 := by kernel_rfl
  c233 := by kernel_rfl }

theorem c_strconv_Atoi {Af : ByteArray}  {r : Int × Int} (h : M.strconv_Atoi Af = some r) :
    Cal2 Tryz.prog 89 [(.string Af)] [Ch.gw gw0] (fun n0 v L => ∃ (gaz1 : Nat → Addr), v = (.tuple #[(I r.1), (er 136 gaz1 r.2)]) ∧ L = []) := by
 exact atoi_cal2 ⟨_, _, Tryz.func89, rfl, rfl⟩ (fun s n w hs hn => (Any.strconv_Atoi lays172 s n hs hn w).mono (by rintro e w' ⟨rfl, t, rfl⟩; exact ⟨rfl, Lib.bytesWorld_below _ _ _⟩)) (fun s w hg hs hn => by
    obtain ⟨ev, h1, h2⟩ := libG_err hg
    refine (Any.strconv_Atoi_err laysC172 s hs hn ev w h1 h2).mono ?_
    rintro e w' ⟨N, rfl, -, -, hB⟩
    exact ⟨N, rfl, hB⟩) (show M.atoi Af = some r from h)

def laysM171_ren : Go.Shelf.Ren := ⟨fun | 171 => 48 | 243 => 73 | 246 => 93 | 283 => 107 | 284 => 108 | 285 => 109 | 286 => 110 | 129 => 129 | 317 => 128 | 318 => 130 | 319 => 131 | 320 => 132 | 337 => 144 | 338 => 145 | n => n, fun | 3 => 3 | 9 => 9 | 2 => 2 | 4 => 4 | 171 => 125 | 0 => 0 | 53 => 126 | 37 => 38 | 5 => 5 | 173 => 129 | 212 => 148 | 51 => 149 | 20 => 20 | 213 => 150 | 46 => 118 | 232 => 184 | 233 => 185 | n => n, fun | 17 => 1 | 18 => 6 | 19 => 7 | n => n⟩
theorem laysM171 : Go.Proofs.LaysM.n171 Tryz.prog laysM171_ren := {
  mixed := by kernel_rfl
  f129 := Tryz.func129.trans (congrArg some (by kernel_rfl))
  f171 := Tryz.func48.trans (congrArg some (by kernel_rfl))
  f243 := Tryz.func73.trans (congrArg some (by kernel_rfl))
  f246 := Tryz.func93.trans (congrArg some (by kernel_rfl))
  f283 := Tryz.func107.trans (congrArg some (by kernel_rfl))
  f284 := Tryz.func108.trans (congrArg some (by kernel_rfl))
  f285 := Tryz.func109.trans (congrArg some (by kernel_rfl))
  f286 := Tryz.func110.trans (congrArg some (by kernel_rfl))
  f317 := Tryz.func128.trans (congrArg some (by kernel_rfl))
  f318 := Tryz.func130.trans (congrArg some (by kernel_rfl))
  f319 := Tryz.func131.trans (congrArg some (by kernel_rfl))
  f320 := Tryz.func132.trans (congrArg some (by kernel_rfl))
  f337 := Tryz.func144.trans (congrArg some (by kernel_rfl))
  f338 := Tryz.func145.trans (congrArg some (by kernel_rfl))
  t0 := Tryz.underlying0
  a0 := Tryz.isAgg0
  z0 := Tryz.sizeOf0
  v0 := Tryz.zeroValue0
  t2 := Tryz.underlying2
  a2 := Tryz.isAgg2
  z2 := Tryz.sizeOf2
  v2 := Tryz.zeroValue2
  t3 := Tryz.underlying3
  a3 := Tryz.isAgg3
  z3 := Tryz.sizeOf3
  v3 := Tryz.zeroValue3
  t4 := Tryz.underlying4
  a4 := Tryz.isAgg4
  z4 := Tryz.sizeOf4
  v4 := Tryz.zeroValue4
  t5 := Tryz.underlying5
  a5 := Tryz.isAgg5
  z5 := Tryz.sizeOf5
  v5 := Tryz.zeroValue5
  t9 := Tryz.underlying9
  a9 := Tryz.isAgg9
  z9 := Tryz.sizeOf9
  v9 := Tryz.zeroValue9
  t20 := Tryz.underlying20
  a20 := Tryz.isAgg20
  z20 := Tryz.sizeOf20
  v20 := Tryz.zeroValue20
  t37 := Tryz.underlying38
  a37 := Tryz.isAgg38
  z37 := Tryz.sizeOf38
  v37 := Tryz.zeroValue38
  t46 := Tryz.underlying118
  a46 := Tryz.isAgg118
  z46 := Tryz.sizeOf118
  v46 := Tryz.zeroValue118
  t51 := Tryz.underlying149
  a51 := Tryz.isAgg149
  z51 := Tryz.sizeOf149
  v51 := Tryz.zeroValue149
  t53 := Tryz.underlying126
  a53 := Tryz.isAgg126
  z53 := Tryz.sizeOf126
  v53 := Tryz.zeroValue126
  t171 := Tryz.underlying125
  a171 := Tryz.isAgg125
  z171 := Tryz.sizeOf125
  v171 := Tryz.zeroValue125
  t173 := Tryz.underlying129
  a173 := Tryz.isAgg129
  z173 := Tryz.sizeOf129
  v173 := Tryz.zeroValue129
  t212 := Tryz.underlying148
  a212 := Tryz.isAgg148
  z212 := Tryz.sizeOf148
  v212 := Tryz.zeroValue148
  t213 := Tryz.underlying150
  a213 := Tryz.isAgg150
  z213 := Tryz.sizeOf150
  t232 := Tryz.underlying184
  a232 := Tryz.isAgg184
  z232 := Tryz.sizeOf184
  v232 := Tryz.zeroValue184
  t233 := Tryz.underlying185
  a233 := Tryz.isAgg185
  z233 := Tryz.sizeOf185
  v233 := Tryz.zeroValue185
  g17 := by kernel_rfl
  g18 := by kernel_rfl
  g19 := by kernel_rfl
  i0 := by kernel_rfl
  i2 := by kernel_rfl
  i3 := by kernel_rfl
  i4 := by kernel_rfl
  i5 := by kernel_rfl
  i9 := by kernel_rfl
  i20 := by kernel_rfl
  i37 := by kernel_rfl
  i46 := by kernel_rfl
  i51 := by kernel_rfl
  i53 := by kernel_rfl
  i171 := by kernel_rfl
  i173 := by kernel_rfl
  i212 := by kernel_rfl
  i232 := by kernel_rfl
  i233 := by kernel_rfl
  m17 := by kernel_rfl
  m18 := by kernel_rfl
  m19 := by kernel_rfl }

theorem c_strconv_Itoa {Cw : Int}  {r : ByteArray} (h : M.strconv_Itoa Cw = some r) :
    Cal2 Tryz.prog 48 [(I Cw)] [Ch.gw gw0] (fun n0 v L => v = (.string r) ∧ L = []) := by
 exact itoa_cal2 ⟨_, _, Tryz.func48, rfl, rfl⟩ (fun n w hg h0 h1 => Any.strconv_Itoa laysM171 n h0 h1 w (libG_tab (by kernel_rfl) hg)) (show M.itoa Cw = some r from h)

theorem c_impl_parseNumber {Cy : ByteArray}  {r : Int × Bool} (h : M.impl_parseNumber Cy = some r) :
    Cal2 Tryz.prog 68 [(.string Cy)] [Ch.gw gw0] (fun n0 v L => v = (.tuple #[(I r.1), (B r.2)]) ∧ L = []) := by
 refine cal2 (n := 23) Tryz.func68 rfl rfl rfl rfl ?_
 intro S0 σ0 n0 hn0 H
 unfold M.impl_parseNumber at h
 refine c_seq (rg (sa (I 0) rfl (sa (B false) rfl (w_end (q_then (c_seq (c_seq (rg (sm (.string Cy) rfl (st (v := (I (Cy.size : Int))) (rv_slen Tryz.underlying9 rfl) (st (v := (B (decide (4 < (Cy.size : Int))))) (rv_gtr (a := (Cy.size : Int)) (b := 4) rfl rfl) ?_)))))))))))
 refine w_end (q_then ?_)
 refine cd_cond (decide (4 < (Cy.size : Int))) rfl (fun hb1 => ?_) (fun hb1 => ?_)
 ·replace h := bif_t hb1 h
  refine c_seq (rg (sa (I 0) rfl (sa (B false) rfl (w_end (q_then (c_ret (q_then_r ?_)))))))
  obtain rfl := sj h
  exact fin_ret (v := (.tuple #[(I 0), (B false)])) (results_ok Tryz.results68 (res_tmp (v := (I 0)) rfl (res_tmp (v := (B false)) rfl res_nil)) rfl) ⟨rfl, rfl⟩ (H.sel' [] rfl rfl)
 ·replace h := bif_f hb1 h
  refine c_skip (q_then (c_seq (rg (sm (.string Cy) rfl ?_))))
  revert h; refine br fun r2 hx3 h => ?_
  have hc4 := c_strconv_Atoi hx3
  refine st_call (cx_call hc4 (ent_f hc4.fn rfl) hn0 (H.sel' [0, 0] rfl rfl : Hp S0 σ0 _ ([_] ++ _))) wn ?_
  rintro _ σ6 ⟨_, ⟨ga5, rfl, rfl⟩, H, -⟩
  replace H : Hp _ _ _ [_] := H
  refine sm (.tuple #[(I r2.1), (er 136 ga5 r2.2)]) rfl (st (v := (I r2.1)) (rv_extract rfl rfl) (st (v := (er 136 ga5 r2.2)) (rv_extract rfl rfl) (sa (I r2.1) rfl (sa (er 136 ga5 r2.2) rfl (w_end (q_then (c_seq (c_seq ?_))))))))
  obtain ⟨o7, hj, h'⟩ := bind_some h
  clear h
  refine c_cut (fun e a w => e = .normal ∧ ∃ (ρ : Nat → Value) (σ : St), a = fr 23 (updL ρ [(4, (I r2.1)), (21, (B o7))]) ∧ w = σ.w ∧ Hp S0 σ0 σ [Ch.gw gw0]) ?_ ?_
  ·clear h'
   rename _ = some o7 => h
   refine rg (sm (er 136 ga5 r2.2) rfl (st (v := (B (r2.2 != 0))) (rv_neqE (e := r2.2) Tryz.underlying42 rfl rfl) (sm (B (r2.2 != 0)) rfl ?_)))
   rcases Bool.eq_false_or_eq_true (r2.2 != 0) with hb8 | hb8
   ·replace h := bif_t hb8 h
    refine st_skip (congrArg some hb8) (st_skip (congrArg some hb8) (st_skip (congrArg some hb8) (st_skip (congrArg some hb8) (st (v := (B true)) (rv_pick_t (congrArg B hb8) rfl) (w_end ?_)))))
    obtain rfl := sj h
    exact ⟨rfl, _, σ6, fr_join ⟨rfl, rfl, trivial⟩, rfl, H.sel' [0] rfl rfl⟩
   ·replace h := bif_f hb8 h
    refine st_g (v := (I r2.1)) (congrArg some hb8) (rv_move rfl) ?_
    revert h; refine br fun r9 hx10 h => ?_
    have hc11 := c_strconv_Itoa hx10
    refine st_call (cx_call hc11 (ent_f hc11.fn rfl) hn0 (H.sel' [0, 0] rfl rfl : Hp S0 σ0 _ ([_] ++ _))) (wanted_yes rfl (by exact (congrArg some hb8))) ?_
    rintro _ σ12 ⟨_, ⟨rfl, rfl⟩, H, -⟩
    replace H : Hp _ _ _ [_] := H
    refine st_g (v := (.string Cy)) (congrArg some hb8) (rv_move rfl) (st_g (v := (B (!(r9.toList == Cy.toList)))) (congrArg some hb8) (rv_sneq rfl rfl) (st (v := (B (!(r9.toList == Cy.toList)))) (rv_pick_f (congrArg B hb8) rfl) (w_end ?_)))
    obtain rfl := sj h
    exact ⟨rfl, _, σ12, fr_join ⟨rfl, rfl, trivial⟩, rfl, H.sel' [0] rfl rfl⟩
  ·clear hj
   have h := h'
   clear h' H
   rintro e a w ⟨rfl, ρ, σ13, rfl, rfl, H⟩
   refine q_then ?_
   refine cd_cond o7 rfl (fun hb14 => ?_) (fun hb14 => ?_)
   ·replace h := bif_t hb14 h
    refine c_seq (rg (sa (I 0) rfl (sa (B false) rfl (w_end (q_then (c_ret (q_then_r ?_)))))))
    obtain rfl := sj h
    exact fin_ret (v := (.tuple #[(I 0), (B false)])) (results_ok Tryz.results68 (res_tmp (v := (I 0)) rfl (res_tmp (v := (B false)) rfl res_nil)) rfl) ⟨rfl, rfl⟩ (H.sel' [] rfl rfl)
   ·replace h := bif_f hb14 h
    refine c_skip (q_then (c_seq (rg (sm (I r2.1) rfl (sa (I r2.1) rfl (sa (B true) rfl (w_end (q_then (c_ret ?_)))))))))
    obtain rfl := sj h
    exact fin_ret (v := (.tuple #[(I r2.1), (B true)])) (results_ok Tryz.results68 (res_tmp (v := (I r2.1)) rfl (res_tmp (v := (B true)) rfl res_nil)) rfl) ⟨rfl, rfl⟩ (H.sel' [] rfl rfl)

theorem c_impl_readNumber {Cy : ByteArray}  {r : Int} (h : M.impl_readNumber Cy = some r) :
    Cal2 Tryz.prog 43 [(.string Cy)] [Ch.gw gw0] (fun n0 v L => v = (I r) ∧ L = []) := by
 refine cal2 (n := 13) Tryz.func43 rfl rfl rfl rfl ?_
 intro S0 σ0 n0 hn0 H
 unfold M.impl_readNumber at h
 refine c_seq (rg (sa (I 0) rfl (w_end (q_then (c_seq (rg (sm (.string Cy) rfl ?_)))))))
 revert h; refine br fun r1 hx2 h => ?_
 have hc3 := c_impl_parseNumber hx2
 refine st_call (cx_call hc3 (ent_f hc3.fn rfl) hn0 (H.sel' [0, 0] rfl rfl : Hp S0 σ0 _ ([_] ++ _))) wn ?_
 rintro _ σ4 ⟨_, ⟨rfl, rfl⟩, H, -⟩
 replace H : Hp _ _ _ [_] := H
 refine sm (.tuple #[(I r1.1), (B r1.2)]) rfl (st (v := (I r1.1)) (rv_extract rfl rfl) (st (v := (B r1.2)) (rv_extract rfl rfl) (sa (I r1.1) rfl (sa (B r1.2) rfl (w_end (q_then (c_seq (c_seq (rg (sm (B r1.2) rfl (st (v := (B (!r1.2))) (rv_not rfl) ?_)))))))))))
 refine w_end (q_then ?_)
 refine cd_cond (!r1.2) rfl (fun hb5 => ?_) (fun hb5 => ?_)
 ·replace h := bif_t hb5 h
  refine c_seq (rg (sa (I (-1)) rfl (w_end (q_then (c_ret (q_then_r ?_))))))
  obtain rfl := sj h
  exact fin_ret (v := (I (-1))) (results_ok Tryz.results43 (res_tmp (v := (I (-1))) rfl res_nil) rfl) ⟨rfl, rfl⟩ (H.sel' [] rfl rfl)
 ·replace h := bif_f hb5 h
  refine c_skip (q_then (c_seq (rg (sm (I r1.1) rfl (sa (I r1.1) rfl (w_end (q_then (c_ret ?_))))))))
  obtain rfl := sj h
  exact fin_ret (v := (I r1.1)) (results_ok Tryz.results43 (res_tmp (v := (I r1.1)) rfl res_nil) rfl) ⟨rfl, rfl⟩ (H.sel' [] rfl rfl)

theorem c_impl_readVector {Cy : ByteArray}  {r : (List Int)} (h : M.impl_readVector Cy = some r) :
    Cal2 Tryz.prog 44 [(.string Cy)] [Ch.gw gw0] (fun n0 v L => ∃ (az1 : Option Addr), ∃ (cz2 : Nat), v = (Sl az1 r cz2) ∧ L = [Ch.own n0 n0 (Sl az1 r cz2) r]) := by
 refine cal2 (n := 28) Tryz.func44 rfl rfl rfl rfl ?_
 intro S0 σ0 n0 hn0 H
 unfold M.impl_readVector at h
 refine c_seq (rg (sa (.slice none 0 0) rfl (w_end (q_then (c_seq (rg (sa (.slice none 0 0) rfl (w_end (q_then (c_seq (c_seq ?_)))))))))))
 refine rg (sm (.string Cy) rfl ?_)
 revert h; refine br fun r1 hx2 h => ?_
 have hc3 := c_strings_Split hx2
 refine st_call (cx_call hc3 (ent_f hc3.fn rfl) hn0 (H.sel' [0, 0] rfl rfl : Hp S0 σ0 _ ([_] ++ _))) wn ?_
 rintro _ σ6 ⟨_, ⟨a4, c5, rfl, rfl⟩, H, -⟩
 replace H : Hp _ _ _ [_, _] := H
 refine st (v := (I (r1.length : Int))) (rv_len Tryz.underlying22 rfl) (sm (I 0) rfl (w_end (q_then ?_)))
 obtain ⟨o7, hj, h'⟩ := bind_some h
 clear h
 refine c_cut (fun e a w => (∃ t, o7 = (.inl t) ∧ e = .normal ∧ ∃ (ρ : Nat → Value) (σ : St) (aj1 : Option Addr) (cj2 : Nat), a = fr 28 (updL ρ [(3, (Sl aj1 t cj2))]) ∧ w = σ.w ∧ Hp S0 σ0 σ [Ch.own n0 n0 (Sl aj1 t cj2) t, Ch.gw gw0]) ∨ (∃ t, o7 = (.inr t) ∧ e = .ret ∧ ∃ (ρ : Nat → Value) (σ : St) (aj1 : Option Addr) (cj2 : Nat), a = fr 28 (updL ρ [(2, (Sl aj1 t cj2))]) ∧ w = σ.w ∧ Hp S0 σ0 σ [Ch.own n0 n0 (Sl aj1 t cj2) t, Ch.gw gw0])) ?_ ?_
 ·clear h'
  rename _ = some o7 => h
  refine c_blk ?_
  replace H := H.nilOwn Int n0 n0
  refine wp_loopM _ h (fun s8 a w => ∃ (ρ : Nat → Value) (σ : St) (aj1 : Option Addr) (cj2 : Nat), a = fr 28 (updL ρ [(3, (Sl aj1 s8.1 cj2)), (9, (Sl a4 r1 c5)), (10, (I (r1.length : Int))), (11, (I s8.2))]) ∧ w = σ.w ∧ Hp S0 σ0 σ [Ch.own n0 n0 (Sl aj1 s8.1 cj2) s8.1, Ch.own n0 n0 (Sl a4 r1 c5) r1, Ch.gw gw0]) ⟨_, σ6, none, 0, fr_join ⟨rfl, rfl, rfl, rfl, trivial⟩, rfl, H.sel' [0, 1, 2] rfl rfl⟩ ?_
  clear h H
  rintro s8 a w o ⟨ρ, σ9, a10, c11, rfl, rfl, H⟩ h hres
  refine c_seq (rg (st (v := (B (decide (s8.2 < (r1.length : Int))))) (rv_lss (a := s8.2) (b := (r1.length : Int)) rfl rfl) (w_end (q_then (c_seq ?_)))))
  refine cd_cond (decide (s8.2 < (r1.length : Int))) rfl (fun hb12 => ?_) (fun hb12 => ?_)
  ·replace h := bif_t hb12 h
   refine c_skip (q_then (c_seq (c_blk (c_seq (rg ?_)))))
   revert h; refine br fun x13 hx14 h => ?_
   obtain ⟨b16, o17, hi15, -⟩ := (H.own 1 rfl).ix hx14
   refine st (v := (pt b16 o17)) (rv_ix Tryz.underlying22 ti9 rfl rfl hi15) ?_
   have hc18 := ((H.own 1 rfl).at hx14 hi15).str
   refine st (v := (.string x13)) (rv_load1 Tryz.underlying9 rfl rfl hc18) (sa (.string x13) rfl (w_end (q_then (c_seq (rg (sm (.string x13) rfl ?_))))))
   revert h; refine br fun r19 hx20 h => ?_
   have hc21 := c_impl_parseNumber hx20
   refine st_call (cx_call hc21 (ent_f hc21.fn rfl) hn0 (H.sel' [2, 0, 1, 2] rfl rfl : Hp S0 σ0 _ ([_] ++ _))) wn ?_
   rintro _ σ22 ⟨_, ⟨rfl, rfl⟩, H, -⟩
   replace H : Hp _ _ _ [_, _, _] := H
   refine sm (.tuple #[(I r19.1), (B r19.2)]) rfl (st (v := (I r19.1)) (rv_extract rfl rfl) (st (v := (B r19.2)) (rv_extract rfl rfl) (sa (I r19.1) rfl (sa (B r19.2) rfl (w_end (q_then (c_seq (c_seq (rg (sm (B r19.2) rfl (st (v := (B (!r19.2))) (rv_not rfl) ?_)))))))))))
   refine w_end (q_then ?_)
   refine cd_cond (!r19.2) rfl (fun hb23 => ?_) (fun hb23 => ?_)
   ·replace h := bif_t hb23 h
    refine c_seq (rg (sa (.slice none 0 0) rfl (w_end (q_then (c_ret (q_then_r (q_blk_r (q_then_r (q_then_r (q_blk_r ?_))))))))))
    obtain rfl := sj h
    obtain rfl := hres _ rfl
    replace H := H.nilOwn Int n0 n0
    exact .inr (⟨_, rfl, rfl, _, σ22, none, 0, fr_join ⟨rfl, trivial⟩, rfl, H.sel' [0, 3] rfl rfl⟩)
   ·replace h := bif_f hb23 h
    refine c_skip (q_then (rg (sm (Sl a10 s8.1 c11) rfl (sm (I r19.1) rfl ?_))))
    refine st_ex (ex_buildSlice (el := n0) (xs := ([r19.1] : List Int)) (ps := [(0, (I r19.1))]) (cs := [(I r19.1)]) H hn0 Tryz.underlying51 ti3 rfl rfl (by kernel_rfl) (.cons (c := [(I r19.1)]) rfl (.nil)) rfl) wn ?_
    rintro _ σ25 ⟨b24, rfl, H, -⟩
    revert h; refine br fun xs26 hx27 h => ?_
    refine st_ex (ex_append H (i := 1) rfl Tryz.underlying51 Tryz.underlying51 ti3 rfl rfl (by decide) (H.own 0 rfl).rd hx27 hn0 rfl rfl) wn ?_
    rintro _ σ30 ⟨a28, c29, rfl, H, -⟩
    refine sa (Sl a28 xs26 c29) rfl (w_end (q_blk (q_then (rg (st (v := (I (w64 (s8.2 + 1)))) (rv_add (a := s8.2) (b := 1) rfl rfl) (sm (I (w64 (s8.2 + 1))) rfl (w_end (q_then ?_))))))))
    obtain rfl := sj h
    exact ⟨_, rfl, _, σ30, a28, c29, fr_join ⟨rfl, rfl, rfl, rfl, trivial⟩, rfl, H.sel' [0, 2, 3] rfl rfl⟩
  ·replace h := bif_f hb12 h
   refine c_exit (q_then_x (q_then_x (q_blk_hit ?_)))
   obtain rfl := sj h
   obtain rfl := hres _ rfl
   exact .inl ⟨_, rfl, rfl, _, σ9, a10, c11, fr_join ⟨rfl, trivial⟩, rfl, H.sel' [0, 2] rfl rfl⟩
 ·clear hj
  have h := h'
  clear h' H
  rintro e a w (⟨t31, rfl, rfl, ρ, σ32, a33, c34, rfl, rfl, H⟩ | ⟨t35, rfl, rfl, ρ, σ36, a37, c38, rfl, rfl, H⟩)
  ·replace h := selim_l h
   refine q_then (c_seq (rg (sm (Sl a33 t31 c34) rfl (sa (Sl a33 t31 c34) rfl (w_end (q_then (c_ret ?_)))))))
   obtain rfl := sj h
   exact fin_ret (v := (Sl a33 t31 c34)) (results_ok Tryz.results44 (res_tmp (v := (Sl a33 t31 c34)) rfl res_nil) rfl) ⟨a33, c34, rfl, rfl⟩ (H.sel' [0] rfl rfl)
  ·replace h := selim_r h
   refine q_then_r ?_
   obtain rfl := sj h
   exact fin_ret (v := (Sl a37 t35 c38)) (results_ok Tryz.results44 (res_tmp (v := (Sl a37 t35 c38)) rfl res_nil) rfl) ⟨a37, c38, rfl, rfl⟩ (H.sel' [0] rfl rfl)

theorem c_impl_validKey {Cz : Int}  {r : Bool} (h : M.impl_validKey Cz = some r) :
    Cal2 Tryz.prog 81 [(I Cz)] [] (fun n0 v L => v = (B r) ∧ L = []) := by
 refine cal2 (n := 9) Tryz.func81 rfl rfl rfl rfl ?_
 intro S0 σ0 n0 hn0 H
 unfold M.impl_validKey at h
 refine c_seq (rg (sa (B false) rfl (w_end (q_then (c_seq (rg (sm (I Cz) rfl (st (v := (B (decide (1 ≤ Cz)))) (rv_geq (a := Cz) (b := 1) rfl rfl) (sm (B (decide (1 ≤ Cz))) rfl ?_)))))))))
 rcases Bool.eq_false_or_eq_true (decide (1 ≤ Cz)) with hb1 | hb1
 ·replace h := bif_t hb1 h
  refine st_g (v := (I Cz)) (congrArg some hb1) (rv_move rfl) (st_g (v := (B (decide (Cz ≤ 99)))) (congrArg some hb1) (rv_leq (a := Cz) (b := 99) rfl rfl) (st (v := (B (decide (Cz ≤ 99)))) (rv_pick_t (congrArg B hb1) rfl) (sa (B (decide (Cz ≤ 99))) rfl (w_end (q_then (c_ret ?_))))))
  obtain rfl := sj h
  exact fin_ret (v := (B (decide (Cz ≤ 99)))) (results_ok Tryz.results81 (res_tmp (v := (B (decide (Cz ≤ 99)))) rfl res_nil) rfl) ⟨rfl, rfl⟩ (H.sel' [] rfl rfl)
 ·replace h := bif_f hb1 h
  refine st_skip (congrArg some hb1) (st_skip (congrArg some hb1) (st (v := (B false)) (rv_pick_f (congrArg B hb1) rfl) (sa (B false) rfl (w_end (q_then (c_ret ?_))))))
  obtain rfl := sj h
  exact fin_ret (v := (B false)) (results_ok Tryz.results81 (res_tmp (v := (B false)) rfl res_nil) rfl) ⟨rfl, rfl⟩ (H.sel' [] rfl rfl)

theorem c_impl_validCoords {Da : List Int} {Db : Option Addr} {Dc : Nat} {r : Bool} (h : M.impl_validCoords Da = some r) :
    Cal2 Tryz.prog 90 [(Sl Db Da Dc)] [Ch.ro 0 (Sl Db Da Dc) Da] (fun n0 v L => v = (B r) ∧ L = []) := by
 refine cal2 (n := 18) Tryz.func90 rfl rfl rfl rfl ?_
 intro S0 σ0 n0 hn0 H
 unfold M.impl_validCoords at h
 refine c_seq (rg (sa (B false) rfl (w_end (q_then (c_seq (c_seq (rg (sm (Sl Db Da Dc) rfl (st (v := (I (Da.length : Int))) (rv_len Tryz.underlying51 rfl) (sm (I 0) rfl (w_end ?_)))))))))))
 refine q_then ?_
 obtain ⟨o1, hj, h'⟩ := bind_some h
 clear h
 refine c_cut (fun e a w => (∃ t, o1 = (.inl t) ∧ e = .normal ∧ ∃ (ρ : Nat → Value) (σ : St), a = fr 18 (updL ρ []) ∧ w = σ.w ∧ Hp S0 σ0 σ []) ∨ (∃ t, o1 = (.inr t) ∧ e = .ret ∧ ∃ (ρ : Nat → Value) (σ : St), a = fr 18 (updL ρ [(2, (B t))]) ∧ w = σ.w ∧ Hp S0 σ0 σ [])) ?_ ?_
 ·clear h'
  rename _ = some o1 => h
  refine c_blk (wp_loopM _ h (fun s2 a w => ∃ (ρ : Nat → Value) (σ : St), a = fr 18 (updL ρ [(5, (Sl Db Da Dc)), (6, (I (Da.length : Int))), (7, (I s2))]) ∧ w = σ.w ∧ Hp S0 σ0 σ [Ch.ro 0 (Sl Db Da Dc) Da]) ⟨_, σ0, fr_join ⟨rfl, rfl, rfl, trivial⟩, rfl, H.sel' [0] rfl rfl⟩ ?_)
  clear h H
  rintro s2 a w o ⟨ρ, σ3, rfl, rfl, H⟩ h hres
  refine c_seq (rg (st (v := (B (decide (s2 < (Da.length : Int))))) (rv_lss (a := s2) (b := (Da.length : Int)) rfl rfl) (w_end (q_then (c_seq ?_)))))
  refine cd_cond (decide (s2 < (Da.length : Int))) rfl (fun hb4 => ?_) (fun hb4 => ?_)
  ·replace h := bif_t hb4 h
   refine c_skip (q_then (c_seq (c_blk (c_seq (rg ?_)))))
   revert h; refine br fun x5 hx6 h => ?_
   obtain ⟨b8, o9, hi7, -⟩ := (H.ro 0 rfl).ix hx6
   refine st (v := (pt b8 o9)) (rv_ix Tryz.underlying51 ti3 rfl rfl hi7) ?_
   have hc10 := ((H.ro 0 rfl).at hx6 hi7).int
   refine st (v := (I x5)) (rv_load1 Tryz.underlying3 rfl rfl hc10) (sa (I x5) rfl (w_end (q_then (c_seq ?_))))
   obtain ⟨o11, hj, h'⟩ := bind_some h
   clear h
   refine c_cut (fun e a w => e = .normal ∧ ∃ (ρ : Nat → Value) (σ : St), a = fr 18 (updL ρ [(5, (Sl Db Da Dc)), (6, (I (Da.length : Int))), (7, (I s2)), (16, (B o11))]) ∧ w = σ.w ∧ Hp S0 σ0 σ [Ch.ro 0 (Sl Db Da Dc) Da]) ?_ ?_
   ·clear h'
    rename _ = some o11 => h
    refine rg (sm (I x5) rfl (st (v := (B (decide (x5 < (-100))))) (rv_lss (a := x5) (b := (-100)) rfl rfl) (sm (B (decide (x5 < (-100)))) rfl ?_)))
    rcases Bool.eq_false_or_eq_true (decide (x5 < (-100))) with hb12 | hb12
    ·replace h := bif_t hb12 h
     refine st_skip (congrArg some hb12) (st_skip (congrArg some hb12) (st (v := (B true)) (rv_pick_t (congrArg B hb12) rfl) (w_end ?_)))
     obtain rfl := sj h
     exact ⟨rfl, _, σ3, fr_join ⟨rfl, rfl, rfl, rfl, trivial⟩, rfl, H.sel' [0] rfl rfl⟩
    ·replace h := bif_f hb12 h
     refine st_g (v := (I x5)) (congrArg some hb12) (rv_move rfl) (st_g (v := (B (decide (100 < x5)))) (congrArg some hb12) (rv_gtr (a := x5) (b := 100) rfl rfl) (st (v := (B (decide (100 < x5)))) (rv_pick_f (congrArg B hb12) rfl) (w_end ?_)))
     obtain rfl := sj h
     exact ⟨rfl, _, σ3, fr_join ⟨rfl, rfl, rfl, rfl, trivial⟩, rfl, H.sel' [0] rfl rfl⟩
   ·clear hj
    have h := h'
    clear h' H
    rintro e a w ⟨rfl, ρ, σ13, rfl, rfl, H⟩
    refine q_then ?_
    refine cd_cond o11 rfl (fun hb14 => ?_) (fun hb14 => ?_)
    ·replace h := bif_t hb14 h
     refine c_seq (rg (sa (B false) rfl (w_end (q_then (c_ret (q_blk_r (q_then_r (q_then_r (q_blk_r ?_)))))))))
     obtain rfl := sj h
     obtain rfl := hres _ rfl
     exact .inr (⟨_, rfl, rfl, _, σ13, fr_join ⟨rfl, trivial⟩, rfl, H.sel' [] rfl rfl⟩)
    ·replace h := bif_f hb14 h
     refine c_skip (q_blk (q_then (rg (st (v := (I (w64 (s2 + 1)))) (rv_add (a := s2) (b := 1) rfl rfl) (sm (I (w64 (s2 + 1))) rfl (w_end (q_then ?_)))))))
     obtain rfl := sj h
     exact ⟨_, rfl, _, σ13, fr_join ⟨rfl, rfl, rfl, trivial⟩, rfl, H.sel' [0] rfl rfl⟩
  ·replace h := bif_f hb4 h
   refine c_exit (q_then_x (q_then_x (q_blk_hit ?_)))
   obtain rfl := sj h
   obtain rfl := hres _ rfl
   exact .inl ⟨_, rfl, rfl, _, σ3, fr_join trivial, rfl, H.sel' [] rfl rfl⟩
 ·clear hj
  have h := h'
  clear h' H
  rintro e a w (⟨t15, rfl, rfl, ρ, σ16, rfl, rfl, H⟩ | ⟨t17, rfl, rfl, ρ, σ18, rfl, rfl, H⟩)
  ·replace h := selim_l h
   refine q_then (c_seq (rg (sa (B true) rfl (w_end (q_then (c_ret ?_))))))
   obtain rfl := sj h
   exact fin_ret (v := (B true)) (results_ok Tryz.results90 (res_tmp (v := (B true)) rfl res_nil) rfl) ⟨rfl, rfl⟩ (H.sel' [] rfl rfl)
  ·replace h := selim_r h
   refine q_then_r ?_
   obtain rfl := sj h
   exact fin_ret (v := (B t17)) (results_ok Tryz.results90 (res_tmp (v := (B t17)) rfl res_nil) rfl) ⟨rfl, rfl⟩ (H.sel' [] rfl rfl)

theorem c_impl_ValidVector {Ap : List Int} {Aq : Option Addr} {Ar : Nat} {r : Bool} (h : M.impl_ValidVector Ap = some r) :
    Cal2 Tryz.prog 70 [(Sl Aq Ap Ar)] [Ch.ro 0 (Sl Aq Ap Ar) Ap] (fun n0 v L => v = (B r) ∧ L = []) := by
 refine cal2 (n := 10) Tryz.func70 rfl rfl rfl rfl ?_
 intro S0 σ0 n0 hn0 H
 unfold M.impl_ValidVector at h
 refine c_seq (rg (sa (B false) rfl (w_end (q_then (c_seq (rg (sm (Sl Aq Ap Ar) rfl (st (v := (I (Ap.length : Int))) (rv_len Tryz.underlying51 rfl) (st (v := (B ((Ap.length : Int) == 4))) (rv_eql (a := (Ap.length : Int)) (b := 4) rfl rfl) (sm (B ((Ap.length : Int) == 4)) rfl ?_))))))))))
 rcases Bool.eq_false_or_eq_true ((Ap.length : Int) == 4) with hb1 | hb1
 ·replace h := bif_t hb1 h
  refine st_g (v := (Sl Aq Ap Ar)) (congrArg some hb1) (rv_move rfl) ?_
  revert h; refine br fun r2 hx3 h => ?_
  have hc4 := c_impl_validCoords (Db := Aq) (Dc := Ar) hx3
  refine st_call (cx_call hc4 (ent_f hc4.fn rfl) hn0 (H.sel' [0, 0] rfl rfl : Hp S0 σ0 _ ([_] ++ _))) (wanted_yes rfl (by exact (congrArg some hb1))) ?_
  rintro _ σ5 ⟨_, ⟨rfl, rfl⟩, H, -⟩
  replace H : Hp _ _ _ [_] := H
  refine st (v := (B r2)) (rv_pick_t (congrArg B hb1) rfl) (sa (B r2) rfl (w_end (q_then (c_ret ?_))))
  obtain rfl := sj h
  exact fin_ret (v := (B r2)) (results_ok Tryz.results70 (res_tmp (v := (B r2)) rfl res_nil) rfl) ⟨rfl, rfl⟩ (H.sel' [] rfl rfl)
 ·replace h := bif_f hb1 h
  refine st_skip (congrArg some hb1) (st_skip (congrArg some hb1) (st (v := (B false)) (rv_pick_f (congrArg B hb1) rfl) (sa (B false) rfl (w_end (q_then (c_ret ?_))))))
  obtain rfl := sj h
  exact fin_ret (v := (B false)) (results_ok Tryz.results70 (res_tmp (v := (B false)) rfl res_nil) rfl) ⟨rfl, rfl⟩ (H.sel' [] rfl rfl)

theorem c_impl_validTags {Dd : Int}  {r : Bool} (h : M.impl_validTags Dd = some r) :
    Cal2 Tryz.prog 82 [(I Dd)] [] (fun n0 v L => v = (B r) ∧ L = []) := by
 refine cal2 (n := 9) Tryz.func82 rfl rfl rfl rfl ?_
 intro S0 σ0 n0 hn0 H
 unfold M.impl_validTags at h
 refine c_seq (rg (sa (B false) rfl (w_end (q_then (c_seq (rg (sm (I Dd) rfl (st (v := (B (decide (0 ≤ Dd)))) (rv_geq (a := Dd) (b := 0) rfl rfl) (sm (B (decide (0 ≤ Dd))) rfl ?_)))))))))
 rcases Bool.eq_false_or_eq_true (decide (0 ≤ Dd)) with hb1 | hb1
 ·replace h := bif_t hb1 h
  refine st_g (v := (I Dd)) (congrArg some hb1) (rv_move rfl) (st_g (v := (B (decide (Dd ≤ 15)))) (congrArg some hb1) (rv_leq (a := Dd) (b := 15) rfl rfl) (st (v := (B (decide (Dd ≤ 15)))) (rv_pick_t (congrArg B hb1) rfl) (sa (B (decide (Dd ≤ 15))) rfl (w_end (q_then (c_ret ?_))))))
  obtain rfl := sj h
  exact fin_ret (v := (B (decide (Dd ≤ 15)))) (results_ok Tryz.results82 (res_tmp (v := (B (decide (Dd ≤ 15)))) rfl res_nil) rfl) ⟨rfl, rfl⟩ (H.sel' [] rfl rfl)
 ·replace h := bif_f hb1 h
  refine st_skip (congrArg some hb1) (st_skip (congrArg some hb1) (st (v := (B false)) (rv_pick_f (congrArg B hb1) rfl) (sa (B false) rfl (w_end (q_then (c_ret ?_))))))
  obtain rfl := sj h
  exact fin_ret (v := (B false)) (results_ok Tryz.results82 (res_tmp (v := (B false)) rfl res_nil) rfl) ⟨rfl, rfl⟩ (H.sel' [] rfl rfl)

theorem c_impl_validItem {Au : Int × (List Int) × Int} {Av : Option Addr} {Aw : Nat} {r : Bool} (h : M.impl_validItem Au = some r) :
    Cal2 Tryz.prog 63 [(.agg #[(I Au.1), (Sl Av Au.2.1 Aw), (I Au.2.2)])] [Ch.ro 0 (Sl Av Au.2.1 Aw) Au.2.1] (fun n0 v L => v = (B r) ∧ L = []) := by
 refine cal2 (n := 16) Tryz.func63 rfl rfl rfl rfl ?_
 intro S0 σ0 n0 hn0 H
 unfold M.impl_validItem at h
 refine c_seq (rg (st_ex (ex_box (cs := [(I Au.1), (Sl Av Au.2.1 Aw), (I Au.2.2)]) H hn0 rfl rfl) wn ?_))
 rintro _ σ2 ⟨b1, rfl, H, -⟩
 refine sa (B false) rfl (w_end (q_then (c_seq (rg (st (v := (pt b1 0)) (rv_fieldAddr (off := 0) (ft := 3) Tryz.underlying67 rfl ti3 rfl rfl) ?_)))))
 have hc3 := H.cell (u := (I Au.1)) (o' := 0) 0 0 rfl rfl rfl
 refine st (v := (I Au.1)) (rv_load1 Tryz.underlying3 rfl rfl hc3) ?_
 revert h; refine br fun r4 hx5 h => ?_
 have hc6 := c_impl_validKey hx5
 refine st_call (cx_call hc6 (ent_f hc6.fn rfl) hn0 (H.sel' [0, 1] rfl rfl : Hp S0 σ0 _ ([] ++ _))) wn ?_
 rintro _ σ7 ⟨_, ⟨rfl, rfl⟩, H, -⟩
 replace H : Hp _ _ _ [_, _] := H
 refine sm (B r4) rfl ?_
 rcases Bool.eq_false_or_eq_true r4 with hb8 | hb8
 ·replace h := bif_t hb8 h
  refine st_g (v := (pt b1 1)) (congrArg some hb8) (rv_fieldAddr (off := 1) (ft := 51) Tryz.underlying67 rfl ti51 rfl rfl) ?_
  have hc9 := H.cell (u := (Sl Av Au.2.1 Aw)) (o' := 1) 0 1 rfl rfl rfl
  refine st_g (v := (Sl Av Au.2.1 Aw)) (congrArg some hb8) (rv_load1 Tryz.underlying51 rfl rfl hc9) ?_
  revert h; refine br fun r10 hx11 h => ?_
  have hc12 := c_impl_ValidVector (Aq := Av) (Ar := Aw) hx11
  refine st_call (cx_call hc12 (ent_f hc12.fn rfl) hn0 (H.sel' [1, 0, 1] rfl rfl : Hp S0 σ0 _ ([_] ++ _))) (wanted_yes rfl (by exact (congrArg some hb8))) ?_
  rintro _ σ13 ⟨_, ⟨rfl, rfl⟩, H, -⟩
  replace H : Hp _ _ _ [_, _] := H
  refine st (v := (B r10)) (rv_pick_t (congrArg B hb8) rfl) (sm (B r10) rfl ?_)
  rcases Bool.eq_false_or_eq_true r10 with hb14 | hb14
  ·replace h := bif_t hb14 h
   refine st_g (v := (pt b1 2)) (congrArg some hb14) (rv_fieldAddr (off := 2) (ft := 3) Tryz.underlying67 rfl ti3 rfl rfl) ?_
   have hc15 := H.cell (u := (I Au.2.2)) (o' := 2) 0 2 rfl rfl rfl
   refine st_g (v := (I Au.2.2)) (congrArg some hb14) (rv_load1 Tryz.underlying3 rfl rfl hc15) ?_
   revert h; refine br fun r16 hx17 h => ?_
   have hc18 := c_impl_validTags hx17
   refine st_call (cx_call hc18 (ent_f hc18.fn rfl) hn0 (H.sel' [0, 1] rfl rfl : Hp S0 σ0 _ ([] ++ _))) (wanted_yes rfl (by exact (congrArg some hb14))) ?_
   rintro _ σ19 ⟨_, ⟨rfl, rfl⟩, H, -⟩
   replace H : Hp _ _ _ [_, _] := H
   refine st (v := (B r16)) (rv_pick_t (congrArg B hb14) rfl) (sa (B r16) rfl (w_end (q_then (c_ret ?_))))
   obtain rfl := sj h
   exact fin_ret (v := (B r16)) (results_ok Tryz.results63 (res_tmp (v := (B r16)) rfl res_nil) rfl) ⟨rfl, rfl⟩ (H.sel' [] rfl rfl)
  ·replace h := bif_f hb14 h
   refine st_skip (congrArg some hb14) (st_skip (congrArg some hb14) (st_skip (congrArg some hb14) (st (v := (B false)) (rv_pick_f (congrArg B hb14) rfl) (sa (B false) rfl (w_end (q_then (c_ret ?_)))))))
   obtain rfl := sj h
   exact fin_ret (v := (B false)) (results_ok Tryz.results63 (res_tmp (v := (B false)) rfl res_nil) rfl) ⟨rfl, rfl⟩ (H.sel' [] rfl rfl)
 ·replace h := bif_f hb8 h
  refine st_skip (congrArg some hb8) (st_skip (congrArg some hb8) (st_skip (congrArg some hb8) (st (v := (B false)) (rv_pick_f (congrArg B hb8) rfl) (sm (B false) rfl (st_skip rfl (st_skip rfl (st_skip rfl (st (v := (B false)) (rv_pick_f rfl rfl) (sa (B false) rfl (w_end (q_then ?_)))))))))))
  refine c_ret ?_
  obtain rfl := sj h
  exact fin_ret (v := (B false)) (results_ok Tryz.results63 (res_tmp (v := (B false)) rfl res_nil) rfl) ⟨rfl, rfl⟩ (H.sel' [] rfl rfl)

theorem c_impl_ValidStore {Ak : List (Int × (List Int) × Int)} {Am : Option Addr} {Ao : Nat} {r : Bool} (h : M.impl_ValidStore Ak = some r) :
    Cal2 Tryz.prog 62 [(Sl Am Ak Ao)] [Ch.ro 0 (Sl Am Ak Ao) Ak] (fun n0 v L => v = (B r) ∧ L = []) := by
 refine cal2 (n := 27) Tryz.func62 rfl rfl rfl rfl ?_
 intro S0 σ0 n0 hn0 H
 unfold M.impl_ValidStore at h
 refine c_seq (rg (sa (B false) rfl (w_end (q_then (c_seq (c_seq (rg (sm (Sl Am Ak Ao) rfl (st (v := (I (Ak.length : Int))) (rv_len Tryz.underlying29 rfl) (st (v := (B (decide (16 < (Ak.length : Int))))) (rv_gtr (a := (Ak.length : Int)) (b := 16) rfl rfl) (w_end ?_)))))))))))
 refine q_then ?_
 refine cd_cond (decide (16 < (Ak.length : Int))) rfl (fun hb1 => ?_) (fun hb1 => ?_)
 ·replace h := bif_t hb1 h
  refine c_seq (rg (sa (B false) rfl (w_end (q_then (c_ret (q_then_r ?_))))))
  obtain rfl := sj h
  exact fin_ret (v := (B false)) (results_ok Tryz.results62 (res_tmp (v := (B false)) rfl res_nil) rfl) ⟨rfl, rfl⟩ (H.sel' [] rfl rfl)
 ·replace h := bif_f hb1 h
  refine c_skip (q_then (c_seq (rg (sa (I 0) rfl (w_end (q_then (c_seq (c_seq (rg (sm (Sl Am Ak Ao) rfl (st (v := (I (Ak.length : Int))) (rv_len Tryz.underlying29 rfl) ?_)))))))))))
  refine sm (I 0) rfl (w_end (q_then ?_))
  obtain ⟨o2, hj, h'⟩ := bind_some h
  clear h
  refine c_cut (fun e a w => (∃ t, o2 = (.inl t) ∧ e = .normal ∧ ∃ (ρ : Nat → Value) (σ : St), a = fr 27 (updL ρ []) ∧ w = σ.w ∧ Hp S0 σ0 σ []) ∨ (∃ t, o2 = (.inr t) ∧ e = .ret ∧ ∃ (ρ : Nat → Value) (σ : St), a = fr 27 (updL ρ [(2, (B t))]) ∧ w = σ.w ∧ Hp S0 σ0 σ [])) ?_ ?_
  ·clear h'
   rename _ = some o2 => h
   refine c_blk (wp_loopM _ h (fun s3 a w => ∃ (ρ : Nat → Value) (σ : St), a = fr 27 (updL ρ [(3, (I s3.1)), (9, (Sl Am Ak Ao)), (10, (I (Ak.length : Int))), (11, (I s3.2))]) ∧ w = σ.w ∧ Hp S0 σ0 σ [Ch.ro 0 (Sl Am Ak Ao) Ak]) ⟨_, σ0, fr_join ⟨rfl, rfl, rfl, rfl, trivial⟩, rfl, H.sel' [0] rfl rfl⟩ ?_)
   clear h H
   rintro s3 a w o ⟨ρ, σ4, rfl, rfl, H⟩ h hres
   refine c_seq (rg (st (v := (B (decide (s3.2 < (Ak.length : Int))))) (rv_lss (a := s3.2) (b := (Ak.length : Int)) rfl rfl) (w_end (q_then (c_seq ?_)))))
   refine cd_cond (decide (s3.2 < (Ak.length : Int))) rfl (fun hb5 => ?_) (fun hb5 => ?_)
   ·replace h := bif_t hb5 h
    refine c_skip (q_then (c_seq (c_blk (c_seq (rg ?_)))))
    revert h; refine br fun x6 hx7 h => ?_
    obtain ⟨b9, o10, hi8, -⟩ := (H.ro 0 rfl).ix hx7
    refine st (v := (pt b9 o10)) (rv_ix Tryz.underlying29 ti67 rfl rfl hi8) ?_
    obtain ⟨_, ⟨_, _, rfl, rfl, ⟨_, _, rfl, ⟨_, rfl, hR15⟩, rfl⟩⟩, hl11, hc12⟩ := ((H.ro 0 rfl).at hx7 hi8).cells
    obtain ⟨a13, c14, rfl⟩ := hR15.isSl
    replace H := H.add (d := Ch.ro 0 (Sl a13 x6.2.1 c14) x6.2.1) hR15 (fun _ h => h)
    clear hR15
    refine st (v := (.agg #[(I x6.1), (Sl a13 x6.2.1 c14), (I x6.2.2)])) (rv_load Tryz.underlying67 rfl ti67 rfl hl11 hc12) (st_ex (ex_alloc (cs := [(I 0), (.slice none 0 0), (I 0)]) H hn0 ti67 rfl) wn ?_)
    rintro _ σ17 ⟨b16, rfl, H, -⟩
    refine st_exS (ex_store_box (k := 0) (cs := [(I 0), (.slice none 0 0), (I 0)]) (vs := [(I x6.1), (Sl a13 x6.2.1 c14), (I x6.2.2)]) (cs' := [(I x6.1), (Sl a13 x6.2.1 c14), (I x6.2.2)]) H (i := 0) rfl ti67 rfl rfl rfl rfl rfl (Nat.le_of_ble_eq_true rfl) (by simp [plain]) rfl) wn ?_
    rintro σ18 ⟨H, -⟩
    refine w_end (q_then (c_seq (c_seq ?_)))
    obtain ⟨o19, hj, h'⟩ := bind_some h
    clear h
    refine c_cut (fun e a w => e = .normal ∧ ∃ (ρ : Nat → Value) (σ : St), a = fr 27 (updL ρ [(5, (pt b16 0)), (9, (Sl Am Ak Ao)), (10, (I (Ak.length : Int))), (11, (I s3.2)), (23, (B o19))]) ∧ w = σ.w ∧ Hp S0 σ0 σ [Ch.ro 0 (Sl a13 x6.2.1 c14) x6.2.1, Ch.bx n0 b16 0 [(I x6.1), (Sl a13 x6.2.1 c14), (I x6.2.2)] [] [], Ch.ro 0 (Sl Am Ak Ao) Ak]) ?_ ?_
    ·clear h'
     rename _ = some o19 => h
     refine rg ?_
     have hc20 := H.cells 0 rfl
     refine st (v := (.agg #[(I x6.1), (Sl a13 x6.2.1 c14), (I x6.2.2)])) (rv_load (cs := [(I x6.1), (Sl a13 x6.2.1 c14), (I x6.2.2)]) Tryz.underlying67 rfl ti67 rfl rfl hc20) ?_
     revert h; refine br fun r21 hx22 h => ?_
     have hc23 := c_impl_validItem (Av := a13) (Aw := c14) hx22
     refine st_call (cx_call hc23 (ent_f hc23.fn rfl) hn0 (H.sel' [1, 0, 1, 2] rfl rfl : Hp S0 σ0 _ ([_] ++ _))) wn ?_
     rintro _ σ24 ⟨_, ⟨rfl, rfl⟩, H, -⟩
     replace H : Hp _ _ _ [_, _, _] := H
     refine st (v := (B (!r21))) (rv_not rfl) (sm (B (!r21)) rfl ?_)
     rcases Bool.eq_false_or_eq_true (!r21) with hb25 | hb25
     ·replace h := bif_t hb25 h
      refine st_skip (congrArg some hb25) (st_skip (congrArg some hb25) (st_skip (congrArg some hb25) (st_skip (congrArg some hb25) (st (v := (B true)) (rv_pick_t (congrArg B hb25) rfl) (w_end ?_)))))
      obtain rfl := sj h
      exact ⟨rfl, _, σ24, fr_join ⟨rfl, rfl, rfl, rfl, rfl, trivial⟩, rfl, H.sel' [1, 0, 2] rfl rfl⟩
     ·replace h := bif_f hb25 h
      refine st_g (v := (pt b16 0)) (congrArg some hb25) (rv_fieldAddr (off := 0) (ft := 3) Tryz.underlying67 rfl ti3 rfl rfl) ?_
      have hc26 := H.cell (u := (I x6.1)) (o' := 0) 0 0 rfl rfl rfl
      refine st_g (v := (I x6.1)) (congrArg some hb25) (rv_load1 Tryz.underlying3 rfl rfl hc26) (st_g (v := (I s3.1)) (congrArg some hb25) (rv_move rfl) (st_g (v := (B (decide (x6.1 ≤ s3.1)))) (congrArg some hb25) (rv_leq (a := x6.1) (b := s3.1) rfl rfl) (st (v := (B (decide (x6.1 ≤ s3.1)))) (rv_pick_f (congrArg B hb25) rfl) (w_end ?_))))
      obtain rfl := sj h
      exact ⟨rfl, _, σ24, fr_join ⟨rfl, rfl, rfl, rfl, rfl, trivial⟩, rfl, H.sel' [1, 0, 2] rfl rfl⟩
    ·clear hj
     have h := h'
     clear h' H
     rintro e a w ⟨rfl, ρ, σ27, rfl, rfl, H⟩
     refine q_then ?_
     refine cd_cond o19 rfl (fun hb28 => ?_) (fun hb28 => ?_)
     ·replace h := bif_t hb28 h
      refine c_seq (rg (sa (B false) rfl (w_end (q_then (c_ret (q_then_r (q_blk_r (q_then_r (q_then_r (q_blk_r ?_))))))))))
      obtain rfl := sj h
      obtain rfl := hres _ rfl
      exact .inr (⟨_, rfl, rfl, _, σ27, fr_join ⟨rfl, trivial⟩, rfl, H.sel' [] rfl rfl⟩)
     ·replace h := bif_f hb28 h
      refine c_skip (q_then (rg (st (v := (pt b16 0)) (rv_fieldAddr (off := 0) (ft := 3) Tryz.underlying67 rfl ti3 rfl rfl) ?_)))
      have hc29 := H.cell (u := (I x6.1)) (o' := 0) 1 0 rfl rfl rfl
      refine st (v := (I x6.1)) (rv_load1 Tryz.underlying3 rfl rfl hc29) (sa (I x6.1) rfl (w_end (q_blk (q_then (rg (st (v := (I (w64 (s3.2 + 1)))) (rv_add (a := s3.2) (b := 1) rfl rfl) (sm (I (w64 (s3.2 + 1))) rfl (w_end (q_then ?_)))))))))
      obtain rfl := sj h
      exact ⟨_, rfl, _, σ27, fr_join ⟨rfl, rfl, rfl, rfl, trivial⟩, rfl, H.sel' [2] rfl rfl⟩
   ·replace h := bif_f hb5 h
    refine c_exit (q_then_x (q_then_x (q_blk_hit ?_)))
    obtain rfl := sj h
    obtain rfl := hres _ rfl
    exact .inl ⟨_, rfl, rfl, _, σ4, fr_join trivial, rfl, H.sel' [] rfl rfl⟩
  ·clear hj
   have h := h'
   clear h' H
   rintro e a w (⟨t30, rfl, rfl, ρ, σ31, rfl, rfl, H⟩ | ⟨t32, rfl, rfl, ρ, σ33, rfl, rfl, H⟩)
   ·replace h := selim_l h
    refine q_then (c_seq (rg (sa (B true) rfl (w_end (q_then (c_ret ?_))))))
    obtain rfl := sj h
    exact fin_ret (v := (B true)) (results_ok Tryz.results62 (res_tmp (v := (B true)) rfl res_nil) rfl) ⟨rfl, rfl⟩ (H.sel' [] rfl rfl)
   ·replace h := selim_r h
    refine q_then_r ?_
    obtain rfl := sj h
    exact fin_ret (v := (B t32)) (results_ok Tryz.results62 (res_tmp (v := (B t32)) rfl res_nil) rfl) ⟨rfl, rfl⟩ (H.sel' [] rfl rfl)

theorem c_cmp_isNaN_int {Au : Int}  {r : Bool} (h : M.cmp_isNaN_int Au = some r) :
    Cal2 Tryz.prog 101 [(I Au)] [] (fun n0 v L => v = (B r) ∧ L = []) := by
 refine cal2 (n := 6) Tryz.func101 rfl rfl rfl rfl ?_
 intro S0 σ0 n0 hn0 H
 unfold M.cmp_isNaN_int at h
 refine c_seq (rg (sa (B false) rfl (w_end (q_then (c_seq (rg (sm (I Au) rfl (sm (I Au) rfl (st (v := (B (Au != Au))) (rv_neq (a := Au) (b := Au) rfl rfl) (sa (B (Au != Au)) rfl (w_end ?_)))))))))))
 refine q_then (c_ret ?_)
 obtain rfl := sj h
 exact fin_ret (v := (B (Au != Au))) (results_ok Tryz.results101 (res_tmp (v := (B (Au != Au))) rfl res_nil) rfl) ⟨rfl, rfl⟩ (H.sel' [] rfl rfl)

theorem c_cmp_Compare_int {Au : Int} {De : Int}  {r : Int} (h : M.cmp_Compare_int Au De = some r) :
    Cal2 Tryz.prog 85 [(I Au), (I De)] [] (fun n0 v L => v = (I r) ∧ L = []) := by
 refine cal2 (n := 20) Tryz.func85 rfl rfl rfl rfl ?_
 intro S0 σ0 n0 hn0 H
 unfold M.cmp_Compare_int at h
 refine c_seq (rg (sa (I 0) rfl (w_end (q_then (c_seq (rg (sm (I Au) rfl ?_)))))))
 revert h; refine br fun r1 hx2 h => ?_
 have hc3 := c_cmp_isNaN_int hx2
 refine st_call (cx_call hc3 (ent_f hc3.fn rfl) hn0 (H.sel' [] rfl rfl : Hp S0 σ0 _ ([] ++ _))) wn ?_
 rintro _ σ4 ⟨_, ⟨rfl, rfl⟩, H, -⟩
 replace H : Hp _ _ _ [] := H
 refine sa (B r1) rfl (w_end (q_then (c_seq (rg (sm (I De) rfl ?_)))))
 revert h; refine br fun r5 hx6 h => ?_
 have hc7 := c_cmp_isNaN_int hx6
 refine st_call (cx_call hc7 (ent_f hc7.fn rfl) hn0 (H.sel' [] rfl rfl : Hp S0 σ0 _ ([] ++ _))) wn ?_
 rintro _ σ8 ⟨_, ⟨rfl, rfl⟩, H, -⟩
 replace H : Hp _ _ _ [] := H
 refine sa (B r5) rfl (w_end (q_then (c_seq (c_seq (rg (sm (B r1) rfl (w_end (q_then ?_))))))))
 refine cd_cond r1 rfl (fun hb9 => ?_) (fun hb9 => ?_)
 ·replace h := bif_t hb9 h
  refine c_seq (c_seq (rg (sm (B r5) rfl (w_end (q_then ?_)))))
  refine cd_cond r5 rfl (fun hb10 => ?_) (fun hb10 => ?_)
  ·replace h := bif_t hb10 h
   refine c_seq (rg (sa (I 0) rfl (w_end (q_then (c_ret (q_then_r (q_then_r ?_)))))))
   obtain rfl := sj h
   exact fin_ret (v := (I 0)) (results_ok Tryz.results85 (res_tmp (v := (I 0)) rfl res_nil) rfl) ⟨rfl, rfl⟩ (H.sel' [] rfl rfl)
  ·replace h := bif_f hb10 h
   refine c_skip (q_then (c_seq (rg (sa (I (-1)) rfl (w_end (q_then (c_ret (q_then_r ?_))))))))
   obtain rfl := sj h
   exact fin_ret (v := (I (-1))) (results_ok Tryz.results85 (res_tmp (v := (I (-1))) rfl res_nil) rfl) ⟨rfl, rfl⟩ (H.sel' [] rfl rfl)
 ·replace h := bif_f hb9 h
  refine c_skip (q_then (c_seq (c_seq (rg (sm (B r5) rfl (w_end (q_then ?_)))))))
  refine cd_cond r5 rfl (fun hb11 => ?_) (fun hb11 => ?_)
  ·replace h := bif_t hb11 h
   refine c_seq (rg (sa (I 1) rfl (w_end (q_then (c_ret (q_then_r ?_))))))
   obtain rfl := sj h
   exact fin_ret (v := (I 1)) (results_ok Tryz.results85 (res_tmp (v := (I 1)) rfl res_nil) rfl) ⟨rfl, rfl⟩ (H.sel' [] rfl rfl)
  ·replace h := bif_f hb11 h
   refine c_skip (q_then (c_seq (c_seq (rg (sm (I Au) rfl (sm (I De) rfl (st (v := (B (decide (Au < De)))) (rv_lss (a := Au) (b := De) rfl rfl) (w_end (q_then ?_)))))))))
   refine cd_cond (decide (Au < De)) rfl (fun hb12 => ?_) (fun hb12 => ?_)
   ·replace h := bif_t hb12 h
    refine c_seq (rg (sa (I (-1)) rfl (w_end (q_then (c_ret (q_then_r ?_))))))
    obtain rfl := sj h
    exact fin_ret (v := (I (-1))) (results_ok Tryz.results85 (res_tmp (v := (I (-1))) rfl res_nil) rfl) ⟨rfl, rfl⟩ (H.sel' [] rfl rfl)
   ·replace h := bif_f hb12 h
    refine c_skip (q_then (c_seq (c_seq (rg (sm (I Au) rfl (sm (I De) rfl (st (v := (B (decide (De < Au)))) (rv_gtr (a := Au) (b := De) rfl rfl) (w_end (q_then ?_)))))))))
    refine cd_cond (decide (De < Au)) rfl (fun hb13 => ?_) (fun hb13 => ?_)
    ·replace h := bif_t hb13 h
     refine c_seq (rg (sa (I 1) rfl (w_end (q_then (c_ret (q_then_r ?_))))))
     obtain rfl := sj h
     exact fin_ret (v := (I 1)) (results_ok Tryz.results85 (res_tmp (v := (I 1)) rfl res_nil) rfl) ⟨rfl, rfl⟩ (H.sel' [] rfl rfl)
    ·replace h := bif_f hb13 h
     refine c_skip (q_then (c_seq (rg (sa (I 0) rfl (w_end (q_then (c_ret ?_)))))))
     obtain rfl := sj h
     exact fin_ret (v := (I 0)) (results_ok Tryz.results85 (res_tmp (v := (I 0)) rfl res_nil) rfl) ⟨rfl, rfl⟩ (H.sel' [] rfl rfl)

end Go.Vs
