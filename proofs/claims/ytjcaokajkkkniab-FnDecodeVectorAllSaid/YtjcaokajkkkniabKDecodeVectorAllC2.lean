/- The functions compute what their models say. -/
import Derived.Test.YtjcaokajkkkniabKDecodeVectorAllC1
set_option linter.unusedVariables false
set_option linter.unusedSimpArgs false
set_option maxRecDepth 20000
namespace Go.Vs
open Go Go.Proofs
attribute [local irreducible] Code.wp Code.wpIn wpList wpListIn wpQuiet Calls CallsIn

theorem c_spec_validBook {b_0 : (List (List Int)) × (List (List Int))} {ab_0_0 : Option Addr} {cb_0_0 : Nat} {ab_0_1 : Option Addr} {cb_0_1 : Nat} {r : Bool} (h : M.spec_validBook b_0 = some r) :
    Cal2 Try.prog 64 [(.agg #[(Sl ab_0_0 b_0.1 cb_0_0), (Sl ab_0_1 b_0.2 cb_0_1)])] [Ch.ro 0 (Sl ab_0_0 b_0.1 cb_0_0) b_0.1, Ch.ro 0 (Sl ab_0_1 b_0.2 cb_0_1) b_0.2] (fun n0 v L => v = (B r) ∧ L = []) := by
 refine cal2 (n := 23) Try.func64 rfl rfl rfl rfl ?_
 intro S0 σ0 n0 hn0 H
 unfold M.spec_validBook at h
 refine c_seq ?_
 refine rg ?_
 refine st_ex (ex_box (cs := [(Sl ab_0_0 b_0.1 cb_0_0), (Sl ab_0_1 b_0.2 cb_0_1)]) H hn0 rfl rfl) wn ?_
 rintro _ σ2 ⟨b1, rfl, H, -⟩
 refine st (v := (B false)) (rv_assign rfl) ?_
 refine w_end ?_
 refine q_then ?_
 refine c_seq ?_
 refine rg ?_
 refine st (v := (pt b1 0)) (rv_fieldAddr (off := 0) (ft := 27) Try.underlying39 rfl ti27 rfl rfl) ?_
 have hc3 := H.cell (u := (Sl ab_0_0 b_0.1 cb_0_0)) (o' := 0) 0 0 rfl rfl rfl
 refine st (v := (Sl ab_0_0 b_0.1 cb_0_0)) (rv_load1 Try.underlying27 rfl rfl hc3) ?_
 refine st (v := (I (b_0.1.length : Int))) (rv_len Try.underlying27 rfl) ?_
 refine st (v := (B ((b_0.1.length : Int) == 4))) (rv_eql (a := (b_0.1.length : Int)) (b := 4) rfl rfl) ?_
 refine st (v := (B ((b_0.1.length : Int) == 4))) (rv_move rfl) ?_
 rcases Bool.eq_false_or_eq_true ((b_0.1.length : Int) == 4) with hb4 | hb4
 ·replace h := bif_t hb4 h
  refine st_g (v := (pt b1 1)) (congrArg some hb4) (rv_fieldAddr (off := 1) (ft := 27) Try.underlying39 rfl ti27 rfl rfl) ?_
  have hc5 := H.cell (u := (Sl ab_0_1 b_0.2 cb_0_1)) (o' := 1) 0 1 rfl rfl rfl
  refine st_g (v := (Sl ab_0_1 b_0.2 cb_0_1)) (congrArg some hb4) (rv_load1 Try.underlying27 rfl rfl hc5) ?_
  refine st_g (v := (I (b_0.2.length : Int))) (congrArg some hb4) (rv_len Try.underlying27 rfl) ?_
  refine st_g (v := (B ((b_0.2.length : Int) == 4))) (congrArg some hb4) (rv_eql (a := (b_0.2.length : Int)) (b := 4) rfl rfl) ?_
  refine st (v := (B ((b_0.2.length : Int) == 4))) (rv_pick_t (congrArg B hb4) rfl) ?_
  refine st (v := (B ((b_0.2.length : Int) == 4))) (rv_move rfl) ?_
  rcases Bool.eq_false_or_eq_true ((b_0.2.length : Int) == 4) with hb6 | hb6
  ·replace h := bif_t hb6 h
   refine st_g (v := (pt b1 0)) (congrArg some hb6) (rv_fieldAddr (off := 0) (ft := 27) Try.underlying39 rfl ti27 rfl rfl) ?_
   have hc7 := H.cell (u := (Sl ab_0_0 b_0.1 cb_0_0)) (o' := 0) 0 0 rfl rfl rfl
   refine st_g (v := (Sl ab_0_0 b_0.1 cb_0_0)) (congrArg some hb6) (rv_load1 Try.underlying27 rfl rfl hc7) ?_
   obtain ⟨r8, hx9, h'⟩ := bind_some h
   clear h
   have h := h'; clear h'
   have hc10 := c_spec_validHalves (alist_0 := ab_0_0) (clist_0 := cb_0_0) hx9
   refine st_call (cx_call hc10 (ent_f hc10.fn rfl) hn0 (show Hp S0 σ0 _ ([Ch.ro 0 (Sl ab_0_0 b_0.1 cb_0_0) b_0.1] ++ [Ch.bx n0 b1 0 [(Sl ab_0_0 b_0.1 cb_0_0), (Sl ab_0_1 b_0.2 cb_0_1)] [] [], Ch.ro 0 (Sl ab_0_0 b_0.1 cb_0_0) b_0.1, Ch.ro 0 (Sl ab_0_1 b_0.2 cb_0_1) b_0.2]) from (H.sel' [1, 0, 1, 2] rfl rfl))) (wanted_yes rfl (by exact (congrArg some hb6))) ?_
   rintro _ σ11 ⟨_, ⟨rfl, rfl⟩, H, -⟩
   replace H : Hp S0 σ0 σ11 [Ch.bx n0 b1 0 [(Sl ab_0_0 b_0.1 cb_0_0), (Sl ab_0_1 b_0.2 cb_0_1)] [] [], Ch.ro 0 (Sl ab_0_0 b_0.1 cb_0_0) b_0.1, Ch.ro 0 (Sl ab_0_1 b_0.2 cb_0_1) b_0.2] := H
   refine st (v := (B r8)) (rv_pick_t (congrArg B hb6) rfl) ?_
   refine st (v := (B r8)) (rv_move rfl) ?_
   rcases Bool.eq_false_or_eq_true r8 with hb12 | hb12
   ·replace h := bif_t hb12 h
    refine st_g (v := (pt b1 1)) (congrArg some hb12) (rv_fieldAddr (off := 1) (ft := 27) Try.underlying39 rfl ti27 rfl rfl) ?_
    have hc13 := H.cell (u := (Sl ab_0_1 b_0.2 cb_0_1)) (o' := 1) 0 1 rfl rfl rfl
    refine st_g (v := (Sl ab_0_1 b_0.2 cb_0_1)) (congrArg some hb12) (rv_load1 Try.underlying27 rfl rfl hc13) ?_
    obtain ⟨r14, hx15, h'⟩ := bind_some h
    clear h
    have h := h'; clear h'
    have hc16 := c_spec_validHalves (alist_0 := ab_0_1) (clist_0 := cb_0_1) hx15
    refine st_call (cx_call hc16 (ent_f hc16.fn rfl) hn0 (show Hp S0 σ0 _ ([Ch.ro 0 (Sl ab_0_1 b_0.2 cb_0_1) b_0.2] ++ [Ch.bx n0 b1 0 [(Sl ab_0_0 b_0.1 cb_0_0), (Sl ab_0_1 b_0.2 cb_0_1)] [] [], Ch.ro 0 (Sl ab_0_0 b_0.1 cb_0_0) b_0.1, Ch.ro 0 (Sl ab_0_1 b_0.2 cb_0_1) b_0.2]) from (H.sel' [2, 0, 1, 2] rfl rfl))) (wanted_yes rfl (by exact (congrArg some hb12))) ?_
    rintro _ σ17 ⟨_, ⟨rfl, rfl⟩, H, -⟩
    replace H : Hp S0 σ0 σ17 [Ch.bx n0 b1 0 [(Sl ab_0_0 b_0.1 cb_0_0), (Sl ab_0_1 b_0.2 cb_0_1)] [] [], Ch.ro 0 (Sl ab_0_0 b_0.1 cb_0_0) b_0.1, Ch.ro 0 (Sl ab_0_1 b_0.2 cb_0_1) b_0.2] := H
    refine st (v := (B r14)) (rv_pick_t (congrArg B hb12) rfl) ?_
    refine st (v := (B r14)) (rv_assign rfl) ?_
    refine w_end ?_
    refine q_then ?_
    refine c_ret ?_
    obtain rfl := Option.some.inj h
    exact fin_ret (v := (B r14)) (results_ok Try.results64 (res_tmp (v := (B r14)) rfl res_nil) rfl) ⟨rfl, rfl⟩ (H.sel' [] rfl rfl)
   ·replace h := bif_f hb12 h
    refine st_skip (congrArg some hb12) ?_
    refine st_skip (congrArg some hb12) ?_
    refine st_skip (congrArg some hb12) ?_
    refine st (v := (B false)) (rv_pick_f (congrArg B hb12) rfl) ?_
    refine st (v := (B false)) (rv_assign rfl) ?_
    refine w_end ?_
    refine q_then ?_
    refine c_ret ?_
    obtain rfl := Option.some.inj h
    exact fin_ret (v := (B false)) (results_ok Try.results64 (res_tmp (v := (B false)) rfl res_nil) rfl) ⟨rfl, rfl⟩ (H.sel' [] rfl rfl)
  ·replace h := bif_f hb6 h
   refine st_skip (congrArg some hb6) ?_
   refine st_skip (congrArg some hb6) ?_
   refine st_skip (congrArg some hb6) ?_
   refine st (v := (B false)) (rv_pick_f (congrArg B hb6) rfl) ?_
   refine st (v := (B false)) (rv_move rfl) ?_
   refine st_skip rfl ?_
   refine st_skip rfl ?_
   refine st_skip rfl ?_
   refine st (v := (B false)) (rv_pick_f rfl rfl) ?_
   refine st (v := (B false)) (rv_assign rfl) ?_
   refine w_end ?_
   refine q_then ?_
   refine c_ret ?_
   obtain rfl := Option.some.inj h
   exact fin_ret (v := (B false)) (results_ok Try.results64 (res_tmp (v := (B false)) rfl res_nil) rfl) ⟨rfl, rfl⟩ (H.sel' [] rfl rfl)
 ·replace h := bif_f hb4 h
  refine st_skip (congrArg some hb4) ?_
  refine st_skip (congrArg some hb4) ?_
  refine st_skip (congrArg some hb4) ?_
  refine st_skip (congrArg some hb4) ?_
  refine st (v := (B false)) (rv_pick_f (congrArg B hb4) rfl) ?_
  refine st (v := (B false)) (rv_move rfl) ?_
  refine st_skip rfl ?_
  refine st_skip rfl ?_
  refine st_skip rfl ?_
  refine st (v := (B false)) (rv_pick_f rfl rfl) ?_
  refine st (v := (B false)) (rv_move rfl) ?_
  refine st_skip rfl ?_
  refine st_skip rfl ?_
  refine st_skip rfl ?_
  refine st (v := (B false)) (rv_pick_f rfl rfl) ?_
  refine st (v := (B false)) (rv_assign rfl) ?_
  refine w_end ?_
  refine q_then ?_
  refine c_ret ?_
  obtain rfl := Option.some.inj h
  exact fin_ret (v := (B false)) (results_ok Try.results64 (res_tmp (v := (B false)) rfl res_nil) rfl) ⟨rfl, rfl⟩ (H.sel' [] rfl rfl)

theorem c_spec_decode {b_0 : (List (List Int)) × (List (List Int))} {code_1 : Int} {ab_0_0 : Option Addr} {cb_0_0 : Nat} {ab_0_1 : Option Addr} {cb_0_1 : Nat} {r : (List Int)} (h : M.spec_decode b_0 code_1 = some r) :
    Cal2 Try.prog 67 [(.agg #[(Sl ab_0_0 b_0.1 cb_0_0), (Sl ab_0_1 b_0.2 cb_0_1)]), (I code_1)] [Ch.ro 0 (Sl ab_0_0 b_0.1 cb_0_0) b_0.1, Ch.ro 0 (Sl ab_0_1 b_0.2 cb_0_1) b_0.2] (fun n0 v L => ∃ (az1 : Option Addr), ∃ (cz2 : Nat), v = (Sl az1 r cz2) ∧ L = [Ch.own n0 n0 (Sl az1 r cz2) r]) := by
 refine cal2 (n := 20) Try.func67 rfl rfl rfl rfl ?_
 intro S0 σ0 n0 hn0 H
 unfold M.spec_decode at h
 refine c_seq ?_
 refine rg ?_
 refine st_ex (ex_box (cs := [(Sl ab_0_0 b_0.1 cb_0_0), (Sl ab_0_1 b_0.2 cb_0_1)]) H hn0 rfl rfl) wn ?_
 rintro _ σ2 ⟨b1, rfl, H, -⟩
 refine st (v := (.slice none 0 0)) (rv_assign rfl) ?_
 refine w_end ?_
 refine q_then ?_
 refine c_seq ?_
 have hc4 := H.cell (u := (Sl ab_0_0 b_0.1 cb_0_0)) (o' := 0) 0 0 rfl rfl rfl
 obtain ⟨x5, hx6, h'⟩ := bind_some h
 clear h
 have h := h'; clear h'
 obtain ⟨b8, o9, hi7, -⟩ := (H.ro 1 rfl).ix hx6
 obtain ⟨v13, hc14, hR12⟩ := ((H.ro 1 rfl).at hx6 hi7).slice
 obtain ⟨a10, c11, rfl⟩ := hR12.isSl
 replace H := H.add (d := Ch.ro 0 (Sl a10 x5 c11) x5) hR12 (fun _ h => h)
 clear hR12
 obtain ⟨xs15, hx16, h'⟩ := bind_some h
 clear h
 have h := h'; clear h'
 have hc19 := H.cell (u := (Sl ab_0_1 b_0.2 cb_0_1)) (o' := 1) 1 1 rfl rfl rfl
 obtain ⟨x20, hx21, h'⟩ := bind_some h
 clear h
 have h := h'; clear h'
 obtain ⟨b23, o24, hi22, -⟩ := (H.ro 3 rfl).ix hx21
 obtain ⟨v28, hc29, hR27⟩ := ((H.ro 3 rfl).at hx21 hi22).slice
 obtain ⟨a25, c26, rfl⟩ := hR27.isSl
 replace H := H.add (d := Ch.ro 0 (Sl a25 x20 c26) x20) hR27 (fun _ h => h)
 clear hR27
 have Hs := H
 refine rg2 (σ := σ2) (Nm := (Nat) × (Option Addr) × (Nat)) 14 [0, 7] [[false, false], [true, false], [true, true]] [[(0, 1)], [(0, 0), (1, 1)], [(0, 0), (1, 1)], [(0, 0), (1, 1)], [(0, 0), (1, 1)], [(0, 0), (1, 1)], [(0, 0), (1, 1)], [(1, 2)], [(0, 0), (1, 1), (2, 2)], [(0, 0), (1, 1), (2, 2)], [(0, 0), (1, 1), (2, 2)], [(0, 0), (1, 1), (2, 2)], [(0, 0), (1, 1), (2, 2)], [(0, 0), (1, 1), (2, 2)]] 2 [fun ((b3, a17, c18) : (Nat) × (Option Addr) × (Nat)) => fun σm => Hp S0 σ0 σm [Ch.ro 0 (Sl a25 x20 c26) x20, Ch.ro 0 (Sl a10 x5 c11) x5, Ch.bx n0 b1 0 [(Sl ab_0_0 b_0.1 cb_0_0), (Sl ab_0_1 b_0.2 cb_0_1)] [] [], Ch.ro 0 (Sl ab_0_0 b_0.1 cb_0_0) b_0.1, Ch.ro 0 (Sl ab_0_1 b_0.2 cb_0_1) b_0.2] ∧ Md (cov []) σ2 σm, fun ((b3, a17, c18) : (Nat) × (Option Addr) × (Nat)) => fun σm => Hp S0 σ0 σm [Ch.own n0 n0 (Sl (some ⟨b3, 0, none⟩) ([] : List Int) 0) ([] : List Int), Ch.ro 0 (Sl a25 x20 c26) x20, Ch.ro 0 (Sl a10 x5 c11) x5, Ch.bx n0 b1 0 [(Sl ab_0_0 b_0.1 cb_0_0), (Sl ab_0_1 b_0.2 cb_0_1)] [] [], Ch.ro 0 (Sl ab_0_0 b_0.1 cb_0_0) b_0.1, Ch.ro 0 (Sl ab_0_1 b_0.2 cb_0_1) b_0.2] ∧ Md (cov []) σ2 σm, fun ((b3, a17, c18) : (Nat) × (Option Addr) × (Nat)) => fun σm => Hp S0 σ0 σm [Ch.own n0 n0 (Sl a17 xs15 c18) xs15, Ch.ro 0 (Sl a25 x20 c26) x20, Ch.ro 0 (Sl a10 x5 c11) x5, Ch.bx n0 b1 0 [(Sl ab_0_0 b_0.1 cb_0_0), (Sl ab_0_1 b_0.2 cb_0_1)] [] [], Ch.ro 0 (Sl ab_0_0 b_0.1 cb_0_0) b_0.1, Ch.ro 0 (Sl ab_0_1 b_0.2 cb_0_1) b_0.2] ∧ Md (fun i => (cov []) i ∨ (fun b => blk (Sl (some ⟨b3, 0, none⟩) ([] : List Int) 0) = some b) i) σ2 σm] [fun ((b3, a17, c18) : (Nat) × (Option Addr) × (Nat)) => (Sl (some ⟨b3, 0, none⟩) ([] : List Int) 0), fun ((b3, a17, c18) : (Nat) × (Option Addr) × (Nat)) => (pt b1 0), fun ((b3, a17, c18) : (Nat) × (Option Addr) × (Nat)) => (Sl ab_0_0 b_0.1 cb_0_0), fun ((b3, a17, c18) : (Nat) × (Option Addr) × (Nat)) => (I code_1), fun ((b3, a17, c18) : (Nat) × (Option Addr) × (Nat)) => (I (w64 (code_1.tdiv 4))), fun ((b3, a17, c18) : (Nat) × (Option Addr) × (Nat)) => (pt b8 o9), fun ((b3, a17, c18) : (Nat) × (Option Addr) × (Nat)) => (Sl a10 x5 c11), fun ((b3, a17, c18) : (Nat) × (Option Addr) × (Nat)) => (Sl a17 xs15 c18), fun ((b3, a17, c18) : (Nat) × (Option Addr) × (Nat)) => (pt b1 1), fun ((b3, a17, c18) : (Nat) × (Option Addr) × (Nat)) => (Sl ab_0_1 b_0.2 cb_0_1), fun ((b3, a17, c18) : (Nat) × (Option Addr) × (Nat)) => (I code_1), fun ((b3, a17, c18) : (Nat) × (Option Addr) × (Nat)) => (I (code_1.tmod 4)), fun ((b3, a17, c18) : (Nat) × (Option Addr) × (Nat)) => (pt b23 o24), fun ((b3, a17, c18) : (Nat) × (Option Addr) × (Nat)) => (Sl a25 x20 c26)] (0, none, 0) (by kernel_rfl) (by kernel_rfl) ?_ ?_ ?_
 ·intro σm m0
  exact ⟨H.grow (m0.mono fun _ h => h.elim), m0⟩
 ·refine all_cons (by
    refine ⟨?_, ?_⟩
    ·rintro ⟨b3, a17, c18⟩ ρ σm hJ hoff hdep
     obtain ⟨H, m⟩ := id hJ
     refine dp_ex wn (ex_buildSlice (el := n0) (xs := ([] : List Int)) (ps := []) (cs := []) H hn0 Try.underlying29 ti3 rfl rfl (by kernel_rfl) (.nil) rfl) ?_
     rintro _ σq ⟨b3x, rfl, H2, m2⟩
     exact ⟨_, (b3x, a17, c18), rfl, rfl, ⟨H2.sel' [0, 1, 2, 3, 4, 5] rfl rfl, m.comp0 m2⟩, stab [1, 2, 3, 4, 5, 6, 8, 9, 10, 11, 12, 13] (by kernel_rfl) ⟨rfl, rfl, rfl, rfl, rfl, rfl, rfl, rfl, rfl, rfl, rfl, rfl, trivial⟩⟩
    trivial) ?_
  refine ac rfl (by
    intro k; rintro ⟨b3, a17, c18⟩ ρ σm hJ hoff hdep
    have e2 := look_off (N := 20) (hoff 2 rfl) rfl
    exact dp_v (v := (pt b1 0)) wn (rv_fieldAddr (off := 0) (ft := 27) Try.underlying39 rfl ti27 rfl e2) rfl hJ) ?_
  refine all_cons (by
    refine ⟨?_, ?_⟩
    ·rintro ⟨b3, a17, c18⟩ ρ σm hJ hoff hdep
     have e6 := hdep 1 rfl rfl 6 rfl
     obtain ⟨H, m⟩ := id hJ
     have hc4 := H.cell (u := (Sl ab_0_0 b_0.1 cb_0_0)) (o' := 0) 2 0 rfl rfl rfl
     exact dp_v (v := (Sl ab_0_0 b_0.1 cb_0_0)) wn (rv_load1 Try.underlying27 rfl e6 hc4) rfl hJ
    refine ⟨?_, ?_⟩
    ·rintro ⟨b3, a17, c18⟩ ρ σm hJ hoff hdep
     have e6 := hdep 1 rfl rfl 6 rfl
     obtain ⟨H, m⟩ := id hJ
     have hc4 := H.cell (u := (Sl ab_0_0 b_0.1 cb_0_0)) (o' := 0) 3 0 rfl rfl rfl
     exact dp_v (v := (Sl ab_0_0 b_0.1 cb_0_0)) wn (rv_load1 Try.underlying27 rfl e6 hc4) rfl hJ
    trivial) ?_
  refine ac rfl (by
    intro k; rintro ⟨b3, a17, c18⟩ ρ σm hJ hoff hdep
    have e1 := look_off (N := 20) (hoff 1 rfl) rfl
    exact dp_v (v := (I code_1)) wn (rv_move e1) rfl hJ) ?_
  refine ac rfl (by
    intro k; rintro ⟨b3, a17, c18⟩ ρ σm hJ hoff hdep
    have e8 := hdep 3 rfl rfl 8 rfl
    exact dp_v (v := (I (w64 (code_1.tdiv 4)))) wn (rv_quo (a := code_1) (b := 4) e8 rfl (by decide)) rfl hJ) ?_
  refine ac rfl (by
    intro k; rintro ⟨b3, a17, c18⟩ ρ σm hJ hoff hdep
    have e7 := hdep 2 rfl rfl 7 rfl
    have e9 := hdep 4 rfl rfl 9 rfl
    exact dp_v (v := (pt b8 o9)) wn (rv_ix Try.underlying27 ti29 e7 e9 hi7) rfl hJ) ?_
  refine all_cons (by
    refine ⟨?_, ?_⟩
    ·rintro ⟨b3, a17, c18⟩ ρ σm hJ hoff hdep
     have e10 := hdep 5 rfl rfl 10 rfl
     obtain ⟨H, m⟩ := id hJ
     replace hc14 := (Hs.ro 3 rfl).hmd hx6 hi7 (k := 0) (by decide) hc14 m
     exact dp_v (v := (Sl a10 x5 c11)) wn (rv_load1 Try.underlying29 rfl e10 hc14) rfl hJ
    refine ⟨?_, ?_⟩
    ·rintro ⟨b3, a17, c18⟩ ρ σm hJ hoff hdep
     have e10 := hdep 5 rfl rfl 10 rfl
     obtain ⟨H, m⟩ := id hJ
     replace hc14 := (Hs.ro 3 rfl).hmd hx6 hi7 (k := 0) (by decide) hc14 m
     exact dp_v (v := (Sl a10 x5 c11)) wn (rv_load1 Try.underlying29 rfl e10 hc14) rfl hJ
    trivial) ?_
  refine all_cons (by
    refine ⟨?_, ?_⟩
    ·rintro ⟨b3, a17, c18⟩ ρ σm hJ hoff hdep
     have e5 := hdep 0 rfl rfl 5 rfl
     have e11 := hdep 6 rfl rfl 11 rfl
     obtain ⟨H, m⟩ := id hJ
     refine dp_ex wn (ex_append H (i := 0) rfl Try.underlying29 Try.underlying29 ti3 rfl rfl (by decide) ((H.ro 2 rfl).rd.sc) hx16 hn0 e5 e11) ?_
     rintro _ σq ⟨a17x, c18x, rfl, H2, m2⟩
     exact ⟨_, (b3, a17x, c18x), rfl, rfl, ⟨H2.sel' [0, 1, 2, 3, 4, 5] rfl rfl, m.comp m2⟩, stab [0, 1, 2, 3, 4, 5, 6, 8, 9, 10, 11, 12, 13] (by kernel_rfl) ⟨rfl, rfl, rfl, rfl, rfl, rfl, rfl, rfl, rfl, rfl, rfl, rfl, rfl, trivial⟩⟩
    trivial) ?_
  refine ac rfl (by
    intro k; rintro ⟨b3, a17, c18⟩ ρ σm hJ hoff hdep
    have e2 := look_off (N := 20) (hoff 2 rfl) rfl
    exact dp_v (v := (pt b1 1)) wn (rv_fieldAddr (off := 1) (ft := 27) Try.underlying39 rfl ti27 rfl e2) rfl hJ) ?_
  refine all_cons (by
    refine ⟨?_, ?_⟩
    ·rintro ⟨b3, a17, c18⟩ ρ σm hJ hoff hdep
     have e13 := hdep 8 rfl rfl 13 rfl
     obtain ⟨H, m⟩ := id hJ
     have hc19 := H.cell (u := (Sl ab_0_1 b_0.2 cb_0_1)) (o' := 1) 2 1 rfl rfl rfl
     exact dp_v (v := (Sl ab_0_1 b_0.2 cb_0_1)) wn (rv_load1 Try.underlying27 rfl e13 hc19) rfl hJ
    refine ⟨?_, ?_⟩
    ·rintro ⟨b3, a17, c18⟩ ρ σm hJ hoff hdep
     have e13 := hdep 8 rfl rfl 13 rfl
     obtain ⟨H, m⟩ := id hJ
     have hc19 := H.cell (u := (Sl ab_0_1 b_0.2 cb_0_1)) (o' := 1) 3 1 rfl rfl rfl
     exact dp_v (v := (Sl ab_0_1 b_0.2 cb_0_1)) wn (rv_load1 Try.underlying27 rfl e13 hc19) rfl hJ
    refine ⟨?_, ?_⟩
    ·rintro ⟨b3, a17, c18⟩ ρ σm hJ hoff hdep
     have e13 := hdep 8 rfl rfl 13 rfl
     obtain ⟨H, m⟩ := id hJ
     have hc19 := H.cell (u := (Sl ab_0_1 b_0.2 cb_0_1)) (o' := 1) 3 1 rfl rfl rfl
     exact dp_v (v := (Sl ab_0_1 b_0.2 cb_0_1)) wn (rv_load1 Try.underlying27 rfl e13 hc19) rfl hJ
    trivial) ?_
  refine ac rfl (by
    intro k; rintro ⟨b3, a17, c18⟩ ρ σm hJ hoff hdep
    have e1 := look_off (N := 20) (hoff 1 rfl) rfl
    exact dp_v (v := (I code_1)) wn (rv_move e1) rfl hJ) ?_
  refine ac rfl (by
    intro k; rintro ⟨b3, a17, c18⟩ ρ σm hJ hoff hdep
    have e15 := hdep 10 rfl rfl 15 rfl
    exact dp_v (v := (I (code_1.tmod 4))) wn (rv_rem (a := code_1) (b := 4) e15 rfl (by decide)) rfl hJ) ?_
  refine ac rfl (by
    intro k; rintro ⟨b3, a17, c18⟩ ρ σm hJ hoff hdep
    have e14 := hdep 9 rfl rfl 14 rfl
    have e16 := hdep 11 rfl rfl 16 rfl
    exact dp_v (v := (pt b23 o24)) wn (rv_ix Try.underlying27 ti29 e14 e16 hi22) rfl hJ) ?_
  refine all_cons (by
    refine ⟨?_, ?_⟩
    ·rintro ⟨b3, a17, c18⟩ ρ σm hJ hoff hdep
     have e17 := hdep 12 rfl rfl 17 rfl
     obtain ⟨H, m⟩ := id hJ
     replace hc29 := (Hs.ro 4 rfl).hmd hx21 hi22 (k := 0) (by decide) hc29 m
     exact dp_v (v := (Sl a25 x20 c26)) wn (rv_load1 Try.underlying29 rfl e17 hc29) rfl hJ
    refine ⟨?_, ?_⟩
    ·rintro ⟨b3, a17, c18⟩ ρ σm hJ hoff hdep
     have e17 := hdep 12 rfl rfl 17 rfl
     obtain ⟨H, m⟩ := id hJ
     replace hc29 := (Hs.ro 4 rfl).hmd hx21 hi22 (k := 0) (by decide) hc29 m
     exact dp_v (v := (Sl a25 x20 c26)) wn (rv_load1 Try.underlying29 rfl e17 hc29) rfl hJ
    refine ⟨?_, ?_⟩
    ·rintro ⟨b3, a17, c18⟩ ρ σm hJ hoff hdep
     have e17 := hdep 12 rfl rfl 17 rfl
     obtain ⟨H, m⟩ := id hJ
     replace hc29 := (Hs.ro 4 rfl).hmd hx21 hi22 (k := 0) (by decide) hc29 m
     exact dp_v (v := (Sl a25 x20 c26)) wn (rv_load1 Try.underlying29 rfl e17 hc29) rfl hJ
    trivial) ?_
  exact all_nil
 ·rintro ⟨b3, a17, c18⟩ ρ σ30 hJ hoff hrel
  have e12 := hrel 7 rfl 12 rfl
  have e18 := hrel 13 rfl 18 rfl
  obtain ⟨H, -⟩ := (show Hp S0 σ0 σ30 [Ch.own n0 n0 (Sl a17 xs15 c18) xs15, Ch.ro 0 (Sl a25 x20 c26) x20, Ch.ro 0 (Sl a10 x5 c11) x5, Ch.bx n0 b1 0 [(Sl ab_0_0 b_0.1 cb_0_0), (Sl ab_0_1 b_0.2 cb_0_1)] [] [], Ch.ro 0 (Sl ab_0_0 b_0.1 cb_0_0) b_0.1, Ch.ro 0 (Sl ab_0_1 b_0.2 cb_0_1) b_0.2] ∧ Md (fun i => (cov []) i ∨ (fun b => blk (Sl (some ⟨b3, 0, none⟩) ([] : List Int) 0) = some b) i) σ2 σ30 from hJ)
  clear hJ Hs
  rw [fr_lookL (L := [(12, (Sl a17 xs15 c18)), (18, (Sl a25 x20 c26))]) ⟨e12, e18, trivial⟩]
  clear hoff hrel e12 e18
  obtain ⟨xs31, hx32, h'⟩ := bind_some h
  clear h
  have h := h'; clear h'
  refine st_ex (ex_append H (i := 0) rfl Try.underlying29 Try.underlying29 ti3 rfl rfl (by decide) ((H.ro 1 rfl).rd.sc) hx32 hn0 rfl rfl) wn ?_
  rintro _ σ35 ⟨a33, c34, rfl, H, -⟩
  refine st (v := (Sl a33 xs31 c34)) (rv_assign rfl) ?_
  refine w_end ?_
  refine q_then ?_
  refine c_ret ?_
  obtain rfl := Option.some.inj h
  exact fin_ret (v := (Sl a33 xs31 c34)) (results_ok Try.results67 (res_tmp (v := (Sl a33 xs31 c34)) rfl res_nil) rfl) ⟨a33, c34, rfl, rfl⟩ (H.sel' [0] rfl rfl)

theorem c_spec_DecodeVector {b_0 : (List (List Int)) × (List (List Int))} {code_1 : Int} {ab_0_0 : Option Addr} {cb_0_0 : Nat} {ab_0_1 : Option Addr} {cb_0_1 : Nat} {r : (List Int)} (h : M.spec_DecodeVector b_0 code_1 = some r) :
    Cal2 Try.prog 28 [(.agg #[(Sl ab_0_0 b_0.1 cb_0_0), (Sl ab_0_1 b_0.2 cb_0_1)]), (I code_1)] [Ch.ro 0 (Sl ab_0_0 b_0.1 cb_0_0) b_0.1, Ch.ro 0 (Sl ab_0_1 b_0.2 cb_0_1) b_0.2] (fun n0 v L => ∃ (az1 : Option Addr), ∃ (cz2 : Nat), v = (Sl az1 r cz2) ∧ L = [Ch.own n0 n0 (Sl az1 r cz2) r]) := by
 refine cal2 (n := 16) Try.func28 rfl rfl rfl rfl ?_
 intro S0 σ0 n0 hn0 H
 unfold M.spec_DecodeVector at h
 refine c_seq ?_
 refine rg ?_
 refine st_ex (ex_box (cs := [(Sl ab_0_0 b_0.1 cb_0_0), (Sl ab_0_1 b_0.2 cb_0_1)]) H hn0 rfl rfl) wn ?_
 rintro _ σ2 ⟨b1, rfl, H, -⟩
 refine st (v := (.slice none 0 0)) (rv_assign rfl) ?_
 refine w_end ?_
 refine q_then ?_
 refine c_seq ?_
 refine c_seq ?_
 obtain ⟨o3, hj, h'⟩ := bind_some h
 clear h
 refine c_cut (fun e a w => e = .normal ∧ ∃ (ρ : Nat → Value) (σ : St), a = fr 16 (updL ρ [(1, (I code_1)), (2, (pt b1 0)), (12, (B o3))]) ∧ w = σ.w ∧ Hp S0 σ0 σ [Ch.ro 0 (Sl ab_0_0 b_0.1 cb_0_0) b_0.1, Ch.ro 0 (Sl ab_0_1 b_0.2 cb_0_1) b_0.2, Ch.bx n0 b1 0 [(Sl ab_0_0 b_0.1 cb_0_0), (Sl ab_0_1 b_0.2 cb_0_1)] [] []]) ?_ ?_
 ·clear h'
  rename _ = some o3 => h
  refine rg ?_
  have hc4 := H.cells 0 rfl
  refine st (v := (.agg #[(Sl ab_0_0 b_0.1 cb_0_0), (Sl ab_0_1 b_0.2 cb_0_1)])) (rv_load (cs := [(Sl ab_0_0 b_0.1 cb_0_0), (Sl ab_0_1 b_0.2 cb_0_1)]) Try.underlying39 rfl ti39 rfl rfl hc4) ?_
  obtain ⟨r5, hx6, h'⟩ := bind_some h
  clear h
  have h := h'; clear h'
  have hc7 := c_spec_validBook (ab_0_0 := ab_0_0) (cb_0_0 := cb_0_0) (ab_0_1 := ab_0_1) (cb_0_1 := cb_0_1) hx6
  refine st_call (cx_call hc7 (ent_f hc7.fn rfl) hn0 (show Hp S0 σ0 _ ([Ch.ro 0 (Sl ab_0_0 b_0.1 cb_0_0) b_0.1, Ch.ro 0 (Sl ab_0_1 b_0.2 cb_0_1) b_0.2] ++ [Ch.bx n0 b1 0 [(Sl ab_0_0 b_0.1 cb_0_0), (Sl ab_0_1 b_0.2 cb_0_1)] [] [], Ch.ro 0 (Sl ab_0_0 b_0.1 cb_0_0) b_0.1, Ch.ro 0 (Sl ab_0_1 b_0.2 cb_0_1) b_0.2]) from (H.sel' [1, 2, 0, 1, 2] rfl rfl))) wn ?_
  rintro _ σ8 ⟨_, ⟨rfl, rfl⟩, H, -⟩
  replace H : Hp S0 σ0 σ8 [Ch.bx n0 b1 0 [(Sl ab_0_0 b_0.1 cb_0_0), (Sl ab_0_1 b_0.2 cb_0_1)] [] [], Ch.ro 0 (Sl ab_0_0 b_0.1 cb_0_0) b_0.1, Ch.ro 0 (Sl ab_0_1 b_0.2 cb_0_1) b_0.2] := H
  refine st (v := (B (!r5))) (rv_not rfl) ?_
  refine st (v := (B (!r5))) (rv_move rfl) ?_
  rcases Bool.eq_false_or_eq_true (!r5) with hb9 | hb9
  ·replace h := bif_t hb9 h
   refine st_skip (congrArg some hb9) ?_
   refine st_skip (congrArg some hb9) ?_
   refine st_skip (congrArg some hb9) ?_
   refine st (v := (B true)) (rv_pick_t (congrArg B hb9) rfl) ?_
   refine w_end ?_
   obtain rfl := Option.some.inj h
   exact ⟨rfl, _, σ8, fr_join ⟨rfl, rfl, rfl, trivial⟩, rfl, H.sel' [1, 2, 0] rfl rfl⟩
  ·replace h := bif_f hb9 h
   refine st_g (v := (I code_1)) (congrArg some hb9) (rv_move rfl) ?_
   obtain ⟨r10, hx11, h'⟩ := bind_some h
   clear h
   have h := h'; clear h'
   have hc12 := c_spec_inRange hx11
   refine st_call (cx_call hc12 (ent_f hc12.fn rfl) hn0 (show Hp S0 σ0 _ ([] ++ [Ch.bx n0 b1 0 [(Sl ab_0_0 b_0.1 cb_0_0), (Sl ab_0_1 b_0.2 cb_0_1)] [] [], Ch.ro 0 (Sl ab_0_0 b_0.1 cb_0_0) b_0.1, Ch.ro 0 (Sl ab_0_1 b_0.2 cb_0_1) b_0.2]) from (H.sel' [0, 1, 2] rfl rfl))) (wanted_yes rfl (by exact (congrArg some hb9))) ?_
   rintro _ σ13 ⟨_, ⟨rfl, rfl⟩, H, -⟩
   replace H : Hp S0 σ0 σ13 [Ch.bx n0 b1 0 [(Sl ab_0_0 b_0.1 cb_0_0), (Sl ab_0_1 b_0.2 cb_0_1)] [] [], Ch.ro 0 (Sl ab_0_0 b_0.1 cb_0_0) b_0.1, Ch.ro 0 (Sl ab_0_1 b_0.2 cb_0_1) b_0.2] := H
   refine st_g (v := (B (!r10))) (congrArg some hb9) (rv_not rfl) ?_
   refine st (v := (B (!r10))) (rv_pick_f (congrArg B hb9) rfl) ?_
   refine w_end ?_
   obtain rfl := Option.some.inj h
   exact ⟨rfl, _, σ13, fr_join ⟨rfl, rfl, rfl, trivial⟩, rfl, H.sel' [1, 2, 0] rfl rfl⟩
 ·clear hj
  have h := h'
  clear h' H
  rintro e a w ⟨rfl, ρ, σ14, rfl, rfl, H⟩
  refine q_then ?_
  refine cd_cond o3 rfl (fun hb15 => ?_) (fun hb15 => ?_)
  ·replace h := bif_t hb15 h
   refine c_seq ?_
   refine rg ?_
   refine st (v := (.slice none 0 0)) (rv_assign rfl) ?_
   refine w_end ?_
   refine q_then ?_
   refine c_ret ?_
   refine q_then_r ?_
   replace H := H.nilOwn Int n0 n0
   obtain rfl := Option.some.inj h
   exact fin_ret (v := (.slice none 0 0)) (results_ok Try.results28 (res_tmp (v := (.slice none 0 0)) rfl res_nil) rfl) ⟨none, 0, rfl, rfl⟩ (H.sel' [0] rfl rfl)
  ·replace h := bif_f hb15 h
   refine c_skip ?_
   refine q_then ?_
   refine c_seq ?_
   refine rg ?_
   have hc16 := H.cells 2 rfl
   refine st (v := (.agg #[(Sl ab_0_0 b_0.1 cb_0_0), (Sl ab_0_1 b_0.2 cb_0_1)])) (rv_load (cs := [(Sl ab_0_0 b_0.1 cb_0_0), (Sl ab_0_1 b_0.2 cb_0_1)]) Try.underlying39 rfl ti39 rfl rfl hc16) ?_
   refine st (v := (I code_1)) (rv_move rfl) ?_
   obtain ⟨r17, hx18, h'⟩ := bind_some h
   clear h
   have h := h'; clear h'
   have hc19 := c_spec_decode (ab_0_0 := ab_0_0) (cb_0_0 := cb_0_0) (ab_0_1 := ab_0_1) (cb_0_1 := cb_0_1) hx18
   refine st_call (cx_call hc19 (ent_f hc19.fn rfl) hn0 (show Hp S0 σ0 _ ([Ch.ro 0 (Sl ab_0_0 b_0.1 cb_0_0) b_0.1, Ch.ro 0 (Sl ab_0_1 b_0.2 cb_0_1) b_0.2] ++ [Ch.ro 0 (Sl ab_0_0 b_0.1 cb_0_0) b_0.1, Ch.ro 0 (Sl ab_0_1 b_0.2 cb_0_1) b_0.2, Ch.bx n0 b1 0 [(Sl ab_0_0 b_0.1 cb_0_0), (Sl ab_0_1 b_0.2 cb_0_1)] [] []]) from (H.sel' [0, 1, 0, 1, 2] rfl rfl))) wn ?_
   rintro _ σ22 ⟨_, ⟨a20, c21, rfl, rfl⟩, H, -⟩
   replace H : Hp S0 σ0 σ22 [Ch.own n0 n0 (Sl a20 r17 c21) r17, Ch.ro 0 (Sl ab_0_0 b_0.1 cb_0_0) b_0.1, Ch.ro 0 (Sl ab_0_1 b_0.2 cb_0_1) b_0.2, Ch.bx n0 b1 0 [(Sl ab_0_0 b_0.1 cb_0_0), (Sl ab_0_1 b_0.2 cb_0_1)] [] []] := H
   refine st (v := (Sl a20 r17 c21)) (rv_assign rfl) ?_
   refine w_end ?_
   refine q_then ?_
   refine c_ret ?_
   obtain rfl := Option.some.inj h
   exact fin_ret (v := (Sl a20 r17 c21)) (results_ok Try.results28 (res_tmp (v := (Sl a20 r17 c21)) rfl res_nil) rfl) ⟨a20, c21, rfl, rfl⟩ (H.sel' [0] rfl rfl)

theorem c_laws_FnDecodeVectorAll {code_0 : List UInt8} {acode_0 : Option Addr} {ccode_0 : Nat} {r : Bool} (h : M.laws_FnDecodeVectorAll code_0 = some r) :
    Cal2 Try.prog 7 [(Sl acode_0 code_0 ccode_0)] [Ch.ro 0 (Sl acode_0 code_0 ccode_0) code_0] (fun n0 v L => v = (B r) ∧ L = []) := by
 refine cal2 (n := 75) Try.func7 rfl rfl rfl rfl ?_
 intro S0 σ0 n0 hn0 H
 unfold M.laws_FnDecodeVectorAll at h
 refine c_seq ?_
 refine rg ?_
 refine st (v := (B false)) (rv_assign rfl) ?_
 refine w_end ?_
 refine q_then ?_
 refine c_seq ?_
 refine c_seq ?_
 refine rg ?_
 refine st (v := (Sl acode_0 code_0 ccode_0)) (rv_move rfl) ?_
 refine st (v := (I (code_0.length : Int))) (rv_len Try.underlying22 rfl) ?_
 refine st (v := (B (decide (1048576 < (code_0.length : Int))))) (rv_gtr (a := (code_0.length : Int)) (b := 1048576) rfl rfl) ?_
 refine w_end ?_
 refine q_then ?_
 refine cd_cond (decide (1048576 < (code_0.length : Int))) rfl (fun hb1 => ?_) (fun hb1 => ?_)
 ·replace h := bif_t hb1 h
  refine c_seq ?_
  refine rg ?_
  refine st (v := (B true)) (rv_assign rfl) ?_
  refine w_end ?_
  refine q_then ?_
  refine c_ret ?_
  refine q_then_r ?_
  obtain rfl := Option.some.inj h
  exact fin_ret (v := (B true)) (results_ok Try.results7 (res_tmp (v := (B true)) rfl res_nil) rfl) ⟨rfl, rfl⟩ (H.sel' [] rfl rfl)
 ·replace h := bif_f hb1 h
  refine c_skip ?_
  refine q_then ?_
  refine c_seq ?_
  refine rg ?_
  refine st (v := (Sl acode_0 code_0 ccode_0)) (rv_move rfl) ?_
  obtain ⟨r2, hx3, h'⟩ := bind_some h
  clear h
  have h := h'; clear h'
  have hc4 := c_spec_DrawDecodeVector (acode_0 := acode_0) (ccode_0 := ccode_0) hx3
  refine st_call (cx_call hc4 (ent_f hc4.fn rfl) hn0 (show Hp S0 σ0 _ ([Ch.ro 0 (Sl acode_0 code_0 ccode_0) code_0] ++ [Ch.ro 0 (Sl acode_0 code_0 ccode_0) code_0]) from (H.sel' [0, 0] rfl rfl))) wn ?_
  rintro _ σ9 ⟨_, ⟨a5, c6, a7, c8, rfl, rfl⟩, H, -⟩
  replace H : Hp S0 σ0 σ9 [Ch.own n0 n0 (Sl a5 r2.1.1 c6) r2.1.1, Ch.own n0 n0 (Sl a7 r2.1.2 c8) r2.1.2, Ch.ro 0 (Sl acode_0 code_0 ccode_0) code_0] := H
  refine st (v := (.tuple #[(.agg #[(Sl a5 r2.1.1 c6), (Sl a7 r2.1.2 c8)]), (I r2.2)])) (rv_move rfl) ?_
  refine st (v := (.agg #[(Sl a5 r2.1.1 c6), (Sl a7 r2.1.2 c8)])) (rv_extract rfl rfl) ?_
  refine st (v := (I r2.2)) (rv_extract rfl rfl) ?_
  refine st_ex (ex_alloc (cs := [(.slice none 0 0), (.slice none 0 0)]) H hn0 ti39 rfl) wn ?_
  rintro _ σ11 ⟨b10, rfl, H, -⟩
  refine st_exS (ex_store_box (k := 0) (cs := [(.slice none 0 0), (.slice none 0 0)]) (vs := [(Sl a5 r2.1.1 c6), (Sl a7 r2.1.2 c8)]) (cs' := [(Sl a5 r2.1.1 c6), (Sl a7 r2.1.2 c8)]) H (i := 0) rfl ti39 rfl rfl rfl rfl rfl (Nat.le_of_ble_eq_true rfl) (by simp [plain]) rfl) wn ?_
  rintro σ12 ⟨H, -⟩
  refine st (v := (I r2.2)) (rv_assign rfl) ?_
  refine w_end ?_
  refine q_then ?_
  refine c_seq ?_
  refine rg ?_
  have hc13 := H.cells 0 rfl
  refine st (v := (.agg #[(Sl a5 r2.1.1 c6), (Sl a7 r2.1.2 c8)])) (rv_load (cs := [(Sl a5 r2.1.1 c6), (Sl a7 r2.1.2 c8)]) Try.underlying39 rfl ti39 rfl rfl hc13) ?_
  refine st (v := (I r2.2)) (rv_move rfl) ?_
  obtain ⟨r14, hx15, h'⟩ := bind_some h
  clear h
  have h := h'; clear h'
  have hc16 := c_impl_DecodeVector (ab_0_0 := a5) (cb_0_0 := c6) (ab_0_1 := a7) (cb_0_1 := c8) hx15
  have hle := Nat.le_trans hn0 H.size
  refine st_call (cx_lend (Loan.lend (Loan.lend Loan.nil)) hc16 (ent_f hc16.fn rfl) (show Hp S0 σ0 _ ([Ch.own n0 n0 (Sl a5 r2.1.1 c6) r2.1.1, Ch.own n0 n0 (Sl a7 r2.1.2 c8) r2.1.2] ++ ([] ++ [Ch.bx n0 b10 0 [(Sl a5 r2.1.1 c6), (Sl a7 r2.1.2 c8)] [] [], Ch.ro 0 (Sl acode_0 code_0 ccode_0) code_0])) from (H.sel' [1, 2, 0, 3] rfl rfl)) (by rintro _ _ _ ⟨_, _, rfl, rfl⟩; exact ⟨Ab.ownSc, trivial⟩)) wn ?_
  rintro _ σ19 ⟨_, ⟨a17, c18, rfl, rfl⟩, H, -, -⟩
  replace H : Hp S0 σ0 σ19 [Ch.own 0 σ12.size (Sl a17 r14 c18) r14, Ch.own n0 n0 (Sl a5 r2.1.1 c6) r2.1.1, Ch.own n0 n0 (Sl a7 r2.1.2 c8) r2.1.2, Ch.bx n0 b10 0 [(Sl a5 r2.1.1 c6), (Sl a7 r2.1.2 c8)] [] [], Ch.ro 0 (Sl acode_0 code_0 ccode_0) code_0] := H
  replace H := H.ownLow 0 0 n0 rfl (Nat.le_refl _) hle
  clear hle
  replace H : Hp S0 σ0 σ19 [Ch.own 0 n0 (Sl a17 r14 c18) r14, Ch.own n0 n0 (Sl a5 r2.1.1 c6) r2.1.1, Ch.own n0 n0 (Sl a7 r2.1.2 c8) r2.1.2, Ch.bx n0 b10 0 [(Sl a5 r2.1.1 c6), (Sl a7 r2.1.2 c8)] [] [], Ch.ro 0 (Sl acode_0 code_0 ccode_0) code_0] := H
  refine st (v := (Sl a17 r14 c18)) (rv_assign rfl) ?_
  refine w_end ?_
  refine q_then ?_
  refine c_seq ?_
  refine c_seq ?_
  obtain ⟨o20, hj, h'⟩ := bind_some h
  clear h
  refine c_cut (fun e a w => e = .normal ∧ ∃ (ρ : Nat → Value) (σ : St), a = fr 75 (updL ρ [(3, (pt b10 0)), (4, (I r2.2)), (5, (Sl a17 r14 c18)), (30, (B o20))]) ∧ w = σ.w ∧ Hp S0 σ0 σ [Ch.own n0 n0 (Sl a5 r2.1.1 c6) r2.1.1, Ch.own n0 n0 (Sl a7 r2.1.2 c8) r2.1.2, Ch.bx n0 b10 0 [(Sl a5 r2.1.1 c6), (Sl a7 r2.1.2 c8)] [] [], Ch.own 0 n0 (Sl a17 r14 c18) r14]) ?_ ?_
  ·clear h'
   rename _ = some o20 => h
   refine rg ?_
   refine st (v := (Sl a17 r14 c18)) (rv_move rfl) ?_
   have hc21 := H.cells 3 rfl
   refine st (v := (.agg #[(Sl a5 r2.1.1 c6), (Sl a7 r2.1.2 c8)])) (rv_load (cs := [(Sl a5 r2.1.1 c6), (Sl a7 r2.1.2 c8)]) Try.underlying39 rfl ti39 rfl rfl hc21) ?_
   refine st (v := (I r2.2)) (rv_move rfl) ?_
   obtain ⟨r22, hx23, h'⟩ := bind_some h
   clear h
   have h := h'; clear h'
   have hc24 := c_spec_DecodeVector (ab_0_0 := a5) (cb_0_0 := c6) (ab_0_1 := a7) (cb_0_1 := c8) hx23
   have hle := Nat.le_trans hn0 H.size
   refine st_call (cx_lend (Loan.lend (Loan.lend Loan.nil)) hc24 (ent_f hc24.fn rfl) (show Hp S0 σ0 _ ([Ch.own n0 n0 (Sl a5 r2.1.1 c6) r2.1.1, Ch.own n0 n0 (Sl a7 r2.1.2 c8) r2.1.2] ++ ([] ++ [Ch.own 0 n0 (Sl a17 r14 c18) r14, Ch.bx n0 b10 0 [(Sl a5 r2.1.1 c6), (Sl a7 r2.1.2 c8)] [] [], Ch.ro 0 (Sl acode_0 code_0 ccode_0) code_0])) from (H.sel' [1, 2, 0, 3, 4] rfl rfl)) (by rintro _ _ _ ⟨_, _, rfl, rfl⟩; exact ⟨Ab.ownSc, trivial⟩)) wn ?_
   rintro _ σ27 ⟨_, ⟨a25, c26, rfl, rfl⟩, H, -, -⟩
   replace H : Hp S0 σ0 σ27 [Ch.own σ19.size σ19.size (Sl a25 r22 c26) r22, Ch.own n0 n0 (Sl a5 r2.1.1 c6) r2.1.1, Ch.own n0 n0 (Sl a7 r2.1.2 c8) r2.1.2, Ch.own 0 n0 (Sl a17 r14 c18) r14, Ch.bx n0 b10 0 [(Sl a5 r2.1.1 c6), (Sl a7 r2.1.2 c8)] [] [], Ch.ro 0 (Sl acode_0 code_0 ccode_0) code_0] := H
   replace H := H.ownLow 0 n0 n0 rfl hle hle
   clear hle
   replace H : Hp S0 σ0 σ27 [Ch.own n0 n0 (Sl a25 r22 c26) r22, Ch.own n0 n0 (Sl a5 r2.1.1 c6) r2.1.1, Ch.own n0 n0 (Sl a7 r2.1.2 c8) r2.1.2, Ch.own 0 n0 (Sl a17 r14 c18) r14, Ch.bx n0 b10 0 [(Sl a5 r2.1.1 c6), (Sl a7 r2.1.2 c8)] [] [], Ch.ro 0 (Sl acode_0 code_0 ccode_0) code_0] := H
   obtain ⟨σ28, hw29, H, -⟩ := H.pub 0 rfl (Nat.le_refl _)
   rw [← hw29]; clear hw29
   replace H := H.roLow 0 0 rfl (Nat.zero_le _)
   obtain ⟨r30, hx31, h'⟩ := bind_some h
   clear h
   have h := h'; clear h'
   have hc32 := c_laws_equalInts (aa_0 := a17) (ca_0 := c18) (ab_1 := a25) (cb_1 := c26) hx31
   have hle := Nat.le_trans hn0 H.size
   refine st_call (cx_lend (Loan.lend (Loan.same Loan.nil)) hc32 (ent_f hc32.fn rfl) (show Hp S0 σ0 _ ([Ch.own 0 n0 (Sl a17 r14 c18) r14] ++ ([Ch.ro 0 (Sl a25 r22 c26) r22] ++ [Ch.ro 0 (Sl a25 r22 c26) r22, Ch.ro n0 (Sl a25 r22 c26) r22, Ch.own n0 n0 (Sl a5 r2.1.1 c6) r2.1.1, Ch.own n0 n0 (Sl a7 r2.1.2 c8) r2.1.2, Ch.bx n0 b10 0 [(Sl a5 r2.1.1 c6), (Sl a7 r2.1.2 c8)] [] [], Ch.ro 0 (Sl acode_0 code_0 ccode_0) code_0])) from (H.sel' [4, 0, 0, 1, 2, 3, 5, 6] rfl rfl)) (by rintro _ _ _ ⟨rfl, rfl⟩; exact trivial)) wn ?_
   rintro _ σ33 ⟨_, ⟨rfl, rfl⟩, H, -, -⟩
   replace H : Hp S0 σ0 σ33 [Ch.own 0 n0 (Sl a17 r14 c18) r14, Ch.ro 0 (Sl a25 r22 c26) r22, Ch.ro n0 (Sl a25 r22 c26) r22, Ch.own n0 n0 (Sl a5 r2.1.1 c6) r2.1.1, Ch.own n0 n0 (Sl a7 r2.1.2 c8) r2.1.2, Ch.bx n0 b10 0 [(Sl a5 r2.1.1 c6), (Sl a7 r2.1.2 c8)] [] [], Ch.ro 0 (Sl acode_0 code_0 ccode_0) code_0] := H
   clear hle
   replace H : Hp S0 σ0 σ33 [Ch.own 0 n0 (Sl a17 r14 c18) r14, Ch.ro 0 (Sl a25 r22 c26) r22, Ch.ro n0 (Sl a25 r22 c26) r22, Ch.own n0 n0 (Sl a5 r2.1.1 c6) r2.1.1, Ch.own n0 n0 (Sl a7 r2.1.2 c8) r2.1.2, Ch.bx n0 b10 0 [(Sl a5 r2.1.1 c6), (Sl a7 r2.1.2 c8)] [] [], Ch.ro 0 (Sl acode_0 code_0 ccode_0) code_0] := H
   refine st (v := (B (!r30))) (rv_not rfl) ?_
   refine st (v := (B (!r30))) (rv_move rfl) ?_
   rcases Bool.eq_false_or_eq_true (!r30) with hb34 | hb34
   ·replace h := bif_t hb34 h
    refine st_skip (congrArg some hb34) ?_
    refine st_skip (congrArg some hb34) ?_
    refine st_skip (congrArg some hb34) ?_
    refine st (v := (B true)) (rv_pick_t (congrArg B hb34) rfl) ?_
    refine w_end ?_
    obtain rfl := Option.some.inj h
    exact ⟨rfl, _, σ33, fr_join ⟨rfl, rfl, rfl, rfl, trivial⟩, rfl, H.sel' [3, 4, 5, 0] rfl rfl⟩
   ·replace h := bif_f hb34 h
    refine st_g (v := (Sl a17 r14 c18)) (congrArg some hb34) (rv_move rfl) ?_
    refine st_g (v := (I (r14.length : Int))) (congrArg some hb34) (rv_len Try.underlying29 rfl) ?_
    refine st_g (v := (B ((r14.length : Int) == 0))) (congrArg some hb34) (rv_eql (a := (r14.length : Int)) (b := 0) rfl rfl) ?_
    refine st (v := (B ((r14.length : Int) == 0))) (rv_pick_f (congrArg B hb34) rfl) ?_
    refine w_end ?_
    obtain rfl := Option.some.inj h
    exact ⟨rfl, _, σ33, fr_join ⟨rfl, rfl, rfl, rfl, trivial⟩, rfl, H.sel' [3, 4, 5, 0] rfl rfl⟩
  ·clear hj
   have h := h'
   clear h' H
   rintro e a w ⟨rfl, ρ, σ35, rfl, rfl, H⟩
   refine q_then ?_
   refine cd_cond o20 rfl (fun hb36 => ?_) (fun hb36 => ?_)
   ·replace h := bif_t hb36 h
    refine c_seq ?_
    refine rg ?_
    refine st (v := (Sl a17 r14 c18)) (rv_move rfl) ?_
    have hc37 := H.cells 2 rfl
    refine st (v := (.agg #[(Sl a5 r2.1.1 c6), (Sl a7 r2.1.2 c8)])) (rv_load (cs := [(Sl a5 r2.1.1 c6), (Sl a7 r2.1.2 c8)]) Try.underlying39 rfl ti39 rfl rfl hc37) ?_
    refine st (v := (I r2.2)) (rv_move rfl) ?_
    obtain ⟨σ38, hw39, H, -⟩ := H.pub 0 rfl (Nat.le_refl _)
    rw [← hw39]; clear hw39
    obtain ⟨σ40, hw41, H, -⟩ := H.pub 1 rfl (Nat.le_refl _)
    rw [← hw41]; clear hw41
    replace H := H.roLow 1 0 rfl (Nat.zero_le _)
    replace H := H.roLow 1 0 rfl (Nat.zero_le _)
    obtain ⟨r42, hx43, h'⟩ := bind_some h
    clear h
    have h := h'; clear h'
    have hc44 := c_spec_DecodeVector (ab_0_0 := a5) (cb_0_0 := c6) (ab_0_1 := a7) (cb_0_1 := c8) hx43
    refine st_call (cx_call hc44 (ent_f hc44.fn rfl) hn0 (show Hp S0 σ0 _ ([Ch.ro 0 (Sl a5 r2.1.1 c6) r2.1.1, Ch.ro 0 (Sl a7 r2.1.2 c8) r2.1.2] ++ [Ch.ro 0 (Sl a7 r2.1.2 c8) r2.1.2, Ch.ro 0 (Sl a5 r2.1.1 c6) r2.1.1, Ch.ro n0 (Sl a7 r2.1.2 c8) r2.1.2, Ch.ro n0 (Sl a5 r2.1.1 c6) r2.1.1, Ch.bx n0 b10 0 [(Sl a5 r2.1.1 c6), (Sl a7 r2.1.2 c8)] [] [], Ch.own 0 n0 (Sl a17 r14 c18) r14]) from (H.sel' [1, 0, 0, 1, 2, 3, 4, 5] rfl rfl))) wn ?_
    rintro _ σ47 ⟨_, ⟨a45, c46, rfl, rfl⟩, H, -⟩
    replace H : Hp S0 σ0 σ47 [Ch.own n0 n0 (Sl a45 r42 c46) r42, Ch.ro 0 (Sl a7 r2.1.2 c8) r2.1.2, Ch.ro 0 (Sl a5 r2.1.1 c6) r2.1.1, Ch.ro n0 (Sl a7 r2.1.2 c8) r2.1.2, Ch.ro n0 (Sl a5 r2.1.1 c6) r2.1.1, Ch.bx n0 b10 0 [(Sl a5 r2.1.1 c6), (Sl a7 r2.1.2 c8)] [] [], Ch.own 0 n0 (Sl a17 r14 c18) r14] := H
    replace H := H.ownLow 6 0 0 rfl (Nat.le_refl _) (Nat.zero_le _)
    obtain ⟨σ48, hw49, H, -⟩ := H.pub 0 rfl (Nat.le_refl _)
    rw [← hw49]; clear hw49
    obtain ⟨σ50, hw51, H, -⟩ := H.pub 1 rfl (Nat.le_refl _)
    rw [← hw51]; clear hw51
    replace H := H.roLow 0 0 rfl (Nat.zero_le _)
    obtain ⟨r52, hx53, h'⟩ := bind_some h
    clear h
    have h := h'; clear h'
    have hc54 := c_laws_equalInts (aa_0 := a17) (ca_0 := c18) (ab_1 := a45) (cb_1 := c46) hx53
    refine st_call (cx_call hc54 (ent_f hc54.fn rfl) hn0 (show Hp S0 σ0 _ ([Ch.ro 0 (Sl a17 r14 c18) r14, Ch.ro 0 (Sl a45 r42 c46) r42] ++ [Ch.ro 0 (Sl a45 r42 c46) r42, Ch.ro n0 (Sl a45 r42 c46) r42, Ch.ro 0 (Sl a17 r14 c18) r14, Ch.ro 0 (Sl a7 r2.1.2 c8) r2.1.2, Ch.ro 0 (Sl a5 r2.1.1 c6) r2.1.1, Ch.ro n0 (Sl a7 r2.1.2 c8) r2.1.2, Ch.ro n0 (Sl a5 r2.1.1 c6) r2.1.1, Ch.bx n0 b10 0 [(Sl a5 r2.1.1 c6), (Sl a7 r2.1.2 c8)] [] []]) from (H.sel' [2, 0, 0, 1, 2, 3, 4, 5, 6, 7] rfl rfl))) wn ?_
    rintro _ σ55 ⟨_, ⟨rfl, rfl⟩, H, -⟩
    replace H : Hp S0 σ0 σ55 [Ch.ro 0 (Sl a45 r42 c46) r42, Ch.ro n0 (Sl a45 r42 c46) r42, Ch.ro 0 (Sl a17 r14 c18) r14, Ch.ro 0 (Sl a7 r2.1.2 c8) r2.1.2, Ch.ro 0 (Sl a5 r2.1.1 c6) r2.1.1, Ch.ro n0 (Sl a7 r2.1.2 c8) r2.1.2, Ch.ro n0 (Sl a5 r2.1.1 c6) r2.1.1, Ch.bx n0 b10 0 [(Sl a5 r2.1.1 c6), (Sl a7 r2.1.2 c8)] [] []] := H
    replace H : Hp S0 σ0 σ55 [] := H.sel' [] rfl rfl
    refine st (v := (B r52)) (rv_assign rfl) ?_
    refine w_end ?_
    refine q_then ?_
    refine c_ret ?_
    refine q_then_r ?_
    obtain rfl := Option.some.inj h
    exact fin_ret (v := (B r52)) (results_ok Try.results7 (res_tmp (v := (B r52)) rfl res_nil) rfl) ⟨rfl, rfl⟩ (H.sel' [] rfl rfl)
   ·replace h := bif_f hb36 h
    refine c_skip ?_
    refine q_then ?_
    refine c_seq ?_
    refine rg ?_
    refine st (v := (I r2.2)) (rv_move rfl) ?_
    refine st (v := (I (w64 (r2.2 + 5)))) (rv_add (a := r2.2) (b := 5) rfl rfl) ?_
    refine st (v := (I ((w64 (r2.2 + 5)).tmod 16))) (rv_rem (a := (w64 (r2.2 + 5))) (b := 16) rfl rfl (by decide)) ?_
    refine st (v := (I ((w64 (r2.2 + 5)).tmod 16))) (rv_assign rfl) ?_
    refine w_end ?_
    refine q_then ?_
    refine c_seq ?_
    refine rg ?_
    have hc56 := H.cells 2 rfl
    refine st (v := (.agg #[(Sl a5 r2.1.1 c6), (Sl a7 r2.1.2 c8)])) (rv_load (cs := [(Sl a5 r2.1.1 c6), (Sl a7 r2.1.2 c8)]) Try.underlying39 rfl ti39 rfl rfl hc56) ?_
    refine st (v := (I ((w64 (r2.2 + 5)).tmod 16))) (rv_move rfl) ?_
    obtain ⟨r57, hx58, h'⟩ := bind_some h
    clear h
    have h := h'; clear h'
    have hc59 := c_impl_DecodeVector (ab_0_0 := a5) (cb_0_0 := c6) (ab_0_1 := a7) (cb_0_1 := c8) hx58
    have hle := Nat.le_trans hn0 H.size
    refine st_call (cx_lend (Loan.lend (Loan.lend Loan.nil)) hc59 (ent_f hc59.fn rfl) (show Hp S0 σ0 _ ([Ch.own n0 n0 (Sl a5 r2.1.1 c6) r2.1.1, Ch.own n0 n0 (Sl a7 r2.1.2 c8) r2.1.2] ++ ([] ++ [Ch.bx n0 b10 0 [(Sl a5 r2.1.1 c6), (Sl a7 r2.1.2 c8)] [] [], Ch.own 0 n0 (Sl a17 r14 c18) r14])) from (H.sel' [0, 1, 2, 3] rfl rfl)) (by rintro _ _ _ ⟨_, _, rfl, rfl⟩; exact ⟨Ab.ownSc, trivial⟩)) wn ?_
    rintro _ σ62 ⟨_, ⟨a60, c61, rfl, rfl⟩, H, -, -⟩
    replace H : Hp S0 σ0 σ62 [Ch.own 0 σ35.size (Sl a60 r57 c61) r57, Ch.own n0 n0 (Sl a5 r2.1.1 c6) r2.1.1, Ch.own n0 n0 (Sl a7 r2.1.2 c8) r2.1.2, Ch.bx n0 b10 0 [(Sl a5 r2.1.1 c6), (Sl a7 r2.1.2 c8)] [] [], Ch.own 0 n0 (Sl a17 r14 c18) r14] := H
    replace H := H.ownLow 0 0 n0 rfl (Nat.le_refl _) hle
    clear hle
    replace H : Hp S0 σ0 σ62 [Ch.own 0 n0 (Sl a60 r57 c61) r57, Ch.own n0 n0 (Sl a5 r2.1.1 c6) r2.1.1, Ch.own n0 n0 (Sl a7 r2.1.2 c8) r2.1.2, Ch.bx n0 b10 0 [(Sl a5 r2.1.1 c6), (Sl a7 r2.1.2 c8)] [] [], Ch.own 0 n0 (Sl a17 r14 c18) r14] := H
    refine st (v := (Sl a60 r57 c61)) (rv_assign rfl) ?_
    refine w_end ?_
    refine q_then ?_
    refine c_seq ?_
    obtain ⟨o63, hj, h'⟩ := bind_some h
    clear h
    refine c_cut (fun e a w => e = .normal ∧ ∃ (ρ : Nat → Value) (σ : St), a = fr 75 (updL ρ [(5, (Sl a17 r14 c18)), (7, (Sl a60 r57 c61)), (8, (B o63))]) ∧ w = σ.w ∧ Hp S0 σ0 σ [Ch.own 0 n0 (Sl a17 r14 c18) r14, Ch.own 0 n0 (Sl a60 r57 c61) r57]) ?_ ?_
    ·clear h'
     rename _ = some o63 => h
     have hc64 := H.cell (u := (Sl a5 r2.1.1 c6)) (o' := 0) 3 0 rfl rfl rfl
     obtain ⟨x65, hx66, h'⟩ := bind_some h
     clear h
     have h := h'; clear h'
     obtain ⟨b68, o69, hi67, -⟩ := (H.own 1 rfl).ix hx66
     obtain ⟨v73, hc74, hR72⟩ := ((H.own 1 rfl).at hx66 hi67).slice
     obtain ⟨a70, c71, rfl⟩ := hR72.isSl
     replace H := H.add (d := Ch.ro n0 (Sl a70 x65 c71) x65) hR72 (fun _ h => h)
     clear hR72
     have hc75 := H.cell (u := (Sl a5 r2.1.1 c6)) (o' := 0) 4 0 rfl rfl rfl
     obtain ⟨x76, hx77, h'⟩ := bind_some h
     clear h
     have h := h'; clear h'
     obtain ⟨b79, o80, hi78, -⟩ := (H.own 2 rfl).ix hx77
     obtain ⟨v84, hc85, hR83⟩ := ((H.own 2 rfl).at hx77 hi78).slice
     obtain ⟨a81, c82, rfl⟩ := hR83.isSl
     replace H := H.add (d := Ch.ro n0 (Sl a81 x76 c82) x76) hR83 (fun _ h => h)
     clear hR83
     replace H := H.roLow 1 0 rfl (Nat.zero_le _)
     replace H := H.roLow 1 0 rfl (Nat.zero_le _)
     obtain ⟨r86, hx87, h'⟩ := bind_some h
     clear h
     have h := h'; clear h'
     have hc88 := c_laws_equalInts (aa_0 := a70) (ca_0 := c71) (ab_1 := a81) (cb_1 := c82) hx87
     rcases Bool.eq_false_or_eq_true r86 with hb89 | hb89
     ·replace h := bif_t hb89 h
      have hc90 := H.cell (u := (Sl a7 r2.1.2 c8)) (o' := 1) 7 1 rfl rfl rfl
      obtain ⟨x91, hx92, h'⟩ := bind_some h
      clear h
      have h := h'; clear h'
      obtain ⟨b94, o95, hi93, -⟩ := (H.own 6 rfl).ix hx92
      obtain ⟨v99, hc100, hR98⟩ := ((H.own 6 rfl).at hx92 hi93).slice
      obtain ⟨a96, c97, rfl⟩ := hR98.isSl
      replace H := H.add (d := Ch.ro n0 (Sl a96 x91 c97) x91) hR98 (fun _ h => h)
      clear hR98
      have hc101 := H.cell (u := (Sl a7 r2.1.2 c8)) (o' := 1) 8 1 rfl rfl rfl
      obtain ⟨x102, hx103, h'⟩ := bind_some h
      clear h
      have h := h'; clear h'
      obtain ⟨b105, o106, hi104, -⟩ := (H.own 7 rfl).ix hx103
      obtain ⟨v110, hc111, hR109⟩ := ((H.own 7 rfl).at hx103 hi104).slice
      obtain ⟨a107, c108, rfl⟩ := hR109.isSl
      replace H := H.add (d := Ch.ro n0 (Sl a107 x102 c108) x102) hR109 (fun _ h => h)
      clear hR109
      have Hs := H
      refine rg2 (σ := σ62) (Nm := Unit) 26 [12] [[false], [true]] [[(0, 0)], [(0, 0)], [(0, 0)], [(0, 0)], [(0, 0)], [(0, 0)], [(0, 0)], [(0, 0)], [(0, 0)], [(0, 0)], [(0, 0)], [(0, 0)], [(0, 1)], [(1, 1)], [(1, 1)], [(1, 1)], [(1, 1)], [(1, 1)], [(1, 1)], [(1, 1)], [(1, 1)], [(1, 1)], [(1, 1)], [(1, 1)], [(1, 1)], [(1, 1)]] 1 [fun _ => fun σm => Hp S0 σ0 σm [Ch.ro n0 (Sl a107 x102 c108) x102, Ch.ro n0 (Sl a96 x91 c97) x91, Ch.ro 0 (Sl a81 x76 c82) x76, Ch.ro 0 (Sl a70 x65 c71) x65, Ch.ro n0 (Sl a81 x76 c82) x76, Ch.ro n0 (Sl a70 x65 c71) x65, Ch.own 0 n0 (Sl a60 r57 c61) r57, Ch.own n0 n0 (Sl a5 r2.1.1 c6) r2.1.1, Ch.own n0 n0 (Sl a7 r2.1.2 c8) r2.1.2, Ch.bx n0 b10 0 [(Sl a5 r2.1.1 c6), (Sl a7 r2.1.2 c8)] [] [], Ch.own 0 n0 (Sl a17 r14 c18) r14] ∧ Md (cov []) σ62 σm, fun _ => fun σm => Hp S0 σ0 σm [Ch.ro n0 (Sl a107 x102 c108) x102, Ch.ro n0 (Sl a96 x91 c97) x91, Ch.ro 0 (Sl a81 x76 c82) x76, Ch.ro 0 (Sl a70 x65 c71) x65, Ch.ro n0 (Sl a81 x76 c82) x76, Ch.ro n0 (Sl a70 x65 c71) x65, Ch.own 0 n0 (Sl a60 r57 c61) r57, Ch.own n0 n0 (Sl a5 r2.1.1 c6) r2.1.1, Ch.own n0 n0 (Sl a7 r2.1.2 c8) r2.1.2, Ch.bx n0 b10 0 [(Sl a5 r2.1.1 c6), (Sl a7 r2.1.2 c8)] [] [], Ch.own 0 n0 (Sl a17 r14 c18) r14] ∧ Md (cov []) σ62 σm] [fun _ => (pt b10 0), fun _ => (Sl a5 r2.1.1 c6), fun _ => (I ((w64 (r2.2 + 5)).tmod 16)), fun _ => (I (w64 (((w64 (r2.2 + 5)).tmod 16).tdiv 4))), fun _ => (pt b68 o69), fun _ => (Sl a70 x65 c71), fun _ => (pt b10 0), fun _ => (Sl a5 r2.1.1 c6), fun _ => (I r2.2), fun _ => (I (w64 (r2.2.tdiv 4))), fun _ => (pt b79 o80), fun _ => (Sl a81 x76 c82), fun _ => (B r86), fun _ => (B r86), fun _ => (pt b10 1), fun _ => (Sl a7 r2.1.2 c8), fun _ => (I ((w64 (r2.2 + 5)).tmod 16)), fun _ => (I (((w64 (r2.2 + 5)).tmod 16).tmod 4)), fun _ => (pt b94 o95), fun _ => (Sl a96 x91 c97), fun _ => (pt b10 1), fun _ => (Sl a7 r2.1.2 c8), fun _ => (I r2.2), fun _ => (I (r2.2.tmod 4)), fun _ => (pt b105 o106), fun _ => (Sl a107 x102 c108)] () (by kernel_rfl) (by kernel_rfl) ?_ ?_ ?_
      ·intro σm m0
       exact ⟨H.grow (m0.mono fun _ h => h.elim), m0⟩
      ·refine ac rfl (by
         intro k _nm ρ σm hJ hoff hdep
         have e3 := look_off (N := 75) (hoff 3 rfl) rfl
         exact dp_v (v := (pt b10 0)) wn (rv_fieldAddr (off := 0) (ft := 27) Try.underlying39 rfl ti27 rfl e3) rfl hJ) ?_
       refine all_cons (by
         refine ⟨?_, ?_⟩
         ·intro _nm ρ σm hJ hoff hdep
          have e42 := hdep 0 rfl rfl 42 rfl
          obtain ⟨H, m⟩ := id hJ
          have hc64 := H.cell (u := (Sl a5 r2.1.1 c6)) (o' := 0) 9 0 rfl rfl rfl
          exact dp_v (v := (Sl a5 r2.1.1 c6)) wn (rv_load1 Try.underlying27 rfl e42 hc64) rfl hJ
         trivial) ?_
       refine ac rfl (by
         intro k _nm ρ σm hJ hoff hdep
         have e6 := look_off (N := 75) (hoff 6 rfl) rfl
         exact dp_v (v := (I ((w64 (r2.2 + 5)).tmod 16))) wn (rv_move e6) rfl hJ) ?_
       refine ac rfl (by
         intro k _nm ρ σm hJ hoff hdep
         have e44 := hdep 2 rfl rfl 44 rfl
         exact dp_v (v := (I (w64 (((w64 (r2.2 + 5)).tmod 16).tdiv 4)))) wn (rv_quo (a := ((w64 (r2.2 + 5)).tmod 16)) (b := 4) e44 rfl (by decide)) rfl hJ) ?_
       refine ac rfl (by
         intro k _nm ρ σm hJ hoff hdep
         have e43 := hdep 1 rfl rfl 43 rfl
         have e45 := hdep 3 rfl rfl 45 rfl
         exact dp_v (v := (pt b68 o69)) wn (rv_ix Try.underlying27 ti29 e43 e45 hi67) rfl hJ) ?_
       refine all_cons (by
         refine ⟨?_, ?_⟩
         ·intro _nm ρ σm hJ hoff hdep
          have e46 := hdep 4 rfl rfl 46 rfl
          obtain ⟨H, m⟩ := id hJ
          replace hc74 := m.hcell hc74 nocov
          exact dp_v (v := (Sl a70 x65 c71)) wn (rv_load1 Try.underlying29 rfl e46 hc74) rfl hJ
         trivial) ?_
       refine ac rfl (by
         intro k _nm ρ σm hJ hoff hdep
         have e3 := look_off (N := 75) (hoff 3 rfl) rfl
         exact dp_v (v := (pt b10 0)) wn (rv_fieldAddr (off := 0) (ft := 27) Try.underlying39 rfl ti27 rfl e3) rfl hJ) ?_
       refine all_cons (by
         refine ⟨?_, ?_⟩
         ·intro _nm ρ σm hJ hoff hdep
          have e48 := hdep 6 rfl rfl 48 rfl
          obtain ⟨H, m⟩ := id hJ
          have hc75 := H.cell (u := (Sl a5 r2.1.1 c6)) (o' := 0) 9 0 rfl rfl rfl
          exact dp_v (v := (Sl a5 r2.1.1 c6)) wn (rv_load1 Try.underlying27 rfl e48 hc75) rfl hJ
         trivial) ?_
       refine ac rfl (by
         intro k _nm ρ σm hJ hoff hdep
         have e4 := look_off (N := 75) (hoff 4 rfl) rfl
         exact dp_v (v := (I r2.2)) wn (rv_move e4) rfl hJ) ?_
       refine ac rfl (by
         intro k _nm ρ σm hJ hoff hdep
         have e50 := hdep 8 rfl rfl 50 rfl
         exact dp_v (v := (I (w64 (r2.2.tdiv 4)))) wn (rv_quo (a := r2.2) (b := 4) e50 rfl (by decide)) rfl hJ) ?_
       refine ac rfl (by
         intro k _nm ρ σm hJ hoff hdep
         have e49 := hdep 7 rfl rfl 49 rfl
         have e51 := hdep 9 rfl rfl 51 rfl
         exact dp_v (v := (pt b79 o80)) wn (rv_ix Try.underlying27 ti29 e49 e51 hi78) rfl hJ) ?_
       refine all_cons (by
         refine ⟨?_, ?_⟩
         ·intro _nm ρ σm hJ hoff hdep
          have e52 := hdep 10 rfl rfl 52 rfl
          obtain ⟨H, m⟩ := id hJ
          replace hc85 := m.hcell hc85 nocov
          exact dp_v (v := (Sl a81 x76 c82)) wn (rv_load1 Try.underlying29 rfl e52 hc85) rfl hJ
         trivial) ?_
       refine all_cons (by
         refine ⟨?_, ?_⟩
         ·intro _nm ρ σm hJ hoff hdep
          have e47 : look 75 ρ 47 = (Sl a70 x65 c71) := hdep 5 rfl rfl 47 rfl
          have e53 : look 75 ρ 53 = (Sl a81 x76 c82) := hdep 11 rfl rfl 53 rfl
          obtain ⟨H, m⟩ := id hJ
          refine dp_cx wn (cx_call hc88 (ent_f hc88.fn (by show [look 75 ρ 47, look 75 ρ 53] = _; rw [e47, e53])) hn0 (show Hp S0 σ0 _ ([Ch.ro 0 (Sl a70 x65 c71) x65, Ch.ro 0 (Sl a81 x76 c82) x76] ++ [Ch.ro n0 (Sl a107 x102 c108) x102, Ch.ro n0 (Sl a96 x91 c97) x91, Ch.ro 0 (Sl a81 x76 c82) x76, Ch.ro 0 (Sl a70 x65 c71) x65, Ch.ro n0 (Sl a81 x76 c82) x76, Ch.ro n0 (Sl a70 x65 c71) x65, Ch.own 0 n0 (Sl a60 r57 c61) r57, Ch.own n0 n0 (Sl a5 r2.1.1 c6) r2.1.1, Ch.own n0 n0 (Sl a7 r2.1.2 c8) r2.1.2, Ch.bx n0 b10 0 [(Sl a5 r2.1.1 c6), (Sl a7 r2.1.2 c8)] [] [], Ch.own 0 n0 (Sl a17 r14 c18) r14]) from (H.sel' [3, 2, 0, 1, 2, 3, 4, 5, 6, 7, 8, 9, 10] rfl rfl))) ?_
          rintro _ σq ⟨_, ⟨rfl, rfl⟩, H2, m2⟩
          exact ⟨_, (), rfl, rfl, ⟨H2.sel' [0, 1, 2, 3, 4, 5, 6, 7, 8, 9, 10] rfl rfl, m.comp0 (m2.mono (fun i h => by simp [cov, Ch.ro] at h))⟩, stab [0, 1, 2, 3, 4, 5, 6, 7, 8, 9, 10, 11] (by kernel_rfl) ⟨rfl, rfl, rfl, rfl, rfl, rfl, rfl, rfl, rfl, rfl, rfl, rfl, trivial⟩⟩
         trivial) ?_
       refine ac rfl (by
         intro k _nm ρ σm hJ hoff hdep
         have e54 := hdep 12 rfl rfl 54 rfl
         exact dp_v (v := (B r86)) wn (rv_move e54) rfl hJ) ?_
       refine ac rfl (by
         intro k _nm ρ σm hJ hoff hdep
         have e3 := look_off (N := 75) (hoff 3 rfl) rfl
         have e55 := hdep 13 rfl rfl 55 rfl
         exact dp_v (v := (pt b10 1)) (wanted_yes rfl (yv_of rfl (e55.trans (congrArg B hb89)))) (rv_fieldAddr (off := 1) (ft := 27) Try.underlying39 rfl ti27 rfl e3) rfl hJ) ?_
       refine all_cons (by
         refine ⟨?_, ?_⟩
         ·intro _nm ρ σm hJ hoff hdep
          have e56 := hdep 14 rfl rfl 56 rfl
          have e55 := hdep 13 rfl rfl 55 rfl
          obtain ⟨H, m⟩ := id hJ
          have hc90 := H.cell (u := (Sl a7 r2.1.2 c8)) (o' := 1) 9 1 rfl rfl rfl
          exact dp_v (v := (Sl a7 r2.1.2 c8)) (wanted_yes rfl (yv_of rfl (e55.trans (congrArg B hb89)))) (rv_load1 Try.underlying27 rfl e56 hc90) rfl hJ
         trivial) ?_
       refine ac rfl (by
         intro k _nm ρ σm hJ hoff hdep
         have e6 := look_off (N := 75) (hoff 6 rfl) rfl
         have e55 := hdep 13 rfl rfl 55 rfl
         exact dp_v (v := (I ((w64 (r2.2 + 5)).tmod 16))) (wanted_yes rfl (yv_of rfl (e55.trans (congrArg B hb89)))) (rv_move e6) rfl hJ) ?_
       refine ac rfl (by
         intro k _nm ρ σm hJ hoff hdep
         have e58 := hdep 16 rfl rfl 58 rfl
         have e55 := hdep 13 rfl rfl 55 rfl
         exact dp_v (v := (I (((w64 (r2.2 + 5)).tmod 16).tmod 4))) (wanted_yes rfl (yv_of rfl (e55.trans (congrArg B hb89)))) (rv_rem (a := ((w64 (r2.2 + 5)).tmod 16)) (b := 4) e58 rfl (by decide)) rfl hJ) ?_
       refine ac rfl (by
         intro k _nm ρ σm hJ hoff hdep
         have e57 := hdep 15 rfl rfl 57 rfl
         have e59 := hdep 17 rfl rfl 59 rfl
         have e55 := hdep 13 rfl rfl 55 rfl
         exact dp_v (v := (pt b94 o95)) (wanted_yes rfl (yv_of rfl (e55.trans (congrArg B hb89)))) (rv_ix Try.underlying27 ti29 e57 e59 hi93) rfl hJ) ?_
       refine all_cons (by
         refine ⟨?_, ?_⟩
         ·intro _nm ρ σm hJ hoff hdep
          have e60 := hdep 18 rfl rfl 60 rfl
          have e55 := hdep 13 rfl rfl 55 rfl
          obtain ⟨H, m⟩ := id hJ
          replace hc100 := m.hcell hc100 nocov
          exact dp_v (v := (Sl a96 x91 c97)) (wanted_yes rfl (yv_of rfl (e55.trans (congrArg B hb89)))) (rv_load1 Try.underlying29 rfl e60 hc100) rfl hJ
         trivial) ?_
       refine ac rfl (by
         intro k _nm ρ σm hJ hoff hdep
         have e3 := look_off (N := 75) (hoff 3 rfl) rfl
         have e55 := hdep 13 rfl rfl 55 rfl
         exact dp_v (v := (pt b10 1)) (wanted_yes rfl (yv_of rfl (e55.trans (congrArg B hb89)))) (rv_fieldAddr (off := 1) (ft := 27) Try.underlying39 rfl ti27 rfl e3) rfl hJ) ?_
       refine all_cons (by
         refine ⟨?_, ?_⟩
         ·intro _nm ρ σm hJ hoff hdep
          have e62 := hdep 20 rfl rfl 62 rfl
          have e55 := hdep 13 rfl rfl 55 rfl
          obtain ⟨H, m⟩ := id hJ
          have hc101 := H.cell (u := (Sl a7 r2.1.2 c8)) (o' := 1) 9 1 rfl rfl rfl
          exact dp_v (v := (Sl a7 r2.1.2 c8)) (wanted_yes rfl (yv_of rfl (e55.trans (congrArg B hb89)))) (rv_load1 Try.underlying27 rfl e62 hc101) rfl hJ
         trivial) ?_
       refine ac rfl (by
         intro k _nm ρ σm hJ hoff hdep
         have e4 := look_off (N := 75) (hoff 4 rfl) rfl
         have e55 := hdep 13 rfl rfl 55 rfl
         exact dp_v (v := (I r2.2)) (wanted_yes rfl (yv_of rfl (e55.trans (congrArg B hb89)))) (rv_move e4) rfl hJ) ?_
       refine ac rfl (by
         intro k _nm ρ σm hJ hoff hdep
         have e64 := hdep 22 rfl rfl 64 rfl
         have e55 := hdep 13 rfl rfl 55 rfl
         exact dp_v (v := (I (r2.2.tmod 4))) (wanted_yes rfl (yv_of rfl (e55.trans (congrArg B hb89)))) (rv_rem (a := r2.2) (b := 4) e64 rfl (by decide)) rfl hJ) ?_
       refine ac rfl (by
         intro k _nm ρ σm hJ hoff hdep
         have e63 := hdep 21 rfl rfl 63 rfl
         have e65 := hdep 23 rfl rfl 65 rfl
         have e55 := hdep 13 rfl rfl 55 rfl
         exact dp_v (v := (pt b105 o106)) (wanted_yes rfl (yv_of rfl (e55.trans (congrArg B hb89)))) (rv_ix Try.underlying27 ti29 e63 e65 hi104) rfl hJ) ?_
       refine all_cons (by
         refine ⟨?_, ?_⟩
         ·intro _nm ρ σm hJ hoff hdep
          have e66 := hdep 24 rfl rfl 66 rfl
          have e55 := hdep 13 rfl rfl 55 rfl
          obtain ⟨H, m⟩ := id hJ
          replace hc111 := m.hcell hc111 nocov
          exact dp_v (v := (Sl a107 x102 c108)) (wanted_yes rfl (yv_of rfl (e55.trans (congrArg B hb89)))) (rv_load1 Try.underlying29 rfl e66 hc111) rfl hJ
         trivial) ?_
       exact all_nil
      ·intro _nm ρ σ112 hJ hoff hrel
       have e5 := look_off (N := 75) (hoff 5 rfl) rfl
       have e7 := look_off (N := 75) (hoff 7 rfl) rfl
       have e55 := hrel 13 rfl 55 rfl
       have e61 := hrel 19 rfl 61 rfl
       have e67 := hrel 25 rfl 67 rfl
       obtain ⟨H, -⟩ := (show Hp S0 σ0 σ112 [Ch.ro n0 (Sl a107 x102 c108) x102, Ch.ro n0 (Sl a96 x91 c97) x91, Ch.ro 0 (Sl a81 x76 c82) x76, Ch.ro 0 (Sl a70 x65 c71) x65, Ch.ro n0 (Sl a81 x76 c82) x76, Ch.ro n0 (Sl a70 x65 c71) x65, Ch.own 0 n0 (Sl a60 r57 c61) r57, Ch.own n0 n0 (Sl a5 r2.1.1 c6) r2.1.1, Ch.own n0 n0 (Sl a7 r2.1.2 c8) r2.1.2, Ch.bx n0 b10 0 [(Sl a5 r2.1.1 c6), (Sl a7 r2.1.2 c8)] [] [], Ch.own 0 n0 (Sl a17 r14 c18) r14] ∧ Md (cov []) σ62 σ112 from hJ)
       clear hJ Hs
       rw [fr_lookL (L := [(5, (Sl a17 r14 c18)), (7, (Sl a60 r57 c61)), (55, (B r86)), (61, (Sl a96 x91 c97)), (67, (Sl a107 x102 c108))]) ⟨e5, e7, e55, e61, e67, trivial⟩]
       clear hoff hrel e5 e7 e55 e61 e67
       replace H := H.roLow 1 0 rfl (Nat.zero_le _)
       replace H := H.roLow 1 0 rfl (Nat.zero_le _)
       obtain ⟨r113, hx114, h'⟩ := bind_some h
       clear h
       have h := h'; clear h'
       have hc115 := c_laws_equalInts (aa_0 := a96) (ca_0 := c97) (ab_1 := a107) (cb_1 := c108) hx114
       refine st_call (cx_call hc115 (ent_f hc115.fn rfl) hn0 (show Hp S0 σ0 _ ([Ch.ro 0 (Sl a96 x91 c97) x91, Ch.ro 0 (Sl a107 x102 c108) x102] ++ [Ch.ro 0 (Sl a107 x102 c108) x102, Ch.ro 0 (Sl a96 x91 c97) x91, Ch.ro n0 (Sl a107 x102 c108) x102, Ch.ro n0 (Sl a96 x91 c97) x91, Ch.ro 0 (Sl a81 x76 c82) x76, Ch.ro 0 (Sl a70 x65 c71) x65, Ch.ro n0 (Sl a81 x76 c82) x76, Ch.ro n0 (Sl a70 x65 c71) x65, Ch.own 0 n0 (Sl a60 r57 c61) r57, Ch.own n0 n0 (Sl a5 r2.1.1 c6) r2.1.1, Ch.own n0 n0 (Sl a7 r2.1.2 c8) r2.1.2, Ch.bx n0 b10 0 [(Sl a5 r2.1.1 c6), (Sl a7 r2.1.2 c8)] [] [], Ch.own 0 n0 (Sl a17 r14 c18) r14]) from (H.sel' [1, 0, 0, 1, 2, 3, 4, 5, 6, 7, 8, 9, 10, 11, 12] rfl rfl))) (wanted_yes rfl (by exact (congrArg some hb89))) ?_
       rintro _ σ116 ⟨_, ⟨rfl, rfl⟩, H, -⟩
       replace H : Hp S0 σ0 σ116 [Ch.ro 0 (Sl a107 x102 c108) x102, Ch.ro 0 (Sl a96 x91 c97) x91, Ch.ro n0 (Sl a107 x102 c108) x102, Ch.ro n0 (Sl a96 x91 c97) x91, Ch.ro 0 (Sl a81 x76 c82) x76, Ch.ro 0 (Sl a70 x65 c71) x65, Ch.ro n0 (Sl a81 x76 c82) x76, Ch.ro n0 (Sl a70 x65 c71) x65, Ch.own 0 n0 (Sl a60 r57 c61) r57, Ch.own n0 n0 (Sl a5 r2.1.1 c6) r2.1.1, Ch.own n0 n0 (Sl a7 r2.1.2 c8) r2.1.2, Ch.bx n0 b10 0 [(Sl a5 r2.1.1 c6), (Sl a7 r2.1.2 c8)] [] [], Ch.own 0 n0 (Sl a17 r14 c18) r14] := H
       replace H : Hp S0 σ0 σ116 [Ch.own 0 n0 (Sl a60 r57 c61) r57, Ch.own 0 n0 (Sl a17 r14 c18) r14] := H.sel' [8, 12] rfl rfl
       refine st (v := (B r113)) (rv_pick_t (congrArg B hb89) rfl) ?_
       refine st (v := (B r113)) (rv_assign rfl) ?_
       refine w_end ?_
       obtain rfl := Option.some.inj h
       exact ⟨rfl, _, σ116, fr_join ⟨rfl, rfl, rfl, trivial⟩, rfl, H.sel' [1, 0] rfl rfl⟩
     ·replace h := bif_f hb89 h
      have Hs := H
      refine rg2 (σ := σ62) (Nm := Unit) 26 [12] [[false], [true]] [[(0, 0)], [(0, 0)], [(0, 0)], [(0, 0)], [(0, 0)], [(0, 0)], [(0, 0)], [(0, 0)], [(0, 0)], [(0, 0)], [(0, 0)], [(0, 0)], [(0, 1)], [(1, 1)], [(1, 1)], [(1, 1)], [(1, 1)], [(1, 1)], [(1, 1)], [(1, 1)], [(1, 1)], [(1, 1)], [(1, 1)], [(1, 1)], [(1, 1)], [(1, 1)]] 1 [fun _ => fun σm => Hp S0 σ0 σm [Ch.ro 0 (Sl a81 x76 c82) x76, Ch.ro 0 (Sl a70 x65 c71) x65, Ch.ro n0 (Sl a81 x76 c82) x76, Ch.ro n0 (Sl a70 x65 c71) x65, Ch.own 0 n0 (Sl a60 r57 c61) r57, Ch.own n0 n0 (Sl a5 r2.1.1 c6) r2.1.1, Ch.own n0 n0 (Sl a7 r2.1.2 c8) r2.1.2, Ch.bx n0 b10 0 [(Sl a5 r2.1.1 c6), (Sl a7 r2.1.2 c8)] [] [], Ch.own 0 n0 (Sl a17 r14 c18) r14] ∧ Md (cov []) σ62 σm, fun _ => fun σm => Hp S0 σ0 σm [Ch.ro 0 (Sl a81 x76 c82) x76, Ch.ro 0 (Sl a70 x65 c71) x65, Ch.ro n0 (Sl a81 x76 c82) x76, Ch.ro n0 (Sl a70 x65 c71) x65, Ch.own 0 n0 (Sl a60 r57 c61) r57, Ch.own n0 n0 (Sl a5 r2.1.1 c6) r2.1.1, Ch.own n0 n0 (Sl a7 r2.1.2 c8) r2.1.2, Ch.bx n0 b10 0 [(Sl a5 r2.1.1 c6), (Sl a7 r2.1.2 c8)] [] [], Ch.own 0 n0 (Sl a17 r14 c18) r14] ∧ Md (cov []) σ62 σm] [fun _ => (pt b10 0), fun _ => (Sl a5 r2.1.1 c6), fun _ => (I ((w64 (r2.2 + 5)).tmod 16)), fun _ => (I (w64 (((w64 (r2.2 + 5)).tmod 16).tdiv 4))), fun _ => (pt b68 o69), fun _ => (Sl a70 x65 c71), fun _ => (pt b10 0), fun _ => (Sl a5 r2.1.1 c6), fun _ => (I r2.2), fun _ => (I (w64 (r2.2.tdiv 4))), fun _ => (pt b79 o80), fun _ => (Sl a81 x76 c82), fun _ => (B r86), fun _ => (B r86), fun _ => undef, fun _ => undef, fun _ => undef, fun _ => undef, fun _ => undef, fun _ => undef, fun _ => undef, fun _ => undef, fun _ => undef, fun _ => undef, fun _ => undef, fun _ => undef] () (by kernel_rfl) (by kernel_rfl) ?_ ?_ ?_
      ·intro σm m0
       exact ⟨H.grow (m0.mono fun _ h => h.elim), m0⟩
      ·refine ac rfl (by
         intro k _nm ρ σm hJ hoff hdep
         have e3 := look_off (N := 75) (hoff 3 rfl) rfl
         exact dp_v (v := (pt b10 0)) wn (rv_fieldAddr (off := 0) (ft := 27) Try.underlying39 rfl ti27 rfl e3) rfl hJ) ?_
       refine all_cons (by
         refine ⟨?_, ?_⟩
         ·intro _nm ρ σm hJ hoff hdep
          have e42 := hdep 0 rfl rfl 42 rfl
          obtain ⟨H, m⟩ := id hJ
          have hc64 := H.cell (u := (Sl a5 r2.1.1 c6)) (o' := 0) 7 0 rfl rfl rfl
          exact dp_v (v := (Sl a5 r2.1.1 c6)) wn (rv_load1 Try.underlying27 rfl e42 hc64) rfl hJ
         trivial) ?_
       refine ac rfl (by
         intro k _nm ρ σm hJ hoff hdep
         have e6 := look_off (N := 75) (hoff 6 rfl) rfl
         exact dp_v (v := (I ((w64 (r2.2 + 5)).tmod 16))) wn (rv_move e6) rfl hJ) ?_
       refine ac rfl (by
         intro k _nm ρ σm hJ hoff hdep
         have e44 := hdep 2 rfl rfl 44 rfl
         exact dp_v (v := (I (w64 (((w64 (r2.2 + 5)).tmod 16).tdiv 4)))) wn (rv_quo (a := ((w64 (r2.2 + 5)).tmod 16)) (b := 4) e44 rfl (by decide)) rfl hJ) ?_
       refine ac rfl (by
         intro k _nm ρ σm hJ hoff hdep
         have e43 := hdep 1 rfl rfl 43 rfl
         have e45 := hdep 3 rfl rfl 45 rfl
         exact dp_v (v := (pt b68 o69)) wn (rv_ix Try.underlying27 ti29 e43 e45 hi67) rfl hJ) ?_
       refine all_cons (by
         refine ⟨?_, ?_⟩
         ·intro _nm ρ σm hJ hoff hdep
          have e46 := hdep 4 rfl rfl 46 rfl
          obtain ⟨H, m⟩ := id hJ
          replace hc74 := m.hcell hc74 nocov
          exact dp_v (v := (Sl a70 x65 c71)) wn (rv_load1 Try.underlying29 rfl e46 hc74) rfl hJ
         trivial) ?_
       refine ac rfl (by
         intro k _nm ρ σm hJ hoff hdep
         have e3 := look_off (N := 75) (hoff 3 rfl) rfl
         exact dp_v (v := (pt b10 0)) wn (rv_fieldAddr (off := 0) (ft := 27) Try.underlying39 rfl ti27 rfl e3) rfl hJ) ?_
       refine all_cons (by
         refine ⟨?_, ?_⟩
         ·intro _nm ρ σm hJ hoff hdep
          have e48 := hdep 6 rfl rfl 48 rfl
          obtain ⟨H, m⟩ := id hJ
          have hc75 := H.cell (u := (Sl a5 r2.1.1 c6)) (o' := 0) 7 0 rfl rfl rfl
          exact dp_v (v := (Sl a5 r2.1.1 c6)) wn (rv_load1 Try.underlying27 rfl e48 hc75) rfl hJ
         trivial) ?_
       refine ac rfl (by
         intro k _nm ρ σm hJ hoff hdep
         have e4 := look_off (N := 75) (hoff 4 rfl) rfl
         exact dp_v (v := (I r2.2)) wn (rv_move e4) rfl hJ) ?_
       refine ac rfl (by
         intro k _nm ρ σm hJ hoff hdep
         have e50 := hdep 8 rfl rfl 50 rfl
         exact dp_v (v := (I (w64 (r2.2.tdiv 4)))) wn (rv_quo (a := r2.2) (b := 4) e50 rfl (by decide)) rfl hJ) ?_
       refine ac rfl (by
         intro k _nm ρ σm hJ hoff hdep
         have e49 := hdep 7 rfl rfl 49 rfl
         have e51 := hdep 9 rfl rfl 51 rfl
         exact dp_v (v := (pt b79 o80)) wn (rv_ix Try.underlying27 ti29 e49 e51 hi78) rfl hJ) ?_
       refine all_cons (by
         refine ⟨?_, ?_⟩
         ·intro _nm ρ σm hJ hoff hdep
          have e52 := hdep 10 rfl rfl 52 rfl
          obtain ⟨H, m⟩ := id hJ
          replace hc85 := m.hcell hc85 nocov
          exact dp_v (v := (Sl a81 x76 c82)) wn (rv_load1 Try.underlying29 rfl e52 hc85) rfl hJ
         trivial) ?_
       refine all_cons (by
         refine ⟨?_, ?_⟩
         ·intro _nm ρ σm hJ hoff hdep
          have e47 : look 75 ρ 47 = (Sl a70 x65 c71) := hdep 5 rfl rfl 47 rfl
          have e53 : look 75 ρ 53 = (Sl a81 x76 c82) := hdep 11 rfl rfl 53 rfl
          obtain ⟨H, m⟩ := id hJ
          refine dp_cx wn (cx_call hc88 (ent_f hc88.fn (by show [look 75 ρ 47, look 75 ρ 53] = _; rw [e47, e53])) hn0 (show Hp S0 σ0 _ ([Ch.ro 0 (Sl a70 x65 c71) x65, Ch.ro 0 (Sl a81 x76 c82) x76] ++ [Ch.ro 0 (Sl a81 x76 c82) x76, Ch.ro 0 (Sl a70 x65 c71) x65, Ch.ro n0 (Sl a81 x76 c82) x76, Ch.ro n0 (Sl a70 x65 c71) x65, Ch.own 0 n0 (Sl a60 r57 c61) r57, Ch.own n0 n0 (Sl a5 r2.1.1 c6) r2.1.1, Ch.own n0 n0 (Sl a7 r2.1.2 c8) r2.1.2, Ch.bx n0 b10 0 [(Sl a5 r2.1.1 c6), (Sl a7 r2.1.2 c8)] [] [], Ch.own 0 n0 (Sl a17 r14 c18) r14]) from (H.sel' [1, 0, 0, 1, 2, 3, 4, 5, 6, 7, 8] rfl rfl))) ?_
          rintro _ σq ⟨_, ⟨rfl, rfl⟩, H2, m2⟩
          exact ⟨_, (), rfl, rfl, ⟨H2.sel' [0, 1, 2, 3, 4, 5, 6, 7, 8] rfl rfl, m.comp0 (m2.mono (fun i h => by simp [cov, Ch.ro] at h))⟩, stab [0, 1, 2, 3, 4, 5, 6, 7, 8, 9, 10, 11] (by kernel_rfl) ⟨rfl, rfl, rfl, rfl, rfl, rfl, rfl, rfl, rfl, rfl, rfl, rfl, trivial⟩⟩
         trivial) ?_
       refine ac rfl (by
         intro k _nm ρ σm hJ hoff hdep
         have e54 := hdep 12 rfl rfl 54 rfl
         exact dp_v (v := (B r86)) wn (rv_move e54) rfl hJ) ?_
       refine ac rfl (by
         intro k _nm ρ σm hJ hoff hdep
         have e55 := hdep 13 rfl rfl 55 rfl
         exact dp_skip (wanted_no rfl (yv_of rfl (e55.trans (congrArg B hb89)))) rfl hJ) ?_
       refine ac rfl (by
         intro k _nm ρ σm hJ hoff hdep
         have e55 := hdep 13 rfl rfl 55 rfl
         exact dp_skip (wanted_no rfl (yv_of rfl (e55.trans (congrArg B hb89)))) rfl hJ) ?_
       refine ac rfl (by
         intro k _nm ρ σm hJ hoff hdep
         have e55 := hdep 13 rfl rfl 55 rfl
         exact dp_skip (wanted_no rfl (yv_of rfl (e55.trans (congrArg B hb89)))) rfl hJ) ?_
       refine ac rfl (by
         intro k _nm ρ σm hJ hoff hdep
         have e55 := hdep 13 rfl rfl 55 rfl
         exact dp_skip (wanted_no rfl (yv_of rfl (e55.trans (congrArg B hb89)))) rfl hJ) ?_
       refine ac rfl (by
         intro k _nm ρ σm hJ hoff hdep
         have e55 := hdep 13 rfl rfl 55 rfl
         exact dp_skip (wanted_no rfl (yv_of rfl (e55.trans (congrArg B hb89)))) rfl hJ) ?_
       refine ac rfl (by
         intro k _nm ρ σm hJ hoff hdep
         have e55 := hdep 13 rfl rfl 55 rfl
         exact dp_skip (wanted_no rfl (yv_of rfl (e55.trans (congrArg B hb89)))) rfl hJ) ?_
       refine ac rfl (by
         intro k _nm ρ σm hJ hoff hdep
         have e55 := hdep 13 rfl rfl 55 rfl
         exact dp_skip (wanted_no rfl (yv_of rfl (e55.trans (congrArg B hb89)))) rfl hJ) ?_
       refine ac rfl (by
         intro k _nm ρ σm hJ hoff hdep
         have e55 := hdep 13 rfl rfl 55 rfl
         exact dp_skip (wanted_no rfl (yv_of rfl (e55.trans (congrArg B hb89)))) rfl hJ) ?_
       refine ac rfl (by
         intro k _nm ρ σm hJ hoff hdep
         have e55 := hdep 13 rfl rfl 55 rfl
         exact dp_skip (wanted_no rfl (yv_of rfl (e55.trans (congrArg B hb89)))) rfl hJ) ?_
       refine ac rfl (by
         intro k _nm ρ σm hJ hoff hdep
         have e55 := hdep 13 rfl rfl 55 rfl
         exact dp_skip (wanted_no rfl (yv_of rfl (e55.trans (congrArg B hb89)))) rfl hJ) ?_
       refine ac rfl (by
         intro k _nm ρ σm hJ hoff hdep
         have e55 := hdep 13 rfl rfl 55 rfl
         exact dp_skip (wanted_no rfl (yv_of rfl (e55.trans (congrArg B hb89)))) rfl hJ) ?_
       refine ac rfl (by
         intro k _nm ρ σm hJ hoff hdep
         have e55 := hdep 13 rfl rfl 55 rfl
         exact dp_skip (wanted_no rfl (yv_of rfl (e55.trans (congrArg B hb89)))) rfl hJ) ?_
       exact all_nil
      ·intro _nm ρ σ117 hJ hoff hrel
       have e5 := look_off (N := 75) (hoff 5 rfl) rfl
       have e7 := look_off (N := 75) (hoff 7 rfl) rfl
       have e55 := hrel 13 rfl 55 rfl
       have e61 := hrel 19 rfl 61 rfl
       have e67 := hrel 25 rfl 67 rfl
       obtain ⟨H, -⟩ := (show Hp S0 σ0 σ117 [Ch.ro 0 (Sl a81 x76 c82) x76, Ch.ro 0 (Sl a70 x65 c71) x65, Ch.ro n0 (Sl a81 x76 c82) x76, Ch.ro n0 (Sl a70 x65 c71) x65, Ch.own 0 n0 (Sl a60 r57 c61) r57, Ch.own n0 n0 (Sl a5 r2.1.1 c6) r2.1.1, Ch.own n0 n0 (Sl a7 r2.1.2 c8) r2.1.2, Ch.bx n0 b10 0 [(Sl a5 r2.1.1 c6), (Sl a7 r2.1.2 c8)] [] [], Ch.own 0 n0 (Sl a17 r14 c18) r14] ∧ Md (cov []) σ62 σ117 from hJ)
       clear hJ Hs
       rw [fr_lookL (L := [(5, (Sl a17 r14 c18)), (7, (Sl a60 r57 c61)), (55, (B r86)), (61, undef), (67, undef)]) ⟨e5, e7, e55, e61, e67, trivial⟩]
       clear hoff hrel e5 e7 e55 e61 e67
       refine st_skip (congrArg some hb89) ?_
       refine st (v := (B false)) (rv_pick_f (congrArg B hb89) rfl) ?_
       refine st (v := (B false)) (rv_assign rfl) ?_
       refine w_end ?_
       obtain rfl := Option.some.inj h
       exact ⟨rfl, _, σ117, fr_join ⟨rfl, rfl, rfl, trivial⟩, rfl, H.sel' [8, 4] rfl rfl⟩
    ·clear hj
     have h := h'
     clear h' H
     rintro e a w ⟨rfl, ρ, σ118, rfl, rfl, H⟩
     refine q_then ?_
     refine c_seq ?_
     refine rg ?_
     refine st (v := (Sl a60 r57 c61)) (rv_move rfl) ?_
     refine st (v := (Sl a17 r14 c18)) (rv_move rfl) ?_
     replace H := H.ownLow 1 0 0 rfl (Nat.le_refl _) (Nat.zero_le _)
     obtain ⟨σ119, hw120, H, -⟩ := H.pub 0 rfl (Nat.le_refl _)
     rw [← hw120]; clear hw120
     replace H := H.ownLow 1 0 0 rfl (Nat.le_refl _) (Nat.zero_le _)
     obtain ⟨σ121, hw122, H, -⟩ := H.pub 0 rfl (Nat.le_refl _)
     rw [← hw122]; clear hw122
     obtain ⟨r123, hx124, h'⟩ := bind_some h
     clear h
     have h := h'; clear h'
     have hc125 := c_laws_equalInts (aa_0 := a60) (ca_0 := c61) (ab_1 := a17) (cb_1 := c18) hx124
     refine st_call (cx_call hc125 (ent_f hc125.fn rfl) hn0 (show Hp S0 σ0 _ ([Ch.ro 0 (Sl a60 r57 c61) r57, Ch.ro 0 (Sl a17 r14 c18) r14] ++ [Ch.ro 0 (Sl a17 r14 c18) r14, Ch.ro 0 (Sl a60 r57 c61) r57]) from (H.sel' [1, 0, 0, 1] rfl rfl))) wn ?_
     rintro _ σ126 ⟨_, ⟨rfl, rfl⟩, H, -⟩
     replace H : Hp S0 σ0 σ126 [Ch.ro 0 (Sl a17 r14 c18) r14, Ch.ro 0 (Sl a60 r57 c61) r57] := H
     refine st (v := (B o63)) (rv_move rfl) ?_
     refine st (v := (B (r123 == o63))) (rv_beql Try.underlying4 rfl rfl) ?_
     refine st (v := (B (r123 == o63))) (rv_assign rfl) ?_
     refine w_end ?_
     refine q_then ?_
     refine c_ret ?_
     obtain rfl := Option.some.inj h
     exact fin_ret (v := (B (r123 == o63))) (results_ok Try.results7 (res_tmp (v := (B (r123 == o63))) rfl res_nil) rfl) ⟨rfl, rfl⟩ (H.sel' [] rfl rfl)

end Go.Vs
