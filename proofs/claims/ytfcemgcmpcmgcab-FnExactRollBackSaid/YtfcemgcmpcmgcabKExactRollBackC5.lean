/- The functions compute what their models say. -/
import Derived.Test.YtfcemgcmpcmgcabKExactRollBackC4
set_option linter.unusedVariables false
set_option linter.unusedSimpArgs false
set_option maxRecDepth 20000
namespace Go.Vs
open Go Go.Proofs
attribute [local irreducible] Code.wp Code.wpIn wpList wpListIn wpQuiet Calls CallsIn

theorem c_impl_History_firstEntriesD {h_0 : (List (Int × (Int × (List Int) × Int))) × (List Int)} {many_1 : Int} {ah_0_0 : Option Addr} {ch_0_0 : Nat} {ah_0_1 : Option Addr} {ch_0_1 : Nat} {r : ((List (Int × (Int × (List Int) × Int))) × (List Int))} (h : M.impl_History_firstEntriesD h_0 many_1 = some r) :
    Cal2 Try.prog 67 [(.agg #[(Sl ah_0_0 h_0.1 ch_0_0), (Sl ah_0_1 h_0.2 ch_0_1)]), (I many_1)] [Ch.ro 0 (Sl ah_0_0 h_0.1 ch_0_0) h_0.1, Ch.ro 0 (Sl ah_0_1 h_0.2 ch_0_1) h_0.2] (fun n0 v L => ∃ (az1 : Option Addr), ∃ (cz2 : Nat), ∃ (Kz3 : List Ch), ∃ (az6 : Option Addr), ∃ (cz7 : Nat), v = (.agg #[(Sl az1 r.1 cz2), (Sl az6 r.2 cz7)]) ∧ L = [Ch.big Kz3, Ch.own n0 n0 (Sl az6 r.2 cz7) r.2] ∧ Dp 0 (Sl az1 r.1 cz2) r.1 Kz3 ∧ cz2 = r.1.length) := by
 refine cal2 (n := 16) Try.func67 rfl rfl rfl rfl ?_
 intro S0 σ0 n0 hn0 H
 unfold M.impl_History_firstEntriesD at h
 refine c_seq ?_
 refine rg ?_
 refine st_ex (ex_box (cs := [(Sl ah_0_0 h_0.1 ch_0_0), (Sl ah_0_1 h_0.2 ch_0_1)]) H hn0 rfl rfl) wn ?_
 rintro _ σ2 ⟨b1, rfl, H, -⟩
 refine st_ex (ex_alloc (cs := [(.slice none 0 0), (.slice none 0 0)]) H hn0 ti26 rfl) wn ?_
 rintro _ σ4 ⟨b3, rfl, H, -⟩
 refine w_end ?_
 refine q_then ?_
 refine c_seq ?_
 have hc5 := H.cell (u := (Sl ah_0_0 h_0.1 ch_0_0)) (o' := 0) 1 0 rfl rfl rfl
 obtain ⟨xs6, hx7, h'⟩ := bind_some h
 clear h
 have h := h'; clear h'
 obtain ⟨a8, c9, hs10, hR11⟩ := (H.ro 2 rfl).slice hx7
 replace H := H.add (d := Ch.ro 0 (Sl a8 xs6 c9) xs6) hR11 (fun _ h => h)
 clear hR11
 obtain ⟨r12, hx13, h'⟩ := bind_some h
 clear h
 have h := h'; clear h'
 have hc14 := c_impl_copyLogD (alog_0 := a8) (clog_0 := c9) hx13
 have hc20 := H.cell (u := (Sl ah_0_1 h_0.2 ch_0_1)) (o' := 1) 2 1 rfl rfl rfl
 obtain ⟨xs21, hx22, h'⟩ := bind_some h
 clear h
 have h := h'; clear h'
 obtain ⟨a23, c24, hs25, hR26⟩ := (H.ro 4 rfl).slice hx22
 replace H := H.add (d := Ch.ro 0 (Sl a23 xs21 c24) xs21) hR26 (fun _ h => h)
 clear hR26
 have Hs := H
 refine rg2 (σ := σ4) (Nm := (Option Addr) × (Nat) × (List Ch)) 9 [4] [[false], [true]] [[(0, 0)], [(0, 0)], [(0, 0)], [(0, 0)], [(0, 1)], [(0, 0), (1, 1)], [(0, 0), (1, 1)], [(0, 0), (1, 1)], [(0, 0), (1, 1)]] 1 [fun ((a15, c16, K17) : (Option Addr) × (Nat) × (List Ch)) => fun σm => Hp S0 σ0 σm [Ch.ro 0 (Sl a23 xs21 c24) xs21, Ch.ro 0 (Sl a8 xs6 c9) xs6, Ch.bx n0 b3 0 [(.slice none 0 0), (.slice none 0 0)] [] [], Ch.bx n0 b1 0 [(Sl ah_0_0 h_0.1 ch_0_0), (Sl ah_0_1 h_0.2 ch_0_1)] [] [], Ch.ro 0 (Sl ah_0_0 h_0.1 ch_0_0) h_0.1, Ch.ro 0 (Sl ah_0_1 h_0.2 ch_0_1) h_0.2] ∧ Md (cov []) σ4 σm, fun ((a15, c16, K17) : (Option Addr) × (Nat) × (List Ch)) => fun σm => Hp S0 σ0 σm [Ch.big K17, Ch.ro 0 (Sl a23 xs21 c24) xs21, Ch.ro 0 (Sl a8 xs6 c9) xs6, Ch.bx n0 b3 0 [(.slice none 0 0), (.slice none 0 0)] [] [], Ch.bx n0 b1 0 [(Sl ah_0_0 h_0.1 ch_0_0), (Sl ah_0_1 h_0.2 ch_0_1)] [] [], Ch.ro 0 (Sl ah_0_0 h_0.1 ch_0_0) h_0.1, Ch.ro 0 (Sl ah_0_1 h_0.2 ch_0_1) h_0.2] ∧ Md (cov []) σ4 σm ∧ Dp 0 (Sl a15 r12 c16) r12 K17 ∧ c16 = r12.length] [fun ((a15, c16, K17) : (Option Addr) × (Nat) × (List Ch)) => (pt b1 0), fun ((a15, c16, K17) : (Option Addr) × (Nat) × (List Ch)) => (Sl ah_0_0 h_0.1 ch_0_0), fun ((a15, c16, K17) : (Option Addr) × (Nat) × (List Ch)) => (I many_1), fun ((a15, c16, K17) : (Option Addr) × (Nat) × (List Ch)) => (Sl a8 xs6 c9), fun ((a15, c16, K17) : (Option Addr) × (Nat) × (List Ch)) => (Sl a15 r12 c16), fun ((a15, c16, K17) : (Option Addr) × (Nat) × (List Ch)) => (pt b1 1), fun ((a15, c16, K17) : (Option Addr) × (Nat) × (List Ch)) => (Sl ah_0_1 h_0.2 ch_0_1), fun ((a15, c16, K17) : (Option Addr) × (Nat) × (List Ch)) => (I many_1), fun ((a15, c16, K17) : (Option Addr) × (Nat) × (List Ch)) => (Sl a23 xs21 c24)] (none, 0, []) (by kernel_rfl) (by kernel_rfl) ?_ ?_ ?_
 ·intro σm m0
  exact ⟨H.grow (m0.mono fun _ h => h.elim), m0⟩
 ·refine ac rfl (by
    intro k; rintro ⟨a15, c16, K17⟩ ρ σm hJ hoff hdep
    have e2 := look_off (N := 16) (hoff 2 rfl) rfl
    exact dp_v (v := (pt b1 0)) wn (rv_fieldAddr (off := 0) (ft := 23) Try.underlying26 rfl ti23 rfl e2) rfl hJ) ?_
  refine all_cons (by
    refine ⟨?_, ?_⟩
    ·rintro ⟨a15, c16, K17⟩ ρ σm hJ hoff hdep
     have e5 := hdep 0 rfl rfl 5 rfl
     obtain ⟨H, m⟩ := id hJ
     have hc5 := H.cell (u := (Sl ah_0_0 h_0.1 ch_0_0)) (o' := 0) 3 0 rfl rfl rfl
     exact dp_v (v := (Sl ah_0_0 h_0.1 ch_0_0)) wn (rv_load1 Try.underlying23 rfl e5 hc5) rfl hJ
    trivial) ?_
  refine ac rfl (by
    intro k; rintro ⟨a15, c16, K17⟩ ρ σm hJ hoff hdep
    have e1 := look_off (N := 16) (hoff 1 rfl) rfl
    exact dp_v (v := (I many_1)) wn (rv_move e1) rfl hJ) ?_
  refine ac rfl (by
    intro k; rintro ⟨a15, c16, K17⟩ ρ σm hJ hoff hdep
    have e6 := hdep 1 rfl rfl 6 rfl
    have e7 := hdep 2 rfl rfl 7 rfl
    exact dp_v (v := (Sl a8 xs6 c9)) wn (rv_slice_h Try.underlying23 ti56 hs10 e6 e7) rfl hJ) ?_
  refine all_cons (by
    refine ⟨?_, ?_⟩
    ·rintro ⟨a15, c16, K17⟩ ρ σm hJ hoff hdep
     have e8 : look 16 ρ 8 = (Sl a8 xs6 c9) := hdep 3 rfl rfl 8 rfl
     obtain ⟨H, m⟩ := id hJ
     refine dp_cx wn (cx_call hc14 (ent_f hc14.fn (by show [look 16 ρ 8] = _; rw [e8])) hn0 (show Hp S0 σ0 _ ([Ch.ro 0 (Sl a8 xs6 c9) xs6] ++ [Ch.ro 0 (Sl a23 xs21 c24) xs21, Ch.ro 0 (Sl a8 xs6 c9) xs6, Ch.bx n0 b3 0 [(.slice none 0 0), (.slice none 0 0)] [] [], Ch.bx n0 b1 0 [(Sl ah_0_0 h_0.1 ch_0_0), (Sl ah_0_1 h_0.2 ch_0_1)] [] [], Ch.ro 0 (Sl ah_0_0 h_0.1 ch_0_0) h_0.1, Ch.ro 0 (Sl ah_0_1 h_0.2 ch_0_1) h_0.2]) from (H.sel' [1, 0, 1, 2, 3, 4, 5] rfl rfl))) ?_
     rintro _ σq ⟨_, ⟨a15x, c16x, K17x, rfl, rfl, hK18, ht19⟩, H2, m2⟩
     exact ⟨_, (a15x, c16x, K17x), rfl, rfl, ⟨H2.sel' [0, 1, 2, 3, 4, 5, 6] rfl rfl, m.comp0 (m2.mono (fun i h => by simp [cov, Ch.ro] at h)), hK18, ht19⟩, stab [0, 1, 2, 3, 5, 6, 7, 8] (by kernel_rfl) ⟨rfl, rfl, rfl, rfl, rfl, rfl, rfl, rfl, trivial⟩⟩
    trivial) ?_
  refine ac rfl (by
    intro k; rintro ⟨a15, c16, K17⟩ ρ σm hJ hoff hdep
    have e2 := look_off (N := 16) (hoff 2 rfl) rfl
    exact dp_v (v := (pt b1 1)) wn (rv_fieldAddr (off := 1) (ft := 24) Try.underlying26 rfl ti24 rfl e2) rfl hJ) ?_
  refine all_cons (by
    refine ⟨?_, ?_⟩
    ·rintro ⟨a15, c16, K17⟩ ρ σm hJ hoff hdep
     have e10 := hdep 5 rfl rfl 10 rfl
     obtain ⟨H, m⟩ := id hJ
     have hc20 := H.cell (u := (Sl ah_0_1 h_0.2 ch_0_1)) (o' := 1) 3 1 rfl rfl rfl
     exact dp_v (v := (Sl ah_0_1 h_0.2 ch_0_1)) wn (rv_load1 Try.underlying24 rfl e10 hc20) rfl hJ
    refine ⟨?_, ?_⟩
    ·rintro ⟨a15, c16, K17⟩ ρ σm hJ hoff hdep
     have e10 := hdep 5 rfl rfl 10 rfl
     obtain ⟨H, m, hK18, ht19⟩ := id hJ
     have hc20 := H.cell (u := (Sl ah_0_1 h_0.2 ch_0_1)) (o' := 1) 4 1 rfl rfl rfl
     exact dp_v (v := (Sl ah_0_1 h_0.2 ch_0_1)) wn (rv_load1 Try.underlying24 rfl e10 hc20) rfl hJ
    trivial) ?_
  refine ac rfl (by
    intro k; rintro ⟨a15, c16, K17⟩ ρ σm hJ hoff hdep
    have e1 := look_off (N := 16) (hoff 1 rfl) rfl
    exact dp_v (v := (I many_1)) wn (rv_move e1) rfl hJ) ?_
  refine ac rfl (by
    intro k; rintro ⟨a15, c16, K17⟩ ρ σm hJ hoff hdep
    have e11 := hdep 6 rfl rfl 11 rfl
    have e12 := hdep 7 rfl rfl 12 rfl
    exact dp_v (v := (Sl a23 xs21 c24)) wn (rv_slice_h Try.underlying24 ti3 hs25 e11 e12) rfl hJ) ?_
  exact all_nil
 ·rintro ⟨a15, c16, K17⟩ ρ σ27 hJ hoff hrel
  have e4 := look_off (N := 16) (hoff 4 rfl) rfl
  have e9 := hrel 4 rfl 9 rfl
  have e13 := hrel 8 rfl 13 rfl
  obtain ⟨H, -, hK18, ht19⟩ := (show Hp S0 σ0 σ27 [Ch.big K17, Ch.ro 0 (Sl a23 xs21 c24) xs21, Ch.ro 0 (Sl a8 xs6 c9) xs6, Ch.bx n0 b3 0 [(.slice none 0 0), (.slice none 0 0)] [] [], Ch.bx n0 b1 0 [(Sl ah_0_0 h_0.1 ch_0_0), (Sl ah_0_1 h_0.2 ch_0_1)] [] [], Ch.ro 0 (Sl ah_0_0 h_0.1 ch_0_0) h_0.1, Ch.ro 0 (Sl ah_0_1 h_0.2 ch_0_1) h_0.2] ∧ Md (cov []) σ4 σ27 ∧ Dp 0 (Sl a15 r12 c16) r12 K17 ∧ c16 = r12.length from hJ)
  clear hJ Hs
  rw [fr_lookL (L := [(4, (pt b3 0)), (9, (Sl a15 r12 c16)), (13, (Sl a23 xs21 c24))]) ⟨e4, e9, e13, trivial⟩]
  clear hoff hrel e4 e9 e13
  obtain ⟨r28, hx29, h'⟩ := bind_some h
  clear h
  have h := h'; clear h'
  have hc30 := c_slices_Clone_int_int (as_0 := a23) (cs_0 := c24) hx29
  refine st_call (cx_call hc30 (ent_f hc30.fn rfl) hn0 (show Hp S0 σ0 _ ([Ch.ro 0 (Sl a23 xs21 c24) xs21] ++ [Ch.big K17, Ch.ro 0 (Sl a23 xs21 c24) xs21, Ch.ro 0 (Sl a8 xs6 c9) xs6, Ch.bx n0 b3 0 [(.slice none 0 0), (.slice none 0 0)] [] [], Ch.bx n0 b1 0 [(Sl ah_0_0 h_0.1 ch_0_0), (Sl ah_0_1 h_0.2 ch_0_1)] [] [], Ch.ro 0 (Sl ah_0_0 h_0.1 ch_0_0) h_0.1, Ch.ro 0 (Sl ah_0_1 h_0.2 ch_0_1) h_0.2]) from (H.sel' [1, 0, 1, 2, 3, 4, 5, 6] rfl rfl))) wn ?_
  rintro _ σ33 ⟨_, ⟨a31, c32, rfl, rfl⟩, H, -⟩
  replace H : Hp S0 σ0 σ33 [Ch.own n0 n0 (Sl a31 r28 c32) r28, Ch.big K17, Ch.ro 0 (Sl a23 xs21 c24) xs21, Ch.ro 0 (Sl a8 xs6 c9) xs6, Ch.bx n0 b3 0 [(.slice none 0 0), (.slice none 0 0)] [] [], Ch.bx n0 b1 0 [(Sl ah_0_0 h_0.1 ch_0_0), (Sl ah_0_1 h_0.2 ch_0_1)] [] [], Ch.ro 0 (Sl ah_0_0 h_0.1 ch_0_0) h_0.1, Ch.ro 0 (Sl ah_0_1 h_0.2 ch_0_1) h_0.2] := H
  replace H : Hp S0 σ0 σ33 [Ch.own n0 n0 (Sl a31 r28 c32) r28, Ch.big K17, Ch.bx n0 b3 0 [(.slice none 0 0), (.slice none 0 0)] [] []] := H.sel' [0, 1, 4] rfl rfl
  refine st (v := (.agg #[(Sl a15 r12 c16), (Sl a31 r28 c32)])) (rv_build (ps := [(0, (Sl a15 r12 c16)), (1, (Sl a31 r28 c32))]) Try.underlying26 ti26 (bp26 Try.underlying26) rfl (by kernel_rfl)) ?_
  refine st_exS (ex_store_box (k := 0) (cs := [(.slice none 0 0), (.slice none 0 0)]) (vs := [(Sl a15 r12 c16), (Sl a31 r28 c32)]) (cs' := [(Sl a15 r12 c16), (Sl a31 r28 c32)]) H (i := 2) rfl ti26 rfl rfl rfl rfl rfl (Nat.le_of_ble_eq_true rfl) (by simp [plain]) rfl) wn ?_
  rintro σ34 ⟨H, -⟩
  refine w_end ?_
  refine q_then ?_
  refine c_ret ?_
  obtain rfl := Option.some.inj h
  exact fin_ret (v := (.agg #[(Sl a15 r12 c16), (Sl a31 r28 c32)])) (results_ok Try.results67 (res_cell rfl (run_cellRes (cs := [(Sl a15 r12 c16), (Sl a31 r28 c32)]) Try.underlying26 rfl ti26 rfl (H.cells 0 rfl)) res_nil) rfl) ⟨a15, c16, K17, a31, c32, rfl, rfl, hK18, ht19⟩ (H.sel' [2, 1] rfl rfl)

theorem c_impl_RollBackD {h_0 : (List (Int × (Int × (List Int) × Int))) × (List Int)} {t_1 : Int} {ah_0_0 : Option Addr} {ch_0_0 : Nat} {ah_0_1 : Option Addr} {ch_0_1 : Nat} {r : ((List (Int × (Int × (List Int) × Int))) × (List Int)) × Bool} (h : M.impl_RollBackD h_0 t_1 = some r) :
    Cal2 Try.prog 33 [(.agg #[(Sl ah_0_0 h_0.1 ch_0_0), (Sl ah_0_1 h_0.2 ch_0_1)]), (I t_1)] [Ch.ro 0 (Sl ah_0_0 h_0.1 ch_0_0) h_0.1, Ch.ro 0 (Sl ah_0_1 h_0.2 ch_0_1) h_0.2] (fun n0 v L => ∃ (az1 : Option Addr), ∃ (cz2 : Nat), ∃ (Kz3 : List Ch), ∃ (az6 : Option Addr), ∃ (cz7 : Nat), v = (.tuple #[(.agg #[(Sl az1 r.1.1 cz2), (Sl az6 r.1.2 cz7)]), (B r.2)]) ∧ L = [Ch.big Kz3, Ch.own n0 n0 (Sl az6 r.1.2 cz7) r.1.2] ∧ Dp 0 (Sl az1 r.1.1 cz2) r.1.1 Kz3 ∧ cz2 = r.1.1.length) := by
 refine cal2 (n := 20) Try.func33 rfl rfl rfl rfl ?_
 intro S0 σ0 n0 hn0 H
 unfold M.impl_RollBackD at h
 refine c_seq ?_
 refine rg ?_
 refine st_ex (ex_box (cs := [(Sl ah_0_0 h_0.1 ch_0_0), (Sl ah_0_1 h_0.2 ch_0_1)]) H hn0 rfl rfl) wn ?_
 rintro _ σ2 ⟨b1, rfl, H, -⟩
 refine st_ex (ex_alloc (cs := [(.slice none 0 0), (.slice none 0 0)]) H hn0 ti26 rfl) wn ?_
 rintro _ σ4 ⟨b3, rfl, H, -⟩
 refine st (v := (B false)) (rv_assign rfl) ?_
 refine w_end ?_
 refine q_then ?_
 refine c_seq ?_
 refine c_seq ?_
 obtain ⟨o5, hj, h'⟩ := bind_some h
 clear h
 refine c_cut (fun e a w => e = .normal ∧ ∃ (ρ : Nat → Value) (σ : St), a = fr 20 (updL ρ [(1, (I t_1)), (2, (pt b1 0)), (4, (pt b3 0)), (13, (B o5))]) ∧ w = σ.w ∧ Hp S0 σ0 σ [Ch.ro 0 (Sl ah_0_0 h_0.1 ch_0_0) h_0.1, Ch.ro 0 (Sl ah_0_1 h_0.2 ch_0_1) h_0.2, Ch.bx n0 b1 0 [(Sl ah_0_0 h_0.1 ch_0_0), (Sl ah_0_1 h_0.2 ch_0_1)] [] [], Ch.bx n0 b3 0 [(.slice none 0 0), (.slice none 0 0)] [] []]) ?_ ?_
 ·clear h'
  rename _ = some o5 => h
  refine rg ?_
  have hc6 := H.cells 1 rfl
  refine st (v := (.agg #[(Sl ah_0_0 h_0.1 ch_0_0), (Sl ah_0_1 h_0.2 ch_0_1)])) (rv_load (cs := [(Sl ah_0_0 h_0.1 ch_0_0), (Sl ah_0_1 h_0.2 ch_0_1)]) Try.underlying26 rfl ti26 rfl rfl hc6) ?_
  obtain ⟨r7, hx8, h'⟩ := bind_some h
  clear h
  have h := h'; clear h'
  have hc9 := c_impl_ValidHistoryD (ah_0_0 := ah_0_0) (ch_0_0 := ch_0_0) (ah_0_1 := ah_0_1) (ch_0_1 := ch_0_1) hx8
  refine st_call (cx_call hc9 (ent_f hc9.fn rfl) hn0 (show Hp S0 σ0 _ ([Ch.ro 0 (Sl ah_0_0 h_0.1 ch_0_0) h_0.1, Ch.ro 0 (Sl ah_0_1 h_0.2 ch_0_1) h_0.2] ++ [Ch.bx n0 b3 0 [(.slice none 0 0), (.slice none 0 0)] [] [], Ch.bx n0 b1 0 [(Sl ah_0_0 h_0.1 ch_0_0), (Sl ah_0_1 h_0.2 ch_0_1)] [] [], Ch.ro 0 (Sl ah_0_0 h_0.1 ch_0_0) h_0.1, Ch.ro 0 (Sl ah_0_1 h_0.2 ch_0_1) h_0.2]) from (H.sel' [2, 3, 0, 1, 2, 3] rfl rfl))) wn ?_
  rintro _ σ10 ⟨_, ⟨rfl, rfl⟩, H, -⟩
  replace H : Hp S0 σ0 σ10 [Ch.bx n0 b3 0 [(.slice none 0 0), (.slice none 0 0)] [] [], Ch.bx n0 b1 0 [(Sl ah_0_0 h_0.1 ch_0_0), (Sl ah_0_1 h_0.2 ch_0_1)] [] [], Ch.ro 0 (Sl ah_0_0 h_0.1 ch_0_0) h_0.1, Ch.ro 0 (Sl ah_0_1 h_0.2 ch_0_1) h_0.2] := H
  refine st (v := (B (!r7))) (rv_not rfl) ?_
  refine st (v := (B (!r7))) (rv_move rfl) ?_
  rcases Bool.eq_false_or_eq_true (!r7) with hb11 | hb11
  ·replace h := bif_t hb11 h
   refine st_skip (congrArg some hb11) ?_
   refine st_skip (congrArg some hb11) ?_
   refine st_skip (congrArg some hb11) ?_
   refine st (v := (B true)) (rv_pick_t (congrArg B hb11) rfl) ?_
   refine w_end ?_
   obtain rfl := Option.some.inj h
   exact ⟨rfl, _, σ10, fr_join ⟨rfl, rfl, rfl, rfl, trivial⟩, rfl, H.sel' [2, 3, 1, 0] rfl rfl⟩
  ·replace h := bif_f hb11 h
   refine st_g (v := (I t_1)) (congrArg some hb11) (rv_move rfl) ?_
   obtain ⟨r12, hx13, h'⟩ := bind_some h
   clear h
   have h := h'; clear h'
   have hc14 := c_impl_validMoment hx13
   refine st_call (cx_call hc14 (ent_f hc14.fn rfl) hn0 (show Hp S0 σ0 _ ([] ++ [Ch.bx n0 b3 0 [(.slice none 0 0), (.slice none 0 0)] [] [], Ch.bx n0 b1 0 [(Sl ah_0_0 h_0.1 ch_0_0), (Sl ah_0_1 h_0.2 ch_0_1)] [] [], Ch.ro 0 (Sl ah_0_0 h_0.1 ch_0_0) h_0.1, Ch.ro 0 (Sl ah_0_1 h_0.2 ch_0_1) h_0.2]) from (H.sel' [0, 1, 2, 3] rfl rfl))) (wanted_yes rfl (by exact (congrArg some hb11))) ?_
   rintro _ σ15 ⟨_, ⟨rfl, rfl⟩, H, -⟩
   replace H : Hp S0 σ0 σ15 [Ch.bx n0 b3 0 [(.slice none 0 0), (.slice none 0 0)] [] [], Ch.bx n0 b1 0 [(Sl ah_0_0 h_0.1 ch_0_0), (Sl ah_0_1 h_0.2 ch_0_1)] [] [], Ch.ro 0 (Sl ah_0_0 h_0.1 ch_0_0) h_0.1, Ch.ro 0 (Sl ah_0_1 h_0.2 ch_0_1) h_0.2] := H
   refine st_g (v := (B (!r12))) (congrArg some hb11) (rv_not rfl) ?_
   refine st (v := (B (!r12))) (rv_pick_f (congrArg B hb11) rfl) ?_
   refine w_end ?_
   obtain rfl := Option.some.inj h
   exact ⟨rfl, _, σ15, fr_join ⟨rfl, rfl, rfl, rfl, trivial⟩, rfl, H.sel' [2, 3, 1, 0] rfl rfl⟩
 ·clear hj
  have h := h'
  clear h' H
  rintro e a w ⟨rfl, ρ, σ16, rfl, rfl, H⟩
  refine q_then ?_
  refine cd_cond o5 rfl (fun hb17 => ?_) (fun hb17 => ?_)
  ·replace h := bif_t hb17 h
   refine c_seq ?_
   refine rg ?_
   refine st (v := (.agg #[(.slice none 0 0), (.slice none 0 0)])) (rv_build (ps := []) Try.underlying26 ti26 (bp26 Try.underlying26) rfl (by kernel_rfl)) ?_
   refine st_exS (ex_store_box (k := 0) (cs := [(.slice none 0 0), (.slice none 0 0)]) (vs := [(.slice none 0 0), (.slice none 0 0)]) (cs' := [(.slice none 0 0), (.slice none 0 0)]) H (i := 3) rfl ti26 rfl rfl rfl rfl rfl (Nat.le_of_ble_eq_true rfl) (by simp [plain]) rfl) wn ?_
   rintro σ18 ⟨H, -⟩
   refine st (v := (B false)) (rv_assign rfl) ?_
   refine w_end ?_
   refine q_then ?_
   refine c_ret ?_
   refine q_then_r ?_
   obtain ⟨K19, hK20, H⟩ := H.nilDp (Int × (Int × (List Int) × Int)) 0
   replace H := H.nilOwn Int n0 n0
   obtain rfl := Option.some.inj h
   exact fin_ret (v := (.tuple #[(.agg #[(.slice none 0 0), (.slice none 0 0)]), (B false)])) (results_ok Try.results33 (res_cell rfl (run_cellRes (cs := [(.slice none 0 0), (.slice none 0 0)]) Try.underlying26 rfl ti26 rfl (H.cells 2 rfl)) (res_tmp (v := (B false)) rfl res_nil)) rfl) ⟨none, 0, K19, none, 0, rfl, rfl, hK20, rfl⟩ (H.sel' [1, 0] rfl rfl)
  ·replace h := bif_f hb17 h
   refine c_skip ?_
   refine q_then ?_
   refine c_seq ?_
   have hc21 := H.cells 2 rfl
   have hc22 := H.cells 2 rfl
   obtain ⟨r23, hx24, h'⟩ := bind_some h
   clear h
   have h := h'; clear h'
   have hc25 := c_impl_History_entriesUntil (ah_0_0 := ah_0_0) (ch_0_0 := ch_0_0) (ah_0_1 := ah_0_1) (ch_0_1 := ch_0_1) hx24
   have Hs := H
   refine rg2 (σ := σ16) (Nm := Unit) 4 [3] [[false], [true]] [[(0, 0), (1, 1)], [(0, 0)], [(0, 0)], [(0, 1)]] 1 [fun _ => fun σm => Hp S0 σ0 σm [Ch.ro 0 (Sl ah_0_0 h_0.1 ch_0_0) h_0.1, Ch.ro 0 (Sl ah_0_1 h_0.2 ch_0_1) h_0.2, Ch.bx n0 b1 0 [(Sl ah_0_0 h_0.1 ch_0_0), (Sl ah_0_1 h_0.2 ch_0_1)] [] [], Ch.bx n0 b3 0 [(.slice none 0 0), (.slice none 0 0)] [] []] ∧ Md (cov []) σ16 σm, fun _ => fun σm => Hp S0 σ0 σm [Ch.ro 0 (Sl ah_0_0 h_0.1 ch_0_0) h_0.1, Ch.ro 0 (Sl ah_0_1 h_0.2 ch_0_1) h_0.2, Ch.bx n0 b1 0 [(Sl ah_0_0 h_0.1 ch_0_0), (Sl ah_0_1 h_0.2 ch_0_1)] [] [], Ch.bx n0 b3 0 [(.slice none 0 0), (.slice none 0 0)] [] []] ∧ Md (cov []) σ16 σm] [fun _ => (.agg #[(Sl ah_0_0 h_0.1 ch_0_0), (Sl ah_0_1 h_0.2 ch_0_1)]), fun _ => (.agg #[(Sl ah_0_0 h_0.1 ch_0_0), (Sl ah_0_1 h_0.2 ch_0_1)]), fun _ => (I t_1), fun _ => (I r23)] () (by kernel_rfl) (by kernel_rfl) ?_ ?_ ?_
   ·intro σm m0
    exact ⟨H.grow (m0.mono fun _ h => h.elim), m0⟩
   ·refine all_cons (by
      refine ⟨?_, ?_⟩
      ·intro _nm ρ σm hJ hoff hdep
       have e2 := look_off (N := 20) (hoff 2 rfl) rfl
       obtain ⟨H, m⟩ := id hJ
       have hc21 := H.cells 2 rfl
       exact dp_v (v := (.agg #[(Sl ah_0_0 h_0.1 ch_0_0), (Sl ah_0_1 h_0.2 ch_0_1)])) wn (rv_load (cs := [(Sl ah_0_0 h_0.1 ch_0_0), (Sl ah_0_1 h_0.2 ch_0_1)]) Try.underlying26 rfl ti26 e2 rfl hc21) rfl hJ
      refine ⟨?_, ?_⟩
      ·intro _nm ρ σm hJ hoff hdep
       have e2 := look_off (N := 20) (hoff 2 rfl) rfl
       obtain ⟨H, m⟩ := id hJ
       have hc21 := H.cells 2 rfl
       exact dp_v (v := (.agg #[(Sl ah_0_0 h_0.1 ch_0_0), (Sl ah_0_1 h_0.2 ch_0_1)])) wn (rv_load (cs := [(Sl ah_0_0 h_0.1 ch_0_0), (Sl ah_0_1 h_0.2 ch_0_1)]) Try.underlying26 rfl ti26 e2 rfl hc21) rfl hJ
      trivial) ?_
    refine all_cons (by
      refine ⟨?_, ?_⟩
      ·intro _nm ρ σm hJ hoff hdep
       have e2 := look_off (N := 20) (hoff 2 rfl) rfl
       obtain ⟨H, m⟩ := id hJ
       have hc22 := H.cells 2 rfl
       exact dp_v (v := (.agg #[(Sl ah_0_0 h_0.1 ch_0_0), (Sl ah_0_1 h_0.2 ch_0_1)])) wn (rv_load (cs := [(Sl ah_0_0 h_0.1 ch_0_0), (Sl ah_0_1 h_0.2 ch_0_1)]) Try.underlying26 rfl ti26 e2 rfl hc22) rfl hJ
      trivial) ?_
    refine ac rfl (by
      intro k _nm ρ σm hJ hoff hdep
      have e1 := look_off (N := 20) (hoff 1 rfl) rfl
      exact dp_v (v := (I t_1)) wn (rv_move e1) rfl hJ) ?_
    refine all_cons (by
      refine ⟨?_, ?_⟩
      ·intro _nm ρ σm hJ hoff hdep
       have e16 : look 20 ρ 16 = (.agg #[(Sl ah_0_0 h_0.1 ch_0_0), (Sl ah_0_1 h_0.2 ch_0_1)]) := hdep 1 rfl rfl 16 rfl
       have e17 : look 20 ρ 17 = (I t_1) := hdep 2 rfl rfl 17 rfl
       obtain ⟨H, m⟩ := id hJ
       refine dp_cx wn (cx_call hc25 (ent_f hc25.fn (by show [look 20 ρ 16, look 20 ρ 17] = _; rw [e16, e17])) hn0 (show Hp S0 σ0 _ ([Ch.ro 0 (Sl ah_0_0 h_0.1 ch_0_0) h_0.1, Ch.ro 0 (Sl ah_0_1 h_0.2 ch_0_1) h_0.2] ++ [Ch.ro 0 (Sl ah_0_0 h_0.1 ch_0_0) h_0.1, Ch.ro 0 (Sl ah_0_1 h_0.2 ch_0_1) h_0.2, Ch.bx n0 b1 0 [(Sl ah_0_0 h_0.1 ch_0_0), (Sl ah_0_1 h_0.2 ch_0_1)] [] [], Ch.bx n0 b3 0 [(.slice none 0 0), (.slice none 0 0)] [] []]) from (H.sel' [0, 1, 0, 1, 2, 3] rfl rfl))) ?_
       rintro _ σq ⟨_, ⟨rfl, rfl⟩, H2, m2⟩
       exact ⟨_, (), rfl, rfl, ⟨H2.sel' [0, 1, 2, 3] rfl rfl, m.comp0 (m2.mono (fun i h => by simp [cov, Ch.ro] at h))⟩, stab [0, 1, 2] (by kernel_rfl) ⟨rfl, rfl, rfl, trivial⟩⟩
      trivial) ?_
    exact all_nil
   ·intro _nm ρ σ26 hJ hoff hrel
    have e4 := look_off (N := 20) (hoff 4 rfl) rfl
    have e15 := hrel 0 rfl 15 rfl
    have e18 := hrel 3 rfl 18 rfl
    obtain ⟨H, -⟩ := (show Hp S0 σ0 σ26 [Ch.ro 0 (Sl ah_0_0 h_0.1 ch_0_0) h_0.1, Ch.ro 0 (Sl ah_0_1 h_0.2 ch_0_1) h_0.2, Ch.bx n0 b1 0 [(Sl ah_0_0 h_0.1 ch_0_0), (Sl ah_0_1 h_0.2 ch_0_1)] [] [], Ch.bx n0 b3 0 [(.slice none 0 0), (.slice none 0 0)] [] []] ∧ Md (cov []) σ16 σ26 from hJ)
    clear hJ Hs
    rw [fr_lookL (L := [(4, (pt b3 0)), (15, (.agg #[(Sl ah_0_0 h_0.1 ch_0_0), (Sl ah_0_1 h_0.2 ch_0_1)])), (18, (I r23))]) ⟨e4, e15, e18, trivial⟩]
    clear hoff hrel e4 e15 e18
    obtain ⟨r27, hx28, h'⟩ := bind_some h
    clear h
    have h := h'; clear h'
    have hc29 := c_impl_History_firstEntriesD (ah_0_0 := ah_0_0) (ch_0_0 := ch_0_0) (ah_0_1 := ah_0_1) (ch_0_1 := ch_0_1) hx28
    refine st_call (cx_call hc29 (ent_f hc29.fn rfl) hn0 (show Hp S0 σ0 _ ([Ch.ro 0 (Sl ah_0_0 h_0.1 ch_0_0) h_0.1, Ch.ro 0 (Sl ah_0_1 h_0.2 ch_0_1) h_0.2] ++ [Ch.ro 0 (Sl ah_0_0 h_0.1 ch_0_0) h_0.1, Ch.ro 0 (Sl ah_0_1 h_0.2 ch_0_1) h_0.2, Ch.bx n0 b1 0 [(Sl ah_0_0 h_0.1 ch_0_0), (Sl ah_0_1 h_0.2 ch_0_1)] [] [], Ch.bx n0 b3 0 [(.slice none 0 0), (.slice none 0 0)] [] []]) from (H.sel' [0, 1, 0, 1, 2, 3] rfl rfl))) wn ?_
    rintro _ σ37 ⟨_, ⟨a30, c31, K32, a35, c36, rfl, rfl, hK33, ht34⟩, H, -⟩
    replace H : Hp S0 σ0 σ37 [Ch.big K32, Ch.own n0 n0 (Sl a35 r27.2 c36) r27.2, Ch.ro 0 (Sl ah_0_0 h_0.1 ch_0_0) h_0.1, Ch.ro 0 (Sl ah_0_1 h_0.2 ch_0_1) h_0.2, Ch.bx n0 b1 0 [(Sl ah_0_0 h_0.1 ch_0_0), (Sl ah_0_1 h_0.2 ch_0_1)] [] [], Ch.bx n0 b3 0 [(.slice none 0 0), (.slice none 0 0)] [] []] := H
    refine st_exS (ex_store_box (k := 0) (cs := [(.slice none 0 0), (.slice none 0 0)]) (vs := [(Sl a30 r27.1 c31), (Sl a35 r27.2 c36)]) (cs' := [(Sl a30 r27.1 c31), (Sl a35 r27.2 c36)]) H (i := 5) rfl ti26 rfl rfl rfl rfl rfl (Nat.le_of_ble_eq_true rfl) (by simp [plain]) rfl) wn ?_
    rintro σ38 ⟨H, -⟩
    refine st (v := (B true)) (rv_assign rfl) ?_
    refine w_end ?_
    refine q_then ?_
    refine c_ret ?_
    obtain rfl := Option.some.inj h
    exact fin_ret (v := (.tuple #[(.agg #[(Sl a30 r27.1 c31), (Sl a35 r27.2 c36)]), (B true)])) (results_ok Try.results33 (res_cell rfl (run_cellRes (cs := [(Sl a30 r27.1 c31), (Sl a35 r27.2 c36)]) Try.underlying26 rfl ti26 rfl (H.cells 0 rfl)) (res_tmp (v := (B true)) rfl res_nil)) rfl) ⟨a30, c31, K32, a35, c36, rfl, rfl, hK33, ht34⟩ (H.sel' [1, 2] rfl rfl)

theorem c_laws_FnExactRollBack {aH_0 : (List (Int × (Int × (List Int) × Int))) × (List Int)} {aT_1 : Int} {aaH_0_0 : Option Addr} {caH_0_0 : Nat} {aaH_0_1 : Option Addr} {caH_0_1 : Nat} {r : Bool} (h : M.laws_FnExactRollBack aH_0 aT_1 = some r) :
    Cal2 Try.prog 7 [(.agg #[(Sl aaH_0_0 aH_0.1 caH_0_0), (Sl aaH_0_1 aH_0.2 caH_0_1)]), (I aT_1)] [Ch.ro 0 (Sl aaH_0_0 aH_0.1 caH_0_0) aH_0.1, Ch.ro 0 (Sl aaH_0_1 aH_0.2 caH_0_1) aH_0.2] (fun n0 v L => v = (B r) ∧ L = []) := by
 refine cal2 (n := 101) Try.func7 rfl rfl rfl rfl ?_
 intro S0 σ0 n0 hn0 H
 unfold M.laws_FnExactRollBack at h
 refine c_seq ?_
 refine rg ?_
 refine st_ex (ex_box (cs := [(Sl aaH_0_0 aH_0.1 caH_0_0), (Sl aaH_0_1 aH_0.2 caH_0_1)]) H hn0 rfl rfl) wn ?_
 rintro _ σ2 ⟨b1, rfl, H, -⟩
 refine st (v := (B false)) (rv_assign rfl) ?_
 refine w_end ?_
 refine q_then ?_
 refine c_seq ?_
 refine rg ?_
 refine st (v := (I 1048576)) (rv_assign rfl) ?_
 refine w_end ?_
 refine q_then ?_
 refine c_seq ?_
 refine rg ?_
 have hc3 := H.cells 0 rfl
 refine st (v := (.agg #[(Sl aaH_0_0 aH_0.1 caH_0_0), (Sl aaH_0_1 aH_0.2 caH_0_1)])) (rv_load (cs := [(Sl aaH_0_0 aH_0.1 caH_0_0), (Sl aaH_0_1 aH_0.2 caH_0_1)]) Try.underlying40 rfl ti40 rfl rfl hc3) ?_
 refine st (v := (I 1048576)) (rv_move rfl) ?_
 obtain ⟨r4, hx5, h'⟩ := bind_some h
 clear h
 have h := h'; clear h'
 have hc6 := c_laws_szHistory (aa_0_0 := aaH_0_0) (ca_0_0 := caH_0_0) (aa_0_1 := aaH_0_1) (ca_0_1 := caH_0_1) hx5
 refine st_call (cx_call hc6 (ent_f hc6.fn rfl) hn0 (show Hp S0 σ0 _ ([Ch.ro 0 (Sl aaH_0_0 aH_0.1 caH_0_0) aH_0.1, Ch.ro 0 (Sl aaH_0_1 aH_0.2 caH_0_1) aH_0.2] ++ [Ch.bx n0 b1 0 [(Sl aaH_0_0 aH_0.1 caH_0_0), (Sl aaH_0_1 aH_0.2 caH_0_1)] [] [], Ch.ro 0 (Sl aaH_0_0 aH_0.1 caH_0_0) aH_0.1, Ch.ro 0 (Sl aaH_0_1 aH_0.2 caH_0_1) aH_0.2]) from (H.sel' [1, 2, 0, 1, 2] rfl rfl))) wn ?_
 rintro _ σ7 ⟨_, ⟨rfl, rfl⟩, H, -⟩
 replace H : Hp S0 σ0 σ7 [Ch.bx n0 b1 0 [(Sl aaH_0_0 aH_0.1 caH_0_0), (Sl aaH_0_1 aH_0.2 caH_0_1)] [] [], Ch.ro 0 (Sl aaH_0_0 aH_0.1 caH_0_0) aH_0.1, Ch.ro 0 (Sl aaH_0_1 aH_0.2 caH_0_1) aH_0.2] := H
 refine st (v := (I r4)) (rv_assign rfl) ?_
 refine w_end ?_
 refine q_then ?_
 refine c_seq ?_
 refine c_seq ?_
 refine rg ?_
 refine st (v := (I r4)) (rv_move rfl) ?_
 refine st (v := (B (decide (r4 < 0)))) (rv_lss (a := r4) (b := 0) rfl rfl) ?_
 refine w_end ?_
 refine q_then ?_
 refine cd_cond (decide (r4 < 0)) rfl (fun hb8 => ?_) (fun hb8 => ?_)
 ·replace h := bif_t hb8 h
  refine c_seq ?_
  refine rg ?_
  refine st (v := (B true)) (rv_assign rfl) ?_
  refine w_end ?_
  refine q_then ?_
  refine c_ret ?_
  refine q_then_r ?_
  obtain rfl := Option.some.inj h
  exact fin_ret (v := (B true)) (results_ok Try.results7 (res_tmp (v := (B true)) rfl res_nil) rfl) ⟨rfl, rfl⟩ (H.sel' [] rfl rfl)
 ·replace h := bif_f hb8 h
  refine c_skip ?_
  refine q_then ?_
  refine c_seq ?_
  refine rg ?_
  have hc9 := H.cells 0 rfl
  refine st (v := (.agg #[(Sl aaH_0_0 aH_0.1 caH_0_0), (Sl aaH_0_1 aH_0.2 caH_0_1)])) (rv_load (cs := [(Sl aaH_0_0 aH_0.1 caH_0_0), (Sl aaH_0_1 aH_0.2 caH_0_1)]) Try.underlying40 rfl ti40 rfl rfl hc9) ?_
  obtain ⟨r10, hx11, h'⟩ := bind_some h
  clear h
  have h := h'; clear h'
  have hc12 := c_laws_toHistoryD (aa_0_0 := aaH_0_0) (ca_0_0 := caH_0_0) (aa_0_1 := aaH_0_1) (ca_0_1 := caH_0_1) hx11
  refine st_call (cx_call hc12 (ent_f hc12.fn rfl) hn0 (show Hp S0 σ0 _ ([Ch.ro 0 (Sl aaH_0_0 aH_0.1 caH_0_0) aH_0.1, Ch.ro 0 (Sl aaH_0_1 aH_0.2 caH_0_1) aH_0.2] ++ [Ch.bx n0 b1 0 [(Sl aaH_0_0 aH_0.1 caH_0_0), (Sl aaH_0_1 aH_0.2 caH_0_1)] [] [], Ch.ro 0 (Sl aaH_0_0 aH_0.1 caH_0_0) aH_0.1, Ch.ro 0 (Sl aaH_0_1 aH_0.2 caH_0_1) aH_0.2]) from (H.sel' [1, 2, 0, 1, 2] rfl rfl))) wn ?_
  rintro _ σ20 ⟨_, ⟨a13, c14, K15, a17, c18, rfl, rfl, hK16, ht19⟩, H, -⟩
  replace H : Hp S0 σ0 σ20 [Ch.big K15, Ch.own n0 n0 (Sl a17 r10.2 c18) r10.2, Ch.bx n0 b1 0 [(Sl aaH_0_0 aH_0.1 caH_0_0), (Sl aaH_0_1 aH_0.2 caH_0_1)] [] [], Ch.ro 0 (Sl aaH_0_0 aH_0.1 caH_0_0) aH_0.1, Ch.ro 0 (Sl aaH_0_1 aH_0.2 caH_0_1) aH_0.2] := H
  refine st (v := (I aT_1)) (rv_move rfl) ?_
  obtain ⟨σ21, hw22, H, -⟩ := H.pub 1 rfl (Nat.le_refl _)
  rw [← hw22]; clear hw22
  replace H := H.roLow 0 0 rfl (Nat.zero_le _)
  obtain ⟨r23, hx24, h'⟩ := bind_some h
  clear h
  have h := h'; clear h'
  have hc25 := c_spec_RollBack (ah_0_0 := a13) (ch_0_0 := c14) (ah_0_1 := a17) (ch_0_1 := c18) hx24
  have hle := Nat.le_trans hn0 H.size
  refine st_call (cx_lend (Loan.lendB hK16.lends (Loan.same Loan.nil)) hc25 (ent_f hc25.fn rfl) (show Hp S0 σ0 _ ([Ch.big K15] ++ ([Ch.ro 0 (Sl a17 r10.2 c18) r10.2] ++ [Ch.ro 0 (Sl a17 r10.2 c18) r10.2, Ch.ro n0 (Sl a17 r10.2 c18) r10.2, Ch.bx n0 b1 0 [(Sl aaH_0_0 aH_0.1 caH_0_0), (Sl aaH_0_1 aH_0.2 caH_0_1)] [] [], Ch.ro 0 (Sl aaH_0_0 aH_0.1 caH_0_0) aH_0.1, Ch.ro 0 (Sl aaH_0_1 aH_0.2 caH_0_1) aH_0.2])) from (H.sel' [2, 0, 0, 1, 3, 4, 5] rfl rfl)) (by rintro _ _ _ ⟨_, _, _, _, rfl, rfl⟩; exact ⟨Ab.own (Nat.le_refl _), Ab.ownSc, trivial⟩)) wn ?_
  rintro _ σ30 ⟨_, ⟨a26, c27, a28, c29, rfl, rfl⟩, H, -, -⟩
  replace H : Hp S0 σ0 σ30 [Ch.own σ21.size σ21.size (Sl a26 r23.1.1 c27) r23.1.1, Ch.own σ21.size σ21.size (Sl a28 r23.1.2 c29) r23.1.2, Ch.big K15, Ch.ro 0 (Sl a17 r10.2 c18) r10.2, Ch.ro n0 (Sl a17 r10.2 c18) r10.2, Ch.bx n0 b1 0 [(Sl aaH_0_0 aH_0.1 caH_0_0), (Sl aaH_0_1 aH_0.2 caH_0_1)] [] [], Ch.ro 0 (Sl aaH_0_0 aH_0.1 caH_0_0) aH_0.1, Ch.ro 0 (Sl aaH_0_1 aH_0.2 caH_0_1) aH_0.2] := H
  replace H := H.ownLow 0 n0 n0 rfl hle hle
  replace H := H.ownLow 1 n0 n0 rfl hle hle
  clear hle
  replace H : Hp S0 σ0 σ30 [Ch.own n0 n0 (Sl a28 r23.1.2 c29) r23.1.2, Ch.own n0 n0 (Sl a26 r23.1.1 c27) r23.1.1, Ch.big K15, Ch.ro 0 (Sl a17 r10.2 c18) r10.2, Ch.ro n0 (Sl a17 r10.2 c18) r10.2, Ch.bx n0 b1 0 [(Sl aaH_0_0 aH_0.1 caH_0_0), (Sl aaH_0_1 aH_0.2 caH_0_1)] [] [], Ch.ro 0 (Sl aaH_0_0 aH_0.1 caH_0_0) aH_0.1, Ch.ro 0 (Sl aaH_0_1 aH_0.2 caH_0_1) aH_0.2] := H
  replace H : Hp S0 σ0 σ30 [Ch.own n0 n0 (Sl a28 r23.1.2 c29) r23.1.2, Ch.own n0 n0 (Sl a26 r23.1.1 c27) r23.1.1, Ch.bx n0 b1 0 [(Sl aaH_0_0 aH_0.1 caH_0_0), (Sl aaH_0_1 aH_0.2 caH_0_1)] [] [], Ch.ro 0 (Sl aaH_0_0 aH_0.1 caH_0_0) aH_0.1, Ch.ro 0 (Sl aaH_0_1 aH_0.2 caH_0_1) aH_0.2] := H.sel' [0, 1, 5, 6, 7] rfl rfl
  refine st (v := (.tuple #[(.agg #[(Sl a26 r23.1.1 c27), (Sl a28 r23.1.2 c29)]), (B r23.2)])) (rv_move rfl) ?_
  refine st (v := (.agg #[(Sl a26 r23.1.1 c27), (Sl a28 r23.1.2 c29)])) (rv_extract rfl rfl) ?_
  refine st (v := (B r23.2)) (rv_extract rfl rfl) ?_
  refine st_ex (ex_alloc (cs := [(.slice none 0 0), (.slice none 0 0)]) H hn0 ti26 rfl) wn ?_
  rintro _ σ32 ⟨b31, rfl, H, -⟩
  refine st_exS (ex_store_box (k := 0) (cs := [(.slice none 0 0), (.slice none 0 0)]) (vs := [(Sl a26 r23.1.1 c27), (Sl a28 r23.1.2 c29)]) (cs' := [(Sl a26 r23.1.1 c27), (Sl a28 r23.1.2 c29)]) H (i := 0) rfl ti26 rfl rfl rfl rfl rfl (Nat.le_of_ble_eq_true rfl) (by simp [plain]) rfl) wn ?_
  rintro σ33 ⟨H, -⟩
  refine st (v := (B r23.2)) (rv_assign rfl) ?_
  refine w_end ?_
  refine q_then ?_
  refine c_seq ?_
  refine rg ?_
  have hc34 := H.cells 3 rfl
  refine st (v := (.agg #[(Sl aaH_0_0 aH_0.1 caH_0_0), (Sl aaH_0_1 aH_0.2 caH_0_1)])) (rv_load (cs := [(Sl aaH_0_0 aH_0.1 caH_0_0), (Sl aaH_0_1 aH_0.2 caH_0_1)]) Try.underlying40 rfl ti40 rfl rfl hc34) ?_
  obtain ⟨r35, hx36, h'⟩ := bind_some h
  clear h
  have h := h'; clear h'
  have hc37 := c_laws_toHistoryD (aa_0_0 := aaH_0_0) (ca_0_0 := caH_0_0) (aa_0_1 := aaH_0_1) (ca_0_1 := caH_0_1) hx36
  refine st_call (cx_call hc37 (ent_f hc37.fn rfl) hn0 (show Hp S0 σ0 _ ([Ch.ro 0 (Sl aaH_0_0 aH_0.1 caH_0_0) aH_0.1, Ch.ro 0 (Sl aaH_0_1 aH_0.2 caH_0_1) aH_0.2] ++ [Ch.bx n0 b31 0 [(Sl a26 r23.1.1 c27), (Sl a28 r23.1.2 c29)] [] [], Ch.own n0 n0 (Sl a28 r23.1.2 c29) r23.1.2, Ch.own n0 n0 (Sl a26 r23.1.1 c27) r23.1.1, Ch.bx n0 b1 0 [(Sl aaH_0_0 aH_0.1 caH_0_0), (Sl aaH_0_1 aH_0.2 caH_0_1)] [] [], Ch.ro 0 (Sl aaH_0_0 aH_0.1 caH_0_0) aH_0.1, Ch.ro 0 (Sl aaH_0_1 aH_0.2 caH_0_1) aH_0.2]) from (H.sel' [4, 5, 0, 1, 2, 3, 4, 5] rfl rfl))) wn ?_
  rintro _ σ45 ⟨_, ⟨a38, c39, K40, a42, c43, rfl, rfl, hK41, ht44⟩, H, -⟩
  replace H : Hp S0 σ0 σ45 [Ch.big K40, Ch.own n0 n0 (Sl a42 r35.2 c43) r35.2, Ch.bx n0 b31 0 [(Sl a26 r23.1.1 c27), (Sl a28 r23.1.2 c29)] [] [], Ch.own n0 n0 (Sl a28 r23.1.2 c29) r23.1.2, Ch.own n0 n0 (Sl a26 r23.1.1 c27) r23.1.1, Ch.bx n0 b1 0 [(Sl aaH_0_0 aH_0.1 caH_0_0), (Sl aaH_0_1 aH_0.2 caH_0_1)] [] [], Ch.ro 0 (Sl aaH_0_0 aH_0.1 caH_0_0) aH_0.1, Ch.ro 0 (Sl aaH_0_1 aH_0.2 caH_0_1) aH_0.2] := H
  refine st_ex (ex_alloc (cs := [(.slice none 0 0), (.slice none 0 0)]) H hn0 ti26 rfl) wn ?_
  rintro _ σ47 ⟨b46, rfl, H, -⟩
  refine st_exS (ex_store_box (k := 0) (cs := [(.slice none 0 0), (.slice none 0 0)]) (vs := [(Sl a38 r35.1 c39), (Sl a42 r35.2 c43)]) (cs' := [(Sl a38 r35.1 c39), (Sl a42 r35.2 c43)]) H (i := 0) rfl ti26 rfl rfl rfl rfl rfl (Nat.le_of_ble_eq_true rfl) (by simp [plain]) rfl) wn ?_
  rintro σ48 ⟨H, -⟩
  refine w_end ?_
  refine q_then ?_
  refine c_seq ?_
  refine rg ?_
  have hc49 := H.cells 0 rfl
  refine st (v := (.agg #[(Sl a38 r35.1 c39), (Sl a42 r35.2 c43)])) (rv_load (cs := [(Sl a38 r35.1 c39), (Sl a42 r35.2 c43)]) Try.underlying26 rfl ti26 rfl rfl hc49) ?_
  refine st (v := (I aT_1)) (rv_move rfl) ?_
  obtain ⟨r50, hx51, h'⟩ := bind_some h
  clear h
  have h := h'; clear h'
  have hc52 := c_impl_RollBackD (ah_0_0 := a38) (ch_0_0 := c39) (ah_0_1 := a42) (ch_0_1 := c43) hx51
  have hle := Nat.le_trans hn0 H.size
  refine st_call (cx_lend (Loan.lendB hK41.lends (Loan.lend Loan.nil)) hc52 (ent_f hc52.fn rfl) (show Hp S0 σ0 _ ([Ch.big K40, Ch.own n0 n0 (Sl a42 r35.2 c43) r35.2] ++ ([] ++ [Ch.bx n0 b46 0 [(Sl a38 r35.1 c39), (Sl a42 r35.2 c43)] [] [], Ch.bx n0 b31 0 [(Sl a26 r23.1.1 c27), (Sl a28 r23.1.2 c29)] [] [], Ch.own n0 n0 (Sl a28 r23.1.2 c29) r23.1.2, Ch.own n0 n0 (Sl a26 r23.1.1 c27) r23.1.1, Ch.bx n0 b1 0 [(Sl aaH_0_0 aH_0.1 caH_0_0), (Sl aaH_0_1 aH_0.2 caH_0_1)] [] [], Ch.ro 0 (Sl aaH_0_0 aH_0.1 caH_0_0) aH_0.1, Ch.ro 0 (Sl aaH_0_1 aH_0.2 caH_0_1) aH_0.2])) from (H.sel' [1, 2, 0, 3, 4, 5, 6, 7, 8] rfl rfl)) (by rintro _ _ _ ⟨_, _, _, _, _, rfl, rfl, hK56, _⟩; exact ⟨Dp.abSc hK56, Ab.ownSc, trivial⟩)) wn ?_
  rintro _ σ60 ⟨_, ⟨a53, c54, K55, a58, c59, rfl, rfl, hK56, ht57⟩, H, -, -⟩
  replace H : Hp S0 σ0 σ60 [Ch.big K55, Ch.own σ48.size σ48.size (Sl a58 r50.1.2 c59) r50.1.2, Ch.big K40, Ch.own n0 n0 (Sl a42 r35.2 c43) r35.2, Ch.bx n0 b46 0 [(Sl a38 r35.1 c39), (Sl a42 r35.2 c43)] [] [], Ch.bx n0 b31 0 [(Sl a26 r23.1.1 c27), (Sl a28 r23.1.2 c29)] [] [], Ch.own n0 n0 (Sl a28 r23.1.2 c29) r23.1.2, Ch.own n0 n0 (Sl a26 r23.1.1 c27) r23.1.1, Ch.bx n0 b1 0 [(Sl aaH_0_0 aH_0.1 caH_0_0), (Sl aaH_0_1 aH_0.2 caH_0_1)] [] [], Ch.ro 0 (Sl aaH_0_0 aH_0.1 caH_0_0) aH_0.1, Ch.ro 0 (Sl aaH_0_1 aH_0.2 caH_0_1) aH_0.2] := H
  replace H := H.ownLow 1 n0 n0 rfl hle hle
  clear hle
  replace H : Hp S0 σ0 σ60 [Ch.own n0 n0 (Sl a58 r50.1.2 c59) r50.1.2, Ch.big K55, Ch.big K40, Ch.own n0 n0 (Sl a42 r35.2 c43) r35.2, Ch.bx n0 b46 0 [(Sl a38 r35.1 c39), (Sl a42 r35.2 c43)] [] [], Ch.bx n0 b31 0 [(Sl a26 r23.1.1 c27), (Sl a28 r23.1.2 c29)] [] [], Ch.own n0 n0 (Sl a28 r23.1.2 c29) r23.1.2, Ch.own n0 n0 (Sl a26 r23.1.1 c27) r23.1.1, Ch.bx n0 b1 0 [(Sl aaH_0_0 aH_0.1 caH_0_0), (Sl aaH_0_1 aH_0.2 caH_0_1)] [] [], Ch.ro 0 (Sl aaH_0_0 aH_0.1 caH_0_0) aH_0.1, Ch.ro 0 (Sl aaH_0_1 aH_0.2 caH_0_1) aH_0.2] := H
  refine st (v := (.tuple #[(.agg #[(Sl a53 r50.1.1 c54), (Sl a58 r50.1.2 c59)]), (B r50.2)])) (rv_move rfl) ?_
  refine st (v := (.agg #[(Sl a53 r50.1.1 c54), (Sl a58 r50.1.2 c59)])) (rv_extract rfl rfl) ?_
  refine st (v := (B r50.2)) (rv_extract rfl rfl) ?_
  refine st_ex (ex_alloc (cs := [(.slice none 0 0), (.slice none 0 0)]) H hn0 ti26 rfl) wn ?_
  rintro _ σ62 ⟨b61, rfl, H, -⟩
  refine st_exS (ex_store_box (k := 0) (cs := [(.slice none 0 0), (.slice none 0 0)]) (vs := [(Sl a53 r50.1.1 c54), (Sl a58 r50.1.2 c59)]) (cs' := [(Sl a53 r50.1.1 c54), (Sl a58 r50.1.2 c59)]) H (i := 0) rfl ti26 rfl rfl rfl rfl rfl (Nat.le_of_ble_eq_true rfl) (by simp [plain]) rfl) wn ?_
  rintro σ63 ⟨H, -⟩
  refine st (v := (B r50.2)) (rv_assign rfl) ?_
  refine w_end ?_
  refine q_then ?_
  refine c_seq ?_
  refine c_seq ?_
  obtain ⟨o64, hj, h'⟩ := bind_some h
  clear h
  refine c_cut (fun e a w => e = .normal ∧ ∃ (ρ : Nat → Value) (σ : St), a = fr 101 (updL ρ [(1, (I aT_1)), (2, (pt b1 0)), (6, (pt b31 0)), (7, (B r23.2)), (8, (pt b46 0)), (9, (pt b61 0)), (10, (B r50.2)), (44, (B o64))]) ∧ w = σ.w ∧ Hp S0 σ0 σ [Ch.ro 0 (Sl aaH_0_0 aH_0.1 caH_0_0) aH_0.1, Ch.ro 0 (Sl aaH_0_1 aH_0.2 caH_0_1) aH_0.2, Ch.bx n0 b1 0 [(Sl aaH_0_0 aH_0.1 caH_0_0), (Sl aaH_0_1 aH_0.2 caH_0_1)] [] [], Ch.own n0 n0 (Sl a26 r23.1.1 c27) r23.1.1, Ch.own n0 n0 (Sl a28 r23.1.2 c29) r23.1.2, Ch.bx n0 b31 0 [(Sl a26 r23.1.1 c27), (Sl a28 r23.1.2 c29)] [] [], Ch.big K40, Ch.own n0 n0 (Sl a42 r35.2 c43) r35.2, Ch.bx n0 b46 0 [(Sl a38 r35.1 c39), (Sl a42 r35.2 c43)] [] [], Ch.big K55, Ch.own n0 n0 (Sl a58 r50.1.2 c59) r50.1.2, Ch.bx n0 b61 0 [(Sl a53 r50.1.1 c54), (Sl a58 r50.1.2 c59)] [] []]) ?_ ?_
  ·clear h'
   rename _ = some o64 => h
   refine rg ?_
   have hc65 := H.cells 0 rfl
   refine st (v := (.agg #[(Sl a53 r50.1.1 c54), (Sl a58 r50.1.2 c59)])) (rv_load (cs := [(Sl a53 r50.1.1 c54), (Sl a58 r50.1.2 c59)]) Try.underlying26 rfl ti26 rfl rfl hc65) ?_
   have hc66 := H.cells 6 rfl
   refine st (v := (.agg #[(Sl a26 r23.1.1 c27), (Sl a28 r23.1.2 c29)])) (rv_load (cs := [(Sl a26 r23.1.1 c27), (Sl a28 r23.1.2 c29)]) Try.underlying26 rfl ti26 rfl rfl hc66) ?_
   obtain ⟨r67, hx68, h'⟩ := bind_some h
   clear h
   have h := h'; clear h'
   have hc69 := c_laws_eqHistory (aa_0_0 := a53) (ca_0_0 := c54) (aa_0_1 := a58) (ca_0_1 := c59) (ab_1_0 := a26) (cb_1_0 := c27) (ab_1_1 := a28) (cb_1_1 := c29) hx68
   have hle := Nat.le_trans hn0 H.size
   refine st_call (cx_lend (Loan.lendB hK56.lends (Loan.lend (Loan.lend (Loan.lend Loan.nil)))) hc69 (ent_f hc69.fn rfl) (show Hp S0 σ0 _ ([Ch.big K55, Ch.own n0 n0 (Sl a58 r50.1.2 c59) r50.1.2, Ch.own n0 n0 (Sl a26 r23.1.1 c27) r23.1.1, Ch.own n0 n0 (Sl a28 r23.1.2 c29) r23.1.2] ++ ([] ++ [Ch.bx n0 b61 0 [(Sl a53 r50.1.1 c54), (Sl a58 r50.1.2 c59)] [] [], Ch.big K40, Ch.own n0 n0 (Sl a42 r35.2 c43) r35.2, Ch.bx n0 b46 0 [(Sl a38 r35.1 c39), (Sl a42 r35.2 c43)] [] [], Ch.bx n0 b31 0 [(Sl a26 r23.1.1 c27), (Sl a28 r23.1.2 c29)] [] [], Ch.bx n0 b1 0 [(Sl aaH_0_0 aH_0.1 caH_0_0), (Sl aaH_0_1 aH_0.2 caH_0_1)] [] [], Ch.ro 0 (Sl aaH_0_0 aH_0.1 caH_0_0) aH_0.1, Ch.ro 0 (Sl aaH_0_1 aH_0.2 caH_0_1) aH_0.2])) from (H.sel' [2, 1, 8, 7, 0, 3, 4, 5, 6, 9, 10, 11] rfl rfl)) (by rintro _ _ _ ⟨rfl, rfl⟩; exact trivial)) wn ?_
   rintro _ σ70 ⟨_, ⟨rfl, rfl⟩, H, -, -⟩
   replace H : Hp S0 σ0 σ70 [Ch.big K55, Ch.own n0 n0 (Sl a58 r50.1.2 c59) r50.1.2, Ch.own n0 n0 (Sl a26 r23.1.1 c27) r23.1.1, Ch.own n0 n0 (Sl a28 r23.1.2 c29) r23.1.2, Ch.bx n0 b61 0 [(Sl a53 r50.1.1 c54), (Sl a58 r50.1.2 c59)] [] [], Ch.big K40, Ch.own n0 n0 (Sl a42 r35.2 c43) r35.2, Ch.bx n0 b46 0 [(Sl a38 r35.1 c39), (Sl a42 r35.2 c43)] [] [], Ch.bx n0 b31 0 [(Sl a26 r23.1.1 c27), (Sl a28 r23.1.2 c29)] [] [], Ch.bx n0 b1 0 [(Sl aaH_0_0 aH_0.1 caH_0_0), (Sl aaH_0_1 aH_0.2 caH_0_1)] [] [], Ch.ro 0 (Sl aaH_0_0 aH_0.1 caH_0_0) aH_0.1, Ch.ro 0 (Sl aaH_0_1 aH_0.2 caH_0_1) aH_0.2] := H
   clear hle
   replace H : Hp S0 σ0 σ70 [Ch.big K55, Ch.own n0 n0 (Sl a58 r50.1.2 c59) r50.1.2, Ch.own n0 n0 (Sl a26 r23.1.1 c27) r23.1.1, Ch.own n0 n0 (Sl a28 r23.1.2 c29) r23.1.2, Ch.bx n0 b61 0 [(Sl a53 r50.1.1 c54), (Sl a58 r50.1.2 c59)] [] [], Ch.big K40, Ch.own n0 n0 (Sl a42 r35.2 c43) r35.2, Ch.bx n0 b46 0 [(Sl a38 r35.1 c39), (Sl a42 r35.2 c43)] [] [], Ch.bx n0 b31 0 [(Sl a26 r23.1.1 c27), (Sl a28 r23.1.2 c29)] [] [], Ch.bx n0 b1 0 [(Sl aaH_0_0 aH_0.1 caH_0_0), (Sl aaH_0_1 aH_0.2 caH_0_1)] [] [], Ch.ro 0 (Sl aaH_0_0 aH_0.1 caH_0_0) aH_0.1, Ch.ro 0 (Sl aaH_0_1 aH_0.2 caH_0_1) aH_0.2] := H
   refine st (v := (B (!r67))) (rv_not rfl) ?_
   refine st (v := (B (!r67))) (rv_move rfl) ?_
   rcases Bool.eq_false_or_eq_true (!r67) with hb71 | hb71
   ·replace h := bif_t hb71 h
    refine st_skip (congrArg some hb71) ?_
    refine st_skip (congrArg some hb71) ?_
    refine st_skip (congrArg some hb71) ?_
    refine st (v := (B true)) (rv_pick_t (congrArg B hb71) rfl) ?_
    refine w_end ?_
    obtain rfl := Option.some.inj h
    exact ⟨rfl, _, σ70, fr_join ⟨rfl, rfl, rfl, rfl, rfl, rfl, rfl, rfl, trivial⟩, rfl, H.sel' [10, 11, 9, 2, 3, 8, 5, 6, 7, 0, 1, 4] rfl rfl⟩
   ·replace h := bif_f hb71 h
    refine st_g (v := (B r50.2)) (congrArg some hb71) (rv_move rfl) ?_
    refine st_g (v := (B r23.2)) (congrArg some hb71) (rv_move rfl) ?_
    refine st_g (v := (B (r50.2 != r23.2))) (congrArg some hb71) (rv_bneq Try.underlying4 rfl rfl) ?_
    refine st (v := (B (r50.2 != r23.2))) (rv_pick_f (congrArg B hb71) rfl) ?_
    refine w_end ?_
    obtain rfl := Option.some.inj h
    exact ⟨rfl, _, σ70, fr_join ⟨rfl, rfl, rfl, rfl, rfl, rfl, rfl, rfl, trivial⟩, rfl, H.sel' [10, 11, 9, 2, 3, 8, 5, 6, 7, 0, 1, 4] rfl rfl⟩
  ·clear hj
   have h := h'
   clear h' H
   rintro e a w ⟨rfl, ρ, σ72, rfl, rfl, H⟩
   refine q_then ?_
   refine cd_cond o64 rfl (fun hb73 => ?_) (fun hb73 => ?_)
   ·replace h := bif_t hb73 h
    refine c_seq ?_
    refine rg ?_
    refine st (v := (B false)) (rv_assign rfl) ?_
    refine w_end ?_
    refine q_then ?_
    refine c_ret ?_
    refine q_then_r ?_
    obtain rfl := Option.some.inj h
    exact fin_ret (v := (B false)) (results_ok Try.results7 (res_tmp (v := (B false)) rfl res_nil) rfl) ⟨rfl, rfl⟩ (H.sel' [] rfl rfl)
   ·replace h := bif_f hb73 h
    refine c_skip ?_
    refine q_then ?_
    refine c_seq ?_
    refine c_seq ?_
    have hc74 := H.cells 8 rfl
    have hc75 := H.cells 2 rfl
    obtain ⟨r76, hx77, h'⟩ := bind_some h
    clear h
    have h := h'; clear h'
    have hc78 := c_laws_toHistoryD (aa_0_0 := aaH_0_0) (ca_0_0 := caH_0_0) (aa_0_1 := aaH_0_1) (ca_0_1 := caH_0_1) hx77
    have Hs := H
    refine rg2 (σ := σ72) (Nm := (Option Addr) × (Nat) × (List Ch) × (Option Addr) × (Nat)) 3 [2] [[false], [true]] [[(0, 0), (1, 1)], [(0, 0)], [(0, 1)]] 1 [fun ((a79, c80, K81, a83, c84) : (Option Addr) × (Nat) × (List Ch) × (Option Addr) × (Nat)) => fun σm => Hp S0 σ0 σm [Ch.ro 0 (Sl aaH_0_0 aH_0.1 caH_0_0) aH_0.1, Ch.ro 0 (Sl aaH_0_1 aH_0.2 caH_0_1) aH_0.2, Ch.bx n0 b1 0 [(Sl aaH_0_0 aH_0.1 caH_0_0), (Sl aaH_0_1 aH_0.2 caH_0_1)] [] [], Ch.own n0 n0 (Sl a26 r23.1.1 c27) r23.1.1, Ch.own n0 n0 (Sl a28 r23.1.2 c29) r23.1.2, Ch.bx n0 b31 0 [(Sl a26 r23.1.1 c27), (Sl a28 r23.1.2 c29)] [] [], Ch.big K40, Ch.own n0 n0 (Sl a42 r35.2 c43) r35.2, Ch.bx n0 b46 0 [(Sl a38 r35.1 c39), (Sl a42 r35.2 c43)] [] [], Ch.big K55, Ch.own n0 n0 (Sl a58 r50.1.2 c59) r50.1.2, Ch.bx n0 b61 0 [(Sl a53 r50.1.1 c54), (Sl a58 r50.1.2 c59)] [] []] ∧ Md (cov []) σ72 σm, fun ((a79, c80, K81, a83, c84) : (Option Addr) × (Nat) × (List Ch) × (Option Addr) × (Nat)) => fun σm => Hp S0 σ0 σm [Ch.big K81, Ch.own n0 n0 (Sl a83 r76.2 c84) r76.2, Ch.ro 0 (Sl aaH_0_0 aH_0.1 caH_0_0) aH_0.1, Ch.ro 0 (Sl aaH_0_1 aH_0.2 caH_0_1) aH_0.2, Ch.bx n0 b1 0 [(Sl aaH_0_0 aH_0.1 caH_0_0), (Sl aaH_0_1 aH_0.2 caH_0_1)] [] [], Ch.own n0 n0 (Sl a26 r23.1.1 c27) r23.1.1, Ch.own n0 n0 (Sl a28 r23.1.2 c29) r23.1.2, Ch.bx n0 b31 0 [(Sl a26 r23.1.1 c27), (Sl a28 r23.1.2 c29)] [] [], Ch.big K40, Ch.own n0 n0 (Sl a42 r35.2 c43) r35.2, Ch.bx n0 b46 0 [(Sl a38 r35.1 c39), (Sl a42 r35.2 c43)] [] [], Ch.big K55, Ch.own n0 n0 (Sl a58 r50.1.2 c59) r50.1.2, Ch.bx n0 b61 0 [(Sl a53 r50.1.1 c54), (Sl a58 r50.1.2 c59)] [] []] ∧ Md (cov []) σ72 σm ∧ Dp 0 (Sl a79 r76.1 c80) r76.1 K81 ∧ c84 = r76.2.length] [fun ((a79, c80, K81, a83, c84) : (Option Addr) × (Nat) × (List Ch) × (Option Addr) × (Nat)) => (.agg #[(Sl a38 r35.1 c39), (Sl a42 r35.2 c43)]), fun ((a79, c80, K81, a83, c84) : (Option Addr) × (Nat) × (List Ch) × (Option Addr) × (Nat)) => (.agg #[(Sl aaH_0_0 aH_0.1 caH_0_0), (Sl aaH_0_1 aH_0.2 caH_0_1)]), fun ((a79, c80, K81, a83, c84) : (Option Addr) × (Nat) × (List Ch) × (Option Addr) × (Nat)) => (.agg #[(Sl a79 r76.1 c80), (Sl a83 r76.2 c84)])] (none, 0, [], none, 0) (by kernel_rfl) (by kernel_rfl) ?_ ?_ ?_
    ·intro σm m0
     exact ⟨H.grow (m0.mono fun _ h => h.elim), m0⟩
    ·refine all_cons (by
       refine ⟨?_, ?_⟩
       ·rintro ⟨a79, c80, K81, a83, c84⟩ ρ σm hJ hoff hdep
        have e8 := look_off (N := 101) (hoff 8 rfl) rfl
        obtain ⟨H, m⟩ := id hJ
        have hc74 := H.cells 8 rfl
        exact dp_v (v := (.agg #[(Sl a38 r35.1 c39), (Sl a42 r35.2 c43)])) wn (rv_load (cs := [(Sl a38 r35.1 c39), (Sl a42 r35.2 c43)]) Try.underlying26 rfl ti26 e8 rfl hc74) rfl hJ
       refine ⟨?_, ?_⟩
       ·rintro ⟨a79, c80, K81, a83, c84⟩ ρ σm hJ hoff hdep
        have e8 := look_off (N := 101) (hoff 8 rfl) rfl
        obtain ⟨H, m, hK82, ht85⟩ := id hJ
        have hc74 := H.cells 10 rfl
        exact dp_v (v := (.agg #[(Sl a38 r35.1 c39), (Sl a42 r35.2 c43)])) wn (rv_load (cs := [(Sl a38 r35.1 c39), (Sl a42 r35.2 c43)]) Try.underlying26 rfl ti26 e8 rfl hc74) rfl hJ
       trivial) ?_
     refine all_cons (by
       refine ⟨?_, ?_⟩
       ·rintro ⟨a79, c80, K81, a83, c84⟩ ρ σm hJ hoff hdep
        have e2 := look_off (N := 101) (hoff 2 rfl) rfl
        obtain ⟨H, m⟩ := id hJ
        have hc75 := H.cells 2 rfl
        exact dp_v (v := (.agg #[(Sl aaH_0_0 aH_0.1 caH_0_0), (Sl aaH_0_1 aH_0.2 caH_0_1)])) wn (rv_load (cs := [(Sl aaH_0_0 aH_0.1 caH_0_0), (Sl aaH_0_1 aH_0.2 caH_0_1)]) Try.underlying40 rfl ti40 e2 rfl hc75) rfl hJ
       trivial) ?_
     refine all_cons (by
       refine ⟨?_, ?_⟩
       ·rintro ⟨a79, c80, K81, a83, c84⟩ ρ σm hJ hoff hdep
        have e46 : look 101 ρ 46 = (.agg #[(Sl aaH_0_0 aH_0.1 caH_0_0), (Sl aaH_0_1 aH_0.2 caH_0_1)]) := hdep 1 rfl rfl 46 rfl
        obtain ⟨H, m⟩ := id hJ
        refine dp_cx wn (cx_call hc78 (ent_f hc78.fn (by show [look 101 ρ 46] = _; rw [e46])) hn0 (show Hp S0 σ0 _ ([Ch.ro 0 (Sl aaH_0_0 aH_0.1 caH_0_0) aH_0.1, Ch.ro 0 (Sl aaH_0_1 aH_0.2 caH_0_1) aH_0.2] ++ [Ch.ro 0 (Sl aaH_0_0 aH_0.1 caH_0_0) aH_0.1, Ch.ro 0 (Sl aaH_0_1 aH_0.2 caH_0_1) aH_0.2, Ch.bx n0 b1 0 [(Sl aaH_0_0 aH_0.1 caH_0_0), (Sl aaH_0_1 aH_0.2 caH_0_1)] [] [], Ch.own n0 n0 (Sl a26 r23.1.1 c27) r23.1.1, Ch.own n0 n0 (Sl a28 r23.1.2 c29) r23.1.2, Ch.bx n0 b31 0 [(Sl a26 r23.1.1 c27), (Sl a28 r23.1.2 c29)] [] [], Ch.big K40, Ch.own n0 n0 (Sl a42 r35.2 c43) r35.2, Ch.bx n0 b46 0 [(Sl a38 r35.1 c39), (Sl a42 r35.2 c43)] [] [], Ch.big K55, Ch.own n0 n0 (Sl a58 r50.1.2 c59) r50.1.2, Ch.bx n0 b61 0 [(Sl a53 r50.1.1 c54), (Sl a58 r50.1.2 c59)] [] []]) from (H.sel' [0, 1, 0, 1, 2, 3, 4, 5, 6, 7, 8, 9, 10, 11] rfl rfl))) ?_
        rintro _ σq ⟨_, ⟨a79x, c80x, K81x, a83x, c84x, rfl, rfl, hK82, ht85⟩, H2, m2⟩
        exact ⟨_, (a79x, c80x, K81x, a83x, c84x), rfl, rfl, ⟨H2.sel' [0, 1, 2, 3, 4, 5, 6, 7, 8, 9, 10, 11, 12, 13] rfl rfl, m.comp0 (m2.mono (fun i h => by simp [cov, Ch.ro] at h)), hK82, ht85⟩, stab [0, 1] (by kernel_rfl) ⟨rfl, rfl, trivial⟩⟩
       trivial) ?_
     exact all_nil
    ·rintro ⟨a79, c80, K81, a83, c84⟩ ρ σ86 hJ hoff hrel
     have e1 := look_off (N := 101) (hoff 1 rfl) rfl
     have e2 := look_off (N := 101) (hoff 2 rfl) rfl
     have e6 := look_off (N := 101) (hoff 6 rfl) rfl
     have e7 := look_off (N := 101) (hoff 7 rfl) rfl
     have e8 := look_off (N := 101) (hoff 8 rfl) rfl
     have e9 := look_off (N := 101) (hoff 9 rfl) rfl
     have e10 := look_off (N := 101) (hoff 10 rfl) rfl
     have e45 := hrel 0 rfl 45 rfl
     have e47 := hrel 2 rfl 47 rfl
     obtain ⟨H, -, hK82, ht85⟩ := (show Hp S0 σ0 σ86 [Ch.big K81, Ch.own n0 n0 (Sl a83 r76.2 c84) r76.2, Ch.ro 0 (Sl aaH_0_0 aH_0.1 caH_0_0) aH_0.1, Ch.ro 0 (Sl aaH_0_1 aH_0.2 caH_0_1) aH_0.2, Ch.bx n0 b1 0 [(Sl aaH_0_0 aH_0.1 caH_0_0), (Sl aaH_0_1 aH_0.2 caH_0_1)] [] [], Ch.own n0 n0 (Sl a26 r23.1.1 c27) r23.1.1, Ch.own n0 n0 (Sl a28 r23.1.2 c29) r23.1.2, Ch.bx n0 b31 0 [(Sl a26 r23.1.1 c27), (Sl a28 r23.1.2 c29)] [] [], Ch.big K40, Ch.own n0 n0 (Sl a42 r35.2 c43) r35.2, Ch.bx n0 b46 0 [(Sl a38 r35.1 c39), (Sl a42 r35.2 c43)] [] [], Ch.big K55, Ch.own n0 n0 (Sl a58 r50.1.2 c59) r50.1.2, Ch.bx n0 b61 0 [(Sl a53 r50.1.1 c54), (Sl a58 r50.1.2 c59)] [] []] ∧ Md (cov []) σ72 σ86 ∧ Dp 0 (Sl a79 r76.1 c80) r76.1 K81 ∧ c84 = r76.2.length from hJ)
     clear hJ Hs
     rw [fr_lookL (L := [(1, (I aT_1)), (2, (pt b1 0)), (6, (pt b31 0)), (7, (B r23.2)), (8, (pt b46 0)), (9, (pt b61 0)), (10, (B r50.2)), (45, (.agg #[(Sl a38 r35.1 c39), (Sl a42 r35.2 c43)])), (47, (.agg #[(Sl a79 r76.1 c80), (Sl a83 r76.2 c84)]))]) ⟨e1, e2, e6, e7, e8, e9, e10, e45, e47, trivial⟩]
     clear hoff hrel e1 e2 e6 e7 e8 e9 e10 e45 e47
     obtain ⟨σ87, hw88, H, -⟩ := H.pub 1 rfl (Nat.le_refl _)
     rw [← hw88]; clear hw88
     replace H := H.roLow 0 0 rfl (Nat.zero_le _)
     obtain ⟨r89, hx90, h'⟩ := bind_some h
     clear h
     have h := h'; clear h'
     have hc91 := c_laws_eqHistory (aa_0_0 := a38) (ca_0_0 := c39) (aa_0_1 := a42) (ca_0_1 := c43) (ab_1_0 := a79) (cb_1_0 := c80) (ab_1_1 := a83) (cb_1_1 := c84) hx90
     have hle := Nat.le_trans hn0 H.size
     refine st_call (cx_lend (Loan.lendB hK41.lends (Loan.lend (Loan.lendB hK82.lends (Loan.same Loan.nil)))) hc91 (ent_f hc91.fn rfl) (show Hp S0 σ0 _ ([Ch.big K40, Ch.own n0 n0 (Sl a42 r35.2 c43) r35.2, Ch.big K81] ++ ([Ch.ro 0 (Sl a83 r76.2 c84) r76.2] ++ [Ch.ro 0 (Sl a83 r76.2 c84) r76.2, Ch.ro n0 (Sl a83 r76.2 c84) r76.2, Ch.ro 0 (Sl aaH_0_0 aH_0.1 caH_0_0) aH_0.1, Ch.ro 0 (Sl aaH_0_1 aH_0.2 caH_0_1) aH_0.2, Ch.bx n0 b1 0 [(Sl aaH_0_0 aH_0.1 caH_0_0), (Sl aaH_0_1 aH_0.2 caH_0_1)] [] [], Ch.own n0 n0 (Sl a26 r23.1.1 c27) r23.1.1, Ch.own n0 n0 (Sl a28 r23.1.2 c29) r23.1.2, Ch.bx n0 b31 0 [(Sl a26 r23.1.1 c27), (Sl a28 r23.1.2 c29)] [] [], Ch.bx n0 b46 0 [(Sl a38 r35.1 c39), (Sl a42 r35.2 c43)] [] [], Ch.big K55, Ch.own n0 n0 (Sl a58 r50.1.2 c59) r50.1.2, Ch.bx n0 b61 0 [(Sl a53 r50.1.1 c54), (Sl a58 r50.1.2 c59)] [] []])) from (H.sel' [9, 10, 2, 0, 0, 1, 3, 4, 5, 6, 7, 8, 11, 12, 13, 14] rfl rfl)) (by rintro _ _ _ ⟨rfl, rfl⟩; exact trivial)) wn ?_
     rintro _ σ92 ⟨_, ⟨rfl, rfl⟩, H, -, -⟩
     replace H : Hp S0 σ0 σ92 [Ch.big K40, Ch.own n0 n0 (Sl a42 r35.2 c43) r35.2, Ch.big K81, Ch.ro 0 (Sl a83 r76.2 c84) r76.2, Ch.ro n0 (Sl a83 r76.2 c84) r76.2, Ch.ro 0 (Sl aaH_0_0 aH_0.1 caH_0_0) aH_0.1, Ch.ro 0 (Sl aaH_0_1 aH_0.2 caH_0_1) aH_0.2, Ch.bx n0 b1 0 [(Sl aaH_0_0 aH_0.1 caH_0_0), (Sl aaH_0_1 aH_0.2 caH_0_1)] [] [], Ch.own n0 n0 (Sl a26 r23.1.1 c27) r23.1.1, Ch.own n0 n0 (Sl a28 r23.1.2 c29) r23.1.2, Ch.bx n0 b31 0 [(Sl a26 r23.1.1 c27), (Sl a28 r23.1.2 c29)] [] [], Ch.bx n0 b46 0 [(Sl a38 r35.1 c39), (Sl a42 r35.2 c43)] [] [], Ch.big K55, Ch.own n0 n0 (Sl a58 r50.1.2 c59) r50.1.2, Ch.bx n0 b61 0 [(Sl a53 r50.1.1 c54), (Sl a58 r50.1.2 c59)] [] []] := H
     clear hle
     replace H : Hp S0 σ0 σ92 [Ch.big K40, Ch.own n0 n0 (Sl a42 r35.2 c43) r35.2, Ch.big K81, Ch.ro 0 (Sl a83 r76.2 c84) r76.2, Ch.ro n0 (Sl a83 r76.2 c84) r76.2, Ch.ro 0 (Sl aaH_0_0 aH_0.1 caH_0_0) aH_0.1, Ch.ro 0 (Sl aaH_0_1 aH_0.2 caH_0_1) aH_0.2, Ch.bx n0 b1 0 [(Sl aaH_0_0 aH_0.1 caH_0_0), (Sl aaH_0_1 aH_0.2 caH_0_1)] [] [], Ch.own n0 n0 (Sl a26 r23.1.1 c27) r23.1.1, Ch.own n0 n0 (Sl a28 r23.1.2 c29) r23.1.2, Ch.bx n0 b31 0 [(Sl a26 r23.1.1 c27), (Sl a28 r23.1.2 c29)] [] [], Ch.bx n0 b46 0 [(Sl a38 r35.1 c39), (Sl a42 r35.2 c43)] [] [], Ch.big K55, Ch.own n0 n0 (Sl a58 r50.1.2 c59) r50.1.2, Ch.bx n0 b61 0 [(Sl a53 r50.1.1 c54), (Sl a58 r50.1.2 c59)] [] []] := H
     replace H : Hp S0 σ0 σ92 [Ch.big K40, Ch.own n0 n0 (Sl a42 r35.2 c43) r35.2, Ch.ro 0 (Sl aaH_0_0 aH_0.1 caH_0_0) aH_0.1, Ch.ro 0 (Sl aaH_0_1 aH_0.2 caH_0_1) aH_0.2, Ch.bx n0 b1 0 [(Sl aaH_0_0 aH_0.1 caH_0_0), (Sl aaH_0_1 aH_0.2 caH_0_1)] [] [], Ch.own n0 n0 (Sl a26 r23.1.1 c27) r23.1.1, Ch.own n0 n0 (Sl a28 r23.1.2 c29) r23.1.2, Ch.bx n0 b31 0 [(Sl a26 r23.1.1 c27), (Sl a28 r23.1.2 c29)] [] [], Ch.bx n0 b46 0 [(Sl a38 r35.1 c39), (Sl a42 r35.2 c43)] [] [], Ch.big K55, Ch.own n0 n0 (Sl a58 r50.1.2 c59) r50.1.2, Ch.bx n0 b61 0 [(Sl a53 r50.1.1 c54), (Sl a58 r50.1.2 c59)] [] []] := H.sel' [0, 1, 5, 6, 7, 8, 9, 10, 11, 12, 13, 14] rfl rfl
     refine st (v := (B (!r89))) (rv_not rfl) ?_
     refine w_end ?_
     refine q_then ?_
     refine cd_cond (!r89) rfl (fun hb93 => ?_) (fun hb93 => ?_)
     ·replace h := bif_t hb93 h
      refine c_seq ?_
      refine rg ?_
      refine st (v := (B false)) (rv_assign rfl) ?_
      refine w_end ?_
      refine q_then ?_
      refine c_ret ?_
      refine q_then_r ?_
      obtain rfl := Option.some.inj h
      exact fin_ret (v := (B false)) (results_ok Try.results7 (res_tmp (v := (B false)) rfl res_nil) rfl) ⟨rfl, rfl⟩ (H.sel' [] rfl rfl)
     ·replace h := bif_f hb93 h
      refine c_skip ?_
      refine q_then ?_
      refine c_seq ?_
      refine rg ?_
      refine st (v := (I 1)) (rv_assign rfl) ?_
      refine w_end ?_
      refine q_then ?_
      refine c_seq ?_
      refine rg ?_
      have hc94 := H.cells 8 rfl
      refine st (v := (.agg #[(Sl a38 r35.1 c39), (Sl a42 r35.2 c43)])) (rv_load (cs := [(Sl a38 r35.1 c39), (Sl a42 r35.2 c43)]) Try.underlying26 rfl ti26 rfl rfl hc94) ?_
      refine st (v := (I 1)) (rv_move rfl) ?_
      replace H := H.ownLow 1 0 0 rfl (Nat.zero_le _) (Nat.zero_le _)
      obtain ⟨r95, hx96, h'⟩ := bind_some h
      clear h
      have h := h'; clear h'
      have hc97 := c_laws_markHistoryB (aa_0_0 := a38) (ca_0_0 := c39) (hKa_0_0 := hK41) (aa_0_1 := a42) (ca_0_1 := c43) hx96
      refine st_call (cx_call hc97 (ent_f hc97.fn rfl) hn0 (show Hp S0 σ0 _ ([Ch.big K40, Ch.own 0 0 (Sl a42 r35.2 c43) r35.2] ++ [Ch.ro 0 (Sl aaH_0_0 aH_0.1 caH_0_0) aH_0.1, Ch.ro 0 (Sl aaH_0_1 aH_0.2 caH_0_1) aH_0.2, Ch.bx n0 b1 0 [(Sl aaH_0_0 aH_0.1 caH_0_0), (Sl aaH_0_1 aH_0.2 caH_0_1)] [] [], Ch.own n0 n0 (Sl a26 r23.1.1 c27) r23.1.1, Ch.own n0 n0 (Sl a28 r23.1.2 c29) r23.1.2, Ch.bx n0 b31 0 [(Sl a26 r23.1.1 c27), (Sl a28 r23.1.2 c29)] [] [], Ch.bx n0 b46 0 [(Sl a38 r35.1 c39), (Sl a42 r35.2 c43)] [] [], Ch.big K55, Ch.own n0 n0 (Sl a58 r50.1.2 c59) r50.1.2, Ch.bx n0 b61 0 [(Sl a53 r50.1.1 c54), (Sl a58 r50.1.2 c59)] [] []]) from (H.sel' [1, 0, 2, 3, 4, 5, 6, 7, 8, 9, 10, 11] rfl rfl))) wn ?_
      rintro _ σ100 ⟨_, ⟨rfl, rfl, hn98, hn99⟩, H, -⟩
      replace H : Hp S0 σ0 σ100 [Ch.ro 0 (Sl a38 r95.2.1 c39) r95.2.1, Ch.own 0 0 (Sl a42 r95.2.2 c43) r95.2.2, Ch.ro 0 (Sl aaH_0_0 aH_0.1 caH_0_0) aH_0.1, Ch.ro 0 (Sl aaH_0_1 aH_0.2 caH_0_1) aH_0.2, Ch.bx n0 b1 0 [(Sl aaH_0_0 aH_0.1 caH_0_0), (Sl aaH_0_1 aH_0.2 caH_0_1)] [] [], Ch.own n0 n0 (Sl a26 r23.1.1 c27) r23.1.1, Ch.own n0 n0 (Sl a28 r23.1.2 c29) r23.1.2, Ch.bx n0 b31 0 [(Sl a26 r23.1.1 c27), (Sl a28 r23.1.2 c29)] [] [], Ch.bx n0 b46 0 [(Sl a38 r35.1 c39), (Sl a42 r35.2 c43)] [] [], Ch.big K55, Ch.own n0 n0 (Sl a58 r50.1.2 c59) r50.1.2, Ch.bx n0 b61 0 [(Sl a53 r50.1.1 c54), (Sl a58 r50.1.2 c59)] [] []] := H
      have hsl : (Sl a38 r35.1 c39) = (Sl a38 r95.2.1 c39) := sl_len hn98.symm
      try rw [hsl]
      try rw [hsl] at H
      clear hsl
      have hsl : (Sl a42 r35.2 c43) = (Sl a42 r95.2.2 c43) := sl_len hn99.symm
      try rw [hsl]
      try rw [hsl] at H
      clear hsl
      replace H : Hp S0 σ0 σ100 [Ch.ro 0 (Sl aaH_0_0 aH_0.1 caH_0_0) aH_0.1, Ch.ro 0 (Sl aaH_0_1 aH_0.2 caH_0_1) aH_0.2, Ch.bx n0 b1 0 [(Sl aaH_0_0 aH_0.1 caH_0_0), (Sl aaH_0_1 aH_0.2 caH_0_1)] [] [], Ch.own n0 n0 (Sl a26 r23.1.1 c27) r23.1.1, Ch.own n0 n0 (Sl a28 r23.1.2 c29) r23.1.2, Ch.bx n0 b31 0 [(Sl a26 r23.1.1 c27), (Sl a28 r23.1.2 c29)] [] [], Ch.big K55, Ch.own n0 n0 (Sl a58 r50.1.2 c59) r50.1.2, Ch.bx n0 b61 0 [(Sl a53 r50.1.1 c54), (Sl a58 r50.1.2 c59)] [] []] := H.sel' [2, 3, 4, 5, 6, 7, 9, 10, 11] rfl rfl
      refine st (v := (I r95.1)) (rv_assign rfl) ?_
      refine w_end ?_
      refine q_then ?_
      refine c_seq ?_
      refine c_seq ?_
      obtain ⟨o101, hj, h'⟩ := bind_some h
      clear h
      refine c_cut (fun e a w => e = .normal ∧ ∃ (ρ : Nat → Value) (σ : St), a = fr 101 (updL ρ [(1, (I aT_1)), (2, (pt b1 0)), (6, (pt b31 0)), (7, (B r23.2)), (9, (pt b61 0)), (65, (B o101))]) ∧ w = σ.w ∧ Hp S0 σ0 σ [Ch.ro 0 (Sl aaH_0_0 aH_0.1 caH_0_0) aH_0.1, Ch.ro 0 (Sl aaH_0_1 aH_0.2 caH_0_1) aH_0.2, Ch.bx n0 b1 0 [(Sl aaH_0_0 aH_0.1 caH_0_0), (Sl aaH_0_1 aH_0.2 caH_0_1)] [] [], Ch.own n0 n0 (Sl a26 r23.1.1 c27) r23.1.1, Ch.own n0 n0 (Sl a28 r23.1.2 c29) r23.1.2, Ch.bx n0 b31 0 [(Sl a26 r23.1.1 c27), (Sl a28 r23.1.2 c29)] [] [], Ch.big K55, Ch.own n0 n0 (Sl a58 r50.1.2 c59) r50.1.2, Ch.bx n0 b61 0 [(Sl a53 r50.1.1 c54), (Sl a58 r50.1.2 c59)] [] []]) ?_ ?_
      ·clear h'
       rename _ = some o101 => h
       refine rg ?_
       refine st (v := (I r95.1)) (rv_move rfl) ?_
       refine st (v := (B (decide (r95.1 < 0)))) (rv_lss (a := r95.1) (b := 0) rfl rfl) ?_
       refine st (v := (B (decide (r95.1 < 0)))) (rv_move rfl) ?_
       rcases Bool.eq_false_or_eq_true (decide (r95.1 < 0)) with hb102 | hb102
       ·replace h := bif_t hb102 h
        refine st_skip (congrArg some hb102) ?_
        refine st_skip (congrArg some hb102) ?_
        refine st_skip (congrArg some hb102) ?_
        refine st_skip (congrArg some hb102) ?_
        refine st (v := (B true)) (rv_pick_t (congrArg B hb102) rfl) ?_
        refine st (v := (B true)) (rv_move rfl) ?_
        refine st_skip rfl ?_
        refine st_skip rfl ?_
        refine st_skip rfl ?_
        refine st (v := (B true)) (rv_pick_t rfl rfl) ?_
        refine w_end ?_
        obtain rfl := Option.some.inj h
        exact ⟨rfl, _, σ100, fr_join ⟨rfl, rfl, rfl, rfl, rfl, rfl, trivial⟩, rfl, H.sel' [0, 1, 2, 3, 4, 5, 6, 7, 8] rfl rfl⟩
       ·replace h := bif_f hb102 h
        have hc103 := H.cells 8 rfl
        refine st_g (v := (.agg #[(Sl a53 r50.1.1 c54), (Sl a58 r50.1.2 c59)])) (congrArg some hb102) (rv_load (cs := [(Sl a53 r50.1.1 c54), (Sl a58 r50.1.2 c59)]) Try.underlying26 rfl ti26 rfl rfl hc103) ?_
        have hc104 := H.cells 5 rfl
        refine st_g (v := (.agg #[(Sl a26 r23.1.1 c27), (Sl a28 r23.1.2 c29)])) (congrArg some hb102) (rv_load (cs := [(Sl a26 r23.1.1 c27), (Sl a28 r23.1.2 c29)]) Try.underlying26 rfl ti26 rfl rfl hc104) ?_
        obtain ⟨r105, hx106, h'⟩ := bind_some h
        clear h
        have h := h'; clear h'
        have hc107 := c_laws_eqHistory (aa_0_0 := a53) (ca_0_0 := c54) (aa_0_1 := a58) (ca_0_1 := c59) (ab_1_0 := a26) (cb_1_0 := c27) (ab_1_1 := a28) (cb_1_1 := c29) hx106
        have hle := Nat.le_trans hn0 H.size
        refine st_call (cx_lend (Loan.lendB hK56.lends (Loan.lend (Loan.lend (Loan.lend Loan.nil)))) hc107 (ent_f hc107.fn rfl) (show Hp S0 σ0 _ ([Ch.big K55, Ch.own n0 n0 (Sl a58 r50.1.2 c59) r50.1.2, Ch.own n0 n0 (Sl a26 r23.1.1 c27) r23.1.1, Ch.own n0 n0 (Sl a28 r23.1.2 c29) r23.1.2] ++ ([] ++ [Ch.ro 0 (Sl aaH_0_0 aH_0.1 caH_0_0) aH_0.1, Ch.ro 0 (Sl aaH_0_1 aH_0.2 caH_0_1) aH_0.2, Ch.bx n0 b1 0 [(Sl aaH_0_0 aH_0.1 caH_0_0), (Sl aaH_0_1 aH_0.2 caH_0_1)] [] [], Ch.bx n0 b31 0 [(Sl a26 r23.1.1 c27), (Sl a28 r23.1.2 c29)] [] [], Ch.bx n0 b61 0 [(Sl a53 r50.1.1 c54), (Sl a58 r50.1.2 c59)] [] []])) from (H.sel' [6, 7, 3, 4, 0, 1, 2, 5, 8] rfl rfl)) (by rintro _ _ _ ⟨rfl, rfl⟩; exact trivial)) (wanted_yes rfl (by exact (congrArg some hb102))) ?_
        rintro _ σ108 ⟨_, ⟨rfl, rfl⟩, H, -, -⟩
        replace H : Hp S0 σ0 σ108 [Ch.big K55, Ch.own n0 n0 (Sl a58 r50.1.2 c59) r50.1.2, Ch.own n0 n0 (Sl a26 r23.1.1 c27) r23.1.1, Ch.own n0 n0 (Sl a28 r23.1.2 c29) r23.1.2, Ch.ro 0 (Sl aaH_0_0 aH_0.1 caH_0_0) aH_0.1, Ch.ro 0 (Sl aaH_0_1 aH_0.2 caH_0_1) aH_0.2, Ch.bx n0 b1 0 [(Sl aaH_0_0 aH_0.1 caH_0_0), (Sl aaH_0_1 aH_0.2 caH_0_1)] [] [], Ch.bx n0 b31 0 [(Sl a26 r23.1.1 c27), (Sl a28 r23.1.2 c29)] [] [], Ch.bx n0 b61 0 [(Sl a53 r50.1.1 c54), (Sl a58 r50.1.2 c59)] [] []] := H
        clear hle
        replace H : Hp S0 σ0 σ108 [Ch.big K55, Ch.own n0 n0 (Sl a58 r50.1.2 c59) r50.1.2, Ch.own n0 n0 (Sl a26 r23.1.1 c27) r23.1.1, Ch.own n0 n0 (Sl a28 r23.1.2 c29) r23.1.2, Ch.ro 0 (Sl aaH_0_0 aH_0.1 caH_0_0) aH_0.1, Ch.ro 0 (Sl aaH_0_1 aH_0.2 caH_0_1) aH_0.2, Ch.bx n0 b1 0 [(Sl aaH_0_0 aH_0.1 caH_0_0), (Sl aaH_0_1 aH_0.2 caH_0_1)] [] [], Ch.bx n0 b31 0 [(Sl a26 r23.1.1 c27), (Sl a28 r23.1.2 c29)] [] [], Ch.bx n0 b61 0 [(Sl a53 r50.1.1 c54), (Sl a58 r50.1.2 c59)] [] []] := H
        refine st_g (v := (B (!r105))) (congrArg some hb102) (rv_not rfl) ?_
        refine st (v := (B (!r105))) (rv_pick_f (congrArg B hb102) rfl) ?_
        refine st (v := (B (!r105))) (rv_move rfl) ?_
        rcases Bool.eq_false_or_eq_true (!r105) with hb109 | hb109
        ·replace h := bif_t hb109 h
         refine st_skip (congrArg some hb109) ?_
         refine st_skip (congrArg some hb109) ?_
         refine st_skip (congrArg some hb109) ?_
         refine st (v := (B true)) (rv_pick_t (congrArg B hb109) rfl) ?_
         refine w_end ?_
         obtain rfl := Option.some.inj h
         exact ⟨rfl, _, σ108, fr_join ⟨rfl, rfl, rfl, rfl, rfl, rfl, trivial⟩, rfl, H.sel' [4, 5, 6, 2, 3, 7, 0, 1, 8] rfl rfl⟩
        ·replace h := bif_f hb109 h
         refine st_g (v := (B r50.2)) (congrArg some hb109) (rv_move rfl) ?_
         refine st_g (v := (B r23.2)) (congrArg some hb109) (rv_move rfl) ?_
         refine st_g (v := (B (r50.2 != r23.2))) (congrArg some hb109) (rv_bneq Try.underlying4 rfl rfl) ?_
         refine st (v := (B (r50.2 != r23.2))) (rv_pick_f (congrArg B hb109) rfl) ?_
         refine w_end ?_
         obtain rfl := Option.some.inj h
         exact ⟨rfl, _, σ108, fr_join ⟨rfl, rfl, rfl, rfl, rfl, rfl, trivial⟩, rfl, H.sel' [4, 5, 6, 2, 3, 7, 0, 1, 8] rfl rfl⟩
      ·clear hj
       have h := h'
       clear h' H
       rintro e a w ⟨rfl, ρ, σ110, rfl, rfl, H⟩
       refine q_then ?_
       refine cd_cond o101 rfl (fun hb111 => ?_) (fun hb111 => ?_)
       ·replace h := bif_t hb111 h
        refine c_seq ?_
        refine rg ?_
        refine st (v := (B false)) (rv_assign rfl) ?_
        refine w_end ?_
        refine q_then ?_
        refine c_ret ?_
        refine q_then_r ?_
        obtain rfl := Option.some.inj h
        exact fin_ret (v := (B false)) (results_ok Try.results7 (res_tmp (v := (B false)) rfl res_nil) rfl) ⟨rfl, rfl⟩ (H.sel' [] rfl rfl)
       ·replace h := bif_f hb111 h
        refine c_skip ?_
        refine q_then ?_
        refine c_seq ?_
        refine rg ?_
        refine st (v := (I 1)) (rv_assign rfl) ?_
        refine w_end ?_
        refine q_then ?_
        refine c_seq ?_
        refine rg ?_
        have hc112 := H.cells 8 rfl
        refine st (v := (.agg #[(Sl a53 r50.1.1 c54), (Sl a58 r50.1.2 c59)])) (rv_load (cs := [(Sl a53 r50.1.1 c54), (Sl a58 r50.1.2 c59)]) Try.underlying26 rfl ti26 rfl rfl hc112) ?_
        refine st (v := (I 1)) (rv_move rfl) ?_
        replace H := H.ownLow 7 0 0 rfl (Nat.zero_le _) (Nat.zero_le _)
        obtain ⟨r113, hx114, h'⟩ := bind_some h
        clear h
        have h := h'; clear h'
        have hc115 := c_laws_markHistoryB (aa_0_0 := a53) (ca_0_0 := c54) (hKa_0_0 := hK56) (aa_0_1 := a58) (ca_0_1 := c59) hx114
        refine st_call (cx_call hc115 (ent_f hc115.fn rfl) hn0 (show Hp S0 σ0 _ ([Ch.big K55, Ch.own 0 0 (Sl a58 r50.1.2 c59) r50.1.2] ++ [Ch.ro 0 (Sl aaH_0_0 aH_0.1 caH_0_0) aH_0.1, Ch.ro 0 (Sl aaH_0_1 aH_0.2 caH_0_1) aH_0.2, Ch.bx n0 b1 0 [(Sl aaH_0_0 aH_0.1 caH_0_0), (Sl aaH_0_1 aH_0.2 caH_0_1)] [] [], Ch.own n0 n0 (Sl a26 r23.1.1 c27) r23.1.1, Ch.own n0 n0 (Sl a28 r23.1.2 c29) r23.1.2, Ch.bx n0 b31 0 [(Sl a26 r23.1.1 c27), (Sl a28 r23.1.2 c29)] [] [], Ch.bx n0 b61 0 [(Sl a53 r50.1.1 c54), (Sl a58 r50.1.2 c59)] [] []]) from (H.sel' [7, 0, 1, 2, 3, 4, 5, 6, 8] rfl rfl))) wn ?_
        rintro _ σ118 ⟨_, ⟨rfl, rfl, hn116, hn117⟩, H, -⟩
        replace H : Hp S0 σ0 σ118 [Ch.ro 0 (Sl a53 r113.2.1 c54) r113.2.1, Ch.own 0 0 (Sl a58 r113.2.2 c59) r113.2.2, Ch.ro 0 (Sl aaH_0_0 aH_0.1 caH_0_0) aH_0.1, Ch.ro 0 (Sl aaH_0_1 aH_0.2 caH_0_1) aH_0.2, Ch.bx n0 b1 0 [(Sl aaH_0_0 aH_0.1 caH_0_0), (Sl aaH_0_1 aH_0.2 caH_0_1)] [] [], Ch.own n0 n0 (Sl a26 r23.1.1 c27) r23.1.1, Ch.own n0 n0 (Sl a28 r23.1.2 c29) r23.1.2, Ch.bx n0 b31 0 [(Sl a26 r23.1.1 c27), (Sl a28 r23.1.2 c29)] [] [], Ch.bx n0 b61 0 [(Sl a53 r50.1.1 c54), (Sl a58 r50.1.2 c59)] [] []] := H
        have hsl : (Sl a53 r50.1.1 c54) = (Sl a53 r113.2.1 c54) := sl_len hn116.symm
        try rw [hsl]
        try rw [hsl] at H
        clear hsl
        have hsl : (Sl a58 r50.1.2 c59) = (Sl a58 r113.2.2 c59) := sl_len hn117.symm
        try rw [hsl]
        try rw [hsl] at H
        clear hsl
        refine st (v := (I r113.1)) (rv_assign rfl) ?_
        refine w_end ?_
        refine q_then ?_
        refine c_seq ?_
        refine rg ?_
        refine st (v := (I 1)) (rv_assign rfl) ?_
        refine w_end ?_
        refine q_then ?_
        refine c_seq ?_
        refine rg ?_
        have hc119 := H.cells 8 rfl
        refine st (v := (.agg #[(Sl a53 r113.2.1 c54), (Sl a58 r113.2.2 c59)])) (rv_load (cs := [(Sl a53 r113.2.1 c54), (Sl a58 r113.2.2 c59)]) Try.underlying26 rfl ti26 rfl rfl hc119) ?_
        refine st (v := (I 1)) (rv_move rfl) ?_
        obtain ⟨r120, hx121, h'⟩ := bind_some h
        clear h
        have h := h'; clear h'
        have hc122 := c_laws_heldHistory (aa_0_0 := a53) (ca_0_0 := c54) (aa_0_1 := a58) (ca_0_1 := c59) hx121
        have hle := Nat.le_trans hn0 H.size
        refine st_call (cx_lend (Loan.same (Loan.lend Loan.nil)) hc122 (ent_f hc122.fn rfl) (show Hp S0 σ0 _ ([Ch.own 0 0 (Sl a58 r113.2.2 c59) r113.2.2] ++ ([Ch.ro 0 (Sl a53 r113.2.1 c54) r113.2.1] ++ [Ch.ro 0 (Sl a53 r113.2.1 c54) r113.2.1, Ch.ro 0 (Sl aaH_0_0 aH_0.1 caH_0_0) aH_0.1, Ch.ro 0 (Sl aaH_0_1 aH_0.2 caH_0_1) aH_0.2, Ch.bx n0 b1 0 [(Sl aaH_0_0 aH_0.1 caH_0_0), (Sl aaH_0_1 aH_0.2 caH_0_1)] [] [], Ch.own n0 n0 (Sl a26 r23.1.1 c27) r23.1.1, Ch.own n0 n0 (Sl a28 r23.1.2 c29) r23.1.2, Ch.bx n0 b31 0 [(Sl a26 r23.1.1 c27), (Sl a28 r23.1.2 c29)] [] [], Ch.bx n0 b61 0 [(Sl a53 r113.2.1 c54), (Sl a58 r113.2.2 c59)] [] []])) from (H.sel' [1, 0, 0, 2, 3, 4, 5, 6, 7, 8] rfl rfl)) (by rintro _ _ _ ⟨rfl, rfl⟩; exact trivial)) wn ?_
        rintro _ σ123 ⟨_, ⟨rfl, rfl⟩, H, -, -⟩
        replace H : Hp S0 σ0 σ123 [Ch.own 0 0 (Sl a58 r113.2.2 c59) r113.2.2, Ch.ro 0 (Sl a53 r113.2.1 c54) r113.2.1, Ch.ro 0 (Sl aaH_0_0 aH_0.1 caH_0_0) aH_0.1, Ch.ro 0 (Sl aaH_0_1 aH_0.2 caH_0_1) aH_0.2, Ch.bx n0 b1 0 [(Sl aaH_0_0 aH_0.1 caH_0_0), (Sl aaH_0_1 aH_0.2 caH_0_1)] [] [], Ch.own n0 n0 (Sl a26 r23.1.1 c27) r23.1.1, Ch.own n0 n0 (Sl a28 r23.1.2 c29) r23.1.2, Ch.bx n0 b31 0 [(Sl a26 r23.1.1 c27), (Sl a28 r23.1.2 c29)] [] [], Ch.bx n0 b61 0 [(Sl a53 r113.2.1 c54), (Sl a58 r113.2.2 c59)] [] []] := H
        clear hle
        replace H : Hp S0 σ0 σ123 [Ch.own 0 0 (Sl a58 r113.2.2 c59) r113.2.2, Ch.ro 0 (Sl a53 r113.2.1 c54) r113.2.1, Ch.ro 0 (Sl aaH_0_0 aH_0.1 caH_0_0) aH_0.1, Ch.ro 0 (Sl aaH_0_1 aH_0.2 caH_0_1) aH_0.2, Ch.bx n0 b1 0 [(Sl aaH_0_0 aH_0.1 caH_0_0), (Sl aaH_0_1 aH_0.2 caH_0_1)] [] [], Ch.own n0 n0 (Sl a26 r23.1.1 c27) r23.1.1, Ch.own n0 n0 (Sl a28 r23.1.2 c29) r23.1.2, Ch.bx n0 b31 0 [(Sl a26 r23.1.1 c27), (Sl a28 r23.1.2 c29)] [] [], Ch.bx n0 b61 0 [(Sl a53 r113.2.1 c54), (Sl a58 r113.2.2 c59)] [] []] := H
        refine st (v := (I r120)) (rv_assign rfl) ?_
        refine w_end ?_
        refine q_then ?_
        refine c_seq ?_
        refine c_seq ?_
        refine rg ?_
        refine st (v := (I r120)) (rv_move rfl) ?_
        refine st (v := (B (decide (r120 < 0)))) (rv_lss (a := r120) (b := 0) rfl rfl) ?_
        refine w_end ?_
        refine q_then ?_
        refine cd_cond (decide (r120 < 0)) rfl (fun hb124 => ?_) (fun hb124 => ?_)
        ·replace h := bif_t hb124 h
         refine c_seq ?_
         refine rg ?_
         refine st (v := (B false)) (rv_assign rfl) ?_
         refine w_end ?_
         refine q_then ?_
         refine c_ret ?_
         refine q_then_r ?_
         obtain rfl := Option.some.inj h
         exact fin_ret (v := (B false)) (results_ok Try.results7 (res_tmp (v := (B false)) rfl res_nil) rfl) ⟨rfl, rfl⟩ (H.sel' [] rfl rfl)
        ·replace h := bif_f hb124 h
         refine c_skip ?_
         refine q_then ?_
         refine c_seq ?_
         refine c_seq ?_
         refine rg ?_
         refine st (v := (I r120)) (rv_move rfl) ?_
         refine st (v := (I r113.1)) (rv_move rfl) ?_
         refine st (v := (B (r120 != r113.1))) (rv_neq (a := r120) (b := r113.1) rfl rfl) ?_
         refine w_end ?_
         refine q_then ?_
         refine cd_cond (r120 != r113.1) rfl (fun hb125 => ?_) (fun hb125 => ?_)
         ·replace h := bif_t hb125 h
          refine c_seq ?_
          refine rg ?_
          refine st (v := (B false)) (rv_assign rfl) ?_
          refine w_end ?_
          refine q_then ?_
          refine c_ret ?_
          refine q_then_r ?_
          obtain rfl := Option.some.inj h
          exact fin_ret (v := (B false)) (results_ok Try.results7 (res_tmp (v := (B false)) rfl res_nil) rfl) ⟨rfl, rfl⟩ (H.sel' [] rfl rfl)
         ·replace h := bif_f hb125 h
          refine c_skip ?_
          refine q_then ?_
          refine c_seq ?_
          refine rg ?_
          have hc126 := H.cells 4 rfl
          refine st (v := (.agg #[(Sl aaH_0_0 aH_0.1 caH_0_0), (Sl aaH_0_1 aH_0.2 caH_0_1)])) (rv_load (cs := [(Sl aaH_0_0 aH_0.1 caH_0_0), (Sl aaH_0_1 aH_0.2 caH_0_1)]) Try.underlying40 rfl ti40 rfl rfl hc126) ?_
          obtain ⟨r127, hx128, h'⟩ := bind_some h
          clear h
          have h := h'; clear h'
          have hc129 := c_laws_toHistoryD (aa_0_0 := aaH_0_0) (ca_0_0 := caH_0_0) (aa_0_1 := aaH_0_1) (ca_0_1 := caH_0_1) hx128
          refine st_call (cx_call hc129 (ent_f hc129.fn rfl) hn0 (show Hp S0 σ0 _ ([Ch.ro 0 (Sl aaH_0_0 aH_0.1 caH_0_0) aH_0.1, Ch.ro 0 (Sl aaH_0_1 aH_0.2 caH_0_1) aH_0.2] ++ [Ch.own 0 0 (Sl a58 r113.2.2 c59) r113.2.2, Ch.ro 0 (Sl a53 r113.2.1 c54) r113.2.1, Ch.ro 0 (Sl aaH_0_0 aH_0.1 caH_0_0) aH_0.1, Ch.ro 0 (Sl aaH_0_1 aH_0.2 caH_0_1) aH_0.2, Ch.bx n0 b1 0 [(Sl aaH_0_0 aH_0.1 caH_0_0), (Sl aaH_0_1 aH_0.2 caH_0_1)] [] [], Ch.own n0 n0 (Sl a26 r23.1.1 c27) r23.1.1, Ch.own n0 n0 (Sl a28 r23.1.2 c29) r23.1.2, Ch.bx n0 b31 0 [(Sl a26 r23.1.1 c27), (Sl a28 r23.1.2 c29)] [] [], Ch.bx n0 b61 0 [(Sl a53 r113.2.1 c54), (Sl a58 r113.2.2 c59)] [] []]) from (H.sel' [2, 3, 0, 1, 2, 3, 4, 5, 6, 7, 8] rfl rfl))) wn ?_
          rintro _ σ137 ⟨_, ⟨a130, c131, K132, a134, c135, rfl, rfl, hK133, ht136⟩, H, -⟩
          replace H : Hp S0 σ0 σ137 [Ch.big K132, Ch.own n0 n0 (Sl a134 r127.2 c135) r127.2, Ch.own 0 0 (Sl a58 r113.2.2 c59) r113.2.2, Ch.ro 0 (Sl a53 r113.2.1 c54) r113.2.1, Ch.ro 0 (Sl aaH_0_0 aH_0.1 caH_0_0) aH_0.1, Ch.ro 0 (Sl aaH_0_1 aH_0.2 caH_0_1) aH_0.2, Ch.bx n0 b1 0 [(Sl aaH_0_0 aH_0.1 caH_0_0), (Sl aaH_0_1 aH_0.2 caH_0_1)] [] [], Ch.own n0 n0 (Sl a26 r23.1.1 c27) r23.1.1, Ch.own n0 n0 (Sl a28 r23.1.2 c29) r23.1.2, Ch.bx n0 b31 0 [(Sl a26 r23.1.1 c27), (Sl a28 r23.1.2 c29)] [] [], Ch.bx n0 b61 0 [(Sl a53 r113.2.1 c54), (Sl a58 r113.2.2 c59)] [] []] := H
          replace H : Hp S0 σ0 σ137 [Ch.big K132, Ch.own n0 n0 (Sl a134 r127.2 c135) r127.2, Ch.own 0 0 (Sl a58 r113.2.2 c59) r113.2.2, Ch.ro 0 (Sl a53 r113.2.1 c54) r113.2.1, Ch.own n0 n0 (Sl a26 r23.1.1 c27) r23.1.1, Ch.own n0 n0 (Sl a28 r23.1.2 c29) r23.1.2, Ch.bx n0 b31 0 [(Sl a26 r23.1.1 c27), (Sl a28 r23.1.2 c29)] [] [], Ch.bx n0 b61 0 [(Sl a53 r113.2.1 c54), (Sl a58 r113.2.2 c59)] [] []] := H.sel' [0, 1, 2, 3, 7, 8, 9, 10] rfl rfl
          refine st (v := (I aT_1)) (rv_move rfl) ?_
          obtain ⟨σ138, hw139, H, -⟩ := H.pub 1 rfl (Nat.le_refl _)
          rw [← hw139]; clear hw139
          replace H := H.roLow 0 0 rfl (Nat.zero_le _)
          obtain ⟨r140, hx141, h'⟩ := bind_some h
          clear h
          have h := h'; clear h'
          have hc142 := c_impl_RollBackD (ah_0_0 := a130) (ch_0_0 := c131) (ah_0_1 := a134) (ch_0_1 := c135) hx141
          have hle := Nat.le_trans hn0 H.size
          refine st_call (cx_lend (Loan.lendB hK133.lends (Loan.same Loan.nil)) hc142 (ent_f hc142.fn rfl) (show Hp S0 σ0 _ ([Ch.big K132] ++ ([Ch.ro 0 (Sl a134 r127.2 c135) r127.2] ++ [Ch.ro 0 (Sl a134 r127.2 c135) r127.2, Ch.ro n0 (Sl a134 r127.2 c135) r127.2, Ch.own 0 0 (Sl a58 r113.2.2 c59) r113.2.2, Ch.ro 0 (Sl a53 r113.2.1 c54) r113.2.1, Ch.own n0 n0 (Sl a26 r23.1.1 c27) r23.1.1, Ch.own n0 n0 (Sl a28 r23.1.2 c29) r23.1.2, Ch.bx n0 b31 0 [(Sl a26 r23.1.1 c27), (Sl a28 r23.1.2 c29)] [] [], Ch.bx n0 b61 0 [(Sl a53 r113.2.1 c54), (Sl a58 r113.2.2 c59)] [] []])) from (H.sel' [2, 0, 0, 1, 3, 4, 5, 6, 7, 8] rfl rfl)) (by rintro _ _ _ ⟨_, _, _, _, _, rfl, rfl, hK146, _⟩; exact ⟨Dp.abSc hK146, Ab.ownSc, trivial⟩)) wn ?_
          rintro _ σ150 ⟨_, ⟨a143, c144, K145, a148, c149, rfl, rfl, hK146, ht147⟩, H, -, -⟩
          replace H : Hp S0 σ0 σ150 [Ch.big K145, Ch.own σ138.size σ138.size (Sl a148 r140.1.2 c149) r140.1.2, Ch.big K132, Ch.ro 0 (Sl a134 r127.2 c135) r127.2, Ch.ro n0 (Sl a134 r127.2 c135) r127.2, Ch.own 0 0 (Sl a58 r113.2.2 c59) r113.2.2, Ch.ro 0 (Sl a53 r113.2.1 c54) r113.2.1, Ch.own n0 n0 (Sl a26 r23.1.1 c27) r23.1.1, Ch.own n0 n0 (Sl a28 r23.1.2 c29) r23.1.2, Ch.bx n0 b31 0 [(Sl a26 r23.1.1 c27), (Sl a28 r23.1.2 c29)] [] [], Ch.bx n0 b61 0 [(Sl a53 r113.2.1 c54), (Sl a58 r113.2.2 c59)] [] []] := H
          replace H := H.ownLow 1 n0 n0 rfl hle hle
          clear hle
          replace H : Hp S0 σ0 σ150 [Ch.own n0 n0 (Sl a148 r140.1.2 c149) r140.1.2, Ch.big K145, Ch.big K132, Ch.ro 0 (Sl a134 r127.2 c135) r127.2, Ch.ro n0 (Sl a134 r127.2 c135) r127.2, Ch.own 0 0 (Sl a58 r113.2.2 c59) r113.2.2, Ch.ro 0 (Sl a53 r113.2.1 c54) r113.2.1, Ch.own n0 n0 (Sl a26 r23.1.1 c27) r23.1.1, Ch.own n0 n0 (Sl a28 r23.1.2 c29) r23.1.2, Ch.bx n0 b31 0 [(Sl a26 r23.1.1 c27), (Sl a28 r23.1.2 c29)] [] [], Ch.bx n0 b61 0 [(Sl a53 r113.2.1 c54), (Sl a58 r113.2.2 c59)] [] []] := H
          replace H : Hp S0 σ0 σ150 [Ch.own n0 n0 (Sl a148 r140.1.2 c149) r140.1.2, Ch.big K145, Ch.own 0 0 (Sl a58 r113.2.2 c59) r113.2.2, Ch.ro 0 (Sl a53 r113.2.1 c54) r113.2.1, Ch.own n0 n0 (Sl a26 r23.1.1 c27) r23.1.1, Ch.own n0 n0 (Sl a28 r23.1.2 c29) r23.1.2, Ch.bx n0 b31 0 [(Sl a26 r23.1.1 c27), (Sl a28 r23.1.2 c29)] [] [], Ch.bx n0 b61 0 [(Sl a53 r113.2.1 c54), (Sl a58 r113.2.2 c59)] [] []] := H.sel' [0, 1, 5, 6, 7, 8, 9, 10] rfl rfl
          refine st (v := (.tuple #[(.agg #[(Sl a143 r140.1.1 c144), (Sl a148 r140.1.2 c149)]), (B r140.2)])) (rv_move rfl) ?_
          refine st (v := (.agg #[(Sl a143 r140.1.1 c144), (Sl a148 r140.1.2 c149)])) (rv_extract rfl rfl) ?_
          refine st (v := (B r140.2)) (rv_extract rfl rfl) ?_
          refine st_ex (ex_alloc (cs := [(.slice none 0 0), (.slice none 0 0)]) H hn0 ti26 rfl) wn ?_
          rintro _ σ152 ⟨b151, rfl, H, -⟩
          refine st_exS (ex_store_box (k := 0) (cs := [(.slice none 0 0), (.slice none 0 0)]) (vs := [(Sl a143 r140.1.1 c144), (Sl a148 r140.1.2 c149)]) (cs' := [(Sl a143 r140.1.1 c144), (Sl a148 r140.1.2 c149)]) H (i := 0) rfl ti26 rfl rfl rfl rfl rfl (Nat.le_of_ble_eq_true rfl) (by simp [plain]) rfl) wn ?_
          rintro σ153 ⟨H, -⟩
          refine st (v := (B r140.2)) (rv_assign rfl) ?_
          refine w_end ?_
          refine q_then ?_
          refine c_seq ?_
          refine c_seq ?_
          obtain ⟨o154, hj, h'⟩ := bind_some h
          clear h
          refine c_cut (fun e a w => e = .normal ∧ ∃ (ρ : Nat → Value) (σ : St), a = fr 101 (updL ρ [(9, (pt b61 0)), (12, (I r113.1)), (92, (B o154))]) ∧ w = σ.w ∧ Hp S0 σ0 σ [Ch.ro 0 (Sl a53 r113.2.1 c54) r113.2.1, Ch.own 0 0 (Sl a58 r113.2.2 c59) r113.2.2, Ch.bx n0 b61 0 [(Sl a53 r113.2.1 c54), (Sl a58 r113.2.2 c59)] [] []]) ?_ ?_
          ·clear h'
           rename _ = some o154 => h
           refine rg ?_
           have hc155 := H.cells 0 rfl
           refine st (v := (.agg #[(Sl a143 r140.1.1 c144), (Sl a148 r140.1.2 c149)])) (rv_load (cs := [(Sl a143 r140.1.1 c144), (Sl a148 r140.1.2 c149)]) Try.underlying26 rfl ti26 rfl rfl hc155) ?_
           have hc156 := H.cells 7 rfl
           refine st (v := (.agg #[(Sl a26 r23.1.1 c27), (Sl a28 r23.1.2 c29)])) (rv_load (cs := [(Sl a26 r23.1.1 c27), (Sl a28 r23.1.2 c29)]) Try.underlying26 rfl ti26 rfl rfl hc156) ?_
           obtain ⟨σ157, hw158, H, -⟩ := H.pub 1 rfl (Nat.le_refl _)
           rw [← hw158]; clear hw158
           obtain ⟨σ159, hw160, H, -⟩ := H.pub 5 rfl (Nat.le_refl _)
           rw [← hw160]; clear hw160
           obtain ⟨σ161, hw162, H, -⟩ := H.pub 6 rfl (Nat.le_refl _)
           rw [← hw162]; clear hw162
           replace H := H.roLow 2 0 rfl (Nat.zero_le _)
           replace H := H.roLow 2 0 rfl (Nat.zero_le _)
           replace H := H.roLow 2 0 rfl (Nat.zero_le _)
           obtain ⟨r163, hx164, h'⟩ := bind_some h
           clear h
           have h := h'; clear h'
           have hc165 := c_laws_eqHistory (aa_0_0 := a143) (ca_0_0 := c144) (aa_0_1 := a148) (ca_0_1 := c149) (ab_1_0 := a26) (cb_1_0 := c27) (ab_1_1 := a28) (cb_1_1 := c29) hx164
           have hle := Nat.le_trans hn0 H.size
           refine st_call (cx_lend (Loan.lendB hK146.lends (Loan.same (Loan.same (Loan.same Loan.nil)))) hc165 (ent_f hc165.fn rfl) (show Hp S0 σ0 _ ([Ch.big K145] ++ ([Ch.ro 0 (Sl a148 r140.1.2 c149) r140.1.2, Ch.ro 0 (Sl a26 r23.1.1 c27) r23.1.1, Ch.ro 0 (Sl a28 r23.1.2 c29) r23.1.2] ++ [Ch.ro 0 (Sl a28 r23.1.2 c29) r23.1.2, Ch.ro 0 (Sl a26 r23.1.1 c27) r23.1.1, Ch.ro 0 (Sl a148 r140.1.2 c149) r140.1.2, Ch.ro n0 (Sl a28 r23.1.2 c29) r23.1.2, Ch.ro n0 (Sl a26 r23.1.1 c27) r23.1.1, Ch.ro n0 (Sl a148 r140.1.2 c149) r140.1.2, Ch.bx n0 b151 0 [(Sl a143 r140.1.1 c144), (Sl a148 r140.1.2 c149)] [] [], Ch.own 0 0 (Sl a58 r113.2.2 c59) r113.2.2, Ch.ro 0 (Sl a53 r113.2.1 c54) r113.2.1, Ch.bx n0 b31 0 [(Sl a26 r23.1.1 c27), (Sl a28 r23.1.2 c29)] [] [], Ch.bx n0 b61 0 [(Sl a53 r113.2.1 c54), (Sl a58 r113.2.2 c59)] [] []])) from (H.sel' [7, 2, 1, 0, 0, 1, 2, 3, 4, 5, 6, 8, 9, 10, 11] rfl rfl)) (by rintro _ _ _ ⟨rfl, rfl⟩; exact trivial)) wn ?_
           rintro _ σ166 ⟨_, ⟨rfl, rfl⟩, H, -, -⟩
           replace H : Hp S0 σ0 σ166 [Ch.big K145, Ch.ro 0 (Sl a28 r23.1.2 c29) r23.1.2, Ch.ro 0 (Sl a26 r23.1.1 c27) r23.1.1, Ch.ro 0 (Sl a148 r140.1.2 c149) r140.1.2, Ch.ro n0 (Sl a28 r23.1.2 c29) r23.1.2, Ch.ro n0 (Sl a26 r23.1.1 c27) r23.1.1, Ch.ro n0 (Sl a148 r140.1.2 c149) r140.1.2, Ch.bx n0 b151 0 [(Sl a143 r140.1.1 c144), (Sl a148 r140.1.2 c149)] [] [], Ch.own 0 0 (Sl a58 r113.2.2 c59) r113.2.2, Ch.ro 0 (Sl a53 r113.2.1 c54) r113.2.1, Ch.bx n0 b31 0 [(Sl a26 r23.1.1 c27), (Sl a28 r23.1.2 c29)] [] [], Ch.bx n0 b61 0 [(Sl a53 r113.2.1 c54), (Sl a58 r113.2.2 c59)] [] []] := H
           clear hle
           replace H : Hp S0 σ0 σ166 [Ch.big K145, Ch.ro 0 (Sl a28 r23.1.2 c29) r23.1.2, Ch.ro 0 (Sl a26 r23.1.1 c27) r23.1.1, Ch.ro 0 (Sl a148 r140.1.2 c149) r140.1.2, Ch.ro n0 (Sl a28 r23.1.2 c29) r23.1.2, Ch.ro n0 (Sl a26 r23.1.1 c27) r23.1.1, Ch.ro n0 (Sl a148 r140.1.2 c149) r140.1.2, Ch.bx n0 b151 0 [(Sl a143 r140.1.1 c144), (Sl a148 r140.1.2 c149)] [] [], Ch.own 0 0 (Sl a58 r113.2.2 c59) r113.2.2, Ch.ro 0 (Sl a53 r113.2.1 c54) r113.2.1, Ch.bx n0 b31 0 [(Sl a26 r23.1.1 c27), (Sl a28 r23.1.2 c29)] [] [], Ch.bx n0 b61 0 [(Sl a53 r113.2.1 c54), (Sl a58 r113.2.2 c59)] [] []] := H
           replace H : Hp S0 σ0 σ166 [Ch.own 0 0 (Sl a58 r113.2.2 c59) r113.2.2, Ch.ro 0 (Sl a53 r113.2.1 c54) r113.2.1, Ch.bx n0 b61 0 [(Sl a53 r113.2.1 c54), (Sl a58 r113.2.2 c59)] [] []] := H.sel' [8, 9, 11] rfl rfl
           refine st (v := (B (!r163))) (rv_not rfl) ?_
           refine st (v := (B (!r163))) (rv_move rfl) ?_
           rcases Bool.eq_false_or_eq_true (!r163) with hb167 | hb167
           ·replace h := bif_t hb167 h
            refine st_skip (congrArg some hb167) ?_
            refine st_skip (congrArg some hb167) ?_
            refine st_skip (congrArg some hb167) ?_
            refine st (v := (B true)) (rv_pick_t (congrArg B hb167) rfl) ?_
            refine w_end ?_
            obtain rfl := Option.some.inj h
            exact ⟨rfl, _, σ166, fr_join ⟨rfl, rfl, rfl, trivial⟩, rfl, H.sel' [1, 0, 2] rfl rfl⟩
           ·replace h := bif_f hb167 h
            refine st_g (v := (B r140.2)) (congrArg some hb167) (rv_move rfl) ?_
            refine st_g (v := (B r23.2)) (congrArg some hb167) (rv_move rfl) ?_
            refine st_g (v := (B (r140.2 != r23.2))) (congrArg some hb167) (rv_bneq Try.underlying4 rfl rfl) ?_
            refine st (v := (B (r140.2 != r23.2))) (rv_pick_f (congrArg B hb167) rfl) ?_
            refine w_end ?_
            obtain rfl := Option.some.inj h
            exact ⟨rfl, _, σ166, fr_join ⟨rfl, rfl, rfl, trivial⟩, rfl, H.sel' [1, 0, 2] rfl rfl⟩
          ·clear hj
           have h := h'
           clear h' H
           rintro e a w ⟨rfl, ρ, σ168, rfl, rfl, H⟩
           refine q_then ?_
           refine cd_cond o154 rfl (fun hb169 => ?_) (fun hb169 => ?_)
           ·replace h := bif_t hb169 h
            refine c_seq ?_
            refine rg ?_
            refine st (v := (B false)) (rv_assign rfl) ?_
            refine w_end ?_
            refine q_then ?_
            refine c_ret ?_
            refine q_then_r ?_
            obtain rfl := Option.some.inj h
            exact fin_ret (v := (B false)) (results_ok Try.results7 (res_tmp (v := (B false)) rfl res_nil) rfl) ⟨rfl, rfl⟩ (H.sel' [] rfl rfl)
           ·replace h := bif_f hb169 h
            refine c_skip ?_
            refine q_then ?_
            refine c_seq ?_
            refine rg ?_
            refine st (v := (I 1)) (rv_assign rfl) ?_
            refine w_end ?_
            refine q_then ?_
            refine c_seq ?_
            refine rg ?_
            have hc170 := H.cells 2 rfl
            refine st (v := (.agg #[(Sl a53 r113.2.1 c54), (Sl a58 r113.2.2 c59)])) (rv_load (cs := [(Sl a53 r113.2.1 c54), (Sl a58 r113.2.2 c59)]) Try.underlying26 rfl ti26 rfl rfl hc170) ?_
            refine st (v := (I 1)) (rv_move rfl) ?_
            obtain ⟨σ171, hw172, H, -⟩ := H.pub 1 rfl (Nat.le_refl _)
            rw [← hw172]; clear hw172
            obtain ⟨r173, hx174, h'⟩ := bind_some h
            clear h
            have h := h'; clear h'
            have hc175 := c_laws_heldHistory (aa_0_0 := a53) (ca_0_0 := c54) (aa_0_1 := a58) (ca_0_1 := c59) hx174
            refine st_call (cx_call hc175 (ent_f hc175.fn rfl) hn0 (show Hp S0 σ0 _ ([Ch.ro 0 (Sl a53 r113.2.1 c54) r113.2.1, Ch.ro 0 (Sl a58 r113.2.2 c59) r113.2.2] ++ [Ch.ro 0 (Sl a58 r113.2.2 c59) r113.2.2, Ch.ro 0 (Sl a53 r113.2.1 c54) r113.2.1, Ch.bx n0 b61 0 [(Sl a53 r113.2.1 c54), (Sl a58 r113.2.2 c59)] [] []]) from (H.sel' [1, 0, 0, 1, 2] rfl rfl))) wn ?_
            rintro _ σ176 ⟨_, ⟨rfl, rfl⟩, H, -⟩
            replace H : Hp S0 σ0 σ176 [Ch.ro 0 (Sl a58 r113.2.2 c59) r113.2.2, Ch.ro 0 (Sl a53 r113.2.1 c54) r113.2.1, Ch.bx n0 b61 0 [(Sl a53 r113.2.1 c54), (Sl a58 r113.2.2 c59)] [] []] := H
            refine st (v := (I r173)) (rv_assign rfl) ?_
            refine w_end ?_
            refine q_then ?_
            refine c_seq ?_
            refine c_seq ?_
            refine rg ?_
            refine st (v := (I r173)) (rv_move rfl) ?_
            refine st (v := (B (decide (r173 < 0)))) (rv_lss (a := r173) (b := 0) rfl rfl) ?_
            refine w_end ?_
            refine q_then ?_
            refine cd_cond (decide (r173 < 0)) rfl (fun hb177 => ?_) (fun hb177 => ?_)
            ·replace h := bif_t hb177 h
             refine c_seq ?_
             refine rg ?_
             refine st (v := (B false)) (rv_assign rfl) ?_
             refine w_end ?_
             refine q_then ?_
             refine c_ret ?_
             refine q_then_r ?_
             obtain rfl := Option.some.inj h
             exact fin_ret (v := (B false)) (results_ok Try.results7 (res_tmp (v := (B false)) rfl res_nil) rfl) ⟨rfl, rfl⟩ (H.sel' [] rfl rfl)
            ·replace h := bif_f hb177 h
             refine c_skip ?_
             refine q_then ?_
             refine c_seq ?_
             refine c_seq ?_
             refine rg ?_
             refine st (v := (I r173)) (rv_move rfl) ?_
             refine st (v := (I r113.1)) (rv_move rfl) ?_
             refine st (v := (B (r173 != r113.1))) (rv_neq (a := r173) (b := r113.1) rfl rfl) ?_
             refine w_end ?_
             refine q_then ?_
             refine cd_cond (r173 != r113.1) rfl (fun hb178 => ?_) (fun hb178 => ?_)
             ·replace h := bif_t hb178 h
              refine c_seq ?_
              refine rg ?_
              refine st (v := (B false)) (rv_assign rfl) ?_
              refine w_end ?_
              refine q_then ?_
              refine c_ret ?_
              refine q_then_r ?_
              obtain rfl := Option.some.inj h
              exact fin_ret (v := (B false)) (results_ok Try.results7 (res_tmp (v := (B false)) rfl res_nil) rfl) ⟨rfl, rfl⟩ (H.sel' [] rfl rfl)
             ·replace h := bif_f hb178 h
              refine c_skip ?_
              refine q_then ?_
              refine c_seq ?_
              refine rg ?_
              refine st (v := (B true)) (rv_assign rfl) ?_
              refine w_end ?_
              refine q_then ?_
              refine c_ret ?_
              obtain rfl := Option.some.inj h
              exact fin_ret (v := (B true)) (results_ok Try.results7 (res_tmp (v := (B true)) rfl res_nil) rfl) ⟨rfl, rfl⟩ (H.sel' [] rfl rfl)

end Go.Vs
