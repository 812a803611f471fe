/- The functions compute what their models say. -/
import Derived.Test.YtfcemgcmpcmgcaaKValidHistoryC2
set_option linter.unusedVariables false
set_option linter.unusedSimpArgs false
set_option maxRecDepth 20000
namespace Go.Vs
open Go Go.Proofs
attribute [local irreducible] Code.wp Code.wpIn wpList wpListIn wpQuiet Calls CallsIn

theorem c_spec_copyEntry {e_0 : Int × (Int × (List Int) × Int)} {ae_0_1_1 : Option Addr} {ce_0_1_1 : Nat} {r : (Int × (Int × (List Int) × Int))} (h : M.spec_copyEntry e_0 = some r) :
    Cal2 Try.prog 62 [(.agg #[(I e_0.1), (I e_0.2.1), (Sl ae_0_1_1 e_0.2.2.1 ce_0_1_1), (I e_0.2.2.2)])] [Ch.ro 0 (Sl ae_0_1_1 e_0.2.2.1 ce_0_1_1) e_0.2.2.1] (fun n0 v L => ∃ (az1 : Option Addr), ∃ (cz2 : Nat), v = (.agg #[(I r.1), (I r.2.1), (Sl az1 r.2.2.1 cz2), (I r.2.2.2)]) ∧ L = [Ch.own n0 n0 (Sl az1 r.2.2.1 cz2) r.2.2.1]) := by
 refine cal2 (n := 9) Try.func62 rfl rfl rfl rfl ?_
 intro S0 σ0 n0 hn0 H
 unfold M.spec_copyEntry at h
 refine c_seq ?_
 refine rg ?_
 refine st_ex (ex_box (cs := [(I e_0.1), (I e_0.2.1), (Sl ae_0_1_1 e_0.2.2.1 ce_0_1_1), (I e_0.2.2.2)]) H hn0 rfl rfl) wn ?_
 rintro _ σ2 ⟨b1, rfl, H, -⟩
 refine st_ex (ex_alloc (cs := [(I 0), (I 0), (.slice none 0 0), (I 0)]) H hn0 ti43 rfl) wn ?_
 rintro _ σ4 ⟨b3, rfl, H, -⟩
 refine w_end ?_
 refine q_then ?_
 refine c_seq ?_
 have hc5 := H.cell (u := (I e_0.1)) (o' := 0) 1 0 rfl rfl rfl
 have hc6 := H.part (us := [(I e_0.2.1), (Sl ae_0_1_1 e_0.2.2.1 ce_0_1_1), (I e_0.2.2.2)]) (o' := 1) 1 1 3 rfl rfl rfl rfl
 obtain ⟨r7, hx8, h'⟩ := bind_some h
 clear h
 have h := h'; clear h'
 have hc9 := c_spec_copyItem (ax_0_1 := ae_0_1_1) (cx_0_1 := ce_0_1_1) hx8
 have Hs := H
 refine rg2 (σ := σ4) (Nm := (Option Addr) × (Nat)) 5 [4] [[false], [true]] [[(0, 0), (1, 1)], [(0, 0), (1, 1)], [(0, 0)], [(0, 0)], [(0, 1)]] 1 [fun ((a10, c11) : (Option Addr) × (Nat)) => fun σm => Hp S0 σ0 σm [Ch.bx n0 b3 0 [(I 0), (I 0), (.slice none 0 0), (I 0)] [] [], Ch.bx n0 b1 0 [(I e_0.1), (I e_0.2.1), (Sl ae_0_1_1 e_0.2.2.1 ce_0_1_1), (I e_0.2.2.2)] [] [], Ch.ro 0 (Sl ae_0_1_1 e_0.2.2.1 ce_0_1_1) e_0.2.2.1] ∧ Md (cov []) σ4 σm, fun ((a10, c11) : (Option Addr) × (Nat)) => fun σm => Hp S0 σ0 σm [Ch.own n0 n0 (Sl a10 r7.2.1 c11) r7.2.1, Ch.bx n0 b3 0 [(I 0), (I 0), (.slice none 0 0), (I 0)] [] [], Ch.bx n0 b1 0 [(I e_0.1), (I e_0.2.1), (Sl ae_0_1_1 e_0.2.2.1 ce_0_1_1), (I e_0.2.2.2)] [] [], Ch.ro 0 (Sl ae_0_1_1 e_0.2.2.1 ce_0_1_1) e_0.2.2.1] ∧ Md (cov []) σ4 σm] [fun ((a10, c11) : (Option Addr) × (Nat)) => (pt b1 0), fun ((a10, c11) : (Option Addr) × (Nat)) => (I e_0.1), fun ((a10, c11) : (Option Addr) × (Nat)) => (pt b1 1), fun ((a10, c11) : (Option Addr) × (Nat)) => (.agg #[(I e_0.2.1), (Sl ae_0_1_1 e_0.2.2.1 ce_0_1_1), (I e_0.2.2.2)]), fun ((a10, c11) : (Option Addr) × (Nat)) => (.agg #[(I r7.1), (Sl a10 r7.2.1 c11), (I r7.2.2)])] (none, 0) (by kernel_rfl) (by kernel_rfl) ?_ ?_ ?_
 ·intro σm m0
  exact ⟨H.grow (m0.mono fun _ h => h.elim), m0⟩
 ·refine ac rfl (by
    intro k; rintro ⟨a10, c11⟩ ρ σm hJ hoff hdep
    have e1 := look_off (N := 9) (hoff 1 rfl) rfl
    exact dp_v (v := (pt b1 0)) wn (rv_fieldAddr (off := 0) (ft := 3) Try.underlying43 rfl ti3 rfl e1) rfl hJ) ?_
  refine all_cons (by
    refine ⟨?_, ?_⟩
    ·rintro ⟨a10, c11⟩ ρ σm hJ hoff hdep
     have e3 := hdep 0 rfl rfl 3 rfl
     obtain ⟨H, m⟩ := id hJ
     have hc5 := H.cell (u := (I e_0.1)) (o' := 0) 1 0 rfl rfl rfl
     exact dp_v (v := (I e_0.1)) wn (rv_load1 Try.underlying3 rfl e3 hc5) rfl hJ
    refine ⟨?_, ?_⟩
    ·rintro ⟨a10, c11⟩ ρ σm hJ hoff hdep
     have e3 := hdep 0 rfl rfl 3 rfl
     obtain ⟨H, m⟩ := id hJ
     have hc5 := H.cell (u := (I e_0.1)) (o' := 0) 2 0 rfl rfl rfl
     exact dp_v (v := (I e_0.1)) wn (rv_load1 Try.underlying3 rfl e3 hc5) rfl hJ
    trivial) ?_
  refine ac rfl (by
    intro k; rintro ⟨a10, c11⟩ ρ σm hJ hoff hdep
    have e1 := look_off (N := 9) (hoff 1 rfl) rfl
    exact dp_v (v := (pt b1 1)) wn (rv_fieldAddr (off := 1) (ft := 41) Try.underlying43 rfl ti41 rfl e1) rfl hJ) ?_
  refine all_cons (by
    refine ⟨?_, ?_⟩
    ·rintro ⟨a10, c11⟩ ρ σm hJ hoff hdep
     have e5 := hdep 2 rfl rfl 5 rfl
     obtain ⟨H, m⟩ := id hJ
     have hc6 := H.part (us := [(I e_0.2.1), (Sl ae_0_1_1 e_0.2.2.1 ce_0_1_1), (I e_0.2.2.2)]) (o' := 1) 1 1 3 rfl rfl rfl rfl
     exact dp_v (v := (.agg #[(I e_0.2.1), (Sl ae_0_1_1 e_0.2.2.1 ce_0_1_1), (I e_0.2.2.2)])) wn (rv_load (cs := [(I e_0.2.1), (Sl ae_0_1_1 e_0.2.2.1 ce_0_1_1), (I e_0.2.2.2)]) Try.underlying41 rfl ti41 e5 rfl hc6) rfl hJ
    trivial) ?_
  refine all_cons (by
    refine ⟨?_, ?_⟩
    ·rintro ⟨a10, c11⟩ ρ σm hJ hoff hdep
     have e6 : look 9 ρ 6 = (.agg #[(I e_0.2.1), (Sl ae_0_1_1 e_0.2.2.1 ce_0_1_1), (I e_0.2.2.2)]) := hdep 3 rfl rfl 6 rfl
     obtain ⟨H, m⟩ := id hJ
     refine dp_cx wn (cx_call hc9 (ent_f hc9.fn (by show [look 9 ρ 6] = _; rw [e6])) hn0 (show Hp S0 σ0 _ ([Ch.ro 0 (Sl ae_0_1_1 e_0.2.2.1 ce_0_1_1) e_0.2.2.1] ++ [Ch.bx n0 b3 0 [(I 0), (I 0), (.slice none 0 0), (I 0)] [] [], Ch.bx n0 b1 0 [(I e_0.1), (I e_0.2.1), (Sl ae_0_1_1 e_0.2.2.1 ce_0_1_1), (I e_0.2.2.2)] [] [], Ch.ro 0 (Sl ae_0_1_1 e_0.2.2.1 ce_0_1_1) e_0.2.2.1]) from (H.sel' [2, 0, 1, 2] rfl rfl))) ?_
     rintro _ σq ⟨_, ⟨a10x, c11x, rfl, rfl⟩, H2, m2⟩
     exact ⟨_, (a10x, c11x), rfl, rfl, ⟨H2.sel' [0, 1, 2, 3] rfl rfl, m.comp0 (m2.mono (fun i h => by simp [cov, Ch.ro] at h))⟩, stab [0, 1, 2, 3] (by kernel_rfl) ⟨rfl, rfl, rfl, rfl, trivial⟩⟩
    trivial) ?_
  exact all_nil
 ·rintro ⟨a10, c11⟩ ρ σ12 hJ hoff hrel
  have e2 := look_off (N := 9) (hoff 2 rfl) rfl
  have e4 := hrel 1 rfl 4 rfl
  have e7 := hrel 4 rfl 7 rfl
  obtain ⟨H, -⟩ := (show Hp S0 σ0 σ12 [Ch.own n0 n0 (Sl a10 r7.2.1 c11) r7.2.1, Ch.bx n0 b3 0 [(I 0), (I 0), (.slice none 0 0), (I 0)] [] [], Ch.bx n0 b1 0 [(I e_0.1), (I e_0.2.1), (Sl ae_0_1_1 e_0.2.2.1 ce_0_1_1), (I e_0.2.2.2)] [] [], Ch.ro 0 (Sl ae_0_1_1 e_0.2.2.1 ce_0_1_1) e_0.2.2.1] ∧ Md (cov []) σ4 σ12 from hJ)
  clear hJ Hs
  rw [fr_lookL (L := [(2, (pt b3 0)), (4, (I e_0.1)), (7, (.agg #[(I r7.1), (Sl a10 r7.2.1 c11), (I r7.2.2)]))]) ⟨e2, e4, e7, trivial⟩]
  clear hoff hrel e2 e4 e7
  refine st (v := (.agg #[(I e_0.1), (I r7.1), (Sl a10 r7.2.1 c11), (I r7.2.2)])) (rv_build (ps := [(0, (I e_0.1)), (1, (.agg #[(I r7.1), (Sl a10 r7.2.1 c11), (I r7.2.2)]))]) Try.underlying43 ti43 (bp43 Try.underlying43) rfl (by kernel_rfl)) ?_
  refine st_exS (ex_store_box (k := 0) (cs := [(I 0), (I 0), (.slice none 0 0), (I 0)]) (vs := [(I e_0.1), (I r7.1), (Sl a10 r7.2.1 c11), (I r7.2.2)]) (cs' := [(I e_0.1), (I r7.1), (Sl a10 r7.2.1 c11), (I r7.2.2)]) H (i := 1) rfl ti43 rfl rfl rfl rfl rfl (Nat.le_of_ble_eq_true rfl) (by simp [plain]) rfl) wn ?_
  rintro σ13 ⟨H, -⟩
  refine w_end ?_
  refine q_then ?_
  refine c_ret ?_
  obtain rfl := Option.some.inj h
  exact fin_ret (v := (.agg #[(I e_0.1), (I r7.1), (Sl a10 r7.2.1 c11), (I r7.2.2)])) (results_ok Try.results62 (res_cell rfl (run_cellRes (cs := [(I e_0.1), (I r7.1), (Sl a10 r7.2.1 c11), (I r7.2.2)]) Try.underlying43 rfl ti43 rfl (H.cells 0 rfl)) res_nil) rfl) ⟨a10, c11, rfl, rfl⟩ (H.sel' [1] rfl rfl)

theorem c_spec_copyHistory {h_0 : (List (Int × (Int × (List Int) × Int))) × (List Int)} {n_1 : Int} {ah_0_0 : Option Addr} {ch_0_0 : Nat} {ah_0_1 : Option Addr} {ch_0_1 : Nat} {r : ((List (Int × (Int × (List Int) × Int))) × (List Int))} (h : M.spec_copyHistory h_0 n_1 = some r) :
    Cal2 Try.prog 61 [(.agg #[(Sl ah_0_0 h_0.1 ch_0_0), (Sl ah_0_1 h_0.2 ch_0_1)]), (I n_1)] [Ch.ro 0 (Sl ah_0_0 h_0.1 ch_0_0) h_0.1, Ch.ro 0 (Sl ah_0_1 h_0.2 ch_0_1) h_0.2] (fun n0 v L => ∃ (az1 : Option Addr), ∃ (cz2 : Nat), ∃ (az3 : Option Addr), ∃ (cz4 : Nat), v = (.agg #[(Sl az1 r.1 cz2), (Sl az3 r.2 cz4)]) ∧ L = [Ch.own n0 n0 (Sl az1 r.1 cz2) r.1, Ch.own n0 n0 (Sl az3 r.2 cz4) r.2]) := by
 refine cal2 (n := 29) Try.func61 rfl rfl rfl rfl ?_
 intro S0 σ0 n0 hn0 H
 unfold M.spec_copyHistory at h
 refine c_seq ?_
 refine rg ?_
 refine st_ex (ex_box (cs := [(Sl ah_0_0 h_0.1 ch_0_0), (Sl ah_0_1 h_0.2 ch_0_1)]) H hn0 rfl rfl) wn ?_
 rintro _ σ2 ⟨b1, rfl, H, -⟩
 refine st_ex (ex_alloc (cs := [(.slice none 0 0), (.slice none 0 0)]) H hn0 ti26 rfl) wn ?_
 rintro _ σ4 ⟨b3, rfl, H, -⟩
 refine w_end ?_
 refine q_then ?_
 refine c_seq ?_
 refine rg ?_
 refine st_ex (ex_buildSlice (el := n0) (xs := ([] : List (Int × (Int × (List Int) × Int)))) (ps := []) (cs := []) H hn0 Try.underlying23 ti43 rfl rfl (by kernel_rfl) (.nil) rfl) wn ?_
 rintro _ σ6 ⟨b5, rfl, H, -⟩
 refine st (v := (Sl (some ⟨b5, 0, none⟩) ([] : List (Int × (Int × (List Int) × Int))) 0)) (rv_assign rfl) ?_
 refine w_end ?_
 refine q_then ?_
 refine c_seq ?_
 refine c_seq ?_
 refine rg ?_
 refine st (v := (I 0)) (rv_assign rfl) ?_
 refine w_end ?_
 refine q_then ?_
 obtain ⟨o7, hj, h'⟩ := bind_some h
 clear h
 refine c_cut (fun e a w => e = .normal ∧ ∃ (ρ : Nat → Value) (σ : St) (aj1 : Option Addr) (cj2 : Nat), a = fr 29 (updL ρ [(1, (I n_1)), (2, (pt b1 0)), (4, (pt b3 0)), (5, (Sl aj1 o7 cj2))]) ∧ w = σ.w ∧ Hp S0 σ0 σ [Ch.ro 0 (Sl ah_0_0 h_0.1 ch_0_0) h_0.1, Ch.ro 0 (Sl ah_0_1 h_0.2 ch_0_1) h_0.2, Ch.bx n0 b1 0 [(Sl ah_0_0 h_0.1 ch_0_0), (Sl ah_0_1 h_0.2 ch_0_1)] [] [], Ch.bx n0 b3 0 [(.slice none 0 0), (.slice none 0 0)] [] [], Ch.own n0 n0 (Sl aj1 o7 cj2) o7]) ?_ ?_
 ·clear h'
  rename _ = some o7 => h
  refine c_blk ?_
  refine wp_loopM _ h (fun s8 a w => ∃ (ρ : Nat → Value) (σ : St) (aj1 : Option Addr) (cj2 : Nat), a = fr 29 (updL ρ [(1, (I n_1)), (2, (pt b1 0)), (4, (pt b3 0)), (5, (Sl aj1 s8.1 cj2)), (6, (I s8.2))]) ∧ w = σ.w ∧ Hp S0 σ0 σ [Ch.ro 0 (Sl ah_0_0 h_0.1 ch_0_0) h_0.1, Ch.ro 0 (Sl ah_0_1 h_0.2 ch_0_1) h_0.2, Ch.bx n0 b1 0 [(Sl ah_0_0 h_0.1 ch_0_0), (Sl ah_0_1 h_0.2 ch_0_1)] [] [], Ch.bx n0 b3 0 [(.slice none 0 0), (.slice none 0 0)] [] [], Ch.own n0 n0 (Sl aj1 s8.1 cj2) s8.1]) ⟨_, σ6, (some ⟨b5, 0, none⟩), 0, fr_join ⟨rfl, rfl, rfl, rfl, rfl, trivial⟩, rfl, H.sel' [3, 4, 2, 1, 0] rfl rfl⟩ ?_
  clear h H
  rintro s8 a w o ⟨ρ, σ9, a10, c11, rfl, rfl, H⟩ h hres
  refine c_seq ?_
  refine c_seq ?_
  refine rg ?_
  refine st (v := (I s8.2)) (rv_move rfl) ?_
  refine st (v := (I n_1)) (rv_move rfl) ?_
  refine st (v := (B (decide (s8.2 < n_1)))) (rv_lss (a := s8.2) (b := n_1) rfl rfl) ?_
  refine w_end ?_
  refine q_then ?_
  refine cd_cond (decide (s8.2 < n_1)) rfl (fun hb12 => ?_) (fun hb12 => ?_)
  ·replace h := bif_t hb12 h
   refine c_skip ?_
   refine q_then ?_
   refine c_seq ?_
   refine c_blk ?_
   refine rg ?_
   refine st (v := (Sl a10 s8.1 c11)) (rv_move rfl) ?_
   refine st (v := (pt b1 0)) (rv_fieldAddr (off := 0) (ft := 23) Try.underlying26 rfl ti23 rfl rfl) ?_
   have hc13 := H.cell (u := (Sl ah_0_0 h_0.1 ch_0_0)) (o' := 0) 2 0 rfl rfl rfl
   refine st (v := (Sl ah_0_0 h_0.1 ch_0_0)) (rv_load1 Try.underlying23 rfl rfl hc13) ?_
   refine st (v := (I s8.2)) (rv_move rfl) ?_
   obtain ⟨x14, hx15, h'⟩ := bind_some h
   clear h
   have h := h'; clear h'
   obtain ⟨b17, o18, hi16, -⟩ := (H.ro 0 rfl).ix hx15
   refine st (v := (pt b17 o18)) (rv_ix Try.underlying23 ti43 rfl rfl hi16) ?_
   obtain ⟨_, ⟨_, _, rfl, rfl, ⟨_, _, rfl, rfl, ⟨_, _, rfl, ⟨_, rfl, hR23⟩, rfl⟩⟩⟩, hl19, hc20⟩ := ((H.ro 0 rfl).at hx15 hi16).cells
   obtain ⟨a21, c22, rfl⟩ := hR23.isSl
   replace H := H.add (d := Ch.ro 0 (Sl a21 x14.2.2.1 c22) x14.2.2.1) hR23 (fun _ h => h)
   clear hR23
   refine st (v := (.agg #[(I x14.1), (I x14.2.1), (Sl a21 x14.2.2.1 c22), (I x14.2.2.2)])) (rv_load Try.underlying43 rfl ti43 rfl hl19 hc20) ?_
   obtain ⟨r24, hx25, h'⟩ := bind_some h
   clear h
   have h := h'; clear h'
   have hc26 := c_spec_copyEntry (ae_0_1_1 := a21) (ce_0_1_1 := c22) hx25
   refine st_call (cx_call hc26 (ent_f hc26.fn rfl) hn0 (show Hp S0 σ0 _ ([Ch.ro 0 (Sl a21 x14.2.2.1 c22) x14.2.2.1] ++ [Ch.ro 0 (Sl a21 x14.2.2.1 c22) x14.2.2.1, Ch.ro 0 (Sl ah_0_0 h_0.1 ch_0_0) h_0.1, Ch.ro 0 (Sl ah_0_1 h_0.2 ch_0_1) h_0.2, Ch.bx n0 b1 0 [(Sl ah_0_0 h_0.1 ch_0_0), (Sl ah_0_1 h_0.2 ch_0_1)] [] [], Ch.bx n0 b3 0 [(.slice none 0 0), (.slice none 0 0)] [] [], Ch.own n0 n0 (Sl a10 s8.1 c11) s8.1]) from (H.sel' [0, 0, 1, 2, 3, 4, 5] rfl rfl))) wn ?_
   rintro _ σ29 ⟨_, ⟨a27, c28, rfl, rfl⟩, H, -⟩
   replace H : Hp S0 σ0 σ29 [Ch.own n0 n0 (Sl a27 r24.2.2.1 c28) r24.2.2.1, Ch.ro 0 (Sl a21 x14.2.2.1 c22) x14.2.2.1, Ch.ro 0 (Sl ah_0_0 h_0.1 ch_0_0) h_0.1, Ch.ro 0 (Sl ah_0_1 h_0.2 ch_0_1) h_0.2, Ch.bx n0 b1 0 [(Sl ah_0_0 h_0.1 ch_0_0), (Sl ah_0_1 h_0.2 ch_0_1)] [] [], Ch.bx n0 b3 0 [(.slice none 0 0), (.slice none 0 0)] [] [], Ch.own n0 n0 (Sl a10 s8.1 c11) s8.1] := H
   obtain ⟨σ30, hw31, H, -⟩ := H.pub 0 rfl (Nat.le_refl _)
   rw [← hw31]; clear hw31
   refine st_ex (ex_buildSlice (el := n0) (xs := ([(r24.1, (r24.2.1, r24.2.2.1, r24.2.2.2))] : List (Int × (Int × (List Int) × Int)))) (ps := [(0, (.agg #[(I r24.1), (I r24.2.1), (Sl a27 r24.2.2.1 c28), (I r24.2.2.2)]))]) (cs := [(I r24.1), (I r24.2.1), (Sl a27 r24.2.2.1 c28), (I r24.2.2.2)]) H hn0 Try.underlying23 ti43 rfl rfl (by kernel_rfl) (.cons (c := [(I r24.1), (I r24.2.1), (Sl a27 r24.2.2.1 c28), (I r24.2.2.2)]) ⟨[(I r24.1)], [(I r24.2.1), (Sl a27 r24.2.2.1 c28), (I r24.2.2.2)], rfl, rfl, ⟨[(I r24.2.1)], [(Sl a27 r24.2.2.1 c28), (I r24.2.2.2)], rfl, rfl, ⟨[(Sl a27 r24.2.2.1 c28)], [(I r24.2.2.2)], rfl, ⟨_, rfl, (H.ro 0 rfl)⟩, rfl⟩⟩⟩ (.nil)) rfl) wn ?_
   rintro _ σ33 ⟨b32, rfl, H, -⟩
   replace H : Hp S0 σ0 σ33 [Ch.own n0 n0 (Sl (some ⟨b32, 0, none⟩) ([(r24.1, (r24.2.1, r24.2.2.1, r24.2.2.2))] : List (Int × (Int × (List Int) × Int))) 1) ([(r24.1, (r24.2.1, r24.2.2.1, r24.2.2.2))] : List (Int × (Int × (List Int) × Int))), Ch.ro 0 (Sl ah_0_0 h_0.1 ch_0_0) h_0.1, Ch.ro 0 (Sl ah_0_1 h_0.2 ch_0_1) h_0.2, Ch.bx n0 b1 0 [(Sl ah_0_0 h_0.1 ch_0_0), (Sl ah_0_1 h_0.2 ch_0_1)] [] [], Ch.bx n0 b3 0 [(.slice none 0 0), (.slice none 0 0)] [] [], Ch.own n0 n0 (Sl a10 s8.1 c11) s8.1] := H.sel' [0, 3, 4, 5, 6, 7] rfl rfl
   obtain ⟨xs34, hx35, h'⟩ := bind_some h
   clear h
   have h := h'; clear h'
   refine st_ex (ex_append H (i := 5) rfl Try.underlying23 Try.underlying23 ti43 rfl rfl (by decide) (H.own 0 rfl).rd hx35 hn0 rfl rfl) wn ?_
   rintro _ σ38 ⟨a36, c37, rfl, H, -⟩
   refine st (v := (Sl a36 xs34 c37)) (rv_assign rfl) ?_
   refine w_end ?_
   refine q_blk ?_
   refine q_then ?_
   refine rg ?_
   refine st (v := (I s8.2)) (rv_move rfl) ?_
   refine st (v := (I (w64 (s8.2 + 1)))) (rv_add (a := s8.2) (b := 1) rfl rfl) ?_
   refine st (v := (I (w64 (s8.2 + 1)))) (rv_assign rfl) ?_
   refine w_end ?_
   refine q_then ?_
   obtain rfl := Option.some.inj h
   exact ⟨_, rfl, _, σ38, a36, c37, fr_join ⟨rfl, rfl, rfl, rfl, rfl, trivial⟩, rfl, H.sel' [2, 3, 4, 5, 0] rfl rfl⟩
  ·replace h := bif_f hb12 h
   refine c_exit ?_
   refine q_then_x ?_
   refine q_then_x ?_
   refine q_blk_hit ?_
   obtain rfl := Option.some.inj h
   obtain rfl := hres _ rfl
   exact ⟨rfl, _, σ9, a10, c11, fr_join ⟨rfl, rfl, rfl, rfl, trivial⟩, rfl, H.sel' [0, 1, 2, 3, 4] rfl rfl⟩
 ·clear hj
  have h := h'
  clear h' H
  rintro e a w ⟨rfl, ρ, σ39, a40, c41, rfl, rfl, H⟩
  refine q_then ?_
  refine c_seq ?_
  refine rg ?_
  refine st (v := (Sl a40 o7 c41)) (rv_move rfl) ?_
  refine st (v := (pt b1 1)) (rv_fieldAddr (off := 1) (ft := 24) Try.underlying26 rfl ti24 rfl rfl) ?_
  have hc42 := H.cell (u := (Sl ah_0_1 h_0.2 ch_0_1)) (o' := 1) 2 1 rfl rfl rfl
  refine st (v := (Sl ah_0_1 h_0.2 ch_0_1)) (rv_load1 Try.underlying24 rfl rfl hc42) ?_
  refine st (v := (I n_1)) (rv_move rfl) ?_
  obtain ⟨xs43, hx44, h'⟩ := bind_some h
  clear h
  have h := h'; clear h'
  obtain ⟨a45, c46, hs47, hR48⟩ := (H.ro 1 rfl).slice hx44
  replace H := H.add (d := Ch.ro 0 (Sl a45 xs43 c46) xs43) hR48 (fun _ h => h)
  clear hR48
  refine st (v := (Sl a45 xs43 c46)) (rv_slice_h Try.underlying24 ti3 hs47 rfl rfl) ?_
  obtain ⟨r49, hx50, h'⟩ := bind_some h
  clear h
  have h := h'; clear h'
  have hc51 := c_spec_copyInts (alist_0 := a45) (clist_0 := c46) hx50
  refine st_call (cx_call hc51 (ent_f hc51.fn rfl) hn0 (show Hp S0 σ0 _ ([Ch.ro 0 (Sl a45 xs43 c46) xs43] ++ [Ch.ro 0 (Sl a45 xs43 c46) xs43, Ch.ro 0 (Sl ah_0_0 h_0.1 ch_0_0) h_0.1, Ch.ro 0 (Sl ah_0_1 h_0.2 ch_0_1) h_0.2, Ch.bx n0 b1 0 [(Sl ah_0_0 h_0.1 ch_0_0), (Sl ah_0_1 h_0.2 ch_0_1)] [] [], Ch.bx n0 b3 0 [(.slice none 0 0), (.slice none 0 0)] [] [], Ch.own n0 n0 (Sl a40 o7 c41) o7]) from (H.sel' [0, 0, 1, 2, 3, 4, 5] rfl rfl))) wn ?_
  rintro _ σ54 ⟨_, ⟨a52, c53, rfl, rfl⟩, H, -⟩
  replace H : Hp S0 σ0 σ54 [Ch.own n0 n0 (Sl a52 r49 c53) r49, Ch.ro 0 (Sl a45 xs43 c46) xs43, Ch.ro 0 (Sl ah_0_0 h_0.1 ch_0_0) h_0.1, Ch.ro 0 (Sl ah_0_1 h_0.2 ch_0_1) h_0.2, Ch.bx n0 b1 0 [(Sl ah_0_0 h_0.1 ch_0_0), (Sl ah_0_1 h_0.2 ch_0_1)] [] [], Ch.bx n0 b3 0 [(.slice none 0 0), (.slice none 0 0)] [] [], Ch.own n0 n0 (Sl a40 o7 c41) o7] := H
  refine st (v := (.agg #[(Sl a40 o7 c41), (Sl a52 r49 c53)])) (rv_build (ps := [(0, (Sl a40 o7 c41)), (1, (Sl a52 r49 c53))]) Try.underlying26 ti26 (bp26 Try.underlying26) rfl (by kernel_rfl)) ?_
  refine st_exS (ex_store_box (k := 0) (cs := [(.slice none 0 0), (.slice none 0 0)]) (vs := [(Sl a40 o7 c41), (Sl a52 r49 c53)]) (cs' := [(Sl a40 o7 c41), (Sl a52 r49 c53)]) H (i := 5) rfl ti26 rfl rfl rfl rfl rfl (Nat.le_of_ble_eq_true rfl) (by simp [plain]) rfl) wn ?_
  rintro σ55 ⟨H, -⟩
  refine w_end ?_
  refine q_then ?_
  refine c_ret ?_
  obtain rfl := Option.some.inj h
  exact fin_ret (v := (.agg #[(Sl a40 o7 c41), (Sl a52 r49 c53)])) (results_ok Try.results61 (res_cell rfl (run_cellRes (cs := [(Sl a40 o7 c41), (Sl a52 r49 c53)]) Try.underlying26 rfl ti26 rfl (H.cells 0 rfl)) res_nil) rfl) ⟨a40, c41, a52, c53, rfl, rfl⟩ (H.sel' [6, 1] rfl rfl)

theorem c_spec_AddEntry {h_0 : (List (Int × (Int × (List Int) × Int))) × (List Int)} {e_1 : Int × (Int × (List Int) × Int)} {t_2 : Int} {ah_0_0 : Option Addr} {ch_0_0 : Nat} {ah_0_1 : Option Addr} {ch_0_1 : Nat} {ae_1_1_1 : Option Addr} {ce_1_1_1 : Nat} {r : ((List (Int × (Int × (List Int) × Int))) × (List Int)) × Bool} (h : M.spec_AddEntry h_0 e_1 t_2 = some r) :
    Cal2 Try.prog 28 [(.agg #[(Sl ah_0_0 h_0.1 ch_0_0), (Sl ah_0_1 h_0.2 ch_0_1)]), (.agg #[(I e_1.1), (I e_1.2.1), (Sl ae_1_1_1 e_1.2.2.1 ce_1_1_1), (I e_1.2.2.2)]), (I t_2)] [Ch.ro 0 (Sl ah_0_0 h_0.1 ch_0_0) h_0.1, Ch.ro 0 (Sl ah_0_1 h_0.2 ch_0_1) h_0.2, Ch.ro 0 (Sl ae_1_1_1 e_1.2.2.1 ce_1_1_1) e_1.2.2.1] (fun n0 v L => ∃ (az1 : Option Addr), ∃ (cz2 : Nat), ∃ (az3 : Option Addr), ∃ (cz4 : Nat), v = (.tuple #[(.agg #[(Sl az1 r.1.1 cz2), (Sl az3 r.1.2 cz4)]), (B r.2)]) ∧ L = [Ch.own n0 n0 (Sl az1 r.1.1 cz2) r.1.1, Ch.own n0 n0 (Sl az3 r.1.2 cz4) r.1.2]) := by
 refine cal2 (n := 41) Try.func28 rfl rfl rfl rfl ?_
 intro S0 σ0 n0 hn0 H
 unfold M.spec_AddEntry at h
 refine c_seq ?_
 refine rg ?_
 refine st_ex (ex_box (cs := [(Sl ah_0_0 h_0.1 ch_0_0), (Sl ah_0_1 h_0.2 ch_0_1)]) H hn0 rfl rfl) wn ?_
 rintro _ σ2 ⟨b1, rfl, H, -⟩
 refine st_ex (ex_box (cs := [(I e_1.1), (I e_1.2.1), (Sl ae_1_1_1 e_1.2.2.1 ce_1_1_1), (I e_1.2.2.2)]) H hn0 rfl rfl) wn ?_
 rintro _ σ4 ⟨b3, rfl, H, -⟩
 refine st_ex (ex_alloc (cs := [(.slice none 0 0), (.slice none 0 0)]) H hn0 ti26 rfl) wn ?_
 rintro _ σ6 ⟨b5, rfl, H, -⟩
 refine st (v := (B false)) (rv_assign rfl) ?_
 refine w_end ?_
 refine q_then ?_
 refine c_seq ?_
 refine c_seq ?_
 obtain ⟨o7, hj, h'⟩ := bind_some h
 clear h
 refine c_cut (fun e a w => e = .normal ∧ ∃ (ρ : Nat → Value) (σ : St), a = fr 41 (updL ρ [(2, (I t_2)), (3, (pt b1 0)), (4, (pt b3 0)), (6, (pt b5 0)), (16, (B o7))]) ∧ w = σ.w ∧ Hp S0 σ0 σ [Ch.ro 0 (Sl ah_0_0 h_0.1 ch_0_0) h_0.1, Ch.ro 0 (Sl ah_0_1 h_0.2 ch_0_1) h_0.2, Ch.bx n0 b1 0 [(Sl ah_0_0 h_0.1 ch_0_0), (Sl ah_0_1 h_0.2 ch_0_1)] [] [], Ch.ro 0 (Sl ae_1_1_1 e_1.2.2.1 ce_1_1_1) e_1.2.2.1, Ch.bx n0 b3 0 [(I e_1.1), (I e_1.2.1), (Sl ae_1_1_1 e_1.2.2.1 ce_1_1_1), (I e_1.2.2.2)] [] [], Ch.bx n0 b5 0 [(.slice none 0 0), (.slice none 0 0)] [] []]) ?_ ?_
 ·clear h'
  rename _ = some o7 => h
  refine rg ?_
  have hc8 := H.cells 2 rfl
  refine st (v := (.agg #[(Sl ah_0_0 h_0.1 ch_0_0), (Sl ah_0_1 h_0.2 ch_0_1)])) (rv_load (cs := [(Sl ah_0_0 h_0.1 ch_0_0), (Sl ah_0_1 h_0.2 ch_0_1)]) Try.underlying26 rfl ti26 rfl rfl hc8) ?_
  obtain ⟨r9, hx10, h'⟩ := bind_some h
  clear h
  have h := h'; clear h'
  have hc11 := c_spec_validHistory (ah_0_0 := ah_0_0) (ch_0_0 := ch_0_0) (ah_0_1 := ah_0_1) (ch_0_1 := ch_0_1) hx10
  refine st_call (cx_call hc11 (ent_f hc11.fn rfl) hn0 (show Hp S0 σ0 _ ([Ch.ro 0 (Sl ah_0_0 h_0.1 ch_0_0) h_0.1, Ch.ro 0 (Sl ah_0_1 h_0.2 ch_0_1) h_0.2] ++ [Ch.bx n0 b5 0 [(.slice none 0 0), (.slice none 0 0)] [] [], Ch.bx n0 b3 0 [(I e_1.1), (I e_1.2.1), (Sl ae_1_1_1 e_1.2.2.1 ce_1_1_1), (I e_1.2.2.2)] [] [], Ch.bx n0 b1 0 [(Sl ah_0_0 h_0.1 ch_0_0), (Sl ah_0_1 h_0.2 ch_0_1)] [] [], Ch.ro 0 (Sl ah_0_0 h_0.1 ch_0_0) h_0.1, Ch.ro 0 (Sl ah_0_1 h_0.2 ch_0_1) h_0.2, Ch.ro 0 (Sl ae_1_1_1 e_1.2.2.1 ce_1_1_1) e_1.2.2.1]) from (H.sel' [3, 4, 0, 1, 2, 3, 4, 5] rfl rfl))) wn ?_
  rintro _ σ12 ⟨_, ⟨rfl, rfl⟩, H, -⟩
  replace H : Hp S0 σ0 σ12 [Ch.bx n0 b5 0 [(.slice none 0 0), (.slice none 0 0)] [] [], Ch.bx n0 b3 0 [(I e_1.1), (I e_1.2.1), (Sl ae_1_1_1 e_1.2.2.1 ce_1_1_1), (I e_1.2.2.2)] [] [], Ch.bx n0 b1 0 [(Sl ah_0_0 h_0.1 ch_0_0), (Sl ah_0_1 h_0.2 ch_0_1)] [] [], Ch.ro 0 (Sl ah_0_0 h_0.1 ch_0_0) h_0.1, Ch.ro 0 (Sl ah_0_1 h_0.2 ch_0_1) h_0.2, Ch.ro 0 (Sl ae_1_1_1 e_1.2.2.1 ce_1_1_1) e_1.2.2.1] := H
  refine st (v := (B (!r9))) (rv_not rfl) ?_
  refine st (v := (B (!r9))) (rv_move rfl) ?_
  rcases Bool.eq_false_or_eq_true (!r9) with hb13 | hb13
  ·replace h := bif_t hb13 h
   refine st_skip (congrArg some hb13) ?_
   refine st_skip (congrArg some hb13) ?_
   refine st_skip (congrArg some hb13) ?_
   refine st (v := (B true)) (rv_pick_t (congrArg B hb13) rfl) ?_
   refine w_end ?_
   obtain rfl := Option.some.inj h
   exact ⟨rfl, _, σ12, fr_join ⟨rfl, rfl, rfl, rfl, rfl, trivial⟩, rfl, H.sel' [3, 4, 2, 5, 1, 0] rfl rfl⟩
  ·replace h := bif_f hb13 h
   have hc14 := H.cells 1 rfl
   refine st_g (v := (.agg #[(I e_1.1), (I e_1.2.1), (Sl ae_1_1_1 e_1.2.2.1 ce_1_1_1), (I e_1.2.2.2)])) (congrArg some hb13) (rv_load (cs := [(I e_1.1), (I e_1.2.1), (Sl ae_1_1_1 e_1.2.2.1 ce_1_1_1), (I e_1.2.2.2)]) Try.underlying43 rfl ti43 rfl rfl hc14) ?_
   obtain ⟨r15, hx16, h'⟩ := bind_some h
   clear h
   have h := h'; clear h'
   have hc17 := c_spec_validEntry (ae_0_1_1 := ae_1_1_1) (ce_0_1_1 := ce_1_1_1) hx16
   refine st_call (cx_call hc17 (ent_f hc17.fn rfl) hn0 (show Hp S0 σ0 _ ([Ch.ro 0 (Sl ae_1_1_1 e_1.2.2.1 ce_1_1_1) e_1.2.2.1] ++ [Ch.bx n0 b5 0 [(.slice none 0 0), (.slice none 0 0)] [] [], Ch.bx n0 b3 0 [(I e_1.1), (I e_1.2.1), (Sl ae_1_1_1 e_1.2.2.1 ce_1_1_1), (I e_1.2.2.2)] [] [], Ch.bx n0 b1 0 [(Sl ah_0_0 h_0.1 ch_0_0), (Sl ah_0_1 h_0.2 ch_0_1)] [] [], Ch.ro 0 (Sl ah_0_0 h_0.1 ch_0_0) h_0.1, Ch.ro 0 (Sl ah_0_1 h_0.2 ch_0_1) h_0.2, Ch.ro 0 (Sl ae_1_1_1 e_1.2.2.1 ce_1_1_1) e_1.2.2.1]) from (H.sel' [5, 0, 1, 2, 3, 4, 5] rfl rfl))) (wanted_yes rfl (by exact (congrArg some hb13))) ?_
   rintro _ σ18 ⟨_, ⟨rfl, rfl⟩, H, -⟩
   replace H : Hp S0 σ0 σ18 [Ch.bx n0 b5 0 [(.slice none 0 0), (.slice none 0 0)] [] [], Ch.bx n0 b3 0 [(I e_1.1), (I e_1.2.1), (Sl ae_1_1_1 e_1.2.2.1 ce_1_1_1), (I e_1.2.2.2)] [] [], Ch.bx n0 b1 0 [(Sl ah_0_0 h_0.1 ch_0_0), (Sl ah_0_1 h_0.2 ch_0_1)] [] [], Ch.ro 0 (Sl ah_0_0 h_0.1 ch_0_0) h_0.1, Ch.ro 0 (Sl ah_0_1 h_0.2 ch_0_1) h_0.2, Ch.ro 0 (Sl ae_1_1_1 e_1.2.2.1 ce_1_1_1) e_1.2.2.1] := H
   refine st_g (v := (B (!r15))) (congrArg some hb13) (rv_not rfl) ?_
   refine st (v := (B (!r15))) (rv_pick_f (congrArg B hb13) rfl) ?_
   refine w_end ?_
   obtain rfl := Option.some.inj h
   exact ⟨rfl, _, σ18, fr_join ⟨rfl, rfl, rfl, rfl, rfl, trivial⟩, rfl, H.sel' [3, 4, 2, 5, 1, 0] rfl rfl⟩
 ·clear hj
  have h := h'
  clear h' H
  rintro e a w ⟨rfl, ρ, σ19, rfl, rfl, H⟩
  refine q_then ?_
  refine cd_cond o7 rfl (fun hb20 => ?_) (fun hb20 => ?_)
  ·replace h := bif_t hb20 h
   refine c_seq ?_
   refine rg ?_
   refine st (v := (.agg #[(.slice none 0 0), (.slice none 0 0)])) (rv_build (ps := []) Try.underlying26 ti26 (bp26 Try.underlying26) rfl (by kernel_rfl)) ?_
   refine st_exS (ex_store_box (k := 0) (cs := [(.slice none 0 0), (.slice none 0 0)]) (vs := [(.slice none 0 0), (.slice none 0 0)]) (cs' := [(.slice none 0 0), (.slice none 0 0)]) H (i := 5) rfl ti26 rfl rfl rfl rfl rfl (Nat.le_of_ble_eq_true rfl) (by simp [plain]) rfl) wn ?_
   rintro σ21 ⟨H, -⟩
   refine st (v := (B false)) (rv_assign rfl) ?_
   refine w_end ?_
   refine q_then ?_
   refine c_ret ?_
   refine q_then_r ?_
   replace H := H.nilOwn (Int × (Int × (List Int) × Int)) n0 n0
   replace H := H.nilOwn Int n0 n0
   obtain rfl := Option.some.inj h
   exact fin_ret (v := (.tuple #[(.agg #[(.slice none 0 0), (.slice none 0 0)]), (B false)])) (results_ok Try.results28 (res_cell rfl (run_cellRes (cs := [(.slice none 0 0), (.slice none 0 0)]) Try.underlying26 rfl ti26 rfl (H.cells 2 rfl)) (res_tmp (v := (B false)) rfl res_nil)) rfl) ⟨none, 0, none, 0, rfl, rfl⟩ (H.sel' [1, 0] rfl rfl)
  ·replace h := bif_f hb20 h
   refine c_skip ?_
   refine q_then ?_
   refine c_seq ?_
   refine rg ?_
   have hc22 := H.cells 2 rfl
   refine st (v := (.agg #[(Sl ah_0_0 h_0.1 ch_0_0), (Sl ah_0_1 h_0.2 ch_0_1)])) (rv_load (cs := [(Sl ah_0_0 h_0.1 ch_0_0), (Sl ah_0_1 h_0.2 ch_0_1)]) Try.underlying26 rfl ti26 rfl rfl hc22) ?_
   refine st (v := (pt b1 0)) (rv_fieldAddr (off := 0) (ft := 23) Try.underlying26 rfl ti23 rfl rfl) ?_
   have hc23 := H.cell (u := (Sl ah_0_0 h_0.1 ch_0_0)) (o' := 0) 2 0 rfl rfl rfl
   refine st (v := (Sl ah_0_0 h_0.1 ch_0_0)) (rv_load1 Try.underlying23 rfl rfl hc23) ?_
   refine st (v := (I (h_0.1.length : Int))) (rv_len Try.underlying23 rfl) ?_
   obtain ⟨r24, hx25, h'⟩ := bind_some h
   clear h
   have h := h'; clear h'
   have hc26 := c_spec_copyHistory (ah_0_0 := ah_0_0) (ch_0_0 := ch_0_0) (ah_0_1 := ah_0_1) (ch_0_1 := ch_0_1) hx25
   refine st_call (cx_call hc26 (ent_f hc26.fn rfl) hn0 (show Hp S0 σ0 _ ([Ch.ro 0 (Sl ah_0_0 h_0.1 ch_0_0) h_0.1, Ch.ro 0 (Sl ah_0_1 h_0.2 ch_0_1) h_0.2] ++ [Ch.ro 0 (Sl ah_0_0 h_0.1 ch_0_0) h_0.1, Ch.ro 0 (Sl ah_0_1 h_0.2 ch_0_1) h_0.2, Ch.bx n0 b1 0 [(Sl ah_0_0 h_0.1 ch_0_0), (Sl ah_0_1 h_0.2 ch_0_1)] [] [], Ch.ro 0 (Sl ae_1_1_1 e_1.2.2.1 ce_1_1_1) e_1.2.2.1, Ch.bx n0 b3 0 [(I e_1.1), (I e_1.2.1), (Sl ae_1_1_1 e_1.2.2.1 ce_1_1_1), (I e_1.2.2.2)] [] [], Ch.bx n0 b5 0 [(.slice none 0 0), (.slice none 0 0)] [] []]) from (H.sel' [0, 1, 0, 1, 2, 3, 4, 5] rfl rfl))) wn ?_
   rintro _ σ31 ⟨_, ⟨a27, c28, a29, c30, rfl, rfl⟩, H, -⟩
   replace H : Hp S0 σ0 σ31 [Ch.own n0 n0 (Sl a27 r24.1 c28) r24.1, Ch.own n0 n0 (Sl a29 r24.2 c30) r24.2, Ch.ro 0 (Sl ah_0_0 h_0.1 ch_0_0) h_0.1, Ch.ro 0 (Sl ah_0_1 h_0.2 ch_0_1) h_0.2, Ch.bx n0 b1 0 [(Sl ah_0_0 h_0.1 ch_0_0), (Sl ah_0_1 h_0.2 ch_0_1)] [] [], Ch.ro 0 (Sl ae_1_1_1 e_1.2.2.1 ce_1_1_1) e_1.2.2.1, Ch.bx n0 b3 0 [(I e_1.1), (I e_1.2.1), (Sl ae_1_1_1 e_1.2.2.1 ce_1_1_1), (I e_1.2.2.2)] [] [], Ch.bx n0 b5 0 [(.slice none 0 0), (.slice none 0 0)] [] []] := H
   replace H : Hp S0 σ0 σ31 [Ch.own n0 n0 (Sl a27 r24.1 c28) r24.1, Ch.own n0 n0 (Sl a29 r24.2 c30) r24.2, Ch.ro 0 (Sl ae_1_1_1 e_1.2.2.1 ce_1_1_1) e_1.2.2.1, Ch.bx n0 b3 0 [(I e_1.1), (I e_1.2.1), (Sl ae_1_1_1 e_1.2.2.1 ce_1_1_1), (I e_1.2.2.2)] [] [], Ch.bx n0 b5 0 [(.slice none 0 0), (.slice none 0 0)] [] []] := H.sel' [0, 1, 5, 6, 7] rfl rfl
   refine st_ex (ex_alloc (cs := [(.slice none 0 0), (.slice none 0 0)]) H hn0 ti26 rfl) wn ?_
   rintro _ σ33 ⟨b32, rfl, H, -⟩
   refine st_exS (ex_store_box (k := 0) (cs := [(.slice none 0 0), (.slice none 0 0)]) (vs := [(Sl a27 r24.1 c28), (Sl a29 r24.2 c30)]) (cs' := [(Sl a27 r24.1 c28), (Sl a29 r24.2 c30)]) H (i := 0) rfl ti26 rfl rfl rfl rfl rfl (Nat.le_of_ble_eq_true rfl) (by simp [plain]) rfl) wn ?_
   rintro σ34 ⟨H, -⟩
   refine w_end ?_
   refine q_then ?_
   refine c_seq ?_
   have hc35 := H.cell (u := (Sl a27 r24.1 c28)) (o' := 0) 0 0 rfl rfl rfl
   have hc36 := H.cells 4 rfl
   obtain ⟨r37, hx38, h'⟩ := bind_some h
   clear h
   have h := h'; clear h'
   have hc39 := c_spec_copyEntry (ae_0_1_1 := ae_1_1_1) (ce_0_1_1 := ce_1_1_1) hx38
   have Hs := H
   refine rg2 (σ := σ34) (Nm := (Option Addr) × (Nat) × (Nat)) 5 [3, 4] [[false, false], [true, false], [true, true]] [[(0, 0), (1, 1), (2, 2)], [(0, 0), (1, 1), (2, 2)], [(0, 0)], [(0, 1)], [(1, 2)]] 2 [fun ((a40, c41, b42) : (Option Addr) × (Nat) × (Nat)) => fun σm => Hp S0 σ0 σm [Ch.bx n0 b32 0 [(Sl a27 r24.1 c28), (Sl a29 r24.2 c30)] [] [], Ch.own n0 n0 (Sl a27 r24.1 c28) r24.1, Ch.own n0 n0 (Sl a29 r24.2 c30) r24.2, Ch.ro 0 (Sl ae_1_1_1 e_1.2.2.1 ce_1_1_1) e_1.2.2.1, Ch.bx n0 b3 0 [(I e_1.1), (I e_1.2.1), (Sl ae_1_1_1 e_1.2.2.1 ce_1_1_1), (I e_1.2.2.2)] [] [], Ch.bx n0 b5 0 [(.slice none 0 0), (.slice none 0 0)] [] []] ∧ Md (cov []) σ34 σm, fun ((a40, c41, b42) : (Option Addr) × (Nat) × (Nat)) => fun σm => Hp S0 σ0 σm [Ch.ro n0 (Sl a40 r37.2.2.1 c41) r37.2.2.1, Ch.bx n0 b32 0 [(Sl a27 r24.1 c28), (Sl a29 r24.2 c30)] [] [], Ch.own n0 n0 (Sl a27 r24.1 c28) r24.1, Ch.own n0 n0 (Sl a29 r24.2 c30) r24.2, Ch.ro 0 (Sl ae_1_1_1 e_1.2.2.1 ce_1_1_1) e_1.2.2.1, Ch.bx n0 b3 0 [(I e_1.1), (I e_1.2.1), (Sl ae_1_1_1 e_1.2.2.1 ce_1_1_1), (I e_1.2.2.2)] [] [], Ch.bx n0 b5 0 [(.slice none 0 0), (.slice none 0 0)] [] []] ∧ Md (fun i => (cov []) i ∨ (fun i => (cov [Ch.ro 0 (Sl ae_1_1_1 e_1.2.2.1 ce_1_1_1) e_1.2.2.1]) i ∨ (fun b => blk (Sl a40 r37.2.2.1 c41) = some b) i) i) σ34 σm, fun ((a40, c41, b42) : (Option Addr) × (Nat) × (Nat)) => fun σm => Hp S0 σ0 σm [Ch.own n0 n0 (Sl (some ⟨b42, 0, none⟩) ([(r37.1, (r37.2.1, r37.2.2.1, r37.2.2.2))] : List (Int × (Int × (List Int) × Int))) 1) ([(r37.1, (r37.2.1, r37.2.2.1, r37.2.2.2))] : List (Int × (Int × (List Int) × Int))), Ch.ro n0 (Sl a40 r37.2.2.1 c41) r37.2.2.1, Ch.bx n0 b32 0 [(Sl a27 r24.1 c28), (Sl a29 r24.2 c30)] [] [], Ch.own n0 n0 (Sl a27 r24.1 c28) r24.1, Ch.own n0 n0 (Sl a29 r24.2 c30) r24.2, Ch.ro 0 (Sl ae_1_1_1 e_1.2.2.1 ce_1_1_1) e_1.2.2.1, Ch.bx n0 b3 0 [(I e_1.1), (I e_1.2.1), (Sl ae_1_1_1 e_1.2.2.1 ce_1_1_1), (I e_1.2.2.2)] [] [], Ch.bx n0 b5 0 [(.slice none 0 0), (.slice none 0 0)] [] []] ∧ Md (fun i => (cov []) i ∨ (fun i => (cov [Ch.ro 0 (Sl ae_1_1_1 e_1.2.2.1 ce_1_1_1) e_1.2.2.1]) i ∨ (fun b => blk (Sl a40 r37.2.2.1 c41) = some b) i) i) σ34 σm] [fun ((a40, c41, b42) : (Option Addr) × (Nat) × (Nat)) => (pt b32 0), fun ((a40, c41, b42) : (Option Addr) × (Nat) × (Nat)) => (Sl a27 r24.1 c28), fun ((a40, c41, b42) : (Option Addr) × (Nat) × (Nat)) => (.agg #[(I e_1.1), (I e_1.2.1), (Sl ae_1_1_1 e_1.2.2.1 ce_1_1_1), (I e_1.2.2.2)]), fun ((a40, c41, b42) : (Option Addr) × (Nat) × (Nat)) => (.agg #[(I r37.1), (I r37.2.1), (Sl a40 r37.2.2.1 c41), (I r37.2.2.2)]), fun ((a40, c41, b42) : (Option Addr) × (Nat) × (Nat)) => (Sl (some ⟨b42, 0, none⟩) ([(r37.1, (r37.2.1, r37.2.2.1, r37.2.2.2))] : List (Int × (Int × (List Int) × Int))) 1)] (none, 0, 0) (by kernel_rfl) (by kernel_rfl) ?_ ?_ ?_
   ·intro σm m0
    exact ⟨H.grow (m0.mono fun _ h => h.elim), m0⟩
   ·refine ac rfl (by
      intro k; rintro ⟨a40, c41, b42⟩ ρ σm hJ hoff hdep
      have e8 := look_off (N := 41) (hoff 8 rfl) rfl
      exact dp_v (v := (pt b32 0)) wn (rv_fieldAddr (off := 0) (ft := 23) Try.underlying26 rfl ti23 rfl e8) rfl hJ) ?_
    refine all_cons (by
      refine ⟨?_, ?_⟩
      ·rintro ⟨a40, c41, b42⟩ ρ σm hJ hoff hdep
       have e23 := hdep 0 rfl rfl 23 rfl
       obtain ⟨H, m⟩ := id hJ
       have hc35 := H.cell (u := (Sl a27 r24.1 c28)) (o' := 0) 0 0 rfl rfl rfl
       exact dp_v (v := (Sl a27 r24.1 c28)) wn (rv_load1 Try.underlying23 rfl e23 hc35) rfl hJ
      refine ⟨?_, ?_⟩
      ·rintro ⟨a40, c41, b42⟩ ρ σm hJ hoff hdep
       have e23 := hdep 0 rfl rfl 23 rfl
       obtain ⟨H, m⟩ := id hJ
       have hc35 := H.cell (u := (Sl a27 r24.1 c28)) (o' := 0) 1 0 rfl rfl rfl
       exact dp_v (v := (Sl a27 r24.1 c28)) wn (rv_load1 Try.underlying23 rfl e23 hc35) rfl hJ
      refine ⟨?_, ?_⟩
      ·rintro ⟨a40, c41, b42⟩ ρ σm hJ hoff hdep
       have e23 := hdep 0 rfl rfl 23 rfl
       obtain ⟨H, m⟩ := id hJ
       have hc35 := H.cell (u := (Sl a27 r24.1 c28)) (o' := 0) 2 0 rfl rfl rfl
       exact dp_v (v := (Sl a27 r24.1 c28)) wn (rv_load1 Try.underlying23 rfl e23 hc35) rfl hJ
      trivial) ?_
    refine all_cons (by
      refine ⟨?_, ?_⟩
      ·rintro ⟨a40, c41, b42⟩ ρ σm hJ hoff hdep
       have e4 := look_off (N := 41) (hoff 4 rfl) rfl
       obtain ⟨H, m⟩ := id hJ
       have hc36 := H.cells 4 rfl
       exact dp_v (v := (.agg #[(I e_1.1), (I e_1.2.1), (Sl ae_1_1_1 e_1.2.2.1 ce_1_1_1), (I e_1.2.2.2)])) wn (rv_load (cs := [(I e_1.1), (I e_1.2.1), (Sl ae_1_1_1 e_1.2.2.1 ce_1_1_1), (I e_1.2.2.2)]) Try.underlying43 rfl ti43 e4 rfl hc36) rfl hJ
      trivial) ?_
    refine all_cons (by
      refine ⟨?_, ?_⟩
      ·rintro ⟨a40, c41, b42⟩ ρ σm hJ hoff hdep
       have e25 : look 41 ρ 25 = (.agg #[(I e_1.1), (I e_1.2.1), (Sl ae_1_1_1 e_1.2.2.1 ce_1_1_1), (I e_1.2.2.2)]) := hdep 2 rfl rfl 25 rfl
       obtain ⟨H, m⟩ := id hJ
       refine dp_cx wn (cx_call hc39 (ent_f hc39.fn (by show [look 41 ρ 25] = _; rw [e25])) hn0 (show Hp S0 σ0 _ ([Ch.ro 0 (Sl ae_1_1_1 e_1.2.2.1 ce_1_1_1) e_1.2.2.1] ++ [Ch.bx n0 b32 0 [(Sl a27 r24.1 c28), (Sl a29 r24.2 c30)] [] [], Ch.own n0 n0 (Sl a27 r24.1 c28) r24.1, Ch.own n0 n0 (Sl a29 r24.2 c30) r24.2, Ch.ro 0 (Sl ae_1_1_1 e_1.2.2.1 ce_1_1_1) e_1.2.2.1, Ch.bx n0 b3 0 [(I e_1.1), (I e_1.2.1), (Sl ae_1_1_1 e_1.2.2.1 ce_1_1_1), (I e_1.2.2.2)] [] [], Ch.bx n0 b5 0 [(.slice none 0 0), (.slice none 0 0)] [] []]) from (H.sel' [3, 0, 1, 2, 3, 4, 5] rfl rfl))) ?_
       rintro _ σq ⟨_, ⟨a40x, c41x, rfl, rfl⟩, H2, m2⟩
       obtain ⟨σr0, hwr0, H2, mr0⟩ := H2.pub 0 rfl (Nat.le_refl _)
       exact ⟨_, (a40x, c41x, b42), hwr0, rfl, ⟨H2.sel' [0, 1, 2, 3, 4, 5, 6] rfl rfl, m.comp (m2.comp mr0)⟩, stab [0, 1, 2] (by kernel_rfl) ⟨rfl, rfl, rfl, trivial⟩⟩
      trivial) ?_
    refine all_cons (by
      refine ⟨?_, ?_⟩
      ·rintro ⟨a40, c41, b42⟩ ρ σm hJ hoff hdep
       have e26 : look 41 ρ 26 = (.agg #[(I r37.1), (I r37.2.1), (Sl a40 r37.2.2.1 c41), (I r37.2.2.2)]) := hdep 3 rfl rfl 26 rfl
       obtain ⟨H, m⟩ := id hJ
       refine dp_ex wn (ex_buildSlice (el := n0) (xs := ([(r37.1, (r37.2.1, r37.2.2.1, r37.2.2.2))] : List (Int × (Int × (List Int) × Int)))) (ps := [(0, (.agg #[(I r37.1), (I r37.2.1), (Sl a40 r37.2.2.1 c41), (I r37.2.2.2)]))]) (cs := [(I r37.1), (I r37.2.1), (Sl a40 r37.2.2.1 c41), (I r37.2.2.2)]) H hn0 Try.underlying23 ti43 rfl (by show [(0, look 41 ρ 26)] = _; rw [e26]) (by kernel_rfl) (.cons (c := [(I r37.1), (I r37.2.1), (Sl a40 r37.2.2.1 c41), (I r37.2.2.2)]) ⟨[(I r37.1)], [(I r37.2.1), (Sl a40 r37.2.2.1 c41), (I r37.2.2.2)], rfl, rfl, ⟨[(I r37.2.1)], [(Sl a40 r37.2.2.1 c41), (I r37.2.2.2)], rfl, rfl, ⟨[(Sl a40 r37.2.2.1 c41)], [(I r37.2.2.2)], rfl, ⟨_, rfl, (H.ro 0 rfl)⟩, rfl⟩⟩⟩ (.nil)) rfl) ?_
       rintro _ σq ⟨b42x, rfl, H2, m2⟩
       exact ⟨_, (a40, c41, b42x), rfl, rfl, ⟨H2.sel' [0, 1, 2, 3, 4, 5, 6, 7] rfl rfl, m.comp0 m2⟩, stab [0, 1, 2, 3] (by kernel_rfl) ⟨rfl, rfl, rfl, rfl, trivial⟩⟩
      trivial) ?_
    exact all_nil
   ·rintro ⟨a40, c41, b42⟩ ρ σ43 hJ hoff hrel
    have e2 := look_off (N := 41) (hoff 2 rfl) rfl
    have e6 := look_off (N := 41) (hoff 6 rfl) rfl
    have e8 := look_off (N := 41) (hoff 8 rfl) rfl
    have e24 := hrel 1 rfl 24 rfl
    have e27 := hrel 4 rfl 27 rfl
    obtain ⟨H, -⟩ := (show Hp S0 σ0 σ43 [Ch.own n0 n0 (Sl (some ⟨b42, 0, none⟩) ([(r37.1, (r37.2.1, r37.2.2.1, r37.2.2.2))] : List (Int × (Int × (List Int) × Int))) 1) ([(r37.1, (r37.2.1, r37.2.2.1, r37.2.2.2))] : List (Int × (Int × (List Int) × Int))), Ch.ro n0 (Sl a40 r37.2.2.1 c41) r37.2.2.1, Ch.bx n0 b32 0 [(Sl a27 r24.1 c28), (Sl a29 r24.2 c30)] [] [], Ch.own n0 n0 (Sl a27 r24.1 c28) r24.1, Ch.own n0 n0 (Sl a29 r24.2 c30) r24.2, Ch.ro 0 (Sl ae_1_1_1 e_1.2.2.1 ce_1_1_1) e_1.2.2.1, Ch.bx n0 b3 0 [(I e_1.1), (I e_1.2.1), (Sl ae_1_1_1 e_1.2.2.1 ce_1_1_1), (I e_1.2.2.2)] [] [], Ch.bx n0 b5 0 [(.slice none 0 0), (.slice none 0 0)] [] []] ∧ Md (fun i => (cov []) i ∨ (fun i => (cov [Ch.ro 0 (Sl ae_1_1_1 e_1.2.2.1 ce_1_1_1) e_1.2.2.1]) i ∨ (fun b => blk (Sl a40 r37.2.2.1 c41) = some b) i) i) σ34 σ43 from hJ)
    clear hJ Hs
    rw [fr_lookL (L := [(2, (I t_2)), (6, (pt b5 0)), (8, (pt b32 0)), (24, (Sl a27 r24.1 c28)), (27, (Sl (some ⟨b42, 0, none⟩) ([(r37.1, (r37.2.1, r37.2.2.1, r37.2.2.2))] : List (Int × (Int × (List Int) × Int))) 1))]) ⟨e2, e6, e8, e24, e27, trivial⟩]
    clear hoff hrel e2 e6 e8 e24 e27
    obtain ⟨xs44, hx45, h'⟩ := bind_some h
    clear h
    have h := h'; clear h'
    refine st_ex (ex_append H (i := 3) rfl Try.underlying23 Try.underlying23 ti43 rfl rfl (by decide) (H.own 0 rfl).rd hx45 hn0 rfl rfl) wn ?_
    rintro _ σ48 ⟨a46, c47, rfl, H, -⟩
    replace H : Hp S0 σ0 σ48 [Ch.own n0 n0 (Sl a46 xs44 c47) xs44, Ch.bx n0 b32 0 [(Sl a27 r24.1 c28), (Sl a29 r24.2 c30)] [] [], Ch.own n0 n0 (Sl a29 r24.2 c30) r24.2, Ch.bx n0 b5 0 [(.slice none 0 0), (.slice none 0 0)] [] []] := H.sel' [0, 3, 4, 7] rfl rfl
    refine st (v := (pt b32 0)) (rv_fieldAddr (off := 0) (ft := 23) Try.underlying26 rfl ti23 rfl rfl) ?_
    refine st_exS (ex_store_box (k := 0) (cs := [(Sl a27 r24.1 c28), (Sl a29 r24.2 c30)]) (vs := [(Sl a46 xs44 c47)]) (cs' := [(Sl a46 xs44 c47), (Sl a29 r24.2 c30)]) H (i := 1) rfl ti23 rfl rfl rfl rfl rfl (Nat.le_of_ble_eq_true rfl) (by simp [plain]) rfl) wn ?_
    rintro σ49 ⟨H, -⟩
    refine w_end ?_
    refine q_then ?_
    refine c_seq ?_
    refine rg ?_
    refine st (v := (pt b32 1)) (rv_fieldAddr (off := 1) (ft := 24) Try.underlying26 rfl ti24 rfl rfl) ?_
    have hc50 := H.cell (u := (Sl a29 r24.2 c30)) (o' := 1) 0 1 rfl rfl rfl
    refine st (v := (Sl a29 r24.2 c30)) (rv_load1 Try.underlying24 rfl rfl hc50) ?_
    refine st (v := (I t_2)) (rv_move rfl) ?_
    refine st_ex (ex_buildSlice (el := n0) (xs := ([t_2] : List Int)) (ps := [(0, (I t_2))]) (cs := [(I t_2)]) H hn0 Try.underlying24 ti3 rfl rfl (by kernel_rfl) (.cons (c := [(I t_2)]) rfl (.nil)) rfl) wn ?_
    rintro _ σ52 ⟨b51, rfl, H, -⟩
    obtain ⟨xs53, hx54, h'⟩ := bind_some h
    clear h
    have h := h'; clear h'
    refine st_ex (ex_append H (i := 3) rfl Try.underlying24 Try.underlying24 ti3 rfl rfl (by decide) (H.own 0 rfl).rd hx54 hn0 rfl rfl) wn ?_
    rintro _ σ57 ⟨a55, c56, rfl, H, -⟩
    refine st (v := (pt b32 1)) (rv_fieldAddr (off := 1) (ft := 24) Try.underlying26 rfl ti24 rfl rfl) ?_
    refine st_exS (ex_store_box (k := 1) (cs := [(Sl a46 xs44 c47), (Sl a29 r24.2 c30)]) (vs := [(Sl a55 xs53 c56)]) (cs' := [(Sl a46 xs44 c47), (Sl a55 xs53 c56)]) H (i := 2) rfl ti24 rfl rfl rfl rfl rfl (Nat.le_of_ble_eq_true rfl) (by simp [plain]) rfl) wn ?_
    rintro σ58 ⟨H, -⟩
    refine w_end ?_
    refine q_then ?_
    refine c_seq ?_
    refine c_seq ?_
    refine rg ?_
    have hc59 := H.cells 0 rfl
    refine st (v := (.agg #[(Sl a46 xs44 c47), (Sl a55 xs53 c56)])) (rv_load (cs := [(Sl a46 xs44 c47), (Sl a55 xs53 c56)]) Try.underlying26 rfl ti26 rfl rfl hc59) ?_
    obtain ⟨r60, hx61, h'⟩ := bind_some h
    clear h
    have h := h'; clear h'
    have hc62 := c_spec_validHistory (ah_0_0 := a46) (ch_0_0 := c47) (ah_0_1 := a55) (ch_0_1 := c56) hx61
    have hle := Nat.le_trans hn0 H.size
    refine st_call (cx_lend (Loan.lend (Loan.lend Loan.nil)) hc62 (ent_f hc62.fn rfl) (show Hp S0 σ0 _ ([Ch.own n0 n0 (Sl a46 xs44 c47) xs44, Ch.own n0 n0 (Sl a55 xs53 c56) xs53] ++ ([] ++ [Ch.bx n0 b32 0 [(Sl a46 xs44 c47), (Sl a55 xs53 c56)] [] [], Ch.own n0 n0 (Sl (some ⟨b51, 0, none⟩) ([t_2] : List Int) 1) ([t_2] : List Int), Ch.bx n0 b5 0 [(.slice none 0 0), (.slice none 0 0)] [] []])) from (H.sel' [3, 1, 0, 2, 4] rfl rfl)) (by rintro _ _ _ ⟨rfl, rfl⟩; exact trivial)) wn ?_
    rintro _ σ63 ⟨_, ⟨rfl, rfl⟩, H, -, -⟩
    replace H : Hp S0 σ0 σ63 [Ch.own n0 n0 (Sl a46 xs44 c47) xs44, Ch.own n0 n0 (Sl a55 xs53 c56) xs53, Ch.bx n0 b32 0 [(Sl a46 xs44 c47), (Sl a55 xs53 c56)] [] [], Ch.own n0 n0 (Sl (some ⟨b51, 0, none⟩) ([t_2] : List Int) 1) ([t_2] : List Int), Ch.bx n0 b5 0 [(.slice none 0 0), (.slice none 0 0)] [] []] := H
    clear hle
    replace H : Hp S0 σ0 σ63 [Ch.own n0 n0 (Sl a46 xs44 c47) xs44, Ch.own n0 n0 (Sl a55 xs53 c56) xs53, Ch.bx n0 b32 0 [(Sl a46 xs44 c47), (Sl a55 xs53 c56)] [] [], Ch.own n0 n0 (Sl (some ⟨b51, 0, none⟩) ([t_2] : List Int) 1) ([t_2] : List Int), Ch.bx n0 b5 0 [(.slice none 0 0), (.slice none 0 0)] [] []] := H
    refine st (v := (B (!r60))) (rv_not rfl) ?_
    refine w_end ?_
    refine q_then ?_
    refine cd_cond (!r60) rfl (fun hb64 => ?_) (fun hb64 => ?_)
    ·replace h := bif_t hb64 h
     refine c_seq ?_
     refine rg ?_
     refine st (v := (.agg #[(.slice none 0 0), (.slice none 0 0)])) (rv_build (ps := []) Try.underlying26 ti26 (bp26 Try.underlying26) rfl (by kernel_rfl)) ?_
     refine st_exS (ex_store_box (k := 0) (cs := [(.slice none 0 0), (.slice none 0 0)]) (vs := [(.slice none 0 0), (.slice none 0 0)]) (cs' := [(.slice none 0 0), (.slice none 0 0)]) H (i := 4) rfl ti26 rfl rfl rfl rfl rfl (Nat.le_of_ble_eq_true rfl) (by simp [plain]) rfl) wn ?_
     rintro σ65 ⟨H, -⟩
     refine st (v := (B false)) (rv_assign rfl) ?_
     refine w_end ?_
     refine q_then ?_
     refine c_ret ?_
     refine q_then_r ?_
     replace H := H.nilOwn (Int × (Int × (List Int) × Int)) n0 n0
     replace H := H.nilOwn Int n0 n0
     obtain rfl := Option.some.inj h
     exact fin_ret (v := (.tuple #[(.agg #[(.slice none 0 0), (.slice none 0 0)]), (B false)])) (results_ok Try.results28 (res_cell rfl (run_cellRes (cs := [(.slice none 0 0), (.slice none 0 0)]) Try.underlying26 rfl ti26 rfl (H.cells 2 rfl)) (res_tmp (v := (B false)) rfl res_nil)) rfl) ⟨none, 0, none, 0, rfl, rfl⟩ (H.sel' [1, 0] rfl rfl)
    ·replace h := bif_f hb64 h
     refine c_skip ?_
     refine q_then ?_
     refine c_seq ?_
     refine rg ?_
     have hc66 := H.cells 2 rfl
     refine st (v := (.agg #[(Sl a46 xs44 c47), (Sl a55 xs53 c56)])) (rv_load (cs := [(Sl a46 xs44 c47), (Sl a55 xs53 c56)]) Try.underlying26 rfl ti26 rfl rfl hc66) ?_
     refine st_exS (ex_store_box (k := 0) (cs := [(.slice none 0 0), (.slice none 0 0)]) (vs := [(Sl a46 xs44 c47), (Sl a55 xs53 c56)]) (cs' := [(Sl a46 xs44 c47), (Sl a55 xs53 c56)]) H (i := 4) rfl ti26 rfl rfl rfl rfl rfl (Nat.le_of_ble_eq_true rfl) (by simp [plain]) rfl) wn ?_
     rintro σ67 ⟨H, -⟩
     refine st (v := (B true)) (rv_assign rfl) ?_
     refine w_end ?_
     refine q_then ?_
     refine c_ret ?_
     obtain rfl := Option.some.inj h
     exact fin_ret (v := (.tuple #[(.agg #[(Sl a46 xs44 c47), (Sl a55 xs53 c56)]), (B true)])) (results_ok Try.results28 (res_cell rfl (run_cellRes (cs := [(Sl a46 xs44 c47), (Sl a55 xs53 c56)]) Try.underlying26 rfl ti26 rfl (H.cells 0 rfl)) (res_tmp (v := (B true)) rfl res_nil)) rfl) ⟨a46, c47, a55, c56, rfl, rfl⟩ (H.sel' [1, 2] rfl rfl)

theorem c_spec_someHistory {r_0 : (List UInt8) × Int} {ar_0_0 : Option Addr} {cr_0_0 : Nat} {lor_0 br_0 or_0 : Nat} {prer_0 sufr_0 : List Value} {r : ((List (Int × (Int × (List Int) × Int))) × (List Int)) × ((List UInt8) × Int)} (h : M.spec_someHistory r_0 = some r) :
    Cal2 Try.prog 72 [(pt br_0 or_0)] [Ch.bx lor_0 br_0 or_0 [(Sl ar_0_0 r_0.1 cr_0_0), (I r_0.2)] prer_0 sufr_0, Ch.ro 0 (Sl ar_0_0 r_0.1 cr_0_0) r_0.1] (fun n0 v L => ∃ (az1 : Option Addr), ∃ (cz2 : Nat), ∃ (az3 : Option Addr), ∃ (cz4 : Nat), ∃ (az5 : Option Addr), ∃ (cz6 : Nat), v = (.agg #[(Sl az1 r.1.1 cz2), (Sl az3 r.1.2 cz4)]) ∧ L = [Ch.own n0 n0 (Sl az1 r.1.1 cz2) r.1.1, Ch.own n0 n0 (Sl az3 r.1.2 cz4) r.1.2, Ch.bx lor_0 br_0 or_0 [(Sl az5 r.2.1 cz6), (I r.2.2)] prer_0 sufr_0, Ch.ro 0 (Sl az5 r.2.1 cz6) r.2.1]) := by
 refine cal2 (n := 37) Try.func72 rfl rfl rfl rfl ?_
 intro S0 σ0 n0 hn0 H
 unfold M.spec_someHistory at h
 refine c_seq ?_
 refine rg ?_
 refine st_ex (ex_alloc (cs := [(.slice none 0 0), (.slice none 0 0)]) H hn0 ti26 rfl) wn ?_
 rintro _ σ2 ⟨b1, rfl, H, -⟩
 refine w_end ?_
 refine q_then ?_
 refine c_seq ?_
 refine rg ?_
 refine st_ex (ex_buildSlice (el := n0) (xs := ([] : List (Int × (Int × (List Int) × Int)))) (ps := []) (cs := []) H hn0 Try.underlying23 ti43 rfl rfl (by kernel_rfl) (.nil) rfl) wn ?_
 rintro _ σ4 ⟨b3, rfl, H, -⟩
 refine st_ex (ex_buildSlice (el := n0) (xs := ([] : List Int)) (ps := []) (cs := []) H hn0 Try.underlying24 ti3 rfl rfl (by kernel_rfl) (.nil) rfl) wn ?_
 rintro _ σ6 ⟨b5, rfl, H, -⟩
 refine st (v := (.agg #[(Sl (some ⟨b3, 0, none⟩) ([] : List (Int × (Int × (List Int) × Int))) 0), (Sl (some ⟨b5, 0, none⟩) ([] : List Int) 0)])) (rv_build (ps := [(0, (Sl (some ⟨b3, 0, none⟩) ([] : List (Int × (Int × (List Int) × Int))) 0)), (1, (Sl (some ⟨b5, 0, none⟩) ([] : List Int) 0))]) Try.underlying26 ti26 (bp26 Try.underlying26) rfl (by kernel_rfl)) ?_
 refine st_ex (ex_alloc (cs := [(.slice none 0 0), (.slice none 0 0)]) H hn0 ti26 rfl) wn ?_
 rintro _ σ8 ⟨b7, rfl, H, -⟩
 refine st_exS (ex_store_box (k := 0) (cs := [(.slice none 0 0), (.slice none 0 0)]) (vs := [(Sl (some ⟨b3, 0, none⟩) ([] : List (Int × (Int × (List Int) × Int))) 0), (Sl (some ⟨b5, 0, none⟩) ([] : List Int) 0)]) (cs' := [(Sl (some ⟨b3, 0, none⟩) ([] : List (Int × (Int × (List Int) × Int))) 0), (Sl (some ⟨b5, 0, none⟩) ([] : List Int) 0)]) H (i := 0) rfl ti26 rfl rfl rfl rfl rfl (Nat.le_of_ble_eq_true rfl) (by simp [plain]) rfl) wn ?_
 rintro σ9 ⟨H, -⟩
 refine w_end ?_
 refine q_then ?_
 refine c_seq ?_
 refine rg ?_
 refine st (v := (pt br_0 or_0)) (rv_move rfl) ?_
 obtain ⟨r10, hx11, h'⟩ := bind_some h
 clear h
 have h := h'; clear h'
 have hc12 := c_spec_reader_pick (lor_0 := lor_0) (br_0 := br_0) (or_0 := or_0) (prer_0 := prer_0) (sufr_0 := sufr_0) (ar_0_0 := ar_0_0) (cr_0_0 := cr_0_0) hx11
 refine st_call (cx_call hc12 (ent_f hc12.fn rfl) hn0 (show Hp S0 σ0 _ ([Ch.bx lor_0 br_0 or_0 [(Sl ar_0_0 r_0.1 cr_0_0), (I r_0.2)] prer_0 sufr_0, Ch.ro 0 (Sl ar_0_0 r_0.1 cr_0_0) r_0.1] ++ [Ch.bx n0 b7 0 [(Sl (some ⟨b3, 0, none⟩) ([] : List (Int × (Int × (List Int) × Int))) 0), (Sl (some ⟨b5, 0, none⟩) ([] : List Int) 0)] [] [], Ch.own n0 n0 (Sl (some ⟨b5, 0, none⟩) ([] : List Int) 0) ([] : List Int), Ch.own n0 n0 (Sl (some ⟨b3, 0, none⟩) ([] : List (Int × (Int × (List Int) × Int))) 0) ([] : List (Int × (Int × (List Int) × Int))), Ch.bx n0 b1 0 [(.slice none 0 0), (.slice none 0 0)] [] [], Ch.ro 0 (Sl ar_0_0 r_0.1 cr_0_0) r_0.1]) from (H.sel' [4, 5, 0, 1, 2, 3, 5] rfl rfl))) wn ?_
 rintro _ σ15 ⟨_, ⟨a13, c14, rfl, rfl⟩, H, -⟩
 replace H : Hp S0 σ0 σ15 [Ch.bx lor_0 br_0 or_0 [(Sl a13 r10.2.1 c14), (I r10.2.2)] prer_0 sufr_0, Ch.ro 0 (Sl a13 r10.2.1 c14) r10.2.1, Ch.bx n0 b7 0 [(Sl (some ⟨b3, 0, none⟩) ([] : List (Int × (Int × (List Int) × Int))) 0), (Sl (some ⟨b5, 0, none⟩) ([] : List Int) 0)] [] [], Ch.own n0 n0 (Sl (some ⟨b5, 0, none⟩) ([] : List Int) 0) ([] : List Int), Ch.own n0 n0 (Sl (some ⟨b3, 0, none⟩) ([] : List (Int × (Int × (List Int) × Int))) 0) ([] : List (Int × (Int × (List Int) × Int))), Ch.bx n0 b1 0 [(.slice none 0 0), (.slice none 0 0)] [] [], Ch.ro 0 (Sl ar_0_0 r_0.1 cr_0_0) r_0.1] := H
 refine st (v := (I (w64 (1 + r10.1)))) (rv_add (a := 1) (b := r10.1) rfl rfl) ?_
 refine st (v := (I (w64 (1 + r10.1)))) (rv_assign rfl) ?_
 refine w_end ?_
 refine q_then ?_
 refine c_seq ?_
 refine c_seq ?_
 refine rg ?_
 refine st (v := (pt br_0 or_0)) (rv_move rfl) ?_
 refine st_ex (ex_buildSlice (el := n0) (xs := ([5, 8, 12, 3, 0, 20] : List Int)) (ps := [(0, (I 5)), (1, (I 8)), (2, (I 12)), (3, (I 3)), (4, (I 0)), (5, (I 20))]) (cs := [(I 5), (I 8), (I 12), (I 3), (I 0), (I 20)]) H hn0 Try.underlying24 ti3 rfl rfl (by kernel_rfl) (.cons (c := [(I 5)]) rfl (.cons (c := [(I 8)]) rfl (.cons (c := [(I 12)]) rfl (.cons (c := [(I 3)]) rfl (.cons (c := [(I 0)]) rfl (.cons (c := [(I 20)]) rfl (.nil))))))) rfl) wn ?_
 rintro _ σ17 ⟨b16, rfl, H, -⟩
 replace H : Hp S0 σ0 σ17 [Ch.own n0 n0 (Sl (some ⟨b16, 0, none⟩) ([5, 8, 12, 3, 0, 20] : List Int) 6) ([5, 8, 12, 3, 0, 20] : List Int), Ch.bx lor_0 br_0 or_0 [(Sl a13 r10.2.1 c14), (I r10.2.2)] prer_0 sufr_0, Ch.ro 0 (Sl a13 r10.2.1 c14) r10.2.1, Ch.bx n0 b7 0 [(Sl (some ⟨b3, 0, none⟩) ([] : List (Int × (Int × (List Int) × Int))) 0), (Sl (some ⟨b5, 0, none⟩) ([] : List Int) 0)] [] [], Ch.own n0 n0 (Sl (some ⟨b5, 0, none⟩) ([] : List Int) 0) ([] : List Int), Ch.own n0 n0 (Sl (some ⟨b3, 0, none⟩) ([] : List (Int × (Int × (List Int) × Int))) 0) ([] : List (Int × (Int × (List Int) × Int))), Ch.bx n0 b1 0 [(.slice none 0 0), (.slice none 0 0)] [] []] := H.sel' [0, 1, 2, 3, 4, 5, 6] rfl rfl
 obtain ⟨σ18, hw19, H, -⟩ := H.pub 0 rfl (Nat.le_refl _)
 rw [← hw19]; clear hw19
 replace H := H.roLow 0 0 rfl (Nat.zero_le _)
 obtain ⟨r20, hx21, h'⟩ := bind_some h
 clear h
 have h := h'; clear h'
 have hc22 := c_spec_reader_one (lor_0 := lor_0) (br_0 := br_0) (or_0 := or_0) (prer_0 := prer_0) (sufr_0 := sufr_0) (ar_0_0 := a13) (cr_0_0 := c14) (alist_1 := (some ⟨b16, 0, none⟩)) (clist_1 := 6) hx21
 refine st_call (cx_call hc22 (ent_f hc22.fn rfl) hn0 (show Hp S0 σ0 _ ([Ch.bx lor_0 br_0 or_0 [(Sl a13 r10.2.1 c14), (I r10.2.2)] prer_0 sufr_0, Ch.ro 0 (Sl a13 r10.2.1 c14) r10.2.1, Ch.ro 0 (Sl (some ⟨b16, 0, none⟩) ([5, 8, 12, 3, 0, 20] : List Int) 6) ([5, 8, 12, 3, 0, 20] : List Int)] ++ [Ch.ro 0 (Sl (some ⟨b16, 0, none⟩) ([5, 8, 12, 3, 0, 20] : List Int) 6) ([5, 8, 12, 3, 0, 20] : List Int), Ch.ro n0 (Sl (some ⟨b16, 0, none⟩) ([5, 8, 12, 3, 0, 20] : List Int) 6) ([5, 8, 12, 3, 0, 20] : List Int), Ch.ro 0 (Sl a13 r10.2.1 c14) r10.2.1, Ch.bx n0 b7 0 [(Sl (some ⟨b3, 0, none⟩) ([] : List (Int × (Int × (List Int) × Int))) 0), (Sl (some ⟨b5, 0, none⟩) ([] : List Int) 0)] [] [], Ch.own n0 n0 (Sl (some ⟨b5, 0, none⟩) ([] : List Int) 0) ([] : List Int), Ch.own n0 n0 (Sl (some ⟨b3, 0, none⟩) ([] : List (Int × (Int × (List Int) × Int))) 0) ([] : List (Int × (Int × (List Int) × Int))), Ch.bx n0 b1 0 [(.slice none 0 0), (.slice none 0 0)] [] []]) from (H.sel' [2, 3, 0, 0, 1, 3, 4, 5, 6, 7] rfl rfl))) wn ?_
 rintro _ σ25 ⟨_, ⟨a23, c24, rfl, rfl⟩, H, -⟩
 replace H : Hp S0 σ0 σ25 [Ch.bx lor_0 br_0 or_0 [(Sl a23 r20.2.1 c24), (I r20.2.2)] prer_0 sufr_0, Ch.ro 0 (Sl a23 r20.2.1 c24) r20.2.1, Ch.ro 0 (Sl (some ⟨b16, 0, none⟩) ([5, 8, 12, 3, 0, 20] : List Int) 6) ([5, 8, 12, 3, 0, 20] : List Int), Ch.ro n0 (Sl (some ⟨b16, 0, none⟩) ([5, 8, 12, 3, 0, 20] : List Int) 6) ([5, 8, 12, 3, 0, 20] : List Int), Ch.ro 0 (Sl a13 r10.2.1 c14) r10.2.1, Ch.bx n0 b7 0 [(Sl (some ⟨b3, 0, none⟩) ([] : List (Int × (Int × (List Int) × Int))) 0), (Sl (some ⟨b5, 0, none⟩) ([] : List Int) 0)] [] [], Ch.own n0 n0 (Sl (some ⟨b5, 0, none⟩) ([] : List Int) 0) ([] : List Int), Ch.own n0 n0 (Sl (some ⟨b3, 0, none⟩) ([] : List (Int × (Int × (List Int) × Int))) 0) ([] : List (Int × (Int × (List Int) × Int))), Ch.bx n0 b1 0 [(.slice none 0 0), (.slice none 0 0)] [] []] := H
 replace H : Hp S0 σ0 σ25 [Ch.bx lor_0 br_0 or_0 [(Sl a23 r20.2.1 c24), (I r20.2.2)] prer_0 sufr_0, Ch.ro 0 (Sl a23 r20.2.1 c24) r20.2.1, Ch.bx n0 b7 0 [(Sl (some ⟨b3, 0, none⟩) ([] : List (Int × (Int × (List Int) × Int))) 0), (Sl (some ⟨b5, 0, none⟩) ([] : List Int) 0)] [] [], Ch.own n0 n0 (Sl (some ⟨b5, 0, none⟩) ([] : List Int) 0) ([] : List Int), Ch.own n0 n0 (Sl (some ⟨b3, 0, none⟩) ([] : List (Int × (Int × (List Int) × Int))) 0) ([] : List (Int × (Int × (List Int) × Int))), Ch.bx n0 b1 0 [(.slice none 0 0), (.slice none 0 0)] [] []] := H.sel' [0, 1, 5, 6, 7, 8] rfl rfl
 refine st (v := (I r20.1)) (rv_assign rfl) ?_
 refine w_end ?_
 refine q_then ?_
 obtain ⟨o26, hj, h'⟩ := bind_some h
 clear h
 refine c_cut (fun e a w => e = .normal ∧ ∃ (ρ : Nat → Value) (σ : St) (aj1 : Option Addr) (cj2 : Nat) (aj3 : Option Addr) (cj4 : Nat) (aj5 : Option Addr) (cj6 : Nat), a = fr 37 (updL ρ [(0, (pt br_0 or_0)), (2, (pt b1 0)), (3, (pt b7 0))]) ∧ w = σ.w ∧ Hp S0 σ0 σ [Ch.bx lor_0 br_0 or_0 [(Sl aj1 o26.1.1 cj2), (I o26.1.2)] prer_0 sufr_0, Ch.ro 0 (Sl aj1 o26.1.1 cj2) o26.1.1, Ch.bx n0 b7 0 [(Sl aj3 o26.2.1 cj4), (Sl aj5 o26.2.2 cj6)] [] [], Ch.own n0 n0 (Sl aj3 o26.2.1 cj4) o26.2.1, Ch.own n0 n0 (Sl aj5 o26.2.2 cj6) o26.2.2, Ch.bx n0 b1 0 [(.slice none 0 0), (.slice none 0 0)] [] []]) ?_ ?_
 ·clear h'
  rename _ = some o26 => h
  refine c_blk ?_
  refine wp_loopM _ h (fun s27 a w => ∃ (ρ : Nat → Value) (σ : St) (aj1 : Option Addr) (cj2 : Nat) (aj3 : Option Addr) (cj4 : Nat) (aj5 : Option Addr) (cj6 : Nat), a = fr 37 (updL ρ [(0, (pt br_0 or_0)), (2, (pt b1 0)), (3, (pt b7 0)), (4, (I s27.2.2.1)), (5, (I s27.2.2.2))]) ∧ w = σ.w ∧ Hp S0 σ0 σ [Ch.bx lor_0 br_0 or_0 [(Sl aj1 s27.1.1 cj2), (I s27.1.2)] prer_0 sufr_0, Ch.ro 0 (Sl aj1 s27.1.1 cj2) s27.1.1, Ch.bx n0 b7 0 [(Sl aj3 s27.2.1.1 cj4), (Sl aj5 s27.2.1.2 cj6)] [] [], Ch.own n0 n0 (Sl aj3 s27.2.1.1 cj4) s27.2.1.1, Ch.own n0 n0 (Sl aj5 s27.2.1.2 cj6) s27.2.1.2, Ch.bx n0 b1 0 [(.slice none 0 0), (.slice none 0 0)] [] []]) ⟨_, σ25, a23, c24, (some ⟨b3, 0, none⟩), 0, (some ⟨b5, 0, none⟩), 0, fr_join ⟨rfl, rfl, rfl, rfl, rfl, trivial⟩, rfl, H.sel' [0, 1, 2, 4, 3, 5] rfl rfl⟩ ?_
  clear h H
  rintro s27 a w o ⟨ρ, σ28, a29, c30, a31, c32, a33, c34, rfl, rfl, H⟩ h hres
  refine c_seq ?_
  refine c_seq ?_
  refine rg ?_
  refine st (v := (I s27.2.2.2)) (rv_move rfl) ?_
  refine st (v := (B (decide (0 < s27.2.2.2)))) (rv_gtr (a := s27.2.2.2) (b := 0) rfl rfl) ?_
  refine w_end ?_
  refine q_then ?_
  refine cd_cond (decide (0 < s27.2.2.2)) rfl (fun hb35 => ?_) (fun hb35 => ?_)
  ·replace h := bif_t hb35 h
   refine c_skip ?_
   refine q_then ?_
   refine c_seq ?_
   refine c_blk ?_
   refine c_seq ?_
   have hc36 := H.cells 2 rfl
   obtain ⟨r37, hx38, h'⟩ := bind_some h
   clear h
   have h := h'; clear h'
   have hc39 := c_spec_someEntry (lor_0 := lor_0) (br_0 := br_0) (or_0 := or_0) (prer_0 := prer_0) (sufr_0 := sufr_0) (ar_0_0 := a29) (cr_0_0 := c30) hx38
   obtain ⟨r44, hx45, h'⟩ := bind_some h
   clear h
   have h := h'; clear h'
   have hc46 := fun (a40 : Option Addr) (c41 : Nat) => c_spec_AddEntry (ah_0_0 := a31) (ch_0_0 := c32) (ah_0_1 := a33) (ch_0_1 := c34) (ae_1_1_1 := a40) (ce_1_1_1 := c41) hx45
   have Hs := H
   refine rg2 (σ := σ28) (Nm := (Option Addr) × (Nat) × (Option Addr) × (Nat) × (Option Addr) × (Nat) × (Option Addr) × (Nat) × (Nat)) 10 [2, 4, 8, 9] [[false, false, false, false], [true, false, false, false], [false, false, true, false], [true, true, false, false], [true, false, true, false], [true, true, true, false], [true, true, true, true]] [[(0, 0), (1, 1), (2, 2), (4, 4)], [(0, 0), (2, 2)], [(0, 1), (2, 4)], [(0, 0), (1, 1), (2, 2), (4, 4)], [(1, 3), (4, 5)], [(3, 3), (5, 5)], [(3, 3), (5, 5)], [(3, 3), (5, 5), (6, 6)], [(0, 2), (1, 4), (3, 5)], [(5, 6)]] 6 [fun ((a40, c41, a42, c43, a47, c48, a49, c50, b51) : (Option Addr) × (Nat) × (Option Addr) × (Nat) × (Option Addr) × (Nat) × (Option Addr) × (Nat) × (Nat)) => fun σm => Hp S0 σ0 σm [Ch.bx lor_0 br_0 or_0 [(Sl a29 s27.1.1 c30), (I s27.1.2)] prer_0 sufr_0, Ch.ro 0 (Sl a29 s27.1.1 c30) s27.1.1, Ch.bx n0 b7 0 [(Sl a31 s27.2.1.1 c32), (Sl a33 s27.2.1.2 c34)] [] [], Ch.own n0 n0 (Sl a31 s27.2.1.1 c32) s27.2.1.1, Ch.own n0 n0 (Sl a33 s27.2.1.2 c34) s27.2.1.2, Ch.bx n0 b1 0 [(.slice none 0 0), (.slice none 0 0)] [] []] ∧ Md (cov []) σ28 σm, fun ((a40, c41, a42, c43, a47, c48, a49, c50, b51) : (Option Addr) × (Nat) × (Option Addr) × (Nat) × (Option Addr) × (Nat) × (Option Addr) × (Nat) × (Nat)) => fun σm => Hp S0 σ0 σm [Ch.ro 0 (Sl a40 r37.1.2.2.1 c41) r37.1.2.2.1, Ch.bx lor_0 br_0 or_0 [(Sl a42 r37.2.1 c43), (I r37.2.2)] prer_0 sufr_0, Ch.ro 0 (Sl a42 r37.2.1 c43) r37.2.1, Ch.ro 0 (Sl a29 s27.1.1 c30) s27.1.1, Ch.bx n0 b7 0 [(Sl a31 s27.2.1.1 c32), (Sl a33 s27.2.1.2 c34)] [] [], Ch.own n0 n0 (Sl a31 s27.2.1.1 c32) s27.2.1.1, Ch.own n0 n0 (Sl a33 s27.2.1.2 c34) s27.2.1.2, Ch.bx n0 b1 0 [(.slice none 0 0), (.slice none 0 0)] [] []] ∧ Md (fun i => (cov []) i ∨ (fun i => (cov [Ch.bx lor_0 br_0 or_0 [(Sl a29 s27.1.1 c30), (I s27.1.2)] prer_0 sufr_0, Ch.ro 0 (Sl a29 s27.1.1 c30) s27.1.1]) i ∨ (fun b => blk (Sl a40 r37.1.2.2.1 c41) = some b) i) i) σ28 σm, fun ((a40, c41, a42, c43, a47, c48, a49, c50, b51) : (Option Addr) × (Nat) × (Option Addr) × (Nat) × (Option Addr) × (Nat) × (Option Addr) × (Nat) × (Nat)) => fun σm => Hp S0 σ0 σm [Ch.bx n0 b51 0 [(.slice none 0 0), (.slice none 0 0)] [] [], Ch.bx lor_0 br_0 or_0 [(Sl a29 s27.1.1 c30), (I s27.1.2)] prer_0 sufr_0, Ch.ro 0 (Sl a29 s27.1.1 c30) s27.1.1, Ch.bx n0 b7 0 [(Sl a31 s27.2.1.1 c32), (Sl a33 s27.2.1.2 c34)] [] [], Ch.own n0 n0 (Sl a31 s27.2.1.1 c32) s27.2.1.1, Ch.own n0 n0 (Sl a33 s27.2.1.2 c34) s27.2.1.2, Ch.bx n0 b1 0 [(.slice none 0 0), (.slice none 0 0)] [] []] ∧ Md (cov []) σ28 σm, fun ((a40, c41, a42, c43, a47, c48, a49, c50, b51) : (Option Addr) × (Nat) × (Option Addr) × (Nat) × (Option Addr) × (Nat) × (Option Addr) × (Nat) × (Nat)) => fun σm => Hp S0 σ0 σm [Ch.own n0 n0 (Sl a47 r44.1.1 c48) r44.1.1, Ch.own n0 n0 (Sl a49 r44.1.2 c50) r44.1.2, Ch.own n0 n0 (Sl a31 s27.2.1.1 c32) s27.2.1.1, Ch.own n0 n0 (Sl a33 s27.2.1.2 c34) s27.2.1.2, Ch.ro 0 (Sl a40 r37.1.2.2.1 c41) r37.1.2.2.1, Ch.bx lor_0 br_0 or_0 [(Sl a42 r37.2.1 c43), (I r37.2.2)] prer_0 sufr_0, Ch.ro 0 (Sl a42 r37.2.1 c43) r37.2.1, Ch.ro 0 (Sl a29 s27.1.1 c30) s27.1.1, Ch.bx n0 b7 0 [(Sl a31 s27.2.1.1 c32), (Sl a33 s27.2.1.2 c34)] [] [], Ch.bx n0 b1 0 [(.slice none 0 0), (.slice none 0 0)] [] []] ∧ Md (fun i => (cov []) i ∨ (fun i => (cov [Ch.bx lor_0 br_0 or_0 [(Sl a29 s27.1.1 c30), (I s27.1.2)] prer_0 sufr_0, Ch.ro 0 (Sl a29 s27.1.1 c30) s27.1.1]) i ∨ (fun b => blk (Sl a40 r37.1.2.2.1 c41) = some b) i) i) σ28 σm, fun ((a40, c41, a42, c43, a47, c48, a49, c50, b51) : (Option Addr) × (Nat) × (Option Addr) × (Nat) × (Option Addr) × (Nat) × (Option Addr) × (Nat) × (Nat)) => fun σm => Hp S0 σ0 σm [Ch.bx n0 b51 0 [(.slice none 0 0), (.slice none 0 0)] [] [], Ch.ro 0 (Sl a40 r37.1.2.2.1 c41) r37.1.2.2.1, Ch.bx lor_0 br_0 or_0 [(Sl a42 r37.2.1 c43), (I r37.2.2)] prer_0 sufr_0, Ch.ro 0 (Sl a42 r37.2.1 c43) r37.2.1, Ch.ro 0 (Sl a29 s27.1.1 c30) s27.1.1, Ch.bx n0 b7 0 [(Sl a31 s27.2.1.1 c32), (Sl a33 s27.2.1.2 c34)] [] [], Ch.own n0 n0 (Sl a31 s27.2.1.1 c32) s27.2.1.1, Ch.own n0 n0 (Sl a33 s27.2.1.2 c34) s27.2.1.2, Ch.bx n0 b1 0 [(.slice none 0 0), (.slice none 0 0)] [] []] ∧ Md (fun i => (cov []) i ∨ (fun i => (cov [Ch.bx lor_0 br_0 or_0 [(Sl a29 s27.1.1 c30), (I s27.1.2)] prer_0 sufr_0, Ch.ro 0 (Sl a29 s27.1.1 c30) s27.1.1]) i ∨ (fun b => blk (Sl a40 r37.1.2.2.1 c41) = some b) i) i) σ28 σm, fun ((a40, c41, a42, c43, a47, c48, a49, c50, b51) : (Option Addr) × (Nat) × (Option Addr) × (Nat) × (Option Addr) × (Nat) × (Option Addr) × (Nat) × (Nat)) => fun σm => Hp S0 σ0 σm [Ch.bx n0 b51 0 [(.slice none 0 0), (.slice none 0 0)] [] [], Ch.own n0 n0 (Sl a47 r44.1.1 c48) r44.1.1, Ch.own n0 n0 (Sl a49 r44.1.2 c50) r44.1.2, Ch.own n0 n0 (Sl a31 s27.2.1.1 c32) s27.2.1.1, Ch.own n0 n0 (Sl a33 s27.2.1.2 c34) s27.2.1.2, Ch.ro 0 (Sl a40 r37.1.2.2.1 c41) r37.1.2.2.1, Ch.bx lor_0 br_0 or_0 [(Sl a42 r37.2.1 c43), (I r37.2.2)] prer_0 sufr_0, Ch.ro 0 (Sl a42 r37.2.1 c43) r37.2.1, Ch.ro 0 (Sl a29 s27.1.1 c30) s27.1.1, Ch.bx n0 b7 0 [(Sl a31 s27.2.1.1 c32), (Sl a33 s27.2.1.2 c34)] [] [], Ch.bx n0 b1 0 [(.slice none 0 0), (.slice none 0 0)] [] []] ∧ Md (fun i => (cov []) i ∨ (fun i => (cov [Ch.bx lor_0 br_0 or_0 [(Sl a29 s27.1.1 c30), (I s27.1.2)] prer_0 sufr_0, Ch.ro 0 (Sl a29 s27.1.1 c30) s27.1.1]) i ∨ (fun b => blk (Sl a40 r37.1.2.2.1 c41) = some b) i) i) σ28 σm, fun ((a40, c41, a42, c43, a47, c48, a49, c50, b51) : (Option Addr) × (Nat) × (Option Addr) × (Nat) × (Option Addr) × (Nat) × (Option Addr) × (Nat) × (Nat)) => fun σm => Hp S0 σ0 σm [Ch.bx n0 b51 0 [(Sl a47 r44.1.1 c48), (Sl a49 r44.1.2 c50)] [] [], Ch.own n0 n0 (Sl a47 r44.1.1 c48) r44.1.1, Ch.own n0 n0 (Sl a49 r44.1.2 c50) r44.1.2, Ch.own n0 n0 (Sl a31 s27.2.1.1 c32) s27.2.1.1, Ch.own n0 n0 (Sl a33 s27.2.1.2 c34) s27.2.1.2, Ch.ro 0 (Sl a40 r37.1.2.2.1 c41) r37.1.2.2.1, Ch.bx lor_0 br_0 or_0 [(Sl a42 r37.2.1 c43), (I r37.2.2)] prer_0 sufr_0, Ch.ro 0 (Sl a42 r37.2.1 c43) r37.2.1, Ch.ro 0 (Sl a29 s27.1.1 c30) s27.1.1, Ch.bx n0 b7 0 [(Sl a31 s27.2.1.1 c32), (Sl a33 s27.2.1.2 c34)] [] [], Ch.bx n0 b1 0 [(.slice none 0 0), (.slice none 0 0)] [] []] ∧ Md (fun i => (fun i => (cov []) i ∨ (fun i => (cov [Ch.bx lor_0 br_0 or_0 [(Sl a29 s27.1.1 c30), (I s27.1.2)] prer_0 sufr_0, Ch.ro 0 (Sl a29 s27.1.1 c30) s27.1.1]) i ∨ (fun b => blk (Sl a40 r37.1.2.2.1 c41) = some b) i) i) i ∨ (fun i => i = b51) i) σ28 σm] [fun ((a40, c41, a42, c43, a47, c48, a49, c50, b51) : (Option Addr) × (Nat) × (Option Addr) × (Nat) × (Option Addr) × (Nat) × (Option Addr) × (Nat) × (Nat)) => (.agg #[(Sl a31 s27.2.1.1 c32), (Sl a33 s27.2.1.2 c34)]), fun ((a40, c41, a42, c43, a47, c48, a49, c50, b51) : (Option Addr) × (Nat) × (Option Addr) × (Nat) × (Option Addr) × (Nat) × (Option Addr) × (Nat) × (Nat)) => (pt br_0 or_0), fun ((a40, c41, a42, c43, a47, c48, a49, c50, b51) : (Option Addr) × (Nat) × (Option Addr) × (Nat) × (Option Addr) × (Nat) × (Option Addr) × (Nat) × (Nat)) => (.agg #[(I r37.1.1), (I r37.1.2.1), (Sl a40 r37.1.2.2.1 c41), (I r37.1.2.2.2)]), fun ((a40, c41, a42, c43, a47, c48, a49, c50, b51) : (Option Addr) × (Nat) × (Option Addr) × (Nat) × (Option Addr) × (Nat) × (Option Addr) × (Nat) × (Nat)) => (I s27.2.2.1), fun ((a40, c41, a42, c43, a47, c48, a49, c50, b51) : (Option Addr) × (Nat) × (Option Addr) × (Nat) × (Option Addr) × (Nat) × (Option Addr) × (Nat) × (Nat)) => (.tuple #[(.agg #[(Sl a47 r44.1.1 c48), (Sl a49 r44.1.2 c50)]), (B r44.2)]), fun ((a40, c41, a42, c43, a47, c48, a49, c50, b51) : (Option Addr) × (Nat) × (Option Addr) × (Nat) × (Option Addr) × (Nat) × (Option Addr) × (Nat) × (Nat)) => (.tuple #[(.agg #[(Sl a47 r44.1.1 c48), (Sl a49 r44.1.2 c50)]), (B r44.2)]), fun ((a40, c41, a42, c43, a47, c48, a49, c50, b51) : (Option Addr) × (Nat) × (Option Addr) × (Nat) × (Option Addr) × (Nat) × (Option Addr) × (Nat) × (Nat)) => (.agg #[(Sl a47 r44.1.1 c48), (Sl a49 r44.1.2 c50)]), fun ((a40, c41, a42, c43, a47, c48, a49, c50, b51) : (Option Addr) × (Nat) × (Option Addr) × (Nat) × (Option Addr) × (Nat) × (Option Addr) × (Nat) × (Nat)) => (B r44.2), fun ((a40, c41, a42, c43, a47, c48, a49, c50, b51) : (Option Addr) × (Nat) × (Option Addr) × (Nat) × (Option Addr) × (Nat) × (Option Addr) × (Nat) × (Nat)) => (pt b51 0), fun ((a40, c41, a42, c43, a47, c48, a49, c50, b51) : (Option Addr) × (Nat) × (Option Addr) × (Nat) × (Option Addr) × (Nat) × (Option Addr) × (Nat) × (Nat)) => undef] (none, 0, none, 0, none, 0, none, 0, 0) (by kernel_rfl) (by kernel_rfl) ?_ ?_ ?_
   ·intro σm m0
    exact ⟨H.grow (m0.mono fun _ h => h.elim), m0⟩
   ·refine all_cons (by
      refine ⟨?_, ?_⟩
      ·rintro ⟨a40, c41, a42, c43, a47, c48, a49, c50, b51⟩ ρ σm hJ hoff hdep
       have e3 := look_off (N := 37) (hoff 3 rfl) rfl
       obtain ⟨H, m⟩ := id hJ
       have hc36 := H.cells 2 rfl
       exact dp_v (v := (.agg #[(Sl a31 s27.2.1.1 c32), (Sl a33 s27.2.1.2 c34)])) wn (rv_load (cs := [(Sl a31 s27.2.1.1 c32), (Sl a33 s27.2.1.2 c34)]) Try.underlying26 rfl ti26 e3 rfl hc36) rfl hJ
      refine ⟨?_, ?_⟩
      ·rintro ⟨a40, c41, a42, c43, a47, c48, a49, c50, b51⟩ ρ σm hJ hoff hdep
       have e3 := look_off (N := 37) (hoff 3 rfl) rfl
       obtain ⟨H, m⟩ := id hJ
       have hc36 := H.cells 4 rfl
       exact dp_v (v := (.agg #[(Sl a31 s27.2.1.1 c32), (Sl a33 s27.2.1.2 c34)])) wn (rv_load (cs := [(Sl a31 s27.2.1.1 c32), (Sl a33 s27.2.1.2 c34)]) Try.underlying26 rfl ti26 e3 rfl hc36) rfl hJ
      refine ⟨?_, ?_⟩
      ·rintro ⟨a40, c41, a42, c43, a47, c48, a49, c50, b51⟩ ρ σm hJ hoff hdep
       have e3 := look_off (N := 37) (hoff 3 rfl) rfl
       obtain ⟨H, m⟩ := id hJ
       have hc36 := H.cells 3 rfl
       exact dp_v (v := (.agg #[(Sl a31 s27.2.1.1 c32), (Sl a33 s27.2.1.2 c34)])) wn (rv_load (cs := [(Sl a31 s27.2.1.1 c32), (Sl a33 s27.2.1.2 c34)]) Try.underlying26 rfl ti26 e3 rfl hc36) rfl hJ
      refine ⟨?_, ?_⟩
      ·rintro ⟨a40, c41, a42, c43, a47, c48, a49, c50, b51⟩ ρ σm hJ hoff hdep
       have e3 := look_off (N := 37) (hoff 3 rfl) rfl
       obtain ⟨H, m⟩ := id hJ
       have hc36 := H.cells 5 rfl
       exact dp_v (v := (.agg #[(Sl a31 s27.2.1.1 c32), (Sl a33 s27.2.1.2 c34)])) wn (rv_load (cs := [(Sl a31 s27.2.1.1 c32), (Sl a33 s27.2.1.2 c34)]) Try.underlying26 rfl ti26 e3 rfl hc36) rfl hJ
      trivial) ?_
    refine ac rfl (by
      intro k; rintro ⟨a40, c41, a42, c43, a47, c48, a49, c50, b51⟩ ρ σm hJ hoff hdep
      have e0 := look_off (N := 37) (hoff 0 rfl) rfl
      exact dp_v (v := (pt br_0 or_0)) wn (rv_move e0) rfl hJ) ?_
    refine all_cons (by
      refine ⟨?_, ?_⟩
      ·rintro ⟨a40, c41, a42, c43, a47, c48, a49, c50, b51⟩ ρ σm hJ hoff hdep
       have e23 : look 37 ρ 23 = (pt br_0 or_0) := hdep 1 rfl rfl 23 rfl
       obtain ⟨H, m⟩ := id hJ
       refine dp_cx wn (cx_call hc39 (ent_f hc39.fn (by show [look 37 ρ 23] = _; rw [e23])) hn0 (show Hp S0 σ0 _ ([Ch.bx lor_0 br_0 or_0 [(Sl a29 s27.1.1 c30), (I s27.1.2)] prer_0 sufr_0, Ch.ro 0 (Sl a29 s27.1.1 c30) s27.1.1] ++ [Ch.ro 0 (Sl a29 s27.1.1 c30) s27.1.1, Ch.bx n0 b7 0 [(Sl a31 s27.2.1.1 c32), (Sl a33 s27.2.1.2 c34)] [] [], Ch.own n0 n0 (Sl a31 s27.2.1.1 c32) s27.2.1.1, Ch.own n0 n0 (Sl a33 s27.2.1.2 c34) s27.2.1.2, Ch.bx n0 b1 0 [(.slice none 0 0), (.slice none 0 0)] [] []]) from (H.sel' [0, 1, 1, 2, 3, 4, 5] rfl rfl))) ?_
       rintro _ σq ⟨_, ⟨a40x, c41x, a42x, c43x, rfl, rfl⟩, H2, m2⟩
       obtain ⟨σr0, hwr0, H2, mr0⟩ := H2.pubSc 0 rfl
       exact ⟨_, (a40x, c41x, a42x, c43x, a47, c48, a49, c50, b51), hwr0, rfl, ⟨H2.sel' [0, 1, 2, 3, 4, 5, 6, 7] rfl rfl, m.comp (m2.comp mr0)⟩, stab [0, 1, 3, 8] (by kernel_rfl) ⟨rfl, rfl, rfl, rfl, trivial⟩⟩
      refine ⟨?_, ?_⟩
      ·rintro ⟨a40, c41, a42, c43, a47, c48, a49, c50, b51⟩ ρ σm hJ hoff hdep
       have e23 : look 37 ρ 23 = (pt br_0 or_0) := hdep 1 rfl rfl 23 rfl
       obtain ⟨H, m⟩ := id hJ
       refine dp_cx wn (cx_call hc39 (ent_f hc39.fn (by show [look 37 ρ 23] = _; rw [e23])) hn0 (show Hp S0 σ0 _ ([Ch.bx lor_0 br_0 or_0 [(Sl a29 s27.1.1 c30), (I s27.1.2)] prer_0 sufr_0, Ch.ro 0 (Sl a29 s27.1.1 c30) s27.1.1] ++ [Ch.bx n0 b51 0 [(.slice none 0 0), (.slice none 0 0)] [] [], Ch.ro 0 (Sl a29 s27.1.1 c30) s27.1.1, Ch.bx n0 b7 0 [(Sl a31 s27.2.1.1 c32), (Sl a33 s27.2.1.2 c34)] [] [], Ch.own n0 n0 (Sl a31 s27.2.1.1 c32) s27.2.1.1, Ch.own n0 n0 (Sl a33 s27.2.1.2 c34) s27.2.1.2, Ch.bx n0 b1 0 [(.slice none 0 0), (.slice none 0 0)] [] []]) from (H.sel' [1, 2, 0, 2, 3, 4, 5, 6] rfl rfl))) ?_
       rintro _ σq ⟨_, ⟨a40x, c41x, a42x, c43x, rfl, rfl⟩, H2, m2⟩
       obtain ⟨σr0, hwr0, H2, mr0⟩ := H2.pubSc 0 rfl
       exact ⟨_, (a40x, c41x, a42x, c43x, a47, c48, a49, c50, b51), hwr0, rfl, ⟨H2.sel' [3, 0, 1, 2, 4, 5, 6, 7, 8] rfl rfl, m.comp (m2.comp mr0)⟩, stab [0, 1, 3, 8] (by kernel_rfl) ⟨rfl, rfl, rfl, rfl, trivial⟩⟩
      trivial) ?_
    refine ac rfl (by
      intro k; rintro ⟨a40, c41, a42, c43, a47, c48, a49, c50, b51⟩ ρ σm hJ hoff hdep
      have e4 := look_off (N := 37) (hoff 4 rfl) rfl
      exact dp_v (v := (I s27.2.2.1)) wn (rv_move e4) rfl hJ) ?_
    refine all_cons (by
      refine ⟨?_, ?_⟩
      ·rintro ⟨a40, c41, a42, c43, a47, c48, a49, c50, b51⟩ ρ σm hJ hoff hdep
       have e22 : look 37 ρ 22 = (.agg #[(Sl a31 s27.2.1.1 c32), (Sl a33 s27.2.1.2 c34)]) := hdep 0 rfl rfl 22 rfl
       have e24 : look 37 ρ 24 = (.agg #[(I r37.1.1), (I r37.1.2.1), (Sl a40 r37.1.2.2.1 c41), (I r37.1.2.2.2)]) := hdep 2 rfl rfl 24 rfl
       have e25 : look 37 ρ 25 = (I s27.2.2.1) := hdep 3 rfl rfl 25 rfl
       obtain ⟨H, m⟩ := id hJ
       refine dp_cx wn (cx_lend (Loan.lend (Loan.lend (Loan.same Loan.nil))) (hc46 a40 c41) (ent_f (hc46 a40 c41).fn (by show [look 37 ρ 22, look 37 ρ 24, look 37 ρ 25] = _; rw [e22, e24, e25])) (show Hp S0 σ0 _ ([Ch.own n0 n0 (Sl a31 s27.2.1.1 c32) s27.2.1.1, Ch.own n0 n0 (Sl a33 s27.2.1.2 c34) s27.2.1.2] ++ ([Ch.ro 0 (Sl a40 r37.1.2.2.1 c41) r37.1.2.2.1] ++ [Ch.ro 0 (Sl a40 r37.1.2.2.1 c41) r37.1.2.2.1, Ch.bx lor_0 br_0 or_0 [(Sl a42 r37.2.1 c43), (I r37.2.2)] prer_0 sufr_0, Ch.ro 0 (Sl a42 r37.2.1 c43) r37.2.1, Ch.ro 0 (Sl a29 s27.1.1 c30) s27.1.1, Ch.bx n0 b7 0 [(Sl a31 s27.2.1.1 c32), (Sl a33 s27.2.1.2 c34)] [] [], Ch.bx n0 b1 0 [(.slice none 0 0), (.slice none 0 0)] [] []])) from (H.sel' [5, 6, 0, 0, 1, 2, 3, 4, 7] rfl rfl)) (by rintro _ _ _ ⟨_, _, _, _, rfl, rfl⟩; exact ⟨Ab.own (Nat.le_refl _), Ab.ownSc, trivial⟩)) ?_
       rintro _ σq ⟨_, ⟨a47x, c48x, a49x, c50x, rfl, rfl⟩, H2, m2, hle2⟩
       replace H2 := H2.ownLow 0 n0 n0 rfl (Nat.le_trans hn0 hle2) (Nat.le_trans hn0 hle2)
       replace H2 := H2.ownLow 1 n0 n0 rfl (Nat.le_trans hn0 hle2) (Nat.le_trans hn0 hle2)
       exact ⟨_, (a40, c41, a42, c43, a47x, c48x, a49x, c50x, b51), rfl, rfl, ⟨H2.sel' [1, 0, 2, 3, 4, 5, 6, 7, 8, 9] rfl rfl, m.comp0 (m2.mono (fun i h => by simp [cov, Ch.ro] at h))⟩, stab [0, 1, 2, 3, 8] (by kernel_rfl) ⟨rfl, rfl, rfl, rfl, rfl, trivial⟩⟩
      refine ⟨?_, ?_⟩
      ·rintro ⟨a40, c41, a42, c43, a47, c48, a49, c50, b51⟩ ρ σm hJ hoff hdep
       have e22 : look 37 ρ 22 = (.agg #[(Sl a31 s27.2.1.1 c32), (Sl a33 s27.2.1.2 c34)]) := hdep 0 rfl rfl 22 rfl
       have e24 : look 37 ρ 24 = (.agg #[(I r37.1.1), (I r37.1.2.1), (Sl a40 r37.1.2.2.1 c41), (I r37.1.2.2.2)]) := hdep 2 rfl rfl 24 rfl
       have e25 : look 37 ρ 25 = (I s27.2.2.1) := hdep 3 rfl rfl 25 rfl
       obtain ⟨H, m⟩ := id hJ
       refine dp_cx wn (cx_lend (Loan.lend (Loan.lend (Loan.same Loan.nil))) (hc46 a40 c41) (ent_f (hc46 a40 c41).fn (by show [look 37 ρ 22, look 37 ρ 24, look 37 ρ 25] = _; rw [e22, e24, e25])) (show Hp S0 σ0 _ ([Ch.own n0 n0 (Sl a31 s27.2.1.1 c32) s27.2.1.1, Ch.own n0 n0 (Sl a33 s27.2.1.2 c34) s27.2.1.2] ++ ([Ch.ro 0 (Sl a40 r37.1.2.2.1 c41) r37.1.2.2.1] ++ [Ch.bx n0 b51 0 [(.slice none 0 0), (.slice none 0 0)] [] [], Ch.ro 0 (Sl a40 r37.1.2.2.1 c41) r37.1.2.2.1, Ch.bx lor_0 br_0 or_0 [(Sl a42 r37.2.1 c43), (I r37.2.2)] prer_0 sufr_0, Ch.ro 0 (Sl a42 r37.2.1 c43) r37.2.1, Ch.ro 0 (Sl a29 s27.1.1 c30) s27.1.1, Ch.bx n0 b7 0 [(Sl a31 s27.2.1.1 c32), (Sl a33 s27.2.1.2 c34)] [] [], Ch.bx n0 b1 0 [(.slice none 0 0), (.slice none 0 0)] [] []])) from (H.sel' [6, 7, 1, 0, 1, 2, 3, 4, 5, 8] rfl rfl)) (by rintro _ _ _ ⟨_, _, _, _, rfl, rfl⟩; exact ⟨Ab.own (Nat.le_refl _), Ab.ownSc, trivial⟩)) ?_
       rintro _ σq ⟨_, ⟨a47x, c48x, a49x, c50x, rfl, rfl⟩, H2, m2, hle2⟩
       replace H2 := H2.ownLow 0 n0 n0 rfl (Nat.le_trans hn0 hle2) (Nat.le_trans hn0 hle2)
       replace H2 := H2.ownLow 1 n0 n0 rfl (Nat.le_trans hn0 hle2) (Nat.le_trans hn0 hle2)
       exact ⟨_, (a40, c41, a42, c43, a47x, c48x, a49x, c50x, b51), rfl, rfl, ⟨H2.sel' [4, 1, 0, 2, 3, 5, 6, 7, 8, 9, 10] rfl rfl, m.comp0 (m2.mono (fun i h => by simp [cov, Ch.ro] at h))⟩, stab [0, 1, 2, 3, 8] (by kernel_rfl) ⟨rfl, rfl, rfl, rfl, rfl, trivial⟩⟩
      trivial) ?_
    refine ac rfl (by
      intro k; rintro ⟨a40, c41, a42, c43, a47, c48, a49, c50, b51⟩ ρ σm hJ hoff hdep
      have e26 := hdep 4 rfl rfl 26 rfl
      exact dp_v (v := (.tuple #[(.agg #[(Sl a47 r44.1.1 c48), (Sl a49 r44.1.2 c50)]), (B r44.2)])) wn (rv_move e26) rfl hJ) ?_
    refine ac rfl (by
      intro k; rintro ⟨a40, c41, a42, c43, a47, c48, a49, c50, b51⟩ ρ σm hJ hoff hdep
      have e21 := hdep 5 rfl rfl 21 rfl
      exact dp_v (v := (.agg #[(Sl a47 r44.1.1 c48), (Sl a49 r44.1.2 c50)])) wn (rv_extract e21 rfl) rfl hJ) ?_
    refine ac rfl (by
      intro k; rintro ⟨a40, c41, a42, c43, a47, c48, a49, c50, b51⟩ ρ σm hJ hoff hdep
      have e21 := hdep 5 rfl rfl 21 rfl
      exact dp_v (v := (B r44.2)) wn (rv_extract e21 rfl) rfl hJ) ?_
    refine all_cons (by
      refine ⟨?_, ?_⟩
      ·rintro ⟨a40, c41, a42, c43, a47, c48, a49, c50, b51⟩ ρ σm hJ hoff hdep
       obtain ⟨H, m⟩ := id hJ
       refine dp_ex wn (ex_alloc (cs := [(.slice none 0 0), (.slice none 0 0)]) H hn0 ti26 rfl) ?_
       rintro _ σq ⟨b51x, rfl, H2, m2⟩
       exact ⟨_, (a40, c41, a42, c43, a47, c48, a49, c50, b51x), rfl, rfl, ⟨H2.sel' [0, 1, 2, 3, 4, 5, 6] rfl rfl, m.comp0 m2⟩, stab [0, 1, 2, 3, 4, 5, 6, 7] (by kernel_rfl) ⟨rfl, rfl, rfl, rfl, rfl, rfl, rfl, rfl, trivial⟩⟩
      refine ⟨?_, ?_⟩
      ·rintro ⟨a40, c41, a42, c43, a47, c48, a49, c50, b51⟩ ρ σm hJ hoff hdep
       obtain ⟨H, m⟩ := id hJ
       refine dp_ex wn (ex_alloc (cs := [(.slice none 0 0), (.slice none 0 0)]) H hn0 ti26 rfl) ?_
       rintro _ σq ⟨b51x, rfl, H2, m2⟩
       exact ⟨_, (a40, c41, a42, c43, a47, c48, a49, c50, b51x), rfl, rfl, ⟨H2.sel' [0, 1, 2, 3, 4, 5, 6, 7, 8] rfl rfl, m.comp0 m2⟩, stab [0, 1, 2, 3, 4, 5, 6, 7] (by kernel_rfl) ⟨rfl, rfl, rfl, rfl, rfl, rfl, rfl, rfl, trivial⟩⟩
      refine ⟨?_, ?_⟩
      ·rintro ⟨a40, c41, a42, c43, a47, c48, a49, c50, b51⟩ ρ σm hJ hoff hdep
       obtain ⟨H, m⟩ := id hJ
       refine dp_ex wn (ex_alloc (cs := [(.slice none 0 0), (.slice none 0 0)]) H hn0 ti26 rfl) ?_
       rintro _ σq ⟨b51x, rfl, H2, m2⟩
       exact ⟨_, (a40, c41, a42, c43, a47, c48, a49, c50, b51x), rfl, rfl, ⟨H2.sel' [0, 1, 2, 3, 4, 5, 6, 7, 8, 9, 10] rfl rfl, m.comp0 m2⟩, stab [0, 1, 2, 3, 4, 5, 6, 7] (by kernel_rfl) ⟨rfl, rfl, rfl, rfl, rfl, rfl, rfl, rfl, trivial⟩⟩
      trivial) ?_
    refine all_cons (by
      refine ⟨?_, ?_⟩
      ·rintro ⟨a40, c41, a42, c43, a47, c48, a49, c50, b51⟩ ρ σm hJ hoff hdep
       have e6 := hdep 8 rfl rfl 6 rfl
       have e27 := hdep 6 rfl rfl 27 rfl
       obtain ⟨H, m⟩ := id hJ
       refine dp_exS wn rfl (ex_store_box (k := 0) (cs := [(.slice none 0 0), (.slice none 0 0)]) (vs := [(Sl a47 r44.1.1 c48), (Sl a49 r44.1.2 c50)]) (cs' := [(Sl a47 r44.1.1 c48), (Sl a49 r44.1.2 c50)]) H (i := 0) rfl ti26 e6 rfl e27 rfl rfl (Nat.le_of_ble_eq_true rfl) (by simp [plain]) rfl) ?_
       rintro σq ⟨H2, m2⟩
       exact ⟨_, (a40, c41, a42, c43, a47, c48, a49, c50, b51), rfl, ⟨H2.sel' [0, 1, 2, 3, 4, 5, 6, 7, 8, 9, 10] rfl rfl, m.comp m2⟩, stab [0, 1, 2, 3, 4, 5, 6, 7, 8] (by kernel_rfl) ⟨rfl, rfl, rfl, rfl, rfl, rfl, rfl, rfl, rfl, trivial⟩⟩
      trivial) ?_
    exact all_nil
   ·rintro ⟨a40, c41, a42, c43, a47, c48, a49, c50, b51⟩ ρ σ52 hJ hoff hrel
    have e0 := look_off (N := 37) (hoff 0 rfl) rfl
    have e2 := look_off (N := 37) (hoff 2 rfl) rfl
    have e3 := look_off (N := 37) (hoff 3 rfl) rfl
    have e4 := look_off (N := 37) (hoff 4 rfl) rfl
    have e5 := look_off (N := 37) (hoff 5 rfl) rfl
    have e6 := hrel 8 rfl 6 rfl
    have e28 := hrel 7 rfl 28 rfl
    obtain ⟨H, -⟩ := (show Hp S0 σ0 σ52 [Ch.bx n0 b51 0 [(Sl a47 r44.1.1 c48), (Sl a49 r44.1.2 c50)] [] [], Ch.own n0 n0 (Sl a47 r44.1.1 c48) r44.1.1, Ch.own n0 n0 (Sl a49 r44.1.2 c50) r44.1.2, Ch.own n0 n0 (Sl a31 s27.2.1.1 c32) s27.2.1.1, Ch.own n0 n0 (Sl a33 s27.2.1.2 c34) s27.2.1.2, Ch.ro 0 (Sl a40 r37.1.2.2.1 c41) r37.1.2.2.1, Ch.bx lor_0 br_0 or_0 [(Sl a42 r37.2.1 c43), (I r37.2.2)] prer_0 sufr_0, Ch.ro 0 (Sl a42 r37.2.1 c43) r37.2.1, Ch.ro 0 (Sl a29 s27.1.1 c30) s27.1.1, Ch.bx n0 b7 0 [(Sl a31 s27.2.1.1 c32), (Sl a33 s27.2.1.2 c34)] [] [], Ch.bx n0 b1 0 [(.slice none 0 0), (.slice none 0 0)] [] []] ∧ Md (fun i => (fun i => (cov []) i ∨ (fun i => (cov [Ch.bx lor_0 br_0 or_0 [(Sl a29 s27.1.1 c30), (I s27.1.2)] prer_0 sufr_0, Ch.ro 0 (Sl a29 s27.1.1 c30) s27.1.1]) i ∨ (fun b => blk (Sl a40 r37.1.2.2.1 c41) = some b) i) i) i ∨ (fun i => i = b51) i) σ28 σ52 from hJ)
    clear hJ Hs
    rw [fr_lookL (L := [(0, (pt br_0 or_0)), (2, (pt b1 0)), (3, (pt b7 0)), (4, (I s27.2.2.1)), (5, (I s27.2.2.2)), (6, (pt b51 0)), (28, (B r44.2))]) ⟨e0, e2, e3, e4, e5, e6, e28, trivial⟩]
    clear hoff hrel e0 e2 e3 e4 e5 e6 e28
    refine st (v := (B r44.2)) (rv_assign rfl) ?_
    refine w_end ?_
    refine q_then ?_
    refine c_seq ?_
    refine c_seq ?_
    refine rg ?_
    refine st (v := (B r44.2)) (rv_move rfl) ?_
    refine w_end ?_
    refine q_then ?_
    obtain ⟨o53, hj, h'⟩ := bind_some h
    clear h
    refine c_cut (fun e a w => e = .normal ∧ ∃ (ρ : Nat → Value) (σ : St) (aj1 : Option Addr) (cj2 : Nat) (aj3 : Option Addr) (cj4 : Nat), a = fr 37 (updL ρ [(0, (pt br_0 or_0)), (2, (pt b1 0)), (3, (pt b7 0)), (4, (I s27.2.2.1)), (5, (I s27.2.2.2))]) ∧ w = σ.w ∧ Hp S0 σ0 σ [Ch.bx n0 b7 0 [(Sl aj1 o53.1 cj2), (Sl aj3 o53.2 cj4)] [] [], Ch.own n0 n0 (Sl aj1 o53.1 cj2) o53.1, Ch.own n0 n0 (Sl aj3 o53.2 cj4) o53.2, Ch.ro 0 (Sl a42 r37.2.1 c43) r37.2.1, Ch.bx lor_0 br_0 or_0 [(Sl a42 r37.2.1 c43), (I r37.2.2)] prer_0 sufr_0, Ch.bx n0 b1 0 [(.slice none 0 0), (.slice none 0 0)] [] []]) ?_ ?_
    ·clear h'
     rename _ = some o53 => h
     refine cd_cond r44.2 rfl (fun hb54 => ?_) (fun hb54 => ?_)
     ·replace h := bif_t hb54 h
      refine rg ?_
      have hc55 := H.cells 0 rfl
      refine st (v := (.agg #[(Sl a47 r44.1.1 c48), (Sl a49 r44.1.2 c50)])) (rv_load (cs := [(Sl a47 r44.1.1 c48), (Sl a49 r44.1.2 c50)]) Try.underlying26 rfl ti26 rfl rfl hc55) ?_
      refine st_exS (ex_store_box (k := 0) (cs := [(Sl a31 s27.2.1.1 c32), (Sl a33 s27.2.1.2 c34)]) (vs := [(Sl a47 r44.1.1 c48), (Sl a49 r44.1.2 c50)]) (cs' := [(Sl a47 r44.1.1 c48), (Sl a49 r44.1.2 c50)]) H (i := 9) rfl ti26 rfl rfl rfl rfl rfl (Nat.le_of_ble_eq_true rfl) (by simp [plain]) rfl) wn ?_
      rintro σ56 ⟨H, -⟩
      replace H : Hp S0 σ0 σ56 [Ch.bx n0 b7 0 [(Sl a47 r44.1.1 c48), (Sl a49 r44.1.2 c50)] [] [], Ch.own n0 n0 (Sl a47 r44.1.1 c48) r44.1.1, Ch.own n0 n0 (Sl a49 r44.1.2 c50) r44.1.2, Ch.bx lor_0 br_0 or_0 [(Sl a42 r37.2.1 c43), (I r37.2.2)] prer_0 sufr_0, Ch.ro 0 (Sl a42 r37.2.1 c43) r37.2.1, Ch.bx n0 b1 0 [(.slice none 0 0), (.slice none 0 0)] [] []] := H.sel' [0, 2, 3, 7, 8, 10] rfl rfl
      refine w_end ?_
      obtain rfl := Option.some.inj h
      exact ⟨rfl, _, σ56, a47, c48, a49, c50, fr_join ⟨rfl, rfl, rfl, rfl, rfl, trivial⟩, rfl, H.sel' [0, 1, 2, 4, 3, 5] rfl rfl⟩
     ·replace h := bif_f hb54 h
      refine c_skip ?_
      obtain rfl := Option.some.inj h
      exact ⟨rfl, _, σ52, a31, c32, a33, c34, fr_join ⟨rfl, rfl, rfl, rfl, rfl, trivial⟩, rfl, H.sel' [9, 3, 4, 7, 6, 10] rfl rfl⟩
    ·clear hj
     have h := h'
     clear h' H
     rintro e a w ⟨rfl, ρ, σ57, a58, c59, a60, c61, rfl, rfl, H⟩
     refine q_then ?_
     refine rg ?_
     refine st (v := (I s27.2.2.1)) (rv_move rfl) ?_
     refine st (v := (pt br_0 or_0)) (rv_move rfl) ?_
     refine st_ex (ex_buildSlice (el := n0) (xs := ([0, 1, 5, 10] : List Int)) (ps := [(0, (I 0)), (1, (I 1)), (2, (I 5)), (3, (I 10))]) (cs := [(I 0), (I 1), (I 5), (I 10)]) H hn0 Try.underlying24 ti3 rfl rfl (by kernel_rfl) (.cons (c := [(I 0)]) rfl (.cons (c := [(I 1)]) rfl (.cons (c := [(I 5)]) rfl (.cons (c := [(I 10)]) rfl (.nil))))) rfl) wn ?_
     rintro _ σ63 ⟨b62, rfl, H, -⟩
     obtain ⟨σ64, hw65, H, -⟩ := H.pub 0 rfl (Nat.le_refl _)
     rw [← hw65]; clear hw65
     replace H := H.roLow 0 0 rfl (Nat.zero_le _)
     obtain ⟨r66, hx67, h'⟩ := bind_some h
     clear h
     have h := h'; clear h'
     have hc68 := c_spec_reader_one (lor_0 := lor_0) (br_0 := br_0) (or_0 := or_0) (prer_0 := prer_0) (sufr_0 := sufr_0) (ar_0_0 := a42) (cr_0_0 := c43) (alist_1 := (some ⟨b62, 0, none⟩)) (clist_1 := 4) hx67
     refine st_call (cx_call hc68 (ent_f hc68.fn rfl) hn0 (show Hp S0 σ0 _ ([Ch.bx lor_0 br_0 or_0 [(Sl a42 r37.2.1 c43), (I r37.2.2)] prer_0 sufr_0, Ch.ro 0 (Sl a42 r37.2.1 c43) r37.2.1, Ch.ro 0 (Sl (some ⟨b62, 0, none⟩) ([0, 1, 5, 10] : List Int) 4) ([0, 1, 5, 10] : List Int)] ++ [Ch.ro 0 (Sl (some ⟨b62, 0, none⟩) ([0, 1, 5, 10] : List Int) 4) ([0, 1, 5, 10] : List Int), Ch.ro n0 (Sl (some ⟨b62, 0, none⟩) ([0, 1, 5, 10] : List Int) 4) ([0, 1, 5, 10] : List Int), Ch.bx n0 b7 0 [(Sl a58 o53.1 c59), (Sl a60 o53.2 c61)] [] [], Ch.own n0 n0 (Sl a58 o53.1 c59) o53.1, Ch.own n0 n0 (Sl a60 o53.2 c61) o53.2, Ch.ro 0 (Sl a42 r37.2.1 c43) r37.2.1, Ch.bx n0 b1 0 [(.slice none 0 0), (.slice none 0 0)] [] []]) from (H.sel' [6, 5, 0, 0, 1, 2, 3, 4, 5, 7] rfl rfl))) wn ?_
     rintro _ σ71 ⟨_, ⟨a69, c70, rfl, rfl⟩, H, -⟩
     replace H : Hp S0 σ0 σ71 [Ch.bx lor_0 br_0 or_0 [(Sl a69 r66.2.1 c70), (I r66.2.2)] prer_0 sufr_0, Ch.ro 0 (Sl a69 r66.2.1 c70) r66.2.1, Ch.ro 0 (Sl (some ⟨b62, 0, none⟩) ([0, 1, 5, 10] : List Int) 4) ([0, 1, 5, 10] : List Int), Ch.ro n0 (Sl (some ⟨b62, 0, none⟩) ([0, 1, 5, 10] : List Int) 4) ([0, 1, 5, 10] : List Int), Ch.bx n0 b7 0 [(Sl a58 o53.1 c59), (Sl a60 o53.2 c61)] [] [], Ch.own n0 n0 (Sl a58 o53.1 c59) o53.1, Ch.own n0 n0 (Sl a60 o53.2 c61) o53.2, Ch.ro 0 (Sl a42 r37.2.1 c43) r37.2.1, Ch.bx n0 b1 0 [(.slice none 0 0), (.slice none 0 0)] [] []] := H
     replace H : Hp S0 σ0 σ71 [Ch.bx lor_0 br_0 or_0 [(Sl a69 r66.2.1 c70), (I r66.2.2)] prer_0 sufr_0, Ch.ro 0 (Sl a69 r66.2.1 c70) r66.2.1, Ch.bx n0 b7 0 [(Sl a58 o53.1 c59), (Sl a60 o53.2 c61)] [] [], Ch.own n0 n0 (Sl a58 o53.1 c59) o53.1, Ch.own n0 n0 (Sl a60 o53.2 c61) o53.2, Ch.bx n0 b1 0 [(.slice none 0 0), (.slice none 0 0)] [] []] := H.sel' [0, 1, 4, 5, 6, 8] rfl rfl
     refine st (v := (I (w64 (s27.2.2.1 + r66.1)))) (rv_add (a := s27.2.2.1) (b := r66.1) rfl rfl) ?_
     refine st (v := (I (w64 (s27.2.2.1 + r66.1)))) (rv_assign rfl) ?_
     refine w_end ?_
     refine q_blk ?_
     refine q_then ?_
     refine rg ?_
     refine st (v := (I s27.2.2.2)) (rv_move rfl) ?_
     refine st (v := (I (w64 (s27.2.2.2 - 1)))) (rv_sub (a := s27.2.2.2) (b := 1) rfl rfl) ?_
     refine st (v := (I (w64 (s27.2.2.2 - 1)))) (rv_assign rfl) ?_
     refine w_end ?_
     refine q_then ?_
     obtain rfl := Option.some.inj h
     exact ⟨_, rfl, _, σ71, a69, c70, a58, c59, a60, c61, fr_join ⟨rfl, rfl, rfl, rfl, rfl, trivial⟩, rfl, H.sel' [0, 1, 2, 3, 4, 5] rfl rfl⟩
  ·replace h := bif_f hb35 h
   refine c_exit ?_
   refine q_then_x ?_
   refine q_then_x ?_
   refine q_blk_hit ?_
   obtain rfl := Option.some.inj h
   obtain rfl := hres _ rfl
   exact ⟨rfl, _, σ28, a29, c30, a31, c32, a33, c34, fr_join ⟨rfl, rfl, rfl, trivial⟩, rfl, H.sel' [0, 1, 2, 3, 4, 5] rfl rfl⟩
 ·clear hj
  have h := h'
  clear h' H
  rintro e a w ⟨rfl, ρ, σ72, a73, c74, a75, c76, a77, c78, rfl, rfl, H⟩
  refine q_then ?_
  refine c_seq ?_
  refine rg ?_
  have hc79 := H.cells 2 rfl
  refine st (v := (.agg #[(Sl a75 o26.2.1 c76), (Sl a77 o26.2.2 c78)])) (rv_load (cs := [(Sl a75 o26.2.1 c76), (Sl a77 o26.2.2 c78)]) Try.underlying26 rfl ti26 rfl rfl hc79) ?_
  refine st_exS (ex_store_box (k := 0) (cs := [(.slice none 0 0), (.slice none 0 0)]) (vs := [(Sl a75 o26.2.1 c76), (Sl a77 o26.2.2 c78)]) (cs' := [(Sl a75 o26.2.1 c76), (Sl a77 o26.2.2 c78)]) H (i := 5) rfl ti26 rfl rfl rfl rfl rfl (Nat.le_of_ble_eq_true rfl) (by simp [plain]) rfl) wn ?_
  rintro σ80 ⟨H, -⟩
  refine w_end ?_
  refine q_then ?_
  refine c_ret ?_
  obtain rfl := Option.some.inj h
  exact fin_ret (v := (.agg #[(Sl a75 o26.2.1 c76), (Sl a77 o26.2.2 c78)])) (results_ok Try.results72 (res_cell rfl (run_cellRes (cs := [(Sl a75 o26.2.1 c76), (Sl a77 o26.2.2 c78)]) Try.underlying26 rfl ti26 rfl (H.cells 0 rfl)) res_nil) rfl) ⟨a75, c76, a77, c78, a73, c74, rfl, rfl⟩ (H.sel' [4, 5, 1, 2] rfl rfl)

theorem c_spec_anyHistory {r_0 : (List UInt8) × Int} {ar_0_0 : Option Addr} {cr_0_0 : Nat} {lor_0 br_0 or_0 : Nat} {prer_0 sufr_0 : List Value} {r : ((List (Int × (Int × (List Int) × Int))) × (List Int)) × ((List UInt8) × Int)} (h : M.spec_anyHistory r_0 = some r) :
    Cal2 Try.prog 40 [(pt br_0 or_0)] [Ch.bx lor_0 br_0 or_0 [(Sl ar_0_0 r_0.1 cr_0_0), (I r_0.2)] prer_0 sufr_0, Ch.ro 0 (Sl ar_0_0 r_0.1 cr_0_0) r_0.1] (fun n0 v L => ∃ (az1 : Option Addr), ∃ (cz2 : Nat), ∃ (az3 : Option Addr), ∃ (cz4 : Nat), ∃ (az5 : Option Addr), ∃ (cz6 : Nat), v = (.agg #[(Sl az1 r.1.1 cz2), (Sl az3 r.1.2 cz4)]) ∧ L = [Ch.own n0 n0 (Sl az1 r.1.1 cz2) r.1.1, Ch.own n0 n0 (Sl az3 r.1.2 cz4) r.1.2, Ch.bx lor_0 br_0 or_0 [(Sl az5 r.2.1 cz6), (I r.2.2)] prer_0 sufr_0, Ch.ro 0 (Sl az5 r.2.1 cz6) r.2.1]) := by
 refine cal2 (n := 35) Try.func40 rfl rfl rfl rfl ?_
 intro S0 σ0 n0 hn0 H
 unfold M.spec_anyHistory at h
 refine c_seq ?_
 refine rg ?_
 refine st_ex (ex_alloc (cs := [(.slice none 0 0), (.slice none 0 0)]) H hn0 ti26 rfl) wn ?_
 rintro _ σ2 ⟨b1, rfl, H, -⟩
 refine w_end ?_
 refine q_then ?_
 refine c_seq ?_
 refine rg ?_
 refine st (v := (pt br_0 or_0)) (rv_move rfl) ?_
 obtain ⟨r3, hx4, h'⟩ := bind_some h
 clear h
 have h := h'; clear h'
 have hc5 := c_spec_someHistory (lor_0 := lor_0) (br_0 := br_0) (or_0 := or_0) (prer_0 := prer_0) (sufr_0 := sufr_0) (ar_0_0 := ar_0_0) (cr_0_0 := cr_0_0) hx4
 refine st_call (cx_call hc5 (ent_f hc5.fn rfl) hn0 (show Hp S0 σ0 _ ([Ch.bx lor_0 br_0 or_0 [(Sl ar_0_0 r_0.1 cr_0_0), (I r_0.2)] prer_0 sufr_0, Ch.ro 0 (Sl ar_0_0 r_0.1 cr_0_0) r_0.1] ++ [Ch.bx n0 b1 0 [(.slice none 0 0), (.slice none 0 0)] [] [], Ch.ro 0 (Sl ar_0_0 r_0.1 cr_0_0) r_0.1]) from (H.sel' [1, 2, 0, 2] rfl rfl))) wn ?_
 rintro _ σ12 ⟨_, ⟨a6, c7, a8, c9, a10, c11, rfl, rfl⟩, H, -⟩
 replace H : Hp S0 σ0 σ12 [Ch.own n0 n0 (Sl a6 r3.1.1 c7) r3.1.1, Ch.own n0 n0 (Sl a8 r3.1.2 c9) r3.1.2, Ch.bx lor_0 br_0 or_0 [(Sl a10 r3.2.1 c11), (I r3.2.2)] prer_0 sufr_0, Ch.ro 0 (Sl a10 r3.2.1 c11) r3.2.1, Ch.bx n0 b1 0 [(.slice none 0 0), (.slice none 0 0)] [] [], Ch.ro 0 (Sl ar_0_0 r_0.1 cr_0_0) r_0.1] := H
 refine st_ex (ex_alloc (cs := [(.slice none 0 0), (.slice none 0 0)]) H hn0 ti26 rfl) wn ?_
 rintro _ σ14 ⟨b13, rfl, H, -⟩
 refine st_exS (ex_store_box (k := 0) (cs := [(.slice none 0 0), (.slice none 0 0)]) (vs := [(Sl a6 r3.1.1 c7), (Sl a8 r3.1.2 c9)]) (cs' := [(Sl a6 r3.1.1 c7), (Sl a8 r3.1.2 c9)]) H (i := 0) rfl ti26 rfl rfl rfl rfl rfl (Nat.le_of_ble_eq_true rfl) (by simp [plain]) rfl) wn ?_
 rintro σ15 ⟨H, -⟩
 refine w_end ?_
 refine q_then ?_
 refine c_seq ?_
 refine c_seq ?_
 refine rg ?_
 refine st (v := (pt br_0 or_0)) (rv_move rfl) ?_
 obtain ⟨r16, hx17, h'⟩ := bind_some h
 clear h
 have h := h'; clear h'
 have hc18 := c_spec_reader_pick (lor_0 := lor_0) (br_0 := br_0) (or_0 := or_0) (prer_0 := prer_0) (sufr_0 := sufr_0) (ar_0_0 := a10) (cr_0_0 := c11) hx17
 refine st_call (cx_call hc18 (ent_f hc18.fn rfl) hn0 (show Hp S0 σ0 _ ([Ch.bx lor_0 br_0 or_0 [(Sl a10 r3.2.1 c11), (I r3.2.2)] prer_0 sufr_0, Ch.ro 0 (Sl a10 r3.2.1 c11) r3.2.1] ++ [Ch.bx n0 b13 0 [(Sl a6 r3.1.1 c7), (Sl a8 r3.1.2 c9)] [] [], Ch.own n0 n0 (Sl a6 r3.1.1 c7) r3.1.1, Ch.own n0 n0 (Sl a8 r3.1.2 c9) r3.1.2, Ch.ro 0 (Sl a10 r3.2.1 c11) r3.2.1, Ch.bx n0 b1 0 [(.slice none 0 0), (.slice none 0 0)] [] [], Ch.ro 0 (Sl ar_0_0 r_0.1 cr_0_0) r_0.1]) from (H.sel' [3, 4, 0, 1, 2, 4, 5, 6] rfl rfl))) wn ?_
 rintro _ σ21 ⟨_, ⟨a19, c20, rfl, rfl⟩, H, -⟩
 replace H : Hp S0 σ0 σ21 [Ch.bx lor_0 br_0 or_0 [(Sl a19 r16.2.1 c20), (I r16.2.2)] prer_0 sufr_0, Ch.ro 0 (Sl a19 r16.2.1 c20) r16.2.1, Ch.bx n0 b13 0 [(Sl a6 r3.1.1 c7), (Sl a8 r3.1.2 c9)] [] [], Ch.own n0 n0 (Sl a6 r3.1.1 c7) r3.1.1, Ch.own n0 n0 (Sl a8 r3.1.2 c9) r3.1.2, Ch.ro 0 (Sl a10 r3.2.1 c11) r3.2.1, Ch.bx n0 b1 0 [(.slice none 0 0), (.slice none 0 0)] [] [], Ch.ro 0 (Sl ar_0_0 r_0.1 cr_0_0) r_0.1] := H
 replace H : Hp S0 σ0 σ21 [Ch.bx lor_0 br_0 or_0 [(Sl a19 r16.2.1 c20), (I r16.2.2)] prer_0 sufr_0, Ch.ro 0 (Sl a19 r16.2.1 c20) r16.2.1, Ch.bx n0 b13 0 [(Sl a6 r3.1.1 c7), (Sl a8 r3.1.2 c9)] [] [], Ch.own n0 n0 (Sl a6 r3.1.1 c7) r3.1.1, Ch.own n0 n0 (Sl a8 r3.1.2 c9) r3.1.2, Ch.bx n0 b1 0 [(.slice none 0 0), (.slice none 0 0)] [] []] := H.sel' [0, 1, 2, 3, 4, 6] rfl rfl
 refine w_end ?_
 refine q_then ?_
 obtain ⟨o22, hj, h'⟩ := bind_some h
 clear h
 refine c_cut (fun e a w => e = .normal ∧ ∃ (ρ : Nat → Value) (σ : St) (aj1 : Option Addr) (cj2 : Nat) (aj3 : Option Addr) (cj4 : Nat) (aj5 : Option Addr) (cj6 : Nat), a = fr 35 (updL ρ [(0, (pt br_0 or_0)), (2, (pt b1 0)), (3, (pt b13 0))]) ∧ w = σ.w ∧ Hp S0 σ0 σ [Ch.bx lor_0 br_0 or_0 [(Sl aj1 o22.1.1 cj2), (I o22.1.2)] prer_0 sufr_0, Ch.ro 0 (Sl aj1 o22.1.1 cj2) o22.1.1, Ch.bx n0 b13 0 [(Sl aj3 o22.2.1 cj4), (Sl aj5 o22.2.2 cj6)] [] [], Ch.own n0 n0 (Sl aj3 o22.2.1 cj4) o22.2.1, Ch.own n0 n0 (Sl aj5 o22.2.2 cj6) o22.2.2, Ch.bx n0 b1 0 [(.slice none 0 0), (.slice none 0 0)] [] []]) ?_ ?_
 ·clear h'
  rename _ = some o22 => h
  refine c_blk ?_
  refine c_seq ?_
  refine rg ?_
  refine st (v := (B (r16.1 == 0))) (rv_eql (a := r16.1) (b := 0) rfl rfl) ?_
  refine st (v := (B (r16.1 == 0))) (rv_assign rfl) ?_
  refine w_end ?_
  refine q_then ?_
  refine cd_cond (r16.1 == 0) rfl (fun hb23 => ?_) (fun hb23 => ?_)
  ·replace h := bif_t hb23 h
   refine rg ?_
   refine st (v := (pt br_0 or_0)) (rv_move rfl) ?_
   refine st (v := (pt b13 1)) (rv_fieldAddr (off := 1) (ft := 24) Try.underlying26 rfl ti24 rfl rfl) ?_
   have hc24 := H.cell (u := (Sl a8 r3.1.2 c9)) (o' := 1) 2 1 rfl rfl rfl
   refine st (v := (Sl a8 r3.1.2 c9)) (rv_load1 Try.underlying24 rfl rfl hc24) ?_
   refine st_ex (ex_buildSlice (el := n0) (xs := ([1000] : List Int)) (ps := [(0, (I 1000))]) (cs := [(I 1000)]) H hn0 Try.underlying24 ti3 rfl rfl (by kernel_rfl) (.cons (c := [(I 1000)]) rfl (.nil)) rfl) wn ?_
   rintro _ σ26 ⟨b25, rfl, H, -⟩
   obtain ⟨xs27, hx28, h'⟩ := bind_some h
   clear h
   have h := h'; clear h'
   refine st_ex (ex_append H (i := 5) rfl Try.underlying24 Try.underlying24 ti3 rfl rfl (by decide) (H.own 0 rfl).rd hx28 hn0 rfl rfl) wn ?_
   rintro _ σ31 ⟨a29, c30, rfl, H, -⟩
   obtain ⟨σ32, hw33, H, -⟩ := H.pub 0 rfl (Nat.le_refl _)
   rw [← hw33]; clear hw33
   replace H := H.roLow 0 0 rfl (Nat.zero_le _)
   obtain ⟨r34, hx35, h'⟩ := bind_some h
   clear h
   have h := h'; clear h'
   have hc36 := c_spec_reader_spoil (lor_0 := lor_0) (br_0 := br_0) (or_0 := or_0) (prer_0 := prer_0) (sufr_0 := sufr_0) (ar_0_0 := a19) (cr_0_0 := c20) (alist_1 := a29) (clist_1 := c30) hx35
   refine st_call (cx_call hc36 (ent_f hc36.fn rfl) hn0 (show Hp S0 σ0 _ ([Ch.bx lor_0 br_0 or_0 [(Sl a19 r16.2.1 c20), (I r16.2.2)] prer_0 sufr_0, Ch.ro 0 (Sl a19 r16.2.1 c20) r16.2.1, Ch.ro 0 (Sl a29 xs27 c30) xs27] ++ [Ch.ro 0 (Sl a29 xs27 c30) xs27, Ch.ro n0 (Sl a29 xs27 c30) xs27, Ch.own n0 n0 (Sl (some ⟨b25, 0, none⟩) ([1000] : List Int) 1) ([1000] : List Int), Ch.ro 0 (Sl a19 r16.2.1 c20) r16.2.1, Ch.bx n0 b13 0 [(Sl a6 r3.1.1 c7), (Sl a8 r3.1.2 c9)] [] [], Ch.own n0 n0 (Sl a6 r3.1.1 c7) r3.1.1, Ch.bx n0 b1 0 [(.slice none 0 0), (.slice none 0 0)] [] []]) from (H.sel' [3, 4, 0, 0, 1, 2, 4, 5, 6, 7] rfl rfl))) wn ?_
   rintro _ σ41 ⟨_, ⟨a37, c38, a39, c40, rfl, rfl⟩, H, -⟩
   replace H : Hp S0 σ0 σ41 [Ch.own n0 n0 (Sl a37 r34.1 c38) r34.1, Ch.bx lor_0 br_0 or_0 [(Sl a39 r34.2.1 c40), (I r34.2.2)] prer_0 sufr_0, Ch.ro 0 (Sl a39 r34.2.1 c40) r34.2.1, Ch.ro 0 (Sl a29 xs27 c30) xs27, Ch.ro n0 (Sl a29 xs27 c30) xs27, Ch.own n0 n0 (Sl (some ⟨b25, 0, none⟩) ([1000] : List Int) 1) ([1000] : List Int), Ch.ro 0 (Sl a19 r16.2.1 c20) r16.2.1, Ch.bx n0 b13 0 [(Sl a6 r3.1.1 c7), (Sl a8 r3.1.2 c9)] [] [], Ch.own n0 n0 (Sl a6 r3.1.1 c7) r3.1.1, Ch.bx n0 b1 0 [(.slice none 0 0), (.slice none 0 0)] [] []] := H
   replace H : Hp S0 σ0 σ41 [Ch.own n0 n0 (Sl a37 r34.1 c38) r34.1, Ch.bx lor_0 br_0 or_0 [(Sl a39 r34.2.1 c40), (I r34.2.2)] prer_0 sufr_0, Ch.ro 0 (Sl a39 r34.2.1 c40) r34.2.1, Ch.bx n0 b13 0 [(Sl a6 r3.1.1 c7), (Sl a8 r3.1.2 c9)] [] [], Ch.own n0 n0 (Sl a6 r3.1.1 c7) r3.1.1, Ch.bx n0 b1 0 [(.slice none 0 0), (.slice none 0 0)] [] []] := H.sel' [0, 1, 2, 7, 8, 9] rfl rfl
   refine st (v := (pt b13 1)) (rv_fieldAddr (off := 1) (ft := 24) Try.underlying26 rfl ti24 rfl rfl) ?_
   refine st_exS (ex_store_box (k := 1) (cs := [(Sl a6 r3.1.1 c7), (Sl a8 r3.1.2 c9)]) (vs := [(Sl a37 r34.1 c38)]) (cs' := [(Sl a6 r3.1.1 c7), (Sl a37 r34.1 c38)]) H (i := 3) rfl ti24 rfl rfl rfl rfl rfl (Nat.le_of_ble_eq_true rfl) (by simp [plain]) rfl) wn ?_
   rintro σ42 ⟨H, -⟩
   refine w_end ?_
   refine q_blk ?_
   obtain rfl := Option.some.inj h
   exact ⟨rfl, _, σ42, a39, c40, a6, c7, a37, c38, fr_join ⟨rfl, rfl, rfl, trivial⟩, rfl, H.sel' [2, 3, 0, 4, 1, 5] rfl rfl⟩
  ·replace h := bif_f hb23 h
   refine c_seq ?_
   refine rg ?_
   refine st (v := (B (r16.1 == 1))) (rv_eql (a := r16.1) (b := 1) rfl rfl) ?_
   refine st (v := (B (r16.1 == 1))) (rv_assign rfl) ?_
   refine w_end ?_
   refine q_then ?_
   refine cd_cond (r16.1 == 1) rfl (fun hb43 => ?_) (fun hb43 => ?_)
   ·replace h := bif_t hb43 h
    refine c_seq ?_
    have hc44 := H.cell (u := (Sl a6 r3.1.1 c7)) (o' := 0) 2 0 rfl rfl rfl
    obtain ⟨r45, hx46, h'⟩ := bind_some h
    clear h
    have h := h'; clear h'
    have hc47 := c_spec_anyEntry (lor_0 := lor_0) (br_0 := br_0) (or_0 := or_0) (prer_0 := prer_0) (sufr_0 := sufr_0) (ar_0_0 := a19) (cr_0_0 := c20) hx46
    have Hs := H
    refine rg2 (σ := σ21) (Nm := (Option Addr) × (Nat) × (Option Addr) × (Nat) × (Nat)) 5 [3, 4] [[false, false], [true, false], [true, true]] [[(0, 0), (1, 1), (2, 2)], [(0, 0), (1, 1), (2, 2)], [(0, 0)], [(0, 1)], [(1, 2)]] 2 [fun ((a48, c49, a50, c51, b52) : (Option Addr) × (Nat) × (Option Addr) × (Nat) × (Nat)) => fun σm => Hp S0 σ0 σm [Ch.bx lor_0 br_0 or_0 [(Sl a19 r16.2.1 c20), (I r16.2.2)] prer_0 sufr_0, Ch.ro 0 (Sl a19 r16.2.1 c20) r16.2.1, Ch.bx n0 b13 0 [(Sl a6 r3.1.1 c7), (Sl a8 r3.1.2 c9)] [] [], Ch.own n0 n0 (Sl a6 r3.1.1 c7) r3.1.1, Ch.own n0 n0 (Sl a8 r3.1.2 c9) r3.1.2, Ch.bx n0 b1 0 [(.slice none 0 0), (.slice none 0 0)] [] []] ∧ Md (cov []) σ21 σm, fun ((a48, c49, a50, c51, b52) : (Option Addr) × (Nat) × (Option Addr) × (Nat) × (Nat)) => fun σm => Hp S0 σ0 σm [Ch.ro n0 (Sl a48 r45.1.2.2.1 c49) r45.1.2.2.1, Ch.bx lor_0 br_0 or_0 [(Sl a50 r45.2.1 c51), (I r45.2.2)] prer_0 sufr_0, Ch.ro 0 (Sl a50 r45.2.1 c51) r45.2.1, Ch.ro 0 (Sl a19 r16.2.1 c20) r16.2.1, Ch.bx n0 b13 0 [(Sl a6 r3.1.1 c7), (Sl a8 r3.1.2 c9)] [] [], Ch.own n0 n0 (Sl a6 r3.1.1 c7) r3.1.1, Ch.own n0 n0 (Sl a8 r3.1.2 c9) r3.1.2, Ch.bx n0 b1 0 [(.slice none 0 0), (.slice none 0 0)] [] []] ∧ Md (fun i => (cov []) i ∨ (fun i => (cov [Ch.bx lor_0 br_0 or_0 [(Sl a19 r16.2.1 c20), (I r16.2.2)] prer_0 sufr_0, Ch.ro 0 (Sl a19 r16.2.1 c20) r16.2.1]) i ∨ (fun b => blk (Sl a48 r45.1.2.2.1 c49) = some b) i) i) σ21 σm, fun ((a48, c49, a50, c51, b52) : (Option Addr) × (Nat) × (Option Addr) × (Nat) × (Nat)) => fun σm => Hp S0 σ0 σm [Ch.own n0 n0 (Sl (some ⟨b52, 0, none⟩) ([(r45.1.1, (r45.1.2.1, r45.1.2.2.1, r45.1.2.2.2))] : List (Int × (Int × (List Int) × Int))) 1) ([(r45.1.1, (r45.1.2.1, r45.1.2.2.1, r45.1.2.2.2))] : List (Int × (Int × (List Int) × Int))), Ch.ro n0 (Sl a48 r45.1.2.2.1 c49) r45.1.2.2.1, Ch.bx lor_0 br_0 or_0 [(Sl a50 r45.2.1 c51), (I r45.2.2)] prer_0 sufr_0, Ch.ro 0 (Sl a50 r45.2.1 c51) r45.2.1, Ch.ro 0 (Sl a19 r16.2.1 c20) r16.2.1, Ch.bx n0 b13 0 [(Sl a6 r3.1.1 c7), (Sl a8 r3.1.2 c9)] [] [], Ch.own n0 n0 (Sl a6 r3.1.1 c7) r3.1.1, Ch.own n0 n0 (Sl a8 r3.1.2 c9) r3.1.2, Ch.bx n0 b1 0 [(.slice none 0 0), (.slice none 0 0)] [] []] ∧ Md (fun i => (cov []) i ∨ (fun i => (cov [Ch.bx lor_0 br_0 or_0 [(Sl a19 r16.2.1 c20), (I r16.2.2)] prer_0 sufr_0, Ch.ro 0 (Sl a19 r16.2.1 c20) r16.2.1]) i ∨ (fun b => blk (Sl a48 r45.1.2.2.1 c49) = some b) i) i) σ21 σm] [fun ((a48, c49, a50, c51, b52) : (Option Addr) × (Nat) × (Option Addr) × (Nat) × (Nat)) => (pt b13 0), fun ((a48, c49, a50, c51, b52) : (Option Addr) × (Nat) × (Option Addr) × (Nat) × (Nat)) => (Sl a6 r3.1.1 c7), fun ((a48, c49, a50, c51, b52) : (Option Addr) × (Nat) × (Option Addr) × (Nat) × (Nat)) => (pt br_0 or_0), fun ((a48, c49, a50, c51, b52) : (Option Addr) × (Nat) × (Option Addr) × (Nat) × (Nat)) => (.agg #[(I r45.1.1), (I r45.1.2.1), (Sl a48 r45.1.2.2.1 c49), (I r45.1.2.2.2)]), fun ((a48, c49, a50, c51, b52) : (Option Addr) × (Nat) × (Option Addr) × (Nat) × (Nat)) => (Sl (some ⟨b52, 0, none⟩) ([(r45.1.1, (r45.1.2.1, r45.1.2.2.1, r45.1.2.2.2))] : List (Int × (Int × (List Int) × Int))) 1)] (none, 0, none, 0, 0) (by kernel_rfl) (by kernel_rfl) ?_ ?_ ?_
    ·intro σm m0
     exact ⟨H.grow (m0.mono fun _ h => h.elim), m0⟩
    ·refine ac rfl (by
       intro k; rintro ⟨a48, c49, a50, c51, b52⟩ ρ σm hJ hoff hdep
       have e3 := look_off (N := 35) (hoff 3 rfl) rfl
       exact dp_v (v := (pt b13 0)) wn (rv_fieldAddr (off := 0) (ft := 23) Try.underlying26 rfl ti23 rfl e3) rfl hJ) ?_
     refine all_cons (by
       refine ⟨?_, ?_⟩
       ·rintro ⟨a48, c49, a50, c51, b52⟩ ρ σm hJ hoff hdep
        have e19 := hdep 0 rfl rfl 19 rfl
        obtain ⟨H, m⟩ := id hJ
        have hc44 := H.cell (u := (Sl a6 r3.1.1 c7)) (o' := 0) 2 0 rfl rfl rfl
        exact dp_v (v := (Sl a6 r3.1.1 c7)) wn (rv_load1 Try.underlying23 rfl e19 hc44) rfl hJ
       refine ⟨?_, ?_⟩
       ·rintro ⟨a48, c49, a50, c51, b52⟩ ρ σm hJ hoff hdep
        have e19 := hdep 0 rfl rfl 19 rfl
        obtain ⟨H, m⟩ := id hJ
        have hc44 := H.cell (u := (Sl a6 r3.1.1 c7)) (o' := 0) 4 0 rfl rfl rfl
        exact dp_v (v := (Sl a6 r3.1.1 c7)) wn (rv_load1 Try.underlying23 rfl e19 hc44) rfl hJ
       refine ⟨?_, ?_⟩
       ·rintro ⟨a48, c49, a50, c51, b52⟩ ρ σm hJ hoff hdep
        have e19 := hdep 0 rfl rfl 19 rfl
        obtain ⟨H, m⟩ := id hJ
        have hc44 := H.cell (u := (Sl a6 r3.1.1 c7)) (o' := 0) 5 0 rfl rfl rfl
        exact dp_v (v := (Sl a6 r3.1.1 c7)) wn (rv_load1 Try.underlying23 rfl e19 hc44) rfl hJ
       trivial) ?_
     refine ac rfl (by
       intro k; rintro ⟨a48, c49, a50, c51, b52⟩ ρ σm hJ hoff hdep
       have e0 := look_off (N := 35) (hoff 0 rfl) rfl
       exact dp_v (v := (pt br_0 or_0)) wn (rv_move e0) rfl hJ) ?_
     refine all_cons (by
       refine ⟨?_, ?_⟩
       ·rintro ⟨a48, c49, a50, c51, b52⟩ ρ σm hJ hoff hdep
        have e21 : look 35 ρ 21 = (pt br_0 or_0) := hdep 2 rfl rfl 21 rfl
        obtain ⟨H, m⟩ := id hJ
        refine dp_cx wn (cx_call hc47 (ent_f hc47.fn (by show [look 35 ρ 21] = _; rw [e21])) hn0 (show Hp S0 σ0 _ ([Ch.bx lor_0 br_0 or_0 [(Sl a19 r16.2.1 c20), (I r16.2.2)] prer_0 sufr_0, Ch.ro 0 (Sl a19 r16.2.1 c20) r16.2.1] ++ [Ch.ro 0 (Sl a19 r16.2.1 c20) r16.2.1, Ch.bx n0 b13 0 [(Sl a6 r3.1.1 c7), (Sl a8 r3.1.2 c9)] [] [], Ch.own n0 n0 (Sl a6 r3.1.1 c7) r3.1.1, Ch.own n0 n0 (Sl a8 r3.1.2 c9) r3.1.2, Ch.bx n0 b1 0 [(.slice none 0 0), (.slice none 0 0)] [] []]) from (H.sel' [0, 1, 1, 2, 3, 4, 5] rfl rfl))) ?_
        rintro _ σq ⟨_, ⟨a48x, c49x, a50x, c51x, rfl, rfl⟩, H2, m2⟩
        obtain ⟨σr0, hwr0, H2, mr0⟩ := H2.pub 0 rfl (Nat.le_refl _)
        exact ⟨_, (a48x, c49x, a50x, c51x, b52), hwr0, rfl, ⟨H2.sel' [0, 1, 2, 3, 4, 5, 6, 7] rfl rfl, m.comp (m2.comp mr0)⟩, stab [0, 1, 2] (by kernel_rfl) ⟨rfl, rfl, rfl, trivial⟩⟩
       trivial) ?_
     refine all_cons (by
       refine ⟨?_, ?_⟩
       ·rintro ⟨a48, c49, a50, c51, b52⟩ ρ σm hJ hoff hdep
        have e22 : look 35 ρ 22 = (.agg #[(I r45.1.1), (I r45.1.2.1), (Sl a48 r45.1.2.2.1 c49), (I r45.1.2.2.2)]) := hdep 3 rfl rfl 22 rfl
        obtain ⟨H, m⟩ := id hJ
        refine dp_ex wn (ex_buildSlice (el := n0) (xs := ([(r45.1.1, (r45.1.2.1, r45.1.2.2.1, r45.1.2.2.2))] : List (Int × (Int × (List Int) × Int)))) (ps := [(0, (.agg #[(I r45.1.1), (I r45.1.2.1), (Sl a48 r45.1.2.2.1 c49), (I r45.1.2.2.2)]))]) (cs := [(I r45.1.1), (I r45.1.2.1), (Sl a48 r45.1.2.2.1 c49), (I r45.1.2.2.2)]) H hn0 Try.underlying23 ti43 rfl (by show [(0, look 35 ρ 22)] = _; rw [e22]) (by kernel_rfl) (.cons (c := [(I r45.1.1), (I r45.1.2.1), (Sl a48 r45.1.2.2.1 c49), (I r45.1.2.2.2)]) ⟨[(I r45.1.1)], [(I r45.1.2.1), (Sl a48 r45.1.2.2.1 c49), (I r45.1.2.2.2)], rfl, rfl, ⟨[(I r45.1.2.1)], [(Sl a48 r45.1.2.2.1 c49), (I r45.1.2.2.2)], rfl, rfl, ⟨[(Sl a48 r45.1.2.2.1 c49)], [(I r45.1.2.2.2)], rfl, ⟨_, rfl, (H.ro 0 rfl)⟩, rfl⟩⟩⟩ (.nil)) rfl) ?_
        rintro _ σq ⟨b52x, rfl, H2, m2⟩
        exact ⟨_, (a48, c49, a50, c51, b52x), rfl, rfl, ⟨H2.sel' [0, 1, 2, 3, 4, 5, 6, 7, 8] rfl rfl, m.comp0 m2⟩, stab [0, 1, 2, 3] (by kernel_rfl) ⟨rfl, rfl, rfl, rfl, trivial⟩⟩
       trivial) ?_
     exact all_nil
    ·rintro ⟨a48, c49, a50, c51, b52⟩ ρ σ53 hJ hoff hrel
     have e0 := look_off (N := 35) (hoff 0 rfl) rfl
     have e2 := look_off (N := 35) (hoff 2 rfl) rfl
     have e3 := look_off (N := 35) (hoff 3 rfl) rfl
     have e20 := hrel 1 rfl 20 rfl
     have e23 := hrel 4 rfl 23 rfl
     obtain ⟨H, -⟩ := (show Hp S0 σ0 σ53 [Ch.own n0 n0 (Sl (some ⟨b52, 0, none⟩) ([(r45.1.1, (r45.1.2.1, r45.1.2.2.1, r45.1.2.2.2))] : List (Int × (Int × (List Int) × Int))) 1) ([(r45.1.1, (r45.1.2.1, r45.1.2.2.1, r45.1.2.2.2))] : List (Int × (Int × (List Int) × Int))), Ch.ro n0 (Sl a48 r45.1.2.2.1 c49) r45.1.2.2.1, Ch.bx lor_0 br_0 or_0 [(Sl a50 r45.2.1 c51), (I r45.2.2)] prer_0 sufr_0, Ch.ro 0 (Sl a50 r45.2.1 c51) r45.2.1, Ch.ro 0 (Sl a19 r16.2.1 c20) r16.2.1, Ch.bx n0 b13 0 [(Sl a6 r3.1.1 c7), (Sl a8 r3.1.2 c9)] [] [], Ch.own n0 n0 (Sl a6 r3.1.1 c7) r3.1.1, Ch.own n0 n0 (Sl a8 r3.1.2 c9) r3.1.2, Ch.bx n0 b1 0 [(.slice none 0 0), (.slice none 0 0)] [] []] ∧ Md (fun i => (cov []) i ∨ (fun i => (cov [Ch.bx lor_0 br_0 or_0 [(Sl a19 r16.2.1 c20), (I r16.2.2)] prer_0 sufr_0, Ch.ro 0 (Sl a19 r16.2.1 c20) r16.2.1]) i ∨ (fun b => blk (Sl a48 r45.1.2.2.1 c49) = some b) i) i) σ21 σ53 from hJ)
     clear hJ Hs
     rw [fr_lookL (L := [(0, (pt br_0 or_0)), (2, (pt b1 0)), (3, (pt b13 0)), (20, (Sl a6 r3.1.1 c7)), (23, (Sl (some ⟨b52, 0, none⟩) ([(r45.1.1, (r45.1.2.1, r45.1.2.2.1, r45.1.2.2.2))] : List (Int × (Int × (List Int) × Int))) 1))]) ⟨e0, e2, e3, e20, e23, trivial⟩]
     clear hoff hrel e0 e2 e3 e20 e23
     obtain ⟨xs54, hx55, h'⟩ := bind_some h
     clear h
     have h := h'; clear h'
     refine st_ex (ex_append H (i := 6) rfl Try.underlying23 Try.underlying23 ti43 rfl rfl (by decide) (H.own 0 rfl).rd hx55 hn0 rfl rfl) wn ?_
     rintro _ σ58 ⟨a56, c57, rfl, H, -⟩
     replace H : Hp S0 σ0 σ58 [Ch.own n0 n0 (Sl a56 xs54 c57) xs54, Ch.bx lor_0 br_0 or_0 [(Sl a50 r45.2.1 c51), (I r45.2.2)] prer_0 sufr_0, Ch.ro 0 (Sl a50 r45.2.1 c51) r45.2.1, Ch.bx n0 b13 0 [(Sl a6 r3.1.1 c7), (Sl a8 r3.1.2 c9)] [] [], Ch.own n0 n0 (Sl a8 r3.1.2 c9) r3.1.2, Ch.bx n0 b1 0 [(.slice none 0 0), (.slice none 0 0)] [] []] := H.sel' [0, 3, 4, 6, 7, 8] rfl rfl
     refine st (v := (pt b13 0)) (rv_fieldAddr (off := 0) (ft := 23) Try.underlying26 rfl ti23 rfl rfl) ?_
     refine st_exS (ex_store_box (k := 0) (cs := [(Sl a6 r3.1.1 c7), (Sl a8 r3.1.2 c9)]) (vs := [(Sl a56 xs54 c57)]) (cs' := [(Sl a56 xs54 c57), (Sl a8 r3.1.2 c9)]) H (i := 3) rfl ti23 rfl rfl rfl rfl rfl (Nat.le_of_ble_eq_true rfl) (by simp [plain]) rfl) wn ?_
     rintro σ59 ⟨H, -⟩
     refine w_end ?_
     refine q_then ?_
     have hc60 := H.cell (u := (Sl a8 r3.1.2 c9)) (o' := 1) 0 1 rfl rfl rfl
     obtain ⟨r62, hx63, h'⟩ := bind_some h
     clear h
     have h := h'; clear h'
     have hc64 := fun (b61 : Nat) => c_spec_reader_one (lor_0 := lor_0) (br_0 := br_0) (or_0 := or_0) (prer_0 := prer_0) (sufr_0 := sufr_0) (ar_0_0 := a50) (cr_0_0 := c51) (alist_1 := (some ⟨b61, 0, none⟩)) (clist_1 := 2) hx63
     have Hs := H
     refine rg2 (σ := σ59) (Nm := (Nat) × (Option Addr) × (Nat) × (Nat)) 6 [3, 4, 5] [[false, false, false], [true, false, false], [true, true, false], [true, true, true]] [[(0, 0), (1, 1), (2, 2), (3, 3)], [(0, 0), (1, 1), (2, 2), (3, 3)], [(0, 0), (1, 1)], [(0, 1)], [(1, 2)], [(2, 3)]] 3 [fun ((b61, a65, c66, b67) : (Nat) × (Option Addr) × (Nat) × (Nat)) => fun σm => Hp S0 σ0 σm [Ch.bx n0 b13 0 [(Sl a56 xs54 c57), (Sl a8 r3.1.2 c9)] [] [], Ch.own n0 n0 (Sl a56 xs54 c57) xs54, Ch.bx lor_0 br_0 or_0 [(Sl a50 r45.2.1 c51), (I r45.2.2)] prer_0 sufr_0, Ch.ro 0 (Sl a50 r45.2.1 c51) r45.2.1, Ch.own n0 n0 (Sl a8 r3.1.2 c9) r3.1.2, Ch.bx n0 b1 0 [(.slice none 0 0), (.slice none 0 0)] [] []] ∧ Md (cov []) σ59 σm, fun ((b61, a65, c66, b67) : (Nat) × (Option Addr) × (Nat) × (Nat)) => fun σm => Hp S0 σ0 σm [Ch.ro 0 (Sl (some ⟨b61, 0, none⟩) ([0, 900] : List Int) 2) ([0, 900] : List Int), Ch.bx n0 b13 0 [(Sl a56 xs54 c57), (Sl a8 r3.1.2 c9)] [] [], Ch.own n0 n0 (Sl a56 xs54 c57) xs54, Ch.bx lor_0 br_0 or_0 [(Sl a50 r45.2.1 c51), (I r45.2.2)] prer_0 sufr_0, Ch.ro 0 (Sl a50 r45.2.1 c51) r45.2.1, Ch.own n0 n0 (Sl a8 r3.1.2 c9) r3.1.2, Ch.bx n0 b1 0 [(.slice none 0 0), (.slice none 0 0)] [] []] ∧ Md (fun i => (cov []) i ∨ (fun i => (cov []) i ∨ (fun b => blk (Sl (some ⟨b61, 0, none⟩) ([0, 900] : List Int) 2) = some b) i) i) σ59 σm, fun ((b61, a65, c66, b67) : (Nat) × (Option Addr) × (Nat) × (Nat)) => fun σm => Hp S0 σ0 σm [Ch.bx lor_0 br_0 or_0 [(Sl a65 r62.2.1 c66), (I r62.2.2)] prer_0 sufr_0, Ch.ro 0 (Sl a65 r62.2.1 c66) r62.2.1, Ch.ro 0 (Sl (some ⟨b61, 0, none⟩) ([0, 900] : List Int) 2) ([0, 900] : List Int), Ch.bx n0 b13 0 [(Sl a56 xs54 c57), (Sl a8 r3.1.2 c9)] [] [], Ch.own n0 n0 (Sl a56 xs54 c57) xs54, Ch.ro 0 (Sl a50 r45.2.1 c51) r45.2.1, Ch.own n0 n0 (Sl a8 r3.1.2 c9) r3.1.2, Ch.bx n0 b1 0 [(.slice none 0 0), (.slice none 0 0)] [] []] ∧ Md (fun i => (fun i => (cov []) i ∨ (fun i => (cov []) i ∨ (fun b => blk (Sl (some ⟨b61, 0, none⟩) ([0, 900] : List Int) 2) = some b) i) i) i ∨ (cov [Ch.bx lor_0 br_0 or_0 [(Sl a50 r45.2.1 c51), (I r45.2.2)] prer_0 sufr_0, Ch.ro 0 (Sl a50 r45.2.1 c51) r45.2.1, Ch.ro 0 (Sl (some ⟨b61, 0, none⟩) ([0, 900] : List Int) 2) ([0, 900] : List Int)]) i) σ59 σm, fun ((b61, a65, c66, b67) : (Nat) × (Option Addr) × (Nat) × (Nat)) => fun σm => Hp S0 σ0 σm [Ch.own n0 n0 (Sl (some ⟨b67, 0, none⟩) ([r62.1] : List Int) 1) ([r62.1] : List Int), Ch.bx lor_0 br_0 or_0 [(Sl a65 r62.2.1 c66), (I r62.2.2)] prer_0 sufr_0, Ch.ro 0 (Sl a65 r62.2.1 c66) r62.2.1, Ch.ro 0 (Sl (some ⟨b61, 0, none⟩) ([0, 900] : List Int) 2) ([0, 900] : List Int), Ch.bx n0 b13 0 [(Sl a56 xs54 c57), (Sl a8 r3.1.2 c9)] [] [], Ch.own n0 n0 (Sl a56 xs54 c57) xs54, Ch.ro 0 (Sl a50 r45.2.1 c51) r45.2.1, Ch.own n0 n0 (Sl a8 r3.1.2 c9) r3.1.2, Ch.bx n0 b1 0 [(.slice none 0 0), (.slice none 0 0)] [] []] ∧ Md (fun i => (fun i => (cov []) i ∨ (fun i => (cov []) i ∨ (fun b => blk (Sl (some ⟨b61, 0, none⟩) ([0, 900] : List Int) 2) = some b) i) i) i ∨ (cov [Ch.bx lor_0 br_0 or_0 [(Sl a50 r45.2.1 c51), (I r45.2.2)] prer_0 sufr_0, Ch.ro 0 (Sl a50 r45.2.1 c51) r45.2.1, Ch.ro 0 (Sl (some ⟨b61, 0, none⟩) ([0, 900] : List Int) 2) ([0, 900] : List Int)]) i) σ59 σm] [fun ((b61, a65, c66, b67) : (Nat) × (Option Addr) × (Nat) × (Nat)) => (pt b13 1), fun ((b61, a65, c66, b67) : (Nat) × (Option Addr) × (Nat) × (Nat)) => (Sl a8 r3.1.2 c9), fun ((b61, a65, c66, b67) : (Nat) × (Option Addr) × (Nat) × (Nat)) => (pt br_0 or_0), fun ((b61, a65, c66, b67) : (Nat) × (Option Addr) × (Nat) × (Nat)) => (Sl (some ⟨b61, 0, none⟩) ([0, 900] : List Int) 2), fun ((b61, a65, c66, b67) : (Nat) × (Option Addr) × (Nat) × (Nat)) => (I r62.1), fun ((b61, a65, c66, b67) : (Nat) × (Option Addr) × (Nat) × (Nat)) => (Sl (some ⟨b67, 0, none⟩) ([r62.1] : List Int) 1)] (0, none, 0, 0) (by kernel_rfl) (by kernel_rfl) ?_ ?_ ?_
     ·intro σm m0
      exact ⟨H.grow (m0.mono fun _ h => h.elim), m0⟩
     ·refine ac rfl (by
        intro k; rintro ⟨b61, a65, c66, b67⟩ ρ σm hJ hoff hdep
        have e3 := look_off (N := 35) (hoff 3 rfl) rfl
        exact dp_v (v := (pt b13 1)) wn (rv_fieldAddr (off := 1) (ft := 24) Try.underlying26 rfl ti24 rfl e3) rfl hJ) ?_
      refine all_cons (by
        refine ⟨?_, ?_⟩
        ·rintro ⟨b61, a65, c66, b67⟩ ρ σm hJ hoff hdep
         have e26 := hdep 0 rfl rfl 26 rfl
         obtain ⟨H, m⟩ := id hJ
         have hc60 := H.cell (u := (Sl a8 r3.1.2 c9)) (o' := 1) 0 1 rfl rfl rfl
         exact dp_v (v := (Sl a8 r3.1.2 c9)) wn (rv_load1 Try.underlying24 rfl e26 hc60) rfl hJ
        refine ⟨?_, ?_⟩
        ·rintro ⟨b61, a65, c66, b67⟩ ρ σm hJ hoff hdep
         have e26 := hdep 0 rfl rfl 26 rfl
         obtain ⟨H, m⟩ := id hJ
         have hc60 := H.cell (u := (Sl a8 r3.1.2 c9)) (o' := 1) 1 1 rfl rfl rfl
         exact dp_v (v := (Sl a8 r3.1.2 c9)) wn (rv_load1 Try.underlying24 rfl e26 hc60) rfl hJ
        refine ⟨?_, ?_⟩
        ·rintro ⟨b61, a65, c66, b67⟩ ρ σm hJ hoff hdep
         have e26 := hdep 0 rfl rfl 26 rfl
         obtain ⟨H, m⟩ := id hJ
         have hc60 := H.cell (u := (Sl a8 r3.1.2 c9)) (o' := 1) 3 1 rfl rfl rfl
         exact dp_v (v := (Sl a8 r3.1.2 c9)) wn (rv_load1 Try.underlying24 rfl e26 hc60) rfl hJ
        refine ⟨?_, ?_⟩
        ·rintro ⟨b61, a65, c66, b67⟩ ρ σm hJ hoff hdep
         have e26 := hdep 0 rfl rfl 26 rfl
         obtain ⟨H, m⟩ := id hJ
         have hc60 := H.cell (u := (Sl a8 r3.1.2 c9)) (o' := 1) 4 1 rfl rfl rfl
         exact dp_v (v := (Sl a8 r3.1.2 c9)) wn (rv_load1 Try.underlying24 rfl e26 hc60) rfl hJ
        trivial) ?_
      refine ac rfl (by
        intro k; rintro ⟨b61, a65, c66, b67⟩ ρ σm hJ hoff hdep
        have e0 := look_off (N := 35) (hoff 0 rfl) rfl
        exact dp_v (v := (pt br_0 or_0)) wn (rv_move e0) rfl hJ) ?_
      refine all_cons (by
        refine ⟨?_, ?_⟩
        ·rintro ⟨b61, a65, c66, b67⟩ ρ σm hJ hoff hdep
         obtain ⟨H, m⟩ := id hJ
         refine dp_ex wn (ex_buildSlice (el := 0) (xs := ([0, 900] : List Int)) (ps := [(0, (I 0)), (1, (I 900))]) (cs := [(I 0), (I 900)]) H hn0 Try.underlying24 ti3 rfl rfl (by kernel_rfl) (.cons (c := [(I 0)]) rfl (.cons (c := [(I 900)]) rfl (.nil))) rfl) ?_
         rintro _ σq ⟨b61x, rfl, H2, m2⟩
         obtain ⟨σr0, hwr0, H2, mr0⟩ := H2.pub 0 rfl (Nat.zero_le _)
         exact ⟨_, (b61x, a65, c66, b67), hwr0, rfl, ⟨H2.sel' [0, 1, 2, 3, 4, 5, 6] rfl rfl, m.comp (m2.comp mr0)⟩, stab [0, 1, 2] (by kernel_rfl) ⟨rfl, rfl, rfl, trivial⟩⟩
        trivial) ?_
      refine all_cons (by
        refine ⟨?_, ?_⟩
        ·rintro ⟨b61, a65, c66, b67⟩ ρ σm hJ hoff hdep
         have e28 : look 35 ρ 28 = (pt br_0 or_0) := hdep 2 rfl rfl 28 rfl
         have e29 : look 35 ρ 29 = (Sl (some ⟨b61, 0, none⟩) ([0, 900] : List Int) 2) := hdep 3 rfl rfl 29 rfl
         obtain ⟨H, m⟩ := id hJ
         refine dp_cx wn (cx_call (hc64 b61) (ent_f (hc64 b61).fn (by show [look 35 ρ 28, look 35 ρ 29] = _; rw [e28, e29])) hn0 (show Hp S0 σ0 _ ([Ch.bx lor_0 br_0 or_0 [(Sl a50 r45.2.1 c51), (I r45.2.2)] prer_0 sufr_0, Ch.ro 0 (Sl a50 r45.2.1 c51) r45.2.1, Ch.ro 0 (Sl (some ⟨b61, 0, none⟩) ([0, 900] : List Int) 2) ([0, 900] : List Int)] ++ [Ch.ro 0 (Sl (some ⟨b61, 0, none⟩) ([0, 900] : List Int) 2) ([0, 900] : List Int), Ch.bx n0 b13 0 [(Sl a56 xs54 c57), (Sl a8 r3.1.2 c9)] [] [], Ch.own n0 n0 (Sl a56 xs54 c57) xs54, Ch.ro 0 (Sl a50 r45.2.1 c51) r45.2.1, Ch.own n0 n0 (Sl a8 r3.1.2 c9) r3.1.2, Ch.bx n0 b1 0 [(.slice none 0 0), (.slice none 0 0)] [] []]) from (H.sel' [3, 4, 0, 0, 1, 2, 4, 5, 6] rfl rfl))) ?_
         rintro _ σq ⟨_, ⟨a65x, c66x, rfl, rfl⟩, H2, m2⟩
         exact ⟨_, (b61, a65x, c66x, b67), rfl, rfl, ⟨H2.sel' [0, 1, 2, 3, 4, 5, 6, 7] rfl rfl, m.comp m2⟩, stab [0, 1, 2, 3] (by kernel_rfl) ⟨rfl, rfl, rfl, rfl, trivial⟩⟩
        trivial) ?_
      refine all_cons (by
        refine ⟨?_, ?_⟩
        ·rintro ⟨b61, a65, c66, b67⟩ ρ σm hJ hoff hdep
         have e30 : look 35 ρ 30 = (I r62.1) := hdep 4 rfl rfl 30 rfl
         obtain ⟨H, m⟩ := id hJ
         refine dp_ex wn (ex_buildSlice (el := n0) (xs := ([r62.1] : List Int)) (ps := [(0, (I r62.1))]) (cs := [(I r62.1)]) H hn0 Try.underlying24 ti3 rfl (by show [(0, look 35 ρ 30)] = _; rw [e30]) (by kernel_rfl) (.cons (c := [(I r62.1)]) rfl (.nil)) rfl) ?_
         rintro _ σq ⟨b67x, rfl, H2, m2⟩
         exact ⟨_, (b61, a65, c66, b67x), rfl, rfl, ⟨H2.sel' [0, 1, 2, 3, 4, 5, 6, 7, 8] rfl rfl, m.comp0 m2⟩, stab [0, 1, 2, 3, 4] (by kernel_rfl) ⟨rfl, rfl, rfl, rfl, rfl, trivial⟩⟩
        trivial) ?_
      exact all_nil
     ·rintro ⟨b61, a65, c66, b67⟩ ρ σ68 hJ hoff hrel
      have e0 := look_off (N := 35) (hoff 0 rfl) rfl
      have e2 := look_off (N := 35) (hoff 2 rfl) rfl
      have e3 := look_off (N := 35) (hoff 3 rfl) rfl
      have e27 := hrel 1 rfl 27 rfl
      have e31 := hrel 5 rfl 31 rfl
      obtain ⟨H, -⟩ := (show Hp S0 σ0 σ68 [Ch.own n0 n0 (Sl (some ⟨b67, 0, none⟩) ([r62.1] : List Int) 1) ([r62.1] : List Int), Ch.bx lor_0 br_0 or_0 [(Sl a65 r62.2.1 c66), (I r62.2.2)] prer_0 sufr_0, Ch.ro 0 (Sl a65 r62.2.1 c66) r62.2.1, Ch.ro 0 (Sl (some ⟨b61, 0, none⟩) ([0, 900] : List Int) 2) ([0, 900] : List Int), Ch.bx n0 b13 0 [(Sl a56 xs54 c57), (Sl a8 r3.1.2 c9)] [] [], Ch.own n0 n0 (Sl a56 xs54 c57) xs54, Ch.ro 0 (Sl a50 r45.2.1 c51) r45.2.1, Ch.own n0 n0 (Sl a8 r3.1.2 c9) r3.1.2, Ch.bx n0 b1 0 [(.slice none 0 0), (.slice none 0 0)] [] []] ∧ Md (fun i => (fun i => (cov []) i ∨ (fun i => (cov []) i ∨ (fun b => blk (Sl (some ⟨b61, 0, none⟩) ([0, 900] : List Int) 2) = some b) i) i) i ∨ (cov [Ch.bx lor_0 br_0 or_0 [(Sl a50 r45.2.1 c51), (I r45.2.2)] prer_0 sufr_0, Ch.ro 0 (Sl a50 r45.2.1 c51) r45.2.1, Ch.ro 0 (Sl (some ⟨b61, 0, none⟩) ([0, 900] : List Int) 2) ([0, 900] : List Int)]) i) σ59 σ68 from hJ)
      clear hJ Hs
      rw [fr_lookL (L := [(0, (pt br_0 or_0)), (2, (pt b1 0)), (3, (pt b13 0)), (27, (Sl a8 r3.1.2 c9)), (31, (Sl (some ⟨b67, 0, none⟩) ([r62.1] : List Int) 1))]) ⟨e0, e2, e3, e27, e31, trivial⟩]
      clear hoff hrel e0 e2 e3 e27 e31
      obtain ⟨xs69, hx70, h'⟩ := bind_some h
      clear h
      have h := h'; clear h'
      refine st_ex (ex_append H (i := 7) rfl Try.underlying24 Try.underlying24 ti3 rfl rfl (by decide) (H.own 0 rfl).rd hx70 hn0 rfl rfl) wn ?_
      rintro _ σ73 ⟨a71, c72, rfl, H, -⟩
      replace H : Hp S0 σ0 σ73 [Ch.own n0 n0 (Sl a71 xs69 c72) xs69, Ch.bx lor_0 br_0 or_0 [(Sl a65 r62.2.1 c66), (I r62.2.2)] prer_0 sufr_0, Ch.ro 0 (Sl a65 r62.2.1 c66) r62.2.1, Ch.bx n0 b13 0 [(Sl a56 xs54 c57), (Sl a8 r3.1.2 c9)] [] [], Ch.own n0 n0 (Sl a56 xs54 c57) xs54, Ch.bx n0 b1 0 [(.slice none 0 0), (.slice none 0 0)] [] []] := H.sel' [0, 2, 3, 5, 6, 8] rfl rfl
      refine st (v := (pt b13 1)) (rv_fieldAddr (off := 1) (ft := 24) Try.underlying26 rfl ti24 rfl rfl) ?_
      refine st_exS (ex_store_box (k := 1) (cs := [(Sl a56 xs54 c57), (Sl a8 r3.1.2 c9)]) (vs := [(Sl a71 xs69 c72)]) (cs' := [(Sl a56 xs54 c57), (Sl a71 xs69 c72)]) H (i := 3) rfl ti24 rfl rfl rfl rfl rfl (Nat.le_of_ble_eq_true rfl) (by simp [plain]) rfl) wn ?_
      rintro σ74 ⟨H, -⟩
      refine w_end ?_
      refine q_blk ?_
      obtain rfl := Option.some.inj h
      exact ⟨rfl, _, σ74, a65, c66, a56, c57, a71, c72, fr_join ⟨rfl, rfl, rfl, trivial⟩, rfl, H.sel' [2, 3, 0, 4, 1, 5] rfl rfl⟩
   ·replace h := bif_f hb43 h
    refine c_skip ?_
    refine q_blk ?_
    obtain rfl := Option.some.inj h
    exact ⟨rfl, _, σ21, a19, c20, a6, c7, a8, c9, fr_join ⟨rfl, rfl, rfl, trivial⟩, rfl, H.sel' [0, 1, 2, 3, 4, 5] rfl rfl⟩
 ·clear hj
  have h := h'
  clear h' H
  rintro e a w ⟨rfl, ρ, σ75, a76, c77, a78, c79, a80, c81, rfl, rfl, H⟩
  refine q_then ?_
  refine c_seq ?_
  refine rg ?_
  have hc82 := H.cells 2 rfl
  refine st (v := (.agg #[(Sl a78 o22.2.1 c79), (Sl a80 o22.2.2 c81)])) (rv_load (cs := [(Sl a78 o22.2.1 c79), (Sl a80 o22.2.2 c81)]) Try.underlying26 rfl ti26 rfl rfl hc82) ?_
  refine st_exS (ex_store_box (k := 0) (cs := [(.slice none 0 0), (.slice none 0 0)]) (vs := [(Sl a78 o22.2.1 c79), (Sl a80 o22.2.2 c81)]) (cs' := [(Sl a78 o22.2.1 c79), (Sl a80 o22.2.2 c81)]) H (i := 5) rfl ti26 rfl rfl rfl rfl rfl (Nat.le_of_ble_eq_true rfl) (by simp [plain]) rfl) wn ?_
  rintro σ83 ⟨H, -⟩
  refine w_end ?_
  refine q_then ?_
  refine c_ret ?_
  obtain rfl := Option.some.inj h
  exact fin_ret (v := (.agg #[(Sl a78 o22.2.1 c79), (Sl a80 o22.2.2 c81)])) (results_ok Try.results40 (res_cell rfl (run_cellRes (cs := [(Sl a78 o22.2.1 c79), (Sl a80 o22.2.2 c81)]) Try.underlying26 rfl ti26 rfl (H.cells 0 rfl)) res_nil) rfl) ⟨a78, c79, a80, c81, a76, c77, rfl, rfl⟩ (H.sel' [4, 5, 1, 2] rfl rfl)

theorem c_spec_newReader {code_0 : List UInt8} {acode_0 : Option Addr} {ccode_0 : Nat} {r : ((List UInt8) × Int)} (h : M.spec_newReader code_0 = some r) :
    Cal2 Try.prog 41 [(Sl acode_0 code_0 ccode_0)] [Ch.ro 0 (Sl acode_0 code_0 ccode_0) code_0] (fun n0 v L => ∃ (bz1 : Nat), ∃ (az2 : Option Addr), ∃ (cz3 : Nat), v = (pt bz1 0) ∧ L = [Ch.bx n0 bz1 0 [(Sl az2 r.1 cz3), (I r.2)] [] [], Ch.ro 0 (Sl az2 r.1 cz3) r.1]) := by
 refine cal2 (n := 11) Try.func41 rfl rfl rfl rfl ?_
 intro S0 σ0 n0 hn0 H
 unfold M.spec_newReader at h
 refine c_seq ?_
 refine rg ?_
 refine st (v := (.pointer none)) (rv_assign rfl) ?_
 refine w_end ?_
 refine q_then ?_
 refine c_seq ?_
 refine c_seq ?_
 refine rg ?_
 refine st (v := (Sl acode_0 code_0 ccode_0)) (rv_move rfl) ?_
 refine st (v := (I (code_0.length : Int))) (rv_len Try.underlying22 rfl) ?_
 refine st (v := (B (decide (2000 < (code_0.length : Int))))) (rv_gtr (a := (code_0.length : Int)) (b := 2000) rfl rfl) ?_
 refine w_end ?_
 refine q_then ?_
 obtain ⟨o1, hj, h'⟩ := bind_some h
 clear h
 refine c_cut (fun e a w => e = .normal ∧ ∃ (ρ : Nat → Value) (σ : St) (aj1 : Option Addr) (cj2 : Nat), a = fr 11 (updL ρ [(0, (Sl aj1 o1 cj2))]) ∧ w = σ.w ∧ Hp S0 σ0 σ [Ch.ro 0 (Sl aj1 o1 cj2) o1]) ?_ ?_
 ·clear h'
  rename _ = some o1 => h
  refine cd_cond (decide (2000 < (code_0.length : Int))) rfl (fun hb2 => ?_) (fun hb2 => ?_)
  ·replace h := bif_t hb2 h
   refine rg ?_
   refine st (v := (Sl acode_0 code_0 ccode_0)) (rv_move rfl) ?_
   obtain ⟨xs3, hx4, h'⟩ := bind_some h
   clear h
   have h := h'; clear h'
   obtain ⟨a5, c6, hs7, hR8⟩ := (H.ro 0 rfl).slice hx4
   replace H := H.add (d := Ch.ro 0 (Sl a5 xs3 c6) xs3) hR8 (fun _ h => h)
   clear hR8
   refine st (v := (Sl a5 xs3 c6)) (rv_slice_h Try.underlying22 ti5 hs7 rfl rfl) ?_
   refine st (v := (Sl a5 xs3 c6)) (rv_assign rfl) ?_
   refine w_end ?_
   obtain rfl := Option.some.inj h
   exact ⟨rfl, _, σ0, a5, c6, fr_join ⟨rfl, trivial⟩, rfl, H.sel' [0] rfl rfl⟩
  ·replace h := bif_f hb2 h
   refine c_skip ?_
   obtain rfl := Option.some.inj h
   exact ⟨rfl, _, σ0, acode_0, ccode_0, fr_join ⟨rfl, trivial⟩, rfl, H.sel' [0] rfl rfl⟩
 ·clear hj
  have h := h'
  clear h' H
  rintro e a w ⟨rfl, ρ, σ9, a10, c11, rfl, rfl, H⟩
  refine q_then ?_
  refine c_seq ?_
  refine rg ?_
  refine st (v := (Sl a10 o1 c11)) (rv_move rfl) ?_
  refine st (v := (.agg #[(Sl a10 o1 c11), (I 0)])) (rv_build (ps := [(0, (Sl a10 o1 c11))]) Try.underlying101 ti101 (bp101 Try.underlying101) rfl (by kernel_rfl)) ?_
  refine st_ex (ex_box (cs := [(Sl a10 o1 c11), (I 0)]) H hn0 rfl rfl) wn ?_
  rintro _ σ13 ⟨b12, rfl, H, -⟩
  refine st (v := (pt b12 0)) (rv_assign rfl) ?_
  refine w_end ?_
  refine q_then ?_
  refine c_ret ?_
  obtain rfl := Option.some.inj h
  exact fin_ret (v := (pt b12 0)) (results_ok Try.results41 (res_tmp (v := (pt b12 0)) rfl res_nil) rfl) ⟨b12, a10, c11, rfl, rfl⟩ (H.sel' [0, 1] rfl rfl)

theorem c_spec_DrawValidHistory {code_0 : List UInt8} {acode_0 : Option Addr} {ccode_0 : Nat} {r : ((List (Int × (Int × (List Int) × Int))) × (List Int))} (h : M.spec_DrawValidHistory code_0 = some r) :
    Cal2 Try.prog 15 [(Sl acode_0 code_0 ccode_0)] [Ch.ro 0 (Sl acode_0 code_0 ccode_0) code_0] (fun n0 v L => ∃ (az1 : Option Addr), ∃ (cz2 : Nat), ∃ (az3 : Option Addr), ∃ (cz4 : Nat), v = (.agg #[(Sl az1 r.1 cz2), (Sl az3 r.2 cz4)]) ∧ L = [Ch.own n0 n0 (Sl az1 r.1 cz2) r.1, Ch.own n0 n0 (Sl az3 r.2 cz4) r.2]) := by
 refine cal2 (n := 6) Try.func15 rfl rfl rfl rfl ?_
 intro S0 σ0 n0 hn0 H
 unfold M.spec_DrawValidHistory at h
 refine c_seq ?_
 refine rg ?_
 refine st_ex (ex_alloc (cs := [(.slice none 0 0), (.slice none 0 0)]) H hn0 ti26 rfl) wn ?_
 rintro _ σ2 ⟨b1, rfl, H, -⟩
 refine w_end ?_
 refine q_then ?_
 refine c_seq ?_
 refine rg ?_
 refine st (v := (Sl acode_0 code_0 ccode_0)) (rv_move rfl) ?_
 obtain ⟨r3, hx4, h'⟩ := bind_some h
 clear h
 have h := h'; clear h'
 have hc5 := c_spec_newReader (acode_0 := acode_0) (ccode_0 := ccode_0) hx4
 refine st_call (cx_call hc5 (ent_f hc5.fn rfl) hn0 (show Hp S0 σ0 _ ([Ch.ro 0 (Sl acode_0 code_0 ccode_0) code_0] ++ [Ch.bx n0 b1 0 [(.slice none 0 0), (.slice none 0 0)] [] [], Ch.ro 0 (Sl acode_0 code_0 ccode_0) code_0]) from (H.sel' [1, 0, 1] rfl rfl))) wn ?_
 rintro _ σ9 ⟨_, ⟨b6, a7, c8, rfl, rfl⟩, H, -⟩
 replace H : Hp S0 σ0 σ9 [Ch.bx n0 b6 0 [(Sl a7 r3.1 c8), (I r3.2)] [] [], Ch.ro 0 (Sl a7 r3.1 c8) r3.1, Ch.bx n0 b1 0 [(.slice none 0 0), (.slice none 0 0)] [] [], Ch.ro 0 (Sl acode_0 code_0 ccode_0) code_0] := H
 obtain ⟨r10, hx11, h'⟩ := bind_some h
 clear h
 have h := h'; clear h'
 have hc12 := c_spec_anyHistory (lor_0 := n0) (br_0 := b6) (or_0 := 0) (prer_0 := []) (sufr_0 := []) (ar_0_0 := a7) (cr_0_0 := c8) hx11
 refine st_call (cx_call hc12 (ent_f hc12.fn rfl) hn0 (show Hp S0 σ0 _ ([Ch.bx n0 b6 0 [(Sl a7 r3.1 c8), (I r3.2)] [] [], Ch.ro 0 (Sl a7 r3.1 c8) r3.1] ++ [Ch.ro 0 (Sl a7 r3.1 c8) r3.1, Ch.bx n0 b1 0 [(.slice none 0 0), (.slice none 0 0)] [] [], Ch.ro 0 (Sl acode_0 code_0 ccode_0) code_0]) from (H.sel' [0, 1, 1, 2, 3] rfl rfl))) wn ?_
 rintro _ σ19 ⟨_, ⟨a13, c14, a15, c16, a17, c18, rfl, rfl⟩, H, -⟩
 replace H : Hp S0 σ0 σ19 [Ch.own n0 n0 (Sl a13 r10.1.1 c14) r10.1.1, Ch.own n0 n0 (Sl a15 r10.1.2 c16) r10.1.2, Ch.bx n0 b6 0 [(Sl a17 r10.2.1 c18), (I r10.2.2)] [] [], Ch.ro 0 (Sl a17 r10.2.1 c18) r10.2.1, Ch.ro 0 (Sl a7 r3.1 c8) r3.1, Ch.bx n0 b1 0 [(.slice none 0 0), (.slice none 0 0)] [] [], Ch.ro 0 (Sl acode_0 code_0 ccode_0) code_0] := H
 refine st_exS (ex_store_box (k := 0) (cs := [(.slice none 0 0), (.slice none 0 0)]) (vs := [(Sl a13 r10.1.1 c14), (Sl a15 r10.1.2 c16)]) (cs' := [(Sl a13 r10.1.1 c14), (Sl a15 r10.1.2 c16)]) H (i := 5) rfl ti26 rfl rfl rfl rfl rfl (Nat.le_of_ble_eq_true rfl) (by simp [plain]) rfl) wn ?_
 rintro σ20 ⟨H, -⟩
 refine w_end ?_
 refine q_then ?_
 refine c_ret ?_
 obtain rfl := Option.some.inj h
 exact fin_ret (v := (.agg #[(Sl a13 r10.1.1 c14), (Sl a15 r10.1.2 c16)])) (results_ok Try.results15 (res_cell rfl (run_cellRes (cs := [(Sl a13 r10.1.1 c14), (Sl a15 r10.1.2 c16)]) Try.underlying26 rfl ti26 rfl (H.cells 0 rfl)) res_nil) rfl) ⟨a13, c14, a15, c16, rfl, rfl⟩ (H.sel' [1, 2] rfl rfl)

theorem c_impl_validKey {key_0 : Int}  {r : Bool} (h : M.impl_validKey key_0 = some r) :
    Cal2 Try.prog 84 [(I key_0)] [] (fun n0 v L => v = (B r) ∧ L = []) := by
 refine cal2 (n := 9) Try.func84 rfl rfl rfl rfl ?_
 intro S0 σ0 n0 hn0 H
 unfold M.impl_validKey at h
 refine c_seq ?_
 refine rg ?_
 refine st (v := (B false)) (rv_assign rfl) ?_
 refine w_end ?_
 refine q_then ?_
 refine c_seq ?_
 refine rg ?_
 refine st (v := (I key_0)) (rv_move rfl) ?_
 refine st (v := (B (decide (1 ≤ key_0)))) (rv_geq (a := key_0) (b := 1) rfl rfl) ?_
 refine st (v := (B (decide (1 ≤ key_0)))) (rv_move rfl) ?_
 rcases Bool.eq_false_or_eq_true (decide (1 ≤ key_0)) with hb1 | hb1
 ·replace h := bif_t hb1 h
  refine st_g (v := (I key_0)) (congrArg some hb1) (rv_move rfl) ?_
  refine st_g (v := (B (decide (key_0 ≤ 99)))) (congrArg some hb1) (rv_leq (a := key_0) (b := 99) rfl rfl) ?_
  refine st (v := (B (decide (key_0 ≤ 99)))) (rv_pick_t (congrArg B hb1) rfl) ?_
  refine st (v := (B (decide (key_0 ≤ 99)))) (rv_assign rfl) ?_
  refine w_end ?_
  refine q_then ?_
  refine c_ret ?_
  obtain rfl := Option.some.inj h
  exact fin_ret (v := (B (decide (key_0 ≤ 99)))) (results_ok Try.results84 (res_tmp (v := (B (decide (key_0 ≤ 99)))) rfl res_nil) rfl) ⟨rfl, rfl⟩ (H.sel' [] rfl rfl)
 ·replace h := bif_f hb1 h
  refine st_skip (congrArg some hb1) ?_
  refine st_skip (congrArg some hb1) ?_
  refine st (v := (B false)) (rv_pick_f (congrArg B hb1) rfl) ?_
  refine st (v := (B false)) (rv_assign rfl) ?_
  refine w_end ?_
  refine q_then ?_
  refine c_ret ?_
  obtain rfl := Option.some.inj h
  exact fin_ret (v := (B false)) (results_ok Try.results84 (res_tmp (v := (B false)) rfl res_nil) rfl) ⟨rfl, rfl⟩ (H.sel' [] rfl rfl)

theorem c_impl_validCoords {coords_0 : List Int} {acoords_0 : Option Addr} {ccoords_0 : Nat} {r : Bool} (h : M.impl_validCoords coords_0 = some r) :
    Cal2 Try.prog 107 [(Sl acoords_0 coords_0 ccoords_0)] [Ch.ro 0 (Sl acoords_0 coords_0 ccoords_0) coords_0] (fun n0 v L => v = (B r) ∧ L = []) := by
 refine cal2 (n := 18) Try.func107 rfl rfl rfl rfl ?_
 intro S0 σ0 n0 hn0 H
 unfold M.impl_validCoords at h
 refine c_seq ?_
 refine rg ?_
 refine st (v := (B false)) (rv_assign rfl) ?_
 refine w_end ?_
 refine q_then ?_
 refine c_seq ?_
 refine c_seq ?_
 refine rg ?_
 refine st (v := (Sl acoords_0 coords_0 ccoords_0)) (rv_move rfl) ?_
 refine st (v := (I (coords_0.length : Int))) (rv_len Try.underlying24 rfl) ?_
 refine st (v := (I 0)) (rv_move rfl) ?_
 refine w_end ?_
 refine q_then ?_
 obtain ⟨o1, hj, h'⟩ := bind_some h
 clear h
 refine c_cut (fun e a w => (∃ t, o1 = (.inl t) ∧ e = .normal ∧ ∃ (ρ : Nat → Value) (σ : St), a = fr 18 (updL ρ []) ∧ w = σ.w ∧ Hp S0 σ0 σ []) ∨ (∃ t, o1 = (.inr t) ∧ e = .ret ∧ ∃ (ρ : Nat → Value) (σ : St), a = fr 18 (updL ρ [(2, (B t))]) ∧ w = σ.w ∧ Hp S0 σ0 σ [])) ?_ ?_
 ·clear h'
  rename _ = some o1 => h
  refine c_blk ?_
  refine wp_loopM _ h (fun s2 a w => ∃ (ρ : Nat → Value) (σ : St), a = fr 18 (updL ρ [(5, (Sl acoords_0 coords_0 ccoords_0)), (6, (I (coords_0.length : Int))), (7, (I s2))]) ∧ w = σ.w ∧ Hp S0 σ0 σ [Ch.ro 0 (Sl acoords_0 coords_0 ccoords_0) coords_0]) ⟨_, σ0, fr_join ⟨rfl, rfl, rfl, trivial⟩, rfl, H.sel' [0] rfl rfl⟩ ?_
  clear h H
  rintro s2 a w o ⟨ρ, σ3, rfl, rfl, H⟩ h hres
  refine c_seq ?_
  refine rg ?_
  refine st (v := (B (decide (s2 < (coords_0.length : Int))))) (rv_lss (a := s2) (b := (coords_0.length : Int)) rfl rfl) ?_
  refine w_end ?_
  refine q_then ?_
  refine c_seq ?_
  refine cd_cond (decide (s2 < (coords_0.length : Int))) rfl (fun hb4 => ?_) (fun hb4 => ?_)
  ·replace h := bif_t hb4 h
   refine c_skip ?_
   refine q_then ?_
   refine c_seq ?_
   refine c_blk ?_
   refine c_seq ?_
   refine rg ?_
   obtain ⟨x5, hx6, h'⟩ := bind_some h
   clear h
   have h := h'; clear h'
   obtain ⟨b8, o9, hi7, -⟩ := (H.ro 0 rfl).ix hx6
   refine st (v := (pt b8 o9)) (rv_ix Try.underlying24 ti3 rfl rfl hi7) ?_
   have hc10 := ((H.ro 0 rfl).at hx6 hi7).int
   refine st (v := (I x5)) (rv_load1 Try.underlying3 rfl rfl hc10) ?_
   refine st (v := (I x5)) (rv_assign rfl) ?_
   refine w_end ?_
   refine q_then ?_
   refine c_seq ?_
   obtain ⟨o11, hj, h'⟩ := bind_some h
   clear h
   refine c_cut (fun e a w => e = .normal ∧ ∃ (ρ : Nat → Value) (σ : St), a = fr 18 (updL ρ [(5, (Sl acoords_0 coords_0 ccoords_0)), (6, (I (coords_0.length : Int))), (7, (I s2)), (16, (B o11))]) ∧ w = σ.w ∧ Hp S0 σ0 σ [Ch.ro 0 (Sl acoords_0 coords_0 ccoords_0) coords_0]) ?_ ?_
   ·clear h'
    rename _ = some o11 => h
    refine rg ?_
    refine st (v := (I x5)) (rv_move rfl) ?_
    refine st (v := (B (decide (x5 < (-100))))) (rv_lss (a := x5) (b := (-100)) rfl rfl) ?_
    refine st (v := (B (decide (x5 < (-100))))) (rv_move rfl) ?_
    rcases Bool.eq_false_or_eq_true (decide (x5 < (-100))) with hb12 | hb12
    ·replace h := bif_t hb12 h
     refine st_skip (congrArg some hb12) ?_
     refine st_skip (congrArg some hb12) ?_
     refine st (v := (B true)) (rv_pick_t (congrArg B hb12) rfl) ?_
     refine w_end ?_
     obtain rfl := Option.some.inj h
     exact ⟨rfl, _, σ3, fr_join ⟨rfl, rfl, rfl, rfl, trivial⟩, rfl, H.sel' [0] rfl rfl⟩
    ·replace h := bif_f hb12 h
     refine st_g (v := (I x5)) (congrArg some hb12) (rv_move rfl) ?_
     refine st_g (v := (B (decide (100 < x5)))) (congrArg some hb12) (rv_gtr (a := x5) (b := 100) rfl rfl) ?_
     refine st (v := (B (decide (100 < x5)))) (rv_pick_f (congrArg B hb12) rfl) ?_
     refine w_end ?_
     obtain rfl := Option.some.inj h
     exact ⟨rfl, _, σ3, fr_join ⟨rfl, rfl, rfl, rfl, trivial⟩, rfl, H.sel' [0] rfl rfl⟩
   ·clear hj
    have h := h'
    clear h' H
    rintro e a w ⟨rfl, ρ, σ13, rfl, rfl, H⟩
    refine q_then ?_
    refine cd_cond o11 rfl (fun hb14 => ?_) (fun hb14 => ?_)
    ·replace h := bif_t hb14 h
     refine c_seq ?_
     refine rg ?_
     refine st (v := (B false)) (rv_assign rfl) ?_
     refine w_end ?_
     refine q_then ?_
     refine c_ret ?_
     refine q_blk_r ?_
     refine q_then_r ?_
     refine q_then_r ?_
     refine q_blk_r ?_
     obtain rfl := Option.some.inj h
     obtain rfl := hres _ rfl
     exact .inr (⟨_, rfl, rfl, _, σ13, fr_join ⟨rfl, trivial⟩, rfl, H.sel' [] rfl rfl⟩)
    ·replace h := bif_f hb14 h
     refine c_skip ?_
     refine q_blk ?_
     refine q_then ?_
     refine rg ?_
     refine st (v := (I (w64 (s2 + 1)))) (rv_add (a := s2) (b := 1) rfl rfl) ?_
     refine st (v := (I (w64 (s2 + 1)))) (rv_move rfl) ?_
     refine w_end ?_
     refine q_then ?_
     obtain rfl := Option.some.inj h
     exact ⟨_, rfl, _, σ13, fr_join ⟨rfl, rfl, rfl, trivial⟩, rfl, H.sel' [0] rfl rfl⟩
  ·replace h := bif_f hb4 h
   refine c_exit ?_
   refine q_then_x ?_
   refine q_then_x ?_
   refine q_blk_hit ?_
   obtain rfl := Option.some.inj h
   obtain rfl := hres _ rfl
   exact .inl ⟨_, rfl, rfl, _, σ3, fr_join trivial, rfl, H.sel' [] rfl rfl⟩
 ·clear hj
  have h := h'
  clear h' H
  rintro e a w (⟨t15, rfl, rfl, ρ, σ16, rfl, rfl, H⟩ | ⟨t17, rfl, rfl, ρ, σ18, rfl, rfl, H⟩)
  ·replace h := selim_l h
   refine q_then ?_
   refine c_seq ?_
   refine rg ?_
   refine st (v := (B true)) (rv_assign rfl) ?_
   refine w_end ?_
   refine q_then ?_
   refine c_ret ?_
   obtain rfl := Option.some.inj h
   exact fin_ret (v := (B true)) (results_ok Try.results107 (res_tmp (v := (B true)) rfl res_nil) rfl) ⟨rfl, rfl⟩ (H.sel' [] rfl rfl)
  ·replace h := selim_r h
   refine q_then_r ?_
   obtain rfl := Option.some.inj h
   exact fin_ret (v := (B t17)) (results_ok Try.results107 (res_tmp (v := (B t17)) rfl res_nil) rfl) ⟨rfl, rfl⟩ (H.sel' [] rfl rfl)

theorem c_impl_ValidVector {v_0 : List Int} {av_0 : Option Addr} {cv_0 : Nat} {r : Bool} (h : M.impl_ValidVector v_0 = some r) :
    Cal2 Try.prog 85 [(Sl av_0 v_0 cv_0)] [Ch.ro 0 (Sl av_0 v_0 cv_0) v_0] (fun n0 v L => v = (B r) ∧ L = []) := by
 refine cal2 (n := 10) Try.func85 rfl rfl rfl rfl ?_
 intro S0 σ0 n0 hn0 H
 unfold M.impl_ValidVector at h
 refine c_seq ?_
 refine rg ?_
 refine st (v := (B false)) (rv_assign rfl) ?_
 refine w_end ?_
 refine q_then ?_
 refine c_seq ?_
 refine rg ?_
 refine st (v := (Sl av_0 v_0 cv_0)) (rv_move rfl) ?_
 refine st (v := (I (v_0.length : Int))) (rv_len Try.underlying24 rfl) ?_
 refine st (v := (B ((v_0.length : Int) == 4))) (rv_eql (a := (v_0.length : Int)) (b := 4) rfl rfl) ?_
 refine st (v := (B ((v_0.length : Int) == 4))) (rv_move rfl) ?_
 rcases Bool.eq_false_or_eq_true ((v_0.length : Int) == 4) with hb1 | hb1
 ·replace h := bif_t hb1 h
  refine st_g (v := (Sl av_0 v_0 cv_0)) (congrArg some hb1) (rv_move rfl) ?_
  obtain ⟨r2, hx3, h'⟩ := bind_some h
  clear h
  have h := h'; clear h'
  have hc4 := c_impl_validCoords (acoords_0 := av_0) (ccoords_0 := cv_0) hx3
  refine st_call (cx_call hc4 (ent_f hc4.fn rfl) hn0 (show Hp S0 σ0 _ ([Ch.ro 0 (Sl av_0 v_0 cv_0) v_0] ++ [Ch.ro 0 (Sl av_0 v_0 cv_0) v_0]) from (H.sel' [0, 0] rfl rfl))) (wanted_yes rfl (by exact (congrArg some hb1))) ?_
  rintro _ σ5 ⟨_, ⟨rfl, rfl⟩, H, -⟩
  replace H : Hp S0 σ0 σ5 [Ch.ro 0 (Sl av_0 v_0 cv_0) v_0] := H
  refine st (v := (B r2)) (rv_pick_t (congrArg B hb1) rfl) ?_
  refine st (v := (B r2)) (rv_assign rfl) ?_
  refine w_end ?_
  refine q_then ?_
  refine c_ret ?_
  obtain rfl := Option.some.inj h
  exact fin_ret (v := (B r2)) (results_ok Try.results85 (res_tmp (v := (B r2)) rfl res_nil) rfl) ⟨rfl, rfl⟩ (H.sel' [] rfl rfl)
 ·replace h := bif_f hb1 h
  refine st_skip (congrArg some hb1) ?_
  refine st_skip (congrArg some hb1) ?_
  refine st (v := (B false)) (rv_pick_f (congrArg B hb1) rfl) ?_
  refine st (v := (B false)) (rv_assign rfl) ?_
  refine w_end ?_
  refine q_then ?_
  refine c_ret ?_
  obtain rfl := Option.some.inj h
  exact fin_ret (v := (B false)) (results_ok Try.results85 (res_tmp (v := (B false)) rfl res_nil) rfl) ⟨rfl, rfl⟩ (H.sel' [] rfl rfl)

theorem c_impl_validTags {tags_0 : Int}  {r : Bool} (h : M.impl_validTags tags_0 = some r) :
    Cal2 Try.prog 86 [(I tags_0)] [] (fun n0 v L => v = (B r) ∧ L = []) := by
 refine cal2 (n := 9) Try.func86 rfl rfl rfl rfl ?_
 intro S0 σ0 n0 hn0 H
 unfold M.impl_validTags at h
 refine c_seq ?_
 refine rg ?_
 refine st (v := (B false)) (rv_assign rfl) ?_
 refine w_end ?_
 refine q_then ?_
 refine c_seq ?_
 refine rg ?_
 refine st (v := (I tags_0)) (rv_move rfl) ?_
 refine st (v := (B (decide (0 ≤ tags_0)))) (rv_geq (a := tags_0) (b := 0) rfl rfl) ?_
 refine st (v := (B (decide (0 ≤ tags_0)))) (rv_move rfl) ?_
 rcases Bool.eq_false_or_eq_true (decide (0 ≤ tags_0)) with hb1 | hb1
 ·replace h := bif_t hb1 h
  refine st_g (v := (I tags_0)) (congrArg some hb1) (rv_move rfl) ?_
  refine st_g (v := (B (decide (tags_0 ≤ 15)))) (congrArg some hb1) (rv_leq (a := tags_0) (b := 15) rfl rfl) ?_
  refine st (v := (B (decide (tags_0 ≤ 15)))) (rv_pick_t (congrArg B hb1) rfl) ?_
  refine st (v := (B (decide (tags_0 ≤ 15)))) (rv_assign rfl) ?_
  refine w_end ?_
  refine q_then ?_
  refine c_ret ?_
  obtain rfl := Option.some.inj h
  exact fin_ret (v := (B (decide (tags_0 ≤ 15)))) (results_ok Try.results86 (res_tmp (v := (B (decide (tags_0 ≤ 15)))) rfl res_nil) rfl) ⟨rfl, rfl⟩ (H.sel' [] rfl rfl)
 ·replace h := bif_f hb1 h
  refine st_skip (congrArg some hb1) ?_
  refine st_skip (congrArg some hb1) ?_
  refine st (v := (B false)) (rv_pick_f (congrArg B hb1) rfl) ?_
  refine st (v := (B false)) (rv_assign rfl) ?_
  refine w_end ?_
  refine q_then ?_
  refine c_ret ?_
  obtain rfl := Option.some.inj h
  exact fin_ret (v := (B false)) (results_ok Try.results86 (res_tmp (v := (B false)) rfl res_nil) rfl) ⟨rfl, rfl⟩ (H.sel' [] rfl rfl)

theorem c_impl_validItem {x_0 : Int × (List Int) × Int} {ax_0_1 : Option Addr} {cx_0_1 : Nat} {r : Bool} (h : M.impl_validItem x_0 = some r) :
    Cal2 Try.prog 54 [(.agg #[(I x_0.1), (Sl ax_0_1 x_0.2.1 cx_0_1), (I x_0.2.2)])] [Ch.ro 0 (Sl ax_0_1 x_0.2.1 cx_0_1) x_0.2.1] (fun n0 v L => v = (B r) ∧ L = []) := by
 refine cal2 (n := 16) Try.func54 rfl rfl rfl rfl ?_
 intro S0 σ0 n0 hn0 H
 unfold M.impl_validItem at h
 refine c_seq ?_
 refine rg ?_
 refine st_ex (ex_box (cs := [(I x_0.1), (Sl ax_0_1 x_0.2.1 cx_0_1), (I x_0.2.2)]) H hn0 rfl rfl) wn ?_
 rintro _ σ2 ⟨b1, rfl, H, -⟩
 refine st (v := (B false)) (rv_assign rfl) ?_
 refine w_end ?_
 refine q_then ?_
 refine c_seq ?_
 refine rg ?_
 refine st (v := (pt b1 0)) (rv_fieldAddr (off := 0) (ft := 3) Try.underlying41 rfl ti3 rfl rfl) ?_
 have hc3 := H.cell (u := (I x_0.1)) (o' := 0) 0 0 rfl rfl rfl
 refine st (v := (I x_0.1)) (rv_load1 Try.underlying3 rfl rfl hc3) ?_
 obtain ⟨r4, hx5, h'⟩ := bind_some h
 clear h
 have h := h'; clear h'
 have hc6 := c_impl_validKey hx5
 refine st_call (cx_call hc6 (ent_f hc6.fn rfl) hn0 (show Hp S0 σ0 _ ([] ++ [Ch.bx n0 b1 0 [(I x_0.1), (Sl ax_0_1 x_0.2.1 cx_0_1), (I x_0.2.2)] [] [], Ch.ro 0 (Sl ax_0_1 x_0.2.1 cx_0_1) x_0.2.1]) from (H.sel' [0, 1] rfl rfl))) wn ?_
 rintro _ σ7 ⟨_, ⟨rfl, rfl⟩, H, -⟩
 replace H : Hp S0 σ0 σ7 [Ch.bx n0 b1 0 [(I x_0.1), (Sl ax_0_1 x_0.2.1 cx_0_1), (I x_0.2.2)] [] [], Ch.ro 0 (Sl ax_0_1 x_0.2.1 cx_0_1) x_0.2.1] := H
 refine st (v := (B r4)) (rv_move rfl) ?_
 rcases Bool.eq_false_or_eq_true r4 with hb8 | hb8
 ·replace h := bif_t hb8 h
  refine st_g (v := (pt b1 1)) (congrArg some hb8) (rv_fieldAddr (off := 1) (ft := 24) Try.underlying41 rfl ti24 rfl rfl) ?_
  have hc9 := H.cell (u := (Sl ax_0_1 x_0.2.1 cx_0_1)) (o' := 1) 0 1 rfl rfl rfl
  refine st_g (v := (Sl ax_0_1 x_0.2.1 cx_0_1)) (congrArg some hb8) (rv_load1 Try.underlying24 rfl rfl hc9) ?_
  obtain ⟨r10, hx11, h'⟩ := bind_some h
  clear h
  have h := h'; clear h'
  have hc12 := c_impl_ValidVector (av_0 := ax_0_1) (cv_0 := cx_0_1) hx11
  refine st_call (cx_call hc12 (ent_f hc12.fn rfl) hn0 (show Hp S0 σ0 _ ([Ch.ro 0 (Sl ax_0_1 x_0.2.1 cx_0_1) x_0.2.1] ++ [Ch.bx n0 b1 0 [(I x_0.1), (Sl ax_0_1 x_0.2.1 cx_0_1), (I x_0.2.2)] [] [], Ch.ro 0 (Sl ax_0_1 x_0.2.1 cx_0_1) x_0.2.1]) from (H.sel' [1, 0, 1] rfl rfl))) (wanted_yes rfl (by exact (congrArg some hb8))) ?_
  rintro _ σ13 ⟨_, ⟨rfl, rfl⟩, H, -⟩
  replace H : Hp S0 σ0 σ13 [Ch.bx n0 b1 0 [(I x_0.1), (Sl ax_0_1 x_0.2.1 cx_0_1), (I x_0.2.2)] [] [], Ch.ro 0 (Sl ax_0_1 x_0.2.1 cx_0_1) x_0.2.1] := H
  refine st (v := (B r10)) (rv_pick_t (congrArg B hb8) rfl) ?_
  refine st (v := (B r10)) (rv_move rfl) ?_
  rcases Bool.eq_false_or_eq_true r10 with hb14 | hb14
  ·replace h := bif_t hb14 h
   refine st_g (v := (pt b1 2)) (congrArg some hb14) (rv_fieldAddr (off := 2) (ft := 3) Try.underlying41 rfl ti3 rfl rfl) ?_
   have hc15 := H.cell (u := (I x_0.2.2)) (o' := 2) 0 2 rfl rfl rfl
   refine st_g (v := (I x_0.2.2)) (congrArg some hb14) (rv_load1 Try.underlying3 rfl rfl hc15) ?_
   obtain ⟨r16, hx17, h'⟩ := bind_some h
   clear h
   have h := h'; clear h'
   have hc18 := c_impl_validTags hx17
   refine st_call (cx_call hc18 (ent_f hc18.fn rfl) hn0 (show Hp S0 σ0 _ ([] ++ [Ch.bx n0 b1 0 [(I x_0.1), (Sl ax_0_1 x_0.2.1 cx_0_1), (I x_0.2.2)] [] [], Ch.ro 0 (Sl ax_0_1 x_0.2.1 cx_0_1) x_0.2.1]) from (H.sel' [0, 1] rfl rfl))) (wanted_yes rfl (by exact (congrArg some hb14))) ?_
   rintro _ σ19 ⟨_, ⟨rfl, rfl⟩, H, -⟩
   replace H : Hp S0 σ0 σ19 [Ch.bx n0 b1 0 [(I x_0.1), (Sl ax_0_1 x_0.2.1 cx_0_1), (I x_0.2.2)] [] [], Ch.ro 0 (Sl ax_0_1 x_0.2.1 cx_0_1) x_0.2.1] := H
   refine st (v := (B r16)) (rv_pick_t (congrArg B hb14) rfl) ?_
   refine st (v := (B r16)) (rv_assign rfl) ?_
   refine w_end ?_
   refine q_then ?_
   refine c_ret ?_
   obtain rfl := Option.some.inj h
   exact fin_ret (v := (B r16)) (results_ok Try.results54 (res_tmp (v := (B r16)) rfl res_nil) rfl) ⟨rfl, rfl⟩ (H.sel' [] rfl rfl)
  ·replace h := bif_f hb14 h
   refine st_skip (congrArg some hb14) ?_
   refine st_skip (congrArg some hb14) ?_
   refine st_skip (congrArg some hb14) ?_
   refine st (v := (B false)) (rv_pick_f (congrArg B hb14) rfl) ?_
   refine st (v := (B false)) (rv_assign rfl) ?_
   refine w_end ?_
   refine q_then ?_
   refine c_ret ?_
   obtain rfl := Option.some.inj h
   exact fin_ret (v := (B false)) (results_ok Try.results54 (res_tmp (v := (B false)) rfl res_nil) rfl) ⟨rfl, rfl⟩ (H.sel' [] rfl rfl)
 ·replace h := bif_f hb8 h
  refine st_skip (congrArg some hb8) ?_
  refine st_skip (congrArg some hb8) ?_
  refine st_skip (congrArg some hb8) ?_
  refine st (v := (B false)) (rv_pick_f (congrArg B hb8) rfl) ?_
  refine st (v := (B false)) (rv_move rfl) ?_
  refine st_skip rfl ?_
  refine st_skip rfl ?_
  refine st_skip rfl ?_
  refine st (v := (B false)) (rv_pick_f rfl rfl) ?_
  refine st (v := (B false)) (rv_assign rfl) ?_
  refine w_end ?_
  refine q_then ?_
  refine c_ret ?_
  obtain rfl := Option.some.inj h
  exact fin_ret (v := (B false)) (results_ok Try.results54 (res_tmp (v := (B false)) rfl res_nil) rfl) ⟨rfl, rfl⟩ (H.sel' [] rfl rfl)

theorem c_impl_ValidStore {list_0 : List (Int × (List Int) × Int)} {alist_0 : Option Addr} {clist_0 : Nat} {r : Bool} (h : M.impl_ValidStore list_0 = some r) :
    Cal2 Try.prog 24 [(Sl alist_0 list_0 clist_0)] [Ch.ro 0 (Sl alist_0 list_0 clist_0) list_0] (fun n0 v L => v = (B r) ∧ L = []) := by
 refine cal2 (n := 27) Try.func24 rfl rfl rfl rfl ?_
 intro S0 σ0 n0 hn0 H
 unfold M.impl_ValidStore at h
 refine c_seq ?_
 refine rg ?_
 refine st (v := (B false)) (rv_assign rfl) ?_
 refine w_end ?_
 refine q_then ?_
 refine c_seq ?_
 refine c_seq ?_
 refine rg ?_
 refine st (v := (Sl alist_0 list_0 clist_0)) (rv_move rfl) ?_
 refine st (v := (I (list_0.length : Int))) (rv_len Try.underlying33 rfl) ?_
 refine st (v := (B (decide (16 < (list_0.length : Int))))) (rv_gtr (a := (list_0.length : Int)) (b := 16) rfl rfl) ?_
 refine w_end ?_
 refine q_then ?_
 refine cd_cond (decide (16 < (list_0.length : Int))) rfl (fun hb1 => ?_) (fun hb1 => ?_)
 ·replace h := bif_t hb1 h
  refine c_seq ?_
  refine rg ?_
  refine st (v := (B false)) (rv_assign rfl) ?_
  refine w_end ?_
  refine q_then ?_
  refine c_ret ?_
  refine q_then_r ?_
  obtain rfl := Option.some.inj h
  exact fin_ret (v := (B false)) (results_ok Try.results24 (res_tmp (v := (B false)) rfl res_nil) rfl) ⟨rfl, rfl⟩ (H.sel' [] rfl rfl)
 ·replace h := bif_f hb1 h
  refine c_skip ?_
  refine q_then ?_
  refine c_seq ?_
  refine rg ?_
  refine st (v := (I 0)) (rv_assign rfl) ?_
  refine w_end ?_
  refine q_then ?_
  refine c_seq ?_
  refine c_seq ?_
  refine rg ?_
  refine st (v := (Sl alist_0 list_0 clist_0)) (rv_move rfl) ?_
  refine st (v := (I (list_0.length : Int))) (rv_len Try.underlying33 rfl) ?_
  refine st (v := (I 0)) (rv_move rfl) ?_
  refine w_end ?_
  refine q_then ?_
  obtain ⟨o2, hj, h'⟩ := bind_some h
  clear h
  refine c_cut (fun e a w => (∃ t, o2 = (.inl t) ∧ e = .normal ∧ ∃ (ρ : Nat → Value) (σ : St), a = fr 27 (updL ρ []) ∧ w = σ.w ∧ Hp S0 σ0 σ []) ∨ (∃ t, o2 = (.inr t) ∧ e = .ret ∧ ∃ (ρ : Nat → Value) (σ : St), a = fr 27 (updL ρ [(2, (B t))]) ∧ w = σ.w ∧ Hp S0 σ0 σ [])) ?_ ?_
  ·clear h'
   rename _ = some o2 => h
   refine c_blk ?_
   refine wp_loopM _ h (fun s3 a w => ∃ (ρ : Nat → Value) (σ : St), a = fr 27 (updL ρ [(3, (I s3.1)), (9, (Sl alist_0 list_0 clist_0)), (10, (I (list_0.length : Int))), (11, (I s3.2))]) ∧ w = σ.w ∧ Hp S0 σ0 σ [Ch.ro 0 (Sl alist_0 list_0 clist_0) list_0]) ⟨_, σ0, fr_join ⟨rfl, rfl, rfl, rfl, trivial⟩, rfl, H.sel' [0] rfl rfl⟩ ?_
   clear h H
   rintro s3 a w o ⟨ρ, σ4, rfl, rfl, H⟩ h hres
   refine c_seq ?_
   refine rg ?_
   refine st (v := (B (decide (s3.2 < (list_0.length : Int))))) (rv_lss (a := s3.2) (b := (list_0.length : Int)) rfl rfl) ?_
   refine w_end ?_
   refine q_then ?_
   refine c_seq ?_
   refine cd_cond (decide (s3.2 < (list_0.length : Int))) rfl (fun hb5 => ?_) (fun hb5 => ?_)
   ·replace h := bif_t hb5 h
    refine c_skip ?_
    refine q_then ?_
    refine c_seq ?_
    refine c_blk ?_
    refine c_seq ?_
    refine rg ?_
    obtain ⟨x6, hx7, h'⟩ := bind_some h
    clear h
    have h := h'; clear h'
    obtain ⟨b9, o10, hi8, -⟩ := (H.ro 0 rfl).ix hx7
    refine st (v := (pt b9 o10)) (rv_ix Try.underlying33 ti41 rfl rfl hi8) ?_
    obtain ⟨_, ⟨_, _, rfl, rfl, ⟨_, _, rfl, ⟨_, rfl, hR15⟩, rfl⟩⟩, hl11, hc12⟩ := ((H.ro 0 rfl).at hx7 hi8).cells
    obtain ⟨a13, c14, rfl⟩ := hR15.isSl
    replace H := H.add (d := Ch.ro 0 (Sl a13 x6.2.1 c14) x6.2.1) hR15 (fun _ h => h)
    clear hR15
    refine st (v := (.agg #[(I x6.1), (Sl a13 x6.2.1 c14), (I x6.2.2)])) (rv_load Try.underlying41 rfl ti41 rfl hl11 hc12) ?_
    refine st_ex (ex_alloc (cs := [(I 0), (.slice none 0 0), (I 0)]) H hn0 ti41 rfl) wn ?_
    rintro _ σ17 ⟨b16, rfl, H, -⟩
    refine st_exS (ex_store_box (k := 0) (cs := [(I 0), (.slice none 0 0), (I 0)]) (vs := [(I x6.1), (Sl a13 x6.2.1 c14), (I x6.2.2)]) (cs' := [(I x6.1), (Sl a13 x6.2.1 c14), (I x6.2.2)]) H (i := 0) rfl ti41 rfl rfl rfl rfl rfl (Nat.le_of_ble_eq_true rfl) (by simp [plain]) rfl) wn ?_
    rintro σ18 ⟨H, -⟩
    refine w_end ?_
    refine q_then ?_
    refine c_seq ?_
    refine c_seq ?_
    obtain ⟨o19, hj, h'⟩ := bind_some h
    clear h
    refine c_cut (fun e a w => e = .normal ∧ ∃ (ρ : Nat → Value) (σ : St), a = fr 27 (updL ρ [(5, (pt b16 0)), (9, (Sl alist_0 list_0 clist_0)), (10, (I (list_0.length : Int))), (11, (I s3.2)), (23, (B o19))]) ∧ w = σ.w ∧ Hp S0 σ0 σ [Ch.ro 0 (Sl a13 x6.2.1 c14) x6.2.1, Ch.bx n0 b16 0 [(I x6.1), (Sl a13 x6.2.1 c14), (I x6.2.2)] [] [], Ch.ro 0 (Sl alist_0 list_0 clist_0) list_0]) ?_ ?_
    ·clear h'
     rename _ = some o19 => h
     refine rg ?_
     have hc20 := H.cells 0 rfl
     refine st (v := (.agg #[(I x6.1), (Sl a13 x6.2.1 c14), (I x6.2.2)])) (rv_load (cs := [(I x6.1), (Sl a13 x6.2.1 c14), (I x6.2.2)]) Try.underlying41 rfl ti41 rfl rfl hc20) ?_
     obtain ⟨r21, hx22, h'⟩ := bind_some h
     clear h
     have h := h'; clear h'
     have hc23 := c_impl_validItem (ax_0_1 := a13) (cx_0_1 := c14) hx22
     refine st_call (cx_call hc23 (ent_f hc23.fn rfl) hn0 (show Hp S0 σ0 _ ([Ch.ro 0 (Sl a13 x6.2.1 c14) x6.2.1] ++ [Ch.bx n0 b16 0 [(I x6.1), (Sl a13 x6.2.1 c14), (I x6.2.2)] [] [], Ch.ro 0 (Sl a13 x6.2.1 c14) x6.2.1, Ch.ro 0 (Sl alist_0 list_0 clist_0) list_0]) from (H.sel' [1, 0, 1, 2] rfl rfl))) wn ?_
     rintro _ σ24 ⟨_, ⟨rfl, rfl⟩, H, -⟩
     replace H : Hp S0 σ0 σ24 [Ch.bx n0 b16 0 [(I x6.1), (Sl a13 x6.2.1 c14), (I x6.2.2)] [] [], Ch.ro 0 (Sl a13 x6.2.1 c14) x6.2.1, Ch.ro 0 (Sl alist_0 list_0 clist_0) list_0] := H
     refine st (v := (B (!r21))) (rv_not rfl) ?_
     refine st (v := (B (!r21))) (rv_move rfl) ?_
     rcases Bool.eq_false_or_eq_true (!r21) with hb25 | hb25
     ·replace h := bif_t hb25 h
      refine st_skip (congrArg some hb25) ?_
      refine st_skip (congrArg some hb25) ?_
      refine st_skip (congrArg some hb25) ?_
      refine st_skip (congrArg some hb25) ?_
      refine st (v := (B true)) (rv_pick_t (congrArg B hb25) rfl) ?_
      refine w_end ?_
      obtain rfl := Option.some.inj h
      exact ⟨rfl, _, σ24, fr_join ⟨rfl, rfl, rfl, rfl, rfl, trivial⟩, rfl, H.sel' [1, 0, 2] rfl rfl⟩
     ·replace h := bif_f hb25 h
      refine st_g (v := (pt b16 0)) (congrArg some hb25) (rv_fieldAddr (off := 0) (ft := 3) Try.underlying41 rfl ti3 rfl rfl) ?_
      have hc26 := H.cell (u := (I x6.1)) (o' := 0) 0 0 rfl rfl rfl
      refine st_g (v := (I x6.1)) (congrArg some hb25) (rv_load1 Try.underlying3 rfl rfl hc26) ?_
      refine st_g (v := (I s3.1)) (congrArg some hb25) (rv_move rfl) ?_
      refine st_g (v := (B (decide (x6.1 ≤ s3.1)))) (congrArg some hb25) (rv_leq (a := x6.1) (b := s3.1) rfl rfl) ?_
      refine st (v := (B (decide (x6.1 ≤ s3.1)))) (rv_pick_f (congrArg B hb25) rfl) ?_
      refine w_end ?_
      obtain rfl := Option.some.inj h
      exact ⟨rfl, _, σ24, fr_join ⟨rfl, rfl, rfl, rfl, rfl, trivial⟩, rfl, H.sel' [1, 0, 2] rfl rfl⟩
    ·clear hj
     have h := h'
     clear h' H
     rintro e a w ⟨rfl, ρ, σ27, rfl, rfl, H⟩
     refine q_then ?_
     refine cd_cond o19 rfl (fun hb28 => ?_) (fun hb28 => ?_)
     ·replace h := bif_t hb28 h
      refine c_seq ?_
      refine rg ?_
      refine st (v := (B false)) (rv_assign rfl) ?_
      refine w_end ?_
      refine q_then ?_
      refine c_ret ?_
      refine q_then_r ?_
      refine q_blk_r ?_
      refine q_then_r ?_
      refine q_then_r ?_
      refine q_blk_r ?_
      obtain rfl := Option.some.inj h
      obtain rfl := hres _ rfl
      exact .inr (⟨_, rfl, rfl, _, σ27, fr_join ⟨rfl, trivial⟩, rfl, H.sel' [] rfl rfl⟩)
     ·replace h := bif_f hb28 h
      refine c_skip ?_
      refine q_then ?_
      refine rg ?_
      refine st (v := (pt b16 0)) (rv_fieldAddr (off := 0) (ft := 3) Try.underlying41 rfl ti3 rfl rfl) ?_
      have hc29 := H.cell (u := (I x6.1)) (o' := 0) 1 0 rfl rfl rfl
      refine st (v := (I x6.1)) (rv_load1 Try.underlying3 rfl rfl hc29) ?_
      refine st (v := (I x6.1)) (rv_assign rfl) ?_
      refine w_end ?_
      refine q_blk ?_
      refine q_then ?_
      refine rg ?_
      refine st (v := (I (w64 (s3.2 + 1)))) (rv_add (a := s3.2) (b := 1) rfl rfl) ?_
      refine st (v := (I (w64 (s3.2 + 1)))) (rv_move rfl) ?_
      refine w_end ?_
      refine q_then ?_
      obtain rfl := Option.some.inj h
      exact ⟨_, rfl, _, σ27, fr_join ⟨rfl, rfl, rfl, rfl, trivial⟩, rfl, H.sel' [2] rfl rfl⟩
   ·replace h := bif_f hb5 h
    refine c_exit ?_
    refine q_then_x ?_
    refine q_then_x ?_
    refine q_blk_hit ?_
    obtain rfl := Option.some.inj h
    obtain rfl := hres _ rfl
    exact .inl ⟨_, rfl, rfl, _, σ4, fr_join trivial, rfl, H.sel' [] rfl rfl⟩
  ·clear hj
   have h := h'
   clear h' H
   rintro e a w (⟨t30, rfl, rfl, ρ, σ31, rfl, rfl, H⟩ | ⟨t32, rfl, rfl, ρ, σ33, rfl, rfl, H⟩)
   ·replace h := selim_l h
    refine q_then ?_
    refine c_seq ?_
    refine rg ?_
    refine st (v := (B true)) (rv_assign rfl) ?_
    refine w_end ?_
    refine q_then ?_
    refine c_ret ?_
    obtain rfl := Option.some.inj h
    exact fin_ret (v := (B true)) (results_ok Try.results24 (res_tmp (v := (B true)) rfl res_nil) rfl) ⟨rfl, rfl⟩ (H.sel' [] rfl rfl)
   ·replace h := selim_r h
    refine q_then_r ?_
    obtain rfl := Option.some.inj h
    exact fin_ret (v := (B t32)) (results_ok Try.results24 (res_tmp (v := (B t32)) rfl res_nil) rfl) ⟨rfl, rfl⟩ (H.sel' [] rfl rfl)

end Go.Vs
