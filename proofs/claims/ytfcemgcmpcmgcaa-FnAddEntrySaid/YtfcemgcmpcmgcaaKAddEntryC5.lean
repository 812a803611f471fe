/- The functions compute what their models say. -/
import Derived.Test.YtfcemgcmpcmgcaaKAddEntryC4
set_option linter.unusedVariables false
set_option linter.unusedSimpArgs false
set_option maxHeartbeats 2000000
set_option maxRecDepth 20000
namespace Go.Vs
open Go Go.Proofs
attribute [local irreducible] Code.wp Code.wpIn wpList wpListIn wpQuiet Calls CallsIn

theorem c_spec_copyEntry {Ar : Int × (Int × (List Int) × Int)} {As : Option Addr} {Au : Nat} {r : (Int × (Int × (List Int) × Int))} (h : M.spec_copyEntry Ar = some r) :
    Cal2 Try.prog 62 [(.agg #[(I Ar.1), (I Ar.2.1), (Sl As Ar.2.2.1 Au), (I Ar.2.2.2)])] [Ch.ro 0 (Sl As Ar.2.2.1 Au) Ar.2.2.1] (fun n0 v L => ∃ (az1 : Option Addr), ∃ (cz2 : Nat), v = (.agg #[(I r.1), (I r.2.1), (Sl az1 r.2.2.1 cz2), (I r.2.2.2)]) ∧ L = [Ch.own n0 n0 (Sl az1 r.2.2.1 cz2) r.2.2.1]) := by
 refine cal2 (n := 9) Try.func62 rfl rfl rfl rfl ?_
 intro S0 σ0 n0 hn0 H
 unfold M.spec_copyEntry at h
 refine c_seq (rg (st_ex (ex_box (cs := [(I Ar.1), (I Ar.2.1), (Sl As Ar.2.2.1 Au), (I Ar.2.2.2)]) H hn0 rfl rfl) wn ?_))
 rintro _ σ2 ⟨b1, rfl, H, -⟩
 refine st_ex (ex_alloc (cs := [(I 0), (I 0), (.slice none 0 0), (I 0)]) H hn0 ti43 rfl) wn ?_
 rintro _ σ4 ⟨b3, rfl, H, -⟩
 refine w_end (q_then (c_seq ?_))
 have hc5 := H.cell (u := (I Ar.1)) (o' := 0) 1 0 rfl rfl rfl
 have hc6 := H.part (us := [(I Ar.2.1), (Sl As Ar.2.2.1 Au), (I Ar.2.2.2)]) (o' := 1) 1 1 3 rfl rfl rfl rfl
 revert h; refine br fun r7 hx8 h => ?_
 have hc9 := c_spec_copyItem (Ak := As) (Am := Au) hx8
 have Hs := H
 refine rg2 (σ := σ4) (Nm := (Option Addr) × (Nat)) 5 [4] [[false], [true]] [[(0, 0), (1, 1)], [(0, 0), (1, 1)], [(0, 0)], [(0, 0)], [(0, 1)]] 1 [fun ((a10, c11) : (Option Addr) × (Nat)) => fun σm => Hp S0 σ0 σm [Ch.bx n0 b3 0 [(I 0), (I 0), (.slice none 0 0), (I 0)] [] [], Ch.bx n0 b1 0 [(I Ar.1), (I Ar.2.1), (Sl As Ar.2.2.1 Au), (I Ar.2.2.2)] [] [], Ch.ro 0 (Sl As Ar.2.2.1 Au) Ar.2.2.1] ∧ Md (cov []) σ4 σm, fun ((a10, c11) : (Option Addr) × (Nat)) => fun σm => Hp S0 σ0 σm [Ch.own n0 n0 (Sl a10 r7.2.1 c11) r7.2.1, Ch.bx n0 b3 0 [(I 0), (I 0), (.slice none 0 0), (I 0)] [] [], Ch.bx n0 b1 0 [(I Ar.1), (I Ar.2.1), (Sl As Ar.2.2.1 Au), (I Ar.2.2.2)] [] [], Ch.ro 0 (Sl As Ar.2.2.1 Au) Ar.2.2.1] ∧ Md (cov []) σ4 σm] [fun ((a10, c11) : (Option Addr) × (Nat)) => (pt b1 0), fun ((a10, c11) : (Option Addr) × (Nat)) => (I Ar.1), fun ((a10, c11) : (Option Addr) × (Nat)) => (pt b1 1), fun ((a10, c11) : (Option Addr) × (Nat)) => (.agg #[(I Ar.2.1), (Sl As Ar.2.2.1 Au), (I Ar.2.2.2)]), fun ((a10, c11) : (Option Addr) × (Nat)) => (.agg #[(I r7.1), (Sl a10 r7.2.1 c11), (I r7.2.2)])] (none, 0) (by kernel_rfl) (by kernel_rfl) ?_ ?_ ?_
 ·intro σm m0
  exact ⟨H.grow (m0.mono fun _ h => h.elim), m0⟩
 ·refine ac rfl (by
    intro k; rintro ⟨a10, c11⟩ ρ σm hJ hoff hdep
    have e1 := look_off (N := 9) (hoff 1 rfl) rfl
    exact dp_v (v := (pt b1 0)) wn (rv_fieldAddr (off := 0) (ft := 3) Try.underlying43 rfl ti3 rfl e1) rfl hJ) ?_
  refine all_cons (by
    refine ⟨?_, ?_⟩
    ·rintro ⟨a10, c11⟩ ρ σm hJ hoff hdep
     have e3 := hdep 0 rfl rfl 3 rfl
     obtain ⟨H, m⟩ := id hJ
     have hc5 := H.cell (u := (I Ar.1)) (o' := 0) 1 0 rfl rfl rfl
     exact dp_v (v := (I Ar.1)) wn (rv_load1 Try.underlying3 rfl e3 hc5) rfl hJ
    refine ⟨?_, ?_⟩
    ·rintro ⟨a10, c11⟩ ρ σm hJ hoff hdep
     have e3 := hdep 0 rfl rfl 3 rfl
     obtain ⟨H, m⟩ := id hJ
     have hc5 := H.cell (u := (I Ar.1)) (o' := 0) 2 0 rfl rfl rfl
     exact dp_v (v := (I Ar.1)) wn (rv_load1 Try.underlying3 rfl e3 hc5) rfl hJ
    trivial) ?_
  refine ac rfl (by
    intro k; rintro ⟨a10, c11⟩ ρ σm hJ hoff hdep
    have e1 := look_off (N := 9) (hoff 1 rfl) rfl
    exact dp_v (v := (pt b1 1)) wn (rv_fieldAddr (off := 1) (ft := 41) Try.underlying43 rfl ti41 rfl e1) rfl hJ) ?_
  refine all_cons (by
    refine ⟨?_, ?_⟩
    ·rintro ⟨a10, c11⟩ ρ σm hJ hoff hdep
     have e5 := hdep 2 rfl rfl 5 rfl
     obtain ⟨H, m⟩ := id hJ
     have hc6 := H.part (us := [(I Ar.2.1), (Sl As Ar.2.2.1 Au), (I Ar.2.2.2)]) (o' := 1) 1 1 3 rfl rfl rfl rfl
     exact dp_v (v := (.agg #[(I Ar.2.1), (Sl As Ar.2.2.1 Au), (I Ar.2.2.2)])) wn (rv_load (cs := [(I Ar.2.1), (Sl As Ar.2.2.1 Au), (I Ar.2.2.2)]) Try.underlying41 rfl ti41 e5 rfl hc6) rfl hJ
    trivial) ?_
  refine all_cons (by
    refine ⟨?_, ?_⟩
    ·rintro ⟨a10, c11⟩ ρ σm hJ hoff hdep
     have e6 : look 9 ρ 6 = (.agg #[(I Ar.2.1), (Sl As Ar.2.2.1 Au), (I Ar.2.2.2)]) := hdep 3 rfl rfl 6 rfl
     obtain ⟨H, m⟩ := id hJ
     refine dp_cx wn (cx_call hc9 (ent_f hc9.fn (by show [look 9 ρ 6] = _; rw [e6])) hn0 (H.sel' [2, 0, 1, 2] rfl rfl : Hp S0 σ0 _ ([_] ++ _))) ?_
     rintro _ σq ⟨_, ⟨a10x, c11x, rfl, rfl⟩, H2, m2⟩
     exact ⟨_, (a10x, c11x), rfl, rfl, ⟨H2.sel' [0, 1, 2, 3] rfl rfl, m.comp0 (m2.mono (fun i h => by simp [cov, Ch.ro] at h))⟩, stab [0, 1, 2, 3] (by kernel_rfl) ⟨rfl, rfl, rfl, rfl, trivial⟩⟩
    trivial) ?_
  exact all_nil
 ·rintro ⟨a10, c11⟩ ρ σ12 hJ hoff hrel
  have e2 := look_off (N := 9) (hoff 2 rfl) rfl
  have e4 := hrel 1 rfl 4 rfl
  have e7 := hrel 4 rfl 7 rfl
  obtain ⟨H, -⟩ := (show Hp S0 σ0 σ12 [Ch.own n0 n0 (Sl a10 r7.2.1 c11) r7.2.1, Ch.bx n0 b3 0 [(I 0), (I 0), (.slice none 0 0), (I 0)] [] [], Ch.bx n0 b1 0 [(I Ar.1), (I Ar.2.1), (Sl As Ar.2.2.1 Au), (I Ar.2.2.2)] [] [], Ch.ro 0 (Sl As Ar.2.2.1 Au) Ar.2.2.1] ∧ Md (cov []) σ4 σ12 from hJ)
  clear hJ Hs
  rw [fr_lookL (L := [(2, (pt b3 0)), (4, (I Ar.1)), (7, (.agg #[(I r7.1), (Sl a10 r7.2.1 c11), (I r7.2.2)]))]) ⟨e2, e4, e7, trivial⟩]
  clear hoff hrel e2 e4 e7
  refine st (v := (.agg #[(I Ar.1), (I r7.1), (Sl a10 r7.2.1 c11), (I r7.2.2)])) (rv_build (ps := [(0, (I Ar.1)), (1, (.agg #[(I r7.1), (Sl a10 r7.2.1 c11), (I r7.2.2)]))]) Try.underlying43 ti43 (bp43 Try.underlying43) rfl (by kernel_rfl)) ?_
  refine st_exS (ex_store_box (k := 0) (cs := [(I 0), (I 0), (.slice none 0 0), (I 0)]) (vs := [(I Ar.1), (I r7.1), (Sl a10 r7.2.1 c11), (I r7.2.2)]) (cs' := [(I Ar.1), (I r7.1), (Sl a10 r7.2.1 c11), (I r7.2.2)]) H (i := 1) rfl ti43 rfl rfl rfl rfl rfl (Nat.le_of_ble_eq_true rfl) (by simp [plain]) rfl) wn ?_
  rintro σ13 ⟨H, -⟩
  refine w_end (q_then (c_ret ?_))
  obtain rfl := sj h
  exact fin_ret (v := (.agg #[(I Ar.1), (I r7.1), (Sl a10 r7.2.1 c11), (I r7.2.2)])) (results_ok Try.results62 (res_cell rfl (run_cellRes (cs := [(I Ar.1), (I r7.1), (Sl a10 r7.2.1 c11), (I r7.2.2)]) Try.underlying43 rfl ti43 rfl (H.cells 0 rfl)) res_nil) rfl) ⟨a10, c11, rfl, rfl⟩ (H.sel' [1] rfl rfl)

theorem c_spec_copyHistory {Cc : (List (Int × (Int × (List Int) × Int))) × (List Int)} {Cz : Int} {Cd : Option Addr} {Ce : Nat} {Cf : Option Addr} {Cg : Nat} {r : ((List (Int × (Int × (List Int) × Int))) × (List Int))} (h : M.spec_copyHistory Cc Cz = some r) :
    Cal2 Try.prog 61 [(.agg #[(Sl Cd Cc.1 Ce), (Sl Cf Cc.2 Cg)]), (I Cz)] [Ch.ro 0 (Sl Cd Cc.1 Ce) Cc.1, Ch.ro 0 (Sl Cf Cc.2 Cg) Cc.2] (fun n0 v L => ∃ (az1 : Option Addr), ∃ (cz2 : Nat), ∃ (az3 : Option Addr), ∃ (cz4 : Nat), v = (.agg #[(Sl az1 r.1 cz2), (Sl az3 r.2 cz4)]) ∧ L = [Ch.own n0 n0 (Sl az1 r.1 cz2) r.1, Ch.own n0 n0 (Sl az3 r.2 cz4) r.2]) := by
 refine cal2 (n := 29) Try.func61 rfl rfl rfl rfl ?_
 intro S0 σ0 n0 hn0 H
 unfold M.spec_copyHistory at h
 refine c_seq (rg (st_ex (ex_box (cs := [(Sl Cd Cc.1 Ce), (Sl Cf Cc.2 Cg)]) H hn0 rfl rfl) wn ?_))
 rintro _ σ2 ⟨b1, rfl, H, -⟩
 refine st_ex (ex_alloc (cs := [(.slice none 0 0), (.slice none 0 0)]) H hn0 ti26 rfl) wn ?_
 rintro _ σ4 ⟨b3, rfl, H, -⟩
 refine w_end (q_then (c_seq (rg ?_)))
 refine st_ex (ex_buildSlice (el := n0) (xs := ([] : List (Int × (Int × (List Int) × Int)))) (ps := []) (cs := []) H hn0 Try.underlying23 ti43 rfl rfl (by kernel_rfl) (.nil) rfl) wn ?_
 rintro _ σ6 ⟨b5, rfl, H, -⟩
 refine sa (Sl (some ⟨b5, 0, none⟩) ([] : List (Int × (Int × (List Int) × Int))) 0) rfl (w_end (q_then (c_seq (c_seq (rg (sa (I 0) rfl (w_end (q_then ?_))))))))
 obtain ⟨o7, hj, h'⟩ := bind_some h
 clear h
 refine c_cut (fun e a w => e = .normal ∧ ∃ (ρ : Nat → Value) (σ : St) (aj1 : Option Addr) (cj2 : Nat), a = fr 29 (updL ρ [(1, (I Cz)), (2, (pt b1 0)), (4, (pt b3 0)), (5, (Sl aj1 o7 cj2))]) ∧ w = σ.w ∧ Hp S0 σ0 σ [Ch.ro 0 (Sl Cd Cc.1 Ce) Cc.1, Ch.ro 0 (Sl Cf Cc.2 Cg) Cc.2, Ch.bx n0 b1 0 [(Sl Cd Cc.1 Ce), (Sl Cf Cc.2 Cg)] [] [], Ch.bx n0 b3 0 [(.slice none 0 0), (.slice none 0 0)] [] [], Ch.own n0 n0 (Sl aj1 o7 cj2) o7]) ?_ ?_
 ·clear h'
  rename _ = some o7 => h
  refine c_blk (wp_loopM _ h (fun s8 a w => ∃ (ρ : Nat → Value) (σ : St) (aj1 : Option Addr) (cj2 : Nat), a = fr 29 (updL ρ [(1, (I Cz)), (2, (pt b1 0)), (4, (pt b3 0)), (5, (Sl aj1 s8.1 cj2)), (6, (I s8.2))]) ∧ w = σ.w ∧ Hp S0 σ0 σ [Ch.ro 0 (Sl Cd Cc.1 Ce) Cc.1, Ch.ro 0 (Sl Cf Cc.2 Cg) Cc.2, Ch.bx n0 b1 0 [(Sl Cd Cc.1 Ce), (Sl Cf Cc.2 Cg)] [] [], Ch.bx n0 b3 0 [(.slice none 0 0), (.slice none 0 0)] [] [], Ch.own n0 n0 (Sl aj1 s8.1 cj2) s8.1]) ⟨_, σ6, (some ⟨b5, 0, none⟩), 0, fr_join ⟨rfl, rfl, rfl, rfl, rfl, trivial⟩, rfl, H.sel' [3, 4, 2, 1, 0] rfl rfl⟩ ?_)
  clear h H
  rintro s8 a w o ⟨ρ, σ9, a10, c11, rfl, rfl, H⟩ h hres
  refine c_seq (c_seq (rg (sm (I s8.2) rfl (sm (I Cz) rfl (st (v := (B (decide (s8.2 < Cz)))) (rv_lss (a := s8.2) (b := Cz) rfl rfl) (w_end (q_then ?_)))))))
  refine cd_cond (decide (s8.2 < Cz)) rfl (fun hb12 => ?_) (fun hb12 => ?_)
  ·replace h := bif_t hb12 h
   refine c_skip (q_then (c_seq (c_blk (rg (sm (Sl a10 s8.1 c11) rfl (st (v := (pt b1 0)) (rv_fieldAddr (off := 0) (ft := 23) Try.underlying26 rfl ti23 rfl rfl) ?_))))))
   have hc13 := H.cell (u := (Sl Cd Cc.1 Ce)) (o' := 0) 2 0 rfl rfl rfl
   refine st (v := (Sl Cd Cc.1 Ce)) (rv_load1 Try.underlying23 rfl rfl hc13) (sm (I s8.2) rfl ?_)
   revert h; refine br fun x14 hx15 h => ?_
   obtain ⟨b17, o18, hi16, -⟩ := (H.ro 0 rfl).ix hx15
   refine st (v := (pt b17 o18)) (rv_ix Try.underlying23 ti43 rfl rfl hi16) ?_
   obtain ⟨_, ⟨_, _, rfl, rfl, ⟨_, _, rfl, rfl, ⟨_, _, rfl, ⟨_, rfl, hR23⟩, rfl⟩⟩⟩, hl19, hc20⟩ := ((H.ro 0 rfl).at hx15 hi16).cells
   obtain ⟨a21, c22, rfl⟩ := hR23.isSl
   replace H := H.add (d := Ch.ro 0 (Sl a21 x14.2.2.1 c22) x14.2.2.1) hR23 (fun _ h => h)
   clear hR23
   refine st (v := (.agg #[(I x14.1), (I x14.2.1), (Sl a21 x14.2.2.1 c22), (I x14.2.2.2)])) (rv_load Try.underlying43 rfl ti43 rfl hl19 hc20) ?_
   revert h; refine br fun r24 hx25 h => ?_
   have hc26 := c_spec_copyEntry (As := a21) (Au := c22) hx25
   refine st_call (cx_call hc26 (ent_f hc26.fn rfl) hn0 (H.sel' [0, 0, 1, 2, 3, 4, 5] rfl rfl : Hp S0 σ0 _ ([_] ++ _))) wn ?_
   rintro _ σ29 ⟨_, ⟨a27, c28, rfl, rfl⟩, H, -⟩
   replace H : Hp _ _ _ [_, _, _, _, _, _, _] := H
   obtain ⟨σ30, hw31, H, -⟩ := H.pub 0 rfl (Nat.le_refl _)
   rw [← hw31]; clear hw31
   refine st_ex (ex_buildSlice (el := n0) (xs := ([(r24.1, (r24.2.1, r24.2.2.1, r24.2.2.2))] : List (Int × (Int × (List Int) × Int)))) (ps := [(0, (.agg #[(I r24.1), (I r24.2.1), (Sl a27 r24.2.2.1 c28), (I r24.2.2.2)]))]) (cs := [(I r24.1), (I r24.2.1), (Sl a27 r24.2.2.1 c28), (I r24.2.2.2)]) H hn0 Try.underlying23 ti43 rfl rfl (by kernel_rfl) (.cons (c := [(I r24.1), (I r24.2.1), (Sl a27 r24.2.2.1 c28), (I r24.2.2.2)]) ⟨[(I r24.1)], [(I r24.2.1), (Sl a27 r24.2.2.1 c28), (I r24.2.2.2)], rfl, rfl, ⟨[(I r24.2.1)], [(Sl a27 r24.2.2.1 c28), (I r24.2.2.2)], rfl, rfl, ⟨[(Sl a27 r24.2.2.1 c28)], [(I r24.2.2.2)], rfl, ⟨_, rfl, (H.ro 0 rfl)⟩, rfl⟩⟩⟩ (.nil)) rfl) wn ?_
   rintro _ σ33 ⟨b32, rfl, H, -⟩
   replace H : Hp S0 σ0 σ33 [Ch.own n0 n0 (Sl (some ⟨b32, 0, none⟩) ([(r24.1, (r24.2.1, r24.2.2.1, r24.2.2.2))] : List (Int × (Int × (List Int) × Int))) 1) ([(r24.1, (r24.2.1, r24.2.2.1, r24.2.2.2))] : List (Int × (Int × (List Int) × Int))), Ch.ro 0 (Sl Cd Cc.1 Ce) Cc.1, Ch.ro 0 (Sl Cf Cc.2 Cg) Cc.2, Ch.bx n0 b1 0 [(Sl Cd Cc.1 Ce), (Sl Cf Cc.2 Cg)] [] [], Ch.bx n0 b3 0 [(.slice none 0 0), (.slice none 0 0)] [] [], Ch.own n0 n0 (Sl a10 s8.1 c11) s8.1] := H.sel' [0, 3, 4, 5, 6, 7] rfl rfl
   revert h; refine br fun xs34 hx35 h => ?_
   refine st_ex (ex_append H (i := 5) rfl Try.underlying23 Try.underlying23 ti43 rfl rfl (by decide) (H.own 0 rfl).rd hx35 hn0 rfl rfl) wn ?_
   rintro _ σ38 ⟨a36, c37, rfl, H, -⟩
   refine sa (Sl a36 xs34 c37) rfl (w_end (q_blk (q_then (rg (sm (I s8.2) rfl (st (v := (I (w64 (s8.2 + 1)))) (rv_add (a := s8.2) (b := 1) rfl rfl) (sa (I (w64 (s8.2 + 1))) rfl (w_end (q_then ?_)))))))))
   obtain rfl := sj h
   exact ⟨_, rfl, _, σ38, a36, c37, fr_join ⟨rfl, rfl, rfl, rfl, rfl, trivial⟩, rfl, H.sel' [2, 3, 4, 5, 0] rfl rfl⟩
  ·replace h := bif_f hb12 h
   refine c_exit (q_then_x (q_then_x (q_blk_hit ?_)))
   obtain rfl := sj h
   obtain rfl := hres _ rfl
   exact ⟨rfl, _, σ9, a10, c11, fr_join ⟨rfl, rfl, rfl, rfl, trivial⟩, rfl, H.sel' [0, 1, 2, 3, 4] rfl rfl⟩
 ·clear hj
  have h := h'
  clear h' H
  rintro e a w ⟨rfl, ρ, σ39, a40, c41, rfl, rfl, H⟩
  refine q_then (c_seq (rg (sm (Sl a40 o7 c41) rfl (st (v := (pt b1 1)) (rv_fieldAddr (off := 1) (ft := 24) Try.underlying26 rfl ti24 rfl rfl) ?_))))
  have hc42 := H.cell (u := (Sl Cf Cc.2 Cg)) (o' := 1) 2 1 rfl rfl rfl
  refine st (v := (Sl Cf Cc.2 Cg)) (rv_load1 Try.underlying24 rfl rfl hc42) (sm (I Cz) rfl ?_)
  revert h; refine br fun xs43 hx44 h => ?_
  obtain ⟨a45, c46, hs47, hR48⟩ := (H.ro 1 rfl).slice hx44
  replace H := H.add (d := Ch.ro 0 (Sl a45 xs43 c46) xs43) hR48 (fun _ h => h)
  clear hR48
  refine st (v := (Sl a45 xs43 c46)) (rv_slice_h Try.underlying24 ti3 hs47 rfl rfl) ?_
  revert h; refine br fun r49 hx50 h => ?_
  have hc51 := c_spec_copyInts (Ap := a45) (Aq := c46) hx50
  refine st_call (cx_call hc51 (ent_f hc51.fn rfl) hn0 (H.sel' [0, 0, 1, 2, 3, 4, 5] rfl rfl : Hp S0 σ0 _ ([_] ++ _))) wn ?_
  rintro _ σ54 ⟨_, ⟨a52, c53, rfl, rfl⟩, H, -⟩
  replace H : Hp _ _ _ [_, _, _, _, _, _, _] := H
  refine st (v := (.agg #[(Sl a40 o7 c41), (Sl a52 r49 c53)])) (rv_build (ps := [(0, (Sl a40 o7 c41)), (1, (Sl a52 r49 c53))]) Try.underlying26 ti26 (bp26 Try.underlying26) rfl (by kernel_rfl)) ?_
  refine st_exS (ex_store_box (k := 0) (cs := [(.slice none 0 0), (.slice none 0 0)]) (vs := [(Sl a40 o7 c41), (Sl a52 r49 c53)]) (cs' := [(Sl a40 o7 c41), (Sl a52 r49 c53)]) H (i := 5) rfl ti26 rfl rfl rfl rfl rfl (Nat.le_of_ble_eq_true rfl) (by simp [plain]) rfl) wn ?_
  rintro σ55 ⟨H, -⟩
  refine w_end (q_then (c_ret ?_))
  obtain rfl := sj h
  exact fin_ret (v := (.agg #[(Sl a40 o7 c41), (Sl a52 r49 c53)])) (results_ok Try.results61 (res_cell rfl (run_cellRes (cs := [(Sl a40 o7 c41), (Sl a52 r49 c53)]) Try.underlying26 rfl ti26 rfl (H.cells 0 rfl)) res_nil) rfl) ⟨a40, c41, a52, c53, rfl, rfl⟩ (H.sel' [6, 1] rfl rfl)

theorem c_spec_AddEntry {Cc : (List (Int × (Int × (List Int) × Int))) × (List Int)} {Cm : Int × (Int × (List Int) × Int)} {Dn : Int} {Cd : Option Addr} {Ce : Nat} {Cf : Option Addr} {Cg : Nat} {Cn : Option Addr} {Cp : Nat} {r : ((List (Int × (Int × (List Int) × Int))) × (List Int)) × Bool} (h : M.spec_AddEntry Cc Cm Dn = some r) :
    Cal2 Try.prog 28 [(.agg #[(Sl Cd Cc.1 Ce), (Sl Cf Cc.2 Cg)]), (.agg #[(I Cm.1), (I Cm.2.1), (Sl Cn Cm.2.2.1 Cp), (I Cm.2.2.2)]), (I Dn)] [Ch.ro 0 (Sl Cd Cc.1 Ce) Cc.1, Ch.ro 0 (Sl Cf Cc.2 Cg) Cc.2, Ch.ro 0 (Sl Cn Cm.2.2.1 Cp) Cm.2.2.1] (fun n0 v L => ∃ (az1 : Option Addr), ∃ (cz2 : Nat), ∃ (az3 : Option Addr), ∃ (cz4 : Nat), v = (.tuple #[(.agg #[(Sl az1 r.1.1 cz2), (Sl az3 r.1.2 cz4)]), (B r.2)]) ∧ L = [Ch.own n0 n0 (Sl az1 r.1.1 cz2) r.1.1, Ch.own n0 n0 (Sl az3 r.1.2 cz4) r.1.2]) := by
 refine cal2 (n := 41) Try.func28 rfl rfl rfl rfl ?_
 intro S0 σ0 n0 hn0 H
 unfold M.spec_AddEntry at h
 refine c_seq (rg (st_ex (ex_box (cs := [(Sl Cd Cc.1 Ce), (Sl Cf Cc.2 Cg)]) H hn0 rfl rfl) wn ?_))
 rintro _ σ2 ⟨b1, rfl, H, -⟩
 refine st_ex (ex_box (cs := [(I Cm.1), (I Cm.2.1), (Sl Cn Cm.2.2.1 Cp), (I Cm.2.2.2)]) H hn0 rfl rfl) wn ?_
 rintro _ σ4 ⟨b3, rfl, H, -⟩
 refine st_ex (ex_alloc (cs := [(.slice none 0 0), (.slice none 0 0)]) H hn0 ti26 rfl) wn ?_
 rintro _ σ6 ⟨b5, rfl, H, -⟩
 refine sa (B false) rfl (w_end (q_then (c_seq (c_seq ?_))))
 obtain ⟨o7, hj, h'⟩ := bind_some h
 clear h
 refine c_cut (fun e a w => e = .normal ∧ ∃ (ρ : Nat → Value) (σ : St), a = fr 41 (updL ρ [(2, (I Dn)), (3, (pt b1 0)), (4, (pt b3 0)), (6, (pt b5 0)), (16, (B o7))]) ∧ w = σ.w ∧ Hp S0 σ0 σ [Ch.ro 0 (Sl Cd Cc.1 Ce) Cc.1, Ch.ro 0 (Sl Cf Cc.2 Cg) Cc.2, Ch.bx n0 b1 0 [(Sl Cd Cc.1 Ce), (Sl Cf Cc.2 Cg)] [] [], Ch.ro 0 (Sl Cn Cm.2.2.1 Cp) Cm.2.2.1, Ch.bx n0 b3 0 [(I Cm.1), (I Cm.2.1), (Sl Cn Cm.2.2.1 Cp), (I Cm.2.2.2)] [] [], Ch.bx n0 b5 0 [(.slice none 0 0), (.slice none 0 0)] [] []]) ?_ ?_
 ·clear h'
  rename _ = some o7 => h
  refine rg ?_
  have hc8 := H.cells 2 rfl
  refine st (v := (.agg #[(Sl Cd Cc.1 Ce), (Sl Cf Cc.2 Cg)])) (rv_load (cs := [(Sl Cd Cc.1 Ce), (Sl Cf Cc.2 Cg)]) Try.underlying26 rfl ti26 rfl rfl hc8) ?_
  revert h; refine br fun r9 hx10 h => ?_
  have hc11 := c_spec_validHistory (Cd := Cd) (Ce := Ce) (Cf := Cf) (Cg := Cg) hx10
  refine st_call (cx_call hc11 (ent_f hc11.fn rfl) hn0 (H.sel' [3, 4, 0, 1, 2, 3, 4, 5] rfl rfl : Hp S0 σ0 _ ([_, _] ++ _))) wn ?_
  rintro _ σ12 ⟨_, ⟨rfl, rfl⟩, H, -⟩
  replace H : Hp _ _ _ [_, _, _, _, _, _] := H
  refine st (v := (B (!r9))) (rv_not rfl) (sm (B (!r9)) rfl ?_)
  rcases Bool.eq_false_or_eq_true (!r9) with hb13 | hb13
  ·replace h := bif_t hb13 h
   refine st_skip (congrArg some hb13) (st_skip (congrArg some hb13) (st_skip (congrArg some hb13) (st (v := (B true)) (rv_pick_t (congrArg B hb13) rfl) (w_end ?_))))
   obtain rfl := sj h
   exact ⟨rfl, _, σ12, fr_join ⟨rfl, rfl, rfl, rfl, rfl, trivial⟩, rfl, H.sel' [3, 4, 2, 5, 1, 0] rfl rfl⟩
  ·replace h := bif_f hb13 h
   have hc14 := H.cells 1 rfl
   refine st_g (v := (.agg #[(I Cm.1), (I Cm.2.1), (Sl Cn Cm.2.2.1 Cp), (I Cm.2.2.2)])) (congrArg some hb13) (rv_load (cs := [(I Cm.1), (I Cm.2.1), (Sl Cn Cm.2.2.1 Cp), (I Cm.2.2.2)]) Try.underlying43 rfl ti43 rfl rfl hc14) ?_
   revert h; refine br fun r15 hx16 h => ?_
   have hc17 := c_spec_validEntry (As := Cn) (Au := Cp) hx16
   refine st_call (cx_call hc17 (ent_f hc17.fn rfl) hn0 (H.sel' [5, 0, 1, 2, 3, 4, 5] rfl rfl : Hp S0 σ0 _ ([_] ++ _))) (wanted_yes rfl (by exact (congrArg some hb13))) ?_
   rintro _ σ18 ⟨_, ⟨rfl, rfl⟩, H, -⟩
   replace H : Hp _ _ _ [_, _, _, _, _, _] := H
   refine st_g (v := (B (!r15))) (congrArg some hb13) (rv_not rfl) (st (v := (B (!r15))) (rv_pick_f (congrArg B hb13) rfl) (w_end ?_))
   obtain rfl := sj h
   exact ⟨rfl, _, σ18, fr_join ⟨rfl, rfl, rfl, rfl, rfl, trivial⟩, rfl, H.sel' [3, 4, 2, 5, 1, 0] rfl rfl⟩
 ·clear hj
  have h := h'
  clear h' H
  rintro e a w ⟨rfl, ρ, σ19, rfl, rfl, H⟩
  refine q_then ?_
  refine cd_cond o7 rfl (fun hb20 => ?_) (fun hb20 => ?_)
  ·replace h := bif_t hb20 h
   refine c_seq (rg ?_)
   refine st (v := (.agg #[(.slice none 0 0), (.slice none 0 0)])) (rv_build (ps := []) Try.underlying26 ti26 (bp26 Try.underlying26) rfl (by kernel_rfl)) ?_
   refine st_exS (ex_store_box (k := 0) (cs := [(.slice none 0 0), (.slice none 0 0)]) (vs := [(.slice none 0 0), (.slice none 0 0)]) (cs' := [(.slice none 0 0), (.slice none 0 0)]) H (i := 5) rfl ti26 rfl rfl rfl rfl rfl (Nat.le_of_ble_eq_true rfl) (by simp [plain]) rfl) wn ?_
   rintro σ21 ⟨H, -⟩
   refine sa (B false) rfl (w_end (q_then (c_ret (q_then_r ?_))))
   replace H := H.nilOwn (Int × (Int × (List Int) × Int)) n0 n0
   replace H := H.nilOwn Int n0 n0
   obtain rfl := sj h
   exact fin_ret (v := (.tuple #[(.agg #[(.slice none 0 0), (.slice none 0 0)]), (B false)])) (results_ok Try.results28 (res_cell rfl (run_cellRes (cs := [(.slice none 0 0), (.slice none 0 0)]) Try.underlying26 rfl ti26 rfl (H.cells 2 rfl)) (res_tmp (v := (B false)) rfl res_nil)) rfl) ⟨none, 0, none, 0, rfl, rfl⟩ (H.sel' [1, 0] rfl rfl)
  ·replace h := bif_f hb20 h
   refine c_skip (q_then (c_seq (rg ?_)))
   have hc22 := H.cells 2 rfl
   refine st (v := (.agg #[(Sl Cd Cc.1 Ce), (Sl Cf Cc.2 Cg)])) (rv_load (cs := [(Sl Cd Cc.1 Ce), (Sl Cf Cc.2 Cg)]) Try.underlying26 rfl ti26 rfl rfl hc22) (st (v := (pt b1 0)) (rv_fieldAddr (off := 0) (ft := 23) Try.underlying26 rfl ti23 rfl rfl) ?_)
   have hc23 := H.cell (u := (Sl Cd Cc.1 Ce)) (o' := 0) 2 0 rfl rfl rfl
   refine st (v := (Sl Cd Cc.1 Ce)) (rv_load1 Try.underlying23 rfl rfl hc23) (st (v := (I (Cc.1.length : Int))) (rv_len Try.underlying23 rfl) ?_)
   revert h; refine br fun r24 hx25 h => ?_
   have hc26 := c_spec_copyHistory (Cd := Cd) (Ce := Ce) (Cf := Cf) (Cg := Cg) hx25
   refine st_call (cx_call hc26 (ent_f hc26.fn rfl) hn0 (H.sel' [0, 1, 0, 1, 2, 3, 4, 5] rfl rfl : Hp S0 σ0 _ ([_, _] ++ _))) wn ?_
   rintro _ σ31 ⟨_, ⟨a27, c28, a29, c30, rfl, rfl⟩, H, -⟩
   replace H : Hp _ _ _ [_, _, _, _, _, _, _, _] := H
   replace H : Hp S0 σ0 σ31 [Ch.own n0 n0 (Sl a27 r24.1 c28) r24.1, Ch.own n0 n0 (Sl a29 r24.2 c30) r24.2, Ch.ro 0 (Sl Cn Cm.2.2.1 Cp) Cm.2.2.1, Ch.bx n0 b3 0 [(I Cm.1), (I Cm.2.1), (Sl Cn Cm.2.2.1 Cp), (I Cm.2.2.2)] [] [], Ch.bx n0 b5 0 [(.slice none 0 0), (.slice none 0 0)] [] []] := H.sel' [0, 1, 5, 6, 7] rfl rfl
   refine st_ex (ex_alloc (cs := [(.slice none 0 0), (.slice none 0 0)]) H hn0 ti26 rfl) wn ?_
   rintro _ σ33 ⟨b32, rfl, H, -⟩
   refine st_exS (ex_store_box (k := 0) (cs := [(.slice none 0 0), (.slice none 0 0)]) (vs := [(Sl a27 r24.1 c28), (Sl a29 r24.2 c30)]) (cs' := [(Sl a27 r24.1 c28), (Sl a29 r24.2 c30)]) H (i := 0) rfl ti26 rfl rfl rfl rfl rfl (Nat.le_of_ble_eq_true rfl) (by simp [plain]) rfl) wn ?_
   rintro σ34 ⟨H, -⟩
   refine w_end (q_then (c_seq ?_))
   have hc35 := H.cell (u := (Sl a27 r24.1 c28)) (o' := 0) 0 0 rfl rfl rfl
   have hc36 := H.cells 4 rfl
   revert h; refine br fun r37 hx38 h => ?_
   have hc39 := c_spec_copyEntry (As := Cn) (Au := Cp) hx38
   have Hs := H
   refine rg2 (σ := σ34) (Nm := (Option Addr) × (Nat) × (Nat)) 5 [3, 4] [[false, false], [true, false], [true, true]] [[(0, 0), (1, 1), (2, 2)], [(0, 0), (1, 1), (2, 2)], [(0, 0)], [(0, 1)], [(1, 2)]] 2 [fun ((a40, c41, b42) : (Option Addr) × (Nat) × (Nat)) => fun σm => Hp S0 σ0 σm [Ch.bx n0 b32 0 [(Sl a27 r24.1 c28), (Sl a29 r24.2 c30)] [] [], Ch.own n0 n0 (Sl a27 r24.1 c28) r24.1, Ch.own n0 n0 (Sl a29 r24.2 c30) r24.2, Ch.ro 0 (Sl Cn Cm.2.2.1 Cp) Cm.2.2.1, Ch.bx n0 b3 0 [(I Cm.1), (I Cm.2.1), (Sl Cn Cm.2.2.1 Cp), (I Cm.2.2.2)] [] [], Ch.bx n0 b5 0 [(.slice none 0 0), (.slice none 0 0)] [] []] ∧ Md (cov []) σ34 σm, fun ((a40, c41, b42) : (Option Addr) × (Nat) × (Nat)) => fun σm => Hp S0 σ0 σm [Ch.ro n0 (Sl a40 r37.2.2.1 c41) r37.2.2.1, Ch.bx n0 b32 0 [(Sl a27 r24.1 c28), (Sl a29 r24.2 c30)] [] [], Ch.own n0 n0 (Sl a27 r24.1 c28) r24.1, Ch.own n0 n0 (Sl a29 r24.2 c30) r24.2, Ch.ro 0 (Sl Cn Cm.2.2.1 Cp) Cm.2.2.1, Ch.bx n0 b3 0 [(I Cm.1), (I Cm.2.1), (Sl Cn Cm.2.2.1 Cp), (I Cm.2.2.2)] [] [], Ch.bx n0 b5 0 [(.slice none 0 0), (.slice none 0 0)] [] []] ∧ Md (fun i => (cov []) i ∨ (fun i => (cov [Ch.ro 0 (Sl Cn Cm.2.2.1 Cp) Cm.2.2.1]) i ∨ (fun b => blk (Sl a40 r37.2.2.1 c41) = some b) i) i) σ34 σm, fun ((a40, c41, b42) : (Option Addr) × (Nat) × (Nat)) => fun σm => Hp S0 σ0 σm [Ch.own n0 n0 (Sl (some ⟨b42, 0, none⟩) ([(r37.1, (r37.2.1, r37.2.2.1, r37.2.2.2))] : List (Int × (Int × (List Int) × Int))) 1) ([(r37.1, (r37.2.1, r37.2.2.1, r37.2.2.2))] : List (Int × (Int × (List Int) × Int))), Ch.ro n0 (Sl a40 r37.2.2.1 c41) r37.2.2.1, Ch.bx n0 b32 0 [(Sl a27 r24.1 c28), (Sl a29 r24.2 c30)] [] [], Ch.own n0 n0 (Sl a27 r24.1 c28) r24.1, Ch.own n0 n0 (Sl a29 r24.2 c30) r24.2, Ch.ro 0 (Sl Cn Cm.2.2.1 Cp) Cm.2.2.1, Ch.bx n0 b3 0 [(I Cm.1), (I Cm.2.1), (Sl Cn Cm.2.2.1 Cp), (I Cm.2.2.2)] [] [], Ch.bx n0 b5 0 [(.slice none 0 0), (.slice none 0 0)] [] []] ∧ Md (fun i => (cov []) i ∨ (fun i => (cov [Ch.ro 0 (Sl Cn Cm.2.2.1 Cp) Cm.2.2.1]) i ∨ (fun b => blk (Sl a40 r37.2.2.1 c41) = some b) i) i) σ34 σm] [fun ((a40, c41, b42) : (Option Addr) × (Nat) × (Nat)) => (pt b32 0), fun ((a40, c41, b42) : (Option Addr) × (Nat) × (Nat)) => (Sl a27 r24.1 c28), fun ((a40, c41, b42) : (Option Addr) × (Nat) × (Nat)) => (.agg #[(I Cm.1), (I Cm.2.1), (Sl Cn Cm.2.2.1 Cp), (I Cm.2.2.2)]), fun ((a40, c41, b42) : (Option Addr) × (Nat) × (Nat)) => (.agg #[(I r37.1), (I r37.2.1), (Sl a40 r37.2.2.1 c41), (I r37.2.2.2)]), fun ((a40, c41, b42) : (Option Addr) × (Nat) × (Nat)) => (Sl (some ⟨b42, 0, none⟩) ([(r37.1, (r37.2.1, r37.2.2.1, r37.2.2.2))] : List (Int × (Int × (List Int) × Int))) 1)] (none, 0, 0) (by kernel_rfl) (by kernel_rfl) ?_ ?_ ?_
   ·intro σm m0
    exact ⟨H.grow (m0.mono fun _ h => h.elim), m0⟩
   ·refine ac rfl (by
      intro k; rintro ⟨a40, c41, b42⟩ ρ σm hJ hoff hdep
      have e8 := look_off (N := 41) (hoff 8 rfl) rfl
      exact dp_v (v := (pt b32 0)) wn (rv_fieldAddr (off := 0) (ft := 23) Try.underlying26 rfl ti23 rfl e8) rfl hJ) ?_
    refine all_cons (by
      refine ⟨?_, ?_⟩
      ·rintro ⟨a40, c41, b42⟩ ρ σm hJ hoff hdep
       have e23 := hdep 0 rfl rfl 23 rfl
       obtain ⟨H, m⟩ := id hJ
       have hc35 := H.cell (u := (Sl a27 r24.1 c28)) (o' := 0) 0 0 rfl rfl rfl
       exact dp_v (v := (Sl a27 r24.1 c28)) wn (rv_load1 Try.underlying23 rfl e23 hc35) rfl hJ
      refine ⟨?_, ?_⟩
      ·rintro ⟨a40, c41, b42⟩ ρ σm hJ hoff hdep
       have e23 := hdep 0 rfl rfl 23 rfl
       obtain ⟨H, m⟩ := id hJ
       have hc35 := H.cell (u := (Sl a27 r24.1 c28)) (o' := 0) 1 0 rfl rfl rfl
       exact dp_v (v := (Sl a27 r24.1 c28)) wn (rv_load1 Try.underlying23 rfl e23 hc35) rfl hJ
      refine ⟨?_, ?_⟩
      ·rintro ⟨a40, c41, b42⟩ ρ σm hJ hoff hdep
       have e23 := hdep 0 rfl rfl 23 rfl
       obtain ⟨H, m⟩ := id hJ
       have hc35 := H.cell (u := (Sl a27 r24.1 c28)) (o' := 0) 2 0 rfl rfl rfl
       exact dp_v (v := (Sl a27 r24.1 c28)) wn (rv_load1 Try.underlying23 rfl e23 hc35) rfl hJ
      trivial) ?_
    refine all_cons (by
      refine ⟨?_, ?_⟩
      ·rintro ⟨a40, c41, b42⟩ ρ σm hJ hoff hdep
       have e4 := look_off (N := 41) (hoff 4 rfl) rfl
       obtain ⟨H, m⟩ := id hJ
       have hc36 := H.cells 4 rfl
       exact dp_v (v := (.agg #[(I Cm.1), (I Cm.2.1), (Sl Cn Cm.2.2.1 Cp), (I Cm.2.2.2)])) wn (rv_load (cs := [(I Cm.1), (I Cm.2.1), (Sl Cn Cm.2.2.1 Cp), (I Cm.2.2.2)]) Try.underlying43 rfl ti43 e4 rfl hc36) rfl hJ
      trivial) ?_
    refine all_cons (by
      refine ⟨?_, ?_⟩
      ·rintro ⟨a40, c41, b42⟩ ρ σm hJ hoff hdep
       have e25 : look 41 ρ 25 = (.agg #[(I Cm.1), (I Cm.2.1), (Sl Cn Cm.2.2.1 Cp), (I Cm.2.2.2)]) := hdep 2 rfl rfl 25 rfl
       obtain ⟨H, m⟩ := id hJ
       refine dp_cx wn (cx_call hc39 (ent_f hc39.fn (by show [look 41 ρ 25] = _; rw [e25])) hn0 (H.sel' [3, 0, 1, 2, 3, 4, 5] rfl rfl : Hp S0 σ0 _ ([_] ++ _))) ?_
       rintro _ σq ⟨_, ⟨a40x, c41x, rfl, rfl⟩, H2, m2⟩
       obtain ⟨σr0, hwr0, H2, mr0⟩ := H2.pub 0 rfl (Nat.le_refl _)
       exact ⟨_, (a40x, c41x, b42), hwr0, rfl, ⟨H2.sel' [0, 1, 2, 3, 4, 5, 6] rfl rfl, m.comp (m2.comp mr0)⟩, stab [0, 1, 2] (by kernel_rfl) ⟨rfl, rfl, rfl, trivial⟩⟩
      trivial) ?_
    refine all_cons (by
      refine ⟨?_, ?_⟩
      ·rintro ⟨a40, c41, b42⟩ ρ σm hJ hoff hdep
       have e26 : look 41 ρ 26 = (.agg #[(I r37.1), (I r37.2.1), (Sl a40 r37.2.2.1 c41), (I r37.2.2.2)]) := hdep 3 rfl rfl 26 rfl
       obtain ⟨H, m⟩ := id hJ
       refine dp_ex wn (ex_buildSlice (el := n0) (xs := ([(r37.1, (r37.2.1, r37.2.2.1, r37.2.2.2))] : List (Int × (Int × (List Int) × Int)))) (ps := [(0, (.agg #[(I r37.1), (I r37.2.1), (Sl a40 r37.2.2.1 c41), (I r37.2.2.2)]))]) (cs := [(I r37.1), (I r37.2.1), (Sl a40 r37.2.2.1 c41), (I r37.2.2.2)]) H hn0 Try.underlying23 ti43 rfl (by show [(0, look 41 ρ 26)] = _; rw [e26]) (by kernel_rfl) (.cons (c := [(I r37.1), (I r37.2.1), (Sl a40 r37.2.2.1 c41), (I r37.2.2.2)]) ⟨[(I r37.1)], [(I r37.2.1), (Sl a40 r37.2.2.1 c41), (I r37.2.2.2)], rfl, rfl, ⟨[(I r37.2.1)], [(Sl a40 r37.2.2.1 c41), (I r37.2.2.2)], rfl, rfl, ⟨[(Sl a40 r37.2.2.1 c41)], [(I r37.2.2.2)], rfl, ⟨_, rfl, (H.ro 0 rfl)⟩, rfl⟩⟩⟩ (.nil)) rfl) ?_
       rintro _ σq ⟨b42x, rfl, H2, m2⟩
       exact ⟨_, (a40, c41, b42x), rfl, rfl, ⟨H2.sel' [0, 1, 2, 3, 4, 5, 6, 7] rfl rfl, m.comp0 m2⟩, stab [0, 1, 2, 3] (by kernel_rfl) ⟨rfl, rfl, rfl, rfl, trivial⟩⟩
      trivial) ?_
    exact all_nil
   ·rintro ⟨a40, c41, b42⟩ ρ σ43 hJ hoff hrel
    have e2 := look_off (N := 41) (hoff 2 rfl) rfl
    have e6 := look_off (N := 41) (hoff 6 rfl) rfl
    have e8 := look_off (N := 41) (hoff 8 rfl) rfl
    have e24 := hrel 1 rfl 24 rfl
    have e27 := hrel 4 rfl 27 rfl
    obtain ⟨H, -⟩ := (show Hp S0 σ0 σ43 [Ch.own n0 n0 (Sl (some ⟨b42, 0, none⟩) ([(r37.1, (r37.2.1, r37.2.2.1, r37.2.2.2))] : List (Int × (Int × (List Int) × Int))) 1) ([(r37.1, (r37.2.1, r37.2.2.1, r37.2.2.2))] : List (Int × (Int × (List Int) × Int))), Ch.ro n0 (Sl a40 r37.2.2.1 c41) r37.2.2.1, Ch.bx n0 b32 0 [(Sl a27 r24.1 c28), (Sl a29 r24.2 c30)] [] [], Ch.own n0 n0 (Sl a27 r24.1 c28) r24.1, Ch.own n0 n0 (Sl a29 r24.2 c30) r24.2, Ch.ro 0 (Sl Cn Cm.2.2.1 Cp) Cm.2.2.1, Ch.bx n0 b3 0 [(I Cm.1), (I Cm.2.1), (Sl Cn Cm.2.2.1 Cp), (I Cm.2.2.2)] [] [], Ch.bx n0 b5 0 [(.slice none 0 0), (.slice none 0 0)] [] []] ∧ Md (fun i => (cov []) i ∨ (fun i => (cov [Ch.ro 0 (Sl Cn Cm.2.2.1 Cp) Cm.2.2.1]) i ∨ (fun b => blk (Sl a40 r37.2.2.1 c41) = some b) i) i) σ34 σ43 from hJ)
    clear hJ Hs
    rw [fr_lookL (L := [(2, (I Dn)), (6, (pt b5 0)), (8, (pt b32 0)), (24, (Sl a27 r24.1 c28)), (27, (Sl (some ⟨b42, 0, none⟩) ([(r37.1, (r37.2.1, r37.2.2.1, r37.2.2.2))] : List (Int × (Int × (List Int) × Int))) 1))]) ⟨e2, e6, e8, e24, e27, trivial⟩]
    clear hoff hrel e2 e6 e8 e24 e27
    revert h; refine br fun xs44 hx45 h => ?_
    refine st_ex (ex_append H (i := 3) rfl Try.underlying23 Try.underlying23 ti43 rfl rfl (by decide) (H.own 0 rfl).rd hx45 hn0 rfl rfl) wn ?_
    rintro _ σ48 ⟨a46, c47, rfl, H, -⟩
    replace H : Hp S0 σ0 σ48 [Ch.own n0 n0 (Sl a46 xs44 c47) xs44, Ch.bx n0 b32 0 [(Sl a27 r24.1 c28), (Sl a29 r24.2 c30)] [] [], Ch.own n0 n0 (Sl a29 r24.2 c30) r24.2, Ch.bx n0 b5 0 [(.slice none 0 0), (.slice none 0 0)] [] []] := H.sel' [0, 3, 4, 7] rfl rfl
    refine st (v := (pt b32 0)) (rv_fieldAddr (off := 0) (ft := 23) Try.underlying26 rfl ti23 rfl rfl) ?_
    refine st_exS (ex_store_box (k := 0) (cs := [(Sl a27 r24.1 c28), (Sl a29 r24.2 c30)]) (vs := [(Sl a46 xs44 c47)]) (cs' := [(Sl a46 xs44 c47), (Sl a29 r24.2 c30)]) H (i := 1) rfl ti23 rfl rfl rfl rfl rfl (Nat.le_of_ble_eq_true rfl) (by simp [plain]) rfl) wn ?_
    rintro σ49 ⟨H, -⟩
    refine w_end (q_then (c_seq (rg (st (v := (pt b32 1)) (rv_fieldAddr (off := 1) (ft := 24) Try.underlying26 rfl ti24 rfl rfl) ?_))))
    have hc50 := H.cell (u := (Sl a29 r24.2 c30)) (o' := 1) 0 1 rfl rfl rfl
    refine st (v := (Sl a29 r24.2 c30)) (rv_load1 Try.underlying24 rfl rfl hc50) (sm (I Dn) rfl ?_)
    refine st_ex (ex_buildSlice (el := n0) (xs := ([Dn] : List Int)) (ps := [(0, (I Dn))]) (cs := [(I Dn)]) H hn0 Try.underlying24 ti3 rfl rfl (by kernel_rfl) (.cons (c := [(I Dn)]) rfl (.nil)) rfl) wn ?_
    rintro _ σ52 ⟨b51, rfl, H, -⟩
    revert h; refine br fun xs53 hx54 h => ?_
    refine st_ex (ex_append H (i := 3) rfl Try.underlying24 Try.underlying24 ti3 rfl rfl (by decide) (H.own 0 rfl).rd hx54 hn0 rfl rfl) wn ?_
    rintro _ σ57 ⟨a55, c56, rfl, H, -⟩
    refine st (v := (pt b32 1)) (rv_fieldAddr (off := 1) (ft := 24) Try.underlying26 rfl ti24 rfl rfl) ?_
    refine st_exS (ex_store_box (k := 1) (cs := [(Sl a46 xs44 c47), (Sl a29 r24.2 c30)]) (vs := [(Sl a55 xs53 c56)]) (cs' := [(Sl a46 xs44 c47), (Sl a55 xs53 c56)]) H (i := 2) rfl ti24 rfl rfl rfl rfl rfl (Nat.le_of_ble_eq_true rfl) (by simp [plain]) rfl) wn ?_
    rintro σ58 ⟨H, -⟩
    refine w_end (q_then (c_seq (c_seq (rg ?_))))
    have hc59 := H.cells 0 rfl
    refine st (v := (.agg #[(Sl a46 xs44 c47), (Sl a55 xs53 c56)])) (rv_load (cs := [(Sl a46 xs44 c47), (Sl a55 xs53 c56)]) Try.underlying26 rfl ti26 rfl rfl hc59) ?_
    revert h; refine br fun r60 hx61 h => ?_
    have hc62 := c_spec_validHistory (Cd := a46) (Ce := c47) (Cf := a55) (Cg := c56) hx61
    have hle := Nat.le_trans hn0 H.size
    refine st_call (cx_lend (Loan.lend (Loan.lend Loan.nil)) hc62 (ent_f hc62.fn rfl) (show Hp S0 σ0 _ ([Ch.own n0 n0 (Sl a46 xs44 c47) xs44, Ch.own n0 n0 (Sl a55 xs53 c56) xs53] ++ ([] ++ [Ch.bx n0 b32 0 [(Sl a46 xs44 c47), (Sl a55 xs53 c56)] [] [], Ch.own n0 n0 (Sl (some ⟨b51, 0, none⟩) ([Dn] : List Int) 1) ([Dn] : List Int), Ch.bx n0 b5 0 [(.slice none 0 0), (.slice none 0 0)] [] []])) from (H.sel' [3, 1, 0, 2, 4] rfl rfl)) (by rintro _ _ _ ⟨rfl, rfl⟩; exact trivial)) wn ?_
    rintro _ σ63 ⟨_, ⟨rfl, rfl⟩, H, -, -⟩
    replace H : Hp _ _ _ [_, _, _, _, _] := H
    clear hle
    replace H : Hp _ _ _ [_, _, _, _, _] := H
    refine st (v := (B (!r60))) (rv_not rfl) (w_end (q_then ?_))
    refine cd_cond (!r60) rfl (fun hb64 => ?_) (fun hb64 => ?_)
    ·replace h := bif_t hb64 h
     refine c_seq (rg ?_)
     refine st (v := (.agg #[(.slice none 0 0), (.slice none 0 0)])) (rv_build (ps := []) Try.underlying26 ti26 (bp26 Try.underlying26) rfl (by kernel_rfl)) ?_
     refine st_exS (ex_store_box (k := 0) (cs := [(.slice none 0 0), (.slice none 0 0)]) (vs := [(.slice none 0 0), (.slice none 0 0)]) (cs' := [(.slice none 0 0), (.slice none 0 0)]) H (i := 4) rfl ti26 rfl rfl rfl rfl rfl (Nat.le_of_ble_eq_true rfl) (by simp [plain]) rfl) wn ?_
     rintro σ65 ⟨H, -⟩
     refine sa (B false) rfl (w_end (q_then (c_ret (q_then_r ?_))))
     replace H := H.nilOwn (Int × (Int × (List Int) × Int)) n0 n0
     replace H := H.nilOwn Int n0 n0
     obtain rfl := sj h
     exact fin_ret (v := (.tuple #[(.agg #[(.slice none 0 0), (.slice none 0 0)]), (B false)])) (results_ok Try.results28 (res_cell rfl (run_cellRes (cs := [(.slice none 0 0), (.slice none 0 0)]) Try.underlying26 rfl ti26 rfl (H.cells 2 rfl)) (res_tmp (v := (B false)) rfl res_nil)) rfl) ⟨none, 0, none, 0, rfl, rfl⟩ (H.sel' [1, 0] rfl rfl)
    ·replace h := bif_f hb64 h
     refine c_skip (q_then (c_seq (rg ?_)))
     have hc66 := H.cells 2 rfl
     refine st (v := (.agg #[(Sl a46 xs44 c47), (Sl a55 xs53 c56)])) (rv_load (cs := [(Sl a46 xs44 c47), (Sl a55 xs53 c56)]) Try.underlying26 rfl ti26 rfl rfl hc66) ?_
     refine st_exS (ex_store_box (k := 0) (cs := [(.slice none 0 0), (.slice none 0 0)]) (vs := [(Sl a46 xs44 c47), (Sl a55 xs53 c56)]) (cs' := [(Sl a46 xs44 c47), (Sl a55 xs53 c56)]) H (i := 4) rfl ti26 rfl rfl rfl rfl rfl (Nat.le_of_ble_eq_true rfl) (by simp [plain]) rfl) wn ?_
     rintro σ67 ⟨H, -⟩
     refine sa (B true) rfl (w_end (q_then (c_ret ?_)))
     obtain rfl := sj h
     exact fin_ret (v := (.tuple #[(.agg #[(Sl a46 xs44 c47), (Sl a55 xs53 c56)]), (B true)])) (results_ok Try.results28 (res_cell rfl (run_cellRes (cs := [(Sl a46 xs44 c47), (Sl a55 xs53 c56)]) Try.underlying26 rfl ti26 rfl (H.cells 0 rfl)) (res_tmp (v := (B true)) rfl res_nil)) rfl) ⟨a46, c47, a55, c56, rfl, rfl⟩ (H.sel' [1, 2] rfl rfl)

theorem c_spec_someHistory {Cy : (List UInt8) × Int} {Da : Option Addr} {Db : Nat} {Dc Dd De : Nat} {Dg Dh : List Value} {r : ((List (Int × (Int × (List Int) × Int))) × (List Int)) × ((List UInt8) × Int)} (h : M.spec_someHistory Cy = some r) :
    Cal2 Try.prog 72 [(pt Dd De)] [Ch.bx Dc Dd De [(Sl Da Cy.1 Db), (I Cy.2)] Dg Dh, Ch.ro 0 (Sl Da Cy.1 Db) Cy.1] (fun n0 v L => ∃ (az1 : Option Addr), ∃ (cz2 : Nat), ∃ (az3 : Option Addr), ∃ (cz4 : Nat), ∃ (az5 : Option Addr), ∃ (cz6 : Nat), v = (.agg #[(Sl az1 r.1.1 cz2), (Sl az3 r.1.2 cz4)]) ∧ L = [Ch.own n0 n0 (Sl az1 r.1.1 cz2) r.1.1, Ch.own n0 n0 (Sl az3 r.1.2 cz4) r.1.2, Ch.bx Dc Dd De [(Sl az5 r.2.1 cz6), (I r.2.2)] Dg Dh, Ch.ro 0 (Sl az5 r.2.1 cz6) r.2.1]) := by
 refine cal2 (n := 37) Try.func72 rfl rfl rfl rfl ?_
 intro S0 σ0 n0 hn0 H
 unfold M.spec_someHistory at h
 refine c_seq (rg (st_ex (ex_alloc (cs := [(.slice none 0 0), (.slice none 0 0)]) H hn0 ti26 rfl) wn ?_))
 rintro _ σ2 ⟨b1, rfl, H, -⟩
 refine w_end (q_then (c_seq (rg ?_)))
 refine st_ex (ex_buildSlice (el := n0) (xs := ([] : List (Int × (Int × (List Int) × Int)))) (ps := []) (cs := []) H hn0 Try.underlying23 ti43 rfl rfl (by kernel_rfl) (.nil) rfl) wn ?_
 rintro _ σ4 ⟨b3, rfl, H, -⟩
 refine st_ex (ex_buildSlice (el := n0) (xs := ([] : List Int)) (ps := []) (cs := []) H hn0 Try.underlying24 ti3 rfl rfl (by kernel_rfl) (.nil) rfl) wn ?_
 rintro _ σ6 ⟨b5, rfl, H, -⟩
 refine st (v := (.agg #[(Sl (some ⟨b3, 0, none⟩) ([] : List (Int × (Int × (List Int) × Int))) 0), (Sl (some ⟨b5, 0, none⟩) ([] : List Int) 0)])) (rv_build (ps := [(0, (Sl (some ⟨b3, 0, none⟩) ([] : List (Int × (Int × (List Int) × Int))) 0)), (1, (Sl (some ⟨b5, 0, none⟩) ([] : List Int) 0))]) Try.underlying26 ti26 (bp26 Try.underlying26) rfl (by kernel_rfl)) ?_
 refine st_ex (ex_alloc (cs := [(.slice none 0 0), (.slice none 0 0)]) H hn0 ti26 rfl) wn ?_
 rintro _ σ8 ⟨b7, rfl, H, -⟩
 refine st_exS (ex_store_box (k := 0) (cs := [(.slice none 0 0), (.slice none 0 0)]) (vs := [(Sl (some ⟨b3, 0, none⟩) ([] : List (Int × (Int × (List Int) × Int))) 0), (Sl (some ⟨b5, 0, none⟩) ([] : List Int) 0)]) (cs' := [(Sl (some ⟨b3, 0, none⟩) ([] : List (Int × (Int × (List Int) × Int))) 0), (Sl (some ⟨b5, 0, none⟩) ([] : List Int) 0)]) H (i := 0) rfl ti26 rfl rfl rfl rfl rfl (Nat.le_of_ble_eq_true rfl) (by simp [plain]) rfl) wn ?_
 rintro σ9 ⟨H, -⟩
 refine w_end (q_then (c_seq (rg (sm (pt Dd De) rfl ?_))))
 revert h; refine br fun r10 hx11 h => ?_
 have hc12 := c_spec_reader_pick (Dc := Dc) (Dd := Dd) (De := De) (Dg := Dg) (Dh := Dh) (Da := Da) (Db := Db) hx11
 refine st_call (cx_call hc12 (ent_f hc12.fn rfl) hn0 (H.sel' [4, 5, 0, 1, 2, 3, 5] rfl rfl : Hp S0 σ0 _ ([_, _] ++ _))) wn ?_
 rintro _ σ15 ⟨_, ⟨a13, c14, rfl, rfl⟩, H, -⟩
 replace H : Hp _ _ _ [_, _, _, _, _, _, _] := H
 refine st (v := (I (w64 (1 + r10.1)))) (rv_add (a := 1) (b := r10.1) rfl rfl) (sa (I (w64 (1 + r10.1))) rfl (w_end (q_then (c_seq (c_seq (rg (sm (pt Dd De) rfl ?_)))))))
 refine st_ex (ex_buildSlice (el := n0) (xs := ([5, 8, 12, 3, 0, 20] : List Int)) (ps := [(0, (I 5)), (1, (I 8)), (2, (I 12)), (3, (I 3)), (4, (I 0)), (5, (I 20))]) (cs := [(I 5), (I 8), (I 12), (I 3), (I 0), (I 20)]) H hn0 Try.underlying24 ti3 rfl rfl (by kernel_rfl) (.cons (c := [(I 5)]) rfl (.cons (c := [(I 8)]) rfl (.cons (c := [(I 12)]) rfl (.cons (c := [(I 3)]) rfl (.cons (c := [(I 0)]) rfl (.cons (c := [(I 20)]) rfl (.nil))))))) rfl) wn ?_
 rintro _ σ17 ⟨b16, rfl, H, -⟩
 replace H : Hp S0 σ0 σ17 [Ch.own n0 n0 (Sl (some ⟨b16, 0, none⟩) ([5, 8, 12, 3, 0, 20] : List Int) 6) ([5, 8, 12, 3, 0, 20] : List Int), Ch.bx Dc Dd De [(Sl a13 r10.2.1 c14), (I r10.2.2)] Dg Dh, Ch.ro 0 (Sl a13 r10.2.1 c14) r10.2.1, Ch.bx n0 b7 0 [(Sl (some ⟨b3, 0, none⟩) ([] : List (Int × (Int × (List Int) × Int))) 0), (Sl (some ⟨b5, 0, none⟩) ([] : List Int) 0)] [] [], Ch.own n0 n0 (Sl (some ⟨b5, 0, none⟩) ([] : List Int) 0) ([] : List Int), Ch.own n0 n0 (Sl (some ⟨b3, 0, none⟩) ([] : List (Int × (Int × (List Int) × Int))) 0) ([] : List (Int × (Int × (List Int) × Int))), Ch.bx n0 b1 0 [(.slice none 0 0), (.slice none 0 0)] [] []] := H.sel' [0, 1, 2, 3, 4, 5, 6] rfl rfl
 obtain ⟨σ18, hw19, H, -⟩ := H.pub 0 rfl (Nat.le_refl _)
 rw [← hw19]; clear hw19
 replace H := H.roLow 0 0 rfl (Nat.zero_le _)
 revert h; refine br fun r20 hx21 h => ?_
 have hc22 := c_spec_reader_one (Dc := Dc) (Dd := Dd) (De := De) (Dg := Dg) (Dh := Dh) (Da := a13) (Db := c14) (Bk := (some ⟨b16, 0, none⟩)) (Bl := 6) hx21
 refine st_call (cx_call hc22 (ent_f hc22.fn rfl) hn0 (H.sel' [2, 3, 0, 0, 1, 3, 4, 5, 6, 7] rfl rfl : Hp S0 σ0 _ ([_, _, _] ++ _))) wn ?_
 rintro _ σ25 ⟨_, ⟨a23, c24, rfl, rfl⟩, H, -⟩
 replace H : Hp _ _ _ [_, _, _, _, _, _, _, _, _] := H
 replace H : Hp S0 σ0 σ25 [Ch.bx Dc Dd De [(Sl a23 r20.2.1 c24), (I r20.2.2)] Dg Dh, Ch.ro 0 (Sl a23 r20.2.1 c24) r20.2.1, Ch.bx n0 b7 0 [(Sl (some ⟨b3, 0, none⟩) ([] : List (Int × (Int × (List Int) × Int))) 0), (Sl (some ⟨b5, 0, none⟩) ([] : List Int) 0)] [] [], Ch.own n0 n0 (Sl (some ⟨b5, 0, none⟩) ([] : List Int) 0) ([] : List Int), Ch.own n0 n0 (Sl (some ⟨b3, 0, none⟩) ([] : List (Int × (Int × (List Int) × Int))) 0) ([] : List (Int × (Int × (List Int) × Int))), Ch.bx n0 b1 0 [(.slice none 0 0), (.slice none 0 0)] [] []] := H.sel' [0, 1, 5, 6, 7, 8] rfl rfl
 refine sa (I r20.1) rfl (w_end (q_then ?_))
 obtain ⟨o26, hj, h'⟩ := bind_some h
 clear h
 refine c_cut (fun e a w => e = .normal ∧ ∃ (ρ : Nat → Value) (σ : St) (aj1 : Option Addr) (cj2 : Nat) (aj3 : Option Addr) (cj4 : Nat) (aj5 : Option Addr) (cj6 : Nat), a = fr 37 (updL ρ [(0, (pt Dd De)), (2, (pt b1 0)), (3, (pt b7 0))]) ∧ w = σ.w ∧ Hp S0 σ0 σ [Ch.bx Dc Dd De [(Sl aj1 o26.1.1 cj2), (I o26.1.2)] Dg Dh, Ch.ro 0 (Sl aj1 o26.1.1 cj2) o26.1.1, Ch.bx n0 b7 0 [(Sl aj3 o26.2.1 cj4), (Sl aj5 o26.2.2 cj6)] [] [], Ch.own n0 n0 (Sl aj3 o26.2.1 cj4) o26.2.1, Ch.own n0 n0 (Sl aj5 o26.2.2 cj6) o26.2.2, Ch.bx n0 b1 0 [(.slice none 0 0), (.slice none 0 0)] [] []]) ?_ ?_
 ·clear h'
  rename _ = some o26 => h
  refine c_blk (wp_loopM _ h (fun s27 a w => ∃ (ρ : Nat → Value) (σ : St) (aj1 : Option Addr) (cj2 : Nat) (aj3 : Option Addr) (cj4 : Nat) (aj5 : Option Addr) (cj6 : Nat), a = fr 37 (updL ρ [(0, (pt Dd De)), (2, (pt b1 0)), (3, (pt b7 0)), (4, (I s27.2.2.1)), (5, (I s27.2.2.2))]) ∧ w = σ.w ∧ Hp S0 σ0 σ [Ch.bx Dc Dd De [(Sl aj1 s27.1.1 cj2), (I s27.1.2)] Dg Dh, Ch.ro 0 (Sl aj1 s27.1.1 cj2) s27.1.1, Ch.bx n0 b7 0 [(Sl aj3 s27.2.1.1 cj4), (Sl aj5 s27.2.1.2 cj6)] [] [], Ch.own n0 n0 (Sl aj3 s27.2.1.1 cj4) s27.2.1.1, Ch.own n0 n0 (Sl aj5 s27.2.1.2 cj6) s27.2.1.2, Ch.bx n0 b1 0 [(.slice none 0 0), (.slice none 0 0)] [] []]) ⟨_, σ25, a23, c24, (some ⟨b3, 0, none⟩), 0, (some ⟨b5, 0, none⟩), 0, fr_join ⟨rfl, rfl, rfl, rfl, rfl, trivial⟩, rfl, H.sel' [0, 1, 2, 4, 3, 5] rfl rfl⟩ ?_)
  clear h H
  rintro s27 a w o ⟨ρ, σ28, a29, c30, a31, c32, a33, c34, rfl, rfl, H⟩ h hres
  refine c_seq (c_seq (rg (sm (I s27.2.2.2) rfl (st (v := (B (decide (0 < s27.2.2.2)))) (rv_gtr (a := s27.2.2.2) (b := 0) rfl rfl) (w_end (q_then ?_))))))
  refine cd_cond (decide (0 < s27.2.2.2)) rfl (fun hb35 => ?_) (fun hb35 => ?_)
  ·replace h := bif_t hb35 h
   refine c_skip (q_then (c_seq (c_blk (c_seq ?_))))
   have hc36 := H.cells 2 rfl
   revert h; refine br fun r37 hx38 h => ?_
   have hc39 := c_spec_someEntry (Dc := Dc) (Dd := Dd) (De := De) (Dg := Dg) (Dh := Dh) (Da := a29) (Db := c30) hx38
   revert h; refine br fun r44 hx45 h => ?_
   have hc46 := fun (a40 : Option Addr) (c41 : Nat) => c_spec_AddEntry (Cd := a31) (Ce := c32) (Cf := a33) (Cg := c34) (Cn := a40) (Cp := c41) hx45
   have Hs := H
   refine rg2 (σ := σ28) (Nm := (Option Addr) × (Nat) × (Option Addr) × (Nat) × (Option Addr) × (Nat) × (Option Addr) × (Nat) × (Nat)) 10 [2, 4, 8, 9] [[false, false, false, false], [true, false, false, false], [false, false, true, false], [true, true, false, false], [true, false, true, false], [true, true, true, false], [true, true, true, true]] [[(0, 0), (1, 1), (2, 2), (4, 4)], [(0, 0), (2, 2)], [(0, 1), (2, 4)], [(0, 0), (1, 1), (2, 2), (4, 4)], [(1, 3), (4, 5)], [(3, 3), (5, 5)], [(3, 3), (5, 5)], [(3, 3), (5, 5), (6, 6)], [(0, 2), (1, 4), (3, 5)], [(5, 6)]] 6 [fun ((a40, c41, a42, c43, a47, c48, a49, c50, b51) : (Option Addr) × (Nat) × (Option Addr) × (Nat) × (Option Addr) × (Nat) × (Option Addr) × (Nat) × (Nat)) => fun σm => Hp S0 σ0 σm [Ch.bx Dc Dd De [(Sl a29 s27.1.1 c30), (I s27.1.2)] Dg Dh, Ch.ro 0 (Sl a29 s27.1.1 c30) s27.1.1, Ch.bx n0 b7 0 [(Sl a31 s27.2.1.1 c32), (Sl a33 s27.2.1.2 c34)] [] [], Ch.own n0 n0 (Sl a31 s27.2.1.1 c32) s27.2.1.1, Ch.own n0 n0 (Sl a33 s27.2.1.2 c34) s27.2.1.2, Ch.bx n0 b1 0 [(.slice none 0 0), (.slice none 0 0)] [] []] ∧ Md (cov []) σ28 σm, fun ((a40, c41, a42, c43, a47, c48, a49, c50, b51) : (Option Addr) × (Nat) × (Option Addr) × (Nat) × (Option Addr) × (Nat) × (Option Addr) × (Nat) × (Nat)) => fun σm => Hp S0 σ0 σm [Ch.ro 0 (Sl a40 r37.1.2.2.1 c41) r37.1.2.2.1, Ch.bx Dc Dd De [(Sl a42 r37.2.1 c43), (I r37.2.2)] Dg Dh, Ch.ro 0 (Sl a42 r37.2.1 c43) r37.2.1, Ch.ro 0 (Sl a29 s27.1.1 c30) s27.1.1, Ch.bx n0 b7 0 [(Sl a31 s27.2.1.1 c32), (Sl a33 s27.2.1.2 c34)] [] [], Ch.own n0 n0 (Sl a31 s27.2.1.1 c32) s27.2.1.1, Ch.own n0 n0 (Sl a33 s27.2.1.2 c34) s27.2.1.2, Ch.bx n0 b1 0 [(.slice none 0 0), (.slice none 0 0)] [] []] ∧ Md (fun i => (cov []) i ∨ (fun i => (cov [Ch.bx Dc Dd De [(Sl a29 s27.1.1 c30), (I s27.1.2)] Dg Dh, Ch.ro 0 (Sl a29 s27.1.1 c30) s27.1.1]) i ∨ (fun b => blk (Sl a40 r37.1.2.2.1 c41) = some b) i) i) σ28 σm, fun ((a40, c41, a42, c43, a47, c48, a49, c50, b51) : (Option Addr) × (Nat) × (Option Addr) × (Nat) × (Option Addr) × (Nat) × (Option Addr) × (Nat) × (Nat)) => fun σm => Hp S0 σ0 σm [Ch.bx n0 b51 0 [(.slice none 0 0), (.slice none 0 0)] [] [], Ch.bx Dc Dd De [(Sl a29 s27.1.1 c30), (I s27.1.2)] Dg Dh, Ch.ro 0 (Sl a29 s27.1.1 c30) s27.1.1, Ch.bx n0 b7 0 [(Sl a31 s27.2.1.1 c32), (Sl a33 s27.2.1.2 c34)] [] [], Ch.own n0 n0 (Sl a31 s27.2.1.1 c32) s27.2.1.1, Ch.own n0 n0 (Sl a33 s27.2.1.2 c34) s27.2.1.2, Ch.bx n0 b1 0 [(.slice none 0 0), (.slice none 0 0)] [] []] ∧ Md (cov []) σ28 σm, fun ((a40, c41, a42, c43, a47, c48, a49, c50, b51) : (Option Addr) × (Nat) × (Option Addr) × (Nat) × (Option Addr) × (Nat) × (Option Addr) × (Nat) × (Nat)) => fun σm => Hp S0 σ0 σm [Ch.own n0 n0 (Sl a47 r44.1.1 c48) r44.1.1, Ch.own n0 n0 (Sl a49 r44.1.2 c50) r44.1.2, Ch.own n0 n0 (Sl a31 s27.2.1.1 c32) s27.2.1.1, Ch.own n0 n0 (Sl a33 s27.2.1.2 c34) s27.2.1.2, Ch.ro 0 (Sl a40 r37.1.2.2.1 c41) r37.1.2.2.1, Ch.bx Dc Dd De [(Sl a42 r37.2.1 c43), (I r37.2.2)] Dg Dh, Ch.ro 0 (Sl a42 r37.2.1 c43) r37.2.1, Ch.ro 0 (Sl a29 s27.1.1 c30) s27.1.1, Ch.bx n0 b7 0 [(Sl a31 s27.2.1.1 c32), (Sl a33 s27.2.1.2 c34)] [] [], Ch.bx n0 b1 0 [(.slice none 0 0), (.slice none 0 0)] [] []] ∧ Md (fun i => (cov []) i ∨ (fun i => (cov [Ch.bx Dc Dd De [(Sl a29 s27.1.1 c30), (I s27.1.2)] Dg Dh, Ch.ro 0 (Sl a29 s27.1.1 c30) s27.1.1]) i ∨ (fun b => blk (Sl a40 r37.1.2.2.1 c41) = some b) i) i) σ28 σm, fun ((a40, c41, a42, c43, a47, c48, a49, c50, b51) : (Option Addr) × (Nat) × (Option Addr) × (Nat) × (Option Addr) × (Nat) × (Option Addr) × (Nat) × (Nat)) => fun σm => Hp S0 σ0 σm [Ch.bx n0 b51 0 [(.slice none 0 0), (.slice none 0 0)] [] [], Ch.ro 0 (Sl a40 r37.1.2.2.1 c41) r37.1.2.2.1, Ch.bx Dc Dd De [(Sl a42 r37.2.1 c43), (I r37.2.2)] Dg Dh, Ch.ro 0 (Sl a42 r37.2.1 c43) r37.2.1, Ch.ro 0 (Sl a29 s27.1.1 c30) s27.1.1, Ch.bx n0 b7 0 [(Sl a31 s27.2.1.1 c32), (Sl a33 s27.2.1.2 c34)] [] [], Ch.own n0 n0 (Sl a31 s27.2.1.1 c32) s27.2.1.1, Ch.own n0 n0 (Sl a33 s27.2.1.2 c34) s27.2.1.2, Ch.bx n0 b1 0 [(.slice none 0 0), (.slice none 0 0)] [] []] ∧ Md (fun i => (cov []) i ∨ (fun i => (cov [Ch.bx Dc Dd De [(Sl a29 s27.1.1 c30), (I s27.1.2)] Dg Dh, Ch.ro 0 (Sl a29 s27.1.1 c30) s27.1.1]) i ∨ (fun b => blk (Sl a40 r37.1.2.2.1 c41) = some b) i) i) σ28 σm, fun ((a40, c41, a42, c43, a47, c48, a49, c50, b51) : (Option Addr) × (Nat) × (Option Addr) × (Nat) × (Option Addr) × (Nat) × (Option Addr) × (Nat) × (Nat)) => fun σm => Hp S0 σ0 σm [Ch.bx n0 b51 0 [(.slice none 0 0), (.slice none 0 0)] [] [], Ch.own n0 n0 (Sl a47 r44.1.1 c48) r44.1.1, Ch.own n0 n0 (Sl a49 r44.1.2 c50) r44.1.2, Ch.own n0 n0 (Sl a31 s27.2.1.1 c32) s27.2.1.1, Ch.own n0 n0 (Sl a33 s27.2.1.2 c34) s27.2.1.2, Ch.ro 0 (Sl a40 r37.1.2.2.1 c41) r37.1.2.2.1, Ch.bx Dc Dd De [(Sl a42 r37.2.1 c43), (I r37.2.2)] Dg Dh, Ch.ro 0 (Sl a42 r37.2.1 c43) r37.2.1, Ch.ro 0 (Sl a29 s27.1.1 c30) s27.1.1, Ch.bx n0 b7 0 [(Sl a31 s27.2.1.1 c32), (Sl a33 s27.2.1.2 c34)] [] [], Ch.bx n0 b1 0 [(.slice none 0 0), (.slice none 0 0)] [] []] ∧ Md (fun i => (cov []) i ∨ (fun i => (cov [Ch.bx Dc Dd De [(Sl a29 s27.1.1 c30), (I s27.1.2)] Dg Dh, Ch.ro 0 (Sl a29 s27.1.1 c30) s27.1.1]) i ∨ (fun b => blk (Sl a40 r37.1.2.2.1 c41) = some b) i) i) σ28 σm, fun ((a40, c41, a42, c43, a47, c48, a49, c50, b51) : (Option Addr) × (Nat) × (Option Addr) × (Nat) × (Option Addr) × (Nat) × (Option Addr) × (Nat) × (Nat)) => fun σm => Hp S0 σ0 σm [Ch.bx n0 b51 0 [(Sl a47 r44.1.1 c48), (Sl a49 r44.1.2 c50)] [] [], Ch.own n0 n0 (Sl a47 r44.1.1 c48) r44.1.1, Ch.own n0 n0 (Sl a49 r44.1.2 c50) r44.1.2, Ch.own n0 n0 (Sl a31 s27.2.1.1 c32) s27.2.1.1, Ch.own n0 n0 (Sl a33 s27.2.1.2 c34) s27.2.1.2, Ch.ro 0 (Sl a40 r37.1.2.2.1 c41) r37.1.2.2.1, Ch.bx Dc Dd De [(Sl a42 r37.2.1 c43), (I r37.2.2)] Dg Dh, Ch.ro 0 (Sl a42 r37.2.1 c43) r37.2.1, Ch.ro 0 (Sl a29 s27.1.1 c30) s27.1.1, Ch.bx n0 b7 0 [(Sl a31 s27.2.1.1 c32), (Sl a33 s27.2.1.2 c34)] [] [], Ch.bx n0 b1 0 [(.slice none 0 0), (.slice none 0 0)] [] []] ∧ Md (fun i => (fun i => (cov []) i ∨ (fun i => (cov [Ch.bx Dc Dd De [(Sl a29 s27.1.1 c30), (I s27.1.2)] Dg Dh, Ch.ro 0 (Sl a29 s27.1.1 c30) s27.1.1]) i ∨ (fun b => blk (Sl a40 r37.1.2.2.1 c41) = some b) i) i) i ∨ (fun i => i = b51) i) σ28 σm] [fun ((a40, c41, a42, c43, a47, c48, a49, c50, b51) : (Option Addr) × (Nat) × (Option Addr) × (Nat) × (Option Addr) × (Nat) × (Option Addr) × (Nat) × (Nat)) => (.agg #[(Sl a31 s27.2.1.1 c32), (Sl a33 s27.2.1.2 c34)]), fun ((a40, c41, a42, c43, a47, c48, a49, c50, b51) : (Option Addr) × (Nat) × (Option Addr) × (Nat) × (Option Addr) × (Nat) × (Option Addr) × (Nat) × (Nat)) => (pt Dd De), fun ((a40, c41, a42, c43, a47, c48, a49, c50, b51) : (Option Addr) × (Nat) × (Option Addr) × (Nat) × (Option Addr) × (Nat) × (Option Addr) × (Nat) × (Nat)) => (.agg #[(I r37.1.1), (I r37.1.2.1), (Sl a40 r37.1.2.2.1 c41), (I r37.1.2.2.2)]), fun ((a40, c41, a42, c43, a47, c48, a49, c50, b51) : (Option Addr) × (Nat) × (Option Addr) × (Nat) × (Option Addr) × (Nat) × (Option Addr) × (Nat) × (Nat)) => (I s27.2.2.1), fun ((a40, c41, a42, c43, a47, c48, a49, c50, b51) : (Option Addr) × (Nat) × (Option Addr) × (Nat) × (Option Addr) × (Nat) × (Option Addr) × (Nat) × (Nat)) => (.tuple #[(.agg #[(Sl a47 r44.1.1 c48), (Sl a49 r44.1.2 c50)]), (B r44.2)]), fun ((a40, c41, a42, c43, a47, c48, a49, c50, b51) : (Option Addr) × (Nat) × (Option Addr) × (Nat) × (Option Addr) × (Nat) × (Option Addr) × (Nat) × (Nat)) => (.tuple #[(.agg #[(Sl a47 r44.1.1 c48), (Sl a49 r44.1.2 c50)]), (B r44.2)]), fun ((a40, c41, a42, c43, a47, c48, a49, c50, b51) : (Option Addr) × (Nat) × (Option Addr) × (Nat) × (Option Addr) × (Nat) × (Option Addr) × (Nat) × (Nat)) => (.agg #[(Sl a47 r44.1.1 c48), (Sl a49 r44.1.2 c50)]), fun ((a40, c41, a42, c43, a47, c48, a49, c50, b51) : (Option Addr) × (Nat) × (Option Addr) × (Nat) × (Option Addr) × (Nat) × (Option Addr) × (Nat) × (Nat)) => (B r44.2), fun ((a40, c41, a42, c43, a47, c48, a49, c50, b51) : (Option Addr) × (Nat) × (Option Addr) × (Nat) × (Option Addr) × (Nat) × (Option Addr) × (Nat) × (Nat)) => (pt b51 0), fun ((a40, c41, a42, c43, a47, c48, a49, c50, b51) : (Option Addr) × (Nat) × (Option Addr) × (Nat) × (Option Addr) × (Nat) × (Option Addr) × (Nat) × (Nat)) => undef] (none, 0, none, 0, none, 0, none, 0, 0) (by kernel_rfl) (by kernel_rfl) ?_ ?_ ?_
   ·intro σm m0
    exact ⟨H.grow (m0.mono fun _ h => h.elim), m0⟩
   ·refine all_cons (by
      refine ⟨?_, ?_⟩
      ·rintro ⟨a40, c41, a42, c43, a47, c48, a49, c50, b51⟩ ρ σm hJ hoff hdep
       have e3 := look_off (N := 37) (hoff 3 rfl) rfl
       obtain ⟨H, m⟩ := id hJ
       have hc36 := H.cells 2 rfl
       exact dp_v (v := (.agg #[(Sl a31 s27.2.1.1 c32), (Sl a33 s27.2.1.2 c34)])) wn (rv_load (cs := [(Sl a31 s27.2.1.1 c32), (Sl a33 s27.2.1.2 c34)]) Try.underlying26 rfl ti26 e3 rfl hc36) rfl hJ
      refine ⟨?_, ?_⟩
      ·rintro ⟨a40, c41, a42, c43, a47, c48, a49, c50, b51⟩ ρ σm hJ hoff hdep
       have e3 := look_off (N := 37) (hoff 3 rfl) rfl
       obtain ⟨H, m⟩ := id hJ
       have hc36 := H.cells 4 rfl
       exact dp_v (v := (.agg #[(Sl a31 s27.2.1.1 c32), (Sl a33 s27.2.1.2 c34)])) wn (rv_load (cs := [(Sl a31 s27.2.1.1 c32), (Sl a33 s27.2.1.2 c34)]) Try.underlying26 rfl ti26 e3 rfl hc36) rfl hJ
      refine ⟨?_, ?_⟩
      ·rintro ⟨a40, c41, a42, c43, a47, c48, a49, c50, b51⟩ ρ σm hJ hoff hdep
       have e3 := look_off (N := 37) (hoff 3 rfl) rfl
       obtain ⟨H, m⟩ := id hJ
       have hc36 := H.cells 3 rfl
       exact dp_v (v := (.agg #[(Sl a31 s27.2.1.1 c32), (Sl a33 s27.2.1.2 c34)])) wn (rv_load (cs := [(Sl a31 s27.2.1.1 c32), (Sl a33 s27.2.1.2 c34)]) Try.underlying26 rfl ti26 e3 rfl hc36) rfl hJ
      refine ⟨?_, ?_⟩
      ·rintro ⟨a40, c41, a42, c43, a47, c48, a49, c50, b51⟩ ρ σm hJ hoff hdep
       have e3 := look_off (N := 37) (hoff 3 rfl) rfl
       obtain ⟨H, m⟩ := id hJ
       have hc36 := H.cells 5 rfl
       exact dp_v (v := (.agg #[(Sl a31 s27.2.1.1 c32), (Sl a33 s27.2.1.2 c34)])) wn (rv_load (cs := [(Sl a31 s27.2.1.1 c32), (Sl a33 s27.2.1.2 c34)]) Try.underlying26 rfl ti26 e3 rfl hc36) rfl hJ
      trivial) ?_
    refine ac rfl (by
      intro k; rintro ⟨a40, c41, a42, c43, a47, c48, a49, c50, b51⟩ ρ σm hJ hoff hdep
      have e0 := look_off (N := 37) (hoff 0 rfl) rfl
      exact dp_v (v := (pt Dd De)) wn (rv_move e0) rfl hJ) ?_
    refine all_cons (by
      refine ⟨?_, ?_⟩
      ·rintro ⟨a40, c41, a42, c43, a47, c48, a49, c50, b51⟩ ρ σm hJ hoff hdep
       have e23 : look 37 ρ 23 = (pt Dd De) := hdep 1 rfl rfl 23 rfl
       obtain ⟨H, m⟩ := id hJ
       refine dp_cx wn (cx_call hc39 (ent_f hc39.fn (by show [look 37 ρ 23] = _; rw [e23])) hn0 (H.sel' [0, 1, 1, 2, 3, 4, 5] rfl rfl : Hp S0 σ0 _ ([_, _] ++ _))) ?_
       rintro _ σq ⟨_, ⟨a40x, c41x, a42x, c43x, rfl, rfl⟩, H2, m2⟩
       obtain ⟨σr0, hwr0, H2, mr0⟩ := H2.pubSc 0 rfl
       exact ⟨_, (a40x, c41x, a42x, c43x, a47, c48, a49, c50, b51), hwr0, rfl, ⟨H2.sel' [0, 1, 2, 3, 4, 5, 6, 7] rfl rfl, m.comp (m2.comp mr0)⟩, stab [0, 1, 3, 8] (by kernel_rfl) ⟨rfl, rfl, rfl, rfl, trivial⟩⟩
      refine ⟨?_, ?_⟩
      ·rintro ⟨a40, c41, a42, c43, a47, c48, a49, c50, b51⟩ ρ σm hJ hoff hdep
       have e23 : look 37 ρ 23 = (pt Dd De) := hdep 1 rfl rfl 23 rfl
       obtain ⟨H, m⟩ := id hJ
       refine dp_cx wn (cx_call hc39 (ent_f hc39.fn (by show [look 37 ρ 23] = _; rw [e23])) hn0 (H.sel' [1, 2, 0, 2, 3, 4, 5, 6] rfl rfl : Hp S0 σ0 _ ([_, _] ++ _))) ?_
       rintro _ σq ⟨_, ⟨a40x, c41x, a42x, c43x, rfl, rfl⟩, H2, m2⟩
       obtain ⟨σr0, hwr0, H2, mr0⟩ := H2.pubSc 0 rfl
       exact ⟨_, (a40x, c41x, a42x, c43x, a47, c48, a49, c50, b51), hwr0, rfl, ⟨H2.sel' [3, 0, 1, 2, 4, 5, 6, 7, 8] rfl rfl, m.comp (m2.comp mr0)⟩, stab [0, 1, 3, 8] (by kernel_rfl) ⟨rfl, rfl, rfl, rfl, trivial⟩⟩
      trivial) ?_
    refine ac rfl (by
      intro k; rintro ⟨a40, c41, a42, c43, a47, c48, a49, c50, b51⟩ ρ σm hJ hoff hdep
      have e4 := look_off (N := 37) (hoff 4 rfl) rfl
      exact dp_v (v := (I s27.2.2.1)) wn (rv_move e4) rfl hJ) ?_
    refine all_cons (by
      refine ⟨?_, ?_⟩
      ·rintro ⟨a40, c41, a42, c43, a47, c48, a49, c50, b51⟩ ρ σm hJ hoff hdep
       have e22 : look 37 ρ 22 = (.agg #[(Sl a31 s27.2.1.1 c32), (Sl a33 s27.2.1.2 c34)]) := hdep 0 rfl rfl 22 rfl
       have e24 : look 37 ρ 24 = (.agg #[(I r37.1.1), (I r37.1.2.1), (Sl a40 r37.1.2.2.1 c41), (I r37.1.2.2.2)]) := hdep 2 rfl rfl 24 rfl
       have e25 : look 37 ρ 25 = (I s27.2.2.1) := hdep 3 rfl rfl 25 rfl
       obtain ⟨H, m⟩ := id hJ
       refine dp_cx wn (cx_lend (Loan.lend (Loan.lend (Loan.same Loan.nil))) (hc46 a40 c41) (ent_f (hc46 a40 c41).fn (by show [look 37 ρ 22, look 37 ρ 24, look 37 ρ 25] = _; rw [e22, e24, e25])) (show Hp S0 σ0 _ ([Ch.own n0 n0 (Sl a31 s27.2.1.1 c32) s27.2.1.1, Ch.own n0 n0 (Sl a33 s27.2.1.2 c34) s27.2.1.2] ++ ([Ch.ro 0 (Sl a40 r37.1.2.2.1 c41) r37.1.2.2.1] ++ [Ch.ro 0 (Sl a40 r37.1.2.2.1 c41) r37.1.2.2.1, Ch.bx Dc Dd De [(Sl a42 r37.2.1 c43), (I r37.2.2)] Dg Dh, Ch.ro 0 (Sl a42 r37.2.1 c43) r37.2.1, Ch.ro 0 (Sl a29 s27.1.1 c30) s27.1.1, Ch.bx n0 b7 0 [(Sl a31 s27.2.1.1 c32), (Sl a33 s27.2.1.2 c34)] [] [], Ch.bx n0 b1 0 [(.slice none 0 0), (.slice none 0 0)] [] []])) from (H.sel' [5, 6, 0, 0, 1, 2, 3, 4, 7] rfl rfl)) (by rintro _ _ _ ⟨_, _, _, _, rfl, rfl⟩; exact ⟨Ab.own (Nat.le_refl _), Ab.ownSc, trivial⟩)) ?_
       rintro _ σq ⟨_, ⟨a47x, c48x, a49x, c50x, rfl, rfl⟩, H2, m2, hle2⟩
       replace H2 := H2.ownLow 0 n0 n0 rfl (Nat.le_trans hn0 hle2) (Nat.le_trans hn0 hle2)
       replace H2 := H2.ownLow 1 n0 n0 rfl (Nat.le_trans hn0 hle2) (Nat.le_trans hn0 hle2)
       exact ⟨_, (a40, c41, a42, c43, a47x, c48x, a49x, c50x, b51), rfl, rfl, ⟨H2.sel' [1, 0, 2, 3, 4, 5, 6, 7, 8, 9] rfl rfl, m.comp0 (m2.mono (fun i h => by simp [cov, Ch.ro] at h))⟩, stab [0, 1, 2, 3, 8] (by kernel_rfl) ⟨rfl, rfl, rfl, rfl, rfl, trivial⟩⟩
      refine ⟨?_, ?_⟩
      ·rintro ⟨a40, c41, a42, c43, a47, c48, a49, c50, b51⟩ ρ σm hJ hoff hdep
       have e22 : look 37 ρ 22 = (.agg #[(Sl a31 s27.2.1.1 c32), (Sl a33 s27.2.1.2 c34)]) := hdep 0 rfl rfl 22 rfl
       have e24 : look 37 ρ 24 = (.agg #[(I r37.1.1), (I r37.1.2.1), (Sl a40 r37.1.2.2.1 c41), (I r37.1.2.2.2)]) := hdep 2 rfl rfl 24 rfl
       have e25 : look 37 ρ 25 = (I s27.2.2.1) := hdep 3 rfl rfl 25 rfl
       obtain ⟨H, m⟩ := id hJ
       refine dp_cx wn (cx_lend (Loan.lend (Loan.lend (Loan.same Loan.nil))) (hc46 a40 c41) (ent_f (hc46 a40 c41).fn (by show [look 37 ρ 22, look 37 ρ 24, look 37 ρ 25] = _; rw [e22, e24, e25])) (show Hp S0 σ0 _ ([Ch.own n0 n0 (Sl a31 s27.2.1.1 c32) s27.2.1.1, Ch.own n0 n0 (Sl a33 s27.2.1.2 c34) s27.2.1.2] ++ ([Ch.ro 0 (Sl a40 r37.1.2.2.1 c41) r37.1.2.2.1] ++ [Ch.bx n0 b51 0 [(.slice none 0 0), (.slice none 0 0)] [] [], Ch.ro 0 (Sl a40 r37.1.2.2.1 c41) r37.1.2.2.1, Ch.bx Dc Dd De [(Sl a42 r37.2.1 c43), (I r37.2.2)] Dg Dh, Ch.ro 0 (Sl a42 r37.2.1 c43) r37.2.1, Ch.ro 0 (Sl a29 s27.1.1 c30) s27.1.1, Ch.bx n0 b7 0 [(Sl a31 s27.2.1.1 c32), (Sl a33 s27.2.1.2 c34)] [] [], Ch.bx n0 b1 0 [(.slice none 0 0), (.slice none 0 0)] [] []])) from (H.sel' [6, 7, 1, 0, 1, 2, 3, 4, 5, 8] rfl rfl)) (by rintro _ _ _ ⟨_, _, _, _, rfl, rfl⟩; exact ⟨Ab.own (Nat.le_refl _), Ab.ownSc, trivial⟩)) ?_
       rintro _ σq ⟨_, ⟨a47x, c48x, a49x, c50x, rfl, rfl⟩, H2, m2, hle2⟩
       replace H2 := H2.ownLow 0 n0 n0 rfl (Nat.le_trans hn0 hle2) (Nat.le_trans hn0 hle2)
       replace H2 := H2.ownLow 1 n0 n0 rfl (Nat.le_trans hn0 hle2) (Nat.le_trans hn0 hle2)
       exact ⟨_, (a40, c41, a42, c43, a47x, c48x, a49x, c50x, b51), rfl, rfl, ⟨H2.sel' [4, 1, 0, 2, 3, 5, 6, 7, 8, 9, 10] rfl rfl, m.comp0 (m2.mono (fun i h => by simp [cov, Ch.ro] at h))⟩, stab [0, 1, 2, 3, 8] (by kernel_rfl) ⟨rfl, rfl, rfl, rfl, rfl, trivial⟩⟩
      trivial) ?_
    refine ac rfl (by
      intro k; rintro ⟨a40, c41, a42, c43, a47, c48, a49, c50, b51⟩ ρ σm hJ hoff hdep
      have e26 := hdep 4 rfl rfl 26 rfl
      exact dp_v (v := (.tuple #[(.agg #[(Sl a47 r44.1.1 c48), (Sl a49 r44.1.2 c50)]), (B r44.2)])) wn (rv_move e26) rfl hJ) ?_
    refine ac rfl (by
      intro k; rintro ⟨a40, c41, a42, c43, a47, c48, a49, c50, b51⟩ ρ σm hJ hoff hdep
      have e21 := hdep 5 rfl rfl 21 rfl
      exact dp_v (v := (.agg #[(Sl a47 r44.1.1 c48), (Sl a49 r44.1.2 c50)])) wn (rv_extract e21 rfl) rfl hJ) ?_
    refine ac rfl (by
      intro k; rintro ⟨a40, c41, a42, c43, a47, c48, a49, c50, b51⟩ ρ σm hJ hoff hdep
      have e21 := hdep 5 rfl rfl 21 rfl
      exact dp_v (v := (B r44.2)) wn (rv_extract e21 rfl) rfl hJ) ?_
    refine all_cons (by
      refine ⟨?_, ?_⟩
      ·rintro ⟨a40, c41, a42, c43, a47, c48, a49, c50, b51⟩ ρ σm hJ hoff hdep
       obtain ⟨H, m⟩ := id hJ
       refine dp_ex wn (ex_alloc (cs := [(.slice none 0 0), (.slice none 0 0)]) H hn0 ti26 rfl) ?_
       rintro _ σq ⟨b51x, rfl, H2, m2⟩
       exact ⟨_, (a40, c41, a42, c43, a47, c48, a49, c50, b51x), rfl, rfl, ⟨H2.sel' [0, 1, 2, 3, 4, 5, 6] rfl rfl, m.comp0 m2⟩, stab [0, 1, 2, 3, 4, 5, 6, 7] (by kernel_rfl) ⟨rfl, rfl, rfl, rfl, rfl, rfl, rfl, rfl, trivial⟩⟩
      refine ⟨?_, ?_⟩
      ·rintro ⟨a40, c41, a42, c43, a47, c48, a49, c50, b51⟩ ρ σm hJ hoff hdep
       obtain ⟨H, m⟩ := id hJ
       refine dp_ex wn (ex_alloc (cs := [(.slice none 0 0), (.slice none 0 0)]) H hn0 ti26 rfl) ?_
       rintro _ σq ⟨b51x, rfl, H2, m2⟩
       exact ⟨_, (a40, c41, a42, c43, a47, c48, a49, c50, b51x), rfl, rfl, ⟨H2.sel' [0, 1, 2, 3, 4, 5, 6, 7, 8] rfl rfl, m.comp0 m2⟩, stab [0, 1, 2, 3, 4, 5, 6, 7] (by kernel_rfl) ⟨rfl, rfl, rfl, rfl, rfl, rfl, rfl, rfl, trivial⟩⟩
      refine ⟨?_, ?_⟩
      ·rintro ⟨a40, c41, a42, c43, a47, c48, a49, c50, b51⟩ ρ σm hJ hoff hdep
       obtain ⟨H, m⟩ := id hJ
       refine dp_ex wn (ex_alloc (cs := [(.slice none 0 0), (.slice none 0 0)]) H hn0 ti26 rfl) ?_
       rintro _ σq ⟨b51x, rfl, H2, m2⟩
       exact ⟨_, (a40, c41, a42, c43, a47, c48, a49, c50, b51x), rfl, rfl, ⟨H2.sel' [0, 1, 2, 3, 4, 5, 6, 7, 8, 9, 10] rfl rfl, m.comp0 m2⟩, stab [0, 1, 2, 3, 4, 5, 6, 7] (by kernel_rfl) ⟨rfl, rfl, rfl, rfl, rfl, rfl, rfl, rfl, trivial⟩⟩
      trivial) ?_
    refine all_cons (by
      refine ⟨?_, ?_⟩
      ·rintro ⟨a40, c41, a42, c43, a47, c48, a49, c50, b51⟩ ρ σm hJ hoff hdep
       have e6 := hdep 8 rfl rfl 6 rfl
       have e27 := hdep 6 rfl rfl 27 rfl
       obtain ⟨H, m⟩ := id hJ
       refine dp_exS wn rfl (ex_store_box (k := 0) (cs := [(.slice none 0 0), (.slice none 0 0)]) (vs := [(Sl a47 r44.1.1 c48), (Sl a49 r44.1.2 c50)]) (cs' := [(Sl a47 r44.1.1 c48), (Sl a49 r44.1.2 c50)]) H (i := 0) rfl ti26 e6 rfl e27 rfl rfl (Nat.le_of_ble_eq_true rfl) (by simp [plain]) rfl) ?_
       rintro σq ⟨H2, m2⟩
       exact ⟨_, (a40, c41, a42, c43, a47, c48, a49, c50, b51), rfl, ⟨H2.sel' [0, 1, 2, 3, 4, 5, 6, 7, 8, 9, 10] rfl rfl, m.comp m2⟩, stab [0, 1, 2, 3, 4, 5, 6, 7, 8] (by kernel_rfl) ⟨rfl, rfl, rfl, rfl, rfl, rfl, rfl, rfl, rfl, trivial⟩⟩
      trivial) ?_
    exact all_nil
   ·rintro ⟨a40, c41, a42, c43, a47, c48, a49, c50, b51⟩ ρ σ52 hJ hoff hrel
    have e0 := look_off (N := 37) (hoff 0 rfl) rfl
    have e2 := look_off (N := 37) (hoff 2 rfl) rfl
    have e3 := look_off (N := 37) (hoff 3 rfl) rfl
    have e4 := look_off (N := 37) (hoff 4 rfl) rfl
    have e5 := look_off (N := 37) (hoff 5 rfl) rfl
    have e6 := hrel 8 rfl 6 rfl
    have e28 := hrel 7 rfl 28 rfl
    obtain ⟨H, -⟩ := (show Hp S0 σ0 σ52 [Ch.bx n0 b51 0 [(Sl a47 r44.1.1 c48), (Sl a49 r44.1.2 c50)] [] [], Ch.own n0 n0 (Sl a47 r44.1.1 c48) r44.1.1, Ch.own n0 n0 (Sl a49 r44.1.2 c50) r44.1.2, Ch.own n0 n0 (Sl a31 s27.2.1.1 c32) s27.2.1.1, Ch.own n0 n0 (Sl a33 s27.2.1.2 c34) s27.2.1.2, Ch.ro 0 (Sl a40 r37.1.2.2.1 c41) r37.1.2.2.1, Ch.bx Dc Dd De [(Sl a42 r37.2.1 c43), (I r37.2.2)] Dg Dh, Ch.ro 0 (Sl a42 r37.2.1 c43) r37.2.1, Ch.ro 0 (Sl a29 s27.1.1 c30) s27.1.1, Ch.bx n0 b7 0 [(Sl a31 s27.2.1.1 c32), (Sl a33 s27.2.1.2 c34)] [] [], Ch.bx n0 b1 0 [(.slice none 0 0), (.slice none 0 0)] [] []] ∧ Md (fun i => (fun i => (cov []) i ∨ (fun i => (cov [Ch.bx Dc Dd De [(Sl a29 s27.1.1 c30), (I s27.1.2)] Dg Dh, Ch.ro 0 (Sl a29 s27.1.1 c30) s27.1.1]) i ∨ (fun b => blk (Sl a40 r37.1.2.2.1 c41) = some b) i) i) i ∨ (fun i => i = b51) i) σ28 σ52 from hJ)
    clear hJ Hs
    rw [fr_lookL (L := [(0, (pt Dd De)), (2, (pt b1 0)), (3, (pt b7 0)), (4, (I s27.2.2.1)), (5, (I s27.2.2.2)), (6, (pt b51 0)), (28, (B r44.2))]) ⟨e0, e2, e3, e4, e5, e6, e28, trivial⟩]
    clear hoff hrel e0 e2 e3 e4 e5 e6 e28
    refine sa (B r44.2) rfl (w_end (q_then (c_seq (c_seq (rg (sm (B r44.2) rfl (w_end (q_then ?_))))))))
    obtain ⟨o53, hj, h'⟩ := bind_some h
    clear h
    refine c_cut (fun e a w => e = .normal ∧ ∃ (ρ : Nat → Value) (σ : St) (aj1 : Option Addr) (cj2 : Nat) (aj3 : Option Addr) (cj4 : Nat), a = fr 37 (updL ρ [(0, (pt Dd De)), (2, (pt b1 0)), (3, (pt b7 0)), (4, (I s27.2.2.1)), (5, (I s27.2.2.2))]) ∧ w = σ.w ∧ Hp S0 σ0 σ [Ch.bx n0 b7 0 [(Sl aj1 o53.1 cj2), (Sl aj3 o53.2 cj4)] [] [], Ch.own n0 n0 (Sl aj1 o53.1 cj2) o53.1, Ch.own n0 n0 (Sl aj3 o53.2 cj4) o53.2, Ch.ro 0 (Sl a42 r37.2.1 c43) r37.2.1, Ch.bx Dc Dd De [(Sl a42 r37.2.1 c43), (I r37.2.2)] Dg Dh, Ch.bx n0 b1 0 [(.slice none 0 0), (.slice none 0 0)] [] []]) ?_ ?_
    ·clear h'
     rename _ = some o53 => h
     refine cd_cond r44.2 rfl (fun hb54 => ?_) (fun hb54 => ?_)
     ·replace h := bif_t hb54 h
      refine rg ?_
      have hc55 := H.cells 0 rfl
      refine st (v := (.agg #[(Sl a47 r44.1.1 c48), (Sl a49 r44.1.2 c50)])) (rv_load (cs := [(Sl a47 r44.1.1 c48), (Sl a49 r44.1.2 c50)]) Try.underlying26 rfl ti26 rfl rfl hc55) ?_
      refine st_exS (ex_store_box (k := 0) (cs := [(Sl a31 s27.2.1.1 c32), (Sl a33 s27.2.1.2 c34)]) (vs := [(Sl a47 r44.1.1 c48), (Sl a49 r44.1.2 c50)]) (cs' := [(Sl a47 r44.1.1 c48), (Sl a49 r44.1.2 c50)]) H (i := 9) rfl ti26 rfl rfl rfl rfl rfl (Nat.le_of_ble_eq_true rfl) (by simp [plain]) rfl) wn ?_
      rintro σ56 ⟨H, -⟩
      replace H : Hp S0 σ0 σ56 [Ch.bx n0 b7 0 [(Sl a47 r44.1.1 c48), (Sl a49 r44.1.2 c50)] [] [], Ch.own n0 n0 (Sl a47 r44.1.1 c48) r44.1.1, Ch.own n0 n0 (Sl a49 r44.1.2 c50) r44.1.2, Ch.bx Dc Dd De [(Sl a42 r37.2.1 c43), (I r37.2.2)] Dg Dh, Ch.ro 0 (Sl a42 r37.2.1 c43) r37.2.1, Ch.bx n0 b1 0 [(.slice none 0 0), (.slice none 0 0)] [] []] := H.sel' [0, 2, 3, 7, 8, 10] rfl rfl
      refine w_end ?_
      obtain rfl := sj h
      exact ⟨rfl, _, σ56, a47, c48, a49, c50, fr_join ⟨rfl, rfl, rfl, rfl, rfl, trivial⟩, rfl, H.sel' [0, 1, 2, 4, 3, 5] rfl rfl⟩
     ·replace h := bif_f hb54 h
      refine c_skip ?_
      obtain rfl := sj h
      exact ⟨rfl, _, σ52, a31, c32, a33, c34, fr_join ⟨rfl, rfl, rfl, rfl, rfl, trivial⟩, rfl, H.sel' [9, 3, 4, 7, 6, 10] rfl rfl⟩
    ·clear hj
     have h := h'
     clear h' H
     rintro e a w ⟨rfl, ρ, σ57, a58, c59, a60, c61, rfl, rfl, H⟩
     refine q_then (rg (sm (I s27.2.2.1) rfl (sm (pt Dd De) rfl ?_)))
     refine st_ex (ex_buildSlice (el := n0) (xs := ([0, 1, 5, 10] : List Int)) (ps := [(0, (I 0)), (1, (I 1)), (2, (I 5)), (3, (I 10))]) (cs := [(I 0), (I 1), (I 5), (I 10)]) H hn0 Try.underlying24 ti3 rfl rfl (by kernel_rfl) (.cons (c := [(I 0)]) rfl (.cons (c := [(I 1)]) rfl (.cons (c := [(I 5)]) rfl (.cons (c := [(I 10)]) rfl (.nil))))) rfl) wn ?_
     rintro _ σ63 ⟨b62, rfl, H, -⟩
     obtain ⟨σ64, hw65, H, -⟩ := H.pub 0 rfl (Nat.le_refl _)
     rw [← hw65]; clear hw65
     replace H := H.roLow 0 0 rfl (Nat.zero_le _)
     revert h; refine br fun r66 hx67 h => ?_
     have hc68 := c_spec_reader_one (Dc := Dc) (Dd := Dd) (De := De) (Dg := Dg) (Dh := Dh) (Da := a42) (Db := c43) (Bk := (some ⟨b62, 0, none⟩)) (Bl := 4) hx67
     refine st_call (cx_call hc68 (ent_f hc68.fn rfl) hn0 (H.sel' [6, 5, 0, 0, 1, 2, 3, 4, 5, 7] rfl rfl : Hp S0 σ0 _ ([_, _, _] ++ _))) wn ?_
     rintro _ σ71 ⟨_, ⟨a69, c70, rfl, rfl⟩, H, -⟩
     replace H : Hp _ _ _ [_, _, _, _, _, _, _, _, _] := H
     replace H : Hp S0 σ0 σ71 [Ch.bx Dc Dd De [(Sl a69 r66.2.1 c70), (I r66.2.2)] Dg Dh, Ch.ro 0 (Sl a69 r66.2.1 c70) r66.2.1, Ch.bx n0 b7 0 [(Sl a58 o53.1 c59), (Sl a60 o53.2 c61)] [] [], Ch.own n0 n0 (Sl a58 o53.1 c59) o53.1, Ch.own n0 n0 (Sl a60 o53.2 c61) o53.2, Ch.bx n0 b1 0 [(.slice none 0 0), (.slice none 0 0)] [] []] := H.sel' [0, 1, 4, 5, 6, 8] rfl rfl
     refine st (v := (I (w64 (s27.2.2.1 + r66.1)))) (rv_add (a := s27.2.2.1) (b := r66.1) rfl rfl) (sa (I (w64 (s27.2.2.1 + r66.1))) rfl (w_end (q_blk (q_then (rg (sm (I s27.2.2.2) rfl (st (v := (I (w64 (s27.2.2.2 - 1)))) (rv_sub (a := s27.2.2.2) (b := 1) rfl rfl) (sa (I (w64 (s27.2.2.2 - 1))) rfl (w_end (q_then ?_))))))))))
     obtain rfl := sj h
     exact ⟨_, rfl, _, σ71, a69, c70, a58, c59, a60, c61, fr_join ⟨rfl, rfl, rfl, rfl, rfl, trivial⟩, rfl, H.sel' [0, 1, 2, 3, 4, 5] rfl rfl⟩
  ·replace h := bif_f hb35 h
   refine c_exit (q_then_x (q_then_x (q_blk_hit ?_)))
   obtain rfl := sj h
   obtain rfl := hres _ rfl
   exact ⟨rfl, _, σ28, a29, c30, a31, c32, a33, c34, fr_join ⟨rfl, rfl, rfl, trivial⟩, rfl, H.sel' [0, 1, 2, 3, 4, 5] rfl rfl⟩
 ·clear hj
  have h := h'
  clear h' H
  rintro e a w ⟨rfl, ρ, σ72, a73, c74, a75, c76, a77, c78, rfl, rfl, H⟩
  refine q_then (c_seq (rg ?_))
  have hc79 := H.cells 2 rfl
  refine st (v := (.agg #[(Sl a75 o26.2.1 c76), (Sl a77 o26.2.2 c78)])) (rv_load (cs := [(Sl a75 o26.2.1 c76), (Sl a77 o26.2.2 c78)]) Try.underlying26 rfl ti26 rfl rfl hc79) ?_
  refine st_exS (ex_store_box (k := 0) (cs := [(.slice none 0 0), (.slice none 0 0)]) (vs := [(Sl a75 o26.2.1 c76), (Sl a77 o26.2.2 c78)]) (cs' := [(Sl a75 o26.2.1 c76), (Sl a77 o26.2.2 c78)]) H (i := 5) rfl ti26 rfl rfl rfl rfl rfl (Nat.le_of_ble_eq_true rfl) (by simp [plain]) rfl) wn ?_
  rintro σ80 ⟨H, -⟩
  refine w_end (q_then (c_ret ?_))
  obtain rfl := sj h
  exact fin_ret (v := (.agg #[(Sl a75 o26.2.1 c76), (Sl a77 o26.2.2 c78)])) (results_ok Try.results72 (res_cell rfl (run_cellRes (cs := [(Sl a75 o26.2.1 c76), (Sl a77 o26.2.2 c78)]) Try.underlying26 rfl ti26 rfl (H.cells 0 rfl)) res_nil) rfl) ⟨a75, c76, a77, c78, a73, c74, rfl, rfl⟩ (H.sel' [4, 5, 1, 2] rfl rfl)

theorem c_spec_anyHistory {Cy : (List UInt8) × Int} {Da : Option Addr} {Db : Nat} {Dc Dd De : Nat} {Dg Dh : List Value} {r : ((List (Int × (Int × (List Int) × Int))) × (List Int)) × ((List UInt8) × Int)} (h : M.spec_anyHistory Cy = some r) :
    Cal2 Try.prog 40 [(pt Dd De)] [Ch.bx Dc Dd De [(Sl Da Cy.1 Db), (I Cy.2)] Dg Dh, Ch.ro 0 (Sl Da Cy.1 Db) Cy.1] (fun n0 v L => ∃ (az1 : Option Addr), ∃ (cz2 : Nat), ∃ (az3 : Option Addr), ∃ (cz4 : Nat), ∃ (az5 : Option Addr), ∃ (cz6 : Nat), v = (.agg #[(Sl az1 r.1.1 cz2), (Sl az3 r.1.2 cz4)]) ∧ L = [Ch.own n0 n0 (Sl az1 r.1.1 cz2) r.1.1, Ch.own n0 n0 (Sl az3 r.1.2 cz4) r.1.2, Ch.bx Dc Dd De [(Sl az5 r.2.1 cz6), (I r.2.2)] Dg Dh, Ch.ro 0 (Sl az5 r.2.1 cz6) r.2.1]) := by
 refine cal2 (n := 35) Try.func40 rfl rfl rfl rfl ?_
 intro S0 σ0 n0 hn0 H
 unfold M.spec_anyHistory at h
 refine c_seq (rg (st_ex (ex_alloc (cs := [(.slice none 0 0), (.slice none 0 0)]) H hn0 ti26 rfl) wn ?_))
 rintro _ σ2 ⟨b1, rfl, H, -⟩
 refine w_end (q_then (c_seq (rg (sm (pt Dd De) rfl ?_))))
 revert h; refine br fun r3 hx4 h => ?_
 have hc5 := c_spec_someHistory (Dc := Dc) (Dd := Dd) (De := De) (Dg := Dg) (Dh := Dh) (Da := Da) (Db := Db) hx4
 refine st_call (cx_call hc5 (ent_f hc5.fn rfl) hn0 (H.sel' [1, 2, 0, 2] rfl rfl : Hp S0 σ0 _ ([_, _] ++ _))) wn ?_
 rintro _ σ12 ⟨_, ⟨a6, c7, a8, c9, a10, c11, rfl, rfl⟩, H, -⟩
 replace H : Hp _ _ _ [_, _, _, _, _, _] := H
 refine st_ex (ex_alloc (cs := [(.slice none 0 0), (.slice none 0 0)]) H hn0 ti26 rfl) wn ?_
 rintro _ σ14 ⟨b13, rfl, H, -⟩
 refine st_exS (ex_store_box (k := 0) (cs := [(.slice none 0 0), (.slice none 0 0)]) (vs := [(Sl a6 r3.1.1 c7), (Sl a8 r3.1.2 c9)]) (cs' := [(Sl a6 r3.1.1 c7), (Sl a8 r3.1.2 c9)]) H (i := 0) rfl ti26 rfl rfl rfl rfl rfl (Nat.le_of_ble_eq_true rfl) (by simp [plain]) rfl) wn ?_
 rintro σ15 ⟨H, -⟩
 refine w_end (q_then (c_seq (c_seq (rg (sm (pt Dd De) rfl ?_)))))
 revert h; refine br fun r16 hx17 h => ?_
 have hc18 := c_spec_reader_pick (Dc := Dc) (Dd := Dd) (De := De) (Dg := Dg) (Dh := Dh) (Da := a10) (Db := c11) hx17
 refine st_call (cx_call hc18 (ent_f hc18.fn rfl) hn0 (H.sel' [3, 4, 0, 1, 2, 4, 5, 6] rfl rfl : Hp S0 σ0 _ ([_, _] ++ _))) wn ?_
 rintro _ σ21 ⟨_, ⟨a19, c20, rfl, rfl⟩, H, -⟩
 replace H : Hp _ _ _ [_, _, _, _, _, _, _, _] := H
 replace H : Hp S0 σ0 σ21 [Ch.bx Dc Dd De [(Sl a19 r16.2.1 c20), (I r16.2.2)] Dg Dh, Ch.ro 0 (Sl a19 r16.2.1 c20) r16.2.1, Ch.bx n0 b13 0 [(Sl a6 r3.1.1 c7), (Sl a8 r3.1.2 c9)] [] [], Ch.own n0 n0 (Sl a6 r3.1.1 c7) r3.1.1, Ch.own n0 n0 (Sl a8 r3.1.2 c9) r3.1.2, Ch.bx n0 b1 0 [(.slice none 0 0), (.slice none 0 0)] [] []] := H.sel' [0, 1, 2, 3, 4, 6] rfl rfl
 refine w_end (q_then ?_)
 obtain ⟨o22, hj, h'⟩ := bind_some h
 clear h
 refine c_cut (fun e a w => e = .normal ∧ ∃ (ρ : Nat → Value) (σ : St) (aj1 : Option Addr) (cj2 : Nat) (aj3 : Option Addr) (cj4 : Nat) (aj5 : Option Addr) (cj6 : Nat), a = fr 35 (updL ρ [(0, (pt Dd De)), (2, (pt b1 0)), (3, (pt b13 0))]) ∧ w = σ.w ∧ Hp S0 σ0 σ [Ch.bx Dc Dd De [(Sl aj1 o22.1.1 cj2), (I o22.1.2)] Dg Dh, Ch.ro 0 (Sl aj1 o22.1.1 cj2) o22.1.1, Ch.bx n0 b13 0 [(Sl aj3 o22.2.1 cj4), (Sl aj5 o22.2.2 cj6)] [] [], Ch.own n0 n0 (Sl aj3 o22.2.1 cj4) o22.2.1, Ch.own n0 n0 (Sl aj5 o22.2.2 cj6) o22.2.2, Ch.bx n0 b1 0 [(.slice none 0 0), (.slice none 0 0)] [] []]) ?_ ?_
 ·clear h'
  rename _ = some o22 => h
  refine c_blk (c_seq (rg (st (v := (B (r16.1 == 0))) (rv_eql (a := r16.1) (b := 0) rfl rfl) (sa (B (r16.1 == 0)) rfl (w_end (q_then ?_))))))
  refine cd_cond (r16.1 == 0) rfl (fun hb23 => ?_) (fun hb23 => ?_)
  ·replace h := bif_t hb23 h
   refine rg (sm (pt Dd De) rfl (st (v := (pt b13 1)) (rv_fieldAddr (off := 1) (ft := 24) Try.underlying26 rfl ti24 rfl rfl) ?_))
   have hc24 := H.cell (u := (Sl a8 r3.1.2 c9)) (o' := 1) 2 1 rfl rfl rfl
   refine st (v := (Sl a8 r3.1.2 c9)) (rv_load1 Try.underlying24 rfl rfl hc24) ?_
   refine st_ex (ex_buildSlice (el := n0) (xs := ([1000] : List Int)) (ps := [(0, (I 1000))]) (cs := [(I 1000)]) H hn0 Try.underlying24 ti3 rfl rfl (by kernel_rfl) (.cons (c := [(I 1000)]) rfl (.nil)) rfl) wn ?_
   rintro _ σ26 ⟨b25, rfl, H, -⟩
   revert h; refine br fun xs27 hx28 h => ?_
   refine st_ex (ex_append H (i := 5) rfl Try.underlying24 Try.underlying24 ti3 rfl rfl (by decide) (H.own 0 rfl).rd hx28 hn0 rfl rfl) wn ?_
   rintro _ σ31 ⟨a29, c30, rfl, H, -⟩
   obtain ⟨σ32, hw33, H, -⟩ := H.pub 0 rfl (Nat.le_refl _)
   rw [← hw33]; clear hw33
   replace H := H.roLow 0 0 rfl (Nat.zero_le _)
   revert h; refine br fun r34 hx35 h => ?_
   have hc36 := c_spec_reader_spoil (Dc := Dc) (Dd := Dd) (De := De) (Dg := Dg) (Dh := Dh) (Da := a19) (Db := c20) (Bk := a29) (Bl := c30) hx35
   refine st_call (cx_call hc36 (ent_f hc36.fn rfl) hn0 (H.sel' [3, 4, 0, 0, 1, 2, 4, 5, 6, 7] rfl rfl : Hp S0 σ0 _ ([_, _, _] ++ _))) wn ?_
   rintro _ σ41 ⟨_, ⟨a37, c38, a39, c40, rfl, rfl⟩, H, -⟩
   replace H : Hp _ _ _ [_, _, _, _, _, _, _, _, _, _] := H
   replace H : Hp S0 σ0 σ41 [Ch.own n0 n0 (Sl a37 r34.1 c38) r34.1, Ch.bx Dc Dd De [(Sl a39 r34.2.1 c40), (I r34.2.2)] Dg Dh, Ch.ro 0 (Sl a39 r34.2.1 c40) r34.2.1, Ch.bx n0 b13 0 [(Sl a6 r3.1.1 c7), (Sl a8 r3.1.2 c9)] [] [], Ch.own n0 n0 (Sl a6 r3.1.1 c7) r3.1.1, Ch.bx n0 b1 0 [(.slice none 0 0), (.slice none 0 0)] [] []] := H.sel' [0, 1, 2, 7, 8, 9] rfl rfl
   refine st (v := (pt b13 1)) (rv_fieldAddr (off := 1) (ft := 24) Try.underlying26 rfl ti24 rfl rfl) ?_
   refine st_exS (ex_store_box (k := 1) (cs := [(Sl a6 r3.1.1 c7), (Sl a8 r3.1.2 c9)]) (vs := [(Sl a37 r34.1 c38)]) (cs' := [(Sl a6 r3.1.1 c7), (Sl a37 r34.1 c38)]) H (i := 3) rfl ti24 rfl rfl rfl rfl rfl (Nat.le_of_ble_eq_true rfl) (by simp [plain]) rfl) wn ?_
   rintro σ42 ⟨H, -⟩
   refine w_end (q_blk ?_)
   obtain rfl := sj h
   exact ⟨rfl, _, σ42, a39, c40, a6, c7, a37, c38, fr_join ⟨rfl, rfl, rfl, trivial⟩, rfl, H.sel' [2, 3, 0, 4, 1, 5] rfl rfl⟩
  ·replace h := bif_f hb23 h
   refine c_seq (rg (st (v := (B (r16.1 == 1))) (rv_eql (a := r16.1) (b := 1) rfl rfl) (sa (B (r16.1 == 1)) rfl (w_end (q_then ?_)))))
   refine cd_cond (r16.1 == 1) rfl (fun hb43 => ?_) (fun hb43 => ?_)
   ·replace h := bif_t hb43 h
    refine c_seq ?_
    have hc44 := H.cell (u := (Sl a6 r3.1.1 c7)) (o' := 0) 2 0 rfl rfl rfl
    revert h; refine br fun r45 hx46 h => ?_
    have hc47 := c_spec_anyEntry (Dc := Dc) (Dd := Dd) (De := De) (Dg := Dg) (Dh := Dh) (Da := a19) (Db := c20) hx46
    have Hs := H
    refine rg2 (σ := σ21) (Nm := (Option Addr) × (Nat) × (Option Addr) × (Nat) × (Nat)) 5 [3, 4] [[false, false], [true, false], [true, true]] [[(0, 0), (1, 1), (2, 2)], [(0, 0), (1, 1), (2, 2)], [(0, 0)], [(0, 1)], [(1, 2)]] 2 [fun ((a48, c49, a50, c51, b52) : (Option Addr) × (Nat) × (Option Addr) × (Nat) × (Nat)) => fun σm => Hp S0 σ0 σm [Ch.bx Dc Dd De [(Sl a19 r16.2.1 c20), (I r16.2.2)] Dg Dh, Ch.ro 0 (Sl a19 r16.2.1 c20) r16.2.1, Ch.bx n0 b13 0 [(Sl a6 r3.1.1 c7), (Sl a8 r3.1.2 c9)] [] [], Ch.own n0 n0 (Sl a6 r3.1.1 c7) r3.1.1, Ch.own n0 n0 (Sl a8 r3.1.2 c9) r3.1.2, Ch.bx n0 b1 0 [(.slice none 0 0), (.slice none 0 0)] [] []] ∧ Md (cov []) σ21 σm, fun ((a48, c49, a50, c51, b52) : (Option Addr) × (Nat) × (Option Addr) × (Nat) × (Nat)) => fun σm => Hp S0 σ0 σm [Ch.ro n0 (Sl a48 r45.1.2.2.1 c49) r45.1.2.2.1, Ch.bx Dc Dd De [(Sl a50 r45.2.1 c51), (I r45.2.2)] Dg Dh, Ch.ro 0 (Sl a50 r45.2.1 c51) r45.2.1, Ch.ro 0 (Sl a19 r16.2.1 c20) r16.2.1, Ch.bx n0 b13 0 [(Sl a6 r3.1.1 c7), (Sl a8 r3.1.2 c9)] [] [], Ch.own n0 n0 (Sl a6 r3.1.1 c7) r3.1.1, Ch.own n0 n0 (Sl a8 r3.1.2 c9) r3.1.2, Ch.bx n0 b1 0 [(.slice none 0 0), (.slice none 0 0)] [] []] ∧ Md (fun i => (cov []) i ∨ (fun i => (cov [Ch.bx Dc Dd De [(Sl a19 r16.2.1 c20), (I r16.2.2)] Dg Dh, Ch.ro 0 (Sl a19 r16.2.1 c20) r16.2.1]) i ∨ (fun b => blk (Sl a48 r45.1.2.2.1 c49) = some b) i) i) σ21 σm, fun ((a48, c49, a50, c51, b52) : (Option Addr) × (Nat) × (Option Addr) × (Nat) × (Nat)) => fun σm => Hp S0 σ0 σm [Ch.own n0 n0 (Sl (some ⟨b52, 0, none⟩) ([(r45.1.1, (r45.1.2.1, r45.1.2.2.1, r45.1.2.2.2))] : List (Int × (Int × (List Int) × Int))) 1) ([(r45.1.1, (r45.1.2.1, r45.1.2.2.1, r45.1.2.2.2))] : List (Int × (Int × (List Int) × Int))), Ch.ro n0 (Sl a48 r45.1.2.2.1 c49) r45.1.2.2.1, Ch.bx Dc Dd De [(Sl a50 r45.2.1 c51), (I r45.2.2)] Dg Dh, Ch.ro 0 (Sl a50 r45.2.1 c51) r45.2.1, Ch.ro 0 (Sl a19 r16.2.1 c20) r16.2.1, Ch.bx n0 b13 0 [(Sl a6 r3.1.1 c7), (Sl a8 r3.1.2 c9)] [] [], Ch.own n0 n0 (Sl a6 r3.1.1 c7) r3.1.1, Ch.own n0 n0 (Sl a8 r3.1.2 c9) r3.1.2, Ch.bx n0 b1 0 [(.slice none 0 0), (.slice none 0 0)] [] []] ∧ Md (fun i => (cov []) i ∨ (fun i => (cov [Ch.bx Dc Dd De [(Sl a19 r16.2.1 c20), (I r16.2.2)] Dg Dh, Ch.ro 0 (Sl a19 r16.2.1 c20) r16.2.1]) i ∨ (fun b => blk (Sl a48 r45.1.2.2.1 c49) = some b) i) i) σ21 σm] [fun ((a48, c49, a50, c51, b52) : (Option Addr) × (Nat) × (Option Addr) × (Nat) × (Nat)) => (pt b13 0), fun ((a48, c49, a50, c51, b52) : (Option Addr) × (Nat) × (Option Addr) × (Nat) × (Nat)) => (Sl a6 r3.1.1 c7), fun ((a48, c49, a50, c51, b52) : (Option Addr) × (Nat) × (Option Addr) × (Nat) × (Nat)) => (pt Dd De), fun ((a48, c49, a50, c51, b52) : (Option Addr) × (Nat) × (Option Addr) × (Nat) × (Nat)) => (.agg #[(I r45.1.1), (I r45.1.2.1), (Sl a48 r45.1.2.2.1 c49), (I r45.1.2.2.2)]), fun ((a48, c49, a50, c51, b52) : (Option Addr) × (Nat) × (Option Addr) × (Nat) × (Nat)) => (Sl (some ⟨b52, 0, none⟩) ([(r45.1.1, (r45.1.2.1, r45.1.2.2.1, r45.1.2.2.2))] : List (Int × (Int × (List Int) × Int))) 1)] (none, 0, none, 0, 0) (by kernel_rfl) (by kernel_rfl) ?_ ?_ ?_
    ·intro σm m0
     exact ⟨H.grow (m0.mono fun _ h => h.elim), m0⟩
    ·refine ac rfl (by
       intro k; rintro ⟨a48, c49, a50, c51, b52⟩ ρ σm hJ hoff hdep
       have e3 := look_off (N := 35) (hoff 3 rfl) rfl
       exact dp_v (v := (pt b13 0)) wn (rv_fieldAddr (off := 0) (ft := 23) Try.underlying26 rfl ti23 rfl e3) rfl hJ) ?_
     refine all_cons (by
       refine ⟨?_, ?_⟩
       ·rintro ⟨a48, c49, a50, c51, b52⟩ ρ σm hJ hoff hdep
        have e19 := hdep 0 rfl rfl 19 rfl
        obtain ⟨H, m⟩ := id hJ
        have hc44 := H.cell (u := (Sl a6 r3.1.1 c7)) (o' := 0) 2 0 rfl rfl rfl
        exact dp_v (v := (Sl a6 r3.1.1 c7)) wn (rv_load1 Try.underlying23 rfl e19 hc44) rfl hJ
       refine ⟨?_, ?_⟩
       ·rintro ⟨a48, c49, a50, c51, b52⟩ ρ σm hJ hoff hdep
        have e19 := hdep 0 rfl rfl 19 rfl
        obtain ⟨H, m⟩ := id hJ
        have hc44 := H.cell (u := (Sl a6 r3.1.1 c7)) (o' := 0) 4 0 rfl rfl rfl
        exact dp_v (v := (Sl a6 r3.1.1 c7)) wn (rv_load1 Try.underlying23 rfl e19 hc44) rfl hJ
       refine ⟨?_, ?_⟩
       ·rintro ⟨a48, c49, a50, c51, b52⟩ ρ σm hJ hoff hdep
        have e19 := hdep 0 rfl rfl 19 rfl
        obtain ⟨H, m⟩ := id hJ
        have hc44 := H.cell (u := (Sl a6 r3.1.1 c7)) (o' := 0) 5 0 rfl rfl rfl
        exact dp_v (v := (Sl a6 r3.1.1 c7)) wn (rv_load1 Try.underlying23 rfl e19 hc44) rfl hJ
       trivial) ?_
     refine ac rfl (by
       intro k; rintro ⟨a48, c49, a50, c51, b52⟩ ρ σm hJ hoff hdep
       have e0 := look_off (N := 35) (hoff 0 rfl) rfl
       exact dp_v (v := (pt Dd De)) wn (rv_move e0) rfl hJ) ?_
     refine all_cons (by
       refine ⟨?_, ?_⟩
       ·rintro ⟨a48, c49, a50, c51, b52⟩ ρ σm hJ hoff hdep
        have e21 : look 35 ρ 21 = (pt Dd De) := hdep 2 rfl rfl 21 rfl
        obtain ⟨H, m⟩ := id hJ
        refine dp_cx wn (cx_call hc47 (ent_f hc47.fn (by show [look 35 ρ 21] = _; rw [e21])) hn0 (H.sel' [0, 1, 1, 2, 3, 4, 5] rfl rfl : Hp S0 σ0 _ ([_, _] ++ _))) ?_
        rintro _ σq ⟨_, ⟨a48x, c49x, a50x, c51x, rfl, rfl⟩, H2, m2⟩
        obtain ⟨σr0, hwr0, H2, mr0⟩ := H2.pub 0 rfl (Nat.le_refl _)
        exact ⟨_, (a48x, c49x, a50x, c51x, b52), hwr0, rfl, ⟨H2.sel' [0, 1, 2, 3, 4, 5, 6, 7] rfl rfl, m.comp (m2.comp mr0)⟩, stab [0, 1, 2] (by kernel_rfl) ⟨rfl, rfl, rfl, trivial⟩⟩
       trivial) ?_
     refine all_cons (by
       refine ⟨?_, ?_⟩
       ·rintro ⟨a48, c49, a50, c51, b52⟩ ρ σm hJ hoff hdep
        have e22 : look 35 ρ 22 = (.agg #[(I r45.1.1), (I r45.1.2.1), (Sl a48 r45.1.2.2.1 c49), (I r45.1.2.2.2)]) := hdep 3 rfl rfl 22 rfl
        obtain ⟨H, m⟩ := id hJ
        refine dp_ex wn (ex_buildSlice (el := n0) (xs := ([(r45.1.1, (r45.1.2.1, r45.1.2.2.1, r45.1.2.2.2))] : List (Int × (Int × (List Int) × Int)))) (ps := [(0, (.agg #[(I r45.1.1), (I r45.1.2.1), (Sl a48 r45.1.2.2.1 c49), (I r45.1.2.2.2)]))]) (cs := [(I r45.1.1), (I r45.1.2.1), (Sl a48 r45.1.2.2.1 c49), (I r45.1.2.2.2)]) H hn0 Try.underlying23 ti43 rfl (by show [(0, look 35 ρ 22)] = _; rw [e22]) (by kernel_rfl) (.cons (c := [(I r45.1.1), (I r45.1.2.1), (Sl a48 r45.1.2.2.1 c49), (I r45.1.2.2.2)]) ⟨[(I r45.1.1)], [(I r45.1.2.1), (Sl a48 r45.1.2.2.1 c49), (I r45.1.2.2.2)], rfl, rfl, ⟨[(I r45.1.2.1)], [(Sl a48 r45.1.2.2.1 c49), (I r45.1.2.2.2)], rfl, rfl, ⟨[(Sl a48 r45.1.2.2.1 c49)], [(I r45.1.2.2.2)], rfl, ⟨_, rfl, (H.ro 0 rfl)⟩, rfl⟩⟩⟩ (.nil)) rfl) ?_
        rintro _ σq ⟨b52x, rfl, H2, m2⟩
        exact ⟨_, (a48, c49, a50, c51, b52x), rfl, rfl, ⟨H2.sel' [0, 1, 2, 3, 4, 5, 6, 7, 8] rfl rfl, m.comp0 m2⟩, stab [0, 1, 2, 3] (by kernel_rfl) ⟨rfl, rfl, rfl, rfl, trivial⟩⟩
       trivial) ?_
     exact all_nil
    ·rintro ⟨a48, c49, a50, c51, b52⟩ ρ σ53 hJ hoff hrel
     have e0 := look_off (N := 35) (hoff 0 rfl) rfl
     have e2 := look_off (N := 35) (hoff 2 rfl) rfl
     have e3 := look_off (N := 35) (hoff 3 rfl) rfl
     have e20 := hrel 1 rfl 20 rfl
     have e23 := hrel 4 rfl 23 rfl
     obtain ⟨H, -⟩ := (show Hp S0 σ0 σ53 [Ch.own n0 n0 (Sl (some ⟨b52, 0, none⟩) ([(r45.1.1, (r45.1.2.1, r45.1.2.2.1, r45.1.2.2.2))] : List (Int × (Int × (List Int) × Int))) 1) ([(r45.1.1, (r45.1.2.1, r45.1.2.2.1, r45.1.2.2.2))] : List (Int × (Int × (List Int) × Int))), Ch.ro n0 (Sl a48 r45.1.2.2.1 c49) r45.1.2.2.1, Ch.bx Dc Dd De [(Sl a50 r45.2.1 c51), (I r45.2.2)] Dg Dh, Ch.ro 0 (Sl a50 r45.2.1 c51) r45.2.1, Ch.ro 0 (Sl a19 r16.2.1 c20) r16.2.1, Ch.bx n0 b13 0 [(Sl a6 r3.1.1 c7), (Sl a8 r3.1.2 c9)] [] [], Ch.own n0 n0 (Sl a6 r3.1.1 c7) r3.1.1, Ch.own n0 n0 (Sl a8 r3.1.2 c9) r3.1.2, Ch.bx n0 b1 0 [(.slice none 0 0), (.slice none 0 0)] [] []] ∧ Md (fun i => (cov []) i ∨ (fun i => (cov [Ch.bx Dc Dd De [(Sl a19 r16.2.1 c20), (I r16.2.2)] Dg Dh, Ch.ro 0 (Sl a19 r16.2.1 c20) r16.2.1]) i ∨ (fun b => blk (Sl a48 r45.1.2.2.1 c49) = some b) i) i) σ21 σ53 from hJ)
     clear hJ Hs
     rw [fr_lookL (L := [(0, (pt Dd De)), (2, (pt b1 0)), (3, (pt b13 0)), (20, (Sl a6 r3.1.1 c7)), (23, (Sl (some ⟨b52, 0, none⟩) ([(r45.1.1, (r45.1.2.1, r45.1.2.2.1, r45.1.2.2.2))] : List (Int × (Int × (List Int) × Int))) 1))]) ⟨e0, e2, e3, e20, e23, trivial⟩]
     clear hoff hrel e0 e2 e3 e20 e23
     revert h; refine br fun xs54 hx55 h => ?_
     refine st_ex (ex_append H (i := 6) rfl Try.underlying23 Try.underlying23 ti43 rfl rfl (by decide) (H.own 0 rfl).rd hx55 hn0 rfl rfl) wn ?_
     rintro _ σ58 ⟨a56, c57, rfl, H, -⟩
     replace H : Hp S0 σ0 σ58 [Ch.own n0 n0 (Sl a56 xs54 c57) xs54, Ch.bx Dc Dd De [(Sl a50 r45.2.1 c51), (I r45.2.2)] Dg Dh, Ch.ro 0 (Sl a50 r45.2.1 c51) r45.2.1, Ch.bx n0 b13 0 [(Sl a6 r3.1.1 c7), (Sl a8 r3.1.2 c9)] [] [], Ch.own n0 n0 (Sl a8 r3.1.2 c9) r3.1.2, Ch.bx n0 b1 0 [(.slice none 0 0), (.slice none 0 0)] [] []] := H.sel' [0, 3, 4, 6, 7, 8] rfl rfl
     refine st (v := (pt b13 0)) (rv_fieldAddr (off := 0) (ft := 23) Try.underlying26 rfl ti23 rfl rfl) ?_
     refine st_exS (ex_store_box (k := 0) (cs := [(Sl a6 r3.1.1 c7), (Sl a8 r3.1.2 c9)]) (vs := [(Sl a56 xs54 c57)]) (cs' := [(Sl a56 xs54 c57), (Sl a8 r3.1.2 c9)]) H (i := 3) rfl ti23 rfl rfl rfl rfl rfl (Nat.le_of_ble_eq_true rfl) (by simp [plain]) rfl) wn ?_
     rintro σ59 ⟨H, -⟩
     refine w_end (q_then ?_)
     have hc60 := H.cell (u := (Sl a8 r3.1.2 c9)) (o' := 1) 0 1 rfl rfl rfl
     revert h; refine br fun r62 hx63 h => ?_
     have hc64 := fun (b61 : Nat) => c_spec_reader_one (Dc := Dc) (Dd := Dd) (De := De) (Dg := Dg) (Dh := Dh) (Da := a50) (Db := c51) (Bk := (some ⟨b61, 0, none⟩)) (Bl := 2) hx63
     have Hs := H
     refine rg2 (σ := σ59) (Nm := (Nat) × (Option Addr) × (Nat) × (Nat)) 6 [3, 4, 5] [[false, false, false], [true, false, false], [true, true, false], [true, true, true]] [[(0, 0), (1, 1), (2, 2), (3, 3)], [(0, 0), (1, 1), (2, 2), (3, 3)], [(0, 0), (1, 1)], [(0, 1)], [(1, 2)], [(2, 3)]] 3 [fun ((b61, a65, c66, b67) : (Nat) × (Option Addr) × (Nat) × (Nat)) => fun σm => Hp S0 σ0 σm [Ch.bx n0 b13 0 [(Sl a56 xs54 c57), (Sl a8 r3.1.2 c9)] [] [], Ch.own n0 n0 (Sl a56 xs54 c57) xs54, Ch.bx Dc Dd De [(Sl a50 r45.2.1 c51), (I r45.2.2)] Dg Dh, Ch.ro 0 (Sl a50 r45.2.1 c51) r45.2.1, Ch.own n0 n0 (Sl a8 r3.1.2 c9) r3.1.2, Ch.bx n0 b1 0 [(.slice none 0 0), (.slice none 0 0)] [] []] ∧ Md (cov []) σ59 σm, fun ((b61, a65, c66, b67) : (Nat) × (Option Addr) × (Nat) × (Nat)) => fun σm => Hp S0 σ0 σm [Ch.ro 0 (Sl (some ⟨b61, 0, none⟩) ([0, 900] : List Int) 2) ([0, 900] : List Int), Ch.bx n0 b13 0 [(Sl a56 xs54 c57), (Sl a8 r3.1.2 c9)] [] [], Ch.own n0 n0 (Sl a56 xs54 c57) xs54, Ch.bx Dc Dd De [(Sl a50 r45.2.1 c51), (I r45.2.2)] Dg Dh, Ch.ro 0 (Sl a50 r45.2.1 c51) r45.2.1, Ch.own n0 n0 (Sl a8 r3.1.2 c9) r3.1.2, Ch.bx n0 b1 0 [(.slice none 0 0), (.slice none 0 0)] [] []] ∧ Md (fun i => (cov []) i ∨ (fun i => (cov []) i ∨ (fun b => blk (Sl (some ⟨b61, 0, none⟩) ([0, 900] : List Int) 2) = some b) i) i) σ59 σm, fun ((b61, a65, c66, b67) : (Nat) × (Option Addr) × (Nat) × (Nat)) => fun σm => Hp S0 σ0 σm [Ch.bx Dc Dd De [(Sl a65 r62.2.1 c66), (I r62.2.2)] Dg Dh, Ch.ro 0 (Sl a65 r62.2.1 c66) r62.2.1, Ch.ro 0 (Sl (some ⟨b61, 0, none⟩) ([0, 900] : List Int) 2) ([0, 900] : List Int), Ch.bx n0 b13 0 [(Sl a56 xs54 c57), (Sl a8 r3.1.2 c9)] [] [], Ch.own n0 n0 (Sl a56 xs54 c57) xs54, Ch.ro 0 (Sl a50 r45.2.1 c51) r45.2.1, Ch.own n0 n0 (Sl a8 r3.1.2 c9) r3.1.2, Ch.bx n0 b1 0 [(.slice none 0 0), (.slice none 0 0)] [] []] ∧ Md (fun i => (fun i => (cov []) i ∨ (fun i => (cov []) i ∨ (fun b => blk (Sl (some ⟨b61, 0, none⟩) ([0, 900] : List Int) 2) = some b) i) i) i ∨ (cov [Ch.bx Dc Dd De [(Sl a50 r45.2.1 c51), (I r45.2.2)] Dg Dh, Ch.ro 0 (Sl a50 r45.2.1 c51) r45.2.1, Ch.ro 0 (Sl (some ⟨b61, 0, none⟩) ([0, 900] : List Int) 2) ([0, 900] : List Int)]) i) σ59 σm, fun ((b61, a65, c66, b67) : (Nat) × (Option Addr) × (Nat) × (Nat)) => fun σm => Hp S0 σ0 σm [Ch.own n0 n0 (Sl (some ⟨b67, 0, none⟩) ([r62.1] : List Int) 1) ([r62.1] : List Int), Ch.bx Dc Dd De [(Sl a65 r62.2.1 c66), (I r62.2.2)] Dg Dh, Ch.ro 0 (Sl a65 r62.2.1 c66) r62.2.1, Ch.ro 0 (Sl (some ⟨b61, 0, none⟩) ([0, 900] : List Int) 2) ([0, 900] : List Int), Ch.bx n0 b13 0 [(Sl a56 xs54 c57), (Sl a8 r3.1.2 c9)] [] [], Ch.own n0 n0 (Sl a56 xs54 c57) xs54, Ch.ro 0 (Sl a50 r45.2.1 c51) r45.2.1, Ch.own n0 n0 (Sl a8 r3.1.2 c9) r3.1.2, Ch.bx n0 b1 0 [(.slice none 0 0), (.slice none 0 0)] [] []] ∧ Md (fun i => (fun i => (cov []) i ∨ (fun i => (cov []) i ∨ (fun b => blk (Sl (some ⟨b61, 0, none⟩) ([0, 900] : List Int) 2) = some b) i) i) i ∨ (cov [Ch.bx Dc Dd De [(Sl a50 r45.2.1 c51), (I r45.2.2)] Dg Dh, Ch.ro 0 (Sl a50 r45.2.1 c51) r45.2.1, Ch.ro 0 (Sl (some ⟨b61, 0, none⟩) ([0, 900] : List Int) 2) ([0, 900] : List Int)]) i) σ59 σm] [fun ((b61, a65, c66, b67) : (Nat) × (Option Addr) × (Nat) × (Nat)) => (pt b13 1), fun ((b61, a65, c66, b67) : (Nat) × (Option Addr) × (Nat) × (Nat)) => (Sl a8 r3.1.2 c9), fun ((b61, a65, c66, b67) : (Nat) × (Option Addr) × (Nat) × (Nat)) => (pt Dd De), fun ((b61, a65, c66, b67) : (Nat) × (Option Addr) × (Nat) × (Nat)) => (Sl (some ⟨b61, 0, none⟩) ([0, 900] : List Int) 2), fun ((b61, a65, c66, b67) : (Nat) × (Option Addr) × (Nat) × (Nat)) => (I r62.1), fun ((b61, a65, c66, b67) : (Nat) × (Option Addr) × (Nat) × (Nat)) => (Sl (some ⟨b67, 0, none⟩) ([r62.1] : List Int) 1)] (0, none, 0, 0) (by kernel_rfl) (by kernel_rfl) ?_ ?_ ?_
     ·intro σm m0
      exact ⟨H.grow (m0.mono fun _ h => h.elim), m0⟩
     ·refine ac rfl (by
        intro k; rintro ⟨b61, a65, c66, b67⟩ ρ σm hJ hoff hdep
        have e3 := look_off (N := 35) (hoff 3 rfl) rfl
        exact dp_v (v := (pt b13 1)) wn (rv_fieldAddr (off := 1) (ft := 24) Try.underlying26 rfl ti24 rfl e3) rfl hJ) ?_
      refine all_cons (by
        refine ⟨?_, ?_⟩
        ·rintro ⟨b61, a65, c66, b67⟩ ρ σm hJ hoff hdep
         have e26 := hdep 0 rfl rfl 26 rfl
         obtain ⟨H, m⟩ := id hJ
         have hc60 := H.cell (u := (Sl a8 r3.1.2 c9)) (o' := 1) 0 1 rfl rfl rfl
         exact dp_v (v := (Sl a8 r3.1.2 c9)) wn (rv_load1 Try.underlying24 rfl e26 hc60) rfl hJ
        refine ⟨?_, ?_⟩
        ·rintro ⟨b61, a65, c66, b67⟩ ρ σm hJ hoff hdep
         have e26 := hdep 0 rfl rfl 26 rfl
         obtain ⟨H, m⟩ := id hJ
         have hc60 := H.cell (u := (Sl a8 r3.1.2 c9)) (o' := 1) 1 1 rfl rfl rfl
         exact dp_v (v := (Sl a8 r3.1.2 c9)) wn (rv_load1 Try.underlying24 rfl e26 hc60) rfl hJ
        refine ⟨?_, ?_⟩
        ·rintro ⟨b61, a65, c66, b67⟩ ρ σm hJ hoff hdep
         have e26 := hdep 0 rfl rfl 26 rfl
         obtain ⟨H, m⟩ := id hJ
         have hc60 := H.cell (u := (Sl a8 r3.1.2 c9)) (o' := 1) 3 1 rfl rfl rfl
         exact dp_v (v := (Sl a8 r3.1.2 c9)) wn (rv_load1 Try.underlying24 rfl e26 hc60) rfl hJ
        refine ⟨?_, ?_⟩
        ·rintro ⟨b61, a65, c66, b67⟩ ρ σm hJ hoff hdep
         have e26 := hdep 0 rfl rfl 26 rfl
         obtain ⟨H, m⟩ := id hJ
         have hc60 := H.cell (u := (Sl a8 r3.1.2 c9)) (o' := 1) 4 1 rfl rfl rfl
         exact dp_v (v := (Sl a8 r3.1.2 c9)) wn (rv_load1 Try.underlying24 rfl e26 hc60) rfl hJ
        trivial) ?_
      refine ac rfl (by
        intro k; rintro ⟨b61, a65, c66, b67⟩ ρ σm hJ hoff hdep
        have e0 := look_off (N := 35) (hoff 0 rfl) rfl
        exact dp_v (v := (pt Dd De)) wn (rv_move e0) rfl hJ) ?_
      refine all_cons (by
        refine ⟨?_, ?_⟩
        ·rintro ⟨b61, a65, c66, b67⟩ ρ σm hJ hoff hdep
         obtain ⟨H, m⟩ := id hJ
         refine dp_ex wn (ex_buildSlice (el := 0) (xs := ([0, 900] : List Int)) (ps := [(0, (I 0)), (1, (I 900))]) (cs := [(I 0), (I 900)]) H hn0 Try.underlying24 ti3 rfl rfl (by kernel_rfl) (.cons (c := [(I 0)]) rfl (.cons (c := [(I 900)]) rfl (.nil))) rfl) ?_
         rintro _ σq ⟨b61x, rfl, H2, m2⟩
         obtain ⟨σr0, hwr0, H2, mr0⟩ := H2.pub 0 rfl (Nat.zero_le _)
         exact ⟨_, (b61x, a65, c66, b67), hwr0, rfl, ⟨H2.sel' [0, 1, 2, 3, 4, 5, 6] rfl rfl, m.comp (m2.comp mr0)⟩, stab [0, 1, 2] (by kernel_rfl) ⟨rfl, rfl, rfl, trivial⟩⟩
        trivial) ?_
      refine all_cons (by
        refine ⟨?_, ?_⟩
        ·rintro ⟨b61, a65, c66, b67⟩ ρ σm hJ hoff hdep
         have e28 : look 35 ρ 28 = (pt Dd De) := hdep 2 rfl rfl 28 rfl
         have e29 : look 35 ρ 29 = (Sl (some ⟨b61, 0, none⟩) ([0, 900] : List Int) 2) := hdep 3 rfl rfl 29 rfl
         obtain ⟨H, m⟩ := id hJ
         refine dp_cx wn (cx_call (hc64 b61) (ent_f (hc64 b61).fn (by show [look 35 ρ 28, look 35 ρ 29] = _; rw [e28, e29])) hn0 (H.sel' [3, 4, 0, 0, 1, 2, 4, 5, 6] rfl rfl : Hp S0 σ0 _ ([_, _, _] ++ _))) ?_
         rintro _ σq ⟨_, ⟨a65x, c66x, rfl, rfl⟩, H2, m2⟩
         exact ⟨_, (b61, a65x, c66x, b67), rfl, rfl, ⟨H2.sel' [0, 1, 2, 3, 4, 5, 6, 7] rfl rfl, m.comp m2⟩, stab [0, 1, 2, 3] (by kernel_rfl) ⟨rfl, rfl, rfl, rfl, trivial⟩⟩
        trivial) ?_
      refine all_cons (by
        refine ⟨?_, ?_⟩
        ·rintro ⟨b61, a65, c66, b67⟩ ρ σm hJ hoff hdep
         have e30 : look 35 ρ 30 = (I r62.1) := hdep 4 rfl rfl 30 rfl
         obtain ⟨H, m⟩ := id hJ
         refine dp_ex wn (ex_buildSlice (el := n0) (xs := ([r62.1] : List Int)) (ps := [(0, (I r62.1))]) (cs := [(I r62.1)]) H hn0 Try.underlying24 ti3 rfl (by show [(0, look 35 ρ 30)] = _; rw [e30]) (by kernel_rfl) (.cons (c := [(I r62.1)]) rfl (.nil)) rfl) ?_
         rintro _ σq ⟨b67x, rfl, H2, m2⟩
         exact ⟨_, (b61, a65, c66, b67x), rfl, rfl, ⟨H2.sel' [0, 1, 2, 3, 4, 5, 6, 7, 8] rfl rfl, m.comp0 m2⟩, stab [0, 1, 2, 3, 4] (by kernel_rfl) ⟨rfl, rfl, rfl, rfl, rfl, trivial⟩⟩
        trivial) ?_
      exact all_nil
     ·rintro ⟨b61, a65, c66, b67⟩ ρ σ68 hJ hoff hrel
      have e0 := look_off (N := 35) (hoff 0 rfl) rfl
      have e2 := look_off (N := 35) (hoff 2 rfl) rfl
      have e3 := look_off (N := 35) (hoff 3 rfl) rfl
      have e27 := hrel 1 rfl 27 rfl
      have e31 := hrel 5 rfl 31 rfl
      obtain ⟨H, -⟩ := (show Hp S0 σ0 σ68 [Ch.own n0 n0 (Sl (some ⟨b67, 0, none⟩) ([r62.1] : List Int) 1) ([r62.1] : List Int), Ch.bx Dc Dd De [(Sl a65 r62.2.1 c66), (I r62.2.2)] Dg Dh, Ch.ro 0 (Sl a65 r62.2.1 c66) r62.2.1, Ch.ro 0 (Sl (some ⟨b61, 0, none⟩) ([0, 900] : List Int) 2) ([0, 900] : List Int), Ch.bx n0 b13 0 [(Sl a56 xs54 c57), (Sl a8 r3.1.2 c9)] [] [], Ch.own n0 n0 (Sl a56 xs54 c57) xs54, Ch.ro 0 (Sl a50 r45.2.1 c51) r45.2.1, Ch.own n0 n0 (Sl a8 r3.1.2 c9) r3.1.2, Ch.bx n0 b1 0 [(.slice none 0 0), (.slice none 0 0)] [] []] ∧ Md (fun i => (fun i => (cov []) i ∨ (fun i => (cov []) i ∨ (fun b => blk (Sl (some ⟨b61, 0, none⟩) ([0, 900] : List Int) 2) = some b) i) i) i ∨ (cov [Ch.bx Dc Dd De [(Sl a50 r45.2.1 c51), (I r45.2.2)] Dg Dh, Ch.ro 0 (Sl a50 r45.2.1 c51) r45.2.1, Ch.ro 0 (Sl (some ⟨b61, 0, none⟩) ([0, 900] : List Int) 2) ([0, 900] : List Int)]) i) σ59 σ68 from hJ)
      clear hJ Hs
      rw [fr_lookL (L := [(0, (pt Dd De)), (2, (pt b1 0)), (3, (pt b13 0)), (27, (Sl a8 r3.1.2 c9)), (31, (Sl (some ⟨b67, 0, none⟩) ([r62.1] : List Int) 1))]) ⟨e0, e2, e3, e27, e31, trivial⟩]
      clear hoff hrel e0 e2 e3 e27 e31
      revert h; refine br fun xs69 hx70 h => ?_
      refine st_ex (ex_append H (i := 7) rfl Try.underlying24 Try.underlying24 ti3 rfl rfl (by decide) (H.own 0 rfl).rd hx70 hn0 rfl rfl) wn ?_
      rintro _ σ73 ⟨a71, c72, rfl, H, -⟩
      replace H : Hp S0 σ0 σ73 [Ch.own n0 n0 (Sl a71 xs69 c72) xs69, Ch.bx Dc Dd De [(Sl a65 r62.2.1 c66), (I r62.2.2)] Dg Dh, Ch.ro 0 (Sl a65 r62.2.1 c66) r62.2.1, Ch.bx n0 b13 0 [(Sl a56 xs54 c57), (Sl a8 r3.1.2 c9)] [] [], Ch.own n0 n0 (Sl a56 xs54 c57) xs54, Ch.bx n0 b1 0 [(.slice none 0 0), (.slice none 0 0)] [] []] := H.sel' [0, 2, 3, 5, 6, 8] rfl rfl
      refine st (v := (pt b13 1)) (rv_fieldAddr (off := 1) (ft := 24) Try.underlying26 rfl ti24 rfl rfl) ?_
      refine st_exS (ex_store_box (k := 1) (cs := [(Sl a56 xs54 c57), (Sl a8 r3.1.2 c9)]) (vs := [(Sl a71 xs69 c72)]) (cs' := [(Sl a56 xs54 c57), (Sl a71 xs69 c72)]) H (i := 3) rfl ti24 rfl rfl rfl rfl rfl (Nat.le_of_ble_eq_true rfl) (by simp [plain]) rfl) wn ?_
      rintro σ74 ⟨H, -⟩
      refine w_end (q_blk ?_)
      obtain rfl := sj h
      exact ⟨rfl, _, σ74, a65, c66, a56, c57, a71, c72, fr_join ⟨rfl, rfl, rfl, trivial⟩, rfl, H.sel' [2, 3, 0, 4, 1, 5] rfl rfl⟩
   ·replace h := bif_f hb43 h
    refine c_skip (q_blk ?_)
    obtain rfl := sj h
    exact ⟨rfl, _, σ21, a19, c20, a6, c7, a8, c9, fr_join ⟨rfl, rfl, rfl, trivial⟩, rfl, H.sel' [0, 1, 2, 3, 4, 5] rfl rfl⟩
 ·clear hj
  have h := h'
  clear h' H
  rintro e a w ⟨rfl, ρ, σ75, a76, c77, a78, c79, a80, c81, rfl, rfl, H⟩
  refine q_then (c_seq (rg ?_))
  have hc82 := H.cells 2 rfl
  refine st (v := (.agg #[(Sl a78 o22.2.1 c79), (Sl a80 o22.2.2 c81)])) (rv_load (cs := [(Sl a78 o22.2.1 c79), (Sl a80 o22.2.2 c81)]) Try.underlying26 rfl ti26 rfl rfl hc82) ?_
  refine st_exS (ex_store_box (k := 0) (cs := [(.slice none 0 0), (.slice none 0 0)]) (vs := [(Sl a78 o22.2.1 c79), (Sl a80 o22.2.2 c81)]) (cs' := [(Sl a78 o22.2.1 c79), (Sl a80 o22.2.2 c81)]) H (i := 5) rfl ti26 rfl rfl rfl rfl rfl (Nat.le_of_ble_eq_true rfl) (by simp [plain]) rfl) wn ?_
  rintro σ83 ⟨H, -⟩
  refine w_end (q_then (c_ret ?_))
  obtain rfl := sj h
  exact fin_ret (v := (.agg #[(Sl a78 o22.2.1 c79), (Sl a80 o22.2.2 c81)])) (results_ok Try.results40 (res_cell rfl (run_cellRes (cs := [(Sl a78 o22.2.1 c79), (Sl a80 o22.2.2 c81)]) Try.underlying26 rfl ti26 rfl (H.cells 0 rfl)) res_nil) rfl) ⟨a78, c79, a80, c81, a76, c77, rfl, rfl⟩ (H.sel' [4, 5, 1, 2] rfl rfl)

theorem c_spec_newReader {Do : List UInt8} {Dq : Option Addr} {Dr : Nat} {r : ((List UInt8) × Int)} (h : M.spec_newReader Do = some r) :
    Cal2 Try.prog 41 [(Sl Dq Do Dr)] [Ch.ro 0 (Sl Dq Do Dr) Do] (fun n0 v L => ∃ (bz1 : Nat), ∃ (az2 : Option Addr), ∃ (cz3 : Nat), v = (pt bz1 0) ∧ L = [Ch.bx n0 bz1 0 [(Sl az2 r.1 cz3), (I r.2)] [] [], Ch.ro 0 (Sl az2 r.1 cz3) r.1]) := by
 refine cal2 (n := 11) Try.func41 rfl rfl rfl rfl ?_
 intro S0 σ0 n0 hn0 H
 unfold M.spec_newReader at h
 refine c_seq (rg (sa (.pointer none) rfl (w_end (q_then (c_seq (c_seq (rg (sm (Sl Dq Do Dr) rfl (st (v := (I (Do.length : Int))) (rv_len Try.underlying22 rfl) (st (v := (B (decide (2000 < (Do.length : Int))))) (rv_gtr (a := (Do.length : Int)) (b := 2000) rfl rfl) (w_end ?_)))))))))))
 refine q_then ?_
 obtain ⟨o1, hj, h'⟩ := bind_some h
 clear h
 refine c_cut (fun e a w => e = .normal ∧ ∃ (ρ : Nat → Value) (σ : St) (aj1 : Option Addr) (cj2 : Nat), a = fr 11 (updL ρ [(0, (Sl aj1 o1 cj2))]) ∧ w = σ.w ∧ Hp S0 σ0 σ [Ch.ro 0 (Sl aj1 o1 cj2) o1]) ?_ ?_
 ·clear h'
  rename _ = some o1 => h
  refine cd_cond (decide (2000 < (Do.length : Int))) rfl (fun hb2 => ?_) (fun hb2 => ?_)
  ·replace h := bif_t hb2 h
   refine rg (sm (Sl Dq Do Dr) rfl ?_)
   revert h; refine br fun xs3 hx4 h => ?_
   obtain ⟨a5, c6, hs7, hR8⟩ := (H.ro 0 rfl).slice hx4
   replace H := H.add (d := Ch.ro 0 (Sl a5 xs3 c6) xs3) hR8 (fun _ h => h)
   clear hR8
   refine st (v := (Sl a5 xs3 c6)) (rv_slice_h Try.underlying22 ti5 hs7 rfl rfl) (sa (Sl a5 xs3 c6) rfl (w_end ?_))
   obtain rfl := sj h
   exact ⟨rfl, _, σ0, a5, c6, fr_join ⟨rfl, trivial⟩, rfl, H.sel' [0] rfl rfl⟩
  ·replace h := bif_f hb2 h
   refine c_skip ?_
   obtain rfl := sj h
   exact ⟨rfl, _, σ0, Dq, Dr, fr_join ⟨rfl, trivial⟩, rfl, H.sel' [0] rfl rfl⟩
 ·clear hj
  have h := h'
  clear h' H
  rintro e a w ⟨rfl, ρ, σ9, a10, c11, rfl, rfl, H⟩
  refine q_then (c_seq (rg (sm (Sl a10 o1 c11) rfl ?_)))
  refine st (v := (.agg #[(Sl a10 o1 c11), (I 0)])) (rv_build (ps := [(0, (Sl a10 o1 c11))]) Try.underlying101 ti101 (bp101 Try.underlying101) rfl (by kernel_rfl)) ?_
  refine st_ex (ex_box (cs := [(Sl a10 o1 c11), (I 0)]) H hn0 rfl rfl) wn ?_
  rintro _ σ13 ⟨b12, rfl, H, -⟩
  refine sa (pt b12 0) rfl (w_end (q_then (c_ret ?_)))
  obtain rfl := sj h
  exact fin_ret (v := (pt b12 0)) (results_ok Try.results41 (res_tmp (v := (pt b12 0)) rfl res_nil) rfl) ⟨b12, a10, c11, rfl, rfl⟩ (H.sel' [0, 1] rfl rfl)

theorem c_spec_DrawAddEntry {Do : List UInt8} {Dq : Option Addr} {Dr : Nat} {r : ((List (Int × (Int × (List Int) × Int))) × (List Int)) × (Int × (Int × (List Int) × Int)) × Int} (h : M.spec_DrawAddEntry Do = some r) :
    Cal2 Try.prog 26 [(Sl Dq Do Dr)] [Ch.ro 0 (Sl Dq Do Dr) Do] (fun n0 v L => ∃ (az1 : Option Addr), ∃ (cz2 : Nat), ∃ (az3 : Option Addr), ∃ (cz4 : Nat), ∃ (az5 : Option Addr), ∃ (cz6 : Nat), v = (.tuple #[(.agg #[(Sl az1 r.1.1 cz2), (Sl az3 r.1.2 cz4)]), (.agg #[(I r.2.1.1), (I r.2.1.2.1), (Sl az5 r.2.1.2.2.1 cz6), (I r.2.1.2.2.2)]), (I r.2.2)]) ∧ L = [Ch.own n0 n0 (Sl az1 r.1.1 cz2) r.1.1, Ch.own n0 n0 (Sl az3 r.1.2 cz4) r.1.2, Ch.own n0 n0 (Sl az5 r.2.1.2.2.1 cz6) r.2.1.2.2.1]) := by
 refine cal2 (n := 32) Try.func26 rfl rfl rfl rfl ?_
 intro S0 σ0 n0 hn0 H
 unfold M.spec_DrawAddEntry at h
 refine c_seq (rg (st_ex (ex_alloc (cs := [(.slice none 0 0), (.slice none 0 0)]) H hn0 ti26 rfl) wn ?_))
 rintro _ σ2 ⟨b1, rfl, H, -⟩
 refine st_ex (ex_alloc (cs := [(I 0), (I 0), (.slice none 0 0), (I 0)]) H hn0 ti43 rfl) wn ?_
 rintro _ σ4 ⟨b3, rfl, H, -⟩
 refine sa (I 0) rfl (w_end (q_then (c_seq (rg (sm (Sl Dq Do Dr) rfl ?_)))))
 revert h; refine br fun r5 hx6 h => ?_
 have hc7 := c_spec_newReader (Dq := Dq) (Dr := Dr) hx6
 refine st_call (cx_call hc7 (ent_f hc7.fn rfl) hn0 (H.sel' [2, 0, 1, 2] rfl rfl : Hp S0 σ0 _ ([_] ++ _))) wn ?_
 rintro _ σ11 ⟨_, ⟨b8, a9, c10, rfl, rfl⟩, H, -⟩
 replace H : Hp _ _ _ [_, _, _, _, _] := H
 refine sa (pt b8 0) rfl (w_end (q_then (c_seq (rg (sm (pt b8 0) rfl ?_)))))
 revert h; refine br fun r12 hx13 h => ?_
 have hc14 := c_spec_anyHistory (Dc := n0) (Dd := b8) (De := 0) (Dg := []) (Dh := []) (Da := a9) (Db := c10) hx13
 refine st_call (cx_call hc14 (ent_f hc14.fn rfl) hn0 (H.sel' [0, 1, 1, 2, 3, 4] rfl rfl : Hp S0 σ0 _ ([_, _] ++ _))) wn ?_
 rintro _ σ21 ⟨_, ⟨a15, c16, a17, c18, a19, c20, rfl, rfl⟩, H, -⟩
 replace H : Hp _ _ _ [_, _, _, _, _, _, _, _] := H
 replace H : Hp S0 σ0 σ21 [Ch.own n0 n0 (Sl a15 r12.1.1 c16) r12.1.1, Ch.own n0 n0 (Sl a17 r12.1.2 c18) r12.1.2, Ch.bx n0 b8 0 [(Sl a19 r12.2.1 c20), (I r12.2.2)] [] [], Ch.ro 0 (Sl a19 r12.2.1 c20) r12.2.1, Ch.bx n0 b3 0 [(I 0), (I 0), (.slice none 0 0), (I 0)] [] [], Ch.bx n0 b1 0 [(.slice none 0 0), (.slice none 0 0)] [] []] := H.sel' [0, 1, 2, 3, 5, 6] rfl rfl
 refine st_ex (ex_alloc (cs := [(.slice none 0 0), (.slice none 0 0)]) H hn0 ti26 rfl) wn ?_
 rintro _ σ23 ⟨b22, rfl, H, -⟩
 refine st_exS (ex_store_box (k := 0) (cs := [(.slice none 0 0), (.slice none 0 0)]) (vs := [(Sl a15 r12.1.1 c16), (Sl a17 r12.1.2 c18)]) (cs' := [(Sl a15 r12.1.1 c16), (Sl a17 r12.1.2 c18)]) H (i := 0) rfl ti26 rfl rfl rfl rfl rfl (Nat.le_of_ble_eq_true rfl) (by simp [plain]) rfl) wn ?_
 rintro σ24 ⟨H, -⟩
 refine w_end (q_then (c_seq (rg (sa (I 7) rfl (w_end (q_then (c_seq (c_seq (rg (st (v := (pt b22 1)) (rv_fieldAddr (off := 1) (ft := 24) Try.underlying26 rfl ti24 rfl rfl) ?_))))))))))
 have hc25 := H.cell (u := (Sl a17 r12.1.2 c18)) (o' := 1) 0 1 rfl rfl rfl
 refine st (v := (Sl a17 r12.1.2 c18)) (rv_load1 Try.underlying24 rfl rfl hc25) (st (v := (I (r12.1.2.length : Int))) (rv_len Try.underlying24 rfl) (st (v := (B (decide (0 < (r12.1.2.length : Int))))) (rv_gtr (a := (r12.1.2.length : Int)) (b := 0) rfl rfl) (w_end (q_then ?_))))
 obtain ⟨o26, hj, h'⟩ := bind_some h
 clear h
 refine c_cut (fun e a w => e = .normal ∧ ∃ (ρ : Nat → Value) (σ : St) (aj1 : Option Addr) (cj2 : Nat), a = fr 32 (updL ρ [(2, (pt b1 0)), (3, (pt b3 0)), (5, (pt b8 0)), (6, (pt b22 0)), (7, (I o26.2))]) ∧ w = σ.w ∧ Hp S0 σ0 σ [Ch.bx n0 b8 0 [(Sl aj1 o26.1.1 cj2), (I o26.1.2)] [] [], Ch.ro 0 (Sl aj1 o26.1.1 cj2) o26.1.1, Ch.bx n0 b1 0 [(.slice none 0 0), (.slice none 0 0)] [] [], Ch.bx n0 b3 0 [(I 0), (I 0), (.slice none 0 0), (I 0)] [] [], Ch.own n0 n0 (Sl a15 r12.1.1 c16) r12.1.1, Ch.own n0 n0 (Sl a17 r12.1.2 c18) r12.1.2, Ch.bx n0 b22 0 [(Sl a15 r12.1.1 c16), (Sl a17 r12.1.2 c18)] [] []]) ?_ ?_
 ·clear h'
  rename _ = some o26 => h
  refine cd_cond (decide (0 < (r12.1.2.length : Int))) rfl (fun hb27 => ?_) (fun hb27 => ?_)
  ·replace h := bif_t hb27 h
   have hc28 := H.cell (u := (Sl a17 r12.1.2 c18)) (o' := 1) 0 1 rfl rfl rfl
   have hc29 := H.cell (u := (Sl a17 r12.1.2 c18)) (o' := 1) 0 1 rfl rfl rfl
   revert h; refine br fun x30 hx31 h => ?_
   obtain ⟨b33, o34, hi32, -⟩ := (H.own 2 rfl).ix hx31
   have hc35 := ((H.own 2 rfl).at hx31 hi32).int
   revert h; refine br fun r37 hx38 h => ?_
   have hc39 := fun (b36 : Nat) => c_spec_reader_one (Dc := n0) (Dd := b8) (De := 0) (Dg := []) (Dh := []) (Da := a19) (Db := c20) (Bk := (some ⟨b36, 0, none⟩)) (Bl := 4) hx38
   have Hs := H
   refine rg2 (σ := σ24) (Nm := (Nat) × (Option Addr) × (Nat)) 11 [9, 10] [[false, false], [true, false], [true, true]] [[(0, 0), (1, 1), (2, 2)], [(0, 0), (1, 1), (2, 2)], [(0, 0), (1, 1), (2, 2)], [(0, 0), (1, 1), (2, 2)], [(0, 0), (1, 1), (2, 2)], [(0, 0), (1, 1), (2, 2)], [(0, 0), (1, 1), (2, 2)], [(0, 0), (1, 1), (2, 2)], [(0, 0), (1, 1)], [(0, 1)], [(1, 2)]] 2 [fun ((b36, a40, c41) : (Nat) × (Option Addr) × (Nat)) => fun σm => Hp S0 σ0 σm [Ch.bx n0 b22 0 [(Sl a15 r12.1.1 c16), (Sl a17 r12.1.2 c18)] [] [], Ch.own n0 n0 (Sl a15 r12.1.1 c16) r12.1.1, Ch.own n0 n0 (Sl a17 r12.1.2 c18) r12.1.2, Ch.bx n0 b8 0 [(Sl a19 r12.2.1 c20), (I r12.2.2)] [] [], Ch.ro 0 (Sl a19 r12.2.1 c20) r12.2.1, Ch.bx n0 b3 0 [(I 0), (I 0), (.slice none 0 0), (I 0)] [] [], Ch.bx n0 b1 0 [(.slice none 0 0), (.slice none 0 0)] [] []] ∧ Md (cov []) σ24 σm, fun ((b36, a40, c41) : (Nat) × (Option Addr) × (Nat)) => fun σm => Hp S0 σ0 σm [Ch.ro 0 (Sl (some ⟨b36, 0, none⟩) ([0, 1, 20, -1] : List Int) 4) ([0, 1, 20, -1] : List Int), Ch.bx n0 b22 0 [(Sl a15 r12.1.1 c16), (Sl a17 r12.1.2 c18)] [] [], Ch.own n0 n0 (Sl a15 r12.1.1 c16) r12.1.1, Ch.own n0 n0 (Sl a17 r12.1.2 c18) r12.1.2, Ch.bx n0 b8 0 [(Sl a19 r12.2.1 c20), (I r12.2.2)] [] [], Ch.ro 0 (Sl a19 r12.2.1 c20) r12.2.1, Ch.bx n0 b3 0 [(I 0), (I 0), (.slice none 0 0), (I 0)] [] [], Ch.bx n0 b1 0 [(.slice none 0 0), (.slice none 0 0)] [] []] ∧ Md (fun i => (cov []) i ∨ (fun i => (cov []) i ∨ (fun b => blk (Sl (some ⟨b36, 0, none⟩) ([0, 1, 20, -1] : List Int) 4) = some b) i) i) σ24 σm, fun ((b36, a40, c41) : (Nat) × (Option Addr) × (Nat)) => fun σm => Hp S0 σ0 σm [Ch.bx n0 b8 0 [(Sl a40 r37.2.1 c41), (I r37.2.2)] [] [], Ch.ro 0 (Sl a40 r37.2.1 c41) r37.2.1, Ch.ro 0 (Sl (some ⟨b36, 0, none⟩) ([0, 1, 20, -1] : List Int) 4) ([0, 1, 20, -1] : List Int), Ch.bx n0 b22 0 [(Sl a15 r12.1.1 c16), (Sl a17 r12.1.2 c18)] [] [], Ch.own n0 n0 (Sl a15 r12.1.1 c16) r12.1.1, Ch.own n0 n0 (Sl a17 r12.1.2 c18) r12.1.2, Ch.ro 0 (Sl a19 r12.2.1 c20) r12.2.1, Ch.bx n0 b3 0 [(I 0), (I 0), (.slice none 0 0), (I 0)] [] [], Ch.bx n0 b1 0 [(.slice none 0 0), (.slice none 0 0)] [] []] ∧ Md (fun i => (fun i => (cov []) i ∨ (fun i => (cov []) i ∨ (fun b => blk (Sl (some ⟨b36, 0, none⟩) ([0, 1, 20, -1] : List Int) 4) = some b) i) i) i ∨ (cov [Ch.bx n0 b8 0 [(Sl a19 r12.2.1 c20), (I r12.2.2)] [] [], Ch.ro 0 (Sl a19 r12.2.1 c20) r12.2.1, Ch.ro 0 (Sl (some ⟨b36, 0, none⟩) ([0, 1, 20, -1] : List Int) 4) ([0, 1, 20, -1] : List Int)]) i) σ24 σm] [fun ((b36, a40, c41) : (Nat) × (Option Addr) × (Nat)) => (pt b22 1), fun ((b36, a40, c41) : (Nat) × (Option Addr) × (Nat)) => (Sl a17 r12.1.2 c18), fun ((b36, a40, c41) : (Nat) × (Option Addr) × (Nat)) => (pt b22 1), fun ((b36, a40, c41) : (Nat) × (Option Addr) × (Nat)) => (Sl a17 r12.1.2 c18), fun ((b36, a40, c41) : (Nat) × (Option Addr) × (Nat)) => (I (r12.1.2.length : Int)), fun ((b36, a40, c41) : (Nat) × (Option Addr) × (Nat)) => (I (w64 ((r12.1.2.length : Int) - 1))), fun ((b36, a40, c41) : (Nat) × (Option Addr) × (Nat)) => (pt b33 o34), fun ((b36, a40, c41) : (Nat) × (Option Addr) × (Nat)) => (I x30), fun ((b36, a40, c41) : (Nat) × (Option Addr) × (Nat)) => (pt b8 0), fun ((b36, a40, c41) : (Nat) × (Option Addr) × (Nat)) => (Sl (some ⟨b36, 0, none⟩) ([0, 1, 20, -1] : List Int) 4), fun ((b36, a40, c41) : (Nat) × (Option Addr) × (Nat)) => (I r37.1)] (0, none, 0) (by kernel_rfl) (by kernel_rfl) ?_ ?_ ?_
   ·intro σm m0
    exact ⟨H.grow (m0.mono fun _ h => h.elim), m0⟩
   ·refine ac rfl (by
      intro k; rintro ⟨b36, a40, c41⟩ ρ σm hJ hoff hdep
      have e6 := look_off (N := 32) (hoff 6 rfl) rfl
      exact dp_v (v := (pt b22 1)) wn (rv_fieldAddr (off := 1) (ft := 24) Try.underlying26 rfl ti24 rfl e6) rfl hJ) ?_
    refine all_cons (by
      refine ⟨?_, ?_⟩
      ·rintro ⟨b36, a40, c41⟩ ρ σm hJ hoff hdep
       have e16 := hdep 0 rfl rfl 16 rfl
       obtain ⟨H, m⟩ := id hJ
       have hc28 := H.cell (u := (Sl a17 r12.1.2 c18)) (o' := 1) 0 1 rfl rfl rfl
       exact dp_v (v := (Sl a17 r12.1.2 c18)) wn (rv_load1 Try.underlying24 rfl e16 hc28) rfl hJ
      refine ⟨?_, ?_⟩
      ·rintro ⟨b36, a40, c41⟩ ρ σm hJ hoff hdep
       have e16 := hdep 0 rfl rfl 16 rfl
       obtain ⟨H, m⟩ := id hJ
       have hc28 := H.cell (u := (Sl a17 r12.1.2 c18)) (o' := 1) 1 1 rfl rfl rfl
       exact dp_v (v := (Sl a17 r12.1.2 c18)) wn (rv_load1 Try.underlying24 rfl e16 hc28) rfl hJ
      refine ⟨?_, ?_⟩
      ·rintro ⟨b36, a40, c41⟩ ρ σm hJ hoff hdep
       have e16 := hdep 0 rfl rfl 16 rfl
       obtain ⟨H, m⟩ := id hJ
       have hc28 := H.cell (u := (Sl a17 r12.1.2 c18)) (o' := 1) 3 1 rfl rfl rfl
       exact dp_v (v := (Sl a17 r12.1.2 c18)) wn (rv_load1 Try.underlying24 rfl e16 hc28) rfl hJ
      trivial) ?_
    refine ac rfl (by
      intro k; rintro ⟨b36, a40, c41⟩ ρ σm hJ hoff hdep
      have e6 := look_off (N := 32) (hoff 6 rfl) rfl
      exact dp_v (v := (pt b22 1)) wn (rv_fieldAddr (off := 1) (ft := 24) Try.underlying26 rfl ti24 rfl e6) rfl hJ) ?_
    refine all_cons (by
      refine ⟨?_, ?_⟩
      ·rintro ⟨b36, a40, c41⟩ ρ σm hJ hoff hdep
       have e18 := hdep 2 rfl rfl 18 rfl
       obtain ⟨H, m⟩ := id hJ
       have hc29 := H.cell (u := (Sl a17 r12.1.2 c18)) (o' := 1) 0 1 rfl rfl rfl
       exact dp_v (v := (Sl a17 r12.1.2 c18)) wn (rv_load1 Try.underlying24 rfl e18 hc29) rfl hJ
      refine ⟨?_, ?_⟩
      ·rintro ⟨b36, a40, c41⟩ ρ σm hJ hoff hdep
       have e18 := hdep 2 rfl rfl 18 rfl
       obtain ⟨H, m⟩ := id hJ
       have hc29 := H.cell (u := (Sl a17 r12.1.2 c18)) (o' := 1) 1 1 rfl rfl rfl
       exact dp_v (v := (Sl a17 r12.1.2 c18)) wn (rv_load1 Try.underlying24 rfl e18 hc29) rfl hJ
      refine ⟨?_, ?_⟩
      ·rintro ⟨b36, a40, c41⟩ ρ σm hJ hoff hdep
       have e18 := hdep 2 rfl rfl 18 rfl
       obtain ⟨H, m⟩ := id hJ
       have hc29 := H.cell (u := (Sl a17 r12.1.2 c18)) (o' := 1) 3 1 rfl rfl rfl
       exact dp_v (v := (Sl a17 r12.1.2 c18)) wn (rv_load1 Try.underlying24 rfl e18 hc29) rfl hJ
      trivial) ?_
    refine ac rfl (by
      intro k; rintro ⟨b36, a40, c41⟩ ρ σm hJ hoff hdep
      have e19 := hdep 3 rfl rfl 19 rfl
      exact dp_v (v := (I (r12.1.2.length : Int))) wn (rv_len Try.underlying24 e19) rfl hJ) ?_
    refine ac rfl (by
      intro k; rintro ⟨b36, a40, c41⟩ ρ σm hJ hoff hdep
      have e20 := hdep 4 rfl rfl 20 rfl
      exact dp_v (v := (I (w64 ((r12.1.2.length : Int) - 1)))) wn (rv_sub (a := (r12.1.2.length : Int)) (b := 1) e20 rfl) rfl hJ) ?_
    refine ac rfl (by
      intro k; rintro ⟨b36, a40, c41⟩ ρ σm hJ hoff hdep
      have e17 := hdep 1 rfl rfl 17 rfl
      have e21 := hdep 5 rfl rfl 21 rfl
      exact dp_v (v := (pt b33 o34)) wn (rv_ix Try.underlying24 ti3 e17 e21 hi32) rfl hJ) ?_
    refine all_cons (by
      refine ⟨?_, ?_⟩
      ·rintro ⟨b36, a40, c41⟩ ρ σm hJ hoff hdep
       have e22 := hdep 6 rfl rfl 22 rfl
       obtain ⟨H, m⟩ := id hJ
       have hc35 := ((H.own 2 rfl).at hx31 hi32).int
       exact dp_v (v := (I x30)) wn (rv_load1 Try.underlying3 rfl e22 hc35) rfl hJ
      refine ⟨?_, ?_⟩
      ·rintro ⟨b36, a40, c41⟩ ρ σm hJ hoff hdep
       have e22 := hdep 6 rfl rfl 22 rfl
       obtain ⟨H, m⟩ := id hJ
       have hc35 := ((H.own 3 rfl).at hx31 hi32).int
       exact dp_v (v := (I x30)) wn (rv_load1 Try.underlying3 rfl e22 hc35) rfl hJ
      refine ⟨?_, ?_⟩
      ·rintro ⟨b36, a40, c41⟩ ρ σm hJ hoff hdep
       have e22 := hdep 6 rfl rfl 22 rfl
       obtain ⟨H, m⟩ := id hJ
       have hc35 := ((H.own 5 rfl).at hx31 hi32).int
       exact dp_v (v := (I x30)) wn (rv_load1 Try.underlying3 rfl e22 hc35) rfl hJ
      trivial) ?_
    refine ac rfl (by
      intro k; rintro ⟨b36, a40, c41⟩ ρ σm hJ hoff hdep
      have e5 := look_off (N := 32) (hoff 5 rfl) rfl
      exact dp_v (v := (pt b8 0)) wn (rv_move e5) rfl hJ) ?_
    refine all_cons (by
      refine ⟨?_, ?_⟩
      ·rintro ⟨b36, a40, c41⟩ ρ σm hJ hoff hdep
       obtain ⟨H, m⟩ := id hJ
       refine dp_ex wn (ex_buildSlice (el := 0) (xs := ([0, 1, 20, -1] : List Int)) (ps := [(0, (I 0)), (1, (I 1)), (2, (I 20)), (3, (I (-1)))]) (cs := [(I 0), (I 1), (I 20), (I (-1))]) H hn0 Try.underlying24 ti3 rfl rfl (by kernel_rfl) (.cons (c := [(I 0)]) rfl (.cons (c := [(I 1)]) rfl (.cons (c := [(I 20)]) rfl (.cons (c := [(I (-1))]) rfl (.nil))))) rfl) ?_
       rintro _ σq ⟨b36x, rfl, H2, m2⟩
       obtain ⟨σr0, hwr0, H2, mr0⟩ := H2.pub 0 rfl (Nat.zero_le _)
       exact ⟨_, (b36x, a40, c41), hwr0, rfl, ⟨H2.sel' [0, 1, 2, 3, 4, 5, 6, 7] rfl rfl, m.comp (m2.comp mr0)⟩, stab [0, 1, 2, 3, 4, 5, 6, 7, 8] (by kernel_rfl) ⟨rfl, rfl, rfl, rfl, rfl, rfl, rfl, rfl, rfl, trivial⟩⟩
      trivial) ?_
    refine all_cons (by
      refine ⟨?_, ?_⟩
      ·rintro ⟨b36, a40, c41⟩ ρ σm hJ hoff hdep
       have e24 : look 32 ρ 24 = (pt b8 0) := hdep 8 rfl rfl 24 rfl
       have e25 : look 32 ρ 25 = (Sl (some ⟨b36, 0, none⟩) ([0, 1, 20, -1] : List Int) 4) := hdep 9 rfl rfl 25 rfl
       obtain ⟨H, m⟩ := id hJ
       refine dp_cx wn (cx_call (hc39 b36) (ent_f (hc39 b36).fn (by show [look 32 ρ 24, look 32 ρ 25] = _; rw [e24, e25])) hn0 (H.sel' [4, 5, 0, 0, 1, 2, 3, 5, 6, 7] rfl rfl : Hp S0 σ0 _ ([_, _, _] ++ _))) ?_
       rintro _ σq ⟨_, ⟨a40x, c41x, rfl, rfl⟩, H2, m2⟩
       exact ⟨_, (b36, a40x, c41x), rfl, rfl, ⟨H2.sel' [0, 1, 2, 3, 4, 5, 6, 7, 8] rfl rfl, m.comp m2⟩, stab [0, 1, 2, 3, 4, 5, 6, 7, 8, 9] (by kernel_rfl) ⟨rfl, rfl, rfl, rfl, rfl, rfl, rfl, rfl, rfl, rfl, trivial⟩⟩
      trivial) ?_
    exact all_nil
   ·rintro ⟨b36, a40, c41⟩ ρ σ42 hJ hoff hrel
    have e2 := look_off (N := 32) (hoff 2 rfl) rfl
    have e3 := look_off (N := 32) (hoff 3 rfl) rfl
    have e5 := look_off (N := 32) (hoff 5 rfl) rfl
    have e6 := look_off (N := 32) (hoff 6 rfl) rfl
    have e23 := hrel 7 rfl 23 rfl
    have e26 := hrel 10 rfl 26 rfl
    obtain ⟨H, -⟩ := (show Hp S0 σ0 σ42 [Ch.bx n0 b8 0 [(Sl a40 r37.2.1 c41), (I r37.2.2)] [] [], Ch.ro 0 (Sl a40 r37.2.1 c41) r37.2.1, Ch.ro 0 (Sl (some ⟨b36, 0, none⟩) ([0, 1, 20, -1] : List Int) 4) ([0, 1, 20, -1] : List Int), Ch.bx n0 b22 0 [(Sl a15 r12.1.1 c16), (Sl a17 r12.1.2 c18)] [] [], Ch.own n0 n0 (Sl a15 r12.1.1 c16) r12.1.1, Ch.own n0 n0 (Sl a17 r12.1.2 c18) r12.1.2, Ch.ro 0 (Sl a19 r12.2.1 c20) r12.2.1, Ch.bx n0 b3 0 [(I 0), (I 0), (.slice none 0 0), (I 0)] [] [], Ch.bx n0 b1 0 [(.slice none 0 0), (.slice none 0 0)] [] []] ∧ Md (fun i => (fun i => (cov []) i ∨ (fun i => (cov []) i ∨ (fun b => blk (Sl (some ⟨b36, 0, none⟩) ([0, 1, 20, -1] : List Int) 4) = some b) i) i) i ∨ (cov [Ch.bx n0 b8 0 [(Sl a19 r12.2.1 c20), (I r12.2.2)] [] [], Ch.ro 0 (Sl a19 r12.2.1 c20) r12.2.1, Ch.ro 0 (Sl (some ⟨b36, 0, none⟩) ([0, 1, 20, -1] : List Int) 4) ([0, 1, 20, -1] : List Int)]) i) σ24 σ42 from hJ)
    clear hJ Hs
    rw [fr_lookL (L := [(2, (pt b1 0)), (3, (pt b3 0)), (5, (pt b8 0)), (6, (pt b22 0)), (23, (I x30)), (26, (I r37.1))]) ⟨e2, e3, e5, e6, e23, e26, trivial⟩]
    clear hoff hrel e2 e3 e5 e6 e23 e26
    refine st (v := (I (w64 (x30 + r37.1)))) (rv_add (a := x30) (b := r37.1) rfl rfl) (sa (I (w64 (x30 + r37.1))) rfl (w_end ?_))
    obtain rfl := sj h
    exact ⟨rfl, _, σ42, a40, c41, fr_join ⟨rfl, rfl, rfl, rfl, rfl, trivial⟩, rfl, H.sel' [0, 1, 8, 7, 4, 5, 3] rfl rfl⟩
  ·replace h := bif_f hb27 h
   refine c_skip ?_
   obtain rfl := sj h
   exact ⟨rfl, _, σ24, a19, c20, fr_join ⟨rfl, rfl, rfl, rfl, rfl, trivial⟩, rfl, H.sel' [3, 4, 6, 5, 1, 2, 0] rfl rfl⟩
 ·clear hj
  have h := h'
  clear h' H
  rintro e a w ⟨rfl, ρ, σ43, a44, c45, rfl, rfl, H⟩
  refine q_then (c_seq ?_)
  have hc46 := H.cells 6 rfl
  revert h; refine br fun r47 hx48 h => ?_
  have hc49 := c_spec_anyEntry (Dc := n0) (Dd := b8) (De := 0) (Dg := []) (Dh := []) (Da := a44) (Db := c45) hx48
  have Hs := H
  refine rg2 (σ := σ43) (Nm := (Option Addr) × (Nat) × (Option Addr) × (Nat)) 6 [2, 4, 5] [[false, false, false], [true, false, false], [true, true, false], [true, true, true]] [[(0, 0), (1, 1)], [(0, 0)], [(0, 1)], [(0, 0), (1, 1), (2, 2), (3, 3)], [(1, 2)], [(2, 3)]] 3 [fun ((a50, c51, a52, c53) : (Option Addr) × (Nat) × (Option Addr) × (Nat)) => fun σm => Hp S0 σ0 σm [Ch.bx n0 b8 0 [(Sl a44 o26.1.1 c45), (I o26.1.2)] [] [], Ch.ro 0 (Sl a44 o26.1.1 c45) o26.1.1, Ch.bx n0 b1 0 [(.slice none 0 0), (.slice none 0 0)] [] [], Ch.bx n0 b3 0 [(I 0), (I 0), (.slice none 0 0), (I 0)] [] [], Ch.own n0 n0 (Sl a15 r12.1.1 c16) r12.1.1, Ch.own n0 n0 (Sl a17 r12.1.2 c18) r12.1.2, Ch.bx n0 b22 0 [(Sl a15 r12.1.1 c16), (Sl a17 r12.1.2 c18)] [] []] ∧ Md (cov []) σ43 σm, fun ((a50, c51, a52, c53) : (Option Addr) × (Nat) × (Option Addr) × (Nat)) => fun σm => Hp S0 σ0 σm [Ch.own n0 n0 (Sl a50 r47.1.2.2.1 c51) r47.1.2.2.1, Ch.bx n0 b8 0 [(Sl a52 r47.2.1 c53), (I r47.2.2)] [] [], Ch.ro 0 (Sl a52 r47.2.1 c53) r47.2.1, Ch.ro 0 (Sl a44 o26.1.1 c45) o26.1.1, Ch.bx n0 b1 0 [(.slice none 0 0), (.slice none 0 0)] [] [], Ch.bx n0 b3 0 [(I 0), (I 0), (.slice none 0 0), (I 0)] [] [], Ch.own n0 n0 (Sl a15 r12.1.1 c16) r12.1.1, Ch.own n0 n0 (Sl a17 r12.1.2 c18) r12.1.2, Ch.bx n0 b22 0 [(Sl a15 r12.1.1 c16), (Sl a17 r12.1.2 c18)] [] []] ∧ Md (fun i => (cov []) i ∨ (cov [Ch.bx n0 b8 0 [(Sl a44 o26.1.1 c45), (I o26.1.2)] [] [], Ch.ro 0 (Sl a44 o26.1.1 c45) o26.1.1]) i) σ43 σm, fun ((a50, c51, a52, c53) : (Option Addr) × (Nat) × (Option Addr) × (Nat)) => fun σm => Hp S0 σ0 σm [Ch.bx n0 b1 0 [(Sl a15 r12.1.1 c16), (Sl a17 r12.1.2 c18)] [] [], Ch.own n0 n0 (Sl a50 r47.1.2.2.1 c51) r47.1.2.2.1, Ch.bx n0 b8 0 [(Sl a52 r47.2.1 c53), (I r47.2.2)] [] [], Ch.ro 0 (Sl a52 r47.2.1 c53) r47.2.1, Ch.ro 0 (Sl a44 o26.1.1 c45) o26.1.1, Ch.bx n0 b3 0 [(I 0), (I 0), (.slice none 0 0), (I 0)] [] [], Ch.own n0 n0 (Sl a15 r12.1.1 c16) r12.1.1, Ch.own n0 n0 (Sl a17 r12.1.2 c18) r12.1.2, Ch.bx n0 b22 0 [(Sl a15 r12.1.1 c16), (Sl a17 r12.1.2 c18)] [] []] ∧ Md (fun i => (fun i => (cov []) i ∨ (cov [Ch.bx n0 b8 0 [(Sl a44 o26.1.1 c45), (I o26.1.2)] [] [], Ch.ro 0 (Sl a44 o26.1.1 c45) o26.1.1]) i) i ∨ (fun i => i = b1) i) σ43 σm, fun ((a50, c51, a52, c53) : (Option Addr) × (Nat) × (Option Addr) × (Nat)) => fun σm => Hp S0 σ0 σm [Ch.bx n0 b3 0 [(I r47.1.1), (I r47.1.2.1), (Sl a50 r47.1.2.2.1 c51), (I r47.1.2.2.2)] [] [], Ch.bx n0 b1 0 [(Sl a15 r12.1.1 c16), (Sl a17 r12.1.2 c18)] [] [], Ch.own n0 n0 (Sl a50 r47.1.2.2.1 c51) r47.1.2.2.1, Ch.bx n0 b8 0 [(Sl a52 r47.2.1 c53), (I r47.2.2)] [] [], Ch.ro 0 (Sl a52 r47.2.1 c53) r47.2.1, Ch.ro 0 (Sl a44 o26.1.1 c45) o26.1.1, Ch.own n0 n0 (Sl a15 r12.1.1 c16) r12.1.1, Ch.own n0 n0 (Sl a17 r12.1.2 c18) r12.1.2, Ch.bx n0 b22 0 [(Sl a15 r12.1.1 c16), (Sl a17 r12.1.2 c18)] [] []] ∧ Md (fun i => (fun i => (fun i => (cov []) i ∨ (cov [Ch.bx n0 b8 0 [(Sl a44 o26.1.1 c45), (I o26.1.2)] [] [], Ch.ro 0 (Sl a44 o26.1.1 c45) o26.1.1]) i) i ∨ (fun i => i = b1) i) i ∨ (fun i => i = b3) i) σ43 σm] [fun ((a50, c51, a52, c53) : (Option Addr) × (Nat) × (Option Addr) × (Nat)) => (.agg #[(Sl a15 r12.1.1 c16), (Sl a17 r12.1.2 c18)]), fun ((a50, c51, a52, c53) : (Option Addr) × (Nat) × (Option Addr) × (Nat)) => (pt b8 0), fun ((a50, c51, a52, c53) : (Option Addr) × (Nat) × (Option Addr) × (Nat)) => (.agg #[(I r47.1.1), (I r47.1.2.1), (Sl a50 r47.1.2.2.1 c51), (I r47.1.2.2.2)]), fun ((a50, c51, a52, c53) : (Option Addr) × (Nat) × (Option Addr) × (Nat)) => (I o26.2), fun ((a50, c51, a52, c53) : (Option Addr) × (Nat) × (Option Addr) × (Nat)) => undef, fun ((a50, c51, a52, c53) : (Option Addr) × (Nat) × (Option Addr) × (Nat)) => undef] (none, 0, none, 0) (by kernel_rfl) (by kernel_rfl) ?_ ?_ ?_
  ·intro σm m0
   exact ⟨H.grow (m0.mono fun _ h => h.elim), m0⟩
  ·refine all_cons (by
     refine ⟨?_, ?_⟩
     ·rintro ⟨a50, c51, a52, c53⟩ ρ σm hJ hoff hdep
      have e6 := look_off (N := 32) (hoff 6 rfl) rfl
      obtain ⟨H, m⟩ := id hJ
      have hc46 := H.cells 6 rfl
      exact dp_v (v := (.agg #[(Sl a15 r12.1.1 c16), (Sl a17 r12.1.2 c18)])) wn (rv_load (cs := [(Sl a15 r12.1.1 c16), (Sl a17 r12.1.2 c18)]) Try.underlying26 rfl ti26 e6 rfl hc46) rfl hJ
     refine ⟨?_, ?_⟩
     ·rintro ⟨a50, c51, a52, c53⟩ ρ σm hJ hoff hdep
      have e6 := look_off (N := 32) (hoff 6 rfl) rfl
      obtain ⟨H, m⟩ := id hJ
      have hc46 := H.cells 8 rfl
      exact dp_v (v := (.agg #[(Sl a15 r12.1.1 c16), (Sl a17 r12.1.2 c18)])) wn (rv_load (cs := [(Sl a15 r12.1.1 c16), (Sl a17 r12.1.2 c18)]) Try.underlying26 rfl ti26 e6 rfl hc46) rfl hJ
     trivial) ?_
   refine ac rfl (by
     intro k; rintro ⟨a50, c51, a52, c53⟩ ρ σm hJ hoff hdep
     have e5 := look_off (N := 32) (hoff 5 rfl) rfl
     exact dp_v (v := (pt b8 0)) wn (rv_move e5) rfl hJ) ?_
   refine all_cons (by
     refine ⟨?_, ?_⟩
     ·rintro ⟨a50, c51, a52, c53⟩ ρ σm hJ hoff hdep
      have e29 : look 32 ρ 29 = (pt b8 0) := hdep 1 rfl rfl 29 rfl
      obtain ⟨H, m⟩ := id hJ
      refine dp_cx wn (cx_call hc49 (ent_f hc49.fn (by show [look 32 ρ 29] = _; rw [e29])) hn0 (H.sel' [0, 1, 1, 2, 3, 4, 5, 6] rfl rfl : Hp S0 σ0 _ ([_, _] ++ _))) ?_
      rintro _ σq ⟨_, ⟨a50x, c51x, a52x, c53x, rfl, rfl⟩, H2, m2⟩
      exact ⟨_, (a50x, c51x, a52x, c53x), rfl, rfl, ⟨H2.sel' [0, 1, 2, 3, 4, 5, 6, 7, 8] rfl rfl, m.comp m2⟩, stab [0, 1, 3] (by kernel_rfl) ⟨rfl, rfl, rfl, trivial⟩⟩
     trivial) ?_
   refine ac rfl (by
     intro k; rintro ⟨a50, c51, a52, c53⟩ ρ σm hJ hoff hdep
     have e7 := look_off (N := 32) (hoff 7 rfl) rfl
     exact dp_v (v := (I o26.2)) wn (rv_move e7) rfl hJ) ?_
   refine all_cons (by
     refine ⟨?_, ?_⟩
     ·rintro ⟨a50, c51, a52, c53⟩ ρ σm hJ hoff hdep
      have e2 := look_off (N := 32) (hoff 2 rfl) rfl
      have e28 := hdep 0 rfl rfl 28 rfl
      obtain ⟨H, m⟩ := id hJ
      refine dp_exS wn rfl (ex_store_box (k := 0) (cs := [(.slice none 0 0), (.slice none 0 0)]) (vs := [(Sl a15 r12.1.1 c16), (Sl a17 r12.1.2 c18)]) (cs' := [(Sl a15 r12.1.1 c16), (Sl a17 r12.1.2 c18)]) H (i := 4) rfl ti26 e2 rfl e28 rfl rfl (Nat.le_of_ble_eq_true rfl) (by simp [plain]) rfl) ?_
      rintro σq ⟨H2, m2⟩
      exact ⟨_, (a50, c51, a52, c53), rfl, ⟨H2.sel' [0, 1, 2, 3, 4, 5, 6, 7, 8] rfl rfl, m.comp m2⟩, stab [0, 1, 2, 3] (by kernel_rfl) ⟨rfl, rfl, rfl, rfl, trivial⟩⟩
     trivial) ?_
   refine all_cons (by
     refine ⟨?_, ?_⟩
     ·rintro ⟨a50, c51, a52, c53⟩ ρ σm hJ hoff hdep
      have e3 := look_off (N := 32) (hoff 3 rfl) rfl
      have e30 := hdep 2 rfl rfl 30 rfl
      obtain ⟨H, m⟩ := id hJ
      refine dp_exS wn rfl (ex_store_box (k := 0) (cs := [(I 0), (I 0), (.slice none 0 0), (I 0)]) (vs := [(I r47.1.1), (I r47.1.2.1), (Sl a50 r47.1.2.2.1 c51), (I r47.1.2.2.2)]) (cs' := [(I r47.1.1), (I r47.1.2.1), (Sl a50 r47.1.2.2.1 c51), (I r47.1.2.2.2)]) H (i := 5) rfl ti43 e3 rfl e30 rfl rfl (Nat.le_of_ble_eq_true rfl) (by simp [plain]) rfl) ?_
      rintro σq ⟨H2, m2⟩
      exact ⟨_, (a50, c51, a52, c53), rfl, ⟨H2.sel' [0, 1, 2, 3, 4, 5, 6, 7, 8] rfl rfl, m.comp m2⟩, stab [0, 1, 2, 3, 4] (by kernel_rfl) ⟨rfl, rfl, rfl, rfl, rfl, trivial⟩⟩
     trivial) ?_
   exact all_nil
  ·rintro ⟨a50, c51, a52, c53⟩ ρ σ54 hJ hoff hrel
   have e2 := look_off (N := 32) (hoff 2 rfl) rfl
   have e3 := look_off (N := 32) (hoff 3 rfl) rfl
   have e31 := hrel 3 rfl 31 rfl
   obtain ⟨H, -⟩ := (show Hp S0 σ0 σ54 [Ch.bx n0 b3 0 [(I r47.1.1), (I r47.1.2.1), (Sl a50 r47.1.2.2.1 c51), (I r47.1.2.2.2)] [] [], Ch.bx n0 b1 0 [(Sl a15 r12.1.1 c16), (Sl a17 r12.1.2 c18)] [] [], Ch.own n0 n0 (Sl a50 r47.1.2.2.1 c51) r47.1.2.2.1, Ch.bx n0 b8 0 [(Sl a52 r47.2.1 c53), (I r47.2.2)] [] [], Ch.ro 0 (Sl a52 r47.2.1 c53) r47.2.1, Ch.ro 0 (Sl a44 o26.1.1 c45) o26.1.1, Ch.own n0 n0 (Sl a15 r12.1.1 c16) r12.1.1, Ch.own n0 n0 (Sl a17 r12.1.2 c18) r12.1.2, Ch.bx n0 b22 0 [(Sl a15 r12.1.1 c16), (Sl a17 r12.1.2 c18)] [] []] ∧ Md (fun i => (fun i => (fun i => (cov []) i ∨ (cov [Ch.bx n0 b8 0 [(Sl a44 o26.1.1 c45), (I o26.1.2)] [] [], Ch.ro 0 (Sl a44 o26.1.1 c45) o26.1.1]) i) i ∨ (fun i => i = b1) i) i ∨ (fun i => i = b3) i) σ43 σ54 from hJ)
   clear hJ Hs
   rw [fr_lookL (L := [(2, (pt b1 0)), (3, (pt b3 0)), (31, (I o26.2))]) ⟨e2, e3, e31, trivial⟩]
   clear hoff hrel e2 e3 e31
   refine sa (I o26.2) rfl (w_end (q_then (c_ret ?_)))
   obtain rfl := sj h
   exact fin_ret (v := (.tuple #[(.agg #[(Sl a15 r12.1.1 c16), (Sl a17 r12.1.2 c18)]), (.agg #[(I r47.1.1), (I r47.1.2.1), (Sl a50 r47.1.2.2.1 c51), (I r47.1.2.2.2)]), (I o26.2)])) (results_ok Try.results26 (res_cell rfl (run_cellRes (cs := [(Sl a15 r12.1.1 c16), (Sl a17 r12.1.2 c18)]) Try.underlying26 rfl ti26 rfl (H.cells 1 rfl)) (res_cell rfl (run_cellRes (cs := [(I r47.1.1), (I r47.1.2.1), (Sl a50 r47.1.2.2.1 c51), (I r47.1.2.2.2)]) Try.underlying43 rfl ti43 rfl (H.cells 0 rfl)) (res_tmp (v := (I o26.2)) rfl res_nil))) rfl) ⟨a15, c16, a17, c18, a50, c51, rfl, rfl⟩ (H.sel' [6, 7, 2] rfl rfl)

end Go.Vs
